import Derived.Test.YtaebngpoagjafabGreatV23
set_option maxRecDepth 100000
namespace Go.Proofs.YtaebngpoagjafabGreat
def yI:Nat->Int
 | 0=>1
 | n+1=>yI n*256
structure RW where
 addr:Int
 draw:Int
 dn:Nat->Bool
 al:List (List Int)
 reg:Int
 dep:Int
structure RD where
 p:Nat
 b:Bool
def nxV (C:List Int) (r:RD):Int:=(C[r.p]?).getD 0
def nx (C:List Int) (r:RD):RD:=if r.p<C.length then ⟨r.p+1,r.b⟩ else ⟨r.p,true⟩
def Zc (C:List Int) (r:RD):Nat->RD
 | 0=>r
 | i+1=>nx C (Zc C r i)
def rdN (C:List Int) (r:RD):Nat->Int
 | 0=>0
 | i+1=>rdN C r i+nxV C (Zc C r i)*yI i
def num (C:List Int) (r:RD) (k:Nat) (lo hi:Int):RD:=⟨(Zc C r k).p,if rdN C r k<lo\/hi<rdN C r k then true else (Zc C r k).b⟩
def svR (C:List Int) (r:RD):Nat->RD
 | 0=>r
 | i+1=>num C (svR C r i) 1 0 63
def svL (C:List Int) (r:RD):Nat->List Int
 | 0=>[]
 | i+1=>svL C r i++[rdN C (svR C r i) 1]
def upW (W:RW) (s:Int):Bool:=decide (0<=s) && (decide (s<64) && !W.dn s.toNat)
def meR (C:List Int) (r:RD):Nat->RD
 | 0=>r
 | i+1=>num C (num C (meR C r i) 1 0 63) 2 1 1000
def meS (C:List Int) (r:RD) (i:Nat):Int:=rdN C (meR C r i) 1
def meW (C:List Int) (r:RD) (i:Nat):Int:=rdN C (num C (meR C r i) 1 0 63) 2
def meL (W:RW) (C:List Int) (r:RD):Nat->List (Int×Int)
 | 0=>[]
 | i+1=>if upW W (meS C r i)=true then meL W C r i++[(meS C r i,meW C r i)] else meL W C r i
def suL:List (Int×Int)->Int
 | []=>0
 | x::l=>x.2+suL l
def pkL:List (Int×Int)->Int->Option Int
 | [],_=>none
 | x::l,r=>if r<x.2 then some x.1 else pkL l (r-x.2)
def chG (W:RW) (C:List Int) (r:RD):Nat->Nat->Option Nat
 | _,0=>none
 | i,n+1=>if upW W (rdN C (svR C r i) 1)=true then some i else chG W C r (i+1) n
def amV (C:List Int) (r:RD):RD:=num C r 4 0 4294967295
def amL (C:List Int) (r:RD):RD:=⟨(num C (amV C r) 1 0 32).p,if M.isP (rdN C r 4) (rdN C (amV C r) 1)=true then (num C (amV C r) 1 0 32).b else true⟩
def amR (C:List Int) (r:RD):Nat->RD
 | 0=>r
 | i+1=>num C (amL C (amR C r i)) 2 0 32000
def arV (C:List Int) (r:RD) (i:Nat):Int:=rdN C (amR C r i) 4
def arL (C:List Int) (r:RD) (i:Nat):Int:=rdN C (amV C (amR C r i)) 1
def arW (C:List Int) (r:RD) (i:Nat):Int:=rdN C (amL C (amR C r i)) 2
def rgR (C:List Int) (r:RD):Nat->RD
 | 0=>r
 | i+1=>num C (num C (rgR C r i) 1 0 99) 2 0 32000
def rgN (C:List Int) (r:RD) (i:Nat):Int:=rdN C (rgR C r i) 1
def rgW (C:List Int) (r:RD) (i:Nat):Int:=rdN C (num C (rgR C r i) 1 0 99) 2
def rgT (W:RW) (C:List Int) (r:RD):Nat->Int
 | 0=>0
 | i+1=>if rgN C r i=W.reg then rgW C r i else rgT W C r i
structure RT where
 r:RD
 sv:List Int
 ttl:Int
 sc:Int
def cnR (C:List Int) (r:RD):RD:=num C r 1 1 16
def cnN (C:List Int) (r:RD):Nat:=(rdN C r 1).toNat
def nar (d sc:Int):Int:=if sc<d then d else sc
def Zn (C:List Int) (s:RT):RT:=⟨svR C (cnR C s.r) (cnN C s.r),s.sv++svL C (cnR C s.r) (cnN C s.r),s.ttl,s.sc⟩
def Zf (W:RW) (C:List Int) (s:RT):RT×Bool :=
 if suL (meL W C (cnR C s.r) (cnN C s.r))<=0 then (⟨meR C (cnR C s.r) (cnN C s.r),s.sv,s.ttl,s.sc⟩,false)
 else match pkL (meL W C (cnR C s.r) (cnN C s.r)) (W.draw%suL (meL W C (cnR C s.r) (cnN C s.r))) with
  | some x=>(⟨meR C (cnR C s.r) (cnN C s.r),s.sv++[x],s.ttl,s.sc⟩,true)
  | none=>(⟨meR C (cnR C s.r) (cnN C s.r),s.sv,s.ttl,s.sc⟩,false)
def yG (W:RW) (C:List Int) (s:RT):RT×Bool :=
 match chG W C (cnR C s.r) 0 (cnN C s.r) with
 | some i=>(⟨svR C (cnR C s.r) (i+1),s.sv++[rdN C (svR C (cnR C s.r) i) 1],s.ttl,s.sc⟩,true)
 | none=>(⟨svR C (cnR C s.r) (cnN C s.r),s.sv,s.ttl,s.sc⟩,false)
def yp (W:RW) (C:List Int) (s:RT):RT :=
 ⟨⟨(amR C (cnR C s.r) (cnN C s.r)).p+(if M.bestTo (arV C (cnR C s.r)) (arL C (cnR C s.r)) W.addr (cnN C s.r)<0 then 0 else (arW C (cnR C s.r) (M.bestTo (arV C (cnR C s.r)) (arL C (cnR C s.r)) W.addr (cnN C s.r)).toNat).toNat),(amR C (cnR C s.r) (cnN C s.r)).b⟩,s.sv,s.ttl,nar (M.depTo (arV C (cnR C s.r)) (arL C (cnR C s.r)) W.addr (cnN C s.r)) s.sc⟩
def yY (W:RW) (C:List Int) (s:RT):RT :=
 ⟨⟨(rgR C (cnR C s.r) (cnN C s.r)).p+(rgT W C (cnR C s.r) (cnN C s.r)).toNat,(rgR C (cnR C s.r) (cnN C s.r)).b⟩,s.sv,s.ttl,nar W.dep s.sc⟩
def yy (C:List Int) (s:RT):RT:=⟨num C s.r 3 1 86400,s.sv,if rdN C s.r 3<s.ttl then rdN C s.r 3 else s.ttl,s.sc⟩
def ZB (W:RW) (C:List Int) (s:RT):RT:=⟨num C s.r 1 0 15,s.sv++(W.al[(rdN C s.r 1).toNat]?).getD [],s.ttl,s.sc⟩
def zD (W:RW) (C:List Int) (s:RT):RT×Bool :=
 let k:=nxV C s.r
 let t:RT:=⟨nx C s.r,s.sv,s.ttl,s.sc⟩
 if k=123 then (Zn C t,true)
 else if k=119 then Zf W C t
 else if k=102 then yG W C t
 else if k=109 then (yp W C t,false)
 else if k=103 then (yY W C t,false)
 else if k=116 then (yy C t,false)
 else if k=64 then (ZB W C t,true)
 else (⟨⟨t.r.p,true⟩,t.sv,t.ttl,t.sc⟩,false)
def YU (W:RW) (C:List Int):Nat->RT->Int×(List Int×Int×Int)
 | 0,_=>(11,[],0,0)
 | f+1,s =>
  if (zD W C s).1.r.b=true then (10,[],0,0)
  else if (zD W C s).2=true then (0,(zD W C s).1.sv,(zD W C s).1.ttl,(zD W C s).1.sc)
  else YU W C f (zD W C s).1
theorem QB (n:Nat):0<yI n:=by
 induction n with
 | zero=>decide
 | succ n ih=>simp only [yI];omega
structure MN where
 sv:List Int
 ttl:Int
 sc:Int
def atM (K:List MN) (i:Int):MN:=if i<0 then ⟨[],0,0⟩ else (K[i.toNat]?).getD ⟨[],0,0⟩
def itV (e:EX) (i:Nat):Int:=match e.items[i]? with | some x=>x.pv | none=>0
def itL (e:EX) (i:Nat):Int:=match e.items[i]? with | some x=>x.pl | none=>0
def mbL (W:RW) (l:List IM):List (Int×Int):=(l.filter (fun x=>upW W x.num)).map (fun x=>(x.num,x.wv))
def XJ (W:RW) (l:List IM):Option Int:=if suL (mbL W l)<=0 then none else pkL (mbL W l) (W.draw%suL (mbL W l))
def Yx (W:RW) (l:List IM):Option Int:=(l.find? (fun x=>upW W x.num)).map IM.num
def ZR (W:RW) (e:EX):Int:=if M.bestTo (itV e) (itL e) W.addr e.items.length<0 then e.inner else match e.items[(M.bestTo (itV e) (itL e) W.addr e.items.length).toNat]? with | some x=>x.arm | none=>e.inner
def xu (W:RW) (e:EX):Int:=match e.items.find? (fun x=>x.num==W.reg) with | some x=>x.arm | none=>e.inner
def mnE (W:RW) (K:List MN) (e:EX):MN :=
 if e.kind=123 then ⟨e.items.map IM.num,86400,0⟩
 else if e.kind=64 then ⟨(W.al[e.nv.toNat]?).getD [],86400,0⟩
 else if e.kind=61 then atM K e.inner
 else if e.kind=116 then ⟨(atM K e.inner).sv,if e.nv<(atM K e.inner).ttl then e.nv else (atM K e.inner).ttl,(atM K e.inner).sc⟩
 else if e.kind=119 then (match XJ W e.items with | some x=>⟨[x],86400,0⟩ | none=>atM K e.inner)
 else if e.kind=102 then (match Yx W e.items with | some x=>⟨[x],86400,0⟩ | none=>atM K e.inner)
 else if e.kind=109 then ⟨(atM K (ZR W e)).sv,(atM K (ZR W e)).ttl,nar (M.depTo (itV e) (itL e) W.addr e.items.length) (atM K (ZR W e)).sc⟩
 else ⟨(atM K (xu W e)).sv,(atM K (xu W e)).ttl,nar W.dep (atM K (xu W e)).sc⟩
def mnK (W:RW) (es:List EX):Nat->List MN
 | 0=>[]
 | j+1=>mnK W es j++[match es[j]? with | some e=>mnE W (mnK W es j) e | none=>⟨[],0,0⟩]
def mnN (W:RW) (es:List EX):Nat->MN
 | 0=>⟨[],0,0⟩
 | j+1=>match es[j]? with | some e=>mnE W (mnK W es j) e | none=>⟨[],0,0⟩
theorem qZ (W:RW) (es:List EX):∀ j,(mnK W es j).length=j:=by
 intro j
 induction j with
 | zero=>rfl
 | succ j ih=>simp [mnK,ih]
theorem zds (W:RW) (es:List EX):∀ m i,i<m->(mnK W es m)[i]?=some (mnN W es (i+1)):=by
 intro m
 induction m with
 | zero=>intro i h;omega
 | succ m ih =>
  intro i h
  by_cases hi:i<m
  ·simp only [mnK]
   rw [List.getElem?_append_left (by rw [qZ];exact hi)]
   exact ih i hi
  ·have:i=m:=by omega
   subst this
   simp only [mnK]
   rw [List.getElem?_append_right (by rw [qZ];exact Nat.le_refl _),qZ]
   simp [mnN]
theorem Zl (W:RW) (es:List EX) {m i:Nat} (h:i<m):atM (mnK W es m) (i:Int)=mnN W es (i+1):=by
 unfold atM
 rw [if_neg (by omega),Int.toNat_natCast,zds W es m i h];rfl
theorem Yo (es:List EX) {m i:Nat} (h:i<m):atL (zR es m) (i:Int)=z8 es (i+1):=by
 rw [xQ,if_neg (by omega),if_pos (by omega),Int.toNat_natCast]
inductive GD (E:List EX):Nat->Prop where
 | servers {j:Nat} {e:EX}:E[j]?=some e->e.kind=123->0<e.items.length->e.items.length<=16->(∀ x∈e.items,0<=x.num/\x.num<=63/\x.arm=-1)->e.inner=-1->GD E j
 | alias {j:Nat} {e:EX}:E[j]?=some e->e.kind=64->0<=e.nv->e.nv<=15->e.items=[]->e.inner=-1->GD E j
 | name {j i:Nat} {e:EX}:E[j]?=some e->e.kind=61->e.items=[]->e.inner=(i:Int)->i<j->GD E i->GD E j
 | ttl {j i:Nat} {e:EX}:E[j]?=some e->e.kind=116->1<=e.nv->e.nv<=86400->e.items=[]->e.inner=(i:Int)->i<j->GD E i->GD E j
 | list {j i:Nat} {e:EX}:E[j]?=some e->(e.kind=119\/e.kind=102)->0<e.items.length->e.items.length<=16->(∀ x∈e.items,0<=x.num/\x.num<=63/\x.arm=-1/\(e.kind=119->1<=x.wv/\x.wv<=1000))->e.inner=(i:Int)->i<j->GD E i->GD E j
 | maps {j i:Nat} {e:EX} {an:Nat->Nat}:E[j]?=some e->(e.kind=109\/e.kind=103)->0<e.items.length->e.items.length<=16->(∀ x∈e.items,(e.kind=109->M.isP x.pv x.pl=true)/\(e.kind=103->0<=x.num/\x.num<=99))->(e.kind=103->∀ (a b:Nat) (x y:IM),e.items[a]?=some x->e.items[b]?=some y->x.num=y.num->a=b)->(e.kind=109->∀ (a b:Nat) (x y:IM),e.items[a]?=some x->e.items[b]?=some y->x.pv=y.pv->x.pl=y.pl->a=b) ->
  (∀ (k:Nat) (x:IM),e.items[k]?=some x->x.arm=(an k:Int)/\an k<j)->(∀ k,k<e.items.length->GD E (an k))->e.inner=(i:Int)->i<j->GD E i->GD E j
/-! Bytes that lie in code. -/
def Zr (C:List Int) (p:Nat) (X:List Int):Prop:=∀ (i:Nat) (x:Int),X[i]?=some x->C[p+i]?=some x
theorem Zr.left {C:List Int} {p:Nat} {X Y:List Int} (h:Zr C p (X++Y)):Zr C p X:=fun i x hx=>h i x (by rw [List.getElem?_append_left (List.getElem?_eq_some_iff.1 hx).1];exact hx)
theorem Zr.right {C:List Int} {p:Nat} {X Y:List Int} (h:Zr C p (X++Y)):Zr C (p+X.length) Y:=fun i x hx=>by
 have:=h (X.length+i) x (by rw [List.getElem?_append_right (by omega),Nat.add_sub_cancel_left];exact hx)
 rw [Nat.add_assoc];exact this
theorem Zr.lt {C:List Int} {p i:Nat} {X:List Int} (h:Zr C p X) (hi:i<X.length):p+i<C.length :=
 (List.getElem?_eq_some_iff.1 (h i X[i] (List.getElem?_eq_getElem hi))).1
def vL (X:List Int):Nat->Int
 | 0=>0
 | i+1=>vL X i+(X[i]?).getD 0*yI i
theorem zcq {C:List Int} {p:Nat} {X:List Int} (b:Bool) (h:Zr C p X):∀ i,i<=X.length->Zc C ⟨p,b⟩ i=⟨p+i,b⟩/\rdN C ⟨p,b⟩ i=vL X i:=by
 intro i
 induction i with
 | zero=>intro _;exact ⟨rfl,rfl⟩
 | succ i ih =>
  intro hi
  obtain ⟨h1,h2⟩:=ih (by omega)
  have hlt:=h.lt (i:=i) (by omega)
  have hv:=h i X[i] (List.getElem?_eq_getElem (by omega))
  constructor
  ·simp only [Zc,h1,nx]
   rw [if_pos hlt];rfl
  ·simp only [rdN,vL,h1,h2,nxV,hv]
   rw [List.getElem?_eq_getElem (by omega)]
theorem yP {C:List Int} {p k:Nat} {n:Int} (b:Bool) (hk:k<=4) (h:Zr C p (zW n k)) (h0:0<=n) (h1:n<yI k):Zc C ⟨p,b⟩ k=⟨p+k,b⟩/\rdN C ⟨p,b⟩ k=n:=by
 have h2:=zcq b h k (by rw [zE];exact Nat.le_refl _)
 refine ⟨h2.1,h2.2.trans ?_⟩
 have hk':k=0\/k=1\/k=2\/k=3\/k=4:=by omega
 rcases hk' with rfl | rfl | rfl | rfl | rfl
 all_goals simp [zW,vL,yI] at h1 ⊢
 all_goals omega
theorem ZJ {C:List Int} {p k:Nat} {n lo hi:Int} (b:Bool) (hk:k<=4) (h:Zr C p (zW n k)) (h0:0<=n) (h1:n<yI k) (h2:lo<=n) (h3:n<=hi):num C ⟨p,b⟩ k lo hi=⟨p+k,b⟩:=by
 obtain ⟨h4,h5⟩:=yP b hk h h0 h1
 unfold num
 rw [h4,h5,if_neg (by omega)]
theorem yQ:yI 1=256:=by decide
theorem xZ:yI 2=65536:=by decide
theorem za7:yI 3=16777216:=by decide
theorem za6:yI 4=4294967296:=by decide
theorem qv (K:List (List Int)) (e:EX):∀ m i,i<=m->∃ T,zo K e m=zo K e i++T:=by
 intro m
 induction m with
 | zero =>
  intro i h;have:i=0:=by omega
  subst this;exact ⟨[],by simp⟩
 | succ m ih =>
  intro i h
  by_cases h1:i<=m
  ·obtain ⟨T,hT⟩:=ih i h1
   simp only [zo]
   exact ⟨_,by rw [hT,List.append_assoc]⟩
  ·have:i=m+1:=by omega
   subst this;exact ⟨[],by simp⟩
theorem Xe (K:List (List Int)) (e:EX):∀ m i,i<=m->∃ T,zg K e m=zg K e i++T:=by
 intro m
 induction m with
 | zero =>
  intro i h;have:i=0:=by omega
  subst this;exact ⟨[],by simp⟩
 | succ m ih =>
  intro i h
  by_cases h1:i<=m
  ·obtain ⟨T,hT⟩:=ih i h1
   simp only [zg]
   exact ⟨_,by rw [hT,List.append_assoc]⟩
  ·have:i=m+1:=by omega
   subst this;exact ⟨[],by simp⟩
theorem YK {C:List Int} {p:Nat} {K:List (List Int)} {e:EX} (h:Zr C p (zo K e e.items.length)) {i:Nat} {x:IM} (hx:e.items[i]?=some x):Zr C (p+(zo K e i).length) (ym e.kind x (zg K e i).length):=by
 obtain ⟨T,hT⟩:=qv K e e.items.length (i+1) (List.getElem?_eq_some_iff.1 hx).1
 rw [hT] at h
 have h2:=h.left
 simp only [zo,hx] at h2
 exact h2.right
theorem x8 {C:List Int} {p:Nat} {K:List (List Int)} {e:EX} (h:Zr C p (zo K e e.items.length)):Zr C p (yh e):=by
 obtain ⟨T,hT⟩:=qv K e e.items.length 0 (Nat.zero_le _)
 rw [hT] at h
 exact h.left
theorem zbT {C:List Int} {p:Nat} {K:List (List Int)} {e:EX} (h:Zr C p (zg K e e.items.length)) {i:Nat} {x:IM} (hx:e.items[i]?=some x):Zr C (p+(zg K e i).length) (atL K x.arm):=by
 obtain ⟨T,hT⟩:=Xe K e e.items.length (i+1) (List.getElem?_eq_some_iff.1 hx).1
 rw [hT] at h
 have h2:=h.left
 simp only [zg,hx] at h2
 exact h2.right
theorem XV {C:List Int} {p:Nat} {K:List (List Int)} {e:EX} (h:Zr C p (zg K e e.items.length)):Zr C p (atL K e.inner):=by
 obtain ⟨T,hT⟩:=Xe K e e.items.length 0 (Nat.zero_le _)
 rw [hT] at h
 exact h.left
theorem jA {C:List Int} {p:Nat} {e:EX} (hk:e.kind=123\/e.kind=119\/e.kind=102\/e.kind=109\/e.kind=103) (h0:0<e.items.length) (h1:e.items.length<=16) (h:Zr C p (yh e)) :
 nxV C ⟨p,false⟩=e.kind/\nx C ⟨p,false⟩=⟨p+1,false⟩/\cnR C ⟨p+1,false⟩=⟨p+2,false⟩/\cnN C ⟨p+1,false⟩=e.items.length/\(yh e).length=2:=by
 have he:yh e=zW e.kind 1++zW (e.items.length:Int) 1:=by
  unfold yh
  rw [if_neg (by omega),if_neg (by omega)]
 rw [he] at h ⊢
 have h2:=h.left
 have h3:=h.right
 rw [zE] at h3
 have a1:=yP (b:=false) (by decide) h2 (by omega) (by rw [yQ];omega)
 have a2:=yP (b:=false) (by decide) h3 (by omega) (by rw [yQ];omega)
 have a3:=ZJ (b:=false) (lo:=1) (hi:=16) (by decide) h3 (by omega) (by rw [yQ];omega) (by omega) (by omega)
 refine ⟨?_,?_,a3,?_,by simp [zE]⟩
 ·have:=a1.2
  simpa [rdN,Zc,yI] using this
 ·exact a1.1
 ·unfold cnN
  rw [a2.2];omega
theorem Qi {V L V' L':Nat->Int} {a:Int}:∀ n,(∀ i,i<n->V i=V' i/\L i=L' i)->M.bestTo V L a n=M.bestTo V' L' a n/\M.bitsTo V L a n=M.bitsTo V' L' a n/\M.depTo V L a n=M.depTo V' L' a n:=by
 intro n
 induction n with
 | zero=>intro _;exact ⟨rfl,rfl,rfl⟩
 | succ n ih =>
  intro h
  obtain ⟨h1,h2,h3⟩:=ih (fun i hi=>h i (by omega))
  obtain ⟨h4,h5⟩:=h n (by omega)
  simp only [M.bestTo,M.bitsTo,M.depTo,M.need,h1,h2,h3,h4,h5]
  exact ⟨trivial,trivial,rfl⟩
theorem Qh {V L:Nat->Int} {a:Int}:∀ n,M.bestTo V L a n<n:=by
 intro n
 induction n with
 | zero=>simp [M.bestTo]
 | succ n ih=>simp only [M.bestTo];split<;>omega
theorem YO (K:List (List Int)) (e:EX) (h:(yh e).length=2):(zo K e 0).length=2:=h
theorem qJ {C:List Int} {p:Nat} {K:List (List Int)} {e:EX} (hk:e.kind=123\/e.kind=102) (h2:(yh e).length=2) (hr:∀ x∈e.items,0<=x.num/\x.num<=63) (h:Zr C p (zo K e e.items.length)) :
 ∀ i,i<=e.items.length->svR C ⟨p+2,false⟩ i=⟨p+(zo K e i).length,false⟩/\svL C ⟨p+2,false⟩ i=(e.items.map IM.num).take i/\∀ x,e.items[i]?=some x->rdN C (svR C ⟨p+2,false⟩ i) 1=x.num:=by
 intro i
 have hrd:∀ i x,e.items[i]?=some x->(rdN C ⟨p+(zo K e i).length,false⟩ 1=x.num/\num C ⟨p+(zo K e i).length,false⟩ 1 0 63=⟨p+(zo K e i).length+1,false⟩/\(zo K e (i+1)).length=(zo K e i).length+1):=by
  intro i x hx
  have hs:=YK h hx
  have hi:ym e.kind x (zg K e i).length=zW x.num 1:=by
   unfold ym
   rw [if_neg (by omega),if_neg (by omega),if_neg (by omega)]
  rw [hi] at hs
  have hx2:=hr x (List.mem_of_getElem? hx)
  refine ⟨(yP false (by decide) hs (by omega) (by rw [yQ];omega)).2,ZJ false (by decide) hs (by omega) (by rw [yQ];omega) (by omega) (by omega),?_⟩
  simp only [zo,hx,hi,List.length_append,zE]
 induction i with
 | zero =>
  intro _
  have e0:svR C ⟨p+2,false⟩ 0=⟨p+(zo K e 0).length,false⟩:=by rw [YO K e h2];rfl
  refine ⟨e0,by simp [svL],fun x hx=>?_⟩
  rw [e0];exact (hrd 0 x hx).1
 | succ i ih =>
  intro hi
  obtain ⟨h3,h4,h5⟩:=ih (by omega)
  obtain ⟨x,hx⟩:∃ x,e.items[i]?=some x:=⟨e.items[i],List.getElem?_eq_getElem (by omega)⟩
  have h6:=hrd i x hx
  have e1:svR C ⟨p+2,false⟩ (i+1)=⟨p+(zo K e (i+1)).length,false⟩:=by
   simp only [svR,h3,h6.2.1,h6.2.2];rfl
  refine ⟨e1,?_,fun y hy=>by rw [e1];exact (hrd (i+1) y hy).1⟩
  simp only [svL,h4,h5 x hx]
  rw [List.take_add_one]
  simp [hx]
theorem zcy {W:RW} {C:List Int} {p:Nat} {K:List (List Int)} {e:EX} (hk:e.kind=119) (h2:(yh e).length=2) (hr:∀ x∈e.items,0<=x.num/\x.num<=63/\1<=x.wv/\x.wv<=1000) (h:Zr C p (zo K e e.items.length)) :
 ∀ i,i<=e.items.length->meR C ⟨p+2,false⟩ i=⟨p+(zo K e i).length,false⟩/\meL W C ⟨p+2,false⟩ i=mbL W (e.items.take i):=by
 intro i
 have hrd:∀ i x,e.items[i]?=some x->(rdN C ⟨p+(zo K e i).length,false⟩ 1=x.num/\num C ⟨p+(zo K e i).length,false⟩ 1 0 63=⟨p+(zo K e i).length+1,false⟩/\rdN C ⟨p+(zo K e i).length+1,false⟩ 2=x.wv/\num C ⟨p+(zo K e i).length+1,false⟩ 2 1 1000=⟨p+(zo K e (i+1)).length,false⟩):=by
  intro i x hx
  have hs:=YK h hx
  have hi:ym e.kind x (zg K e i).length=zW x.num 1++zW x.wv 2:=by
   unfold ym
   rw [if_neg (by omega),if_neg (by omega),if_pos hk]
  rw [hi] at hs
  have hx2:=hr x (List.mem_of_getElem? hx)
  have hs1:=hs.left
  have hs2:=hs.right
  rw [zE] at hs2
  have hl:(zo K e (i+1)).length=(zo K e i).length+1+2:=by simp only [zo,hx,hi,List.length_append,zE]
  refine ⟨(yP false (by decide) hs1 (by omega) (by rw [yQ];omega)).2,ZJ false (by decide) hs1 (by omega) (by rw [yQ];omega) (by omega) (by omega),(yP false (by decide) hs2 (by omega) (by rw [xZ];omega)).2,?_⟩
  rw [ZJ false (by decide) hs2 (by omega) (by rw [xZ];omega) (by omega) (by omega),hl]
  rfl
 induction i with
 | zero =>
  intro _
  have e0:meR C ⟨p+2,false⟩ 0=⟨p+(zo K e 0).length,false⟩:=by rw [YO K e h2];rfl
  exact ⟨e0,by simp [meL,mbL]⟩
 | succ i ih =>
  intro hi
  obtain ⟨h3,h4⟩:=ih (by omega)
  obtain ⟨x,hx⟩:∃ x,e.items[i]?=some x:=⟨e.items[i],List.getElem?_eq_getElem (by omega)⟩
  obtain ⟨q1,q2,q3,q4⟩:=hrd i x hx
  refine ⟨by simp only [meR,h3,q2,q4],?_⟩
  have e1:meS C ⟨p+2,false⟩ i=x.num:=by unfold meS;rw [h3,q1]
  have e2:meW C ⟨p+2,false⟩ i=x.wv:=by unfold meW;rw [h3,q2,q3]
  simp only [meL,e1,e2,h4]
  rw [List.take_add_one]
  simp only [hx,Option.toList_some]
  unfold mbL
  rw [List.filter_append,List.map_append]
  by_cases hu:upW W x.num=true
  ·rw [if_pos hu];simp [hu]
  ·rw [if_neg hu];simp [hu]
theorem zc1 {C:List Int} {p:Nat} {K:List (List Int)} {e:EX} (hk:e.kind=109) (h2:(yh e).length=2) (hr:∀ x∈e.items,M.isP x.pv x.pl=true) (hw:(zg K e e.items.length).length<=32000) (h:Zr C p (zo K e e.items.length)) :
 ∀ i,i<=e.items.length->amR C ⟨p+2,false⟩ i=⟨p+(zo K e i).length,false⟩/\(i<e.items.length->arV C ⟨p+2,false⟩ i=itV e i/\arL C ⟨p+2,false⟩ i=itL e i/\arW C ⟨p+2,false⟩ i=((zg K e i).length:Int)):=by
 intro i
 have hrd:∀ i x,e.items[i]?=some x->(rdN C ⟨p+(zo K e i).length,false⟩ 4=x.pv/\amV C ⟨p+(zo K e i).length,false⟩=⟨p+(zo K e i).length+4,false⟩/\rdN C ⟨p+(zo K e i).length+4,false⟩ 1=x.pl/\amL C ⟨p+(zo K e i).length,false⟩=⟨p+(zo K e i).length+5,false⟩/\rdN C ⟨p+(zo K e i).length+5,false⟩ 2=((zg K e i).length:Int)/\num C ⟨p+(zo K e i).length+5,false⟩ 2 0 32000=⟨p+(zo K e (i+1)).length,false⟩):=by
  intro i x hx
  have hs:=YK h hx
  have hi:ym e.kind x (zg K e i).length=zW x.pv 4++zW x.pl 1++zW (zg K e i).length 2:=by
   unfold ym
   rw [if_pos hk]
  rw [hi] at hs
  have hx2:=hr x (List.mem_of_getElem? hx)
  obtain ⟨l0,l1,v0,v1,_⟩:=M.isP_iff.1 hx2
  have hs1:=hs.left.left
  have hs2:=hs.left.right
  have hs3:=hs.right
  rw [List.length_append,zE,zE] at hs3
  rw [zE] at hs2
  have hwi:=yO K e e.items.length i (Nat.le_of_lt (List.getElem?_eq_some_iff.1 hx).1)
  have hl:(zo K e (i+1)).length=(zo K e i).length+5+2:=by simp only [zo,hx,hi,List.length_append,zE]
  have a1:=(yP false (by decide) hs1 (by omega) (by rw [za6];omega)).2
  have a2:=ZJ false (lo:=0) (hi:=4294967295) (by decide) hs1 (by omega) (by rw [za6];omega) (by omega) (by omega)
  have a3:=(yP false (by decide) hs2 (by omega) (by rw [yQ];omega)).2
  have a4:=ZJ false (lo:=0) (hi:=32) (by decide) hs2 (by omega) (by rw [yQ];omega) (by omega) (by omega)
  have a5:=(yP false (by decide) hs3 (by omega) (by rw [xZ];omega)).2
  have a6:=ZJ false (lo:=0) (hi:=32000) (by decide) hs3 (by omega) (by rw [xZ];omega) (by omega) (by omega)
  have c1:amV C ⟨p+(zo K e i).length,false⟩=⟨p+(zo K e i).length+4,false⟩:=a2
  refine ⟨a1,c1,a3,?_,a5,?_⟩
  ·unfold amL
   rw [c1,a1,a3,a4,if_pos hx2]
  ·rw [hl];exact a6
 induction i with
 | zero =>
  intro _
  have e0:amR C ⟨p+2,false⟩ 0=⟨p+(zo K e 0).length,false⟩:=by rw [YO K e h2];rfl
  refine ⟨e0,fun hi=>?_⟩
  obtain ⟨x,hx⟩:∃ x,e.items[0]?=some x:=⟨e.items[0],List.getElem?_eq_getElem hi⟩
  obtain ⟨q1,q2,q3,q4,q5,q6⟩:=hrd 0 x hx
  unfold arV arL arW itV itL
  rw [e0,q1,q2,q3,q4,q5,hx]
  exact ⟨rfl,rfl,rfl⟩
 | succ i ih =>
  intro hi
  obtain ⟨h3,_⟩:=ih (by omega)
  obtain ⟨x,hx⟩:∃ x,e.items[i]?=some x:=⟨e.items[i],List.getElem?_eq_getElem (by omega)⟩
  obtain ⟨q1,q2,q3,q4,q5,q6⟩:=hrd i x hx
  have e1:amR C ⟨p+2,false⟩ (i+1)=⟨p+(zo K e (i+1)).length,false⟩:=by simp only [amR,h3,q4,q6]
  refine ⟨e1,fun hi'=>?_⟩
  obtain ⟨y,hy⟩:∃ y,e.items[i+1]?=some y:=⟨e.items[i+1],List.getElem?_eq_getElem hi'⟩
  obtain ⟨r1,r2,r3,r4,r5,r6⟩:=hrd (i+1) y hy
  unfold arV arL arW itV itL
  rw [e1,r1,r2,r3,r4,r5,hy]
  exact ⟨rfl,rfl,rfl⟩
theorem j5 {C:List Int} {p:Nat} {K:List (List Int)} {e:EX} (hk:e.kind=103) (h2:(yh e).length=2) (hr:∀ x∈e.items,0<=x.num/\x.num<=99) (hw:(zg K e e.items.length).length<=32000) (h:Zr C p (zo K e e.items.length)) :
 ∀ i,i<=e.items.length->rgR C ⟨p+2,false⟩ i=⟨p+(zo K e i).length,false⟩/\(∀ x,e.items[i]?=some x->rgN C ⟨p+2,false⟩ i=x.num/\rgW C ⟨p+2,false⟩ i=((zg K e i).length:Int)):=by
 intro i
 have hrd:∀ i x,e.items[i]?=some x->(rdN C ⟨p+(zo K e i).length,false⟩ 1=x.num/\num C ⟨p+(zo K e i).length,false⟩ 1 0 99=⟨p+(zo K e i).length+1,false⟩/\rdN C ⟨p+(zo K e i).length+1,false⟩ 2=((zg K e i).length:Int)/\num C ⟨p+(zo K e i).length+1,false⟩ 2 0 32000=⟨p+(zo K e (i+1)).length,false⟩):=by
  intro i x hx
  have hs:=YK h hx
  have hi:ym e.kind x (zg K e i).length=zW x.num 1++zW (zg K e i).length 2:=by
   unfold ym
   rw [if_neg (by omega),if_pos hk]
  rw [hi] at hs
  have hx2:=hr x (List.mem_of_getElem? hx)
  have hs1:=hs.left
  have hs2:=hs.right
  rw [zE] at hs2
  have hwi:=yO K e e.items.length i (Nat.le_of_lt (List.getElem?_eq_some_iff.1 hx).1)
  have hl:(zo K e (i+1)).length=(zo K e i).length+1+2:=by simp only [zo,hx,hi,List.length_append,zE]
  refine ⟨(yP false (by decide) hs1 (by omega) (by rw [yQ];omega)).2,ZJ false (by decide) hs1 (by omega) (by rw [yQ];omega) (by omega) (by omega),(yP false (by decide) hs2 (by omega) (by rw [xZ];omega)).2,?_⟩
  rw [ZJ false (by decide) hs2 (by omega) (by rw [xZ];omega) (by omega) (by omega),hl]
  rfl
 induction i with
 | zero =>
  intro _
  have e0:rgR C ⟨p+2,false⟩ 0=⟨p+(zo K e 0).length,false⟩:=by rw [YO K e h2];rfl
  refine ⟨e0,fun x hx=>?_⟩
  obtain ⟨q1,q2,q3,q4⟩:=hrd 0 x hx
  unfold rgN rgW
  rw [e0,q1,q2,q3]
  exact ⟨rfl,rfl⟩
 | succ i ih =>
  intro hi
  obtain ⟨h3,_⟩:=ih (by omega)
  obtain ⟨x,hx⟩:∃ x,e.items[i]?=some x:=⟨e.items[i],List.getElem?_eq_getElem (by omega)⟩
  obtain ⟨q1,q2,q3,q4⟩:=hrd i x hx
  have e1:rgR C ⟨p+2,false⟩ (i+1)=⟨p+(zo K e (i+1)).length,false⟩:=by simp only [rgR,h3,q2,q4]
  refine ⟨e1,fun y hy=>?_⟩
  obtain ⟨r1,r2,r3,r4⟩:=hrd (i+1) y hy
  unfold rgN rgW
  rw [e1,r1,r2,r3]
  exact ⟨rfl,rfl⟩
end Go.Proofs.YtaebngpoagjafabGreat
