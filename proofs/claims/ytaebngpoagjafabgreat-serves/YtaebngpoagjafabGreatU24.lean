import Derived.Test.YtaebngpoagjafabGreatU23
set_option maxRecDepth 100000
namespace Go.Proofs.YtaebngpoagjafabGreat
def yV:Nat->Int
 | 0=>1
 | n+1=>yV n*256
structure RW where
 addr:Int
 draw:Int
 dn:Nat->Bool
 al:List (List Int)
 reg:Int
 dep:Int
structure RD where
 p:Nat
 b:Bool
def nxV (C:List Int) (r:RD):Int:=(C[r.p]?).getD 0
def nx (C:List Int) (r:RD):RD:=if r.p<C.length then ⟨r.p+1,r.b⟩ else ⟨r.p,true⟩
def Zs (C:List Int) (r:RD):Nat->RD
 | 0=>r
 | i+1=>nx C (Zs C r i)
def rdN (C:List Int) (r:RD):Nat->Int
 | 0=>0
 | i+1=>rdN C r i+nxV C (Zs C r i)*yV i
def num (C:List Int) (r:RD) (k:Nat) (lo hi:Int):RD:=⟨(Zs C r k).p,if rdN C r k<lo\/hi<rdN C r k then true else (Zs C r k).b⟩
def svR (C:List Int) (r:RD):Nat->RD
 | 0=>r
 | i+1=>num C (svR C r i) 1 0 63
def svL (C:List Int) (r:RD):Nat->List Int
 | 0=>[]
 | i+1=>svL C r i++[rdN C (svR C r i) 1]
def upW (W:RW) (s:Int):Bool:=decide (0<=s) && (decide (s<64) && !W.dn s.toNat)
def meR (C:List Int) (r:RD):Nat->RD
 | 0=>r
 | i+1=>num C (num C (meR C r i) 1 0 63) 2 1 1000
def meS (C:List Int) (r:RD) (i:Nat):Int:=rdN C (meR C r i) 1
def meW (C:List Int) (r:RD) (i:Nat):Int:=rdN C (num C (meR C r i) 1 0 63) 2
def meL (W:RW) (C:List Int) (r:RD):Nat->List (Int×Int)
 | 0=>[]
 | i+1=>if upW W (meS C r i)=true then meL W C r i++[(meS C r i,meW C r i)] else meL W C r i
def suL:List (Int×Int)->Int
 | []=>0
 | x::l=>x.2+suL l
def pkL:List (Int×Int)->Int->Option Int
 | [],_=>none
 | x::l,r=>if r<x.2 then some x.1 else pkL l (r-x.2)
def chG (W:RW) (C:List Int) (r:RD):Nat->Nat->Option Nat
 | _,0=>none
 | i,n+1=>if upW W (rdN C (svR C r i) 1)=true then some i else chG W C r (i+1) n
def amV (C:List Int) (r:RD):RD:=num C r 4 0 4294967295
def amL (C:List Int) (r:RD):RD:=⟨(num C (amV C r) 1 0 32).p,if M.isP (rdN C r 4) (rdN C (amV C r) 1)=true then (num C (amV C r) 1 0 32).b else true⟩
def amR (C:List Int) (r:RD):Nat->RD
 | 0=>r
 | i+1=>num C (amL C (amR C r i)) 2 0 32000
def arV (C:List Int) (r:RD) (i:Nat):Int:=rdN C (amR C r i) 4
def arL (C:List Int) (r:RD) (i:Nat):Int:=rdN C (amV C (amR C r i)) 1
def arW (C:List Int) (r:RD) (i:Nat):Int:=rdN C (amL C (amR C r i)) 2
def rgR (C:List Int) (r:RD):Nat->RD
 | 0=>r
 | i+1=>num C (num C (rgR C r i) 1 0 99) 2 0 32000
def rgN (C:List Int) (r:RD) (i:Nat):Int:=rdN C (rgR C r i) 1
def rgW (C:List Int) (r:RD) (i:Nat):Int:=rdN C (num C (rgR C r i) 1 0 99) 2
def rgT (W:RW) (C:List Int) (r:RD):Nat->Int
 | 0=>0
 | i+1=>if rgN C r i=W.reg then rgW C r i else rgT W C r i
structure RT where
 r:RD
 sv:List Int
 ttl:Int
 sc:Int
def cnR (C:List Int) (r:RD):RD:=num C r 1 1 16
def cnN (C:List Int) (r:RD):Nat:=(rdN C r 1).toNat
def nar (d sc:Int):Int:=if sc<d then d else sc
def ZC (C:List Int) (s:RT):RT:=⟨svR C (cnR C s.r) (cnN C s.r),s.sv++svL C (cnR C s.r) (cnN C s.r),s.ttl,s.sc⟩
def Zu (W:RW) (C:List Int) (s:RT):RT×Bool :=
 if suL (meL W C (cnR C s.r) (cnN C s.r))<=0 then (⟨meR C (cnR C s.r) (cnN C s.r),s.sv,s.ttl,s.sc⟩,false)
 else match pkL (meL W C (cnR C s.r) (cnN C s.r)) (W.draw%suL (meL W C (cnR C s.r) (cnN C s.r))) with
  | some x=>(⟨meR C (cnR C s.r) (cnN C s.r),s.sv++[x],s.ttl,s.sc⟩,true)
  | none=>(⟨meR C (cnR C s.r) (cnN C s.r),s.sv,s.ttl,s.sc⟩,false)
def yS (W:RW) (C:List Int) (s:RT):RT×Bool :=
 match chG W C (cnR C s.r) 0 (cnN C s.r) with
 | some i=>(⟨svR C (cnR C s.r) (i+1),s.sv++[rdN C (svR C (cnR C s.r) i) 1],s.ttl,s.sc⟩,true)
 | none=>(⟨svR C (cnR C s.r) (cnN C s.r),s.sv,s.ttl,s.sc⟩,false)
def yy (W:RW) (C:List Int) (s:RT):RT :=
 ⟨⟨(amR C (cnR C s.r) (cnN C s.r)).p+(if M.bestTo (arV C (cnR C s.r)) (arL C (cnR C s.r)) W.addr (cnN C s.r)<0 then 0 else (arW C (cnR C s.r) (M.bestTo (arV C (cnR C s.r)) (arL C (cnR C s.r)) W.addr (cnN C s.r)).toNat).toNat),(amR C (cnR C s.r) (cnN C s.r)).b⟩,s.sv,s.ttl,nar (M.depTo (arV C (cnR C s.r)) (arL C (cnR C s.r)) W.addr (cnN C s.r)) s.sc⟩
def Zo (W:RW) (C:List Int) (s:RT):RT :=
 ⟨⟨(rgR C (cnR C s.r) (cnN C s.r)).p+(rgT W C (cnR C s.r) (cnN C s.r)).toNat,(rgR C (cnR C s.r) (cnN C s.r)).b⟩,s.sv,s.ttl,nar W.dep s.sc⟩
def yI (C:List Int) (s:RT):RT:=⟨num C s.r 3 1 86400,s.sv,if rdN C s.r 3<s.ttl then rdN C s.r 3 else s.ttl,s.sc⟩
def ZY (W:RW) (C:List Int) (s:RT):RT:=⟨num C s.r 1 0 15,s.sv++(W.al[(rdN C s.r 1).toNat]?).getD [],s.ttl,s.sc⟩
def zE (W:RW) (C:List Int) (s:RT):RT×Bool :=
 let k:=nxV C s.r
 let t:RT:=⟨nx C s.r,s.sv,s.ttl,s.sc⟩
 if k=123 then (ZC C t,true)
 else if k=119 then Zu W C t
 else if k=102 then yS W C t
 else if k=109 then (yy W C t,false)
 else if k=103 then (Zo W C t,false)
 else if k=116 then (yI C t,false)
 else if k=64 then (ZY W C t,true)
 else (⟨⟨t.r.p,true⟩,t.sv,t.ttl,t.sc⟩,false)
def xG (W:RW) (C:List Int):Nat->RT->Int×(List Int×Int×Int)
 | 0,_=>(11,[],0,0)
 | f+1,s =>
  if (zE W C s).1.r.b=true then (10,[],0,0)
  else if (zE W C s).2=true then (0,(zE W C s).1.sv,(zE W C s).1.ttl,(zE W C s).1.sc)
  else xG W C f (zE W C s).1
theorem jM (n:Nat):0<yV n:=by
 induction n with
 | zero=>decide
 | succ n ih=>simp only [yV];omega
structure MN where
 sv:List Int
 ttl:Int
 sc:Int
def atM (K:List MN) (i:Int):MN:=if i<0 then ⟨[],0,0⟩ else (K[i.toNat]?).getD ⟨[],0,0⟩
def itV (e:EX) (i:Nat):Int:=match e.items[i]? with | some x=>x.pv | none=>0
def itL (e:EX) (i:Nat):Int:=match e.items[i]? with | some x=>x.pl | none=>0
def mbL (W:RW) (l:List IM):List (Int×Int):=(l.filter (fun x=>upW W x.num)).map (fun x=>(x.num,x.wv))
def Z5 (W:RW) (l:List IM):Option Int:=if suL (mbL W l)<=0 then none else pkL (mbL W l) (W.draw%suL (mbL W l))
def yP (W:RW) (l:List IM):Option Int:=(l.find? (fun x=>upW W x.num)).map IM.num
def ZB (W:RW) (e:EX):Int:=if M.bestTo (itV e) (itL e) W.addr e.items.length<0 then e.inner else match e.items[(M.bestTo (itV e) (itL e) W.addr e.items.length).toNat]? with | some x=>x.arm | none=>e.inner
def YV (W:RW) (e:EX):Int:=match e.items.find? (fun x=>x.num==W.reg) with | some x=>x.arm | none=>e.inner
def mnE (W:RW) (K:List MN) (e:EX):MN :=
 if e.kind=123 then ⟨e.items.map IM.num,86400,0⟩
 else if e.kind=64 then ⟨(W.al[e.nv.toNat]?).getD [],86400,0⟩
 else if e.kind=61 then atM K e.inner
 else if e.kind=116 then ⟨(atM K e.inner).sv,if e.nv<(atM K e.inner).ttl then e.nv else (atM K e.inner).ttl,(atM K e.inner).sc⟩
 else if e.kind=119 then (match Z5 W e.items with | some x=>⟨[x],86400,0⟩ | none=>atM K e.inner)
 else if e.kind=102 then (match yP W e.items with | some x=>⟨[x],86400,0⟩ | none=>atM K e.inner)
 else if e.kind=109 then ⟨(atM K (ZB W e)).sv,(atM K (ZB W e)).ttl,nar (M.depTo (itV e) (itL e) W.addr e.items.length) (atM K (ZB W e)).sc⟩
 else ⟨(atM K (YV W e)).sv,(atM K (YV W e)).ttl,nar W.dep (atM K (YV W e)).sc⟩
def mnK (W:RW) (es:List EX):Nat->List MN
 | 0=>[]
 | j+1=>mnK W es j++[match es[j]? with | some e=>mnE W (mnK W es j) e | none=>⟨[],0,0⟩]
def mnN (W:RW) (es:List EX):Nat->MN
 | 0=>⟨[],0,0⟩
 | j+1=>match es[j]? with | some e=>mnE W (mnK W es j) e | none=>⟨[],0,0⟩
theorem Q4 (W:RW) (es:List EX):∀ j,(mnK W es j).length=j:=by
 intro j
 induction j with
 | zero=>rfl
 | succ j ih=>simp [mnK,ih]
theorem zfx (W:RW) (es:List EX):∀ m i,i<m->(mnK W es m)[i]?=some (mnN W es (i+1)):=by
 intro m
 induction m with
 | zero=>intro i h;omega
 | succ m ih =>
  intro i h
  by_cases a:i<m
  ·simp only [mnK]
   rw [List.getElem?_append_left (by rw [Q4];exact a)]
   exact ih i a
  ·have:i=m:=by omega
   subst this
   simp only [mnK]
   rw [List.getElem?_append_right (by rw [Q4];exact Nat.le_refl _),Q4]
   simp [mnN]
theorem yu (W:RW) (es:List EX) {m i:Nat} (h:i<m):atM (mnK W es m) (i:Int)=mnN W es (i+1):=by
 unfold atM
 rw [if_neg (by omega),Int.toNat_natCast,zfx W es m i h];rfl
theorem YR (es:List EX) {m i:Nat} (h:i<m):atL (zT es m) (i:Int)=yh es (i+1):=by
 rw [Xx,if_neg (by omega),if_pos (by omega),Int.toNat_natCast]
inductive GD (E:List EX):Nat->Prop where
 | servers {j:Nat} {e:EX}:E[j]?=some e->e.kind=123->0<e.items.length->e.items.length<=16->(∀ x∈e.items,0<=x.num/\x.num<=63/\x.arm=-1)->e.inner=-1->GD E j
 | alias {j:Nat} {e:EX}:E[j]?=some e->e.kind=64->0<=e.nv->e.nv<=15->e.items=[]->e.inner=-1->GD E j
 | name {j i:Nat} {e:EX}:E[j]?=some e->e.kind=61->e.items=[]->e.inner=(i:Int)->i<j->GD E i->GD E j
 | ttl {j i:Nat} {e:EX}:E[j]?=some e->e.kind=116->1<=e.nv->e.nv<=86400->e.items=[]->e.inner=(i:Int)->i<j->GD E i->GD E j
 | list {j i:Nat} {e:EX}:E[j]?=some e->(e.kind=119\/e.kind=102)->0<e.items.length->e.items.length<=16->(∀ x∈e.items,0<=x.num/\x.num<=63/\x.arm=-1/\(e.kind=119->1<=x.wv/\x.wv<=1000))->e.inner=(i:Int)->i<j->GD E i->GD E j
 | maps {j i:Nat} {e:EX} {an:Nat->Nat}:E[j]?=some e->(e.kind=109\/e.kind=103)->0<e.items.length->e.items.length<=16->(∀ x∈e.items,(e.kind=109->M.isP x.pv x.pl=true)/\(e.kind=103->0<=x.num/\x.num<=99))->(e.kind=103->∀ (a b:Nat) (x y:IM),e.items[a]?=some x->e.items[b]?=some y->x.num=y.num->a=b)->(e.kind=109->∀ (a b:Nat) (x y:IM),e.items[a]?=some x->e.items[b]?=some y->x.pv=y.pv->x.pl=y.pl->a=b) ->
  (∀ (k:Nat) (x:IM),e.items[k]?=some x->x.arm=(an k:Int)/\an k<j)->(∀ k,k<e.items.length->GD E (an k))->e.inner=(i:Int)->i<j->GD E i->GD E j
/-! Bytes that lie in code. -/
def ZJ (C:List Int) (p:Nat) (X:List Int):Prop:=∀ (i:Nat) (x:Int),X[i]?=some x->C[p+i]?=some x
theorem ZJ.left {C:List Int} {p:Nat} {X Y:List Int} (h:ZJ C p (X++Y)):ZJ C p X:=fun i x hx=>h i x (by rw [List.getElem?_append_left (List.getElem?_eq_some_iff.1 hx).1];exact hx)
theorem ZJ.right {C:List Int} {p:Nat} {X Y:List Int} (h:ZJ C p (X++Y)):ZJ C (p+X.length) Y:=fun i x hx=>by
 have:=h (X.length+i) x (by rw [List.getElem?_append_right (by omega),Nat.add_sub_cancel_left];exact hx)
 rw [Nat.add_assoc];exact this
theorem ZJ.lt {C:List Int} {p i:Nat} {X:List Int} (h:ZJ C p X) (hi:i<X.length):p+i<C.length :=
 (List.getElem?_eq_some_iff.1 (h i X[i] (List.getElem?_eq_getElem hi))).1
def vL (X:List Int):Nat->Int
 | 0=>0
 | i+1=>vL X i+(X[i]?).getD 0*yV i
theorem zd9 {C:List Int} {p:Nat} {X:List Int} (b:Bool) (h:ZJ C p X):∀ i,i<=X.length->Zs C ⟨p,b⟩ i=⟨p+i,b⟩/\rdN C ⟨p,b⟩ i=vL X i:=by
 intro i
 induction i with
 | zero=>intro _;exact ⟨rfl,rfl⟩
 | succ i ih =>
  intro g
  obtain ⟨d,f⟩:=ih (by omega)
  have a:=h.lt (i:=i) (by omega)
  have e:=h i X[i] (List.getElem?_eq_getElem (by omega))
  constructor
  ·simp only [Zs,d,nx]
   rw [if_pos a];rfl
  ·simp only [rdN,vL,d,f,nxV,e]
   rw [List.getElem?_eq_getElem (by omega)]
theorem Ze {C:List Int} {p k:Nat} {n:Int} (b:Bool) (hk:k<=4) (h:ZJ C p (z6 n k)) (h0:0<=n) (h1:n<yV k):Zs C ⟨p,b⟩ k=⟨p+k,b⟩/\rdN C ⟨p,b⟩ k=n:=by
 have d:=zd9 b h k (by rw [zF];exact Nat.le_refl _)
 refine ⟨d.1,d.2.trans ?_⟩
 have a:k=0\/k=1\/k=2\/k=3\/k=4:=by omega
 rcases a with rfl | rfl | rfl | rfl | rfl
 all_goals simp [z6,vL,yV] at h1 ⊢
 all_goals omega
theorem Z7 {C:List Int} {p k:Nat} {n lo hi:Int} (b:Bool) (hk:k<=4) (h:ZJ C p (z6 n k)) (h0:0<=n) (h1:n<yV k) (h2:lo<=n) (h3:n<=hi):num C ⟨p,b⟩ k lo hi=⟨p+k,b⟩:=by
 obtain ⟨d,a⟩:=Ze b hk h h0 h1
 unfold num
 rw [d,a,if_neg (by omega)]
theorem Zf:yV 1=256:=by decide
theorem XF:yV 2=65536:=by decide
theorem zcB:yV 3=16777216:=by decide
theorem zcA:yV 4=4294967296:=by decide
theorem QD (K:List (List Int)) (e:EX):∀ m i,i<=m->∃ T,zq K e m=zq K e i++T:=by
 intro m
 induction m with
 | zero =>
  intro i h;have:i=0:=by omega
  subst this;exact ⟨[],by simp⟩
 | succ m ih =>
  intro i h
  by_cases b:i<=m
  ·obtain ⟨T,a⟩:=ih i b
   simp only [zq]
   exact ⟨_,by rw [a,List.append_assoc]⟩
  ·have:i=m+1:=by omega
   subst this;exact ⟨[],by simp⟩
theorem XU (K:List (List Int)) (e:EX):∀ m i,i<=m->∃ T,zg K e m=zg K e i++T:=by
 intro m
 induction m with
 | zero =>
  intro i h;have:i=0:=by omega
  subst this;exact ⟨[],by simp⟩
 | succ m ih =>
  intro i h
  by_cases b:i<=m
  ·obtain ⟨T,a⟩:=ih i b
   simp only [zg]
   exact ⟨_,by rw [a,List.append_assoc]⟩
  ·have:i=m+1:=by omega
   subst this;exact ⟨[],by simp⟩
theorem xt {C:List Int} {p:Nat} {K:List (List Int)} {e:EX} (h:ZJ C p (zq K e e.items.length)) {i:Nat} {x:IM} (hx:e.items[i]?=some x):ZJ C (p+(zq K e i).length) (yt e.kind x (zg K e i).length):=by
 obtain ⟨T,b⟩:=QD K e e.items.length (i+1) (List.getElem?_eq_some_iff.1 hx).1
 rw [b] at h
 have a:=h.left
 simp only [zq,hx] at a
 exact a.right
theorem XL {C:List Int} {p:Nat} {K:List (List Int)} {e:EX} (h:ZJ C p (zq K e e.items.length)):ZJ C p (yp e):=by
 obtain ⟨T,a⟩:=QD K e e.items.length 0 (Nat.zero_le _)
 rw [a] at h
 exact h.left
theorem zdA {C:List Int} {p:Nat} {K:List (List Int)} {e:EX} (h:ZJ C p (zg K e e.items.length)) {i:Nat} {x:IM} (hx:e.items[i]?=some x):ZJ C (p+(zg K e i).length) (atL K x.arm):=by
 obtain ⟨T,b⟩:=XU K e e.items.length (i+1) (List.getElem?_eq_some_iff.1 hx).1
 rw [b] at h
 have a:=h.left
 simp only [zg,hx] at a
 exact a.right
theorem qU {C:List Int} {p:Nat} {K:List (List Int)} {e:EX} (h:ZJ C p (zg K e e.items.length)):ZJ C p (atL K e.inner):=by
 obtain ⟨T,a⟩:=XU K e e.items.length 0 (Nat.zero_le _)
 rw [a] at h
 exact h.left
theorem JR {C:List Int} {p:Nat} {e:EX} (hk:e.kind=123\/e.kind=119\/e.kind=102\/e.kind=109\/e.kind=103) (h0:0<e.items.length) (h1:e.items.length<=16) (h:ZJ C p (yp e)) :
 nxV C ⟨p,false⟩=e.kind/\nx C ⟨p,false⟩=⟨p+1,false⟩/\cnR C ⟨p+1,false⟩=⟨p+2,false⟩/\cnN C ⟨p+1,false⟩=e.items.length/\(yp e).length=2:=by
 have f:yp e=z6 e.kind 1++z6 (e.items.length:Int) 1:=by
  unfold yp
  rw [if_neg (by omega),if_neg (by omega)]
 rw [f] at h ⊢
 have g:=h.left
 have a:=h.right
 rw [zF] at a
 have d:=Ze (b:=false) (by decide) g (by omega) (by rw [Zf];omega)
 have j:=Ze (b:=false) (by decide) a (by omega) (by rw [Zf];omega)
 have i:=Z7 (b:=false) (lo:=1) (hi:=16) (by decide) a (by omega) (by rw [Zf];omega) (by omega) (by omega)
 refine ⟨?_,?_,i,?_,by simp [zF]⟩
 ·have:=d.2
  simpa [rdN,Zs,yV] using this
 ·exact d.1
 ·unfold cnN
  rw [j.2];omega
theorem Xw {V L V' L':Nat->Int} {a:Int}:∀ n,(∀ i,i<n->V i=V' i/\L i=L' i)->M.bestTo V L a n=M.bestTo V' L' a n/\M.bitsTo V L a n=M.bitsTo V' L' a n/\M.depTo V L a n=M.depTo V' L' a n:=by
 intro n
 induction n with
 | zero=>intro _;exact ⟨rfl,rfl,rfl⟩
 | succ n ih =>
  intro h
  obtain ⟨g,f,e⟩:=ih (fun i hi=>h i (by omega))
  obtain ⟨d,b⟩:=h n (by omega)
  simp only [M.bestTo,M.bitsTo,M.depTo,M.need,g,f,e,d,b]
  exact ⟨trivial,trivial,rfl⟩
theorem jn {V L:Nat->Int} {a:Int}:∀ n,M.bestTo V L a n<n:=by
 intro n
 induction n with
 | zero=>simp [M.bestTo]
 | succ n ih=>simp only [M.bestTo];split<;>omega
theorem xx (K:List (List Int)) (e:EX) (h:(yp e).length=2):(zq K e 0).length=2:=h
theorem QS {C:List Int} {p:Nat} {K:List (List Int)} {e:EX} (hk:e.kind=123\/e.kind=102) (h2:(yp e).length=2) (hr:∀ x∈e.items,0<=x.num/\x.num<=63) (h:ZJ C p (zq K e e.items.length)) :
 ∀ i,i<=e.items.length->svR C ⟨p+2,false⟩ i=⟨p+(zq K e i).length,false⟩/\svL C ⟨p+2,false⟩ i=(e.items.map IM.num).take i/\∀ x,e.items[i]?=some x->rdN C (svR C ⟨p+2,false⟩ i) 1=x.num:=by
 intro i
 have b:∀ i x,e.items[i]?=some x->(rdN C ⟨p+(zq K e i).length,false⟩ 1=x.num/\num C ⟨p+(zq K e i).length,false⟩ 1 0 63=⟨p+(zq K e i).length+1,false⟩/\(zq K e (i+1)).length=(zq K e i).length+1):=by
  intro i x a
  have d:=xt h a
  have f:yt e.kind x (zg K e i).length=z6 x.num 1:=by
   unfold yt
   rw [if_neg (by omega),if_neg (by omega),if_neg (by omega)]
  rw [f] at d
  have l:=hr x (List.mem_of_getElem? a)
  refine ⟨(Ze false (by decide) d (by omega) (by rw [Zf];omega)).2,Z7 false (by decide) d (by omega) (by rw [Zf];omega) (by omega) (by omega),?_⟩
  simp only [zq,a,f,List.length_append,zF]
 induction i with
 | zero =>
  intro _
  have k:svR C ⟨p+2,false⟩ 0=⟨p+(zq K e 0).length,false⟩:=by rw [xx K e h2];rfl
  refine ⟨k,by simp [svL],fun x a=>?_⟩
  rw [k];exact (b 0 x a).1
 | succ i ih =>
  intro f
  obtain ⟨o,n,m⟩:=ih (by omega)
  obtain ⟨x,a⟩:∃ x,e.items[i]?=some x:=⟨e.items[i],List.getElem?_eq_getElem (by omega)⟩
  have g:=b i x a
  have j:svR C ⟨p+2,false⟩ (i+1)=⟨p+(zq K e (i+1)).length,false⟩:=by
   simp only [svR,o,g.2.1,g.2.2];rfl
  refine ⟨j,?_,fun y hy=>by rw [j];exact (b (i+1) y hy).1⟩
  simp only [svL,n,m x a]
  rw [List.take_add_one]
  simp [a]
theorem zem {W:RW} {C:List Int} {p:Nat} {K:List (List Int)} {e:EX} (hk:e.kind=119) (h2:(yp e).length=2) (hr:∀ x∈e.items,0<=x.num/\x.num<=63/\1<=x.wv/\x.wv<=1000) (h:ZJ C p (zq K e e.items.length)) :
 ∀ i,i<=e.items.length->meR C ⟨p+2,false⟩ i=⟨p+(zq K e i).length,false⟩/\meL W C ⟨p+2,false⟩ i=mbL W (e.items.take i):=by
 intro i
 have j:∀ i x,e.items[i]?=some x->(rdN C ⟨p+(zq K e i).length,false⟩ 1=x.num/\num C ⟨p+(zq K e i).length,false⟩ 1 0 63=⟨p+(zq K e i).length+1,false⟩/\rdN C ⟨p+(zq K e i).length+1,false⟩ 2=x.wv/\num C ⟨p+(zq K e i).length+1,false⟩ 2 1 1000=⟨p+(zq K e (i+1)).length,false⟩):=by
  intro i x b
  have g:=xt h b
  have k:yt e.kind x (zg K e i).length=z6 x.num 1++z6 x.wv 2:=by
   unfold yt
   rw [if_neg (by omega),if_neg (by omega),if_pos hk]
  rw [k] at g
  have r:=hr x (List.mem_of_getElem? b)
  have d:=g.left
  have a:=g.right
  rw [zF] at a
  have s:(zq K e (i+1)).length=(zq K e i).length+1+2:=by simp only [zq,b,k,List.length_append,zF]
  refine ⟨(Ze false (by decide) d (by omega) (by rw [Zf];omega)).2,Z7 false (by decide) d (by omega) (by rw [Zf];omega) (by omega) (by omega),(Ze false (by decide) a (by omega) (by rw [XF];omega)).2,?_⟩
  rw [Z7 false (by decide) a (by omega) (by rw [XF];omega) (by omega) (by omega),s]
  rfl
 induction i with
 | zero =>
  intro _
  have y:meR C ⟨p+2,false⟩ 0=⟨p+(zq K e 0).length,false⟩:=by rw [xx K e h2];rfl
  exact ⟨y,by simp [meL,mbL]⟩
 | succ i ih =>
  intro k
  obtain ⟨l,u⟩:=ih (by omega)
  obtain ⟨x,b⟩:∃ x,e.items[i]?=some x:=⟨e.items[i],List.getElem?_eq_getElem (by omega)⟩
  obtain ⟨q,m,o,n⟩:=j i x b
  refine ⟨by simp only [meR,l,m,n],?_⟩
  have w:meS C ⟨p+2,false⟩ i=x.num:=by unfold meS;rw [l,q]
  have v:meW C ⟨p+2,false⟩ i=x.wv:=by unfold meW;rw [l,m,o]
  simp only [meL,w,v,u]
  rw [List.take_add_one]
  simp only [b,Option.toList_some]
  unfold mbL
  rw [List.filter_append,List.map_append]
  by_cases f:upW W x.num=true
  ·rw [if_pos f];simp [f]
  ·rw [if_neg f];simp [f]
theorem zeU {C:List Int} {p:Nat} {K:List (List Int)} {e:EX} (hk:e.kind=109) (h2:(yp e).length=2) (hr:∀ x∈e.items,M.isP x.pv x.pl=true) (hw:(zg K e e.items.length).length<=32000) (h:ZJ C p (zq K e e.items.length)) :
 ∀ i,i<=e.items.length->amR C ⟨p+2,false⟩ i=⟨p+(zq K e i).length,false⟩/\(i<e.items.length->arV C ⟨p+2,false⟩ i=itV e i/\arL C ⟨p+2,false⟩ i=itL e i/\arW C ⟨p+2,false⟩ i=((zg K e i).length:Int)):=by
 intro i
 have f:∀ i x,e.items[i]?=some x->(rdN C ⟨p+(zq K e i).length,false⟩ 4=x.pv/\amV C ⟨p+(zq K e i).length,false⟩=⟨p+(zq K e i).length+4,false⟩/\rdN C ⟨p+(zq K e i).length+4,false⟩ 1=x.pl/\amL C ⟨p+(zq K e i).length,false⟩=⟨p+(zq K e i).length+5,false⟩/\rdN C ⟨p+(zq K e i).length+5,false⟩ 2=((zg K e i).length:Int)/\num C ⟨p+(zq K e i).length+5,false⟩ 2 0 32000=⟨p+(zq K e (i+1)).length,false⟩):=by
  intro i x a
  have k:=xt h a
  have hi:yt e.kind x (zg K e i).length=z6 x.pv 4++z6 x.pl 1++z6 (zg K e i).length 2:=by
   unfold yt
   rw [if_pos hk]
  rw [hi] at k
  have g:=hr x (List.mem_of_getElem? a)
  obtain ⟨U,S,Q,P,_⟩:=M.isP_iff.1 g
  have j:=k.left.left
  have d:=k.left.right
  have b:=k.right
  rw [List.length_append,zF,zF] at b
  rw [zF] at d
  have G:=Zc K e e.items.length i (Nat.le_of_lt (List.getElem?_eq_some_iff.1 a).1)
  have H:(zq K e (i+1)).length=(zq K e i).length+5+2:=by simp only [zq,a,hi,List.length_append,zF]
  have z:=(Ze false (by decide) j (by omega) (by rw [zcA];omega)).2
  have O:=Z7 false (lo:=0) (hi:=4294967295) (by decide) j (by omega) (by rw [zcA];omega) (by omega) (by omega)
  have w:=(Ze false (by decide) d (by omega) (by rw [Zf];omega)).2
  have N:=Z7 false (lo:=0) (hi:=32) (by decide) d (by omega) (by rw [Zf];omega) (by omega) (by omega)
  have L:=(Ze false (by decide) b (by omega) (by rw [XF];omega)).2
  have J:=Z7 false (lo:=0) (hi:=32000) (by decide) b (by omega) (by rw [XF];omega) (by omega) (by omega)
  have c1:amV C ⟨p+(zq K e i).length,false⟩=⟨p+(zq K e i).length+4,false⟩:=O
  refine ⟨z,c1,w,?_,L,?_⟩
  ·unfold amL
   rw [c1,z,w,N,if_pos g]
  ·rw [H];exact J
 induction i with
 | zero =>
  intro _
  have v:amR C ⟨p+2,false⟩ 0=⟨p+(zq K e 0).length,false⟩:=by rw [xx K e h2];rfl
  refine ⟨v,fun hi=>?_⟩
  obtain ⟨x,a⟩:∃ x,e.items[0]?=some x:=⟨e.items[0],List.getElem?_eq_getElem hi⟩
  obtain ⟨r,q,o,l,n,m⟩:=f 0 x a
  unfold arV arL arW itV itL
  rw [v,r,q,o,l,n,a]
  exact ⟨rfl,rfl,rfl⟩
 | succ i ih =>
  intro hi
  obtain ⟨I,_⟩:=ih (by omega)
  obtain ⟨x,a⟩:∃ x,e.items[i]?=some x:=⟨e.items[i],List.getElem?_eq_getElem (by omega)⟩
  obtain ⟨r,q,o,l,n,m⟩:=f i x a
  have u:amR C ⟨p+2,false⟩ (i+1)=⟨p+(zq K e (i+1)).length,false⟩:=by simp only [amR,I,l,m]
  refine ⟨u,fun hi'=>?_⟩
  obtain ⟨y,s⟩:∃ y,e.items[i+1]?=some y:=⟨e.items[i+1],List.getElem?_eq_getElem hi'⟩
  obtain ⟨F,E,D,B,A,R⟩:=f (i+1) y s
  unfold arV arL arW itV itL
  rw [u,F,E,D,B,A,s]
  exact ⟨rfl,rfl,rfl⟩
theorem zag {C:List Int} {p:Nat} {K:List (List Int)} {e:EX} (hk:e.kind=103) (h2:(yp e).length=2) (hr:∀ x∈e.items,0<=x.num/\x.num<=99) (hw:(zg K e e.items.length).length<=32000) (h:ZJ C p (zq K e e.items.length)) :
 ∀ i,i<=e.items.length->rgR C ⟨p+2,false⟩ i=⟨p+(zq K e i).length,false⟩/\(∀ x,e.items[i]?=some x->rgN C ⟨p+2,false⟩ i=x.num/\rgW C ⟨p+2,false⟩ i=((zg K e i).length:Int)):=by
 intro i
 have d:∀ i x,e.items[i]?=some x->(rdN C ⟨p+(zq K e i).length,false⟩ 1=x.num/\num C ⟨p+(zq K e i).length,false⟩ 1 0 99=⟨p+(zq K e i).length+1,false⟩/\rdN C ⟨p+(zq K e i).length+1,false⟩ 2=((zg K e i).length:Int)/\num C ⟨p+(zq K e i).length+1,false⟩ 2 0 32000=⟨p+(zq K e (i+1)).length,false⟩):=by
  intro i x a
  have j:=xt h a
  have k:yt e.kind x (zg K e i).length=z6 x.num 1++z6 (zg K e i).length 2:=by
   unfold yt
   rw [if_neg (by omega),if_pos hk]
  rw [k] at j
  have v:=hr x (List.mem_of_getElem? a)
  have f:=j.left
  have b:=j.right
  rw [zF] at b
  have w:=Zc K e e.items.length i (Nat.le_of_lt (List.getElem?_eq_some_iff.1 a).1)
  have z:(zq K e (i+1)).length=(zq K e i).length+1+2:=by simp only [zq,a,k,List.length_append,zF]
  refine ⟨(Ze false (by decide) f (by omega) (by rw [Zf];omega)).2,Z7 false (by decide) f (by omega) (by rw [Zf];omega) (by omega) (by omega),(Ze false (by decide) b (by omega) (by rw [XF];omega)).2,?_⟩
  rw [Z7 false (by decide) b (by omega) (by rw [XF];omega) (by omega) (by omega),z]
  rfl
 induction i with
 | zero =>
  intro _
  have q:rgR C ⟨p+2,false⟩ 0=⟨p+(zq K e 0).length,false⟩:=by rw [xx K e h2];rfl
  refine ⟨q,fun x a=>?_⟩
  obtain ⟨n,g,m,l⟩:=d 0 x a
  unfold rgN rgW
  rw [q,n,g,m]
  exact ⟨rfl,rfl⟩
 | succ i ih =>
  intro k
  obtain ⟨A,_⟩:=ih (by omega)
  obtain ⟨x,a⟩:∃ x,e.items[i]?=some x:=⟨e.items[i],List.getElem?_eq_getElem (by omega)⟩
  obtain ⟨n,g,m,l⟩:=d i x a
  have o:rgR C ⟨p+2,false⟩ (i+1)=⟨p+(zq K e (i+1)).length,false⟩:=by simp only [rgR,A,g,l]
  refine ⟨o,fun y hy=>?_⟩
  obtain ⟨u,s,r,B⟩:=d (i+1) y hy
  unfold rgN rgW
  rw [o,u,s,r]
  exact ⟨rfl,rfl⟩
end Go.Proofs.YtaebngpoagjafabGreat
