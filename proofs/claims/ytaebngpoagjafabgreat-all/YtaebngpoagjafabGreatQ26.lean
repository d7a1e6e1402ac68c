import Derived.Test.YtaebngpoagjafabGreatQ23
set_option maxRecDepth 100000
namespace Go.Proofs.YtaebngpoagjafabGreat
open Bool renaming false → F,true → S
open Option renaming some → N,none → P
def yY:Nat->Int
 |0=>1
 |n+1=>yY n*256
structure RW where
 addr:Int
 draw:Int
 dn:Nat->Bool
 al:List (List Int)
 reg:Int
 dep:Int
structure RD where
 p:Nat
 b:Bool
def nxV(C:List Int)(r:RD):Int:=(C[r.p]?).getD 0
def nx(C:List Int)(r:RD):RD:=if r.p<C.length then⟨r.p+1,r.b⟩else⟨r.p,S⟩
def Zt(C:List Int)(r:RD):Nat->RD
 |0=>r
 |i+1=>nx C (Zt C r i)
def rdN(C:List Int)(r:RD):Nat->Int
 |0=>0
 |i+1=>rdN C r i+nxV C (Zt C r i)*yY i
def num(C:List Int)(r:RD)(k:Nat)(lo hi:Int):RD:=⟨(Zt C r k).p,if rdN C r k<lo\/hi<rdN C r k then S else(Zt C r k).b⟩
def svR(C:List Int)(r:RD):Nat->RD
 |0=>r
 |i+1=>num C (svR C r i) 1 0 63
def svL(C:List Int)(r:RD):Nat->List Int
 |0=>[]
 |i+1=>svL C r i++[rdN C (svR C r i) 1]
def upW(W:RW)(s:Int):Bool:=decide (0<=s) && (decide (s<64) && !W.dn s.toNat)
def meR(C:List Int)(r:RD):Nat->RD
 |0=>r
 |i+1=>num C (num C (meR C r i) 1 0 63) 2 1 1000
def meS(C:List Int)(r:RD)(i:Nat):Int:=rdN C (meR C r i) 1
def meW(C:List Int)(r:RD)(i:Nat):Int:=rdN C (num C (meR C r i) 1 0 63) 2
def meL(W:RW)(C:List Int)(r:RD):Nat->List (Int×Int)
 |0=>[]
 |i+1=>if upW W (meS C r i)=S then meL W C r i++[(meS C r i,meW C r i)]else meL W C r i
def suL:List (Int×Int)->Int
 | []=>0
 |x::l=>x.2+suL l
def pkL:List (Int×Int)->Int->Option Int
 | [],_=>P
 |x::l,r=>if r<x.2 then N x.1 else pkL l (r-x.2)
def chG(W:RW)(C:List Int)(r:RD):Nat->Nat->Option Nat
 |_,0=>P
 |i,n+1=>if upW W (rdN C (svR C r i) 1)=S then N i else chG W C r (i+1) n
def amV(C:List Int)(r:RD):RD:=num C r 4 0 4294967295
def amL(C:List Int)(r:RD):RD:=⟨(num C (amV C r) 1 0 32).p,if M.isP (rdN C r 4) (rdN C (amV C r) 1)=S then(num C (amV C r) 1 0 32).b else S⟩
def amR(C:List Int)(r:RD):Nat->RD
 |0=>r
 |i+1=>num C (amL C (amR C r i)) 2 0 32000
def arV(C:List Int)(r:RD)(i:Nat):Int:=rdN C (amR C r i) 4
def arL(C:List Int)(r:RD)(i:Nat):Int:=rdN C (amV C (amR C r i)) 1
def arW(C:List Int)(r:RD)(i:Nat):Int:=rdN C (amL C (amR C r i)) 2
def rgR(C:List Int)(r:RD):Nat->RD
 |0=>r
 |i+1=>num C (num C (rgR C r i) 1 0 99) 2 0 32000
def rgN(C:List Int)(r:RD)(i:Nat):Int:=rdN C (rgR C r i) 1
def rgW(C:List Int)(r:RD)(i:Nat):Int:=rdN C (num C (rgR C r i) 1 0 99) 2
def rgT(W:RW)(C:List Int)(r:RD):Nat->Int
 |0=>0
 |i+1=>if rgN C r i=W.reg then rgW C r i else rgT W C r i
structure RT where
 r:RD
 sv:List Int
 ttl:Int
 sc:Int
def cnR(C:List Int)(r:RD):RD:=num C r 1 1 16
def cnN(C:List Int)(r:RD):Nat:=(rdN C r 1).toNat
def nar(d sc:Int):Int:=if sc<d then d else sc
def ZC(C:List Int)(s:RT):RT:=⟨svR C (cnR C s.r) (cnN C s.r),s.sv++svL C (cnR C s.r) (cnN C s.r),s.ttl,s.sc⟩
def Zp(W:RW)(C:List Int)(s:RT):RT×Bool :=
 if suL (meL W C (cnR C s.r) (cnN C s.r))<=0 then(⟨meR C (cnR C s.r) (cnN C s.r),s.sv,s.ttl,s.sc⟩,F)
 else match pkL (meL W C (cnR C s.r) (cnN C s.r)) (W.draw%suL (meL W C (cnR C s.r) (cnN C s.r)))with
  |some x=>(⟨meR C (cnR C s.r) (cnN C s.r),s.sv++[x],s.ttl,s.sc⟩,S)
  |none=>(⟨meR C (cnR C s.r) (cnN C s.r),s.sv,s.ttl,s.sc⟩,F)
def yS(W:RW)(C:List Int)(s:RT):RT×Bool :=
 match chG W C (cnR C s.r) 0 (cnN C s.r)with
 |some i=>(⟨svR C (cnR C s.r) (i+1),s.sv++[rdN C (svR C (cnR C s.r) i) 1],s.ttl,s.sc⟩,S)
 |none=>(⟨svR C (cnR C s.r) (cnN C s.r),s.sv,s.ttl,s.sc⟩,F)
def yw(W:RW)(C:List Int)(s:RT):RT :=
 ⟨⟨(amR C (cnR C s.r) (cnN C s.r)).p+(if M.bestTo (arV C (cnR C s.r)) (arL C (cnR C s.r)) W.addr (cnN C s.r)<0 then 0 else(arW C (cnR C s.r) (M.bestTo (arV C (cnR C s.r)) (arL C (cnR C s.r)) W.addr (cnN C s.r)).toNat).toNat),(amR C (cnR C s.r) (cnN C s.r)).b⟩,s.sv,s.ttl,nar (M.depTo (arV C (cnR C s.r)) (arL C (cnR C s.r)) W.addr (cnN C s.r)) s.sc⟩
def Zc(W:RW)(C:List Int)(s:RT):RT :=
 ⟨⟨(rgR C (cnR C s.r) (cnN C s.r)).p+(rgT W C (cnR C s.r) (cnN C s.r)).toNat,(rgR C (cnR C s.r) (cnN C s.r)).b⟩,s.sv,s.ttl,nar W.dep s.sc⟩
def yB(C:List Int)(s:RT):RT:=⟨num C s.r 3 1 86400,s.sv,if rdN C s.r 3<s.ttl then rdN C s.r 3 else s.ttl,s.sc⟩
def ZY(W:RW)(C:List Int)(s:RT):RT:=⟨num C s.r 1 0 15,s.sv++(W.al[(rdN C s.r 1).toNat]?).getD [],s.ttl,s.sc⟩
def zD(W:RW)(C:List Int)(s:RT):RT×Bool :=
 let k:=nxV C s.r
 let t:RT:=⟨nx C s.r,s.sv,s.ttl,s.sc⟩
 if k=123 then(ZC C t,S)
 else if k=119 then Zp W C t
 else if k=102 then yS W C t
 else if k=109 then(yw W C t,F)
 else if k=103 then(Zc W C t,F)
 else if k=116 then(yB C t,F)
 else if k=64 then(ZY W C t,S)
 else(⟨⟨t.r.p,S⟩,t.sv,t.ttl,t.sc⟩,F)
def Yp(W:RW)(C:List Int):Nat->RT->Int×(List Int×Int×Int)
 |0,_=>(11,[],0,0)
 | f+1,s =>
  if(zD W C s).1.r.b=S then(10,[],0,0)
  else if(zD W C s).2=S then(0,(zD W C s).1.sv,(zD W C s).1.ttl,(zD W C s).1.sc)
  else Yp W C f (zD W C s).1
theorem Ju(n:Nat):0<yY n:=by
 induction n with
 |zero=>decide
 |succ n ih=>simp only[yY];omega
structure MN where
 sv:List Int
 ttl:Int
 sc:Int
def atM(K:List MN)(i:Int):MN:=if i<0 then⟨[],0,0⟩else(K[i.toNat]?).getD ⟨[],0,0⟩
def itV(e:EX)(i:Nat):Int:=match e.items[i]? with|some x=>x.pv|none=>0
def itL(e:EX)(i:Nat):Int:=match e.items[i]? with|some x=>x.pl|none=>0
def mbL(W:RW)(l:List IM):List (Int×Int):=(l.filter (λx=>upW W x.num)).map (λx=>(x.num,x.wv))
def Yg(W:RW)(l:List IM):Option Int:=if suL (mbL W l)<=0 then P else pkL (mbL W l) (W.draw%suL (mbL W l))
def yZ(W:RW)(l:List IM):Option Int:=(l.find? (λx=>upW W x.num)).map IM.num
def ZN(W:RW)(e:EX):Int:=if M.bestTo (itV e) (itL e) W.addr e.items.length<0 then e.inner else match e.items[(M.bestTo (itV e) (itL e) W.addr e.items.length).toNat]? with|some x=>x.arm|none=>e.inner
def xj(W:RW)(e:EX):Int:=match e.items.find? (λx=>x.num==W.reg)with|some x=>x.arm|none=>e.inner
def mnE(W:RW)(K:List MN)(e:EX):MN :=
 if e.kind=123 then⟨e.items.map IM.num,86400,0⟩
 else if e.kind=64 then⟨(W.al[e.nv.toNat]?).getD [],86400,0⟩
 else if e.kind=61 then atM K e.inner
 else if e.kind=116 then⟨(atM K e.inner).sv,if e.nv<(atM K e.inner).ttl then e.nv else(atM K e.inner).ttl,(atM K e.inner).sc⟩
 else if e.kind=119 then(match Yg W e.items with|some x=>⟨[x],86400,0⟩|none=>atM K e.inner)
 else if e.kind=102 then(match yZ W e.items with|some x=>⟨[x],86400,0⟩|none=>atM K e.inner)
 else if e.kind=109 then⟨(atM K (ZN W e)).sv,(atM K (ZN W e)).ttl,nar (M.depTo (itV e) (itL e) W.addr e.items.length) (atM K (ZN W e)).sc⟩
 else⟨(atM K (xj W e)).sv,(atM K (xj W e)).ttl,nar W.dep (atM K (xj W e)).sc⟩
def mnK(W:RW)(es:List EX):Nat->List MN
 |0=>[]
 |j+1=>mnK W es j++[match es[j]? with|some e=>mnE W (mnK W es j) e|none=>⟨[],0,0⟩]
def mnN(W:RW)(es:List EX):Nat->MN
 |0=>⟨[],0,0⟩
 |j+1=>match es[j]? with|some e=>mnE W (mnK W es j) e|none=>⟨[],0,0⟩
theorem jP(W:RW)(a:List EX):∀j,(mnK W a j).length=j:=by
 intro j;induction j with
 |zero=>rfl
 |succ j ih=>simp[mnK,ih]
theorem zgB(W:RW)(b:List EX):∀m i,i<m->(mnK W b m)[i]?=N (mnN W b (i+1)):=by
 intro m;induction m with
 |zero=>intro i h;omega
 | succ m ih =>
  intro i h;by_cases a:i<m
  ·simp only[mnK];rw[List.getElem?_append_left (by rw[jP];exact a)];exact ih i a
  ·have:i=m:=by omega
   subst this;simp only[mnK];rw[List.getElem?_append_right (by rw[jP];exact Nat.le_refl _),jP];simp[mnN]
theorem yF(W:RW)(a:List EX){m i:Nat}(h:i<m):atM (mnK W a m) (i:Int)=mnN W a (i+1):=by
 unfold atM;rw[if_neg ol,Int.toNat_natCast,zgB W a m i h];rfl
theorem Y9(a:List EX){m i:Nat}(h:i<m):atL (zW a m) (i:Int)=yj a (i+1):=by
 rw[qb,if_neg ol,if_pos ol,Int.toNat_natCast]
inductive GD (E:List EX):Nat->Prop where
 |servers {j:Nat} {e:EX}:E[j]?=N e->e.kind=123->0<e.items.length->e.items.length<=16->(∀x∈e.items,0<=x.num/\x.num<=63/\x.arm=-1)->e.inner=-1->GD E j
 |alias {j:Nat} {e:EX}:E[j]?=N e->e.kind=64->0<=e.nv->e.nv<=15->e.items=[]->e.inner=-1->GD E j
 |name {j i:Nat} {e:EX}:E[j]?=N e->e.kind=61->e.items=[]->e.inner=(i:Int)->i<j->GD E i->GD E j
 |ttl {j i:Nat} {e:EX}:E[j]?=N e->e.kind=116->1<=e.nv->e.nv<=86400->e.items=[]->e.inner=(i:Int)->i<j->GD E i->GD E j
 |list {j i:Nat} {e:EX}:E[j]?=N e->(e.kind=119\/e.kind=102)->0<e.items.length->e.items.length<=16->(∀x∈e.items,0<=x.num/\x.num<=63/\x.arm=-1/\(e.kind=119->1<=x.wv/\x.wv<=1000))->e.inner=(i:Int)->i<j->GD E i->GD E j
 | maps {j i:Nat} {e:EX} {an:Nat->Nat}:E[j]?=N e->(e.kind=109\/e.kind=103)->0<e.items.length->e.items.length<=16->(∀ x∈e.items,(e.kind=109->M.isP x.pv x.pl=S)/\(e.kind=103->0<=x.num/\x.num<=99))->(e.kind=103->∀ (a b:Nat) (x y:IM),e.items[a]?=N x->e.items[b]?=N y->x.num=y.num->a=b)->(e.kind=109->∀ (a b:Nat) (x y:IM),e.items[a]?=N x->e.items[b]?=N y->x.pv=y.pv->x.pl=y.pl->a=b) ->
  (∀(k:Nat) (x:IM),e.items[k]?=N x->x.arm=(an k:Int)/\an k<j)->(∀k,k<e.items.length->GD E (an k))->e.inner=(i:Int)->i<j->GD E i->GD E j
/-! Bytes that lie in code. -/
def ZU(C:List Int)(p:Nat)(X:List Int):Prop:=∀(i:Nat) (x:Int),X[i]?=N x->C[p+i]?=N x
theorem ZU.left{C:List Int}{p:Nat}{X Y:List Int}(h:ZU C p (X++Y)):ZU C p X:=λi x hx=>h i x (by rw[List.getElem?_append_left (List.getElem?_eq_some_iff.1 hx).1];exact hx)
theorem ZU.right{C:List Int}{p:Nat}{X Y:List Int}(h:ZU C p (X++Y)):ZU C (p+X.length) Y:=λi x hx=>by
 have:=h (X.length+i) x (by rw[List.getElem?_append_right ol,Nat.add_sub_cancel_left];exact hx)
 rw[Nat.add_assoc];exact this
theorem ZU.lt{C:List Int}{p i:Nat}{X:List Int}(h:ZU C p X)(hi:i<X.length):p+i<C.length :=
 (List.getElem?_eq_some_iff.1 (h i X[i] (List.getElem?_eq_getElem hi))).1
def vL(X:List Int):Nat->Int
 |0=>0
 |i+1=>vL X i+(X[i]?).getD 0*yY i
theorem zfc{C:List Int}{p:Nat}{X:List Int}(b:Bool)(h:ZU C p X):∀i,i<=X.length->Zt C ⟨p,b⟩ i=⟨p+i,b⟩/\rdN C ⟨p,b⟩ i=vL X i:=by
 intro i;induction i with
 |zero=>intro _;exact⟨rfl,rfl⟩
 | succ i ih =>
  intro f;obtain⟨c,e⟩:=ih ol;have a:=h.lt (i:=i) ol;have d:=h i X[i] (List.getElem?_eq_getElem ol);constructor
  ·simp only[Zt,c,nx];rw[if_pos a];rfl
  ·simp only[rdN,vL,c,e,nxV,d];rw[List.getElem?_eq_getElem ol]
theorem Zs{C:List Int}{p k:Nat}{n:Int}(b:Bool)(e:k<=4)(h:ZU C p (z8 n k))(f:0<=n)(d:n<yY k):Zt C ⟨p,b⟩ k=⟨p+k,b⟩/\rdN C ⟨p,b⟩ k=n:=by
 have c:=zfc b h k (by rw[zG];exact Nat.le_refl _);refine⟨c.1,c.2.trans ?_⟩;have a:k=0\/k=1\/k=2\/k=3\/k=4:=ol;rcases a with rfl|rfl|rfl|rfl|rfl
 all_goals simp[z8,vL,yY]at d⊢
 all_goals omega
theorem Yi{C:List Int}{p k:Nat}{n lo hi:Int}(b:Bool)(a:k<=4)(h:ZU C p (z8 n k))(f:0<=n)(e:n<yY k)(i:lo<=n)(g:n<=hi):num C ⟨p,b⟩ k lo hi=⟨p+k,b⟩:=by
 obtain⟨d,c⟩:=Zs b a h f e;unfold num;rw[d,c,if_neg ol]
theorem Zu:yY 1=256:=oq
theorem qu:yY 2=65536:=oq
theorem zdA:yY 3=16777216:=oq
theorem zdz:yY 4=4294967296:=oq
theorem jl(K:List (List Int))(e:EX):∀m i,i<=m->∃T,zt K e m=zt K e i++T:=by
 intro m;induction m with
 | zero =>
  intro i h;have:i=0:=ol
  subst this;exact⟨[],ot⟩
 | succ m ih =>
  intro i h;by_cases b:i<=m
  ·obtain⟨T,a⟩:=ih i b;simp only[zt];exact⟨_,by rw[a,List.append_assoc]⟩
  ·have:i=m+1:=by omega
   subst this;exact⟨[],ot⟩
theorem qJ(K:List (List Int))(e:EX):∀m i,i<=m->∃T,zh K e m=zh K e i++T:=by
 intro m;induction m with
 | zero =>
  intro i h;have:i=0:=ol
  subst this;exact⟨[],ot⟩
 | succ m ih =>
  intro i h;by_cases b:i<=m
  ·obtain⟨T,a⟩:=ih i b;simp only[zh];exact⟨_,by rw[a,List.append_assoc]⟩
  ·have:i=m+1:=by omega
   subst this;exact⟨[],ot⟩
theorem xU{C:List Int}{p:Nat}{K:List (List Int)}{e:EX}(h:ZU C p (zt K e e.items.length)){i:Nat}{x:IM}(a:e.items[i]?=N x):ZU C (p+(zt K e i).length) (yD e.kind x (zh K e i).length):=by
 obtain⟨T,c⟩:=jl K e e.items.length (i+1) (List.getElem?_eq_some_iff.1 a).1;rw[c]at h;have b:=h.left;simp only[zt,a]at b;exact b.right
theorem qC{C:List Int}{p:Nat}{K:List (List Int)}{e:EX}(h:ZU C p (zt K e e.items.length)):ZU C p (yu e):=by
 obtain⟨T,a⟩:=jl K e e.items.length 0 (Nat.zero_le _);rw[a]at h;exact h.left
theorem zeB{C:List Int}{p:Nat}{K:List (List Int)}{e:EX}(h:ZU C p (zh K e e.items.length)){i:Nat}{x:IM}(a:e.items[i]?=N x):ZU C (p+(zh K e i).length) (atL K x.arm):=by
 obtain⟨T,c⟩:=qJ K e e.items.length (i+1) (List.getElem?_eq_some_iff.1 a).1;rw[c]at h;have b:=h.left;simp only[zh,a]at b;exact b.right
theorem QL{C:List Int}{p:Nat}{K:List (List Int)}{e:EX}(h:ZU C p (zh K e e.items.length)):ZU C p (atL K e.inner):=by
 obtain⟨T,a⟩:=qJ K e e.items.length 0 (Nat.zero_le _);rw[a]at h;exact h.left
theorem zaE{C:List Int}{p:Nat}{e:EX}(j:e.kind=123\/e.kind=119\/e.kind=102\/e.kind=109\/e.kind=103)(l:0<e.items.length)(k:e.items.length<=16)(h:ZU C p (yu e)):
 nxV C ⟨p,F⟩=e.kind/\nx C ⟨p,F⟩=⟨p+1,F⟩/\cnR C ⟨p+1,F⟩=⟨p+2,F⟩/\cnN C ⟨p+1,F⟩=e.items.length/\(yu e).length=2:=by
 have d:yu e=z8 e.kind 1++z8 (e.items.length:Int) 1:=by
  unfold yu;rw[if_neg ol,if_neg ol]
 rw[d]at h⊢;have f:=h.left;have a:=h.right;rw[zG]at a;have c:=Zs (b:=false) oq f ol (by rw[Zu];omega);have i:=Zs (b:=false) oq a ol (by rw[Zu];omega);have g:=Yi (b:=false) (lo:=1) (hi:=16) oq a ol (by rw[Zu];omega) ol ol;refine⟨?_,?_,g,?_,by simp[zG]⟩
 ·have:=c.2
  simpa[rdN,Zt,yY]using this
 ·exact c.1
 ·unfold cnN;rw[i.2];omega
theorem qa{V L b c:Nat->Int}{a:Int}:∀n,(∀i,i<n->V i=b i/\L i=c i)->M.bestTo V L a n=M.bestTo b c a n/\M.bitsTo V L a n=M.bitsTo b c a n/\M.depTo V L a n=M.depTo b c a n:=by
 intro n;induction n with
 |zero=>intro _;exact⟨rfl,rfl,rfl⟩
 | succ n ih =>
  intro h;obtain⟨j,g,f⟩:=ih (λi hi=>h i ol);obtain⟨e,d⟩:=h n ol;simp only[M.bestTo,M.bitsTo,M.depTo,M.need,j,g,f,e,d];exact⟨trivial,trivial,rfl⟩
theorem j6{V L:Nat->Int}{a:Int}:∀n,M.bestTo V L a n<n:=by
 intro n;induction n with
 |zero=>simp[M.bestTo]
 |succ n ih=>simp only[M.bestTo];split<;>omega
theorem xZ(K:List (List Int))(e:EX)(h:(yu e).length=2):(zt K e 0).length=2:=h
theorem jC{C:List Int}{p:Nat}{K:List (List Int)}{e:EX}(r:e.kind=123\/e.kind=102)(q:(yu e).length=2)(l:∀x∈e.items,0<=x.num/\x.num<=63)(h:ZU C p (zt K e e.items.length)):
 ∀i,i<=e.items.length->svR C ⟨p+2,F⟩ i=⟨p+(zt K e i).length,F⟩/\svL C ⟨p+2,F⟩ i=(e.items.map IM.num).take i/\∀x,e.items[i]?=N x->rdN C (svR C ⟨p+2,F⟩ i) 1=x.num:=by
 intro i;have b:∀i x,e.items[i]?=N x->(rdN C ⟨p+(zt K e i).length,F⟩ 1=x.num/\num C ⟨p+(zt K e i).length,F⟩ 1 0 63=⟨p+(zt K e i).length+1,F⟩/\(zt K e (i+1)).length=(zt K e i).length+1):=by
  intro i x a;have c:=xU h a;have d:yD e.kind x (zh K e i).length=z8 x.num 1:=by
   unfold yD;rw[if_neg ol,if_neg ol,if_neg ol]
  rw[d]at c;have k:=l x (List.mem_of_getElem? a);refine⟨(Zs F oq c ol (by rw[Zu];omega)).2,Yi F oq c ol (by rw[Zu];omega) ol ol,?_⟩;simp only[zt,a,d,List.length_append,zG]
 induction i with
 | zero =>
  intro _;have j:svR C ⟨p+2,F⟩ 0=⟨p+(zt K e 0).length,F⟩:=by rw[xZ K e q];rfl
  refine⟨j,by simp[svL],λx a=>?_⟩;rw[j];exact(b 0 x a).1
 | succ i ih =>
  intro d;obtain⟨o,n,m⟩:=ih ol;obtain⟨x,a⟩:∃x,e.items[i]?=N x:=⟨e.items[i],List.getElem?_eq_getElem ol⟩;have f:=b i x a;have g:svR C ⟨p+2,F⟩ (i+1)=⟨p+(zt K e (i+1)).length,F⟩:=by
   simp only[svR,o,f.2.1,f.2.2];rfl
  refine⟨g,?_,λy hy=>by rw[g];exact(b (i+1) y hy).1⟩;simp only[svL,n,m x a];rw[List.take_add_one];simp[a]
theorem zfq{W:RW}{C:List Int}{p:Nat}{K:List (List Int)}{e:EX}(t:e.kind=119)(v:(yu e).length=2)(r:∀x∈e.items,0<=x.num/\x.num<=63/\1<=x.wv/\x.wv<=1000)(h:ZU C p (zt K e e.items.length)):
 ∀i,i<=e.items.length->meR C ⟨p+2,F⟩ i=⟨p+(zt K e i).length,F⟩/\meL W C ⟨p+2,F⟩ i=mbL W (e.items.take i):=by
 intro i;have g:∀i x,e.items[i]?=N x->(rdN C ⟨p+(zt K e i).length,F⟩ 1=x.num/\num C ⟨p+(zt K e i).length,F⟩ 1 0 63=⟨p+(zt K e i).length+1,F⟩/\rdN C ⟨p+(zt K e i).length+1,F⟩ 2=x.wv/\num C ⟨p+(zt K e i).length+1,F⟩ 2 1 1000=⟨p+(zt K e (i+1)).length,F⟩):=by
  intro i x b;have f:=xU h b;have j:yD e.kind x (zh K e i).length=z8 x.num 1++z8 x.wv 2:=by
   unfold yD;rw[if_neg ol,if_neg ol,if_pos t]
  rw[j]at f;have q:=r x (List.mem_of_getElem? b);have c:=f.left;have a:=f.right;rw[zG]at a;have s:(zt K e (i+1)).length=(zt K e i).length+1+2:=by simp only[zt,b,j,List.length_append,zG]
  refine⟨(Zs F oq c ol (by rw[Zu];omega)).2,Yi F oq c ol (by rw[Zu];omega) ol ol,(Zs F oq a ol (by rw[qu];omega)).2,?_⟩;rw[Yi F oq a ol (by rw[qu];omega) ol ol,s];rfl
 induction i with
 | zero =>
  intro _;have z:meR C ⟨p+2,F⟩ 0=⟨p+(zt K e 0).length,F⟩:=by rw[xZ K e v];rfl
  exact⟨z,by simp[meL,mbL]⟩
 | succ i ih =>
  intro j;obtain⟨k,u⟩:=ih ol;obtain⟨x,b⟩:∃x,e.items[i]?=N x:=⟨e.items[i],List.getElem?_eq_getElem ol⟩;obtain⟨o,l,n,m⟩:=g i x b;refine⟨by simp only[meR,k,l,m],?_⟩;have y:meS C ⟨p+2,F⟩ i=x.num:=by unfold meS;rw[k,o]
  have w:meW C ⟨p+2,F⟩ i=x.wv:=by unfold meW;rw[k,l,n]
  simp only[meL,y,w,u];rw[List.take_add_one];simp only[b,Option.toList_some];unfold mbL;rw[List.filter_append,List.map_append];by_cases d:upW W x.num=S
  ·rw[if_pos d];simp[d]
  ·rw[if_neg d];simp[d]
theorem zfX{C:List Int}{p:Nat}{K:List (List Int)}{e:EX}(J:e.kind=109)(O:(yu e).length=2)(H:∀x∈e.items,M.isP x.pv x.pl=S)(hw:(zh K e e.items.length).length<=32000)(h:ZU C p (zt K e e.items.length)):
 ∀i,i<=e.items.length->amR C ⟨p+2,F⟩ i=⟨p+(zt K e i).length,F⟩/\(i<e.items.length->arV C ⟨p+2,F⟩ i=itV e i/\arL C ⟨p+2,F⟩ i=itL e i/\arW C ⟨p+2,F⟩ i=((zh K e i).length:Int)):=by
 intro i;have d:∀i x,e.items[i]?=N x->(rdN C ⟨p+(zt K e i).length,F⟩ 4=x.pv/\amV C ⟨p+(zt K e i).length,F⟩=⟨p+(zt K e i).length+4,F⟩/\rdN C ⟨p+(zt K e i).length+4,F⟩ 1=x.pl/\amL C ⟨p+(zt K e i).length,F⟩=⟨p+(zt K e i).length+5,F⟩/\rdN C ⟨p+(zt K e i).length+5,F⟩ 2=((zh K e i).length:Int)/\num C ⟨p+(zt K e i).length+5,F⟩ 2 0 32000=⟨p+(zt K e (i+1)).length,F⟩):=by
  intro i x a;have j:=xU h a;have hi:yD e.kind x (zh K e i).length=z8 x.pv 4++z8 x.pl 1++z8 (zh K e i).length 2:=by
   unfold yD;rw[if_pos J]
  rw[hi]at j;have f:=H x (List.mem_of_getElem? a);obtain⟨Z,Y,W,V,_⟩:=M.isP_iff.1 f;have g:=j.left.left;have c:=j.left.right;have b:=j.right;rw[List.length_append,zG,zG]at b;rw[zG]at c;have G:=Zo K e e.items.length i (Nat.le_of_lt (List.getElem?_eq_some_iff.1 a).1);have I:(zt K e (i+1)).length=(zt K e i).length+5+2:=by simp only[zt,a,hi,List.length_append,zG]
  have w:=(Zs F oq g ol (by rw[zdz];omega)).2;have U:=Yi F (lo:=0) (hi:=4294967295) oq g ol (by rw[zdz];omega) ol ol;have v:=(Zs F oq c ol (by rw[Zu];omega)).2;have R:=Yi F (lo:=0) (hi:=32) oq c ol (by rw[Zu];omega) ol ol;have Q:=(Zs F oq b ol (by rw[qu];omega)).2;have P:=Yi F (lo:=0) (hi:=32000) oq b ol (by rw[qu];omega) ol ol;have u:amV C ⟨p+(zt K e i).length,F⟩=⟨p+(zt K e i).length+4,F⟩:=U;refine⟨w,u,v,?_,Q,?_⟩
  ·unfold amL;rw[u,w,v,R,if_pos f]
  ·rw[I];exact P
 induction i with
 | zero =>
  intro _;have t:amR C ⟨p+2,F⟩ 0=⟨p+(zt K e 0).length,F⟩:=by rw[xZ K e O];rfl
  refine⟨t,λhi=>?_⟩;obtain⟨x,a⟩:∃x,e.items[0]?=N x:=⟨e.items[0],List.getElem?_eq_getElem hi⟩;obtain⟨q,o,n,k,m,l⟩:=d 0 x a;unfold arV arL arW itV itL;rw[t,q,o,n,k,m,a];exact⟨rfl,rfl,rfl⟩
 | succ i ih =>
  intro hi;obtain⟨L,_⟩:=ih ol;obtain⟨x,a⟩:∃x,e.items[i]?=N x:=⟨e.items[i],List.getElem?_eq_getElem ol⟩;obtain⟨q,o,n,k,m,l⟩:=d i x a;have s:amR C ⟨p+2,F⟩ (i+1)=⟨p+(zt K e (i+1)).length,F⟩:=by simp only[amR,L,k,l]
  refine⟨s,λhi'=>?_⟩;obtain⟨y,r⟩:∃y,e.items[i+1]?=N y:=⟨e.items[i+1],List.getElem?_eq_getElem hi'⟩;obtain⟨E,D,B,A,z,X⟩:=d (i+1) y r;unfold arV arL arW itV itL;rw[s,E,D,B,A,z,r];exact⟨rfl,rfl,rfl⟩
theorem za7{C:List Int}{p:Nat}{K:List (List Int)}{e:EX}(z:e.kind=103)(B:(yu e).length=2)(v:∀x∈e.items,0<=x.num/\x.num<=99)(E:(zh K e e.items.length).length<=32000)(h:ZU C p (zt K e e.items.length)):
 ∀i,i<=e.items.length->rgR C ⟨p+2,F⟩ i=⟨p+(zt K e i).length,F⟩/\(∀x,e.items[i]?=N x->rgN C ⟨p+2,F⟩ i=x.num/\rgW C ⟨p+2,F⟩ i=((zh K e i).length:Int)):=by
 intro i;have c:∀i x,e.items[i]?=N x->(rdN C ⟨p+(zt K e i).length,F⟩ 1=x.num/\num C ⟨p+(zt K e i).length,F⟩ 1 0 99=⟨p+(zt K e i).length+1,F⟩/\rdN C ⟨p+(zt K e i).length+1,F⟩ 2=((zh K e i).length:Int)/\num C ⟨p+(zt K e i).length+1,F⟩ 2 0 32000=⟨p+(zt K e (i+1)).length,F⟩):=by
  intro i x a;have g:=xU h a;have j:yD e.kind x (zh K e i).length=z8 x.num 1++z8 (zh K e i).length 2:=by
   unfold yD;rw[if_neg ol,if_pos z]
  rw[j]at g;have t:=v x (List.mem_of_getElem? a);have d:=g.left;have b:=g.right;rw[zG]at b;have u:=Zo K e e.items.length i (Nat.le_of_lt (List.getElem?_eq_some_iff.1 a).1);have w:(zt K e (i+1)).length=(zt K e i).length+1+2:=by simp only[zt,a,j,List.length_append,zG]
  refine⟨(Zs F oq d ol (by rw[Zu];omega)).2,Yi F oq d ol (by rw[Zu];omega) ol ol,(Zs F oq b ol (by rw[qu];omega)).2,?_⟩;rw[Yi F oq b ol (by rw[qu];omega) ol ol,w];rfl
 induction i with
 | zero =>
  intro _;have o:rgR C ⟨p+2,F⟩ 0=⟨p+(zt K e 0).length,F⟩:=by rw[xZ K e B];rfl
  refine⟨o,λx a=>?_⟩;obtain⟨m,f,l,k⟩:=c 0 x a;unfold rgN rgW;rw[o,m,f,l];exact⟨rfl,rfl⟩
 | succ i ih =>
  intro j;obtain⟨A,_⟩:=ih ol;obtain⟨x,a⟩:∃x,e.items[i]?=N x:=⟨e.items[i],List.getElem?_eq_getElem ol⟩;obtain⟨m,f,l,k⟩:=c i x a;have n:rgR C ⟨p+2,F⟩ (i+1)=⟨p+(zt K e (i+1)).length,F⟩:=by simp only[rgR,A,f,k]
  refine⟨n,λy hy=>?_⟩;obtain⟨s,r,q,D⟩:=c (i+1) y hy;unfold rgN rgW;rw[n,s,r,q];exact⟨rfl,rfl⟩
def Xx(W:RW)(C:List Int)(s:RT)(k:Nat)(R:List Int×Int×Int):Prop:=1<=k/\(∀f,f<k->Yp W C f s=(11,[],0,0))/\∀f,k<=f->Yp W C f s=(0,R)
theorem XM{W:RW}{C:List Int}{s t:RT}(h:zD W C s=(t,S))(a:t.r.b=F):Xx W C s 1 (t.sv,t.ttl,t.sc):=by
 refine⟨Nat.le_refl _,λf hf=>?_,λf hf=>?_⟩
 ·have:f=0:=by omega
  subst this;rfl
 ·obtain⟨f,rfl⟩:∃g,f=g+1:=⟨f-1,ol⟩;simp only[Yp,h,a];rfl
theorem Ye{W:RW}{C:List Int}{s t:RT}{k:Nat}{R:List Int×Int×Int}(h:zD W C s=(t,F))(a:t.r.b=F)(c:Xx W C t k R):Xx W C s (k+1) R:=by
 obtain⟨i,e,d⟩:=c;refine⟨ol,λf hf=>?_,λf hf=>?_⟩
 ·cases f with
  |zero=>rfl
  | succ f =>
   simp only[Yp,h,a];exact e f ol
 ·obtain⟨f,rfl⟩:∃g,f=g+1:=⟨f-1,ol⟩;simp only[Yp,h,a];exact d f ol
def Yj(a b:Int):Int:=if a<b then a else b
theorem zfJ{W:RW}{C:List Int}{p:Nat}{K:List (List Int)}{e:EX}(g:e.kind=123\/e.kind=102)(o:(yu e).length=2)(f:∀x∈e.items,0<=x.num/\x.num<=63)(h:ZU C p (zt K e e.items.length)):
 ∀n i,i+n=e.items.length->match chG W C ⟨p+2,F⟩ i n with
  |some k=>k<e.items.length/\∃x,e.items[k]?=N x/\(e.items.drop i).find? (λx=>upW W x.num)=N x
  |none=>(e.items.drop i).find? (λx=>upW W x.num)=P:=by
 intro n;induction n with
 | zero =>
  intro i j;simp only[chG];rw[List.drop_eq_nil_of_le ol];rfl
 | succ n ih =>
  intro i j;obtain⟨x,b⟩:∃x,e.items[i]?=N x:=⟨e.items[i],List.getElem?_eq_getElem ol⟩;have m:=(jC g o f h i ol).2.2 x b;have d:e.items.drop i=x::e.items.drop (i+1):=by
   rw[List.drop_eq_getElem_cons ol];have:=(List.getElem?_eq_some_iff.1 b).2
   rw[this]
  simp only[chG,m];rw[d];by_cases a:upW W x.num=S
  ·rw[if_pos a];exact⟨ol,x,b,by simp[a]⟩
  ·rw[if_neg a];have l:=ih (i+1) ol;simp only[List.find?_cons];have c:upW W x.num=F:=(by simpa using a);rw[c];exact l
theorem ze9{W:RW}{C:List Int}{p:Nat}{K:List (List Int)}{e:EX}(w:e.kind=103)(z:(yu e).length=2)(u:∀x∈e.items,0<=x.num/\x.num<=99)(t:(zh K e e.items.length).length<=32000)(h:ZU C p (zt K e e.items.length))(j:∀(a b:Nat) (x y:IM),e.items[a]?=N x->e.items[b]?=N y->x.num=y.num->a=b):
 (∃(k:Nat) (x:IM),e.items[k]?=N x/\e.items.find? (λx=>x.num==W.reg)=N x/\rgT W C ⟨p+2,F⟩ e.items.length=((zh K e k).length:Int))\/(e.items.find? (λx=>x.num==W.reg)=P/\rgT W C ⟨p+2,F⟩ e.items.length=0):=by
 have g:=λi r=>(za7 w z u t h i r).2
 cases hf:e.items.find? (λx=>x.num==W.reg)with
 | none =>
  right
  refine⟨rfl,?_⟩;have o:∀x∈e.items,¬x.num=W.reg:=λx m=>by
   have:=List.find?_eq_none.1 hf x m
   simpa using this
  have:∀i,i<=e.items.length->rgT W C ⟨p+2,F⟩ i=0:=by
   intro i;induction i with
   |zero=>intro _;rfl
   | succ i ih =>
    intro r;obtain⟨x,m⟩:∃x,e.items[i]?=N x:=⟨e.items[i],List.getElem?_eq_getElem ol⟩;have n:=g i ol x m;simp only[rgT,n.1];rw[if_neg (o x (List.mem_of_getElem? m))];exact ih ol
  exact this _ (Nat.le_refl _)
 | some x =>
  left
  have v:=List.mem_of_find?_eq_some hf;have f:x.num=W.reg:=by have:=List.find?_some hf;simpa using this
  obtain⟨k,d⟩:=List.getElem?_of_mem v;refine⟨k,x,d,rfl,?_⟩;have q:k<e.items.length:=(List.getElem?_eq_some_iff.1 d).1;have:∀i,i<=e.items.length->rgT W C ⟨p+2,F⟩ i=if k<i then((zh K e k).length:Int)else 0:=by
   intro i;induction i with
   |zero=>intro _;simp[rgT]
   | succ i ih =>
    intro r;obtain⟨y,l⟩:∃y,e.items[i]?=N y:=⟨e.items[i],List.getElem?_eq_getElem ol⟩;have n:=g i ol y l;simp only[rgT,n.1];by_cases c:y.num=W.reg
    ·have:i=k:=j i k y x l d (by rw[c,f])
     subst this;rw[if_pos c,if_pos ol,n.2]
    ·rw[if_neg c,ih ol];have:i≠k:=λe'=>by subst e';rw[d]at l;cases l;exact c f
     by_cases s:k<i
     ·rw[if_pos s,if_pos ol]
     ·rw[if_neg s,if_neg ol]
  rw[this _ (Nat.le_refl _),if_pos q]
theorem ze7{W:RW}{E:List EX}{j:Nat}(h:GD E j):szR E (j+1)<=1000->∀(C:List Int) (p:Nat) (ttl g:Int),ZU C p (yj E (j+1))->ttl<=86400->0<=g ->
 ∃k,k<=(yj E (j+1)).length/\Xx W C ⟨⟨p,F⟩,[],ttl,g⟩ k ((mnN W E (j+1)).sv,Yj (mnN W E (j+1)).ttl ttl,nar (mnN W E (j+1)).sc g):=by
 induction h with
 | @servers j e he hk h0 h16 hit hin =>
  intro v C p ttl g q J R;have r:mnN W E (j+1)=⟨e.items.map IM.num,86400,0⟩:=by simp only[mnN,he,mnE];rw[if_pos hk]
  have s:yj E (j+1)=zt (zW E j) e e.items.length++zh (zW E j) e e.items.length:=by simp only[yj,he,Y2];rw[if_neg ol]
  rw[s]at q⊢;obtain⟨A,z,Z,Y,O⟩:=zaE (.inl hk) h0 h16 (qC q.left);have m:=jC (K:=zW E j) (.inl hk) O (λx o=>⟨(hit x o).1,(hit x o).2.1⟩) q.left e.items.length (Nat.le_refl _);have f:zD W C ⟨⟨p,F⟩,[],ttl,g⟩=(⟨⟨p+(zt (zW E j) e e.items.length).length,F⟩,e.items.map IM.num,ttl,g⟩,S):=by
   simp only[zD,A,hk,z,ZC,Z,Y,m.1,m.2.1];simp[List.take_of_length_le]
  have hl:=Zf (zW E j) e e.items.length;refine⟨1,by rw[List.length_append];omega,?_⟩;have I:=XM f rfl;rw[r];have X:Yj 86400 ttl=ttl:=by unfold Yj;rw[if_neg ol]
  have e2:nar 0 g=g:=by unfold nar;rw[if_neg ol]
  simp only[X,e2];exact I
 | @alias j e he hk h0 h15 hit hin =>
  intro v C p ttl g q J R;have r:mnN W E (j+1)=⟨(W.al[e.nv.toNat]?).getD [],86400,0⟩:=by simp only[mnN,he,mnE];rw[if_neg ol,if_pos hk]
  have s:yj E (j+1)=z8 e.kind 1++z8 e.nv 1++atL (zW E j) e.inner:=by
   simp only[yj,he,Y2];rw[if_neg ol,hit];simp only[List.length_nil,zt,zh,yu];rw[if_neg ol,if_pos hk]
  rw[s]at q⊢;have s1:=q.left.left;have s2:=q.left.right;rw[zG]at s2;have b1:=Zs (b:=false) oq s1 ol (by rw[Zu];omega);have b2:=(Zs (b:=false) oq s2 h0 (by rw[Zu];omega)).2;have b3:=Yi (b:=false) (lo:=0) (hi:=15) oq s2 h0 (by rw[Zu];omega) h0 h15;have A:nxV C ⟨p,F⟩=e.kind:=by have:=b1.2;simpa[rdN,Zt,yY]using this
  have z:nx C ⟨p,F⟩=⟨p+1,F⟩:=b1.1;have f:zD W C ⟨⟨p,F⟩,[],ttl,g⟩=(⟨⟨p+1+1,F⟩,(W.al[e.nv.toNat]?).getD [],ttl,g⟩,S):=by
   simp only[zD,A,hk,z,ZY,b2,b3];simp
  refine⟨1,by simp[List.length_append,zG],?_⟩;have I:=XM f rfl;rw[r];have X:Yj 86400 ttl=ttl:=by unfold Yj;rw[if_neg ol]
  have e2:nar 0 g=g:=by unfold nar;rw[if_neg ol]
  simp only[X,e2];exact I
 | @name j i e he hk hit hin hij _ ih =>
  intro v C p ttl g q J R;have U:=YC he v;have t:szR E (i+1)<=1000:=by
   have:=U.2.1
   rw[hin,Xv,if_neg ol,if_pos ol,Int.toNat_natCast]at this;exact this
  have r:mnN W E (j+1)=mnN W E (i+1):=by simp only[mnN,he,mnE];rw[if_neg ol,if_neg ol,if_pos hk,hin,yF W E hij];rfl
  have s:yj E (j+1)=yj E (i+1):=by simp only[yj,he,Y2];rw[if_pos hk,hin,Y9 E hij];rfl
  rw[r,s];rw[s]at q;exact ih t C p ttl g q J R
 | @ttl j i e he hk h1 h2 hit hin hij _ ih =>
  intro v C p ttl g q J R;have U:=YC he v;have t:szR E (i+1)<=1000:=by
   have:=U.2.1
   rw[hin,Xv,if_neg ol,if_pos ol,Int.toNat_natCast]at this;exact this
  have r:mnN W E (j+1)=⟨(mnN W E (i+1)).sv,if e.nv<(mnN W E (i+1)).ttl then e.nv else(mnN W E (i+1)).ttl,(mnN W E (i+1)).sc⟩:=by
   rw[<-yF W E hij,<-hin];simp only[mnN,he,mnE];rw[if_neg ol,if_neg ol,if_neg ol,if_pos hk]
  have s:yj E (j+1)=z8 e.kind 1++z8 e.nv 3++yj E (i+1):=by
   rw[<-Y9 E hij,<-hin];simp only[yj,he,Y2];rw[if_neg ol,hit];simp only[List.length_nil,zt,zh,yu];rw[if_pos hk]
  rw[s]at q⊢;have s1:=q.left.left;have s2:=q.left.right;have Q:=q.right;rw[zG]at s2;rw[List.length_append,zG,zG]at Q;have b1:=Zs (b:=false) oq s1 ol (by rw[Zu];omega);have b2:=(Zs (b:=false) oq s2 ol (by rw[zdA];omega)).2;have b3:=Yi (b:=false) (lo:=1) (hi:=86400) oq s2 ol (by rw[zdA];omega) h1 h2;have A:nxV C ⟨p,F⟩=e.kind:=by have:=b1.2;simpa[rdN,Zt,yY]using this
  have z:nx C ⟨p,F⟩=⟨p+1,F⟩:=b1.1;have f:zD W C ⟨⟨p,F⟩,[],ttl,g⟩=(⟨⟨p+(1+3),F⟩,[],if e.nv<ttl then e.nv else ttl,g⟩,F):=by
   simp only[zD,A,hk,z,yB,b2,b3];simp[Nat.add_assoc]
  obtain⟨k,u,l⟩:=ih t C (p+(1+3)) (if e.nv<ttl then e.nv else ttl) g Q (by split<;>omega) R;refine⟨k+1,by simp only[List.length_append,zG];omega,?_⟩;have I:=Ye f rfl l;rw[r];have X:Yj (mnN W E (i+1)).ttl (if e.nv<ttl then e.nv else ttl)=Yj (if e.nv<(mnN W E (i+1)).ttl then e.nv else(mnN W E (i+1)).ttl) ttl:=by
   unfold Yj;repeat' split
   all_goals omega
  rw[X]at I;exact I
 | @list j i e he hk h0 h16 hit hin hij _ ih =>
  intro v C p ttl g q J R;have U:=YC he v;have t:szR E (i+1)<=1000:=by
   have:=U.2.1
   rw[hin,Xv,if_neg ol,if_pos ol,Int.toNat_natCast]at this;exact this
  have s:yj E (j+1)=zt (zW E j) e e.items.length++zh (zW E j) e e.items.length:=by simp only[yj,he,Y2];rw[if_neg ol]
  rw[s]at q⊢;have Q:=QL q.right;rw[hin,Y9 E hij]at Q;have B:=Zo (zW E j) e e.items.length 0 (Nat.zero_le _);simp only[zh]at B;rw[hin,Y9 E hij]at B;obtain⟨A,z,Z,Y,O⟩:=zaE (C:=C) (p:=p) ol h0 h16 (qC q.left);have hl:=Zf (zW E j) e e.items.length;have X:Yj 86400 ttl=ttl:=by unfold Yj;rw[if_neg ol]
  have e2:nar 0 g=g:=by unfold nar;rw[if_neg ol]
  obtain⟨k,u,l⟩:=ih t C (p+(zt (zW E j) e e.items.length).length) ttl g Q J R;rcases hk with hk|hk
  ·have m:=zfq (W:=W) (K:=zW E j) hk O (λx o=>⟨(hit x o).1,(hit x o).2.1,(hit x o).2.2.2 hk⟩) q.left e.items.length (Nat.le_refl _);rw[List.take_of_length_le (Nat.le_refl _)]at m;have r:mnN W E (j+1)=(match Yg W e.items with|some x=>⟨[x],86400,0⟩|none=>mnN W E (i+1)):=by
    rw[<-yF W E hij,<-hin];simp only[mnN,he,mnE];rw[if_neg ol,if_neg ol,if_neg ol,if_neg ol,if_pos hk]<;>rfl
   have f:zD W C ⟨⟨p,F⟩,[],ttl,g⟩=(match Yg W e.items with|some x=>(⟨⟨p+(zt (zW E j) e e.items.length).length,F⟩,[x],ttl,g⟩,S)|none=>(⟨⟨p+(zt (zW E j) e e.items.length).length,F⟩,[],ttl,g⟩,F)):=by
    simp only[zD,A,hk,z,Zp,Z,Y,m.1,m.2,Yg];simp only[show((119:Int)=123)=False from by simp,if_false,if_true];by_cases w:suL (mbL W e.items)<=0
    ·rw[if_pos w,if_pos w]
    ·rw[if_neg w,if_neg w];cases pkL (mbL W e.items) (W.draw%suL (mbL W e.items))<;>simp
   cases hq:Yg W e.items with
   | some x =>
    rw[hq]at f r;refine⟨1,by rw[List.length_append];omega,?_⟩;have I:=XM f rfl;rw[r];simp only[X,e2];exact I
   | none =>
    rw[hq]at f r;refine⟨k+1,by rw[List.length_append];omega,?_⟩;rw[r];exact Ye f rfl l
  ·have D:∀x∈e.items,0<=x.num/\x.num<=63:=λx o=>⟨(hit x o).1,(hit x o).2.1⟩
   have m:=jC (K:=zW E j) (.inr hk) O D q.left;have H:=zfJ (W:=W) (K:=zW E j) (.inr hk) O D q.left e.items.length 0 ol;rw[List.drop_zero]at H;have r:mnN W E (j+1)=(match yZ W e.items with|some x=>⟨[x],86400,0⟩|none=>mnN W E (i+1)):=by
    rw[<-yF W E hij,<-hin];simp only[mnN,he,mnE];rw[if_neg ol,if_neg ol,if_neg ol,if_neg ol,if_neg ol,if_pos hk]<;>rfl
   cases hq:chG W C ⟨p+2,F⟩ 0 e.items.length with
   | some n =>
    rw[hq]at H;obtain⟨hn,x,o,b7⟩:=H;have h6:=m n ol;have h7:=m (n+1) ol;have f:zD W C ⟨⟨p,F⟩,[],ttl,g⟩=(⟨⟨p+(zt (zW E j) e (n+1)).length,F⟩,[x.num],ttl,g⟩,S):=by
     simp only[zD,A,hk,z,yS,Z,Y,hq,h7.1,h6.2.2 x o];simp
    have a0:yZ W e.items=N x.num:=(by unfold yZ;rw[b7];rfl);rw[a0]at r;refine⟨1,by rw[List.length_append];omega,?_⟩;have I:=XM f rfl;rw[r];simp only[X,e2];exact I
   | none =>
    rw[hq]at H;have h7:=m e.items.length (Nat.le_refl _);have f:zD W C ⟨⟨p,F⟩,[],ttl,g⟩=(⟨⟨p+(zt (zW E j) e e.items.length).length,F⟩,[],ttl,g⟩,F):=by
     simp only[zD,A,hk,z,yS,Z,Y,hq,h7.1];simp
    have a0:yZ W e.items=P:=(by unfold yZ;rw[H];rfl);rw[a0]at r;refine⟨k+1,by rw[List.length_append];omega,?_⟩;rw[r];exact Ye f rfl l
 | @maps j i e an he hk h0 h16 hit h103 h109 harm _ hin hij _ iha ih =>
  intro v C p ttl g q J R;have U:=YC he v;have t:szR E (i+1)<=1000:=by
   have:=U.2.1
   rw[hin,Xv,if_neg ol,if_pos ol,Int.toNat_natCast]at this;exact this
  have a7:∀(n:Nat) (x:IM),e.items[n]?=N x->szR E (an n+1)<=1000:=λn x o=>by
   have:=U.2.2.1 n x o
   have w:=harm n x o;rw[w.1,Xv,if_neg ol,if_pos ol,Int.toNat_natCast]at this;exact this
  have b0:=zaL E (j+1) v;have s:yj E (j+1)=zt (zW E j) e e.items.length++zh (zW E j) e e.items.length:=by simp only[yj,he,Y2];rw[if_neg ol]
  rw[s]at q b0⊢;rw[List.length_append]at b0;have hw:(zh (zW E j) e e.items.length).length<=32000:=ol;have Q:=QL q.right;rw[hin,Y9 E hij]at Q;have B:=Zo (zW E j) e e.items.length 0 (Nat.zero_le _);simp only[zh]at B;rw[hin,Y9 E hij]at B;obtain⟨A,z,Z,Y,O⟩:=zaE (C:=C) (p:=p) ol h0 h16 (qC q.left);have hl:=Zf (zW E j) e e.items.length;have a9:∀a b c:Int,nar a (nar b c)=nar (nar b a) c:=by
   intro a b c;unfold nar;repeat' split
   all_goals omega
  have a8:∀d:Int,0<=nar d g:=by intro d;unfold nar;split<;>omega
  -- the arm number n
  have b4:∀(n:Nat) (x:IM) (d:Int),e.items[n]?=N x->∃k,k+1<=(zt (zW E j) e e.items.length).length+(zh (zW E j) e e.items.length).length/\Xx W C ⟨⟨p+(zt (zW E j) e e.items.length).length+(zh (zW E j) e n).length,F⟩,[],ttl,nar d g⟩ k ((mnN W E (an n+1)).sv,Yj (mnN W E (an n+1)).ttl ttl,nar (nar d (mnN W E (an n+1)).sc) g):=by
   intro n x d o;have G:n<e.items.length:=(List.getElem?_eq_some_iff.1 o).1;have w:=harm n x o;have s4:=zeB q.right o;rw[w.1,Y9 E w.2]at s4;obtain⟨k,u,l⟩:=iha n G (a7 n x o) C _ ttl (nar d g) s4 J (a8 d);rw[a9]at l;have a6:=Zo (zW E j) e e.items.length (n+1) G;simp only[zh,o,List.length_append]at a6;rw[w.1,Y9 E w.2]at a6;exact⟨k,ol,l⟩
  have b5:∀d:Int,∃k,k+1<=(zt (zW E j) e e.items.length).length+(zh (zW E j) e e.items.length).length/\Xx W C ⟨⟨p+(zt (zW E j) e e.items.length).length,F⟩,[],ttl,nar d g⟩ k ((mnN W E (i+1)).sv,Yj (mnN W E (i+1)).ttl ttl,nar (nar d (mnN W E (i+1)).sc) g):=by
   intro d;obtain⟨k,u,l⟩:=ih t C _ ttl (nar d g) Q J (a8 d);rw[a9]at l;exact⟨k,ol,l⟩
  rcases hk with hk|hk
  ·have m:=zfX (K:=zW E j) hk O (λx o=>(hit x o).1 hk) hw q.left;have b6:=qa (a:=W.addr) e.items.length (λn hn=>⟨((m n ol).2 hn).1,((m n ol).2 hn).2.1⟩);have r:mnN W E (j+1)=⟨(atM (mnK W E j) (ZN W e)).sv,(atM (mnK W E j) (ZN W e)).ttl,nar (M.depTo (itV e) (itL e) W.addr e.items.length) (atM (mnK W E j) (ZN W e)).sc⟩:=by
    simp only[mnN,he,mnE];rw[if_neg ol,if_neg ol,if_neg ol,if_neg ol,if_neg ol,if_neg ol,if_pos hk]
   have f:zD W C ⟨⟨p,F⟩,[],ttl,g⟩=(⟨⟨p+(zt (zW E j) e e.items.length).length+(if M.bestTo (itV e) (itL e) W.addr e.items.length<0 then 0 else(arW C ⟨p+2,F⟩ (M.bestTo (itV e) (itL e) W.addr e.items.length).toNat).toNat),F⟩,[],ttl,nar (M.depTo (itV e) (itL e) W.addr e.items.length) g⟩,F):=by
    simp only[zD,A,hk,z,yw,Z,Y,(m e.items.length (Nat.le_refl _)).1,b6.1,b6.2.2];simp
   have b8:=j6 (V:=itV e) (L:=itL e) (a:=W.addr) e.items.length;by_cases hb:M.bestTo (itV e) (itL e) W.addr e.items.length<0
   ·rw[if_pos hb]at f;have y:ZN W e=(i:Int):=(by unfold ZN;rw[if_pos hb,hin]);rw[y,yF W E hij]at r;obtain⟨k,u,l⟩:=b5 (M.depTo (itV e) (itL e) W.addr e.items.length);refine⟨k+1,by rw[List.length_append];exact u,?_⟩;rw[r];exact Ye f rfl l
   ·rw[if_neg hb]at f;obtain⟨n,hn⟩:∃n:Nat,M.bestTo (itV e) (itL e) W.addr e.items.length=n:=⟨(M.bestTo (itV e) (itL e) W.addr e.items.length).toNat,ol⟩;rw[hn,Int.toNat_natCast]at f;have G:n<e.items.length:=ol;obtain⟨x,o⟩:∃x,e.items[n]?=N x:=⟨e.items[n],List.getElem?_eq_getElem G⟩;have w:=harm n x o;have y:ZN W e=(an n:Int):=(by unfold ZN;rw[if_neg hb,hn,Int.toNat_natCast,o];exact w.1);rw[y,yF W E w.2]at r;rw[((m n ol).2 G).2.2,Int.toNat_natCast]at f;obtain⟨k,u,l⟩:=b4 n x (M.depTo (itV e) (itL e) W.addr e.items.length) o;refine⟨k+1,by rw[List.length_append];exact u,?_⟩;rw[r];exact Ye f rfl l
  ·have D:∀x∈e.items,0<=x.num/\x.num<=99:=λx o=>(hit x o).2 hk
   have m:=za7 (K:=zW E j) hk O D hw q.left;have r:mnN W E (j+1)=⟨(atM (mnK W E j) (xj W e)).sv,(atM (mnK W E j) (xj W e)).ttl,nar W.dep (atM (mnK W E j) (xj W e)).sc⟩:=by
    simp only[mnN,he,mnE];rw[if_neg ol,if_neg ol,if_neg ol,if_neg ol,if_neg ol,if_neg ol,if_neg ol]
   have f:zD W C ⟨⟨p,F⟩,[],ttl,g⟩=(⟨⟨p+(zt (zW E j) e e.items.length).length+(rgT W C ⟨p+2,F⟩ e.items.length).toNat,F⟩,[],ttl,nar W.dep g⟩,F):=by
    simp only[zD,A,hk,z,Zc,Z,Y,(m e.items.length (Nat.le_refl _)).1];simp
   rcases ze9 (W:=W) (K:=zW E j) hk O D hw q.left (h103 hk)with⟨n,x,o,hf,hway⟩|⟨hf,hway⟩
   ·have w:=harm n x o;have y:xj W e=(an n:Int):=(by unfold xj;rw[hf];exact w.1);rw[y,yF W E w.2]at r;rw[hway,Int.toNat_natCast]at f;obtain⟨k,u,l⟩:=b4 n x W.dep o;refine⟨k+1,by rw[List.length_append];exact u,?_⟩;rw[r];exact Ye f rfl l
   ·have y:xj W e=(i:Int):=(by unfold xj;rw[hf];exact hin);rw[y,yF W E hij]at r;rw[hway]at f;obtain⟨k,u,l⟩:=b5 W.dep;refine⟨k+1,by rw[List.length_append];exact u,?_⟩;rw[r];exact Ye f rfl l
end Go.Proofs.YtaebngpoagjafabGreat
