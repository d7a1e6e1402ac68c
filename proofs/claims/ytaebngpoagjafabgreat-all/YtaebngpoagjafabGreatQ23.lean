import Derived.Test.YtaebngpoagjafabGreatQ17
import Derived.Test.YtaebngpoagjafabGreatQ21
set_option maxRecDepth 100000
namespace Go.Proofs.YtaebngpoagjafabGreat
open Go.RowKit
def z8(n:Int):Nat->List Int
 |0=>[]
 |k+1=>(n%256)::z8 (n / 256) k
def yD(kind:Int)(x:IM)(way:Int):List Int :=
 if kind=109 then z8 x.pv 4++z8 x.pl 1++z8 way 2
 else if kind=103 then z8 x.num 1++z8 way 2
 else if kind=119 then z8 x.num 1++z8 x.wv 2
 else z8 x.num 1
def yu(e:EX):List Int :=
 z8 e.kind 1++(if e.kind=116 then z8 e.nv 3 else if e.kind=64 then z8 e.nv 1 else z8 e.items.length 1)
def atL(K:List (List Int))(i:Int):List Int:=if i<0 then[]else(K[i.toNat]?).getD []
def zh(K:List (List Int))(e:EX):Nat->List Int
 |0=>atL K e.inner
 |j+1=>zh K e j++(match e.items[j]? with|some x=>atL K x.arm|none=>[])
def zt(K:List (List Int))(e:EX):Nat->List Int
 |0=>yu e
 |j+1=>zt K e j++(match e.items[j]? with|some x=>yD e.kind x (zh K e j).length|none=>[])
def Y2(K:List (List Int))(e:EX):List Int :=
 if e.kind=61 then atL K e.inner else zt K e e.items.length++zh K e e.items.length
def zW(es:List EX):Nat->List (List Int)
 |0=>[]
 |j+1=>zW es j++[match es[j]? with|some e=>Y2 (zW es j) e|none=>[]]
def yj(es:List EX):Nat->List Int
 |0=>[]
 |j+1=>match es[j]? with|some e=>Y2 (zW es j) e|none=>[]
theorem zG(n:Int)(k:Nat):(z8 n k).length=k:=by
 induction k generalizing n with
 |zero=>rfl
 |succ k ih=>simp[z8,ih]
theorem X5(a:List EX):∀j,(zW a j).length=j:=by
 intro j;induction j with
 |zero=>rfl
 |succ j ih=>simp[zW,ih]
theorem zfF(b:List EX):∀m i,i<m->(zW b m)[i]?=some (yj b (i+1)):=by
 intro m;induction m with
 |zero=>intro i h;omega
 | succ m ih =>
  intro i h;by_cases a:i<m
  ·simp only[zW];rw[List.getElem?_append_left (by rw[X5];exact a)];exact ih i a
  ·have:i=m:=by omega
   subst this;simp only[zW];rw[List.getElem?_append_right (by rw[X5];exact Nat.le_refl _),X5];simp[yj]
theorem qb(b:List EX)(m:Nat)(i:Int):atL (zW b m) i=if i<0 then[]else if i<m then yj b (i.toNat+1)else[]:=by
 unfold atL;by_cases a:i<0
 ·rw[if_pos a,if_pos a]
 ·rw[if_neg a,if_neg a];by_cases c:i<m
  ·rw[if_pos c,zfF b m i.toNat ol];rfl
  ·rw[if_neg c,List.getElem?_eq_none (by rw[X5];omega)];rfl
theorem zgk(b:List EX):∀m i,i<m->(szK b m)[i]?=some (szR b (i+1)):=by
 intro m;induction m with
 |zero=>intro i h;omega
 | succ m ih =>
  intro i h;by_cases a:i<m
  ·simp only[szK];rw[List.getElem?_append_left (by rw[Yt];exact a)];exact ih i a
  ·have:i=m:=by omega
   subst this;simp only[szK];rw[List.getElem?_append_right (by rw[Yt];exact Nat.le_refl _),Yt];simp[szR]
theorem Xv(b:List EX)(m:Nat)(i:Int):atF (szK b m) i=if i<0 then 0 else if i<m then szR b (i.toNat+1)else 0:=by
 unfold atF;by_cases a:i<0
 ·rw[if_pos a,if_pos a]
 ·rw[if_neg a,if_neg a];by_cases c:i<m
  ·rw[if_pos c,zgk b m i.toNat ol];rfl
  ·rw[if_neg c,List.getElem?_eq_none (by rw[Yt];omega)];rfl
theorem zgj(a:List EX)(n:Nat):0<=szR a n/\szR a n<=1001:=by
 cases n with
 |zero=>simp[szR]
 | succ j =>
  simp only[szR];cases h:a[j]? with
  |none=>simp
  |some e=>exact zc2 (Qr a j)
theorem zfL{x:Int}(h:Zj x<=1000):Zj x=x/\x<=1000:=by
 unfold Zj at h⊢;split at h
 ·omega
 ·rename_i h1;rw[if_neg h1];exact⟨rfl,ol⟩
theorem zfW{K:List Int}(h:∀k∈K,0<=k/\k<=1001)(l:List IM):∀m j,j<=m->yV K l j<=yV K l m:=by
 intro m;induction m with
 | zero =>
  intro j a;have:j=0:=ol
  subst this;exact Int.le_refl _
 | succ m ih =>
  intro j a;by_cases b:j<=m
  ·have c:=ih j b;simp only[yV];cases hx:l[m]? with
   |none=>simp only;omega
   |some x=>have:=Xw h x.arm;simp only;omega
  ·have:j=m+1:=by omega
   subst this;exact Int.le_refl _
theorem YC{a:List EX}{j:Nat}{e:EX}(g:a[j]?=some e)(h:szR a (j+1)<=1000):
 szR a (j+1)=atF (szK a j) e.inner+(if e.kind=61 then 0 else 1+(e.items.length:Int))+yV (szK a j) e.items e.items.length/\atF (szK a j) e.inner<=1000/\(∀(i:Nat) (x:IM),e.items[i]?=some x->atF (szK a j) x.arm<=1000)/\(e.kind≠61->e.items.length<=1000):=by
 simp only[szR,g]at h⊢;unfold szE at h⊢;obtain⟨k,c⟩:=zfL h;rw[k];have b:=Qr a j;have p:=Xw b e.inner;have o:=qg b e.items e.items.length;refine⟨rfl,?_,?_,?_⟩
 ·split at c<;>omega
 ·intro i x d;have m:i<e.items.length:=(List.getElem?_eq_some_iff.1 d).1;have l:=zfW b e.items e.items.length (i+1) ol;have n:=qg b e.items i;simp only[yV,d]at l;split at c<;>omega
 ·intro f;rw[if_neg f]at c;omega
theorem Zo(K:List (List Int))(e:EX):∀m j,j<=m->(zh K e j).length<=(zh K e m).length:=by
 intro m;induction m with
 | zero =>
  intro j a;have:j=0:=ol
  subst this;exact Nat.le_refl _
 | succ m ih =>
  intro j a;by_cases b:j<=m
  ·have c:=ih j b;simp only[zh,List.length_append];omega
  ·have:j=m+1:=by omega
   subst this;exact Nat.le_refl _
theorem zdY(K:List (List Int))(e:EX):∀m j,j<=m->(zt K e j).length<=(zt K e m).length:=by
 intro m;induction m with
 | zero =>
  intro j a;have:j=0:=ol
  subst this;exact Nat.le_refl _
 | succ m ih =>
  intro j a;by_cases b:j<=m
  ·have c:=ih j b;simp only[zt,List.length_append];omega
  ·have:j=m+1:=by omega
   subst this;exact Nat.le_refl _
theorem zcn(kind:Int)(x:IM)(a:Int):(yD kind x a).length<=7:=by
 unfold yD;repeat' split
 all_goals simp[zG]
theorem zcC(e:EX):2<=(yu e).length/\(yu e).length<=4:=by
 unfold yu;repeat' split
 all_goals simp[zG]
theorem Zf(K:List (List Int))(e:EX):∀j,(zt K e j).length<=4+7*j/\2<=(zt K e j).length:=by
 intro j;induction j with
 |zero=>have:=zcC e;simp only[zt];omega
 | succ j ih =>
  simp only[zt,List.length_append];cases hx:e.items[j]? with
  |none=>simp only[List.length_nil];omega
  |some x=>have:=zcn e.kind x (zh K e j).length;simp only;omega
theorem zaL(a:List EX):∀n,szR a n<=1000->((yj a n).length:Int)<=7*szR a n:=by
 intro n;induction n using Nat.strongRecOn with
 | ind n ih =>
  cases n with
  |zero=>intro _;simp[yj,szR]
  | succ j =>
   intro h;cases he:a[j]? with
   |none=>simp[yj,szR,he]
   | some e =>
    obtain⟨o,p2,m,s⟩:=YC he h;have r:=Qr a j;have b:∀i,atF (szK a j) i<=1000->((atL (zW a j) i).length:Int)<=7*atF (szK a j) i:=by
     intro i l;rw[qb,Xv]at *;by_cases d:i<0
     ·simp[d]
     ·by_cases f:i<j
      ·rw[if_neg d,if_pos f]at l⊢;rw[if_neg d,if_pos f];exact ih (i.toNat+1) ol l
      ·simp[d,f]
    have q:∀k,k<=e.items.length->((zh (zW a j) e k).length:Int)<=7*(atF (szK a j) e.inner+yV (szK a j) e.items k):=by
     intro k;induction k with
     |zero=>intro _;have:=b e.inner p2;simp only[zh,yV];omega
     | succ k ihk =>
      intro c;have u:=ihk ol;obtain⟨x,g⟩:∃x,e.items[k]?=some x:=⟨e.items[k],List.getElem?_eq_getElem ol⟩;have t:=b x.arm (m k x g);simp only[zh,yV,g,List.length_append];omega
    have p:=q e.items.length (Nat.le_refl _);rw[o];simp only[yj,he];unfold Y2;have v:=qg r e.items e.items.length;by_cases c:e.kind=61
    ·rw[if_pos c,if_pos c];have:=b e.inner p2
     omega
    ·rw[if_neg c,if_neg c,List.length_append];have:=Zf (zW a j) e e.items.length
     omega
theorem zgz(s:ByteArray)(b:Bool)(p:Nat):∀n j,p<=j->(∀i,p<=i->i<j->48<=T.ch s i/\T.ch s i<=57)->∀i,p<=i->i<nmF s b n j->48<=T.ch s i/\T.ch s i<=57:=by
 intro n;induction n with
 |zero=>intro j _ h i c a;exact h i c a
 | succ n ih =>
  intro j f h i c a;simp only[nmF]at a;split at a
  ·rename_i hd
   obtain⟨_,_,e⟩:=X6 hd;refine ih (j+1) ol (λq hq1 hq2=>?_) i c a;by_cases d:q<j
   ·exact h q hq1 d
   ·have:q=j:=by omega
    subst this;rw[e]at hd;exact(Y3 _).1 hd
  ·exact h i c a
theorem zgZ{s:ByteArray}{p:Nat}:∀m,(∀i,p<=i->i<p+m->48<=T.ch s i/\T.ch s i<=57)->0<=vl s p m/\vl s p m+1<=10 ^ m:=by
 intro m;induction m with
 |zero=>intro _;simp[vl]
 | succ m ih =>
  intro h;have e:=ih (λi a b=>h i a ol);have d:=h (p+m) ol ol;have c:(10:Int) ^ (m+1)=10 ^ m*10:=Int.pow_succ _ _;simp only[vl];omega
theorem XV(s:ByteArray)(k:Nat)(b:Bool):0<=zM s k b/\zM s k b<=999999999:=by
 have e:=zav s b (nmL s (zb s k b) b) (zb s k b);have j:nmL s (zb s k b) b<=9:=by unfold nmL;split<;>omega
 have d:=zgz s b (zb s k b) (nmL s (zb s k b) b) (zb s k b) (Nat.le_refl _) (λi h g=>ol);have f:zs s k b=nmF s b (nmL s (zb s k b) b) (zb s k b):=rfl;rw[<-f]at d e;unfold zM;have h:=zgZ (s:=s) (p:=zb s k b) (zs s k b-zb s k b) (λi a c=>d i a ol);have g:(10:Int) ^ (zs s k b-zb s k b)<=10 ^ 9:=by
  have:zs s k b-zb s k b<=9:=ol
  generalize zs s k b-zb s k b=m at *;have:m=0\/m=1\/m=2\/m=3\/m=4\/m=5\/m=6\/m=7\/m=8\/m=9:=ol
  rcases this with rfl|rfl|rfl|rfl|rfl|rfl|rfl|rfl|rfl|rfl<;>decide
 have l:(10:Int) ^ 9=1000000000:=oq;omega
theorem zgQ(s:ByteArray)(b:Bool)(p:Nat):∀n j,p<=j->(∀i,p<=i->i<j->T.ch s i=48\/T.ch s i=49)->∀i,p<=i->i<btF s b n j->T.ch s i=48\/T.ch s i=49:=by
 intro n;induction n with
 |zero=>intro j _ h i c a;exact h i c a
 | succ n ih =>
  intro j f h i c a;simp only[btF]at a;split at a
  ·rename_i hd
   obtain⟨_,_,e⟩:=QW hd;refine ih (j+1) ol (λq hq1 hq2=>?_) i c a;by_cases d:q<j
   ·exact h q hq1 d
   ·have:q=j:=by omega
    subst this;rw[e]at hd;simpa[bit]using hd
  ·exact h i c a
theorem zfS(s:ByteArray)(b:Bool):∀n j,btF s b n j<=j+n:=by
 intro n;induction n with
 |zero=>intro j;simp[btF]
 | succ n ih =>
  intro j;simp only[btF];split
  ·have:=ih (j+1);omega
  ·omega
theorem zg6{s:ByteArray}{p:Nat}:∀m,(∀i,p<=i->i<p+m->T.ch s i=48\/T.ch s i=49)->0<=bv s p m/\bv s p m+1<=2 ^ m:=by
 intro m;induction m with
 |zero=>intro _;simp[bv]
 | succ m ih =>
  intro h;have e:=ih (λi a b=>h i a ol);have d:=h (p+m) ol ol;have c:(2:Int) ^ (m+1)=2 ^ m*2:=Int.pow_succ _ _;simp only[bv];omega
theorem zgP(s:ByteArray)(k:Nat)(b:Bool):0<=btV s k b/\btV s k b<4294967296/\btL s k b<=32:=by
 have g:=zfS s b 32 (zb s k b);have e:=zgQ s b (zb s k b) 32 (zb s k b) (Nat.le_refl _) (λi d f=>ol);have j:btK s k b=btF s b 32 (zb s k b):=rfl;rw[<-j]at e g;have h:btL s k b<=32:=by unfold btL;omega
 have d:=zg6 (s:=s) (p:=zb s k b) (btL s k b) (λi a c=>e i a (by unfold btL at c;omega));unfold btV;generalize btL s k b=m at *;generalize bv s (zb s k b) m=v at *;have n:(0:Int)<2 ^ (32-m):=Int.pow_pos oq;have f:(2:Int) ^ m*2 ^ (32-m)=4294967296:=by
  rw[<-Int.pow_add,show m+(32-m)=32 from by omega];decide
 have l:(v+1)*2 ^ (32-m)<=2 ^ m*2 ^ (32-m):=Int.mul_le_mul_of_nonneg_right d.2 ol;rw[f,Int.add_mul,Int.one_mul]at l;refine⟨Int.mul_nonneg d.1 ol,ol,h⟩
structure IB (kind:Int) (x:IM):Prop where
 num:0<=x.num/\x.num<=999999999
 pv:0<=x.pv/\x.pv<4294967296
 pl:0<=x.pl/\x.pl<=32
 wv:0<=x.wv/\x.wv<=999999999
 arm:kind≠109->kind≠103->x.arm=-1
 zp:kind≠109->x.pv=0/\x.pl=0
 zn:kind=109->x.num=0
structure EB (e:EX):Prop where
 kind:e.kind=123\/e.kind=119\/e.kind=102\/e.kind=109\/e.kind=103\/e.kind=116\/e.kind=64\/e.kind=61
 nv:0<=e.nv/\e.nv<=999999999
 it:∀x∈e.items,IB e.kind x
 inn:e.kind=123\/e.kind=64->e.inner=-1
 emp:e.kind=64\/e.kind=116\/e.kind=61->e.items=[]
def Zn(l:List EX):Prop:=∀e∈l,EB e
theorem Zn.app{a b:List EX}(h:Zn a)(k:Zn b):Zn (a++b):=λe he=>(List.mem_append.1 he).elim (h e) (k e)
theorem Zn.one{e:EX}(h:EB e):Zn [e]:=λx hx=>by simp at hx;subst hx;exact h
theorem Zn.nil:Zn []:=λ_ h=>by simp at h
theorem zei{ex:Int->Nat->Nat->Bool->CR}{s:ByteArray}(a:∀d m k b,Zn (ex d m k b).es)(kind d:Int)(m k:Nat)(b:Bool):Zn (zv ex s kind d m k b).es/\IB kind (zv ex s kind d m k b).im:=by
 unfold zv;simp only;split
 ·rename_i hk
  have:=zgP s (zb s k b) b
  exact⟨a _ _ _ _,⟨ot,ox,ox,ot,λh=>absurd hk h,λh=>absurd hk h,λ_=>rfl⟩⟩
 ·split
  ·rename_i hk
   have:=XV s (zb s k b) b
   exact⟨a _ _ _ _,⟨ox,ot,ot,ot,λ_ h=>absurd hk h,λ_=>⟨rfl,rfl⟩,λh=>ol⟩⟩
  ·have e:=XV s (zb s k b) b;split
   ·have c:=XV s (zc s 42 (zs s (zb s k b) b) (zw s (zb s k b) b)) (zk s 42 (zs s (zb s k b) b) (zw s (zb s k b) b));exact⟨Zn.nil,⟨ox,ot,ot,ox,λ_ _=>rfl,λ_=>⟨rfl,rfl⟩,λh=>ol⟩⟩
   ·exact⟨Zn.nil,⟨ox,ot,ot,ot,λ_ _=>rfl,λ_=>⟨rfl,rfl⟩,λh=>ol⟩⟩
theorem jq{ex:Int->Nat->Nat->Bool->CR}{s:ByteArray}(e:∀d m k b,Zn (ex d m k b).es)(kind d:Int):∀(n m k:Nat) (b:Bool),Zn (ze ex s kind d n m k b).es/\∀x∈(ze ex s kind d n m k b).ims,IB kind x:=by
 intro n;induction n with
 |zero=>intro m k b;exact⟨Zn.nil,λx hx=>by simp[ze]at hx⟩
 | succ n ih =>
  intro m k b;have a:=zei (s:=s) e kind d m k b;simp only[ze];split
  ·have c:=ih (m+(zv ex s kind d m k b).es.length) (zc s 44 (zv ex s kind d m k b).k (zv ex s kind d m k b).b) (zv ex s kind d m k b).b;refine⟨a.1.app c.1,λx hx=>?_⟩;rcases List.mem_cons.1 hx with rfl|hx
   ·exact a.2
   ·exact c.2 x hx
  ·refine⟨a.1,λx hx=>?_⟩;simp only[List.mem_singleton]at hx;subst hx;exact a.2
theorem zgd(s:ByteArray)(rs:List RL)(n:Nat):∀d m k b,Zn (cE s rs n d m k b).es:=by
 induction n with
 |zero=>intro d m k b;exact Zn.nil
 | succ n ih =>
  intro d m k b;have c:=YK s (zb s k b) b;simp only[cE];split
  ·exact Zn.nil
  ·rename_i hk
   split
   ·have h:=jq (s:=s) ih 123 d (s.size+1-(zb s k b+1)) m (zb s k b+1) b;exact h.1.app (Zn.one ⟨.inl rfl,ot,h.2,λ_=>rfl,λh=>by simp at h⟩)
   ·split
    ·exact(ih _ _ _ _).app (Zn.one ⟨ot,XV _ _ _,λx hx=>by simp at hx,λh=>by simp at h,λ_=>rfl⟩)
    ·split
     ·exact Zn.one ⟨ot,XV _ _ _,λx hx=>by simp at hx,λ_=>rfl,λ_=>rfl⟩
     ·split
      ·exact Zn.one ⟨ot,by have:=YK s (zb s (zb s k b+1) b) b;simp only;omega,λx hx=>by simp at hx,λh=>by simp at h,λ_=>rfl⟩
      ·rename_i h1 h2 h3 h4
       have h:=jq (s:=s) ih (zg s (zb s k b) b) d (s.size+1-zc s 40 (zb s k b+1) b) m (zc s 40 (zb s k b+1) b) (zk s 40 (zb s k b+1) b);have a:isK (zg s (zb s k b) b)=true:=(by simpa using hk);simp only[isK,Bool.or_eq_true,beq_iff_eq]at a;exact(h.1.app (ih _ _ _ _)).app (Zn.one ⟨ox,ot,h.2,λh=>by simp only at h;omega,λh=>by simp only at h;omega⟩)
theorem zcK(s:ByteArray):∀(n:Nat) (rs:List RL) (m k:Nat) (b:Bool),Zn (zA s n rs m k b).es:=by
 intro n;induction n with
 |zero=>intro rs m k b;exact Zn.nil
 | succ n ih =>
  intro rs m k b;simp only[zA];split
  ·exact Zn.app (zgd s rs _ _ _ _ _) (ih _ _ _ _)
  ·exact zgd s rs _ _ _ _ _
theorem Qg(s:ByteArray):Zn (zy s).es:=zcK s _ _ _ _ _
end Go.Proofs.YtaebngpoagjafabGreat
