import Derived.Test.YtaebngpoagjafabGreatU18
import Derived.Test.YtaebngpoagjafabGreatU22
set_option maxRecDepth 100000
namespace Go.Proofs.YtaebngpoagjafabGreat
open Go.RowKit
theorem zfv (s:ByteArray) (b:Bool) (p:Nat):∀ n j,p<=j->(∀ i,p<=i->i<j->48<=T.ch s i/\T.ch s i<=57)->∀ i,p<=i->i<nmF s b n j->48<=T.ch s i/\T.ch s i<=57:=by
 intro n
 induction n with
 | zero=>intro j _ h i d a;exact h i d a
 | succ n ih =>
  intro j g h i d a
  simp only [nmF] at a
  split at a
  ·rename_i hd
   obtain ⟨_,_,f⟩:=Xs hd
   refine ih (j+1) (by omega) (fun q hq1 hq2=>?_) i d a
   by_cases e:q<j
   ·exact h q hq1 e
   ·have:q=j:=by omega
    subst this
    rw [f] at hd
    exact (YM _).1 hd
  ·exact h i d a
theorem zfS {s:ByteArray} {p:Nat}:∀ m,(∀ i,p<=i->i<p+m->48<=T.ch s i/\T.ch s i<=57)->0<=vl s p m/\vl s p m+1<=10 ^ m:=by
 intro m
 induction m with
 | zero=>intro _;simp [vl]
 | succ m ih =>
  intro h
  have f:=ih (fun i a b=>h i a (by omega))
  have e:=h (p+m) (by omega) (by omega)
  have d:(10:Int) ^ (m+1)=10 ^ m*10:=Int.pow_succ _ _
  simp only [vl]
  omega
theorem Xk (s:ByteArray) (k:Nat) (b:Bool):0<=zJ s k b/\zJ s k b<=999999999:=by
 have e:=JI s b (nmL s (zb s k b) b) (zb s k b)
 have j:nmL s (zb s k b) b<=9:=by unfold nmL;split<;>omega
 have d:=zfv s b (zb s k b) (nmL s (zb s k b) b) (zb s k b) (Nat.le_refl _) (fun i h g=>by omega)
 have f:zo s k b=nmF s b (nmL s (zb s k b) b) (zb s k b):=rfl
 rw [<- f] at d e
 unfold zJ
 have h:=zfS (s:=s) (p:=zb s k b) (zo s k b-zb s k b) (fun i a c=>d i a (by omega))
 have g:(10:Int) ^ (zo s k b-zb s k b)<=10 ^ 9:=by
  have:zo s k b-zb s k b<=9:=by omega
  generalize zo s k b-zb s k b=m at *
  have:m=0\/m=1\/m=2\/m=3\/m=4\/m=5\/m=6\/m=7\/m=8\/m=9:=by omega
  rcases this with rfl | rfl | rfl | rfl | rfl | rfl | rfl | rfl | rfl | rfl<;>decide
 have l:(10:Int) ^ 9=1000000000:=by decide
 omega
theorem zfL (s:ByteArray) (b:Bool) (p:Nat):∀ n j,p<=j->(∀ i,p<=i->i<j->T.ch s i=48\/T.ch s i=49)->∀ i,p<=i->i<btF s b n j->T.ch s i=48\/T.ch s i=49:=by
 intro n
 induction n with
 | zero=>intro j _ h i d a;exact h i d a
 | succ n ih =>
  intro j g h i d a
  simp only [btF] at a
  split at a
  ·rename_i hd
   obtain ⟨_,_,f⟩:=Qd hd
   refine ih (j+1) (by omega) (fun q hq1 hq2=>?_) i d a
   by_cases e:q<j
   ·exact h q hq1 e
   ·have:q=j:=by omega
    subst this
    rw [f] at hd
    simpa [bit] using hd
  ·exact h i d a
theorem zeP (s:ByteArray) (b:Bool):∀ n j,btF s b n j<=j+n:=by
 intro n
 induction n with
 | zero=>intro j;simp [btF]
 | succ n ih =>
  intro j;simp only [btF];split
  ·have:=ih (j+1);omega
  ·omega
theorem zfZ {s:ByteArray} {p:Nat}:∀ m,(∀ i,p<=i->i<p+m->T.ch s i=48\/T.ch s i=49)->0<=bv s p m/\bv s p m+1<=2 ^ m:=by
 intro m
 induction m with
 | zero=>intro _;simp [bv]
 | succ m ih =>
  intro h
  have f:=ih (fun i a b=>h i a (by omega))
  have e:=h (p+m) (by omega) (by omega)
  have d:(2:Int) ^ (m+1)=2 ^ m*2:=Int.pow_succ _ _
  simp only [bv]
  omega
theorem zfK (s:ByteArray) (k:Nat) (b:Bool):0<=btV s k b/\btV s k b<4294967296/\btL s k b<=32:=by
 have g:=zeP s b 32 (zb s k b)
 have e:=zfL s b (zb s k b) 32 (zb s k b) (Nat.le_refl _) (fun i d f=>by omega)
 have j:btK s k b=btF s b 32 (zb s k b):=rfl
 rw [<- j] at e g
 have h:btL s k b<=32:=by unfold btL;omega
 have d:=zfZ (s:=s) (p:=zb s k b) (btL s k b) (fun i a c=>e i a (by unfold btL at c;omega))
 unfold btV
 generalize btL s k b=m at *
 generalize bv s (zb s k b) m=v at *
 have n:(0:Int)<2 ^ (32-m):=Int.pow_pos (by decide)
 have f:(2:Int) ^ m*2 ^ (32-m)=4294967296:=by
  rw [<- Int.pow_add,show m+(32-m)=32 from by omega];decide
 have l:(v+1)*2 ^ (32-m)<=2 ^ m*2 ^ (32-m):=Int.mul_le_mul_of_nonneg_right d.2 (by omega)
 rw [f,Int.add_mul,Int.one_mul] at l
 refine ⟨Int.mul_nonneg d.1 (by omega),by omega,h⟩
structure IB (kind:Int) (x:IM):Prop where
 num:0<=x.num/\x.num<=999999999
 pv:0<=x.pv/\x.pv<4294967296
 pl:0<=x.pl/\x.pl<=32
 wv:0<=x.wv/\x.wv<=999999999
 arm:kind≠109->kind≠103->x.arm=-1
 zp:kind≠109->x.pv=0/\x.pl=0
 zn:kind=109->x.num=0
structure EB (e:EX):Prop where
 kind:e.kind=123\/e.kind=119\/e.kind=102\/e.kind=109\/e.kind=103\/e.kind=116\/e.kind=64\/e.kind=61
 nv:0<=e.nv/\e.nv<=999999999
 it:∀ x∈e.items,IB e.kind x
 inn:e.kind=123\/e.kind=64->e.inner=-1
 emp:e.kind=64\/e.kind=116\/e.kind=61->e.items=[]
def Zl (l:List EX):Prop:=∀ e∈l,EB e
theorem Zl.app {a b:List EX} (h:Zl a) (k:Zl b):Zl (a++b):=fun e he=>(List.mem_append.1 he).elim (h e) (k e)
theorem Zl.one {e:EX} (h:EB e):Zl [e]:=fun x hx=>by simp at hx;subst hx;exact h
theorem Zl.nil:Zl []:=fun _ h=>by simp at h
theorem zdi {ex:Int->Nat->Nat->Bool->CR} {s:ByteArray} (hX:∀ d m k b,Zl (ex d m k b).es) (kind d:Int) (m k:Nat) (b:Bool):Zl (zv ex s kind d m k b).es/\IB kind (zv ex s kind d m k b).im:=by
 unfold zv
 simp only
 split
 ·rename_i hk
  have:=zfK s (zb s k b) b
  exact ⟨hX _ _ _ _,⟨by simp,by simp only;omega,by simp only;omega,by simp,fun h=>absurd hk h,fun h=>absurd hk h,fun _=>rfl⟩⟩
 ·split
  ·rename_i hk
   have:=Xk s (zb s k b) b
   exact ⟨hX _ _ _ _,⟨by simp only;omega,by simp,by simp,by simp,fun _ h=>absurd hk h,fun _=>⟨rfl,rfl⟩,fun h=>by omega⟩⟩
  ·have e:=Xk s (zb s k b) b
   split
   ·have a:=Xk s (zc s 42 (zo s (zb s k b) b) (zw s (zb s k b) b)) (zj s 42 (zo s (zb s k b) b) (zw s (zb s k b) b))
    exact ⟨Zl.nil,⟨by simp only;omega,by simp,by simp,by simp only;omega,fun _ _=>rfl,fun _=>⟨rfl,rfl⟩,fun h=>by omega⟩⟩
   ·exact ⟨Zl.nil,⟨by simp only;omega,by simp,by simp,by simp,fun _ _=>rfl,fun _=>⟨rfl,rfl⟩,fun h=>by omega⟩⟩
theorem QI {ex:Int->Nat->Nat->Bool->CR} {s:ByteArray} (hX:∀ d m k b,Zl (ex d m k b).es) (kind d:Int):∀ (n m k:Nat) (b:Bool),Zl (zd ex s kind d n m k b).es/\∀ x∈(zd ex s kind d n m k b).ims,IB kind x:=by
 intro n
 induction n with
 | zero=>intro m k b;exact ⟨Zl.nil,fun x hx=>by simp [zd] at hx⟩
 | succ n ih =>
  intro m k b
  have a:=zdi (s:=s) hX kind d m k b
  simp only [zd]
  split
  ·have e:=ih (m+(zv ex s kind d m k b).es.length) (zc s 44 (zv ex s kind d m k b).k (zv ex s kind d m k b).b) (zv ex s kind d m k b).b
   refine ⟨a.1.app e.1,fun x hx=>?_⟩
   rcases List.mem_cons.1 hx with rfl | hx
   ·exact a.2
   ·exact e.2 x hx
  ·refine ⟨a.1,fun x hx=>?_⟩
   simp only [List.mem_singleton] at hx
   subst hx
   exact a.2
theorem zfa (s:ByteArray) (rs:List RL) (n:Nat):∀ d m k b,Zl (cE s rs n d m k b).es:=by
 induction n with
 | zero=>intro d m k b;exact Zl.nil
 | succ n ih =>
  intro d m k b
  have e:=Yu s (zb s k b) b
  simp only [cE]
  split
  ·exact Zl.nil
  ·rename_i hk
   split
   ·have h:=QI (s:=s) ih 123 d (s.size+1-(zb s k b+1)) m (zb s k b+1) b
    exact h.1.app (Zl.one ⟨.inl rfl,by simp,h.2,fun _=>rfl,fun h=>by simp at h⟩)
   ·split
    ·exact (ih _ _ _ _).app (Zl.one ⟨by simp,Xk _ _ _,fun x hx=>by simp at hx,fun h=>by simp at h,fun _=>rfl⟩)
    ·split
     ·exact Zl.one ⟨by simp,Xk _ _ _,fun x hx=>by simp at hx,fun _=>rfl,fun _=>rfl⟩
     ·split
      ·exact Zl.one ⟨by simp,by have:=Yu s (zb s (zb s k b+1) b) b;simp only;omega,fun x hx=>by simp at hx,fun h=>by simp at h,fun _=>rfl⟩
      ·rename_i h1 h2 h3 h4
       have h:=QI (s:=s) ih (ze s (zb s k b) b) d (s.size+1-zc s 40 (zb s k b+1) b) m (zc s 40 (zb s k b+1) b) (zj s 40 (zb s k b+1) b)
       have a:isK (ze s (zb s k b) b)=true:=by simpa using hk
       simp only [isK,Bool.or_eq_true,beq_iff_eq] at a
       exact (h.1.app (ih _ _ _ _)).app (Zl.one ⟨by simp only;omega,by simp,h.2,fun h=>by simp only at h;omega,fun h=>by simp only at h;omega⟩)
theorem zbN (s:ByteArray):∀ (n:Nat) (rs:List RL) (m k:Nat) (b:Bool),Zl (zx s n rs m k b).es:=by
 intro n
 induction n with
 | zero=>intro rs m k b;exact Zl.nil
 | succ n ih =>
  intro rs m k b
  simp only [zx]
  split
  ·exact Zl.app (zfa s rs _ _ _ _ _) (ih _ _ _ _)
  ·exact zfa s rs _ _ _ _ _
theorem jj (s:ByteArray):Zl (zA s).es:=zbN s _ _ _ _ _
def z6 (n:Int):Nat->List Int
 | 0=>[]
 | k+1=>(n%256)::z6 (n / 256) k
def yt (kind:Int) (x:IM) (way:Int):List Int :=
 if kind=109 then z6 x.pv 4++z6 x.pl 1++z6 way 2
 else if kind=103 then z6 x.num 1++z6 way 2
 else if kind=119 then z6 x.num 1++z6 x.wv 2
 else z6 x.num 1
def yp (e:EX):List Int :=
 z6 e.kind 1++(if e.kind=116 then z6 e.nv 3 else if e.kind=64 then z6 e.nv 1 else z6 e.items.length 1)
def atL (K:List (List Int)) (i:Int):List Int:=if i<0 then [] else (K[i.toNat]?).getD []
def zg (K:List (List Int)) (e:EX):Nat->List Int
 | 0=>atL K e.inner
 | j+1=>zg K e j++(match e.items[j]? with | some x=>atL K x.arm | none=>[])
def zq (K:List (List Int)) (e:EX):Nat->List Int
 | 0=>yp e
 | j+1=>zq K e j++(match e.items[j]? with | some x=>yt e.kind x (zg K e j).length | none=>[])
def YL (K:List (List Int)) (e:EX):List Int :=
 if e.kind=61 then atL K e.inner else zq K e e.items.length++zg K e e.items.length
def zT (es:List EX):Nat->List (List Int)
 | 0=>[]
 | j+1=>zT es j++[match es[j]? with | some e=>YL (zT es j) e | none=>[]]
def yh (es:List EX):Nat->List Int
 | 0=>[]
 | j+1=>match es[j]? with | some e=>YL (zT es j) e | none=>[]
theorem zF (n:Int) (k:Nat):(z6 n k).length=k:=by
 induction k generalizing n with
 | zero=>rfl
 | succ k ih=>simp [z6,ih]
theorem Xr (es:List EX):∀ j,(zT es j).length=j:=by
 intro j
 induction j with
 | zero=>rfl
 | succ j ih=>simp [zT,ih]
theorem zeB (es:List EX):∀ m i,i<m->(zT es m)[i]?=some (yh es (i+1)):=by
 intro m
 induction m with
 | zero=>intro i h;omega
 | succ m ih =>
  intro i h
  by_cases a:i<m
  ·simp only [zT]
   rw [List.getElem?_append_left (by rw [Xr];exact a)]
   exact ih i a
  ·have:i=m:=by omega
   subst this
   simp only [zT]
   rw [List.getElem?_append_right (by rw [Xr];exact Nat.le_refl _),Xr]
   simp [yh]
theorem Xx (es:List EX) (m:Nat) (i:Int):atL (zT es m) i=if i<0 then [] else if i<m then yh es (i.toNat+1) else []:=by
 unfold atL
 by_cases a:i<0
 ·rw [if_pos a,if_pos a]
 ·rw [if_neg a,if_neg a]
  by_cases b:i<m
  ·rw [if_pos b,zeB es m i.toNat (by omega)];rfl
  ·rw [if_neg b,List.getElem?_eq_none (by rw [Xr];omega)];rfl
theorem zfg (es:List EX):∀ m i,i<m->(szK es m)[i]?=some (szR es (i+1)):=by
 intro m
 induction m with
 | zero=>intro i h;omega
 | succ m ih =>
  intro i h
  by_cases a:i<m
  ·simp only [szK]
   rw [List.getElem?_append_left (by rw [Ye];exact a)]
   exact ih i a
  ·have:i=m:=by omega
   subst this
   simp only [szK]
   rw [List.getElem?_append_right (by rw [Ye];exact Nat.le_refl _),Ye]
   simp [szR]
theorem xU (es:List EX) (m:Nat) (i:Int):atF (szK es m) i=if i<0 then 0 else if i<m then szR es (i.toNat+1) else 0:=by
 unfold atF
 by_cases a:i<0
 ·rw [if_pos a,if_pos a]
 ·rw [if_neg a,if_neg a]
  by_cases b:i<m
  ·rw [if_pos b,zfg es m i.toNat (by omega)];rfl
  ·rw [if_neg b,List.getElem?_eq_none (by rw [Ye];omega)];rfl
theorem zff (es:List EX) (n:Nat):0<=szR es n/\szR es n<=1001:=by
 cases n with
 | zero=>simp [szR]
 | succ j =>
  simp only [szR]
  cases h:es[j]? with
  | none=>simp
  | some e=>exact zb6 (qy es j)
theorem zeH {x:Int} (h:Za x<=1000):Za x=x/\x<=1000:=by
 unfold Za at h ⊢
 split at h
 ·omega
 ·rename_i h1;rw [if_neg h1];exact ⟨rfl,by omega⟩
theorem zeT {K:List Int} (h:∀ k∈K,0<=k/\k<=1001) (l:List IM):∀ m j,j<=m->yL K l j<=yL K l m:=by
 intro m
 induction m with
 | zero =>
  intro j a;have:j=0:=by omega
  subst this;exact Int.le_refl _
 | succ m ih =>
  intro j a
  by_cases b:j<=m
  ·have d:=ih j b
   simp only [yL]
   cases hx:l[m]? with
   | none=>simp only;omega
   | some x=>have:=xV h x.arm;simp only;omega
  ·have:j=m+1:=by omega
   subst this;exact Int.le_refl _
theorem Yn {es:List EX} {j:Nat} {e:EX} (he:es[j]?=some e) (h:szR es (j+1)<=1000) :
 szR es (j+1)=atF (szK es j) e.inner+(if e.kind=61 then 0 else 1+(e.items.length:Int))+yL (szK es j) e.items e.items.length/\atF (szK es j) e.inner<=1000/\(∀ (i:Nat) (x:IM),e.items[i]?=some x->atF (szK es j) x.arm<=1000)/\(e.kind≠61->e.items.length<=1000):=by
 simp only [szR,he] at h ⊢
 unfold szE at h ⊢
 obtain ⟨g,b⟩:=zeH h
 rw [g]
 have a:=qy es j
 have m:=xV a e.inner
 have l:=Xy a e.items e.items.length
 refine ⟨rfl,?_,?_,?_⟩
 ·split at b<;>omega
 ·intro i x d
  have k:i<e.items.length:=(List.getElem?_eq_some_iff.1 d).1
  have c1:=zeT a e.items e.items.length (i+1) (by omega)
  have c2:=Xy a e.items i
  simp only [yL,d] at c1
  split at b<;>omega
 ·intro f
  rw [if_neg f] at b
  omega
theorem Zc (K:List (List Int)) (e:EX):∀ m j,j<=m->(zg K e j).length<=(zg K e m).length:=by
 intro m
 induction m with
 | zero =>
  intro j a;have:j=0:=by omega
  subst this;exact Nat.le_refl _
 | succ m ih =>
  intro j a
  by_cases b:j<=m
  ·have d:=ih j b
   simp only [zg,List.length_append];omega
  ·have:j=m+1:=by omega
   subst this;exact Nat.le_refl _
theorem zcZ (K:List (List Int)) (e:EX):∀ m j,j<=m->(zq K e j).length<=(zq K e m).length:=by
 intro m
 induction m with
 | zero =>
  intro j a;have:j=0:=by omega
  subst this;exact Nat.le_refl _
 | succ m ih =>
  intro j a
  by_cases b:j<=m
  ·have d:=ih j b
   simp only [zq,List.length_append];omega
  ·have:j=m+1:=by omega
   subst this;exact Nat.le_refl _
theorem zbq (kind:Int) (x:IM) (way:Int):(yt kind x way).length<=7:=by
 unfold yt
 repeat' split
 all_goals simp [zF]
theorem zbF (e:EX):2<=(yp e).length/\(yp e).length<=4:=by
 unfold yp
 repeat' split
 all_goals simp [zF]
theorem yW (K:List (List Int)) (e:EX):∀ j,(zq K e j).length<=4+7*j/\2<=(zq K e j).length:=by
 intro j
 induction j with
 | zero=>have:=zbF e;simp only [zq];omega
 | succ j ih =>
  simp only [zq,List.length_append]
  cases hx:e.items[j]? with
  | none=>simp only [List.length_nil];omega
  | some x=>have:=zbq e.kind x (zg K e j).length;simp only;omega
theorem JY (es:List EX):∀ n,szR es n<=1000->((yh es n).length:Int)<=7*szR es n:=by
 intro n
 induction n using Nat.strongRecOn with
 | ind n ih =>
  cases n with
  | zero=>intro _;simp [yh,szR]
  | succ j =>
   intro h
   cases he:es[j]? with
   | none=>simp [yh,szR,he]
   | some e =>
    obtain ⟨o,p2,m,s⟩:=Yn he h
    have r:=qy es j
    have a:∀ i,atF (szK es j) i<=1000->((atL (zT es j) i).length:Int)<=7*atF (szK es j) i:=by
     intro i l
     rw [Xx,xU] at *
     by_cases d:i<0
     ·simp [d]
     ·by_cases f:i<j
      ·rw [if_neg d,if_pos f] at l ⊢
       rw [if_neg d,if_pos f]
       exact ih (i.toNat+1) (by omega) l
      ·simp [d,f]
    have q:∀ k,k<=e.items.length->((zg (zT es j) e k).length:Int)<=7*(atF (szK es j) e.inner+yL (szK es j) e.items k):=by
     intro k
     induction k with
     | zero=>intro _;have:=a e.inner p2;simp only [zg,yL];omega
     | succ k ihk =>
      intro b
      have v:=ihk (by omega)
      obtain ⟨x,g⟩:∃ x,e.items[k]?=some x:=⟨e.items[k],List.getElem?_eq_getElem (by omega)⟩
      have u:=a x.arm (m k x g)
      simp only [zg,yL,g,List.length_append]
      omega
    have p:=q e.items.length (Nat.le_refl _)
    rw [o]
    simp only [yh,he]
    unfold YL
    have w:=Xy r e.items e.items.length
    by_cases b:e.kind=61
    ·rw [if_pos b,if_pos b]
     have:=a e.inner p2
     omega
    ·rw [if_neg b,if_neg b,List.length_append]
     have:=yW (zT es j) e e.items.length
     omega
end Go.Proofs.YtaebngpoagjafabGreat
