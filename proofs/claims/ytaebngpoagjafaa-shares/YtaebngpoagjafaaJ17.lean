import Derived.Test.YtaebngpoagjafaaJ09
import Derived.Test.YtaebngpoagjafaaJ16
set_option maxRecDepth 100000
namespace Go.Proofs.Ytaebngpoagjafaa
open Go.RowKit
theorem J8 (s:ByteArray) (b:Bool) (p:Nat):∀ n j,p<=j->(∀ i,p<=i->i<j->48<=T.ch s i/\T.ch s i<=57)->∀ i,p<=i->i<nmF s b n j->48<=T.ch s i/\T.ch s i<=57:=by
 intro n
 induction n with
 | zero=>intro j _ h i h1 h2;exact h i h1 h2
 | succ n ih =>
  intro j hj h i h1 h2
  simp only [nmF] at h2
  split at h2
  ·rename_i hd
   obtain ⟨_,_,he⟩:=Yg hd
   refine ih (j+1) (by omega) (fun q hq1 hq2=>?_) i h1 h2
   by_cases hqj:q<j
   ·exact h q hq1 hqj
   ·have:q=j:=by omega
    subst this
    rw [he] at hd
    exact (Zr _).1 hd
  ·exact h i h1 h2
theorem zau {s:ByteArray} {p:Nat}:∀ m,(∀ i,p<=i->i<p+m->48<=T.ch s i/\T.ch s i<=57)->0<=vl s p m/\vl s p m+1<=10 ^ m:=by
 intro m
 induction m with
 | zero=>intro _;simp [vl]
 | succ m ih =>
  intro h
  have h1:=ih (fun i a b=>h i a (by omega))
  have h2:=h (p+m) (by omega) (by omega)
  have h3:(10:Int) ^ (m+1)=10 ^ m*10:=Int.pow_succ _ _
  simp only [vl]
  omega
theorem Yb (s:ByteArray) (k:Nat) (b:Bool):0<=zD s k b/\zD s k b<=999999999:=by
 have hu:=qa s b (nmL s (za s k b) b) (za s k b)
 have h9:nmL s (za s k b) b<=9:=by unfold nmL;split<;>omega
 have hd:=J8 s b (za s k b) (nmL s (za s k b) b) (za s k b) (Nat.le_refl _) (fun i h1 h2=>by omega)
 have hk:zh s k b=nmF s b (nmL s (za s k b) b) (za s k b):=rfl
 rw [<- hk] at hd hu
 unfold zD
 have h1:=zau (s:=s) (p:=za s k b) (zh s k b-za s k b) (fun i a c=>hd i a (by omega))
 have h2:(10:Int) ^ (zh s k b-za s k b)<=10 ^ 9:=by
  have:zh s k b-za s k b<=9:=by omega
  generalize zh s k b-za s k b=m at *
  have:m=0\/m=1\/m=2\/m=3\/m=4\/m=5\/m=6\/m=7\/m=8\/m=9:=by omega
  rcases this with rfl | rfl | rfl | rfl | rfl | rfl | rfl | rfl | rfl | rfl<;>decide
 have h3:(10:Int) ^ 9=1000000000:=by decide
 omega
theorem zak (s:ByteArray) (b:Bool) (p:Nat):∀ n j,p<=j->(∀ i,p<=i->i<j->T.ch s i=48\/T.ch s i=49)->∀ i,p<=i->i<btF s b n j->T.ch s i=48\/T.ch s i=49:=by
 intro n
 induction n with
 | zero=>intro j _ h i h1 h2;exact h i h1 h2
 | succ n ih =>
  intro j hj h i h1 h2
  simp only [btF] at h2
  split at h2
  ·rename_i hd
   obtain ⟨_,_,he⟩:=Y8 hd
   refine ih (j+1) (by omega) (fun q hq1 hq2=>?_) i h1 h2
   by_cases hqj:q<j
   ·exact h q hq1 hqj
   ·have:q=j:=by omega
    subst this
    rw [he] at hd
    simpa [bit] using hd
  ·exact h i h1 h2
theorem Jz (s:ByteArray) (b:Bool):∀ n j,btF s b n j<=j+n:=by
 intro n
 induction n with
 | zero=>intro j;simp [btF]
 | succ n ih =>
  intro j;simp only [btF];split
  ·have:=ih (j+1);omega
  ·omega
theorem zaE {s:ByteArray} {p:Nat}:∀ m,(∀ i,p<=i->i<p+m->T.ch s i=48\/T.ch s i=49)->0<=bv s p m/\bv s p m+1<=2 ^ m:=by
 intro m
 induction m with
 | zero=>intro _;simp [bv]
 | succ m ih =>
  intro h
  have h1:=ih (fun i a b=>h i a (by omega))
  have h2:=h (p+m) (by omega) (by omega)
  have h3:(2:Int) ^ (m+1)=2 ^ m*2:=Int.pow_succ _ _
  simp only [bv]
  omega
theorem zaj (s:ByteArray) (k:Nat) (b:Bool):0<=btV s k b/\btV s k b<4294967296/\btL s k b<=32:=by
 have hu:=Jz s b 32 (za s k b)
 have hd:=zak s b (za s k b) 32 (za s k b) (Nat.le_refl _) (fun i h1 h2=>by omega)
 have hk:btK s k b=btF s b 32 (za s k b):=rfl
 rw [<- hk] at hd hu
 have hl:btL s k b<=32:=by unfold btL;omega
 have h1:=zaE (s:=s) (p:=za s k b) (btL s k b) (fun i a c=>hd i a (by unfold btL at c;omega))
 unfold btV
 generalize btL s k b=m at *
 generalize bv s (za s k b) m=v at *
 have hp:(0:Int)<2 ^ (32-m):=Int.pow_pos (by decide)
 have h2:(2:Int) ^ m*2 ^ (32-m)=4294967296:=by
  rw [<- Int.pow_add,show m+(32-m)=32 from by omega];decide
 have h3:(v+1)*2 ^ (32-m)<=2 ^ m*2 ^ (32-m):=Int.mul_le_mul_of_nonneg_right h1.2 (by omega)
 rw [h2,Int.add_mul,Int.one_mul] at h3
 refine ⟨Int.mul_nonneg h1.1 (by omega),by omega,hl⟩
structure IB (kind:Int) (x:IM):Prop where
 num:0<=x.num/\x.num<=999999999
 pv:0<=x.pv/\x.pv<4294967296
 pl:0<=x.pl/\x.pl<=32
 wv:0<=x.wv/\x.wv<=999999999
 arm:kind≠109->kind≠103->x.arm=-1
 zp:kind≠109->x.pv=0/\x.pl=0
 zn:kind=109->x.num=0
structure EB (e:EX):Prop where
 kind:e.kind=123\/e.kind=119\/e.kind=102\/e.kind=109\/e.kind=103\/e.kind=116\/e.kind=64\/e.kind=61
 nv:0<=e.nv/\e.nv<=999999999
 it:∀ x∈e.items,IB e.kind x
 inn:e.kind=123\/e.kind=64->e.inner=-1
 emp:e.kind=64\/e.kind=116\/e.kind=61->e.items=[]
def yB (l:List EX):Prop:=∀ e∈l,EB e
theorem yB.app {a b:List EX} (h:yB a) (k:yB b):yB (a++b):=fun e he=>(List.mem_append.1 he).elim (h e) (k e)
theorem yB.one {e:EX} (h:EB e):yB [e]:=fun x hx=>by simp at hx;subst hx;exact h
theorem yB.nil:yB []:=fun _ h=>by simp at h
theorem jm {ex:Int->Nat->Nat->Bool->CR} {s:ByteArray} (hX:∀ d m k b,yB (ex d m k b).es) (kind d:Int) (m k:Nat) (b:Bool):yB (zq ex s kind d m k b).es/\IB kind (zq ex s kind d m k b).im:=by
 unfold zq
 simp only
 split
 ·rename_i hk
  have:=zaj s (za s k b) b
  exact ⟨hX _ _ _ _,⟨by simp,by simp only;omega,by simp only;omega,by simp,fun h=>absurd hk h,fun h=>absurd hk h,fun _=>rfl⟩⟩
 ·split
  ·rename_i hk
   have:=Yb s (za s k b) b
   exact ⟨hX _ _ _ _,⟨by simp only;omega,by simp,by simp,by simp,fun _ h=>absurd hk h,fun _=>⟨rfl,rfl⟩,fun h=>by omega⟩⟩
  ·have h1:=Yb s (za s k b) b
   split
   ·have h2:=Yb s (zb s 42 (zh s (za s k b) b) (zo s (za s k b) b)) (zi s 42 (zh s (za s k b) b) (zo s (za s k b) b))
    exact ⟨yB.nil,⟨by simp only;omega,by simp,by simp,by simp only;omega,fun _ _=>rfl,fun _=>⟨rfl,rfl⟩,fun h=>by omega⟩⟩
   ·exact ⟨yB.nil,⟨by simp only;omega,by simp,by simp,by simp,fun _ _=>rfl,fun _=>⟨rfl,rfl⟩,fun h=>by omega⟩⟩
theorem xD {ex:Int->Nat->Nat->Bool->CR} {s:ByteArray} (hX:∀ d m k b,yB (ex d m k b).es) (kind d:Int):∀ (n m k:Nat) (b:Bool),yB (zf ex s kind d n m k b).es/\∀ x∈(zf ex s kind d n m k b).ims,IB kind x:=by
 intro n
 induction n with
 | zero=>intro m k b;exact ⟨yB.nil,fun x hx=>by simp [zf] at hx⟩
 | succ n ih =>
  intro m k b
  have h1:=jm (s:=s) hX kind d m k b
  simp only [zf]
  split
  ·have h2:=ih (m+(zq ex s kind d m k b).es.length) (zb s 44 (zq ex s kind d m k b).k (zq ex s kind d m k b).b) (zq ex s kind d m k b).b
   refine ⟨h1.1.app h2.1,fun x hx=>?_⟩
   rcases List.mem_cons.1 hx with rfl | hx
   ·exact h1.2
   ·exact h2.2 x hx
  ·refine ⟨h1.1,fun x hx=>?_⟩
   simp only [List.mem_singleton] at hx
   subst hx
   exact h1.2
theorem JO (s:ByteArray) (rs:List RL) (n:Nat):∀ d m k b,yB (cE s rs n d m k b).es:=by
 induction n with
 | zero=>intro d m k b;exact yB.nil
 | succ n ih =>
  intro d m k b
  have hb:=ZB s (za s k b) b
  simp only [cE]
  split
  ·exact yB.nil
  ·rename_i hk
   split
   ·have h:=xD (s:=s) ih 123 d (s.size+1-(za s k b+1)) m (za s k b+1) b
    exact h.1.app (yB.one ⟨.inl rfl,by simp,h.2,fun _=>rfl,fun h=>by simp at h⟩)
   ·split
    ·exact (ih _ _ _ _).app (yB.one ⟨by simp,Yb _ _ _,fun x hx=>by simp at hx,fun h=>by simp at h,fun _=>rfl⟩)
    ·split
     ·exact yB.one ⟨by simp,Yb _ _ _,fun x hx=>by simp at hx,fun _=>rfl,fun _=>rfl⟩
     ·split
      ·exact yB.one ⟨by simp,by have:=ZB s (za s (za s k b+1) b) b;simp only;omega,fun x hx=>by simp at hx,fun h=>by simp at h,fun _=>rfl⟩
      ·rename_i h1 h2 h3 h4
       have h:=xD (s:=s) ih (zd s (za s k b) b) d (s.size+1-zb s 40 (za s k b+1) b) m (zb s 40 (za s k b+1) b) (zi s 40 (za s k b+1) b)
       have hkk:isK (zd s (za s k b) b)=true:=by simpa using hk
       simp only [isK,Bool.or_eq_true,beq_iff_eq] at hkk
       exact (h.1.app (ih _ _ _ _)).app (yB.one ⟨by simp only;omega,by simp,h.2,fun h=>by simp only at h;omega,fun h=>by simp only at h;omega⟩)
theorem Qm (s:ByteArray):∀ (n:Nat) (rs:List RL) (m k:Nat) (b:Bool),yB (zA s n rs m k b).es:=by
 intro n
 induction n with
 | zero=>intro rs m k b;exact yB.nil
 | succ n ih =>
  intro rs m k b
  simp only [zA]
  split
  ·exact yB.app (JO s rs _ _ _ _ _) (ih _ _ _ _)
  ·exact JO s rs _ _ _ _ _
theorem qE (s:ByteArray):yB (zx s).es:=Qm s _ _ _ _ _
def zJ (n:Int):Nat->List Int
 | 0=>[]
 | k+1=>(n%256)::zJ (n / 256) k
def zX (kind:Int) (x:IM) (way:Int):List Int :=
 if kind=109 then zJ x.pv 4++zJ x.pl 1++zJ way 2
 else if kind=103 then zJ x.num 1++zJ way 2
 else if kind=119 then zJ x.num 1++zJ x.wv 2
 else zJ x.num 1
def zT (e:EX):List Int :=
 zJ e.kind 1++(if e.kind=116 then zJ e.nv 3 else if e.kind=64 then zJ e.nv 1 else zJ e.items.length 1)
def atL (K:List (List Int)) (i:Int):List Int:=if i<0 then [] else (K[i.toNat]?).getD []
def ze (K:List (List Int)) (e:EX):Nat->List Int
 | 0=>atL K e.inner
 | j+1=>ze K e j++(match e.items[j]? with | some x=>atL K x.arm | none=>[])
def zg (K:List (List Int)) (e:EX):Nat->List Int
 | 0=>zT e
 | j+1=>zg K e j++(match e.items[j]? with | some x=>zX e.kind x (ze K e j).length | none=>[])
def Zq (K:List (List Int)) (e:EX):List Int :=
 if e.kind=61 then atL K e.inner else zg K e e.items.length++ze K e e.items.length
def zF (es:List EX):Nat->List (List Int)
 | 0=>[]
 | j+1=>zF es j++[match es[j]? with | some e=>Zq (zF es j) e | none=>[]]
def zN (es:List EX):Nat->List Int
 | 0=>[]
 | j+1=>match es[j]? with | some e=>Zq (zF es j) e | none=>[]
theorem zw (n:Int) (k:Nat):(zJ n k).length=k:=by
 induction k generalizing n with
 | zero=>rfl
 | succ k ih=>simp [zJ,ih]
theorem Yf (es:List EX):∀ j,(zF es j).length=j:=by
 intro j
 induction j with
 | zero=>rfl
 | succ j ih=>simp [zF,ih]
theorem Jm (es:List EX):∀ m i,i<m->(zF es m)[i]?=some (zN es (i+1)):=by
 intro m
 induction m with
 | zero=>intro i h;omega
 | succ m ih =>
  intro i h
  by_cases hi:i<m
  ·simp only [zF]
   rw [List.getElem?_append_left (by rw [Yf];exact hi)]
   exact ih i hi
  ·have:i=m:=by omega
   subst this
   simp only [zF]
   rw [List.getElem?_append_right (by rw [Yf];exact Nat.le_refl _),Yf]
   simp [zN]
theorem Yj (es:List EX) (m:Nat) (i:Int):atL (zF es m) i=if i<0 then [] else if i<m then zN es (i.toNat+1) else []:=by
 unfold atL
 by_cases h0:i<0
 ·rw [if_pos h0,if_pos h0]
 ·rw [if_neg h0,if_neg h0]
  by_cases h1:i<m
  ·rw [if_pos h1,Jm es m i.toNat (by omega)];rfl
  ·rw [if_neg h1,List.getElem?_eq_none (by rw [Yf];omega)];rfl
theorem JW (es:List EX):∀ m i,i<m->(szK es m)[i]?=some (szR es (i+1)):=by
 intro m
 induction m with
 | zero=>intro i h;omega
 | succ m ih =>
  intro i h
  by_cases hi:i<m
  ·simp only [szK]
   rw [List.getElem?_append_left (by rw [Z6];exact hi)]
   exact ih i hi
  ·have:i=m:=by omega
   subst this
   simp only [szK]
   rw [List.getElem?_append_right (by rw [Z6];exact Nat.le_refl _),Z6]
   simp [szR]
theorem Z4 (es:List EX) (m:Nat) (i:Int):atF (szK es m) i=if i<0 then 0 else if i<m then szR es (i.toNat+1) else 0:=by
 unfold atF
 by_cases h0:i<0
 ·rw [if_pos h0,if_pos h0]
 ·rw [if_neg h0,if_neg h0]
  by_cases h1:i<m
  ·rw [if_pos h1,JW es m i.toNat (by omega)];rfl
  ·rw [if_neg h1,List.getElem?_eq_none (by rw [Z6];omega)];rfl
theorem JV (es:List EX) (n:Nat):0<=szR es n/\szR es n<=1001:=by
 cases n with
 | zero=>simp [szR]
 | succ j =>
  simp only [szR]
  cases h:es[j]? with
  | none=>simp
  | some e=>exact XZ (xM es j)
theorem Jt {x:Int} (h:Zi x<=1000):Zi x=x/\x<=1000:=by
 unfold Zi at h ⊢
 split at h
 ·omega
 ·rename_i h1;rw [if_neg h1];exact ⟨rfl,by omega⟩
theorem JC {K:List Int} (h:∀ k∈K,0<=k/\k<=1001) (l:List IM):∀ m j,j<=m->ym K l j<=ym K l m:=by
 intro m
 induction m with
 | zero =>
  intro j hj;have:j=0:=by omega
  subst this;exact Int.le_refl _
 | succ m ih =>
  intro j hj
  by_cases h1:j<=m
  ·have h2:=ih j h1
   simp only [ym]
   cases hx:l[m]? with
   | none=>simp only;omega
   | some x=>have:=Yw h x.arm;simp only;omega
  ·have:j=m+1:=by omega
   subst this;exact Int.le_refl _
theorem Za {es:List EX} {j:Nat} {e:EX} (he:es[j]?=some e) (h:szR es (j+1)<=1000) :
 szR es (j+1)=atF (szK es j) e.inner+(if e.kind=61 then 0 else 1+(e.items.length:Int))+ym (szK es j) e.items e.items.length/\atF (szK es j) e.inner<=1000/\(∀ (i:Nat) (x:IM),e.items[i]?=some x->atF (szK es j) x.arm<=1000)/\(e.kind≠61->e.items.length<=1000):=by
 simp only [szR,he] at h ⊢
 unfold szE at h ⊢
 obtain ⟨h1,h2⟩:=Jt h
 rw [h1]
 have hb:=xM es j
 have b1:=Yw hb e.inner
 have b2:=Yk hb e.items e.items.length
 refine ⟨rfl,?_,?_,?_⟩
 ·split at h2<;>omega
 ·intro i x hx
  have hi:i<e.items.length:=(List.getElem?_eq_some_iff.1 hx).1
  have c1:=JC hb e.items e.items.length (i+1) (by omega)
  have c2:=Yk hb e.items i
  simp only [ym,hx] at c1
  split at h2<;>omega
 ·intro hk
  rw [if_neg hk] at h2
  omega
theorem yr (K:List (List Int)) (e:EX):∀ m j,j<=m->(ze K e j).length<=(ze K e m).length:=by
 intro m
 induction m with
 | zero =>
  intro j hj;have:j=0:=by omega
  subst this;exact Nat.le_refl _
 | succ m ih =>
  intro j hj
  by_cases h1:j<=m
  ·have h2:=ih j h1
   simp only [ze,List.length_append];omega
  ·have:j=m+1:=by omega
   subst this;exact Nat.le_refl _
theorem Q8 (K:List (List Int)) (e:EX):∀ m j,j<=m->(zg K e j).length<=(zg K e m).length:=by
 intro m
 induction m with
 | zero =>
  intro j hj;have:j=0:=by omega
  subst this;exact Nat.le_refl _
 | succ m ih =>
  intro j hj
  by_cases h1:j<=m
  ·have h2:=ih j h1
   simp only [zg,List.length_append];omega
  ·have:j=m+1:=by omega
   subst this;exact Nat.le_refl _
theorem q9 (kind:Int) (x:IM) (way:Int):(zX kind x way).length<=7:=by
 unfold zX
 repeat' split
 all_goals simp [zw]
theorem Qg (e:EX):2<=(zT e).length/\(zT e).length<=4:=by
 unfold zT
 repeat' split
 all_goals simp [zw]
theorem yj (K:List (List Int)) (e:EX):∀ j,(zg K e j).length<=4+7*j/\2<=(zg K e j).length:=by
 intro j
 induction j with
 | zero=>have:=Qg e;simp only [zg];omega
 | succ j ih =>
  simp only [zg,List.length_append]
  cases hx:e.items[j]? with
  | none=>simp only [List.length_nil];omega
  | some x=>have:=q9 e.kind x (ze K e j).length;simp only;omega
theorem qj (es:List EX):∀ n,szR es n<=1000->((zN es n).length:Int)<=7*szR es n:=by
 intro n
 induction n using Nat.strongRecOn with
 | ind n ih =>
  cases n with
  | zero=>intro _;simp [zN,szR]
  | succ j =>
   intro h
   cases he:es[j]? with
   | none=>simp [zN,szR,he]
   | some e =>
    obtain ⟨p1,p2,p3,p4⟩:=Za he h
    have hb:=xM es j
    have hat:∀ i,atF (szK es j) i<=1000->((atL (zF es j) i).length:Int)<=7*atF (szK es j) i:=by
     intro i hi
     rw [Yj,Z4] at *
     by_cases h0:i<0
     ·simp [h0]
     ·by_cases h1:i<j
      ·rw [if_neg h0,if_pos h1] at hi ⊢
       rw [if_neg h0,if_pos h1]
       exact ih (i.toNat+1) (by omega) hi
      ·simp [h0,h1]
    have hw:∀ k,k<=e.items.length->((ze (zF es j) e k).length:Int)<=7*(atF (szK es j) e.inner+ym (szK es j) e.items k):=by
     intro k
     induction k with
     | zero=>intro _;have:=hat e.inner p2;simp only [ze,ym];omega
     | succ k ihk =>
      intro hk
      have h2:=ihk (by omega)
      obtain ⟨x,hx⟩:∃ x,e.items[k]?=some x:=⟨e.items[k],List.getElem?_eq_getElem (by omega)⟩
      have h3:=hat x.arm (p3 k x hx)
      simp only [ze,ym,hx,List.length_append]
      omega
    have hw2:=hw e.items.length (Nat.le_refl _)
    rw [p1]
    simp only [zN,he]
    unfold Zq
    have b2:=Yk hb e.items e.items.length
    by_cases hk:e.kind=61
    ·rw [if_pos hk,if_pos hk]
     have:=hat e.inner p2
     omega
    ·rw [if_neg hk,if_neg hk,List.length_append]
     have:=yj (zF es j) e e.items.length
     omega
end Go.Proofs.Ytaebngpoagjafaa
