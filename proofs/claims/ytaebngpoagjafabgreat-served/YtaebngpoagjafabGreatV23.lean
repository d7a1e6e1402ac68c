import Derived.Test.YtaebngpoagjafabGreatV19
import Derived.Test.YtaebngpoagjafabGreatV22
set_option maxRecDepth 100000
namespace Go.Proofs.YtaebngpoagjafabGreat
open Go.RowKit
theorem zdr (s:ByteArray) (b:Bool) (p:Nat):∀ n j,p<=j->(∀ i,p<=i->i<j->48<=T.ch s i/\T.ch s i<=57)->∀ i,p<=i->i<nmF s b n j->48<=T.ch s i/\T.ch s i<=57:=by
 intro n
 induction n with
 | zero=>intro j _ h i h1 h2;exact h i h1 h2
 | succ n ih =>
  intro j hj h i h1 h2
  simp only [nmF] at h2
  split at h2
  ·rename_i hd
   obtain ⟨_,_,he⟩:=xK hd
   refine ih (j+1) (by omega) (fun q hq1 hq2=>?_) i h1 h2
   by_cases hqj:q<j
   ·exact h q hq1 hqj
   ·have:q=j:=by omega
    subst this
    rw [he] at hd
    exact (Yk _).1 hd
  ·exact h i h1 h2
theorem zdM {s:ByteArray} {p:Nat}:∀ m,(∀ i,p<=i->i<p+m->48<=T.ch s i/\T.ch s i<=57)->0<=vl s p m/\vl s p m+1<=10 ^ m:=by
 intro m
 induction m with
 | zero=>intro _;simp [vl]
 | succ m ih =>
  intro h
  have h1:=ih (fun i a b=>h i a (by omega))
  have h2:=h (p+m) (by omega) (by omega)
  have h3:(10:Int) ^ (m+1)=10 ^ m*10:=Int.pow_succ _ _
  simp only [vl]
  omega
theorem xy (s:ByteArray) (k:Nat) (b:Bool):0<=zI s k b/\zI s k b<=999999999:=by
 have hu:=jt s b (nmL s (zb s k b) b) (zb s k b)
 have h9:nmL s (zb s k b) b<=9:=by unfold nmL;split<;>omega
 have hd:=zdr s b (zb s k b) (nmL s (zb s k b) b) (zb s k b) (Nat.le_refl _) (fun i h1 h2=>by omega)
 have hk:zm s k b=nmF s b (nmL s (zb s k b) b) (zb s k b):=rfl
 rw [<- hk] at hd hu
 unfold zI
 have h1:=zdM (s:=s) (p:=zb s k b) (zm s k b-zb s k b) (fun i a c=>hd i a (by omega))
 have h2:(10:Int) ^ (zm s k b-zb s k b)<=10 ^ 9:=by
  have:zm s k b-zb s k b<=9:=by omega
  generalize zm s k b-zb s k b=m at *
  have:m=0\/m=1\/m=2\/m=3\/m=4\/m=5\/m=6\/m=7\/m=8\/m=9:=by omega
  rcases this with rfl | rfl | rfl | rfl | rfl | rfl | rfl | rfl | rfl | rfl<;>decide
 have h3:(10:Int) ^ 9=1000000000:=by decide
 omega
theorem zdF (s:ByteArray) (b:Bool) (p:Nat):∀ n j,p<=j->(∀ i,p<=i->i<j->T.ch s i=48\/T.ch s i=49)->∀ i,p<=i->i<btF s b n j->T.ch s i=48\/T.ch s i=49:=by
 intro n
 induction n with
 | zero=>intro j _ h i h1 h2;exact h i h1 h2
 | succ n ih =>
  intro j hj h i h1 h2
  simp only [btF] at h2
  split at h2
  ·rename_i hd
   obtain ⟨_,_,he⟩:=X6 hd
   refine ih (j+1) (by omega) (fun q hq1 hq2=>?_) i h1 h2
   by_cases hqj:q<j
   ·exact h q hq1 hqj
   ·have:q=j:=by omega
    subst this
    rw [he] at hd
    simpa [bit] using hd
  ·exact h i h1 h2
theorem zcW (s:ByteArray) (b:Bool):∀ n j,btF s b n j<=j+n:=by
 intro n
 induction n with
 | zero=>intro j;simp [btF]
 | succ n ih =>
  intro j;simp only [btF];split
  ·have:=ih (j+1);omega
  ·omega
theorem zdZ {s:ByteArray} {p:Nat}:∀ m,(∀ i,p<=i->i<p+m->T.ch s i=48\/T.ch s i=49)->0<=bv s p m/\bv s p m+1<=2 ^ m:=by
 intro m
 induction m with
 | zero=>intro _;simp [bv]
 | succ m ih =>
  intro h
  have h1:=ih (fun i a b=>h i a (by omega))
  have h2:=h (p+m) (by omega) (by omega)
  have h3:(2:Int) ^ (m+1)=2 ^ m*2:=Int.pow_succ _ _
  simp only [bv]
  omega
theorem zdE (s:ByteArray) (k:Nat) (b:Bool):0<=btV s k b/\btV s k b<4294967296/\btL s k b<=32:=by
 have hu:=zcW s b 32 (zb s k b)
 have hd:=zdF s b (zb s k b) 32 (zb s k b) (Nat.le_refl _) (fun i h1 h2=>by omega)
 have hk:btK s k b=btF s b 32 (zb s k b):=rfl
 rw [<- hk] at hd hu
 have hl:btL s k b<=32:=by unfold btL;omega
 have h1:=zdZ (s:=s) (p:=zb s k b) (btL s k b) (fun i a c=>hd i a (by unfold btL at c;omega))
 unfold btV
 generalize btL s k b=m at *
 generalize bv s (zb s k b) m=v at *
 have hp:(0:Int)<2 ^ (32-m):=Int.pow_pos (by decide)
 have h2:(2:Int) ^ m*2 ^ (32-m)=4294967296:=by
  rw [<- Int.pow_add,show m+(32-m)=32 from by omega];decide
 have h3:(v+1)*2 ^ (32-m)<=2 ^ m*2 ^ (32-m):=Int.mul_le_mul_of_nonneg_right h1.2 (by omega)
 rw [h2,Int.add_mul,Int.one_mul] at h3
 refine ⟨Int.mul_nonneg h1.1 (by omega),by omega,hl⟩
structure IB (kind:Int) (x:IM):Prop where
 num:0<=x.num/\x.num<=999999999
 pv:0<=x.pv/\x.pv<4294967296
 pl:0<=x.pl/\x.pl<=32
 wv:0<=x.wv/\x.wv<=999999999
 arm:kind≠109->kind≠103->x.arm=-1
 zp:kind≠109->x.pv=0/\x.pl=0
 zn:kind=109->x.num=0
structure EB (e:EX):Prop where
 kind:e.kind=123\/e.kind=119\/e.kind=102\/e.kind=109\/e.kind=103\/e.kind=116\/e.kind=64\/e.kind=61
 nv:0<=e.nv/\e.nv<=999999999
 it:∀ x∈e.items,IB e.kind x
 inn:e.kind=123\/e.kind=64->e.inner=-1
 emp:e.kind=64\/e.kind=116\/e.kind=61->e.items=[]
def yV (l:List EX):Prop:=∀ e∈l,EB e
theorem yV.app {a b:List EX} (h:yV a) (k:yV b):yV (a++b):=fun e he=>(List.mem_append.1 he).elim (h e) (k e)
theorem yV.one {e:EX} (h:EB e):yV [e]:=fun x hx=>by simp at hx;subst hx;exact h
theorem yV.nil:yV []:=fun _ h=>by simp at h
theorem zbF {ex:Int->Nat->Nat->Bool->CR} {s:ByteArray} (hX:∀ d m k b,yV (ex d m k b).es) (kind d:Int) (m k:Nat) (b:Bool):yV (zt ex s kind d m k b).es/\IB kind (zt ex s kind d m k b).im:=by
 unfold zt
 simp only
 split
 ·rename_i hk
  have:=zdE s (zb s k b) b
  exact ⟨hX _ _ _ _,⟨by simp,by simp only;omega,by simp only;omega,by simp,fun h=>absurd hk h,fun h=>absurd hk h,fun _=>rfl⟩⟩
 ·split
  ·rename_i hk
   have:=xy s (zb s k b) b
   exact ⟨hX _ _ _ _,⟨by simp only;omega,by simp,by simp,by simp,fun _ h=>absurd hk h,fun _=>⟨rfl,rfl⟩,fun h=>by omega⟩⟩
  ·have h1:=xy s (zb s k b) b
   split
   ·have h2:=xy s (zc s 42 (zm s (zb s k b) b) (zu s (zb s k b) b)) (zj s 42 (zm s (zb s k b) b) (zu s (zb s k b) b))
    exact ⟨yV.nil,⟨by simp only;omega,by simp,by simp,by simp only;omega,fun _ _=>rfl,fun _=>⟨rfl,rfl⟩,fun h=>by omega⟩⟩
   ·exact ⟨yV.nil,⟨by simp only;omega,by simp,by simp,by simp,fun _ _=>rfl,fun _=>⟨rfl,rfl⟩,fun h=>by omega⟩⟩
theorem qy {ex:Int->Nat->Nat->Bool->CR} {s:ByteArray} (hX:∀ d m k b,yV (ex d m k b).es) (kind d:Int):∀ (n m k:Nat) (b:Bool),yV (zd ex s kind d n m k b).es/\∀ x∈(zd ex s kind d n m k b).ims,IB kind x:=by
 intro n
 induction n with
 | zero=>intro m k b;exact ⟨yV.nil,fun x hx=>by simp [zd] at hx⟩
 | succ n ih =>
  intro m k b
  have h1:=zbF (s:=s) hX kind d m k b
  simp only [zd]
  split
  ·have h2:=ih (m+(zt ex s kind d m k b).es.length) (zc s 44 (zt ex s kind d m k b).k (zt ex s kind d m k b).b) (zt ex s kind d m k b).b
   refine ⟨h1.1.app h2.1,fun x hx=>?_⟩
   rcases List.mem_cons.1 hx with rfl | hx
   ·exact h1.2
   ·exact h2.2 x hx
  ·refine ⟨h1.1,fun x hx=>?_⟩
   simp only [List.mem_singleton] at hx
   subst hx
   exact h1.2
theorem zdc (s:ByteArray) (rs:List RL) (n:Nat):∀ d m k b,yV (cE s rs n d m k b).es:=by
 induction n with
 | zero=>intro d m k b;exact yV.nil
 | succ n ih =>
  intro d m k b
  have hb:=Z6 s (zb s k b) b
  simp only [cE]
  split
  ·exact yV.nil
  ·rename_i hk
   split
   ·have h:=qy (s:=s) ih 123 d (s.size+1-(zb s k b+1)) m (zb s k b+1) b
    exact h.1.app (yV.one ⟨.inl rfl,by simp,h.2,fun _=>rfl,fun h=>by simp at h⟩)
   ·split
    ·exact (ih _ _ _ _).app (yV.one ⟨by simp,xy _ _ _,fun x hx=>by simp at hx,fun h=>by simp at h,fun _=>rfl⟩)
    ·split
     ·exact yV.one ⟨by simp,xy _ _ _,fun x hx=>by simp at hx,fun _=>rfl,fun _=>rfl⟩
     ·split
      ·exact yV.one ⟨by simp,by have:=Z6 s (zb s (zb s k b+1) b) b;simp only;omega,fun x hx=>by simp at hx,fun h=>by simp at h,fun _=>rfl⟩
      ·rename_i h1 h2 h3 h4
       have h:=qy (s:=s) ih (ze s (zb s k b) b) d (s.size+1-zc s 40 (zb s k b+1) b) m (zc s 40 (zb s k b+1) b) (zj s 40 (zb s k b+1) b)
       have hkk:isK (ze s (zb s k b) b)=true:=by simpa using hk
       simp only [isK,Bool.or_eq_true,beq_iff_eq] at hkk
       exact (h.1.app (ih _ _ _ _)).app (yV.one ⟨by simp only;omega,by simp,h.2,fun h=>by simp only at h;omega,fun h=>by simp only at h;omega⟩)
theorem zal (s:ByteArray):∀ (n:Nat) (rs:List RL) (m k:Nat) (b:Bool),yV (zw s n rs m k b).es:=by
 intro n
 induction n with
 | zero=>intro rs m k b;exact yV.nil
 | succ n ih =>
  intro rs m k b
  simp only [zw]
  split
  ·exact yV.app (zdc s rs _ _ _ _ _) (ih _ _ _ _)
  ·exact zdc s rs _ _ _ _ _
theorem Qe (s:ByteArray):yV (zA s).es:=zal s _ _ _ _ _
def zW (n:Int):Nat->List Int
 | 0=>[]
 | k+1=>(n%256)::zW (n / 256) k
def ym (kind:Int) (x:IM) (way:Int):List Int :=
 if kind=109 then zW x.pv 4++zW x.pl 1++zW way 2
 else if kind=103 then zW x.num 1++zW way 2
 else if kind=119 then zW x.num 1++zW x.wv 2
 else zW x.num 1
def yh (e:EX):List Int :=
 zW e.kind 1++(if e.kind=116 then zW e.nv 3 else if e.kind=64 then zW e.nv 1 else zW e.items.length 1)
def atL (K:List (List Int)) (i:Int):List Int:=if i<0 then [] else (K[i.toNat]?).getD []
def zg (K:List (List Int)) (e:EX):Nat->List Int
 | 0=>atL K e.inner
 | j+1=>zg K e j++(match e.items[j]? with | some x=>atL K x.arm | none=>[])
def zo (K:List (List Int)) (e:EX):Nat->List Int
 | 0=>yh e
 | j+1=>zo K e j++(match e.items[j]? with | some x=>ym e.kind x (zg K e j).length | none=>[])
def Yj (K:List (List Int)) (e:EX):List Int :=
 if e.kind=61 then atL K e.inner else zo K e e.items.length++zg K e e.items.length
def zR (es:List EX):Nat->List (List Int)
 | 0=>[]
 | j+1=>zR es j++[match es[j]? with | some e=>Yj (zR es j) e | none=>[]]
def z8 (es:List EX):Nat->List Int
 | 0=>[]
 | j+1=>match es[j]? with | some e=>Yj (zR es j) e | none=>[]
theorem zE (n:Int) (k:Nat):(zW n k).length=k:=by
 induction k generalizing n with
 | zero=>rfl
 | succ k ih=>simp [zW,ih]
theorem xJ (es:List EX):∀ j,(zR es j).length=j:=by
 intro j
 induction j with
 | zero=>rfl
 | succ j ih=>simp [zR,ih]
theorem zcM (es:List EX):∀ m i,i<m->(zR es m)[i]?=some (z8 es (i+1)):=by
 intro m
 induction m with
 | zero=>intro i h;omega
 | succ m ih =>
  intro i h
  by_cases hi:i<m
  ·simp only [zR]
   rw [List.getElem?_append_left (by rw [xJ];exact hi)]
   exact ih i hi
  ·have:i=m:=by omega
   subst this
   simp only [zR]
   rw [List.getElem?_append_right (by rw [xJ];exact Nat.le_refl _),xJ]
   simp [z8]
theorem xQ (es:List EX) (m:Nat) (i:Int):atL (zR es m) i=if i<0 then [] else if i<m then z8 es (i.toNat+1) else []:=by
 unfold atL
 by_cases h0:i<0
 ·rw [if_pos h0,if_pos h0]
 ·rw [if_neg h0,if_neg h0]
  by_cases h1:i<m
  ·rw [if_pos h1,zcM es m i.toNat (by omega)];rfl
  ·rw [if_neg h1,List.getElem?_eq_none (by rw [xJ];omega)];rfl
theorem zdh (es:List EX):∀ m i,i<m->(szK es m)[i]?=some (szR es (i+1)):=by
 intro m
 induction m with
 | zero=>intro i h;omega
 | succ m ih =>
  intro i h
  by_cases hi:i<m
  ·simp only [szK]
   rw [List.getElem?_append_left (by rw [ZQ];exact hi)]
   exact ih i hi
  ·have:i=m:=by omega
   subst this
   simp only [szK]
   rw [List.getElem?_append_right (by rw [ZQ];exact Nat.le_refl _),ZQ]
   simp [szR]
theorem Y9 (es:List EX) (m:Nat) (i:Int):atF (szK es m) i=if i<0 then 0 else if i<m then szR es (i.toNat+1) else 0:=by
 unfold atF
 by_cases h0:i<0
 ·rw [if_pos h0,if_pos h0]
 ·rw [if_neg h0,if_neg h0]
  by_cases h1:i<m
  ·rw [if_pos h1,zdh es m i.toNat (by omega)];rfl
  ·rw [if_neg h1,List.getElem?_eq_none (by rw [ZQ];omega)];rfl
theorem zdg (es:List EX) (n:Nat):0<=szR es n/\szR es n<=1001:=by
 cases n with
 | zero=>simp [szR]
 | succ j =>
  simp only [szR]
  cases h:es[j]? with
  | none=>simp
  | some e=>exact zaH (XB es j)
theorem zcR {x:Int} (h:Ze x<=1000):Ze x=x/\x<=1000:=by
 unfold Ze at h ⊢
 split at h
 ·omega
 ·rename_i h1;rw [if_neg h1];exact ⟨rfl,by omega⟩
theorem zc0 {K:List Int} (h:∀ k∈K,0<=k/\k<=1001) (l:List IM):∀ m j,j<=m->yC K l j<=yC K l m:=by
 intro m
 induction m with
 | zero =>
  intro j hj;have:j=0:=by omega
  subst this;exact Int.le_refl _
 | succ m ih =>
  intro j hj
  by_cases h1:j<=m
  ·have h2:=ih j h1
   simp only [yC]
   cases hx:l[m]? with
   | none=>simp only;omega
   | some x=>have:=xc h x.arm;simp only;omega
  ·have:j=m+1:=by omega
   subst this;exact Int.le_refl _
theorem Z0 {es:List EX} {j:Nat} {e:EX} (he:es[j]?=some e) (h:szR es (j+1)<=1000) :
 szR es (j+1)=atF (szK es j) e.inner+(if e.kind=61 then 0 else 1+(e.items.length:Int))+yC (szK es j) e.items e.items.length/\atF (szK es j) e.inner<=1000/\(∀ (i:Nat) (x:IM),e.items[i]?=some x->atF (szK es j) x.arm<=1000)/\(e.kind≠61->e.items.length<=1000):=by
 simp only [szR,he] at h ⊢
 unfold szE at h ⊢
 obtain ⟨h1,h2⟩:=zcR h
 rw [h1]
 have hb:=XB es j
 have b1:=xc hb e.inner
 have b2:=xS hb e.items e.items.length
 refine ⟨rfl,?_,?_,?_⟩
 ·split at h2<;>omega
 ·intro i x hx
  have hi:i<e.items.length:=(List.getElem?_eq_some_iff.1 hx).1
  have c1:=zc0 hb e.items e.items.length (i+1) (by omega)
  have c2:=xS hb e.items i
  simp only [yC,hx] at c1
  split at h2<;>omega
 ·intro hk
  rw [if_neg hk] at h2
  omega
theorem yO (K:List (List Int)) (e:EX):∀ m j,j<=m->(zg K e j).length<=(zg K e m).length:=by
 intro m
 induction m with
 | zero =>
  intro j hj;have:j=0:=by omega
  subst this;exact Nat.le_refl _
 | succ m ih =>
  intro j hj
  by_cases h1:j<=m
  ·have h2:=ih j h1
   simp only [zg,List.length_append];omega
  ·have:j=m+1:=by omega
   subst this;exact Nat.le_refl _
theorem zbm (K:List (List Int)) (e:EX):∀ m j,j<=m->(zo K e j).length<=(zo K e m).length:=by
 intro m
 induction m with
 | zero =>
  intro j hj;have:j=0:=by omega
  subst this;exact Nat.le_refl _
 | succ m ih =>
  intro j hj
  by_cases h1:j<=m
  ·have h2:=ih j h1
   simp only [zo,List.length_append];omega
  ·have:j=m+1:=by omega
   subst this;exact Nat.le_refl _
theorem J0 (kind:Int) (x:IM) (way:Int):(ym kind x way).length<=7:=by
 unfold ym
 repeat' split
 all_goals simp [zE]
theorem zae (e:EX):2<=(yh e).length/\(yh e).length<=4:=by
 unfold yh
 repeat' split
 all_goals simp [zE]
theorem yJ (K:List (List Int)) (e:EX):∀ j,(zo K e j).length<=4+7*j/\2<=(zo K e j).length:=by
 intro j
 induction j with
 | zero=>have:=zae e;simp only [zo];omega
 | succ j ih =>
  simp only [zo,List.length_append]
  cases hx:e.items[j]? with
  | none=>simp only [List.length_nil];omega
  | some x=>have:=J0 e.kind x (zg K e j).length;simp only;omega
theorem jH (es:List EX):∀ n,szR es n<=1000->((z8 es n).length:Int)<=7*szR es n:=by
 intro n
 induction n using Nat.strongRecOn with
 | ind n ih =>
  cases n with
  | zero=>intro _;simp [z8,szR]
  | succ j =>
   intro h
   cases he:es[j]? with
   | none=>simp [z8,szR,he]
   | some e =>
    obtain ⟨p1,p2,p3,p4⟩:=Z0 he h
    have hb:=XB es j
    have hat:∀ i,atF (szK es j) i<=1000->((atL (zR es j) i).length:Int)<=7*atF (szK es j) i:=by
     intro i hi
     rw [xQ,Y9] at *
     by_cases h0:i<0
     ·simp [h0]
     ·by_cases h1:i<j
      ·rw [if_neg h0,if_pos h1] at hi ⊢
       rw [if_neg h0,if_pos h1]
       exact ih (i.toNat+1) (by omega) hi
      ·simp [h0,h1]
    have hw:∀ k,k<=e.items.length->((zg (zR es j) e k).length:Int)<=7*(atF (szK es j) e.inner+yC (szK es j) e.items k):=by
     intro k
     induction k with
     | zero=>intro _;have:=hat e.inner p2;simp only [zg,yC];omega
     | succ k ihk =>
      intro hk
      have h2:=ihk (by omega)
      obtain ⟨x,hx⟩:∃ x,e.items[k]?=some x:=⟨e.items[k],List.getElem?_eq_getElem (by omega)⟩
      have h3:=hat x.arm (p3 k x hx)
      simp only [zg,yC,hx,List.length_append]
      omega
    have hw2:=hw e.items.length (Nat.le_refl _)
    rw [p1]
    simp only [z8,he]
    unfold Yj
    have b2:=xS hb e.items e.items.length
    by_cases hk:e.kind=61
    ·rw [if_pos hk,if_pos hk]
     have:=hat e.inner p2
     omega
    ·rw [if_neg hk,if_neg hk,List.length_append]
     have:=yJ (zR es j) e e.items.length
     omega
end Go.Proofs.YtaebngpoagjafabGreat
