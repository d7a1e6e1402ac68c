import Derived.Test.YtaebngpoagjafabF17
import Derived.Test.YtaebngpoagjafabF20
set_option maxRecDepth 100000
namespace Go.Proofs.Ytaebngpoagjafab
open Go.RowKit
theorem zaA (s:ByteArray) (b:Bool) (p:Nat):∀ n j,p<=j->(∀ i,p<=i->i<j->48<=T.ch s i/\T.ch s i<=57)->∀ i,p<=i->i<nmF s b n j->48<=T.ch s i/\T.ch s i<=57:=by
 intro n
 induction n with
 | zero=>intro j _ h i h1 h2;exact h i h1 h2
 | succ n ih =>
  intro j hj h i h1 h2
  simp only [nmF] at h2
  split at h2
  ·rename_i hd
   obtain ⟨_,_,he⟩:=yu hd
   refine ih (j+1) (by omega) (fun q hq1 hq2=>?_) i h1 h2
   by_cases hqj:q<j
   ·exact h q hq1 hqj
   ·have:q=j:=by omega
    subst this
    rw [he] at hd
    exact (ZR _).1 hd
  ·exact h i h1 h2
theorem zaW {s:ByteArray} {p:Nat}:∀ m,(∀ i,p<=i->i<p+m->48<=T.ch s i/\T.ch s i<=57)->0<=vl s p m/\vl s p m+1<=10 ^ m:=by
 intro m
 induction m with
 | zero=>intro _;simp [vl]
 | succ m ih =>
  intro h
  have h1:=ih (fun i a b=>h i a (by omega))
  have h2:=h (p+m) (by omega) (by omega)
  have h3:(10:Int) ^ (m+1)=10 ^ m*10:=Int.pow_succ _ _
  simp only [vl]
  omega
theorem Yz (s:ByteArray) (k:Nat) (b:Bool):0<=zA s k b/\zA s k b<=999999999:=by
 have hu:=qm s b (nmL s (za s k b) b) (za s k b)
 have h9:nmL s (za s k b) b<=9:=by unfold nmL;split<;>omega
 have hd:=zaA s b (za s k b) (nmL s (za s k b) b) (za s k b) (Nat.le_refl _) (fun i h1 h2=>by omega)
 have hk:zi s k b=nmF s b (nmL s (za s k b) b) (za s k b):=rfl
 rw [<- hk] at hd hu
 unfold zA
 have h1:=zaW (s:=s) (p:=za s k b) (zi s k b-za s k b) (fun i a c=>hd i a (by omega))
 have h2:(10:Int) ^ (zi s k b-za s k b)<=10 ^ 9:=by
  have:zi s k b-za s k b<=9:=by omega
  generalize zi s k b-za s k b=m at *
  have:m=0\/m=1\/m=2\/m=3\/m=4\/m=5\/m=6\/m=7\/m=8\/m=9:=by omega
  rcases this with rfl | rfl | rfl | rfl | rfl | rfl | rfl | rfl | rfl | rfl<;>decide
 have h3:(10:Int) ^ 9=1000000000:=by decide
 omega
theorem zaR (s:ByteArray) (b:Bool) (p:Nat):∀ n j,p<=j->(∀ i,p<=i->i<j->T.ch s i=48\/T.ch s i=49)->∀ i,p<=i->i<btF s b n j->T.ch s i=48\/T.ch s i=49:=by
 intro n
 induction n with
 | zero=>intro j _ h i h1 h2;exact h i h1 h2
 | succ n ih =>
  intro j hj h i h1 h2
  simp only [btF] at h2
  split at h2
  ·rename_i hd
   obtain ⟨_,_,he⟩:=xw hd
   refine ih (j+1) (by omega) (fun q hq1 hq2=>?_) i h1 h2
   by_cases hqj:q<j
   ·exact h q hq1 hqj
   ·have:q=j:=by omega
    subst this
    rw [he] at hd
    simpa [bit] using hd
  ·exact h i h1 h2
theorem zaf (s:ByteArray) (b:Bool):∀ n j,btF s b n j<=j+n:=by
 intro n
 induction n with
 | zero=>intro j;simp [btF]
 | succ n ih =>
  intro j;simp only [btF];split
  ·have:=ih (j+1);omega
  ·omega
theorem za5 {s:ByteArray} {p:Nat}:∀ m,(∀ i,p<=i->i<p+m->T.ch s i=48\/T.ch s i=49)->0<=bv s p m/\bv s p m+1<=2 ^ m:=by
 intro m
 induction m with
 | zero=>intro _;simp [bv]
 | succ m ih =>
  intro h
  have h1:=ih (fun i a b=>h i a (by omega))
  have h2:=h (p+m) (by omega) (by omega)
  have h3:(2:Int) ^ (m+1)=2 ^ m*2:=Int.pow_succ _ _
  simp only [bv]
  omega
theorem zaQ (s:ByteArray) (k:Nat) (b:Bool):0<=btV s k b/\btV s k b<4294967296/\btL s k b<=32:=by
 have hu:=zaf s b 32 (za s k b)
 have hd:=zaR s b (za s k b) 32 (za s k b) (Nat.le_refl _) (fun i h1 h2=>by omega)
 have hk:btK s k b=btF s b 32 (za s k b):=rfl
 rw [<- hk] at hd hu
 have hl:btL s k b<=32:=by unfold btL;omega
 have h1:=za5 (s:=s) (p:=za s k b) (btL s k b) (fun i a c=>hd i a (by unfold btL at c;omega))
 unfold btV
 generalize btL s k b=m at *
 generalize bv s (za s k b) m=v at *
 have hp:(0:Int)<2 ^ (32-m):=Int.pow_pos (by decide)
 have h2:(2:Int) ^ m*2 ^ (32-m)=4294967296:=by
  rw [<- Int.pow_add,show m+(32-m)=32 from by omega];decide
 have h3:(v+1)*2 ^ (32-m)<=2 ^ m*2 ^ (32-m):=Int.mul_le_mul_of_nonneg_right h1.2 (by omega)
 rw [h2,Int.add_mul,Int.one_mul] at h3
 refine ⟨Int.mul_nonneg h1.1 (by omega),by omega,hl⟩
structure IB (kind:Int) (x:IM):Prop where
 num:0<=x.num/\x.num<=999999999
 pv:0<=x.pv/\x.pv<4294967296
 pl:0<=x.pl/\x.pl<=32
 wv:0<=x.wv/\x.wv<=999999999
 arm:kind≠109->kind≠103->x.arm=-1
 zp:kind≠109->x.pv=0/\x.pl=0
 zn:kind=109->x.num=0
structure EB (e:EX):Prop where
 kind:e.kind=123\/e.kind=119\/e.kind=102\/e.kind=109\/e.kind=103\/e.kind=116\/e.kind=64\/e.kind=61
 nv:0<=e.nv/\e.nv<=999999999
 it:∀ x∈e.items,IB e.kind x
 inn:e.kind=123\/e.kind=64->e.inner=-1
 emp:e.kind=64\/e.kind=116\/e.kind=61->e.items=[]
def yE (l:List EX):Prop:=∀ e∈l,EB e
theorem yE.app {a b:List EX} (h:yE a) (k:yE b):yE (a++b):=fun e he=>(List.mem_append.1 he).elim (h e) (k e)
theorem yE.one {e:EX} (h:EB e):yE [e]:=fun x hx=>by simp at hx;subst hx;exact h
theorem yE.nil:yE []:=fun _ h=>by simp at h
theorem j9 {ex:Int->Nat->Nat->Bool->CR} {s:ByteArray} (hX:∀ d m k b,yE (ex d m k b).es) (kind d:Int) (m k:Nat) (b:Bool):yE (zs ex s kind d m k b).es/\IB kind (zs ex s kind d m k b).im:=by
 unfold zs
 simp only
 split
 ·rename_i hk
  have:=zaQ s (za s k b) b
  exact ⟨hX _ _ _ _,⟨by simp,by simp only;omega,by simp only;omega,by simp,fun h=>absurd hk h,fun h=>absurd hk h,fun _=>rfl⟩⟩
 ·split
  ·rename_i hk
   have:=Yz s (za s k b) b
   exact ⟨hX _ _ _ _,⟨by simp only;omega,by simp,by simp,by simp,fun _ h=>absurd hk h,fun _=>⟨rfl,rfl⟩,fun h=>by omega⟩⟩
  ·have h1:=Yz s (za s k b) b
   split
   ·have h2:=Yz s (zb s 42 (zi s (za s k b) b) (zq s (za s k b) b)) (ze s 42 (zi s (za s k b) b) (zq s (za s k b) b))
    exact ⟨yE.nil,⟨by simp only;omega,by simp,by simp,by simp only;omega,fun _ _=>rfl,fun _=>⟨rfl,rfl⟩,fun h=>by omega⟩⟩
   ·exact ⟨yE.nil,⟨by simp only;omega,by simp,by simp,by simp,fun _ _=>rfl,fun _=>⟨rfl,rfl⟩,fun h=>by omega⟩⟩
theorem xR {ex:Int->Nat->Nat->Bool->CR} {s:ByteArray} (hX:∀ d m k b,yE (ex d m k b).es) (kind d:Int):∀ (n m k:Nat) (b:Bool),yE (zd ex s kind d n m k b).es/\∀ x∈(zd ex s kind d n m k b).ims,IB kind x:=by
 intro n
 induction n with
 | zero=>intro m k b;exact ⟨yE.nil,fun x hx=>by simp [zd] at hx⟩
 | succ n ih =>
  intro m k b
  have h1:=j9 (s:=s) hX kind d m k b
  simp only [zd]
  split
  ·have h2:=ih (m+(zs ex s kind d m k b).es.length) (zb s 44 (zs ex s kind d m k b).k (zs ex s kind d m k b).b) (zs ex s kind d m k b).b
   refine ⟨h1.1.app h2.1,fun x hx=>?_⟩
   rcases List.mem_cons.1 hx with rfl | hx
   ·exact h1.2
   ·exact h2.2 x hx
  ·refine ⟨h1.1,fun x hx=>?_⟩
   simp only [List.mem_singleton] at hx
   subst hx
   exact h1.2
theorem zaq (s:ByteArray) (rs:List RL) (n:Nat):∀ d m k b,yE (cE s rs n d m k b).es:=by
 induction n with
 | zero=>intro d m k b;exact yE.nil
 | succ n ih =>
  intro d m k b
  have hb:=ZG s (za s k b) b
  simp only [cE]
  split
  ·exact yE.nil
  ·rename_i hk
   split
   ·have h:=xR (s:=s) ih 123 d (s.size+1-(za s k b+1)) m (za s k b+1) b
    exact h.1.app (yE.one ⟨.inl rfl,by simp,h.2,fun _=>rfl,fun h=>by simp at h⟩)
   ·split
    ·exact (ih _ _ _ _).app (yE.one ⟨by simp,Yz _ _ _,fun x hx=>by simp at hx,fun h=>by simp at h,fun _=>rfl⟩)
    ·split
     ·exact yE.one ⟨by simp,Yz _ _ _,fun x hx=>by simp at hx,fun _=>rfl,fun _=>rfl⟩
     ·split
      ·exact yE.one ⟨by simp,by have:=ZG s (za s (za s k b+1) b) b;simp only;omega,fun x hx=>by simp at hx,fun h=>by simp at h,fun _=>rfl⟩
      ·rename_i h1 h2 h3 h4
       have h:=xR (s:=s) ih (zc s (za s k b) b) d (s.size+1-zb s 40 (za s k b+1) b) m (zb s 40 (za s k b+1) b) (ze s 40 (za s k b+1) b)
       have hkk:isK (zc s (za s k b) b)=true:=by simpa using hk
       simp only [isK,Bool.or_eq_true,beq_iff_eq] at hkk
       exact (h.1.app (ih _ _ _ _)).app (yE.one ⟨by simp only;omega,by simp,h.2,fun h=>by simp only at h;omega,fun h=>by simp only at h;omega⟩)
theorem Q2 (s:ByteArray):∀ (n:Nat) (rs:List RL) (m k:Nat) (b:Bool),yE (zo s n rs m k b).es:=by
 intro n
 induction n with
 | zero=>intro rs m k b;exact yE.nil
 | succ n ih =>
  intro rs m k b
  simp only [zo]
  split
  ·exact yE.app (zaq s rs _ _ _ _ _) (ih _ _ _ _)
  ·exact zaq s rs _ _ _ _ _
theorem Qb (s:ByteArray):yE (zk s).es:=Q2 s _ _ _ _ _
namespace M
def p2:Nat->Int
 | 0=>1
 | n+1=>p2 n*2
theorem p2_32:p2 32=4294967296:=by decide
theorem p2_succ (n:Nat):p2 (n+1)=p2 n*2:=rfl
def shN:Nat->Int->Int->Nat
 | 0,_,_=>0
 | n+1,a,b=>if a=b then n+1 else shN n (a / 2) (b / 2)
def sh (a b:Int):Nat:=shN 32 a b
theorem shN_le (n:Nat):∀ a b,shN n a b<=n:=by
 induction n with
 | zero=>intro a b;simp [shN]
 | succ n ih =>
  intro a b;simp only [shN];split
  ·exact Nat.le_refl _
  ·exact Nat.le_succ_of_le (ih _ _)
theorem sh_le (a b:Int):sh a b<=32:=shN_le 32 a b
theorem shN_iff (n:Nat):∀ (a b:Int) (s:Nat),s<=n->0<=a->0<=b->a<p2 n->b<p2 n->(s<=shN n a b↔a / p2 (n-s)=b / p2 (n-s)):=by
 induction n with
 | zero =>
  intro a b s hs ha hb la lb
  have hp:p2 0=1:=rfl
  rw [hp] at la lb
  have:s=0:=by omega
  subst this
  have:a=0:=by omega
  have:b=0:=by omega
  subst a b;simp [shN]
 | succ n ih =>
  intro a b s hs ha hb la lb
  simp only [p2_succ] at la lb
  simp only [shN]
  by_cases hab:a=b
  ·subst hab;simp [hs]
  ·rw [if_neg hab]
   by_cases hsn:s=n+1
   ·subst hsn
    have:=shN_le n (a / 2) (b / 2)
    rw [Nat.sub_self]
    simp only [p2,Int.ediv_one]
    constructor
    ·intro h;omega
    ·intro h;exact absurd h hab
   ·have h1:=ih (a / 2) (b / 2) s (by omega) (by omega) (by omega) (by omega) (by omega)
    rw [h1,Int.ediv_ediv_of_nonneg (by omega),Int.ediv_ediv_of_nonneg (by omega)]
    have:n+1-s=(n-s)+1:=by omega
    rw [this,p2_succ,Int.mul_comm 2]
def isA (n:Int):Bool:=decide (0<=n) && decide (n<4294967296)
theorem isA_iff {n:Int}:isA n=true↔0<=n/\n<4294967296:=by simp [isA]
def isP (v n:Int):Bool:=decide (0<=n) && decide (n<=32) && isA v && decide (v%p2 (32-n).toNat=0)
theorem isP_iff {v n:Int}:isP v n=true↔0<=n/\n<=32/\0<=v/\v<4294967296/\v%p2 (32-n).toNat=0:=by
 simp [isP,isA];omega
end M
section
namespace M
section
variable (V L:Nat->Int) (a:Int)
def bitsTo:Nat->Int
 | 0=>-1
 | i+1=>if L i<=sh (V i) a/\bitsTo i<L i then L i else bitsTo i
def bestTo:Nat->Int
 | 0=>-1
 | i+1=>if L i<=sh (V i) a/\bitsTo V L a i<L i then i else bestTo i
def need (i:Nat):Int:=if sh (V i) a<L i then sh (V i) a+1 else L i
def depTo:Nat->Int
 | 0=>0
 | i+1=>if depTo i<need V L a i then need V L a i else depTo i
end
theorem sh_iff {a b:Int} {s:Nat} (hs:s<=32) (ha:isA a=true) (hb:isA b=true):s<=sh a b↔a / p2 (32-s)=b / p2 (32-s):=by
 obtain ⟨a0,a1⟩:=isA_iff.1 ha
 obtain ⟨b0,b1⟩:=isA_iff.1 hb
 exact shN_iff 32 a b s hs a0 b0 (by rw [p2_32];exact a1) (by rw [p2_32];exact b1)
theorem sh_trans {a b c:Int} {s:Nat} (ha:isA a=true) (hb:isA b=true) (hc:isA c=true) (h1:s<=sh a b) (h2:s<=sh b c):s<=sh a c:=by
 have hs:s<=32:=Nat.le_trans h1 (sh_le a b)
 rw [sh_iff hs ha hb] at h1
 rw [sh_iff hs hb hc] at h2
 rw [sh_iff hs ha hc];omega
theorem sh_comm {a b:Int} {s:Nat} (ha:isA a=true) (hb:isA b=true) (h:s<=sh a b):s<=sh b a:=by
 have hs:s<=32:=Nat.le_trans h (sh_le a b)
 rw [sh_iff hs ha hb] at h
 rw [sh_iff hs hb ha];omega
theorem alike {V L:Nat->Int} {a a':Int} (ha:isA a=true) (ha':isA a'=true) {i:Nat} (hv:isA (V i)=true) {s:Nat} (hs:s<=sh a a') (h:need V L a i<=s) :
 need V L a' i=need V L a i/\(L i<=sh (V i) a'↔L i<=sh (V i) a):=by
 unfold need at *
 by_cases hc:(sh (V i) a:Int)<L i
 ·rw [if_pos hc] at h
  have h1:∀ t,t<=s->(t<=sh (V i) a'↔t<=sh (V i) a):=fun t ht =>
   ⟨fun h2=>sh_trans hv ha' ha h2 (sh_comm ha ha' (Nat.le_trans ht hs)),fun h2=>sh_trans hv ha ha' h2 (Nat.le_trans ht hs)⟩
  have e:sh (V i) a'=sh (V i) a:=by
   have u1:=(h1 (sh (V i) a) (by omega)).2 (Nat.le_refl _)
   have u2:=h1 (sh (V i) a+1) (by omega)
   omega
  rw [e];exact ⟨rfl,Iff.rfl⟩
 ·rw [if_neg hc] at h
  have h2:L i<=sh (V i) a':=by
   by_cases h0:0<=L i
   ·obtain ⟨t,ht⟩:=Int.eq_ofNat_of_zero_le h0
    have:=sh_trans (s:=t) hv ha ha' (by omega) (by omega)
    omega
   ·omega
  rw [if_neg hc,if_neg (by omega)]
  exact ⟨rfl,by omega⟩
end M
end
def yi (n:Int):Nat->List Int
 | 0=>[]
 | k+1=>(n%256)::yi (n / 256) k
def yL (kind:Int) (x:IM) (way:Int):List Int :=
 if kind=109 then yi x.pv 4++yi x.pl 1++yi way 2
 else if kind=103 then yi x.num 1++yi way 2
 else if kind=119 then yi x.num 1++yi x.wv 2
 else yi x.num 1
def Zp (e:EX):List Int :=
 yi e.kind 1++(if e.kind=116 then yi e.nv 3 else if e.kind=64 then yi e.nv 1 else yi e.items.length 1)
def atL (K:List (List Int)) (i:Int):List Int:=if i<0 then [] else (K[i.toNat]?).getD []
def zt (K:List (List Int)) (e:EX):Nat->List Int
 | 0=>atL K e.inner
 | j+1=>zt K e j++(match e.items[j]? with | some x=>atL K x.arm | none=>[])
def zW (K:List (List Int)) (e:EX):Nat->List Int
 | 0=>Zp e
 | j+1=>zW K e j++(match e.items[j]? with | some x=>yL e.kind x (zt K e j).length | none=>[])
def Ym (K:List (List Int)) (e:EX):List Int :=
 if e.kind=61 then atL K e.inner else zW K e e.items.length++zt K e e.items.length
def ym (es:List EX):Nat->List (List Int)
 | 0=>[]
 | j+1=>ym es j++[match es[j]? with | some e=>Ym (ym es j) e | none=>[]]
def yt (es:List EX):Nat->List Int
 | 0=>[]
 | j+1=>match es[j]? with | some e=>Ym (ym es j) e | none=>[]
theorem yW (n:Int) (k:Nat):(yi n k).length=k:=by
 induction k generalizing n with
 | zero=>rfl
 | succ k ih=>simp [yi,ih]
theorem ZM (es:List EX):∀ j,(ym es j).length=j:=by
 intro j
 induction j with
 | zero=>rfl
 | succ j ih=>simp [ym,ih]
theorem J7 (es:List EX):∀ m i,i<m->(ym es m)[i]?=some (yt es (i+1)):=by
 intro m
 induction m with
 | zero=>intro i h;omega
 | succ m ih =>
  intro i h
  by_cases hi:i<m
  ·simp only [ym]
   rw [List.getElem?_append_left (by rw [ZM];exact hi)]
   exact ih i hi
  ·have:i=m:=by omega
   subst this
   simp only [ym]
   rw [List.getElem?_append_right (by rw [ZM];exact Nat.le_refl _),ZM]
   simp [yt]
theorem YZ (es:List EX) (m:Nat) (i:Int):atL (ym es m) i=if i<0 then [] else if i<m then yt es (i.toNat+1) else []:=by
 unfold atL
 by_cases h0:i<0
 ·rw [if_pos h0,if_pos h0]
 ·rw [if_neg h0,if_neg h0]
  by_cases h1:i<m
  ·rw [if_pos h1,J7 es m i.toNat (by omega)];rfl
  ·rw [if_neg h1,List.getElem?_eq_none (by rw [ZM];omega)];rfl
theorem zav (es:List EX):∀ m i,i<m->(szK es m)[i]?=some (szR es (i+1)):=by
 intro m
 induction m with
 | zero=>intro i h;omega
 | succ m ih =>
  intro i h
  by_cases hi:i<m
  ·simp only [szK]
   rw [List.getElem?_append_left (by rw [yR];exact hi)]
   exact ih i hi
  ·have:i=m:=by omega
   subst this
   simp only [szK]
   rw [List.getElem?_append_right (by rw [yR];exact Nat.le_refl _),yR]
   simp [szR]
theorem Jn (es:List EX) (m:Nat) (i:Int):atF (szK es m) i=if i<0 then 0 else if i<m then szR es (i.toNat+1) else 0:=by
 unfold atF
 by_cases h0:i<0
 ·rw [if_pos h0,if_pos h0]
 ·rw [if_neg h0,if_neg h0]
  by_cases h1:i<m
  ·rw [if_pos h1,zav es m i.toNat (by omega)];rfl
  ·rw [if_neg h1,List.getElem?_eq_none (by rw [yR];omega)];rfl
theorem zat (es:List EX) (n:Nat):0<=szR es n/\szR es n<=1001:=by
 cases n with
 | zero=>simp [szR]
 | succ j =>
  simp only [szR]
  cases h:es[j]? with
  | none=>simp
  | some e=>exact ji (Y8 es j)
theorem zab {x:Int} (h:yD x<=1000):yD x=x/\x<=1000:=by
 unfold yD at h ⊢
 split at h
 ·omega
 ·rename_i h1;rw [if_neg h1];exact ⟨rfl,by omega⟩
theorem zaj {K:List Int} (h:∀ k∈K,0<=k/\k<=1001) (l:List IM):∀ m j,j<=m->yd K l j<=yd K l m:=by
 intro m
 induction m with
 | zero =>
  intro j hj;have:j=0:=by omega
  subst this;exact Int.le_refl _
 | succ m ih =>
  intro j hj
  by_cases h1:j<=m
  ·have h2:=ih j h1
   simp only [yd]
   cases hx:l[m]? with
   | none=>simp only;omega
   | some x=>have:=Yp h x.arm;simp only;omega
  ·have:j=m+1:=by omega
   subst this;exact Int.le_refl _
theorem Xx {es:List EX} {j:Nat} {e:EX} (he:es[j]?=some e) (h:szR es (j+1)<=1000) :
 szR es (j+1)=atF (szK es j) e.inner+(if e.kind=61 then 0 else 1+(e.items.length:Int))+yd (szK es j) e.items e.items.length/\atF (szK es j) e.inner<=1000/\(∀ (i:Nat) (x:IM),e.items[i]?=some x->atF (szK es j) x.arm<=1000)/\(e.kind≠61->e.items.length<=1000):=by
 simp only [szR,he] at h ⊢
 unfold szE at h ⊢
 obtain ⟨h1,h2⟩:=zab h
 rw [h1]
 have hb:=Y8 es j
 have b1:=Yp hb e.inner
 have b2:=YI hb e.items e.items.length
 refine ⟨rfl,?_,?_,?_⟩
 ·split at h2<;>omega
 ·intro i x hx
  have hi:i<e.items.length:=(List.getElem?_eq_some_iff.1 hx).1
  have c1:=zaj hb e.items e.items.length (i+1) (by omega)
  have c2:=YI hb e.items i
  simp only [yd,hx] at c1
  split at h2<;>omega
 ·intro hk
  rw [if_neg hk] at h2
  omega
theorem Y4 (K:List (List Int)) (e:EX):∀ m j,j<=m->(zt K e j).length<=(zt K e m).length:=by
 intro m
 induction m with
 | zero =>
  intro j hj;have:j=0:=by omega
  subst this;exact Nat.le_refl _
 | succ m ih =>
  intro j hj
  by_cases h1:j<=m
  ·have h2:=ih j h1
   simp only [zt,List.length_append];omega
  ·have:j=m+1:=by omega
   subst this;exact Nat.le_refl _
theorem jP (K:List (List Int)) (e:EX):∀ m j,j<=m->(zW K e j).length<=(zW K e m).length:=by
 intro m
 induction m with
 | zero =>
  intro j hj;have:j=0:=by omega
  subst this;exact Nat.le_refl _
 | succ m ih =>
  intro j hj
  by_cases h1:j<=m
  ·have h2:=ih j h1
   simp only [zW,List.length_append];omega
  ·have:j=m+1:=by omega
   subst this;exact Nat.le_refl _
theorem QG (kind:Int) (x:IM) (way:Int):(yL kind x way).length<=7:=by
 unfold yL
 repeat' split
 all_goals simp [yW]
theorem QZ (e:EX):2<=(Zp e).length/\(Zp e).length<=4:=by
 unfold Zp
 repeat' split
 all_goals simp [yW]
theorem Zj (K:List (List Int)) (e:EX):∀ j,(zW K e j).length<=4+7*j/\2<=(zW K e j).length:=by
 intro j
 induction j with
 | zero=>have:=QZ e;simp only [zW];omega
 | succ j ih =>
  simp only [zW,List.length_append]
  cases hx:e.items[j]? with
  | none=>simp only [List.length_nil];omega
  | some x=>have:=QG e.kind x (zt K e j).length;simp only;omega
theorem j6 (es:List EX):∀ n,szR es n<=1000->((yt es n).length:Int)<=7*szR es n:=by
 intro n
 induction n using Nat.strongRecOn with
 | ind n ih =>
  cases n with
  | zero=>intro _;simp [yt,szR]
  | succ j =>
   intro h
   cases he:es[j]? with
   | none=>simp [yt,szR,he]
   | some e =>
    obtain ⟨p1,p2,p3,p4⟩:=Xx he h
    have hb:=Y8 es j
    have hat:∀ i,atF (szK es j) i<=1000->((atL (ym es j) i).length:Int)<=7*atF (szK es j) i:=by
     intro i hi
     rw [YZ,Jn] at *
     by_cases h0:i<0
     ·simp [h0]
     ·by_cases h1:i<j
      ·rw [if_neg h0,if_pos h1] at hi ⊢
       rw [if_neg h0,if_pos h1]
       exact ih (i.toNat+1) (by omega) hi
      ·simp [h0,h1]
    have hw:∀ k,k<=e.items.length->((zt (ym es j) e k).length:Int)<=7*(atF (szK es j) e.inner+yd (szK es j) e.items k):=by
     intro k
     induction k with
     | zero=>intro _;have:=hat e.inner p2;simp only [zt,yd];omega
     | succ k ihk =>
      intro hk
      have h2:=ihk (by omega)
      obtain ⟨x,hx⟩:∃ x,e.items[k]?=some x:=⟨e.items[k],List.getElem?_eq_getElem (by omega)⟩
      have h3:=hat x.arm (p3 k x hx)
      simp only [zt,yd,hx,List.length_append]
      omega
    have hw2:=hw e.items.length (Nat.le_refl _)
    rw [p1]
    simp only [yt,he]
    unfold Ym
    have b2:=YI hb e.items e.items.length
    by_cases hk:e.kind=61
    ·rw [if_pos hk,if_pos hk]
     have:=hat e.inner p2
     omega
    ·rw [if_neg hk,if_neg hk,List.length_append]
     have:=Zj (ym es j) e e.items.length
     omega
end Go.Proofs.Ytaebngpoagjafab
