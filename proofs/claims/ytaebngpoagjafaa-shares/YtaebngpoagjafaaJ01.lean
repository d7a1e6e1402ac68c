import Derived.Below
import Derived.BigQuiet
import Derived.ChangeOld
import Derived.Deep.AppendLies
import Derived.Deep.DrawnRows
import Derived.Deep.LoopGhost
import Derived.Deep.OwnRows
import Derived.Deep.QuietTactic
import Derived.Deep.RegionHeld3
import Derived.Deep.RegionLaw
import Derived.Deep.RegionWith
import Derived.Deep.Slices
import Derived.Laws.BytesArg
import Derived.Laws.Concat
import Derived.Laws.ResultCell
import Derived.Laws.StructEq
import Derived.Laws.Tables
import Derived.OpenShut
import Derived.ProofKit
import Derived.RangeFuncBox
import Derived.SizedLaws
import Derived.Test.YtaebngpoagjafaaRows
import Derived.WalkKit
import Derived.WalkLawsBesides
import Derived.WalkSmall
import Derived.WalkSpells
set_option maxRecDepth 100000
set_option maxHeartbeats 1000000
namespace Go.Proofs.Ytaebngpoagjafaa
open Value renaming int → J, slice → O
open IntKind renaming i64 → Z
open Go.RowKit
section
open Go.ChangeShapes Go.WideShapes Go.ChangeAt Go.RowKit
theorem own:ownKnob Try.prog.godebug=none:=by kernel_rfl
theorem Jf:laidOutB Try.prog=true:=by kernel_rfl
theorem jl:Try.prog.cellsOf 3=1:=by kernel_rfl
theorem XB {w:World} {a:Addr} {v:Value} (h:w.cell? a=some v):a.block<w.heap.size:=by
 by_cases hb:a.block<w.heap.size
 ·exact hb
 ·have:w.heap[a.block]?=none:=by simp;omega
  simp [World.cell?,this] at h
section
variable {H:Type} {enc:TypeId×Value->H} {w:World} {base:Nat} {spare:Nat->Bool} {held:Bool}
end
end
namespace M
def p2:Nat->Int
 | 0=>1
 | n+1=>p2 n*2
theorem p2_pos (n:Nat):0<p2 n:=by
 induction n with
 | zero=>decide
 | succ n ih=>simp only [p2];omega
theorem p2_mono {a b:Nat} (h:a<=b):p2 a<=p2 b:=by
 induction b with
 | zero =>
  have:a=0:=by omega
  subst this;exact Int.le_refl _
 | succ b ih =>
  by_cases hb:a=b+1
  ·subst hb;exact Int.le_refl _
  ·have:=ih (by omega);have:=p2_pos b;simp only [p2];omega
theorem p2_32:p2 32=4294967296:=by decide
theorem p2_le {j:Nat} (h:j<=32):p2 j<=4294967296:=by rw [<- p2_32];exact p2_mono h
theorem p2_succ (n:Nat):p2 (n+1)=p2 n*2:=rfl
def shN:Nat->Int->Int->Nat
 | 0,_,_=>0
 | n+1,a,b=>if a=b then n+1 else shN n (a / 2) (b / 2)
def sh (a b:Int):Nat:=shN 32 a b
theorem shN_le (n:Nat):∀ a b,shN n a b<=n:=by
 induction n with
 | zero=>intro a b;simp [shN]
 | succ n ih =>
  intro a b;simp only [shN];split
  ·exact Nat.le_refl _
  ·exact Nat.le_succ_of_le (ih _ _)
theorem sh_le (a b:Int):sh a b<=32:=shN_le 32 a b
theorem shN_iff (n:Nat):∀ (a b:Int) (s:Nat),s<=n->0<=a->0<=b->a<p2 n->b<p2 n->(s<=shN n a b↔a / p2 (n-s)=b / p2 (n-s)):=by
 induction n with
 | zero =>
  intro a b s hs ha hb la lb
  have hp:p2 0=1:=rfl
  rw [hp] at la lb
  have:s=0:=by omega
  subst this
  have:a=0:=by omega
  have:b=0:=by omega
  subst a b;simp [shN]
 | succ n ih =>
  intro a b s hs ha hb la lb
  simp only [p2_succ] at la lb
  simp only [shN]
  by_cases hab:a=b
  ·subst hab;simp [hs]
  ·rw [if_neg hab]
   by_cases hsn:s=n+1
   ·subst hsn
    have:=shN_le n (a / 2) (b / 2)
    rw [Nat.sub_self]
    simp only [p2,Int.ediv_one]
    constructor
    ·intro h;omega
    ·intro h;exact absurd h hab
   ·have h1:=ih (a / 2) (b / 2) s (by omega) (by omega) (by omega) (by omega) (by omega)
    rw [h1,Int.ediv_ediv_of_nonneg (by omega),Int.ediv_ediv_of_nonneg (by omega)]
    have:n+1-s=(n-s)+1:=by omega
    rw [this,p2_succ,Int.mul_comm 2]
def isA (n:Int):Bool:=decide (0<=n) && decide (n<4294967296)
theorem isA_iff {n:Int}:isA n=true↔0<=n/\n<4294967296:=by simp [isA]
def isP (v n:Int):Bool:=decide (0<=n) && decide (n<=32) && isA v && decide (v%p2 (32-n).toNat=0)
theorem isP_iff {v n:Int}:isP v n=true↔0<=n/\n<=32/\0<=v/\v<4294967296/\v%p2 (32-n).toNat=0:=by
 simp [isP,isA];omega
theorem p2_eq (n:Nat):p2 n=2 ^ n:=by
 induction n with
 | zero=>rfl
 | succ n ih=>rw [p2_succ,ih,Int.pow_succ]
def inTo (V L:Nat->Int) (v m:Int):Nat->Bool
 | 0=>false
 | n+1=>inTo V L v m n || (V n==v && L n==m)
theorem inTo_iff {V L:Nat->Int} {v m:Int} {n:Nat}:inTo V L v m n=true↔∃ i,i<n/\V i=v/\L i=m:=by
 induction n with
 | zero=>simp [inTo]
 | succ n ih =>
  simp only [inTo,Bool.or_eq_true,ih,Bool.and_eq_true,beq_iff_eq]
  constructor
  ·rintro (⟨i,h,h1,h2⟩ | ⟨h1,h2⟩)
   ·exact ⟨i,by omega,h1,h2⟩
   ·exact ⟨n,by omega,h1,h2⟩
  ·rintro ⟨i,h,h1,h2⟩
   by_cases hi:i=n
   ·subst hi;exact .inr ⟨h1,h2⟩
   ·exact .inl ⟨i,by omega,h1,h2⟩
theorem inTo_hit {V L:Nat->Int} {v m:Int} {n k:Nat} (h:k<n) (h1:V k=v) (h2:L k=m):inTo V L v m n=true:=inTo_iff.2 ⟨k,h,h1,h2⟩
def okTo (V L:Nat->Int):Nat->Bool
 | 0=>true
 | k+1=>okTo V L k && (isP (V k) (L k) && !inTo V L (V k) (L k) k)
def isMap (V L:Nat->Int) (n:Nat):Bool:=decide (n<=64) && okTo V L n
theorem okTo_iff {V L:Nat->Int} {n:Nat}:okTo V L n=true↔∀ k,k<n->isP (V k) (L k)=true/\inTo V L (V k) (L k) k=false:=by
 induction n with
 | zero=>simp [okTo]
 | succ n ih =>
  simp only [okTo,Bool.and_eq_true,ih,Bool.not_eq_true']
  constructor
  ·rintro ⟨h,h1,h2⟩ k hk
   by_cases hi:k=n
   ·subst hi;exact ⟨h1,h2⟩
   ·exact h k (by omega)
  ·intro h
   exact ⟨fun k hk=>h k (by omega),h n (by omega)⟩
theorem isMap_bad {V L:Nat->Int} {n k:Nat} (hk:k<n) (h:isP (V k) (L k)=false\/inTo V L (V k) (L k) k=true):isMap V L n=false:=by
 rw [Bool.eq_false_iff]
 intro hm
 simp only [isMap,Bool.and_eq_true] at hm
 have:=okTo_iff.1 hm.2 k hk
 rcases h with h | h
 ·rw [this.1] at h;cases h
 ·rw [this.2] at h;cases h
end M
theorem Z8 {k:IntKind} {a b:Int} (h:a=b):Ending.returned (.int k a)=.returned (.int k b):=by rw [h]
theorem QC (n:Int) (w:World) (h0:0<=n) (h1:n<=32) :
 Calls Try.prog 33 #[J Z n] w fun e w'=>e=.returned (J Z (M.p2 (32-n).toNat))/\w'=w:=by
 go_enter Try.func33,Try.ntmps33
 go_wp2
 go_loop [3,4] (fun k i=>∃ j:Nat,n+j<=32/\i=J Z (n+j)/\k=J Z (M.p2 j)) (fun _ i=>32-(intOf i).toNat)
 case atStart=>exact ⟨0,by omega,by simp,rfl⟩
 case round =>
  obtain ⟨j,hj,rfl,rfl⟩:=hrel
  have hb:=M.p2_le (j:=j) (by omega)
  have hp:=M.p2_pos j
  by_cases hlt:n+j<32
  ·go_wp2
   go_round
   case rel=>exact ⟨j+1,by omega,by go_num,rfl⟩
   case measure=>simp [intOf];omega
  ·go_wp2
   go_ret
   exact ⟨Z8 (by congr 1;omega),rfl⟩
theorem qe (n:Int) (w:World) :
 Calls Try.prog 32 #[J Z n] w fun e w'=>e=.returned (.bool (M.isA n))/\w'=w:=by
 by_cases h0:0<=n
 ·by_cases h1:n<4294967296
  ·have hr:M.isA n=true:=by simp [M.isA,h0,h1]
   rw [hr];clear hr
   go_enter Try.func32,Try.ntmps32
   go_wp2
   go_ret
   exact ⟨rfl,rfl⟩
  ·have hr:M.isA n=false:=by simp [M.isA,h1]
   rw [hr];clear hr
   go_enter Try.func32,Try.ntmps32
   go_wp2
   go_ret
   exact ⟨rfl,rfl⟩
 ·have hr:M.isA n=false:=by simp [M.isA,h0]
  rw [hr];clear hr
  go_enter Try.func32,Try.ntmps32
  go_wp2
  go_ret
  exact ⟨rfl,rfl⟩
theorem ZZ (n:Int) (w:World) :
 Calls Try.prog 19 #[J Z n] w fun e w'=>e=.returned (.bool (M.isA n))/\w'=w:=by
 by_cases h0:0<=n
 ·by_cases h1:n<4294967296
  ·have hr:M.isA n=true:=by simp [M.isA,h0,h1]
   rw [hr];clear hr
   go_enter Try.func19,Try.ntmps19
   go_wp2
   go_ret
   exact ⟨rfl,rfl⟩
  ·have hr:M.isA n=false:=by simp [M.isA,h1]
   rw [hr];clear hr
   go_enter Try.func19,Try.ntmps19
   go_wp2
   go_ret
   exact ⟨rfl,rfl⟩
 ·have hr:M.isA n=false:=by simp [M.isA,h0]
  rw [hr];clear hr
  go_enter Try.func19,Try.ntmps19
  go_wp2
  go_ret
  exact ⟨rfl,rfl⟩
theorem Zm (a b:Int) (w:World) (a0:0<=a) (a1:a<4294967296) (b0:0<=b) (b1:b<4294967296) :
 Calls Try.prog 28 #[J Z a,J Z b] w fun e w'=>e=.returned (J Z (M.sh a b))/\w'=w:=by
 go_enter Try.func28,Try.ntmps28
 go_wp2
 go_loop [0,1,5] (fun x y i=>∃ (p q:Int) (k:Nat),k<=32/\0<=p/\p<4294967296/\0<=q/\q<4294967296/\x=J Z p/\y=J Z q/\i=J Z k/\Hid (M.shN k p q=M.sh a b)) (fun _ _ i=>(intOf i).toNat)
 case atStart=>exact ⟨a,b,32,by omega,a0,a1,b0,b1,rfl,rfl,rfl,rfl⟩
 case round =>
  obtain ⟨p,q,k,hk,p0,p1,q0,q1,rfl,rfl,rfl,hs⟩:=hrel
  cases k with
  | zero =>
   go_wp2
   go_ret
   exact ⟨Z8 (by rw [<- hs.out];rfl),rfl⟩
  | succ k =>
   by_cases hpq:p=q
   ·subst hpq
    go_wp2
    go_ret
    exact ⟨Z8 (by rw [<- hs.out];simp [M.shN]),rfl⟩
   ·have hne:(p != q)=true:=by simpa using hpq
    have HS:Hid (M.shN k (p / 2) (q / 2)=M.sh a b):=by have h:=hs.out;simp only [M.shN,if_neg hpq] at h;exact h
    clear hs
    go_wp2
    go_round
    case rel=>exact ⟨p / 2,q / 2,k,by omega,by omega,by omega,by omega,by omega,rfl,rfl,by go_num,HS⟩
    case measure=>simp [intOf]
theorem M.wrap64_in (n:Int) (h:-9223372036854775808<=n/\n<=9223372036854775807):wrap64 n=n:=by unfold wrap64;omega
theorem yl {B:Nat} {a w:World} (h:Below B a w) (n:Nat):Below B a (w.drewN n):=⟨h.os,h.tape,h.output,h.size,h.block⟩
theorem xx (b:Bool) (v:Int) (w:World) (h:M.isA v=b):Calls Try.prog 32 #[J Z v] w fun e w'=>e=.returned (.bool b)/\w'=w:=by
 rw [<- h];exact qe v w
theorem Yl (b:Bool) (v:Int) (w:World) (h:M.isA v=b):Calls Try.prog 19 #[J Z v] w fun e w'=>e=.returned (.bool b)/\w'=w:=by
 rw [<- h];exact ZZ v w
theorem ZU (w:World) (o:Obj) (m:Nat):Below w.heap.size w ((w.alloc o).drewN m):=yl ((Below.refl _ _).alloc (Nat.le_refl _) _) m
theorem Jj (v n:Int) (w:World) :
 Calls Try.prog 25 #[.agg #[J Z v,J Z n]] w fun e w'=>e=.returned (.bool (M.isP v n))/\Below w.heap.size w w':=by
 by_cases h0:0<=n
 ·by_cases h1:n<=32
  ·have hp:=M.p2_pos (32-n).toNat
   have hq:=M.p2_le (j:=(32-n).toNat) (by omega)
   cases hA:M.isA v with
   | true =>
    have hr:M.isP v n=(v%M.p2 (32-n).toNat==0):=by simp [M.isP,h0,h1,hA,BEq.beq]
    rw [hr];clear hr
    obtain ⟨v0,v1⟩:=M.isA_iff.1 hA
    go_enter Try.func25,Try.ntmps25
    go_wp2
    go_quiet ((first | (go_at_call 32;exact Calls.quiet_of_same (xx _ _ _ hA)) | (go_at_call 33;exact Calls.quiet_of_same (QC _ _ h0 h1))))
    go_wp2
    go_ret
    exact ⟨rfl,ZU _ _ _⟩
   | false =>
    have hr:M.isP v n=false:=by simp [M.isP,hA]
    rw [hr];clear hr
    go_enter Try.func25,Try.ntmps25
    go_wp2
    go_quiet ((go_at_call 32;exact Calls.quiet_of_same (xx _ _ _ hA)))
    go_wp2
    go_ret
    exact ⟨rfl,ZU _ _ _⟩
  ·have hr:M.isP v n=false:=by simp [M.isP,h1]
   rw [hr];clear hr
   have hd:decide (n<=32)=false:=decide_eq_false h1
   go_enter Try.func25,Try.ntmps25
   go_wp2
   go_quiet (fail)
   go_wp2
   go_ret
   exact ⟨rfl,ZU _ _ _⟩
 ·have hr:M.isP v n=false:=by simp [M.isP,h0]
  rw [hr];clear hr
  have hd:decide (0<=n)=false:=decide_eq_false h0
  go_enter Try.func25,Try.ntmps25
  go_wp2
  go_quiet (fail)
  go_wp2
  go_ret
  exact ⟨rfl,ZU _ _ _⟩
theorem M.shifts (v n:Int) (h0:0<=n) (h1:n<=32) (hA:M.isA v=true):M.isP v n=(wrap64 (v / 2 ^ (32-n).toNat*2 ^ (32-n).toNat)==v):=by
 obtain ⟨v0,v1⟩:=M.isA_iff.1 hA
 rw [<- M.p2_eq]
 have hp:=M.p2_pos (32-n).toNat
 generalize hm:M.p2 (32-n).toNat=m at *
 have e:=Int.emod_add_mul_ediv v m
 have e2:=Int.mul_comm (v / m) m
 have a0:=Int.emod_nonneg v (b:=m) (by omega)
 have a1:0<=v / m:=Int.ediv_nonneg v0 (by omega)
 have a2:0<=m*(v / m):=Int.mul_nonneg (by omega) a1
 rw [M.wrap64_in _ (by omega)]
 have e3:(v%m=0)↔v / m*m=v:=by omega
 simp only [M.isP,hm,hA,h0,h1,decide_true,Bool.true_and]
 rw [Bool.eq_iff_iff];simp [e3]
theorem Zu (v n:Int) (w:World) :
 Calls Try.prog 26 #[.agg #[J Z v,J Z n]] w fun e w'=>e=.returned (.bool (M.isP v n))/\Below w.heap.size w w':=by
 by_cases h0:0<=n
 ·by_cases h1:n<=32
  ·have hp:=M.p2_pos (32-n).toNat
   have hq:=M.p2_le (j:=(32-n).toNat) (by omega)
   cases hA:M.isA v with
   | true =>
    obtain ⟨v0,v1⟩:=M.isA_iff.1 hA
    have hr:M.isP v n=(wrap64 (v / 2 ^ (32-n).toNat*2 ^ (32-n).toNat)==v):=M.shifts v n h0 h1 hA
    rw [hr];clear hr
    go_enter Try.func26,Try.ntmps26
    go_wp2
    go_quiet ((go_at_call 19;exact Calls.quiet_of_same (Yl _ _ _ hA)))
    go_wp2
    go_ret
    exact ⟨rfl,ZU _ _ _⟩
   | false =>
    have hr:M.isP v n=false:=by simp [M.isP,hA]
    rw [hr];clear hr
    go_enter Try.func26,Try.ntmps26
    go_wp2
    go_quiet ((go_at_call 19;exact Calls.quiet_of_same (Yl _ _ _ hA)))
    go_wp2
    go_ret
    exact ⟨rfl,ZU _ _ _⟩
  ·have hr:M.isP v n=false:=by simp [M.isP,h1]
   rw [hr];clear hr
   go_enter Try.func26,Try.ntmps26
   go_wp2
   go_ret
   exact ⟨rfl,(Below.refl _ _).alloc (Nat.le_refl _) _⟩
 ·have hr:M.isP v n=false:=by simp [M.isP,h0]
  rw [hr];clear hr
  go_enter Try.func26,Try.ntmps26
  go_wp2
  go_ret
  exact ⟨rfl,(Below.refl _ _).alloc (Nat.le_refl _) _⟩
def pkF (c n:Int):Int:=if c<0 then (-(c+1))%n else c%n
theorem X6 {c n:Int} (h:0<n):0<=pkF c n/\pkF c n<n:=by
 unfold pkF
 split
 ·exact ⟨Int.emod_nonneg _ (by omega),Int.emod_lt_of_pos _ h⟩
 ·exact ⟨Int.emod_nonneg _ (by omega),Int.emod_lt_of_pos _ h⟩
theorem Yo (c n:Int) (w:World) (c0:-9223372036854775808<=c) (c1:c<=9223372036854775807) (n0:0<n) (n1:n<=9223372036854775807) :
 Calls Try.prog 16 #[J Z c,J Z n] w fun e w'=>e=.returned (J Z (pkF c n))/\w'=w:=by
 have hn:¬ n=0:=by omega
 by_cases h:c<0
 ·have HP:Hid (pkF c n=(-(c+1))%n):=by show _=_;unfold pkF;rw [if_pos h]
  have hm:0<=(-(c+1))%n/\(-(c+1))%n<n:=⟨Int.emod_nonneg _ (by omega),Int.emod_lt_of_pos _ (by omega)⟩
  have he:-(c+1).tmod n=(-(c+1))%n:=by rw [<- Int.neg_tmod,Int.tmod_eq_emod_of_nonneg (by omega)]
  rw [<- he] at HP hm
  have HE:Hid (0<=-(c+1).tmod n/\-(c+1).tmod n<n):=hm
  clear he hm
  go_enter Try.func16,Try.ntmps16
  go_wp2
  go_ret
  exact ⟨Z8 (by rw [HP.out]),rfl⟩
 ·have HP:Hid (pkF c n=c%n):=by show _=_;unfold pkF;rw [if_neg h]
  have hm:0<=c%n/\c%n<n:=⟨Int.emod_nonneg _ (by omega),Int.emod_lt_of_pos _ (by omega)⟩
  have HE:Hid (0<=c%n/\c%n<n):=hm
  clear hm
  go_enter Try.func16,Try.ntmps16
  go_wp2
  go_ret
  exact ⟨Z8 (by rw [HP.out]),rfl⟩
section
namespace M
section
variable (V L:Nat->Int) (a:Int)
def bitsTo:Nat->Int
 | 0=>-1
 | i+1=>if L i<=sh (V i) a/\bitsTo i<L i then L i else bitsTo i
def bestTo:Nat->Int
 | 0=>-1
 | i+1=>if L i<=sh (V i) a/\bitsTo V L a i<L i then i else bestTo i
def need (i:Nat):Int:=if sh (V i) a<L i then sh (V i) a+1 else L i
def depTo:Nat->Int
 | 0=>0
 | i+1=>if depTo i<need V L a i then need V L a i else depTo i
end
theorem sh_iff {a b:Int} {s:Nat} (hs:s<=32) (ha:isA a=true) (hb:isA b=true):s<=sh a b↔a / p2 (32-s)=b / p2 (32-s):=by
 obtain ⟨a0,a1⟩:=isA_iff.1 ha
 obtain ⟨b0,b1⟩:=isA_iff.1 hb
 exact shN_iff 32 a b s hs a0 b0 (by rw [p2_32];exact a1) (by rw [p2_32];exact b1)
theorem sh_trans {a b c:Int} {s:Nat} (ha:isA a=true) (hb:isA b=true) (hc:isA c=true) (h1:s<=sh a b) (h2:s<=sh b c):s<=sh a c:=by
 have hs:s<=32:=Nat.le_trans h1 (sh_le a b)
 rw [sh_iff hs ha hb] at h1
 rw [sh_iff hs hb hc] at h2
 rw [sh_iff hs ha hc];omega
theorem sh_comm {a b:Int} {s:Nat} (ha:isA a=true) (hb:isA b=true) (h:s<=sh a b):s<=sh b a:=by
 have hs:s<=32:=Nat.le_trans h (sh_le a b)
 rw [sh_iff hs ha hb] at h
 rw [sh_iff hs hb ha];omega
theorem alike {V L:Nat->Int} {a a':Int} (ha:isA a=true) (ha':isA a'=true) {i:Nat} (hv:isA (V i)=true) {s:Nat} (hs:s<=sh a a') (h:need V L a i<=s) :
 need V L a' i=need V L a i/\(L i<=sh (V i) a'↔L i<=sh (V i) a):=by
 unfold need at *
 by_cases hc:(sh (V i) a:Int)<L i
 ·rw [if_pos hc] at h
  have h1:∀ t,t<=s->(t<=sh (V i) a'↔t<=sh (V i) a):=fun t ht =>
   ⟨fun h2=>sh_trans hv ha' ha h2 (sh_comm ha ha' (Nat.le_trans ht hs)),fun h2=>sh_trans hv ha ha' h2 (Nat.le_trans ht hs)⟩
  have e:sh (V i) a'=sh (V i) a:=by
   have u1:=(h1 (sh (V i) a) (by omega)).2 (Nat.le_refl _)
   have u2:=h1 (sh (V i) a+1) (by omega)
   omega
  rw [e];exact ⟨rfl,Iff.rfl⟩
 ·rw [if_neg hc] at h
  have h2:L i<=sh (V i) a':=by
   by_cases h0:0<=L i
   ·obtain ⟨t,ht⟩:=Int.eq_ofNat_of_zero_le h0
    have:=sh_trans (s:=t) hv ha ha' (by omega) (by omega)
    omega
   ·omega
  rw [if_neg hc,if_neg (by omega)]
  exact ⟨rfl,by omega⟩
end M
end
structure PS (w:World) (ao:Option Addr) (b n:Nat) (V L:Nat->Int):Prop where
 at_:0<n->ao=some ⟨b,0,none⟩
 lt:0<n->b<w.heap.size
 val:∀ i,i<n->w.cell? ⟨b,i*2,none⟩=some (J Z (V i))
 len:∀ i,i<n->w.cell? ⟨b,i*2+1,none⟩=some (J Z (L i))
theorem PS.below {w w':World} {ao b n V L} (h:PS w ao b n V L) (hb:Below w.heap.size w w'):PS w' ao b n V L :=
 ⟨h.at_,fun hn=>Nat.lt_of_lt_of_le (h.lt hn) hb.size,fun i hi=>by rw [hb.cell (h.lt (by omega))];exact h.val i hi,fun i hi=>by rw [hb.cell (h.lt (by omega))];exact h.len i hi⟩
theorem PS.take {w:World} {ao b n V L} (h:PS w ao b n V L) {m:Nat} (hm:m<=n):PS w ao b m V L :=
 ⟨fun h0=>h.at_ (by omega),fun h0=>h.lt (by omega),fun i hi=>h.val i (by omega),fun i hi=>h.len i (by omega)⟩
theorem Zb {a b:Bool} (h:a=b):Ending.returned (.bool a)=.returned (.bool b):=by rw [h]
theorem XP {w wr wx:World} {v m:Value} (hx:Below wr.heap.size wr wx) (hsz:w.heap.size<wr.heap.size) (hb:Below w.heap.size w wr)
 (c0:wr.cell? ⟨w.heap.size,0,none⟩=some v) (c1:wr.cell? ⟨w.heap.size,1,none⟩=some m) :
 wx.cell? ⟨w.heap.size,0,none⟩=some v/\wx.cell? ⟨w.heap.size,1,none⟩=some m/\w.heap.size<wx.heap.size/\Below w.heap.size w wx :=
 ⟨by rw [hx.cell hsz];exact c0,by rw [hx.cell hsz];exact c1,Nat.lt_of_lt_of_le hsz hx.size,hb.trans (hx.mono (Nat.le_of_lt hsz))⟩
theorem xy (ao:Option Addr) (b n c:Nat) (V L:Nat->Int) (v m:Int) (w:World) (hn:n<=64) (hs:PS w ao b n V L) :
 Calls Try.prog 27 #[O ao n c,.agg #[J Z v,J Z m]] w fun e w'=>e=.returned (.bool (M.inTo V L v m n))/\Below w.heap.size w w':=by
 go_enter Try.func27,Try.ntmps27
 go_wp2
 go_loopw [9] (fun i wr=>∃ k:Nat,k<=n/\i=J Z k/\M.inTo V L v m k=false/\wr.cell? ⟨w.heap.size,0,none⟩=some (J Z v)/\wr.cell? ⟨w.heap.size,1,none⟩=some (J Z m)/\w.heap.size<wr.heap.size/\Below w.heap.size w wr) (fun i _=>n-(intOf i).toNat)
 case atStart=>exact ⟨0,by omega,rfl,rfl,by simp,by simp,by simp,(Below.refl _ _).alloc (Nat.le_refl _) _⟩
 case round =>
  obtain ⟨k,hk,rfl,hf,c0,c1,hsz,hb⟩:=hrel
  by_cases hlt:k<n
  ·obtain rfl:=hs.at_ (by omega)
   have hv:=(hs.below hb).val k hlt
   have hl:=(hs.below hb).len k hlt
   have hbb:b<wr.heap.size:=(hs.below hb).lt (by omega)
   have hR:Hid (Below w.heap.size w wr):=hb
   clear hs hb
   cases e1:(V k==v) with
   | true =>
    cases e2:(L k==m) with
    | true =>
     have ht:Hid (M.inTo V L v m n=true):=M.inTo_hit hlt (by simpa using e1) (by simpa using e2)
     go_wp2
     go_ret
     exact ⟨Zb ht.out.symm,hR.out.trans (Below.mono (B:=wr.heap.size) (by repeat (first | exact Below.refl _ _ | refine yl ?_ _ | refine Below.drew ?_ | refine Below.alloc ?_ (by simp) _ | refine Below.setCell ?_ (by simp) _)) (Nat.le_of_lt hsz))⟩
    | false =>
     have HF:Hid (M.inTo V L v m (k+1)=false):=by show _=_;simp [M.inTo,hf,e2]
     go_wp2
     go_roundw
     case rel=>exact ⟨k+1,by omega,by go_num,HF,XP (by repeat (first | exact Below.refl _ _ | refine yl ?_ _ | refine Below.drew ?_ | refine Below.alloc ?_ (by simp) _ | refine Below.setCell ?_ (by simp) _)) hsz hR.out c0 c1⟩
     case measure=>simp [intOf];omega
   | false =>
    have HF:Hid (M.inTo V L v m (k+1)=false):=by show _=_;simp [M.inTo,hf,e1]
    go_wp2
    go_roundw
    case rel=>exact ⟨k+1,by omega,by go_num,HF,XP (by repeat (first | exact Below.refl _ _ | refine yl ?_ _ | refine Below.drew ?_ | refine Below.alloc ?_ (by simp) _ | refine Below.setCell ?_ (by simp) _)) hsz hR.out c0 c1⟩
    case measure=>simp [intOf];omega
  ·have hkn:k=n:=by omega
   subst hkn
   go_wp2
   go_ret
   exact ⟨Zb hf.symm,hb⟩
theorem Xs {w:World} {base e size g N cap:Nat} {xs:List Value} (h:w.ownsRow base e size (O (some ⟨g,0,none⟩) N cap) N xs) (hcap:cap=N):∃ f,w.rowIs g e (N*size) f:=by
 subst hcap
 rcases h.2 with ⟨h',_⟩ | ⟨g',cap',cur,h',_,hg,_,_,hsz,_⟩
 ·simp at h'
 ·simp only [O.injEq,Option.some.injEq,Addr.mk.injEq,and_true,true_and] at h'
  obtain ⟨rfl,rfl⟩:=h'
  exact ⟨fun j=>cur.getD j (J Z 0),cur,hg,hsz,fun i hi=>by simp [Array.getD,hsz,hi]⟩
theorem YA {w w':World} (h:w.grownBy w' none):Below w.heap.size w w':=(Below.refl _ _).grown h (Nat.le_refl _) (fun k hk=>by simp at hk)
theorem PS.congr {w:World} {ao b n V L V' L'} (h:PS w ao b n V L) (hv:∀ i,i<n->V i=V' i/\L i=L' i):PS w ao b n V' L' :=
 ⟨h.at_,h.lt,fun i hi=>by rw [<- (hv i hi).1];exact h.val i hi,fun i hi=>by rw [<- (hv i hi).2];exact h.len i hi⟩
theorem Try.infoPrefix:(Try.prog.info? 25).map (fun i=>(i.zero,i.size,i.bytes))=some (some (.agg #[J Z 0,J Z 0]),2,16):=by kernel_rfl
def pc (V L:Nat->Int):Nat->List Value
 | 0=>[]
 | n+1=>pc V L n++[J Z (V n),J Z (L n)]
theorem YR (V L:Nat->Int) (n:Nat):(pc V L n).length=n*2:=by
 induction n with
 | zero=>rfl
 | succ n ih=>simp [pc,ih];omega
theorem QP (V L:Nat->Int) {n i:Nat} (h:i<n):(pc V L n)[i*2]?=some (J Z (V i))/\(pc V L n)[i*2+1]?=some (J Z (L i)):=by
 induction n with
 | zero=>omega
 | succ n ih =>
  simp only [pc]
  by_cases hi:i=n
  ·subst hi
   rw [List.getElem?_append_right (by rw [YR];omega),List.getElem?_append_right (by rw [YR];omega),YR]
   simp
  ·have:=ih (by omega)
   rw [List.getElem?_append_left (by rw [YR];omega),List.getElem?_append_left (by rw [YR];omega)]
   exact this
structure TS (w:World) (ao:Option Addr) (b off n:Nat) (V L R:Nat->Int):Prop where
 at_:0<n->ao=some ⟨b,off,none⟩
 lt:0<n->b<w.heap.size
 val:∀ i,i<n->w.cell? ⟨b,off+i*3,none⟩=some (J Z (V i))
 len:∀ i,i<n->w.cell? ⟨b,off+i*3+1,none⟩=some (J Z (L i))
 reg:∀ i,i<n->w.cell? ⟨b,off+i*3+2,none⟩=some (J Z (R i))
theorem TS.below {w w':World} {ao b off n V L R} (h:TS w ao b off n V L R) (hb:Below w.heap.size w w'):TS w' ao b off n V L R :=
 ⟨h.at_,fun hn=>Nat.lt_of_lt_of_le (h.lt hn) hb.size,fun i hi=>by rw [hb.cell (h.lt (by omega))];exact h.val i hi,fun i hi=>by rw [hb.cell (h.lt (by omega))];exact h.len i hi,fun i hi=>by rw [hb.cell (h.lt (by omega))];exact h.reg i hi⟩
theorem YQ {w:World} {base:Nat} {v:Value} {n:Nat} {V L:Nat->Int} (h:w.ownsRow base 25 2 v n (pc V L n)) :
 ∃ ao b c,v=O ao n c/\n<=c/\(n=0\/base<=b)/\PS w ao b n V L:=by
 have hh:=h
 rcases h.2 with ⟨rfl,rfl⟩ | ⟨g,cap,cur,rfl,hb,hg,hnc,_,_,_⟩
 ·exact ⟨none,0,0,rfl,Nat.le_refl _,.inl rfl,⟨fun h=>by omega,fun h=>by omega,fun i hi=>by omega,fun i hi=>by omega⟩⟩
 ·refine ⟨some ⟨g,0,none⟩,g,cap,rfl,hnc,.inr hb,⟨fun _=>rfl,fun _=>?_,fun i hi=>?_,fun i hi=>?_⟩⟩
  ·exact (hh.lt g rfl).2
  ·rw [hh.cellAt (i*2) (by omega)];exact (QP V L hi).1
  ·rw [hh.cellAt (i*2+1) (by omega)];exact (QP V L hi).2
theorem M.step_best (V L:Nat->Int) (a:Int) (k:Nat) (x:Int) (h:x=if L k<=M.sh (V k) a/\M.bitsTo V L a k<L k then (k:Int) else M.bestTo V L a k):M.bestTo V L a (k+1)=x:=by rw [h];rfl
theorem M.step_bits (V L:Nat->Int) (a:Int) (k:Nat) (x:Int) (h:x=if L k<=M.sh (V k) a/\M.bitsTo V L a k<L k then L k else M.bitsTo V L a k):M.bitsTo V L a (k+1)=x:=by rw [h];rfl
theorem M.step_dep (V L:Nat->Int) (a:Int) (k:Nat) (x nd:Int) (hn:M.need V L a k=nd) (h:x=if M.depTo V L a k<nd then nd else M.depTo V L a k):M.depTo V L a (k+1)=x:=by rw [h,<- hn];rfl
theorem yo {a b:Int} (h:a=b):J Z b=J Z a:=by rw [h]
theorem XU (ao:Option Addr) (b n c:Nat) (V L:Nat->Int) (a:Int) (w:World) (a0:0<=a) (a1:a<4294967296) (hn:n<=64) (hs:PS w ao b n V L) (hp:∀ i,i<n->M.isP (V i) (L i)=true) :
 Calls Try.prog 21 #[O ao n c,J Z a] w fun e w'=>e=.returned (.tuple #[J Z (M.bestTo V L a n),J Z (M.depTo V L a n)])/\Below w.heap.size w w':=by
 go_enter Try.func21,Try.ntmps21
 go_wp2
 go_loopw [6,7,8,15] (fun x y z i wr=>∃ k:Nat,k<=n/\i=J Z k/\x=J Z (M.bestTo V L a k)/\y=J Z (M.bitsTo V L a k)/\z=J Z (M.depTo V L a k)/\Below w.heap.size w wr) (fun _ _ _ i _=>n-(intOf i).toNat)
 case atStart=>exact ⟨0,by omega,rfl,rfl,rfl,rfl,Below.refl _ _⟩
 case round =>
  obtain ⟨k,hk,rfl,rfl,rfl,rfl,hb⟩:=hrel
  by_cases hlt:k<n
  ·obtain rfl:=hs.at_ (by omega)
   have hps:=hs.below hb
   have hv:=hps.val k hlt
   have hl:=hps.len k hlt
   have hbb:b<wr.heap.size:=hps.lt (by omega)
   have hR:Hid (Below w.heap.size w wr):=hb
   obtain ⟨l0,l1,v0,v1,_⟩:=M.isP_iff.1 (hp k hlt)
   have hsl:=M.sh_le (V k) a
   clear hs hb hps hp
   by_cases hc:(M.sh (V k) a:Int)<L k
   ·have HN:Hid (M.need V L a k=M.sh (V k) a+1):=by show _=_;unfold M.need;rw [if_pos hc]
    by_cases hd:M.depTo V L a k<M.sh (V k) a+1
    all_goals
     go_wp2_with (go_at_call 28;refine (Zm _ _ _ v0 v1 a0 a1).mono ?_;rintro e w' ⟨rfl,rfl⟩)
     go_roundw
     case rel=>exact ⟨k+1,by omega,by go_num,yo (M.step_best _ _ _ _ _ (by rw [if_neg (by omega)])),yo (M.step_bits _ _ _ _ _ (by rw [if_neg (by omega)])),yo (M.step_dep _ _ _ _ _ _ HN.out (by split<;>omega)),hR.out.trans (Below.mono (B:=wr.heap.size) (by repeat (first | exact Below.refl _ _ | refine yl ?_ _ | refine Below.drew ?_ | refine Below.alloc ?_ (by simp) _ | refine Below.setCell ?_ (by simp) _)) hR.out.size)⟩
     case measure=>simp [intOf];omega
   ·have HN:Hid (M.need V L a k=L k):=by show _=_;unfold M.need;rw [if_neg hc]
    by_cases hd:M.depTo V L a k<L k
    all_goals
     by_cases hq:M.bitsTo V L a k<L k
     all_goals
      go_wp2_with (go_at_call 28;refine (Zm _ _ _ v0 v1 a0 a1).mono ?_;rintro e w' ⟨rfl,rfl⟩)
      go_roundw
      case rel=>exact ⟨k+1,by omega,by go_num,yo (M.step_best _ _ _ _ _ (by split<;>omega)),yo (M.step_bits _ _ _ _ _ (by split<;>omega)),yo (M.step_dep _ _ _ _ _ _ HN.out (by split<;>omega)),hR.out.trans (Below.mono (B:=wr.heap.size) (by repeat (first | exact Below.refl _ _ | refine yl ?_ _ | refine Below.drew ?_ | refine Below.alloc ?_ (by simp) _ | refine Below.setCell ?_ (by simp) _)) hR.out.size)⟩
      case measure=>simp [intOf];omega
  ·have hkn:k=n:=by omega
   subst hkn
   go_wp2
   go_ret2
   exact ⟨rfl,hb⟩
theorem PS.drew {w:World} {ao b n V L} (h:PS w ao b n V L):PS w.drew ao b n V L:=⟨h.at_,h.lt,h.val,h.len⟩
theorem JR {W w1:World} (hb:Below W.heap.size W w1):∀ b o,b<W.heap.size->w1.cell? ⟨b,o,none⟩=W.cell? ⟨b,o,none⟩:=fun b o h=>hb.cell (p:=⟨b,o,none⟩) h
theorem qo (ao:Option Addr) (b n c:Nat) (V L:Nat->Int) (w:World) (hn:n<=9223372036854775807) (hc:n<=c) (hs:PS w ao b n V L) :
 Calls Try.prog 20 #[O ao n c] w fun e w'=>e=.returned (.bool (M.isMap V L n))/\Below w.heap.size w w':=by
 by_cases h64:n<=64
 ·go_enter Try.func20,Try.ntmps20
  go_wp2
  go_loopw [10] (fun i wr=>∃ k:Nat,k<=n/\i=J Z k/\M.okTo V L k=true/\Below w.heap.size w wr) (fun i _=>n-(intOf i).toNat)
  case atStart=>exact ⟨0,by omega,rfl,rfl,Below.refl _ _⟩
  case round =>
   obtain ⟨k,hk,rfl,hf,hb⟩:=hrel
   by_cases hlt:k<n
   ·obtain rfl:=hs.at_ (by omega)
    have hps:=hs.below hb
    have hv:=hps.val k hlt
    have hl:=hps.len k hlt
    have hbb:b<wr.heap.size:=hps.lt (by omega)
    have hR:Hid (Below w.heap.size w wr):=hb
    have hT:PS wr (some ⟨b,0,none⟩) b k V L:=hps.take hk
    clear hs hb hps
    cases e1:M.isP (V k) (L k) with
    | false =>
     have ht:Hid (M.isMap V L n=false):=M.isMap_bad hlt (.inl e1)
     go_wp2_with fail
     refine (Zu _ _ _).mono ?_
     rintro e w1 ⟨rfl,hb1⟩
     have hx:Hid (Below w.heap.size w w1):=hR.out.trans ((((Below.refl _ _).alloc (Nat.le_refl _) _).trans (hb1.mono (by simp))).mono hR.out.size)
     clear hb1
     go_wp2_with fail
     go_ret
     exact ⟨Zb ht.out.symm,hx.out⟩
    | true =>
     go_wp2_with fail
     refine (Zu _ _ _).mono ?_
     rintro e w1 ⟨rfl,hb1⟩
     have hT1:PS w1 (some ⟨b,0,none⟩) b k V L:=(hT.below ((Below.refl _ _).alloc (Nat.le_refl _) _)).below hb1
     have q0:=JR hb1 wr.heap.size 0 (by simp)
     have q1:=JR hb1 wr.heap.size 1 (by simp)
     have hx:Hid (Below w.heap.size w w1):=hR.out.trans ((((Below.refl _ _).alloc (Nat.le_refl _) _).trans (hb1.mono (by simp))).mono hR.out.size)
     simp at q0 q1
     clear hb1 hv hl
     cases e2:M.inTo V L (V k) (L k) k with
     | true =>
      have ht:Hid (M.isMap V L n=false):=M.isMap_bad hlt (.inr e2)
      go_wp2_with fail
      go_region_with (go_at_call 27;refine (xy _ b k c V L _ _ _ (by omega) (by exact hT1.drew)).mono ?_;rintro e w2 ⟨rfl,hb2⟩)
      all_goals
       go_wp2_with fail
       go_ret
       exact ⟨Zb ht.out.symm,(hx.out.drew).trans (hb2.mono hx.out.size)⟩
     | false =>
      have HF:Hid (M.okTo V L (k+1)=true):=by show _=_;simp [M.okTo,hf,e1,e2]
      go_wp2_with fail
      go_region_with (go_at_call 27;refine (xy _ b k c V L _ _ _ (by omega) (by exact hT1.drew)).mono ?_;rintro e w2 ⟨rfl,hb2⟩)
      all_goals
       have hy:Hid (Below w.heap.size w w2):=(hx.out.drew).trans (hb2.mono hx.out.size)
       clear hb2 q0 q1
       go_wp2_with fail
       go_roundw
       case rel=>exact ⟨k+1,by omega,by go_num,HF,hy⟩
       case measure=>simp [intOf];omega
   ·have hkn:k=n:=by omega
    subst hkn
    have ht:Hid (M.isMap V L k=true):=by show _=_;simp [M.isMap,hf,h64]
    go_wp2
    go_ret
    exact ⟨Zb ht.out.symm,hb⟩
 ·have ht:Hid (M.isMap V L n=false):=by show _=_;simp [M.isMap,h64]
  go_enter Try.func20,Try.ntmps20
  go_wp2
  go_ret
  exact ⟨Zb ht.out.symm,Below.refl _ _⟩
def Zx (R:Nat->Int):Nat->Bool
 | 0=>true
 | n+1=>Zx R n && (decide (0<=R n) && decide (R n<=99))
theorem qT {R:Nat->Int} {n:Nat}:Zx R n=true↔∀ k,k<n->0<=R k/\R k<=99:=by
 induction n with
 | zero=>simp [Zx]
 | succ n ih =>
  simp only [Zx,Bool.and_eq_true,ih,decide_eq_true_eq]
  constructor
  ·rintro ⟨h,h1⟩ k hk
   by_cases hi:k=n
   ·subst hi;exact h1
   ·exact h k (by omega)
  ·intro h
   exact ⟨fun k hk=>h k (by omega),h n (by omega)⟩
theorem qU {R:Nat->Int} {n k:Nat} (hk:k<n) (h:¬ (0<=R k/\R k<=99)):Zx R n=false:=by
 rw [Bool.eq_false_iff]
 intro hm
 exact h (qT.1 hm k hk)
end Go.Proofs.Ytaebngpoagjafaa
