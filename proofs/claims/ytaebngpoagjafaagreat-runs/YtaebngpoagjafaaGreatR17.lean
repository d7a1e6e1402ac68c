import Derived.Test.YtaebngpoagjafaaGreatRows
import Derived.Test.YtaebngpoagjafaaGreatR16
import Derived.WalkKit
import Derived.WalkSpells
import Derived.WalkLawsBesides
import Derived.Deep.QuietTactic
import Derived.BigQuiet
import Derived.Deep.RegionWith
import Derived.Laws.StructEq
import Derived.Laws.Tables
set_option maxRecDepth 100000
set_option maxHeartbeats 1000000
namespace Go.Proofs.YtaebngpoagjafaaGreat
open Value renaming int → J, slice → O
open IntKind renaming i64 → Z
open Go.RowKit
theorem YF {k:IntKind} {a b:Int} (h:a=b):Ending.returned (.int k a)=.returned (.int k b):=by rw [h]
theorem jm (n:Int) (w:World) (h0:0<=n) (h1:n<=32) :
 Calls Tryz.prog 140 #[J Z n] w fun e w'=>e=.returned (J Z (M.p2 (32-n).toNat))/\w'=w:=by
 go_enter Tryz.func140,Tryz.ntmps140
 go_wp2
 go_loop [3,4] (fun k i=>∃ j:Nat,n+j<=32/\i=J Z (n+j)/\k=J Z (M.p2 j)) (fun _ i=>32-(intOf i).toNat)
 case atStart=>exact ⟨0,by omega,by simp,rfl⟩
 case round =>
  obtain ⟨j,hj,rfl,rfl⟩:=hrel
  have hb:=M.p2_le (j:=j) (by omega)
  have hp:=M.p2_pos j
  by_cases hlt:n+j<32
  ·go_wp2
   go_round
   case rel=>exact ⟨j+1,by omega,by go_num,rfl⟩
   case measure=>simp [intOf];omega
  ·go_wp2
   go_ret
   exact ⟨YF (by congr 1;omega),rfl⟩
theorem xW (n:Int) (w:World) :
 Calls Tryz.prog 56 #[J Z n] w fun e w'=>e=.returned (.bool (M.isA n))/\w'=w:=by
 by_cases h0:0<=n
 ·by_cases h1:n<4294967296
  ·have hr:M.isA n=true:=by simp [M.isA,h0,h1]
   rw [hr];clear hr
   go_enter Tryz.func56,Tryz.ntmps56
   go_wp2
   go_ret
   exact ⟨rfl,rfl⟩
  ·have hr:M.isA n=false:=by simp [M.isA,h1]
   rw [hr];clear hr
   go_enter Tryz.func56,Tryz.ntmps56
   go_wp2
   go_ret
   exact ⟨rfl,rfl⟩
 ·have hr:M.isA n=false:=by simp [M.isA,h0]
  rw [hr];clear hr
  go_enter Tryz.func56,Tryz.ntmps56
  go_wp2
  go_ret
  exact ⟨rfl,rfl⟩
theorem xQ (n:Int) (w:World) :
 Calls Tryz.prog 123 #[J Z n] w fun e w'=>e=.returned (.bool (M.isA n))/\w'=w:=by
 by_cases h0:0<=n
 ·by_cases h1:n<4294967296
  ·have hr:M.isA n=true:=by simp [M.isA,h0,h1]
   rw [hr];clear hr
   go_enter Tryz.func123,Tryz.ntmps123
   go_wp2
   go_ret
   exact ⟨rfl,rfl⟩
  ·have hr:M.isA n=false:=by simp [M.isA,h1]
   rw [hr];clear hr
   go_enter Tryz.func123,Tryz.ntmps123
   go_wp2
   go_ret
   exact ⟨rfl,rfl⟩
 ·have hr:M.isA n=false:=by simp [M.isA,h0]
  rw [hr];clear hr
  go_enter Tryz.func123,Tryz.ntmps123
  go_wp2
  go_ret
  exact ⟨rfl,rfl⟩
theorem YE (a b:Int) (w:World) (a0:0<=a) (a1:a<4294967296) (b0:0<=b) (b1:b<4294967296) :
 Calls Tryz.prog 159 #[J Z a,J Z b] w fun e w'=>e=.returned (J Z (M.sh a b))/\w'=w:=by
 go_enter Tryz.func159,Tryz.ntmps159
 go_wp2
 go_loop [0,1,5] (fun x y i=>∃ (p q:Int) (k:Nat),k<=32/\0<=p/\p<4294967296/\0<=q/\q<4294967296/\x=J Z p/\y=J Z q/\i=J Z k/\Hid (M.shN k p q=M.sh a b)) (fun _ _ i=>(intOf i).toNat)
 case atStart=>exact ⟨a,b,32,by omega,a0,a1,b0,b1,rfl,rfl,rfl,rfl⟩
 case round =>
  obtain ⟨p,q,k,hk,p0,p1,q0,q1,rfl,rfl,rfl,hs⟩:=hrel
  cases k with
  | zero =>
   go_wp2
   go_ret
   exact ⟨YF (by rw [<- hs.out];rfl),rfl⟩
  | succ k =>
   by_cases hpq:p=q
   ·subst hpq
    go_wp2
    go_ret
    exact ⟨YF (by rw [<- hs.out];simp [M.shN]),rfl⟩
   ·have hne:(p != q)=true:=by simpa using hpq
    have HS:Hid (M.shN k (p / 2) (q / 2)=M.sh a b):=by have h:=hs.out;simp only [M.shN,if_neg hpq] at h;exact h
    clear hs
    go_wp2
    go_round
    case rel=>exact ⟨p / 2,q / 2,k,by omega,by omega,by omega,by omega,by omega,rfl,rfl,by go_num,HS⟩
    case measure=>simp [intOf]
theorem M.wrap64_in (n:Int) (h:-9223372036854775808<=n/\n<=9223372036854775807):wrap64 n=n:=by unfold wrap64;omega
theorem zB {B:Nat} {a w:World} (h:Below B a w) (n:Nat):Below B a (w.drewN n):=⟨h.os,h.tape,h.output,h.size,h.block⟩
theorem Qv (b:Bool) (v:Int) (w:World) (h:M.isA v=b):Calls Tryz.prog 56 #[J Z v] w fun e w'=>e=.returned (.bool b)/\w'=w:=by
 rw [<- h];exact xW v w
theorem XD (b:Bool) (v:Int) (w:World) (h:M.isA v=b):Calls Tryz.prog 123 #[J Z v] w fun e w'=>e=.returned (.bool b)/\w'=w:=by
 rw [<- h];exact xQ v w
theorem xH (w:World) (o:Obj) (m:Nat):Below w.heap.size w ((w.alloc o).drewN m):=zB ((Below.refl _ _).alloc (Nat.le_refl _) _) m
theorem Xr (v n:Int) (w:World) :
 Calls Tryz.prog 99 #[.agg #[J Z v,J Z n]] w fun e w'=>e=.returned (.bool (M.isP v n))/\Below w.heap.size w w':=by
 by_cases h0:0<=n
 ·by_cases h1:n<=32
  ·have hp:=M.p2_pos (32-n).toNat
   have hq:=M.p2_le (j:=(32-n).toNat) (by omega)
   cases hA:M.isA v with
   | true =>
    have hr:M.isP v n=(v%M.p2 (32-n).toNat==0):=by simp [M.isP,h0,h1,hA,BEq.beq]
    rw [hr];clear hr
    obtain ⟨v0,v1⟩:=M.isA_iff.1 hA
    go_enter Tryz.func99,Tryz.ntmps99
    go_wp2
    go_quiet ((first | (go_at_call 56;exact Calls.quiet_of_same (Qv _ _ _ hA)) | (go_at_call 140;exact Calls.quiet_of_same (jm _ _ h0 h1))))
    go_wp2
    go_ret
    exact ⟨rfl,xH _ _ _⟩
   | false =>
    have hr:M.isP v n=false:=by simp [M.isP,hA]
    rw [hr];clear hr
    go_enter Tryz.func99,Tryz.ntmps99
    go_wp2
    go_quiet ((go_at_call 56;exact Calls.quiet_of_same (Qv _ _ _ hA)))
    go_wp2
    go_ret
    exact ⟨rfl,xH _ _ _⟩
  ·have hr:M.isP v n=false:=by simp [M.isP,h1]
   rw [hr];clear hr
   have hd:decide (n<=32)=false:=decide_eq_false h1
   go_enter Tryz.func99,Tryz.ntmps99
   go_wp2
   go_quiet (fail)
   go_wp2
   go_ret
   exact ⟨rfl,xH _ _ _⟩
 ·have hr:M.isP v n=false:=by simp [M.isP,h0]
  rw [hr];clear hr
  have hd:decide (0<=n)=false:=decide_eq_false h0
  go_enter Tryz.func99,Tryz.ntmps99
  go_wp2
  go_quiet (fail)
  go_wp2
  go_ret
  exact ⟨rfl,xH _ _ _⟩
theorem M.shifts (v n:Int) (h0:0<=n) (h1:n<=32) (hA:M.isA v=true):M.isP v n=(wrap64 (v / 2 ^ (32-n).toNat*2 ^ (32-n).toNat)==v):=by
 obtain ⟨v0,v1⟩:=M.isA_iff.1 hA
 rw [<- M.p2_eq]
 have hp:=M.p2_pos (32-n).toNat
 generalize hm:M.p2 (32-n).toNat=m at *
 have e:=Int.emod_add_mul_ediv v m
 have e2:=Int.mul_comm (v / m) m
 have a0:=Int.emod_nonneg v (b:=m) (by omega)
 have a1:0<=v / m:=Int.ediv_nonneg v0 (by omega)
 have a2:0<=m*(v / m):=Int.mul_nonneg (by omega) a1
 rw [M.wrap64_in _ (by omega)]
 have e3:(v%m=0)↔v / m*m=v:=by omega
 simp only [M.isP,hm,hA,h0,h1,decide_true,Bool.true_and]
 rw [Bool.eq_iff_iff];simp [e3]
theorem YR (v n:Int) (w:World) :
 Calls Tryz.prog 155 #[.agg #[J Z v,J Z n]] w fun e w'=>e=.returned (.bool (M.isP v n))/\Below w.heap.size w w':=by
 by_cases h0:0<=n
 ·by_cases h1:n<=32
  ·have hp:=M.p2_pos (32-n).toNat
   have hq:=M.p2_le (j:=(32-n).toNat) (by omega)
   cases hA:M.isA v with
   | true =>
    obtain ⟨v0,v1⟩:=M.isA_iff.1 hA
    have hr:M.isP v n=(wrap64 (v / 2 ^ (32-n).toNat*2 ^ (32-n).toNat)==v):=M.shifts v n h0 h1 hA
    rw [hr];clear hr
    go_enter Tryz.func155,Tryz.ntmps155
    go_wp2
    go_quiet ((go_at_call 123;exact Calls.quiet_of_same (XD _ _ _ hA)))
    go_wp2
    go_ret
    exact ⟨rfl,xH _ _ _⟩
   | false =>
    have hr:M.isP v n=false:=by simp [M.isP,hA]
    rw [hr];clear hr
    go_enter Tryz.func155,Tryz.ntmps155
    go_wp2
    go_quiet ((go_at_call 123;exact Calls.quiet_of_same (XD _ _ _ hA)))
    go_wp2
    go_ret
    exact ⟨rfl,xH _ _ _⟩
  ·have hr:M.isP v n=false:=by simp [M.isP,h1]
   rw [hr];clear hr
   go_enter Tryz.func155,Tryz.ntmps155
   go_wp2
   go_ret
   exact ⟨rfl,(Below.refl _ _).alloc (Nat.le_refl _) _⟩
 ·have hr:M.isP v n=false:=by simp [M.isP,h0]
  rw [hr];clear hr
  go_enter Tryz.func155,Tryz.ntmps155
  go_wp2
  go_ret
  exact ⟨rfl,(Below.refl _ _).alloc (Nat.le_refl _) _⟩
structure PS (w:World) (ao:Option Addr) (b n:Nat) (V L:Nat->Int):Prop where
 at_:0<n->ao=some ⟨b,0,none⟩
 lt:0<n->b<w.heap.size
 val:∀ i,i<n->w.cell? ⟨b,i*2,none⟩=some (J Z (V i))
 len:∀ i,i<n->w.cell? ⟨b,i*2+1,none⟩=some (J Z (L i))
theorem PS.below {w w':World} {ao b n V L} (h:PS w ao b n V L) (hb:Below w.heap.size w w'):PS w' ao b n V L :=
 ⟨h.at_,fun hn=>Nat.lt_of_lt_of_le (h.lt hn) hb.size,fun i hi=>by rw [hb.cell (h.lt (by omega))];exact h.val i hi,fun i hi=>by rw [hb.cell (h.lt (by omega))];exact h.len i hi⟩
theorem PS.take {w:World} {ao b n V L} (h:PS w ao b n V L) {m:Nat} (hm:m<=n):PS w ao b m V L :=
 ⟨fun h0=>h.at_ (by omega),fun h0=>h.lt (by omega),fun i hi=>h.val i (by omega),fun i hi=>h.len i (by omega)⟩
theorem ya {a b:Bool} (h:a=b):Ending.returned (.bool a)=.returned (.bool b):=by rw [h]
theorem jW {w wr wx:World} {v m:Value} (hx:Below wr.heap.size wr wx) (hsz:w.heap.size<wr.heap.size) (hb:Below w.heap.size w wr)
 (c0:wr.cell? ⟨w.heap.size,0,none⟩=some v) (c1:wr.cell? ⟨w.heap.size,1,none⟩=some m) :
 wx.cell? ⟨w.heap.size,0,none⟩=some v/\wx.cell? ⟨w.heap.size,1,none⟩=some m/\w.heap.size<wx.heap.size/\Below w.heap.size w wx :=
 ⟨by rw [hx.cell hsz];exact c0,by rw [hx.cell hsz];exact c1,Nat.lt_of_lt_of_le hsz hx.size,hb.trans (hx.mono (Nat.le_of_lt hsz))⟩
theorem Qw (ao:Option Addr) (b n c:Nat) (V L:Nat->Int) (v m:Int) (w:World) (hn:n<=64) (hs:PS w ao b n V L) :
 Calls Tryz.prog 158 #[O ao n c,.agg #[J Z v,J Z m]] w fun e w'=>e=.returned (.bool (M.inTo V L v m n))/\Below w.heap.size w w':=by
 go_enter Tryz.func158,Tryz.ntmps158
 go_wp2
 go_loopw [9] (fun i wr=>∃ k:Nat,k<=n/\i=J Z k/\M.inTo V L v m k=false/\wr.cell? ⟨w.heap.size,0,none⟩=some (J Z v)/\wr.cell? ⟨w.heap.size,1,none⟩=some (J Z m)/\w.heap.size<wr.heap.size/\Below w.heap.size w wr) (fun i _=>n-(intOf i).toNat)
 case atStart=>exact ⟨0,by omega,rfl,rfl,by simp,by simp,by simp,(Below.refl _ _).alloc (Nat.le_refl _) _⟩
 case round =>
  obtain ⟨k,hk,rfl,hf,c0,c1,hsz,hb⟩:=hrel
  by_cases hlt:k<n
  ·obtain rfl:=hs.at_ (by omega)
   have hv:=(hs.below hb).val k hlt
   have hl:=(hs.below hb).len k hlt
   have hbb:b<wr.heap.size:=(hs.below hb).lt (by omega)
   have hR:Hid (Below w.heap.size w wr):=hb
   clear hs hb
   cases e1:(V k==v) with
   | true =>
    cases e2:(L k==m) with
    | true =>
     have ht:Hid (M.inTo V L v m n=true):=M.inTo_hit hlt (by simpa using e1) (by simpa using e2)
     go_wp2
     go_ret
     exact ⟨ya ht.out.symm,hR.out.trans (Below.mono (B:=wr.heap.size) (by repeat (first | exact Below.refl _ _ | refine zB ?_ _ | refine Below.drew ?_ | refine Below.alloc ?_ (by simp) _ | refine Below.setCell ?_ (by simp) _)) (Nat.le_of_lt hsz))⟩
    | false =>
     have HF:Hid (M.inTo V L v m (k+1)=false):=by show _=_;simp [M.inTo,hf,e2]
     go_wp2
     go_roundw
     case rel=>exact ⟨k+1,by omega,by go_num,HF,jW (by repeat (first | exact Below.refl _ _ | refine zB ?_ _ | refine Below.drew ?_ | refine Below.alloc ?_ (by simp) _ | refine Below.setCell ?_ (by simp) _)) hsz hR.out c0 c1⟩
     case measure=>simp [intOf];omega
   | false =>
    have HF:Hid (M.inTo V L v m (k+1)=false):=by show _=_;simp [M.inTo,hf,e1]
    go_wp2
    go_roundw
    case rel=>exact ⟨k+1,by omega,by go_num,HF,jW (by repeat (first | exact Below.refl _ _ | refine zB ?_ _ | refine Below.drew ?_ | refine Below.alloc ?_ (by simp) _ | refine Below.setCell ?_ (by simp) _)) hsz hR.out c0 c1⟩
    case measure=>simp [intOf];omega
  ·have hkn:k=n:=by omega
   subst hkn
   go_wp2
   go_ret
   exact ⟨ya hf.symm,hb⟩
theorem PS.drew {w:World} {ao b n V L} (h:PS w ao b n V L):PS w.drew ao b n V L:=⟨h.at_,h.lt,h.val,h.len⟩
theorem zeu {W w1:World} (hb:Below W.heap.size W w1):∀ b o,b<W.heap.size->w1.cell? ⟨b,o,none⟩=W.cell? ⟨b,o,none⟩:=fun b o h=>hb.cell (p:=⟨b,o,none⟩) h
theorem JV (ao:Option Addr) (b n c:Nat) (V L:Nat->Int) (w:World) (hn:n<=9223372036854775807) (hc:n<=c) (hs:PS w ao b n V L) :
 Calls Tryz.prog 124 #[O ao n c] w fun e w'=>e=.returned (.bool (M.isMap V L n))/\Below w.heap.size w w':=by
 by_cases h64:n<=64
 ·go_enter Tryz.func124,Tryz.ntmps124
  go_wp2
  go_loopw [10] (fun i wr=>∃ k:Nat,k<=n/\i=J Z k/\M.okTo V L k=true/\Below w.heap.size w wr) (fun i _=>n-(intOf i).toNat)
  case atStart=>exact ⟨0,by omega,rfl,rfl,Below.refl _ _⟩
  case round =>
   obtain ⟨k,hk,rfl,hf,hb⟩:=hrel
   by_cases hlt:k<n
   ·obtain rfl:=hs.at_ (by omega)
    have hps:=hs.below hb
    have hv:=hps.val k hlt
    have hl:=hps.len k hlt
    have hbb:b<wr.heap.size:=hps.lt (by omega)
    have hR:Hid (Below w.heap.size w wr):=hb
    have hT:PS wr (some ⟨b,0,none⟩) b k V L:=hps.take hk
    clear hs hb hps
    cases e1:M.isP (V k) (L k) with
    | false =>
     have ht:Hid (M.isMap V L n=false):=M.isMap_bad hlt (.inl e1)
     go_wp2_with fail
     refine (YR _ _ _).mono ?_
     rintro e w1 ⟨rfl,hb1⟩
     have hx:Hid (Below w.heap.size w w1):=hR.out.trans ((((Below.refl _ _).alloc (Nat.le_refl _) _).trans (hb1.mono (by simp))).mono hR.out.size)
     clear hb1
     go_wp2_with fail
     go_ret
     exact ⟨ya ht.out.symm,hx.out⟩
    | true =>
     go_wp2_with fail
     refine (YR _ _ _).mono ?_
     rintro e w1 ⟨rfl,hb1⟩
     have hT1:PS w1 (some ⟨b,0,none⟩) b k V L:=(hT.below ((Below.refl _ _).alloc (Nat.le_refl _) _)).below hb1
     have q0:=zeu hb1 wr.heap.size 0 (by simp)
     have q1:=zeu hb1 wr.heap.size 1 (by simp)
     have hx:Hid (Below w.heap.size w w1):=hR.out.trans ((((Below.refl _ _).alloc (Nat.le_refl _) _).trans (hb1.mono (by simp))).mono hR.out.size)
     simp at q0 q1
     clear hb1 hv hl
     cases e2:M.inTo V L (V k) (L k) k with
     | true =>
      have ht:Hid (M.isMap V L n=false):=M.isMap_bad hlt (.inr e2)
      go_wp2_with fail
      go_region_with (go_at_call 158;refine (Qw _ b k c V L _ _ _ (by omega) (by exact hT1.drew)).mono ?_;rintro e w2 ⟨rfl,hb2⟩)
      all_goals
       go_wp2_with fail
       go_ret
       exact ⟨ya ht.out.symm,(hx.out.drew).trans (hb2.mono hx.out.size)⟩
     | false =>
      have HF:Hid (M.okTo V L (k+1)=true):=by show _=_;simp [M.okTo,hf,e1,e2]
      go_wp2_with fail
      go_region_with (go_at_call 158;refine (Qw _ b k c V L _ _ _ (by omega) (by exact hT1.drew)).mono ?_;rintro e w2 ⟨rfl,hb2⟩)
      all_goals
       have hy:Hid (Below w.heap.size w w2):=(hx.out.drew).trans (hb2.mono hx.out.size)
       clear hb2 q0 q1
       go_wp2_with fail
       go_roundw
       case rel=>exact ⟨k+1,by omega,by go_num,HF,hy⟩
       case measure=>simp [intOf];omega
   ·have hkn:k=n:=by omega
    subst hkn
    have ht:Hid (M.isMap V L k=true):=by show _=_;simp [M.isMap,hf,h64]
    go_wp2
    go_ret
    exact ⟨ya ht.out.symm,hb⟩
 ·have ht:Hid (M.isMap V L n=false):=by show _=_;simp [M.isMap,h64]
  go_enter Tryz.func124,Tryz.ntmps124
  go_wp2
  go_ret
  exact ⟨ya ht.out.symm,Below.refl _ _⟩
theorem PS.drewN {w:World} {ao b n V L} (h:PS w ao b n V L) (m:Nat):PS (w.drewN m) ao b n V L:=⟨h.at_,h.lt,h.val,h.len⟩
theorem zcC (a b c d:Int) (w:World):(Op.equalIn 10000 99 (.agg #[J Z a,J Z b]) (.agg #[J Z c,J Z d])).run Tryz.prog w=.ok (a==c && b==d) w:=by
 have u3:=Tryz.underlying3
 have hS:Tryz.prog.underlying 99=some (.struct (Tryz.prog.fieldsOf 99)):=by kernel_rfl
 have hp:Tryz.prog.stoodInHeld 99=false:=by kernel_rfl
 rw [show (10000:Nat)=9999+1 from rfl,run_equalIn_agg w 9999 99 _ _ hS hp]
 simp only [Program.fieldsOf,Tryz.underlying99]
 go_simp
 by_cases h1:a=c<;>by_cases h2:b=d<;>simp [h1,h2]
theorem JR (ao:Option Addr) (b n c:Nat) (V L:Nat->Int) (w:World) (hn:n<=9223372036854775807) (hs:PS w ao b n V L) :
 Calls Tryz.prog 57 #[O ao n c] w fun e w'=>e=.returned (.bool (M.isMap V L n))/\Below w.heap.size w w':=by
 by_cases h64:n<=64
 ·go_enter Tryz.func57,Tryz.ntmps57
  go_wp2
  go_loopw [3] (fun i wr=>∃ k:Nat,k<=n/\i=J Z k/\M.okTo V L k=true/\Below w.heap.size w wr) (fun i _=>n-(intOf i).toNat)
  case atStart=>exact ⟨0,by omega,rfl,rfl,Below.refl _ _⟩
  case round =>
   obtain ⟨k,hk,rfl,hf,hb⟩:=hrel
   by_cases hlt:k<n
   ·obtain rfl:=hs.at_ (by omega)
    have hps:=hs.below hb
    have hv:=hps.val k hlt
    have hl:=hps.len k hlt
    have hbb:b<wr.heap.size:=hps.lt (by omega)
    have hR:Hid (Below w.heap.size w wr):=hb
    have hT:PS wr (some ⟨b,0,none⟩) b n V L:=hps
    clear hs hb hps
    cases e1:M.isP (V k) (L k) with
    | false =>
     have ht:Hid (M.isMap V L n=false):=M.isMap_bad hlt (.inl e1)
     go_wp2_with fail
     refine (Xr _ _ _).mono ?_
     rintro e w1 ⟨rfl,hb1⟩
     have hx:Hid (Below w.heap.size w w1):=hR.out.trans (hb1.mono hR.out.size)
     clear hb1
     go_wp2_with fail
     go_ret
     exact ⟨ya ht.out.symm,hx.out⟩
    | true =>
     go_wp2_with fail
     refine (Xr _ _ _).mono ?_
     rintro e w1 ⟨rfl,hb1⟩
     have hT1:PS w1 (some ⟨b,0,none⟩) b n V L:=hT.below hb1
     have hx:Hid (Below w.heap.size w w1):=hR.out.trans (hb1.mono hR.out.size)
     clear hb1 hv hl hT
     go_wp2_with fail
     go_loopw [5] (fun j wq=>∃ i:Nat,i<=k/\j=J Z i/\M.inTo V L (V k) (L k) i=false/\PS wq (some ⟨b,0,none⟩) b n V L/\Below w.heap.size w wq) (fun j _=>k-(intOf j).toNat)
     case atStart=>exact ⟨0,by omega,rfl,rfl,hT1,hx⟩
     case round =>
      obtain ⟨i,hi,rfl,hg,hTq,hbq⟩:=hrel
      clear hT1 hx
      by_cases hil:i<k
      ·have hvk:=hTq.val k hlt
       have hlk:=hTq.len k hlt
       have hvi:=hTq.val i (by omega)
       have hli:=hTq.len i (by omega)
       have kn:(k:Int)<n:=by omega
       have iN:(i:Int)<n:=by omega
       have heq:=fun w=>zcC (V k) (L k) (V i) (L i) w
       cases e3:(V k==V i && L k==L i) with
       | true =>
        rw [e3] at heq
        have ht:Hid (M.isMap V L n=false):=M.isMap_bad hlt (.inr (M.inTo_hit hil (by simp at e3;exact e3.1.symm) (by simp at e3;exact e3.2.symm)))
        clear e3
        go_wp2_with fail
        go_quiet (fail)
        go_wp2_with fail
        go_ret
        exact ⟨ya ht.out.symm,zB hbq _⟩
       | false =>
        rw [e3] at heq
        have HF:Hid (M.inTo V L (V k) (L k) (i+1)=false):=by
         have hq:(V i==V k && L i==L k)=false:=by rw [<- e3,Bool.beq_comm (a:=V i),Bool.beq_comm (a:=L i)]
         show _=_;simp only [M.inTo,hg,hq,Bool.or_false]
        clear e3
        go_wp2_with fail
        go_quiet (fail)
        go_wp2_with fail
        go_roundw
        case rel=>exact ⟨i+1,by omega,by go_num,HF,hTq.drewN _,zB hbq _⟩
        case measure=>simp [intOf];omega
      ·have hik:i=k:=by omega
       subst hik
       have HF:Hid (M.okTo V L (i+1)=true):=by show _=_;simp [M.okTo,hf,e1,hg]
       go_wp2_with fail
       go_roundw
       case rel=>exact ⟨i+1,by omega,by go_num,HF,hbq⟩
       case measure=>simp [intOf];omega
   ·have hkn:k=n:=by omega
    subst hkn
    have ht:Hid (M.isMap V L k=true):=by show _=_;simp [M.isMap,hf,h64]
    go_wp2
    go_ret
    exact ⟨ya ht.out.symm,hb⟩
 ·have ht:Hid (M.isMap V L n=false):=by show _=_;simp [M.isMap,h64]
  go_enter Tryz.func57,Tryz.ntmps57
  go_wp2
  go_ret
  exact ⟨ya ht.out.symm,Below.refl _ _⟩
theorem M.step_best (V L:Nat->Int) (a:Int) (k:Nat) (x:Int) (h:x=if L k<=M.sh (V k) a/\M.bitsTo V L a k<L k then (k:Int) else M.bestTo V L a k):M.bestTo V L a (k+1)=x:=by rw [h];rfl
theorem M.step_bits (V L:Nat->Int) (a:Int) (k:Nat) (x:Int) (h:x=if L k<=M.sh (V k) a/\M.bitsTo V L a k<L k then L k else M.bitsTo V L a k):M.bitsTo V L a (k+1)=x:=by rw [h];rfl
theorem M.step_dep (V L:Nat->Int) (a:Int) (k:Nat) (x nd:Int) (hn:M.need V L a k=nd) (h:x=if M.depTo V L a k<nd then nd else M.depTo V L a k):M.depTo V L a (k+1)=x:=by rw [h,<- hn];rfl
theorem yr {a b:Int} (h:a=b):J Z b=J Z a:=by rw [h]
theorem j7 (ao:Option Addr) (b n c:Nat) (V L:Nat->Int) (a:Int) (w:World) (a0:0<=a) (a1:a<4294967296) (hn:n<=64) (hs:PS w ao b n V L) (hp:∀ i,i<n->M.isP (V i) (L i)=true) :
 Calls Tryz.prog 125 #[O ao n c,J Z a] w fun e w'=>e=.returned (.tuple #[J Z (M.bestTo V L a n),J Z (M.depTo V L a n)])/\Below w.heap.size w w':=by
 go_enter Tryz.func125,Tryz.ntmps125
 go_wp2
 go_loopw [6,7,8,15] (fun x y z i wr=>∃ k:Nat,k<=n/\i=J Z k/\x=J Z (M.bestTo V L a k)/\y=J Z (M.bitsTo V L a k)/\z=J Z (M.depTo V L a k)/\Below w.heap.size w wr) (fun _ _ _ i _=>n-(intOf i).toNat)
 case atStart=>exact ⟨0,by omega,rfl,rfl,rfl,rfl,Below.refl _ _⟩
 case round =>
  obtain ⟨k,hk,rfl,rfl,rfl,rfl,hb⟩:=hrel
  by_cases hlt:k<n
  ·obtain rfl:=hs.at_ (by omega)
   have hps:=hs.below hb
   have hv:=hps.val k hlt
   have hl:=hps.len k hlt
   have hbb:b<wr.heap.size:=hps.lt (by omega)
   have hR:Hid (Below w.heap.size w wr):=hb
   obtain ⟨l0,l1,v0,v1,_⟩:=M.isP_iff.1 (hp k hlt)
   have hsl:=M.sh_le (V k) a
   clear hs hb hps hp
   by_cases hc:(M.sh (V k) a:Int)<L k
   ·have HN:Hid (M.need V L a k=M.sh (V k) a+1):=by show _=_;unfold M.need;rw [if_pos hc]
    by_cases hd:M.depTo V L a k<M.sh (V k) a+1
    all_goals
     go_wp2_with (go_at_call 159;refine (YE _ _ _ v0 v1 a0 a1).mono ?_;rintro e w' ⟨rfl,rfl⟩)
     go_roundw
     case rel=>exact ⟨k+1,by omega,by go_num,yr (M.step_best _ _ _ _ _ (by rw [if_neg (by omega)])),yr (M.step_bits _ _ _ _ _ (by rw [if_neg (by omega)])),yr (M.step_dep _ _ _ _ _ _ HN.out (by split<;>omega)),hR.out.trans (Below.mono (B:=wr.heap.size) (by repeat (first | exact Below.refl _ _ | refine zB ?_ _ | refine Below.drew ?_ | refine Below.alloc ?_ (by simp) _ | refine Below.setCell ?_ (by simp) _)) hR.out.size)⟩
     case measure=>simp [intOf];omega
   ·have HN:Hid (M.need V L a k=L k):=by show _=_;unfold M.need;rw [if_neg hc]
    by_cases hd:M.depTo V L a k<L k
    all_goals
     by_cases hq:M.bitsTo V L a k<L k
     all_goals
      go_wp2_with (go_at_call 159;refine (YE _ _ _ v0 v1 a0 a1).mono ?_;rintro e w' ⟨rfl,rfl⟩)
      go_roundw
      case rel=>exact ⟨k+1,by omega,by go_num,yr (M.step_best _ _ _ _ _ (by split<;>omega)),yr (M.step_bits _ _ _ _ _ (by split<;>omega)),yr (M.step_dep _ _ _ _ _ _ HN.out (by split<;>omega)),hR.out.trans (Below.mono (B:=wr.heap.size) (by repeat (first | exact Below.refl _ _ | refine zB ?_ _ | refine Below.drew ?_ | refine Below.alloc ?_ (by simp) _ | refine Below.setCell ?_ (by simp) _)) hR.out.size)⟩
      case measure=>simp [intOf];omega
  ·have hkn:k=n:=by omega
   subst hkn
   go_wp2
   go_ret2
   exact ⟨rfl,hb⟩
theorem M.match_iff {v n a:Int} (h:M.isP v n=true) (ha:M.isA a=true):(a-a%M.p2 (32-n).toNat==v)=decide (n<=M.sh v a):=by
 obtain ⟨n0,n1,v0,v1,hm⟩:=M.isP_iff.1 h
 have hv:M.isA v=true:=M.isA_iff.2 ⟨v0,v1⟩
 have hp:=M.p2_pos (32-n).toNat
 have h1:=Int.mul_ediv_add_emod a (M.p2 (32-n).toNat)
 have h2:=Int.mul_ediv_add_emod v (M.p2 (32-n).toNat)
 have e:32-n.toNat=(32-n).toNat:=by omega
 have h3:=M.sh_iff (s:=n.toNat) (by omega) hv ha
 rw [e] at h3
 have h4:(a-a%M.p2 (32-n).toNat=v)↔n<=M.sh v a:=by
  constructor
  ·intro h
   have:M.p2 (32-n).toNat*(a / M.p2 (32-n).toNat)=M.p2 (32-n).toNat*(v / M.p2 (32-n).toNat):=by omega
   have:=h3.2 (Int.eq_of_mul_eq_mul_left (by omega) this.symm)
   omega
  ·intro h
   have:=h3.1 (by omega)
   rw [<- this] at h1;omega
 rw [Bool.eq_iff_iff];simp [h4]
theorem M.cut_iff {v s a:Int} (hv:M.isA v=true) (ha:M.isA a=true) (s0:0<=s) (s1:s<=32):(v-v%M.p2 (32-s).toNat==a-a%M.p2 (32-s).toNat)=decide (s<=M.sh v a):=by
 have hp:=M.p2_pos (32-s).toNat
 have h1:=Int.mul_ediv_add_emod a (M.p2 (32-s).toNat)
 have h2:=Int.mul_ediv_add_emod v (M.p2 (32-s).toNat)
 have e:32-s.toNat=(32-s).toNat:=by omega
 have h3:=M.sh_iff (s:=s.toNat) (by omega) hv ha
 rw [e] at h3
 have h4:(v-v%M.p2 (32-s).toNat=a-a%M.p2 (32-s).toNat)↔s<=M.sh v a:=by
  constructor
  ·intro h
   have:M.p2 (32-s).toNat*(v / M.p2 (32-s).toNat)=M.p2 (32-s).toNat*(a / M.p2 (32-s).toNat):=by omega
   have:=h3.2 (Int.eq_of_mul_eq_mul_left (by omega) this)
   omega
  ·intro h
   have:=h3.1 (by omega)
   rw [<- this] at h1;omega
 rw [Bool.eq_iff_iff];simp [h4]
theorem M.need_iff {V L:Nat->Int} {a s:Int} {i:Nat}:M.need V L a i<=s↔¬ (s<L i/\s<=M.sh (V i) a):=by
 unfold M.need;split<;>omega
theorem M.dep_iff {V L:Nat->Int} {a s:Int} {n:Nat} (s0:0<=s):M.depTo V L a n<=s↔∀ i,i<n->M.need V L a i<=s:=by
 constructor
 ·intro h i hi;have:=M.need_le_dep (V:=V) (L:=L) (a:=a) hi;omega
 ·intro h
  rcases M.dep_is (V:=V) (L:=L) (a:=a) (n:=n) with h0 | ⟨i,hi,hn⟩
  ·omega
  ·have:=h i hi;omega
theorem ZM (a n:Int) (w:World) (a0:0<=a) (a1:a<4294967296) (n0:0<=n) (n1:n<=32) :
 Calls Tryz.prog 180 #[J Z a,J Z n] w fun e w'=>e=.returned (J Z (a-a%M.p2 (32-n).toNat))/\w'=w:=by
 have hp:=M.p2_pos (32-n).toNat
 have hq:=M.p2_le (j:=(32-n).toNat) (by omega)
 have ha:=Int.emod_nonneg a (b:=M.p2 (32-n).toNat) (by omega)
 have la:=Int.emod_lt_of_pos a hp
 go_enter Tryz.func180,Tryz.ntmps180
 go_wp2_with fail
 refine (jm _ _ n0 n1).mono ?_
 rintro e w' ⟨rfl,hww⟩
 subst w'
 go_wp2
 go_ret
 exact ⟨rfl,rfl⟩
theorem Zk {w wr:World} (h:∃ q,wr=w.drewN q) (m:Nat):∃ q,wr.drewN m=w.drewN q:=by
 obtain ⟨q,rfl⟩:=h
 exact ⟨q+m,by simp⟩
theorem X1 (ao:Option Addr) (b n c:Nat) (V L:Nat->Int) (a:Int) (w:World) (hA:M.isA a=true) (hn:n<=64) (hs:PS w ao b n V L) (hp:∀ i,i<n->M.isP (V i) (L i)=true) :
 Calls Tryz.prog 161 #[O ao n c,J Z a] w fun e w'=>e=.returned (J Z (M.bestTo V L a n))/\∃ m,w'=w.drewN m:=by
 obtain ⟨a0,a1⟩:=M.isA_iff.1 hA
 have HP:Hid _:=hp
 clear hp
 go_enter Tryz.func161,Tryz.ntmps161
 go_wp2
 go_loopw [5,6] (fun x i wr=>∃ m:Nat,m<=n/\i=J Z m/\x=J Z (M.bestTo V L a m)/\∃ q,wr=w.drewN q) (fun _ i _=>n-(intOf i).toNat)
 case atStart=>exact ⟨0,by omega,rfl,rfl,0,rfl⟩
 case round =>
  obtain ⟨m,hm,rfl,rfl,HW⟩:=hrel
  have hs':PS wr ao b n V L:=by obtain ⟨q,e⟩:=HW;rw [e];exact hs.drewN q
  have HW':Hid _:=HW
  clear HW
  by_cases hlt:m<n
  ·obtain rfl:=hs.at_ (by omega)
   have hv:=hs'.val m hlt
   have hl:=hs'.len m hlt
   obtain ⟨l0,l1,v0,v1,_⟩:=M.isP_iff.1 (HP.out m hlt)
   have hL:Hid (∀ i,i<m->0<=L i):=fun i hi=>by have:=M.isP_iff.1 (HP.out i (by omega));omega
   have hbi:Hid _:=M.best_is (V:=V) (L:=L) (a:=a) (n:=m) hL.out
   have hin:=M.match_iff (HP.out m hlt) hA
   have mn:(m:Int)<n:=by omega
   have hcell:Hid _:=hs'.len
   clear hs hs'
   generalize hq:(a-a%M.p2 (32-L m).toNat==V m)=y at *
   have HY:Hid _:=hin
   clear hin
   have HS:Hid (M.bestTo V L a (m+1)=if L m<=M.sh (V m) a/\M.bitsTo V L a m<L m then (m:Int) else M.bestTo V L a m):=rfl
   have HT:Hid (M.bitsTo V L a m=if M.bestTo V L a m<0 then -1 else L (M.bestTo V L a m).toNat):=by
    show _=_
    rcases hbi.out with ⟨g1,g2,_⟩ | ⟨j,hj,g1,g2,_⟩
    ·rw [g1,g2];rfl
    ·rw [g1,g2,if_neg (by omega)];simp
   have hbl:=M.best_lo (V:=V) (L:=L) (a:=a) (n:=m)
   generalize hK:M.bestTo V L a m=K at *
   clear hbi
   have hfacts:(y=false/\M.bestTo V L a (m+1)=K)\/(y=true/\K<0/\M.bestTo V L a (m+1)=m) \/
    (y=true/\0<=K/\K<n/\wr.cell? ⟨b,K.toNat*2+1,none⟩=some (J Z (L K.toNat))/\((L K.toNat<L m/\M.bestTo V L a (m+1)=m)\/(¬ L K.toNat<L m/\M.bestTo V L a (m+1)=K))):=by
    have h1:=HY.out
    have h2:=HS.out
    rw [HT.out] at h2
    by_cases hd:L m<=M.sh (V m) a
    ·rw [decide_eq_true hd] at h1
     by_cases hk:K<0
     ·right;left
      rw [if_pos hk,if_pos ⟨hd,by omega⟩] at h2
      exact ⟨h1,hk,h2⟩
     ·right;right
      rw [if_neg hk] at h2
      refine ⟨h1,by omega,by omega,hcell.out K.toNat (by omega),?_⟩
      by_cases hz:L K.toNat<L m
      ·left;rw [if_pos ⟨hd,hz⟩] at h2;exact ⟨hz,h2⟩
      ·right;rw [if_neg (fun h=>hz h.2)] at h2;exact ⟨hz,h2⟩
    ·left
     rw [decide_eq_false hd] at h1
     rw [if_neg (fun h=>hd h.1)] at h2
     exact ⟨h1,h2⟩
   have HQ:Hid _:=hq
   have HK:Hid _:=hK
   have hq':=HQ.out
   clear hq hK HY HS HT hcell
   rcases hfacts with ⟨rfl,hb1⟩ | ⟨rfl,hk0,hb1⟩ | ⟨rfl,hk0,hk1,hck,⟨hlt2,hb1⟩ | ⟨hlt2,hb1⟩⟩
   ·have HB:Hid _:=hb1
    clear hb1
    go_wp2_with fail
    go_quiet ((go_at_call 180;exact Calls.quiet_of_same (ZM _ _ _ a0 a1 l0 l1)))
    go_wp2_with fail
    go_roundw
    case rel=>exact ⟨m+1,by omega,by go_num,yr HB.out,Zk HW'.out _⟩
    case measure=>simp [intOf];omega
   ·have HB:Hid _:=hb1
    clear hb1
    have kd:decide (K<0)=true:=decide_eq_true hk0
    go_wp2_with fail
    go_quiet ((go_at_call 180;exact Calls.quiet_of_same (ZM _ _ _ a0 a1 l0 l1)))
    go_wp2_with fail
    go_roundw
    case rel=>exact ⟨m+1,by omega,by go_num,yr HB.out,Zk HW'.out _⟩
    case measure=>simp [intOf];omega
   ·have HB:Hid _:=hb1
    clear hb1
    have kd:decide (K<0)=false:=decide_eq_false (by omega)
    have ld:decide (L K.toNat<L m)=true:=decide_eq_true hlt2
    go_wp2_with fail
    go_quiet ((go_at_call 180;exact Calls.quiet_of_same (ZM _ _ _ a0 a1 l0 l1)))
    go_wp2_with fail
    go_roundw
    case rel=>exact ⟨m+1,by omega,by go_num,yr HB.out,Zk HW'.out _⟩
    case measure=>simp [intOf];omega
   ·have HB:Hid _:=hb1
    clear hb1
    have kd:decide (K<0)=false:=decide_eq_false (by omega)
    have ld:decide (L K.toNat<L m)=false:=decide_eq_false hlt2
    go_wp2_with fail
    go_quiet ((go_at_call 180;exact Calls.quiet_of_same (ZM _ _ _ a0 a1 l0 l1)))
    go_wp2_with fail
    go_roundw
    case rel=>exact ⟨m+1,by omega,by go_num,yr HB.out,Zk HW'.out _⟩
    case measure=>simp [intOf];omega
  ·have hkn:m=n:=by omega
   subst hkn
   go_wp2
   go_ret
   exact ⟨rfl,HW'.out⟩
theorem zeD {a b c d:Int} (h1:a=c) (h2:b=d):Ending.returned (.tuple #[J Z a,J Z b])=.returned (.tuple #[J Z c,J Z d]):=by rw [h1,h2]
theorem jq (ao:Option Addr) (b n c:Nat) (V L:Nat->Int) (a s:Int) (w:World) (hA:M.isA a=true) (hn:n<=64) (hs:PS w ao b n V L) (hp:∀ i,i<n->M.isP (V i) (L i)=true) (s0:0<=s) (s1:s<=32) :
 Calls Tryz.prog 160 #[O ao n c,J Z a,J Z s] w fun e w'=>e=.returned (.bool (decide (M.depTo V L a n<=s)))/\∃ m,w'=w.drewN m:=by
 obtain ⟨a0,a1⟩:=M.isA_iff.1 hA
 have HP:Hid _:=hp
 have hL:Hid (∀ i,i<n->0<=L i):=fun i hi=>by have:=M.isP_iff.1 (HP.out i hi);omega
 have hbi:Hid _:=M.best_is (V:=V) (L:=L) (a:=a) (n:=n) hL.out
 have hdi:Hid (M.depTo V L a n<=s↔∀ i,i<n->M.need V L a i<=s):=M.dep_iff s0
 have hlo:=X1 ao b n c V L a w hA hn hs hp
 have hbl:=M.best_lo (V:=V) (L:=L) (a:=a) (n:=n)
 generalize hK:M.bestTo V L a n=K at *
 have HLO:Hid _:=hlo
 clear hp hlo hK
 obtain ⟨bl0,bl1⟩:=hbl
 go_enter Tryz.func160,Tryz.ntmps160
 go_wp2_with fail
 refine Calls.mono HLO.out ?_
 rintro e wq ⟨rfl,q,hq⟩
 have hsq:PS wq ao b n V L:=by rw [hq];exact hs.drewN q
 have HW:Hid (∃ q,wq=w.drewN q):=⟨q,hq⟩
 clear hq hs HLO
 by_cases hbig:0<=K/\s<L K.toNat
 ·obtain ⟨k0,kb⟩:=hbig
  obtain rfl:=hsq.at_ (by omega)
  have hck:=hsq.len K.toNat (by omega)
  have hf:Hid (decide (M.depTo V L a n<=s)=false):=decide_eq_false fun hd=>by
   have:=hdi.out.1 hd
   rcases hbi.out with ⟨g1,_⟩ | ⟨j,hj,g1,_,g3,_⟩
   ·omega
   ·have ej:K.toNat=j:=by omega
    have h5:=this j hj
    rw [ej] at kb
    rw [M.need_iff] at h5
    omega
  go_wp2
  go_ret
  exact ⟨ya hf.out.symm,HW.out⟩
 ·have hgd:(K<0)\/(0<=K/\K<n/\¬ s<L K.toNat):=by omega
  have htail:Hid True:=trivial
  rcases hgd with hk | ⟨hk0,hk1,hk2⟩
  all_goals
   first
    | (have hck:=hsq.len K.toNat (by omega);obtain rfl:=hsq.at_ (by omega))
    | skip
   go_wp2_with fail
   go_loop [8] (fun i=>∃ m:Nat,m<=n/\i=J Z m/\Hid (∀ i,i<m->M.need V L a i<=s)) (fun i=>n-(intOf i).toNat)
   case atStart=>exact ⟨0,by omega,rfl,fun i hi=>by omega⟩
   case round =>
    obtain ⟨m,hm,rfl,hno⟩:=hrel
    by_cases hlt:m<n
    ·have hat:=hsq.at_ (by omega)
     first
      | (obtain rfl:=hat)
      | (clear hat)
     have hv:=hsq.val m hlt
     have hl:=hsq.len m hlt
     obtain ⟨l0,l1,v0,v1,_⟩:=M.isP_iff.1 (HP.out m hlt)
     have hVA:M.isA (V m)=true:=M.isA_iff.2 ⟨v0,v1⟩
     have hci:=M.cut_iff hVA hA s0 s1
     have HCI:Hid _:=hci
     clear hci
     by_cases hls:s<L m
     ·cases hy:decide (s<=M.sh (V m) a) with
      | true =>
       have hf:Hid (decide (M.depTo V L a n<=s)=false):=decide_eq_false fun hd=>by
        have:=hdi.out.1 hd m hlt
        rw [M.need_iff] at this
        exact this ⟨hls,of_decide_eq_true hy⟩
       have hcc:=HCI.out
       rw [hy] at hcc
       clear hy
       go_wp2_with fail
       refine (ZM _ _ _ v0 v1 s0 s1).mono ?_
       rintro e w' ⟨rfl,hww⟩
       subst w'
       go_wp2_with fail
       refine (ZM _ _ _ a0 a1 s0 s1).mono ?_
       rintro e w' ⟨rfl,hww⟩
       subst w'
       go_wp2_with fail
       go_ret
       exact ⟨ya hf.out.symm,HW.out⟩
      | false =>
       have HN:Hid (∀ i,i<m+1->M.need V L a i<=s):=fun i hi=>by
        by_cases him:i=m
        ·subst him;rw [M.need_iff];intro h;exact absurd h.2 (of_decide_eq_false hy)
        ·exact hno.out i (by omega)
       have hcc:=HCI.out
       rw [hy] at hcc
       clear hy
       go_wp2_with fail
       refine (ZM _ _ _ v0 v1 s0 s1).mono ?_
       rintro e w' ⟨rfl,hww⟩
       subst w'
       go_wp2_with fail
       refine (ZM _ _ _ a0 a1 s0 s1).mono ?_
       rintro e w' ⟨rfl,hww⟩
       subst w'
       go_wp2_with fail
       go_round
       case rel=>exact ⟨m+1,by omega,by go_num,HN⟩
       case measure=>simp [intOf];omega
     ·have HN:Hid (∀ i,i<m+1->M.need V L a i<=s):=fun i hi=>by
       by_cases him:i=m
       ·subst him;rw [M.need_iff];intro h;exact hls h.1
       ·exact hno.out i (by omega)
      go_wp2_with fail
      go_round
      case rel=>exact ⟨m+1,by omega,by go_num,HN⟩
      case measure=>simp [intOf];omega
    ·have hmn:m=n:=by omega
     subst hmn
     have hf:Hid (decide (M.depTo V L a m<=s)=true):=decide_eq_true (hdi.out.2 hno.out)
     go_wp2
     go_ret
     exact ⟨ya hf.out.symm,HW.out⟩
theorem Qr (ao:Option Addr) (b n c:Nat) (V L:Nat->Int) (a:Int) (w:World) (hA:M.isA a=true) (hn:n<=64) (hs:PS w ao b n V L) (hp:∀ i,i<n->M.isP (V i) (L i)=true) :
 Calls Tryz.prog 126 #[O ao n c,J Z a] w fun e w'=>e=.returned (.tuple #[J Z (M.bestTo V L a n),J Z (M.depTo V L a n)])/\∃ m,w'=w.drewN m:=by
 have HP:Hid _:=hp
 have dp:=M.depTo_pos (V:=V) (L:=L) (a:=a) (n:=n)
 have dl:=M.depTo_le (V:=V) (L:=L) (a:=a) (n:=n) (fun i hi=>by have:=M.isP_iff.1 (HP.out i hi);omega)
 generalize hD:M.depTo V L a n=D at *
 have HD:Hid _:=hD
 clear hp hD
 go_enter Tryz.func126,Tryz.ntmps126
 go_wp2
 go_loopw [6] (fun i wr=>∃ m:Nat,(m:Int)<=D/\i=J Z m/\∃ q,wr=w.drewN q) (fun i _=>D.toNat-(intOf i).toNat)
 case atStart=>exact ⟨0,by omega,rfl,0,rfl⟩
 case round =>
  obtain ⟨m,hm,rfl,HW⟩:=hrel
  have hs':PS wr ao b n V L:=by obtain ⟨q,e⟩:=HW;rw [e];exact hs.drewN q
  have HW':Hid _:=HW
  have hse:=jq ao b n c V L a m wr hA hn hs' HP.out (by omega) (by omega)
  rw [HD.out] at hse
  have HSE:Hid _:=hse
  clear HW hse
  by_cases hlt:(m:Int)<D
  ·have hd:decide (D<=(m:Int))=false:=decide_eq_false (by omega)
   go_wp2_with fail
   refine Calls.mono HSE.out ?_
   rintro e w1 ⟨rfl,q1,hq1⟩
   have HW1:Hid (∃ q,w1=w.drewN q):=by rw [hq1];exact Zk HW'.out _
   clear hq1
   go_wp2_with fail
   go_roundw
   case rel=>exact ⟨m+1,by omega,by go_num,HW1⟩
   case measure=>simp [intOf];omega
  ·have hd:decide (D<=(m:Int))=true:=decide_eq_true (by omega)
   have hme:Hid (D=m):=by show _=_;omega
   go_wp2_with fail
   refine Calls.mono HSE.out ?_
   rintro e w1 ⟨rfl,q1,hq1⟩
   have HW1:Hid (∃ q,w1=w.drewN q):=by rw [hq1];exact Zk HW'.out _
   have hs1:PS w1 ao b n V L:=by rw [hq1];exact hs'.drewN q1
   clear hq1
   go_wp2_with fail
   refine (X1 ao b n c V L a _ hA hn hs1 HP.out).mono ?_
   rintro e w2 ⟨rfl,q2,hq2⟩
   have HW2:Hid (∃ q,w2=w.drewN q):=by rw [hq2];exact Zk HW1.out _
   clear hq2
   go_wp2_with fail
   go_ret2
   exact ⟨zeD rfl hme.out.symm,HW2.out⟩
end Go.Proofs.YtaebngpoagjafaaGreat
