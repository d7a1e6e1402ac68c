import Derived.Test.YtaebngpoagjafabGreatV01
import Derived.Below
import Derived.BigQuiet
import Derived.ChangeOld
import Derived.Deep.OwnRows
import Derived.Deep.QuietTactic
import Derived.Deep.RegionWith
import Derived.Deep.Slices
import Derived.Laws.ResultCell
import Derived.Laws.StructEq
import Derived.Laws.Tables
import Derived.OpenShut
import Derived.ProofKit
import Derived.SizedLaws
import Derived.Test.YtaebngpoagjafabGreatRows
import Derived.WalkKit
import Derived.WalkLawsBesides
import Derived.WalkSpells
set_option maxRecDepth 100000
set_option maxHeartbeats 1000000
namespace Go.Proofs.YtaebngpoagjafabGreat
open Value renaming int → J
open IntKind renaming i64 → Z
open Go.RowKit
theorem xt {k:IntKind} {a b:Int} (h:a=b):Ending.returned (.int k a)=.returned (.int k b):=by rw [h]
theorem zaE (n:Int) (w:World) (h0:0<=n) (h1:n<=32) :
 Calls Tryz.prog 120 #[J Z n] w fun e w'=>e=.returned (J Z (M.p2 (32-n).toNat))/\w'=w:=by
 go_enter Tryz.func120,Tryz.ntmps120
 go_wp2
 go_loop [3,4] (fun k i=>∃ j:Nat,n+j<=32/\i=J Z (n+j)/\k=J Z (M.p2 j)) (fun _ i=>32-(intOf i).toNat)
 case atStart=>exact ⟨0,by omega,by simp,rfl⟩
 case round =>
  obtain ⟨j,hj,rfl,rfl⟩:=hrel
  have hb:=M.p2_le (j:=j) (by omega)
  have hp:=M.p2_pos j
  by_cases hlt:n+j<32
  ·go_wp2
   go_round
   case rel=>exact ⟨j+1,by omega,by go_num,rfl⟩
   case measure=>simp [intOf];omega
  ·go_wp2
   go_ret
   exact ⟨xt (by congr 1;omega),rfl⟩
theorem Y4 (n:Int) (w:World) :
 Calls Tryz.prog 44 #[J Z n] w fun e w'=>e=.returned (.bool (M.isA n))/\w'=w:=by
 by_cases h0:0<=n
 ·by_cases h1:n<4294967296
  ·have hr:M.isA n=true:=by simp [M.isA,h0,h1]
   rw [hr];clear hr
   go_enter Tryz.func44,Tryz.ntmps44
   go_wp2
   go_ret
   exact ⟨rfl,rfl⟩
  ·have hr:M.isA n=false:=by simp [M.isA,h1]
   rw [hr];clear hr
   go_enter Tryz.func44,Tryz.ntmps44
   go_wp2
   go_ret
   exact ⟨rfl,rfl⟩
 ·have hr:M.isA n=false:=by simp [M.isA,h0]
  rw [hr];clear hr
  go_enter Tryz.func44,Tryz.ntmps44
  go_wp2
  go_ret
  exact ⟨rfl,rfl⟩
theorem YY (n:Int) (w:World) :
 Calls Tryz.prog 55 #[J Z n] w fun e w'=>e=.returned (.bool (M.isA n))/\w'=w:=by
 by_cases h0:0<=n
 ·by_cases h1:n<4294967296
  ·have hr:M.isA n=true:=by simp [M.isA,h0,h1]
   rw [hr];clear hr
   go_enter Tryz.func55,Tryz.ntmps55
   go_wp2
   go_ret
   exact ⟨rfl,rfl⟩
  ·have hr:M.isA n=false:=by simp [M.isA,h1]
   rw [hr];clear hr
   go_enter Tryz.func55,Tryz.ntmps55
   go_wp2
   go_ret
   exact ⟨rfl,rfl⟩
 ·have hr:M.isA n=false:=by simp [M.isA,h0]
  rw [hr];clear hr
  go_enter Tryz.func55,Tryz.ntmps55
  go_wp2
  go_ret
  exact ⟨rfl,rfl⟩
theorem Ye (a b:Int) (w:World) (a0:0<=a) (a1:a<4294967296) (b0:0<=b) (b1:b<4294967296) :
 Calls Tryz.prog 146 #[J Z a,J Z b] w fun e w'=>e=.returned (J Z (M.sh a b))/\w'=w:=by
 go_enter Tryz.func146,Tryz.ntmps146
 go_wp2
 go_loop [0,1,5] (fun x y i=>∃ (p q:Int) (k:Nat),k<=32/\0<=p/\p<4294967296/\0<=q/\q<4294967296/\x=J Z p/\y=J Z q/\i=J Z k/\Hid (M.shN k p q=M.sh a b)) (fun _ _ i=>(intOf i).toNat)
 case atStart=>exact ⟨a,b,32,by omega,a0,a1,b0,b1,rfl,rfl,rfl,rfl⟩
 case round =>
  obtain ⟨p,q,k,hk,p0,p1,q0,q1,rfl,rfl,rfl,hs⟩:=hrel
  cases k with
  | zero =>
   go_wp2
   go_ret
   exact ⟨xt (by rw [<- hs.out];rfl),rfl⟩
  | succ k =>
   by_cases hpq:p=q
   ·subst hpq
    go_wp2
    go_ret
    exact ⟨xt (by rw [<- hs.out];simp [M.shN]),rfl⟩
   ·have hne:(p != q)=true:=by simpa using hpq
    have HS:Hid (M.shN k (p / 2) (q / 2)=M.sh a b):=by have h:=hs.out;simp only [M.shN,if_neg hpq] at h;exact h
    clear hs
    go_wp2
    go_round
    case rel=>exact ⟨p / 2,q / 2,k,by omega,by omega,by omega,by omega,by omega,rfl,rfl,by go_num,HS⟩
    case measure=>simp [intOf]
theorem M.wrap64_in (n:Int) (h:-9223372036854775808<=n/\n<=9223372036854775807):wrap64 n=n:=by unfold wrap64;omega
theorem yn {B:Nat} {a w:World} (h:Below B a w) (n:Nat):Below B a (w.drewN n):=⟨h.os,h.tape,h.output,h.size,h.block⟩
theorem qr (b:Bool) (v:Int) (w:World) (h:M.isA v=b):Calls Tryz.prog 44 #[J Z v] w fun e w'=>e=.returned (.bool b)/\w'=w:=by
 rw [<- h];exact Y4 v w
theorem xU (b:Bool) (v:Int) (w:World) (h:M.isA v=b):Calls Tryz.prog 55 #[J Z v] w fun e w'=>e=.returned (.bool b)/\w'=w:=by
 rw [<- h];exact YY v w
theorem YT (w:World) (o:Obj) (m:Nat):Below w.heap.size w ((w.alloc o).drewN m):=yn ((Below.refl _ _).alloc (Nat.le_refl _) _) m
theorem xE (v n:Int) (w:World) :
 Calls Tryz.prog 83 #[.agg #[J Z v,J Z n]] w fun e w'=>e=.returned (.bool (M.isP v n))/\Below w.heap.size w w':=by
 by_cases h0:0<=n
 ·by_cases h1:n<=32
  ·have hp:=M.p2_pos (32-n).toNat
   have hq:=M.p2_le (j:=(32-n).toNat) (by omega)
   cases hA:M.isA v with
   | true =>
    have hr:M.isP v n=(v%M.p2 (32-n).toNat==0):=by simp [M.isP,h0,h1,hA,BEq.beq]
    rw [hr];clear hr
    obtain ⟨v0,v1⟩:=M.isA_iff.1 hA
    go_enter Tryz.func83,Tryz.ntmps83
    go_wp2
    go_quiet ((first | (go_at_call 44;exact Calls.quiet_of_same (qr _ _ _ hA)) | (go_at_call 120;exact Calls.quiet_of_same (zaE _ _ h0 h1))))
    go_wp2
    go_ret
    exact ⟨rfl,YT _ _ _⟩
   | false =>
    have hr:M.isP v n=false:=by simp [M.isP,hA]
    rw [hr];clear hr
    go_enter Tryz.func83,Tryz.ntmps83
    go_wp2
    go_quiet ((go_at_call 44;exact Calls.quiet_of_same (qr _ _ _ hA)))
    go_wp2
    go_ret
    exact ⟨rfl,YT _ _ _⟩
  ·have hr:M.isP v n=false:=by simp [M.isP,h1]
   rw [hr];clear hr
   have hd:decide (n<=32)=false:=decide_eq_false h1
   go_enter Tryz.func83,Tryz.ntmps83
   go_wp2
   go_quiet (fail)
   go_wp2
   go_ret
   exact ⟨rfl,YT _ _ _⟩
 ·have hr:M.isP v n=false:=by simp [M.isP,h0]
  rw [hr];clear hr
  have hd:decide (0<=n)=false:=decide_eq_false h0
  go_enter Tryz.func83,Tryz.ntmps83
  go_wp2
  go_quiet (fail)
  go_wp2
  go_ret
  exact ⟨rfl,YT _ _ _⟩
theorem M.shifts (v n:Int) (h0:0<=n) (h1:n<=32) (hA:M.isA v=true):M.isP v n=(wrap64 (v / 2 ^ (32-n).toNat*2 ^ (32-n).toNat)==v):=by
 obtain ⟨v0,v1⟩:=M.isA_iff.1 hA
 rw [<- M.p2_eq]
 have hp:=M.p2_pos (32-n).toNat
 generalize hm:M.p2 (32-n).toNat=m at *
 have e:=Int.emod_add_mul_ediv v m
 have e2:=Int.mul_comm (v / m) m
 have a0:=Int.emod_nonneg v (b:=m) (by omega)
 have a1:0<=v / m:=Int.ediv_nonneg v0 (by omega)
 have a2:0<=m*(v / m):=Int.mul_nonneg (by omega) a1
 rw [M.wrap64_in _ (by omega)]
 have e3:(v%m=0)↔v / m*m=v:=by omega
 simp only [M.isP,hm,hA,h0,h1,decide_true,Bool.true_and]
 rw [Bool.eq_iff_iff];simp [e3]
theorem Yp (v n:Int) (w:World) :
 Calls Tryz.prog 121 #[.agg #[J Z v,J Z n]] w fun e w'=>e=.returned (.bool (M.isP v n))/\Below w.heap.size w w':=by
 by_cases h0:0<=n
 ·by_cases h1:n<=32
  ·have hp:=M.p2_pos (32-n).toNat
   have hq:=M.p2_le (j:=(32-n).toNat) (by omega)
   cases hA:M.isA v with
   | true =>
    obtain ⟨v0,v1⟩:=M.isA_iff.1 hA
    have hr:M.isP v n=(wrap64 (v / 2 ^ (32-n).toNat*2 ^ (32-n).toNat)==v):=M.shifts v n h0 h1 hA
    rw [hr];clear hr
    go_enter Tryz.func121,Tryz.ntmps121
    go_wp2
    go_quiet ((go_at_call 55;exact Calls.quiet_of_same (xU _ _ _ hA)))
    go_wp2
    go_ret
    exact ⟨rfl,YT _ _ _⟩
   | false =>
    have hr:M.isP v n=false:=by simp [M.isP,hA]
    rw [hr];clear hr
    go_enter Tryz.func121,Tryz.ntmps121
    go_wp2
    go_quiet ((go_at_call 55;exact Calls.quiet_of_same (xU _ _ _ hA)))
    go_wp2
    go_ret
    exact ⟨rfl,YT _ _ _⟩
  ·have hr:M.isP v n=false:=by simp [M.isP,h1]
   rw [hr];clear hr
   go_enter Tryz.func121,Tryz.ntmps121
   go_wp2
   go_ret
   exact ⟨rfl,(Below.refl _ _).alloc (Nat.le_refl _) _⟩
 ·have hr:M.isP v n=false:=by simp [M.isP,h0]
  rw [hr];clear hr
  go_enter Tryz.func121,Tryz.ntmps121
  go_wp2
  go_ret
  exact ⟨rfl,(Below.refl _ _).alloc (Nat.le_refl _) _⟩
structure PS (w:World) (ao:Option Addr) (b n:Nat) (V L:Nat->Int):Prop where
 at_:0<n->ao=some ⟨b,0,none⟩
 lt:0<n->b<w.heap.size
 val:∀ i,i<n->w.cell? ⟨b,i*2,none⟩=some (J Z (V i))
 len:∀ i,i<n->w.cell? ⟨b,i*2+1,none⟩=some (J Z (L i))
theorem PS.below {w w':World} {ao b n V L} (h:PS w ao b n V L) (hb:Below w.heap.size w w'):PS w' ao b n V L :=
 ⟨h.at_,fun hn=>Nat.lt_of_lt_of_le (h.lt hn) hb.size,fun i hi=>by rw [hb.cell (h.lt (by omega))];exact h.val i hi,fun i hi=>by rw [hb.cell (h.lt (by omega))];exact h.len i hi⟩
theorem PS.take {w:World} {ao b n V L} (h:PS w ao b n V L) {m:Nat} (hm:m<=n):PS w ao b m V L :=
 ⟨fun h0=>h.at_ (by omega),fun h0=>h.lt (by omega),fun i hi=>h.val i (by omega),fun i hi=>h.len i (by omega)⟩
theorem yj {a b:Bool} (h:a=b):Ending.returned (.bool a)=.returned (.bool b):=by rw [h]
theorem QW {w wr wx:World} {v m:Value} (hx:Below wr.heap.size wr wx) (hsz:w.heap.size<wr.heap.size) (hb:Below w.heap.size w wr)
 (c0:wr.cell? ⟨w.heap.size,0,none⟩=some v) (c1:wr.cell? ⟨w.heap.size,1,none⟩=some m) :
 wx.cell? ⟨w.heap.size,0,none⟩=some v/\wx.cell? ⟨w.heap.size,1,none⟩=some m/\w.heap.size<wx.heap.size/\Below w.heap.size w wx :=
 ⟨by rw [hx.cell hsz];exact c0,by rw [hx.cell hsz];exact c1,Nat.lt_of_lt_of_le hsz hx.size,hb.trans (hx.mono (Nat.le_of_lt hsz))⟩
theorem qu (ao:Option Addr) (b n c:Nat) (V L:Nat->Int) (v m:Int) (w:World) (hn:n<=64) (hs:PS w ao b n V L) :
 Calls Tryz.prog 122 #[.slice ao n c,.agg #[J Z v,J Z m]] w fun e w'=>e=.returned (.bool (M.inTo V L v m n))/\Below w.heap.size w w':=by
 go_enter Tryz.func122,Tryz.ntmps122
 go_wp2
 go_loopw [9] (fun i wr=>∃ k:Nat,k<=n/\i=J Z k/\M.inTo V L v m k=false/\wr.cell? ⟨w.heap.size,0,none⟩=some (J Z v)/\wr.cell? ⟨w.heap.size,1,none⟩=some (J Z m)/\w.heap.size<wr.heap.size/\Below w.heap.size w wr) (fun i _=>n-(intOf i).toNat)
 case atStart=>exact ⟨0,by omega,rfl,rfl,by simp,by simp,by simp,(Below.refl _ _).alloc (Nat.le_refl _) _⟩
 case round =>
  obtain ⟨k,hk,rfl,hf,c0,c1,hsz,hb⟩:=hrel
  by_cases hlt:k<n
  ·obtain rfl:=hs.at_ (by omega)
   have hv:=(hs.below hb).val k hlt
   have hl:=(hs.below hb).len k hlt
   have hbb:b<wr.heap.size:=(hs.below hb).lt (by omega)
   have hR:Hid (Below w.heap.size w wr):=hb
   clear hs hb
   cases e1:(V k==v) with
   | true =>
    cases e2:(L k==m) with
    | true =>
     have ht:Hid (M.inTo V L v m n=true):=M.inTo_hit hlt (by simpa using e1) (by simpa using e2)
     go_wp2
     go_ret
     exact ⟨yj ht.out.symm,hR.out.trans (Below.mono (B:=wr.heap.size) (by repeat (first | exact Below.refl _ _ | refine yn ?_ _ | refine Below.drew ?_ | refine Below.alloc ?_ (by simp) _ | refine Below.setCell ?_ (by simp) _)) (Nat.le_of_lt hsz))⟩
    | false =>
     have HF:Hid (M.inTo V L v m (k+1)=false):=by show _=_;simp [M.inTo,hf,e2]
     go_wp2
     go_roundw
     case rel=>exact ⟨k+1,by omega,by go_num,HF,QW (by repeat (first | exact Below.refl _ _ | refine yn ?_ _ | refine Below.drew ?_ | refine Below.alloc ?_ (by simp) _ | refine Below.setCell ?_ (by simp) _)) hsz hR.out c0 c1⟩
     case measure=>simp [intOf];omega
   | false =>
    have HF:Hid (M.inTo V L v m (k+1)=false):=by show _=_;simp [M.inTo,hf,e1]
    go_wp2
    go_roundw
    case rel=>exact ⟨k+1,by omega,by go_num,HF,QW (by repeat (first | exact Below.refl _ _ | refine yn ?_ _ | refine Below.drew ?_ | refine Below.alloc ?_ (by simp) _ | refine Below.setCell ?_ (by simp) _)) hsz hR.out c0 c1⟩
    case measure=>simp [intOf];omega
  ·have hkn:k=n:=by omega
   subst hkn
   go_wp2
   go_ret
   exact ⟨yj hf.symm,hb⟩
theorem Tryz.infoPrefix:(Tryz.prog.info? 94).map (fun i=>(i.zero,i.size,i.bytes))=some (some (.agg #[J Z 0,J Z 0]),2,16):=by kernel_rfl
def pc (V L:Nat->Int):Nat->List Value
 | 0=>[]
 | n+1=>pc V L n++[J Z (V n),J Z (L n)]
def tc (V L R:Nat->Int):Nat->List Value
 | 0=>[]
 | n+1=>tc V L R n++[J Z (V n),J Z (L n),J Z (R n)]
theorem XL (V L:Nat->Int) (n:Nat):(pc V L n).length=n*2:=by
 induction n with
 | zero=>rfl
 | succ n ih=>simp [pc,ih];omega
theorem za2 (V L:Nat->Int) {n i:Nat} (h:i<n):(pc V L n)[i*2]?=some (J Z (V i))/\(pc V L n)[i*2+1]?=some (J Z (L i)):=by
 induction n with
 | zero=>omega
 | succ n ih =>
  simp only [pc]
  by_cases hi:i=n
  ·subst hi
   rw [List.getElem?_append_right (by rw [XL];omega),List.getElem?_append_right (by rw [XL];omega),XL]
   simp
  ·have:=ih (by omega)
   rw [List.getElem?_append_left (by rw [XL];omega),List.getElem?_append_left (by rw [XL];omega)]
   exact this
structure TS (w:World) (ao:Option Addr) (b off n:Nat) (V L R:Nat->Int):Prop where
 at_:0<n->ao=some ⟨b,off,none⟩
 lt:0<n->b<w.heap.size
 val:∀ i,i<n->w.cell? ⟨b,off+i*3,none⟩=some (J Z (V i))
 len:∀ i,i<n->w.cell? ⟨b,off+i*3+1,none⟩=some (J Z (L i))
 reg:∀ i,i<n->w.cell? ⟨b,off+i*3+2,none⟩=some (J Z (R i))
theorem TS.below {w w':World} {ao b off n V L R} (h:TS w ao b off n V L R) (hb:Below w.heap.size w w'):TS w' ao b off n V L R :=
 ⟨h.at_,fun hn=>Nat.lt_of_lt_of_le (h.lt hn) hb.size,fun i hi=>by rw [hb.cell (h.lt (by omega))];exact h.val i hi,fun i hi=>by rw [hb.cell (h.lt (by omega))];exact h.len i hi,fun i hi=>by rw [hb.cell (h.lt (by omega))];exact h.reg i hi⟩
theorem Y3 {w:World} {base:Nat} {v:Value} {n:Nat} {V L:Nat->Int} (h:w.ownsRow base 94 2 v n (pc V L n)) :
 ∃ ao b c,v=.slice ao n c/\n<=c/\(n=0\/base<=b)/\PS w ao b n V L:=by
 have hh:=h
 rcases h.2 with ⟨rfl,rfl⟩ | ⟨g,cap,cur,rfl,hb,hg,hnc,_,_,_⟩
 ·exact ⟨none,0,0,rfl,Nat.le_refl _,.inl rfl,⟨fun h=>by omega,fun h=>by omega,fun i hi=>by omega,fun i hi=>by omega⟩⟩
 ·refine ⟨some ⟨g,0,none⟩,g,cap,rfl,hnc,.inr hb,⟨fun _=>rfl,fun _=>?_,fun i hi=>?_,fun i hi=>?_⟩⟩
  ·exact (hh.lt g rfl).2
  ·rw [hh.cellAt (i*2) (by omega)];exact (za2 V L hi).1
  ·rw [hh.cellAt (i*2+1) (by omega)];exact (za2 V L hi).2
theorem zdV (w:World) (x y:Value) (t:TypeId):∀ j u,([x,y]:List Value)[j]?=some u->(w.alloc (.cells #[x,y] t)).cell? ((⟨w.heap.size,0,none⟩:Addr).add j)=some u:=by
 intro j u hj
 match j,hj with
 | 0,hj=>simp at hj;subst hj;simp [Addr.add]
 | 1,hj=>simp at hj;subst hj;simp [Addr.add]
theorem qU (ao:Option Addr) (b off n c:Nat) (V L R:Nat->Int) (w:World) (hn:n*24<=140737488351232) (hs:TS w ao b off n V L R) :
 Calls Tryz.prog 42 #[.slice ao n c] w fun e w'=>(∃ v,e=.returned v/\w'.ownsRow w.heap.size 94 2 v n (pc V L n))/\Below w.heap.size w w':=by
 obtain ⟨i0,hi,hz0,hz1,hz2⟩:=info_parts Tryz.infoPrefix
 go_enter Tryz.func42,Tryz.ntmps42
 go_wp2
 go_loopw [3,4] (fun v i wr=>∃ k:Nat,k<=n/\i=J Z k/\wr.ownsRow w.heap.size 94 2 v k (pc V L k)/\Below w.heap.size w wr) (fun _ i _=>n-(intOf i).toNat)
 case atStart=>exact ⟨0,by omega,rfl,World.ownsRow_nil _ _ _ _,Below.refl _ _⟩
 case round =>
  obtain ⟨k,hk,rfl,hown,hb⟩:=hrel
  by_cases hlt:k<n
  ·obtain rfl:=hs.at_ (by omega)
   have hps:=hs.below hb
   have hv:=hps.val k hlt
   have hl:=hps.len k hlt
   have hbb:b<wr.heap.size:=hps.lt (by omega)
   have hsize:=hb.size
   clear hs hps
   go_wp2_with (at_builtin;refine wpList_append_own _ rfl _ _ 98 rfl w.heap.size 94 i0 (.agg #[J Z 0,J Z 0]) 2 16 Tryz.underlying98 hi hz0 hz1 hz2 rfl (by decide) _ _ _ rfl (hown.alloc _) ⟨wr.heap.size,0,none⟩ 1 1 [J Z (V k),J Z (L k)] rfl rfl (zdV _ _ _ _) (fun x hx=>by simp at hx;rcases hx with rfl | rfl<;>rfl) (by unfold maxLen;omega) (by omega) (by simp;omega) ?_;intro v' w1 hown1 hgrow1 _)
   have hx:Hid (Below w.heap.size w w1):=(hb.alloc hb.size _).grown hgrow1 (by simp;omega) (fun q hq=>(hown.lt q hq).1)
   go_roundw
   case rel=>exact ⟨k+1,by omega,by go_num,hown1,hx⟩
   case measure=>simp [intOf];omega
  ·have hkn:k=n:=by omega
   subst hkn
   go_wp2
   go_ret
   exact ⟨⟨_,rfl,hown⟩,hb⟩
def PT (w:World) (po:Option Addr) (b off n c:Nat) (V L R:Nat->Int):Prop:=(po=none/\n=0/\c=0)\/∃ ad,po=some ad/\TS w (some ad) b off n V L R
theorem PT.below {w w':World} {po b off n c V L R} (h:PT w po b off n c V L R) (hb:Below w.heap.size w w'):PT w' po b off n c V L R:=by
 rcases h with h | ⟨ad,h1,h2⟩
 ·exact .inl h
 ·exact .inr ⟨ad,h1,h2.below hb⟩
section
open Go.ChangeShapes Go.WideShapes Go.ChangeAt Go.RowKit
theorem own:ownKnob Tryz.prog.godebug=none:=by kernel_rfl
theorem Ja:laidOutB Tryz.prog=true:=by kernel_rfl
theorem XY:Tryz.prog.cellsOf 96=3:=by kernel_rfl
theorem QT:Tryz.prog.cellsOf 94=2:=by kernel_rfl
theorem XZ:Tryz.prog.cellsOf 3=1:=by kernel_rfl
theorem jK:Tryz.prog.cellsOf 31=6:=by kernel_rfl
theorem qx:Tryz.prog.cellsOf 25=1:=by kernel_rfl
theorem jL:Tryz.prog.cellsOf 28=1:=by kernel_rfl
theorem QU:Tryz.prog.cellsOf 29=1:=by kernel_rfl
theorem jM:Tryz.prog.bytesOf 96=24:=by kernel_rfl
theorem Zv {w:World} {a:Addr} {v:Value} (h:w.cell? a=some v):a.block<w.heap.size:=by
 by_cases hb:a.block<w.heap.size
 ·exact hb
 ·have:w.heap[a.block]?=none:=by simp;omega
  simp [World.cell?,this] at h
theorem Xx {H:Type} {P:Program} {e:TypeId} {l:List (DataW H)} {d:DataW H} (hd:d∈l) {n:Nat} (hn:n∈d.weights P e):n∈DataW.weightsAll P e l:=by
 induction l with
 | nil=>cases hd
 | cons x r ih =>
  simp only [DataW.weightsAll,List.mem_append]
  rcases List.mem_cons.1 hd with rfl | h
  ·exact .inl hn
  ·exact .inr (ih h)
section
variable {H:Type} {enc:TypeId×Value->H} {w:World} {base:Nat} {spare:Nat->Bool} {held:Bool}
theorem jp {n:Nat} {cs:List Value} {x:DataW H×List MemPlace} (h:DataW.trod enc Tryz.prog w base spare held n 96 cs=some x) :
 ∃ a b c:Int,cs=[J Z a,J Z b,J Z c]:=by
 obtain ⟨y0,y1,m,_,hlen,h0,h1⟩:=trod_struct2 Tryz.underlying96 h
 rw [XY] at hlen
 match cs,hlen with
 | [c0,c1,c2],_ =>
  obtain ⟨z0,z1,m',_,_,g0,g1⟩:=trod_struct2 Tryz.underlying94 h0
  obtain ⟨a,ea,_,_⟩:=DataW.trod_int Tryz.underlying3 g0
  obtain ⟨b,eb,_,_⟩:=DataW.trod_int Tryz.underlying3 g1
  obtain ⟨c,ec,_,_⟩:=DataW.trod_int Tryz.underlying3 h1
  simp [XZ,QT] at ea eb ec
  exact ⟨a,b,c,by rw [ea,eb,ec]⟩
theorem QD {fuel:Nat} {cs:List Value} {x:DataW H×List MemPlace} (h:DataW.trod enc Tryz.prog w base spare held fuel 29 cs=some x) :
 ∃ po len cap b off V L R,cs=[.slice po len cap]/\PT w po b off len cap V L R/\(x.1=.nil/\len=0\/∃ el sp,x.1=.slice el sp/\el.length=len):=by
 rcases Deep.open_slice Tryz.underlying29 h with ⟨hcs,hx⟩ | ⟨a,l,c,m,n,D,Pl,hcs,hb,hl,hm,hmm,hx,hel⟩
 ·exact ⟨none,0,0,0,0,fun _=>0,fun _=>0,fun _=>0,hcs,.inl ⟨rfl,rfl,rfl⟩,.inl ⟨by rw [hx],rfl⟩⟩
 ·have hlm:l<=m:=by rw [hmm];split<;>omega
  rw [XY] at hel
  obtain ⟨F,hF⟩:=Deep.choose_lt (α:=Int×Int×Int) (n:=l) (p:=fun i y=>∀ j,j<3->w.cell? ((a.add (i*3)).add j)=some (J Z (if j=0 then y.1 else if j=1 then y.2.1 else y.2.2))) (fun i hi=>by
   obtain ⟨cs',h1,h2⟩:=hel i (by omega)
   obtain ⟨x,y,z,rfl⟩:=jp h2
   obtain ⟨_,_,hc⟩:=World.cells?_some h1
   refine ⟨(x,y,z),fun j hj=>?_⟩
   rw [hc j hj]
   match j,hj with
   | 0,_=>rfl
   | 1,_=>rfl
   | 2,_=>rfl)
  obtain ⟨b,off,spot⟩:=a
  refine ⟨some ⟨b,off,spot⟩,l,c,b,off,fun i=>(F i).1,fun i=>(F i).2.1,fun i=>(F i).2.2,hcs,.inr ⟨_,rfl,?_⟩,.inr ⟨_,_,by rw [hx],by simp⟩⟩
  by_cases hl0:l=0
  ·subst hl0
   exact ⟨fun h=>by omega,fun h=>by omega,fun i hi=>by omega,fun i hi=>by omega,fun i hi=>by omega⟩
  ·have hc0:=hF 0 (by omega) 0 (by omega)
   have hspot:spot=none:=by simpa [Addr.add] using World.cell?_spot hc0
   subst hspot
   have hlt:b<w.heap.size:=by
    have:=hc0
    simp [Addr.add] at this
    exact Zv this
   refine ⟨fun _=>rfl,fun _=>hlt,fun i hi=>?_,fun i hi=>?_,fun i hi=>?_⟩
   ·have:=hF i hi 0 (by omega)
    rw [add_plain,add_plain] at this
    exact this
   ·have:=hF i hi 1 (by omega)
    rw [add_plain,add_plain] at this
    exact this
   ·have:=hF i hi 2 (by omega)
    rw [add_plain,add_plain] at this
    exact this
end
end
theorem M.step_best (V L:Nat->Int) (a:Int) (k:Nat) (x:Int) (h:x=if L k<=M.sh (V k) a/\M.bitsTo V L a k<L k then (k:Int) else M.bestTo V L a k):M.bestTo V L a (k+1)=x:=by rw [h];rfl
theorem M.step_bits (V L:Nat->Int) (a:Int) (k:Nat) (x:Int) (h:x=if L k<=M.sh (V k) a/\M.bitsTo V L a k<L k then L k else M.bitsTo V L a k):M.bitsTo V L a (k+1)=x:=by rw [h];rfl
theorem M.step_dep (V L:Nat->Int) (a:Int) (k:Nat) (x nd:Int) (hn:M.need V L a k=nd) (h:x=if M.depTo V L a k<nd then nd else M.depTo V L a k):M.depTo V L a (k+1)=x:=by rw [h,<- hn];rfl
theorem yN {a b:Int} (h:a=b):J Z b=J Z a:=by rw [h]
theorem Q6 (ao:Option Addr) (b n c:Nat) (V L:Nat->Int) (a:Int) (w:World) (a0:0<=a) (a1:a<4294967296) (hn:n<=64) (hs:PS w ao b n V L) (hp:∀ i,i<n->M.isP (V i) (L i)=true) :
 Calls Tryz.prog 114 #[.slice ao n c,J Z a] w fun e w'=>e=.returned (.tuple #[J Z (M.bestTo V L a n),J Z (M.depTo V L a n)])/\Below w.heap.size w w':=by
 go_enter Tryz.func114,Tryz.ntmps114
 go_wp2
 go_loopw [6,7,8,15] (fun x y z i wr=>∃ k:Nat,k<=n/\i=J Z k/\x=J Z (M.bestTo V L a k)/\y=J Z (M.bitsTo V L a k)/\z=J Z (M.depTo V L a k)/\Below w.heap.size w wr) (fun _ _ _ i _=>n-(intOf i).toNat)
 case atStart=>exact ⟨0,by omega,rfl,rfl,rfl,rfl,Below.refl _ _⟩
 case round =>
  obtain ⟨k,hk,rfl,rfl,rfl,rfl,hb⟩:=hrel
  by_cases hlt:k<n
  ·obtain rfl:=hs.at_ (by omega)
   have hps:=hs.below hb
   have hv:=hps.val k hlt
   have hl:=hps.len k hlt
   have hbb:b<wr.heap.size:=hps.lt (by omega)
   have hR:Hid (Below w.heap.size w wr):=hb
   obtain ⟨l0,l1,v0,v1,_⟩:=M.isP_iff.1 (hp k hlt)
   have hsl:=M.sh_le (V k) a
   clear hs hb hps hp
   by_cases hc:(M.sh (V k) a:Int)<L k
   ·have HN:Hid (M.need V L a k=M.sh (V k) a+1):=by show _=_;unfold M.need;rw [if_pos hc]
    by_cases hd:M.depTo V L a k<M.sh (V k) a+1
    all_goals
     go_wp2_with (go_at_call 146;refine (Ye _ _ _ v0 v1 a0 a1).mono ?_;rintro e w' ⟨rfl,rfl⟩)
     go_roundw
     case rel=>exact ⟨k+1,by omega,by go_num,yN (M.step_best _ _ _ _ _ (by rw [if_neg (by omega)])),yN (M.step_bits _ _ _ _ _ (by rw [if_neg (by omega)])),yN (M.step_dep _ _ _ _ _ _ HN.out (by split<;>omega)),hR.out.trans (Below.mono (B:=wr.heap.size) (by repeat (first | exact Below.refl _ _ | refine yn ?_ _ | refine Below.drew ?_ | refine Below.alloc ?_ (by simp) _ | refine Below.setCell ?_ (by simp) _)) hR.out.size)⟩
     case measure=>simp [intOf];omega
   ·have HN:Hid (M.need V L a k=L k):=by show _=_;unfold M.need;rw [if_neg hc]
    by_cases hd:M.depTo V L a k<L k
    all_goals
     by_cases hq:M.bitsTo V L a k<L k
     all_goals
      go_wp2_with (go_at_call 146;refine (Ye _ _ _ v0 v1 a0 a1).mono ?_;rintro e w' ⟨rfl,rfl⟩)
      go_roundw
      case rel=>exact ⟨k+1,by omega,by go_num,yN (M.step_best _ _ _ _ _ (by split<;>omega)),yN (M.step_bits _ _ _ _ _ (by split<;>omega)),yN (M.step_dep _ _ _ _ _ _ HN.out (by split<;>omega)),hR.out.trans (Below.mono (B:=wr.heap.size) (by repeat (first | exact Below.refl _ _ | refine yn ?_ _ | refine Below.drew ?_ | refine Below.alloc ?_ (by simp) _ | refine Below.setCell ?_ (by simp) _)) hR.out.size)⟩
      case measure=>simp [intOf];omega
  ·have hkn:k=n:=by omega
   subst hkn
   go_wp2
   go_ret2
   exact ⟨rfl,hb⟩
theorem PS.drew {w:World} {ao b n V L} (h:PS w ao b n V L):PS w.drew ao b n V L:=⟨h.at_,h.lt,h.val,h.len⟩
theorem zde {W w1:World} (hb:Below W.heap.size W w1):∀ b o,b<W.heap.size->w1.cell? ⟨b,o,none⟩=W.cell? ⟨b,o,none⟩:=fun b o h=>hb.cell (p:=⟨b,o,none⟩) h
theorem jU (ao:Option Addr) (b n c:Nat) (V L:Nat->Int) (w:World) (hn:n<=9223372036854775807) (hc:n<=c) (hs:PS w ao b n V L) :
 Calls Tryz.prog 84 #[.slice ao n c] w fun e w'=>e=.returned (.bool (M.isMap V L n))/\Below w.heap.size w w':=by
 by_cases h64:n<=64
 ·go_enter Tryz.func84,Tryz.ntmps84
  go_wp2
  go_loopw [10] (fun i wr=>∃ k:Nat,k<=n/\i=J Z k/\M.okTo V L k=true/\Below w.heap.size w wr) (fun i _=>n-(intOf i).toNat)
  case atStart=>exact ⟨0,by omega,rfl,rfl,Below.refl _ _⟩
  case round =>
   obtain ⟨k,hk,rfl,hf,hb⟩:=hrel
   by_cases hlt:k<n
   ·obtain rfl:=hs.at_ (by omega)
    have hps:=hs.below hb
    have hv:=hps.val k hlt
    have hl:=hps.len k hlt
    have hbb:b<wr.heap.size:=hps.lt (by omega)
    have hR:Hid (Below w.heap.size w wr):=hb
    have hT:PS wr (some ⟨b,0,none⟩) b k V L:=hps.take hk
    clear hs hb hps
    cases e1:M.isP (V k) (L k) with
    | false =>
     have ht:Hid (M.isMap V L n=false):=M.isMap_bad hlt (.inl e1)
     go_wp2_with fail
     refine (Yp _ _ _).mono ?_
     rintro e w1 ⟨rfl,hb1⟩
     have hx:Hid (Below w.heap.size w w1):=hR.out.trans ((((Below.refl _ _).alloc (Nat.le_refl _) _).trans (hb1.mono (by simp))).mono hR.out.size)
     clear hb1
     go_wp2_with fail
     go_ret
     exact ⟨yj ht.out.symm,hx.out⟩
    | true =>
     go_wp2_with fail
     refine (Yp _ _ _).mono ?_
     rintro e w1 ⟨rfl,hb1⟩
     have hT1:PS w1 (some ⟨b,0,none⟩) b k V L:=(hT.below ((Below.refl _ _).alloc (Nat.le_refl _) _)).below hb1
     have q0:=zde hb1 wr.heap.size 0 (by simp)
     have q1:=zde hb1 wr.heap.size 1 (by simp)
     have hx:Hid (Below w.heap.size w w1):=hR.out.trans ((((Below.refl _ _).alloc (Nat.le_refl _) _).trans (hb1.mono (by simp))).mono hR.out.size)
     simp at q0 q1
     clear hb1 hv hl
     cases e2:M.inTo V L (V k) (L k) k with
     | true =>
      have ht:Hid (M.isMap V L n=false):=M.isMap_bad hlt (.inr e2)
      go_wp2_with fail
      go_region_with (go_at_call 122;refine (qu _ b k c V L _ _ _ (by omega) (by exact hT1.drew)).mono ?_;rintro e w2 ⟨rfl,hb2⟩)
      all_goals
       go_wp2_with fail
       go_ret
       exact ⟨yj ht.out.symm,(hx.out.drew).trans (hb2.mono hx.out.size)⟩
     | false =>
      have HF:Hid (M.okTo V L (k+1)=true):=by show _=_;simp [M.okTo,hf,e1,e2]
      go_wp2_with fail
      go_region_with (go_at_call 122;refine (qu _ b k c V L _ _ _ (by omega) (by exact hT1.drew)).mono ?_;rintro e w2 ⟨rfl,hb2⟩)
      all_goals
       have hy:Hid (Below w.heap.size w w2):=(hx.out.drew).trans (hb2.mono hx.out.size)
       clear hb2 q0 q1
       go_wp2_with fail
       go_roundw
       case rel=>exact ⟨k+1,by omega,by go_num,HF,hy⟩
       case measure=>simp [intOf];omega
   ·have hkn:k=n:=by omega
    subst hkn
    have ht:Hid (M.isMap V L k=true):=by show _=_;simp [M.isMap,hf,h64]
    go_wp2
    go_ret
    exact ⟨yj ht.out.symm,hb⟩
 ·have ht:Hid (M.isMap V L n=false):=by show _=_;simp [M.isMap,h64]
  go_enter Tryz.func84,Tryz.ntmps84
  go_wp2
  go_ret
  exact ⟨yj ht.out.symm,Below.refl _ _⟩
theorem PS.drewN {w:World} {ao b n V L} (h:PS w ao b n V L) (m:Nat):PS (w.drewN m) ao b n V L:=⟨h.at_,h.lt,h.val,h.len⟩
theorem zby (a b c d:Int) (w:World):(Op.equalIn 10000 94 (.agg #[J Z a,J Z b]) (.agg #[J Z c,J Z d])).run Tryz.prog w=.ok (a==c && b==d) w:=by
 have u3:=Tryz.underlying3
 have hS:Tryz.prog.underlying 94=some (.struct (Tryz.prog.fieldsOf 94)):=by kernel_rfl
 have hp:Tryz.prog.stoodInHeld 94=false:=by kernel_rfl
 rw [show (10000:Nat)=9999+1 from rfl,run_equalIn_agg w 9999 94 _ _ hS hp]
 simp only [Program.fieldsOf,Tryz.underlying94]
 go_simp
 by_cases h1:a=c<;>by_cases h2:b=d<;>simp [h1,h2]
theorem jQ (ao:Option Addr) (b n c:Nat) (V L:Nat->Int) (w:World) (hn:n<=9223372036854775807) (hs:PS w ao b n V L) :
 Calls Tryz.prog 41 #[.slice ao n c] w fun e w'=>e=.returned (.bool (M.isMap V L n))/\Below w.heap.size w w':=by
 by_cases h64:n<=64
 ·go_enter Tryz.func41,Tryz.ntmps41
  go_wp2
  go_loopw [3] (fun i wr=>∃ k:Nat,k<=n/\i=J Z k/\M.okTo V L k=true/\Below w.heap.size w wr) (fun i _=>n-(intOf i).toNat)
  case atStart=>exact ⟨0,by omega,rfl,rfl,Below.refl _ _⟩
  case round =>
   obtain ⟨k,hk,rfl,hf,hb⟩:=hrel
   by_cases hlt:k<n
   ·obtain rfl:=hs.at_ (by omega)
    have hps:=hs.below hb
    have hv:=hps.val k hlt
    have hl:=hps.len k hlt
    have hbb:b<wr.heap.size:=hps.lt (by omega)
    have hR:Hid (Below w.heap.size w wr):=hb
    have hT:PS wr (some ⟨b,0,none⟩) b n V L:=hps
    clear hs hb hps
    cases e1:M.isP (V k) (L k) with
    | false =>
     have ht:Hid (M.isMap V L n=false):=M.isMap_bad hlt (.inl e1)
     go_wp2_with fail
     refine (xE _ _ _).mono ?_
     rintro e w1 ⟨rfl,hb1⟩
     have hx:Hid (Below w.heap.size w w1):=hR.out.trans (hb1.mono hR.out.size)
     clear hb1
     go_wp2_with fail
     go_ret
     exact ⟨yj ht.out.symm,hx.out⟩
    | true =>
     go_wp2_with fail
     refine (xE _ _ _).mono ?_
     rintro e w1 ⟨rfl,hb1⟩
     have hT1:PS w1 (some ⟨b,0,none⟩) b n V L:=hT.below hb1
     have hx:Hid (Below w.heap.size w w1):=hR.out.trans (hb1.mono hR.out.size)
     clear hb1 hv hl hT
     go_wp2_with fail
     go_loopw [5] (fun j wq=>∃ i:Nat,i<=k/\j=J Z i/\M.inTo V L (V k) (L k) i=false/\PS wq (some ⟨b,0,none⟩) b n V L/\Below w.heap.size w wq) (fun j _=>k-(intOf j).toNat)
     case atStart=>exact ⟨0,by omega,rfl,rfl,hT1,hx⟩
     case round =>
      obtain ⟨i,hi,rfl,hg,hTq,hbq⟩:=hrel
      clear hT1 hx
      by_cases hil:i<k
      ·have hvk:=hTq.val k hlt
       have hlk:=hTq.len k hlt
       have hvi:=hTq.val i (by omega)
       have hli:=hTq.len i (by omega)
       have kn:(k:Int)<n:=by omega
       have iN:(i:Int)<n:=by omega
       have heq:=fun w=>zby (V k) (L k) (V i) (L i) w
       cases e3:(V k==V i && L k==L i) with
       | true =>
        rw [e3] at heq
        have ht:Hid (M.isMap V L n=false):=M.isMap_bad hlt (.inr (M.inTo_hit hil (by simp at e3;exact e3.1.symm) (by simp at e3;exact e3.2.symm)))
        clear e3
        go_wp2_with fail
        go_quiet (fail)
        go_wp2_with fail
        go_ret
        exact ⟨yj ht.out.symm,yn hbq _⟩
       | false =>
        rw [e3] at heq
        have HF:Hid (M.inTo V L (V k) (L k) (i+1)=false):=by
         have hq:(V i==V k && L i==L k)=false:=by rw [<- e3,Bool.beq_comm (a:=V i),Bool.beq_comm (a:=L i)]
         show _=_;simp only [M.inTo,hg,hq,Bool.or_false]
        clear e3
        go_wp2_with fail
        go_quiet (fail)
        go_wp2_with fail
        go_roundw
        case rel=>exact ⟨i+1,by omega,by go_num,HF,hTq.drewN _,yn hbq _⟩
        case measure=>simp [intOf];omega
      ·have hik:i=k:=by omega
       subst hik
       have HF:Hid (M.okTo V L (i+1)=true):=by show _=_;simp [M.okTo,hf,e1,hg]
       go_wp2_with fail
       go_roundw
       case rel=>exact ⟨i+1,by omega,by go_num,HF,hbq⟩
       case measure=>simp [intOf];omega
   ·have hkn:k=n:=by omega
    subst hkn
    have ht:Hid (M.isMap V L k=true):=by show _=_;simp [M.isMap,hf,h64]
    go_wp2
    go_ret
    exact ⟨yj ht.out.symm,hb⟩
 ·have ht:Hid (M.isMap V L n=false):=by show _=_;simp [M.isMap,h64]
  go_enter Tryz.func41,Tryz.ntmps41
  go_wp2
  go_ret
  exact ⟨yj ht.out.symm,Below.refl _ _⟩
def yZ (R:Nat->Int):Nat->Bool
 | 0=>true
 | n+1=>yZ R n && (decide (0<=R n) && decide (R n<=99))
theorem JN {R:Nat->Int} {n:Nat}:yZ R n=true↔∀ k,k<n->0<=R k/\R k<=99:=by
 induction n with
 | zero=>simp [yZ]
 | succ n ih =>
  simp only [yZ,Bool.and_eq_true,ih,decide_eq_true_eq]
  constructor
  ·rintro ⟨h,h1⟩ k hk
   by_cases hi:k=n
   ·subst hi;exact h1
   ·exact h k (by omega)
  ·intro h
   exact ⟨fun k hk=>h k (by omega),h n (by omega)⟩
theorem xY {R:Nat->Int} {n k:Nat} (hk:k<n) (h:¬ (0<=R k/\R k<=99)):yZ R n=false:=by
 rw [Bool.eq_false_iff]
 intro hm
 exact h (JN.1 hm k hk)
theorem jT (ao:Option Addr) (b off n c:Nat) (V L R:Nat->Int) (w:World) (hn:n*24<=140737488351232) (hs:TS w ao b off n V L R) :
 Calls Tryz.prog 19 #[.slice ao n c] w fun e w'=>e=.returned (.bool (yZ R n && M.isMap V L n))/\Below w.heap.size w w':=by
 go_enter Tryz.func19,Tryz.ntmps19
 go_wp2
 go_loop [3] (fun i=>∃ k:Nat,k<=n/\i=J Z k/\yZ R k=true) (fun i=>n-(intOf i).toNat)
 case atStart=>exact ⟨0,by omega,rfl,rfl⟩
 case round =>
  obtain ⟨k,hk,rfl,hf⟩:=hrel
  by_cases hlt:k<n
  ·obtain rfl:=hs.at_ (by omega)
   have hv:=hs.reg k hlt
   have hbb:b<w.heap.size:=hs.lt (by omega)
   clear hs
   by_cases h1:R k<0
   ·have ht:Hid ((yZ R n && M.isMap V L n)=false):=by show _=_;rw [xY hlt (by omega)];rfl
    go_wp2
    go_ret
    exact ⟨yj ht.out.symm,Below.refl _ _⟩
   ·by_cases h2:99<R k
    ·have ht:Hid ((yZ R n && M.isMap V L n)=false):=by show _=_;rw [xY hlt (by omega)];rfl
     go_wp2
     go_ret
     exact ⟨yj ht.out.symm,Below.refl _ _⟩
    ·have HF:Hid (yZ R (k+1)=true):=by
      have g1:0<=R k:=by omega
      have g2:R k<=99:=by omega
      show _=_;simp [yZ,hf,g1,g2]
     go_wp2
     go_round
     case rel=>exact ⟨k+1,by omega,by go_num,HF⟩
     case measure=>simp [intOf];omega
  ·have hkn:k=n:=by omega
   subst hkn
   have ht:Hid ((yZ R k && M.isMap V L k)=M.isMap V L k):=by show _=_;rw [hf];rfl
   go_wp2_with fail
   refine (qU _ b off _ _ V L R _ hn hs).mono ?_
   rintro e w1 ⟨⟨v,rfl,hown⟩,hb1⟩
   obtain ⟨ao',b',c',rfl,hc',_,hps⟩:=Y3 hown
   clear hown
   go_wp2_with fail
   refine (jQ _ b' _ _ V L _ (by omega) hps).mono ?_
   rintro e w2 ⟨rfl,hb2⟩
   go_wp2_with fail
   go_ret
   exact ⟨yj ht.out.symm,hb1.trans (hb2.mono hb1.size)⟩
end Go.Proofs.YtaebngpoagjafabGreat
