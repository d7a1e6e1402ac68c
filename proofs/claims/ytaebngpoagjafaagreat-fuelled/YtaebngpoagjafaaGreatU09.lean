/-
  OUR OWN.
-/
import Derived.Test.YtaebngpoagjafaaGreatU08
set_option maxRecDepth 100000
namespace Go.Proofs.YtaebngpoagjafaaGreat
open Go.RowKit
attribute [local go_sem ↓] Go.wp_at_zero Go.wp_at_succ
set_option maxHeartbeats 6400000 in
theorem step_letter_lo (base B:Nat) (s:ByteArray) (k p:Nat) (c kd d l:Int) (sv gv:Value) (fs:List FR) (gs:List SG) (w:World) (h:RS w base B s k sv gv fs gs) (hs:s.size<=2000) (hk:k<=s.size) (hpe:T.sk s k=p) (hc:T.ch s p=c)
   (_hlen:fs.length+7<=1099511627776) (_hlen2:gs.length+1<=1099511627776) (hc2:c<97) :
   Calls Tryz.prog 134 #[.pointer (some ⟨B,0,none⟩),frA ⟨263,kd,d,l⟩] w (SP base B s sv gv fs gs w ⟨false,p,[],[]⟩):=by
 show Calls Tryz.prog 134 #[.pointer (some ⟨B,0,none⟩),.agg #[.int .i64 263,.int .i64 kd,.int .i64 d,.int .i64 l]] w _
 have hpk:p<=s.size:=by rw [<- hpe];exact T.sk_le hk
 have hpee:=fun (wz:World) (hz:RS wz base B s k sv gv fs gs)=>peek_any base B s k sv gv fs gs wz hs hk hz
 rw [hpe,hc] at hpee
 have HPE:Hid (∀ (wz:World),RS wz base B s k sv gv fs gs->Calls Tryz.prog 135 #[.pointer (some ⟨B,0,none⟩)] wz fun e w'=>e=.returned (.int .i64 c)/\RS w' base B s p sv gv fs gs/\Mv base B sv gv sv gv wz w'):=hpee
 clear hpee
 go_enter Tryz.func134,Tryz.ntmps134
 go_wp2_with fail
 have hA:=h.alloc (.cells #[.int .i64 263,.int .i64 kd,.int .i64 d,.int .i64 l] 187)
 have hF:FB (w.alloc (.cells #[.int .i64 263,.int .i64 kd,.int .i64 d,.int .i64 l] 187)) w.heap.size ⟨263,kd,d,l⟩:=⟨by simp,by simp,by simp,by simp⟩
 have hou:=h.outNew
 have hwl:w.heap.size<(w.alloc (.cells #[.int .i64 263,.int .i64 kd,.int .i64 d,.int .i64 l] 187)).heap.size:=by simp
 have hmv:Mv base B sv gv sv gv w (w.alloc (.cells #[.int .i64 263,.int .i64 kd,.int .i64 d,.int .i64 l] 187)):=Mv.alloc h.bs _
 refine (HPE.out _ hA).mono ?_
 rintro e w1 ⟨rfl,hr1,hm1⟩
 have hk1:=hm1.kept w.heap.size hwl hou
 have hF1:=hF.of_block hk1.1
 have hwl1:w.heap.size<w1.heap.size:=Nat.lt_of_lt_of_le hwl hm1.bel.size
 have HM1:Hid (Mv base B sv gv sv gv w w1):=hmv.trans hm1
 have HR1:Hid (RS w1 base B s p sv gv fs gs):=hr1
 have HF1:Hid (FB w1 w.heap.size ⟨263,kd,d,l⟩):=hF1
 have b0:w1.cell? ⟨w.heap.size,0,none⟩=some (.int .i64 263):=hF1.c0
 clear hmv hm1 hA hF hwl hr1 hk1 h hF1
 go_wp2_with fail
 go_ret
 exact ⟨rfl,sv,gv,HR1.out,HM1.out⟩
set_option maxHeartbeats 6400000 in
theorem step_letter_hi (base B:Nat) (s:ByteArray) (k p:Nat) (c kd d l:Int) (sv gv:Value) (fs:List FR) (gs:List SG) (w:World) (h:RS w base B s k sv gv fs gs) (hs:s.size<=2000) (hk:k<=s.size) (hpe:T.sk s k=p) (hc:T.ch s p=c)
   (_hlen:fs.length+7<=1099511627776) (_hlen2:gs.length+1<=1099511627776) (hc2:122<c) :
   Calls Tryz.prog 134 #[.pointer (some ⟨B,0,none⟩),frA ⟨263,kd,d,l⟩] w (SP base B s sv gv fs gs w ⟨false,p,[],[]⟩):=by
 show Calls Tryz.prog 134 #[.pointer (some ⟨B,0,none⟩),.agg #[.int .i64 263,.int .i64 kd,.int .i64 d,.int .i64 l]] w _
 have hpk:p<=s.size:=by rw [<- hpe];exact T.sk_le hk
 have hpee:=fun (wz:World) (hz:RS wz base B s k sv gv fs gs)=>peek_any base B s k sv gv fs gs wz hs hk hz
 rw [hpe,hc] at hpee
 have HPE:Hid (∀ (wz:World),RS wz base B s k sv gv fs gs->Calls Tryz.prog 135 #[.pointer (some ⟨B,0,none⟩)] wz fun e w'=>e=.returned (.int .i64 c)/\RS w' base B s p sv gv fs gs/\Mv base B sv gv sv gv wz w'):=hpee
 clear hpee
 go_enter Tryz.func134,Tryz.ntmps134
 go_wp2_with fail
 have hA:=h.alloc (.cells #[.int .i64 263,.int .i64 kd,.int .i64 d,.int .i64 l] 187)
 have hF:FB (w.alloc (.cells #[.int .i64 263,.int .i64 kd,.int .i64 d,.int .i64 l] 187)) w.heap.size ⟨263,kd,d,l⟩:=⟨by simp,by simp,by simp,by simp⟩
 have hou:=h.outNew
 have hwl:w.heap.size<(w.alloc (.cells #[.int .i64 263,.int .i64 kd,.int .i64 d,.int .i64 l] 187)).heap.size:=by simp
 have hmv:Mv base B sv gv sv gv w (w.alloc (.cells #[.int .i64 263,.int .i64 kd,.int .i64 d,.int .i64 l] 187)):=Mv.alloc h.bs _
 refine (HPE.out _ hA).mono ?_
 rintro e w1 ⟨rfl,hr1,hm1⟩
 have hk1:=hm1.kept w.heap.size hwl hou
 have hF1:=hF.of_block hk1.1
 have hwl1:w.heap.size<w1.heap.size:=Nat.lt_of_lt_of_le hwl hm1.bel.size
 have HM1:Hid (Mv base B sv gv sv gv w w1):=hmv.trans hm1
 have HR1:Hid (RS w1 base B s p sv gv fs gs):=hr1
 have HF1:Hid (FB w1 w.heap.size ⟨263,kd,d,l⟩):=hF1
 have b0:w1.cell? ⟨w.heap.size,0,none⟩=some (.int .i64 263):=hF1.c0
 clear hmv hm1 hA hF hwl hr1 hk1 h hF1
 have hc3:¬ c<97:=by omega
 go_wp2_with fail
 go_ret
 exact ⟨rfl,sv,gv,HR1.out,HM1.out⟩
set_option maxHeartbeats 6400000 in
theorem step_byte_no (base B:Nat) (s:ByteArray) (k p:Nat) (c kd d l:Int) (sv gv:Value) (fs:List FR) (gs:List SG) (w:World) (h:RS w base B s k sv gv fs gs) (hs:s.size<=2000) (hk:k<=s.size) (hpe:T.sk s k=p) (hc:T.ch s p=c)
   (_hlen:fs.length+7<=1099511627776) (_hlen2:gs.length+1<=1099511627776) (sy:Int) (hn:sy≠256/\sy≠257/\sy≠258/\sy≠259/\sy≠260/\sy≠261/\sy≠262/\sy≠263) (hc2:c≠sy) :
   Calls Tryz.prog 134 #[.pointer (some ⟨B,0,none⟩),frA ⟨sy,kd,d,l⟩] w (SP base B s sv gv fs gs w ⟨false,p,[],[]⟩):=by
 show Calls Tryz.prog 134 #[.pointer (some ⟨B,0,none⟩),.agg #[.int .i64 sy,.int .i64 kd,.int .i64 d,.int .i64 l]] w _
 have hpk:p<=s.size:=by rw [<- hpe];exact T.sk_le hk
 have hpee:=fun (wz:World) (hz:RS wz base B s k sv gv fs gs)=>peek_any base B s k sv gv fs gs wz hs hk hz
 rw [hpe,hc] at hpee
 have HPE:Hid (∀ (wz:World),RS wz base B s k sv gv fs gs->Calls Tryz.prog 135 #[.pointer (some ⟨B,0,none⟩)] wz fun e w'=>e=.returned (.int .i64 c)/\RS w' base B s p sv gv fs gs/\Mv base B sv gv sv gv wz w'):=hpee
 have n0:(sy==256)=false:=beq_eq_false_iff_ne.2 hn.1
 have n1:(sy==257)=false:=beq_eq_false_iff_ne.2 hn.2.1
 have n2:(sy==258)=false:=beq_eq_false_iff_ne.2 hn.2.2.1
 have n3:(sy==259)=false:=beq_eq_false_iff_ne.2 hn.2.2.2.1
 have n4:(sy==260)=false:=beq_eq_false_iff_ne.2 hn.2.2.2.2.1
 have n5:(sy==261)=false:=beq_eq_false_iff_ne.2 hn.2.2.2.2.2.1
 have n6:(sy==262)=false:=beq_eq_false_iff_ne.2 hn.2.2.2.2.2.2.1
 have n7:(sy==263)=false:=beq_eq_false_iff_ne.2 hn.2.2.2.2.2.2.2
 clear hpee
 go_enter Tryz.func134,Tryz.ntmps134
 go_wp2_with fail
 have hA:=h.alloc (.cells #[.int .i64 sy,.int .i64 kd,.int .i64 d,.int .i64 l] 187)
 have hF:FB (w.alloc (.cells #[.int .i64 sy,.int .i64 kd,.int .i64 d,.int .i64 l] 187)) w.heap.size ⟨sy,kd,d,l⟩:=⟨by simp,by simp,by simp,by simp⟩
 have hou:=h.outNew
 have hwl:w.heap.size<(w.alloc (.cells #[.int .i64 sy,.int .i64 kd,.int .i64 d,.int .i64 l] 187)).heap.size:=by simp
 have hmv:Mv base B sv gv sv gv w (w.alloc (.cells #[.int .i64 sy,.int .i64 kd,.int .i64 d,.int .i64 l] 187)):=Mv.alloc h.bs _
 refine (HPE.out _ hA).mono ?_
 rintro e w1 ⟨rfl,hr1,hm1⟩
 have hk1:=hm1.kept w.heap.size hwl hou
 have hF1:=hF.of_block hk1.1
 have hwl1:w.heap.size<w1.heap.size:=Nat.lt_of_lt_of_le hwl hm1.bel.size
 have HM1:Hid (Mv base B sv gv sv gv w w1):=hmv.trans hm1
 have HR1:Hid (RS w1 base B s p sv gv fs gs):=hr1
 have HF1:Hid (FB w1 w.heap.size ⟨sy,kd,d,l⟩):=hF1
 have b0:w1.cell? ⟨w.heap.size,0,none⟩=some (.int .i64 sy):=hF1.c0
 clear hmv hm1 hA hF hwl hr1 hk1 h hF1
 have hcc:(c==sy)=false:=by rw [beq_eq_false_iff_ne];exact hc2
 have hcc2:(c != sy)=true:=by simp [bne,hcc]
 go_wp2_with fail
 go_ret
 exact ⟨rfl,sv,gv,HR1.out,HM1.out⟩
set_option maxHeartbeats 6400000 in
theorem step_byte (base B:Nat) (s:ByteArray) (k p:Nat) (c kd d l:Int) (sv gv:Value) (fs:List FR) (gs:List SG) (w:World) (h:RS w base B s k sv gv fs gs) (hs:s.size<=2000) (hk:k<=s.size) (hpe:T.sk s k=p) (hc:T.ch s p=c)
   (_hlen:fs.length+7<=1099511627776) (_hlen2:gs.length+1<=1099511627776) (sy:Int) (hn:sy≠256/\sy≠257/\sy≠258/\sy≠259/\sy≠260/\sy≠261/\sy≠262/\sy≠263) (hc2:c=sy) (hp1:p<s.size) :
   Calls Tryz.prog 134 #[.pointer (some ⟨B,0,none⟩),frA ⟨sy,kd,d,l⟩] w (SP base B s sv gv fs gs w ⟨true,p+1,[],[]⟩):=by
 show Calls Tryz.prog 134 #[.pointer (some ⟨B,0,none⟩),.agg #[.int .i64 sy,.int .i64 kd,.int .i64 d,.int .i64 l]] w _
 have hpk:p<=s.size:=by rw [<- hpe];exact T.sk_le hk
 have hpee:=fun (wz:World) (hz:RS wz base B s k sv gv fs gs)=>peek_any base B s k sv gv fs gs wz hs hk hz
 rw [hpe,hc] at hpee
 have HPE:Hid (∀ (wz:World),RS wz base B s k sv gv fs gs->Calls Tryz.prog 135 #[.pointer (some ⟨B,0,none⟩)] wz fun e w'=>e=.returned (.int .i64 c)/\RS w' base B s p sv gv fs gs/\Mv base B sv gv sv gv wz w'):=hpee
 have n0:(sy==256)=false:=beq_eq_false_iff_ne.2 hn.1
 have n1:(sy==257)=false:=beq_eq_false_iff_ne.2 hn.2.1
 have n2:(sy==258)=false:=beq_eq_false_iff_ne.2 hn.2.2.1
 have n3:(sy==259)=false:=beq_eq_false_iff_ne.2 hn.2.2.2.1
 have n4:(sy==260)=false:=beq_eq_false_iff_ne.2 hn.2.2.2.2.1
 have n5:(sy==261)=false:=beq_eq_false_iff_ne.2 hn.2.2.2.2.2.1
 have n6:(sy==262)=false:=beq_eq_false_iff_ne.2 hn.2.2.2.2.2.2.1
 have n7:(sy==263)=false:=beq_eq_false_iff_ne.2 hn.2.2.2.2.2.2.2
 clear hpee
 go_enter Tryz.func134,Tryz.ntmps134
 go_wp2_with fail
 have hA:=h.alloc (.cells #[.int .i64 sy,.int .i64 kd,.int .i64 d,.int .i64 l] 187)
 have hF:FB (w.alloc (.cells #[.int .i64 sy,.int .i64 kd,.int .i64 d,.int .i64 l] 187)) w.heap.size ⟨sy,kd,d,l⟩:=⟨by simp,by simp,by simp,by simp⟩
 have hou:=h.outNew
 have hwl:w.heap.size<(w.alloc (.cells #[.int .i64 sy,.int .i64 kd,.int .i64 d,.int .i64 l] 187)).heap.size:=by simp
 have hmv:Mv base B sv gv sv gv w (w.alloc (.cells #[.int .i64 sy,.int .i64 kd,.int .i64 d,.int .i64 l] 187)):=Mv.alloc h.bs _
 refine (HPE.out _ hA).mono ?_
 rintro e w1 ⟨rfl,hr1,hm1⟩
 have hk1:=hm1.kept w.heap.size hwl hou
 have hF1:=hF.of_block hk1.1
 have hwl1:w.heap.size<w1.heap.size:=Nat.lt_of_lt_of_le hwl hm1.bel.size
 have HM1:Hid (Mv base B sv gv sv gv w w1):=hmv.trans hm1
 have HR1:Hid (RS w1 base B s p sv gv fs gs):=hr1
 have HF1:Hid (FB w1 w.heap.size ⟨sy,kd,d,l⟩):=hF1
 have b0:w1.cell? ⟨w.heap.size,0,none⟩=some (.int .i64 sy):=hF1.c0
 clear hmv hm1 hA hF hwl hr1 hk1 h hF1
 have hcc:(c==sy)=true:=by rw [beq_iff_eq];exact hc2
 have hcc2:(c != sy)=false:=by simp [bne,hcc]
 have c1:=HR1.out.c1
 have z1:=HR1.out.fz 1
 have hp2:(p:Int)<2000:=by omega
 go_wp2_with fail
 go_ret
 exact ⟨rfl,sv,gv,HR1.out.at (p+1) _ (by omega),HM1.out.trans (HR1.out.atMv _)⟩
end Go.Proofs.YtaebngpoagjafaaGreat
namespace Go.Proofs.YtaebngpoagjafaaGreat
open Go.RowKit
attribute [local go_sem ↓] Go.wp_at_zero Go.wp_at_succ
set_option maxHeartbeats 6400000 in
theorem step_letter (base B:Nat) (s:ByteArray) (k p:Nat) (c kd d l:Int) (sv gv:Value) (fs:List FR) (gs:List SG) (w:World) (h:RS w base B s k sv gv fs gs) (hs:s.size<=2000) (hk:k<=s.size) (hpe:T.sk s k=p) (hc:T.ch s p=c)
   (_hlen:fs.length+7<=1099511627776) (_hlen2:gs.length+1<=1099511627776) (hc2:97<=c) (hc3:c<=122) (hp1:p<s.size) :
   Calls Tryz.prog 134 #[.pointer (some ⟨B,0,none⟩),frA ⟨263,kd,d,l⟩] w (SP base B s sv gv fs gs w ⟨true,p+1,[],[⟨kd,p,d,l,s.extract p (p+1)⟩]⟩):=by
 show Calls Tryz.prog 134 #[.pointer (some ⟨B,0,none⟩),.agg #[.int .i64 263,.int .i64 kd,.int .i64 d,.int .i64 l]] w _
 have hpk:p<=s.size:=by rw [<- hpe];exact T.sk_le hk
 have hpee:=fun (wz:World) (hz:RS wz base B s k sv gv fs gs)=>peek_any base B s k sv gv fs gs wz hs hk hz
 rw [hpe,hc] at hpee
 have HPE:Hid (∀ (wz:World),RS wz base B s k sv gv fs gs->Calls Tryz.prog 135 #[.pointer (some ⟨B,0,none⟩)] wz fun e w'=>e=.returned (.int .i64 c)/\RS w' base B s p sv gv fs gs/\Mv base B sv gv sv gv wz w'):=hpee
 clear hpee
 go_enter Tryz.func134,Tryz.ntmps134
 go_wp2_with fail
 have hA:=h.alloc (.cells #[.int .i64 263,.int .i64 kd,.int .i64 d,.int .i64 l] 187)
 have hF:FB (w.alloc (.cells #[.int .i64 263,.int .i64 kd,.int .i64 d,.int .i64 l] 187)) w.heap.size ⟨263,kd,d,l⟩:=⟨by simp,by simp,by simp,by simp⟩
 have hou:=h.outNew
 have hwl:w.heap.size<(w.alloc (.cells #[.int .i64 263,.int .i64 kd,.int .i64 d,.int .i64 l] 187)).heap.size:=by simp
 have hmv:Mv base B sv gv sv gv w (w.alloc (.cells #[.int .i64 263,.int .i64 kd,.int .i64 d,.int .i64 l] 187)):=Mv.alloc h.bs _
 refine (HPE.out _ hA).mono ?_
 rintro e w1 ⟨rfl,hr1,hm1⟩
 have hk1:=hm1.kept w.heap.size hwl hou
 have hF1:=hF.of_block hk1.1
 have hwl1:w.heap.size<w1.heap.size:=Nat.lt_of_lt_of_le hwl hm1.bel.size
 have HM1:Hid (Mv base B sv gv sv gv w w1):=hmv.trans hm1
 have HR1:Hid (RS w1 base B s p sv gv fs gs):=hr1
 have HF1:Hid (FB w1 w.heap.size ⟨263,kd,d,l⟩):=hF1
 have b0:w1.cell? ⟨w.heap.size,0,none⟩=some (.int .i64 263):=hF1.c0
 clear hmv hm1 hA hF hwl hr1 hk1 h hF1
 have hc4:¬ c<97:=by omega
 have hc5:¬ 122<c:=by omega
 have c1:=HR1.out.c1
 have z1:=HR1.out.fz 1
 have hp2:(p:Int)<2000:=by omega
 go_wp2_with fail
 clear c1 z1 b0
 have HR2:Hid (RS (w1.setCell ⟨B,1,none⟩ (.int .i64 ((p:Int)+1))) base B s (p+1) sv gv fs gs):=HR1.out.at (p+1) _ (by omega)
 have HM2:Hid (Mv base B sv gv sv gv w (w1.setCell ⟨B,1,none⟩ (.int .i64 ((p:Int)+1)))):=HM1.out.trans (HR1.out.atMv _)
 have HF2:FB (w1.setCell ⟨B,1,none⟩ (.int .i64 ((p:Int)+1))) w.heap.size ⟨263,kd,d,l⟩:=HF1.out.of_block (heap_set_ne hou.1)
 have c1:=HR2.out.c1
 rw [Int.natCast_add,Int.natCast_one] at c1
 have b0:(w1.setCell ⟨B,1,none⟩ (.int .i64 ((p:Int)+1))).cell? ⟨w.heap.size,0,none⟩=some (.int .i64 263):=HF2.c0
 have b1:(w1.setCell ⟨B,1,none⟩ (.int .i64 ((p:Int)+1))).cell? ⟨w.heap.size,1,none⟩=some (.int .i64 kd):=HF2.c1
 have b2:(w1.setCell ⟨B,1,none⟩ (.int .i64 ((p:Int)+1))).cell? ⟨w.heap.size,2,none⟩=some (.int .i64 d):=HF2.c2
 have b3:(w1.setCell ⟨B,1,none⟩ (.int .i64 ((p:Int)+1))).cell? ⟨w.heap.size,3,none⟩=some (.int .i64 l):=HF2.c3
 have hz2:w.heap.size<(w1.setCell ⟨B,1,none⟩ (.int .i64 ((p:Int)+1))).heap.size:=Nat.lt_of_lt_of_le hwl1 (HR1.out.atMv _).bel.size
 clear HF2 HF1 HM1
 generalize w1.setCell ⟨B,1,none⟩ (.int .i64 ((p:Int)+1))=w2 at *
 have hpp:(p:Int)+1-1=p:=by omega
 have hwp:IntKind.i64.wrap (p:Int)=p:=by unfold IntKind.wrap;simp [IntKind.signed,IntKind.bits];omega
 have hkeep:Hid (∀ (w':World) (gv':Value),RS w' base B s (p+1) sv gv' fs (⟨kd,p,d,l,s.extract p (p+1)⟩::gs)->Mv base B sv gv sv gv' w2.drew w'->w'.cell? ⟨B,1,none⟩=some (.int .i64 ((p:Int)+1))/\w'.cell? ⟨w.heap.size,0,none⟩=some (.int .i64 263)/\w'.cell? ⟨w.heap.size,1,none⟩=some (.int .i64 kd)/\w'.cell? ⟨w.heap.size,2,none⟩=some (.int .i64 d)/\w'.cell? ⟨w.heap.size,3,none⟩=some (.int .i64 l)):=by
   intro w' gv' hr hm
   have eI:w'.heap[w.heap.size]?=w2.heap[w.heap.size]?:=(hm.kept _ hz2 hou).1
   have c1':=hr.c1
   rw [Int.natCast_add,Int.natCast_one] at c1'
   exact ⟨c1',by rw [World.cell?_of_block (w:=w2) eI];exact b0,by rw [World.cell?_of_block (w:=w2) eI];exact b1,by rw [World.cell?_of_block (w:=w2) eI];exact b2,by rw [World.cell?_of_block (w:=w2) eI];exact b3⟩
 go_region_held3 (fun w'=>w'.cell? ⟨B,1,none⟩=some (.int .i64 ((p:Int)+1))/\w'.cell? ⟨w.heap.size,0,none⟩=some (.int .i64 263)/\w'.cell? ⟨w.heap.size,1,none⟩=some (.int .i64 kd)/\w'.cell? ⟨w.heap.size,2,none⟩=some (.int .i64 d)/\w'.cell? ⟨w.heap.size,3,none⟩=some (.int .i64 l)) (first | (refine hkeep.out _ _ hr hm;done) | (exact ⟨c1,b0,b1,b2,b3⟩)) (first | (go_at_call 176;refine (sign_any base B s (p+1) p ⟨263,kd,d,l⟩ sv gv fs gs _ HR2.out.drew (by omega) hp1 _hlen2).mono ?_;rintro e w' ⟨rfl,gv',hr,hm⟩))
 all_goals
   have HR3:Hid (RS w' base B s (p+1) sv gv' fs (⟨kd,p,d,l,s.extract p (p+1)⟩::gs)):=hr
   have HM3:Hid (Mv base B sv gv sv gv' w w'):=HM2.out.drew.trans hm
   clear hr hm
   go_wp2_with fail
   go_ret
   exact ⟨rfl,sv,gv',HR3.out,HM3.out⟩
end Go.Proofs.YtaebngpoagjafaaGreat
namespace Go.Proofs.YtaebngpoagjafaaGreat
open Go.RowKit
attribute [local go_sem ↓] Go.wp_at_zero Go.wp_at_succ
set_option maxHeartbeats 6400000 in
theorem step_items (base B:Nat) (s:ByteArray) (k p:Nat) (c kd d l:Int) (sv gv:Value) (fs:List FR) (gs:List SG) (w:World) (h:RS w base B s k sv gv fs gs) (hs:s.size<=2000) (hk:k<=s.size) (hpe:T.sk s k=p) (hc:T.ch s p=c)
   (_hlen:fs.length+7<=1099511627776) (_hlen2:gs.length+1<=1099511627776) (hc2:c=44) :
   Calls Tryz.prog 134 #[.pointer (some ⟨B,0,none⟩),frA ⟨260,kd,d,l⟩] w (SP base B s sv gv fs gs w ⟨true,p,[byF 44,⟨259,kd,d,l⟩,⟨260,kd,d,l⟩],[]⟩):=by
 show Calls Tryz.prog 134 #[.pointer (some ⟨B,0,none⟩),.agg #[.int .i64 260,.int .i64 kd,.int .i64 d,.int .i64 l]] w _
 have hpk:p<=s.size:=by rw [<- hpe];exact T.sk_le hk
 have hpee:=fun (wz:World) (hz:RS wz base B s k sv gv fs gs)=>peek_any base B s k sv gv fs gs wz hs hk hz
 rw [hpe,hc] at hpee
 have HPE:Hid (∀ (wz:World),RS wz base B s k sv gv fs gs->Calls Tryz.prog 135 #[.pointer (some ⟨B,0,none⟩)] wz fun e w'=>e=.returned (.int .i64 c)/\RS w' base B s p sv gv fs gs/\Mv base B sv gv sv gv wz w'):=hpee
 clear hpee
 go_enter Tryz.func134,Tryz.ntmps134
 go_wp2_with fail
 have hA:=h.alloc (.cells #[.int .i64 260,.int .i64 kd,.int .i64 d,.int .i64 l] 187)
 have hF:FB (w.alloc (.cells #[.int .i64 260,.int .i64 kd,.int .i64 d,.int .i64 l] 187)) w.heap.size ⟨260,kd,d,l⟩:=⟨by simp,by simp,by simp,by simp⟩
 have hou:=h.outNew
 have hwl:w.heap.size<(w.alloc (.cells #[.int .i64 260,.int .i64 kd,.int .i64 d,.int .i64 l] 187)).heap.size:=by simp
 have hmv:Mv base B sv gv sv gv w (w.alloc (.cells #[.int .i64 260,.int .i64 kd,.int .i64 d,.int .i64 l] 187)):=Mv.alloc h.bs _
 refine (HPE.out _ hA).mono ?_
 rintro e w1 ⟨rfl,hr1,hm1⟩
 have hk1:=hm1.kept w.heap.size hwl hou
 have hF1:=hF.of_block hk1.1
 have hwl1:w.heap.size<w1.heap.size:=Nat.lt_of_lt_of_le hwl hm1.bel.size
 have HM1:Hid (Mv base B sv gv sv gv w w1):=hmv.trans hm1
 have HR1:Hid (RS w1 base B s p sv gv fs gs):=hr1
 have HF1:Hid (FB w1 w.heap.size ⟨260,kd,d,l⟩):=hF1
 have b0:w1.cell? ⟨w.heap.size,0,none⟩=some (.int .i64 260):=hF1.c0
 clear hmv hm1 hA hF hwl hr1 hk1 h hF1
 have hcc:(c==44)=true:=by rw [hc2];decide
 have b1:w1.cell? ⟨w.heap.size,1,none⟩=some (.int .i64 kd):=HF1.out.c1
 have b2:w1.cell? ⟨w.heap.size,2,none⟩=some (.int .i64 d):=HF1.out.c2
 have b3:w1.cell? ⟨w.heap.size,3,none⟩=some (.int .i64 l):=HF1.out.c3
 go_wp2_with fail
 have HR2:Hid (RS (w1.alloc (.cells #[.int .i64 259,.int .i64 kd,.int .i64 d,.int .i64 l] 187)) base B s p sv gv fs gs):=HR1.out.alloc _
 have HM2:Hid (Mv base B sv gv sv gv w (w1.alloc (.cells #[.int .i64 259,.int .i64 kd,.int .i64 d,.int .i64 l] 187))):=HM1.out.trans (Mv.alloc HR1.out.bs _)
 have hF2:FB (w1.alloc (.cells #[.int .i64 259,.int .i64 kd,.int .i64 d,.int .i64 l] 187)) w.heap.size ⟨260,kd,d,l⟩:=HF1.out.of_block (Below.heap_alloc _ _ _ hwl1)
 clear b0 b1 b2 b3 HF1
 have b0:(w1.alloc (.cells #[.int .i64 259,.int .i64 kd,.int .i64 d,.int .i64 l] 187)).cell? ⟨w.heap.size,0,none⟩=some (.int .i64 260):=hF2.c0
 have b1:(w1.alloc (.cells #[.int .i64 259,.int .i64 kd,.int .i64 d,.int .i64 l] 187)).cell? ⟨w.heap.size,1,none⟩=some (.int .i64 kd):=hF2.c1
 have b2:(w1.alloc (.cells #[.int .i64 259,.int .i64 kd,.int .i64 d,.int .i64 l] 187)).cell? ⟨w.heap.size,2,none⟩=some (.int .i64 d):=hF2.c2
 have b3:(w1.alloc (.cells #[.int .i64 259,.int .i64 kd,.int .i64 d,.int .i64 l] 187)).cell? ⟨w.heap.size,3,none⟩=some (.int .i64 l):=hF2.c3
 have e0:(w1.alloc (.cells #[.int .i64 259,.int .i64 kd,.int .i64 d,.int .i64 l] 187)).cell? ⟨w1.heap.size,0,none⟩=some (.int .i64 259):=by simp
 have e1:(w1.alloc (.cells #[.int .i64 259,.int .i64 kd,.int .i64 d,.int .i64 l] 187)).cell? ⟨w1.heap.size,1,none⟩=some (.int .i64 kd):=by simp
 have e2:(w1.alloc (.cells #[.int .i64 259,.int .i64 kd,.int .i64 d,.int .i64 l] 187)).cell? ⟨w1.heap.size,2,none⟩=some (.int .i64 d):=by simp
 have e3:(w1.alloc (.cells #[.int .i64 259,.int .i64 kd,.int .i64 d,.int .i64 l] 187)).cell? ⟨w1.heap.size,3,none⟩=some (.int .i64 l):=by simp
 have hz:w1.heap.size<(w1.alloc (.cells #[.int .i64 259,.int .i64 kd,.int .i64 d,.int .i64 l] 187)).heap.size:=by simp
 clear hF2
 generalize w1.alloc (.cells #[.int .i64 259,.int .i64 kd,.int .i64 d,.int .i64 l] 187)=w2 at *
 have hz':w.heap.size<w2.heap.size:=by omega
 have hoI:Out B sv gv w1.heap.size:=HR1.out.outNew
 have hkeepB:Hid (∀ (wz:World),Below w2.heap.size w2 wz->wz.cell? ⟨w.heap.size,0,none⟩=some (.int .i64 260)/\wz.cell? ⟨w.heap.size,1,none⟩=some (.int .i64 kd)/\wz.cell? ⟨w.heap.size,2,none⟩=some (.int .i64 d)/\wz.cell? ⟨w.heap.size,3,none⟩=some (.int .i64 l)/\wz.cell? ⟨w1.heap.size,0,none⟩=some (.int .i64 259)/\wz.cell? ⟨w1.heap.size,1,none⟩=some (.int .i64 kd)/\wz.cell? ⟨w1.heap.size,2,none⟩=some (.int .i64 d)/\wz.cell? ⟨w1.heap.size,3,none⟩=some (.int .i64 l)):=by
   intro wz hb
   exact ⟨(hb.cell (p:=⟨w.heap.size,0,none⟩) hz').trans b0,(hb.cell (p:=⟨w.heap.size,1,none⟩) hz').trans b1,(hb.cell (p:=⟨w.heap.size,2,none⟩) hz').trans b2,(hb.cell (p:=⟨w.heap.size,3,none⟩) hz').trans b3,(hb.cell (p:=⟨w1.heap.size,0,none⟩) hz).trans e0,(hb.cell (p:=⟨w1.heap.size,1,none⟩) hz).trans e1,(hb.cell (p:=⟨w1.heap.size,2,none⟩) hz).trans e2,(hb.cell (p:=⟨w1.heap.size,3,none⟩) hz).trans e3⟩
 have hkeep:Hid (∀ (wz w':World) (sv' gv':Value),Below w2.heap.size w2 wz->Mv base B sv gv sv' gv' wz w'->w'.cell? ⟨w.heap.size,0,none⟩=some (.int .i64 260)/\w'.cell? ⟨w.heap.size,1,none⟩=some (.int .i64 kd)/\w'.cell? ⟨w.heap.size,2,none⟩=some (.int .i64 d)/\w'.cell? ⟨w.heap.size,3,none⟩=some (.int .i64 l)/\w'.cell? ⟨w1.heap.size,0,none⟩=some (.int .i64 259)/\w'.cell? ⟨w1.heap.size,1,none⟩=some (.int .i64 kd)/\w'.cell? ⟨w1.heap.size,2,none⟩=some (.int .i64 d)/\w'.cell? ⟨w1.heap.size,3,none⟩=some (.int .i64 l)):=by
   intro wz w' sv' gv' hb hm
   have q:=hkeepB.out wz hb
   have eI:w'.heap[w1.heap.size]?=wz.heap[w1.heap.size]?:=(hm.kept _ (Nat.lt_of_lt_of_le hz hb.size) hoI).1
   have eF:w'.heap[w.heap.size]?=wz.heap[w.heap.size]?:=(hm.kept _ (Nat.lt_of_lt_of_le hz' hb.size) hou).1
   exact ⟨by rw [World.cell?_of_block (w:=wz) eF];exact q.1,by rw [World.cell?_of_block (w:=wz) eF];exact q.2.1,by rw [World.cell?_of_block (w:=wz) eF];exact q.2.2.1,by rw [World.cell?_of_block (w:=wz) eF];exact q.2.2.2.1,by rw [World.cell?_of_block (w:=wz) eI];exact q.2.2.2.2.1,by rw [World.cell?_of_block (w:=wz) eI];exact q.2.2.2.2.2.1,by rw [World.cell?_of_block (w:=wz) eI];exact q.2.2.2.2.2.2.1,by rw [World.cell?_of_block (w:=wz) eI];exact q.2.2.2.2.2.2.2⟩
 go_region_held3 (fun w'=>w'.cell? ⟨w.heap.size,0,none⟩=some (.int .i64 260)/\w'.cell? ⟨w.heap.size,1,none⟩=some (.int .i64 kd)/\w'.cell? ⟨w.heap.size,2,none⟩=some (.int .i64 d)/\w'.cell? ⟨w.heap.size,3,none⟩=some (.int .i64 l)/\w'.cell? ⟨w1.heap.size,0,none⟩=some (.int .i64 259)/\w'.cell? ⟨w1.heap.size,1,none⟩=some (.int .i64 kd)/\w'.cell? ⟨w1.heap.size,2,none⟩=some (.int .i64 d)/\w'.cell? ⟨w1.heap.size,3,none⟩=some (.int .i64 l)) (first | (refine hkeepB.out _ ?_;(repeat (first | exact Below.refl _ _ | refine Below.drew ?_ | refine Below.alloc ?_ (by simp<;>omega) _));done) | (refine hkeep.out _ _ _ _ ?_ hm;(repeat (first | exact Below.refl _ _ | refine Below.drew ?_ | refine Below.alloc ?_ (by simp<;>omega) _));done)) (first | (go_at_call 172;refine (byteOf_any _ _ (by omega) (by omega)).mono ?_;rintro e w' ⟨rfl,rfl⟩) | (go_at_call 133;refine (push_newD base B _ _ s p sv gv fs [byF 44,⟨259,kd,d,l⟩,⟨260,kd,d,l⟩] gs _ _ (HR2.out.alloc _) (by simp) (by rfl) (by simp;omega) _ rfl).mono ?_;rintro e w' ⟨rfl,sv',hr,hm⟩))
 all_goals
   have HR3:Hid (RS w' base B s p sv' gv ([byF 44,⟨259,kd,d,l⟩,⟨260,kd,d,l⟩]++fs) gs):=hr
   have HM3:Hid (Mv base B sv gv sv' gv w w'):=(HM2.out.trans (Mv.alloc HR2.out.bs _)).trans hm
   clear hr hm
   go_wp2_with fail
   go_ret
   exact ⟨rfl,sv',gv,HR3.out,HM3.out⟩
end Go.Proofs.YtaebngpoagjafaaGreat
namespace Go.Proofs.YtaebngpoagjafaaGreat
open Go.RowKit
theorem T.ch_pos {s:ByteArray} {k:Nat} (h:0<=T.ch s k):k<s.size:=by
 by_cases hk:k<s.size
 · exact hk
 · rw [T.ch_ge hk] at h;omega
theorem step_any (base B:Nat) (s:ByteArray) (k:Nat) (f:FR) (sv gv:Value) (fs:List FR) (gs:List SG) (w:World) (h:RS w base B s k sv gv fs gs) (hs:s.size<=2000) (hk:k<=s.size)
   (hlen:fs.length+7<=1099511627776) (hlen2:gs.length+1<=1099511627776) (hsy:0<=f.sym) (d0:0<=f.depth) (d1:f.depth<=1000000) :
   Calls Tryz.prog 134 #[.pointer (some ⟨B,0,none⟩),frA f] w (SP base B s sv gv fs gs w (stepR s k f)):=by
 obtain ⟨sy,kd,d,l⟩:=f
 simp only at hsy d0 d1
 by_cases h0:sy=256
 · subst h0
   exact step_rule base B s k _ _ kd d l sv gv fs gs w h hs hk rfl rfl hlen hlen2
 by_cases h1:sy=257
 · subst h1
   by_cases hc:T.ch s (T.sk s k)=59
   · have e:stepR s k ⟨257,kd,d,l⟩=⟨true,T.sk s k,[byF 59,⟨256,0,0,0⟩,⟨257,0,0,0⟩],[]⟩:=by simp [stepR,hc]
     rw [e];exact step_more base B s k _ _ kd d l sv gv fs gs w h hs hk rfl rfl hlen hlen2 hc
   · have e:stepR s k ⟨257,kd,d,l⟩=⟨true,T.sk s k,[],[]⟩:=by simp [stepR,hc]
     rw [e];exact step_more_no base B s k _ _ kd d l sv gv fs gs w h hs hk rfl rfl hlen hlen2 hc
 by_cases h2:sy=258
 · subst h2
   exact step_expr base B s k _ _ kd d l sv gv fs gs w h hs hk rfl rfl hlen hlen2 d0 d1 _ rfl
 by_cases h3:sy=259
 · subst h3
   exact step_item base B s k _ _ kd d l sv gv fs gs w h hs hk rfl rfl hlen hlen2 d0 d1
 by_cases h4:sy=260
 · subst h4
   by_cases hc:T.ch s (T.sk s k)=44
   · have e:stepR s k ⟨260,kd,d,l⟩=⟨true,T.sk s k,[byF 44,⟨259,kd,d,l⟩,⟨260,kd,d,l⟩],[]⟩:=by simp [stepR,hc]
     rw [e];exact step_items base B s k _ _ kd d l sv gv fs gs w h hs hk rfl rfl hlen hlen2 hc
   · have e:stepR s k ⟨260,kd,d,l⟩=⟨true,T.sk s k,[],[]⟩:=by simp [stepR,hc]
     rw [e];exact step_items_no base B s k _ _ kd d l sv gv fs gs w h hs hk rfl rfl hlen hlen2 hc
 by_cases h5:sy=261
 · subst h5
   exact step_num base B s k _ _ kd d l sv gv fs gs w h hs hk rfl rfl hlen hlen2 _ rfl
 by_cases h6:sy=262
 · subst h6
   exact step_bits base B s k _ _ kd d l sv gv fs gs w h hs hk rfl rfl hlen hlen2 _ rfl
 by_cases h7:sy=263
 · subst h7
   by_cases hl:T.ch s (T.sk s k)<97
   · have e:stepR s k ⟨263,kd,d,l⟩=⟨false,T.sk s k,[],[]⟩:=by simp [stepR];omega
     rw [e];exact step_letter_lo base B s k _ _ kd d l sv gv fs gs w h hs hk rfl rfl hlen hlen2 hl
   · by_cases hh:122<T.ch s (T.sk s k)
     · have e:stepR s k ⟨263,kd,d,l⟩=⟨false,T.sk s k,[],[]⟩:=by simp [stepR];omega
       rw [e];exact step_letter_hi base B s k _ _ kd d l sv gv fs gs w h hs hk rfl rfl hlen hlen2 hh
     · have e:stepR s k ⟨263,kd,d,l⟩=⟨true,T.sk s k+1,[],[⟨kd,T.sk s k,d,l,s.extract (T.sk s k) (T.sk s k+1)⟩]⟩:=by simp [stepR];omega
       rw [e];exact step_letter base B s k _ _ kd d l sv gv fs gs w h hs hk rfl rfl hlen hlen2 (by omega) (by omega) (T.ch_pos (by omega))
 have hn:sy≠256/\sy≠257/\sy≠258/\sy≠259/\sy≠260/\sy≠261/\sy≠262/\sy≠263:=⟨h0,h1,h2,h3,h4,h5,h6,h7⟩
 by_cases hc:T.ch s (T.sk s k)=sy
 · have e:stepR s k ⟨sy,kd,d,l⟩=⟨true,T.sk s k+1,[],[]⟩:=by simp [stepR,hn,hc]
   rw [e];exact step_byte base B s k _ _ kd d l sv gv fs gs w h hs hk rfl rfl hlen hlen2 sy hn hc (T.ch_pos (by omega))
 · have e:stepR s k ⟨sy,kd,d,l⟩=⟨false,T.sk s k,[],[]⟩:=by simp [stepR,hn,hc]
   rw [e];exact step_byte_no base B s k _ _ kd d l sv gv fs gs w h hs hk rfl rfl hlen hlen2 sy hn hc
end Go.Proofs.YtaebngpoagjafaaGreat
