import Derived.Test.YtaebngpoagjafabGreatV06
set_option maxRecDepth 100000
set_option maxHeartbeats 6400000
namespace Go.Proofs.YtaebngpoagjafabGreat
open Obj renaming cells → O
open Value renaming int → J
open IntKind renaming i64 → Z
open Go.RowKit
attribute [local go_sem ↓] Go.wp_at_zero Go.wp_at_succ
theorem zbk (base B:Nat) (s:ByteArray) (k:Nat) (f:FR) (sv gv:Value) (fs:List FR) (gs:List SG) (w:World) (h:RS w base B s k sv gv fs gs) (hlen:fs.length+3<=1099511627776) (d0:0<=f.depth) (d1:f.depth<=1000000) :
 Calls Tryz.prog 164 #[.pointer (some ⟨B,0,none⟩),frA f] w fun e w'=>e=.returned (.tuple #[])/\∃ sv',RS w' base B s k sv' gv (Zh f++fs) gs/\Mv base B sv gv sv' gv w w':=by
 have hb2:=fun w=>Zu 258 (f.depth+1) w
 have hA:=h.alloc (O #[J Z f.sym,J Z f.kind,J Z f.depth,J Z f.list] 193)
 have hA2:=hA.alloc (O #[J Z 258,J Z 0,J Z (f.depth+1),J Z 0] 193)
 have HA2:Hid _:=hA2
 have HMV:Hid (Mv base B sv gv sv gv w ((w.alloc (O #[J Z f.sym,J Z f.kind,J Z f.depth,J Z f.list] 193)).alloc (O #[J Z 258,J Z 0,J Z (f.depth+1),J Z 0] 193))):=(Mv.alloc h.bs _).trans (Mv.alloc hA.bs _)
 clear hA hA2
 have f3:Hid (((w.alloc (O #[J Z f.sym,J Z f.kind,J Z f.depth,J Z f.list] 193)).alloc (O #[J Z 258,J Z 0,J Z (f.depth+1),J Z 0] 193)).cell? ⟨w.heap.size,3,none⟩=some (J Z f.list)):=by show _=_;simp
 have g0:Hid (((w.alloc (O #[J Z f.sym,J Z f.kind,J Z f.depth,J Z f.list] 193)).alloc (O #[J Z 258,J Z 0,J Z (f.depth+1),J Z 0] 193)).cell? ⟨w.heap.size+1,0,none⟩=some (J Z 258)):=by show _=_;simp
 have g1:Hid (((w.alloc (O #[J Z f.sym,J Z f.kind,J Z f.depth,J Z f.list] 193)).alloc (O #[J Z 258,J Z 0,J Z (f.depth+1),J Z 0] 193)).cell? ⟨w.heap.size+1,1,none⟩=some (J Z 0)):=by show _=_;simp
 have g2:Hid (((w.alloc (O #[J Z f.sym,J Z f.kind,J Z f.depth,J Z f.list] 193)).alloc (O #[J Z 258,J Z 0,J Z (f.depth+1),J Z 0] 193)).cell? ⟨w.heap.size+1,2,none⟩=some (J Z (f.depth+1))):=by show _=_;simp
 have g3:Hid (((w.alloc (O #[J Z f.sym,J Z f.kind,J Z f.depth,J Z f.list] 193)).alloc (O #[J Z 258,J Z 0,J Z (f.depth+1),J Z 0] 193)).cell? ⟨w.heap.size+1,3,none⟩=some (J Z 0)):=by show _=_;simp
 have hz:Hid (w.heap.size+1<((w.alloc (O #[J Z f.sym,J Z f.kind,J Z f.depth,J Z f.list] 193)).alloc (O #[J Z 258,J Z 0,J Z (f.depth+1),J Z 0] 193)).heap.size):=by show _<_;simp
 cases k10:(f.kind==10) with
 | true =>
  have HL:Hid (Zh f=[⟨261,4,0,f.list⟩,byF 42,⟨261,5,0,-1⟩]):=by show _=_;unfold Zh;rw [if_pos (by simpa using k10)]
  have hb1:=fun w=>Zk 261 4 f.list w
  have hb3:=fun w=>Zk 261 5 (-1) w
  unfold frA
  go_enter Tryz.func164,Tryz.ntmps164
  go_wp2_with fail
  have f3:=f3.out
  have g0:=g0.out
  have g1:=g1.out
  have g2:=g2.out
  have g3:=g3.out
  have hz:=hz.out
  generalize ((w.alloc (O #[J Z f.sym,J Z f.kind,J Z f.depth,J Z f.list] 193)).alloc (O #[J Z 258,J Z 0,J Z (f.depth+1),J Z 0] 193))=w2 at *
  have hz':w.heap.size<w2.heap.size:=by omega
  go_region_with (first | (go_at_call 162;refine (zC _ _ (by omega) (by omega)).mono ?_;rintro e w' ⟨rfl,rfl⟩) | (go_at_call 133;refine (yA base B _ _ s k sv gv fs [⟨261,4,0,f.list⟩,byF 42,⟨261,5,0,-1⟩] gs _ _ (HA2.out.alloc _) (by simp) (by rfl) (by simp;omega) _ rfl).mono ?_;rintro e w' ⟨rfl,sv',hr,hm⟩))
  all_goals
   have HR2:Hid _:=hr
   have HM2:Hid (Mv base B sv gv sv' gv w w'):=(HMV.out.trans (Mv.alloc HA2.out.bs _)).trans hm
   clear hr hm
   go_wp2_with fail
   go_end0
   exact ⟨rfl,sv',by rw [HL.out];exact HR2.out,HM2.out⟩
 | false =>
  cases k9:(f.kind==9) with
  | true =>
   have HL:Hid (Zh f=[⟨262,9,0,f.list⟩,byF 58,⟨258,0,f.depth+1,0⟩]):=by show _=_;unfold Zh;rw [if_neg (by simpa using k10),if_pos (by simpa using k9)]
   have hb1:=fun w=>Zk 262 9 f.list w
   unfold frA
   go_enter Tryz.func164,Tryz.ntmps164
   go_wp2_with fail
   have f3:=f3.out
   have g0:=g0.out
   have g1:=g1.out
   have g2:=g2.out
   have g3:=g3.out
   have hz:=hz.out
   generalize ((w.alloc (O #[J Z f.sym,J Z f.kind,J Z f.depth,J Z f.list] 193)).alloc (O #[J Z 258,J Z 0,J Z (f.depth+1),J Z 0] 193))=w2 at *
   have hz':w.heap.size<w2.heap.size:=by omega
   go_region_with (first | (go_at_call 162;refine (zC _ _ (by omega) (by omega)).mono ?_;rintro e w' ⟨rfl,rfl⟩) | (go_at_call 133;refine (yA base B _ _ s k sv gv fs [⟨262,9,0,f.list⟩,byF 58,⟨258,0,f.depth+1,0⟩] gs _ _ (HA2.out.alloc _) (by simp) (by rfl) (by simp;omega) _ rfl).mono ?_;rintro e w' ⟨rfl,sv',hr,hm⟩))
   all_goals
    have HR2:Hid _:=hr
    have HM2:Hid (Mv base B sv gv sv' gv w w'):=(HMV.out.trans (Mv.alloc HA2.out.bs _)).trans hm
    clear hr hm
    go_wp2_with fail
    go_end0
    exact ⟨rfl,sv',by rw [HL.out];exact HR2.out,HM2.out⟩
  | false =>
   cases k7:(f.kind==7) with
   | true =>
    have HL:Hid (Zh f=[⟨261,7,0,f.list⟩,byF 58,⟨258,0,f.depth+1,0⟩]):=by show _=_;unfold Zh;rw [if_neg (by simpa using k10),if_neg (by simpa using k9),if_pos (by simpa using k7)]
    have hb1:=fun w=>Zk 261 7 f.list w
    unfold frA
    go_enter Tryz.func164,Tryz.ntmps164
    go_wp2_with fail
    have f3:=f3.out
    have g0:=g0.out
    have g1:=g1.out
    have g2:=g2.out
    have g3:=g3.out
    have hz:=hz.out
    generalize ((w.alloc (O #[J Z f.sym,J Z f.kind,J Z f.depth,J Z f.list] 193)).alloc (O #[J Z 258,J Z 0,J Z (f.depth+1),J Z 0] 193))=w2 at *
    have hz':w.heap.size<w2.heap.size:=by omega
    go_region_with (first | (go_at_call 162;refine (zC _ _ (by omega) (by omega)).mono ?_;rintro e w' ⟨rfl,rfl⟩) | (go_at_call 133;refine (yA base B _ _ s k sv gv fs [⟨261,7,0,f.list⟩,byF 58,⟨258,0,f.depth+1,0⟩] gs _ _ (HA2.out.alloc _) (by simp) (by rfl) (by simp;omega) _ rfl).mono ?_;rintro e w' ⟨rfl,sv',hr,hm⟩))
    all_goals
     have HR2:Hid _:=hr
     have HM2:Hid (Mv base B sv gv sv' gv w w'):=(HMV.out.trans (Mv.alloc HA2.out.bs _)).trans hm
     clear hr hm
     go_wp2_with fail
     go_end0
     exact ⟨rfl,sv',by rw [HL.out];exact HR2.out,HM2.out⟩
   | false =>
    have HL:Hid (Zh f=[⟨261,4,0,f.list⟩]):=by show _=_;unfold Zh;rw [if_neg (by simpa using k10),if_neg (by simpa using k9),if_neg (by simpa using k7)]
    have hb1:=fun w=>Zk 261 4 f.list w
    unfold frA
    go_enter Tryz.func164,Tryz.ntmps164
    go_wp2_with fail
    refine (ZF base B _ _ s k sv gv fs [⟨261,4,0,f.list⟩] gs _ _ HA2.out (by simp) (by rfl) (by simp;omega) _ rfl).mono ?_
    rintro e w' ⟨rfl,sv',hr,hm⟩
    have HR2:Hid _:=hr
    have HM2:Hid _:=HMV.out.trans hm
    clear hr hm
    go_wp2_with fail
    go_end0
    exact ⟨rfl,sv',by rw [HL.out];exact HR2.out,HM2.out⟩
def SP (base B:Nat) (s:ByteArray) (sv gv:Value) (fs:List FR) (gs:List SG) (w:World) (r:Res) (e:Ending) (w':World):Prop :=
 e=.returned (.bool r.ok)/\∃ sv' gv',RS w' base B s r.at_ sv' gv' (r.push++fs) (r.sg++gs)/\Mv base B sv gv sv' gv' w w'
theorem Jt (base B:Nat) (s:ByteArray) (k p:Nat) (c kd d l:Int) (sv gv:Value) (fs:List FR) (gs:List SG) (w:World) (h:RS w base B s k sv gv fs gs) (hs:s.size<=2000) (hk:k<=s.size) (hpe:T.sk s k=p) (hc:T.ch s p=c)
 (_hlen:fs.length+7<=1099511627776) (_hlen2:gs.length+1<=1099511627776) :
 Calls Tryz.prog 134 #[.pointer (some ⟨B,0,none⟩),frA ⟨256,kd,d,l⟩] w (SP base B s sv gv fs gs w ⟨true,p,[⟨263,1,0,-1⟩,byF 58,⟨258,0,0,0⟩],[]⟩):=by
 show Calls Tryz.prog 134 #[.pointer (some ⟨B,0,none⟩),.agg #[J Z 256,J Z kd,J Z d,J Z l]] w _
 have hpk:p<=s.size:=by rw [<- hpe];exact T.sk_le hk
 have hpee:=fun (wz:World) (hz:RS wz base B s k sv gv fs gs)=>zF base B s k sv gv fs gs wz hs hk hz
 rw [hpe,hc] at hpee
 have HPE:Hid _:=hpee
 clear hpee
 go_enter Tryz.func134,Tryz.ntmps134
 go_wp2_with fail
 have hA:=h.alloc (O #[J Z 256,J Z kd,J Z d,J Z l] 193)
 have hF:FB (w.alloc (O #[J Z 256,J Z kd,J Z d,J Z l] 193)) w.heap.size ⟨256,kd,d,l⟩:=⟨by simp,by simp,by simp,by simp⟩
 have hou:=h.outNew
 have hwl:w.heap.size<(w.alloc (O #[J Z 256,J Z kd,J Z d,J Z l] 193)).heap.size:=by simp
 have hmv:Mv base B sv gv sv gv w (w.alloc (O #[J Z 256,J Z kd,J Z d,J Z l] 193)):=Mv.alloc h.bs _
 refine (HPE.out _ hA).mono ?_
 rintro e w1 ⟨rfl,hr1,hm1⟩
 have hk1:=hm1.kept w.heap.size hwl hou
 have hF1:=hF.of_block hk1.1
 have hwl1:w.heap.size<w1.heap.size:=Nat.lt_of_lt_of_le hwl hm1.bel.size
 have HM1:Hid (Mv base B sv gv sv gv w w1):=hmv.trans hm1
 have HR1:Hid _:=hr1
 have HF1:Hid _:=hF1
 have b0:w1.cell? ⟨w.heap.size,0,none⟩=some (J Z 256):=hF1.c0
 clear hmv hm1 hA hF hwl hr1 hk1 h hF1
 have hbd0:=fun w=>Zk 263 1 (-1) w
 have hbd1:=fun w=>YR 258 w
 go_wp2_with fail
 refine (zC _ _ (by omega) (by omega)).mono ?_
 rintro e w' ⟨rfl,hww⟩
 subst w'
 go_wp2_with fail
 refine (ZF base B _ _ s p sv gv fs [⟨263,1,0,-1⟩,byF 58,⟨258,0,0,0⟩] gs _ _ (HR1.out.alloc _) (by simp) (by rfl) (by simp;omega) _ rfl).mono ?_
 rintro e w' ⟨rfl,sv',hr,hm⟩
 have HR4:Hid _:=hr
 have HM4:Hid (Mv base B sv gv sv' gv w w'):=(HM1.out.trans (Mv.alloc HR1.out.bs _)).trans hm
 clear hr hm
 go_wp2_with fail
 go_ret
 exact ⟨rfl,sv',gv,HR4.out,HM4.out⟩
theorem Ju (base B:Nat) (s:ByteArray) (k p:Nat) (c kd d l:Int) (sv gv:Value) (fs:List FR) (gs:List SG) (w:World) (h:RS w base B s k sv gv fs gs) (hs:s.size<=2000) (hk:k<=s.size) (hpe:T.sk s k=p) (hc:T.ch s p=c)
 (_hlen:fs.length+7<=1099511627776) (_hlen2:gs.length+1<=1099511627776) (hc2:c=59) :
 Calls Tryz.prog 134 #[.pointer (some ⟨B,0,none⟩),frA ⟨257,kd,d,l⟩] w (SP base B s sv gv fs gs w ⟨true,p,[byF 59,⟨256,0,0,0⟩,⟨257,0,0,0⟩],[]⟩):=by
 show Calls Tryz.prog 134 #[.pointer (some ⟨B,0,none⟩),.agg #[J Z 257,J Z kd,J Z d,J Z l]] w _
 have hpk:p<=s.size:=by rw [<- hpe];exact T.sk_le hk
 have hpee:=fun (wz:World) (hz:RS wz base B s k sv gv fs gs)=>zF base B s k sv gv fs gs wz hs hk hz
 rw [hpe,hc] at hpee
 have HPE:Hid _:=hpee
 have hcc:(c==59)=true:=by rw [hc2];decide
 clear hpee
 go_enter Tryz.func134,Tryz.ntmps134
 go_wp2_with fail
 have hA:=h.alloc (O #[J Z 257,J Z kd,J Z d,J Z l] 193)
 have hF:FB (w.alloc (O #[J Z 257,J Z kd,J Z d,J Z l] 193)) w.heap.size ⟨257,kd,d,l⟩:=⟨by simp,by simp,by simp,by simp⟩
 have hou:=h.outNew
 have hwl:w.heap.size<(w.alloc (O #[J Z 257,J Z kd,J Z d,J Z l] 193)).heap.size:=by simp
 have hmv:Mv base B sv gv sv gv w (w.alloc (O #[J Z 257,J Z kd,J Z d,J Z l] 193)):=Mv.alloc h.bs _
 refine (HPE.out _ hA).mono ?_
 rintro e w1 ⟨rfl,hr1,hm1⟩
 have hk1:=hm1.kept w.heap.size hwl hou
 have hF1:=hF.of_block hk1.1
 have hwl1:w.heap.size<w1.heap.size:=Nat.lt_of_lt_of_le hwl hm1.bel.size
 have HM1:Hid (Mv base B sv gv sv gv w w1):=hmv.trans hm1
 have HR1:Hid _:=hr1
 have HF1:Hid _:=hF1
 have b0:w1.cell? ⟨w.heap.size,0,none⟩=some (J Z 257):=hF1.c0
 clear hmv hm1 hA hF hwl hr1 hk1 h hF1
 have hbd0:=fun w=>YR 256 w
 have hbd1:=fun w=>YR 257 w
 go_wp2_with fail
 refine (zC _ _ (by omega) (by omega)).mono ?_
 rintro e w' ⟨rfl,hww⟩
 subst w'
 go_wp2_with fail
 refine (ZF base B _ _ s p sv gv fs [byF 59,⟨256,0,0,0⟩,⟨257,0,0,0⟩] gs _ _ (HR1.out.alloc _) (by simp) (by rfl) (by simp;omega) _ rfl).mono ?_
 rintro e w' ⟨rfl,sv',hr,hm⟩
 have HR4:Hid _:=hr
 have HM4:Hid (Mv base B sv gv sv' gv w w'):=(HM1.out.trans (Mv.alloc HR1.out.bs _)).trans hm
 clear hr hm
 go_wp2_with fail
 go_ret
 exact ⟨rfl,sv',gv,HR4.out,HM4.out⟩
theorem qK (base B:Nat) (s:ByteArray) (k p:Nat) (c kd d l:Int) (sv gv:Value) (fs:List FR) (gs:List SG) (w:World) (h:RS w base B s k sv gv fs gs) (hs:s.size<=2000) (hk:k<=s.size) (hpe:T.sk s k=p) (hc:T.ch s p=c)
 (_hlen:fs.length+7<=1099511627776) (_hlen2:gs.length+1<=1099511627776) (hc2:c≠59) :
 Calls Tryz.prog 134 #[.pointer (some ⟨B,0,none⟩),frA ⟨257,kd,d,l⟩] w (SP base B s sv gv fs gs w ⟨true,p,[],[]⟩):=by
 show Calls Tryz.prog 134 #[.pointer (some ⟨B,0,none⟩),.agg #[J Z 257,J Z kd,J Z d,J Z l]] w _
 have hpk:p<=s.size:=by rw [<- hpe];exact T.sk_le hk
 have hpee:=fun (wz:World) (hz:RS wz base B s k sv gv fs gs)=>zF base B s k sv gv fs gs wz hs hk hz
 rw [hpe,hc] at hpee
 have HPE:Hid _:=hpee
 have hcc:(c==59)=false:=by rw [beq_eq_false_iff_ne];exact hc2
 clear hpee
 go_enter Tryz.func134,Tryz.ntmps134
 go_wp2_with fail
 have hA:=h.alloc (O #[J Z 257,J Z kd,J Z d,J Z l] 193)
 have hF:FB (w.alloc (O #[J Z 257,J Z kd,J Z d,J Z l] 193)) w.heap.size ⟨257,kd,d,l⟩:=⟨by simp,by simp,by simp,by simp⟩
 have hou:=h.outNew
 have hwl:w.heap.size<(w.alloc (O #[J Z 257,J Z kd,J Z d,J Z l] 193)).heap.size:=by simp
 have hmv:Mv base B sv gv sv gv w (w.alloc (O #[J Z 257,J Z kd,J Z d,J Z l] 193)):=Mv.alloc h.bs _
 refine (HPE.out _ hA).mono ?_
 rintro e w1 ⟨rfl,hr1,hm1⟩
 have hk1:=hm1.kept w.heap.size hwl hou
 have hF1:=hF.of_block hk1.1
 have hwl1:w.heap.size<w1.heap.size:=Nat.lt_of_lt_of_le hwl hm1.bel.size
 have HM1:Hid (Mv base B sv gv sv gv w w1):=hmv.trans hm1
 have HR1:Hid _:=hr1
 have HF1:Hid _:=hF1
 have b0:w1.cell? ⟨w.heap.size,0,none⟩=some (J Z 257):=hF1.c0
 clear hmv hm1 hA hF hwl hr1 hk1 h hF1
 go_wp2_with fail
 go_ret
 exact ⟨rfl,sv,gv,HR1.out,HM1.out⟩
theorem qa (base B:Nat) (s:ByteArray) (k p:Nat) (c kd d l:Int) (sv gv:Value) (fs:List FR) (gs:List SG) (w:World) (h:RS w base B s k sv gv fs gs) (hs:s.size<=2000) (hk:k<=s.size) (hpe:T.sk s k=p) (hc:T.ch s p=c)
 (_hlen:fs.length+7<=1099511627776) (_hlen2:gs.length+1<=1099511627776) (hc2:c≠44) :
 Calls Tryz.prog 134 #[.pointer (some ⟨B,0,none⟩),frA ⟨260,kd,d,l⟩] w (SP base B s sv gv fs gs w ⟨true,p,[],[]⟩):=by
 show Calls Tryz.prog 134 #[.pointer (some ⟨B,0,none⟩),.agg #[J Z 260,J Z kd,J Z d,J Z l]] w _
 have hpk:p<=s.size:=by rw [<- hpe];exact T.sk_le hk
 have hpee:=fun (wz:World) (hz:RS wz base B s k sv gv fs gs)=>zF base B s k sv gv fs gs wz hs hk hz
 rw [hpe,hc] at hpee
 have HPE:Hid _:=hpee
 have hcc:(c==44)=false:=by rw [beq_eq_false_iff_ne];exact hc2
 clear hpee
 go_enter Tryz.func134,Tryz.ntmps134
 go_wp2_with fail
 have hA:=h.alloc (O #[J Z 260,J Z kd,J Z d,J Z l] 193)
 have hF:FB (w.alloc (O #[J Z 260,J Z kd,J Z d,J Z l] 193)) w.heap.size ⟨260,kd,d,l⟩:=⟨by simp,by simp,by simp,by simp⟩
 have hou:=h.outNew
 have hwl:w.heap.size<(w.alloc (O #[J Z 260,J Z kd,J Z d,J Z l] 193)).heap.size:=by simp
 have hmv:Mv base B sv gv sv gv w (w.alloc (O #[J Z 260,J Z kd,J Z d,J Z l] 193)):=Mv.alloc h.bs _
 refine (HPE.out _ hA).mono ?_
 rintro e w1 ⟨rfl,hr1,hm1⟩
 have hk1:=hm1.kept w.heap.size hwl hou
 have hF1:=hF.of_block hk1.1
 have hwl1:w.heap.size<w1.heap.size:=Nat.lt_of_lt_of_le hwl hm1.bel.size
 have HM1:Hid (Mv base B sv gv sv gv w w1):=hmv.trans hm1
 have HR1:Hid _:=hr1
 have HF1:Hid _:=hF1
 have b0:w1.cell? ⟨w.heap.size,0,none⟩=some (J Z 260):=hF1.c0
 clear hmv hm1 hA hF hwl hr1 hk1 h hF1
 go_wp2_with fail
 go_ret
 exact ⟨rfl,sv,gv,HR1.out,HM1.out⟩
theorem Jv (base B:Nat) (s:ByteArray) (k p:Nat) (c kd d l:Int) (sv gv:Value) (fs:List FR) (gs:List SG) (w:World) (h:RS w base B s k sv gv fs gs) (hs:s.size<=2000) (hk:k<=s.size) (hpe:T.sk s k=p) (hc:T.ch s p=c)
 (_hlen:fs.length+7<=1099511627776) (_hlen2:gs.length+1<=1099511627776) (d0:0<=d) (d1:d<=1000000) :
 Calls Tryz.prog 134 #[.pointer (some ⟨B,0,none⟩),frA ⟨259,kd,d,l⟩] w (SP base B s sv gv fs gs w ⟨true,p,Zh ⟨259,kd,d,l⟩,[]⟩):=by
 show Calls Tryz.prog 134 #[.pointer (some ⟨B,0,none⟩),.agg #[J Z 259,J Z kd,J Z d,J Z l]] w _
 have hpk:p<=s.size:=by rw [<- hpe];exact T.sk_le hk
 have hpee:=fun (wz:World) (hz:RS wz base B s k sv gv fs gs)=>zF base B s k sv gv fs gs wz hs hk hz
 rw [hpe,hc] at hpee
 have HPE:Hid _:=hpee
 clear hpee
 go_enter Tryz.func134,Tryz.ntmps134
 go_wp2_with fail
 have hA:=h.alloc (O #[J Z 259,J Z kd,J Z d,J Z l] 193)
 have hF:FB (w.alloc (O #[J Z 259,J Z kd,J Z d,J Z l] 193)) w.heap.size ⟨259,kd,d,l⟩:=⟨by simp,by simp,by simp,by simp⟩
 have hou:=h.outNew
 have hwl:w.heap.size<(w.alloc (O #[J Z 259,J Z kd,J Z d,J Z l] 193)).heap.size:=by simp
 have hmv:Mv base B sv gv sv gv w (w.alloc (O #[J Z 259,J Z kd,J Z d,J Z l] 193)):=Mv.alloc h.bs _
 refine (HPE.out _ hA).mono ?_
 rintro e w1 ⟨rfl,hr1,hm1⟩
 have hk1:=hm1.kept w.heap.size hwl hou
 have hF1:=hF.of_block hk1.1
 have hwl1:w.heap.size<w1.heap.size:=Nat.lt_of_lt_of_le hwl hm1.bel.size
 have HM1:Hid (Mv base B sv gv sv gv w w1):=hmv.trans hm1
 have HR1:Hid _:=hr1
 have HF1:Hid _:=hF1
 have b0:w1.cell? ⟨w.heap.size,0,none⟩=some (J Z 259):=hF1.c0
 clear hmv hm1 hA hF hwl hr1 hk1 h hF1
 have b1:w1.cell? ⟨w.heap.size,1,none⟩=some (J Z kd):=HF1.out.c1
 have b2:w1.cell? ⟨w.heap.size,2,none⟩=some (J Z d):=HF1.out.c2
 have b3:w1.cell? ⟨w.heap.size,3,none⟩=some (J Z l):=HF1.out.c3
 go_wp2_with fail
 refine (zbk base B s p ⟨259,kd,d,l⟩ sv gv fs gs _ HR1.out (by omega) d0 d1).mono ?_
 rintro e w' ⟨rfl,sv',hr,hm⟩
 have HR4:Hid _:=hr
 have HM4:Hid _:=HM1.out.trans hm
 clear hr hm
 go_wp2_with fail
 go_ret
 exact ⟨rfl,sv',gv,HR4.out,HM4.out⟩
theorem Jw (base B:Nat) (s:ByteArray) (k p:Nat) (c kd d l:Int) (sv gv:Value) (fs:List FR) (gs:List SG) (w:World) (h:RS w base B s k sv gv fs gs) (hs:s.size<=2000) (hk:k<=s.size) (hpe:T.sk s k=p) (hc:T.ch s p=c)
 (_hlen:fs.length+7<=1099511627776) (_hlen2:gs.length+1<=1099511627776) (d0:0<=d) (d1:d<=1000000) (rz:Res) (hrz:Hid ((match ZT d p c with | some l=>(⟨true,p,l,[⟨3,p,d,-1,ByteArray.empty⟩]⟩:Res) | none=>⟨false,p,[],[]⟩)=rz)) :
 Calls Tryz.prog 134 #[.pointer (some ⟨B,0,none⟩),frA ⟨258,kd,d,l⟩] w (SP base B s sv gv fs gs w rz):=by
 show Calls Tryz.prog 134 #[.pointer (some ⟨B,0,none⟩),.agg #[J Z 258,J Z kd,J Z d,J Z l]] w _
 have hpk:p<=s.size:=by rw [<- hpe];exact T.sk_le hk
 have hpee:=fun (wz:World) (hz:RS wz base B s k sv gv fs gs)=>zF base B s k sv gv fs gs wz hs hk hz
 rw [hpe,hc] at hpee
 have HPE:Hid _:=hpee
 clear hpee
 go_enter Tryz.func134,Tryz.ntmps134
 go_wp2_with fail
 have hA:=h.alloc (O #[J Z 258,J Z kd,J Z d,J Z l] 193)
 have hF:FB (w.alloc (O #[J Z 258,J Z kd,J Z d,J Z l] 193)) w.heap.size ⟨258,kd,d,l⟩:=⟨by simp,by simp,by simp,by simp⟩
 have hou:=h.outNew
 have hwl:w.heap.size<(w.alloc (O #[J Z 258,J Z kd,J Z d,J Z l] 193)).heap.size:=by simp
 have hmv:Mv base B sv gv sv gv w (w.alloc (O #[J Z 258,J Z kd,J Z d,J Z l] 193)):=Mv.alloc h.bs _
 refine (HPE.out _ hA).mono ?_
 rintro e w1 ⟨rfl,hr1,hm1⟩
 have hk1:=hm1.kept w.heap.size hwl hou
 have hF1:=hF.of_block hk1.1
 have hwl1:w.heap.size<w1.heap.size:=Nat.lt_of_lt_of_le hwl hm1.bel.size
 have HM1:Hid (Mv base B sv gv sv gv w w1):=hmv.trans hm1
 have HR1:Hid _:=hr1
 have HF1:Hid _:=hF1
 have b0:w1.cell? ⟨w.heap.size,0,none⟩=some (J Z 258):=hF1.c0
 clear hmv hm1 hA hF hwl hr1 hk1 h hF1
 have b1:w1.cell? ⟨w.heap.size,1,none⟩=some (J Z kd):=HF1.out.c1
 have b2:w1.cell? ⟨w.heap.size,2,none⟩=some (J Z d):=HF1.out.c2
 have b3:w1.cell? ⟨w.heap.size,3,none⟩=some (J Z l):=HF1.out.c3
 go_wp2_with fail
 have hpp:T.sk s p=p:=by rw [<- hpe];exact T.sk_here (T.sk_bl s k)
 have hX:=zbw base B s p ⟨258,kd,d,l⟩ sv gv fs gs _ HR1.out hs hpk _hlen _hlen2 d0 d1
 rw [hpp,hc] at hX
 refine hX.mono ?_
 rintro e w' (⟨hno,rfl,hr,hm⟩ | ⟨lx,hyes,rfl,sv',gv',hr,hm⟩)
 ·have HR4:Hid _:=hr
  have HM4:Hid _:=HM1.out.trans hm
  have HE:Hid _:=hno
  clear hr hm hno hX
  go_wp2_with fail
  go_ret
  rw [<- hrz.out,HE.out]
  exact ⟨rfl,sv,gv,HR4.out,HM4.out⟩
 ·have HR4:Hid _:=hr
  have HM4:Hid _:=HM1.out.trans hm
  have HE:Hid _:=hyes
  clear hr hm hyes hX
  go_wp2_with fail
  go_ret
  rw [<- hrz.out,HE.out]
  exact ⟨rfl,sv',gv',HR4.out,HM4.out⟩
theorem zaK (base B:Nat) (s:ByteArray) (k p:Nat) (c kd d l:Int) (sv gv:Value) (fs:List FR) (gs:List SG) (w:World) (h:RS w base B s k sv gv fs gs) (hs:s.size<=2000) (hk:k<=s.size) (hpe:T.sk s k=p) (hc:T.ch s p=c)
 (_hlen:fs.length+7<=1099511627776) (_hlen2:gs.length+1<=1099511627776) (rz:Res) (hrz:Hid ((if ((T.dg s 9 58 true p).1 && decide (p<(T.dg s 9 58 true p).2))=true then (⟨true,(T.dg s 9 58 true p).2,[],[⟨kd,p,d,l,s.extract p (T.dg s 9 58 true p).2⟩]⟩:Res) else ⟨false,(T.dg s 9 58 true p).2,[],[]⟩)=rz)) :
 Calls Tryz.prog 134 #[.pointer (some ⟨B,0,none⟩),frA ⟨261,kd,d,l⟩] w (SP base B s sv gv fs gs w rz):=by
 show Calls Tryz.prog 134 #[.pointer (some ⟨B,0,none⟩),.agg #[J Z 261,J Z kd,J Z d,J Z l]] w _
 have hpk:p<=s.size:=by rw [<- hpe];exact T.sk_le hk
 have hpee:=fun (wz:World) (hz:RS wz base B s k sv gv fs gs)=>zF base B s k sv gv fs gs wz hs hk hz
 rw [hpe,hc] at hpee
 have HPE:Hid _:=hpee
 clear hpee
 go_enter Tryz.func134,Tryz.ntmps134
 go_wp2_with fail
 have hA:=h.alloc (O #[J Z 261,J Z kd,J Z d,J Z l] 193)
 have hF:FB (w.alloc (O #[J Z 261,J Z kd,J Z d,J Z l] 193)) w.heap.size ⟨261,kd,d,l⟩:=⟨by simp,by simp,by simp,by simp⟩
 have hou:=h.outNew
 have hwl:w.heap.size<(w.alloc (O #[J Z 261,J Z kd,J Z d,J Z l] 193)).heap.size:=by simp
 have hmv:Mv base B sv gv sv gv w (w.alloc (O #[J Z 261,J Z kd,J Z d,J Z l] 193)):=Mv.alloc h.bs _
 refine (HPE.out _ hA).mono ?_
 rintro e w1 ⟨rfl,hr1,hm1⟩
 have hk1:=hm1.kept w.heap.size hwl hou
 have hF1:=hF.of_block hk1.1
 have hwl1:w.heap.size<w1.heap.size:=Nat.lt_of_lt_of_le hwl hm1.bel.size
 have HM1:Hid (Mv base B sv gv sv gv w w1):=hmv.trans hm1
 have HR1:Hid _:=hr1
 have HF1:Hid _:=hF1
 have b0:w1.cell? ⟨w.heap.size,0,none⟩=some (J Z 261):=hF1.c0
 clear hmv hm1 hA hF hwl hr1 hk1 h hF1
 have b1:w1.cell? ⟨w.heap.size,1,none⟩=some (J Z kd):=HF1.out.c1
 have b2:w1.cell? ⟨w.heap.size,2,none⟩=some (J Z d):=HF1.out.c2
 have b3:w1.cell? ⟨w.heap.size,3,none⟩=some (J Z l):=HF1.out.c3
 go_wp2_with fail
 have hpp:T.sk s p=p:=by rw [<- hpe];exact T.sk_here (T.sk_bl s k)
 have hX:=XW base B s p ⟨261,kd,d,l⟩ 9 58 true sv gv fs gs _ HR1.out hs hpk _hlen2
 rw [hpp] at hX
 refine hX.mono ?_
 rintro e w' (⟨hno,rfl,hr,hm⟩ | ⟨hyes,rfl,gv',hr,hm⟩)
 ·have HR4:Hid _:=hr
  have HM4:Hid _:=HM1.out.trans hm
  have HE:Hid _:=hno
  clear hr hm hno hX
  go_wp2_with fail
  go_ret
  rw [<- hrz.out,HE.out]
  exact ⟨rfl,sv,gv,HR4.out,HM4.out⟩
 ·have HR4:Hid _:=hr
  have HM4:Hid _:=HM1.out.trans hm
  have HE:Hid _:=hyes
  clear hr hm hyes hX
  go_wp2_with fail
  go_ret
  rw [<- hrz.out,HE.out]
  exact ⟨rfl,sv,gv',HR4.out,HM4.out⟩
theorem step_bits (base B:Nat) (s:ByteArray) (k p:Nat) (c kd d l:Int) (sv gv:Value) (fs:List FR) (gs:List SG) (w:World) (h:RS w base B s k sv gv fs gs) (hs:s.size<=2000) (hk:k<=s.size) (hpe:T.sk s k=p) (hc:T.ch s p=c)
 (_hlen:fs.length+7<=1099511627776) (_hlen2:gs.length+1<=1099511627776) (rz:Res) (hrz:Hid ((if ((T.dg s 32 50 false p).1 && decide (p<(T.dg s 32 50 false p).2))=true then (⟨true,(T.dg s 32 50 false p).2,[],[⟨kd,p,d,l,s.extract p (T.dg s 32 50 false p).2⟩]⟩:Res) else ⟨false,(T.dg s 32 50 false p).2,[],[]⟩)=rz)) :
 Calls Tryz.prog 134 #[.pointer (some ⟨B,0,none⟩),frA ⟨262,kd,d,l⟩] w (SP base B s sv gv fs gs w rz):=by
 show Calls Tryz.prog 134 #[.pointer (some ⟨B,0,none⟩),.agg #[J Z 262,J Z kd,J Z d,J Z l]] w _
 have hpk:p<=s.size:=by rw [<- hpe];exact T.sk_le hk
 have hpee:=fun (wz:World) (hz:RS wz base B s k sv gv fs gs)=>zF base B s k sv gv fs gs wz hs hk hz
 rw [hpe,hc] at hpee
 have HPE:Hid _:=hpee
 clear hpee
 go_enter Tryz.func134,Tryz.ntmps134
 go_wp2_with fail
 have hA:=h.alloc (O #[J Z 262,J Z kd,J Z d,J Z l] 193)
 have hF:FB (w.alloc (O #[J Z 262,J Z kd,J Z d,J Z l] 193)) w.heap.size ⟨262,kd,d,l⟩:=⟨by simp,by simp,by simp,by simp⟩
 have hou:=h.outNew
 have hwl:w.heap.size<(w.alloc (O #[J Z 262,J Z kd,J Z d,J Z l] 193)).heap.size:=by simp
 have hmv:Mv base B sv gv sv gv w (w.alloc (O #[J Z 262,J Z kd,J Z d,J Z l] 193)):=Mv.alloc h.bs _
 refine (HPE.out _ hA).mono ?_
 rintro e w1 ⟨rfl,hr1,hm1⟩
 have hk1:=hm1.kept w.heap.size hwl hou
 have hF1:=hF.of_block hk1.1
 have hwl1:w.heap.size<w1.heap.size:=Nat.lt_of_lt_of_le hwl hm1.bel.size
 have HM1:Hid (Mv base B sv gv sv gv w w1):=hmv.trans hm1
 have HR1:Hid _:=hr1
 have HF1:Hid _:=hF1
 have b0:w1.cell? ⟨w.heap.size,0,none⟩=some (J Z 262):=hF1.c0
 clear hmv hm1 hA hF hwl hr1 hk1 h hF1
 have b1:w1.cell? ⟨w.heap.size,1,none⟩=some (J Z kd):=HF1.out.c1
 have b2:w1.cell? ⟨w.heap.size,2,none⟩=some (J Z d):=HF1.out.c2
 have b3:w1.cell? ⟨w.heap.size,3,none⟩=some (J Z l):=HF1.out.c3
 go_wp2_with fail
 have hpp:T.sk s p=p:=by rw [<- hpe];exact T.sk_here (T.sk_bl s k)
 have hX:=XW base B s p ⟨262,kd,d,l⟩ 32 50 false sv gv fs gs _ HR1.out hs hpk _hlen2
 rw [hpp] at hX
 refine hX.mono ?_
 rintro e w' (⟨hno,rfl,hr,hm⟩ | ⟨hyes,rfl,gv',hr,hm⟩)
 ·have HR4:Hid _:=hr
  have HM4:Hid _:=HM1.out.trans hm
  have HE:Hid _:=hno
  clear hr hm hno hX
  go_wp2_with fail
  go_ret
  rw [<- hrz.out,HE.out]
  exact ⟨rfl,sv,gv,HR4.out,HM4.out⟩
 ·have HR4:Hid _:=hr
  have HM4:Hid _:=HM1.out.trans hm
  have HE:Hid _:=hyes
  clear hr hm hyes hX
  go_wp2_with fail
  go_ret
  rw [<- hrz.out,HE.out]
  exact ⟨rfl,sv,gv',HR4.out,HM4.out⟩
theorem XC (base B:Nat) (s:ByteArray) (k p:Nat) (c kd d l:Int) (sv gv:Value) (fs:List FR) (gs:List SG) (w:World) (h:RS w base B s k sv gv fs gs) (hs:s.size<=2000) (hk:k<=s.size) (hpe:T.sk s k=p) (hc:T.ch s p=c)
 (_hlen:fs.length+7<=1099511627776) (_hlen2:gs.length+1<=1099511627776) (hc2:c<97) :
 Calls Tryz.prog 134 #[.pointer (some ⟨B,0,none⟩),frA ⟨263,kd,d,l⟩] w (SP base B s sv gv fs gs w ⟨false,p,[],[]⟩):=by
 show Calls Tryz.prog 134 #[.pointer (some ⟨B,0,none⟩),.agg #[J Z 263,J Z kd,J Z d,J Z l]] w _
 have hpk:p<=s.size:=by rw [<- hpe];exact T.sk_le hk
 have hpee:=fun (wz:World) (hz:RS wz base B s k sv gv fs gs)=>zF base B s k sv gv fs gs wz hs hk hz
 rw [hpe,hc] at hpee
 have HPE:Hid _:=hpee
 clear hpee
 go_enter Tryz.func134,Tryz.ntmps134
 go_wp2_with fail
 have hA:=h.alloc (O #[J Z 263,J Z kd,J Z d,J Z l] 193)
 have hF:FB (w.alloc (O #[J Z 263,J Z kd,J Z d,J Z l] 193)) w.heap.size ⟨263,kd,d,l⟩:=⟨by simp,by simp,by simp,by simp⟩
 have hou:=h.outNew
 have hwl:w.heap.size<(w.alloc (O #[J Z 263,J Z kd,J Z d,J Z l] 193)).heap.size:=by simp
 have hmv:Mv base B sv gv sv gv w (w.alloc (O #[J Z 263,J Z kd,J Z d,J Z l] 193)):=Mv.alloc h.bs _
 refine (HPE.out _ hA).mono ?_
 rintro e w1 ⟨rfl,hr1,hm1⟩
 have hk1:=hm1.kept w.heap.size hwl hou
 have hF1:=hF.of_block hk1.1
 have hwl1:w.heap.size<w1.heap.size:=Nat.lt_of_lt_of_le hwl hm1.bel.size
 have HM1:Hid (Mv base B sv gv sv gv w w1):=hmv.trans hm1
 have HR1:Hid _:=hr1
 have HF1:Hid _:=hF1
 have b0:w1.cell? ⟨w.heap.size,0,none⟩=some (J Z 263):=hF1.c0
 clear hmv hm1 hA hF hwl hr1 hk1 h hF1
 go_wp2_with fail
 go_ret
 exact ⟨rfl,sv,gv,HR1.out,HM1.out⟩
theorem XD (base B:Nat) (s:ByteArray) (k p:Nat) (c kd d l:Int) (sv gv:Value) (fs:List FR) (gs:List SG) (w:World) (h:RS w base B s k sv gv fs gs) (hs:s.size<=2000) (hk:k<=s.size) (hpe:T.sk s k=p) (hc:T.ch s p=c)
 (_hlen:fs.length+7<=1099511627776) (_hlen2:gs.length+1<=1099511627776) (hc2:122<c) :
 Calls Tryz.prog 134 #[.pointer (some ⟨B,0,none⟩),frA ⟨263,kd,d,l⟩] w (SP base B s sv gv fs gs w ⟨false,p,[],[]⟩):=by
 show Calls Tryz.prog 134 #[.pointer (some ⟨B,0,none⟩),.agg #[J Z 263,J Z kd,J Z d,J Z l]] w _
 have hpk:p<=s.size:=by rw [<- hpe];exact T.sk_le hk
 have hpee:=fun (wz:World) (hz:RS wz base B s k sv gv fs gs)=>zF base B s k sv gv fs gs wz hs hk hz
 rw [hpe,hc] at hpee
 have HPE:Hid _:=hpee
 clear hpee
 go_enter Tryz.func134,Tryz.ntmps134
 go_wp2_with fail
 have hA:=h.alloc (O #[J Z 263,J Z kd,J Z d,J Z l] 193)
 have hF:FB (w.alloc (O #[J Z 263,J Z kd,J Z d,J Z l] 193)) w.heap.size ⟨263,kd,d,l⟩:=⟨by simp,by simp,by simp,by simp⟩
 have hou:=h.outNew
 have hwl:w.heap.size<(w.alloc (O #[J Z 263,J Z kd,J Z d,J Z l] 193)).heap.size:=by simp
 have hmv:Mv base B sv gv sv gv w (w.alloc (O #[J Z 263,J Z kd,J Z d,J Z l] 193)):=Mv.alloc h.bs _
 refine (HPE.out _ hA).mono ?_
 rintro e w1 ⟨rfl,hr1,hm1⟩
 have hk1:=hm1.kept w.heap.size hwl hou
 have hF1:=hF.of_block hk1.1
 have hwl1:w.heap.size<w1.heap.size:=Nat.lt_of_lt_of_le hwl hm1.bel.size
 have HM1:Hid (Mv base B sv gv sv gv w w1):=hmv.trans hm1
 have HR1:Hid _:=hr1
 have HF1:Hid _:=hF1
 have b0:w1.cell? ⟨w.heap.size,0,none⟩=some (J Z 263):=hF1.c0
 clear hmv hm1 hA hF hwl hr1 hk1 h hF1
 have hc3:¬ c<97:=by omega
 go_wp2_with fail
 go_ret
 exact ⟨rfl,sv,gv,HR1.out,HM1.out⟩
theorem qL (base B:Nat) (s:ByteArray) (k p:Nat) (c kd d l:Int) (sv gv:Value) (fs:List FR) (gs:List SG) (w:World) (h:RS w base B s k sv gv fs gs) (hs:s.size<=2000) (hk:k<=s.size) (hpe:T.sk s k=p) (hc:T.ch s p=c)
 (_hlen:fs.length+7<=1099511627776) (_hlen2:gs.length+1<=1099511627776) (sy:Int) (hn:sy≠256/\sy≠257/\sy≠258/\sy≠259/\sy≠260/\sy≠261/\sy≠262/\sy≠263) (hc2:c≠sy) :
 Calls Tryz.prog 134 #[.pointer (some ⟨B,0,none⟩),frA ⟨sy,kd,d,l⟩] w (SP base B s sv gv fs gs w ⟨false,p,[],[]⟩):=by
 show Calls Tryz.prog 134 #[.pointer (some ⟨B,0,none⟩),.agg #[J Z sy,J Z kd,J Z d,J Z l]] w _
 have hpk:p<=s.size:=by rw [<- hpe];exact T.sk_le hk
 have hpee:=fun (wz:World) (hz:RS wz base B s k sv gv fs gs)=>zF base B s k sv gv fs gs wz hs hk hz
 rw [hpe,hc] at hpee
 have HPE:Hid _:=hpee
 have n0:(sy==256)=false:=beq_eq_false_iff_ne.2 hn.1
 have n1:(sy==257)=false:=beq_eq_false_iff_ne.2 hn.2.1
 have n2:(sy==258)=false:=beq_eq_false_iff_ne.2 hn.2.2.1
 have n3:(sy==259)=false:=beq_eq_false_iff_ne.2 hn.2.2.2.1
 have n4:(sy==260)=false:=beq_eq_false_iff_ne.2 hn.2.2.2.2.1
 have n5:(sy==261)=false:=beq_eq_false_iff_ne.2 hn.2.2.2.2.2.1
 have n6:(sy==262)=false:=beq_eq_false_iff_ne.2 hn.2.2.2.2.2.2.1
 have n7:(sy==263)=false:=beq_eq_false_iff_ne.2 hn.2.2.2.2.2.2.2
 clear hpee
 go_enter Tryz.func134,Tryz.ntmps134
 go_wp2_with fail
 have hA:=h.alloc (O #[J Z sy,J Z kd,J Z d,J Z l] 193)
 have hF:FB (w.alloc (O #[J Z sy,J Z kd,J Z d,J Z l] 193)) w.heap.size ⟨sy,kd,d,l⟩:=⟨by simp,by simp,by simp,by simp⟩
 have hou:=h.outNew
 have hwl:w.heap.size<(w.alloc (O #[J Z sy,J Z kd,J Z d,J Z l] 193)).heap.size:=by simp
 have hmv:Mv base B sv gv sv gv w (w.alloc (O #[J Z sy,J Z kd,J Z d,J Z l] 193)):=Mv.alloc h.bs _
 refine (HPE.out _ hA).mono ?_
 rintro e w1 ⟨rfl,hr1,hm1⟩
 have hk1:=hm1.kept w.heap.size hwl hou
 have hF1:=hF.of_block hk1.1
 have hwl1:w.heap.size<w1.heap.size:=Nat.lt_of_lt_of_le hwl hm1.bel.size
 have HM1:Hid (Mv base B sv gv sv gv w w1):=hmv.trans hm1
 have HR1:Hid _:=hr1
 have HF1:Hid _:=hF1
 have b0:w1.cell? ⟨w.heap.size,0,none⟩=some (J Z sy):=hF1.c0
 clear hmv hm1 hA hF hwl hr1 hk1 h hF1
 have hcc:(c==sy)=false:=by rw [beq_eq_false_iff_ne];exact hc2
 have hcc2:(c != sy)=true:=by simp [bne,hcc]
 go_wp2_with fail
 go_ret
 exact ⟨rfl,sv,gv,HR1.out,HM1.out⟩
theorem Jx (base B:Nat) (s:ByteArray) (k p:Nat) (c kd d l:Int) (sv gv:Value) (fs:List FR) (gs:List SG) (w:World) (h:RS w base B s k sv gv fs gs) (hs:s.size<=2000) (hk:k<=s.size) (hpe:T.sk s k=p) (hc:T.ch s p=c)
 (_hlen:fs.length+7<=1099511627776) (_hlen2:gs.length+1<=1099511627776) (sy:Int) (hn:sy≠256/\sy≠257/\sy≠258/\sy≠259/\sy≠260/\sy≠261/\sy≠262/\sy≠263) (hc2:c=sy) (hp1:p<s.size) :
 Calls Tryz.prog 134 #[.pointer (some ⟨B,0,none⟩),frA ⟨sy,kd,d,l⟩] w (SP base B s sv gv fs gs w ⟨true,p+1,[],[]⟩):=by
 show Calls Tryz.prog 134 #[.pointer (some ⟨B,0,none⟩),.agg #[J Z sy,J Z kd,J Z d,J Z l]] w _
 have hpk:p<=s.size:=by rw [<- hpe];exact T.sk_le hk
 have hpee:=fun (wz:World) (hz:RS wz base B s k sv gv fs gs)=>zF base B s k sv gv fs gs wz hs hk hz
 rw [hpe,hc] at hpee
 have HPE:Hid _:=hpee
 have n0:(sy==256)=false:=beq_eq_false_iff_ne.2 hn.1
 have n1:(sy==257)=false:=beq_eq_false_iff_ne.2 hn.2.1
 have n2:(sy==258)=false:=beq_eq_false_iff_ne.2 hn.2.2.1
 have n3:(sy==259)=false:=beq_eq_false_iff_ne.2 hn.2.2.2.1
 have n4:(sy==260)=false:=beq_eq_false_iff_ne.2 hn.2.2.2.2.1
 have n5:(sy==261)=false:=beq_eq_false_iff_ne.2 hn.2.2.2.2.2.1
 have n6:(sy==262)=false:=beq_eq_false_iff_ne.2 hn.2.2.2.2.2.2.1
 have n7:(sy==263)=false:=beq_eq_false_iff_ne.2 hn.2.2.2.2.2.2.2
 clear hpee
 go_enter Tryz.func134,Tryz.ntmps134
 go_wp2_with fail
 have hA:=h.alloc (O #[J Z sy,J Z kd,J Z d,J Z l] 193)
 have hF:FB (w.alloc (O #[J Z sy,J Z kd,J Z d,J Z l] 193)) w.heap.size ⟨sy,kd,d,l⟩:=⟨by simp,by simp,by simp,by simp⟩
 have hou:=h.outNew
 have hwl:w.heap.size<(w.alloc (O #[J Z sy,J Z kd,J Z d,J Z l] 193)).heap.size:=by simp
 have hmv:Mv base B sv gv sv gv w (w.alloc (O #[J Z sy,J Z kd,J Z d,J Z l] 193)):=Mv.alloc h.bs _
 refine (HPE.out _ hA).mono ?_
 rintro e w1 ⟨rfl,hr1,hm1⟩
 have hk1:=hm1.kept w.heap.size hwl hou
 have hF1:=hF.of_block hk1.1
 have hwl1:w.heap.size<w1.heap.size:=Nat.lt_of_lt_of_le hwl hm1.bel.size
 have HM1:Hid (Mv base B sv gv sv gv w w1):=hmv.trans hm1
 have HR1:Hid _:=hr1
 have HF1:Hid _:=hF1
 have b0:w1.cell? ⟨w.heap.size,0,none⟩=some (J Z sy):=hF1.c0
 clear hmv hm1 hA hF hwl hr1 hk1 h hF1
 have hcc:(c==sy)=true:=by rw [beq_iff_eq];exact hc2
 have hcc2:(c != sy)=false:=by simp [bne,hcc]
 have c1:=HR1.out.c1
 have z1:=HR1.out.fz 1
 have hp2:(p:Int)<2000:=by omega
 go_wp2_with fail
 go_ret
 exact ⟨rfl,sv,gv,HR1.out.at (p+1) _ (by omega),HM1.out.trans (HR1.out.atMv _)⟩
theorem Qq (base B:Nat) (s:ByteArray) (k p:Nat) (c kd d l:Int) (sv gv:Value) (fs:List FR) (gs:List SG) (w:World) (h:RS w base B s k sv gv fs gs) (hs:s.size<=2000) (hk:k<=s.size) (hpe:T.sk s k=p) (hc:T.ch s p=c)
 (_hlen:fs.length+7<=1099511627776) (_hlen2:gs.length+1<=1099511627776) (hc2:97<=c) (hc3:c<=122) (hp1:p<s.size) :
 Calls Tryz.prog 134 #[.pointer (some ⟨B,0,none⟩),frA ⟨263,kd,d,l⟩] w (SP base B s sv gv fs gs w ⟨true,p+1,[],[⟨kd,p,d,l,s.extract p (p+1)⟩]⟩):=by
 show Calls Tryz.prog 134 #[.pointer (some ⟨B,0,none⟩),.agg #[J Z 263,J Z kd,J Z d,J Z l]] w _
 have hpk:p<=s.size:=by rw [<- hpe];exact T.sk_le hk
 have hpee:=fun (wz:World) (hz:RS wz base B s k sv gv fs gs)=>zF base B s k sv gv fs gs wz hs hk hz
 rw [hpe,hc] at hpee
 have HPE:Hid _:=hpee
 clear hpee
 go_enter Tryz.func134,Tryz.ntmps134
 go_wp2_with fail
 have hA:=h.alloc (O #[J Z 263,J Z kd,J Z d,J Z l] 193)
 have hF:FB (w.alloc (O #[J Z 263,J Z kd,J Z d,J Z l] 193)) w.heap.size ⟨263,kd,d,l⟩:=⟨by simp,by simp,by simp,by simp⟩
 have hou:=h.outNew
 have hwl:w.heap.size<(w.alloc (O #[J Z 263,J Z kd,J Z d,J Z l] 193)).heap.size:=by simp
 have hmv:Mv base B sv gv sv gv w (w.alloc (O #[J Z 263,J Z kd,J Z d,J Z l] 193)):=Mv.alloc h.bs _
 refine (HPE.out _ hA).mono ?_
 rintro e w1 ⟨rfl,hr1,hm1⟩
 have hk1:=hm1.kept w.heap.size hwl hou
 have hF1:=hF.of_block hk1.1
 have hwl1:w.heap.size<w1.heap.size:=Nat.lt_of_lt_of_le hwl hm1.bel.size
 have HM1:Hid (Mv base B sv gv sv gv w w1):=hmv.trans hm1
 have HR1:Hid _:=hr1
 have HF1:Hid _:=hF1
 have b0:w1.cell? ⟨w.heap.size,0,none⟩=some (J Z 263):=hF1.c0
 clear hmv hm1 hA hF hwl hr1 hk1 h hF1
 have hc4:¬ c<97:=by omega
 have hc5:¬ 122<c:=by omega
 have c1:=HR1.out.c1
 have z1:=HR1.out.fz 1
 have hp2:(p:Int)<2000:=by omega
 go_wp2_with fail
 clear c1 z1 b0
 have HR2:Hid (RS (w1.setCell ⟨B,1,none⟩ (J Z ((p:Int)+1))) base B s (p+1) sv gv fs gs):=HR1.out.at (p+1) _ (by omega)
 have HM2:Hid (Mv base B sv gv sv gv w (w1.setCell ⟨B,1,none⟩ (J Z ((p:Int)+1)))):=HM1.out.trans (HR1.out.atMv _)
 have HF2:FB (w1.setCell ⟨B,1,none⟩ (J Z ((p:Int)+1))) w.heap.size ⟨263,kd,d,l⟩:=HF1.out.of_block (za hou.1)
 have c1:=HR2.out.c1
 rw [Int.natCast_add,Int.natCast_one] at c1
 have b0:(w1.setCell ⟨B,1,none⟩ (J Z ((p:Int)+1))).cell? ⟨w.heap.size,0,none⟩=some (J Z 263):=HF2.c0
 have b1:(w1.setCell ⟨B,1,none⟩ (J Z ((p:Int)+1))).cell? ⟨w.heap.size,1,none⟩=some (J Z kd):=HF2.c1
 have b2:(w1.setCell ⟨B,1,none⟩ (J Z ((p:Int)+1))).cell? ⟨w.heap.size,2,none⟩=some (J Z d):=HF2.c2
 have b3:(w1.setCell ⟨B,1,none⟩ (J Z ((p:Int)+1))).cell? ⟨w.heap.size,3,none⟩=some (J Z l):=HF2.c3
 have hz2:w.heap.size<(w1.setCell ⟨B,1,none⟩ (J Z ((p:Int)+1))).heap.size:=Nat.lt_of_lt_of_le hwl1 (HR1.out.atMv _).bel.size
 clear HF2 HF1 HM1
 generalize w1.setCell ⟨B,1,none⟩ (J Z ((p:Int)+1))=w2 at *
 have hpp:(p:Int)+1-1=p:=by omega
 have hwp:IntKind.i64.wrap (p:Int)=p:=by unfold IntKind.wrap;simp [IntKind.signed,IntKind.bits];omega
 have hkeep:Hid (∀ (w':World) (gv':Value),RS w' base B s (p+1) sv gv' fs (⟨kd,p,d,l,s.extract p (p+1)⟩::gs)->Mv base B sv gv sv gv' w2.drew w'->w'.cell? ⟨B,1,none⟩=some (J Z ((p:Int)+1))/\w'.cell? ⟨w.heap.size,0,none⟩=some (J Z 263)/\w'.cell? ⟨w.heap.size,1,none⟩=some (J Z kd)/\w'.cell? ⟨w.heap.size,2,none⟩=some (J Z d)/\w'.cell? ⟨w.heap.size,3,none⟩=some (J Z l)):=by
  intro w' gv' hr hm
  have eI:w'.heap[w.heap.size]?=w2.heap[w.heap.size]?:=(hm.kept _ hz2 hou).1
  have c1':=hr.c1
  rw [Int.natCast_add,Int.natCast_one] at c1'
  exact ⟨c1',by rw [World.cell?_of_block (w:=w2) eI];exact b0,by rw [World.cell?_of_block (w:=w2) eI];exact b1,by rw [World.cell?_of_block (w:=w2) eI];exact b2,by rw [World.cell?_of_block (w:=w2) eI];exact b3⟩
 go_region_held3 (fun w'=>w'.cell? ⟨B,1,none⟩=some (J Z ((p:Int)+1))/\w'.cell? ⟨w.heap.size,0,none⟩=some (J Z 263)/\w'.cell? ⟨w.heap.size,1,none⟩=some (J Z kd)/\w'.cell? ⟨w.heap.size,2,none⟩=some (J Z d)/\w'.cell? ⟨w.heap.size,3,none⟩=some (J Z l)) (first | (refine hkeep.out _ _ hr hm;done) | (exact ⟨c1,b0,b1,b2,b3⟩)) (first | (go_at_call 166;refine (xp base B s (p+1) p ⟨263,kd,d,l⟩ sv gv fs gs _ HR2.out.drew (by omega) hp1 _hlen2).mono ?_;rintro e w' ⟨rfl,gv',hr,hm⟩))
 all_goals
  have HR3:Hid _:=hr
  have HM3:Hid (Mv base B sv gv sv gv' w w'):=HM2.out.drew.trans hm
  clear hr hm
  go_wp2_with fail
  go_ret
  exact ⟨rfl,sv,gv',HR3.out,HM3.out⟩
end Go.Proofs.YtaebngpoagjafabGreat
