/-
  OUR OWN.
-/
import Derived.Test.YtaebngpoagjafaaGreatU04
import Derived.Test.YtaebngpoagjafaaGreatU05
import Derived.Test.YtaebngpoagjafaaGreatU06
import Derived.Test.YtaebngpoagjafaaGreatU07
set_option maxRecDepth 100000
namespace Go.Proofs.YtaebngpoagjafaaGreat
open Go.RowKit
set_option maxHeartbeats 3200000 in
theorem expr_no (base B:Nat) (s:ByteArray) (k p:Nat) (f:FR) (c:Int) (sv gv:Value) (fs:List FR) (gs:List SG) (w:World) (h:RS w base B s k sv gv fs gs) (hs:s.size<=2000) (hk:k<=s.size) (hpe:T.sk s k=p) (hc:T.ch s p=c)
   (d0:0<=f.depth) (d1:f.depth<=1000000) (n119:(c==119)=false) (n109:(c==109)=false) (n103:(c==103)=false) (n123:(c==123)=false) (n102:(c==102)=false) (n116:(c==116)=false) (n64:(c==64)=false) (n61:(c==61)=false) :
   Calls Tryz.prog 173 #[.pointer (some ⟨B,0,none⟩),frA f] w fun e w'=>e=.returned (.bool false)/\RS w' base B s p sv gv fs gs/\Mv base B sv gv sv gv w w':=by
 have hpee:=fun (wz:World) (hz:RS wz base B s k sv gv fs gs)=>peek_any base B s k sv gv fs gs wz hs hk hz
 rw [hpe,hc] at hpee
 have HPE:Hid (∀ (wz:World),RS wz base B s k sv gv fs gs->Calls Tryz.prog 135 #[.pointer (some ⟨B,0,none⟩)] wz fun e w'=>e=.returned (.int .i64 c)/\RS w' base B s p sv gv fs gs/\Mv base B sv gv sv gv wz w'):=hpee
 clear hpe hpee hk hc
 have hbi:=fun w=>buildF2 258 (f.depth+1) w
 unfold frA
 go_enter Tryz.func173,Tryz.ntmps173
 go_wp2_with fail
 have hA:=h.alloc (.cells #[.int .i64 f.sym,.int .i64 f.kind,.int .i64 f.depth,.int .i64 f.list] 187)
 have hF:FB (w.alloc (.cells #[.int .i64 f.sym,.int .i64 f.kind,.int .i64 f.depth,.int .i64 f.list] 187)) w.heap.size f:=⟨by simp,by simp,by simp,by simp⟩
 have hou:=h.outNew
 have hwl:w.heap.size<(w.alloc (.cells #[.int .i64 f.sym,.int .i64 f.kind,.int .i64 f.depth,.int .i64 f.list] 187)).heap.size:=by simp
 have hmv:Mv base B sv gv sv gv w (w.alloc (.cells #[.int .i64 f.sym,.int .i64 f.kind,.int .i64 f.depth,.int .i64 f.list] 187)):=Mv.alloc h.bs _
 refine (HPE.out _ hA).mono ?_
 rintro e w1 ⟨rfl,hr1,hm1⟩
 have hk1:=hm1.kept w.heap.size hwl hou
 have hF1:=hF.of_block hk1.1
 have hwl1:w.heap.size<w1.heap.size:=Nat.lt_of_lt_of_le hwl hm1.bel.size
 have HM1:Hid (Mv base B sv gv sv gv w w1):=hmv.trans hm1
 have HR1:Hid (RS w1 base B s p sv gv fs gs):=hr1
 have c1:=hr1.c1
 have b2:=hF1.c2
 clear hmv hm1 hA hF hwl hr1 hk1 h hF1
 go_wp2_with fail
 refine (listOf_any _ _ _ _).mono ?_
 rintro e w' ⟨rfl,hww⟩
 subst w'
 go_wp2_with fail
 go_ret
 exact ⟨rfl,(HR1.out.alloc _).alloc _,(HM1.out.trans (Mv.alloc HR1.out.bs _)).trans (Mv.alloc (HR1.out.alloc _).bs _)⟩
theorem expr_any (base B:Nat) (s:ByteArray) (k:Nat) (f:FR) (sv gv:Value) (fs:List FR) (gs:List SG) (w:World) (h:RS w base B s k sv gv fs gs) (hs:s.size<=2000) (hk:k<=s.size)
   (hlen:fs.length+7<=1099511627776) (hlen2:gs.length+1<=1099511627776) (d0:0<=f.depth) (d1:f.depth<=1000000) :
   Calls Tryz.prog 173 #[.pointer (some ⟨B,0,none⟩),frA f] w fun e w' =>
     (exprL f.depth (T.sk s k) (T.ch s (T.sk s k))=none/\e=.returned (.bool false)/\RS w' base B s (T.sk s k) sv gv fs gs/\Mv base B sv gv sv gv w w') \/
     ∃ l,exprL f.depth (T.sk s k) (T.ch s (T.sk s k))=some l/\e=.returned (.bool true)/\∃ sv' gv',RS w' base B s (T.sk s k) sv' gv' (l++fs) (⟨3,T.sk s k,f.depth,-1,ByteArray.empty⟩::gs)/\Mv base B sv gv sv' gv' w w':=by
 generalize hpe:T.sk s k=p
 generalize hc:T.ch s p=c
 by_cases n123:c=123
 · refine (expr_brace base B s k p f sv gv fs gs w h hs hk hpe (hc.trans n123) hlen hlen2 d0 d1).mono ?_
   rintro e w' ⟨he,sv',gv',hr,hm⟩
   exact .inr ⟨_,by subst n123;rfl,he,sv',gv',hr,hm⟩
 by_cases n119:c=119
 · refine (expr_pool base B s k p f sv gv fs gs w h hs hk hpe (hc.trans n119) hlen hlen2 d0 d1).mono ?_
   rintro e w' ⟨he,sv',gv',hr,hm⟩
   exact .inr ⟨_,by subst n119;rfl,he,sv',gv',hr,hm⟩
 by_cases n102:c=102
 · refine (expr_chain base B s k p f sv gv fs gs w h hs hk hpe (hc.trans n102) hlen hlen2 d0 d1).mono ?_
   rintro e w' ⟨he,sv',gv',hr,hm⟩
   exact .inr ⟨_,by subst n102;rfl,he,sv',gv',hr,hm⟩
 by_cases n109:c=109
 · refine (expr_bits base B s k p f sv gv fs gs w h hs hk hpe (hc.trans n109) hlen hlen2 d0 d1).mono ?_
   rintro e w' ⟨he,sv',gv',hr,hm⟩
   exact .inr ⟨_,by subst n109;rfl,he,sv',gv',hr,hm⟩
 by_cases n103:c=103
 · refine (expr_region base B s k p f sv gv fs gs w h hs hk hpe (hc.trans n103) hlen hlen2 d0 d1).mono ?_
   rintro e w' ⟨he,sv',gv',hr,hm⟩
   exact .inr ⟨_,by subst n103;rfl,he,sv',gv',hr,hm⟩
 by_cases n116:c=116
 · refine (expr_ttl base B s k p f sv gv fs gs w h hs hk hpe (hc.trans n116) hlen hlen2 d0 d1).mono ?_
   rintro e w' ⟨he,sv',gv',hr,hm⟩
   exact .inr ⟨_,by subst n116;rfl,he,sv',gv',hr,hm⟩
 by_cases n64:c=64
 · refine (expr_alias base B s k p f sv gv fs gs w h hs hk hpe (hc.trans n64) hlen hlen2 d0 d1).mono ?_
   rintro e w' ⟨he,sv',gv',hr,hm⟩
   exact .inr ⟨_,by subst n64;rfl,he,sv',gv',hr,hm⟩
 by_cases n61:c=61
 · refine (expr_name base B s k p f sv gv fs gs w h hs hk hpe (hc.trans n61) hlen hlen2 d0 d1).mono ?_
   rintro e w' ⟨he,sv',gv',hr,hm⟩
   exact .inr ⟨_,by subst n61;rfl,he,sv',gv',hr,hm⟩
 have hno:exprL f.depth p c=none:=by unfold exprL;rw [if_neg n123,if_neg n119,if_neg n102,if_neg n109,if_neg n103,if_neg n116,if_neg n64,if_neg n61]
 refine (expr_no base B s k p f c sv gv fs gs w h hs hk hpe hc d0 d1 (beq_eq_false_iff_ne.2 n119) (beq_eq_false_iff_ne.2 n109) (beq_eq_false_iff_ne.2 n103) (beq_eq_false_iff_ne.2 n123) (beq_eq_false_iff_ne.2 n102) (beq_eq_false_iff_ne.2 n116) (beq_eq_false_iff_ne.2 n64) (beq_eq_false_iff_ne.2 n61)).mono ?_
 rintro e w' ⟨he,hr,hm⟩
 exact .inl ⟨hno,he,hr,hm⟩
end Go.Proofs.YtaebngpoagjafaaGreat
namespace Go.Proofs.YtaebngpoagjafaaGreat
open Go.RowKit
def SP (base B:Nat) (s:ByteArray) (sv gv:Value) (fs:List FR) (gs:List SG) (w:World) (r:Res) (e:Ending) (w':World):Prop :=
 e=.returned (.bool r.ok)/\∃ sv' gv',RS w' base B s r.at_ sv' gv' (r.push++fs) (r.sg++gs)/\Mv base B sv gv sv' gv' w w'
attribute [local go_sem ↓] Go.wp_at_zero Go.wp_at_succ
set_option maxHeartbeats 6400000 in
theorem step_rule (base B:Nat) (s:ByteArray) (k p:Nat) (c kd d l:Int) (sv gv:Value) (fs:List FR) (gs:List SG) (w:World) (h:RS w base B s k sv gv fs gs) (hs:s.size<=2000) (hk:k<=s.size) (hpe:T.sk s k=p) (hc:T.ch s p=c)
   (_hlen:fs.length+7<=1099511627776) (_hlen2:gs.length+1<=1099511627776) :
   Calls Tryz.prog 134 #[.pointer (some ⟨B,0,none⟩),frA ⟨256,kd,d,l⟩] w (SP base B s sv gv fs gs w ⟨true,p,[⟨263,1,0,-1⟩,byF 58,⟨258,0,0,0⟩],[]⟩):=by
 show Calls Tryz.prog 134 #[.pointer (some ⟨B,0,none⟩),.agg #[.int .i64 256,.int .i64 kd,.int .i64 d,.int .i64 l]] w _
 have hpk:p<=s.size:=by rw [<- hpe];exact T.sk_le hk
 have hpee:=fun (wz:World) (hz:RS wz base B s k sv gv fs gs)=>peek_any base B s k sv gv fs gs wz hs hk hz
 rw [hpe,hc] at hpee
 have HPE:Hid (∀ (wz:World),RS wz base B s k sv gv fs gs->Calls Tryz.prog 135 #[.pointer (some ⟨B,0,none⟩)] wz fun e w'=>e=.returned (.int .i64 c)/\RS w' base B s p sv gv fs gs/\Mv base B sv gv sv gv wz w'):=hpee
 clear hpee
 go_enter Tryz.func134,Tryz.ntmps134
 go_wp2_with fail
 have hA:=h.alloc (.cells #[.int .i64 256,.int .i64 kd,.int .i64 d,.int .i64 l] 187)
 have hF:FB (w.alloc (.cells #[.int .i64 256,.int .i64 kd,.int .i64 d,.int .i64 l] 187)) w.heap.size ⟨256,kd,d,l⟩:=⟨by simp,by simp,by simp,by simp⟩
 have hou:=h.outNew
 have hwl:w.heap.size<(w.alloc (.cells #[.int .i64 256,.int .i64 kd,.int .i64 d,.int .i64 l] 187)).heap.size:=by simp
 have hmv:Mv base B sv gv sv gv w (w.alloc (.cells #[.int .i64 256,.int .i64 kd,.int .i64 d,.int .i64 l] 187)):=Mv.alloc h.bs _
 refine (HPE.out _ hA).mono ?_
 rintro e w1 ⟨rfl,hr1,hm1⟩
 have hk1:=hm1.kept w.heap.size hwl hou
 have hF1:=hF.of_block hk1.1
 have hwl1:w.heap.size<w1.heap.size:=Nat.lt_of_lt_of_le hwl hm1.bel.size
 have HM1:Hid (Mv base B sv gv sv gv w w1):=hmv.trans hm1
 have HR1:Hid (RS w1 base B s p sv gv fs gs):=hr1
 have HF1:Hid (FB w1 w.heap.size ⟨256,kd,d,l⟩):=hF1
 have b0:w1.cell? ⟨w.heap.size,0,none⟩=some (.int .i64 256):=hF1.c0
 clear hmv hm1 hA hF hwl hr1 hk1 h hF1
 have hbd0:=fun w=>buildF13 263 1 (-1) w
 have hbd1:=fun w=>buildF1 258 w
 go_wp2_with fail
 refine (byteOf_any _ _ (by omega) (by omega)).mono ?_
 rintro e w' ⟨rfl,hww⟩
 subst w'
 go_wp2_with fail
 refine (push_newL base B _ _ s p sv gv fs [⟨263,1,0,-1⟩,byF 58,⟨258,0,0,0⟩] gs _ _ (HR1.out.alloc _) (by simp) (by rfl) (by simp;omega) _ rfl).mono ?_
 rintro e w' ⟨rfl,sv',hr,hm⟩
 have HR4:Hid (RS w' base B s p sv' gv ([⟨263,1,0,-1⟩,byF 58,⟨258,0,0,0⟩]++fs) gs):=hr
 have HM4:Hid (Mv base B sv gv sv' gv w w'):=(HM1.out.trans (Mv.alloc HR1.out.bs _)).trans hm
 clear hr hm
 go_wp2_with fail
 go_ret
 exact ⟨rfl,sv',gv,HR4.out,HM4.out⟩
set_option maxHeartbeats 6400000 in
theorem step_more (base B:Nat) (s:ByteArray) (k p:Nat) (c kd d l:Int) (sv gv:Value) (fs:List FR) (gs:List SG) (w:World) (h:RS w base B s k sv gv fs gs) (hs:s.size<=2000) (hk:k<=s.size) (hpe:T.sk s k=p) (hc:T.ch s p=c)
   (_hlen:fs.length+7<=1099511627776) (_hlen2:gs.length+1<=1099511627776) (hc2:c=59) :
   Calls Tryz.prog 134 #[.pointer (some ⟨B,0,none⟩),frA ⟨257,kd,d,l⟩] w (SP base B s sv gv fs gs w ⟨true,p,[byF 59,⟨256,0,0,0⟩,⟨257,0,0,0⟩],[]⟩):=by
 show Calls Tryz.prog 134 #[.pointer (some ⟨B,0,none⟩),.agg #[.int .i64 257,.int .i64 kd,.int .i64 d,.int .i64 l]] w _
 have hpk:p<=s.size:=by rw [<- hpe];exact T.sk_le hk
 have hpee:=fun (wz:World) (hz:RS wz base B s k sv gv fs gs)=>peek_any base B s k sv gv fs gs wz hs hk hz
 rw [hpe,hc] at hpee
 have HPE:Hid (∀ (wz:World),RS wz base B s k sv gv fs gs->Calls Tryz.prog 135 #[.pointer (some ⟨B,0,none⟩)] wz fun e w'=>e=.returned (.int .i64 c)/\RS w' base B s p sv gv fs gs/\Mv base B sv gv sv gv wz w'):=hpee
 have hcc:(c==59)=true:=by rw [hc2];decide
 clear hpee
 go_enter Tryz.func134,Tryz.ntmps134
 go_wp2_with fail
 have hA:=h.alloc (.cells #[.int .i64 257,.int .i64 kd,.int .i64 d,.int .i64 l] 187)
 have hF:FB (w.alloc (.cells #[.int .i64 257,.int .i64 kd,.int .i64 d,.int .i64 l] 187)) w.heap.size ⟨257,kd,d,l⟩:=⟨by simp,by simp,by simp,by simp⟩
 have hou:=h.outNew
 have hwl:w.heap.size<(w.alloc (.cells #[.int .i64 257,.int .i64 kd,.int .i64 d,.int .i64 l] 187)).heap.size:=by simp
 have hmv:Mv base B sv gv sv gv w (w.alloc (.cells #[.int .i64 257,.int .i64 kd,.int .i64 d,.int .i64 l] 187)):=Mv.alloc h.bs _
 refine (HPE.out _ hA).mono ?_
 rintro e w1 ⟨rfl,hr1,hm1⟩
 have hk1:=hm1.kept w.heap.size hwl hou
 have hF1:=hF.of_block hk1.1
 have hwl1:w.heap.size<w1.heap.size:=Nat.lt_of_lt_of_le hwl hm1.bel.size
 have HM1:Hid (Mv base B sv gv sv gv w w1):=hmv.trans hm1
 have HR1:Hid (RS w1 base B s p sv gv fs gs):=hr1
 have HF1:Hid (FB w1 w.heap.size ⟨257,kd,d,l⟩):=hF1
 have b0:w1.cell? ⟨w.heap.size,0,none⟩=some (.int .i64 257):=hF1.c0
 clear hmv hm1 hA hF hwl hr1 hk1 h hF1
 have hbd0:=fun w=>buildF1 256 w
 have hbd1:=fun w=>buildF1 257 w
 go_wp2_with fail
 refine (byteOf_any _ _ (by omega) (by omega)).mono ?_
 rintro e w' ⟨rfl,hww⟩
 subst w'
 go_wp2_with fail
 refine (push_newL base B _ _ s p sv gv fs [byF 59,⟨256,0,0,0⟩,⟨257,0,0,0⟩] gs _ _ (HR1.out.alloc _) (by simp) (by rfl) (by simp;omega) _ rfl).mono ?_
 rintro e w' ⟨rfl,sv',hr,hm⟩
 have HR4:Hid (RS w' base B s p sv' gv ([byF 59,⟨256,0,0,0⟩,⟨257,0,0,0⟩]++fs) gs):=hr
 have HM4:Hid (Mv base B sv gv sv' gv w w'):=(HM1.out.trans (Mv.alloc HR1.out.bs _)).trans hm
 clear hr hm
 go_wp2_with fail
 go_ret
 exact ⟨rfl,sv',gv,HR4.out,HM4.out⟩
set_option maxHeartbeats 6400000 in
theorem step_more_no (base B:Nat) (s:ByteArray) (k p:Nat) (c kd d l:Int) (sv gv:Value) (fs:List FR) (gs:List SG) (w:World) (h:RS w base B s k sv gv fs gs) (hs:s.size<=2000) (hk:k<=s.size) (hpe:T.sk s k=p) (hc:T.ch s p=c)
   (_hlen:fs.length+7<=1099511627776) (_hlen2:gs.length+1<=1099511627776) (hc2:c≠59) :
   Calls Tryz.prog 134 #[.pointer (some ⟨B,0,none⟩),frA ⟨257,kd,d,l⟩] w (SP base B s sv gv fs gs w ⟨true,p,[],[]⟩):=by
 show Calls Tryz.prog 134 #[.pointer (some ⟨B,0,none⟩),.agg #[.int .i64 257,.int .i64 kd,.int .i64 d,.int .i64 l]] w _
 have hpk:p<=s.size:=by rw [<- hpe];exact T.sk_le hk
 have hpee:=fun (wz:World) (hz:RS wz base B s k sv gv fs gs)=>peek_any base B s k sv gv fs gs wz hs hk hz
 rw [hpe,hc] at hpee
 have HPE:Hid (∀ (wz:World),RS wz base B s k sv gv fs gs->Calls Tryz.prog 135 #[.pointer (some ⟨B,0,none⟩)] wz fun e w'=>e=.returned (.int .i64 c)/\RS w' base B s p sv gv fs gs/\Mv base B sv gv sv gv wz w'):=hpee
 have hcc:(c==59)=false:=by rw [beq_eq_false_iff_ne];exact hc2
 clear hpee
 go_enter Tryz.func134,Tryz.ntmps134
 go_wp2_with fail
 have hA:=h.alloc (.cells #[.int .i64 257,.int .i64 kd,.int .i64 d,.int .i64 l] 187)
 have hF:FB (w.alloc (.cells #[.int .i64 257,.int .i64 kd,.int .i64 d,.int .i64 l] 187)) w.heap.size ⟨257,kd,d,l⟩:=⟨by simp,by simp,by simp,by simp⟩
 have hou:=h.outNew
 have hwl:w.heap.size<(w.alloc (.cells #[.int .i64 257,.int .i64 kd,.int .i64 d,.int .i64 l] 187)).heap.size:=by simp
 have hmv:Mv base B sv gv sv gv w (w.alloc (.cells #[.int .i64 257,.int .i64 kd,.int .i64 d,.int .i64 l] 187)):=Mv.alloc h.bs _
 refine (HPE.out _ hA).mono ?_
 rintro e w1 ⟨rfl,hr1,hm1⟩
 have hk1:=hm1.kept w.heap.size hwl hou
 have hF1:=hF.of_block hk1.1
 have hwl1:w.heap.size<w1.heap.size:=Nat.lt_of_lt_of_le hwl hm1.bel.size
 have HM1:Hid (Mv base B sv gv sv gv w w1):=hmv.trans hm1
 have HR1:Hid (RS w1 base B s p sv gv fs gs):=hr1
 have HF1:Hid (FB w1 w.heap.size ⟨257,kd,d,l⟩):=hF1
 have b0:w1.cell? ⟨w.heap.size,0,none⟩=some (.int .i64 257):=hF1.c0
 clear hmv hm1 hA hF hwl hr1 hk1 h hF1
 go_wp2_with fail
 go_ret
 exact ⟨rfl,sv,gv,HR1.out,HM1.out⟩
set_option maxHeartbeats 6400000 in
theorem step_items_no (base B:Nat) (s:ByteArray) (k p:Nat) (c kd d l:Int) (sv gv:Value) (fs:List FR) (gs:List SG) (w:World) (h:RS w base B s k sv gv fs gs) (hs:s.size<=2000) (hk:k<=s.size) (hpe:T.sk s k=p) (hc:T.ch s p=c)
   (_hlen:fs.length+7<=1099511627776) (_hlen2:gs.length+1<=1099511627776) (hc2:c≠44) :
   Calls Tryz.prog 134 #[.pointer (some ⟨B,0,none⟩),frA ⟨260,kd,d,l⟩] w (SP base B s sv gv fs gs w ⟨true,p,[],[]⟩):=by
 show Calls Tryz.prog 134 #[.pointer (some ⟨B,0,none⟩),.agg #[.int .i64 260,.int .i64 kd,.int .i64 d,.int .i64 l]] w _
 have hpk:p<=s.size:=by rw [<- hpe];exact T.sk_le hk
 have hpee:=fun (wz:World) (hz:RS wz base B s k sv gv fs gs)=>peek_any base B s k sv gv fs gs wz hs hk hz
 rw [hpe,hc] at hpee
 have HPE:Hid (∀ (wz:World),RS wz base B s k sv gv fs gs->Calls Tryz.prog 135 #[.pointer (some ⟨B,0,none⟩)] wz fun e w'=>e=.returned (.int .i64 c)/\RS w' base B s p sv gv fs gs/\Mv base B sv gv sv gv wz w'):=hpee
 have hcc:(c==44)=false:=by rw [beq_eq_false_iff_ne];exact hc2
 clear hpee
 go_enter Tryz.func134,Tryz.ntmps134
 go_wp2_with fail
 have hA:=h.alloc (.cells #[.int .i64 260,.int .i64 kd,.int .i64 d,.int .i64 l] 187)
 have hF:FB (w.alloc (.cells #[.int .i64 260,.int .i64 kd,.int .i64 d,.int .i64 l] 187)) w.heap.size ⟨260,kd,d,l⟩:=⟨by simp,by simp,by simp,by simp⟩
 have hou:=h.outNew
 have hwl:w.heap.size<(w.alloc (.cells #[.int .i64 260,.int .i64 kd,.int .i64 d,.int .i64 l] 187)).heap.size:=by simp
 have hmv:Mv base B sv gv sv gv w (w.alloc (.cells #[.int .i64 260,.int .i64 kd,.int .i64 d,.int .i64 l] 187)):=Mv.alloc h.bs _
 refine (HPE.out _ hA).mono ?_
 rintro e w1 ⟨rfl,hr1,hm1⟩
 have hk1:=hm1.kept w.heap.size hwl hou
 have hF1:=hF.of_block hk1.1
 have hwl1:w.heap.size<w1.heap.size:=Nat.lt_of_lt_of_le hwl hm1.bel.size
 have HM1:Hid (Mv base B sv gv sv gv w w1):=hmv.trans hm1
 have HR1:Hid (RS w1 base B s p sv gv fs gs):=hr1
 have HF1:Hid (FB w1 w.heap.size ⟨260,kd,d,l⟩):=hF1
 have b0:w1.cell? ⟨w.heap.size,0,none⟩=some (.int .i64 260):=hF1.c0
 clear hmv hm1 hA hF hwl hr1 hk1 h hF1
 go_wp2_with fail
 go_ret
 exact ⟨rfl,sv,gv,HR1.out,HM1.out⟩
set_option maxHeartbeats 6400000 in
theorem step_item (base B:Nat) (s:ByteArray) (k p:Nat) (c kd d l:Int) (sv gv:Value) (fs:List FR) (gs:List SG) (w:World) (h:RS w base B s k sv gv fs gs) (hs:s.size<=2000) (hk:k<=s.size) (hpe:T.sk s k=p) (hc:T.ch s p=c)
   (_hlen:fs.length+7<=1099511627776) (_hlen2:gs.length+1<=1099511627776) (d0:0<=d) (d1:d<=1000000) :
   Calls Tryz.prog 134 #[.pointer (some ⟨B,0,none⟩),frA ⟨259,kd,d,l⟩] w (SP base B s sv gv fs gs w ⟨true,p,itemL ⟨259,kd,d,l⟩,[]⟩):=by
 show Calls Tryz.prog 134 #[.pointer (some ⟨B,0,none⟩),.agg #[.int .i64 259,.int .i64 kd,.int .i64 d,.int .i64 l]] w _
 have hpk:p<=s.size:=by rw [<- hpe];exact T.sk_le hk
 have hpee:=fun (wz:World) (hz:RS wz base B s k sv gv fs gs)=>peek_any base B s k sv gv fs gs wz hs hk hz
 rw [hpe,hc] at hpee
 have HPE:Hid (∀ (wz:World),RS wz base B s k sv gv fs gs->Calls Tryz.prog 135 #[.pointer (some ⟨B,0,none⟩)] wz fun e w'=>e=.returned (.int .i64 c)/\RS w' base B s p sv gv fs gs/\Mv base B sv gv sv gv wz w'):=hpee
 clear hpee
 go_enter Tryz.func134,Tryz.ntmps134
 go_wp2_with fail
 have hA:=h.alloc (.cells #[.int .i64 259,.int .i64 kd,.int .i64 d,.int .i64 l] 187)
 have hF:FB (w.alloc (.cells #[.int .i64 259,.int .i64 kd,.int .i64 d,.int .i64 l] 187)) w.heap.size ⟨259,kd,d,l⟩:=⟨by simp,by simp,by simp,by simp⟩
 have hou:=h.outNew
 have hwl:w.heap.size<(w.alloc (.cells #[.int .i64 259,.int .i64 kd,.int .i64 d,.int .i64 l] 187)).heap.size:=by simp
 have hmv:Mv base B sv gv sv gv w (w.alloc (.cells #[.int .i64 259,.int .i64 kd,.int .i64 d,.int .i64 l] 187)):=Mv.alloc h.bs _
 refine (HPE.out _ hA).mono ?_
 rintro e w1 ⟨rfl,hr1,hm1⟩
 have hk1:=hm1.kept w.heap.size hwl hou
 have hF1:=hF.of_block hk1.1
 have hwl1:w.heap.size<w1.heap.size:=Nat.lt_of_lt_of_le hwl hm1.bel.size
 have HM1:Hid (Mv base B sv gv sv gv w w1):=hmv.trans hm1
 have HR1:Hid (RS w1 base B s p sv gv fs gs):=hr1
 have HF1:Hid (FB w1 w.heap.size ⟨259,kd,d,l⟩):=hF1
 have b0:w1.cell? ⟨w.heap.size,0,none⟩=some (.int .i64 259):=hF1.c0
 clear hmv hm1 hA hF hwl hr1 hk1 h hF1
 have b1:w1.cell? ⟨w.heap.size,1,none⟩=some (.int .i64 kd):=HF1.out.c1
 have b2:w1.cell? ⟨w.heap.size,2,none⟩=some (.int .i64 d):=HF1.out.c2
 have b3:w1.cell? ⟨w.heap.size,3,none⟩=some (.int .i64 l):=HF1.out.c3
 go_wp2_with fail
 refine (item_any base B s p ⟨259,kd,d,l⟩ sv gv fs gs _ HR1.out (by omega) d0 d1).mono ?_
 rintro e w' ⟨rfl,sv',hr,hm⟩
 have HR4:Hid (RS w' base B s p sv' gv (itemL ⟨259,kd,d,l⟩++fs) gs):=hr
 have HM4:Hid (Mv base B sv gv sv' gv w w'):=HM1.out.trans hm
 clear hr hm
 go_wp2_with fail
 go_ret
 exact ⟨rfl,sv',gv,HR4.out,HM4.out⟩
end Go.Proofs.YtaebngpoagjafaaGreat
namespace Go.Proofs.YtaebngpoagjafaaGreat
open Go.RowKit
attribute [local go_sem ↓] Go.wp_at_zero Go.wp_at_succ
set_option maxHeartbeats 6400000 in
theorem step_expr (base B:Nat) (s:ByteArray) (k p:Nat) (c kd d l:Int) (sv gv:Value) (fs:List FR) (gs:List SG) (w:World) (h:RS w base B s k sv gv fs gs) (hs:s.size<=2000) (hk:k<=s.size) (hpe:T.sk s k=p) (hc:T.ch s p=c)
   (_hlen:fs.length+7<=1099511627776) (_hlen2:gs.length+1<=1099511627776) (d0:0<=d) (d1:d<=1000000) (rz:Res) (hrz:Hid ((match exprL d p c with | some l=>(⟨true,p,l,[⟨3,p,d,-1,ByteArray.empty⟩]⟩:Res) | none=>⟨false,p,[],[]⟩)=rz)) :
   Calls Tryz.prog 134 #[.pointer (some ⟨B,0,none⟩),frA ⟨258,kd,d,l⟩] w (SP base B s sv gv fs gs w rz):=by
 show Calls Tryz.prog 134 #[.pointer (some ⟨B,0,none⟩),.agg #[.int .i64 258,.int .i64 kd,.int .i64 d,.int .i64 l]] w _
 have hpk:p<=s.size:=by rw [<- hpe];exact T.sk_le hk
 have hpee:=fun (wz:World) (hz:RS wz base B s k sv gv fs gs)=>peek_any base B s k sv gv fs gs wz hs hk hz
 rw [hpe,hc] at hpee
 have HPE:Hid (∀ (wz:World),RS wz base B s k sv gv fs gs->Calls Tryz.prog 135 #[.pointer (some ⟨B,0,none⟩)] wz fun e w'=>e=.returned (.int .i64 c)/\RS w' base B s p sv gv fs gs/\Mv base B sv gv sv gv wz w'):=hpee
 clear hpee
 go_enter Tryz.func134,Tryz.ntmps134
 go_wp2_with fail
 have hA:=h.alloc (.cells #[.int .i64 258,.int .i64 kd,.int .i64 d,.int .i64 l] 187)
 have hF:FB (w.alloc (.cells #[.int .i64 258,.int .i64 kd,.int .i64 d,.int .i64 l] 187)) w.heap.size ⟨258,kd,d,l⟩:=⟨by simp,by simp,by simp,by simp⟩
 have hou:=h.outNew
 have hwl:w.heap.size<(w.alloc (.cells #[.int .i64 258,.int .i64 kd,.int .i64 d,.int .i64 l] 187)).heap.size:=by simp
 have hmv:Mv base B sv gv sv gv w (w.alloc (.cells #[.int .i64 258,.int .i64 kd,.int .i64 d,.int .i64 l] 187)):=Mv.alloc h.bs _
 refine (HPE.out _ hA).mono ?_
 rintro e w1 ⟨rfl,hr1,hm1⟩
 have hk1:=hm1.kept w.heap.size hwl hou
 have hF1:=hF.of_block hk1.1
 have hwl1:w.heap.size<w1.heap.size:=Nat.lt_of_lt_of_le hwl hm1.bel.size
 have HM1:Hid (Mv base B sv gv sv gv w w1):=hmv.trans hm1
 have HR1:Hid (RS w1 base B s p sv gv fs gs):=hr1
 have HF1:Hid (FB w1 w.heap.size ⟨258,kd,d,l⟩):=hF1
 have b0:w1.cell? ⟨w.heap.size,0,none⟩=some (.int .i64 258):=hF1.c0
 clear hmv hm1 hA hF hwl hr1 hk1 h hF1
 have b1:w1.cell? ⟨w.heap.size,1,none⟩=some (.int .i64 kd):=HF1.out.c1
 have b2:w1.cell? ⟨w.heap.size,2,none⟩=some (.int .i64 d):=HF1.out.c2
 have b3:w1.cell? ⟨w.heap.size,3,none⟩=some (.int .i64 l):=HF1.out.c3
 go_wp2_with fail
 have hpp:T.sk s p=p:=by rw [<- hpe];exact T.sk_here (T.sk_bl s k)
 have hX:=expr_any base B s p ⟨258,kd,d,l⟩ sv gv fs gs _ HR1.out hs hpk _hlen _hlen2 d0 d1
 rw [hpp,hc] at hX
 refine hX.mono ?_
 rintro e w' (⟨hno,rfl,hr,hm⟩ | ⟨lx,hyes,rfl,sv',gv',hr,hm⟩)
 · have HR4:Hid (RS w' base B s p sv gv fs gs):=hr
   have HM4:Hid (Mv base B sv gv sv gv w w'):=HM1.out.trans hm
   have HE:Hid (exprL d p c=none):=hno
   clear hr hm hno hX
   go_wp2_with fail
   go_ret
   rw [<- hrz.out,HE.out]
   exact ⟨rfl,sv,gv,HR4.out,HM4.out⟩
 · have HR4:Hid (RS w' base B s p sv' gv' (lx++fs) (⟨3,p,d,-1,ByteArray.empty⟩::gs)):=hr
   have HM4:Hid (Mv base B sv gv sv' gv' w w'):=HM1.out.trans hm
   have HE:Hid (exprL d p c=some lx):=hyes
   clear hr hm hyes hX
   go_wp2_with fail
   go_ret
   rw [<- hrz.out,HE.out]
   exact ⟨rfl,sv',gv',HR4.out,HM4.out⟩
set_option maxHeartbeats 6400000 in
theorem step_num (base B:Nat) (s:ByteArray) (k p:Nat) (c kd d l:Int) (sv gv:Value) (fs:List FR) (gs:List SG) (w:World) (h:RS w base B s k sv gv fs gs) (hs:s.size<=2000) (hk:k<=s.size) (hpe:T.sk s k=p) (hc:T.ch s p=c)
   (_hlen:fs.length+7<=1099511627776) (_hlen2:gs.length+1<=1099511627776) (rz:Res) (hrz:Hid ((if ((T.dg s 9 58 true p).1 && decide (p<(T.dg s 9 58 true p).2))=true then (⟨true,(T.dg s 9 58 true p).2,[],[⟨kd,p,d,l,s.extract p (T.dg s 9 58 true p).2⟩]⟩:Res) else ⟨false,(T.dg s 9 58 true p).2,[],[]⟩)=rz)) :
   Calls Tryz.prog 134 #[.pointer (some ⟨B,0,none⟩),frA ⟨261,kd,d,l⟩] w (SP base B s sv gv fs gs w rz):=by
 show Calls Tryz.prog 134 #[.pointer (some ⟨B,0,none⟩),.agg #[.int .i64 261,.int .i64 kd,.int .i64 d,.int .i64 l]] w _
 have hpk:p<=s.size:=by rw [<- hpe];exact T.sk_le hk
 have hpee:=fun (wz:World) (hz:RS wz base B s k sv gv fs gs)=>peek_any base B s k sv gv fs gs wz hs hk hz
 rw [hpe,hc] at hpee
 have HPE:Hid (∀ (wz:World),RS wz base B s k sv gv fs gs->Calls Tryz.prog 135 #[.pointer (some ⟨B,0,none⟩)] wz fun e w'=>e=.returned (.int .i64 c)/\RS w' base B s p sv gv fs gs/\Mv base B sv gv sv gv wz w'):=hpee
 clear hpee
 go_enter Tryz.func134,Tryz.ntmps134
 go_wp2_with fail
 have hA:=h.alloc (.cells #[.int .i64 261,.int .i64 kd,.int .i64 d,.int .i64 l] 187)
 have hF:FB (w.alloc (.cells #[.int .i64 261,.int .i64 kd,.int .i64 d,.int .i64 l] 187)) w.heap.size ⟨261,kd,d,l⟩:=⟨by simp,by simp,by simp,by simp⟩
 have hou:=h.outNew
 have hwl:w.heap.size<(w.alloc (.cells #[.int .i64 261,.int .i64 kd,.int .i64 d,.int .i64 l] 187)).heap.size:=by simp
 have hmv:Mv base B sv gv sv gv w (w.alloc (.cells #[.int .i64 261,.int .i64 kd,.int .i64 d,.int .i64 l] 187)):=Mv.alloc h.bs _
 refine (HPE.out _ hA).mono ?_
 rintro e w1 ⟨rfl,hr1,hm1⟩
 have hk1:=hm1.kept w.heap.size hwl hou
 have hF1:=hF.of_block hk1.1
 have hwl1:w.heap.size<w1.heap.size:=Nat.lt_of_lt_of_le hwl hm1.bel.size
 have HM1:Hid (Mv base B sv gv sv gv w w1):=hmv.trans hm1
 have HR1:Hid (RS w1 base B s p sv gv fs gs):=hr1
 have HF1:Hid (FB w1 w.heap.size ⟨261,kd,d,l⟩):=hF1
 have b0:w1.cell? ⟨w.heap.size,0,none⟩=some (.int .i64 261):=hF1.c0
 clear hmv hm1 hA hF hwl hr1 hk1 h hF1
 have b1:w1.cell? ⟨w.heap.size,1,none⟩=some (.int .i64 kd):=HF1.out.c1
 have b2:w1.cell? ⟨w.heap.size,2,none⟩=some (.int .i64 d):=HF1.out.c2
 have b3:w1.cell? ⟨w.heap.size,3,none⟩=some (.int .i64 l):=HF1.out.c3
 go_wp2_with fail
 have hpp:T.sk s p=p:=by rw [<- hpe];exact T.sk_here (T.sk_bl s k)
 have hX:=digits_any base B s p ⟨261,kd,d,l⟩ 9 58 true sv gv fs gs _ HR1.out hs hpk _hlen2
 rw [hpp] at hX
 refine hX.mono ?_
 rintro e w' (⟨hno,rfl,hr,hm⟩ | ⟨hyes,rfl,gv',hr,hm⟩)
 · have HR4:Hid (RS w' base B s (T.dg s 9 58 true p).2 sv gv fs gs):=hr
   have HM4:Hid (Mv base B sv gv sv gv w w'):=HM1.out.trans hm
   have HE:Hid (((T.dg s 9 58 true p).1 && decide (p<(T.dg s 9 58 true p).2))=false):=hno
   clear hr hm hno hX
   go_wp2_with fail
   go_ret
   rw [<- hrz.out,HE.out]
   exact ⟨rfl,sv,gv,HR4.out,HM4.out⟩
 · have HR4:Hid (RS w' base B s (T.dg s 9 58 true p).2 sv gv' fs (⟨kd,p,d,l,s.extract p (T.dg s 9 58 true p).2⟩::gs)):=hr
   have HM4:Hid (Mv base B sv gv sv gv' w w'):=HM1.out.trans hm
   have HE:Hid (((T.dg s 9 58 true p).1 && decide (p<(T.dg s 9 58 true p).2))=true):=hyes
   clear hr hm hyes hX
   go_wp2_with fail
   go_ret
   rw [<- hrz.out,HE.out]
   exact ⟨rfl,sv,gv',HR4.out,HM4.out⟩
set_option maxHeartbeats 6400000 in
theorem step_bits (base B:Nat) (s:ByteArray) (k p:Nat) (c kd d l:Int) (sv gv:Value) (fs:List FR) (gs:List SG) (w:World) (h:RS w base B s k sv gv fs gs) (hs:s.size<=2000) (hk:k<=s.size) (hpe:T.sk s k=p) (hc:T.ch s p=c)
   (_hlen:fs.length+7<=1099511627776) (_hlen2:gs.length+1<=1099511627776) (rz:Res) (hrz:Hid ((if ((T.dg s 32 50 false p).1 && decide (p<(T.dg s 32 50 false p).2))=true then (⟨true,(T.dg s 32 50 false p).2,[],[⟨kd,p,d,l,s.extract p (T.dg s 32 50 false p).2⟩]⟩:Res) else ⟨false,(T.dg s 32 50 false p).2,[],[]⟩)=rz)) :
   Calls Tryz.prog 134 #[.pointer (some ⟨B,0,none⟩),frA ⟨262,kd,d,l⟩] w (SP base B s sv gv fs gs w rz):=by
 show Calls Tryz.prog 134 #[.pointer (some ⟨B,0,none⟩),.agg #[.int .i64 262,.int .i64 kd,.int .i64 d,.int .i64 l]] w _
 have hpk:p<=s.size:=by rw [<- hpe];exact T.sk_le hk
 have hpee:=fun (wz:World) (hz:RS wz base B s k sv gv fs gs)=>peek_any base B s k sv gv fs gs wz hs hk hz
 rw [hpe,hc] at hpee
 have HPE:Hid (∀ (wz:World),RS wz base B s k sv gv fs gs->Calls Tryz.prog 135 #[.pointer (some ⟨B,0,none⟩)] wz fun e w'=>e=.returned (.int .i64 c)/\RS w' base B s p sv gv fs gs/\Mv base B sv gv sv gv wz w'):=hpee
 clear hpee
 go_enter Tryz.func134,Tryz.ntmps134
 go_wp2_with fail
 have hA:=h.alloc (.cells #[.int .i64 262,.int .i64 kd,.int .i64 d,.int .i64 l] 187)
 have hF:FB (w.alloc (.cells #[.int .i64 262,.int .i64 kd,.int .i64 d,.int .i64 l] 187)) w.heap.size ⟨262,kd,d,l⟩:=⟨by simp,by simp,by simp,by simp⟩
 have hou:=h.outNew
 have hwl:w.heap.size<(w.alloc (.cells #[.int .i64 262,.int .i64 kd,.int .i64 d,.int .i64 l] 187)).heap.size:=by simp
 have hmv:Mv base B sv gv sv gv w (w.alloc (.cells #[.int .i64 262,.int .i64 kd,.int .i64 d,.int .i64 l] 187)):=Mv.alloc h.bs _
 refine (HPE.out _ hA).mono ?_
 rintro e w1 ⟨rfl,hr1,hm1⟩
 have hk1:=hm1.kept w.heap.size hwl hou
 have hF1:=hF.of_block hk1.1
 have hwl1:w.heap.size<w1.heap.size:=Nat.lt_of_lt_of_le hwl hm1.bel.size
 have HM1:Hid (Mv base B sv gv sv gv w w1):=hmv.trans hm1
 have HR1:Hid (RS w1 base B s p sv gv fs gs):=hr1
 have HF1:Hid (FB w1 w.heap.size ⟨262,kd,d,l⟩):=hF1
 have b0:w1.cell? ⟨w.heap.size,0,none⟩=some (.int .i64 262):=hF1.c0
 clear hmv hm1 hA hF hwl hr1 hk1 h hF1
 have b1:w1.cell? ⟨w.heap.size,1,none⟩=some (.int .i64 kd):=HF1.out.c1
 have b2:w1.cell? ⟨w.heap.size,2,none⟩=some (.int .i64 d):=HF1.out.c2
 have b3:w1.cell? ⟨w.heap.size,3,none⟩=some (.int .i64 l):=HF1.out.c3
 go_wp2_with fail
 have hpp:T.sk s p=p:=by rw [<- hpe];exact T.sk_here (T.sk_bl s k)
 have hX:=digits_any base B s p ⟨262,kd,d,l⟩ 32 50 false sv gv fs gs _ HR1.out hs hpk _hlen2
 rw [hpp] at hX
 refine hX.mono ?_
 rintro e w' (⟨hno,rfl,hr,hm⟩ | ⟨hyes,rfl,gv',hr,hm⟩)
 · have HR4:Hid (RS w' base B s (T.dg s 32 50 false p).2 sv gv fs gs):=hr
   have HM4:Hid (Mv base B sv gv sv gv w w'):=HM1.out.trans hm
   have HE:Hid (((T.dg s 32 50 false p).1 && decide (p<(T.dg s 32 50 false p).2))=false):=hno
   clear hr hm hno hX
   go_wp2_with fail
   go_ret
   rw [<- hrz.out,HE.out]
   exact ⟨rfl,sv,gv,HR4.out,HM4.out⟩
 · have HR4:Hid (RS w' base B s (T.dg s 32 50 false p).2 sv gv' fs (⟨kd,p,d,l,s.extract p (T.dg s 32 50 false p).2⟩::gs)):=hr
   have HM4:Hid (Mv base B sv gv sv gv' w w'):=HM1.out.trans hm
   have HE:Hid (((T.dg s 32 50 false p).1 && decide (p<(T.dg s 32 50 false p).2))=true):=hyes
   clear hr hm hyes hX
   go_wp2_with fail
   go_ret
   rw [<- hrz.out,HE.out]
   exact ⟨rfl,sv,gv',HR4.out,HM4.out⟩
end Go.Proofs.YtaebngpoagjafaaGreat
