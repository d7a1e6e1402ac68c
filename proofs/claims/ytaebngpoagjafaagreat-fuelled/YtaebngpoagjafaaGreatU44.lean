/-
  OUR OWN.
-/
import Derived.Test.YtaebngpoagjafaaGreatU43
import Derived.Deep.DeepCutAuto
import Derived.Deep.RegionHeld3
import Derived.Test.YtaebngpoagjafaaGreatU40
import Derived.Test.YtaebngpoagjafaaGreatU02
set_option maxRecDepth 100000
namespace Go.Proofs.YtaebngpoagjafaaGreat
open Go.RowKit
theorem sp_mono {x:WD} {s:ByteArray} (hf:fitB s=true) (hr:x.right=true) {u v:Int} (u0:0<=u) (uv:u<=v):(spF (x.ru (cpX s) u)=0/\(spF (x.ru (cpX s) v)=0\/spF (x.ru (cpX s) v)=1))\/(spF (x.ru (cpX s) u)=1/\spF (x.ru (cpX s) v)=1):=by
 obtain ⟨k,_,_,h1,h2⟩:=ru_steps hf hr
 by_cases hu:u<(k:Int)
 · rw [h1 u u0 hu]
   by_cases hv:v<(k:Int)
   · rw [h1 v (by omega) hv];exact .inl ⟨rfl,.inl rfl⟩
   · rw [h2 v (by omega)];exact .inl ⟨rfl,.inr rfl⟩
 · rw [h2 u (by omega),h2 v (by omega)];exact .inr ⟨rfl,rfl⟩
theorem ru_two {x:WD} {s:ByteArray} (hf:fitB s=true) (hr:x.right=true) {u:Int} (u0:0<=u):x.ru (cpX s) u=(0,x.an s)\/x.ru (cpX s) u=(11,[],0,0):=by
 obtain ⟨k,_,_,h1,h2⟩:=ru_steps hf hr
 by_cases hu:u<(k:Int)
 · exact .inr (h1 u u0 hu)
 · exact .inl (h2 u (by omega))
theorem ru_neg {x:WD} {C:List Int} {u:Int} (u0:u<0):x.ru C u=(9,[],0,0):=by
 unfold WD.ru ruF;rw [if_pos u0]
attribute [local go_sem ↓] Go.wp_at_zero Go.wp_at_succ
set_option maxHeartbeats 3200000 in
theorem fuelled_walk (s:ByteArray) (x:WD) (more less:Int) (w:World) (hx:x.In w) (hn:x.pl*24<=140737488351232) (m0:-9223372036854775808<=more) (m1:more<=9223372036854775807) (l0:-9223372036854775808<=less) (l1:less<=9223372036854775807) :
   Calls Tryz.prog 11 #[.string s,x.val,.int .i64 more,.int .i64 less] w fun e w'=>e=.returned (.bool true)/\Below w.heap.size w w':=by
 have HX0:Hid (x.In w):=hx
 have HF:Hid (∀ wz,Calls Tryz.prog 13 #[.string s] wz fun e w'=>e=.returned (.bool (fitB s))/\Below wz.heap.size wz w'):=fun wz=>fits_any s wz
 clear hx
 unfold WD.val
 obtain ⟨xa,xb,xd,xdo,xdb,xdoff,xdl,xdc,xDn,xao,xab,xaoff,xac,xal,xpo,xpb,xpoff,xpl,xpcp,xV,xL,xR⟩:=x
 simp only at hn ⊢
 have HB0:Hid (Below w.heap.size w (w.alloc (.cells #[.int .i64 xa,.int .i64 xb,.int .i64 xd,.slice xdo xdl xdc,.slice xao xal.length xac,.slice xpo xpl xpcp] 30))):=(Below.refl _ _).alloc (Nat.le_refl _) _
 have HW0:Hid ((w.alloc (.cells #[.int .i64 xa,.int .i64 xb,.int .i64 xd,.slice xdo xdl xdc,.slice xao xal.length xac,.slice xpo xpl xpcp] 30)).heap[w.heap.size]?=some (.cells #[.int .i64 xa,.int .i64 xb,.int .i64 xd,.slice xdo xdl xdc,.slice xao xal.length xac,.slice xpo xpl xpcp] 30 (0,0))):=heap_alloc_new w _
 obtain ⟨X1,HXE⟩:∃ X1:WD,Hid (X1=⟨xa,xb,xd,xdo,xdb,xdoff,xdl,xdc,xDn,xao,xab,xaoff,xac,xal,xpo,xpb,xpoff,xpl,xpcp,xV,xL,xR⟩):=⟨_,rfl⟩
 have HXV:Hid (X1.val=.agg #[.int .i64 xa,.int .i64 xb,.int .i64 xd,.slice xdo xdl xdc,.slice xao xal.length xac,.slice xpo xpl xpcp]):=by show _=_;rw [HXE.out];rfl
 have HXI:Hid (X1.In w):=by show WD.In _ _;rw [HXE.out];exact HX0.out
 have hXn:X1.pl*24<=140737488351232:=by rw [HXE.out];exact hn
 clear HX0 hn
 have HRT:Hid (∀ wz,X1.In wz->Calls Tryz.prog 14 #[.agg #[.int .i64 xa,.int .i64 xb,.int .i64 xd,.slice xdo xdl xdc,.slice xao xal.length xac,.slice xpo xpl xpcp]] wz fun e w'=>e=.returned (.bool X1.right)/\Below wz.heap.size wz w'):=fun wz h=>by rw [<- HXV.out];exact Right_any X1 wz h hXn
 have HRF:Hid (∀ wz,X1.In wz->fitB s=false\/X1.right=false->Calls Tryz.prog 15 #[.string s,.agg #[.int .i64 xa,.int .i64 xb,.int .i64 xd,.slice xdo xdl xdc,.slice xao xal.length xac,.slice xpo xpl xpcp],.bool (fitB s)] wz fun e w'=>e=.returned (.bool true)/\Below wz.heap.size wz w'):=fun wz h h2=>by rw [<- HXV.out];exact refused_any s X1 wz h h2
 have HAN:Hid (fitB s=true->X1.right=true->∀ wz,X1.In wz->Calls Tryz.prog 16 #[.string s,.agg #[.int .i64 xa,.int .i64 xb,.int .i64 xd,.slice xdo xdl xdc,.slice xao xal.length xac,.slice xpo xpl xpcp]] wz (AnTo wz (X1.an s).1 (X1.an s).2.1 (X1.an s).2.2)):=fun hf hr wz h=>by
   rw [<- HXV.out]
   obtain ⟨p1,p2,p3,p4,_,_⟩:=an_bd hf hr
   exact answer_ok s X1 _ _ _ wz h (fit_cp hf) (ru_len hf hr) p1 p2 p3 p4
 have HT:Hid (fitB s=true->X1.right=true->1<=(X1.an s).2.1):=fun hf hr=>(an_bd hf hr).1
 have HLN:Hid (fitB s=true->(cpX s).length<=7000):=fun hf=>(cp_len (fit_cp hf)).2.2.2
 have HCP:Hid (fitB s=true->∀ wz,Calls Tryz.prog 25 #[.string s] wz (CpTo wz 0 (cpX s))):=fun hf wz=>by have:=Compile_any s wz;rw [fit_cp hf] at this;exact this
 have HBY:Hid (∀ y∈cpX s,0<=y/\y<256):=byt_enc _ _
 have HMO:Hid (fitB s=true->X1.right=true->∀ u v:Int,0<=u->u<=v->(spF (X1.ru (cpX s) u)=0/\(spF (X1.ru (cpX s) v)=0\/spF (X1.ru (cpX s) v)=1))\/(spF (X1.ru (cpX s) u)=1/\spF (X1.ru (cpX s) v)=1)):=fun hf hr u v h1 h2=>sp_mono hf hr h1 h2
 have HR2:Hid (fitB s=true->X1.right=true->∀ u:Int,0<=u->X1.ru (cpX s) u=(0,X1.an s)\/X1.ru (cpX s) u=(11,[],0,0)):=fun hf hr u h=>ru_two hf hr h
 have HR3:Hid (fitB s=true->X1.right=true->∀ u:Int,((cpX s).length:Int)<=u->X1.ru (cpX s) u=(0,X1.an s)):=fun hf hr u h=>by
   obtain ⟨k,_,hk,_,h2⟩:=ru_steps hf hr
   exact h2 u (by omega)
 obtain ⟨F,HFF⟩:∃ F,Hid (fitB s=F):=⟨_,rfl⟩
 rw [HFF.out] at HF HRF HAN HT HLN HCP HMO HR2 HR3
 obtain ⟨RR,HRR⟩:∃ RR,Hid (X1.right=RR):=⟨_,rfl⟩
 rw [HRR.out] at HRT HRF HAN HT HMO HR2 HR3
 obtain ⟨sv,t,c,HANE⟩:∃ sv t c,Hid (X1.an s=(sv,t,c)):=⟨_,_,_,rfl⟩
 rw [HANE.out] at HAN HT HR2 HR3
 obtain ⟨X,HXX⟩:∃ X,Hid (cpX s=X):=⟨_,rfl⟩
 rw [HXX.out] at HLN HCP HBY HMO HR2 HR3
 simp only at HAN HT
 clear HXX HANE HFF HRR
 go_enter Tryz.func11,Tryz.ntmps11
 go_wp2_with fail
 refine (HF.out _).mono ?_
 rintro e w1 ⟨rfl,hb1⟩
 have HB1:Hid (Below w.heap.size w w1):=HB0.out.trans (hb1.mono HB0.out.size)
 have hW1:=(hb1.block _ (lt_of_block HW0.out)).trans HW0.out
 have HW1:Hid (w1.heap[w.heap.size]?=some (.cells #[.int .i64 xa,.int .i64 xb,.int .i64 xd,.slice xdo xdl xdc,.slice xao xal.length xac,.slice xpo xpl xpcp] 30 (0,0))):=hW1
 obtain ⟨q0,q1,q2,q3,q4,q5⟩:=ld6 hW1 rfl
 clear hb1 hW1
 go_wp2_with fail
 refine (HRT.out _ (HXI.out.below HB1.out)).mono ?_
 rintro e w2 ⟨rfl,hb2⟩
 have HB2:Hid (Below w.heap.size w w2):=HB1.out.trans (hb2.mono HB1.out.size)
 have hW2:=(hb2.block _ (lt_of_block HW1.out)).trans HW1.out
 have HW2:Hid (w2.heap[w.heap.size]?=some (.cells #[.int .i64 xa,.int .i64 xb,.int .i64 xd,.slice xdo xdl xdc,.slice xao xal.length xac,.slice xpo xpl xpcp] 30 (0,0))):=hW2
 clear q0 q1 q2 q3 q4 q5
 obtain ⟨q0,q1,q2,q3,q4,q5⟩:=ld6 hW2 rfl
 clear hb2 hW2
 have hREF:F=false\/RR=false->Calls Tryz.prog 15 #[.string s,.agg #[.int .i64 xa,.int .i64 xb,.int .i64 xd,.slice xdo xdl xdc,.slice xao xal.length xac,.slice xpo xpl xpcp],.bool F] w2 fun e w'=>e=.returned (.bool true)/\Below w2.heap.size w2 w':=fun h=>HRF.out w2 (HXI.out.below HB2.out) h
 cases F with
 | false =>
   have HC:=hREF (.inl rfl)
   clear hREF
   go_wp2_with fail
   refine HC.mono ?_
   rintro e w3 ⟨rfl,hb3⟩
   have HB3:Hid (Below w.heap.size w w3):=HB2.out.trans (hb3.mono HB2.out.size)
   clear hb3
   go_wp2_with fail
   go_ret
   exact ⟨rfl,HB3.out⟩
 | true =>
 cases RR with
 | false =>
   have HC:=hREF (.inr rfl)
   clear hREF
   go_wp2_with fail
   refine HC.mono ?_
   rintro e w3 ⟨rfl,hb3⟩
   have HB3:Hid (Below w.heap.size w w3):=HB2.out.trans (hb3.mono HB2.out.size)
   clear hb3
   go_wp2_with fail
   go_ret
   exact ⟨rfl,HB3.out⟩
 | true =>
 clear hREF
 have ht1:=HT.out (by first | rfl | trivial) (by first | rfl | trivial)
 have hxl:=HLN.out (by first | rfl | trivial)
 go_wp2_with fail
 refine (HCP.out (by first | rfl | trivial) _).mono ?_
 rintro e wp ⟨hbc,o,m,k,rfl,_,heq⟩
 obtain ⟨hm,hrow⟩:=heq rfl
 subst hm
 have HBc:Hid (Below w.heap.size w wp):=HB2.out.trans (hbc.mono HB2.out.size)
 have HWc:Hid (wp.heap[w.heap.size]?=some (.cells #[.int .i64 xa,.int .i64 xb,.int .i64 xd,.slice xdo xdl xdc,.slice xao xal.length xac,.slice xpo xpl xpcp] 30 (0,0))):=(hbc.block _ (lt_of_block HW2.out)).trans HW2.out
 obtain ⟨cg,hcs⟩:=cs_of_row hrow HBY.out
 have HCSc:Hid (CS wp wp.heap.size o cg 0 X):=hcs
 clear q0 q1 q2 q3 q4 q5 hbc heq hrow hcs
 obtain ⟨q0,q1,q2,q3,q4,q5⟩:=ld6 HWc.out rfl
 go_wp2_with fail
 refine (HAN.out (by first | rfl | trivial) (by first | rfl | trivial) _ (HXI.out.below HBc.out)).mono ?_
 rintro e w3 ⟨hb3,o3,k3,rfl,hrow3⟩
 have HB3:Hid (Below w.heap.size w w3):=HBc.out.trans (hb3.mono HBc.out.size)
 have hW3:w3.heap[w.heap.size]?=some (.cells #[.int .i64 xa,.int .i64 xb,.int .i64 xd,.slice xdo xdl xdc,.slice xao xal.length xac,.slice xpo xpl xpcp] 30 (0,0)):=(hb3.block _ (lt_of_block HWc.out)).trans HWc.out
 have hlt3:w.heap.size<w3.heap.size:=lt_of_block hW3
 have HB4:Hid (Below w.heap.size w (w3.alloc (.cells #[.slice o3 sv.length k3,.int .i64 t,.int .i64 c] 35))):=HB3.out.alloc HB3.out.size _
 have HW4:Hid ((w3.alloc (.cells #[.slice o3 sv.length k3,.int .i64 t,.int .i64 c] 35)).heap[w.heap.size]?=some (.cells #[.int .i64 xa,.int .i64 xb,.int .i64 xd,.slice xdo xdl xdc,.slice xao xal.length xac,.slice xpo xpl xpcp] 30 (0,0))):=by show _=_;rw [Below.heap_alloc _ _ _ hlt3];exact hW3
 have HA4:Hid ((w3.alloc (.cells #[.slice o3 sv.length k3,.int .i64 t,.int .i64 c] 35)).heap[w3.heap.size]?=some (.cells #[.slice o3 sv.length k3,.int .i64 t,.int .i64 c] 35 (0,0))):=heap_alloc_new _ _
 have HCS4:Hid (CS (w3.alloc (.cells #[.slice o3 sv.length k3,.int .i64 t,.int .i64 c] 35)) (w3.alloc (.cells #[.slice o3 sv.length k3,.int .i64 t,.int .i64 c] 35)).heap.size o cg 0 X):=HCSc.out.keep (hb3.alloc hb3.size _)
 obtain ⟨ga,hisa⟩:=is_of_row (hrow3.alloc (.cells #[.slice o3 sv.length k3,.int .i64 t,.int .i64 c] 35))
 have HIS4:Hid (IS (w3.alloc (.cells #[.slice o3 sv.length k3,.int .i64 t,.int .i64 c] 35)) o3 ga 0 sv.length (fun i=>(sv[i]?).getD 0)):=hisa
 have hsl:sv.length<=9223372036854775807:=by
   rcases hrow3.2 with ⟨_,h2⟩ | ⟨_,cap,_,h1,_,_,h4,h5,_⟩
   · omega
   · unfold maxLen at h5;cases h1;omega
 clear hb3 hrow3 q0 q1 q2 q3 q4 q5 hW3 hisa
 go_upto_region 9 with fail
 generalize w3.alloc (.cells #[.slice o3 sv.length k3,.int .i64 t,.int .i64 c] 35)=w4 at *
 have HXI4:Hid (X1.In w4):=HXI.out.below HB4.out
 have HRUN:Hid (∀ f wz,f<=9223372036854775807->Below w4.heap.size w4 wz->Calls Tryz.prog 26 #[.slice o X.length k,.agg #[.int .i64 xa,.int .i64 xb,.int .i64 xd,.slice xdo xdl xdc,.slice xao xal.length xac,.slice xpo xpl xpcp],.int .i64 f] wz (RuTo wz (X1.ru X f))):=fun f wz h1 h2=>by
   rw [<- HXV.out];exact Run_any X1 o cg 0 k X f wz (by omega) h1 (HXI4.out.below h2) (HCS4.out.keep h2)
 have HSPT:Hid (∀ f wz,0<=f->f<=9223372036854775807->Below w4.heap.size w4 wz->Calls Tryz.prog 28 #[.slice o X.length k,.agg #[.int .i64 xa,.int .i64 xb,.int .i64 xd,.slice xdo xdl xdc,.slice xao xal.length xac,.slice xpo xpl xpcp],.int .i64 f,.agg #[.slice o3 sv.length k3,.int .i64 t,.int .i64 c]] wz fun e w'=>e=.returned (.int .i64 (spF (X1.ru X f)))/\Below wz.heap.size wz w'):=fun f wz h0 h1 h2=>by
   rw [<- HXV.out];exact spent_any X1 o cg 0 k X f o3 ga 0 k3 sv t c wz (by omega) h1 hsl ht1 (HXI4.out.below h2) (HCS4.out.keep h2) (HIS4.out.below h2 HIS4.out.lt) (HR2.out (by first | rfl | trivial) (by first | rfl | trivial) f h0)
 have hpk:=pkF_bd (c:=more) (n:=1099511627776) (by decide)
 have HPK:Hid (∀ wz,Calls Tryz.prog 27 #[.int .i64 more,.int .i64 1099511627776] wz fun e w'=>e=.returned (.int .i64 (pkF more 1099511627776))/\w'=wz):=fun wz=>pick_keep more 1099511627776 wz m0 m1 (by decide) (by decide)
 generalize pkF more 1099511627776=P at *
 obtain ⟨P0,P1⟩:=hpk
 have hXi:(X.length:Int)<=7000:=by omega
 have hlt4:w.heap.size<w4.heap.size:=lt_of_block HW4.out
 obtain ⟨q0,q1,q2,q3,q4,q5⟩:=ld6 HW4.out rfl
 have hneB:w4.heap.size≠w.heap.size:=by omega
 have hw9:IntKind.i64.wrap ((X.length:Int)+P)=(X.length:Int)+P:=wrap_in (by omega) (by omega)
 have hw13:IntKind.i64.wrap (-1-P)=-1-P:=wrap_in (by omega) (by omega)
 have HR9:Hid (∀ wz,Below w4.heap.size w4 wz->Calls Tryz.prog 26 #[.slice o X.length k,.agg #[.int .i64 xa,.int .i64 xb,.int .i64 xd,.slice xdo xdl xdc,.slice xao xal.length xac,.slice xpo xpl xpcp],.int .i64 ((X.length:Int)+P)] wz (fun e w'=>∃ o5 k5,e=.returned (.tuple #[.agg #[.slice o5 sv.length k5,.int .i64 t,.int .i64 c],.int .i64 0])/\Below w4.heap.size w4 w'/\Below wz.heap.size wz w'/\w'.ownsRow w4.heap.size 3 1 (.slice o5 sv.length k5) sv.length (sv.map (Value.int .i64)))):=fun wz h=>by
   have:=HRUN.out ((X.length:Int)+P) wz (by omega) h
   rw [HR3.out (by first | rfl | trivial) (by first | rfl | trivial) _ (by omega)] at this
   refine this.mono ?_
   rintro e w5 ⟨hb5,o5,m5,k5,rfl,_,heq5⟩
   obtain ⟨hm5,hrow5⟩:=heq5 rfl
   simp only at hm5 hrow5
   subst hm5
   exact ⟨o5,k5,rfl,h.trans (hb5.mono h.size),hb5,owns_mono hrow5 h.size⟩
 go_cut [15,16] (fun s15 s16 wx=>∃ B o5 k5 g5,s15=.pointer (some ⟨B,0,none⟩)/\s16=.int .i64 0/\Below w4.heap.size w4 wx/\wx.heap[B]?=some (.cells #[.slice o5 sv.length k5,.int .i64 t,.int .i64 c] 35 (0,0))/\IS wx o5 g5 0 sv.length (fun i=>(sv[i]?).getD 0))
 case first =>
   go_region_held3 (fun w'=>w'.cell? ⟨w.heap.size,0,none⟩=some (.int .i64 xa)/\w'.cell? ⟨w.heap.size,1,none⟩=some (.int .i64 xb)/\w'.cell? ⟨w.heap.size,2,none⟩=some (.int .i64 xd)/\w'.cell? ⟨w.heap.size,3,none⟩=some (.slice xdo xdl xdc)/\w'.cell? ⟨w.heap.size,4,none⟩=some (.slice xao xal.length xac)/\w'.cell? ⟨w.heap.size,5,none⟩=some (.slice xpo xpl xpcp)) (first | (exact ⟨q0,q1,q2,q3,q4,q5⟩) | (exact hS5) | (exact ⟨keepA q0 _,keepA q1 _,keepA q2 _,keepA q3 _,keepA q4 _,keepA q5 _⟩) | (exact ⟨keepA hS5.1 _,keepA hS5.2.1 _,keepA hS5.2.2.1 _,keepA hS5.2.2.2.1 _,keepA hS5.2.2.2.2.1 _,keepA hS5.2.2.2.2.2 _⟩) | (exact ⟨keepS hneB (keepS hneB (keepS hneB hS5.1 _ _) _ _) _ _,keepS hneB (keepS hneB (keepS hneB hS5.2.1 _ _) _ _) _ _,keepS hneB (keepS hneB (keepS hneB hS5.2.2.1 _ _) _ _) _ _,keepS hneB (keepS hneB (keepS hneB hS5.2.2.2.1 _ _) _ _) _ _,keepS hneB (keepS hneB (keepS hneB hS5.2.2.2.2.1 _ _) _ _) _ _,keepS hneB (keepS hneB (keepS hneB hS5.2.2.2.2.2 _ _) _ _) _ _⟩) | go_keep) (first | (go_at_call 27;refine (HPK.out _).mono ?_;rintro e w' ⟨rfl,hw'⟩;subst w') | (go_at_call 26;refine (HR9.out _ (by first | exact (Below.refl _ _).drew | exact Below.refl _ _ | exact ((Below.refl _ _).alloc (Nat.le_refl _) _).drew | exact (Below.refl _ _).alloc (Nat.le_refl _) _)).mono ?_;rintro e w5 ⟨o5,k5,rfl,hd5,hb5,hrow5⟩;have hS5:=ld6 HW4.out (hd5.block _ hlt4);first | (have hZ5:w5.heap[w4.heap.size]?=some (.cells #[.slice none 0 0,.int .i64 0,.int .i64 0] 35 (0,0)):=(hb5.block w4.heap.size (by simp)).trans (heap_alloc_new w4 _);have HZ5:Hid (w5.heap[w4.heap.size]?=some (.cells #[.slice none 0 0,.int .i64 0,.int .i64 0] 35 (0,0))):=hZ5;obtain ⟨y0,y1,y2,z0,z1,z2⟩:=ld3 hZ5;clear hZ5) | skip))
   all_goals
     go_wp2_with fail
     go_meet
     first
     | (obtain ⟨g5,hi5⟩:=is_of_row (hrow5.alloc (.cells #[.slice o5 sv.length k5,.int .i64 t,.int .i64 c] 35))
        exact ⟨_,o5,k5,g5,rfl,rfl,hd5.alloc hd5.size _,heap_alloc_new _ _,hi5⟩)
     | (have hneR:(Value.slice o5 sv.length k5).ownBlock≠some w4.heap.size:=owns_ne hrow5 HZ5.out (by decide)
        obtain ⟨g5,hi5⟩:=is_of_row (set3_row hrow5 hneR (.slice o5 sv.length k5) (.int .i64 t) (.int .i64 c))
        exact ⟨_,o5,k5,g5,rfl,rfl,((hd5.setCell (Nat.le_refl _) _).setCell (Nat.le_refl _) _).setCell (Nat.le_refl _) _,blk3_store HZ5.out,hi5⟩)
 case rest =>
 obtain ⟨B,o5,k5,g5,rfl,rfl,hb5,hB5,his5⟩:=hcut
 obtain ⟨w5,hw5⟩:∃ w5,w5=wc:=⟨_,rfl⟩
 subst hw5
 have HD5:Hid (Below w4.heap.size w4 w5):=hb5
 have hA5:w5.heap[w3.heap.size]?=some (.cells #[.slice o3 sv.length k3,.int .i64 t,.int .i64 c] 35 (0,0)):=(HD5.out.block _ (lt_of_block HA4.out)).trans HA4.out
 obtain ⟨a0,a1,a2,-⟩:=ld3 hA5
 obtain ⟨b0,b1,b2,-⟩:=ld3 hB5
 have HSM:=same_keep o3 o5 k3 k5 sv.length t c _ ga 0 g5 0 w5 hsl (HIS4.out.below HD5.out HIS4.out.lt) his5
 clear hb5 hB5 his5 hA5 q0 q1 q2 q3 q4 q5
 go_wp2_with fail
 refine HSM.mono ?_
 rintro e w6 ⟨rfl,hb6⟩
 have HD6:Hid (Below w4.heap.size w4 w6):=HD5.out.trans (hb6.mono HD5.out.size)
 clear hb6 HSM a0 a1 a2 b0 b1 b2
 go_upto_region 13 with fail
 obtain ⟨q0,q1,q2,q3,q4,q5⟩:=ld6 HW4.out (HD6.out.block _ hlt4)
 have HR13:Hid (∀ wz,Below w4.heap.size w4 wz->Calls Tryz.prog 26 #[.slice o X.length k,.agg #[.int .i64 xa,.int .i64 xb,.int .i64 xd,.slice xdo xdl xdc,.slice xao xal.length xac,.slice xpo xpl xpcp],.int .i64 (-1-P)] wz (RuTo wz (9,[],0,0))):=fun wz h=>by
   have:=HRUN.out (-1-P) wz (by omega) h
   rw [ru_neg (by omega)] at this
   exact this
 go_cut [16] (fun s16 wx=>s16=.int .i64 9/\Below w4.heap.size w4 wx)
 case first =>
   go_region_held3 (fun w'=>w'.cell? ⟨w.heap.size,0,none⟩=some (.int .i64 xa)/\w'.cell? ⟨w.heap.size,1,none⟩=some (.int .i64 xb)/\w'.cell? ⟨w.heap.size,2,none⟩=some (.int .i64 xd)/\w'.cell? ⟨w.heap.size,3,none⟩=some (.slice xdo xdl xdc)/\w'.cell? ⟨w.heap.size,4,none⟩=some (.slice xao xal.length xac)/\w'.cell? ⟨w.heap.size,5,none⟩=some (.slice xpo xpl xpcp)) (first | (exact ⟨q0,q1,q2,q3,q4,q5⟩) | (exact hS5) | go_keep) (first | (go_at_call 27;refine (HPK.out _).mono ?_;rintro e w' ⟨rfl,hw'⟩;subst w') | (go_at_call 26;refine (HR13.out _ (by first | exact HD6.out.drew | exact HD6.out)).mono ?_;rintro e w7 ⟨hb7,o7,m7,k7,rfl,hne7,heq7⟩;have HD7:Hid (Below w4.heap.size w4 w7):=HD6.out.drew.trans (hb7.mono HD6.out.size);have hS5:=ld6 HW4.out (HD7.out.block _ hlt4)))
   all_goals
     go_wp2_with fail
     go_meet
     exact ⟨rfl,HD7.out⟩
 case rest =>
 obtain ⟨rfl,hb7⟩:=hcut
 obtain ⟨w7,hw7⟩:∃ w7,w7=wc:=⟨_,rfl⟩
 subst hw7
 have HD7:Hid (Below w4.heap.size w4 w7):=hb7
 clear hb7 q0 q1 q2 q3 q4 q5
 have hlo:=pkF_bd (c:=less) (n:=(X.length:Int)+1) (by omega)
 have hwl:IntKind.i64.wrap ((X.length:Int)+1)=(X.length:Int)+1:=wrap_in (by omega) (by omega)
 have HPL:=pick_keep less ((X.length:Int)+1) w7 l0 l1 (by omega) (by omega)
 generalize pkF less ((X.length:Int)+1)=lo at *
 obtain ⟨lo0,lo1⟩:=hlo
 go_wp2_with fail
 refine HPL.mono ?_
 rintro e w' ⟨rfl,hw'⟩
 subst w'
 have hhi:=pkF_bd (c:=more) (n:=(X.length:Int)+1-lo) (by omega)
 have hwh:IntKind.i64.wrap ((X.length:Int)+1-lo)=(X.length:Int)+1-lo:=wrap_in (by omega) (by omega)
 have HPH:=pick_keep more ((X.length:Int)+1-lo) w7 m0 m1 (by omega) (by omega)
 clear HPL
 generalize pkF more ((X.length:Int)+1-lo)=hi at *
 obtain ⟨hi0,hi1⟩:=hhi
 go_wp2_with fail
 refine HPH.mono ?_
 rintro e w' ⟨rfl,hw'⟩
 subst w'
 have hws:IntKind.i64.wrap (lo+hi)=lo+hi:=wrap_in (by omega) (by omega)
 obtain ⟨q0,q1,q2,q3,q4,q5⟩:=ld6 HW4.out (HD7.out.block _ hlt4)
 have hA7:w7.heap[w3.heap.size]?=some (.cells #[.slice o3 sv.length k3,.int .i64 t,.int .i64 c] 35 (0,0)):=(HD7.out.block _ (lt_of_block HA4.out)).trans HA4.out
 obtain ⟨a0,a1,a2,-⟩:=ld3 hA7
 have HS1:=HSPT.out lo w7 lo0 (by omega) HD7.out
 have HS2:=fun wz hz=>HSPT.out (lo+hi) wz (by omega) (by omega) hz
 have HSU:=HMO.out (by first | rfl | trivial) (by first | rfl | trivial) lo (lo+hi) lo0 (by omega)
 clear HPH hA7
 generalize spF (X1.ru X lo)=U at *
 generalize spF (X1.ru X (lo+hi))=V at *
 have HSUV:Hid ((U=0/\(V=0\/V=1))\/(U=1/\V=1)):=HSU
 have HS2':Hid (∀ wz,Below w4.heap.size w4 wz->Calls Tryz.prog 28 #[.slice o X.length k,.agg #[.int .i64 xa,.int .i64 xb,.int .i64 xd,.slice xdo xdl xdc,.slice xao xal.length xac,.slice xpo xpl xpcp],.int .i64 (lo+hi),.agg #[.slice o3 sv.length k3,.int .i64 t,.int .i64 c]] wz fun e w'=>e=.returned (.int .i64 V)/\Below wz.heap.size wz w'):=HS2
 clear HSU HS2
 go_wp2_with fail
 refine HS1.mono ?_
 rintro e w8 ⟨rfl,hb8⟩
 have HD8:Hid (Below w4.heap.size w4 w8):=HD7.out.trans (hb8.mono HD7.out.size)
 clear hb8 HS1 q0 q1 q2 q3 q4 q5 a0 a1 a2
 obtain ⟨q0,q1,q2,q3,q4,q5⟩:=ld6 HW4.out (HD8.out.block _ hlt4)
 have hA8:w8.heap[w3.heap.size]?=some (.cells #[.slice o3 sv.length k3,.int .i64 t,.int .i64 c] 35 (0,0)):=(HD8.out.block _ (lt_of_block HA4.out)).trans HA4.out
 obtain ⟨a0,a1,a2,-⟩:=ld3 hA8
 clear hA8
 go_wp2_with fail
 refine (HS2'.out _ HD8.out).mono ?_
 rintro e w9 ⟨rfl,hb9⟩
 have HD9:Hid (Below w4.heap.size w4 w9):=HD8.out.trans (hb9.mono HD8.out.size)
 have HB9:Hid (Below w.heap.size w w9):=HB4.out.trans (HD9.out.mono HB4.out.size)
 clear hb9 q0 q1 q2 q3 q4 q5 a0 a1 a2
 rcases HSUV.out with ⟨rfl,rfl | rfl⟩ | ⟨rfl,rfl⟩
 all_goals
   go_wp2_with fail
   go_ret
   exact ⟨rfl,HB9.out⟩
end Go.Proofs.YtaebngpoagjafaaGreat
namespace Go.Proofs.YtaebngpoagjafaaGreat
open Go.ChangeShapes Go.WideShapes Go.ChangeAt Go.RowKit
theorem bytesInt:Tryz.prog.bytesOf 3=8:=by kernel_rfl
theorem bytesInts:Tryz.prog.bytesOf 25=24:=by kernel_rfl
section
variable {H:Type} {enc:TypeId×Value->H} {w:World} {base:Nat} {spare:Nat->Bool} {held:Bool}
theorem open_ints {fuel:Nat} {cs:List Value} {x:DataW H×List MemPlace} (h:DataW.trod enc Tryz.prog w base spare held fuel 25 cs=some x) :
   ∃ o len cap b off D,cs=[.slice o len cap]/\IS w o b off len D/\((∀ k∈x.1.weights Tryz.prog 25,k<=reachBytes)->len*8<=140737488351232):=by
 rcases Deep.open_slice1 Tryz.underlying25 cellsInt h with ⟨hcs,_⟩ | ⟨a,l,c,m,n,V,D,Pl,hcs,_,hl,_,hmm,hx,hel⟩
 · exact ⟨none,0,0,0,0,fun _=>0,hcs,⟨fun h=>by omega,fun h=>by omega,fun i hi=>by omega⟩,fun _=>by omega⟩
 · have hlm:l<=m:=by rw [hmm];split<;>omega
   obtain ⟨F,hF⟩:=Deep.choose_lt (α:=Int) (n:=l) (p:=fun i y=>w.cell? (a.add i)=some (.int .i64 y)) (fun i hi=>by
     obtain ⟨h1,h2⟩:=hel i (by omega)
     obtain ⟨y,ey,_,_⟩:=DataW.trod_int Tryz.underlying3 h2
     simp at ey
     exact ⟨y,by rw [h1,ey]⟩)
   obtain ⟨b,off,spot⟩:=a
   refine ⟨some ⟨b,off,spot⟩,l,c,b,off,F,hcs,?_,fun hw=>?_⟩
   · by_cases hl0:l=0
     · subst hl0
       exact ⟨fun h=>by omega,fun h=>by omega,fun i hi=>by omega⟩
     · have hc0:=hF 0 (by omega)
       have hspot:spot=none:=by simpa [Addr.add] using World.cell?_spot hc0
       subst hspot
       have hlt:b<w.heap.size:=by
         have:=hc0
         simp [Addr.add] at this
         exact lt_of_cell' this
       refine ⟨fun _=>rfl,fun _=>hlt,fun i hi=>?_⟩
       have:=hF i hi
       rw [add_plain] at this
       exact this
   · have hmem:(l+(m-l))*8∈x.1.weights Tryz.prog 25:=by
       rw [hx]
       simp only [DataW.weights,Tryz.underlying25,bytesInt]
       simp
     have:=hw _ hmem
     simp only [reachBytes] at this
     omega
theorem open_intss {fuel:Nat} {cs:List Value} {x:DataW H×List MemPlace} (h:DataW.trod enc Tryz.prog w base spare held fuel 27 cs=some x) :
   ∃ o cap ab aoff al,cs=[.slice o al.length cap]/\((∀ k∈x.1.weights Tryz.prog 27,k<=reachBytes)->AS w w.heap.size o ab aoff al/\al.length*24<=140737488351232):=by
 rcases Deep.open_slice1 Tryz.underlying27 cellsInts h with ⟨hcs,_⟩ | ⟨a,l,c,m,n,V,D,Pl,hcs,_,hl,_,hmm,hx,hel⟩
 · exact ⟨none,0,0,0,[],hcs,fun _=>⟨⟨fun h=>by simp at h,fun h=>by simp at h,fun k l hl=>by simp at hl,fun l hl=>by simp at hl⟩,by simp⟩⟩
 · have hlm:l<=m:=by rw [hmm];split<;>omega
   obtain ⟨F,hF⟩:=Deep.choose_lt (α:=Option Addr×Nat×Nat×Nat×Nat×(Nat->Int)) (n:=l) (p:=fun i y=>w.cell? (a.add i)=some (.slice y.1 y.2.1 y.2.2.1)/\IS w y.1 y.2.2.2.1 y.2.2.2.2.1 y.2.1 y.2.2.2.2.2/\((∀ k∈(D i).weights Tryz.prog 25,k<=reachBytes)->y.2.1*8<=140737488351232)) (fun i hi=>by
     obtain ⟨h1,h2⟩:=hel i (by omega)
     obtain ⟨o,len,cap,b,off,Dn,e1,hi1,hw1⟩:=open_ints h2
     simp at e1
     exact ⟨(o,len,cap,b,off,Dn),by rw [h1,e1],hi1,hw1⟩)
   obtain ⟨b,off,spot⟩:=a
   refine ⟨some ⟨b,off,spot⟩,c,b,off,(List.range l).map (fun i=>(List.range (F i).2.1).map (F i).2.2.2.2.2),by simpa using hcs,fun hw=>?_⟩
   have hwl:l*24<=140737488351232:=by
     have hmem:(l+(m-l))*24∈x.1.weights Tryz.prog 27:=by
       rw [hx]
       simp only [DataW.weights,Tryz.underlying27,bytesInts]
       simp
     have:=hw _ hmem
     simp only [reachBytes] at this
     omega
   have hwi:∀ i,i<l->(F i).2.1*8<=140737488351232:=fun i hi=>(hF i hi).2.2 (fun k hk=>hw k (by
     rw [hx]
     simp only [DataW.weights,Tryz.underlying27]
     refine List.mem_cons_of_mem _ (List.mem_append_left _ (weightsAll_mem (d:=D i) ?_ hk))
     exact List.mem_map.2 ⟨i,List.mem_range.2 hi,rfl⟩))
   have hat:∀ (k:Nat) (q:List Int),((List.range l).map (fun i=>(List.range (F i).2.1).map (F i).2.2.2.2.2))[k]?=some q->k<l/\q=(List.range (F k).2.1).map (F k).2.2.2.2.2:=fun k q hq=>by
     rw [List.getElem?_map] at hq
     by_cases hk:k<l
     · rw [List.getElem?_range hk] at hq
       simp only [Option.map_some,Option.some.injEq] at hq
       exact ⟨hk,hq.symm⟩
     · rw [List.getElem?_eq_none (by simp;omega)] at hq
       cases hq
   refine ⟨?_,by simpa using hwl⟩
   by_cases hl0:l=0
   · subst hl0
     exact ⟨fun h=>by simp at h,fun h=>by simp at h,fun k q hq=>by simp at hq,fun q hq=>by simp at hq⟩
   · have hc0:=(hF 0 (by omega)).1
     have hspot:spot=none:=by simpa [Addr.add] using World.cell?_spot hc0
     subst hspot
     have hlt:b<w.heap.size:=by
       have:=hc0
       simp [Addr.add] at this
       exact lt_of_cell' this
     refine ⟨fun _=>rfl,fun _=>hlt,fun k q hq=>?_,fun q hq=>?_⟩
     · obtain ⟨hk,rfl⟩:=hat k q hq
       obtain ⟨h1,h2,_⟩:=hF k hk
       rw [add_plain] at h1
       refine ⟨(F k).1,(F k).2.2.1,by rw [h1];simp,fun h0=>?_⟩
       simp only [List.length_map,List.length_range] at h0
       refine ⟨(F k).2.2.2.1,(F k).2.2.2.2.1,h2.at_ h0,h2.lt h0,fun i y hy=>?_⟩
       rw [List.getElem?_map] at hy
       by_cases hi:i<(F k).2.1
       · rw [List.getElem?_range hi] at hy
         simp only [Option.map_some,Option.some.injEq] at hy
         subst hy
         exact h2.val i hi
       · rw [List.getElem?_eq_none (by simp;omega)] at hy
         cases hy
     · obtain ⟨k,hk⟩:=List.getElem?_of_mem hq
       obtain ⟨hkl,rfl⟩:=hat k q hk
       have:=hwi k hkl
       simp only [List.length_map,List.length_range]
       omega
theorem open_wd {n:Nat} {cs:List Value} {x:DataW H×List MemPlace} (h:DataW.trod enc Tryz.prog w base spare held n 30 cs=some x) (hw:∀ k∈x.1.weights Tryz.prog 30,k<=reachBytes) :
   ∃ y:WD,cs=[.int .i64 y.a,.int .i64 y.b,.int .i64 y.d,.slice y.do_ y.dl y.dc,.slice y.ao y.al.length y.ac,.slice y.po y.pl y.pcp]/\y.In w/\y.pl*24<=140737488351232/\y.dl*8<=140737488351232/\y.al.length*24<=140737488351232:=by
 obtain ⟨xs,m,_,rfl,hlen,hxs,hf⟩:=DataW.trod_struct Tryz.underlying30 h
 rw [cellsWorld] at hlen
 match cs,hlen,xs,hxs with
 | [c0,c1,c2,c3,c4,c5],_,[x0,x1,x2,x3,x4,x5],_ =>
   have f0:=hf 0 _ rfl
   have f1:=hf 1 _ rfl
   have f2:=hf 2 _ rfl
   have f3:=hf 3 _ rfl
   have f4:=hf 4 _ rfl
   have f5:=hf 5 _ rfl
   obtain ⟨a,ea,_,_⟩:=DataW.trod_int Tryz.underlying3 f0
   obtain ⟨bi,eb,_,_⟩:=DataW.trod_int Tryz.underlying3 f1
   obtain ⟨dr,ec,_,_⟩:=DataW.trod_int Tryz.underlying3 f2
   obtain ⟨do_,dl,dc,db,doff,Dn,e3,hdn,hdw⟩:=open_ints f3
   obtain ⟨ao,ac,ab,aoff,al,e4,haw⟩:=open_intss f4
   obtain ⟨po,len,cap,b,off,V,L,R,e5,hpt,hd⟩:=open_places f5
   simp [cellsInt,cellsInts,cellsIntss,cellsPlaces] at ea eb ec e3 e4 e5
   have hall:∀ k,k∈x3.1.weights Tryz.prog 25\/k∈x4.1.weights Tryz.prog 27\/k∈x5.1.weights Tryz.prog 28->k<=reachBytes:=fun k hk=>hw k (by
     simp only [DataW.weights,Tryz.underlying30,DataW.weightsEach,List.map_cons,List.map_nil,List.mem_append]
     rcases hk with hk | hk | hk
     · right;right;right;left;exact hk
     · right;right;right;right;left;exact hk
     · right;right;right;right;right;left;exact hk)
   have h3:=hdw (fun k hk=>hall k (.inl hk))
   obtain ⟨h4,h5⟩:=haw (fun k hk=>hall k (.inr (.inl hk)))
   have h6:len*24<=140737488351232:=by
     rcases hd with ⟨_,rfl⟩ | ⟨el,sp,he,hl⟩
     · omega
     · have hmem:(el.length+sp.length)*24∈x5.1.weights Tryz.prog 28:=by
         simp only [DataW.weights,he,Tryz.underlying28,bytesPlace]
         simp
       have:=hall _ (.inr (.inr hmem))
       simp only [reachBytes] at this
       omega
   have hts:TS w po b off len V L R:=by
     rcases hpt with ⟨h1,h2,h3⟩ | ⟨ad,h1,h2⟩
     · subst h2
       exact ⟨fun h=>by omega,fun h=>by omega,fun i hi=>by omega,fun i hi=>by omega,fun i hi=>by omega⟩
     · rw [h1];exact h2
   refine ⟨⟨a,bi,dr,do_,db,doff,dl,dc,Dn,ao,ab,aoff,ac,al,po,b,off,len,cap,V,L,R⟩,by rw [ea,eb,ec,e3,e4,e5],⟨hts,hdn,h4,by simp only;omega,by simp only;omega⟩,h6,h3,h5⟩
end
end Go.Proofs.YtaebngpoagjafaaGreat
