import Derived.Test.YtaebngpoagjafabGreatV05
set_option maxRecDepth 100000
set_option maxHeartbeats 6400000
namespace Go.Proofs.YtaebngpoagjafabGreat
open Obj renaming cells → Q
open Value renaming int → J, slice → O
open IntKind renaming i64 → Z
open Go.RowKit
attribute [local go_sem ↓] Go.wp_at_zero Go.wp_at_succ
theorem zaa (base B:Nat) (s:ByteArray) (k p:Nat) (f:FR) (sv gv:Value) (fs:List FR) (gs:List SG) (w:World) (h:RS w base B s k sv gv fs gs) (hs:s.size<=2000) (hk:k<=s.size) (hpe:T.sk s k=p) (hc:T.ch s p=109)
 (hlen:fs.length+7<=1099511627776) (hlen2:gs.length+1<=1099511627776) (d0:0<=f.depth) (d1:f.depth<=1000000) :
 Calls Tryz.prog 163 #[.pointer (some ⟨B,0,none⟩),frA f] w fun e w'=>e=.returned (.bool true)/\∃ sv' gv',RS w' base B s p sv' gv' ([byF 109,byF 40,⟨259,9,f.depth,p⟩,⟨260,9,f.depth,p⟩,byF 124,⟨258,0,f.depth+1,0⟩,byF 41]++fs) (⟨3,p,f.depth,-1,ByteArray.empty⟩::gs)/\Mv base B sv gv sv' gv' w w':=by
 have hpee:=fun (wz:World) (hz:RS wz base B s k sv gv fs gs)=>zF base B s k sv gv fs gs wz hs hk hz
 rw [hpe,hc] at hpee
 have HPE:Hid (∀ (wz:World),RS wz base B s k sv gv fs gs->Calls Tryz.prog 135 #[.pointer (some ⟨B,0,none⟩)] wz fun e w'=>e=.returned (J Z (109))/\RS w' base B s p sv gv fs gs/\Mv base B sv gv sv gv wz w'):=hpee
 clear hpe hpee hk hc
 obtain ⟨i0,hi0,hz0,hz1,hz2⟩:=info_parts Tryz.infoSign
 have hbi:=fun w=>Zu 258 (f.depth+1) w
 have hbs:=fun w=>Zw f.depth p w
 unfold frA
 go_enter Tryz.func163,Tryz.ntmps163
 go_wp2_with fail
 have hA:=h.alloc (Q #[J Z f.sym,J Z f.kind,J Z f.depth,J Z f.list] 193)
 have hF:FB (w.alloc (Q #[J Z f.sym,J Z f.kind,J Z f.depth,J Z f.list] 193)) w.heap.size f:=⟨by simp,by simp,by simp,by simp⟩
 have hou:=h.outNew
 have hwl:w.heap.size<(w.alloc (Q #[J Z f.sym,J Z f.kind,J Z f.depth,J Z f.list] 193)).heap.size:=by simp
 have hmv:Mv base B sv gv sv gv w (w.alloc (Q #[J Z f.sym,J Z f.kind,J Z f.depth,J Z f.list] 193)):=Mv.alloc h.bs _
 refine (HPE.out _ hA).mono ?_
 rintro e w1 ⟨rfl,hr1,hm1⟩
 have hk1:=hm1.kept w.heap.size hwl hou
 have hF1:=hF.of_block hk1.1
 have hwl1:w.heap.size<w1.heap.size:=Nat.lt_of_lt_of_le hwl hm1.bel.size
 have HM1:Hid (Mv base B sv gv sv gv w w1):=hmv.trans hm1
 have HR1:Hid (RS w1 base B s p sv gv fs gs):=hr1
 have HF1:Hid (FB w1 w.heap.size f):=hF1
 have c1:=hr1.c1
 have b2:=hF1.c2
 clear hmv hm1 hA hF hwl hr1 hk1 h hF1
 go_wp2_with fail
 refine (yt _ _ _ _).mono ?_
 rintro e w' ⟨rfl,hww⟩
 subst w'
 have HR3:Hid (RS ((w1.alloc (xF f.depth)).alloc (xL 9 f.depth p)) base B s p sv gv fs gs):=(HR1.out.alloc _).alloc _
 have HM3:Hid (Mv base B sv gv sv gv w ((w1.alloc (xF f.depth)).alloc (xL 9 f.depth p))):=(HM1.out.trans (Mv.alloc HR1.out.bs _)).trans (Mv.alloc (HR1.out.alloc _).bs _)
 have HF3:Hid (FB ((w1.alloc (xF f.depth)).alloc (xL 9 f.depth p)) w.heap.size f):=HF1.out.of_block (by rw [Below.heap_alloc _ _ _ (by simp;omega),Below.heap_alloc _ _ _ hwl1])
 have HXK:Hid (XK w1.heap.size 9 f.depth p ((w1.alloc (xF f.depth)).alloc (xL 9 f.depth p))):=Ys w1 9 f.depth p
 obtain ⟨l0,l1,l2,l3,l4,l5,l6,l7,i0',i1',i2',i3'⟩:=HXK.out
 have hz3:w1.heap.size+1<((w1.alloc (xF f.depth)).alloc (xL 9 f.depth p)).heap.size:=by simp
 go_wp2_with fail
 generalize (w1.alloc (xF f.depth)).alloc (xL 9 f.depth p)=w3 at *
 have hoL:Out B sv gv (w1.heap.size+1):=⟨fun e=>by have:=HR1.out.lt;omega,fun e=>by have:=(HR1.out.st.lt _ e).2;omega,fun e=>by have:=(HR1.out.sg.lt _ e).2;omega⟩
 have hoI:Out B sv gv w1.heap.size:=HR1.out.outNew
 have hkeep:Hid (∀ (wz w':World) (sv' gv':Value),Below w3.heap.size w3 wz->Mv base B sv gv sv' gv' wz w'->XK w1.heap.size 9 f.depth p w'):=by
  intro wz w' sv' gv' hb hm
  have eL:w'.heap[w1.heap.size+1]?=w3.heap[w1.heap.size+1]?:=by
   have hlt:w1.heap.size+1<wz.heap.size:=by have:=hb.size;omega
   rw [(hm.kept _ hlt hoL).1,hb.block _ (by omega)]
  have eI:w'.heap[w1.heap.size]?=w3.heap[w1.heap.size]?:=by
   have hlt:w1.heap.size<wz.heap.size:=by have:=hb.size;omega
   rw [(hm.kept _ hlt hoI).1,hb.block _ (by omega)]
  exact ZO HXK.out eL eI
 have hkeepB:Hid (∀ (wz:World),Below w3.heap.size w3 wz->XK w1.heap.size 9 f.depth p wz):=by
  intro wz hb
  exact ZO HXK.out (hb.block _ (by omega)) (hb.block _ (by omega))
 have hne1:w3.heap.size≠w1.heap.size+1:=by omega
 have hne2:w3.heap.size≠w1.heap.size:=by omega
 clear c1 b2
 go_region_held3 (fun w'=>XK w1.heap.size 9 f.depth p w') (first | (refine hkeepB.out _ ?_;(repeat (first | exact Below.refl _ _ | refine Below.drew ?_ | refine Below.alloc ?_ (by simp<;>omega) _));done) | (refine hkeep.out _ _ _ _ ?_ hm;(repeat (first | exact Below.refl _ _ | refine Below.drew ?_ | refine Below.alloc ?_ (by simp<;>omega) _));done)) (first | (go_at_call 162;refine (zC _ _ (by omega) (by omega)).mono ?_;rintro e w' ⟨rfl,rfl⟩) | (go_at_call 162;rw [show IntKind.u8.wrap 109=109 from by decide];refine (zC _ _ (by omega) (by omega)).mono ?_;rintro e w' ⟨rfl,rfl⟩) | (go_at_call 133;refine (yA base B _ _ s p sv gv fs [byF 109,byF 40,⟨259,9,f.depth,p⟩,⟨260,9,f.depth,p⟩,byF 124,⟨258,0,f.depth+1,0⟩,byF 41] gs _ _ ((((HR3.out.alloc _).alloc _).alloc _).alloc _) (by simp) (by rfl) (by simp;omega) _ rfl).mono ?_;rintro e w' ⟨rfl,sv',hr,hm⟩))
 have HR4:Hid (RS w' base B s p sv' gv ([byF 109,byF 40,⟨259,9,f.depth,p⟩,⟨260,9,f.depth,p⟩,byF 124,⟨258,0,f.depth+1,0⟩,byF 41]++fs) gs):=hr
 obtain ⟨wz,hbz,hmz⟩:∃ wz,Below w3.heap.size w3 wz/\Mv base B sv gv sv' gv wz w':=⟨_,by repeat (first | exact Below.refl _ _ | refine Below.drew ?_ | refine Below.alloc ?_ (by simp<;>omega) _),hm⟩
 have HM4:Hid (Mv base B sv gv sv' gv w w'):=(HM3.out.trans (Mv.of_below hbz HR3.out.bs)).trans hmz
 have hlt4:w.heap.size<w'.heap.size:=by have h1:=hbz.size;have h2:=hmz.bel.size;omega
 have hF4:FB w' w.heap.size f:=HF3.out.of_block (by
  have h1:w.heap.size<w3.heap.size:=by omega
  rw [(hmz.kept _ (Nat.lt_of_lt_of_le h1 hbz.size) hou).1,hbz.block _ h1])
 have b2:=hF4.c2
 have c3:=HR4.out.c3
 have z3:=HR4.out.fz 3
 have hBl:=HR4.out.lt
 have zf:∀ o,(w'.alloc o).frozen? ⟨B,3,none⟩=false:=fun o=>(HR4.out.alloc o).fz 3
 have hA1:Hid (gs.length+1<=maxLen):=by show _<=_;unfold maxLen;omega
 have hA2:Hid ((gs.length+1)*48<=140737488355328):=by show _<=_;omega
 have hone:Hid (∀ u∈sgV ⟨3,p,f.depth,-1,ByteArray.empty⟩,u.oneCell'=true):=fun u hu=>by simp [sgV] at hu;rcases hu with rfl | rfl | rfl | rfl | rfl<;>rfl
 have hA3:Hid (∀ o:Obj,base<=(w'.alloc o).drew.heap.size):=fun o=>by have:=HR4.out.bs;show base<=(w'.alloc o).heap.size;simp;omega
 clear hr hm hbz hmz hF4 hkeep hkeepB hne1 hne2 hoL hoI i0' i1' i2' i3' l0 l1 l2 l3 l4 l5 l6 l7 HR3 HM3 HF3 HF1 HM1
 go_wp2_with fail
 go_region_law ((refine step_append_lies _ (by rfl) _ _ _ (by rfl) base 162 i0 _ 5 48 Tryz.underlying157 hi0 hz0 hz1 hz2 rfl (by decide) gv _ _ (by rfl) ((HR4.out.sg.alloc _).drew) ⟨w'.heap.size,0,none⟩ 1 1 (sgV ⟨3,p,f.depth,-1,ByteArray.empty⟩) (by rfl) (by rfl) (World.news_of_block (cs:=#[J Z 3,J Z p,J Z f.depth,J Z (-1),.string ByteArray.empty]) (t:=162) (fr:=(0,0)) (heap_alloc_new w' _)) hone.out (Nat.lt_succ_self 0) hA1.out hA2.out (hA3.out _) (w'.heap.size+1) (by simp) ?_;intro gg cap w5 hown hgrow hat hlt;obtain ⟨y0,y1,y3,yz,_⟩:=HR4.out.grown3 hgrow))
 all_goals
  have hSg:=HR4.out.signed rfl hown hgrow hat
  have HS1:Hid (RS (w5.setCell ⟨B,3,none⟩ (O (some ⟨gg,0,none⟩) (gs.length+1) cap)) base B s p sv' (O (some ⟨gg,0,none⟩) (gs.length+1) cap) ([byF 109,byF 40,⟨259,9,f.depth,p⟩,⟨260,9,f.depth,p⟩,byF 124,⟨258,0,f.depth+1,0⟩,byF 41]++fs) (⟨3,p,f.depth,-1,ByteArray.empty⟩::gs)):=hSg.1
  have HS2:Hid (Mv base B sv' gv sv' (O (some ⟨gg,0,none⟩) (gs.length+1) cap) w' (w5.setCell ⟨B,3,none⟩ (O (some ⟨gg,0,none⟩) (gs.length+1) cap))):=hSg.2
  clear hSg hown hgrow hat y0 y1 y3 yz
  go_wp2_with fail
  go_ret
  exact ⟨rfl,sv',_,HS1.out,HM4.out.trans HS2.out⟩
theorem QP (base B:Nat) (s:ByteArray) (k p:Nat) (f:FR) (sv gv:Value) (fs:List FR) (gs:List SG) (w:World) (h:RS w base B s k sv gv fs gs) (hs:s.size<=2000) (hk:k<=s.size) (hpe:T.sk s k=p) (hc:T.ch s p=103)
 (hlen:fs.length+7<=1099511627776) (hlen2:gs.length+1<=1099511627776) (d0:0<=f.depth) (d1:f.depth<=1000000) :
 Calls Tryz.prog 163 #[.pointer (some ⟨B,0,none⟩),frA f] w fun e w'=>e=.returned (.bool true)/\∃ sv' gv',RS w' base B s p sv' gv' ([byF 103,byF 40,⟨259,7,f.depth,p⟩,⟨260,7,f.depth,p⟩,byF 124,⟨258,0,f.depth+1,0⟩,byF 41]++fs) (⟨3,p,f.depth,-1,ByteArray.empty⟩::gs)/\Mv base B sv gv sv' gv' w w':=by
 have hpee:=fun (wz:World) (hz:RS wz base B s k sv gv fs gs)=>zF base B s k sv gv fs gs wz hs hk hz
 rw [hpe,hc] at hpee
 have HPE:Hid (∀ (wz:World),RS wz base B s k sv gv fs gs->Calls Tryz.prog 135 #[.pointer (some ⟨B,0,none⟩)] wz fun e w'=>e=.returned (J Z (103))/\RS w' base B s p sv gv fs gs/\Mv base B sv gv sv gv wz w'):=hpee
 clear hpe hpee hk hc
 obtain ⟨i0,hi0,hz0,hz1,hz2⟩:=info_parts Tryz.infoSign
 have hbi:=fun w=>Zu 258 (f.depth+1) w
 have hbs:=fun w=>Zw f.depth p w
 unfold frA
 go_enter Tryz.func163,Tryz.ntmps163
 go_wp2_with fail
 have hA:=h.alloc (Q #[J Z f.sym,J Z f.kind,J Z f.depth,J Z f.list] 193)
 have hF:FB (w.alloc (Q #[J Z f.sym,J Z f.kind,J Z f.depth,J Z f.list] 193)) w.heap.size f:=⟨by simp,by simp,by simp,by simp⟩
 have hou:=h.outNew
 have hwl:w.heap.size<(w.alloc (Q #[J Z f.sym,J Z f.kind,J Z f.depth,J Z f.list] 193)).heap.size:=by simp
 have hmv:Mv base B sv gv sv gv w (w.alloc (Q #[J Z f.sym,J Z f.kind,J Z f.depth,J Z f.list] 193)):=Mv.alloc h.bs _
 refine (HPE.out _ hA).mono ?_
 rintro e w1 ⟨rfl,hr1,hm1⟩
 have hk1:=hm1.kept w.heap.size hwl hou
 have hF1:=hF.of_block hk1.1
 have hwl1:w.heap.size<w1.heap.size:=Nat.lt_of_lt_of_le hwl hm1.bel.size
 have HM1:Hid (Mv base B sv gv sv gv w w1):=hmv.trans hm1
 have HR1:Hid (RS w1 base B s p sv gv fs gs):=hr1
 have HF1:Hid (FB w1 w.heap.size f):=hF1
 have c1:=hr1.c1
 have b2:=hF1.c2
 clear hmv hm1 hA hF hwl hr1 hk1 h hF1
 go_wp2_with fail
 refine (yt _ _ _ _).mono ?_
 rintro e w' ⟨rfl,hww⟩
 subst w'
 have HR3:Hid (RS ((w1.alloc (xF f.depth)).alloc (xL 7 f.depth p)) base B s p sv gv fs gs):=(HR1.out.alloc _).alloc _
 have HM3:Hid (Mv base B sv gv sv gv w ((w1.alloc (xF f.depth)).alloc (xL 7 f.depth p))):=(HM1.out.trans (Mv.alloc HR1.out.bs _)).trans (Mv.alloc (HR1.out.alloc _).bs _)
 have HF3:Hid (FB ((w1.alloc (xF f.depth)).alloc (xL 7 f.depth p)) w.heap.size f):=HF1.out.of_block (by rw [Below.heap_alloc _ _ _ (by simp;omega),Below.heap_alloc _ _ _ hwl1])
 have HXK:Hid (XK w1.heap.size 7 f.depth p ((w1.alloc (xF f.depth)).alloc (xL 7 f.depth p))):=Ys w1 7 f.depth p
 obtain ⟨l0,l1,l2,l3,l4,l5,l6,l7,i0',i1',i2',i3'⟩:=HXK.out
 have hz3:w1.heap.size+1<((w1.alloc (xF f.depth)).alloc (xL 7 f.depth p)).heap.size:=by simp
 go_wp2_with fail
 generalize (w1.alloc (xF f.depth)).alloc (xL 7 f.depth p)=w3 at *
 have hoL:Out B sv gv (w1.heap.size+1):=⟨fun e=>by have:=HR1.out.lt;omega,fun e=>by have:=(HR1.out.st.lt _ e).2;omega,fun e=>by have:=(HR1.out.sg.lt _ e).2;omega⟩
 have hoI:Out B sv gv w1.heap.size:=HR1.out.outNew
 have hkeep:Hid (∀ (wz w':World) (sv' gv':Value),Below w3.heap.size w3 wz->Mv base B sv gv sv' gv' wz w'->XK w1.heap.size 7 f.depth p w'):=by
  intro wz w' sv' gv' hb hm
  have eL:w'.heap[w1.heap.size+1]?=w3.heap[w1.heap.size+1]?:=by
   have hlt:w1.heap.size+1<wz.heap.size:=by have:=hb.size;omega
   rw [(hm.kept _ hlt hoL).1,hb.block _ (by omega)]
  have eI:w'.heap[w1.heap.size]?=w3.heap[w1.heap.size]?:=by
   have hlt:w1.heap.size<wz.heap.size:=by have:=hb.size;omega
   rw [(hm.kept _ hlt hoI).1,hb.block _ (by omega)]
  exact ZO HXK.out eL eI
 have hkeepB:Hid (∀ (wz:World),Below w3.heap.size w3 wz->XK w1.heap.size 7 f.depth p wz):=by
  intro wz hb
  exact ZO HXK.out (hb.block _ (by omega)) (hb.block _ (by omega))
 have hne1:w3.heap.size≠w1.heap.size+1:=by omega
 have hne2:w3.heap.size≠w1.heap.size:=by omega
 clear c1 b2
 go_region_held3 (fun w'=>XK w1.heap.size 7 f.depth p w') (first | (refine hkeepB.out _ ?_;(repeat (first | exact Below.refl _ _ | refine Below.drew ?_ | refine Below.alloc ?_ (by simp<;>omega) _));done) | (refine hkeep.out _ _ _ _ ?_ hm;(repeat (first | exact Below.refl _ _ | refine Below.drew ?_ | refine Below.alloc ?_ (by simp<;>omega) _));done)) (first | (go_at_call 162;refine (zC _ _ (by omega) (by omega)).mono ?_;rintro e w' ⟨rfl,rfl⟩) | (go_at_call 162;rw [show IntKind.u8.wrap 103=103 from by decide];refine (zC _ _ (by omega) (by omega)).mono ?_;rintro e w' ⟨rfl,rfl⟩) | (go_at_call 133;refine (yA base B _ _ s p sv gv fs [byF 103,byF 40,⟨259,7,f.depth,p⟩,⟨260,7,f.depth,p⟩,byF 124,⟨258,0,f.depth+1,0⟩,byF 41] gs _ _ ((((HR3.out.alloc _).alloc _).alloc _).alloc _) (by simp) (by rfl) (by simp;omega) _ rfl).mono ?_;rintro e w' ⟨rfl,sv',hr,hm⟩))
 have HR4:Hid (RS w' base B s p sv' gv ([byF 103,byF 40,⟨259,7,f.depth,p⟩,⟨260,7,f.depth,p⟩,byF 124,⟨258,0,f.depth+1,0⟩,byF 41]++fs) gs):=hr
 obtain ⟨wz,hbz,hmz⟩:∃ wz,Below w3.heap.size w3 wz/\Mv base B sv gv sv' gv wz w':=⟨_,by repeat (first | exact Below.refl _ _ | refine Below.drew ?_ | refine Below.alloc ?_ (by simp<;>omega) _),hm⟩
 have HM4:Hid (Mv base B sv gv sv' gv w w'):=(HM3.out.trans (Mv.of_below hbz HR3.out.bs)).trans hmz
 have hlt4:w.heap.size<w'.heap.size:=by have h1:=hbz.size;have h2:=hmz.bel.size;omega
 have hF4:FB w' w.heap.size f:=HF3.out.of_block (by
  have h1:w.heap.size<w3.heap.size:=by omega
  rw [(hmz.kept _ (Nat.lt_of_lt_of_le h1 hbz.size) hou).1,hbz.block _ h1])
 have b2:=hF4.c2
 have c3:=HR4.out.c3
 have z3:=HR4.out.fz 3
 have hBl:=HR4.out.lt
 have zf:∀ o,(w'.alloc o).frozen? ⟨B,3,none⟩=false:=fun o=>(HR4.out.alloc o).fz 3
 have hA1:Hid (gs.length+1<=maxLen):=by show _<=_;unfold maxLen;omega
 have hA2:Hid ((gs.length+1)*48<=140737488355328):=by show _<=_;omega
 have hone:Hid (∀ u∈sgV ⟨3,p,f.depth,-1,ByteArray.empty⟩,u.oneCell'=true):=fun u hu=>by simp [sgV] at hu;rcases hu with rfl | rfl | rfl | rfl | rfl<;>rfl
 have hA3:Hid (∀ o:Obj,base<=(w'.alloc o).drew.heap.size):=fun o=>by have:=HR4.out.bs;show base<=(w'.alloc o).heap.size;simp;omega
 clear hr hm hbz hmz hF4 hkeep hkeepB hne1 hne2 hoL hoI i0' i1' i2' i3' l0 l1 l2 l3 l4 l5 l6 l7 HR3 HM3 HF3 HF1 HM1
 go_wp2_with fail
 go_region_law ((refine step_append_lies _ (by rfl) _ _ _ (by rfl) base 162 i0 _ 5 48 Tryz.underlying157 hi0 hz0 hz1 hz2 rfl (by decide) gv _ _ (by rfl) ((HR4.out.sg.alloc _).drew) ⟨w'.heap.size,0,none⟩ 1 1 (sgV ⟨3,p,f.depth,-1,ByteArray.empty⟩) (by rfl) (by rfl) (World.news_of_block (cs:=#[J Z 3,J Z p,J Z f.depth,J Z (-1),.string ByteArray.empty]) (t:=162) (fr:=(0,0)) (heap_alloc_new w' _)) hone.out (Nat.lt_succ_self 0) hA1.out hA2.out (hA3.out _) (w'.heap.size+1) (by simp) ?_;intro gg cap w5 hown hgrow hat hlt;obtain ⟨y0,y1,y3,yz,_⟩:=HR4.out.grown3 hgrow))
 all_goals
  have hSg:=HR4.out.signed rfl hown hgrow hat
  have HS1:Hid (RS (w5.setCell ⟨B,3,none⟩ (O (some ⟨gg,0,none⟩) (gs.length+1) cap)) base B s p sv' (O (some ⟨gg,0,none⟩) (gs.length+1) cap) ([byF 103,byF 40,⟨259,7,f.depth,p⟩,⟨260,7,f.depth,p⟩,byF 124,⟨258,0,f.depth+1,0⟩,byF 41]++fs) (⟨3,p,f.depth,-1,ByteArray.empty⟩::gs)):=hSg.1
  have HS2:Hid (Mv base B sv' gv sv' (O (some ⟨gg,0,none⟩) (gs.length+1) cap) w' (w5.setCell ⟨B,3,none⟩ (O (some ⟨gg,0,none⟩) (gs.length+1) cap))):=hSg.2
  clear hSg hown hgrow hat y0 y1 y3 yz
  go_wp2_with fail
  go_ret
  exact ⟨rfl,sv',_,HS1.out,HM4.out.trans HS2.out⟩
theorem zbu (base B:Nat) (s:ByteArray) (k p:Nat) (f:FR) (sv gv:Value) (fs:List FR) (gs:List SG) (w:World) (h:RS w base B s k sv gv fs gs) (hs:s.size<=2000) (hk:k<=s.size) (hpe:T.sk s k=p) (hc:T.ch s p=116)
 (hlen:fs.length+7<=1099511627776) (hlen2:gs.length+1<=1099511627776) (d0:0<=f.depth) (d1:f.depth<=1000000) :
 Calls Tryz.prog 163 #[.pointer (some ⟨B,0,none⟩),frA f] w fun e w'=>e=.returned (.bool true)/\∃ sv' gv',RS w' base B s p sv' gv' ([byF 116,byF 40,⟨261,6,0,-1⟩,byF 44,⟨258,0,f.depth+1,0⟩,byF 41]++fs) (⟨3,p,f.depth,-1,ByteArray.empty⟩::gs)/\Mv base B sv gv sv' gv' w w':=by
 have hpee:=fun (wz:World) (hz:RS wz base B s k sv gv fs gs)=>zF base B s k sv gv fs gs wz hs hk hz
 rw [hpe,hc] at hpee
 have HPE:Hid (∀ (wz:World),RS wz base B s k sv gv fs gs->Calls Tryz.prog 135 #[.pointer (some ⟨B,0,none⟩)] wz fun e w'=>e=.returned (J Z (116))/\RS w' base B s p sv gv fs gs/\Mv base B sv gv sv gv wz w'):=hpee
 clear hpe hpee hk hc
 obtain ⟨i0,hi0,hz0,hz1,hz2⟩:=info_parts Tryz.infoSign
 have hbi:=fun w=>Zu 258 (f.depth+1) w
 have hbs:=fun w=>Zw f.depth p w
 unfold frA
 go_enter Tryz.func163,Tryz.ntmps163
 go_wp2_with fail
 have hA:=h.alloc (Q #[J Z f.sym,J Z f.kind,J Z f.depth,J Z f.list] 193)
 have hF:FB (w.alloc (Q #[J Z f.sym,J Z f.kind,J Z f.depth,J Z f.list] 193)) w.heap.size f:=⟨by simp,by simp,by simp,by simp⟩
 have hou:=h.outNew
 have hwl:w.heap.size<(w.alloc (Q #[J Z f.sym,J Z f.kind,J Z f.depth,J Z f.list] 193)).heap.size:=by simp
 have hmv:Mv base B sv gv sv gv w (w.alloc (Q #[J Z f.sym,J Z f.kind,J Z f.depth,J Z f.list] 193)):=Mv.alloc h.bs _
 refine (HPE.out _ hA).mono ?_
 rintro e w1 ⟨rfl,hr1,hm1⟩
 have hk1:=hm1.kept w.heap.size hwl hou
 have hF1:=hF.of_block hk1.1
 have hwl1:w.heap.size<w1.heap.size:=Nat.lt_of_lt_of_le hwl hm1.bel.size
 have HM1:Hid (Mv base B sv gv sv gv w w1):=hmv.trans hm1
 have HR1:Hid (RS w1 base B s p sv gv fs gs):=hr1
 have HF1:Hid (FB w1 w.heap.size f):=hF1
 have c1:=hr1.c1
 have b2:=hF1.c2
 clear hmv hm1 hA hF hwl hr1 hk1 h hF1
 go_wp2_with fail
 refine (yt _ _ _ _).mono ?_
 rintro e w' ⟨rfl,hww⟩
 subst w'
 have HR3:Hid (RS ((w1.alloc (xF f.depth)).alloc (xL 4 f.depth p)) base B s p sv gv fs gs):=(HR1.out.alloc _).alloc _
 have HM3:Hid (Mv base B sv gv sv gv w ((w1.alloc (xF f.depth)).alloc (xL 4 f.depth p))):=(HM1.out.trans (Mv.alloc HR1.out.bs _)).trans (Mv.alloc (HR1.out.alloc _).bs _)
 have HF3:Hid (FB ((w1.alloc (xF f.depth)).alloc (xL 4 f.depth p)) w.heap.size f):=HF1.out.of_block (by rw [Below.heap_alloc _ _ _ (by simp;omega),Below.heap_alloc _ _ _ hwl1])
 obtain ⟨l0,l1,l2,l3,l4,l5,l6,l7,i0',i1',i2',i3'⟩:=Ys w1 4 f.depth p
 have hz3:w1.heap.size+1<((w1.alloc (xF f.depth)).alloc (xL 4 f.depth p)).heap.size:=by simp
 have hbt:=fun w=>Zk 261 6 (-1) w
 go_wp2_with fail
 generalize (w1.alloc (xF f.depth)).alloc (xL 4 f.depth p)=w3 at *
 have hoL:Out B sv gv (w1.heap.size+1):=⟨fun e=>by have:=HR1.out.lt;omega,fun e=>by have:=(HR1.out.st.lt _ e).2;omega,fun e=>by have:=(HR1.out.sg.lt _ e).2;omega⟩
 have hoI:Out B sv gv w1.heap.size:=HR1.out.outNew
 have hkeep:Hid (∀ (wz w':World) (sv' gv':Value),Below w3.heap.size w3 wz->Mv base B sv gv sv' gv' wz w'->w'.cell? ⟨w1.heap.size,0,none⟩=some (J Z 258)/\w'.cell? ⟨w1.heap.size,1,none⟩=some (J Z 0)/\w'.cell? ⟨w1.heap.size,2,none⟩=some (J Z (f.depth+1))/\w'.cell? ⟨w1.heap.size,3,none⟩=some (J Z 0)):=by
  intro wz w' sv' gv' hb hm
  have eI:w'.heap[w1.heap.size]?=w3.heap[w1.heap.size]?:=by
   have hlt:w1.heap.size<wz.heap.size:=by have:=hb.size;omega
   rw [(hm.kept _ hlt hoI).1,hb.block _ (by omega)]
  exact ⟨by rw [World.cell?_of_block (w:=w3) eI];exact i0',by rw [World.cell?_of_block (w:=w3) eI];exact i1',by rw [World.cell?_of_block (w:=w3) eI];exact i2',by rw [World.cell?_of_block (w:=w3) eI];exact i3'⟩
 have hkeepB:Hid (∀ (wz:World),Below w3.heap.size w3 wz->wz.cell? ⟨w1.heap.size,0,none⟩=some (J Z 258)/\wz.cell? ⟨w1.heap.size,1,none⟩=some (J Z 0)/\wz.cell? ⟨w1.heap.size,2,none⟩=some (J Z (f.depth+1))/\wz.cell? ⟨w1.heap.size,3,none⟩=some (J Z 0)):=by
  intro wz hb
  exact ⟨(hb.cell (p:=⟨w1.heap.size,0,none⟩) (show w1.heap.size<w3.heap.size by omega)).trans i0',(hb.cell (p:=⟨w1.heap.size,1,none⟩) (show w1.heap.size<w3.heap.size by omega)).trans i1',(hb.cell (p:=⟨w1.heap.size,2,none⟩) (show w1.heap.size<w3.heap.size by omega)).trans i2',(hb.cell (p:=⟨w1.heap.size,3,none⟩) (show w1.heap.size<w3.heap.size by omega)).trans i3'⟩
 have hne1:w3.heap.size≠w1.heap.size+1:=by omega
 have hne2:w3.heap.size≠w1.heap.size:=by omega
 clear c1 b2
 go_region_held3 (fun w'=>w'.cell? ⟨w1.heap.size,0,none⟩=some (J Z 258)/\w'.cell? ⟨w1.heap.size,1,none⟩=some (J Z 0)/\w'.cell? ⟨w1.heap.size,2,none⟩=some (J Z (f.depth+1))/\w'.cell? ⟨w1.heap.size,3,none⟩=some (J Z 0)) (first | (refine hkeepB.out _ ?_;(repeat (first | exact Below.refl _ _ | refine Below.drew ?_ | refine Below.alloc ?_ (by simp<;>omega) _));done) | (refine hkeep.out _ _ _ _ ?_ hm;(repeat (first | exact Below.refl _ _ | refine Below.drew ?_ | refine Below.alloc ?_ (by simp<;>omega) _));done)) (first | (go_at_call 162;refine (zC _ _ (by omega) (by omega)).mono ?_;rintro e w' ⟨rfl,rfl⟩) | (go_at_call 162;rw [show IntKind.u8.wrap 116=116 from by decide];refine (zC _ _ (by omega) (by omega)).mono ?_;rintro e w' ⟨rfl,rfl⟩) | (go_at_call 133;refine (yA base B _ _ s p sv gv fs [byF 116,byF 40,⟨261,6,0,-1⟩,byF 44,⟨258,0,f.depth+1,0⟩,byF 41] gs _ _ ((((HR3.out.alloc _).alloc _).alloc _).alloc _) (by simp) (by rfl) (by simp;omega) _ rfl).mono ?_;rintro e w' ⟨rfl,sv',hr,hm⟩))
 have HR4:Hid (RS w' base B s p sv' gv ([byF 116,byF 40,⟨261,6,0,-1⟩,byF 44,⟨258,0,f.depth+1,0⟩,byF 41]++fs) gs):=hr
 obtain ⟨wz,hbz,hmz⟩:∃ wz,Below w3.heap.size w3 wz/\Mv base B sv gv sv' gv wz w':=⟨_,by repeat (first | exact Below.refl _ _ | refine Below.drew ?_ | refine Below.alloc ?_ (by simp<;>omega) _),hm⟩
 have HM4:Hid (Mv base B sv gv sv' gv w w'):=(HM3.out.trans (Mv.of_below hbz HR3.out.bs)).trans hmz
 have hlt4:w.heap.size<w'.heap.size:=by have h1:=hbz.size;have h2:=hmz.bel.size;omega
 have hF4:FB w' w.heap.size f:=HF3.out.of_block (by
  have h1:w.heap.size<w3.heap.size:=by omega
  rw [(hmz.kept _ (Nat.lt_of_lt_of_le h1 hbz.size) hou).1,hbz.block _ h1])
 have b2:=hF4.c2
 have c3:=HR4.out.c3
 have z3:=HR4.out.fz 3
 have hBl:=HR4.out.lt
 have zf:∀ o,(w'.alloc o).frozen? ⟨B,3,none⟩=false:=fun o=>(HR4.out.alloc o).fz 3
 have hA1:Hid (gs.length+1<=maxLen):=by show _<=_;unfold maxLen;omega
 have hA2:Hid ((gs.length+1)*48<=140737488355328):=by show _<=_;omega
 have hone:Hid (∀ u∈sgV ⟨3,p,f.depth,-1,ByteArray.empty⟩,u.oneCell'=true):=fun u hu=>by simp [sgV] at hu;rcases hu with rfl | rfl | rfl | rfl | rfl<;>rfl
 have hA3:Hid (∀ o:Obj,base<=(w'.alloc o).drew.heap.size):=fun o=>by have:=HR4.out.bs;show base<=(w'.alloc o).heap.size;simp;omega
 clear hr hm hbz hmz hF4 hkeep hkeepB hne1 hne2 hoL hoI i0' i1' i2' i3' l0 l1 l2 l3 l4 l5 l6 l7 HR3 HM3 HF3 HF1 HM1
 go_wp2_with fail
 go_region_law ((refine step_append_lies _ (by rfl) _ _ _ (by rfl) base 162 i0 _ 5 48 Tryz.underlying157 hi0 hz0 hz1 hz2 rfl (by decide) gv _ _ (by rfl) ((HR4.out.sg.alloc _).drew) ⟨w'.heap.size,0,none⟩ 1 1 (sgV ⟨3,p,f.depth,-1,ByteArray.empty⟩) (by rfl) (by rfl) (World.news_of_block (cs:=#[J Z 3,J Z p,J Z f.depth,J Z (-1),.string ByteArray.empty]) (t:=162) (fr:=(0,0)) (heap_alloc_new w' _)) hone.out (Nat.lt_succ_self 0) hA1.out hA2.out (hA3.out _) (w'.heap.size+1) (by simp) ?_;intro gg cap w5 hown hgrow hat hlt;obtain ⟨y0,y1,y3,yz,_⟩:=HR4.out.grown3 hgrow))
 all_goals
  have hSg:=HR4.out.signed rfl hown hgrow hat
  have HS1:Hid (RS (w5.setCell ⟨B,3,none⟩ (O (some ⟨gg,0,none⟩) (gs.length+1) cap)) base B s p sv' (O (some ⟨gg,0,none⟩) (gs.length+1) cap) ([byF 116,byF 40,⟨261,6,0,-1⟩,byF 44,⟨258,0,f.depth+1,0⟩,byF 41]++fs) (⟨3,p,f.depth,-1,ByteArray.empty⟩::gs)):=hSg.1
  have HS2:Hid (Mv base B sv' gv sv' (O (some ⟨gg,0,none⟩) (gs.length+1) cap) w' (w5.setCell ⟨B,3,none⟩ (O (some ⟨gg,0,none⟩) (gs.length+1) cap))):=hSg.2
  clear hSg hown hgrow hat y0 y1 y3 yz
  go_wp2_with fail
  go_ret
  exact ⟨rfl,sv',_,HS1.out,HM4.out.trans HS2.out⟩
theorem jD (base B:Nat) (s:ByteArray) (k p:Nat) (f:FR) (sv gv:Value) (fs:List FR) (gs:List SG) (w:World) (h:RS w base B s k sv gv fs gs) (hs:s.size<=2000) (hk:k<=s.size) (hpe:T.sk s k=p) (hc:T.ch s p=64)
 (hlen:fs.length+7<=1099511627776) (hlen2:gs.length+1<=1099511627776) (d0:0<=f.depth) (d1:f.depth<=1000000) :
 Calls Tryz.prog 163 #[.pointer (some ⟨B,0,none⟩),frA f] w fun e w'=>e=.returned (.bool true)/\∃ sv' gv',RS w' base B s p sv' gv' ([byF 64,⟨261,8,0,-1⟩]++fs) (⟨3,p,f.depth,-1,ByteArray.empty⟩::gs)/\Mv base B sv gv sv' gv' w w':=by
 have hpee:=fun (wz:World) (hz:RS wz base B s k sv gv fs gs)=>zF base B s k sv gv fs gs wz hs hk hz
 rw [hpe,hc] at hpee
 have HPE:Hid (∀ (wz:World),RS wz base B s k sv gv fs gs->Calls Tryz.prog 135 #[.pointer (some ⟨B,0,none⟩)] wz fun e w'=>e=.returned (J Z (64))/\RS w' base B s p sv gv fs gs/\Mv base B sv gv sv gv wz w'):=hpee
 clear hpe hpee hk hc
 obtain ⟨i0,hi0,hz0,hz1,hz2⟩:=info_parts Tryz.infoSign
 have hbi:=fun w=>Zu 258 (f.depth+1) w
 have hbs:=fun w=>Zw f.depth p w
 unfold frA
 go_enter Tryz.func163,Tryz.ntmps163
 go_wp2_with fail
 have hA:=h.alloc (Q #[J Z f.sym,J Z f.kind,J Z f.depth,J Z f.list] 193)
 have hF:FB (w.alloc (Q #[J Z f.sym,J Z f.kind,J Z f.depth,J Z f.list] 193)) w.heap.size f:=⟨by simp,by simp,by simp,by simp⟩
 have hou:=h.outNew
 have hwl:w.heap.size<(w.alloc (Q #[J Z f.sym,J Z f.kind,J Z f.depth,J Z f.list] 193)).heap.size:=by simp
 have hmv:Mv base B sv gv sv gv w (w.alloc (Q #[J Z f.sym,J Z f.kind,J Z f.depth,J Z f.list] 193)):=Mv.alloc h.bs _
 refine (HPE.out _ hA).mono ?_
 rintro e w1 ⟨rfl,hr1,hm1⟩
 have hk1:=hm1.kept w.heap.size hwl hou
 have hF1:=hF.of_block hk1.1
 have hwl1:w.heap.size<w1.heap.size:=Nat.lt_of_lt_of_le hwl hm1.bel.size
 have HM1:Hid (Mv base B sv gv sv gv w w1):=hmv.trans hm1
 have HR1:Hid (RS w1 base B s p sv gv fs gs):=hr1
 have HF1:Hid (FB w1 w.heap.size f):=hF1
 have c1:=hr1.c1
 have b2:=hF1.c2
 clear hmv hm1 hA hF hwl hr1 hk1 h hF1
 go_wp2_with fail
 refine (yt _ _ _ _).mono ?_
 rintro e w' ⟨rfl,hww⟩
 subst w'
 have HR3:Hid (RS ((w1.alloc (xF f.depth)).alloc (xL 4 f.depth p)) base B s p sv gv fs gs):=(HR1.out.alloc _).alloc _
 have HM3:Hid (Mv base B sv gv sv gv w ((w1.alloc (xF f.depth)).alloc (xL 4 f.depth p))):=(HM1.out.trans (Mv.alloc HR1.out.bs _)).trans (Mv.alloc (HR1.out.alloc _).bs _)
 have HF3:Hid (FB ((w1.alloc (xF f.depth)).alloc (xL 4 f.depth p)) w.heap.size f):=HF1.out.of_block (by rw [Below.heap_alloc _ _ _ (by simp;omega),Below.heap_alloc _ _ _ hwl1])
 obtain ⟨l0,l1,l2,l3,l4,l5,l6,l7,i0',i1',i2',i3'⟩:=Ys w1 4 f.depth p
 have hz3:w1.heap.size+1<((w1.alloc (xF f.depth)).alloc (xL 4 f.depth p)).heap.size:=by simp
 have hbt:=fun w=>Zk 261 8 (-1) w
 go_wp2_with fail
 generalize (w1.alloc (xF f.depth)).alloc (xL 4 f.depth p)=w3 at *
 clear c1 b2
 refine (zC _ _ (by omega) (by omega)).mono ?_
 rintro e w' ⟨rfl,hww⟩
 subst w'
 go_wp2_with fail
 refine (ZF base B _ _ s p sv gv fs [byF 64,⟨261,8,0,-1⟩] gs _ _ (HR3.out.alloc _) (by simp) (by rfl) (by simp;omega) _ rfl).mono ?_
 rintro e w' ⟨rfl,sv',hr,hm⟩
 have HR4:Hid (RS w' base B s p sv' gv ([byF 64,⟨261,8,0,-1⟩]++fs) gs):=hr
 obtain ⟨wz,hbz,hmz⟩:∃ wz,Below w3.heap.size w3 wz/\Mv base B sv gv sv' gv wz w':=⟨_,by repeat (first | exact Below.refl _ _ | refine Below.drew ?_ | refine Below.alloc ?_ (by simp<;>omega) _),hm⟩
 have HM4:Hid (Mv base B sv gv sv' gv w w'):=(HM3.out.trans (Mv.of_below hbz HR3.out.bs)).trans hmz
 have hlt4:w.heap.size<w'.heap.size:=by have h1:=hbz.size;have h2:=hmz.bel.size;omega
 have hF4:FB w' w.heap.size f:=HF3.out.of_block (by
  have h1:w.heap.size<w3.heap.size:=by omega
  rw [(hmz.kept _ (Nat.lt_of_lt_of_le h1 hbz.size) hou).1,hbz.block _ h1])
 have b2:=hF4.c2
 have c3:=HR4.out.c3
 have z3:=HR4.out.fz 3
 have hBl:=HR4.out.lt
 have zf:∀ o,(w'.alloc o).frozen? ⟨B,3,none⟩=false:=fun o=>(HR4.out.alloc o).fz 3
 have hA1:Hid (gs.length+1<=maxLen):=by show _<=_;unfold maxLen;omega
 have hA2:Hid ((gs.length+1)*48<=140737488355328):=by show _<=_;omega
 have hone:Hid (∀ u∈sgV ⟨3,p,f.depth,-1,ByteArray.empty⟩,u.oneCell'=true):=fun u hu=>by simp [sgV] at hu;rcases hu with rfl | rfl | rfl | rfl | rfl<;>rfl
 have hA3:Hid (∀ o:Obj,base<=(w'.alloc o).drew.heap.size):=fun o=>by have:=HR4.out.bs;show base<=(w'.alloc o).heap.size;simp;omega
 clear hr hm hbz hmz hF4  i0' i1' i2' i3' l0 l1 l2 l3 l4 l5 l6 l7 HR3 HM3 HF3 HF1 HM1
 go_wp2_with fail
 go_region_law ((refine step_append_lies _ (by rfl) _ _ _ (by rfl) base 162 i0 _ 5 48 Tryz.underlying157 hi0 hz0 hz1 hz2 rfl (by decide) gv _ _ (by rfl) ((HR4.out.sg.alloc _).drew) ⟨w'.heap.size,0,none⟩ 1 1 (sgV ⟨3,p,f.depth,-1,ByteArray.empty⟩) (by rfl) (by rfl) (World.news_of_block (cs:=#[J Z 3,J Z p,J Z f.depth,J Z (-1),.string ByteArray.empty]) (t:=162) (fr:=(0,0)) (heap_alloc_new w' _)) hone.out (Nat.lt_succ_self 0) hA1.out hA2.out (hA3.out _) (w'.heap.size+1) (by simp) ?_;intro gg cap w5 hown hgrow hat hlt;obtain ⟨y0,y1,y3,yz,_⟩:=HR4.out.grown3 hgrow))
 all_goals
  have hSg:=HR4.out.signed rfl hown hgrow hat
  have HS1:Hid (RS (w5.setCell ⟨B,3,none⟩ (O (some ⟨gg,0,none⟩) (gs.length+1) cap)) base B s p sv' (O (some ⟨gg,0,none⟩) (gs.length+1) cap) ([byF 64,⟨261,8,0,-1⟩]++fs) (⟨3,p,f.depth,-1,ByteArray.empty⟩::gs)):=hSg.1
  have HS2:Hid (Mv base B sv' gv sv' (O (some ⟨gg,0,none⟩) (gs.length+1) cap) w' (w5.setCell ⟨B,3,none⟩ (O (some ⟨gg,0,none⟩) (gs.length+1) cap))):=hSg.2
  clear hSg hown hgrow hat y0 y1 y3 yz
  go_wp2_with fail
  go_ret
  exact ⟨rfl,sv',_,HS1.out,HM4.out.trans HS2.out⟩
theorem J8 (base B:Nat) (s:ByteArray) (k p:Nat) (f:FR) (sv gv:Value) (fs:List FR) (gs:List SG) (w:World) (h:RS w base B s k sv gv fs gs) (hs:s.size<=2000) (hk:k<=s.size) (hpe:T.sk s k=p) (hc:T.ch s p=61)
 (hlen:fs.length+7<=1099511627776) (hlen2:gs.length+1<=1099511627776) (d0:0<=f.depth) (d1:f.depth<=1000000) :
 Calls Tryz.prog 163 #[.pointer (some ⟨B,0,none⟩),frA f] w fun e w'=>e=.returned (.bool true)/\∃ sv' gv',RS w' base B s p sv' gv' ([byF 61,⟨263,2,0,-1⟩]++fs) (⟨3,p,f.depth,-1,ByteArray.empty⟩::gs)/\Mv base B sv gv sv' gv' w w':=by
 have hpee:=fun (wz:World) (hz:RS wz base B s k sv gv fs gs)=>zF base B s k sv gv fs gs wz hs hk hz
 rw [hpe,hc] at hpee
 have HPE:Hid (∀ (wz:World),RS wz base B s k sv gv fs gs->Calls Tryz.prog 135 #[.pointer (some ⟨B,0,none⟩)] wz fun e w'=>e=.returned (J Z (61))/\RS w' base B s p sv gv fs gs/\Mv base B sv gv sv gv wz w'):=hpee
 clear hpe hpee hk hc
 obtain ⟨i0,hi0,hz0,hz1,hz2⟩:=info_parts Tryz.infoSign
 have hbi:=fun w=>Zu 258 (f.depth+1) w
 have hbs:=fun w=>Zw f.depth p w
 unfold frA
 go_enter Tryz.func163,Tryz.ntmps163
 go_wp2_with fail
 have hA:=h.alloc (Q #[J Z f.sym,J Z f.kind,J Z f.depth,J Z f.list] 193)
 have hF:FB (w.alloc (Q #[J Z f.sym,J Z f.kind,J Z f.depth,J Z f.list] 193)) w.heap.size f:=⟨by simp,by simp,by simp,by simp⟩
 have hou:=h.outNew
 have hwl:w.heap.size<(w.alloc (Q #[J Z f.sym,J Z f.kind,J Z f.depth,J Z f.list] 193)).heap.size:=by simp
 have hmv:Mv base B sv gv sv gv w (w.alloc (Q #[J Z f.sym,J Z f.kind,J Z f.depth,J Z f.list] 193)):=Mv.alloc h.bs _
 refine (HPE.out _ hA).mono ?_
 rintro e w1 ⟨rfl,hr1,hm1⟩
 have hk1:=hm1.kept w.heap.size hwl hou
 have hF1:=hF.of_block hk1.1
 have hwl1:w.heap.size<w1.heap.size:=Nat.lt_of_lt_of_le hwl hm1.bel.size
 have HM1:Hid (Mv base B sv gv sv gv w w1):=hmv.trans hm1
 have HR1:Hid (RS w1 base B s p sv gv fs gs):=hr1
 have HF1:Hid (FB w1 w.heap.size f):=hF1
 have c1:=hr1.c1
 have b2:=hF1.c2
 clear hmv hm1 hA hF hwl hr1 hk1 h hF1
 go_wp2_with fail
 refine (yt _ _ _ _).mono ?_
 rintro e w' ⟨rfl,hww⟩
 subst w'
 have HR3:Hid (RS ((w1.alloc (xF f.depth)).alloc (xL 4 f.depth p)) base B s p sv gv fs gs):=(HR1.out.alloc _).alloc _
 have HM3:Hid (Mv base B sv gv sv gv w ((w1.alloc (xF f.depth)).alloc (xL 4 f.depth p))):=(HM1.out.trans (Mv.alloc HR1.out.bs _)).trans (Mv.alloc (HR1.out.alloc _).bs _)
 have HF3:Hid (FB ((w1.alloc (xF f.depth)).alloc (xL 4 f.depth p)) w.heap.size f):=HF1.out.of_block (by rw [Below.heap_alloc _ _ _ (by simp;omega),Below.heap_alloc _ _ _ hwl1])
 obtain ⟨l0,l1,l2,l3,l4,l5,l6,l7,i0',i1',i2',i3'⟩:=Ys w1 4 f.depth p
 have hz3:w1.heap.size+1<((w1.alloc (xF f.depth)).alloc (xL 4 f.depth p)).heap.size:=by simp
 have hbt:=fun w=>Zk 263 2 (-1) w
 go_wp2_with fail
 generalize (w1.alloc (xF f.depth)).alloc (xL 4 f.depth p)=w3 at *
 clear c1 b2
 refine (zC _ _ (by omega) (by omega)).mono ?_
 rintro e w' ⟨rfl,hww⟩
 subst w'
 go_wp2_with fail
 refine (ZF base B _ _ s p sv gv fs [byF 61,⟨263,2,0,-1⟩] gs _ _ (HR3.out.alloc _) (by simp) (by rfl) (by simp;omega) _ rfl).mono ?_
 rintro e w' ⟨rfl,sv',hr,hm⟩
 have HR4:Hid (RS w' base B s p sv' gv ([byF 61,⟨263,2,0,-1⟩]++fs) gs):=hr
 obtain ⟨wz,hbz,hmz⟩:∃ wz,Below w3.heap.size w3 wz/\Mv base B sv gv sv' gv wz w':=⟨_,by repeat (first | exact Below.refl _ _ | refine Below.drew ?_ | refine Below.alloc ?_ (by simp<;>omega) _),hm⟩
 have HM4:Hid (Mv base B sv gv sv' gv w w'):=(HM3.out.trans (Mv.of_below hbz HR3.out.bs)).trans hmz
 have hlt4:w.heap.size<w'.heap.size:=by have h1:=hbz.size;have h2:=hmz.bel.size;omega
 have hF4:FB w' w.heap.size f:=HF3.out.of_block (by
  have h1:w.heap.size<w3.heap.size:=by omega
  rw [(hmz.kept _ (Nat.lt_of_lt_of_le h1 hbz.size) hou).1,hbz.block _ h1])
 have b2:=hF4.c2
 have c3:=HR4.out.c3
 have z3:=HR4.out.fz 3
 have hBl:=HR4.out.lt
 have zf:∀ o,(w'.alloc o).frozen? ⟨B,3,none⟩=false:=fun o=>(HR4.out.alloc o).fz 3
 have hA1:Hid (gs.length+1<=maxLen):=by show _<=_;unfold maxLen;omega
 have hA2:Hid ((gs.length+1)*48<=140737488355328):=by show _<=_;omega
 have hone:Hid (∀ u∈sgV ⟨3,p,f.depth,-1,ByteArray.empty⟩,u.oneCell'=true):=fun u hu=>by simp [sgV] at hu;rcases hu with rfl | rfl | rfl | rfl | rfl<;>rfl
 have hA3:Hid (∀ o:Obj,base<=(w'.alloc o).drew.heap.size):=fun o=>by have:=HR4.out.bs;show base<=(w'.alloc o).heap.size;simp;omega
 clear hr hm hbz hmz hF4  i0' i1' i2' i3' l0 l1 l2 l3 l4 l5 l6 l7 HR3 HM3 HF3 HF1 HM1
 go_wp2_with fail
 go_region_law ((refine step_append_lies _ (by rfl) _ _ _ (by rfl) base 162 i0 _ 5 48 Tryz.underlying157 hi0 hz0 hz1 hz2 rfl (by decide) gv _ _ (by rfl) ((HR4.out.sg.alloc _).drew) ⟨w'.heap.size,0,none⟩ 1 1 (sgV ⟨3,p,f.depth,-1,ByteArray.empty⟩) (by rfl) (by rfl) (World.news_of_block (cs:=#[J Z 3,J Z p,J Z f.depth,J Z (-1),.string ByteArray.empty]) (t:=162) (fr:=(0,0)) (heap_alloc_new w' _)) hone.out (Nat.lt_succ_self 0) hA1.out hA2.out (hA3.out _) (w'.heap.size+1) (by simp) ?_;intro gg cap w5 hown hgrow hat hlt;obtain ⟨y0,y1,y3,yz,_⟩:=HR4.out.grown3 hgrow))
 all_goals
  have hSg:=HR4.out.signed rfl hown hgrow hat
  have HS1:Hid (RS (w5.setCell ⟨B,3,none⟩ (O (some ⟨gg,0,none⟩) (gs.length+1) cap)) base B s p sv' (O (some ⟨gg,0,none⟩) (gs.length+1) cap) ([byF 61,⟨263,2,0,-1⟩]++fs) (⟨3,p,f.depth,-1,ByteArray.empty⟩::gs)):=hSg.1
  have HS2:Hid (Mv base B sv' gv sv' (O (some ⟨gg,0,none⟩) (gs.length+1) cap) w' (w5.setCell ⟨B,3,none⟩ (O (some ⟨gg,0,none⟩) (gs.length+1) cap))):=hSg.2
  clear hSg hown hgrow hat y0 y1 y3 yz
  go_wp2_with fail
  go_ret
  exact ⟨rfl,sv',_,HS1.out,HM4.out.trans HS2.out⟩
theorem zcL (base B:Nat) (s:ByteArray) (k p:Nat) (f:FR) (c:Int) (sv gv:Value) (fs:List FR) (gs:List SG) (w:World) (h:RS w base B s k sv gv fs gs) (hs:s.size<=2000) (hk:k<=s.size) (hpe:T.sk s k=p) (hc:T.ch s p=c)
 (d0:0<=f.depth) (d1:f.depth<=1000000) (n119:(c==119)=false) (n109:(c==109)=false) (n103:(c==103)=false) (n123:(c==123)=false) (n102:(c==102)=false) (n116:(c==116)=false) (n64:(c==64)=false) (n61:(c==61)=false) :
 Calls Tryz.prog 163 #[.pointer (some ⟨B,0,none⟩),frA f] w fun e w'=>e=.returned (.bool false)/\RS w' base B s p sv gv fs gs/\Mv base B sv gv sv gv w w':=by
 have hpee:=fun (wz:World) (hz:RS wz base B s k sv gv fs gs)=>zF base B s k sv gv fs gs wz hs hk hz
 rw [hpe,hc] at hpee
 have HPE:Hid _:=hpee
 clear hpe hpee hk hc
 have hbi:=fun w=>Zu 258 (f.depth+1) w
 unfold frA
 go_enter Tryz.func163,Tryz.ntmps163
 go_wp2_with fail
 have hA:=h.alloc (Q #[J Z f.sym,J Z f.kind,J Z f.depth,J Z f.list] 193)
 have hF:FB (w.alloc (Q #[J Z f.sym,J Z f.kind,J Z f.depth,J Z f.list] 193)) w.heap.size f:=⟨by simp,by simp,by simp,by simp⟩
 have hou:=h.outNew
 have hwl:w.heap.size<(w.alloc (Q #[J Z f.sym,J Z f.kind,J Z f.depth,J Z f.list] 193)).heap.size:=by simp
 have hmv:Mv base B sv gv sv gv w (w.alloc (Q #[J Z f.sym,J Z f.kind,J Z f.depth,J Z f.list] 193)):=Mv.alloc h.bs _
 refine (HPE.out _ hA).mono ?_
 rintro e w1 ⟨rfl,hr1,hm1⟩
 have hk1:=hm1.kept w.heap.size hwl hou
 have hF1:=hF.of_block hk1.1
 have hwl1:w.heap.size<w1.heap.size:=Nat.lt_of_lt_of_le hwl hm1.bel.size
 have HM1:Hid (Mv base B sv gv sv gv w w1):=hmv.trans hm1
 have HR1:Hid _:=hr1
 have c1:=hr1.c1
 have b2:=hF1.c2
 clear hmv hm1 hA hF hwl hr1 hk1 h hF1
 go_wp2_with fail
 refine (yt _ _ _ _).mono ?_
 rintro e w' ⟨rfl,hww⟩
 subst w'
 go_wp2_with fail
 go_ret
 exact ⟨rfl,(HR1.out.alloc _).alloc _,(HM1.out.trans (Mv.alloc HR1.out.bs _)).trans (Mv.alloc (HR1.out.alloc _).bs _)⟩
theorem zbw (base B:Nat) (s:ByteArray) (k:Nat) (f:FR) (sv gv:Value) (fs:List FR) (gs:List SG) (w:World) (h:RS w base B s k sv gv fs gs) (hs:s.size<=2000) (hk:k<=s.size)
 (hlen:fs.length+7<=1099511627776) (hlen2:gs.length+1<=1099511627776) (d0:0<=f.depth) (d1:f.depth<=1000000) :
 Calls Tryz.prog 163 #[.pointer (some ⟨B,0,none⟩),frA f] w fun e w' =>
  (ZT f.depth (T.sk s k) (T.ch s (T.sk s k))=none/\e=.returned (.bool false)/\RS w' base B s (T.sk s k) sv gv fs gs/\Mv base B sv gv sv gv w w') \/
  ∃ l,ZT f.depth (T.sk s k) (T.ch s (T.sk s k))=some l/\e=.returned (.bool true)/\∃ sv' gv',RS w' base B s (T.sk s k) sv' gv' (l++fs) (⟨3,T.sk s k,f.depth,-1,ByteArray.empty⟩::gs)/\Mv base B sv gv sv' gv' w w':=by
 generalize hpe:T.sk s k=p
 generalize hc:T.ch s p=c
 by_cases n123:c=123
 ·refine (jC base B s k p f sv gv fs gs w h hs hk hpe (hc.trans n123) hlen hlen2 d0 d1).mono ?_
  rintro e w' ⟨he,sv',gv',hr,hm⟩
  exact .inr ⟨_,by subst n123;rfl,he,sv',gv',hr,hm⟩
 by_cases n119:c=119
 ·refine (J7 base B s k p f sv gv fs gs w h hs hk hpe (hc.trans n119) hlen hlen2 d0 d1).mono ?_
  rintro e w' ⟨he,sv',gv',hr,hm⟩
  exact .inr ⟨_,by subst n119;rfl,he,sv',gv',hr,hm⟩
 by_cases n102:c=102
 ·refine (jB base B s k p f sv gv fs gs w h hs hk hpe (hc.trans n102) hlen hlen2 d0 d1).mono ?_
  rintro e w' ⟨he,sv',gv',hr,hm⟩
  exact .inr ⟨_,by subst n102;rfl,he,sv',gv',hr,hm⟩
 by_cases n109:c=109
 ·refine (zaa base B s k p f sv gv fs gs w h hs hk hpe (hc.trans n109) hlen hlen2 d0 d1).mono ?_
  rintro e w' ⟨he,sv',gv',hr,hm⟩
  exact .inr ⟨_,by subst n109;rfl,he,sv',gv',hr,hm⟩
 by_cases n103:c=103
 ·refine (QP base B s k p f sv gv fs gs w h hs hk hpe (hc.trans n103) hlen hlen2 d0 d1).mono ?_
  rintro e w' ⟨he,sv',gv',hr,hm⟩
  exact .inr ⟨_,by subst n103;rfl,he,sv',gv',hr,hm⟩
 by_cases n116:c=116
 ·refine (zbu base B s k p f sv gv fs gs w h hs hk hpe (hc.trans n116) hlen hlen2 d0 d1).mono ?_
  rintro e w' ⟨he,sv',gv',hr,hm⟩
  exact .inr ⟨_,by subst n116;rfl,he,sv',gv',hr,hm⟩
 by_cases n64:c=64
 ·refine (jD base B s k p f sv gv fs gs w h hs hk hpe (hc.trans n64) hlen hlen2 d0 d1).mono ?_
  rintro e w' ⟨he,sv',gv',hr,hm⟩
  exact .inr ⟨_,by subst n64;rfl,he,sv',gv',hr,hm⟩
 by_cases n61:c=61
 ·refine (J8 base B s k p f sv gv fs gs w h hs hk hpe (hc.trans n61) hlen hlen2 d0 d1).mono ?_
  rintro e w' ⟨he,sv',gv',hr,hm⟩
  exact .inr ⟨_,by subst n61;rfl,he,sv',gv',hr,hm⟩
 have hno:ZT f.depth p c=none:=by unfold ZT;rw [if_neg n123,if_neg n119,if_neg n102,if_neg n109,if_neg n103,if_neg n116,if_neg n64,if_neg n61]
 refine (zcL base B s k p f c sv gv fs gs w h hs hk hpe hc d0 d1 (beq_eq_false_iff_ne.2 n119) (beq_eq_false_iff_ne.2 n109) (beq_eq_false_iff_ne.2 n103) (beq_eq_false_iff_ne.2 n123) (beq_eq_false_iff_ne.2 n102) (beq_eq_false_iff_ne.2 n116) (beq_eq_false_iff_ne.2 n64) (beq_eq_false_iff_ne.2 n61)).mono ?_
 rintro e w' ⟨he,hr,hm⟩
 exact .inl ⟨hno,he,hr,hm⟩
end Go.Proofs.YtaebngpoagjafabGreat
