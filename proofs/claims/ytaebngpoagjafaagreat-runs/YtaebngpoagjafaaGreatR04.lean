import Derived.Test.YtaebngpoagjafaaGreatR02
import Derived.Test.YtaebngpoagjafaaGreatR03
set_option maxRecDepth 100000
set_option maxHeartbeats 6400000
namespace Go.Proofs.YtaebngpoagjafaaGreat
open Obj renaming cells → Q
open Value renaming int → J, slice → O
open IntKind renaming i64 → Z
open Go.RowKit
attribute [local go_sem ↓] Go.wp_at_zero Go.wp_at_succ
theorem JD (base B:Nat) (s:ByteArray) (k p:Nat) (f:FR) (sv gv:Value) (fs:List FR) (gs:List SG) (w:World) (h:RS w base B s k sv gv fs gs) (hs:s.size<=2000) (hk:k<=s.size) (hpe:T.sk s k=p) (hc:T.ch s p=64)
 (hlen:fs.length+7<=1099511627776) (hlen2:gs.length+1<=1099511627776) (d0:0<=f.depth) (d1:f.depth<=1000000) :
 Calls Tryz.prog 173 #[.pointer (some ⟨B,0,none⟩),frA f] w fun e w'=>e=.returned (.bool true)/\∃ sv' gv',RS w' base B s p sv' gv' ([byF 64,⟨261,8,0,-1⟩]++fs) (⟨3,p,f.depth,-1,ByteArray.empty⟩::gs)/\Mv base B sv gv sv' gv' w w':=by
 have hpee:=fun (wz:World) (hz:RS wz base B s k sv gv fs gs)=>zH base B s k sv gv fs gs wz hs hk hz
 rw [hpe,hc] at hpee
 have HPE:Hid (∀ (wz:World),RS wz base B s k sv gv fs gs->Calls Tryz.prog 135 #[.pointer (some ⟨B,0,none⟩)] wz fun e w'=>e=.returned (J Z (64))/\RS w' base B s p sv gv fs gs/\Mv base B sv gv sv gv wz w'):=hpee
 clear hpe hpee hk hc
 obtain ⟨i0,hi0,hz0,hz1,hz2⟩:=info_parts Tryz.infoSign
 have hbi:=fun w=>ZN 258 (f.depth+1) w
 have hbs:=fun w=>ZP f.depth p w
 unfold frA
 go_enter Tryz.func173,Tryz.ntmps173
 go_wp2_with fail
 have hA:=h.alloc (Q #[J Z f.sym,J Z f.kind,J Z f.depth,J Z f.list] 187)
 have hF:FB (w.alloc (Q #[J Z f.sym,J Z f.kind,J Z f.depth,J Z f.list] 187)) w.heap.size f:=⟨by simp,by simp,by simp,by simp⟩
 have hou:=h.outNew
 have hwl:w.heap.size<(w.alloc (Q #[J Z f.sym,J Z f.kind,J Z f.depth,J Z f.list] 187)).heap.size:=by simp
 have hmv:Mv base B sv gv sv gv w (w.alloc (Q #[J Z f.sym,J Z f.kind,J Z f.depth,J Z f.list] 187)):=Mv.alloc h.bs _
 refine (HPE.out _ hA).mono ?_
 rintro e w1 ⟨rfl,hr1,hm1⟩
 have hk1:=hm1.kept w.heap.size hwl hou
 have hF1:=hF.of_block hk1.1
 have hwl1:w.heap.size<w1.heap.size:=Nat.lt_of_lt_of_le hwl hm1.bel.size
 have HM1:Hid (Mv base B sv gv sv gv w w1):=hmv.trans hm1
 have HR1:Hid (RS w1 base B s p sv gv fs gs):=hr1
 have HF1:Hid (FB w1 w.heap.size f):=hF1
 have c1:=hr1.c1
 have b2:=hF1.c2
 clear hmv hm1 hA hF hwl hr1 hk1 h hF1
 go_wp2_with fail
 refine (yE _ _ _ _).mono ?_
 rintro e w' ⟨rfl,hww⟩
 subst w'
 have HR3:Hid (RS ((w1.alloc (xF f.depth)).alloc (xL 4 f.depth p)) base B s p sv gv fs gs):=(HR1.out.alloc _).alloc _
 have HM3:Hid (Mv base B sv gv sv gv w ((w1.alloc (xF f.depth)).alloc (xL 4 f.depth p))):=(HM1.out.trans (Mv.alloc HR1.out.bs _)).trans (Mv.alloc (HR1.out.alloc _).bs _)
 have HF3:Hid (FB ((w1.alloc (xF f.depth)).alloc (xL 4 f.depth p)) w.heap.size f):=HF1.out.of_block (by rw [Below.heap_alloc _ _ _ (by simp;omega),Below.heap_alloc _ _ _ hwl1])
 obtain ⟨l0,l1,l2,l3,l4,l5,l6,l7,i0',i1',i2',i3'⟩:=YV w1 4 f.depth p
 have hz3:w1.heap.size+1<((w1.alloc (xF f.depth)).alloc (xL 4 f.depth p)).heap.size:=by simp
 have hbt:=fun w=>Zy 261 8 (-1) w
 go_wp2_with fail
 generalize (w1.alloc (xF f.depth)).alloc (xL 4 f.depth p)=w3 at *
 clear c1 b2
 refine (zF _ _ (by omega) (by omega)).mono ?_
 rintro e w' ⟨rfl,hww⟩
 subst w'
 go_wp2_with fail
 refine (ZZ base B _ _ s p sv gv fs [byF 64,⟨261,8,0,-1⟩] gs _ _ (HR3.out.alloc _) (by simp) (by rfl) (by simp;omega) _ rfl).mono ?_
 rintro e w' ⟨rfl,sv',hr,hm⟩
 have HR4:Hid (RS w' base B s p sv' gv ([byF 64,⟨261,8,0,-1⟩]++fs) gs):=hr
 obtain ⟨wz,hbz,hmz⟩:∃ wz,Below w3.heap.size w3 wz/\Mv base B sv gv sv' gv wz w':=⟨_,by repeat (first | exact Below.refl _ _ | refine Below.drew ?_ | refine Below.alloc ?_ (by simp<;>omega) _),hm⟩
 have HM4:Hid (Mv base B sv gv sv' gv w w'):=(HM3.out.trans (Mv.of_below hbz HR3.out.bs)).trans hmz
 have hlt4:w.heap.size<w'.heap.size:=by have h1:=hbz.size;have h2:=hmz.bel.size;omega
 have hF4:FB w' w.heap.size f:=HF3.out.of_block (by
  have h1:w.heap.size<w3.heap.size:=by omega
  rw [(hmz.kept _ (Nat.lt_of_lt_of_le h1 hbz.size) hou).1,hbz.block _ h1])
 have b2:=hF4.c2
 have c3:=HR4.out.c3
 have z3:=HR4.out.fz 3
 have hBl:=HR4.out.lt
 have zf:∀ o,(w'.alloc o).frozen? ⟨B,3,none⟩=false:=fun o=>(HR4.out.alloc o).fz 3
 have hA1:Hid (gs.length+1<=maxLen):=by show _<=_;unfold maxLen;omega
 have hA2:Hid ((gs.length+1)*48<=140737488355328):=by show _<=_;omega
 have hone:Hid (∀ u∈sgV ⟨3,p,f.depth,-1,ByteArray.empty⟩,u.oneCell'=true):=fun u hu=>by simp [sgV] at hu;rcases hu with rfl | rfl | rfl | rfl | rfl<;>rfl
 have hA3:Hid (∀ o:Obj,base<=(w'.alloc o).drew.heap.size):=fun o=>by have:=HR4.out.bs;show base<=(w'.alloc o).heap.size;simp;omega
 clear hr hm hbz hmz hF4  i0' i1' i2' i3' l0 l1 l2 l3 l4 l5 l6 l7 HR3 HM3 HF3 HF1 HM1
 go_wp2_with fail
 go_region_law ((refine step_append_lies _ (by rfl) _ _ _ (by rfl) base 151 i0 _ 5 48 Tryz.underlying146 hi0 hz0 hz1 hz2 rfl (by decide) gv _ _ (by rfl) ((HR4.out.sg.alloc _).drew) ⟨w'.heap.size,0,none⟩ 1 1 (sgV ⟨3,p,f.depth,-1,ByteArray.empty⟩) (by rfl) (by rfl) (World.news_of_block (cs:=#[J Z 3,J Z p,J Z f.depth,J Z (-1),.string ByteArray.empty]) (t:=151) (fr:=(0,0)) (heap_alloc_new w' _)) hone.out (Nat.lt_succ_self 0) hA1.out hA2.out (hA3.out _) (w'.heap.size+1) (by simp) ?_;intro gg cap w5 hown hgrow hat hlt;obtain ⟨y0,y1,y3,yz,_⟩:=HR4.out.grown3 hgrow))
 all_goals
  have hSg:=HR4.out.signed rfl hown hgrow hat
  have HS1:Hid (RS (w5.setCell ⟨B,3,none⟩ (O (some ⟨gg,0,none⟩) (gs.length+1) cap)) base B s p sv' (O (some ⟨gg,0,none⟩) (gs.length+1) cap) ([byF 64,⟨261,8,0,-1⟩]++fs) (⟨3,p,f.depth,-1,ByteArray.empty⟩::gs)):=hSg.1
  have HS2:Hid (Mv base B sv' gv sv' (O (some ⟨gg,0,none⟩) (gs.length+1) cap) w' (w5.setCell ⟨B,3,none⟩ (O (some ⟨gg,0,none⟩) (gs.length+1) cap))):=hSg.2
  clear hSg hown hgrow hat y0 y1 y3 yz
  go_wp2_with fail
  go_ret
  exact ⟨rfl,sv',_,HS1.out,HM4.out.trans HS2.out⟩
theorem zba (base B:Nat) (s:ByteArray) (k p:Nat) (f:FR) (sv gv:Value) (fs:List FR) (gs:List SG) (w:World) (h:RS w base B s k sv gv fs gs) (hs:s.size<=2000) (hk:k<=s.size) (hpe:T.sk s k=p) (hc:T.ch s p=61)
 (hlen:fs.length+7<=1099511627776) (hlen2:gs.length+1<=1099511627776) (d0:0<=f.depth) (d1:f.depth<=1000000) :
 Calls Tryz.prog 173 #[.pointer (some ⟨B,0,none⟩),frA f] w fun e w'=>e=.returned (.bool true)/\∃ sv' gv',RS w' base B s p sv' gv' ([byF 61,⟨263,2,0,-1⟩]++fs) (⟨3,p,f.depth,-1,ByteArray.empty⟩::gs)/\Mv base B sv gv sv' gv' w w':=by
 have hpee:=fun (wz:World) (hz:RS wz base B s k sv gv fs gs)=>zH base B s k sv gv fs gs wz hs hk hz
 rw [hpe,hc] at hpee
 have HPE:Hid (∀ (wz:World),RS wz base B s k sv gv fs gs->Calls Tryz.prog 135 #[.pointer (some ⟨B,0,none⟩)] wz fun e w'=>e=.returned (J Z (61))/\RS w' base B s p sv gv fs gs/\Mv base B sv gv sv gv wz w'):=hpee
 clear hpe hpee hk hc
 obtain ⟨i0,hi0,hz0,hz1,hz2⟩:=info_parts Tryz.infoSign
 have hbi:=fun w=>ZN 258 (f.depth+1) w
 have hbs:=fun w=>ZP f.depth p w
 unfold frA
 go_enter Tryz.func173,Tryz.ntmps173
 go_wp2_with fail
 have hA:=h.alloc (Q #[J Z f.sym,J Z f.kind,J Z f.depth,J Z f.list] 187)
 have hF:FB (w.alloc (Q #[J Z f.sym,J Z f.kind,J Z f.depth,J Z f.list] 187)) w.heap.size f:=⟨by simp,by simp,by simp,by simp⟩
 have hou:=h.outNew
 have hwl:w.heap.size<(w.alloc (Q #[J Z f.sym,J Z f.kind,J Z f.depth,J Z f.list] 187)).heap.size:=by simp
 have hmv:Mv base B sv gv sv gv w (w.alloc (Q #[J Z f.sym,J Z f.kind,J Z f.depth,J Z f.list] 187)):=Mv.alloc h.bs _
 refine (HPE.out _ hA).mono ?_
 rintro e w1 ⟨rfl,hr1,hm1⟩
 have hk1:=hm1.kept w.heap.size hwl hou
 have hF1:=hF.of_block hk1.1
 have hwl1:w.heap.size<w1.heap.size:=Nat.lt_of_lt_of_le hwl hm1.bel.size
 have HM1:Hid (Mv base B sv gv sv gv w w1):=hmv.trans hm1
 have HR1:Hid (RS w1 base B s p sv gv fs gs):=hr1
 have HF1:Hid (FB w1 w.heap.size f):=hF1
 have c1:=hr1.c1
 have b2:=hF1.c2
 clear hmv hm1 hA hF hwl hr1 hk1 h hF1
 go_wp2_with fail
 refine (yE _ _ _ _).mono ?_
 rintro e w' ⟨rfl,hww⟩
 subst w'
 have HR3:Hid (RS ((w1.alloc (xF f.depth)).alloc (xL 4 f.depth p)) base B s p sv gv fs gs):=(HR1.out.alloc _).alloc _
 have HM3:Hid (Mv base B sv gv sv gv w ((w1.alloc (xF f.depth)).alloc (xL 4 f.depth p))):=(HM1.out.trans (Mv.alloc HR1.out.bs _)).trans (Mv.alloc (HR1.out.alloc _).bs _)
 have HF3:Hid (FB ((w1.alloc (xF f.depth)).alloc (xL 4 f.depth p)) w.heap.size f):=HF1.out.of_block (by rw [Below.heap_alloc _ _ _ (by simp;omega),Below.heap_alloc _ _ _ hwl1])
 obtain ⟨l0,l1,l2,l3,l4,l5,l6,l7,i0',i1',i2',i3'⟩:=YV w1 4 f.depth p
 have hz3:w1.heap.size+1<((w1.alloc (xF f.depth)).alloc (xL 4 f.depth p)).heap.size:=by simp
 have hbt:=fun w=>Zy 263 2 (-1) w
 go_wp2_with fail
 generalize (w1.alloc (xF f.depth)).alloc (xL 4 f.depth p)=w3 at *
 clear c1 b2
 refine (zF _ _ (by omega) (by omega)).mono ?_
 rintro e w' ⟨rfl,hww⟩
 subst w'
 go_wp2_with fail
 refine (ZZ base B _ _ s p sv gv fs [byF 61,⟨263,2,0,-1⟩] gs _ _ (HR3.out.alloc _) (by simp) (by rfl) (by simp;omega) _ rfl).mono ?_
 rintro e w' ⟨rfl,sv',hr,hm⟩
 have HR4:Hid (RS w' base B s p sv' gv ([byF 61,⟨263,2,0,-1⟩]++fs) gs):=hr
 obtain ⟨wz,hbz,hmz⟩:∃ wz,Below w3.heap.size w3 wz/\Mv base B sv gv sv' gv wz w':=⟨_,by repeat (first | exact Below.refl _ _ | refine Below.drew ?_ | refine Below.alloc ?_ (by simp<;>omega) _),hm⟩
 have HM4:Hid (Mv base B sv gv sv' gv w w'):=(HM3.out.trans (Mv.of_below hbz HR3.out.bs)).trans hmz
 have hlt4:w.heap.size<w'.heap.size:=by have h1:=hbz.size;have h2:=hmz.bel.size;omega
 have hF4:FB w' w.heap.size f:=HF3.out.of_block (by
  have h1:w.heap.size<w3.heap.size:=by omega
  rw [(hmz.kept _ (Nat.lt_of_lt_of_le h1 hbz.size) hou).1,hbz.block _ h1])
 have b2:=hF4.c2
 have c3:=HR4.out.c3
 have z3:=HR4.out.fz 3
 have hBl:=HR4.out.lt
 have zf:∀ o,(w'.alloc o).frozen? ⟨B,3,none⟩=false:=fun o=>(HR4.out.alloc o).fz 3
 have hA1:Hid (gs.length+1<=maxLen):=by show _<=_;unfold maxLen;omega
 have hA2:Hid ((gs.length+1)*48<=140737488355328):=by show _<=_;omega
 have hone:Hid (∀ u∈sgV ⟨3,p,f.depth,-1,ByteArray.empty⟩,u.oneCell'=true):=fun u hu=>by simp [sgV] at hu;rcases hu with rfl | rfl | rfl | rfl | rfl<;>rfl
 have hA3:Hid (∀ o:Obj,base<=(w'.alloc o).drew.heap.size):=fun o=>by have:=HR4.out.bs;show base<=(w'.alloc o).heap.size;simp;omega
 clear hr hm hbz hmz hF4  i0' i1' i2' i3' l0 l1 l2 l3 l4 l5 l6 l7 HR3 HM3 HF3 HF1 HM1
 go_wp2_with fail
 go_region_law ((refine step_append_lies _ (by rfl) _ _ _ (by rfl) base 151 i0 _ 5 48 Tryz.underlying146 hi0 hz0 hz1 hz2 rfl (by decide) gv _ _ (by rfl) ((HR4.out.sg.alloc _).drew) ⟨w'.heap.size,0,none⟩ 1 1 (sgV ⟨3,p,f.depth,-1,ByteArray.empty⟩) (by rfl) (by rfl) (World.news_of_block (cs:=#[J Z 3,J Z p,J Z f.depth,J Z (-1),.string ByteArray.empty]) (t:=151) (fr:=(0,0)) (heap_alloc_new w' _)) hone.out (Nat.lt_succ_self 0) hA1.out hA2.out (hA3.out _) (w'.heap.size+1) (by simp) ?_;intro gg cap w5 hown hgrow hat hlt;obtain ⟨y0,y1,y3,yz,_⟩:=HR4.out.grown3 hgrow))
 all_goals
  have hSg:=HR4.out.signed rfl hown hgrow hat
  have HS1:Hid (RS (w5.setCell ⟨B,3,none⟩ (O (some ⟨gg,0,none⟩) (gs.length+1) cap)) base B s p sv' (O (some ⟨gg,0,none⟩) (gs.length+1) cap) ([byF 61,⟨263,2,0,-1⟩]++fs) (⟨3,p,f.depth,-1,ByteArray.empty⟩::gs)):=hSg.1
  have HS2:Hid (Mv base B sv' gv sv' (O (some ⟨gg,0,none⟩) (gs.length+1) cap) w' (w5.setCell ⟨B,3,none⟩ (O (some ⟨gg,0,none⟩) (gs.length+1) cap))):=hSg.2
  clear hSg hown hgrow hat y0 y1 y3 yz
  go_wp2_with fail
  go_ret
  exact ⟨rfl,sv',_,HS1.out,HM4.out.trans HS2.out⟩
theorem zdT (base B:Nat) (s:ByteArray) (k p:Nat) (f:FR) (c:Int) (sv gv:Value) (fs:List FR) (gs:List SG) (w:World) (h:RS w base B s k sv gv fs gs) (hs:s.size<=2000) (hk:k<=s.size) (hpe:T.sk s k=p) (hc:T.ch s p=c)
 (d0:0<=f.depth) (d1:f.depth<=1000000) (n119:(c==119)=false) (n109:(c==109)=false) (n103:(c==103)=false) (n123:(c==123)=false) (n102:(c==102)=false) (n116:(c==116)=false) (n64:(c==64)=false) (n61:(c==61)=false) :
 Calls Tryz.prog 173 #[.pointer (some ⟨B,0,none⟩),frA f] w fun e w'=>e=.returned (.bool false)/\RS w' base B s p sv gv fs gs/\Mv base B sv gv sv gv w w':=by
 have hpee:=fun (wz:World) (hz:RS wz base B s k sv gv fs gs)=>zH base B s k sv gv fs gs wz hs hk hz
 rw [hpe,hc] at hpee
 have HPE:Hid _:=hpee
 clear hpe hpee hk hc
 have hbi:=fun w=>ZN 258 (f.depth+1) w
 unfold frA
 go_enter Tryz.func173,Tryz.ntmps173
 go_wp2_with fail
 have hA:=h.alloc (Q #[J Z f.sym,J Z f.kind,J Z f.depth,J Z f.list] 187)
 have hF:FB (w.alloc (Q #[J Z f.sym,J Z f.kind,J Z f.depth,J Z f.list] 187)) w.heap.size f:=⟨by simp,by simp,by simp,by simp⟩
 have hou:=h.outNew
 have hwl:w.heap.size<(w.alloc (Q #[J Z f.sym,J Z f.kind,J Z f.depth,J Z f.list] 187)).heap.size:=by simp
 have hmv:Mv base B sv gv sv gv w (w.alloc (Q #[J Z f.sym,J Z f.kind,J Z f.depth,J Z f.list] 187)):=Mv.alloc h.bs _
 refine (HPE.out _ hA).mono ?_
 rintro e w1 ⟨rfl,hr1,hm1⟩
 have hk1:=hm1.kept w.heap.size hwl hou
 have hF1:=hF.of_block hk1.1
 have hwl1:w.heap.size<w1.heap.size:=Nat.lt_of_lt_of_le hwl hm1.bel.size
 have HM1:Hid (Mv base B sv gv sv gv w w1):=hmv.trans hm1
 have HR1:Hid _:=hr1
 have c1:=hr1.c1
 have b2:=hF1.c2
 clear hmv hm1 hA hF hwl hr1 hk1 h hF1
 go_wp2_with fail
 refine (yE _ _ _ _).mono ?_
 rintro e w' ⟨rfl,hww⟩
 subst w'
 go_wp2_with fail
 go_ret
 exact ⟨rfl,(HR1.out.alloc _).alloc _,(HM1.out.trans (Mv.alloc HR1.out.bs _)).trans (Mv.alloc (HR1.out.alloc _).bs _)⟩
theorem zcA (base B:Nat) (s:ByteArray) (k:Nat) (f:FR) (sv gv:Value) (fs:List FR) (gs:List SG) (w:World) (h:RS w base B s k sv gv fs gs) (hs:s.size<=2000) (hk:k<=s.size)
 (hlen:fs.length+7<=1099511627776) (hlen2:gs.length+1<=1099511627776) (d0:0<=f.depth) (d1:f.depth<=1000000) :
 Calls Tryz.prog 173 #[.pointer (some ⟨B,0,none⟩),frA f] w fun e w' =>
  (Yj f.depth (T.sk s k) (T.ch s (T.sk s k))=none/\e=.returned (.bool false)/\RS w' base B s (T.sk s k) sv gv fs gs/\Mv base B sv gv sv gv w w') \/
  ∃ l,Yj f.depth (T.sk s k) (T.ch s (T.sk s k))=some l/\e=.returned (.bool true)/\∃ sv' gv',RS w' base B s (T.sk s k) sv' gv' (l++fs) (⟨3,T.sk s k,f.depth,-1,ByteArray.empty⟩::gs)/\Mv base B sv gv sv' gv' w w':=by
 generalize hpe:T.sk s k=p
 generalize hc:T.ch s p=c
 by_cases n123:c=123
 ·refine (JC base B s k p f sv gv fs gs w h hs hk hpe (hc.trans n123) hlen hlen2 d0 d1).mono ?_
  rintro e w' ⟨he,sv',gv',hr,hm⟩
  exact .inr ⟨_,by subst n123;rfl,he,sv',gv',hr,hm⟩
 by_cases n119:c=119
 ·refine (za9 base B s k p f sv gv fs gs w h hs hk hpe (hc.trans n119) hlen hlen2 d0 d1).mono ?_
  rintro e w' ⟨he,sv',gv',hr,hm⟩
  exact .inr ⟨_,by subst n119;rfl,he,sv',gv',hr,hm⟩
 by_cases n102:c=102
 ·refine (JB base B s k p f sv gv fs gs w h hs hk hpe (hc.trans n102) hlen hlen2 d0 d1).mono ?_
  rintro e w' ⟨he,sv',gv',hr,hm⟩
  exact .inr ⟨_,by subst n102;rfl,he,sv',gv',hr,hm⟩
 by_cases n109:c=109
 ·refine (zbc base B s k p f sv gv fs gs w h hs hk hpe (hc.trans n109) hlen hlen2 d0 d1).mono ?_
  rintro e w' ⟨he,sv',gv',hr,hm⟩
  exact .inr ⟨_,by subst n109;rfl,he,sv',gv',hr,hm⟩
 by_cases n103:c=103
 ·refine (jQ base B s k p f sv gv fs gs w h hs hk hpe (hc.trans n103) hlen hlen2 d0 d1).mono ?_
  rintro e w' ⟨he,sv',gv',hr,hm⟩
  exact .inr ⟨_,by subst n103;rfl,he,sv',gv',hr,hm⟩
 by_cases n116:c=116
 ·refine (zcy base B s k p f sv gv fs gs w h hs hk hpe (hc.trans n116) hlen hlen2 d0 d1).mono ?_
  rintro e w' ⟨he,sv',gv',hr,hm⟩
  exact .inr ⟨_,by subst n116;rfl,he,sv',gv',hr,hm⟩
 by_cases n64:c=64
 ·refine (JD base B s k p f sv gv fs gs w h hs hk hpe (hc.trans n64) hlen hlen2 d0 d1).mono ?_
  rintro e w' ⟨he,sv',gv',hr,hm⟩
  exact .inr ⟨_,by subst n64;rfl,he,sv',gv',hr,hm⟩
 by_cases n61:c=61
 ·refine (zba base B s k p f sv gv fs gs w h hs hk hpe (hc.trans n61) hlen hlen2 d0 d1).mono ?_
  rintro e w' ⟨he,sv',gv',hr,hm⟩
  exact .inr ⟨_,by subst n61;rfl,he,sv',gv',hr,hm⟩
 have hno:Yj f.depth p c=none:=by unfold Yj;rw [if_neg n123,if_neg n119,if_neg n102,if_neg n109,if_neg n103,if_neg n116,if_neg n64,if_neg n61]
 refine (zdT base B s k p f c sv gv fs gs w h hs hk hpe hc d0 d1 (beq_eq_false_iff_ne.2 n119) (beq_eq_false_iff_ne.2 n109) (beq_eq_false_iff_ne.2 n103) (beq_eq_false_iff_ne.2 n123) (beq_eq_false_iff_ne.2 n102) (beq_eq_false_iff_ne.2 n116) (beq_eq_false_iff_ne.2 n64) (beq_eq_false_iff_ne.2 n61)).mono ?_
 rintro e w' ⟨he,hr,hm⟩
 exact .inl ⟨hno,he,hr,hm⟩
def SP (base B:Nat) (s:ByteArray) (sv gv:Value) (fs:List FR) (gs:List SG) (w:World) (r:Res) (e:Ending) (w':World):Prop :=
 e=.returned (.bool r.ok)/\∃ sv' gv',RS w' base B s r.at_ sv' gv' (r.push++fs) (r.sg++gs)/\Mv base B sv gv sv' gv' w w'
theorem zas (base B:Nat) (s:ByteArray) (k p:Nat) (c kd d l:Int) (sv gv:Value) (fs:List FR) (gs:List SG) (w:World) (h:RS w base B s k sv gv fs gs) (hs:s.size<=2000) (hk:k<=s.size) (hpe:T.sk s k=p) (hc:T.ch s p=c)
 (_hlen:fs.length+7<=1099511627776) (_hlen2:gs.length+1<=1099511627776) :
 Calls Tryz.prog 134 #[.pointer (some ⟨B,0,none⟩),frA ⟨256,kd,d,l⟩] w (SP base B s sv gv fs gs w ⟨true,p,[⟨263,1,0,-1⟩,byF 58,⟨258,0,0,0⟩],[]⟩):=by
 show Calls Tryz.prog 134 #[.pointer (some ⟨B,0,none⟩),.agg #[J Z 256,J Z kd,J Z d,J Z l]] w _
 have hpk:p<=s.size:=by rw [<- hpe];exact T.sk_le hk
 have hpee:=fun (wz:World) (hz:RS wz base B s k sv gv fs gs)=>zH base B s k sv gv fs gs wz hs hk hz
 rw [hpe,hc] at hpee
 have HPE:Hid _:=hpee
 clear hpee
 go_enter Tryz.func134,Tryz.ntmps134
 go_wp2_with fail
 have hA:=h.alloc (Q #[J Z 256,J Z kd,J Z d,J Z l] 187)
 have hF:FB (w.alloc (Q #[J Z 256,J Z kd,J Z d,J Z l] 187)) w.heap.size ⟨256,kd,d,l⟩:=⟨by simp,by simp,by simp,by simp⟩
 have hou:=h.outNew
 have hwl:w.heap.size<(w.alloc (Q #[J Z 256,J Z kd,J Z d,J Z l] 187)).heap.size:=by simp
 have hmv:Mv base B sv gv sv gv w (w.alloc (Q #[J Z 256,J Z kd,J Z d,J Z l] 187)):=Mv.alloc h.bs _
 refine (HPE.out _ hA).mono ?_
 rintro e w1 ⟨rfl,hr1,hm1⟩
 have hk1:=hm1.kept w.heap.size hwl hou
 have hF1:=hF.of_block hk1.1
 have hwl1:w.heap.size<w1.heap.size:=Nat.lt_of_lt_of_le hwl hm1.bel.size
 have HM1:Hid (Mv base B sv gv sv gv w w1):=hmv.trans hm1
 have HR1:Hid _:=hr1
 have HF1:Hid _:=hF1
 have b0:w1.cell? ⟨w.heap.size,0,none⟩=some (J Z 256):=hF1.c0
 clear hmv hm1 hA hF hwl hr1 hk1 h hF1
 have hbd0:=fun w=>Zy 263 1 (-1) w
 have hbd1:=fun w=>xD 258 w
 go_wp2_with fail
 refine (zF _ _ (by omega) (by omega)).mono ?_
 rintro e w' ⟨rfl,hww⟩
 subst w'
 go_wp2_with fail
 refine (ZZ base B _ _ s p sv gv fs [⟨263,1,0,-1⟩,byF 58,⟨258,0,0,0⟩] gs _ _ (HR1.out.alloc _) (by simp) (by rfl) (by simp;omega) _ rfl).mono ?_
 rintro e w' ⟨rfl,sv',hr,hm⟩
 have HR4:Hid _:=hr
 have HM4:Hid (Mv base B sv gv sv' gv w w'):=(HM1.out.trans (Mv.alloc HR1.out.bs _)).trans hm
 clear hr hm
 go_wp2_with fail
 go_ret
 exact ⟨rfl,sv',gv,HR4.out,HM4.out⟩
theorem zat (base B:Nat) (s:ByteArray) (k p:Nat) (c kd d l:Int) (sv gv:Value) (fs:List FR) (gs:List SG) (w:World) (h:RS w base B s k sv gv fs gs) (hs:s.size<=2000) (hk:k<=s.size) (hpe:T.sk s k=p) (hc:T.ch s p=c)
 (_hlen:fs.length+7<=1099511627776) (_hlen2:gs.length+1<=1099511627776) (hc2:c=59) :
 Calls Tryz.prog 134 #[.pointer (some ⟨B,0,none⟩),frA ⟨257,kd,d,l⟩] w (SP base B s sv gv fs gs w ⟨true,p,[byF 59,⟨256,0,0,0⟩,⟨257,0,0,0⟩],[]⟩):=by
 show Calls Tryz.prog 134 #[.pointer (some ⟨B,0,none⟩),.agg #[J Z 257,J Z kd,J Z d,J Z l]] w _
 have hpk:p<=s.size:=by rw [<- hpe];exact T.sk_le hk
 have hpee:=fun (wz:World) (hz:RS wz base B s k sv gv fs gs)=>zH base B s k sv gv fs gs wz hs hk hz
 rw [hpe,hc] at hpee
 have HPE:Hid _:=hpee
 have hcc:(c==59)=true:=by rw [hc2];decide
 clear hpee
 go_enter Tryz.func134,Tryz.ntmps134
 go_wp2_with fail
 have hA:=h.alloc (Q #[J Z 257,J Z kd,J Z d,J Z l] 187)
 have hF:FB (w.alloc (Q #[J Z 257,J Z kd,J Z d,J Z l] 187)) w.heap.size ⟨257,kd,d,l⟩:=⟨by simp,by simp,by simp,by simp⟩
 have hou:=h.outNew
 have hwl:w.heap.size<(w.alloc (Q #[J Z 257,J Z kd,J Z d,J Z l] 187)).heap.size:=by simp
 have hmv:Mv base B sv gv sv gv w (w.alloc (Q #[J Z 257,J Z kd,J Z d,J Z l] 187)):=Mv.alloc h.bs _
 refine (HPE.out _ hA).mono ?_
 rintro e w1 ⟨rfl,hr1,hm1⟩
 have hk1:=hm1.kept w.heap.size hwl hou
 have hF1:=hF.of_block hk1.1
 have hwl1:w.heap.size<w1.heap.size:=Nat.lt_of_lt_of_le hwl hm1.bel.size
 have HM1:Hid (Mv base B sv gv sv gv w w1):=hmv.trans hm1
 have HR1:Hid _:=hr1
 have HF1:Hid _:=hF1
 have b0:w1.cell? ⟨w.heap.size,0,none⟩=some (J Z 257):=hF1.c0
 clear hmv hm1 hA hF hwl hr1 hk1 h hF1
 have hbd0:=fun w=>xD 256 w
 have hbd1:=fun w=>xD 257 w
 go_wp2_with fail
 refine (zF _ _ (by omega) (by omega)).mono ?_
 rintro e w' ⟨rfl,hww⟩
 subst w'
 go_wp2_with fail
 refine (ZZ base B _ _ s p sv gv fs [byF 59,⟨256,0,0,0⟩,⟨257,0,0,0⟩] gs _ _ (HR1.out.alloc _) (by simp) (by rfl) (by simp;omega) _ rfl).mono ?_
 rintro e w' ⟨rfl,sv',hr,hm⟩
 have HR4:Hid _:=hr
 have HM4:Hid (Mv base B sv gv sv' gv w w'):=(HM1.out.trans (Mv.alloc HR1.out.bs _)).trans hm
 clear hr hm
 go_wp2_with fail
 go_ret
 exact ⟨rfl,sv',gv,HR4.out,HM4.out⟩
theorem QN (base B:Nat) (s:ByteArray) (k p:Nat) (c kd d l:Int) (sv gv:Value) (fs:List FR) (gs:List SG) (w:World) (h:RS w base B s k sv gv fs gs) (hs:s.size<=2000) (hk:k<=s.size) (hpe:T.sk s k=p) (hc:T.ch s p=c)
 (_hlen:fs.length+7<=1099511627776) (_hlen2:gs.length+1<=1099511627776) (hc2:c≠59) :
 Calls Tryz.prog 134 #[.pointer (some ⟨B,0,none⟩),frA ⟨257,kd,d,l⟩] w (SP base B s sv gv fs gs w ⟨true,p,[],[]⟩):=by
 show Calls Tryz.prog 134 #[.pointer (some ⟨B,0,none⟩),.agg #[J Z 257,J Z kd,J Z d,J Z l]] w _
 have hpk:p<=s.size:=by rw [<- hpe];exact T.sk_le hk
 have hpee:=fun (wz:World) (hz:RS wz base B s k sv gv fs gs)=>zH base B s k sv gv fs gs wz hs hk hz
 rw [hpe,hc] at hpee
 have HPE:Hid _:=hpee
 have hcc:(c==59)=false:=by rw [beq_eq_false_iff_ne];exact hc2
 clear hpee
 go_enter Tryz.func134,Tryz.ntmps134
 go_wp2_with fail
 have hA:=h.alloc (Q #[J Z 257,J Z kd,J Z d,J Z l] 187)
 have hF:FB (w.alloc (Q #[J Z 257,J Z kd,J Z d,J Z l] 187)) w.heap.size ⟨257,kd,d,l⟩:=⟨by simp,by simp,by simp,by simp⟩
 have hou:=h.outNew
 have hwl:w.heap.size<(w.alloc (Q #[J Z 257,J Z kd,J Z d,J Z l] 187)).heap.size:=by simp
 have hmv:Mv base B sv gv sv gv w (w.alloc (Q #[J Z 257,J Z kd,J Z d,J Z l] 187)):=Mv.alloc h.bs _
 refine (HPE.out _ hA).mono ?_
 rintro e w1 ⟨rfl,hr1,hm1⟩
 have hk1:=hm1.kept w.heap.size hwl hou
 have hF1:=hF.of_block hk1.1
 have hwl1:w.heap.size<w1.heap.size:=Nat.lt_of_lt_of_le hwl hm1.bel.size
 have HM1:Hid (Mv base B sv gv sv gv w w1):=hmv.trans hm1
 have HR1:Hid _:=hr1
 have HF1:Hid _:=hF1
 have b0:w1.cell? ⟨w.heap.size,0,none⟩=some (J Z 257):=hF1.c0
 clear hmv hm1 hA hF hwl hr1 hk1 h hF1
 go_wp2_with fail
 go_ret
 exact ⟨rfl,sv,gv,HR1.out,HM1.out⟩
theorem Qf (base B:Nat) (s:ByteArray) (k p:Nat) (c kd d l:Int) (sv gv:Value) (fs:List FR) (gs:List SG) (w:World) (h:RS w base B s k sv gv fs gs) (hs:s.size<=2000) (hk:k<=s.size) (hpe:T.sk s k=p) (hc:T.ch s p=c)
 (_hlen:fs.length+7<=1099511627776) (_hlen2:gs.length+1<=1099511627776) (hc2:c≠44) :
 Calls Tryz.prog 134 #[.pointer (some ⟨B,0,none⟩),frA ⟨260,kd,d,l⟩] w (SP base B s sv gv fs gs w ⟨true,p,[],[]⟩):=by
 show Calls Tryz.prog 134 #[.pointer (some ⟨B,0,none⟩),.agg #[J Z 260,J Z kd,J Z d,J Z l]] w _
 have hpk:p<=s.size:=by rw [<- hpe];exact T.sk_le hk
 have hpee:=fun (wz:World) (hz:RS wz base B s k sv gv fs gs)=>zH base B s k sv gv fs gs wz hs hk hz
 rw [hpe,hc] at hpee
 have HPE:Hid _:=hpee
 have hcc:(c==44)=false:=by rw [beq_eq_false_iff_ne];exact hc2
 clear hpee
 go_enter Tryz.func134,Tryz.ntmps134
 go_wp2_with fail
 have hA:=h.alloc (Q #[J Z 260,J Z kd,J Z d,J Z l] 187)
 have hF:FB (w.alloc (Q #[J Z 260,J Z kd,J Z d,J Z l] 187)) w.heap.size ⟨260,kd,d,l⟩:=⟨by simp,by simp,by simp,by simp⟩
 have hou:=h.outNew
 have hwl:w.heap.size<(w.alloc (Q #[J Z 260,J Z kd,J Z d,J Z l] 187)).heap.size:=by simp
 have hmv:Mv base B sv gv sv gv w (w.alloc (Q #[J Z 260,J Z kd,J Z d,J Z l] 187)):=Mv.alloc h.bs _
 refine (HPE.out _ hA).mono ?_
 rintro e w1 ⟨rfl,hr1,hm1⟩
 have hk1:=hm1.kept w.heap.size hwl hou
 have hF1:=hF.of_block hk1.1
 have hwl1:w.heap.size<w1.heap.size:=Nat.lt_of_lt_of_le hwl hm1.bel.size
 have HM1:Hid (Mv base B sv gv sv gv w w1):=hmv.trans hm1
 have HR1:Hid _:=hr1
 have HF1:Hid _:=hF1
 have b0:w1.cell? ⟨w.heap.size,0,none⟩=some (J Z 260):=hF1.c0
 clear hmv hm1 hA hF hwl hr1 hk1 h hF1
 go_wp2_with fail
 go_ret
 exact ⟨rfl,sv,gv,HR1.out,HM1.out⟩
theorem zau (base B:Nat) (s:ByteArray) (k p:Nat) (c kd d l:Int) (sv gv:Value) (fs:List FR) (gs:List SG) (w:World) (h:RS w base B s k sv gv fs gs) (hs:s.size<=2000) (hk:k<=s.size) (hpe:T.sk s k=p) (hc:T.ch s p=c)
 (_hlen:fs.length+7<=1099511627776) (_hlen2:gs.length+1<=1099511627776) (d0:0<=d) (d1:d<=1000000) :
 Calls Tryz.prog 134 #[.pointer (some ⟨B,0,none⟩),frA ⟨259,kd,d,l⟩] w (SP base B s sv gv fs gs w ⟨true,p,Zw ⟨259,kd,d,l⟩,[]⟩):=by
 show Calls Tryz.prog 134 #[.pointer (some ⟨B,0,none⟩),.agg #[J Z 259,J Z kd,J Z d,J Z l]] w _
 have hpk:p<=s.size:=by rw [<- hpe];exact T.sk_le hk
 have hpee:=fun (wz:World) (hz:RS wz base B s k sv gv fs gs)=>zH base B s k sv gv fs gs wz hs hk hz
 rw [hpe,hc] at hpee
 have HPE:Hid _:=hpee
 clear hpee
 go_enter Tryz.func134,Tryz.ntmps134
 go_wp2_with fail
 have hA:=h.alloc (Q #[J Z 259,J Z kd,J Z d,J Z l] 187)
 have hF:FB (w.alloc (Q #[J Z 259,J Z kd,J Z d,J Z l] 187)) w.heap.size ⟨259,kd,d,l⟩:=⟨by simp,by simp,by simp,by simp⟩
 have hou:=h.outNew
 have hwl:w.heap.size<(w.alloc (Q #[J Z 259,J Z kd,J Z d,J Z l] 187)).heap.size:=by simp
 have hmv:Mv base B sv gv sv gv w (w.alloc (Q #[J Z 259,J Z kd,J Z d,J Z l] 187)):=Mv.alloc h.bs _
 refine (HPE.out _ hA).mono ?_
 rintro e w1 ⟨rfl,hr1,hm1⟩
 have hk1:=hm1.kept w.heap.size hwl hou
 have hF1:=hF.of_block hk1.1
 have hwl1:w.heap.size<w1.heap.size:=Nat.lt_of_lt_of_le hwl hm1.bel.size
 have HM1:Hid (Mv base B sv gv sv gv w w1):=hmv.trans hm1
 have HR1:Hid _:=hr1
 have HF1:Hid _:=hF1
 have b0:w1.cell? ⟨w.heap.size,0,none⟩=some (J Z 259):=hF1.c0
 clear hmv hm1 hA hF hwl hr1 hk1 h hF1
 have b1:w1.cell? ⟨w.heap.size,1,none⟩=some (J Z kd):=HF1.out.c1
 have b2:w1.cell? ⟨w.heap.size,2,none⟩=some (J Z d):=HF1.out.c2
 have b3:w1.cell? ⟨w.heap.size,3,none⟩=some (J Z l):=HF1.out.c3
 go_wp2_with fail
 refine (zcn base B s p ⟨259,kd,d,l⟩ sv gv fs gs _ HR1.out (by omega) d0 d1).mono ?_
 rintro e w' ⟨rfl,sv',hr,hm⟩
 have HR4:Hid _:=hr
 have HM4:Hid _:=HM1.out.trans hm
 clear hr hm
 go_wp2_with fail
 go_ret
 exact ⟨rfl,sv',gv,HR4.out,HM4.out⟩
theorem zav (base B:Nat) (s:ByteArray) (k p:Nat) (c kd d l:Int) (sv gv:Value) (fs:List FR) (gs:List SG) (w:World) (h:RS w base B s k sv gv fs gs) (hs:s.size<=2000) (hk:k<=s.size) (hpe:T.sk s k=p) (hc:T.ch s p=c)
 (_hlen:fs.length+7<=1099511627776) (_hlen2:gs.length+1<=1099511627776) (d0:0<=d) (d1:d<=1000000) (rz:Res) (hrz:Hid ((match Yj d p c with | some l=>(⟨true,p,l,[⟨3,p,d,-1,ByteArray.empty⟩]⟩:Res) | none=>⟨false,p,[],[]⟩)=rz)) :
 Calls Tryz.prog 134 #[.pointer (some ⟨B,0,none⟩),frA ⟨258,kd,d,l⟩] w (SP base B s sv gv fs gs w rz):=by
 show Calls Tryz.prog 134 #[.pointer (some ⟨B,0,none⟩),.agg #[J Z 258,J Z kd,J Z d,J Z l]] w _
 have hpk:p<=s.size:=by rw [<- hpe];exact T.sk_le hk
 have hpee:=fun (wz:World) (hz:RS wz base B s k sv gv fs gs)=>zH base B s k sv gv fs gs wz hs hk hz
 rw [hpe,hc] at hpee
 have HPE:Hid _:=hpee
 clear hpee
 go_enter Tryz.func134,Tryz.ntmps134
 go_wp2_with fail
 have hA:=h.alloc (Q #[J Z 258,J Z kd,J Z d,J Z l] 187)
 have hF:FB (w.alloc (Q #[J Z 258,J Z kd,J Z d,J Z l] 187)) w.heap.size ⟨258,kd,d,l⟩:=⟨by simp,by simp,by simp,by simp⟩
 have hou:=h.outNew
 have hwl:w.heap.size<(w.alloc (Q #[J Z 258,J Z kd,J Z d,J Z l] 187)).heap.size:=by simp
 have hmv:Mv base B sv gv sv gv w (w.alloc (Q #[J Z 258,J Z kd,J Z d,J Z l] 187)):=Mv.alloc h.bs _
 refine (HPE.out _ hA).mono ?_
 rintro e w1 ⟨rfl,hr1,hm1⟩
 have hk1:=hm1.kept w.heap.size hwl hou
 have hF1:=hF.of_block hk1.1
 have hwl1:w.heap.size<w1.heap.size:=Nat.lt_of_lt_of_le hwl hm1.bel.size
 have HM1:Hid (Mv base B sv gv sv gv w w1):=hmv.trans hm1
 have HR1:Hid _:=hr1
 have HF1:Hid _:=hF1
 have b0:w1.cell? ⟨w.heap.size,0,none⟩=some (J Z 258):=hF1.c0
 clear hmv hm1 hA hF hwl hr1 hk1 h hF1
 have b1:w1.cell? ⟨w.heap.size,1,none⟩=some (J Z kd):=HF1.out.c1
 have b2:w1.cell? ⟨w.heap.size,2,none⟩=some (J Z d):=HF1.out.c2
 have b3:w1.cell? ⟨w.heap.size,3,none⟩=some (J Z l):=HF1.out.c3
 go_wp2_with fail
 have hpp:T.sk s p=p:=by rw [<- hpe];exact T.sk_here (T.sk_bl s k)
 have hX:=zcA base B s p ⟨258,kd,d,l⟩ sv gv fs gs _ HR1.out hs hpk _hlen _hlen2 d0 d1
 rw [hpp,hc] at hX
 refine hX.mono ?_
 rintro e w' (⟨hno,rfl,hr,hm⟩ | ⟨lx,hyes,rfl,sv',gv',hr,hm⟩)
 ·have HR4:Hid _:=hr
  have HM4:Hid _:=HM1.out.trans hm
  have HE:Hid _:=hno
  clear hr hm hno hX
  go_wp2_with fail
  go_ret
  rw [<- hrz.out,HE.out]
  exact ⟨rfl,sv,gv,HR4.out,HM4.out⟩
 ·have HR4:Hid _:=hr
  have HM4:Hid _:=HM1.out.trans hm
  have HE:Hid _:=hyes
  clear hr hm hyes hX
  go_wp2_with fail
  go_ret
  rw [<- hrz.out,HE.out]
  exact ⟨rfl,sv',gv',HR4.out,HM4.out⟩
theorem zbI (base B:Nat) (s:ByteArray) (k p:Nat) (c kd d l:Int) (sv gv:Value) (fs:List FR) (gs:List SG) (w:World) (h:RS w base B s k sv gv fs gs) (hs:s.size<=2000) (hk:k<=s.size) (hpe:T.sk s k=p) (hc:T.ch s p=c)
 (_hlen:fs.length+7<=1099511627776) (_hlen2:gs.length+1<=1099511627776) (rz:Res) (hrz:Hid ((if ((T.dg s 9 58 true p).1 && decide (p<(T.dg s 9 58 true p).2))=true then (⟨true,(T.dg s 9 58 true p).2,[],[⟨kd,p,d,l,s.extract p (T.dg s 9 58 true p).2⟩]⟩:Res) else ⟨false,(T.dg s 9 58 true p).2,[],[]⟩)=rz)) :
 Calls Tryz.prog 134 #[.pointer (some ⟨B,0,none⟩),frA ⟨261,kd,d,l⟩] w (SP base B s sv gv fs gs w rz):=by
 show Calls Tryz.prog 134 #[.pointer (some ⟨B,0,none⟩),.agg #[J Z 261,J Z kd,J Z d,J Z l]] w _
 have hpk:p<=s.size:=by rw [<- hpe];exact T.sk_le hk
 have hpee:=fun (wz:World) (hz:RS wz base B s k sv gv fs gs)=>zH base B s k sv gv fs gs wz hs hk hz
 rw [hpe,hc] at hpee
 have HPE:Hid _:=hpee
 clear hpee
 go_enter Tryz.func134,Tryz.ntmps134
 go_wp2_with fail
 have hA:=h.alloc (Q #[J Z 261,J Z kd,J Z d,J Z l] 187)
 have hF:FB (w.alloc (Q #[J Z 261,J Z kd,J Z d,J Z l] 187)) w.heap.size ⟨261,kd,d,l⟩:=⟨by simp,by simp,by simp,by simp⟩
 have hou:=h.outNew
 have hwl:w.heap.size<(w.alloc (Q #[J Z 261,J Z kd,J Z d,J Z l] 187)).heap.size:=by simp
 have hmv:Mv base B sv gv sv gv w (w.alloc (Q #[J Z 261,J Z kd,J Z d,J Z l] 187)):=Mv.alloc h.bs _
 refine (HPE.out _ hA).mono ?_
 rintro e w1 ⟨rfl,hr1,hm1⟩
 have hk1:=hm1.kept w.heap.size hwl hou
 have hF1:=hF.of_block hk1.1
 have hwl1:w.heap.size<w1.heap.size:=Nat.lt_of_lt_of_le hwl hm1.bel.size
 have HM1:Hid (Mv base B sv gv sv gv w w1):=hmv.trans hm1
 have HR1:Hid _:=hr1
 have HF1:Hid _:=hF1
 have b0:w1.cell? ⟨w.heap.size,0,none⟩=some (J Z 261):=hF1.c0
 clear hmv hm1 hA hF hwl hr1 hk1 h hF1
 have b1:w1.cell? ⟨w.heap.size,1,none⟩=some (J Z kd):=HF1.out.c1
 have b2:w1.cell? ⟨w.heap.size,2,none⟩=some (J Z d):=HF1.out.c2
 have b3:w1.cell? ⟨w.heap.size,3,none⟩=some (J Z l):=HF1.out.c3
 go_wp2_with fail
 have hpp:T.sk s p=p:=by rw [<- hpe];exact T.sk_here (T.sk_bl s k)
 have hX:=qV base B s p ⟨261,kd,d,l⟩ 9 58 true sv gv fs gs _ HR1.out hs hpk _hlen2
 rw [hpp] at hX
 refine hX.mono ?_
 rintro e w' (⟨hno,rfl,hr,hm⟩ | ⟨hyes,rfl,gv',hr,hm⟩)
 ·have HR4:Hid _:=hr
  have HM4:Hid _:=HM1.out.trans hm
  have HE:Hid _:=hno
  clear hr hm hno hX
  go_wp2_with fail
  go_ret
  rw [<- hrz.out,HE.out]
  exact ⟨rfl,sv,gv,HR4.out,HM4.out⟩
 ·have HR4:Hid _:=hr
  have HM4:Hid _:=HM1.out.trans hm
  have HE:Hid _:=hyes
  clear hr hm hyes hX
  go_wp2_with fail
  go_ret
  rw [<- hrz.out,HE.out]
  exact ⟨rfl,sv,gv',HR4.out,HM4.out⟩
theorem step_bits (base B:Nat) (s:ByteArray) (k p:Nat) (c kd d l:Int) (sv gv:Value) (fs:List FR) (gs:List SG) (w:World) (h:RS w base B s k sv gv fs gs) (hs:s.size<=2000) (hk:k<=s.size) (hpe:T.sk s k=p) (hc:T.ch s p=c)
 (_hlen:fs.length+7<=1099511627776) (_hlen2:gs.length+1<=1099511627776) (rz:Res) (hrz:Hid ((if ((T.dg s 32 50 false p).1 && decide (p<(T.dg s 32 50 false p).2))=true then (⟨true,(T.dg s 32 50 false p).2,[],[⟨kd,p,d,l,s.extract p (T.dg s 32 50 false p).2⟩]⟩:Res) else ⟨false,(T.dg s 32 50 false p).2,[],[]⟩)=rz)) :
 Calls Tryz.prog 134 #[.pointer (some ⟨B,0,none⟩),frA ⟨262,kd,d,l⟩] w (SP base B s sv gv fs gs w rz):=by
 show Calls Tryz.prog 134 #[.pointer (some ⟨B,0,none⟩),.agg #[J Z 262,J Z kd,J Z d,J Z l]] w _
 have hpk:p<=s.size:=by rw [<- hpe];exact T.sk_le hk
 have hpee:=fun (wz:World) (hz:RS wz base B s k sv gv fs gs)=>zH base B s k sv gv fs gs wz hs hk hz
 rw [hpe,hc] at hpee
 have HPE:Hid _:=hpee
 clear hpee
 go_enter Tryz.func134,Tryz.ntmps134
 go_wp2_with fail
 have hA:=h.alloc (Q #[J Z 262,J Z kd,J Z d,J Z l] 187)
 have hF:FB (w.alloc (Q #[J Z 262,J Z kd,J Z d,J Z l] 187)) w.heap.size ⟨262,kd,d,l⟩:=⟨by simp,by simp,by simp,by simp⟩
 have hou:=h.outNew
 have hwl:w.heap.size<(w.alloc (Q #[J Z 262,J Z kd,J Z d,J Z l] 187)).heap.size:=by simp
 have hmv:Mv base B sv gv sv gv w (w.alloc (Q #[J Z 262,J Z kd,J Z d,J Z l] 187)):=Mv.alloc h.bs _
 refine (HPE.out _ hA).mono ?_
 rintro e w1 ⟨rfl,hr1,hm1⟩
 have hk1:=hm1.kept w.heap.size hwl hou
 have hF1:=hF.of_block hk1.1
 have hwl1:w.heap.size<w1.heap.size:=Nat.lt_of_lt_of_le hwl hm1.bel.size
 have HM1:Hid (Mv base B sv gv sv gv w w1):=hmv.trans hm1
 have HR1:Hid _:=hr1
 have HF1:Hid _:=hF1
 have b0:w1.cell? ⟨w.heap.size,0,none⟩=some (J Z 262):=hF1.c0
 clear hmv hm1 hA hF hwl hr1 hk1 h hF1
 have b1:w1.cell? ⟨w.heap.size,1,none⟩=some (J Z kd):=HF1.out.c1
 have b2:w1.cell? ⟨w.heap.size,2,none⟩=some (J Z d):=HF1.out.c2
 have b3:w1.cell? ⟨w.heap.size,3,none⟩=some (J Z l):=HF1.out.c3
 go_wp2_with fail
 have hpp:T.sk s p=p:=by rw [<- hpe];exact T.sk_here (T.sk_bl s k)
 have hX:=qV base B s p ⟨262,kd,d,l⟩ 32 50 false sv gv fs gs _ HR1.out hs hpk _hlen2
 rw [hpp] at hX
 refine hX.mono ?_
 rintro e w' (⟨hno,rfl,hr,hm⟩ | ⟨hyes,rfl,gv',hr,hm⟩)
 ·have HR4:Hid _:=hr
  have HM4:Hid _:=HM1.out.trans hm
  have HE:Hid _:=hno
  clear hr hm hno hX
  go_wp2_with fail
  go_ret
  rw [<- hrz.out,HE.out]
  exact ⟨rfl,sv,gv,HR4.out,HM4.out⟩
 ·have HR4:Hid _:=hr
  have HM4:Hid _:=HM1.out.trans hm
  have HE:Hid _:=hyes
  clear hr hm hyes hX
  go_wp2_with fail
  go_ret
  rw [<- hrz.out,HE.out]
  exact ⟨rfl,sv,gv',HR4.out,HM4.out⟩
theorem jo (base B:Nat) (s:ByteArray) (k p:Nat) (c kd d l:Int) (sv gv:Value) (fs:List FR) (gs:List SG) (w:World) (h:RS w base B s k sv gv fs gs) (hs:s.size<=2000) (hk:k<=s.size) (hpe:T.sk s k=p) (hc:T.ch s p=c)
 (_hlen:fs.length+7<=1099511627776) (_hlen2:gs.length+1<=1099511627776) (hc2:97<=c) (hc3:c<=122) (hp1:p<s.size) :
 Calls Tryz.prog 134 #[.pointer (some ⟨B,0,none⟩),frA ⟨263,kd,d,l⟩] w (SP base B s sv gv fs gs w ⟨true,p+1,[],[⟨kd,p,d,l,s.extract p (p+1)⟩]⟩):=by
 show Calls Tryz.prog 134 #[.pointer (some ⟨B,0,none⟩),.agg #[J Z 263,J Z kd,J Z d,J Z l]] w _
 have hpk:p<=s.size:=by rw [<- hpe];exact T.sk_le hk
 have hpee:=fun (wz:World) (hz:RS wz base B s k sv gv fs gs)=>zH base B s k sv gv fs gs wz hs hk hz
 rw [hpe,hc] at hpee
 have HPE:Hid _:=hpee
 clear hpee
 go_enter Tryz.func134,Tryz.ntmps134
 go_wp2_with fail
 have hA:=h.alloc (Q #[J Z 263,J Z kd,J Z d,J Z l] 187)
 have hF:FB (w.alloc (Q #[J Z 263,J Z kd,J Z d,J Z l] 187)) w.heap.size ⟨263,kd,d,l⟩:=⟨by simp,by simp,by simp,by simp⟩
 have hou:=h.outNew
 have hwl:w.heap.size<(w.alloc (Q #[J Z 263,J Z kd,J Z d,J Z l] 187)).heap.size:=by simp
 have hmv:Mv base B sv gv sv gv w (w.alloc (Q #[J Z 263,J Z kd,J Z d,J Z l] 187)):=Mv.alloc h.bs _
 refine (HPE.out _ hA).mono ?_
 rintro e w1 ⟨rfl,hr1,hm1⟩
 have hk1:=hm1.kept w.heap.size hwl hou
 have hF1:=hF.of_block hk1.1
 have hwl1:w.heap.size<w1.heap.size:=Nat.lt_of_lt_of_le hwl hm1.bel.size
 have HM1:Hid (Mv base B sv gv sv gv w w1):=hmv.trans hm1
 have HR1:Hid _:=hr1
 have HF1:Hid _:=hF1
 have b0:w1.cell? ⟨w.heap.size,0,none⟩=some (J Z 263):=hF1.c0
 clear hmv hm1 hA hF hwl hr1 hk1 h hF1
 have hc4:¬ c<97:=by omega
 have hc5:¬ 122<c:=by omega
 have c1:=HR1.out.c1
 have z1:=HR1.out.fz 1
 have hp2:(p:Int)<2000:=by omega
 go_wp2_with fail
 clear c1 z1 b0
 have HR2:Hid (RS (w1.setCell ⟨B,1,none⟩ (J Z ((p:Int)+1))) base B s (p+1) sv gv fs gs):=HR1.out.at (p+1) _ (by omega)
 have HM2:Hid (Mv base B sv gv sv gv w (w1.setCell ⟨B,1,none⟩ (J Z ((p:Int)+1)))):=HM1.out.trans (HR1.out.atMv _)
 have HF2:FB (w1.setCell ⟨B,1,none⟩ (J Z ((p:Int)+1))) w.heap.size ⟨263,kd,d,l⟩:=HF1.out.of_block (za hou.1)
 have c1:=HR2.out.c1
 rw [Int.natCast_add,Int.natCast_one] at c1
 have b0:(w1.setCell ⟨B,1,none⟩ (J Z ((p:Int)+1))).cell? ⟨w.heap.size,0,none⟩=some (J Z 263):=HF2.c0
 have b1:(w1.setCell ⟨B,1,none⟩ (J Z ((p:Int)+1))).cell? ⟨w.heap.size,1,none⟩=some (J Z kd):=HF2.c1
 have b2:(w1.setCell ⟨B,1,none⟩ (J Z ((p:Int)+1))).cell? ⟨w.heap.size,2,none⟩=some (J Z d):=HF2.c2
 have b3:(w1.setCell ⟨B,1,none⟩ (J Z ((p:Int)+1))).cell? ⟨w.heap.size,3,none⟩=some (J Z l):=HF2.c3
 have hz2:w.heap.size<(w1.setCell ⟨B,1,none⟩ (J Z ((p:Int)+1))).heap.size:=Nat.lt_of_lt_of_le hwl1 (HR1.out.atMv _).bel.size
 clear HF2 HF1 HM1
 generalize w1.setCell ⟨B,1,none⟩ (J Z ((p:Int)+1))=w2 at *
 have hpp:(p:Int)+1-1=p:=by omega
 have hwp:IntKind.i64.wrap (p:Int)=p:=by unfold IntKind.wrap;simp [IntKind.signed,IntKind.bits];omega
 have hkeep:Hid (∀ (w':World) (gv':Value),RS w' base B s (p+1) sv gv' fs (⟨kd,p,d,l,s.extract p (p+1)⟩::gs)->Mv base B sv gv sv gv' w2.drew w'->w'.cell? ⟨B,1,none⟩=some (J Z ((p:Int)+1))/\w'.cell? ⟨w.heap.size,0,none⟩=some (J Z 263)/\w'.cell? ⟨w.heap.size,1,none⟩=some (J Z kd)/\w'.cell? ⟨w.heap.size,2,none⟩=some (J Z d)/\w'.cell? ⟨w.heap.size,3,none⟩=some (J Z l)):=by
  intro w' gv' hr hm
  have eI:w'.heap[w.heap.size]?=w2.heap[w.heap.size]?:=(hm.kept _ hz2 hou).1
  have c1':=hr.c1
  rw [Int.natCast_add,Int.natCast_one] at c1'
  exact ⟨c1',by rw [World.cell?_of_block (w:=w2) eI];exact b0,by rw [World.cell?_of_block (w:=w2) eI];exact b1,by rw [World.cell?_of_block (w:=w2) eI];exact b2,by rw [World.cell?_of_block (w:=w2) eI];exact b3⟩
 go_region_held3 (fun w'=>w'.cell? ⟨B,1,none⟩=some (J Z ((p:Int)+1))/\w'.cell? ⟨w.heap.size,0,none⟩=some (J Z 263)/\w'.cell? ⟨w.heap.size,1,none⟩=some (J Z kd)/\w'.cell? ⟨w.heap.size,2,none⟩=some (J Z d)/\w'.cell? ⟨w.heap.size,3,none⟩=some (J Z l)) (first | (refine hkeep.out _ _ hr hm;done) | (exact ⟨c1,b0,b1,b2,b3⟩)) (first | (go_at_call 176;refine (Xg base B s (p+1) p ⟨263,kd,d,l⟩ sv gv fs gs _ HR2.out.drew (by omega) hp1 _hlen2).mono ?_;rintro e w' ⟨rfl,gv',hr,hm⟩))
 all_goals
  have HR3:Hid _:=hr
  have HM3:Hid (Mv base B sv gv sv gv' w w'):=HM2.out.drew.trans hm
  clear hr hm
  go_wp2_with fail
  go_ret
  exact ⟨rfl,sv,gv',HR3.out,HM3.out⟩
end Go.Proofs.YtaebngpoagjafaaGreat
