/-
  OUR OWN.
-/
import Derived.Test.YtaebngpoagjafaaGreatV43
import Derived.Test.YtaebngpoagjafaaGreatV40
import Derived.Test.YtaebngpoagjafaaGreatV02
set_option maxRecDepth 100000
namespace Go.Proofs.YtaebngpoagjafaaGreat
open Go.RowKit
attribute [local go_sem ↓] Go.wp_at_zero Go.wp_at_succ
set_option maxHeartbeats 3200000 in
theorem scoped_walk (s : ByteArray) (x : WD) (rest : Int) (w : World) (hx : x.In w) (hn : x.pl * 24 <= 140737488351232) (r0 : -9223372036854775808 <= rest) (r1 : rest <= 9223372036854775807) :
   Calls Tryz.prog 8 #[.string s, x.val, .int .i64 rest] w fun e w' => e = .returned (.bool true) /\ Below w.heap.size w w' := by
 have HX : Hid (x.In w) := hx
 have HF : Hid (∀ wz, Calls Tryz.prog 13 #[.string s] wz fun e w' => e = .returned (.bool (fitB s)) /\ Below wz.heap.size wz w') := fun wz => fits_any s wz
 clear hx
 unfold WD.val
 obtain ⟨xa, xb, xd, xdo, xdb, xdoff, xdl, xdc, xDn, xao, xab, xaoff, xac, xal, xpo, xpb, xpoff, xpl, xpcp, xV, xL, xR⟩ := x
 simp only at hn ⊢
 have HX1 : Hid (WD.In ⟨xa, 32, xd, xdo, xdb, xdoff, xdl, xdc, xDn, xao, xab, xaoff, xac, xal, xpo, xpb, xpoff, xpl, xpcp, xV, xL, xR⟩ w) := ⟨HX.out.ts, HX.out.is_, HX.out.as_, HX.out.ndl, HX.out.nal⟩
 clear HX
 have HB0 : Hid (Below w.heap.size w (w.alloc (.cells #[.int .i64 xa, .int .i64 32, .int .i64 xd, .slice xdo xdl xdc, .slice xao xal.length xac, .slice xpo xpl xpcp] 30))) := (Below.refl _ _).alloc (Nat.le_refl _) _
 have HW0 : Hid ((w.alloc (.cells #[.int .i64 xa, .int .i64 32, .int .i64 xd, .slice xdo xdl xdc, .slice xao xal.length xac, .slice xpo xpl xpcp] 30)).heap[w.heap.size]? = some (.cells #[.int .i64 xa, .int .i64 32, .int .i64 xd, .slice xdo xdl xdc, .slice xao xal.length xac, .slice xpo xpl xpcp] 30 (0, 0))) := heap_alloc_new w _
 obtain ⟨X1, HXE⟩ : ∃ X1 : WD, Hid (X1 = ⟨xa, 32, xd, xdo, xdb, xdoff, xdl, xdc, xDn, xao, xab, xaoff, xac, xal, xpo, xpb, xpoff, xpl, xpcp, xV, xL, xR⟩) := ⟨_, rfl⟩
 have HXV : Hid (X1.val = .agg #[.int .i64 xa, .int .i64 32, .int .i64 xd, .slice xdo xdl xdc, .slice xao xal.length xac, .slice xpo xpl xpcp]) := by show _ = _; rw [HXE.out]; rfl
 have HXI : Hid (X1.In w) := by show WD.In _ _; rw [HXE.out]; exact HX1.out
 have hXn : X1.pl * 24 <= 140737488351232 := by rw [HXE.out]; exact hn
 have HRT : Hid (∀ wz, X1.In wz -> Calls Tryz.prog 14 #[.agg #[.int .i64 xa, .int .i64 32, .int .i64 xd, .slice xdo xdl xdc, .slice xao xal.length xac, .slice xpo xpl xpcp]] wz fun e w' => e = .returned (.bool X1.right) /\ Below wz.heap.size wz w') := fun wz h => by rw [<- HXV.out]; exact Right_any X1 wz h hXn
 have HRF : Hid (∀ wz, X1.In wz -> fitB s = false \/ X1.right = false -> Calls Tryz.prog 15 #[.string s, .agg #[.int .i64 xa, .int .i64 32, .int .i64 xd, .slice xdo xdl xdc, .slice xao xal.length xac, .slice xpo xpl xpcp], .bool (fitB s)] wz fun e w' => e = .returned (.bool true) /\ Below wz.heap.size wz w') := fun wz h h2 => by rw [<- HXV.out]; exact refused_any s X1 wz h h2
 have HAN : Hid (fitB s = true -> X1.right = true -> ∀ wz, X1.In wz -> Calls Tryz.prog 16 #[.string s, .agg #[.int .i64 xa, .int .i64 32, .int .i64 xd, .slice xdo xdl xdc, .slice xao xal.length xac, .slice xpo xpl xpcp]] wz (AnTo wz (X1.an s).1 (X1.an s).2.1 (X1.an s).2.2)) := fun hf hr wz h => by
   rw [<- HXV.out]
   obtain ⟨p1, p2, p3, p4, _, _⟩ := an_bd hf hr
   exact answer_ok s X1 _ _ _ wz h (fit_cp hf) (ru_len hf hr) p1 p2 p3 p4
 have HAB : Hid (fitB s = true -> X1.right = true -> M.isA xa = true /\ 0 <= (X1.an s).2.2 /\ (X1.an s).2.2 <= 32) := fun hf hr => by
   obtain ⟨_, _, p3, p4, _, _⟩ := an_bd hf hr
   have hq := (right_parts hr).1
   have e : X1.a = xa := by rw [HXE.out]
   rw [e] at hq
   exact ⟨hq, p3, p4⟩
 have HAN2 : Hid (fitB s = true -> X1.right = true -> ∀ r wz, X1.In wz -> Calls Tryz.prog 16 #[.string s, .agg #[.int .i64 (M.join xa r (X1.an s).2.2), .int .i64 32, .int .i64 xd, .slice xdo xdl xdc, .slice xao xal.length xac, .slice xpo xpl xpcp]] wz (AnTo wz (X1.an s).1 (X1.an s).2.1 (X1.an s).2.2)) := fun hf hr r wz h => by
   obtain ⟨p1, p2, p3, p4, _, _⟩ := an_bd hf hr
   have e1 : X1.b = 32 := by rw [HXE.out]
   obtain ⟨hr2, ha2⟩ := an_same (r := r) hf hr e1 rfl
   have hv : (.agg #[.int .i64 (M.join xa r (X1.an s).2.2), .int .i64 32, .int .i64 xd, .slice xdo xdl xdc, .slice xao xal.length xac, .slice xpo xpl xpcp] : Value) = ({ X1 with a := M.join X1.a r (X1.an s).2.2 } : WD).val := by
     have e2 : X1.a = xa := by rw [HXE.out]
     rw [e2, HXE.out]; rfl
   rw [hv]
   refine answer_ok s _ _ _ _ wz ⟨h.ts, h.is_, h.as_, h.ndl, h.nal⟩ (fit_cp hf) ?_ p1 p2 p3 p4
   rw [ru_len hf hr2, ha2]
 obtain ⟨F, HFF⟩ : ∃ F, Hid (fitB s = F) := ⟨_, rfl⟩
 rw [HFF.out] at HF HRF HAN HAN2 HAB
 obtain ⟨RR, HRR⟩ : ∃ RR, Hid (X1.right = RR) := ⟨_, rfl⟩
 rw [HRR.out] at HRT HRF HAN HAN2 HAB
 obtain ⟨sv, t, c, HANE⟩ : ∃ sv t c, Hid (X1.an s = (sv, t, c)) := ⟨_, _, _, rfl⟩
 rw [HANE.out] at HAN HAN2 HAB
 simp only at HAN HAN2 HAB
 go_enter Tryz.func8, Tryz.ntmps8
 go_wp2_with fail
 refine (HF.out _).mono ?_
 rintro e w1 ⟨rfl, hb1⟩
 have HB1 : Hid (Below w.heap.size w w1) := HB0.out.trans (hb1.mono HB0.out.size)
 have hW1 := (hb1.block _ (lt_of_block HW0.out)).trans HW0.out
 have HW1 : Hid (w1.heap[w.heap.size]? = some (.cells #[.int .i64 xa, .int .i64 32, .int .i64 xd, .slice xdo xdl xdc, .slice xao xal.length xac, .slice xpo xpl xpcp] 30 (0, 0))) := hW1
 have q0 : w1.cell? ⟨w.heap.size, 0, none⟩ = some (.int .i64 xa) := by rw [cell_of_row _ _ _ _ _ _ hW1]; rfl
 have q1 : w1.cell? ⟨w.heap.size, 1, none⟩ = some (.int .i64 32) := by rw [cell_of_row _ _ _ _ _ _ hW1]; rfl
 have q2 : w1.cell? ⟨w.heap.size, 2, none⟩ = some (.int .i64 xd) := by rw [cell_of_row _ _ _ _ _ _ hW1]; rfl
 have q3 : w1.cell? ⟨w.heap.size, 3, none⟩ = some (.slice xdo xdl xdc) := by rw [cell_of_row _ _ _ _ _ _ hW1]; rfl
 have q4 : w1.cell? ⟨w.heap.size, 4, none⟩ = some (.slice xao xal.length xac) := by rw [cell_of_row _ _ _ _ _ _ hW1]; rfl
 have q5 : w1.cell? ⟨w.heap.size, 5, none⟩ = some (.slice xpo xpl xpcp) := by rw [cell_of_row _ _ _ _ _ _ hW1]; rfl
 clear hb1 hW1
 go_wp2_with fail
 refine (HRT.out _ (HXI.out.below HB1.out)).mono ?_
 rintro e w2 ⟨rfl, hb2⟩
 have HB2 : Hid (Below w.heap.size w w2) := HB1.out.trans (hb2.mono HB1.out.size)
 have hW2 := (hb2.block _ (lt_of_block HW1.out)).trans HW1.out
 have HW2 : Hid (w2.heap[w.heap.size]? = some (.cells #[.int .i64 xa, .int .i64 32, .int .i64 xd, .slice xdo xdl xdc, .slice xao xal.length xac, .slice xpo xpl xpcp] 30 (0, 0))) := hW2
 clear q0 q1 q2 q3 q4 q5
 have q0 : w2.cell? ⟨w.heap.size, 0, none⟩ = some (.int .i64 xa) := by rw [cell_of_row _ _ _ _ _ _ hW2]; rfl
 have q1 : w2.cell? ⟨w.heap.size, 1, none⟩ = some (.int .i64 32) := by rw [cell_of_row _ _ _ _ _ _ hW2]; rfl
 have q2 : w2.cell? ⟨w.heap.size, 2, none⟩ = some (.int .i64 xd) := by rw [cell_of_row _ _ _ _ _ _ hW2]; rfl
 have q3 : w2.cell? ⟨w.heap.size, 3, none⟩ = some (.slice xdo xdl xdc) := by rw [cell_of_row _ _ _ _ _ _ hW2]; rfl
 have q4 : w2.cell? ⟨w.heap.size, 4, none⟩ = some (.slice xao xal.length xac) := by rw [cell_of_row _ _ _ _ _ _ hW2]; rfl
 have q5 : w2.cell? ⟨w.heap.size, 5, none⟩ = some (.slice xpo xpl xpcp) := by rw [cell_of_row _ _ _ _ _ _ hW2]; rfl
 clear hb2 hW2
 have hREF : F = false \/ RR = false -> Calls Tryz.prog 15 #[.string s, .agg #[.int .i64 xa, .int .i64 32, .int .i64 xd, .slice xdo xdl xdc, .slice xao xal.length xac, .slice xpo xpl xpcp], .bool F] w2 fun e w' => e = .returned (.bool true) /\ Below w2.heap.size w2 w' := fun h => HRF.out w2 (HXI.out.below HB2.out) h
 cases F with
 | false =>
   have HC := hREF (.inl rfl)
   clear hREF
   go_wp2_with fail
   refine HC.mono ?_
   rintro e w3 ⟨rfl, hb3⟩
   have HB3 : Hid (Below w.heap.size w w3) := HB2.out.trans (hb3.mono HB2.out.size)
   clear hb3
   go_wp2_with fail
   go_ret
   exact ⟨rfl, HB3.out⟩
 | true =>
   cases RR with
   | false =>
     have HC := hREF (.inr rfl)
     clear hREF
     go_wp2_with fail
     refine HC.mono ?_
     rintro e w3 ⟨rfl, hb3⟩
     have HB3 : Hid (Below w.heap.size w w3) := HB2.out.trans (hb3.mono HB2.out.size)
     clear hb3
     go_wp2_with fail
     go_ret
     exact ⟨rfl, HB3.out⟩
   | true =>
     clear hREF
     obtain ⟨hA, c0, c1⟩ := HAB.out (by first | rfl | trivial) (by first | rfl | trivial)
     obtain ⟨xa0, xa1⟩ := M.isA_iff.1 hA
     have hpk := pkF_bd (c := rest) (n := 4294967296) (by decide)
     go_wp2_with fail
     refine (HAN.out (by first | rfl | trivial) (by first | rfl | trivial) _ (HXI.out.below HB2.out)).mono ?_
     rintro e w3 ⟨hb3, o3, k3, rfl, hrow3⟩
     have HB3 : Hid (Below w.heap.size w w3) := HB2.out.trans (hb3.mono HB2.out.size)
     have HW3 : Hid (w3.heap[w.heap.size]? = some (.cells #[.int .i64 xa, .int .i64 32, .int .i64 xd, .slice xdo xdl xdc, .slice xao xal.length xac, .slice xpo xpl xpcp] 30 (0, 0))) := (hb3.block _ (lt_of_block HW2.out)).trans HW2.out
     have hlt3 : w.heap.size < w3.heap.size := lt_of_block HW3.out
     have HRW3 : Hid ((w3.alloc (.cells #[.slice o3 sv.length k3, .int .i64 t, .int .i64 c] 35)).ownsRow w.heap.size 3 1 (.slice o3 sv.length k3) sv.length (sv.map (Value.int .i64))) := (owns_mono hrow3 HB2.out.size).alloc _
     have HB4 : Hid (Below w.heap.size w (w3.alloc (.cells #[.slice o3 sv.length k3, .int .i64 t, .int .i64 c] 35))) := HB3.out.alloc HB3.out.size _
     have HW4 : Hid ((w3.alloc (.cells #[.slice o3 sv.length k3, .int .i64 t, .int .i64 c] 35)).heap[w.heap.size]? = some (.cells #[.int .i64 xa, .int .i64 32, .int .i64 xd, .slice xdo xdl xdc, .slice xao xal.length xac, .slice xpo xpl xpcp] 30 (0, 0))) := by show _ = _; rw [Below.heap_alloc _ _ _ hlt3]; exact HW3.out
     have HA4 : Hid ((w3.alloc (.cells #[.slice o3 sv.length k3, .int .i64 t, .int .i64 c] 35)).heap[w3.heap.size]? = some (.cells #[.slice o3 sv.length k3, .int .i64 t, .int .i64 c] 35 (0, 0))) := heap_alloc_new _ _
     clear hb3 hrow3 q0 q1 q2 q3 q4 q5
     go_wp2_with fail
     generalize w3.alloc (.cells #[.slice o3 sv.length k3, .int .i64 t, .int .i64 c] 35) = w4 at *
     have g0 : w4.cell? ⟨w.heap.size, 0, none⟩ = some (.int .i64 xa) := by rw [cell_of_row _ _ _ _ _ _ HW4.out]; rfl
     have g2 : w4.cell? ⟨w3.heap.size, 2, none⟩ = some (.int .i64 c) := by rw [cell_of_row _ _ _ _ _ _ HA4.out]; rfl
     have f0 : w4.frozen? ⟨w.heap.size, 0, none⟩ = false := by simp [World.frozen?, HW4.out]
     have hlt4 : w.heap.size < w4.heap.size := lt_of_block HW4.out
     go_region_with (first | (go_at_call 18; refine (address_keep rest _ r0 r1).mono ?_; rintro e w' ⟨rfl, hw'⟩; subst w') | (go_at_call 17; refine (joined_keep xa (pkF rest 4294967296) c _ xa0 xa1 hpk.1 hpk.2 c0 c1).mono ?_; rintro e w5 ⟨rfl, hb5⟩; have g5 : w5.cell? ⟨w.heap.size, 0, none⟩ = some (.int .i64 xa) := (hb5.cell (p := ⟨w.heap.size, 0, none⟩) hlt4).trans g0; have f5 : w5.frozen? ⟨w.heap.size, 0, none⟩ = false := (hb5.frozen (p := ⟨w.heap.size, 0, none⟩) hlt4).trans f0))
     all_goals
       have hW5 : w5.heap[w.heap.size]? = some (.cells #[.int .i64 xa, .int .i64 32, .int .i64 xd, .slice xdo xdl xdc, .slice xao xal.length xac, .slice xpo xpl xpcp] 30 (0, 0)) := (hb5.block _ hlt4).trans HW4.out
       have HW6 : Hid ((w5.setCell ⟨w.heap.size, 0, none⟩ (.int .i64 (M.join xa (pkF rest 4294967296) c))).heap[w.heap.size]? = some (.cells #[.int .i64 (M.join xa (pkF rest 4294967296) c), .int .i64 32, .int .i64 xd, .slice xdo xdl xdc, .slice xao xal.length xac, .slice xpo xpl xpcp] 30 (0, 0))) := by show _ = _; rw [blkN_set hW5]; rfl
       have HB6 : Hid (Below w.heap.size w (w5.setCell ⟨w.heap.size, 0, none⟩ (.int .i64 (M.join xa (pkF rest 4294967296) c)))) := (HB4.out.drew.trans (hb5.mono (Nat.le_of_lt hlt4))).setCell (Nat.le_refl _) _
       have HA6 : Hid ((w5.setCell ⟨w.heap.size, 0, none⟩ (.int .i64 (M.join xa (pkF rest 4294967296) c))).heap[w3.heap.size]? = some (.cells #[.slice o3 sv.length k3, .int .i64 t, .int .i64 c] 35 (0, 0))) := by show _ = _; rw [heap_set_ne (by omega)]; exact (hb5.block _ (lt_of_block HA4.out)).trans HA4.out
       have hneR : (Value.slice o3 sv.length k3).ownBlock ≠ some w.heap.size := owns_ne HRW3.out HW4.out (by decide)
       have HRW6 : Hid ((w5.setCell ⟨w.heap.size, 0, none⟩ (.int .i64 (M.join xa (pkF rest 4294967296) c))).ownsRow w.heap.size 3 1 (.slice o3 sv.length k3) sv.length (sv.map (Value.int .i64))) := owns_of_block HRW3.out (fun g hg => by rw [heap_set_ne (fun e => hneR (by rw [<- e]; exact hg))]; exact hb5.block g (HRW3.out.lt g hg).2)
       clear hb5 g5 f5 g0 g2 f0 hW5 hneR
       generalize (w5.setCell ⟨w.heap.size, 0, none⟩ (.int .i64 (M.join xa (pkF rest 4294967296) c))) = w6 at *
       have q0 : w6.cell? ⟨w.heap.size, 0, none⟩ = some (.int .i64 (M.join xa (pkF rest 4294967296) c)) := by rw [cell_of_row _ _ _ _ _ _ HW6.out]; rfl
       have q1 : w6.cell? ⟨w.heap.size, 1, none⟩ = some (.int .i64 32) := by rw [cell_of_row _ _ _ _ _ _ HW6.out]; rfl
       have q2 : w6.cell? ⟨w.heap.size, 2, none⟩ = some (.int .i64 xd) := by rw [cell_of_row _ _ _ _ _ _ HW6.out]; rfl
       have q3 : w6.cell? ⟨w.heap.size, 3, none⟩ = some (.slice xdo xdl xdc) := by rw [cell_of_row _ _ _ _ _ _ HW6.out]; rfl
       have q4 : w6.cell? ⟨w.heap.size, 4, none⟩ = some (.slice xao xal.length xac) := by rw [cell_of_row _ _ _ _ _ _ HW6.out]; rfl
       have q5 : w6.cell? ⟨w.heap.size, 5, none⟩ = some (.slice xpo xpl xpcp) := by rw [cell_of_row _ _ _ _ _ _ HW6.out]; rfl
       have HC2 := HAN2.out (by first | rfl | trivial) (by first | rfl | trivial) (pkF rest 4294967296) w6 (HXI.out.below HB6.out)
       go_wp2_with fail
       refine HC2.mono ?_
       rintro e w7 ⟨hb7, o7, k7, rfl, hrow7⟩
       have HB7 : Hid (Below w.heap.size w w7) := HB6.out.trans (hb7.mono HB6.out.size)
       have HA7 : Hid (w7.heap[w3.heap.size]? = some (.cells #[.slice o3 sv.length k3, .int .i64 t, .int .i64 c] 35 (0, 0))) := (hb7.block _ (lt_of_block HA6.out)).trans HA6.out
       have hlt7 : w3.heap.size < w7.heap.size := lt_of_block HA7.out
       have HRa : Hid ((w7.alloc (.cells #[.slice o7 sv.length k7, .int .i64 t, .int .i64 c] 35)).ownsRow w.heap.size 3 1 (.slice o3 sv.length k3) sv.length (sv.map (Value.int .i64))) := (owns_of_block HRW6.out (fun g hg => hb7.block g (HRW6.out.lt g hg).2)).alloc _
       have HRb : Hid ((w7.alloc (.cells #[.slice o7 sv.length k7, .int .i64 t, .int .i64 c] 35)).ownsRow w.heap.size 3 1 (.slice o7 sv.length k7) sv.length (sv.map (Value.int .i64))) := (owns_mono hrow7 HB6.out.size).alloc _
       have HB8 : Hid (Below w.heap.size w (w7.alloc (.cells #[.slice o7 sv.length k7, .int .i64 t, .int .i64 c] 35))) := HB7.out.alloc HB7.out.size _
       have HA8 : Hid ((w7.alloc (.cells #[.slice o7 sv.length k7, .int .i64 t, .int .i64 c] 35)).heap[w3.heap.size]? = some (.cells #[.slice o3 sv.length k3, .int .i64 t, .int .i64 c] 35 (0, 0))) := by show _ = _; rw [Below.heap_alloc _ _ _ hlt7]; exact HA7.out
       have a0 : (w7.alloc (.cells #[.slice o7 sv.length k7, .int .i64 t, .int .i64 c] 35)).cell? ⟨w3.heap.size, 0, none⟩ = some (.slice o3 sv.length k3) := by rw [cell_of_row _ _ _ _ _ _ HA8.out]; rfl
       have a1 : (w7.alloc (.cells #[.slice o7 sv.length k7, .int .i64 t, .int .i64 c] 35)).cell? ⟨w3.heap.size, 1, none⟩ = some (.int .i64 t) := by rw [cell_of_row _ _ _ _ _ _ HA8.out]; rfl
       have a2 : (w7.alloc (.cells #[.slice o7 sv.length k7, .int .i64 t, .int .i64 c] 35)).cell? ⟨w3.heap.size, 2, none⟩ = some (.int .i64 c) := by rw [cell_of_row _ _ _ _ _ _ HA8.out]; rfl
       clear hb7 hrow7 q0 q1 q2 q3 q4 q5 HC2
       obtain ⟨ga, hisa⟩ := is_of_row HRa.out
       obtain ⟨gb, hisb⟩ := is_of_row HRb.out
       have hsl : sv.length <= 9223372036854775807 := by
         rcases HRa.out.2 with ⟨_, h2⟩ | ⟨_, cap, _, h1, _, _, h4, h5, _⟩
         · omega
         · unfold maxLen at h5; cases h1; omega
       have HSM := same_keep o3 o7 k3 k7 sv.length t c _ ga 0 gb 0 _ hsl hisa hisb
       clear hisa hisb
       go_wp2_with fail
       refine HSM.mono ?_
       rintro e w9 ⟨rfl, hb9⟩
       have HB9 : Hid (Below w.heap.size w w9) := HB8.out.trans (hb9.mono HB8.out.size)
       clear hb9 HSM
       go_wp2_with fail
       go_ret
       exact ⟨rfl, HB9.out⟩
end Go.Proofs.YtaebngpoagjafaaGreat
namespace Go.Proofs.YtaebngpoagjafaaGreat
open Go.ChangeShapes Go.WideShapes Go.ChangeAt Go.RowKit
theorem bytesInt : Tryz.prog.bytesOf 3 = 8 := by kernel_rfl
theorem bytesInts : Tryz.prog.bytesOf 25 = 24 := by kernel_rfl
section
variable {H : Type} {enc : TypeId × Value -> H} {w : World} {base : Nat} {spare : Nat -> Bool} {held : Bool}
theorem open_ints {fuel : Nat} {cs : List Value} {x : DataW H × List MemPlace} (h : DataW.trod enc Tryz.prog w base spare held fuel 25 cs = some x) :
   ∃ o len cap b off D, cs = [.slice o len cap] /\ IS w o b off len D /\ ((∀ k ∈ x.1.weights Tryz.prog 25, k <= reachBytes) -> len * 8 <= 140737488351232) := by
 rcases Deep.open_slice1 Tryz.underlying25 cellsInt h with ⟨hcs, _⟩ | ⟨a, l, c, m, n, V, D, Pl, hcs, _, hl, _, hmm, hx, hel⟩
 · exact ⟨none, 0, 0, 0, 0, fun _ => 0, hcs, ⟨fun h => by omega, fun h => by omega, fun i hi => by omega⟩, fun _ => by omega⟩
 · have hlm : l <= m := by rw [hmm]; split <;> omega
   obtain ⟨F, hF⟩ := Deep.choose_lt (α := Int) (n := l) (p := fun i y => w.cell? (a.add i) = some (.int .i64 y)) (fun i hi => by
     obtain ⟨h1, h2⟩ := hel i (by omega)
     obtain ⟨y, ey, _, _⟩ := DataW.trod_int Tryz.underlying3 h2
     simp at ey
     exact ⟨y, by rw [h1, ey]⟩)
   obtain ⟨b, off, spot⟩ := a
   refine ⟨some ⟨b, off, spot⟩, l, c, b, off, F, hcs, ?_, fun hw => ?_⟩
   · by_cases hl0 : l = 0
     · subst hl0
       exact ⟨fun h => by omega, fun h => by omega, fun i hi => by omega⟩
     · have hc0 := hF 0 (by omega)
       have hspot : spot = none := by simpa [Addr.add] using World.cell?_spot hc0
       subst hspot
       have hlt : b < w.heap.size := by
         have := hc0
         simp [Addr.add] at this
         exact lt_of_cell' this
       refine ⟨fun _ => rfl, fun _ => hlt, fun i hi => ?_⟩
       have := hF i hi
       rw [add_plain] at this
       exact this
   · have hmem : (l + (m - l)) * 8 ∈ x.1.weights Tryz.prog 25 := by
       rw [hx]
       simp only [DataW.weights, Tryz.underlying25, bytesInt]
       simp
     have := hw _ hmem
     simp only [reachBytes] at this
     omega
theorem open_intss {fuel : Nat} {cs : List Value} {x : DataW H × List MemPlace} (h : DataW.trod enc Tryz.prog w base spare held fuel 27 cs = some x) :
   ∃ o cap ab aoff al, cs = [.slice o al.length cap] /\ ((∀ k ∈ x.1.weights Tryz.prog 27, k <= reachBytes) -> AS w w.heap.size o ab aoff al /\ al.length * 24 <= 140737488351232) := by
 rcases Deep.open_slice1 Tryz.underlying27 cellsInts h with ⟨hcs, _⟩ | ⟨a, l, c, m, n, V, D, Pl, hcs, _, hl, _, hmm, hx, hel⟩
 · exact ⟨none, 0, 0, 0, [], hcs, fun _ => ⟨⟨fun h => by simp at h, fun h => by simp at h, fun k l hl => by simp at hl, fun l hl => by simp at hl⟩, by simp⟩⟩
 · have hlm : l <= m := by rw [hmm]; split <;> omega
   obtain ⟨F, hF⟩ := Deep.choose_lt (α := Option Addr × Nat × Nat × Nat × Nat × (Nat -> Int)) (n := l) (p := fun i y => w.cell? (a.add i) = some (.slice y.1 y.2.1 y.2.2.1) /\ IS w y.1 y.2.2.2.1 y.2.2.2.2.1 y.2.1 y.2.2.2.2.2 /\ ((∀ k ∈ (D i).weights Tryz.prog 25, k <= reachBytes) -> y.2.1 * 8 <= 140737488351232)) (fun i hi => by
     obtain ⟨h1, h2⟩ := hel i (by omega)
     obtain ⟨o, len, cap, b, off, Dn, e1, hi1, hw1⟩ := open_ints h2
     simp at e1
     exact ⟨(o, len, cap, b, off, Dn), by rw [h1, e1], hi1, hw1⟩)
   obtain ⟨b, off, spot⟩ := a
   refine ⟨some ⟨b, off, spot⟩, c, b, off, (List.range l).map (fun i => (List.range (F i).2.1).map (F i).2.2.2.2.2), by simpa using hcs, fun hw => ?_⟩
   have hwl : l * 24 <= 140737488351232 := by
     have hmem : (l + (m - l)) * 24 ∈ x.1.weights Tryz.prog 27 := by
       rw [hx]
       simp only [DataW.weights, Tryz.underlying27, bytesInts]
       simp
     have := hw _ hmem
     simp only [reachBytes] at this
     omega
   have hwi : ∀ i, i < l -> (F i).2.1 * 8 <= 140737488351232 := fun i hi => (hF i hi).2.2 (fun k hk => hw k (by
     rw [hx]
     simp only [DataW.weights, Tryz.underlying27]
     refine List.mem_cons_of_mem _ (List.mem_append_left _ (weightsAll_mem (d := D i) ?_ hk))
     exact List.mem_map.2 ⟨i, List.mem_range.2 hi, rfl⟩))
   have hat : ∀ (k : Nat) (q : List Int), ((List.range l).map (fun i => (List.range (F i).2.1).map (F i).2.2.2.2.2))[k]? = some q -> k < l /\ q = (List.range (F k).2.1).map (F k).2.2.2.2.2 := fun k q hq => by
     rw [List.getElem?_map] at hq
     by_cases hk : k < l
     · rw [List.getElem?_range hk] at hq
       simp only [Option.map_some, Option.some.injEq] at hq
       exact ⟨hk, hq.symm⟩
     · rw [List.getElem?_eq_none (by simp; omega)] at hq
       cases hq
   refine ⟨?_, by simpa using hwl⟩
   by_cases hl0 : l = 0
   · subst hl0
     exact ⟨fun h => by simp at h, fun h => by simp at h, fun k q hq => by simp at hq, fun q hq => by simp at hq⟩
   · have hc0 := (hF 0 (by omega)).1
     have hspot : spot = none := by simpa [Addr.add] using World.cell?_spot hc0
     subst hspot
     have hlt : b < w.heap.size := by
       have := hc0
       simp [Addr.add] at this
       exact lt_of_cell' this
     refine ⟨fun _ => rfl, fun _ => hlt, fun k q hq => ?_, fun q hq => ?_⟩
     · obtain ⟨hk, rfl⟩ := hat k q hq
       obtain ⟨h1, h2, _⟩ := hF k hk
       rw [add_plain] at h1
       refine ⟨(F k).1, (F k).2.2.1, by rw [h1]; simp, fun h0 => ?_⟩
       simp only [List.length_map, List.length_range] at h0
       refine ⟨(F k).2.2.2.1, (F k).2.2.2.2.1, h2.at_ h0, h2.lt h0, fun i y hy => ?_⟩
       rw [List.getElem?_map] at hy
       by_cases hi : i < (F k).2.1
       · rw [List.getElem?_range hi] at hy
         simp only [Option.map_some, Option.some.injEq] at hy
         subst hy
         exact h2.val i hi
       · rw [List.getElem?_eq_none (by simp; omega)] at hy
         cases hy
     · obtain ⟨k, hk⟩ := List.getElem?_of_mem hq
       obtain ⟨hkl, rfl⟩ := hat k q hk
       have := hwi k hkl
       simp only [List.length_map, List.length_range]
       omega
theorem open_wd {n : Nat} {cs : List Value} {x : DataW H × List MemPlace} (h : DataW.trod enc Tryz.prog w base spare held n 30 cs = some x) (hw : ∀ k ∈ x.1.weights Tryz.prog 30, k <= reachBytes) :
   ∃ y : WD, cs = [.int .i64 y.a, .int .i64 y.b, .int .i64 y.d, .slice y.do_ y.dl y.dc, .slice y.ao y.al.length y.ac, .slice y.po y.pl y.pcp] /\ y.In w /\ y.pl * 24 <= 140737488351232 /\ y.dl * 8 <= 140737488351232 /\ y.al.length * 24 <= 140737488351232 := by
 obtain ⟨xs, m, _, rfl, hlen, hxs, hf⟩ := DataW.trod_struct Tryz.underlying30 h
 rw [cellsWorld] at hlen
 match cs, hlen, xs, hxs with
 | [c0, c1, c2, c3, c4, c5], _, [x0, x1, x2, x3, x4, x5], _ =>
   have f0 := hf 0 _ rfl
   have f1 := hf 1 _ rfl
   have f2 := hf 2 _ rfl
   have f3 := hf 3 _ rfl
   have f4 := hf 4 _ rfl
   have f5 := hf 5 _ rfl
   obtain ⟨a, ea, _, _⟩ := DataW.trod_int Tryz.underlying3 f0
   obtain ⟨bi, eb, _, _⟩ := DataW.trod_int Tryz.underlying3 f1
   obtain ⟨dr, ec, _, _⟩ := DataW.trod_int Tryz.underlying3 f2
   obtain ⟨do_, dl, dc, db, doff, Dn, e3, hdn, hdw⟩ := open_ints f3
   obtain ⟨ao, ac, ab, aoff, al, e4, haw⟩ := open_intss f4
   obtain ⟨po, len, cap, b, off, V, L, R, e5, hpt, hd⟩ := open_places f5
   simp [cellsInt, cellsInts, cellsIntss, cellsPlaces] at ea eb ec e3 e4 e5
   have hall : ∀ k, k ∈ x3.1.weights Tryz.prog 25 \/ k ∈ x4.1.weights Tryz.prog 27 \/ k ∈ x5.1.weights Tryz.prog 28 -> k <= reachBytes := fun k hk => hw k (by
     simp only [DataW.weights, Tryz.underlying30, DataW.weightsEach, List.map_cons, List.map_nil, List.mem_append]
     rcases hk with hk | hk | hk
     · right; right; right; left; exact hk
     · right; right; right; right; left; exact hk
     · right; right; right; right; right; left; exact hk)
   have h3 := hdw (fun k hk => hall k (.inl hk))
   obtain ⟨h4, h5⟩ := haw (fun k hk => hall k (.inr (.inl hk)))
   have h6 : len * 24 <= 140737488351232 := by
     rcases hd with ⟨_, rfl⟩ | ⟨el, sp, he, hl⟩
     · omega
     · have hmem : (el.length + sp.length) * 24 ∈ x5.1.weights Tryz.prog 28 := by
         simp only [DataW.weights, he, Tryz.underlying28, bytesPlace]
         simp
       have := hall _ (.inr (.inr hmem))
       simp only [reachBytes] at this
       omega
   have hts : TS w po b off len V L R := by
     rcases hpt with ⟨h1, h2, h3⟩ | ⟨ad, h1, h2⟩
     · subst h2
       exact ⟨fun h => by omega, fun h => by omega, fun i hi => by omega, fun i hi => by omega, fun i hi => by omega⟩
     · rw [h1]; exact h2
   refine ⟨⟨a, bi, dr, do_, db, doff, dl, dc, Dn, ao, ab, aoff, ac, al, po, b, off, len, cap, V, L, R⟩, by rw [ea, eb, ec, e3, e4, e5], ⟨hts, hdn, h4, by simp only; omega, by simp only; omega⟩, h6, h3, h5⟩
end
end Go.Proofs.YtaebngpoagjafaaGreat
