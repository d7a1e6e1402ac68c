/-
  OUR OWN: the program's Check; a step that is a Check.
-/
import Derived.Test.YtgbdmnjipdgmoaaGreatSz
namespace Go.Proofs.YtgbdmnjipdgmoaaGreat
open Go.RowKit

attribute [local go_sem ↓] Go.wp_at_zero Go.wp_at_succ
set_option maxRecDepth 100000 in
set_option maxHeartbeats 800000 in
theorem CheckP_any (s : ByteArray) (w : World) (c : Int × Int) (hc : Hid (cChk s = c)) :
    Calls Tryz.prog 25 #[.string s] w fun e w' => Below w.heap.size w w' ∧ e = .returned (.tuple #[.int .i64 c.1, .int .i64 c.2]) := by
  go_enter Tryz.func25, Tryz.ntmps25
  go_wp2_with fail
  refine (Read_any s _ c hc).mono ?_
  rintro e w2 ⟨hb, eo, em, ec, ro, rm, rc, rfl, _⟩
  have HB : Hid (Below w.heap.size w w2) := hb
  clear hb
  go_wp2_with fail
  go_ret2
  exact ⟨HB.out.alloc HB.out.size _, rfl⟩

set_option maxRecDepth 100000 in
set_option maxHeartbeats 800000 in
theorem text_check (oa ob oc od : Int) (s : ByteArray) (w : World) :
    Calls Tryz.prog 12 #[.agg #[.int .i64 2, .int .i64 oa, .int .i64 ob, .int .i64 oc, .int .i64 od, .string s]] w fun e w' => e = .returned (.bool true) ∧ Below w.heap.size w w' := by
  obtain ⟨c, hc⟩ : ∃ c, cChk s = c := ⟨_, rfl⟩
  have HC : Hid (cChk s = c) := hc
  have HD : Hid (chk s = c) := by show _ = _; rw [chk_eq]; exact hc
  clear hc
  obtain ⟨c1, c2⟩ := c
  have hd := fun wz => Check_any s wz
  rw [HD.out] at hd
  have HB0 : Hid (Below w.heap.size w (w.alloc (.cells #[.int .i64 2, .int .i64 oa, .int .i64 ob, .int .i64 oc, .int .i64 od, .string s] 35))) := (Below.refl _ _).alloc (Nat.le_refl _) _
  have HX0 : Hid ((w.alloc (.cells #[.int .i64 2, .int .i64 oa, .int .i64 ob, .int .i64 oc, .int .i64 od, .string s] 35)).heap[w.heap.size]? = some (.cells #[.int .i64 2, .int .i64 oa, .int .i64 ob, .int .i64 oc, .int .i64 od, .string s] 35 (0, 0))) := heap_alloc_new w _
  go_enter Tryz.func12, Tryz.ntmps12
  go_wp2_with fail
  refine (CheckP_any s _ (c1, c2) HC).mono ?_
  rintro e w1 ⟨hb1, rfl⟩
  have HB1 : Hid (Below w.heap.size w w1) := HB0.out.trans (hb1.mono HB0.out.size)
  have hx1 := (hb1.block _ (lt_of_block HX0.out)).trans HX0.out
  have x5 : w1.cell? ⟨w.heap.size, 5, none⟩ = some (.string s) := by simp [World.cell?, hx1]
  clear hb1 hx1
  go_wp2_with fail
  refine (hd _).mono ?_
  rintro e w2 ⟨hb2, rfl⟩
  have HB2 : Hid (Below w.heap.size w w2) := HB1.out.trans (hb2.mono HB1.out.size)
  clear hb2
  go_wp2_with fail
  go_ret
  exact ⟨rfl, HB2.out⟩
end Go.Proofs.YtgbdmnjipdgmoaaGreat
