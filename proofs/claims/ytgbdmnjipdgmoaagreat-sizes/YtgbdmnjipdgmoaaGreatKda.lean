/-
  OUR OWN: a step that is a Size.
-/
import Derived.Test.YtgbdmnjipdgmoaaGreatTf
namespace Go.Proofs.YtgbdmnjipdgmoaaGreat
open Go.RowKit

attribute [local go_sem ↓] Go.wp_at_zero Go.wp_at_succ
set_option maxRecDepth 100000 in
set_option maxHeartbeats 800000 in
theorem text_size (oa ob oc od : Int) (s : ByteArray) (w : World) :
    Calls Tryz.prog 12 #[.agg #[.int .i64 3, .int .i64 oa, .int .i64 ob, .int .i64 oc, .int .i64 od, .string s]] w fun e w' => e = .returned (.bool true) ∧ Below w.heap.size w w' := by
  obtain ⟨c, hc⟩ : ∃ c, cSz s = c := ⟨_, rfl⟩
  have hp := fun wz => SizeP_any s wz
  have hd := fun wz => SizeR_any s wz
  rw [hc] at hp hd
  obtain ⟨c1, c2⟩ := c
  clear hc
  have HB0 : Hid (Below w.heap.size w (w.alloc (.cells #[.int .i64 3, .int .i64 oa, .int .i64 ob, .int .i64 oc, .int .i64 od, .string s] 35))) := (Below.refl _ _).alloc (Nat.le_refl _) _
  have HX0 : Hid ((w.alloc (.cells #[.int .i64 3, .int .i64 oa, .int .i64 ob, .int .i64 oc, .int .i64 od, .string s] 35)).heap[w.heap.size]? = some (.cells #[.int .i64 3, .int .i64 oa, .int .i64 ob, .int .i64 oc, .int .i64 od, .string s] 35 (0, 0))) := heap_alloc_new w _
  go_enter Tryz.func12, Tryz.ntmps12
  go_wp2_with fail
  refine (hp _).mono ?_
  rintro e w1 ⟨hb1, rfl⟩
  have HB1 : Hid (Below w.heap.size w w1) := HB0.out.trans (hb1.mono HB0.out.size)
  have hx1 := (hb1.block _ (lt_of_block HX0.out)).trans HX0.out
  have x5 : w1.cell? ⟨w.heap.size, 5, none⟩ = some (.string s) := by simp [World.cell?, hx1]
  clear hb1 hx1
  go_wp2_with fail
  refine (hd _).mono ?_
  rintro e w2 ⟨hb2, rfl⟩
  have HB2 : Hid (Below w.heap.size w w2) := HB1.out.trans (hb2.mono HB1.out.size)
  clear hb2
  go_wp2_with fail
  go_ret
  exact ⟨rfl, HB2.out⟩
end Go.Proofs.YtgbdmnjipdgmoaaGreat
