/-
  OUR OWN: Sizes' walk.
-/
import Derived.Test.YtgbdmnjipdgmoaaGreatKda
import Derived.Test.YtgbdmnjipdgmoaaGreatGs
namespace Go.Proofs.YtgbdmnjipdgmoaaGreat
open Go.RowKit

set_option maxRecDepth 100000 in
set_option maxHeartbeats 800000 in
theorem step_size (SB : Nat) (oa ob oc od : Int) (os : ByteArray) (w : World) :
    Calls Tryz.prog 8 #[.pointer (some ⟨SB, 0, none⟩), .agg #[.int .i64 3, .int .i64 oa, .int .i64 ob, .int .i64 oc, .int .i64 od, .string os]] w fun e w' => e = .returned (.bool true) ∧ Below w.heap.size w w' := by
  have HB0 : Hid (Below w.heap.size w (w.alloc (.cells #[.int .i64 3, .int .i64 oa, .int .i64 ob, .int .i64 oc, .int .i64 od, .string os] 35))) := (Below.refl _ _).alloc (Nat.le_refl _) _
  go_enter Tryz.func8, Tryz.ntmps8
  go_wp2_with fail
  refine (text_size oa ob oc od os _).mono ?_
  rintro e w2 ⟨rfl, hb2⟩
  have HB2 : Hid (Below w.heap.size w w2) := HB0.out.trans (hb2.mono HB0.out.size)
  clear hb2
  go_wp2_with fail
  go_ret
  exact ⟨rfl, HB2.out⟩

set_option maxHeartbeats 400000 in
theorem sizes_walk (wo so : Option Addr) (m wc sb soff sn sc : Nat) (OK OA OB OC OD : Nat → Int) (OStr : Nat → ByteArray) (w : World)
    (hn : sn * 56 ≤ 140737488351232) (hs : OS w so sb soff sn OK OA OB OC OD OStr) :
    Calls Tryz.prog 5 #[.slice wo m wc, .slice so sn sc] w fun e w' => e = .returned (.bool true) ∧ Below w.heap.size w w' := by
  go_enter Tryz.func5, Tryz.ntmps5
  go_wp2_with fail
  have hal : Below w.heap.size w (w.alloc (.cells #[.int .i64 3] 3)) := (Below.refl _ _).alloc (Nat.le_refl _) _
  have HO : Hid (OS (w.alloc (.cells #[.int .i64 3] 3)) so sb soff sn OK OA OB OC OD OStr) := hs.below hal
  have hc1 : (w.alloc (.cells #[.int .i64 3] 3)).cell? ⟨w.heap.size, 0, none⟩ = some (.int .i64 3) := by simp
  have hlt : w.heap.size < (w.alloc (.cells #[.int .i64 3] 3)).heap.size := by simp
  have HAL : Hid (Below w.heap.size w (w.alloc (.cells #[.int .i64 3] 3))) := hal
  generalize w.alloc (.cells #[.int .i64 3] 3) = w1 at *
  clear hs hal
  have hone : ∀ i, i < 1 → w1.cell? ⟨w.heap.size, i, none⟩ = some (.int .i64 3) := fun i hi => by
    have h0 : i = 0 := by omega
    rw [h0]; exact hc1
  refine (plays_any (fun wq => wq.cell? ⟨w1.heap.size, 0, none⟩ = some (.slice wo m wc) ∧ wq.cell? ⟨w1.heap.size, 3, none⟩ = some (.slice none 0 0) ∧ wq.cell? ⟨w1.heap.size, 4, none⟩ = some (.slice none 0 0))
    wo so m wc sb soff sn sc w.heap.size 1 1 OK OA OB OC OD OStr (fun _ => 3) w1 hn (by omega) HO.out hlt hone
    ⟨by simp [st0], by simp [st0], by simp [st0]⟩ ?_ ?_ ?_).mono ?_
  · rintro wq wr ⟨h1, h2, h3⟩ hlt' hb
    exact ⟨by rw [hb.cell (p := ⟨w1.heap.size, 0, none⟩) hlt']; exact h1, by rw [hb.cell (p := ⟨w1.heap.size, 3, none⟩) hlt']; exact h2, by rw [hb.cell (p := ⟨w1.heap.size, 4, none⟩) hlt']; exact h3⟩
  · rintro wq ⟨h1, h2, h3⟩
    refine (looks_nil w1.heap.size wq h2 h3).mono ?_
    rintro e w' ⟨rfl, hww⟩
    subst w'
    exact ⟨rfl, ⟨h1, h2, h3⟩, Below.refl _ _⟩
  · rintro i wq hi ⟨h1, h2, h3⟩ hb hlt' hk
    have hk1 : OK i = 3 := by have h : 3 = OK i := by simpa [amTo] using hk
                              exact h.symm
    rw [hk1]
    refine (step_size w1.heap.size _ _ _ _ _ wq).mono ?_
    rintro e w' ⟨rfl, hb'⟩
    exact ⟨rfl, ⟨by rw [hb'.cell (p := ⟨w1.heap.size, 0, none⟩) hlt']; exact h1, by rw [hb'.cell (p := ⟨w1.heap.size, 3, none⟩) hlt']; exact h2, by rw [hb'.cell (p := ⟨w1.heap.size, 4, none⟩) hlt']; exact h3⟩, hb'.mono hb.size⟩
  · rintro e w2 ⟨rfl, hb2⟩
    have hfin : Hid (Below w.heap.size w w2) := HAL.out.trans (hb2.mono HAL.out.size)
    clear hb2
    go_wp2_with fail
    go_ret
    exact ⟨rfl, hfin.out⟩
end Go.Proofs.YtgbdmnjipdgmoaaGreat
