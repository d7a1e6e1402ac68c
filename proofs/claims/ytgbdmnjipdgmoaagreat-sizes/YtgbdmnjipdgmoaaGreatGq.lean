/-
  OUR OWN: Matches' walk.
-/
import Derived.Test.YtgbdmnjipdgmoaaGreatGp
namespace Go.Proofs.YtgbdmnjipdgmoaaGreat
open Go.RowKit

set_option maxHeartbeats 400000 in
theorem matches_walk (wo so : Option Addr) (b off m wc : Nat) (A Bi Dr : Nat → Int) (Dn Al : Nat → Value) (po : Nat → Option Addr) (n c pb poff : Nat → Nat) (V L R : Nat → Nat → Int) (sb soff sn sc : Nat) (OK OA OB OC OD : Nat → Int) (OStr : Nat → ByteArray) (w : World)
    (hm : m * 96 ≤ 140737488351232) (hw : WS w wo b off m A Bi Dr Dn Al po n c pb poff V L R) (hn : sn * 56 ≤ 140737488351232) (hs : OS w so sb soff sn OK OA OB OC OD OStr)
    (hA : ∀ i, i < sn → -9223372036854775808 ≤ OA i ∧ OA i ≤ 9223372036854775807) :
    Calls Tryz.prog 3 #[.slice wo m wc, .slice so sn sc] w fun e w' => e = .returned (.bool true) ∧ Below w.heap.size w w' := by
  have HA : Hid (∀ i, i < sn → -9223372036854775808 ≤ OA i ∧ OA i ≤ 9223372036854775807) := hA
  clear hA
  go_enter Tryz.func3, Tryz.ntmps3
  go_wp2_with fail
  have hal : Below w.heap.size w (w.alloc (.cells #[.int .i64 1] 3)) := (Below.refl _ _).alloc (Nat.le_refl _) _
  have HW : Hid (WS (w.alloc (.cells #[.int .i64 1] 3)) wo b off m A Bi Dr Dn Al po n c pb poff V L R) := hw.below hal
  have HO : Hid (OS (w.alloc (.cells #[.int .i64 1] 3)) so sb soff sn OK OA OB OC OD OStr) := hs.below hal
  have hc1 : (w.alloc (.cells #[.int .i64 1] 3)).cell? ⟨w.heap.size, 0, none⟩ = some (.int .i64 1) := by simp
  have hlt : w.heap.size < (w.alloc (.cells #[.int .i64 1] 3)).heap.size := by simp
  have HAL : Hid (Below w.heap.size w (w.alloc (.cells #[.int .i64 1] 3))) := hal
  generalize w.alloc (.cells #[.int .i64 1] 3) = w1 at *
  clear hw hs hal
  have hone : ∀ i, i < 1 → w1.cell? ⟨w.heap.size, i, none⟩ = some (.int .i64 1) := fun i hi => by
    have h0 : i = 0 := by omega
    rw [h0]; exact hc1
  refine (plays_any (fun wq => wq.cell? ⟨w1.heap.size, 0, none⟩ = some (.slice wo m wc) ∧ wq.cell? ⟨w1.heap.size, 3, none⟩ = some (.slice none 0 0) ∧ wq.cell? ⟨w1.heap.size, 4, none⟩ = some (.slice none 0 0))
    wo so m wc sb soff sn sc w.heap.size 1 1 OK OA OB OC OD OStr (fun _ => 1) w1 hn (by omega) HO.out hlt hone
    ⟨by simp [st0], by simp [st0], by simp [st0]⟩ ?_ ?_ ?_).mono ?_
  · rintro wq wr ⟨h1, h2, h3⟩ hlt' hb
    exact ⟨by rw [hb.cell (p := ⟨w1.heap.size, 0, none⟩) hlt']; exact h1, by rw [hb.cell (p := ⟨w1.heap.size, 3, none⟩) hlt']; exact h2, by rw [hb.cell (p := ⟨w1.heap.size, 4, none⟩) hlt']; exact h3⟩
  · rintro wq ⟨h1, h2, h3⟩
    refine (looks_nil w1.heap.size wq h2 h3).mono ?_
    rintro e w' ⟨rfl, hww⟩
    subst w'
    exact ⟨rfl, ⟨h1, h2, h3⟩, Below.refl _ _⟩
  · rintro i wq hi ⟨h1, h2, h3⟩ hb hlt' hk
    have hk1 : OK i = 1 := by have h : 1 = OK i := by simpa [amTo] using hk
                              exact h.symm
    rw [hk1]
    refine (step_match w1.heap.size wo b off m wc A Bi Dr Dn Al po n c pb poff V L R _ _ _ _ _ wq hm (HW.out.below hb) h1 hlt' (HA.out i hi).1 (HA.out i hi).2).mono ?_
    rintro e w' ⟨rfl, hb'⟩
    exact ⟨rfl, ⟨by rw [hb'.cell (p := ⟨w1.heap.size, 0, none⟩) hlt']; exact h1, by rw [hb'.cell (p := ⟨w1.heap.size, 3, none⟩) hlt']; exact h2, by rw [hb'.cell (p := ⟨w1.heap.size, 4, none⟩) hlt']; exact h3⟩, hb'.mono hb.size⟩
  · rintro e w2 ⟨rfl, hb2⟩
    have hfin : Hid (Below w.heap.size w w2) := HAL.out.trans (hb2.mono HAL.out.size)
    clear hb2
    go_wp2_with fail
    go_ret
    exact ⟨rfl, hfin.out⟩
end Go.Proofs.YtgbdmnjipdgmoaaGreat
