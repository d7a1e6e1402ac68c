/-
  OUR OWN: the contracts of isPrefix, IsPrefix.
-/
import Derived.Test.YtgbdmnjipdgmoaaGreatGa
import Derived.Deep.QuietTactic
import Derived.BigQuiet
namespace Go.Proofs.YtgbdmnjipdgmoaaGreat
open Go.RowKit

theorem M.wrap64_in (n : Int) (h : -9223372036854775808 ≤ n ∧ n ≤ 9223372036854775807) : wrap64 n = n := by unfold wrap64; omega
theorem bel_drewN {B : Nat} {a w : World} (h : Below B a w) (n : Nat) : Below B a (w.drewN n) := ⟨h.os, h.tape, h.output, h.size, h.block⟩

theorem isAddr_is (b : Bool) (v : Int) (w : World) (h : M.isA v = b) : Calls Tryz.prog 59 #[.int .i64 v] w fun e w' => e = .returned (.bool b) ∧ w' = w := by
  rw [← h]; exact isAddr_any v w
theorem IsAddress_is (b : Bool) (v : Int) (w : World) (h : M.isA v = b) : Calls Tryz.prog 55 #[.int .i64 v] w fun e w' => e = .returned (.bool b) ∧ w' = w := by
  rw [← h]; exact IsAddress_any v w

theorem box_end (w : World) (o : Obj) (m : Nat) : Below w.heap.size w ((w.alloc o).drewN m) := bel_drewN ((Below.refl _ _).alloc (Nat.le_refl _) _) m

set_option maxHeartbeats 400000 in
theorem isPrefix_any (v n : Int) (w : World) :
    Calls Tryz.prog 76 #[.agg #[.int .i64 v, .int .i64 n]] w fun e w' => e = .returned (.bool (M.isP v n)) ∧ Below w.heap.size w w' := by
  by_cases h0 : 0 ≤ n
  · by_cases h1 : n ≤ 32
    · have hp := M.p2_pos (32 - n).toNat
      have hq := M.p2_le (j := (32 - n).toNat) (by omega)
      cases hA : M.isA v with
      | true =>
        have hr : M.isP v n = (v % M.p2 (32 - n).toNat == 0) := by simp [M.isP, h0, h1, hA, BEq.beq]
        rw [hr]; clear hr
        obtain ⟨v0, v1⟩ := M.isA_iff.1 hA
        go_enter Tryz.func76, Tryz.ntmps76
        go_wp2
        go_quiet ((first | (go_at_call 59; exact Calls.quiet_of_same (isAddr_is _ _ _ hA)) | (go_at_call 104; exact Calls.quiet_of_same (tail_ref _ _ h0 h1))))
        go_wp2
        go_ret
        exact ⟨rfl, box_end _ _ _⟩
      | false =>
        have hr : M.isP v n = false := by simp [M.isP, hA]
        rw [hr]; clear hr
        go_enter Tryz.func76, Tryz.ntmps76
        go_wp2
        go_quiet ((go_at_call 59; exact Calls.quiet_of_same (isAddr_is _ _ _ hA)))
        go_wp2
        go_ret
        exact ⟨rfl, box_end _ _ _⟩
    · have hr : M.isP v n = false := by simp [M.isP, h1]
      rw [hr]; clear hr
      have hd : decide (n ≤ 32) = false := decide_eq_false h1
      go_enter Tryz.func76, Tryz.ntmps76
      go_wp2
      go_quiet (fail)
      go_wp2
      go_ret
      exact ⟨rfl, box_end _ _ _⟩
  · have hr : M.isP v n = false := by simp [M.isP, h0]
    rw [hr]; clear hr
    have hd : decide (0 ≤ n) = false := decide_eq_false h0
    go_enter Tryz.func76, Tryz.ntmps76
    go_wp2
    go_quiet (fail)
    go_wp2
    go_ret
    exact ⟨rfl, box_end _ _ _⟩

theorem M.shifts (v n : Int) (h0 : 0 ≤ n) (h1 : n ≤ 32) (hA : M.isA v = true) : M.isP v n = (wrap64 (v / 2 ^ (32 - n).toNat * 2 ^ (32 - n).toNat) == v) := by
  obtain ⟨v0, v1⟩ := M.isA_iff.1 hA
  rw [← M.p2_eq]
  have hp := M.p2_pos (32 - n).toNat
  generalize hm : M.p2 (32 - n).toNat = m at *
  have e := Int.emod_add_mul_ediv v m
  have e2 := Int.mul_comm (v / m) m
  have a0 := Int.emod_nonneg v (b := m) (by omega)
  have a1 : 0 ≤ v / m := Int.ediv_nonneg v0 (by omega)
  have a2 : 0 ≤ m * (v / m) := Int.mul_nonneg (by omega) a1
  rw [M.wrap64_in _ (by omega)]
  have e3 : (v % m = 0) ↔ v / m * m = v := by omega
  simp only [M.isP, hm, hA, h0, h1, decide_true, Bool.true_and]
  rw [Bool.eq_iff_iff]; simp [e3]

set_option maxHeartbeats 400000 in
theorem IsPrefix_any (v n : Int) (w : World) :
    Calls Tryz.prog 73 #[.agg #[.int .i64 v, .int .i64 n]] w fun e w' => e = .returned (.bool (M.isP v n)) ∧ Below w.heap.size w w' := by
  by_cases h0 : 0 ≤ n
  · by_cases h1 : n ≤ 32
    · have hp := M.p2_pos (32 - n).toNat
      have hq := M.p2_le (j := (32 - n).toNat) (by omega)
      cases hA : M.isA v with
      | true =>
        obtain ⟨v0, v1⟩ := M.isA_iff.1 hA
        have hr : M.isP v n = (wrap64 (v / 2 ^ (32 - n).toNat * 2 ^ (32 - n).toNat) == v) := M.shifts v n h0 h1 hA
        rw [hr]; clear hr
        go_enter Tryz.func73, Tryz.ntmps73
        go_wp2
        go_quiet ((go_at_call 55; exact Calls.quiet_of_same (IsAddress_is _ _ _ hA)))
        go_wp2
        go_ret
        exact ⟨rfl, box_end _ _ _⟩
      | false =>
        have hr : M.isP v n = false := by simp [M.isP, hA]
        rw [hr]; clear hr
        go_enter Tryz.func73, Tryz.ntmps73
        go_wp2
        go_quiet ((go_at_call 55; exact Calls.quiet_of_same (IsAddress_is _ _ _ hA)))
        go_wp2
        go_ret
        exact ⟨rfl, box_end _ _ _⟩
    · have hr : M.isP v n = false := by simp [M.isP, h1]
      rw [hr]; clear hr
      go_enter Tryz.func73, Tryz.ntmps73
      go_wp2
      go_ret
      exact ⟨rfl, (Below.refl _ _).alloc (Nat.le_refl _) _⟩
  · have hr : M.isP v n = false := by simp [M.isP, h0]
    rw [hr]; clear hr
    go_enter Tryz.func73, Tryz.ntmps73
    go_wp2
    go_ret
    exact ⟨rfl, (Below.refl _ _).alloc (Nat.le_refl _) _⟩

end Go.Proofs.YtgbdmnjipdgmoaaGreat
