/-
  OUR OWN: the contracts of joined, matches, address, isPrefix, IsPrefix.
-/
import Derived.Test.YtaebngpoagjafaaWa
import Derived.Deep.QuietTactic
import Derived.BigQuiet
namespace Go.Proofs.Ytaebngpoagjafaa
open Go.RowKit

theorem M.wrap64_in (n : Int) (h : -9223372036854775808 ≤ n ∧ n ≤ 9223372036854775807) : wrap64 n = n := by unfold wrap64; omega
theorem below_drewN {B : Nat} {a w : World} (h : Below B a w) (n : Nat) : Below B a (w.drewN n) := ⟨h.os, h.tape, h.output, h.size, h.block⟩

set_option maxHeartbeats 400000 in
theorem joined_any (a b n : Int) (w : World) (a0 : 0 ≤ a) (a1 : a < 4294967296) (b0 : 0 ≤ b) (b1 : b < 4294967296) (n0 : 0 ≤ n) (n1 : n ≤ 32) :
    Calls Try.prog 10 #[.int .i64 a, .int .i64 b, .int .i64 n] w fun e w' => e = .returned (.int .i64 (M.join a b n)) ∧ ∃ m, w' = w.drewN m := by
  have hp := M.p2_pos (32 - n).toNat
  have hq := M.p2_le (j := (32 - n).toNat) (by omega)
  have ha := Int.emod_nonneg a (b := M.p2 (32 - n).toNat) (by omega)
  have hb := Int.emod_nonneg b (b := M.p2 (32 - n).toNat) (by omega)
  have la := Int.emod_lt_of_pos a hp
  have lb := Int.emod_lt_of_pos b hp
  go_enter Try.func10, Try.ntmps10
  go_wp2
  go_quiet ((go_at_call 22; exact Calls.quiet_of_same (tail_keep _ _ n0 n1)))
  go_wp2
  go_ret
  exact ⟨ret_int rfl, _, rfl⟩

theorem isAddr_is (b : Bool) (v : Int) (w : World) (h : M.isA v = b) : Calls Try.prog 32 #[.int .i64 v] w fun e w' => e = .returned (.bool b) ∧ w' = w := by
  rw [← h]; exact isAddr_any v w
theorem IsAddress_is (b : Bool) (v : Int) (w : World) (h : M.isA v = b) : Calls Try.prog 19 #[.int .i64 v] w fun e w' => e = .returned (.bool b) ∧ w' = w := by
  rw [← h]; exact IsAddress_any v w

theorem box_end (w : World) (o : Obj) (m : Nat) : Below w.heap.size w ((w.alloc o).drewN m) := below_drewN ((Below.refl _ _).alloc (Nat.le_refl _) _) m

set_option maxHeartbeats 400000 in
theorem isPrefix_any (v n : Int) (w : World) :
    Calls Try.prog 25 #[.agg #[.int .i64 v, .int .i64 n]] w fun e w' => e = .returned (.bool (M.isP v n)) ∧ Below w.heap.size w w' := by
  by_cases h0 : 0 ≤ n
  · by_cases h1 : n ≤ 32
    · have hp := M.p2_pos (32 - n).toNat
      have hq := M.p2_le (j := (32 - n).toNat) (by omega)
      cases hA : M.isA v with
      | true =>
        have hr : M.isP v n = (v % M.p2 (32 - n).toNat == 0) := by simp [M.isP, h0, h1, hA, BEq.beq]
        rw [hr]; clear hr
        obtain ⟨v0, v1⟩ := M.isA_iff.1 hA
        go_enter Try.func25, Try.ntmps25
        go_wp2
        go_quiet ((first | (go_at_call 32; exact Calls.quiet_of_same (isAddr_is _ _ _ hA)) | (go_at_call 33; exact Calls.quiet_of_same (tail_ref _ _ h0 h1))))
        go_wp2
        go_ret
        exact ⟨rfl, box_end _ _ _⟩
      | false =>
        have hr : M.isP v n = false := by simp [M.isP, hA]
        rw [hr]; clear hr
        go_enter Try.func25, Try.ntmps25
        go_wp2
        go_quiet ((go_at_call 32; exact Calls.quiet_of_same (isAddr_is _ _ _ hA)))
        go_wp2
        go_ret
        exact ⟨rfl, box_end _ _ _⟩
    · have hr : M.isP v n = false := by simp [M.isP, h1]
      rw [hr]; clear hr
      have hd : decide (n ≤ 32) = false := decide_eq_false h1
      go_enter Try.func25, Try.ntmps25
      go_wp2
      go_quiet (fail)
      go_wp2
      go_ret
      exact ⟨rfl, box_end _ _ _⟩
  · have hr : M.isP v n = false := by simp [M.isP, h0]
    rw [hr]; clear hr
    have hd : decide (0 ≤ n) = false := decide_eq_false h0
    go_enter Try.func25, Try.ntmps25
    go_wp2
    go_quiet (fail)
    go_wp2
    go_ret
    exact ⟨rfl, box_end _ _ _⟩

theorem M.shifts (v n : Int) (h0 : 0 ≤ n) (h1 : n ≤ 32) (hA : M.isA v = true) : M.isP v n = (wrap64 (v / 2 ^ (32 - n).toNat * 2 ^ (32 - n).toNat) == v) := by
  obtain ⟨v0, v1⟩ := M.isA_iff.1 hA
  rw [← M.p2_eq]
  have hp := M.p2_pos (32 - n).toNat
  generalize hm : M.p2 (32 - n).toNat = m at *
  have e := Int.emod_add_mul_ediv v m
  have e2 := Int.mul_comm (v / m) m
  have a0 := Int.emod_nonneg v (b := m) (by omega)
  have a1 : 0 ≤ v / m := Int.ediv_nonneg v0 (by omega)
  have a2 : 0 ≤ m * (v / m) := Int.mul_nonneg (by omega) a1
  rw [M.wrap64_in _ (by omega)]
  have e3 : (v % m = 0) ↔ v / m * m = v := by omega
  simp only [M.isP, hm, hA, h0, h1, decide_true, Bool.true_and]
  rw [Bool.eq_iff_iff]; simp [e3]

set_option maxHeartbeats 400000 in
theorem IsPrefix_any (v n : Int) (w : World) :
    Calls Try.prog 26 #[.agg #[.int .i64 v, .int .i64 n]] w fun e w' => e = .returned (.bool (M.isP v n)) ∧ Below w.heap.size w w' := by
  by_cases h0 : 0 ≤ n
  · by_cases h1 : n ≤ 32
    · have hp := M.p2_pos (32 - n).toNat
      have hq := M.p2_le (j := (32 - n).toNat) (by omega)
      cases hA : M.isA v with
      | true =>
        obtain ⟨v0, v1⟩ := M.isA_iff.1 hA
        have hr : M.isP v n = (wrap64 (v / 2 ^ (32 - n).toNat * 2 ^ (32 - n).toNat) == v) := M.shifts v n h0 h1 hA
        rw [hr]; clear hr
        go_enter Try.func26, Try.ntmps26
        go_wp2
        go_quiet ((go_at_call 19; exact Calls.quiet_of_same (IsAddress_is _ _ _ hA)))
        go_wp2
        go_ret
        exact ⟨rfl, box_end _ _ _⟩
      | false =>
        have hr : M.isP v n = false := by simp [M.isP, hA]
        rw [hr]; clear hr
        go_enter Try.func26, Try.ntmps26
        go_wp2
        go_quiet ((go_at_call 19; exact Calls.quiet_of_same (IsAddress_is _ _ _ hA)))
        go_wp2
        go_ret
        exact ⟨rfl, box_end _ _ _⟩
    · have hr : M.isP v n = false := by simp [M.isP, h1]
      rw [hr]; clear hr
      go_enter Try.func26, Try.ntmps26
      go_wp2
      go_ret
      exact ⟨rfl, (Below.refl _ _).alloc (Nat.le_refl _) _⟩
  · have hr : M.isP v n = false := by simp [M.isP, h0]
    rw [hr]; clear hr
    go_enter Try.func26, Try.ntmps26
    go_wp2
    go_ret
    exact ⟨rfl, (Below.refl _ _).alloc (Nat.le_refl _) _⟩

set_option maxHeartbeats 400000 in
theorem matches_any (v n a : Int) (w : World) (a0 : 0 ≤ a) (a1 : a < 4294967296) (n0 : 0 ≤ n) (n1 : n ≤ 32) :
    Calls Try.prog 9 #[.agg #[.int .i64 v, .int .i64 n], .int .i64 a] w fun e w' => e = .returned (.bool (a - a % M.p2 (32 - n).toNat == v)) ∧ Below w.heap.size w w' := by
  have hp := M.p2_pos (32 - n).toNat
  have hq := M.p2_le (j := (32 - n).toNat) (by omega)
  have ha := Int.emod_nonneg a (b := M.p2 (32 - n).toNat) (by omega)
  have la := Int.emod_lt_of_pos a hp
  go_enter Try.func9, Try.ntmps9
  go_wp2
  go_quiet ((go_at_call 22; exact Calls.quiet_of_same (tail_keep _ _ n0 n1)))
  go_wp2
  go_ret
  exact ⟨rfl, box_end _ _ _⟩

set_option maxHeartbeats 400000 in
theorem pick_big (c : Int) (w : World) (c0 : -9223372036854775808 ≤ c) (c1 : c ≤ 9223372036854775807) :
    Calls Try.prog 16 #[.int .i64 c, .int .i64 4294967296] w fun e w' => (∃ a, e = .returned (.int .i64 a) ∧ 0 ≤ a ∧ a < 4294967296) ∧ w' = w := by
  by_cases h : c < 0
  · have hm : 0 ≤ -(c + 1).tmod 4294967296 ∧ -(c + 1).tmod 4294967296 < 4294967296 := by
      rw [← Int.neg_tmod, Int.tmod_eq_emod_of_nonneg (by omega)]; omega
    go_enter Try.func16, Try.ntmps16
    go_wp2
    go_ret
    exact ⟨⟨_, rfl, by omega, by omega⟩, rfl⟩
  · go_enter Try.func16, Try.ntmps16
    go_wp2
    go_ret
    exact ⟨⟨_, rfl, by omega, by omega⟩, rfl⟩

set_option maxHeartbeats 400000 in
theorem address_any (c : Int) (w : World) (c0 : -9223372036854775808 ≤ c) (c1 : c ≤ 9223372036854775807) :
    Calls Try.prog 6 #[.int .i64 c] w fun e w' => (∃ a, e = .returned (.int .i64 a) ∧ 0 ≤ a ∧ a < 4294967296) ∧ w' = w := by
  go_enter Try.func6, Try.ntmps6
  go_wp2_with (go_at_call 16; refine (pick_big _ _ c0 c1).mono ?_; rintro e w' ⟨⟨a, rfl, a0, a1⟩, rfl⟩)
  go_ret
  exact ⟨⟨a, rfl, a0, a1⟩, rfl⟩
end Go.Proofs.Ytaebngpoagjafaa
