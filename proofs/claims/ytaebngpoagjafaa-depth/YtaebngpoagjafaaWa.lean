/-
  OUR OWN: the contracts of the functions that only compute.
-/
import Derived.Test.YtaebngpoagjafaaRows
import Derived.Test.YtaebngpoagjafaaMath
import Derived.WalkKit
import Derived.WalkSpells
import Derived.WalkLawsBesides
namespace Go.Proofs.Ytaebngpoagjafaa
open Go.RowKit

theorem ret_int {k : IntKind} {a b : Int} (h : a = b) : Ending.returned (.int k a) = .returned (.int k b) := by rw [h]

set_option maxHeartbeats 400000 in
theorem tail_ref (n : Int) (w : World) (h0 : 0 ≤ n) (h1 : n ≤ 32) :
    Calls Try.prog 33 #[.int .i64 n] w fun e w' => e = .returned (.int .i64 (M.p2 (32 - n).toNat)) ∧ w' = w := by
  go_enter Try.func33, Try.ntmps33
  go_wp2
  go_loop [3, 4] (fun k i => ∃ j : Nat, n + j ≤ 32 ∧ i = .int .i64 (n + j) ∧ k = .int .i64 (M.p2 j)) (fun _ i => 32 - (intOf i).toNat)
  case atStart => exact ⟨0, by omega, by simp, rfl⟩
  case round =>
    obtain ⟨j, hj, rfl, rfl⟩ := hrel
    have hb := M.p2_le (j := j) (by omega)
    have hp := M.p2_pos j
    by_cases hlt : n + j < 32
    · go_wp2
      go_round
      case rel => exact ⟨j + 1, by omega, by go_num, rfl⟩
      case measure => simp [intOf]; omega
    · go_wp2
      go_ret
      exact ⟨ret_int (by congr 1; omega), rfl⟩

set_option maxHeartbeats 400000 in
theorem tail_keep (n : Int) (w : World) (h0 : 0 ≤ n) (h1 : n ≤ 32) :
    Calls Try.prog 22 #[.int .i64 n] w fun e w' => e = .returned (.int .i64 (M.p2 (32 - n).toNat)) ∧ w' = w := by
  go_enter Try.func22, Try.ntmps22
  go_wp2
  go_loop [3, 4] (fun k i => ∃ j : Nat, n + j ≤ 32 ∧ i = .int .i64 (n + j) ∧ k = .int .i64 (M.p2 j)) (fun _ i => 32 - (intOf i).toNat)
  case atStart => exact ⟨0, by omega, by simp, rfl⟩
  case round =>
    obtain ⟨j, hj, rfl, rfl⟩ := hrel
    have hb := M.p2_le (j := j) (by omega)
    have hp := M.p2_pos j
    by_cases hlt : n + j < 32
    · go_wp2
      go_round
      case rel => exact ⟨j + 1, by omega, by go_num, rfl⟩
      case measure => simp [intOf]; omega
    · go_wp2
      go_ret
      exact ⟨ret_int (by congr 1; omega), rfl⟩


theorem isAddr_any (n : Int) (w : World) :
    Calls Try.prog 32 #[.int .i64 n] w fun e w' => e = .returned (.bool (M.isA n)) ∧ w' = w := by
  by_cases h0 : 0 ≤ n
  · by_cases h1 : n < 4294967296
    · have hr : M.isA n = true := by simp [M.isA, h0, h1]
      rw [hr]; clear hr
      go_enter Try.func32, Try.ntmps32
      go_wp2
      go_ret
      exact ⟨rfl, rfl⟩
    · have hr : M.isA n = false := by simp [M.isA, h1]
      rw [hr]; clear hr
      go_enter Try.func32, Try.ntmps32
      go_wp2
      go_ret
      exact ⟨rfl, rfl⟩
  · have hr : M.isA n = false := by simp [M.isA, h0]
    rw [hr]; clear hr
    go_enter Try.func32, Try.ntmps32
    go_wp2
    go_ret
    exact ⟨rfl, rfl⟩
theorem IsAddress_any (n : Int) (w : World) :
    Calls Try.prog 19 #[.int .i64 n] w fun e w' => e = .returned (.bool (M.isA n)) ∧ w' = w := by
  by_cases h0 : 0 ≤ n
  · by_cases h1 : n < 4294967296
    · have hr : M.isA n = true := by simp [M.isA, h0, h1]
      rw [hr]; clear hr
      go_enter Try.func19, Try.ntmps19
      go_wp2
      go_ret
      exact ⟨rfl, rfl⟩
    · have hr : M.isA n = false := by simp [M.isA, h1]
      rw [hr]; clear hr
      go_enter Try.func19, Try.ntmps19
      go_wp2
      go_ret
      exact ⟨rfl, rfl⟩
  · have hr : M.isA n = false := by simp [M.isA, h0]
    rw [hr]; clear hr
    go_enter Try.func19, Try.ntmps19
    go_wp2
    go_ret
    exact ⟨rfl, rfl⟩

set_option maxHeartbeats 400000 in
theorem shared_any (a b : Int) (w : World) (a0 : 0 ≤ a) (a1 : a < 4294967296) (b0 : 0 ≤ b) (b1 : b < 4294967296) :
    Calls Try.prog 28 #[.int .i64 a, .int .i64 b] w fun e w' => e = .returned (.int .i64 (M.sh a b)) ∧ w' = w := by
  go_enter Try.func28, Try.ntmps28
  go_wp2
  go_loop [0, 1, 5] (fun x y i => ∃ (p q : Int) (k : Nat), k ≤ 32 ∧ 0 ≤ p ∧ p < 4294967296 ∧ 0 ≤ q ∧ q < 4294967296 ∧ x = .int .i64 p ∧ y = .int .i64 q ∧ i = .int .i64 k ∧ Hid (M.shN k p q = M.sh a b)) (fun _ _ i => (intOf i).toNat)
  case atStart => exact ⟨a, b, 32, by omega, a0, a1, b0, b1, rfl, rfl, rfl, rfl⟩
  case round =>
    obtain ⟨p, q, k, hk, p0, p1, q0, q1, rfl, rfl, rfl, hs⟩ := hrel
    cases k with
    | zero =>
      go_wp2
      go_ret
      exact ⟨ret_int (by rw [← hs.out]; rfl), rfl⟩
    | succ k =>
      by_cases hpq : p = q
      · subst hpq
        go_wp2
        go_ret
        exact ⟨ret_int (by rw [← hs.out]; simp [M.shN]), rfl⟩
      · have hne : (p != q) = true := by simpa using hpq
        have HS : Hid (M.shN k (p / 2) (q / 2) = M.sh a b) := by have h := hs.out; simp only [M.shN, if_neg hpq] at h; exact h
        clear hs
        go_wp2
        go_round
        case rel => exact ⟨p / 2, q / 2, k, by omega, by omega, by omega, by omega, by omega, rfl, rfl, by go_num, HS⟩
        case measure => simp [intOf]

end Go.Proofs.Ytaebngpoagjafaa
