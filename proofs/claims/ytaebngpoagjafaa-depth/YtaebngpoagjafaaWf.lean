/-
  OUR OWN: the contracts of Longest and Match.
-/
import Derived.Test.YtaebngpoagjafaaWe
import Derived.Test.YtaebngpoagjafaaMathb
namespace Go.Proofs.Ytaebngpoagjafaa
open Go.RowKit

theorem M.step_best (V L : Nat → Int) (a : Int) (k : Nat) (x : Int) (h : x = if L k ≤ M.sh (V k) a ∧ M.bitsTo V L a k < L k then (k : Int) else M.bestTo V L a k) : M.bestTo V L a (k + 1) = x := by rw [h]; rfl
theorem M.step_bits (V L : Nat → Int) (a : Int) (k : Nat) (x : Int) (h : x = if L k ≤ M.sh (V k) a ∧ M.bitsTo V L a k < L k then L k else M.bitsTo V L a k) : M.bitsTo V L a (k + 1) = x := by rw [h]; rfl
theorem M.step_dep (V L : Nat → Int) (a : Int) (k : Nat) (x nd : Int) (hn : M.need V L a k = nd) (h : x = if M.depTo V L a k < nd then nd else M.depTo V L a k) : M.depTo V L a (k + 1) = x := by rw [h, ← hn]; rfl
theorem val_int {a b : Int} (h : a = b) : Value.int .i64 b = .int .i64 a := by rw [h]

set_option maxHeartbeats 1000000 in
theorem Longest_any (ao : Option Addr) (b n c : Nat) (V L : Nat → Int) (a : Int) (w : World) (a0 : 0 ≤ a) (a1 : a < 4294967296) (hn : n ≤ 64) (hs : PS w ao b n V L) (hp : ∀ i, i < n → M.isP (V i) (L i) = true) :
    Calls Try.prog 21 #[.slice ao n c, .int .i64 a] w fun e w' => e = .returned (.tuple #[.int .i64 (M.bestTo V L a n), .int .i64 (M.depTo V L a n)]) ∧ Below w.heap.size w w' := by
  go_enter Try.func21, Try.ntmps21
  go_wp2
  go_loopw [6, 7, 8, 15] (fun x y z i wr => ∃ k : Nat, k ≤ n ∧ i = .int .i64 k ∧ x = .int .i64 (M.bestTo V L a k) ∧ y = .int .i64 (M.bitsTo V L a k) ∧ z = .int .i64 (M.depTo V L a k) ∧ Below w.heap.size w wr) (fun _ _ _ i _ => n - (intOf i).toNat)
  case atStart => exact ⟨0, by omega, rfl, rfl, rfl, rfl, Below.refl _ _⟩
  case round =>
    obtain ⟨k, hk, rfl, rfl, rfl, rfl, hb⟩ := hrel
    by_cases hlt : k < n
    · obtain rfl := hs.at_ (by omega)
      have hps := hs.below hb
      have hv := hps.val k hlt
      have hl := hps.len k hlt
      have hbb : b < wr.heap.size := hps.lt (by omega)
      have hR : Hid (Below w.heap.size w wr) := hb
      obtain ⟨l0, l1, v0, v1, _⟩ := M.isP_iff.1 (hp k hlt)
      have hsl := M.sh_le (V k) a
      clear hs hb hps hp
      by_cases hc : (M.sh (V k) a : Int) < L k
      · have HN : Hid (M.need V L a k = M.sh (V k) a + 1) := by show _ = _; unfold M.need; rw [if_pos hc]
        by_cases hd : M.depTo V L a k < M.sh (V k) a + 1
        all_goals
          go_wp2_with (go_at_call 28; refine (shared_any _ _ _ v0 v1 a0 a1).mono ?_; rintro e w' ⟨rfl, rfl⟩)
          go_roundw
          case rel => exact ⟨k + 1, by omega, by go_num, val_int (M.step_best _ _ _ _ _ (by rw [if_neg (by omega)])), val_int (M.step_bits _ _ _ _ _ (by rw [if_neg (by omega)])), val_int (M.step_dep _ _ _ _ _ _ HN.out (by split <;> omega)), hR.out.trans (Below.mono (B := wr.heap.size) (by repeat (first | exact Below.refl _ _ | refine below_drewN ?_ _ | refine Below.drew ?_ | refine Below.alloc ?_ (by simp) _ | refine Below.setCell ?_ (by simp) _)) hR.out.size)⟩
          case measure => simp [intOf]; omega
      · have HN : Hid (M.need V L a k = L k) := by show _ = _; unfold M.need; rw [if_neg hc]
        by_cases hd : M.depTo V L a k < L k
        all_goals
          by_cases hq : M.bitsTo V L a k < L k
          all_goals
            go_wp2_with (go_at_call 28; refine (shared_any _ _ _ v0 v1 a0 a1).mono ?_; rintro e w' ⟨rfl, rfl⟩)
            go_roundw
            case rel => exact ⟨k + 1, by omega, by go_num, val_int (M.step_best _ _ _ _ _ (by split <;> omega)), val_int (M.step_bits _ _ _ _ _ (by split <;> omega)), val_int (M.step_dep _ _ _ _ _ _ HN.out (by split <;> omega)), hR.out.trans (Below.mono (B := wr.heap.size) (by repeat (first | exact Below.refl _ _ | refine below_drewN ?_ _ | refine Below.drew ?_ | refine Below.alloc ?_ (by simp) _ | refine Below.setCell ?_ (by simp) _)) hR.out.size)⟩
            case measure => simp [intOf]; omega
    · have hkn : k = n := by omega
      subst hkn
      go_wp2
      go_ret2
      exact ⟨rfl, hb⟩

set_option maxHeartbeats 400000 in
theorem Match_no (ao : Option Addr) (b n c : Nat) (V L : Nat → Int) (a : Int) (w : World) (hn : n ≤ 9223372036854775807) (hc : n ≤ c) (hs : PS w ao b n V L) (h : M.isA a = false ∨ M.isMap V L n = false) :
    Calls Try.prog 8 #[.slice ao n c, .int .i64 a] w fun e w' => e = .returned (.tuple #[.int .i64 0, .int .i64 0, .int .i64 9]) ∧ Below w.heap.size w w' := by
  cases hA : M.isA a with
  | false =>
    clear h hs
    go_enter Try.func8, Try.ntmps8
    go_wp2_with fail
    refine (IsAddress_is false _ _ hA).mono ?_
    rintro e w' ⟨rfl, rfl⟩
    go_wp2_with fail
    go_ret3
    exact ⟨rfl, Below.refl _ _⟩
  | true =>
    have hM : M.isMap V L n = false := by simpa [hA] using h
    clear h
    go_enter Try.func8, Try.ntmps8
    go_wp2_with fail
    refine (IsAddress_is true _ _ hA).mono ?_
    rintro e w' ⟨rfl, rfl⟩
    go_wp2_with fail
    refine (IsList_any _ b _ _ V L _ hn hc hs).mono ?_
    rintro e w1 ⟨rfl, hb1⟩
    go_wp2_with fail
    go_ret3
    exact ⟨rfl, hb1⟩

set_option maxHeartbeats 400000 in
theorem Match_ok (ao : Option Addr) (b n c : Nat) (V L : Nat → Int) (a : Int) (w : World) (hc : n ≤ c) (hs : PS w ao b n V L) (hA : M.isA a = true) (hM : M.isMap V L n = true) :
    Calls Try.prog 8 #[.slice ao n c, .int .i64 a] w fun e w' => e = .returned (.tuple #[.int .i64 (M.bestTo V L a n), .int .i64 (M.depTo V L a n), .int .i64 0]) ∧ Below w.heap.size w w' := by
  obtain ⟨a0, a1⟩ := M.isA_iff.1 hA
  have hm : n ≤ 64 ∧ M.okTo V L n = true := by simpa [M.isMap] using hM
  have hP : Hid (∀ i, i < n → M.isP (V i) (L i) = true) := fun i hi => (M.okTo_iff.1 hm.2 i hi).1
  obtain ⟨h64, _⟩ := hm
  go_enter Try.func8, Try.ntmps8
  go_wp2_with fail
  refine (IsAddress_is true _ _ hA).mono ?_
  rintro e w' ⟨rfl, rfl⟩
  go_wp2_with fail
  refine (IsList_any _ b _ _ V L _ (by omega) hc hs).mono ?_
  rintro e w1 ⟨rfl, hb1⟩
  have hs1 := hs.below hb1
  go_wp2_with fail
  refine (Longest_any _ b _ _ V L _ _ a0 a1 h64 hs1 hP.out).mono ?_
  rintro e w2 ⟨rfl, hb2⟩
  go_wp2_with fail
  go_ret3
  exact ⟨rfl, hb1.trans (hb2.mono hb1.size)⟩
end Go.Proofs.Ytaebngpoagjafaa
