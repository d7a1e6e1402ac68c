/-
  OUR OWN: the contract of Placed.
-/
import Derived.Test.YtaebngpoagjafaaWg
namespace Go.Proofs.Ytaebngpoagjafaa
open Go.RowKit

/-- Are the first n regions regions? -/
def regTo (R : Nat → Int) : Nat → Bool
  | 0 => true
  | n + 1 => regTo R n && (decide (0 ≤ R n) && decide (R n ≤ 99))
theorem regTo_iff {R : Nat → Int} {n : Nat} : regTo R n = true ↔ ∀ k, k < n → 0 ≤ R k ∧ R k ≤ 99 := by
  induction n with
  | zero => simp [regTo]
  | succ n ih =>
    simp only [regTo, Bool.and_eq_true, ih, decide_eq_true_eq]
    constructor
    · rintro ⟨h, h1⟩ k hk
      by_cases hi : k = n
      · subst hi; exact h1
      · exact h k (by omega)
    · intro h
      exact ⟨fun k hk => h k (by omega), h n (by omega)⟩
theorem regTo_bad {R : Nat → Int} {n k : Nat} (hk : k < n) (h : ¬ (0 ≤ R k ∧ R k ≤ 99)) : regTo R n = false := by
  rw [Bool.eq_false_iff]
  intro hm
  exact h (regTo_iff.1 hm k hk)

set_option maxHeartbeats 400000 in
theorem Placed_any (ao : Option Addr) (b off n c : Nat) (V L R : Nat → Int) (w : World) (hn : n * 24 ≤ 140737488351232) (hs : TS w ao b off n V L R) :
    Calls Try.prog 7 #[.slice ao n c] w fun e w' => e = .returned (.bool (regTo R n && M.isMap V L n)) ∧ Below w.heap.size w w' := by
  go_enter Try.func7, Try.ntmps7
  go_wp2
  go_loop [3] (fun i => ∃ k : Nat, k ≤ n ∧ i = .int .i64 k ∧ regTo R k = true) (fun i => n - (intOf i).toNat)
  case atStart => exact ⟨0, by omega, rfl, rfl⟩
  case round =>
    obtain ⟨k, hk, rfl, hf⟩ := hrel
    by_cases hlt : k < n
    · obtain rfl := hs.at_ (by omega)
      have hv := hs.reg k hlt
      have hbb : b < w.heap.size := hs.lt (by omega)
      clear hs
      by_cases h1 : R k < 0
      · have ht : Hid ((regTo R n && M.isMap V L n) = false) := by show _ = _; rw [regTo_bad hlt (by omega)]; rfl
        go_wp2
        go_ret
        exact ⟨ret_bool ht.out.symm, Below.refl _ _⟩
      · by_cases h2 : 99 < R k
        · have ht : Hid ((regTo R n && M.isMap V L n) = false) := by show _ = _; rw [regTo_bad hlt (by omega)]; rfl
          go_wp2
          go_ret
          exact ⟨ret_bool ht.out.symm, Below.refl _ _⟩
        · have HF : Hid (regTo R (k + 1) = true) := by
            have g1 : 0 ≤ R k := by omega
            have g2 : R k ≤ 99 := by omega
            show _ = _; simp [regTo, hf, g1, g2]
          go_wp2
          go_round
          case rel => exact ⟨k + 1, by omega, by go_num, HF⟩
          case measure => simp [intOf]; omega
    · have hkn : k = n := by omega
      subst hkn
      have ht : Hid ((regTo R k && M.isMap V L k) = M.isMap V L k) := by show _ = _; rw [hf]; rfl
      go_wp2_with fail
      refine (prefixes_any _ b off _ _ V L R _ hn hs).mono ?_
      rintro e w1 ⟨⟨v, rfl, hown⟩, hb1⟩
      obtain ⟨ao', b', c', rfl, hc', _, hps⟩ := ps_of_owns hown
      clear hown
      go_wp2_with fail
      refine (areMap_any _ b' _ _ V L _ (by omega) hps).mono ?_
      rintro e w2 ⟨rfl, hb2⟩
      go_wp2_with fail
      go_ret
      exact ⟨ret_bool ht.out.symm, hb1.trans (hb2.mono hb1.size)⟩
end Go.Proofs.Ytaebngpoagjafaa
