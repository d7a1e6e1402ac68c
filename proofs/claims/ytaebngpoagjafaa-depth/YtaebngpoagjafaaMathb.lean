/-
  OUR OWN: the longest match and its depth, step by step; what they are.
-/
import Derived.Test.YtaebngpoagjafaaMath
namespace Go.Proofs.Ytaebngpoagjafaa
namespace M

section
variable (V L : Nat → Int) (a : Int)

/-- The length, and the index, of the longest match among the first prefixes; -1: none. -/
def bitsTo : Nat → Int
  | 0 => -1
  | i + 1 => if L i ≤ sh (V i) a ∧ bitsTo i < L i then L i else bitsTo i
def bestTo : Nat → Int
  | 0 => -1
  | i + 1 => if L i ≤ sh (V i) a ∧ bitsTo V L a i < L i then i else bestTo i
/-- How many bits prefix i wants. -/
def need (i : Nat) : Int := if sh (V i) a < L i then sh (V i) a + 1 else L i
def depTo : Nat → Int
  | 0 => 0
  | i + 1 => if depTo i < need V L a i then need V L a i else depTo i
end

theorem need_le {V L : Nat → Int} {a : Int} {i : Nat} (h : L i ≤ 32) : need V L a i ≤ 32 := by unfold need; split <;> omega
theorem depTo_pos {V L : Nat → Int} {a : Int} {n : Nat} : 0 ≤ depTo V L a n := by
  induction n with
  | zero => simp [depTo]
  | succ n ih => simp only [depTo]; split <;> omega
theorem depTo_le {V L : Nat → Int} {a : Int} {n : Nat} (h : ∀ i, i < n → L i ≤ 32) : depTo V L a n ≤ 32 := by
  induction n with
  | zero => simp [depTo]
  | succ n ih =>
    have h1 := ih (fun i hi => h i (by omega))
    have h2 := need_le (V := V) (a := a) (h n (by omega))
    simp only [depTo]; split <;> omega
theorem need_le_dep {V L : Nat → Int} {a : Int} {n i : Nat} (hi : i < n) : need V L a i ≤ depTo V L a n := by
  induction n with
  | zero => omega
  | succ n ih =>
    by_cases h : i = n
    · subst h; simp only [depTo]; split <;> omega
    · have := ih (by omega); simp only [depTo]; split <;> omega
theorem dep_is {V L : Nat → Int} {a : Int} {n : Nat} : depTo V L a n = 0 ∨ ∃ i, i < n ∧ need V L a i = depTo V L a n := by
  induction n with
  | zero => left; rfl
  | succ n ih =>
    simp only [depTo]
    split
    · exact .inr ⟨n, by omega, rfl⟩
    · rcases ih with h | ⟨i, hi, h⟩
      · exact .inl h
      · exact .inr ⟨i, by omega, h⟩

/-- Both at once: none matches, or the best one does and none is longer. -/
theorem best_is {V L : Nat → Int} {a : Int} {n : Nat} (h0 : ∀ i, i < n → 0 ≤ L i) :
    (bestTo V L a n = -1 ∧ bitsTo V L a n = -1 ∧ ∀ i, i < n → ¬ L i ≤ sh (V i) a) ∨
    (∃ k : Nat, k < n ∧ bestTo V L a n = k ∧ bitsTo V L a n = L k ∧ L k ≤ sh (V k) a ∧ ∀ i, i < n → L i ≤ sh (V i) a → L i ≤ L k) := by
  induction n with
  | zero => left; exact ⟨rfl, rfl, fun i hi => by omega⟩
  | succ n ih =>
    have hn := h0 n (by omega)
    simp only [bestTo, bitsTo]
    rcases ih (fun i hi => h0 i (by omega)) with ⟨h1, h2, h3⟩ | ⟨k, hk, h1, h2, h3, h4⟩
    · rw [h2]
      by_cases hc : L n ≤ sh (V n) a
      · right
        refine ⟨n, by omega, by rw [if_pos ⟨hc, by omega⟩], by rw [if_pos ⟨hc, by omega⟩], hc, fun i hi hm => ?_⟩
        by_cases hin : i = n
        · subst hin; omega
        · exact absurd hm (h3 i (by omega))
      · left
        refine ⟨by rw [if_neg (by omega)]; exact h1, by rw [if_neg (by omega)], fun i hi => ?_⟩
        by_cases hin : i = n
        · subst hin; exact hc
        · exact h3 i (by omega)
    · right
      rw [h2]
      by_cases hc : L n ≤ sh (V n) a ∧ L k < L n
      · refine ⟨n, by omega, by rw [if_pos hc], by rw [if_pos hc], hc.1, fun i hi hm => ?_⟩
        by_cases hin : i = n
        · subst hin; omega
        · have := h4 i (by omega) hm; omega
      · refine ⟨k, by omega, by rw [if_neg hc]; exact h1, by rw [if_neg hc], h3, fun i hi hm => ?_⟩
        by_cases hin : i = n
        · subst hin; omega
        · exact h4 i (by omega) hm

theorem best_lo {V L : Nat → Int} {a : Int} {n : Nat} : -1 ≤ bestTo V L a n ∧ bestTo V L a n < n := by
  induction n with
  | zero => simp [bestTo]
  | succ n ih => simp only [bestTo]; split <;> omega
theorem bits_lo {V L : Nat → Int} {a : Int} {n : Nat} (h0 : ∀ i, i < n → 0 ≤ L i ∧ L i ≤ 32) : -1 ≤ bitsTo V L a n ∧ bitsTo V L a n ≤ 32 := by
  induction n with
  | zero => simp [bitsTo]
  | succ n ih => have := ih (fun i hi => h0 i (by omega)); have := h0 n (by omega); simp only [bitsTo]; split <;> omega

/-- Common bits: what is shared with one is shared with the other, as far as these two are alike. -/
theorem sh_iff {a b : Int} {s : Nat} (hs : s ≤ 32) (ha : isA a = true) (hb : isA b = true) : s ≤ sh a b ↔ a / p2 (32 - s) = b / p2 (32 - s) := by
  obtain ⟨a0, a1⟩ := isA_iff.1 ha
  obtain ⟨b0, b1⟩ := isA_iff.1 hb
  exact shN_iff 32 a b s hs a0 b0 (by rw [p2_32]; exact a1) (by rw [p2_32]; exact b1)
theorem sh_trans {a b c : Int} {s : Nat} (ha : isA a = true) (hb : isA b = true) (hc : isA c = true) (h1 : s ≤ sh a b) (h2 : s ≤ sh b c) : s ≤ sh a c := by
  have hs : s ≤ 32 := Nat.le_trans h1 (sh_le a b)
  rw [sh_iff hs ha hb] at h1
  rw [sh_iff hs hb hc] at h2
  rw [sh_iff hs ha hc]; omega
theorem sh_comm {a b : Int} {s : Nat} (ha : isA a = true) (hb : isA b = true) (h : s ≤ sh a b) : s ≤ sh b a := by
  have hs : s ≤ 32 := Nat.le_trans h (sh_le a b)
  rw [sh_iff hs ha hb] at h
  rw [sh_iff hs hb ha]; omega

/-- Where an address shares as many bits with another as the depth is, all is the same. -/
theorem alike {V L : Nat → Int} {a a' : Int} (ha : isA a = true) (ha' : isA a' = true) {i : Nat} (hv : isA (V i) = true) {s : Nat} (hs : s ≤ sh a a') (h : need V L a i ≤ s) :
    need V L a' i = need V L a i ∧ (L i ≤ sh (V i) a' ↔ L i ≤ sh (V i) a) := by
  unfold need at *
  by_cases hc : (sh (V i) a : Int) < L i
  · rw [if_pos hc] at h
    have h1 : ∀ t, t ≤ s → (t ≤ sh (V i) a' ↔ t ≤ sh (V i) a) := fun t ht =>
      ⟨fun h2 => sh_trans hv ha' ha h2 (sh_comm ha ha' (Nat.le_trans ht hs)), fun h2 => sh_trans hv ha ha' h2 (Nat.le_trans ht hs)⟩
    have e : sh (V i) a' = sh (V i) a := by
      have u1 := (h1 (sh (V i) a) (by omega)).2 (Nat.le_refl _)
      have u2 := h1 (sh (V i) a + 1) (by omega)
      omega
    rw [e]; exact ⟨rfl, Iff.rfl⟩
  · rw [if_neg hc] at h
    have h2 : L i ≤ sh (V i) a' := by
      by_cases h0 : 0 ≤ L i
      · obtain ⟨t, ht⟩ := Int.eq_ofNat_of_zero_le h0
        have := sh_trans (s := t) hv ha ha' (by omega) (by omega)
        omega
      · omega
    rw [if_neg hc, if_neg (by omega)]
    exact ⟨rfl, by omega⟩

theorem alike_all {V L : Nat → Int} {a a' : Int} (ha : isA a = true) (ha' : isA a' = true) {n : Nat} (hv : ∀ i, i < n → isA (V i) = true) {s : Nat} (hs : s ≤ sh a a') (h : ∀ i, i < n → need V L a i ≤ s) :
    bestTo V L a' n = bestTo V L a n ∧ bitsTo V L a' n = bitsTo V L a n ∧ depTo V L a' n = depTo V L a n := by
  induction n with
  | zero => exact ⟨rfl, rfl, rfl⟩
  | succ n ih =>
    obtain ⟨h1, h2, h3⟩ := ih (fun i hi => hv i (by omega)) (fun i hi => h i (by omega))
    obtain ⟨h4, h5⟩ := alike ha ha' (hv n (by omega)) hs (h n (by omega))
    simp only [bestTo, bitsTo, depTo, h1, h2, h3, h4, h5]
    simp
end M
end Go.Proofs.Ytaebngpoagjafaa
