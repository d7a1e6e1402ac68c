/-
  OUR OWN: addresses, common bits, longest matches: plain mathematics, nothing of the program.
-/
namespace Go.Proofs.Ytaebngpoagjafaa
namespace M

/-- 2 to the n, not to be laid open by a walk. -/
def p2 : Nat → Int
  | 0 => 1
  | n + 1 => p2 n * 2

theorem p2_pos (n : Nat) : 0 < p2 n := by
  induction n with
  | zero => decide
  | succ n ih => simp only [p2]; omega
theorem p2_mono {a b : Nat} (h : a ≤ b) : p2 a ≤ p2 b := by
  induction b with
  | zero => have : a = 0 := by omega
            subst this; exact Int.le_refl _
  | succ b ih =>
    by_cases hb : a = b + 1
    · subst hb; exact Int.le_refl _
    · have := ih (by omega); have := p2_pos b; simp only [p2]; omega
theorem p2_32 : p2 32 = 4294967296 := by decide
theorem p2_le {j : Nat} (h : j ≤ 32) : p2 j ≤ 4294967296 := by rw [← p2_32]; exact p2_mono h
theorem p2_succ (n : Nat) : p2 (n + 1) = p2 n * 2 := rfl

/-- How many first bits of n two numbers have in common. -/
def shN : Nat → Int → Int → Nat
  | 0, _, _ => 0
  | n + 1, a, b => if a = b then n + 1 else shN n (a / 2) (b / 2)
def sh (a b : Int) : Nat := shN 32 a b

theorem shN_le (n : Nat) : ∀ a b, shN n a b ≤ n := by
  induction n with
  | zero => intro a b; simp [shN]
  | succ n ih => intro a b; simp only [shN]; split
                 · exact Nat.le_refl _
                 · exact Nat.le_succ_of_le (ih _ _)
theorem sh_le (a b : Int) : sh a b ≤ 32 := shN_le 32 a b

theorem shN_iff (n : Nat) : ∀ (a b : Int) (s : Nat), s ≤ n → 0 ≤ a → 0 ≤ b → a < p2 n → b < p2 n → (s ≤ shN n a b ↔ a / p2 (n - s) = b / p2 (n - s)) := by
  induction n with
  | zero =>
    intro a b s hs ha hb la lb
    have hp : p2 0 = 1 := rfl
    rw [hp] at la lb
    have : s = 0 := by omega
    subst this
    have : a = 0 := by omega
    have : b = 0 := by omega
    subst a b; simp [shN]
  | succ n ih =>
    intro a b s hs ha hb la lb
    simp only [p2_succ] at la lb
    simp only [shN]
    by_cases hab : a = b
    · subst hab; simp [hs]
    · rw [if_neg hab]
      by_cases hsn : s = n + 1
      · subst hsn
        have := shN_le n (a / 2) (b / 2)
        rw [Nat.sub_self]
        simp only [p2, Int.ediv_one]
        constructor
        · intro h; omega
        · intro h; exact absurd h hab
      · have h1 := ih (a / 2) (b / 2) s (by omega) (by omega) (by omega) (by omega) (by omega)
        rw [h1, Int.ediv_ediv_of_nonneg (by omega), Int.ediv_ediv_of_nonneg (by omega)]
        have : n + 1 - s = (n - s) + 1 := by omega
        rw [this, p2_succ, Int.mul_comm 2]

/-- An address. -/
def isA (n : Int) : Bool := decide (0 ≤ n) && decide (n < 4294967296)
theorem isA_iff {n : Int} : isA n = true ↔ 0 ≤ n ∧ n < 4294967296 := by simp [isA]
/-- A prefix: its value, its length. -/
def isP (v n : Int) : Bool := decide (0 ≤ n) && decide (n ≤ 32) && isA v && decide (v % p2 (32 - n).toNat = 0)
theorem isP_iff {v n : Int} : isP v n = true ↔ 0 ≤ n ∧ n ≤ 32 ∧ 0 ≤ v ∧ v < 4294967296 ∧ v % p2 (32 - n).toNat = 0 := by
  simp [isP, isA]; omega
/-- The first n bits of a, behind them those of b. -/
def join (a b n : Int) : Int := a - a % p2 (32 - n).toNat + b % p2 (32 - n).toNat
theorem p2_eq (n : Nat) : p2 n = 2 ^ n := by
  induction n with
  | zero => rfl
  | succ n ih => rw [p2_succ, ih, Int.pow_succ]
/-- Is (v, m) one of the first n prefixes? -/
def inTo (V L : Nat → Int) (v m : Int) : Nat → Bool
  | 0 => false
  | n + 1 => inTo V L v m n || (V n == v && L n == m)
theorem inTo_iff {V L : Nat → Int} {v m : Int} {n : Nat} : inTo V L v m n = true ↔ ∃ i, i < n ∧ V i = v ∧ L i = m := by
  induction n with
  | zero => simp [inTo]
  | succ n ih =>
    simp only [inTo, Bool.or_eq_true, ih, Bool.and_eq_true, beq_iff_eq]
    constructor
    · rintro (⟨i, h, h1, h2⟩ | ⟨h1, h2⟩)
      · exact ⟨i, by omega, h1, h2⟩
      · exact ⟨n, by omega, h1, h2⟩
    · rintro ⟨i, h, h1, h2⟩
      by_cases hi : i = n
      · subst hi; exact .inr ⟨h1, h2⟩
      · exact .inl ⟨i, by omega, h1, h2⟩
theorem inTo_hit {V L : Nat → Int} {v m : Int} {n k : Nat} (h : k < n) (h1 : V k = v) (h2 : L k = m) : inTo V L v m n = true := inTo_iff.2 ⟨k, h, h1, h2⟩
/-- Are the first n prefixes prefixes, no two the same? -/
def okTo (V L : Nat → Int) : Nat → Bool
  | 0 => true
  | k + 1 => okTo V L k && (isP (V k) (L k) && !inTo V L (V k) (L k) k)
def isMap (V L : Nat → Int) (n : Nat) : Bool := decide (n ≤ 64) && okTo V L n
theorem okTo_iff {V L : Nat → Int} {n : Nat} : okTo V L n = true ↔ ∀ k, k < n → isP (V k) (L k) = true ∧ inTo V L (V k) (L k) k = false := by
  induction n with
  | zero => simp [okTo]
  | succ n ih =>
    simp only [okTo, Bool.and_eq_true, ih, Bool.not_eq_true']
    constructor
    · rintro ⟨h, h1, h2⟩ k hk
      by_cases hi : k = n
      · subst hi; exact ⟨h1, h2⟩
      · exact h k (by omega)
    · intro h
      exact ⟨fun k hk => h k (by omega), h n (by omega)⟩
theorem isMap_bad {V L : Nat → Int} {n k : Nat} (hk : k < n) (h : isP (V k) (L k) = false ∨ inTo V L (V k) (L k) k = true) : isMap V L n = false := by
  rw [Bool.eq_false_iff]
  intro hm
  simp only [isMap, Bool.and_eq_true] at hm
  have := okTo_iff.1 hm.2 k hk
  rcases h with h | h
  · rw [this.1] at h; cases h
  · rw [this.2] at h; cases h
end M
end Go.Proofs.Ytaebngpoagjafaa
