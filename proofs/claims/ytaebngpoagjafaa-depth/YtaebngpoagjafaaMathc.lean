/-
  OUR OWN: with a bit less than the depth some address has another longest match.
-/
import Derived.Test.YtaebngpoagjafaaMathb
namespace Go.Proofs.Ytaebngpoagjafaa
namespace M

theorem p2_add (a b : Nat) : p2 (a + b) = p2 a * p2 b := by rw [p2_eq, p2_eq, p2_eq, Int.pow_add]

theorem div_join (a r m : Int) (hm : 0 < m) (r0 : 0 ≤ r) (r1 : r < m) : (a - a % m + r) / m = a / m := by
  have h := Int.mul_ediv_add_emod a m
  have e : a - a % m + r = r + m * (a / m) := by omega
  rw [e, Int.add_mul_ediv_left _ _ (by omega), Int.ediv_eq_zero_of_lt r0 r1]; omega

theorem join_bits {a b n : Int} (ha : isA a = true) (n0 : 0 ≤ n) (n1 : n ≤ 32) : isA (join a b n) = true ∧ n.toNat ≤ sh a (join a b n) := by
  have hp := p2_pos (32 - n).toNat
  have hr0 := Int.emod_nonneg b (b := p2 (32 - n).toNat) (by omega)
  have hr1 := Int.emod_lt_of_pos b hp
  have hd := div_join a _ _ hp hr0 hr1
  obtain ⟨a0, a1⟩ := isA_iff.1 ha
  have hj0 : 0 ≤ join a b n := by
    have h := Int.mul_ediv_add_emod a (p2 (32 - n).toNat)
    have : 0 ≤ p2 (32 - n).toNat * (a / p2 (32 - n).toNat) := Int.mul_nonneg (by omega) (Int.ediv_nonneg a0 (by omega))
    unfold join; omega
  have hj1 : join a b n < 4294967296 := by
    have e32 : p2 n.toNat * p2 (32 - n).toNat = 4294967296 := by rw [← p2_add, ← p2_32]; congr 1; omega
    have h1 : join a b n / p2 (32 - n).toNat < p2 n.toNat := by
      show (a - a % _ + b % _) / _ < _
      rw [hd]
      exact Int.ediv_lt_of_lt_mul hp (by rw [e32]; exact a1)
    rw [← e32]
    exact Int.lt_mul_of_ediv_lt hp h1
  have hj : isA (join a b n) = true := isA_iff.2 ⟨hj0, hj1⟩
  refine ⟨hj, (sh_iff (by omega) ha hj).2 ?_⟩
  have e : 32 - n.toNat = (32 - n).toNat := by omega
  rw [e]
  exact hd.symm

theorem join_zero {x y s : Int} (hx : isA x = true) (hy : isA y = true) (s0 : 0 ≤ s) (s1 : s ≤ 32) : join x 0 s = join y 0 s ↔ s.toNat ≤ sh x y := by
  have hp := p2_pos (32 - s).toNat
  rw [sh_iff (by omega) hx hy]
  have e : 32 - s.toNat = (32 - s).toNat := by omega
  rw [e]
  unfold join
  have h1 := Int.mul_ediv_add_emod x (p2 (32 - s).toNat)
  have h2 := Int.mul_ediv_add_emod y (p2 (32 - s).toNat)
  have z : (0 : Int) % p2 (32 - s).toNat = 0 := Int.zero_emod _
  constructor
  · intro h
    have : p2 (32 - s).toNat * (x / p2 (32 - s).toNat) = p2 (32 - s).toNat * (y / p2 (32 - s).toNat) := by omega
    exact Int.eq_of_mul_eq_mul_left (by omega) this
  · intro h
    rw [h] at h1; omega

/-- The address with bit s turned. -/
def turn (a s : Int) : Int := if a / p2 (32 - s).toNat % 2 = 1 then a - p2 (32 - s).toNat else a + p2 (32 - s).toNat
theorem turn_ok {a s : Int} (ha : isA a = true) (s0 : 1 ≤ s) (s1 : s ≤ 32) : isA (turn a s) = true ∧ ¬ s.toNat ≤ sh a (turn a s) := by
  have hp := p2_pos (32 - s).toNat
  obtain ⟨a0, a1⟩ := isA_iff.1 ha
  have e32 : p2 s.toNat * p2 (32 - s).toNat = 4294967296 := by rw [← p2_add, ← p2_32]; congr 1; omega
  have es : p2 s.toNat = p2 (s.toNat - 1) * 2 := by rw [← p2_succ]; congr 1; omega
  have e : 32 - s.toNat = (32 - s).toNat := by omega
  have h := Int.mul_ediv_add_emod a (p2 (32 - s).toNat)
  have hr0 := Int.emod_nonneg a (b := p2 (32 - s).toNat) (by omega)
  have hr1 := Int.emod_lt_of_pos a hp
  have hq0 : 0 ≤ a / p2 (32 - s).toNat := Int.ediv_nonneg a0 (by omega)
  have hq1 : a / p2 (32 - s).toNat < p2 s.toNat := Int.ediv_lt_of_lt_mul hp (by rw [e32]; exact a1)
  have hA : isA (turn a s) = true := by
    rw [isA_iff]; unfold turn
    split
    · next hc =>
      have : p2 (32 - s).toNat * 1 ≤ p2 (32 - s).toNat * (a / p2 (32 - s).toNat) := Int.mul_le_mul_of_nonneg_left (by omega) (by omega)
      omega
    · next hc =>
      have h3 : a / p2 (32 - s).toNat + 1 + 1 ≤ p2 s.toNat := by omega
      have h4 := Int.mul_le_mul_of_nonneg_left h3 (Int.le_of_lt hp)
      rw [Int.mul_comm _ (p2 s.toNat), e32, Int.mul_add, Int.mul_add] at h4
      omega
  refine ⟨hA, fun hc => ?_⟩
  rw [sh_iff (by omega) ha hA, e] at hc
  unfold turn at hc
  split at hc
  · have : (a - p2 (32 - s).toNat) / p2 (32 - s).toNat = a / p2 (32 - s).toNat - 1 := by
      have := Int.add_mul_ediv_left a (b := p2 (32 - s).toNat) (-1) (by omega)
      have e4 : a + p2 (32 - s).toNat * -1 = a - p2 (32 - s).toNat := by omega
      rw [e4] at this; omega
    omega
  · have : (a + p2 (32 - s).toNat) / p2 (32 - s).toNat = a / p2 (32 - s).toNat + 1 := by
      have := Int.add_mul_ediv_left a (b := p2 (32 - s).toNat) 1 (by omega)
      rw [← this]; congr 1; omega
    omega

/-- A prefix, and an address that has its bits. -/
theorem prefix_join {v n a : Int} (h : isP v n = true) (ha : isA a = true) : isA v = true ∧ isA (join v a n) = true ∧ n.toNat ≤ sh v (join v a n) := by
  obtain ⟨n0, n1, v0, v1, _⟩ := isP_iff.1 h
  have hv : isA v = true := isA_iff.2 ⟨v0, v1⟩
  have _ := ha
  exact ⟨hv, join_bits hv n0 n1⟩

theorem depth_other {V L : Nat → Int} {a t : Int} {n s : Nat} (hp : ∀ i, i < n → isP (V i) (L i) = true) (ha : isA a = true) (hs : (s : Int) = depTo V L a n) (s0 : 1 ≤ s) (ht : isA t = true) (hts : ¬ s ≤ sh a t) :
    bestTo V L t n ≠ bestTo V L a n ∨ ∃ i, i < n ∧ s - 1 ≤ sh (join (V i) a (L i)) a ∧ bestTo V L (join (V i) a (L i)) n ≠ bestTo V L a n := by
  have hL : ∀ i, i < n → 0 ≤ L i ∧ L i ≤ 32 := fun i hi => by have := isP_iff.1 (hp i hi); omega
  have hV : ∀ i, i < n → isA (V i) = true := fun i hi => (prefix_join (hp i hi) ha).1
  have key : ∀ x, isA x = true → bestTo V L x n = bestTo V L a n → ∀ k : Nat, k < n → bestTo V L a n = k → L k ≤ sh x a := by
    intro x hx he k hk hb
    rcases best_is (V := V) (L := L) (a := a) (fun i hi => (hL i hi).1) with ⟨h1, _⟩ | ⟨j, hj, h1, _, h3, _⟩
    · omega
    · have : j = k := by omega
      subst this
      rcases best_is (V := V) (L := L) (a := x) (fun i hi => (hL i hi).1) with ⟨g1, _⟩ | ⟨j', hj', g1, _, g3, _⟩
      · omega
      · have : j' = j := by omega
        subst this
        obtain ⟨q, hq⟩ := Int.eq_ofNat_of_zero_le (hL j' hj').1
        have := sh_trans (s := q) hx (hV j' hj') ha (sh_comm (hV j' hj') hx (by omega)) (by omega)
        omega
  rcases dep_is (V := V) (L := L) (a := a) (n := n) with h0 | ⟨i, hi, hn⟩
  · omega
  · rw [← hs] at hn
    obtain ⟨_, hjA, hjs⟩ := prefix_join (hp i hi) ha
    by_cases hc : (sh (V i) a : Int) < L i
    · -- a prefix that does not match: an address that has its bits
      right
      have hsh : sh (V i) a + 1 = s := by unfold need at hn; rw [if_pos hc] at hn; omega
      refine ⟨i, hi, sh_trans hjA (hV i hi) ha (sh_comm (hV i hi) hjA (by have := hL i hi; omega)) (by omega), fun he => ?_⟩
      rcases best_is (V := V) (L := L) (a := join (V i) a (L i)) (fun i hi => (hL i hi).1) with ⟨_, _, g3⟩ | ⟨j, hj, g1, _, g3, g4⟩
      · exact g3 i hi (by have := hL i hi; omega)
      · have h5 := g4 i hi (by have := hL i hi; omega)
        have h6 := key _ hjA he j hj (by omega)
        have : s ≤ sh (V i) a := sh_trans (hV i hi) hjA ha (by have := hL i hi; omega) (by omega)
        omega
    · -- a prefix that matches: the address with bit s turned
      left
      have hsl : L i = s := by unfold need at hn; rw [if_neg hc] at hn; omega
      intro he
      rcases best_is (V := V) (L := L) (a := a) (fun i hi => (hL i hi).1) with ⟨_, _, g3⟩ | ⟨j, hj, g1, _, g3, g4⟩
      · exact g3 i hi (by omega)
      · have h5 := g4 i hi (by omega)
        have h6 := key t ht he j hj g1
        exact hts (sh_comm ht ha (by omega))
end M
end Go.Proofs.Ytaebngpoagjafaa
