/-
  OUR OWN: the document's answer to Match: cut, longest, settled, match, Match.
-/
import Derived.Test.YtgbdmnjipdgmoaaGreatGf
namespace Go.Proofs.YtgbdmnjipdgmoaaGreat
open Go.RowKit

theorem M.match_iff {v n a : Int} (h : M.isP v n = true) (ha : M.isA a = true) : (a - a % M.p2 (32 - n).toNat == v) = decide (n ≤ M.sh v a) := by
  obtain ⟨n0, n1, v0, v1, hm⟩ := M.isP_iff.1 h
  have hv : M.isA v = true := M.isA_iff.2 ⟨v0, v1⟩
  have hp := M.p2_pos (32 - n).toNat
  have h1 := Int.mul_ediv_add_emod a (M.p2 (32 - n).toNat)
  have h2 := Int.mul_ediv_add_emod v (M.p2 (32 - n).toNat)
  have e : 32 - n.toNat = (32 - n).toNat := by omega
  have h3 := M.sh_iff (s := n.toNat) (by omega) hv ha
  rw [e] at h3
  have h4 : (a - a % M.p2 (32 - n).toNat = v) ↔ n ≤ M.sh v a := by
    constructor
    · intro h
      have : M.p2 (32 - n).toNat * (a / M.p2 (32 - n).toNat) = M.p2 (32 - n).toNat * (v / M.p2 (32 - n).toNat) := by omega
      have := h3.2 (Int.eq_of_mul_eq_mul_left (by omega) this.symm)
      omega
    · intro h
      have := h3.1 (by omega)
      rw [← this] at h1; omega
  rw [Bool.eq_iff_iff]; simp [h4]

theorem M.cut_iff {v s a : Int} (hv : M.isA v = true) (ha : M.isA a = true) (s0 : 0 ≤ s) (s1 : s ≤ 32) : (v - v % M.p2 (32 - s).toNat == a - a % M.p2 (32 - s).toNat) = decide (s ≤ M.sh v a) := by
  have hp := M.p2_pos (32 - s).toNat
  have h1 := Int.mul_ediv_add_emod a (M.p2 (32 - s).toNat)
  have h2 := Int.mul_ediv_add_emod v (M.p2 (32 - s).toNat)
  have e : 32 - s.toNat = (32 - s).toNat := by omega
  have h3 := M.sh_iff (s := s.toNat) (by omega) hv ha
  rw [e] at h3
  have h4 : (v - v % M.p2 (32 - s).toNat = a - a % M.p2 (32 - s).toNat) ↔ s ≤ M.sh v a := by
    constructor
    · intro h
      have : M.p2 (32 - s).toNat * (v / M.p2 (32 - s).toNat) = M.p2 (32 - s).toNat * (a / M.p2 (32 - s).toNat) := by omega
      have := h3.2 (Int.eq_of_mul_eq_mul_left (by omega) this)
      omega
    · intro h
      have := h3.1 (by omega)
      rw [← this] at h1; omega
  rw [Bool.eq_iff_iff]; simp [h4]

theorem M.need_iff {V L : Nat → Int} {a s : Int} {i : Nat} : M.need V L a i ≤ s ↔ ¬ (s < L i ∧ s ≤ M.sh (V i) a) := by
  unfold M.need; split <;> omega
theorem M.dep_iff {V L : Nat → Int} {a s : Int} {n : Nat} (s0 : 0 ≤ s) : M.depTo V L a n ≤ s ↔ ∀ i, i < n → M.need V L a i ≤ s := by
  constructor
  · intro h i hi; have := M.need_le_dep (V := V) (L := L) (a := a) hi; omega
  · intro h
    rcases M.dep_is (V := V) (L := L) (a := a) (n := n) with h0 | ⟨i, hi, hn⟩
    · omega
    · have := h i hi; omega

set_option maxHeartbeats 400000 in
theorem cut_any (a n : Int) (w : World) (a0 : 0 ≤ a) (a1 : a < 4294967296) (n0 : 0 ≤ n) (n1 : n ≤ 32) :
    Calls Tryz.prog 105 #[.int .i64 a, .int .i64 n] w fun e w' => e = .returned (.int .i64 (a - a % M.p2 (32 - n).toNat)) ∧ w' = w := by
  have hp := M.p2_pos (32 - n).toNat
  have hq := M.p2_le (j := (32 - n).toNat) (by omega)
  have ha := Int.emod_nonneg a (b := M.p2 (32 - n).toNat) (by omega)
  have la := Int.emod_lt_of_pos a hp
  go_enter Tryz.func105, Tryz.ntmps105
  go_wp2_with fail
  refine (tail_ref _ _ n0 n1).mono ?_
  rintro e w' ⟨rfl, hww⟩
  subst w'
  go_wp2
  go_ret
  exact ⟨rfl, rfl⟩

theorem drewN_more {w wr : World} (h : ∃ q, wr = w.drewN q) (m : Nat) : ∃ q, wr.drewN m = w.drewN q := by
  obtain ⟨q, rfl⟩ := h
  exact ⟨q + m, by simp⟩

set_option maxHeartbeats 1000000 in
theorem longest_any (ao : Option Addr) (b n c : Nat) (V L : Nat → Int) (a : Int) (w : World) (hA : M.isA a = true) (hn : n ≤ 64) (hs : PS w ao b n V L) (hp : ∀ i, i < n → M.isP (V i) (L i) = true) :
    Calls Tryz.prog 78 #[.slice ao n c, .int .i64 a] w fun e w' => e = .returned (.int .i64 (M.bestTo V L a n)) ∧ ∃ m, w' = w.drewN m := by
  obtain ⟨a0, a1⟩ := M.isA_iff.1 hA
  have HP : Hid (∀ i, i < n → M.isP (V i) (L i) = true) := hp
  clear hp
  go_enter Tryz.func78, Tryz.ntmps78
  go_wp2
  go_loopw [5, 6] (fun x i wr => ∃ m : Nat, m ≤ n ∧ i = .int .i64 m ∧ x = .int .i64 (M.bestTo V L a m) ∧ ∃ q, wr = w.drewN q) (fun _ i _ => n - (intOf i).toNat)
  case atStart => exact ⟨0, by omega, rfl, rfl, 0, rfl⟩
  case round =>
    obtain ⟨m, hm, rfl, rfl, HW⟩ := hrel
    have hs' : PS wr ao b n V L := by obtain ⟨q, e⟩ := HW; rw [e]; exact hs.drewN q
    have HW' : Hid (∃ q, wr = w.drewN q) := HW
    clear HW
    by_cases hlt : m < n
    · obtain rfl := hs.at_ (by omega)
      have hv := hs'.val m hlt
      have hl := hs'.len m hlt
      obtain ⟨l0, l1, v0, v1, _⟩ := M.isP_iff.1 (HP.out m hlt)
      have hL : Hid (∀ i, i < m → 0 ≤ L i) := fun i hi => by have := M.isP_iff.1 (HP.out i (by omega)); omega
      have hbi : Hid _ := M.best_is (V := V) (L := L) (a := a) (n := m) hL.out
      have hin := M.match_iff (HP.out m hlt) hA
      have mn : (m : Int) < n := by omega
      have hcell : Hid (∀ i, i < n → wr.cell? ⟨b, i * 2 + 1, none⟩ = some (.int .i64 (L i))) := hs'.len
      clear hs hs'
      generalize hq : (a - a % M.p2 (32 - L m).toNat == V m) = y at *
      have HY : Hid (y = decide (L m ≤ M.sh (V m) a)) := hin
      clear hin
      have HS : Hid (M.bestTo V L a (m + 1) = if L m ≤ M.sh (V m) a ∧ M.bitsTo V L a m < L m then (m : Int) else M.bestTo V L a m) := rfl
      have HT : Hid (M.bitsTo V L a m = if M.bestTo V L a m < 0 then -1 else L (M.bestTo V L a m).toNat) := by
        show _ = _
        rcases hbi.out with ⟨g1, g2, _⟩ | ⟨j, hj, g1, g2, _⟩
        · rw [g1, g2]; rfl
        · rw [g1, g2, if_neg (by omega)]; simp
      have hbl := M.best_lo (V := V) (L := L) (a := a) (n := m)
      generalize hK : M.bestTo V L a m = K at *
      clear hbi
      have hfacts : (y = false ∧ M.bestTo V L a (m + 1) = K) ∨ (y = true ∧ K < 0 ∧ M.bestTo V L a (m + 1) = m) ∨
          (y = true ∧ 0 ≤ K ∧ K < n ∧ wr.cell? ⟨b, K.toNat * 2 + 1, none⟩ = some (.int .i64 (L K.toNat)) ∧ ((L K.toNat < L m ∧ M.bestTo V L a (m + 1) = m) ∨ (¬ L K.toNat < L m ∧ M.bestTo V L a (m + 1) = K))) := by
        have h1 := HY.out
        have h2 := HS.out
        rw [HT.out] at h2
        by_cases hd : L m ≤ M.sh (V m) a
        · rw [decide_eq_true hd] at h1
          by_cases hk : K < 0
          · right; left
            rw [if_pos hk, if_pos ⟨hd, by omega⟩] at h2
            exact ⟨h1, hk, h2⟩
          · right; right
            rw [if_neg hk] at h2
            refine ⟨h1, by omega, by omega, hcell.out K.toNat (by omega), ?_⟩
            by_cases hz : L K.toNat < L m
            · left; rw [if_pos ⟨hd, hz⟩] at h2; exact ⟨hz, h2⟩
            · right; rw [if_neg (fun h => hz h.2)] at h2; exact ⟨hz, h2⟩
        · left
          rw [decide_eq_false hd] at h1
          rw [if_neg (fun h => hd h.1)] at h2
          exact ⟨h1, h2⟩
      have HQ : Hid ((a - a % M.p2 (32 - L m).toNat == V m) = y) := hq
      have HK : Hid (M.bestTo V L a m = K) := hK
      have hq' := HQ.out
      clear hq hK HY HS HT hcell
      rcases hfacts with ⟨rfl, hb1⟩ | ⟨rfl, hk0, hb1⟩ | ⟨rfl, hk0, hk1, hck, ⟨hlt2, hb1⟩ | ⟨hlt2, hb1⟩⟩
      · have HB : Hid (M.bestTo V L a (m + 1) = K) := hb1
        clear hb1
        go_wp2_with fail
        go_quiet ((go_at_call 105; exact Calls.quiet_of_same (cut_any _ _ _ a0 a1 l0 l1)))
        go_wp2_with fail
        go_roundw
        case rel => exact ⟨m + 1, by omega, by go_num, val_int HB.out, drewN_more HW'.out _⟩
        case measure => simp [intOf]; omega
      · have HB : Hid (M.bestTo V L a (m + 1) = m) := hb1
        clear hb1
        have kd : decide (K < 0) = true := decide_eq_true hk0
        go_wp2_with fail
        go_quiet ((go_at_call 105; exact Calls.quiet_of_same (cut_any _ _ _ a0 a1 l0 l1)))
        go_wp2_with fail
        go_roundw
        case rel => exact ⟨m + 1, by omega, by go_num, val_int HB.out, drewN_more HW'.out _⟩
        case measure => simp [intOf]; omega
      · have HB : Hid (M.bestTo V L a (m + 1) = m) := hb1
        clear hb1
        have kd : decide (K < 0) = false := decide_eq_false (by omega)
        have ld : decide (L K.toNat < L m) = true := decide_eq_true hlt2
        go_wp2_with fail
        go_quiet ((go_at_call 105; exact Calls.quiet_of_same (cut_any _ _ _ a0 a1 l0 l1)))
        go_wp2_with fail
        go_roundw
        case rel => exact ⟨m + 1, by omega, by go_num, val_int HB.out, drewN_more HW'.out _⟩
        case measure => simp [intOf]; omega
      · have HB : Hid (M.bestTo V L a (m + 1) = K) := hb1
        clear hb1
        have kd : decide (K < 0) = false := decide_eq_false (by omega)
        have ld : decide (L K.toNat < L m) = false := decide_eq_false hlt2
        go_wp2_with fail
        go_quiet ((go_at_call 105; exact Calls.quiet_of_same (cut_any _ _ _ a0 a1 l0 l1)))
        go_wp2_with fail
        go_roundw
        case rel => exact ⟨m + 1, by omega, by go_num, val_int HB.out, drewN_more HW'.out _⟩
        case measure => simp [intOf]; omega
    · have hkn : m = n := by omega
      subst hkn
      go_wp2
      go_ret
      exact ⟨rfl, HW'.out⟩
end Go.Proofs.YtgbdmnjipdgmoaaGreat
