/-
  OUR OWN: the contracts of Longest and Match.
  OUR OWN: the document's answer to Match: cut, longest, settled, match, Match.
  OUR OWN: the document's answer to Match: settled, match, Match.
  OUR OWN: lists that are built by append; the contracts of prefixes and Placed.
  OUR OWN: what is lent: far, lentPrefixes, wholePrefixes.
-/
import Derived.Test.YtegknlhadjhbdaaGreatQ01
import Derived.Deep.OwnRows
import Derived.Laws.ResultCell
namespace Go.Proofs.YtegknlhadjhbdaaGreat
open Go.RowKit

theorem M.step_best (V L : Nat → Int) (a : Int) (k : Nat) (x : Int) (h : x = if L k ≤ M.sh (V k) a ∧ M.bitsTo V L a k < L k then (k : Int) else M.bestTo V L a k) : M.bestTo V L a (k + 1) = x := by rw [h]; rfl
theorem M.step_bits (V L : Nat → Int) (a : Int) (k : Nat) (x : Int) (h : x = if L k ≤ M.sh (V k) a ∧ M.bitsTo V L a k < L k then L k else M.bitsTo V L a k) : M.bitsTo V L a (k + 1) = x := by rw [h]; rfl
theorem M.step_dep (V L : Nat → Int) (a : Int) (k : Nat) (x nd : Int) (hn : M.need V L a k = nd) (h : x = if M.depTo V L a k < nd then nd else M.depTo V L a k) : M.depTo V L a (k + 1) = x := by rw [h, ← hn]; rfl
theorem val_int {a b : Int} (h : a = b) : Value.int .i64 b = .int .i64 a := by rw [h]

set_option maxHeartbeats 1000000 in
theorem Longest_any (ao : Option Addr) (b n c : Nat) (V L : Nat → Int) (a : Int) (w : World) (a0 : 0 ≤ a) (a1 : a < 4294967296) (hn : n ≤ 64) (hs : PS w ao b n V L) (hp : ∀ i, i < n → M.isP (V i) (L i) = true) :
    Calls Tryz.prog 125 #[.slice ao n c, .int .i64 a] w fun e w' => e = .returned (.tuple #[.int .i64 (M.bestTo V L a n), .int .i64 (M.depTo V L a n)]) ∧ Below w.heap.size w w' := by
  go_enter Tryz.func125, Tryz.ntmps125
  go_wp2
  go_loopw [6, 7, 8, 15] (fun x y z i wr => ∃ k : Nat, k ≤ n ∧ i = .int .i64 k ∧ x = .int .i64 (M.bestTo V L a k) ∧ y = .int .i64 (M.bitsTo V L a k) ∧ z = .int .i64 (M.depTo V L a k) ∧ Below w.heap.size w wr) (fun _ _ _ i _ => n - (intOf i).toNat)
  case atStart => exact ⟨0, by omega, rfl, rfl, rfl, rfl, Below.refl _ _⟩
  case round =>
    obtain ⟨k, hk, rfl, rfl, rfl, rfl, hb⟩ := hrel
    by_cases hlt : k < n
    · obtain rfl := hs.at_ (by omega)
      have hps := hs.below hb
      have hv := hps.val k hlt
      have hl := hps.len k hlt
      have hbb : b < wr.heap.size := hps.lt (by omega)
      have hR : Hid (Below w.heap.size w wr) := hb
      obtain ⟨l0, l1, v0, v1, _⟩ := M.isP_iff.1 (hp k hlt)
      have hsl := M.sh_le (V k) a
      clear hs hb hps hp
      by_cases hc : (M.sh (V k) a : Int) < L k
      · have HN : Hid (M.need V L a k = M.sh (V k) a + 1) := by show _ = _; unfold M.need; rw [if_pos hc]
        by_cases hd : M.depTo V L a k < M.sh (V k) a + 1
        all_goals
          go_wp2_with (go_at_call 157; refine (shared_any _ _ _ v0 v1 a0 a1).mono ?_; rintro e w' ⟨rfl, rfl⟩)
          go_roundw
          case rel => exact ⟨k + 1, by omega, by go_num, val_int (M.step_best _ _ _ _ _ (by rw [if_neg (by omega)])), val_int (M.step_bits _ _ _ _ _ (by rw [if_neg (by omega)])), val_int (M.step_dep _ _ _ _ _ _ HN.out (by split <;> omega)), hR.out.trans (Below.mono (B := wr.heap.size) (by repeat (first | exact Below.refl _ _ | refine bel_drewN ?_ _ | refine Below.drew ?_ | refine Below.alloc ?_ (by simp) _ | refine Below.setCell ?_ (by simp) _)) hR.out.size)⟩
          case measure => simp [intOf]; omega
      · have HN : Hid (M.need V L a k = L k) := by show _ = _; unfold M.need; rw [if_neg hc]
        by_cases hd : M.depTo V L a k < L k
        all_goals
          by_cases hq : M.bitsTo V L a k < L k
          all_goals
            go_wp2_with (go_at_call 157; refine (shared_any _ _ _ v0 v1 a0 a1).mono ?_; rintro e w' ⟨rfl, rfl⟩)
            go_roundw
            case rel => exact ⟨k + 1, by omega, by go_num, val_int (M.step_best _ _ _ _ _ (by split <;> omega)), val_int (M.step_bits _ _ _ _ _ (by split <;> omega)), val_int (M.step_dep _ _ _ _ _ _ HN.out (by split <;> omega)), hR.out.trans (Below.mono (B := wr.heap.size) (by repeat (first | exact Below.refl _ _ | refine bel_drewN ?_ _ | refine Below.drew ?_ | refine Below.alloc ?_ (by simp) _ | refine Below.setCell ?_ (by simp) _)) hR.out.size)⟩
            case measure => simp [intOf]; omega
    · have hkn : k = n := by omega
      subst hkn
      go_wp2
      go_ret2
      exact ⟨rfl, hb⟩

set_option maxHeartbeats 400000 in
theorem Match_no (ao : Option Addr) (b n c : Nat) (V L : Nat → Int) (a : Int) (w : World) (hn : n ≤ 9223372036854775807) (hc : n ≤ c) (hs : PS w ao b n V L) (h : M.isA a = false ∨ M.isMap V L n = false) :
    Calls Tryz.prog 67 #[.slice ao n c, .int .i64 a] w fun e w' => e = .returned (.tuple #[.int .i64 0, .int .i64 0, .int .i64 9]) ∧ Below w.heap.size w w' := by
  cases hA : M.isA a with
  | false =>
    clear h hs
    go_enter Tryz.func67, Tryz.ntmps67
    go_wp2_with fail
    refine (IsAddress_is false _ _ hA).mono ?_
    rintro e w' ⟨rfl, rfl⟩
    go_wp2_with fail
    go_ret3
    exact ⟨rfl, Below.refl _ _⟩
  | true =>
    have hM : M.isMap V L n = false := by simpa [hA] using h
    clear h
    go_enter Tryz.func67, Tryz.ntmps67
    go_wp2_with fail
    refine (IsAddress_is true _ _ hA).mono ?_
    rintro e w' ⟨rfl, rfl⟩
    go_wp2_with fail
    refine (IsList_any _ b _ _ V L _ hn hc hs).mono ?_
    rintro e w1 ⟨rfl, hb1⟩
    go_wp2_with fail
    go_ret3
    exact ⟨rfl, hb1⟩

set_option maxHeartbeats 400000 in
theorem Match_ok (ao : Option Addr) (b n c : Nat) (V L : Nat → Int) (a : Int) (w : World) (hc : n ≤ c) (hs : PS w ao b n V L) (hA : M.isA a = true) (hM : M.isMap V L n = true) :
    Calls Tryz.prog 67 #[.slice ao n c, .int .i64 a] w fun e w' => e = .returned (.tuple #[.int .i64 (M.bestTo V L a n), .int .i64 (M.depTo V L a n), .int .i64 0]) ∧ Below w.heap.size w w' := by
  obtain ⟨a0, a1⟩ := M.isA_iff.1 hA
  have hm : n ≤ 64 ∧ M.okTo V L n = true := by simpa [M.isMap] using hM
  have hP : Hid (∀ i, i < n → M.isP (V i) (L i) = true) := fun i hi => (M.okTo_iff.1 hm.2 i hi).1
  obtain ⟨h64, _⟩ := hm
  go_enter Tryz.func67, Tryz.ntmps67
  go_wp2_with fail
  refine (IsAddress_is true _ _ hA).mono ?_
  rintro e w' ⟨rfl, rfl⟩
  go_wp2_with fail
  refine (IsList_any _ b _ _ V L _ (by omega) hc hs).mono ?_
  rintro e w1 ⟨rfl, hb1⟩
  have hs1 := hs.below hb1
  go_wp2_with fail
  refine (Longest_any _ b _ _ V L _ _ a0 a1 h64 hs1 hP.out).mono ?_
  rintro e w2 ⟨rfl, hb2⟩
  go_wp2_with fail
  go_ret3
  exact ⟨rfl, hb1.trans (hb2.mono hb1.size)⟩
end Go.Proofs.YtegknlhadjhbdaaGreat
namespace Go.Proofs.YtegknlhadjhbdaaGreat
open Go.RowKit

theorem M.match_iff {v n a : Int} (h : M.isP v n = true) (ha : M.isA a = true) : (a - a % M.p2 (32 - n).toNat == v) = decide (n ≤ M.sh v a) := by
  obtain ⟨n0, n1, v0, v1, hm⟩ := M.isP_iff.1 h
  have hv : M.isA v = true := M.isA_iff.2 ⟨v0, v1⟩
  have hp := M.p2_pos (32 - n).toNat
  have h1 := Int.mul_ediv_add_emod a (M.p2 (32 - n).toNat)
  have h2 := Int.mul_ediv_add_emod v (M.p2 (32 - n).toNat)
  have e : 32 - n.toNat = (32 - n).toNat := by omega
  have h3 := M.sh_iff (s := n.toNat) (by omega) hv ha
  rw [e] at h3
  have h4 : (a - a % M.p2 (32 - n).toNat = v) ↔ n ≤ M.sh v a := by
    constructor
    · intro h
      have : M.p2 (32 - n).toNat * (a / M.p2 (32 - n).toNat) = M.p2 (32 - n).toNat * (v / M.p2 (32 - n).toNat) := by omega
      have := h3.2 (Int.eq_of_mul_eq_mul_left (by omega) this.symm)
      omega
    · intro h
      have := h3.1 (by omega)
      rw [← this] at h1; omega
  rw [Bool.eq_iff_iff]; simp [h4]

theorem M.cut_iff {v s a : Int} (hv : M.isA v = true) (ha : M.isA a = true) (s0 : 0 ≤ s) (s1 : s ≤ 32) : (v - v % M.p2 (32 - s).toNat == a - a % M.p2 (32 - s).toNat) = decide (s ≤ M.sh v a) := by
  have hp := M.p2_pos (32 - s).toNat
  have h1 := Int.mul_ediv_add_emod a (M.p2 (32 - s).toNat)
  have h2 := Int.mul_ediv_add_emod v (M.p2 (32 - s).toNat)
  have e : 32 - s.toNat = (32 - s).toNat := by omega
  have h3 := M.sh_iff (s := s.toNat) (by omega) hv ha
  rw [e] at h3
  have h4 : (v - v % M.p2 (32 - s).toNat = a - a % M.p2 (32 - s).toNat) ↔ s ≤ M.sh v a := by
    constructor
    · intro h
      have : M.p2 (32 - s).toNat * (v / M.p2 (32 - s).toNat) = M.p2 (32 - s).toNat * (a / M.p2 (32 - s).toNat) := by omega
      have := h3.2 (Int.eq_of_mul_eq_mul_left (by omega) this)
      omega
    · intro h
      have := h3.1 (by omega)
      rw [← this] at h1; omega
  rw [Bool.eq_iff_iff]; simp [h4]

theorem M.need_iff {V L : Nat → Int} {a s : Int} {i : Nat} : M.need V L a i ≤ s ↔ ¬ (s < L i ∧ s ≤ M.sh (V i) a) := by
  unfold M.need; split <;> omega
theorem M.dep_iff {V L : Nat → Int} {a s : Int} {n : Nat} (s0 : 0 ≤ s) : M.depTo V L a n ≤ s ↔ ∀ i, i < n → M.need V L a i ≤ s := by
  constructor
  · intro h i hi; have := M.need_le_dep (V := V) (L := L) (a := a) hi; omega
  · intro h
    rcases M.dep_is (V := V) (L := L) (a := a) (n := n) with h0 | ⟨i, hi, hn⟩
    · omega
    · have := h i hi; omega

set_option maxHeartbeats 400000 in
theorem cut_any (a n : Int) (w : World) (a0 : 0 ≤ a) (a1 : a < 4294967296) (n0 : 0 ≤ n) (n1 : n ≤ 32) :
    Calls Tryz.prog 178 #[.int .i64 a, .int .i64 n] w fun e w' => e = .returned (.int .i64 (a - a % M.p2 (32 - n).toNat)) ∧ w' = w := by
  have hp := M.p2_pos (32 - n).toNat
  have hq := M.p2_le (j := (32 - n).toNat) (by omega)
  have ha := Int.emod_nonneg a (b := M.p2 (32 - n).toNat) (by omega)
  have la := Int.emod_lt_of_pos a hp
  go_enter Tryz.func178, Tryz.ntmps178
  go_wp2_with fail
  refine (tail_ref _ _ n0 n1).mono ?_
  rintro e w' ⟨rfl, hww⟩
  subst w'
  go_wp2
  go_ret
  exact ⟨rfl, rfl⟩

theorem drewN_more {w wr : World} (h : ∃ q, wr = w.drewN q) (m : Nat) : ∃ q, wr.drewN m = w.drewN q := by
  obtain ⟨q, rfl⟩ := h
  exact ⟨q + m, by simp⟩

set_option maxHeartbeats 1000000 in
theorem longest_any (ao : Option Addr) (b n c : Nat) (V L : Nat → Int) (a : Int) (w : World) (hA : M.isA a = true) (hn : n ≤ 64) (hs : PS w ao b n V L) (hp : ∀ i, i < n → M.isP (V i) (L i) = true) :
    Calls Tryz.prog 159 #[.slice ao n c, .int .i64 a] w fun e w' => e = .returned (.int .i64 (M.bestTo V L a n)) ∧ ∃ m, w' = w.drewN m := by
  obtain ⟨a0, a1⟩ := M.isA_iff.1 hA
  have HP : Hid (∀ i, i < n → M.isP (V i) (L i) = true) := hp
  clear hp
  go_enter Tryz.func159, Tryz.ntmps159
  go_wp2
  go_loopw [5, 6] (fun x i wr => ∃ m : Nat, m ≤ n ∧ i = .int .i64 m ∧ x = .int .i64 (M.bestTo V L a m) ∧ ∃ q, wr = w.drewN q) (fun _ i _ => n - (intOf i).toNat)
  case atStart => exact ⟨0, by omega, rfl, rfl, 0, rfl⟩
  case round =>
    obtain ⟨m, hm, rfl, rfl, HW⟩ := hrel
    have hs' : PS wr ao b n V L := by obtain ⟨q, e⟩ := HW; rw [e]; exact hs.drewN q
    have HW' : Hid (∃ q, wr = w.drewN q) := HW
    clear HW
    by_cases hlt : m < n
    · obtain rfl := hs.at_ (by omega)
      have hv := hs'.val m hlt
      have hl := hs'.len m hlt
      obtain ⟨l0, l1, v0, v1, _⟩ := M.isP_iff.1 (HP.out m hlt)
      have hL : Hid (∀ i, i < m → 0 ≤ L i) := fun i hi => by have := M.isP_iff.1 (HP.out i (by omega)); omega
      have hbi : Hid _ := M.best_is (V := V) (L := L) (a := a) (n := m) hL.out
      have hin := M.match_iff (HP.out m hlt) hA
      have mn : (m : Int) < n := by omega
      have hcell : Hid (∀ i, i < n → wr.cell? ⟨b, i * 2 + 1, none⟩ = some (.int .i64 (L i))) := hs'.len
      clear hs hs'
      generalize hq : (a - a % M.p2 (32 - L m).toNat == V m) = y at *
      have HY : Hid (y = decide (L m ≤ M.sh (V m) a)) := hin
      clear hin
      have HS : Hid (M.bestTo V L a (m + 1) = if L m ≤ M.sh (V m) a ∧ M.bitsTo V L a m < L m then (m : Int) else M.bestTo V L a m) := rfl
      have HT : Hid (M.bitsTo V L a m = if M.bestTo V L a m < 0 then -1 else L (M.bestTo V L a m).toNat) := by
        show _ = _
        rcases hbi.out with ⟨g1, g2, _⟩ | ⟨j, hj, g1, g2, _⟩
        · rw [g1, g2]; rfl
        · rw [g1, g2, if_neg (by omega)]; simp
      have hbl := M.best_lo (V := V) (L := L) (a := a) (n := m)
      generalize hK : M.bestTo V L a m = K at *
      clear hbi
      have hfacts : (y = false ∧ M.bestTo V L a (m + 1) = K) ∨ (y = true ∧ K < 0 ∧ M.bestTo V L a (m + 1) = m) ∨
          (y = true ∧ 0 ≤ K ∧ K < n ∧ wr.cell? ⟨b, K.toNat * 2 + 1, none⟩ = some (.int .i64 (L K.toNat)) ∧ ((L K.toNat < L m ∧ M.bestTo V L a (m + 1) = m) ∨ (¬ L K.toNat < L m ∧ M.bestTo V L a (m + 1) = K))) := by
        have h1 := HY.out
        have h2 := HS.out
        rw [HT.out] at h2
        by_cases hd : L m ≤ M.sh (V m) a
        · rw [decide_eq_true hd] at h1
          by_cases hk : K < 0
          · right; left
            rw [if_pos hk, if_pos ⟨hd, by omega⟩] at h2
            exact ⟨h1, hk, h2⟩
          · right; right
            rw [if_neg hk] at h2
            refine ⟨h1, by omega, by omega, hcell.out K.toNat (by omega), ?_⟩
            by_cases hz : L K.toNat < L m
            · left; rw [if_pos ⟨hd, hz⟩] at h2; exact ⟨hz, h2⟩
            · right; rw [if_neg (fun h => hz h.2)] at h2; exact ⟨hz, h2⟩
        · left
          rw [decide_eq_false hd] at h1
          rw [if_neg (fun h => hd h.1)] at h2
          exact ⟨h1, h2⟩
      have HQ : Hid ((a - a % M.p2 (32 - L m).toNat == V m) = y) := hq
      have HK : Hid (M.bestTo V L a m = K) := hK
      have hq' := HQ.out
      clear hq hK HY HS HT hcell
      rcases hfacts with ⟨rfl, hb1⟩ | ⟨rfl, hk0, hb1⟩ | ⟨rfl, hk0, hk1, hck, ⟨hlt2, hb1⟩ | ⟨hlt2, hb1⟩⟩
      · have HB : Hid (M.bestTo V L a (m + 1) = K) := hb1
        clear hb1
        go_wp2_with fail
        go_quiet ((go_at_call 178; exact Calls.quiet_of_same (cut_any _ _ _ a0 a1 l0 l1)))
        go_wp2_with fail
        go_roundw
        case rel => exact ⟨m + 1, by omega, by go_num, val_int HB.out, drewN_more HW'.out _⟩
        case measure => simp [intOf]; omega
      · have HB : Hid (M.bestTo V L a (m + 1) = m) := hb1
        clear hb1
        have kd : decide (K < 0) = true := decide_eq_true hk0
        go_wp2_with fail
        go_quiet ((go_at_call 178; exact Calls.quiet_of_same (cut_any _ _ _ a0 a1 l0 l1)))
        go_wp2_with fail
        go_roundw
        case rel => exact ⟨m + 1, by omega, by go_num, val_int HB.out, drewN_more HW'.out _⟩
        case measure => simp [intOf]; omega
      · have HB : Hid (M.bestTo V L a (m + 1) = m) := hb1
        clear hb1
        have kd : decide (K < 0) = false := decide_eq_false (by omega)
        have ld : decide (L K.toNat < L m) = true := decide_eq_true hlt2
        go_wp2_with fail
        go_quiet ((go_at_call 178; exact Calls.quiet_of_same (cut_any _ _ _ a0 a1 l0 l1)))
        go_wp2_with fail
        go_roundw
        case rel => exact ⟨m + 1, by omega, by go_num, val_int HB.out, drewN_more HW'.out _⟩
        case measure => simp [intOf]; omega
      · have HB : Hid (M.bestTo V L a (m + 1) = K) := hb1
        clear hb1
        have kd : decide (K < 0) = false := decide_eq_false (by omega)
        have ld : decide (L K.toNat < L m) = false := decide_eq_false hlt2
        go_wp2_with fail
        go_quiet ((go_at_call 178; exact Calls.quiet_of_same (cut_any _ _ _ a0 a1 l0 l1)))
        go_wp2_with fail
        go_roundw
        case rel => exact ⟨m + 1, by omega, by go_num, val_int HB.out, drewN_more HW'.out _⟩
        case measure => simp [intOf]; omega
    · have hkn : m = n := by omega
      subst hkn
      go_wp2
      go_ret
      exact ⟨rfl, HW'.out⟩
end Go.Proofs.YtegknlhadjhbdaaGreat
namespace Go.Proofs.YtegknlhadjhbdaaGreat
open Go.RowKit

theorem ret_ii {a b c d : Int} (h1 : a = c) (h2 : b = d) : Ending.returned (.tuple #[.int .i64 a, .int .i64 b]) = .returned (.tuple #[.int .i64 c, .int .i64 d]) := by rw [h1, h2]

set_option maxHeartbeats 1000000 in
theorem settled_any (ao : Option Addr) (b n c : Nat) (V L : Nat → Int) (a s : Int) (w : World) (hA : M.isA a = true) (hn : n ≤ 64) (hs : PS w ao b n V L) (hp : ∀ i, i < n → M.isP (V i) (L i) = true) (s0 : 0 ≤ s) (s1 : s ≤ 32) :
    Calls Tryz.prog 158 #[.slice ao n c, .int .i64 a, .int .i64 s] w fun e w' => e = .returned (.bool (decide (M.depTo V L a n ≤ s))) ∧ ∃ m, w' = w.drewN m := by
  obtain ⟨a0, a1⟩ := M.isA_iff.1 hA
  have HP : Hid (∀ i, i < n → M.isP (V i) (L i) = true) := hp
  have hL : Hid (∀ i, i < n → 0 ≤ L i) := fun i hi => by have := M.isP_iff.1 (HP.out i hi); omega
  have hbi : Hid _ := M.best_is (V := V) (L := L) (a := a) (n := n) hL.out
  have hdi : Hid (M.depTo V L a n ≤ s ↔ ∀ i, i < n → M.need V L a i ≤ s) := M.dep_iff s0
  have hlo := longest_any ao b n c V L a w hA hn hs hp
  have hbl := M.best_lo (V := V) (L := L) (a := a) (n := n)
  generalize hK : M.bestTo V L a n = K at *
  have HLO : Hid (Calls Tryz.prog 159 #[.slice ao n c, .int .i64 a] w fun e w' => e = .returned (.int .i64 K) ∧ ∃ m, w' = w.drewN m) := hlo
  clear hp hlo hK
  obtain ⟨bl0, bl1⟩ := hbl
  go_enter Tryz.func158, Tryz.ntmps158
  go_wp2_with fail
  refine Calls.mono HLO.out ?_
  rintro e wq ⟨rfl, q, hq⟩
  have hsq : PS wq ao b n V L := by rw [hq]; exact hs.drewN q
  have HW : Hid (∃ q, wq = w.drewN q) := ⟨q, hq⟩
  clear hq hs HLO
  by_cases hbig : 0 ≤ K ∧ s < L K.toNat
  · obtain ⟨k0, kb⟩ := hbig
    obtain rfl := hsq.at_ (by omega)
    have hck := hsq.len K.toNat (by omega)
    have hf : Hid (decide (M.depTo V L a n ≤ s) = false) := decide_eq_false fun hd => by
      have := hdi.out.1 hd
      rcases hbi.out with ⟨g1, _⟩ | ⟨j, hj, g1, _, g3, _⟩
      · omega
      · have ej : K.toNat = j := by omega
        have h5 := this j hj
        rw [ej] at kb
        rw [M.need_iff] at h5
        omega
    go_wp2
    go_ret
    exact ⟨ret_bool hf.out.symm, HW.out⟩
  · have hgd : (K < 0) ∨ (0 ≤ K ∧ K < n ∧ ¬ s < L K.toNat) := by omega
    have htail : Hid True := trivial
    rcases hgd with hk | ⟨hk0, hk1, hk2⟩
    all_goals
      first
        | (have hck := hsq.len K.toNat (by omega); obtain rfl := hsq.at_ (by omega))
        | skip
      go_wp2_with fail
      go_loop [8] (fun i => ∃ m : Nat, m ≤ n ∧ i = .int .i64 m ∧ Hid (∀ i, i < m → M.need V L a i ≤ s)) (fun i => n - (intOf i).toNat)
      case atStart => exact ⟨0, by omega, rfl, fun i hi => by omega⟩
      case round =>
        obtain ⟨m, hm, rfl, hno⟩ := hrel
        by_cases hlt : m < n
        · have hat := hsq.at_ (by omega)
          first
            | (obtain rfl := hat)
            | (clear hat)
          have hv := hsq.val m hlt
          have hl := hsq.len m hlt
          obtain ⟨l0, l1, v0, v1, _⟩ := M.isP_iff.1 (HP.out m hlt)
          have hVA : M.isA (V m) = true := M.isA_iff.2 ⟨v0, v1⟩
          have hci := M.cut_iff hVA hA s0 s1
          have HCI : Hid ((V m - V m % M.p2 (32 - s).toNat == a - a % M.p2 (32 - s).toNat) = decide (s ≤ M.sh (V m) a)) := hci
          clear hci
          by_cases hls : s < L m
          · cases hy : decide (s ≤ M.sh (V m) a) with
            | true =>
              have hf : Hid (decide (M.depTo V L a n ≤ s) = false) := decide_eq_false fun hd => by
                have := hdi.out.1 hd m hlt
                rw [M.need_iff] at this
                exact this ⟨hls, of_decide_eq_true hy⟩
              have hcc := HCI.out
              rw [hy] at hcc
              clear hy
              go_wp2_with fail
              refine (cut_any _ _ _ v0 v1 s0 s1).mono ?_
              rintro e w' ⟨rfl, hww⟩
              subst w'
              go_wp2_with fail
              refine (cut_any _ _ _ a0 a1 s0 s1).mono ?_
              rintro e w' ⟨rfl, hww⟩
              subst w'
              go_wp2_with fail
              go_ret
              exact ⟨ret_bool hf.out.symm, HW.out⟩
            | false =>
              have HN : Hid (∀ i, i < m + 1 → M.need V L a i ≤ s) := fun i hi => by
                by_cases him : i = m
                · subst him; rw [M.need_iff]; intro h; exact absurd h.2 (of_decide_eq_false hy)
                · exact hno.out i (by omega)
              have hcc := HCI.out
              rw [hy] at hcc
              clear hy
              go_wp2_with fail
              refine (cut_any _ _ _ v0 v1 s0 s1).mono ?_
              rintro e w' ⟨rfl, hww⟩
              subst w'
              go_wp2_with fail
              refine (cut_any _ _ _ a0 a1 s0 s1).mono ?_
              rintro e w' ⟨rfl, hww⟩
              subst w'
              go_wp2_with fail
              go_round
              case rel => exact ⟨m + 1, by omega, by go_num, HN⟩
              case measure => simp [intOf]; omega
          · have HN : Hid (∀ i, i < m + 1 → M.need V L a i ≤ s) := fun i hi => by
              by_cases him : i = m
              · subst him; rw [M.need_iff]; intro h; exact hls h.1
              · exact hno.out i (by omega)
            go_wp2_with fail
            go_round
            case rel => exact ⟨m + 1, by omega, by go_num, HN⟩
            case measure => simp [intOf]; omega
        · have hmn : m = n := by omega
          subst hmn
          have hf : Hid (decide (M.depTo V L a m ≤ s) = true) := decide_eq_true (hdi.out.2 hno.out)
          go_wp2
          go_ret
          exact ⟨ret_bool hf.out.symm, HW.out⟩

set_option maxHeartbeats 400000 in
theorem match_any (ao : Option Addr) (b n c : Nat) (V L : Nat → Int) (a : Int) (w : World) (hA : M.isA a = true) (hn : n ≤ 64) (hs : PS w ao b n V L) (hp : ∀ i, i < n → M.isP (V i) (L i) = true) :
    Calls Tryz.prog 126 #[.slice ao n c, .int .i64 a] w fun e w' => e = .returned (.tuple #[.int .i64 (M.bestTo V L a n), .int .i64 (M.depTo V L a n)]) ∧ ∃ m, w' = w.drewN m := by
  have HP : Hid (∀ i, i < n → M.isP (V i) (L i) = true) := hp
  have dp := M.depTo_pos (V := V) (L := L) (a := a) (n := n)
  have dl := M.depTo_le (V := V) (L := L) (a := a) (n := n) (fun i hi => by have := M.isP_iff.1 (HP.out i hi); omega)
  generalize hD : M.depTo V L a n = D at *
  have HD : Hid (M.depTo V L a n = D) := hD
  clear hp hD
  go_enter Tryz.func126, Tryz.ntmps126
  go_wp2
  go_loopw [6] (fun i wr => ∃ m : Nat, (m : Int) ≤ D ∧ i = .int .i64 m ∧ ∃ q, wr = w.drewN q) (fun i _ => D.toNat - (intOf i).toNat)
  case atStart => exact ⟨0, by omega, rfl, 0, rfl⟩
  case round =>
    obtain ⟨m, hm, rfl, HW⟩ := hrel
    have hs' : PS wr ao b n V L := by obtain ⟨q, e⟩ := HW; rw [e]; exact hs.drewN q
    have HW' : Hid (∃ q, wr = w.drewN q) := HW
    have hse := settled_any ao b n c V L a m wr hA hn hs' HP.out (by omega) (by omega)
    rw [HD.out] at hse
    have HSE : Hid _ := hse
    clear HW hse
    by_cases hlt : (m : Int) < D
    · have hd : decide (D ≤ (m : Int)) = false := decide_eq_false (by omega)
      go_wp2_with fail
      refine Calls.mono HSE.out ?_
      rintro e w1 ⟨rfl, q1, hq1⟩
      have HW1 : Hid (∃ q, w1 = w.drewN q) := by rw [hq1]; exact drewN_more HW'.out _
      clear hq1
      go_wp2_with fail
      go_roundw
      case rel => exact ⟨m + 1, by omega, by go_num, HW1⟩
      case measure => simp [intOf]; omega
    · have hd : decide (D ≤ (m : Int)) = true := decide_eq_true (by omega)
      have hme : Hid (D = m) := by show _ = _; omega
      go_wp2_with fail
      refine Calls.mono HSE.out ?_
      rintro e w1 ⟨rfl, q1, hq1⟩
      have HW1 : Hid (∃ q, w1 = w.drewN q) := by rw [hq1]; exact drewN_more HW'.out _
      have hs1 : PS w1 ao b n V L := by rw [hq1]; exact hs'.drewN q1
      clear hq1
      go_wp2_with fail
      refine (longest_any ao b n c V L a _ hA hn hs1 HP.out).mono ?_
      rintro e w2 ⟨rfl, q2, hq2⟩
      have HW2 : Hid (∃ q, w2 = w.drewN q) := by rw [hq2]; exact drewN_more HW1.out _
      clear hq2
      go_wp2_with fail
      go_ret2
      exact ⟨ret_ii rfl hme.out.symm, HW2.out⟩

theorem below_of_drew {w w' : World} (h : ∃ m, w' = w.drewN m) : Below w.heap.size w w' := by
  obtain ⟨m, rfl⟩ := h
  exact bel_drewN (Below.refl _ _) m

set_option maxHeartbeats 400000 in
theorem MatchRef_no (ao : Option Addr) (b n c : Nat) (V L : Nat → Int) (a : Int) (w : World) (hn : n ≤ 9223372036854775807) (hs : PS w ao b n V L) (h : M.isA a = false ∨ M.isMap V L n = false) :
    Calls Tryz.prog 69 #[.slice ao n c, .int .i64 a] w fun e w' => e = .returned (.tuple #[.int .i64 0, .int .i64 0, .int .i64 9]) ∧ Below w.heap.size w w' := by
  cases hM : M.isMap V L n with
  | false =>
    clear h
    go_enter Tryz.func69, Tryz.ntmps69
    go_wp2_with fail
    refine (areMap_any _ b _ _ V L _ hn hs).mono ?_
    rintro e w1 ⟨rfl, hb1⟩
    go_wp2_with fail
    go_ret3
    exact ⟨rfl, hb1⟩
  | true =>
    have hA : M.isA a = false := by simpa [hM] using h
    clear h
    go_enter Tryz.func69, Tryz.ntmps69
    go_wp2_with fail
    refine (areMap_any _ b _ _ V L _ hn hs).mono ?_
    rintro e w1 ⟨rfl, hb1⟩
    go_wp2_with fail
    refine (isAddr_is false _ _ hA).mono ?_
    rintro e w' ⟨rfl, hww⟩
    subst w'
    go_wp2_with fail
    go_ret3
    exact ⟨rfl, hb1⟩

set_option maxHeartbeats 400000 in
theorem MatchRef_ok (ao : Option Addr) (b n c : Nat) (V L : Nat → Int) (a : Int) (w : World) (hs : PS w ao b n V L) (hA : M.isA a = true) (hM : M.isMap V L n = true) :
    Calls Tryz.prog 69 #[.slice ao n c, .int .i64 a] w fun e w' => e = .returned (.tuple #[.int .i64 (M.bestTo V L a n), .int .i64 (M.depTo V L a n), .int .i64 0]) ∧ Below w.heap.size w w' := by
  have hm : n ≤ 64 ∧ M.okTo V L n = true := by simpa [M.isMap] using hM
  have hP : Hid (∀ i, i < n → M.isP (V i) (L i) = true) := fun i hi => (M.okTo_iff.1 hm.2 i hi).1
  obtain ⟨h64, _⟩ := hm
  go_enter Tryz.func69, Tryz.ntmps69
  go_wp2_with fail
  refine (areMap_any _ b _ _ V L _ (by omega) hs).mono ?_
  rintro e w1 ⟨rfl, hb1⟩
  have hs1 := hs.below hb1
  go_wp2_with fail
  refine (isAddr_is true _ _ hA).mono ?_
  rintro e w' ⟨rfl, hww⟩
  subst w'
  go_wp2_with fail
  refine (match_any _ b _ _ V L _ _ hA h64 hs1 hP.out).mono ?_
  rintro e w2 ⟨rfl, hb2⟩
  have hb3 := below_of_drew hb2
  clear hb2
  go_wp2_with fail
  go_ret3
  exact ⟨rfl, hb1.trans (hb3.mono hb1.size)⟩
end Go.Proofs.YtegknlhadjhbdaaGreat
namespace Go.Proofs.YtegknlhadjhbdaaGreat
open Go.RowKit

theorem Tryz.infoPrefix : (Tryz.prog.info? 99).map (fun i => (i.zero, i.size, i.bytes)) = some (some (.agg #[.int .i64 0, .int .i64 0]), 2, 16) := by kernel_rfl
theorem Tryz.infoPlace : (Tryz.prog.info? 101).map (fun i => (i.zero, i.size, i.bytes)) = some (some (.agg #[.int .i64 0, .int .i64 0, .int .i64 0]), 3, 24) := by kernel_rfl

/-- The cells of prefixes; of places. -/
def pc (V L : Nat → Int) : Nat → List Value
  | 0 => []
  | n + 1 => pc V L n ++ [.int .i64 (V n), .int .i64 (L n)]
def tc (V L R : Nat → Int) : Nat → List Value
  | 0 => []
  | n + 1 => tc V L R n ++ [.int .i64 (V n), .int .i64 (L n), .int .i64 (R n)]
theorem pc_len (V L : Nat → Int) (n : Nat) : (pc V L n).length = n * 2 := by
  induction n with
  | zero => rfl
  | succ n ih => simp [pc, ih]; omega
theorem tc_len (V L R : Nat → Int) (n : Nat) : (tc V L R n).length = n * 3 := by
  induction n with
  | zero => rfl
  | succ n ih => simp [tc, ih]; omega
theorem pc_get (V L : Nat → Int) {n i : Nat} (h : i < n) : (pc V L n)[i * 2]? = some (.int .i64 (V i)) ∧ (pc V L n)[i * 2 + 1]? = some (.int .i64 (L i)) := by
  induction n with
  | zero => omega
  | succ n ih =>
    simp only [pc]
    by_cases hi : i = n
    · subst hi
      rw [List.getElem?_append_right (by rw [pc_len]; omega), List.getElem?_append_right (by rw [pc_len]; omega), pc_len]
      simp
    · have := ih (by omega)
      rw [List.getElem?_append_left (by rw [pc_len]; omega), List.getElem?_append_left (by rw [pc_len]; omega)]
      exact this
theorem tc_get (V L R : Nat → Int) {n i : Nat} (h : i < n) : (tc V L R n)[i * 3]? = some (.int .i64 (V i)) ∧ (tc V L R n)[i * 3 + 1]? = some (.int .i64 (L i)) ∧ (tc V L R n)[i * 3 + 2]? = some (.int .i64 (R i)) := by
  induction n with
  | zero => omega
  | succ n ih =>
    simp only [tc]
    by_cases hi : i = n
    · subst hi
      rw [List.getElem?_append_right (by rw [tc_len]; omega), List.getElem?_append_right (by rw [tc_len]; omega), List.getElem?_append_right (by rw [tc_len]; omega), tc_len]
      simp
    · have := ih (by omega)
      rw [List.getElem?_append_left (by rw [tc_len]; omega), List.getElem?_append_left (by rw [tc_len]; omega), List.getElem?_append_left (by rw [tc_len]; omega)]
      exact this

/-- A list of places in memory. -/
structure TS (w : World) (ao : Option Addr) (b off n : Nat) (V L R : Nat → Int) : Prop where
  at_ : 0 < n → ao = some ⟨b, off, none⟩
  lt : 0 < n → b < w.heap.size
  val : ∀ i, i < n → w.cell? ⟨b, off + i * 3, none⟩ = some (.int .i64 (V i))
  len : ∀ i, i < n → w.cell? ⟨b, off + i * 3 + 1, none⟩ = some (.int .i64 (L i))
  reg : ∀ i, i < n → w.cell? ⟨b, off + i * 3 + 2, none⟩ = some (.int .i64 (R i))
theorem TS.below {w w' : World} {ao b off n V L R} (h : TS w ao b off n V L R) (hb : Below w.heap.size w w') : TS w' ao b off n V L R :=
  ⟨h.at_, fun hn => Nat.lt_of_lt_of_le (h.lt hn) hb.size, fun i hi => by rw [hb.cell (h.lt (by omega))]; exact h.val i hi, fun i hi => by rw [hb.cell (h.lt (by omega))]; exact h.len i hi, fun i hi => by rw [hb.cell (h.lt (by omega))]; exact h.reg i hi⟩

theorem ps_of_owns {w : World} {base : Nat} {v : Value} {n : Nat} {V L : Nat → Int} (h : w.ownsRow base 99 2 v n (pc V L n)) :
    ∃ ao b c, v = .slice ao n c ∧ n ≤ c ∧ (n = 0 ∨ base ≤ b) ∧ PS w ao b n V L := by
  have hh := h
  rcases h.2 with ⟨rfl, rfl⟩ | ⟨g, cap, cur, rfl, hb, hg, hnc, _, _, _⟩
  · exact ⟨none, 0, 0, rfl, Nat.le_refl _, .inl rfl, ⟨fun h => by omega, fun h => by omega, fun i hi => by omega, fun i hi => by omega⟩⟩
  · refine ⟨some ⟨g, 0, none⟩, g, cap, rfl, hnc, .inr hb, ⟨fun _ => rfl, fun _ => ?_, fun i hi => ?_, fun i hi => ?_⟩⟩
    · exact (hh.lt g rfl).2
    · rw [hh.cellAt (i * 2) (by omega)]; exact (pc_get V L hi).1
    · rw [hh.cellAt (i * 2 + 1) (by omega)]; exact (pc_get V L hi).2
theorem ts_of_owns {w : World} {base : Nat} {v : Value} {n : Nat} {V L R : Nat → Int} (h : w.ownsRow base 101 3 v n (tc V L R n)) :
    ∃ ao b c, v = .slice ao n c ∧ n ≤ c ∧ (n = 0 ∨ base ≤ b) ∧ TS w ao b 0 n V L R := by
  have hh := h
  rcases h.2 with ⟨rfl, rfl⟩ | ⟨g, cap, cur, rfl, hb, hg, hnc, _, _, _⟩
  · exact ⟨none, 0, 0, rfl, Nat.le_refl _, .inl rfl, ⟨fun h => by omega, fun h => by omega, fun i hi => by omega, fun i hi => by omega, fun i hi => by omega⟩⟩
  · refine ⟨some ⟨g, 0, none⟩, g, cap, rfl, hnc, .inr hb, ⟨fun _ => rfl, fun _ => ?_, fun i hi => ?_, fun i hi => ?_, fun i hi => ?_⟩⟩
    · exact (hh.lt g rfl).2
    · rw [Nat.zero_add, hh.cellAt (i * 3) (by omega)]; exact (tc_get V L R hi).1
    · rw [Nat.zero_add, hh.cellAt (i * 3 + 1) (by omega)]; exact (tc_get V L R hi).2.1
    · rw [Nat.zero_add, hh.cellAt (i * 3 + 2) (by omega)]; exact (tc_get V L R hi).2.2

theorem news2 (w : World) (x y : Value) (t : TypeId) : ∀ j u, ([x, y] : List Value)[j]? = some u → (w.alloc (.cells #[x, y] t)).cell? ((⟨w.heap.size, 0, none⟩ : Addr).add j) = some u := by
  intro j u hj
  match j, hj with
  | 0, hj => simp at hj; subst hj; simp [Addr.add]
  | 1, hj => simp at hj; subst hj; simp [Addr.add]

set_option maxHeartbeats 400000 in
theorem prefixes_any (ao : Option Addr) (b off n c : Nat) (V L R : Nat → Int) (w : World) (hn : n * 24 ≤ 140737488351232) (hs : TS w ao b off n V L R) :
    Calls Tryz.prog 58 #[.slice ao n c] w fun e w' => (∃ v, e = .returned v ∧ w'.ownsRow w.heap.size 99 2 v n (pc V L n)) ∧ Below w.heap.size w w' := by
  obtain ⟨i0, hi, hz0, hz1, hz2⟩ := info_parts Tryz.infoPrefix
  go_enter Tryz.func58, Tryz.ntmps58
  go_wp2
  go_loopw [3, 4] (fun v i wr => ∃ k : Nat, k ≤ n ∧ i = .int .i64 k ∧ wr.ownsRow w.heap.size 99 2 v k (pc V L k) ∧ Below w.heap.size w wr) (fun _ i _ => n - (intOf i).toNat)
  case atStart => exact ⟨0, by omega, rfl, World.ownsRow_nil _ _ _ _, Below.refl _ _⟩
  case round =>
    obtain ⟨k, hk, rfl, hown, hb⟩ := hrel
    by_cases hlt : k < n
    · obtain rfl := hs.at_ (by omega)
      have hps := hs.below hb
      have hv := hps.val k hlt
      have hl := hps.len k hlt
      have hbb : b < wr.heap.size := hps.lt (by omega)
      have hsize := hb.size
      clear hs hps
      go_wp2_with (at_builtin; refine wpList_append_own _ rfl _ _ 103 rfl w.heap.size 99 i0 (.agg #[.int .i64 0, .int .i64 0]) 2 16 Tryz.underlying103 hi hz0 hz1 hz2 rfl (by decide) _ _ _ rfl (hown.alloc _) ⟨wr.heap.size, 0, none⟩ 1 1 [.int .i64 (V k), .int .i64 (L k)] rfl rfl (news2 _ _ _ _) (fun x hx => by simp at hx; rcases hx with rfl | rfl <;> rfl) (by unfold maxLen; omega) (by omega) (by simp; omega) ?_; intro v' w1 hown1 hgrow1 _)
      have hx : Hid (Below w.heap.size w w1) := (hb.alloc hb.size _).grown hgrow1 (by simp; omega) (fun q hq => (hown.lt q hq).1)
      go_roundw
      case rel => exact ⟨k + 1, by omega, by go_num, hown1, hx⟩
      case measure => simp [intOf]; omega
    · have hkn : k = n := by omega
      subst hkn
      go_wp2
      go_ret
      exact ⟨⟨_, rfl, hown⟩, hb⟩
end Go.Proofs.YtegknlhadjhbdaaGreat
namespace Go.Proofs.YtegknlhadjhbdaaGreat
open Go.RowKit

theorem buildPfx (a b : Int) (w : World) : (Instr.build 99 #[(0, .int .i64 a), (1, .int .i64 b)]).run Tryz.prog w = .ok (.agg #[.int .i64 a, .int .i64 b]) w := run_build w 99 _ _ (by kernel_rfl)
theorem buildPlc (a b c : Int) (w : World) : (Instr.build 101 #[(0, .agg #[.int .i64 a, .int .i64 b]), (1, .int .i64 c)]).run Tryz.prog w = .ok (.agg #[.int .i64 a, .int .i64 b, .int .i64 c]) w := run_build w 101 _ _ (by kernel_rfl)

set_option maxHeartbeats 400000 in
theorem far_any (w : World) :
    Calls Tryz.prog 122 #[] w fun e w' => e = .returned (.agg #[.int .i64 77, .int .i64 77, .int .i64 77]) ∧ Below w.heap.size w w' := by
  have h1 := fun w => buildPfx 77 77 w
  have h2 := fun w => buildPlc 77 77 77 w
  go_enter Tryz.func122, Tryz.ntmps122
  go_wp2
  exact bodyPost_ret (v := .agg #[.int .i64 77, .int .i64 77, .int .i64 77]) (by simp [results, Tryz.results122, go_sem]) rfl ⟨rfl, (by repeat (first | exact Below.refl _ _ | refine Below.alloc ?_ (by simp) _ | refine Below.setCell ?_ (by simp) _))⟩
end Go.Proofs.YtegknlhadjhbdaaGreat
