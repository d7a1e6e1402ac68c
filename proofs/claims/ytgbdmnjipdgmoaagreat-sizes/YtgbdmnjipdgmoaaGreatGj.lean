/-
  OUR OWN: the document's answer to Match: settled, match, Match.
-/
import Derived.Test.YtgbdmnjipdgmoaaGreatGi
namespace Go.Proofs.YtgbdmnjipdgmoaaGreat
open Go.RowKit

theorem ret_ii {a b c d : Int} (h1 : a = c) (h2 : b = d) : Ending.returned (.tuple #[.int .i64 a, .int .i64 b]) = .returned (.tuple #[.int .i64 c, .int .i64 d]) := by rw [h1, h2]

set_option maxHeartbeats 1000000 in
theorem settled_any (ao : Option Addr) (b n c : Nat) (V L : Nat → Int) (a s : Int) (w : World) (hA : M.isA a = true) (hn : n ≤ 64) (hs : PS w ao b n V L) (hp : ∀ i, i < n → M.isP (V i) (L i) = true) (s0 : 0 ≤ s) (s1 : s ≤ 32) :
    Calls Tryz.prog 77 #[.slice ao n c, .int .i64 a, .int .i64 s] w fun e w' => e = .returned (.bool (decide (M.depTo V L a n ≤ s))) ∧ ∃ m, w' = w.drewN m := by
  obtain ⟨a0, a1⟩ := M.isA_iff.1 hA
  have HP : Hid (∀ i, i < n → M.isP (V i) (L i) = true) := hp
  have hL : Hid (∀ i, i < n → 0 ≤ L i) := fun i hi => by have := M.isP_iff.1 (HP.out i hi); omega
  have hbi : Hid _ := M.best_is (V := V) (L := L) (a := a) (n := n) hL.out
  have hdi : Hid (M.depTo V L a n ≤ s ↔ ∀ i, i < n → M.need V L a i ≤ s) := M.dep_iff s0
  have hlo := longest_any ao b n c V L a w hA hn hs hp
  have hbl := M.best_lo (V := V) (L := L) (a := a) (n := n)
  generalize hK : M.bestTo V L a n = K at *
  have HLO : Hid (Calls Tryz.prog 78 #[.slice ao n c, .int .i64 a] w fun e w' => e = .returned (.int .i64 K) ∧ ∃ m, w' = w.drewN m) := hlo
  clear hp hlo hK
  obtain ⟨bl0, bl1⟩ := hbl
  go_enter Tryz.func77, Tryz.ntmps77
  go_wp2_with fail
  refine Calls.mono HLO.out ?_
  rintro e wq ⟨rfl, q, hq⟩
  have hsq : PS wq ao b n V L := by rw [hq]; exact hs.drewN q
  have HW : Hid (∃ q, wq = w.drewN q) := ⟨q, hq⟩
  clear hq hs HLO
  by_cases hbig : 0 ≤ K ∧ s < L K.toNat
  · obtain ⟨k0, kb⟩ := hbig
    obtain rfl := hsq.at_ (by omega)
    have hck := hsq.len K.toNat (by omega)
    have hf : Hid (decide (M.depTo V L a n ≤ s) = false) := decide_eq_false fun hd => by
      have := hdi.out.1 hd
      rcases hbi.out with ⟨g1, _⟩ | ⟨j, hj, g1, _, g3, _⟩
      · omega
      · have ej : K.toNat = j := by omega
        have h5 := this j hj
        rw [ej] at kb
        rw [M.need_iff] at h5
        omega
    go_wp2
    go_ret
    exact ⟨ret_bool hf.out.symm, HW.out⟩
  · have hgd : (K < 0) ∨ (0 ≤ K ∧ K < n ∧ ¬ s < L K.toNat) := by omega
    have htail : Hid True := trivial
    rcases hgd with hk | ⟨hk0, hk1, hk2⟩
    all_goals
      first
        | (have hck := hsq.len K.toNat (by omega); obtain rfl := hsq.at_ (by omega))
        | skip
      go_wp2_with fail
      go_loop [8] (fun i => ∃ m : Nat, m ≤ n ∧ i = .int .i64 m ∧ Hid (∀ i, i < m → M.need V L a i ≤ s)) (fun i => n - (intOf i).toNat)
      case atStart => exact ⟨0, by omega, rfl, fun i hi => by omega⟩
      case round =>
        obtain ⟨m, hm, rfl, hno⟩ := hrel
        by_cases hlt : m < n
        · have hat := hsq.at_ (by omega)
          first
            | (obtain rfl := hat)
            | (clear hat)
          have hv := hsq.val m hlt
          have hl := hsq.len m hlt
          obtain ⟨l0, l1, v0, v1, _⟩ := M.isP_iff.1 (HP.out m hlt)
          have hVA : M.isA (V m) = true := M.isA_iff.2 ⟨v0, v1⟩
          have hci := M.cut_iff hVA hA s0 s1
          have HCI : Hid ((V m - V m % M.p2 (32 - s).toNat == a - a % M.p2 (32 - s).toNat) = decide (s ≤ M.sh (V m) a)) := hci
          clear hci
          by_cases hls : s < L m
          · cases hy : decide (s ≤ M.sh (V m) a) with
            | true =>
              have hf : Hid (decide (M.depTo V L a n ≤ s) = false) := decide_eq_false fun hd => by
                have := hdi.out.1 hd m hlt
                rw [M.need_iff] at this
                exact this ⟨hls, of_decide_eq_true hy⟩
              have hcc := HCI.out
              rw [hy] at hcc
              clear hy
              go_wp2_with fail
              refine (cut_any _ _ _ v0 v1 s0 s1).mono ?_
              rintro e w' ⟨rfl, hww⟩
              subst w'
              go_wp2_with fail
              refine (cut_any _ _ _ a0 a1 s0 s1).mono ?_
              rintro e w' ⟨rfl, hww⟩
              subst w'
              go_wp2_with fail
              go_ret
              exact ⟨ret_bool hf.out.symm, HW.out⟩
            | false =>
              have HN : Hid (∀ i, i < m + 1 → M.need V L a i ≤ s) := fun i hi => by
                by_cases him : i = m
                · subst him; rw [M.need_iff]; intro h; exact absurd h.2 (of_decide_eq_false hy)
                · exact hno.out i (by omega)
              have hcc := HCI.out
              rw [hy] at hcc
              clear hy
              go_wp2_with fail
              refine (cut_any _ _ _ v0 v1 s0 s1).mono ?_
              rintro e w' ⟨rfl, hww⟩
              subst w'
              go_wp2_with fail
              refine (cut_any _ _ _ a0 a1 s0 s1).mono ?_
              rintro e w' ⟨rfl, hww⟩
              subst w'
              go_wp2_with fail
              go_round
              case rel => exact ⟨m + 1, by omega, by go_num, HN⟩
              case measure => simp [intOf]; omega
          · have HN : Hid (∀ i, i < m + 1 → M.need V L a i ≤ s) := fun i hi => by
              by_cases him : i = m
              · subst him; rw [M.need_iff]; intro h; exact hls h.1
              · exact hno.out i (by omega)
            go_wp2_with fail
            go_round
            case rel => exact ⟨m + 1, by omega, by go_num, HN⟩
            case measure => simp [intOf]; omega
        · have hmn : m = n := by omega
          subst hmn
          have hf : Hid (decide (M.depTo V L a m ≤ s) = true) := decide_eq_true (hdi.out.2 hno.out)
          go_wp2
          go_ret
          exact ⟨ret_bool hf.out.symm, HW.out⟩

set_option maxHeartbeats 400000 in
theorem match_any (ao : Option Addr) (b n c : Nat) (V L : Nat → Int) (a : Int) (w : World) (hA : M.isA a = true) (hn : n ≤ 64) (hs : PS w ao b n V L) (hp : ∀ i, i < n → M.isP (V i) (L i) = true) :
    Calls Tryz.prog 60 #[.slice ao n c, .int .i64 a] w fun e w' => e = .returned (.tuple #[.int .i64 (M.bestTo V L a n), .int .i64 (M.depTo V L a n)]) ∧ ∃ m, w' = w.drewN m := by
  have HP : Hid (∀ i, i < n → M.isP (V i) (L i) = true) := hp
  have dp := M.depTo_pos (V := V) (L := L) (a := a) (n := n)
  have dl := M.depTo_le (V := V) (L := L) (a := a) (n := n) (fun i hi => by have := M.isP_iff.1 (HP.out i hi); omega)
  generalize hD : M.depTo V L a n = D at *
  have HD : Hid (M.depTo V L a n = D) := hD
  clear hp hD
  go_enter Tryz.func60, Tryz.ntmps60
  go_wp2
  go_loopw [6] (fun i wr => ∃ m : Nat, (m : Int) ≤ D ∧ i = .int .i64 m ∧ ∃ q, wr = w.drewN q) (fun i _ => D.toNat - (intOf i).toNat)
  case atStart => exact ⟨0, by omega, rfl, 0, rfl⟩
  case round =>
    obtain ⟨m, hm, rfl, HW⟩ := hrel
    have hs' : PS wr ao b n V L := by obtain ⟨q, e⟩ := HW; rw [e]; exact hs.drewN q
    have HW' : Hid (∃ q, wr = w.drewN q) := HW
    have hse := settled_any ao b n c V L a m wr hA hn hs' HP.out (by omega) (by omega)
    rw [HD.out] at hse
    have HSE : Hid _ := hse
    clear HW hse
    by_cases hlt : (m : Int) < D
    · have hd : decide (D ≤ (m : Int)) = false := decide_eq_false (by omega)
      go_wp2_with fail
      refine Calls.mono HSE.out ?_
      rintro e w1 ⟨rfl, q1, hq1⟩
      have HW1 : Hid (∃ q, w1 = w.drewN q) := by rw [hq1]; exact drewN_more HW'.out _
      clear hq1
      go_wp2_with fail
      go_roundw
      case rel => exact ⟨m + 1, by omega, by go_num, HW1⟩
      case measure => simp [intOf]; omega
    · have hd : decide (D ≤ (m : Int)) = true := decide_eq_true (by omega)
      have hme : Hid (D = m) := by show _ = _; omega
      go_wp2_with fail
      refine Calls.mono HSE.out ?_
      rintro e w1 ⟨rfl, q1, hq1⟩
      have HW1 : Hid (∃ q, w1 = w.drewN q) := by rw [hq1]; exact drewN_more HW'.out _
      have hs1 : PS w1 ao b n V L := by rw [hq1]; exact hs'.drewN q1
      clear hq1
      go_wp2_with fail
      refine (longest_any ao b n c V L a _ hA hn hs1 HP.out).mono ?_
      rintro e w2 ⟨rfl, q2, hq2⟩
      have HW2 : Hid (∃ q, w2 = w.drewN q) := by rw [hq2]; exact drewN_more HW1.out _
      clear hq2
      go_wp2_with fail
      go_ret2
      exact ⟨ret_ii rfl hme.out.symm, HW2.out⟩

theorem below_of_drew {w w' : World} (h : ∃ m, w' = w.drewN m) : Below w.heap.size w w' := by
  obtain ⟨m, rfl⟩ := h
  exact bel_drewN (Below.refl _ _) m

set_option maxHeartbeats 400000 in
theorem MatchRef_no (ao : Option Addr) (b n c : Nat) (V L : Nat → Int) (a : Int) (w : World) (hn : n ≤ 9223372036854775807) (hs : PS w ao b n V L) (h : M.isA a = false ∨ M.isMap V L n = false) :
    Calls Tryz.prog 24 #[.slice ao n c, .int .i64 a] w fun e w' => e = .returned (.tuple #[.int .i64 0, .int .i64 0, .int .i64 9]) ∧ Below w.heap.size w w' := by
  cases hM : M.isMap V L n with
  | false =>
    clear h
    go_enter Tryz.func24, Tryz.ntmps24
    go_wp2_with fail
    refine (areMap_any _ b _ _ V L _ hn hs).mono ?_
    rintro e w1 ⟨rfl, hb1⟩
    go_wp2_with fail
    go_ret3
    exact ⟨rfl, hb1⟩
  | true =>
    have hA : M.isA a = false := by simpa [hM] using h
    clear h
    go_enter Tryz.func24, Tryz.ntmps24
    go_wp2_with fail
    refine (areMap_any _ b _ _ V L _ hn hs).mono ?_
    rintro e w1 ⟨rfl, hb1⟩
    go_wp2_with fail
    refine (isAddr_is false _ _ hA).mono ?_
    rintro e w' ⟨rfl, hww⟩
    subst w'
    go_wp2_with fail
    go_ret3
    exact ⟨rfl, hb1⟩

set_option maxHeartbeats 400000 in
theorem MatchRef_ok (ao : Option Addr) (b n c : Nat) (V L : Nat → Int) (a : Int) (w : World) (hs : PS w ao b n V L) (hA : M.isA a = true) (hM : M.isMap V L n = true) :
    Calls Tryz.prog 24 #[.slice ao n c, .int .i64 a] w fun e w' => e = .returned (.tuple #[.int .i64 (M.bestTo V L a n), .int .i64 (M.depTo V L a n), .int .i64 0]) ∧ Below w.heap.size w w' := by
  have hm : n ≤ 64 ∧ M.okTo V L n = true := by simpa [M.isMap] using hM
  have hP : Hid (∀ i, i < n → M.isP (V i) (L i) = true) := fun i hi => (M.okTo_iff.1 hm.2 i hi).1
  obtain ⟨h64, _⟩ := hm
  go_enter Tryz.func24, Tryz.ntmps24
  go_wp2_with fail
  refine (areMap_any _ b _ _ V L _ (by omega) hs).mono ?_
  rintro e w1 ⟨rfl, hb1⟩
  have hs1 := hs.below hb1
  go_wp2_with fail
  refine (isAddr_is true _ _ hA).mono ?_
  rintro e w' ⟨rfl, hww⟩
  subst w'
  go_wp2_with fail
  refine (match_any _ b _ _ V L _ _ hA h64 hs1 hP.out).mono ?_
  rintro e w2 ⟨rfl, hb2⟩
  have hb3 := below_of_drew hb2
  clear hb2
  go_wp2_with fail
  go_ret3
  exact ⟨rfl, hb1.trans (hb3.mono hb1.size)⟩
end Go.Proofs.YtgbdmnjipdgmoaaGreat
