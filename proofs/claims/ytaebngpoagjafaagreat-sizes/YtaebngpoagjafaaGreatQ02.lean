/-
  OUR OWN: the document's answer to Match: settled, match, Match.
  OUR OWN: lists that are built by append; the contracts of prefixes and Placed.
  OUR OWN: what is lent: far, lentPrefixes, wholePrefixes.
  OUR OWN: lentPrefixes.
  OUR OWN: the contract of matched.
  OUR OWN: the script's frame: pick, among, looks, plays.
  OUR OWN: a step that is a Match; Matches' walk.
-/
import Derived.Test.YtaebngpoagjafaaGreatQ01
import Derived.Deep.OwnRows
import Derived.Laws.ResultCell
namespace Go.Proofs.YtaebngpoagjafaaGreat
open Go.RowKit

theorem ret_ii {a b c d : Int} (h1 : a = c) (h2 : b = d) : Ending.returned (.tuple #[.int .i64 a, .int .i64 b]) = .returned (.tuple #[.int .i64 c, .int .i64 d]) := by rw [h1, h2]

set_option maxHeartbeats 1000000 in
theorem settled_any (ao : Option Addr) (b n c : Nat) (V L : Nat → Int) (a s : Int) (w : World) (hA : M.isA a = true) (hn : n ≤ 64) (hs : PS w ao b n V L) (hp : ∀ i, i < n → M.isP (V i) (L i) = true) (s0 : 0 ≤ s) (s1 : s ≤ 32) :
    Calls Tryz.prog 160 #[.slice ao n c, .int .i64 a, .int .i64 s] w fun e w' => e = .returned (.bool (decide (M.depTo V L a n ≤ s))) ∧ ∃ m, w' = w.drewN m := by
  obtain ⟨a0, a1⟩ := M.isA_iff.1 hA
  have HP : Hid (∀ i, i < n → M.isP (V i) (L i) = true) := hp
  have hL : Hid (∀ i, i < n → 0 ≤ L i) := fun i hi => by have := M.isP_iff.1 (HP.out i hi); omega
  have hbi : Hid _ := M.best_is (V := V) (L := L) (a := a) (n := n) hL.out
  have hdi : Hid (M.depTo V L a n ≤ s ↔ ∀ i, i < n → M.need V L a i ≤ s) := M.dep_iff s0
  have hlo := longest_any ao b n c V L a w hA hn hs hp
  have hbl := M.best_lo (V := V) (L := L) (a := a) (n := n)
  generalize hK : M.bestTo V L a n = K at *
  have HLO : Hid (Calls Tryz.prog 161 #[.slice ao n c, .int .i64 a] w fun e w' => e = .returned (.int .i64 K) ∧ ∃ m, w' = w.drewN m) := hlo
  clear hp hlo hK
  obtain ⟨bl0, bl1⟩ := hbl
  go_enter Tryz.func160, Tryz.ntmps160
  go_wp2_with fail
  refine Calls.mono HLO.out ?_
  rintro e wq ⟨rfl, q, hq⟩
  have hsq : PS wq ao b n V L := by rw [hq]; exact hs.drewN q
  have HW : Hid (∃ q, wq = w.drewN q) := ⟨q, hq⟩
  clear hq hs HLO
  by_cases hbig : 0 ≤ K ∧ s < L K.toNat
  · obtain ⟨k0, kb⟩ := hbig
    obtain rfl := hsq.at_ (by omega)
    have hck := hsq.len K.toNat (by omega)
    have hf : Hid (decide (M.depTo V L a n ≤ s) = false) := decide_eq_false fun hd => by
      have := hdi.out.1 hd
      rcases hbi.out with ⟨g1, _⟩ | ⟨j, hj, g1, _, g3, _⟩
      · omega
      · have ej : K.toNat = j := by omega
        have h5 := this j hj
        rw [ej] at kb
        rw [M.need_iff] at h5
        omega
    go_wp2
    go_ret
    exact ⟨ret_bool hf.out.symm, HW.out⟩
  · have hgd : (K < 0) ∨ (0 ≤ K ∧ K < n ∧ ¬ s < L K.toNat) := by omega
    have htail : Hid True := trivial
    rcases hgd with hk | ⟨hk0, hk1, hk2⟩
    all_goals
      first
        | (have hck := hsq.len K.toNat (by omega); obtain rfl := hsq.at_ (by omega))
        | skip
      go_wp2_with fail
      go_loop [8] (fun i => ∃ m : Nat, m ≤ n ∧ i = .int .i64 m ∧ Hid (∀ i, i < m → M.need V L a i ≤ s)) (fun i => n - (intOf i).toNat)
      case atStart => exact ⟨0, by omega, rfl, fun i hi => by omega⟩
      case round =>
        obtain ⟨m, hm, rfl, hno⟩ := hrel
        by_cases hlt : m < n
        · have hat := hsq.at_ (by omega)
          first
            | (obtain rfl := hat)
            | (clear hat)
          have hv := hsq.val m hlt
          have hl := hsq.len m hlt
          obtain ⟨l0, l1, v0, v1, _⟩ := M.isP_iff.1 (HP.out m hlt)
          have hVA : M.isA (V m) = true := M.isA_iff.2 ⟨v0, v1⟩
          have hci := M.cut_iff hVA hA s0 s1
          have HCI : Hid ((V m - V m % M.p2 (32 - s).toNat == a - a % M.p2 (32 - s).toNat) = decide (s ≤ M.sh (V m) a)) := hci
          clear hci
          by_cases hls : s < L m
          · cases hy : decide (s ≤ M.sh (V m) a) with
            | true =>
              have hf : Hid (decide (M.depTo V L a n ≤ s) = false) := decide_eq_false fun hd => by
                have := hdi.out.1 hd m hlt
                rw [M.need_iff] at this
                exact this ⟨hls, of_decide_eq_true hy⟩
              have hcc := HCI.out
              rw [hy] at hcc
              clear hy
              go_wp2_with fail
              refine (cut_any _ _ _ v0 v1 s0 s1).mono ?_
              rintro e w' ⟨rfl, hww⟩
              subst w'
              go_wp2_with fail
              refine (cut_any _ _ _ a0 a1 s0 s1).mono ?_
              rintro e w' ⟨rfl, hww⟩
              subst w'
              go_wp2_with fail
              go_ret
              exact ⟨ret_bool hf.out.symm, HW.out⟩
            | false =>
              have HN : Hid (∀ i, i < m + 1 → M.need V L a i ≤ s) := fun i hi => by
                by_cases him : i = m
                · subst him; rw [M.need_iff]; intro h; exact absurd h.2 (of_decide_eq_false hy)
                · exact hno.out i (by omega)
              have hcc := HCI.out
              rw [hy] at hcc
              clear hy
              go_wp2_with fail
              refine (cut_any _ _ _ v0 v1 s0 s1).mono ?_
              rintro e w' ⟨rfl, hww⟩
              subst w'
              go_wp2_with fail
              refine (cut_any _ _ _ a0 a1 s0 s1).mono ?_
              rintro e w' ⟨rfl, hww⟩
              subst w'
              go_wp2_with fail
              go_round
              case rel => exact ⟨m + 1, by omega, by go_num, HN⟩
              case measure => simp [intOf]; omega
          · have HN : Hid (∀ i, i < m + 1 → M.need V L a i ≤ s) := fun i hi => by
              by_cases him : i = m
              · subst him; rw [M.need_iff]; intro h; exact hls h.1
              · exact hno.out i (by omega)
            go_wp2_with fail
            go_round
            case rel => exact ⟨m + 1, by omega, by go_num, HN⟩
            case measure => simp [intOf]; omega
        · have hmn : m = n := by omega
          subst hmn
          have hf : Hid (decide (M.depTo V L a m ≤ s) = true) := decide_eq_true (hdi.out.2 hno.out)
          go_wp2
          go_ret
          exact ⟨ret_bool hf.out.symm, HW.out⟩

set_option maxHeartbeats 400000 in
theorem match_any (ao : Option Addr) (b n c : Nat) (V L : Nat → Int) (a : Int) (w : World) (hA : M.isA a = true) (hn : n ≤ 64) (hs : PS w ao b n V L) (hp : ∀ i, i < n → M.isP (V i) (L i) = true) :
    Calls Tryz.prog 126 #[.slice ao n c, .int .i64 a] w fun e w' => e = .returned (.tuple #[.int .i64 (M.bestTo V L a n), .int .i64 (M.depTo V L a n)]) ∧ ∃ m, w' = w.drewN m := by
  have HP : Hid (∀ i, i < n → M.isP (V i) (L i) = true) := hp
  have dp := M.depTo_pos (V := V) (L := L) (a := a) (n := n)
  have dl := M.depTo_le (V := V) (L := L) (a := a) (n := n) (fun i hi => by have := M.isP_iff.1 (HP.out i hi); omega)
  generalize hD : M.depTo V L a n = D at *
  have HD : Hid (M.depTo V L a n = D) := hD
  clear hp hD
  go_enter Tryz.func126, Tryz.ntmps126
  go_wp2
  go_loopw [6] (fun i wr => ∃ m : Nat, (m : Int) ≤ D ∧ i = .int .i64 m ∧ ∃ q, wr = w.drewN q) (fun i _ => D.toNat - (intOf i).toNat)
  case atStart => exact ⟨0, by omega, rfl, 0, rfl⟩
  case round =>
    obtain ⟨m, hm, rfl, HW⟩ := hrel
    have hs' : PS wr ao b n V L := by obtain ⟨q, e⟩ := HW; rw [e]; exact hs.drewN q
    have HW' : Hid (∃ q, wr = w.drewN q) := HW
    have hse := settled_any ao b n c V L a m wr hA hn hs' HP.out (by omega) (by omega)
    rw [HD.out] at hse
    have HSE : Hid _ := hse
    clear HW hse
    by_cases hlt : (m : Int) < D
    · have hd : decide (D ≤ (m : Int)) = false := decide_eq_false (by omega)
      go_wp2_with fail
      refine Calls.mono HSE.out ?_
      rintro e w1 ⟨rfl, q1, hq1⟩
      have HW1 : Hid (∃ q, w1 = w.drewN q) := by rw [hq1]; exact drewN_more HW'.out _
      clear hq1
      go_wp2_with fail
      go_roundw
      case rel => exact ⟨m + 1, by omega, by go_num, HW1⟩
      case measure => simp [intOf]; omega
    · have hd : decide (D ≤ (m : Int)) = true := decide_eq_true (by omega)
      have hme : Hid (D = m) := by show _ = _; omega
      go_wp2_with fail
      refine Calls.mono HSE.out ?_
      rintro e w1 ⟨rfl, q1, hq1⟩
      have HW1 : Hid (∃ q, w1 = w.drewN q) := by rw [hq1]; exact drewN_more HW'.out _
      have hs1 : PS w1 ao b n V L := by rw [hq1]; exact hs'.drewN q1
      clear hq1
      go_wp2_with fail
      refine (longest_any ao b n c V L a _ hA hn hs1 HP.out).mono ?_
      rintro e w2 ⟨rfl, q2, hq2⟩
      have HW2 : Hid (∃ q, w2 = w.drewN q) := by rw [hq2]; exact drewN_more HW1.out _
      clear hq2
      go_wp2_with fail
      go_ret2
      exact ⟨ret_ii rfl hme.out.symm, HW2.out⟩

theorem below_of_drew {w w' : World} (h : ∃ m, w' = w.drewN m) : Below w.heap.size w w' := by
  obtain ⟨m, rfl⟩ := h
  exact bel_drewN (Below.refl _ _) m

set_option maxHeartbeats 400000 in
theorem MatchRef_no (ao : Option Addr) (b n c : Nat) (V L : Nat → Int) (a : Int) (w : World) (hn : n ≤ 9223372036854775807) (hs : PS w ao b n V L) (h : M.isA a = false ∨ M.isMap V L n = false) :
    Calls Tryz.prog 69 #[.slice ao n c, .int .i64 a] w fun e w' => e = .returned (.tuple #[.int .i64 0, .int .i64 0, .int .i64 9]) ∧ Below w.heap.size w w' := by
  cases hM : M.isMap V L n with
  | false =>
    clear h
    go_enter Tryz.func69, Tryz.ntmps69
    go_wp2_with fail
    refine (areMap_any _ b _ _ V L _ hn hs).mono ?_
    rintro e w1 ⟨rfl, hb1⟩
    go_wp2_with fail
    go_ret3
    exact ⟨rfl, hb1⟩
  | true =>
    have hA : M.isA a = false := by simpa [hM] using h
    clear h
    go_enter Tryz.func69, Tryz.ntmps69
    go_wp2_with fail
    refine (areMap_any _ b _ _ V L _ hn hs).mono ?_
    rintro e w1 ⟨rfl, hb1⟩
    go_wp2_with fail
    refine (isAddr_is false _ _ hA).mono ?_
    rintro e w' ⟨rfl, hww⟩
    subst w'
    go_wp2_with fail
    go_ret3
    exact ⟨rfl, hb1⟩

set_option maxHeartbeats 400000 in
theorem MatchRef_ok (ao : Option Addr) (b n c : Nat) (V L : Nat → Int) (a : Int) (w : World) (hs : PS w ao b n V L) (hA : M.isA a = true) (hM : M.isMap V L n = true) :
    Calls Tryz.prog 69 #[.slice ao n c, .int .i64 a] w fun e w' => e = .returned (.tuple #[.int .i64 (M.bestTo V L a n), .int .i64 (M.depTo V L a n), .int .i64 0]) ∧ Below w.heap.size w w' := by
  have hm : n ≤ 64 ∧ M.okTo V L n = true := by simpa [M.isMap] using hM
  have hP : Hid (∀ i, i < n → M.isP (V i) (L i) = true) := fun i hi => (M.okTo_iff.1 hm.2 i hi).1
  obtain ⟨h64, _⟩ := hm
  go_enter Tryz.func69, Tryz.ntmps69
  go_wp2_with fail
  refine (areMap_any _ b _ _ V L _ (by omega) hs).mono ?_
  rintro e w1 ⟨rfl, hb1⟩
  have hs1 := hs.below hb1
  go_wp2_with fail
  refine (isAddr_is true _ _ hA).mono ?_
  rintro e w' ⟨rfl, hww⟩
  subst w'
  go_wp2_with fail
  refine (match_any _ b _ _ V L _ _ hA h64 hs1 hP.out).mono ?_
  rintro e w2 ⟨rfl, hb2⟩
  have hb3 := below_of_drew hb2
  clear hb2
  go_wp2_with fail
  go_ret3
  exact ⟨rfl, hb1.trans (hb3.mono hb1.size)⟩
end Go.Proofs.YtaebngpoagjafaaGreat
namespace Go.Proofs.YtaebngpoagjafaaGreat
open Go.RowKit

theorem Tryz.infoPrefix : (Tryz.prog.info? 99).map (fun i => (i.zero, i.size, i.bytes)) = some (some (.agg #[.int .i64 0, .int .i64 0]), 2, 16) := by kernel_rfl
theorem Tryz.infoPlace : (Tryz.prog.info? 101).map (fun i => (i.zero, i.size, i.bytes)) = some (some (.agg #[.int .i64 0, .int .i64 0, .int .i64 0]), 3, 24) := by kernel_rfl

/-- The cells of prefixes; of places. -/
def pc (V L : Nat → Int) : Nat → List Value
  | 0 => []
  | n + 1 => pc V L n ++ [.int .i64 (V n), .int .i64 (L n)]
def tc (V L R : Nat → Int) : Nat → List Value
  | 0 => []
  | n + 1 => tc V L R n ++ [.int .i64 (V n), .int .i64 (L n), .int .i64 (R n)]
theorem pc_len (V L : Nat → Int) (n : Nat) : (pc V L n).length = n * 2 := by
  induction n with
  | zero => rfl
  | succ n ih => simp [pc, ih]; omega
theorem tc_len (V L R : Nat → Int) (n : Nat) : (tc V L R n).length = n * 3 := by
  induction n with
  | zero => rfl
  | succ n ih => simp [tc, ih]; omega
theorem pc_get (V L : Nat → Int) {n i : Nat} (h : i < n) : (pc V L n)[i * 2]? = some (.int .i64 (V i)) ∧ (pc V L n)[i * 2 + 1]? = some (.int .i64 (L i)) := by
  induction n with
  | zero => omega
  | succ n ih =>
    simp only [pc]
    by_cases hi : i = n
    · subst hi
      rw [List.getElem?_append_right (by rw [pc_len]; omega), List.getElem?_append_right (by rw [pc_len]; omega), pc_len]
      simp
    · have := ih (by omega)
      rw [List.getElem?_append_left (by rw [pc_len]; omega), List.getElem?_append_left (by rw [pc_len]; omega)]
      exact this
theorem tc_get (V L R : Nat → Int) {n i : Nat} (h : i < n) : (tc V L R n)[i * 3]? = some (.int .i64 (V i)) ∧ (tc V L R n)[i * 3 + 1]? = some (.int .i64 (L i)) ∧ (tc V L R n)[i * 3 + 2]? = some (.int .i64 (R i)) := by
  induction n with
  | zero => omega
  | succ n ih =>
    simp only [tc]
    by_cases hi : i = n
    · subst hi
      rw [List.getElem?_append_right (by rw [tc_len]; omega), List.getElem?_append_right (by rw [tc_len]; omega), List.getElem?_append_right (by rw [tc_len]; omega), tc_len]
      simp
    · have := ih (by omega)
      rw [List.getElem?_append_left (by rw [tc_len]; omega), List.getElem?_append_left (by rw [tc_len]; omega), List.getElem?_append_left (by rw [tc_len]; omega)]
      exact this

/-- A list of places in memory. -/
structure TS (w : World) (ao : Option Addr) (b off n : Nat) (V L R : Nat → Int) : Prop where
  at_ : 0 < n → ao = some ⟨b, off, none⟩
  lt : 0 < n → b < w.heap.size
  val : ∀ i, i < n → w.cell? ⟨b, off + i * 3, none⟩ = some (.int .i64 (V i))
  len : ∀ i, i < n → w.cell? ⟨b, off + i * 3 + 1, none⟩ = some (.int .i64 (L i))
  reg : ∀ i, i < n → w.cell? ⟨b, off + i * 3 + 2, none⟩ = some (.int .i64 (R i))
theorem TS.below {w w' : World} {ao b off n V L R} (h : TS w ao b off n V L R) (hb : Below w.heap.size w w') : TS w' ao b off n V L R :=
  ⟨h.at_, fun hn => Nat.lt_of_lt_of_le (h.lt hn) hb.size, fun i hi => by rw [hb.cell (h.lt (by omega))]; exact h.val i hi, fun i hi => by rw [hb.cell (h.lt (by omega))]; exact h.len i hi, fun i hi => by rw [hb.cell (h.lt (by omega))]; exact h.reg i hi⟩

theorem ps_of_owns {w : World} {base : Nat} {v : Value} {n : Nat} {V L : Nat → Int} (h : w.ownsRow base 99 2 v n (pc V L n)) :
    ∃ ao b c, v = .slice ao n c ∧ n ≤ c ∧ (n = 0 ∨ base ≤ b) ∧ PS w ao b n V L := by
  have hh := h
  rcases h.2 with ⟨rfl, rfl⟩ | ⟨g, cap, cur, rfl, hb, hg, hnc, _, _, _⟩
  · exact ⟨none, 0, 0, rfl, Nat.le_refl _, .inl rfl, ⟨fun h => by omega, fun h => by omega, fun i hi => by omega, fun i hi => by omega⟩⟩
  · refine ⟨some ⟨g, 0, none⟩, g, cap, rfl, hnc, .inr hb, ⟨fun _ => rfl, fun _ => ?_, fun i hi => ?_, fun i hi => ?_⟩⟩
    · exact (hh.lt g rfl).2
    · rw [hh.cellAt (i * 2) (by omega)]; exact (pc_get V L hi).1
    · rw [hh.cellAt (i * 2 + 1) (by omega)]; exact (pc_get V L hi).2
theorem ts_of_owns {w : World} {base : Nat} {v : Value} {n : Nat} {V L R : Nat → Int} (h : w.ownsRow base 101 3 v n (tc V L R n)) :
    ∃ ao b c, v = .slice ao n c ∧ n ≤ c ∧ (n = 0 ∨ base ≤ b) ∧ TS w ao b 0 n V L R := by
  have hh := h
  rcases h.2 with ⟨rfl, rfl⟩ | ⟨g, cap, cur, rfl, hb, hg, hnc, _, _, _⟩
  · exact ⟨none, 0, 0, rfl, Nat.le_refl _, .inl rfl, ⟨fun h => by omega, fun h => by omega, fun i hi => by omega, fun i hi => by omega, fun i hi => by omega⟩⟩
  · refine ⟨some ⟨g, 0, none⟩, g, cap, rfl, hnc, .inr hb, ⟨fun _ => rfl, fun _ => ?_, fun i hi => ?_, fun i hi => ?_, fun i hi => ?_⟩⟩
    · exact (hh.lt g rfl).2
    · rw [Nat.zero_add, hh.cellAt (i * 3) (by omega)]; exact (tc_get V L R hi).1
    · rw [Nat.zero_add, hh.cellAt (i * 3 + 1) (by omega)]; exact (tc_get V L R hi).2.1
    · rw [Nat.zero_add, hh.cellAt (i * 3 + 2) (by omega)]; exact (tc_get V L R hi).2.2

theorem news2 (w : World) (x y : Value) (t : TypeId) : ∀ j u, ([x, y] : List Value)[j]? = some u → (w.alloc (.cells #[x, y] t)).cell? ((⟨w.heap.size, 0, none⟩ : Addr).add j) = some u := by
  intro j u hj
  match j, hj with
  | 0, hj => simp at hj; subst hj; simp [Addr.add]
  | 1, hj => simp at hj; subst hj; simp [Addr.add]

set_option maxHeartbeats 400000 in
theorem prefixes_any (ao : Option Addr) (b off n c : Nat) (V L R : Nat → Int) (w : World) (hn : n * 24 ≤ 140737488351232) (hs : TS w ao b off n V L R) :
    Calls Tryz.prog 58 #[.slice ao n c] w fun e w' => (∃ v, e = .returned v ∧ w'.ownsRow w.heap.size 99 2 v n (pc V L n)) ∧ Below w.heap.size w w' := by
  obtain ⟨i0, hi, hz0, hz1, hz2⟩ := info_parts Tryz.infoPrefix
  go_enter Tryz.func58, Tryz.ntmps58
  go_wp2
  go_loopw [3, 4] (fun v i wr => ∃ k : Nat, k ≤ n ∧ i = .int .i64 k ∧ wr.ownsRow w.heap.size 99 2 v k (pc V L k) ∧ Below w.heap.size w wr) (fun _ i _ => n - (intOf i).toNat)
  case atStart => exact ⟨0, by omega, rfl, World.ownsRow_nil _ _ _ _, Below.refl _ _⟩
  case round =>
    obtain ⟨k, hk, rfl, hown, hb⟩ := hrel
    by_cases hlt : k < n
    · obtain rfl := hs.at_ (by omega)
      have hps := hs.below hb
      have hv := hps.val k hlt
      have hl := hps.len k hlt
      have hbb : b < wr.heap.size := hps.lt (by omega)
      have hsize := hb.size
      clear hs hps
      go_wp2_with (at_builtin; refine wpList_append_own _ rfl _ _ 103 rfl w.heap.size 99 i0 (.agg #[.int .i64 0, .int .i64 0]) 2 16 Tryz.underlying103 hi hz0 hz1 hz2 rfl (by decide) _ _ _ rfl (hown.alloc _) ⟨wr.heap.size, 0, none⟩ 1 1 [.int .i64 (V k), .int .i64 (L k)] rfl rfl (news2 _ _ _ _) (fun x hx => by simp at hx; rcases hx with rfl | rfl <;> rfl) (by unfold maxLen; omega) (by omega) (by simp; omega) ?_; intro v' w1 hown1 hgrow1 _)
      have hx : Hid (Below w.heap.size w w1) := (hb.alloc hb.size _).grown hgrow1 (by simp; omega) (fun q hq => (hown.lt q hq).1)
      go_roundw
      case rel => exact ⟨k + 1, by omega, by go_num, hown1, hx⟩
      case measure => simp [intOf]; omega
    · have hkn : k = n := by omega
      subst hkn
      go_wp2
      go_ret
      exact ⟨⟨_, rfl, hown⟩, hb⟩
end Go.Proofs.YtaebngpoagjafaaGreat
namespace Go.Proofs.YtaebngpoagjafaaGreat
open Go.RowKit

theorem buildPfx (a b : Int) (w : World) : (Instr.build 99 #[(0, .int .i64 a), (1, .int .i64 b)]).run Tryz.prog w = .ok (.agg #[.int .i64 a, .int .i64 b]) w := run_build w 99 _ _ (by kernel_rfl)
theorem buildPlc (a b c : Int) (w : World) : (Instr.build 101 #[(0, .agg #[.int .i64 a, .int .i64 b]), (1, .int .i64 c)]).run Tryz.prog w = .ok (.agg #[.int .i64 a, .int .i64 b, .int .i64 c]) w := run_build w 101 _ _ (by kernel_rfl)

set_option maxHeartbeats 400000 in
theorem far_any (w : World) :
    Calls Tryz.prog 122 #[] w fun e w' => e = .returned (.agg #[.int .i64 77, .int .i64 77, .int .i64 77]) ∧ Below w.heap.size w w' := by
  have h1 := fun w => buildPfx 77 77 w
  have h2 := fun w => buildPlc 77 77 77 w
  go_enter Tryz.func122, Tryz.ntmps122
  go_wp2
  exact bodyPost_ret (v := .agg #[.int .i64 77, .int .i64 77, .int .i64 77]) (by simp [results, Tryz.results122, go_sem]) rfl ⟨rfl, (by repeat (first | exact Below.refl _ _ | refine Below.alloc ?_ (by simp) _ | refine Below.setCell ?_ (by simp) _))⟩
end Go.Proofs.YtaebngpoagjafaaGreat
namespace Go.Proofs.YtaebngpoagjafaaGreat
open Go.RowKit

/-- What lies in what is lent: the first n, then 77. -/
def ext (n : Nat) (V : Nat → Int) (i : Nat) : Int := if i < n then V i else 77

theorem row_of_owns {w : World} {base e size g N cap : Nat} {xs : List Value} (h : w.ownsRow base e size (.slice (some ⟨g, 0, none⟩) N cap) N xs) (hcap : cap = N) : ∃ f, w.rowIs g e (N * size) f := by
  subst hcap
  rcases h.2 with ⟨h', _⟩ | ⟨g', cap', cur, h', _, hg, _, _, hsz, _⟩
  · simp at h'
  · simp only [Value.slice.injEq, Option.some.injEq, Addr.mk.injEq, and_true, true_and] at h'
    obtain ⟨rfl, rfl⟩ := h'
    exact ⟨fun j => cur.getD j (.int .i64 0), cur, hg, hsz, fun i hi => by simp [Array.getD, hsz, hi]⟩

theorem below_grown {w w' : World} (h : w.grownBy w' none) : Below w.heap.size w w' := (Below.refl _ _).grown h (Nat.le_refl _) (fun k hk => by simp at hk)

theorem row_below {w w' : World} {g t N : Nat} {f : Nat → Value} (h : w.rowIs g t N f) (hb : Below w.heap.size w w') : w'.rowIs g t N f := h.of_block (hb.block g h.lt)

theorem fieldPlc (a b c : Int) (w : World) : (Instr.field 101 (.agg #[.int .i64 a, .int .i64 b, .int .i64 c]) 0).run Tryz.prog w = .ok (.agg #[.int .i64 a, .int .i64 b]) w := by kernel_rfl

/-- Two cells of a row, written. -/
def pairAt (f : Nat → Value) (k : Nat) (x y : Value) (j : Nat) : Value := if j = k * 2 + 1 then y else if j = k * 2 then x else f j
theorem row_pair {w : World} {g t N : Nat} {f : Nat → Value} (h : w.rowIs g t N f) (k : Nat) (x y : Value) : ((w.setCell ⟨g, k * 2, none⟩ x).setCell ⟨g, k * 2 + 1, none⟩ y).rowIs g t N (pairAt f k x y) := (h.set _ _).set _ _
theorem pair_step {f : Nat → Value} {k : Nat} {V L : Nat → Int} {x y : Value} (h : ∀ i, i < k → f (i * 2) = .int .i64 (V i) ∧ f (i * 2 + 1) = .int .i64 (L i)) (hx : x = .int .i64 (V k)) (hy : y = .int .i64 (L k)) :
    ∀ i, i < k + 1 → pairAt f k x y (i * 2) = .int .i64 (V i) ∧ pairAt f k x y (i * 2 + 1) = .int .i64 (L i) := by
  intro i hi
  unfold pairAt
  by_cases e : i = k
  · subst e; simp [hx, hy]
  · rw [if_neg (by omega), if_neg (by omega), if_neg (by omega), if_neg (by omega)]
    exact h i (by omega)
theorem pair_keep {f : Nat → Value} {k : Nat} {V L : Nat → Int} {x y : Value} (h : ∀ i, i < k → f (i * 2) = .int .i64 (V i) ∧ f (i * 2 + 1) = .int .i64 (L i)) :
    ∀ i, i < k → pairAt f k x y (i * 2) = .int .i64 (V i) ∧ pairAt f k x y (i * 2 + 1) = .int .i64 (L i) := by
  intro i hi
  unfold pairAt
  rw [if_neg (by omega), if_neg (by omega), if_neg (by omega), if_neg (by omega)]
  exact h i hi

theorem lentPrefixes_nil (w : World) :
    Calls Tryz.prog 66 #[.slice none 0 0] w fun e w' => e = .returned (.slice none 0 0) ∧ w' = w := by
  have hnil := fun w => Lib.run_eql_slice_nil (P := Tryz.prog) w 28 101 none 0 0 0 0 Tryz.underlying28
  simp only [Option.isNone] at hnil
  go_enter Tryz.func66, Tryz.ntmps66
  go_wp2
  go_ret
  exact ⟨rfl, rfl⟩

set_option maxRecDepth 100000 in
set_option maxHeartbeats 1000000 in
theorem lentPrefixes_any (ad : Addr) (b off n c : Nat) (V L R : Nat → Int) (w : World) (hn : n * 24 ≤ 140737488351232) (hs : TS w (some ad) b off n V L R) :
    Calls Tryz.prog 66 #[.slice (some ad) n c] w fun e w' => (∃ g f, e = .returned (.slice (some ⟨g, 0, none⟩) n (n + 8)) ∧ w.heap.size ≤ g ∧ w'.rowIs g 99 ((n + 8) * 2) f ∧ ∀ i, i < n + 8 → f (i * 2) = .int .i64 (ext n V i) ∧ f (i * 2 + 1) = .int .i64 (ext n L i)) ∧ Below w.heap.size w w' := by
  obtain ⟨i0, hi, hz0, hz1, hz2⟩ := info_parts Tryz.infoPrefix
  have hnil := fun w => Lib.run_eql_slice_nil (P := Tryz.prog) w 28 101 (some ad) n c 0 0 Tryz.underlying28
  simp only [Option.isNone] at hnil
  go_enter Tryz.func66, Tryz.ntmps66
  go_wp2_with (at_make; refine wpList_make_full _ rfl _ _ 103 rfl w.heap.size 99 i0 (.agg #[.int .i64 0, .int .i64 0]) 2 Tryz.underlying103 hi hz0 hz1 .i64 .i64 _ _ (n + 8) rfl rfl (by omega) (by omega) (by rw [hz2]; omega) (by unfold maxLen; omega) (Nat.le_refl _) ?_; intro w0 hown0 hgrow0)
  obtain ⟨f0, hrow0⟩ := row_of_owns hown0 rfl
  have HB0 : Hid (Below w.heap.size w w0) := below_grown hgrow0
  clear hown0 hgrow0 hnil
  go_loopw [5] (fun x wr => ∃ (k : Nat) (f : Nat → Value), k ≤ n + 8 ∧ x = .int .i64 k ∧ wr.rowIs w.heap.size 99 ((n + 8) * 2) f ∧ Hid (∀ i, i < k → f (i * 2) = .int .i64 (ext n V i) ∧ f (i * 2 + 1) = .int .i64 (ext n L i)) ∧ Below w.heap.size w wr) (fun x _ => n + 8 - (intOf x).toNat)
  case atStart => exact ⟨0, f0, by omega, rfl, hrow0, fun i hi => by omega, HB0⟩
  case round =>
    obtain ⟨k, f, hk, rfl, hrow, hf, hb⟩ := hrel
    clear hrow0 HB0
    by_cases hlt : k < n + 8
    · go_wp2_with fail
      refine (far_any _).mono ?_
      rintro e w1 ⟨rfl, hb1⟩
      have hrow1 := row_below hrow hb1
      have HB1 : Hid (Below w.heap.size w w1) := hb.trans (hb1.mono hb.size)
      clear hb1 hb hrow
      have c0 := hrow1.cell (i := k * 2) (by omega)
      have c1 := hrow1.cell (i := k * 2 + 1) (by omega)
      have z0 := hrow1.frozen (k * 2)
      have z1 := hrow1.frozen (k * 2 + 1)
      have hfp := fun w => fieldPlc 77 77 77 w
      by_cases hkn : k < n
      · have hat := hs.at_ (by omega)
        cases hat
        have hb0 : b < w.heap.size := hs.lt (by omega)
        have cv := (HB1.out.cell (p := ⟨b, off + k * 3, none⟩) hb0).trans (hs.val k hkn)
        have cl := (HB1.out.cell (p := ⟨b, off + k * 3 + 1, none⟩) hb0).trans (hs.len k hkn)
        have hne : ¬ b = w.heap.size := by omega
        have hne2 : ¬ w.heap.size = b := by omega
        have HS : Hid (∀ i, i < k + 1 → pairAt (pairAt f k (.int .i64 77) (.int .i64 77)) k (.int .i64 (V k)) (.int .i64 (L k)) (i * 2) = .int .i64 (ext n V i) ∧ pairAt (pairAt f k (.int .i64 77) (.int .i64 77)) k (.int .i64 (V k)) (.int .i64 (L k)) (i * 2 + 1) = .int .i64 (ext n L i)) :=
          pair_step (pair_keep hf.out) (by rw [ext, if_pos hkn]) (by rw [ext, if_pos hkn])
        go_wp2_with fail
        go_roundw
        case rel => exact ⟨k + 1, _, by omega, by go_num, row_pair (row_pair hrow1 _ _ _) _ _ _, HS, (((HB1.out.setCell (Nat.le_refl _) _).setCell (Nat.le_refl _) _).setCell (Nat.le_refl _) _).setCell (Nat.le_refl _) _⟩
        case measure => simp [intOf]; omega
      · have HS : Hid (∀ i, i < k + 1 → pairAt f k (.int .i64 77) (.int .i64 77) (i * 2) = .int .i64 (ext n V i) ∧ pairAt f k (.int .i64 77) (.int .i64 77) (i * 2 + 1) = .int .i64 (ext n L i)) :=
          pair_step hf.out (by rw [ext, if_neg hkn]) (by rw [ext, if_neg hkn])
        go_wp2_with fail
        go_roundw
        case rel => exact ⟨k + 1, _, by omega, by go_num, row_pair hrow1 _ _ _, HS, (HB1.out.setCell (Nat.le_refl _) _).setCell (Nat.le_refl _) _⟩
        case measure => simp [intOf]; omega
    · have hkn : k = n + 8 := by omega
      subst hkn
      go_wp2_with fail
      go_ret
      exact ⟨⟨_, f, rfl, Nat.le_refl _, hrow, hf⟩, hb⟩

theorem ps_of_row {w : World} {g n : Nat} {f : Nat → Value} {V L : Nat → Int} (h : w.rowIs g 99 (n * 2) f) (hf : ∀ i, i < n → f (i * 2) = .int .i64 (V i) ∧ f (i * 2 + 1) = .int .i64 (L i)) : PS w (some ⟨g, 0, none⟩) g n V L :=
  ⟨fun _ => rfl, fun _ => h.lt, fun i hi => by rw [h.cell (by omega), (hf i hi).1], fun i hi => by rw [h.cell (by omega), (hf i hi).2]⟩
theorem PS.congr {w : World} {ao b n V L V' L'} (h : PS w ao b n V L) (hv : ∀ i, i < n → V i = V' i ∧ L i = L' i) : PS w ao b n V' L' :=
  ⟨h.at_, h.lt, fun i hi => by rw [← (hv i hi).1]; exact h.val i hi, fun i hi => by rw [← (hv i hi).2]; exact h.len i hi⟩
theorem PS.firsts {w : World} {ao b n V L} (h : PS w ao b (n + 8) (ext n V) (ext n L)) : PS w ao b n V L :=
  (h.take (by omega)).congr fun i hi => by simp [ext, hi]

theorem wholePrefixes_nil (v : Value) (w : World) :
    Calls Tryz.prog 68 #[v, .slice none 0 0] w fun e w' => e = .returned (.bool true) ∧ w' = w := by
  have hnil := fun w => Lib.run_eql_slice_nil (P := Tryz.prog) w 28 101 none 0 0 0 0 Tryz.underlying28
  simp only [Option.isNone] at hnil
  go_enter Tryz.func68, Tryz.ntmps68
  go_wp2
  go_ret
  exact ⟨rfl, rfl⟩

set_option maxRecDepth 100000 in
set_option maxHeartbeats 1000000 in
theorem wholePrefixes_any (ad : Addr) (g b off n c : Nat) (V L R : Nat → Int) (w : World) (hn : n * 24 ≤ 140737488351232) (hs : TS w (some ad) b off n V L R) (hp : PS w (some ⟨g, 0, none⟩) g (n + 8) (ext n V) (ext n L)) :
    Calls Tryz.prog 68 #[.slice (some ⟨g, 0, none⟩) n (n + 8), .slice (some ad) n c] w fun e w' => e = .returned (.bool true) ∧ Below w.heap.size w w' := by
  have hnil := fun w => Lib.run_eql_slice_nil (P := Tryz.prog) w 28 101 (some ad) n c 0 0 Tryz.underlying28
  simp only [Option.isNone] at hnil
  have hfp := fun w => fieldPlc 77 77 77 w
  have hgl : g < w.heap.size := hp.lt (by omega)
  go_enter Tryz.func68, Tryz.ntmps68
  go_wp2
  go_loopw [7, 8] (fun y x wr => ∃ (k : Nat), k ≤ n + 8 ∧ x = .int .i64 k ∧ y = .bool true ∧ Below w.heap.size w wr) (fun _ x _ => n + 8 - (intOf x).toNat)
  case atStart => exact ⟨0, by omega, rfl, rfl, Below.refl _ _⟩
  case round =>
    obtain ⟨k, hk, rfl, rfl, hb⟩ := hrel
    clear hnil
    by_cases hlt : k < n + 8
    · go_wp2_with fail
      refine (far_any _).mono ?_
      rintro e w1 ⟨rfl, hb1⟩
      have HB1 : Hid (Below w.heap.size w w1) := hb.trans (hb1.mono hb.size)
      have hz := HB1.out.size
      have p0 := (hp.below HB1.out).val k hlt
      have p1 := (hp.below HB1.out).len k hlt
      have hg1 : g < w1.heap.size := by omega
      have hlt' : (k : Int) < (n : Int) + 8 := by omega
      clear hb1 hb
      by_cases hkn : k < n
      · have hat := hs.at_ (by omega)
        cases hat
        have hb0 : b < w.heap.size := hs.lt (by omega)
        have cv := (HB1.out.cell (p := ⟨b, off + k * 3, none⟩) hb0).trans (hs.val k hkn)
        have cl := (HB1.out.cell (p := ⟨b, off + k * 3 + 1, none⟩) hb0).trans (hs.len k hkn)
        have hq := fun w => eqPrefix (V k) (L k) (V k) (L k) w
        simp only [ext, if_pos hkn] at p0 p1
        simp only [beq_self_eq_true, Bool.and_self] at hq
        have hb1' : b < w1.heap.size := by omega
        go_wp2_with fail
        go_quiet (fail)
        go_wp2_with fail
        go_roundw
        case rel => exact ⟨k + 1, by omega, by go_num, rfl, bel_drewN (HB1.out.alloc hz _) _⟩
        case measure => simp [intOf]; omega
      · have hq := fun w => eqPrefix 77 77 77 77 w
        simp only [ext, if_neg hkn] at p0 p1
        simp only [beq_self_eq_true, Bool.and_self] at hq
        go_wp2_with fail
        go_quiet (fail)
        go_wp2_with fail
        go_roundw
        case rel => exact ⟨k + 1, by omega, by go_num, rfl, bel_drewN (HB1.out.alloc hz _) _⟩
        case measure => simp [intOf]; omega
    · have hkn : k = n + 8 := by omega
      subst hkn
      go_wp2_with fail
      go_ret
      exact ⟨rfl, hb⟩
end Go.Proofs.YtaebngpoagjafaaGreat
namespace Go.Proofs.YtaebngpoagjafaaGreat
open Go.RowKit

/-- Places that came in: nil, or a list in memory. -/
def PT (w : World) (po : Option Addr) (b off n c : Nat) (V L R : Nat → Int) : Prop := (po = none ∧ n = 0 ∧ c = 0) ∨ ∃ ad, po = some ad ∧ TS w (some ad) b off n V L R
theorem PT.below {w w' : World} {po b off n c V L R} (h : PT w po b off n c V L R) (hb : Below w.heap.size w w') : PT w' po b off n c V L R := by
  rcases h with h | ⟨ad, h1, h2⟩
  · exact .inl h
  · exact .inr ⟨ad, h1, h2.below hb⟩
/-- What was lent of them. -/
def Lent (w : World) (lo : Option Addr) (lb n lc : Nat) (po : Option Addr) (V L : Nat → Int) : Prop := PS w lo lb n V L ∧ n ≤ lc ∧ (po = none ∨ (lo = some ⟨lb, 0, none⟩ ∧ lc = n + 8 ∧ PS w (some ⟨lb, 0, none⟩) lb (n + 8) (ext n V) (ext n L)))
theorem Lent.below {w w' : World} {lo lb n lc po V L} (h : Lent w lo lb n lc po V L) (hb : Below w.heap.size w w') : Lent w' lo lb n lc po V L := by
  obtain ⟨h1, h2, h3⟩ := h
  refine ⟨h1.below hb, h2, ?_⟩
  rcases h3 with h | ⟨a, b, c⟩
  · exact .inl h
  · exact .inr ⟨a, b, c.below hb⟩

theorem lent_all (po : Option Addr) (b off n c : Nat) (V L R : Nat → Int) (w : World) (hn : n * 24 ≤ 140737488351232) (hs : PT w po b off n c V L R) :
    Calls Tryz.prog 66 #[.slice po n c] w fun e w' => (∃ lo lb lc, e = .returned (.slice lo n lc) ∧ Lent w' lo lb n lc po V L) ∧ Below w.heap.size w w' := by
  rcases hs with ⟨rfl, rfl, rfl⟩ | ⟨ad, rfl, hs⟩
  · refine (lentPrefixes_nil w).mono ?_
    rintro e w' ⟨rfl, hw⟩
    subst w'
    exact ⟨⟨none, 0, 0, rfl, ⟨fun h => by omega, fun h => by omega, fun i hi => by omega, fun i hi => by omega⟩, Nat.le_refl _, .inl rfl⟩, Below.refl _ _⟩
  · refine (lentPrefixes_any ad b off n c V L R w hn hs).mono ?_
    rintro e w' ⟨⟨g, f, rfl, _, hrow, hf⟩, hb⟩
    have hps := ps_of_row hrow hf
    exact ⟨⟨some ⟨g, 0, none⟩, g, n + 8, rfl, hps.firsts, by omega, .inr ⟨rfl, rfl, hps⟩⟩, hb⟩

theorem whole_all (po lo : Option Addr) (b off n c lb lc : Nat) (V L R : Nat → Int) (w : World) (hn : n * 24 ≤ 140737488351232) (hs : PT w po b off n c V L R) (hl : Lent w lo lb n lc po V L) :
    Calls Tryz.prog 68 #[.slice lo n lc, .slice po n c] w fun e w' => e = .returned (.bool true) ∧ Below w.heap.size w w' := by
  rcases hs with ⟨rfl, rfl, rfl⟩ | ⟨ad, rfl, hs⟩
  · refine (wholePrefixes_nil _ w).mono ?_
    rintro e w' ⟨rfl, hw⟩
    subst w'
    exact ⟨rfl, Below.refl _ _⟩
  · obtain ⟨_, _, h | ⟨rfl, rfl, hp⟩⟩ := hl
    · cases h
    · exact wholePrefixes_any ad lb b off n c V L R w hn hs hp

/-- Either answer of Match, by the document and by the program: the same. -/
theorem Match_all (lo : Option Addr) (lb n lc : Nat) (V L : Nat → Int) (a : Int) : ∃ x y z : Int, ∀ (w : World), n ≤ 9223372036854775807 → n ≤ lc → PS w lo lb n V L →
    Calls Tryz.prog 67 #[.slice lo n lc, .int .i64 a] w fun e w' => e = .returned (.tuple #[.int .i64 x, .int .i64 y, .int .i64 z]) ∧ Below w.heap.size w w' := by
  by_cases h : M.isA a = true ∧ M.isMap V L n = true
  · exact ⟨_, _, _, fun w _ hc hs => Match_ok lo lb n lc V L a w hc hs h.1 h.2⟩
  · refine ⟨_, _, _, fun w hn hc hs => Match_no lo lb n lc V L a w hn hc hs ?_⟩
    cases hA : M.isA a with
    | false => exact .inl rfl
    | true => cases hM : M.isMap V L n with
      | false => exact .inr rfl
      | true => exact absurd ⟨hA, hM⟩ h
theorem Match_both (V L : Nat → Int) (n : Nat) (a : Int) : ∃ x y z : Int,
    (∀ (lo : Option Addr) (lb lc : Nat) (w : World), n ≤ 9223372036854775807 → n ≤ lc → PS w lo lb n V L →
      Calls Tryz.prog 67 #[.slice lo n lc, .int .i64 a] w fun e w' => e = .returned (.tuple #[.int .i64 x, .int .i64 y, .int .i64 z]) ∧ Below w.heap.size w w') ∧
    (∀ (lo : Option Addr) (lb lc : Nat) (w : World), n ≤ 9223372036854775807 → PS w lo lb n V L →
      Calls Tryz.prog 69 #[.slice lo n lc, .int .i64 a] w fun e w' => e = .returned (.tuple #[.int .i64 x, .int .i64 y, .int .i64 z]) ∧ Below w.heap.size w w') := by
  by_cases h : M.isA a = true ∧ M.isMap V L n = true
  · exact ⟨_, _, _, fun lo lb lc w _ hc hs => Match_ok lo lb n lc V L a w hc hs h.1 h.2, fun lo lb lc w _ hs => MatchRef_ok lo lb n lc V L a w hs h.1 h.2⟩
  · have h' : M.isA a = false ∨ M.isMap V L n = false := by
      cases hA : M.isA a with
      | false => exact .inl rfl
      | true => cases hM : M.isMap V L n with
        | false => exact .inr rfl
        | true => exact absurd ⟨hA, hM⟩ h
    exact ⟨_, _, _, fun lo lb lc w hn hc hs => Match_no lo lb n lc V L a w hn hc hs h', fun lo lb lc w hn hs => MatchRef_no lo lb n lc V L a w hn hs h'⟩

theorem below_pair (w : World) (g i j : Nat) (x y : Value) : Below g w ((w.setCell ⟨g, i, none⟩ x).setCell ⟨g, j, none⟩ y) :=
  Below.setCell (p := ⟨g, j, none⟩) (Below.setCell (p := ⟨g, i, none⟩) (Below.refl _ _) (Nat.le_refl g) x) (Nat.le_refl g) y

/-- The world that was boxed. -/
structure BX (w : World) (B : Nat) (a : Int) (pl : Value) : Prop where
  addr : w.cell? ⟨B, 0, none⟩ = some (.int .i64 a)
  plc : w.cell? ⟨B, 5, none⟩ = some pl
  lt : B < w.heap.size
theorem BX.below {w w' : World} {B a pl} (h : BX w B a pl) (hb : Below w.heap.size w w') : BX w' B a pl :=
  ⟨by rw [hb.cell h.lt]; exact h.addr, by rw [hb.cell h.lt]; exact h.plc, Nat.lt_of_lt_of_le h.lt hb.size⟩

set_option maxRecDepth 100000 in
set_option maxHeartbeats 2000000 in
theorem matched_any (a bi dr : Int) (dn al : Value) (po : Option Addr) (b off n c : Nat) (V L R : Nat → Int) (w : World) (hn : n * 24 ≤ 140737488351232) (hs : PT w po b off n c V L R) :
    Calls Tryz.prog 42 #[.agg #[.int .i64 a, .int .i64 bi, .int .i64 dr, dn, al, .slice po n c]] w fun e w' => e = .returned (.bool true) ∧ Below w.heap.size w w' := by
  obtain ⟨i0, hi, hz0, hz1, hz2⟩ := info_parts Tryz.infoPrefix
  obtain ⟨x, y, z, hM1, hM2⟩ := Match_both V L n a
  have HM1 : Hid _ := hM1
  have HM2 : Hid _ := hM2
  clear hM1 hM2
  go_enter Tryz.func42, Tryz.ntmps42
  go_wp2_with fail
  have hsA : PT (w.alloc (.cells #[.int .i64 a, .int .i64 bi, .int .i64 dr, dn, al, .slice po n c] 30)) po b off n c V L R := hs.below ((Below.refl _ _).alloc (Nat.le_refl _) _)
  refine (lent_all _ _ _ _ _ V L R _ hn hsA).mono ?_
  rintro e w1 ⟨⟨lo, lb, lc, rfl, hL1⟩, hb1⟩
  have hx1 : BX w1 w.heap.size a (.slice po n c) := BX.below ⟨by simp, by simp, by simp⟩ hb1
  have hs1 := hsA.below hb1
  have HB1 : Hid (Below w.heap.size w w1) := ((Below.refl _ _).alloc (Nat.le_refl _) _).trans (hb1.mono (by simp))
  clear hs hsA hb1
  have q0 := hx1.addr
  go_wp2_with fail
  refine (HM1.out lo lb lc _ (by omega) hL1.2.1 hL1.1).mono ?_
  rintro e w2 ⟨rfl, hb2⟩
  have hx2 := hx1.below hb2
  have hs2 := hs1.below hb2
  have hL2 := hL1.below hb2
  have HB2 : Hid (Below w.heap.size w w2) := HB1.out.trans (hb2.mono HB1.out.size)
  clear hx1 hs1 hL1 hb2 HB1 q0
  have q5 := hx2.plc
  go_wp2_with fail
  refine (whole_all po lo b off n c lb lc V L R _ hn hs2 hL2).mono ?_
  rintro e w3 ⟨rfl, hb3⟩
  have hx3 := hx2.below hb3
  have hs3 := hs2.below hb3
  have HB3 : Hid (Below w.heap.size w w3) := HB2.out.trans (hb3.mono HB2.out.size)
  clear hx2 hs2 hL2 hb3 HB2 q5
  have q5 := hx3.plc
  go_wp2_with (at_make; refine wpList_make_full _ rfl _ _ 103 rfl w3.heap.size 99 i0 (.agg #[.int .i64 0, .int .i64 0]) 2 Tryz.underlying103 hi hz0 hz1 .i64 .i64 _ _ n rfl rfl (by omega) (by omega) (by rw [hz2]; omega) (by unfold maxLen; omega) (Nat.le_refl _) ?_; intro w0 hown0 hgrow0)
  obtain ⟨f0, hrow0⟩ := row_of_owns hown0 rfl
  have hb0 := below_grown hgrow0
  have hx0 := hx3.below hb0
  have hs0 := hs3.below hb0
  have HB0 : Hid (Below w.heap.size w w0) := HB3.out.trans (hb0.mono HB3.out.size)
  have hgB : w.heap.size < w3.heap.size := hx3.lt
  have hbg : Hid (0 < n → b < w3.heap.size) := fun h0 => by
    rcases hs3 with ⟨_, h, _⟩ | ⟨_, _, h⟩
    · omega
    · exact h.lt h0
  clear hown0 hgrow0 hb0 hx3 hs3 HB3 q5
  go_loopw [9] (fun x wr => ∃ (k : Nat) (f : Nat → Value), k ≤ n ∧ x = .int .i64 k ∧ wr.rowIs w3.heap.size 99 (n * 2) f ∧ Hid (∀ i, i < k → f (i * 2) = .int .i64 (V i) ∧ f (i * 2 + 1) = .int .i64 (L i)) ∧ BX wr w.heap.size a (.slice po n c) ∧ PT wr po b off n c V L R ∧ Below w.heap.size w wr) (fun x _ => n - (intOf x).toNat)
  case atStart => exact ⟨0, f0, by omega, rfl, hrow0, fun i hi => by omega, hx0, hs0, HB0⟩
  case round =>
    obtain ⟨k, f, hk, rfl, hrow, hf, hxr, hsr, hb⟩ := hrel
    clear hrow0 HB0 hx0 hs0
    by_cases hlt : k < n
    · have q5 := hxr.plc
      rcases hsr with ⟨_, h, _⟩ | ⟨ad, rfl, hts⟩
      · omega
      have hat := hts.at_ (by omega)
      cases hat
      have c0 := hrow.cell (i := k * 2) (by omega)
      have c1 := hrow.cell (i := k * 2 + 1) (by omega)
      have z0 := hrow.frozen (k * 2)
      have z1 := hrow.frozen (k * 2 + 1)
      have cv := hts.val k hlt
      have cl := hts.len k hlt
      have hbg' := hbg.out (by omega)
      have HS := pair_step (x := .int .i64 (V k)) (y := .int .i64 (L k)) hf.out rfl rfl
      have HS' : Hid _ := HS
      have hstay : Hid (∀ (x y : Value), BX ((wr.setCell ⟨w3.heap.size, k * 2, none⟩ x).setCell ⟨w3.heap.size, k * 2 + 1, none⟩ y) w.heap.size a (.slice (some ⟨b, off, none⟩) n c) ∧ PT ((wr.setCell ⟨w3.heap.size, k * 2, none⟩ x).setCell ⟨w3.heap.size, k * 2 + 1, none⟩ y) (some ⟨b, off, none⟩) b off n c V L R) := by
        intro x y
        have hbb : Below w3.heap.size wr ((wr.setCell ⟨w3.heap.size, k * 2, none⟩ x).setCell ⟨w3.heap.size, k * 2 + 1, none⟩ y) := below_pair _ _ _ _ _ _
        have hz := hbb.size
        refine ⟨⟨by rw [hbb.cell hgB]; exact hxr.addr, by rw [hbb.cell hgB]; exact hxr.plc, Nat.lt_of_lt_of_le hxr.lt hz⟩, .inr ⟨_, rfl, ⟨fun _ => rfl, fun h => Nat.lt_of_lt_of_le (hts.lt h) hz, fun i hi => by rw [hbb.cell hbg']; exact hts.val i hi, fun i hi => by rw [hbb.cell hbg']; exact hts.len i hi, fun i hi => by rw [hbb.cell hbg']; exact hts.reg i hi⟩⟩⟩
      have HR : Hid (wr.rowIs w3.heap.size 99 (n * 2) f) := hrow
      have HB : Hid (Below w.heap.size w wr) := hb
      clear HS hts hrow hb hf hxr
      go_wp2_with fail
      go_roundw
      case rel => exact ⟨k + 1, _, by omega, by go_num, row_pair HR.out _ _ _, HS'.out, (hstay.out _ _).1, (hstay.out _ _).2, (HB.out.setCell (Nat.le_of_lt hgB) _).setCell (Nat.le_of_lt hgB) _⟩
      case measure => simp [intOf]; omega
    · have hkn : k = n := by omega
      subst hkn
      have q0 := hxr.addr
      have hps := ps_of_row hrow hf.out
      have HB : Hid (Below w.heap.size w wr) := hb
      clear hrow hf hsr hb
      go_wp2_with fail
      refine (HM2.out _ _ _ _ (by omega) hps).mono ?_
      rintro e w4 ⟨rfl, hb4⟩
      have HB4 : Hid (Below w.heap.size w w4) := HB.out.trans (hb4.mono HB.out.size)
      clear hb4 hps hxr q0
      go_wp2_with fail
      go_ret
      exact ⟨rfl, HB4⟩
end Go.Proofs.YtaebngpoagjafaaGreat
namespace Go.Proofs.YtaebngpoagjafaaGreat
open Go.RowKit

set_option maxHeartbeats 400000 in
theorem pick_any (c : Int) (n : Nat) (w : World) (c0 : -9223372036854775808 ≤ c) (c1 : c ≤ 9223372036854775807) (n0 : 0 < n) (n1 : n ≤ 9223372036854775807) :
    Calls Tryz.prog 43 #[.int .i64 c, .int .i64 n] w fun e w' => (∃ k : Nat, k < n ∧ e = .returned (.int .i64 k)) ∧ w' = w := by
  have hn : ¬ (n : Int) = 0 := by omega
  have hn0 : (0 : Int) < n := by omega
  by_cases h : c < 0
  · have hm : 0 ≤ (-(c + 1)) % (n : Int) ∧ (-(c + 1)) % (n : Int) < n := ⟨Int.emod_nonneg _ (by omega), Int.emod_lt_of_pos _ (by omega)⟩
    have he : -(c + 1).tmod (n : Int) = (-(c + 1)) % (n : Int) := by rw [← Int.neg_tmod, Int.tmod_eq_emod_of_nonneg (by omega)]
    rw [← he] at hm
    have HE : Hid (0 ≤ -(c + 1).tmod (n : Int) ∧ -(c + 1).tmod (n : Int) < n) := hm
    clear he hm
    go_enter Tryz.func43, Tryz.ntmps43
    go_wp2
    go_ret
    refine ⟨⟨(-(c + 1).tmod (n : Int)).toNat, by have := HE.out; omega, ret_int ?_⟩, rfl⟩
    have := HE.out; omega
  · have hm : 0 ≤ c % (n : Int) ∧ c % (n : Int) < n := ⟨Int.emod_nonneg _ (by omega), Int.emod_lt_of_pos _ (by omega)⟩
    have HE : Hid (0 ≤ c % (n : Int) ∧ c % (n : Int) < n) := hm
    clear hm
    go_enter Tryz.func43, Tryz.ntmps43
    go_wp2
    go_ret
    refine ⟨⟨(c % (n : Int)).toNat, by have := HE.out; omega, ret_int ?_⟩, rfl⟩
    have := HE.out; omega

/-- Is k among the first n? -/
def amTo (P : Nat → Int) (k : Int) : Nat → Bool
  | 0 => false
  | n + 1 => amTo P k n || (P n == k)
theorem amTo_hit {P : Nat → Int} {k : Int} {n m : Nat} (h : m < n) (e : P m = k) : amTo P k n = true := by
  induction n with
  | zero => omega
  | succ n ih =>
    simp only [amTo, Bool.or_eq_true, beq_iff_eq]
    by_cases hm : m = n
    · subst hm; exact .inr e
    · exact .inl (ih (by omega))

set_option maxHeartbeats 400000 in
theorem among_any (b n c : Nat) (P : Nat → Int) (k : Int) (w : World) (hn : n ≤ 64) (hp : ∀ i, i < n → w.cell? ⟨b, i, none⟩ = some (.int .i64 (P i))) :
    Calls Tryz.prog 29 #[.slice (some ⟨b, 0, none⟩) n c, .int .i64 k] w fun e w' => e = .returned (.bool (amTo P k n)) ∧ w' = w := by
  have HP : Hid (∀ i, i < n → w.cell? ⟨b, i, none⟩ = some (.int .i64 (P i))) := hp
  clear hp
  go_enter Tryz.func29, Tryz.ntmps29
  go_wp2
  go_loop [5] (fun x => ∃ m : Nat, m ≤ n ∧ x = .int .i64 m ∧ amTo P k m = false) (fun x => n - (intOf x).toNat)
  case atStart => exact ⟨0, by omega, rfl, rfl⟩
  case round =>
    obtain ⟨m, hm, rfl, hf⟩ := hrel
    by_cases hlt : m < n
    · have hc := HP.out m hlt
      cases e1 : (P m == k) with
      | true =>
        have ht : Hid (amTo P k n = true) := amTo_hit hlt (by simpa using e1)
        go_wp2
        go_ret
        exact ⟨ret_bool ht.out.symm, rfl⟩
      | false =>
        have HF : Hid (amTo P k (m + 1) = false) := by show _ = _; simp [amTo, hf, e1]
        go_wp2
        go_round
        case rel => exact ⟨m + 1, by omega, by go_num, HF⟩
        case measure => simp [intOf]; omega
    · have hmn : m = n := by omega
      subst hmn
      go_wp2
      go_ret
      exact ⟨rfl, rfl⟩

set_option maxHeartbeats 400000 in
theorem looks_nil (B : Nat) (w : World) (h3 : w.cell? ⟨B, 3, none⟩ = some (.slice none 0 0)) (h4 : w.cell? ⟨B, 4, none⟩ = some (.slice none 0 0)) :
    Calls Tryz.prog 31 #[.pointer (some ⟨B, 0, none⟩)] w fun e w' => e = .returned (.bool true) ∧ w' = w := by
  go_enter Tryz.func31, Tryz.ntmps31
  go_wp2
  refine wp_loop_rounds 1 ?_
  rw [rounds_succ]
  go_wp2
  refine wp_loop_rounds 1 ?_
  rw [rounds_succ]
  go_wp2
  go_ret
  exact ⟨rfl, rfl⟩

/-- A script that came in: n steps, each six cells. -/
structure OS (w : World) (ao : Option Addr) (b off n : Nat) (K A B C D : Nat → Int) (S : Nat → ByteArray) : Prop where
  at_ : 0 < n → ao = some ⟨b, off, none⟩
  lt : 0 < n → b < w.heap.size
  k : ∀ i, i < n → w.cell? ⟨b, off + i * 6, none⟩ = some (.int .i64 (K i))
  a : ∀ i, i < n → w.cell? ⟨b, off + i * 6 + 1, none⟩ = some (.int .i64 (A i))
  b_ : ∀ i, i < n → w.cell? ⟨b, off + i * 6 + 2, none⟩ = some (.int .i64 (B i))
  c : ∀ i, i < n → w.cell? ⟨b, off + i * 6 + 3, none⟩ = some (.int .i64 (C i))
  d : ∀ i, i < n → w.cell? ⟨b, off + i * 6 + 4, none⟩ = some (.int .i64 (D i))
  s : ∀ i, i < n → w.cell? ⟨b, off + i * 6 + 5, none⟩ = some (.string (S i))
theorem OS.below {w w' : World} {ao b off n K A B C D S} (h : OS w ao b off n K A B C D S) (hb : Below w.heap.size w w') : OS w' ao b off n K A B C D S :=
  ⟨h.at_, fun hn => Nat.lt_of_lt_of_le (h.lt hn) hb.size, fun i hi => by rw [hb.cell (h.lt (by omega))]; exact h.k i hi, fun i hi => by rw [hb.cell (h.lt (by omega))]; exact h.a i hi,
    fun i hi => by rw [hb.cell (h.lt (by omega))]; exact h.b_ i hi, fun i hi => by rw [hb.cell (h.lt (by omega))]; exact h.c i hi, fun i hi => by rw [hb.cell (h.lt (by omega))]; exact h.d i hi, fun i hi => by rw [hb.cell (h.lt (by omega))]; exact h.s i hi⟩

theorem buildState (ao : Option Addr) (n c : Nat) (w : World) : (Instr.build 64 #[(0, .slice ao n c)]).run Tryz.prog w = .ok (.agg #[.slice ao n c, .slice none 0 0, .slice none 0 0, .slice none 0 0, .slice none 0 0]) w := run_build w 64 _ _ (by kernel_rfl)

/-- The state as plays lays it. -/
def st0 (wo : Option Addr) (m wc : Nat) : Obj := .cells #[.slice wo m wc, .slice none 0 0, .slice none 0 0, .slice none 0 0, .slice none 0 0] 64

set_option maxRecDepth 100000 in
set_option maxHeartbeats 1000000 in
/-- THE SCRIPT, for whatever steps and whatever is kept of the state: if each step of a kind in play answers true and keeps it, so does the whole. -/
theorem plays_any (Inv : World → Prop) (wo so : Option Addr) (m wc b off n c pb pn pcap : Nat) (K A B C D : Nat → Int) (S : Nat → ByteArray) (P : Nat → Int) (w : World)
    (hn : n * 56 ≤ 140737488351232) (hpn : pn ≤ 64) (hs : OS w so b off n K A B C D S) (hpb : pb < w.heap.size) (hp : ∀ i, i < pn → w.cell? ⟨pb, i, none⟩ = some (.int .i64 (P i)))
    (h0 : Inv (w.alloc (st0 wo m wc)))
    (hgrow : ∀ wq wr : World, Inv wq → w.heap.size < wq.heap.size → Below wq.heap.size wq wr → Inv wr)
    (hlooks : ∀ wq : World, Inv wq → Calls Tryz.prog 31 #[.pointer (some ⟨w.heap.size, 0, none⟩)] wq fun e w' => e = .returned (.bool true) ∧ Inv w' ∧ Below w.heap.size wq w')
    (hstep : ∀ (i : Nat) (wq : World), i < n → Inv wq → Below w.heap.size w wq → w.heap.size < wq.heap.size → amTo P (K i) pn = true →
      Calls Tryz.prog 30 #[.pointer (some ⟨w.heap.size, 0, none⟩), .agg #[.int .i64 (K i), .int .i64 (A i), .int .i64 (B i), .int .i64 (C i), .int .i64 (D i), .string (S i)]] wq fun e w' => e = .returned (.bool true) ∧ Inv w' ∧ Below w.heap.size wq w') :
    Calls Tryz.prog 12 #[.slice wo m wc, .slice so n c, .slice (some ⟨pb, 0, none⟩) pn pcap] w fun e w' => e = .returned (.bool true) ∧ Below w.heap.size w w' := by
  have HG : Hid (∀ wq wr : World, Inv wq → w.heap.size < wq.heap.size → Below wq.heap.size wq wr → Inv wr) := hgrow
  have HP : Hid (∀ i, i < pn → w.cell? ⟨pb, i, none⟩ = some (.int .i64 (P i))) := hp
  have HL : Hid (∀ wq : World, Inv wq → Calls Tryz.prog 31 #[.pointer (some ⟨w.heap.size, 0, none⟩)] wq fun e w' => e = .returned (.bool true) ∧ Inv w' ∧ Below w.heap.size wq w') := hlooks
  have HS : Hid (∀ (i : Nat) (wq : World), i < n → Inv wq → Below w.heap.size w wq → w.heap.size < wq.heap.size → amTo P (K i) pn = true →
      Calls Tryz.prog 30 #[.pointer (some ⟨w.heap.size, 0, none⟩), .agg #[.int .i64 (K i), .int .i64 (A i), .int .i64 (B i), .int .i64 (C i), .int .i64 (D i), .string (S i)]] wq fun e w' => e = .returned (.bool true) ∧ Inv w' ∧ Below w.heap.size wq w') := hstep
  have H0 : Hid (Inv (w.alloc (st0 wo m wc))) := h0
  clear hgrow hp hlooks hstep h0
  have hbs := fun w => buildState wo m wc w
  go_enter Tryz.func12, Tryz.ntmps12
  go_wp2_with fail
  go_loopw [8] (fun x wr => ∃ k : Nat, k ≤ n ∧ x = .int .i64 k ∧ Hid (Inv wr) ∧ Below w.heap.size w wr ∧ w.heap.size < wr.heap.size) (fun x _ => n - (intOf x).toNat)
  case atStart => exact ⟨0, by omega, rfl, H0, (Below.refl _ _).alloc (Nat.le_refl _) _, by simp⟩
  case round =>
    obtain ⟨k, hk, rfl, hinv, hb, hz⟩ := hrel
    clear hbs H0
    by_cases hlt : k < n
    · obtain rfl := hs.at_ (by omega)
      have hsr := hs.below hb
      have hsz : b < wr.heap.size := hsr.lt (by omega)
      have c0 := hsr.k k hlt
      have c1 := hsr.a k hlt
      have c2 := hsr.b_ k hlt
      have c3 := hsr.c k hlt
      have c4 := hsr.d k hlt
      have c5 := hsr.s k hlt
      have HB : Hid (Below w.heap.size w wr) := hb
      clear hsr hb
      have hk58 : (k : Int) < 288230376151711744 := by omega
      have HA : Hid (∀ o : Obj, Below wr.heap.size wr (wr.alloc o)) := fun o => (Below.refl _ _).alloc (Nat.le_refl _) o
      have HPr : Hid (∀ o : Obj, ∀ i, i < pn → (wr.alloc o).cell? ⟨pb, i, none⟩ = some (.int .i64 (P i))) := fun o i hi => by
        rw [(HB.out.trans ((HA.out o).mono HB.out.size)).cell (p := ⟨pb, i, none⟩) hpb]; exact HP.out i hi
      go_wp2_with fail
      refine (among_any pb pn pcap P _ _ hpn (HPr.out _)).mono ?_
      rintro e w' ⟨rfl, hww⟩
      subst w'
      cases e1 : amTo P (K k) pn with
      | false =>
        go_wp2_with fail
        go_roundw
        case rel => exact ⟨k + 1, by omega, by go_num, HG.out _ _ hinv.out hz (HA.out _), HB.out.trans ((HA.out _).mono HB.out.size), by simp; omega⟩
        case measure => simp [intOf]; omega
      | true =>
        have HS' := fun wq => HS.out k wq hlt
        have HS2 : Hid _ := HS'
        clear HS'
        go_wp2_with fail
        refine (HS2.out _ (HG.out _ _ hinv.out hz (HA.out _)) (HB.out.trans ((HA.out _).mono HB.out.size)) (by simp; omega) e1).mono ?_
        rintro e w1 ⟨rfl, hinv1, hb1⟩
        have HI1 : Hid (Inv w1) := hinv1
        have hz1 := hb1.size
        simp at hz1
        have HB1 : Hid (Below w.heap.size w w1) := (HB.out.trans ((HA.out _).mono HB.out.size)).trans hb1
        clear hinv1 hb1
        go_wp2_with fail
        refine (HL.out _ HI1.out).mono ?_
        rintro e w2 ⟨rfl, hinv2, hb2⟩
        have HI2 : Hid (Inv w2) := hinv2
        have hz2 := hb2.size
        have HB2 : Hid (Below w.heap.size w w2) := HB1.out.trans hb2
        clear hinv2 hb2
        go_wp2_with fail
        go_roundw
        case rel => exact ⟨k + 1, by omega, by go_num, HI2, HB2.out, by omega⟩
        case measure => simp [intOf]; omega
    · have hkn : k = n := by omega
      subst hkn
      go_wp2_with fail
      go_ret
      exact ⟨rfl, hb⟩
end Go.Proofs.YtaebngpoagjafaaGreat
namespace Go.Proofs.YtaebngpoagjafaaGreat
open Go.RowKit

/-- Worlds that came in: m of them, six cells each; of the places what matched asks. -/
structure WS (w : World) (wo : Option Addr) (b off m : Nat) (A Bi Dr : Nat → Int) (Dn Al : Nat → Value) (po : Nat → Option Addr) (n c pb poff : Nat → Nat) (V L R : Nat → Nat → Int) : Prop where
  at_ : 0 < m → wo = some ⟨b, off, none⟩
  lt : 0 < m → b < w.heap.size
  c0 : ∀ i, i < m → w.cell? ⟨b, off + i * 6, none⟩ = some (.int .i64 (A i))
  c1 : ∀ i, i < m → w.cell? ⟨b, off + i * 6 + 1, none⟩ = some (.int .i64 (Bi i))
  c2 : ∀ i, i < m → w.cell? ⟨b, off + i * 6 + 2, none⟩ = some (.int .i64 (Dr i))
  c3 : ∀ i, i < m → w.cell? ⟨b, off + i * 6 + 3, none⟩ = some (Dn i)
  c4 : ∀ i, i < m → w.cell? ⟨b, off + i * 6 + 4, none⟩ = some (Al i)
  c5 : ∀ i, i < m → w.cell? ⟨b, off + i * 6 + 5, none⟩ = some (.slice (po i) (n i) (c i))
  pt : ∀ i, i < m → PT w (po i) (pb i) (poff i) (n i) (c i) (V i) (L i) (R i)
  sz : ∀ i, i < m → n i * 24 ≤ 140737488351232
theorem WS.below {w w' : World} {wo b off m A Bi Dr Dn Al po n c pb poff V L R} (h : WS w wo b off m A Bi Dr Dn Al po n c pb poff V L R) (hb : Below w.heap.size w w') : WS w' wo b off m A Bi Dr Dn Al po n c pb poff V L R :=
  ⟨h.at_, fun hn => Nat.lt_of_lt_of_le (h.lt hn) hb.size, fun i hi => by rw [hb.cell (h.lt (by omega))]; exact h.c0 i hi, fun i hi => by rw [hb.cell (h.lt (by omega))]; exact h.c1 i hi,
    fun i hi => by rw [hb.cell (h.lt (by omega))]; exact h.c2 i hi, fun i hi => by rw [hb.cell (h.lt (by omega))]; exact h.c3 i hi, fun i hi => by rw [hb.cell (h.lt (by omega))]; exact h.c4 i hi,
    fun i hi => by rw [hb.cell (h.lt (by omega))]; exact h.c5 i hi, fun i hi => (h.pt i hi).below hb, h.sz⟩

set_option maxRecDepth 100000 in
set_option maxHeartbeats 2000000 in
theorem step_match (SB : Nat) (wo : Option Addr) (b off m wc : Nat) (A Bi Dr : Nat → Int) (Dn Al : Nat → Value) (po : Nat → Option Addr) (n c pb poff : Nat → Nat) (V L R : Nat → Nat → Int) (oa ob oc od : Int) (os : ByteArray) (w : World)
    (hm : m * 96 ≤ 140737488351232) (hw : WS w wo b off m A Bi Dr Dn Al po n c pb poff V L R) (hst : w.cell? ⟨SB, 0, none⟩ = some (.slice wo m wc)) (hsl : SB < w.heap.size)
    (a0 : -9223372036854775808 ≤ oa) (a1 : oa ≤ 9223372036854775807) :
    Calls Tryz.prog 30 #[.pointer (some ⟨SB, 0, none⟩), .agg #[.int .i64 1, .int .i64 oa, .int .i64 ob, .int .i64 oc, .int .i64 od, .string os]] w fun e w' => e = .returned (.bool true) ∧ Below w.heap.size w w' := by
  by_cases hm0 : m = 0
  · subst hm0
    go_enter Tryz.func30, Tryz.ntmps30
    go_wp2_with fail
    go_ret
    exact ⟨rfl, (Below.refl _ _).alloc (Nat.le_refl _) _⟩
  · obtain rfl := hw.at_ (by omega)
    have hne : ((m : Int) == 0) = false := by rw [beq_eq_false_iff_ne]; omega
    go_enter Tryz.func30, Tryz.ntmps30
    go_wp2_with fail
    have q1 : (w.alloc (.cells #[.int .i64 1, .int .i64 oa, .int .i64 ob, .int .i64 oc, .int .i64 od, .string os] 66)).cell? ⟨w.heap.size, 1, none⟩ = some (.int .i64 oa) := by simp
    have hal : Below w.heap.size w (w.alloc (.cells #[.int .i64 1, .int .i64 oa, .int .i64 ob, .int .i64 oc, .int .i64 od, .string os] 66)) := (Below.refl _ _).alloc (Nat.le_refl _) _
    have hst1 : (w.alloc (.cells #[.int .i64 1, .int .i64 oa, .int .i64 ob, .int .i64 oc, .int .i64 od, .string os] 66)).cell? ⟨SB, 0, none⟩ = some (.slice (some ⟨b, off, none⟩) m wc) := (hal.cell (p := ⟨SB, 0, none⟩) hsl).trans hst
    have hw1 := hw.below hal
    have HAL : Hid _ := hal
    generalize w.alloc (.cells #[.int .i64 1, .int .i64 oa, .int .i64 ob, .int .i64 oc, .int .i64 od, .string os] 66) = w1 at *
    clear hst hw hal
    have hmi : (0 : Int) < m := by omega
    go_region_with (first | (go_at_call 43; refine (pick_any _ m _ a0 a1 (by omega) (by omega)).mono ?_; rintro e w' ⟨⟨k, hk, rfl⟩, hww⟩; subst w'; have f0 := hw1.c0 k hk; have f1 := hw1.c1 k hk; have f2 := hw1.c2 k hk; have f3 := hw1.c3 k hk; have f4 := hw1.c4 k hk; have f5 := hw1.c5 k hk; have hki : (k : Int) < m := by omega) | (go_at_call 42; refine (matched_any _ _ _ _ _ _ _ _ _ _ _ _ _ _ (hw1.sz k hk) (by exact (hw1.pt k hk).below (bel_drewN (Below.refl _ _) 1))).mono ?_; rintro e w2 ⟨rfl, hb2⟩))
    all_goals
      have hfin : Hid (Below w.heap.size w w2) := HAL.out.trans (Below.mono (B := w1.heap.size) ((bel_drewN (Below.refl _ _) 1).trans hb2) HAL.out.size)
      clear hb2
      go_wp2_with fail
      go_ret
      exact ⟨rfl, hfin.out⟩
end Go.Proofs.YtaebngpoagjafaaGreat
