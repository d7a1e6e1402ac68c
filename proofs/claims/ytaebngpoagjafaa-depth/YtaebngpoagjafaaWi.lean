/-
  OUR OWN: the contract of other.
-/
import Derived.Test.YtaebngpoagjafaaWh
import Derived.Test.YtaebngpoagjafaaMathc
namespace Go.Proofs.Ytaebngpoagjafaa
open Go.RowKit

/-- The hit that other looks for at prefix i. -/
def hit (V L : Nat → Int) (a s : Int) (n i : Nat) : Prop := M.join (M.join (V i) a (L i)) 0 (s - 1) = M.join a 0 (s - 1) ∧ M.bestTo V L (M.join (V i) a (L i)) n ≠ M.bestTo V L a n

theorem hit_or {V L : Nat → Int} {a s : Int} {n : Nat} (hp : ∀ i, i < n → M.isP (V i) (L i) = true) (ha : M.isA a = true) (hs : s = M.depTo V L a n) (s0 : 1 ≤ s) (s1 : s ≤ 32) :
    M.bestTo V L (M.turn a s) n ≠ M.bestTo V L a n ∨ ∃ i, i < n ∧ hit V L a s n i := by
  obtain ⟨t1, t2⟩ := M.turn_ok ha s0 s1
  rcases M.depth_other (s := s.toNat) hp ha (by omega) (by omega) t1 t2 with h | ⟨i, hi, h1, h2⟩
  · exact .inl h
  · refine .inr ⟨i, hi, ?_, h2⟩
    rw [M.join_zero (M.prefix_join (hp i hi) ha).2.1 ha (by omega) (by omega)]
    have : (s - 1).toNat = s.toNat - 1 := by omega
    rw [this]; exact h1

set_option maxHeartbeats 1000000 in
theorem other_any (ao : Option Addr) (b n c : Nat) (V L : Nat → Int) (a s k : Int) (w : World) (hc : n ≤ c) (hs : PS w ao b n V L) (hA : M.isA a = true) (hM : M.isMap V L n = true)
    (hk : k = M.bestTo V L a n) (hd : s = M.depTo V L a n) (s0 : 1 ≤ s) (s1 : s ≤ 32) :
    Calls Try.prog 11 #[.slice ao n c, .int .i64 a, .int .i64 s, .int .i64 k] w fun e w' => e = .returned (.bool true) ∧ Below w.heap.size w w' := by
  have hm : n ≤ 64 ∧ M.okTo V L n = true := by simpa [M.isMap] using hM
  have hP : Hid (∀ i, i < n → M.isP (V i) (L i) = true) := fun i hi => (M.okTo_iff.1 hm.2 i hi).1
  obtain ⟨h64, _⟩ := hm
  obtain ⟨a0, a1⟩ := M.isA_iff.1 hA
  have hor : Hid (M.bestTo V L (M.turn a s) n ≠ k ∨ ∃ i, i < n ∧ hit V L a s n i) := by rw [hk]; exact hit_or hP.out hA hd s0 s1
  have HK : Hid (k = M.bestTo V L a n) := hk
  obtain ⟨hT, _⟩ := M.turn_ok hA s0 s1
  have hp := M.p2_pos (32 - s).toNat
  have hq := M.p2_le (j := (32 - s).toNat) (by omega)
  clear hk hd
  obtain ⟨t, hte⟩ : ∃ t, t = M.turn a s := ⟨_, rfl⟩
  rw [← hte] at hT
  have HT : Hid (t = M.turn a s) := hte
  have hor' : Hid (M.bestTo V L t n ≠ k ∨ ∃ i, i < n ∧ hit V L a s n i) := by rw [hte]; exact hor
  clear hte hor
  go_enter Try.func11, Try.ntmps11
  go_wp2_with fail
  refine (tail_keep _ _ (by omega) s1).mono ?_
  rintro e w' ⟨rfl, hww⟩
  subst w'
  generalize hh : M.p2 (32 - s).toNat = h at *
  have HH : Hid (M.p2 (32 - s).toNat = h) := hh
  clear hh
  have hq0 : 0 ≤ a / h := Int.ediv_nonneg a0 (by omega)
  have hpar : ((a / h % 2 == 1) = true ∧ a - h = t) ∨ ((a / h % 2 == 1) = false ∧ a + h = t) := by
    cases e1 : (a / h % 2 == 1) with
    | true =>
      have g : a / h % 2 = 1 := by simpa using e1
      exact .inl ⟨rfl, by rw [HT.out, M.turn, HH.out, if_pos g]⟩
    | false =>
      have g : ¬ a / h % 2 = 1 := by simpa using e1
      exact .inr ⟨rfl, by rw [HT.out, M.turn, HH.out, if_neg g]⟩
  have hMo : Hid (∀ (x : Int) (wq : World), PS wq ao b n V L → M.isA x = true → Calls Try.prog 8 #[.slice ao n c, .int .i64 x] wq fun e w' => e = .returned (.tuple #[.int .i64 (M.bestTo V L x n), .int .i64 (M.depTo V L x n), .int .i64 0]) ∧ Below wq.heap.size wq w') :=
    fun x wq hsq hx => Match_ok ao b n c V L x wq hc hsq hx hM
  clear hM
  rcases hpar with ⟨e1, ht⟩ | ⟨e1, ht⟩
  all_goals
    go_wp2_with fail
    refine (hMo.out t _ hs hT).mono ?_
    rintro e w1 ⟨rfl, hb1⟩
    have hs1 := hs.below hb1
    have HB : Hid (Below w.heap.size w w1) := hb1
    clear hb1 ht e1
    cases e2 : (M.bestTo V L t n != k) with
    | true =>
      go_wp2_with fail
      go_ret
      exact ⟨rfl, HB⟩
    | false =>
      have hex : Hid (∃ i, i < n ∧ hit V L a s n i) := by
        rcases hor'.out with h1 | h1
        · simp at e2; exact absurd e2 h1
        · exact h1
      go_wp2_with fail
      go_loopw [14] (fun i wr => ∃ m : Nat, m ≤ n ∧ i = .int .i64 m ∧ Hid (∀ i, i < m → ¬ hit V L a s n i) ∧ PS wr ao b n V L ∧ Below w.heap.size w wr) (fun i _ => n - (intOf i).toNat)
      case atStart => exact ⟨0, by omega, rfl, fun i hi => by omega, hs1, HB⟩
      case round =>
        obtain ⟨m, hm, rfl, hno, hsr, hbr⟩ := hrel
        clear hs hs1 HB
        by_cases hlt : m < n
        · obtain rfl := hsr.at_ (by omega)
          have hv := hsr.val m hlt
          have hl := hsr.len m hlt
          have hPm := hP.out m hlt
          obtain ⟨l0, l1, v0, v1, _⟩ := M.isP_iff.1 hPm
          have hJ := (M.prefix_join hPm hA).2.1
          obtain ⟨j0, j1⟩ := M.isA_iff.1 hJ
          have mn : (m : Int) < n := by omega
          go_wp2_with fail
          go_quiet ((go_at_call 10; exact Calls.quiet_of (joined_any _ _ _ _ v0 v1 a0 a1 l0 l1)))
          go_wp2_with fail
          refine (joined_any _ _ _ _ j0 j1 (by omega) (by omega) (by omega) (by omega)).mono ?_
          rintro e w2 ⟨rfl, m2, rfl⟩
          go_wp2_with fail
          refine (joined_any _ _ _ _ a0 a1 (by omega) (by omega) (by omega) (by omega)).mono ?_
          rintro e w3 ⟨rfl, m3, rfl⟩
          have hs3 := hsr.drewN (nq + m2 + m3)
          have HB3 : Hid (Below w.heap.size w (wr.drewN (nq + m2 + m3))) := below_drewN hbr _
          clear hv hl hsr hbr
          cases e3 : (M.join (M.join (V m) a (L m)) 0 (s - 1) != M.join a 0 (s - 1)) with
          | true =>
            have HN : Hid (∀ i, i < m + 1 → ¬ hit V L a s n i) := fun i hi hh => by
              by_cases him : i = m
              · subst him; simp at e3; exact e3 hh.1
              · exact hno.out i (by omega) hh
            go_wp2_with fail
            go_roundw
            case rel => exact ⟨m + 1, by omega, by go_num, HN, hs3, HB3⟩
            case measure => simp [intOf]; omega
          | false =>
            go_wp2_with fail
            refine (hMo.out _ _ hs3 hJ).mono ?_
            rintro e w5 ⟨rfl, hb5⟩
            have hs5 := hs3.below hb5
            have HB5 : Hid (Below w.heap.size w w5) := HB3.out.trans (hb5.mono HB3.out.size)
            clear hb5 hs3
            cases e4 : (M.bestTo V L (M.join (V m) a (L m)) n != k) with
            | true =>
              go_wp2_with fail
              go_ret
              exact ⟨rfl, HB5⟩
            | false =>
              have HN : Hid (∀ i, i < m + 1 → ¬ hit V L a s n i) := fun i hi hh => by
                by_cases him : i = m
                · subst him; simp at e4; exact hh.2 (by rw [e4]; exact HK.out)
                · exact hno.out i (by omega) hh
              go_wp2_with fail
              go_roundw
              case rel => exact ⟨m + 1, by omega, by go_num, HN, hs5, HB5⟩
              case measure => simp [intOf]; omega
        · exfalso
          obtain ⟨i, hi, hh⟩ := hex.out
          exact hno.out i (by omega) hh
end Go.Proofs.Ytaebngpoagjafaa
