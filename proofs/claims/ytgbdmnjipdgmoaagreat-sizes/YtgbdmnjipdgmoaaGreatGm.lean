/-
  OUR OWN: the contract of matched.
-/
import Derived.Test.YtgbdmnjipdgmoaaGreatGl
namespace Go.Proofs.YtgbdmnjipdgmoaaGreat
open Go.RowKit

/-- Places that came in: nil, or a list in memory. -/
def PT (w : World) (po : Option Addr) (b off n c : Nat) (V L R : Nat → Int) : Prop := (po = none ∧ n = 0 ∧ c = 0) ∨ ∃ ad, po = some ad ∧ TS w (some ad) b off n V L R
theorem PT.below {w w' : World} {po b off n c V L R} (h : PT w po b off n c V L R) (hb : Below w.heap.size w w') : PT w' po b off n c V L R := by
  rcases h with h | ⟨ad, h1, h2⟩
  · exact .inl h
  · exact .inr ⟨ad, h1, h2.below hb⟩
/-- What was lent of them. -/
def Lent (w : World) (lo : Option Addr) (lb n lc : Nat) (po : Option Addr) (V L : Nat → Int) : Prop := PS w lo lb n V L ∧ n ≤ lc ∧ (po = none ∨ (lo = some ⟨lb, 0, none⟩ ∧ lc = n + 8 ∧ PS w (some ⟨lb, 0, none⟩) lb (n + 8) (ext n V) (ext n L)))
theorem Lent.below {w w' : World} {lo lb n lc po V L} (h : Lent w lo lb n lc po V L) (hb : Below w.heap.size w w') : Lent w' lo lb n lc po V L := by
  obtain ⟨h1, h2, h3⟩ := h
  refine ⟨h1.below hb, h2, ?_⟩
  rcases h3 with h | ⟨a, b, c⟩
  · exact .inl h
  · exact .inr ⟨a, b, c.below hb⟩

theorem lent_all (po : Option Addr) (b off n c : Nat) (V L R : Nat → Int) (w : World) (hn : n * 24 ≤ 140737488351232) (hs : PT w po b off n c V L R) :
    Calls Tryz.prog 21 #[.slice po n c] w fun e w' => (∃ lo lb lc, e = .returned (.slice lo n lc) ∧ Lent w' lo lb n lc po V L) ∧ Below w.heap.size w w' := by
  rcases hs with ⟨rfl, rfl, rfl⟩ | ⟨ad, rfl, hs⟩
  · refine (lentPrefixes_nil w).mono ?_
    rintro e w' ⟨rfl, hw⟩
    subst w'
    exact ⟨⟨none, 0, 0, rfl, ⟨fun h => by omega, fun h => by omega, fun i hi => by omega, fun i hi => by omega⟩, Nat.le_refl _, .inl rfl⟩, Below.refl _ _⟩
  · refine (lentPrefixes_any ad b off n c V L R w hn hs).mono ?_
    rintro e w' ⟨⟨g, f, rfl, _, hrow, hf⟩, hb⟩
    have hps := ps_of_row hrow hf
    exact ⟨⟨some ⟨g, 0, none⟩, g, n + 8, rfl, hps.firsts, by omega, .inr ⟨rfl, rfl, hps⟩⟩, hb⟩

theorem whole_all (po lo : Option Addr) (b off n c lb lc : Nat) (V L R : Nat → Int) (w : World) (hn : n * 24 ≤ 140737488351232) (hs : PT w po b off n c V L R) (hl : Lent w lo lb n lc po V L) :
    Calls Tryz.prog 23 #[.slice lo n lc, .slice po n c] w fun e w' => e = .returned (.bool true) ∧ Below w.heap.size w w' := by
  rcases hs with ⟨rfl, rfl, rfl⟩ | ⟨ad, rfl, hs⟩
  · refine (wholePrefixes_nil _ w).mono ?_
    rintro e w' ⟨rfl, hw⟩
    subst w'
    exact ⟨rfl, Below.refl _ _⟩
  · obtain ⟨_, _, h | ⟨rfl, rfl, hp⟩⟩ := hl
    · cases h
    · exact wholePrefixes_any ad lb b off n c V L R w hn hs hp

/-- Either answer of Match, by the document and by the program: the same. -/
theorem Match_all (lo : Option Addr) (lb n lc : Nat) (V L : Nat → Int) (a : Int) : ∃ x y z : Int, ∀ (w : World), n ≤ 9223372036854775807 → n ≤ lc → PS w lo lb n V L →
    Calls Tryz.prog 22 #[.slice lo n lc, .int .i64 a] w fun e w' => e = .returned (.tuple #[.int .i64 x, .int .i64 y, .int .i64 z]) ∧ Below w.heap.size w w' := by
  by_cases h : M.isA a = true ∧ M.isMap V L n = true
  · exact ⟨_, _, _, fun w _ hc hs => Match_ok lo lb n lc V L a w hc hs h.1 h.2⟩
  · refine ⟨_, _, _, fun w hn hc hs => Match_no lo lb n lc V L a w hn hc hs ?_⟩
    cases hA : M.isA a with
    | false => exact .inl rfl
    | true => cases hM : M.isMap V L n with
      | false => exact .inr rfl
      | true => exact absurd ⟨hA, hM⟩ h
theorem Match_both (V L : Nat → Int) (n : Nat) (a : Int) : ∃ x y z : Int,
    (∀ (lo : Option Addr) (lb lc : Nat) (w : World), n ≤ 9223372036854775807 → n ≤ lc → PS w lo lb n V L →
      Calls Tryz.prog 22 #[.slice lo n lc, .int .i64 a] w fun e w' => e = .returned (.tuple #[.int .i64 x, .int .i64 y, .int .i64 z]) ∧ Below w.heap.size w w') ∧
    (∀ (lo : Option Addr) (lb lc : Nat) (w : World), n ≤ 9223372036854775807 → PS w lo lb n V L →
      Calls Tryz.prog 24 #[.slice lo n lc, .int .i64 a] w fun e w' => e = .returned (.tuple #[.int .i64 x, .int .i64 y, .int .i64 z]) ∧ Below w.heap.size w w') := by
  by_cases h : M.isA a = true ∧ M.isMap V L n = true
  · exact ⟨_, _, _, fun lo lb lc w _ hc hs => Match_ok lo lb n lc V L a w hc hs h.1 h.2, fun lo lb lc w _ hs => MatchRef_ok lo lb n lc V L a w hs h.1 h.2⟩
  · have h' : M.isA a = false ∨ M.isMap V L n = false := by
      cases hA : M.isA a with
      | false => exact .inl rfl
      | true => cases hM : M.isMap V L n with
        | false => exact .inr rfl
        | true => exact absurd ⟨hA, hM⟩ h
    exact ⟨_, _, _, fun lo lb lc w hn hc hs => Match_no lo lb n lc V L a w hn hc hs h', fun lo lb lc w hn hs => MatchRef_no lo lb n lc V L a w hn hs h'⟩

theorem below_pair (w : World) (g i j : Nat) (x y : Value) : Below g w ((w.setCell ⟨g, i, none⟩ x).setCell ⟨g, j, none⟩ y) :=
  Below.setCell (p := ⟨g, j, none⟩) (Below.setCell (p := ⟨g, i, none⟩) (Below.refl _ _) (Nat.le_refl g) x) (Nat.le_refl g) y

/-- The world that was boxed. -/
structure BX (w : World) (B : Nat) (a : Int) (pl : Value) : Prop where
  addr : w.cell? ⟨B, 0, none⟩ = some (.int .i64 a)
  plc : w.cell? ⟨B, 5, none⟩ = some pl
  lt : B < w.heap.size
theorem BX.below {w w' : World} {B a pl} (h : BX w B a pl) (hb : Below w.heap.size w w') : BX w' B a pl :=
  ⟨by rw [hb.cell h.lt]; exact h.addr, by rw [hb.cell h.lt]; exact h.plc, Nat.lt_of_lt_of_le h.lt hb.size⟩

set_option maxRecDepth 100000 in
set_option maxHeartbeats 2000000 in
theorem matched_any (a bi dr : Int) (dn al : Value) (po : Option Addr) (b off n c : Nat) (V L R : Nat → Int) (w : World) (hn : n * 24 ≤ 140737488351232) (hs : PT w po b off n c V L R) :
    Calls Tryz.prog 10 #[.agg #[.int .i64 a, .int .i64 bi, .int .i64 dr, dn, al, .slice po n c]] w fun e w' => e = .returned (.bool true) ∧ Below w.heap.size w w' := by
  obtain ⟨i0, hi, hz0, hz1, hz2⟩ := info_parts Tryz.infoPrefix
  obtain ⟨x, y, z, hM1, hM2⟩ := Match_both V L n a
  have HM1 : Hid _ := hM1
  have HM2 : Hid _ := hM2
  clear hM1 hM2
  go_enter Tryz.func10, Tryz.ntmps10
  go_wp2_with fail
  have hsA : PT (w.alloc (.cells #[.int .i64 a, .int .i64 bi, .int .i64 dr, dn, al, .slice po n c] 42)) po b off n c V L R := hs.below ((Below.refl _ _).alloc (Nat.le_refl _) _)
  refine (lent_all _ _ _ _ _ V L R _ hn hsA).mono ?_
  rintro e w1 ⟨⟨lo, lb, lc, rfl, hL1⟩, hb1⟩
  have hx1 : BX w1 w.heap.size a (.slice po n c) := BX.below ⟨by simp, by simp, by simp⟩ hb1
  have hs1 := hsA.below hb1
  have HB1 : Hid (Below w.heap.size w w1) := ((Below.refl _ _).alloc (Nat.le_refl _) _).trans (hb1.mono (by simp))
  clear hs hsA hb1
  have q0 := hx1.addr
  go_wp2_with fail
  refine (HM1.out lo lb lc _ (by omega) hL1.2.1 hL1.1).mono ?_
  rintro e w2 ⟨rfl, hb2⟩
  have hx2 := hx1.below hb2
  have hs2 := hs1.below hb2
  have hL2 := hL1.below hb2
  have HB2 : Hid (Below w.heap.size w w2) := HB1.out.trans (hb2.mono HB1.out.size)
  clear hx1 hs1 hL1 hb2 HB1 q0
  have q5 := hx2.plc
  go_wp2_with fail
  refine (whole_all po lo b off n c lb lc V L R _ hn hs2 hL2).mono ?_
  rintro e w3 ⟨rfl, hb3⟩
  have hx3 := hx2.below hb3
  have hs3 := hs2.below hb3
  have HB3 : Hid (Below w.heap.size w w3) := HB2.out.trans (hb3.mono HB2.out.size)
  clear hx2 hs2 hL2 hb3 HB2 q5
  have q5 := hx3.plc
  go_wp2_with (at_make; refine wpList_make_full _ rfl _ _ 56 rfl w3.heap.size 63 i0 (.agg #[.int .i64 0, .int .i64 0]) 2 Tryz.underlying56 hi hz0 hz1 .i64 .i64 _ _ n rfl rfl (by omega) (by omega) (by rw [hz2]; omega) (by unfold maxLen; omega) (Nat.le_refl _) ?_; intro w0 hown0 hgrow0)
  obtain ⟨f0, hrow0⟩ := row_of_owns hown0 rfl
  have hb0 := below_grown hgrow0
  have hx0 := hx3.below hb0
  have hs0 := hs3.below hb0
  have HB0 : Hid (Below w.heap.size w w0) := HB3.out.trans (hb0.mono HB3.out.size)
  have hgB : w.heap.size < w3.heap.size := hx3.lt
  have hbg : Hid (0 < n → b < w3.heap.size) := fun h0 => by
    rcases hs3 with ⟨_, h, _⟩ | ⟨_, _, h⟩
    · omega
    · exact h.lt h0
  clear hown0 hgrow0 hb0 hx3 hs3 HB3 q5
  go_loopw [9] (fun x wr => ∃ (k : Nat) (f : Nat → Value), k ≤ n ∧ x = .int .i64 k ∧ wr.rowIs w3.heap.size 63 (n * 2) f ∧ Hid (∀ i, i < k → f (i * 2) = .int .i64 (V i) ∧ f (i * 2 + 1) = .int .i64 (L i)) ∧ BX wr w.heap.size a (.slice po n c) ∧ PT wr po b off n c V L R ∧ Below w.heap.size w wr) (fun x _ => n - (intOf x).toNat)
  case atStart => exact ⟨0, f0, by omega, rfl, hrow0, fun i hi => by omega, hx0, hs0, HB0⟩
  case round =>
    obtain ⟨k, f, hk, rfl, hrow, hf, hxr, hsr, hb⟩ := hrel
    clear hrow0 HB0 hx0 hs0
    by_cases hlt : k < n
    · have q5 := hxr.plc
      rcases hsr with ⟨_, h, _⟩ | ⟨ad, rfl, hts⟩
      · omega
      have hat := hts.at_ (by omega)
      cases hat
      have c0 := hrow.cell (i := k * 2) (by omega)
      have c1 := hrow.cell (i := k * 2 + 1) (by omega)
      have z0 := hrow.frozen (k * 2)
      have z1 := hrow.frozen (k * 2 + 1)
      have cv := hts.val k hlt
      have cl := hts.len k hlt
      have hbg' := hbg.out (by omega)
      have HS := pair_step (x := .int .i64 (V k)) (y := .int .i64 (L k)) hf.out rfl rfl
      have HS' : Hid _ := HS
      have hstay : Hid (∀ (x y : Value), BX ((wr.setCell ⟨w3.heap.size, k * 2, none⟩ x).setCell ⟨w3.heap.size, k * 2 + 1, none⟩ y) w.heap.size a (.slice (some ⟨b, off, none⟩) n c) ∧ PT ((wr.setCell ⟨w3.heap.size, k * 2, none⟩ x).setCell ⟨w3.heap.size, k * 2 + 1, none⟩ y) (some ⟨b, off, none⟩) b off n c V L R) := by
        intro x y
        have hbb : Below w3.heap.size wr ((wr.setCell ⟨w3.heap.size, k * 2, none⟩ x).setCell ⟨w3.heap.size, k * 2 + 1, none⟩ y) := below_pair _ _ _ _ _ _
        have hz := hbb.size
        refine ⟨⟨by rw [hbb.cell hgB]; exact hxr.addr, by rw [hbb.cell hgB]; exact hxr.plc, Nat.lt_of_lt_of_le hxr.lt hz⟩, .inr ⟨_, rfl, ⟨fun _ => rfl, fun h => Nat.lt_of_lt_of_le (hts.lt h) hz, fun i hi => by rw [hbb.cell hbg']; exact hts.val i hi, fun i hi => by rw [hbb.cell hbg']; exact hts.len i hi, fun i hi => by rw [hbb.cell hbg']; exact hts.reg i hi⟩⟩⟩
      have HR : Hid (wr.rowIs w3.heap.size 63 (n * 2) f) := hrow
      have HB : Hid (Below w.heap.size w wr) := hb
      clear HS hts hrow hb hf hxr
      go_wp2_with fail
      go_roundw
      case rel => exact ⟨k + 1, _, by omega, by go_num, row_pair HR.out _ _ _, HS'.out, (hstay.out _ _).1, (hstay.out _ _).2, (HB.out.setCell (Nat.le_of_lt hgB) _).setCell (Nat.le_of_lt hgB) _⟩
      case measure => simp [intOf]; omega
    · have hkn : k = n := by omega
      subst hkn
      have q0 := hxr.addr
      have hps := ps_of_row hrow hf.out
      have HB : Hid (Below w.heap.size w wr) := hb
      clear hrow hf hsr hb
      go_wp2_with fail
      refine (HM2.out _ _ _ _ (by omega) hps).mono ?_
      rintro e w4 ⟨rfl, hb4⟩
      have HB4 : Hid (Below w.heap.size w w4) := HB.out.trans (hb4.mono HB.out.size)
      clear hb4 hps hxr q0
      go_wp2_with fail
      go_ret
      exact ⟨rfl, HB4⟩
end Go.Proofs.YtgbdmnjipdgmoaaGreat
