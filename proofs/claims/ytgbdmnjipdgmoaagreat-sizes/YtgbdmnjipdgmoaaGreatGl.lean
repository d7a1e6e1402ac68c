/-
  OUR OWN: lentPrefixes.
-/
import Derived.Test.YtgbdmnjipdgmoaaGreatGk
namespace Go.Proofs.YtgbdmnjipdgmoaaGreat
open Go.RowKit

/-- What lies in what is lent: the first n, then 77. -/
def ext (n : Nat) (V : Nat → Int) (i : Nat) : Int := if i < n then V i else 77

theorem row_of_owns {w : World} {base e size g N cap : Nat} {xs : List Value} (h : w.ownsRow base e size (.slice (some ⟨g, 0, none⟩) N cap) N xs) (hcap : cap = N) : ∃ f, w.rowIs g e (N * size) f := by
  subst hcap
  rcases h.2 with ⟨h', _⟩ | ⟨g', cap', cur, h', _, hg, _, _, hsz, _⟩
  · simp at h'
  · simp only [Value.slice.injEq, Option.some.injEq, Addr.mk.injEq, and_true, true_and] at h'
    obtain ⟨rfl, rfl⟩ := h'
    exact ⟨fun j => cur.getD j (.int .i64 0), cur, hg, hsz, fun i hi => by simp [Array.getD, hsz, hi]⟩

theorem below_grown {w w' : World} (h : w.grownBy w' none) : Below w.heap.size w w' := (Below.refl _ _).grown h (Nat.le_refl _) (fun k hk => by simp at hk)

theorem row_below {w w' : World} {g t N : Nat} {f : Nat → Value} (h : w.rowIs g t N f) (hb : Below w.heap.size w w') : w'.rowIs g t N f := h.of_block (hb.block g h.lt)

theorem fieldPlc (a b c : Int) (w : World) : (Instr.field 65 (.agg #[.int .i64 a, .int .i64 b, .int .i64 c]) 0).run Tryz.prog w = .ok (.agg #[.int .i64 a, .int .i64 b]) w := by kernel_rfl

/-- Two cells of a row, written. -/
def pairAt (f : Nat → Value) (k : Nat) (x y : Value) (j : Nat) : Value := if j = k * 2 + 1 then y else if j = k * 2 then x else f j
theorem row_pair {w : World} {g t N : Nat} {f : Nat → Value} (h : w.rowIs g t N f) (k : Nat) (x y : Value) : ((w.setCell ⟨g, k * 2, none⟩ x).setCell ⟨g, k * 2 + 1, none⟩ y).rowIs g t N (pairAt f k x y) := (h.set _ _).set _ _
theorem pair_step {f : Nat → Value} {k : Nat} {V L : Nat → Int} {x y : Value} (h : ∀ i, i < k → f (i * 2) = .int .i64 (V i) ∧ f (i * 2 + 1) = .int .i64 (L i)) (hx : x = .int .i64 (V k)) (hy : y = .int .i64 (L k)) :
    ∀ i, i < k + 1 → pairAt f k x y (i * 2) = .int .i64 (V i) ∧ pairAt f k x y (i * 2 + 1) = .int .i64 (L i) := by
  intro i hi
  unfold pairAt
  by_cases e : i = k
  · subst e; simp [hx, hy]
  · rw [if_neg (by omega), if_neg (by omega), if_neg (by omega), if_neg (by omega)]
    exact h i (by omega)
theorem pair_keep {f : Nat → Value} {k : Nat} {V L : Nat → Int} {x y : Value} (h : ∀ i, i < k → f (i * 2) = .int .i64 (V i) ∧ f (i * 2 + 1) = .int .i64 (L i)) :
    ∀ i, i < k → pairAt f k x y (i * 2) = .int .i64 (V i) ∧ pairAt f k x y (i * 2 + 1) = .int .i64 (L i) := by
  intro i hi
  unfold pairAt
  rw [if_neg (by omega), if_neg (by omega), if_neg (by omega), if_neg (by omega)]
  exact h i hi

theorem lentPrefixes_nil (w : World) :
    Calls Tryz.prog 21 #[.slice none 0 0] w fun e w' => e = .returned (.slice none 0 0) ∧ w' = w := by
  have hnil := fun w => Lib.run_eql_slice_nil (P := Tryz.prog) w 40 65 none 0 0 0 0 Tryz.underlying40
  simp only [Option.isNone] at hnil
  go_enter Tryz.func21, Tryz.ntmps21
  go_wp2
  go_ret
  exact ⟨rfl, rfl⟩

set_option maxRecDepth 100000 in
set_option maxHeartbeats 1000000 in
theorem lentPrefixes_any (ad : Addr) (b off n c : Nat) (V L R : Nat → Int) (w : World) (hn : n * 24 ≤ 140737488351232) (hs : TS w (some ad) b off n V L R) :
    Calls Tryz.prog 21 #[.slice (some ad) n c] w fun e w' => (∃ g f, e = .returned (.slice (some ⟨g, 0, none⟩) n (n + 8)) ∧ w.heap.size ≤ g ∧ w'.rowIs g 63 ((n + 8) * 2) f ∧ ∀ i, i < n + 8 → f (i * 2) = .int .i64 (ext n V i) ∧ f (i * 2 + 1) = .int .i64 (ext n L i)) ∧ Below w.heap.size w w' := by
  obtain ⟨i0, hi, hz0, hz1, hz2⟩ := info_parts Tryz.infoPrefix
  have hnil := fun w => Lib.run_eql_slice_nil (P := Tryz.prog) w 40 65 (some ad) n c 0 0 Tryz.underlying40
  simp only [Option.isNone] at hnil
  go_enter Tryz.func21, Tryz.ntmps21
  go_wp2_with (at_make; refine wpList_make_full _ rfl _ _ 56 rfl w.heap.size 63 i0 (.agg #[.int .i64 0, .int .i64 0]) 2 Tryz.underlying56 hi hz0 hz1 .i64 .i64 _ _ (n + 8) rfl rfl (by omega) (by omega) (by rw [hz2]; omega) (by unfold maxLen; omega) (Nat.le_refl _) ?_; intro w0 hown0 hgrow0)
  obtain ⟨f0, hrow0⟩ := row_of_owns hown0 rfl
  have HB0 : Hid (Below w.heap.size w w0) := below_grown hgrow0
  clear hown0 hgrow0 hnil
  go_loopw [5] (fun x wr => ∃ (k : Nat) (f : Nat → Value), k ≤ n + 8 ∧ x = .int .i64 k ∧ wr.rowIs w.heap.size 63 ((n + 8) * 2) f ∧ Hid (∀ i, i < k → f (i * 2) = .int .i64 (ext n V i) ∧ f (i * 2 + 1) = .int .i64 (ext n L i)) ∧ Below w.heap.size w wr) (fun x _ => n + 8 - (intOf x).toNat)
  case atStart => exact ⟨0, f0, by omega, rfl, hrow0, fun i hi => by omega, HB0⟩
  case round =>
    obtain ⟨k, f, hk, rfl, hrow, hf, hb⟩ := hrel
    clear hrow0 HB0
    by_cases hlt : k < n + 8
    · go_wp2_with fail
      refine (far_any _).mono ?_
      rintro e w1 ⟨rfl, hb1⟩
      have hrow1 := row_below hrow hb1
      have HB1 : Hid (Below w.heap.size w w1) := hb.trans (hb1.mono hb.size)
      clear hb1 hb hrow
      have c0 := hrow1.cell (i := k * 2) (by omega)
      have c1 := hrow1.cell (i := k * 2 + 1) (by omega)
      have z0 := hrow1.frozen (k * 2)
      have z1 := hrow1.frozen (k * 2 + 1)
      have hfp := fun w => fieldPlc 77 77 77 w
      by_cases hkn : k < n
      · have hat := hs.at_ (by omega)
        cases hat
        have hb0 : b < w.heap.size := hs.lt (by omega)
        have cv := (HB1.out.cell (p := ⟨b, off + k * 3, none⟩) hb0).trans (hs.val k hkn)
        have cl := (HB1.out.cell (p := ⟨b, off + k * 3 + 1, none⟩) hb0).trans (hs.len k hkn)
        have hne : ¬ b = w.heap.size := by omega
        have hne2 : ¬ w.heap.size = b := by omega
        have HS : Hid (∀ i, i < k + 1 → pairAt (pairAt f k (.int .i64 77) (.int .i64 77)) k (.int .i64 (V k)) (.int .i64 (L k)) (i * 2) = .int .i64 (ext n V i) ∧ pairAt (pairAt f k (.int .i64 77) (.int .i64 77)) k (.int .i64 (V k)) (.int .i64 (L k)) (i * 2 + 1) = .int .i64 (ext n L i)) :=
          pair_step (pair_keep hf.out) (by rw [ext, if_pos hkn]) (by rw [ext, if_pos hkn])
        go_wp2_with fail
        go_roundw
        case rel => exact ⟨k + 1, _, by omega, by go_num, row_pair (row_pair hrow1 _ _ _) _ _ _, HS, (((HB1.out.setCell (Nat.le_refl _) _).setCell (Nat.le_refl _) _).setCell (Nat.le_refl _) _).setCell (Nat.le_refl _) _⟩
        case measure => simp [intOf]; omega
      · have HS : Hid (∀ i, i < k + 1 → pairAt f k (.int .i64 77) (.int .i64 77) (i * 2) = .int .i64 (ext n V i) ∧ pairAt f k (.int .i64 77) (.int .i64 77) (i * 2 + 1) = .int .i64 (ext n L i)) :=
          pair_step hf.out (by rw [ext, if_neg hkn]) (by rw [ext, if_neg hkn])
        go_wp2_with fail
        go_roundw
        case rel => exact ⟨k + 1, _, by omega, by go_num, row_pair hrow1 _ _ _, HS, (HB1.out.setCell (Nat.le_refl _) _).setCell (Nat.le_refl _) _⟩
        case measure => simp [intOf]; omega
    · have hkn : k = n + 8 := by omega
      subst hkn
      go_wp2_with fail
      go_ret
      exact ⟨⟨_, f, rfl, Nat.le_refl _, hrow, hf⟩, hb⟩

theorem ps_of_row {w : World} {g n : Nat} {f : Nat → Value} {V L : Nat → Int} (h : w.rowIs g 63 (n * 2) f) (hf : ∀ i, i < n → f (i * 2) = .int .i64 (V i) ∧ f (i * 2 + 1) = .int .i64 (L i)) : PS w (some ⟨g, 0, none⟩) g n V L :=
  ⟨fun _ => rfl, fun _ => h.lt, fun i hi => by rw [h.cell (by omega), (hf i hi).1], fun i hi => by rw [h.cell (by omega), (hf i hi).2]⟩
theorem PS.congr {w : World} {ao b n V L V' L'} (h : PS w ao b n V L) (hv : ∀ i, i < n → V i = V' i ∧ L i = L' i) : PS w ao b n V' L' :=
  ⟨h.at_, h.lt, fun i hi => by rw [← (hv i hi).1]; exact h.val i hi, fun i hi => by rw [← (hv i hi).2]; exact h.len i hi⟩
theorem PS.firsts {w : World} {ao b n V L} (h : PS w ao b (n + 8) (ext n V) (ext n L)) : PS w ao b n V L :=
  (h.take (by omega)).congr fun i hi => by simp [ext, hi]

theorem wholePrefixes_nil (v : Value) (w : World) :
    Calls Tryz.prog 23 #[v, .slice none 0 0] w fun e w' => e = .returned (.bool true) ∧ w' = w := by
  have hnil := fun w => Lib.run_eql_slice_nil (P := Tryz.prog) w 40 65 none 0 0 0 0 Tryz.underlying40
  simp only [Option.isNone] at hnil
  go_enter Tryz.func23, Tryz.ntmps23
  go_wp2
  go_ret
  exact ⟨rfl, rfl⟩

set_option maxRecDepth 100000 in
set_option maxHeartbeats 1000000 in
theorem wholePrefixes_any (ad : Addr) (g b off n c : Nat) (V L R : Nat → Int) (w : World) (hn : n * 24 ≤ 140737488351232) (hs : TS w (some ad) b off n V L R) (hp : PS w (some ⟨g, 0, none⟩) g (n + 8) (ext n V) (ext n L)) :
    Calls Tryz.prog 23 #[.slice (some ⟨g, 0, none⟩) n (n + 8), .slice (some ad) n c] w fun e w' => e = .returned (.bool true) ∧ Below w.heap.size w w' := by
  have hnil := fun w => Lib.run_eql_slice_nil (P := Tryz.prog) w 40 65 (some ad) n c 0 0 Tryz.underlying40
  simp only [Option.isNone] at hnil
  have hfp := fun w => fieldPlc 77 77 77 w
  have hgl : g < w.heap.size := hp.lt (by omega)
  go_enter Tryz.func23, Tryz.ntmps23
  go_wp2
  go_loopw [7, 8] (fun y x wr => ∃ (k : Nat), k ≤ n + 8 ∧ x = .int .i64 k ∧ y = .bool true ∧ Below w.heap.size w wr) (fun _ x _ => n + 8 - (intOf x).toNat)
  case atStart => exact ⟨0, by omega, rfl, rfl, Below.refl _ _⟩
  case round =>
    obtain ⟨k, hk, rfl, rfl, hb⟩ := hrel
    clear hnil
    by_cases hlt : k < n + 8
    · go_wp2_with fail
      refine (far_any _).mono ?_
      rintro e w1 ⟨rfl, hb1⟩
      have HB1 : Hid (Below w.heap.size w w1) := hb.trans (hb1.mono hb.size)
      have hz := HB1.out.size
      have p0 := (hp.below HB1.out).val k hlt
      have p1 := (hp.below HB1.out).len k hlt
      have hg1 : g < w1.heap.size := by omega
      have hlt' : (k : Int) < (n : Int) + 8 := by omega
      clear hb1 hb
      by_cases hkn : k < n
      · have hat := hs.at_ (by omega)
        cases hat
        have hb0 : b < w.heap.size := hs.lt (by omega)
        have cv := (HB1.out.cell (p := ⟨b, off + k * 3, none⟩) hb0).trans (hs.val k hkn)
        have cl := (HB1.out.cell (p := ⟨b, off + k * 3 + 1, none⟩) hb0).trans (hs.len k hkn)
        have hq := fun w => eqPrefix (V k) (L k) (V k) (L k) w
        simp only [ext, if_pos hkn] at p0 p1
        simp only [beq_self_eq_true, Bool.and_self] at hq
        have hb1' : b < w1.heap.size := by omega
        go_wp2_with fail
        go_quiet (fail)
        go_wp2_with fail
        go_roundw
        case rel => exact ⟨k + 1, by omega, by go_num, rfl, bel_drewN (HB1.out.alloc hz _) _⟩
        case measure => simp [intOf]; omega
      · have hq := fun w => eqPrefix 77 77 77 77 w
        simp only [ext, if_neg hkn] at p0 p1
        simp only [beq_self_eq_true, Bool.and_self] at hq
        go_wp2_with fail
        go_quiet (fail)
        go_wp2_with fail
        go_roundw
        case rel => exact ⟨k + 1, by omega, by go_num, rfl, bel_drewN (HB1.out.alloc hz _) _⟩
        case measure => simp [intOf]; omega
    · have hkn : k = n + 8 := by omega
      subst hkn
      go_wp2_with fail
      go_ret
      exact ⟨rfl, hb⟩
end Go.Proofs.YtgbdmnjipdgmoaaGreat
