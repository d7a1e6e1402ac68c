/-
  OUR OWN: Matches' walk.
  OUR OWN: what comes in, opened: places, worlds, steps.
  OUR OWN: lists of worlds and of steps, opened.
-/
import Derived.Test.YtaebngpoagjafaaGreatQ02
import Derived.ProofKit
import Derived.OpenShut
import Derived.ChangeOld
import Derived.Below
import Derived.SizedLaws
import Derived.Deep.Slices
namespace Go.Proofs.YtaebngpoagjafaaGreat
open Go.RowKit

set_option maxHeartbeats 400000 in
theorem matches_walk (wo so : Option Addr) (b off m wc : Nat) (A Bi Dr : Nat → Int) (Dn Al : Nat → Value) (po : Nat → Option Addr) (n c pb poff : Nat → Nat) (V L R : Nat → Nat → Int) (sb soff sn sc : Nat) (OK OA OB OC OD : Nat → Int) (OStr : Nat → ByteArray) (w : World)
    (hm : m * 96 ≤ 140737488351232) (hw : WS w wo b off m A Bi Dr Dn Al po n c pb poff V L R) (hn : sn * 56 ≤ 140737488351232) (hs : OS w so sb soff sn OK OA OB OC OD OStr)
    (hA : ∀ i, i < sn → -9223372036854775808 ≤ OA i ∧ OA i ≤ 9223372036854775807) :
    Calls Tryz.prog 3 #[.slice wo m wc, .slice so sn sc] w fun e w' => e = .returned (.bool true) ∧ Below w.heap.size w w' := by
  have HA : Hid (∀ i, i < sn → -9223372036854775808 ≤ OA i ∧ OA i ≤ 9223372036854775807) := hA
  clear hA
  go_enter Tryz.func3, Tryz.ntmps3
  go_wp2_with fail
  have hal : Below w.heap.size w (w.alloc (.cells #[.int .i64 1] 3)) := (Below.refl _ _).alloc (Nat.le_refl _) _
  have HW : Hid (WS (w.alloc (.cells #[.int .i64 1] 3)) wo b off m A Bi Dr Dn Al po n c pb poff V L R) := hw.below hal
  have HO : Hid (OS (w.alloc (.cells #[.int .i64 1] 3)) so sb soff sn OK OA OB OC OD OStr) := hs.below hal
  have hc1 : (w.alloc (.cells #[.int .i64 1] 3)).cell? ⟨w.heap.size, 0, none⟩ = some (.int .i64 1) := by simp
  have hlt : w.heap.size < (w.alloc (.cells #[.int .i64 1] 3)).heap.size := by simp
  have HAL : Hid (Below w.heap.size w (w.alloc (.cells #[.int .i64 1] 3))) := hal
  generalize w.alloc (.cells #[.int .i64 1] 3) = w1 at *
  clear hw hs hal
  have hone : ∀ i, i < 1 → w1.cell? ⟨w.heap.size, i, none⟩ = some (.int .i64 1) := fun i hi => by
    have h0 : i = 0 := by omega
    rw [h0]; exact hc1
  refine (plays_any (fun wq => wq.cell? ⟨w1.heap.size, 0, none⟩ = some (.slice wo m wc) ∧ wq.cell? ⟨w1.heap.size, 3, none⟩ = some (.slice none 0 0) ∧ wq.cell? ⟨w1.heap.size, 4, none⟩ = some (.slice none 0 0))
    wo so m wc sb soff sn sc w.heap.size 1 1 OK OA OB OC OD OStr (fun _ => 1) w1 hn (by omega) HO.out hlt hone
    ⟨by simp [st0], by simp [st0], by simp [st0]⟩ ?_ ?_ ?_).mono ?_
  · rintro wq wr ⟨h1, h2, h3⟩ hlt' hb
    exact ⟨by rw [hb.cell (p := ⟨w1.heap.size, 0, none⟩) hlt']; exact h1, by rw [hb.cell (p := ⟨w1.heap.size, 3, none⟩) hlt']; exact h2, by rw [hb.cell (p := ⟨w1.heap.size, 4, none⟩) hlt']; exact h3⟩
  · rintro wq ⟨h1, h2, h3⟩
    refine (looks_nil w1.heap.size wq h2 h3).mono ?_
    rintro e w' ⟨rfl, hww⟩
    subst w'
    exact ⟨rfl, ⟨h1, h2, h3⟩, Below.refl _ _⟩
  · rintro i wq hi ⟨h1, h2, h3⟩ hb hlt' hk
    have hk1 : OK i = 1 := by have h : 1 = OK i := by simpa [amTo] using hk
                              exact h.symm
    rw [hk1]
    refine (step_match w1.heap.size wo b off m wc A Bi Dr Dn Al po n c pb poff V L R _ _ _ _ _ wq hm (HW.out.below hb) h1 hlt' (HA.out i hi).1 (HA.out i hi).2).mono ?_
    rintro e w' ⟨rfl, hb'⟩
    exact ⟨rfl, ⟨by rw [hb'.cell (p := ⟨w1.heap.size, 0, none⟩) hlt']; exact h1, by rw [hb'.cell (p := ⟨w1.heap.size, 3, none⟩) hlt']; exact h2, by rw [hb'.cell (p := ⟨w1.heap.size, 4, none⟩) hlt']; exact h3⟩, hb'.mono hb.size⟩
  · rintro e w2 ⟨rfl, hb2⟩
    have hfin : Hid (Below w.heap.size w w2) := HAL.out.trans (hb2.mono HAL.out.size)
    clear hb2
    go_wp2_with fail
    go_ret
    exact ⟨rfl, hfin.out⟩
end Go.Proofs.YtaebngpoagjafaaGreat
namespace Go.Proofs.YtaebngpoagjafaaGreat
open Go.ChangeShapes Go.WideShapes Go.ChangeAt Go.RowKit

theorem own : ownKnob Tryz.prog.godebug = none := by kernel_rfl
theorem laidOut : laidOutB Tryz.prog = true := by kernel_rfl
theorem cellsPlace : Tryz.prog.cellsOf 101 = 3 := by kernel_rfl
theorem cellsPrefix : Tryz.prog.cellsOf 99 = 2 := by kernel_rfl
theorem cellsInt : Tryz.prog.cellsOf 3 = 1 := by kernel_rfl
theorem cellsString : Tryz.prog.cellsOf 9 = 1 := by kernel_rfl
theorem cellsWorld : Tryz.prog.cellsOf 30 = 6 := by kernel_rfl
theorem cellsOp : Tryz.prog.cellsOf 66 = 6 := by kernel_rfl
theorem cellsInts : Tryz.prog.cellsOf 25 = 1 := by kernel_rfl
theorem cellsIntss : Tryz.prog.cellsOf 27 = 1 := by kernel_rfl
theorem cellsPlaces : Tryz.prog.cellsOf 28 = 1 := by kernel_rfl
theorem bytesPlace : Tryz.prog.bytesOf 101 = 24 := by kernel_rfl
theorem bytesWorld : Tryz.prog.bytesOf 30 = 96 := by kernel_rfl
theorem bytesOp : Tryz.prog.bytesOf 66 = 56 := by kernel_rfl

theorem lt_of_cell' {w : World} {a : Addr} {v : Value} (h : w.cell? a = some v) : a.block < w.heap.size := by
  by_cases hb : a.block < w.heap.size
  · exact hb
  · have : w.heap[a.block]? = none := by simp; omega
    simp [World.cell?, this] at h

theorem weightsAll_mem {H : Type} {P : Program} {e : TypeId} {l : List (DataW H)} {d : DataW H} (hd : d ∈ l) {n : Nat} (hn : n ∈ d.weights P e) : n ∈ DataW.weightsAll P e l := by
  induction l with
  | nil => cases hd
  | cons x r ih =>
    simp only [DataW.weightsAll, List.mem_append]
    rcases List.mem_cons.1 hd with rfl | h
    · exact .inl hn
    · exact .inr (ih h)

section
variable {H : Type} {enc : TypeId × Value → H} {w : World} {base : Nat} {spare : Nat → Bool} {held : Bool}

set_option maxRecDepth 100000 in
/-- The three cells of a place. -/
theorem open_place {n : Nat} {cs : List Value} {x : DataW H × List MemPlace} (h : DataW.trod enc Tryz.prog w base spare held n 101 cs = some x) :
    ∃ a b c : Int, cs = [.int .i64 a, .int .i64 b, .int .i64 c] := by
  obtain ⟨y0, y1, m, _, hlen, h0, h1⟩ := trod_struct2 Tryz.underlying101 h
  rw [cellsPlace] at hlen
  match cs, hlen with
  | [c0, c1, c2], _ =>
    obtain ⟨z0, z1, m', _, _, g0, g1⟩ := trod_struct2 Tryz.underlying99 h0
    obtain ⟨a, ea, _, _⟩ := DataW.trod_int Tryz.underlying3 g0
    obtain ⟨b, eb, _, _⟩ := DataW.trod_int Tryz.underlying3 g1
    obtain ⟨c, ec, _, _⟩ := DataW.trod_int Tryz.underlying3 h1
    simp [cellsInt, cellsPrefix] at ea eb ec
    exact ⟨a, b, c, by rw [ea, eb, ec]⟩

/-- A list of places. -/
theorem open_places {fuel : Nat} {cs : List Value} {x : DataW H × List MemPlace} (h : DataW.trod enc Tryz.prog w base spare held fuel 28 cs = some x) :
    ∃ po len cap b off V L R, cs = [.slice po len cap] ∧ PT w po b off len cap V L R ∧ (x.1 = .nil ∧ len = 0 ∨ ∃ el sp, x.1 = .slice el sp ∧ el.length = len) := by
  rcases Deep.open_slice Tryz.underlying28 h with ⟨hcs, hx⟩ | ⟨a, l, c, m, n, D, Pl, hcs, hb, hl, hm, hmm, hx, hel⟩
  · exact ⟨none, 0, 0, 0, 0, fun _ => 0, fun _ => 0, fun _ => 0, hcs, .inl ⟨rfl, rfl, rfl⟩, .inl ⟨by rw [hx], rfl⟩⟩
  · have hlm : l ≤ m := by rw [hmm]; split <;> omega
    rw [cellsPlace] at hel
    obtain ⟨F, hF⟩ := Deep.choose_lt (α := Int × Int × Int) (n := l) (p := fun i y => ∀ j, j < 3 → w.cell? ((a.add (i * 3)).add j) = some (.int .i64 (if j = 0 then y.1 else if j = 1 then y.2.1 else y.2.2))) (fun i hi => by
      obtain ⟨cs', h1, h2⟩ := hel i (by omega)
      obtain ⟨x, y, z, rfl⟩ := open_place h2
      obtain ⟨_, _, hc⟩ := World.cells?_some h1
      refine ⟨(x, y, z), fun j hj => ?_⟩
      rw [hc j hj]
      match j, hj with
      | 0, _ => rfl
      | 1, _ => rfl
      | 2, _ => rfl)
    obtain ⟨b, off, spot⟩ := a
    refine ⟨some ⟨b, off, spot⟩, l, c, b, off, fun i => (F i).1, fun i => (F i).2.1, fun i => (F i).2.2, hcs, .inr ⟨_, rfl, ?_⟩, .inr ⟨_, _, by rw [hx], by simp⟩⟩
    by_cases hl0 : l = 0
    · subst hl0
      exact ⟨fun h => by omega, fun h => by omega, fun i hi => by omega, fun i hi => by omega, fun i hi => by omega⟩
    · have hc0 := hF 0 (by omega) 0 (by omega)
      have hspot : spot = none := by simpa [Addr.add] using World.cell?_spot hc0
      subst hspot
      have hlt : b < w.heap.size := by
        have := hc0
        simp [Addr.add] at this
        exact lt_of_cell' this
      refine ⟨fun _ => rfl, fun _ => hlt, fun i hi => ?_, fun i hi => ?_, fun i hi => ?_⟩
      · have := hF i hi 0 (by omega)
        rw [add_plain, add_plain] at this
        exact this
      · have := hF i hi 1 (by omega)
        rw [add_plain, add_plain] at this
        exact this
      · have := hF i hi 2 (by omega)
        rw [add_plain, add_plain] at this
        exact this

/-- A slice of whatever is one cell. -/
theorem open_cell {fuel : Nat} {t e : TypeId} {cs : List Value} {x : DataW H × List MemPlace} (ht : Tryz.prog.underlying t = some (.slice e)) (h : DataW.trod enc Tryz.prog w base spare held fuel t cs = some x) : ∃ v, cs = [v] := by
  rcases Deep.open_slice ht h with ⟨hcs, _⟩ | ⟨a, l, c, _, _, _, _, hcs, _⟩
  · exact ⟨_, hcs⟩
  · exact ⟨_, hcs⟩

set_option maxRecDepth 100000 in
/-- The six cells of a world. -/
theorem open_world {n : Nat} {cs : List Value} {x : DataW H × List MemPlace} (h : DataW.trod enc Tryz.prog w base spare held n 30 cs = some x) :
    ∃ (a bi dr : Int) (dn al : Value) (po : Option Addr) (len cap b off : Nat) (V L R : Nat → Int), cs = [.int .i64 a, .int .i64 bi, .int .i64 dr, dn, al, .slice po len cap] ∧ PT w po b off len cap V L R ∧
      ((∀ k ∈ x.1.weights Tryz.prog 30, k ≤ reachBytes) → len * 24 ≤ 140737488351232) := by
  obtain ⟨xs, m, _, rfl, hlen, hxs, hf⟩ := DataW.trod_struct Tryz.underlying30 h
  rw [cellsWorld] at hlen
  match cs, hlen, xs, hxs with
  | [c0, c1, c2, c3, c4, c5], _, [x0, x1, x2, x3, x4, x5], _ =>
    have f0 := hf 0 _ rfl
    have f1 := hf 1 _ rfl
    have f2 := hf 2 _ rfl
    have f3 := hf 3 _ rfl
    have f4 := hf 4 _ rfl
    have f5 := hf 5 _ rfl
    obtain ⟨a, ea, _, _⟩ := DataW.trod_int Tryz.underlying3 f0
    obtain ⟨bi, eb, _, _⟩ := DataW.trod_int Tryz.underlying3 f1
    obtain ⟨dr, ec, _, _⟩ := DataW.trod_int Tryz.underlying3 f2
    obtain ⟨po, len, cap, b, off, V, L, R, e5, hpt, hd⟩ := open_places f5
    simp [cellsInt, cellsPlaces] at ea eb ec e5
    refine ⟨a, bi, dr, c3, c4, po, len, cap, b, off, V, L, R, by rw [ea, eb, ec, e5], hpt, fun hw => ?_⟩
    rcases hd with ⟨_, rfl⟩ | ⟨el, sp, he, hl⟩
    · omega
    · have hmem : (el.length + sp.length) * 24 ∈ (DataW.agg [x0.1, x1.1, x2.1, x3.1, x4.1, x5.1] : DataW H).weights Tryz.prog 30 := by
        simp only [DataW.weights, Tryz.underlying30, DataW.weightsEach, List.map_cons, List.map_nil, he, Tryz.underlying28, bytesPlace, List.mem_append, List.mem_cons]
        simp
      have := hw _ hmem
      simp only [reachBytes] at this
      omega

set_option maxRecDepth 100000 in
/-- The six cells of a step. -/
theorem open_op {n : Nat} {cs : List Value} {x : DataW H × List MemPlace} (h : DataW.trod enc Tryz.prog w base spare held n 66 cs = some x) :
    ∃ (k a b c d : Int) (s : ByteArray), cs = [.int .i64 k, .int .i64 a, .int .i64 b, .int .i64 c, .int .i64 d, .string s] ∧ (Lit.int .i64 a).wf = true ∧ (Lit.int .i64 b).wf = true ∧ (Lit.int .i64 c).wf = true ∧ (Lit.int .i64 d).wf = true ∧ s.size ≤ maxLen := by
  obtain ⟨xs, m, _, rfl, hlen, hxs, hf⟩ := DataW.trod_struct Tryz.underlying66 h
  rw [cellsOp] at hlen
  match cs, hlen, xs, hxs with
  | [c0, c1, c2, c3, c4, c5], _, [x0, x1, x2, x3, x4, x5], _ =>
    have f0 := hf 0 _ rfl
    have f1 := hf 1 _ rfl
    have f2 := hf 2 _ rfl
    have f3 := hf 3 _ rfl
    have f4 := hf 4 _ rfl
    have f5 := hf 5 _ rfl
    obtain ⟨k, e0, _, _⟩ := DataW.trod_int Tryz.underlying3 f0
    obtain ⟨a, e1, _, w1⟩ := DataW.trod_int Tryz.underlying3 f1
    obtain ⟨b, e2, _, w2⟩ := DataW.trod_int Tryz.underlying3 f2
    obtain ⟨c, e3, _, w3⟩ := DataW.trod_int Tryz.underlying3 f3
    obtain ⟨d, e4, _, w4⟩ := DataW.trod_int Tryz.underlying3 f4
    obtain ⟨s, e5, _, hs⟩ := DataW.trod_string Tryz.underlying9 f5
    simp [cellsInt, cellsString] at e0 e1 e2 e3 e4 e5
    exact ⟨k, a, b, c, d, s, by rw [e0, e1, e2, e3, e4, e5], w1, w2, w3, w4, hs⟩
end
end Go.Proofs.YtaebngpoagjafaaGreat
namespace Go.Proofs.YtaebngpoagjafaaGreat
open Go.ChangeShapes Go.WideShapes Go.ChangeAt Go.RowKit

section
variable {H : Type} {enc : TypeId × Value → H} {w : World} {base : Nat} {spare : Nat → Bool} {held : Bool}

/-- A list of worlds that came in. -/
theorem open_worlds {fuel : Nat} {wo : Option Addr} {m cap : Nat} {d : DataW H} {p : List MemPlace} (h : DataW.trod enc Tryz.prog w base spare held fuel 22 [.slice wo m cap] = some (d, p))
    (hz : ∀ k ∈ d.weights Tryz.prog 22, k ≤ reachBytes) :
    m * 96 ≤ 140737488351232 ∧ ∃ b off A Bi Dr Dn Al po n c pb poff V L R, WS w wo b off m A Bi Dr Dn Al po n c pb poff V L R := by
  rcases Deep.open_slice Tryz.underlying22 h with ⟨hcs, hx⟩ | ⟨a, l, c, q, n, D, Pl, hcs, hb, hl, hm, hmm, hx, hel⟩
  · simp at hcs
    obtain ⟨rfl, rfl, rfl⟩ := hcs
    refine ⟨by omega, 0, 0, fun _ => 0, fun _ => 0, fun _ => 0, fun _ => .int .i64 0, fun _ => .int .i64 0, fun _ => none, fun _ => 0, fun _ => 0, fun _ => 0, fun _ => 0, fun _ _ => 0, fun _ _ => 0, fun _ _ => 0, ?_⟩
    exact ⟨fun h => by omega, fun h => by omega, fun i hi => by omega, fun i hi => by omega, fun i hi => by omega, fun i hi => by omega, fun i hi => by omega, fun i hi => by omega, fun i hi => by omega, fun i hi => by omega⟩
  · simp at hcs hx
    obtain ⟨rfl, rfl, rfl⟩ := hcs
    obtain ⟨rfl, _⟩ := hx
    have hlm : m ≤ q := by rw [hmm]; split <;> omega
    rw [cellsWorld] at hel
    have hwd : ∀ k, k ∈ (m + (q - m)) * 96 :: (DataW.weightsAll Tryz.prog 30 ((List.range m).map D) ++ DataW.weightsAll Tryz.prog 30 ((List.range (q - m)).map fun j => D (m + j))) → k ≤ reachBytes := by
      intro k hk
      refine hz k ?_
      simp only [DataW.weights, Tryz.underlying22, bytesWorld, List.length_map, List.length_range]
      exact hk
    refine ⟨by have := hwd _ (List.mem_cons_self ..); simp only [reachBytes] at this; omega, ?_⟩
    obtain ⟨F, hF⟩ := Deep.choose_lt (α := (Int × Int × Int) × (Value × Value) × (Option Addr × Nat × Nat) × (Nat × Nat) × ((Nat → Int) × (Nat → Int) × (Nat → Int))) (n := m)
      (p := fun i y => (∀ j, j < 6 → w.cell? ((a.add (i * 6)).add j) = [Value.int .i64 y.1.1, .int .i64 y.1.2.1, .int .i64 y.1.2.2, y.2.1.1, y.2.1.2, .slice y.2.2.1.1 y.2.2.1.2.1 y.2.2.1.2.2][j]?) ∧
        PT w y.2.2.1.1 y.2.2.2.1.1 y.2.2.2.1.2 y.2.2.1.2.1 y.2.2.1.2.2 y.2.2.2.2.1 y.2.2.2.2.2.1 y.2.2.2.2.2.2 ∧ y.2.2.1.2.1 * 24 ≤ 140737488351232) (fun i hi => by
      obtain ⟨cs', h1, h2⟩ := hel i (by omega)
      obtain ⟨ia, ib, ic, dn, al, po, len, cp, pb, poff, V, L, R, rfl, hpt, hsz⟩ := open_world h2
      obtain ⟨_, _, hc⟩ := World.cells?_some h1
      refine ⟨((ia, ib, ic), (dn, al), (po, len, cp), (pb, poff), (V, L, R)), hc, hpt, hsz fun k hk => hwd k ?_⟩
      refine List.mem_cons_of_mem _ (List.mem_append_left _ (weightsAll_mem (d := D i) ?_ hk))
      exact List.mem_map.2 ⟨i, List.mem_range.2 hi, rfl⟩)
    obtain ⟨b, off, spot⟩ := a
    refine ⟨b, off, fun i => (F i).1.1, fun i => (F i).1.2.1, fun i => (F i).1.2.2, fun i => (F i).2.1.1, fun i => (F i).2.1.2, fun i => (F i).2.2.1.1, fun i => (F i).2.2.1.2.1, fun i => (F i).2.2.1.2.2,
      fun i => (F i).2.2.2.1.1, fun i => (F i).2.2.2.1.2, fun i => (F i).2.2.2.2.1, fun i => (F i).2.2.2.2.2.1, fun i => (F i).2.2.2.2.2.2, ?_⟩
    by_cases hl0 : m = 0
    · subst hl0
      exact ⟨fun h => by omega, fun h => by omega, fun i hi => by omega, fun i hi => by omega, fun i hi => by omega, fun i hi => by omega, fun i hi => by omega, fun i hi => by omega, fun i hi => by omega, fun i hi => by omega⟩
    · have hc0 := (hF 0 (by omega)).1 0 (by omega)
      have hspot : spot = none := by simpa [Addr.add] using World.cell?_spot hc0
      subst hspot
      have hlt : b < w.heap.size := by
        have := hc0
        simp [Addr.add] at this
        exact lt_of_cell' this
      have hcell : ∀ i, i < m → ∀ j, j < 6 → w.cell? ⟨b, off + i * 6 + j, none⟩ = [Value.int .i64 (F i).1.1, .int .i64 (F i).1.2.1, .int .i64 (F i).1.2.2, (F i).2.1.1, (F i).2.1.2, .slice (F i).2.2.1.1 (F i).2.2.1.2.1 (F i).2.2.1.2.2][j]? := fun i hi j hj => by
        have := (hF i hi).1 j hj
        rw [add_plain, add_plain] at this
        exact this
      exact ⟨fun _ => rfl, fun _ => hlt, fun i hi => hcell i hi 0 (by omega), fun i hi => hcell i hi 1 (by omega), fun i hi => hcell i hi 2 (by omega), fun i hi => hcell i hi 3 (by omega), fun i hi => hcell i hi 4 (by omega), fun i hi => hcell i hi 5 (by omega),
        fun i hi => (hF i hi).2.1, fun i hi => (hF i hi).2.2⟩

/-- A list of steps that came in. -/
theorem open_ops {fuel : Nat} {so : Option Addr} {m cap : Nat} {d : DataW H} {p : List MemPlace} (h : DataW.trod enc Tryz.prog w base spare held fuel 23 [.slice so m cap] = some (d, p))
    (hz : ∀ k ∈ d.weights Tryz.prog 23, k ≤ reachBytes) :
    m * 56 ≤ 140737488351232 ∧ ∃ b off K A B C D S, OS w so b off m K A B C D S ∧ ∀ i, i < m → (-9223372036854775808 ≤ A i ∧ A i ≤ 9223372036854775807) ∧ (-9223372036854775808 ≤ B i ∧ B i ≤ 9223372036854775807) ∧ (-9223372036854775808 ≤ C i ∧ C i ≤ 9223372036854775807) ∧ (-9223372036854775808 ≤ D i ∧ D i ≤ 9223372036854775807) ∧ (S i).size ≤ maxLen := by
  rcases Deep.open_slice Tryz.underlying23 h with ⟨hcs, hx⟩ | ⟨a, l, c, q, n, D, Pl, hcs, hb, hl, hm, hmm, hx, hel⟩
  · simp at hcs
    obtain ⟨rfl, rfl, rfl⟩ := hcs
    refine ⟨by omega, 0, 0, fun _ => 0, fun _ => 0, fun _ => 0, fun _ => 0, fun _ => 0, fun _ => ByteArray.empty, ?_, fun i hi => by omega⟩
    exact ⟨fun h => by omega, fun h => by omega, fun i hi => by omega, fun i hi => by omega, fun i hi => by omega, fun i hi => by omega, fun i hi => by omega, fun i hi => by omega⟩
  · simp at hcs hx
    obtain ⟨rfl, rfl, rfl⟩ := hcs
    obtain ⟨rfl, _⟩ := hx
    have hlm : m ≤ q := by rw [hmm]; split <;> omega
    rw [cellsOp] at hel
    have hwd : (m + (q - m)) * 56 ≤ reachBytes := by
      refine hz _ ?_
      simp only [DataW.weights, Tryz.underlying23, bytesOp, List.length_map, List.length_range]
      exact List.mem_cons_self ..
    refine ⟨by simp only [reachBytes] at hwd; omega, ?_⟩
    obtain ⟨F, hF⟩ := Deep.choose_lt (α := (Int × Int × Int × Int × Int) × ByteArray) (n := m)
      (p := fun i y => (∀ j, j < 6 → w.cell? ((a.add (i * 6)).add j) = [Value.int .i64 y.1.1, .int .i64 y.1.2.1, .int .i64 y.1.2.2.1, .int .i64 y.1.2.2.2.1, .int .i64 y.1.2.2.2.2, .string y.2][j]?) ∧
        ((-9223372036854775808 ≤ y.1.2.1 ∧ y.1.2.1 ≤ 9223372036854775807) ∧ (-9223372036854775808 ≤ y.1.2.2.1 ∧ y.1.2.2.1 ≤ 9223372036854775807) ∧ (-9223372036854775808 ≤ y.1.2.2.2.1 ∧ y.1.2.2.2.1 ≤ 9223372036854775807) ∧ (-9223372036854775808 ≤ y.1.2.2.2.2 ∧ y.1.2.2.2.2 ≤ 9223372036854775807) ∧ y.2.size ≤ maxLen)) (fun i hi => by
      obtain ⟨cs', h1, h2⟩ := hel i (by omega)
      obtain ⟨k, ia, ib, ic, id, s, rfl, w1, w2, w3, w4, hs⟩ := open_op h2
      obtain ⟨_, _, hc⟩ := World.cells?_some h1
      exact ⟨((k, ia, ib, ic, id), s), hc, bounds_i64 w1, bounds_i64 w2, bounds_i64 w3, bounds_i64 w4, hs⟩)
    obtain ⟨b, off, spot⟩ := a
    refine ⟨b, off, fun i => (F i).1.1, fun i => (F i).1.2.1, fun i => (F i).1.2.2.1, fun i => (F i).1.2.2.2.1, fun i => (F i).1.2.2.2.2, fun i => (F i).2, ?_, fun i hi => (hF i hi).2⟩
    by_cases hl0 : m = 0
    · subst hl0
      exact ⟨fun h => by omega, fun h => by omega, fun i hi => by omega, fun i hi => by omega, fun i hi => by omega, fun i hi => by omega, fun i hi => by omega, fun i hi => by omega⟩
    · have hc0 := (hF 0 (by omega)).1 0 (by omega)
      have hspot : spot = none := by simpa [Addr.add] using World.cell?_spot hc0
      subst hspot
      have hlt : b < w.heap.size := by
        have := hc0
        simp [Addr.add] at this
        exact lt_of_cell' this
      have hcell : ∀ i, i < m → ∀ j, j < 6 → w.cell? ⟨b, off + i * 6 + j, none⟩ = [Value.int .i64 (F i).1.1, .int .i64 (F i).1.2.1, .int .i64 (F i).1.2.2.1, .int .i64 (F i).1.2.2.2.1, .int .i64 (F i).1.2.2.2.2, .string (F i).2][j]? := fun i hi j hj => by
        have := (hF i hi).1 j hj
        rw [add_plain, add_plain] at this
        exact this
      exact ⟨fun _ => rfl, fun _ => hlt, fun i hi => hcell i hi 0 (by omega), fun i hi => hcell i hi 1 (by omega), fun i hi => hcell i hi 2 (by omega), fun i hi => hcell i hi 3 (by omega), fun i hi => hcell i hi 4 (by omega), fun i hi => hcell i hi 5 (by omega)⟩
end
end Go.Proofs.YtaebngpoagjafaaGreat
