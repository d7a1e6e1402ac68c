/-
  OUR OWN: what comes in, opened: places, worlds, steps.
-/
import Derived.Test.YtgbdmnjipdgmoaaGreatGq
import Derived.ProofKit
import Derived.OpenShut
import Derived.ChangeOld
import Derived.Below
import Derived.SizedLaws
import Derived.Deep.Slices
namespace Go.Proofs.YtgbdmnjipdgmoaaGreat
open Go.ChangeShapes Go.WideShapes Go.ChangeAt Go.RowKit

theorem own : ownKnob Tryz.prog.godebug = none := by kernel_rfl
theorem laidOut : laidOutB Tryz.prog = true := by kernel_rfl
theorem cellsPlace : Tryz.prog.cellsOf 65 = 3 := by kernel_rfl
theorem cellsPrefix : Tryz.prog.cellsOf 63 = 2 := by kernel_rfl
theorem cellsInt : Tryz.prog.cellsOf 3 = 1 := by kernel_rfl
theorem cellsString : Tryz.prog.cellsOf 9 = 1 := by kernel_rfl
theorem cellsWorld : Tryz.prog.cellsOf 42 = 6 := by kernel_rfl
theorem cellsOp : Tryz.prog.cellsOf 35 = 6 := by kernel_rfl
theorem cellsInts : Tryz.prog.cellsOf 25 = 1 := by kernel_rfl
theorem cellsIntss : Tryz.prog.cellsOf 30 = 1 := by kernel_rfl
theorem cellsPlaces : Tryz.prog.cellsOf 40 = 1 := by kernel_rfl
theorem bytesPlace : Tryz.prog.bytesOf 65 = 24 := by kernel_rfl
theorem bytesWorld : Tryz.prog.bytesOf 42 = 96 := by kernel_rfl
theorem bytesOp : Tryz.prog.bytesOf 35 = 56 := by kernel_rfl

theorem lt_of_cell' {w : World} {a : Addr} {v : Value} (h : w.cell? a = some v) : a.block < w.heap.size := by
  by_cases hb : a.block < w.heap.size
  · exact hb
  · have : w.heap[a.block]? = none := by simp; omega
    simp [World.cell?, this] at h

theorem weightsAll_mem {H : Type} {P : Program} {e : TypeId} {l : List (DataW H)} {d : DataW H} (hd : d ∈ l) {n : Nat} (hn : n ∈ d.weights P e) : n ∈ DataW.weightsAll P e l := by
  induction l with
  | nil => cases hd
  | cons x r ih =>
    simp only [DataW.weightsAll, List.mem_append]
    rcases List.mem_cons.1 hd with rfl | h
    · exact .inl hn
    · exact .inr (ih h)

section
variable {H : Type} {enc : TypeId × Value → H} {w : World} {base : Nat} {spare : Nat → Bool} {held : Bool}

set_option maxRecDepth 100000 in
/-- The three cells of a place. -/
theorem open_place {n : Nat} {cs : List Value} {x : DataW H × List MemPlace} (h : DataW.trod enc Tryz.prog w base spare held n 65 cs = some x) :
    ∃ a b c : Int, cs = [.int .i64 a, .int .i64 b, .int .i64 c] := by
  obtain ⟨y0, y1, m, _, hlen, h0, h1⟩ := trod_struct2 Tryz.underlying65 h
  rw [cellsPlace] at hlen
  match cs, hlen with
  | [c0, c1, c2], _ =>
    obtain ⟨z0, z1, m', _, _, g0, g1⟩ := trod_struct2 Tryz.underlying63 h0
    obtain ⟨a, ea, _, _⟩ := DataW.trod_int Tryz.underlying3 g0
    obtain ⟨b, eb, _, _⟩ := DataW.trod_int Tryz.underlying3 g1
    obtain ⟨c, ec, _, _⟩ := DataW.trod_int Tryz.underlying3 h1
    simp [cellsInt, cellsPrefix] at ea eb ec
    exact ⟨a, b, c, by rw [ea, eb, ec]⟩

/-- A list of places. -/
theorem open_places {fuel : Nat} {cs : List Value} {x : DataW H × List MemPlace} (h : DataW.trod enc Tryz.prog w base spare held fuel 40 cs = some x) :
    ∃ po len cap b off V L R, cs = [.slice po len cap] ∧ PT w po b off len cap V L R ∧ (x.1 = .nil ∧ len = 0 ∨ ∃ el sp, x.1 = .slice el sp ∧ el.length = len) := by
  rcases Deep.open_slice Tryz.underlying40 h with ⟨hcs, hx⟩ | ⟨a, l, c, m, n, D, Pl, hcs, hb, hl, hm, hmm, hx, hel⟩
  · exact ⟨none, 0, 0, 0, 0, fun _ => 0, fun _ => 0, fun _ => 0, hcs, .inl ⟨rfl, rfl, rfl⟩, .inl ⟨by rw [hx], rfl⟩⟩
  · have hlm : l ≤ m := by rw [hmm]; split <;> omega
    rw [cellsPlace] at hel
    obtain ⟨F, hF⟩ := Deep.choose_lt (α := Int × Int × Int) (n := l) (p := fun i y => ∀ j, j < 3 → w.cell? ((a.add (i * 3)).add j) = some (.int .i64 (if j = 0 then y.1 else if j = 1 then y.2.1 else y.2.2))) (fun i hi => by
      obtain ⟨cs', h1, h2⟩ := hel i (by omega)
      obtain ⟨x, y, z, rfl⟩ := open_place h2
      obtain ⟨_, _, hc⟩ := World.cells?_some h1
      refine ⟨(x, y, z), fun j hj => ?_⟩
      rw [hc j hj]
      match j, hj with
      | 0, _ => rfl
      | 1, _ => rfl
      | 2, _ => rfl)
    obtain ⟨b, off, spot⟩ := a
    refine ⟨some ⟨b, off, spot⟩, l, c, b, off, fun i => (F i).1, fun i => (F i).2.1, fun i => (F i).2.2, hcs, .inr ⟨_, rfl, ?_⟩, .inr ⟨_, _, by rw [hx], by simp⟩⟩
    by_cases hl0 : l = 0
    · subst hl0
      exact ⟨fun h => by omega, fun h => by omega, fun i hi => by omega, fun i hi => by omega, fun i hi => by omega⟩
    · have hc0 := hF 0 (by omega) 0 (by omega)
      have hspot : spot = none := by simpa [Addr.add] using World.cell?_spot hc0
      subst hspot
      have hlt : b < w.heap.size := by
        have := hc0
        simp [Addr.add] at this
        exact lt_of_cell' this
      refine ⟨fun _ => rfl, fun _ => hlt, fun i hi => ?_, fun i hi => ?_, fun i hi => ?_⟩
      · have := hF i hi 0 (by omega)
        rw [add_plain, add_plain] at this
        exact this
      · have := hF i hi 1 (by omega)
        rw [add_plain, add_plain] at this
        exact this
      · have := hF i hi 2 (by omega)
        rw [add_plain, add_plain] at this
        exact this

/-- A slice of whatever is one cell. -/
theorem open_cell {fuel : Nat} {t e : TypeId} {cs : List Value} {x : DataW H × List MemPlace} (ht : Tryz.prog.underlying t = some (.slice e)) (h : DataW.trod enc Tryz.prog w base spare held fuel t cs = some x) : ∃ v, cs = [v] := by
  rcases Deep.open_slice ht h with ⟨hcs, _⟩ | ⟨a, l, c, _, _, _, _, hcs, _⟩
  · exact ⟨_, hcs⟩
  · exact ⟨_, hcs⟩

set_option maxRecDepth 100000 in
/-- The six cells of a world. -/
theorem open_world {n : Nat} {cs : List Value} {x : DataW H × List MemPlace} (h : DataW.trod enc Tryz.prog w base spare held n 42 cs = some x) :
    ∃ (a bi dr : Int) (dn al : Value) (po : Option Addr) (len cap b off : Nat) (V L R : Nat → Int), cs = [.int .i64 a, .int .i64 bi, .int .i64 dr, dn, al, .slice po len cap] ∧ PT w po b off len cap V L R ∧
      ((∀ k ∈ x.1.weights Tryz.prog 42, k ≤ reachBytes) → len * 24 ≤ 140737488351232) := by
  obtain ⟨xs, m, _, rfl, hlen, hxs, hf⟩ := DataW.trod_struct Tryz.underlying42 h
  rw [cellsWorld] at hlen
  match cs, hlen, xs, hxs with
  | [c0, c1, c2, c3, c4, c5], _, [x0, x1, x2, x3, x4, x5], _ =>
    have f0 := hf 0 _ rfl
    have f1 := hf 1 _ rfl
    have f2 := hf 2 _ rfl
    have f3 := hf 3 _ rfl
    have f4 := hf 4 _ rfl
    have f5 := hf 5 _ rfl
    obtain ⟨a, ea, _, _⟩ := DataW.trod_int Tryz.underlying3 f0
    obtain ⟨bi, eb, _, _⟩ := DataW.trod_int Tryz.underlying3 f1
    obtain ⟨dr, ec, _, _⟩ := DataW.trod_int Tryz.underlying3 f2
    obtain ⟨po, len, cap, b, off, V, L, R, e5, hpt, hd⟩ := open_places f5
    simp [cellsInt, cellsPlaces] at ea eb ec e5
    refine ⟨a, bi, dr, c3, c4, po, len, cap, b, off, V, L, R, by rw [ea, eb, ec, e5], hpt, fun hw => ?_⟩
    rcases hd with ⟨_, rfl⟩ | ⟨el, sp, he, hl⟩
    · omega
    · have hmem : (el.length + sp.length) * 24 ∈ (DataW.agg [x0.1, x1.1, x2.1, x3.1, x4.1, x5.1] : DataW H).weights Tryz.prog 42 := by
        simp only [DataW.weights, Tryz.underlying42, DataW.weightsEach, List.map_cons, List.map_nil, he, Tryz.underlying40, bytesPlace, List.mem_append, List.mem_cons]
        simp
      have := hw _ hmem
      simp only [reachBytes] at this
      omega

set_option maxRecDepth 100000 in
/-- The six cells of a step. -/
theorem open_op {n : Nat} {cs : List Value} {x : DataW H × List MemPlace} (h : DataW.trod enc Tryz.prog w base spare held n 35 cs = some x) :
    ∃ (k a b c d : Int) (s : ByteArray), cs = [.int .i64 k, .int .i64 a, .int .i64 b, .int .i64 c, .int .i64 d, .string s] ∧ (Lit.int .i64 a).wf = true ∧ (Lit.int .i64 b).wf = true ∧ (Lit.int .i64 c).wf = true ∧ (Lit.int .i64 d).wf = true ∧ s.size ≤ maxLen := by
  obtain ⟨xs, m, _, rfl, hlen, hxs, hf⟩ := DataW.trod_struct Tryz.underlying35 h
  rw [cellsOp] at hlen
  match cs, hlen, xs, hxs with
  | [c0, c1, c2, c3, c4, c5], _, [x0, x1, x2, x3, x4, x5], _ =>
    have f0 := hf 0 _ rfl
    have f1 := hf 1 _ rfl
    have f2 := hf 2 _ rfl
    have f3 := hf 3 _ rfl
    have f4 := hf 4 _ rfl
    have f5 := hf 5 _ rfl
    obtain ⟨k, e0, _, _⟩ := DataW.trod_int Tryz.underlying3 f0
    obtain ⟨a, e1, _, w1⟩ := DataW.trod_int Tryz.underlying3 f1
    obtain ⟨b, e2, _, w2⟩ := DataW.trod_int Tryz.underlying3 f2
    obtain ⟨c, e3, _, w3⟩ := DataW.trod_int Tryz.underlying3 f3
    obtain ⟨d, e4, _, w4⟩ := DataW.trod_int Tryz.underlying3 f4
    obtain ⟨s, e5, _, hs⟩ := DataW.trod_string Tryz.underlying9 f5
    simp [cellsInt, cellsString] at e0 e1 e2 e3 e4 e5
    exact ⟨k, a, b, c, d, s, by rw [e0, e1, e2, e3, e4, e5], w1, w2, w3, w4, hs⟩
end
end Go.Proofs.YtgbdmnjipdgmoaaGreat
