/-
  OUR OWN: lists of worlds and of steps, opened.
-/
import Derived.Test.YtgbdmnjipdgmoaaGreatGr
namespace Go.Proofs.YtgbdmnjipdgmoaaGreat
open Go.ChangeShapes Go.WideShapes Go.ChangeAt Go.RowKit

section
variable {H : Type} {enc : TypeId × Value → H} {w : World} {base : Nat} {spare : Nat → Bool} {held : Bool}

/-- A list of worlds that came in. -/
theorem open_worlds {fuel : Nat} {wo : Option Addr} {m cap : Nat} {d : DataW H} {p : List MemPlace} (h : DataW.trod enc Tryz.prog w base spare held fuel 22 [.slice wo m cap] = some (d, p))
    (hz : ∀ k ∈ d.weights Tryz.prog 22, k ≤ reachBytes) :
    m * 96 ≤ 140737488351232 ∧ ∃ b off A Bi Dr Dn Al po n c pb poff V L R, WS w wo b off m A Bi Dr Dn Al po n c pb poff V L R := by
  rcases Deep.open_slice Tryz.underlying22 h with ⟨hcs, hx⟩ | ⟨a, l, c, q, n, D, Pl, hcs, hb, hl, hm, hmm, hx, hel⟩
  · simp at hcs
    obtain ⟨rfl, rfl, rfl⟩ := hcs
    refine ⟨by omega, 0, 0, fun _ => 0, fun _ => 0, fun _ => 0, fun _ => .int .i64 0, fun _ => .int .i64 0, fun _ => none, fun _ => 0, fun _ => 0, fun _ => 0, fun _ => 0, fun _ _ => 0, fun _ _ => 0, fun _ _ => 0, ?_⟩
    exact ⟨fun h => by omega, fun h => by omega, fun i hi => by omega, fun i hi => by omega, fun i hi => by omega, fun i hi => by omega, fun i hi => by omega, fun i hi => by omega, fun i hi => by omega, fun i hi => by omega⟩
  · simp at hcs hx
    obtain ⟨rfl, rfl, rfl⟩ := hcs
    obtain ⟨rfl, _⟩ := hx
    have hlm : m ≤ q := by rw [hmm]; split <;> omega
    rw [cellsWorld] at hel
    have hwd : ∀ k, k ∈ (m + (q - m)) * 96 :: (DataW.weightsAll Tryz.prog 42 ((List.range m).map D) ++ DataW.weightsAll Tryz.prog 42 ((List.range (q - m)).map fun j => D (m + j))) → k ≤ reachBytes := by
      intro k hk
      refine hz k ?_
      simp only [DataW.weights, Tryz.underlying22, bytesWorld, List.length_map, List.length_range]
      exact hk
    refine ⟨by have := hwd _ (List.mem_cons_self ..); simp only [reachBytes] at this; omega, ?_⟩
    obtain ⟨F, hF⟩ := Deep.choose_lt (α := (Int × Int × Int) × (Value × Value) × (Option Addr × Nat × Nat) × (Nat × Nat) × ((Nat → Int) × (Nat → Int) × (Nat → Int))) (n := m)
      (p := fun i y => (∀ j, j < 6 → w.cell? ((a.add (i * 6)).add j) = [Value.int .i64 y.1.1, .int .i64 y.1.2.1, .int .i64 y.1.2.2, y.2.1.1, y.2.1.2, .slice y.2.2.1.1 y.2.2.1.2.1 y.2.2.1.2.2][j]?) ∧
        PT w y.2.2.1.1 y.2.2.2.1.1 y.2.2.2.1.2 y.2.2.1.2.1 y.2.2.1.2.2 y.2.2.2.2.1 y.2.2.2.2.2.1 y.2.2.2.2.2.2 ∧ y.2.2.1.2.1 * 24 ≤ 140737488351232) (fun i hi => by
      obtain ⟨cs', h1, h2⟩ := hel i (by omega)
      obtain ⟨ia, ib, ic, dn, al, po, len, cp, pb, poff, V, L, R, rfl, hpt, hsz⟩ := open_world h2
      obtain ⟨_, _, hc⟩ := World.cells?_some h1
      refine ⟨((ia, ib, ic), (dn, al), (po, len, cp), (pb, poff), (V, L, R)), hc, hpt, hsz fun k hk => hwd k ?_⟩
      refine List.mem_cons_of_mem _ (List.mem_append_left _ (weightsAll_mem (d := D i) ?_ hk))
      exact List.mem_map.2 ⟨i, List.mem_range.2 hi, rfl⟩)
    obtain ⟨b, off, spot⟩ := a
    refine ⟨b, off, fun i => (F i).1.1, fun i => (F i).1.2.1, fun i => (F i).1.2.2, fun i => (F i).2.1.1, fun i => (F i).2.1.2, fun i => (F i).2.2.1.1, fun i => (F i).2.2.1.2.1, fun i => (F i).2.2.1.2.2,
      fun i => (F i).2.2.2.1.1, fun i => (F i).2.2.2.1.2, fun i => (F i).2.2.2.2.1, fun i => (F i).2.2.2.2.2.1, fun i => (F i).2.2.2.2.2.2, ?_⟩
    by_cases hl0 : m = 0
    · subst hl0
      exact ⟨fun h => by omega, fun h => by omega, fun i hi => by omega, fun i hi => by omega, fun i hi => by omega, fun i hi => by omega, fun i hi => by omega, fun i hi => by omega, fun i hi => by omega, fun i hi => by omega⟩
    · have hc0 := (hF 0 (by omega)).1 0 (by omega)
      have hspot : spot = none := by simpa [Addr.add] using World.cell?_spot hc0
      subst hspot
      have hlt : b < w.heap.size := by
        have := hc0
        simp [Addr.add] at this
        exact lt_of_cell' this
      have hcell : ∀ i, i < m → ∀ j, j < 6 → w.cell? ⟨b, off + i * 6 + j, none⟩ = [Value.int .i64 (F i).1.1, .int .i64 (F i).1.2.1, .int .i64 (F i).1.2.2, (F i).2.1.1, (F i).2.1.2, .slice (F i).2.2.1.1 (F i).2.2.1.2.1 (F i).2.2.1.2.2][j]? := fun i hi j hj => by
        have := (hF i hi).1 j hj
        rw [add_plain, add_plain] at this
        exact this
      exact ⟨fun _ => rfl, fun _ => hlt, fun i hi => hcell i hi 0 (by omega), fun i hi => hcell i hi 1 (by omega), fun i hi => hcell i hi 2 (by omega), fun i hi => hcell i hi 3 (by omega), fun i hi => hcell i hi 4 (by omega), fun i hi => hcell i hi 5 (by omega),
        fun i hi => (hF i hi).2.1, fun i hi => (hF i hi).2.2⟩

/-- A list of steps that came in. -/
theorem open_ops {fuel : Nat} {so : Option Addr} {m cap : Nat} {d : DataW H} {p : List MemPlace} (h : DataW.trod enc Tryz.prog w base spare held fuel 23 [.slice so m cap] = some (d, p))
    (hz : ∀ k ∈ d.weights Tryz.prog 23, k ≤ reachBytes) :
    m * 56 ≤ 140737488351232 ∧ ∃ b off K A B C D S, OS w so b off m K A B C D S ∧ ∀ i, i < m → (-9223372036854775808 ≤ A i ∧ A i ≤ 9223372036854775807) ∧ (-9223372036854775808 ≤ B i ∧ B i ≤ 9223372036854775807) ∧ (-9223372036854775808 ≤ C i ∧ C i ≤ 9223372036854775807) ∧ (-9223372036854775808 ≤ D i ∧ D i ≤ 9223372036854775807) ∧ (S i).size ≤ maxLen := by
  rcases Deep.open_slice Tryz.underlying23 h with ⟨hcs, hx⟩ | ⟨a, l, c, q, n, D, Pl, hcs, hb, hl, hm, hmm, hx, hel⟩
  · simp at hcs
    obtain ⟨rfl, rfl, rfl⟩ := hcs
    refine ⟨by omega, 0, 0, fun _ => 0, fun _ => 0, fun _ => 0, fun _ => 0, fun _ => 0, fun _ => ByteArray.empty, ?_, fun i hi => by omega⟩
    exact ⟨fun h => by omega, fun h => by omega, fun i hi => by omega, fun i hi => by omega, fun i hi => by omega, fun i hi => by omega, fun i hi => by omega, fun i hi => by omega⟩
  · simp at hcs hx
    obtain ⟨rfl, rfl, rfl⟩ := hcs
    obtain ⟨rfl, _⟩ := hx
    have hlm : m ≤ q := by rw [hmm]; split <;> omega
    rw [cellsOp] at hel
    have hwd : (m + (q - m)) * 56 ≤ reachBytes := by
      refine hz _ ?_
      simp only [DataW.weights, Tryz.underlying23, bytesOp, List.length_map, List.length_range]
      exact List.mem_cons_self ..
    refine ⟨by simp only [reachBytes] at hwd; omega, ?_⟩
    obtain ⟨F, hF⟩ := Deep.choose_lt (α := (Int × Int × Int × Int × Int) × ByteArray) (n := m)
      (p := fun i y => (∀ j, j < 6 → w.cell? ((a.add (i * 6)).add j) = [Value.int .i64 y.1.1, .int .i64 y.1.2.1, .int .i64 y.1.2.2.1, .int .i64 y.1.2.2.2.1, .int .i64 y.1.2.2.2.2, .string y.2][j]?) ∧
        ((-9223372036854775808 ≤ y.1.2.1 ∧ y.1.2.1 ≤ 9223372036854775807) ∧ (-9223372036854775808 ≤ y.1.2.2.1 ∧ y.1.2.2.1 ≤ 9223372036854775807) ∧ (-9223372036854775808 ≤ y.1.2.2.2.1 ∧ y.1.2.2.2.1 ≤ 9223372036854775807) ∧ (-9223372036854775808 ≤ y.1.2.2.2.2 ∧ y.1.2.2.2.2 ≤ 9223372036854775807) ∧ y.2.size ≤ maxLen)) (fun i hi => by
      obtain ⟨cs', h1, h2⟩ := hel i (by omega)
      obtain ⟨k, ia, ib, ic, id, s, rfl, w1, w2, w3, w4, hs⟩ := open_op h2
      obtain ⟨_, _, hc⟩ := World.cells?_some h1
      exact ⟨((k, ia, ib, ic, id), s), hc, bounds_i64 w1, bounds_i64 w2, bounds_i64 w3, bounds_i64 w4, hs⟩)
    obtain ⟨b, off, spot⟩ := a
    refine ⟨b, off, fun i => (F i).1.1, fun i => (F i).1.2.1, fun i => (F i).1.2.2.1, fun i => (F i).1.2.2.2.1, fun i => (F i).1.2.2.2.2, fun i => (F i).2, ?_, fun i hi => (hF i hi).2⟩
    by_cases hl0 : m = 0
    · subst hl0
      exact ⟨fun h => by omega, fun h => by omega, fun i hi => by omega, fun i hi => by omega, fun i hi => by omega, fun i hi => by omega, fun i hi => by omega, fun i hi => by omega⟩
    · have hc0 := (hF 0 (by omega)).1 0 (by omega)
      have hspot : spot = none := by simpa [Addr.add] using World.cell?_spot hc0
      subst hspot
      have hlt : b < w.heap.size := by
        have := hc0
        simp [Addr.add] at this
        exact lt_of_cell' this
      have hcell : ∀ i, i < m → ∀ j, j < 6 → w.cell? ⟨b, off + i * 6 + j, none⟩ = [Value.int .i64 (F i).1.1, .int .i64 (F i).1.2.1, .int .i64 (F i).1.2.2.1, .int .i64 (F i).1.2.2.2.1, .int .i64 (F i).1.2.2.2.2, .string (F i).2][j]? := fun i hi j hj => by
        have := (hF i hi).1 j hj
        rw [add_plain, add_plain] at this
        exact this
      exact ⟨fun _ => rfl, fun _ => hlt, fun i hi => hcell i hi 0 (by omega), fun i hi => hcell i hi 1 (by omega), fun i hi => hcell i hi 2 (by omega), fun i hi => hcell i hi 3 (by omega), fun i hi => hcell i hi 4 (by omega), fun i hi => hcell i hi 5 (by omega)⟩
end
end Go.Proofs.YtgbdmnjipdgmoaaGreat
