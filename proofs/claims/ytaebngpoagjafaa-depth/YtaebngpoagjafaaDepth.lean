/-
  OUR OWN: 'Rows.DepthSaid', proved.
-/
import Derived.Test.YtaebngpoagjafaaWj
import Derived.ProofKit
import Derived.OpenShut
import Derived.ChangeOld
import Derived.Below
import Derived.SizedLaws
import Derived.Deep.Slices
namespace Go.Proofs.Ytaebngpoagjafaa
open Go.ChangeShapes Go.WideShapes Go.ChangeAt Go.RowKit

theorem own : ownKnob Try.prog.godebug = none := by kernel_rfl
theorem laidOut : laidOutB Try.prog = true := by kernel_rfl
theorem cellsPlace : Try.prog.cellsOf 27 = 3 := by kernel_rfl
theorem cellsPrefix : Try.prog.cellsOf 25 = 2 := by kernel_rfl
theorem cells3 : Try.prog.cellsOf 3 = 1 := by kernel_rfl
theorem bytesPlace : Try.prog.bytesOf 27 = 24 := by kernel_rfl

theorem lt_of_cell' {w : World} {a : Addr} {v : Value} (h : w.cell? a = some v) : a.block < w.heap.size := by
  by_cases hb : a.block < w.heap.size
  · exact hb
  · have : w.heap[a.block]? = none := by simp; omega
    simp [World.cell?, this] at h

section
variable {H : Type} {enc : TypeId × Value → H} {w : World} {base : Nat} {spare : Nat → Bool} {held : Bool}

set_option maxRecDepth 100000 in
/-- The three cells of a place. -/
theorem open_place {n : Nat} {cs : List Value} {x : DataW H × List MemPlace} (h : DataW.trod enc Try.prog w base spare held n 27 cs = some x) :
    ∃ a b c : Int, cs = [.int .i64 a, .int .i64 b, .int .i64 c] := by
  obtain ⟨y0, y1, m, _, hlen, h0, h1⟩ := trod_struct2 Try.underlying27 h
  rw [cellsPlace] at hlen
  match cs, hlen with
  | [c0, c1, c2], _ =>
    obtain ⟨z0, z1, m', _, _, g0, g1⟩ := trod_struct2 Try.underlying25 h0
    obtain ⟨a, ea, _, _⟩ := DataW.trod_int Try.underlying3 g0
    obtain ⟨b, eb, _, _⟩ := DataW.trod_int Try.underlying3 g1
    obtain ⟨c, ec, _, _⟩ := DataW.trod_int Try.underlying3 h1
    simp [cells3, cellsPrefix] at ea eb ec
    exact ⟨a, b, c, by rw [ea, eb, ec]⟩

/-- A list of places that came in. -/
theorem open_places {fuel : Nat} {ao : Option Addr} {len cap : Nat} {d : DataW H} {p : List MemPlace} (h : DataW.trod enc Try.prog w base spare held fuel 22 [.slice ao len cap] = some (d, p)) :
    (∃ b off V L R, TS w ao b off len V L R) ∧ (d = .nil ∧ len = 0 ∨ ∃ el sp, d = .slice el sp ∧ el.length = len) := by
  rcases Deep.open_slice Try.underlying22 h with ⟨hcs, hx⟩ | ⟨a, l, c, m, n, D, Pl, hcs, hb, hl, hm, hmm, hx, hel⟩
  · simp at hcs hx
    obtain ⟨rfl, rfl, rfl⟩ := hcs
    exact ⟨⟨0, 0, fun _ => 0, fun _ => 0, fun _ => 0, ⟨fun h => by omega, fun h => by omega, fun i hi => by omega, fun i hi => by omega, fun i hi => by omega⟩⟩, .inl ⟨hx.1, rfl⟩⟩
  · simp at hcs hx
    obtain ⟨rfl, rfl, rfl⟩ := hcs
    refine ⟨?_, .inr ⟨_, _, hx.1, by simp⟩⟩
    have hlm : len ≤ m := by rw [hmm]; split <;> omega
    rw [cellsPlace] at hel
    obtain ⟨F, hF⟩ := Deep.choose_lt (α := Int × Int × Int) (n := len) (p := fun i y => ∀ j, j < 3 → w.cell? ((a.add (i * 3)).add j) = some (.int .i64 (if j = 0 then y.1 else if j = 1 then y.2.1 else y.2.2))) (fun i hi => by
      obtain ⟨cs', h1, h2⟩ := hel i (by omega)
      obtain ⟨x, y, z, rfl⟩ := open_place h2
      obtain ⟨_, _, hc⟩ := World.cells?_some h1
      refine ⟨(x, y, z), fun j hj => ?_⟩
      rw [hc j hj]
      match j, hj with
      | 0, _ => rfl
      | 1, _ => rfl
      | 2, _ => rfl)
    by_cases hl0 : len = 0
    · subst hl0
      exact ⟨0, 0, fun _ => 0, fun _ => 0, fun _ => 0, ⟨fun h => by omega, fun h => by omega, fun i hi => by omega, fun i hi => by omega, fun i hi => by omega⟩⟩
    · obtain ⟨b, off, spot⟩ := a
      have hc0 := hF 0 (by omega) 0 (by omega)
      have hspot : spot = none := by simpa [Addr.add] using World.cell?_spot hc0
      subst hspot
      have hlt : b < w.heap.size := by
        have := hc0
        simp [Addr.add] at this
        exact lt_of_cell' this
      refine ⟨b, off, fun i => (F i).1, fun i => (F i).2.1, fun i => (F i).2.2, ⟨fun _ => rfl, fun _ => hlt, fun i hi => ?_, fun i hi => ?_, fun i hi => ?_⟩⟩
      · have := hF i hi 0 (by omega)
        rw [add_plain, add_plain] at this
        exact this
      · have := hF i hi 1 (by omega)
        rw [add_plain, add_plain] at this
        exact this
      · have := hF i hi 2 (by omega)
        rw [add_plain, add_plain] at this
        exact this
end

theorem wf_bounds {n : Int} (h : (Lit.int .i64 n).wf = true) : -9223372036854775808 ≤ n ∧ n ≤ 9223372036854775807 := by
  exact bounds_i64 h

set_option maxRecDepth 100000 in
theorem depth_lifted (os : Os) (started : os.Started) (H : Type) (enc : TypeId × Value → H) :
    ReturnsInHanded {} Try.checked os 3 .any (Rows.depthSpec.pre6 enc Try.prog Try.f3 Rows.depthRow.domain false) (Rows.depthSpec.post enc Try.prog Try.f3 false true false false) := by
  refine returnsInHanded_of_change_sized (C := Try.checked) own started (by kernel_rfl) Try.func3
    (ChangeSpec.witness6 (enc := enc) (C := Try.checked) false ⟨#[], #[.slice none 0 0, .int .i64 0, .int .i64 0], []⟩ 8 (by kernel_rfl) (by kernel_rfl) (by kernel_rfl) (by kernel_rfl)) ?_
  intro W base args ds gs before hval0 hW hcnd hsz0 _
  have hval : ∀ (j : Nat) t v, Try.f3.params[j]? = some t → args[j]? = some v → Value.okWide Try.prog W .any base t v := hval0
  have hsz : (DataW.weightsEach Try.prog (Try.f3.params.toList ++ Rows.depthSpec.plain.varTypes Try.prog) (ds ++ gs)).all (· ≤ reachBytes) = true := hsz0
  have hW' := hW
  obtain ⟨p, q, hA0, hV, rfl, hfz, hnd⟩ := hW
  have hA : DataW.TrodAll enc Try.prog W 0 (fun _ => true) true Try.f3.params.toList args.toList ds p := hA0
  rw [Try.params3] at hA hval hsz
  obtain ⟨v0, v1, v2, d0, d1, d2, p0, p1, p2, rfl, rfl, rfl, h0, h1, h2⟩ := trodAll_three hA
  obtain ⟨rfl, rfl⟩ := trodVars_none hV
  obtain ⟨a0, len0, cap0, rfl⟩ := okWide_slice Try.underlying22 (hval 0 22 v0 rfl rfl)
  have k0 := h0
  have lt0 : ∀ x ∈ p0, x.block < W.heap.size := by obtain ⟨m, hm⟩ := k0; exact DataW.trod_lt m _ _ _ hm
  obtain ⟨x1, rfl, rfl, rfl, wf1⟩ := open_int Try.underlying3 (hval 1 3 v1 rfl rfl) h1
  obtain ⟨x2, rfl, rfl, rfl, wf2⟩ := open_int Try.underlying3 (hval 2 3 v2 rfl rfl) h2
  obtain ⟨fuel, hf⟩ := h0
  obtain ⟨⟨b, off, V, L, R, hTS⟩, hlen⟩ := open_places (by simpa [Value.cells] using hf)
  have hn : len0 * 24 ≤ 140737488351232 := by
    rcases hlen with ⟨_, rfl⟩ | ⟨el, sp, rfl, hel⟩
    · omega
    · have := sized_slice hsz (j := 0) (t := 22) (e := 27) rfl rfl Try.underlying22
      rw [bytesPlace, hel] at this
      simp only [reachBytes] at this
      omega
  have b1 := wf_bounds wf1
  have b2 := wf_bounds wf2
  clear hA0 hval0
  refine (depth_any a0 b off len0 cap0 V L R x1 x2 W hn hTS b1.1 b1.2 b2.1 b2.2).mono fun e W' ⟨he, bel⟩ => ?_
  subst he
  exact ⟨_, rfl, _, _, _, [], _, [], hW', trodAll_mk1 (shut_bool Try.underlying4 _), (trodAll_mk3 (Below.trod laidOut (by kernel_rfl) (of_decide_eq_true (by kernel_rfl)) k0 bel lt0) (shut_int Try.underlying3 wf1) (shut_int Try.underlying3 wf2)), rfl, bel.frame _, fun h => by cases h⟩

theorem depth_holds : Rows.DepthSaid :=
  OpenClaim.holds_of_wide 3 Try.f3 rfl rfl rfl rfl rfl rfl rfl ⟨rfl, rfl, rfl, rfl, rfl⟩ rfl rfl rfl rfl rfl (by kernel_rfl) Try.func3 (by kernel_rfl)
    (of_decide_eq_true (by kernel_rfl)) (by unfold Func.isWrapper; first | (rw [if_pos (by decide +kernel)]; kernel_rfl) | (rw [if_neg (by decide +kernel)]; exact ⟨rfl, rfl⟩))
    (fun os started H enc _ => depth_lifted os started H enc)
#print axioms depth_holds
end Go.Proofs.Ytaebngpoagjafaa
