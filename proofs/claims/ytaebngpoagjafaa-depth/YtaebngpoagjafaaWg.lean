/-
  OUR OWN: lists that are built by append; the contracts of prefixes and Placed.
-/
import Derived.Test.YtaebngpoagjafaaWf
namespace Go.Proofs.Ytaebngpoagjafaa
open Go.RowKit

theorem Try.infoPrefix : (Try.prog.info? 25).map (fun i => (i.zero, i.size, i.bytes)) = some (some (.agg #[.int .i64 0, .int .i64 0]), 2, 16) := by kernel_rfl
theorem Try.infoPlace : (Try.prog.info? 27).map (fun i => (i.zero, i.size, i.bytes)) = some (some (.agg #[.int .i64 0, .int .i64 0, .int .i64 0]), 3, 24) := by kernel_rfl

/-- The cells of prefixes; of places. -/
def pc (V L : Nat → Int) : Nat → List Value
  | 0 => []
  | n + 1 => pc V L n ++ [.int .i64 (V n), .int .i64 (L n)]
def tc (V L R : Nat → Int) : Nat → List Value
  | 0 => []
  | n + 1 => tc V L R n ++ [.int .i64 (V n), .int .i64 (L n), .int .i64 (R n)]
theorem pc_len (V L : Nat → Int) (n : Nat) : (pc V L n).length = n * 2 := by
  induction n with
  | zero => rfl
  | succ n ih => simp [pc, ih]; omega
theorem tc_len (V L R : Nat → Int) (n : Nat) : (tc V L R n).length = n * 3 := by
  induction n with
  | zero => rfl
  | succ n ih => simp [tc, ih]; omega
theorem pc_get (V L : Nat → Int) {n i : Nat} (h : i < n) : (pc V L n)[i * 2]? = some (.int .i64 (V i)) ∧ (pc V L n)[i * 2 + 1]? = some (.int .i64 (L i)) := by
  induction n with
  | zero => omega
  | succ n ih =>
    simp only [pc]
    by_cases hi : i = n
    · subst hi
      rw [List.getElem?_append_right (by rw [pc_len]; omega), List.getElem?_append_right (by rw [pc_len]; omega), pc_len]
      simp
    · have := ih (by omega)
      rw [List.getElem?_append_left (by rw [pc_len]; omega), List.getElem?_append_left (by rw [pc_len]; omega)]
      exact this
theorem tc_get (V L R : Nat → Int) {n i : Nat} (h : i < n) : (tc V L R n)[i * 3]? = some (.int .i64 (V i)) ∧ (tc V L R n)[i * 3 + 1]? = some (.int .i64 (L i)) ∧ (tc V L R n)[i * 3 + 2]? = some (.int .i64 (R i)) := by
  induction n with
  | zero => omega
  | succ n ih =>
    simp only [tc]
    by_cases hi : i = n
    · subst hi
      rw [List.getElem?_append_right (by rw [tc_len]; omega), List.getElem?_append_right (by rw [tc_len]; omega), List.getElem?_append_right (by rw [tc_len]; omega), tc_len]
      simp
    · have := ih (by omega)
      rw [List.getElem?_append_left (by rw [tc_len]; omega), List.getElem?_append_left (by rw [tc_len]; omega), List.getElem?_append_left (by rw [tc_len]; omega)]
      exact this

/-- A list of places in memory. -/
structure TS (w : World) (ao : Option Addr) (b off n : Nat) (V L R : Nat → Int) : Prop where
  at_ : 0 < n → ao = some ⟨b, off, none⟩
  lt : 0 < n → b < w.heap.size
  val : ∀ i, i < n → w.cell? ⟨b, off + i * 3, none⟩ = some (.int .i64 (V i))
  len : ∀ i, i < n → w.cell? ⟨b, off + i * 3 + 1, none⟩ = some (.int .i64 (L i))
  reg : ∀ i, i < n → w.cell? ⟨b, off + i * 3 + 2, none⟩ = some (.int .i64 (R i))
theorem TS.below {w w' : World} {ao b off n V L R} (h : TS w ao b off n V L R) (hb : Below w.heap.size w w') : TS w' ao b off n V L R :=
  ⟨h.at_, fun hn => Nat.lt_of_lt_of_le (h.lt hn) hb.size, fun i hi => by rw [hb.cell (h.lt (by omega))]; exact h.val i hi, fun i hi => by rw [hb.cell (h.lt (by omega))]; exact h.len i hi, fun i hi => by rw [hb.cell (h.lt (by omega))]; exact h.reg i hi⟩

theorem ps_of_owns {w : World} {base : Nat} {v : Value} {n : Nat} {V L : Nat → Int} (h : w.ownsRow base 25 2 v n (pc V L n)) :
    ∃ ao b c, v = .slice ao n c ∧ n ≤ c ∧ (n = 0 ∨ base ≤ b) ∧ PS w ao b n V L := by
  have hh := h
  rcases h.2 with ⟨rfl, rfl⟩ | ⟨g, cap, cur, rfl, hb, hg, hnc, _, _, _⟩
  · exact ⟨none, 0, 0, rfl, Nat.le_refl _, .inl rfl, ⟨fun h => by omega, fun h => by omega, fun i hi => by omega, fun i hi => by omega⟩⟩
  · refine ⟨some ⟨g, 0, none⟩, g, cap, rfl, hnc, .inr hb, ⟨fun _ => rfl, fun _ => ?_, fun i hi => ?_, fun i hi => ?_⟩⟩
    · exact (hh.lt g rfl).2
    · rw [hh.cellAt (i * 2) (by omega)]; exact (pc_get V L hi).1
    · rw [hh.cellAt (i * 2 + 1) (by omega)]; exact (pc_get V L hi).2
theorem ts_of_owns {w : World} {base : Nat} {v : Value} {n : Nat} {V L R : Nat → Int} (h : w.ownsRow base 27 3 v n (tc V L R n)) :
    ∃ ao b c, v = .slice ao n c ∧ n ≤ c ∧ (n = 0 ∨ base ≤ b) ∧ TS w ao b 0 n V L R := by
  have hh := h
  rcases h.2 with ⟨rfl, rfl⟩ | ⟨g, cap, cur, rfl, hb, hg, hnc, _, _, _⟩
  · exact ⟨none, 0, 0, rfl, Nat.le_refl _, .inl rfl, ⟨fun h => by omega, fun h => by omega, fun i hi => by omega, fun i hi => by omega, fun i hi => by omega⟩⟩
  · refine ⟨some ⟨g, 0, none⟩, g, cap, rfl, hnc, .inr hb, ⟨fun _ => rfl, fun _ => ?_, fun i hi => ?_, fun i hi => ?_, fun i hi => ?_⟩⟩
    · exact (hh.lt g rfl).2
    · rw [Nat.zero_add, hh.cellAt (i * 3) (by omega)]; exact (tc_get V L R hi).1
    · rw [Nat.zero_add, hh.cellAt (i * 3 + 1) (by omega)]; exact (tc_get V L R hi).2.1
    · rw [Nat.zero_add, hh.cellAt (i * 3 + 2) (by omega)]; exact (tc_get V L R hi).2.2

theorem news2 (w : World) (x y : Value) (t : TypeId) : ∀ j u, ([x, y] : List Value)[j]? = some u → (w.alloc (.cells #[x, y] t)).cell? ((⟨w.heap.size, 0, none⟩ : Addr).add j) = some u := by
  intro j u hj
  match j, hj with
  | 0, hj => simp at hj; subst hj; simp [Addr.add]
  | 1, hj => simp at hj; subst hj; simp [Addr.add]

set_option maxHeartbeats 400000 in
theorem prefixes_any (ao : Option Addr) (b off n c : Nat) (V L R : Nat → Int) (w : World) (hn : n * 24 ≤ 140737488351232) (hs : TS w ao b off n V L R) :
    Calls Try.prog 18 #[.slice ao n c] w fun e w' => (∃ v, e = .returned v ∧ w'.ownsRow w.heap.size 25 2 v n (pc V L n)) ∧ Below w.heap.size w w' := by
  obtain ⟨i0, hi, hz0, hz1, hz2⟩ := info_parts Try.infoPrefix
  go_enter Try.func18, Try.ntmps18
  go_wp2
  go_loopw [3, 4] (fun v i wr => ∃ k : Nat, k ≤ n ∧ i = .int .i64 k ∧ wr.ownsRow w.heap.size 25 2 v k (pc V L k) ∧ Below w.heap.size w wr) (fun _ i _ => n - (intOf i).toNat)
  case atStart => exact ⟨0, by omega, rfl, World.ownsRow_nil _ _ _ _, Below.refl _ _⟩
  case round =>
    obtain ⟨k, hk, rfl, hown, hb⟩ := hrel
    by_cases hlt : k < n
    · obtain rfl := hs.at_ (by omega)
      have hps := hs.below hb
      have hv := hps.val k hlt
      have hl := hps.len k hlt
      have hbb : b < wr.heap.size := hps.lt (by omega)
      have hsize := hb.size
      clear hs hps
      go_wp2_with (at_builtin; refine wpList_append_own _ rfl _ _ 23 rfl w.heap.size 25 i0 (.agg #[.int .i64 0, .int .i64 0]) 2 16 Try.underlying23 hi hz0 hz1 hz2 rfl (by decide) _ _ _ rfl (hown.alloc _) ⟨wr.heap.size, 0, none⟩ 1 1 [.int .i64 (V k), .int .i64 (L k)] rfl rfl (news2 _ _ _ _) (fun x hx => by simp at hx; rcases hx with rfl | rfl <;> rfl) (by unfold maxLen; omega) (by omega) (by simp; omega) ?_; intro v' w1 hown1 hgrow1 _)
      have hx : Hid (Below w.heap.size w w1) := (hb.alloc hb.size _).grown hgrow1 (by simp; omega) (fun q hq => (hown.lt q hq).1)
      go_roundw
      case rel => exact ⟨k + 1, by omega, by go_num, hown1, hx⟩
      case measure => simp [intOf]; omega
    · have hkn : k = n := by omega
      subst hkn
      go_wp2
      go_ret
      exact ⟨⟨_, rfl, hown⟩, hb⟩
end Go.Proofs.Ytaebngpoagjafaa
