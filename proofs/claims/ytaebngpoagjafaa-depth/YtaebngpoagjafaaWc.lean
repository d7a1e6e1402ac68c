/-
  OUR OWN: the contracts of holds, IsList, areMap, Longest: functions that read a list of prefixes.
-/
import Derived.Test.YtaebngpoagjafaaWb
import Derived.Deep.RegionWith
namespace Go.Proofs.Ytaebngpoagjafaa
open Go.RowKit

/-- A list of prefixes in memory: n of them, at the head of block b. -/
structure PS (w : World) (ao : Option Addr) (b n : Nat) (V L : Nat → Int) : Prop where
  at_ : 0 < n → ao = some ⟨b, 0, none⟩
  lt : 0 < n → b < w.heap.size
  val : ∀ i, i < n → w.cell? ⟨b, i * 2, none⟩ = some (.int .i64 (V i))
  len : ∀ i, i < n → w.cell? ⟨b, i * 2 + 1, none⟩ = some (.int .i64 (L i))

theorem PS.below {w w' : World} {ao b n V L} (h : PS w ao b n V L) (hb : Below w.heap.size w w') : PS w' ao b n V L :=
  ⟨h.at_, fun hn => Nat.lt_of_lt_of_le (h.lt hn) hb.size, fun i hi => by rw [hb.cell (h.lt (by omega))]; exact h.val i hi, fun i hi => by rw [hb.cell (h.lt (by omega))]; exact h.len i hi⟩
theorem PS.take {w : World} {ao b n V L} (h : PS w ao b n V L) {m : Nat} (hm : m ≤ n) : PS w ao b m V L :=
  ⟨fun h0 => h.at_ (by omega), fun h0 => h.lt (by omega), fun i hi => h.val i (by omega), fun i hi => h.len i (by omega)⟩

theorem ret_bool {a b : Bool} (h : a = b) : Ending.returned (.bool a) = .returned (.bool b) := by rw [h]
theorem box_step {w wr wx : World} {v m : Value} (hx : Below wr.heap.size wr wx) (hsz : w.heap.size < wr.heap.size) (hb : Below w.heap.size w wr)
    (c0 : wr.cell? ⟨w.heap.size, 0, none⟩ = some v) (c1 : wr.cell? ⟨w.heap.size, 1, none⟩ = some m) :
    wx.cell? ⟨w.heap.size, 0, none⟩ = some v ∧ wx.cell? ⟨w.heap.size, 1, none⟩ = some m ∧ w.heap.size < wx.heap.size ∧ Below w.heap.size w wx :=
  ⟨by rw [hx.cell hsz]; exact c0, by rw [hx.cell hsz]; exact c1, Nat.lt_of_lt_of_le hsz hx.size, hb.trans (hx.mono (Nat.le_of_lt hsz))⟩

set_option maxHeartbeats 400000 in
theorem holds_any (ao : Option Addr) (b n c : Nat) (V L : Nat → Int) (v m : Int) (w : World) (hn : n ≤ 64) (hs : PS w ao b n V L) :
    Calls Try.prog 27 #[.slice ao n c, .agg #[.int .i64 v, .int .i64 m]] w fun e w' => e = .returned (.bool (M.inTo V L v m n)) ∧ Below w.heap.size w w' := by
  go_enter Try.func27, Try.ntmps27
  go_wp2
  go_loopw [9] (fun i wr => ∃ k : Nat, k ≤ n ∧ i = .int .i64 k ∧ M.inTo V L v m k = false ∧ wr.cell? ⟨w.heap.size, 0, none⟩ = some (.int .i64 v) ∧ wr.cell? ⟨w.heap.size, 1, none⟩ = some (.int .i64 m) ∧ w.heap.size < wr.heap.size ∧ Below w.heap.size w wr) (fun i _ => n - (intOf i).toNat)
  case atStart => exact ⟨0, by omega, rfl, rfl, by simp, by simp, by simp, (Below.refl _ _).alloc (Nat.le_refl _) _⟩
  case round =>
    obtain ⟨k, hk, rfl, hf, c0, c1, hsz, hb⟩ := hrel
    by_cases hlt : k < n
    · obtain rfl := hs.at_ (by omega)
      have hv := (hs.below hb).val k hlt
      have hl := (hs.below hb).len k hlt
      have hbb : b < wr.heap.size := (hs.below hb).lt (by omega)
      have hR : Hid (Below w.heap.size w wr) := hb
      clear hs hb
      cases e1 : (V k == v) with
      | true =>
        cases e2 : (L k == m) with
        | true =>
          have ht : Hid (M.inTo V L v m n = true) := M.inTo_hit hlt (by simpa using e1) (by simpa using e2)
          go_wp2
          go_ret
          exact ⟨ret_bool ht.out.symm, hR.out.trans (Below.mono (B := wr.heap.size) (by repeat (first | exact Below.refl _ _ | refine below_drewN ?_ _ | refine Below.drew ?_ | refine Below.alloc ?_ (by simp) _ | refine Below.setCell ?_ (by simp) _)) (Nat.le_of_lt hsz))⟩
        | false =>
          have HF : Hid (M.inTo V L v m (k + 1) = false) := by show _ = _; simp [M.inTo, hf, e2]
          go_wp2
          go_roundw
          case rel => exact ⟨k + 1, by omega, by go_num, HF, box_step (by repeat (first | exact Below.refl _ _ | refine below_drewN ?_ _ | refine Below.drew ?_ | refine Below.alloc ?_ (by simp) _ | refine Below.setCell ?_ (by simp) _)) hsz hR.out c0 c1⟩
          case measure => simp [intOf]; omega
      | false =>
        have HF : Hid (M.inTo V L v m (k + 1) = false) := by show _ = _; simp [M.inTo, hf, e1]
        go_wp2
        go_roundw
        case rel => exact ⟨k + 1, by omega, by go_num, HF, box_step (by repeat (first | exact Below.refl _ _ | refine below_drewN ?_ _ | refine Below.drew ?_ | refine Below.alloc ?_ (by simp) _ | refine Below.setCell ?_ (by simp) _)) hsz hR.out c0 c1⟩
        case measure => simp [intOf]; omega
    · have hkn : k = n := by omega
      subst hkn
      go_wp2
      go_ret
      exact ⟨ret_bool hf.symm, hb⟩
end Go.Proofs.Ytaebngpoagjafaa
