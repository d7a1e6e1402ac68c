/-
  OUR OWN: a step that is a Match; Matches' walk.
-/
import Derived.Test.YtgbdmnjipdgmoaaGreatGn
namespace Go.Proofs.YtgbdmnjipdgmoaaGreat
open Go.RowKit

/-- Worlds that came in: m of them, six cells each; of the places what matched asks. -/
structure WS (w : World) (wo : Option Addr) (b off m : Nat) (A Bi Dr : Nat → Int) (Dn Al : Nat → Value) (po : Nat → Option Addr) (n c pb poff : Nat → Nat) (V L R : Nat → Nat → Int) : Prop where
  at_ : 0 < m → wo = some ⟨b, off, none⟩
  lt : 0 < m → b < w.heap.size
  c0 : ∀ i, i < m → w.cell? ⟨b, off + i * 6, none⟩ = some (.int .i64 (A i))
  c1 : ∀ i, i < m → w.cell? ⟨b, off + i * 6 + 1, none⟩ = some (.int .i64 (Bi i))
  c2 : ∀ i, i < m → w.cell? ⟨b, off + i * 6 + 2, none⟩ = some (.int .i64 (Dr i))
  c3 : ∀ i, i < m → w.cell? ⟨b, off + i * 6 + 3, none⟩ = some (Dn i)
  c4 : ∀ i, i < m → w.cell? ⟨b, off + i * 6 + 4, none⟩ = some (Al i)
  c5 : ∀ i, i < m → w.cell? ⟨b, off + i * 6 + 5, none⟩ = some (.slice (po i) (n i) (c i))
  pt : ∀ i, i < m → PT w (po i) (pb i) (poff i) (n i) (c i) (V i) (L i) (R i)
  sz : ∀ i, i < m → n i * 24 ≤ 140737488351232
theorem WS.below {w w' : World} {wo b off m A Bi Dr Dn Al po n c pb poff V L R} (h : WS w wo b off m A Bi Dr Dn Al po n c pb poff V L R) (hb : Below w.heap.size w w') : WS w' wo b off m A Bi Dr Dn Al po n c pb poff V L R :=
  ⟨h.at_, fun hn => Nat.lt_of_lt_of_le (h.lt hn) hb.size, fun i hi => by rw [hb.cell (h.lt (by omega))]; exact h.c0 i hi, fun i hi => by rw [hb.cell (h.lt (by omega))]; exact h.c1 i hi,
    fun i hi => by rw [hb.cell (h.lt (by omega))]; exact h.c2 i hi, fun i hi => by rw [hb.cell (h.lt (by omega))]; exact h.c3 i hi, fun i hi => by rw [hb.cell (h.lt (by omega))]; exact h.c4 i hi,
    fun i hi => by rw [hb.cell (h.lt (by omega))]; exact h.c5 i hi, fun i hi => (h.pt i hi).below hb, h.sz⟩

set_option maxRecDepth 100000 in
set_option maxHeartbeats 2000000 in
theorem step_match (SB : Nat) (wo : Option Addr) (b off m wc : Nat) (A Bi Dr : Nat → Int) (Dn Al : Nat → Value) (po : Nat → Option Addr) (n c pb poff : Nat → Nat) (V L R : Nat → Nat → Int) (oa ob oc od : Int) (os : ByteArray) (w : World)
    (hm : m * 96 ≤ 140737488351232) (hw : WS w wo b off m A Bi Dr Dn Al po n c pb poff V L R) (hst : w.cell? ⟨SB, 0, none⟩ = some (.slice wo m wc)) (hsl : SB < w.heap.size)
    (a0 : -9223372036854775808 ≤ oa) (a1 : oa ≤ 9223372036854775807) :
    Calls Tryz.prog 8 #[.pointer (some ⟨SB, 0, none⟩), .agg #[.int .i64 1, .int .i64 oa, .int .i64 ob, .int .i64 oc, .int .i64 od, .string os]] w fun e w' => e = .returned (.bool true) ∧ Below w.heap.size w w' := by
  by_cases hm0 : m = 0
  · subst hm0
    go_enter Tryz.func8, Tryz.ntmps8
    go_wp2_with fail
    go_ret
    exact ⟨rfl, (Below.refl _ _).alloc (Nat.le_refl _) _⟩
  · obtain rfl := hw.at_ (by omega)
    have hne : ((m : Int) == 0) = false := by rw [beq_eq_false_iff_ne]; omega
    go_enter Tryz.func8, Tryz.ntmps8
    go_wp2_with fail
    have q1 : (w.alloc (.cells #[.int .i64 1, .int .i64 oa, .int .i64 ob, .int .i64 oc, .int .i64 od, .string os] 35)).cell? ⟨w.heap.size, 1, none⟩ = some (.int .i64 oa) := by simp
    have hal : Below w.heap.size w (w.alloc (.cells #[.int .i64 1, .int .i64 oa, .int .i64 ob, .int .i64 oc, .int .i64 od, .string os] 35)) := (Below.refl _ _).alloc (Nat.le_refl _) _
    have hst1 : (w.alloc (.cells #[.int .i64 1, .int .i64 oa, .int .i64 ob, .int .i64 oc, .int .i64 od, .string os] 35)).cell? ⟨SB, 0, none⟩ = some (.slice (some ⟨b, off, none⟩) m wc) := (hal.cell (p := ⟨SB, 0, none⟩) hsl).trans hst
    have hw1 := hw.below hal
    have HAL : Hid _ := hal
    generalize w.alloc (.cells #[.int .i64 1, .int .i64 oa, .int .i64 ob, .int .i64 oc, .int .i64 od, .string os] 35) = w1 at *
    clear hst hw hal
    have hmi : (0 : Int) < m := by omega
    go_region_with (first | (go_at_call 11; refine (pick_any _ m _ a0 a1 (by omega) (by omega)).mono ?_; rintro e w' ⟨⟨k, hk, rfl⟩, hww⟩; subst w'; have f0 := hw1.c0 k hk; have f1 := hw1.c1 k hk; have f2 := hw1.c2 k hk; have f3 := hw1.c3 k hk; have f4 := hw1.c4 k hk; have f5 := hw1.c5 k hk; have hki : (k : Int) < m := by omega) | (go_at_call 10; refine (matched_any _ _ _ _ _ _ _ _ _ _ _ _ _ _ (hw1.sz k hk) (by exact (hw1.pt k hk).below (bel_drewN (Below.refl _ _) 1))).mono ?_; rintro e w2 ⟨rfl, hb2⟩))
    all_goals
      have hfin : Hid (Below w.heap.size w w2) := HAL.out.trans (Below.mono (B := w1.heap.size) ((bel_drewN (Below.refl _ _) 1).trans hb2) HAL.out.size)
      clear hb2
      go_wp2_with fail
      go_ret
      exact ⟨rfl, hfin.out⟩
end Go.Proofs.YtgbdmnjipdgmoaaGreat
