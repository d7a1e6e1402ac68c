/-
  OUR OWN.
-/
import Derived.Test.YtegknlhadjhbdaaGreatW43
set_option maxRecDepth 100000
namespace Go.Proofs.YtegknlhadjhbdaaGreat
open Go.RowKit
attribute [local go_sem ↓] Go.wp_at_zero Go.wp_at_succ
set_option maxHeartbeats 1600000 in
theorem sameInts_nil (o1 : Option Addr) (c1 n : Nat) (w : World) (hn : n <= 9223372036854775807) :
   Calls Tryz.prog 36 #[.slice o1 n c1, .slice none 0 0] w fun e w' => e = .returned (.bool (n == 0)) /\ Below w.heap.size w w' := by
 rcases Nat.eq_zero_or_pos n with h0 | h0
 · subst h0
   exact sameInts_keep o1 none c1 0 0 (fun _ => 0) 0 0 0 0 w (by omega) ⟨fun h => by omega, fun h => by omega, fun i hi => by omega⟩ ⟨fun h => by omega, fun h => by omega, fun i hi => by omega⟩
 · have hne : ((n : Int) != 0) = true := by simp; omega
   have he : (n == 0) = false := by simp; omega
   rw [he]
   go_enter Tryz.func36, Tryz.ntmps36
   go_wp2_with fail
   go_ret
   exact ⟨rfl, Below.refl _ _⟩
set_option maxHeartbeats 1600000 in
theorem same_zero (o1 : Option Addr) (c1 n : Nat) (t s : Int) (w : World) (hn : n <= 9223372036854775807) (ht : 1 <= t) :
   Calls Tryz.prog 19 #[.agg #[.slice o1 n c1, .int .i64 t, .int .i64 s], .agg #[.slice none 0 0, .int .i64 0, .int .i64 0]] w fun e w' => e = .returned (.bool false) /\ Below w.heap.size w w' := by
 have HB0 : Hid (Below w.heap.size w ((w.alloc (.cells #[.slice o1 n c1, .int .i64 t, .int .i64 s] 35)).alloc (.cells #[.slice none 0 0, .int .i64 0, .int .i64 0] 35))) := ((Below.refl _ _).alloc (Nat.le_refl _) _).alloc (by simp) _
 have HX1 : Hid (((w.alloc (.cells #[.slice o1 n c1, .int .i64 t, .int .i64 s] 35)).alloc (.cells #[.slice none 0 0, .int .i64 0, .int .i64 0] 35)).heap[w.heap.size]? = some (.cells #[.slice o1 n c1, .int .i64 t, .int .i64 s] 35 (0, 0))) := by show _ = _; rw [Below.heap_alloc _ _ _ (by simp)]; exact heap_alloc_new w _
 have HX2 : Hid (((w.alloc (.cells #[.slice o1 n c1, .int .i64 t, .int .i64 s] 35)).alloc (.cells #[.slice none 0 0, .int .i64 0, .int .i64 0] 35)).heap[w.heap.size + 1]? = some (.cells #[.slice none 0 0, .int .i64 0, .int .i64 0] 35 (0, 0))) := heap_alloc_at _ (by simp)
 have ht0 : (t == 0) = false := by simp; omega
 go_enter Tryz.func19, Tryz.ntmps19
 go_wp2_with fail
 refine (sameInts_nil o1 c1 n _ hn).mono ?_
 rintro e w1 ⟨rfl, hb1⟩
 have HB1 : Hid (Below w.heap.size w w1) := HB0.out.trans (hb1.mono HB0.out.size)
 have hx1 := (hb1.block _ (lt_of_block HX1.out)).trans HX1.out
 have hx2 := (hb1.block _ (lt_of_block HX2.out)).trans HX2.out
 have p1 : w1.cell? ⟨w.heap.size, 1, none⟩ = some (.int .i64 t) := by rw [cell_of_row _ _ _ _ _ _ hx1]; rfl
 have p2 : w1.cell? ⟨w.heap.size, 2, none⟩ = some (.int .i64 s) := by rw [cell_of_row _ _ _ _ _ _ hx1]; rfl
 have q1 : w1.cell? ⟨w.heap.size + 1, 1, none⟩ = some (.int .i64 0) := by rw [cell_of_row _ _ _ _ _ _ hx2]; rfl
 have q2 : w1.cell? ⟨w.heap.size + 1, 2, none⟩ = some (.int .i64 0) := by rw [cell_of_row _ _ _ _ _ _ hx2]; rfl
 clear hb1 hx1 hx2 ht
 cases (n == 0) <;>
 · go_wp2_with fail
   go_ret
   exact ⟨rfl, HB1.out⟩
end Go.Proofs.YtegknlhadjhbdaaGreat
namespace Go.Proofs.YtegknlhadjhbdaaGreat
open Go.RowKit
theorem CS.keep {w w' : World} {co : Option Addr} {cb coff : Nat} {C : List Int} (h : CS w w.heap.size co cb coff C) (hb : Below w.heap.size w w') : CS w' w'.heap.size co cb coff C :=
 (h.of_kept (fun b hl => hb.block b hl)).wide hb.size
def spF (r : Int × (List Int × Int × Int)) : Int := if r.1 = 0 then 1 else 0
attribute [local go_sem ↓] Go.wp_at_zero Go.wp_at_succ
set_option maxHeartbeats 1600000 in
theorem spent_any (x : WD) (co : Option Addr) (cb coff cc : Nat) (C : List Int) (n : Int) (o1 : Option Addr) (g1 f1 k1 : Nat) (sv : List Int) (t c : Int) (w : World) (hC : C.length <= 140737488355328) (hn : n <= 9223372036854775807) (hsl : sv.length <= 9223372036854775807) (ht : 1 <= t) (hx : x.In w) (hcs : CS w w.heap.size co cb coff C)
   (his : IS w o1 g1 f1 sv.length (fun i => (sv[i]?).getD 0)) (hru : x.ru C n = (0, sv, t, c) \/ x.ru C n = (11, [], 0, 0)) :
   Calls Tryz.prog 28 #[.slice co C.length cc, x.val, .int .i64 n, .agg #[.slice o1 sv.length k1, .int .i64 t, .int .i64 c]] w fun e w' => e = .returned (.int .i64 (spF (x.ru C n))) /\ Below w.heap.size w w' := by
 have HX : Hid (x.In w) := hx
 have HCS : Hid (CS w w.heap.size co cb coff C) := hcs
 have HIS : Hid (IS w o1 g1 f1 sv.length (fun i => (sv[i]?).getD 0)) := his
 have HRUN : Hid (∀ wz, x.In wz -> CS wz wz.heap.size co cb coff C -> Calls Tryz.prog 26 #[.slice co C.length cc, x.val, .int .i64 n] wz (RuTo wz (x.ru C n))) := fun wz h1 h2 => Run_any x co cb coff cc C n wz hC hn h1 h2
 have HRU : Hid (x.ru C n = (0, sv, t, c) \/ x.ru C n = (11, [], 0, 0)) := hru
 clear hx hcs his hru
 generalize x.ru C n = R at *
 unfold WD.val at HRUN ⊢
 obtain ⟨xa, xb, xd, xdo, xdb, xdoff, xdl, xdc, xDn, xao, xab, xaoff, xac, xal, xpo, xpb, xpoff, xpl, xpcp, xV, xL, xR⟩ := x
 simp only at HRUN ⊢
 have HB0 : Hid (Below w.heap.size w ((w.alloc (.cells #[.int .i64 xa, .int .i64 xb, .int .i64 xd, .slice xdo xdl xdc, .slice xao xal.length xac, .slice xpo xpl xpcp] 30)).alloc (.cells #[.slice o1 sv.length k1, .int .i64 t, .int .i64 c] 35))) := ((Below.refl _ _).alloc (Nat.le_refl _) _).alloc (by simp) _
 have HW0 : Hid (((w.alloc (.cells #[.int .i64 xa, .int .i64 xb, .int .i64 xd, .slice xdo xdl xdc, .slice xao xal.length xac, .slice xpo xpl xpcp] 30)).alloc (.cells #[.slice o1 sv.length k1, .int .i64 t, .int .i64 c] 35)).heap[w.heap.size]? = some (.cells #[.int .i64 xa, .int .i64 xb, .int .i64 xd, .slice xdo xdl xdc, .slice xao xal.length xac, .slice xpo xpl xpcp] 30 (0, 0))) := by show _ = _; rw [Below.heap_alloc _ _ _ (by simp)]; exact heap_alloc_new w _
 have HA0 : Hid (((w.alloc (.cells #[.int .i64 xa, .int .i64 xb, .int .i64 xd, .slice xdo xdl xdc, .slice xao xal.length xac, .slice xpo xpl xpcp] 30)).alloc (.cells #[.slice o1 sv.length k1, .int .i64 t, .int .i64 c] 35)).heap[w.heap.size + 1]? = some (.cells #[.slice o1 sv.length k1, .int .i64 t, .int .i64 c] 35 (0, 0))) := heap_alloc_at _ (by simp)
 have hnil2 := fun wz => nil_eql 25 3 Tryz.underlying25 wz
 go_enter Tryz.func28, Tryz.ntmps28
 go_wp2_with fail
 have hCS0 := HCS.out.keep HB0.out
 refine (HRUN.out _ (HX.out.below HB0.out) hCS0).mono ?_
 rintro e w1 ⟨hb1, o2, m2, k2, rfl, hne2, heq2⟩
 have HB1 : Hid (Below w.heap.size w w1) := HB0.out.trans (hb1.mono HB0.out.size)
 have HA1 : Hid (w1.heap[w.heap.size + 1]? = some (.cells #[.slice o1 sv.length k1, .int .i64 t, .int .i64 c] 35 (0, 0))) := (hb1.block _ (lt_of_block HA0.out)).trans HA0.out
 have hlt1 : w.heap.size + 1 < w1.heap.size := lt_of_block HA1.out
 clear hb1 hCS0
 rcases HRU.out with rfl | rfl
 · obtain ⟨hm, hrow⟩ := heq2 rfl
   simp only at hm hrow
   subst hm
   have HB2 : Hid (Below w.heap.size w (w1.alloc (.cells #[.slice o2 sv.length k2, .int .i64 t, .int .i64 c] 35))) := HB1.out.alloc HB1.out.size _
   have hA2 : (w1.alloc (.cells #[.slice o2 sv.length k2, .int .i64 t, .int .i64 c] 35)).heap[w.heap.size + 1]? = some (.cells #[.slice o1 sv.length k1, .int .i64 t, .int .i64 c] 35 (0, 0)) := by rw [Below.heap_alloc _ _ _ hlt1]; exact HA1.out
   obtain ⟨a0, a1, a2, -⟩ := ld3 hA2
   obtain ⟨g2, hisb⟩ := is_of_row (hrow.alloc (.cells #[.slice o2 sv.length k2, .int .i64 t, .int .i64 c] 35))
   have HSM := same_keep o1 o2 k1 k2 sv.length t c _ g1 f1 g2 0 _ hsl (HIS.out.below HB2.out HIS.out.lt) hisb
   clear hne2 heq2 hrow hisb hA2 HRUN HRU
   simp only
   go_wp2_with fail
   refine HSM.mono ?_
   rintro e w3 ⟨rfl, hb3⟩
   have HB3 : Hid (Below w.heap.size w w3) := HB2.out.trans (hb3.mono HB2.out.size)
   clear hb3 HSM a0 a1 a2
   go_wp2_with fail
   go_ret
   exact ⟨rfl, HB3.out⟩
 · obtain ⟨rfl, rfl, rfl⟩ := hne2 (by decide)
   simp only
   have HB2 : Hid (Below w.heap.size w (w1.alloc (.cells #[.slice none 0 0, .int .i64 0, .int .i64 0] 35))) := HB1.out.alloc HB1.out.size _
   have hA2 : (w1.alloc (.cells #[.slice none 0 0, .int .i64 0, .int .i64 0] 35)).heap[w.heap.size + 1]? = some (.cells #[.slice o1 sv.length k1, .int .i64 t, .int .i64 c] 35 (0, 0)) := by rw [Below.heap_alloc _ _ _ hlt1]; exact HA1.out
   have HN2 : Hid ((w1.alloc (.cells #[.slice none 0 0, .int .i64 0, .int .i64 0] 35)).heap[w1.heap.size]? = some (.cells #[.slice none 0 0, .int .i64 0, .int .i64 0] 35 (0, 0))) := heap_alloc_new _ _
   obtain ⟨a0, a1, a2, -⟩ := ld3 hA2
   have HSM := same_zero o1 k1 sv.length t c (w1.alloc (.cells #[.slice none 0 0, .int .i64 0, .int .i64 0] 35)) hsl ht
   clear hne2 heq2 hA2 HRUN HRU
   go_wp2_with fail
   refine HSM.mono ?_
   rintro e w3 ⟨rfl, hb3⟩
   have HB3 : Hid (Below w.heap.size w w3) := HB2.out.trans (hb3.mono HB2.out.size)
   have hN3 : w3.heap[w1.heap.size]? = some (.cells #[.slice none 0 0, .int .i64 0, .int .i64 0] 35 (0, 0)) := (hb3.block _ (lt_of_block HN2.out)).trans HN2.out
   obtain ⟨y0, y1, y2, -⟩ := ld3 hN3
   clear hb3 HSM a0 a1 a2 hN3
   go_wp2_with fail
   go_ret
   exact ⟨rfl, HB3.out⟩
end Go.Proofs.YtegknlhadjhbdaaGreat
