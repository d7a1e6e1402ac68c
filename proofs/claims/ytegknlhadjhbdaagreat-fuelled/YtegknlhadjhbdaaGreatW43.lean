/-
  OUR OWN.
-/
import Derived.Test.YtegknlhadjhbdaaGreatW42
import Derived.BigRegion
import Derived.Test.YtegknlhadjhbdaaGreatV01
import Derived.Test.YtegknlhadjhbdaaGreatV40
import Derived.Test.YtegknlhadjhbdaaGreatV02
set_option maxRecDepth 100000
namespace Go.Proofs.YtegknlhadjhbdaaGreat
open Go.RowKit
theorem byt_num (n : Int) (k : Nat) : ∀ x ∈ numB n k, 0 <= x /\ x < 256 := by
 induction k generalizing n with
 | zero => intro x hx; simp [numB] at hx
 | succ k ih =>
   intro x hx
   simp only [numB, List.mem_cons] at hx
   rcases hx with rfl | hx
   · omega
   · exact ih _ x hx
theorem byt_enc (es : List EX) : ∀ n, ∀ x ∈ encN es n, 0 <= x /\ x < 256 := by
 intro n
 induction n using Nat.strongRecOn with
 | ind n ih =>
   cases n with
   | zero => intro x hx; simp [encN] at hx
   | succ j =>
     cases he : es[j]? with
     | none => intro x hx; simp [encN, he] at hx
     | some e =>
       have hat : ∀ i, ∀ x ∈ atL (encK es j) i, 0 <= x /\ x < 256 := by
         intro i x hx
         rw [atL_enc] at hx
         split at hx
         · simp at hx
         · split at hx
           · exact ih _ (by omega) x hx
           · simp at hx
       have hw : ∀ k, ∀ x ∈ withinL (encK es j) e k, 0 <= x /\ x < 256 := by
         intro k
         induction k with
         | zero => exact hat _
         | succ k ihk =>
           intro x hx
           simp only [withinL, List.mem_append] at hx
           rcases hx with hx | hx
           · exact ihk x hx
           · cases hi : e.items[k]? with
             | none => rw [hi] at hx; simp at hx
             | some y => rw [hi] at hx; exact hat _ x hx
       have hh : ∀ k, ∀ x ∈ headL (encK es j) e k, 0 <= x /\ x < 256 := by
         intro k
         induction k with
         | zero =>
           intro x hx
           simp only [headL, exprB, List.mem_append] at hx
           rcases hx with hx | hx
           · exact byt_num _ _ x hx
           · repeat' split at hx
             all_goals exact byt_num _ _ x hx
         | succ k ihk =>
           intro x hx
           simp only [headL, List.mem_append] at hx
           rcases hx with hx | hx
           · exact ihk x hx
           · cases hi : e.items[k]? with
             | none => rw [hi] at hx; simp at hx
             | some y =>
               rw [hi] at hx
               simp only [itemB] at hx
               repeat' split at hx
               all_goals (try simp only [List.mem_append] at hx)
               · rcases hx with (hx | hx) | hx <;> exact byt_num _ _ x hx
               · rcases hx with hx | hx <;> exact byt_num _ _ x hx
               · rcases hx with hx | hx <;> exact byt_num _ _ x hx
               · exact byt_num _ _ x hx
       intro x hx
       simp only [encN, he, encE] at hx
       split at hx
       · exact hat _ x hx
       · rcases List.mem_append.1 hx with hx | hx
         · exact hh _ x hx
         · exact hw _ x hx
theorem cs_of_row {w : World} {base : Nat} {o : Option Addr} {k : Nat} {X : List Int} (h : w.ownsRow base 5 1 (.slice o X.length k) X.length (X.map (Value.int .u8))) (hb : ∀ x ∈ X, 0 <= x /\ x < 256) : ∃ g, CS w w.heap.size o g 0 X := by
 rcases Nat.eq_zero_or_pos X.length with h0 | h0
 · exact ⟨0, ⟨fun h => by omega, fun h => by omega, fun i x hx => by have := (List.getElem?_eq_some_iff.1 hx).1; omega, hb⟩⟩
 · obtain ⟨g, kk, hg, _, hl⟩ := h.form h0
   obtain ⟨ho, _⟩ : o = some ⟨g, 0, none⟩ /\ k = kk := by cases hg; exact ⟨rfl, rfl⟩
   subst ho
   refine ⟨g, ⟨fun _ => rfl, fun _ => hl, fun i x hx => ?_, hb⟩⟩
   have hi := (List.getElem?_eq_some_iff.1 hx).1
   rw [Nat.zero_add, World.ownsRow.cellAt h i (by omega), List.getElem?_map, hx]; rfl
theorem is_of_row {w : World} {base : Nat} {o : Option Addr} {k : Nat} {l : List Int} (h : w.ownsRow base 3 1 (.slice o l.length k) l.length (l.map (Value.int .i64))) : ∃ g, IS w o g 0 l.length (fun i => (l[i]?).getD 0) := by
 rcases Nat.eq_zero_or_pos l.length with h0 | h0
 · exact ⟨0, ⟨fun h => by omega, fun h => by omega, fun i hi => by omega⟩⟩
 · obtain ⟨g, kk, hg, _, hl⟩ := h.form h0
   obtain ⟨ho, _⟩ : o = some ⟨g, 0, none⟩ /\ k = kk := by cases hg; exact ⟨rfl, rfl⟩
   subst ho
   refine ⟨g, ⟨fun _ => rfl, fun _ => hl, fun i hi => ?_⟩⟩
   rw [Nat.zero_add, World.ownsRow.cellAt h i (by omega), List.getElem?_map, List.getElem?_eq_getElem hi]; rfl
attribute [local go_sem ↓] Go.wp_at_zero Go.wp_at_succ
set_option maxHeartbeats 800000 in
theorem refused_any (s : ByteArray) (x : WD) (w : World) (hx : x.In w) (h : fitB s = false \/ x.right = false) :
   Calls Tryz.prog 15 #[.string s, x.val, .bool (fitB s)] w fun e w' => e = .returned (.bool true) /\ Below w.heap.size w w' := by
 have HX : Hid (x.In w) := hx
 have HF : Hid (fitB s = (cpE s == 0)) := rfl
 have HRT : Hid (fitB s = false \/ x.right = false) := h
 have HLN : Hid (cpE s = 0 -> (cChk s).1 = 0 /\ szR (cAll s).es (cAll s).es.length <= 1000 /\ 1 <= (cpX s).length /\ (cpX s).length <= 7000) := cp_len
 have HBY : Hid (∀ y ∈ cpX s, 0 <= y /\ y < 256) := byt_enc _ _
 have HCP : Hid (∀ wz, Calls Tryz.prog 25 #[.string s] wz (CpTo wz (cpE s) (cpX s))) := fun wz => Compile_any s wz
 have HRUN : Hid (∀ (wz : World) (o : Option Addr) (cb coff k : Nat) (f : Int), (cpX s).length <= 7000 -> f <= 7000 -> x.In wz -> CS wz wz.heap.size o cb coff (cpX s) -> Calls Tryz.prog 26 #[.slice o (cpX s).length k, x.val, .int .i64 f] wz (RuTo wz (x.ru (cpX s) f))) := fun wz o cb coff k f h1 h2 h3 h4 => Run_any x o cb coff k (cpX s) f wz (by omega) (by omega) h3 h4
 have HRU : Hid (∀ f : Int, x.right = false -> x.ru (cpX s) f = (9, [], 0, 0)) := fun f hr => by unfold WD.ru ruF; rw [show rightB x.a x.b x.d x.V x.L x.R x.pl = false from hr]; simp
 clear h hx
 obtain ⟨X, HXX⟩ : ∃ X, Hid (cpX s = X) := ⟨_, rfl⟩
 rw [HXX.out] at HLN HBY HCP HRUN HRU
 obtain ⟨E, HE⟩ : ∃ E, Hid (cpE s = E) := ⟨_, rfl⟩
 rw [HE.out] at HF HLN HCP
 obtain ⟨F, HFF⟩ : ∃ F, Hid (fitB s = F) := ⟨_, rfl⟩
 rw [HFF.out] at HF HRT ⊢
 unfold WD.val at HRUN ⊢
 obtain ⟨xa, xb, xd, xdo, xdb, xdoff, xdl, xdc, xDn, xao, xab, xaoff, xac, xal, xpo, xpb, xpoff, xpl, xpcp, xV, xL, xR⟩ := x
 simp only at HRUN ⊢
 have HB0 : Hid (Below w.heap.size w (w.alloc (.cells #[.int .i64 xa, .int .i64 xb, .int .i64 xd, .slice xdo xdl xdc, .slice xao xal.length xac, .slice xpo xpl xpcp] 30))) := (Below.refl _ _).alloc (Nat.le_refl _) _
 have HW0 : Hid ((w.alloc (.cells #[.int .i64 xa, .int .i64 xb, .int .i64 xd, .slice xdo xdl xdc, .slice xao xal.length xac, .slice xpo xpl xpcp] 30)).heap[w.heap.size]? = some (.cells #[.int .i64 xa, .int .i64 xb, .int .i64 xd, .slice xdo xdl xdc, .slice xao xal.length xac, .slice xpo xpl xpcp] 30 (0, 0))) := heap_alloc_new w _
 go_enter Tryz.func15, Tryz.ntmps15
 go_wp2_with fail
 refine (HCP.out _).mono ?_
 rintro e w1 ⟨hb1, o, m, k, rfl, hne, heq⟩
 have HB1 : Hid (Below w.heap.size w w1) := HB0.out.trans (hb1.mono HB0.out.size)
 have hW1 := (hb1.block _ (lt_of_block HW0.out)).trans HW0.out
 have HNE : Hid (E ≠ 0 -> o = none /\ m = 0 /\ k = 0) := hne
 have HEQ : Hid (E = 0 -> m = X.length /\ w1.ownsRow (w.heap.size + 1) 5 1 (.slice o m k) X.length (X.map (Value.int .u8))) := by
   have h9 : (w.alloc (.cells #[.int .i64 xa, .int .i64 xb, .int .i64 xd, .slice xdo xdl xdc, .slice xao xal.length xac, .slice xpo xpl xpcp] 30)).heap.size = w.heap.size + 1 := by simp
   rw [h9] at heq; exact heq
 obtain ⟨q0, q1, q2, q3, q4, q5⟩ := ld6 hW1 rfl
 clear hb1 hne heq hW1
 have hnil := fun wz => nil_eql 48 5 Tryz.underlying48 wz
 have hnil2 := fun wz => nil_eql 25 3 Tryz.underlying25 wz
 cases F with
 | false =>
   have hE : (E == 0) = false := HF.out.symm
   have hE' : (E != 0) = true := by simp [bne, hE]
   obtain ⟨rfl, rfl, rfl⟩ := HNE.out (by simpa using hE)
   go_wp2_with fail
   go_ret
   exact ⟨rfl, HB1.out⟩
 | true =>
   have hE0 : E = 0 := by have := HF.out; simpa using this.symm
   subst hE0
   obtain ⟨hm, hrow⟩ := HEQ.out rfl
   subst hm
   obtain ⟨_, _, _, hl2⟩ := HLN.out rfl
   obtain ⟨cg, hcs⟩ := cs_of_row hrow HBY.out
   have HCS : Hid (CS w1 w1.heap.size o cg 0 X) := hcs
   have hr : WD.right ⟨xa, xb, xd, xdo, xdb, xdoff, xdl, xdc, xDn, xao, xab, xaoff, xac, xal, xpo, xpb, xpoff, xpl, xpcp, xV, xL, xR⟩ = false := by
     rcases HRT.out with h | h
     · cases h
     · exact h
   have hru := HRU.out (X.length : Int) hr
   have HCALL := HRUN.out w1 o cg 0 k (X.length : Int) hl2 (by omega) (HX.out.below HB1.out) HCS.out
   rw [hru] at HCALL
   clear hrow hcs hr hru
   go_wp2_with fail
   refine HCALL.mono ?_
   rintro e w2 ⟨hb2, o2, m2, k2, rfl, hne2, _⟩
   obtain ⟨rfl, rfl, rfl⟩ := hne2 (by decide)
   have HB2 : Hid (Below w.heap.size w w2) := HB1.out.trans (hb2.mono HB1.out.size)
   have HB3 : Hid (Below w.heap.size w (w2.alloc (.cells #[.slice none 0 0, .int .i64 0, .int .i64 0] 35))) := HB2.out.alloc HB2.out.size _
   clear hb2 hne2
   simp only
   go_wp2_with fail
   go_ret
   exact ⟨rfl, HB3.out⟩
end Go.Proofs.YtegknlhadjhbdaaGreat
namespace Go.Proofs.YtegknlhadjhbdaaGreat
open Go.RowKit
def AnTo (w : World) (sv : List Int) (t c : Int) (r : Ending) (w' : World) : Prop := Below w.heap.size w w' /\ ∃ o k, r = .returned (.tuple #[.agg #[.slice o sv.length k, .int .i64 t, .int .i64 c], .bool true]) /\ w'.ownsRow w.heap.size 3 1 (.slice o sv.length k) sv.length (sv.map (Value.int .i64))
attribute [local go_sem ↓] Go.wp_at_zero Go.wp_at_succ
set_option maxHeartbeats 1600000 in
theorem answer_ok (s : ByteArray) (x : WD) (sv : List Int) (t c : Int) (w : World) (hx : x.In w) (hE : cpE s = 0) (hR : x.ru (cpX s) (cpX s).length = (0, sv, t, c)) (t0 : 1 <= t) (t1 : t <= 86400) (c0 : 0 <= c) (c1 : c <= 32) :
   Calls Tryz.prog 16 #[.string s, x.val] w (AnTo w sv t c) := by
 have HX : Hid (x.In w) := hx
 have HLN : Hid ((cpX s).length <= 7000) := (cp_len hE).2.2.2
 have HBY : Hid (∀ y ∈ cpX s, 0 <= y /\ y < 256) := byt_enc _ _
 have HCP : Hid (∀ wz, Calls Tryz.prog 25 #[.string s] wz (CpTo wz 0 (cpX s))) := fun wz => by have := Compile_any s wz; rw [hE] at this; exact this
 have HRUN : Hid (∀ (wz : World) (o : Option Addr) (cb coff k : Nat), x.In wz -> CS wz wz.heap.size o cb coff (cpX s) -> Calls Tryz.prog 26 #[.slice o (cpX s).length k, x.val, .int .i64 (cpX s).length] wz (RuTo wz (0, sv, t, c))) := fun wz o cb coff k h3 h4 => by
   have := Run_any x o cb coff k (cpX s) (cpX s).length wz (by have := HLN.out; omega) (by have := HLN.out; omega) h3 h4
   rw [hR] at this; exact this
 clear hx hR hE
 obtain ⟨X, HXX⟩ : ∃ X, Hid (cpX s = X) := ⟨_, rfl⟩
 rw [HXX.out] at HLN HBY HCP HRUN
 unfold WD.val at HRUN ⊢
 obtain ⟨xa, xb, xd, xdo, xdb, xdoff, xdl, xdc, xDn, xao, xab, xaoff, xac, xal, xpo, xpb, xpoff, xpl, xpcp, xV, xL, xR⟩ := x
 simp only at HRUN ⊢
 have HB0 : Hid (Below w.heap.size w ((w.alloc (.cells #[.int .i64 xa, .int .i64 xb, .int .i64 xd, .slice xdo xdl xdc, .slice xao xal.length xac, .slice xpo xpl xpcp] 30)).alloc (.cells #[.slice none 0 0, .int .i64 0, .int .i64 0] 35))) := ((Below.refl _ _).alloc (Nat.le_refl _) _).alloc (by simp) _
 have HW0 : Hid (((w.alloc (.cells #[.int .i64 xa, .int .i64 xb, .int .i64 xd, .slice xdo xdl xdc, .slice xao xal.length xac, .slice xpo xpl xpcp] 30)).alloc (.cells #[.slice none 0 0, .int .i64 0, .int .i64 0] 35)).heap[w.heap.size]? = some (.cells #[.int .i64 xa, .int .i64 xb, .int .i64 xd, .slice xdo xdl xdc, .slice xao xal.length xac, .slice xpo xpl xpcp] 30 (0, 0))) := by show _ = _; rw [Below.heap_alloc _ _ _ (by simp)]; exact heap_alloc_new w _
 have HR0 : Hid (((w.alloc (.cells #[.int .i64 xa, .int .i64 xb, .int .i64 xd, .slice xdo xdl xdc, .slice xao xal.length xac, .slice xpo xpl xpcp] 30)).alloc (.cells #[.slice none 0 0, .int .i64 0, .int .i64 0] 35)).heap[w.heap.size + 1]? = some (.cells #[.slice none 0 0, .int .i64 0, .int .i64 0] 35 (0, 0))) := heap_alloc_at _ (by simp)
 go_enter Tryz.func16, Tryz.ntmps16
 go_wp2_with fail
 refine (HCP.out _).mono ?_
 rintro e w1 ⟨hb1, o, m, k, rfl, _, heq⟩
 obtain ⟨hm, hrow⟩ := heq rfl
 subst hm
 have HB1 : Hid (Below w.heap.size w w1) := HB0.out.trans (hb1.mono HB0.out.size)
 have hW1 := (hb1.block _ (lt_of_block HW0.out)).trans HW0.out
 have HR1 : Hid (w1.heap[w.heap.size + 1]? = some (.cells #[.slice none 0 0, .int .i64 0, .int .i64 0] 35 (0, 0))) := (hb1.block _ (lt_of_block HR0.out)).trans HR0.out
 obtain ⟨cg, hcs⟩ := cs_of_row hrow HBY.out
 have HCALL := HRUN.out w1 o cg 0 k (HX.out.below HB1.out) hcs
 obtain ⟨q0, q1, q2, q3, q4, q5⟩ := ld6 hW1 rfl
 have hxl : (X.length : Int) <= 32000 := by have := HLN.out; omega
 have hxd : decide ((32000 : Int) < (X.length : Int)) = false := decide_eq_false (by omega)
 clear hb1 heq hW1 hrow hcs
 go_wp2_with fail
 refine HCALL.mono ?_
 rintro e w2 ⟨hb2, o2, m2, k2, rfl, _, heq2⟩
 obtain ⟨hm2, hrow2⟩ := heq2 rfl
 simp only at hm2 hrow2
 subst hm2
 have HB2 : Hid (Below w.heap.size w w2) := HB1.out.trans (hb2.mono HB1.out.size)
 have HR2 : Hid (w2.heap[w.heap.size + 1]? = some (.cells #[.slice none 0 0, .int .i64 0, .int .i64 0] 35 (0, 0))) := (hb2.block _ (lt_of_block HR1.out)).trans HR1.out
 have HROW : Hid (w2.ownsRow w.heap.size 3 1 (.slice o2 sv.length k2) sv.length (sv.map (Value.int .i64))) := owns_mono hrow2 HB1.out.size
 have hlt2 : w.heap.size + 1 < w2.heap.size := lt_of_block HR2.out
 have HA3 : Hid ((w2.alloc (.cells #[.slice o2 sv.length k2, .int .i64 t, .int .i64 c] 35)).heap[w2.heap.size]? = some (.cells #[.slice o2 sv.length k2, .int .i64 t, .int .i64 c] 35 (0, 0))) := heap_alloc_new _ _
 have HR3 : Hid ((w2.alloc (.cells #[.slice o2 sv.length k2, .int .i64 t, .int .i64 c] 35)).heap[w.heap.size + 1]? = some (.cells #[.slice none 0 0, .int .i64 0, .int .i64 0] 35 (0, 0))) := by show _ = _; rw [Below.heap_alloc _ _ _ hlt2]; exact HR2.out
 have HB3 : Hid (Below w.heap.size w (w2.alloc (.cells #[.slice o2 sv.length k2, .int .i64 t, .int .i64 c] 35))) := HB2.out.alloc HB2.out.size _
 have HROW3 : Hid ((w2.alloc (.cells #[.slice o2 sv.length k2, .int .i64 t, .int .i64 c] 35)).ownsRow w.heap.size 3 1 (.slice o2 sv.length k2) sv.length (sv.map (Value.int .i64))) := HROW.out.alloc _
 clear hb2 heq2 hrow2
 simp only
 go_wp2_with fail
 generalize w2.alloc (.cells #[.slice o2 sv.length k2, .int .i64 t, .int .i64 c] 35) = w3 at *
 obtain ⟨a0, a1, a2, -⟩ := ld3 HA3.out
 obtain ⟨y0, y1, y2, -⟩ := ld3 HR3.out
 have z0 : w3.frozen? ⟨w.heap.size + 1, 0, none⟩ = false := by simp [World.frozen?, HR3.out]
 have z1 : w3.frozen? ⟨w.heap.size + 1, 1, none⟩ = false := by simp [World.frozen?, HR3.out]
 have z2 : w3.frozen? ⟨w.heap.size + 1, 2, none⟩ = false := by simp [World.frozen?, HR3.out]
 have hne : w2.heap.size ≠ w.heap.size + 1 := by omega
 clear q0 q1 q2 q3 q4 q5 hxl hxd HCALL
 go_region
 all_goals
   go_wp2_with fail
   have HBE := blk3_store (x' := .slice o2 sv.length k2) (y' := .int .i64 t) (z' := .int .i64 c) (w := w3) HR3.out
   refine bodyPost_ret (v := .tuple #[.agg #[.slice o2 sv.length k2, .int .i64 t, .int .i64 c], .bool true]) ?_ rfl ⟨(((HB3.out.setCell (by simp only; omega) _).setCell (by simp only; omega) _).setCell (by simp only; omega) _).drew, o2, k2, rfl, ?_⟩
   · rw [results_cell_tmp Tryz.results16]
     have h5 : ∀ we : World, (asAddr (.pointer (some ⟨w.heap.size + 1, 0, none⟩))).run Tryz.prog we = .ok ⟨w.heap.size + 1, 0, none⟩ we := fun _ => rfl
     have h6 := run_loadVar_row (P := Tryz.prog) (((w3.setCell ⟨w.heap.size + 1, 0, none⟩ (.slice o2 sv.length k2)).setCell ⟨w.heap.size + 1, 1, none⟩ (.int .i64 t)).setCell ⟨w.heap.size + 1, 2, none⟩ (.int .i64 c)).drew (w.heap.size + 1) 35 35 #[.slice o2 sv.length k2, .int .i64 t, .int .i64 c] (0, 0) _ HBE Tryz.underlying35 rfl (by kernel_rfl)
     show ((asAddr (.pointer (some ⟨w.heap.size + 1, 0, none⟩))).run Tryz.prog _).andThen _ = _
     rw [h5, Result.andThen_ok, h6, Result.andThen_ok]
     rfl
   · have hne : (Value.slice o2 sv.length k2).ownBlock ≠ some (w.heap.size + 1) := owns_ne HROW3.out HR3.out (by decide)
     refine owns_of_block HROW3.out (fun g hg => ?_)
     have hgn : g ≠ w.heap.size + 1 := fun e => hne (by rw [<- e]; exact hg)
     show (((w3.setCell ⟨w.heap.size + 1, 0, none⟩ (.slice o2 sv.length k2)).setCell ⟨w.heap.size + 1, 1, none⟩ (.int .i64 t)).setCell ⟨w.heap.size + 1, 2, none⟩ (.int .i64 c)).heap[g]? = _
     rw [heap_set_ne hgn, heap_set_ne hgn, heap_set_ne hgn]
end Go.Proofs.YtegknlhadjhbdaaGreat
namespace Go.Proofs.YtegknlhadjhbdaaGreat
namespace M
end M
end Go.Proofs.YtegknlhadjhbdaaGreat
namespace Go.Proofs.YtegknlhadjhbdaaGreat
open Go.RowKit
def pkF (c n : Int) : Int := if c < 0 then (-(c + 1)) % n else c % n
theorem pkF_bd {c n : Int} (h : 0 < n) : 0 <= pkF c n /\ pkF c n < n := by
 unfold pkF
 split
 · exact ⟨Int.emod_nonneg _ (by omega), Int.emod_lt_of_pos _ h⟩
 · exact ⟨Int.emod_nonneg _ (by omega), Int.emod_lt_of_pos _ h⟩
set_option maxHeartbeats 400000 in
theorem pick_keep (c n : Int) (w : World) (c0 : -9223372036854775808 <= c) (c1 : c <= 9223372036854775807) (n0 : 0 < n) (n1 : n <= 9223372036854775807) :
   Calls Tryz.prog 27 #[.int .i64 c, .int .i64 n] w fun e w' => e = .returned (.int .i64 (pkF c n)) /\ w' = w := by
 have hn : ¬ n = 0 := by omega
 by_cases h : c < 0
 · have HP : Hid (pkF c n = (-(c + 1)) % n) := by show _ = _; unfold pkF; rw [if_pos h]
   have hm : 0 <= (-(c + 1)) % n /\ (-(c + 1)) % n < n := ⟨Int.emod_nonneg _ (by omega), Int.emod_lt_of_pos _ (by omega)⟩
   have he : -(c + 1).tmod n = (-(c + 1)) % n := by rw [<- Int.neg_tmod, Int.tmod_eq_emod_of_nonneg (by omega)]
   rw [<- he] at HP hm
   have HE : Hid (0 <= -(c + 1).tmod n /\ -(c + 1).tmod n < n) := hm
   clear he hm
   go_enter Tryz.func27, Tryz.ntmps27
   go_wp2
   go_ret
   exact ⟨ret_int (by rw [HP.out]), rfl⟩
 · have HP : Hid (pkF c n = c % n) := by show _ = _; unfold pkF; rw [if_neg h]
   have hm : 0 <= c % n /\ c % n < n := ⟨Int.emod_nonneg _ (by omega), Int.emod_lt_of_pos _ (by omega)⟩
   have HE : Hid (0 <= c % n /\ c % n < n) := hm
   clear hm
   go_enter Tryz.func27, Tryz.ntmps27
   go_wp2
   go_ret
   exact ⟨ret_int (by rw [HP.out]), rfl⟩
end Go.Proofs.YtegknlhadjhbdaaGreat
namespace Go.Proofs.YtegknlhadjhbdaaGreat
open Go.RowKit
def WD.mn (x : WD) (s : ByteArray) : MN := mnN x.rw (cAll s).es (cAll s).es.length
def WD.an (x : WD) (s : ByteArray) : List Int × Int × Int := ((x.mn s).sv, least (x.mn s).ttl 86400, nar (x.mn s).sc 0)
theorem right_parts {x : WD} (h : x.right = true) : M.isA x.a = true /\ 0 <= x.b /\ x.b <= 32 /\ 0 <= x.d /\ x.d < 4294967296 /\ plcB x.V x.L x.R x.pl = true := by
 have h1 : askB x.a x.b x.d = true /\ plcB x.V x.L x.R x.pl = true := by simpa [WD.right, rightB] using h
 have h2 : M.isA x.a = true /\ 0 <= x.b /\ x.b <= 32 /\ 0 <= x.d /\ x.d < 4294967296 := by simpa [askB] using h1.1
 exact ⟨h2.1, h2.2.1, h2.2.2.1, h2.2.2.2.1, h2.2.2.2.2, h1.2⟩
theorem plc_isP {V L R : Nat -> Int} {n : Nat} (h : plcB V L R n = true) : ∀ i, i < n -> M.isP (V i) (L i) = true := fun i hi => by
 obtain ⟨_, _, hm⟩ := plcB_le h
 have : n <= 64 /\ M.okTo V L n = true := by simpa [M.isMap] using hm
 exact (M.okTo_iff.1 this.2 i hi).1
theorem dep_bd {x : WD} (h : x.right = true) : 0 <= x.rw.dep /\ x.rw.dep <= 32 := by
 obtain ⟨_, _, _, _, _, hp⟩ := right_parts h
 exact ⟨M.depTo_pos, M.depTo_le (fun i hi => (M.isP_iff.1 (plc_isP hp i hi)).2.1)⟩
theorem fit_cp {s : ByteArray} (h : fitB s = true) : cpE s = 0 := by simpa [fitB] using h
theorem ru_steps {x : WD} {s : ByteArray} (hf : fitB s = true) (hr : x.right = true) : ∃ k : Nat, 1 <= k /\ k <= (cpX s).length /\ (∀ f : Int, 0 <= f -> f < k -> x.ru (cpX s) f = (11, [], 0, 0)) /\ (∀ f : Int, (k : Int) <= f -> x.ru (cpX s) f = (0, x.an s)) := by
 obtain ⟨h1, h2, _, _⟩ := cp_len (fit_cp hf)
 obtain ⟨k, hk, r1, r2, r3⟩ := run_ok (W := x.rw) h1 h2
 have e : ∀ f : Int, 0 <= f -> x.ru (cpX s) f = runF x.rw (cpX s) f.toNat rt0 := fun f h0 => by
   unfold WD.ru ruF
   rw [if_neg (by omega), if_pos (show rightB x.a x.b x.d x.V x.L x.R x.pl = true from hr)]; rfl
 refine ⟨k, r1, hk, fun f h0 hfk => ?_, fun f hfk => ?_⟩
 · rw [e f h0]; exact r2 f.toNat (by omega)
 · rw [e f (by omega)]; exact r3 f.toNat (by omega)
theorem an_bd {x : WD} {s : ByteArray} (hf : fitB s = true) (hr : x.right = true) : 1 <= (x.an s).2.1 /\ (x.an s).2.1 <= 86400 /\ 0 <= (x.an s).2.2 /\ (x.an s).2.2 <= 32 /\ (x.an s).2.1 = (x.mn s).ttl /\ (x.an s).2.2 = (x.mn s).sc := by
 obtain ⟨h1, _, _, _⟩ := cp_len (fit_cp hf)
 obtain ⟨hp, hg⟩ := good_ok h1
 obtain ⟨d0, d1⟩ := dep_bd hr
 have hb := mn_bd d0 d1 hg
 rw [Nat.sub_add_cancel hp] at hb
 have hb2 : 1 <= (x.mn s).ttl /\ (x.mn s).ttl <= 86400 /\ 0 <= (x.mn s).sc /\ (x.mn s).sc <= 32 := hb
 unfold WD.an least nar
 simp only
 refine ⟨?_, ?_, ?_, ?_, ?_, ?_⟩
 all_goals (split <;> omega)
theorem ru_len {x : WD} {s : ByteArray} (hf : fitB s = true) (hr : x.right = true) : x.ru (cpX s) (cpX s).length = (0, x.an s) := by
 obtain ⟨k, _, hk, _, h⟩ := ru_steps hf hr
 exact h _ (by omega)
end Go.Proofs.YtegknlhadjhbdaaGreat
namespace Go.Proofs.YtegknlhadjhbdaaGreat
open Go.ChangeShapes Go.WideShapes Go.ChangeAt Go.RowKit
theorem bytesInt : Tryz.prog.bytesOf 3 = 8 := by kernel_rfl
theorem bytesInts : Tryz.prog.bytesOf 25 = 24 := by kernel_rfl
section
variable {H : Type} {enc : TypeId × Value -> H} {w : World} {base : Nat} {spare : Nat -> Bool} {held : Bool}
theorem open_ints {fuel : Nat} {cs : List Value} {x : DataW H × List MemPlace} (h : DataW.trod enc Tryz.prog w base spare held fuel 25 cs = some x) :
   ∃ o len cap b off D, cs = [.slice o len cap] /\ IS w o b off len D /\ ((∀ k ∈ x.1.weights Tryz.prog 25, k <= reachBytes) -> len * 8 <= 140737488351232) := by
 rcases Deep.open_slice1 Tryz.underlying25 cellsInt h with ⟨hcs, _⟩ | ⟨a, l, c, m, n, V, D, Pl, hcs, _, hl, _, hmm, hx, hel⟩
 · exact ⟨none, 0, 0, 0, 0, fun _ => 0, hcs, ⟨fun h => by omega, fun h => by omega, fun i hi => by omega⟩, fun _ => by omega⟩
 · have hlm : l <= m := by rw [hmm]; split <;> omega
   obtain ⟨F, hF⟩ := Deep.choose_lt (α := Int) (n := l) (p := fun i y => w.cell? (a.add i) = some (.int .i64 y)) (fun i hi => by
     obtain ⟨h1, h2⟩ := hel i (by omega)
     obtain ⟨y, ey, _, _⟩ := DataW.trod_int Tryz.underlying3 h2
     simp at ey
     exact ⟨y, by rw [h1, ey]⟩)
   obtain ⟨b, off, spot⟩ := a
   refine ⟨some ⟨b, off, spot⟩, l, c, b, off, F, hcs, ?_, fun hw => ?_⟩
   · by_cases hl0 : l = 0
     · subst hl0
       exact ⟨fun h => by omega, fun h => by omega, fun i hi => by omega⟩
     · have hc0 := hF 0 (by omega)
       have hspot : spot = none := by simpa [Addr.add] using World.cell?_spot hc0
       subst hspot
       have hlt : b < w.heap.size := by
         have := hc0
         simp [Addr.add] at this
         exact lt_of_cell' this
       refine ⟨fun _ => rfl, fun _ => hlt, fun i hi => ?_⟩
       have := hF i hi
       rw [add_plain] at this
       exact this
   · have hmem : (l + (m - l)) * 8 ∈ x.1.weights Tryz.prog 25 := by
       rw [hx]
       simp only [DataW.weights, Tryz.underlying25, bytesInt]
       simp
     have := hw _ hmem
     simp only [reachBytes] at this
     omega
theorem open_intss {fuel : Nat} {cs : List Value} {x : DataW H × List MemPlace} (h : DataW.trod enc Tryz.prog w base spare held fuel 27 cs = some x) :
   ∃ o cap ab aoff al, cs = [.slice o al.length cap] /\ ((∀ k ∈ x.1.weights Tryz.prog 27, k <= reachBytes) -> AS w w.heap.size o ab aoff al /\ al.length * 24 <= 140737488351232) := by
 rcases Deep.open_slice1 Tryz.underlying27 cellsInts h with ⟨hcs, _⟩ | ⟨a, l, c, m, n, V, D, Pl, hcs, _, hl, _, hmm, hx, hel⟩
 · exact ⟨none, 0, 0, 0, [], hcs, fun _ => ⟨⟨fun h => by simp at h, fun h => by simp at h, fun k l hl => by simp at hl, fun l hl => by simp at hl⟩, by simp⟩⟩
 · have hlm : l <= m := by rw [hmm]; split <;> omega
   obtain ⟨F, hF⟩ := Deep.choose_lt (α := Option Addr × Nat × Nat × Nat × Nat × (Nat -> Int)) (n := l) (p := fun i y => w.cell? (a.add i) = some (.slice y.1 y.2.1 y.2.2.1) /\ IS w y.1 y.2.2.2.1 y.2.2.2.2.1 y.2.1 y.2.2.2.2.2 /\ ((∀ k ∈ (D i).weights Tryz.prog 25, k <= reachBytes) -> y.2.1 * 8 <= 140737488351232)) (fun i hi => by
     obtain ⟨h1, h2⟩ := hel i (by omega)
     obtain ⟨o, len, cap, b, off, Dn, e1, hi1, hw1⟩ := open_ints h2
     simp at e1
     exact ⟨(o, len, cap, b, off, Dn), by rw [h1, e1], hi1, hw1⟩)
   obtain ⟨b, off, spot⟩ := a
   refine ⟨some ⟨b, off, spot⟩, c, b, off, (List.range l).map (fun i => (List.range (F i).2.1).map (F i).2.2.2.2.2), by simpa using hcs, fun hw => ?_⟩
   have hwl : l * 24 <= 140737488351232 := by
     have hmem : (l + (m - l)) * 24 ∈ x.1.weights Tryz.prog 27 := by
       rw [hx]
       simp only [DataW.weights, Tryz.underlying27, bytesInts]
       simp
     have := hw _ hmem
     simp only [reachBytes] at this
     omega
   have hwi : ∀ i, i < l -> (F i).2.1 * 8 <= 140737488351232 := fun i hi => (hF i hi).2.2 (fun k hk => hw k (by
     rw [hx]
     simp only [DataW.weights, Tryz.underlying27]
     refine List.mem_cons_of_mem _ (List.mem_append_left _ (weightsAll_mem (d := D i) ?_ hk))
     exact List.mem_map.2 ⟨i, List.mem_range.2 hi, rfl⟩))
   have hat : ∀ (k : Nat) (q : List Int), ((List.range l).map (fun i => (List.range (F i).2.1).map (F i).2.2.2.2.2))[k]? = some q -> k < l /\ q = (List.range (F k).2.1).map (F k).2.2.2.2.2 := fun k q hq => by
     rw [List.getElem?_map] at hq
     by_cases hk : k < l
     · rw [List.getElem?_range hk] at hq
       simp only [Option.map_some, Option.some.injEq] at hq
       exact ⟨hk, hq.symm⟩
     · rw [List.getElem?_eq_none (by simp; omega)] at hq
       cases hq
   refine ⟨?_, by simpa using hwl⟩
   by_cases hl0 : l = 0
   · subst hl0
     exact ⟨fun h => by simp at h, fun h => by simp at h, fun k q hq => by simp at hq, fun q hq => by simp at hq⟩
   · have hc0 := (hF 0 (by omega)).1
     have hspot : spot = none := by simpa [Addr.add] using World.cell?_spot hc0
     subst hspot
     have hlt : b < w.heap.size := by
       have := hc0
       simp [Addr.add] at this
       exact lt_of_cell' this
     refine ⟨fun _ => rfl, fun _ => hlt, fun k q hq => ?_, fun q hq => ?_⟩
     · obtain ⟨hk, rfl⟩ := hat k q hq
       obtain ⟨h1, h2, _⟩ := hF k hk
       rw [add_plain] at h1
       refine ⟨(F k).1, (F k).2.2.1, by rw [h1]; simp, fun h0 => ?_⟩
       simp only [List.length_map, List.length_range] at h0
       refine ⟨(F k).2.2.2.1, (F k).2.2.2.2.1, h2.at_ h0, h2.lt h0, fun i y hy => ?_⟩
       rw [List.getElem?_map] at hy
       by_cases hi : i < (F k).2.1
       · rw [List.getElem?_range hi] at hy
         simp only [Option.map_some, Option.some.injEq] at hy
         subst hy
         exact h2.val i hi
       · rw [List.getElem?_eq_none (by simp; omega)] at hy
         cases hy
     · obtain ⟨k, hk⟩ := List.getElem?_of_mem hq
       obtain ⟨hkl, rfl⟩ := hat k q hk
       have := hwi k hkl
       simp only [List.length_map, List.length_range]
       omega
theorem open_wd {n : Nat} {cs : List Value} {x : DataW H × List MemPlace} (h : DataW.trod enc Tryz.prog w base spare held n 30 cs = some x) (hw : ∀ k ∈ x.1.weights Tryz.prog 30, k <= reachBytes) :
   ∃ y : WD, cs = [.int .i64 y.a, .int .i64 y.b, .int .i64 y.d, .slice y.do_ y.dl y.dc, .slice y.ao y.al.length y.ac, .slice y.po y.pl y.pcp] /\ y.In w /\ y.pl * 24 <= 140737488351232 := by
 obtain ⟨xs, m, _, rfl, hlen, hxs, hf⟩ := DataW.trod_struct Tryz.underlying30 h
 rw [cellsWorld] at hlen
 match cs, hlen, xs, hxs with
 | [c0, c1, c2, c3, c4, c5], _, [x0, x1, x2, x3, x4, x5], _ =>
   have f0 := hf 0 _ rfl
   have f1 := hf 1 _ rfl
   have f2 := hf 2 _ rfl
   have f3 := hf 3 _ rfl
   have f4 := hf 4 _ rfl
   have f5 := hf 5 _ rfl
   obtain ⟨a, ea, _, _⟩ := DataW.trod_int Tryz.underlying3 f0
   obtain ⟨bi, eb, _, _⟩ := DataW.trod_int Tryz.underlying3 f1
   obtain ⟨dr, ec, _, _⟩ := DataW.trod_int Tryz.underlying3 f2
   obtain ⟨do_, dl, dc, db, doff, Dn, e3, hdn, hdw⟩ := open_ints f3
   obtain ⟨ao, ac, ab, aoff, al, e4, haw⟩ := open_intss f4
   obtain ⟨po, len, cap, b, off, V, L, R, e5, hpt, hd⟩ := open_places f5
   simp [cellsInt, cellsInts, cellsIntss, cellsPlaces] at ea eb ec e3 e4 e5
   have hall : ∀ k, k ∈ x3.1.weights Tryz.prog 25 \/ k ∈ x4.1.weights Tryz.prog 27 \/ k ∈ x5.1.weights Tryz.prog 28 -> k <= reachBytes := fun k hk => hw k (by
     simp only [DataW.weights, Tryz.underlying30, DataW.weightsEach, List.map_cons, List.map_nil, List.mem_append]
     rcases hk with hk | hk | hk
     · right; right; right; left; exact hk
     · right; right; right; right; left; exact hk
     · right; right; right; right; right; left; exact hk)
   have h3 := hdw (fun k hk => hall k (.inl hk))
   obtain ⟨h4, h5⟩ := haw (fun k hk => hall k (.inr (.inl hk)))
   have h6 : len * 24 <= 140737488351232 := by
     rcases hd with ⟨_, rfl⟩ | ⟨el, sp, he, hl⟩
     · omega
     · have hmem : (el.length + sp.length) * 24 ∈ x5.1.weights Tryz.prog 28 := by
         simp only [DataW.weights, he, Tryz.underlying28, bytesPlace]
         simp
       have := hall _ (.inr (.inr hmem))
       simp only [reachBytes] at this
       omega
   have hts : TS w po b off len V L R := by
     rcases hpt with ⟨h1, h2, h3⟩ | ⟨ad, h1, h2⟩
     · subst h2
       exact ⟨fun h => by omega, fun h => by omega, fun i hi => by omega, fun i hi => by omega, fun i hi => by omega⟩
     · rw [h1]; exact h2
   refine ⟨⟨a, bi, dr, do_, db, doff, dl, dc, Dn, ao, ab, aoff, ac, al, po, b, off, len, cap, V, L, R⟩, by rw [ea, eb, ec, e3, e4, e5], ⟨hts, hdn, h4, by simp only; omega, by simp only; omega⟩, h6⟩
end
end Go.Proofs.YtegknlhadjhbdaaGreat
