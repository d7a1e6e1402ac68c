/-
  OUR OWN: a step that is a Compile.
  OUR OWN: a step that is a Compile, walked.
  OUR OWN: the script, with a state that grows step by step; Compiles' walk.
-/
import Derived.Test.YtaebngpoagjafaaGreatQ31
import Derived.Laws.Cover3
namespace Go.Proofs.YtaebngpoagjafaaGreat
open Go.RowKit

theorem Tryz.infoBs : (Tryz.prog.info? 48).map (fun i => (i.zero, i.size, i.bytes)) = some (some (.slice none 0 0), 1, 24) := by kernel_rfl
theorem Tryz.infoCode : (Tryz.prog.info? 127).map (fun i => (i.zero, i.size, i.bytes)) = some (some (.agg #[.string ByteArray.empty, .string ByteArray.empty]), 2, 32) := by kernel_rfl
theorem MkL.ne {w : World} {t : TypeId} {m v : Value} (h : MkL w t m v) {w' : World} (hk : ∀ (g : Nat) (cur : Array Value), w.heap[g]? = some (.cells cur t (0, 0)) → w'.heap[g]? = w.heap[g]?) : MkL w' t m v := h.of_kept hk
/-- One list of bytes more. -/
theorem ST.pushB {w w4 : World} {base SB n wv cv sv iv bv cs is bs} {nv v : Value} (h : ST w base SB n wv cv sv iv bv cs is bs) (hg : w.grownBy w4 bv.ownBlock) (hown : w4.ownsRow base 48 1 nv (bs.length + 1) (bs ++ [v])) (hm : MkL w 5 (.int .u8 (200 + (bs.length : Int) % 50)) v) (hn : bs.length + 1 ≤ n) :
    ST (w4.setCell ⟨SB, 4, none⟩ nv) base SB n wv cv sv iv nv cs is (bs ++ [v]) := by
  have hne : bv.ownBlock ≠ some SB := owns_ne h.br h.blk (by decide)
  have hb4 := (hg.block SB h.lt (fun e => hne e.symm)).trans h.blk
  have hkI : ∀ (g : Nat) (cur : Array Value), w.heap[g]? = some (.cells cur 3 (0, 0)) → (w4.setCell ⟨SB, 4, none⟩ nv).heap[g]? = w.heap[g]? := fun g cur hc => by
    rw [heap_set_ne (fun e => by subst e; rw [h.blk] at hc; cases hc)]
    exact hg.block g (lt_of_block hc) (fun e => owns_ne h.br hc (by decide) e.symm)
  have hkB : ∀ (g : Nat) (cur : Array Value), w.heap[g]? = some (.cells cur 5 (0, 0)) → (w4.setCell ⟨SB, 4, none⟩ nv).heap[g]? = w.heap[g]? := fun g cur hc => by
    rw [heap_set_ne (fun e => by subst e; rw [h.blk] at hc; cases hc)]
    exact hg.block g (lt_of_block hc) (fun e => owns_ne h.br hc (by decide) e.symm)
  have hc4 := h.cr.kept hg (owns_ne2 h.cr h.br (by decide))
  have hi4 := h.ir.kept hg (owns_ne2 h.ir h.br (by decide))
  refine ⟨?_, ownsRow_setCell_other hc4 (owns_ne hc4 hb4 (by decide)) _, ownsRow_setCell_other hi4 (owns_ne hi4 hb4 (by decide)) _, ?_, h.ok, fun i v' hv => (h.im i v' hv).of_kept hkI, fun i v' hv => ?_, h.hB, h.nc, h.ni, by simp; exact hn⟩
  · rw [blk5_set hb4]; rfl
  · rw [List.length_append]; exact ownsRow_setCell_other hown (owns_ne hown hb4 (by decide)) _
  · by_cases hi : i < bs.length
    · rw [List.getElem?_append_left hi] at hv
      exact (h.bm i v' hv).of_kept hkB
    · rw [List.getElem?_append_right (by omega)] at hv
      have hi2 : i = bs.length := by
        have := (List.getElem?_eq_some_iff.1 hv).1
        simp at this; omega
      subst hi2
      simp at hv
      subst hv
      exact hm.of_kept hkB
/-- One code more. -/
theorem ST.pushC {w w4 : World} {base SB n wv cv sv iv bv cs is bs} {nv : Value} {x : ByteArray × ByteArray} (h : ST w base SB n wv cv sv iv bv cs is bs) (hg : w.grownBy w4 cv.ownBlock) (hown : w4.ownsRow base 127 2 nv (cs.length + 1) (cdC cs ++ [.string x.1, .string x.2])) (hx : cpE x.1 = 0 ∧ x.2 = strOfNums (cpX x.1)) (hn : cs.length + 1 ≤ n) :
    ST (w4.setCell ⟨SB, 1, none⟩ nv) base SB n wv nv sv iv bv (cs ++ [x]) is bs := by
  have hne : cv.ownBlock ≠ some SB := owns_ne h.cr h.blk (by decide)
  have hb4 := (hg.block SB h.lt (fun e => hne e.symm)).trans h.blk
  have hkI : ∀ (g : Nat) (cur : Array Value), w.heap[g]? = some (.cells cur 3 (0, 0)) → (w4.setCell ⟨SB, 1, none⟩ nv).heap[g]? = w.heap[g]? := fun g cur hc => by
    rw [heap_set_ne (fun e => by subst e; rw [h.blk] at hc; cases hc)]
    exact hg.block g (lt_of_block hc) (fun e => owns_ne h.cr hc (by decide) e.symm)
  have hkB : ∀ (g : Nat) (cur : Array Value), w.heap[g]? = some (.cells cur 5 (0, 0)) → (w4.setCell ⟨SB, 1, none⟩ nv).heap[g]? = w.heap[g]? := fun g cur hc => by
    rw [heap_set_ne (fun e => by subst e; rw [h.blk] at hc; cases hc)]
    exact hg.block g (lt_of_block hc) (fun e => owns_ne h.cr hc (by decide) e.symm)
  have hb5 := h.br.kept hg (owns_ne2 h.br h.cr (by decide))
  have hi4 := h.ir.kept hg (owns_ne2 h.ir h.cr (by decide))
  have e1 : cdC (cs ++ [x]) = cdC cs ++ [.string x.1, .string x.2] := by simp [cdC]
  refine ⟨?_, ?_, ownsRow_setCell_other hi4 (owns_ne hi4 hb4 (by decide)) _, ownsRow_setCell_other hb5 (owns_ne hb5 hb4 (by decide)) _, fun y hy => ?_, fun i v' hv => (h.im i v' hv).of_kept hkI, fun i v' hv => (h.bm i v' hv).of_kept hkB, h.hB, by simp; exact hn, h.ni, h.nb⟩
  · rw [blk5_set hb4]; rfl
  · rw [e1, List.length_append]; exact ownsRow_setCell_other hown (owns_ne hown hb4 (by decide)) _
  · rcases List.mem_append.1 hy with hy | hy
    · exact h.ok y hy
    · simp only [List.mem_singleton] at hy; subst hy; exact hx
theorem cp_err {s : ByteArray} : cpE s = if (cSz s).2 = 0 ∧ 1000 < (cSz s).1 then 8 else (cSz s).2 := by
  unfold cpE cSz
  by_cases h : (cChk s).1 = 0
  · simp [h]
  · simp [h]
theorem cp_len {s : ByteArray} (h : cpE s = 0) : (cChk s).1 = 0 ∧ szR (cAll s).es (cAll s).es.length ≤ 1000 ∧ 1 ≤ (cpX s).length ∧ (cpX s).length ≤ 7000 := by
  have h1 : (cChk s).1 = 0 := by
    unfold cpE at h
    split at h
    · assumption
    · exact h
  have h2 : szR (cAll s).es (cAll s).es.length ≤ 1000 := by
    unfold cpE at h
    rw [if_pos h1] at h
    split at h
    · cases h
    · omega
  obtain ⟨hp, hg⟩ := good_ok h1
  have h3 := hg.enc_pos
  rw [Nat.sub_add_cancel hp] at h3
  have h4 := enc_le (cAll s).es (cAll s).es.length h2
  refine ⟨h1, h2, h3, ?_⟩
  unfold cpX
  omega
end Go.Proofs.YtaebngpoagjafaaGreat
namespace Go.Proofs.YtaebngpoagjafaaGreat
open Go.RowKit

theorem nil_eql (t e : TypeId) (h : Tryz.prog.underlying t = some (.slice e)) (w : World) : (binOp .eql t (.slice none 0 0) (.slice none 0 0)).run Tryz.prog w = .ok (.bool true) w := by
  simp only [binOp]
  simp [run_equal_slice_nil w t e none 0 0 h]

attribute [local go_sem ↓] Go.wp_at_zero Go.wp_at_succ
set_option maxRecDepth 100000 in
set_option maxHeartbeats 3200000 in
theorem compiled_any (base SB n : Nat) (wv cv sv iv bv : Value) (cs : List (ByteArray × ByteArray)) (is bs : List Value) (s : ByteArray) (w : World) (hn : (n + 1) * 56 ≤ 140737488355328) (h : ST w base SB n wv cv sv iv bv cs is bs) :
    Calls Tryz.prog 45 #[.pointer (some ⟨SB, 0, none⟩), .string s] w fun e w' => e = .returned (.bool true) ∧ Below base w w' ∧ ∃ cv' bv' cs' bs', ST w' base SB (n + 1) wv cv' sv iv bv' cs' is bs' := by
  obtain ⟨i0, hi0, hz0, hz1, hz2⟩ := info_parts Tryz.infoBs
  obtain ⟨j0, hj0, hy0, hy1, hy2⟩ := info_parts Tryz.infoCode
  have H : Hid (ST w base SB n wv cv sv iv bv cs is bs) := h
  have HBS : Hid (base ≤ w.heap.size) := Nat.le_trans h.hB (Nat.le_of_lt h.lt)
  have HCP : Hid (∀ wz, Calls Tryz.prog 25 #[.string s] wz (CpTo wz (cpE s) (cpX s))) := fun wz => Compile_any s wz
  have hd := fun wz => SizeR_any s wz
  have HER := cp_err (s := s)
  have HLN : Hid (cpE s = 0 → (cChk s).1 = 0 ∧ szR (cAll s).es (cAll s).es.length ≤ 1000 ∧ 1 ≤ (cpX s).length ∧ (cpX s).length ≤ 7000) := cp_len
  obtain ⟨z, hz⟩ : ∃ z, cSz s = z := ⟨_, rfl⟩
  rw [hz] at hd HER
  clear hz h
  obtain ⟨z1, z2⟩ := z
  simp only at HER hd
  have HERR : Hid (cpE s = if z2 = 0 ∧ 1000 < z1 then 8 else z2) := HER
  clear HER
  obtain ⟨E, HE⟩ : ∃ E, Hid (cpE s = E) := ⟨_, rfl⟩
  rw [HE.out] at HCP HERR HLN
  obtain ⟨X, HX⟩ : ∃ X, Hid (cpX s = X) := ⟨_, rfl⟩
  rw [HX.out] at HCP HLN
  go_enter Tryz.func45, Tryz.ntmps45
  go_wp2_with fail
  refine (HCP.out _).mono ?_
  rintro e w1 ⟨hb1, o, m, k, rfl, hne, heq⟩
  have HB1 : Hid (Below w.heap.size w w1) := hb1
  have HNE : Hid (E ≠ 0 → o = none ∧ m = 0 ∧ k = 0) := hne
  have HEQ : Hid (E = 0 → m = X.length ∧ w1.ownsRow w.heap.size 5 1 (.slice o m k) X.length (X.map (Value.int .u8))) := heq
  clear hb1 hne heq
  go_wp2_with fail
  refine (hd _).mono ?_
  rintro e w2 ⟨hb2, rfl⟩
  have HB2 : Hid (Below w.heap.size w w2) := HB1.out.trans (hb2.mono HB1.out.size)
  have HR2 : Hid (E = 0 → m = X.length ∧ w2.ownsRow w.heap.size 5 1 (.slice o m k) X.length (X.map (Value.int .u8))) := fun h => ⟨(HEQ.out h).1, owns_of_block (HEQ.out h).2 (fun g hg => hb2.block g ((HEQ.out h).2.lt g hg).2)⟩
  clear hb2 hd
  by_cases h2 : z2 = 0
  · subst h2
    by_cases h3 : 1000 < z1
    · have h8 : E = 8 := by rw [HERR.out, if_pos ⟨rfl, h3⟩]
      subst h8
      obtain ⟨rfl, rfl, rfl⟩ := HNE.out (by decide)
      have hnil := fun wz => nil_eql 48 5 Tryz.underlying48 wz
      go_wp2_with fail
      go_ret
      exact ⟨rfl, HB2.out.mono HBS.out, cv, bv, cs, bs, (H.out.below HB2.out).mono⟩
    · have h0 : E = 0 := by rw [HERR.out, if_neg (by omega)]
      subst h0
      have h3' : decide (1000 < z1) = false := decide_eq_false h3
      obtain ⟨hm, hrow⟩ := HR2.out rfl
      subst hm
      obtain ⟨_, _, hl1, hl2⟩ := HLN.out rfl
      obtain ⟨g, kk, hgk, hgw, hgl⟩ := hrow.form (by omega)
      obtain ⟨ho, hkk⟩ : o = some ⟨g, 0, none⟩ ∧ k = kk := by cases hgk; exact ⟨rfl, rfl⟩
      subst ho
      clear hkk
      have HROW : Hid (w2.ownsRow w.heap.size 5 1 (.slice (some ⟨g, 0, none⟩) X.length k) X.length (X.map (Value.int .u8))) := hrow
      obtain ⟨cur0, hcur0, hc0s, hk0⟩ : ∃ cur, w2.heap[g]? = some (.cells cur 5 (0, 0)) ∧ cur.size = k ∧ k ≤ 9223372036854775807 := by
        rcases hrow.2 with ⟨h1, _⟩ | ⟨g', cap, cur, h1, _, h4, _, h6, h7, _⟩
        · cases h1
        · cases h1; exact ⟨cur, h4, by omega, h6⟩
      have HC0 : Hid (w2.heap[g]? = some (.cells cur0 5 (0, 0))) := hcur0
      have hxk : X.length ≤ k := by obtain ⟨_, _, h1, h2⟩ := owns_form hrow; cases h1; exact h2
      have hcv := run_convert_bytes_arg (P := Tryz.prog) w2 48 5 Tryz.underlying48 Tryz.underlying5 g 0 X.length k X rfl (fun i hi => by
        have := World.ownsRow.cellAt HROW.out i (by omega)
        rw [Nat.zero_add, this]
        simp [hi]) 9 Tryz.underlying9
      have HKS : Hid ((strOfNums X).size = X.length) := strOfNums_size X
      have HXS : Hid (cpX s = X) := HX
      obtain ⟨kp, hkp⟩ : ∃ kp, strOfNums X = kp := ⟨_, rfl⟩
      have HKP : Hid (strOfNums X = kp) := hkp
      rw [hkp] at hcv
      have hkz : kp.size = X.length := by rw [← hkp]; exact HKS.out
      have HST2 : Hid (ST w2 base SB (n + 1) wv cv sv iv bv cs is bs) := (H.out.below HB2.out).mono
      obtain ⟨bo, bc, hbv, _⟩ := owns_form H.out.br
      subst hbv
      have hnb := H.out.nb
      have hnc := H.out.nc
      have hkc : (k : Int) ≤ (k : Int) := Int.le_refl _
      have hgw2 : w.heap.size ≤ g := (hrow.lt g rfl).1
      clear hrow hgk hcur0 hkp
      go_wp2_with fail
      go_loopg [11] k (fun q y wr => ∃ (i : Nat) (cur : Array Value), q + i = k ∧ y = .int .i64 i ∧ wr.heap[g]? = some (.cells cur 5 (0, 0)) ∧ cur.size = k ∧ (∀ j, j < i → cur[j]? = some (.int .u8 (200 + (bs.length : Int) % 50))) ∧ Below w.heap.size w wr)
      case atStart => exact ⟨0, cur0, by omega, rfl, HC0.out, hc0s, fun j hj => by omega, HB2.out⟩
      case round =>
        obtain ⟨i, cur, hq, rfl, hcu, hcs, hcm, hb⟩ := hrel
        have HCU : Hid (wr.heap[g]? = some (.cells cur 5 (0, 0))) := hcu
        have HCM : Hid (∀ j, j < i → cur[j]? = some (.int .u8 (200 + (bs.length : Int) % 50))) := hcm
        have HB : Hid (Below w.heap.size w wr) := hb
        have HST : Hid (ST wr base SB (n + 1) wv cv sv iv (.slice bo bs.length bc) cs is bs) := (H.out.below hb).mono
        have c4 := HST.out.c 4
        simp only [List.getElem?_toArray, List.getElem?_cons_succ, List.getElem?_cons_zero] at c4
        clear hcu hcm hb
        by_cases hlt : i < k
        · have hlt' : (i : Int) < (k : Int) := by omega
          have hi0 : (0 : Int) ≤ (i : Int) := by omega
          obtain ⟨cv0, hcv0⟩ : ∃ v, wr.cell? ⟨g, i, none⟩ = some v := ⟨cur[i]'(by omega), by rw [cell_of_row _ _ _ _ _ _ HCU.out]; exact Array.getElem?_eq_getElem (by omega)⟩
          have hfz : wr.frozen? ⟨g, i, none⟩ = false := by simp [World.frozen?, HCU.out]
          have hnb2 : bs.length ≤ 9223372036854775807 := by omega
          go_wp2_with fail
          refine (markByte_any bs.length _ hnb2).mono ?_
          rintro e w' ⟨rfl, hw'⟩
          subst w'
          generalize hmk : 200 + (bs.length : Int) % 50 = mk at *
          go_wp2_with fail
          go_roundg (gk - 1)
          case measure => omega
          case rel =>
            refine ⟨i + 1, cur.setIfInBounds i (.int .u8 mk), by omega, by go_num, ?_, by simp [hcs], fun j hj => ?_, HB.out.setCell hgw2 _⟩
            · simp [World.setCell, Array.getElem?_modify, HCU.out]
            · rw [Array.getElem?_setIfInBounds]
              by_cases hji : i = j
              · rw [if_pos hji, if_pos (by omega)]
              · rw [if_neg hji]; exact HCM.out j (by omega)
        · have hik : i = k := by omega
          subst hik
          have hlt' : ¬ (i : Int) < (i : Int) := by omega
          have hMK : Hid (MkL wr 5 (.int .u8 (200 + (bs.length : Int) % 50)) (.slice (some ⟨g, 0, none⟩) i i)) := ⟨_, i, rfl, hk0, fun _ => ⟨g, cur, rfl, HCU.out, hcs, HCM.out⟩⟩
          have hbsr : base ≤ wr.heap.size := Nat.le_trans HBS.out HB.out.size
          have hSB : SB < wr.heap.size := HST.out.lt
          have hA1 : Hid (bs.length + 1 ≤ maxLen) := by show _ ≤ _; unfold maxLen; omega
          have hA2 : Hid ((bs.length + 1) * 24 ≤ 140737488355328) := by show _ ≤ _; omega
          have hA3 : Hid (base ≤ (wr.alloc (.cells #[.slice (some ⟨g, 0, none⟩) i i] 48)).heap.size) := by show _ ≤ _; simp; omega
          have hone : Hid (∀ u ∈ [Value.slice (some ⟨g, 0, none⟩) i i], u.oneCell' = true) := fun u hu => by simp at hu; subst hu; rfl
          have HSA : Hid (ST (wr.alloc (.cells #[.slice (some ⟨g, 0, none⟩) i i] 48)) base SB (n + 1) wv cv sv iv (.slice bo bs.length bc) cs is bs) := HST.out.below ((Below.refl _ _).alloc (Nat.le_refl _) _)
          have HMA : Hid (MkL (wr.alloc (.cells #[.slice (some ⟨g, 0, none⟩) i i] 48)) 5 (.int .u8 (200 + (bs.length : Int) % 50)) (.slice (some ⟨g, 0, none⟩) i i)) := hMK.out.of_kept (fun q _ hq => Below.heap_alloc _ _ _ (lt_of_block hq))
          have HNBB : Hid ((Value.slice bo bs.length bc).ownBlock ≠ some SB) := owns_ne HST.out.br HST.out.blk (by decide)
          have hC1 : Hid (cs.length + 1 ≤ maxLen) := by show _ ≤ _; unfold maxLen; omega
          have hC2 : Hid ((cs.length + 1) * 32 ≤ 140737488355328) := by show _ ≤ _; omega
          have hone2 : Hid (∀ u ∈ [Value.string s, Value.string kp], u.oneCell' = true) := fun u hu => by simp at hu; rcases hu with rfl | rfl <;> rfl
          have hOKX : Hid (cpE s = 0 ∧ kp = strOfNums (cpX s)) := ⟨HE.out, by rw [HXS.out]; exact HKP.out.symm⟩
          go_wp2_with (first | (at_builtin; refine wpList_append_lies _ rfl (.tmp 62) (.tmp 64) 62 rfl base 48 i0 _ 1 24 Tryz.underlying62 hi0 hz0 hz1 hz2 rfl (by decide) (.slice bo bs.length bc) _ _ rfl HSA.out.br ⟨wr.heap.size, 0, none⟩ 1 1 [.slice (some ⟨g, 0, none⟩) i i] rfl rfl (World.news_of_block (cs := #[.slice (some ⟨g, 0, none⟩) i i]) (t := 48) (fr := (0, 0)) (heap_alloc_new wr _)) hone.out (Nat.lt_succ_self 0) hA1.out hA2.out hA3.out (wr.heap.size + 1) (by simp) ?_; intro g4 cap4 w4 hown hgrow hat hlt4; have zz : w4.frozen? ⟨SB, 4, none⟩ = false := (hgrow.frozen_far ⟨SB, 4, none⟩ (by simp; omega) (fun e => HNBB.out e.symm)).trans (HSA.out.fz 4); have ccx : w4.cell? ⟨SB, 4, none⟩ = some (.slice bo bs.length bc) := (hgrow.cell_far ⟨SB, 4, none⟩ (by simp; omega) (fun e => HNBB.out e.symm)).trans (HSA.out.c 4); have cc1 : w4.cell? ⟨SB, 1, none⟩ = some cv := (hgrow.cell_far ⟨SB, 1, none⟩ (by simp; omega) (fun e => HNBB.out e.symm)).trans (HSA.out.c 1); have hst4 : Hid (ST (w4.setCell ⟨SB, 4, none⟩ (.slice (some ⟨g4, 0, none⟩) (bs.length + 1) cap4)) base SB (n + 1) wv cv sv iv (.slice (some ⟨g4, 0, none⟩) (bs.length + 1) cap4) cs is (bs ++ [.slice (some ⟨g, 0, none⟩) i i])) := HSA.out.pushB hgrow hown HMA.out (by omega); have hbb4 : Hid (Below base w (w4.setCell ⟨SB, 4, none⟩ (.slice (some ⟨g4, 0, none⟩) (bs.length + 1) cap4))) := (((HB.out.mono HBS.out).alloc hbsr _).grown hgrow hA3.out (fun q hq => (HST.out.br.lt q hq).1)).setCell HST.out.hB _; clear hown hgrow hat hlt4) | (at_builtin; refine wpList_append_lies _ rfl (.tmp 72) (.tmp 76) 60 rfl base 127 j0 _ 2 32 Tryz.underlying60 hj0 hy0 hy1 hy2 rfl (by decide) cv _ _ rfl (hst4.out.below ((Below.refl _ _).alloc (Nat.le_refl _) (.cells #[.string s, .string kp] 127))).cr ⟨w4.heap.size, 0, none⟩ 1 1 [.string s, .string kp] rfl rfl (World.news_of_block (cs := #[.string s, .string kp]) (t := 127) (fr := (0, 0)) (heap_alloc_at (w := (w4.setCell ⟨SB, 4, none⟩ (.slice (some ⟨g4, 0, none⟩) (bs.length + 1) cap4))) _ (by simp [World.setCell]))) hone2.out (Nat.lt_succ_self 0) hC1.out hC2.out (Nat.le_trans (hst4.out.below ((Below.refl _ _).alloc (Nat.le_refl _) (.cells #[.string s, .string kp] 127))).hB (Nat.le_of_lt (hst4.out.below ((Below.refl _ _).alloc (Nat.le_refl _) (.cells #[.string s, .string kp] 127))).lt)) (w4.heap.size + 1) (by simp [World.setCell]) ?_; intro g5 cap5 w5 hown hgrow hat hlt5; have hnc5 : cv.ownBlock ≠ some SB := owns_ne (hst4.out.below ((Below.refl _ _).alloc (Nat.le_refl _) (.cells #[.string s, .string kp] 127))).cr (hst4.out.below ((Below.refl _ _).alloc (Nat.le_refl _) (.cells #[.string s, .string kp] 127))).blk (by decide); have zz5 : w5.frozen? ⟨SB, 1, none⟩ = false := (hgrow.frozen_far ⟨SB, 1, none⟩ (hst4.out.below ((Below.refl _ _).alloc (Nat.le_refl _) (.cells #[.string s, .string kp] 127))).lt (fun e => hnc5 e.symm)).trans ((hst4.out.below ((Below.refl _ _).alloc (Nat.le_refl _) (.cells #[.string s, .string kp] 127))).fz 1); have cc5 : w5.cell? ⟨SB, 1, none⟩ = some cv := (hgrow.cell_far ⟨SB, 1, none⟩ (hst4.out.below ((Below.refl _ _).alloc (Nat.le_refl _) (.cells #[.string s, .string kp] 127))).lt (fun e => hnc5 e.symm)).trans ((hst4.out.below ((Below.refl _ _).alloc (Nat.le_refl _) (.cells #[.string s, .string kp] 127))).c 1); have hst5 : Hid (ST (w5.setCell ⟨SB, 1, none⟩ (.slice (some ⟨g5, 0, none⟩) (cs.length + 1) cap5)) base SB (n + 1) wv (.slice (some ⟨g5, 0, none⟩) (cs.length + 1) cap5) sv iv (.slice (some ⟨g4, 0, none⟩) (bs.length + 1) cap4) (cs ++ [(s, kp)]) is (bs ++ [.slice (some ⟨g, 0, none⟩) i i])) := (hst4.out.below ((Below.refl _ _).alloc (Nat.le_refl _) (.cells #[.string s, .string kp] 127))).pushC (x := (s, kp)) hgrow hown hOKX.out (by omega); have hbb5 : Hid (Below base w (w5.setCell ⟨SB, 1, none⟩ (.slice (some ⟨g5, 0, none⟩) (cs.length + 1) cap5))) := ((hbb4.out.alloc (Nat.le_trans hst4.out.hB (Nat.le_of_lt hst4.out.lt)) (.cells #[.string s, .string kp] 127)).grown hgrow (Nat.le_trans (hst4.out.below ((Below.refl _ _).alloc (Nat.le_refl _) (.cells #[.string s, .string kp] 127))).hB (Nat.le_of_lt (hst4.out.below ((Below.refl _ _).alloc (Nat.le_refl _) (.cells #[.string s, .string kp] 127))).lt)) (fun q hq => ((hst4.out.below ((Below.refl _ _).alloc (Nat.le_refl _) (.cells #[.string s, .string kp] 127))).cr.lt q hq).1)).setCell hst4.out.hB _; clear hown hgrow hat hlt5))
          refine (HCP.out _).mono ?_
          rintro e w6 ⟨hb6, o6, m6, k6, rfl, hne6, heq6⟩
          obtain ⟨hm6, hrow6⟩ := heq6 rfl
          subst hm6
          obtain ⟨g6, kk6, hgk6, _, _⟩ := hrow6.form (by omega)
          obtain ⟨ho6, hkk6⟩ : o6 = some ⟨g6, 0, none⟩ ∧ k6 = kk6 := by cases hgk6; exact ⟨rfl, rfl⟩
          subst ho6
          have hcv6 := run_convert_bytes_arg (P := Tryz.prog) w6 48 5 Tryz.underlying48 Tryz.underlying5 g6 0 X.length k6 X rfl (fun q hq => by
            have := World.ownsRow.cellAt hrow6 q (by omega)
            rw [Nat.zero_add, this]
            simp [hq]) 9 Tryz.underlying9
          rw [HKP.out] at hcv6
          have HS6 : Hid (ST w6 base SB (n + 1) wv (.slice (some ⟨g5, 0, none⟩) (cs.length + 1) cap5) sv iv (.slice (some ⟨g4, 0, none⟩) (bs.length + 1) cap4) (cs ++ [(s, kp)]) is (bs ++ [.slice (some ⟨g, 0, none⟩) i i])) := hst5.out.below hb6
          have HB6 : Hid (Below base w w6) := hbb5.out.trans (hb6.mono (Nat.le_trans hst5.out.hB (Nat.le_of_lt hst5.out.lt)))
          have hk1 : (1 : Int) ≤ (kp.size : Int) := by omega
          have hk2 : (kp.size : Int) ≤ 32000 := by omega
          clear hrow6 hgk6 hkk6 hb6 hne6 heq6 hcv
          go_wp2_with fail
          go_ret
          exact ⟨rfl, HB6.out, _, _, _, _, HS6.out⟩
  · have h0 : E = z2 := by rw [HERR.out, if_neg (by omega)]
    subst h0
    obtain ⟨rfl, rfl, rfl⟩ := HNE.out h2
    have hnil := fun wz => nil_eql 48 5 Tryz.underlying48 wz
    have h2' : (E == 0) = false := by simpa using h2
    have h2'' : (E != 0) = true := by simp [bne, h2']
    go_wp2_with fail
    go_ret
    exact ⟨rfl, HB2.out.mono HBS.out, cv, bv, cs, bs, (H.out.below HB2.out).mono⟩
end Go.Proofs.YtaebngpoagjafaaGreat
namespace Go.Proofs.YtaebngpoagjafaaGreat
open Go.RowKit

set_option maxRecDepth 100000 in
set_option maxHeartbeats 1000000 in
/-- THE SCRIPT, for whatever steps and whatever is kept of the state: if each step of a kind in play answers true and keeps it, so does the whole. -/
theorem plays_ix (Inv : Nat → World → Prop) (wo so : Option Addr) (m wc b off n c pb pn pcap : Nat) (K A B C D : Nat → Int) (S : Nat → ByteArray) (P : Nat → Int) (w : World)
    (hn : n * 56 ≤ 140737488351232) (hpn : pn ≤ 64) (hs : OS w so b off n K A B C D S) (hpb : pb < w.heap.size) (hp : ∀ i, i < pn → w.cell? ⟨pb, i, none⟩ = some (.int .i64 (P i)))
    (h0 : Inv 0 (w.alloc (st0 wo m wc)))
    (hgrow : ∀ (i : Nat) (wq wr : World), Inv i wq → w.heap.size < wq.heap.size → Below wq.heap.size wq wr → Inv i wr ∧ Inv (i + 1) wr)
    (hlooks : ∀ (i : Nat) (wq : World), i ≤ n → Inv i wq → Calls Tryz.prog 31 #[.pointer (some ⟨w.heap.size, 0, none⟩)] wq fun e w' => e = .returned (.bool true) ∧ Inv i w' ∧ Below w.heap.size wq w')
    (hstep : ∀ (i : Nat) (wq : World), i < n → Inv i wq → Below w.heap.size w wq → w.heap.size < wq.heap.size → amTo P (K i) pn = true →
      Calls Tryz.prog 30 #[.pointer (some ⟨w.heap.size, 0, none⟩), .agg #[.int .i64 (K i), .int .i64 (A i), .int .i64 (B i), .int .i64 (C i), .int .i64 (D i), .string (S i)]] wq fun e w' => e = .returned (.bool true) ∧ Inv (i + 1) w' ∧ Below w.heap.size wq w') :
    Calls Tryz.prog 12 #[.slice wo m wc, .slice so n c, .slice (some ⟨pb, 0, none⟩) pn pcap] w fun e w' => e = .returned (.bool true) ∧ Below w.heap.size w w' := by
  have HG : Hid (∀ (i : Nat) (wq wr : World), Inv i wq → w.heap.size < wq.heap.size → Below wq.heap.size wq wr → Inv i wr ∧ Inv (i + 1) wr) := hgrow
  have HP : Hid (∀ i, i < pn → w.cell? ⟨pb, i, none⟩ = some (.int .i64 (P i))) := hp
  have HL : Hid (∀ (i : Nat) (wq : World), i ≤ n → Inv i wq → Calls Tryz.prog 31 #[.pointer (some ⟨w.heap.size, 0, none⟩)] wq fun e w' => e = .returned (.bool true) ∧ Inv i w' ∧ Below w.heap.size wq w') := hlooks
  have HS : Hid (∀ (i : Nat) (wq : World), i < n → Inv i wq → Below w.heap.size w wq → w.heap.size < wq.heap.size → amTo P (K i) pn = true →
      Calls Tryz.prog 30 #[.pointer (some ⟨w.heap.size, 0, none⟩), .agg #[.int .i64 (K i), .int .i64 (A i), .int .i64 (B i), .int .i64 (C i), .int .i64 (D i), .string (S i)]] wq fun e w' => e = .returned (.bool true) ∧ Inv (i + 1) w' ∧ Below w.heap.size wq w') := hstep
  have H0 : Hid (Inv 0 (w.alloc (st0 wo m wc))) := h0
  clear hgrow hp hlooks hstep h0
  have hbs := fun w => buildState wo m wc w
  go_enter Tryz.func12, Tryz.ntmps12
  go_wp2_with fail
  go_loopw [8] (fun x wr => ∃ k : Nat, k ≤ n ∧ x = .int .i64 k ∧ Hid (Inv k wr) ∧ Below w.heap.size w wr ∧ w.heap.size < wr.heap.size) (fun x _ => n - (intOf x).toNat)
  case atStart => exact ⟨0, by omega, rfl, H0, (Below.refl _ _).alloc (Nat.le_refl _) _, by simp⟩
  case round =>
    obtain ⟨k, hk, rfl, hinv, hb, hz⟩ := hrel
    clear hbs H0
    by_cases hlt : k < n
    · obtain rfl := hs.at_ (by omega)
      have hsr := hs.below hb
      have hsz : b < wr.heap.size := hsr.lt (by omega)
      have c0 := hsr.k k hlt
      have c1 := hsr.a k hlt
      have c2 := hsr.b_ k hlt
      have c3 := hsr.c k hlt
      have c4 := hsr.d k hlt
      have c5 := hsr.s k hlt
      have HB : Hid (Below w.heap.size w wr) := hb
      clear hsr hb
      have hk58 : (k : Int) < 288230376151711744 := by omega
      have HA : Hid (∀ o : Obj, Below wr.heap.size wr (wr.alloc o)) := fun o => (Below.refl _ _).alloc (Nat.le_refl _) o
      have HPr : Hid (∀ o : Obj, ∀ i, i < pn → (wr.alloc o).cell? ⟨pb, i, none⟩ = some (.int .i64 (P i))) := fun o i hi => by
        rw [(HB.out.trans ((HA.out o).mono HB.out.size)).cell (p := ⟨pb, i, none⟩) hpb]; exact HP.out i hi
      go_wp2_with fail
      refine (among_any pb pn pcap P _ _ hpn (HPr.out _)).mono ?_
      rintro e w' ⟨rfl, hww⟩
      subst w'
      cases e1 : amTo P (K k) pn with
      | false =>
        go_wp2_with fail
        go_roundw
        case rel => exact ⟨k + 1, by omega, by go_num, (HG.out _ _ _ hinv.out hz (HA.out _)).2, HB.out.trans ((HA.out _).mono HB.out.size), by simp; omega⟩
        case measure => simp [intOf]; omega
      | true =>
        have HS' := fun wq => HS.out k wq hlt
        have HS2 : Hid _ := HS'
        clear HS'
        go_wp2_with fail
        refine (HS2.out _ (HG.out _ _ _ hinv.out hz (HA.out _)).1 (HB.out.trans ((HA.out _).mono HB.out.size)) (by simp; omega) e1).mono ?_
        rintro e w1 ⟨rfl, hinv1, hb1⟩
        have HI1 : Hid (Inv (k + 1) w1) := hinv1
        have hz1 := hb1.size
        simp at hz1
        have HB1 : Hid (Below w.heap.size w w1) := (HB.out.trans ((HA.out _).mono HB.out.size)).trans hb1
        clear hinv1 hb1
        go_wp2_with fail
        refine (HL.out _ _ hlt HI1.out).mono ?_
        rintro e w2 ⟨rfl, hinv2, hb2⟩
        have HI2 : Hid (Inv (k + 1) w2) := hinv2
        have hz2 := hb2.size
        have HB2 : Hid (Below w.heap.size w w2) := HB1.out.trans hb2
        clear hinv2 hb2
        go_wp2_with fail
        go_roundw
        case rel => exact ⟨k + 1, by omega, by go_num, HI2, HB2.out, by omega⟩
        case measure => simp [intOf]; omega
    · have hkn : k = n := by omega
      subst hkn
      go_wp2_with fail
      go_ret
      exact ⟨rfl, hb⟩

set_option maxRecDepth 100000 in
set_option maxHeartbeats 800000 in
theorem step_compile (base SB n : Nat) (wv cv sv iv bv : Value) (cs : List (ByteArray × ByteArray)) (is bs : List Value) (oa ob oc od : Int) (s : ByteArray) (w : World) (hn : (n + 1) * 56 ≤ 140737488355328) (h : ST w base SB n wv cv sv iv bv cs is bs) :
    Calls Tryz.prog 30 #[.pointer (some ⟨SB, 0, none⟩), .agg #[.int .i64 4, .int .i64 oa, .int .i64 ob, .int .i64 oc, .int .i64 od, .string s]] w fun e w' => e = .returned (.bool true) ∧ Below base w w' ∧ ∃ cv' bv' cs' bs', ST w' base SB (n + 1) wv cv' sv iv bv' cs' is bs' := by
  have H : Hid (ST w base SB n wv cv sv iv bv cs is bs) := h
  have HB0 : Hid (Below w.heap.size w (w.alloc (.cells #[.int .i64 4, .int .i64 oa, .int .i64 ob, .int .i64 oc, .int .i64 od, .string s] 66))) := (Below.refl _ _).alloc (Nat.le_refl _) _
  have HBS : Hid (base ≤ w.heap.size) := Nat.le_trans h.hB (Nat.le_of_lt h.lt)
  clear h
  go_enter Tryz.func30, Tryz.ntmps30
  go_wp2_with fail
  refine (compiled_any base SB n wv cv sv iv bv cs is bs s _ hn (H.out.below HB0.out)).mono ?_
  rintro e w2 ⟨rfl, hb2, hst⟩
  have HB2 : Hid (Below base w w2) := (HB0.out.mono HBS.out).trans hb2
  have HST : Hid (∃ cv' bv' cs' bs', ST w2 base SB (n + 1) wv cv' sv iv bv' cs' is bs') := hst
  clear hb2 hst
  go_wp2_with fail
  go_ret
  exact ⟨rfl, HB2.out, HST.out⟩

set_option maxHeartbeats 400000 in
theorem compiles_walk (wo so : Option Addr) (m wc sb soff sn sc : Nat) (OK OA OB OC OD : Nat → Int) (OStr : Nat → ByteArray) (w : World)
    (hn : sn * 56 ≤ 140737488351232) (hs : OS w so sb soff sn OK OA OB OC OD OStr) :
    Calls Tryz.prog 6 #[.slice wo m wc, .slice so sn sc] w fun e w' => e = .returned (.bool true) ∧ Below w.heap.size w w' := by
  go_enter Tryz.func6, Tryz.ntmps6
  go_wp2_with fail
  have hal : Below w.heap.size w (w.alloc (.cells #[.int .i64 4] 3)) := (Below.refl _ _).alloc (Nat.le_refl _) _
  have HO : Hid (OS (w.alloc (.cells #[.int .i64 4] 3)) so sb soff sn OK OA OB OC OD OStr) := hs.below hal
  have hc1 : (w.alloc (.cells #[.int .i64 4] 3)).cell? ⟨w.heap.size, 0, none⟩ = some (.int .i64 4) := by simp
  have hlt : w.heap.size < (w.alloc (.cells #[.int .i64 4] 3)).heap.size := by simp
  have HAL : Hid (Below w.heap.size w (w.alloc (.cells #[.int .i64 4] 3))) := hal
  generalize w.alloc (.cells #[.int .i64 4] 3) = w1 at *
  clear hs hal
  have hone : ∀ i, i < 1 → w1.cell? ⟨w.heap.size, i, none⟩ = some (.int .i64 4) := fun i hi => by
    have h0 : i = 0 := by omega
    rw [h0]; exact hc1
  refine (plays_ix (fun i wq => ∃ cv bv cs bs, ST wq w1.heap.size w1.heap.size i (.slice wo m wc) cv (.slice none 0 0) (.slice none 0 0) bv cs [] bs)
    wo so m wc sb soff sn sc w.heap.size 1 1 OK OA OB OC OD OStr (fun _ => 4) w1 hn (by omega) HO.out hlt hone
    ⟨.slice none 0 0, .slice none 0 0, [], [], ⟨heap_alloc_new _ _, World.ownsRow_nil _ _ _ _, World.ownsRow_nil _ _ _ _, World.ownsRow_nil _ _ _ _, fun x hx => by simp at hx, fun i v hv => by simp at hv, fun i v hv => by simp at hv, Nat.le_refl _, Nat.le_refl _, Nat.le_refl _, Nat.le_refl _⟩⟩ ?_ ?_ ?_).mono ?_
  · rintro i wq wr ⟨cv, bv, cs, bs, h⟩ _ hb
    exact ⟨⟨cv, bv, cs, bs, h.below hb⟩, ⟨cv, bv, cs, bs, (h.below hb).mono⟩⟩
  · rintro i wq hi ⟨cv, bv, cs, bs, h⟩
    refine (looks_any w1.heap.size w1.heap.size i _ cv _ _ bv cs [] bs wq (by omega) h).mono ?_
    rintro e w' ⟨rfl, hb'⟩
    exact ⟨rfl, ⟨cv, bv, cs, bs, h.below hb'⟩, hb'.mono (Nat.le_of_lt h.lt)⟩
  · rintro i wq hi ⟨cv, bv, cs, bs, h⟩ hb hlt' hk
    have hk1 : OK i = 4 := by have h : 4 = OK i := by simpa [amTo] using hk
                              exact h.symm
    rw [hk1]
    refine (step_compile w1.heap.size w1.heap.size i _ cv _ _ bv cs [] bs _ _ _ _ _ wq (by omega) h).mono ?_
    rintro e w' ⟨rfl, hb', cv', bv', cs', bs', h'⟩
    exact ⟨rfl, ⟨cv', bv', cs', bs', h'⟩, hb'⟩
  · rintro e w2 ⟨rfl, hb2⟩
    have hfin : Hid (Below w.heap.size w w2) := HAL.out.trans (hb2.mono HAL.out.size)
    clear hb2
    go_wp2_with fail
    go_ret
    exact ⟨rfl, hfin.out⟩
end Go.Proofs.YtaebngpoagjafaaGreat
