/-
  OUR OWN: the document's reader: one step.
  OUR OWN: the document's reader as a machine: every step; that it ends, and in how many steps; in the large.
  OUR OWN: the reader's machine: that it ends, in how many steps; in the large.
  OUR OWN: the document's reader: read.
  OUR OWN: the document's reader: the value of digits.
  OUR OWN: what was read, looked at: before, named.
-/
import Derived.Test.YtaebngpoagjafaaGreatQ09
import Derived.Test.YtaebngpoagjafaaGreatQ06
import Derived.WalkSmall
import Derived.RangeFuncBox
namespace Go.Proofs.YtaebngpoagjafaaGreat
open Go.RowKit

attribute [local go_sem ↓] Go.wp_at_zero Go.wp_at_succ
set_option maxRecDepth 100000 in
set_option maxHeartbeats 6400000 in
theorem step_items (base B : Nat) (s : ByteArray) (k p : Nat) (c kd d l : Int) (sv gv : Value) (fs : List FR) (gs : List SG) (w : World) (h : RS w base B s k sv gv fs gs) (hs : s.size ≤ 2000) (hk : k ≤ s.size) (hpe : T.sk s k = p) (hc : T.ch s p = c)
    (_hlen : fs.length + 7 ≤ 1099511627776) (_hlen2 : gs.length + 1 ≤ 1099511627776) (hc2 : c = 44) :
    Calls Tryz.prog 134 #[.pointer (some ⟨B, 0, none⟩), frA ⟨260, kd, d, l⟩] w (SP base B s sv gv fs gs w ⟨true, p, [byF 44, ⟨259, kd, d, l⟩, ⟨260, kd, d, l⟩], []⟩) := by
  show Calls Tryz.prog 134 #[.pointer (some ⟨B, 0, none⟩), .agg #[.int .i64 260, .int .i64 kd, .int .i64 d, .int .i64 l]] w _
  have hpk : p ≤ s.size := by rw [← hpe]; exact T.sk_le hk
  have hpee := fun (wz : World) (hz : RS wz base B s k sv gv fs gs) => peek_any base B s k sv gv fs gs wz hs hk hz
  rw [hpe, hc] at hpee
  have HPE : Hid (∀ (wz : World), RS wz base B s k sv gv fs gs → Calls Tryz.prog 135 #[.pointer (some ⟨B, 0, none⟩)] wz fun e w' => e = .returned (.int .i64 c) ∧ RS w' base B s p sv gv fs gs ∧ Mv base B sv gv sv gv wz w') := hpee
  clear hpee
  go_enter Tryz.func134, Tryz.ntmps134
  go_wp2_with fail
  have hA := h.alloc (.cells #[.int .i64 260, .int .i64 kd, .int .i64 d, .int .i64 l] 187)
  have hF : FB (w.alloc (.cells #[.int .i64 260, .int .i64 kd, .int .i64 d, .int .i64 l] 187)) w.heap.size ⟨260, kd, d, l⟩ := ⟨by simp, by simp, by simp, by simp⟩
  have hou := h.outNew
  have hwl : w.heap.size < (w.alloc (.cells #[.int .i64 260, .int .i64 kd, .int .i64 d, .int .i64 l] 187)).heap.size := by simp
  have hmv : Mv base B sv gv sv gv w (w.alloc (.cells #[.int .i64 260, .int .i64 kd, .int .i64 d, .int .i64 l] 187)) := Mv.alloc h.bs _
  refine (HPE.out _ hA).mono ?_
  rintro e w1 ⟨rfl, hr1, hm1⟩
  have hk1 := hm1.kept w.heap.size hwl hou
  have hF1 := hF.of_block hk1.1
  have hwl1 : w.heap.size < w1.heap.size := Nat.lt_of_lt_of_le hwl hm1.bel.size
  have HM1 : Hid (Mv base B sv gv sv gv w w1) := hmv.trans hm1
  have HR1 : Hid (RS w1 base B s p sv gv fs gs) := hr1
  have HF1 : Hid (FB w1 w.heap.size ⟨260, kd, d, l⟩) := hF1
  have b0 : w1.cell? ⟨w.heap.size, 0, none⟩ = some (.int .i64 260) := hF1.c0
  clear hmv hm1 hA hF hwl hr1 hk1 h hF1
  have hcc : (c == 44) = true := by rw [hc2]; decide
  have b1 : w1.cell? ⟨w.heap.size, 1, none⟩ = some (.int .i64 kd) := HF1.out.c1
  have b2 : w1.cell? ⟨w.heap.size, 2, none⟩ = some (.int .i64 d) := HF1.out.c2
  have b3 : w1.cell? ⟨w.heap.size, 3, none⟩ = some (.int .i64 l) := HF1.out.c3
  go_wp2_with fail
  have HR2 : Hid (RS (w1.alloc (.cells #[.int .i64 259, .int .i64 kd, .int .i64 d, .int .i64 l] 187)) base B s p sv gv fs gs) := HR1.out.alloc _
  have HM2 : Hid (Mv base B sv gv sv gv w (w1.alloc (.cells #[.int .i64 259, .int .i64 kd, .int .i64 d, .int .i64 l] 187))) := HM1.out.trans (Mv.alloc HR1.out.bs _)
  have hF2 : FB (w1.alloc (.cells #[.int .i64 259, .int .i64 kd, .int .i64 d, .int .i64 l] 187)) w.heap.size ⟨260, kd, d, l⟩ := HF1.out.of_block (Below.heap_alloc _ _ _ hwl1)
  clear b0 b1 b2 b3 HF1
  have b0 : (w1.alloc (.cells #[.int .i64 259, .int .i64 kd, .int .i64 d, .int .i64 l] 187)).cell? ⟨w.heap.size, 0, none⟩ = some (.int .i64 260) := hF2.c0
  have b1 : (w1.alloc (.cells #[.int .i64 259, .int .i64 kd, .int .i64 d, .int .i64 l] 187)).cell? ⟨w.heap.size, 1, none⟩ = some (.int .i64 kd) := hF2.c1
  have b2 : (w1.alloc (.cells #[.int .i64 259, .int .i64 kd, .int .i64 d, .int .i64 l] 187)).cell? ⟨w.heap.size, 2, none⟩ = some (.int .i64 d) := hF2.c2
  have b3 : (w1.alloc (.cells #[.int .i64 259, .int .i64 kd, .int .i64 d, .int .i64 l] 187)).cell? ⟨w.heap.size, 3, none⟩ = some (.int .i64 l) := hF2.c3
  have e0 : (w1.alloc (.cells #[.int .i64 259, .int .i64 kd, .int .i64 d, .int .i64 l] 187)).cell? ⟨w1.heap.size, 0, none⟩ = some (.int .i64 259) := by simp
  have e1 : (w1.alloc (.cells #[.int .i64 259, .int .i64 kd, .int .i64 d, .int .i64 l] 187)).cell? ⟨w1.heap.size, 1, none⟩ = some (.int .i64 kd) := by simp
  have e2 : (w1.alloc (.cells #[.int .i64 259, .int .i64 kd, .int .i64 d, .int .i64 l] 187)).cell? ⟨w1.heap.size, 2, none⟩ = some (.int .i64 d) := by simp
  have e3 : (w1.alloc (.cells #[.int .i64 259, .int .i64 kd, .int .i64 d, .int .i64 l] 187)).cell? ⟨w1.heap.size, 3, none⟩ = some (.int .i64 l) := by simp
  have hz : w1.heap.size < (w1.alloc (.cells #[.int .i64 259, .int .i64 kd, .int .i64 d, .int .i64 l] 187)).heap.size := by simp
  clear hF2
  generalize w1.alloc (.cells #[.int .i64 259, .int .i64 kd, .int .i64 d, .int .i64 l] 187) = w2 at *
  have hz' : w.heap.size < w2.heap.size := by omega
  have hoI : Out B sv gv w1.heap.size := HR1.out.outNew
  have hkeepB : Hid (∀ (wz : World), Below w2.heap.size w2 wz → wz.cell? ⟨w.heap.size, 0, none⟩ = some (.int .i64 260) ∧ wz.cell? ⟨w.heap.size, 1, none⟩ = some (.int .i64 kd) ∧ wz.cell? ⟨w.heap.size, 2, none⟩ = some (.int .i64 d) ∧ wz.cell? ⟨w.heap.size, 3, none⟩ = some (.int .i64 l) ∧ wz.cell? ⟨w1.heap.size, 0, none⟩ = some (.int .i64 259) ∧ wz.cell? ⟨w1.heap.size, 1, none⟩ = some (.int .i64 kd) ∧ wz.cell? ⟨w1.heap.size, 2, none⟩ = some (.int .i64 d) ∧ wz.cell? ⟨w1.heap.size, 3, none⟩ = some (.int .i64 l)) := by
    intro wz hb
    exact ⟨(hb.cell (p := ⟨w.heap.size, 0, none⟩) hz').trans b0, (hb.cell (p := ⟨w.heap.size, 1, none⟩) hz').trans b1, (hb.cell (p := ⟨w.heap.size, 2, none⟩) hz').trans b2, (hb.cell (p := ⟨w.heap.size, 3, none⟩) hz').trans b3, (hb.cell (p := ⟨w1.heap.size, 0, none⟩) hz).trans e0, (hb.cell (p := ⟨w1.heap.size, 1, none⟩) hz).trans e1, (hb.cell (p := ⟨w1.heap.size, 2, none⟩) hz).trans e2, (hb.cell (p := ⟨w1.heap.size, 3, none⟩) hz).trans e3⟩
  have hkeep : Hid (∀ (wz w' : World) (sv' gv' : Value), Below w2.heap.size w2 wz → Mv base B sv gv sv' gv' wz w' → w'.cell? ⟨w.heap.size, 0, none⟩ = some (.int .i64 260) ∧ w'.cell? ⟨w.heap.size, 1, none⟩ = some (.int .i64 kd) ∧ w'.cell? ⟨w.heap.size, 2, none⟩ = some (.int .i64 d) ∧ w'.cell? ⟨w.heap.size, 3, none⟩ = some (.int .i64 l) ∧ w'.cell? ⟨w1.heap.size, 0, none⟩ = some (.int .i64 259) ∧ w'.cell? ⟨w1.heap.size, 1, none⟩ = some (.int .i64 kd) ∧ w'.cell? ⟨w1.heap.size, 2, none⟩ = some (.int .i64 d) ∧ w'.cell? ⟨w1.heap.size, 3, none⟩ = some (.int .i64 l)) := by
    intro wz w' sv' gv' hb hm
    have q := hkeepB.out wz hb
    have eI : w'.heap[w1.heap.size]? = wz.heap[w1.heap.size]? := (hm.kept _ (Nat.lt_of_lt_of_le hz hb.size) hoI).1
    have eF : w'.heap[w.heap.size]? = wz.heap[w.heap.size]? := (hm.kept _ (Nat.lt_of_lt_of_le hz' hb.size) hou).1
    exact ⟨by rw [World.cell?_of_block (w := wz) eF]; exact q.1, by rw [World.cell?_of_block (w := wz) eF]; exact q.2.1, by rw [World.cell?_of_block (w := wz) eF]; exact q.2.2.1, by rw [World.cell?_of_block (w := wz) eF]; exact q.2.2.2.1, by rw [World.cell?_of_block (w := wz) eI]; exact q.2.2.2.2.1, by rw [World.cell?_of_block (w := wz) eI]; exact q.2.2.2.2.2.1, by rw [World.cell?_of_block (w := wz) eI]; exact q.2.2.2.2.2.2.1, by rw [World.cell?_of_block (w := wz) eI]; exact q.2.2.2.2.2.2.2⟩
  go_region_held3 (fun w' => w'.cell? ⟨w.heap.size, 0, none⟩ = some (.int .i64 260) ∧ w'.cell? ⟨w.heap.size, 1, none⟩ = some (.int .i64 kd) ∧ w'.cell? ⟨w.heap.size, 2, none⟩ = some (.int .i64 d) ∧ w'.cell? ⟨w.heap.size, 3, none⟩ = some (.int .i64 l) ∧ w'.cell? ⟨w1.heap.size, 0, none⟩ = some (.int .i64 259) ∧ w'.cell? ⟨w1.heap.size, 1, none⟩ = some (.int .i64 kd) ∧ w'.cell? ⟨w1.heap.size, 2, none⟩ = some (.int .i64 d) ∧ w'.cell? ⟨w1.heap.size, 3, none⟩ = some (.int .i64 l)) (first | (refine hkeepB.out _ ?_; (repeat (first | exact Below.refl _ _ | refine Below.drew ?_ | refine Below.alloc ?_ (by simp <;> omega) _)); done) | (refine hkeep.out _ _ _ _ ?_ hm; (repeat (first | exact Below.refl _ _ | refine Below.drew ?_ | refine Below.alloc ?_ (by simp <;> omega) _)); done)) (first | (go_at_call 172; refine (byteOf_any _ _ (by omega) (by omega)).mono ?_; rintro e w' ⟨rfl, rfl⟩) | (go_at_call 133; refine (push_newD base B _ _ s p sv gv fs [byF 44, ⟨259, kd, d, l⟩, ⟨260, kd, d, l⟩] gs _ _ (HR2.out.alloc _) (by simp) (by rfl) (by simp; omega) _ rfl).mono ?_; rintro e w' ⟨rfl, sv', hr, hm⟩))
  all_goals
    have HR3 : Hid (RS w' base B s p sv' gv ([byF 44, ⟨259, kd, d, l⟩, ⟨260, kd, d, l⟩] ++ fs) gs) := hr
    have HM3 : Hid (Mv base B sv gv sv' gv w w') := (HM2.out.trans (Mv.alloc HR2.out.bs _)).trans hm
    clear hr hm
    go_wp2_with fail
    go_ret
    exact ⟨rfl, sv', gv, HR3.out, HM3.out⟩
end Go.Proofs.YtaebngpoagjafaaGreat
namespace Go.Proofs.YtaebngpoagjafaaGreat
open Go.RowKit

theorem T.ch_pos {s : ByteArray} {k : Nat} (h : 0 ≤ T.ch s k) : k < s.size := by
  by_cases hk : k < s.size
  · exact hk
  · rw [T.ch_ge hk] at h; omega

/-- EVERY STEP OF THE READER IS THE MACHINE'S. -/
theorem step_any (base B : Nat) (s : ByteArray) (k : Nat) (f : FR) (sv gv : Value) (fs : List FR) (gs : List SG) (w : World) (h : RS w base B s k sv gv fs gs) (hs : s.size ≤ 2000) (hk : k ≤ s.size)
    (hlen : fs.length + 7 ≤ 1099511627776) (hlen2 : gs.length + 1 ≤ 1099511627776) (hsy : 0 ≤ f.sym) (d0 : 0 ≤ f.depth) (d1 : f.depth ≤ 1000000) :
    Calls Tryz.prog 134 #[.pointer (some ⟨B, 0, none⟩), frA f] w (SP base B s sv gv fs gs w (stepR s k f)) := by
  obtain ⟨sy, kd, d, l⟩ := f
  simp only at hsy d0 d1
  by_cases h0 : sy = 256
  · subst h0
    exact step_rule base B s k _ _ kd d l sv gv fs gs w h hs hk rfl rfl hlen hlen2
  by_cases h1 : sy = 257
  · subst h1
    by_cases hc : T.ch s (T.sk s k) = 59
    · have e : stepR s k ⟨257, kd, d, l⟩ = ⟨true, T.sk s k, [byF 59, ⟨256, 0, 0, 0⟩, ⟨257, 0, 0, 0⟩], []⟩ := by simp [stepR, hc]
      rw [e]; exact step_more base B s k _ _ kd d l sv gv fs gs w h hs hk rfl rfl hlen hlen2 hc
    · have e : stepR s k ⟨257, kd, d, l⟩ = ⟨true, T.sk s k, [], []⟩ := by simp [stepR, hc]
      rw [e]; exact step_more_no base B s k _ _ kd d l sv gv fs gs w h hs hk rfl rfl hlen hlen2 hc
  by_cases h2 : sy = 258
  · subst h2
    exact step_expr base B s k _ _ kd d l sv gv fs gs w h hs hk rfl rfl hlen hlen2 d0 d1 _ rfl
  by_cases h3 : sy = 259
  · subst h3
    exact step_item base B s k _ _ kd d l sv gv fs gs w h hs hk rfl rfl hlen hlen2 d0 d1
  by_cases h4 : sy = 260
  · subst h4
    by_cases hc : T.ch s (T.sk s k) = 44
    · have e : stepR s k ⟨260, kd, d, l⟩ = ⟨true, T.sk s k, [byF 44, ⟨259, kd, d, l⟩, ⟨260, kd, d, l⟩], []⟩ := by simp [stepR, hc]
      rw [e]; exact step_items base B s k _ _ kd d l sv gv fs gs w h hs hk rfl rfl hlen hlen2 hc
    · have e : stepR s k ⟨260, kd, d, l⟩ = ⟨true, T.sk s k, [], []⟩ := by simp [stepR, hc]
      rw [e]; exact step_items_no base B s k _ _ kd d l sv gv fs gs w h hs hk rfl rfl hlen hlen2 hc
  by_cases h5 : sy = 261
  · subst h5
    exact step_num base B s k _ _ kd d l sv gv fs gs w h hs hk rfl rfl hlen hlen2 _ rfl
  by_cases h6 : sy = 262
  · subst h6
    exact step_bits base B s k _ _ kd d l sv gv fs gs w h hs hk rfl rfl hlen hlen2 _ rfl
  by_cases h7 : sy = 263
  · subst h7
    by_cases hl : T.ch s (T.sk s k) < 97
    · have e : stepR s k ⟨263, kd, d, l⟩ = ⟨false, T.sk s k, [], []⟩ := by simp [stepR]; omega
      rw [e]; exact step_letter_lo base B s k _ _ kd d l sv gv fs gs w h hs hk rfl rfl hlen hlen2 hl
    · by_cases hh : 122 < T.ch s (T.sk s k)
      · have e : stepR s k ⟨263, kd, d, l⟩ = ⟨false, T.sk s k, [], []⟩ := by simp [stepR]; omega
        rw [e]; exact step_letter_hi base B s k _ _ kd d l sv gv fs gs w h hs hk rfl rfl hlen hlen2 hh
      · have e : stepR s k ⟨263, kd, d, l⟩ = ⟨true, T.sk s k + 1, [], [⟨kd, T.sk s k, d, l, s.extract (T.sk s k) (T.sk s k + 1)⟩]⟩ := by simp [stepR]; omega
        rw [e]; exact step_letter base B s k _ _ kd d l sv gv fs gs w h hs hk rfl rfl hlen hlen2 (by omega) (by omega) (T.ch_pos (by omega))
  have hn : sy ≠ 256 ∧ sy ≠ 257 ∧ sy ≠ 258 ∧ sy ≠ 259 ∧ sy ≠ 260 ∧ sy ≠ 261 ∧ sy ≠ 262 ∧ sy ≠ 263 := ⟨h0, h1, h2, h3, h4, h5, h6, h7⟩
  by_cases hc : T.ch s (T.sk s k) = sy
  · have e : stepR s k ⟨sy, kd, d, l⟩ = ⟨true, T.sk s k + 1, [], []⟩ := by simp [stepR, hn, hc]
    rw [e]; exact step_byte base B s k _ _ kd d l sv gv fs gs w h hs hk rfl rfl hlen hlen2 sy hn hc (T.ch_pos (by omega))
  · have e : stepR s k ⟨sy, kd, d, l⟩ = ⟨false, T.sk s k, [], []⟩ := by simp [stepR, hn, hc]
    rw [e]; exact step_byte_no base B s k _ _ kd d l sv gv fs gs w h hs hk rfl rfl hlen hlen2 sy hn hc
end Go.Proofs.YtaebngpoagjafaaGreat
namespace Go.Proofs.YtaebngpoagjafaaGreat
open Go.RowKit

theorem T.dig_lt {s : ByteArray} {k : Nat} (h : T.dig (T.ch s k) = true) : k < s.size := by
  by_cases hk : k < s.size
  · exact hk
  · rw [T.ch_ge hk] at h; simp [T.dig] at h
theorem T.ch_nn {s : ByteArray} {k : Nat} (h : 0 ≤ T.ch s k) : k < s.size := by
  by_cases hk : k < s.size
  · exact hk
  · rw [T.ch_ge hk] at h; omega
theorem T.dgF_bd (s : ByteArray) (most lim : Int) (plain : Bool) (p : Nat) : ∀ n j, j ≤ s.size → j ≤ (T.dgF s most lim plain p n j).2 ∧ (T.dgF s most lim plain p n j).2 ≤ s.size := by
  intro n
  induction n with
  | zero => intro j h; exact ⟨Nat.le_refl _, h⟩
  | succ n ih =>
    intro j h
    cases hd : T.dig (T.ch s j) with
    | false => rw [T.dgF_end hd]; exact ⟨Nat.le_refl _, h⟩
    | true =>
      cases hs : T.stp most lim plain (T.ch s j) ((j : Int) - p) (T.ch s p) with
      | true => rw [T.dgF_stop hd hs]; exact ⟨Nat.le_refl _, h⟩
      | false =>
        rw [T.dgF_next hd hs]
        have := ih (j + 1) (T.dig_lt hd)
        exact ⟨by omega, this.2⟩
theorem T.dg_bd (s : ByteArray) (most lim : Int) (plain : Bool) (p : Nat) (h : p ≤ s.size) : p ≤ (T.dg s most lim plain p).2 ∧ (T.dg s most lim plain p).2 ≤ s.size := T.dgF_bd s most lim plain p _ p h

/-- A frame that pushes nothing. -/
def leaf (f : FR) : Prop := 0 ≤ f.sym ∧ f.sym ≠ 256 ∧ f.sym ≠ 257 ∧ f.sym ≠ 258 ∧ f.sym ≠ 259 ∧ f.sym ≠ 260
/-- What a step pushes: nothing, or a leaf first. -/
def Fst (l : List FR) (d : Int) : Prop := l = [] ∨ ∃ f r, l = f :: r ∧ leaf f ∧ r.length ≤ 6 ∧ (∀ g ∈ l, 0 ≤ g.sym ∧ 0 ≤ g.depth ∧ g.depth ≤ d + 1)
structure SF (s : ByteArray) (k : Nat) (f : FR) (r : Res) : Prop where
  lo : k ≤ r.at_
  hi : r.at_ ≤ s.size
  sg : r.sg.length ≤ 1
  fst : Fst r.push f.depth
  no : r.ok = false → r.push = [] ∧ r.sg = []
  lf : leaf f → r.push = [] ∧ (r.ok = true → k + 1 ≤ r.at_)
theorem fst_leaf_byte {c : Int} (h : 0 ≤ c) (h2 : c < 256) : leaf (byF c) := ⟨h, by show c ≠ 256; omega, by show c ≠ 257; omega, by show c ≠ 258; omega, by show c ≠ 259; omega, by show c ≠ 260; omega⟩

theorem exprL_fst (d : Int) (p : Nat) (c : Int) (l : List FR) (hd : 0 ≤ d) (h : exprL d p c = some l) : Fst l d := by
  have key : ∀ (c0 : Int) (r : List FR), 0 ≤ c0 → c0 < 256 → r.length ≤ 6 → (∀ g ∈ r, 0 ≤ g.sym ∧ 0 ≤ g.depth ∧ g.depth ≤ d + 1) → Fst (byF c0 :: r) d := fun c0 r h0 h1 h2 h3 =>
    .inr ⟨byF c0, r, rfl, fst_leaf_byte h0 h1, h2, by
      intro g hg
      rcases List.mem_cons.1 hg with rfl | hg
      · exact ⟨h0, by show (0 : Int) ≤ 0; omega, by show (0 : Int) ≤ d + 1; omega⟩
      · exact h3 g hg⟩
  unfold exprL at h
  repeat' split at h
  all_goals first
    | (simp at h; done)
    | (injection h with h; subst h; refine key _ _ (by omega) (by omega) (by simp) ?_; simp [byF]; omega)

theorem itemL_fst (f : FR) (hd : 0 ≤ f.depth) : Fst (itemL f) f.depth := by
  have key : ∀ (f0 : FR) (r : List FR), leaf f0 → r.length ≤ 6 → (∀ g ∈ f0 :: r, 0 ≤ g.sym ∧ 0 ≤ g.depth ∧ g.depth ≤ f.depth + 1) → Fst (f0 :: r) f.depth := fun f0 r h0 h2 h3 => .inr ⟨f0, r, rfl, h0, h2, h3⟩
  unfold itemL
  repeat' split
  all_goals (refine key _ _ (by simp [leaf]) (by simp) ?_; simp [byF]; try omega)

theorem stepR_sf (s : ByteArray) (k : Nat) (f : FR) (hk : k ≤ s.size) (hs : 0 ≤ f.sym) (hd : 0 ≤ f.depth) : SF s k f (stepR s k f) := by
  have h1 := T.sk_ge s k
  have h2 := T.sk_le hk
  unfold stepR
  generalize T.sk s k = p at *
  simp only
  split
  · next e => exact ⟨h1, h2, by simp, .inr ⟨_, _, rfl, by simp [leaf], by simp, by simp [byF]; omega⟩, by simp, fun hl => absurd e hl.2.1⟩
  · split
    · next e =>
      split
      · exact ⟨h1, h2, by simp, .inr ⟨_, _, rfl, fst_leaf_byte (by omega) (by omega), by simp, by simp [byF]; omega⟩, by simp, fun hl => absurd e hl.2.2.1⟩
      · exact ⟨h1, h2, by simp, .inl rfl, by simp, fun hl => absurd e hl.2.2.1⟩
    · split
      · next e =>
        split
        · next l hl => exact ⟨h1, h2, by simp, exprL_fst _ _ _ _ hd hl, by simp, fun hl => absurd e hl.2.2.2.1⟩
        · exact ⟨h1, h2, by simp, .inl rfl, by simp, fun hl => absurd e hl.2.2.2.1⟩
      · split
        · next e => exact ⟨h1, h2, by simp, itemL_fst f hd, by simp, fun hl => absurd e hl.2.2.2.2.1⟩
        · split
          · next e =>
            split
            · exact ⟨h1, h2, by simp, .inr ⟨_, _, rfl, fst_leaf_byte (by omega) (by omega), by simp, by simp [byF]; omega⟩, by simp, fun hl => absurd e hl.2.2.2.2.2⟩
            · exact ⟨h1, h2, by simp, .inl rfl, by simp, fun hl => absurd e hl.2.2.2.2.2⟩
          · split
            · have := T.dg_bd s 9 58 true p h2
              split
              · next hc => simp at hc; exact ⟨by show k ≤ (T.dg s 9 58 true p).2; omega, this.2, by simp, .inl rfl, by simp, fun _ => ⟨rfl, fun _ => by show k + 1 ≤ (T.dg s 9 58 true p).2; omega⟩⟩
              · exact ⟨by show k ≤ (T.dg s 9 58 true p).2; omega, this.2, by simp, .inl rfl, by simp, fun _ => ⟨rfl, by simp⟩⟩
            · split
              · have := T.dg_bd s 32 50 false p h2
                split
                · next hc => simp at hc; exact ⟨by show k ≤ (T.dg s 32 50 false p).2; omega, this.2, by simp, .inl rfl, by simp, fun _ => ⟨rfl, fun _ => by show k + 1 ≤ (T.dg s 32 50 false p).2; omega⟩⟩
                · exact ⟨by show k ≤ (T.dg s 32 50 false p).2; omega, this.2, by simp, .inl rfl, by simp, fun _ => ⟨rfl, by simp⟩⟩
              · split
                · split
                  · next hc =>
                    have := T.ch_nn (s := s) (k := p) (by omega)
                    exact ⟨by show k ≤ p + 1; omega, by show p + 1 ≤ s.size; omega, by simp, .inl rfl, by simp, fun _ => ⟨rfl, fun _ => by show k + 1 ≤ p + 1; omega⟩⟩
                  · exact ⟨h1, h2, by simp, .inl rfl, by simp, fun _ => ⟨rfl, by simp⟩⟩
                · split
                  · next hc =>
                    have := T.ch_nn (s := s) (k := p) (by omega)
                    exact ⟨by show k ≤ p + 1; omega, by show p + 1 ≤ s.size; omega, by simp, .inl rfl, by simp, fun _ => ⟨rfl, fun _ => by show k + 1 ≤ p + 1; omega⟩⟩
                  · exact ⟨h1, h2, by simp, .inl rfl, by simp, fun _ => ⟨rfl, by simp⟩⟩

/-- The machine: at most n steps; none: it has not ended by then. Else: did all come that must? where? what was read (the last first)? -/
def runM (s : ByteArray) : Nat → Nat → List FR → List SG → Option (Bool × Nat × List SG)
  | _, k, [], gs => some (true, k, gs)
  | 0, _, _ :: _, _ => none
  | n + 1, k, f :: fs, gs =>
    if (stepR s k f).ok = true then runM s n (stepR s k f).at_ ((stepR s k f).push ++ fs) ((stepR s k f).sg ++ gs) else some (false, (stepR s k f).at_, [])

/-- In the large: one frame and all that it pushes. -/
structure PR where
  ok : Bool
  at_ : Nat
  sg : List SG
  n : Nat
def pL (one : Nat → FR → Option PR) : Nat → List FR → Option PR
  | k, [] => some ⟨true, k, [], 0⟩
  | k, f :: fs => match one k f with
    | none => none
    | some a => if a.ok = true then (match pL one a.at_ fs with
      | none => none
      | some b => some ⟨b.ok, b.at_, b.sg ++ a.sg, a.n + b.n⟩) else some a
def pF (s : ByteArray) : Nat → Nat → FR → Option PR
  | 0, _, _ => none
  | n + 1, k, f =>
    if (stepR s k f).ok = true then (match pL (pF s n) (stepR s k f).at_ (stepR s k f).push with
      | none => none
      | some q => some ⟨q.ok, q.at_, q.sg ++ (stepR s k f).sg, q.n + 1⟩) else some ⟨false, (stepR s k f).at_, [], 1⟩

/-- What the machine does at frames of which it is known in the large. -/
def After (s : ByteArray) (q : PR) (k : Nat) (l : List FR) : Prop := ∀ N fs gs, runM s (N + q.n) k (l ++ fs) gs = if q.ok = true then runM s N q.at_ fs (q.sg ++ gs) else some (false, q.at_, [])

theorem pL_after (s : ByteArray) (one : Nat → FR → Option PR) (h1 : ∀ k f q, one k f = some q → After s q k [f]) : ∀ (l : List FR) (k : Nat) (q : PR), pL one k l = some q → After s q k l := by
  intro l
  induction l with
  | nil =>
    intro k q h
    simp only [pL] at h
    injection h with h
    subst h
    intro N fs gs
    simp
  | cons f r ih =>
    intro k q h N fs gs
    simp only [pL] at h
    split at h
    · simp at h
    · next a ha =>
      have hA := h1 k f a ha
      split at h
      · next hok =>
        split at h
        · simp at h
        · next b hb =>
          injection h with h
          subst h
          have hB := ih a.at_ b hb
          have e := hA (N + b.n) (r ++ fs) gs
          rw [if_pos hok] at e
          simp only [List.cons_append, List.nil_append] at e ⊢
          rw [show N + (a.n + b.n) = N + b.n + a.n from by omega, e, hB, List.append_assoc]
      · next hok =>
        injection h with h
        subst h
        have e := hA N (r ++ fs) gs
        simpa [hok] using e

theorem pF_after (s : ByteArray) : ∀ (n k : Nat) (f : FR) (q : PR), pF s n k f = some q → After s q k [f] := by
  intro n
  induction n with
  | zero => intro k f q h; simp [pF] at h
  | succ n ih =>
    intro k f q h N fs gs
    simp only [pF] at h
    split at h
    · next hok =>
      split at h
      · simp at h
      · next b hb =>
        injection h with h
        subst h
        have hB := pL_after s (pF s n) ih _ _ _ hb
        have e := hB N fs ((stepR s k f).sg ++ gs)
        simp only [List.cons_append, List.nil_append]
        rw [show N + (b.n + 1) = (N + b.n) + 1 from by omega, runM, if_pos hok, e, List.append_assoc]
    · next hok =>
      injection h with h
      subst h
      simp only [List.cons_append, List.nil_append, runM, hok]
      simp

/-- What is known of a frame in the large: it ends; where; in how many steps. -/
structure Ends (s : ByteArray) (k : Nat) (q : PR) (c : Nat) : Prop where
  lo : k ≤ q.at_
  hi : q.at_ ≤ s.size
  yes : q.ok = true → q.n + c ≤ 16 * (q.at_ - k) + 1
  no : q.ok = false → q.n ≤ 16 * (s.size - k) + 4
/-- A list of frames, each of which ends from k on. -/
theorem pL_ends (s : ByteArray) (one : Nat → FR → Option PR) (k0 : Nat) (h1 : ∀ k f, k0 ≤ k → k ≤ s.size → 0 ≤ f.sym → 0 ≤ f.depth → ∃ q, one k f = some q ∧ Ends s k q 0) :
    ∀ (l : List FR) (k : Nat), k0 ≤ k → k ≤ s.size → (∀ f ∈ l, 0 ≤ f.sym ∧ 0 ≤ f.depth) → ∃ q, pL one k l = some q ∧ k ≤ q.at_ ∧ q.at_ ≤ s.size ∧ (q.ok = true → q.n ≤ 16 * (q.at_ - k) + l.length) ∧ (q.ok = false → q.n ≤ 16 * (s.size - k) + 4 + l.length) := by
  intro l
  induction l with
  | nil => intro k hk0 hk _; exact ⟨_, rfl, Nat.le_refl _, hk, by simp, by simp⟩
  | cons f r ih =>
    intro k hk0 hk hl
    obtain ⟨a, ha, hA⟩ := h1 k f hk0 hk (hl f (by simp)).1 (hl f (by simp)).2
    have := hA.lo
    have := hA.hi
    cases hok : a.ok with
    | false =>
      refine ⟨a, by simp [pL, ha, hok], by omega, by omega, by simp [hok], fun _ => ?_⟩
      have := hA.no hok
      omega
    | true =>
      obtain ⟨b, hb, b1, b2, b3, b4⟩ := ih a.at_ (by omega) (by omega) (fun g hg => hl g (by simp [hg]))
      have h3 := hA.yes hok
      refine ⟨⟨b.ok, b.at_, b.sg ++ a.sg, a.n + b.n⟩, by simp [pL, ha, hok, hb], by simp only; omega, b2, ?_, ?_⟩
      · intro hbo
        have := b3 hbo
        simp only [List.length_cons]
        omega
      · intro hbo
        have := b4 hbo
        simp only [List.length_cons]
        omega

theorem pF_ends (s : ByteArray) : ∀ (n k : Nat) (f : FR), k ≤ s.size → 0 ≤ f.sym → 0 ≤ f.depth → 2 * (s.size - k) + 2 ≤ n → ∃ q, pF s n k f = some q ∧ Ends s k q 0 ∧ (leaf f → q.ok = true → k + 1 ≤ q.at_ ∧ q.n = 1) := by
  intro n
  induction n using Nat.strongRecOn with
  | ind n ih =>
    intro k f hk hs hd hn
    cases n with
    | zero => omega
    | succ n =>
      have hS := stepR_sf s k f hk hs hd
      cases hok : (stepR s k f).ok with
      | false =>
        refine ⟨⟨false, (stepR s k f).at_, [], 1⟩, by simp [pF, hok], ⟨hS.lo, hS.hi, by simp, by intro _; simp only; omega⟩, by simp⟩
      | true =>
        have hlo := hS.lo
        have hhi := hS.hi
        rcases hS.fst with hp | ⟨f0, r, hp, hlf, hr, hall⟩
        · refine ⟨⟨true, (stepR s k f).at_, (stepR s k f).sg, 1⟩, by simp [pF, hok, hp, pL], ⟨hS.lo, hS.hi, by intro _; simp only; omega, by simp⟩, fun hl _ => ⟨(hS.lf hl).2 hok, rfl⟩⟩
        · have hnl : ¬ leaf f := fun hl => by have := (hS.lf hl).1; rw [hp] at this; simp at this
          have hf0 := hall f0 (by rw [hp]; simp)
          cases n with
          | zero => omega
          | succ m =>
          -- the leaf
          have hS0 := stepR_sf s (stepR s k f).at_ f0 hS.hi hf0.1 hf0.2.1
          have hp0 := (hS0.lf hlf).1
          cases hok0 : (stepR s (stepR s k f).at_ f0).ok with
          | false =>
            refine ⟨⟨false, (stepR s (stepR s k f).at_ f0).at_, (stepR s k f).sg, 2⟩, by rw [pF, if_pos hok, hp]; simp [pL, pF, hok0], ⟨by have := hS0.lo; simp only; omega, hS0.hi, by simp, by intro _; simp only; omega⟩, fun hl => absurd hl hnl⟩
          | true =>
            have hk1 := (hS0.lf hlf).2 hok0
            have hk2 := hS0.hi
            have e0 : pF s (m + 1) (stepR s k f).at_ f0 = some ⟨true, (stepR s (stepR s k f).at_ f0).at_, (stepR s (stepR s k f).at_ f0).sg, 1⟩ := by rw [pF, if_pos hok0, hp0]; simp [pL]
            obtain ⟨b, hb, b1, b2, b3, b4⟩ := pL_ends s (pF s (m + 1)) (stepR s (stepR s k f).at_ f0).at_ (fun k' g h1 h2 h3 h4 => by
              obtain ⟨q, hq, hE, _⟩ := ih (m + 1) (by omega) k' g h2 h3 h4 (by omega)
              exact ⟨q, hq, hE⟩) r (stepR s (stepR s k f).at_ f0).at_ (Nat.le_refl _) hk2 (fun g hg => by have := hall g (by rw [hp]; simp [hg]); exact ⟨this.1, this.2.1⟩)
            refine ⟨⟨b.ok, b.at_, b.sg ++ (stepR s (stepR s k f).at_ f0).sg ++ (stepR s k f).sg, 1 + b.n + 1⟩, by rw [pF, if_pos hok, hp]; simp [pL, e0, hb], ⟨by simp only; omega, b2, ?_, ?_⟩, fun hl => absurd hl hnl⟩
            · intro hbo
              have := b3 hbo
              simp only
              omega
            · intro hbo
              have := b4 hbo
              simp only
              omega

/-- The machine at a whole text. -/
def rd0 (s : ByteArray) : Option PR := pL (pF s (2 * s.size + 2)) 0 [⟨256, 0, 0, 0⟩, ⟨257, 0, 0, 0⟩]
theorem rd0_ends (s : ByteArray) : ∃ q, rd0 s = some q ∧ q.at_ ≤ s.size ∧ q.n ≤ 16 * s.size + 6 ∧ runM s q.n 0 [⟨256, 0, 0, 0⟩, ⟨257, 0, 0, 0⟩] [] = some (q.ok, q.at_, if q.ok = true then q.sg else []) := by
  obtain ⟨q, hq, h1, h2, h3, h4⟩ := pL_ends s (pF s (2 * s.size + 2)) 0 (fun k f _ h2 h3 h4 => by
    obtain ⟨q, hq, hE, _⟩ := pF_ends s (2 * s.size + 2) k f h2 h3 h4 (by omega)
    exact ⟨q, hq, hE⟩) [⟨256, 0, 0, 0⟩, ⟨257, 0, 0, 0⟩] 0 (Nat.le_refl _) (Nat.zero_le _) (by simp)
  have hA := pL_after s _ (fun k f q h => pF_after s _ k f q h) _ _ _ hq
  have e := hA 0 [] []
  simp only [List.append_nil, Nat.zero_add] at e
  refine ⟨q, hq, h2, ?_, ?_⟩
  · cases hok : q.ok with
    | true => have := h3 hok; simp only [List.length_cons, List.length_nil] at this; omega
    | false => have := h4 hok; simp only [List.length_cons, List.length_nil] at this; omega
  · rw [e]
    cases hok : q.ok <;> simp [runM]
end Go.Proofs.YtaebngpoagjafaaGreat
namespace Go.Proofs.YtaebngpoagjafaaGreat
open Go.RowKit

theorem below_drewN {b : Nat} {w w' : World} (h : Below b w w') (n : Nat) : Below b w (w'.drewN n) := ⟨h.os, h.tape, h.output, h.size, h.block⟩
theorem RS.pop {w : World} {base B s k gv f fs gs g cap} (h : RS w base B s k (.slice (some ⟨g, 0, none⟩) (fs.length + 1) cap) gv (f :: fs) gs) :
    RS (w.setCell ⟨B, 2, none⟩ (.slice (some ⟨g, 0, none⟩) fs.length cap)) base B s k (.slice (some ⟨g, 0, none⟩) fs.length cap) gv fs gs :=
  ⟨blk4_set h.blk, ownsRow_setCell_other (ownsRow_pop (frC_len fs) h.st) (show (Value.slice (some ⟨g, 0, none⟩) fs.length cap).ownBlock ≠ some B from h.neS) _, ownsRow_setCell_other h.sg h.neG _, h.hB⟩
theorem RS.top {w : World} {base B s k gv f fs gs g cap} (h : RS w base B s k (.slice (some ⟨g, 0, none⟩) (fs.length + 1) cap) gv (f :: fs) gs) :
    w.cell? ⟨g, fs.length * 4, none⟩ = some (.int .i64 f.sym) ∧ w.cell? ⟨g, fs.length * 4 + 1, none⟩ = some (.int .i64 f.kind) ∧ w.cell? ⟨g, fs.length * 4 + 2, none⟩ = some (.int .i64 f.depth) ∧ w.cell? ⟨g, fs.length * 4 + 3, none⟩ = some (.int .i64 f.list) := by
  have hc := fun j hj => World.ownsRow.cellAt h.st j hj
  have hl := frC_len fs
  have hg : ∀ i, i < 4 → (frC (f :: fs))[fs.length * 4 + i]? = (frV f)[i]? := fun i hi => by
    show (frC fs ++ frV f)[fs.length * 4 + i]? = _
    rw [List.getElem?_append_right (by omega)]
    congr 1; omega
  have k0 := (hc (fs.length * 4) (by show _ < (fs.length + 1) * 4; omega)).trans (hg 0 (by omega))
  have k1 := (hc (fs.length * 4 + 1) (by show _ < (fs.length + 1) * 4; omega)).trans (hg 1 (by omega))
  have k2 := (hc (fs.length * 4 + 2) (by show _ < (fs.length + 1) * 4; omega)).trans (hg 2 (by omega))
  have k3 := (hc (fs.length * 4 + 3) (by show _ < (fs.length + 1) * 4; omega)).trans (hg 3 (by omega))
  exact ⟨k0, k1, k2, k3⟩
theorem RS.nil {w : World} {base B s k sv gv gs} (h : RS w base B s k sv gv [] gs) : ∃ o cap, sv = .slice o 0 cap := by
  rcases h.st.2 with ⟨rfl, _⟩ | ⟨g, cap, cur, rfl, _⟩
  · exact ⟨none, 0, rfl⟩
  · exact ⟨_, cap, rfl⟩
theorem RS.capLe {w : World} {base B s k gv f fs gs g cap} (h : RS w base B s k (.slice (some ⟨g, 0, none⟩) (fs.length + 1) cap) gv (f :: fs) gs) : fs.length + 1 ≤ cap := by
  rcases h.st.2 with ⟨h0, _⟩ | ⟨g', cap', cur, hv, _, _, hn, _⟩
  · cases h0
  · cases hv; exact hn

/-- What holds of the machine between two steps: so many are still to come. -/
structure LI (s : ByteArray) (M : Nat) (R : Bool × Nat × List SG) (n k : Nat) (fs : List FR) (gs : List SG) : Prop where
  run : runM s n k fs gs = some R
  le : n ≤ M
  at_ : k ≤ s.size
  fl : fs.length + 7 * n ≤ 2 + 7 * M
  gl : gs.length + n ≤ M
  all : ∀ f ∈ fs, 0 ≤ f.sym ∧ 0 ≤ f.depth ∧ f.depth + n ≤ M
theorem LI.next {s M R n k f fs gs} (h : LI s M R (n + 1) k (f :: fs) gs) (hok : (stepR s k f).ok = true) : LI s M R n (stepR s k f).at_ ((stepR s k f).push ++ fs) ((stepR s k f).sg ++ gs) := by
  have hf := h.all f (by simp)
  have hS := stepR_sf s k f h.at_ hf.1 hf.2.1
  have hfl := h.fl
  have hgl := h.gl
  have hsg := hS.sg
  have hle := h.le
  simp only [List.length_cons] at hfl
  have hrun := h.run
  rw [runM, if_pos hok] at hrun
  have hpl : (stepR s k f).push.length ≤ 7 := by
    rcases hS.fst with hp | ⟨f0, r, hp, _, hr, _⟩
    · rw [hp]; simp
    · rw [hp]; simp only [List.length_cons]; omega
  refine ⟨hrun, by omega, hS.hi, by simp only [List.length_append]; omega, by simp only [List.length_append]; omega, ?_⟩
  intro g hg
  rcases List.mem_append.1 hg with hg | hg
  · rcases hS.fst with hp | ⟨f0, r, hp, _, hr, hall⟩
    · rw [hp] at hg; simp at hg
    · have h1 := hall g hg
      have h2 := hf.2.2
      exact ⟨h1.1, h1.2.1, by omega⟩
  · have h1 := h.all g (by simp [hg])
    exact ⟨h1.1, h1.2.1, by omega⟩
theorem LI.fails {s M R n k f fs gs} (h : LI s M R (n + 1) k (f :: fs) gs) (hok : (stepR s k f).ok = false) : R = (false, (stepR s k f).at_, []) := by
  have hrun := h.run
  rw [runM, if_neg (by rw [hok]; decide)] at hrun
  injection hrun with hrun
  exact hrun.symm
theorem LI.stops {s M R n k gs} (h : LI s M R n k [] gs) : R = (true, k, gs) := by
  have hrun := h.run
  cases n <;> (simp only [runM] at hrun; injection hrun with hrun; exact hrun.symm)

/-- What the reader gives back: can all stand where it does? the place; what was read (the last first). -/
def rdE (s : ByteArray) (R : Bool × Nat × List SG) : Bool × Nat × List SG :=
  if R.1 = true then (if 0 ≤ T.ch s (T.sk s R.2.1) then (false, T.sk s R.2.1, []) else (true, T.sk s R.2.1, R.2.2)) else R
def rd (s : ByteArray) : Bool × Nat × List SG := match rd0 s with
  | none => (false, 0, [])
  | some q => rdE s (q.ok, q.at_, if q.ok = true then q.sg else [])
/-- The same in memory. -/
def ReadPost (base : Nat) (D : Bool × Nat × List SG) (e : Ending) (w' : World) : Prop :=
  ∃ v, (D.1 = true ∧ e = .returned (.tuple #[v, .int .i64 (-1)]) ∧ w'.ownsRow base 151 5 v D.2.2.length (sgC D.2.2)) ∨
       (D.1 = false ∧ e = .returned (.tuple #[.slice none 0 0, .int .i64 D.2.1]))

attribute [local go_sem ↓] Go.wp_at_zero Go.wp_at_succ
set_option maxRecDepth 100000 in
set_option maxHeartbeats 1600000 in
theorem read_run (s : ByteArray) (w : World) (hs : s.size ≤ 2000) (M : Nat) (R : Bool × Nat × List SG) (hM : M ≤ 40000) (hR : runM s M 0 [⟨256, 0, 0, 0⟩, ⟨257, 0, 0, 0⟩] [] = some R) :
    Calls Tryz.prog 92 #[.string s] w fun e w' => Below w.heap.size w w' ∧ ReadPost w.heap.size (rdE s R) e w' := by
  have hb1 := fun w => buildF1 256 w
  have hb2 := fun w => buildF1 257 w
  have hM2 : 1 ≤ M := by cases M with | zero => simp [runM] at hR | succ n => omega
  have HL : Hid (∀ gs, gs = [] → LI s M R M 0 [⟨256, 0, 0, 0⟩, ⟨257, 0, 0, 0⟩] gs) := fun gs hgs => by subst hgs; exact ⟨hR, Nat.le_refl _, Nat.zero_le _, by simp, by simp, by simp⟩
  clear hR
  have HRS : Hid (RS (w.alloc (.cells #[.string s, .int .i64 0, .slice none 0 0, .slice none 0 0] 184)) w.heap.size w.heap.size s 0 (.slice none 0 0) (.slice none 0 0) [] []) :=
    ⟨heap_alloc_new w _, World.ownsRow_nil _ _ _ _, World.ownsRow_nil _ _ _ _, Nat.le_refl _⟩
  go_enter Tryz.func92, Tryz.ntmps92
  go_wp2_with fail
  refine (push_newL w.heap.size w.heap.size _ _ s 0 _ _ [] [⟨256, 0, 0, 0⟩, ⟨257, 0, 0, 0⟩] [] _ _ HRS.out (by simp) (by rfl) (by simp) _ rfl).mono ?_
  rintro e w1 ⟨rfl, sv1, hr, hm⟩
  have HR1 : Hid (RS w1 w.heap.size w.heap.size s 0 sv1 (.slice none 0 0) ([⟨256, 0, 0, 0⟩, ⟨257, 0, 0, 0⟩] ++ []) []) := hr
  have HB1 : Hid (Below w.heap.size w w1) := ((Below.refl _ _).alloc (Nat.le_refl _) _).trans hm.bel
  clear hr hm HRS
  go_wp2_with fail
  go_loopg [5] M (fun n _ wr => ∃ k fs gs sv gv, LI s M R n k fs gs ∧ RS wr w.heap.size w.heap.size s k sv gv fs gs ∧ Below w.heap.size w wr)
  case atStart => exact ⟨0, _, [], _, _, HL.out _ rfl, HR1.out, HB1.out⟩
  case round =>
    obtain ⟨k, fs, gs, sv, gv, hli, hr, hb⟩ := hrel
    have HLI : Hid (LI s M R gk k fs gs) := hli
    have HR : Hid (RS wr w.heap.size w.heap.size s k sv gv fs gs) := hr
    have HB : Hid (Below w.heap.size w wr) := hb
    have hks : k ≤ s.size := hli.at_
    have c2 := hr.c2
    have z2 := hr.fz 2
    clear hb hr hli
    cases fs with
    | nil =>
      obtain ⟨o, cap, rfl⟩ := HR.out.nil
      have HS : Hid (R = (true, k, gs)) := HLI.out.stops
      have hpk := T.ch_lo s (T.sk s k)
      obtain ⟨cp0, cp1⟩ := hpk
      go_wp2_with fail
      refine (peek_any w.heap.size w.heap.size s k _ gv [] gs _ hs hks HR.out).mono ?_
      rintro e w2 ⟨rfl, hr2, hm2⟩
      have HR2 : Hid (RS w2 w.heap.size w.heap.size s (T.sk s k) (.slice o 0 cap) gv [] gs) := hr2
      have HB2 : Hid (Below w.heap.size w w2) := HB.out.trans hm2.bel
      have c1 := hr2.c1
      have c3 := hr2.c3
      clear hr2 hm2 c2 z2
      by_cases hc : 0 ≤ T.ch s (T.sk s k)
      · have HD : Hid (rdE s R = (false, T.sk s k, [])) := by
          show _ = _
          rw [HS.out]; simp [rdE, hc]
        go_wp2_with fail
        go_quiet (fail)
        go_wp2_with fail
        go_ret2
        refine ⟨below_drewN HB2.out _, ?_⟩
        rw [HD.out]
        exact ⟨.bool true, .inr ⟨rfl, rfl⟩⟩
      · have HD : Hid (rdE s R = (true, T.sk s k, gs)) := by
          show _ = _
          rw [HS.out]; simp [rdE, hc]
        go_wp2_with fail
        go_ret2
        refine ⟨HB2.out, ?_⟩
        rw [HD.out]
        exact ⟨gv, .inl ⟨rfl, rfl, HR2.out.sg⟩⟩
    | cons f fs =>
      obtain ⟨g, cap, rfl⟩ := ownsRow_succ HR.out.st
      obtain ⟨q0, q1, q2, q3⟩ := HR.out.top
      have hcap := HR.out.capLe
      have hfl := HLI.out.fl
      have hf := HLI.out.all f (by simp)
      have HRA : Hid (RS ((wr.setCell ⟨w.heap.size, 2, none⟩ (.slice (some ⟨g, 0, none⟩) fs.length cap)).alloc (.cells #[.int .i64 f.sym, .int .i64 f.kind, .int .i64 f.depth, .int .i64 f.list] 187)) w.heap.size w.heap.size s k (.slice (some ⟨g, 0, none⟩) fs.length cap) gv fs gs) := HR.out.pop.alloc _
      have HBA : Hid (w.heap.size ≤ (wr.setCell ⟨w.heap.size, 2, none⟩ (.slice (some ⟨g, 0, none⟩) fs.length cap)).heap.size) := HR.out.pop.bs
      have hbw : w.heap.size < wr.heap.size := HR.out.lt
      have zf : ∀ o, (wr.alloc o).frozen? ⟨w.heap.size, 2, none⟩ = false := fun o => (HR.out.alloc o).fz 2
      simp only [List.length_cons] at hfl
      have hfl2 : fs.length ≤ 1000000 := by omega
      clear hfl
      generalize hm : fs.length = m at *
      have i0 : (0 : Int) ≤ (m : Int) := by omega
      have i1 : (m : Int) ≤ (cap : Int) := by omega
      have i2 : (m : Int) < ((m + 1 : Nat) : Int) := by omega
      have e1 : (((m + 1 : Nat) : Int) - 1) = (m : Int) := by omega
      go_wp2_with fail
      have hA := HRA.out
      have hX := step_any w.heap.size w.heap.size s k f _ gv fs gs _ HRA.out hs hks (by omega) (by have := HLI.out.gl; have := HLI.out.le; omega) hf.1 hf.2.1 (by have := HLI.out.le; omega)
      refine hX.mono ?_
      rintro e w2 ⟨rfl, sv2, gv2, hr2, hm2⟩
      have HB2 : Hid (Below w.heap.size w w2) := ((HB.out.setCell (Nat.le_refl _) _).alloc HBA.out _).trans hm2.bel
      have HR2 : Hid (RS w2 w.heap.size w.heap.size s (stepR s k f).at_ sv2 gv2 ((stepR s k f).push ++ fs) ((stepR s k f).sg ++ gs)) := hr2
      have c1 := hr2.c1
      clear hA hX hr2 hm2 HRA HR q0 q1 q2 q3 c2 z2 zf
      cases gk with
      | zero => exact absurd HLI.out.run (by simp [runM])
      | succ n =>
        cases hok : (stepR s k f).ok with
        | true =>
          have HN : Hid (LI s M R n (stepR s k f).at_ ((stepR s k f).push ++ fs) ((stepR s k f).sg ++ gs)) := HLI.out.next hok
          go_wp2_with fail
          go_roundg n
          case measure => omega
          case rel => exact ⟨_, _, _, _, _, HN.out, HR2.out, HB2.out⟩
        | false =>
          have HD : Hid (rdE s R = (false, (stepR s k f).at_, [])) := by
            show _ = _
            rw [HLI.out.fails hok]; rfl
          go_wp2_with fail
          go_quiet (fail)
          go_wp2_with fail
          go_ret2
          refine ⟨below_drewN HB2.out _, ?_⟩
          rw [HD.out]
          exact ⟨.bool true, .inr ⟨rfl, rfl⟩⟩
end Go.Proofs.YtaebngpoagjafaaGreat
namespace Go.Proofs.YtaebngpoagjafaaGreat
open Go.RowKit

/-- The value of the first n digits. -/
def T.val (s : ByteArray) : Nat → Int
  | 0 => 0
  | n + 1 => T.val s n * 10 + (T.ch s n - 48)
def T.digs (s : ByteArray) : Prop := ∀ i, i < s.size → 48 ≤ T.ch s i ∧ T.ch s i ≤ 57
theorem T.val_bd {s : ByteArray} (h : T.digs s) : ∀ n, n ≤ s.size → 0 ≤ T.val s n ∧ T.val s n + 1 ≤ 10 ^ n := by
  intro n
  induction n with
  | zero => intro _; exact ⟨Int.le_refl _, by simp [T.val]⟩
  | succ n ih =>
    intro hn
    have h1 := ih (by omega)
    have h2 := h n (by omega)
    have e : (10 : Int) ^ (n + 1) = 10 ^ n * 10 := Int.pow_succ _ _
    simp only [T.val]
    rw [e]
    exact ⟨by omega, by omega⟩

attribute [local go_sem ↓] Go.wp_at_zero Go.wp_at_succ
set_option maxRecDepth 100000 in
set_option maxHeartbeats 400000 in
theorem value_any (s : ByteArray) (w : World) (hs : s.size ≤ 2000) :
    Calls Tryz.prog 164 #[.string s] w fun e w' => Below w.heap.size w w' ∧ ∃ v, e = .returned (.int .i64 v) ∧ (T.digs s → s.size ≤ 9 → v = T.val s s.size) := by
  go_enter Tryz.func164, Tryz.ntmps164
  go_wp2_with fail
  go_loopg [3, 4] s.size (fun n x y wr => ∃ (j : Nat) (v : Int), n + j = s.size ∧ x = .int .i64 v ∧ y = .int .i64 j ∧ Hid (T.digs s → s.size ≤ 9 → v = T.val s j) ∧ Below w.heap.size w wr)
  case atStart => exact ⟨0, 0, by omega, rfl, rfl, fun _ _ => rfl, Below.refl _ _⟩
  case round =>
    obtain ⟨j, v, hn, rfl, rfl, HV, hb⟩ := hrel
    have HB : Hid (Below w.heap.size w wr) := hb
    clear hb
    by_cases hlt : j < s.size
    · have hlt' : (j : Int) < (s.size : Int) := by omega
      have hch : ((s[j]).toNat : Int) = T.ch s j := (T.ch_lt hlt).symm
      obtain ⟨cb0, cb1⟩ := T.ch_bd hlt
      go_wp2_with fail
      go_roundg (gk - 1)
      case measure => omega
      case rel => exact ⟨j + 1, _, by omega, rfl, by go_num, fun hd h9 => by
        have e := HV.out hd h9
        have hb := T.val_bd hd j (by omega)
        have hd2 := hd j hlt
        have hp : (10 : Int) ^ j ≤ 10 ^ 9 := by
          have h1 : (10 : Nat) ^ j ≤ 10 ^ 9 := Nat.pow_le_pow_right (by omega) (by omega)
          exact_mod_cast h1
        have hp9 : (10 : Int) ^ 9 = 1000000000 := by decide
        subst e
        simp only [T.val]
        unfold wrap64
        omega, HB.out⟩
    · have hje : j = s.size := by omega
      have hd : decide ((j : Int) < (s.size : Int)) = false := decide_eq_false (by omega)
      go_wp2_with fail
      go_ret
      exact ⟨HB.out, v, rfl, fun h1 h2 => (HV.out h1 h2).trans (by rw [hje])⟩
end Go.Proofs.YtaebngpoagjafaaGreat
namespace Go.Proofs.YtaebngpoagjafaaGreat
open Go.RowKit

/-- What was read lies at block b, the first first. -/
def SL (w : World) (b : Nat) (l : List SG) : Prop := ∀ i g, l[i]? = some g → w.cell? ⟨b, i * 5, none⟩ = some (.int .i64 g.kind) ∧ w.cell? ⟨b, i * 5 + 1, none⟩ = some (.int .i64 g.place) ∧ w.cell? ⟨b, i * 5 + 2, none⟩ = some (.int .i64 g.depth) ∧ w.cell? ⟨b, i * 5 + 3, none⟩ = some (.int .i64 g.list) ∧ w.cell? ⟨b, i * 5 + 4, none⟩ = some (.string g.text)
theorem SL.of_block {w w' : World} {b : Nat} {l : List SG} (h : SL w b l) (e : w'.heap[b]? = w.heap[b]?) : SL w' b l := fun i g hg => by
  obtain ⟨h0, h1, h2, h3, h4⟩ := h i g hg
  exact ⟨by rw [World.cell?_of_block (w := w) e]; exact h0, by rw [World.cell?_of_block (w := w) e]; exact h1, by rw [World.cell?_of_block (w := w) e]; exact h2, by rw [World.cell?_of_block (w := w) e]; exact h3, by rw [World.cell?_of_block (w := w) e]; exact h4⟩
/-- Of the first k: how many are in the list of g; does one of them read the same? -/
def befN (g : SG) : List SG → Nat
  | [] => 0
  | x :: r => befN g r + (if x.list = g.list ∧ x.kind = g.kind then 1 else 0)
def befS (g : SG) : List SG → Bool
  | [] => false
  | x :: r => befS g r || (decide (x.list = g.list ∧ x.kind = g.kind) && (x.text.toList == g.text.toList))

theorem befN_le (g : SG) (l : List SG) (n : Nat) (h : l.length ≤ n) : befN g l ≤ n := by
  induction l generalizing n with
  | nil => exact Nat.zero_le _
  | cons x r ih =>
    simp only [List.length_cons] at h
    simp only [befN]
    have := ih (n - 1) (by omega)
    split <;> omega

attribute [local go_sem ↓] Go.wp_at_zero Go.wp_at_succ
set_option maxRecDepth 100000 in
set_option maxHeartbeats 400000 in
theorem before_any (b cap : Nat) (l : List SG) (i : Nat) (g : SG) (w : World) (h : SL w b l) (hl : l.length ≤ 100000) (hg : l[i]? = some g) :
    Calls Tryz.prog 137 #[.slice (some ⟨b, 0, none⟩) l.length cap, .int .i64 i] w fun e w' => Below w.heap.size w w' ∧ e = .returned (.tuple #[.int .i64 (befN g (l.take i).reverse), .bool (befS g (l.take i).reverse)]) := by
  go_enter Tryz.func137, Tryz.ntmps137
  go_wp2_with fail
  have hil : i < l.length := (List.getElem?_eq_some_iff.1 hg).1
  go_loopg [6, 7, 8] i (fun n x y z wr => ∃ (j : Nat), n + j = i ∧ x = .int .i64 (befN g (l.take j).reverse) ∧ y = .bool (befS g (l.take j).reverse) ∧ z = .int .i64 j ∧ wr.heap = w.heap ∧ Below w.heap.size w wr)
  case atStart => exact ⟨0, by omega, rfl, rfl, rfl, rfl, Below.refl _ _⟩
  case round =>
    obtain ⟨j, hn, rfl, rfl, rfl, hh, hb⟩ := hrel
    have HB : Hid (Below w.heap.size w wr) := hb
    have HH : Hid (wr.heap = w.heap) := hh
    have hsl : SL wr b l := h.of_block (by rw [hh])
    obtain ⟨g0, g1, g2, g3, g4⟩ := hsl i g hg
    have i0 : (0 : Int) ≤ (i : Int) := by omega
    have i1 : (i : Int) < (l.length : Int) := by omega
    have j0 : (0 : Int) ≤ (j : Int) := by omega
    clear hb hh
    by_cases hlt : j < i
    · have hlt' : (j : Int) < (i : Int) := by omega
      have j1 : (j : Int) < (l.length : Int) := by omega
      obtain ⟨x, hx⟩ : ∃ x, l[j]? = some x := ⟨l[j]'(by omega), List.getElem?_eq_getElem (by omega)⟩
      obtain ⟨x0, x1, x2, x3, x4⟩ := hsl j x hx
      have hnx : (l.take (j + 1)).reverse = x :: (l.take j).reverse := by
        rw [List.take_add_one, hx]; simp
      have HN : Hid (befN g (l.take (j + 1)).reverse = befN g (l.take j).reverse + (if x.list = g.list ∧ x.kind = g.kind then 1 else 0)) := by show _ = _; rw [hnx]; rfl
      have HS : Hid (befS g (l.take (j + 1)).reverse = (befS g (l.take j).reverse || (decide (x.list = g.list ∧ x.kind = g.kind) && (x.text.toList == g.text.toList)))) := by show _ = _; rw [hnx]; rfl
      have hbn : befN g (l.take j).reverse ≤ j := befN_le g _ j (by simp; omega)
      clear hnx hsl h
      have HX : Hid (l[j]? = some x) := hx
      have HG : Hid (l[i]? = some g) := hg
      clear hx hg
      generalize hBN : befN g (l.take j).reverse = bn at *
      generalize hBS : befS g (l.take j).reverse = bs at *
      clear hBN hBS
      have n0 : (bn : Int) ≤ 100000 := by omega
      cases hL : (x.list == g.list) with
      | false =>
        have hL' : Hid (¬ (x.list = g.list ∧ x.kind = g.kind)) := fun hc => by have := beq_eq_false_iff_ne.1 hL; exact this hc.1
        go_wp2_with fail
        go_quiet (fail)
        go_wp2_with fail
        go_roundg (gk - 1)
        case measure => omega
        case rel => exact ⟨j + 1, by omega, by rw [HN.out, if_neg hL'.out]; rfl, by rw [HS.out, decide_eq_false hL'.out]; simp, by go_num, HH.out, below_drewN HB.out _⟩
      | true =>
        have hLe : x.list = g.list := by simpa using hL
        cases hK : (x.kind == g.kind) with
        | false =>
          have hL' : Hid (¬ (x.list = g.list ∧ x.kind = g.kind)) := fun hc => by have := beq_eq_false_iff_ne.1 hK; exact this hc.2
          clear hLe
          go_wp2_with fail
          go_quiet (fail)
          go_wp2_with fail
          go_roundg (gk - 1)
          case measure => omega
          case rel => exact ⟨j + 1, by omega, by rw [HN.out, if_neg hL'.out]; rfl, by rw [HS.out, decide_eq_false hL'.out]; simp, by go_num, HH.out, below_drewN HB.out _⟩
        | true =>
          have hY : Hid (x.list = g.list ∧ x.kind = g.kind) := ⟨hLe, by simpa using hK⟩
          clear hLe
          cases bs with
          | true =>
            go_wp2_with fail
            go_quiet (fail)
            go_wp2_with fail
            go_quiet (fail)
            go_wp2_with fail
            go_roundg (gk - 1)
            case measure => omega
            case rel => exact ⟨j + 1, by omega, by rw [HN.out, if_pos hY.out]; rfl, by rw [HS.out]; simp, by go_num, HH.out, below_drewN HB.out _⟩
          | false =>
            go_wp2_with fail
            go_quiet (fail)
            go_wp2_with fail
            go_quiet (fail)
            go_wp2_with fail
            go_roundg (gk - 1)
            case measure => omega
            case rel => exact ⟨j + 1, by omega, by rw [HN.out, if_pos hY.out]; rfl, by rw [HS.out, decide_eq_true hY.out]; simp, by go_num, HH.out, below_drewN HB.out _⟩
    · have hji : j = i := by omega
      have hd : decide ((j : Int) < (i : Int)) = false := decide_eq_false (by omega)
      subst hji
      go_wp2_with fail
      go_ret2
      exact ⟨HB.out, rfl⟩

/-- Is the letter of sign g the name of a rule ahead? Of the signs ahead of g (the nearest first); g itself may be a name. -/
def lastR : List SG → Nat
  | [] => 0
  | x :: r => if x.kind = 1 then r.length + 1 else lastR r
def isR (g x : SG) : Bool := decide (x.kind = 1) && (x.text.toList == g.text.toList)
/-- last as Go reckons it, of the first n signs. -/
def lastI (l : List SG) (n : Nat) : Int := (lastR (l.take n).reverse : Int) - 1
theorem lastR_le (l : List SG) : lastR l ≤ l.length := by
  induction l with
  | nil => exact Nat.le_refl _
  | cons x r ih => simp only [lastR, List.length_cons]; split <;> omega

set_option maxRecDepth 100000 in
set_option maxHeartbeats 400000 in
theorem named_any (b cap : Nat) (l : List SG) (i : Nat) (g : SG) (w : World) (h : SL w b l) (hl : l.length ≤ 100000) (hg : l[i]? = some g) :
    Calls Tryz.prog 136 #[.slice (some ⟨b, 0, none⟩) l.length cap, .int .i64 i] w fun e w' => Below w.heap.size w w' ∧ e = .returned (.bool ((l.take (lastR (l.take (i + 1)).reverse - 1)).any (isR g))) := by
  go_enter Tryz.func136, Tryz.ntmps136
  go_wp2_with fail
  have hil : i < l.length := (List.getElem?_eq_some_iff.1 hg).1
  go_loopg [5, 6] (i + 1) (fun n x y wr => ∃ (j : Nat), n + j = i + 1 ∧ x = .int .i64 (lastI l j) ∧ y = .int .i64 j ∧ wr.heap = w.heap ∧ Below w.heap.size w wr)
  case atStart => exact ⟨0, by omega, rfl, rfl, rfl, Below.refl _ _⟩
  case round =>
    obtain ⟨j, hn, rfl, rfl, hh, hb⟩ := hrel
    have HB : Hid (Below w.heap.size w wr) := hb
    have HH : Hid (wr.heap = w.heap) := hh
    have hsl : SL wr b l := h.of_block (by rw [hh])
    have i0 : (0 : Int) ≤ (i : Int) := by omega
    have i1 : (i : Int) < (l.length : Int) := by omega
    have j0 : (0 : Int) ≤ (j : Int) := by omega
    clear hb hh
    by_cases hlt : j ≤ i
    · have hlt' : (j : Int) ≤ (i : Int) := by omega
      have j1 : (j : Int) < (l.length : Int) := by omega
      obtain ⟨x, hx⟩ : ∃ x, l[j]? = some x := ⟨l[j]'(by omega), List.getElem?_eq_getElem (by omega)⟩
      obtain ⟨x0, x1, x2, x3, x4⟩ := hsl j x hx
      have hnx : (l.take (j + 1)).reverse = x :: (l.take j).reverse := by
        rw [List.take_add_one, hx]; simp
      have HN : Hid (lastI l (j + 1) = if x.kind = 1 then (j : Int) else lastI l j) := by
        show _ = _
        unfold lastI
        rw [hnx]
        simp only [lastR, List.length_reverse, List.length_take]
        split
        · rw [Nat.min_eq_left (by omega)]; omega
        · rfl
      clear hnx hsl
      have HX : Hid (l[j]? = some x) := hx
      clear hx
      cases hK : (x.kind == 1) with
      | false =>
        have hK' : Hid (¬ x.kind = 1) := fun hc => by have := beq_eq_false_iff_ne.1 hK; exact this hc
        go_wp2_with fail
        go_roundg (gk - 1)
        case measure => omega
        case rel => exact ⟨j + 1, by omega, by rw [HN.out, if_neg hK'.out], by go_num, HH.out, HB.out⟩
      | true =>
        have hK' : Hid (x.kind = 1) := by show _ = _; simpa using hK
        go_wp2_with fail
        go_roundg (gk - 1)
        case measure => omega
        case rel => exact ⟨j + 1, by omega, by rw [HN.out, if_pos hK'.out], by go_num, HH.out, HB.out⟩
    · have hji : j = i + 1 := by omega
      have hd : ¬ (j : Int) ≤ (i : Int) := by omega
      subst hji
      have hlr := lastR_le (l.take (i + 1)).reverse
      have HG : Hid (l[i]? = some g) := hg
      have HSL : Hid (SL wr b l) := hsl
      obtain ⟨g0, g1, g2, g3, g4⟩ := hsl i g hg
      unfold lastI
      clear hg hsl h
      simp only [List.length_reverse, List.length_take] at hlr
      rw [Nat.min_eq_left (by omega)] at hlr
      generalize hm : lastR (l.take (i + 1)).reverse = m at *
      have HMM : Hid (lastR (l.take (i + 1)).reverse = m) := hm
      clear hm
      go_wp2_with fail
      clear g0 g1 g2 g3 g4
      go_loopg [7] m (fun n x wz => ∃ (j : Nat), n + j = m ∧ j ≤ m - 1 ∧ x = .int .i64 j ∧ Hid ((l.take j).any (isR g) = false) ∧ wz.heap = w.heap ∧ Below w.heap.size w wz)
      case atStart => exact ⟨0, by omega, by omega, rfl, rfl, HH.out, HB.out⟩
      case round =>
        obtain ⟨j, hn, hjm, rfl, HF, hh, hb⟩ := hrel
        have HB2 : Hid (Below w.heap.size w wr) := hb
        have HH2 : Hid (wr.heap = w.heap) := hh
        have hsl : SL wr b l := HSL.out.of_block (by rw [hh, HH.out])
        obtain ⟨g0, g1, g2, g3, g4⟩ := hsl i g HG.out
        have j0 : (0 : Int) ≤ (j : Int) := by omega
        clear hb hh
        by_cases hlt : j < m - 1
        · have hlt' : (j : Int) < (m : Int) - 1 := by omega
          have j1 : (j : Int) < (l.length : Int) := by omega
          obtain ⟨x, hx⟩ : ∃ x, l[j]? = some x := ⟨l[j]'(by omega), List.getElem?_eq_getElem (by omega)⟩
          obtain ⟨x0, x1, x2, x3, x4⟩ := hsl j x hx
          have HN : Hid ((l.take (j + 1)).any (isR g) = isR g x) := by
            show _ = _
            rw [List.take_add_one, hx, List.any_append, HF.out]; simp
          have HY : Hid (isR g x = true → (l.take (m - 1)).any (isR g) = true) := fun h1 => by
            rw [List.any_eq_true]
            refine ⟨x, ?_, h1⟩
            rw [List.mem_iff_getElem?]
            exact ⟨j, by rw [List.getElem?_take_of_lt hlt]; exact hx⟩
          clear hsl hx
          cases hK : (x.kind == 1) with
          | false =>
            have HI : Hid (isR g x = false) := by
              show _ = _
              have := beq_eq_false_iff_ne.1 hK
              simp [isR, this]
            go_wp2_with fail
            go_quiet (fail)
            go_wp2_with fail
            go_roundg (gk - 1)
            case measure => omega
            case rel => exact ⟨j + 1, by omega, by omega, by go_num, HN.out.trans HI.out, HH2.out, below_drewN HB2.out _⟩
          | true =>
            cases hT : (x.text.toList == g.text.toList) with
            | false =>
              have HI : Hid (isR g x = false) := by
                show _ = _
                simp only [isR, hT]; simp
              go_wp2_with fail
              go_quiet (fail)
              go_wp2_with fail
              go_roundg (gk - 1)
              case measure => omega
              case rel => exact ⟨j + 1, by omega, by omega, by go_num, HN.out.trans HI.out, HH2.out, below_drewN HB2.out _⟩
            | true =>
              have HI : Hid ((l.take (m - 1)).any (isR g) = true) := HY.out (by
                have := beq_iff_eq.1 hK
                simp only [isR, hT, this]; simp)
              go_wp2_with fail
              go_quiet (fail)
              go_wp2_with fail
              go_ret
              exact ⟨below_drewN HB2.out _, by rw [HMM.out, HI.out]; rfl⟩
        · have hji : j = m - 1 := by omega
          have hd : ¬ (j : Int) < (m : Int) - 1 := by omega
          have HI : Hid ((l.take (m - 1)).any (isR g) = false) := by show _ = _; rw [← hji]; exact HF.out
          clear hji
          go_wp2_with fail
          go_ret
          exact ⟨HB2.out, by rw [HMM.out, HI.out]; rfl⟩
end Go.Proofs.YtaebngpoagjafaaGreat
