/-
  OUR OWN: the document's reader: one step.
  OUR OWN: the document's reader as a machine: every step; that it ends, and in how many steps; in the large.
  OUR OWN: the reader's machine: that it ends, in how many steps; in the large.
-/
import Derived.Test.YtegknlhadjhbdaaGreatQ12
import Derived.Test.YtegknlhadjhbdaaGreatQ13
import Derived.Test.YtegknlhadjhbdaaGreatQ08
namespace Go.Proofs.YtegknlhadjhbdaaGreat
open Go.RowKit

attribute [local go_sem ↓] Go.wp_at_zero Go.wp_at_succ
set_option maxRecDepth 100000 in
set_option maxHeartbeats 6400000 in
theorem step_items (base B : Nat) (s : ByteArray) (k p : Nat) (c kd d l : Int) (sv gv : Value) (fs : List FR) (gs : List SG) (w : World) (h : RS w base B s k sv gv fs gs) (hs : s.size ≤ 2000) (hk : k ≤ s.size) (hpe : T.sk s k = p) (hc : T.ch s p = c)
    (_hlen : fs.length + 7 ≤ 1099511627776) (_hlen2 : gs.length + 1 ≤ 1099511627776) (hc2 : c = 44) :
    Calls Tryz.prog 132 #[.pointer (some ⟨B, 0, none⟩), frA ⟨260, kd, d, l⟩] w (SP base B s sv gv fs gs w ⟨true, p, [byF 44, ⟨259, kd, d, l⟩, ⟨260, kd, d, l⟩], []⟩) := by
  show Calls Tryz.prog 132 #[.pointer (some ⟨B, 0, none⟩), .agg #[.int .i64 260, .int .i64 kd, .int .i64 d, .int .i64 l]] w _
  have hpk : p ≤ s.size := by rw [← hpe]; exact T.sk_le hk
  have hpee := fun (wz : World) (hz : RS wz base B s k sv gv fs gs) => peek_any base B s k sv gv fs gs wz hs hk hz
  rw [hpe, hc] at hpee
  have HPE : Hid (∀ (wz : World), RS wz base B s k sv gv fs gs → Calls Tryz.prog 133 #[.pointer (some ⟨B, 0, none⟩)] wz fun e w' => e = .returned (.int .i64 c) ∧ RS w' base B s p sv gv fs gs ∧ Mv base B sv gv sv gv wz w') := hpee
  clear hpee
  go_enter Tryz.func132, Tryz.ntmps132
  go_wp2_with fail
  have hA := h.alloc (.cells #[.int .i64 260, .int .i64 kd, .int .i64 d, .int .i64 l] 182)
  have hF : FB (w.alloc (.cells #[.int .i64 260, .int .i64 kd, .int .i64 d, .int .i64 l] 182)) w.heap.size ⟨260, kd, d, l⟩ := ⟨by simp, by simp, by simp, by simp⟩
  have hou := h.outNew
  have hwl : w.heap.size < (w.alloc (.cells #[.int .i64 260, .int .i64 kd, .int .i64 d, .int .i64 l] 182)).heap.size := by simp
  have hmv : Mv base B sv gv sv gv w (w.alloc (.cells #[.int .i64 260, .int .i64 kd, .int .i64 d, .int .i64 l] 182)) := Mv.alloc h.bs _
  refine (HPE.out _ hA).mono ?_
  rintro e w1 ⟨rfl, hr1, hm1⟩
  have hk1 := hm1.kept w.heap.size hwl hou
  have hF1 := hF.of_block hk1.1
  have hwl1 : w.heap.size < w1.heap.size := Nat.lt_of_lt_of_le hwl hm1.bel.size
  have HM1 : Hid (Mv base B sv gv sv gv w w1) := hmv.trans hm1
  have HR1 : Hid (RS w1 base B s p sv gv fs gs) := hr1
  have HF1 : Hid (FB w1 w.heap.size ⟨260, kd, d, l⟩) := hF1
  have b0 : w1.cell? ⟨w.heap.size, 0, none⟩ = some (.int .i64 260) := hF1.c0
  clear hmv hm1 hA hF hwl hr1 hk1 h hF1
  have hcc : (c == 44) = true := by rw [hc2]; decide
  have b1 : w1.cell? ⟨w.heap.size, 1, none⟩ = some (.int .i64 kd) := HF1.out.c1
  have b2 : w1.cell? ⟨w.heap.size, 2, none⟩ = some (.int .i64 d) := HF1.out.c2
  have b3 : w1.cell? ⟨w.heap.size, 3, none⟩ = some (.int .i64 l) := HF1.out.c3
  go_wp2_with fail
  have HR2 : Hid (RS (w1.alloc (.cells #[.int .i64 259, .int .i64 kd, .int .i64 d, .int .i64 l] 182)) base B s p sv gv fs gs) := HR1.out.alloc _
  have HM2 : Hid (Mv base B sv gv sv gv w (w1.alloc (.cells #[.int .i64 259, .int .i64 kd, .int .i64 d, .int .i64 l] 182))) := HM1.out.trans (Mv.alloc HR1.out.bs _)
  have hF2 : FB (w1.alloc (.cells #[.int .i64 259, .int .i64 kd, .int .i64 d, .int .i64 l] 182)) w.heap.size ⟨260, kd, d, l⟩ := HF1.out.of_block (Below.heap_alloc _ _ _ hwl1)
  clear b0 b1 b2 b3 HF1
  have b0 : (w1.alloc (.cells #[.int .i64 259, .int .i64 kd, .int .i64 d, .int .i64 l] 182)).cell? ⟨w.heap.size, 0, none⟩ = some (.int .i64 260) := hF2.c0
  have b1 : (w1.alloc (.cells #[.int .i64 259, .int .i64 kd, .int .i64 d, .int .i64 l] 182)).cell? ⟨w.heap.size, 1, none⟩ = some (.int .i64 kd) := hF2.c1
  have b2 : (w1.alloc (.cells #[.int .i64 259, .int .i64 kd, .int .i64 d, .int .i64 l] 182)).cell? ⟨w.heap.size, 2, none⟩ = some (.int .i64 d) := hF2.c2
  have b3 : (w1.alloc (.cells #[.int .i64 259, .int .i64 kd, .int .i64 d, .int .i64 l] 182)).cell? ⟨w.heap.size, 3, none⟩ = some (.int .i64 l) := hF2.c3
  have e0 : (w1.alloc (.cells #[.int .i64 259, .int .i64 kd, .int .i64 d, .int .i64 l] 182)).cell? ⟨w1.heap.size, 0, none⟩ = some (.int .i64 259) := by simp
  have e1 : (w1.alloc (.cells #[.int .i64 259, .int .i64 kd, .int .i64 d, .int .i64 l] 182)).cell? ⟨w1.heap.size, 1, none⟩ = some (.int .i64 kd) := by simp
  have e2 : (w1.alloc (.cells #[.int .i64 259, .int .i64 kd, .int .i64 d, .int .i64 l] 182)).cell? ⟨w1.heap.size, 2, none⟩ = some (.int .i64 d) := by simp
  have e3 : (w1.alloc (.cells #[.int .i64 259, .int .i64 kd, .int .i64 d, .int .i64 l] 182)).cell? ⟨w1.heap.size, 3, none⟩ = some (.int .i64 l) := by simp
  have hz : w1.heap.size < (w1.alloc (.cells #[.int .i64 259, .int .i64 kd, .int .i64 d, .int .i64 l] 182)).heap.size := by simp
  clear hF2
  generalize w1.alloc (.cells #[.int .i64 259, .int .i64 kd, .int .i64 d, .int .i64 l] 182) = w2 at *
  have hz' : w.heap.size < w2.heap.size := by omega
  have hoI : Out B sv gv w1.heap.size := HR1.out.outNew
  have hkeepB : Hid (∀ (wz : World), Below w2.heap.size w2 wz → wz.cell? ⟨w.heap.size, 0, none⟩ = some (.int .i64 260) ∧ wz.cell? ⟨w.heap.size, 1, none⟩ = some (.int .i64 kd) ∧ wz.cell? ⟨w.heap.size, 2, none⟩ = some (.int .i64 d) ∧ wz.cell? ⟨w.heap.size, 3, none⟩ = some (.int .i64 l) ∧ wz.cell? ⟨w1.heap.size, 0, none⟩ = some (.int .i64 259) ∧ wz.cell? ⟨w1.heap.size, 1, none⟩ = some (.int .i64 kd) ∧ wz.cell? ⟨w1.heap.size, 2, none⟩ = some (.int .i64 d) ∧ wz.cell? ⟨w1.heap.size, 3, none⟩ = some (.int .i64 l)) := by
    intro wz hb
    exact ⟨(hb.cell (p := ⟨w.heap.size, 0, none⟩) hz').trans b0, (hb.cell (p := ⟨w.heap.size, 1, none⟩) hz').trans b1, (hb.cell (p := ⟨w.heap.size, 2, none⟩) hz').trans b2, (hb.cell (p := ⟨w.heap.size, 3, none⟩) hz').trans b3, (hb.cell (p := ⟨w1.heap.size, 0, none⟩) hz).trans e0, (hb.cell (p := ⟨w1.heap.size, 1, none⟩) hz).trans e1, (hb.cell (p := ⟨w1.heap.size, 2, none⟩) hz).trans e2, (hb.cell (p := ⟨w1.heap.size, 3, none⟩) hz).trans e3⟩
  have hkeep : Hid (∀ (wz w' : World) (sv' gv' : Value), Below w2.heap.size w2 wz → Mv base B sv gv sv' gv' wz w' → w'.cell? ⟨w.heap.size, 0, none⟩ = some (.int .i64 260) ∧ w'.cell? ⟨w.heap.size, 1, none⟩ = some (.int .i64 kd) ∧ w'.cell? ⟨w.heap.size, 2, none⟩ = some (.int .i64 d) ∧ w'.cell? ⟨w.heap.size, 3, none⟩ = some (.int .i64 l) ∧ w'.cell? ⟨w1.heap.size, 0, none⟩ = some (.int .i64 259) ∧ w'.cell? ⟨w1.heap.size, 1, none⟩ = some (.int .i64 kd) ∧ w'.cell? ⟨w1.heap.size, 2, none⟩ = some (.int .i64 d) ∧ w'.cell? ⟨w1.heap.size, 3, none⟩ = some (.int .i64 l)) := by
    intro wz w' sv' gv' hb hm
    have q := hkeepB.out wz hb
    have eI : w'.heap[w1.heap.size]? = wz.heap[w1.heap.size]? := (hm.kept _ (Nat.lt_of_lt_of_le hz hb.size) hoI).1
    have eF : w'.heap[w.heap.size]? = wz.heap[w.heap.size]? := (hm.kept _ (Nat.lt_of_lt_of_le hz' hb.size) hou).1
    exact ⟨by rw [World.cell?_of_block (w := wz) eF]; exact q.1, by rw [World.cell?_of_block (w := wz) eF]; exact q.2.1, by rw [World.cell?_of_block (w := wz) eF]; exact q.2.2.1, by rw [World.cell?_of_block (w := wz) eF]; exact q.2.2.2.1, by rw [World.cell?_of_block (w := wz) eI]; exact q.2.2.2.2.1, by rw [World.cell?_of_block (w := wz) eI]; exact q.2.2.2.2.2.1, by rw [World.cell?_of_block (w := wz) eI]; exact q.2.2.2.2.2.2.1, by rw [World.cell?_of_block (w := wz) eI]; exact q.2.2.2.2.2.2.2⟩
  go_region_held3 (fun w' => w'.cell? ⟨w.heap.size, 0, none⟩ = some (.int .i64 260) ∧ w'.cell? ⟨w.heap.size, 1, none⟩ = some (.int .i64 kd) ∧ w'.cell? ⟨w.heap.size, 2, none⟩ = some (.int .i64 d) ∧ w'.cell? ⟨w.heap.size, 3, none⟩ = some (.int .i64 l) ∧ w'.cell? ⟨w1.heap.size, 0, none⟩ = some (.int .i64 259) ∧ w'.cell? ⟨w1.heap.size, 1, none⟩ = some (.int .i64 kd) ∧ w'.cell? ⟨w1.heap.size, 2, none⟩ = some (.int .i64 d) ∧ w'.cell? ⟨w1.heap.size, 3, none⟩ = some (.int .i64 l)) (first | (refine hkeepB.out _ ?_; (repeat (first | exact Below.refl _ _ | refine Below.drew ?_ | refine Below.alloc ?_ (by simp <;> omega) _)); done) | (refine hkeep.out _ _ _ _ ?_ hm; (repeat (first | exact Below.refl _ _ | refine Below.drew ?_ | refine Below.alloc ?_ (by simp <;> omega) _)); done)) (first | (go_at_call 170; refine (byteOf_any _ _ (by omega) (by omega)).mono ?_; rintro e w' ⟨rfl, rfl⟩) | (go_at_call 131; refine (push_newD base B _ _ s p sv gv fs [byF 44, ⟨259, kd, d, l⟩, ⟨260, kd, d, l⟩] gs _ _ (HR2.out.alloc _) (by simp) (by rfl) (by simp; omega) _ rfl).mono ?_; rintro e w' ⟨rfl, sv', hr, hm⟩))
  all_goals
    have HR3 : Hid (RS w' base B s p sv' gv ([byF 44, ⟨259, kd, d, l⟩, ⟨260, kd, d, l⟩] ++ fs) gs) := hr
    have HM3 : Hid (Mv base B sv gv sv' gv w w') := (HM2.out.trans (Mv.alloc HR2.out.bs _)).trans hm
    clear hr hm
    go_wp2_with fail
    go_ret
    exact ⟨rfl, sv', gv, HR3.out, HM3.out⟩
end Go.Proofs.YtegknlhadjhbdaaGreat
namespace Go.Proofs.YtegknlhadjhbdaaGreat
open Go.RowKit

theorem T.ch_pos {s : ByteArray} {k : Nat} (h : 0 ≤ T.ch s k) : k < s.size := by
  by_cases hk : k < s.size
  · exact hk
  · rw [T.ch_ge hk] at h; omega

/-- EVERY STEP OF THE READER IS THE MACHINE'S. -/
theorem step_any (base B : Nat) (s : ByteArray) (k : Nat) (f : FR) (sv gv : Value) (fs : List FR) (gs : List SG) (w : World) (h : RS w base B s k sv gv fs gs) (hs : s.size ≤ 2000) (hk : k ≤ s.size)
    (hlen : fs.length + 7 ≤ 1099511627776) (hlen2 : gs.length + 1 ≤ 1099511627776) (hsy : 0 ≤ f.sym) (d0 : 0 ≤ f.depth) (d1 : f.depth ≤ 1000000) :
    Calls Tryz.prog 132 #[.pointer (some ⟨B, 0, none⟩), frA f] w (SP base B s sv gv fs gs w (stepR s k f)) := by
  obtain ⟨sy, kd, d, l⟩ := f
  simp only at hsy d0 d1
  by_cases h0 : sy = 256
  · subst h0
    exact step_rule base B s k _ _ kd d l sv gv fs gs w h hs hk rfl rfl hlen hlen2
  by_cases h1 : sy = 257
  · subst h1
    by_cases hc : T.ch s (T.sk s k) = 59
    · have e : stepR s k ⟨257, kd, d, l⟩ = ⟨true, T.sk s k, [byF 59, ⟨256, 0, 0, 0⟩, ⟨257, 0, 0, 0⟩], []⟩ := by simp [stepR, hc]
      rw [e]; exact step_more base B s k _ _ kd d l sv gv fs gs w h hs hk rfl rfl hlen hlen2 hc
    · have e : stepR s k ⟨257, kd, d, l⟩ = ⟨true, T.sk s k, [], []⟩ := by simp [stepR, hc]
      rw [e]; exact step_more_no base B s k _ _ kd d l sv gv fs gs w h hs hk rfl rfl hlen hlen2 hc
  by_cases h2 : sy = 258
  · subst h2
    exact step_expr base B s k _ _ kd d l sv gv fs gs w h hs hk rfl rfl hlen hlen2 d0 d1 _ rfl
  by_cases h3 : sy = 259
  · subst h3
    exact step_item base B s k _ _ kd d l sv gv fs gs w h hs hk rfl rfl hlen hlen2 d0 d1
  by_cases h4 : sy = 260
  · subst h4
    by_cases hc : T.ch s (T.sk s k) = 44
    · have e : stepR s k ⟨260, kd, d, l⟩ = ⟨true, T.sk s k, [byF 44, ⟨259, kd, d, l⟩, ⟨260, kd, d, l⟩], []⟩ := by simp [stepR, hc]
      rw [e]; exact step_items base B s k _ _ kd d l sv gv fs gs w h hs hk rfl rfl hlen hlen2 hc
    · have e : stepR s k ⟨260, kd, d, l⟩ = ⟨true, T.sk s k, [], []⟩ := by simp [stepR, hc]
      rw [e]; exact step_items_no base B s k _ _ kd d l sv gv fs gs w h hs hk rfl rfl hlen hlen2 hc
  by_cases h5 : sy = 261
  · subst h5
    exact step_num base B s k _ _ kd d l sv gv fs gs w h hs hk rfl rfl hlen hlen2 _ rfl
  by_cases h6 : sy = 262
  · subst h6
    exact step_bits base B s k _ _ kd d l sv gv fs gs w h hs hk rfl rfl hlen hlen2 _ rfl
  by_cases h7 : sy = 263
  · subst h7
    by_cases hl : T.ch s (T.sk s k) < 97
    · have e : stepR s k ⟨263, kd, d, l⟩ = ⟨false, T.sk s k, [], []⟩ := by simp [stepR]; omega
      rw [e]; exact step_letter_lo base B s k _ _ kd d l sv gv fs gs w h hs hk rfl rfl hlen hlen2 hl
    · by_cases hh : 122 < T.ch s (T.sk s k)
      · have e : stepR s k ⟨263, kd, d, l⟩ = ⟨false, T.sk s k, [], []⟩ := by simp [stepR]; omega
        rw [e]; exact step_letter_hi base B s k _ _ kd d l sv gv fs gs w h hs hk rfl rfl hlen hlen2 hh
      · have e : stepR s k ⟨263, kd, d, l⟩ = ⟨true, T.sk s k + 1, [], [⟨kd, T.sk s k, d, l, s.extract (T.sk s k) (T.sk s k + 1)⟩]⟩ := by simp [stepR]; omega
        rw [e]; exact step_letter base B s k _ _ kd d l sv gv fs gs w h hs hk rfl rfl hlen hlen2 (by omega) (by omega) (T.ch_pos (by omega))
  have hn : sy ≠ 256 ∧ sy ≠ 257 ∧ sy ≠ 258 ∧ sy ≠ 259 ∧ sy ≠ 260 ∧ sy ≠ 261 ∧ sy ≠ 262 ∧ sy ≠ 263 := ⟨h0, h1, h2, h3, h4, h5, h6, h7⟩
  by_cases hc : T.ch s (T.sk s k) = sy
  · have e : stepR s k ⟨sy, kd, d, l⟩ = ⟨true, T.sk s k + 1, [], []⟩ := by simp [stepR, hn, hc]
    rw [e]; exact step_byte base B s k _ _ kd d l sv gv fs gs w h hs hk rfl rfl hlen hlen2 sy hn hc (T.ch_pos (by omega))
  · have e : stepR s k ⟨sy, kd, d, l⟩ = ⟨false, T.sk s k, [], []⟩ := by simp [stepR, hn, hc]
    rw [e]; exact step_byte_no base B s k _ _ kd d l sv gv fs gs w h hs hk rfl rfl hlen hlen2 sy hn hc
end Go.Proofs.YtegknlhadjhbdaaGreat
namespace Go.Proofs.YtegknlhadjhbdaaGreat
open Go.RowKit

theorem T.dig_lt {s : ByteArray} {k : Nat} (h : T.dig (T.ch s k) = true) : k < s.size := by
  by_cases hk : k < s.size
  · exact hk
  · rw [T.ch_ge hk] at h; simp [T.dig] at h
theorem T.ch_nn {s : ByteArray} {k : Nat} (h : 0 ≤ T.ch s k) : k < s.size := by
  by_cases hk : k < s.size
  · exact hk
  · rw [T.ch_ge hk] at h; omega
theorem T.dgF_bd (s : ByteArray) (most lim : Int) (plain : Bool) (p : Nat) : ∀ n j, j ≤ s.size → j ≤ (T.dgF s most lim plain p n j).2 ∧ (T.dgF s most lim plain p n j).2 ≤ s.size := by
  intro n
  induction n with
  | zero => intro j h; exact ⟨Nat.le_refl _, h⟩
  | succ n ih =>
    intro j h
    cases hd : T.dig (T.ch s j) with
    | false => rw [T.dgF_end hd]; exact ⟨Nat.le_refl _, h⟩
    | true =>
      cases hs : T.stp most lim plain (T.ch s j) ((j : Int) - p) (T.ch s p) with
      | true => rw [T.dgF_stop hd hs]; exact ⟨Nat.le_refl _, h⟩
      | false =>
        rw [T.dgF_next hd hs]
        have := ih (j + 1) (T.dig_lt hd)
        exact ⟨by omega, this.2⟩
theorem T.dg_bd (s : ByteArray) (most lim : Int) (plain : Bool) (p : Nat) (h : p ≤ s.size) : p ≤ (T.dg s most lim plain p).2 ∧ (T.dg s most lim plain p).2 ≤ s.size := T.dgF_bd s most lim plain p _ p h

/-- A frame that pushes nothing. -/
def leaf (f : FR) : Prop := 0 ≤ f.sym ∧ f.sym ≠ 256 ∧ f.sym ≠ 257 ∧ f.sym ≠ 258 ∧ f.sym ≠ 259 ∧ f.sym ≠ 260
/-- What a step pushes: nothing, or a leaf first. -/
def Fst (l : List FR) (d : Int) : Prop := l = [] ∨ ∃ f r, l = f :: r ∧ leaf f ∧ r.length ≤ 6 ∧ (∀ g ∈ l, 0 ≤ g.sym ∧ 0 ≤ g.depth ∧ g.depth ≤ d + 1)
structure SF (s : ByteArray) (k : Nat) (f : FR) (r : Res) : Prop where
  lo : k ≤ r.at_
  hi : r.at_ ≤ s.size
  sg : r.sg.length ≤ 1
  fst : Fst r.push f.depth
  no : r.ok = false → r.push = [] ∧ r.sg = []
  lf : leaf f → r.push = [] ∧ (r.ok = true → k + 1 ≤ r.at_)
theorem fst_leaf_byte {c : Int} (h : 0 ≤ c) (h2 : c < 256) : leaf (byF c) := ⟨h, by show c ≠ 256; omega, by show c ≠ 257; omega, by show c ≠ 258; omega, by show c ≠ 259; omega, by show c ≠ 260; omega⟩

theorem exprL_fst (d : Int) (p : Nat) (c : Int) (l : List FR) (hd : 0 ≤ d) (h : exprL d p c = some l) : Fst l d := by
  have key : ∀ (c0 : Int) (r : List FR), 0 ≤ c0 → c0 < 256 → r.length ≤ 6 → (∀ g ∈ r, 0 ≤ g.sym ∧ 0 ≤ g.depth ∧ g.depth ≤ d + 1) → Fst (byF c0 :: r) d := fun c0 r h0 h1 h2 h3 =>
    .inr ⟨byF c0, r, rfl, fst_leaf_byte h0 h1, h2, by
      intro g hg
      rcases List.mem_cons.1 hg with rfl | hg
      · exact ⟨h0, by show (0 : Int) ≤ 0; omega, by show (0 : Int) ≤ d + 1; omega⟩
      · exact h3 g hg⟩
  unfold exprL at h
  repeat' split at h
  all_goals first
    | (simp at h; done)
    | (injection h with h; subst h; refine key _ _ (by omega) (by omega) (by simp) ?_; simp [byF]; omega)

theorem itemL_fst (f : FR) (hd : 0 ≤ f.depth) : Fst (itemL f) f.depth := by
  have key : ∀ (f0 : FR) (r : List FR), leaf f0 → r.length ≤ 6 → (∀ g ∈ f0 :: r, 0 ≤ g.sym ∧ 0 ≤ g.depth ∧ g.depth ≤ f.depth + 1) → Fst (f0 :: r) f.depth := fun f0 r h0 h2 h3 => .inr ⟨f0, r, rfl, h0, h2, h3⟩
  unfold itemL
  repeat' split
  all_goals (refine key _ _ (by simp [leaf]) (by simp) ?_; simp [byF]; try omega)

theorem stepR_sf (s : ByteArray) (k : Nat) (f : FR) (hk : k ≤ s.size) (hs : 0 ≤ f.sym) (hd : 0 ≤ f.depth) : SF s k f (stepR s k f) := by
  have h1 := T.sk_ge s k
  have h2 := T.sk_le hk
  unfold stepR
  generalize T.sk s k = p at *
  simp only
  split
  · next e => exact ⟨h1, h2, by simp, .inr ⟨_, _, rfl, by simp [leaf], by simp, by simp [byF]; omega⟩, by simp, fun hl => absurd e hl.2.1⟩
  · split
    · next e =>
      split
      · exact ⟨h1, h2, by simp, .inr ⟨_, _, rfl, fst_leaf_byte (by omega) (by omega), by simp, by simp [byF]; omega⟩, by simp, fun hl => absurd e hl.2.2.1⟩
      · exact ⟨h1, h2, by simp, .inl rfl, by simp, fun hl => absurd e hl.2.2.1⟩
    · split
      · next e =>
        split
        · next l hl => exact ⟨h1, h2, by simp, exprL_fst _ _ _ _ hd hl, by simp, fun hl => absurd e hl.2.2.2.1⟩
        · exact ⟨h1, h2, by simp, .inl rfl, by simp, fun hl => absurd e hl.2.2.2.1⟩
      · split
        · next e => exact ⟨h1, h2, by simp, itemL_fst f hd, by simp, fun hl => absurd e hl.2.2.2.2.1⟩
        · split
          · next e =>
            split
            · exact ⟨h1, h2, by simp, .inr ⟨_, _, rfl, fst_leaf_byte (by omega) (by omega), by simp, by simp [byF]; omega⟩, by simp, fun hl => absurd e hl.2.2.2.2.2⟩
            · exact ⟨h1, h2, by simp, .inl rfl, by simp, fun hl => absurd e hl.2.2.2.2.2⟩
          · split
            · have := T.dg_bd s 9 58 true p h2
              split
              · next hc => simp at hc; exact ⟨by show k ≤ (T.dg s 9 58 true p).2; omega, this.2, by simp, .inl rfl, by simp, fun _ => ⟨rfl, fun _ => by show k + 1 ≤ (T.dg s 9 58 true p).2; omega⟩⟩
              · exact ⟨by show k ≤ (T.dg s 9 58 true p).2; omega, this.2, by simp, .inl rfl, by simp, fun _ => ⟨rfl, by simp⟩⟩
            · split
              · have := T.dg_bd s 32 50 false p h2
                split
                · next hc => simp at hc; exact ⟨by show k ≤ (T.dg s 32 50 false p).2; omega, this.2, by simp, .inl rfl, by simp, fun _ => ⟨rfl, fun _ => by show k + 1 ≤ (T.dg s 32 50 false p).2; omega⟩⟩
                · exact ⟨by show k ≤ (T.dg s 32 50 false p).2; omega, this.2, by simp, .inl rfl, by simp, fun _ => ⟨rfl, by simp⟩⟩
              · split
                · split
                  · next hc =>
                    have := T.ch_nn (s := s) (k := p) (by omega)
                    exact ⟨by show k ≤ p + 1; omega, by show p + 1 ≤ s.size; omega, by simp, .inl rfl, by simp, fun _ => ⟨rfl, fun _ => by show k + 1 ≤ p + 1; omega⟩⟩
                  · exact ⟨h1, h2, by simp, .inl rfl, by simp, fun _ => ⟨rfl, by simp⟩⟩
                · split
                  · next hc =>
                    have := T.ch_nn (s := s) (k := p) (by omega)
                    exact ⟨by show k ≤ p + 1; omega, by show p + 1 ≤ s.size; omega, by simp, .inl rfl, by simp, fun _ => ⟨rfl, fun _ => by show k + 1 ≤ p + 1; omega⟩⟩
                  · exact ⟨h1, h2, by simp, .inl rfl, by simp, fun _ => ⟨rfl, by simp⟩⟩

/-- The machine: at most n steps; none: it has not ended by then. Else: did all come that must? where? what was read (the last first)? -/
def runM (s : ByteArray) : Nat → Nat → List FR → List SG → Option (Bool × Nat × List SG)
  | _, k, [], gs => some (true, k, gs)
  | 0, _, _ :: _, _ => none
  | n + 1, k, f :: fs, gs =>
    if (stepR s k f).ok = true then runM s n (stepR s k f).at_ ((stepR s k f).push ++ fs) ((stepR s k f).sg ++ gs) else some (false, (stepR s k f).at_, [])

/-- In the large: one frame and all that it pushes. -/
structure PR where
  ok : Bool
  at_ : Nat
  sg : List SG
  n : Nat
def pL (one : Nat → FR → Option PR) : Nat → List FR → Option PR
  | k, [] => some ⟨true, k, [], 0⟩
  | k, f :: fs => match one k f with
    | none => none
    | some a => if a.ok = true then (match pL one a.at_ fs with
      | none => none
      | some b => some ⟨b.ok, b.at_, b.sg ++ a.sg, a.n + b.n⟩) else some a
def pF (s : ByteArray) : Nat → Nat → FR → Option PR
  | 0, _, _ => none
  | n + 1, k, f =>
    if (stepR s k f).ok = true then (match pL (pF s n) (stepR s k f).at_ (stepR s k f).push with
      | none => none
      | some q => some ⟨q.ok, q.at_, q.sg ++ (stepR s k f).sg, q.n + 1⟩) else some ⟨false, (stepR s k f).at_, [], 1⟩

/-- What the machine does at frames of which it is known in the large. -/
def After (s : ByteArray) (q : PR) (k : Nat) (l : List FR) : Prop := ∀ N fs gs, runM s (N + q.n) k (l ++ fs) gs = if q.ok = true then runM s N q.at_ fs (q.sg ++ gs) else some (false, q.at_, [])

theorem pL_after (s : ByteArray) (one : Nat → FR → Option PR) (h1 : ∀ k f q, one k f = some q → After s q k [f]) : ∀ (l : List FR) (k : Nat) (q : PR), pL one k l = some q → After s q k l := by
  intro l
  induction l with
  | nil =>
    intro k q h
    simp only [pL] at h
    injection h with h
    subst h
    intro N fs gs
    simp
  | cons f r ih =>
    intro k q h N fs gs
    simp only [pL] at h
    split at h
    · simp at h
    · next a ha =>
      have hA := h1 k f a ha
      split at h
      · next hok =>
        split at h
        · simp at h
        · next b hb =>
          injection h with h
          subst h
          have hB := ih a.at_ b hb
          have e := hA (N + b.n) (r ++ fs) gs
          rw [if_pos hok] at e
          simp only [List.cons_append, List.nil_append] at e ⊢
          rw [show N + (a.n + b.n) = N + b.n + a.n from by omega, e, hB, List.append_assoc]
      · next hok =>
        injection h with h
        subst h
        have e := hA N (r ++ fs) gs
        simpa [hok] using e

theorem pF_after (s : ByteArray) : ∀ (n k : Nat) (f : FR) (q : PR), pF s n k f = some q → After s q k [f] := by
  intro n
  induction n with
  | zero => intro k f q h; simp [pF] at h
  | succ n ih =>
    intro k f q h N fs gs
    simp only [pF] at h
    split at h
    · next hok =>
      split at h
      · simp at h
      · next b hb =>
        injection h with h
        subst h
        have hB := pL_after s (pF s n) ih _ _ _ hb
        have e := hB N fs ((stepR s k f).sg ++ gs)
        simp only [List.cons_append, List.nil_append]
        rw [show N + (b.n + 1) = (N + b.n) + 1 from by omega, runM, if_pos hok, e, List.append_assoc]
    · next hok =>
      injection h with h
      subst h
      simp only [List.cons_append, List.nil_append, runM, hok]
      simp

/-- What is known of a frame in the large: it ends; where; in how many steps. -/
structure Ends (s : ByteArray) (k : Nat) (q : PR) (c : Nat) : Prop where
  lo : k ≤ q.at_
  hi : q.at_ ≤ s.size
  yes : q.ok = true → q.n + c ≤ 16 * (q.at_ - k) + 1
  no : q.ok = false → q.n ≤ 16 * (s.size - k) + 4
/-- A list of frames, each of which ends from k on. -/
theorem pL_ends (s : ByteArray) (one : Nat → FR → Option PR) (k0 : Nat) (h1 : ∀ k f, k0 ≤ k → k ≤ s.size → 0 ≤ f.sym → 0 ≤ f.depth → ∃ q, one k f = some q ∧ Ends s k q 0) :
    ∀ (l : List FR) (k : Nat), k0 ≤ k → k ≤ s.size → (∀ f ∈ l, 0 ≤ f.sym ∧ 0 ≤ f.depth) → ∃ q, pL one k l = some q ∧ k ≤ q.at_ ∧ q.at_ ≤ s.size ∧ (q.ok = true → q.n ≤ 16 * (q.at_ - k) + l.length) ∧ (q.ok = false → q.n ≤ 16 * (s.size - k) + 4 + l.length) := by
  intro l
  induction l with
  | nil => intro k hk0 hk _; exact ⟨_, rfl, Nat.le_refl _, hk, by simp, by simp⟩
  | cons f r ih =>
    intro k hk0 hk hl
    obtain ⟨a, ha, hA⟩ := h1 k f hk0 hk (hl f (by simp)).1 (hl f (by simp)).2
    have := hA.lo
    have := hA.hi
    cases hok : a.ok with
    | false =>
      refine ⟨a, by simp [pL, ha, hok], by omega, by omega, by simp [hok], fun _ => ?_⟩
      have := hA.no hok
      omega
    | true =>
      obtain ⟨b, hb, b1, b2, b3, b4⟩ := ih a.at_ (by omega) (by omega) (fun g hg => hl g (by simp [hg]))
      have h3 := hA.yes hok
      refine ⟨⟨b.ok, b.at_, b.sg ++ a.sg, a.n + b.n⟩, by simp [pL, ha, hok, hb], by simp only; omega, b2, ?_, ?_⟩
      · intro hbo
        have := b3 hbo
        simp only [List.length_cons]
        omega
      · intro hbo
        have := b4 hbo
        simp only [List.length_cons]
        omega

theorem pF_ends (s : ByteArray) : ∀ (n k : Nat) (f : FR), k ≤ s.size → 0 ≤ f.sym → 0 ≤ f.depth → 2 * (s.size - k) + 2 ≤ n → ∃ q, pF s n k f = some q ∧ Ends s k q 0 ∧ (leaf f → q.ok = true → k + 1 ≤ q.at_ ∧ q.n = 1) := by
  intro n
  induction n using Nat.strongRecOn with
  | ind n ih =>
    intro k f hk hs hd hn
    cases n with
    | zero => omega
    | succ n =>
      have hS := stepR_sf s k f hk hs hd
      cases hok : (stepR s k f).ok with
      | false =>
        refine ⟨⟨false, (stepR s k f).at_, [], 1⟩, by simp [pF, hok], ⟨hS.lo, hS.hi, by simp, by intro _; simp only; omega⟩, by simp⟩
      | true =>
        have hlo := hS.lo
        have hhi := hS.hi
        rcases hS.fst with hp | ⟨f0, r, hp, hlf, hr, hall⟩
        · refine ⟨⟨true, (stepR s k f).at_, (stepR s k f).sg, 1⟩, by simp [pF, hok, hp, pL], ⟨hS.lo, hS.hi, by intro _; simp only; omega, by simp⟩, fun hl _ => ⟨(hS.lf hl).2 hok, rfl⟩⟩
        · have hnl : ¬ leaf f := fun hl => by have := (hS.lf hl).1; rw [hp] at this; simp at this
          have hf0 := hall f0 (by rw [hp]; simp)
          cases n with
          | zero => omega
          | succ m =>
          -- the leaf
          have hS0 := stepR_sf s (stepR s k f).at_ f0 hS.hi hf0.1 hf0.2.1
          have hp0 := (hS0.lf hlf).1
          cases hok0 : (stepR s (stepR s k f).at_ f0).ok with
          | false =>
            refine ⟨⟨false, (stepR s (stepR s k f).at_ f0).at_, (stepR s k f).sg, 2⟩, by rw [pF, if_pos hok, hp]; simp [pL, pF, hok0], ⟨by have := hS0.lo; simp only; omega, hS0.hi, by simp, by intro _; simp only; omega⟩, fun hl => absurd hl hnl⟩
          | true =>
            have hk1 := (hS0.lf hlf).2 hok0
            have hk2 := hS0.hi
            have e0 : pF s (m + 1) (stepR s k f).at_ f0 = some ⟨true, (stepR s (stepR s k f).at_ f0).at_, (stepR s (stepR s k f).at_ f0).sg, 1⟩ := by rw [pF, if_pos hok0, hp0]; simp [pL]
            obtain ⟨b, hb, b1, b2, b3, b4⟩ := pL_ends s (pF s (m + 1)) (stepR s (stepR s k f).at_ f0).at_ (fun k' g h1 h2 h3 h4 => by
              obtain ⟨q, hq, hE, _⟩ := ih (m + 1) (by omega) k' g h2 h3 h4 (by omega)
              exact ⟨q, hq, hE⟩) r (stepR s (stepR s k f).at_ f0).at_ (Nat.le_refl _) hk2 (fun g hg => by have := hall g (by rw [hp]; simp [hg]); exact ⟨this.1, this.2.1⟩)
            refine ⟨⟨b.ok, b.at_, b.sg ++ (stepR s (stepR s k f).at_ f0).sg ++ (stepR s k f).sg, 1 + b.n + 1⟩, by rw [pF, if_pos hok, hp]; simp [pL, e0, hb], ⟨by simp only; omega, b2, ?_, ?_⟩, fun hl => absurd hl hnl⟩
            · intro hbo
              have := b3 hbo
              simp only
              omega
            · intro hbo
              have := b4 hbo
              simp only
              omega

/-- The machine at a whole text. -/
def rd0 (s : ByteArray) : Option PR := pL (pF s (2 * s.size + 2)) 0 [⟨256, 0, 0, 0⟩, ⟨257, 0, 0, 0⟩]
theorem rd0_ends (s : ByteArray) : ∃ q, rd0 s = some q ∧ q.at_ ≤ s.size ∧ q.n ≤ 16 * s.size + 6 ∧ runM s q.n 0 [⟨256, 0, 0, 0⟩, ⟨257, 0, 0, 0⟩] [] = some (q.ok, q.at_, if q.ok = true then q.sg else []) := by
  obtain ⟨q, hq, h1, h2, h3, h4⟩ := pL_ends s (pF s (2 * s.size + 2)) 0 (fun k f _ h2 h3 h4 => by
    obtain ⟨q, hq, hE, _⟩ := pF_ends s (2 * s.size + 2) k f h2 h3 h4 (by omega)
    exact ⟨q, hq, hE⟩) [⟨256, 0, 0, 0⟩, ⟨257, 0, 0, 0⟩] 0 (Nat.le_refl _) (Nat.zero_le _) (by simp)
  have hA := pL_after s _ (fun k f q h => pF_after s _ k f q h) _ _ _ hq
  have e := hA 0 [] []
  simp only [List.append_nil, Nat.zero_add] at e
  refine ⟨q, hq, h2, ?_, ?_⟩
  · cases hok : q.ok with
    | true => have := h3 hok; simp only [List.length_cons, List.length_nil] at this; omega
    | false => have := h4 hok; simp only [List.length_cons, List.length_nil] at this; omega
  · rw [e]
    cases hok : q.ok <;> simp [runM]
end Go.Proofs.YtegknlhadjhbdaaGreat
