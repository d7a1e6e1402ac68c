/-
  OUR OWN: the document's reader: read.
  OUR OWN: the document's reader: the value of digits.
  OUR OWN: what was read, looked at: before, named.
  OUR OWN: what was read, looked at: wrong, fault.
-/
import Derived.Test.YtegknlhadjhbdaaGreatQ14
import Derived.WalkSmall
import Derived.RangeFuncBox
namespace Go.Proofs.YtegknlhadjhbdaaGreat
open Go.RowKit

theorem below_drewN {b : Nat} {w w' : World} (h : Below b w w') (n : Nat) : Below b w (w'.drewN n) := ⟨h.os, h.tape, h.output, h.size, h.block⟩
theorem RS.pop {w : World} {base B s k gv f fs gs g cap} (h : RS w base B s k (.slice (some ⟨g, 0, none⟩) (fs.length + 1) cap) gv (f :: fs) gs) :
    RS (w.setCell ⟨B, 2, none⟩ (.slice (some ⟨g, 0, none⟩) fs.length cap)) base B s k (.slice (some ⟨g, 0, none⟩) fs.length cap) gv fs gs :=
  ⟨blk4_set h.blk, ownsRow_setCell_other (ownsRow_pop (frC_len fs) h.st) (show (Value.slice (some ⟨g, 0, none⟩) fs.length cap).ownBlock ≠ some B from h.neS) _, ownsRow_setCell_other h.sg h.neG _, h.hB⟩
theorem RS.top {w : World} {base B s k gv f fs gs g cap} (h : RS w base B s k (.slice (some ⟨g, 0, none⟩) (fs.length + 1) cap) gv (f :: fs) gs) :
    w.cell? ⟨g, fs.length * 4, none⟩ = some (.int .i64 f.sym) ∧ w.cell? ⟨g, fs.length * 4 + 1, none⟩ = some (.int .i64 f.kind) ∧ w.cell? ⟨g, fs.length * 4 + 2, none⟩ = some (.int .i64 f.depth) ∧ w.cell? ⟨g, fs.length * 4 + 3, none⟩ = some (.int .i64 f.list) := by
  have hc := fun j hj => World.ownsRow.cellAt h.st j hj
  have hl := frC_len fs
  have hg : ∀ i, i < 4 → (frC (f :: fs))[fs.length * 4 + i]? = (frV f)[i]? := fun i hi => by
    show (frC fs ++ frV f)[fs.length * 4 + i]? = _
    rw [List.getElem?_append_right (by omega)]
    congr 1; omega
  have k0 := (hc (fs.length * 4) (by show _ < (fs.length + 1) * 4; omega)).trans (hg 0 (by omega))
  have k1 := (hc (fs.length * 4 + 1) (by show _ < (fs.length + 1) * 4; omega)).trans (hg 1 (by omega))
  have k2 := (hc (fs.length * 4 + 2) (by show _ < (fs.length + 1) * 4; omega)).trans (hg 2 (by omega))
  have k3 := (hc (fs.length * 4 + 3) (by show _ < (fs.length + 1) * 4; omega)).trans (hg 3 (by omega))
  exact ⟨k0, k1, k2, k3⟩
theorem RS.nil {w : World} {base B s k sv gv gs} (h : RS w base B s k sv gv [] gs) : ∃ o cap, sv = .slice o 0 cap := by
  rcases h.st.2 with ⟨rfl, _⟩ | ⟨g, cap, cur, rfl, _⟩
  · exact ⟨none, 0, rfl⟩
  · exact ⟨_, cap, rfl⟩
theorem RS.capLe {w : World} {base B s k gv f fs gs g cap} (h : RS w base B s k (.slice (some ⟨g, 0, none⟩) (fs.length + 1) cap) gv (f :: fs) gs) : fs.length + 1 ≤ cap := by
  rcases h.st.2 with ⟨h0, _⟩ | ⟨g', cap', cur, hv, _, _, hn, _⟩
  · cases h0
  · cases hv; exact hn

/-- What holds of the machine between two steps: so many are still to come. -/
structure LI (s : ByteArray) (M : Nat) (R : Bool × Nat × List SG) (n k : Nat) (fs : List FR) (gs : List SG) : Prop where
  run : runM s n k fs gs = some R
  le : n ≤ M
  at_ : k ≤ s.size
  fl : fs.length + 7 * n ≤ 2 + 7 * M
  gl : gs.length + n ≤ M
  all : ∀ f ∈ fs, 0 ≤ f.sym ∧ 0 ≤ f.depth ∧ f.depth + n ≤ M
theorem LI.next {s M R n k f fs gs} (h : LI s M R (n + 1) k (f :: fs) gs) (hok : (stepR s k f).ok = true) : LI s M R n (stepR s k f).at_ ((stepR s k f).push ++ fs) ((stepR s k f).sg ++ gs) := by
  have hf := h.all f (by simp)
  have hS := stepR_sf s k f h.at_ hf.1 hf.2.1
  have hfl := h.fl
  have hgl := h.gl
  have hsg := hS.sg
  have hle := h.le
  simp only [List.length_cons] at hfl
  have hrun := h.run
  rw [runM, if_pos hok] at hrun
  have hpl : (stepR s k f).push.length ≤ 7 := by
    rcases hS.fst with hp | ⟨f0, r, hp, _, hr, _⟩
    · rw [hp]; simp
    · rw [hp]; simp only [List.length_cons]; omega
  refine ⟨hrun, by omega, hS.hi, by simp only [List.length_append]; omega, by simp only [List.length_append]; omega, ?_⟩
  intro g hg
  rcases List.mem_append.1 hg with hg | hg
  · rcases hS.fst with hp | ⟨f0, r, hp, _, hr, hall⟩
    · rw [hp] at hg; simp at hg
    · have h1 := hall g hg
      have h2 := hf.2.2
      exact ⟨h1.1, h1.2.1, by omega⟩
  · have h1 := h.all g (by simp [hg])
    exact ⟨h1.1, h1.2.1, by omega⟩
theorem LI.fails {s M R n k f fs gs} (h : LI s M R (n + 1) k (f :: fs) gs) (hok : (stepR s k f).ok = false) : R = (false, (stepR s k f).at_, []) := by
  have hrun := h.run
  rw [runM, if_neg (by rw [hok]; decide)] at hrun
  injection hrun with hrun
  exact hrun.symm
theorem LI.stops {s M R n k gs} (h : LI s M R n k [] gs) : R = (true, k, gs) := by
  have hrun := h.run
  cases n <;> (simp only [runM] at hrun; injection hrun with hrun; exact hrun.symm)

/-- What the reader gives back: can all stand where it does? the place; what was read (the last first). -/
def rdE (s : ByteArray) (R : Bool × Nat × List SG) : Bool × Nat × List SG :=
  if R.1 = true then (if 0 ≤ T.ch s (T.sk s R.2.1) then (false, T.sk s R.2.1, []) else (true, T.sk s R.2.1, R.2.2)) else R
def rd (s : ByteArray) : Bool × Nat × List SG := match rd0 s with
  | none => (false, 0, [])
  | some q => rdE s (q.ok, q.at_, if q.ok = true then q.sg else [])
/-- The same in memory. -/
def ReadPost (base : Nat) (D : Bool × Nat × List SG) (e : Ending) (w' : World) : Prop :=
  ∃ v, (D.1 = true ∧ e = .returned (.tuple #[v, .int .i64 (-1)]) ∧ w'.ownsRow base 148 5 v D.2.2.length (sgC D.2.2)) ∨
       (D.1 = false ∧ e = .returned (.tuple #[.slice none 0 0, .int .i64 D.2.1]))

attribute [local go_sem ↓] Go.wp_at_zero Go.wp_at_succ
set_option maxRecDepth 100000 in
set_option maxHeartbeats 1600000 in
theorem read_run (s : ByteArray) (w : World) (hs : s.size ≤ 2000) (M : Nat) (R : Bool × Nat × List SG) (hM : M ≤ 40000) (hR : runM s M 0 [⟨256, 0, 0, 0⟩, ⟨257, 0, 0, 0⟩] [] = some R) :
    Calls Tryz.prog 92 #[.string s] w fun e w' => Below w.heap.size w w' ∧ ReadPost w.heap.size (rdE s R) e w' := by
  have hb1 := fun w => buildF1 256 w
  have hb2 := fun w => buildF1 257 w
  have hM2 : 1 ≤ M := by cases M with | zero => simp [runM] at hR | succ n => omega
  have HL : Hid (∀ gs, gs = [] → LI s M R M 0 [⟨256, 0, 0, 0⟩, ⟨257, 0, 0, 0⟩] gs) := fun gs hgs => by subst hgs; exact ⟨hR, Nat.le_refl _, Nat.zero_le _, by simp, by simp, by simp⟩
  clear hR
  have HRS : Hid (RS (w.alloc (.cells #[.string s, .int .i64 0, .slice none 0 0, .slice none 0 0] 179)) w.heap.size w.heap.size s 0 (.slice none 0 0) (.slice none 0 0) [] []) :=
    ⟨heap_alloc_new w _, World.ownsRow_nil _ _ _ _, World.ownsRow_nil _ _ _ _, Nat.le_refl _⟩
  go_enter Tryz.func92, Tryz.ntmps92
  go_wp2_with fail
  refine (push_newL w.heap.size w.heap.size _ _ s 0 _ _ [] [⟨256, 0, 0, 0⟩, ⟨257, 0, 0, 0⟩] [] _ _ HRS.out (by simp) (by rfl) (by simp) _ rfl).mono ?_
  rintro e w1 ⟨rfl, sv1, hr, hm⟩
  have HR1 : Hid (RS w1 w.heap.size w.heap.size s 0 sv1 (.slice none 0 0) ([⟨256, 0, 0, 0⟩, ⟨257, 0, 0, 0⟩] ++ []) []) := hr
  have HB1 : Hid (Below w.heap.size w w1) := ((Below.refl _ _).alloc (Nat.le_refl _) _).trans hm.bel
  clear hr hm HRS
  go_wp2_with fail
  go_loopg [5] M (fun n _ wr => ∃ k fs gs sv gv, LI s M R n k fs gs ∧ RS wr w.heap.size w.heap.size s k sv gv fs gs ∧ Below w.heap.size w wr)
  case atStart => exact ⟨0, _, [], _, _, HL.out _ rfl, HR1.out, HB1.out⟩
  case round =>
    obtain ⟨k, fs, gs, sv, gv, hli, hr, hb⟩ := hrel
    have HLI : Hid (LI s M R gk k fs gs) := hli
    have HR : Hid (RS wr w.heap.size w.heap.size s k sv gv fs gs) := hr
    have HB : Hid (Below w.heap.size w wr) := hb
    have hks : k ≤ s.size := hli.at_
    have c2 := hr.c2
    have z2 := hr.fz 2
    clear hb hr hli
    cases fs with
    | nil =>
      obtain ⟨o, cap, rfl⟩ := HR.out.nil
      have HS : Hid (R = (true, k, gs)) := HLI.out.stops
      have hpk := T.ch_lo s (T.sk s k)
      obtain ⟨cp0, cp1⟩ := hpk
      go_wp2_with fail
      refine (peek_any w.heap.size w.heap.size s k _ gv [] gs _ hs hks HR.out).mono ?_
      rintro e w2 ⟨rfl, hr2, hm2⟩
      have HR2 : Hid (RS w2 w.heap.size w.heap.size s (T.sk s k) (.slice o 0 cap) gv [] gs) := hr2
      have HB2 : Hid (Below w.heap.size w w2) := HB.out.trans hm2.bel
      have c1 := hr2.c1
      have c3 := hr2.c3
      clear hr2 hm2 c2 z2
      by_cases hc : 0 ≤ T.ch s (T.sk s k)
      · have HD : Hid (rdE s R = (false, T.sk s k, [])) := by
          show _ = _
          rw [HS.out]; simp [rdE, hc]
        go_wp2_with fail
        go_quiet (fail)
        go_wp2_with fail
        go_ret2
        refine ⟨below_drewN HB2.out _, ?_⟩
        rw [HD.out]
        exact ⟨.bool true, .inr ⟨rfl, rfl⟩⟩
      · have HD : Hid (rdE s R = (true, T.sk s k, gs)) := by
          show _ = _
          rw [HS.out]; simp [rdE, hc]
        go_wp2_with fail
        go_ret2
        refine ⟨HB2.out, ?_⟩
        rw [HD.out]
        exact ⟨gv, .inl ⟨rfl, rfl, HR2.out.sg⟩⟩
    | cons f fs =>
      obtain ⟨g, cap, rfl⟩ := ownsRow_succ HR.out.st
      obtain ⟨q0, q1, q2, q3⟩ := HR.out.top
      have hcap := HR.out.capLe
      have hfl := HLI.out.fl
      have hf := HLI.out.all f (by simp)
      have HRA : Hid (RS ((wr.setCell ⟨w.heap.size, 2, none⟩ (.slice (some ⟨g, 0, none⟩) fs.length cap)).alloc (.cells #[.int .i64 f.sym, .int .i64 f.kind, .int .i64 f.depth, .int .i64 f.list] 182)) w.heap.size w.heap.size s k (.slice (some ⟨g, 0, none⟩) fs.length cap) gv fs gs) := HR.out.pop.alloc _
      have HBA : Hid (w.heap.size ≤ (wr.setCell ⟨w.heap.size, 2, none⟩ (.slice (some ⟨g, 0, none⟩) fs.length cap)).heap.size) := HR.out.pop.bs
      have hbw : w.heap.size < wr.heap.size := HR.out.lt
      have zf : ∀ o, (wr.alloc o).frozen? ⟨w.heap.size, 2, none⟩ = false := fun o => (HR.out.alloc o).fz 2
      simp only [List.length_cons] at hfl
      have hfl2 : fs.length ≤ 1000000 := by omega
      clear hfl
      generalize hm : fs.length = m at *
      have i0 : (0 : Int) ≤ (m : Int) := by omega
      have i1 : (m : Int) ≤ (cap : Int) := by omega
      have i2 : (m : Int) < ((m + 1 : Nat) : Int) := by omega
      have e1 : (((m + 1 : Nat) : Int) - 1) = (m : Int) := by omega
      go_wp2_with fail
      have hA := HRA.out
      have hX := step_any w.heap.size w.heap.size s k f _ gv fs gs _ HRA.out hs hks (by omega) (by have := HLI.out.gl; have := HLI.out.le; omega) hf.1 hf.2.1 (by have := HLI.out.le; omega)
      refine hX.mono ?_
      rintro e w2 ⟨rfl, sv2, gv2, hr2, hm2⟩
      have HB2 : Hid (Below w.heap.size w w2) := ((HB.out.setCell (Nat.le_refl _) _).alloc HBA.out _).trans hm2.bel
      have HR2 : Hid (RS w2 w.heap.size w.heap.size s (stepR s k f).at_ sv2 gv2 ((stepR s k f).push ++ fs) ((stepR s k f).sg ++ gs)) := hr2
      have c1 := hr2.c1
      clear hA hX hr2 hm2 HRA HR q0 q1 q2 q3 c2 z2 zf
      cases gk with
      | zero => exact absurd HLI.out.run (by simp [runM])
      | succ n =>
        cases hok : (stepR s k f).ok with
        | true =>
          have HN : Hid (LI s M R n (stepR s k f).at_ ((stepR s k f).push ++ fs) ((stepR s k f).sg ++ gs)) := HLI.out.next hok
          go_wp2_with fail
          go_roundg n
          case measure => omega
          case rel => exact ⟨_, _, _, _, _, HN.out, HR2.out, HB2.out⟩
        | false =>
          have HD : Hid (rdE s R = (false, (stepR s k f).at_, [])) := by
            show _ = _
            rw [HLI.out.fails hok]; rfl
          go_wp2_with fail
          go_quiet (fail)
          go_wp2_with fail
          go_ret2
          refine ⟨below_drewN HB2.out _, ?_⟩
          rw [HD.out]
          exact ⟨.bool true, .inr ⟨rfl, rfl⟩⟩
end Go.Proofs.YtegknlhadjhbdaaGreat
namespace Go.Proofs.YtegknlhadjhbdaaGreat
open Go.RowKit

/-- The value of the first n digits. -/
def T.val (s : ByteArray) : Nat → Int
  | 0 => 0
  | n + 1 => T.val s n * 10 + (T.ch s n - 48)
def T.digs (s : ByteArray) : Prop := ∀ i, i < s.size → 48 ≤ T.ch s i ∧ T.ch s i ≤ 57
theorem T.val_bd {s : ByteArray} (h : T.digs s) : ∀ n, n ≤ s.size → 0 ≤ T.val s n ∧ T.val s n + 1 ≤ 10 ^ n := by
  intro n
  induction n with
  | zero => intro _; exact ⟨Int.le_refl _, by simp [T.val]⟩
  | succ n ih =>
    intro hn
    have h1 := ih (by omega)
    have h2 := h n (by omega)
    have e : (10 : Int) ^ (n + 1) = 10 ^ n * 10 := Int.pow_succ _ _
    simp only [T.val]
    rw [e]
    exact ⟨by omega, by omega⟩

attribute [local go_sem ↓] Go.wp_at_zero Go.wp_at_succ
set_option maxRecDepth 100000 in
set_option maxHeartbeats 400000 in
theorem value_any (s : ByteArray) (w : World) (hs : s.size ≤ 2000) :
    Calls Tryz.prog 162 #[.string s] w fun e w' => Below w.heap.size w w' ∧ ∃ v, e = .returned (.int .i64 v) ∧ (T.digs s → s.size ≤ 9 → v = T.val s s.size) := by
  go_enter Tryz.func162, Tryz.ntmps162
  go_wp2_with fail
  go_loopg [3, 4] s.size (fun n x y wr => ∃ (j : Nat) (v : Int), n + j = s.size ∧ x = .int .i64 v ∧ y = .int .i64 j ∧ Hid (T.digs s → s.size ≤ 9 → v = T.val s j) ∧ Below w.heap.size w wr)
  case atStart => exact ⟨0, 0, by omega, rfl, rfl, fun _ _ => rfl, Below.refl _ _⟩
  case round =>
    obtain ⟨j, v, hn, rfl, rfl, HV, hb⟩ := hrel
    have HB : Hid (Below w.heap.size w wr) := hb
    clear hb
    by_cases hlt : j < s.size
    · have hlt' : (j : Int) < (s.size : Int) := by omega
      have hch : ((s[j]).toNat : Int) = T.ch s j := (T.ch_lt hlt).symm
      obtain ⟨cb0, cb1⟩ := T.ch_bd hlt
      go_wp2_with fail
      go_roundg (gk - 1)
      case measure => omega
      case rel => exact ⟨j + 1, _, by omega, rfl, by go_num, fun hd h9 => by
        have e := HV.out hd h9
        have hb := T.val_bd hd j (by omega)
        have hd2 := hd j hlt
        have hp : (10 : Int) ^ j ≤ 10 ^ 9 := by
          have h1 : (10 : Nat) ^ j ≤ 10 ^ 9 := Nat.pow_le_pow_right (by omega) (by omega)
          exact_mod_cast h1
        have hp9 : (10 : Int) ^ 9 = 1000000000 := by decide
        subst e
        simp only [T.val]
        unfold wrap64
        omega, HB.out⟩
    · have hje : j = s.size := by omega
      have hd : decide ((j : Int) < (s.size : Int)) = false := decide_eq_false (by omega)
      go_wp2_with fail
      go_ret
      exact ⟨HB.out, v, rfl, fun h1 h2 => (HV.out h1 h2).trans (by rw [hje])⟩
end Go.Proofs.YtegknlhadjhbdaaGreat
namespace Go.Proofs.YtegknlhadjhbdaaGreat
open Go.RowKit

/-- What was read lies at block b, the first first. -/
def SL (w : World) (b : Nat) (l : List SG) : Prop := ∀ i g, l[i]? = some g → w.cell? ⟨b, i * 5, none⟩ = some (.int .i64 g.kind) ∧ w.cell? ⟨b, i * 5 + 1, none⟩ = some (.int .i64 g.place) ∧ w.cell? ⟨b, i * 5 + 2, none⟩ = some (.int .i64 g.depth) ∧ w.cell? ⟨b, i * 5 + 3, none⟩ = some (.int .i64 g.list) ∧ w.cell? ⟨b, i * 5 + 4, none⟩ = some (.string g.text)
theorem SL.of_block {w w' : World} {b : Nat} {l : List SG} (h : SL w b l) (e : w'.heap[b]? = w.heap[b]?) : SL w' b l := fun i g hg => by
  obtain ⟨h0, h1, h2, h3, h4⟩ := h i g hg
  exact ⟨by rw [World.cell?_of_block (w := w) e]; exact h0, by rw [World.cell?_of_block (w := w) e]; exact h1, by rw [World.cell?_of_block (w := w) e]; exact h2, by rw [World.cell?_of_block (w := w) e]; exact h3, by rw [World.cell?_of_block (w := w) e]; exact h4⟩
/-- Of the first k: how many are in the list of g; does one of them read the same? -/
def befN (g : SG) : List SG → Nat
  | [] => 0
  | x :: r => befN g r + (if x.list = g.list ∧ x.kind = g.kind then 1 else 0)
def befS (g : SG) : List SG → Bool
  | [] => false
  | x :: r => befS g r || (decide (x.list = g.list ∧ x.kind = g.kind) && (x.text.toList == g.text.toList))

theorem befN_le (g : SG) (l : List SG) (n : Nat) (h : l.length ≤ n) : befN g l ≤ n := by
  induction l generalizing n with
  | nil => exact Nat.zero_le _
  | cons x r ih =>
    simp only [List.length_cons] at h
    simp only [befN]
    have := ih (n - 1) (by omega)
    split <;> omega

attribute [local go_sem ↓] Go.wp_at_zero Go.wp_at_succ
set_option maxRecDepth 100000 in
set_option maxHeartbeats 400000 in
theorem before_any (b cap : Nat) (l : List SG) (i : Nat) (g : SG) (w : World) (h : SL w b l) (hl : l.length ≤ 100000) (hg : l[i]? = some g) :
    Calls Tryz.prog 135 #[.slice (some ⟨b, 0, none⟩) l.length cap, .int .i64 i] w fun e w' => Below w.heap.size w w' ∧ e = .returned (.tuple #[.int .i64 (befN g (l.take i).reverse), .bool (befS g (l.take i).reverse)]) := by
  go_enter Tryz.func135, Tryz.ntmps135
  go_wp2_with fail
  have hil : i < l.length := (List.getElem?_eq_some_iff.1 hg).1
  go_loopg [6, 7, 8] i (fun n x y z wr => ∃ (j : Nat), n + j = i ∧ x = .int .i64 (befN g (l.take j).reverse) ∧ y = .bool (befS g (l.take j).reverse) ∧ z = .int .i64 j ∧ wr.heap = w.heap ∧ Below w.heap.size w wr)
  case atStart => exact ⟨0, by omega, rfl, rfl, rfl, rfl, Below.refl _ _⟩
  case round =>
    obtain ⟨j, hn, rfl, rfl, rfl, hh, hb⟩ := hrel
    have HB : Hid (Below w.heap.size w wr) := hb
    have HH : Hid (wr.heap = w.heap) := hh
    have hsl : SL wr b l := h.of_block (by rw [hh])
    obtain ⟨g0, g1, g2, g3, g4⟩ := hsl i g hg
    have i0 : (0 : Int) ≤ (i : Int) := by omega
    have i1 : (i : Int) < (l.length : Int) := by omega
    have j0 : (0 : Int) ≤ (j : Int) := by omega
    clear hb hh
    by_cases hlt : j < i
    · have hlt' : (j : Int) < (i : Int) := by omega
      have j1 : (j : Int) < (l.length : Int) := by omega
      obtain ⟨x, hx⟩ : ∃ x, l[j]? = some x := ⟨l[j]'(by omega), List.getElem?_eq_getElem (by omega)⟩
      obtain ⟨x0, x1, x2, x3, x4⟩ := hsl j x hx
      have hnx : (l.take (j + 1)).reverse = x :: (l.take j).reverse := by
        rw [List.take_add_one, hx]; simp
      have HN : Hid (befN g (l.take (j + 1)).reverse = befN g (l.take j).reverse + (if x.list = g.list ∧ x.kind = g.kind then 1 else 0)) := by show _ = _; rw [hnx]; rfl
      have HS : Hid (befS g (l.take (j + 1)).reverse = (befS g (l.take j).reverse || (decide (x.list = g.list ∧ x.kind = g.kind) && (x.text.toList == g.text.toList)))) := by show _ = _; rw [hnx]; rfl
      have hbn : befN g (l.take j).reverse ≤ j := befN_le g _ j (by simp; omega)
      clear hnx hsl h
      have HX : Hid (l[j]? = some x) := hx
      have HG : Hid (l[i]? = some g) := hg
      clear hx hg
      generalize hBN : befN g (l.take j).reverse = bn at *
      generalize hBS : befS g (l.take j).reverse = bs at *
      clear hBN hBS
      have n0 : (bn : Int) ≤ 100000 := by omega
      cases hL : (x.list == g.list) with
      | false =>
        have hL' : Hid (¬ (x.list = g.list ∧ x.kind = g.kind)) := fun hc => by have := beq_eq_false_iff_ne.1 hL; exact this hc.1
        go_wp2_with fail
        go_quiet (fail)
        go_wp2_with fail
        go_roundg (gk - 1)
        case measure => omega
        case rel => exact ⟨j + 1, by omega, by rw [HN.out, if_neg hL'.out]; rfl, by rw [HS.out, decide_eq_false hL'.out]; simp, by go_num, HH.out, below_drewN HB.out _⟩
      | true =>
        have hLe : x.list = g.list := by simpa using hL
        cases hK : (x.kind == g.kind) with
        | false =>
          have hL' : Hid (¬ (x.list = g.list ∧ x.kind = g.kind)) := fun hc => by have := beq_eq_false_iff_ne.1 hK; exact this hc.2
          clear hLe
          go_wp2_with fail
          go_quiet (fail)
          go_wp2_with fail
          go_roundg (gk - 1)
          case measure => omega
          case rel => exact ⟨j + 1, by omega, by rw [HN.out, if_neg hL'.out]; rfl, by rw [HS.out, decide_eq_false hL'.out]; simp, by go_num, HH.out, below_drewN HB.out _⟩
        | true =>
          have hY : Hid (x.list = g.list ∧ x.kind = g.kind) := ⟨hLe, by simpa using hK⟩
          clear hLe
          cases bs with
          | true =>
            go_wp2_with fail
            go_quiet (fail)
            go_wp2_with fail
            go_quiet (fail)
            go_wp2_with fail
            go_roundg (gk - 1)
            case measure => omega
            case rel => exact ⟨j + 1, by omega, by rw [HN.out, if_pos hY.out]; rfl, by rw [HS.out]; simp, by go_num, HH.out, below_drewN HB.out _⟩
          | false =>
            go_wp2_with fail
            go_quiet (fail)
            go_wp2_with fail
            go_quiet (fail)
            go_wp2_with fail
            go_roundg (gk - 1)
            case measure => omega
            case rel => exact ⟨j + 1, by omega, by rw [HN.out, if_pos hY.out]; rfl, by rw [HS.out, decide_eq_true hY.out]; simp, by go_num, HH.out, below_drewN HB.out _⟩
    · have hji : j = i := by omega
      have hd : decide ((j : Int) < (i : Int)) = false := decide_eq_false (by omega)
      subst hji
      go_wp2_with fail
      go_ret2
      exact ⟨HB.out, rfl⟩

/-- Is the letter of sign g the name of a rule ahead? Of the signs ahead of g (the nearest first); g itself may be a name. -/
def lastR : List SG → Nat
  | [] => 0
  | x :: r => if x.kind = 1 then r.length + 1 else lastR r
def isR (g x : SG) : Bool := decide (x.kind = 1) && (x.text.toList == g.text.toList)
/-- last as Go reckons it, of the first n signs. -/
def lastI (l : List SG) (n : Nat) : Int := (lastR (l.take n).reverse : Int) - 1
theorem lastR_le (l : List SG) : lastR l ≤ l.length := by
  induction l with
  | nil => exact Nat.le_refl _
  | cons x r ih => simp only [lastR, List.length_cons]; split <;> omega

set_option maxRecDepth 100000 in
set_option maxHeartbeats 400000 in
theorem named_any (b cap : Nat) (l : List SG) (i : Nat) (g : SG) (w : World) (h : SL w b l) (hl : l.length ≤ 100000) (hg : l[i]? = some g) :
    Calls Tryz.prog 134 #[.slice (some ⟨b, 0, none⟩) l.length cap, .int .i64 i] w fun e w' => Below w.heap.size w w' ∧ e = .returned (.bool ((l.take (lastR (l.take (i + 1)).reverse - 1)).any (isR g))) := by
  go_enter Tryz.func134, Tryz.ntmps134
  go_wp2_with fail
  have hil : i < l.length := (List.getElem?_eq_some_iff.1 hg).1
  go_loopg [5, 6] (i + 1) (fun n x y wr => ∃ (j : Nat), n + j = i + 1 ∧ x = .int .i64 (lastI l j) ∧ y = .int .i64 j ∧ wr.heap = w.heap ∧ Below w.heap.size w wr)
  case atStart => exact ⟨0, by omega, rfl, rfl, rfl, Below.refl _ _⟩
  case round =>
    obtain ⟨j, hn, rfl, rfl, hh, hb⟩ := hrel
    have HB : Hid (Below w.heap.size w wr) := hb
    have HH : Hid (wr.heap = w.heap) := hh
    have hsl : SL wr b l := h.of_block (by rw [hh])
    have i0 : (0 : Int) ≤ (i : Int) := by omega
    have i1 : (i : Int) < (l.length : Int) := by omega
    have j0 : (0 : Int) ≤ (j : Int) := by omega
    clear hb hh
    by_cases hlt : j ≤ i
    · have hlt' : (j : Int) ≤ (i : Int) := by omega
      have j1 : (j : Int) < (l.length : Int) := by omega
      obtain ⟨x, hx⟩ : ∃ x, l[j]? = some x := ⟨l[j]'(by omega), List.getElem?_eq_getElem (by omega)⟩
      obtain ⟨x0, x1, x2, x3, x4⟩ := hsl j x hx
      have hnx : (l.take (j + 1)).reverse = x :: (l.take j).reverse := by
        rw [List.take_add_one, hx]; simp
      have HN : Hid (lastI l (j + 1) = if x.kind = 1 then (j : Int) else lastI l j) := by
        show _ = _
        unfold lastI
        rw [hnx]
        simp only [lastR, List.length_reverse, List.length_take]
        split
        · rw [Nat.min_eq_left (by omega)]; omega
        · rfl
      clear hnx hsl
      have HX : Hid (l[j]? = some x) := hx
      clear hx
      cases hK : (x.kind == 1) with
      | false =>
        have hK' : Hid (¬ x.kind = 1) := fun hc => by have := beq_eq_false_iff_ne.1 hK; exact this hc
        go_wp2_with fail
        go_roundg (gk - 1)
        case measure => omega
        case rel => exact ⟨j + 1, by omega, by rw [HN.out, if_neg hK'.out], by go_num, HH.out, HB.out⟩
      | true =>
        have hK' : Hid (x.kind = 1) := by show _ = _; simpa using hK
        go_wp2_with fail
        go_roundg (gk - 1)
        case measure => omega
        case rel => exact ⟨j + 1, by omega, by rw [HN.out, if_pos hK'.out], by go_num, HH.out, HB.out⟩
    · have hji : j = i + 1 := by omega
      have hd : ¬ (j : Int) ≤ (i : Int) := by omega
      subst hji
      have hlr := lastR_le (l.take (i + 1)).reverse
      have HG : Hid (l[i]? = some g) := hg
      have HSL : Hid (SL wr b l) := hsl
      obtain ⟨g0, g1, g2, g3, g4⟩ := hsl i g hg
      unfold lastI
      clear hg hsl h
      simp only [List.length_reverse, List.length_take] at hlr
      rw [Nat.min_eq_left (by omega)] at hlr
      generalize hm : lastR (l.take (i + 1)).reverse = m at *
      have HMM : Hid (lastR (l.take (i + 1)).reverse = m) := hm
      clear hm
      go_wp2_with fail
      clear g0 g1 g2 g3 g4
      go_loopg [7] m (fun n x wz => ∃ (j : Nat), n + j = m ∧ j ≤ m - 1 ∧ x = .int .i64 j ∧ Hid ((l.take j).any (isR g) = false) ∧ wz.heap = w.heap ∧ Below w.heap.size w wz)
      case atStart => exact ⟨0, by omega, by omega, rfl, rfl, HH.out, HB.out⟩
      case round =>
        obtain ⟨j, hn, hjm, rfl, HF, hh, hb⟩ := hrel
        have HB2 : Hid (Below w.heap.size w wr) := hb
        have HH2 : Hid (wr.heap = w.heap) := hh
        have hsl : SL wr b l := HSL.out.of_block (by rw [hh, HH.out])
        obtain ⟨g0, g1, g2, g3, g4⟩ := hsl i g HG.out
        have j0 : (0 : Int) ≤ (j : Int) := by omega
        clear hb hh
        by_cases hlt : j < m - 1
        · have hlt' : (j : Int) < (m : Int) - 1 := by omega
          have j1 : (j : Int) < (l.length : Int) := by omega
          obtain ⟨x, hx⟩ : ∃ x, l[j]? = some x := ⟨l[j]'(by omega), List.getElem?_eq_getElem (by omega)⟩
          obtain ⟨x0, x1, x2, x3, x4⟩ := hsl j x hx
          have HN : Hid ((l.take (j + 1)).any (isR g) = isR g x) := by
            show _ = _
            rw [List.take_add_one, hx, List.any_append, HF.out]; simp
          have HY : Hid (isR g x = true → (l.take (m - 1)).any (isR g) = true) := fun h1 => by
            rw [List.any_eq_true]
            refine ⟨x, ?_, h1⟩
            rw [List.mem_iff_getElem?]
            exact ⟨j, by rw [List.getElem?_take_of_lt hlt]; exact hx⟩
          clear hsl hx
          cases hK : (x.kind == 1) with
          | false =>
            have HI : Hid (isR g x = false) := by
              show _ = _
              have := beq_eq_false_iff_ne.1 hK
              simp [isR, this]
            go_wp2_with fail
            go_quiet (fail)
            go_wp2_with fail
            go_roundg (gk - 1)
            case measure => omega
            case rel => exact ⟨j + 1, by omega, by omega, by go_num, HN.out.trans HI.out, HH2.out, below_drewN HB2.out _⟩
          | true =>
            cases hT : (x.text.toList == g.text.toList) with
            | false =>
              have HI : Hid (isR g x = false) := by
                show _ = _
                simp only [isR, hT]; simp
              go_wp2_with fail
              go_quiet (fail)
              go_wp2_with fail
              go_roundg (gk - 1)
              case measure => omega
              case rel => exact ⟨j + 1, by omega, by omega, by go_num, HN.out.trans HI.out, HH2.out, below_drewN HB2.out _⟩
            | true =>
              have HI : Hid ((l.take (m - 1)).any (isR g) = true) := HY.out (by
                have := beq_iff_eq.1 hK
                simp only [isR, hT, this]; simp)
              go_wp2_with fail
              go_quiet (fail)
              go_wp2_with fail
              go_ret
              exact ⟨below_drewN HB2.out _, by rw [HMM.out, HI.out]; rfl⟩
        · have hji : j = m - 1 := by omega
          have hd : ¬ (j : Int) < (m : Int) - 1 := by omega
          have HI : Hid ((l.take (m - 1)).any (isR g) = false) := by show _ = _; rw [← hji]; exact HF.out
          clear hji
          go_wp2_with fail
          go_ret
          exact ⟨HB2.out, by rw [HMM.out, HI.out]; rfl⟩
end Go.Proofs.YtegknlhadjhbdaaGreat
namespace Go.Proofs.YtegknlhadjhbdaaGreat
open Go.RowKit

/-- A number that may not be: by its kind, of its value. -/
def wrgV (k v : Int) : Bool :=
  if k = 4 then decide (64 ≤ v) else if k = 5 then (v == 0 || decide (1000 < v)) else if k = 6 then (v == 0 || decide (86400 < v))
  else if k = 7 then decide (99 < v) else if k = 8 then decide (16 ≤ v) else false
def sgA (g : SG) : Value := .agg #[.int .i64 g.kind, .int .i64 g.place, .int .i64 g.depth, .int .i64 g.list, .string g.text]

set_option maxRecDepth 100000 in
set_option maxHeartbeats 400000 in
theorem wrong_any (g : SG) (w : World) (hs : g.text.size ≤ 2000) :
    Calls Tryz.prog 136 #[sgA g] w fun e w' => Below w.heap.size w w' ∧ ∃ v, e = .returned (.bool (wrgV g.kind v)) ∧ (T.digs g.text → g.text.size ≤ 9 → v = T.val g.text g.text.size) := by
  unfold sgA
  go_enter Tryz.func136, Tryz.ntmps136
  go_wp2_with fail
  refine (value_any g.text _ hs).mono ?_
  rintro e w1 ⟨hb1, v, rfl, hv⟩
  have hbb : Below w.heap.size w w1 := ((Below.refl _ _).alloc (Nat.le_refl _) _).trans (hb1.mono (by simp))
  have b0 : w1.cell? ⟨w.heap.size, 0, none⟩ = some (.int .i64 g.kind) := (hb1.cell (p := ⟨w.heap.size, 0, none⟩) (by simp)).trans (by simp)
  have HB : Hid (Below w.heap.size w w1) := hbb
  have HV : Hid (T.digs g.text → g.text.size ≤ 9 → v = T.val g.text g.text.size) := hv
  clear hbb hb1 hv
  cases k4 : (g.kind == 4) with
  | true =>
    have e4 : g.kind = 4 := by simpa using k4
    clear k4 
    rw [e4] at b0
    have HW : Hid (wrgV g.kind v = decide (64 ≤ v)) := by show _ = _; rw [e4]; rfl
    clear e4
    go_wp2_with fail
    go_ret
    exact ⟨HB.out, v, by rw [HW.out]; rfl, HV.out⟩
  | false =>
    cases k5 : (g.kind == 5) with
    | true =>
      have e5 : g.kind = 5 := by simpa using k5
      clear k5 k4
      rw [e5] at b0
      have HW : Hid (wrgV g.kind v = (v == 0 || decide (1000 < v))) := by show _ = _; rw [e5]; rfl
      clear e5
      cases v0 : (v == 0) with
      | true =>
        have HW : Hid (wrgV g.kind v = true) := HW.out.trans (by rw [v0]; rfl)
        go_wp2_with fail
        go_ret
        exact ⟨HB.out, v, by rw [HW.out]; rfl, HV.out⟩
      | false =>
        have HW : Hid (wrgV g.kind v = decide (1000 < v)) := HW.out.trans (by rw [v0]; rfl)
        go_wp2_with fail
        go_ret
        exact ⟨HB.out, v, by rw [HW.out]; rfl, HV.out⟩
    | false =>
      cases k6 : (g.kind == 6) with
      | true =>
        have e6 : g.kind = 6 := by simpa using k6
        clear k6 k4 k5
        rw [e6] at b0
        have HW : Hid (wrgV g.kind v = (v == 0 || decide (86400 < v))) := by show _ = _; rw [e6]; rfl
        clear e6
        cases v0 : (v == 0) with
        | true =>
          have HW : Hid (wrgV g.kind v = true) := HW.out.trans (by rw [v0]; rfl)
          go_wp2_with fail
          go_ret
          exact ⟨HB.out, v, by rw [HW.out]; rfl, HV.out⟩
        | false =>
          have HW : Hid (wrgV g.kind v = decide (86400 < v)) := HW.out.trans (by rw [v0]; rfl)
          go_wp2_with fail
          go_ret
          exact ⟨HB.out, v, by rw [HW.out]; rfl, HV.out⟩
      | false =>
        cases k7 : (g.kind == 7) with
        | true =>
          have e7 : g.kind = 7 := by simpa using k7
          clear k7 k4 k5 k6
          rw [e7] at b0
          have HW : Hid (wrgV g.kind v = decide (99 < v)) := by show _ = _; rw [e7]; rfl
          clear e7
          go_wp2_with fail
          go_ret
          exact ⟨HB.out, v, by rw [HW.out]; rfl, HV.out⟩
        | false =>
          cases k8 : (g.kind == 8) with
          | true =>
            have e8 : g.kind = 8 := by simpa using k8
            clear k8 k4 k5 k6 k7
            rw [e8] at b0
            have HW : Hid (wrgV g.kind v = decide (16 ≤ v)) := by show _ = _; rw [e8]; rfl
            clear e8
            go_wp2_with fail
            go_ret
            exact ⟨HB.out, v, by rw [HW.out]; rfl, HV.out⟩
          | false =>
            have HW : Hid (wrgV g.kind v = false) := by
              show _ = _
              simp only [beq_eq_false_iff_ne] at k4 k5 k6 k7 k8
              unfold wrgV; rw [if_neg k4, if_neg k5, if_neg k6, if_neg k7, if_neg k8]
            go_wp2_with fail
            go_ret
            exact ⟨HB.out, v, by rw [HW.out]; rfl, HV.out⟩
end Go.Proofs.YtegknlhadjhbdaaGreat
