/-
  OUR OWN: what was read, looked at: wrong, fault.
  OUR OWN: what was read, looked at: fault.
  OUR OWN: what was read: its numbers have digits, nine at most; how many signs there are; in memory.
  OUR OWN: the document's Check.
  OUR OWN: the program's parser: what it reads, without memory; in memory; here, skipBlanks, take, want.
-/
import Derived.Test.YtaebngpoagjafaaGreatQ10
namespace Go.Proofs.YtaebngpoagjafaaGreat
open Go.RowKit

/-- A number that may not be: by its kind, of its value. -/
def wrgV (k v : Int) : Bool :=
  if k = 4 then decide (64 ≤ v) else if k = 5 then (v == 0 || decide (1000 < v)) else if k = 6 then (v == 0 || decide (86400 < v))
  else if k = 7 then decide (99 < v) else if k = 8 then decide (16 ≤ v) else false
def sgA (g : SG) : Value := .agg #[.int .i64 g.kind, .int .i64 g.place, .int .i64 g.depth, .int .i64 g.list, .string g.text]

set_option maxRecDepth 100000 in
set_option maxHeartbeats 400000 in
theorem wrong_any (g : SG) (w : World) (hs : g.text.size ≤ 2000) :
    Calls Tryz.prog 138 #[sgA g] w fun e w' => Below w.heap.size w w' ∧ ∃ v, e = .returned (.bool (wrgV g.kind v)) ∧ (T.digs g.text → g.text.size ≤ 9 → v = T.val g.text g.text.size) := by
  unfold sgA
  go_enter Tryz.func138, Tryz.ntmps138
  go_wp2_with fail
  refine (value_any g.text _ hs).mono ?_
  rintro e w1 ⟨hb1, v, rfl, hv⟩
  have hbb : Below w.heap.size w w1 := ((Below.refl _ _).alloc (Nat.le_refl _) _).trans (hb1.mono (by simp))
  have b0 : w1.cell? ⟨w.heap.size, 0, none⟩ = some (.int .i64 g.kind) := (hb1.cell (p := ⟨w.heap.size, 0, none⟩) (by simp)).trans (by simp)
  have HB : Hid (Below w.heap.size w w1) := hbb
  have HV : Hid (T.digs g.text → g.text.size ≤ 9 → v = T.val g.text g.text.size) := hv
  clear hbb hb1 hv
  cases k4 : (g.kind == 4) with
  | true =>
    have e4 : g.kind = 4 := by simpa using k4
    clear k4 
    rw [e4] at b0
    have HW : Hid (wrgV g.kind v = decide (64 ≤ v)) := by show _ = _; rw [e4]; rfl
    clear e4
    go_wp2_with fail
    go_ret
    exact ⟨HB.out, v, by rw [HW.out]; rfl, HV.out⟩
  | false =>
    cases k5 : (g.kind == 5) with
    | true =>
      have e5 : g.kind = 5 := by simpa using k5
      clear k5 k4
      rw [e5] at b0
      have HW : Hid (wrgV g.kind v = (v == 0 || decide (1000 < v))) := by show _ = _; rw [e5]; rfl
      clear e5
      cases v0 : (v == 0) with
      | true =>
        have HW : Hid (wrgV g.kind v = true) := HW.out.trans (by rw [v0]; rfl)
        go_wp2_with fail
        go_ret
        exact ⟨HB.out, v, by rw [HW.out]; rfl, HV.out⟩
      | false =>
        have HW : Hid (wrgV g.kind v = decide (1000 < v)) := HW.out.trans (by rw [v0]; rfl)
        go_wp2_with fail
        go_ret
        exact ⟨HB.out, v, by rw [HW.out]; rfl, HV.out⟩
    | false =>
      cases k6 : (g.kind == 6) with
      | true =>
        have e6 : g.kind = 6 := by simpa using k6
        clear k6 k4 k5
        rw [e6] at b0
        have HW : Hid (wrgV g.kind v = (v == 0 || decide (86400 < v))) := by show _ = _; rw [e6]; rfl
        clear e6
        cases v0 : (v == 0) with
        | true =>
          have HW : Hid (wrgV g.kind v = true) := HW.out.trans (by rw [v0]; rfl)
          go_wp2_with fail
          go_ret
          exact ⟨HB.out, v, by rw [HW.out]; rfl, HV.out⟩
        | false =>
          have HW : Hid (wrgV g.kind v = decide (86400 < v)) := HW.out.trans (by rw [v0]; rfl)
          go_wp2_with fail
          go_ret
          exact ⟨HB.out, v, by rw [HW.out]; rfl, HV.out⟩
      | false =>
        cases k7 : (g.kind == 7) with
        | true =>
          have e7 : g.kind = 7 := by simpa using k7
          clear k7 k4 k5 k6
          rw [e7] at b0
          have HW : Hid (wrgV g.kind v = decide (99 < v)) := by show _ = _; rw [e7]; rfl
          clear e7
          go_wp2_with fail
          go_ret
          exact ⟨HB.out, v, by rw [HW.out]; rfl, HV.out⟩
        | false =>
          cases k8 : (g.kind == 8) with
          | true =>
            have e8 : g.kind = 8 := by simpa using k8
            clear k8 k4 k5 k6 k7
            rw [e8] at b0
            have HW : Hid (wrgV g.kind v = decide (16 ≤ v)) := by show _ = _; rw [e8]; rfl
            clear e8
            go_wp2_with fail
            go_ret
            exact ⟨HB.out, v, by rw [HW.out]; rfl, HV.out⟩
          | false =>
            have HW : Hid (wrgV g.kind v = false) := by
              show _ = _
              simp only [beq_eq_false_iff_ne] at k4 k5 k6 k7 k8
              unfold wrgV; rw [if_neg k4, if_neg k5, if_neg k6, if_neg k7, if_neg k8]
            go_wp2_with fail
            go_ret
            exact ⟨HB.out, v, by rw [HW.out]; rfl, HV.out⟩
end Go.Proofs.YtaebngpoagjafaaGreat
namespace Go.Proofs.YtaebngpoagjafaaGreat
open Go.RowKit

/-- What is wrong with a sign, by what is known of it. -/
def fltC (kd d : Int) (th : Bool) (n : Int) (sm wr : Bool) : Int :=
  if kd = 3 ∧ 12 ≤ d then 3 else if 16 ≤ n then 4 else if (kd = 1 ∧ th = true) ∨ (kd = 2 ∧ th = false) then 5 else if wr = true then 6 else if sm = true then 7 else 0
def thereB (l : List SG) (i : Nat) (g : SG) : Bool := (l.take (lastR (l.take (i + 1)).reverse - 1)).any (isR g)
def manyN (l : List SG) (i : Nat) (g : SG) : Int := if g.list = -1 then 0 else (befN g (l.take i).reverse : Int)
def sameB (l : List SG) (i : Nat) (g : SG) : Bool := if g.list = -1 then false else befS g (l.take i).reverse
/-- What is wrong with sign number i (v: the value of its digits). -/
def fltV (l : List SG) (i : Nat) (g : SG) (v : Int) : Int := fltC g.kind g.depth (thereB l i g) (manyN l i g) (sameB l i g) (wrgV g.kind v)

attribute [local go_sem ↓] Go.wp_at_zero Go.wp_at_succ
set_option maxRecDepth 100000 in
set_option maxHeartbeats 3200000 in
theorem fault_any (b cap : Nat) (l : List SG) (i : Nat) (g : SG) (w : World) (h : SL w b l) (hl : l.length ≤ 100000) (hg : l[i]? = some g) (hbw : b < w.heap.size) (hs : g.text.size ≤ 2000) :
    Calls Tryz.prog 93 #[.slice (some ⟨b, 0, none⟩) l.length cap, .int .i64 i] w fun e w' => Below w.heap.size w w' ∧ ∃ v, e = .returned (.int .i64 (fltV l i g v)) ∧ (T.digs g.text → g.text.size ≤ 9 → v = T.val g.text g.text.size) := by
  obtain ⟨g0, g1, g2, g3, g4⟩ := h i g hg
  have hil : i < l.length := (List.getElem?_eq_some_iff.1 hg).1
  have i0 : (0 : Int) ≤ (i : Int) := by omega
  have i1 : (i : Int) < (l.length : Int) := by omega
  have HSL : Hid (SL w b l) := h
  have HG : Hid (l[i]? = some g) := hg
  clear h hg
  unfold fltV
  generalize hth : thereB l i g = th
  generalize hnn : manyN l i g = n
  generalize hsm : sameB l i g = sm
  have HTH : Hid (thereB l i g = th) := hth
  have HNN : Hid (manyN l i g = n) := hnn
  have HSM : Hid (sameB l i g = sm) := hsm
  clear hth hnn hsm
  go_enter Tryz.func93, Tryz.ntmps93
  go_wp2_with fail
  have hSL1 : SL (w.alloc (.cells #[.int .i64 g.kind, .int .i64 g.place, .int .i64 g.depth, .int .i64 g.list, .string g.text] 151)) b l := HSL.out.of_block (Below.heap_alloc _ _ _ hbw)
  have hNM := named_any b cap l i g _ hSL1 hl HG.out
  rw [show (l.take (lastR (l.take (i + 1)).reverse - 1)).any (isR g) = th from HTH.out] at hNM
  refine hNM.mono ?_
  rintro e w1 ⟨hb1, rfl⟩
  have hsz1 : w.heap.size < w1.heap.size := Nat.lt_of_lt_of_le (by simp) hb1.size
  have hce : ∀ j, w1.cell? ⟨w.heap.size, j, none⟩ = (w.alloc (.cells #[.int .i64 g.kind, .int .i64 g.place, .int .i64 g.depth, .int .i64 g.list, .string g.text] 151)).cell? ⟨w.heap.size, j, none⟩ := fun j => hb1.cell (p := ⟨w.heap.size, j, none⟩) (by simp)
  have b0 : w1.cell? ⟨w.heap.size, 0, none⟩ = some (.int .i64 g.kind) := (hce 0).trans (by simp)
  have b1 : w1.cell? ⟨w.heap.size, 1, none⟩ = some (.int .i64 g.place) := (hce 1).trans (by simp)
  have b2 : w1.cell? ⟨w.heap.size, 2, none⟩ = some (.int .i64 g.depth) := (hce 2).trans (by simp)
  have b3 : w1.cell? ⟨w.heap.size, 3, none⟩ = some (.int .i64 g.list) := (hce 3).trans (by simp)
  have b4 : w1.cell? ⟨w.heap.size, 4, none⟩ = some (.string g.text) := (hce 4).trans (by simp)
  have HB1 : Hid (Below w.heap.size w w1) := ((Below.refl _ _).alloc (Nat.le_refl _) _).trans (hb1.mono (by simp))
  have HSL1 : Hid (SL w1 b l) := hSL1.of_block (hb1.block _ (Nat.lt_of_lt_of_le hbw (by simp)))
  clear hNM hSL1 hce hb1 g0 g1 g2 g3 g4
  cases hl1 : (g.list == -1) with
  | true =>
    have hle : g.list = -1 := by simpa using hl1
    have hl2 : (g.list != -1) = false := by simp [bne, hl1]
    have en : n = 0 := by rw [← HNN.out]; unfold manyN; rw [if_pos hle]
    have es : sm = false := by rw [← HSM.out]; unfold sameB; rw [if_pos hle]
    clear HNN HSM hle
    have HB : Hid (Below w.heap.size w w1) := HB1.out
    have HSZ : Hid (w.heap.size ≤ w1.heap.size) := Nat.le_of_lt hsz1
    subst en
    subst es
    cases k3 : (g.kind == 3) with
    | true =>
      have e3 : g.kind = 3 := by simpa using k3
      have k1 : (g.kind == 1) = false := by rw [e3]; decide
      have k2 : (g.kind == 2) = false := by rw [e3]; decide
      by_cases hd : 12 ≤ g.depth
      · have dd : decide (12 ≤ g.depth) = true := decide_eq_true hd
        have HW : Hid (∀ wr, fltC g.kind g.depth th 0 false wr = 3) := fun wr => by simp [fltC, e3, hd]
        clear e3
        go_wp2_with fail
        go_ret
        exact ⟨HB.out, T.val g.text g.text.size, by rw [HW.out]; rfl, fun _ _ => rfl⟩
      · have dd : decide (12 ≤ g.depth) = false := decide_eq_false hd
        have HW : Hid (∀ wr, fltC g.kind g.depth th 0 false wr = if wr = true then 6 else 0) := fun wr => by simp [fltC, e3, hd]
        clear hd e3
        go_wp2_with fail
        refine (wrong_any g _ hs).mono ?_
        rintro e w3 ⟨hb3, v, rfl, hv⟩
        have HB3 : Hid (Below w.heap.size w w3) := HB.out.trans (hb3.mono HSZ.out)
        have HV3 : Hid (T.digs g.text → g.text.size ≤ 9 → v = T.val g.text g.text.size) := hv
        clear hb3 hv
        cases hwr : wrgV g.kind v with
        | true =>
          have HE : Hid (fltC g.kind g.depth th 0 false (wrgV g.kind v) = 6) := by show _ = _; rw [HW.out, hwr]; rfl
          go_wp2_with fail
          go_ret
          exact ⟨HB3.out, v, by rw [HE.out]; rfl, HV3.out⟩
        | false =>
          have HE : Hid (fltC g.kind g.depth th 0 false (wrgV g.kind v) = 0) := by show _ = _; rw [HW.out, hwr]; rfl
          go_wp2_with fail
          go_ret
          exact ⟨HB3.out, v, by rw [HE.out]; rfl, HV3.out⟩
    | false =>
      have e3n : ¬ g.kind = 3 := beq_eq_false_iff_ne.1 k3
      cases k1 : (g.kind == 1) with
      | true =>
        have e1 : g.kind = 1 := by simpa using k1
        have k2 : (g.kind == 2) = false := by rw [e1]; decide
        cases th with
        | true =>
          have HW : Hid (∀ wr, fltC g.kind g.depth true 0 false wr = 5) := fun wr => by simp [fltC, e1]
          clear e1 e3n
          go_wp2_with fail
          go_ret
          exact ⟨HB.out, T.val g.text g.text.size, by rw [HW.out]; rfl, fun _ _ => rfl⟩
        | false =>
          have HW : Hid (∀ wr, fltC g.kind g.depth false 0 false wr = if wr = true then 6 else 0) := fun wr => by simp [fltC, e1]
          clear e1 e3n
          go_wp2_with fail
          refine (wrong_any g _ hs).mono ?_
          rintro e w3 ⟨hb3, v, rfl, hv⟩
          have HB3 : Hid (Below w.heap.size w w3) := HB.out.trans (hb3.mono HSZ.out)
          have HV3 : Hid (T.digs g.text → g.text.size ≤ 9 → v = T.val g.text g.text.size) := hv
          clear hb3 hv
          cases hwr : wrgV g.kind v with
          | true =>
            have HE : Hid (fltC g.kind g.depth false 0 false (wrgV g.kind v) = 6) := by show _ = _; rw [HW.out, hwr]; rfl
            go_wp2_with fail
            go_ret
            exact ⟨HB3.out, v, by rw [HE.out]; rfl, HV3.out⟩
          | false =>
            have HE : Hid (fltC g.kind g.depth false 0 false (wrgV g.kind v) = 0) := by show _ = _; rw [HW.out, hwr]; rfl
            go_wp2_with fail
            go_ret
            exact ⟨HB3.out, v, by rw [HE.out]; rfl, HV3.out⟩
      | false =>
        have e1n : ¬ g.kind = 1 := beq_eq_false_iff_ne.1 k1
        cases k2 : (g.kind == 2) with
        | true =>
          have e2 : g.kind = 2 := by simpa using k2
          cases th with
          | true =>
            have HW : Hid (∀ wr, fltC g.kind g.depth true 0 false wr = if wr = true then 6 else 0) := fun wr => by simp [fltC, e2]
            clear e2 e1n e3n
            go_wp2_with fail
            refine (wrong_any g _ hs).mono ?_
            rintro e w3 ⟨hb3, v, rfl, hv⟩
            have HB3 : Hid (Below w.heap.size w w3) := HB.out.trans (hb3.mono HSZ.out)
            have HV3 : Hid (T.digs g.text → g.text.size ≤ 9 → v = T.val g.text g.text.size) := hv
            clear hb3 hv
            cases hwr : wrgV g.kind v with
            | true =>
              have HE : Hid (fltC g.kind g.depth true 0 false (wrgV g.kind v) = 6) := by show _ = _; rw [HW.out, hwr]; rfl
              go_wp2_with fail
              go_ret
              exact ⟨HB3.out, v, by rw [HE.out]; rfl, HV3.out⟩
            | false =>
              have HE : Hid (fltC g.kind g.depth true 0 false (wrgV g.kind v) = 0) := by show _ = _; rw [HW.out, hwr]; rfl
              go_wp2_with fail
              go_ret
              exact ⟨HB3.out, v, by rw [HE.out]; rfl, HV3.out⟩
          | false =>
            have HW : Hid (∀ wr, fltC g.kind g.depth false 0 false wr = 5) := fun wr => by simp [fltC, e2]
            clear e2 e1n e3n
            go_wp2_with fail
            go_ret
            exact ⟨HB.out, T.val g.text g.text.size, by rw [HW.out]; rfl, fun _ _ => rfl⟩
        | false =>
          have e2n : ¬ g.kind = 2 := beq_eq_false_iff_ne.1 k2
          have HW : Hid (∀ wr, fltC g.kind g.depth th 0 false wr = if wr = true then 6 else 0) := fun wr => by simp [fltC, e1n, e2n, e3n]
          clear e1n e2n e3n
          go_wp2_with fail
          refine (wrong_any g _ hs).mono ?_
          rintro e w3 ⟨hb3, v, rfl, hv⟩
          have HB3 : Hid (Below w.heap.size w w3) := HB.out.trans (hb3.mono HSZ.out)
          have HV3 : Hid (T.digs g.text → g.text.size ≤ 9 → v = T.val g.text g.text.size) := hv
          clear hb3 hv
          cases hwr : wrgV g.kind v with
          | true =>
            have HE : Hid (fltC g.kind g.depth th 0 false (wrgV g.kind v) = 6) := by show _ = _; rw [HW.out, hwr]; rfl
            go_wp2_with fail
            go_ret
            exact ⟨HB3.out, v, by rw [HE.out]; rfl, HV3.out⟩
          | false =>
            have HE : Hid (fltC g.kind g.depth th 0 false (wrgV g.kind v) = 0) := by show _ = _; rw [HW.out, hwr]; rfl
            go_wp2_with fail
            go_ret
            exact ⟨HB3.out, v, by rw [HE.out]; rfl, HV3.out⟩
  | false =>
    have hle : ¬ g.list = -1 := beq_eq_false_iff_ne.1 hl1
    have hl2 : (g.list != -1) = true := by simp [bne, hl1]
    have en : ((befN g (l.take i).reverse : Nat) : Int) = n := by rw [← HNN.out]; unfold manyN; rw [if_neg hle]
    have es : befS g (l.take i).reverse = sm := by rw [← HSM.out]; unfold sameB; rw [if_neg hle]
    go_wp2_with fail
    have hBF := before_any b cap l i g _ HSL1.out hl HG.out
    rw [en, es] at hBF
    refine hBF.mono ?_
    rintro e w2 ⟨hb2, rfl⟩
    have hce : ∀ j, w2.cell? ⟨w.heap.size, j, none⟩ = w1.cell? ⟨w.heap.size, j, none⟩ := fun j => hb2.cell (p := ⟨w.heap.size, j, none⟩) hsz1
    have b0 : w2.cell? ⟨w.heap.size, 0, none⟩ = some (.int .i64 g.kind) := (hce 0).trans b0
    have b1 : w2.cell? ⟨w.heap.size, 1, none⟩ = some (.int .i64 g.place) := (hce 1).trans b1
    have b2 : w2.cell? ⟨w.heap.size, 2, none⟩ = some (.int .i64 g.depth) := (hce 2).trans b2
    have b3 : w2.cell? ⟨w.heap.size, 3, none⟩ = some (.int .i64 g.list) := (hce 3).trans b3
    have b4 : w2.cell? ⟨w.heap.size, 4, none⟩ = some (.string g.text) := (hce 4).trans b4
    have HB : Hid (Below w.heap.size w w2) := HB1.out.trans (hb2.mono (Nat.le_of_lt hsz1))
    have HSZ : Hid (w.heap.size ≤ w2.heap.size) := Nat.le_trans (Nat.le_of_lt hsz1) hb2.size
    clear hBF hce hb2 HNN HSM hle en es
    cases k3 : (g.kind == 3) with
    | true =>
      have e3 : g.kind = 3 := by simpa using k3
      have k1 : (g.kind == 1) = false := by rw [e3]; decide
      have k2 : (g.kind == 2) = false := by rw [e3]; decide
      by_cases hd : 12 ≤ g.depth
      · have dd : decide (12 ≤ g.depth) = true := decide_eq_true hd
        have HW : Hid (∀ wr, fltC g.kind g.depth th n sm wr = 3) := fun wr => by simp [fltC, e3, hd]
        clear e3
        go_wp2_with fail
        go_ret
        exact ⟨HB.out, T.val g.text g.text.size, by rw [HW.out]; rfl, fun _ _ => rfl⟩
      · have dd : decide (12 ≤ g.depth) = false := decide_eq_false hd
        by_cases hn : 16 ≤ n
        · have dn : decide (16 ≤ n) = true := decide_eq_true hn
          have HW : Hid (∀ wr, fltC g.kind g.depth th n sm wr = 4) := fun wr => by simp [fltC, e3, hd, hn]
          go_wp2_with fail
          go_ret
          exact ⟨HB.out, T.val g.text g.text.size, by rw [HW.out]; rfl, fun _ _ => rfl⟩
        · have dn : decide (16 ≤ n) = false := decide_eq_false hn
          have HW : Hid (∀ wr, fltC g.kind g.depth th n sm wr = if wr = true then 6 else if sm = true then 7 else 0) := fun wr => by simp [fltC, e3, hd, hn]
          clear hn hd e3
          go_wp2_with fail
          refine (wrong_any g _ hs).mono ?_
          rintro e w3 ⟨hb3, v, rfl, hv⟩
          have HB3 : Hid (Below w.heap.size w w3) := HB.out.trans (hb3.mono HSZ.out)
          have HV3 : Hid (T.digs g.text → g.text.size ≤ 9 → v = T.val g.text g.text.size) := hv
          clear hb3 hv
          cases hwr : wrgV g.kind v with
          | true =>
            have HE : Hid (fltC g.kind g.depth th n sm (wrgV g.kind v) = 6) := by show _ = _; rw [HW.out, hwr]; rfl
            go_wp2_with fail
            go_ret
            exact ⟨HB3.out, v, by rw [HE.out]; rfl, HV3.out⟩
          | false =>
            cases sm with
            | true =>
              have HE : Hid (fltC g.kind g.depth th n true (wrgV g.kind v) = 7) := by show _ = _; rw [HW.out, hwr]; rfl
              go_wp2_with fail
              go_ret
              exact ⟨HB3.out, v, by rw [HE.out]; rfl, HV3.out⟩
            | false =>
              have HE : Hid (fltC g.kind g.depth th n false (wrgV g.kind v) = 0) := by show _ = _; rw [HW.out, hwr]; rfl
              go_wp2_with fail
              go_ret
              exact ⟨HB3.out, v, by rw [HE.out]; rfl, HV3.out⟩
    | false =>
      have e3n : ¬ g.kind = 3 := beq_eq_false_iff_ne.1 k3
      by_cases hn : 16 ≤ n
      · have dn : decide (16 ≤ n) = true := decide_eq_true hn
        have HW : Hid (∀ wr, fltC g.kind g.depth th n sm wr = 4) := fun wr => by simp [fltC, e3n, hn]
        go_wp2_with fail
        go_ret
        exact ⟨HB.out, T.val g.text g.text.size, by rw [HW.out]; rfl, fun _ _ => rfl⟩
      · have dn : decide (16 ≤ n) = false := decide_eq_false hn
        cases k1 : (g.kind == 1) with
        | true =>
          have e1 : g.kind = 1 := by simpa using k1
          have k2 : (g.kind == 2) = false := by rw [e1]; decide
          cases th with
          | true =>
            have HW : Hid (∀ wr, fltC g.kind g.depth true n sm wr = 5) := fun wr => by simp [fltC, hn, e1]
            clear hn e1 e3n
            go_wp2_with fail
            go_ret
            exact ⟨HB.out, T.val g.text g.text.size, by rw [HW.out]; rfl, fun _ _ => rfl⟩
          | false =>
            have HW : Hid (∀ wr, fltC g.kind g.depth false n sm wr = if wr = true then 6 else if sm = true then 7 else 0) := fun wr => by simp [fltC, hn, e1]
            clear hn e1 e3n
            go_wp2_with fail
            refine (wrong_any g _ hs).mono ?_
            rintro e w3 ⟨hb3, v, rfl, hv⟩
            have HB3 : Hid (Below w.heap.size w w3) := HB.out.trans (hb3.mono HSZ.out)
            have HV3 : Hid (T.digs g.text → g.text.size ≤ 9 → v = T.val g.text g.text.size) := hv
            clear hb3 hv
            cases hwr : wrgV g.kind v with
            | true =>
              have HE : Hid (fltC g.kind g.depth false n sm (wrgV g.kind v) = 6) := by show _ = _; rw [HW.out, hwr]; rfl
              go_wp2_with fail
              go_ret
              exact ⟨HB3.out, v, by rw [HE.out]; rfl, HV3.out⟩
            | false =>
              cases sm with
              | true =>
                have HE : Hid (fltC g.kind g.depth false n true (wrgV g.kind v) = 7) := by show _ = _; rw [HW.out, hwr]; rfl
                go_wp2_with fail
                go_ret
                exact ⟨HB3.out, v, by rw [HE.out]; rfl, HV3.out⟩
              | false =>
                have HE : Hid (fltC g.kind g.depth false n false (wrgV g.kind v) = 0) := by show _ = _; rw [HW.out, hwr]; rfl
                go_wp2_with fail
                go_ret
                exact ⟨HB3.out, v, by rw [HE.out]; rfl, HV3.out⟩
        | false =>
          have e1n : ¬ g.kind = 1 := beq_eq_false_iff_ne.1 k1
          cases k2 : (g.kind == 2) with
          | true =>
            have e2 : g.kind = 2 := by simpa using k2
            cases th with
            | true =>
              have HW : Hid (∀ wr, fltC g.kind g.depth true n sm wr = if wr = true then 6 else if sm = true then 7 else 0) := fun wr => by simp [fltC, hn, e2]
              clear hn e2 e1n e3n
              go_wp2_with fail
              refine (wrong_any g _ hs).mono ?_
              rintro e w3 ⟨hb3, v, rfl, hv⟩
              have HB3 : Hid (Below w.heap.size w w3) := HB.out.trans (hb3.mono HSZ.out)
              have HV3 : Hid (T.digs g.text → g.text.size ≤ 9 → v = T.val g.text g.text.size) := hv
              clear hb3 hv
              cases hwr : wrgV g.kind v with
              | true =>
                have HE : Hid (fltC g.kind g.depth true n sm (wrgV g.kind v) = 6) := by show _ = _; rw [HW.out, hwr]; rfl
                go_wp2_with fail
                go_ret
                exact ⟨HB3.out, v, by rw [HE.out]; rfl, HV3.out⟩
              | false =>
                cases sm with
                | true =>
                  have HE : Hid (fltC g.kind g.depth true n true (wrgV g.kind v) = 7) := by show _ = _; rw [HW.out, hwr]; rfl
                  go_wp2_with fail
                  go_ret
                  exact ⟨HB3.out, v, by rw [HE.out]; rfl, HV3.out⟩
                | false =>
                  have HE : Hid (fltC g.kind g.depth true n false (wrgV g.kind v) = 0) := by show _ = _; rw [HW.out, hwr]; rfl
                  go_wp2_with fail
                  go_ret
                  exact ⟨HB3.out, v, by rw [HE.out]; rfl, HV3.out⟩
            | false =>
              have HW : Hid (∀ wr, fltC g.kind g.depth false n sm wr = 5) := fun wr => by simp [fltC, hn, e2]
              clear hn e2 e1n e3n
              go_wp2_with fail
              go_ret
              exact ⟨HB.out, T.val g.text g.text.size, by rw [HW.out]; rfl, fun _ _ => rfl⟩
          | false =>
            have e2n : ¬ g.kind = 2 := beq_eq_false_iff_ne.1 k2
            have HW : Hid (∀ wr, fltC g.kind g.depth th n sm wr = if wr = true then 6 else if sm = true then 7 else 0) := fun wr => by simp [fltC, hn, e1n, e2n, e3n]
            clear hn e1n e2n e3n
            go_wp2_with fail
            refine (wrong_any g _ hs).mono ?_
            rintro e w3 ⟨hb3, v, rfl, hv⟩
            have HB3 : Hid (Below w.heap.size w w3) := HB.out.trans (hb3.mono HSZ.out)
            have HV3 : Hid (T.digs g.text → g.text.size ≤ 9 → v = T.val g.text g.text.size) := hv
            clear hb3 hv
            cases hwr : wrgV g.kind v with
            | true =>
              have HE : Hid (fltC g.kind g.depth th n sm (wrgV g.kind v) = 6) := by show _ = _; rw [HW.out, hwr]; rfl
              go_wp2_with fail
              go_ret
              exact ⟨HB3.out, v, by rw [HE.out]; rfl, HV3.out⟩
            | false =>
              cases sm with
              | true =>
                have HE : Hid (fltC g.kind g.depth th n true (wrgV g.kind v) = 7) := by show _ = _; rw [HW.out, hwr]; rfl
                go_wp2_with fail
                go_ret
                exact ⟨HB3.out, v, by rw [HE.out]; rfl, HV3.out⟩
              | false =>
                have HE : Hid (fltC g.kind g.depth th n false (wrgV g.kind v) = 0) := by show _ = _; rw [HW.out, hwr]; rfl
                go_wp2_with fail
                go_ret
                exact ⟨HB3.out, v, by rw [HE.out]; rfl, HV3.out⟩
end Go.Proofs.YtaebngpoagjafaaGreat
namespace Go.Proofs.YtaebngpoagjafaaGreat
open Go.RowKit

theorem T.ch_extract (s : ByteArray) (p e i : Nat) (he : e ≤ s.size) (hi : i < e - p) : T.ch (s.extract p e) i = T.ch s (p + i) := by
  have h1 : i < (s.extract p e).size := by rw [ByteArray.size_extract]; omega
  have h2 : p + i < s.size := by omega
  rw [T.ch_lt h1, T.ch_lt h2]
  rw [ByteArray.getElem_extract]
theorem T.size_extract (s : ByteArray) (p e : Nat) (he : e ≤ s.size) : (s.extract p e).size = e - p := by rw [ByteArray.size_extract]; omega

/-- The digits that were read: all are digits, so many at most. -/
theorem T.dgF_all (s : ByteArray) (most lim : Int) (plain : Bool) (p : Nat) : ∀ n j, p ≤ j → ((j : Int) - p ≤ most) → (∀ i, p ≤ i → i < j → T.dig (T.ch s i) = true) → 0 ≤ most →
    (((T.dgF s most lim plain p n j).2 : Int) - p ≤ most) ∧ (∀ i, p ≤ i → i < (T.dgF s most lim plain p n j).2 → T.dig (T.ch s i) = true) := by
  intro n
  induction n with
  | zero => intro j _ h2 h3 _; exact ⟨h2, h3⟩
  | succ n ih =>
    intro j h1 h2 h3 h4
    cases hd : T.dig (T.ch s j) with
    | false => rw [T.dgF_end hd]; exact ⟨h2, h3⟩
    | true =>
      cases hs : T.stp most lim plain (T.ch s j) ((j : Int) - p) (T.ch s p) with
      | true => rw [T.dgF_stop hd hs]; exact ⟨h2, h3⟩
      | false =>
        rw [T.dgF_next hd hs]
        simp only [T.stp, Bool.or_eq_false_iff, beq_eq_false_iff_ne] at hs
        refine ih (j + 1) (by omega) (by omega) (fun i hi1 hi2 => ?_) h4
        by_cases hij : i = j
        · rw [hij]; exact hd
        · exact h3 i hi1 (by omega)
theorem T.dg_all (s : ByteArray) (most lim : Int) (plain : Bool) (p : Nat) (hp : p ≤ s.size) (hm : 0 ≤ most) : T.digs (s.extract p (T.dg s most lim plain p).2) ∧ (((s.extract p (T.dg s most lim plain p).2).size : Int) ≤ most) := by
  have hb := T.dg_bd s most lim plain p hp
  have h := T.dgF_all s most lim plain p (s.size - p + 1) p (Nat.le_refl _) (by omega) (fun i h1 h2 => by omega) hm
  have e : T.dgF s most lim plain p (s.size - p + 1) p = T.dg s most lim plain p := rfl
  rw [e] at h
  generalize (T.dg s most lim plain p).2 = z at *
  constructor
  · intro i hi
    rw [T.size_extract _ _ _ hb.2] at hi
    rw [T.ch_extract _ _ _ _ hb.2 hi]
    have := h.2 (p + i) (by omega) (by omega)
    simp only [T.dig, Bool.and_eq_true, decide_eq_true_eq] at this
    exact this
  · rw [T.size_extract _ _ _ hb.2]; omega

/-- A frame's kind goes with its sort; a sign that bears a number has digits. -/
def FI (f : FR) : Prop := (f.sym = 262 → f.kind = 9) ∧ (f.sym = 263 → f.kind = 1 ∨ f.kind = 2)
def SI (g : SG) : Prop := g.text.size ≤ 2000 ∧ ((g.kind = 1 ∨ g.kind = 2 ∨ g.kind = 3 ∨ g.kind = 9) ∨ (T.digs g.text ∧ g.text.size ≤ 9))
theorem exprL_fi (d : Int) (p : Nat) (c : Int) (l : List FR) (h : exprL d p c = some l) : ∀ f ∈ l, FI f := by
  unfold exprL at h
  repeat' split at h
  all_goals first
    | (simp at h; done)
    | (injection h with h; subst h; simp [byF, FI])
theorem itemL_fi (f : FR) : ∀ g ∈ itemL f, FI g := by
  unfold itemL
  repeat' split
  all_goals (simp [byF, FI])
def RI (r : Res) : Prop := (∀ g ∈ r.push, FI g) ∧ (∀ g ∈ r.sg, SI g)
theorem stepR_fi (s : ByteArray) (k : Nat) (f : FR) (hk : k ≤ s.size) (hf : FI f) : RI (stepR s k f) := by
  have h2 := T.sk_le hk
  unfold stepR
  generalize T.sk s k = p at *
  simp only
  split
  · simp [RI, byF, FI]
  · split
    · split <;> simp [RI, byF, FI]
    · split
      · split
        · next l hl =>
          refine ⟨exprL_fi _ _ _ _ hl, ?_⟩
          intro g hg
          simp only [List.mem_singleton] at hg
          subst hg
          exact ⟨by simp, .inl (by simp)⟩
        · simp [RI]
      · split
        · exact ⟨itemL_fi f, by simp⟩
        · split
          · next e4 =>
            split
            · refine ⟨?_, by simp⟩
              intro g hg
              simp only [List.mem_cons, List.not_mem_nil, or_false] at hg
              rcases hg with rfl | rfl | rfl
              · simp [byF, FI]
              · simp [FI]
              · exact hf
            · simp [RI]
          · split
            · have := T.dg_all s 9 58 true p h2 (by omega)
              split
              · refine ⟨by simp, ?_⟩
                intro g hg
                simp only [List.mem_singleton] at hg
                subst hg
                exact ⟨by have := this.2; simp only; omega, .inr ⟨this.1, by have := this.2; simp only; omega⟩⟩
              · simp [RI]
            · split
              · next e6 =>
                have := T.dg_all s 32 50 false p h2 (by omega)
                split
                · refine ⟨by simp, ?_⟩
                  intro g hg
                  simp only [List.mem_singleton] at hg
                  subst hg
                  exact ⟨by have := this.2; simp only; omega, .inl (.inr (.inr (.inr (hf.1 e6))))⟩
                · simp [RI]
              · split
                · next e7 =>
                  split
                  · next hc =>
                    have := T.ch_nn (s := s) (k := p) (by omega)
                    refine ⟨by simp, ?_⟩
                    intro g hg
                    simp only [List.mem_singleton] at hg
                    subst hg
                    refine ⟨by simp only; rw [T.size_extract _ _ _ (by omega)]; omega, .inl ?_⟩
                    rcases hf.2 e7 with h | h
                    · exact .inl h
                    · exact .inr (.inl h)
                  · simp [RI]
                · split <;> simp [RI]

theorem pL_fi (s : ByteArray) (one : Nat → FR → Option PR) (h1 : ∀ k f q, k ≤ s.size → 0 ≤ f.sym → 0 ≤ f.depth → FI f → one k f = some q → q.at_ ≤ s.size ∧ q.sg.length ≤ q.n ∧ ∀ g ∈ q.sg, SI g) :
    ∀ (l : List FR) (k : Nat) (q : PR), k ≤ s.size → (∀ f ∈ l, 0 ≤ f.sym ∧ 0 ≤ f.depth ∧ FI f) → pL one k l = some q → q.at_ ≤ s.size ∧ q.sg.length ≤ q.n ∧ ∀ g ∈ q.sg, SI g := by
  intro l
  induction l with
  | nil =>
    intro k q hk _ h
    simp only [pL] at h
    injection h with h
    subst h
    exact ⟨hk, by simp, by simp⟩
  | cons f r ih =>
    intro k q hk hl h
    simp only [pL] at h
    have hf := hl f (by simp)
    split at h
    · simp at h
    · next a ha =>
      have hA := h1 k f a hk hf.1 hf.2.1 hf.2.2 ha
      split at h
      · split at h
        · simp at h
        · next b hb =>
          injection h with h
          subst h
          have hB := ih a.at_ b hA.1 (fun g hg => hl g (by simp [hg])) hb
          refine ⟨hB.1, by simp only [List.length_append]; omega, ?_⟩
          intro g hg
          rcases List.mem_append.1 hg with hg | hg
          · exact hB.2.2 g hg
          · exact hA.2.2 g hg
      · injection h with h
        subst h
        exact hA
theorem pF_fi (s : ByteArray) : ∀ (n k : Nat) (f : FR) (q : PR), k ≤ s.size → 0 ≤ f.sym → 0 ≤ f.depth → FI f → pF s n k f = some q → q.at_ ≤ s.size ∧ q.sg.length ≤ q.n ∧ ∀ g ∈ q.sg, SI g := by
  intro n
  induction n with
  | zero => intro k f q _ _ _ _ h; simp [pF] at h
  | succ n ih =>
    intro k f q hk h0 hd hf h
    have hS := stepR_sf s k f hk h0 hd
    have hI := stepR_fi s k f hk hf
    simp only [pF] at h
    split at h
    · split at h
      · simp at h
      · next b hb =>
        injection h with h
        subst h
        have hB := pL_fi s (pF s n) ih (stepR s k f).push (stepR s k f).at_ b hS.hi (fun g hg => by
          rcases hS.fst with hp | ⟨f0, r, hp, _, _, hall⟩
          · rw [hp] at hg; simp at hg
          · have := hall g hg; exact ⟨this.1, this.2.1, hI.1 g hg⟩) hb
        refine ⟨hB.1, by have := hS.sg; simp only [List.length_append]; omega, ?_⟩
        intro g hg
        rcases List.mem_append.1 hg with hg | hg
        · exact hB.2.2 g hg
        · exact hI.2 g hg
    · injection h with h
      subst h
      exact ⟨hS.hi, by simp, by simp⟩

/-- What the reader gives: the place is in the text, the signs are good and not too many. -/
theorem rd_good (s : ByteArray) (hs : s.size ≤ 2000) : (rd s).2.1 ≤ s.size ∧ (rd s).2.2.length ≤ 40000 ∧ (∀ g ∈ (rd s).2.2, SI g) ∧ ∃ M R, M ≤ 40000 ∧ runM s M 0 [⟨256, 0, 0, 0⟩, ⟨257, 0, 0, 0⟩] [] = some R ∧ rd s = rdE s R := by
  obtain ⟨q, hq, h1, h2, h3⟩ := rd0_ends s
  have hI := pL_fi s _ (pF_fi s _) _ _ _ (Nat.zero_le _) (by simp [FI]) hq
  have e : rd s = rdE s (q.ok, q.at_, if q.ok = true then q.sg else []) := by unfold rd; rw [hq]
  have hk := T.sk_le h1
  refine ⟨?_, ?_, ?_, q.n, _, by omega, h3, e⟩
  · rw [e]; unfold rdE; simp only
    split
    · split
      · exact hk
      · exact hk
    · exact h1
  · rw [e]; unfold rdE; simp only
    split
    · split
      · simp
      · show q.sg.length ≤ 40000; omega
    · simp
  · rw [e]; unfold rdE; simp only
    split
    · split
      · simp
      · exact hI.2.2
    · simp

theorem sgC_flat (l : List SG) : sgC l = l.reverse.flatMap sgV := by
  induction l with
  | nil => rfl
  | cons g r ih => simp only [sgC, ih, List.reverse_cons, List.flatMap_append]; simp
theorem sgF_get (ls : List SG) : ∀ (i : Nat) (f : SG) (j : Nat), ls[i]? = some f → j < 5 → (ls.flatMap sgV)[i * 5 + j]? = (sgV f)[j]? := by
  induction ls with
  | nil => intro i f j h; simp at h
  | cons g r ih =>
    intro i f j h hj
    simp only [List.flatMap_cons]
    cases i with
    | zero =>
      simp at h
      subst h
      rw [Nat.zero_mul, Nat.zero_add, List.getElem?_append_left (by simp [sgV]; omega)]
    | succ i =>
      simp at h
      have := ih i f j h hj
      rw [List.getElem?_append_right (by simp [sgV]; omega)]
      have e : (i + 1) * 5 + j - (sgV g).length = i * 5 + j := by simp [sgV]; omega
      rw [e]; exact this
theorem SL.of_row {w : World} {base b cap : Nat} {gs : List SG} (h : w.ownsRow base 151 5 (.slice (some ⟨b, 0, none⟩) gs.length cap) gs.length (sgC gs)) : SL w b gs.reverse := by
  intro i g hg
  have hi : i < gs.length := by have := (List.getElem?_eq_some_iff.1 hg).1; simpa using this
  have hc : ∀ j, j < 5 → w.cell? ⟨b, i * 5 + j, none⟩ = (sgV g)[j]? := fun j hj => by
    rw [World.ownsRow.cellAt h (i * 5 + j) (by omega), sgC_flat]
    exact sgF_get _ i g j hg hj
  exact ⟨hc 0 (by omega), hc 1 (by omega), hc 2 (by omega), hc 3 (by omega), hc 4 (by omega)⟩
end Go.Proofs.YtaebngpoagjafaaGreat
namespace Go.Proofs.YtaebngpoagjafaaGreat
open Go.RowKit

/-- What is wrong with sign number i. -/
def flt (l : List SG) (i : Nat) (g : SG) : Int := fltV l i g (T.val g.text g.text.size)
theorem flt_of (l : List SG) (i : Nat) (g : SG) (v : Int) (h : SI g) (hv : T.digs g.text → g.text.size ≤ 9 → v = T.val g.text g.text.size) : fltV l i g v = flt l i g := by
  rcases h.2 with h | ⟨h1, h2⟩
  · have e : ∀ v, wrgV g.kind v = false := fun v => by
      rcases h with h | h | h | h <;> simp [wrgV, h]
    unfold flt fltV
    rw [e, e]
  · unfold flt; rw [hv h1 h2]
/-- The first fault from sign number i on: its number, its place. -/
def fstF (l : List SG) : Nat → Nat → Int × Int
  | 0, _ => (0, 0)
  | n + 1, i => match l[i]? with
    | none => (0, 0)
    | some g => if flt l i g = 0 then fstF l n (i + 1) else (flt l i g, g.place)
def chk (s : ByteArray) : Int × Int :=
  if 2000 < s.size then (1, 0) else if (rd s).1 = true then fstF (rd s).2.2.reverse (rd s).2.2.length 0 else (2, (rd s).2.1)

attribute [local go_sem ↓] Go.wp_at_zero Go.wp_at_succ
set_option maxRecDepth 100000 in
set_option maxHeartbeats 800000 in
theorem Check_any (s : ByteArray) (w : World) :
    Calls Tryz.prog 53 #[.string s] w fun e w' => Below w.heap.size w w' ∧ e = .returned (.tuple #[.int .i64 (chk s).1, .int .i64 (chk s).2]) := by
  by_cases hs : 2000 < s.size
  · have HC : Hid (chk s = (1, 0)) := by show _ = _; unfold chk; rw [if_pos hs]
    have hs' : (2000 : Int) < (s.size : Int) := by omega
    go_enter Tryz.func53, Tryz.ntmps53
    go_wp2_with fail
    go_ret2
    exact ⟨Below.refl _ _, by rw [HC.out]; rfl⟩
  have hs' : ¬ (2000 : Int) < (s.size : Int) := by omega
  have hs2 : s.size ≤ 2000 := by omega
  obtain ⟨r1, r2, r3, M, R, hM, hR, he⟩ := rd_good s hs2
  have hrd := fun wz => read_run s wz hs2 M R hM hR
  rw [← he] at hrd
  have HC : Hid (chk s = if (rd s).1 = true then fstF (rd s).2.2.reverse (rd s).2.2.length 0 else (2, (rd s).2.1)) := by show _ = _; unfold chk; rw [if_neg hs]
  have HRD : Hid (∀ wz : World, Calls Tryz.prog 92 #[.string s] wz fun e w' => Below wz.heap.size wz w' ∧ ReadPost wz.heap.size (rd s) e w') := hrd
  clear he hR hrd hs
  generalize rd s = D at *
  obtain ⟨ok, at_, gs⟩ := D
  simp only at r1 r2 r3
  have HC1 : Hid (chk s = if ok = true then fstF gs.reverse gs.length 0 else (2, (at_ : Int))) := HC.out
  clear HC
  have HR3 : Hid (∀ g ∈ gs, SI g) := r3
  clear r3
  go_enter Tryz.func53, Tryz.ntmps53
  go_wp2_with fail
  refine (HRD.out _).mono ?_
  rintro e w1 ⟨hb1, v, (⟨hok, he, hrow⟩ | ⟨hok, he⟩)⟩
  · simp only at hok hrow
    subst hok
    subst he
    have HC2 : Hid (chk s = fstF gs.reverse gs.length 0) := by show _ = _; rw [HC1.out]; rfl
    clear HC1 HRD
    have HB1 : Hid (Below w.heap.size w w1) := hb1
    rcases Nat.eq_zero_or_pos gs.length with h0 | h0
    · have hv : ∃ o cap, v = .slice o 0 cap := by
        rcases hrow.2 with ⟨rfl, _⟩ | ⟨g, cap, cur, rfl, _⟩
        · exact ⟨none, 0, rfl⟩
        · exact ⟨_, cap, by rw [h0]⟩
      obtain ⟨o, cap, rfl⟩ := hv
      have HC : Hid (chk s = (0, 0)) := by show _ = _; rw [HC2.out, h0]; rfl
      clear HC2
      clear hrow hb1
      go_wp2_with fail
      go_loopg [6] 1 (fun n x wr => x = .int .i64 0 ∧ wr = w1)
      case atStart => exact ⟨rfl, rfl⟩
      case round =>
        obtain ⟨rfl, rfl⟩ := hrel
        go_wp2_with fail
        go_ret2
        exact ⟨HB1.out, by rw [HC.out]; rfl⟩
    · have hv : ∃ b cap, v = .slice (some ⟨b, 0, none⟩) gs.length cap := by
        rcases hrow.2 with ⟨_, h1⟩ | ⟨g, cap, cur, rfl, _⟩
        · omega
        · exact ⟨g, cap, rfl⟩
      obtain ⟨b, cap, rfl⟩ := hv
      have hbw : b < w1.heap.size := (hrow.lt b rfl).2
      have HSL : Hid (SL w1 b gs.reverse) := SL.of_row hrow
      have hL : gs.reverse.length = gs.length := List.length_reverse
      have HSI : Hid (∀ g ∈ gs.reverse, SI g) := fun g hg => HR3.out g (List.mem_reverse.1 hg)
      clear hrow hb1 HR3
      generalize gs.reverse = L at *
      have hlen : gs.length = L.length := hL.symm
      clear hL
      rw [hlen] at r2 HC2 ⊢
      have HC : Hid (chk s = fstF L L.length 0) := HC2.out
      clear hlen HC2
      go_wp2_with fail
      go_loopg [6] L.length (fun n x wr => ∃ j : Nat, n + j = L.length ∧ x = .int .i64 j ∧ Hid (fstF L n j = fstF L L.length 0) ∧ Below w1.heap.size w1 wr)
      case atStart => exact ⟨0, by omega, rfl, rfl, Below.refl _ _⟩
      case round =>
        obtain ⟨j, hn, rfl, HF, hb⟩ := hrel
        have HB2 : Hid (Below w1.heap.size w1 wr) := hb
        have hsl : SL wr b L := HSL.out.of_block (hb.block _ hbw)
        have hbr : b < wr.heap.size := Nat.lt_of_lt_of_le hbw hb.size
        have j0 : (0 : Int) ≤ (j : Int) := by omega
        clear hb
        by_cases hlt : j < L.length
        · have hlt' : (j : Int) < (L.length : Int) := by omega
          obtain ⟨g, hg⟩ : ∃ g, L[j]? = some g := ⟨L[j]'hlt, List.getElem?_eq_getElem hlt⟩
          have hSI : SI g := HSI.out g (List.mem_iff_getElem?.2 ⟨j, hg⟩)
          have hX := fun (wz : World) (h1 : SL wz b L) (h2 : b < wz.heap.size) => fault_any b cap L j g wz h1 (by omega) hg h2 hSI.1
          obtain ⟨m, rfl⟩ : ∃ m, gk = m + 1 := ⟨gk - 1, by omega⟩
          have HF2 : Hid (fstF L (m + 1) j = if flt L j g = 0 then fstF L m (j + 1) else (flt L j g, g.place)) := by
            show _ = _
            simp only [fstF, hg]
          have HX : Hid (∀ wz : World, SL wz b L → b < wz.heap.size → Calls Tryz.prog 93 #[.slice (some ⟨b, 0, none⟩) L.length cap, .int .i64 j] wz fun e w' => Below wz.heap.size wz w' ∧ ∃ v, e = .returned (.int .i64 (fltV L j g v)) ∧ (T.digs g.text → g.text.size ≤ 9 → v = T.val g.text g.text.size)) := hX
          have HSL2 : Hid (SL wr b L) := hsl
          have HG : Hid (L[j]? = some g) := hg
          have HS : Hid (SI g) := hSI
          clear hX hsl hg hSI
          go_wp2_with fail
          refine (HX.out _ HSL2.out hbr).mono ?_
          rintro e w3 ⟨hb3, v, rfl, hv⟩
          rw [flt_of L j g v HS.out hv]
          have hsl3 : SL w3 b L := HSL2.out.of_block (hb3.block _ hbr)
          obtain ⟨g0, g1, g2, g3, g4⟩ := hsl3 j g HG.out
          have HB3 : Hid (Below w1.heap.size w1 w3) := HB2.out.trans (hb3.mono HB2.out.size)
          clear hb3 hv hsl3 g0 g2 g3 g4
          generalize flt L j g = z at *
          cases hz : (z == 0) with
          | true =>
            have hz0 : z = 0 := by simpa using hz
            have HE : Hid (fstF L m (j + 1) = fstF L L.length 0) := by
              show _ = _
              rw [← HF.out, HF2.out, if_pos hz0]
            clear hz0
            have hz2 : (z != 0) = false := by simp [bne, hz]
            go_wp2_with fail
            go_roundg m
            case measure => omega
            case rel => exact ⟨j + 1, by omega, by go_num, HE.out, HB3.out⟩
          | false =>
            have hz0 : ¬ z = 0 := beq_eq_false_iff_ne.1 hz
            have HE : Hid (chk s = (z, g.place)) := by
              show _ = _
              rw [HC.out, ← HF.out, HF2.out, if_neg hz0]
            clear hz0
            have hz2 : (z != 0) = true := by simp [bne, hz]
            go_wp2_with fail
            go_quiet (fail)
            go_wp2_with fail
            go_ret2
            exact ⟨below_drewN (HB1.out.trans (HB3.out.mono HB1.out.size)) _, by rw [HE.out]; rfl⟩
        · have hd : decide ((j : Int) < (L.length : Int)) = false := decide_eq_false (by omega)
          have HE : Hid (chk s = (0, 0)) := by
            show _ = _
            have h0 : gk = 0 := by omega
            rw [HC.out, ← HF.out, h0]; rfl
          go_wp2_with fail
          go_ret2
          exact ⟨HB1.out.trans (HB2.out.mono HB1.out.size), by rw [HE.out]; rfl⟩
  · simp only at hok
    subst hok
    subst he
    have HC : Hid (chk s = (2, (at_ : Int))) := by show _ = _; rw [HC1.out]; rfl
    have HB1 : Hid (Below w.heap.size w w1) := hb1
    clear hb1
    go_wp2_with fail
    go_ret2
    exact ⟨HB1.out, by rw [HC.out]; rfl⟩
end Go.Proofs.YtaebngpoagjafaaGreat
namespace Go.Proofs.YtaebngpoagjafaaGreat
open Go.RowKit

/-- An item, an expression, a rule. -/
structure IM where
  at_ : Int
  num : Int
  pv : Int
  pl : Int
  wv : Int
  wa : Int
  arm : Int
structure EX where
  kind : Int
  at_ : Int
  depth : Int
  nv : Int
  na : Int
  items : List IM
  inner : Int
structure RL where
  nv : Int
  na : Int
  ex : Int
def imV (x : IM) : List Value := [.int .i64 x.at_, .int .i64 x.num, .int .i64 x.pv, .int .i64 x.pl, .int .i64 x.wv, .int .i64 x.wa, .int .i64 x.arm]
def exV (e : EX × Value) : List Value := [.int .u8 e.1.kind, .int .i64 e.1.at_, .int .i64 e.1.depth, .int .i64 e.1.nv, .int .i64 e.1.na, e.2, .int .i64 e.1.inner]
def rlV (r : RL) : List Value := [.int .i64 r.nv, .int .i64 r.na, .int .i64 r.ex]
def imC (l : List IM) : List Value := l.flatMap imV
def exC (l : List (EX × Value)) : List Value := l.flatMap exV
def rlC (l : List RL) : List Value := l.flatMap rlV

/-- THE PARSER IN MEMORY. -/
structure PM (w : World) (base B : Nat) (s : ByteArray) (k : Nat) (b : Bool) (ev rv : Value) (es : List (EX × Value)) (rs : List RL) : Prop where
  blk : w.heap[B]? = some (.cells #[.string s, .int .i64 k, .bool b, ev, rv] 106 (0, 0))
  ex : w.ownsRow base 114 7 ev es.length (exC es)
  rl : w.ownsRow base 161 3 rv rs.length (rlC rs)
  it : ∀ p ∈ es, w.ownsRow base 167 7 p.2 p.1.items.length (imC p.1.items)
  hB : base ≤ B

theorem PM.lt {w : World} {base B s k b ev rv es rs} (h : PM w base B s k b ev rv es rs) : B < w.heap.size := lt_of_block h.blk
theorem PM.bs {w : World} {base B s k b ev rv es rs} (h : PM w base B s k b ev rv es rs) : base ≤ w.heap.size := Nat.le_trans h.hB (Nat.le_of_lt h.lt)
theorem PM.c0 {w : World} {base B s k b ev rv es rs} (h : PM w base B s k b ev rv es rs) : w.cell? ⟨B, 0, none⟩ = some (.string s) := by simp [World.cell?, h.blk]
theorem PM.c1 {w : World} {base B s k b ev rv es rs} (h : PM w base B s k b ev rv es rs) : w.cell? ⟨B, 1, none⟩ = some (.int .i64 k) := by simp [World.cell?, h.blk]
theorem PM.c2 {w : World} {base B s k b ev rv es rs} (h : PM w base B s k b ev rv es rs) : w.cell? ⟨B, 2, none⟩ = some (.bool b) := by simp [World.cell?, h.blk]
theorem PM.c3 {w : World} {base B s k b ev rv es rs} (h : PM w base B s k b ev rv es rs) : w.cell? ⟨B, 3, none⟩ = some ev := by simp [World.cell?, h.blk]
theorem PM.c4 {w : World} {base B s k b ev rv es rs} (h : PM w base B s k b ev rv es rs) : w.cell? ⟨B, 4, none⟩ = some rv := by simp [World.cell?, h.blk]
theorem PM.fz {w : World} {base B s k b ev rv es rs} (h : PM w base B s k b ev rv es rs) (j : Nat) : w.frozen? ⟨B, j, none⟩ = false := by simp [World.frozen?, h.blk]
theorem PM.neE {w : World} {base B s k b ev rv es rs} (h : PM w base B s k b ev rv es rs) : ev.ownBlock ≠ some B := owns_ne h.ex h.blk (by decide)
theorem PM.neR {w : World} {base B s k b ev rv es rs} (h : PM w base B s k b ev rv es rs) : rv.ownBlock ≠ some B := owns_ne h.rl h.blk (by decide)
theorem PM.neI {w : World} {base B s k b ev rv es rs} (h : PM w base B s k b ev rv es rs) {p : EX × Value} (hp : p ∈ es) : p.2.ownBlock ≠ some B := owns_ne (h.it p hp) h.blk (by decide)
theorem blk5_set {w : World} {B j : Nat} {a b c d e u : Value} {t : TypeId} (h : w.heap[B]? = some (.cells #[a, b, c, d, e] t (0, 0))) : (w.setCell ⟨B, j, none⟩ u).heap[B]? = some (.cells (#[a, b, c, d, e].setIfInBounds j u) t (0, 0)) := by
  simp [World.setCell, Array.getElem?_modify, h]
/-- The place moves on; the text is bad. -/
theorem PM.at {w : World} {base B s k b ev rv es rs} (h : PM w base B s k b ev rv es rs) (k' : Nat) (x : Int) (hx : x = k') : PM (w.setCell ⟨B, 1, none⟩ (.int .i64 x)) base B s k' b ev rv es rs :=
  ⟨by rw [hx]; exact blk5_set h.blk, ownsRow_setCell_other h.ex h.neE _, ownsRow_setCell_other h.rl h.neR _, fun p hp => ownsRow_setCell_other (h.it p hp) (h.neI hp) _, h.hB⟩
theorem PM.bad {w : World} {base B s k b ev rv es rs} (h : PM w base B s k b ev rv es rs) (b' : Bool) : PM (w.setCell ⟨B, 2, none⟩ (.bool b')) base B s k b' ev rv es rs :=
  ⟨blk5_set h.blk, ownsRow_setCell_other h.ex h.neE _, ownsRow_setCell_other h.rl h.neR _, fun p hp => ownsRow_setCell_other (h.it p hp) (h.neI hp) _, h.hB⟩
theorem PM.setMv {w : World} {base B s k b ev rv es rs} (h : PM w base B s k b ev rv es rs) (j : Nat) (x : Value) : Mv base B ev rv ev rv w (w.setCell ⟨B, j, none⟩ x) :=
  ⟨(Below.refl _ _).setCell h.hB _, fun _ _ ho => ⟨heap_set_ne ho.1, ho⟩⟩
theorem PM.alloc {w : World} {base B s k b ev rv es rs} (h : PM w base B s k b ev rv es rs) (o : Obj) : PM (w.alloc o) base B s k b ev rv es rs :=
  ⟨by rw [Below.heap_alloc _ _ _ h.lt]; exact h.blk, h.ex.alloc o, h.rl.alloc o, fun p hp => (h.it p hp).alloc o, h.hB⟩
theorem PM.drewN {w : World} {base B s k b ev rv es rs} (h : PM w base B s k b ev rv es rs) (n : Nat) : PM (w.drewN n) base B s k b ev rv es rs := ⟨h.blk, h.ex, h.rl, h.it, h.hB⟩
theorem PM.drew {w : World} {base B s k b ev rv es rs} (h : PM w base B s k b ev rv es rs) : PM w.drew base B s k b ev rv es rs := ⟨h.blk, h.ex, h.rl, h.it, h.hB⟩
theorem PM.outNew {w : World} {base B s k b ev rv es rs} (h : PM w base B s k b ev rv es rs) : Out B ev rv w.heap.size :=
  ⟨fun e => by have := h.lt; omega, fun e => by have := (h.ex.lt _ e).2; omega, fun e => by have := (h.rl.lt _ e).2; omega⟩

/-- The byte at this place; 0: nothing to read. -/
def hereF (s : ByteArray) (k : Nat) (b : Bool) : Int := if b = true then 0 else if k < s.size then T.ch s k else 0
def skipF (s : ByteArray) (k : Nat) (b : Bool) : Nat := if b = true then k else T.sk s k
theorem skipF_le {s : ByteArray} {k : Nat} {b : Bool} (h : k ≤ s.size) : skipF s k b ≤ s.size := by
  unfold skipF; split
  · exact h
  · exact T.sk_le h
theorem hereF_bd (s : ByteArray) (k : Nat) (b : Bool) : 0 ≤ hereF s k b ∧ hereF s k b < 256 := by
  unfold hereF; split
  · omega
  · split
    · next h => exact T.ch_bd h
    · omega

attribute [local go_sem ↓] Go.wp_at_zero Go.wp_at_succ
set_option maxRecDepth 100000 in
set_option maxHeartbeats 400000 in
theorem here_pm (base B : Nat) (s : ByteArray) (k : Nat) (b : Bool) (ev rv : Value) (es : List (EX × Value)) (rs : List RL) (w : World) (hk : k ≤ s.size) (h : PM w base B s k b ev rv es rs) :
    Calls Tryz.prog 145 #[.pointer (some ⟨B, 0, none⟩)] w fun e w' => e = .returned (.int .u8 (hereF s k b)) ∧ PM w' base B s k b ev rv es rs ∧ Mv base B ev rv ev rv w w' := by
  have H : Hid (PM w base B s k b ev rv es rs) := h
  have c0 := h.c0
  have c1 := h.c1
  have c2 := h.c2
  clear h
  cases b with
  | true =>
    go_enter Tryz.func145, Tryz.ntmps145
    go_wp2_with fail
    go_quiet (fail)
    go_wp2_with fail
    go_ret
    exact ⟨rfl, H.out.drewN _, (Mv.refl _ _ _ _ _).drewN _⟩
  | false =>
    by_cases hlt : k < s.size
    · have HH : Hid (hereF s k false = T.ch s k) := by show _ = _; unfold hereF; rw [if_neg (by decide), if_pos hlt]
      have hlt' : (k : Int) < (s.size : Int) := by omega
      have hge : decide ((s.size : Int) ≤ (k : Int)) = false := decide_eq_false (by omega)
      have hch : ((s[k]).toNat : Int) = T.ch s k := (T.ch_lt hlt).symm
      go_enter Tryz.func145, Tryz.ntmps145
      go_wp2_with fail
      go_quiet (fail)
      go_wp2_with fail
      go_quiet (fail)
      go_wp2_with fail
      go_ret
      exact ⟨by rw [HH.out]; rfl, (H.out.drewN _).drewN _, ((Mv.refl _ _ _ _ _).drewN _).drewN _⟩
    · have HH : Hid (hereF s k false = 0) := by show _ = _; unfold hereF; rw [if_neg (by decide), if_neg hlt]
      have hge : decide ((s.size : Int) ≤ (k : Int)) = true := decide_eq_true (by omega)
      go_enter Tryz.func145, Tryz.ntmps145
      go_wp2_with fail
      go_quiet (fail)
      go_wp2_with fail
      go_ret
      exact ⟨by rw [HH.out]; rfl, H.out.drewN _, (Mv.refl _ _ _ _ _).drewN _⟩

set_option maxRecDepth 100000 in
set_option maxHeartbeats 400000 in
theorem skip_any (base B : Nat) (s : ByteArray) (k : Nat) (b : Bool) (ev rv : Value) (es : List (EX × Value)) (rs : List RL) (w : World) (hs : s.size ≤ 2000) (hk : k ≤ s.size) (h : PM w base B s k b ev rv es rs) :
    Calls Tryz.prog 144 #[.pointer (some ⟨B, 0, none⟩)] w fun e w' => e = .returned (.tuple #[]) ∧ PM w' base B s (skipF s k b) b ev rv es rs ∧ Mv base B ev rv ev rv w w' := by
  have H : Hid (PM w base B s k b ev rv es rs) := h
  clear h
  go_enter Tryz.func144, Tryz.ntmps144
  go_wp2_with fail
  refine (here_pm base B s k b ev rv es rs _ hk H.out).mono ?_
  rintro e w1 ⟨rfl, hp, hm⟩
  have HP : Hid (PM w1 base B s k b ev rv es rs) := hp
  have HM : Hid (Mv base B ev rv ev rv w w1) := hm
  clear hp hm
  go_wp2_with fail
  go_loopg [2] (s.size - k) (fun n x wr => ∃ j : Nat, k ≤ j ∧ j ≤ s.size ∧ n = s.size - j ∧ x = .int .u8 (hereF s j b) ∧ Hid (skipF s j b = skipF s k b) ∧ PM wr base B s j b ev rv es rs ∧ Mv base B ev rv ev rv w wr)
  case atStart => exact ⟨k, Nat.le_refl _, hk, rfl, rfl, rfl, HP.out, HM.out⟩
  case round =>
    obtain ⟨j, hkj, hjs, hn, rfl, HS, hp, hm⟩ := hrel
    have HP2 : Hid (PM wr base B s j b ev rv es rs) := hp
    have HM2 : Hid (Mv base B ev rv ev rv w wr) := hm
    have c1 := hp.c1
    have z1 := hp.fz 1
    have HN : Hid (gk = s.size - j) := hn
    clear hp hm hn
    by_cases hb : T.bl (hereF s j b) = true
    · have hbl : b = false ∧ j < s.size ∧ hereF s j b = T.ch s j := by
        cases b with
        | true => simp [hereF, T.bl] at hb
        | false =>
          by_cases hlt : j < s.size
          · exact ⟨rfl, hlt, by simp [hereF, hlt]⟩
          · simp [hereF, hlt, T.bl] at hb
      obtain ⟨rfl, hlt, he⟩ := hbl
      have HS2 : Hid (skipF s (j + 1) false = skipF s k false) := by
        show _ = _
        rw [← HS.out]
        unfold skipF
        rw [if_neg (by decide), if_neg (by decide)]
        exact T.sk_next (by rw [← he]; exact hb)
      clear he
      have HBD := hereF_bd s j false
      generalize hereF s j false = c at *
      have hjl : (j : Int) < 2000 := by omega
      cases h32 : (c == 32) with
      | true =>
        go_wp2_with fail
        refine (here_pm base B s (j + 1) false ev rv es rs _ (by omega) (HP2.out.at (j + 1) _ (by omega))).mono ?_
        rintro e w3 ⟨rfl, hp3, hm3⟩
        have HP3 : Hid (PM w3 base B s (j + 1) false ev rv es rs) := hp3
        have HM3 : Hid (Mv base B ev rv ev rv w w3) := (HM2.out.trans (HP2.out.setMv 1 _)).trans hm3
        clear hp3 hm3
        go_wp2_with fail
        go_roundg (s.size - (j + 1))
        case measure => rw [HN.out]; omega
        case rel => exact ⟨j + 1, by omega, by omega, rfl, rfl, HS2, HP3.out, HM3.out⟩
      | false =>
        have h10 : (c == 10) = true := by simpa [T.bl, h32] using hb
        go_wp2_with fail
        refine (here_pm base B s (j + 1) false ev rv es rs _ (by omega) (HP2.out.at (j + 1) _ (by omega))).mono ?_
        rintro e w3 ⟨rfl, hp3, hm3⟩
        have HP3 : Hid (PM w3 base B s (j + 1) false ev rv es rs) := hp3
        have HM3 : Hid (Mv base B ev rv ev rv w w3) := (HM2.out.trans (HP2.out.setMv 1 _)).trans hm3
        clear hp3 hm3
        go_wp2_with fail
        go_roundg (s.size - (j + 1))
        case measure => rw [HN.out]; omega
        case rel => exact ⟨j + 1, by omega, by omega, rfl, rfl, HS2, HP3.out, HM3.out⟩
    · have HE : Hid (skipF s k b = j) := by
        show _ = _
        rw [← HS.out]
        cases b with
        | true => rfl
        | false =>
          unfold skipF
          rw [if_neg (by decide)]
          by_cases hlt : j < s.size
          · have e : hereF s j false = T.ch s j := by simp [hereF, hlt]
            exact T.sk_here (by rw [e] at hb; simpa using hb)
          · exact T.sk_here (by rw [T.ch_ge hlt]; rfl)
      have hno : (hereF s j b == 32) = false ∧ (hereF s j b == 10) = false := by
        have : T.bl (hereF s j b) = false := by simpa using hb
        simpa [T.bl] using this
      obtain ⟨h32, h10⟩ := hno
      clear hb
      generalize hereF s j b = c at *
      go_wp2_with fail
      go_end0
      exact ⟨rfl, by rw [HE.out]; exact HP2.out, HM2.out⟩
end Go.Proofs.YtaebngpoagjafaaGreat
