/-
  OUR OWN: the program's parser: take, want.
  OUR OWN: the program's parser: letter, number.
  OUR OWN: the program's parser: number.
-/
import Derived.Test.YtaebngpoagjafaaGreatQ11
import Derived.Laws.NewBlocks
namespace Go.Proofs.YtaebngpoagjafaaGreat
open Go.RowKit

/-- A sign, if it is the next one. -/
def takeB (s : ByteArray) (c : Int) (k : Nat) (b : Bool) : Bool := hereF s (skipF s k b) b == c
def takeK (s : ByteArray) (c : Int) (k : Nat) (b : Bool) : Nat := if takeB s c k b = true then skipF s k b + 1 else skipF s k b
def wantB (s : ByteArray) (c : Int) (k : Nat) (b : Bool) : Bool := if takeB s c k b = true then b else true
theorem takeB_lt {s : ByteArray} {c : Int} {k : Nat} {b : Bool} (hc : c ≠ 0) (h : takeB s c k b = true) : b = false ∧ skipF s k b < s.size ∧ T.ch s (T.sk s k) = c := by
  unfold takeB hereF at h
  cases b with
  | true => simp at h; exact absurd h.symm hc
  | false =>
    by_cases hlt : skipF s k false < s.size
    · simp [hlt] at h
      exact ⟨rfl, hlt, by simpa [skipF] using h⟩
    · simp [hlt] at h; exact absurd h.symm hc
theorem takeK_le {s : ByteArray} {c : Int} {k : Nat} {b : Bool} (hc : c ≠ 0) (hk : k ≤ s.size) : takeK s c k b ≤ s.size := by
  unfold takeK
  split
  · next h => have := (takeB_lt hc h).2.1; omega
  · exact skipF_le hk

attribute [local go_sem ↓] Go.wp_at_zero Go.wp_at_succ
set_option maxRecDepth 100000 in
set_option maxHeartbeats 400000 in
theorem take_any (base B : Nat) (s : ByteArray) (c : Int) (k : Nat) (b : Bool) (ev rv : Value) (es : List (EX × Value)) (rs : List RL) (w : World) (hs : s.size ≤ 2000) (hk : k ≤ s.size) (hc : c ≠ 0) (h : PM w base B s k b ev rv es rs) :
    Calls Tryz.prog 101 #[.pointer (some ⟨B, 0, none⟩), .int .u8 c] w fun e w' => e = .returned (.bool (takeB s c k b)) ∧ PM w' base B s (takeK s c k b) b ev rv es rs ∧ Mv base B ev rv ev rv w w' := by
  have H : Hid (PM w base B s k b ev rv es rs) := h
  clear h
  go_enter Tryz.func101, Tryz.ntmps101
  go_wp2_with fail
  refine (skip_any base B s k b ev rv es rs _ hs hk H.out).mono ?_
  rintro e w1 ⟨rfl, hp, hm⟩
  have HP : Hid (PM w1 base B s (skipF s k b) b ev rv es rs) := hp
  have HM : Hid (Mv base B ev rv ev rv w w1) := hm
  clear hp hm
  go_wp2_with fail
  refine (here_pm base B s (skipF s k b) b ev rv es rs _ (skipF_le hk) HP.out).mono ?_
  rintro e w2 ⟨rfl, hp, hm⟩
  have HP2 : Hid (PM w2 base B s (skipF s k b) b ev rv es rs) := hp
  have HM2 : Hid (Mv base B ev rv ev rv w w2) := HM.out.trans hm
  have c1 := hp.c1
  have z1 := hp.fz 1
  clear hp hm
  cases ht : takeB s c k b with
  | true =>
    have hlt := (takeB_lt hc ht).2.1
    have HK : Hid (takeK s c k b = skipF s k b + 1) := by show _ = _; unfold takeK; rw [if_pos ht]
    have he : (hereF s (skipF s k b) b == c) = true := ht
    have HT : Hid (takeB s c k b = true) := ht
    have he2 : (hereF s (skipF s k b) b != c) = false := by simp [bne, he]
    generalize hereF s (skipF s k b) b = x at *
    clear ht
    generalize skipF s k b = p at *
    have hpl : (p : Int) < 2000 := by omega
    go_wp2_with fail
    go_ret
    exact ⟨by rw [HT.out]; rfl, by rw [HK.out]; exact HP2.out.at (p + 1) _ (by omega), HM2.out.trans (HP2.out.setMv 1 _)⟩
  | false =>
    have HK : Hid (takeK s c k b = skipF s k b) := by show _ = _; unfold takeK; rw [if_neg (by rw [ht]; decide)]
    have he : (hereF s (skipF s k b) b == c) = false := ht
    have HT : Hid (takeB s c k b = false) := ht
    have he2 : (hereF s (skipF s k b) b != c) = true := by simp [bne, he]
    generalize hereF s (skipF s k b) b = x at *
    clear ht
    go_wp2_with fail
    go_ret
    exact ⟨by rw [HT.out]; rfl, by rw [HK.out]; exact HP2.out, HM2.out⟩

set_option maxRecDepth 100000 in
set_option maxHeartbeats 400000 in
theorem want_any (base B : Nat) (s : ByteArray) (c : Int) (k : Nat) (b : Bool) (ev rv : Value) (es : List (EX × Value)) (rs : List RL) (w : World) (hs : s.size ≤ 2000) (hk : k ≤ s.size) (hc : c ≠ 0) (h : PM w base B s k b ev rv es rs) :
    Calls Tryz.prog 142 #[.pointer (some ⟨B, 0, none⟩), .int .u8 c] w fun e w' => e = .returned (.tuple #[]) ∧ PM w' base B s (takeK s c k b) (wantB s c k b) ev rv es rs ∧ Mv base B ev rv ev rv w w' := by
  have H : Hid (PM w base B s k b ev rv es rs) := h
  clear h
  go_enter Tryz.func142, Tryz.ntmps142
  go_wp2_with fail
  refine (take_any base B s c k b ev rv es rs _ hs hk hc H.out).mono ?_
  rintro e w1 ⟨rfl, hp, hm⟩
  have HP : Hid (PM w1 base B s (takeK s c k b) b ev rv es rs) := hp
  have HM : Hid (Mv base B ev rv ev rv w w1) := hm
  have c2 := hp.c2
  have z2 := hp.fz 2
  clear hp hm
  cases ht : takeB s c k b with
  | true =>
    have HB : Hid (wantB s c k b = b) := by show _ = _; unfold wantB; rw [if_pos ht]
    clear ht
    go_wp2_with fail
    go_end0
    exact ⟨rfl, by rw [HB.out]; exact HP.out, HM.out⟩
  | false =>
    have HB : Hid (wantB s c k b = true) := by show _ = _; unfold wantB; rw [if_neg (by rw [ht]; decide)]
    clear ht
    go_wp2_with fail
    go_end0
    exact ⟨rfl, by rw [HB.out]; exact HP.out.bad true, HM.out.trans (HP.out.setMv 2 _)⟩
end Go.Proofs.YtaebngpoagjafaaGreat
namespace Go.Proofs.YtaebngpoagjafaaGreat
open Go.RowKit

/-- A block of cells of a type. -/
def HasT (w : World) (c : Nat) (t : TypeId) : Prop := ∃ cs fr, w.heap[c]? = some (.cells cs t fr)
theorem HasT.set {w : World} {c : Nat} {t : TypeId} (h : HasT w c t) (d j : Nat) (u : Value) : HasT (w.setCell ⟨d, j, none⟩ u) c t := by
  obtain ⟨cs, fr, h⟩ := h
  by_cases e : c = d
  · subst e
    exact ⟨cs.setIfInBounds j u, fr, by simp [World.setCell, Array.getElem?_modify, h]⟩
  · exact ⟨cs, fr, by rw [heap_set_ne e]; exact h⟩
theorem HasT.alloc {w : World} {c : Nat} {t : TypeId} (h : HasT w c t) (o : Obj) : HasT (w.alloc o) c t := by
  obtain ⟨cs, fr, h⟩ := h
  exact ⟨cs, fr, by rw [Below.heap_alloc _ _ _ (lt_of_block h)]; exact h⟩
theorem HasT.new (w : World) (cs : Array Value) (t : TypeId) : HasT (w.alloc (.cells cs t)) w.heap.size t := ⟨cs, (0, 0), heap_alloc_new w _⟩
theorem HasT.of_block {w w' : World} {c : Nat} {t : TypeId} (h : HasT w c t) (e : w'.heap[c]? = w.heap[c]?) : HasT w' c t := by
  obtain ⟨cs, fr, h⟩ := h
  exact ⟨cs, fr, e.trans h⟩
/-- A store into a block of another type. -/
theorem PM.setT {w : World} {base B s k b ev rv es rs} (h : PM w base B s k b ev rv es rs) {c j : Nat} {u : Value} {t : TypeId} (hT : HasT w c t)
    (h1 : t ≠ 106) (h2 : t ≠ 114) (h3 : t ≠ 161) (h4 : t ≠ 167) : PM (w.setCell ⟨c, j, none⟩ u) base B s k b ev rv es rs := by
  obtain ⟨cs, fr, hc⟩ := hT
  refine ⟨?_, ownsRow_setCell_other h.ex (owns_ne h.ex hc h2) _, ownsRow_setCell_other h.rl (owns_ne h.rl hc h3) _, fun p hp => ownsRow_setCell_other (h.it p hp) (owns_ne (h.it p hp) hc h4) _, h.hB⟩
  rw [heap_set_ne (fun e => by subst e; have := h.blk; rw [hc] at this; simp at this; exact h1 this.2.1)]
  exact h.blk
theorem PM.setN {w : World} {base B s k b ev rv es rs} (h : PM w base B s k b ev rv es rs) {c j : Nat} {u : Value} (hT : HasT w c 111) : PM (w.setCell ⟨c, j, none⟩ u) base B s k b ev rv es rs := h.setT hT (by decide) (by decide) (by decide) (by decide)
/-- A store into a new block. -/
theorem Mv.setNew {base B : Nat} {a b c d : Value} {w w1 : World} (h : Mv base B a b c d w w1) {k j : Nat} (hk : w.heap.size ≤ k) (hb : base ≤ k) (u : Value) : Mv base B a b c d w (w1.setCell ⟨k, j, none⟩ u) :=
  ⟨h.bel.setCell hb _, fun x hx ho => ⟨(heap_set_ne (by omega)).trans (h.kept x hx ho).1, (h.kept x hx ho).2⟩⟩

/-- A letter. -/
def letB (s : ByteArray) (k : Nat) (b : Bool) : Bool := decide (97 ≤ hereF s (skipF s k b) b) && decide (hereF s (skipF s k b) b ≤ 122)
def letK (s : ByteArray) (k : Nat) (b : Bool) : Nat := if letB s k b = true then skipF s k b + 1 else skipF s k b
def letX (s : ByteArray) (k : Nat) (b : Bool) : Bool := if letB s k b = true then b else true
theorem letB_lt {s : ByteArray} {k : Nat} {b : Bool} (h : letB s k b = true) : b = false ∧ skipF s k b < s.size := by
  unfold letB hereF at h
  cases b with
  | true => simp at h
  | false =>
    by_cases hlt : skipF s k false < s.size
    · exact ⟨rfl, hlt⟩
    · simp [hlt] at h
theorem letK_le {s : ByteArray} {k : Nat} {b : Bool} (hk : k ≤ s.size) : letK s k b ≤ s.size := by
  unfold letK
  split
  · next h => have := (letB_lt h).2; omega
  · exact skipF_le hk
theorem buildNum2 (a b : Int) (w : World) : (Instr.build 111 #[(0, .int .i64 a), (1, .int .i64 b)]).run Tryz.prog w = .ok (.agg #[.int .i64 a, .int .i64 b]) w := run_build w 111 _ _ (by kernel_rfl)
theorem buildNum1 (b : Int) (w : World) : (Instr.build 111 #[(1, .int .i64 b)]).run Tryz.prog w = .ok (.agg #[.int .i64 0, .int .i64 b]) w := run_build w 111 _ _ (by kernel_rfl)

attribute [local go_sem ↓] Go.wp_at_zero Go.wp_at_succ
set_option maxRecDepth 100000 in
set_option maxHeartbeats 400000 in
theorem letter_any (base B : Nat) (s : ByteArray) (k : Nat) (b : Bool) (ev rv : Value) (es : List (EX × Value)) (rs : List RL) (w : World) (hs : s.size ≤ 2000) (hk : k ≤ s.size) (h : PM w base B s k b ev rv es rs) :
    Calls Tryz.prog 141 #[.pointer (some ⟨B, 0, none⟩)] w fun e w' => e = .returned (.agg #[.int .i64 (hereF s (skipF s k b) b), .int .i64 (skipF s k b)]) ∧ PM w' base B s (letK s k b) (letX s k b) ev rv es rs ∧ Mv base B ev rv ev rv w w' := by
  have H : Hid (PM (w.alloc (.cells #[.int .i64 0, .int .i64 0] 111)) base B s k b ev rv es rs) := h.alloc _
  have HM0 : Hid (Mv base B ev rv ev rv w (w.alloc (.cells #[.int .i64 0, .int .i64 0] 111))) := Mv.alloc h.bs _
  have hou := h.outNew
  have hbs := h.bs
  clear h
  go_enter Tryz.func141, Tryz.ntmps141
  go_wp2_with fail
  refine (skip_any base B s k b ev rv es rs _ hs hk H.out).mono ?_
  rintro e w1 ⟨rfl, hp, hm⟩
  have HP : Hid (PM w1 base B s (skipF s k b) b ev rv es rs) := hp
  have HM : Hid (Mv base B ev rv ev rv (w.alloc (.cells #[.int .i64 0, .int .i64 0] 111)) w1) := hm
  clear hp hm
  go_wp2_with fail
  refine (here_pm base B s (skipF s k b) b ev rv es rs _ (skipF_le hk) HP.out).mono ?_
  rintro e w2 ⟨rfl, hp, hm⟩
  have HP2 : Hid (PM w2 base B s (skipF s k b) b ev rv es rs) := hp
  have HM2 : Hid (Mv base B ev rv ev rv w w2) := HM0.out.trans (HM.out.trans hm)
  have hr : w2.heap[w.heap.size]? = some (.cells #[.int .i64 0, .int .i64 0] 111 (0, 0)) := ((HM.out.trans hm).kept _ (by simp) hou).1.trans (heap_alloc_new w _)
  have c1 := hp.c1
  have c2 := hp.c2
  have z1 := hp.fz 1
  have z2 := hp.fz 2
  have r0 : w2.cell? ⟨w.heap.size, 0, none⟩ = some (.int .i64 0) := by simp [World.cell?, hr]
  have r1 : w2.cell? ⟨w.heap.size, 1, none⟩ = some (.int .i64 0) := by simp [World.cell?, hr]
  have rz : ∀ j, w2.frozen? ⟨w.heap.size, j, none⟩ = false := fun j => by simp [World.frozen?, hr]
  have HR : Hid (w2.heap[w.heap.size]? = some (.cells #[.int .i64 0, .int .i64 0] 111 (0, 0))) := hr
  have hlt2 := hp.lt
  have hne : w.heap.size ≠ B := hou.1
  have hne' : B ≠ w.heap.size := fun e => hou.1 e.symm
  have hn3 : w2.heap.size ≠ B := by omega
  have hn4 : B ≠ w2.heap.size := by omega
  have hwl : w.heap.size < w2.heap.size := lt_of_block hr
  have hn5 : w.heap.size ≠ w2.heap.size := by omega
  clear hp hm hr
  have hb := hereF_bd s (skipF s k b) b
  have HK : Hid (letK s k b = if letB s k b = true then skipF s k b + 1 else skipF s k b) := rfl
  have HX : Hid (letX s k b = if letB s k b = true then b else true) := rfl
  have hLB : letB s k b = (decide (97 ≤ hereF s (skipF s k b) b) && decide (hereF s (skipF s k b) b ≤ 122)) := rfl
  have hLT : letB s k b = true → skipF s k b < s.size := fun h => (letB_lt h).2
  generalize hxe : hereF s (skipF s k b) b = x at *
  generalize hpe : skipF s k b = p at *
  have HXE : Hid (hereF s p b = x) := hxe
  have HPE : Hid (skipF s k b = p) := hpe
  clear hxe hpe
  have hbn := fun w => buildNum2 x p w
  by_cases h1 : x < 97
  · have e1 : letB s k b = false := by rw [hLB]; simp; omega
    rw [e1] at HK HX
    have HK2 : Hid (letK s k b = p) := HK.out
    have HX2 : Hid (letX s k b = true) := HX.out
    clear hLB hLT e1 HK HX
    go_wp2_with fail
    exact bodyPost_ret (v := .agg #[.int .i64 x, .int .i64 p]) (by simp [results, Tryz.results141, go_sem, r0, r1, hwl]) rfl ⟨by rw [HPE.out, HXE.out], by rw [HK2.out, HX2.out]; exact ((((HP2.out.bad true).setN (HasT.set ⟨_, _, HR.out⟩ _ _ _)).setN (HasT.set (HasT.set ⟨_, _, HR.out⟩ _ _ _) _ _ _)).alloc _), (((HM2.out.trans (HP2.out.setMv 2 _)).setNew (Nat.le_refl _) hbs _).setNew (Nat.le_refl _) hbs _).trans (Mv.alloc (((HP2.out.bad true).setN (HasT.set ⟨_, _, HR.out⟩ _ _ _)).setN (HasT.set (HasT.set ⟨_, _, HR.out⟩ _ _ _) _ _ _)).bs _)⟩
  · by_cases h2 : 122 < x
    · have e1 : letB s k b = false := by rw [hLB]; simp; omega
      rw [e1] at HK HX
      have HK2 : Hid (letK s k b = p) := HK.out
      have HX2 : Hid (letX s k b = true) := HX.out
      clear hLB hLT e1 HK HX
      go_wp2_with fail
      exact bodyPost_ret (v := .agg #[.int .i64 x, .int .i64 p]) (by simp [results, Tryz.results141, go_sem, r0, r1, hwl]) rfl ⟨by rw [HPE.out, HXE.out], by rw [HK2.out, HX2.out]; exact ((((HP2.out.bad true).setN (HasT.set ⟨_, _, HR.out⟩ _ _ _)).setN (HasT.set (HasT.set ⟨_, _, HR.out⟩ _ _ _) _ _ _)).alloc _), (((HM2.out.trans (HP2.out.setMv 2 _)).setNew (Nat.le_refl _) hbs _).setNew (Nat.le_refl _) hbs _).trans (Mv.alloc (((HP2.out.bad true).setN (HasT.set ⟨_, _, HR.out⟩ _ _ _)).setN (HasT.set (HasT.set ⟨_, _, HR.out⟩ _ _ _) _ _ _)).bs _)⟩
    · have e1 : letB s k b = true := by rw [hLB]; simp; omega
      have hpl : p < s.size := hLT e1
      rw [e1] at HK HX
      have HK2 : Hid (letK s k b = p + 1) := HK.out
      have HX2 : Hid (letX s k b = b) := HX.out
      clear hLB hLT e1 HK HX
      have hpi : (p : Int) < 2000 := by omega
      go_wp2_with fail
      exact bodyPost_ret (v := .agg #[.int .i64 x, .int .i64 p]) (by simp [results, Tryz.results141, go_sem, r0, r1, hwl]) rfl ⟨by rw [HPE.out, HXE.out], by rw [HK2.out, HX2.out]; exact ((((HP2.out.at (p + 1) _ (by omega)).setN (HasT.set ⟨_, _, HR.out⟩ _ _ _)).setN (HasT.set (HasT.set ⟨_, _, HR.out⟩ _ _ _) _ _ _)).alloc _), (((HM2.out.trans (HP2.out.setMv 1 _)).setNew (Nat.le_refl _) hbs _).setNew (Nat.le_refl _) hbs _).trans (Mv.alloc (((HP2.out.at (p + 1) _ (by omega)).setN (HasT.set ⟨_, _, HR.out⟩ _ _ _)).setN (HasT.set (HasT.set ⟨_, _, HR.out⟩ _ _ _) _ _ _)).bs _)⟩
end Go.Proofs.YtaebngpoagjafaaGreat
namespace Go.Proofs.YtaebngpoagjafaaGreat
open Go.RowKit

theorem blk2_set {w : World} {B : Nat} {a b u : Value} {t : TypeId} (h : w.heap[B]? = some (.cells #[a, b] t (0, 0))) : (w.setCell ⟨B, 0, none⟩ u).heap[B]? = some (.cells #[u, b] t (0, 0)) := by
  simp [World.setCell, Array.getElem?_modify, h]
/-- So many digits at most, from j on. -/
def nmF (s : ByteArray) (b : Bool) : Nat → Nat → Nat
  | 0, j => j
  | n + 1, j => if T.dig (hereF s j b) = true then nmF s b n (j + 1) else j
def nmL (s : ByteArray) (p : Nat) (b : Bool) : Nat := if hereF s p b = 48 then 1 else 9
def nmE (s : ByteArray) (p : Nat) (b : Bool) : Nat := nmF s b (nmL s p b) p
/-- The value of i digits from p on. -/
def vl (s : ByteArray) (p : Nat) : Nat → Int
  | 0 => 0
  | i + 1 => vl s p i * 10 + (T.ch s (p + i) - 48)
def numK (s : ByteArray) (k : Nat) (b : Bool) : Nat := nmE s (skipF s k b) b
def numX (s : ByteArray) (k : Nat) (b : Bool) : Bool := if numK s k b = skipF s k b then true else b
def numV (s : ByteArray) (k : Nat) (b : Bool) : Int := vl s (skipF s k b) (numK s k b - skipF s k b)
theorem dig_here {s : ByteArray} {j : Nat} {b : Bool} (h : T.dig (hereF s j b) = true) : b = false ∧ j < s.size ∧ hereF s j b = T.ch s j := by
  unfold hereF at h ⊢
  cases b with
  | true => simp [T.dig] at h
  | false =>
    by_cases hlt : j < s.size
    · exact ⟨rfl, hlt, by simp [hlt]⟩
    · simp [hlt, T.dig] at h
theorem nmF_bd (s : ByteArray) (b : Bool) : ∀ n j, j ≤ s.size → j ≤ nmF s b n j ∧ nmF s b n j ≤ s.size := by
  intro n
  induction n with
  | zero => intro j h; exact ⟨Nat.le_refl _, h⟩
  | succ n ih =>
    intro j h
    simp only [nmF]
    split
    · next hd => have := ih (j + 1) (dig_here hd).2.1; omega
    · omega
theorem numK_le {s : ByteArray} {k : Nat} {b : Bool} (hk : k ≤ s.size) : numK s k b ≤ s.size := (nmF_bd s b _ _ (skipF_le hk)).2

attribute [local go_sem ↓] Go.wp_at_zero Go.wp_at_succ
set_option maxRecDepth 100000 in
set_option maxHeartbeats 800000 in
theorem number_any (base B : Nat) (s : ByteArray) (k : Nat) (b : Bool) (ev rv : Value) (es : List (EX × Value)) (rs : List RL) (w : World) (hs : s.size ≤ 2000) (hk : k ≤ s.size) (h : PM w base B s k b ev rv es rs) :
    Calls Tryz.prog 179 #[.pointer (some ⟨B, 0, none⟩)] w fun e w' => e = .returned (.agg #[.int .i64 (numV s k b), .int .i64 (skipF s k b)]) ∧ PM w' base B s (numK s k b) (numX s k b) ev rv es rs ∧ Mv base B ev rv ev rv w w' := by
  have H : Hid (PM (w.alloc (.cells #[.int .i64 0, .int .i64 0] 111)) base B s k b ev rv es rs) := h.alloc _
  have HM0 : Hid (Mv base B ev rv ev rv w (w.alloc (.cells #[.int .i64 0, .int .i64 0] 111))) := Mv.alloc h.bs _
  have hou := h.outNew
  have hbs := h.bs
  clear h
  go_enter Tryz.func179, Tryz.ntmps179
  go_wp2_with fail
  refine (skip_any base B s k b ev rv es rs _ hs hk H.out).mono ?_
  rintro e w1 ⟨rfl, hp, hm⟩
  have HR1 : Hid (w1.heap[w.heap.size]? = some (.cells #[.int .i64 0, .int .i64 0] 111 (0, 0))) := (hm.kept _ (by simp) hou).1.trans (heap_alloc_new w _)
  have hpk : skipF s k b ≤ s.size := skipF_le hk
  have HNK : Hid (numK s k b = nmE s (skipF s k b) b) := rfl
  have HNX : Hid (numX s k b = if numK s k b = skipF s k b then true else b) := rfl
  have HNV : Hid (numV s k b = vl s (skipF s k b) (numK s k b - skipF s k b)) := rfl
  generalize hpe : skipF s k b = p at *
  have HPE : Hid (skipF s k b = p) := hpe
  clear hpe
  have HP : Hid (PM (w1.alloc (.cells #[.int .i64 0, .int .i64 p] 111)) base B s p b ev rv es rs) := hp.alloc _
  have HM : Hid (Mv base B ev rv ev rv w (w1.alloc (.cells #[.int .i64 0, .int .i64 p] 111))) := (HM0.out.trans hm).trans (Mv.alloc hp.bs _)
  have hnou := hp.outNew
  have hwl1 : w.heap.size < w1.heap.size := lt_of_block HR1.out
  have HR2 : Hid ((w1.alloc (.cells #[.int .i64 0, .int .i64 p] 111)).heap[w.heap.size]? = some (.cells #[.int .i64 0, .int .i64 0] 111 (0, 0))) := (Below.heap_alloc _ _ _ hwl1).trans HR1.out
  have HN2 : Hid ((w1.alloc (.cells #[.int .i64 0, .int .i64 p] 111)).heap[w1.heap.size]? = some (.cells #[.int .i64 0, .int .i64 p] 111 (0, 0))) := heap_alloc_new w1 _
  have c1 := hp.c1
  have hb1 := hp.lt
  clear hp hm
  have hbn := fun w => buildNum1 p w
  go_wp2_with fail
  refine (here_pm base B s p b ev rv es rs _ hpk HP.out).mono ?_
  rintro e w2 ⟨rfl, hp, hm⟩
  have HP2 : Hid (PM w2 base B s p b ev rv es rs) := hp
  have HM2 : Hid (Mv base B ev rv ev rv w w2) := HM.out.trans hm
  have HR3 : Hid (w2.heap[w.heap.size]? = some (.cells #[.int .i64 0, .int .i64 0] 111 (0, 0))) := (hm.kept _ (by simp; omega) hou).1.trans HR2.out
  have HN3 : Hid (w2.heap[w1.heap.size]? = some (.cells #[.int .i64 0, .int .i64 p] 111 (0, 0))) := (hm.kept _ (by simp) hnou).1.trans HN2.out
  clear hp hm c1 hb1
  cases h48 : (hereF s p b == 48) with
  | true =>
    have HL : Hid (nmL s p b = 1) := by show _ = _; unfold nmL; rw [if_pos (by simpa using h48)]
    go_wp2_with fail
    go_loopg [4] 1 (fun n x wr => ∃ (j : Nat) (v : Int), p ≤ j ∧ j ≤ s.size ∧ n + (j - p) = 1 ∧ x = .int .u8 (hereF s j b) ∧ Hid (nmF s b n j = nmE s p b) ∧ Hid (v = vl s p (j - p)) ∧ Hid (0 ≤ v ∧ v + 1 ≤ 10 ^ (j - p)) ∧ PM wr base B s j b ev rv es rs ∧ Mv base B ev rv ev rv w wr ∧
      wr.heap[w.heap.size]? = some (.cells #[.int .i64 0, .int .i64 0] 111 (0, 0)) ∧ wr.heap[w1.heap.size]? = some (.cells #[.int .i64 v, .int .i64 p] 111 (0, 0)))
    case atStart => exact ⟨p, 0, Nat.le_refl _, hpk, by omega, rfl, by show _ = _; unfold nmE; rw [HL.out], by show _ = _; rw [Nat.sub_self]; rfl, ⟨Int.le_refl _, by rw [Nat.sub_self]; decide⟩, HP2.out, HM2.out, HR3.out, HN3.out⟩
    case round =>
      obtain ⟨j, v, hpj, hjs, hn, rfl, HF, HV, HVB, hp, hm, hr, hnb⟩ := hrel
      have HP4 : Hid (PM wr base B s j b ev rv es rs) := hp
      have HM4 : Hid (Mv base B ev rv ev rv w wr) := hm
      have HR4 : Hid (wr.heap[w.heap.size]? = some (.cells #[.int .i64 0, .int .i64 0] 111 (0, 0))) := hr
      have HN4 : Hid (wr.heap[w1.heap.size]? = some (.cells #[.int .i64 v, .int .i64 p] 111 (0, 0))) := hnb
      have c1 := hp.c1
      have c2 := hp.c2
      have z1 := hp.fz 1
      have z2 := hp.fz 2
      have n0 : wr.cell? ⟨w1.heap.size, 0, none⟩ = some (.int .i64 v) := by simp [World.cell?, hnb]
      have n1 : wr.cell? ⟨w1.heap.size, 1, none⟩ = some (.int .i64 p) := by simp [World.cell?, hnb]
      have nz : ∀ j, wr.frozen? ⟨w1.heap.size, j, none⟩ = false := fun j => by simp [World.frozen?, hnb]
      have r0 : wr.cell? ⟨w.heap.size, 0, none⟩ = some (.int .i64 0) := by simp [World.cell?, hr]
      have r1 : wr.cell? ⟨w.heap.size, 1, none⟩ = some (.int .i64 0) := by simp [World.cell?, hr]
      have rz : ∀ j, wr.frozen? ⟨w.heap.size, j, none⟩ = false := fun j => by simp [World.frozen?, hr]
      have hne : w.heap.size ≠ B := hou.1
      have hne' : B ≠ w.heap.size := fun e => hou.1 e.symm
      have hn3 : w1.heap.size ≠ B := hnou.1
      have hn4 : B ≠ w1.heap.size := fun e => hnou.1 e.symm
      have hn5 : w.heap.size ≠ w1.heap.size := by omega
      clear hp hm hr hnb
      have hji : (j : Int) ≤ 2000 := by omega
      cases gk with
      | zero =>
        have hlim : decide ((j : Int) - (p : Int) < 1) = false := decide_eq_false (by omega)
        have HK2 : Hid (numK s k b = j) := by
          show _ = _
          rw [HNK.out, ← HF.out]; rfl
        have HV2 : Hid (numV s k b = v) := by
          show _ = _
          rw [HNV.out, HK2.out]; exact HV.out.symm
        cases hjp : ((j : Int) == (p : Int)) with
        | true =>
          have HX2 : Hid (numX s k b = true) := by
            show _ = _
            rw [HNX.out, HK2.out, if_pos (by simp at hjp; omega)]
          go_wp2_with fail
          go_quiet (fail)
          go_wp2_with fail
          go_quiet (fail)
          go_wp2_with fail
          exact bodyPost_ret (v := .agg #[.int .i64 v, .int .i64 p]) (by simp [results, Tryz.results179, go_sem, r0, r1]) rfl ⟨by rw [HPE.out, HV2.out], by rw [HK2.out, HX2.out]; exact (((HP4.out.drewN _).bad true).setN (HasT.set ⟨_, _, HR4.out⟩ _ _ _)).setN (HasT.set (HasT.set ⟨_, _, HR4.out⟩ _ _ _) _ _ _), (((HM4.out.drewN _).trans ((HP4.out.drewN _).setMv 2 _)).setNew (Nat.le_refl _) hbs _).setNew (Nat.le_refl _) hbs _⟩
        | false =>
          have HX2 : Hid (numX s k b = b) := by
            show _ = _
            rw [HNX.out, HK2.out, if_neg (by have := beq_eq_false_iff_ne.1 hjp; omega)]
          go_wp2_with fail
          go_quiet (fail)
          go_wp2_with fail
          go_quiet (fail)
          go_wp2_with fail
          exact bodyPost_ret (v := .agg #[.int .i64 v, .int .i64 p]) (by simp [results, Tryz.results179, go_sem, r0, r1]) rfl ⟨by rw [HPE.out, HV2.out], by rw [HK2.out, HX2.out]; exact ((HP4.out.drewN _).setN ⟨_, _, HR4.out⟩).setN (HasT.set ⟨_, _, HR4.out⟩ _ _ _), ((HM4.out.drewN _).setNew (Nat.le_refl _) hbs _).setNew (Nat.le_refl _) hbs _⟩
      | succ m =>
        have hlim : decide ((j : Int) - (p : Int) < 1) = true := decide_eq_true (by omega)
        have hlim2 : (j : Int) - (p : Int) < 1 := by omega
        cases hd : T.dig (hereF s j b) with
        | true =>
          obtain ⟨rfl, hlt, hch⟩ := dig_here hd
          have hdd : 48 ≤ hereF s j false ∧ hereF s j false ≤ 57 := by simpa [T.dig] using hd
          obtain ⟨hd0, hd1⟩ := hdd
          have HF2 : Hid (nmF s false m (j + 1) = nmE s p false) := by
            show _ = _
            rw [← HF.out, nmF, if_pos hd]
          have ejp : j + 1 - p = (j - p) + 1 := by omega
          have hp9 : (10 : Int) ^ (j - p) ≤ 1000000000 := by
            have h1 : (10 : Nat) ^ (j - p) ≤ 10 ^ 9 := Nat.pow_le_pow_right (by omega) (by omega)
            have h2 : ((10 ^ (j - p) : Nat) : Int) ≤ ((10 ^ 9 : Nat) : Int) := Int.ofNat_le.2 h1
            rw [Int.natCast_pow] at h2
            exact h2
          have hv0 : 0 ≤ v := HVB.out.1
          have hv1 : v < 1000000000 := by have := HVB.out.2; omega
          have HV2 : Hid (v * 10 + (hereF s j false - 48) = vl s p (j + 1 - p)) := by
            show _ = _
            rw [ejp]; simp only [vl]
            rw [← HV.out, hch, show p + (j - p) = j from by omega]
          have HVB2 : Hid (0 ≤ v * 10 + (hereF s j false - 48) ∧ v * 10 + (hereF s j false - 48) + 1 ≤ 10 ^ (j + 1 - p)) := by
            have h1 := HVB.out
            show _ ∧ _
            rw [ejp, Int.pow_succ]
            omega
          clear hd hch HF HV HVB hp9 ejp
          generalize hereF s j false = x at *
          have hmod : (x - 48) % 256 = x - 48 := by omega
          go_wp2_with fail
          go_quiet (fail)
          go_wp2_with fail
          have hlr : w.heap.size < wr.heap.size := lt_of_block HR4.out
          have hln : w1.heap.size < wr.heap.size := lt_of_block HN4.out
          refine (here_pm base B s (j + 1) false ev rv es rs _ (by omega) (((HP4.out.drewN _).setN ⟨_, _, HN4.out⟩).at (j + 1) _ (by omega))).mono ?_
          rintro e w5 ⟨rfl, hp5, hm5⟩
          have HP5 : Hid (PM w5 base B s (j + 1) false ev rv es rs) := hp5
          have HM5 : Hid (Mv base B ev rv ev rv w w5) := (((HM4.out.drewN _).setNew (by omega) (by omega) _).trans (((HP4.out.drewN _).setN ⟨_, _, HN4.out⟩).setMv 1 _)).trans hm5
          have HR5 : Hid (w5.heap[w.heap.size]? = some (.cells #[.int .i64 0, .int .i64 0] 111 (0, 0))) := (hm5.kept _ (by simp [World.size_setCell]; exact hlr) hou).1.trans (by rw [heap_set_ne hne, heap_set_ne hn5]; exact HR4.out)
          have HN5 : Hid (w5.heap[w1.heap.size]? = some (.cells #[.int .i64 (v * 10 + (x - 48)), .int .i64 p] 111 (0, 0))) := (hm5.kept _ (by simp [World.size_setCell]; exact hln) hnou).1.trans (by rw [heap_set_ne hn3]; exact blk2_set HN4.out)
          clear hp5 hm5 c1 c2 z1 z2 n0 n1 nz r0 r1 rz
          go_wp2_with fail
          go_roundg m
          case measure => omega
          case rel => exact ⟨j + 1, _, by omega, by omega, by omega, rfl, HF2, HV2, HVB2, HP5.out, HM5.out, HR5.out, HN5.out⟩
        | false =>
          by_cases h1 : 48 ≤ hereF s j b
          · have h2 : ¬ hereF s j b ≤ 57 := fun h2 => by simp [T.dig, h1, h2] at hd
            have d1 : decide (48 ≤ hereF s j b) = true := decide_eq_true h1
            have d2 : decide (hereF s j b ≤ 57) = false := decide_eq_false h2
            have HK2 : Hid (numK s k b = j) := by
              show _ = _
              rw [HNK.out, ← HF.out]; rw [nmF, if_neg (by rw [hd]; decide)]
            have HV2 : Hid (numV s k b = v) := by
              show _ = _
              rw [HNV.out, HK2.out]; exact HV.out.symm
            cases hjp : ((j : Int) == (p : Int)) with
            | true =>
              have HX2 : Hid (numX s k b = true) := by
                show _ = _
                rw [HNX.out, HK2.out, if_pos (by simp at hjp; omega)]
              go_wp2_with fail
              go_quiet (fail)
              go_wp2_with fail
              go_quiet (fail)
              go_wp2_with fail
              exact bodyPost_ret (v := .agg #[.int .i64 v, .int .i64 p]) (by simp [results, Tryz.results179, go_sem, r0, r1]) rfl ⟨by rw [HPE.out, HV2.out], by rw [HK2.out, HX2.out]; exact (((HP4.out.drewN _).bad true).setN (HasT.set ⟨_, _, HR4.out⟩ _ _ _)).setN (HasT.set (HasT.set ⟨_, _, HR4.out⟩ _ _ _) _ _ _), (((HM4.out.drewN _).trans ((HP4.out.drewN _).setMv 2 _)).setNew (Nat.le_refl _) hbs _).setNew (Nat.le_refl _) hbs _⟩
            | false =>
              have HX2 : Hid (numX s k b = b) := by
                show _ = _
                rw [HNX.out, HK2.out, if_neg (by have := beq_eq_false_iff_ne.1 hjp; omega)]
              go_wp2_with fail
              go_quiet (fail)
              go_wp2_with fail
              go_quiet (fail)
              go_wp2_with fail
              exact bodyPost_ret (v := .agg #[.int .i64 v, .int .i64 p]) (by simp [results, Tryz.results179, go_sem, r0, r1]) rfl ⟨by rw [HPE.out, HV2.out], by rw [HK2.out, HX2.out]; exact ((HP4.out.drewN _).setN ⟨_, _, HR4.out⟩).setN (HasT.set ⟨_, _, HR4.out⟩ _ _ _), ((HM4.out.drewN _).setNew (Nat.le_refl _) hbs _).setNew (Nat.le_refl _) hbs _⟩
          · have d1 : decide (48 ≤ hereF s j b) = false := decide_eq_false h1
            have HK2 : Hid (numK s k b = j) := by
              show _ = _
              rw [HNK.out, ← HF.out]; rw [nmF, if_neg (by rw [hd]; decide)]
            have HV2 : Hid (numV s k b = v) := by
              show _ = _
              rw [HNV.out, HK2.out]; exact HV.out.symm
            cases hjp : ((j : Int) == (p : Int)) with
            | true =>
              have HX2 : Hid (numX s k b = true) := by
                show _ = _
                rw [HNX.out, HK2.out, if_pos (by simp at hjp; omega)]
              go_wp2_with fail
              go_quiet (fail)
              go_wp2_with fail
              go_quiet (fail)
              go_wp2_with fail
              exact bodyPost_ret (v := .agg #[.int .i64 v, .int .i64 p]) (by simp [results, Tryz.results179, go_sem, r0, r1]) rfl ⟨by rw [HPE.out, HV2.out], by rw [HK2.out, HX2.out]; exact (((HP4.out.drewN _).bad true).setN (HasT.set ⟨_, _, HR4.out⟩ _ _ _)).setN (HasT.set (HasT.set ⟨_, _, HR4.out⟩ _ _ _) _ _ _), (((HM4.out.drewN _).trans ((HP4.out.drewN _).setMv 2 _)).setNew (Nat.le_refl _) hbs _).setNew (Nat.le_refl _) hbs _⟩
            | false =>
              have HX2 : Hid (numX s k b = b) := by
                show _ = _
                rw [HNX.out, HK2.out, if_neg (by have := beq_eq_false_iff_ne.1 hjp; omega)]
              go_wp2_with fail
              go_quiet (fail)
              go_wp2_with fail
              go_quiet (fail)
              go_wp2_with fail
              exact bodyPost_ret (v := .agg #[.int .i64 v, .int .i64 p]) (by simp [results, Tryz.results179, go_sem, r0, r1]) rfl ⟨by rw [HPE.out, HV2.out], by rw [HK2.out, HX2.out]; exact ((HP4.out.drewN _).setN ⟨_, _, HR4.out⟩).setN (HasT.set ⟨_, _, HR4.out⟩ _ _ _), ((HM4.out.drewN _).setNew (Nat.le_refl _) hbs _).setNew (Nat.le_refl _) hbs _⟩
  | false =>
    have HL : Hid (nmL s p b = 9) := by show _ = _; unfold nmL; rw [if_neg (by simpa using h48)]
    go_wp2_with fail
    go_loopg [4] 9 (fun n x wr => ∃ (j : Nat) (v : Int), p ≤ j ∧ j ≤ s.size ∧ n + (j - p) = 9 ∧ x = .int .u8 (hereF s j b) ∧ Hid (nmF s b n j = nmE s p b) ∧ Hid (v = vl s p (j - p)) ∧ Hid (0 ≤ v ∧ v + 1 ≤ 10 ^ (j - p)) ∧ PM wr base B s j b ev rv es rs ∧ Mv base B ev rv ev rv w wr ∧
      wr.heap[w.heap.size]? = some (.cells #[.int .i64 0, .int .i64 0] 111 (0, 0)) ∧ wr.heap[w1.heap.size]? = some (.cells #[.int .i64 v, .int .i64 p] 111 (0, 0)))
    case atStart => exact ⟨p, 0, Nat.le_refl _, hpk, by omega, rfl, by show _ = _; unfold nmE; rw [HL.out], by show _ = _; rw [Nat.sub_self]; rfl, ⟨Int.le_refl _, by rw [Nat.sub_self]; decide⟩, HP2.out, HM2.out, HR3.out, HN3.out⟩
    case round =>
      obtain ⟨j, v, hpj, hjs, hn, rfl, HF, HV, HVB, hp, hm, hr, hnb⟩ := hrel
      have HP4 : Hid (PM wr base B s j b ev rv es rs) := hp
      have HM4 : Hid (Mv base B ev rv ev rv w wr) := hm
      have HR4 : Hid (wr.heap[w.heap.size]? = some (.cells #[.int .i64 0, .int .i64 0] 111 (0, 0))) := hr
      have HN4 : Hid (wr.heap[w1.heap.size]? = some (.cells #[.int .i64 v, .int .i64 p] 111 (0, 0))) := hnb
      have c1 := hp.c1
      have c2 := hp.c2
      have z1 := hp.fz 1
      have z2 := hp.fz 2
      have n0 : wr.cell? ⟨w1.heap.size, 0, none⟩ = some (.int .i64 v) := by simp [World.cell?, hnb]
      have n1 : wr.cell? ⟨w1.heap.size, 1, none⟩ = some (.int .i64 p) := by simp [World.cell?, hnb]
      have nz : ∀ j, wr.frozen? ⟨w1.heap.size, j, none⟩ = false := fun j => by simp [World.frozen?, hnb]
      have r0 : wr.cell? ⟨w.heap.size, 0, none⟩ = some (.int .i64 0) := by simp [World.cell?, hr]
      have r1 : wr.cell? ⟨w.heap.size, 1, none⟩ = some (.int .i64 0) := by simp [World.cell?, hr]
      have rz : ∀ j, wr.frozen? ⟨w.heap.size, j, none⟩ = false := fun j => by simp [World.frozen?, hr]
      have hne : w.heap.size ≠ B := hou.1
      have hne' : B ≠ w.heap.size := fun e => hou.1 e.symm
      have hn3 : w1.heap.size ≠ B := hnou.1
      have hn4 : B ≠ w1.heap.size := fun e => hnou.1 e.symm
      have hn5 : w.heap.size ≠ w1.heap.size := by omega
      clear hp hm hr hnb
      have hji : (j : Int) ≤ 2000 := by omega
      cases gk with
      | zero =>
        have hlim : decide ((j : Int) - (p : Int) < 9) = false := decide_eq_false (by omega)
        have HK2 : Hid (numK s k b = j) := by
          show _ = _
          rw [HNK.out, ← HF.out]; rfl
        have HV2 : Hid (numV s k b = v) := by
          show _ = _
          rw [HNV.out, HK2.out]; exact HV.out.symm
        cases hjp : ((j : Int) == (p : Int)) with
        | true =>
          have HX2 : Hid (numX s k b = true) := by
            show _ = _
            rw [HNX.out, HK2.out, if_pos (by simp at hjp; omega)]
          go_wp2_with fail
          go_quiet (fail)
          go_wp2_with fail
          go_quiet (fail)
          go_wp2_with fail
          exact bodyPost_ret (v := .agg #[.int .i64 v, .int .i64 p]) (by simp [results, Tryz.results179, go_sem, r0, r1]) rfl ⟨by rw [HPE.out, HV2.out], by rw [HK2.out, HX2.out]; exact (((HP4.out.drewN _).bad true).setN (HasT.set ⟨_, _, HR4.out⟩ _ _ _)).setN (HasT.set (HasT.set ⟨_, _, HR4.out⟩ _ _ _) _ _ _), (((HM4.out.drewN _).trans ((HP4.out.drewN _).setMv 2 _)).setNew (Nat.le_refl _) hbs _).setNew (Nat.le_refl _) hbs _⟩
        | false =>
          have HX2 : Hid (numX s k b = b) := by
            show _ = _
            rw [HNX.out, HK2.out, if_neg (by have := beq_eq_false_iff_ne.1 hjp; omega)]
          go_wp2_with fail
          go_quiet (fail)
          go_wp2_with fail
          go_quiet (fail)
          go_wp2_with fail
          exact bodyPost_ret (v := .agg #[.int .i64 v, .int .i64 p]) (by simp [results, Tryz.results179, go_sem, r0, r1]) rfl ⟨by rw [HPE.out, HV2.out], by rw [HK2.out, HX2.out]; exact ((HP4.out.drewN _).setN ⟨_, _, HR4.out⟩).setN (HasT.set ⟨_, _, HR4.out⟩ _ _ _), ((HM4.out.drewN _).setNew (Nat.le_refl _) hbs _).setNew (Nat.le_refl _) hbs _⟩
      | succ m =>
        have hlim : decide ((j : Int) - (p : Int) < 9) = true := decide_eq_true (by omega)
        have hlim2 : (j : Int) - (p : Int) < 9 := by omega
        cases hd : T.dig (hereF s j b) with
        | true =>
          obtain ⟨rfl, hlt, hch⟩ := dig_here hd
          have hdd : 48 ≤ hereF s j false ∧ hereF s j false ≤ 57 := by simpa [T.dig] using hd
          obtain ⟨hd0, hd1⟩ := hdd
          have HF2 : Hid (nmF s false m (j + 1) = nmE s p false) := by
            show _ = _
            rw [← HF.out, nmF, if_pos hd]
          have ejp : j + 1 - p = (j - p) + 1 := by omega
          have hp9 : (10 : Int) ^ (j - p) ≤ 1000000000 := by
            have h1 : (10 : Nat) ^ (j - p) ≤ 10 ^ 9 := Nat.pow_le_pow_right (by omega) (by omega)
            have h2 : ((10 ^ (j - p) : Nat) : Int) ≤ ((10 ^ 9 : Nat) : Int) := Int.ofNat_le.2 h1
            rw [Int.natCast_pow] at h2
            exact h2
          have hv0 : 0 ≤ v := HVB.out.1
          have hv1 : v < 1000000000 := by have := HVB.out.2; omega
          have HV2 : Hid (v * 10 + (hereF s j false - 48) = vl s p (j + 1 - p)) := by
            show _ = _
            rw [ejp]; simp only [vl]
            rw [← HV.out, hch, show p + (j - p) = j from by omega]
          have HVB2 : Hid (0 ≤ v * 10 + (hereF s j false - 48) ∧ v * 10 + (hereF s j false - 48) + 1 ≤ 10 ^ (j + 1 - p)) := by
            have h1 := HVB.out
            show _ ∧ _
            rw [ejp, Int.pow_succ]
            omega
          clear hd hch HF HV HVB hp9 ejp
          generalize hereF s j false = x at *
          have hmod : (x - 48) % 256 = x - 48 := by omega
          go_wp2_with fail
          go_quiet (fail)
          go_wp2_with fail
          have hlr : w.heap.size < wr.heap.size := lt_of_block HR4.out
          have hln : w1.heap.size < wr.heap.size := lt_of_block HN4.out
          refine (here_pm base B s (j + 1) false ev rv es rs _ (by omega) (((HP4.out.drewN _).setN ⟨_, _, HN4.out⟩).at (j + 1) _ (by omega))).mono ?_
          rintro e w5 ⟨rfl, hp5, hm5⟩
          have HP5 : Hid (PM w5 base B s (j + 1) false ev rv es rs) := hp5
          have HM5 : Hid (Mv base B ev rv ev rv w w5) := (((HM4.out.drewN _).setNew (by omega) (by omega) _).trans (((HP4.out.drewN _).setN ⟨_, _, HN4.out⟩).setMv 1 _)).trans hm5
          have HR5 : Hid (w5.heap[w.heap.size]? = some (.cells #[.int .i64 0, .int .i64 0] 111 (0, 0))) := (hm5.kept _ (by simp [World.size_setCell]; exact hlr) hou).1.trans (by rw [heap_set_ne hne, heap_set_ne hn5]; exact HR4.out)
          have HN5 : Hid (w5.heap[w1.heap.size]? = some (.cells #[.int .i64 (v * 10 + (x - 48)), .int .i64 p] 111 (0, 0))) := (hm5.kept _ (by simp [World.size_setCell]; exact hln) hnou).1.trans (by rw [heap_set_ne hn3]; exact blk2_set HN4.out)
          clear hp5 hm5 c1 c2 z1 z2 n0 n1 nz r0 r1 rz
          go_wp2_with fail
          go_roundg m
          case measure => omega
          case rel => exact ⟨j + 1, _, by omega, by omega, by omega, rfl, HF2, HV2, HVB2, HP5.out, HM5.out, HR5.out, HN5.out⟩
        | false =>
          by_cases h1 : 48 ≤ hereF s j b
          · have h2 : ¬ hereF s j b ≤ 57 := fun h2 => by simp [T.dig, h1, h2] at hd
            have d1 : decide (48 ≤ hereF s j b) = true := decide_eq_true h1
            have d2 : decide (hereF s j b ≤ 57) = false := decide_eq_false h2
            have HK2 : Hid (numK s k b = j) := by
              show _ = _
              rw [HNK.out, ← HF.out]; rw [nmF, if_neg (by rw [hd]; decide)]
            have HV2 : Hid (numV s k b = v) := by
              show _ = _
              rw [HNV.out, HK2.out]; exact HV.out.symm
            cases hjp : ((j : Int) == (p : Int)) with
            | true =>
              have HX2 : Hid (numX s k b = true) := by
                show _ = _
                rw [HNX.out, HK2.out, if_pos (by simp at hjp; omega)]
              go_wp2_with fail
              go_quiet (fail)
              go_wp2_with fail
              go_quiet (fail)
              go_wp2_with fail
              exact bodyPost_ret (v := .agg #[.int .i64 v, .int .i64 p]) (by simp [results, Tryz.results179, go_sem, r0, r1]) rfl ⟨by rw [HPE.out, HV2.out], by rw [HK2.out, HX2.out]; exact (((HP4.out.drewN _).bad true).setN (HasT.set ⟨_, _, HR4.out⟩ _ _ _)).setN (HasT.set (HasT.set ⟨_, _, HR4.out⟩ _ _ _) _ _ _), (((HM4.out.drewN _).trans ((HP4.out.drewN _).setMv 2 _)).setNew (Nat.le_refl _) hbs _).setNew (Nat.le_refl _) hbs _⟩
            | false =>
              have HX2 : Hid (numX s k b = b) := by
                show _ = _
                rw [HNX.out, HK2.out, if_neg (by have := beq_eq_false_iff_ne.1 hjp; omega)]
              go_wp2_with fail
              go_quiet (fail)
              go_wp2_with fail
              go_quiet (fail)
              go_wp2_with fail
              exact bodyPost_ret (v := .agg #[.int .i64 v, .int .i64 p]) (by simp [results, Tryz.results179, go_sem, r0, r1]) rfl ⟨by rw [HPE.out, HV2.out], by rw [HK2.out, HX2.out]; exact ((HP4.out.drewN _).setN ⟨_, _, HR4.out⟩).setN (HasT.set ⟨_, _, HR4.out⟩ _ _ _), ((HM4.out.drewN _).setNew (Nat.le_refl _) hbs _).setNew (Nat.le_refl _) hbs _⟩
          · have d1 : decide (48 ≤ hereF s j b) = false := decide_eq_false h1
            have HK2 : Hid (numK s k b = j) := by
              show _ = _
              rw [HNK.out, ← HF.out]; rw [nmF, if_neg (by rw [hd]; decide)]
            have HV2 : Hid (numV s k b = v) := by
              show _ = _
              rw [HNV.out, HK2.out]; exact HV.out.symm
            cases hjp : ((j : Int) == (p : Int)) with
            | true =>
              have HX2 : Hid (numX s k b = true) := by
                show _ = _
                rw [HNX.out, HK2.out, if_pos (by simp at hjp; omega)]
              go_wp2_with fail
              go_quiet (fail)
              go_wp2_with fail
              go_quiet (fail)
              go_wp2_with fail
              exact bodyPost_ret (v := .agg #[.int .i64 v, .int .i64 p]) (by simp [results, Tryz.results179, go_sem, r0, r1]) rfl ⟨by rw [HPE.out, HV2.out], by rw [HK2.out, HX2.out]; exact (((HP4.out.drewN _).bad true).setN (HasT.set ⟨_, _, HR4.out⟩ _ _ _)).setN (HasT.set (HasT.set ⟨_, _, HR4.out⟩ _ _ _) _ _ _), (((HM4.out.drewN _).trans ((HP4.out.drewN _).setMv 2 _)).setNew (Nat.le_refl _) hbs _).setNew (Nat.le_refl _) hbs _⟩
            | false =>
              have HX2 : Hid (numX s k b = b) := by
                show _ = _
                rw [HNX.out, HK2.out, if_neg (by have := beq_eq_false_iff_ne.1 hjp; omega)]
              go_wp2_with fail
              go_quiet (fail)
              go_wp2_with fail
              go_quiet (fail)
              go_wp2_with fail
              exact bodyPost_ret (v := .agg #[.int .i64 v, .int .i64 p]) (by simp [results, Tryz.results179, go_sem, r0, r1]) rfl ⟨by rw [HPE.out, HV2.out], by rw [HK2.out, HX2.out]; exact ((HP4.out.drewN _).setN ⟨_, _, HR4.out⟩).setN (HasT.set ⟨_, _, HR4.out⟩ _ _ _), ((HM4.out.drewN _).setNew (Nat.le_refl _) hbs _).setNew (Nat.le_refl _) hbs _⟩
end Go.Proofs.YtaebngpoagjafaaGreat
