/-
  OUR OWN: the code of an expression, without memory.
  OUR OWN: the program's writer of bytes: number.
  OUR OWN: the program's writer of bytes: expression, item.
  OUR OWN: a row appended to a row; upTo.
-/
import Derived.Test.YtaebngpoagjafaaGreatQ25
namespace Go.Proofs.YtaebngpoagjafaaGreat
open Go.RowKit

/-- A number in so many bytes, the lowest first. -/
def numB (n : Int) : Nat → List Int
  | 0 => []
  | k + 1 => (n % 256) :: numB (n / 256) k
def itemB (kind : Int) (x : IM) (way : Int) : List Int :=
  if kind = 109 then numB x.pv 4 ++ numB x.pl 1 ++ numB way 2
  else if kind = 103 then numB x.num 1 ++ numB way 2
  else if kind = 119 then numB x.num 1 ++ numB x.wv 2
  else numB x.num 1
def exprB (e : EX) : List Int :=
  numB e.kind 1 ++ (if e.kind = 116 then numB e.nv 3 else if e.kind = 64 then numB e.nv 1 else numB e.items.length 1)
def atL (K : List (List Int)) (i : Int) : List Int := if i < 0 then [] else (K[i.toNat]?).getD []
/-- What stands behind the head, with the first j arms. -/
def withinL (K : List (List Int)) (e : EX) : Nat → List Int
  | 0 => atL K e.inner
  | j + 1 => withinL K e j ++ (match e.items[j]? with | some x => atL K x.arm | none => [])
/-- The head, with the first j items. -/
def headL (K : List (List Int)) (e : EX) : Nat → List Int
  | 0 => exprB e
  | j + 1 => headL K e j ++ (match e.items[j]? with | some x => itemB e.kind x (withinL K e j).length | none => [])
def encE (K : List (List Int)) (e : EX) : List Int :=
  if e.kind = 61 then atL K e.inner else headL K e e.items.length ++ withinL K e e.items.length
/-- The codes of the first j expressions. -/
def encK (es : List EX) : Nat → List (List Int)
  | 0 => []
  | j + 1 => encK es j ++ [match es[j]? with | some e => encE (encK es j) e | none => []]
/-- The code of the first n expressions' last. -/
def encN (es : List EX) : Nat → List Int
  | 0 => []
  | j + 1 => match es[j]? with | some e => encE (encK es j) e | none => []
theorem numB_len (n : Int) (k : Nat) : (numB n k).length = k := by
  induction k generalizing n with
  | zero => rfl
  | succ k ih => simp [numB, ih]
theorem encK_len (es : List EX) : ∀ j, (encK es j).length = j := by
  intro j
  induction j with
  | zero => rfl
  | succ j ih => simp [encK, ih]
theorem encK_at (es : List EX) : ∀ m i, i < m → (encK es m)[i]? = some (encN es (i + 1)) := by
  intro m
  induction m with
  | zero => intro i h; omega
  | succ m ih =>
    intro i h
    by_cases hi : i < m
    · simp only [encK]
      rw [List.getElem?_append_left (by rw [encK_len]; exact hi)]
      exact ih i hi
    · have : i = m := by omega
      subst this
      simp only [encK]
      rw [List.getElem?_append_right (by rw [encK_len]; exact Nat.le_refl _), encK_len]
      simp [encN]
theorem atL_enc (es : List EX) (m : Nat) (i : Int) : atL (encK es m) i = if i < 0 then [] else if i < m then encN es (i.toNat + 1) else [] := by
  unfold atL
  by_cases h0 : i < 0
  · rw [if_pos h0, if_pos h0]
  · rw [if_neg h0, if_neg h0]
    by_cases h1 : i < m
    · rw [if_pos h1, encK_at es m i.toNat (by omega)]; rfl
    · rw [if_neg h1, List.getElem?_eq_none (by rw [encK_len]; omega)]; rfl
theorem szK_at (es : List EX) : ∀ m i, i < m → (szK es m)[i]? = some (szR es (i + 1)) := by
  intro m
  induction m with
  | zero => intro i h; omega
  | succ m ih =>
    intro i h
    by_cases hi : i < m
    · simp only [szK]
      rw [List.getElem?_append_left (by rw [szK_len]; exact hi)]
      exact ih i hi
    · have : i = m := by omega
      subst this
      simp only [szK]
      rw [List.getElem?_append_right (by rw [szK_len]; exact Nat.le_refl _), szK_len]
      simp [szR]
theorem atF_sz (es : List EX) (m : Nat) (i : Int) : atF (szK es m) i = if i < 0 then 0 else if i < m then szR es (i.toNat + 1) else 0 := by
  unfold atF
  by_cases h0 : i < 0
  · rw [if_pos h0, if_pos h0]
  · rw [if_neg h0, if_neg h0]
    by_cases h1 : i < m
    · rw [if_pos h1, szK_at es m i.toNat (by omega)]; rfl
    · rw [if_neg h1, List.getElem?_eq_none (by rw [szK_len]; omega)]; rfl
theorem szR_bd (es : List EX) (n : Nat) : 0 ≤ szR es n ∧ szR es n ≤ 1001 := by
  cases n with
  | zero => simp [szR]
  | succ j =>
    simp only [szR]
    cases h : es[j]? with
    | none => simp
    | some e => exact szE_bd (szK_bd es j)
theorem cap1_le {x : Int} (h : cap1 x ≤ 1000) : cap1 x = x ∧ x ≤ 1000 := by
  unfold cap1 at h ⊢
  split at h
  · omega
  · rename_i h1; rw [if_neg h1]; exact ⟨rfl, by omega⟩
theorem armS_le {K : List Int} (h : ∀ k ∈ K, 0 ≤ k ∧ k ≤ 1001) (l : List IM) : ∀ m j, j ≤ m → armS K l j ≤ armS K l m := by
  intro m
  induction m with
  | zero => intro j hj; have : j = 0 := by omega
            subst this; exact Int.le_refl _
  | succ m ih =>
    intro j hj
    by_cases h1 : j ≤ m
    · have h2 := ih j h1
      simp only [armS]
      cases hx : l[m]? with
      | none => simp only; omega
      | some x => have := atF_bd h x.arm; simp only; omega
    · have : j = m + 1 := by omega
      subst this; exact Int.le_refl _
/-- The parts of a size that is not too large. -/
theorem sz_parts {es : List EX} {j : Nat} {e : EX} (he : es[j]? = some e) (h : szR es (j + 1) ≤ 1000) :
    szR es (j + 1) = atF (szK es j) e.inner + (if e.kind = 61 then 0 else 1 + (e.items.length : Int)) + armS (szK es j) e.items e.items.length ∧ atF (szK es j) e.inner ≤ 1000 ∧ (∀ (i : Nat) (x : IM), e.items[i]? = some x → atF (szK es j) x.arm ≤ 1000) ∧ (e.kind ≠ 61 → e.items.length ≤ 1000) := by
  simp only [szR, he] at h ⊢
  unfold szE at h ⊢
  obtain ⟨h1, h2⟩ := cap1_le h
  rw [h1]
  have hb := szK_bd es j
  have b1 := atF_bd hb e.inner
  have b2 := armS_bd hb e.items e.items.length
  refine ⟨rfl, ?_, ?_, ?_⟩
  · split at h2 <;> omega
  · intro i x hx
    have hi : i < e.items.length := (List.getElem?_eq_some_iff.1 hx).1
    have c1 := armS_le hb e.items e.items.length (i + 1) (by omega)
    have c2 := armS_bd hb e.items i
    simp only [armS, hx] at c1
    split at h2 <;> omega
  · intro hk
    rw [if_neg hk] at h2
    omega
theorem withinL_le (K : List (List Int)) (e : EX) : ∀ m j, j ≤ m → (withinL K e j).length ≤ (withinL K e m).length := by
  intro m
  induction m with
  | zero => intro j hj; have : j = 0 := by omega
            subst this; exact Nat.le_refl _
  | succ m ih =>
    intro j hj
    by_cases h1 : j ≤ m
    · have h2 := ih j h1
      simp only [withinL, List.length_append]; omega
    · have : j = m + 1 := by omega
      subst this; exact Nat.le_refl _
theorem headL_le (K : List (List Int)) (e : EX) : ∀ m j, j ≤ m → (headL K e j).length ≤ (headL K e m).length := by
  intro m
  induction m with
  | zero => intro j hj; have : j = 0 := by omega
            subst this; exact Nat.le_refl _
  | succ m ih =>
    intro j hj
    by_cases h1 : j ≤ m
    · have h2 := ih j h1
      simp only [headL, List.length_append]; omega
    · have : j = m + 1 := by omega
      subst this; exact Nat.le_refl _
theorem itemB_len (kind : Int) (x : IM) (way : Int) : (itemB kind x way).length ≤ 7 := by
  unfold itemB
  repeat' split
  all_goals simp [numB_len]
theorem exprB_len (e : EX) : 2 ≤ (exprB e).length ∧ (exprB e).length ≤ 4 := by
  unfold exprB
  repeat' split
  all_goals simp [numB_len]
theorem headL_len (K : List (List Int)) (e : EX) : ∀ j, (headL K e j).length ≤ 4 + 7 * j ∧ 2 ≤ (headL K e j).length := by
  intro j
  induction j with
  | zero => have := exprB_len e; simp only [headL]; omega
  | succ j ih =>
    simp only [headL, List.length_append]
    cases hx : e.items[j]? with
    | none => simp only [List.length_nil]; omega
    | some x => have := itemB_len e.kind x (withinL K e j).length; simp only; omega
/-- An expression has at most seven bytes for each 1 of its size. -/
theorem enc_le (es : List EX) : ∀ n, szR es n ≤ 1000 → ((encN es n).length : Int) ≤ 7 * szR es n := by
  intro n
  induction n using Nat.strongRecOn with
  | ind n ih =>
    cases n with
    | zero => intro _; simp [encN, szR]
    | succ j =>
      intro h
      cases he : es[j]? with
      | none => simp [encN, szR, he]
      | some e =>
        obtain ⟨p1, p2, p3, p4⟩ := sz_parts he h
        have hb := szK_bd es j
        have hat : ∀ i, atF (szK es j) i ≤ 1000 → ((atL (encK es j) i).length : Int) ≤ 7 * atF (szK es j) i := by
          intro i hi
          rw [atL_enc, atF_sz] at *
          by_cases h0 : i < 0
          · simp [h0]
          · by_cases h1 : i < j
            · rw [if_neg h0, if_pos h1] at hi ⊢
              rw [if_neg h0, if_pos h1]
              exact ih (i.toNat + 1) (by omega) hi
            · simp [h0, h1]
        have hw : ∀ k, k ≤ e.items.length → ((withinL (encK es j) e k).length : Int) ≤ 7 * (atF (szK es j) e.inner + armS (szK es j) e.items k) := by
          intro k
          induction k with
          | zero => intro _; have := hat e.inner p2; simp only [withinL, armS]; omega
          | succ k ihk =>
            intro hk
            have h2 := ihk (by omega)
            obtain ⟨x, hx⟩ : ∃ x, e.items[k]? = some x := ⟨e.items[k], List.getElem?_eq_getElem (by omega)⟩
            have h3 := hat x.arm (p3 k x hx)
            simp only [withinL, armS, hx, List.length_append]
            omega
        have hw2 := hw e.items.length (Nat.le_refl _)
        rw [p1]
        simp only [encN, he]
        unfold encE
        have b2 := armS_bd hb e.items e.items.length
        by_cases hk : e.kind = 61
        · rw [if_pos hk, if_pos hk]
          have := hat e.inner p2
          omega
        · rw [if_neg hk, if_neg hk, List.length_append]
          have := headL_len (encK es j) e e.items.length
          omega
end Go.Proofs.YtaebngpoagjafaaGreat
namespace Go.Proofs.YtaebngpoagjafaaGreat
open Go.RowKit

/-- The writer in memory. -/
structure WM (w : World) (base B : Nat) (v : Value) (xs : List Int) : Prop where
  blk : w.heap[B]? = some (.cells #[v] 170 (0, 0))
  row : w.ownsRow base 5 1 v xs.length (xs.map (Value.int .u8))
  hB : base ≤ B
/-- What a call of the writer's turns: its own block, its row, new blocks. -/
structure WV (B : Nat) (v v' : Value) (w w' : World) : Prop where
  bel : Below 0 w w'
  kept : ∀ b, b < w.heap.size → b ≠ B → v.ownBlock ≠ some b → w'.heap[b]? = w.heap[b]? ∧ v'.ownBlock ≠ some b
theorem WV.refl (B : Nat) (v : Value) (w : World) : WV B v v w w := ⟨Below.refl _ _, fun _ _ _ h => ⟨rfl, h⟩⟩
theorem WV.trans {B : Nat} {a b c : Value} {w w1 w2 : World} (h : WV B a b w w1) (k : WV B b c w1 w2) : WV B a c w w2 :=
  ⟨h.bel.trans k.bel, fun x hx h1 h2 => by
    obtain ⟨p1, p2⟩ := h.kept x hx h1 h2
    obtain ⟨q1, q2⟩ := k.kept x (Nat.lt_of_lt_of_le hx h.bel.size) h1 p2
    exact ⟨q1.trans p1, q2⟩⟩
theorem WM.lt {w : World} {base B v xs} (h : WM w base B v xs) : B < w.heap.size := lt_of_block h.blk
theorem WM.c0 {w : World} {base B v xs} (h : WM w base B v xs) : w.cell? ⟨B, 0, none⟩ = some v := by simp [World.cell?, h.blk]
theorem WM.fz {w : World} {base B v xs} (h : WM w base B v xs) (j : Nat) : w.frozen? ⟨B, j, none⟩ = false := by simp [World.frozen?, h.blk]
theorem WM.ne {w : World} {base B v xs} (h : WM w base B v xs) : v.ownBlock ≠ some B := owns_ne h.row h.blk (by decide)
theorem WV.below {B : Nat} {v v' : Value} {w w' : World} {base : Nat} {xs : List Int} (h : WV B v v' w w') (hm : WM w base B v xs) : Below base w w' :=
  ⟨h.bel.os, h.bel.tape, h.bel.output, h.bel.size, fun k hk => (h.kept k (by have := hm.lt; have := hm.hB; omega) (by have := hm.hB; omega) (fun e => by have := (hm.row.lt k e).1; omega)).1⟩
theorem WM.alloc {w : World} {base B v xs} (h : WM w base B v xs) (o : Obj) : WM (w.alloc o) base B v xs :=
  ⟨by rw [Below.heap_alloc _ _ _ h.lt]; exact h.blk, h.row.alloc o, h.hB⟩
theorem WM.drewN {w : World} {base B v xs} (h : WM w base B v xs) (n : Nat) : WM (w.drewN n) base B v xs := ⟨h.blk, h.row, h.hB⟩
theorem WV.alloc {B : Nat} {v v' : Value} {w w' : World} (h : WV B v v' w w') (o : Obj) : WV B v v' w (w'.alloc o) :=
  ⟨h.bel.alloc (Nat.zero_le _) o, fun b hb h1 h2 => by
    obtain ⟨p1, p2⟩ := h.kept b hb h1 h2
    exact ⟨by rw [Below.heap_alloc _ _ _ (Nat.lt_of_lt_of_le hb h.bel.size)]; exact p1, p2⟩⟩
theorem blk1_set {w : World} {B : Nat} {a u : Value} {t : TypeId} (h : w.heap[B]? = some (.cells #[a] t (0, 0))) : (w.setCell ⟨B, 0, none⟩ u).heap[B]? = some (.cells #[u] t (0, 0)) := by
  simp [World.setCell, Array.getElem?_modify, h]
/-- Bytes more. -/
theorem WM.push {w w4 : World} {base B v xs ys} {oo : Option Addr} {cap n : Nat} (h : WM w base B v xs) (hn : n = (xs ++ ys).length) (hg : w.grownBy w4 v.ownBlock) (hown : w4.ownsRow base 5 1 (.slice oo n cap) n ((xs ++ ys).map (Value.int .u8))) :
    WM (w4.setCell ⟨B, 0, none⟩ (.slice oo n cap)) base B (.slice oo n cap) (xs ++ ys) := by
  have hb4 : w4.heap[B]? = some (.cells #[v] 170 (0, 0)) := (hg.block B h.lt (fun e => h.ne e.symm)).trans h.blk
  subst hn
  exact ⟨blk1_set hb4, ownsRow_setCell_other hown (owns_ne hown hb4 (by decide)) _, h.hB⟩
theorem WM.pushV {w w4 : World} {base B v xs} {g n cap H : Nat} (_ : WM w base B v xs) (hg : w.grownBy w4 v.ownBlock) (hat : v.ownBlock = some g ∨ g = H) (hH : w.heap.size ≤ H) :
    WV B v (.slice (some ⟨g, 0, none⟩) n cap) w (w4.setCell ⟨B, 0, none⟩ (.slice (some ⟨g, 0, none⟩) n cap)) := by
  refine ⟨⟨hg.os, hg.tape, hg.output, Nat.le_trans hg.size (by simp [World.setCell]), fun k hk => absurd hk (Nat.not_lt_zero _)⟩, fun b hb h1 h2 => ⟨?_, ?_⟩⟩
  · rw [heap_set_ne h1]
    exact hg.block b hb (fun e => h2 e.symm)
  · intro e
    have e' : g = b := by simpa [Value.ownBlock] using e
    subst e'
    rcases hat with e1 | e1
    · exact h2 e1
    · omega

attribute [local go_sem ↓] Go.wp_at_zero Go.wp_at_succ
set_option maxRecDepth 100000 in
set_option maxHeartbeats 800000 in
theorem wnum_any (base B : Nat) (n kI : Int) (k : Nat) (v : Value) (xs : List Int) (w : World) (hk : kI = k) (hk4 : k ≤ 4) (h0 : 0 ≤ n) (h1 : n ≤ 4294967296) (hx : xs.length ≤ 1000000) (h : WM w base B v xs) :
    Calls Tryz.prog 149 #[.pointer (some ⟨B, 0, none⟩), .int .i64 n, .int .i64 kI] w fun e w' => e = .returned (.tuple #[]) ∧ ∃ v', WM w' base B v' (xs ++ numB n k) ∧ WV B v v' w w' := by
  subst hk
  obtain ⟨i0, hi0, hz0, hz1, hz2⟩ := info_parts Tryz.infoByte
  have H : Hid (WM w base B v xs) := h
  clear h
  go_enter Tryz.func149, Tryz.ntmps149
  go_wp2_with fail
  go_loopg [1, 6] k (fun q a y wr => ∃ (i : Nat) (n' : Int) (v' : Value) (xs' : List Int), q + i = k ∧ a = .int .i64 n' ∧ y = .int .i64 i ∧ 0 ≤ n' ∧ n' ≤ 4294967296 ∧ xs'.length ≤ 1000000 + i ∧ Hid (xs' ++ numB n' q = xs ++ numB n k) ∧ WM wr base B v' xs' ∧ WV B v v' w wr)
  case atStart => exact ⟨0, n, v, xs, by omega, rfl, rfl, h0, h1, by omega, rfl, H.out, WV.refl _ _ _⟩
  case round =>
    obtain ⟨i, n', v', xs', hq, rfl, rfl, g0, g1, gx, HX, hm, hv⟩ := hrel
    have HM : Hid (WM wr base B v' xs') := hm
    have HV : Hid (WV B v v' w wr) := hv
    have c0 := hm.c0
    have z0 := hm.fz 0
    clear hm hv
    by_cases hlt : i < k
    · have hlt' : (i : Int) < (k : Int) := by omega
      obtain ⟨q', rfl⟩ : ∃ q', gk = q' + 1 := ⟨gk - 1, by omega⟩
      have hA1 : Hid (xs'.length + 1 ≤ maxLen) := by show _ ≤ _; unfold maxLen; omega
      have hA2 : Hid ((xs'.length + 1) * 1 ≤ 140737488355328) := by show _ ≤ _; omega
      have hbs : base ≤ wr.heap.size := Nat.le_trans HM.out.hB (Nat.le_of_lt HM.out.lt)
      have ht : n'.tmod 256 = n' % 256 := Int.tmod_eq_emod_of_nonneg g0
      have ht2 : n'.tdiv 256 = n' / 256 := Int.tdiv_eq_ediv_of_nonneg g0
      have hr0 : 0 ≤ n' % 256 := by omega
      have hr1 : n' % 256 < 256 := by omega
      have hd0 : 0 ≤ n' / 256 := by omega
      have hd1 : n' / 256 ≤ 4294967296 := by omega
      have HN : Hid (numB n' (q' + 1) = (n' % 256) :: numB (n' / 256) q') := rfl
      generalize hc : n' % 256 = c at *
      generalize hdd : n' / 256 = d at *
      have hA3 : Hid (base ≤ (wr.alloc (.cells #[.int .u8 c] 5)).heap.size) := by show _ ≤ _; simp; omega
      have hone : Hid (∀ u ∈ [Value.int .u8 c], u.oneCell' = true) := fun u hu => by simp at hu; subst hu; rfl
      go_wp2_with (at_builtin; refine wpList_append_lies _ rfl _ _ 48 rfl base 5 i0 _ 1 1 Tryz.underlying48 hi0 hz0 hz1 hz2 rfl (by decide) v' _ _ rfl (HM.out.row.alloc _) ⟨wr.heap.size, 0, none⟩ 1 1 [.int .u8 c] rfl rfl (World.news_of_block (cs := #[.int .u8 c]) (t := 5) (fr := (0, 0)) (heap_alloc_new wr _)) hone.out (Nat.lt_succ_self 0) hA1.out hA2.out hA3.out (wr.heap.size + 1) (by simp) ?_; intro g cap w4 hown hgrow hat hlt4; have zz : w4.frozen? ⟨B, 0, none⟩ = false := (hgrow.frozen_far ⟨B, 0, none⟩ (by have := HM.out.lt; simp; omega) (fun e => HM.out.ne e.symm)).trans ((HM.out.alloc _).fz 0); have cc : w4.cell? ⟨B, 0, none⟩ = some v' := (hgrow.cell_far ⟨B, 0, none⟩ (by have := HM.out.lt; simp; omega) (fun e => HM.out.ne e.symm)).trans (HM.out.alloc _).c0)
      go_roundg q'
      case measure => omega
      case rel =>
        refine ⟨i + 1, d, _, xs' ++ [c], by omega, by go_num, by go_num, hd0, hd1, by simp; omega, ?_, (HM.out.alloc _).push (by simp) hgrow (by simpa using hown), HV.out.trans (((WV.refl _ _ _).alloc _).trans ((HM.out.alloc _).pushV hgrow hat (by simp)))⟩
        show _ = _
        rw [← HX.out, HN.out]
        simp
    · have hlt' : ¬ (i : Int) < (k : Int) := by omega
      have hq0 : gk = 0 := by omega
      subst hq0
      go_wp2_with fail
      go_end0
      exact ⟨rfl, v', by have := HX.out; simp only [numB, List.append_nil] at this; rw [← this]; exact HM.out, HV.out⟩
end Go.Proofs.YtaebngpoagjafaaGreat
namespace Go.Proofs.YtaebngpoagjafaaGreat
open Go.RowKit

attribute [local go_sem ↓] Go.wp_at_zero Go.wp_at_succ
set_option maxRecDepth 100000 in
set_option maxHeartbeats 800000 in
theorem wexpr_any (base B : Nat) (e : EX) (vo : Option Addr) (vc : Nat) (v : Value) (xs : List Int) (w : World) (k0 : 0 ≤ e.kind) (k1 : e.kind < 256) (n0 : 0 ≤ e.nv) (n1 : e.nv ≤ 4294967296) (hl : e.items.length ≤ 100000) (hx : xs.length ≤ 999990) (h : WM w base B v xs) :
    Calls Tryz.prog 108 #[.pointer (some ⟨B, 0, none⟩), .agg #[.int .u8 e.kind, .int .i64 e.at_, .int .i64 e.depth, .int .i64 e.nv, .int .i64 e.na, .slice vo e.items.length vc, .int .i64 e.inner]] w fun r w' => r = .returned (.tuple #[]) ∧ ∃ v', WM w' base B v' (xs ++ exprB e) ∧ WV B v v' w w' := by
  have H : Hid (WM w base B v xs) := h
  clear h
  have HA : Hid ((w.alloc (.cells #[.int .u8 e.kind, .int .i64 e.at_, .int .i64 e.depth, .int .i64 e.nv, .int .i64 e.na, .slice vo e.items.length vc, .int .i64 e.inner] 114)).heap[w.heap.size]? = some (.cells #[.int .u8 e.kind, .int .i64 e.at_, .int .i64 e.depth, .int .i64 e.nv, .int .i64 e.na, .slice vo e.items.length vc, .int .i64 e.inner] 114 (0, 0))) := heap_alloc_new w _
  go_enter Tryz.func108, Tryz.ntmps108
  go_wp2_with fail
  refine (wnum_any base B e.kind 1 1 v xs _ rfl (by decide) k0 (by omega) (by omega) (H.out.alloc _)).mono ?_
  rintro r w1 ⟨rfl, v1, hm1, hv1⟩
  have HM1 : Hid (WM w1 base B v1 (xs ++ numB e.kind 1)) := hm1
  have HV1 : Hid (WV B v v1 w w1) := ((WV.refl _ _ _).alloc _).trans hv1
  have hblk : w1.heap[w.heap.size]? = some (.cells #[.int .u8 e.kind, .int .i64 e.at_, .int .i64 e.depth, .int .i64 e.nv, .int .i64 e.na, .slice vo e.items.length vc, .int .i64 e.inner] 114 (0, 0)) := by
    rw [(hv1.kept w.heap.size (by simp) (fun e' => by have := H.out.lt; omega) (fun e' => by have := (H.out.row.lt _ e').2; omega)).1]
    exact HA.out
  have q0 : w1.cell? ⟨w.heap.size, 0, none⟩ = some (.int .u8 e.kind) := by simp [World.cell?, hblk]
  have q3 : w1.cell? ⟨w.heap.size, 3, none⟩ = some (.int .i64 e.nv) := by simp [World.cell?, hblk]
  have q5 : w1.cell? ⟨w.heap.size, 5, none⟩ = some (.slice vo e.items.length vc) := by simp [World.cell?, hblk]
  have hxl : (xs ++ numB e.kind 1).length ≤ 1000000 := by rw [List.length_append, numB_len]; omega
  clear hm1 hv1 hblk
  cases e116 : (e.kind == 116) with
  | true =>
    have HE : Hid (exprB e = numB e.kind 1 ++ numB e.nv 3) := by show _ = _; unfold exprB; rw [if_pos (by simpa using e116)]
    go_wp2_with fail
    refine (wnum_any base B e.nv 3 3 v1 _ _ rfl (by decide) n0 n1 hxl HM1.out).mono ?_
    rintro r w2 ⟨rfl, v2, hm2, hv2⟩
    have HM2 : Hid (WM w2 base B v2 (xs ++ exprB e)) := by show WM _ _ _ _ _; rw [HE.out, ← List.append_assoc]; exact hm2
    have HV2 : Hid (WV B v v2 w w2) := HV1.out.trans hv2
    clear hm2 hv2
    go_wp2_with fail
    go_end0
    exact ⟨rfl, v2, HM2.out, HV2.out⟩
  | false =>
    cases e64 : (e.kind == 64) with
    | true =>
      have HE : Hid (exprB e = numB e.kind 1 ++ numB e.nv 1) := by show _ = _; unfold exprB; rw [if_neg (by simpa using e116), if_pos (by simpa using e64)]
      go_wp2_with fail
      refine (wnum_any base B e.nv 1 1 v1 _ _ rfl (by decide) n0 n1 hxl HM1.out).mono ?_
      rintro r w2 ⟨rfl, v2, hm2, hv2⟩
      have HM2 : Hid (WM w2 base B v2 (xs ++ exprB e)) := by show WM _ _ _ _ _; rw [HE.out, ← List.append_assoc]; exact hm2
      have HV2 : Hid (WV B v v2 w w2) := HV1.out.trans hv2
      clear hm2 hv2
      go_wp2_with fail
      go_end0
      exact ⟨rfl, v2, HM2.out, HV2.out⟩
    | false =>
      have HE : Hid (exprB e = numB e.kind 1 ++ numB e.items.length 1) := by show _ = _; unfold exprB; rw [if_neg (by simpa using e116), if_neg (by simpa using e64)]
      go_wp2_with fail
      refine (wnum_any base B e.items.length 1 1 v1 _ _ rfl (by decide) (by omega) (by omega) hxl HM1.out).mono ?_
      rintro r w2 ⟨rfl, v2, hm2, hv2⟩
      have HM2 : Hid (WM w2 base B v2 (xs ++ exprB e)) := by show WM _ _ _ _ _; rw [HE.out, ← List.append_assoc]; exact hm2
      have HV2 : Hid (WV B v v2 w w2) := HV1.out.trans hv2
      clear hm2 hv2
      go_wp2_with fail
      go_end0
      exact ⟨rfl, v2, HM2.out, HV2.out⟩

set_option maxRecDepth 100000 in
set_option maxHeartbeats 1600000 in
theorem witem_any (base B : Nat) (kind : Int) (x : IM) (way : Int) (v : Value) (xs : List Int) (w : World) (a0 : 0 ≤ x.num) (a1 : x.num ≤ 4294967296) (b0 : 0 ≤ x.pv) (b1 : x.pv ≤ 4294967296) (c0 : 0 ≤ x.pl) (c1 : x.pl ≤ 4294967296) (d0 : 0 ≤ x.wv) (d1 : x.wv ≤ 4294967296) (y0 : 0 ≤ way) (y1 : way ≤ 4294967296) (hx : xs.length ≤ 999990) (h : WM w base B v xs) :
    Calls Tryz.prog 109 #[.pointer (some ⟨B, 0, none⟩), .int .u8 kind, .agg #[.int .i64 x.at_, .int .i64 x.num, .int .i64 x.pv, .int .i64 x.pl, .int .i64 x.wv, .int .i64 x.wa, .int .i64 x.arm], .int .i64 way] w fun r w' => r = .returned (.tuple #[]) ∧ ∃ v', WM w' base B v' (xs ++ itemB kind x way) ∧ WV B v v' w w' := by
  have H : Hid (WM w base B v xs) := h
  clear h
  have HA : Hid ((w.alloc (.cells #[.int .i64 x.at_, .int .i64 x.num, .int .i64 x.pv, .int .i64 x.pl, .int .i64 x.wv, .int .i64 x.wa, .int .i64 x.arm] 167)).heap[w.heap.size]? = some (.cells #[.int .i64 x.at_, .int .i64 x.num, .int .i64 x.pv, .int .i64 x.pl, .int .i64 x.wv, .int .i64 x.wa, .int .i64 x.arm] 167 (0, 0))) := heap_alloc_new w _
  have HC : Hid (∀ w1 v1, WV B v v1 (w.alloc (.cells #[.int .i64 x.at_, .int .i64 x.num, .int .i64 x.pv, .int .i64 x.pl, .int .i64 x.wv, .int .i64 x.wa, .int .i64 x.arm] 167)) w1 → w1.heap[w.heap.size]? = some (.cells #[.int .i64 x.at_, .int .i64 x.num, .int .i64 x.pv, .int .i64 x.pl, .int .i64 x.wv, .int .i64 x.wa, .int .i64 x.arm] 167 (0, 0))) := fun w1 v1 hv1 => by
    rw [(hv1.kept w.heap.size (by simp) (fun e' => by have := H.out.lt; omega) (fun e' => by have := (H.out.row.lt _ e').2; omega)).1]
    exact HA.out
  clear HA
  cases e109 : (kind == 109) with
  | true =>
    have HE : Hid (itemB kind x way = numB x.pv 4 ++ numB x.pl 1 ++ numB way 2) := by show _ = _; unfold itemB; rw [if_pos (by simpa using e109)]
    go_enter Tryz.func109, Tryz.ntmps109
    go_wp2_with fail
    refine (wnum_any base B x.pv 4 4 v xs _ rfl (by decide) b0 b1 (by omega) (H.out.alloc _)).mono ?_
    rintro r w1 ⟨rfl, v1, hm1, hv1⟩
    have HM1 : Hid (WM w1 base B v1 (xs ++ numB x.pv 4)) := hm1
    have HV1 : Hid (WV B v v1 (w.alloc (.cells #[.int .i64 x.at_, .int .i64 x.num, .int .i64 x.pv, .int .i64 x.pl, .int .i64 x.wv, .int .i64 x.wa, .int .i64 x.arm] 167)) w1) := hv1
    have hblk := HC.out w1 v1 hv1
    have q3 : w1.cell? ⟨w.heap.size, 3, none⟩ = some (.int .i64 x.pl) := by simp [World.cell?, hblk]
    clear hm1 hv1 hblk
    go_wp2_with fail
    refine (wnum_any base B x.pl 1 1 v1 _ _ rfl (by decide) c0 c1 (by rw [List.length_append, numB_len]; omega) HM1.out).mono ?_
    rintro r w2 ⟨rfl, v2, hm2, hv2⟩
    have HM2 : Hid (WM w2 base B v2 ((xs ++ numB x.pv 4) ++ numB x.pl 1)) := hm2
    have HV2 : Hid (WV B v v2 w w2) := ((WV.refl _ _ _).alloc _).trans (HV1.out.trans hv2)
    clear hm2 hv2 q3
    go_wp2_with fail
    refine (wnum_any base B way 2 2 v2 _ _ rfl (by decide) y0 y1 (by rw [List.length_append, List.length_append, numB_len, numB_len]; omega) HM2.out).mono ?_
    rintro r w3 ⟨rfl, v3, hm3, hv3⟩
    have HM3 : Hid (WM w3 base B v3 (xs ++ itemB kind x way)) := by show WM _ _ _ _ _; rw [HE.out, ← List.append_assoc, ← List.append_assoc]; exact hm3
    have HV3 : Hid (WV B v v3 w w3) := HV2.out.trans hv3
    clear hm3 hv3
    go_wp2_with fail
    go_end0
    exact ⟨rfl, v3, HM3.out, HV3.out⟩
  | false =>
    cases e103 : (kind == 103) with
    | true =>
      have HE : Hid (itemB kind x way = numB x.num 1 ++ numB way 2) := by show _ = _; unfold itemB; rw [if_neg (by simpa using e109), if_pos (by simpa using e103)]
      go_enter Tryz.func109, Tryz.ntmps109
      go_wp2_with fail
      refine (wnum_any base B x.num 1 1 v xs _ rfl (by decide) a0 a1 (by omega) (H.out.alloc _)).mono ?_
      rintro r w1 ⟨rfl, v1, hm1, hv1⟩
      have HM1 : Hid (WM w1 base B v1 (xs ++ numB x.num 1)) := hm1
      have HV1 : Hid (WV B v v1 w w1) := ((WV.refl _ _ _).alloc _).trans hv1
      clear hm1 hv1
      go_wp2_with fail
      refine (wnum_any base B way 2 2 v1 _ _ rfl (by decide) y0 y1 (by rw [List.length_append, numB_len]; omega) HM1.out).mono ?_
      rintro r w3 ⟨rfl, v3, hm3, hv3⟩
      have HM3 : Hid (WM w3 base B v3 (xs ++ itemB kind x way)) := by show WM _ _ _ _ _; rw [HE.out, ← List.append_assoc]; exact hm3
      have HV3 : Hid (WV B v v3 w w3) := HV1.out.trans hv3
      clear hm3 hv3
      go_wp2_with fail
      go_end0
      exact ⟨rfl, v3, HM3.out, HV3.out⟩
    | false =>
      cases e119 : (kind == 119) with
      | true =>
        have HE : Hid (itemB kind x way = numB x.num 1 ++ numB x.wv 2) := by show _ = _; unfold itemB; rw [if_neg (by simpa using e109), if_neg (by simpa using e103), if_pos (by simpa using e119)]
        go_enter Tryz.func109, Tryz.ntmps109
        go_wp2_with fail
        refine (wnum_any base B x.num 1 1 v xs _ rfl (by decide) a0 a1 (by omega) (H.out.alloc _)).mono ?_
        rintro r w1 ⟨rfl, v1, hm1, hv1⟩
        have HM1 : Hid (WM w1 base B v1 (xs ++ numB x.num 1)) := hm1
        have HV1 : Hid (WV B v v1 w w1) := ((WV.refl _ _ _).alloc _).trans hv1
        have hblk := HC.out w1 v1 hv1
        have q4 : w1.cell? ⟨w.heap.size, 4, none⟩ = some (.int .i64 x.wv) := by simp [World.cell?, hblk]
        clear hm1 hv1 hblk
        go_wp2_with fail
        refine (wnum_any base B x.wv 2 2 v1 _ _ rfl (by decide) d0 d1 (by rw [List.length_append, numB_len]; omega) HM1.out).mono ?_
        rintro r w3 ⟨rfl, v3, hm3, hv3⟩
        have HM3 : Hid (WM w3 base B v3 (xs ++ itemB kind x way)) := by show WM _ _ _ _ _; rw [HE.out, ← List.append_assoc]; exact hm3
        have HV3 : Hid (WV B v v3 w w3) := HV1.out.trans hv3
        clear hm3 hv3
        go_wp2_with fail
        go_end0
        exact ⟨rfl, v3, HM3.out, HV3.out⟩
      | false =>
        have HE : Hid (itemB kind x way = numB x.num 1) := by show _ = _; unfold itemB; rw [if_neg (by simpa using e109), if_neg (by simpa using e103), if_neg (by simpa using e119)]
        go_enter Tryz.func109, Tryz.ntmps109
        go_wp2_with fail
        refine (wnum_any base B x.num 1 1 v xs _ rfl (by decide) a0 a1 (by omega) (H.out.alloc _)).mono ?_
        rintro r w1 ⟨rfl, v1, hm1, hv1⟩
        have HM1 : Hid (WM w1 base B v1 (xs ++ itemB kind x way)) := by show WM _ _ _ _ _; rw [HE.out]; exact hm1
        have HV1 : Hid (WV B v v1 w w1) := ((WV.refl _ _ _).alloc _).trans hv1
        clear hm1 hv1
        go_wp2_with fail
        go_end0
        exact ⟨rfl, v1, HM1.out, HV1.out⟩
end Go.Proofs.YtaebngpoagjafaaGreat
namespace Go.Proofs.YtaebngpoagjafaaGreat
open Go.RowKit

theorem run_append_zero {P : Program} (w : World) (t ty e : TypeId) (i : TypeInfo) (ht : P.underlying t = some (.slice e)) (hi : P.info? e = some i) (so : Option Addr) (n cap : Nat) (xo : Option Addr) (c : Nat) (hn : n ≤ cap) :
    (Builtin.append_ #[t, t] ty #[.slice so n cap, .slice xo 0 c]).run P w = .ok (.slice so n cap) w := by
  have hfc : Sem.run P (Builtin.firstCells i.size 0 (.slice xo 0 c)) w = .ok #[] w := by
    cases xo with
    | none => simp [Builtin.firstCells]
    | some a => exact run_firstCells_some (P := P) w i.size 0 a 0 c [] (by simp) (fun j u hu => by simp at hu)
  cases so with
  | none => simp [Builtin.append_, run_underlying ht, sizeOf, typeInfo, hi, Builtin.lenOf, hn, hfc]
  | some a =>
    have hst : Sem.run P (storeCells (a.add (n * i.size)) []) w = .ok () w := by simp [storeCells]
    simp [Builtin.append_, run_underlying ht, sizeOf, typeInfo, hi, Builtin.lenOf, hn, hfc, hst]
theorem owns_form {w : World} {base e size : Nat} {v : Value} {n : Nat} {xs : List Value} (h : w.ownsRow base e size v n xs) : ∃ o c, v = .slice o n c ∧ n ≤ c := by
  rcases h.2 with ⟨rfl, rfl⟩ | ⟨g, cap, cur, rfl, _, _, hc, _⟩
  · exact ⟨none, 0, rfl, Nat.le_refl _⟩
  · exact ⟨some ⟨g, 0, none⟩, cap, rfl, hc⟩
/-- A row of the call's own, appended to another. -/
theorem wpList_append_row {P : Program} (w : World) {ops : Array Oper} {rest : List Oper} {o : Oper} {a : Act} {Q : Exit → Act → World → Prop} (hgd : o.guard = none) (s x : Operand) (t : TypeId)
    (ho : o.op = .call { callee := .builtin .append, args := #[s, x], argTypes := #[t, t] })
    (base : Nat) (e : TypeId) (i : TypeInfo) (z : Value) (size bytes : Nat) (ht : P.underlying t = some (.slice e)) (hi : P.info? e = some i) (hz : i.zero = some z)
    (hsize : i.size = size) (hby : i.bytes = bytes) (hzs : z.cells.size = size) (hsz : 0 < size)
    (v : Value) (n : Nat) (xs : List Value) (hs : a.eval s = v) (hown : w.ownsRow base e size v n xs)
    (base2 : Nat) (v2 : Value) (m : Nat) (news : List Value) (hx : a.eval x = v2) (hsrc : w.ownsRow base2 e size v2 m news) (h1 : ∀ u ∈ news, u.oneCell' = true)
    (h63 : n + m ≤ maxLen) (hbytes : (n + m) * bytes ≤ 140737488355328) (hbase : base ≤ w.heap.size) (H : Nat) (hH : w.heap.size = H)
    (h : ∀ oo cap w', w'.ownsRow base e size (.slice oo (n + m) cap) (n + m) (xs ++ news) → w.grownBy w' v.ownBlock → ((Value.slice oo (n + m) cap).ownBlock = v.ownBlock ∨ (Value.slice oo (n + m) cap).ownBlock = some H) → wpList P ops Q rest (a.put o.dst (.slice oo (n + m) cap)) w') : wpList P ops Q (o :: rest) a w := by
  rcases Nat.eq_zero_or_pos m with hm | hm
  · subst hm
    have hne : news = [] := List.eq_nil_of_length_eq_zero (by have := hsrc.1; simpa using this)
    subst hne
    obtain ⟨so, cap, rfl, hn⟩ := owns_form hown
    obtain ⟨xo, c, rfl, _⟩ := owns_form hsrc
    refine wpList_plain hgd fun K hK' => ?_
    have hrun := run_append_zero (P := P) w t o.type e i ht hi so n cap xo c hn
    unfold Oper.wp
    simp [execOp, ho, resolve, invoke, builtin, hs, hx, hrun, Result.andThen]
    refine hK' _ _ ?_
    have := h so cap w (by simpa using hown) ⟨rfl, rfl, rfl, Nat.le_refl _, fun _ _ _ => rfl⟩ (.inl rfl)
    simpa using this
  · obtain ⟨g, c, hv2, _, _⟩ := hsrc.form hm
    subst hv2
    refine wpList_append_lies w hgd s x t ho base e i z size bytes ht hi hz hsize hby hzs hsz v n xs hs hown ⟨g, 0, none⟩ m c news hx hsrc.1 (hsrc.cells rfl) h1 hm h63 hbytes hbase H hH (fun g' cap w' q1 q2 q3 _ => h _ _ _ q1 q2 ?_)
    rcases q3 with q3 | q3
    · exact .inl q3.symm
    · exact .inr (by rw [q3]; rfl)

attribute [local go_sem ↓] Go.wp_at_zero Go.wp_at_succ
set_option maxRecDepth 100000 in
set_option maxHeartbeats 400000 in
theorem upTo_any (eo : Option Addr) (m c : Nat) (i : Int) (w : World) (hmc : m ≤ c) (hm : m ≤ 100000) (h : 0 < m → ∃ g, eo = some ⟨g, 0, none⟩) :
    Calls Tryz.prog 107 #[.slice eo m c, .int .i64 i] w fun e w' => w' = w ∧ ((i < 0 ∨ (m : Int) ≤ i) ∧ e = .returned (.slice none 0 0) ∨ ∃ k : Nat, i = k ∧ k < m ∧ e = .returned (.slice eo (k + 1) c)) := by
  by_cases h0 : i < 0
  · go_enter Tryz.func107, Tryz.ntmps107
    go_wp2_with fail
    go_ret
    exact ⟨rfl, .inl ⟨.inl h0, rfl⟩⟩
  · obtain ⟨k, rfl⟩ : ∃ k : Nat, i = k := ⟨i.toNat, by omega⟩
    have h00 : (0 : Int) ≤ (k : Int) := by omega
    by_cases h1 : k < m
    · obtain ⟨g, rfl⟩ := h (by omega)
      have h1' : (k : Int) < (m : Int) := by omega
      have h2' : ¬ (m : Int) ≤ (k : Int) := by omega
      have h3' : (k : Int) + 1 ≤ (c : Int) := by omega
      clear h h0
      go_enter Tryz.func107, Tryz.ntmps107
      go_wp2_with fail
      go_ret
      exact ⟨rfl, .inr ⟨k, rfl, h1, rfl⟩⟩
    · have h1' : (m : Int) ≤ (k : Int) := by omega
      clear h h0
      go_enter Tryz.func107, Tryz.ntmps107
      go_wp2_with fail
      go_ret
      exact ⟨rfl, .inl ⟨.inr h1', rfl⟩⟩
end Go.Proofs.YtaebngpoagjafaaGreat
