/-
  OUR OWN: what an expression means in a world; a run of its code gives that.
  OUR OWN: what is read of an expression's items.
  OUR OWN: COMPILE, THEN RUN, IS THE MEANING, without memory.
  OUR OWN: the texts of numbers and bits, and what they stand for.
  OUR OWN: the text of an expression, and the expression of the program that it is.
-/
import Derived.Test.YtaebngpoagjafaaGreatQ29
import Derived.Test.YtaebngpoagjafaaGreatQ26
namespace Go.Proofs.YtaebngpoagjafaaGreat

/-- A meaning: servers, time to live, scope. -/
structure MN where
  sv : List Int
  ttl : Int
  sc : Int
def atM (K : List MN) (i : Int) : MN := if i < 0 then ⟨[], 0, 0⟩ else (K[i.toNat]?).getD ⟨[], 0, 0⟩
def itV (e : EX) (i : Nat) : Int := match e.items[i]? with | some x => x.pv | none => 0
def itL (e : EX) (i : Nat) : Int := match e.items[i]? with | some x => x.pl | none => 0
/-- The members that are up. -/
def mbL (W : RW) (l : List IM) : List (Int × Int) := (l.filter (fun x => upW W x.num)).map (fun x => (x.num, x.wv))
def poolM (W : RW) (l : List IM) : Option Int := if suL (mbL W l) ≤ 0 then none else pkL (mbL W l) (W.draw % suL (mbL W l))
def chainM (W : RW) (l : List IM) : Option Int := (l.find? (fun x => upW W x.num)).map IM.num
/-- The expression that counts, of a map of prefixes, of regions. -/
def prefM (W : RW) (e : EX) : Int := if M.bestTo (itV e) (itL e) W.addr e.items.length < 0 then e.inner else match e.items[(M.bestTo (itV e) (itL e) W.addr e.items.length).toNat]? with | some x => x.arm | none => e.inner
def regM (W : RW) (e : EX) : Int := match e.items.find? (fun x => x.num == W.reg) with | some x => x.arm | none => e.inner
def mnE (W : RW) (K : List MN) (e : EX) : MN :=
  if e.kind = 123 then ⟨e.items.map IM.num, 86400, 0⟩
  else if e.kind = 64 then ⟨(W.al[e.nv.toNat]?).getD [], 86400, 0⟩
  else if e.kind = 61 then atM K e.inner
  else if e.kind = 116 then ⟨(atM K e.inner).sv, if e.nv < (atM K e.inner).ttl then e.nv else (atM K e.inner).ttl, (atM K e.inner).sc⟩
  else if e.kind = 119 then (match poolM W e.items with | some x => ⟨[x], 86400, 0⟩ | none => atM K e.inner)
  else if e.kind = 102 then (match chainM W e.items with | some x => ⟨[x], 86400, 0⟩ | none => atM K e.inner)
  else if e.kind = 109 then ⟨(atM K (prefM W e)).sv, (atM K (prefM W e)).ttl, nar (M.depTo (itV e) (itL e) W.addr e.items.length) (atM K (prefM W e)).sc⟩
  else ⟨(atM K (regM W e)).sv, (atM K (regM W e)).ttl, nar W.dep (atM K (regM W e)).sc⟩
def mnK (W : RW) (es : List EX) : Nat → List MN
  | 0 => []
  | j + 1 => mnK W es j ++ [match es[j]? with | some e => mnE W (mnK W es j) e | none => ⟨[], 0, 0⟩]
def mnN (W : RW) (es : List EX) : Nat → MN
  | 0 => ⟨[], 0, 0⟩
  | j + 1 => match es[j]? with | some e => mnE W (mnK W es j) e | none => ⟨[], 0, 0⟩
theorem mnK_len (W : RW) (es : List EX) : ∀ j, (mnK W es j).length = j := by
  intro j
  induction j with
  | zero => rfl
  | succ j ih => simp [mnK, ih]
theorem mnK_at (W : RW) (es : List EX) : ∀ m i, i < m → (mnK W es m)[i]? = some (mnN W es (i + 1)) := by
  intro m
  induction m with
  | zero => intro i h; omega
  | succ m ih =>
    intro i h
    by_cases hi : i < m
    · simp only [mnK]
      rw [List.getElem?_append_left (by rw [mnK_len]; exact hi)]
      exact ih i hi
    · have : i = m := by omega
      subst this
      simp only [mnK]
      rw [List.getElem?_append_right (by rw [mnK_len]; exact Nat.le_refl _), mnK_len]
      simp [mnN]
theorem atM_mn (W : RW) (es : List EX) {m i : Nat} (h : i < m) : atM (mnK W es m) (i : Int) = mnN W es (i + 1) := by
  unfold atM
  rw [if_neg (by omega), Int.toNat_natCast, mnK_at W es m i h]; rfl
theorem atL_en (es : List EX) {m i : Nat} (h : i < m) : atL (encK es m) (i : Int) = encN es (i + 1) := by
  rw [atL_enc, if_neg (by omega), if_pos (by omega), Int.toNat_natCast]

/-- What is right of an expression, and of all that it needs. -/
inductive GD (E : List EX) : Nat → Prop where
  | servers {j : Nat} {e : EX} : E[j]? = some e → e.kind = 123 → 0 < e.items.length → e.items.length ≤ 16 → (∀ x ∈ e.items, 0 ≤ x.num ∧ x.num ≤ 63 ∧ x.arm = -1) → e.inner = -1 → GD E j
  | alias {j : Nat} {e : EX} : E[j]? = some e → e.kind = 64 → 0 ≤ e.nv → e.nv ≤ 15 → e.items = [] → e.inner = -1 → GD E j
  | name {j i : Nat} {e : EX} : E[j]? = some e → e.kind = 61 → e.items = [] → e.inner = (i : Int) → i < j → GD E i → GD E j
  | ttl {j i : Nat} {e : EX} : E[j]? = some e → e.kind = 116 → 1 ≤ e.nv → e.nv ≤ 86400 → e.items = [] → e.inner = (i : Int) → i < j → GD E i → GD E j
  | list {j i : Nat} {e : EX} : E[j]? = some e → (e.kind = 119 ∨ e.kind = 102) → 0 < e.items.length → e.items.length ≤ 16 → (∀ x ∈ e.items, 0 ≤ x.num ∧ x.num ≤ 63 ∧ x.arm = -1 ∧ (e.kind = 119 → 1 ≤ x.wv ∧ x.wv ≤ 1000)) → e.inner = (i : Int) → i < j → GD E i → GD E j
  | maps {j i : Nat} {e : EX} {an : Nat → Nat} : E[j]? = some e → (e.kind = 109 ∨ e.kind = 103) → 0 < e.items.length → e.items.length ≤ 16 → (∀ x ∈ e.items, (e.kind = 109 → M.isP x.pv x.pl = true) ∧ (e.kind = 103 → 0 ≤ x.num ∧ x.num ≤ 99)) → (e.kind = 103 → ∀ (a b : Nat) (x y : IM), e.items[a]? = some x → e.items[b]? = some y → x.num = y.num → a = b) → (e.kind = 109 → ∀ (a b : Nat) (x y : IM), e.items[a]? = some x → e.items[b]? = some y → x.pv = y.pv → x.pl = y.pl → a = b) →
      (∀ (k : Nat) (x : IM), e.items[k]? = some x → x.arm = (an k : Int) ∧ an k < j) → (∀ k, k < e.items.length → GD E (an k)) → e.inner = (i : Int) → i < j → GD E i → GD E j

/-! Bytes that lie in code. -/
def Sits (C : List Int) (p : Nat) (X : List Int) : Prop := ∀ (i : Nat) (x : Int), X[i]? = some x → C[p + i]? = some x
theorem Sits.left {C : List Int} {p : Nat} {X Y : List Int} (h : Sits C p (X ++ Y)) : Sits C p X := fun i x hx => h i x (by rw [List.getElem?_append_left (List.getElem?_eq_some_iff.1 hx).1]; exact hx)
theorem Sits.right {C : List Int} {p : Nat} {X Y : List Int} (h : Sits C p (X ++ Y)) : Sits C (p + X.length) Y := fun i x hx => by
  have := h (X.length + i) x (by rw [List.getElem?_append_right (by omega), Nat.add_sub_cancel_left]; exact hx)
  rw [Nat.add_assoc]; exact this
theorem Sits.lt {C : List Int} {p i : Nat} {X : List Int} (h : Sits C p X) (hi : i < X.length) : p + i < C.length :=
  (List.getElem?_eq_some_iff.1 (h i X[i] (List.getElem?_eq_getElem hi))).1
/-- The value of the first i bytes. -/
def vL (X : List Int) : Nat → Int
  | 0 => 0
  | i + 1 => vL X i + (X[i]?).getD 0 * p256 i
theorem rd_list {C : List Int} {p : Nat} {X : List Int} (b : Bool) (h : Sits C p X) : ∀ i, i ≤ X.length → rdAt C ⟨p, b⟩ i = ⟨p + i, b⟩ ∧ rdN C ⟨p, b⟩ i = vL X i := by
  intro i
  induction i with
  | zero => intro _; exact ⟨rfl, rfl⟩
  | succ i ih =>
    intro hi
    obtain ⟨h1, h2⟩ := ih (by omega)
    have hlt := h.lt (i := i) (by omega)
    have hv := h i X[i] (List.getElem?_eq_getElem (by omega))
    constructor
    · simp only [rdAt, h1, nx]
      rw [if_pos hlt]; rfl
    · simp only [rdN, vL, h1, h2, nxV, hv]
      rw [List.getElem?_eq_getElem (by omega)]
theorem rd_num {C : List Int} {p k : Nat} {n : Int} (b : Bool) (hk : k ≤ 4) (h : Sits C p (numB n k)) (h0 : 0 ≤ n) (h1 : n < p256 k) : rdAt C ⟨p, b⟩ k = ⟨p + k, b⟩ ∧ rdN C ⟨p, b⟩ k = n := by
  have h2 := rd_list b h k (by rw [numB_len]; exact Nat.le_refl _)
  refine ⟨h2.1, h2.2.trans ?_⟩
  have hk' : k = 0 ∨ k = 1 ∨ k = 2 ∨ k = 3 ∨ k = 4 := by omega
  rcases hk' with rfl | rfl | rfl | rfl | rfl
  all_goals simp [numB, vL, p256] at h1 ⊢
  all_goals omega
theorem num_ok {C : List Int} {p k : Nat} {n lo hi : Int} (b : Bool) (hk : k ≤ 4) (h : Sits C p (numB n k)) (h0 : 0 ≤ n) (h1 : n < p256 k) (h2 : lo ≤ n) (h3 : n ≤ hi) : num C ⟨p, b⟩ k lo hi = ⟨p + k, b⟩ := by
  obtain ⟨h4, h5⟩ := rd_num b hk h h0 h1
  unfold num
  rw [h4, h5, if_neg (by omega)]
theorem p256_1 : p256 1 = 256 := by decide
theorem p256_2 : p256 2 = 65536 := by decide
theorem p256_3 : p256 3 = 16777216 := by decide
theorem p256_4 : p256 4 = 4294967296 := by decide
theorem headL_pre (K : List (List Int)) (e : EX) : ∀ m i, i ≤ m → ∃ T, headL K e m = headL K e i ++ T := by
  intro m
  induction m with
  | zero => intro i h; have : i = 0 := by omega
            subst this; exact ⟨[], by simp⟩
  | succ m ih =>
    intro i h
    by_cases h1 : i ≤ m
    · obtain ⟨T, hT⟩ := ih i h1
      simp only [headL]
      exact ⟨_, by rw [hT, List.append_assoc]⟩
    · have : i = m + 1 := by omega
      subst this; exact ⟨[], by simp⟩
theorem withinL_pre (K : List (List Int)) (e : EX) : ∀ m i, i ≤ m → ∃ T, withinL K e m = withinL K e i ++ T := by
  intro m
  induction m with
  | zero => intro i h; have : i = 0 := by omega
            subst this; exact ⟨[], by simp⟩
  | succ m ih =>
    intro i h
    by_cases h1 : i ≤ m
    · obtain ⟨T, hT⟩ := ih i h1
      simp only [withinL]
      exact ⟨_, by rw [hT, List.append_assoc]⟩
    · have : i = m + 1 := by omega
      subst this; exact ⟨[], by simp⟩
theorem item_sits {C : List Int} {p : Nat} {K : List (List Int)} {e : EX} (h : Sits C p (headL K e e.items.length)) {i : Nat} {x : IM} (hx : e.items[i]? = some x) : Sits C (p + (headL K e i).length) (itemB e.kind x (withinL K e i).length) := by
  obtain ⟨T, hT⟩ := headL_pre K e e.items.length (i + 1) (List.getElem?_eq_some_iff.1 hx).1
  rw [hT] at h
  have h2 := h.left
  simp only [headL, hx] at h2
  exact h2.right
theorem expr_sits {C : List Int} {p : Nat} {K : List (List Int)} {e : EX} (h : Sits C p (headL K e e.items.length)) : Sits C p (exprB e) := by
  obtain ⟨T, hT⟩ := headL_pre K e e.items.length 0 (Nat.zero_le _)
  rw [hT] at h
  exact h.left
theorem arm_sits {C : List Int} {p : Nat} {K : List (List Int)} {e : EX} (h : Sits C p (withinL K e e.items.length)) {i : Nat} {x : IM} (hx : e.items[i]? = some x) : Sits C (p + (withinL K e i).length) (atL K x.arm) := by
  obtain ⟨T, hT⟩ := withinL_pre K e e.items.length (i + 1) (List.getElem?_eq_some_iff.1 hx).1
  rw [hT] at h
  have h2 := h.left
  simp only [withinL, hx] at h2
  exact h2.right
theorem inner_sits {C : List Int} {p : Nat} {K : List (List Int)} {e : EX} (h : Sits C p (withinL K e e.items.length)) : Sits C p (atL K e.inner) := by
  obtain ⟨T, hT⟩ := withinL_pre K e e.items.length 0 (Nat.zero_le _)
  rw [hT] at h
  exact h.left
/-- The head of an expression with items. -/
theorem hd_two {C : List Int} {p : Nat} {e : EX} (hk : e.kind = 123 ∨ e.kind = 119 ∨ e.kind = 102 ∨ e.kind = 109 ∨ e.kind = 103) (h0 : 0 < e.items.length) (h1 : e.items.length ≤ 16) (h : Sits C p (exprB e)) :
    nxV C ⟨p, false⟩ = e.kind ∧ nx C ⟨p, false⟩ = ⟨p + 1, false⟩ ∧ cnR C ⟨p + 1, false⟩ = ⟨p + 2, false⟩ ∧ cnN C ⟨p + 1, false⟩ = e.items.length ∧ (exprB e).length = 2 := by
  have he : exprB e = numB e.kind 1 ++ numB (e.items.length : Int) 1 := by
    unfold exprB
    rw [if_neg (by omega), if_neg (by omega)]
  rw [he] at h ⊢
  have h2 := h.left
  have h3 := h.right
  rw [numB_len] at h3
  have a1 := rd_num (b := false) (by decide) h2 (by omega) (by rw [p256_1]; omega)
  have a2 := rd_num (b := false) (by decide) h3 (by omega) (by rw [p256_1]; omega)
  have a3 := num_ok (b := false) (lo := 1) (hi := 16) (by decide) h3 (by omega) (by rw [p256_1]; omega) (by omega) (by omega)
  refine ⟨?_, ?_, a3, ?_, by simp [numB_len]⟩
  · have := a1.2
    simpa [rdN, rdAt, p256] using this
  · exact a1.1
  · unfold cnN
    rw [a2.2]; omega
theorem bestTo_congr {V L V' L' : Nat → Int} {a : Int} : ∀ n, (∀ i, i < n → V i = V' i ∧ L i = L' i) → M.bestTo V L a n = M.bestTo V' L' a n ∧ M.bitsTo V L a n = M.bitsTo V' L' a n ∧ M.depTo V L a n = M.depTo V' L' a n := by
  intro n
  induction n with
  | zero => intro _; exact ⟨rfl, rfl, rfl⟩
  | succ n ih =>
    intro h
    obtain ⟨h1, h2, h3⟩ := ih (fun i hi => h i (by omega))
    obtain ⟨h4, h5⟩ := h n (by omega)
    simp only [M.bestTo, M.bitsTo, M.depTo, M.need, h1, h2, h3, h4, h5]
    exact ⟨trivial, trivial, rfl⟩
theorem best_lt {V L : Nat → Int} {a : Int} : ∀ n, M.bestTo V L a n < n := by
  intro n
  induction n with
  | zero => simp [M.bestTo]
  | succ n ih => simp only [M.bestTo]; split <;> omega
end Go.Proofs.YtaebngpoagjafaaGreat
namespace Go.Proofs.YtaebngpoagjafaaGreat

theorem headL_two (K : List (List Int)) (e : EX) (h : (exprB e).length = 2) : (headL K e 0).length = 2 := h
/-- Servers. -/
theorem sv_read {C : List Int} {p : Nat} {K : List (List Int)} {e : EX} (hk : e.kind = 123 ∨ e.kind = 102) (h2 : (exprB e).length = 2) (hr : ∀ x ∈ e.items, 0 ≤ x.num ∧ x.num ≤ 63) (h : Sits C p (headL K e e.items.length)) :
    ∀ i, i ≤ e.items.length → svR C ⟨p + 2, false⟩ i = ⟨p + (headL K e i).length, false⟩ ∧ svL C ⟨p + 2, false⟩ i = (e.items.map IM.num).take i ∧ ∀ x, e.items[i]? = some x → rdN C (svR C ⟨p + 2, false⟩ i) 1 = x.num := by
  intro i
  have hrd : ∀ i x, e.items[i]? = some x → (rdN C ⟨p + (headL K e i).length, false⟩ 1 = x.num ∧ num C ⟨p + (headL K e i).length, false⟩ 1 0 63 = ⟨p + (headL K e i).length + 1, false⟩ ∧ (headL K e (i + 1)).length = (headL K e i).length + 1) := by
    intro i x hx
    have hs := item_sits h hx
    have hi : itemB e.kind x (withinL K e i).length = numB x.num 1 := by
      unfold itemB
      rw [if_neg (by omega), if_neg (by omega), if_neg (by omega)]
    rw [hi] at hs
    have hx2 := hr x (List.mem_of_getElem? hx)
    refine ⟨(rd_num false (by decide) hs (by omega) (by rw [p256_1]; omega)).2, num_ok false (by decide) hs (by omega) (by rw [p256_1]; omega) (by omega) (by omega), ?_⟩
    simp only [headL, hx, hi, List.length_append, numB_len]
  induction i with
  | zero =>
    intro _
    have e0 : svR C ⟨p + 2, false⟩ 0 = ⟨p + (headL K e 0).length, false⟩ := by rw [headL_two K e h2]; rfl
    refine ⟨e0, by simp [svL], fun x hx => ?_⟩
    rw [e0]; exact (hrd 0 x hx).1
  | succ i ih =>
    intro hi
    obtain ⟨h3, h4, h5⟩ := ih (by omega)
    obtain ⟨x, hx⟩ : ∃ x, e.items[i]? = some x := ⟨e.items[i], List.getElem?_eq_getElem (by omega)⟩
    have h6 := hrd i x hx
    have e1 : svR C ⟨p + 2, false⟩ (i + 1) = ⟨p + (headL K e (i + 1)).length, false⟩ := by
      simp only [svR, h3, h6.2.1, h6.2.2]; rfl
    refine ⟨e1, ?_, fun y hy => by rw [e1]; exact (hrd (i + 1) y hy).1⟩
    simp only [svL, h4, h5 x hx]
    rw [List.take_add_one]
    simp [hx]
/-- Members. -/
theorem me_read {W : RW} {C : List Int} {p : Nat} {K : List (List Int)} {e : EX} (hk : e.kind = 119) (h2 : (exprB e).length = 2) (hr : ∀ x ∈ e.items, 0 ≤ x.num ∧ x.num ≤ 63 ∧ 1 ≤ x.wv ∧ x.wv ≤ 1000) (h : Sits C p (headL K e e.items.length)) :
    ∀ i, i ≤ e.items.length → meR C ⟨p + 2, false⟩ i = ⟨p + (headL K e i).length, false⟩ ∧ meL W C ⟨p + 2, false⟩ i = mbL W (e.items.take i) := by
  intro i
  have hrd : ∀ i x, e.items[i]? = some x → (rdN C ⟨p + (headL K e i).length, false⟩ 1 = x.num ∧ num C ⟨p + (headL K e i).length, false⟩ 1 0 63 = ⟨p + (headL K e i).length + 1, false⟩ ∧ rdN C ⟨p + (headL K e i).length + 1, false⟩ 2 = x.wv ∧ num C ⟨p + (headL K e i).length + 1, false⟩ 2 1 1000 = ⟨p + (headL K e (i + 1)).length, false⟩) := by
    intro i x hx
    have hs := item_sits h hx
    have hi : itemB e.kind x (withinL K e i).length = numB x.num 1 ++ numB x.wv 2 := by
      unfold itemB
      rw [if_neg (by omega), if_neg (by omega), if_pos hk]
    rw [hi] at hs
    have hx2 := hr x (List.mem_of_getElem? hx)
    have hs1 := hs.left
    have hs2 := hs.right
    rw [numB_len] at hs2
    have hl : (headL K e (i + 1)).length = (headL K e i).length + 1 + 2 := by simp only [headL, hx, hi, List.length_append, numB_len]
    refine ⟨(rd_num false (by decide) hs1 (by omega) (by rw [p256_1]; omega)).2, num_ok false (by decide) hs1 (by omega) (by rw [p256_1]; omega) (by omega) (by omega), (rd_num false (by decide) hs2 (by omega) (by rw [p256_2]; omega)).2, ?_⟩
    rw [num_ok false (by decide) hs2 (by omega) (by rw [p256_2]; omega) (by omega) (by omega), hl]
    rfl
  induction i with
  | zero =>
    intro _
    have e0 : meR C ⟨p + 2, false⟩ 0 = ⟨p + (headL K e 0).length, false⟩ := by rw [headL_two K e h2]; rfl
    exact ⟨e0, by simp [meL, mbL]⟩
  | succ i ih =>
    intro hi
    obtain ⟨h3, h4⟩ := ih (by omega)
    obtain ⟨x, hx⟩ : ∃ x, e.items[i]? = some x := ⟨e.items[i], List.getElem?_eq_getElem (by omega)⟩
    obtain ⟨q1, q2, q3, q4⟩ := hrd i x hx
    refine ⟨by simp only [meR, h3, q2, q4], ?_⟩
    have e1 : meS C ⟨p + 2, false⟩ i = x.num := by unfold meS; rw [h3, q1]
    have e2 : meW C ⟨p + 2, false⟩ i = x.wv := by unfold meW; rw [h3, q2, q3]
    simp only [meL, e1, e2, h4]
    rw [List.take_add_one]
    simp only [hx, Option.toList_some]
    unfold mbL
    rw [List.filter_append, List.map_append]
    by_cases hu : upW W x.num = true
    · rw [if_pos hu]; simp [hu]
    · rw [if_neg hu]; simp [hu]
/-- Arms of a map of prefixes. -/
theorem am_read {C : List Int} {p : Nat} {K : List (List Int)} {e : EX} (hk : e.kind = 109) (h2 : (exprB e).length = 2) (hr : ∀ x ∈ e.items, M.isP x.pv x.pl = true) (hw : (withinL K e e.items.length).length ≤ 32000) (h : Sits C p (headL K e e.items.length)) :
    ∀ i, i ≤ e.items.length → amR C ⟨p + 2, false⟩ i = ⟨p + (headL K e i).length, false⟩ ∧ (i < e.items.length → arV C ⟨p + 2, false⟩ i = itV e i ∧ arL C ⟨p + 2, false⟩ i = itL e i ∧ arW C ⟨p + 2, false⟩ i = ((withinL K e i).length : Int)) := by
  intro i
  have hrd : ∀ i x, e.items[i]? = some x → (rdN C ⟨p + (headL K e i).length, false⟩ 4 = x.pv ∧ amV C ⟨p + (headL K e i).length, false⟩ = ⟨p + (headL K e i).length + 4, false⟩ ∧ rdN C ⟨p + (headL K e i).length + 4, false⟩ 1 = x.pl ∧ amL C ⟨p + (headL K e i).length, false⟩ = ⟨p + (headL K e i).length + 5, false⟩ ∧ rdN C ⟨p + (headL K e i).length + 5, false⟩ 2 = ((withinL K e i).length : Int) ∧ num C ⟨p + (headL K e i).length + 5, false⟩ 2 0 32000 = ⟨p + (headL K e (i + 1)).length, false⟩) := by
    intro i x hx
    have hs := item_sits h hx
    have hi : itemB e.kind x (withinL K e i).length = numB x.pv 4 ++ numB x.pl 1 ++ numB (withinL K e i).length 2 := by
      unfold itemB
      rw [if_pos hk]
    rw [hi] at hs
    have hx2 := hr x (List.mem_of_getElem? hx)
    obtain ⟨l0, l1, v0, v1, _⟩ := M.isP_iff.1 hx2
    have hs1 := hs.left.left
    have hs2 := hs.left.right
    have hs3 := hs.right
    rw [List.length_append, numB_len, numB_len] at hs3
    rw [numB_len] at hs2
    have hwi := withinL_le K e e.items.length i (Nat.le_of_lt (List.getElem?_eq_some_iff.1 hx).1)
    have hl : (headL K e (i + 1)).length = (headL K e i).length + 5 + 2 := by simp only [headL, hx, hi, List.length_append, numB_len]
    have a1 := (rd_num false (by decide) hs1 (by omega) (by rw [p256_4]; omega)).2
    have a2 := num_ok false (lo := 0) (hi := 4294967295) (by decide) hs1 (by omega) (by rw [p256_4]; omega) (by omega) (by omega)
    have a3 := (rd_num false (by decide) hs2 (by omega) (by rw [p256_1]; omega)).2
    have a4 := num_ok false (lo := 0) (hi := 32) (by decide) hs2 (by omega) (by rw [p256_1]; omega) (by omega) (by omega)
    have a5 := (rd_num false (by decide) hs3 (by omega) (by rw [p256_2]; omega)).2
    have a6 := num_ok false (lo := 0) (hi := 32000) (by decide) hs3 (by omega) (by rw [p256_2]; omega) (by omega) (by omega)
    have c1 : amV C ⟨p + (headL K e i).length, false⟩ = ⟨p + (headL K e i).length + 4, false⟩ := a2
    refine ⟨a1, c1, a3, ?_, a5, ?_⟩
    · unfold amL
      rw [c1, a1, a3, a4, if_pos hx2]
    · rw [hl]; exact a6
  induction i with
  | zero =>
    intro _
    have e0 : amR C ⟨p + 2, false⟩ 0 = ⟨p + (headL K e 0).length, false⟩ := by rw [headL_two K e h2]; rfl
    refine ⟨e0, fun hi => ?_⟩
    obtain ⟨x, hx⟩ : ∃ x, e.items[0]? = some x := ⟨e.items[0], List.getElem?_eq_getElem hi⟩
    obtain ⟨q1, q2, q3, q4, q5, q6⟩ := hrd 0 x hx
    unfold arV arL arW itV itL
    rw [e0, q1, q2, q3, q4, q5, hx]
    exact ⟨rfl, rfl, rfl⟩
  | succ i ih =>
    intro hi
    obtain ⟨h3, _⟩ := ih (by omega)
    obtain ⟨x, hx⟩ : ∃ x, e.items[i]? = some x := ⟨e.items[i], List.getElem?_eq_getElem (by omega)⟩
    obtain ⟨q1, q2, q3, q4, q5, q6⟩ := hrd i x hx
    have e1 : amR C ⟨p + 2, false⟩ (i + 1) = ⟨p + (headL K e (i + 1)).length, false⟩ := by simp only [amR, h3, q4, q6]
    refine ⟨e1, fun hi' => ?_⟩
    obtain ⟨y, hy⟩ : ∃ y, e.items[i + 1]? = some y := ⟨e.items[i + 1], List.getElem?_eq_getElem hi'⟩
    obtain ⟨r1, r2, r3, r4, r5, r6⟩ := hrd (i + 1) y hy
    unfold arV arL arW itV itL
    rw [e1, r1, r2, r3, r4, r5, hy]
    exact ⟨rfl, rfl, rfl⟩
/-- Arms of a map of regions. -/
theorem rg_read {C : List Int} {p : Nat} {K : List (List Int)} {e : EX} (hk : e.kind = 103) (h2 : (exprB e).length = 2) (hr : ∀ x ∈ e.items, 0 ≤ x.num ∧ x.num ≤ 99) (hw : (withinL K e e.items.length).length ≤ 32000) (h : Sits C p (headL K e e.items.length)) :
    ∀ i, i ≤ e.items.length → rgR C ⟨p + 2, false⟩ i = ⟨p + (headL K e i).length, false⟩ ∧ (∀ x, e.items[i]? = some x → rgN C ⟨p + 2, false⟩ i = x.num ∧ rgW C ⟨p + 2, false⟩ i = ((withinL K e i).length : Int)) := by
  intro i
  have hrd : ∀ i x, e.items[i]? = some x → (rdN C ⟨p + (headL K e i).length, false⟩ 1 = x.num ∧ num C ⟨p + (headL K e i).length, false⟩ 1 0 99 = ⟨p + (headL K e i).length + 1, false⟩ ∧ rdN C ⟨p + (headL K e i).length + 1, false⟩ 2 = ((withinL K e i).length : Int) ∧ num C ⟨p + (headL K e i).length + 1, false⟩ 2 0 32000 = ⟨p + (headL K e (i + 1)).length, false⟩) := by
    intro i x hx
    have hs := item_sits h hx
    have hi : itemB e.kind x (withinL K e i).length = numB x.num 1 ++ numB (withinL K e i).length 2 := by
      unfold itemB
      rw [if_neg (by omega), if_pos hk]
    rw [hi] at hs
    have hx2 := hr x (List.mem_of_getElem? hx)
    have hs1 := hs.left
    have hs2 := hs.right
    rw [numB_len] at hs2
    have hwi := withinL_le K e e.items.length i (Nat.le_of_lt (List.getElem?_eq_some_iff.1 hx).1)
    have hl : (headL K e (i + 1)).length = (headL K e i).length + 1 + 2 := by simp only [headL, hx, hi, List.length_append, numB_len]
    refine ⟨(rd_num false (by decide) hs1 (by omega) (by rw [p256_1]; omega)).2, num_ok false (by decide) hs1 (by omega) (by rw [p256_1]; omega) (by omega) (by omega), (rd_num false (by decide) hs2 (by omega) (by rw [p256_2]; omega)).2, ?_⟩
    rw [num_ok false (by decide) hs2 (by omega) (by rw [p256_2]; omega) (by omega) (by omega), hl]
    rfl
  induction i with
  | zero =>
    intro _
    have e0 : rgR C ⟨p + 2, false⟩ 0 = ⟨p + (headL K e 0).length, false⟩ := by rw [headL_two K e h2]; rfl
    refine ⟨e0, fun x hx => ?_⟩
    obtain ⟨q1, q2, q3, q4⟩ := hrd 0 x hx
    unfold rgN rgW
    rw [e0, q1, q2, q3]
    exact ⟨rfl, rfl⟩
  | succ i ih =>
    intro hi
    obtain ⟨h3, _⟩ := ih (by omega)
    obtain ⟨x, hx⟩ : ∃ x, e.items[i]? = some x := ⟨e.items[i], List.getElem?_eq_getElem (by omega)⟩
    obtain ⟨q1, q2, q3, q4⟩ := hrd i x hx
    have e1 : rgR C ⟨p + 2, false⟩ (i + 1) = ⟨p + (headL K e (i + 1)).length, false⟩ := by simp only [rgR, h3, q2, q4]
    refine ⟨e1, fun y hy => ?_⟩
    obtain ⟨r1, r2, r3, r4⟩ := hrd (i + 1) y hy
    unfold rgN rgW
    rw [e1, r1, r2, r3]
    exact ⟨rfl, rfl⟩
end Go.Proofs.YtaebngpoagjafaaGreat
namespace Go.Proofs.YtaebngpoagjafaaGreat

/-- With less than k steps there is no answer; with k and more this one. -/
def RunsTo (W : RW) (C : List Int) (s : RT) (k : Nat) (R : List Int × Int × Int) : Prop := 1 ≤ k ∧ (∀ f, f < k → runF W C f s = (11, [], 0, 0)) ∧ ∀ f, k ≤ f → runF W C f s = (0, R)
theorem run_last {W : RW} {C : List Int} {s t : RT} (h : stepF W C s = (t, true)) (hb : t.r.b = false) : RunsTo W C s 1 (t.sv, t.ttl, t.sc) := by
  refine ⟨Nat.le_refl _, fun f hf => ?_, fun f hf => ?_⟩
  · have : f = 0 := by omega
    subst this; rfl
  · obtain ⟨f, rfl⟩ : ∃ g, f = g + 1 := ⟨f - 1, by omega⟩
    simp only [runF, h, hb]
    rfl
theorem run_next {W : RW} {C : List Int} {s t : RT} {k : Nat} {R : List Int × Int × Int} (h : stepF W C s = (t, false)) (hb : t.r.b = false) (hr : RunsTo W C t k R) : RunsTo W C s (k + 1) R := by
  obtain ⟨h0, h1, h2⟩ := hr
  refine ⟨by omega, fun f hf => ?_, fun f hf => ?_⟩
  · cases f with
    | zero => rfl
    | succ f =>
      simp only [runF, h, hb]
      exact h1 f (by omega)
  · obtain ⟨f, rfl⟩ : ∃ g, f = g + 1 := ⟨f - 1, by omega⟩
    simp only [runF, h, hb]
    exact h2 f (by omega)
def least (a b : Int) : Int := if a < b then a else b
theorem ch_read {W : RW} {C : List Int} {p : Nat} {K : List (List Int)} {e : EX} (hk : e.kind = 123 ∨ e.kind = 102) (h2 : (exprB e).length = 2) (hr : ∀ x ∈ e.items, 0 ≤ x.num ∧ x.num ≤ 63) (h : Sits C p (headL K e e.items.length)) :
    ∀ n i, i + n = e.items.length → match chG W C ⟨p + 2, false⟩ i n with
      | some k => k < e.items.length ∧ ∃ x, e.items[k]? = some x ∧ (e.items.drop i).find? (fun x => upW W x.num) = some x
      | none => (e.items.drop i).find? (fun x => upW W x.num) = none := by
  intro n
  induction n with
  | zero =>
    intro i hi
    simp only [chG]
    rw [List.drop_eq_nil_of_le (by omega)]; rfl
  | succ n ih =>
    intro i hi
    obtain ⟨x, hx⟩ : ∃ x, e.items[i]? = some x := ⟨e.items[i], List.getElem?_eq_getElem (by omega)⟩
    have h3 := (sv_read hk h2 hr h i (by omega)).2.2 x hx
    have hdr : e.items.drop i = x :: e.items.drop (i + 1) := by
      rw [List.drop_eq_getElem_cons (by omega)]
      have := (List.getElem?_eq_some_iff.1 hx).2
      rw [this]
    simp only [chG, h3]
    rw [hdr]
    by_cases hu : upW W x.num = true
    · rw [if_pos hu]
      exact ⟨by omega, x, hx, by simp [hu]⟩
    · rw [if_neg hu]
      have h4 := ih (i + 1) (by omega)
      simp only [List.find?_cons]
      have hu2 : upW W x.num = false := by simpa using hu
      rw [hu2]
      exact h4
theorem rg_pick {W : RW} {C : List Int} {p : Nat} {K : List (List Int)} {e : EX} (hk : e.kind = 103) (h2 : (exprB e).length = 2) (hr : ∀ x ∈ e.items, 0 ≤ x.num ∧ x.num ≤ 99) (hw : (withinL K e e.items.length).length ≤ 32000) (h : Sits C p (headL K e e.items.length)) (hone : ∀ (a b : Nat) (x y : IM), e.items[a]? = some x → e.items[b]? = some y → x.num = y.num → a = b) :
    (∃ (k : Nat) (x : IM), e.items[k]? = some x ∧ e.items.find? (fun x => x.num == W.reg) = some x ∧ rgT W C ⟨p + 2, false⟩ e.items.length = ((withinL K e k).length : Int)) ∨ (e.items.find? (fun x => x.num == W.reg) = none ∧ rgT W C ⟨p + 2, false⟩ e.items.length = 0) := by
  have hrd := fun i hi => (rg_read hk h2 hr hw h i hi).2
  cases hf : e.items.find? (fun x => x.num == W.reg) with
  | none =>
    right
    refine ⟨rfl, ?_⟩
    have hno : ∀ x ∈ e.items, ¬ x.num = W.reg := fun x hx => by
      have := List.find?_eq_none.1 hf x hx
      simpa using this
    have : ∀ i, i ≤ e.items.length → rgT W C ⟨p + 2, false⟩ i = 0 := by
      intro i
      induction i with
      | zero => intro _; rfl
      | succ i ih =>
        intro hi
        obtain ⟨x, hx⟩ : ∃ x, e.items[i]? = some x := ⟨e.items[i], List.getElem?_eq_getElem (by omega)⟩
        have h3 := hrd i (by omega) x hx
        simp only [rgT, h3.1]
        rw [if_neg (hno x (List.mem_of_getElem? hx))]
        exact ih (by omega)
    exact this _ (Nat.le_refl _)
  | some x =>
    left
    have hm := List.mem_of_find?_eq_some hf
    have hreg : x.num = W.reg := by have := List.find?_some hf; simpa using this
    obtain ⟨k, hk2⟩ := List.getElem?_of_mem hm
    refine ⟨k, x, hk2, rfl, ?_⟩
    have hkl : k < e.items.length := (List.getElem?_eq_some_iff.1 hk2).1
    have : ∀ i, i ≤ e.items.length → rgT W C ⟨p + 2, false⟩ i = if k < i then ((withinL K e k).length : Int) else 0 := by
      intro i
      induction i with
      | zero => intro _; simp [rgT]
      | succ i ih =>
        intro hi
        obtain ⟨y, hy⟩ : ∃ y, e.items[i]? = some y := ⟨e.items[i], List.getElem?_eq_getElem (by omega)⟩
        have h3 := hrd i (by omega) y hy
        simp only [rgT, h3.1]
        by_cases hyr : y.num = W.reg
        · have : i = k := hone i k y x hy hk2 (by rw [hyr, hreg])
          subst this
          rw [if_pos hyr, if_pos (by omega), h3.2]
        · rw [if_neg hyr, ih (by omega)]
          have : i ≠ k := fun e' => by subst e'; rw [hk2] at hy; cases hy; exact hyr hreg
          by_cases h4 : k < i
          · rw [if_pos h4, if_pos (by omega)]
          · rw [if_neg h4, if_neg (by omega)]
    rw [this _ (Nat.le_refl _), if_pos hkl]
theorem run_enc {W : RW} {E : List EX} {j : Nat} (h : GD E j) : szR E (j + 1) ≤ 1000 → ∀ (C : List Int) (p : Nat) (ttl sc : Int), Sits C p (encN E (j + 1)) → ttl ≤ 86400 → 0 ≤ sc →
    ∃ k, k ≤ (encN E (j + 1)).length ∧ RunsTo W C ⟨⟨p, false⟩, [], ttl, sc⟩ k ((mnN W E (j + 1)).sv, least (mnN W E (j + 1)).ttl ttl, nar (mnN W E (j + 1)).sc sc) := by
  induction h with
  | @servers j e he hk h0 h16 hit hin =>
    intro hsz C p ttl sc hS ht hs
    have hm : mnN W E (j + 1) = ⟨e.items.map IM.num, 86400, 0⟩ := by simp only [mnN, he, mnE]; rw [if_pos hk]
    have hen : encN E (j + 1) = headL (encK E j) e e.items.length ++ withinL (encK E j) e e.items.length := by simp only [encN, he, encE]; rw [if_neg (by omega)]
    rw [hen] at hS ⊢
    obtain ⟨a1, a2, a3, a4, a5⟩ := hd_two (.inl hk) h0 h16 (expr_sits hS.left)
    have hrd := sv_read (K := encK E j) (.inl hk) a5 (fun x hx => ⟨(hit x hx).1, (hit x hx).2.1⟩) hS.left e.items.length (Nat.le_refl _)
    have hst : stepF W C ⟨⟨p, false⟩, [], ttl, sc⟩ = (⟨⟨p + (headL (encK E j) e e.items.length).length, false⟩, e.items.map IM.num, ttl, sc⟩, true) := by
      simp only [stepF, a1, hk, a2, stServers, a3, a4, hrd.1, hrd.2.1]
      simp [List.take_of_length_le]
    have hl := headL_len (encK E j) e e.items.length
    refine ⟨1, by rw [List.length_append]; omega, ?_⟩
    have h9 := run_last hst rfl
    rw [hm]
    have e1 : least 86400 ttl = ttl := by unfold least; rw [if_neg (by omega)]
    have e2 : nar 0 sc = sc := by unfold nar; rw [if_neg (by omega)]
    simp only [e1, e2]
    exact h9
  | @alias j e he hk h0 h15 hit hin =>
    intro hsz C p ttl sc hS ht hs
    have hm : mnN W E (j + 1) = ⟨(W.al[e.nv.toNat]?).getD [], 86400, 0⟩ := by simp only [mnN, he, mnE]; rw [if_neg (by omega), if_pos hk]
    have hen : encN E (j + 1) = numB e.kind 1 ++ numB e.nv 1 ++ atL (encK E j) e.inner := by
      simp only [encN, he, encE]
      rw [if_neg (by omega), hit]
      simp only [List.length_nil, headL, withinL, exprB]
      rw [if_neg (by omega), if_pos hk]
    rw [hen] at hS ⊢
    have s1 := hS.left.left
    have s2 := hS.left.right
    rw [numB_len] at s2
    have b1 := rd_num (b := false) (by decide) s1 (by omega) (by rw [p256_1]; omega)
    have b2 := (rd_num (b := false) (by decide) s2 h0 (by rw [p256_1]; omega)).2
    have b3 := num_ok (b := false) (lo := 0) (hi := 15) (by decide) s2 h0 (by rw [p256_1]; omega) h0 h15
    have a1 : nxV C ⟨p, false⟩ = e.kind := by have := b1.2; simpa [rdN, rdAt, p256] using this
    have a2 : nx C ⟨p, false⟩ = ⟨p + 1, false⟩ := b1.1
    have hst : stepF W C ⟨⟨p, false⟩, [], ttl, sc⟩ = (⟨⟨p + 1 + 1, false⟩, (W.al[e.nv.toNat]?).getD [], ttl, sc⟩, true) := by
      simp only [stepF, a1, hk, a2, stAlias, b2, b3]
      simp
    refine ⟨1, by simp [List.length_append, numB_len], ?_⟩
    have h9 := run_last hst rfl
    rw [hm]
    have e1 : least 86400 ttl = ttl := by unfold least; rw [if_neg (by omega)]
    have e2 : nar 0 sc = sc := by unfold nar; rw [if_neg (by omega)]
    simp only [e1, e2]
    exact h9
  | @name j i e he hk hit hin hij _ ih =>
    intro hsz C p ttl sc hS ht hs
    have hp := sz_parts he hsz
    have hszi : szR E (i + 1) ≤ 1000 := by
      have := hp.2.1
      rw [hin, atF_sz, if_neg (by omega), if_pos (by omega), Int.toNat_natCast] at this
      exact this
    have hm : mnN W E (j + 1) = mnN W E (i + 1) := by simp only [mnN, he, mnE]; rw [if_neg (by omega), if_neg (by omega), if_pos hk, hin, atM_mn W E hij]; rfl
    have hen : encN E (j + 1) = encN E (i + 1) := by simp only [encN, he, encE]; rw [if_pos hk, hin, atL_en E hij]; rfl
    rw [hm, hen]
    rw [hen] at hS
    exact ih hszi C p ttl sc hS ht hs
  | @ttl j i e he hk h1 h2 hit hin hij _ ih =>
    intro hsz C p ttl sc hS ht hs
    have hp := sz_parts he hsz
    have hszi : szR E (i + 1) ≤ 1000 := by
      have := hp.2.1
      rw [hin, atF_sz, if_neg (by omega), if_pos (by omega), Int.toNat_natCast] at this
      exact this
    have hm : mnN W E (j + 1) = ⟨(mnN W E (i + 1)).sv, if e.nv < (mnN W E (i + 1)).ttl then e.nv else (mnN W E (i + 1)).ttl, (mnN W E (i + 1)).sc⟩ := by
      rw [← atM_mn W E hij, ← hin]
      simp only [mnN, he, mnE]; rw [if_neg (by omega), if_neg (by omega), if_neg (by omega), if_pos hk]
    have hen : encN E (j + 1) = numB e.kind 1 ++ numB e.nv 3 ++ encN E (i + 1) := by
      rw [← atL_en E hij, ← hin]
      simp only [encN, he, encE]
      rw [if_neg (by omega), hit]
      simp only [List.length_nil, headL, withinL, exprB]
      rw [if_pos hk]
    rw [hen] at hS ⊢
    have s1 := hS.left.left
    have s2 := hS.left.right
    have s3 := hS.right
    rw [numB_len] at s2
    rw [List.length_append, numB_len, numB_len] at s3
    have b1 := rd_num (b := false) (by decide) s1 (by omega) (by rw [p256_1]; omega)
    have b2 := (rd_num (b := false) (by decide) s2 (by omega) (by rw [p256_3]; omega)).2
    have b3 := num_ok (b := false) (lo := 1) (hi := 86400) (by decide) s2 (by omega) (by rw [p256_3]; omega) h1 h2
    have a1 : nxV C ⟨p, false⟩ = e.kind := by have := b1.2; simpa [rdN, rdAt, p256] using this
    have a2 : nx C ⟨p, false⟩ = ⟨p + 1, false⟩ := b1.1
    have hst : stepF W C ⟨⟨p, false⟩, [], ttl, sc⟩ = (⟨⟨p + (1 + 3), false⟩, [], if e.nv < ttl then e.nv else ttl, sc⟩, false) := by
      simp only [stepF, a1, hk, a2, stSeconds, b2, b3]
      simp [Nat.add_assoc]
    obtain ⟨k, hk1, hk2⟩ := ih hszi C (p + (1 + 3)) (if e.nv < ttl then e.nv else ttl) sc s3 (by split <;> omega) hs
    refine ⟨k + 1, by simp only [List.length_append, numB_len]; omega, ?_⟩
    have h9 := run_next hst rfl hk2
    rw [hm]
    have e1 : least (mnN W E (i + 1)).ttl (if e.nv < ttl then e.nv else ttl) = least (if e.nv < (mnN W E (i + 1)).ttl then e.nv else (mnN W E (i + 1)).ttl) ttl := by
      unfold least
      repeat' split
      all_goals omega
    rw [e1] at h9
    exact h9
  | @list j i e he hk h0 h16 hit hin hij _ ih =>
    intro hsz C p ttl sc hS ht hs
    have hp := sz_parts he hsz
    have hszi : szR E (i + 1) ≤ 1000 := by
      have := hp.2.1
      rw [hin, atF_sz, if_neg (by omega), if_pos (by omega), Int.toNat_natCast] at this
      exact this
    have hen : encN E (j + 1) = headL (encK E j) e e.items.length ++ withinL (encK E j) e e.items.length := by simp only [encN, he, encE]; rw [if_neg (by omega)]
    rw [hen] at hS ⊢
    have s3 := inner_sits hS.right
    rw [hin, atL_en E hij] at s3
    have hwl := withinL_le (encK E j) e e.items.length 0 (Nat.zero_le _)
    simp only [withinL] at hwl
    rw [hin, atL_en E hij] at hwl
    obtain ⟨a1, a2, a3, a4, a5⟩ := hd_two (C := C) (p := p) (by omega) h0 h16 (expr_sits hS.left)
    have hl := headL_len (encK E j) e e.items.length
    have e1 : least 86400 ttl = ttl := by unfold least; rw [if_neg (by omega)]
    have e2 : nar 0 sc = sc := by unfold nar; rw [if_neg (by omega)]
    obtain ⟨k, hk1, hk2⟩ := ih hszi C (p + (headL (encK E j) e e.items.length).length) ttl sc s3 ht hs
    rcases hk with hk | hk
    · have hrd := me_read (W := W) (K := encK E j) hk a5 (fun x hx => ⟨(hit x hx).1, (hit x hx).2.1, (hit x hx).2.2.2 hk⟩) hS.left e.items.length (Nat.le_refl _)
      rw [List.take_of_length_le (Nat.le_refl _)] at hrd
      have hm : mnN W E (j + 1) = (match poolM W e.items with | some x => ⟨[x], 86400, 0⟩ | none => mnN W E (i + 1)) := by
        rw [← atM_mn W E hij, ← hin]
        simp only [mnN, he, mnE]; rw [if_neg (by omega), if_neg (by omega), if_neg (by omega), if_neg (by omega), if_pos hk] <;> rfl
      have hst : stepF W C ⟨⟨p, false⟩, [], ttl, sc⟩ = (match poolM W e.items with | some x => (⟨⟨p + (headL (encK E j) e e.items.length).length, false⟩, [x], ttl, sc⟩, true) | none => (⟨⟨p + (headL (encK E j) e e.items.length).length, false⟩, [], ttl, sc⟩, false)) := by
        simp only [stepF, a1, hk, a2, stPool, a3, a4, hrd.1, hrd.2, poolM]
        simp only [show ((119 : Int) = 123) = False from by simp, if_false, if_true]
        by_cases h8 : suL (mbL W e.items) ≤ 0
        · rw [if_pos h8, if_pos h8]
        · rw [if_neg h8, if_neg h8]
          cases pkL (mbL W e.items) (W.draw % suL (mbL W e.items)) <;> simp
      cases hq : poolM W e.items with
      | some x =>
        rw [hq] at hst hm
        refine ⟨1, by rw [List.length_append]; omega, ?_⟩
        have h9 := run_last hst rfl
        rw [hm]
        simp only [e1, e2]
        exact h9
      | none =>
        rw [hq] at hst hm
        refine ⟨k + 1, by rw [List.length_append]; omega, ?_⟩
        rw [hm]
        exact run_next hst rfl hk2
    · have hrg : ∀ x ∈ e.items, 0 ≤ x.num ∧ x.num ≤ 63 := fun x hx => ⟨(hit x hx).1, (hit x hx).2.1⟩
      have hrd := sv_read (K := encK E j) (.inr hk) a5 hrg hS.left
      have hch := ch_read (W := W) (K := encK E j) (.inr hk) a5 hrg hS.left e.items.length 0 (by omega)
      rw [List.drop_zero] at hch
      have hm : mnN W E (j + 1) = (match chainM W e.items with | some x => ⟨[x], 86400, 0⟩ | none => mnN W E (i + 1)) := by
        rw [← atM_mn W E hij, ← hin]
        simp only [mnN, he, mnE]; rw [if_neg (by omega), if_neg (by omega), if_neg (by omega), if_neg (by omega), if_neg (by omega), if_pos hk] <;> rfl
      cases hq : chG W C ⟨p + 2, false⟩ 0 e.items.length with
      | some n =>
        rw [hq] at hch
        obtain ⟨hn, x, hx, hfx⟩ := hch
        have h6 := hrd n (by omega)
        have h7 := hrd (n + 1) (by omega)
        have hst : stepF W C ⟨⟨p, false⟩, [], ttl, sc⟩ = (⟨⟨p + (headL (encK E j) e (n + 1)).length, false⟩, [x.num], ttl, sc⟩, true) := by
          simp only [stepF, a1, hk, a2, stChain, a3, a4, hq, h7.1, h6.2.2 x hx]
          simp
        have hcm : chainM W e.items = some x.num := by unfold chainM; rw [hfx]; rfl
        rw [hcm] at hm
        refine ⟨1, by rw [List.length_append]; omega, ?_⟩
        have h9 := run_last hst rfl
        rw [hm]
        simp only [e1, e2]
        exact h9
      | none =>
        rw [hq] at hch
        have h7 := hrd e.items.length (Nat.le_refl _)
        have hst : stepF W C ⟨⟨p, false⟩, [], ttl, sc⟩ = (⟨⟨p + (headL (encK E j) e e.items.length).length, false⟩, [], ttl, sc⟩, false) := by
          simp only [stepF, a1, hk, a2, stChain, a3, a4, hq, h7.1]
          simp
        have hcm : chainM W e.items = none := by unfold chainM; rw [hch]; rfl
        rw [hcm] at hm
        refine ⟨k + 1, by rw [List.length_append]; omega, ?_⟩
        rw [hm]
        exact run_next hst rfl hk2
  | @maps j i e an he hk h0 h16 hit h103 h109 harm _ hin hij _ iha ih =>
    intro hsz C p ttl sc hS ht hs
    have hp := sz_parts he hsz
    have hszi : szR E (i + 1) ≤ 1000 := by
      have := hp.2.1
      rw [hin, atF_sz, if_neg (by omega), if_pos (by omega), Int.toNat_natCast] at this
      exact this
    have hsza : ∀ (n : Nat) (x : IM), e.items[n]? = some x → szR E (an n + 1) ≤ 1000 := fun n x hx => by
      have := hp.2.2.1 n x hx
      have h8 := harm n x hx
      rw [h8.1, atF_sz, if_neg (by omega), if_pos (by omega), Int.toNat_natCast] at this
      exact this
    have hle := enc_le E (j + 1) hsz
    have hen : encN E (j + 1) = headL (encK E j) e e.items.length ++ withinL (encK E j) e e.items.length := by simp only [encN, he, encE]; rw [if_neg (by omega)]
    rw [hen] at hS hle ⊢
    rw [List.length_append] at hle
    have hw : (withinL (encK E j) e e.items.length).length ≤ 32000 := by omega
    have s3 := inner_sits hS.right
    rw [hin, atL_en E hij] at s3
    have hwl := withinL_le (encK E j) e e.items.length 0 (Nat.zero_le _)
    simp only [withinL] at hwl
    rw [hin, atL_en E hij] at hwl
    obtain ⟨a1, a2, a3, a4, a5⟩ := hd_two (C := C) (p := p) (by omega) h0 h16 (expr_sits hS.left)
    have hl := headL_len (encK E j) e e.items.length
    have hnn : ∀ a b c : Int, nar a (nar b c) = nar (nar b a) c := by
      intro a b c
      unfold nar
      repeat' split
      all_goals omega
    have hnp : ∀ d : Int, 0 ≤ nar d sc := by intro d; unfold nar; split <;> omega
    -- the arm number n
    have hgo : ∀ (n : Nat) (x : IM) (d : Int), e.items[n]? = some x → ∃ k, k + 1 ≤ (headL (encK E j) e e.items.length).length + (withinL (encK E j) e e.items.length).length ∧ RunsTo W C ⟨⟨p + (headL (encK E j) e e.items.length).length + (withinL (encK E j) e n).length, false⟩, [], ttl, nar d sc⟩ k ((mnN W E (an n + 1)).sv, least (mnN W E (an n + 1)).ttl ttl, nar (nar d (mnN W E (an n + 1)).sc) sc) := by
      intro n x d hx
      have hnl : n < e.items.length := (List.getElem?_eq_some_iff.1 hx).1
      have h8 := harm n x hx
      have s4 := arm_sits hS.right hx
      rw [h8.1, atL_en E h8.2] at s4
      obtain ⟨k, hk1, hk2⟩ := iha n hnl (hsza n x hx) C _ ttl (nar d sc) s4 ht (hnp d)
      rw [hnn] at hk2
      have hwn := withinL_le (encK E j) e e.items.length (n + 1) hnl
      simp only [withinL, hx, List.length_append] at hwn
      rw [h8.1, atL_en E h8.2] at hwn
      exact ⟨k, by omega, hk2⟩
    have hgi : ∀ d : Int, ∃ k, k + 1 ≤ (headL (encK E j) e e.items.length).length + (withinL (encK E j) e e.items.length).length ∧ RunsTo W C ⟨⟨p + (headL (encK E j) e e.items.length).length, false⟩, [], ttl, nar d sc⟩ k ((mnN W E (i + 1)).sv, least (mnN W E (i + 1)).ttl ttl, nar (nar d (mnN W E (i + 1)).sc) sc) := by
      intro d
      obtain ⟨k, hk1, hk2⟩ := ih hszi C _ ttl (nar d sc) s3 ht (hnp d)
      rw [hnn] at hk2
      exact ⟨k, by omega, hk2⟩
    rcases hk with hk | hk
    · have hrd := am_read (K := encK E j) hk a5 (fun x hx => (hit x hx).1 hk) hw hS.left
      have hcg := bestTo_congr (a := W.addr) e.items.length (fun n hn => ⟨((hrd n (by omega)).2 hn).1, ((hrd n (by omega)).2 hn).2.1⟩)
      have hm : mnN W E (j + 1) = ⟨(atM (mnK W E j) (prefM W e)).sv, (atM (mnK W E j) (prefM W e)).ttl, nar (M.depTo (itV e) (itL e) W.addr e.items.length) (atM (mnK W E j) (prefM W e)).sc⟩ := by
        simp only [mnN, he, mnE]; rw [if_neg (by omega), if_neg (by omega), if_neg (by omega), if_neg (by omega), if_neg (by omega), if_neg (by omega), if_pos hk]
      have hst : stepF W C ⟨⟨p, false⟩, [], ttl, sc⟩ = (⟨⟨p + (headL (encK E j) e e.items.length).length + (if M.bestTo (itV e) (itL e) W.addr e.items.length < 0 then 0 else (arW C ⟨p + 2, false⟩ (M.bestTo (itV e) (itL e) W.addr e.items.length).toNat).toNat), false⟩, [], ttl, nar (M.depTo (itV e) (itL e) W.addr e.items.length) sc⟩, false) := by
        simp only [stepF, a1, hk, a2, stPrefixes, a3, a4, (hrd e.items.length (Nat.le_refl _)).1, hcg.1, hcg.2.2]
        simp
      have hbl := best_lt (V := itV e) (L := itL e) (a := W.addr) e.items.length
      by_cases hb : M.bestTo (itV e) (itL e) W.addr e.items.length < 0
      · rw [if_pos hb] at hst
        have hpm : prefM W e = (i : Int) := by unfold prefM; rw [if_pos hb, hin]
        rw [hpm, atM_mn W E hij] at hm
        obtain ⟨k, hk1, hk2⟩ := hgi (M.depTo (itV e) (itL e) W.addr e.items.length)
        refine ⟨k + 1, by rw [List.length_append]; exact hk1, ?_⟩
        rw [hm]
        exact run_next hst rfl hk2
      · rw [if_neg hb] at hst
        obtain ⟨n, hn⟩ : ∃ n : Nat, M.bestTo (itV e) (itL e) W.addr e.items.length = n := ⟨(M.bestTo (itV e) (itL e) W.addr e.items.length).toNat, by omega⟩
        rw [hn, Int.toNat_natCast] at hst
        have hnl : n < e.items.length := by omega
        obtain ⟨x, hx⟩ : ∃ x, e.items[n]? = some x := ⟨e.items[n], List.getElem?_eq_getElem hnl⟩
        have h8 := harm n x hx
        have hpm : prefM W e = (an n : Int) := by unfold prefM; rw [if_neg hb, hn, Int.toNat_natCast, hx]; exact h8.1
        rw [hpm, atM_mn W E h8.2] at hm
        rw [((hrd n (by omega)).2 hnl).2.2, Int.toNat_natCast] at hst
        obtain ⟨k, hk1, hk2⟩ := hgo n x (M.depTo (itV e) (itL e) W.addr e.items.length) hx
        refine ⟨k + 1, by rw [List.length_append]; exact hk1, ?_⟩
        rw [hm]
        exact run_next hst rfl hk2
    · have hrg : ∀ x ∈ e.items, 0 ≤ x.num ∧ x.num ≤ 99 := fun x hx => (hit x hx).2 hk
      have hrd := rg_read (K := encK E j) hk a5 hrg hw hS.left
      have hm : mnN W E (j + 1) = ⟨(atM (mnK W E j) (regM W e)).sv, (atM (mnK W E j) (regM W e)).ttl, nar W.dep (atM (mnK W E j) (regM W e)).sc⟩ := by
        simp only [mnN, he, mnE]; rw [if_neg (by omega), if_neg (by omega), if_neg (by omega), if_neg (by omega), if_neg (by omega), if_neg (by omega), if_neg (by omega)]
      have hst : stepF W C ⟨⟨p, false⟩, [], ttl, sc⟩ = (⟨⟨p + (headL (encK E j) e e.items.length).length + (rgT W C ⟨p + 2, false⟩ e.items.length).toNat, false⟩, [], ttl, nar W.dep sc⟩, false) := by
        simp only [stepF, a1, hk, a2, stRegions, a3, a4, (hrd e.items.length (Nat.le_refl _)).1]
        simp
      rcases rg_pick (W := W) (K := encK E j) hk a5 hrg hw hS.left (h103 hk) with ⟨n, x, hx, hf, hway⟩ | ⟨hf, hway⟩
      · have h8 := harm n x hx
        have hpm : regM W e = (an n : Int) := by unfold regM; rw [hf]; exact h8.1
        rw [hpm, atM_mn W E h8.2] at hm
        rw [hway, Int.toNat_natCast] at hst
        obtain ⟨k, hk1, hk2⟩ := hgo n x W.dep hx
        refine ⟨k + 1, by rw [List.length_append]; exact hk1, ?_⟩
        rw [hm]
        exact run_next hst rfl hk2
      · have hpm : regM W e = (i : Int) := by unfold regM; rw [hf]; exact hin
        rw [hpm, atM_mn W E hij] at hm
        rw [hway] at hst
        obtain ⟨k, hk1, hk2⟩ := hgi W.dep
        refine ⟨k + 1, by rw [List.length_append]; exact hk1, ?_⟩
        rw [hm]
        exact run_next hst rfl hk2
end Go.Proofs.YtaebngpoagjafaaGreat
namespace Go.Proofs.YtaebngpoagjafaaGreat
open Go.RowKit

theorem sgL_plain {s : ByteArray} {p : Nat} : ∀ n, (∀ i, p ≤ i → i < p + n → T.bl (T.ch s i) = false) → sgL s p n = (List.range n).map (fun i => T.ch s (p + i)) := by
  intro n
  induction n with
  | zero => intro _; rfl
  | succ n ih =>
    intro h
    simp only [sgL]
    rw [ih (fun i h1 h2 => h i h1 (by omega)), if_neg (by rw [h (p + n) (by omega) (by omega)]; decide), List.range_succ, List.map_append]
    rfl
/-- The text of a number, and its value. -/
structure TNum (x : List Int) (v : Int) : Prop where
  dig : ∀ c ∈ x, 48 ≤ c ∧ c ≤ 57
  ne : x ≠ []
  le : x.length ≤ 9
  val : T.val (strOfNums x) x.length = v
/-- The text of bits, and the prefix that they stand for. -/
structure TBit (x : List Int) (v l : Int) : Prop where
  dig : ∀ c ∈ x, c = 48 ∨ c = 49
  ne : x ≠ []
  le : x.length ≤ 32
  len : l = (x.length : Int)
  val : v = bv (strOfNums x) 0 x.length * 2 ^ (32 - x.length)
theorem TNum.pln {x : List Int} {v : Int} (h : TNum x v) : Pln x := fun c hc => .inl (h.dig c hc)
theorem TBit.pln {x : List Int} {v l : Int} (h : TBit x v l) : Pln x := fun c hc => .inl (by have := h.dig c hc; omega)
theorem num_txt {s : ByteArray} {k : Nat} {b : Bool} (hk : k ≤ s.size) (h : numX s k b = false) : b = false ∧ T.sk s k < numK s k b ∧ TNum (bt s k (numK s k b)) (numV s k b) := by
  have hg := num_good hk h
  obtain ⟨rfl, hlt, hp⟩ := hg
  have e1 : numK s k false = nmF s false (nmL s (T.sk s k) false) (T.sk s k) := by unfold numK nmE; rw [skip_f]
  have e2 : numV s k false = vl s (T.sk s k) (numK s k false - T.sk s k) := by unfold numV; rw [skip_f]
  have hd := nmF_digs s (nmL s (T.sk s k) false) (T.sk s k)
  have hu := nmF_up s false (nmL s (T.sk s k) false) (T.sk s k)
  have h9 : nmL s (T.sk s k) false ≤ 9 := by unfold nmL; split <;> omega
  rw [← e1] at hd hu
  rw [e2, bt_from (by omega)]
  generalize numK s k false = e at *
  generalize T.sk s k = p at *
  have hdig : ∀ i, p ≤ i → i < p + (e - p) → 48 ≤ T.ch s i ∧ T.ch s i ≤ 57 := fun i h1 h2 => (dig_iff _).1 (hd i h1 (by omega))
  have hx : bt s p e = (List.range (e - p)).map (fun i => T.ch s (p + i)) := sgL_plain (e - p) (fun i h1 h2 => by have := hdig i h1 h2; unfold T.bl; simp; omega)
  have hlen : (bt s p e).length = e - p := by rw [hx]; simp
  have hmem : ∀ c ∈ bt s p e, 48 ≤ c ∧ c ≤ 57 := fun c hc => by
    rw [hx] at hc
    simp only [List.mem_map, List.mem_range] at hc
    obtain ⟨i, hi, rfl⟩ := hc
    exact hdig _ (by omega) (by omega)
  have hbyt : Byt (bt s p e) := fun c hc => by have := hmem c hc; omega
  refine ⟨rfl, hlt, ⟨hmem, fun hn => by rw [hn] at hlen; simp at hlen; omega, by omega, ?_⟩⟩
  rw [hlen]
  have key : ∀ j, j ≤ e - p → T.val (strOfNums (bt s p e)) j = vl s p j := by
    intro j
    induction j with
    | zero => intro _; rfl
    | succ j ih =>
      intro hj
      simp only [T.val, vl]
      rw [ih (by omega), str_ch hbyt, hx, List.getElem?_map, List.getElem?_range (by omega)]
      rfl
  exact key _ (Nat.le_refl _)
theorem bits_txt {s : ByteArray} {k : Nat} {b : Bool} (hk : k ≤ s.size) (h : btX s k b = false) : b = false ∧ T.sk s k < btK s k b ∧ TBit (bt s k (btK s k b)) (btV s k b) (btL s k b) := by
  have hg := bits_good hk h
  obtain ⟨rfl, hlt, hp⟩ := hg
  have e1 : btK s k false = btF s false 32 (T.sk s k) := by unfold btK; rw [skip_f]
  have e2 : btL s k false = btK s k false - T.sk s k := by unfold btL; rw [skip_f]
  have e3 : btV s k false = bv s (T.sk s k) (btL s k false) * 2 ^ (32 - btL s k false) := by unfold btV; rw [skip_f]
  have hd := btF_bits s 32 (T.sk s k)
  have hu := (btF_bd s false 32 (T.sk s k) (T.sk_le hk)).2.2
  rw [← e1] at hd hu
  rw [e3, e2, bt_from (by omega)]
  generalize btK s k false = e at *
  generalize T.sk s k = p at *
  have hdig : ∀ i, p ≤ i → i < p + (e - p) → T.ch s i = 48 ∨ T.ch s i = 49 := fun i h1 h2 => by
    have := hd i h1 (by omega)
    simpa [bit] using this
  have hx : bt s p e = (List.range (e - p)).map (fun i => T.ch s (p + i)) := sgL_plain (e - p) (fun i h1 h2 => by have := hdig i h1 h2; unfold T.bl; simp; omega)
  have hlen : (bt s p e).length = e - p := by rw [hx]; simp
  have hmem : ∀ c ∈ bt s p e, c = 48 ∨ c = 49 := fun c hc => by
    rw [hx] at hc
    simp only [List.mem_map, List.mem_range] at hc
    obtain ⟨i, hi, rfl⟩ := hc
    exact hdig _ (by omega) (by omega)
  have hbyt : Byt (bt s p e) := fun c hc => by have := hmem c hc; omega
  refine ⟨rfl, hlt, ⟨hmem, fun hn => by rw [hn] at hlen; simp at hlen; omega, by omega, by rw [hlen], ?_⟩⟩
  rw [hlen]
  have key : ∀ j, j ≤ e - p → bv (strOfNums (bt s p e)) 0 j = bv s p j := by
    intro j
    induction j with
    | zero => intro _; rfl
    | succ j ih =>
      intro hj
      simp only [bv]
      rw [ih (by omega), str_ch hbyt, hx, List.getElem?_map, List.getElem?_range (by omega), Nat.zero_add]
      rfl
  rw [key _ (Nat.le_refl _)]
end Go.Proofs.YtaebngpoagjafaaGreat
namespace Go.Proofs.YtaebngpoagjafaaGreat
open Go.RowKit

/-- The text of the first rule of this name. -/
def ruX (c : Int) : List (Int × List Int) → Option (List Int)
  | [] => none
  | y :: l => if y.1 = c then some y.2 else ruX c l
theorem ruX_app {c : Int} {t : List Int} (Z : List (Int × List Int)) : ∀ (Y : List (Int × List Int)), ruX c Y = some t → ruX c (Y ++ Z) = some t := by
  intro Y
  induction Y with
  | nil => intro h; cases h
  | cons y l ih =>
    intro h
    simp only [List.cons_append, ruX] at h ⊢
    split
    · next hh => rw [if_pos hh] at h; exact h
    · next hh => rw [if_neg hh] at h; exact ih h
/-- Texts of items without an arm, one by one. -/
def TIt (k : Int) (x : List Int) (i : IM) : Prop := i.arm = -1 ∧ if k = 119 then ∃ a b, x = a ++ [42] ++ b ∧ TNum a i.num ∧ TNum b i.wv else TNum x i.num
/-- The key of an arm. -/
def TKey (k : Int) (x : List Int) (i : IM) : Prop := if k = 109 then TBit x i.pv i.pl else TNum x i.num
theorem TIt.pln {k : Int} {x : List Int} {i : IM} (h : TIt k x i) : Pln x := by
  have := h.2
  split at this
  · obtain ⟨a, b, rfl, h1, h2⟩ := this
    exact (h1.pln.app (fun z hz => by simp at hz; exact .inr hz)).app h2.pln
  · exact this.pln
theorem TKey.pln {k : Int} {x : List Int} {i : IM} (h : TKey k x i) : Pln x := by
  unfold TKey at h
  split at h
  · exact h.pln
  · exact h.pln
/-- This text is that of expression j; what other rules are stands in Y. -/
inductive TX (E : List EX) (Y : List (Int × List Int)) : List Int → Nat → Prop where
  | servers {j : Nat} {e : EX} {l : List (List Int)} : E[j]? = some e → e.kind = 123 → l ≠ [] → l.length = e.items.length → (∀ (i : Nat) (x : List Int) (it : IM), l[i]? = some x → e.items[i]? = some it → TIt 123 x it) → TX E Y ([123] ++ joi 44 l ++ [125]) j
  | alias {j : Nat} {e : EX} {x : List Int} : E[j]? = some e → e.kind = 64 → TNum x e.nv → TX E Y (64 :: x) j
  | name {j i : Nat} {e : EX} {c : Int} {t : List Int} : E[j]? = some e → e.kind = 61 → e.nv = c → (97 ≤ c ∧ c ≤ 122) → ruX c Y = some t → e.inner = (i : Int) → i < j → TX E Y t i → TX E Y [61, c] j
  | ttl {j i : Nat} {e : EX} {x o : List Int} : E[j]? = some e → e.kind = 116 → TNum x e.nv → e.inner = (i : Int) → i < j → TX E Y o i → TX E Y ([116] ++ ([40] ++ joi 44 [x, o] ++ [41])) j
  | list {j i : Nat} {e : EX} {c : Int} {l : List (List Int)} {o : List Int} : E[j]? = some e → e.kind = c → (c = 119 ∨ c = 102) → l ≠ [] → l.length = e.items.length → (∀ (i : Nat) (x : List Int) (it : IM), l[i]? = some x → e.items[i]? = some it → TIt c x it) → e.inner = (i : Int) → i < j → TX E Y o i → TX E Y ([c] ++ ([40] ++ joi 124 [joi 44 l, o] ++ [41])) j
  | maps {j i : Nat} {e : EX} {c : Int} {m : Nat} {ks ar : Nat → List Int} {an : Nat → Nat} {o : List Int} : E[j]? = some e → e.kind = c → (c = 109 ∨ c = 103) → 0 < m → e.items.length = m → (∀ (i : Nat) (it : IM), e.items[i]? = some it → TKey c (ks i) it ∧ it.arm = (an i : Int) ∧ an i < j) → (∀ i, i < m → TX E Y (ar i) (an i)) → e.inner = (i : Int) → i < j → TX E Y o i → TX E Y ([c] ++ ([40] ++ joi 124 [joi 44 ((List.range m).map (fun i => ks i ++ [58] ++ ar i)), o] ++ [41])) j
theorem TX.app {E : List EX} {Y : List (Int × List Int)} (Z : List (Int × List Int)) {t : List Int} {j : Nat} (h : TX E Y t j) : TX E (Y ++ Z) t j := by
  induction h with
  | servers h1 h2 h3 h4 h5 => exact TX.servers h1 h2 h3 h4 h5
  | alias h1 h2 h3 => exact TX.alias h1 h2 h3
  | name h1 h2 h3 h4 h5 h6 h7 _ ih => exact TX.name h1 h2 h3 h4 (ruX_app Z _ h5) h6 h7 ih
  | ttl h1 h2 h3 h4 h5 _ ih => exact TX.ttl h1 h2 h3 h4 h5 ih
  | list h1 h2 h3 h4 h5 h6 h7 h8 _ ih => exact TX.list h1 h2 h3 h4 h5 h6 h7 h8 ih
  | maps h1 h2 h3 h4 h5 h6 _ h8 h9 _ iha iho => exact TX.maps h1 h2 h3 h4 h5 h6 iha h8 h9 iho
theorem tit_pln {k : Int} {l : List (List Int)} {its : List IM} (hl : l.length = its.length) (h : ∀ (i : Nat) (x : List Int) (it : IM), l[i]? = some x → its[i]? = some it → TIt k x it) : ∀ x ∈ l, Pln x := fun x hx => by
  obtain ⟨i, hi⟩ := List.getElem?_of_mem hx
  have hlt := (List.getElem?_eq_some_iff.1 hi).1
  exact (h i x its[i] hi (List.getElem?_eq_getElem (by omega))).pln
/-- It has some size: so its brackets are right, and its bytes are bytes. -/
theorem TX.szl {E : List EX} {Y : List (Int × List Int)} (nm : ByteArray) (K : List Int) {t : List Int} {j : Nat} (h : TX E Y t j) : ∃ n, SZL nm K t n := by
  induction h with
  | servers h1 h2 h3 h4 h5 => exact ⟨_, SZL.servers h3 (tit_pln h4 h5)⟩
  | alias h1 h2 h3 => exact ⟨_, SZL.alias h3.pln⟩
  | name h1 h2 h3 h4 h5 h6 h7 _ ih => exact ⟨_, SZL.name h4⟩
  | ttl h1 h2 h3 h4 h5 _ ih => obtain ⟨n, ih⟩ := ih; exact ⟨_, SZL.ttl h3.pln ih⟩
  | list h1 h2 h3 h4 h5 h6 h7 h8 _ ih => obtain ⟨n, ih⟩ := ih; exact ⟨_, SZL.list h3 h4 (tit_pln h5 h6) ih⟩
  | @maps j i e c m ks ar an o h1 h2 h3 h4 h5 h6 _ h8 h9 _ iha iho =>
    obtain ⟨n, iho⟩ := iho
    have hc : ∀ i, ∃ n, (i < m → SZL nm K (ar i) n) ∧ (m ≤ i → n = 0) := fun i => by
      by_cases hi : i < m
      · obtain ⟨n, hn⟩ := iha i hi; exact ⟨n, fun _ => hn, fun h => by omega⟩
      · exact ⟨0, fun h => absurd h hi, fun _ => rfl⟩
    obtain ⟨ns, hns⟩ := Classical.axiomOfChoice hc
    exact ⟨_, SZL.maps (ks := ks) (ar := ar) (ns := ns) h3 h4 (fun i hi => (h6 i e.items[i] (List.getElem?_eq_getElem (by omega))).1.pln) (fun i hi => (hns i).1 hi) (fun i hi => (hns i).2 hi) iho⟩
theorem TX.nsp {E : List EX} {Y : List (Int × List Int)} {t : List Int} {j : Nat} (h : TX E Y t j) : Nsp 0 t := by
  obtain ⟨n, h⟩ := h.szl .empty []
  exact h.nsp
theorem TX.byt {E : List EX} {Y : List (Int × List Int)} {t : List Int} {j : Nat} (h : TX E Y t j) : Byt t := by
  obtain ⟨n, h⟩ := h.szl .empty []
  exact h.byt
end Go.Proofs.YtaebngpoagjafaaGreat
