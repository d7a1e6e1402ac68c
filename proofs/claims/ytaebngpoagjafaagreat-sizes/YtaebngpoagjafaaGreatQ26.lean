/-
  OUR OWN: the program's parser, of a text that is right: rules, their texts and sizes.
  OUR OWN: the document's Size answers as the program's.
  OUR OWN: a step that is a Size.
  OUR OWN: Sizes' walk.
-/
import Derived.Test.YtaebngpoagjafaaGreatQ25
import Derived.Test.YtaebngpoagjafaaGreatQ03
namespace Go.Proofs.YtaebngpoagjafaaGreat
open Go.RowKit

/-- The size of a rule, by its number. -/
def nsR (E : List EX) (RA : List RL) (i : Nat) : Int := match RA[i]? with | some r => szR E (r.ex.toNat + 1) | none => 0
/-- A rule's text: its letter, its expression's text. -/
def ruT (y : Int × List Int) : List Int := [y.1, 58] ++ y.2
theorem rules_good {s nm : ByteArray} {E : List EX} {RA : List RL} (h16 : ∀ e ∈ E, e.items.length ≤ 16) (hnm : ∀ i r, RA[i]? = some r → T.ch nm i = r.nv) : ∀ (N : Nat) (rs : List RL) (m k : Nat), k ≤ s.size → s.size + 1 ≤ N + k → (cRules s N rs m k false).b = false → Pos E m (cRules s N rs m k false).es → (cRules s N rs m k false).rs = RA → (∀ r ∈ rs, ∃ j : Nat, r.ex = (j : Int) ∧ j < m) →
    ∃ Y : List (Int × List Int), Y.length + rs.length = RA.length ∧ Y ≠ [] ∧ bt s k (cRules s N rs m k false).k = joi 59 (Y.map ruT) ∧ (∀ i y, Y[i]? = some y → (97 ≤ y.1 ∧ y.1 ≤ 122) ∧ (∃ r, RA[rs.length + i]? = some r ∧ r.nv = y.1) ∧ SZL nm (knK (nsR E RA) (rs.length + i)) y.2 (nsR E RA (rs.length + i))) ∧ nsR E RA (RA.length - 1) = szR E (m + (cRules s N rs m k false).es.length) := by
  intro N
  induction N with
  | zero => intro rs m k h1 h2; omega
  | succ N ih =>
    intro rs m k hk hN hb hP hRA hrs
    have hmo := cRule_mono s rs m k false hk
    have hcr : cRule s rs m k false = ⟨⟨hereF s (skipF s k false) false, skipF s k false, (cE s rs (s.size + 1) 0 m (takeK s 58 (letK s k false) (letX s k false)) (wantB s 58 (letK s k false) (letX s k false))).idx⟩, (cE s rs (s.size + 1) 0 m (takeK s 58 (letK s k false) (letX s k false)) (wantB s 58 (letK s k false) (letX s k false))).es, (cE s rs (s.size + 1) 0 m (takeK s 58 (letK s k false) (letX s k false)) (wantB s 58 (letK s k false) (letX s k false))).k, (cE s rs (s.size + 1) 0 m (takeK s 58 (letK s k false) (letX s k false)) (wantB s 58 (letK s k false) (letX s k false))).b⟩ := rfl
    simp only [cRules] at hb hP hRA ⊢
    -- the rules up to here
    have hpre : ∃ t, RA = rs ++ (cRule s rs m k false).rl :: t := by
      rw [← hRA]
      split
      · have key : ∀ (N : Nat) (rs : List RL) (m k : Nat) (b : Bool), ∃ t, (cRules s N rs m k b).rs = rs ++ t := by
          intro N
          induction N with
          | zero => intro rs m k b; exact ⟨[], by simp [cRules]⟩
          | succ N ih =>
            intro rs m k b
            simp only [cRules]
            split
            · obtain ⟨t, ht⟩ := ih (rs ++ [(cRule s rs m k b).rl]) (m + (cRule s rs m k b).es.length) (takeK s 59 (cRule s rs m k b).k (cRule s rs m k b).b) (cRule s rs m k b).b
              exact ⟨(cRule s rs m k b).rl :: t, by simp only; rw [ht]; simp⟩
            · exact ⟨[(cRule s rs m k b).rl], rfl⟩
        obtain ⟨t, ht⟩ := key N (rs ++ [(cRule s rs m k false).rl]) (m + (cRule s rs m k false).es.length) (takeK s 59 (cRule s rs m k false).k (cRule s rs m k false).b) (cRule s rs m k false).b
        exact ⟨t, by simp only; rw [ht]; simp⟩
      · exact ⟨[], rfl⟩
    obtain ⟨t, hpt⟩ := hpre
    have hRK : RK rs nm (knK (nsR E RA) rs.length) E m := ⟨knK_len _ _, fun i r hr => by
      have hil : i < rs.length := (List.getElem?_eq_some_iff.1 hr).1
      have hra : RA[i]? = some r := by rw [hpt, List.getElem?_append_left hil]; exact hr
      obtain ⟨j, hj, hjm⟩ := hrs r (List.mem_of_getElem? hr)
      refine ⟨hnm i r hra, j, hj, hjm, ?_⟩
      rw [knK_get _ hil]
      unfold nsR
      rw [hra]
      simp only
      rw [hj, Int.toNat_natCast]⟩
    have hEG := expr_good (s := s) hRK h16 (s.size + 1)
    have hl0 := letK_ge s k false
    have hl1 := letK_le (b := false) hk
    have hb0 := takeK_ge s 58 (letK s k false) (letX s k false)
    have hb1 : takeK s 58 (letK s k false) (letX s k false) ≤ s.size := takeK_le (by decide) hl1
    have hitg : (cRule s rs m k false).b = false → Pos E m (cRule s rs m k false).es → 1 ≤ (cRule s rs m k false).es.length ∧ (cRule s rs m k false).rl.ex = ((m + (cRule s rs m k false).es.length - 1 : Nat) : Int) ∧ (97 ≤ (cRule s rs m k false).rl.nv ∧ (cRule s rs m k false).rl.nv ≤ 122) ∧ ∃ x, bt s k (cRule s rs m k false).k = [(cRule s rs m k false).rl.nv, 58] ++ x ∧ SZL nm (knK (nsR E RA) rs.length) x (szR E (m + (cRule s rs m k false).es.length)) := by
      rw [hcr]
      simp only
      intro hh hp
      have hbw : wantB s 58 (letK s k false) (letX s k false) = false := by
        cases hq : wantB s 58 (letK s k false) (letX s k false) with
        | false => rfl
        | true => rw [hq, cE_bad s rs (s.size + 1)] at hh; cases hh
      have hw := want_good (by decide) (by decide) hbw
      have hl := let_good hw.1
      obtain ⟨x1, x2, x3⟩ := hEG 0 m _ _ hb1 (by omega) hh (Nat.le_refl _) hp
      have hmo2 := cE_mono s rs (s.size + 1) 0 m (takeK s 58 (letK s k false) (letX s k false)) (wantB s 58 (letK s k false) (letX s k false)) hb1
      refine ⟨x1, x2, by rw [hl.2.2.2.1]; exact hl.2.2.1, _, ?_, x3⟩
      rw [bt_app s hl0 (by omega), bt_app s hb0 hmo2.1, hl.2.2.2.2, hw.2.2, hl.2.2.2.1]
      rfl
    generalize cRule s rs m k false = it at *
    have htl : ∀ b, takeK s 59 it.k b ≤ s.size := fun b => takeK_le (by decide) hmo.2.1
    have htg := takeK_ge s 59 it.k it.b
    have hitb : it.b = false := by
      cases hq : it.b with
      | false => rfl
      | true =>
        rw [hq] at hb
        have hdt := dead_take (s := s) (k := it.k) (b := true) (c := 59) (.inl rfl) (by decide) (by decide)
        rw [hdt.1] at hb
        simp at hb
    have hns : RA[rs.length]? = some it.rl := by rw [hpt, List.getElem?_append_right (Nat.le_refl _), Nat.sub_self]; rfl
    rw [hitb] at hb htg hP hRA ⊢
    cases ht : takeB s 59 it.k false with
    | false =>
      rw [ht] at hb hP hRA
      simp only [Bool.false_eq_true, if_false] at hb hP hRA ⊢
      obtain ⟨y1, y2, y3, x, y4, y5⟩ := hitg hitb hP
      have hnz : nsR E RA rs.length = szR E (m + it.es.length) := by
        unfold nsR
        rw [hns]
        simp only
        rw [y2, Int.toNat_natCast, show m + it.es.length - 1 + 1 = m + it.es.length from by omega]
      have hlen : RA.length = rs.length + 1 := by rw [← hRA]; simp
      refine ⟨[(it.rl.nv, x)], by simp; omega, by simp, ?_, fun i y hy => ?_, ?_⟩
      · rw [bt_app s hmo.1 htg, take_no ht, List.append_nil, y4]
        rfl
      · have hi0 : i = 0 := by have := (List.getElem?_eq_some_iff.1 hy).1; simpa using this
        subst hi0
        simp at hy
        subst hy
        exact ⟨y3, ⟨it.rl, hns, rfl⟩, by rw [Nat.add_zero, hnz]; exact y5⟩
      · rw [show RA.length - 1 = rs.length from by omega, hnz]
    | true =>
      rw [ht] at hb hP hRA
      simp only [if_true] at hb hP hRA ⊢
      obtain ⟨y1, y2, y3, x, y4, y5⟩ := hitg hitb hP.left
      have hnz : nsR E RA rs.length = szR E (m + it.es.length) := by
        unfold nsR
        rw [hns]
        simp only
        rw [y2, Int.toNat_natCast, show m + it.es.length - 1 + 1 = m + it.es.length from by omega]
      have hty := take_yes (s := s) (k := it.k) (c := 59) (by decide) (by decide) ht
      have hsk := T.sk_ge s it.k
      obtain ⟨Y, q1, q2, q3, q4, q5⟩ := ih (rs ++ [it.rl]) (m + it.es.length) (takeK s 59 it.k false) (htl _) (by omega) hb hP.right hRA (fun r hr => by
        rcases List.mem_append.1 hr with hr | hr
        · obtain ⟨j, h1, h2⟩ := hrs r hr; exact ⟨j, h1, by omega⟩
        · simp at hr; subst hr; exact ⟨_, y2, by omega⟩)
      have hqm := cRules_mono s N (rs ++ [it.rl]) (m + it.es.length) (takeK s 59 it.k false) false (htl _)
      generalize cRules s N (rs ++ [it.rl]) (m + it.es.length) (takeK s 59 it.k false) false = q at *
      rw [List.length_append, List.length_singleton] at q1 q4
      refine ⟨(it.rl.nv, x) :: Y, by simp; omega, by simp, ?_, fun i y hy => ?_, ?_⟩
      · rw [List.map_cons, joi_cons 59 _ (by simpa using q2), ← q3, bt_app s hmo.1 (c := q.k) (by omega), bt_app s htg (by omega), hty.2, y4]
        simp [ruT]
      · cases i with
        | zero =>
          simp at hy
          subst hy
          exact ⟨y3, ⟨it.rl, hns, rfl⟩, by rw [Nat.add_zero, hnz]; exact y5⟩
        | succ i =>
          simp at hy
          have := q4 i y hy
          rw [show rs.length + (i + 1) = rs.length + 1 + i from by omega]
          exact this
      · rw [q5, List.length_append, ← Nat.add_assoc]
end Go.Proofs.YtaebngpoagjafaaGreat
namespace Go.Proofs.YtaebngpoagjafaaGreat
open Go.RowKit

theorem str_app (a b : List Int) : strOfNums a ++ strOfNums b = strOfNums (a ++ b) := by
  have h : (strOfNums a ++ strOfNums b).data.toList = (strOfNums (a ++ b)).data.toList := by
    rw [str_dat, ByteArray.data_append, Array.toList_append, str_dat, str_dat, List.map_append]
  have : ∀ {x y : ByteArray}, x.data.toList = y.data.toList → x = y := fun {x y} h => by
    obtain ⟨⟨l⟩⟩ := x
    obtain ⟨⟨m⟩⟩ := y
    simp at h
    rw [h]
  exact this h
theorem nv_byt (s : ByteArray) : ∀ (N : Nat) (rs : List RL) (m k : Nat) (b : Bool), ∀ r ∈ (cRules s N rs m k b).rs, r ∈ rs ∨ (0 ≤ r.nv ∧ r.nv < 256) := by
  intro N
  induction N with
  | zero => intro rs m k b r hr; exact .inl (by simpa [cRules] using hr)
  | succ N ih =>
    intro rs m k b r hr
    have hb := hereF_bd s (skipF s k b) b
    have key : ∀ r ∈ rs ++ [(cRule s rs m k b).rl], r ∈ rs ∨ (0 ≤ r.nv ∧ r.nv < 256) := fun r hr => by
      rcases List.mem_append.1 hr with hr | hr
      · exact .inl hr
      · simp at hr; subst hr; exact .inr hb
    simp only [cRules] at hr
    split at hr
    · rcases ih _ _ _ _ r hr with h | h
      · exact key r h
      · exact .inr h
    · exact key r hr
theorem spl59 {nm : ByteArray} {K : Nat → List Int} {n : Nat → Int} : ∀ (Y : List (Int × List Int)) (o : Nat), Y ≠ [] → (∀ i y, Y[i]? = some y → (97 ≤ y.1 ∧ y.1 ≤ 122) ∧ SZL nm (K (o + i)) y.2 (n (o + i))) → splL 59 0 [] (joi 59 (Y.map ruT)) = Y.map ruT := by
  intro Y
  induction Y with
  | nil => intro o h; exact absurd rfl h
  | cons y r ih =>
    intro o _ h
    have h0 := h 0 y rfl
    have one : ∀ cur rest, splL 59 0 cur (ruT y ++ rest) = splL 59 0 (cur ++ ruT y) rest := fun cur rest => by
      have e : ruT y ++ rest = y.1 :: 58 :: (y.2 ++ rest) := by simp [ruT]
      rw [e, splL, if_neg (by omega), if_neg (by omega), if_neg (by omega), splL, if_neg (by decide), if_neg (by decide), if_neg (by decide), h0.2.nsp 59 (.inr (.inr (.inr rfl))) 0 (Int.le_refl _)]
      simp [ruT]
    cases r with
    | nil =>
      have := one [] []
      simp only [List.map_cons, List.map_nil, joi]
      rw [List.append_nil] at this
      rw [this]
      simp [splL]
    | cons z r =>
      have h1 := one [] ([59] ++ joi 59 ((z :: r).map ruT))
      have h2 := ih (o + 1) (by simp) (fun i y hy => by
        have := h (i + 1) y hy
        rw [show o + (i + 1) = o + 1 + i from by omega] at this
        exact this)
      simp only [List.map_cons, joi] at h1 h2 ⊢
      rw [List.append_assoc, h1]
      simp only [List.singleton_append, splL, List.nil_append]
      rw [if_neg (by decide), if_neg (by decide), if_pos ⟨trivial, trivial⟩, h2]
theorem joi_byt {l : List (List Int)} (h : ∀ x ∈ l, Byt x) : Byt (joi 59 l) := Byt.joi (by decide) l h
theorem items16 {es : List EX} {rs : List RL} (h : (fAll es rs).1 = 0) : ∀ e ∈ es, e.items.length ≤ 16 := by
  intro e he
  rcases fAll_min es rs with ⟨_, h2⟩ | ⟨h1, _⟩
  · by_cases hl : e.items.length ≤ 16
    · exact hl
    · exfalso
      obtain ⟨x, hx⟩ : ∃ x, e.items[16]? = some x := ⟨e.items[16], List.getElem?_eq_getElem (by omega)⟩
      have hd : e.items = e.items.take 16 ++ x :: e.items.drop 17 := by
        have hxx : e.items[16] = x := by
          have := List.getElem?_eq_getElem (l := e.items) (i := 16) (by omega)
          rw [this] at hx
          exact Option.some.inj hx
        rw [← hxx, ← List.drop_eq_getElem_cons (by omega), List.take_append_drop]
      have hF : FIs e.kind [] (e.items.take 16 ++ x :: e.items.drop 17) 4 x.at_ := by
        rw [FIs_app]
        refine .inr (.inl (.inl ⟨?_, rfl, ?_⟩))
        · simp; omega
        · rfl
      rw [← hd] at hF
      exact h2 4 x.at_ (.inl ⟨e, he, .inr hF⟩)
  · exact absurd h h1
theorem SizeR_any (s : ByteArray) (w : World) : Calls Tryz.prog 32 #[.string s] w fun e w' => Below w.heap.size w w' ∧ e = .returned (.tuple #[.int .i64 (cSz s).1, .int .i64 (cSz s).2]) := by
  by_cases h0 : (chk s).1 = 0
  · have hc0 : (cChk s).1 = 0 := by rw [← chk_eq]; exact h0
    have hs : s.size ≤ 2000 := by
      by_cases hh : 2000 < s.size
      · unfold cChk at hc0; rw [if_pos hh] at hc0; cases hc0
      · omega
    have hg : ((cAll s).b || decide ((cAll s).k < s.size)) = false ∧ (fAll (cAll s).es (cAll s).rs).1 = 0 := by
      unfold cChk at hc0
      rw [if_neg (by omega)] at hc0
      split at hc0
      · cases hc0
      · next hh =>
        refine ⟨by simpa using hh, ?_⟩
        split at hc0
        · next h => exact h
        · next h => exact absurd hc0 h
    have hCb : (cAll s).b = false := by cases hq : (cAll s).b with
      | false => rfl
      | true => rw [hq] at hg; cases hg.1
    have hmo := cRules_mono s (s.size + 1) [] 0 0 false (Nat.zero_le _)
    have hCk : (cAll s).k = s.size := by
      have h1 := hg.1
      rw [hCb, Bool.false_or] at h1
      have h2 : ¬ (cAll s).k < s.size := of_decide_eq_false h1
      have h3 : (cAll s).k ≤ s.size := hmo.2
      omega
    have h16 := items16 hg.2
    have hnb : Byt ((cAll s).rs.map RL.nv) := fun x hx => by
      simp only [List.mem_map] at hx
      obtain ⟨r, hr, rfl⟩ := hx
      rcases nv_byt s (s.size + 1) [] 0 0 false r hr with h | h
      · simp at h
      · exact h
    have hnm : ∀ i r, (cAll s).rs[i]? = some r → T.ch (strOfNums ((cAll s).rs.map RL.nv)) i = r.nv := fun i r hr => by
      rw [str_ch hnb, List.getElem?_map, hr]; rfl
    obtain ⟨Y, y1, y2, y3, y4, y5⟩ := rules_good (s := s) h16 hnm (s.size + 1) [] 0 0 (Nat.zero_le _) (by omega) hCb (fun i e he => by rw [Nat.zero_add]; exact he) rfl (by simp)
    have hcA : cRules s (s.size + 1) [] 0 0 false = cAll s := rfl
    rw [hcA] at y3 y5
    rw [hCk] at y3
    simp only [List.length_nil, Nat.add_zero, Nat.zero_add] at y1 y4 y5
    have hbare : bare s = strOfNums (joi 59 (Y.map ruT)) := by unfold bare; rw [brL_bt, y3]
    have hYb : ∀ x ∈ Y.map ruT, Byt x := fun x hx => by
      simp only [List.mem_map] at hx
      obtain ⟨y, hy, rfl⟩ := hx
      obtain ⟨i, hi⟩ := List.getElem?_of_mem hy
      have h1 := y4 i y hi
      exact Byt.app (a := [y.1, 58]) (fun z hz => by simp at hz; rcases hz with rfl | rfl <;> omega) h1.2.2.byt
    have hspl : spl (bare s) 59 = (Y.map ruT).map strOfNums := by
      rw [hbare, spl_list (joi_byt hYb), spl59 (nm := strOfNums ((cAll s).rs.map RL.nv)) (K := fun i => knK (nsR (cAll s).es (cAll s).rs) i) (n := fun i => nsR (cAll s).es (cAll s).rs i) Y 0 y2 (fun i y hy => ⟨(y4 i y hy).1, by rw [Nat.zero_add]; exact (y4 i y hy).2.2⟩)]
    have h2 : ∀ t ∈ spl (bare s) 59, 2 ≤ t.size := fun t ht => by
      rw [hspl] at ht
      simp only [List.mem_map] at ht
      obtain ⟨x, ⟨y, _, rfl⟩, rfl⟩ := ht
      rw [strOfNums_size]; simp [ruT]
    have hT : polT (spl (bare s) 59) = Y.map (fun y => strOfNums y.2) := by
      rw [hspl]
      unfold polT
      rw [List.map_map, List.map_map]
      apply List.map_congr_left
      intro y _
      exact str_end [y.1, 58] y.2
    have hfst : Y.map Prod.fst = (cAll s).rs.map RL.nv := by
      apply List.ext_getElem?
      intro i
      rw [List.getElem?_map, List.getElem?_map]
      cases hy : Y[i]? with
      | none =>
        have : Y.length ≤ i := by simpa using hy
        rw [List.getElem?_eq_none (by omega)]; rfl
      | some y =>
        obtain ⟨r, hr, hv⟩ := (y4 i y hy).2.1
        rw [hr]
        simp [hv]
    have hNj : ∀ j, j ≤ Y.length → polN (spl (bare s) 59) j = strOfNums ((Y.take j).map Prod.fst) := by
      intro j
      induction j with
      | zero => intro _; rfl
      | succ j ih =>
        intro hj
        have hy : Y[j]? = some Y[j] := List.getElem?_eq_getElem (by omega)
        have hl : (spl (bare s) 59)[j]? = some (strOfNums (ruT Y[j])) := by rw [hspl, List.getElem?_map, List.getElem?_map, hy]; rfl
        simp only [polN, hl]
        rw [ih (by omega), str_ext, str_app, show (Y.take (j + 1)) = Y.take j ++ [Y[j]] from by rw [List.take_add_one, hy]; rfl, List.map_append]
        rfl
    have hN : polN (spl (bare s) 59) (spl (bare s) 59).length = strOfNums ((cAll s).rs.map RL.nv) := by
      have hl : (spl (bare s) 59).length = Y.length := by rw [hspl]; simp
      rw [hl, hNj Y.length (Nat.le_refl _), List.take_length, hfst]
    have hR := SizeR_ok s w (nsR (cAll s).es (cAll s).rs) hs h0 h2 (fun j t ht => by
      rw [hN]
      rw [hT, List.getElem?_map] at ht
      cases hy : Y[j]? with
      | none => rw [hy] at ht; simp at ht
      | some y =>
        rw [hy] at ht
        simp at ht
        subst ht
        exact (y4 j y hy).2.2.sz)
    have hl : (spl (bare s) 59).length = (cAll s).rs.length := by rw [hspl]; simp; exact y1
    rw [hl, y5] at hR
    have hE : cSz s = (szR (cAll s).es (cAll s).es.length, 0) := by unfold cSz; rw [if_pos hc0]
    rw [hE]
    exact hR
  · have hc0 : (cChk s).1 ≠ 0 := by rw [← chk_eq]; exact h0
    have hE : cSz s = (0, (chk s).1) := by unfold cSz; rw [if_neg hc0, chk_eq]
    rw [hE]
    exact SizeR_no s w h0
end Go.Proofs.YtaebngpoagjafaaGreat
namespace Go.Proofs.YtaebngpoagjafaaGreat
open Go.RowKit

attribute [local go_sem ↓] Go.wp_at_zero Go.wp_at_succ
set_option maxRecDepth 100000 in
set_option maxHeartbeats 800000 in
theorem text_size (oa ob oc od : Int) (s : ByteArray) (w : World) :
    Calls Tryz.prog 44 #[.agg #[.int .i64 3, .int .i64 oa, .int .i64 ob, .int .i64 oc, .int .i64 od, .string s]] w fun e w' => e = .returned (.bool true) ∧ Below w.heap.size w w' := by
  obtain ⟨c, hc⟩ : ∃ c, cSz s = c := ⟨_, rfl⟩
  have hp := fun wz => SizeP_any s wz
  have hd := fun wz => SizeR_any s wz
  rw [hc] at hp hd
  obtain ⟨c1, c2⟩ := c
  clear hc
  have HB0 : Hid (Below w.heap.size w (w.alloc (.cells #[.int .i64 3, .int .i64 oa, .int .i64 ob, .int .i64 oc, .int .i64 od, .string s] 66))) := (Below.refl _ _).alloc (Nat.le_refl _) _
  have HX0 : Hid ((w.alloc (.cells #[.int .i64 3, .int .i64 oa, .int .i64 ob, .int .i64 oc, .int .i64 od, .string s] 66)).heap[w.heap.size]? = some (.cells #[.int .i64 3, .int .i64 oa, .int .i64 ob, .int .i64 oc, .int .i64 od, .string s] 66 (0, 0))) := heap_alloc_new w _
  go_enter Tryz.func44, Tryz.ntmps44
  go_wp2_with fail
  refine (hp _).mono ?_
  rintro e w1 ⟨hb1, rfl⟩
  have HB1 : Hid (Below w.heap.size w w1) := HB0.out.trans (hb1.mono HB0.out.size)
  have hx1 := (hb1.block _ (lt_of_block HX0.out)).trans HX0.out
  have x5 : w1.cell? ⟨w.heap.size, 5, none⟩ = some (.string s) := by simp [World.cell?, hx1]
  clear hb1 hx1
  go_wp2_with fail
  refine (hd _).mono ?_
  rintro e w2 ⟨hb2, rfl⟩
  have HB2 : Hid (Below w.heap.size w w2) := HB1.out.trans (hb2.mono HB1.out.size)
  clear hb2
  go_wp2_with fail
  go_ret
  exact ⟨rfl, HB2.out⟩
end Go.Proofs.YtaebngpoagjafaaGreat
namespace Go.Proofs.YtaebngpoagjafaaGreat
open Go.RowKit

set_option maxRecDepth 100000 in
set_option maxHeartbeats 800000 in
theorem step_size (SB : Nat) (oa ob oc od : Int) (os : ByteArray) (w : World) :
    Calls Tryz.prog 30 #[.pointer (some ⟨SB, 0, none⟩), .agg #[.int .i64 3, .int .i64 oa, .int .i64 ob, .int .i64 oc, .int .i64 od, .string os]] w fun e w' => e = .returned (.bool true) ∧ Below w.heap.size w w' := by
  have HB0 : Hid (Below w.heap.size w (w.alloc (.cells #[.int .i64 3, .int .i64 oa, .int .i64 ob, .int .i64 oc, .int .i64 od, .string os] 66))) := (Below.refl _ _).alloc (Nat.le_refl _) _
  go_enter Tryz.func30, Tryz.ntmps30
  go_wp2_with fail
  refine (text_size oa ob oc od os _).mono ?_
  rintro e w2 ⟨rfl, hb2⟩
  have HB2 : Hid (Below w.heap.size w w2) := HB0.out.trans (hb2.mono HB0.out.size)
  clear hb2
  go_wp2_with fail
  go_ret
  exact ⟨rfl, HB2.out⟩

set_option maxHeartbeats 400000 in
theorem sizes_walk (wo so : Option Addr) (m wc sb soff sn sc : Nat) (OK OA OB OC OD : Nat → Int) (OStr : Nat → ByteArray) (w : World)
    (hn : sn * 56 ≤ 140737488351232) (hs : OS w so sb soff sn OK OA OB OC OD OStr) :
    Calls Tryz.prog 5 #[.slice wo m wc, .slice so sn sc] w fun e w' => e = .returned (.bool true) ∧ Below w.heap.size w w' := by
  go_enter Tryz.func5, Tryz.ntmps5
  go_wp2_with fail
  have hal : Below w.heap.size w (w.alloc (.cells #[.int .i64 3] 3)) := (Below.refl _ _).alloc (Nat.le_refl _) _
  have HO : Hid (OS (w.alloc (.cells #[.int .i64 3] 3)) so sb soff sn OK OA OB OC OD OStr) := hs.below hal
  have hc1 : (w.alloc (.cells #[.int .i64 3] 3)).cell? ⟨w.heap.size, 0, none⟩ = some (.int .i64 3) := by simp
  have hlt : w.heap.size < (w.alloc (.cells #[.int .i64 3] 3)).heap.size := by simp
  have HAL : Hid (Below w.heap.size w (w.alloc (.cells #[.int .i64 3] 3))) := hal
  generalize w.alloc (.cells #[.int .i64 3] 3) = w1 at *
  clear hs hal
  have hone : ∀ i, i < 1 → w1.cell? ⟨w.heap.size, i, none⟩ = some (.int .i64 3) := fun i hi => by
    have h0 : i = 0 := by omega
    rw [h0]; exact hc1
  refine (plays_any (fun wq => wq.cell? ⟨w1.heap.size, 0, none⟩ = some (.slice wo m wc) ∧ wq.cell? ⟨w1.heap.size, 3, none⟩ = some (.slice none 0 0) ∧ wq.cell? ⟨w1.heap.size, 4, none⟩ = some (.slice none 0 0))
    wo so m wc sb soff sn sc w.heap.size 1 1 OK OA OB OC OD OStr (fun _ => 3) w1 hn (by omega) HO.out hlt hone
    ⟨by simp [st0], by simp [st0], by simp [st0]⟩ ?_ ?_ ?_).mono ?_
  · rintro wq wr ⟨h1, h2, h3⟩ hlt' hb
    exact ⟨by rw [hb.cell (p := ⟨w1.heap.size, 0, none⟩) hlt']; exact h1, by rw [hb.cell (p := ⟨w1.heap.size, 3, none⟩) hlt']; exact h2, by rw [hb.cell (p := ⟨w1.heap.size, 4, none⟩) hlt']; exact h3⟩
  · rintro wq ⟨h1, h2, h3⟩
    refine (looks_nil w1.heap.size wq h2 h3).mono ?_
    rintro e w' ⟨rfl, hww⟩
    subst w'
    exact ⟨rfl, ⟨h1, h2, h3⟩, Below.refl _ _⟩
  · rintro i wq hi ⟨h1, h2, h3⟩ hb hlt' hk
    have hk1 : OK i = 3 := by have h : 3 = OK i := by simpa [amTo] using hk
                              exact h.symm
    rw [hk1]
    refine (step_size w1.heap.size _ _ _ _ _ wq).mono ?_
    rintro e w' ⟨rfl, hb'⟩
    exact ⟨rfl, ⟨by rw [hb'.cell (p := ⟨w1.heap.size, 0, none⟩) hlt']; exact h1, by rw [hb'.cell (p := ⟨w1.heap.size, 3, none⟩) hlt']; exact h2, by rw [hb'.cell (p := ⟨w1.heap.size, 4, none⟩) hlt']; exact h3⟩, hb'.mono hb.size⟩
  · rintro e w2 ⟨rfl, hb2⟩
    have hfin : Hid (Below w.heap.size w w2) := HAL.out.trans (hb2.mono HAL.out.size)
    clear hb2
    go_wp2_with fail
    go_ret
    exact ⟨rfl, hfin.out⟩
end Go.Proofs.YtaebngpoagjafaaGreat
