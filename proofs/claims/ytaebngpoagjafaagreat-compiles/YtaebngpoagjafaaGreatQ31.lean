/-
  OUR OWN: the program's parser, of a text that is right: items, their texts and what they hold.
  OUR OWN: the program's parser, of a text that is right: an expression, and its text.
  OUR OWN: the program's parser, of a text that is right: rules and their texts.
  OUR OWN: of a text that is a policy all that the last expression needs is right.
  OUR OWN: the script's state in memory; marks; looks.
-/
import Derived.Test.YtaebngpoagjafaaGreatQ30
import Derived.Test.YtaebngpoagjafaaGreatQ29
import Derived.Test.YtaebngpoagjafaaGreatQ26
namespace Go.Proofs.YtaebngpoagjafaaGreat
open Go.RowKit

/-- The rules that have an end: their names and texts. -/
structure RX (rs : List RL) (Y : List (Int × List Int)) (E : List EX) (lim : Nat) : Prop where
  len : Y.length = rs.length
  at_ : ∀ (i : Nat) (r : RL) (y : Int × List Int), rs[i]? = some r → Y[i]? = some y → y.1 = r.nv ∧ ∃ j : Nat, r.ex = (j : Int) ∧ j < lim ∧ TX E Y y.2 j
theorem name_at {rs : List RL} {Y : List (Int × List Int)} {E : List EX} {lim : Nat} (h : RX rs Y E lim) {v : Int} (hv : nmdR v rs ≠ -1) : ∃ (t : List Int) (i : Nat), ruX v Y = some t ∧ nmdR v rs = (i : Int) ∧ i < lim ∧ TX E Y t i := by
  have key : ∀ (rs : List RL) (Z : List (Int × List Int)), Z.length = rs.length → (∀ (i : Nat) (r : RL) (y : Int × List Int), rs[i]? = some r → Z[i]? = some y → y.1 = r.nv ∧ ∃ j : Nat, r.ex = (j : Int) ∧ j < lim ∧ TX E Y y.2 j) → nmdR v rs ≠ -1 → ∃ (t : List Int) (i : Nat), ruX v Z = some t ∧ nmdR v rs = (i : Int) ∧ i < lim ∧ TX E Y t i := by
    intro rs
    induction rs with
    | nil => intro Z _ _ h; exact absurd rfl h
    | cons r l ih =>
      intro Z hl hh hv
      cases Z with
      | nil => simp at hl
      | cons y Z =>
        obtain ⟨h1, j, h2, h3, h4⟩ := hh 0 r y rfl rfl
        simp only [nmdR, ruX] at hv ⊢
        rw [h1]
        by_cases he : r.nv = v
        · rw [if_pos he, if_pos he]; exact ⟨_, j, rfl, h2, h3, h4⟩
        · rw [if_neg he] at hv
          rw [if_neg he, if_neg he]
          exact ih Z (by simpa using hl) (fun i r' y' hr hy => hh (i + 1) r' y' hr hy) hv
  exact key rs Y h.len h.at_ hv

/-- An item without an arm. -/
theorem itemP_txt {s : ByteArray} {ex : Int → Nat → Nat → Bool → CR} {c : Int} (hc : c = 123 ∨ c = 102 ∨ c = 119) (d : Int) (m k : Nat) (hk : k ≤ s.size) (h : (cItem ex s c d m k false).b = false) :
    (cItem ex s c d m k false).es = [] ∧ TIt c (bt s k (cItem ex s c d m k false).k) (cItem ex s c d m k false).im := by
  have hp0 := T.sk_le hk
  have hge := T.sk_ge s k
  have hplain : numX s (T.sk s k) false = false → TNum (bt s k (numK s (T.sk s k) false)) (numV s (T.sk s k) false) := fun hh => by
    have h1 := num_txt hp0 hh
    have := sk_sk s k
    rw [bt_from (by omega)]
    exact h1.2.2
  rcases hc with rfl | rfl | rfl
  · unfold cItem at h ⊢
    simp only [skip_f] at h ⊢
    exact ⟨rfl, rfl, hplain h⟩
  · unfold cItem at h ⊢
    simp only [skip_f] at h ⊢
    exact ⟨rfl, rfl, hplain h⟩
  · have e : cItem ex s 119 d m k false = ⟨⟨T.sk s k, numV s (T.sk s k) false, 0, 0, numV s (takeK s 42 (numK s (T.sk s k) false) (numX s (T.sk s k) false)) (wantB s 42 (numK s (T.sk s k) false) (numX s (T.sk s k) false)), skipF s (takeK s 42 (numK s (T.sk s k) false) (numX s (T.sk s k) false)) (wantB s 42 (numK s (T.sk s k) false) (numX s (T.sk s k) false)), -1⟩, [], numK s (takeK s 42 (numK s (T.sk s k) false) (numX s (T.sk s k) false)) (wantB s 42 (numK s (T.sk s k) false) (numX s (T.sk s k) false)), numX s (takeK s 42 (numK s (T.sk s k) false) (numX s (T.sk s k) false)) (wantB s 42 (numK s (T.sk s k) false) (numX s (T.sk s k) false))⟩ := by unfold cItem; rw [skip_f]; rfl
    rw [e] at h ⊢
    simp only at h ⊢
    have hk1 := numK_le (b := false) hp0
    have hk2 : takeK s 42 (numK s (T.sk s k) false) (numX s (T.sk s k) false) ≤ s.size := takeK_le (by decide) hk1
    have h3 := num_txt hk2 h
    have h4 := want_good (by decide) (by decide) h3.1
    have h5 := hplain h4.1
    have hg1 := numK_ge (b := false) hp0
    have hg2 := takeK_ge s 42 (numK s (T.sk s k) false) (numX s (T.sk s k) false)
    have hg3 := numK_ge (b := wantB s 42 (numK s (T.sk s k) false) (numX s (T.sk s k) false)) hk2
    refine ⟨trivial, rfl, ?_⟩
    rw [if_pos rfl]
    refine ⟨_, _, ?_, h5, h3.2.2⟩
    rw [bt_app s (b := numK s (T.sk s k) false) (by omega) (by omega), bt_app s (a := numK s (T.sk s k) false) hg2 hg3, h4.2.2, List.append_assoc]
theorem itemsP_txt {s : ByteArray} {ex : Int → Nat → Nat → Bool → CR} (hM : ExMono ex s) {c : Int} (hc : c = 123 ∨ c = 102 ∨ c = 119) (d : Int) : ∀ (N m k : Nat), k ≤ s.size → s.size + 1 ≤ N + k → (cItems ex s c d N m k false).b = false →
    (cItems ex s c d N m k false).es = [] ∧ ∃ L : List (List Int), L.length = (cItems ex s c d N m k false).ims.length ∧ L ≠ [] ∧ (∀ (i : Nat) (x : List Int) (it : IM), L[i]? = some x → (cItems ex s c d N m k false).ims[i]? = some it → TIt c x it) ∧ bt s k (cItems ex s c d N m k false).k = joi 44 L := by
  intro N
  induction N with
  | zero => intro m k h1 h2; omega
  | succ N ih =>
    intro m k hk hN hb
    have hmo := cItem_mono hM c d m k false hk
    have hit := itemP_txt (ex := ex) hc d m k hk
    simp only [cItems] at hb ⊢
    generalize cItem ex s c d m k false = it at *
    have htl : ∀ b, takeK s 44 it.k b ≤ s.size := fun b => takeK_le (by decide) hmo.2.1
    have htg := takeK_ge s 44 it.k it.b
    have hitb : it.b = false := by
      cases hq : it.b with
      | false => rfl
      | true =>
        rw [hq] at hb
        have hdt := dead_take (s := s) (k := it.k) (b := true) (c := 44) (.inl rfl) (by decide) (by decide)
        rw [hdt.1] at hb
        simp at hb
    obtain ⟨i1, i3⟩ := hit hitb
    rw [hitb] at hb htg ⊢
    cases ht : takeB s 44 it.k false with
    | false =>
      rw [ht] at hb
      simp only [Bool.false_eq_true, if_false] at hb ⊢
      refine ⟨i1, [bt s k it.k], rfl, by simp, fun i x z hx hz => ?_, ?_⟩
      · have hi0 : i = 0 := by have := (List.getElem?_eq_some_iff.1 hx).1; simpa using this
        subst hi0
        simp at hx hz
        subst hx hz
        exact i3
      · rw [bt_app s hmo.1 htg, take_no ht, List.append_nil]
        rfl
    | true =>
      rw [ht] at hb
      simp only [if_true] at hb ⊢
      have hty := take_yes (s := s) (k := it.k) (c := 44) (by decide) (by decide) ht
      have hsk := T.sk_ge s it.k
      obtain ⟨q1, L, q3, q4, q5, q6⟩ := ih (m + it.es.length) (takeK s 44 it.k false) (htl _) (by omega) hb
      have hq := cItems_mono hM c d N (m + it.es.length) (takeK s 44 it.k false) false (htl _)
      refine ⟨by rw [q1, i1]; rfl, bt s k it.k :: L, by simp [q3], by simp, fun i x z hx hz => ?_, ?_⟩
      · cases i with
        | zero =>
          simp at hx hz
          subst hx hz
          exact i3
        | succ i => exact q5 i x z (by simpa using hx) (by simpa using hz)
      · rw [joi_cons 44 _ q4, ← q6, bt_app s hmo.1 (c := (cItems ex s c d N (m + it.es.length) (takeK s 44 it.k false) false).k) (by omega), bt_app s htg hq.1, hty.2, List.append_assoc]

section
variable {s : ByteArray} {Y : List (Int × List Int)} {E : List EX} {lim : Nat}
/-- That expressions have this text. -/
def EGX (s : ByteArray) (Y : List (Int × List Int)) (E : List EX) (lim : Nat) (ex : Int → Nat → Nat → Bool → CR) (n : Nat) : Prop := ∀ d m k b, k ≤ s.size → s.size - k < n → (ex d m k b).b = false → lim ≤ m → Pos E m (ex d m k b).es →
  1 ≤ (ex d m k b).es.length ∧ (ex d m k b).idx = ((m + (ex d m k b).es.length - 1 : Nat) : Int) ∧ TX E Y (bt s k (ex d m k b).k) (m + (ex d m k b).es.length - 1)
theorem itemA_txt {ex : Int → Nat → Nat → Bool → CR} {n : Nat} (hM : ExMono ex s) (hB : ExBad ex) (hX : EGX s Y E lim ex n) {c : Int} (hc : c = 103 ∨ c = 109) (d : Int) (m k : Nat) (hk : k ≤ s.size) (hn : s.size - k < n) (h : (cItem ex s c d m k false).b = false) (hm : lim ≤ m) (hP : Pos E m (cItem ex s c d m k false).es) :
    ∃ a : AR, TKey c a.key (cItem ex s c d m k false).im ∧ TX E Y a.txt a.num ∧ a.num < m + (cItem ex s c d m k false).es.length ∧ (cItem ex s c d m k false).im.arm = (a.num : Int) ∧ bt s k (cItem ex s c d m k false).k = a.t := by
  have hp0 := T.sk_le hk
  have hge := T.sk_ge s k
  have fin : ∀ (Q : List Int → Prop) (km kw : Nat) (bm bw : Bool), T.sk s k ≤ km → km ≤ s.size → takeK s 58 km bm = kw → wantB s 58 km bm = bw → (bm = false → Q (bt s k km)) → (ex (d + 1) m kw bw).b = false → Pos E m (ex (d + 1) m kw bw).es → (bw = true → (ex (d + 1) m kw bw).b = true) →
      ∃ a : AR, Q a.key ∧ TX E Y a.txt a.num ∧ a.num < m + (ex (d + 1) m kw bw).es.length ∧ (ex (d + 1) m kw bw).idx = (a.num : Int) ∧ bt s k (ex (d + 1) m kw bw).k = a.t := by
    intro Q km kw bm bw h1 h2 h3 h4 h5 h6 h7 h8
    have hbw : bw = false := by cases hq : bw with
      | false => rfl
      | true => rw [h8 hq] at h6; cases h6
    subst hbw
    have hw := want_good (by decide) (by decide) h4
    have hkw : kw ≤ s.size := by rw [← h3]; exact takeK_le (by decide) h2
    have hg := takeK_ge s 58 km bm
    obtain ⟨x1, x2, x3⟩ := hX (d + 1) m kw false hkw (by omega) h6 hm h7
    have hmo := hM (d + 1) m kw false hkw
    refine ⟨⟨bt s k km, bt s kw (ex (d + 1) m kw false).k, m + (ex (d + 1) m kw false).es.length - 1⟩, h5 hw.1, x3, by simp only; omega, x2, ?_⟩
    unfold AR.t
    simp only
    rw [bt_app s (b := km) (by omega) (by omega), bt_app s (a := km) (b := kw) (by omega) hmo.1]
    rw [h3] at hw
    rw [hw.2.2, List.append_assoc]
  rcases hc with rfl | rfl
  · unfold cItem at h hP ⊢
    simp only [skip_f] at h hP ⊢
    exact fin (fun x => TNum x (numV s (T.sk s k) false)) (numK s (T.sk s k) false) _ (numX s (T.sk s k) false) _ (numK_ge hp0) (numK_le hp0) rfl rfl (fun hh => by
      have h1 := num_txt hp0 hh
      rw [bt_from (numK_ge hp0)]
      exact h1.2.2) h hP (fun hh => by rw [hh]; exact hB _ _ _)
  · unfold cItem at h hP ⊢
    simp only [skip_f] at h hP ⊢
    exact fin (fun x => TBit x (btV s (T.sk s k) false) (btL s (T.sk s k) false)) (btK s (T.sk s k) false) _ (btX s (T.sk s k) false) _ (btK_ge hp0) (btK_le hp0) rfl rfl (fun hh => by
      have h1 := bits_txt hp0 hh
      rw [bt_from (btK_ge hp0)]
      exact h1.2.2) h hP (fun hh => by rw [hh]; exact hB _ _ _)
theorem itemsA_txt {ex : Int → Nat → Nat → Bool → CR} {n : Nat} (hM : ExMono ex s) (hB : ExBad ex) (hX : EGX s Y E lim ex n) {c : Int} (hc : c = 103 ∨ c = 109) (d : Int) : ∀ (N m k : Nat), k ≤ s.size → s.size + 1 ≤ N + k → s.size - k < n → (cItems ex s c d N m k false).b = false → lim ≤ m → Pos E m (cItems ex s c d N m k false).es →
    ∃ L : List AR, L.length = (cItems ex s c d N m k false).ims.length ∧ L ≠ [] ∧ (∀ a ∈ L, TX E Y a.txt a.num ∧ a.num < m + (cItems ex s c d N m k false).es.length) ∧ (∀ (i : Nat) (a : AR) (it : IM), L[i]? = some a → (cItems ex s c d N m k false).ims[i]? = some it → TKey c a.key it ∧ it.arm = (a.num : Int)) ∧ bt s k (cItems ex s c d N m k false).k = joi 44 (L.map AR.t) := by
  intro N
  induction N with
  | zero => intro m k h1 h2; omega
  | succ N ih =>
    intro m k hk hN hn hb hm hP
    have hmo := cItem_mono hM c d m k false hk
    have hit := itemA_txt hM hB hX hc d m k hk hn
    simp only [cItems] at hb hP ⊢
    generalize cItem ex s c d m k false = it at *
    have htl : ∀ b, takeK s 44 it.k b ≤ s.size := fun b => takeK_le (by decide) hmo.2.1
    have htg := takeK_ge s 44 it.k it.b
    have hitb : it.b = false := by
      cases hq : it.b with
      | false => rfl
      | true =>
        rw [hq] at hb
        have hdt := dead_take (s := s) (k := it.k) (b := true) (c := 44) (.inl rfl) (by decide) (by decide)
        rw [hdt.1] at hb
        simp at hb
    rw [hitb] at hb htg hP ⊢
    cases ht : takeB s 44 it.k false with
    | false =>
      rw [ht] at hb hP
      simp only [Bool.false_eq_true, if_false] at hb hP ⊢
      obtain ⟨a, a1, a2, a3, a4, a5⟩ := hit hitb hm hP
      refine ⟨[a], rfl, by simp, fun x hx => by simp at hx; subst hx; exact ⟨a2, a3⟩, fun i x z hx hz => ?_, ?_⟩
      · have hi0 : i = 0 := by have := (List.getElem?_eq_some_iff.1 hx).1; simpa using this
        subst hi0
        simp at hx hz
        subst hx hz
        exact ⟨a1, a4⟩
      · rw [bt_app s hmo.1 htg, take_no ht, List.append_nil, a5]
        rfl
    | true =>
      rw [ht] at hb hP
      simp only [if_true] at hb hP ⊢
      obtain ⟨a, a1, a2, a3, a4, a5⟩ := hit hitb hm hP.left
      have hty := take_yes (s := s) (k := it.k) (c := 44) (by decide) (by decide) ht
      have hsk := T.sk_ge s it.k
      obtain ⟨L, q1, q2, q3, q4, q5⟩ := ih (m + it.es.length) (takeK s 44 it.k false) (htl _) (by omega) (by omega) hb (by omega) hP.right
      have hq := cItems_mono hM c d N (m + it.es.length) (takeK s 44 it.k false) false (htl _)
      generalize cItems ex s c d N (m + it.es.length) (takeK s 44 it.k false) false = q at *
      refine ⟨a :: L, by simp [q1], by simp, fun x hx => ?_, fun i x z hx hz => ?_, ?_⟩
      · rcases List.mem_cons.1 hx with rfl | hx
        · exact ⟨a2, by simp only [List.length_append]; omega⟩
        · have := q3 x hx
          exact ⟨this.1, by simp only [List.length_append]; omega⟩
      · cases i with
        | zero =>
          simp at hx hz
          subst hx hz
          exact ⟨a1, a4⟩
        | succ i => exact q4 i x z (by simpa using hx) (by simpa using hz)
      · rw [List.map_cons, joi_cons 44 _ (by simpa using q2), ← q5, bt_app s hmo.1 (c := q.k) (by omega), bt_app s htg hq.1, hty.2, a5, List.append_assoc]
end
end Go.Proofs.YtaebngpoagjafaaGreat
namespace Go.Proofs.YtaebngpoagjafaaGreat
open Go.RowKit

theorem expr_txt {s : ByteArray} {rs : List RL} {Y : List (Int × List Int)} {E : List EX} {lim : Nat} (hR : RX rs Y E lim) (hnn : ∀ e ∈ E, e.kind = 61 → e.inner ≠ -1) : ∀ n, EGX s Y E lim (cE s rs n) n := by
  intro n
  induction n with
  | zero => intro d m k b _ h; omega
  | succ n ih =>
    intro d m k b hk hn hb hm hP
    have hM := cE_mono s rs n
    have hB := cE_bad s rs n
    have hbf : b = false := by
      cases hq : b with
      | false => rfl
      | true => rw [hq, cE_bad s rs (n + 1) d m k] at hb; cases hb
    subst hbf
    have hge := T.sk_ge s k
    have hle := T.sk_le hk
    have hss := sk_sk s k
    have hsf := skip_f s k
    cases hK : isK (hereF s (skipF s k false) false) with
    | false => rw [cE_no n d m k false hK] at hb; cases hb
    | true =>
      have hlt : T.sk s k < s.size := by have := (isK_lt hK).2; rw [hsf] at this; exact this
      obtain ⟨c, hc⟩ : ∃ c, T.ch s (T.sk s k) = c := ⟨_, rfl⟩
      have hcc : hereF s (skipF s k false) false = c := by rw [hsf, here_f, if_pos hlt]; exact hc
      rw [hcc] at hK
      have h8 : c = 123 ∨ c = 116 ∨ c = 64 ∨ c = 61 ∨ (c = 119 ∨ c = 102 ∨ c = 109 ∨ c = 103) := by
        simp [isK] at hK
        omega
      have hbc : T.bl c = false := by unfold T.bl; simp; omega
      have hk1 : bt s k (T.sk s k + 1) = [c] := by rw [bt_from (by omega), bt_one hc hbc]
      rcases h8 with rfl | rfl | rfl | rfl | h8
      · -- servers
        rw [cE_servers n d m k false hcc, hsf] at hb hP ⊢
        have hmo := cItems_mono hM 123 d (s.size + 1 - (T.sk s k + 1)) m (T.sk s k + 1) false (by omega)
        have hi := itemsP_txt hM (c := 123) (.inl rfl) d (s.size + 1 - (T.sk s k + 1)) m (T.sk s k + 1) (by omega) (by omega)
        generalize cItems (cE s rs n) s 123 d (s.size + 1 - (T.sk s k + 1)) m (T.sk s k + 1) false = l at *
        simp only at hb hP ⊢
        have hw := want_good (by decide) (by decide) hb
        obtain ⟨i1, L, i3, i4, i5, i6⟩ := hi hw.1
        have hE := hP.last
        have htg := takeK_ge s 125 l.k l.b
        refine ⟨by simp, by simp, ?_⟩
        rw [bt_app s (b := T.sk s k + 1) (by omega) (by omega), bt_app s (a := T.sk s k + 1) hmo.1 htg, hk1, i6, hw.2.2, List.length_append, List.length_singleton, show m + (l.es.length + 1) - 1 = m + l.es.length from by omega, ← List.append_assoc]
        exact TX.servers hE rfl i4 i3 i5
      · -- ttl
        rw [cE_ttl n d m k false hcc rfl rfl rfl, hsf] at hb hP ⊢
        have hb0 := takeK_ge s 40 (T.sk s k + 1) false
        have hb1 : takeK s 40 (T.sk s k + 1) false ≤ s.size := takeK_le (by decide) (by omega)
        have hw1 := want_good (s := s) (c := 40) (k := T.sk s k + 1) (b := false) (by decide) (by decide)
        generalize takeK s 40 (T.sk s k + 1) false = k1 at *
        generalize wantB s 40 (T.sk s k + 1) false = b1 at *
        have hb2 := numK_ge (b := b1) hb1
        have hb3 := numK_le (b := b1) hb1
        have hnu := num_txt (b := b1) hb1
        generalize hnv : numV s k1 b1 = nv at *
        generalize numK s k1 b1 = kn at *
        generalize numX s k1 b1 = bn at *
        have hb4 := takeK_ge s 44 kn bn
        have hb5 : takeK s 44 kn bn ≤ s.size := takeK_le (by decide) hb3
        have hw2 := want_good (s := s) (c := 44) (k := kn) (b := bn) (by decide) (by decide)
        generalize takeK s 44 kn bn = k2 at *
        generalize wantB s 44 kn bn = b2 at *
        have hmo := hM (d + 1) m k2 b2 hb5
        have hbd : b2 = true → (cE s rs n (d + 1) m k2 b2).b = true := fun h => by rw [h]; exact hB _ _ _
        have hI := ih (d + 1) m k2 b2 hb5 (by omega)
        generalize cE s rs n (d + 1) m k2 b2 = r at *
        simp only at hb hP ⊢
        have hw := want_good (by decide) (by decide) hb
        have hb2f : b2 = false := by cases hq : b2 with
          | false => rfl
          | true => rw [hbd hq] at hw; cases hw.1
        obtain ⟨x1, x2, x3⟩ := hI hw.1 hm hP.left
        have g2 := hw2 hb2f
        have gn := hnu g2.1
        have g1 := hw1 gn.1
        have hE := hP.last
        have htg := takeK_ge s 41 r.k r.b
        refine ⟨by simp, by simp, ?_⟩
        rw [bt_app s (b := T.sk s k + 1) (by omega) (by omega), bt_app s (a := T.sk s k + 1) (b := k1) hb0 (by omega), bt_app s (a := k1) (b := kn) hb2 (by omega), bt_app s (a := kn) (b := k2) hb4 (by omega), bt_app s (a := k2) hmo.1 htg, hk1, g1.2.2, g2.2.2, hw.2.2]
        rw [List.length_append, List.length_singleton, show m + (r.es.length + 1) - 1 = m + r.es.length from by omega]
        have := TX.ttl (Y := Y) hE rfl gn.2.2 x2 (by omega) x3
        simpa [joi] using this
      · -- alias
        rw [cE_alias n d m k false hcc, hsf] at hb hP ⊢
        simp only at hb hP ⊢
        have gn := num_txt (by omega) hb
        have hE := hP.last (a := [])
        rw [List.length_nil, Nat.add_zero] at hE
        refine ⟨by simp, by simp, ?_⟩
        rw [bt_app s (b := T.sk s k + 1) (by omega) (numK_ge (by omega)), hk1, List.length_singleton, Nat.add_sub_cancel]
        exact TX.alias hE rfl gn.2.2
      · -- name
        rw [cE_name n d m k false hcc, hsf] at hb hP ⊢
        simp only at hb hP ⊢
        have gl := let_good hb
        have hE := hP.last (a := [])
        rw [List.length_nil, Nat.add_zero] at hE
        have hin := hnn _ (List.mem_of_getElem? hE) rfl
        simp only at hin
        refine ⟨by simp, by simp, ?_⟩
        rw [bt_app s (b := T.sk s k + 1) (by omega) (letK_ge s _ _), hk1, gl.2.2.2.2, List.length_singleton, Nat.add_sub_cancel]
        rw [gl.2.2.2.1] at hE hin
        obtain ⟨t, i, n1, n2, n3, n4⟩ := name_at hR hin
        exact TX.name hE rfl rfl gl.2.2.1 n1 n2 (by omega) n4
      · -- lists
        rw [cE_list n d m k false hcc h8 rfl rfl rfl rfl, hsf] at hb hP ⊢
        have hb0 := takeK_ge s 40 (T.sk s k + 1) false
        have hb1 : takeK s 40 (T.sk s k + 1) false ≤ s.size := takeK_le (by decide) (by omega)
        have hw1 := want_good (s := s) (c := 40) (k := T.sk s k + 1) (b := false) (by decide) (by decide)
        generalize takeK s 40 (T.sk s k + 1) false = k1 at *
        generalize wantB s 40 (T.sk s k + 1) false = b1 at *
        have hli := cItems_mono hM c d (s.size + 1 - k1) m k1 b1 hb1
        have hbi : b1 = true → (cItems (cE s rs n) s c d (s.size + 1 - k1) m k1 b1).b = true := fun h => cItems_bad hB c d _ m k1 h
        have hIP : b1 = false → (c = 123 ∨ c = 102 ∨ c = 119) → (cItems (cE s rs n) s c d (s.size + 1 - k1) m k1 b1).b = false → (cItems (cE s rs n) s c d (s.size + 1 - k1) m k1 b1).es = [] ∧ ∃ L : List (List Int), L.length = (cItems (cE s rs n) s c d (s.size + 1 - k1) m k1 b1).ims.length ∧ L ≠ [] ∧ (∀ (i : Nat) (x : List Int) (it : IM), L[i]? = some x → (cItems (cE s rs n) s c d (s.size + 1 - k1) m k1 b1).ims[i]? = some it → TIt c x it) ∧ bt s k1 (cItems (cE s rs n) s c d (s.size + 1 - k1) m k1 b1).k = joi 44 L := fun h hc2 hb => by subst h; exact itemsP_txt hM hc2 d (s.size + 1 - k1) m k1 hb1 (by omega) hb
        have hIA : b1 = false → (c = 103 ∨ c = 109) → (cItems (cE s rs n) s c d (s.size + 1 - k1) m k1 b1).b = false → Pos E m (cItems (cE s rs n) s c d (s.size + 1 - k1) m k1 b1).es → ∃ L : List AR, L.length = (cItems (cE s rs n) s c d (s.size + 1 - k1) m k1 b1).ims.length ∧ L ≠ [] ∧ (∀ a ∈ L, TX E Y a.txt a.num ∧ a.num < m + (cItems (cE s rs n) s c d (s.size + 1 - k1) m k1 b1).es.length) ∧ (∀ (i : Nat) (a : AR) (it : IM), L[i]? = some a → (cItems (cE s rs n) s c d (s.size + 1 - k1) m k1 b1).ims[i]? = some it → TKey c a.key it ∧ it.arm = (a.num : Int)) ∧ bt s k1 (cItems (cE s rs n) s c d (s.size + 1 - k1) m k1 b1).k = joi 44 (L.map AR.t) := fun h hc2 hb hp => by subst h; exact itemsA_txt hM hB ih hc2 d (s.size + 1 - k1) m k1 hb1 (by omega) (by omega) hb hm hp
        generalize cItems (cE s rs n) s c d (s.size + 1 - k1) m k1 b1 = l at *
        have hb4 := takeK_ge s 124 l.k l.b
        have hb5 : takeK s 124 l.k l.b ≤ s.size := takeK_le (by decide) hli.2.1
        have hw2 := want_good (s := s) (c := 124) (k := l.k) (b := l.b) (by decide) (by decide)
        generalize takeK s 124 l.k l.b = k2 at *
        generalize wantB s 124 l.k l.b = b2 at *
        have hmo := hM (d + 1) (m + l.es.length) k2 b2 hb5
        have hbd : b2 = true → (cE s rs n (d + 1) (m + l.es.length) k2 b2).b = true := fun h => by rw [h]; exact hB _ _ _
        have hI := ih (d + 1) (m + l.es.length) k2 b2 hb5 (by omega)
        generalize cE s rs n (d + 1) (m + l.es.length) k2 b2 = r at *
        simp only at hb hP ⊢
        have hw := want_good (by decide) (by decide) hb
        have hb2f : b2 = false := by cases hq : b2 with
          | false => rfl
          | true => rw [hbd hq] at hw; cases hw.1
        have g2 := hw2 hb2f
        have hb1f : b1 = false := by cases hq : b1 with
          | false => rfl
          | true => rw [hbi hq] at g2; cases g2.1
        have g1 := hw1 hb1f
        obtain ⟨x1, x2, x3⟩ := hI hw.1 (by omega) hP.left.right
        have hE := hP.last
        have htg := takeK_ge s 41 r.k r.b
        refine ⟨by simp only [List.length_append, List.length_cons, List.length_nil]; omega, by simp only [List.length_append, List.length_cons, List.length_nil]; omega, ?_⟩
        rw [bt_app s (b := T.sk s k + 1) (by omega) (by omega), bt_app s (a := T.sk s k + 1) (b := k1) hb0 (by omega), bt_app s (a := k1) (b := l.k) hli.1 (by omega), bt_app s (a := l.k) (b := k2) hb4 (by omega), bt_app s (a := k2) hmo.1 htg, hk1, g1.2.2, g2.2.2, hw.2.2]
        have hLn : m + (l.es ++ r.es).length = m + l.es.length + r.es.length := by rw [List.length_append]; omega
        rw [hLn] at hE
        have hLm : m + (l.es ++ r.es ++ [(⟨c, T.sk s k, d, 0, 0, l.ims, r.idx⟩ : EX)]).length - 1 = m + l.es.length + r.es.length := by simp only [List.length_append, List.length_cons, List.length_nil]; omega
        rw [hLm]
        by_cases hpl : c = 123 ∨ c = 102 ∨ c = 119
        · obtain ⟨i1, L, i3, i4, i5, i6⟩ := hIP hb1f hpl g2.1
          rw [i6]
          have := TX.list (Y := Y) (c := c) hE rfl (by omega) i4 i3 i5 x2 (by omega) x3
          simpa [joi] using this
        · obtain ⟨L, i1, i2, i3, i4, i5⟩ := hIA hb1f (by omega) g2.1 hP.left.left
          rw [i5]
          have hget : ∀ i, i < L.length → ∃ a ∈ L, L[i]? = some a ∧ (L[i]?).getD arD = a := fun i hi => ⟨L[i], List.getElem_mem _, List.getElem?_eq_getElem hi, by rw [List.getElem?_eq_getElem hi]; rfl⟩
          have := TX.maps (E := E) (Y := Y) (c := c) (m := L.length) (ks := fun i => ((L[i]?).getD arD).key) (ar := fun i => ((L[i]?).getD arD).txt) (an := fun i => ((L[i]?).getD arD).num) (o := bt s k2 r.k) hE rfl (by omega) (List.length_pos_iff.2 i2) i1.symm
            (fun i it hit => by
              have hil : i < L.length := by have := (List.getElem?_eq_some_iff.1 hit).1; simp only at this; omega
              obtain ⟨a, ha, e1, e2⟩ := hget i hil
              have h1 := i4 i a it e1 hit
              have h2 := (i3 a ha).2
              simp only [e2]
              exact ⟨h1.1, h1.2, by omega⟩) (fun i hi => by obtain ⟨a, ha, e1, e2⟩ := hget i hi; simp only [e2]; exact (i3 a ha).1) x2 (by omega) x3
          have e2 : (List.range L.length).map (fun i => ((L[i]?).getD arD).key ++ [58] ++ ((L[i]?).getD arD).txt) = L.map AR.t := range_map L AR.t
          rw [e2] at this
          simpa [joi] using this
end Go.Proofs.YtaebngpoagjafaaGreat
namespace Go.Proofs.YtaebngpoagjafaaGreat
open Go.RowKit

theorem RX.mono {rs : List RL} {Y : List (Int × List Int)} {E : List EX} {a b : Nat} (h : RX rs Y E a) (hab : a ≤ b) : RX rs Y E b := ⟨h.len, fun i r y hr hy => by
  obtain ⟨h1, j, h2, h3, h4⟩ := h.at_ i r y hr hy
  exact ⟨h1, j, h2, by omega, h4⟩⟩
theorem RX.snoc {rs : List RL} {Y : List (Int × List Int)} {E : List EX} {a b : Nat} (h : RX rs Y E a) (hab : a ≤ b) {r : RL} {x : List Int} {j : Nat} (hj : r.ex = (j : Int)) (hjb : j < b) (hx : TX E Y x j) : RX (rs ++ [r]) (Y ++ [(r.nv, x)]) E b := ⟨by simp [h.len], fun i r' y hr hy => by
  by_cases hi : i < rs.length
  · rw [List.getElem?_append_left hi] at hr
    rw [List.getElem?_append_left (by have := h.len; omega)] at hy
    obtain ⟨h1, j, h2, h3, h4⟩ := h.at_ i r' y hr hy
    exact ⟨h1, j, h2, by omega, h4.app _⟩
  · have hil := (List.getElem?_eq_some_iff.1 hr).1
    simp at hil
    have hie : i = rs.length := by omega
    subst hie
    rw [List.getElem?_append_right (Nat.le_refl _), Nat.sub_self] at hr
    rw [← h.len, List.getElem?_append_right (Nat.le_refl _), Nat.sub_self] at hy
    simp at hr hy
    subst hr hy
    exact ⟨rfl, j, hj, hjb, hx.app _⟩⟩
theorem rules_txt {s : ByteArray} {E : List EX} (hnn : ∀ e ∈ E, e.kind = 61 → e.inner ≠ -1) : ∀ (N : Nat) (rs : List RL) (Y0 : List (Int × List Int)) (m k : Nat), k ≤ s.size → s.size + 1 ≤ N + k → (cRules s N rs m k false).b = false → Pos E m (cRules s N rs m k false).es → RX rs Y0 E m →
    ∃ Y1 : List (Int × List Int), Y1 ≠ [] ∧ bt s k (cRules s N rs m k false).k = joi 59 (Y1.map ruT) ∧ (∀ y ∈ Y1, 97 ≤ y.1 ∧ y.1 ≤ 122) ∧ RX (cRules s N rs m k false).rs (Y0 ++ Y1) E (m + (cRules s N rs m k false).es.length) ∧ 1 ≤ (cRules s N rs m k false).es.length ∧ ∃ r, (cRules s N rs m k false).rs.getLast? = some r ∧ r.ex = ((m + (cRules s N rs m k false).es.length - 1 : Nat) : Int) := by
  intro N
  induction N with
  | zero => intro rs Y0 m k h1 h2; omega
  | succ N ih =>
    intro rs Y0 m k hk hN hb hP hRX
    have hmo := cRule_mono s rs m k false hk
    have hcr : cRule s rs m k false = ⟨⟨hereF s (skipF s k false) false, skipF s k false, (cE s rs (s.size + 1) 0 m (takeK s 58 (letK s k false) (letX s k false)) (wantB s 58 (letK s k false) (letX s k false))).idx⟩, (cE s rs (s.size + 1) 0 m (takeK s 58 (letK s k false) (letX s k false)) (wantB s 58 (letK s k false) (letX s k false))).es, (cE s rs (s.size + 1) 0 m (takeK s 58 (letK s k false) (letX s k false)) (wantB s 58 (letK s k false) (letX s k false))).k, (cE s rs (s.size + 1) 0 m (takeK s 58 (letK s k false) (letX s k false)) (wantB s 58 (letK s k false) (letX s k false))).b⟩ := rfl
    simp only [cRules] at hb hP ⊢
    have hEG := expr_txt (s := s) hRX hnn (s.size + 1)
    have hl0 := letK_ge s k false
    have hl1 := letK_le (b := false) hk
    have hb0 := takeK_ge s 58 (letK s k false) (letX s k false)
    have hb1 : takeK s 58 (letK s k false) (letX s k false) ≤ s.size := takeK_le (by decide) hl1
    have hitg : (cRule s rs m k false).b = false → Pos E m (cRule s rs m k false).es → 1 ≤ (cRule s rs m k false).es.length ∧ (cRule s rs m k false).rl.ex = ((m + (cRule s rs m k false).es.length - 1 : Nat) : Int) ∧ (97 ≤ (cRule s rs m k false).rl.nv ∧ (cRule s rs m k false).rl.nv ≤ 122) ∧ ∃ x, bt s k (cRule s rs m k false).k = [(cRule s rs m k false).rl.nv, 58] ++ x ∧ TX E Y0 x (m + (cRule s rs m k false).es.length - 1) := by
      rw [hcr]
      simp only
      intro hh hp
      have hbw : wantB s 58 (letK s k false) (letX s k false) = false := by
        cases hq : wantB s 58 (letK s k false) (letX s k false) with
        | false => rfl
        | true => rw [hq, cE_bad s rs (s.size + 1)] at hh; cases hh
      have hw := want_good (by decide) (by decide) hbw
      have hl := let_good hw.1
      obtain ⟨x1, x2, x3⟩ := hEG 0 m _ _ hb1 (by omega) hh (Nat.le_refl _) hp
      have hmo2 := cE_mono s rs (s.size + 1) 0 m (takeK s 58 (letK s k false) (letX s k false)) (wantB s 58 (letK s k false) (letX s k false)) hb1
      refine ⟨x1, x2, by rw [hl.2.2.2.1]; exact hl.2.2.1, _, ?_, x3⟩
      rw [bt_app s hl0 (by omega), bt_app s hb0 hmo2.1, hl.2.2.2.2, hw.2.2, hl.2.2.2.1]
      rfl
    generalize cRule s rs m k false = it at *
    have htl : ∀ b, takeK s 59 it.k b ≤ s.size := fun b => takeK_le (by decide) hmo.2.1
    have htg := takeK_ge s 59 it.k it.b
    have hitb : it.b = false := by
      cases hq : it.b with
      | false => rfl
      | true =>
        rw [hq] at hb
        have hdt := dead_take (s := s) (k := it.k) (b := true) (c := 59) (.inl rfl) (by decide) (by decide)
        rw [hdt.1] at hb
        simp at hb
    rw [hitb] at hb htg hP ⊢
    cases ht : takeB s 59 it.k false with
    | false =>
      rw [ht] at hb hP
      simp only [Bool.false_eq_true, if_false] at hb hP ⊢
      obtain ⟨y1, y2, y3, x, y4, y5⟩ := hitg hitb hP
      refine ⟨[(it.rl.nv, x)], by simp, ?_, fun y hy => by simp at hy; subst hy; exact y3, hRX.snoc (by omega) y2 (by omega) y5, y1, it.rl, by simp, y2⟩
      rw [bt_app s hmo.1 htg, take_no ht, List.append_nil, y4]
      rfl
    | true =>
      rw [ht] at hb hP
      simp only [if_true] at hb hP ⊢
      obtain ⟨y1, y2, y3, x, y4, y5⟩ := hitg hitb hP.left
      have hty := take_yes (s := s) (k := it.k) (c := 59) (by decide) (by decide) ht
      have hsk := T.sk_ge s it.k
      obtain ⟨Y, q1, q2, q3, q4, q5, r, q6, q7⟩ := ih (rs ++ [it.rl]) (Y0 ++ [(it.rl.nv, x)]) (m + it.es.length) (takeK s 59 it.k false) (htl _) (by omega) hb hP.right (hRX.snoc (by omega) y2 (by omega) y5)
      have hqm := cRules_mono s N (rs ++ [it.rl]) (m + it.es.length) (takeK s 59 it.k false) false (htl _)
      generalize cRules s N (rs ++ [it.rl]) (m + it.es.length) (takeK s 59 it.k false) false = q at *
      refine ⟨(it.rl.nv, x) :: Y, by simp, ?_, fun y hy => ?_, ?_, by simp only [List.length_append]; omega, r, q6, by rw [q7, List.length_append]; congr 1; omega⟩
      · rw [List.map_cons, joi_cons 59 _ (by simpa using q1), ← q2, bt_app s hmo.1 (c := q.k) (by omega), bt_app s htg (by omega), hty.2, y4]
        simp [ruT]
      · rcases List.mem_cons.1 hy with rfl | hy
        · exact y3
        · exact q3 y hy
      · rw [List.append_assoc, List.singleton_append] at q4
        rw [List.length_append, ← Nat.add_assoc]
        exact q4

/-- What is known of a text that is a policy: its rules' texts, the program's expressions, what stands in the document's reader. -/
structure Pol (s : ByteArray) (Y : List (Int × List Int)) : Prop where
  ne : Y ≠ []
  let_ : ∀ y ∈ Y, 97 ≤ y.1 ∧ y.1 ≤ 122
  rx : RX (cAll s).rs Y (cAll s).es (cAll s).es.length
  pos : 1 ≤ (cAll s).es.length
  last : ∃ r, (cAll s).rs.getLast? = some r ∧ r.ex = (((cAll s).es.length - 1 : Nat) : Int)
  br : Go.Proofs.YtaebngpoagjafaaGreat.bare s = strOfNums (joi 59 (Y.map ruT))
  sp : Go.Proofs.YtaebngpoagjafaaGreat.spl (Go.Proofs.YtaebngpoagjafaaGreat.bare s) 59 = (Y.map ruT).map strOfNums
theorem ok_parts {s : ByteArray} (hc0 : (cChk s).1 = 0) : s.size ≤ 2000 ∧ (cAll s).b = false ∧ (cAll s).k = s.size ∧ (fAll (cAll s).es (cAll s).rs).1 = 0 := by
  have hs : s.size ≤ 2000 := by
    by_cases hh : 2000 < s.size
    · unfold cChk at hc0; rw [if_pos hh] at hc0; cases hc0
    · omega
  have hg : ((cAll s).b || decide ((cAll s).k < s.size)) = false ∧ (fAll (cAll s).es (cAll s).rs).1 = 0 := by
    unfold cChk at hc0
    rw [if_neg (by omega)] at hc0
    split at hc0
    · cases hc0
    · next hh =>
      refine ⟨by simpa using hh, ?_⟩
      split at hc0
      · next h => exact h
      · next h => exact absurd hc0 h
  have hCb : (cAll s).b = false := by cases hq : (cAll s).b with
    | false => rfl
    | true => rw [hq] at hg; cases hg.1
  have hmo := cRules_mono s (s.size + 1) [] 0 0 false (Nat.zero_le _)
  refine ⟨hs, hCb, ?_, hg.2⟩
  have h1 := hg.1
  rw [hCb, Bool.false_or] at h1
  have h2 : ¬ (cAll s).k < s.size := of_decide_eq_false h1
  have h3 : (cAll s).k ≤ s.size := hmo.2
  omega
theorem pol_ok {s : ByteArray} (hc0 : (cChk s).1 = 0) : ∃ Y, Pol s Y := by
  obtain ⟨hs, hCb, hCk, hF⟩ := ok_parts hc0
  have hnn : ∀ e ∈ (cAll s).es, e.kind = 61 → e.inner ≠ -1 := fun e he hk hi => by
    rcases fAll_min (cAll s).es (cAll s).rs with ⟨_, h2⟩ | ⟨h1, _⟩
    · exact h2 5 e.na (.inl ⟨e, he, .inl (.inr (.inr (.inr ⟨hk, hi, rfl, rfl⟩)))⟩)
    · exact absurd hF h1
  obtain ⟨Y, y1, y2, y3, y4, y5, y6⟩ := rules_txt (s := s) hnn (s.size + 1) [] [] 0 0 (Nat.zero_le _) (by omega) hCb (fun i e he => by rw [Nat.zero_add]; exact he) ⟨rfl, fun i r y hr => by simp at hr⟩
  have hcA : cRules s (s.size + 1) [] 0 0 false = cAll s := rfl
  rw [hcA] at y2 y4 y5 y6
  rw [hCk] at y2
  simp only [List.nil_append, Nat.zero_add] at y4 y6
  have hbare : Go.Proofs.YtaebngpoagjafaaGreat.bare s = strOfNums (joi 59 (Y.map ruT)) := by unfold Go.Proofs.YtaebngpoagjafaaGreat.bare; rw [brL_bt, y2]
  have hX : ∀ (i : Nat) (y : Int × List Int), Y[i]? = some y → (97 ≤ y.1 ∧ y.1 ≤ 122) ∧ ∃ j, TX (cAll s).es Y y.2 j := fun i y hy => by
    refine ⟨y3 y (List.mem_of_getElem? hy), ?_⟩
    have hil := (List.getElem?_eq_some_iff.1 hy).1
    have hl := y4.len
    obtain ⟨_, j, _, _, h⟩ := y4.at_ i _ y (List.getElem?_eq_getElem (by omega)) hy
    exact ⟨j, h⟩
  have hYb : ∀ x ∈ Y.map ruT, Byt x := fun x hx => by
    simp only [List.mem_map] at hx
    obtain ⟨y, hy, rfl⟩ := hx
    obtain ⟨i, hi⟩ := List.getElem?_of_mem hy
    obtain ⟨h1, j, h2⟩ := hX i y hi
    exact Byt.app (a := [y.1, 58]) (fun z hz => by simp at hz; rcases hz with rfl | rfl <;> omega) h2.byt
  have hsz : ∀ i : Nat, ∃ n : Int, ∀ y, Y[i]? = some y → SZL .empty [] y.2 n := fun i => by
    cases hy : Y[i]? with
    | none => exact ⟨0, fun y h => by cases h⟩
    | some y =>
      obtain ⟨_, j, h2⟩ := hX i y hy
      obtain ⟨n, hn⟩ := h2.szl .empty []
      exact ⟨n, fun y' h => by simp at h; subst h; exact hn⟩
  obtain ⟨ns, hns⟩ := Classical.axiomOfChoice hsz
  refine ⟨Y, y1, y3, y4, y5, y6, hbare, ?_⟩
  rw [hbare, spl_list (joi_byt hYb), spl59 (nm := .empty) (K := fun _ => []) (n := ns) Y 0 y1 (fun i y hy => ⟨(hX i y hy).1, by rw [Nat.zero_add]; exact hns i y hy⟩)]
end Go.Proofs.YtaebngpoagjafaaGreat
namespace Go.Proofs.YtaebngpoagjafaaGreat
open Go.RowKit

theorem fis_at {c : Int} : ∀ (l pre : List IM), (∀ err a, ¬ FIs c pre l err a) → ∀ (i : Nat) (x : IM), l[i]? = some x → ∀ err a, ¬ FIm c (pre ++ l.take i) x err a := by
  intro l
  induction l with
  | nil => intro pre _ i x hx; simp at hx
  | cons y l ih =>
    intro pre h i x hx err a
    cases i with
    | zero =>
      simp only [List.getElem?_cons_zero, Option.some.injEq] at hx
      subst hx
      simp only [List.take_zero, List.append_nil]
      exact fun hf => h err a (.inl hf)
    | succ i =>
      rw [List.getElem?_cons_succ] at hx
      have := ih (pre ++ [y]) (fun err a hf => h err a (.inr hf)) i x hx err a
      rwa [List.append_assoc, List.singleton_append, ← List.take_succ_cons] at this
/-- What is not wrong. -/
structure NF (e : EX) : Prop where
  ttl : e.kind = 116 → 1 ≤ e.nv ∧ e.nv ≤ 86400
  ali : e.kind = 64 → 0 ≤ e.nv ∧ e.nv ≤ 15
  len : e.items.length ≤ 16
  num : e.kind = 123 ∨ e.kind = 102 ∨ e.kind = 119 → ∀ x ∈ e.items, 0 ≤ x.num ∧ x.num ≤ 63
  wgt : e.kind = 119 → ∀ x ∈ e.items, 1 ≤ x.wv ∧ x.wv ≤ 1000
  reg : e.kind = 103 → ∀ x ∈ e.items, 0 ≤ x.num ∧ x.num ≤ 99
  one : ∀ (a b : Nat) (x y : IM), e.items[a]? = some x → e.items[b]? = some y → x.num = y.num → x.pv = y.pv → x.pl = y.pl → a = b
theorem nf_of {e : EX} (h1 : ∀ err a, ¬ FEx e err a) (h2 : ∀ err a, ¬ FIs e.kind [] e.items err a) : NF e := by
  have h3 := fis_at e.items [] h2
  simp only [List.nil_append] at h3
  have hone : ∀ (a b : Nat) (x y : IM), a < b → e.items[a]? = some x → e.items[b]? = some y → x.num = y.num → x.pv = y.pv → x.pl = y.pl → False := by
    intro a b x y hab hx hy e1 e2 e3
    refine h3 b y hy 7 y.at_ (.inr (.inl ⟨?_, rfl, rfl⟩))
    rw [List.any_eq_true]
    refine ⟨x, ?_, by simp [sameI, e1, e2, e3]⟩
    exact List.mem_of_getElem? (i := a) (by rw [List.getElem?_take, if_pos hab]; exact hx)
  refine ⟨fun hk => ?_, fun hk => ?_, ?_, fun hk x hx => ?_, fun hk x hx => ?_, fun hk x hx => ?_, fun a b x y hx hy e1 e2 e3 => ?_⟩
  · have := h1 6 e.na
    unfold FEx at this
    simp only [hk, not_or, not_and, true_and, and_true] at this
    have := this.2.1
    omega
  · have := h1 6 e.na
    unfold FEx at this
    simp only [hk, not_or, not_and, true_and, and_true] at this
    have := this.2.2.1
    omega
  · by_cases hl : e.items.length ≤ 16
    · exact hl
    · obtain ⟨x, hx⟩ : ∃ x, e.items[16]? = some x := ⟨e.items[16]'(by omega), List.getElem?_eq_getElem (by omega)⟩
      exact absurd (.inl ⟨by rw [List.length_take]; omega, rfl, rfl⟩) (h3 16 x hx 4 x.at_)
  · obtain ⟨i, hi⟩ := List.getElem?_of_mem hx
    have := h3 i x hi 6 x.at_
    by_cases hb : x.num < 0 ∨ 63 < x.num
    · exact absurd (.inr (.inr (.inl ⟨hk, hb, rfl, rfl⟩))) this
    · omega
  · obtain ⟨i, hi⟩ := List.getElem?_of_mem hx
    have := h3 i x hi 6 x.wa
    by_cases hb : x.wv < 1 ∨ 1000 < x.wv
    · exact absurd (.inr (.inr (.inr (.inl ⟨hk, hb, rfl, rfl⟩)))) this
    · omega
  · obtain ⟨i, hi⟩ := List.getElem?_of_mem hx
    have := h3 i x hi 6 x.at_
    by_cases hb : x.num < 0 ∨ 99 < x.num
    · exact absurd (.inr (.inr (.inr (.inr ⟨hk, hb, rfl, rfl⟩)))) this
    · omega
  · rcases Nat.lt_trichotomy a b with h | h | h
    · exact (hone a b x y h hx hy e1 e2 e3).elim
    · exact h
    · exact (hone b a y x h hy hx e1.symm e2.symm e3.symm).elim
theorem p2_pow (n : Nat) : M.p2 n = 2 ^ n := by
  induction n with
  | zero => rfl
  | succ n ih => rw [M.p2_succ, ih, Int.pow_succ]
theorem TBit.isP {x : List Int} {v l : Int} (h : TBit x v l) (h0 : 0 ≤ v) (h1 : v < 4294967296) : M.isP v l = true := by
  rw [M.isP_iff]
  have hl := h.len
  have hle := h.le
  refine ⟨by omega, by omega, h0, h1, ?_⟩
  have e : (32 - l).toNat = 32 - x.length := by omega
  rw [e, p2_pow, h.val]
  exact Int.mul_emod_left _ _
theorem TX.good {E : List EX} {Y : List (Int × List Int)} (hb : AllB E) (hn : ∀ e ∈ E, NF e) {t : List Int} {j : Nat} (h : TX E Y t j) : GD E j := by
  induction h with
  | @servers j e l h1 h2 h3 h4 h5 =>
    have me := List.mem_of_getElem? h1
    have b := hb e me
    have n := hn e me
    have hl : 0 < l.length := List.length_pos_iff.2 h3
    exact GD.servers h1 h2 (by omega) n.len (fun x hx => ⟨(n.num (.inl h2) x hx).1, (n.num (.inl h2) x hx).2, (b.it x hx).arm (by omega) (by omega)⟩) (b.inn (.inl h2))
  | @alias j e x h1 h2 h3 =>
    have me := List.mem_of_getElem? h1
    have b := hb e me
    have n := hn e me
    exact GD.alias h1 h2 (n.ali h2).1 (n.ali h2).2 (b.emp (.inl h2)) (b.inn (.inr h2))
  | @name j i e c t h1 h2 h3 h4 h5 h6 h7 _ ih =>
    exact GD.name h1 h2 ((hb e (List.mem_of_getElem? h1)).emp (.inr (.inr h2))) h6 h7 ih
  | @ttl j i e x o h1 h2 h3 h4 h5 _ ih =>
    have me := List.mem_of_getElem? h1
    have n := hn e me
    exact GD.ttl h1 h2 (n.ttl h2).1 (n.ttl h2).2 ((hb e me).emp (.inr (.inl h2))) h4 h5 ih
  | @list j i e c l o h1 h2 h3 h4 h5 h6 h7 h8 _ ih =>
    have me := List.mem_of_getElem? h1
    have b := hb e me
    have n := hn e me
    have hl : 0 < l.length := List.length_pos_iff.2 h4
    have hk : e.kind = 119 ∨ e.kind = 102 := by omega
    refine GD.list h1 hk (by omega) n.len (fun x hx => ⟨(n.num (by omega) x hx).1, (n.num (by omega) x hx).2, (b.it x hx).arm (by omega) (by omega), fun h => n.wgt h x hx⟩) h7 h8 ih
  | @maps j i e c m ks ar an o h1 h2 h3 h4 h5 h6 _ h8 h9 _ iha iho =>
    have me := List.mem_of_getElem? h1
    have b := hb e me
    have n := hn e me
    have hk : e.kind = 109 ∨ e.kind = 103 := by omega
    refine GD.maps (an := an) h1 hk (by omega) n.len (fun x hx => ⟨fun hk => ?_, fun hk => n.reg hk x hx⟩) (fun hk a b' x y hx hy e1 => ?_) (fun hk a b' x y hx hy e2 e3 => ?_) (fun k x hx => (h6 k x hx).2) (fun k hk => iha k (by omega)) h8 h9 iho
    · obtain ⟨k, hk2⟩ := List.getElem?_of_mem hx
      have h10 := (h6 k x hk2).1
      unfold TKey at h10
      rw [if_pos (by omega)] at h10
      have := (b.it x hx).pv
      exact h10.isP this.1 this.2
    · have p1 := (b.it x (List.mem_of_getElem? hx)).zp (by omega)
      have p2 := (b.it y (List.mem_of_getElem? hy)).zp (by omega)
      exact n.one a b' x y hx hy e1 (by rw [p1.1, p2.1]) (by rw [p1.2, p2.2])
    · have p1 := (b.it x (List.mem_of_getElem? hx)).zn hk
      have p2 := (b.it y (List.mem_of_getElem? hy)).zn hk
      exact n.one a b' x y hx hy (by rw [p1, p2]) e2 e3
theorem nf_ok {s : ByteArray} (hc0 : (cChk s).1 = 0) : ∀ e ∈ (cAll s).es, NF e := by
  obtain ⟨_, _, _, hF⟩ := ok_parts hc0
  intro e he
  rcases fAll_min (cAll s).es (cAll s).rs with ⟨_, h2⟩ | ⟨h1, _⟩
  · exact nf_of (fun err a hf => h2 err a (.inl ⟨e, he, .inl hf⟩)) (fun err a hf => h2 err a (.inl ⟨e, he, .inr hf⟩))
  · exact absurd hF h1
/-- Of a policy the last expression is right, with all that it needs. -/
theorem good_ok {s : ByteArray} (hc0 : (cChk s).1 = 0) : 0 < (cAll s).es.length ∧ GD (cAll s).es ((cAll s).es.length - 1) := by
  obtain ⟨Y, hp⟩ := pol_ok hc0
  refine ⟨hp.pos, ?_⟩
  obtain ⟨r, hr, hrx⟩ := hp.last
  have hne : (cAll s).rs ≠ [] := fun h => by rw [h] at hr; cases hr
  have hl : 0 < (cAll s).rs.length := List.length_pos_iff.2 hne
  have hri : (cAll s).rs[(cAll s).rs.length - 1]? = some r := by rw [List.getLast?_eq_getElem?] at hr; exact hr
  obtain ⟨y, hy⟩ : ∃ y, Y[(cAll s).rs.length - 1]? = some y := ⟨Y[(cAll s).rs.length - 1]'(by have := hp.rx.len; omega), List.getElem?_eq_getElem _⟩
  obtain ⟨_, j, hj, _, hx⟩ := hp.rx.at_ _ r y hri hy
  have hjj : j = (cAll s).es.length - 1 := by rw [hrx] at hj; omega
  rw [hjj] at hx
  exact hx.good (cAll_sh s) (nf_ok hc0)
/-- Code has one byte at least. -/
theorem GD.enc_pos {E : List EX} {j : Nat} (h : GD E j) : 1 ≤ (encN E (j + 1)).length := by
  induction h with
  | @servers j e he hk _ _ _ _ => simp only [encN, he, encE]; rw [if_neg (by omega), List.length_append]; have := headL_len (encK E j) e e.items.length; omega
  | @alias j e he hk _ _ _ _ => simp only [encN, he, encE]; rw [if_neg (by omega), List.length_append]; have := headL_len (encK E j) e e.items.length; omega
  | @name j i e he hk _ hin hij _ ih => have hen : encN E (j + 1) = encN E (i + 1) := by simp only [encN, he, encE]; rw [if_pos hk, hin, atL_en E hij]; rfl
                                        rw [hen]; exact ih
  | @ttl j i e he hk _ _ _ _ _ _ _ => simp only [encN, he, encE]; rw [if_neg (by omega), List.length_append]; have := headL_len (encK E j) e e.items.length; omega
  | @list j i e he hk _ _ _ _ _ _ _ => simp only [encN, he, encE]; rw [if_neg (by omega), List.length_append]; have := headL_len (encK E j) e e.items.length; omega
  | @maps j i e an he hk _ _ _ _ _ _ _ _ _ _ _ _ => simp only [encN, he, encE]; rw [if_neg (by omega), List.length_append]; have := headL_len (encK E j) e e.items.length; omega
end Go.Proofs.YtaebngpoagjafaaGreat
namespace Go.Proofs.YtaebngpoagjafaaGreat
open Go.RowKit

/-- A list that came out, all of it written with a mark. -/
def MkL (w : World) (t : TypeId) (m : Value) (v : Value) : Prop := ∃ o c, v = .slice o c c ∧ c ≤ 9223372036854775807 ∧ (0 < c → ∃ (g : Nat) (cur : Array Value), o = some ⟨g, 0, none⟩ ∧ w.heap[g]? = some (.cells cur t (0, 0)) ∧ cur.size = c ∧ ∀ j, j < c → cur[j]? = some m)
theorem MkL.of_kept {w w' : World} {t : TypeId} {m v : Value} (h : MkL w t m v) (hk : ∀ (g : Nat) (cur : Array Value), w.heap[g]? = some (.cells cur t (0, 0)) → w'.heap[g]? = w.heap[g]?) : MkL w' t m v := by
  obtain ⟨o, c, h1, hc, h2⟩ := h
  refine ⟨o, c, h1, hc, fun h0 => ?_⟩
  obtain ⟨g, cur, h3, h4, h5, h6⟩ := h2 h0
  exact ⟨g, cur, h3, (hk g cur h4).trans h4, h5, h6⟩
def cdC (cs : List (ByteArray × ByteArray)) : List Value := cs.flatMap (fun x => [.string x.1, .string x.2])
/-- THE STATE IN MEMORY, behind n steps. -/
structure ST (w : World) (base SB n : Nat) (wv cv sv iv bv : Value) (cs : List (ByteArray × ByteArray)) (is bs : List Value) : Prop where
  blk : w.heap[SB]? = some (.cells #[wv, cv, sv, iv, bv] 64 (0, 0))
  cr : w.ownsRow base 127 2 cv cs.length (cdC cs)
  ir : w.ownsRow base 25 1 iv is.length is
  br : w.ownsRow base 48 1 bv bs.length bs
  ok : ∀ x ∈ cs, cpE x.1 = 0 ∧ x.2 = strOfNums (cpX x.1)
  im : ∀ (i : Nat) (v : Value), is[i]? = some v → MkL w 3 (.int .i64 (-1000 - (i : Int))) v
  bm : ∀ (i : Nat) (v : Value), bs[i]? = some v → MkL w 5 (.int .u8 (200 + (i : Int) % 50)) v
  hB : base ≤ SB
  nc : cs.length ≤ n
  ni : is.length ≤ n
  nb : bs.length ≤ n
theorem ST.lt {w : World} {base SB n wv cv sv iv bv cs is bs} (h : ST w base SB n wv cv sv iv bv cs is bs) : SB < w.heap.size := lt_of_block h.blk
theorem ST.below {w w' : World} {base SB n wv cv sv iv bv cs is bs} (h : ST w base SB n wv cv sv iv bv cs is bs) (hb : Below w.heap.size w w') : ST w' base SB n wv cv sv iv bv cs is bs :=
  ⟨(hb.block _ h.lt).trans h.blk, owns_of_block h.cr (fun g hg => hb.block g (h.cr.lt g hg).2), owns_of_block h.ir (fun g hg => hb.block g (h.ir.lt g hg).2), owns_of_block h.br (fun g hg => hb.block g (h.br.lt g hg).2), h.ok, fun i v hv => (h.im i v hv).of_kept (fun g _ hg => hb.block g (lt_of_block hg)), fun i v hv => (h.bm i v hv).of_kept (fun g _ hg => hb.block g (lt_of_block hg)), h.hB, h.nc, h.ni, h.nb⟩
theorem ST.mono {w : World} {base SB n wv cv sv iv bv cs is bs} (h : ST w base SB n wv cv sv iv bv cs is bs) : ST w base SB (n + 1) wv cv sv iv bv cs is bs :=
  ⟨h.blk, h.cr, h.ir, h.br, h.ok, h.im, h.bm, h.hB, by have := h.nc; omega, by have := h.ni; omega, by have := h.nb; omega⟩
theorem ST.c {w : World} {base SB n wv cv sv iv bv cs is bs} (h : ST w base SB n wv cv sv iv bv cs is bs) (j : Nat) : w.cell? ⟨SB, j, none⟩ = #[wv, cv, sv, iv, bv][j]? := by rw [cell_of_row _ _ _ _ _ _ h.blk]
theorem ST.fz {w : World} {base SB n wv cv sv iv bv cs is bs} (h : ST w base SB n wv cv sv iv bv cs is bs) (j : Nat) : w.frozen? ⟨SB, j, none⟩ = false := by simp [World.frozen?, h.blk]

attribute [local go_sem ↓] Go.wp_at_zero Go.wp_at_succ
set_option maxHeartbeats 400000 in
theorem markByte_any (n : Nat) (w : World) (hn : n ≤ 9223372036854775807) : Calls Tryz.prog 52 #[.int .i64 n] w fun e w' => e = .returned (.int .u8 (200 + (n : Int) % 50)) ∧ w' = w := by
  have ht : (n : Int).tmod 50 = (n : Int) % 50 := Int.tmod_eq_emod_of_nonneg (by omega)
  have h0 : 0 ≤ (n : Int) % 50 := by omega
  have h1 : (n : Int) % 50 < 50 := by omega
  generalize hq : (n : Int) % 50 = q at *
  clear hq
  go_enter Tryz.func52, Tryz.ntmps52
  go_wp2_with fail
  go_ret
  exact ⟨rfl, rfl⟩
set_option maxHeartbeats 400000 in
theorem markInt_any (n : Nat) (w : World) (hn : n ≤ 1000000000000000) : Calls Tryz.prog 51 #[.int .i64 n] w fun e w' => e = .returned (.int .i64 (-1000 - (n : Int))) ∧ w' = w := by
  go_enter Tryz.func51, Tryz.ntmps51
  go_wp2_with fail
  go_ret
  exact ⟨rfl, rfl⟩

set_option maxRecDepth 100000 in
set_option maxHeartbeats 1600000 in
theorem looks_any (base SB n : Nat) (wv cv sv iv bv : Value) (cs : List (ByteArray × ByteArray)) (is bs : List Value) (w : World) (hn : n ≤ 1000000000000000) (h : ST w base SB n wv cv sv iv bv cs is bs) :
    Calls Tryz.prog 31 #[.pointer (some ⟨SB, 0, none⟩)] w fun e w' => e = .returned (.bool true) ∧ Below w.heap.size w w' := by
  have H : Hid (ST w base SB n wv cv sv iv bv cs is bs) := h
  clear h
  go_enter Tryz.func31, Tryz.ntmps31
  go_wp2_with fail
  have c3 := H.out.c 3
  have c4 := H.out.c 4
  have hSB := H.out.lt
  have HI := H.out.im
  have HBM := H.out.bm
  have hni := H.out.ni
  have hnb := H.out.nb
  obtain ⟨io, ic, hio, _⟩ := owns_form H.out.ir
  obtain ⟨bo, bc, hbo, _⟩ := owns_form H.out.br
  have HIR : Hid (w.ownsRow base 25 1 iv is.length is) := H.out.ir
  have HBR : Hid (w.ownsRow base 48 1 bv bs.length bs) := H.out.br
  have HIM : Hid (∀ (i : Nat) (v : Value), is[i]? = some v → MkL w 3 (.int .i64 (-1000 - (i : Int))) v) := HI
  have HBMM : Hid (∀ (i : Nat) (v : Value), bs[i]? = some v → MkL w 5 (.int .u8 (200 + (i : Int) % 50)) v) := HBM
  simp only [List.getElem?_toArray, List.getElem?_cons_succ, List.getElem?_cons_zero] at c3 c4
  clear HI HBM H
  subst hio hbo
  go_loopg [3] is.length (fun q x wr => ∃ i : Nat, q + i = is.length ∧ x = .int .i64 i ∧ Below w.heap.size w wr)
  case atStart => exact ⟨0, by omega, rfl, Below.refl _ _⟩
  case round =>
    obtain ⟨i, hq, rfl, hb⟩ := hrel
    have HB : Hid (Below w.heap.size w wr) := hb
    have cq : wr.cell? ⟨SB, 3, none⟩ = some (.slice io is.length ic) := by rw [hb.cell (p := ⟨SB, 3, none⟩) hSB]; exact c3
    clear hb
    by_cases hlt : i < is.length
    · have hlt' : (i : Int) < (is.length : Int) := by omega
      have hi0 : (0 : Int) ≤ (i : Int) := by omega
      obtain ⟨v, hv⟩ : ∃ v, is[i]? = some v := ⟨is[i], List.getElem?_eq_getElem hlt⟩
      obtain ⟨o, c, hvv, hcm, hmk⟩ := HIM.out i v hv
      subst hvv
      have HMK : Hid (0 < c → ∃ (g : Nat) (cur : Array Value), o = some ⟨g, 0, none⟩ ∧ w.heap[g]? = some (.cells cur 3 (0, 0)) ∧ cur.size = c ∧ ∀ j, j < c → cur[j]? = some (.int .i64 (-1000 - (i : Int)))) := hmk
      obtain ⟨ig, icc, hig, _, higl⟩ := HIR.out.form (by omega)
      obtain ⟨hio, _⟩ : io = some ⟨ig, 0, none⟩ ∧ ic = icc := by cases hig; exact ⟨rfl, rfl⟩
      subst hio
      have hcell0 : w.cell? ⟨ig, i, none⟩ = some (.slice o c c) := by rw [World.ownsRow.cellAt HIR.out i (by omega)]; exact hv
      have HC0 : Hid (w.cell? ⟨ig, i, none⟩ = some (.slice o c c)) := hcell0
      have hcell : wr.cell? ⟨ig, i, none⟩ = some (.slice o c c) := by rw [HB.out.cell (p := ⟨ig, i, none⟩) higl]; exact hcell0
      have HCQ : Hid (w.cell? ⟨SB, 3, none⟩ = some (.slice (some ⟨ig, 0, none⟩) is.length ic)) := c3
      clear hig hv hmk hcell0
      go_wp2_with fail
      go_loopg [4] c (fun q x wz => ∃ j : Nat, q + j = c ∧ x = .int .i64 j ∧ Below w.heap.size w wz)
      case atStart => exact ⟨0, by omega, rfl, HB.out⟩
      case round =>
        obtain ⟨j, hq2, rfl, hbz⟩ := hrel
        have HBz : Hid (Below w.heap.size w wr) := hbz
        have cqz : wr.cell? ⟨SB, 3, none⟩ = some (.slice (some ⟨ig, 0, none⟩) is.length ic) := by rw [hbz.cell (p := ⟨SB, 3, none⟩) hSB]; exact HCQ.out
        have hcz : wr.cell? ⟨ig, i, none⟩ = some (.slice o c c) := by rw [hbz.cell (p := ⟨ig, i, none⟩) higl]; exact HC0.out
        clear hbz
        by_cases hj : j < c
        · have hj' : (j : Int) < (c : Int) := by omega
          have hj0 : (0 : Int) ≤ (j : Int) := by omega
          obtain ⟨g, cur, ho, hg, hcs, hcj⟩ := HMK.out (by omega)
          subst ho
          have hcc : wr.cell? ⟨g, j, none⟩ = some (.int .i64 (-1000 - (i : Int))) := by rw [HBz.out.cell (p := ⟨g, j, none⟩) (lt_of_block hg), cell_of_row _ _ _ _ _ _ hg]; exact hcj j hj
          clear hg hcs hcj
          have hin : i ≤ 1000000000000000 := by omega
          go_wp2_with fail
          go_quiet ((go_at_call 51; exact Calls.quiet_of_same (markInt_any _ _ hin)))
          go_wp2_with fail
          go_roundg (gk - 1)
          case measure => omega
          case rel => exact ⟨j + 1, by omega, by go_num, bel_drewN HBz.out _⟩
        · have hj' : ¬ (j : Int) < (c : Int) := by omega
          go_wp2_with fail
          go_roundg (is.length - (i + 1))
          case measure => omega
          case rel => exact ⟨i + 1, by omega, by go_num, HBz.out⟩
    · have hlt' : ¬ (i : Int) < (is.length : Int) := by omega
      go_wp2_with fail
      have HBo : Hid (Below w.heap.size w wr) := HB.out
      go_loopg [5] bs.length (fun q x wr => ∃ i : Nat, q + i = bs.length ∧ x = .int .i64 i ∧ Below w.heap.size w wr)
      case atStart => exact ⟨0, by omega, rfl, HBo.out⟩
      case round =>
        obtain ⟨i, hq, rfl, hb⟩ := hrel
        have HB : Hid (Below w.heap.size w wr) := hb
        have cq : wr.cell? ⟨SB, 4, none⟩ = some (.slice bo bs.length bc) := by rw [hb.cell (p := ⟨SB, 4, none⟩) hSB]; exact c4
        clear hb
        by_cases hlt : i < bs.length
        · have hlt' : (i : Int) < (bs.length : Int) := by omega
          have hi0 : (0 : Int) ≤ (i : Int) := by omega
          obtain ⟨v, hv⟩ : ∃ v, bs[i]? = some v := ⟨bs[i], List.getElem?_eq_getElem hlt⟩
          obtain ⟨o, c, hvv, hcm, hmk⟩ := HBMM.out i v hv
          subst hvv
          have HMK : Hid (0 < c → ∃ (g : Nat) (cur : Array Value), o = some ⟨g, 0, none⟩ ∧ w.heap[g]? = some (.cells cur 5 (0, 0)) ∧ cur.size = c ∧ ∀ j, j < c → cur[j]? = some (.int .u8 (200 + (i : Int) % 50))) := hmk
          obtain ⟨ig, icc, hig, _, higl⟩ := HBR.out.form (by omega)
          obtain ⟨hio, _⟩ : bo = some ⟨ig, 0, none⟩ ∧ bc = icc := by cases hig; exact ⟨rfl, rfl⟩
          subst hio
          have hcell0 : w.cell? ⟨ig, i, none⟩ = some (.slice o c c) := by rw [World.ownsRow.cellAt HBR.out i (by omega)]; exact hv
          have HC0 : Hid (w.cell? ⟨ig, i, none⟩ = some (.slice o c c)) := hcell0
          have hcell : wr.cell? ⟨ig, i, none⟩ = some (.slice o c c) := by rw [HB.out.cell (p := ⟨ig, i, none⟩) higl]; exact hcell0
          have HCQ : Hid (w.cell? ⟨SB, 4, none⟩ = some (.slice (some ⟨ig, 0, none⟩) bs.length bc)) := c4
          clear hig hv hmk hcell0
          go_wp2_with fail
          go_loopg [6] c (fun q x wz => ∃ j : Nat, q + j = c ∧ x = .int .i64 j ∧ Below w.heap.size w wz)
          case atStart => exact ⟨0, by omega, rfl, HB.out⟩
          case round =>
            obtain ⟨j, hq2, rfl, hbz⟩ := hrel
            have HBz : Hid (Below w.heap.size w wr) := hbz
            have cqz : wr.cell? ⟨SB, 4, none⟩ = some (.slice (some ⟨ig, 0, none⟩) bs.length bc) := by rw [hbz.cell (p := ⟨SB, 4, none⟩) hSB]; exact HCQ.out
            have hcz : wr.cell? ⟨ig, i, none⟩ = some (.slice o c c) := by rw [hbz.cell (p := ⟨ig, i, none⟩) higl]; exact HC0.out
            clear hbz
            by_cases hj : j < c
            · have hj' : (j : Int) < (c : Int) := by omega
              have hj0 : (0 : Int) ≤ (j : Int) := by omega
              obtain ⟨g, cur, ho, hg, hcs, hcj⟩ := HMK.out (by omega)
              subst ho
              have hcc : wr.cell? ⟨g, j, none⟩ = some (.int .u8 (200 + (i : Int) % 50)) := by rw [HBz.out.cell (p := ⟨g, j, none⟩) (lt_of_block hg), cell_of_row _ _ _ _ _ _ hg]; exact hcj j hj
              clear hg hcs hcj
              have hin : i ≤ 1000000000000000 := by omega
              go_wp2_with fail
              go_quiet ((go_at_call 52; exact Calls.quiet_of_same (markByte_any _ _ (by omega))))
              go_wp2_with fail
              go_roundg (gk - 1)
              case measure => omega
              case rel => exact ⟨j + 1, by omega, by go_num, bel_drewN HBz.out _⟩
            · have hj' : ¬ (j : Int) < (c : Int) := by omega
              go_wp2_with fail
              go_roundg (bs.length - (i + 1))
              case measure => omega
              case rel => exact ⟨i + 1, by omega, by go_num, HBz.out⟩
        · have hlt' : ¬ (i : Int) < (bs.length : Int) := by omega
          go_wp2_with fail
          go_ret
          exact ⟨rfl, HB.out⟩

end Go.Proofs.YtaebngpoagjafaaGreat
