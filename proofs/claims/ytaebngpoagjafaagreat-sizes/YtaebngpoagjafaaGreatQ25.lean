/-
  OUR OWN: the program's Size.
  OUR OWN: the program's parser, of a text that is right: what stands between two places.
  OUR OWN: the program's parser, of a text that is right: items, and their text.
  OUR OWN: the program's parser, of a text that is right: an expression, its text and its size.
-/
import Derived.Test.YtaebngpoagjafaaGreatQ24
import Derived.Test.YtaebngpoagjafaaGreatQ21
namespace Go.Proofs.YtaebngpoagjafaaGreat
open Go.RowKit

/-- The sizes of the first j expressions. -/
def szK (es : List EX) : Nat → List Int
  | 0 => []
  | j + 1 => szK es j ++ [match es[j]? with | some e => szE e (szK es j) | none => 0]
def szR (es : List EX) : Nat → Int
  | 0 => 0
  | j + 1 => match es[j]? with | some e => szE e (szK es j) | none => 0
theorem szK_len (es : List EX) : ∀ j, (szK es j).length = j := by
  intro j
  induction j with
  | zero => rfl
  | succ j ih => simp [szK, ih]
theorem szE_bd {e : EX} {K : List Int} (h : ∀ k ∈ K, 0 ≤ k ∧ k ≤ 1001) : 0 ≤ szE e K ∧ szE e K ≤ 1001 := by
  unfold szE
  have h1 := atF_bd h e.inner
  have h2 := armS_bd h e.items e.items.length
  refine cap1_bd ?_
  split <;> omega
theorem szK_bd (es : List EX) : ∀ j, ∀ k ∈ szK es j, 0 ≤ k ∧ k ≤ 1001 := by
  intro j
  induction j with
  | zero => intro k hk; simp [szK] at hk
  | succ j ih =>
    intro k hk
    simp only [szK, List.mem_append, List.mem_singleton] at hk
    rcases hk with hk | hk
    · exact ih k hk
    · subst hk
      cases hx : es[j]? with
      | none => simp
      | some e => exact szE_bd ih
theorem ex_view {w : World} {base : Nat} {ev : Value} {es : List (EX × Value)} (hex : w.ownsRow base 114 7 ev es.length (exC es)) (hit : ∀ p ∈ es, w.ownsRow base 167 7 p.2 p.1.items.length (imC p.1.items)) :
    ∃ eo ec, ev = .slice eo es.length ec ∧ ∀ i x, es[i]? = some x → ∃ g vo vm vc, eo = some ⟨g, 0, none⟩ ∧ g < w.heap.size ∧ w.cell? ⟨g, i * 7, none⟩ = some (.int .u8 x.1.kind) ∧ w.cell? ⟨g, i * 7 + 1, none⟩ = some (.int .i64 x.1.at_) ∧ w.cell? ⟨g, i * 7 + 2, none⟩ = some (.int .i64 x.1.depth) ∧ w.cell? ⟨g, i * 7 + 3, none⟩ = some (.int .i64 x.1.nv) ∧ w.cell? ⟨g, i * 7 + 4, none⟩ = some (.int .i64 x.1.na) ∧ w.cell? ⟨g, i * 7 + 5, none⟩ = some (.slice vo vm vc) ∧ w.cell? ⟨g, i * 7 + 6, none⟩ = some (.int .i64 x.1.inner) ∧ IV w (.slice vo vm vc) x.1.items ∧ (∀ q, (Value.slice vo vm vc).ownBlock = some q → q < w.heap.size) := by
  have h0 := hex
  rcases hex.2 with ⟨h1, h2⟩ | ⟨g, cap, cur, rfl, h1, h2, _⟩
  · have : es = [] := List.eq_nil_of_length_eq_zero h2
    subst this
    exact ⟨none, 0, h1, fun i x hx => by simp at hx⟩
  · refine ⟨_, cap, rfl, fun i x hx => ?_⟩
    have hx2 := hit x (List.mem_of_getElem? hx)
    have hc := fun j hj => row_cells exV (fun _ => rfl) h0 hx j hj
    have hiv : ∃ vo vm vc, x.2 = .slice vo vm vc ∧ IV w (.slice vo vm vc) x.1.items := by
      have h3 := hx2
      rcases hx2.2 with ⟨q1, q2⟩ | ⟨g', cap', cur', q1, q2, q3, q4, _⟩
      · exact ⟨none, 0, 0, q1, .inl ⟨rfl, List.eq_nil_of_length_eq_zero q2⟩⟩
      · rw [q1] at h3
        have hd := fun i y hy j hj => row_cells imV (fun _ => rfl) h3 (i := i) (x := y) hy j hj
        exact ⟨_, _, _, q1, .inr ⟨g', cap', rfl, q4, fun i y hy => ⟨hd i y hy 0 (by decide), hd i y hy 1 (by decide), hd i y hy 2 (by decide), hd i y hy 3 (by decide), hd i y hy 4 (by decide), hd i y hy 5 (by decide), hd i y hy 6 (by decide)⟩⟩⟩
    obtain ⟨vo, vm, vc, hv, hiv⟩ := hiv
    have h5 : w.cell? ⟨g, i * 7 + 5, none⟩ = some (.slice vo vm vc) := by rw [← hv]; exact hc 5 (by decide)
    exact ⟨g, vo, vm, vc, rfl, lt_of_block h2, hc 0 (by decide), hc 1 (by decide), hc 2 (by decide), hc 3 (by decide), hc 4 (by decide), h5, hc 6 (by decide), hiv, fun q hq => (hx2.lt q (by rw [hv]; exact hq)).2⟩

theorem cRules_mono (s : ByteArray) : ∀ (n : Nat) (rs : List RL) (m k : Nat) (b : Bool), k ≤ s.size → (cRules s n rs m k b).es.length + k ≤ (cRules s n rs m k b).k ∧ (cRules s n rs m k b).k ≤ s.size := by
  intro n
  induction n with
  | zero => intro rs m k b hk; simp [cRules]; exact hk
  | succ n ih =>
    intro rs m k b hk
    have h1 := cRule_mono s rs m k b hk
    simp only [cRules]
    generalize cRule s rs m k b = r at *
    have h2 := takeK_ge s 59 r.k r.b
    have h3 : takeK s 59 r.k r.b ≤ s.size := takeK_le (by decide) h1.2.1
    split
    · have h4 := ih (rs ++ [r.rl]) (m + r.es.length) (takeK s 59 r.k r.b) r.b h3
      simp only [List.length_append]
      omega
    · simp only
      omega

attribute [local go_sem ↓] Go.wp_at_zero Go.wp_at_succ
set_option maxRecDepth 100000 in
set_option maxHeartbeats 800000 in
theorem PSize_any (eo : Option Addr) (ec : Nat) (rv : Value) (base : Nat) (es : List (EX × Value)) (w : World) (hr : ∃ ro rm rc, rv = .slice ro rm rc) (hex : w.ownsRow base 114 7 (.slice eo es.length ec) es.length (exC es)) (hit : ∀ p ∈ es, w.ownsRow base 167 7 p.2 p.1.items.length (imC p.1.items)) (hl : es.length ≤ 100000) (hi : ∀ p ∈ es, p.1.items.length ≤ 100000) :
    Calls Tryz.prog 39 #[.agg #[.slice eo es.length ec, rv]] w fun e w' => Below w.heap.size w w' ∧ e = .returned (.int .i64 (szR (es.map Prod.fst) es.length)) := by
  obtain ⟨ro, rm, rc, rfl⟩ := hr
  obtain ⟨eo', ec', he, hview⟩ := ex_view hex hit
  cases he
  obtain ⟨i0, hi0, hz0, hz1, hz2⟩ := info_parts Tryz.infoInt
  have HI : Hid (∀ p ∈ es, p.1.items.length ≤ 100000) := hi
  clear hex hit hi
  go_enter Tryz.func39, Tryz.ntmps39
  go_wp2_with fail
  have HA0 : Hid (Below w.heap.size w ((w.alloc (.cells #[.slice eo es.length ec, .slice ro rm rc] 77)).alloc (.cells #[] 3))) := ((Below.refl _ _).alloc (Nat.le_refl _) _).alloc (by simp) _
  have HR0 : Hid (((w.alloc (.cells #[.slice eo es.length ec, .slice ro rm rc] 77)).alloc (.cells #[] 3)).ownsRow w.heap.size 3 1 (.slice (some ⟨w.heap.size + 1, 0, none⟩) 0 0) 0 []) := ⟨rfl, .inr ⟨w.heap.size + 1, 0, #[], rfl, by omega, heap_alloc_at _ (by simp), Nat.le_refl _, by decide, rfl, rfl⟩⟩
  have HVW : Hid (∀ i x, es[i]? = some x → ∃ g vo vm vc, eo = some ⟨g, 0, none⟩ ∧ g < w.heap.size ∧ w.cell? ⟨g, i * 7, none⟩ = some (.int .u8 x.1.kind) ∧ w.cell? ⟨g, i * 7 + 1, none⟩ = some (.int .i64 x.1.at_) ∧ w.cell? ⟨g, i * 7 + 2, none⟩ = some (.int .i64 x.1.depth) ∧ w.cell? ⟨g, i * 7 + 3, none⟩ = some (.int .i64 x.1.nv) ∧ w.cell? ⟨g, i * 7 + 4, none⟩ = some (.int .i64 x.1.na) ∧ w.cell? ⟨g, i * 7 + 5, none⟩ = some (.slice vo vm vc) ∧ w.cell? ⟨g, i * 7 + 6, none⟩ = some (.int .i64 x.1.inner) ∧ IV w (.slice vo vm vc) x.1.items ∧ (∀ q, (Value.slice vo vm vc).ownBlock = some q → q < w.heap.size)) := hview
  clear hview
  go_loopg [3, 4, 11] es.length (fun n a b y wr => ∃ (j : Nat), n + j = es.length ∧ b = .int .i64 (szR (es.map Prod.fst) j) ∧ y = .int .i64 j ∧ wr.ownsRow w.heap.size 3 1 a (szK (es.map Prod.fst) j).length ((szK (es.map Prod.fst) j).map (Value.int .i64)) ∧ Below w.heap.size w wr)
  case atStart => exact ⟨0, by omega, rfl, rfl, HR0.out, HA0.out⟩
  case round =>
    obtain ⟨j, hn, rfl, rfl, hrow, hb⟩ := hrel
    have HR : Hid (wr.ownsRow w.heap.size 3 1 u3 (szK (es.map Prod.fst) j).length ((szK (es.map Prod.fst) j).map (Value.int .i64))) := hrow
    have HB : Hid (Below w.heap.size w wr) := hb
    have hbs := hb.size
    clear hrow hb
    by_cases hlt : j < es.length
    · obtain ⟨xv, hxv⟩ : ∃ r, es[j]? = some r := ⟨es[j], List.getElem?_eq_getElem hlt⟩
      have hj0 : (0 : Int) ≤ (j : Int) := by omega
      have hj1 : (j : Int) < (es.length : Int) := by omega
      obtain ⟨g, vo, vm, vc, rfl, hgw, r0, r1, r2, r3, r4, r5, r6, hiv, hivg⟩ := HVW.out j xv hxv
      have hil := HI.out xv (List.mem_of_getElem? hxv)
      have hmx : (es.map Prod.fst)[j]? = some xv.1 := by rw [List.getElem?_map, hxv]; rfl
      obtain ⟨x, xq⟩ := xv
      simp only at r0 r1 r2 r3 r4 r6 hiv hil hmx
      have hcg : ∀ q, wr.cell? ⟨g, q, none⟩ = w.cell? ⟨g, q, none⟩ := fun q => HB.out.cell (p := ⟨g, q, none⟩) hgw
      rw [← hcg] at r0 r1 r2 r3 r4 r5 r6
      have HSR : Hid (szR (es.map Prod.fst) (j + 1) = szE x (szK (es.map Prod.fst) j)) := by show _ = _; simp only [szR, hmx]
      have HSK : Hid (szK (es.map Prod.fst) (j + 1) = szK (es.map Prod.fst) j ++ [szE x (szK (es.map Prod.fst) j)]) := by show _ = _; simp only [szK, hmx]
      obtain ⟨ko, kc, hu3⟩ : ∃ ko kc, u3 = .slice ko (szK (es.map Prod.fst) j).length kc := by
        rcases HR.out.2 with ⟨h1, h2⟩ | ⟨g, cap, cur, h1, _⟩
        · exact ⟨none, 0, by rw [h1, h2]⟩
        · exact ⟨_, cap, h1⟩
      subst hu3
      have HKL : Hid ((szK (es.map Prod.fst) j).length = j) := szK_len _ j
      have HKB : Hid (∀ k ∈ szK (es.map Prod.fst) j, 0 ≤ k ∧ k ≤ 1001) := szK_bd _ j
      generalize szK (es.map Prod.fst) j = K at *
      have HBA : Hid (Below w.heap.size w (wr.alloc (.cells #[.int .u8 x.kind, .int .i64 x.at_, .int .i64 x.depth, .int .i64 x.nv, .int .i64 x.na, .slice vo vm vc, .int .i64 x.inner] 114))) := HB.out.alloc hbs _
      have HRA : Hid ((wr.alloc (.cells #[.int .u8 x.kind, .int .i64 x.at_, .int .i64 x.depth, .int .i64 x.nv, .int .i64 x.na, .slice vo vm vc, .int .i64 x.inner] 114)).ownsRow w.heap.size 3 1 (.slice ko K.length kc) K.length (K.map (Value.int .i64))) := HR.out.alloc _
      have HNV : Hid (NV (wr.alloc (.cells #[.int .u8 x.kind, .int .i64 x.at_, .int .i64 x.depth, .int .i64 x.nv, .int .i64 x.na, .slice vo vm vc, .int .i64 x.inner] 114)) ko K) := fun i v hv => by
        rcases HRA.out.2 with ⟨h1, h2⟩ | ⟨g, cap, cur, h1, h2, h3, _⟩
        · have := (List.getElem?_eq_some_iff.1 hv).1; omega
        · cases h1
          have hil : i < K.length := (List.getElem?_eq_some_iff.1 hv).1
          refine ⟨g, rfl, lt_of_block h3, ?_⟩
          rw [World.ownsRow.cellAt HRA.out i (by omega)]
          simp [hv]
      have HIV : Hid (IV (wr.alloc (.cells #[.int .u8 x.kind, .int .i64 x.at_, .int .i64 x.depth, .int .i64 x.nv, .int .i64 x.na, .slice vo vm vc, .int .i64 x.inner] 114)) (.slice vo vm vc) x.items) := hiv.of_kept (fun q hq => HBA.out.block q (hivg q hq))
      have HIG : Hid (∀ q, (Value.slice vo vm vc).ownBlock = some q → q < (wr.alloc (.cells #[.int .u8 x.kind, .int .i64 x.at_, .int .i64 x.depth, .int .i64 x.nv, .int .i64 x.na, .slice vo vm vc, .int .i64 x.inner] 114)).heap.size) := fun q hq => Nat.lt_of_lt_of_le (hivg q hq) HBA.out.size
      have hbsA : w.heap.size ≤ (wr.alloc (.cells #[.int .u8 x.kind, .int .i64 x.at_, .int .i64 x.depth, .int .i64 x.nv, .int .i64 x.na, .slice vo vm vc, .int .i64 x.inner] 114)).heap.size := HBA.out.size
      clear hxv hcg hiv hivg hmx
      go_wp2_with fail
      clear r0 r1 r2 r3 r4 r5 r6
      refine (sizeOf_any x vo vm vc ko kc K _ HNV.out HKB.out hil HIV.out HIG.out).mono ?_
      rintro e w4 ⟨hb4, rfl⟩
      have HB4 : Hid (Below w.heap.size w w4) := HBA.out.trans (hb4.mono hbsA)
      have HR4 : Hid (w4.ownsRow w.heap.size 3 1 (.slice ko K.length kc) K.length (K.map (Value.int .i64))) := owns_of_block HRA.out (fun g hg => hb4.block g (HRA.out.lt g hg).2)
      have hbs4 : w.heap.size ≤ w4.heap.size := HB4.out.size
      clear hb4
      generalize szE x K = nj at *
      have hA1 : Hid (K.length + 1 ≤ maxLen) := by show _ ≤ _; have := HKL.out; unfold maxLen; omega
      have hA2 : Hid ((K.length + 1) * 8 ≤ 140737488355328) := by show _ ≤ _; have := HKL.out; omega
      have hA3 : Hid (w.heap.size ≤ (w4.alloc (.cells #[.int .i64 nj] 3)).heap.size) := by show _ ≤ _; simp; omega
      have hone : Hid (∀ u ∈ [Value.int .i64 nj], u.oneCell' = true) := fun u hu => by simp at hu; subst hu; rfl
      go_wp2_with (at_builtin; refine wpList_append_lies _ rfl _ _ 25 rfl w.heap.size 3 i0 _ 1 8 Tryz.underlying25 hi0 hz0 hz1 hz2 rfl (by decide) (.slice ko K.length kc) _ _ rfl (HR4.out.alloc _) ⟨w4.heap.size, 0, none⟩ 1 1 [.int .i64 nj] rfl rfl (World.news_of_block (cs := #[.int .i64 nj]) (t := 3) (fr := (0, 0)) (heap_alloc_new w4 _)) hone.out (Nat.lt_succ_self 0) hA1.out hA2.out hA3.out (w4.heap.size + 1) (by simp) ?_; intro g cap w5 hown hgrow hat hlt5)
      have HR5 : Hid (w5.ownsRow w.heap.size 3 1 (.slice (some ⟨g, 0, none⟩) (K.length + 1) cap) (szK (es.map Prod.fst) (j + 1)).length ((szK (es.map Prod.fst) (j + 1)).map (Value.int .i64))) := by
        show World.ownsRow _ _ _ _ _ _ _
        rw [HSK.out, List.length_append, List.map_append]
        exact hown
      have HB5 : Hid (Below w.heap.size w w5) := (HB4.out.alloc hbs4 _).grown hgrow (by simp; omega) (fun k hk => (HR4.out.lt k hk).1)
      clear hown hgrow hat
      go_roundg (gk - 1)
      case measure => omega
      case rel => exact ⟨j + 1, by omega, by rw [HSR.out], by go_num, HR5.out, HB5.out⟩
    · have hd : ¬ ((j : Int) < (es.length : Int)) := by omega
      have hje : j = es.length := by omega
      have HE : Hid (szR (es.map Prod.fst) es.length = szR (es.map Prod.fst) j) := by show _ = _; rw [hje]
      clear hje
      go_wp2_with fail
      go_ret
      exact ⟨HB.out, by rw [HE.out]; rfl⟩

/-- What the program's Size answers. -/
def cSz (s : ByteArray) : Int × Int := if (cChk s).1 = 0 then (szR (cAll s).es (cAll s).es.length, 0) else (0, (cChk s).1)
set_option maxRecDepth 100000 in
set_option maxHeartbeats 800000 in
theorem SizeP_any (s : ByteArray) (w : World) :
    Calls Tryz.prog 22 #[.string s] w fun e w' => Below w.heap.size w w' ∧ e = .returned (.tuple #[.int .i64 (cSz s).1, .int .i64 (cSz s).2]) := by
  obtain ⟨c, hc⟩ : ∃ c, cChk s = c := ⟨_, rfl⟩
  have HC : Hid (cChk s = c) := hc
  have HS : Hid (cSz s = if c.1 = 0 then (szR (cAll s).es (cAll s).es.length, 0) else (0, c.1)) := by show _ = _; unfold cSz; rw [hc]
  have HBDS : Hid (c.1 = 0 → (cAll s).es.length ≤ 100000 ∧ ∀ e ∈ (cAll s).es, e.items.length ≤ 100000) := by
    intro h0
    have hs : ¬ 2000 < s.size := fun h => by rw [← hc] at h0; unfold cChk at h0; rw [if_pos h] at h0; cases h0
    have h1 := cRules_all s (s.size + 1) [] 0 0 false
    refine ⟨?_, fun e he => by have := h1 e he; omega⟩
    have h2 := cRules_mono s (s.size + 1) [] 0 0 false (Nat.zero_le _)
    show (cRules s (s.size + 1) [] 0 0 false).es.length ≤ 100000
    omega
  clear hc
  obtain ⟨c1, c2⟩ := c
  simp only at HS HBDS
  go_enter Tryz.func22, Tryz.ntmps22
  go_wp2_with fail
  refine (Read_any s _ (c1, c2) HC).mono ?_
  rintro e w1 ⟨hb, eo, em, ec, ro, rm, rc, rfl, hq⟩
  have HB : Hid (Below w.heap.size w w1) := hb
  have HQ : Hid (c1 = 0 → ∃ es, es.map Prod.fst = (cAll s).es ∧ PQ w1 w.heap.size (.slice eo em ec) (.slice ro rm rc) es (cAll s).rs) := hq
  clear hb hq
  cases e1 : (c1 == 0) with
  | false =>
    have e2 : (c1 != 0) = true := by simp [bne, e1]
    have HE : Hid (cSz s = (0, c1)) := by show _ = _; rw [HS.out, if_neg (by simpa using e1)]
    have HB1 : Hid (Below w.heap.size w (w1.alloc (.cells #[.slice eo em ec, .slice ro rm rc] 77))) := HB.out.alloc HB.out.size _
    go_wp2_with fail
    go_ret2
    exact ⟨HB1.out, by rw [HE.out]; rfl⟩
  | true =>
    have h0 : c1 = 0 := by simpa using e1
    subst h0
    have HE : Hid (cSz s = (szR (cAll s).es (cAll s).es.length, 0)) := by show _ = _; rw [HS.out, if_pos rfl]
    obtain ⟨es, hes, hpq⟩ := HQ.out rfl
    have hbd := HBDS.out rfl
    rw [← hes] at hbd HE
    obtain ⟨eo', ec', heq, _⟩ := ex_view hpq.ex hpq.it
    cases heq
    have HB1 : Hid (Below w.heap.size w (w1.alloc (.cells #[.slice eo es.length ec, .slice ro rm rc] 77))) := HB.out.alloc HB.out.size _
    have HPZ : Hid (∀ rv, (∃ ro rm rc, rv = Value.slice ro rm rc) → Calls Tryz.prog 39 #[.agg #[.slice eo es.length ec, rv]] (w1.alloc (.cells #[.slice eo es.length ec, .slice ro rm rc] 77)) fun e w' => Below (w1.alloc (.cells #[.slice eo es.length ec, .slice ro rm rc] 77)).heap.size (w1.alloc (.cells #[.slice eo es.length ec, .slice ro rm rc] 77)) w' ∧ e = .returned (.int .i64 (szR (es.map Prod.fst) es.length))) := fun rv hrv => PSize_any eo ec rv w.heap.size es _ hrv (hpq.ex.alloc _) (fun p hp => (hpq.it p hp).alloc _) (by simpa using hbd.1) (fun p hp => hbd.2 p.1 (List.mem_map_of_mem hp))
    rw [List.length_map] at HE
    clear hpq hes hbd
    go_wp2_with fail
    refine (HPZ.out _ ⟨_, _, _, rfl⟩).mono ?_
    rintro e w2 ⟨hb2, rfl⟩
    have HB2 : Hid (Below w.heap.size w w2) := HB1.out.trans (hb2.mono HB1.out.size)
    clear hb2
    go_wp2_with fail
    go_ret2
    exact ⟨HB2.out, by rw [HE.out]; rfl⟩
end Go.Proofs.YtaebngpoagjafaaGreat
namespace Go.Proofs.YtaebngpoagjafaaGreat
open Go.RowKit

def sgL (s : ByteArray) (a : Nat) : Nat → List Int
  | 0 => []
  | n + 1 => sgL s a n ++ (if T.bl (T.ch s (a + n)) = true then [] else [T.ch s (a + n)])
/-- The bytes between two places, without blanks. -/
def bt (s : ByteArray) (a b : Nat) : List Int := sgL s a (b - a)
theorem brL_bt (s : ByteArray) : ∀ n, brL s n = bt s 0 n := by
  intro n
  unfold bt
  rw [Nat.sub_zero]
  induction n with
  | zero => rfl
  | succ n ih => simp only [brL, sgL, ih, Nat.zero_add]
theorem sgL_app (s : ByteArray) (a n : Nat) : ∀ m, sgL s a (n + m) = sgL s a n ++ sgL s (a + n) m := by
  intro m
  induction m with
  | zero => simp [sgL]
  | succ m ih =>
    rw [show n + (m + 1) = (n + m) + 1 from by omega]
    simp only [sgL]
    rw [ih, show a + (n + m) = a + n + m from by omega, List.append_assoc]
theorem bt_app (s : ByteArray) {a b c : Nat} (h1 : a ≤ b) (h2 : b ≤ c) : bt s a c = bt s a b ++ bt s b c := by
  unfold bt
  rw [show c - a = (b - a) + (c - b) from by omega, sgL_app, show a + (b - a) = b from by omega]
theorem bt_self (s : ByteArray) (a : Nat) : bt s a a = [] := by unfold bt; rw [Nat.sub_self]; rfl
theorem bt_one {s : ByteArray} {a : Nat} {c : Int} (h : T.ch s a = c) (hb : T.bl c = false) : bt s a (a + 1) = [c] := by
  unfold bt
  rw [show a + 1 - a = 1 from by omega]
  simp [sgL, h, hb]
theorem bt_skip (s : ByteArray) : ∀ n k, s.size - k ≤ n → bt s k (T.sk s k) = [] := by
  intro n
  induction n with
  | zero =>
    intro k h
    have : T.bl (T.ch s k) = false := by rw [T.ch_ge (by omega)]; rfl
    rw [T.sk_here this, bt_self]
  | succ n ih =>
    intro k h
    cases hb : T.bl (T.ch s k) with
    | false => rw [T.sk_here hb, bt_self]
    | true =>
      have hlt := T.bl_lt hb
      have hn := T.sk_next hb
      have hge := T.sk_ge s (k + 1)
      rw [← hn, bt_app s (b := k + 1) (by omega) hge, ih (k + 1) (by omega), List.append_nil]
      unfold bt
      rw [show k + 1 - k = 1 from by omega]
      simp [sgL, hb]
theorem bt_sk (s : ByteArray) (k : Nat) : bt s k (T.sk s k) = [] := bt_skip s (s.size - k) k (Nat.le_refl _)
theorem bt_from {s : ByteArray} {k e : Nat} (h : T.sk s k ≤ e) : bt s k e = bt s (T.sk s k) e := by
  rw [bt_app s (T.sk_ge s k) h, bt_sk, List.nil_append]
theorem bt_mem {s : ByteArray} {a b : Nat} {x : Int} (h : x ∈ bt s a b) : ∃ i, a ≤ i ∧ i < b ∧ x = T.ch s i := by
  unfold bt at h
  have key : ∀ n, x ∈ sgL s a n → ∃ i, a ≤ i ∧ i < a + n ∧ x = T.ch s i := by
    intro n
    induction n with
    | zero => intro h; simp [sgL] at h
    | succ n ih =>
      intro h
      simp only [sgL, List.mem_append] at h
      rcases h with h | h
      · obtain ⟨i, h1, h2, h3⟩ := ih h; exact ⟨i, h1, by omega, h3⟩
      · split at h
        · simp at h
        · simp at h; exact ⟨a + n, by omega, by omega, h⟩
  obtain ⟨i, h1, h2, h3⟩ := key _ h
  exact ⟨i, h1, by omega, h3⟩
theorem nmF_digs (s : ByteArray) : ∀ n j i, j ≤ i → i < nmF s false n j → T.dig (T.ch s i) = true := by
  intro n
  induction n with
  | zero => intro j i h1 h2; simp only [nmF] at h2; omega
  | succ n ih =>
    intro j i h1 h2
    simp only [nmF] at h2
    split at h2
    · next hb =>
      by_cases e : i = j
      · subst e; rw [dig_f] at hb; exact hb
      · exact ih (j + 1) i (by omega) h2
    · omega
/-- What is known where the text goes on. -/
theorem want_good {s : ByteArray} {c : Int} {k : Nat} {b : Bool} (hc : c ≠ 0) (hb : T.bl c = false) (h : wantB s c k b = false) : b = false ∧ takeK s c k b = T.sk s k + 1 ∧ bt s k (takeK s c k b) = [c] := by
  unfold wantB at h
  split at h
  · next ht =>
    subst h
    have hl := takeB_lt hc ht
    have e : takeK s c k false = T.sk s k + 1 := by unfold takeK; rw [if_pos ht, skip_f]
    refine ⟨rfl, e, ?_⟩
    rw [e, bt_from (by omega), bt_one hl.2.2 hb]
  · cases h
theorem num_good {s : ByteArray} {k : Nat} {b : Bool} (hk : k ≤ s.size) (h : numX s k b = false) : b = false ∧ T.sk s k < numK s k b ∧ Pln (bt s k (numK s k b)) := by
  unfold numX at h
  split at h
  · cases h
  · next hne =>
    subst h
    have hge : T.sk s k ≤ numK s k false := by have := (nmF_bd s false (nmL s (skipF s k false) false) (skipF s k false) (skipF_le hk)).1; rw [skip_f] at this; unfold numK nmE; rw [skip_f]; exact this
    rw [skip_f] at hne
    refine ⟨rfl, by omega, fun x hx => ?_⟩
    rw [bt_from hge] at hx
    obtain ⟨i, h1, h2, rfl⟩ := bt_mem hx
    have : numK s k false = nmF s false (nmL s (T.sk s k) false) (T.sk s k) := by unfold numK nmE; rw [skip_f]
    have := nmF_digs s (nmL s (T.sk s k) false) (T.sk s k) i h1 (by omega)
    exact .inl ((dig_iff _).1 this)
theorem bits_good {s : ByteArray} {k : Nat} {b : Bool} (hk : k ≤ s.size) (h : btX s k b = false) : b = false ∧ T.sk s k < btK s k b ∧ Pln (bt s k (btK s k b)) := by
  unfold btX at h
  split at h
  · cases h
  · next hne =>
    subst h
    have hge : T.sk s k ≤ btK s k false := by have := (btF_bd s false 32 (skipF s k false) (skipF_le hk)).1; rw [skip_f] at this; unfold btK; rw [skip_f]; exact this
    rw [skip_f] at hne
    refine ⟨rfl, by omega, fun x hx => ?_⟩
    rw [bt_from hge] at hx
    obtain ⟨i, h1, h2, rfl⟩ := bt_mem hx
    have : btK s k false = btF s false 32 (T.sk s k) := by unfold btK; rw [skip_f]
    have := btF_bits s 32 (T.sk s k) i h1 (by omega)
    simp [bit] at this
    left; omega
theorem let_good {s : ByteArray} {k : Nat} {b : Bool} (h : letX s k b = false) : b = false ∧ letK s k b = T.sk s k + 1 ∧ (97 ≤ T.ch s (T.sk s k) ∧ T.ch s (T.sk s k) ≤ 122) ∧ hereF s (skipF s k b) b = T.ch s (T.sk s k) ∧ bt s k (letK s k b) = [T.ch s (T.sk s k)] := by
  unfold letX at h
  split at h
  · next hl =>
    subst h
    have hlt := (letB_lt hl).2
    rw [skip_f] at hlt
    have hch : hereF s (skipF s k false) false = T.ch s (T.sk s k) := by rw [skip_f, here_f, if_pos hlt]
    have hc : 97 ≤ T.ch s (T.sk s k) ∧ T.ch s (T.sk s k) ≤ 122 := by unfold letB at hl; rw [hch] at hl; simpa using hl
    have e : letK s k false = T.sk s k + 1 := by unfold letK; rw [if_pos hl, skip_f]
    refine ⟨rfl, e, hc, hch, ?_⟩
    rw [e, bt_from (by omega), bt_one rfl (by unfold T.bl; simp; omega)]
  · cases h

/-- The sizes of the program's expressions, by their numbers. -/
theorem szK_succ (E : List EX) (j : Nat) : szK E (j + 1) = szK E j ++ [szR E (j + 1)] := rfl
theorem szK_get (E : List EX) {j : Nat} : ∀ i, j < i → (szK E i)[j]? = some (szR E (j + 1)) := by
  intro i
  induction i with
  | zero => intro h; omega
  | succ i ih =>
    intro h
    rw [szK_succ]
    by_cases e : j = i
    · subst e
      rw [List.getElem?_append_right (by rw [szK_len]; omega), szK_len, Nat.sub_self]; rfl
    · rw [List.getElem?_append_left (by rw [szK_len]; omega)]; exact ih (by omega)
theorem atF_szK (E : List EX) {i j : Nat} (h : j < i) : atF (szK E i) (j : Int) = szR E (j + 1) := by
  unfold atF
  rw [if_neg (by omega), Int.toNat_natCast, szK_get E i h]; rfl
theorem atF_neg (K : List Int) : atF K (-1) = 0 := by unfold atF; rw [if_pos (by decide)]
/-- These expressions stand from number m on. -/
def Pos (E : List EX) (m : Nat) (es : List EX) : Prop := ∀ i e, es[i]? = some e → E[m + i]? = some e
theorem Pos.left {E : List EX} {m : Nat} {a b : List EX} (h : Pos E m (a ++ b)) : Pos E m a := fun i e he => h i e (by rw [List.getElem?_append_left (List.getElem?_eq_some_iff.1 he).1]; exact he)
theorem Pos.right {E : List EX} {m : Nat} {a b : List EX} (h : Pos E m (a ++ b)) : Pos E (m + a.length) b := fun i e he => by
  have := h (a.length + i) e (by rw [List.getElem?_append_right (by omega), Nat.add_sub_cancel_left]; exact he)
  rw [← Nat.add_assoc] at this
  exact this
theorem Pos.last {E : List EX} {m : Nat} {a : List EX} {e : EX} (h : Pos E m (a ++ [e])) : E[m + a.length]? = some e := by
  have := h.right 0 e rfl
  simpa using this
theorem szR_at {E : List EX} {j : Nat} {e : EX} (h : E[j]? = some e) : szR E (j + 1) = szE e (szK E j) := by simp only [szR, h]
end Go.Proofs.YtaebngpoagjafaaGreat
namespace Go.Proofs.YtaebngpoagjafaaGreat
open Go.RowKit

/-- The rules that have an end, their names and their sizes. -/
structure RK (rs : List RL) (nm : ByteArray) (Kn : List Int) (E : List EX) (lim : Nat) : Prop where
  len : Kn.length = rs.length
  at_ : ∀ i r, rs[i]? = some r → T.ch nm i = r.nv ∧ ∃ j : Nat, r.ex = (j : Int) ∧ j < lim ∧ Kn[i]? = some (szR E (j + 1))
theorem kn_eq {rs : List RL} {nm : ByteArray} {Kn : List Int} {E : List EX} {lim : Nat} (h : RK rs nm Kn E lim) (v : Int) {i : Nat} (hi : lim ≤ i) : knL nm v Kn 0 = atF (szK E i) (nmdR v rs) := by
  have key : ∀ (rs : List RL) (Kn : List Int) (o : Nat), Kn.length = rs.length → (∀ i r, rs[i]? = some r → T.ch nm (o + i) = r.nv ∧ ∃ j : Nat, r.ex = (j : Int) ∧ j < lim ∧ Kn[i]? = some (szR E (j + 1))) → knL nm v Kn o = atF (szK E i) (nmdR v rs) := by
    intro rs
    induction rs with
    | nil =>
      intro Kn o hl _
      have : Kn = [] := List.eq_nil_of_length_eq_zero hl
      subst this
      simp [knL, nmdR, atF_neg]
    | cons r l ih =>
      intro Kn o hl hh
      cases Kn with
      | nil => simp at hl
      | cons q Kr =>
        have h0 := hh 0 r rfl
        obtain ⟨j, h1, h2, h3⟩ := h0.2
        simp at h3
        simp only [knL, nmdR]
        rw [Nat.add_zero] at h0
        rw [h0.1]
        split
        · rw [h1, atF_szK E (by omega), h3]
        · exact ih Kr (o + 1) (by simpa using hl) (fun i r' hr => by
            have := hh (i + 1) r' hr
            rw [show o + (i + 1) = o + 1 + i from by omega] at this
            simpa using this)
  exact key rs Kn 0 h.len (fun i r hr => by have := h.at_ i r hr; rw [Nat.zero_add]; exact this)
theorem take_yes {s : ByteArray} {c : Int} {k : Nat} (hc : c ≠ 0) (hb : T.bl c = false) (h : takeB s c k false = true) : takeK s c k false = T.sk s k + 1 ∧ bt s k (takeK s c k false) = [c] := by
  have hl := takeB_lt hc h
  have e : takeK s c k false = T.sk s k + 1 := by unfold takeK; rw [if_pos h, skip_f]
  exact ⟨e, by rw [e, bt_from (by omega), bt_one hl.2.2 hb]⟩
theorem take_no {s : ByteArray} {c : Int} {k : Nat} (h : takeB s c k false = false) : bt s k (takeK s c k false) = [] := by
  have e : takeK s c k false = T.sk s k := by unfold takeK; rw [if_neg (by rw [h]; decide), skip_f]
  rw [e, bt_sk]
theorem Pln.app {a b : List Int} (h : Pln a) (k : Pln b) : Pln (a ++ b) := fun c hc => (List.mem_append.1 hc).elim (h c) (k c)
theorem joi_cons (c : Int) (x : List Int) {l : List (List Int)} (h : l ≠ []) : joi c (x :: l) = x ++ [c] ++ joi c l := by
  cases l with
  | nil => exact absurd rfl h
  | cons y r => rfl

/-- An item without an arm. -/
theorem itemP_good {s : ByteArray} {ex : Int → Nat → Nat → Bool → CR} {c : Int} (hc : c = 123 ∨ c = 102 ∨ c = 119) (d : Int) (m k : Nat) (hk : k ≤ s.size) (h : (cItem ex s c d m k false).b = false) :
    (cItem ex s c d m k false).es = [] ∧ (cItem ex s c d m k false).im.arm = -1 ∧ Pln (bt s k (cItem ex s c d m k false).k) := by
  have hp0 := T.sk_le hk
  have hge := T.sk_ge s k
  have hplain : numX s (T.sk s k) false = false → Pln (bt s k (numK s (T.sk s k) false)) := fun hh => by
    have h1 := num_good hp0 hh
    have := sk_sk s k
    rw [bt_from (by omega)]
    exact h1.2.2
  rcases hc with rfl | rfl | rfl
  · unfold cItem at h ⊢
    simp only [skip_f] at h ⊢
    exact ⟨rfl, rfl, hplain h⟩
  · unfold cItem at h ⊢
    simp only [skip_f] at h ⊢
    exact ⟨rfl, rfl, hplain h⟩
  · have e : cItem ex s 119 d m k false = ⟨⟨T.sk s k, numV s (T.sk s k) false, 0, 0, numV s (takeK s 42 (numK s (T.sk s k) false) (numX s (T.sk s k) false)) (wantB s 42 (numK s (T.sk s k) false) (numX s (T.sk s k) false)), skipF s (takeK s 42 (numK s (T.sk s k) false) (numX s (T.sk s k) false)) (wantB s 42 (numK s (T.sk s k) false) (numX s (T.sk s k) false)), -1⟩, [], numK s (takeK s 42 (numK s (T.sk s k) false) (numX s (T.sk s k) false)) (wantB s 42 (numK s (T.sk s k) false) (numX s (T.sk s k) false)), numX s (takeK s 42 (numK s (T.sk s k) false) (numX s (T.sk s k) false)) (wantB s 42 (numK s (T.sk s k) false) (numX s (T.sk s k) false))⟩ := by unfold cItem; rw [skip_f]; rfl
    rw [e] at h ⊢
    refine ⟨rfl, rfl, ?_⟩
    simp only at h ⊢
    have hk1 := numK_le (b := false) hp0
    have hk2 : takeK s 42 (numK s (T.sk s k) false) (numX s (T.sk s k) false) ≤ s.size := takeK_le (by decide) hk1
    have h3 := num_good hk2 h
    have h4 := want_good (by decide) (by decide) h3.1
    have h5 := hplain h4.1
    have hg1 := numK_ge (b := false) hp0
    have hg2 := takeK_ge s 42 (numK s (T.sk s k) false) (numX s (T.sk s k) false)
    have hg3 := numK_ge (b := wantB s 42 (numK s (T.sk s k) false) (numX s (T.sk s k) false)) hk2
    rw [bt_app s (b := numK s (T.sk s k) false) (by omega) (by omega), bt_app s (a := numK s (T.sk s k) false) hg2 hg3, h4.2.2]
    exact h5.app (Pln.app (fun x hx => by simp at hx; exact .inr hx) h3.2.2)
theorem itemsP_good {s : ByteArray} {ex : Int → Nat → Nat → Bool → CR} (hM : ExMono ex s) {c : Int} (hc : c = 123 ∨ c = 102 ∨ c = 119) (d : Int) : ∀ (N m k : Nat), k ≤ s.size → s.size + 1 ≤ N + k → (cItems ex s c d N m k false).b = false →
    (cItems ex s c d N m k false).es = [] ∧ (∀ x ∈ (cItems ex s c d N m k false).ims, x.arm = -1) ∧ ∃ L : List (List Int), L.length = (cItems ex s c d N m k false).ims.length ∧ L ≠ [] ∧ (∀ x ∈ L, Pln x) ∧ bt s k (cItems ex s c d N m k false).k = joi 44 L := by
  intro N
  induction N with
  | zero => intro m k h1 h2; omega
  | succ N ih =>
    intro m k hk hN hb
    have hmo := cItem_mono hM c d m k false hk
    have hit := itemP_good (ex := ex) hc d m k hk
    simp only [cItems] at hb ⊢
    generalize cItem ex s c d m k false = it at *
    have htl : ∀ b, takeK s 44 it.k b ≤ s.size := fun b => takeK_le (by decide) hmo.2.1
    have htg := takeK_ge s 44 it.k it.b
    have hitb : it.b = false := by
      cases hq : it.b with
      | false => rfl
      | true =>
        rw [hq] at hb
        have hdt := dead_take (s := s) (k := it.k) (b := true) (c := 44) (.inl rfl) (by decide) (by decide)
        rw [hdt.1] at hb
        simp at hb
    obtain ⟨i1, i2, i3⟩ := hit hitb
    rw [hitb] at hb htg ⊢
    cases ht : takeB s 44 it.k false with
    | false =>
      rw [ht] at hb
      simp only [Bool.false_eq_true, if_false] at hb ⊢
      refine ⟨i1, fun x hx => by simp at hx; subst hx; exact i2, [bt s k it.k], rfl, by simp, fun x hx => by simp at hx; subst hx; exact i3, ?_⟩
      rw [bt_app s hmo.1 htg, take_no ht, List.append_nil]
      rfl
    | true =>
      rw [ht] at hb
      simp only [if_true] at hb ⊢
      have hty := take_yes (s := s) (k := it.k) (c := 44) (by decide) (by decide) ht
      have hsk := T.sk_ge s it.k
      obtain ⟨q1, q2, L, q3, q4, q5, q6⟩ := ih (m + it.es.length) (takeK s 44 it.k false) (htl _) (by omega) hb
      have hq := cItems_mono hM c d N (m + it.es.length) (takeK s 44 it.k false) false (htl _)
      refine ⟨by rw [q1, i1]; rfl, fun x hx => ?_, bt s k it.k :: L, by simp [q3], by simp, fun x hx => ?_, ?_⟩
      · rcases List.mem_cons.1 hx with rfl | hx
        · exact i2
        · exact q2 x hx
      · rcases List.mem_cons.1 hx with rfl | hx
        · exact i3
        · exact q5 x hx
      · rw [joi_cons 44 _ q4, ← q6, bt_app s hmo.1 (c := (cItems ex s c d N (m + it.es.length) (takeK s 44 it.k false) false).k) (by omega), bt_app s htg hq.1, hty.2, List.append_assoc]

section
variable {s : ByteArray} {nm : ByteArray} {Kn : List Int} {E : List EX} {lim : Nat}
/-- That expressions have this text and this size. -/
def EG (s nm : ByteArray) (Kn : List Int) (E : List EX) (lim : Nat) (ex : Int → Nat → Nat → Bool → CR) (n : Nat) : Prop := ∀ d m k b, k ≤ s.size → s.size - k < n → (ex d m k b).b = false → lim ≤ m → Pos E m (ex d m k b).es →
  1 ≤ (ex d m k b).es.length ∧ (ex d m k b).idx = ((m + (ex d m k b).es.length - 1 : Nat) : Int) ∧ SZL nm Kn (bt s k (ex d m k b).k) (szR E (m + (ex d m k b).es.length))
/-- An arm: its key, its text, the number of its expression. -/
structure AR where
  key : List Int
  txt : List Int
  num : Nat
def AR.t (a : AR) : List Int := a.key ++ [58] ++ a.txt
theorem itemA_good {ex : Int → Nat → Nat → Bool → CR} {n : Nat} (hM : ExMono ex s) (hB : ExBad ex) (hX : EG s nm Kn E lim ex n) {c : Int} (hc : c = 103 ∨ c = 109) (d : Int) (m k : Nat) (hk : k ≤ s.size) (hn : s.size - k < n) (h : (cItem ex s c d m k false).b = false) (hm : lim ≤ m) (hP : Pos E m (cItem ex s c d m k false).es) :
    ∃ a : AR, Pln a.key ∧ SZL nm Kn a.txt (szR E (a.num + 1)) ∧ a.num < m + (cItem ex s c d m k false).es.length ∧ (cItem ex s c d m k false).im.arm = (a.num : Int) ∧ bt s k (cItem ex s c d m k false).k = a.t := by
  have hp0 := T.sk_le hk
  have hge := T.sk_ge s k
  have fin : ∀ (km kw : Nat) (bm bw : Bool), T.sk s k ≤ km → km ≤ s.size → takeK s 58 km bm = kw → wantB s 58 km bm = bw → (bm = false → Pln (bt s k km)) → (ex (d + 1) m kw bw).b = false → Pos E m (ex (d + 1) m kw bw).es → (bw = true → (ex (d + 1) m kw bw).b = true) →
      ∃ a : AR, Pln a.key ∧ SZL nm Kn a.txt (szR E (a.num + 1)) ∧ a.num < m + (ex (d + 1) m kw bw).es.length ∧ (ex (d + 1) m kw bw).idx = (a.num : Int) ∧ bt s k (ex (d + 1) m kw bw).k = a.t := by
    intro km kw bm bw h1 h2 h3 h4 h5 h6 h7 h8
    have hbw : bw = false := by cases hq : bw with
      | false => rfl
      | true => rw [h8 hq] at h6; cases h6
    subst hbw
    have hw := want_good (by decide) (by decide) h4
    have hkw : kw ≤ s.size := by rw [← h3]; exact takeK_le (by decide) h2
    have hg := takeK_ge s 58 km bm
    obtain ⟨x1, x2, x3⟩ := hX (d + 1) m kw false hkw (by omega) h6 hm h7
    have hmo := hM (d + 1) m kw false hkw
    refine ⟨⟨bt s k km, bt s kw (ex (d + 1) m kw false).k, m + (ex (d + 1) m kw false).es.length - 1⟩, h5 hw.1, by simp only; rw [show m + (ex (d + 1) m kw false).es.length - 1 + 1 = m + (ex (d + 1) m kw false).es.length from by omega]; exact x3, by simp only; omega, x2, ?_⟩
    unfold AR.t
    simp only
    rw [bt_app s (b := km) (by omega) (by omega), bt_app s (a := km) (b := kw) (by omega) hmo.1]
    rw [h3] at hw
    rw [hw.2.2, List.append_assoc]
  rcases hc with rfl | rfl
  · unfold cItem at h hP ⊢
    simp only [skip_f] at h hP ⊢
    exact fin (numK s (T.sk s k) false) _ (numX s (T.sk s k) false) _ (numK_ge hp0) (numK_le hp0) rfl rfl (fun hh => by
      have h1 := num_good hp0 hh
      rw [bt_from (numK_ge hp0)]
      exact h1.2.2) h hP (fun hh => by rw [hh]; exact hB _ _ _)
  · unfold cItem at h hP ⊢
    simp only [skip_f] at h hP ⊢
    exact fin (btK s (T.sk s k) false) _ (btX s (T.sk s k) false) _ (btK_ge hp0) (btK_le hp0) rfl rfl (fun hh => by
      have h1 := bits_good hp0 hh
      rw [bt_from (btK_ge hp0)]
      exact h1.2.2) h hP (fun hh => by rw [hh]; exact hB _ _ _)
theorem itemsA_good {ex : Int → Nat → Nat → Bool → CR} {n : Nat} (hM : ExMono ex s) (hB : ExBad ex) (hX : EG s nm Kn E lim ex n) {c : Int} (hc : c = 103 ∨ c = 109) (d : Int) : ∀ (N m k : Nat), k ≤ s.size → s.size + 1 ≤ N + k → s.size - k < n → (cItems ex s c d N m k false).b = false → lim ≤ m → Pos E m (cItems ex s c d N m k false).es →
    ∃ L : List AR, L.length = (cItems ex s c d N m k false).ims.length ∧ L ≠ [] ∧ (∀ a ∈ L, Pln a.key ∧ SZL nm Kn a.txt (szR E (a.num + 1)) ∧ a.num < m + (cItems ex s c d N m k false).es.length) ∧ (cItems ex s c d N m k false).ims.map IM.arm = L.map (fun a => (a.num : Int)) ∧ bt s k (cItems ex s c d N m k false).k = joi 44 (L.map AR.t) := by
  intro N
  induction N with
  | zero => intro m k h1 h2; omega
  | succ N ih =>
    intro m k hk hN hn hb hm hP
    have hmo := cItem_mono hM c d m k false hk
    have hit := itemA_good hM hB hX hc d m k hk hn
    simp only [cItems] at hb hP ⊢
    generalize cItem ex s c d m k false = it at *
    have htl : ∀ b, takeK s 44 it.k b ≤ s.size := fun b => takeK_le (by decide) hmo.2.1
    have htg := takeK_ge s 44 it.k it.b
    have hitb : it.b = false := by
      cases hq : it.b with
      | false => rfl
      | true =>
        rw [hq] at hb
        have hdt := dead_take (s := s) (k := it.k) (b := true) (c := 44) (.inl rfl) (by decide) (by decide)
        rw [hdt.1] at hb
        simp at hb
    rw [hitb] at hb htg hP ⊢
    cases ht : takeB s 44 it.k false with
    | false =>
      rw [ht] at hb hP
      simp only [Bool.false_eq_true, if_false] at hb hP ⊢
      obtain ⟨a, a1, a2, a3, a4, a5⟩ := hit hitb hm hP
      refine ⟨[a], rfl, by simp, fun x hx => by simp at hx; subst hx; exact ⟨a1, a2, a3⟩, by simp [a4], ?_⟩
      rw [bt_app s hmo.1 htg, take_no ht, List.append_nil, a5]
      rfl
    | true =>
      rw [ht] at hb hP
      simp only [if_true] at hb hP ⊢
      obtain ⟨a, a1, a2, a3, a4, a5⟩ := hit hitb hm hP.left
      have hty := take_yes (s := s) (k := it.k) (c := 44) (by decide) (by decide) ht
      have hsk := T.sk_ge s it.k
      obtain ⟨L, q1, q2, q3, q4, q5⟩ := ih (m + it.es.length) (takeK s 44 it.k false) (htl _) (by omega) (by omega) hb (by omega) hP.right
      have hq := cItems_mono hM c d N (m + it.es.length) (takeK s 44 it.k false) false (htl _)
      generalize cItems ex s c d N (m + it.es.length) (takeK s 44 it.k false) false = q at *
      refine ⟨a :: L, by simp [q1], by simp, fun x hx => ?_, by simp [a4, q4], ?_⟩
      · rcases List.mem_cons.1 hx with rfl | hx
        · exact ⟨a1, a2, by simp only [List.length_append]; omega⟩
        · have := q3 x hx
          exact ⟨this.1, this.2.1, by simp only [List.length_append]; omega⟩
      · rw [List.map_cons, joi_cons 44 _ (by simpa using q2), ← q5, bt_app s hmo.1 (c := q.k) (by omega), bt_app s htg hq.1, hty.2, a5, List.append_assoc]
end
end Go.Proofs.YtaebngpoagjafaaGreat
namespace Go.Proofs.YtaebngpoagjafaaGreat
open Go.RowKit

theorem cap_id {x : Int} (h : x ≤ 1001) : cap1 x = x := by unfold cap1; split <;> omega
theorem armS_none {K : List Int} {l : List IM} (h : ∀ x ∈ l, x.arm = -1) : ∀ j, armS K l j = 0 := by
  intro j
  induction j with
  | zero => rfl
  | succ j ih =>
    simp only [armS, ih]
    cases hx : l[j]? with
    | none => rfl
    | some x => simp only; rw [h x (List.mem_of_getElem? hx), atF_neg]; rfl
def arD : AR := ⟨[], [], 0⟩
theorem range_map {α : Type} (L : List AR) (f : AR → α) : (List.range L.length).map (fun i => f ((L[i]?).getD arD)) = L.map f := by
  apply List.ext_getElem
  · simp
  · intro i h1 h2
    simp at h1
    simp [h1]
theorem armS_sum {E : List EX} {M : Nat} {l : List IM} {L : List AR} (hm : l.map IM.arm = L.map (fun a => (a.num : Int))) (hL : ∀ a ∈ L, a.num < M) : ∀ j, j ≤ L.length → armS (szK E M) l j = sumN (fun i => if i < L.length then szR E (((L[i]?).getD arD).num + 1) else 0) j := by
  intro j
  induction j with
  | zero => intro _; rfl
  | succ j ih =>
    intro hj
    simp only [armS, sumN, ih (by omega)]
    have hl : l.length = L.length := by have := congrArg List.length hm; simpa using this
    have hx : l[j]? = some l[j] := List.getElem?_eq_getElem (by omega)
    have hy : L[j]? = some L[j] := List.getElem?_eq_getElem (by omega)
    have he : (l[j]).arm = ((L[j]).num : Int) := by
      have := congrArg (fun q => q[j]?) hm
      simp only [List.getElem?_map, hx, hy] at this
      simpa using this
    rw [hx, hy]
    simp only [Option.getD_some]
    rw [he, atF_szK E (hL _ (List.getElem_mem _)), if_pos (by omega)]

theorem expr_good {s nm : ByteArray} {rs : List RL} {Kn : List Int} {E : List EX} {lim : Nat} (hR : RK rs nm Kn E lim) (h16 : ∀ e ∈ E, e.items.length ≤ 16) : ∀ n, EG s nm Kn E lim (cE s rs n) n := by
  intro n
  induction n with
  | zero => intro d m k b _ h; omega
  | succ n ih =>
    intro d m k b hk hn hb hm hP
    have hM := cE_mono s rs n
    have hB := cE_bad s rs n
    have hbf : b = false := by
      cases hq : b with
      | false => rfl
      | true => rw [hq, cE_bad s rs (n + 1) d m k] at hb; cases hb
    subst hbf
    have hge := T.sk_ge s k
    have hle := T.sk_le hk
    have hss := sk_sk s k
    have hsf := skip_f s k
    cases hK : isK (hereF s (skipF s k false) false) with
    | false => rw [cE_no n d m k false hK] at hb; cases hb
    | true =>
      have hlt : T.sk s k < s.size := by have := (isK_lt hK).2; rw [hsf] at this; exact this
      obtain ⟨c, hc⟩ : ∃ c, T.ch s (T.sk s k) = c := ⟨_, rfl⟩
      have hcc : hereF s (skipF s k false) false = c := by rw [hsf, here_f, if_pos hlt]; exact hc
      rw [hcc] at hK
      have h8 : c = 123 ∨ c = 116 ∨ c = 64 ∨ c = 61 ∨ (c = 119 ∨ c = 102 ∨ c = 109 ∨ c = 103) := by
        simp [isK] at hK
        omega
      have hbc : T.bl c = false := by unfold T.bl; simp; omega
      have hk1 : bt s k (T.sk s k + 1) = [c] := by rw [bt_from (by omega), bt_one hc hbc]
      rcases h8 with rfl | rfl | rfl | rfl | h8
      · -- servers
        rw [cE_servers n d m k false hcc, hsf] at hb hP ⊢
        have hmo := cItems_mono hM 123 d (s.size + 1 - (T.sk s k + 1)) m (T.sk s k + 1) false (by omega)
        have hi := itemsP_good hM (c := 123) (.inl rfl) d (s.size + 1 - (T.sk s k + 1)) m (T.sk s k + 1) (by omega) (by omega)
        generalize cItems (cE s rs n) s 123 d (s.size + 1 - (T.sk s k + 1)) m (T.sk s k + 1) false = l at *
        simp only at hb hP ⊢
        have hw := want_good (by decide) (by decide) hb
        obtain ⟨i1, i2, L, i3, i4, i5, i6⟩ := hi hw.1
        have hE := hP.last
        have h16' := h16 _ (List.mem_of_getElem? hE)
        simp only at h16'
        have htg := takeK_ge s 125 l.k l.b
        refine ⟨by simp, by simp, ?_⟩
        rw [bt_app s (b := T.sk s k + 1) (by omega) (by omega), bt_app s (a := T.sk s k + 1) hmo.1 htg, hk1, i6, hw.2.2]
        have hz : szR E (m + (l.es ++ [(⟨123, T.sk s k, d, 0, 0, l.ims, -1⟩ : EX)]).length) = 1 + (L.length : Int) := by
          rw [List.length_append, List.length_singleton, ← Nat.add_assoc, szR_at hE]
          unfold szE
          simp only
          rw [atF_neg, armS_none i2, if_neg (by decide), i3, cap_id (by omega)]
          omega
        rw [hz, ← List.append_assoc]
        exact SZL.servers i4 i5
      · -- ttl
        rw [cE_ttl n d m k false hcc rfl rfl rfl, hsf] at hb hP ⊢
        have hb0 := takeK_ge s 40 (T.sk s k + 1) false
        have hb1 : takeK s 40 (T.sk s k + 1) false ≤ s.size := takeK_le (by decide) (by omega)
        have hw1 := want_good (s := s) (c := 40) (k := T.sk s k + 1) (b := false) (by decide) (by decide)
        generalize takeK s 40 (T.sk s k + 1) false = k1 at *
        generalize wantB s 40 (T.sk s k + 1) false = b1 at *
        have hb2 := numK_ge (b := b1) hb1
        have hb3 := numK_le (b := b1) hb1
        have hnu := num_good (b := b1) hb1
        generalize numK s k1 b1 = kn at *
        generalize numX s k1 b1 = bn at *
        have hb4 := takeK_ge s 44 kn bn
        have hb5 : takeK s 44 kn bn ≤ s.size := takeK_le (by decide) hb3
        have hw2 := want_good (s := s) (c := 44) (k := kn) (b := bn) (by decide) (by decide)
        generalize takeK s 44 kn bn = k2 at *
        generalize wantB s 44 kn bn = b2 at *
        have hmo := hM (d + 1) m k2 b2 hb5
        have hbd : b2 = true → (cE s rs n (d + 1) m k2 b2).b = true := fun h => by rw [h]; exact hB _ _ _
        have hI := ih (d + 1) m k2 b2 hb5 (by omega)
        generalize cE s rs n (d + 1) m k2 b2 = r at *
        simp only at hb hP ⊢
        have hw := want_good (by decide) (by decide) hb
        have hb2f : b2 = false := by cases hq : b2 with
          | false => rfl
          | true => rw [hbd hq] at hw; cases hw.1
        obtain ⟨x1, x2, x3⟩ := hI hw.1 hm hP.left
        have g2 := hw2 hb2f
        have gn := hnu g2.1
        have g1 := hw1 gn.1
        have hE := hP.last
        have htg := takeK_ge s 41 r.k r.b
        refine ⟨by simp, by simp, ?_⟩
        rw [bt_app s (b := T.sk s k + 1) (by omega) (by omega), bt_app s (a := T.sk s k + 1) (b := k1) hb0 (by omega), bt_app s (a := k1) (b := kn) hb2 (by omega), bt_app s (a := kn) (b := k2) hb4 (by omega), bt_app s (a := k2) hmo.1 htg, hk1, g1.2.2, g2.2.2, hw.2.2]
        have hz : szR E (m + (r.es ++ [(⟨116, T.sk s k, d, numV s k1 b1, skipF s k1 b1, [], r.idx⟩ : EX)]).length) = cap1 (1 + szR E (m + r.es.length)) := by
          rw [List.length_append, List.length_singleton, ← Nat.add_assoc, szR_at hE]
          unfold szE
          simp only
          rw [x2, atF_szK E (by omega), show m + r.es.length - 1 + 1 = m + r.es.length from by omega, if_neg (by decide), armS_none (by simp)]
          congr 1
          simp
          omega
        rw [hz]
        have := SZL.ttl gn.2.2 x3
        simpa [joi] using this
      · -- alias
        rw [cE_alias n d m k false hcc, hsf] at hb hP ⊢
        simp only at hb hP ⊢
        have gn := num_good (by omega) hb
        have hE := hP.last (a := [])
        refine ⟨by simp, by simp, ?_⟩
        rw [bt_app s (b := T.sk s k + 1) (by omega) (numK_ge (by omega)), hk1]
        have hz : szR E (m + [(⟨64, T.sk s k, d, numV s (T.sk s k + 1) false, skipF s (T.sk s k + 1) false, [], -1⟩ : EX)].length) = 1 := by
          rw [List.length_singleton]
          rw [List.length_nil, Nat.add_zero] at hE
          rw [szR_at hE]
          unfold szE
          simp only
          rw [atF_neg, if_neg (by decide), armS_none (by simp)]
          decide
        rw [hz]
        exact SZL.alias gn.2.2
      · -- name
        rw [cE_name n d m k false hcc, hsf] at hb hP ⊢
        simp only at hb hP ⊢
        have gl := let_good hb
        have hE := hP.last (a := [])
        rw [List.length_nil, Nat.add_zero] at hE
        refine ⟨by simp, by simp, ?_⟩
        rw [bt_app s (b := T.sk s k + 1) (by omega) (letK_ge s _ _), hk1, gl.2.2.2.2]
        have hz : szR E (m + [(⟨61, T.sk s k, d, hereF s (skipF s (T.sk s k + 1) false) false, skipF s (T.sk s k + 1) false, [], nmdR (hereF s (skipF s (T.sk s k + 1) false) false) rs⟩ : EX)].length) = knL nm (T.ch s (T.sk s (T.sk s k + 1))) Kn 0 := by
          rw [List.length_singleton, szR_at hE]
          unfold szE
          simp only
          rw [if_pos trivial, armS_none (by simp), gl.2.2.2.1, kn_eq hR _ hm, cap_id]
          · omega
          · have := (atF_bd (szK_bd E m) (nmdR (T.ch s (T.sk s (T.sk s k + 1))) rs)).2; omega
        rw [hz]
        exact SZL.name gl.2.2.1
      · -- lists
        rw [cE_list n d m k false hcc h8 rfl rfl rfl rfl, hsf] at hb hP ⊢
        have hb0 := takeK_ge s 40 (T.sk s k + 1) false
        have hb1 : takeK s 40 (T.sk s k + 1) false ≤ s.size := takeK_le (by decide) (by omega)
        have hw1 := want_good (s := s) (c := 40) (k := T.sk s k + 1) (b := false) (by decide) (by decide)
        generalize takeK s 40 (T.sk s k + 1) false = k1 at *
        generalize wantB s 40 (T.sk s k + 1) false = b1 at *
        have hli := cItems_mono hM c d (s.size + 1 - k1) m k1 b1 hb1
        have hbi : b1 = true → (cItems (cE s rs n) s c d (s.size + 1 - k1) m k1 b1).b = true := fun h => cItems_bad hB c d _ m k1 h
        have hIP : b1 = false → (c = 123 ∨ c = 102 ∨ c = 119) → (cItems (cE s rs n) s c d (s.size + 1 - k1) m k1 b1).b = false → (cItems (cE s rs n) s c d (s.size + 1 - k1) m k1 b1).es = [] ∧ (∀ x ∈ (cItems (cE s rs n) s c d (s.size + 1 - k1) m k1 b1).ims, x.arm = -1) ∧ ∃ L : List (List Int), L.length = (cItems (cE s rs n) s c d (s.size + 1 - k1) m k1 b1).ims.length ∧ L ≠ [] ∧ (∀ x ∈ L, Pln x) ∧ bt s k1 (cItems (cE s rs n) s c d (s.size + 1 - k1) m k1 b1).k = joi 44 L := fun h hc2 hb => by subst h; exact itemsP_good hM hc2 d (s.size + 1 - k1) m k1 hb1 (by omega) hb
        have hIA : b1 = false → (c = 103 ∨ c = 109) → (cItems (cE s rs n) s c d (s.size + 1 - k1) m k1 b1).b = false → Pos E m (cItems (cE s rs n) s c d (s.size + 1 - k1) m k1 b1).es → ∃ L : List AR, L.length = (cItems (cE s rs n) s c d (s.size + 1 - k1) m k1 b1).ims.length ∧ L ≠ [] ∧ (∀ a ∈ L, Pln a.key ∧ SZL nm Kn a.txt (szR E (a.num + 1)) ∧ a.num < m + (cItems (cE s rs n) s c d (s.size + 1 - k1) m k1 b1).es.length) ∧ (cItems (cE s rs n) s c d (s.size + 1 - k1) m k1 b1).ims.map IM.arm = L.map (fun a => (a.num : Int)) ∧ bt s k1 (cItems (cE s rs n) s c d (s.size + 1 - k1) m k1 b1).k = joi 44 (L.map AR.t) := fun h hc2 hb hp => by subst h; exact itemsA_good hM hB ih hc2 d (s.size + 1 - k1) m k1 hb1 (by omega) (by omega) hb hm hp
        generalize cItems (cE s rs n) s c d (s.size + 1 - k1) m k1 b1 = l at *
        have hb4 := takeK_ge s 124 l.k l.b
        have hb5 : takeK s 124 l.k l.b ≤ s.size := takeK_le (by decide) hli.2.1
        have hw2 := want_good (s := s) (c := 124) (k := l.k) (b := l.b) (by decide) (by decide)
        generalize takeK s 124 l.k l.b = k2 at *
        generalize wantB s 124 l.k l.b = b2 at *
        have hmo := hM (d + 1) (m + l.es.length) k2 b2 hb5
        have hbd : b2 = true → (cE s rs n (d + 1) (m + l.es.length) k2 b2).b = true := fun h => by rw [h]; exact hB _ _ _
        have hI := ih (d + 1) (m + l.es.length) k2 b2 hb5 (by omega)
        generalize cE s rs n (d + 1) (m + l.es.length) k2 b2 = r at *
        simp only at hb hP ⊢
        have hw := want_good (by decide) (by decide) hb
        have hb2f : b2 = false := by cases hq : b2 with
          | false => rfl
          | true => rw [hbd hq] at hw; cases hw.1
        have g2 := hw2 hb2f
        have hb1f : b1 = false := by cases hq : b1 with
          | false => rfl
          | true => rw [hbi hq] at g2; cases g2.1
        have g1 := hw1 hb1f
        obtain ⟨x1, x2, x3⟩ := hI hw.1 (by omega) hP.left.right
        have hE := hP.last
        have htg := takeK_ge s 41 r.k r.b
        refine ⟨by simp only [List.length_append, List.length_cons, List.length_nil]; omega, by simp only [List.length_append, List.length_cons, List.length_nil]; omega, ?_⟩
        rw [bt_app s (b := T.sk s k + 1) (by omega) (by omega), bt_app s (a := T.sk s k + 1) (b := k1) hb0 (by omega), bt_app s (a := k1) (b := l.k) hli.1 (by omega), bt_app s (a := l.k) (b := k2) hb4 (by omega), bt_app s (a := k2) hmo.1 htg, hk1, g1.2.2, g2.2.2, hw.2.2]
        have hLn : m + (l.es ++ r.es).length = m + l.es.length + r.es.length := by rw [List.length_append]; omega
        have hz : szR E (m + (l.es ++ r.es ++ [(⟨c, T.sk s k, d, 0, 0, l.ims, r.idx⟩ : EX)]).length) = cap1 (szR E (m + l.es.length + r.es.length) + (1 + (l.ims.length : Int)) + armS (szK E (m + l.es.length + r.es.length)) l.ims l.ims.length) := by
          rw [List.length_append, List.length_singleton, ← Nat.add_assoc, szR_at hE, hLn]
          unfold szE
          simp only
          rw [x2, atF_szK E (by omega), show m + l.es.length + r.es.length - 1 + 1 = m + l.es.length + r.es.length from by omega, if_neg (by omega)]
        rw [hz]
        by_cases hpl : c = 123 ∨ c = 102 ∨ c = 119
        · obtain ⟨i1, i2, L, i3, i4, i5, i6⟩ := hIP hb1f hpl g2.1
          rw [i6, armS_none i2]
          have := SZL.list (c := c) (by omega) i4 i5 x3
          rw [show szR E (m + l.es.length + r.es.length) + (1 + (l.ims.length : Int)) + 0 = 1 + (L.length : Int) + szR E (m + l.es.length + r.es.length) from by rw [i3]; omega]
          simpa [joi] using this
        · obtain ⟨L, i1, i2, i3, i4, i5⟩ := hIA hb1f (by omega) g2.1 hP.left.left
          rw [i5, ← i1, armS_sum (E := E) (M := m + l.es.length + r.es.length) i4 (fun a ha => by have := (i3 a ha).2.2; omega) L.length (Nat.le_refl _)]
          have hget : ∀ i, i < L.length → ∃ a ∈ L, (L[i]?).getD arD = a := fun i hi => ⟨L[i], List.getElem_mem _, by rw [List.getElem?_eq_getElem hi]; rfl⟩
          have := SZL.maps (nm := nm) (K := Kn) (c := c) (m := L.length) (ks := fun i => ((L[i]?).getD arD).key) (ar := fun i => ((L[i]?).getD arD).txt) (o := bt s k2 r.k) (n := szR E (m + l.es.length + r.es.length)) (ns := fun i => if i < L.length then szR E (((L[i]?).getD arD).num + 1) else 0) (by omega) (List.length_pos_iff.2 i2)
            (fun i hi => by obtain ⟨a, ha, e⟩ := hget i hi; simp only [e]; exact (i3 a ha).1) (fun i hi => by obtain ⟨a, ha, e⟩ := hget i hi; simp only [e, if_pos hi]; exact (i3 a ha).2.1) (fun i hi => by rw [if_neg (by omega)]) x3
          have e2 : (List.range L.length).map (fun i => ((L[i]?).getD arD).key ++ [58] ++ ((L[i]?).getD arD).txt) = L.map AR.t := range_map L AR.t
          rw [e2] at this
          rw [show szR E (m + l.es.length + r.es.length) + (1 + (L.length : Int)) + sumN (fun i => if i < L.length then szR E (((L[i]?).getD arD).num + 1) else 0) L.length = 1 + (L.length : Int) + szR E (m + l.es.length + r.es.length) + sumN (fun i => if i < L.length then szR E (((L[i]?).getD arD).num + 1) else 0) L.length from by omega]
          simpa [joi] using this
end Go.Proofs.YtaebngpoagjafaaGreat
