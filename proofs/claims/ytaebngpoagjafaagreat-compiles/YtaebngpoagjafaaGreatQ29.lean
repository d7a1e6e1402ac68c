/-
  OUR OWN: the program's encode.
  OUR OWN: what every expression that the parser reads is like.
  OUR OWN: the program's Compile.
  OUR OWN: a run of code, without memory.
-/
import Derived.Test.YtaebngpoagjafaaGreatQ28
import Derived.Test.YtaebngpoagjafaaGreatQ21
import Derived.Test.YtaebngpoagjafaaGreatQ01
namespace Go.Proofs.YtaebngpoagjafaaGreat
open Go.RowKit

/-- Expressions in memory. -/
def EVw (w : World) (eo : Option Addr) (es : List (EX × Value)) : Prop := ∀ i x, es[i]? = some x → ∃ g vo vm vc, eo = some ⟨g, 0, none⟩ ∧ g < w.heap.size ∧ w.cell? ⟨g, i * 7, none⟩ = some (.int .u8 x.1.kind) ∧ w.cell? ⟨g, i * 7 + 1, none⟩ = some (.int .i64 x.1.at_) ∧ w.cell? ⟨g, i * 7 + 2, none⟩ = some (.int .i64 x.1.depth) ∧ w.cell? ⟨g, i * 7 + 3, none⟩ = some (.int .i64 x.1.nv) ∧ w.cell? ⟨g, i * 7 + 4, none⟩ = some (.int .i64 x.1.na) ∧ w.cell? ⟨g, i * 7 + 5, none⟩ = some (.slice vo vm vc) ∧ w.cell? ⟨g, i * 7 + 6, none⟩ = some (.int .i64 x.1.inner) ∧ IV w (.slice vo vm vc) x.1.items ∧ (∀ q, (Value.slice vo vm vc).ownBlock = some q → q < w.heap.size)
theorem EVw.below {w w' : World} {eo : Option Addr} {es : List (EX × Value)} (h : EVw w eo es) (hb : Below w.heap.size w w') : EVw w' eo es := fun i x hx => by
  obtain ⟨g, vo, vm, vc, h1, h2, r0, r1, r2, r3, r4, r5, r6, r7, r8⟩ := h i x hx
  have hc : ∀ q, w'.cell? ⟨g, q, none⟩ = w.cell? ⟨g, q, none⟩ := fun q => hb.cell (p := ⟨g, q, none⟩) h2
  exact ⟨g, vo, vm, vc, h1, Nat.lt_of_lt_of_le h2 hb.size, by rw [hc]; exact r0, by rw [hc]; exact r1, by rw [hc]; exact r2, by rw [hc]; exact r3, by rw [hc]; exact r4, by rw [hc]; exact r5, by rw [hc]; exact r6, r7.of_kept (fun q hq => hb.block q (r8 q hq)), fun q hq => Nat.lt_of_lt_of_le (r8 q hq) hb.size⟩
/-- What can be written. -/
structure SHP (e : EX) : Prop where
  k0 : 0 ≤ e.kind
  k1 : e.kind < 256
  n0 : 0 ≤ e.nv
  n1 : e.nv ≤ 4294967296
  il : e.items.length ≤ 100000
  it : ∀ x ∈ e.items, 0 ≤ x.num ∧ x.num ≤ 4294967296 ∧ 0 ≤ x.pv ∧ x.pv ≤ 4294967296 ∧ 0 ≤ x.pl ∧ x.pl ≤ 4294967296 ∧ 0 ≤ x.wv ∧ x.wv ≤ 4294967296
/-- What encode gives: a row of its own with these bytes. -/
def EncTo (w : World) (X : List Int) (r : Ending) (w' : World) : Prop := Below w.heap.size w w' ∧ ∃ o k, r = .returned (.slice o X.length k) ∧ w'.ownsRow w.heap.size 5 1 (.slice o X.length k) X.length (X.map (Value.int .u8))
theorem owns_mono {w : World} {base base' e size : Nat} {v : Value} {n : Nat} {xs : List Value} (h : w.ownsRow base e size v n xs) (hb : base' ≤ base) : w.ownsRow base' e size v n xs := by
  refine ⟨h.1, ?_⟩
  rcases h.2 with h0 | ⟨g, cap, cur, h1, h2, h3⟩
  · exact .inl h0
  · exact .inr ⟨g, cap, cur, h1, by omega, h3⟩
theorem one_u8 (X : List Int) : ∀ u ∈ X.map (Value.int .u8), u.oneCell' = true := fun u hu => by
  simp only [List.mem_map] at hu
  obtain ⟨x, _, rfl⟩ := hu
  rfl
theorem ev_len {w : World} {v : Value} {l : List IM} {vo : Option Addr} {vm vc : Nat} (h : IV w v l) (hv : v = .slice vo vm vc) : vm = l.length := by
  rcases h with ⟨h1, h2⟩ | ⟨g, cap, h1, _⟩
  · rw [hv] at h1; cases h1; rw [h2]; rfl
  · rw [hv] at h1; cases h1; rfl

attribute [local go_sem ↓] Go.wp_at_zero Go.wp_at_succ
set_option maxRecDepth 100000 in
set_option maxHeartbeats 3200000 in
theorem encode_any (es : List (EX × Value)) (eo : Option Addr) (ec : Nat) (hec : es.length ≤ ec) (hel : es.length ≤ 100000) (hsh : ∀ p ∈ es, SHP p.1) : ∀ n, n ≤ es.length → szR (es.map Prod.fst) n ≤ 1000 → ∀ (ao : Option Addr) (c : Nat) (w : World), (0 < n → ao = eo ∧ c = ec) → EVw w eo es →
    Calls Tryz.prog 62 #[.slice ao n c] w (EncTo w (encN (es.map Prod.fst) n)) := by
  obtain ⟨i0, hi0, hz0, hz1, hz2⟩ := info_parts Tryz.infoByte
  intro n
  induction n using Nat.strongRecOn with
  | ind n ih =>
    intro hn hsz ao c w hao hev
    cases n with
    | zero =>
      clear ih hao
      go_enter Tryz.func62, Tryz.ntmps62
      go_wp2_with fail
      go_ret
      exact ⟨Below.refl _ _, none, 0, rfl, World.ownsRow_nil _ _ _ _⟩
    | succ j =>
      obtain ⟨rfl, rfl⟩ := hao (Nat.succ_pos j)
      obtain ⟨xq, hxq⟩ : ∃ x, es[j]? = some x := ⟨es[j], List.getElem?_eq_getElem (by omega)⟩
      have hex : (es.map Prod.fst)[j]? = some xq.1 := by rw [List.getElem?_map, hxq]; rfl
      have hshp := hsh xq (List.mem_of_getElem? hxq)
      obtain ⟨z1, z2, z3, z4⟩ := sz_parts hex hsz
      have hle := enc_le _ _ hsz
      -- another expression's code
      have HENC : Hid (∀ i wz, atF (szK (es.map Prod.fst) j) i ≤ 1000 → EVw wz ao es → Calls Tryz.prog 107 #[.slice ao j c, .int .i64 i] wz fun r w' => w' = wz ∧ ∃ bo m d, r = .returned (.slice bo m d) ∧ Calls Tryz.prog 62 #[.slice bo m d] wz (EncTo wz (atL (encK (es.map Prod.fst) j) i))) := fun i wz hi hz => by
        refine (upTo_any ao j c i wz (by omega) (by omega) (fun _ => by obtain ⟨g, _, _, _, h1, _⟩ := hz j xq hxq; exact ⟨g, h1⟩)).mono ?_
        rintro r w' ⟨rfl, h1⟩
        refine ⟨rfl, ?_⟩
        rcases h1 with ⟨h1, rfl⟩ | ⟨k, rfl, h1, rfl⟩
        · refine ⟨none, 0, 0, rfl, ?_⟩
          have h2 : atL (encK (es.map Prod.fst) j) i = encN (es.map Prod.fst) 0 := by
            rw [atL_enc]
            split
            · rfl
            · rw [if_neg (by omega)]; rfl
          rw [h2]
          exact ih 0 (by omega) (by omega) (by simp [szR]) none 0 _ (fun h => by omega) hz
        · refine ⟨ao, k + 1, c, rfl, ?_⟩
          have h2 : atL (encK (es.map Prod.fst) j) (k : Int) = encN (es.map Prod.fst) (k + 1) := by
            rw [atL_enc, if_neg (by omega), if_pos (by omega), Int.toNat_natCast]
          rw [h2]
          rw [atF_sz, if_neg (by omega), if_pos (by omega), Int.toNat_natCast] at hi
          exact ih (k + 1) (by omega) (by omega) hi ao c _ (fun _ => ⟨rfl, rfl⟩) hz
      have HLEN : Hid ((encN (es.map Prod.fst) (j + 1)).length ≤ 7000) := by show _ ≤ _; omega
      have HRES : Hid (encN (es.map Prod.fst) (j + 1) = encE (encK (es.map Prod.fst) j) xq.1) := by show _ = _; simp only [encN, hex]
      generalize encN (es.map Prod.fst) (j + 1) = X at *
      have HEV : Hid (EVw w ao es) := hev
      obtain ⟨g, vo, vm, vc, hg, hgw, r0, r1, r2, r3, r4, r5, r6, hiv, hivg⟩ := hev j xq hxq
      obtain ⟨e, xv⟩ := xq
      simp only at r0 r1 r2 r3 r4 r5 r6 hiv hshp HRES z1 z2 z3 z4
      have hvm := ev_len hiv rfl
      subst hvm
      subst hg
      generalize hKe : encK (es.map Prod.fst) j = K at *
      have HZ3 : Hid (∀ (i : Nat) (x : IM), e.items[i]? = some x → atF (szK (es.map Prod.fst) j) x.arm ≤ 1000) := z3
      have hjc : (j : Int) ≤ (c : Int) := by omega
      have hj0 : (0 : Int) ≤ (j : Int) := by omega
      have hjs : (j : Int) + 1 - 1 = (j : Int) := by omega
      have HIV : Hid (IV w (.slice vo e.items.length vc) e.items) := hiv
      have HSH : Hid (SHP e) := hshp
      have HB0 : Hid (Below w.heap.size w (w.alloc (.cells #[.int .u8 e.kind, .int .i64 e.at_, .int .i64 e.depth, .int .i64 e.nv, .int .i64 e.na, .slice vo e.items.length vc, .int .i64 e.inner] 114))) := (Below.refl _ _).alloc (Nat.le_refl _) _
      have HX0 : Hid ((w.alloc (.cells #[.int .u8 e.kind, .int .i64 e.at_, .int .i64 e.depth, .int .i64 e.nv, .int .i64 e.na, .slice vo e.items.length vc, .int .i64 e.inner] 114)).heap[w.heap.size]? = some (.cells #[.int .u8 e.kind, .int .i64 e.at_, .int .i64 e.depth, .int .i64 e.nv, .int .i64 e.na, .slice vo e.items.length vc, .int .i64 e.inner] 114 (0, 0))) := heap_alloc_new w _
      clear ih hex hxq hsz z1 z3 hle hiv hshp hKe hsh
      go_enter Tryz.func62, Tryz.ntmps62
      go_wp2_with fail
      refine (HENC.out e.inner _ z2 (HEV.out.below HB0.out)).mono ?_
      rintro r w' ⟨hw', bo, m, d, rfl, hcall⟩
      subst w'
      have HCALL := hcall
      clear hcall
      go_wp2_with fail
      refine HCALL.mono ?_
      rintro r w1 ⟨hb1, wo, wk, rfl, hrow1⟩
      have HB1 : Hid (Below w.heap.size w w1) := HB0.out.trans (hb1.mono (by simp))
      have HX1 : Hid (w1.heap[w.heap.size]? = some (.cells #[.int .u8 e.kind, .int .i64 e.at_, .int .i64 e.depth, .int .i64 e.nv, .int .i64 e.na, .slice vo e.items.length vc, .int .i64 e.inner] 114 (0, 0))) := by show _ = _; rw [hb1.block _ (by simp)]; exact HX0.out
      have HR1 : Hid (w1.ownsRow w.heap.size 5 1 (.slice wo (atL K e.inner).length wk) (atL K e.inner).length ((atL K e.inner).map (Value.int .u8))) := owns_mono hrow1 (by simp)
      have q0 : w1.cell? ⟨w.heap.size, 0, none⟩ = some (.int .u8 e.kind) := by rw [cell_of_row w1 _ _ _ _ _ HX1.out]; rfl
      clear hb1 hrow1 HCALL HB0 HX0 r0 r1 r2 r3 r4 r5 r6 hev
      cases ek : (e.kind == 61) with
      | true =>
        have HE : Hid (X = atL K e.inner) := by show _ = _; rw [HRES.out]; unfold encE; rw [if_pos (by simpa using ek)]
        go_wp2_with fail
        go_ret
        exact ⟨HB1.out, wo, wk, by rw [HE.out]; rfl, by rw [HE.out]; exact HR1.out⟩
      | false =>
        have HE : Hid (X = headL K e e.items.length ++ withinL K e e.items.length) := by show _ = _; rw [HRES.out]; unfold encE; rw [if_neg (by simpa using ek)]
        have HLT : Hid ((headL K e e.items.length).length + (withinL K e e.items.length).length ≤ 7000) := by show _ ≤ _; rw [← List.length_append, ← HE.out]; exact HLEN.out
        have hil := z4 (by simpa using ek)
        have HWM : Hid (WM (w1.alloc (.cells #[.slice none 0 0] 170)) w.heap.size w1.heap.size (.slice none 0 0) []) := ⟨heap_alloc_new _ _, World.ownsRow_nil _ _ _ _, HB1.out.size⟩
        have HX2 : Hid ((w1.alloc (.cells #[.slice none 0 0] 170)).heap[w.heap.size]? = some (.cells #[.int .u8 e.kind, .int .i64 e.at_, .int .i64 e.depth, .int .i64 e.nv, .int .i64 e.na, .slice vo e.items.length vc, .int .i64 e.inner] 114 (0, 0))) := by show _ = _; rw [Below.heap_alloc _ _ _ (lt_of_block HX1.out)]; exact HX1.out
        have p0 : (w1.alloc (.cells #[.slice none 0 0] 170)).cell? ⟨w.heap.size, 0, none⟩ = some (.int .u8 e.kind) := by rw [cell_of_row _ _ _ _ _ _ HX2.out]; rfl
        have p1 : (w1.alloc (.cells #[.slice none 0 0] 170)).cell? ⟨w.heap.size, 1, none⟩ = some (.int .i64 e.at_) := by rw [cell_of_row _ _ _ _ _ _ HX2.out]; rfl
        have p2 : (w1.alloc (.cells #[.slice none 0 0] 170)).cell? ⟨w.heap.size, 2, none⟩ = some (.int .i64 e.depth) := by rw [cell_of_row _ _ _ _ _ _ HX2.out]; rfl
        have p3 : (w1.alloc (.cells #[.slice none 0 0] 170)).cell? ⟨w.heap.size, 3, none⟩ = some (.int .i64 e.nv) := by rw [cell_of_row _ _ _ _ _ _ HX2.out]; rfl
        have p4 : (w1.alloc (.cells #[.slice none 0 0] 170)).cell? ⟨w.heap.size, 4, none⟩ = some (.int .i64 e.na) := by rw [cell_of_row _ _ _ _ _ _ HX2.out]; rfl
        have p5 : (w1.alloc (.cells #[.slice none 0 0] 170)).cell? ⟨w.heap.size, 5, none⟩ = some (.slice vo e.items.length vc) := by rw [cell_of_row _ _ _ _ _ _ HX2.out]; rfl
        have p6 : (w1.alloc (.cells #[.slice none 0 0] 170)).cell? ⟨w.heap.size, 6, none⟩ = some (.int .i64 e.inner) := by rw [cell_of_row _ _ _ _ _ _ HX2.out]; rfl
        go_wp2_with fail
        refine (wexpr_any w.heap.size w1.heap.size e vo vc _ [] _ HSH.out.k0 HSH.out.k1 HSH.out.n0 HSH.out.n1 HSH.out.il (by simp) HWM.out).mono ?_
        rintro r w3 ⟨rfl, v3, hm3, hv3⟩
        have hlt1 : w.heap.size < w1.heap.size := lt_of_block HX1.out
        have HM3 : Hid (WM w3 w.heap.size w1.heap.size v3 (headL K e 0)) := by show WM _ _ _ _ _; simpa [headL] using hm3
        have HK3 : Hid (∀ b, b < w1.heap.size → w3.heap[b]? = w1.heap[b]? ∧ v3.ownBlock ≠ some b) := fun b hb => by
          have h1 := hv3.kept b (by simp; omega) (by omega) (by simp [Value.ownBlock])
          exact ⟨h1.1.trans (Below.heap_alloc _ _ _ hb), h1.2⟩
        have HB3 : Hid (Below w.heap.size w w3) := (HB1.out.alloc HB1.out.size _).trans (hv3.below HWM.out)
        have HX3 : Hid (w3.heap[w.heap.size]? = some (.cells #[.int .u8 e.kind, .int .i64 e.at_, .int .i64 e.depth, .int .i64 e.nv, .int .i64 e.na, .slice vo e.items.length vc, .int .i64 e.inner] 114 (0, 0))) := by show _ = _; rw [(HK3.out _ hlt1).1]; exact HX1.out
        have HR3 : Hid (w3.ownsRow w.heap.size 5 1 (.slice wo (atL K e.inner).length wk) (atL K e.inner).length ((atL K e.inner).map (Value.int .u8))) := owns_of_block HR1.out (fun b hb => (HK3.out b (HR1.out.lt b hb).2).1)
        have HD3 : Hid (∀ b, (Value.slice wo (atL K e.inner).length wk).ownBlock = some b → v3.ownBlock ≠ some b) := fun b hb => (HK3.out b (HR1.out.lt b hb).2).2
        have s5 : w3.cell? ⟨w.heap.size, 5, none⟩ = some (.slice vo e.items.length vc) := by rw [cell_of_row _ _ _ _ _ _ HX3.out]; rfl
        clear hm3 hv3 p0 p1 p2 p3 p4 p5 p6 HX2 HWM q0
        go_wp2_with fail
        go_loopg [5, 39] e.items.length (fun q a y wr => ∃ (i : Nat) (ao : Option Addr) (ac : Nat) (v' : Value), q + i = e.items.length ∧ a = .slice ao (withinL K e i).length ac ∧ y = .int .i64 i ∧ WM wr w.heap.size w1.heap.size v' (headL K e i) ∧ wr.ownsRow w.heap.size 5 1 (.slice ao (withinL K e i).length ac) (withinL K e i).length ((withinL K e i).map (Value.int .u8)) ∧ (∀ b, (Value.slice ao (withinL K e i).length ac).ownBlock = some b → v'.ownBlock ≠ some b) ∧ Below w.heap.size w wr ∧ wr.heap[w.heap.size]? = some (.cells #[.int .u8 e.kind, .int .i64 e.at_, .int .i64 e.depth, .int .i64 e.nv, .int .i64 e.na, .slice vo e.items.length vc, .int .i64 e.inner] 114 (0, 0)))
        case atStart => exact ⟨0, wo, wk, v3, by omega, rfl, rfl, HM3.out, HR3.out, HD3.out, HB3.out, HX3.out⟩
        case round =>
          obtain ⟨i, ao, ac, v', hq, rfl, rfl, hm, hrow, hdis, hbel, hxe⟩ := hrel
          have HM : Hid (WM wr w.heap.size w1.heap.size v' (headL K e i)) := hm
          have HR : Hid (wr.ownsRow w.heap.size 5 1 (.slice ao (withinL K e i).length ac) (withinL K e i).length ((withinL K e i).map (Value.int .u8))) := hrow
          have HD : Hid (∀ b, (Value.slice ao (withinL K e i).length ac).ownBlock = some b → v'.ownBlock ≠ some b) := hdis
          have HB : Hid (Below w.heap.size w wr) := hbel
          have HXE : Hid (wr.heap[w.heap.size]? = some (.cells #[.int .u8 e.kind, .int .i64 e.at_, .int .i64 e.depth, .int .i64 e.nv, .int .i64 e.na, .slice vo e.items.length vc, .int .i64 e.inner] 114 (0, 0))) := hxe
          have hlw : (withinL K e i).length ≤ 7000 := by have := withinL_le K e e.items.length i (by omega); have := HLT.out; omega
          have hlh : (headL K e i).length ≤ 7000 := by have := headL_le K e e.items.length i (by omega); have := HLT.out; omega
          have HNB : Hid ((Value.slice ao (withinL K e i).length ac).ownBlock ≠ some w1.heap.size) := owns_ne hrow hm.blk (by decide)
          clear hm hrow hdis hbel hxe
          by_cases hlt : i < e.items.length
          · obtain ⟨x, hx⟩ : ∃ x, e.items[i]? = some x := ⟨e.items[i], List.getElem?_eq_getElem hlt⟩
            have hi0' : (0 : Int) ≤ (i : Int) := by omega
            have hi1' : (i : Int) < (e.items.length : Int) := by omega
            rcases HIV.out with ⟨_, h2⟩ | ⟨gi, icap, h1, h2, h3⟩
            · rw [h2] at hlt; simp at hlt
            · cases h1
              have hgl : gi < w.heap.size := hivg gi rfl
              obtain ⟨r0, r1, r2, r3, r4, r5, r6⟩ := h3 i x hx
              have hcg : ∀ q, wr.cell? ⟨gi, q, none⟩ = w.cell? ⟨gi, q, none⟩ := fun q => HB.out.cell (p := ⟨gi, q, none⟩) hgl
              rw [← hcg] at r0 r1 r2 r3 r4 r5 r6
              have hxs := HSH.out.it x (List.mem_of_getElem? hx)
              obtain ⟨b1, b2, b3, b4, b5, b6, b7, b8⟩ := hxs
              have HZX : Hid (atF (szK (List.map Prod.fst es) j) x.arm ≤ 1000) := HZ3.out i x hx
              have HHD : Hid (headL K e (i + 1) = headL K e i ++ itemB e.kind x (withinL K e i).length) := by show _ = _; simp only [headL, hx]
              have HWD : Hid (withinL K e (i + 1) = withinL K e i ++ atL K x.arm) := by show _ = _; simp only [withinL, hx]
              have hla : (withinL K e i).length + (atL K x.arm).length ≤ 7000 := by have h9 := withinL_le K e e.items.length (i + 1) (by omega); rw [HWD.out, List.length_append] at h9; have := HLT.out; omega
              have hbx : w.heap.size < wr.heap.size := lt_of_block HXE.out
              have HXA : Hid ((wr.alloc (.cells #[.int .i64 x.at_, .int .i64 x.num, .int .i64 x.pv, .int .i64 x.pl, .int .i64 x.wv, .int .i64 x.wa, .int .i64 x.arm] 167)).heap[w.heap.size]? = some (.cells #[.int .u8 e.kind, .int .i64 e.at_, .int .i64 e.depth, .int .i64 e.nv, .int .i64 e.na, .slice (some ⟨gi, 0, none⟩) e.items.length vc, .int .i64 e.inner] 114 (0, 0))) := by show _ = _; rw [Below.heap_alloc _ _ _ hbx]; exact HXE.out
              have k0 : (wr.alloc (.cells #[.int .i64 x.at_, .int .i64 x.num, .int .i64 x.pv, .int .i64 x.pl, .int .i64 x.wv, .int .i64 x.wa, .int .i64 x.arm] 167)).cell? ⟨w.heap.size, 0, none⟩ = some (.int .u8 e.kind) := by rw [cell_of_row _ _ _ _ _ _ HXA.out]; rfl
              have HXX : Hid ((wr.alloc (.cells #[.int .i64 x.at_, .int .i64 x.num, .int .i64 x.pv, .int .i64 x.pl, .int .i64 x.wv, .int .i64 x.wa, .int .i64 x.arm] 167)).heap[wr.heap.size]? = some (.cells #[.int .i64 x.at_, .int .i64 x.num, .int .i64 x.pv, .int .i64 x.pl, .int .i64 x.wv, .int .i64 x.wa, .int .i64 x.arm] 167 (0, 0))) := heap_alloc_new wr _
              clear h2 h3 hcg hx
              go_wp2_with fail
              refine (witem_any w.heap.size w1.heap.size e.kind x (withinL K e i).length v' (headL K e i) _ b1 b2 b3 b4 b5 b6 b7 b8 (by omega) (by omega) (by omega) (HM.out.alloc _)).mono ?_
              rintro r w4 ⟨rfl, v4, hm4, hv4⟩
              have HM4 : Hid (WM w4 w.heap.size w1.heap.size v4 (headL K e (i + 1))) := by show WM _ _ _ _ _; rw [HHD.out]; exact hm4
              have HB4 : Hid (Below w.heap.size w w4) := (HB.out.alloc HB.out.size _).trans (hv4.below (HM.out.alloc _))
              have HX4 : Hid (w4.heap[w.heap.size]? = some (.cells #[.int .u8 e.kind, .int .i64 e.at_, .int .i64 e.depth, .int .i64 e.nv, .int .i64 e.na, .slice (some ⟨gi, 0, none⟩) e.items.length vc, .int .i64 e.inner] 114 (0, 0))) := by show _ = _; rw [(hv4.kept _ (by simp; omega) (by omega) (owns_ne HM.out.row HXE.out (by decide))).1]; exact HXA.out
              have HY4 : Hid (w4.heap[wr.heap.size]? = some (.cells #[.int .i64 x.at_, .int .i64 x.num, .int .i64 x.pv, .int .i64 x.pl, .int .i64 x.wv, .int .i64 x.wa, .int .i64 x.arm] 167 (0, 0))) := by show _ = _; rw [(hv4.kept _ (by simp) (by have := HM.out.lt; omega) (fun e' => by have := (HM.out.row.lt _ e').2; omega)).1]; exact HXX.out
              have HK4 : Hid (∀ b, (Value.slice ao (withinL K e i).length ac).ownBlock = some b → w4.heap[b]? = wr.heap[b]? ∧ v4.ownBlock ≠ some b) := fun b hb => by
                have hbl := (HR.out.lt b hb).2
                have h1 := hv4.kept b (by simp; omega) (fun e' => HNB.out (by rw [← e']; exact hb)) (HD.out b hb)
                exact ⟨h1.1.trans (Below.heap_alloc _ _ _ hbl), h1.2⟩
              have HR4 : Hid (w4.ownsRow w.heap.size 5 1 (.slice ao (withinL K e i).length ac) (withinL K e i).length ((withinL K e i).map (Value.int .u8))) := owns_of_block HR.out (fun b hb => (HK4.out b hb).1)
              have k6 : w4.cell? ⟨wr.heap.size, 6, none⟩ = some (.int .i64 x.arm) := by rw [cell_of_row _ _ _ _ _ _ HY4.out]; rfl
              clear hm4 hv4 r0 r1 r2 r3 r4 r5 r6 k0
              go_wp2_with fail
              refine (HENC.out x.arm _ HZX.out (HEV.out.below HB4.out)).mono ?_
              rintro r w' ⟨hw', bo, m, d, rfl, hcall⟩
              subst w'
              have HCALL := hcall
              clear hcall
              go_wp2_with fail
              refine HCALL.mono ?_
              rintro r w5 ⟨hb5, xo, xk, rfl, hrow5⟩
              have HR5 : Hid (w5.ownsRow w4.heap.size 5 1 (.slice xo (atL K x.arm).length xk) (atL K x.arm).length ((atL K x.arm).map (Value.int .u8))) := hrow5
              have HB5 : Hid (Below w.heap.size w w5) := HB4.out.trans (hb5.mono HB4.out.size)
              have HX5 : Hid (w5.heap[w.heap.size]? = some (.cells #[.int .u8 e.kind, .int .i64 e.at_, .int .i64 e.depth, .int .i64 e.nv, .int .i64 e.na, .slice (some ⟨gi, 0, none⟩) e.items.length vc, .int .i64 e.inner] 114 (0, 0))) := by show _ = _; rw [hb5.block _ (lt_of_block HX4.out)]; exact HX4.out
              have HW5 : Hid (w5.ownsRow w.heap.size 5 1 (.slice ao (withinL K e i).length ac) (withinL K e i).length ((withinL K e i).map (Value.int .u8))) := owns_of_block HR4.out (fun b hb => hb5.block b (HR4.out.lt b hb).2)
              have HM5 : Hid (WM w5 w.heap.size w1.heap.size v4 (headL K e (i + 1))) := ⟨by rw [hb5.block _ HM4.out.lt]; exact HM4.out.blk, owns_of_block HM4.out.row (fun b hb => hb5.block b (HM4.out.row.lt b hb).2), HM4.out.hB⟩
              have hs5 : w4.heap.size ≤ w5.heap.size := hb5.size
              have HV4 : Hid (∀ b, v4.ownBlock = some b → b < w4.heap.size) := fun b hb => (HM4.out.row.lt b hb).2
              clear hb5 hrow5 HCALL
              have hA1 : Hid ((withinL K e i).length + (atL K x.arm).length ≤ maxLen) := by show _ ≤ _; unfold maxLen; omega
              have hA2 : Hid (((withinL K e i).length + (atL K x.arm).length) * 1 ≤ 140737488355328) := by show _ ≤ _; omega
              have hA3 : Hid (w.heap.size ≤ w5.heap.size) := HB5.out.size
              go_wp2_with (at_builtin; refine wpList_append_row _ rfl _ _ 48 rfl w.heap.size 5 i0 _ 1 1 Tryz.underlying48 hi0 hz0 hz1 hz2 rfl (by decide) (.slice ao (withinL K e i).length ac) _ _ rfl HW5.out w4.heap.size (.slice xo (atL K x.arm).length xk) _ _ rfl HR5.out (one_u8 _) hA1.out hA2.out hA3.out w5.heap.size rfl ?_; intro oo cap w6 hown hgrow hat)
              have HM6 : Hid (WM w6 w.heap.size w1.heap.size v4 (headL K e (i + 1))) := ⟨by rw [hgrow.block _ HM5.out.lt (fun e' => HNB.out e'.symm)]; exact HM5.out.blk, owns_of_block HM5.out.row (fun b hb => hgrow.block b (HM5.out.row.lt b hb).2 (fun e' => (HK4.out b e'.symm).2 hb)), HM5.out.hB⟩
              have HR6 : Hid (w6.ownsRow w.heap.size 5 1 (.slice oo ((withinL K e i).length + (atL K x.arm).length) cap) (withinL K e (i + 1)).length ((withinL K e (i + 1)).map (Value.int .u8))) := by
                show World.ownsRow _ _ _ _ _ _ _
                rw [HWD.out, List.length_append, List.map_append]
                exact hown
              have HD6 : Hid (∀ b, (Value.slice oo ((withinL K e i).length + (atL K x.arm).length) cap).ownBlock = some b → v4.ownBlock ≠ some b) := fun b hb => by
                rcases hat with h9 | h9
                · rw [h9] at hb; exact (HK4.out b hb).2
                · rw [h9] at hb
                  intro hb2
                  have := HV4.out b hb2
                  cases hb
                  omega
              have HB6 : Hid (Below w.heap.size w w6) := HB5.out.grown hgrow HB5.out.size (fun b hb => (HR.out.lt b hb).1)
              have HX6 : Hid (w6.heap[w.heap.size]? = some (.cells #[.int .u8 e.kind, .int .i64 e.at_, .int .i64 e.depth, .int .i64 e.nv, .int .i64 e.na, .slice (some ⟨gi, 0, none⟩) e.items.length vc, .int .i64 e.inner] 114 (0, 0))) := by show _ = _; rw [hgrow.block _ (lt_of_block HX5.out) (fun e' => owns_ne HW5.out HX5.out (by decide) e'.symm)]; exact HX5.out
              clear hown hgrow hat
              go_roundg (gk - 1)
              case measure => omega
              case rel =>
                refine ⟨i + 1, oo, cap, v4, by omega, by rw [HWD.out, List.length_append], by go_num, HM6.out, ?_, ?_, HB6.out, HX6.out⟩
                · have h9 := HR6.out; rw [HWD.out, List.length_append] at h9 ⊢; exact h9
                · have h9 := HD6.out; rw [HWD.out, List.length_append]; exact h9
          · have hd : ¬ ((i : Int) < (e.items.length : Int)) := by omega
            have hie : i = e.items.length := by omega
            subst hie
            have c0 := HM.out.c0
            have hA1 : Hid ((headL K e e.items.length).length + (withinL K e e.items.length).length ≤ maxLen) := by show _ ≤ _; unfold maxLen; omega
            have hA2 : Hid (((headL K e e.items.length).length + (withinL K e e.items.length).length) * 1 ≤ 140737488355328) := by show _ ≤ _; omega
            have hA3 : Hid (w.heap.size ≤ wr.heap.size) := HB.out.size
            go_wp2_with (at_builtin; refine wpList_append_row _ rfl _ _ 48 rfl w.heap.size 5 i0 _ 1 1 Tryz.underlying48 hi0 hz0 hz1 hz2 rfl (by decide) v' _ _ rfl HM.out.row w.heap.size (.slice ao (withinL K e e.items.length).length ac) _ _ rfl HR.out (one_u8 _) hA1.out hA2.out hA3.out wr.heap.size rfl ?_; intro oo cap w6 hown hgrow hat; have zz : w6.frozen? ⟨w1.heap.size, 0, none⟩ = false := (hgrow.frozen_far ⟨w1.heap.size, 0, none⟩ HM.out.lt (fun e => HM.out.ne e.symm)).trans (HM.out.fz 0); have cc : w6.cell? ⟨w1.heap.size, 0, none⟩ = some v' := (hgrow.cell_far ⟨w1.heap.size, 0, none⟩ HM.out.lt (fun e => HM.out.ne e.symm)).trans HM.out.c0)
            have HM7 := HM.out.push (ys := withinL K e e.items.length) (n := (headL K e e.items.length).length + (withinL K e e.items.length).length) (by simp) hgrow (by rw [List.map_append]; exact hown)
            have HB7 : Below w.heap.size w (w6.setCell ⟨w1.heap.size, 0, none⟩ (.slice oo ((headL K e e.items.length).length + (withinL K e e.items.length).length) cap)) := (HB.out.grown hgrow HB.out.size (fun b hb => (HM.out.row.lt b hb).1)).setCell (by simp only; omega) _
            go_ret
            refine ⟨HB7, oo, cap, by rw [HE.out, List.length_append]; rfl, ?_⟩
            have h9 := HM7.row
            rw [HE.out]
            rw [List.length_append] at h9 ⊢
            exact h9
end Go.Proofs.YtaebngpoagjafaaGreat
namespace Go.Proofs.YtaebngpoagjafaaGreat
open Go.RowKit

theorem nmF_dg (s : ByteArray) (b : Bool) (p : Nat) : ∀ n j, p ≤ j → (∀ i, p ≤ i → i < j → 48 ≤ T.ch s i ∧ T.ch s i ≤ 57) → ∀ i, p ≤ i → i < nmF s b n j → 48 ≤ T.ch s i ∧ T.ch s i ≤ 57 := by
  intro n
  induction n with
  | zero => intro j _ h i h1 h2; exact h i h1 h2
  | succ n ih =>
    intro j hj h i h1 h2
    simp only [nmF] at h2
    split at h2
    · rename_i hd
      obtain ⟨_, _, he⟩ := dig_here hd
      refine ih (j + 1) (by omega) (fun q hq1 hq2 => ?_) i h1 h2
      by_cases hqj : q < j
      · exact h q hq1 hqj
      · have : q = j := by omega
        subst this
        rw [he] at hd
        exact (dig_iff _).1 hd
    · exact h i h1 h2
theorem vl_bd {s : ByteArray} {p : Nat} : ∀ m, (∀ i, p ≤ i → i < p + m → 48 ≤ T.ch s i ∧ T.ch s i ≤ 57) → 0 ≤ vl s p m ∧ vl s p m + 1 ≤ 10 ^ m := by
  intro m
  induction m with
  | zero => intro _; simp [vl]
  | succ m ih =>
    intro h
    have h1 := ih (fun i a b => h i a (by omega))
    have h2 := h (p + m) (by omega) (by omega)
    have h3 : (10 : Int) ^ (m + 1) = 10 ^ m * 10 := Int.pow_succ _ _
    simp only [vl]
    omega
theorem numV_bd (s : ByteArray) (k : Nat) (b : Bool) : 0 ≤ numV s k b ∧ numV s k b ≤ 999999999 := by
  have hu := nmF_up s b (nmL s (skipF s k b) b) (skipF s k b)
  have h9 : nmL s (skipF s k b) b ≤ 9 := by unfold nmL; split <;> omega
  have hd := nmF_dg s b (skipF s k b) (nmL s (skipF s k b) b) (skipF s k b) (Nat.le_refl _) (fun i h1 h2 => by omega)
  have hk : numK s k b = nmF s b (nmL s (skipF s k b) b) (skipF s k b) := rfl
  rw [← hk] at hd hu
  unfold numV
  have h1 := vl_bd (s := s) (p := skipF s k b) (numK s k b - skipF s k b) (fun i a c => hd i a (by omega))
  have h2 : (10 : Int) ^ (numK s k b - skipF s k b) ≤ 10 ^ 9 := by
    have : numK s k b - skipF s k b ≤ 9 := by omega
    generalize numK s k b - skipF s k b = m at *
    have : m = 0 ∨ m = 1 ∨ m = 2 ∨ m = 3 ∨ m = 4 ∨ m = 5 ∨ m = 6 ∨ m = 7 ∨ m = 8 ∨ m = 9 := by omega
    rcases this with rfl | rfl | rfl | rfl | rfl | rfl | rfl | rfl | rfl | rfl <;> decide
  have h3 : (10 : Int) ^ 9 = 1000000000 := by decide
  omega
theorem btF_dg (s : ByteArray) (b : Bool) (p : Nat) : ∀ n j, p ≤ j → (∀ i, p ≤ i → i < j → T.ch s i = 48 ∨ T.ch s i = 49) → ∀ i, p ≤ i → i < btF s b n j → T.ch s i = 48 ∨ T.ch s i = 49 := by
  intro n
  induction n with
  | zero => intro j _ h i h1 h2; exact h i h1 h2
  | succ n ih =>
    intro j hj h i h1 h2
    simp only [btF] at h2
    split at h2
    · rename_i hd
      obtain ⟨_, _, he⟩ := bit_here hd
      refine ih (j + 1) (by omega) (fun q hq1 hq2 => ?_) i h1 h2
      by_cases hqj : q < j
      · exact h q hq1 hqj
      · have : q = j := by omega
        subst this
        rw [he] at hd
        simpa [bit] using hd
    · exact h i h1 h2
theorem btF_up2 (s : ByteArray) (b : Bool) : ∀ n j, btF s b n j ≤ j + n := by
  intro n
  induction n with
  | zero => intro j; simp [btF]
  | succ n ih => intro j; simp only [btF]; split
                 · have := ih (j + 1); omega
                 · omega
theorem bv_bd {s : ByteArray} {p : Nat} : ∀ m, (∀ i, p ≤ i → i < p + m → T.ch s i = 48 ∨ T.ch s i = 49) → 0 ≤ bv s p m ∧ bv s p m + 1 ≤ 2 ^ m := by
  intro m
  induction m with
  | zero => intro _; simp [bv]
  | succ m ih =>
    intro h
    have h1 := ih (fun i a b => h i a (by omega))
    have h2 := h (p + m) (by omega) (by omega)
    have h3 : (2 : Int) ^ (m + 1) = 2 ^ m * 2 := Int.pow_succ _ _
    simp only [bv]
    omega
theorem btV_bd (s : ByteArray) (k : Nat) (b : Bool) : 0 ≤ btV s k b ∧ btV s k b < 4294967296 ∧ btL s k b ≤ 32 := by
  have hu := btF_up2 s b 32 (skipF s k b)
  have hd := btF_dg s b (skipF s k b) 32 (skipF s k b) (Nat.le_refl _) (fun i h1 h2 => by omega)
  have hk : btK s k b = btF s b 32 (skipF s k b) := rfl
  rw [← hk] at hd hu
  have hl : btL s k b ≤ 32 := by unfold btL; omega
  have h1 := bv_bd (s := s) (p := skipF s k b) (btL s k b) (fun i a c => hd i a (by unfold btL at c; omega))
  unfold btV
  generalize btL s k b = m at *
  generalize bv s (skipF s k b) m = v at *
  have hp : (0 : Int) < 2 ^ (32 - m) := Int.pow_pos (by decide)
  have h2 : (2 : Int) ^ m * 2 ^ (32 - m) = 4294967296 := by
    rw [← Int.pow_add, show m + (32 - m) = 32 from by omega]; decide
  have h3 : (v + 1) * 2 ^ (32 - m) ≤ 2 ^ m * 2 ^ (32 - m) := Int.mul_le_mul_of_nonneg_right h1.2 (by omega)
  rw [h2, Int.add_mul, Int.one_mul] at h3
  refine ⟨Int.mul_nonneg h1.1 (by omega), by omega, hl⟩
/-- An item, an expression, as they are read. -/
structure IB (kind : Int) (x : IM) : Prop where
  num : 0 ≤ x.num ∧ x.num ≤ 999999999
  pv : 0 ≤ x.pv ∧ x.pv < 4294967296
  pl : 0 ≤ x.pl ∧ x.pl ≤ 32
  wv : 0 ≤ x.wv ∧ x.wv ≤ 999999999
  arm : kind ≠ 109 → kind ≠ 103 → x.arm = -1
  zp : kind ≠ 109 → x.pv = 0 ∧ x.pl = 0
  zn : kind = 109 → x.num = 0
structure EB (e : EX) : Prop where
  kind : e.kind = 123 ∨ e.kind = 119 ∨ e.kind = 102 ∨ e.kind = 109 ∨ e.kind = 103 ∨ e.kind = 116 ∨ e.kind = 64 ∨ e.kind = 61
  nv : 0 ≤ e.nv ∧ e.nv ≤ 999999999
  it : ∀ x ∈ e.items, IB e.kind x
  inn : e.kind = 123 ∨ e.kind = 64 → e.inner = -1
  emp : e.kind = 64 ∨ e.kind = 116 ∨ e.kind = 61 → e.items = []
def AllB (l : List EX) : Prop := ∀ e ∈ l, EB e
theorem AllB.app {a b : List EX} (h : AllB a) (k : AllB b) : AllB (a ++ b) := fun e he => (List.mem_append.1 he).elim (h e) (k e)
theorem AllB.one {e : EX} (h : EB e) : AllB [e] := fun x hx => by simp at hx; subst hx; exact h
theorem AllB.nil : AllB [] := fun _ h => by simp at h
theorem cItem_sh {ex : Int → Nat → Nat → Bool → CR} {s : ByteArray} (hX : ∀ d m k b, AllB (ex d m k b).es) (kind d : Int) (m k : Nat) (b : Bool) : AllB (cItem ex s kind d m k b).es ∧ IB kind (cItem ex s kind d m k b).im := by
  unfold cItem
  simp only
  split
  · rename_i hk
    have := btV_bd s (skipF s k b) b
    exact ⟨hX _ _ _ _, ⟨by simp, by simp only; omega, by simp only; omega, by simp, fun h => absurd hk h, fun h => absurd hk h, fun _ => rfl⟩⟩
  · split
    · rename_i hk
      have := numV_bd s (skipF s k b) b
      exact ⟨hX _ _ _ _, ⟨by simp only; omega, by simp, by simp, by simp, fun _ h => absurd hk h, fun _ => ⟨rfl, rfl⟩, fun h => by omega⟩⟩
    · have h1 := numV_bd s (skipF s k b) b
      split
      · have h2 := numV_bd s (takeK s 42 (numK s (skipF s k b) b) (numX s (skipF s k b) b)) (wantB s 42 (numK s (skipF s k b) b) (numX s (skipF s k b) b))
        exact ⟨AllB.nil, ⟨by simp only; omega, by simp, by simp, by simp only; omega, fun _ _ => rfl, fun _ => ⟨rfl, rfl⟩, fun h => by omega⟩⟩
      · exact ⟨AllB.nil, ⟨by simp only; omega, by simp, by simp, by simp, fun _ _ => rfl, fun _ => ⟨rfl, rfl⟩, fun h => by omega⟩⟩
theorem cItems_sh {ex : Int → Nat → Nat → Bool → CR} {s : ByteArray} (hX : ∀ d m k b, AllB (ex d m k b).es) (kind d : Int) : ∀ (n m k : Nat) (b : Bool), AllB (cItems ex s kind d n m k b).es ∧ ∀ x ∈ (cItems ex s kind d n m k b).ims, IB kind x := by
  intro n
  induction n with
  | zero => intro m k b; exact ⟨AllB.nil, fun x hx => by simp [cItems] at hx⟩
  | succ n ih =>
    intro m k b
    have h1 := cItem_sh (s := s) hX kind d m k b
    simp only [cItems]
    split
    · have h2 := ih (m + (cItem ex s kind d m k b).es.length) (takeK s 44 (cItem ex s kind d m k b).k (cItem ex s kind d m k b).b) (cItem ex s kind d m k b).b
      refine ⟨h1.1.app h2.1, fun x hx => ?_⟩
      rcases List.mem_cons.1 hx with rfl | hx
      · exact h1.2
      · exact h2.2 x hx
    · refine ⟨h1.1, fun x hx => ?_⟩
      simp only [List.mem_singleton] at hx
      subst hx
      exact h1.2
theorem cE_sh (s : ByteArray) (rs : List RL) (n : Nat) : ∀ d m k b, AllB (cE s rs n d m k b).es := by
  induction n with
  | zero => intro d m k b; exact AllB.nil
  | succ n ih =>
    intro d m k b
    have hb := hereF_bd s (skipF s k b) b
    simp only [cE]
    split
    · exact AllB.nil
    · rename_i hk
      split
      · have h := cItems_sh (s := s) ih 123 d (s.size + 1 - (skipF s k b + 1)) m (skipF s k b + 1) b
        exact h.1.app (AllB.one ⟨.inl rfl, by simp, h.2, fun _ => rfl, fun h => by simp at h⟩)
      · split
        · exact (ih _ _ _ _).app (AllB.one ⟨by simp, numV_bd _ _ _, fun x hx => by simp at hx, fun h => by simp at h, fun _ => rfl⟩)
        · split
          · exact AllB.one ⟨by simp, numV_bd _ _ _, fun x hx => by simp at hx, fun _ => rfl, fun _ => rfl⟩
          · split
            · exact AllB.one ⟨by simp, by have := hereF_bd s (skipF s (skipF s k b + 1) b) b; simp only; omega, fun x hx => by simp at hx, fun h => by simp at h, fun _ => rfl⟩
            · rename_i h1 h2 h3 h4
              have h := cItems_sh (s := s) ih (hereF s (skipF s k b) b) d (s.size + 1 - takeK s 40 (skipF s k b + 1) b) m (takeK s 40 (skipF s k b + 1) b) (wantB s 40 (skipF s k b + 1) b)
              have hkk : isK (hereF s (skipF s k b) b) = true := by simpa using hk
              simp only [isK, Bool.or_eq_true, beq_iff_eq] at hkk
              exact (h.1.app (ih _ _ _ _)).app (AllB.one ⟨by simp only; omega, by simp, h.2, fun h => by simp only at h; omega, fun h => by simp only at h; omega⟩)
theorem cRules_sh (s : ByteArray) : ∀ (n : Nat) (rs : List RL) (m k : Nat) (b : Bool), AllB (cRules s n rs m k b).es := by
  intro n
  induction n with
  | zero => intro rs m k b; exact AllB.nil
  | succ n ih =>
    intro rs m k b
    simp only [cRules]
    split
    · exact AllB.app (cE_sh s rs _ _ _ _ _) (ih _ _ _ _)
    · exact cE_sh s rs _ _ _ _ _
theorem cAll_sh (s : ByteArray) : AllB (cAll s).es := cRules_sh s _ _ _ _ _
end Go.Proofs.YtaebngpoagjafaaGreat
namespace Go.Proofs.YtaebngpoagjafaaGreat
open Go.RowKit

/-- What Compile answers: the error; the code. -/
def cpE (s : ByteArray) : Int := if (cChk s).1 = 0 then (if 1000 < szR (cAll s).es (cAll s).es.length then 8 else 0) else (cChk s).1
def cpX (s : ByteArray) : List Int := encN (cAll s).es (cAll s).es.length
/-- The two results: with an error nothing. -/
def CpTo (w : World) (n : Int) (X : List Int) (r : Ending) (w' : World) : Prop := Below w.heap.size w w' ∧ ∃ o m k, r = .returned (.tuple #[.slice o m k, .int .i64 n]) ∧ (n ≠ 0 → o = none ∧ m = 0 ∧ k = 0) ∧ (n = 0 → m = X.length ∧ w'.ownsRow w.heap.size 5 1 (.slice o m k) X.length (X.map (Value.int .u8)))
theorem EB.shp {e : EX} (h : EB e) (hl : e.items.length ≤ 100000) : SHP e := by
  refine ⟨?_, ?_, h.nv.1, by have := h.nv; omega, hl, fun x hx => ?_⟩
  · have := h.kind; omega
  · have := h.kind; omega
  · have i := h.it x hx
    have h1 := i.num
    have h2 := i.pv
    have h3 := i.pl
    have h4 := i.wv
    omega
theorem EVw.of_pq {w : World} {base : Nat} {eo : Option Addr} {em ec : Nat} {rv : Value} {es : List (EX × Value)} {rs : List RL} (h : PQ w base (.slice eo em ec) rv es rs) : em = es.length ∧ es.length ≤ ec ∧ EVw w eo es := by
  obtain ⟨eo', ec', he, hv⟩ := ex_view h.ex h.it
  cases he
  obtain ⟨o, c, hv2, hc⟩ := owns_form h.ex
  cases hv2
  exact ⟨rfl, hc, hv⟩

attribute [local go_sem ↓] Go.wp_at_zero Go.wp_at_succ
set_option maxRecDepth 100000 in
set_option maxHeartbeats 800000 in
theorem mCompile_any (eo : Option Addr) (ec : Nat) (ro : Option Addr) (rm rc : Nat) (base : Nat) (es : List (EX × Value)) (rs : List RL) (w : World) (hl : es.length ≤ 100000) (hi : ∀ p ∈ es, p.1.items.length ≤ 100000) (hb : AllB (es.map Prod.fst)) (h : PQ w base (.slice eo es.length ec) (.slice ro rm rc) es rs) (n : Int) (hn : Hid ((if 1000 < szR (es.map Prod.fst) es.length then (8 : Int) else 0) = n)) :
    Calls Tryz.prog 40 #[.agg #[.slice eo es.length ec, .slice ro rm rc]] w (CpTo w n (encN (es.map Prod.fst) es.length)) := by
  have HB0 : Hid (Below w.heap.size w (w.alloc (.cells #[.slice eo es.length ec, .slice ro rm rc] 77))) := (Below.refl _ _).alloc (Nat.le_refl _) _
  have HX0 : Hid ((w.alloc (.cells #[.slice eo es.length ec, .slice ro rm rc] 77)).heap[w.heap.size]? = some (.cells #[.slice eo es.length ec, .slice ro rm rc] 77 (0, 0))) := heap_alloc_new w _
  have HPZ : Hid (∀ rv, (∃ ro rm rc, rv = Value.slice ro rm rc) → Calls Tryz.prog 39 #[.agg #[.slice eo es.length ec, rv]] (w.alloc (.cells #[.slice eo es.length ec, .slice ro rm rc] 77)) fun e w' => Below (w.alloc (.cells #[.slice eo es.length ec, .slice ro rm rc] 77)).heap.size (w.alloc (.cells #[.slice eo es.length ec, .slice ro rm rc] 77)) w' ∧ e = .returned (.int .i64 (szR (es.map Prod.fst) es.length))) := fun rv hrv => PSize_any eo ec rv base es _ hrv (h.ex.alloc _) (fun p hp => (h.it p hp).alloc _) hl hi
  obtain ⟨_, hec, hev⟩ := EVw.of_pq h
  have HEV : Hid (EVw w eo es) := hev
  have HENC : Hid (szR (es.map Prod.fst) es.length ≤ 1000 → ∀ wz, EVw wz eo es → Calls Tryz.prog 62 #[.slice eo es.length ec] wz (EncTo wz (encN (es.map Prod.fst) es.length))) := fun hsz wz hz => encode_any es eo ec hec hl (fun p hp => (hb p.1 (List.mem_map_of_mem hp)).shp (hi p hp)) es.length (Nat.le_refl _) hsz eo ec wz (fun _ => ⟨rfl, rfl⟩) hz
  have hzb := szR_bd (es.map Prod.fst) es.length
  clear h hev hb hi
  generalize encN (es.map Prod.fst) es.length = X at *
  generalize szR (es.map Prod.fst) es.length = z at *
  go_enter Tryz.func40, Tryz.ntmps40
  go_wp2_with fail
  refine (HPZ.out _ ⟨_, _, _, rfl⟩).mono ?_
  rintro e w1 ⟨hb1, rfl⟩
  have HB1 : Hid (Below w.heap.size w w1) := HB0.out.trans (hb1.mono HB0.out.size)
  have HX1 : Hid (w1.heap[w.heap.size]? = some (.cells #[.slice eo es.length ec, .slice ro rm rc] 77 (0, 0))) := by show _ = _; rw [hb1.block _ (by simp)]; exact HX0.out
  have q0 : w1.cell? ⟨w.heap.size, 0, none⟩ = some (.slice eo es.length ec) := by rw [cell_of_row _ _ _ _ _ _ HX1.out]; rfl
  clear hb1
  by_cases hz : 1000 < z
  · have HN : Hid (n = 8) := by show _ = _; rw [← hn.out, if_pos hz]
    go_wp2_with fail
    go_ret2
    exact ⟨HB1.out, none, 0, 0, by rw [HN.out]; rfl, fun _ => ⟨rfl, rfl, rfl⟩, fun h => by rw [HN.out] at h; cases h⟩
  · have HN : Hid (n = 0) := by show _ = _; rw [← hn.out, if_neg hz]
    have hz' : z ≤ 1000 := by omega
    clear hz
    go_wp2_with fail
    refine (HENC.out hz' _ (HEV.out.below HB1.out)).mono ?_
    rintro r w2 ⟨hb2, o, k, rfl, hrow⟩
    have HB2 : Hid (Below w.heap.size w w2) := HB1.out.trans (hb2.mono HB1.out.size)
    have HR2 : Hid (w2.ownsRow w.heap.size 5 1 (.slice o X.length k) X.length (X.map (Value.int .u8))) := owns_mono hrow HB1.out.size
    clear hb2 hrow
    go_wp2_with fail
    go_ret2
    exact ⟨HB2.out, o, X.length, k, by rw [HN.out]; rfl, fun h => absurd HN.out h, fun _ => ⟨rfl, HR2.out⟩⟩

set_option maxRecDepth 100000 in
set_option maxHeartbeats 800000 in
theorem Compile_any (s : ByteArray) (w : World) :
    Calls Tryz.prog 25 #[.string s] w (CpTo w (cpE s) (cpX s)) := by
  obtain ⟨c, hc⟩ : ∃ c, cChk s = c := ⟨_, rfl⟩
  have HC : Hid (cChk s = c) := hc
  have HS : Hid (cpE s = if c.1 = 0 then (if 1000 < szR (cAll s).es (cAll s).es.length then 8 else 0) else c.1) := by show _ = _; unfold cpE; rw [hc]
  have HBDS : Hid (c.1 = 0 → (cAll s).es.length ≤ 100000 ∧ ∀ e ∈ (cAll s).es, e.items.length ≤ 100000) := by
    intro h0
    have hs : ¬ 2000 < s.size := fun h => by rw [← hc] at h0; unfold cChk at h0; rw [if_pos h] at h0; cases h0
    have h1 := cRules_all s (s.size + 1) [] 0 0 false
    refine ⟨?_, fun e he => by have := h1 e he; omega⟩
    have h2 := cRules_mono s (s.size + 1) [] 0 0 false (Nat.zero_le _)
    show (cRules s (s.size + 1) [] 0 0 false).es.length ≤ 100000
    omega
  clear hc
  obtain ⟨c1, c2⟩ := c
  simp only at HS HBDS
  go_enter Tryz.func25, Tryz.ntmps25
  go_wp2_with fail
  refine (Read_any s _ (c1, c2) HC).mono ?_
  rintro e w1 ⟨hb, eo, em, ec, ro, rm, rc, rfl, hq⟩
  have HB : Hid (Below w.heap.size w w1) := hb
  have HQ : Hid (c1 = 0 → ∃ es, es.map Prod.fst = (cAll s).es ∧ PQ w1 w.heap.size (.slice eo em ec) (.slice ro rm rc) es (cAll s).rs) := hq
  clear hb hq
  cases e1 : (c1 == 0) with
  | false =>
    have e2 : (c1 != 0) = true := by simp [bne, e1]
    have HE : Hid (cpE s = c1) := by show _ = _; rw [HS.out, if_neg (by simpa using e1)]
    have HB1 : Hid (Below w.heap.size w (w1.alloc (.cells #[.slice eo em ec, .slice ro rm rc] 77))) := HB.out.alloc HB.out.size _
    have HNZ : Hid (c1 ≠ 0) := by show ¬ _; simpa using e1
    go_wp2_with fail
    go_ret2
    exact ⟨HB1.out, none, 0, 0, by rw [HE.out]; rfl, fun _ => ⟨rfl, rfl, rfl⟩, fun h => by rw [HE.out] at h; exact absurd h HNZ.out⟩
  | true =>
    have h0 : c1 = 0 := by simpa using e1
    subst h0
    obtain ⟨es, hes, hpq⟩ := HQ.out rfl
    have hbd := HBDS.out rfl
    have HE : Hid ((if 1000 < szR (es.map Prod.fst) es.length then (8 : Int) else 0) = cpE s) := by
      show _ = _
      rw [HS.out, if_pos rfl, ← hes, List.length_map]
    have HXX : Hid (encN (es.map Prod.fst) es.length = cpX s) := by show _ = _; unfold cpX; rw [← hes, List.length_map]
    obtain ⟨rfl, _, _⟩ := EVw.of_pq hpq
    have hab : AllB (es.map Prod.fst) := by rw [hes]; exact cAll_sh s
    rw [← hes] at hbd
    have HB1 : Hid (Below w.heap.size w (w1.alloc (.cells #[.slice eo es.length ec, .slice ro rm rc] 77))) := HB.out.alloc HB.out.size _
    have HCP := mCompile_any eo ec ro rm rc w.heap.size es (cAll s).rs (w1.alloc (.cells #[.slice eo es.length ec, .slice ro rm rc] 77)) (by simpa using hbd.1) (fun p hp => hbd.2 p.1 (List.mem_map_of_mem hp)) hab ⟨hpq.ex.alloc _, hpq.rl.alloc _, fun p hp => (hpq.it p hp).alloc _⟩ (cpE s) HE
    rw [HXX.out] at HCP
    clear hpq hes hbd hab
    go_wp2_with fail
    refine HCP.mono ?_
    rintro e w2 ⟨hb2, o, m, k, rfl, hn, hz⟩
    have HB2 : Hid (Below w.heap.size w w2) := HB1.out.trans (hb2.mono HB1.out.size)
    have HN2 : Hid (cpE s ≠ 0 → o = none ∧ m = 0 ∧ k = 0) := hn
    have HZ2 : Hid (cpE s = 0 → m = (cpX s).length ∧ w2.ownsRow w.heap.size 5 1 (.slice o m k) (cpX s).length ((cpX s).map (Value.int .u8))) := fun h => ⟨(hz h).1, owns_mono (hz h).2 HB1.out.size⟩
    clear hb2 hn hz
    go_wp2_with fail
    go_ret2
    exact ⟨HB2.out, o, m, k, rfl, HN2.out, HZ2.out⟩
end Go.Proofs.YtaebngpoagjafaaGreat
namespace Go.Proofs.YtaebngpoagjafaaGreat

/-- 256 to the n, not to be laid open by a walk. -/
def p256 : Nat → Int
  | 0 => 1
  | n + 1 => p256 n * 256
/-- What matters of a world. -/
structure RW where
  addr : Int
  draw : Int
  dn : Nat → Bool
  al : List (List Int)
  reg : Int
  dep : Int
/-- The reader: the place, and is it bad? -/
structure RD where
  p : Nat
  b : Bool
def nxV (C : List Int) (r : RD) : Int := (C[r.p]?).getD 0
def nx (C : List Int) (r : RD) : RD := if r.p < C.length then ⟨r.p + 1, r.b⟩ else ⟨r.p, true⟩
def rdAt (C : List Int) (r : RD) : Nat → RD
  | 0 => r
  | i + 1 => nx C (rdAt C r i)
def rdN (C : List Int) (r : RD) : Nat → Int
  | 0 => 0
  | i + 1 => rdN C r i + nxV C (rdAt C r i) * p256 i
/-- Behind a number of k bytes that must be from lo to hi. -/
def num (C : List Int) (r : RD) (k : Nat) (lo hi : Int) : RD := ⟨(rdAt C r k).p, if rdN C r k < lo ∨ hi < rdN C r k then true else (rdAt C r k).b⟩
/-- Servers, one behind another. -/
def svR (C : List Int) (r : RD) : Nat → RD
  | 0 => r
  | i + 1 => num C (svR C r i) 1 0 63
def svL (C : List Int) (r : RD) : Nat → List Int
  | 0 => []
  | i + 1 => svL C r i ++ [rdN C (svR C r i) 1]
def upW (W : RW) (s : Int) : Bool := decide (0 ≤ s) && (decide (s < 64) && !W.dn s.toNat)
/-- Members. -/
def meR (C : List Int) (r : RD) : Nat → RD
  | 0 => r
  | i + 1 => num C (num C (meR C r i) 1 0 63) 2 1 1000
def meS (C : List Int) (r : RD) (i : Nat) : Int := rdN C (meR C r i) 1
def meW (C : List Int) (r : RD) (i : Nat) : Int := rdN C (num C (meR C r i) 1 0 63) 2
def meL (W : RW) (C : List Int) (r : RD) : Nat → List (Int × Int)
  | 0 => []
  | i + 1 => if upW W (meS C r i) = true then meL W C r i ++ [(meS C r i, meW C r i)] else meL W C r i
def suL : List (Int × Int) → Int
  | [] => 0
  | x :: l => x.2 + suL l
def pkL : List (Int × Int) → Int → Option Int
  | [], _ => none
  | x :: l, r => if r < x.2 then some x.1 else pkL l (r - x.2)
/-- The first server that is up, from the i-th on. -/
def chG (W : RW) (C : List Int) (r : RD) : Nat → Nat → Option Nat
  | _, 0 => none
  | i, n + 1 => if upW W (rdN C (svR C r i) 1) = true then some i else chG W C r (i + 1) n
/-- Arms of a map of prefixes. -/
def amV (C : List Int) (r : RD) : RD := num C r 4 0 4294967295
def amL (C : List Int) (r : RD) : RD := ⟨(num C (amV C r) 1 0 32).p, if M.isP (rdN C r 4) (rdN C (amV C r) 1) = true then (num C (amV C r) 1 0 32).b else true⟩
def amR (C : List Int) (r : RD) : Nat → RD
  | 0 => r
  | i + 1 => num C (amL C (amR C r i)) 2 0 32000
def arV (C : List Int) (r : RD) (i : Nat) : Int := rdN C (amR C r i) 4
def arL (C : List Int) (r : RD) (i : Nat) : Int := rdN C (amV C (amR C r i)) 1
def arW (C : List Int) (r : RD) (i : Nat) : Int := rdN C (amL C (amR C r i)) 2
/-- Arms of a map of regions. -/
def rgR (C : List Int) (r : RD) : Nat → RD
  | 0 => r
  | i + 1 => num C (num C (rgR C r i) 1 0 99) 2 0 32000
def rgN (C : List Int) (r : RD) (i : Nat) : Int := rdN C (rgR C r i) 1
def rgW (C : List Int) (r : RD) (i : Nat) : Int := rdN C (num C (rgR C r i) 1 0 99) 2
def rgT (W : RW) (C : List Int) (r : RD) : Nat → Int
  | 0 => 0
  | i + 1 => if rgN C r i = W.reg then rgW C r i else rgT W C r i
/-- What a run has come to. -/
structure RT where
  r : RD
  sv : List Int
  ttl : Int
  sc : Int
def cnR (C : List Int) (r : RD) : RD := num C r 1 1 16
def cnN (C : List Int) (r : RD) : Nat := (rdN C r 1).toNat
def nar (d sc : Int) : Int := if sc < d then d else sc
def stServers (C : List Int) (s : RT) : RT := ⟨svR C (cnR C s.r) (cnN C s.r), s.sv ++ svL C (cnR C s.r) (cnN C s.r), s.ttl, s.sc⟩
def stPool (W : RW) (C : List Int) (s : RT) : RT × Bool :=
  if suL (meL W C (cnR C s.r) (cnN C s.r)) ≤ 0 then (⟨meR C (cnR C s.r) (cnN C s.r), s.sv, s.ttl, s.sc⟩, false)
  else match pkL (meL W C (cnR C s.r) (cnN C s.r)) (W.draw % suL (meL W C (cnR C s.r) (cnN C s.r))) with
    | some x => (⟨meR C (cnR C s.r) (cnN C s.r), s.sv ++ [x], s.ttl, s.sc⟩, true)
    | none => (⟨meR C (cnR C s.r) (cnN C s.r), s.sv, s.ttl, s.sc⟩, false)
def stChain (W : RW) (C : List Int) (s : RT) : RT × Bool :=
  match chG W C (cnR C s.r) 0 (cnN C s.r) with
  | some i => (⟨svR C (cnR C s.r) (i + 1), s.sv ++ [rdN C (svR C (cnR C s.r) i) 1], s.ttl, s.sc⟩, true)
  | none => (⟨svR C (cnR C s.r) (cnN C s.r), s.sv, s.ttl, s.sc⟩, false)
def stPrefixes (W : RW) (C : List Int) (s : RT) : RT :=
  ⟨⟨(amR C (cnR C s.r) (cnN C s.r)).p + (if M.bestTo (arV C (cnR C s.r)) (arL C (cnR C s.r)) W.addr (cnN C s.r) < 0 then 0 else (arW C (cnR C s.r) (M.bestTo (arV C (cnR C s.r)) (arL C (cnR C s.r)) W.addr (cnN C s.r)).toNat).toNat), (amR C (cnR C s.r) (cnN C s.r)).b⟩, s.sv, s.ttl, nar (M.depTo (arV C (cnR C s.r)) (arL C (cnR C s.r)) W.addr (cnN C s.r)) s.sc⟩
def stRegions (W : RW) (C : List Int) (s : RT) : RT :=
  ⟨⟨(rgR C (cnR C s.r) (cnN C s.r)).p + (rgT W C (cnR C s.r) (cnN C s.r)).toNat, (rgR C (cnR C s.r) (cnN C s.r)).b⟩, s.sv, s.ttl, nar W.dep s.sc⟩
def stSeconds (C : List Int) (s : RT) : RT := ⟨num C s.r 3 1 86400, s.sv, if rdN C s.r 3 < s.ttl then rdN C s.r 3 else s.ttl, s.sc⟩
def stAlias (W : RW) (C : List Int) (s : RT) : RT := ⟨num C s.r 1 0 15, s.sv ++ (W.al[(rdN C s.r 1).toNat]?).getD [], s.ttl, s.sc⟩
/-- One step; is the answer found? -/
def stepF (W : RW) (C : List Int) (s : RT) : RT × Bool :=
  let k := nxV C s.r
  let t : RT := ⟨nx C s.r, s.sv, s.ttl, s.sc⟩
  if k = 123 then (stServers C t, true)
  else if k = 119 then stPool W C t
  else if k = 102 then stChain W C t
  else if k = 109 then (stPrefixes W C t, false)
  else if k = 103 then (stRegions W C t, false)
  else if k = 116 then (stSeconds C t, false)
  else if k = 64 then (stAlias W C t, true)
  else (⟨⟨t.r.p, true⟩, t.sv, t.ttl, t.sc⟩, false)
/-- The error, the answer. -/
def runF (W : RW) (C : List Int) : Nat → RT → Int × (List Int × Int × Int)
  | 0, _ => (11, [], 0, 0)
  | f + 1, s =>
    if (stepF W C s).1.r.b = true then (10, [], 0, 0)
    else if (stepF W C s).2 = true then (0, (stepF W C s).1.sv, (stepF W C s).1.ttl, (stepF W C s).1.sc)
    else runF W C f (stepF W C s).1

theorem p256_pos (n : Nat) : 0 < p256 n := by
  induction n with
  | zero => decide
  | succ n ih => simp only [p256]; omega
end Go.Proofs.YtaebngpoagjafaaGreat
