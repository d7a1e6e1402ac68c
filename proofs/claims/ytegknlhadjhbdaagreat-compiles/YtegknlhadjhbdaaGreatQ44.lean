/-
  OUR OWN: of a text that is a policy all that the last expression needs is right.
  OUR OWN: the script's state in memory; marks; looks.
  OUR OWN: a step that is a Compile.
-/
import Derived.Test.YtegknlhadjhbdaaGreatQ40
import Derived.Test.YtegknlhadjhbdaaGreatQ42
import Derived.Test.YtegknlhadjhbdaaGreatQ43
import Derived.Test.YtegknlhadjhbdaaGreatQ41
import Derived.Test.YtegknlhadjhbdaaGreatQ37
namespace Go.Proofs.YtegknlhadjhbdaaGreat
open Go.RowKit

theorem fis_at {c : Int} : ∀ (l pre : List IM), (∀ err a, ¬ FIs c pre l err a) → ∀ (i : Nat) (x : IM), l[i]? = some x → ∀ err a, ¬ FIm c (pre ++ l.take i) x err a := by
  intro l
  induction l with
  | nil => intro pre _ i x hx; simp at hx
  | cons y l ih =>
    intro pre h i x hx err a
    cases i with
    | zero =>
      simp only [List.getElem?_cons_zero, Option.some.injEq] at hx
      subst hx
      simp only [List.take_zero, List.append_nil]
      exact fun hf => h err a (.inl hf)
    | succ i =>
      rw [List.getElem?_cons_succ] at hx
      have := ih (pre ++ [y]) (fun err a hf => h err a (.inr hf)) i x hx err a
      rwa [List.append_assoc, List.singleton_append, ← List.take_succ_cons] at this
/-- What is not wrong. -/
structure NF (e : EX) : Prop where
  ttl : e.kind = 116 → 1 ≤ e.nv ∧ e.nv ≤ 86400
  ali : e.kind = 64 → 0 ≤ e.nv ∧ e.nv ≤ 15
  len : e.items.length ≤ 16
  num : e.kind = 123 ∨ e.kind = 102 ∨ e.kind = 119 → ∀ x ∈ e.items, 0 ≤ x.num ∧ x.num ≤ 63
  wgt : e.kind = 119 → ∀ x ∈ e.items, 1 ≤ x.wv ∧ x.wv ≤ 1000
  reg : e.kind = 103 → ∀ x ∈ e.items, 0 ≤ x.num ∧ x.num ≤ 99
  one : ∀ (a b : Nat) (x y : IM), e.items[a]? = some x → e.items[b]? = some y → x.num = y.num → x.pv = y.pv → x.pl = y.pl → a = b
theorem nf_of {e : EX} (h1 : ∀ err a, ¬ FEx e err a) (h2 : ∀ err a, ¬ FIs e.kind [] e.items err a) : NF e := by
  have h3 := fis_at e.items [] h2
  simp only [List.nil_append] at h3
  have hone : ∀ (a b : Nat) (x y : IM), a < b → e.items[a]? = some x → e.items[b]? = some y → x.num = y.num → x.pv = y.pv → x.pl = y.pl → False := by
    intro a b x y hab hx hy e1 e2 e3
    refine h3 b y hy 7 y.at_ (.inr (.inl ⟨?_, rfl, rfl⟩))
    rw [List.any_eq_true]
    refine ⟨x, ?_, by simp [sameI, e1, e2, e3]⟩
    exact List.mem_of_getElem? (i := a) (by rw [List.getElem?_take, if_pos hab]; exact hx)
  refine ⟨fun hk => ?_, fun hk => ?_, ?_, fun hk x hx => ?_, fun hk x hx => ?_, fun hk x hx => ?_, fun a b x y hx hy e1 e2 e3 => ?_⟩
  · have := h1 6 e.na
    unfold FEx at this
    simp only [hk, not_or, not_and, true_and, and_true] at this
    have := this.2.1
    omega
  · have := h1 6 e.na
    unfold FEx at this
    simp only [hk, not_or, not_and, true_and, and_true] at this
    have := this.2.2.1
    omega
  · by_cases hl : e.items.length ≤ 16
    · exact hl
    · obtain ⟨x, hx⟩ : ∃ x, e.items[16]? = some x := ⟨e.items[16]'(by omega), List.getElem?_eq_getElem (by omega)⟩
      exact absurd (.inl ⟨by rw [List.length_take]; omega, rfl, rfl⟩) (h3 16 x hx 4 x.at_)
  · obtain ⟨i, hi⟩ := List.getElem?_of_mem hx
    have := h3 i x hi 6 x.at_
    by_cases hb : x.num < 0 ∨ 63 < x.num
    · exact absurd (.inr (.inr (.inl ⟨hk, hb, rfl, rfl⟩))) this
    · omega
  · obtain ⟨i, hi⟩ := List.getElem?_of_mem hx
    have := h3 i x hi 6 x.wa
    by_cases hb : x.wv < 1 ∨ 1000 < x.wv
    · exact absurd (.inr (.inr (.inr (.inl ⟨hk, hb, rfl, rfl⟩)))) this
    · omega
  · obtain ⟨i, hi⟩ := List.getElem?_of_mem hx
    have := h3 i x hi 6 x.at_
    by_cases hb : x.num < 0 ∨ 99 < x.num
    · exact absurd (.inr (.inr (.inr (.inr ⟨hk, hb, rfl, rfl⟩)))) this
    · omega
  · rcases Nat.lt_trichotomy a b with h | h | h
    · exact (hone a b x y h hx hy e1 e2 e3).elim
    · exact h
    · exact (hone b a y x h hy hx e1.symm e2.symm e3.symm).elim
theorem p2_pow (n : Nat) : M.p2 n = 2 ^ n := by
  induction n with
  | zero => rfl
  | succ n ih => rw [M.p2_succ, ih, Int.pow_succ]
theorem TBit.isP {x : List Int} {v l : Int} (h : TBit x v l) (h0 : 0 ≤ v) (h1 : v < 4294967296) : M.isP v l = true := by
  rw [M.isP_iff]
  have hl := h.len
  have hle := h.le
  refine ⟨by omega, by omega, h0, h1, ?_⟩
  have e : (32 - l).toNat = 32 - x.length := by omega
  rw [e, p2_pow, h.val]
  exact Int.mul_emod_left _ _
theorem TX.good {E : List EX} {Y : List (Int × List Int)} (hb : AllB E) (hn : ∀ e ∈ E, NF e) {t : List Int} {j : Nat} (h : TX E Y t j) : GD E j := by
  induction h with
  | @servers j e l h1 h2 h3 h4 h5 =>
    have me := List.mem_of_getElem? h1
    have b := hb e me
    have n := hn e me
    have hl : 0 < l.length := List.length_pos_iff.2 h3
    exact GD.servers h1 h2 (by omega) n.len (fun x hx => ⟨(n.num (.inl h2) x hx).1, (n.num (.inl h2) x hx).2, (b.it x hx).arm (by omega) (by omega)⟩) (b.inn (.inl h2))
  | @alias j e x h1 h2 h3 =>
    have me := List.mem_of_getElem? h1
    have b := hb e me
    have n := hn e me
    exact GD.alias h1 h2 (n.ali h2).1 (n.ali h2).2 (b.emp (.inl h2)) (b.inn (.inr h2))
  | @name j i e c t h1 h2 h3 h4 h5 h6 h7 _ ih =>
    exact GD.name h1 h2 ((hb e (List.mem_of_getElem? h1)).emp (.inr (.inr h2))) h6 h7 ih
  | @ttl j i e x o h1 h2 h3 h4 h5 _ ih =>
    have me := List.mem_of_getElem? h1
    have n := hn e me
    exact GD.ttl h1 h2 (n.ttl h2).1 (n.ttl h2).2 ((hb e me).emp (.inr (.inl h2))) h4 h5 ih
  | @list j i e c l o h1 h2 h3 h4 h5 h6 h7 h8 _ ih =>
    have me := List.mem_of_getElem? h1
    have b := hb e me
    have n := hn e me
    have hl : 0 < l.length := List.length_pos_iff.2 h4
    have hk : e.kind = 119 ∨ e.kind = 102 := by omega
    refine GD.list h1 hk (by omega) n.len (fun x hx => ⟨(n.num (by omega) x hx).1, (n.num (by omega) x hx).2, (b.it x hx).arm (by omega) (by omega), fun h => n.wgt h x hx⟩) h7 h8 ih
  | @maps j i e c m ks ar an o h1 h2 h3 h4 h5 h6 _ h8 h9 _ iha iho =>
    have me := List.mem_of_getElem? h1
    have b := hb e me
    have n := hn e me
    have hk : e.kind = 109 ∨ e.kind = 103 := by omega
    refine GD.maps (an := an) h1 hk (by omega) n.len (fun x hx => ⟨fun hk => ?_, fun hk => n.reg hk x hx⟩) (fun hk a b' x y hx hy e1 => ?_) (fun hk a b' x y hx hy e2 e3 => ?_) (fun k x hx => (h6 k x hx).2) (fun k hk => iha k (by omega)) h8 h9 iho
    · obtain ⟨k, hk2⟩ := List.getElem?_of_mem hx
      have h10 := (h6 k x hk2).1
      unfold TKey at h10
      rw [if_pos (by omega)] at h10
      have := (b.it x hx).pv
      exact h10.isP this.1 this.2
    · have p1 := (b.it x (List.mem_of_getElem? hx)).zp (by omega)
      have p2 := (b.it y (List.mem_of_getElem? hy)).zp (by omega)
      exact n.one a b' x y hx hy e1 (by rw [p1.1, p2.1]) (by rw [p1.2, p2.2])
    · have p1 := (b.it x (List.mem_of_getElem? hx)).zn hk
      have p2 := (b.it y (List.mem_of_getElem? hy)).zn hk
      exact n.one a b' x y hx hy (by rw [p1, p2]) e2 e3
theorem nf_ok {s : ByteArray} (hc0 : (cChk s).1 = 0) : ∀ e ∈ (cAll s).es, NF e := by
  obtain ⟨_, _, _, hF⟩ := ok_parts hc0
  intro e he
  rcases fAll_min (cAll s).es (cAll s).rs with ⟨_, h2⟩ | ⟨h1, _⟩
  · exact nf_of (fun err a hf => h2 err a (.inl ⟨e, he, .inl hf⟩)) (fun err a hf => h2 err a (.inl ⟨e, he, .inr hf⟩))
  · exact absurd hF h1
/-- Of a policy the last expression is right, with all that it needs. -/
theorem good_ok {s : ByteArray} (hc0 : (cChk s).1 = 0) : 0 < (cAll s).es.length ∧ GD (cAll s).es ((cAll s).es.length - 1) := by
  obtain ⟨Y, hp⟩ := pol_ok hc0
  refine ⟨hp.pos, ?_⟩
  obtain ⟨r, hr, hrx⟩ := hp.last
  have hne : (cAll s).rs ≠ [] := fun h => by rw [h] at hr; cases hr
  have hl : 0 < (cAll s).rs.length := List.length_pos_iff.2 hne
  have hri : (cAll s).rs[(cAll s).rs.length - 1]? = some r := by rw [List.getLast?_eq_getElem?] at hr; exact hr
  obtain ⟨y, hy⟩ : ∃ y, Y[(cAll s).rs.length - 1]? = some y := ⟨Y[(cAll s).rs.length - 1]'(by have := hp.rx.len; omega), List.getElem?_eq_getElem _⟩
  obtain ⟨_, j, hj, _, hx⟩ := hp.rx.at_ _ r y hri hy
  have hjj : j = (cAll s).es.length - 1 := by rw [hrx] at hj; omega
  rw [hjj] at hx
  exact hx.good (cAll_sh s) (nf_ok hc0)
/-- Code has one byte at least. -/
theorem GD.enc_pos {E : List EX} {j : Nat} (h : GD E j) : 1 ≤ (encN E (j + 1)).length := by
  induction h with
  | @servers j e he hk _ _ _ _ => simp only [encN, he, encE]; rw [if_neg (by omega), List.length_append]; have := headL_len (encK E j) e e.items.length; omega
  | @alias j e he hk _ _ _ _ => simp only [encN, he, encE]; rw [if_neg (by omega), List.length_append]; have := headL_len (encK E j) e e.items.length; omega
  | @name j i e he hk _ hin hij _ ih => have hen : encN E (j + 1) = encN E (i + 1) := by simp only [encN, he, encE]; rw [if_pos hk, hin, atL_en E hij]; rfl
                                        rw [hen]; exact ih
  | @ttl j i e he hk _ _ _ _ _ _ _ => simp only [encN, he, encE]; rw [if_neg (by omega), List.length_append]; have := headL_len (encK E j) e e.items.length; omega
  | @list j i e he hk _ _ _ _ _ _ _ => simp only [encN, he, encE]; rw [if_neg (by omega), List.length_append]; have := headL_len (encK E j) e e.items.length; omega
  | @maps j i e an he hk _ _ _ _ _ _ _ _ _ _ _ _ => simp only [encN, he, encE]; rw [if_neg (by omega), List.length_append]; have := headL_len (encK E j) e e.items.length; omega
end Go.Proofs.YtegknlhadjhbdaaGreat
namespace Go.Proofs.YtegknlhadjhbdaaGreat
open Go.RowKit

/-- A list that came out, all of it written with a mark. -/
def MkL (w : World) (t : TypeId) (m : Value) (v : Value) : Prop := ∃ o c, v = .slice o c c ∧ c ≤ 9223372036854775807 ∧ (0 < c → ∃ (g : Nat) (cur : Array Value), o = some ⟨g, 0, none⟩ ∧ w.heap[g]? = some (.cells cur t (0, 0)) ∧ cur.size = c ∧ ∀ j, j < c → cur[j]? = some m)
theorem MkL.of_kept {w w' : World} {t : TypeId} {m v : Value} (h : MkL w t m v) (hk : ∀ (g : Nat) (cur : Array Value), w.heap[g]? = some (.cells cur t (0, 0)) → w'.heap[g]? = w.heap[g]?) : MkL w' t m v := by
  obtain ⟨o, c, h1, hc, h2⟩ := h
  refine ⟨o, c, h1, hc, fun h0 => ?_⟩
  obtain ⟨g, cur, h3, h4, h5, h6⟩ := h2 h0
  exact ⟨g, cur, h3, (hk g cur h4).trans h4, h5, h6⟩
def cdC (cs : List (ByteArray × ByteArray)) : List Value := cs.flatMap (fun x => [.string x.1, .string x.2])
/-- THE STATE IN MEMORY, behind n steps. -/
structure ST (w : World) (base SB n : Nat) (wv cv sv iv bv : Value) (cs : List (ByteArray × ByteArray)) (is bs : List Value) : Prop where
  blk : w.heap[SB]? = some (.cells #[wv, cv, sv, iv, bv] 64 (0, 0))
  cr : w.ownsRow base 127 2 cv cs.length (cdC cs)
  ir : w.ownsRow base 25 1 iv is.length is
  br : w.ownsRow base 48 1 bv bs.length bs
  ok : ∀ x ∈ cs, cpE x.1 = 0 ∧ x.2 = strOfNums (cpX x.1)
  im : ∀ (i : Nat) (v : Value), is[i]? = some v → MkL w 3 (.int .i64 (-1000 - (i : Int))) v
  bm : ∀ (i : Nat) (v : Value), bs[i]? = some v → MkL w 5 (.int .u8 (200 + (i : Int) % 50)) v
  hB : base ≤ SB
  nc : cs.length ≤ n
  ni : is.length ≤ n
  nb : bs.length ≤ n
theorem ST.lt {w : World} {base SB n wv cv sv iv bv cs is bs} (h : ST w base SB n wv cv sv iv bv cs is bs) : SB < w.heap.size := lt_of_block h.blk
theorem ST.below {w w' : World} {base SB n wv cv sv iv bv cs is bs} (h : ST w base SB n wv cv sv iv bv cs is bs) (hb : Below w.heap.size w w') : ST w' base SB n wv cv sv iv bv cs is bs :=
  ⟨(hb.block _ h.lt).trans h.blk, owns_of_block h.cr (fun g hg => hb.block g (h.cr.lt g hg).2), owns_of_block h.ir (fun g hg => hb.block g (h.ir.lt g hg).2), owns_of_block h.br (fun g hg => hb.block g (h.br.lt g hg).2), h.ok, fun i v hv => (h.im i v hv).of_kept (fun g _ hg => hb.block g (lt_of_block hg)), fun i v hv => (h.bm i v hv).of_kept (fun g _ hg => hb.block g (lt_of_block hg)), h.hB, h.nc, h.ni, h.nb⟩
theorem ST.mono {w : World} {base SB n wv cv sv iv bv cs is bs} (h : ST w base SB n wv cv sv iv bv cs is bs) : ST w base SB (n + 1) wv cv sv iv bv cs is bs :=
  ⟨h.blk, h.cr, h.ir, h.br, h.ok, h.im, h.bm, h.hB, by have := h.nc; omega, by have := h.ni; omega, by have := h.nb; omega⟩
theorem ST.c {w : World} {base SB n wv cv sv iv bv cs is bs} (h : ST w base SB n wv cv sv iv bv cs is bs) (j : Nat) : w.cell? ⟨SB, j, none⟩ = #[wv, cv, sv, iv, bv][j]? := by rw [cell_of_row _ _ _ _ _ _ h.blk]
theorem ST.fz {w : World} {base SB n wv cv sv iv bv cs is bs} (h : ST w base SB n wv cv sv iv bv cs is bs) (j : Nat) : w.frozen? ⟨SB, j, none⟩ = false := by simp [World.frozen?, h.blk]

attribute [local go_sem ↓] Go.wp_at_zero Go.wp_at_succ
set_option maxHeartbeats 400000 in
theorem markByte_any (n : Nat) (w : World) (hn : n ≤ 9223372036854775807) : Calls Tryz.prog 52 #[.int .i64 n] w fun e w' => e = .returned (.int .u8 (200 + (n : Int) % 50)) ∧ w' = w := by
  have ht : (n : Int).tmod 50 = (n : Int) % 50 := Int.tmod_eq_emod_of_nonneg (by omega)
  have h0 : 0 ≤ (n : Int) % 50 := by omega
  have h1 : (n : Int) % 50 < 50 := by omega
  generalize hq : (n : Int) % 50 = q at *
  clear hq
  go_enter Tryz.func52, Tryz.ntmps52
  go_wp2_with fail
  go_ret
  exact ⟨rfl, rfl⟩
set_option maxHeartbeats 400000 in
theorem markInt_any (n : Nat) (w : World) (hn : n ≤ 1000000000000000) : Calls Tryz.prog 51 #[.int .i64 n] w fun e w' => e = .returned (.int .i64 (-1000 - (n : Int))) ∧ w' = w := by
  go_enter Tryz.func51, Tryz.ntmps51
  go_wp2_with fail
  go_ret
  exact ⟨rfl, rfl⟩

set_option maxRecDepth 100000 in
set_option maxHeartbeats 1600000 in
theorem looks_any (base SB n : Nat) (wv cv sv iv bv : Value) (cs : List (ByteArray × ByteArray)) (is bs : List Value) (w : World) (hn : n ≤ 1000000000000000) (h : ST w base SB n wv cv sv iv bv cs is bs) :
    Calls Tryz.prog 31 #[.pointer (some ⟨SB, 0, none⟩)] w fun e w' => e = .returned (.bool true) ∧ Below w.heap.size w w' := by
  have H : Hid (ST w base SB n wv cv sv iv bv cs is bs) := h
  clear h
  go_enter Tryz.func31, Tryz.ntmps31
  go_wp2_with fail
  have c3 := H.out.c 3
  have c4 := H.out.c 4
  have hSB := H.out.lt
  have HI := H.out.im
  have HBM := H.out.bm
  have hni := H.out.ni
  have hnb := H.out.nb
  obtain ⟨io, ic, hio, _⟩ := owns_form H.out.ir
  obtain ⟨bo, bc, hbo, _⟩ := owns_form H.out.br
  have HIR : Hid (w.ownsRow base 25 1 iv is.length is) := H.out.ir
  have HBR : Hid (w.ownsRow base 48 1 bv bs.length bs) := H.out.br
  have HIM : Hid (∀ (i : Nat) (v : Value), is[i]? = some v → MkL w 3 (.int .i64 (-1000 - (i : Int))) v) := HI
  have HBMM : Hid (∀ (i : Nat) (v : Value), bs[i]? = some v → MkL w 5 (.int .u8 (200 + (i : Int) % 50)) v) := HBM
  simp only [List.getElem?_toArray, List.getElem?_cons_succ, List.getElem?_cons_zero] at c3 c4
  clear HI HBM H
  subst hio hbo
  go_loopg [3] is.length (fun q x wr => ∃ i : Nat, q + i = is.length ∧ x = .int .i64 i ∧ Below w.heap.size w wr)
  case atStart => exact ⟨0, by omega, rfl, Below.refl _ _⟩
  case round =>
    obtain ⟨i, hq, rfl, hb⟩ := hrel
    have HB : Hid (Below w.heap.size w wr) := hb
    have cq : wr.cell? ⟨SB, 3, none⟩ = some (.slice io is.length ic) := by rw [hb.cell (p := ⟨SB, 3, none⟩) hSB]; exact c3
    clear hb
    by_cases hlt : i < is.length
    · have hlt' : (i : Int) < (is.length : Int) := by omega
      have hi0 : (0 : Int) ≤ (i : Int) := by omega
      obtain ⟨v, hv⟩ : ∃ v, is[i]? = some v := ⟨is[i], List.getElem?_eq_getElem hlt⟩
      obtain ⟨o, c, hvv, hcm, hmk⟩ := HIM.out i v hv
      subst hvv
      have HMK : Hid (0 < c → ∃ (g : Nat) (cur : Array Value), o = some ⟨g, 0, none⟩ ∧ w.heap[g]? = some (.cells cur 3 (0, 0)) ∧ cur.size = c ∧ ∀ j, j < c → cur[j]? = some (.int .i64 (-1000 - (i : Int)))) := hmk
      obtain ⟨ig, icc, hig, _, higl⟩ := HIR.out.form (by omega)
      obtain ⟨hio, _⟩ : io = some ⟨ig, 0, none⟩ ∧ ic = icc := by cases hig; exact ⟨rfl, rfl⟩
      subst hio
      have hcell0 : w.cell? ⟨ig, i, none⟩ = some (.slice o c c) := by rw [World.ownsRow.cellAt HIR.out i (by omega)]; exact hv
      have HC0 : Hid (w.cell? ⟨ig, i, none⟩ = some (.slice o c c)) := hcell0
      have hcell : wr.cell? ⟨ig, i, none⟩ = some (.slice o c c) := by rw [HB.out.cell (p := ⟨ig, i, none⟩) higl]; exact hcell0
      have HCQ : Hid (w.cell? ⟨SB, 3, none⟩ = some (.slice (some ⟨ig, 0, none⟩) is.length ic)) := c3
      clear hig hv hmk hcell0
      go_wp2_with fail
      go_loopg [4] c (fun q x wz => ∃ j : Nat, q + j = c ∧ x = .int .i64 j ∧ Below w.heap.size w wz)
      case atStart => exact ⟨0, by omega, rfl, HB.out⟩
      case round =>
        obtain ⟨j, hq2, rfl, hbz⟩ := hrel
        have HBz : Hid (Below w.heap.size w wr) := hbz
        have cqz : wr.cell? ⟨SB, 3, none⟩ = some (.slice (some ⟨ig, 0, none⟩) is.length ic) := by rw [hbz.cell (p := ⟨SB, 3, none⟩) hSB]; exact HCQ.out
        have hcz : wr.cell? ⟨ig, i, none⟩ = some (.slice o c c) := by rw [hbz.cell (p := ⟨ig, i, none⟩) higl]; exact HC0.out
        clear hbz
        by_cases hj : j < c
        · have hj' : (j : Int) < (c : Int) := by omega
          have hj0 : (0 : Int) ≤ (j : Int) := by omega
          obtain ⟨g, cur, ho, hg, hcs, hcj⟩ := HMK.out (by omega)
          subst ho
          have hcc : wr.cell? ⟨g, j, none⟩ = some (.int .i64 (-1000 - (i : Int))) := by rw [HBz.out.cell (p := ⟨g, j, none⟩) (lt_of_block hg), cell_of_row _ _ _ _ _ _ hg]; exact hcj j hj
          clear hg hcs hcj
          have hin : i ≤ 1000000000000000 := by omega
          go_wp2_with fail
          go_quiet ((go_at_call 51; exact Calls.quiet_of_same (markInt_any _ _ hin)))
          go_wp2_with fail
          go_roundg (gk - 1)
          case measure => omega
          case rel => exact ⟨j + 1, by omega, by go_num, bel_drewN HBz.out _⟩
        · have hj' : ¬ (j : Int) < (c : Int) := by omega
          go_wp2_with fail
          go_roundg (is.length - (i + 1))
          case measure => omega
          case rel => exact ⟨i + 1, by omega, by go_num, HBz.out⟩
    · have hlt' : ¬ (i : Int) < (is.length : Int) := by omega
      go_wp2_with fail
      have HBo : Hid (Below w.heap.size w wr) := HB.out
      go_loopg [5] bs.length (fun q x wr => ∃ i : Nat, q + i = bs.length ∧ x = .int .i64 i ∧ Below w.heap.size w wr)
      case atStart => exact ⟨0, by omega, rfl, HBo.out⟩
      case round =>
        obtain ⟨i, hq, rfl, hb⟩ := hrel
        have HB : Hid (Below w.heap.size w wr) := hb
        have cq : wr.cell? ⟨SB, 4, none⟩ = some (.slice bo bs.length bc) := by rw [hb.cell (p := ⟨SB, 4, none⟩) hSB]; exact c4
        clear hb
        by_cases hlt : i < bs.length
        · have hlt' : (i : Int) < (bs.length : Int) := by omega
          have hi0 : (0 : Int) ≤ (i : Int) := by omega
          obtain ⟨v, hv⟩ : ∃ v, bs[i]? = some v := ⟨bs[i], List.getElem?_eq_getElem hlt⟩
          obtain ⟨o, c, hvv, hcm, hmk⟩ := HBMM.out i v hv
          subst hvv
          have HMK : Hid (0 < c → ∃ (g : Nat) (cur : Array Value), o = some ⟨g, 0, none⟩ ∧ w.heap[g]? = some (.cells cur 5 (0, 0)) ∧ cur.size = c ∧ ∀ j, j < c → cur[j]? = some (.int .u8 (200 + (i : Int) % 50))) := hmk
          obtain ⟨ig, icc, hig, _, higl⟩ := HBR.out.form (by omega)
          obtain ⟨hio, _⟩ : bo = some ⟨ig, 0, none⟩ ∧ bc = icc := by cases hig; exact ⟨rfl, rfl⟩
          subst hio
          have hcell0 : w.cell? ⟨ig, i, none⟩ = some (.slice o c c) := by rw [World.ownsRow.cellAt HBR.out i (by omega)]; exact hv
          have HC0 : Hid (w.cell? ⟨ig, i, none⟩ = some (.slice o c c)) := hcell0
          have hcell : wr.cell? ⟨ig, i, none⟩ = some (.slice o c c) := by rw [HB.out.cell (p := ⟨ig, i, none⟩) higl]; exact hcell0
          have HCQ : Hid (w.cell? ⟨SB, 4, none⟩ = some (.slice (some ⟨ig, 0, none⟩) bs.length bc)) := c4
          clear hig hv hmk hcell0
          go_wp2_with fail
          go_loopg [6] c (fun q x wz => ∃ j : Nat, q + j = c ∧ x = .int .i64 j ∧ Below w.heap.size w wz)
          case atStart => exact ⟨0, by omega, rfl, HB.out⟩
          case round =>
            obtain ⟨j, hq2, rfl, hbz⟩ := hrel
            have HBz : Hid (Below w.heap.size w wr) := hbz
            have cqz : wr.cell? ⟨SB, 4, none⟩ = some (.slice (some ⟨ig, 0, none⟩) bs.length bc) := by rw [hbz.cell (p := ⟨SB, 4, none⟩) hSB]; exact HCQ.out
            have hcz : wr.cell? ⟨ig, i, none⟩ = some (.slice o c c) := by rw [hbz.cell (p := ⟨ig, i, none⟩) higl]; exact HC0.out
            clear hbz
            by_cases hj : j < c
            · have hj' : (j : Int) < (c : Int) := by omega
              have hj0 : (0 : Int) ≤ (j : Int) := by omega
              obtain ⟨g, cur, ho, hg, hcs, hcj⟩ := HMK.out (by omega)
              subst ho
              have hcc : wr.cell? ⟨g, j, none⟩ = some (.int .u8 (200 + (i : Int) % 50)) := by rw [HBz.out.cell (p := ⟨g, j, none⟩) (lt_of_block hg), cell_of_row _ _ _ _ _ _ hg]; exact hcj j hj
              clear hg hcs hcj
              have hin : i ≤ 1000000000000000 := by omega
              go_wp2_with fail
              go_quiet ((go_at_call 52; exact Calls.quiet_of_same (markByte_any _ _ (by omega))))
              go_wp2_with fail
              go_roundg (gk - 1)
              case measure => omega
              case rel => exact ⟨j + 1, by omega, by go_num, bel_drewN HBz.out _⟩
            · have hj' : ¬ (j : Int) < (c : Int) := by omega
              go_wp2_with fail
              go_roundg (bs.length - (i + 1))
              case measure => omega
              case rel => exact ⟨i + 1, by omega, by go_num, HBz.out⟩
        · have hlt' : ¬ (i : Int) < (bs.length : Int) := by omega
          go_wp2_with fail
          go_ret
          exact ⟨rfl, HB.out⟩

end Go.Proofs.YtegknlhadjhbdaaGreat
namespace Go.Proofs.YtegknlhadjhbdaaGreat
open Go.RowKit

theorem Tryz.infoBs : (Tryz.prog.info? 48).map (fun i => (i.zero, i.size, i.bytes)) = some (some (.slice none 0 0), 1, 24) := by kernel_rfl
theorem Tryz.infoCode : (Tryz.prog.info? 127).map (fun i => (i.zero, i.size, i.bytes)) = some (some (.agg #[.string ByteArray.empty, .string ByteArray.empty]), 2, 32) := by kernel_rfl
theorem MkL.ne {w : World} {t : TypeId} {m v : Value} (h : MkL w t m v) {w' : World} (hk : ∀ (g : Nat) (cur : Array Value), w.heap[g]? = some (.cells cur t (0, 0)) → w'.heap[g]? = w.heap[g]?) : MkL w' t m v := h.of_kept hk
/-- One list of bytes more. -/
theorem ST.pushB {w w4 : World} {base SB n wv cv sv iv bv cs is bs} {nv v : Value} (h : ST w base SB n wv cv sv iv bv cs is bs) (hg : w.grownBy w4 bv.ownBlock) (hown : w4.ownsRow base 48 1 nv (bs.length + 1) (bs ++ [v])) (hm : MkL w 5 (.int .u8 (200 + (bs.length : Int) % 50)) v) (hn : bs.length + 1 ≤ n) :
    ST (w4.setCell ⟨SB, 4, none⟩ nv) base SB n wv cv sv iv nv cs is (bs ++ [v]) := by
  have hne : bv.ownBlock ≠ some SB := owns_ne h.br h.blk (by decide)
  have hb4 := (hg.block SB h.lt (fun e => hne e.symm)).trans h.blk
  have hkI : ∀ (g : Nat) (cur : Array Value), w.heap[g]? = some (.cells cur 3 (0, 0)) → (w4.setCell ⟨SB, 4, none⟩ nv).heap[g]? = w.heap[g]? := fun g cur hc => by
    rw [heap_set_ne (fun e => by subst e; rw [h.blk] at hc; cases hc)]
    exact hg.block g (lt_of_block hc) (fun e => owns_ne h.br hc (by decide) e.symm)
  have hkB : ∀ (g : Nat) (cur : Array Value), w.heap[g]? = some (.cells cur 5 (0, 0)) → (w4.setCell ⟨SB, 4, none⟩ nv).heap[g]? = w.heap[g]? := fun g cur hc => by
    rw [heap_set_ne (fun e => by subst e; rw [h.blk] at hc; cases hc)]
    exact hg.block g (lt_of_block hc) (fun e => owns_ne h.br hc (by decide) e.symm)
  have hc4 := h.cr.kept hg (owns_ne2 h.cr h.br (by decide))
  have hi4 := h.ir.kept hg (owns_ne2 h.ir h.br (by decide))
  refine ⟨?_, ownsRow_setCell_other hc4 (owns_ne hc4 hb4 (by decide)) _, ownsRow_setCell_other hi4 (owns_ne hi4 hb4 (by decide)) _, ?_, h.ok, fun i v' hv => (h.im i v' hv).of_kept hkI, fun i v' hv => ?_, h.hB, h.nc, h.ni, by simp; exact hn⟩
  · rw [blk5_set hb4]; rfl
  · rw [List.length_append]; exact ownsRow_setCell_other hown (owns_ne hown hb4 (by decide)) _
  · by_cases hi : i < bs.length
    · rw [List.getElem?_append_left hi] at hv
      exact (h.bm i v' hv).of_kept hkB
    · rw [List.getElem?_append_right (by omega)] at hv
      have hi2 : i = bs.length := by
        have := (List.getElem?_eq_some_iff.1 hv).1
        simp at this; omega
      subst hi2
      simp at hv
      subst hv
      exact hm.of_kept hkB
/-- One code more. -/
theorem ST.pushC {w w4 : World} {base SB n wv cv sv iv bv cs is bs} {nv : Value} {x : ByteArray × ByteArray} (h : ST w base SB n wv cv sv iv bv cs is bs) (hg : w.grownBy w4 cv.ownBlock) (hown : w4.ownsRow base 127 2 nv (cs.length + 1) (cdC cs ++ [.string x.1, .string x.2])) (hx : cpE x.1 = 0 ∧ x.2 = strOfNums (cpX x.1)) (hn : cs.length + 1 ≤ n) :
    ST (w4.setCell ⟨SB, 1, none⟩ nv) base SB n wv nv sv iv bv (cs ++ [x]) is bs := by
  have hne : cv.ownBlock ≠ some SB := owns_ne h.cr h.blk (by decide)
  have hb4 := (hg.block SB h.lt (fun e => hne e.symm)).trans h.blk
  have hkI : ∀ (g : Nat) (cur : Array Value), w.heap[g]? = some (.cells cur 3 (0, 0)) → (w4.setCell ⟨SB, 1, none⟩ nv).heap[g]? = w.heap[g]? := fun g cur hc => by
    rw [heap_set_ne (fun e => by subst e; rw [h.blk] at hc; cases hc)]
    exact hg.block g (lt_of_block hc) (fun e => owns_ne h.cr hc (by decide) e.symm)
  have hkB : ∀ (g : Nat) (cur : Array Value), w.heap[g]? = some (.cells cur 5 (0, 0)) → (w4.setCell ⟨SB, 1, none⟩ nv).heap[g]? = w.heap[g]? := fun g cur hc => by
    rw [heap_set_ne (fun e => by subst e; rw [h.blk] at hc; cases hc)]
    exact hg.block g (lt_of_block hc) (fun e => owns_ne h.cr hc (by decide) e.symm)
  have hb5 := h.br.kept hg (owns_ne2 h.br h.cr (by decide))
  have hi4 := h.ir.kept hg (owns_ne2 h.ir h.cr (by decide))
  have e1 : cdC (cs ++ [x]) = cdC cs ++ [.string x.1, .string x.2] := by simp [cdC]
  refine ⟨?_, ?_, ownsRow_setCell_other hi4 (owns_ne hi4 hb4 (by decide)) _, ownsRow_setCell_other hb5 (owns_ne hb5 hb4 (by decide)) _, fun y hy => ?_, fun i v' hv => (h.im i v' hv).of_kept hkI, fun i v' hv => (h.bm i v' hv).of_kept hkB, h.hB, by simp; exact hn, h.ni, h.nb⟩
  · rw [blk5_set hb4]; rfl
  · rw [e1, List.length_append]; exact ownsRow_setCell_other hown (owns_ne hown hb4 (by decide)) _
  · rcases List.mem_append.1 hy with hy | hy
    · exact h.ok y hy
    · simp only [List.mem_singleton] at hy; subst hy; exact hx
theorem cp_err {s : ByteArray} : cpE s = if (cSz s).2 = 0 ∧ 1000 < (cSz s).1 then 8 else (cSz s).2 := by
  unfold cpE cSz
  by_cases h : (cChk s).1 = 0
  · simp [h]
  · simp [h]
theorem cp_len {s : ByteArray} (h : cpE s = 0) : (cChk s).1 = 0 ∧ szR (cAll s).es (cAll s).es.length ≤ 1000 ∧ 1 ≤ (cpX s).length ∧ (cpX s).length ≤ 7000 := by
  have h1 : (cChk s).1 = 0 := by
    unfold cpE at h
    split at h
    · assumption
    · exact h
  have h2 : szR (cAll s).es (cAll s).es.length ≤ 1000 := by
    unfold cpE at h
    rw [if_pos h1] at h
    split at h
    · cases h
    · omega
  obtain ⟨hp, hg⟩ := good_ok h1
  have h3 := hg.enc_pos
  rw [Nat.sub_add_cancel hp] at h3
  have h4 := enc_le (cAll s).es (cAll s).es.length h2
  refine ⟨h1, h2, h3, ?_⟩
  unfold cpX
  omega
end Go.Proofs.YtegknlhadjhbdaaGreat
