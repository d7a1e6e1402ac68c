/-
  OUR OWN: the document's meaning: size, of an expression with a bar.
  OUR OWN: the document's meaning: size, whole; policy.
-/
import Derived.Test.YtgbdmnjipdgmoaaGreatTa
namespace Go.Proofs.YtgbdmnjipdgmoaaGreat
open Go.RowKit

/-- What a call of size answers. -/
def SzC (PB : Nat) (nm : ByteArray) (ko : Option Addr) (kc : Nat) (K : List Int) (b : ByteArray) (n : Int) : Prop := ∀ w, KV w PB nm ko K → Calls Tryz.prog 66 #[.pointer (some ⟨PB, 0, none⟩), .string b, .slice ko K.length kc] w fun e w' => Below w.heap.size w w' ∧ e = .returned (.int .i64 n)
theorem spl_len {s : ByteArray} {c : Int} (h : s.size ≤ 2000) : (spl s c).length ≤ 2001 := by
  have := (spS_bd s c s.size).2.1
  simp only [spl, List.length_append, List.length_cons, List.length_nil]; omega

attribute [local go_sem ↓] Go.wp_at_zero Go.wp_at_succ
set_option maxRecDepth 100000 in
set_option maxHeartbeats 800000 in
theorem size_list (PB : Nat) (t a b : ByteArray) (nm : ByteArray) (ko : Option Addr) (kc : Nat) (K : List Int) (n : Int) (w : World) (hs : t.size ≤ 2000) (h : T.ch t 0 = 119 ∨ T.ch t 0 = 102) (h3 : 3 ≤ t.size) (ha : (spl (t.extract 2 (t.size - 1)) 124)[0]? = some a) (hbb : (spl (t.extract 2 (t.size - 1)) 124)[1]? = some b) (hn0 : 0 ≤ n) (hn1 : n ≤ 5000) (hK : KV w PB nm ko K) (ih : SzC PB nm ko kc K b n) :
    Calls Tryz.prog 66 #[.pointer (some ⟨PB, 0, none⟩), .string t, .slice ko K.length kc] w fun e w' => Below w.heap.size w w' ∧ e = .returned (.int .i64 (cap1 (1 + ((spl a 44).length : Int) + n))) := by
  obtain ⟨c, hc0⟩ : ∃ c, T.ch t 0 = c := ⟨_, rfl⟩
  rw [hc0] at h
  obtain ⟨h0, hc⟩ := ch_get hc0 (by omega)
  have h0' : (3 : Int) ≤ (t.size : Int) := by omega
  have h1' : (t.size : Int) ≤ 2000 := by omega
  have hza : a.size ≤ 2000 := Nat.le_trans (spl_size (List.mem_of_getElem? ha)) (by rw [ext_size t _ _ (by omega)]; omega)
  have hla := spl_len (c := 44) hza
  have e1 : (c == 123) = false := by rcases h with rfl | rfl <;> rfl
  have e2 : (c == 64) = false := by rcases h with rfl | rfl <;> rfl
  have e3 : (c == 61) = false := by rcases h with rfl | rfl <;> rfl
  have e4 : (c == 116) = false := by rcases h with rfl | rfl <;> rfl
  have e5 : (c == 109) = false := by rcases h with rfl | rfl <;> rfl
  have e6 : (c == 103) = false := by rcases h with rfl | rfl <;> rfl
  have IH : Hid (SzC PB nm ko kc K b n) := ih
  have HK : Hid (KV w PB nm ko K) := hK
  have hpt := parts_any t a b w hs h3 ha hbb
  have HPT : Hid (Calls Tryz.prog 91 #[.string t] w fun e w' => Below w.heap.size w w' ∧ ∃ v, e = .returned (.tuple #[v, .string b]) ∧ w'.ownsRow w.heap.size 9 1 v (spl a 44).length ((spl a 44).map Value.string)) := hpt
  clear ih hK hpt ha hbb h hc0
  go_enter Tryz.func66, Tryz.ntmps66
  go_wp2_with fail
  refine HPT.out.mono ?_
  rintro e w1 ⟨hb, v, rfl, hrow⟩
  obtain ⟨g, cap, rfl, _, hgl⟩ := str_slice hrow (spl_ne _ _)
  have HB : Hid (Below w.heap.size w w1) := hb
  have HK1 : Hid (KV w1 PB nm ko K) := HK.out.below hb
  clear hb hrow
  generalize hq : (spl a 44).length = m at *
  have HN : Hid ((spl a 44).length = m) := hq
  clear hq
  go_wp2_with fail
  refine (IH.out _ HK1.out).mono ?_
  rintro e w2 ⟨hb2, rfl⟩
  have HB2 : Hid (Below w.heap.size w w2) := HB.out.trans (hb2.mono HB.out.size)
  clear hb2
  go_wp2_with fail
  go_loopg [11, 12] 1 (fun q x y wr => x = .int .i64 (1 + (m : Int) + n) ∧ y = .int .i64 0 ∧ wr = w2)
  case atStart => exact ⟨rfl, rfl, rfl⟩
  case round =>
    obtain ⟨rfl, rfl, rfl⟩ := hrel
    by_cases hm : m = 0
    · subst hm
      go_wp2_with fail
      refine (capped_any _ _).mono ?_
      rintro e w3 ⟨hw3, rfl⟩
      subst w3
      go_wp2_with fail
      go_ret
      exact ⟨HB2.out, by rw [HN.out]; rfl⟩
    · have hm2 : (0 : Int) < (m : Int) := by omega
      go_wp2_with fail
      refine (capped_any _ _).mono ?_
      rintro e w3 ⟨hw3, rfl⟩
      subst w3
      go_wp2_with fail
      go_ret
      exact ⟨HB2.out, by rw [HN.out]; rfl⟩
/-- The sum of the first j. -/
def sumN (ns : Nat → Int) : Nat → Int
  | 0 => 0
  | j + 1 => sumN ns j + ns j
theorem sumN_bd {ns : Nat → Int} (h : ∀ i, 0 ≤ ns i ∧ ns i ≤ 5000) : ∀ j, 0 ≤ sumN ns j ∧ sumN ns j ≤ 5000 * j := by
  intro j
  induction j with
  | zero => simp [sumN]
  | succ j ih => have := h j; simp only [sumN]; omega

set_option maxRecDepth 100000 in
set_option maxHeartbeats 800000 in
theorem size_maps (PB : Nat) (t a b : ByteArray) (nm : ByteArray) (ko : Option Addr) (kc : Nat) (K : List Int) (n : Int) (ys : Nat → ByteArray) (ns : Nat → Int) (w : World) (hs : t.size ≤ 2000) (h : T.ch t 0 = 109 ∨ T.ch t 0 = 103) (h3 : 3 ≤ t.size) (ha : (spl (t.extract 2 (t.size - 1)) 124)[0]? = some a) (hbb : (spl (t.extract 2 (t.size - 1)) 124)[1]? = some b) (hn0 : 0 ≤ n) (hn1 : n ≤ 5000) (hK : KV w PB nm ko K) (ih : SzC PB nm ko kc K b n)
    (hy : ∀ i x, (spl a 44)[i]? = some x → (spl x 58)[0]? = some (ys i) ∧ (ys i).size + 1 ≤ x.size) (hns : ∀ i, 0 ≤ ns i ∧ ns i ≤ 5000) (ihs : ∀ i x, (spl a 44)[i]? = some x → SzC PB nm ko kc K (x.extract ((ys i).size + 1) x.size) (ns i)) :
    Calls Tryz.prog 66 #[.pointer (some ⟨PB, 0, none⟩), .string t, .slice ko K.length kc] w fun e w' => Below w.heap.size w w' ∧ e = .returned (.int .i64 (cap1 (1 + ((spl a 44).length : Int) + n + sumN ns (spl a 44).length))) := by
  obtain ⟨c, hc0⟩ : ∃ c, T.ch t 0 = c := ⟨_, rfl⟩
  rw [hc0] at h
  obtain ⟨h0, hc⟩ := ch_get hc0 (by omega)
  have h0' : (3 : Int) ≤ (t.size : Int) := by omega
  have h1' : (t.size : Int) ≤ 2000 := by omega
  have hza : a.size ≤ 2000 := Nat.le_trans (spl_size (List.mem_of_getElem? ha)) (by rw [ext_size t _ _ (by omega)]; omega)
  have hla := spl_len (c := 44) hza
  have e1 : (c == 123) = false := by rcases h with rfl | rfl <;> rfl
  have e2 : (c == 64) = false := by rcases h with rfl | rfl <;> rfl
  have e3 : (c == 61) = false := by rcases h with rfl | rfl <;> rfl
  have e4 : (c == 116) = false := by rcases h with rfl | rfl <;> rfl
  have HMG : Hid ((c == 109) = true ∨ ((c == 109) = false ∧ (c == 103) = true)) := by rcases h with rfl | rfl <;> simp [Hid]
  have IH : Hid (SzC PB nm ko kc K b n) := ih
  have HY : Hid (∀ i x, (spl a 44)[i]? = some x → (spl x 58)[0]? = some (ys i) ∧ (ys i).size + 1 ≤ x.size) := hy
  have HI : Hid (∀ i x, (spl a 44)[i]? = some x → SzC PB nm ko kc K (x.extract ((ys i).size + 1) x.size) (ns i)) := ihs
  have HK : Hid (KV w PB nm ko K) := hK
  have hpt := parts_any t a b w hs h3 ha hbb
  have HPT : Hid (Calls Tryz.prog 91 #[.string t] w fun e w' => Below w.heap.size w w' ∧ ∃ v, e = .returned (.tuple #[v, .string b]) ∧ w'.ownsRow w.heap.size 9 1 v (spl a 44).length ((spl a 44).map Value.string)) := hpt
  have HSM : Hid (∀ j, 0 ≤ sumN ns j ∧ sumN ns j ≤ 5000 * j) := sumN_bd hns
  clear ih hK hpt ha hbb h hc0 hy ihs hns
  go_enter Tryz.func66, Tryz.ntmps66
  go_wp2_with fail
  refine HPT.out.mono ?_
  rintro e w1 ⟨hb, v, rfl, hrow⟩
  obtain ⟨g, cap, rfl, _, hgl⟩ := str_slice hrow (spl_ne _ _)
  have HB : Hid (Below w.heap.size w w1) := hb
  have HK1 : Hid (KV w1 PB nm ko K) := HK.out.below hb
  have HC1 : Hid (∀ i x, (spl a 44)[i]? = some x → w1.cell? ⟨g, i, none⟩ = some (.string x)) := fun i x hx => str_cell hrow hx
  have HSZ : Hid (∀ (i : Nat) (x : ByteArray), (spl a 44)[i]? = some x → x.size ≤ 2000) := fun i x hx => Nat.le_trans (spl_size (List.mem_of_getElem? hx)) hza
  have HEX : Hid (∀ i, i < (spl a 44).length → ∃ x, (spl a 44)[i]? = some x) := fun i hi => ⟨(spl a 44)[i], List.getElem?_eq_getElem hi⟩
  clear hb hrow
  generalize hq : (spl a 44).length = m at *
  have HN : Hid ((spl a 44).length = m) := hq
  clear hq
  go_wp2_with fail
  refine (IH.out _ HK1.out).mono ?_
  rintro e w2 ⟨hb2, rfl⟩
  have HB2 : Hid (Below w1.heap.size w1 w2) := hb2
  clear hb2
  go_wp2_with fail
  go_loopg [11, 12] m (fun q x y wr => ∃ j : Nat, q + j = m ∧ x = .int .i64 (1 + (m : Int) + n + sumN ns j) ∧ y = .int .i64 j ∧ Below w1.heap.size w1 wr)
  case atStart => exact ⟨0, by omega, by simp [sumN], rfl, HB2.out⟩
  case round =>
    obtain ⟨j, hn, rfl, rfl, hbr⟩ := hrel
    have HBR : Hid (Below w1.heap.size w1 wr) := hbr
    have hsj := HSM.out j
    clear hbr
    by_cases hlt : j < m
    · obtain ⟨x, hx⟩ := HEX.out j hlt
      have hj0 : (0 : Int) ≤ (j : Int) := by omega
      have hj1 : (j : Int) < (m : Int) := by omega
      have cx := (HBR.out.cell (p := ⟨g, j, none⟩) hgl).trans (HC1.out j x hx)
      have hy2 := HY.out j x hx
      have hzx := HSZ.out j x hx
      have HIx : Hid (SzC PB nm ko kc K (x.extract ((ys j).size + 1) x.size) (ns j)) := HI.out j x hx
      have hsj2 := HSM.out (j + 1)
      obtain ⟨sj', hsj'⟩ : ∃ q, sumN ns j = q := ⟨_, rfl⟩
      have HJ : Hid (sumN ns (j + 1) = sj' + ns j) := by show _ = _; rw [← hsj']; rfl
      rw [hsj'] at hsj
      simp only [sumN] at hsj2
      rw [hsj'] at hsj2 ⊢
      clear hsj'
      have har := fun wz => arm_any x (ys j) wz hzx hy2.1 hy2.2
      have HAR : Hid (∀ wz, Calls Tryz.prog 92 #[.string x] wz fun e w' => Below wz.heap.size wz w' ∧ e = .returned (.tuple #[.string (ys j), .string (x.extract ((ys j).size + 1) x.size)])) := har
      have HKr : Hid (KV wr PB nm ko K) := HK1.out.below HBR.out
      clear hx hy2 har
      have hm64 : (m : Int) ≤ 2001 := by omega
      rcases HMG.out with e5 | ⟨e5, e6⟩
      · go_wp2_with fail
        refine (HAR.out _).mono ?_
        rintro e w3 ⟨hb3, rfl⟩
        have HB3 : Hid (Below w1.heap.size w1 w3) := HBR.out.trans (hb3.mono HBR.out.size)
        have HK3 : Hid (KV w3 PB nm ko K) := HKr.out.below hb3
        clear hb3
        go_wp2_with fail
        refine (HIx.out _ HK3.out).mono ?_
        rintro e w4 ⟨hb4, rfl⟩
        have HB4 : Hid (Below w1.heap.size w1 w4) := HB3.out.trans (hb4.mono HB3.out.size)
        clear hb4
        go_wp2_with fail
        go_roundg (gk - 1)
        case measure => omega
        case rel => exact ⟨j + 1, by omega, by rw [HJ.out]; go_num, by go_num, HB4.out⟩
      · go_wp2_with fail
        refine (HAR.out _).mono ?_
        rintro e w3 ⟨hb3, rfl⟩
        have HB3 : Hid (Below w1.heap.size w1 w3) := HBR.out.trans (hb3.mono HBR.out.size)
        have HK3 : Hid (KV w3 PB nm ko K) := HKr.out.below hb3
        clear hb3
        go_wp2_with fail
        refine (HIx.out _ HK3.out).mono ?_
        rintro e w4 ⟨hb4, rfl⟩
        have HB4 : Hid (Below w1.heap.size w1 w4) := HB3.out.trans (hb4.mono HB3.out.size)
        clear hb4
        go_wp2_with fail
        go_roundg (gk - 1)
        case measure => omega
        case rel => exact ⟨j + 1, by omega, by rw [HJ.out]; go_num, by go_num, HB4.out⟩
    · have hd : ¬ ((j : Int) < (m : Int)) := by omega
      have hje : j = m := by omega
      subst hje
      have HBW : Hid (Below w.heap.size w wr) := HB.out.trans (HBR.out.mono HB.out.size)
      generalize hsq : sumN ns j = sj at *
      have HSQ : Hid (sumN ns j = sj) := hsq
      clear hsq
      go_wp2_with fail
      refine (capped_any _ _).mono ?_
      rintro e w3 ⟨hw3, rfl⟩
      subst w3
      go_wp2_with fail
      go_ret
      exact ⟨HBW.out, by rw [HN.out, HSQ.out]; rfl⟩
end Go.Proofs.YtgbdmnjipdgmoaaGreat
namespace Go.Proofs.YtgbdmnjipdgmoaaGreat
open Go.RowKit

/-- The size of the text of an expression. -/
inductive SZ (nm : ByteArray) (K : List Int) : ByteArray → Int → Prop where
  | servers {t : ByteArray} : T.ch t 0 = 123 → 2 ≤ t.size → SZ nm K t (1 + ((spl (t.extract 1 (t.size - 1)) 44).length : Int))
  | alias {t : ByteArray} : T.ch t 0 = 64 → SZ nm K t 1
  | name {t : ByteArray} : T.ch t 0 = 61 → 2 ≤ t.size → SZ nm K t (knL nm (T.ch t 1) K 0)
  | ttl {t b : ByteArray} {n : Int} : T.ch t 0 = 116 → 3 ≤ t.size → (spl (t.extract 2 (t.size - 1)) 44)[1]? = some b → SZ nm K b n → SZ nm K t (cap1 (1 + n))
  | list {t a b : ByteArray} {n : Int} : (T.ch t 0 = 119 ∨ T.ch t 0 = 102) → 3 ≤ t.size → (spl (t.extract 2 (t.size - 1)) 124)[0]? = some a → (spl (t.extract 2 (t.size - 1)) 124)[1]? = some b → SZ nm K b n → SZ nm K t (cap1 (1 + ((spl a 44).length : Int) + n))
  | maps {t a b : ByteArray} {n : Int} {ys : Nat → ByteArray} {ns : Nat → Int} : (T.ch t 0 = 109 ∨ T.ch t 0 = 103) → 3 ≤ t.size → (spl (t.extract 2 (t.size - 1)) 124)[0]? = some a → (spl (t.extract 2 (t.size - 1)) 124)[1]? = some b → SZ nm K b n →
      (∀ i x, (spl a 44)[i]? = some x → (spl x 58)[0]? = some (ys i) ∧ (ys i).size + 1 ≤ x.size) → (∀ i, (spl a 44).length ≤ i → ns i = 0) → (∀ i x, (spl a 44)[i]? = some x → SZ nm K (x.extract ((ys i).size + 1) x.size) (ns i)) → SZ nm K t (cap1 (1 + ((spl a 44).length : Int) + n + sumN ns (spl a 44).length))
theorem knL_bd {nm : ByteArray} {c : Int} : ∀ (K : List Int) (i : Nat), (∀ k ∈ K, 0 ≤ k ∧ k ≤ 5000) → 0 ≤ knL nm c K i ∧ knL nm c K i ≤ 5000 := by
  intro K
  induction K with
  | nil => intro i _; simp [knL]
  | cons k r ih =>
    intro i h
    simp only [knL]
    split
    · exact h k (by simp)
    · exact ih (i + 1) (fun x hx => h x (by simp [hx]))
theorem cap1_bd {n : Int} (h : 0 ≤ n) : 0 ≤ cap1 n ∧ cap1 n ≤ 1001 := by unfold cap1; split <;> omega
theorem size_any {nm : ByteArray} {K : List Int} {t : ByteArray} {n : Int} (h : SZ nm K t n) (PB : Nat) (ko : Option Addr) (kc : Nat) (hKb : ∀ k ∈ K, 0 ≤ k ∧ k ≤ 5000) (hnm : nm.size ≤ 5000) (hKn : K.length ≤ nm.size) : t.size ≤ 2000 → SzC PB nm ko kc K t n ∧ 0 ≤ n ∧ n ≤ 5000 := by
  induction h with
  | @servers t h1 h2 =>
    intro hs
    exact ⟨fun w _ => size_servers PB _ _ w hs h1 h2, by omega, by have := spl_len (s := t.extract 1 (t.size - 1)) (c := 44) (by rw [ext_size _ _ _ (by omega)]; omega); omega⟩
  | alias h1 => intro hs; exact ⟨fun w _ => size_alias PB _ _ w h1, by decide, by decide⟩
  | @name t h1 h2 => intro hs; have := knL_bd (nm := nm) (c := T.ch t 1) K 0 hKb; exact ⟨fun w hK => size_name PB _ nm ko kc K w hs h1 h2 hKn hK hnm, this.1, by omega⟩
  | ttl h1 h2 h3 _ ih =>
    intro hs
    have hb := Nat.le_trans (spl_size (List.mem_of_getElem? h3)) (Nat.le_trans (by rw [ext_size _ _ _ (by omega)]; omega) hs)
    have hi := ih hb
    have hc := cap1_bd (n := 1 + _) (Int.add_nonneg (by decide) hi.2.1)
    exact ⟨fun w hK => size_ttl PB _ _ nm ko kc K _ w hs h1 h2 h3 hi.2.1 hi.2.2 hK hi.1, hc.1, by omega⟩
  | @list t a b n h1 h2 h3 h4 _ ih =>
    intro hs
    have hb := Nat.le_trans (spl_size (List.mem_of_getElem? h4)) (Nat.le_trans (by rw [ext_size _ _ _ (by omega)]; omega) hs)
    have hi := ih hb
    refine ⟨fun w hK => size_list PB _ _ _ nm ko kc K _ w hs h1 h2 h3 h4 hi.2.1 hi.2.2 hK hi.1, ?_⟩
    have := cap1_bd (n := 1 + ((spl a 44).length : Int) + n) (by have := hi.2.1; omega)
    exact ⟨this.1, by omega⟩
  | @maps t a b n ys ns h1 h2 h3 h4 _ hy hz _ ih ihs =>
    intro hs
    have hext : (t.extract 2 (t.size - 1)).size ≤ 2000 := by rw [ext_size t _ _ (by omega)]; omega
    have hb := Nat.le_trans (spl_size (List.mem_of_getElem? h4)) hext
    have ha := Nat.le_trans (spl_size (List.mem_of_getElem? h3)) hext
    have hi := ih hb
    have hsub : ∀ (i : Nat) (x : ByteArray), (spl a 44)[i]? = some x → (x.extract ((ys i).size + 1) x.size).size ≤ 2000 := fun i x hx => by
      have := Nat.le_trans (spl_size (List.mem_of_getElem? hx)) ha
      rw [ext_size x _ _ (Nat.le_refl _)]; omega
    have hns : ∀ i, 0 ≤ ns i ∧ ns i ≤ 5000 := fun i => by
      by_cases hlt : i < (spl a 44).length
      · have hx : (spl a 44)[i]? = some (spl a 44)[i] := List.getElem?_eq_getElem hlt
        exact (ihs i _ hx (hsub i _ hx)).2
      · rw [hz i (by omega)]; decide
    have hsum := sumN_bd hns (spl a 44).length
    refine ⟨fun w hK => size_maps PB t a b nm ko kc K n ys ns w hs h1 h2 h3 h4 hi.2.1 hi.2.2 hK hi.1 hy hns (fun i x hx => (ihs i x hx (hsub i x hx)).1), ?_⟩
    have := cap1_bd (n := 1 + ((spl a 44).length : Int) + n + sumN ns (spl a 44).length) (by have := hi.2.1; omega)
    exact ⟨this.1, by omega⟩
end Go.Proofs.YtgbdmnjipdgmoaaGreat
