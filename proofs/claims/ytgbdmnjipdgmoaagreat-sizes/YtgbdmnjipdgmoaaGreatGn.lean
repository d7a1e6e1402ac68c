/-
  OUR OWN: the script's frame: pick, among, looks, plays.
-/
import Derived.Test.YtgbdmnjipdgmoaaGreatGm
namespace Go.Proofs.YtgbdmnjipdgmoaaGreat
open Go.RowKit

set_option maxHeartbeats 400000 in
theorem pick_any (c : Int) (n : Nat) (w : World) (c0 : -9223372036854775808 ≤ c) (c1 : c ≤ 9223372036854775807) (n0 : 0 < n) (n1 : n ≤ 9223372036854775807) :
    Calls Tryz.prog 11 #[.int .i64 c, .int .i64 n] w fun e w' => (∃ k : Nat, k < n ∧ e = .returned (.int .i64 k)) ∧ w' = w := by
  have hn : ¬ (n : Int) = 0 := by omega
  have hn0 : (0 : Int) < n := by omega
  by_cases h : c < 0
  · have hm : 0 ≤ (-(c + 1)) % (n : Int) ∧ (-(c + 1)) % (n : Int) < n := ⟨Int.emod_nonneg _ (by omega), Int.emod_lt_of_pos _ (by omega)⟩
    have he : -(c + 1).tmod (n : Int) = (-(c + 1)) % (n : Int) := by rw [← Int.neg_tmod, Int.tmod_eq_emod_of_nonneg (by omega)]
    rw [← he] at hm
    have HE : Hid (0 ≤ -(c + 1).tmod (n : Int) ∧ -(c + 1).tmod (n : Int) < n) := hm
    clear he hm
    go_enter Tryz.func11, Tryz.ntmps11
    go_wp2
    go_ret
    refine ⟨⟨(-(c + 1).tmod (n : Int)).toNat, by have := HE.out; omega, ret_int ?_⟩, rfl⟩
    have := HE.out; omega
  · have hm : 0 ≤ c % (n : Int) ∧ c % (n : Int) < n := ⟨Int.emod_nonneg _ (by omega), Int.emod_lt_of_pos _ (by omega)⟩
    have HE : Hid (0 ≤ c % (n : Int) ∧ c % (n : Int) < n) := hm
    clear hm
    go_enter Tryz.func11, Tryz.ntmps11
    go_wp2
    go_ret
    refine ⟨⟨(c % (n : Int)).toNat, by have := HE.out; omega, ret_int ?_⟩, rfl⟩
    have := HE.out; omega

/-- Is k among the first n? -/
def amTo (P : Nat → Int) (k : Int) : Nat → Bool
  | 0 => false
  | n + 1 => amTo P k n || (P n == k)
theorem amTo_hit {P : Nat → Int} {k : Int} {n m : Nat} (h : m < n) (e : P m = k) : amTo P k n = true := by
  induction n with
  | zero => omega
  | succ n ih =>
    simp only [amTo, Bool.or_eq_true, beq_iff_eq]
    by_cases hm : m = n
    · subst hm; exact .inr e
    · exact .inl (ih (by omega))

set_option maxHeartbeats 400000 in
theorem among_any (b n c : Nat) (P : Nat → Int) (k : Int) (w : World) (hn : n ≤ 64) (hp : ∀ i, i < n → w.cell? ⟨b, i, none⟩ = some (.int .i64 (P i))) :
    Calls Tryz.prog 7 #[.slice (some ⟨b, 0, none⟩) n c, .int .i64 k] w fun e w' => e = .returned (.bool (amTo P k n)) ∧ w' = w := by
  have HP : Hid (∀ i, i < n → w.cell? ⟨b, i, none⟩ = some (.int .i64 (P i))) := hp
  clear hp
  go_enter Tryz.func7, Tryz.ntmps7
  go_wp2
  go_loop [5] (fun x => ∃ m : Nat, m ≤ n ∧ x = .int .i64 m ∧ amTo P k m = false) (fun x => n - (intOf x).toNat)
  case atStart => exact ⟨0, by omega, rfl, rfl⟩
  case round =>
    obtain ⟨m, hm, rfl, hf⟩ := hrel
    by_cases hlt : m < n
    · have hc := HP.out m hlt
      cases e1 : (P m == k) with
      | true =>
        have ht : Hid (amTo P k n = true) := amTo_hit hlt (by simpa using e1)
        go_wp2
        go_ret
        exact ⟨ret_bool ht.out.symm, rfl⟩
      | false =>
        have HF : Hid (amTo P k (m + 1) = false) := by show _ = _; simp [amTo, hf, e1]
        go_wp2
        go_round
        case rel => exact ⟨m + 1, by omega, by go_num, HF⟩
        case measure => simp [intOf]; omega
    · have hmn : m = n := by omega
      subst hmn
      go_wp2
      go_ret
      exact ⟨rfl, rfl⟩

set_option maxHeartbeats 400000 in
theorem looks_nil (B : Nat) (w : World) (h3 : w.cell? ⟨B, 3, none⟩ = some (.slice none 0 0)) (h4 : w.cell? ⟨B, 4, none⟩ = some (.slice none 0 0)) :
    Calls Tryz.prog 9 #[.pointer (some ⟨B, 0, none⟩)] w fun e w' => e = .returned (.bool true) ∧ w' = w := by
  go_enter Tryz.func9, Tryz.ntmps9
  go_wp2
  refine wp_loop_rounds 1 ?_
  rw [rounds_succ]
  go_wp2
  refine wp_loop_rounds 1 ?_
  rw [rounds_succ]
  go_wp2
  go_ret
  exact ⟨rfl, rfl⟩

/-- A script that came in: n steps, each six cells. -/
structure OS (w : World) (ao : Option Addr) (b off n : Nat) (K A B C D : Nat → Int) (S : Nat → ByteArray) : Prop where
  at_ : 0 < n → ao = some ⟨b, off, none⟩
  lt : 0 < n → b < w.heap.size
  k : ∀ i, i < n → w.cell? ⟨b, off + i * 6, none⟩ = some (.int .i64 (K i))
  a : ∀ i, i < n → w.cell? ⟨b, off + i * 6 + 1, none⟩ = some (.int .i64 (A i))
  b_ : ∀ i, i < n → w.cell? ⟨b, off + i * 6 + 2, none⟩ = some (.int .i64 (B i))
  c : ∀ i, i < n → w.cell? ⟨b, off + i * 6 + 3, none⟩ = some (.int .i64 (C i))
  d : ∀ i, i < n → w.cell? ⟨b, off + i * 6 + 4, none⟩ = some (.int .i64 (D i))
  s : ∀ i, i < n → w.cell? ⟨b, off + i * 6 + 5, none⟩ = some (.string (S i))
theorem OS.below {w w' : World} {ao b off n K A B C D S} (h : OS w ao b off n K A B C D S) (hb : Below w.heap.size w w') : OS w' ao b off n K A B C D S :=
  ⟨h.at_, fun hn => Nat.lt_of_lt_of_le (h.lt hn) hb.size, fun i hi => by rw [hb.cell (h.lt (by omega))]; exact h.k i hi, fun i hi => by rw [hb.cell (h.lt (by omega))]; exact h.a i hi,
    fun i hi => by rw [hb.cell (h.lt (by omega))]; exact h.b_ i hi, fun i hi => by rw [hb.cell (h.lt (by omega))]; exact h.c i hi, fun i hi => by rw [hb.cell (h.lt (by omega))]; exact h.d i hi, fun i hi => by rw [hb.cell (h.lt (by omega))]; exact h.s i hi⟩

theorem buildState (ao : Option Addr) (n c : Nat) (w : World) : (Instr.build 33 #[(0, .slice ao n c)]).run Tryz.prog w = .ok (.agg #[.slice ao n c, .slice none 0 0, .slice none 0 0, .slice none 0 0, .slice none 0 0]) w := run_build w 33 _ _ (by kernel_rfl)

/-- The state as plays lays it. -/
def st0 (wo : Option Addr) (m wc : Nat) : Obj := .cells #[.slice wo m wc, .slice none 0 0, .slice none 0 0, .slice none 0 0, .slice none 0 0] 33

set_option maxRecDepth 100000 in
set_option maxHeartbeats 1000000 in
/-- THE SCRIPT, for whatever steps and whatever is kept of the state: if each step of a kind in play answers true and keeps it, so does the whole. -/
theorem plays_any (Inv : World → Prop) (wo so : Option Addr) (m wc b off n c pb pn pcap : Nat) (K A B C D : Nat → Int) (S : Nat → ByteArray) (P : Nat → Int) (w : World)
    (hn : n * 56 ≤ 140737488351232) (hpn : pn ≤ 64) (hs : OS w so b off n K A B C D S) (hpb : pb < w.heap.size) (hp : ∀ i, i < pn → w.cell? ⟨pb, i, none⟩ = some (.int .i64 (P i)))
    (h0 : Inv (w.alloc (st0 wo m wc)))
    (hgrow : ∀ wq wr : World, Inv wq → w.heap.size < wq.heap.size → Below wq.heap.size wq wr → Inv wr)
    (hlooks : ∀ wq : World, Inv wq → Calls Tryz.prog 9 #[.pointer (some ⟨w.heap.size, 0, none⟩)] wq fun e w' => e = .returned (.bool true) ∧ Inv w' ∧ Below w.heap.size wq w')
    (hstep : ∀ (i : Nat) (wq : World), i < n → Inv wq → Below w.heap.size w wq → w.heap.size < wq.heap.size → amTo P (K i) pn = true →
      Calls Tryz.prog 8 #[.pointer (some ⟨w.heap.size, 0, none⟩), .agg #[.int .i64 (K i), .int .i64 (A i), .int .i64 (B i), .int .i64 (C i), .int .i64 (D i), .string (S i)]] wq fun e w' => e = .returned (.bool true) ∧ Inv w' ∧ Below w.heap.size wq w') :
    Calls Tryz.prog 6 #[.slice wo m wc, .slice so n c, .slice (some ⟨pb, 0, none⟩) pn pcap] w fun e w' => e = .returned (.bool true) ∧ Below w.heap.size w w' := by
  have HG : Hid (∀ wq wr : World, Inv wq → w.heap.size < wq.heap.size → Below wq.heap.size wq wr → Inv wr) := hgrow
  have HP : Hid (∀ i, i < pn → w.cell? ⟨pb, i, none⟩ = some (.int .i64 (P i))) := hp
  have HL : Hid (∀ wq : World, Inv wq → Calls Tryz.prog 9 #[.pointer (some ⟨w.heap.size, 0, none⟩)] wq fun e w' => e = .returned (.bool true) ∧ Inv w' ∧ Below w.heap.size wq w') := hlooks
  have HS : Hid (∀ (i : Nat) (wq : World), i < n → Inv wq → Below w.heap.size w wq → w.heap.size < wq.heap.size → amTo P (K i) pn = true →
      Calls Tryz.prog 8 #[.pointer (some ⟨w.heap.size, 0, none⟩), .agg #[.int .i64 (K i), .int .i64 (A i), .int .i64 (B i), .int .i64 (C i), .int .i64 (D i), .string (S i)]] wq fun e w' => e = .returned (.bool true) ∧ Inv w' ∧ Below w.heap.size wq w') := hstep
  have H0 : Hid (Inv (w.alloc (st0 wo m wc))) := h0
  clear hgrow hp hlooks hstep h0
  have hbs := fun w => buildState wo m wc w
  go_enter Tryz.func6, Tryz.ntmps6
  go_wp2_with fail
  go_loopw [8] (fun x wr => ∃ k : Nat, k ≤ n ∧ x = .int .i64 k ∧ Hid (Inv wr) ∧ Below w.heap.size w wr ∧ w.heap.size < wr.heap.size) (fun x _ => n - (intOf x).toNat)
  case atStart => exact ⟨0, by omega, rfl, H0, (Below.refl _ _).alloc (Nat.le_refl _) _, by simp⟩
  case round =>
    obtain ⟨k, hk, rfl, hinv, hb, hz⟩ := hrel
    clear hbs H0
    by_cases hlt : k < n
    · obtain rfl := hs.at_ (by omega)
      have hsr := hs.below hb
      have hsz : b < wr.heap.size := hsr.lt (by omega)
      have c0 := hsr.k k hlt
      have c1 := hsr.a k hlt
      have c2 := hsr.b_ k hlt
      have c3 := hsr.c k hlt
      have c4 := hsr.d k hlt
      have c5 := hsr.s k hlt
      have HB : Hid (Below w.heap.size w wr) := hb
      clear hsr hb
      have hk58 : (k : Int) < 288230376151711744 := by omega
      have HA : Hid (∀ o : Obj, Below wr.heap.size wr (wr.alloc o)) := fun o => (Below.refl _ _).alloc (Nat.le_refl _) o
      have HPr : Hid (∀ o : Obj, ∀ i, i < pn → (wr.alloc o).cell? ⟨pb, i, none⟩ = some (.int .i64 (P i))) := fun o i hi => by
        rw [(HB.out.trans ((HA.out o).mono HB.out.size)).cell (p := ⟨pb, i, none⟩) hpb]; exact HP.out i hi
      go_wp2_with fail
      refine (among_any pb pn pcap P _ _ hpn (HPr.out _)).mono ?_
      rintro e w' ⟨rfl, hww⟩
      subst w'
      cases e1 : amTo P (K k) pn with
      | false =>
        go_wp2_with fail
        go_roundw
        case rel => exact ⟨k + 1, by omega, by go_num, HG.out _ _ hinv.out hz (HA.out _), HB.out.trans ((HA.out _).mono HB.out.size), by simp; omega⟩
        case measure => simp [intOf]; omega
      | true =>
        have HS' := fun wq => HS.out k wq hlt
        have HS2 : Hid _ := HS'
        clear HS'
        go_wp2_with fail
        refine (HS2.out _ (HG.out _ _ hinv.out hz (HA.out _)) (HB.out.trans ((HA.out _).mono HB.out.size)) (by simp; omega) e1).mono ?_
        rintro e w1 ⟨rfl, hinv1, hb1⟩
        have HI1 : Hid (Inv w1) := hinv1
        have hz1 := hb1.size
        simp at hz1
        have HB1 : Hid (Below w.heap.size w w1) := (HB.out.trans ((HA.out _).mono HB.out.size)).trans hb1
        clear hinv1 hb1
        go_wp2_with fail
        refine (HL.out _ HI1.out).mono ?_
        rintro e w2 ⟨rfl, hinv2, hb2⟩
        have HI2 : Hid (Inv w2) := hinv2
        have hz2 := hb2.size
        have HB2 : Hid (Below w.heap.size w w2) := HB1.out.trans hb2
        clear hinv2 hb2
        go_wp2_with fail
        go_roundw
        case rel => exact ⟨k + 1, by omega, by go_num, HI2, HB2.out, by omega⟩
        case measure => simp [intOf]; omega
    · have hkn : k = n := by omega
      subst hkn
      go_wp2_with fail
      go_ret
      exact ⟨rfl, hb⟩
end Go.Proofs.YtgbdmnjipdgmoaaGreat
