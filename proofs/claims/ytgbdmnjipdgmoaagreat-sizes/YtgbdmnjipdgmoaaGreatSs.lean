/-
  OUR OWN: the program's parser: expression, by its kind.
-/
import Derived.Test.YtgbdmnjipdgmoaaGreatSo
namespace Go.Proofs.YtgbdmnjipdgmoaaGreat
open Go.RowKit

attribute [local go_sem ↓] Go.wp_at_zero Go.wp_at_succ
attribute [local go_sem] alloc_drewN setCell_drewN
set_option maxRecDepth 100000 in
set_option maxHeartbeats 1600000 in
theorem exprP_servers (n base B : Nat) (s : ByteArray) (d : Int) (k : Nat) (b : Bool) (ev rv : Value) (es : List (EX × Value)) (rs : List RL) (w : World) (hX : ExprOK (cE s rs n) s base B rs n) (hn : s.size - k < n + 1) (hs : s.size ≤ 2000) (hk : k ≤ s.size) (h0 : 0 ≤ d) (h1 : d ≤ k) (hl : es.length ≤ k) (_hrl : rs.length ≤ 2000) (hc : hereF s (skipF s k b) b = 123) (h : PM w base B s k b ev rv es rs) (R : CR) (hR : Hid (cE s rs (n + 1) d es.length k b = R)) :
    Calls Tryz.prog 123 #[.pointer (some ⟨B, 0, none⟩), .int .i64 d] w fun e w' =>
      e = .returned (.int .i64 R.idx) ∧ ∃ ev' new, new.map Prod.fst = R.es ∧ PM w' base B s R.k R.b ev' rv (es ++ new) rs ∧ Mv base B ev rv ev' rv w w' ∧ ∀ p ∈ new, ∀ g, p.2.ownBlock = some g → w.heap.size ≤ g := by
  obtain ⟨i0, hi0, hz0, hz1, hz2⟩ := info_parts Tryz.infoExpr
  have H : Hid (PM w base B s k b ev rv es rs) := h
  clear h
  go_enter Tryz.func123, Tryz.ntmps123
  go_wp2_with fail
  refine (skip_any base B s k b ev rv es rs _ hs hk H.out).mono ?_
  rintro e w1 ⟨rfl, hp, hm⟩
  have hKK : isK (hereF s (skipF s k b) b) = true := by rw [hc]; rfl
  have hlt : skipF s k b < s.size := (isK_lt hKK).2
  have hkp : k ≤ skipF s k b := skipF_ge s k b
  have hbf : b = false := (isK_lt hKK).1
  subst hbf
  rw [cE_servers n d es.length k false hc] at hR
  clear hKK
  have hce : hereF s (skipF s k false) false = 123 := hc
  have hpd := fun (wz : World) (hz : PM wz base B s (skipF s k false) false ev rv es rs) => here_dr base B s (skipF s k false) false ev rv es rs wz hz
  rw [hce] at hpd
  clear hce hc
  generalize skipF s k false = p at *
  have HP1 : Hid (PM w1 base B s p false ev rv es rs) := hp
  have HM1 : Hid (Mv base B ev rv ev rv w w1) := hm
  have c1 := hp.c1
  have hxou := hp.outNew
  have hbs1 := hp.bs
  have hws : w.heap.size ≤ w1.heap.size := hm.bel.size
  have hXB : w1.heap.size ≠ B := hxou.1
  have hBX : B ≠ w1.heap.size := fun e => hxou.1 e.symm
  have hBl := hp.lt
  clear hp hm
  have hbn := fun w => buildEx 123 p d w
  go_wp2_with fail
  go_region_held3 (fun w' => w'.cell? ⟨B, 1, none⟩ = some (.int .i64 p)) (first | (exact c1) | (exact keepA c1 _) | (exact keepS hXB (keepA c1 _) _ _) | go_keep) (first | (go_at_call 125; refine (hpd _ (by first | exact HP1.out.drew | exact HP1.out.drew.alloc _ | exact HP1.out.alloc _ | exact HP1.out)).mono ?_; rintro e w' ⟨rfl, q, rfl⟩))
  all_goals
    have HP2 : Hid (PM ((w1.alloc (.cells #[.int .u8 123, .int .i64 p, .int .i64 d, .int .i64 0, .int .i64 0, .slice none 0 0, .int .i64 (-1)] 149)).drewN (1 + q)) base B s p false ev rv es rs) := (HP1.out.alloc _).drewN _
    have HM2 : Hid (Mv base B ev rv ev rv w ((w1.alloc (.cells #[.int .u8 123, .int .i64 p, .int .i64 d, .int .i64 0, .int .i64 0, .slice none 0 0, .int .i64 (-1)] 149)).drewN (1 + q))) := (HM1.out.trans (Mv.alloc hbs1 _)).drewN _
    have XH2 : Hid (((w1.alloc (.cells #[.int .u8 123, .int .i64 p, .int .i64 d, .int .i64 0, .int .i64 0, .slice none 0 0, .int .i64 (-1)] 149)).drewN (1 + q)).heap[w1.heap.size]? = some (.cells #[.int .u8 123, .int .i64 p, .int .i64 d, .int .i64 0, .int .i64 0, .slice none 0 0, .int .i64 (-1)] 149 (0, 0))) := heap_alloc_new w1 _
    generalize (w1.alloc (.cells #[.int .u8 123, .int .i64 p, .int .i64 d, .int .i64 0, .int .i64 0, .slice none 0 0, .int .i64 (-1)] 149)).drewN (1 + q) = w2 at *
    clear c1 hbn
    have c1 := HP2.out.c1
    have z1 := HP2.out.fz 1
    have x0 : w2.cell? ⟨w1.heap.size, 0, none⟩ = some (.int .u8 123) := by simp [World.cell?, XH2.out]
    have hik := fun w => isKind_any 123 w
    rw [show isK 123 = true from rfl] at hik
    go_wp2_with fail
    refine (hik _).mono ?_
    rintro e w3 ⟨hw3, rfl⟩
    subst w3
    have HP3 : Hid (PM (w2.setCell ⟨B, 1, none⟩ (.int .i64 ((p : Int) + 1))) base B s (p + 1) false ev rv es rs) := HP2.out.at (p + 1) _ (by omega)
    have HM3 : Hid (Mv base B ev rv ev rv w (w2.setCell ⟨B, 1, none⟩ (.int .i64 ((p : Int) + 1)))) := HM2.out.trans (HP2.out.setMv 1 _)
    have XH3 : Hid ((w2.setCell ⟨B, 1, none⟩ (.int .i64 ((p : Int) + 1))).heap[w1.heap.size]? = some (.cells #[.int .u8 123, .int .i64 p, .int .i64 d, .int .i64 0, .int .i64 0, .slice none 0 0, .int .i64 (-1)] 149 (0, 0))) := (heap_set_ne hXB).trans XH2.out
    have hp1 : (p : Int) < 2000 := by omega
    go_wp2_with fail
    clear c1 z1 x0
    have hli := cItems_mono (cE_mono s rs n) 123 d (s.size + 1 - (p + 1)) es.length (p + 1) false (by omega)
    generalize hl0 : cItems (cE s rs n) s 123 d (s.size + 1 - (p + 1)) es.length (p + 1) false = l at *
    generalize hk3 : takeK s 125 l.k l.b = k3 at *
    generalize hq3 : wantB s 125 l.k l.b = b3 at *
    refine (items_any (cE s rs n) base B s 123 d (p + 1) (false) ev rv es rs _ n hX (cE_mono s rs n) (cE_bad s rs n) h0 (by omega) (by omega) (.inr (by omega)) hs (by omega) (.inl rfl) HP3.out l hl0).mono ?_
    rintro e w6 ⟨v, ev6, new, rfl, hnew, hp, hm, hfr, hrow, hvf⟩
    obtain ⟨vo, vm, vc, rfl⟩ : ∃ vo vm vc, v = .slice vo vm vc := by
      rcases hrow.2 with ⟨rfl, _⟩ | ⟨g, cap, cur, rfl, _⟩
      · exact ⟨none, 0, 0, rfl⟩
      · exact ⟨_, _, _, rfl⟩
    have hnl : Hid (new.length = l.es.length) := by show _ = _; rw [← hnew, List.length_map]
    have HFR : Hid (∀ p ∈ new, ∀ g, p.2.ownBlock = some g → w.heap.size ≤ g) := fun p hp g hg => Nat.le_trans HM3.out.bel.size (hfr p hp g hg)
    have HVF : Hid (∀ g, (Value.slice vo vm vc).ownBlock = some g → w.heap.size ≤ g) := fun g hg => Nat.le_trans HM3.out.bel.size (hvf g hg).1
    have HNW : Hid (new.map Prod.fst = l.es) := hnew
    have HV1 : Hid ((Value.slice vo vm vc).oneCell' = true) := rfl
    have HV0 : Hid (w6.ownsRow base 179 7 (.slice vo vm vc) l.ims.length (imC l.ims)) := hrow
    clear hfr hnew hvf hrow
    have Pw6 : Hid (PM w6 base B s (l.k) (l.b) ev6 rv (es ++ new) rs) := hp
    have Mw6 : Hid (Mv base B ev rv ev6 rv w w6) := (HM3.out).trans hm
    have Xw6 : Hid (w6.heap[w1.heap.size]? = some (.cells #[.int .u8 123, .int .i64 p, .int .i64 d, .int .i64 0, .int .i64 0, .slice none 0 0, .int .i64 (-1)] 149 (0, 0))) := (hm.kept _ (lt_of_block (XH3.out)) hxou).1.trans (XH3.out)
    have Ow6 : Hid (Out B ev6 rv w1.heap.size) := (hm.kept _ (lt_of_block (XH3.out)) hxou).2
    clear hp hm
    have x0 : w6.cell? ⟨w1.heap.size, 0, none⟩ = some (.int .u8 123) := by simp [World.cell?, Xw6.out]
    have x1 : w6.cell? ⟨w1.heap.size, 1, none⟩ = some (.int .i64 p) := by simp [World.cell?, Xw6.out]
    have x2 : w6.cell? ⟨w1.heap.size, 2, none⟩ = some (.int .i64 d) := by simp [World.cell?, Xw6.out]
    have x3 : w6.cell? ⟨w1.heap.size, 3, none⟩ = some (.int .i64 0) := by simp [World.cell?, Xw6.out]
    have x4 : w6.cell? ⟨w1.heap.size, 4, none⟩ = some (.int .i64 0) := by simp [World.cell?, Xw6.out]
    have x5 : w6.cell? ⟨w1.heap.size, 5, none⟩ = some (.slice none 0 0) := by simp [World.cell?, Xw6.out]
    have x6 : w6.cell? ⟨w1.heap.size, 6, none⟩ = some (.int .i64 (-1)) := by simp [World.cell?, Xw6.out]
    have xz : ∀ j, w6.frozen? ⟨w1.heap.size, j, none⟩ = false := fun j => by simp [World.frozen?, Xw6.out]
    have HP6 : Hid (PM ((w6).setCell ⟨w1.heap.size, 5, none⟩ (.slice vo vm vc)) base B s (l.k) (l.b) ev6 rv (es ++ new) rs) := (Pw6.out).setE (j := 5) (u := .slice vo vm vc) ⟨_, _, Xw6.out⟩ Ow6.out.2.1
    have HM6 : Hid (Mv base B ev rv ev6 rv w ((w6).setCell ⟨w1.heap.size, 5, none⟩ (.slice vo vm vc))) := (Mw6.out).setNew (j := 5) hws hbs1 (.slice vo vm vc)
    have HX6 : Hid (((w6).setCell ⟨w1.heap.size, 5, none⟩ (.slice vo vm vc)).heap[w1.heap.size]? = some (.cells #[.int .u8 123, .int .i64 p, .int .i64 d, .int .i64 0, .int .i64 0, .slice vo vm vc, .int .i64 (-1)] 149 (0, 0))) := (blk7_set (j := 5) (u := .slice vo vm vc) (Xw6.out))
    have HR6x0 : Hid (((w6).setCell ⟨w1.heap.size, 5, none⟩ (.slice vo vm vc)).ownsRow base 179 7 (.slice vo vm vc) l.ims.length (imC l.ims)) := ownsRow_setCell_other (HV0.out) (owns_ne (HV0.out) (Xw6.out) (by decide)) (.slice vo vm vc)
    go_wp2_with fail
    refine (want_any base B s 125 (l.k) (l.b) ev6 rv (es ++ new) rs _ hs hli.2.1 (by decide) HP6.out).mono ?_
    rintro e w10 ⟨rfl, hp, hm⟩
    rw [hk3, hq3] at hp
    have Pw10 : Hid (PM w10 base B s (k3) (b3) ev6 rv (es ++ new) rs) := hp
    have Mw10 : Hid (Mv base B ev rv ev6 rv w w10) := (HM6.out).trans hm
    have Xw10 : Hid (w10.heap[w1.heap.size]? = some (.cells #[.int .u8 123, .int .i64 p, .int .i64 d, .int .i64 0, .int .i64 0, .slice vo vm vc, .int .i64 (-1)] 149 (0, 0))) := (hm.kept _ (lt_of_block (HX6.out)) Ow6.out).1.trans (HX6.out)
    have Rw10x0 : Hid (w10.ownsRow base 179 7 (.slice vo vm vc) l.ims.length (imC l.ims)) := owns_of_block (HR6x0.out) (fun g hg => (hm.kept g ((HR6x0.out).lt g hg).2 ((HP6.out).outI (HR6x0.out) hg)).1)
    clear hp hm
    clear x0 x1 x2 x3 x4 x5 x6 xz
    have x0 : w10.cell? ⟨w1.heap.size, 0, none⟩ = some (.int .u8 123) := by simp [World.cell?, Xw10.out]
    have x1 : w10.cell? ⟨w1.heap.size, 1, none⟩ = some (.int .i64 p) := by simp [World.cell?, Xw10.out]
    have x2 : w10.cell? ⟨w1.heap.size, 2, none⟩ = some (.int .i64 d) := by simp [World.cell?, Xw10.out]
    have x3 : w10.cell? ⟨w1.heap.size, 3, none⟩ = some (.int .i64 0) := by simp [World.cell?, Xw10.out]
    have x4 : w10.cell? ⟨w1.heap.size, 4, none⟩ = some (.int .i64 0) := by simp [World.cell?, Xw10.out]
    have x5 : w10.cell? ⟨w1.heap.size, 5, none⟩ = some (.slice vo vm vc) := by simp [World.cell?, Xw10.out]
    have x6 : w10.cell? ⟨w1.heap.size, 6, none⟩ = some (.int .i64 (-1)) := by simp [World.cell?, Xw10.out]
    have xz : ∀ j, w10.frozen? ⟨w1.heap.size, j, none⟩ = false := fun j => by simp [World.frozen?, Xw10.out]
    have hl8 := hnl.out
    have HP5 : Hid (PM (w10) base B s (k3) (b3) ev6 rv (es ++ new) rs) := Pw10.out
    have HM5 : Hid (Mv base B ev rv ev6 rv w (w10)) := Mw10.out
    have HX5 : Hid ((w10).heap[w1.heap.size]? = some (.cells #[.int .u8 123, .int .i64 p, .int .i64 d, .int .i64 0, .int .i64 0, .slice vo vm vc, .int .i64 (-1)] 149 (0, 0))) := Xw10.out
    have HR5x0 : Hid ((w10).ownsRow base 179 7 (.slice vo vm vc) l.ims.length (imC l.ims)) := Rw10x0.out
    have HV5 : Hid ((w10).ownsRow base 179 7 (.slice vo vm vc) ((⟨123, p, d, 0, 0, l.ims, -1⟩ : EX)).items.length (imC ((⟨123, p, d, 0, 0, l.ims, -1⟩ : EX)).items)) := Rw10x0.out
    go_wp2_with fail
    generalize w10 = w5 at *
    clear x0 x1 x2 x3 x4 x5 x6 xz
    have x0 : w5.cell? ⟨w1.heap.size, 0, none⟩ = some (.int .u8 123) := by simp [World.cell?, HX5.out]
    have x1 : w5.cell? ⟨w1.heap.size, 1, none⟩ = some (.int .i64 p) := by simp [World.cell?, HX5.out]
    have x2 : w5.cell? ⟨w1.heap.size, 2, none⟩ = some (.int .i64 d) := by simp [World.cell?, HX5.out]
    have x3 : w5.cell? ⟨w1.heap.size, 3, none⟩ = some (.int .i64 0) := by simp [World.cell?, HX5.out]
    have x4 : w5.cell? ⟨w1.heap.size, 4, none⟩ = some (.int .i64 0) := by simp [World.cell?, HX5.out]
    have x5 : w5.cell? ⟨w1.heap.size, 5, none⟩ = some (.slice vo vm vc) := by simp [World.cell?, HX5.out]
    have x6 : w5.cell? ⟨w1.heap.size, 6, none⟩ = some (.int .i64 (-1)) := by simp [World.cell?, HX5.out]
    have c3 := HP5.out.c3
    have hB5 := HP5.out.lt
    have hX5 : w1.heap.size < w5.heap.size := lt_of_block HX5.out
    have z3 := HP5.out.fz 3
    obtain ⟨n9, hn9⟩ : ∃ n9, n9 = (es ++ new).length := ⟨_, rfl⟩
    have HN9 : Hid (n9 = (es ++ new).length) := hn9
    have HE9 : Hid (w5.ownsRow base 149 7 ev6 n9 (exC (es ++ new))) := by show World.ownsRow _ _ _ _ _ _ _; rw [hn9]; exact HP5.out.ex
    have hl9 : (n9 : Int) < 5000 := by rw [hn9]; simp only [List.length_append]; omega
    clear hn9
    have hA1 : Hid (n9 + 1 ≤ maxLen) := by show _ ≤ _; unfold maxLen; omega
    have hA2 : Hid ((n9 + 1) * 72 ≤ 140737488355328) := by show _ ≤ _; omega
    have hA3 : Hid (∀ o : Obj, base ≤ (w5.alloc o).drew.heap.size) := fun o => by have := HP5.out.bs; show base ≤ (w5.alloc o).heap.size; simp; omega
    have hone : Hid (∀ u ∈ exV ((⟨123, p, d, 0, 0, l.ims, -1⟩ : EX), .slice vo vm vc), u.oneCell' = true) := fun u hu => by simp [exV] at hu; rcases hu with rfl | rfl | rfl | rfl | rfl | rfl | rfl <;> first | rfl | exact HV1.out
    go_region_law ((refine step_append_lies _ (by rfl) _ _ _ (by rfl) base 149 i0 _ 7 72 Tryz.underlying100 hi0 hz0 hz1 hz2 rfl (by decide) ev6 _ _ (by rfl) ((HE9.out.alloc _).drew) ⟨w5.heap.size, 0, none⟩ 1 1 (exV ((⟨123, p, d, 0, 0, l.ims, -1⟩ : EX), .slice vo vm vc)) (by rfl) (by rfl) (World.news_of_block (cs := #[.int .u8 123, .int .i64 p, .int .i64 d, .int .i64 0, .int .i64 0, .slice vo vm vc, .int .i64 (-1)]) (t := 149) (fr := (0, 0)) (heap_alloc_new w5 _)) hone.out (Nat.lt_succ_self 0) hA1.out hA2.out (hA3.out _) (w5.heap.size + 1) (by simp) ?_; intro g cap w9 hown hgrow hat hlt9; obtain ⟨y3, yz⟩ := HP5.out.grown3 hgrow))
    all_goals
      have HP9 : Hid (PM (w9.setCell ⟨B, 3, none⟩ (.slice (some ⟨g, 0, none⟩) (n9 + 1) cap)) base B s (k3) (b3) (.slice (some ⟨g, 0, none⟩) (n9 + 1) cap) rv (es ++ new ++ [((⟨123, p, d, 0, 0, l.ims, -1⟩ : EX), .slice vo vm vc)]) rs) := ((HP5.out.alloc _).drew).pushE HN9.out hgrow hown ((HV5.out.alloc _).drew)
      have HM9 : Hid (Mv base B ev rv (.slice (some ⟨g, 0, none⟩) (n9 + 1) cap) rv w (w9.setCell ⟨B, 3, none⟩ (.slice (some ⟨g, 0, none⟩) (n9 + 1) cap))) := (HM5.out.trans (Mv.alloc HP5.out.bs _)).drew.trans (((HP5.out.alloc _).drew).pushMv hgrow hat (by show (w5.alloc _).heap.size ≤ _; simp))
      clear hown hgrow hat
      go_wp2_with fail
      go_ret
      exact ⟨by rw [← hR.out]; show _ = Ending.returned (.int .i64 ((es.length + l.es.length : Nat) : Int)); rw [← hnl.out, ← List.length_append, ← HN9.out]; rfl, _, new ++ [((⟨123, p, d, 0, 0, l.ims, -1⟩ : EX), .slice vo vm vc)], by rw [← hR.out]; rw [List.map_append, HNW.out]; rfl, by rw [← hR.out, ← List.append_assoc]; exact HP9.out, HM9.out, fun q hq g hg => by
        rcases List.mem_append.1 hq with hq | hq
        · exact HFR.out q hq g hg
        · simp at hq; subst hq; exact HVF.out g hg⟩
end Go.Proofs.YtgbdmnjipdgmoaaGreat
