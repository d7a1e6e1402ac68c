/-
  OUR OWN: the program's parser: expression, by its kind.
-/
import Derived.Test.YtgbdmnjipdgmoaaGreatSo
namespace Go.Proofs.YtgbdmnjipdgmoaaGreat
open Go.RowKit

attribute [local go_sem ↓] Go.wp_at_zero Go.wp_at_succ
attribute [local go_sem] alloc_drewN setCell_drewN
set_option maxRecDepth 100000 in
set_option maxHeartbeats 1600000 in
theorem exprP_alias (n base B : Nat) (s : ByteArray) (d : Int) (k : Nat) (b : Bool) (ev rv : Value) (es : List (EX × Value)) (rs : List RL) (w : World) (hs : s.size ≤ 2000) (hk : k ≤ s.size) (_h0 : 0 ≤ d) (_h1 : d ≤ k) (hl : es.length ≤ k) (_hrl : rs.length ≤ 2000) (hc : hereF s (skipF s k b) b = 64) (h : PM w base B s k b ev rv es rs) (R : CR) (hR : Hid (cE s rs (n + 1) d es.length k b = R)) :
    Calls Tryz.prog 123 #[.pointer (some ⟨B, 0, none⟩), .int .i64 d] w fun e w' =>
      e = .returned (.int .i64 R.idx) ∧ ∃ ev' new, new.map Prod.fst = R.es ∧ PM w' base B s R.k R.b ev' rv (es ++ new) rs ∧ Mv base B ev rv ev' rv w w' ∧ ∀ p ∈ new, ∀ g, p.2.ownBlock = some g → w.heap.size ≤ g := by
  obtain ⟨i0, hi0, hz0, hz1, hz2⟩ := info_parts Tryz.infoExpr
  have H : Hid (PM w base B s k b ev rv es rs) := h
  clear h
  go_enter Tryz.func123, Tryz.ntmps123
  go_wp2_with fail
  refine (skip_any base B s k b ev rv es rs _ hs hk H.out).mono ?_
  rintro e w1 ⟨rfl, hp, hm⟩
  have hKK : isK (hereF s (skipF s k b) b) = true := by rw [hc]; rfl
  have hlt : skipF s k b < s.size := (isK_lt hKK).2
  have hkp : k ≤ skipF s k b := skipF_ge s k b
  have hbf : b = false := (isK_lt hKK).1
  subst hbf
  rw [cE_alias n d es.length k false hc] at hR
  clear hKK
  have hce : hereF s (skipF s k false) false = 64 := hc
  have hpd := fun (wz : World) (hz : PM wz base B s (skipF s k false) false ev rv es rs) => here_dr base B s (skipF s k false) false ev rv es rs wz hz
  rw [hce] at hpd
  clear hce hc
  generalize skipF s k false = p at *
  have HP1 : Hid (PM w1 base B s p false ev rv es rs) := hp
  have HM1 : Hid (Mv base B ev rv ev rv w w1) := hm
  have c1 := hp.c1
  have hxou := hp.outNew
  have hbs1 := hp.bs
  have hws : w.heap.size ≤ w1.heap.size := hm.bel.size
  have hXB : w1.heap.size ≠ B := hxou.1
  have hBX : B ≠ w1.heap.size := fun e => hxou.1 e.symm
  have hBl := hp.lt
  clear hp hm
  have hbn := fun w => buildEx 64 p d w
  go_wp2_with fail
  go_region_held3 (fun w' => w'.cell? ⟨B, 1, none⟩ = some (.int .i64 p)) (first | (exact c1) | (exact keepA c1 _) | (exact keepS hXB (keepA c1 _) _ _) | go_keep) (first | (go_at_call 125; refine (hpd _ (by first | exact HP1.out.drew | exact HP1.out.drew.alloc _ | exact HP1.out.alloc _ | exact HP1.out)).mono ?_; rintro e w' ⟨rfl, q, rfl⟩))
  all_goals
    have HP2 : Hid (PM ((w1.alloc (.cells #[.int .u8 64, .int .i64 p, .int .i64 d, .int .i64 0, .int .i64 0, .slice none 0 0, .int .i64 (-1)] 149)).drewN (1 + q)) base B s p false ev rv es rs) := (HP1.out.alloc _).drewN _
    have HM2 : Hid (Mv base B ev rv ev rv w ((w1.alloc (.cells #[.int .u8 64, .int .i64 p, .int .i64 d, .int .i64 0, .int .i64 0, .slice none 0 0, .int .i64 (-1)] 149)).drewN (1 + q))) := (HM1.out.trans (Mv.alloc hbs1 _)).drewN _
    have XH2 : Hid (((w1.alloc (.cells #[.int .u8 64, .int .i64 p, .int .i64 d, .int .i64 0, .int .i64 0, .slice none 0 0, .int .i64 (-1)] 149)).drewN (1 + q)).heap[w1.heap.size]? = some (.cells #[.int .u8 64, .int .i64 p, .int .i64 d, .int .i64 0, .int .i64 0, .slice none 0 0, .int .i64 (-1)] 149 (0, 0))) := heap_alloc_new w1 _
    generalize (w1.alloc (.cells #[.int .u8 64, .int .i64 p, .int .i64 d, .int .i64 0, .int .i64 0, .slice none 0 0, .int .i64 (-1)] 149)).drewN (1 + q) = w2 at *
    clear c1 hbn
    have c1 := HP2.out.c1
    have z1 := HP2.out.fz 1
    have x0 : w2.cell? ⟨w1.heap.size, 0, none⟩ = some (.int .u8 64) := by simp [World.cell?, XH2.out]
    have hik := fun w => isKind_any 64 w
    rw [show isK 64 = true from rfl] at hik
    go_wp2_with fail
    refine (hik _).mono ?_
    rintro e w3 ⟨hw3, rfl⟩
    subst w3
    have HP3 : Hid (PM (w2.setCell ⟨B, 1, none⟩ (.int .i64 ((p : Int) + 1))) base B s (p + 1) false ev rv es rs) := HP2.out.at (p + 1) _ (by omega)
    have HM3 : Hid (Mv base B ev rv ev rv w (w2.setCell ⟨B, 1, none⟩ (.int .i64 ((p : Int) + 1)))) := HM2.out.trans (HP2.out.setMv 1 _)
    have XH3 : Hid ((w2.setCell ⟨B, 1, none⟩ (.int .i64 ((p : Int) + 1))).heap[w1.heap.size]? = some (.cells #[.int .u8 64, .int .i64 p, .int .i64 d, .int .i64 0, .int .i64 0, .slice none 0 0, .int .i64 (-1)] 149 (0, 0))) := (heap_set_ne hXB).trans XH2.out
    have hp1 : (p : Int) < 2000 := by omega
    go_wp2_with fail
    clear c1 z1 x0
    refine (number_any base B s (p + 1) false ev rv es rs _ hs (by omega) HP3.out).mono ?_
    rintro e w4 ⟨rfl, hp, hm⟩
    have Pw4 : Hid (PM w4 base B s (numK s (p + 1) false) (numX s (p + 1) false) ev rv (es) rs) := hp
    have Mw4 : Hid (Mv base B ev rv ev rv w w4) := (HM3.out).trans hm
    have Xw4 : Hid (w4.heap[w1.heap.size]? = some (.cells #[.int .u8 64, .int .i64 p, .int .i64 d, .int .i64 0, .int .i64 0, .slice none 0 0, .int .i64 (-1)] 149 (0, 0))) := (hm.kept _ (lt_of_block (XH3.out)) hxou).1.trans (XH3.out)
    clear hp hm
    have x0 : w4.cell? ⟨w1.heap.size, 0, none⟩ = some (.int .u8 64) := by simp [World.cell?, Xw4.out]
    have x1 : w4.cell? ⟨w1.heap.size, 1, none⟩ = some (.int .i64 p) := by simp [World.cell?, Xw4.out]
    have x2 : w4.cell? ⟨w1.heap.size, 2, none⟩ = some (.int .i64 d) := by simp [World.cell?, Xw4.out]
    have x3 : w4.cell? ⟨w1.heap.size, 3, none⟩ = some (.int .i64 0) := by simp [World.cell?, Xw4.out]
    have x4 : w4.cell? ⟨w1.heap.size, 4, none⟩ = some (.int .i64 0) := by simp [World.cell?, Xw4.out]
    have x5 : w4.cell? ⟨w1.heap.size, 5, none⟩ = some (.slice none 0 0) := by simp [World.cell?, Xw4.out]
    have x6 : w4.cell? ⟨w1.heap.size, 6, none⟩ = some (.int .i64 (-1)) := by simp [World.cell?, Xw4.out]
    have xz : ∀ j, w4.frozen? ⟨w1.heap.size, j, none⟩ = false := fun j => by simp [World.frozen?, Xw4.out]
    have HP5 : Hid (PM (((w4).setCell ⟨w1.heap.size, 3, none⟩ (.int .i64 (numV s (p + 1) false))).setCell ⟨w1.heap.size, 4, none⟩ (.int .i64 (skipF s (p + 1) false))) base B s (numK s (p + 1) false) (numX s (p + 1) false) ev rv (es) rs) := ((Pw4.out).setE (j := 3) (u := .int .i64 (numV s (p + 1) false)) ⟨_, _, Xw4.out⟩ hxou.2.1).setE (j := 4) (u := .int .i64 (skipF s (p + 1) false)) ⟨_, _, (blk7_set (j := 3) (u := .int .i64 (numV s (p + 1) false)) (Xw4.out))⟩ hxou.2.1
    have HM5 : Hid (Mv base B ev rv ev rv w (((w4).setCell ⟨w1.heap.size, 3, none⟩ (.int .i64 (numV s (p + 1) false))).setCell ⟨w1.heap.size, 4, none⟩ (.int .i64 (skipF s (p + 1) false)))) := ((Mw4.out).setNew (j := 3) hws hbs1 (.int .i64 (numV s (p + 1) false))).setNew (j := 4) hws hbs1 (.int .i64 (skipF s (p + 1) false))
    have HX5 : Hid ((((w4).setCell ⟨w1.heap.size, 3, none⟩ (.int .i64 (numV s (p + 1) false))).setCell ⟨w1.heap.size, 4, none⟩ (.int .i64 (skipF s (p + 1) false))).heap[w1.heap.size]? = some (.cells #[.int .u8 64, .int .i64 p, .int .i64 d, .int .i64 (numV s (p + 1) false), .int .i64 (skipF s (p + 1) false), .slice none 0 0, .int .i64 (-1)] 149 (0, 0))) := (blk7_set (j := 4) (u := .int .i64 (skipF s (p + 1) false)) ((blk7_set (j := 3) (u := .int .i64 (numV s (p + 1) false)) (Xw4.out))))
    have HV5 : Hid ((((w4).setCell ⟨w1.heap.size, 3, none⟩ (.int .i64 (numV s (p + 1) false))).setCell ⟨w1.heap.size, 4, none⟩ (.int .i64 (skipF s (p + 1) false))).ownsRow base 179 7 (.slice none 0 0) ((⟨64, p, d, numV s (p + 1) false, skipF s (p + 1) false, [], -1⟩ : EX)).items.length (imC ((⟨64, p, d, numV s (p + 1) false, skipF s (p + 1) false, [], -1⟩ : EX)).items)) := ⟨rfl, .inl ⟨rfl, rfl⟩⟩
    go_wp2_with fail
    generalize ((w4).setCell ⟨w1.heap.size, 3, none⟩ (.int .i64 (numV s (p + 1) false))).setCell ⟨w1.heap.size, 4, none⟩ (.int .i64 (skipF s (p + 1) false)) = w5 at *
    clear x0 x1 x2 x3 x4 x5 x6 xz
    have x0 : w5.cell? ⟨w1.heap.size, 0, none⟩ = some (.int .u8 64) := by simp [World.cell?, HX5.out]
    have x1 : w5.cell? ⟨w1.heap.size, 1, none⟩ = some (.int .i64 p) := by simp [World.cell?, HX5.out]
    have x2 : w5.cell? ⟨w1.heap.size, 2, none⟩ = some (.int .i64 d) := by simp [World.cell?, HX5.out]
    have x3 : w5.cell? ⟨w1.heap.size, 3, none⟩ = some (.int .i64 (numV s (p + 1) false)) := by simp [World.cell?, HX5.out]
    have x4 : w5.cell? ⟨w1.heap.size, 4, none⟩ = some (.int .i64 (skipF s (p + 1) false)) := by simp [World.cell?, HX5.out]
    have x5 : w5.cell? ⟨w1.heap.size, 5, none⟩ = some (.slice none 0 0) := by simp [World.cell?, HX5.out]
    have x6 : w5.cell? ⟨w1.heap.size, 6, none⟩ = some (.int .i64 (-1)) := by simp [World.cell?, HX5.out]
    have c3 := HP5.out.c3
    have hB5 := HP5.out.lt
    have hX5 : w1.heap.size < w5.heap.size := lt_of_block HX5.out
    have z3 := HP5.out.fz 3
    obtain ⟨n9, hn9⟩ : ∃ n9, n9 = (es).length := ⟨_, rfl⟩
    have HN9 : Hid (n9 = (es).length) := hn9
    have HE9 : Hid (w5.ownsRow base 149 7 ev n9 (exC (es))) := by show World.ownsRow _ _ _ _ _ _ _; rw [hn9]; exact HP5.out.ex
    have hl9 : (n9 : Int) < 5000 := by rw [hn9]; omega
    clear hn9
    have hA1 : Hid (n9 + 1 ≤ maxLen) := by show _ ≤ _; unfold maxLen; omega
    have hA2 : Hid ((n9 + 1) * 72 ≤ 140737488355328) := by show _ ≤ _; omega
    have hA3 : Hid (∀ o : Obj, base ≤ (w5.alloc o).drew.heap.size) := fun o => by have := HP5.out.bs; show base ≤ (w5.alloc o).heap.size; simp; omega
    have hone : Hid (∀ u ∈ exV ((⟨64, p, d, numV s (p + 1) false, skipF s (p + 1) false, [], -1⟩ : EX), .slice none 0 0), u.oneCell' = true) := fun u hu => by simp [exV] at hu; rcases hu with rfl | rfl | rfl | rfl | rfl | rfl | rfl <;> first | rfl | exact HV1.out
    go_region_law ((refine step_append_lies _ (by rfl) _ _ _ (by rfl) base 149 i0 _ 7 72 Tryz.underlying100 hi0 hz0 hz1 hz2 rfl (by decide) ev _ _ (by rfl) ((HE9.out.alloc _).drew) ⟨w5.heap.size, 0, none⟩ 1 1 (exV ((⟨64, p, d, numV s (p + 1) false, skipF s (p + 1) false, [], -1⟩ : EX), .slice none 0 0)) (by rfl) (by rfl) (World.news_of_block (cs := #[.int .u8 64, .int .i64 p, .int .i64 d, .int .i64 (numV s (p + 1) false), .int .i64 (skipF s (p + 1) false), .slice none 0 0, .int .i64 (-1)]) (t := 149) (fr := (0, 0)) (heap_alloc_new w5 _)) hone.out (Nat.lt_succ_self 0) hA1.out hA2.out (hA3.out _) (w5.heap.size + 1) (by simp) ?_; intro g cap w9 hown hgrow hat hlt9; obtain ⟨y3, yz⟩ := HP5.out.grown3 hgrow))
    all_goals
      have HP9 : Hid (PM (w9.setCell ⟨B, 3, none⟩ (.slice (some ⟨g, 0, none⟩) (n9 + 1) cap)) base B s (numK s (p + 1) false) (numX s (p + 1) false) (.slice (some ⟨g, 0, none⟩) (n9 + 1) cap) rv (es ++ [((⟨64, p, d, numV s (p + 1) false, skipF s (p + 1) false, [], -1⟩ : EX), .slice none 0 0)]) rs) := ((HP5.out.alloc _).drew).pushE HN9.out hgrow hown ((HV5.out.alloc _).drew)
      have HM9 : Hid (Mv base B ev rv (.slice (some ⟨g, 0, none⟩) (n9 + 1) cap) rv w (w9.setCell ⟨B, 3, none⟩ (.slice (some ⟨g, 0, none⟩) (n9 + 1) cap))) := (HM5.out.trans (Mv.alloc HP5.out.bs _)).drew.trans (((HP5.out.alloc _).drew).pushMv hgrow hat (by show (w5.alloc _).heap.size ≤ _; simp))
      clear hown hgrow hat
      go_wp2_with fail
      go_ret
      exact ⟨by rw [← hR.out]; rw [← HN9.out]; rfl, _, [((⟨64, p, d, numV s (p + 1) false, skipF s (p + 1) false, [], -1⟩ : EX), .slice none 0 0)], by rw [← hR.out]; rfl, by rw [← hR.out]; exact HP9.out, HM9.out, fun q hq g hg => by simp at hq; subst hq; simp [Value.ownBlock] at hg⟩
end Go.Proofs.YtgbdmnjipdgmoaaGreat
