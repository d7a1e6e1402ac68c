/-
  OUR OWN: the program's parser: expression; rule, rules.
  OUR OWN: the program's parser: rule, rules.
  OUR OWN: the program's parser: rules.
  OUR OWN: the program's check: found, number, isIn.
  OUR OWN: the program's check: item, expression.
-/
import Derived.Test.YtaebngpoagjafaaGreatQ15
import Derived.Test.YtaebngpoagjafaaGreatQ16
namespace Go.Proofs.YtaebngpoagjafaaGreat
open Go.RowKit

attribute [local go_sem ↓] Go.wp_at_zero Go.wp_at_succ
attribute [local go_sem] alloc_drewN setCell_drewN
set_option maxRecDepth 100000 in
set_option maxHeartbeats 1600000 in
theorem exprP_no (c : Int) (base B : Nat) (s : ByteArray) (d : Int) (k : Nat) (b : Bool) (ev rv : Value) (es : List (EX × Value)) (rs : List RL) (w : World) (hs : s.size ≤ 2000) (hk : k ≤ s.size) (hc : hereF s (skipF s k b) b = c) (hcc : isK c = false) (h : PM w base B s k b ev rv es rs) :
    Calls Tryz.prog 143 #[.pointer (some ⟨B, 0, none⟩), .int .i64 d] w fun e w' =>
      e = .returned (.int .i64 (-1)) ∧ PM w' base B s (skipF s k b) true ev rv es rs ∧ Mv base B ev rv ev rv w w' := by
  have H : Hid (PM w base B s k b ev rv es rs) := h
  clear h
  go_enter Tryz.func143, Tryz.ntmps143
  go_wp2_with fail
  refine (skip_any base B s k b ev rv es rs _ hs hk H.out).mono ?_
  rintro e w1 ⟨rfl, hp, hm⟩
  have hpd := fun (wz : World) (hz : PM wz base B s (skipF s k b) b ev rv es rs) => here_dr base B s (skipF s k b) b ev rv es rs wz hz
  rw [hc] at hpd
  have hbd := hereF_bd s (skipF s k b) b
  rw [hc] at hbd
  clear hc
  generalize hpe : skipF s k b = p at *
  have HPE : Hid (skipF s k b = p) := hpe
  clear hpe
  have HP1 : Hid (PM w1 base B s p b ev rv es rs) := hp
  have HM1 : Hid (Mv base B ev rv ev rv w w1) := hm
  have c1 := hp.c1
  have hxou := hp.outNew
  have hbs1 := hp.bs
  have hXB : w1.heap.size ≠ B := hxou.1
  have hBX : B ≠ w1.heap.size := fun e => hxou.1 e.symm
  have hBl := hp.lt
  clear hp hm
  have hbn := fun w => buildEx c p d w
  go_wp2_with fail
  go_region_held3 (fun w' => w'.cell? ⟨B, 1, none⟩ = some (.int .i64 p)) (first | (exact c1) | (exact keepA c1 _) | (exact keepS hXB (keepA c1 _) _ _) | go_keep) (first | (go_at_call 145; refine (hpd _ (by first | exact HP1.out.drew | exact HP1.out.drew.alloc _ | exact HP1.out.alloc _ | exact HP1.out)).mono ?_; rintro e w' ⟨rfl, q, rfl⟩))
  all_goals
    have HP2 : Hid (PM ((w1.alloc (.cells #[.int .u8 c, .int .i64 p, .int .i64 d, .int .i64 0, .int .i64 0, .slice none 0 0, .int .i64 (-1)] 114)).drewN (1 + q)) base B s p b ev rv es rs) := (HP1.out.alloc _).drewN _
    have HM2 : Hid (Mv base B ev rv ev rv w ((w1.alloc (.cells #[.int .u8 c, .int .i64 p, .int .i64 d, .int .i64 0, .int .i64 0, .slice none 0 0, .int .i64 (-1)] 114)).drewN (1 + q))) := (HM1.out.trans (Mv.alloc hbs1 _)).drewN _
    have XH2 : Hid (((w1.alloc (.cells #[.int .u8 c, .int .i64 p, .int .i64 d, .int .i64 0, .int .i64 0, .slice none 0 0, .int .i64 (-1)] 114)).drewN (1 + q)).heap[w1.heap.size]? = some (.cells #[.int .u8 c, .int .i64 p, .int .i64 d, .int .i64 0, .int .i64 0, .slice none 0 0, .int .i64 (-1)] 114 (0, 0))) := heap_alloc_new w1 _
    generalize (w1.alloc (.cells #[.int .u8 c, .int .i64 p, .int .i64 d, .int .i64 0, .int .i64 0, .slice none 0 0, .int .i64 (-1)] 114)).drewN (1 + q) = w2 at *
    clear c1 hbn
    have c2 := HP2.out.c2
    have z2 := HP2.out.fz 2
    have x0 : w2.cell? ⟨w1.heap.size, 0, none⟩ = some (.int .u8 c) := by simp [World.cell?, XH2.out]
    have hik := fun w => isKind_any c w
    rw [hcc] at hik
    go_wp2_with fail
    refine (hik _).mono ?_
    rintro e w3 ⟨hw3, rfl⟩
    subst w3
    go_wp2_with fail
    go_ret
    exact ⟨rfl, by rw [HPE.out]; exact HP2.out.bad true, HM2.out.trans (HP2.out.setMv 2 _)⟩

theorem expr_ok (s : ByteArray) (rs : List RL) (base B : Nat) (hs : s.size ≤ 2000) (hrl : rs.length ≤ 2000) (n : Nat) : ExprOK (cE s rs n) s base B rs n := by
  induction n with
  | zero =>
    intro d k b ev rv es w hk h0 h1 hl hn h
    have hb : b = true := by rcases hn with h | h
                             · exact h
                             · omega
    subst hb
    refine (exprP_no 0 base B s d k true ev rv es rs w hs hk (hereF_bad _ _) rfl h).mono ?_
    rintro e w' ⟨rfl, hp, hm⟩
    exact ⟨rfl, ev, [], rfl, by rw [List.append_nil]; exact hp, hm, by simp⟩
  | succ n ih =>
    intro d k b ev rv es w hk h0 h1 hl hn h
    cases hcc : isK (hereF s (skipF s k b) b) with
    | false =>
      refine (exprP_no _ base B s d k b ev rv es rs w hs hk rfl hcc h).mono ?_
      rintro e w' ⟨rfl, hp, hm⟩
      rw [cE_no n d es.length k b hcc]
      exact ⟨rfl, ev, [], rfl, by rw [List.append_nil]; exact hp, hm, by simp⟩
    | true =>
      have hb : b = false := (isK_lt hcc).1
      have hn2 : s.size - k < n + 1 := by rcases hn with h | h
                                          · rw [hb] at h; cases h
                                          · exact h
      obtain ⟨c, hc⟩ : ∃ c, hereF s (skipF s k b) b = c := ⟨_, rfl⟩
      rw [hc] at hcc
      have h8 : c = 123 ∨ c = 116 ∨ c = 64 ∨ c = 61 ∨ (c = 119 ∨ c = 102 ∨ c = 109 ∨ c = 103) := by
        simp [isK] at hcc
        omega
      rcases h8 with rfl | rfl | rfl | rfl | h8
      · exact exprP_servers n base B s d k b ev rv es rs w ih hn2 hs hk h0 h1 hl hrl hc h _ rfl
      · exact exprP_ttl n base B s d k b ev rv es rs w ih hn2 hs hk h0 h1 hl hrl hc h _ rfl
      · exact exprP_alias n base B s d k b ev rv es rs w hs hk h0 h1 hl hrl hc h _ rfl
      · exact exprP_name n base B s d k b ev rv es rs w hs hk h0 h1 hl hrl hc h _ rfl
      · exact exprP_list c n base B s d k b ev rv es rs w ih hn2 hs hk h0 h1 hl hrl hc h8 h _ rfl
end Go.Proofs.YtaebngpoagjafaaGreat
namespace Go.Proofs.YtaebngpoagjafaaGreat
open Go.RowKit

theorem Tryz.infoRule : (Tryz.prog.info? 161).map (fun i => (i.zero, i.size, i.bytes)) = some (some (.agg #[.int .i64 0, .int .i64 0, .int .i64 0]), 3, 24) := by kernel_rfl
theorem buildRl (a b e : Int) (w : World) : (Instr.build 161 #[(0, .agg #[.int .i64 a, .int .i64 b]), (1, .int .i64 e)]).run Tryz.prog w = .ok (.agg #[.int .i64 a, .int .i64 b, .int .i64 e]) w := run_build w 161 _ _ (by kernel_rfl)
/-- What a rule gives. -/
structure CU where
  rl : RL
  es : List EX
  k : Nat
  b : Bool
def cRule (s : ByteArray) (rs : List RL) (m k : Nat) (b : Bool) : CU :=
  let r := cE s rs (s.size + 1) 0 m (takeK s 58 (letK s k b) (letX s k b)) (wantB s 58 (letK s k b) (letX s k b))
  ⟨⟨hereF s (skipF s k b) b, skipF s k b, r.idx⟩, r.es, r.k, r.b⟩
theorem cRule_mono (s : ByteArray) (rs : List RL) (m k : Nat) (b : Bool) (hk : k ≤ s.size) : k ≤ (cRule s rs m k b).k ∧ (cRule s rs m k b).k ≤ s.size ∧ (cRule s rs m k b).es.length + k ≤ (cRule s rs m k b).k := by
  have h1 := letK_ge s k b
  have h2 := takeK_ge s 58 (letK s k b) (letX s k b)
  have h3 := cE_mono s rs (s.size + 1) 0 m (takeK s 58 (letK s k b) (letX s k b)) (wantB s 58 (letK s k b) (letX s k b)) (takeK_le (by decide) (letK_le hk))
  simp only [cRule]
  omega
/-- A rule more. -/
theorem PM.pushR {w w4 : World} {base B s k b ev rv es rs} (h : PM w base B s k b ev rv es rs) {r : RL} {n g cap : Nat} (hn : n = rs.length) (hg : w.grownBy w4 rv.ownBlock) (hown : w4.ownsRow base 161 3 (.slice (some ⟨g, 0, none⟩) (n + 1) cap) (n + 1) (rlC rs ++ rlV r)) :
    PM (w4.setCell ⟨B, 4, none⟩ (.slice (some ⟨g, 0, none⟩) (n + 1) cap)) base B s k b ev (.slice (some ⟨g, 0, none⟩) (n + 1) cap) es (rs ++ [r]) := by
  subst hn
  have hb4 : w4.heap[B]? = some (.cells #[.string s, .int .i64 k, .bool b, ev, rv] 106 (0, 0)) := (hg.block B h.lt (fun e => owns_ne h.rl h.blk (by decide) e.symm)).trans h.blk
  have he4 : w4.ownsRow base 114 7 ev es.length (exC es) := h.ex.kept hg (owns_ne2 h.ex h.rl (by decide))
  have hi4 : ∀ (q : Value) (n : Nat) (xs : List Value), w.ownsRow base 167 7 q n xs → w4.ownsRow base 167 7 q n xs := fun q n xs hq => hq.kept hg (owns_ne2 hq h.rl (by decide))
  have e1 : rlC (rs ++ [r]) = rlC rs ++ rlV r := by simp [rlC]
  have e2 : (rs ++ [r]).length = rs.length + 1 := by simp
  refine ⟨blk5_set hb4, ownsRow_setCell_other he4 (owns_ne he4 hb4 (by decide)) _, ?_, fun p hp => ?_, h.hB⟩
  · rw [e1, e2]; exact ownsRow_setCell_other hown (owns_ne hown hb4 (by decide)) _
  · have := hi4 _ _ _ (h.it p hp)
    exact ownsRow_setCell_other this (owns_ne this hb4 (by decide)) _
theorem PM.pushRMv {w w4 : World} {base B s k b ev rv es rs} (h : PM w base B s k b ev rv es rs) {g n cap H : Nat} (hg : w.grownBy w4 rv.ownBlock) (hat : rv.ownBlock = some g ∨ g = H) (hH : w.heap.size ≤ H) :
    Mv base B ev rv ev (.slice (some ⟨g, 0, none⟩) n cap) w (w4.setCell ⟨B, 4, none⟩ (.slice (some ⟨g, 0, none⟩) n cap)) := by
  refine ⟨((Below.refl _ _).grown hg h.bs (fun q hq => (h.rl.lt q hq).1)).setCell h.hB _, fun x hx ho => ⟨?_, ho.1, ho.2.1, ?_⟩⟩
  · rw [heap_set_ne ho.1]
    exact hg.block x hx (fun e => ho.2.2 e.symm)
  · intro e
    simp [Value.ownBlock] at e
    subst e
    rcases hat with e | e
    · exact ho.2.2 e
    · omega
theorem PM.grown4 {w w9 : World} {base B s k b ev rv es rs} (h : PM w base B s k b ev rv es rs) {o : Obj} (hg : ((w.alloc o).drew).grownBy w9 rv.ownBlock) : w9.cell? ⟨B, 4, none⟩ = some rv ∧ w9.frozen? ⟨B, 4, none⟩ = false := by
  have h2 := (h.alloc o).drew
  have hb := (hg.block B h2.lt (fun e => owns_ne h2.rl h2.blk (by decide) e.symm)).trans h2.blk
  exact ⟨by simp [World.cell?, hb], by simp [World.frozen?, hb]⟩

attribute [local go_sem ↓] Go.wp_at_zero Go.wp_at_succ
attribute [local go_sem] alloc_drewN setCell_drewN
set_option maxRecDepth 100000 in
set_option maxHeartbeats 1600000 in
theorem rule_any (base B : Nat) (s : ByteArray) (k : Nat) (b : Bool) (ev rv : Value) (es : List (EX × Value)) (rs : List RL) (w : World) (hs : s.size ≤ 2000) (hk : k ≤ s.size) (hl : es.length ≤ k) (hrl : rs.length ≤ 2000) (h : PM w base B s k b ev rv es rs) (R : CU) (hR : Hid (cRule s rs es.length k b = R)) :
    Calls Tryz.prog 100 #[.pointer (some ⟨B, 0, none⟩)] w fun e w' =>
      e = .returned (.tuple #[]) ∧ ∃ ev' rv' new, new.map Prod.fst = R.es ∧ PM w' base B s R.k R.b ev' rv' (es ++ new) (rs ++ [R.rl]) ∧ Mv base B ev rv ev' rv' w w' := by
  obtain ⟨i0, hi0, hz0, hz1, hz2⟩ := info_parts Tryz.infoRule
  have H : Hid (PM w base B s k b ev rv es rs) := h
  clear h
  unfold cRule at hR
  go_enter Tryz.func100, Tryz.ntmps100
  go_wp2_with fail
  refine (letter_any base B s k b ev rv es rs _ hs hk H.out).mono ?_
  rintro e w1 ⟨rfl, hp, hm⟩
  have HP1 : Hid (PM w1 base B s (letK s k b) (letX s k b) ev rv es rs) := hp
  have HM1 : Hid (Mv base B ev rv ev rv w w1) := hm
  have hb0 := letK_ge s k b
  have hb1 := letK_le (b := b) hk
  clear hp hm
  generalize hk1 : letK s k b = k1 at *
  generalize hq1 : letX s k b = b1 at *
  generalize hna : skipF s k b = na at *
  generalize hnv : hereF s na b = nv at *
  have hb2 := takeK_ge s 58 k1 b1
  have hb3 : takeK s 58 k1 b1 ≤ s.size := takeK_le (by decide) hb1
  generalize hk2 : takeK s 58 k1 b1 = k2 at *
  generalize hq2 : wantB s 58 k1 b1 = b2 at *
  have hmo := cE_mono s rs (s.size + 1) 0 es.length k2 b2 hb3
  have hXX := expr_ok s rs base B hs hrl (s.size + 1) 0 k2 b2 ev rv es
  generalize hr : cE s rs (s.size + 1) 0 es.length k2 b2 = r at *
  have hxou := HP1.out.outNew
  have hbs1 := HP1.out.bs
  have HP2 : Hid (PM (w1.alloc (.cells #[.int .i64 nv, .int .i64 na] 111)) base B s k1 b1 ev rv es rs) := HP1.out.alloc _
  have HM2 : Hid (Mv base B ev rv ev rv w (w1.alloc (.cells #[.int .i64 nv, .int .i64 na] 111))) := HM1.out.trans (Mv.alloc hbs1 _)
  have HX2 : Hid ((w1.alloc (.cells #[.int .i64 nv, .int .i64 na] 111)).heap[w1.heap.size]? = some (.cells #[.int .i64 nv, .int .i64 na] 111 (0, 0))) := heap_alloc_new w1 _
  go_wp2_with fail
  refine (want_any base B s 58 k1 b1 ev rv es rs _ hs hb1 (by decide) HP2.out).mono ?_
  rintro e w3 ⟨rfl, hp, hm⟩
  rw [hk2, hq2] at hp
  have HP3 : Hid (PM w3 base B s k2 b2 ev rv es rs) := hp
  have HM3 : Hid (Mv base B ev rv ev rv w w3) := HM2.out.trans hm
  have HX3 : Hid (w3.heap[w1.heap.size]? = some (.cells #[.int .i64 nv, .int .i64 na] 111 (0, 0))) := (hm.kept _ (lt_of_block HX2.out) hxou).1.trans HX2.out
  clear hp hm
  go_wp2_with fail
  refine (hXX w3 hb3 (by omega) (by omega) (by omega) (.inr (by omega)) HP3.out).mono ?_
  rintro e w4 ⟨rfl, ev4, new, hnew, hp, hm, hfr⟩
  have HP4 : Hid (PM w4 base B s r.k r.b ev4 rv (es ++ new) rs) := hp
  have HM4 : Hid (Mv base B ev rv ev4 rv w w4) := HM3.out.trans hm
  have HX4 : Hid (w4.heap[w1.heap.size]? = some (.cells #[.int .i64 nv, .int .i64 na] 111 (0, 0))) := (hm.kept _ (lt_of_block HX3.out) hxou).1.trans HX3.out
  have HNW : Hid (new.map Prod.fst = r.es) := hnew
  clear hp hm hfr hnew
  have x0 : w4.cell? ⟨w1.heap.size, 0, none⟩ = some (.int .i64 nv) := by simp [World.cell?, HX4.out]
  have x1 : w4.cell? ⟨w1.heap.size, 1, none⟩ = some (.int .i64 na) := by simp [World.cell?, HX4.out]
  have c4 := HP4.out.c4
  have hB4 := HP4.out.lt
  have hX4 : w1.heap.size < w4.heap.size := lt_of_block HX4.out
  have z4 := HP4.out.fz 4
  have hbr := fun w => buildRl nv na r.idx w
  obtain ⟨n9, hn9⟩ : ∃ n9, n9 = rs.length := ⟨_, rfl⟩
  have HN9 : Hid (n9 = rs.length) := hn9
  have HE9 : Hid (w4.ownsRow base 161 3 rv n9 (rlC rs)) := by show World.ownsRow _ _ _ _ _ _ _; rw [hn9]; exact HP4.out.rl
  have hl9 : (n9 : Int) < 5000 := by rw [hn9]; omega
  clear hn9
  have hA1 : Hid (n9 + 1 ≤ maxLen) := by show _ ≤ _; unfold maxLen; omega
  have hA2 : Hid ((n9 + 1) * 24 ≤ 140737488355328) := by show _ ≤ _; omega
  have hA3 : Hid (∀ o : Obj, base ≤ (w4.alloc o).drew.heap.size) := fun o => by have := HP4.out.bs; show base ≤ (w4.alloc o).heap.size; simp; omega
  have hone : Hid (∀ u ∈ rlV ⟨nv, na, r.idx⟩, u.oneCell' = true) := fun u hu => by simp [rlV] at hu; rcases hu with rfl | rfl | rfl <;> rfl
  go_wp2_with fail
  go_region_law ((refine step_append_lies _ (by rfl) _ _ _ (by rfl) base 161 i0 _ 3 24 Tryz.underlying75 hi0 hz0 hz1 hz2 rfl (by decide) rv _ _ (by rfl) ((HE9.out.alloc _).drew) ⟨w4.heap.size, 0, none⟩ 1 1 (rlV ⟨nv, na, r.idx⟩) (by rfl) (by rfl) (World.news_of_block (cs := #[.int .i64 nv, .int .i64 na, .int .i64 r.idx]) (t := 161) (fr := (0, 0)) (heap_alloc_new w4 _)) hone.out (Nat.lt_succ_self 0) hA1.out hA2.out (hA3.out _) (w4.heap.size + 1) (by simp) ?_; intro g cap w9 hown hgrow hat hlt9; obtain ⟨y3, yz⟩ := HP4.out.grown4 hgrow))
  all_goals
    have HP9 : Hid (PM (w9.setCell ⟨B, 4, none⟩ (.slice (some ⟨g, 0, none⟩) (n9 + 1) cap)) base B s r.k r.b ev4 (.slice (some ⟨g, 0, none⟩) (n9 + 1) cap) (es ++ new) (rs ++ [⟨nv, na, r.idx⟩])) := ((HP4.out.alloc _).drew).pushR HN9.out hgrow hown
    have HM9 : Hid (Mv base B ev rv ev4 (.slice (some ⟨g, 0, none⟩) (n9 + 1) cap) w (w9.setCell ⟨B, 4, none⟩ (.slice (some ⟨g, 0, none⟩) (n9 + 1) cap))) := (HM4.out.trans (Mv.alloc HP4.out.bs _)).drew.trans (((HP4.out.alloc _).drew).pushRMv hgrow hat (by show (w4.alloc _).heap.size ≤ _; simp))
    clear hown hgrow hat
    go_wp2_with fail
    go_end0
    exact ⟨rfl, ev4, _, new, by rw [← hR.out]; exact HNW.out, by rw [← hR.out]; exact HP9.out, HM9.out⟩
end Go.Proofs.YtaebngpoagjafaaGreat
namespace Go.Proofs.YtaebngpoagjafaaGreat
open Go.RowKit

/-- What rules give. -/
structure CP where
  es : List EX
  rs : List RL
  k : Nat
  b : Bool
def cRules (s : ByteArray) : Nat → List RL → Nat → Nat → Bool → CP
  | 0, rs, _, k, b => ⟨[], rs, k, b⟩
  | n + 1, rs, m, k, b =>
    let r := cRule s rs m k b
    if takeB s 59 r.k r.b = true then
      let q := cRules s n (rs ++ [r.rl]) (m + r.es.length) (takeK s 59 r.k r.b) r.b
      ⟨r.es ++ q.es, q.rs, q.k, q.b⟩
    else ⟨r.es, rs ++ [r.rl], takeK s 59 r.k r.b, r.b⟩
/-- The whole text. -/
def cAll (s : ByteArray) : CP := cRules s (s.size + 1) [] 0 0 false

attribute [local go_sem ↓] Go.wp_at_zero Go.wp_at_succ
attribute [local go_sem] alloc_drewN setCell_drewN
set_option maxRecDepth 100000 in
set_option maxHeartbeats 1600000 in
theorem rules_any (base B : Nat) (s : ByteArray) (ev rv : Value) (w : World) (hs : s.size ≤ 2000) (h : PM w base B s 0 false ev rv [] []) (R : CP) (hR : Hid (cAll s = R)) :
    Calls Tryz.prog 59 #[.pointer (some ⟨B, 0, none⟩)] w fun e w' =>
      e = .returned (.tuple #[]) ∧ R.k ≤ s.size ∧ R.es.length ≤ s.size ∧ R.rs.length ≤ s.size + 1 ∧ ∃ ev' rv' es, es.map Prod.fst = R.es ∧ PM w' base B s R.k (R.b || decide (R.k < s.size)) ev' rv' es R.rs ∧ Mv base B ev rv ev' rv' w w' := by
  have H : Hid (PM w base B s 0 false ev rv [] []) := h
  clear h
  go_enter Tryz.func59, Tryz.ntmps59
  go_wp2_with fail
  go_loopg [2] (s.size + 2) (fun n mv wr => ∃ (f : Nat) (kj : Nat) (bj : Bool) (ev' rv' : Value) (es : List (EX × Value)) (rs : List RL), kj ≤ s.size ∧ es.length ≤ kj ∧ rs.length ≤ kj + 1 ∧
    ((mv = .bool true ∧ n = f + 1 ∧ s.size + 1 ≤ f + kj ∧ rs.length ≤ kj ∧ Hid (R = ⟨es.map Prod.fst ++ (cRules s f rs es.length kj bj).es, (cRules s f rs es.length kj bj).rs, (cRules s f rs es.length kj bj).k, (cRules s f rs es.length kj bj).b⟩)) ∨ (mv = .bool false ∧ n = 0 ∧ Hid (R = ⟨es.map Prod.fst, rs, kj, bj⟩))) ∧
    PM wr base B s kj bj ev' rv' es rs ∧ Mv base B ev rv ev' rv' w wr)
  case atStart =>
    refine ⟨s.size + 1, 0, false, ev, rv, [], [], Nat.zero_le _, by simp, by simp, .inl ⟨rfl, rfl, by omega, by simp, ?_⟩, H.out, Mv.refl _ _ _ _ _⟩
    show _ = _
    rw [← hR.out]
    rfl
  case round =>
    obtain ⟨f, kj, bj, ev', rv', es, rs, hkj, hel, hrl, hmode, hp, hm⟩ := hrel
    have HP : Hid (PM wr base B s kj bj ev' rv' es rs) := hp
    have HM : Hid (Mv base B ev rv ev' rv' w wr) := hm
    clear hp hm
    rcases hmode with ⟨rfl, hgk, hfk, hrk, HE⟩ | ⟨rfl, hgk, HE⟩
    · obtain ⟨f, rfl⟩ : ∃ f', f = f' + 1 := ⟨f - 1, by omega⟩
      have hmo := cRule_mono s rs es.length kj bj hkj
      generalize hr : cRule s rs es.length kj bj = r at *
      have HE2 : Hid (R = if takeB s 59 r.k r.b = true then ⟨es.map Prod.fst ++ (r.es ++ (cRules s f (rs ++ [r.rl]) (es.length + r.es.length) (takeK s 59 r.k r.b) r.b).es), (cRules s f (rs ++ [r.rl]) (es.length + r.es.length) (takeK s 59 r.k r.b) r.b).rs, (cRules s f (rs ++ [r.rl]) (es.length + r.es.length) (takeK s 59 r.k r.b) r.b).k, (cRules s f (rs ++ [r.rl]) (es.length + r.es.length) (takeK s 59 r.k r.b) r.b).b⟩ else ⟨es.map Prod.fst ++ r.es, rs ++ [r.rl], takeK s 59 r.k r.b, r.b⟩) := by
        show _ = _
        rw [HE.out]
        simp only [cRules, hr]
        split <;> rfl
      have HRR : Hid (cRule s rs es.length kj bj = r) := hr
      clear HE hr
      go_wp2_with fail
      refine (rule_any base B s kj bj ev' rv' es rs _ hs hkj hel (by omega) HP.out r HRR).mono ?_
      rintro e w2 ⟨rfl, ev2, rv2, new, hnew, hp2, hm2⟩
      have HP2 : Hid (PM w2 base B s r.k r.b ev2 rv2 (es ++ new) (rs ++ [r.rl])) := hp2
      have HM2 : Hid (Mv base B ev rv ev2 rv2 w w2) := HM.out.trans hm2
      have HNW : Hid ((es ++ new).map Prod.fst = es.map Prod.fst ++ r.es) := by show _ = _; rw [List.map_append, hnew]
      have hlen2 : Hid (new.length = r.es.length) := by show _ = _; rw [← hnew, List.length_map]
      clear hp2 hm2 hnew
      go_wp2_with fail
      refine (take_any base B s 59 r.k r.b ev2 rv2 _ _ _ hs hmo.2.1 (by decide) HP2.out).mono ?_
      rintro e w5 ⟨rfl, hp5, hm5⟩
      have HP5 : Hid (PM w5 base B s (takeK s 59 r.k r.b) r.b ev2 rv2 (es ++ new) (rs ++ [r.rl])) := hp5
      have HM5 : Hid (Mv base B ev rv ev2 rv2 w w5) := HM2.out.trans hm5
      have hl2 := hlen2.out
      have htg := takeK_ge s 59 r.k r.b
      have htl : takeK s 59 r.k r.b ≤ s.size := takeK_le (by decide) hmo.2.1
      clear hp5 hm5
      cases ht : takeB s 59 r.k r.b with
      | true =>
        have htk : r.k + 1 ≤ takeK s 59 r.k r.b := by
          unfold takeK; rw [if_pos ht]; have := skipF_ge s r.k r.b; omega
        have HE3 : Hid (R = ⟨(es ++ new).map Prod.fst ++ (cRules s f (rs ++ [r.rl]) (es ++ new).length (takeK s 59 r.k r.b) r.b).es, (cRules s f (rs ++ [r.rl]) (es ++ new).length (takeK s 59 r.k r.b) r.b).rs, (cRules s f (rs ++ [r.rl]) (es ++ new).length (takeK s 59 r.k r.b) r.b).k, (cRules s f (rs ++ [r.rl]) (es ++ new).length (takeK s 59 r.k r.b) r.b).b⟩) := by
          show _ = _
          have e3 : (es ++ new).length = es.length + r.es.length := by simp only [List.length_append]; omega
          rw [HE2.out, if_pos ht, e3, HNW.out, List.append_assoc]
        clear HE2 ht
        go_wp2_with fail
        go_roundg (f + 1)
        case measure => omega
        case rel => exact ⟨f, takeK s 59 r.k r.b, r.b, ev2, rv2, es ++ new, rs ++ [r.rl], htl, by simp only [List.length_append]; omega, by simp; omega, .inl ⟨rfl, rfl, by omega, by simp; omega, HE3⟩, HP5.out, HM5.out⟩
      | false =>
        have HE3 : Hid (R = ⟨(es ++ new).map Prod.fst, rs ++ [r.rl], takeK s 59 r.k r.b, r.b⟩) := by
          show _ = _
          rw [HE2.out, if_neg (by rw [ht]; decide), HNW.out]
        clear HE2 ht
        go_wp2_with fail
        go_roundg 0
        case measure => omega
        case rel => exact ⟨0, takeK s 59 r.k r.b, r.b, ev2, rv2, es ++ new, rs ++ [r.rl], htl, by simp only [List.length_append]; omega, by simp; omega, .inr ⟨rfl, rfl, HE3⟩, HP5.out, HM5.out⟩
    · have c0 := HP.out.c0
      have c1 := HP.out.c1
      have c2 := HP.out.c2
      have z2 := HP.out.fz 2
      by_cases hlt : kj < s.size
      · have hlt' : (kj : Int) < (s.size : Int) := by omega
        have HB : Hid ((bj || decide (kj < s.size)) = true) := by show _ = _; rw [decide_eq_true hlt, Bool.or_true]
        go_wp2_with fail
        go_quiet (fail)
        go_wp2_with fail
        go_end0
        refine ⟨rfl, by rw [HE.out]; exact hkj, by rw [HE.out]; simp; omega, by rw [HE.out]; show rs.length ≤ _; omega, ev', rv', es, by rw [HE.out], ?_, (HM.out.drewN _).trans ((HP.out.drewN _).setMv 2 _)⟩
        rw [HE.out]
        simp only [HB.out]
        exact (HP.out.drewN _).bad true
      · have hlt' : ¬ (kj : Int) < (s.size : Int) := by omega
        have HB : Hid ((bj || decide (kj < s.size)) = bj) := by show _ = _; rw [decide_eq_false hlt, Bool.or_false]
        go_wp2_with fail
        go_quiet (fail)
        go_wp2_with fail
        go_end0
        refine ⟨rfl, by rw [HE.out]; exact hkj, by rw [HE.out]; simp; omega, by rw [HE.out]; show rs.length ≤ _; omega, ev', rv', es, by rw [HE.out], ?_, HM.out.drewN _⟩
        rw [HE.out]
        simp only [HB.out]
        exact HP.out.drewN _
end Go.Proofs.YtaebngpoagjafaaGreat
namespace Go.Proofs.YtaebngpoagjafaaGreat
open Go.RowKit

/-- The fault in memory. -/
def FM (w : World) (F : Nat) (f : Int × Int) : Prop := w.heap[F]? = some (.cells #[.int .i64 f.1, .int .i64 f.2] 108 (0, 0))
/-- What a call of the fault's turns: its own block, new blocks. -/
structure FK (F : Nat) (w w' : World) : Prop where
  bel : Below F w w'
  kept : ∀ b, b < w.heap.size → b ≠ F → w'.heap[b]? = w.heap[b]?
theorem FK.refl (F : Nat) (w : World) : FK F w w := ⟨Below.refl _ _, fun _ _ _ => rfl⟩
theorem FK.trans {F : Nat} {w w1 w2 : World} (h : FK F w w1) (k : FK F w1 w2) : FK F w w2 := ⟨h.bel.trans k.bel, fun b hb hne => (k.kept b (Nat.lt_of_lt_of_le hb h.bel.size) hne).trans (h.kept b hb hne)⟩
theorem FK.drewN {F : Nat} {w w1 : World} (h : FK F w w1) (n : Nat) : FK F w (w1.drewN n) := ⟨below_drewN h.bel n, h.kept⟩
theorem FK.drew {F : Nat} {w w1 : World} (h : FK F w w1) : FK F w w1.drew := ⟨h.bel.drew, h.kept⟩
theorem FK.alloc {F : Nat} {w w1 : World} (h : FK F w w1) (hF : F ≤ w1.heap.size) (o : Obj) : FK F w (w1.alloc o) := ⟨h.bel.alloc hF o, fun b hb hne => (Below.heap_alloc _ _ _ (Nat.lt_of_lt_of_le hb h.bel.size)).trans (h.kept b hb hne)⟩
theorem FK.set {F : Nat} {w w1 : World} (h : FK F w w1) (j : Nat) (u : Value) : FK F w (w1.setCell ⟨F, j, none⟩ u) := ⟨h.bel.setCell (Nat.le_refl _) u, fun b hb hne => (heap_set_ne hne).trans (h.kept b hb hne)⟩
theorem FK.below {F : Nat} {w w1 : World} (h : Below w.heap.size w w1) (hF : F ≤ w.heap.size) : FK F w w1 := ⟨h.mono hF, fun b hb _ => h.block b hb⟩
theorem FM.lt {w : World} {F : Nat} {f : Int × Int} (h : FM w F f) : F < w.heap.size := lt_of_block h
theorem FM.alloc {w : World} {F : Nat} {f : Int × Int} (h : FM w F f) (o : Obj) : FM (w.alloc o) F f := (Below.heap_alloc _ _ _ h.lt).trans h
theorem FM.c0 {w : World} {F : Nat} {f : Int × Int} (h : FM w F f) : w.cell? ⟨F, 0, none⟩ = some (.int .i64 f.1) := by unfold FM at h; simp [World.cell?, h]
theorem FM.c1 {w : World} {F : Nat} {f : Int × Int} (h : FM w F f) : w.cell? ⟨F, 1, none⟩ = some (.int .i64 f.2) := by unfold FM at h; simp [World.cell?, h]
theorem FM.fz {w : World} {F : Nat} {f : Int × Int} (h : FM w F f) (j : Nat) : w.frozen? ⟨F, j, none⟩ = false := by unfold FM at h; simp [World.frozen?, h]

/-- An error at a place is found. -/
def fnd (f : Int × Int) (e a : Int) : Int × Int := if f.1 = 0 ∨ a < f.2 ∨ (a = f.2 ∧ e < f.1) then (e, a) else f
def fnum (f : Int × Int) (v a lo hi : Int) : Int × Int := if v < lo ∨ hi < v then fnd f 6 a else f

attribute [local go_sem ↓] Go.wp_at_zero Go.wp_at_succ
attribute [local go_sem] alloc_drewN setCell_drewN
set_option maxRecDepth 100000 in
set_option maxHeartbeats 400000 in
theorem found_any (F : Nat) (f : Int × Int) (e a : Int) (w : World) (h : FM w F f) (f' : Int × Int) (hf : Hid (fnd f e a = f')) :
    Calls Tryz.prog 103 #[.pointer (some ⟨F, 0, none⟩), .int .i64 e, .int .i64 a] w fun x w' => x = .returned (.tuple #[]) ∧ FM w' F f' ∧ FK F w w' := by
  have c0 := h.c0
  have c1 := h.c1
  have z0 := h.fz 0
  have z1 := h.fz 1
  have H : Hid (FM w F f) := h
  clear h
  obtain ⟨fe, fa⟩ := f
  simp only at c0 c1
  have HS0 : Hid (FM ((w.setCell ⟨F, 0, none⟩ (.int .i64 e)).setCell ⟨F, 1, none⟩ (.int .i64 a)) F (e, a)) := by
    have h0 := H.out
    unfold FM at h0
    show _ = _
    simp [World.setCell, Array.getElem?_modify, h0]
  by_cases h1 : fe = 0
  · have h1' : (fe == 0) = true := by simp [h1]
    have HF : Hid (f' = (e, a)) := by show _ = _; rw [← hf.out]; unfold fnd; rw [if_pos (.inl h1)]
    clear h1
    go_enter Tryz.func103, Tryz.ntmps103
    go_wp2_with fail
    go_end0
    exact ⟨rfl, by rw [HF.out]; exact HS0.out, ((FK.refl _ _).set _ _).set _ _⟩
  have h1' : (fe == 0) = false := by simp [h1]
  by_cases h2 : a < fa
  · have HF : Hid (f' = (e, a)) := by show _ = _; rw [← hf.out]; unfold fnd; rw [if_pos (.inr (.inl h2))]
    clear h1
    go_enter Tryz.func103, Tryz.ntmps103
    go_wp2_with fail
    go_end0
    exact ⟨rfl, by rw [HF.out]; exact HS0.out, ((FK.refl _ _).set _ _).set _ _⟩
  by_cases h3 : a = fa
  · have h3' : (a == fa) = true := by simp [h3]
    by_cases h4 : e < fe
    · have HF : Hid (f' = (e, a)) := by show _ = _; rw [← hf.out]; unfold fnd; rw [if_pos (.inr (.inr ⟨h3, h4⟩))]
      clear h1 h3
      go_enter Tryz.func103, Tryz.ntmps103
      go_wp2_with fail
      go_end0
      exact ⟨rfl, by rw [HF.out]; exact HS0.out, ((FK.refl _ _).set _ _).set _ _⟩
    · have HF : Hid (f' = (fe, fa)) := by show _ = _; rw [← hf.out]; unfold fnd; rw [if_neg (fun h => h.elim h1 (fun h => h.elim h2 (fun h => h4 h.2)))]
      clear h1 h3
      go_enter Tryz.func103, Tryz.ntmps103
      go_wp2_with fail
      go_end0
      exact ⟨rfl, by rw [HF.out]; exact H.out, FK.refl _ _⟩
  · have h3' : (a == fa) = false := by simp [h3]
    have HF : Hid (f' = (fe, fa)) := by show _ = _; rw [← hf.out]; unfold fnd; rw [if_neg (fun h => h.elim h1 (fun h => h.elim h2 (fun h => h3 h.1)))]
    clear h1 h3
    go_enter Tryz.func103, Tryz.ntmps103
    go_wp2_with fail
    go_end0
    exact ⟨rfl, by rw [HF.out]; exact H.out, FK.refl _ _⟩

set_option maxRecDepth 100000 in
set_option maxHeartbeats 400000 in
theorem numberF_any (F : Nat) (f : Int × Int) (v a lo hi : Int) (w : World) (h : FM w F f) (f' : Int × Int) (hf : Hid (fnum f v a lo hi = f')) :
    Calls Tryz.prog 146 #[.pointer (some ⟨F, 0, none⟩), .agg #[.int .i64 v, .int .i64 a], .int .i64 lo, .int .i64 hi] w fun x w' => x = .returned (.tuple #[]) ∧ FM w' F f' ∧ FK F w w' := by
  have H : Hid (FM (w.alloc (.cells #[.int .i64 v, .int .i64 a] 111)) F f) := h.alloc _
  have HK : Hid (FK F w (w.alloc (.cells #[.int .i64 v, .int .i64 a] 111))) := (FK.refl _ _).alloc (Nat.le_of_lt h.lt) _
  clear h
  by_cases h1 : v < lo
  · have HF : Hid (fnd f 6 a = f') := by show _ = _; rw [← hf.out]; unfold fnum; rw [if_pos (.inl h1)]
    go_enter Tryz.func146, Tryz.ntmps146
    go_wp2_with fail
    refine (found_any F f 6 a _ H.out f' HF).mono ?_
    rintro x w2 ⟨rfl, h2, k2⟩
    go_wp2_with fail
    go_end0
    exact ⟨rfl, h2, HK.out.trans k2⟩
  by_cases h2 : hi < v
  · have HF : Hid (fnd f 6 a = f') := by show _ = _; rw [← hf.out]; unfold fnum; rw [if_pos (.inr h2)]
    go_enter Tryz.func146, Tryz.ntmps146
    go_wp2_with fail
    refine (found_any F f 6 a _ H.out f' HF).mono ?_
    rintro x w2 ⟨rfl, h2, k2⟩
    go_wp2_with fail
    go_end0
    exact ⟨rfl, h2, HK.out.trans k2⟩
  have HF : Hid (f = f') := by show _ = _; rw [← hf.out]; unfold fnum; rw [if_neg (fun h => h.elim h1 h2)]
  go_enter Tryz.func146, Tryz.ntmps146
  go_wp2_with fail
  go_end0
  exact ⟨rfl, by rw [← HF.out]; exact H.out, HK.out⟩

/-- A slice of items. -/
def IV (w : World) (v : Value) (l : List IM) : Prop := (v = .slice none 0 0 ∧ l = []) ∨ ∃ g cap, v = .slice (some ⟨g, 0, none⟩) l.length cap ∧ l.length ≤ cap ∧ ∀ i x, l[i]? = some x → w.cell? ⟨g, i * 7, none⟩ = some (.int .i64 x.at_) ∧ w.cell? ⟨g, i * 7 + 1, none⟩ = some (.int .i64 x.num) ∧ w.cell? ⟨g, i * 7 + 2, none⟩ = some (.int .i64 x.pv) ∧ w.cell? ⟨g, i * 7 + 3, none⟩ = some (.int .i64 x.pl) ∧ w.cell? ⟨g, i * 7 + 4, none⟩ = some (.int .i64 x.wv) ∧ w.cell? ⟨g, i * 7 + 5, none⟩ = some (.int .i64 x.wa) ∧ w.cell? ⟨g, i * 7 + 6, none⟩ = some (.int .i64 x.arm)
def sameI (y x : IM) : Bool := (y.num == x.num) && (y.pv == x.pv) && (y.pl == x.pl)
def imA (x : IM) : Value := .agg #[.int .i64 x.at_, .int .i64 x.num, .int .i64 x.pv, .int .i64 x.pl, .int .i64 x.wv, .int .i64 x.wa, .int .i64 x.arm]

set_option maxRecDepth 100000 in
set_option maxHeartbeats 800000 in
theorem isIn_any (v : Value) (x : IM) (l : List IM) (w : World) (hl : l.length ≤ 100000) (h : IV w v l) :
    Calls Tryz.prog 147 #[v, .agg #[.int .i64 x.at_, .int .i64 x.num, .int .i64 x.pv, .int .i64 x.pl, .int .i64 x.wv, .int .i64 x.wa, .int .i64 x.arm]] w fun e w' => Below w.heap.size w w' ∧ e = .returned (.bool (l.any (fun y => sameI y x))) := by
  have hloop : ∀ (i : Nat), i < l.length → ∃ r, l[i]? = some r := fun i hi => ⟨l[i], List.getElem?_eq_getElem hi⟩
  have HB0 : Hid (Below w.heap.size w (w.alloc (.cells #[.int .i64 x.at_, .int .i64 x.num, .int .i64 x.pv, .int .i64 x.pl, .int .i64 x.wv, .int .i64 x.wa, .int .i64 x.arm] 167))) := (Below.refl _ _).alloc (Nat.le_refl _) _
  have HX0 : Hid ((w.alloc (.cells #[.int .i64 x.at_, .int .i64 x.num, .int .i64 x.pv, .int .i64 x.pl, .int .i64 x.wv, .int .i64 x.wa, .int .i64 x.arm] 167)).heap[w.heap.size]? = some (.cells #[.int .i64 x.at_, .int .i64 x.num, .int .i64 x.pv, .int .i64 x.pl, .int .i64 x.wv, .int .i64 x.wa, .int .i64 x.arm] 167 (0, 0))) := heap_alloc_new w _
  rcases h with ⟨rfl, rfl⟩ | ⟨g, cap, rfl, hcl, hc⟩
  · go_enter Tryz.func147, Tryz.ntmps147
    go_wp2_with fail
    go_loopg [9] 1 (fun n y wr => y = .int .i64 0 ∧ wr = w.alloc (.cells #[.int .i64 x.at_, .int .i64 x.num, .int .i64 x.pv, .int .i64 x.pl, .int .i64 x.wv, .int .i64 x.wa, .int .i64 x.arm] 167))
    case atStart => exact ⟨rfl, rfl⟩
    case round =>
      obtain ⟨rfl, rfl⟩ := hrel
      go_wp2_with fail
      go_ret
      exact ⟨HB0.out, rfl⟩
  · have hgl : ∀ i y, l[i]? = some y → g < w.heap.size := fun i y hy => World.block_lt_of_cell? w ⟨g, i * 7, none⟩ (hc i y hy).1
    go_enter Tryz.func147, Tryz.ntmps147
    go_wp2_with fail
    go_loopg [9] l.length (fun n y wr => ∃ (j : Nat), n + j = l.length ∧ y = .int .i64 j ∧ Hid ((l.take j).any (fun y => sameI y x) = false) ∧ Below w.heap.size w wr ∧ wr.heap[w.heap.size]? = some (.cells #[.int .i64 x.at_, .int .i64 x.num, .int .i64 x.pv, .int .i64 x.pl, .int .i64 x.wv, .int .i64 x.wa, .int .i64 x.arm] 167 (0, 0)))
    case atStart => exact ⟨0, by omega, rfl, by show _ = _; simp, HB0.out, HX0.out⟩
    case round =>
      obtain ⟨j, hn, rfl, HN, hb, hx⟩ := hrel
      have HB : Hid (Below w.heap.size w wr) := hb
      have HX : Hid (wr.heap[w.heap.size]? = some (.cells #[.int .i64 x.at_, .int .i64 x.num, .int .i64 x.pv, .int .i64 x.pl, .int .i64 x.wv, .int .i64 x.wa, .int .i64 x.arm] 167 (0, 0))) := hx
      have hws : w.heap.size < wr.heap.size := lt_of_block hx
      clear hb hx
      by_cases hlt : j < l.length
      · obtain ⟨y, hy⟩ := hloop j hlt
        have hj0 : (0 : Int) ≤ (j : Int) := by omega
        have hj1 : (j : Int) < (l.length : Int) := by omega
        obtain ⟨r0, r1, r2, r3, r4, r5, r6⟩ := hc j y hy
        have g0 := below_some HB.out r0
        have g1 := below_some HB.out r1
        have g2 := below_some HB.out r2
        have g3 := below_some HB.out r3
        have g4 := below_some HB.out r4
        have g5 := below_some HB.out r5
        have g6 := below_some HB.out r6
        have hgw := hgl j y hy
        have x1 : wr.cell? ⟨w.heap.size, 1, none⟩ = some (.int .i64 x.num) := by simp [World.cell?, HX.out]
        have x2 : wr.cell? ⟨w.heap.size, 2, none⟩ = some (.int .i64 x.pv) := by simp [World.cell?, HX.out]
        have x3 : wr.cell? ⟨w.heap.size, 3, none⟩ = some (.int .i64 x.pl) := by simp [World.cell?, HX.out]
        have HD : Hid ((l.take (j + 1)).any (fun y => sameI y x) = sameI y x) := by
          show _ = _
          rw [List.take_add_one, hy, List.any_append, HN.out]
          simp
        have HA : Hid (sameI y x = true → l.any (fun y => sameI y x) = true) := fun h => List.any_eq_true.2 ⟨y, List.mem_of_getElem? hy, h⟩
        have HB2 : Hid (∀ o, Below w.heap.size w (wr.alloc o)) := fun o => HB.out.alloc (Nat.le_of_lt hws) o
        have HX2 : Hid (∀ o, (wr.alloc o).heap[w.heap.size]? = some (.cells #[.int .i64 x.at_, .int .i64 x.num, .int .i64 x.pv, .int .i64 x.pl, .int .i64 x.wv, .int .i64 x.wa, .int .i64 x.arm] 167 (0, 0))) := fun o => (Below.heap_alloc _ _ _ hws).trans HX.out
        have HS : Hid (sameI y x = ((y.num == x.num) && (y.pv == x.pv) && (y.pl == x.pl))) := rfl
        clear r0 r1 r2 r3 r4 r5 r6 hy hc hloop hgl
        cases e1 : (y.num == x.num) with
        | false =>
          have HZ : Hid (sameI y x = false) := by show _ = _; rw [HS.out, e1]; rfl
          go_wp2_with fail
          go_roundg (gk - 1)
          case measure => omega
          case rel => exact ⟨j + 1, by omega, by go_num, by show _ = _; rw [HD.out, HZ.out], HB2.out _, HX2.out _⟩
        | true =>
          cases e2 : (y.pv == x.pv) with
          | false =>
            have HZ : Hid (sameI y x = false) := by show _ = _; rw [HS.out, e1, e2]; rfl
            go_wp2_with fail
            go_roundg (gk - 1)
            case measure => omega
            case rel => exact ⟨j + 1, by omega, by go_num, by show _ = _; rw [HD.out, HZ.out], HB2.out _, HX2.out _⟩
          | true =>
            cases e3 : (y.pl == x.pl) with
            | false =>
              have HZ : Hid (sameI y x = false) := by show _ = _; rw [HS.out, e1, e2, e3]; rfl
              go_wp2_with fail
              go_roundg (gk - 1)
              case measure => omega
              case rel => exact ⟨j + 1, by omega, by go_num, by show _ = _; rw [HD.out, HZ.out], HB2.out _, HX2.out _⟩
            | true =>
              have HZ : Hid (l.any (fun y => sameI y x) = true) := HA.out (by rw [HS.out, e1, e2, e3]; rfl)
              go_wp2_with fail
              go_ret
              exact ⟨HB2.out _, by rw [HZ.out]; rfl⟩
      · have hd : ¬ ((j : Int) < (l.length : Int)) := by omega
        have hd2 : ((l.length : Int)) ≤ (j : Int) := by omega
        have HD : Hid (l.any (fun y => sameI y x) = false) := by show _ = _; have := HN.out; rwa [List.take_of_length_le (by omega)] at this
        go_wp2_with fail
        go_ret
        exact ⟨HB.out, by rw [HD.out]; rfl⟩
end Go.Proofs.YtaebngpoagjafaaGreat
namespace Go.Proofs.YtaebngpoagjafaaGreat
open Go.RowKit

def fItem (c : Int) (x : IM) (f : Int × Int) : Int × Int :=
  if c = 123 ∨ c = 102 then fnum f x.num x.at_ 0 63
  else if c = 119 then fnum (fnum f x.num x.at_ 0 63) x.wv x.wa 1 1000
  else if c = 103 then fnum f x.num x.at_ 0 99
  else f
def fExpr (e : EX) (f : Int × Int) : Int × Int :=
  let f1 := if 12 ≤ e.depth then fnd f 3 e.at_ else f
  if e.kind = 116 then fnum f1 e.nv e.na 1 86400
  else if e.kind = 64 then fnum f1 e.nv e.na 0 15
  else if e.kind = 61 then (if e.inner = -1 then fnd f1 5 e.na else f1)
  else f1

attribute [local go_sem ↓] Go.wp_at_zero Go.wp_at_succ
attribute [local go_sem] alloc_drewN setCell_drewN
set_option maxRecDepth 100000 in
set_option maxHeartbeats 800000 in
theorem itemF_any (F : Nat) (f : Int × Int) (c : Int) (x : IM) (w : World) (h : FM w F f) (f' : Int × Int) (hf : Hid (fItem c x f = f')) :
    Calls Tryz.prog 148 #[.pointer (some ⟨F, 0, none⟩), .int .u8 c, .agg #[.int .i64 x.at_, .int .i64 x.num, .int .i64 x.pv, .int .i64 x.pl, .int .i64 x.wv, .int .i64 x.wa, .int .i64 x.arm]] w fun e w' => e = .returned (.tuple #[]) ∧ FM w' F f' ∧ FK F w w' := by
  have H : Hid (FM ((w.alloc (.cells #[.int .i64 x.at_, .int .i64 x.num, .int .i64 x.pv, .int .i64 x.pl, .int .i64 x.wv, .int .i64 x.wa, .int .i64 x.arm] 167)).alloc (.cells #[.int .i64 x.num, .int .i64 x.at_] 111)) F f) := (h.alloc _).alloc _
  have HK : Hid (FK F w ((w.alloc (.cells #[.int .i64 x.at_, .int .i64 x.num, .int .i64 x.pv, .int .i64 x.pl, .int .i64 x.wv, .int .i64 x.wa, .int .i64 x.arm] 167)).alloc (.cells #[.int .i64 x.num, .int .i64 x.at_] 111))) := ((FK.refl _ _).alloc (Nat.le_of_lt h.lt) _).alloc (by have := h.lt; simp; omega) _
  have hbn := fun w => buildNum2 x.num x.at_ w
  have hFl := h.lt
  have hFn : w.heap.size ≠ F := by omega
  have HX : Hid (((w.alloc (.cells #[.int .i64 x.at_, .int .i64 x.num, .int .i64 x.pv, .int .i64 x.pl, .int .i64 x.wv, .int .i64 x.wa, .int .i64 x.arm] 167)).alloc (.cells #[.int .i64 x.num, .int .i64 x.at_] 111)).heap[w.heap.size]? = some (.cells #[.int .i64 x.at_, .int .i64 x.num, .int .i64 x.pv, .int .i64 x.pl, .int .i64 x.wv, .int .i64 x.wa, .int .i64 x.arm] 167 (0, 0))) := (Below.heap_alloc _ _ _ (by simp)).trans (heap_alloc_new w _)
  clear h
  by_cases h1 : c = 123
  · subst h1
    have HF : Hid (fnum f x.num x.at_ 0 63 = f') := hf
    go_enter Tryz.func148, Tryz.ntmps148
    go_wp2_with fail
    refine (numberF_any F f x.num x.at_ 0 63 _ H.out f' HF).mono ?_
    rintro e w2 ⟨rfl, h2, k2⟩
    go_wp2_with fail
    go_end0
    exact ⟨rfl, h2, HK.out.trans k2⟩
  by_cases h2 : c = 102
  · subst h2
    have HF : Hid (fnum f x.num x.at_ 0 63 = f') := hf
    go_enter Tryz.func148, Tryz.ntmps148
    go_wp2_with fail
    refine (numberF_any F f x.num x.at_ 0 63 _ H.out f' HF).mono ?_
    rintro e w2 ⟨rfl, h2, k2⟩
    go_wp2_with fail
    go_end0
    exact ⟨rfl, h2, HK.out.trans k2⟩
  by_cases h3 : c = 103
  · subst h3
    have HF : Hid (fnum f x.num x.at_ 0 99 = f') := hf
    go_enter Tryz.func148, Tryz.ntmps148
    go_wp2_with fail
    refine (numberF_any F f x.num x.at_ 0 99 _ H.out f' HF).mono ?_
    rintro e w2 ⟨rfl, h2, k2⟩
    go_wp2_with fail
    go_end0
    exact ⟨rfl, h2, HK.out.trans k2⟩
  by_cases h4 : c = 119
  · subst h4
    have HF : Hid (fnum (fnum f x.num x.at_ 0 63) x.wv x.wa 1 1000 = f') := hf
    go_enter Tryz.func148, Tryz.ntmps148
    go_wp2_with fail
    refine (numberF_any F f x.num x.at_ 0 63 _ H.out _ rfl).mono ?_
    rintro e w2 ⟨rfl, h2, k2⟩
    have H2 : Hid (FM w2 F (fnum f x.num x.at_ 0 63)) := h2
    have K2 : Hid (FK F w w2) := HK.out.trans k2
    have hx2 := (k2.kept w.heap.size (by simp; omega) hFn).trans HX.out
    have x4 : w2.cell? ⟨w.heap.size, 4, none⟩ = some (.int .i64 x.wv) := by simp [World.cell?, hx2]
    have x5 : w2.cell? ⟨w.heap.size, 5, none⟩ = some (.int .i64 x.wa) := by simp [World.cell?, hx2]
    clear h2 k2 hx2
    go_wp2_with fail
    refine (numberF_any F _ x.wv x.wa 1 1000 _ H2.out f' HF).mono ?_
    rintro e w3 ⟨rfl, h3, k3⟩
    go_wp2_with fail
    go_end0
    exact ⟨rfl, h3, K2.out.trans k3⟩
  have e1 : (c == 123) = false := by simp [h1]
  have e2 : (c == 102) = false := by simp [h2]
  have e3 : (c == 103) = false := by simp [h3]
  have e4 : (c == 119) = false := by simp [h4]
  have HF : Hid (f = f') := by show _ = _; rw [← hf.out]; simp [fItem, h1, h2, h3, h4]
  clear h1 h2 h3 h4
  go_enter Tryz.func148, Tryz.ntmps148
  go_wp2_with fail
  go_end0
  exact ⟨rfl, by rw [← HF.out]; exact H.out, HK.out⟩

set_option maxRecDepth 100000 in
set_option maxHeartbeats 800000 in
theorem exprF_any (F : Nat) (f : Int × Int) (e : EX) (vo : Option Addr) (vm vc : Nat) (w : World) (h : FM w F f) (f' : Int × Int) (hf : Hid (fExpr e f = f')) :
    Calls Tryz.prog 104 #[.pointer (some ⟨F, 0, none⟩), .agg #[.int .u8 e.kind, .int .i64 e.at_, .int .i64 e.depth, .int .i64 e.nv, .int .i64 e.na, .slice vo vm vc, .int .i64 e.inner]] w fun r w' => r = .returned (.tuple #[]) ∧ FM w' F f' ∧ FK F w w' := by
  have H : Hid (FM (w.alloc (.cells #[.int .u8 e.kind, .int .i64 e.at_, .int .i64 e.depth, .int .i64 e.nv, .int .i64 e.na, .slice vo vm vc, .int .i64 e.inner] 114)) F f) := h.alloc _
  have HK : Hid (FK F w (w.alloc (.cells #[.int .u8 e.kind, .int .i64 e.at_, .int .i64 e.depth, .int .i64 e.nv, .int .i64 e.na, .slice vo vm vc, .int .i64 e.inner] 114))) := (FK.refl _ _).alloc (Nat.le_of_lt h.lt) _
  have HX : Hid ((w.alloc (.cells #[.int .u8 e.kind, .int .i64 e.at_, .int .i64 e.depth, .int .i64 e.nv, .int .i64 e.na, .slice vo vm vc, .int .i64 e.inner] 114)).heap[w.heap.size]? = some (.cells #[.int .u8 e.kind, .int .i64 e.at_, .int .i64 e.depth, .int .i64 e.nv, .int .i64 e.na, .slice vo vm vc, .int .i64 e.inner] 114 (0, 0))) := heap_alloc_new w _
  have hFl := h.lt
  have hFn : w.heap.size ≠ F := by omega
  clear h
  by_cases hd : 12 ≤ e.depth
  · obtain ⟨f1, hf0⟩ : ∃ f1, fnd f 3 e.at_ = f1 := ⟨_, rfl⟩
    have hf1 : Hid ((if e.kind = 116 then fnum f1 e.nv e.na 1 86400 else if e.kind = 64 then fnum f1 e.nv e.na 0 15 else if e.kind = 61 then (if e.inner = -1 then fnd f1 5 e.na else f1) else f1) = f') := by show _ = _; rw [← hf.out, ← hf0]; simp [fExpr, hd]
    have HF0 : Hid (fnd f 3 e.at_ = f1) := hf0
    clear hf0
    go_enter Tryz.func104, Tryz.ntmps104
    go_wp2_with fail
    refine (found_any F f 3 e.at_ _ H.out f1 HF0).mono ?_
    rintro r w2 ⟨rfl, h2, k2⟩
    have H2 : Hid (FM w2 F f1) := h2
    have K2 : Hid (FK F w w2) := HK.out.trans k2
    have hx2 := (k2.kept w.heap.size (by simp) hFn).trans HX.out
    clear h2 k2
    have x0 : w2.cell? ⟨w.heap.size, 0, none⟩ = some (.int .u8 e.kind) := by simp [World.cell?, hx2]
    have x3 : w2.cell? ⟨w.heap.size, 3, none⟩ = some (.int .i64 e.nv) := by simp [World.cell?, hx2]
    have x4 : w2.cell? ⟨w.heap.size, 4, none⟩ = some (.int .i64 e.na) := by simp [World.cell?, hx2]
    have x6 : w2.cell? ⟨w.heap.size, 6, none⟩ = some (.int .i64 e.inner) := by simp [World.cell?, hx2]
    clear hx2
    by_cases k116 : e.kind = 116
    · have HF : Hid (fnum f1 e.nv e.na 1 86400 = f') := by show _ = _; rw [← hf1.out]; simp [k116]
      have e1 : (e.kind == 116) = true := by simp [k116]
      have e2 : (e.kind == 64) = false := by simp [k116]
      clear k116
      go_wp2_with fail
      refine (numberF_any F f1 e.nv e.na 1 86400 _ H2.out f' HF).mono ?_
      rintro r w3 ⟨rfl, h3, k3⟩
      go_wp2_with fail
      go_end0
      exact ⟨rfl, h3, K2.out.trans k3⟩
    by_cases k64 : e.kind = 64
    · have HF : Hid (fnum f1 e.nv e.na 0 15 = f') := by show _ = _; rw [← hf1.out]; simp [k64]
      have e1 : (e.kind == 116) = false := by simp [k64]
      have e2 : (e.kind == 64) = true := by simp [k64]
      clear k64
      go_wp2_with fail
      refine (numberF_any F f1 e.nv e.na 0 15 _ H2.out f' HF).mono ?_
      rintro r w3 ⟨rfl, h3, k3⟩
      go_wp2_with fail
      go_end0
      exact ⟨rfl, h3, K2.out.trans k3⟩
    by_cases k61 : e.kind = 61
    · have e1 : (e.kind == 116) = false := by simp [k61]
      have e2 : (e.kind == 64) = false := by simp [k61]
      have e3 : (e.kind == 61) = true := by simp [k61]
      by_cases hi : e.inner = -1
      · have HF : Hid (fnd f1 5 e.na = f') := by show _ = _; rw [← hf1.out]; simp [k61, hi]
        have e4 : (e.inner == -1) = true := by simp [hi]
        clear hi k61
        go_wp2_with fail
        refine (found_any F f1 5 e.na _ H2.out f' HF).mono ?_
        rintro r w3 ⟨rfl, h3, k3⟩
        go_wp2_with fail
        go_end0
        exact ⟨rfl, h3, K2.out.trans k3⟩
      · have HF : Hid (f1 = f') := by show _ = _; rw [← hf1.out]; simp [k61, hi]
        have e4 : (e.inner == -1) = false := by simp [hi]
        clear hi k61
        go_wp2_with fail
        go_end0
        exact ⟨rfl, by rw [← HF.out]; exact H2.out, K2.out⟩
    have e1 : (e.kind == 116) = false := by simp [k116]
    have e2 : (e.kind == 64) = false := by simp [k64]
    have e3 : (e.kind == 61) = false := by simp [k61]
    have HF : Hid (f1 = f') := by show _ = _; rw [← hf1.out]; simp [k61, k64, k116]
    clear k61 k64 k116
    go_wp2_with fail
    go_end0
    exact ⟨rfl, by rw [← HF.out]; exact H2.out, K2.out⟩
  · have hd2 : e.depth < 12 := by omega
    have hf1 : Hid ((if e.kind = 116 then fnum f e.nv e.na 1 86400 else if e.kind = 64 then fnum f e.nv e.na 0 15 else if e.kind = 61 then (if e.inner = -1 then fnd f 5 e.na else f) else f) = f') := by show _ = _; rw [← hf.out]; simp [fExpr, hd]
    by_cases k116 : e.kind = 116
    · have HF : Hid (fnum f e.nv e.na 1 86400 = f') := by show _ = _; rw [← hf1.out]; simp [k116]
      have e1 : (e.kind == 116) = true := by simp [k116]
      have e2 : (e.kind == 64) = false := by simp [k116]
      clear k116
      go_enter Tryz.func104, Tryz.ntmps104
      go_wp2_with fail
      refine (numberF_any F f e.nv e.na 1 86400 _ H.out f' HF).mono ?_
      rintro r w3 ⟨rfl, h3, k3⟩
      go_wp2_with fail
      go_end0
      exact ⟨rfl, h3, HK.out.trans k3⟩
    by_cases k64 : e.kind = 64
    · have HF : Hid (fnum f e.nv e.na 0 15 = f') := by show _ = _; rw [← hf1.out]; simp [k64]
      have e1 : (e.kind == 116) = false := by simp [k64]
      have e2 : (e.kind == 64) = true := by simp [k64]
      clear k64
      go_enter Tryz.func104, Tryz.ntmps104
      go_wp2_with fail
      refine (numberF_any F f e.nv e.na 0 15 _ H.out f' HF).mono ?_
      rintro r w3 ⟨rfl, h3, k3⟩
      go_wp2_with fail
      go_end0
      exact ⟨rfl, h3, HK.out.trans k3⟩
    by_cases k61 : e.kind = 61
    · have e1 : (e.kind == 116) = false := by simp [k61]
      have e2 : (e.kind == 64) = false := by simp [k61]
      have e3 : (e.kind == 61) = true := by simp [k61]
      by_cases hi : e.inner = -1
      · have HF : Hid (fnd f 5 e.na = f') := by show _ = _; rw [← hf1.out]; simp [k61, hi]
        have e4 : (e.inner == -1) = true := by simp [hi]
        clear hi k61
        go_enter Tryz.func104, Tryz.ntmps104
        go_wp2_with fail
        refine (found_any F f 5 e.na _ H.out f' HF).mono ?_
        rintro r w3 ⟨rfl, h3, k3⟩
        go_wp2_with fail
        go_end0
        exact ⟨rfl, h3, HK.out.trans k3⟩
      · have HF : Hid (f = f') := by show _ = _; rw [← hf1.out]; simp [k61, hi]
        have e4 : (e.inner == -1) = false := by simp [hi]
        clear hi k61
        go_enter Tryz.func104, Tryz.ntmps104
        go_wp2_with fail
        go_end0
        exact ⟨rfl, by rw [← HF.out]; exact H.out, HK.out⟩
    have e1 : (e.kind == 116) = false := by simp [k116]
    have e2 : (e.kind == 64) = false := by simp [k64]
    have e3 : (e.kind == 61) = false := by simp [k61]
    have HF : Hid (f = f') := by show _ = _; rw [← hf1.out]; simp [k61, k64, k116]
    clear k61 k64 k116
    go_enter Tryz.func104, Tryz.ntmps104
    go_wp2_with fail
    go_end0
    exact ⟨rfl, by rw [← HF.out]; exact H.out, HK.out⟩
end Go.Proofs.YtaebngpoagjafaaGreat
