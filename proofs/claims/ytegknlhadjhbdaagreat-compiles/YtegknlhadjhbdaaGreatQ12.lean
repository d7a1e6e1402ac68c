/-
  OUR OWN: the document's reader: an expression, by its first byte.
  OUR OWN: the document's reader: an expression that cannot begin so; all expressions.
  OUR OWN: the document's reader: one step.
-/
import Derived.Test.YtegknlhadjhbdaaGreatQ08
import Derived.Test.YtegknlhadjhbdaaGreatQ09
import Derived.Test.YtegknlhadjhbdaaGreatQ10
import Derived.Test.YtegknlhadjhbdaaGreatQ11
namespace Go.Proofs.YtegknlhadjhbdaaGreat
open Go.RowKit

attribute [local go_sem ↓] Go.wp_at_zero Go.wp_at_succ
set_option maxRecDepth 100000 in
set_option maxHeartbeats 6400000 in
theorem expr_name (base B : Nat) (s : ByteArray) (k p : Nat) (f : FR) (sv gv : Value) (fs : List FR) (gs : List SG) (w : World) (h : RS w base B s k sv gv fs gs) (hs : s.size ≤ 2000) (hk : k ≤ s.size) (hpe : T.sk s k = p) (hc : T.ch s p = 61)
    (hlen : fs.length + 7 ≤ 1099511627776) (hlen2 : gs.length + 1 ≤ 1099511627776) (d0 : 0 ≤ f.depth) (d1 : f.depth ≤ 1000000) :
    Calls Tryz.prog 171 #[.pointer (some ⟨B, 0, none⟩), frA f] w fun e w' => e = .returned (.bool true) ∧ ∃ sv' gv', RS w' base B s p sv' gv' ([byF 61, ⟨263, 2, 0, -1⟩] ++ fs) (⟨3, p, f.depth, -1, ByteArray.empty⟩ :: gs) ∧ Mv base B sv gv sv' gv' w w' := by
  have hpee := fun (wz : World) (hz : RS wz base B s k sv gv fs gs) => peek_any base B s k sv gv fs gs wz hs hk hz
  rw [hpe, hc] at hpee
  have HPE : Hid (∀ (wz : World), RS wz base B s k sv gv fs gs → Calls Tryz.prog 133 #[.pointer (some ⟨B, 0, none⟩)] wz fun e w' => e = .returned (.int .i64 (61)) ∧ RS w' base B s p sv gv fs gs ∧ Mv base B sv gv sv gv wz w') := hpee
  clear hpe hpee hk hc
  obtain ⟨i0, hi0, hz0, hz1, hz2⟩ := info_parts Tryz.infoSign
  have hbi := fun w => buildF2 258 (f.depth + 1) w
  have hbs := fun w => buildSgn f.depth p w
  unfold frA
  go_enter Tryz.func171, Tryz.ntmps171
  go_wp2_with fail
  have hA := h.alloc (.cells #[.int .i64 f.sym, .int .i64 f.kind, .int .i64 f.depth, .int .i64 f.list] 182)
  have hF : FB (w.alloc (.cells #[.int .i64 f.sym, .int .i64 f.kind, .int .i64 f.depth, .int .i64 f.list] 182)) w.heap.size f := ⟨by simp, by simp, by simp, by simp⟩
  have hou := h.outNew
  have hwl : w.heap.size < (w.alloc (.cells #[.int .i64 f.sym, .int .i64 f.kind, .int .i64 f.depth, .int .i64 f.list] 182)).heap.size := by simp
  have hmv : Mv base B sv gv sv gv w (w.alloc (.cells #[.int .i64 f.sym, .int .i64 f.kind, .int .i64 f.depth, .int .i64 f.list] 182)) := Mv.alloc h.bs _
  refine (HPE.out _ hA).mono ?_
  rintro e w1 ⟨rfl, hr1, hm1⟩
  have hk1 := hm1.kept w.heap.size hwl hou
  have hF1 := hF.of_block hk1.1
  have hwl1 : w.heap.size < w1.heap.size := Nat.lt_of_lt_of_le hwl hm1.bel.size
  have HM1 : Hid (Mv base B sv gv sv gv w w1) := hmv.trans hm1
  have HR1 : Hid (RS w1 base B s p sv gv fs gs) := hr1
  have HF1 : Hid (FB w1 w.heap.size f) := hF1
  have c1 := hr1.c1
  have b2 := hF1.c2
  clear hmv hm1 hA hF hwl hr1 hk1 h hF1
  go_wp2_with fail
  refine (listOf_any _ _ _ _).mono ?_
  rintro e w' ⟨rfl, hww⟩
  subst w'
  have HR3 : Hid (RS ((w1.alloc (.cells #[.int .i64 258, .int .i64 0, .int .i64 (f.depth + 1), .int .i64 0] 182)).alloc (.cells #[.int .i64 259, .int .i64 4, .int .i64 f.depth, .int .i64 p, .int .i64 260, .int .i64 4, .int .i64 f.depth, .int .i64 p] 182)) base B s p sv gv fs gs) := (HR1.out.alloc _).alloc _
  have HM3 : Hid (Mv base B sv gv sv gv w ((w1.alloc (.cells #[.int .i64 258, .int .i64 0, .int .i64 (f.depth + 1), .int .i64 0] 182)).alloc (.cells #[.int .i64 259, .int .i64 4, .int .i64 f.depth, .int .i64 p, .int .i64 260, .int .i64 4, .int .i64 f.depth, .int .i64 p] 182))) := (HM1.out.trans (Mv.alloc HR1.out.bs _)).trans (Mv.alloc (HR1.out.alloc _).bs _)
  have HF3 : Hid (FB ((w1.alloc (.cells #[.int .i64 258, .int .i64 0, .int .i64 (f.depth + 1), .int .i64 0] 182)).alloc (.cells #[.int .i64 259, .int .i64 4, .int .i64 f.depth, .int .i64 p, .int .i64 260, .int .i64 4, .int .i64 f.depth, .int .i64 p] 182)) w.heap.size f) := HF1.out.of_block (by rw [Below.heap_alloc _ _ _ (by simp; omega), Below.heap_alloc _ _ _ hwl1])
  have i0' : ((w1.alloc (.cells #[.int .i64 258, .int .i64 0, .int .i64 (f.depth + 1), .int .i64 0] 182)).alloc (.cells #[.int .i64 259, .int .i64 4, .int .i64 f.depth, .int .i64 p, .int .i64 260, .int .i64 4, .int .i64 f.depth, .int .i64 p] 182)).cell? ⟨w1.heap.size, 0, none⟩ = some (.int .i64 258) := by simp
  have i1' : ((w1.alloc (.cells #[.int .i64 258, .int .i64 0, .int .i64 (f.depth + 1), .int .i64 0] 182)).alloc (.cells #[.int .i64 259, .int .i64 4, .int .i64 f.depth, .int .i64 p, .int .i64 260, .int .i64 4, .int .i64 f.depth, .int .i64 p] 182)).cell? ⟨w1.heap.size, 1, none⟩ = some (.int .i64 0) := by simp
  have i2' : ((w1.alloc (.cells #[.int .i64 258, .int .i64 0, .int .i64 (f.depth + 1), .int .i64 0] 182)).alloc (.cells #[.int .i64 259, .int .i64 4, .int .i64 f.depth, .int .i64 p, .int .i64 260, .int .i64 4, .int .i64 f.depth, .int .i64 p] 182)).cell? ⟨w1.heap.size, 2, none⟩ = some (.int .i64 (f.depth + 1)) := by simp
  have i3' : ((w1.alloc (.cells #[.int .i64 258, .int .i64 0, .int .i64 (f.depth + 1), .int .i64 0] 182)).alloc (.cells #[.int .i64 259, .int .i64 4, .int .i64 f.depth, .int .i64 p, .int .i64 260, .int .i64 4, .int .i64 f.depth, .int .i64 p] 182)).cell? ⟨w1.heap.size, 3, none⟩ = some (.int .i64 0) := by simp
  have l0 : ((w1.alloc (.cells #[.int .i64 258, .int .i64 0, .int .i64 (f.depth + 1), .int .i64 0] 182)).alloc (.cells #[.int .i64 259, .int .i64 4, .int .i64 f.depth, .int .i64 p, .int .i64 260, .int .i64 4, .int .i64 f.depth, .int .i64 p] 182)).cell? ⟨w1.heap.size + 1, 0, none⟩ = some (.int .i64 259) := by simp
  have l1 : ((w1.alloc (.cells #[.int .i64 258, .int .i64 0, .int .i64 (f.depth + 1), .int .i64 0] 182)).alloc (.cells #[.int .i64 259, .int .i64 4, .int .i64 f.depth, .int .i64 p, .int .i64 260, .int .i64 4, .int .i64 f.depth, .int .i64 p] 182)).cell? ⟨w1.heap.size + 1, 1, none⟩ = some (.int .i64 4) := by simp
  have l2 : ((w1.alloc (.cells #[.int .i64 258, .int .i64 0, .int .i64 (f.depth + 1), .int .i64 0] 182)).alloc (.cells #[.int .i64 259, .int .i64 4, .int .i64 f.depth, .int .i64 p, .int .i64 260, .int .i64 4, .int .i64 f.depth, .int .i64 p] 182)).cell? ⟨w1.heap.size + 1, 2, none⟩ = some (.int .i64 f.depth) := by simp
  have l3 : ((w1.alloc (.cells #[.int .i64 258, .int .i64 0, .int .i64 (f.depth + 1), .int .i64 0] 182)).alloc (.cells #[.int .i64 259, .int .i64 4, .int .i64 f.depth, .int .i64 p, .int .i64 260, .int .i64 4, .int .i64 f.depth, .int .i64 p] 182)).cell? ⟨w1.heap.size + 1, 3, none⟩ = some (.int .i64 p) := by simp
  have l4 : ((w1.alloc (.cells #[.int .i64 258, .int .i64 0, .int .i64 (f.depth + 1), .int .i64 0] 182)).alloc (.cells #[.int .i64 259, .int .i64 4, .int .i64 f.depth, .int .i64 p, .int .i64 260, .int .i64 4, .int .i64 f.depth, .int .i64 p] 182)).cell? ⟨w1.heap.size + 1, 4, none⟩ = some (.int .i64 260) := by simp
  have l5 : ((w1.alloc (.cells #[.int .i64 258, .int .i64 0, .int .i64 (f.depth + 1), .int .i64 0] 182)).alloc (.cells #[.int .i64 259, .int .i64 4, .int .i64 f.depth, .int .i64 p, .int .i64 260, .int .i64 4, .int .i64 f.depth, .int .i64 p] 182)).cell? ⟨w1.heap.size + 1, 5, none⟩ = some (.int .i64 4) := by simp
  have l6 : ((w1.alloc (.cells #[.int .i64 258, .int .i64 0, .int .i64 (f.depth + 1), .int .i64 0] 182)).alloc (.cells #[.int .i64 259, .int .i64 4, .int .i64 f.depth, .int .i64 p, .int .i64 260, .int .i64 4, .int .i64 f.depth, .int .i64 p] 182)).cell? ⟨w1.heap.size + 1, 6, none⟩ = some (.int .i64 f.depth) := by simp
  have l7 : ((w1.alloc (.cells #[.int .i64 258, .int .i64 0, .int .i64 (f.depth + 1), .int .i64 0] 182)).alloc (.cells #[.int .i64 259, .int .i64 4, .int .i64 f.depth, .int .i64 p, .int .i64 260, .int .i64 4, .int .i64 f.depth, .int .i64 p] 182)).cell? ⟨w1.heap.size + 1, 7, none⟩ = some (.int .i64 p) := by simp
  have hz3 : w1.heap.size + 1 < ((w1.alloc (.cells #[.int .i64 258, .int .i64 0, .int .i64 (f.depth + 1), .int .i64 0] 182)).alloc (.cells #[.int .i64 259, .int .i64 4, .int .i64 f.depth, .int .i64 p, .int .i64 260, .int .i64 4, .int .i64 f.depth, .int .i64 p] 182)).heap.size := by simp
  have hbt := fun w => buildF13 263 2 (-1) w
  go_wp2_with fail
  generalize (w1.alloc (.cells #[.int .i64 258, .int .i64 0, .int .i64 (f.depth + 1), .int .i64 0] 182)).alloc (.cells #[.int .i64 259, .int .i64 4, .int .i64 f.depth, .int .i64 p, .int .i64 260, .int .i64 4, .int .i64 f.depth, .int .i64 p] 182) = w3 at *
  clear c1 b2
  refine (byteOf_any _ _ (by omega) (by omega)).mono ?_
  rintro e w' ⟨rfl, hww⟩
  subst w'
  go_wp2_with fail
  refine (push_newL base B _ _ s p sv gv fs [byF 61, ⟨263, 2, 0, -1⟩] gs _ _ (HR3.out.alloc _) (by simp) (by rfl) (by simp; omega) _ rfl).mono ?_
  rintro e w' ⟨rfl, sv', hr, hm⟩
  have HR4 : Hid (RS w' base B s p sv' gv ([byF 61, ⟨263, 2, 0, -1⟩] ++ fs) gs) := hr
  obtain ⟨wz, hbz, hmz⟩ : ∃ wz, Below w3.heap.size w3 wz ∧ Mv base B sv gv sv' gv wz w' := ⟨_, by repeat (first | exact Below.refl _ _ | refine Below.drew ?_ | refine Below.alloc ?_ (by simp <;> omega) _), hm⟩
  have HM4 : Hid (Mv base B sv gv sv' gv w w') := (HM3.out.trans (Mv.of_below hbz HR3.out.bs)).trans hmz
  have hlt4 : w.heap.size < w'.heap.size := by have h1 := hbz.size; have h2 := hmz.bel.size; omega
  have hF4 : FB w' w.heap.size f := HF3.out.of_block (by
    have h1 : w.heap.size < w3.heap.size := by omega
    rw [(hmz.kept _ (Nat.lt_of_lt_of_le h1 hbz.size) hou).1, hbz.block _ h1])
  have b2 := hF4.c2
  have c3 := HR4.out.c3
  have z3 := HR4.out.fz 3
  have hBl := HR4.out.lt
  have zf : ∀ o, (w'.alloc o).frozen? ⟨B, 3, none⟩ = false := fun o => (HR4.out.alloc o).fz 3
  have hA1 : Hid (gs.length + 1 ≤ maxLen) := by show _ ≤ _; unfold maxLen; omega
  have hA2 : Hid ((gs.length + 1) * 48 ≤ 140737488355328) := by show _ ≤ _; omega
  have hone : Hid (∀ u ∈ sgV ⟨3, p, f.depth, -1, ByteArray.empty⟩, u.oneCell' = true) := fun u hu => by simp [sgV] at hu; rcases hu with rfl | rfl | rfl | rfl | rfl <;> rfl
  have hA3 : Hid (∀ o : Obj, base ≤ (w'.alloc o).drew.heap.size) := fun o => by have := HR4.out.bs; show base ≤ (w'.alloc o).heap.size; simp; omega
  clear hr hm hbz hmz hF4  i0' i1' i2' i3' l0 l1 l2 l3 l4 l5 l6 l7 HR3 HM3 HF3 HF1 HM1
  go_wp2_with fail
  go_region_law ((refine step_append_lies _ (by rfl) _ _ _ (by rfl) base 148 i0 _ 5 48 Tryz.underlying143 hi0 hz0 hz1 hz2 rfl (by decide) gv _ _ (by rfl) ((HR4.out.sg.alloc _).drew) ⟨w'.heap.size, 0, none⟩ 1 1 (sgV ⟨3, p, f.depth, -1, ByteArray.empty⟩) (by rfl) (by rfl) (World.news_of_block (cs := #[.int .i64 3, .int .i64 p, .int .i64 f.depth, .int .i64 (-1), .string ByteArray.empty]) (t := 148) (fr := (0, 0)) (heap_alloc_new w' _)) hone.out (Nat.lt_succ_self 0) hA1.out hA2.out (hA3.out _) (w'.heap.size + 1) (by simp) ?_; intro gg cap w5 hown hgrow hat hlt; obtain ⟨y0, y1, y3, yz, _⟩ := HR4.out.grown3 hgrow))
  all_goals
    have hSg := HR4.out.signed rfl hown hgrow hat
    have HS1 : Hid (RS (w5.setCell ⟨B, 3, none⟩ (.slice (some ⟨gg, 0, none⟩) (gs.length + 1) cap)) base B s p sv' (.slice (some ⟨gg, 0, none⟩) (gs.length + 1) cap) ([byF 61, ⟨263, 2, 0, -1⟩] ++ fs) (⟨3, p, f.depth, -1, ByteArray.empty⟩ :: gs)) := hSg.1
    have HS2 : Hid (Mv base B sv' gv sv' (.slice (some ⟨gg, 0, none⟩) (gs.length + 1) cap) w' (w5.setCell ⟨B, 3, none⟩ (.slice (some ⟨gg, 0, none⟩) (gs.length + 1) cap))) := hSg.2
    clear hSg hown hgrow hat y0 y1 y3 yz
    go_wp2_with fail
    go_ret
    exact ⟨rfl, sv', _, HS1.out, HM4.out.trans HS2.out⟩
end Go.Proofs.YtegknlhadjhbdaaGreat
namespace Go.Proofs.YtegknlhadjhbdaaGreat
open Go.RowKit

set_option maxRecDepth 100000 in
set_option maxHeartbeats 3200000 in
theorem expr_no (base B : Nat) (s : ByteArray) (k p : Nat) (f : FR) (c : Int) (sv gv : Value) (fs : List FR) (gs : List SG) (w : World) (h : RS w base B s k sv gv fs gs) (hs : s.size ≤ 2000) (hk : k ≤ s.size) (hpe : T.sk s k = p) (hc : T.ch s p = c)
    (d0 : 0 ≤ f.depth) (d1 : f.depth ≤ 1000000) (n119 : (c == 119) = false) (n109 : (c == 109) = false) (n103 : (c == 103) = false) (n123 : (c == 123) = false) (n102 : (c == 102) = false) (n116 : (c == 116) = false) (n64 : (c == 64) = false) (n61 : (c == 61) = false) :
    Calls Tryz.prog 171 #[.pointer (some ⟨B, 0, none⟩), frA f] w fun e w' => e = .returned (.bool false) ∧ RS w' base B s p sv gv fs gs ∧ Mv base B sv gv sv gv w w' := by
  have hpee := fun (wz : World) (hz : RS wz base B s k sv gv fs gs) => peek_any base B s k sv gv fs gs wz hs hk hz
  rw [hpe, hc] at hpee
  have HPE : Hid (∀ (wz : World), RS wz base B s k sv gv fs gs → Calls Tryz.prog 133 #[.pointer (some ⟨B, 0, none⟩)] wz fun e w' => e = .returned (.int .i64 c) ∧ RS w' base B s p sv gv fs gs ∧ Mv base B sv gv sv gv wz w') := hpee
  clear hpe hpee hk hc
  have hbi := fun w => buildF2 258 (f.depth + 1) w
  unfold frA
  go_enter Tryz.func171, Tryz.ntmps171
  go_wp2_with fail
  have hA := h.alloc (.cells #[.int .i64 f.sym, .int .i64 f.kind, .int .i64 f.depth, .int .i64 f.list] 182)
  have hF : FB (w.alloc (.cells #[.int .i64 f.sym, .int .i64 f.kind, .int .i64 f.depth, .int .i64 f.list] 182)) w.heap.size f := ⟨by simp, by simp, by simp, by simp⟩
  have hou := h.outNew
  have hwl : w.heap.size < (w.alloc (.cells #[.int .i64 f.sym, .int .i64 f.kind, .int .i64 f.depth, .int .i64 f.list] 182)).heap.size := by simp
  have hmv : Mv base B sv gv sv gv w (w.alloc (.cells #[.int .i64 f.sym, .int .i64 f.kind, .int .i64 f.depth, .int .i64 f.list] 182)) := Mv.alloc h.bs _
  refine (HPE.out _ hA).mono ?_
  rintro e w1 ⟨rfl, hr1, hm1⟩
  have hk1 := hm1.kept w.heap.size hwl hou
  have hF1 := hF.of_block hk1.1
  have hwl1 : w.heap.size < w1.heap.size := Nat.lt_of_lt_of_le hwl hm1.bel.size
  have HM1 : Hid (Mv base B sv gv sv gv w w1) := hmv.trans hm1
  have HR1 : Hid (RS w1 base B s p sv gv fs gs) := hr1
  have c1 := hr1.c1
  have b2 := hF1.c2
  clear hmv hm1 hA hF hwl hr1 hk1 h hF1
  go_wp2_with fail
  refine (listOf_any _ _ _ _).mono ?_
  rintro e w' ⟨rfl, hww⟩
  subst w'
  go_wp2_with fail
  go_ret
  exact ⟨rfl, (HR1.out.alloc _).alloc _, (HM1.out.trans (Mv.alloc HR1.out.bs _)).trans (Mv.alloc (HR1.out.alloc _).bs _)⟩

/-- Every expression. -/
theorem expr_any (base B : Nat) (s : ByteArray) (k : Nat) (f : FR) (sv gv : Value) (fs : List FR) (gs : List SG) (w : World) (h : RS w base B s k sv gv fs gs) (hs : s.size ≤ 2000) (hk : k ≤ s.size)
    (hlen : fs.length + 7 ≤ 1099511627776) (hlen2 : gs.length + 1 ≤ 1099511627776) (d0 : 0 ≤ f.depth) (d1 : f.depth ≤ 1000000) :
    Calls Tryz.prog 171 #[.pointer (some ⟨B, 0, none⟩), frA f] w fun e w' =>
      (exprL f.depth (T.sk s k) (T.ch s (T.sk s k)) = none ∧ e = .returned (.bool false) ∧ RS w' base B s (T.sk s k) sv gv fs gs ∧ Mv base B sv gv sv gv w w') ∨
      ∃ l, exprL f.depth (T.sk s k) (T.ch s (T.sk s k)) = some l ∧ e = .returned (.bool true) ∧ ∃ sv' gv', RS w' base B s (T.sk s k) sv' gv' (l ++ fs) (⟨3, T.sk s k, f.depth, -1, ByteArray.empty⟩ :: gs) ∧ Mv base B sv gv sv' gv' w w' := by
  generalize hpe : T.sk s k = p
  generalize hc : T.ch s p = c
  by_cases n123 : c = 123
  · refine (expr_brace base B s k p f sv gv fs gs w h hs hk hpe (hc.trans n123) hlen hlen2 d0 d1).mono ?_
    rintro e w' ⟨he, sv', gv', hr, hm⟩
    exact .inr ⟨_, by subst n123; rfl, he, sv', gv', hr, hm⟩
  by_cases n119 : c = 119
  · refine (expr_pool base B s k p f sv gv fs gs w h hs hk hpe (hc.trans n119) hlen hlen2 d0 d1).mono ?_
    rintro e w' ⟨he, sv', gv', hr, hm⟩
    exact .inr ⟨_, by subst n119; rfl, he, sv', gv', hr, hm⟩
  by_cases n102 : c = 102
  · refine (expr_chain base B s k p f sv gv fs gs w h hs hk hpe (hc.trans n102) hlen hlen2 d0 d1).mono ?_
    rintro e w' ⟨he, sv', gv', hr, hm⟩
    exact .inr ⟨_, by subst n102; rfl, he, sv', gv', hr, hm⟩
  by_cases n109 : c = 109
  · refine (expr_bits base B s k p f sv gv fs gs w h hs hk hpe (hc.trans n109) hlen hlen2 d0 d1).mono ?_
    rintro e w' ⟨he, sv', gv', hr, hm⟩
    exact .inr ⟨_, by subst n109; rfl, he, sv', gv', hr, hm⟩
  by_cases n103 : c = 103
  · refine (expr_region base B s k p f sv gv fs gs w h hs hk hpe (hc.trans n103) hlen hlen2 d0 d1).mono ?_
    rintro e w' ⟨he, sv', gv', hr, hm⟩
    exact .inr ⟨_, by subst n103; rfl, he, sv', gv', hr, hm⟩
  by_cases n116 : c = 116
  · refine (expr_ttl base B s k p f sv gv fs gs w h hs hk hpe (hc.trans n116) hlen hlen2 d0 d1).mono ?_
    rintro e w' ⟨he, sv', gv', hr, hm⟩
    exact .inr ⟨_, by subst n116; rfl, he, sv', gv', hr, hm⟩
  by_cases n64 : c = 64
  · refine (expr_alias base B s k p f sv gv fs gs w h hs hk hpe (hc.trans n64) hlen hlen2 d0 d1).mono ?_
    rintro e w' ⟨he, sv', gv', hr, hm⟩
    exact .inr ⟨_, by subst n64; rfl, he, sv', gv', hr, hm⟩
  by_cases n61 : c = 61
  · refine (expr_name base B s k p f sv gv fs gs w h hs hk hpe (hc.trans n61) hlen hlen2 d0 d1).mono ?_
    rintro e w' ⟨he, sv', gv', hr, hm⟩
    exact .inr ⟨_, by subst n61; rfl, he, sv', gv', hr, hm⟩
  have hno : exprL f.depth p c = none := by unfold exprL; rw [if_neg n123, if_neg n119, if_neg n102, if_neg n109, if_neg n103, if_neg n116, if_neg n64, if_neg n61]
  refine (expr_no base B s k p f c sv gv fs gs w h hs hk hpe hc d0 d1 (beq_eq_false_iff_ne.2 n119) (beq_eq_false_iff_ne.2 n109) (beq_eq_false_iff_ne.2 n103) (beq_eq_false_iff_ne.2 n123) (beq_eq_false_iff_ne.2 n102) (beq_eq_false_iff_ne.2 n116) (beq_eq_false_iff_ne.2 n64) (beq_eq_false_iff_ne.2 n61)).mono ?_
  rintro e w' ⟨he, hr, hm⟩
  exact .inl ⟨hno, he, hr, hm⟩
end Go.Proofs.YtegknlhadjhbdaaGreat
namespace Go.Proofs.YtegknlhadjhbdaaGreat
open Go.RowKit

/-- What is so behind a step. -/
def SP (base B : Nat) (s : ByteArray) (sv gv : Value) (fs : List FR) (gs : List SG) (w : World) (r : Res) (e : Ending) (w' : World) : Prop :=
  e = .returned (.bool r.ok) ∧ ∃ sv' gv', RS w' base B s r.at_ sv' gv' (r.push ++ fs) (r.sg ++ gs) ∧ Mv base B sv gv sv' gv' w w'

attribute [local go_sem ↓] Go.wp_at_zero Go.wp_at_succ
set_option maxRecDepth 100000 in
set_option maxHeartbeats 6400000 in
theorem step_rule (base B : Nat) (s : ByteArray) (k p : Nat) (c kd d l : Int) (sv gv : Value) (fs : List FR) (gs : List SG) (w : World) (h : RS w base B s k sv gv fs gs) (hs : s.size ≤ 2000) (hk : k ≤ s.size) (hpe : T.sk s k = p) (hc : T.ch s p = c)
    (_hlen : fs.length + 7 ≤ 1099511627776) (_hlen2 : gs.length + 1 ≤ 1099511627776) :
    Calls Tryz.prog 132 #[.pointer (some ⟨B, 0, none⟩), frA ⟨256, kd, d, l⟩] w (SP base B s sv gv fs gs w ⟨true, p, [⟨263, 1, 0, -1⟩, byF 58, ⟨258, 0, 0, 0⟩], []⟩) := by
  show Calls Tryz.prog 132 #[.pointer (some ⟨B, 0, none⟩), .agg #[.int .i64 256, .int .i64 kd, .int .i64 d, .int .i64 l]] w _
  have hpk : p ≤ s.size := by rw [← hpe]; exact T.sk_le hk
  have hpee := fun (wz : World) (hz : RS wz base B s k sv gv fs gs) => peek_any base B s k sv gv fs gs wz hs hk hz
  rw [hpe, hc] at hpee
  have HPE : Hid (∀ (wz : World), RS wz base B s k sv gv fs gs → Calls Tryz.prog 133 #[.pointer (some ⟨B, 0, none⟩)] wz fun e w' => e = .returned (.int .i64 c) ∧ RS w' base B s p sv gv fs gs ∧ Mv base B sv gv sv gv wz w') := hpee
  clear hpee
  go_enter Tryz.func132, Tryz.ntmps132
  go_wp2_with fail
  have hA := h.alloc (.cells #[.int .i64 256, .int .i64 kd, .int .i64 d, .int .i64 l] 182)
  have hF : FB (w.alloc (.cells #[.int .i64 256, .int .i64 kd, .int .i64 d, .int .i64 l] 182)) w.heap.size ⟨256, kd, d, l⟩ := ⟨by simp, by simp, by simp, by simp⟩
  have hou := h.outNew
  have hwl : w.heap.size < (w.alloc (.cells #[.int .i64 256, .int .i64 kd, .int .i64 d, .int .i64 l] 182)).heap.size := by simp
  have hmv : Mv base B sv gv sv gv w (w.alloc (.cells #[.int .i64 256, .int .i64 kd, .int .i64 d, .int .i64 l] 182)) := Mv.alloc h.bs _
  refine (HPE.out _ hA).mono ?_
  rintro e w1 ⟨rfl, hr1, hm1⟩
  have hk1 := hm1.kept w.heap.size hwl hou
  have hF1 := hF.of_block hk1.1
  have hwl1 : w.heap.size < w1.heap.size := Nat.lt_of_lt_of_le hwl hm1.bel.size
  have HM1 : Hid (Mv base B sv gv sv gv w w1) := hmv.trans hm1
  have HR1 : Hid (RS w1 base B s p sv gv fs gs) := hr1
  have HF1 : Hid (FB w1 w.heap.size ⟨256, kd, d, l⟩) := hF1
  have b0 : w1.cell? ⟨w.heap.size, 0, none⟩ = some (.int .i64 256) := hF1.c0
  clear hmv hm1 hA hF hwl hr1 hk1 h hF1
  have hbd0 := fun w => buildF13 263 1 (-1) w
  have hbd1 := fun w => buildF1 258 w
  go_wp2_with fail
  refine (byteOf_any _ _ (by omega) (by omega)).mono ?_
  rintro e w' ⟨rfl, hww⟩
  subst w'
  go_wp2_with fail
  refine (push_newL base B _ _ s p sv gv fs [⟨263, 1, 0, -1⟩, byF 58, ⟨258, 0, 0, 0⟩] gs _ _ (HR1.out.alloc _) (by simp) (by rfl) (by simp; omega) _ rfl).mono ?_
  rintro e w' ⟨rfl, sv', hr, hm⟩
  have HR4 : Hid (RS w' base B s p sv' gv ([⟨263, 1, 0, -1⟩, byF 58, ⟨258, 0, 0, 0⟩] ++ fs) gs) := hr
  have HM4 : Hid (Mv base B sv gv sv' gv w w') := (HM1.out.trans (Mv.alloc HR1.out.bs _)).trans hm
  clear hr hm
  go_wp2_with fail
  go_ret
  exact ⟨rfl, sv', gv, HR4.out, HM4.out⟩

set_option maxRecDepth 100000 in
set_option maxHeartbeats 6400000 in
theorem step_more (base B : Nat) (s : ByteArray) (k p : Nat) (c kd d l : Int) (sv gv : Value) (fs : List FR) (gs : List SG) (w : World) (h : RS w base B s k sv gv fs gs) (hs : s.size ≤ 2000) (hk : k ≤ s.size) (hpe : T.sk s k = p) (hc : T.ch s p = c)
    (_hlen : fs.length + 7 ≤ 1099511627776) (_hlen2 : gs.length + 1 ≤ 1099511627776) (hc2 : c = 59) :
    Calls Tryz.prog 132 #[.pointer (some ⟨B, 0, none⟩), frA ⟨257, kd, d, l⟩] w (SP base B s sv gv fs gs w ⟨true, p, [byF 59, ⟨256, 0, 0, 0⟩, ⟨257, 0, 0, 0⟩], []⟩) := by
  show Calls Tryz.prog 132 #[.pointer (some ⟨B, 0, none⟩), .agg #[.int .i64 257, .int .i64 kd, .int .i64 d, .int .i64 l]] w _
  have hpk : p ≤ s.size := by rw [← hpe]; exact T.sk_le hk
  have hpee := fun (wz : World) (hz : RS wz base B s k sv gv fs gs) => peek_any base B s k sv gv fs gs wz hs hk hz
  rw [hpe, hc] at hpee
  have HPE : Hid (∀ (wz : World), RS wz base B s k sv gv fs gs → Calls Tryz.prog 133 #[.pointer (some ⟨B, 0, none⟩)] wz fun e w' => e = .returned (.int .i64 c) ∧ RS w' base B s p sv gv fs gs ∧ Mv base B sv gv sv gv wz w') := hpee
  have hcc : (c == 59) = true := by rw [hc2]; decide
  clear hpee
  go_enter Tryz.func132, Tryz.ntmps132
  go_wp2_with fail
  have hA := h.alloc (.cells #[.int .i64 257, .int .i64 kd, .int .i64 d, .int .i64 l] 182)
  have hF : FB (w.alloc (.cells #[.int .i64 257, .int .i64 kd, .int .i64 d, .int .i64 l] 182)) w.heap.size ⟨257, kd, d, l⟩ := ⟨by simp, by simp, by simp, by simp⟩
  have hou := h.outNew
  have hwl : w.heap.size < (w.alloc (.cells #[.int .i64 257, .int .i64 kd, .int .i64 d, .int .i64 l] 182)).heap.size := by simp
  have hmv : Mv base B sv gv sv gv w (w.alloc (.cells #[.int .i64 257, .int .i64 kd, .int .i64 d, .int .i64 l] 182)) := Mv.alloc h.bs _
  refine (HPE.out _ hA).mono ?_
  rintro e w1 ⟨rfl, hr1, hm1⟩
  have hk1 := hm1.kept w.heap.size hwl hou
  have hF1 := hF.of_block hk1.1
  have hwl1 : w.heap.size < w1.heap.size := Nat.lt_of_lt_of_le hwl hm1.bel.size
  have HM1 : Hid (Mv base B sv gv sv gv w w1) := hmv.trans hm1
  have HR1 : Hid (RS w1 base B s p sv gv fs gs) := hr1
  have HF1 : Hid (FB w1 w.heap.size ⟨257, kd, d, l⟩) := hF1
  have b0 : w1.cell? ⟨w.heap.size, 0, none⟩ = some (.int .i64 257) := hF1.c0
  clear hmv hm1 hA hF hwl hr1 hk1 h hF1
  have hbd0 := fun w => buildF1 256 w
  have hbd1 := fun w => buildF1 257 w
  go_wp2_with fail
  refine (byteOf_any _ _ (by omega) (by omega)).mono ?_
  rintro e w' ⟨rfl, hww⟩
  subst w'
  go_wp2_with fail
  refine (push_newL base B _ _ s p sv gv fs [byF 59, ⟨256, 0, 0, 0⟩, ⟨257, 0, 0, 0⟩] gs _ _ (HR1.out.alloc _) (by simp) (by rfl) (by simp; omega) _ rfl).mono ?_
  rintro e w' ⟨rfl, sv', hr, hm⟩
  have HR4 : Hid (RS w' base B s p sv' gv ([byF 59, ⟨256, 0, 0, 0⟩, ⟨257, 0, 0, 0⟩] ++ fs) gs) := hr
  have HM4 : Hid (Mv base B sv gv sv' gv w w') := (HM1.out.trans (Mv.alloc HR1.out.bs _)).trans hm
  clear hr hm
  go_wp2_with fail
  go_ret
  exact ⟨rfl, sv', gv, HR4.out, HM4.out⟩

set_option maxRecDepth 100000 in
set_option maxHeartbeats 6400000 in
theorem step_more_no (base B : Nat) (s : ByteArray) (k p : Nat) (c kd d l : Int) (sv gv : Value) (fs : List FR) (gs : List SG) (w : World) (h : RS w base B s k sv gv fs gs) (hs : s.size ≤ 2000) (hk : k ≤ s.size) (hpe : T.sk s k = p) (hc : T.ch s p = c)
    (_hlen : fs.length + 7 ≤ 1099511627776) (_hlen2 : gs.length + 1 ≤ 1099511627776) (hc2 : c ≠ 59) :
    Calls Tryz.prog 132 #[.pointer (some ⟨B, 0, none⟩), frA ⟨257, kd, d, l⟩] w (SP base B s sv gv fs gs w ⟨true, p, [], []⟩) := by
  show Calls Tryz.prog 132 #[.pointer (some ⟨B, 0, none⟩), .agg #[.int .i64 257, .int .i64 kd, .int .i64 d, .int .i64 l]] w _
  have hpk : p ≤ s.size := by rw [← hpe]; exact T.sk_le hk
  have hpee := fun (wz : World) (hz : RS wz base B s k sv gv fs gs) => peek_any base B s k sv gv fs gs wz hs hk hz
  rw [hpe, hc] at hpee
  have HPE : Hid (∀ (wz : World), RS wz base B s k sv gv fs gs → Calls Tryz.prog 133 #[.pointer (some ⟨B, 0, none⟩)] wz fun e w' => e = .returned (.int .i64 c) ∧ RS w' base B s p sv gv fs gs ∧ Mv base B sv gv sv gv wz w') := hpee
  have hcc : (c == 59) = false := by rw [beq_eq_false_iff_ne]; exact hc2
  clear hpee
  go_enter Tryz.func132, Tryz.ntmps132
  go_wp2_with fail
  have hA := h.alloc (.cells #[.int .i64 257, .int .i64 kd, .int .i64 d, .int .i64 l] 182)
  have hF : FB (w.alloc (.cells #[.int .i64 257, .int .i64 kd, .int .i64 d, .int .i64 l] 182)) w.heap.size ⟨257, kd, d, l⟩ := ⟨by simp, by simp, by simp, by simp⟩
  have hou := h.outNew
  have hwl : w.heap.size < (w.alloc (.cells #[.int .i64 257, .int .i64 kd, .int .i64 d, .int .i64 l] 182)).heap.size := by simp
  have hmv : Mv base B sv gv sv gv w (w.alloc (.cells #[.int .i64 257, .int .i64 kd, .int .i64 d, .int .i64 l] 182)) := Mv.alloc h.bs _
  refine (HPE.out _ hA).mono ?_
  rintro e w1 ⟨rfl, hr1, hm1⟩
  have hk1 := hm1.kept w.heap.size hwl hou
  have hF1 := hF.of_block hk1.1
  have hwl1 : w.heap.size < w1.heap.size := Nat.lt_of_lt_of_le hwl hm1.bel.size
  have HM1 : Hid (Mv base B sv gv sv gv w w1) := hmv.trans hm1
  have HR1 : Hid (RS w1 base B s p sv gv fs gs) := hr1
  have HF1 : Hid (FB w1 w.heap.size ⟨257, kd, d, l⟩) := hF1
  have b0 : w1.cell? ⟨w.heap.size, 0, none⟩ = some (.int .i64 257) := hF1.c0
  clear hmv hm1 hA hF hwl hr1 hk1 h hF1
  go_wp2_with fail
  go_ret
  exact ⟨rfl, sv, gv, HR1.out, HM1.out⟩

set_option maxRecDepth 100000 in
set_option maxHeartbeats 6400000 in
theorem step_items_no (base B : Nat) (s : ByteArray) (k p : Nat) (c kd d l : Int) (sv gv : Value) (fs : List FR) (gs : List SG) (w : World) (h : RS w base B s k sv gv fs gs) (hs : s.size ≤ 2000) (hk : k ≤ s.size) (hpe : T.sk s k = p) (hc : T.ch s p = c)
    (_hlen : fs.length + 7 ≤ 1099511627776) (_hlen2 : gs.length + 1 ≤ 1099511627776) (hc2 : c ≠ 44) :
    Calls Tryz.prog 132 #[.pointer (some ⟨B, 0, none⟩), frA ⟨260, kd, d, l⟩] w (SP base B s sv gv fs gs w ⟨true, p, [], []⟩) := by
  show Calls Tryz.prog 132 #[.pointer (some ⟨B, 0, none⟩), .agg #[.int .i64 260, .int .i64 kd, .int .i64 d, .int .i64 l]] w _
  have hpk : p ≤ s.size := by rw [← hpe]; exact T.sk_le hk
  have hpee := fun (wz : World) (hz : RS wz base B s k sv gv fs gs) => peek_any base B s k sv gv fs gs wz hs hk hz
  rw [hpe, hc] at hpee
  have HPE : Hid (∀ (wz : World), RS wz base B s k sv gv fs gs → Calls Tryz.prog 133 #[.pointer (some ⟨B, 0, none⟩)] wz fun e w' => e = .returned (.int .i64 c) ∧ RS w' base B s p sv gv fs gs ∧ Mv base B sv gv sv gv wz w') := hpee
  have hcc : (c == 44) = false := by rw [beq_eq_false_iff_ne]; exact hc2
  clear hpee
  go_enter Tryz.func132, Tryz.ntmps132
  go_wp2_with fail
  have hA := h.alloc (.cells #[.int .i64 260, .int .i64 kd, .int .i64 d, .int .i64 l] 182)
  have hF : FB (w.alloc (.cells #[.int .i64 260, .int .i64 kd, .int .i64 d, .int .i64 l] 182)) w.heap.size ⟨260, kd, d, l⟩ := ⟨by simp, by simp, by simp, by simp⟩
  have hou := h.outNew
  have hwl : w.heap.size < (w.alloc (.cells #[.int .i64 260, .int .i64 kd, .int .i64 d, .int .i64 l] 182)).heap.size := by simp
  have hmv : Mv base B sv gv sv gv w (w.alloc (.cells #[.int .i64 260, .int .i64 kd, .int .i64 d, .int .i64 l] 182)) := Mv.alloc h.bs _
  refine (HPE.out _ hA).mono ?_
  rintro e w1 ⟨rfl, hr1, hm1⟩
  have hk1 := hm1.kept w.heap.size hwl hou
  have hF1 := hF.of_block hk1.1
  have hwl1 : w.heap.size < w1.heap.size := Nat.lt_of_lt_of_le hwl hm1.bel.size
  have HM1 : Hid (Mv base B sv gv sv gv w w1) := hmv.trans hm1
  have HR1 : Hid (RS w1 base B s p sv gv fs gs) := hr1
  have HF1 : Hid (FB w1 w.heap.size ⟨260, kd, d, l⟩) := hF1
  have b0 : w1.cell? ⟨w.heap.size, 0, none⟩ = some (.int .i64 260) := hF1.c0
  clear hmv hm1 hA hF hwl hr1 hk1 h hF1
  go_wp2_with fail
  go_ret
  exact ⟨rfl, sv, gv, HR1.out, HM1.out⟩

set_option maxRecDepth 100000 in
set_option maxHeartbeats 6400000 in
theorem step_item (base B : Nat) (s : ByteArray) (k p : Nat) (c kd d l : Int) (sv gv : Value) (fs : List FR) (gs : List SG) (w : World) (h : RS w base B s k sv gv fs gs) (hs : s.size ≤ 2000) (hk : k ≤ s.size) (hpe : T.sk s k = p) (hc : T.ch s p = c)
    (_hlen : fs.length + 7 ≤ 1099511627776) (_hlen2 : gs.length + 1 ≤ 1099511627776) (d0 : 0 ≤ d) (d1 : d ≤ 1000000) :
    Calls Tryz.prog 132 #[.pointer (some ⟨B, 0, none⟩), frA ⟨259, kd, d, l⟩] w (SP base B s sv gv fs gs w ⟨true, p, itemL ⟨259, kd, d, l⟩, []⟩) := by
  show Calls Tryz.prog 132 #[.pointer (some ⟨B, 0, none⟩), .agg #[.int .i64 259, .int .i64 kd, .int .i64 d, .int .i64 l]] w _
  have hpk : p ≤ s.size := by rw [← hpe]; exact T.sk_le hk
  have hpee := fun (wz : World) (hz : RS wz base B s k sv gv fs gs) => peek_any base B s k sv gv fs gs wz hs hk hz
  rw [hpe, hc] at hpee
  have HPE : Hid (∀ (wz : World), RS wz base B s k sv gv fs gs → Calls Tryz.prog 133 #[.pointer (some ⟨B, 0, none⟩)] wz fun e w' => e = .returned (.int .i64 c) ∧ RS w' base B s p sv gv fs gs ∧ Mv base B sv gv sv gv wz w') := hpee
  clear hpee
  go_enter Tryz.func132, Tryz.ntmps132
  go_wp2_with fail
  have hA := h.alloc (.cells #[.int .i64 259, .int .i64 kd, .int .i64 d, .int .i64 l] 182)
  have hF : FB (w.alloc (.cells #[.int .i64 259, .int .i64 kd, .int .i64 d, .int .i64 l] 182)) w.heap.size ⟨259, kd, d, l⟩ := ⟨by simp, by simp, by simp, by simp⟩
  have hou := h.outNew
  have hwl : w.heap.size < (w.alloc (.cells #[.int .i64 259, .int .i64 kd, .int .i64 d, .int .i64 l] 182)).heap.size := by simp
  have hmv : Mv base B sv gv sv gv w (w.alloc (.cells #[.int .i64 259, .int .i64 kd, .int .i64 d, .int .i64 l] 182)) := Mv.alloc h.bs _
  refine (HPE.out _ hA).mono ?_
  rintro e w1 ⟨rfl, hr1, hm1⟩
  have hk1 := hm1.kept w.heap.size hwl hou
  have hF1 := hF.of_block hk1.1
  have hwl1 : w.heap.size < w1.heap.size := Nat.lt_of_lt_of_le hwl hm1.bel.size
  have HM1 : Hid (Mv base B sv gv sv gv w w1) := hmv.trans hm1
  have HR1 : Hid (RS w1 base B s p sv gv fs gs) := hr1
  have HF1 : Hid (FB w1 w.heap.size ⟨259, kd, d, l⟩) := hF1
  have b0 : w1.cell? ⟨w.heap.size, 0, none⟩ = some (.int .i64 259) := hF1.c0
  clear hmv hm1 hA hF hwl hr1 hk1 h hF1
  have b1 : w1.cell? ⟨w.heap.size, 1, none⟩ = some (.int .i64 kd) := HF1.out.c1
  have b2 : w1.cell? ⟨w.heap.size, 2, none⟩ = some (.int .i64 d) := HF1.out.c2
  have b3 : w1.cell? ⟨w.heap.size, 3, none⟩ = some (.int .i64 l) := HF1.out.c3
  go_wp2_with fail
  refine (item_any base B s p ⟨259, kd, d, l⟩ sv gv fs gs _ HR1.out (by omega) d0 d1).mono ?_
  rintro e w' ⟨rfl, sv', hr, hm⟩
  have HR4 : Hid (RS w' base B s p sv' gv (itemL ⟨259, kd, d, l⟩ ++ fs) gs) := hr
  have HM4 : Hid (Mv base B sv gv sv' gv w w') := HM1.out.trans hm
  clear hr hm
  go_wp2_with fail
  go_ret
  exact ⟨rfl, sv', gv, HR4.out, HM4.out⟩
end Go.Proofs.YtegknlhadjhbdaaGreat
