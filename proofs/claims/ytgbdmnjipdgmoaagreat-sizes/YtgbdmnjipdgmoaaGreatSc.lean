/-
  OUR OWN: the document's reader: item.
  OUR OWN: the document's reader as a machine: what a step does.
-/
import Derived.Test.YtgbdmnjipdgmoaaGreatSb
namespace Go.Proofs.YtgbdmnjipdgmoaaGreat
open Go.RowKit

attribute [local go_sem ↓] Go.wp_at_zero Go.wp_at_succ
set_option maxRecDepth 100000 in
set_option maxHeartbeats 3200000 in
theorem item_any (base B : Nat) (s : ByteArray) (k : Nat) (f : FR) (sv gv : Value) (fs : List FR) (gs : List SG) (w : World) (h : RS w base B s k sv gv fs gs) (hlen : fs.length + 3 ≤ 1099511627776) (d0 : 0 ≤ f.depth) (d1 : f.depth ≤ 1000000) :
    Calls Tryz.prog 114 #[.pointer (some ⟨B, 0, none⟩), frA f] w fun e w' => e = .returned (.tuple #[]) ∧ ∃ sv', RS w' base B s k sv' gv (itemL f ++ fs) gs ∧ Mv base B sv gv sv' gv w w' := by
  have hb2 := fun w => buildF2 258 (f.depth + 1) w
  have hA := h.alloc (.cells #[.int .i64 f.sym, .int .i64 f.kind, .int .i64 f.depth, .int .i64 f.list] 139)
  have hA2 := hA.alloc (.cells #[.int .i64 258, .int .i64 0, .int .i64 (f.depth + 1), .int .i64 0] 139)
  have HA2 : Hid (RS ((w.alloc (.cells #[.int .i64 f.sym, .int .i64 f.kind, .int .i64 f.depth, .int .i64 f.list] 139)).alloc (.cells #[.int .i64 258, .int .i64 0, .int .i64 (f.depth + 1), .int .i64 0] 139)) base B s k sv gv fs gs) := hA2
  have HMV : Hid (Mv base B sv gv sv gv w ((w.alloc (.cells #[.int .i64 f.sym, .int .i64 f.kind, .int .i64 f.depth, .int .i64 f.list] 139)).alloc (.cells #[.int .i64 258, .int .i64 0, .int .i64 (f.depth + 1), .int .i64 0] 139))) := (Mv.alloc h.bs _).trans (Mv.alloc hA.bs _)
  clear hA hA2
  have f3 : Hid (((w.alloc (.cells #[.int .i64 f.sym, .int .i64 f.kind, .int .i64 f.depth, .int .i64 f.list] 139)).alloc (.cells #[.int .i64 258, .int .i64 0, .int .i64 (f.depth + 1), .int .i64 0] 139)).cell? ⟨w.heap.size, 3, none⟩ = some (.int .i64 f.list)) := by show _ = _; simp
  have g0 : Hid (((w.alloc (.cells #[.int .i64 f.sym, .int .i64 f.kind, .int .i64 f.depth, .int .i64 f.list] 139)).alloc (.cells #[.int .i64 258, .int .i64 0, .int .i64 (f.depth + 1), .int .i64 0] 139)).cell? ⟨w.heap.size + 1, 0, none⟩ = some (.int .i64 258)) := by show _ = _; simp
  have g1 : Hid (((w.alloc (.cells #[.int .i64 f.sym, .int .i64 f.kind, .int .i64 f.depth, .int .i64 f.list] 139)).alloc (.cells #[.int .i64 258, .int .i64 0, .int .i64 (f.depth + 1), .int .i64 0] 139)).cell? ⟨w.heap.size + 1, 1, none⟩ = some (.int .i64 0)) := by show _ = _; simp
  have g2 : Hid (((w.alloc (.cells #[.int .i64 f.sym, .int .i64 f.kind, .int .i64 f.depth, .int .i64 f.list] 139)).alloc (.cells #[.int .i64 258, .int .i64 0, .int .i64 (f.depth + 1), .int .i64 0] 139)).cell? ⟨w.heap.size + 1, 2, none⟩ = some (.int .i64 (f.depth + 1))) := by show _ = _; simp
  have g3 : Hid (((w.alloc (.cells #[.int .i64 f.sym, .int .i64 f.kind, .int .i64 f.depth, .int .i64 f.list] 139)).alloc (.cells #[.int .i64 258, .int .i64 0, .int .i64 (f.depth + 1), .int .i64 0] 139)).cell? ⟨w.heap.size + 1, 3, none⟩ = some (.int .i64 0)) := by show _ = _; simp
  have hz : Hid (w.heap.size + 1 < ((w.alloc (.cells #[.int .i64 f.sym, .int .i64 f.kind, .int .i64 f.depth, .int .i64 f.list] 139)).alloc (.cells #[.int .i64 258, .int .i64 0, .int .i64 (f.depth + 1), .int .i64 0] 139)).heap.size) := by show _ < _; simp
  cases k10 : (f.kind == 10) with
  | true =>
    have HL : Hid (itemL f = [⟨261, 4, 0, f.list⟩, byF 42, ⟨261, 5, 0, -1⟩]) := by show _ = _; unfold itemL; rw [if_pos (by simpa using k10)]
    have hb1 := fun w => buildF13 261 4 f.list w
    have hb3 := fun w => buildF13 261 5 (-1) w
    unfold frA
    go_enter Tryz.func114, Tryz.ntmps114
    go_wp2_with fail
    have f3 := f3.out
    have g0 := g0.out
    have g1 := g1.out
    have g2 := g2.out
    have g3 := g3.out
    have hz := hz.out
    generalize ((w.alloc (.cells #[.int .i64 f.sym, .int .i64 f.kind, .int .i64 f.depth, .int .i64 f.list] 139)).alloc (.cells #[.int .i64 258, .int .i64 0, .int .i64 (f.depth + 1), .int .i64 0] 139)) = w2 at *
    have hz' : w.heap.size < w2.heap.size := by omega
    go_region_with (first | (go_at_call 112; refine (byteOf_any _ _ (by omega) (by omega)).mono ?_; rintro e w' ⟨rfl, rfl⟩) | (go_at_call 81; refine (push_newD base B _ _ s k sv gv fs [⟨261, 4, 0, f.list⟩, byF 42, ⟨261, 5, 0, -1⟩] gs _ _ (HA2.out.alloc _) (by simp) (by rfl) (by simp; omega) _ rfl).mono ?_; rintro e w' ⟨rfl, sv', hr, hm⟩))
    all_goals
      have HR2 : Hid (RS w' base B s k sv' gv ([⟨261, 4, 0, f.list⟩, byF 42, ⟨261, 5, 0, -1⟩] ++ fs) gs) := hr
      have HM2 : Hid (Mv base B sv gv sv' gv w w') := (HMV.out.trans (Mv.alloc HA2.out.bs _)).trans hm
      clear hr hm
      go_wp2_with fail
      go_end0
      exact ⟨rfl, sv', by rw [HL.out]; exact HR2.out, HM2.out⟩
  | false =>
    cases k9 : (f.kind == 9) with
    | true =>
      have HL : Hid (itemL f = [⟨262, 9, 0, f.list⟩, byF 58, ⟨258, 0, f.depth + 1, 0⟩]) := by show _ = _; unfold itemL; rw [if_neg (by simpa using k10), if_pos (by simpa using k9)]
      have hb1 := fun w => buildF13 262 9 f.list w
      unfold frA
      go_enter Tryz.func114, Tryz.ntmps114
      go_wp2_with fail
      have f3 := f3.out
      have g0 := g0.out
      have g1 := g1.out
      have g2 := g2.out
      have g3 := g3.out
      have hz := hz.out
      generalize ((w.alloc (.cells #[.int .i64 f.sym, .int .i64 f.kind, .int .i64 f.depth, .int .i64 f.list] 139)).alloc (.cells #[.int .i64 258, .int .i64 0, .int .i64 (f.depth + 1), .int .i64 0] 139)) = w2 at *
      have hz' : w.heap.size < w2.heap.size := by omega
      go_region_with (first | (go_at_call 112; refine (byteOf_any _ _ (by omega) (by omega)).mono ?_; rintro e w' ⟨rfl, rfl⟩) | (go_at_call 81; refine (push_newD base B _ _ s k sv gv fs [⟨262, 9, 0, f.list⟩, byF 58, ⟨258, 0, f.depth + 1, 0⟩] gs _ _ (HA2.out.alloc _) (by simp) (by rfl) (by simp; omega) _ rfl).mono ?_; rintro e w' ⟨rfl, sv', hr, hm⟩))
      all_goals
        have HR2 : Hid (RS w' base B s k sv' gv ([⟨262, 9, 0, f.list⟩, byF 58, ⟨258, 0, f.depth + 1, 0⟩] ++ fs) gs) := hr
        have HM2 : Hid (Mv base B sv gv sv' gv w w') := (HMV.out.trans (Mv.alloc HA2.out.bs _)).trans hm
        clear hr hm
        go_wp2_with fail
        go_end0
        exact ⟨rfl, sv', by rw [HL.out]; exact HR2.out, HM2.out⟩
    | false =>
      cases k7 : (f.kind == 7) with
      | true =>
        have HL : Hid (itemL f = [⟨261, 7, 0, f.list⟩, byF 58, ⟨258, 0, f.depth + 1, 0⟩]) := by show _ = _; unfold itemL; rw [if_neg (by simpa using k10), if_neg (by simpa using k9), if_pos (by simpa using k7)]
        have hb1 := fun w => buildF13 261 7 f.list w
        unfold frA
        go_enter Tryz.func114, Tryz.ntmps114
        go_wp2_with fail
        have f3 := f3.out
        have g0 := g0.out
        have g1 := g1.out
        have g2 := g2.out
        have g3 := g3.out
        have hz := hz.out
        generalize ((w.alloc (.cells #[.int .i64 f.sym, .int .i64 f.kind, .int .i64 f.depth, .int .i64 f.list] 139)).alloc (.cells #[.int .i64 258, .int .i64 0, .int .i64 (f.depth + 1), .int .i64 0] 139)) = w2 at *
        have hz' : w.heap.size < w2.heap.size := by omega
        go_region_with (first | (go_at_call 112; refine (byteOf_any _ _ (by omega) (by omega)).mono ?_; rintro e w' ⟨rfl, rfl⟩) | (go_at_call 81; refine (push_newD base B _ _ s k sv gv fs [⟨261, 7, 0, f.list⟩, byF 58, ⟨258, 0, f.depth + 1, 0⟩] gs _ _ (HA2.out.alloc _) (by simp) (by rfl) (by simp; omega) _ rfl).mono ?_; rintro e w' ⟨rfl, sv', hr, hm⟩))
        all_goals
          have HR2 : Hid (RS w' base B s k sv' gv ([⟨261, 7, 0, f.list⟩, byF 58, ⟨258, 0, f.depth + 1, 0⟩] ++ fs) gs) := hr
          have HM2 : Hid (Mv base B sv gv sv' gv w w') := (HMV.out.trans (Mv.alloc HA2.out.bs _)).trans hm
          clear hr hm
          go_wp2_with fail
          go_end0
          exact ⟨rfl, sv', by rw [HL.out]; exact HR2.out, HM2.out⟩
      | false =>
        have HL : Hid (itemL f = [⟨261, 4, 0, f.list⟩]) := by show _ = _; unfold itemL; rw [if_neg (by simpa using k10), if_neg (by simpa using k9), if_neg (by simpa using k7)]
        have hb1 := fun w => buildF13 261 4 f.list w
        unfold frA
        go_enter Tryz.func114, Tryz.ntmps114
        go_wp2_with fail
        refine (push_newL base B _ _ s k sv gv fs [⟨261, 4, 0, f.list⟩] gs _ _ HA2.out (by simp) (by rfl) (by simp; omega) _ rfl).mono ?_
        rintro e w' ⟨rfl, sv', hr, hm⟩
        have HR2 : Hid (RS w' base B s k sv' gv ([⟨261, 4, 0, f.list⟩] ++ fs) gs) := hr
        have HM2 : Hid (Mv base B sv gv sv' gv w w') := HMV.out.trans hm
        clear hr hm
        go_wp2_with fail
        go_end0
        exact ⟨rfl, sv', by rw [HL.out]; exact HR2.out, HM2.out⟩
end Go.Proofs.YtgbdmnjipdgmoaaGreat
namespace Go.Proofs.YtgbdmnjipdgmoaaGreat
open Go.RowKit

theorem buildSgn (d : Int) (p : Nat) (w : World) : (Instr.build 111 #[(0, .int .i64 3), (1, .int .i64 p), (2, .int .i64 d), (3, .int .i64 (-1))]).run Tryz.prog w = .ok (.agg #[.int .i64 3, .int .i64 p, .int .i64 d, .int .i64 (-1), .string ByteArray.empty]) w := run_build w 111 _ _ (by kernel_rfl)

theorem Mv.of_below {base B : Nat} {sv gv : Value} {w w' : World} (hb : Below w.heap.size w w') (h : base ≤ w.heap.size) : Mv base B sv gv sv gv w w' := ⟨hb.mono h, fun b hlt ho => ⟨hb.block b hlt, ho⟩⟩

/-- What must come for an expression, by its first byte; none: that byte cannot stand there. -/
def exprL (d : Int) (p : Nat) (c : Int) : Option (List FR) :=
  if c = 123 then some [byF 123, ⟨259, 4, d, p⟩, ⟨260, 4, d, p⟩, byF 125]
  else if c = 119 then some [byF 119, byF 40, ⟨259, 10, d, p⟩, ⟨260, 10, d, p⟩, byF 124, ⟨258, 0, d + 1, 0⟩, byF 41]
  else if c = 102 then some [byF 102, byF 40, ⟨259, 4, d, p⟩, ⟨260, 4, d, p⟩, byF 124, ⟨258, 0, d + 1, 0⟩, byF 41]
  else if c = 109 then some [byF 109, byF 40, ⟨259, 9, d, p⟩, ⟨260, 9, d, p⟩, byF 124, ⟨258, 0, d + 1, 0⟩, byF 41]
  else if c = 103 then some [byF 103, byF 40, ⟨259, 7, d, p⟩, ⟨260, 7, d, p⟩, byF 124, ⟨258, 0, d + 1, 0⟩, byF 41]
  else if c = 116 then some [byF 116, byF 40, ⟨261, 6, 0, -1⟩, byF 44, ⟨258, 0, d + 1, 0⟩, byF 41]
  else if c = 64 then some [byF 64, ⟨261, 8, 0, -1⟩]
  else if c = 61 then some [byF 61, ⟨263, 2, 0, -1⟩]
  else none

/-- One step of the machine at a place: can it go on? the place behind it; what must come now (the first first); what was read (the last first). -/
structure Res where
  ok : Bool
  at_ : Nat
  push : List FR
  sg : List SG
def stepR (s : ByteArray) (k : Nat) (f : FR) : Res :=
  let p := T.sk s k
  let c := T.ch s p
  if f.sym = 256 then ⟨true, p, [⟨263, 1, 0, -1⟩, byF 58, ⟨258, 0, 0, 0⟩], []⟩
  else if f.sym = 257 then ⟨true, p, if c = 59 then [byF 59, ⟨256, 0, 0, 0⟩, ⟨257, 0, 0, 0⟩] else [], []⟩
  else if f.sym = 258 then
    match exprL f.depth p c with
    | some l => ⟨true, p, l, [⟨3, p, f.depth, -1, ByteArray.empty⟩]⟩
    | none => ⟨false, p, [], []⟩
  else if f.sym = 259 then ⟨true, p, itemL f, []⟩
  else if f.sym = 260 then ⟨true, p, if c = 44 then [byF 44, ⟨259, f.kind, f.depth, f.list⟩, f] else [], []⟩
  else if f.sym = 261 then
    let r := T.dg s 9 58 true p
    if (r.1 && decide (p < r.2)) = true then ⟨true, r.2, [], [⟨f.kind, p, f.depth, f.list, s.extract p r.2⟩]⟩ else ⟨false, r.2, [], []⟩
  else if f.sym = 262 then
    let r := T.dg s 32 50 false p
    if (r.1 && decide (p < r.2)) = true then ⟨true, r.2, [], [⟨f.kind, p, f.depth, f.list, s.extract p r.2⟩]⟩ else ⟨false, r.2, [], []⟩
  else if f.sym = 263 then
    if 97 ≤ c ∧ c ≤ 122 then ⟨true, p + 1, [], [⟨f.kind, p, f.depth, f.list, s.extract p (p + 1)⟩]⟩ else ⟨false, p, [], []⟩
  else if c = f.sym then ⟨true, p + 1, [], []⟩ else ⟨false, p, [], []⟩

/-- The machine: at most n steps; none: it has not ended by then. Then: did it go to the end of what must come? where? what was read (the last first)? -/
def runR (s : ByteArray) : Nat → Nat → List FR → List SG → Option (Bool × Nat × List SG)
  | _, k, [], gs => some (true, k, gs)
  | 0, _, _ :: _, _ => none
  | n + 1, k, f :: fs, gs =>
    let r := stepR s k f
    if r.ok = true then runR s n r.at_ (r.push ++ fs) (r.sg ++ gs) else some (false, r.at_, gs)
end Go.Proofs.YtgbdmnjipdgmoaaGreat
