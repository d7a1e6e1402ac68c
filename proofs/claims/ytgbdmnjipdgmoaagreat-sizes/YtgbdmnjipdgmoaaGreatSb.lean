/-
  OUR OWN: the document's reader: digits.
  OUR OWN: the document's reader: byteOf, listOf, item.
-/
import Derived.Test.YtgbdmnjipdgmoaaGreatSa
import Derived.Laws.ResultCell
namespace Go.Proofs.YtgbdmnjipdgmoaaGreat
open Go.RowKit
namespace T

/-- A digit. -/
def dig (c : Int) : Bool := decide (48 ≤ c) && decide (c ≤ 57)
/-- Behind so many digits this one cannot stand. -/
def stp (most lim : Int) (plain : Bool) (c n c0 : Int) : Bool := decide (lim ≤ c) || (n == most || (plain && (n == 1 && c0 == 48)))
/-- Digits from j on, the first of them at p: can the byte stand where it does not go on? where is that? -/
def dgF (s : ByteArray) (most lim : Int) (plain : Bool) (p : Nat) : Nat → Nat → Bool × Nat
  | 0, j => (true, j)
  | n + 1, j => if dig (ch s j) = true then (if stp most lim plain (ch s j) ((j : Int) - p) (ch s p) = true then (false, j) else dgF s most lim plain p n (j + 1)) else (true, j)
def dg (s : ByteArray) (most lim : Int) (plain : Bool) (p : Nat) : Bool × Nat := dgF s most lim plain p (s.size - p + 1) p
theorem dgF_end {s : ByteArray} {most lim : Int} {plain : Bool} {p n j : Nat} (h : dig (ch s j) = false) : dgF s most lim plain p (n + 1) j = (true, j) := by
  simp only [dgF]; rw [if_neg (by rw [h]; decide)]
theorem dgF_stop {s : ByteArray} {most lim : Int} {plain : Bool} {p n j : Nat} (h : dig (ch s j) = true) (h2 : stp most lim plain (ch s j) ((j : Int) - p) (ch s p) = true) : dgF s most lim plain p (n + 1) j = (false, j) := by
  simp only [dgF]; rw [if_pos h, if_pos h2]
theorem dgF_next {s : ByteArray} {most lim : Int} {plain : Bool} {p n j : Nat} (h : dig (ch s j) = true) (h2 : stp most lim plain (ch s j) ((j : Int) - p) (ch s p) = false) : dgF s most lim plain p (n + 1) j = dgF s most lim plain p n (j + 1) := by
  simp only [dgF]; rw [if_pos h, if_neg (by rw [h2]; decide)]
end T

/-- The frame in its box. -/
structure FB (w : World) (b : Nat) (f : FR) : Prop where
  c0 : w.cell? ⟨b, 0, none⟩ = some (.int .i64 f.sym)
  c1 : w.cell? ⟨b, 1, none⟩ = some (.int .i64 f.kind)
  c2 : w.cell? ⟨b, 2, none⟩ = some (.int .i64 f.depth)
  c3 : w.cell? ⟨b, 3, none⟩ = some (.int .i64 f.list)
theorem FB.of_block {w w' : World} {b : Nat} {f : FR} (h : FB w b f) (e : w'.heap[b]? = w.heap[b]?) : FB w' b f :=
  ⟨by rw [World.cell?_of_block (w := w) e]; exact h.c0, by rw [World.cell?_of_block (w := w) e]; exact h.c1, by rw [World.cell?_of_block (w := w) e]; exact h.c2, by rw [World.cell?_of_block (w := w) e]; exact h.c3⟩

set_option maxRecDepth 100000 in
set_option maxHeartbeats 3200000 in
theorem digits_any (base B : Nat) (s : ByteArray) (k : Nat) (f : FR) (most lim : Int) (plain : Bool) (sv gv : Value) (fs : List FR) (gs : List SG) (w : World) (h : RS w base B s k sv gv fs gs) (hs : s.size ≤ 2000) (hk : k ≤ s.size) (hlen : gs.length + 1 ≤ 1099511627776) :
    Calls Tryz.prog 115 #[.pointer (some ⟨B, 0, none⟩), frA f, .int .i64 most, .int .u8 lim, .bool plain] w fun e w' =>
      (((T.dg s most lim plain (T.sk s k)).1 && decide (T.sk s k < (T.dg s most lim plain (T.sk s k)).2)) = false ∧ e = .returned (.bool false) ∧ RS w' base B s (T.dg s most lim plain (T.sk s k)).2 sv gv fs gs ∧ Mv base B sv gv sv gv w w') ∨
      (((T.dg s most lim plain (T.sk s k)).1 && decide (T.sk s k < (T.dg s most lim plain (T.sk s k)).2)) = true ∧ e = .returned (.bool true) ∧ ∃ gv', RS w' base B s (T.dg s most lim plain (T.sk s k)).2 sv gv' fs
        ({ kind := f.kind, place := T.sk s k, depth := f.depth, list := f.list, text := s.extract (T.sk s k) (T.dg s most lim plain (T.sk s k)).2 } :: gs) ∧ Mv base B sv gv sv gv' w w') := by
  have hpk : T.sk s k ≤ s.size := T.sk_le hk
  have hpee := fun (wz : World) (hz : RS wz base B s k sv gv fs gs) => peek_any base B s k sv gv fs gs wz hs hk hz
  generalize hpe : T.sk s k = p at *
  have HPE : Hid (∀ (wz : World), RS wz base B s k sv gv fs gs → Calls Tryz.prog 83 #[.pointer (some ⟨B, 0, none⟩)] wz fun e w' => e = .returned (.int .i64 (T.ch s p)) ∧ RS w' base B s p sv gv fs gs ∧ Mv base B sv gv sv gv wz w') := hpee
  clear hpe hpee hk
  unfold frA
  go_enter Tryz.func115, Tryz.ntmps115
  go_wp2_with fail
  have hA := h.alloc (.cells #[.int .i64 f.sym, .int .i64 f.kind, .int .i64 f.depth, .int .i64 f.list] 139)
  have hF : FB (w.alloc (.cells #[.int .i64 f.sym, .int .i64 f.kind, .int .i64 f.depth, .int .i64 f.list] 139)) w.heap.size f := ⟨by simp, by simp, by simp, by simp⟩
  have hou := h.outNew
  have hwl : w.heap.size < (w.alloc (.cells #[.int .i64 f.sym, .int .i64 f.kind, .int .i64 f.depth, .int .i64 f.list] 139)).heap.size := by simp
  have hmv : Mv base B sv gv sv gv w (w.alloc (.cells #[.int .i64 f.sym, .int .i64 f.kind, .int .i64 f.depth, .int .i64 f.list] 139)) := Mv.alloc h.bs _
  refine (HPE.out _ hA).mono ?_
  rintro e w1 ⟨rfl, hr1, hm1⟩
  have hk1 := hm1.kept w.heap.size hwl hou
  have hF1 := hF.of_block hk1.1
  have hwl1 : w.heap.size < w1.heap.size := Nat.lt_of_lt_of_le hwl hm1.bel.size
  have HM1 : Hid (Mv base B sv gv sv gv w w1) := hmv.trans hm1
  have HR1 : Hid (RS w1 base B s p sv gv fs gs) := hr1
  have c1 := hr1.c1
  clear hmv hm1 hA hF hwl hr1 hk1 h
  go_wp2_with fail
  go_loopg [12] (s.size - p) (fun n _ wr => ∃ j : Nat, p ≤ j ∧ j ≤ s.size ∧ n = s.size - j ∧ T.dgF s most lim plain p (s.size - j + 1) j = T.dg s most lim plain p ∧ RS wr base B s j sv gv fs gs ∧ Mv base B sv gv sv gv w wr ∧ FB wr w.heap.size f)
  case atStart => exact ⟨p, Nat.le_refl _, hpk, rfl, rfl, HR1.out, HM1.out, hF1⟩
  case round =>
    obtain ⟨j, hpj, hjs, hn, hD, hr, hm, hfb⟩ := hrel
    have c0 := hr.c0
    have c1 := hr.c1
    have z1 := hr.fz 1
    have b0 := hfb.c0
    have b1 := hfb.c1
    have b2 := hfb.c2
    have b3 := hfb.c3
    have HR : Hid (RS wr base B s j sv gv fs gs) := hr
    have HM : Hid (Mv base B sv gv sv gv w wr) := hm
    have HFB : Hid (FB wr w.heap.size f) := hfb
    have HN : Hid (gk = s.size - j) := hn
    have HD0 : Hid (T.dgF s most lim plain p (s.size - j + 1) j = T.dg s most lim plain p) := hD
    clear hr hm hn hD hfb HR1 HM1 hF1
    by_cases hlt : j < s.size
    · have hlt' : (j : Int) < (s.size : Int) := by omega
      have hplt' : (p : Int) < (s.size : Int) := by omega
      have hplt : p < s.size := by omega
      have hch : ((s[j]).toNat : Int) = T.ch s j := (T.ch_lt hlt).symm
      have hcp : ((s[p]).toNat : Int) = T.ch s p := (T.ch_lt hplt).symm
      obtain ⟨cb0, cb1⟩ := T.ch_bd hlt
      by_cases h48 : 48 ≤ T.ch s j
      · by_cases h57 : T.ch s j ≤ 57
        · have hdig : T.dig (T.ch s j) = true := by simp [T.dig, h48, h57]
          have d48 : decide (48 ≤ T.ch s j) = true := decide_eq_true h48
          have d57 : decide (T.ch s j ≤ 57) = true := decide_eq_true h57
          by_cases hlim : lim ≤ T.ch s j
          · have hst : T.stp most lim plain (T.ch s j) ((j : Int) - p) (T.ch s p) = true := by simp [T.stp, hlim]
            have HD : Hid (T.dg s most lim plain p = (false, j)) := HD0.out.symm.trans (T.dgF_stop hdig hst)
            have dl : decide (lim ≤ T.ch s j) = true := decide_eq_true hlim
            clear hst hdig
            go_wp2_with fail
            go_quiet (fail)
            go_wp2_with fail
            go_quiet (fail)
            go_wp2_with fail
            go_ret
            exact .inl ⟨by rw [HD.out]; rfl, rfl, by rw [HD.out]; exact (HR.out.drewN _).drewN _, (HM.out.drewN _).drewN _⟩
          · have dl : decide (lim ≤ T.ch s j) = false := decide_eq_false hlim
            cases hmost : ((j : Int) - p == most) with
            | true =>
              have hst : T.stp most lim plain (T.ch s j) ((j : Int) - p) (T.ch s p) = true := by simp [T.stp, hmost]
              have HD : Hid (T.dg s most lim plain p = (false, j)) := HD0.out.symm.trans (T.dgF_stop hdig hst)
              clear hst hdig
              go_wp2_with fail
              go_quiet (fail)
              go_wp2_with fail
              go_quiet (fail)
              go_wp2_with fail
              go_ret
              exact .inl ⟨by rw [HD.out]; rfl, rfl, by rw [HD.out]; exact (HR.out.drewN _).drewN _, (HM.out.drewN _).drewN _⟩
            | false =>
              cases plain with
              | false =>
                have hst : T.stp most lim false (T.ch s j) ((j : Int) - p) (T.ch s p) = false := by simp only [T.stp, dl, hmost]; rfl
                have e1 : s.size - j + 1 = (s.size - (j + 1) + 1) + 1 := by omega
                have HD : Hid (T.dgF s most lim false p (s.size - (j + 1) + 1) (j + 1) = T.dg s most lim false p) := by
                  have := HD0.out; rw [e1, T.dgF_next hdig hst] at this; exact this
                clear hst hdig e1
                go_wp2_with fail
                go_quiet (fail)
                go_wp2_with fail
                go_quiet (fail)
                go_wp2_with fail
                go_roundg (s.size - (j + 1))
                case measure => rw [HN.out]; omega
                case rel => exact ⟨j + 1, by omega, by omega, rfl, HD.out, (HR.out.drewN _).at (j + 1) _ (by omega), (HM.out.drewN _).trans ((HR.out.drewN _).atMv _), HFB.out.of_block (heap_set_ne hou.1)⟩
              | true =>
                cases hone : ((j : Int) - p == 1) with
                | false =>
                  have hst : T.stp most lim true (T.ch s j) ((j : Int) - p) (T.ch s p) = false := by simp only [T.stp, dl, hmost, hone]; rfl
                  have e1 : s.size - j + 1 = (s.size - (j + 1) + 1) + 1 := by omega
                  have HD : Hid (T.dgF s most lim true p (s.size - (j + 1) + 1) (j + 1) = T.dg s most lim true p) := by
                    have := HD0.out; rw [e1, T.dgF_next hdig hst] at this; exact this
                  clear hst hdig e1
                  go_wp2_with fail
                  go_quiet (fail)
                  go_wp2_with fail
                  go_quiet (fail)
                  go_wp2_with fail
                  go_roundg (s.size - (j + 1))
                  case measure => rw [HN.out]; omega
                  case rel => exact ⟨j + 1, by omega, by omega, rfl, HD.out, (HR.out.drewN _).at (j + 1) _ (by omega), (HM.out.drewN _).trans ((HR.out.drewN _).atMv _), HFB.out.of_block (heap_set_ne hou.1)⟩
                | true =>
                  cases hz : (T.ch s p == 48) with
                  | false =>
                    have hst : T.stp most lim true (T.ch s j) ((j : Int) - p) (T.ch s p) = false := by simp only [T.stp, dl, hmost, hone, hz]; rfl
                    have e1 : s.size - j + 1 = (s.size - (j + 1) + 1) + 1 := by omega
                    have HD : Hid (T.dgF s most lim true p (s.size - (j + 1) + 1) (j + 1) = T.dg s most lim true p) := by
                      have := HD0.out; rw [e1, T.dgF_next hdig hst] at this; exact this
                    clear hst hdig e1
                    go_wp2_with fail
                    go_quiet (fail)
                    go_wp2_with fail
                    go_quiet (fail)
                    go_wp2_with fail
                    go_roundg (s.size - (j + 1))
                    case measure => rw [HN.out]; omega
                    case rel => exact ⟨j + 1, by omega, by omega, rfl, HD.out, (HR.out.drewN _).at (j + 1) _ (by omega), (HM.out.drewN _).trans ((HR.out.drewN _).atMv _), HFB.out.of_block (heap_set_ne hou.1)⟩
                  | true =>
                    have hst : T.stp most lim true (T.ch s j) ((j : Int) - p) (T.ch s p) = true := by simp only [T.stp, dl, hmost, hone, hz]; rfl
                    have HD : Hid (T.dg s most lim true p = (false, j)) := HD0.out.symm.trans (T.dgF_stop hdig hst)
                    clear hst hdig
                    go_wp2_with fail
                    go_quiet (fail)
                    go_wp2_with fail
                    go_quiet (fail)
                    go_wp2_with fail
                    go_ret
                    exact .inl ⟨by rw [HD.out]; rfl, rfl, by rw [HD.out]; exact (HR.out.drewN _).drewN _, (HM.out.drewN _).drewN _⟩
        · have hdig : T.dig (T.ch s j) = false := by simp [T.dig, h57]
          have HD : Hid (T.dg s most lim plain p = (true, j)) := HD0.out.symm.trans (T.dgF_end hdig)
          have d48 : decide (48 ≤ T.ch s j) = true := decide_eq_true h48
          have d57 : decide (T.ch s j ≤ 57) = false := decide_eq_false h57
          clear hdig
          cases he : ((j : Int) == (p : Int)) with
          | true =>
            have hej : Hid (j = p) := by show _ = _; simp at he; omega
            go_wp2_with fail
            go_quiet (fail)
            go_wp2_with fail
            go_ret
            exact .inl ⟨by rw [HD.out, hej.out]; simp, rfl, by rw [HD.out]; exact HR.out.drewN _, HM.out.drewN _⟩
          | false =>
            have hej : Hid (p < j) := by show _ < _; simp at he; omega
            have hou2 : Out B sv gv w.heap.size := hou
            go_wp2_with fail
            go_quiet (fail)
            go_wp2_with fail
            refine (sign_any base B s j p f sv gv fs gs _ (HR.out.drewN _) hpj hjs hlen).mono ?_
            rintro e w5 ⟨rfl, gv', hr5, hm5⟩
            have HR5 : Hid (RS w5 base B s j sv gv' fs (⟨f.kind, p, f.depth, f.list, s.extract p j⟩ :: gs)) := hr5
            have HM5 : Hid (Mv base B sv gv sv gv' w w5) := (HM.out.drewN _).trans hm5
            clear hr5 hm5
            go_wp2_with fail
            go_ret
            exact .inr ⟨by rw [HD.out]; simp [hej.out], rfl, gv', by rw [HD.out]; exact HR5.out, HM5.out⟩
      · have hdig : T.dig (T.ch s j) = false := by simp [T.dig, h48]
        have HD : Hid (T.dg s most lim plain p = (true, j)) := HD0.out.symm.trans (T.dgF_end hdig)
        have d48 : decide (48 ≤ T.ch s j) = false := decide_eq_false h48
        clear hdig
        cases he : ((j : Int) == (p : Int)) with
        | true =>
          have hej : Hid (j = p) := by show _ = _; simp at he; omega
          go_wp2_with fail
          go_quiet (fail)
          go_wp2_with fail
          go_ret
          exact .inl ⟨by rw [HD.out, hej.out]; simp, rfl, by rw [HD.out]; exact HR.out.drewN _, HM.out.drewN _⟩
        | false =>
          have hej : Hid (p < j) := by show _ < _; simp at he; omega
          have hou2 : Out B sv gv w.heap.size := hou
          go_wp2_with fail
          go_quiet (fail)
          go_wp2_with fail
          refine (sign_any base B s j p f sv gv fs gs _ (HR.out.drewN _) hpj hjs hlen).mono ?_
          rintro e w5 ⟨rfl, gv', hr5, hm5⟩
          have HR5 : Hid (RS w5 base B s j sv gv' fs (⟨f.kind, p, f.depth, f.list, s.extract p j⟩ :: gs)) := hr5
          have HM5 : Hid (Mv base B sv gv sv gv' w w5) := (HM.out.drewN _).trans hm5
          clear hr5 hm5
          go_wp2_with fail
          go_ret
          exact .inr ⟨by rw [HD.out]; simp [hej.out], rfl, gv', by rw [HD.out]; exact HR5.out, HM5.out⟩
    · have hdig : T.dig (T.ch s j) = false := by rw [T.ch_ge hlt]; rfl
      have HD : Hid (T.dg s most lim plain p = (true, j)) := HD0.out.symm.trans (T.dgF_end hdig)
      have hd : decide ((j : Int) < (s.size : Int)) = false := decide_eq_false (by omega)
      clear hdig
      cases he : ((j : Int) == (p : Int)) with
      | true =>
        have hej : Hid (j = p) := by show _ = _; simp at he; omega
        go_wp2_with fail
        go_quiet (fail)
        go_wp2_with fail
        go_ret
        exact .inl ⟨by rw [HD.out, hej.out]; simp, rfl, by rw [HD.out]; exact HR.out.drewN _, HM.out.drewN _⟩
      | false =>
        have hej : Hid (p < j) := by show _ < _; simp at he; omega
        have hou2 : Out B sv gv w.heap.size := hou
        go_wp2_with fail
        go_quiet (fail)
        go_wp2_with fail
        refine (sign_any base B s j p f sv gv fs gs _ (HR.out.drewN _) hpj hjs hlen).mono ?_
        rintro e w5 ⟨rfl, gv', hr5, hm5⟩
        have HR5 : Hid (RS w5 base B s j sv gv' fs (⟨f.kind, p, f.depth, f.list, s.extract p j⟩ :: gs)) := hr5
        have HM5 : Hid (Mv base B sv gv sv gv' w w5) := (HM.out.drewN _).trans hm5
        clear hr5 hm5
        go_wp2_with fail
        go_ret
        exact .inr ⟨by rw [HD.out]; simp [hej.out], rfl, gv', by rw [HD.out]; exact HR5.out, HM5.out⟩
end Go.Proofs.YtgbdmnjipdgmoaaGreat
namespace Go.Proofs.YtgbdmnjipdgmoaaGreat
open Go.RowKit

theorem buildF1 (a : Int) (w : World) : (Instr.build 139 #[(0, .int .i64 a)]).run Tryz.prog w = .ok (.agg #[.int .i64 a, .int .i64 0, .int .i64 0, .int .i64 0]) w := run_build w 139 _ _ (by kernel_rfl)
theorem buildF13 (a b d : Int) (w : World) : (Instr.build 139 #[(0, .int .i64 a), (1, .int .i64 b), (3, .int .i64 d)]).run Tryz.prog w = .ok (.agg #[.int .i64 a, .int .i64 b, .int .i64 0, .int .i64 d]) w := run_build w 139 _ _ (by kernel_rfl)
theorem buildF2 (a c : Int) (w : World) : (Instr.build 139 #[(0, .int .i64 a), (2, .int .i64 c)]).run Tryz.prog w = .ok (.agg #[.int .i64 a, .int .i64 0, .int .i64 c, .int .i64 0]) w := run_build w 139 _ _ (by kernel_rfl)
theorem buildF4 (a b c d : Int) (w : World) : (Instr.build 139 #[(0, .int .i64 a), (1, .int .i64 b), (2, .int .i64 c), (3, .int .i64 d)]).run Tryz.prog w = .ok (.agg #[.int .i64 a, .int .i64 b, .int .i64 c, .int .i64 d]) w := run_build w 139 _ _ (by kernel_rfl)

/-- A byte that must come. -/
def byF (c : Int) : FR := ⟨c, 0, 0, 0⟩

set_option maxHeartbeats 400000 in
theorem byteOf_any (c : Int) (w : World) (c0 : 0 ≤ c) (c1 : c < 256) :
    Calls Tryz.prog 112 #[.int .u8 c] w fun e w' => e = .returned (.agg #[.int .i64 c, .int .i64 0, .int .i64 0, .int .i64 0]) ∧ w' = w.alloc (.cells #[.int .i64 c, .int .i64 0, .int .i64 0, .int .i64 0] 139) := by
  have h1 := fun w => buildF1 c w
  go_enter Tryz.func112, Tryz.ntmps112
  go_wp2
  exact bodyPost_ret (v := .agg #[.int .i64 c, .int .i64 0, .int .i64 0, .int .i64 0]) (by simp [results, Tryz.results112, go_sem]) rfl ⟨rfl, by simp⟩

set_option maxHeartbeats 400000 in
theorem listOf_any (k d l : Int) (w : World) :
    Calls Tryz.prog 129 #[.int .i64 k, .int .i64 d, .int .i64 l] w fun e w' => e = .returned (.slice (some ⟨w.heap.size, 0, none⟩) 2 2) ∧ w' = w.alloc (.cells #[.int .i64 259, .int .i64 k, .int .i64 d, .int .i64 l, .int .i64 260, .int .i64 k, .int .i64 d, .int .i64 l] 139) := by
  have h1 := fun w => buildF4 259 k d l w
  have h2 := fun w => buildF4 260 k d l w
  go_enter Tryz.func129, Tryz.ntmps129
  go_wp2
  go_ret
  exact ⟨rfl, rfl⟩

def frL (ls : List FR) : List Value := ls.flatMap frV
theorem frL_get (ls : List FR) : ∀ (i : Nat) (f : FR) (j : Nat), ls[i]? = some f → j < 4 → (frL ls)[i * 4 + j]? = (frV f)[j]? := by
  induction ls with
  | nil => intro i f j h; simp at h
  | cons g r ih =>
    intro i f j h hj
    simp only [frL, List.flatMap_cons]
    cases i with
    | zero =>
      simp at h
      subst h
      rw [Nat.zero_mul, Nat.zero_add, List.getElem?_append_left (by simp [frV]; omega)]
    | succ i =>
      simp at h
      have := ih i f j h hj
      rw [List.getElem?_append_right (by simp [frV]; omega)]
      have e : (i + 1) * 4 + j - (frV g).length = i * 4 + j := by simp [frV]; omega
      rw [e]; exact this
theorem LS.new (w : World) (C : Array Value) (ls : List FR) (h : C.toList = frL ls) : LS (w.alloc (.cells C 139)) w.heap.size ls := by
  intro i f hf
  have hc : ∀ j, j < 4 → (w.alloc (.cells C 139)).cell? ⟨w.heap.size, i * 4 + j, none⟩ = (frV f)[j]? := fun j hj => by
    rw [← frL_get ls i f j hf hj, ← h]
    rw [World.cell?_alloc_mark]; simp
  exact ⟨hc 0 (by omega), hc 1 (by omega), hc 2 (by omega), hc 3 (by omega)⟩

/-- A list that was just laid, pushed. -/
theorem push_new (base B c : Nat) (s : ByteArray) (k : Nat) (sv gv : Value) (fs ls : List FR) (gs : List SG) (C : Array Value) (w : World) (h : RS w base B s k sv gv fs gs) (hC : C.toList = frL ls) (hlen : fs.length + ls.length ≤ 1099511627776) (n : Nat) (hn : n = ls.length) :
    Calls Tryz.prog 81 #[.pointer (some ⟨B, 0, none⟩), .slice (some ⟨w.heap.size, 0, none⟩) n c] (w.alloc (.cells C 139)) fun e w' => e = .returned (.tuple #[]) ∧ ∃ sv', RS w' base B s k sv' gv (ls ++ fs) gs ∧ Mv base B sv gv sv' gv w w' := by
  subst hn
  refine (push_any base B w.heap.size c s k sv gv fs ls gs _ (h.alloc _) (LS.new w C ls hC) h.outNew (by simp) hlen).mono ?_
  rintro e w' ⟨he, sv', hr, hm⟩
  exact ⟨he, sv', hr, (Mv.alloc h.bs _).trans hm⟩

theorem RS.drew {w : World} {base B s k sv gv fs gs} (h : RS w base B s k sv gv fs gs) : RS w.drew base B s k sv gv fs gs := ⟨h.blk, h.st, h.sg, h.hB⟩
theorem Mv.drew {base B : Nat} {a b c d : Value} {w w1 : World} (h : Mv base B a b c d w w1) : Mv base B a b c d w w1.drew := ⟨h.bel.drew, h.kept⟩
/-- The same behind a draw. -/
theorem push_newD (base B lb c : Nat) (s : ByteArray) (k : Nat) (sv gv : Value) (fs ls : List FR) (gs : List SG) (C : Array Value) (w : World) (h : RS w base B s k sv gv fs gs) (hlb : lb = w.heap.size) (hC : C.toList = frL ls) (hlen : fs.length + ls.length ≤ 1099511627776) (n : Nat) (hn : n = ls.length) :
    Calls Tryz.prog 81 #[.pointer (some ⟨B, 0, none⟩), .slice (some ⟨lb, 0, none⟩) n c] (w.alloc (.cells C 139)).drew fun e w' => e = .returned (.tuple #[]) ∧ ∃ sv', RS w' base B s k sv' gv (ls ++ fs) gs ∧ Mv base B sv gv sv' gv w w' := by
  subst hlb
  subst hn
  have hl : LS (w.alloc (.cells C 139)).drew w.heap.size ls := LS.new w C ls hC
  refine (push_any base B w.heap.size c s k sv gv fs ls gs _ (h.alloc _).drew hl h.outNew (by simp) hlen).mono ?_
  rintro e w' ⟨he, sv', hr, hm⟩
  exact ⟨he, sv', hr, ((Mv.alloc h.bs _).drew).trans hm⟩
theorem push_newL (base B lb c : Nat) (s : ByteArray) (k : Nat) (sv gv : Value) (fs ls : List FR) (gs : List SG) (C : Array Value) (w : World) (h : RS w base B s k sv gv fs gs) (hlb : lb = w.heap.size) (hC : C.toList = frL ls) (hlen : fs.length + ls.length ≤ 1099511627776) (n : Nat) (hn : n = ls.length) :
    Calls Tryz.prog 81 #[.pointer (some ⟨B, 0, none⟩), .slice (some ⟨lb, 0, none⟩) n c] (w.alloc (.cells C 139)) fun e w' => e = .returned (.tuple #[]) ∧ ∃ sv', RS w' base B s k sv' gv (ls ++ fs) gs ∧ Mv base B sv gv sv' gv w w' := by
  subst hlb
  exact push_new base B c s k sv gv fs ls gs C w h hC hlen n hn

/-- What must come for an item. -/
def itemL (f : FR) : List FR :=
  if f.kind = 10 then [⟨261, 4, 0, f.list⟩, byF 42, ⟨261, 5, 0, -1⟩]
  else if f.kind = 9 then [⟨262, 9, 0, f.list⟩, byF 58, ⟨258, 0, f.depth + 1, 0⟩]
  else if f.kind = 7 then [⟨261, 7, 0, f.list⟩, byF 58, ⟨258, 0, f.depth + 1, 0⟩]
  else [⟨261, 4, 0, f.list⟩]
end Go.Proofs.YtgbdmnjipdgmoaaGreat
