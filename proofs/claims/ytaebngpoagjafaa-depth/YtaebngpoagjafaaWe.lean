/-
  OUR OWN: the contract of areMap.
-/
import Derived.Test.YtaebngpoagjafaaWd
import Derived.Laws.StructEq
import Derived.Laws.Tables
namespace Go.Proofs.Ytaebngpoagjafaa
open Go.RowKit

theorem PS.drewN {w : World} {ao b n V L} (h : PS w ao b n V L) (m : Nat) : PS (w.drewN m) ao b n V L := ⟨h.at_, h.lt, h.val, h.len⟩

theorem eqPrefix (a b c d : Int) (w : World) : (Op.equalIn 10000 25 (.agg #[.int .i64 a, .int .i64 b]) (.agg #[.int .i64 c, .int .i64 d])).run Try.prog w = .ok (a == c && b == d) w := by
  have u3 := Try.underlying3
  have hS : Try.prog.underlying 25 = some (.struct (Try.prog.fieldsOf 25)) := by kernel_rfl
  have hp : Try.prog.stoodInHeld 25 = false := by kernel_rfl
  rw [show (10000 : Nat) = 9999 + 1 from rfl, run_equalIn_agg w 9999 25 _ _ hS hp]
  simp only [Program.fieldsOf, Try.underlying25]
  go_simp
  by_cases h1 : a = c <;> by_cases h2 : b = d <;> simp [h1, h2]

set_option maxHeartbeats 400000 in
theorem areMap_any (ao : Option Addr) (b n c : Nat) (V L : Nat → Int) (w : World) (hn : n ≤ 9223372036854775807) (hs : PS w ao b n V L) :
    Calls Try.prog 17 #[.slice ao n c] w fun e w' => e = .returned (.bool (M.isMap V L n)) ∧ Below w.heap.size w w' := by
  by_cases h64 : n ≤ 64
  · go_enter Try.func17, Try.ntmps17
    go_wp2
    go_loopw [3] (fun i wr => ∃ k : Nat, k ≤ n ∧ i = .int .i64 k ∧ M.okTo V L k = true ∧ Below w.heap.size w wr) (fun i _ => n - (intOf i).toNat)
    case atStart => exact ⟨0, by omega, rfl, rfl, Below.refl _ _⟩
    case round =>
      obtain ⟨k, hk, rfl, hf, hb⟩ := hrel
      by_cases hlt : k < n
      · obtain rfl := hs.at_ (by omega)
        have hps := hs.below hb
        have hv := hps.val k hlt
        have hl := hps.len k hlt
        have hbb : b < wr.heap.size := hps.lt (by omega)
        have hR : Hid (Below w.heap.size w wr) := hb
        have hT : PS wr (some ⟨b, 0, none⟩) b n V L := hps
        clear hs hb hps
        cases e1 : M.isP (V k) (L k) with
        | false =>
          have ht : Hid (M.isMap V L n = false) := M.isMap_bad hlt (.inl e1)
          go_wp2_with fail
          refine (isPrefix_any _ _ _).mono ?_
          rintro e w1 ⟨rfl, hb1⟩
          have hx : Hid (Below w.heap.size w w1) := hR.out.trans (hb1.mono hR.out.size)
          clear hb1
          go_wp2_with fail
          go_ret
          exact ⟨ret_bool ht.out.symm, hx.out⟩
        | true =>
          go_wp2_with fail
          refine (isPrefix_any _ _ _).mono ?_
          rintro e w1 ⟨rfl, hb1⟩
          have hT1 : PS w1 (some ⟨b, 0, none⟩) b n V L := hT.below hb1
          have hx : Hid (Below w.heap.size w w1) := hR.out.trans (hb1.mono hR.out.size)
          clear hb1 hv hl hT
          go_wp2_with fail
          go_loopw [5] (fun j wq => ∃ i : Nat, i ≤ k ∧ j = .int .i64 i ∧ M.inTo V L (V k) (L k) i = false ∧ PS wq (some ⟨b, 0, none⟩) b n V L ∧ Below w.heap.size w wq) (fun j _ => k - (intOf j).toNat)
          case atStart => exact ⟨0, by omega, rfl, rfl, hT1, hx⟩
          case round =>
            obtain ⟨i, hi, rfl, hg, hTq, hbq⟩ := hrel
            clear hT1 hx
            by_cases hil : i < k
            · have hvk := hTq.val k hlt
              have hlk := hTq.len k hlt
              have hvi := hTq.val i (by omega)
              have hli := hTq.len i (by omega)
              have kn : (k : Int) < n := by omega
              have iN : (i : Int) < n := by omega
              have heq := fun w => eqPrefix (V k) (L k) (V i) (L i) w
              cases e3 : (V k == V i && L k == L i) with
              | true =>
                rw [e3] at heq
                have ht : Hid (M.isMap V L n = false) := M.isMap_bad hlt (.inr (M.inTo_hit hil (by simp at e3; exact e3.1.symm) (by simp at e3; exact e3.2.symm)))
                clear e3
                go_wp2_with fail
                go_quiet (fail)
                go_wp2_with fail
                go_ret
                exact ⟨ret_bool ht.out.symm, below_drewN hbq _⟩
              | false =>
                rw [e3] at heq
                have HF : Hid (M.inTo V L (V k) (L k) (i + 1) = false) := by
                  have hq : (V i == V k && L i == L k) = false := by rw [← e3, Bool.beq_comm (a := V i), Bool.beq_comm (a := L i)]
                  show _ = _; simp only [M.inTo, hg, hq, Bool.or_false]
                clear e3
                go_wp2_with fail
                go_quiet (fail)
                go_wp2_with fail
                go_roundw
                case rel => exact ⟨i + 1, by omega, by go_num, HF, hTq.drewN _, below_drewN hbq _⟩
                case measure => simp [intOf]; omega
            · have hik : i = k := by omega
              subst hik
              have HF : Hid (M.okTo V L (i + 1) = true) := by show _ = _; simp [M.okTo, hf, e1, hg]
              go_wp2_with fail
              go_roundw
              case rel => exact ⟨i + 1, by omega, by go_num, HF, hbq⟩
              case measure => simp [intOf]; omega
      · have hkn : k = n := by omega
        subst hkn
        have ht : Hid (M.isMap V L k = true) := by show _ = _; simp [M.isMap, hf, h64]
        go_wp2
        go_ret
        exact ⟨ret_bool ht.out.symm, hb⟩
  · have ht : Hid (M.isMap V L n = false) := by show _ = _; simp [M.isMap, h64]
    go_enter Try.func17, Try.ntmps17
    go_wp2
    go_ret
    exact ⟨ret_bool ht.out.symm, Below.refl _ _⟩
end Go.Proofs.Ytaebngpoagjafaa
