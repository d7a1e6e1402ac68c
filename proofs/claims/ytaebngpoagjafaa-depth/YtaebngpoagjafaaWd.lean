/-
  OUR OWN: the contract of IsList.
-/
import Derived.Test.YtaebngpoagjafaaWc
namespace Go.Proofs.Ytaebngpoagjafaa
open Go.RowKit

theorem PS.drew {w : World} {ao b n V L} (h : PS w ao b n V L) : PS w.drew ao b n V L := ⟨h.at_, h.lt, h.val, h.len⟩
theorem bcell {W w1 : World} (hb : Below W.heap.size W w1) : ∀ b o, b < W.heap.size → w1.cell? ⟨b, o, none⟩ = W.cell? ⟨b, o, none⟩ := fun b o h => hb.cell (p := ⟨b, o, none⟩) h

set_option maxHeartbeats 400000 in
theorem IsList_any (ao : Option Addr) (b n c : Nat) (V L : Nat → Int) (w : World) (hn : n ≤ 9223372036854775807) (hc : n ≤ c) (hs : PS w ao b n V L) :
    Calls Try.prog 20 #[.slice ao n c] w fun e w' => e = .returned (.bool (M.isMap V L n)) ∧ Below w.heap.size w w' := by
  by_cases h64 : n ≤ 64
  · go_enter Try.func20, Try.ntmps20
    go_wp2
    go_loopw [10] (fun i wr => ∃ k : Nat, k ≤ n ∧ i = .int .i64 k ∧ M.okTo V L k = true ∧ Below w.heap.size w wr) (fun i _ => n - (intOf i).toNat)
    case atStart => exact ⟨0, by omega, rfl, rfl, Below.refl _ _⟩
    case round =>
      obtain ⟨k, hk, rfl, hf, hb⟩ := hrel
      by_cases hlt : k < n
      · obtain rfl := hs.at_ (by omega)
        have hps := hs.below hb
        have hv := hps.val k hlt
        have hl := hps.len k hlt
        have hbb : b < wr.heap.size := hps.lt (by omega)
        have hR : Hid (Below w.heap.size w wr) := hb
        have hT : PS wr (some ⟨b, 0, none⟩) b k V L := hps.take hk
        clear hs hb hps
        cases e1 : M.isP (V k) (L k) with
        | false =>
          have ht : Hid (M.isMap V L n = false) := M.isMap_bad hlt (.inl e1)
          go_wp2_with fail
          refine (IsPrefix_any _ _ _).mono ?_
          rintro e w1 ⟨rfl, hb1⟩
          have hx : Hid (Below w.heap.size w w1) := hR.out.trans ((((Below.refl _ _).alloc (Nat.le_refl _) _).trans (hb1.mono (by simp))).mono hR.out.size)
          clear hb1
          go_wp2_with fail
          go_ret
          exact ⟨ret_bool ht.out.symm, hx.out⟩
        | true =>
          go_wp2_with fail
          refine (IsPrefix_any _ _ _).mono ?_
          rintro e w1 ⟨rfl, hb1⟩
          have hT1 : PS w1 (some ⟨b, 0, none⟩) b k V L := (hT.below ((Below.refl _ _).alloc (Nat.le_refl _) _)).below hb1
          have q0 := bcell hb1 wr.heap.size 0 (by simp)
          have q1 := bcell hb1 wr.heap.size 1 (by simp)
          have hx : Hid (Below w.heap.size w w1) := hR.out.trans ((((Below.refl _ _).alloc (Nat.le_refl _) _).trans (hb1.mono (by simp))).mono hR.out.size)
          simp at q0 q1
          clear hb1 hv hl
          cases e2 : M.inTo V L (V k) (L k) k with
          | true =>
            have ht : Hid (M.isMap V L n = false) := M.isMap_bad hlt (.inr e2)
            go_wp2_with fail
            go_region_with (go_at_call 27; refine (holds_any _ b k c V L _ _ _ (by omega) (by exact hT1.drew)).mono ?_; rintro e w2 ⟨rfl, hb2⟩)
            all_goals
              go_wp2_with fail
              go_ret
              exact ⟨ret_bool ht.out.symm, (hx.out.drew).trans (hb2.mono hx.out.size)⟩
          | false =>
            have HF : Hid (M.okTo V L (k + 1) = true) := by show _ = _; simp [M.okTo, hf, e1, e2]
            go_wp2_with fail
            go_region_with (go_at_call 27; refine (holds_any _ b k c V L _ _ _ (by omega) (by exact hT1.drew)).mono ?_; rintro e w2 ⟨rfl, hb2⟩)
            all_goals
              have hy : Hid (Below w.heap.size w w2) := (hx.out.drew).trans (hb2.mono hx.out.size)
              clear hb2 q0 q1
              go_wp2_with fail
              go_roundw
              case rel => exact ⟨k + 1, by omega, by go_num, HF, hy⟩
              case measure => simp [intOf]; omega
      · have hkn : k = n := by omega
        subst hkn
        have ht : Hid (M.isMap V L k = true) := by show _ = _; simp [M.isMap, hf, h64]
        go_wp2
        go_ret
        exact ⟨ret_bool ht.out.symm, hb⟩
  · have ht : Hid (M.isMap V L n = false) := by show _ = _; simp [M.isMap, h64]
    go_enter Try.func20, Try.ntmps20
    go_wp2
    go_ret
    exact ⟨ret_bool ht.out.symm, Below.refl _ _⟩
end Go.Proofs.Ytaebngpoagjafaa
