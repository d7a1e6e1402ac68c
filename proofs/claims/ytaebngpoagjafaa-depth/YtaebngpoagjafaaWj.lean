/-
  OUR OWN: what Depth's walk leans on.
-/
import Derived.Test.YtaebngpoagjafaaWi
namespace Go.Proofs.Ytaebngpoagjafaa
open Go.RowKit

theorem M.match_iff {v n a : Int} (h : M.isP v n = true) (ha : M.isA a = true) : (a - a % M.p2 (32 - n).toNat == v) = decide (n ≤ M.sh v a) := by
  obtain ⟨n0, n1, v0, v1, hm⟩ := M.isP_iff.1 h
  have hv : M.isA v = true := M.isA_iff.2 ⟨v0, v1⟩
  have hp := M.p2_pos (32 - n).toNat
  have h1 := Int.mul_ediv_add_emod a (M.p2 (32 - n).toNat)
  have h2 := Int.mul_ediv_add_emod v (M.p2 (32 - n).toNat)
  have e : 32 - n.toNat = (32 - n).toNat := by omega
  have h3 := M.sh_iff (s := n.toNat) (by omega) hv ha
  rw [e] at h3
  have h4 : (a - a % M.p2 (32 - n).toNat = v) ↔ n ≤ M.sh v a := by
    constructor
    · intro h
      have : M.p2 (32 - n).toNat * (a / M.p2 (32 - n).toNat) = M.p2 (32 - n).toNat * (v / M.p2 (32 - n).toNat) := by omega
      have := h3.2 (Int.eq_of_mul_eq_mul_left (by omega) this.symm)
      omega
    · intro h
      have := h3.1 (by omega)
      rw [← this] at h1; omega
  rw [Bool.eq_iff_iff]; simp [h4]

theorem buildPlace (a b : Int) (w : World) : (Instr.build 27 #[(0, .agg #[.int .i64 a, .int .i64 b])]).run Try.prog w = .ok (.agg #[.int .i64 a, .int .i64 b, .int .i64 0]) w := run_build w 27 _ _ (by kernel_rfl)

/-- Two rows of two types are two blocks. -/
theorem owns_apart {w : World} {ba bb : Nat} {e f : TypeId} {p q : Nat} {u v : Value} {m n : Nat} {xs ys : List Value} (hef : e ≠ f) (h : w.ownsRow ba e p u m xs) (k : w.ownsRow bb f q v n ys) : u.ownBlock = none ∨ u.ownBlock ≠ v.ownBlock := by
  rcases h.2 with ⟨rfl, _⟩ | ⟨g, cap, cur, rfl, _, hg, _⟩
  · exact .inl rfl
  · rcases k.2 with ⟨rfl, _⟩ | ⟨g', cap', cur', rfl, _, hg', _⟩
    · exact .inr (by simp [Value.ownBlock])
    · refine .inr fun he => ?_
      simp [Value.ownBlock] at he
      subst he
      rw [hg] at hg'
      simp at hg'
      exact hef hg'.2

theorem news3 (w : World) (x y z : Value) (t : TypeId) : ∀ j u, ([x, y, z] : List Value)[j]? = some u → (w.alloc (.cells #[x, y, z] t)).cell? ((⟨w.heap.size, 0, none⟩ : Addr).add j) = some u := by
  intro j u hj
  match j, hj with
  | 0, hj => simp at hj; subst hj; simp [Addr.add]
  | 1, hj => simp at hj; subst hj; simp [Addr.add]
  | 2, hj => simp at hj; subst hj; simp [Addr.add]

/-- One append to one of two rows: the other one stays. -/
theorem grow_one {w wr w1 : World} {B e f p q m n : Nat} {u v : Value} {xs ys : List Value} {o : Obj} (hB : w.heap.size = B) (hef : f ≠ e) (hb : Below B w wr) (hown : wr.ownsRow B e p v m xs) (hown2 : wr.ownsRow B f q u n ys) (hg : (wr.alloc o).grownBy w1 v.ownBlock) :
    Below B w w1 ∧ w1.ownsRow B f q u n ys ∧ B ≤ w1.heap.size := by
  have hs := hb.size
  have h1 : Below B w w1 := (hb.alloc (by omega) o).grown hg (by simp; omega) (fun q hq => (hown.lt q hq).1)
  exact ⟨h1, (hown2.alloc o).kept hg (owns_apart hef (hown2.alloc o) (hown.alloc o)), by have := h1.size; omega⟩

set_option maxRecDepth 100000 in
set_option maxHeartbeats 1000000 in
theorem depth_any (ao : Option Addr) (b off n c : Nat) (V L R : Nat → Int) (ad rs : Int) (w : World) (hn : n * 24 ≤ 140737488351232) (hs : TS w ao b off n V L R)
    (d0 : -9223372036854775808 ≤ ad) (d1 : ad ≤ 9223372036854775807) (r0 : -9223372036854775808 ≤ rs) (r1 : rs ≤ 9223372036854775807) :
    Calls Try.prog 3 #[.slice ao n c, .int .i64 ad, .int .i64 rs] w fun e w' => e = .returned (.bool true) ∧ Below w.heap.size w w' := by
  obtain ⟨i0, hi, hz0, hz1, hz2⟩ := info_parts Try.infoPrefix
  obtain ⟨i1, gi, gz0, gz1, gz2⟩ := info_parts Try.infoPlace
  go_enter Try.func3, Try.ntmps3
  go_wp2
  go_loopw [7, 8, 9] (fun v u i wr => ∃ k : Nat, k ≤ n ∧ i = .int .i64 k ∧ wr.ownsRow w.heap.size 25 2 v k (pc V L k) ∧ wr.ownsRow w.heap.size 27 3 u k (tc V L (fun _ => 0) k) ∧ Below w.heap.size w wr) (fun _ _ i _ => n - (intOf i).toNat)
  case atStart => exact ⟨0, by omega, rfl, World.ownsRow_nil _ _ _ _, World.ownsRow_nil _ _ _ _, Below.refl _ _⟩
  case round =>
    rename_i v u _
    obtain ⟨k, hk, rfl, hown, hown2, hb⟩ := hrel
    by_cases hlt : k < n
    · obtain rfl := hs.at_ (by omega)
      have hps := hs.below hb
      have hv := hps.val k hlt
      have hl := hps.len k hlt
      have hbb : b < wr.heap.size := hps.lt (by omega)
      have hb0 : b < w.heap.size := hs.lt (by omega)
      have hsize := hb.size
      have hbu := fun x y w => buildPlace x y w
      have wv := hs.val k hlt
      have wl := hs.len k hlt
      clear hs hps
      go_wp2_with (first
        | (at_builtin; refine wpList_append_own _ rfl (.tmp 25) (.tmp 31) 23 rfl w.heap.size 25 i0 (.agg #[.int .i64 0, .int .i64 0]) 2 16 Try.underlying23 hi hz0 hz1 hz2 rfl (by decide) _ _ _ rfl (hown.alloc _) ⟨wr.heap.size, 0, none⟩ 1 1 [.int .i64 (V k), .int .i64 (L k)] rfl rfl (news2 _ _ _ _) (fun x hx => by simp at hx; rcases hx with rfl | rfl <;> rfl) (by unfold maxLen; omega) (by omega) (by simp; omega) ?_; intro v' w1 hown1 hgrow1 _; obtain ⟨hB1, hown2', hs1⟩ := grow_one rfl (by decide) hb hown hown2 hgrow1; have hv1 := (hB1.cell (p := ⟨b, off + k * 3, none⟩) hb0).trans wv; have hl1 := (hB1.cell (p := ⟨b, off + k * 3 + 1, none⟩) hb0).trans wl; clear hgrow1)
        | (at_builtin; refine wpList_append_own _ rfl (.tmp 33) (.tmp 40) 22 rfl w.heap.size 27 i1 (.agg #[.int .i64 0, .int .i64 0, .int .i64 0]) 3 24 Try.underlying22 gi gz0 gz1 gz2 rfl (by decide) _ _ _ rfl (hown2'.alloc _) ⟨w1.heap.size, 0, none⟩ 1 1 [.int .i64 (V k), .int .i64 (L k), .int .i64 0] rfl rfl (news3 _ _ _ _ _) (fun x hx => by simp at hx; rcases hx with rfl | rfl | rfl <;> rfl) (by unfold maxLen; omega) (by omega) (by simp; omega) ?_; intro u' w2 hown3 hgrow2 _))
      obtain ⟨hB2, hown1', _⟩ := grow_one rfl (by decide) hB1 hown2' hown1 hgrow2
      go_roundw
      case rel => exact ⟨k + 1, by omega, by go_num, hown1', hown3, hB2⟩
      case measure => simp [intOf]; omega
    · have hkn : k = n := by omega
      subst hkn
      obtain ⟨lo, lb, lc, rfl, hlc, _, hps⟩ := ps_of_owns hown
      obtain ⟨ro, rb, rc, rfl, hrc, _, hts⟩ := ts_of_owns hown2
      have HB : Hid (Below w.heap.size w wr) := hb
      clear hown hown2 hb hs
      go_wp2_with fail
      refine (address_any _ _ d0 d1).mono ?_
      rintro e w' ⟨⟨a, rfl, a0, a1⟩, hww⟩
      subst w'
      have hA : M.isA a = true := M.isA_iff.2 ⟨a0, a1⟩
      go_wp2_with fail
      refine (Placed_any _ rb 0 _ _ V L (fun _ => 0) _ hn hts).mono ?_
      rintro e w1 ⟨rfl, hb1⟩
      have hR0 : regTo (fun _ => 0) k = true := regTo_iff.2 fun _ _ => ⟨by decide, by decide⟩
      rw [hR0, Bool.true_and]
      have hps1 := hps.below hb1
      have HB1 : Hid (Below w.heap.size w w1) := HB.out.trans (hb1.mono HB.out.size)
      clear hps hts hb1 HB hR0
      cases hM : M.isMap V L k with
      | false =>
        go_wp2_with fail
        refine (Match_no _ lb _ _ V L _ _ (by omega) hlc hps1 (.inr hM)).mono ?_
        rintro e w2 ⟨rfl, hb2⟩
        have HB2 : Hid (Below w.heap.size w w2) := HB1.out.trans (hb2.mono HB1.out.size)
        clear hb2
        go_wp2_with fail
        go_ret
        exact ⟨rfl, HB2⟩
      | true =>
        go_wp2_with fail
        refine (Match_ok _ lb _ _ V L _ _ hlc hps1 hA hM).mono ?_
        rintro e w2 ⟨rfl, hb2⟩
        have hm : k ≤ 64 ∧ M.okTo V L k = true := by simpa [M.isMap] using hM
        have hP : Hid (∀ i, i < k → M.isP (V i) (L i) = true) := fun i hi => (M.okTo_iff.1 hm.2 i hi).1
        obtain ⟨h64, _⟩ := hm
        have hL : Hid (∀ i, i < k → 0 ≤ L i ∧ L i ≤ 32) := fun i hi => by have := M.isP_iff.1 (hP.out i hi); omega
        have HB2 : Hid (Below w.heap.size w w2) := HB1.out.trans (hb2.mono HB1.out.size)
        have hps2 := hps1.below hb2
        have bl := M.best_lo (V := V) (L := L) (a := a) (n := k)
        have dp := M.depTo_pos (V := V) (L := L) (a := a) (n := k)
        have dl := M.depTo_le (V := V) (L := L) (a := a) (n := k) (fun i hi => (hL.out i hi).2)
        have hbi : Hid _ := M.best_is (V := V) (L := L) (a := a) (n := k) (fun i hi => (hL.out i hi).1)
        clear hb2 hps1 HB1
        generalize hKe : M.bestTo V L a k = K at *
        generalize hDe : M.depTo V L a k = D at *
        have HK : Hid (M.bestTo V L a k = K) := hKe
        have HD : Hid (M.depTo V L a k = D) := hDe
        clear hKe hDe
        obtain ⟨bl0, bl1⟩ := bl
        go_wp2_with fail
        go_loopw [14] (fun x wq => ∃ i : Nat, i ≤ k ∧ x = .int .i64 i ∧ PS wq lo lb k V L ∧ Below w.heap.size w wq) (fun x _ => k - (intOf x).toNat)
        case atStart => exact ⟨0, by omega, rfl, hps2, HB2⟩
        case round =>
          obtain ⟨i, hi, rfl, hpq, hbq⟩ := hrel
          clear hps2 HB2
          by_cases hik : i < k
          · obtain rfl := hpq.at_ (by omega)
            have hv := hpq.val i hik
            have hl := hpq.len i hik
            have hPi := hP.out i hik
            have hin := M.match_iff hPi hA
            obtain ⟨l0, l1⟩ := hL.out i hik
            have ik : (i : Int) < k := by omega
            go_wp2_with fail
            refine (matches_any _ _ _ _ a0 a1 l0 l1).mono ?_
            rintro e w3 ⟨rfl, hb3⟩
            have hp3 := hpq.below hb3
            have HB3 : Hid (Below w.heap.size w w3) := hbq.trans (hb3.mono hbq.size)
            have hv3 := hp3.val i hik
            have hl3 := hp3.len i hik
            clear hb3 hpq hv hl hbq
            rw [hin]
            clear hin
            generalize hq : decide (L i ≤ M.sh (V i) a) = q
            have HQ : Hid (decide (L i ≤ M.sh (V i) a) = q) := hq
            clear hq
            have hfacts : (q = false ∧ ((i : Int) == K) = false) ∨ (q = true ∧ 0 ≤ K ∧ K < k ∧ w3.cell? ⟨lb, K.toNat * 2 + 1, none⟩ = some (.int .i64 (L K.toNat)) ∧ ¬ L K.toNat < L i) := by
              rcases hbi.out with ⟨g1, _, g3⟩ | ⟨j, hj, g1, _, g3, g4⟩
              · exact .inl ⟨by rw [← HQ.out]; exact decide_eq_false (by have := g3 i hik; omega), by rw [g1, beq_eq_false_iff_ne]; omega⟩
              · have ej : K.toNat = j := by omega
                cases q with
                | true => exact .inr ⟨rfl, by omega, by omega, by rw [ej]; exact hp3.len j hj, by rw [ej]; have := g4 i hik (of_decide_eq_true HQ.out); omega⟩
                | false =>
                  refine .inl ⟨rfl, ?_⟩
                  rw [g1]; simp
                  intro hij
                  have : i = j := by omega
                  subst this
                  exact absurd g3 (of_decide_eq_false HQ.out)
            rcases hfacts with ⟨rfl, e0⟩ | ⟨rfl, k0, k1, hk3, hle⟩
            · go_wp2_with fail
              go_quiet (fail)
              go_wp2_with fail
              go_roundw
              case rel => exact ⟨i + 1, by omega, by go_num, hp3.drewN _, below_drewN HB3.out _⟩
              case measure => simp [intOf]; omega
            · have kd : decide (K < 0) = false := decide_eq_false (by omega)
              have ld : decide (L K.toNat < L i) = false := decide_eq_false hle
              cases e0 : ((i : Int) == K) with
              | true =>
                go_wp2_with fail
                go_quiet (fail)
                go_wp2_with fail
                go_roundw
                case rel => exact ⟨i + 1, by omega, by go_num, hp3.drewN _, below_drewN HB3.out _⟩
                case measure => simp [intOf]; omega
              | false =>
                go_wp2_with fail
                go_quiet (fail)
                go_wp2_with fail
                go_roundw
                case rel => exact ⟨i + 1, by omega, by go_num, hp3.drewN _, below_drewN HB3.out _⟩
                case measure => simp [intOf]; omega
          · have hnd : Hid (∀ i, i < k → M.need V L a i ≤ D.toNat) := fun i hi => by
              have := M.need_le_dep (V := V) (L := L) (a := a) hi
              rw [HD.out] at this; omega
            have hV : Hid (∀ i, i < k → M.isA (V i) = true) := fun i hi => by
              obtain ⟨_, _, v0, v1, _⟩ := M.isP_iff.1 (hP.out i hi)
              exact M.isA_iff.2 ⟨v0, v1⟩
            have HBq : Hid (Below w.heap.size w wr) := hbq
            clear hbq
            go_wp2_with fail
            refine (address_any _ _ r0 r1).mono ?_
            rintro e w' ⟨⟨r, rfl, q0, q1⟩, hww⟩
            subst w'
            go_wp2_with fail
            refine (joined_any _ _ _ _ a0 a1 q0 q1 dp dl).mono ?_
            rintro e w3 ⟨rfl, m3, rfl⟩
            obtain ⟨hx1, hx2⟩ := M.join_bits (b := r) hA dp dl
            obtain ⟨hx3, _, hx4⟩ := M.alike_all hA hx1 hV.out hx2 hnd.out
            have hM2 := Match_ok lo lb k lc V L (M.join a r D) (wr.drewN m3) hlc (hpq.drewN m3) hx1 hM
            rw [hx3, hx4, HK.out, HD.out] at hM2
            have HM2 : Hid _ := hM2
            have hp3 := hpq.drewN m3
            have HB3 : Hid (Below w.heap.size w (wr.drewN m3)) := below_drewN HBq.out m3
            clear hM2 hx3 hx4 hx2 hx1 hpq HBq
            go_wp2_with fail
            refine Calls.mono HM2.out ?_
            rintro e w4 ⟨rfl, hb4⟩
            have hp4 := hp3.below hb4
            have HB4 : Hid (Below w.heap.size w w4) := HB3.out.trans (hb4.mono HB3.out.size)
            clear hb4 hp3 HB3 HM2
            cases e0 : (D == 0) with
            | true =>
              go_wp2_with fail
              go_ret
              exact ⟨rfl, HB4⟩
            | false =>
              have hD1 : 1 ≤ D := by
                have : D ≠ 0 := by simpa using e0
                omega
              go_wp2_with fail
              refine (other_any _ lb _ _ V L _ _ _ _ hlc hp4 hA hM HK.out.symm HD.out.symm hD1 dl).mono ?_
              rintro e w5 ⟨rfl, hb5⟩
              have HB5 : Hid (Below w.heap.size w w5) := HB4.out.trans (hb5.mono HB4.out.size)
              clear hb5
              go_wp2_with fail
              go_ret
              exact ⟨rfl, HB5⟩
end Go.Proofs.Ytaebngpoagjafaa
