/-
  OUR OWN.
-/
import Derived.Test.YtegknlhadjhbdaaGreatV24
import Derived.Test.YtegknlhadjhbdaaGreatV21
set_option maxRecDepth 100000
namespace Go.Proofs.YtegknlhadjhbdaaGreat
open Go.RowKit
def knK (ns : Nat -> Int) (j : Nat) : List Int := (List.range j).map ns
theorem knK_len (ns : Nat -> Int) (j : Nat) : (knK ns j).length = j := by simp [knK]
theorem knK_succ (ns : Nat -> Int) (j : Nat) : knK ns (j + 1) = knK ns j ++ [ns j] := by simp [knK, List.range_succ]
theorem knK_get (ns : Nat -> Int) {i j : Nat} (h : i < j) : (knK ns j)[i]? = some (ns i) := by simp [knK, h]
theorem Tryz.infoInt : (Tryz.prog.info? 3).map (fun i => (i.zero, i.size, i.bytes)) = some (some (.int .i64 0), 1, 8) := by kernel_rfl
attribute [local go_sem ↓] Go.wp_at_zero Go.wp_at_succ
set_option maxHeartbeats 800000 in
theorem SizeR_no (s : ByteArray) (w : World) (h : (chk s).1 ≠ 0) :
   Calls Tryz.prog 32 #[.string s] w fun e w' => Below w.heap.size w w' /\ e = .returned (.tuple #[.int .i64 0, .int .i64 (chk s).1]) := by
 have hd := fun wz => Check_any s wz
 generalize chk s = c at *
 obtain ⟨c1, c2⟩ := c
 simp only at h
 have e1 : (c1 == 0) = false := by simp [h]
 have e2 : (c1 != 0) = true := by simp [h]
 clear h
 go_enter Tryz.func32, Tryz.ntmps32
 go_wp2_with fail
 refine (hd _).mono ?_
 rintro e w1 ⟨hb, rfl⟩
 have HB : Hid (Below w.heap.size w w1) := hb
 clear hb
 go_wp2_with fail
 go_ret2
 exact ⟨HB.out, rfl⟩
set_option maxHeartbeats 800000 in
theorem SizeR_ok (s : ByteArray) (w : World) (ns : Nat -> Int) (hs : s.size <= 2000) (h : (chk s).1 = 0) (h2 : ∀ t ∈ spl (bare s) 59, 2 <= t.size)
   (hz : ∀ j t, (polT (spl (bare s) 59))[j]? = some t -> SZ (polN (spl (bare s) 59) (spl (bare s) 59).length) (knK ns j) t (ns j)) :
   Calls Tryz.prog 32 #[.string s] w fun e w' => Below w.heap.size w w' /\ e = .returned (.tuple #[.int .i64 (ns ((spl (bare s) 59).length - 1)), .int .i64 0]) := by
 have hd := fun wz => Check_any s wz
 generalize chk s = c at *
 obtain ⟨c1, c2⟩ := c
 simp only at h
 subst h
 have hpl := fun wz => policy_any s wz hs h2
 have HPL : Hid (∀ wz : World, Calls Tryz.prog 54 #[.string s] wz fun e w' => Below wz.heap.size wz w' /\ ∃ PB tv, e = .returned (.pointer (some ⟨PB, 0, none⟩)) /\ PP w' wz.heap.size PB (polN (spl (bare s) 59) (spl (bare s) 59).length) tv (polT (spl (bare s) 59))) := hpl
 have hbz : (bare s).size <= 2000 := by unfold bare; rw [strOfNums_size]; exact Nat.le_trans (brL_len s s.size) hs
 have hll := spl_len (s := bare s) (c := 59) hbz
 have hne := spl_ne (bare s) 59
 have hnm := polN_size (spl (bare s) 59) h2 _ (Nat.le_refl _)
 have HTS : Hid (∀ t ∈ polT (spl (bare s) 59), t.size <= 2000) := fun t ht => by
   simp only [polT, List.mem_map] at ht
   obtain ⟨x, hx, rfl⟩ := ht
   have := Nat.le_trans (spl_size hx) hbz
   rw [ext_size x _ _ (Nat.le_refl _)]; omega
 have HTL : Hid ((polT (spl (bare s) 59)).length = (spl (bare s) 59).length) := by show _ = _; simp [polT]
 have HSZ : Hid (∀ j t, (polT (spl (bare s) 59))[j]? = some t -> SZ (polN (spl (bare s) 59) (spl (bare s) 59).length) (knK ns j) t (ns j)) := hz
 clear hpl hz h2
 generalize hle : spl (bare s) 59 = l at *
 have HLE : Hid (spl (bare s) 59 = l) := hle
 clear hle
 go_enter Tryz.func32, Tryz.ntmps32
 go_wp2_with fail
 refine (hd _).mono ?_
 rintro e w1 ⟨hb, rfl⟩
 have HB : Hid (Below w.heap.size w w1) := hb
 clear hb
 go_wp2_with fail
 refine (HPL.out _).mono ?_
 rintro e w2 ⟨hb2, PB, tv, rfl, hpp⟩
 have HB2 : Hid (Below w.heap.size w w2) := HB.out.trans (hb2.mono HB.out.size)
 have HPP : Hid (PP w2 w1.heap.size PB (polN l l.length) tv (polT l)) := hpp
 clear hb2 hpp
 obtain ⟨i0, hi0, hz0, hz1, hz2⟩ := info_parts Tryz.infoInt
 obtain ⟨tg, tc, rfl, htg1, htg2⟩ := str_slice HPP.out.row (by rw [HTL.out]; exact hne)
 have HRW : Hid (∀ i t, (polT l)[i]? = some t -> w2.cell? ⟨tg, i, none⟩ = some (.string t)) := fun i t ht => str_cell HPP.out.row ht
 have hPBl := HPP.out.lt
 have hq0 := HPP.out.c0
 have hq1 := HPP.out.c1
 rw [HTL.out] at hq1
 have HBD : Hid (∀ j, j < l.length -> 0 <= ns j /\ ns j <= 5000) := by
   intro j
   induction j using Nat.strongRecOn with
   | ind j ihj =>
     intro hj
     have hjt : j < (polT l).length := by rw [HTL.out]; exact hj
     have hx : (polT l)[j]? = some (polT l)[j] := List.getElem?_eq_getElem hjt
     exact (size_any (HSZ.out j _ hx) 0 none 0 (fun k hk => by
       simp only [knK, List.mem_map, List.mem_range] at hk
       obtain ⟨i, hi, rfl⟩ := hk
       exact ihj i hi (by omega)) (by omega) (by rw [knK_len]; omega) (HTS.out _ (List.mem_of_getElem? hx))).2
 clear HPL
 go_wp2_with fail
 go_loopg [7, 8] l.length (fun n x y wr => ∃ (j : Nat), n + j = l.length /\ y = .int .i64 j /\ wr.ownsRow w2.heap.size 3 1 x (knK ns j).length ((knK ns j).map (Value.int .i64)) /\ Below w2.heap.size w2 wr)
 case atStart => exact ⟨0, by omega, rfl, ⟨rfl, .inl ⟨rfl, rfl⟩⟩, Below.refl _ _⟩
 case round =>
   obtain ⟨j, hn, rfl, hrow, hb⟩ := hrel
   have HR : Hid (wr.ownsRow w2.heap.size 3 1 u7 (knK ns j).length ((knK ns j).map (Value.int .i64))) := hrow
   have HBr : Hid (Below w2.heap.size w2 wr) := hb
   have hbs := hb.size
   have p1 := (hb.cell (p := ⟨PB, 1, none⟩) hPBl).trans hq1
   clear hrow hb
   by_cases hlt : j < l.length
   · have hjt : j < (polT l).length := by rw [HTL.out]; exact hlt
     obtain ⟨t, ht⟩ : ∃ t, (polT l)[j]? = some t := ⟨(polT l)[j], List.getElem?_eq_getElem hjt⟩
     have hj0 : (0 : Int) <= (j : Int) := by omega
     have hj1 : (j : Int) < (l.length : Int) := by omega
     have ct := (HBr.out.cell (p := ⟨tg, j, none⟩) htg2).trans (HRW.out j t ht)
     obtain ⟨ko, kc, hu7⟩ : ∃ ko kc, u7 = .slice ko (knK ns j).length kc := by
       rcases HR.out.2 with ⟨h1, h2⟩ | ⟨g, cap, cur, h1, _⟩
       · exact ⟨none, 0, by rw [h1, h2]⟩
       · exact ⟨_, cap, h1⟩
     subst hu7
     have HKV : Hid (KV wr PB (polN l l.length) ko (knK ns j)) := ⟨Nat.lt_of_lt_of_le hPBl HBr.out.size, (HBr.out.cell (p := ⟨PB, 0, none⟩) hPBl).trans hq0, fun i v hv => by
       rcases HR.out.2 with ⟨h1, h2⟩ | ⟨g, cap, cur, h1, h2, h3, _⟩
       · have := (List.getElem?_eq_some_iff.1 hv).1; omega
       · cases h1
         have hil : i < (knK ns j).length := (List.getElem?_eq_some_iff.1 hv).1
         refine ⟨g, rfl, lt_of_block h3, ?_⟩
         rw [World.ownsRow.cellAt HR.out i (by omega)]
         simp [hv]⟩
     have hsz := size_any (HSZ.out j t ht) PB ko kc (fun k hk => by
       simp only [knK, List.mem_map, List.mem_range] at hk
       obtain ⟨i, hi, rfl⟩ := hk
       exact HBD.out i (by omega)) (by omega) (by rw [knK_len]; omega) (HTS.out _ (List.mem_of_getElem? ht))
     have HCL : Hid (SzC PB (polN l l.length) ko kc (knK ns j) t (ns j)) := hsz.1
     have HE : Hid (knK ns (j + 1) = knK ns j ++ [ns j]) := knK_succ ns j
     have HKL : Hid ((knK ns j).length = j) := knK_len ns j
     clear hsz ht
     go_wp2_with fail
     refine (HCL.out _ HKV.out).mono ?_
     rintro e w4 ⟨hb4, rfl⟩
     have HB4 : Hid (Below w2.heap.size w2 w4) := HBr.out.trans (hb4.mono HBr.out.size)
     have HR4 : Hid (w4.ownsRow w2.heap.size 3 1 (.slice ko (knK ns j).length kc) (knK ns j).length ((knK ns j).map (Value.int .i64))) := owns_blk HR.out (fun g hg => hb4.block g (HR.out.lt g hg).2)
     have hbs4 : w2.heap.size <= w4.heap.size := HB4.out.size
     clear hb4
     generalize hnj : ns j = nj at *
     clear hnj
     have hA1 : Hid ((knK ns j).length + 1 <= maxLen) := by show _ <= _; have := HKL.out; unfold maxLen; omega
     have hA2 : Hid (((knK ns j).length + 1) * 8 <= 140737488355328) := by show _ <= _; have := HKL.out; omega
     have hA3 : Hid (w2.heap.size <= (w4.alloc (.cells #[.int .i64 nj] 3)).heap.size) := by show _ <= _; simp; omega
     have hone : Hid (∀ u ∈ [Value.int .i64 nj], u.oneCell' = true) := fun u hu => by simp at hu; subst hu; rfl
     go_wp2_with (at_builtin; refine wpList_append_lies _ rfl _ _ 25 rfl w2.heap.size 3 i0 _ 1 8 Tryz.underlying25 hi0 hz0 hz1 hz2 rfl (by decide) (.slice ko (knK ns j).length kc) _ _ rfl (HR4.out.alloc _) ⟨w4.heap.size, 0, none⟩ 1 1 [.int .i64 nj] rfl rfl (World.news_of_block (cs := #[.int .i64 nj]) (t := 3) (fr := (0, 0)) (heap_alloc_new w4 _)) hone.out (Nat.lt_succ_self 0) hA1.out hA2.out hA3.out (w4.heap.size + 1) (by simp) ?_; intro g cap w5 hown hgrow hat hlt5)
     have HR5 : Hid (w5.ownsRow w2.heap.size 3 1 (.slice (some ⟨g, 0, none⟩) ((knK ns j).length + 1) cap) (knK ns (j + 1)).length ((knK ns (j + 1)).map (Value.int .i64))) := by
       show World.ownsRow _ _ _ _ _ _ _
       rw [HE.out, List.length_append, List.map_append]
       exact hown
     have HB5 : Hid (Below w2.heap.size w2 w5) := (HB4.out.alloc hbs4 _).grown hgrow (by simp; omega) (fun k hk => (HR4.out.lt k hk).1)
     clear hown hgrow hat
     go_roundg (gk - 1)
     case measure => omega
     case rel => exact ⟨j + 1, by omega, by go_num, HR5.out, HB5.out⟩
   · have hd : ¬ ((j : Int) < (l.length : Int)) := by omega
     have hje : j = l.length := by omega
     subst hje
     have hkl := knK_len ns l.length
     have HBW : Hid (Below w.heap.size w wr) := HB2.out.trans (HBr.out.mono HB2.out.size)
     rcases HR.out.2 with ⟨h1, h2⟩ | ⟨g, cap, cur, h1, h2, h3, _⟩
     · omega
     · subst h1
       have ck : wr.cell? ⟨g, l.length - 1, none⟩ = some (.int .i64 (ns (l.length - 1))) := by
         rw [World.ownsRow.cellAt HR.out (l.length - 1) (by omega)]
         simp [knK_get ns (show l.length - 1 < l.length by omega)]
       rw [hkl] at *
       have hl1 : (1 : Int) <= (l.length : Int) := by omega
       have hl2 : (l.length : Int) <= 2001 := by omega
       generalize hnr : ns (l.length - 1) = nr at *
       have HNR : Hid (ns (l.length - 1) = nr) := hnr
       clear hnr
       go_wp2_with fail
       go_ret2
       exact ⟨HBW.out, by rw [HNR.out]; rfl⟩
end Go.Proofs.YtegknlhadjhbdaaGreat
namespace Go.Proofs.YtegknlhadjhbdaaGreat
open Go.RowKit
def atF (K : List Int) (i : Int) : Int := if i < 0 then 0 else (K[i.toNat]?).getD 0
def NV (w : World) (ko : Option Addr) (K : List Int) : Prop := ∀ i v, K[i]? = some v -> ∃ g, ko = some ⟨g, 0, none⟩ /\ g < w.heap.size /\ w.cell? ⟨g, i, none⟩ = some (.int .i64 v)
theorem NV.below {w w' : World} {ko : Option Addr} {K : List Int} (h : NV w ko K) (hb : Below w.heap.size w w') : NV w' ko K := fun i v hv => by
 obtain ⟨g, h1, h2, h3⟩ := h i v hv
 exact ⟨g, h1, Nat.lt_of_lt_of_le h2 hb.size, by rw [hb.cell (p := ⟨g, i, none⟩) h2]; exact h3⟩
attribute [local go_sem ↓] Go.wp_at_zero Go.wp_at_succ
set_option maxHeartbeats 400000 in
theorem at_any (ko : Option Addr) (kc : Nat) (K : List Int) (i : Int) (w : World) (h : NV w ko K) :
   Calls Tryz.prog 106 #[.slice ko K.length kc, .int .i64 i] w fun e w' => w' = w /\ e = .returned (.int .i64 (atF K i)) := by
 by_cases h0 : i < 0
 · have HE : Hid (atF K i = 0) := by show _ = _; unfold atF; rw [if_pos h0]
   go_enter Tryz.func106, Tryz.ntmps106
   go_wp2_with fail
   go_ret
   exact ⟨rfl, by rw [HE.out]; rfl⟩
 · obtain ⟨j, rfl⟩ : ∃ j : Nat, i = j := ⟨i.toNat, by omega⟩
   have h0' : ¬ (j : Int) < 0 := h0
   have h00 : (0 : Int) <= (j : Int) := by omega
   by_cases h1 : j < K.length
   · have hv : K[j]? = some K[j] := List.getElem?_eq_getElem h1
     obtain ⟨g, rfl, hg, hc⟩ := h j _ hv
     have HE : Hid (atF K j = K[j]) := by show _ = _; unfold atF; rw [if_neg h0, Int.toNat_natCast, hv]; rfl
     have h1' : (j : Int) < (K.length : Int) := by omega
     have h2' : ¬ (K.length : Int) <= (j : Int) := by omega
     generalize K[j] = v at *
     clear h hv
     go_enter Tryz.func106, Tryz.ntmps106
     go_wp2_with fail
     go_ret
     exact ⟨rfl, by rw [HE.out]; rfl⟩
   · have HE : Hid (atF K j = 0) := by show _ = _; unfold atF; rw [if_neg h0, Int.toNat_natCast, List.getElem?_eq_none (by omega)]; rfl
     have h1' : (K.length : Int) <= (j : Int) := by omega
     clear h
     go_enter Tryz.func106, Tryz.ntmps106
     go_wp2_with fail
     go_ret
     exact ⟨rfl, by rw [HE.out]; rfl⟩
theorem atF_bd {K : List Int} (h : ∀ k ∈ K, 0 <= k /\ k <= 1001) (i : Int) : 0 <= atF K i /\ atF K i <= 1001 := by
 unfold atF
 split
 · omega
 · cases hk : K[i.toNat]? with
   | none => simp
   | some k => simpa using h k (List.mem_of_getElem? hk)
def armS (K : List Int) (l : List IM) : Nat -> Int
 | 0 => 0
 | j + 1 => armS K l j + (match l[j]? with | some x => atF K x.arm | none => 0)
theorem armS_bd {K : List Int} (h : ∀ k ∈ K, 0 <= k /\ k <= 1001) (l : List IM) : ∀ j, 0 <= armS K l j /\ armS K l j <= 1001 * j := by
 intro j
 induction j with
 | zero => simp [armS]
 | succ j ih =>
   simp only [armS]
   cases hx : l[j]? with
   | none => simp only; omega
   | some x => have := atF_bd h x.arm; simp only; omega
def szE (e : EX) (K : List Int) : Int := cap1 (atF K e.inner + (if e.kind = 61 then 0 else 1 + (e.items.length : Int)) + armS K e.items e.items.length)
set_option maxHeartbeats 800000 in
theorem sizeOf_any (e : EX) (vo : Option Addr) (vm vc : Nat) (ko : Option Addr) (kc : Nat) (K : List Int) (w : World) (h : NV w ko K) (hb : ∀ k ∈ K, 0 <= k /\ k <= 1001) (hl : e.items.length <= 100000) (hv : IV w (.slice vo vm vc) e.items) (hvg : ∀ g, (Value.slice vo vm vc).ownBlock = some g -> g < w.heap.size) :
   Calls Tryz.prog 61 #[.agg #[.int .u8 e.kind, .int .i64 e.at_, .int .i64 e.depth, .int .i64 e.nv, .int .i64 e.na, .slice vo vm vc, .int .i64 e.inner], .slice ko K.length kc] w fun r w' => Below w.heap.size w w' /\ r = .returned (.int .i64 (szE e K)) := by
 have HA : Hid (Below w.heap.size w (w.alloc (.cells #[.int .u8 e.kind, .int .i64 e.at_, .int .i64 e.depth, .int .i64 e.nv, .int .i64 e.na, .slice vo vm vc, .int .i64 e.inner] 114))) := (Below.refl _ _).alloc (Nat.le_refl _) _
 have HX : Hid ((w.alloc (.cells #[.int .u8 e.kind, .int .i64 e.at_, .int .i64 e.depth, .int .i64 e.nv, .int .i64 e.na, .slice vo vm vc, .int .i64 e.inner] 114)).heap[w.heap.size]? = some (.cells #[.int .u8 e.kind, .int .i64 e.at_, .int .i64 e.depth, .int .i64 e.nv, .int .i64 e.na, .slice vo vm vc, .int .i64 e.inner] 114 (0, 0))) := heap_alloc_new w _
 have hat := fun wz hz i => at_any ko kc K i wz hz
 have HAT : Hid (∀ wz, NV wz ko K -> ∀ i, Calls Tryz.prog 106 #[.slice ko K.length kc, .int .i64 i] wz fun e w' => w' = wz /\ e = .returned (.int .i64 (atF K i))) := hat
 have HN0 : Hid (NV (w.alloc (.cells #[.int .u8 e.kind, .int .i64 e.at_, .int .i64 e.depth, .int .i64 e.nv, .int .i64 e.na, .slice vo vm vc, .int .i64 e.inner] 114)) ko K) := h.below HA.out
 have hin := atF_bd hb e.inner
 have HSB : Hid (∀ j, 0 <= armS K e.items j /\ armS K e.items j <= 1001 * j) := armS_bd hb e.items
 have HBD : Hid (∀ i, 0 <= atF K i /\ atF K i <= 1001) := atF_bd hb
 have HV : Hid (IV w (.slice vo vm vc) e.items) := hv
 have HS : Hid (szE e K = cap1 (atF K e.inner + (if e.kind = 61 then 0 else 1 + (e.items.length : Int)) + armS K e.items e.items.length)) := rfl
 have hvm : vm = e.items.length := by
   rcases hv with ⟨h1, h2⟩ | ⟨g, cap, h1, _⟩
   · cases h1; rw [h2]; rfl
   · cases h1; rfl
 subst hvm
 obtain ⟨z0, hz0⟩ : ∃ z0, atF K e.inner = z0 := ⟨_, rfl⟩
 obtain ⟨z1, hz1⟩ : ∃ z1, z0 + (if e.kind = 61 then 0 else 1 + (e.items.length : Int)) = z1 := ⟨_, rfl⟩
 rw [hz0, hz1] at HS
 have HAI : Hid (∀ wz, NV wz ko K -> Calls Tryz.prog 106 #[.slice ko K.length kc, .int .i64 e.inner] wz fun e w' => w' = wz /\ e = .returned (.int .i64 z0)) := fun wz hz => by have := hat wz hz e.inner; rw [hz0] at this; exact this
 rw [hz0] at hin
 clear hat hz0 hb hv
 go_enter Tryz.func61, Tryz.ntmps61
 go_wp2_with fail
 refine (HAI.out _ HN0.out).mono ?_
 rintro r w1 ⟨hw1, rfl⟩
 subst w1
 have hz1b : 0 <= z1 /\ z1 <= 102002 := by rw [<- hz1]; split <;> omega
 cases ek : (e.kind == 61) with
 | true =>
   have ek2 : (e.kind != 61) = false := by simp [bne, ek]
   have hz2 : z1 = z0 := by rw [<- hz1, if_pos (by simpa using ek)]; omega
   clear hz1
   subst hz2
   go_wp2_with fail
   go_loopg [5, 24] e.items.length (fun q a y wr => ∃ j : Nat, q + j = e.items.length /\ a = .int .i64 (z1 + armS K e.items j) /\ y = .int .i64 j /\ Below w.heap.size w wr)
   case atStart => exact ⟨0, by omega, by simp [armS], rfl, HA.out⟩
   case round =>
     obtain ⟨j, hn, rfl, rfl, hbr⟩ := hrel
     have HBR : Hid (Below w.heap.size w wr) := hbr
     have hsj := HSB.out j
     clear hbr
     by_cases hlt : j < e.items.length
     · obtain ⟨x, hx⟩ : ∃ x, e.items[j]? = some x := ⟨e.items[j], List.getElem?_eq_getElem hlt⟩
       have hj0 : (0 : Int) <= (j : Int) := by omega
       have hj1 : (j : Int) < (e.items.length : Int) := by omega
       rcases HV.out with ⟨_, h2⟩ | ⟨g, cap, h1, h2, h3⟩
       · rw [h2] at hlt; simp at hlt
       · cases h1
         have hgl : g < w.heap.size := hvg g rfl
         obtain ⟨r0, r1, r2, r3, r4, r5, r6⟩ := h3 j x hx
         have hcg : ∀ q, wr.cell? ⟨g, q, none⟩ = w.cell? ⟨g, q, none⟩ := fun q => HBR.out.cell (p := ⟨g, q, none⟩) hgl
         rw [<- hcg] at r0 r1 r2 r3 r4 r5 r6
         have HJ : Hid (armS K e.items (j + 1) = armS K e.items j + atF K x.arm) := by show _ = _; simp only [armS, hx]
         have HBA : Hid (Below w.heap.size w (wr.alloc (.cells #[.int .i64 x.at_, .int .i64 x.num, .int .i64 x.pv, .int .i64 x.pl, .int .i64 x.wv, .int .i64 x.wa, .int .i64 x.arm] 164))) := HBR.out.alloc HBR.out.size _
         have HNA : Hid (NV (wr.alloc (.cells #[.int .i64 x.at_, .int .i64 x.num, .int .i64 x.pv, .int .i64 x.pl, .int .i64 x.wv, .int .i64 x.wa, .int .i64 x.arm] 164)) ko K) := h.below HBA.out
         have hab := HBD.out x.arm
         have HAX : Hid (∀ wz, NV wz ko K -> Calls Tryz.prog 106 #[.slice ko K.length kc, .int .i64 x.arm] wz fun e w' => w' = wz /\ e = .returned (.int .i64 (atF K x.arm))) := fun wz hz => HAT.out wz hz x.arm
         generalize hsm : armS K e.items j = sm at *
         generalize hax : atF K x.arm = ax at *
         clear hsm hax h3 hcg hx
         go_wp2_with fail
         refine (HAX.out _ HNA.out).mono ?_
         rintro r w3 ⟨hw3, rfl⟩
         subst w3
         go_wp2_with fail
         go_roundg (gk - 1)
         case measure => omega
         case rel => exact ⟨j + 1, by omega, by rw [HJ.out]; go_num, by go_num, HBA.out⟩
     · have hd : ¬ ((j : Int) < (e.items.length : Int)) := by omega
       have hje : j = e.items.length := by omega
       rw [hje] at hsj hd ⊢
       clear hje hn hlt
       generalize hsm : armS K e.items e.items.length = sm at *
       clear hsm
       by_cases hc : 1000 < z1 + sm
       · have HE : Hid (szE e K = 1001) := by show _ = _; rw [HS.out]; unfold cap1; rw [if_pos hc]
         go_wp2_with fail
         go_ret
         exact ⟨HBR.out, by rw [HE.out]; rfl⟩
       · have HE : Hid (szE e K = z1 + sm) := by show _ = _; rw [HS.out]; unfold cap1; rw [if_neg hc]
         have hc' : z1 + sm <= 1000 := by omega
         clear hc
         go_wp2_with fail
         go_ret
         exact ⟨HBR.out, by rw [HE.out]; rfl⟩
 | false =>
   have ek2 : (e.kind != 61) = true := by simp [bne, ek]
   have hz2 : z1 = z0 + 1 + (e.items.length : Int) := by rw [<- hz1, if_neg (by simpa using ek)]; omega
   clear hz1
   subst hz2
   go_wp2_with fail
   go_loopg [5, 24] e.items.length (fun q a y wr => ∃ j : Nat, q + j = e.items.length /\ a = .int .i64 ((z0 + 1 + (e.items.length : Int)) + armS K e.items j) /\ y = .int .i64 j /\ Below w.heap.size w wr)
   case atStart => exact ⟨0, by omega, by simp [armS], rfl, HA.out⟩
   case round =>
     obtain ⟨j, hn, rfl, rfl, hbr⟩ := hrel
     have HBR : Hid (Below w.heap.size w wr) := hbr
     have hsj := HSB.out j
     clear hbr
     by_cases hlt : j < e.items.length
     · obtain ⟨x, hx⟩ : ∃ x, e.items[j]? = some x := ⟨e.items[j], List.getElem?_eq_getElem hlt⟩
       have hj0 : (0 : Int) <= (j : Int) := by omega
       have hj1 : (j : Int) < (e.items.length : Int) := by omega
       rcases HV.out with ⟨_, h2⟩ | ⟨g, cap, h1, h2, h3⟩
       · rw [h2] at hlt; simp at hlt
       · cases h1
         have hgl : g < w.heap.size := hvg g rfl
         obtain ⟨r0, r1, r2, r3, r4, r5, r6⟩ := h3 j x hx
         have hcg : ∀ q, wr.cell? ⟨g, q, none⟩ = w.cell? ⟨g, q, none⟩ := fun q => HBR.out.cell (p := ⟨g, q, none⟩) hgl
         rw [<- hcg] at r0 r1 r2 r3 r4 r5 r6
         have HJ : Hid (armS K e.items (j + 1) = armS K e.items j + atF K x.arm) := by show _ = _; simp only [armS, hx]
         have HBA : Hid (Below w.heap.size w (wr.alloc (.cells #[.int .i64 x.at_, .int .i64 x.num, .int .i64 x.pv, .int .i64 x.pl, .int .i64 x.wv, .int .i64 x.wa, .int .i64 x.arm] 164))) := HBR.out.alloc HBR.out.size _
         have HNA : Hid (NV (wr.alloc (.cells #[.int .i64 x.at_, .int .i64 x.num, .int .i64 x.pv, .int .i64 x.pl, .int .i64 x.wv, .int .i64 x.wa, .int .i64 x.arm] 164)) ko K) := h.below HBA.out
         have hab := HBD.out x.arm
         have HAX : Hid (∀ wz, NV wz ko K -> Calls Tryz.prog 106 #[.slice ko K.length kc, .int .i64 x.arm] wz fun e w' => w' = wz /\ e = .returned (.int .i64 (atF K x.arm))) := fun wz hz => HAT.out wz hz x.arm
         generalize hsm : armS K e.items j = sm at *
         generalize hax : atF K x.arm = ax at *
         clear hsm hax h3 hcg hx
         go_wp2_with fail
         refine (HAX.out _ HNA.out).mono ?_
         rintro r w3 ⟨hw3, rfl⟩
         subst w3
         go_wp2_with fail
         go_roundg (gk - 1)
         case measure => omega
         case rel => exact ⟨j + 1, by omega, by rw [HJ.out]; go_num, by go_num, HBA.out⟩
     · have hd : ¬ ((j : Int) < (e.items.length : Int)) := by omega
       have hje : j = e.items.length := by omega
       rw [hje] at hsj hd ⊢
       clear hje hn hlt
       generalize hsm : armS K e.items e.items.length = sm at *
       clear hsm
       by_cases hc : 1000 < (z0 + 1 + (e.items.length : Int)) + sm
       · have HE : Hid (szE e K = 1001) := by show _ = _; rw [HS.out]; unfold cap1; rw [if_pos hc]
         go_wp2_with fail
         go_ret
         exact ⟨HBR.out, by rw [HE.out]; rfl⟩
       · have HE : Hid (szE e K = (z0 + 1 + (e.items.length : Int)) + sm) := by show _ = _; rw [HS.out]; unfold cap1; rw [if_neg hc]
         have hc' : (z0 + 1 + (e.items.length : Int)) + sm <= 1000 := by omega
         clear hc
         go_wp2_with fail
         go_ret
         exact ⟨HBR.out, by rw [HE.out]; rfl⟩
end Go.Proofs.YtegknlhadjhbdaaGreat
namespace Go.Proofs.YtegknlhadjhbdaaGreat
open Go.RowKit
def szK (es : List EX) : Nat -> List Int
 | 0 => []
 | j + 1 => szK es j ++ [match es[j]? with | some e => szE e (szK es j) | none => 0]
def szR (es : List EX) : Nat -> Int
 | 0 => 0
 | j + 1 => match es[j]? with | some e => szE e (szK es j) | none => 0
theorem szK_len (es : List EX) : ∀ j, (szK es j).length = j := by
 intro j
 induction j with
 | zero => rfl
 | succ j ih => simp [szK, ih]
theorem szE_bd {e : EX} {K : List Int} (h : ∀ k ∈ K, 0 <= k /\ k <= 1001) : 0 <= szE e K /\ szE e K <= 1001 := by
 unfold szE
 have h1 := atF_bd h e.inner
 have h2 := armS_bd h e.items e.items.length
 refine cap1_bd ?_
 split <;> omega
theorem szK_bd (es : List EX) : ∀ j, ∀ k ∈ szK es j, 0 <= k /\ k <= 1001 := by
 intro j
 induction j with
 | zero => intro k hk; simp [szK] at hk
 | succ j ih =>
   intro k hk
   simp only [szK, List.mem_append, List.mem_singleton] at hk
   rcases hk with hk | hk
   · exact ih k hk
   · subst hk
     cases hx : es[j]? with
     | none => simp
     | some e => exact szE_bd ih
theorem ex_view {w : World} {base : Nat} {ev : Value} {es : List (EX × Value)} (hex : w.ownsRow base 114 7 ev es.length (exC es)) (hit : ∀ p ∈ es, w.ownsRow base 164 7 p.2 p.1.items.length (imC p.1.items)) :
   ∃ eo ec, ev = .slice eo es.length ec /\ ∀ i x, es[i]? = some x -> ∃ g vo vm vc, eo = some ⟨g, 0, none⟩ /\ g < w.heap.size /\ w.cell? ⟨g, i * 7, none⟩ = some (.int .u8 x.1.kind) /\ w.cell? ⟨g, i * 7 + 1, none⟩ = some (.int .i64 x.1.at_) /\ w.cell? ⟨g, i * 7 + 2, none⟩ = some (.int .i64 x.1.depth) /\ w.cell? ⟨g, i * 7 + 3, none⟩ = some (.int .i64 x.1.nv) /\ w.cell? ⟨g, i * 7 + 4, none⟩ = some (.int .i64 x.1.na) /\ w.cell? ⟨g, i * 7 + 5, none⟩ = some (.slice vo vm vc) /\ w.cell? ⟨g, i * 7 + 6, none⟩ = some (.int .i64 x.1.inner) /\ IV w (.slice vo vm vc) x.1.items /\ (∀ q, (Value.slice vo vm vc).ownBlock = some q -> q < w.heap.size) := by
 have h0 := hex
 rcases hex.2 with ⟨h1, h2⟩ | ⟨g, cap, cur, rfl, h1, h2, _⟩
 · have : es = [] := List.eq_nil_of_length_eq_zero h2
   subst this
   exact ⟨none, 0, h1, fun i x hx => by simp at hx⟩
 · refine ⟨_, cap, rfl, fun i x hx => ?_⟩
   have hx2 := hit x (List.mem_of_getElem? hx)
   have hc := fun j hj => row_cells exV (fun _ => rfl) h0 hx j hj
   have hiv : ∃ vo vm vc, x.2 = .slice vo vm vc /\ IV w (.slice vo vm vc) x.1.items := by
     have h3 := hx2
     rcases hx2.2 with ⟨q1, q2⟩ | ⟨g', cap', cur', q1, q2, q3, q4, _⟩
     · exact ⟨none, 0, 0, q1, .inl ⟨rfl, List.eq_nil_of_length_eq_zero q2⟩⟩
     · rw [q1] at h3
       have hd := fun i y hy j hj => row_cells imV (fun _ => rfl) h3 (i := i) (x := y) hy j hj
       exact ⟨_, _, _, q1, .inr ⟨g', cap', rfl, q4, fun i y hy => ⟨hd i y hy 0 (by decide), hd i y hy 1 (by decide), hd i y hy 2 (by decide), hd i y hy 3 (by decide), hd i y hy 4 (by decide), hd i y hy 5 (by decide), hd i y hy 6 (by decide)⟩⟩⟩
   obtain ⟨vo, vm, vc, hv, hiv⟩ := hiv
   have h5 : w.cell? ⟨g, i * 7 + 5, none⟩ = some (.slice vo vm vc) := by rw [<- hv]; exact hc 5 (by decide)
   exact ⟨g, vo, vm, vc, rfl, lt_of_block h2, hc 0 (by decide), hc 1 (by decide), hc 2 (by decide), hc 3 (by decide), hc 4 (by decide), h5, hc 6 (by decide), hiv, fun q hq => (hx2.lt q (by rw [hv]; exact hq)).2⟩
theorem cRules_mono (s : ByteArray) : ∀ (n : Nat) (rs : List RL) (m k : Nat) (b : Bool), k <= s.size -> (cRules s n rs m k b).es.length + k <= (cRules s n rs m k b).k /\ (cRules s n rs m k b).k <= s.size := by
 intro n
 induction n with
 | zero => intro rs m k b hk; simp [cRules]; exact hk
 | succ n ih =>
   intro rs m k b hk
   have h1 := cRule_mono s rs m k b hk
   simp only [cRules]
   generalize cRule s rs m k b = r at *
   have h2 := takeK_ge s 59 r.k r.b
   have h3 : takeK s 59 r.k r.b <= s.size := takeK_le (by decide) h1.2.1
   split
   · have h4 := ih (rs ++ [r.rl]) (m + r.es.length) (takeK s 59 r.k r.b) r.b h3
     simp only [List.length_append]
     omega
   · simp only
     omega
attribute [local go_sem ↓] Go.wp_at_zero Go.wp_at_succ
set_option maxHeartbeats 800000 in
theorem PSize_any (eo : Option Addr) (ec : Nat) (rv : Value) (base : Nat) (es : List (EX × Value)) (w : World) (hr : ∃ ro rm rc, rv = .slice ro rm rc) (hex : w.ownsRow base 114 7 (.slice eo es.length ec) es.length (exC es)) (hit : ∀ p ∈ es, w.ownsRow base 164 7 p.2 p.1.items.length (imC p.1.items)) (hl : es.length <= 100000) (hi : ∀ p ∈ es, p.1.items.length <= 100000) :
   Calls Tryz.prog 39 #[.agg #[.slice eo es.length ec, rv]] w fun e w' => Below w.heap.size w w' /\ e = .returned (.int .i64 (szR (es.map Prod.fst) es.length)) := by
 obtain ⟨ro, rm, rc, rfl⟩ := hr
 obtain ⟨eo', ec', he, hview⟩ := ex_view hex hit
 cases he
 obtain ⟨i0, hi0, hz0, hz1, hz2⟩ := info_parts Tryz.infoInt
 have HI : Hid (∀ p ∈ es, p.1.items.length <= 100000) := hi
 clear hex hit hi
 go_enter Tryz.func39, Tryz.ntmps39
 go_wp2_with fail
 have HA0 : Hid (Below w.heap.size w ((w.alloc (.cells #[.slice eo es.length ec, .slice ro rm rc] 77)).alloc (.cells #[] 3))) := ((Below.refl _ _).alloc (Nat.le_refl _) _).alloc (by simp) _
 have HR0 : Hid (((w.alloc (.cells #[.slice eo es.length ec, .slice ro rm rc] 77)).alloc (.cells #[] 3)).ownsRow w.heap.size 3 1 (.slice (some ⟨w.heap.size + 1, 0, none⟩) 0 0) 0 []) := ⟨rfl, .inr ⟨w.heap.size + 1, 0, #[], rfl, by omega, heap_alloc_at _ (by simp), Nat.le_refl _, by decide, rfl, rfl⟩⟩
 have HVW : Hid (∀ i x, es[i]? = some x -> ∃ g vo vm vc, eo = some ⟨g, 0, none⟩ /\ g < w.heap.size /\ w.cell? ⟨g, i * 7, none⟩ = some (.int .u8 x.1.kind) /\ w.cell? ⟨g, i * 7 + 1, none⟩ = some (.int .i64 x.1.at_) /\ w.cell? ⟨g, i * 7 + 2, none⟩ = some (.int .i64 x.1.depth) /\ w.cell? ⟨g, i * 7 + 3, none⟩ = some (.int .i64 x.1.nv) /\ w.cell? ⟨g, i * 7 + 4, none⟩ = some (.int .i64 x.1.na) /\ w.cell? ⟨g, i * 7 + 5, none⟩ = some (.slice vo vm vc) /\ w.cell? ⟨g, i * 7 + 6, none⟩ = some (.int .i64 x.1.inner) /\ IV w (.slice vo vm vc) x.1.items /\ (∀ q, (Value.slice vo vm vc).ownBlock = some q -> q < w.heap.size)) := hview
 clear hview
 go_loopg [3, 4, 11] es.length (fun n a b y wr => ∃ (j : Nat), n + j = es.length /\ b = .int .i64 (szR (es.map Prod.fst) j) /\ y = .int .i64 j /\ wr.ownsRow w.heap.size 3 1 a (szK (es.map Prod.fst) j).length ((szK (es.map Prod.fst) j).map (Value.int .i64)) /\ Below w.heap.size w wr)
 case atStart => exact ⟨0, by omega, rfl, rfl, HR0.out, HA0.out⟩
 case round =>
   obtain ⟨j, hn, rfl, rfl, hrow, hb⟩ := hrel
   have HR : Hid (wr.ownsRow w.heap.size 3 1 u3 (szK (es.map Prod.fst) j).length ((szK (es.map Prod.fst) j).map (Value.int .i64))) := hrow
   have HB : Hid (Below w.heap.size w wr) := hb
   have hbs := hb.size
   clear hrow hb
   by_cases hlt : j < es.length
   · obtain ⟨xv, hxv⟩ : ∃ r, es[j]? = some r := ⟨es[j], List.getElem?_eq_getElem hlt⟩
     have hj0 : (0 : Int) <= (j : Int) := by omega
     have hj1 : (j : Int) < (es.length : Int) := by omega
     obtain ⟨g, vo, vm, vc, rfl, hgw, r0, r1, r2, r3, r4, r5, r6, hiv, hivg⟩ := HVW.out j xv hxv
     have hil := HI.out xv (List.mem_of_getElem? hxv)
     have hmx : (es.map Prod.fst)[j]? = some xv.1 := by rw [List.getElem?_map, hxv]; rfl
     obtain ⟨x, xq⟩ := xv
     simp only at r0 r1 r2 r3 r4 r6 hiv hil hmx
     have hcg : ∀ q, wr.cell? ⟨g, q, none⟩ = w.cell? ⟨g, q, none⟩ := fun q => HB.out.cell (p := ⟨g, q, none⟩) hgw
     rw [<- hcg] at r0 r1 r2 r3 r4 r5 r6
     have HSR : Hid (szR (es.map Prod.fst) (j + 1) = szE x (szK (es.map Prod.fst) j)) := by show _ = _; simp only [szR, hmx]
     have HSK : Hid (szK (es.map Prod.fst) (j + 1) = szK (es.map Prod.fst) j ++ [szE x (szK (es.map Prod.fst) j)]) := by show _ = _; simp only [szK, hmx]
     obtain ⟨ko, kc, hu3⟩ : ∃ ko kc, u3 = .slice ko (szK (es.map Prod.fst) j).length kc := by
       rcases HR.out.2 with ⟨h1, h2⟩ | ⟨g, cap, cur, h1, _⟩
       · exact ⟨none, 0, by rw [h1, h2]⟩
       · exact ⟨_, cap, h1⟩
     subst hu3
     have HKL : Hid ((szK (es.map Prod.fst) j).length = j) := szK_len _ j
     have HKB : Hid (∀ k ∈ szK (es.map Prod.fst) j, 0 <= k /\ k <= 1001) := szK_bd _ j
     generalize szK (es.map Prod.fst) j = K at *
     have HBA : Hid (Below w.heap.size w (wr.alloc (.cells #[.int .u8 x.kind, .int .i64 x.at_, .int .i64 x.depth, .int .i64 x.nv, .int .i64 x.na, .slice vo vm vc, .int .i64 x.inner] 114))) := HB.out.alloc hbs _
     have HRA : Hid ((wr.alloc (.cells #[.int .u8 x.kind, .int .i64 x.at_, .int .i64 x.depth, .int .i64 x.nv, .int .i64 x.na, .slice vo vm vc, .int .i64 x.inner] 114)).ownsRow w.heap.size 3 1 (.slice ko K.length kc) K.length (K.map (Value.int .i64))) := HR.out.alloc _
     have HNV : Hid (NV (wr.alloc (.cells #[.int .u8 x.kind, .int .i64 x.at_, .int .i64 x.depth, .int .i64 x.nv, .int .i64 x.na, .slice vo vm vc, .int .i64 x.inner] 114)) ko K) := fun i v hv => by
       rcases HRA.out.2 with ⟨h1, h2⟩ | ⟨g, cap, cur, h1, h2, h3, _⟩
       · have := (List.getElem?_eq_some_iff.1 hv).1; omega
       · cases h1
         have hil : i < K.length := (List.getElem?_eq_some_iff.1 hv).1
         refine ⟨g, rfl, lt_of_block h3, ?_⟩
         rw [World.ownsRow.cellAt HRA.out i (by omega)]
         simp [hv]
     have HIV : Hid (IV (wr.alloc (.cells #[.int .u8 x.kind, .int .i64 x.at_, .int .i64 x.depth, .int .i64 x.nv, .int .i64 x.na, .slice vo vm vc, .int .i64 x.inner] 114)) (.slice vo vm vc) x.items) := hiv.of_kept (fun q hq => HBA.out.block q (hivg q hq))
     have HIG : Hid (∀ q, (Value.slice vo vm vc).ownBlock = some q -> q < (wr.alloc (.cells #[.int .u8 x.kind, .int .i64 x.at_, .int .i64 x.depth, .int .i64 x.nv, .int .i64 x.na, .slice vo vm vc, .int .i64 x.inner] 114)).heap.size) := fun q hq => Nat.lt_of_lt_of_le (hivg q hq) HBA.out.size
     have hbsA : w.heap.size <= (wr.alloc (.cells #[.int .u8 x.kind, .int .i64 x.at_, .int .i64 x.depth, .int .i64 x.nv, .int .i64 x.na, .slice vo vm vc, .int .i64 x.inner] 114)).heap.size := HBA.out.size
     clear hxv hcg hiv hivg hmx
     go_wp2_with fail
     clear r0 r1 r2 r3 r4 r5 r6
     refine (sizeOf_any x vo vm vc ko kc K _ HNV.out HKB.out hil HIV.out HIG.out).mono ?_
     rintro e w4 ⟨hb4, rfl⟩
     have HB4 : Hid (Below w.heap.size w w4) := HBA.out.trans (hb4.mono hbsA)
     have HR4 : Hid (w4.ownsRow w.heap.size 3 1 (.slice ko K.length kc) K.length (K.map (Value.int .i64))) := owns_of_block HRA.out (fun g hg => hb4.block g (HRA.out.lt g hg).2)
     have hbs4 : w.heap.size <= w4.heap.size := HB4.out.size
     clear hb4
     generalize szE x K = nj at *
     have hA1 : Hid (K.length + 1 <= maxLen) := by show _ <= _; have := HKL.out; unfold maxLen; omega
     have hA2 : Hid ((K.length + 1) * 8 <= 140737488355328) := by show _ <= _; have := HKL.out; omega
     have hA3 : Hid (w.heap.size <= (w4.alloc (.cells #[.int .i64 nj] 3)).heap.size) := by show _ <= _; simp; omega
     have hone : Hid (∀ u ∈ [Value.int .i64 nj], u.oneCell' = true) := fun u hu => by simp at hu; subst hu; rfl
     go_wp2_with (at_builtin; refine wpList_append_lies _ rfl _ _ 25 rfl w.heap.size 3 i0 _ 1 8 Tryz.underlying25 hi0 hz0 hz1 hz2 rfl (by decide) (.slice ko K.length kc) _ _ rfl (HR4.out.alloc _) ⟨w4.heap.size, 0, none⟩ 1 1 [.int .i64 nj] rfl rfl (World.news_of_block (cs := #[.int .i64 nj]) (t := 3) (fr := (0, 0)) (heap_alloc_new w4 _)) hone.out (Nat.lt_succ_self 0) hA1.out hA2.out hA3.out (w4.heap.size + 1) (by simp) ?_; intro g cap w5 hown hgrow hat hlt5)
     have HR5 : Hid (w5.ownsRow w.heap.size 3 1 (.slice (some ⟨g, 0, none⟩) (K.length + 1) cap) (szK (es.map Prod.fst) (j + 1)).length ((szK (es.map Prod.fst) (j + 1)).map (Value.int .i64))) := by
       show World.ownsRow _ _ _ _ _ _ _
       rw [HSK.out, List.length_append, List.map_append]
       exact hown
     have HB5 : Hid (Below w.heap.size w w5) := (HB4.out.alloc hbs4 _).grown hgrow (by simp; omega) (fun k hk => (HR4.out.lt k hk).1)
     clear hown hgrow hat
     go_roundg (gk - 1)
     case measure => omega
     case rel => exact ⟨j + 1, by omega, by rw [HSR.out], by go_num, HR5.out, HB5.out⟩
   · have hd : ¬ ((j : Int) < (es.length : Int)) := by omega
     have hje : j = es.length := by omega
     have HE : Hid (szR (es.map Prod.fst) es.length = szR (es.map Prod.fst) j) := by show _ = _; rw [hje]
     clear hje
     go_wp2_with fail
     go_ret
     exact ⟨HB.out, by rw [HE.out]; rfl⟩
def cSz (s : ByteArray) : Int × Int := if (cChk s).1 = 0 then (szR (cAll s).es (cAll s).es.length, 0) else (0, (cChk s).1)
end Go.Proofs.YtegknlhadjhbdaaGreat
