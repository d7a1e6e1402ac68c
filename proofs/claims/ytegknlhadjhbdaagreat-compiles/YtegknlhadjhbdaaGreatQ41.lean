/-
  OUR OWN: the program's Compile.
  OUR OWN: a run of code, without memory.
  OUR OWN: what an expression means in a world; a run of its code gives that.
  OUR OWN: what is read of an expression's items.
-/
import Derived.Test.YtegknlhadjhbdaaGreatQ40
import Derived.Test.YtegknlhadjhbdaaGreatQ39
import Derived.Test.YtegknlhadjhbdaaGreatQ01
namespace Go.Proofs.YtegknlhadjhbdaaGreat
open Go.RowKit

/-- What Compile answers: the error; the code. -/
def cpE (s : ByteArray) : Int := if (cChk s).1 = 0 then (if 1000 < szR (cAll s).es (cAll s).es.length then 8 else 0) else (cChk s).1
def cpX (s : ByteArray) : List Int := encN (cAll s).es (cAll s).es.length
/-- The two results: with an error nothing. -/
def CpTo (w : World) (n : Int) (X : List Int) (r : Ending) (w' : World) : Prop := Below w.heap.size w w' ∧ ∃ o m k, r = .returned (.tuple #[.slice o m k, .int .i64 n]) ∧ (n ≠ 0 → o = none ∧ m = 0 ∧ k = 0) ∧ (n = 0 → m = X.length ∧ w'.ownsRow w.heap.size 5 1 (.slice o m k) X.length (X.map (Value.int .u8)))
theorem EB.shp {e : EX} (h : EB e) (hl : e.items.length ≤ 100000) : SHP e := by
  refine ⟨?_, ?_, h.nv.1, by have := h.nv; omega, hl, fun x hx => ?_⟩
  · have := h.kind; omega
  · have := h.kind; omega
  · have i := h.it x hx
    have h1 := i.num
    have h2 := i.pv
    have h3 := i.pl
    have h4 := i.wv
    omega
theorem EVw.of_pq {w : World} {base : Nat} {eo : Option Addr} {em ec : Nat} {rv : Value} {es : List (EX × Value)} {rs : List RL} (h : PQ w base (.slice eo em ec) rv es rs) : em = es.length ∧ es.length ≤ ec ∧ EVw w eo es := by
  obtain ⟨eo', ec', he, hv⟩ := ex_view h.ex h.it
  cases he
  obtain ⟨o, c, hv2, hc⟩ := owns_form h.ex
  cases hv2
  exact ⟨rfl, hc, hv⟩

attribute [local go_sem ↓] Go.wp_at_zero Go.wp_at_succ
set_option maxRecDepth 100000 in
set_option maxHeartbeats 800000 in
theorem mCompile_any (eo : Option Addr) (ec : Nat) (ro : Option Addr) (rm rc : Nat) (base : Nat) (es : List (EX × Value)) (rs : List RL) (w : World) (hl : es.length ≤ 100000) (hi : ∀ p ∈ es, p.1.items.length ≤ 100000) (hb : AllB (es.map Prod.fst)) (h : PQ w base (.slice eo es.length ec) (.slice ro rm rc) es rs) (n : Int) (hn : Hid ((if 1000 < szR (es.map Prod.fst) es.length then (8 : Int) else 0) = n)) :
    Calls Tryz.prog 40 #[.agg #[.slice eo es.length ec, .slice ro rm rc]] w (CpTo w n (encN (es.map Prod.fst) es.length)) := by
  have HB0 : Hid (Below w.heap.size w (w.alloc (.cells #[.slice eo es.length ec, .slice ro rm rc] 77))) := (Below.refl _ _).alloc (Nat.le_refl _) _
  have HX0 : Hid ((w.alloc (.cells #[.slice eo es.length ec, .slice ro rm rc] 77)).heap[w.heap.size]? = some (.cells #[.slice eo es.length ec, .slice ro rm rc] 77 (0, 0))) := heap_alloc_new w _
  have HPZ : Hid (∀ rv, (∃ ro rm rc, rv = Value.slice ro rm rc) → Calls Tryz.prog 39 #[.agg #[.slice eo es.length ec, rv]] (w.alloc (.cells #[.slice eo es.length ec, .slice ro rm rc] 77)) fun e w' => Below (w.alloc (.cells #[.slice eo es.length ec, .slice ro rm rc] 77)).heap.size (w.alloc (.cells #[.slice eo es.length ec, .slice ro rm rc] 77)) w' ∧ e = .returned (.int .i64 (szR (es.map Prod.fst) es.length))) := fun rv hrv => PSize_any eo ec rv base es _ hrv (h.ex.alloc _) (fun p hp => (h.it p hp).alloc _) hl hi
  obtain ⟨_, hec, hev⟩ := EVw.of_pq h
  have HEV : Hid (EVw w eo es) := hev
  have HENC : Hid (szR (es.map Prod.fst) es.length ≤ 1000 → ∀ wz, EVw wz eo es → Calls Tryz.prog 62 #[.slice eo es.length ec] wz (EncTo wz (encN (es.map Prod.fst) es.length))) := fun hsz wz hz => encode_any es eo ec hec hl (fun p hp => (hb p.1 (List.mem_map_of_mem hp)).shp (hi p hp)) es.length (Nat.le_refl _) hsz eo ec wz (fun _ => ⟨rfl, rfl⟩) hz
  have hzb := szR_bd (es.map Prod.fst) es.length
  clear h hev hb hi
  generalize encN (es.map Prod.fst) es.length = X at *
  generalize szR (es.map Prod.fst) es.length = z at *
  go_enter Tryz.func40, Tryz.ntmps40
  go_wp2_with fail
  refine (HPZ.out _ ⟨_, _, _, rfl⟩).mono ?_
  rintro e w1 ⟨hb1, rfl⟩
  have HB1 : Hid (Below w.heap.size w w1) := HB0.out.trans (hb1.mono HB0.out.size)
  have HX1 : Hid (w1.heap[w.heap.size]? = some (.cells #[.slice eo es.length ec, .slice ro rm rc] 77 (0, 0))) := by show _ = _; rw [hb1.block _ (by simp)]; exact HX0.out
  have q0 : w1.cell? ⟨w.heap.size, 0, none⟩ = some (.slice eo es.length ec) := by rw [cell_of_row _ _ _ _ _ _ HX1.out]; rfl
  clear hb1
  by_cases hz : 1000 < z
  · have HN : Hid (n = 8) := by show _ = _; rw [← hn.out, if_pos hz]
    go_wp2_with fail
    go_ret2
    exact ⟨HB1.out, none, 0, 0, by rw [HN.out]; rfl, fun _ => ⟨rfl, rfl, rfl⟩, fun h => by rw [HN.out] at h; cases h⟩
  · have HN : Hid (n = 0) := by show _ = _; rw [← hn.out, if_neg hz]
    have hz' : z ≤ 1000 := by omega
    clear hz
    go_wp2_with fail
    refine (HENC.out hz' _ (HEV.out.below HB1.out)).mono ?_
    rintro r w2 ⟨hb2, o, k, rfl, hrow⟩
    have HB2 : Hid (Below w.heap.size w w2) := HB1.out.trans (hb2.mono HB1.out.size)
    have HR2 : Hid (w2.ownsRow w.heap.size 5 1 (.slice o X.length k) X.length (X.map (Value.int .u8))) := owns_mono hrow HB1.out.size
    clear hb2 hrow
    go_wp2_with fail
    go_ret2
    exact ⟨HB2.out, o, X.length, k, by rw [HN.out]; rfl, fun h => absurd HN.out h, fun _ => ⟨rfl, HR2.out⟩⟩

set_option maxRecDepth 100000 in
set_option maxHeartbeats 800000 in
theorem Compile_any (s : ByteArray) (w : World) :
    Calls Tryz.prog 25 #[.string s] w (CpTo w (cpE s) (cpX s)) := by
  obtain ⟨c, hc⟩ : ∃ c, cChk s = c := ⟨_, rfl⟩
  have HC : Hid (cChk s = c) := hc
  have HS : Hid (cpE s = if c.1 = 0 then (if 1000 < szR (cAll s).es (cAll s).es.length then 8 else 0) else c.1) := by show _ = _; unfold cpE; rw [hc]
  have HBDS : Hid (c.1 = 0 → (cAll s).es.length ≤ 100000 ∧ ∀ e ∈ (cAll s).es, e.items.length ≤ 100000) := by
    intro h0
    have hs : ¬ 2000 < s.size := fun h => by rw [← hc] at h0; unfold cChk at h0; rw [if_pos h] at h0; cases h0
    have h1 := cRules_all s (s.size + 1) [] 0 0 false
    refine ⟨?_, fun e he => by have := h1 e he; omega⟩
    have h2 := cRules_mono s (s.size + 1) [] 0 0 false (Nat.zero_le _)
    show (cRules s (s.size + 1) [] 0 0 false).es.length ≤ 100000
    omega
  clear hc
  obtain ⟨c1, c2⟩ := c
  simp only at HS HBDS
  go_enter Tryz.func25, Tryz.ntmps25
  go_wp2_with fail
  refine (Read_any s _ (c1, c2) HC).mono ?_
  rintro e w1 ⟨hb, eo, em, ec, ro, rm, rc, rfl, hq⟩
  have HB : Hid (Below w.heap.size w w1) := hb
  have HQ : Hid (c1 = 0 → ∃ es, es.map Prod.fst = (cAll s).es ∧ PQ w1 w.heap.size (.slice eo em ec) (.slice ro rm rc) es (cAll s).rs) := hq
  clear hb hq
  cases e1 : (c1 == 0) with
  | false =>
    have e2 : (c1 != 0) = true := by simp [bne, e1]
    have HE : Hid (cpE s = c1) := by show _ = _; rw [HS.out, if_neg (by simpa using e1)]
    have HB1 : Hid (Below w.heap.size w (w1.alloc (.cells #[.slice eo em ec, .slice ro rm rc] 77))) := HB.out.alloc HB.out.size _
    have HNZ : Hid (c1 ≠ 0) := by show ¬ _; simpa using e1
    go_wp2_with fail
    go_ret2
    exact ⟨HB1.out, none, 0, 0, by rw [HE.out]; rfl, fun _ => ⟨rfl, rfl, rfl⟩, fun h => by rw [HE.out] at h; exact absurd h HNZ.out⟩
  | true =>
    have h0 : c1 = 0 := by simpa using e1
    subst h0
    obtain ⟨es, hes, hpq⟩ := HQ.out rfl
    have hbd := HBDS.out rfl
    have HE : Hid ((if 1000 < szR (es.map Prod.fst) es.length then (8 : Int) else 0) = cpE s) := by
      show _ = _
      rw [HS.out, if_pos rfl, ← hes, List.length_map]
    have HXX : Hid (encN (es.map Prod.fst) es.length = cpX s) := by show _ = _; unfold cpX; rw [← hes, List.length_map]
    obtain ⟨rfl, _, _⟩ := EVw.of_pq hpq
    have hab : AllB (es.map Prod.fst) := by rw [hes]; exact cAll_sh s
    rw [← hes] at hbd
    have HB1 : Hid (Below w.heap.size w (w1.alloc (.cells #[.slice eo es.length ec, .slice ro rm rc] 77))) := HB.out.alloc HB.out.size _
    have HCP := mCompile_any eo ec ro rm rc w.heap.size es (cAll s).rs (w1.alloc (.cells #[.slice eo es.length ec, .slice ro rm rc] 77)) (by simpa using hbd.1) (fun p hp => hbd.2 p.1 (List.mem_map_of_mem hp)) hab ⟨hpq.ex.alloc _, hpq.rl.alloc _, fun p hp => (hpq.it p hp).alloc _⟩ (cpE s) HE
    rw [HXX.out] at HCP
    clear hpq hes hbd hab
    go_wp2_with fail
    refine HCP.mono ?_
    rintro e w2 ⟨hb2, o, m, k, rfl, hn, hz⟩
    have HB2 : Hid (Below w.heap.size w w2) := HB1.out.trans (hb2.mono HB1.out.size)
    have HN2 : Hid (cpE s ≠ 0 → o = none ∧ m = 0 ∧ k = 0) := hn
    have HZ2 : Hid (cpE s = 0 → m = (cpX s).length ∧ w2.ownsRow w.heap.size 5 1 (.slice o m k) (cpX s).length ((cpX s).map (Value.int .u8))) := fun h => ⟨(hz h).1, owns_mono (hz h).2 HB1.out.size⟩
    clear hb2 hn hz
    go_wp2_with fail
    go_ret2
    exact ⟨HB2.out, o, m, k, rfl, HN2.out, HZ2.out⟩
end Go.Proofs.YtegknlhadjhbdaaGreat
namespace Go.Proofs.YtegknlhadjhbdaaGreat

/-- 256 to the n, not to be laid open by a walk. -/
def p256 : Nat → Int
  | 0 => 1
  | n + 1 => p256 n * 256
/-- What matters of a world. -/
structure RW where
  addr : Int
  draw : Int
  dn : Nat → Bool
  al : List (List Int)
  reg : Int
  dep : Int
/-- The reader: the place, and is it bad? -/
structure RD where
  p : Nat
  b : Bool
def nxV (C : List Int) (r : RD) : Int := (C[r.p]?).getD 0
def nx (C : List Int) (r : RD) : RD := if r.p < C.length then ⟨r.p + 1, r.b⟩ else ⟨r.p, true⟩
def rdAt (C : List Int) (r : RD) : Nat → RD
  | 0 => r
  | i + 1 => nx C (rdAt C r i)
def rdN (C : List Int) (r : RD) : Nat → Int
  | 0 => 0
  | i + 1 => rdN C r i + nxV C (rdAt C r i) * p256 i
/-- Behind a number of k bytes that must be from lo to hi. -/
def num (C : List Int) (r : RD) (k : Nat) (lo hi : Int) : RD := ⟨(rdAt C r k).p, if rdN C r k < lo ∨ hi < rdN C r k then true else (rdAt C r k).b⟩
/-- Servers, one behind another. -/
def svR (C : List Int) (r : RD) : Nat → RD
  | 0 => r
  | i + 1 => num C (svR C r i) 1 0 63
def svL (C : List Int) (r : RD) : Nat → List Int
  | 0 => []
  | i + 1 => svL C r i ++ [rdN C (svR C r i) 1]
def upW (W : RW) (s : Int) : Bool := decide (0 ≤ s) && (decide (s < 64) && !W.dn s.toNat)
/-- Members. -/
def meR (C : List Int) (r : RD) : Nat → RD
  | 0 => r
  | i + 1 => num C (num C (meR C r i) 1 0 63) 2 1 1000
def meS (C : List Int) (r : RD) (i : Nat) : Int := rdN C (meR C r i) 1
def meW (C : List Int) (r : RD) (i : Nat) : Int := rdN C (num C (meR C r i) 1 0 63) 2
def meL (W : RW) (C : List Int) (r : RD) : Nat → List (Int × Int)
  | 0 => []
  | i + 1 => if upW W (meS C r i) = true then meL W C r i ++ [(meS C r i, meW C r i)] else meL W C r i
def suL : List (Int × Int) → Int
  | [] => 0
  | x :: l => x.2 + suL l
def pkL : List (Int × Int) → Int → Option Int
  | [], _ => none
  | x :: l, r => if r < x.2 then some x.1 else pkL l (r - x.2)
/-- The first server that is up, from the i-th on. -/
def chG (W : RW) (C : List Int) (r : RD) : Nat → Nat → Option Nat
  | _, 0 => none
  | i, n + 1 => if upW W (rdN C (svR C r i) 1) = true then some i else chG W C r (i + 1) n
/-- Arms of a map of prefixes. -/
def amV (C : List Int) (r : RD) : RD := num C r 4 0 4294967295
def amL (C : List Int) (r : RD) : RD := ⟨(num C (amV C r) 1 0 32).p, if M.isP (rdN C r 4) (rdN C (amV C r) 1) = true then (num C (amV C r) 1 0 32).b else true⟩
def amR (C : List Int) (r : RD) : Nat → RD
  | 0 => r
  | i + 1 => num C (amL C (amR C r i)) 2 0 32000
def arV (C : List Int) (r : RD) (i : Nat) : Int := rdN C (amR C r i) 4
def arL (C : List Int) (r : RD) (i : Nat) : Int := rdN C (amV C (amR C r i)) 1
def arW (C : List Int) (r : RD) (i : Nat) : Int := rdN C (amL C (amR C r i)) 2
/-- Arms of a map of regions. -/
def rgR (C : List Int) (r : RD) : Nat → RD
  | 0 => r
  | i + 1 => num C (num C (rgR C r i) 1 0 99) 2 0 32000
def rgN (C : List Int) (r : RD) (i : Nat) : Int := rdN C (rgR C r i) 1
def rgW (C : List Int) (r : RD) (i : Nat) : Int := rdN C (num C (rgR C r i) 1 0 99) 2
def rgT (W : RW) (C : List Int) (r : RD) : Nat → Int
  | 0 => 0
  | i + 1 => if rgN C r i = W.reg then rgW C r i else rgT W C r i
/-- What a run has come to. -/
structure RT where
  r : RD
  sv : List Int
  ttl : Int
  sc : Int
def cnR (C : List Int) (r : RD) : RD := num C r 1 1 16
def cnN (C : List Int) (r : RD) : Nat := (rdN C r 1).toNat
def nar (d sc : Int) : Int := if sc < d then d else sc
def stServers (C : List Int) (s : RT) : RT := ⟨svR C (cnR C s.r) (cnN C s.r), s.sv ++ svL C (cnR C s.r) (cnN C s.r), s.ttl, s.sc⟩
def stPool (W : RW) (C : List Int) (s : RT) : RT × Bool :=
  if suL (meL W C (cnR C s.r) (cnN C s.r)) ≤ 0 then (⟨meR C (cnR C s.r) (cnN C s.r), s.sv, s.ttl, s.sc⟩, false)
  else match pkL (meL W C (cnR C s.r) (cnN C s.r)) (W.draw % suL (meL W C (cnR C s.r) (cnN C s.r))) with
    | some x => (⟨meR C (cnR C s.r) (cnN C s.r), s.sv ++ [x], s.ttl, s.sc⟩, true)
    | none => (⟨meR C (cnR C s.r) (cnN C s.r), s.sv, s.ttl, s.sc⟩, false)
def stChain (W : RW) (C : List Int) (s : RT) : RT × Bool :=
  match chG W C (cnR C s.r) 0 (cnN C s.r) with
  | some i => (⟨svR C (cnR C s.r) (i + 1), s.sv ++ [rdN C (svR C (cnR C s.r) i) 1], s.ttl, s.sc⟩, true)
  | none => (⟨svR C (cnR C s.r) (cnN C s.r), s.sv, s.ttl, s.sc⟩, false)
def stPrefixes (W : RW) (C : List Int) (s : RT) : RT :=
  ⟨⟨(amR C (cnR C s.r) (cnN C s.r)).p + (if M.bestTo (arV C (cnR C s.r)) (arL C (cnR C s.r)) W.addr (cnN C s.r) < 0 then 0 else (arW C (cnR C s.r) (M.bestTo (arV C (cnR C s.r)) (arL C (cnR C s.r)) W.addr (cnN C s.r)).toNat).toNat), (amR C (cnR C s.r) (cnN C s.r)).b⟩, s.sv, s.ttl, nar (M.depTo (arV C (cnR C s.r)) (arL C (cnR C s.r)) W.addr (cnN C s.r)) s.sc⟩
def stRegions (W : RW) (C : List Int) (s : RT) : RT :=
  ⟨⟨(rgR C (cnR C s.r) (cnN C s.r)).p + (rgT W C (cnR C s.r) (cnN C s.r)).toNat, (rgR C (cnR C s.r) (cnN C s.r)).b⟩, s.sv, s.ttl, nar W.dep s.sc⟩
def stSeconds (C : List Int) (s : RT) : RT := ⟨num C s.r 3 1 86400, s.sv, if rdN C s.r 3 < s.ttl then rdN C s.r 3 else s.ttl, s.sc⟩
def stAlias (W : RW) (C : List Int) (s : RT) : RT := ⟨num C s.r 1 0 15, s.sv ++ (W.al[(rdN C s.r 1).toNat]?).getD [], s.ttl, s.sc⟩
/-- One step; is the answer found? -/
def stepF (W : RW) (C : List Int) (s : RT) : RT × Bool :=
  let k := nxV C s.r
  let t : RT := ⟨nx C s.r, s.sv, s.ttl, s.sc⟩
  if k = 123 then (stServers C t, true)
  else if k = 119 then stPool W C t
  else if k = 102 then stChain W C t
  else if k = 109 then (stPrefixes W C t, false)
  else if k = 103 then (stRegions W C t, false)
  else if k = 116 then (stSeconds C t, false)
  else if k = 64 then (stAlias W C t, true)
  else (⟨⟨t.r.p, true⟩, t.sv, t.ttl, t.sc⟩, false)
/-- The error, the answer. -/
def runF (W : RW) (C : List Int) : Nat → RT → Int × (List Int × Int × Int)
  | 0, _ => (11, [], 0, 0)
  | f + 1, s =>
    if (stepF W C s).1.r.b = true then (10, [], 0, 0)
    else if (stepF W C s).2 = true then (0, (stepF W C s).1.sv, (stepF W C s).1.ttl, (stepF W C s).1.sc)
    else runF W C f (stepF W C s).1

theorem p256_pos (n : Nat) : 0 < p256 n := by
  induction n with
  | zero => decide
  | succ n ih => simp only [p256]; omega
end Go.Proofs.YtegknlhadjhbdaaGreat
namespace Go.Proofs.YtegknlhadjhbdaaGreat

/-- A meaning: servers, time to live, scope. -/
structure MN where
  sv : List Int
  ttl : Int
  sc : Int
def atM (K : List MN) (i : Int) : MN := if i < 0 then ⟨[], 0, 0⟩ else (K[i.toNat]?).getD ⟨[], 0, 0⟩
def itV (e : EX) (i : Nat) : Int := match e.items[i]? with | some x => x.pv | none => 0
def itL (e : EX) (i : Nat) : Int := match e.items[i]? with | some x => x.pl | none => 0
/-- The members that are up. -/
def mbL (W : RW) (l : List IM) : List (Int × Int) := (l.filter (fun x => upW W x.num)).map (fun x => (x.num, x.wv))
def poolM (W : RW) (l : List IM) : Option Int := if suL (mbL W l) ≤ 0 then none else pkL (mbL W l) (W.draw % suL (mbL W l))
def chainM (W : RW) (l : List IM) : Option Int := (l.find? (fun x => upW W x.num)).map IM.num
/-- The expression that counts, of a map of prefixes, of regions. -/
def prefM (W : RW) (e : EX) : Int := if M.bestTo (itV e) (itL e) W.addr e.items.length < 0 then e.inner else match e.items[(M.bestTo (itV e) (itL e) W.addr e.items.length).toNat]? with | some x => x.arm | none => e.inner
def regM (W : RW) (e : EX) : Int := match e.items.find? (fun x => x.num == W.reg) with | some x => x.arm | none => e.inner
def mnE (W : RW) (K : List MN) (e : EX) : MN :=
  if e.kind = 123 then ⟨e.items.map IM.num, 86400, 0⟩
  else if e.kind = 64 then ⟨(W.al[e.nv.toNat]?).getD [], 86400, 0⟩
  else if e.kind = 61 then atM K e.inner
  else if e.kind = 116 then ⟨(atM K e.inner).sv, if e.nv < (atM K e.inner).ttl then e.nv else (atM K e.inner).ttl, (atM K e.inner).sc⟩
  else if e.kind = 119 then (match poolM W e.items with | some x => ⟨[x], 86400, 0⟩ | none => atM K e.inner)
  else if e.kind = 102 then (match chainM W e.items with | some x => ⟨[x], 86400, 0⟩ | none => atM K e.inner)
  else if e.kind = 109 then ⟨(atM K (prefM W e)).sv, (atM K (prefM W e)).ttl, nar (M.depTo (itV e) (itL e) W.addr e.items.length) (atM K (prefM W e)).sc⟩
  else ⟨(atM K (regM W e)).sv, (atM K (regM W e)).ttl, nar W.dep (atM K (regM W e)).sc⟩
def mnK (W : RW) (es : List EX) : Nat → List MN
  | 0 => []
  | j + 1 => mnK W es j ++ [match es[j]? with | some e => mnE W (mnK W es j) e | none => ⟨[], 0, 0⟩]
def mnN (W : RW) (es : List EX) : Nat → MN
  | 0 => ⟨[], 0, 0⟩
  | j + 1 => match es[j]? with | some e => mnE W (mnK W es j) e | none => ⟨[], 0, 0⟩
theorem mnK_len (W : RW) (es : List EX) : ∀ j, (mnK W es j).length = j := by
  intro j
  induction j with
  | zero => rfl
  | succ j ih => simp [mnK, ih]
theorem mnK_at (W : RW) (es : List EX) : ∀ m i, i < m → (mnK W es m)[i]? = some (mnN W es (i + 1)) := by
  intro m
  induction m with
  | zero => intro i h; omega
  | succ m ih =>
    intro i h
    by_cases hi : i < m
    · simp only [mnK]
      rw [List.getElem?_append_left (by rw [mnK_len]; exact hi)]
      exact ih i hi
    · have : i = m := by omega
      subst this
      simp only [mnK]
      rw [List.getElem?_append_right (by rw [mnK_len]; exact Nat.le_refl _), mnK_len]
      simp [mnN]
theorem atM_mn (W : RW) (es : List EX) {m i : Nat} (h : i < m) : atM (mnK W es m) (i : Int) = mnN W es (i + 1) := by
  unfold atM
  rw [if_neg (by omega), Int.toNat_natCast, mnK_at W es m i h]; rfl
theorem atL_en (es : List EX) {m i : Nat} (h : i < m) : atL (encK es m) (i : Int) = encN es (i + 1) := by
  rw [atL_enc, if_neg (by omega), if_pos (by omega), Int.toNat_natCast]

/-- What is right of an expression, and of all that it needs. -/
inductive GD (E : List EX) : Nat → Prop where
  | servers {j : Nat} {e : EX} : E[j]? = some e → e.kind = 123 → 0 < e.items.length → e.items.length ≤ 16 → (∀ x ∈ e.items, 0 ≤ x.num ∧ x.num ≤ 63 ∧ x.arm = -1) → e.inner = -1 → GD E j
  | alias {j : Nat} {e : EX} : E[j]? = some e → e.kind = 64 → 0 ≤ e.nv → e.nv ≤ 15 → e.items = [] → e.inner = -1 → GD E j
  | name {j i : Nat} {e : EX} : E[j]? = some e → e.kind = 61 → e.items = [] → e.inner = (i : Int) → i < j → GD E i → GD E j
  | ttl {j i : Nat} {e : EX} : E[j]? = some e → e.kind = 116 → 1 ≤ e.nv → e.nv ≤ 86400 → e.items = [] → e.inner = (i : Int) → i < j → GD E i → GD E j
  | list {j i : Nat} {e : EX} : E[j]? = some e → (e.kind = 119 ∨ e.kind = 102) → 0 < e.items.length → e.items.length ≤ 16 → (∀ x ∈ e.items, 0 ≤ x.num ∧ x.num ≤ 63 ∧ x.arm = -1 ∧ (e.kind = 119 → 1 ≤ x.wv ∧ x.wv ≤ 1000)) → e.inner = (i : Int) → i < j → GD E i → GD E j
  | maps {j i : Nat} {e : EX} {an : Nat → Nat} : E[j]? = some e → (e.kind = 109 ∨ e.kind = 103) → 0 < e.items.length → e.items.length ≤ 16 → (∀ x ∈ e.items, (e.kind = 109 → M.isP x.pv x.pl = true) ∧ (e.kind = 103 → 0 ≤ x.num ∧ x.num ≤ 99)) → (e.kind = 103 → ∀ (a b : Nat) (x y : IM), e.items[a]? = some x → e.items[b]? = some y → x.num = y.num → a = b) → (e.kind = 109 → ∀ (a b : Nat) (x y : IM), e.items[a]? = some x → e.items[b]? = some y → x.pv = y.pv → x.pl = y.pl → a = b) →
      (∀ (k : Nat) (x : IM), e.items[k]? = some x → x.arm = (an k : Int) ∧ an k < j) → (∀ k, k < e.items.length → GD E (an k)) → e.inner = (i : Int) → i < j → GD E i → GD E j

/-! Bytes that lie in code. -/
def Sits (C : List Int) (p : Nat) (X : List Int) : Prop := ∀ (i : Nat) (x : Int), X[i]? = some x → C[p + i]? = some x
theorem Sits.left {C : List Int} {p : Nat} {X Y : List Int} (h : Sits C p (X ++ Y)) : Sits C p X := fun i x hx => h i x (by rw [List.getElem?_append_left (List.getElem?_eq_some_iff.1 hx).1]; exact hx)
theorem Sits.right {C : List Int} {p : Nat} {X Y : List Int} (h : Sits C p (X ++ Y)) : Sits C (p + X.length) Y := fun i x hx => by
  have := h (X.length + i) x (by rw [List.getElem?_append_right (by omega), Nat.add_sub_cancel_left]; exact hx)
  rw [Nat.add_assoc]; exact this
theorem Sits.lt {C : List Int} {p i : Nat} {X : List Int} (h : Sits C p X) (hi : i < X.length) : p + i < C.length :=
  (List.getElem?_eq_some_iff.1 (h i X[i] (List.getElem?_eq_getElem hi))).1
/-- The value of the first i bytes. -/
def vL (X : List Int) : Nat → Int
  | 0 => 0
  | i + 1 => vL X i + (X[i]?).getD 0 * p256 i
theorem rd_list {C : List Int} {p : Nat} {X : List Int} (b : Bool) (h : Sits C p X) : ∀ i, i ≤ X.length → rdAt C ⟨p, b⟩ i = ⟨p + i, b⟩ ∧ rdN C ⟨p, b⟩ i = vL X i := by
  intro i
  induction i with
  | zero => intro _; exact ⟨rfl, rfl⟩
  | succ i ih =>
    intro hi
    obtain ⟨h1, h2⟩ := ih (by omega)
    have hlt := h.lt (i := i) (by omega)
    have hv := h i X[i] (List.getElem?_eq_getElem (by omega))
    constructor
    · simp only [rdAt, h1, nx]
      rw [if_pos hlt]; rfl
    · simp only [rdN, vL, h1, h2, nxV, hv]
      rw [List.getElem?_eq_getElem (by omega)]
theorem rd_num {C : List Int} {p k : Nat} {n : Int} (b : Bool) (hk : k ≤ 4) (h : Sits C p (numB n k)) (h0 : 0 ≤ n) (h1 : n < p256 k) : rdAt C ⟨p, b⟩ k = ⟨p + k, b⟩ ∧ rdN C ⟨p, b⟩ k = n := by
  have h2 := rd_list b h k (by rw [numB_len]; exact Nat.le_refl _)
  refine ⟨h2.1, h2.2.trans ?_⟩
  have hk' : k = 0 ∨ k = 1 ∨ k = 2 ∨ k = 3 ∨ k = 4 := by omega
  rcases hk' with rfl | rfl | rfl | rfl | rfl
  all_goals simp [numB, vL, p256] at h1 ⊢
  all_goals omega
theorem num_ok {C : List Int} {p k : Nat} {n lo hi : Int} (b : Bool) (hk : k ≤ 4) (h : Sits C p (numB n k)) (h0 : 0 ≤ n) (h1 : n < p256 k) (h2 : lo ≤ n) (h3 : n ≤ hi) : num C ⟨p, b⟩ k lo hi = ⟨p + k, b⟩ := by
  obtain ⟨h4, h5⟩ := rd_num b hk h h0 h1
  unfold num
  rw [h4, h5, if_neg (by omega)]
theorem p256_1 : p256 1 = 256 := by decide
theorem p256_2 : p256 2 = 65536 := by decide
theorem p256_3 : p256 3 = 16777216 := by decide
theorem p256_4 : p256 4 = 4294967296 := by decide
theorem headL_pre (K : List (List Int)) (e : EX) : ∀ m i, i ≤ m → ∃ T, headL K e m = headL K e i ++ T := by
  intro m
  induction m with
  | zero => intro i h; have : i = 0 := by omega
            subst this; exact ⟨[], by simp⟩
  | succ m ih =>
    intro i h
    by_cases h1 : i ≤ m
    · obtain ⟨T, hT⟩ := ih i h1
      simp only [headL]
      exact ⟨_, by rw [hT, List.append_assoc]⟩
    · have : i = m + 1 := by omega
      subst this; exact ⟨[], by simp⟩
theorem withinL_pre (K : List (List Int)) (e : EX) : ∀ m i, i ≤ m → ∃ T, withinL K e m = withinL K e i ++ T := by
  intro m
  induction m with
  | zero => intro i h; have : i = 0 := by omega
            subst this; exact ⟨[], by simp⟩
  | succ m ih =>
    intro i h
    by_cases h1 : i ≤ m
    · obtain ⟨T, hT⟩ := ih i h1
      simp only [withinL]
      exact ⟨_, by rw [hT, List.append_assoc]⟩
    · have : i = m + 1 := by omega
      subst this; exact ⟨[], by simp⟩
theorem item_sits {C : List Int} {p : Nat} {K : List (List Int)} {e : EX} (h : Sits C p (headL K e e.items.length)) {i : Nat} {x : IM} (hx : e.items[i]? = some x) : Sits C (p + (headL K e i).length) (itemB e.kind x (withinL K e i).length) := by
  obtain ⟨T, hT⟩ := headL_pre K e e.items.length (i + 1) (List.getElem?_eq_some_iff.1 hx).1
  rw [hT] at h
  have h2 := h.left
  simp only [headL, hx] at h2
  exact h2.right
theorem expr_sits {C : List Int} {p : Nat} {K : List (List Int)} {e : EX} (h : Sits C p (headL K e e.items.length)) : Sits C p (exprB e) := by
  obtain ⟨T, hT⟩ := headL_pre K e e.items.length 0 (Nat.zero_le _)
  rw [hT] at h
  exact h.left
theorem arm_sits {C : List Int} {p : Nat} {K : List (List Int)} {e : EX} (h : Sits C p (withinL K e e.items.length)) {i : Nat} {x : IM} (hx : e.items[i]? = some x) : Sits C (p + (withinL K e i).length) (atL K x.arm) := by
  obtain ⟨T, hT⟩ := withinL_pre K e e.items.length (i + 1) (List.getElem?_eq_some_iff.1 hx).1
  rw [hT] at h
  have h2 := h.left
  simp only [withinL, hx] at h2
  exact h2.right
theorem inner_sits {C : List Int} {p : Nat} {K : List (List Int)} {e : EX} (h : Sits C p (withinL K e e.items.length)) : Sits C p (atL K e.inner) := by
  obtain ⟨T, hT⟩ := withinL_pre K e e.items.length 0 (Nat.zero_le _)
  rw [hT] at h
  exact h.left
/-- The head of an expression with items. -/
theorem hd_two {C : List Int} {p : Nat} {e : EX} (hk : e.kind = 123 ∨ e.kind = 119 ∨ e.kind = 102 ∨ e.kind = 109 ∨ e.kind = 103) (h0 : 0 < e.items.length) (h1 : e.items.length ≤ 16) (h : Sits C p (exprB e)) :
    nxV C ⟨p, false⟩ = e.kind ∧ nx C ⟨p, false⟩ = ⟨p + 1, false⟩ ∧ cnR C ⟨p + 1, false⟩ = ⟨p + 2, false⟩ ∧ cnN C ⟨p + 1, false⟩ = e.items.length ∧ (exprB e).length = 2 := by
  have he : exprB e = numB e.kind 1 ++ numB (e.items.length : Int) 1 := by
    unfold exprB
    rw [if_neg (by omega), if_neg (by omega)]
  rw [he] at h ⊢
  have h2 := h.left
  have h3 := h.right
  rw [numB_len] at h3
  have a1 := rd_num (b := false) (by decide) h2 (by omega) (by rw [p256_1]; omega)
  have a2 := rd_num (b := false) (by decide) h3 (by omega) (by rw [p256_1]; omega)
  have a3 := num_ok (b := false) (lo := 1) (hi := 16) (by decide) h3 (by omega) (by rw [p256_1]; omega) (by omega) (by omega)
  refine ⟨?_, ?_, a3, ?_, by simp [numB_len]⟩
  · have := a1.2
    simpa [rdN, rdAt, p256] using this
  · exact a1.1
  · unfold cnN
    rw [a2.2]; omega
theorem bestTo_congr {V L V' L' : Nat → Int} {a : Int} : ∀ n, (∀ i, i < n → V i = V' i ∧ L i = L' i) → M.bestTo V L a n = M.bestTo V' L' a n ∧ M.bitsTo V L a n = M.bitsTo V' L' a n ∧ M.depTo V L a n = M.depTo V' L' a n := by
  intro n
  induction n with
  | zero => intro _; exact ⟨rfl, rfl, rfl⟩
  | succ n ih =>
    intro h
    obtain ⟨h1, h2, h3⟩ := ih (fun i hi => h i (by omega))
    obtain ⟨h4, h5⟩ := h n (by omega)
    simp only [M.bestTo, M.bitsTo, M.depTo, M.need, h1, h2, h3, h4, h5]
    exact ⟨trivial, trivial, rfl⟩
theorem best_lt {V L : Nat → Int} {a : Int} : ∀ n, M.bestTo V L a n < n := by
  intro n
  induction n with
  | zero => simp [M.bestTo]
  | succ n ih => simp only [M.bestTo]; split <;> omega
end Go.Proofs.YtegknlhadjhbdaaGreat
namespace Go.Proofs.YtegknlhadjhbdaaGreat

theorem headL_two (K : List (List Int)) (e : EX) (h : (exprB e).length = 2) : (headL K e 0).length = 2 := h
/-- Servers. -/
theorem sv_read {C : List Int} {p : Nat} {K : List (List Int)} {e : EX} (hk : e.kind = 123 ∨ e.kind = 102) (h2 : (exprB e).length = 2) (hr : ∀ x ∈ e.items, 0 ≤ x.num ∧ x.num ≤ 63) (h : Sits C p (headL K e e.items.length)) :
    ∀ i, i ≤ e.items.length → svR C ⟨p + 2, false⟩ i = ⟨p + (headL K e i).length, false⟩ ∧ svL C ⟨p + 2, false⟩ i = (e.items.map IM.num).take i ∧ ∀ x, e.items[i]? = some x → rdN C (svR C ⟨p + 2, false⟩ i) 1 = x.num := by
  intro i
  have hrd : ∀ i x, e.items[i]? = some x → (rdN C ⟨p + (headL K e i).length, false⟩ 1 = x.num ∧ num C ⟨p + (headL K e i).length, false⟩ 1 0 63 = ⟨p + (headL K e i).length + 1, false⟩ ∧ (headL K e (i + 1)).length = (headL K e i).length + 1) := by
    intro i x hx
    have hs := item_sits h hx
    have hi : itemB e.kind x (withinL K e i).length = numB x.num 1 := by
      unfold itemB
      rw [if_neg (by omega), if_neg (by omega), if_neg (by omega)]
    rw [hi] at hs
    have hx2 := hr x (List.mem_of_getElem? hx)
    refine ⟨(rd_num false (by decide) hs (by omega) (by rw [p256_1]; omega)).2, num_ok false (by decide) hs (by omega) (by rw [p256_1]; omega) (by omega) (by omega), ?_⟩
    simp only [headL, hx, hi, List.length_append, numB_len]
  induction i with
  | zero =>
    intro _
    have e0 : svR C ⟨p + 2, false⟩ 0 = ⟨p + (headL K e 0).length, false⟩ := by rw [headL_two K e h2]; rfl
    refine ⟨e0, by simp [svL], fun x hx => ?_⟩
    rw [e0]; exact (hrd 0 x hx).1
  | succ i ih =>
    intro hi
    obtain ⟨h3, h4, h5⟩ := ih (by omega)
    obtain ⟨x, hx⟩ : ∃ x, e.items[i]? = some x := ⟨e.items[i], List.getElem?_eq_getElem (by omega)⟩
    have h6 := hrd i x hx
    have e1 : svR C ⟨p + 2, false⟩ (i + 1) = ⟨p + (headL K e (i + 1)).length, false⟩ := by
      simp only [svR, h3, h6.2.1, h6.2.2]; rfl
    refine ⟨e1, ?_, fun y hy => by rw [e1]; exact (hrd (i + 1) y hy).1⟩
    simp only [svL, h4, h5 x hx]
    rw [List.take_add_one]
    simp [hx]
/-- Members. -/
theorem me_read {W : RW} {C : List Int} {p : Nat} {K : List (List Int)} {e : EX} (hk : e.kind = 119) (h2 : (exprB e).length = 2) (hr : ∀ x ∈ e.items, 0 ≤ x.num ∧ x.num ≤ 63 ∧ 1 ≤ x.wv ∧ x.wv ≤ 1000) (h : Sits C p (headL K e e.items.length)) :
    ∀ i, i ≤ e.items.length → meR C ⟨p + 2, false⟩ i = ⟨p + (headL K e i).length, false⟩ ∧ meL W C ⟨p + 2, false⟩ i = mbL W (e.items.take i) := by
  intro i
  have hrd : ∀ i x, e.items[i]? = some x → (rdN C ⟨p + (headL K e i).length, false⟩ 1 = x.num ∧ num C ⟨p + (headL K e i).length, false⟩ 1 0 63 = ⟨p + (headL K e i).length + 1, false⟩ ∧ rdN C ⟨p + (headL K e i).length + 1, false⟩ 2 = x.wv ∧ num C ⟨p + (headL K e i).length + 1, false⟩ 2 1 1000 = ⟨p + (headL K e (i + 1)).length, false⟩) := by
    intro i x hx
    have hs := item_sits h hx
    have hi : itemB e.kind x (withinL K e i).length = numB x.num 1 ++ numB x.wv 2 := by
      unfold itemB
      rw [if_neg (by omega), if_neg (by omega), if_pos hk]
    rw [hi] at hs
    have hx2 := hr x (List.mem_of_getElem? hx)
    have hs1 := hs.left
    have hs2 := hs.right
    rw [numB_len] at hs2
    have hl : (headL K e (i + 1)).length = (headL K e i).length + 1 + 2 := by simp only [headL, hx, hi, List.length_append, numB_len]
    refine ⟨(rd_num false (by decide) hs1 (by omega) (by rw [p256_1]; omega)).2, num_ok false (by decide) hs1 (by omega) (by rw [p256_1]; omega) (by omega) (by omega), (rd_num false (by decide) hs2 (by omega) (by rw [p256_2]; omega)).2, ?_⟩
    rw [num_ok false (by decide) hs2 (by omega) (by rw [p256_2]; omega) (by omega) (by omega), hl]
    rfl
  induction i with
  | zero =>
    intro _
    have e0 : meR C ⟨p + 2, false⟩ 0 = ⟨p + (headL K e 0).length, false⟩ := by rw [headL_two K e h2]; rfl
    exact ⟨e0, by simp [meL, mbL]⟩
  | succ i ih =>
    intro hi
    obtain ⟨h3, h4⟩ := ih (by omega)
    obtain ⟨x, hx⟩ : ∃ x, e.items[i]? = some x := ⟨e.items[i], List.getElem?_eq_getElem (by omega)⟩
    obtain ⟨q1, q2, q3, q4⟩ := hrd i x hx
    refine ⟨by simp only [meR, h3, q2, q4], ?_⟩
    have e1 : meS C ⟨p + 2, false⟩ i = x.num := by unfold meS; rw [h3, q1]
    have e2 : meW C ⟨p + 2, false⟩ i = x.wv := by unfold meW; rw [h3, q2, q3]
    simp only [meL, e1, e2, h4]
    rw [List.take_add_one]
    simp only [hx, Option.toList_some]
    unfold mbL
    rw [List.filter_append, List.map_append]
    by_cases hu : upW W x.num = true
    · rw [if_pos hu]; simp [hu]
    · rw [if_neg hu]; simp [hu]
/-- Arms of a map of prefixes. -/
theorem am_read {C : List Int} {p : Nat} {K : List (List Int)} {e : EX} (hk : e.kind = 109) (h2 : (exprB e).length = 2) (hr : ∀ x ∈ e.items, M.isP x.pv x.pl = true) (hw : (withinL K e e.items.length).length ≤ 32000) (h : Sits C p (headL K e e.items.length)) :
    ∀ i, i ≤ e.items.length → amR C ⟨p + 2, false⟩ i = ⟨p + (headL K e i).length, false⟩ ∧ (i < e.items.length → arV C ⟨p + 2, false⟩ i = itV e i ∧ arL C ⟨p + 2, false⟩ i = itL e i ∧ arW C ⟨p + 2, false⟩ i = ((withinL K e i).length : Int)) := by
  intro i
  have hrd : ∀ i x, e.items[i]? = some x → (rdN C ⟨p + (headL K e i).length, false⟩ 4 = x.pv ∧ amV C ⟨p + (headL K e i).length, false⟩ = ⟨p + (headL K e i).length + 4, false⟩ ∧ rdN C ⟨p + (headL K e i).length + 4, false⟩ 1 = x.pl ∧ amL C ⟨p + (headL K e i).length, false⟩ = ⟨p + (headL K e i).length + 5, false⟩ ∧ rdN C ⟨p + (headL K e i).length + 5, false⟩ 2 = ((withinL K e i).length : Int) ∧ num C ⟨p + (headL K e i).length + 5, false⟩ 2 0 32000 = ⟨p + (headL K e (i + 1)).length, false⟩) := by
    intro i x hx
    have hs := item_sits h hx
    have hi : itemB e.kind x (withinL K e i).length = numB x.pv 4 ++ numB x.pl 1 ++ numB (withinL K e i).length 2 := by
      unfold itemB
      rw [if_pos hk]
    rw [hi] at hs
    have hx2 := hr x (List.mem_of_getElem? hx)
    obtain ⟨l0, l1, v0, v1, _⟩ := M.isP_iff.1 hx2
    have hs1 := hs.left.left
    have hs2 := hs.left.right
    have hs3 := hs.right
    rw [List.length_append, numB_len, numB_len] at hs3
    rw [numB_len] at hs2
    have hwi := withinL_le K e e.items.length i (Nat.le_of_lt (List.getElem?_eq_some_iff.1 hx).1)
    have hl : (headL K e (i + 1)).length = (headL K e i).length + 5 + 2 := by simp only [headL, hx, hi, List.length_append, numB_len]
    have a1 := (rd_num false (by decide) hs1 (by omega) (by rw [p256_4]; omega)).2
    have a2 := num_ok false (lo := 0) (hi := 4294967295) (by decide) hs1 (by omega) (by rw [p256_4]; omega) (by omega) (by omega)
    have a3 := (rd_num false (by decide) hs2 (by omega) (by rw [p256_1]; omega)).2
    have a4 := num_ok false (lo := 0) (hi := 32) (by decide) hs2 (by omega) (by rw [p256_1]; omega) (by omega) (by omega)
    have a5 := (rd_num false (by decide) hs3 (by omega) (by rw [p256_2]; omega)).2
    have a6 := num_ok false (lo := 0) (hi := 32000) (by decide) hs3 (by omega) (by rw [p256_2]; omega) (by omega) (by omega)
    have c1 : amV C ⟨p + (headL K e i).length, false⟩ = ⟨p + (headL K e i).length + 4, false⟩ := a2
    refine ⟨a1, c1, a3, ?_, a5, ?_⟩
    · unfold amL
      rw [c1, a1, a3, a4, if_pos hx2]
    · rw [hl]; exact a6
  induction i with
  | zero =>
    intro _
    have e0 : amR C ⟨p + 2, false⟩ 0 = ⟨p + (headL K e 0).length, false⟩ := by rw [headL_two K e h2]; rfl
    refine ⟨e0, fun hi => ?_⟩
    obtain ⟨x, hx⟩ : ∃ x, e.items[0]? = some x := ⟨e.items[0], List.getElem?_eq_getElem hi⟩
    obtain ⟨q1, q2, q3, q4, q5, q6⟩ := hrd 0 x hx
    unfold arV arL arW itV itL
    rw [e0, q1, q2, q3, q4, q5, hx]
    exact ⟨rfl, rfl, rfl⟩
  | succ i ih =>
    intro hi
    obtain ⟨h3, _⟩ := ih (by omega)
    obtain ⟨x, hx⟩ : ∃ x, e.items[i]? = some x := ⟨e.items[i], List.getElem?_eq_getElem (by omega)⟩
    obtain ⟨q1, q2, q3, q4, q5, q6⟩ := hrd i x hx
    have e1 : amR C ⟨p + 2, false⟩ (i + 1) = ⟨p + (headL K e (i + 1)).length, false⟩ := by simp only [amR, h3, q4, q6]
    refine ⟨e1, fun hi' => ?_⟩
    obtain ⟨y, hy⟩ : ∃ y, e.items[i + 1]? = some y := ⟨e.items[i + 1], List.getElem?_eq_getElem hi'⟩
    obtain ⟨r1, r2, r3, r4, r5, r6⟩ := hrd (i + 1) y hy
    unfold arV arL arW itV itL
    rw [e1, r1, r2, r3, r4, r5, hy]
    exact ⟨rfl, rfl, rfl⟩
/-- Arms of a map of regions. -/
theorem rg_read {C : List Int} {p : Nat} {K : List (List Int)} {e : EX} (hk : e.kind = 103) (h2 : (exprB e).length = 2) (hr : ∀ x ∈ e.items, 0 ≤ x.num ∧ x.num ≤ 99) (hw : (withinL K e e.items.length).length ≤ 32000) (h : Sits C p (headL K e e.items.length)) :
    ∀ i, i ≤ e.items.length → rgR C ⟨p + 2, false⟩ i = ⟨p + (headL K e i).length, false⟩ ∧ (∀ x, e.items[i]? = some x → rgN C ⟨p + 2, false⟩ i = x.num ∧ rgW C ⟨p + 2, false⟩ i = ((withinL K e i).length : Int)) := by
  intro i
  have hrd : ∀ i x, e.items[i]? = some x → (rdN C ⟨p + (headL K e i).length, false⟩ 1 = x.num ∧ num C ⟨p + (headL K e i).length, false⟩ 1 0 99 = ⟨p + (headL K e i).length + 1, false⟩ ∧ rdN C ⟨p + (headL K e i).length + 1, false⟩ 2 = ((withinL K e i).length : Int) ∧ num C ⟨p + (headL K e i).length + 1, false⟩ 2 0 32000 = ⟨p + (headL K e (i + 1)).length, false⟩) := by
    intro i x hx
    have hs := item_sits h hx
    have hi : itemB e.kind x (withinL K e i).length = numB x.num 1 ++ numB (withinL K e i).length 2 := by
      unfold itemB
      rw [if_neg (by omega), if_pos hk]
    rw [hi] at hs
    have hx2 := hr x (List.mem_of_getElem? hx)
    have hs1 := hs.left
    have hs2 := hs.right
    rw [numB_len] at hs2
    have hwi := withinL_le K e e.items.length i (Nat.le_of_lt (List.getElem?_eq_some_iff.1 hx).1)
    have hl : (headL K e (i + 1)).length = (headL K e i).length + 1 + 2 := by simp only [headL, hx, hi, List.length_append, numB_len]
    refine ⟨(rd_num false (by decide) hs1 (by omega) (by rw [p256_1]; omega)).2, num_ok false (by decide) hs1 (by omega) (by rw [p256_1]; omega) (by omega) (by omega), (rd_num false (by decide) hs2 (by omega) (by rw [p256_2]; omega)).2, ?_⟩
    rw [num_ok false (by decide) hs2 (by omega) (by rw [p256_2]; omega) (by omega) (by omega), hl]
    rfl
  induction i with
  | zero =>
    intro _
    have e0 : rgR C ⟨p + 2, false⟩ 0 = ⟨p + (headL K e 0).length, false⟩ := by rw [headL_two K e h2]; rfl
    refine ⟨e0, fun x hx => ?_⟩
    obtain ⟨q1, q2, q3, q4⟩ := hrd 0 x hx
    unfold rgN rgW
    rw [e0, q1, q2, q3]
    exact ⟨rfl, rfl⟩
  | succ i ih =>
    intro hi
    obtain ⟨h3, _⟩ := ih (by omega)
    obtain ⟨x, hx⟩ : ∃ x, e.items[i]? = some x := ⟨e.items[i], List.getElem?_eq_getElem (by omega)⟩
    obtain ⟨q1, q2, q3, q4⟩ := hrd i x hx
    have e1 : rgR C ⟨p + 2, false⟩ (i + 1) = ⟨p + (headL K e (i + 1)).length, false⟩ := by simp only [rgR, h3, q2, q4]
    refine ⟨e1, fun y hy => ?_⟩
    obtain ⟨r1, r2, r3, r4⟩ := hrd (i + 1) y hy
    unfold rgN rgW
    rw [e1, r1, r2, r3]
    exact ⟨rfl, rfl⟩
end Go.Proofs.YtegknlhadjhbdaaGreat
