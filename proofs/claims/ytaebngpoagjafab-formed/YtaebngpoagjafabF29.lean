import Derived.Test.YtaebngpoagjafabF27
import Derived.Test.YtaebngpoagjafabF28
import Derived.Deep.WholeRow
import Derived.Laws.Cover3
set_option maxRecDepth 100000
set_option maxHeartbeats 800000
namespace Go.Proofs.Ytaebngpoagjafab
open Go.RowKit
attribute [local go_sem ↓] Go.wp_at_zero Go.wp_at_succ
theorem JU (t e:TypeId) (h:Try.prog.underlying t=some (.slice e)) (w:World):(binOp .eql t (.slice none 0 0) (.slice none 0 0)).run Try.prog w=.ok (.bool true) w:=by
 simp only [binOp]
 simp [run_equal_slice_nil w t e none 0 0 h]
def cpE (s:ByteArray):Int:=if (zU s).1=0 then (if 1000<szR (zk s).es (zk s).es.length then 8 else 0) else (zU s).1
def cpX (s:ByteArray):List Int:=yt (zk s).es (zk s).es.length
def Jz (w:World) (n:Int) (X:List Int) (r:Ending) (w':World):Prop:=Below w.heap.size w w'/\∃ o m k,r=.returned (.tuple #[.slice o m k,.int .i64 n])/\(n≠0->o=none/\m=0/\k=0)/\(n=0->m=X.length/\w'.ownsRow w.heap.size 5 1 (.slice o m k) X.length (X.map (Value.int .u8)))
theorem EB.shp {e:EX} (h:EB e) (hl:e.items.length<=100000):SHP e:=by
 refine ⟨?_,?_,h.nv.1,by have:=h.nv;omega,hl,fun x hx=>?_⟩
 ·have:=h.kind;omega
 ·have:=h.kind;omega
 ·have i:=h.it x hx
  have h1:=i.num
  have h2:=i.pv
  have h3:=i.pl
  have h4:=i.wv
  omega
theorem EVw.of_pq {w:World} {base:Nat} {eo:Option Addr} {em ec:Nat} {rv:Value} {es:List (EX×Value)} {rs:List RL} (h:PQ w base (.slice eo em ec) rv es rs):em=es.length/\es.length<=ec/\EVw w eo es:=by
 obtain ⟨eo',ec',he,hv⟩:=q9 h.ex h.it
 cases he
 obtain ⟨o,c,hv2,hc⟩:=YL h.ex
 cases hv2
 exact ⟨rfl,hc,hv⟩
theorem Xl (eo:Option Addr) (ec:Nat) (ro:Option Addr) (rm rc:Nat) (base:Nat) (es:List (EX×Value)) (rs:List RL) (w:World) (hl:es.length<=100000) (hi:∀ p∈es,p.1.items.length<=100000) (hb:yE (es.map Prod.fst)) (h:PQ w base (.slice eo es.length ec) (.slice ro rm rc) es rs) (n:Int) (hn:Hid ((if 1000<szR (es.map Prod.fst) es.length then (8:Int) else 0)=n)) :
 Calls Try.prog 14 #[.agg #[.slice eo es.length ec,.slice ro rm rc]] w (Jz w n (yt (es.map Prod.fst) es.length)):=by
 have HB0:Hid (Below w.heap.size w (w.alloc (.cells #[.slice eo es.length ec,.slice ro rm rc] 39))):=(Below.refl _ _).alloc (Nat.le_refl _) _
 have HX0:Hid ((w.alloc (.cells #[.slice eo es.length ec,.slice ro rm rc] 39)).heap[w.heap.size]?=some (.cells #[.slice eo es.length ec,.slice ro rm rc] 39 (0,0))):=heap_alloc_new w _
 have HPZ:Hid (∀ rv,(∃ ro rm rc,rv=Value.slice ro rm rc)->Calls Try.prog 21 #[.agg #[.slice eo es.length ec,rv]] (w.alloc (.cells #[.slice eo es.length ec,.slice ro rm rc] 39)) fun e w'=>Below (w.alloc (.cells #[.slice eo es.length ec,.slice ro rm rc] 39)).heap.size (w.alloc (.cells #[.slice eo es.length ec,.slice ro rm rc] 39)) w'/\e=.returned (.int .i64 (szR (es.map Prod.fst) es.length))):=fun rv hrv=>jb eo ec rv base es _ hrv (h.ex.alloc _) (fun p hp=>(h.it p hp).alloc _) hl hi
 obtain ⟨_,hec,hev⟩:=EVw.of_pq h
 have HEV:Hid (EVw w eo es):=hev
 have HENC:Hid (szR (es.map Prod.fst) es.length<=1000->∀ wz,EVw wz eo es->Calls Try.prog 22 #[.slice eo es.length ec] wz (Jy wz (yt (es.map Prod.fst) es.length))):=fun hsz wz hz=>qy es eo ec hec hl (fun p hp=>(hb p.1 (List.mem_map_of_mem hp)).shp (hi p hp)) es.length (Nat.le_refl _) hsz eo ec wz (fun _=>⟨rfl,rfl⟩) hz
 have hzb:=zat (es.map Prod.fst) es.length
 clear h hev hb hi
 generalize yt (es.map Prod.fst) es.length=X at *
 generalize szR (es.map Prod.fst) es.length=z at *
 go_enter Try.func14,Try.ntmps14
 go_wp2_with fail
 refine (HPZ.out _ ⟨_,_,_,rfl⟩).mono ?_
 rintro e w1 ⟨hb1,rfl⟩
 have HB1:Hid (Below w.heap.size w w1):=HB0.out.trans (hb1.mono HB0.out.size)
 have HX1:Hid (w1.heap[w.heap.size]?=some (.cells #[.slice eo es.length ec,.slice ro rm rc] 39 (0,0))):=by show _=_;rw [hb1.block _ (by simp)];exact HX0.out
 have q0:w1.cell? ⟨w.heap.size,0,none⟩=some (.slice eo es.length ec):=by rw [cell_of_row _ _ _ _ _ _ HX1.out];rfl
 clear hb1
 by_cases hz:1000<z
 ·have HN:Hid (n=8):=by show _=_;rw [<- hn.out,if_pos hz]
  go_wp2_with fail
  go_ret2
  exact ⟨HB1.out,none,0,0,by rw [HN.out];rfl,fun _=>⟨rfl,rfl,rfl⟩,fun h=>by rw [HN.out] at h;cases h⟩
 ·have HN:Hid (n=0):=by show _=_;rw [<- hn.out,if_neg hz]
  have hz':z<=1000:=by omega
  clear hz
  go_wp2_with fail
  refine (HENC.out hz' _ (HEV.out.below HB1.out)).mono ?_
  rintro r w2 ⟨hb2,o,k,rfl,hrow⟩
  have HB2:Hid _:=HB1.out.trans (hb2.mono HB1.out.size)
  have HR2:Hid (w2.ownsRow w.heap.size 5 1 (.slice o X.length k) X.length (X.map (Value.int .u8))):=YK hrow HB1.out.size
  clear hb2 hrow
  go_wp2_with fail
  go_ret2
  exact ⟨HB2.out,o,X.length,k,by rw [HN.out];rfl,fun h=>absurd HN.out h,fun _=>⟨rfl,HR2.out⟩⟩
theorem Z5 (s:ByteArray) (w:World) :
 Calls Try.prog 5 #[.string s] w (Jz w (cpE s) (cpX s)):=by
 obtain ⟨c,hc⟩:∃ c,zU s=c:=⟨_,rfl⟩
 have HC:Hid _:=hc
 have HS:Hid (cpE s=if c.1=0 then (if 1000<szR (zk s).es (zk s).es.length then 8 else 0) else c.1):=by show _=_;unfold cpE;rw [hc]
 have HBDS:Hid (c.1=0->(zk s).es.length<=100000/\∀ e∈(zk s).es,e.items.length<=100000):=by
  intro h0
  have hs:¬ 2000<s.size:=fun h=>by rw [<- hc] at h0;unfold zU at h0;rw [if_pos h] at h0;cases h0
  have h1:=xm s (s.size+1) [] 0 0 false
  refine ⟨?_,fun e he=>by have:=h1 e he;omega⟩
  have h2:=yZ s (s.size+1) [] 0 0 false (Nat.zero_le _)
  show (zo s (s.size+1) [] 0 0 false).es.length<=100000
  omega
 clear hc
 obtain ⟨c1,c2⟩:=c
 simp only at HS HBDS
 go_enter Try.func5,Try.ntmps5
 go_wp2_with fail
 refine (Jt s _ (c1,c2) HC).mono ?_
 rintro e w1 ⟨hb,eo,em,ec,ro,rm,rc,rfl,hq⟩
 have HB:Hid _:=hb
 have HQ:Hid _:=hq
 clear hb hq
 cases e1:(c1==0) with
 | false =>
  have e2:(c1 != 0)=true:=by simp [bne,e1]
  have HE:Hid (cpE s=c1):=by show _=_;rw [HS.out,if_neg (by simpa using e1)]
  have HB1:Hid (Below w.heap.size w (w1.alloc (.cells #[.slice eo em ec,.slice ro rm rc] 39))):=HB.out.alloc HB.out.size _
  have HNZ:Hid (c1≠0):=by show ¬ _;simpa using e1
  go_wp2_with fail
  go_ret2
  exact ⟨HB1.out,none,0,0,by rw [HE.out];rfl,fun _=>⟨rfl,rfl,rfl⟩,fun h=>by rw [HE.out] at h;exact absurd h HNZ.out⟩
 | true =>
  have h0:c1=0:=by simpa using e1
  subst h0
  obtain ⟨es,hes,hpq⟩:=HQ.out rfl
  have hbd:=HBDS.out rfl
  have HE:Hid ((if 1000<szR (es.map Prod.fst) es.length then (8:Int) else 0)=cpE s):=by
   show _=_
   rw [HS.out,if_pos rfl,<- hes,List.length_map]
  have HXX:Hid (yt (es.map Prod.fst) es.length=cpX s):=by show _=_;unfold cpX;rw [<- hes,List.length_map]
  obtain ⟨rfl,_,_⟩:=EVw.of_pq hpq
  have hab:yE (es.map Prod.fst):=by rw [hes];exact Qb s
  rw [<- hes] at hbd
  have HB1:Hid (Below w.heap.size w (w1.alloc (.cells #[.slice eo es.length ec,.slice ro rm rc] 39))):=HB.out.alloc HB.out.size _
  have HCP:=Xl eo ec ro rm rc w.heap.size es (zk s).rs (w1.alloc (.cells #[.slice eo es.length ec,.slice ro rm rc] 39)) (by simpa using hbd.1) (fun p hp=>hbd.2 p.1 (List.mem_map_of_mem hp)) hab ⟨hpq.ex.alloc _,hpq.rl.alloc _,fun p hp=>(hpq.it p hp).alloc _⟩ (cpE s) HE
  rw [HXX.out] at HCP
  clear hpq hes hbd hab
  go_wp2_with fail
  refine HCP.mono ?_
  rintro e w2 ⟨hb2,o,m,k,rfl,hn,hz⟩
  have HB2:Hid _:=HB1.out.trans (hb2.mono HB1.out.size)
  have HN2:Hid _:=hn
  have HZ2:Hid (cpE s=0->m=(cpX s).length/\w2.ownsRow w.heap.size 5 1 (.slice o m k) (cpX s).length ((cpX s).map (Value.int .u8))):=fun h=>⟨(hz h).1,YK (hz h).2 HB1.out.size⟩
  clear hb2 hn hz
  go_wp2_with fail
  go_ret2
  exact ⟨HB2.out,o,m,k,rfl,HN2.out,HZ2.out⟩
theorem zaM {s:ByteArray}:cpE s=if (cSz s).2=0/\1000<(cSz s).1 then 8 else (cSz s).2:=by
 unfold cpE cSz
 by_cases h:(zU s).1=0
 ·simp [h]
 ·simp [h]
theorem qC {s:ByteArray} (h:cpE s=0):(zU s).1=0/\szR (zk s).es (zk s).es.length<=1000/\1<=(cpX s).length/\(cpX s).length<=7000:=by
 have h1:(zU s).1=0:=by
  unfold cpE at h
  split at h
  ·assumption
  ·exact h
 have h2:szR (zk s).es (zk s).es.length<=1000:=by
  unfold cpE at h
  rw [if_pos h1] at h
  split at h
  ·cases h
  ·omega
 obtain ⟨hp,hg⟩:=Xo h1
 have h3:=hg.enc_pos
 rw [Nat.sub_add_cancel hp] at h3
 have h4:=j6 (zk s).es (zk s).es.length h2
 refine ⟨h1,h2,h3,?_⟩
 unfold cpX
 omega
def XR (s:ByteArray):Bool:=cpE s==0
theorem zaJ (s:ByteArray):XR s=((cSz s).2==0 && decide ((cSz s).1<=1000)):=by
 unfold XR
 rw [zaM]
 by_cases h:(cSz s).2=0
 ·by_cases h2:1000<(cSz s).1
  ·rw [if_pos ⟨h,h2⟩,h];simp;omega
  ·rw [if_neg (by omega),h];simp;omega
 ·rw [if_neg (by omega)];simp [h]
theorem jR (s:ByteArray) (w:World):Calls Try.prog 4 #[.string s] w fun e w'=>e=.returned (.bool (XR s))/\Below w.heap.size w w':=by
 have hd:=fun wz=>ja s wz
 have HF:Hid (XR s=((cSz s).2==0 && decide ((cSz s).1<=1000))):=zaJ s
 obtain ⟨z,hz⟩:∃ z,cSz s=z:=⟨_,rfl⟩
 rw [hz] at hd HF
 clear hz
 obtain ⟨z1,z2⟩:=z
 simp only at HF hd
 go_enter Try.func4,Try.ntmps4
 go_wp2_with fail
 refine (hd _).mono ?_
 rintro e w2 ⟨hb2,rfl⟩
 have HB2:Hid _:=hb2
 clear hb2 hd
 cases h2:(z2==0) with
 | true =>
  have HF2:Hid (XR s=decide (z1<=1000)):=by show _=_;rw [HF.out,h2];rfl
  go_wp2_with fail
  go_ret
  exact ⟨by rw [HF2.out];rfl,HB2.out⟩
 | false =>
  have HF2:Hid (XR s=false):=by show _=_;rw [HF.out,h2];rfl
  go_wp2_with fail
  go_ret
  exact ⟨by rw [HF2.out];rfl,HB2.out⟩
end Go.Proofs.Ytaebngpoagjafab
