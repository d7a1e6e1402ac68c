import Derived.Test.YtaebngpoagjafaaJ18
import Derived.Test.YtaebngpoagjafaaJ21
import Derived.Test.YtaebngpoagjafaaJ22
set_option maxRecDepth 100000
set_option maxHeartbeats 800000
namespace Go.Proofs.Ytaebngpoagjafaa
open Go.RowKit
attribute [local go_sem ↓] Go.wp_at_zero Go.wp_at_succ
def cpE (s:ByteArray):Int:=if (Zy s).1=0 then (if 1000<szR (zx s).es (zx s).es.length then 8 else 0) else (Zy s).1
def cpX (s:ByteArray):List Int:=zN (zx s).es (zx s).es.length
def zaq (w:World) (n:Int) (X:List Int) (r:Ending) (w':World):Prop:=Below w.heap.size w w'/\∃ o m k,r=.returned (.tuple #[.slice o m k,.int .i64 n])/\(n≠0->o=none/\m=0/\k=0)/\(n=0->m=X.length/\w'.ownsRow w.heap.size 5 1 (.slice o m k) X.length (X.map (Value.int .u8)))
theorem EB.shp {e:EX} (h:EB e) (hl:e.items.length<=100000):SHP e:=by
 refine ⟨?_,?_,h.nv.1,by have:=h.nv;omega,hl,fun x hx=>?_⟩
 ·have:=h.kind;omega
 ·have:=h.kind;omega
 ·have i:=h.it x hx
  have h1:=i.num
  have h2:=i.pv
  have h3:=i.pl
  have h4:=i.wv
  omega
theorem EVw.of_pq {w:World} {base:Nat} {eo:Option Addr} {em ec:Nat} {rv:Value} {es:List (EX×Value)} {rs:List RL} (h:PQ w base (.slice eo em ec) rv es rs):em=es.length/\es.length<=ec/\EVw w eo es:=by
 obtain ⟨eo',ec',he,hv⟩:=qA h.ex h.it
 cases he
 obtain ⟨o,c,hv2,hc⟩:=yH h.ex
 cases hv2
 exact ⟨rfl,hc,hv⟩
theorem x8 (eo:Option Addr) (ec:Nat) (ro:Option Addr) (rm rc:Nat) (base:Nat) (es:List (EX×Value)) (rs:List RL) (w:World) (hl:es.length<=100000) (hi:∀ p∈es,p.1.items.length<=100000) (hb:yB (es.map Prod.fst)) (h:PQ w base (.slice eo es.length ec) (.slice ro rm rc) es rs) (n:Int) (hn:Hid ((if 1000<szR (es.map Prod.fst) es.length then (8:Int) else 0)=n)) :
 Calls Try.prog 30 #[.agg #[.slice eo es.length ec,.slice ro rm rc]] w (zaq w n (zN (es.map Prod.fst) es.length)):=by
 have HB0:Hid (Below w.heap.size w (w.alloc (.cells #[.slice eo es.length ec,.slice ro rm rc] 68))):=(Below.refl _ _).alloc (Nat.le_refl _) _
 have HX0:Hid ((w.alloc (.cells #[.slice eo es.length ec,.slice ro rm rc] 68)).heap[w.heap.size]?=some (.cells #[.slice eo es.length ec,.slice ro rm rc] 68 (0,0))):=heap_alloc_new w _
 have HPZ:Hid (∀ rv,(∃ ro rm rc,rv=Value.slice ro rm rc)->Calls Try.prog 36 #[.agg #[.slice eo es.length ec,rv]] (w.alloc (.cells #[.slice eo es.length ec,.slice ro rm rc] 68)) fun e w'=>Below (w.alloc (.cells #[.slice eo es.length ec,.slice ro rm rc] 68)).heap.size (w.alloc (.cells #[.slice eo es.length ec,.slice ro rm rc] 68)) w'/\e=.returned (.int .i64 (szR (es.map Prod.fst) es.length))):=fun rv hrv=>Qw eo ec rv base es _ hrv (h.ex.alloc _) (fun p hp=>(h.it p hp).alloc _) hl hi
 obtain ⟨_,hec,hev⟩:=EVw.of_pq h
 have HEV:Hid (EVw w eo es):=hev
 have HENC:Hid (szR (es.map Prod.fst) es.length<=1000->∀ wz,EVw wz eo es->Calls Try.prog 37 #[.slice eo es.length ec] wz (jL wz (zN (es.map Prod.fst) es.length))):=fun hsz wz hz=>qi es eo ec hec hl (fun p hp=>(hb p.1 (List.mem_map_of_mem hp)).shp (hi p hp)) es.length (Nat.le_refl _) hsz eo ec wz (fun _=>⟨rfl,rfl⟩) hz
 have hzb:=JV (es.map Prod.fst) es.length
 clear h hev hb hi
 generalize zN (es.map Prod.fst) es.length=X at *
 generalize szR (es.map Prod.fst) es.length=z at *
 go_enter Try.func30,Try.ntmps30
 go_wp2_with fail
 refine (HPZ.out _ ⟨_,_,_,rfl⟩).mono ?_
 rintro e w1 ⟨hb1,rfl⟩
 have HB1:Hid (Below w.heap.size w w1):=HB0.out.trans (hb1.mono HB0.out.size)
 have HX1:Hid (w1.heap[w.heap.size]?=some (.cells #[.slice eo es.length ec,.slice ro rm rc] 68 (0,0))):=by show _=_;rw [hb1.block _ (by simp)];exact HX0.out
 have q0:w1.cell? ⟨w.heap.size,0,none⟩=some (.slice eo es.length ec):=by rw [cell_of_row _ _ _ _ _ _ HX1.out];rfl
 clear hb1
 by_cases hz:1000<z
 ·have HN:Hid (n=8):=by show _=_;rw [<- hn.out,if_pos hz]
  go_wp2_with fail
  go_ret2
  exact ⟨HB1.out,none,0,0,by rw [HN.out];rfl,fun _=>⟨rfl,rfl,rfl⟩,fun h=>by rw [HN.out] at h;cases h⟩
 ·have HN:Hid (n=0):=by show _=_;rw [<- hn.out,if_neg hz]
  have hz':z<=1000:=by omega
  clear hz
  go_wp2_with fail
  refine (HENC.out hz' _ (HEV.out.below HB1.out)).mono ?_
  rintro r w2 ⟨hb2,o,k,rfl,hrow⟩
  have HB2:Hid _:=HB1.out.trans (hb2.mono HB1.out.size)
  have HR2:Hid (w2.ownsRow w.heap.size 5 1 (.slice o X.length k) X.length (X.map (Value.int .u8))):=yT hrow HB1.out.size
  clear hb2 hrow
  go_wp2_with fail
  go_ret2
  exact ⟨HB2.out,o,X.length,k,by rw [HN.out];rfl,fun h=>absurd HN.out h,fun _=>⟨rfl,HR2.out⟩⟩
theorem XX (s:ByteArray) (w:World) :
 Calls Try.prog 23 #[.string s] w (zaq w (cpE s) (cpX s)):=by
 obtain ⟨c,hc⟩:∃ c,Zy s=c:=⟨_,rfl⟩
 have HC:Hid _:=hc
 have HS:Hid (cpE s=if c.1=0 then (if 1000<szR (zx s).es (zx s).es.length then 8 else 0) else c.1):=by show _=_;unfold cpE;rw [hc]
 have HBDS:Hid (c.1=0->(zx s).es.length<=100000/\∀ e∈(zx s).es,e.items.length<=100000):=by
  intro h0
  have hs:¬ 2000<s.size:=fun h=>by rw [<- hc] at h0;unfold Zy at h0;rw [if_pos h] at h0;cases h0
  have h1:=Y3 s (s.size+1) [] 0 0 false
  refine ⟨?_,fun e he=>by have:=h1 e he;omega⟩
  have h2:=ZF s (s.size+1) [] 0 0 false (Nat.zero_le _)
  show (zA s (s.size+1) [] 0 0 false).es.length<=100000
  omega
 clear hc
 obtain ⟨c1,c2⟩:=c
 simp only at HS HBDS
 go_enter Try.func23,Try.ntmps23
 go_wp2_with fail
 refine (jF s _ (c1,c2) HC).mono ?_
 rintro e w1 ⟨hb,eo,em,ec,ro,rm,rc,rfl,hq⟩
 have HB:Hid _:=hb
 have HQ:Hid _:=hq
 clear hb hq
 cases e1:(c1==0) with
 | false =>
  have e2:(c1 != 0)=true:=by simp [bne,e1]
  have HE:Hid (cpE s=c1):=by show _=_;rw [HS.out,if_neg (by simpa using e1)]
  have HB1:Hid (Below w.heap.size w (w1.alloc (.cells #[.slice eo em ec,.slice ro rm rc] 68))):=HB.out.alloc HB.out.size _
  have HNZ:Hid (c1≠0):=by show ¬ _;simpa using e1
  go_wp2_with fail
  go_ret2
  exact ⟨HB1.out,none,0,0,by rw [HE.out];rfl,fun _=>⟨rfl,rfl,rfl⟩,fun h=>by rw [HE.out] at h;exact absurd h HNZ.out⟩
 | true =>
  have h0:c1=0:=by simpa using e1
  subst h0
  obtain ⟨es,hes,hpq⟩:=HQ.out rfl
  have hbd:=HBDS.out rfl
  have HE:Hid ((if 1000<szR (es.map Prod.fst) es.length then (8:Int) else 0)=cpE s):=by
   show _=_
   rw [HS.out,if_pos rfl,<- hes,List.length_map]
  have HXX:Hid (zN (es.map Prod.fst) es.length=cpX s):=by show _=_;unfold cpX;rw [<- hes,List.length_map]
  obtain ⟨rfl,_,_⟩:=EVw.of_pq hpq
  have hab:yB (es.map Prod.fst):=by rw [hes];exact qE s
  rw [<- hes] at hbd
  have HB1:Hid (Below w.heap.size w (w1.alloc (.cells #[.slice eo es.length ec,.slice ro rm rc] 68))):=HB.out.alloc HB.out.size _
  have HCP:=x8 eo ec ro rm rc w.heap.size es (zx s).rs (w1.alloc (.cells #[.slice eo es.length ec,.slice ro rm rc] 68)) (by simpa using hbd.1) (fun p hp=>hbd.2 p.1 (List.mem_map_of_mem hp)) hab ⟨hpq.ex.alloc _,hpq.rl.alloc _,fun p hp=>(hpq.it p hp).alloc _⟩ (cpE s) HE
  rw [HXX.out] at HCP
  clear hpq hes hbd hab
  go_wp2_with fail
  refine HCP.mono ?_
  rintro e w2 ⟨hb2,o,m,k,rfl,hn,hz⟩
  have HB2:Hid _:=HB1.out.trans (hb2.mono HB1.out.size)
  have HN2:Hid _:=hn
  have HZ2:Hid (cpE s=0->m=(cpX s).length/\w2.ownsRow w.heap.size 5 1 (.slice o m k) (cpX s).length ((cpX s).map (Value.int .u8))):=fun h=>⟨(hz h).1,yT (hz h).2 HB1.out.size⟩
  clear hb2 hn hz
  go_wp2_with fail
  go_ret2
  exact ⟨HB2.out,o,m,k,rfl,HN2.out,HZ2.out⟩
theorem ji {s:ByteArray} (h:cpE s=0):(Zy s).1=0/\szR (zx s).es (zx s).es.length<=1000/\1<=(cpX s).length/\(cpX s).length<=7000:=by
 have h1:(Zy s).1=0:=by
  unfold cpE at h
  split at h
  ·assumption
  ·exact h
 have h2:szR (zx s).es (zx s).es.length<=1000:=by
  unfold cpE at h
  rw [if_pos h1] at h
  split at h
  ·cases h
  ·omega
 obtain ⟨hp,hg⟩:=qz h1
 have h3:=hg.enc_pos
 rw [Nat.sub_add_cancel hp] at h3
 have h4:=qj (zx s).es (zx s).es.length h2
 refine ⟨h1,h2,h3,?_⟩
 unfold cpX
 omega
theorem J0 {W:RW} {s:ByteArray} (hc:(Zy s).1=0) (hz:szR (zx s).es (zx s).es.length<=1000):∃ k,k<=(cpX s).length/\Z5 W (cpX s) ⟨⟨0,false⟩,[],86400,0⟩ k ((mnN W (zx s).es (zx s).es.length).sv,y9 (mnN W (zx s).es (zx s).es.length).ttl 86400,nar (mnN W (zx s).es (zx s).es.length).sc 0):=by
 obtain ⟨hp,hg⟩:=qz hc
 have he:(zx s).es.length-1+1=(zx s).es.length:=Nat.sub_add_cancel hp
 have:=jY (W:=W) hg (by rw [he];exact hz) (cpX s) 0 86400 0 (by rw [he];intro i x hx;rw [Nat.zero_add];exact hx) (by omega) (by omega)
 rw [he] at this
 exact this
end Go.Proofs.Ytaebngpoagjafaa
