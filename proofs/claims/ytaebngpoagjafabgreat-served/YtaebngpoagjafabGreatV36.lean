import Derived.Test.YtaebngpoagjafabGreatV31
import Derived.Test.YtaebngpoagjafabGreatV34
import Derived.Test.YtaebngpoagjafabGreatV35
set_option maxRecDepth 100000
set_option maxHeartbeats 800000
namespace Go.Proofs.YtaebngpoagjafabGreat
open Go.RowKit
attribute [local go_sem ↓] Go.wp_at_zero Go.wp_at_succ
def cpE (s:ByteArray):Int:=if (Zj s).1=0 then (if 1000<szR (zA s).es (zA s).es.length then 8 else 0) else (Zj s).1
def cpX (s:ByteArray):List Int:=z8 (zA s).es (zA s).es.length
def zdL (w:World) (n:Int) (X:List Int) (r:Ending) (w':World):Prop:=Below w.heap.size w w'/\∃ o m k,r=.returned (.tuple #[.slice o m k,.int .i64 n])/\(n≠0->o=none/\m=0/\k=0)/\(n=0->m=X.length/\w'.ownsRow w.heap.size 5 1 (.slice o m k) X.length (X.map (Value.int .u8)))
theorem EB.shp {e:EX} (h:EB e) (hl:e.items.length<=100000):SHP e:=by
 refine ⟨?_,?_,h.nv.1,by have:=h.nv;omega,hl,fun x hx=>?_⟩
 ·have:=h.kind;omega
 ·have:=h.kind;omega
 ·have i:=h.it x hx
  have h1:=i.num
  have h2:=i.pv
  have h3:=i.pl
  have h4:=i.wv
  omega
theorem EVw.of_pq {w:World} {base:Nat} {eo:Option Addr} {em ec:Nat} {rv:Value} {es:List (EX×Value)} {rs:List RL} (h:PQ w base (.slice eo em ec) rv es rs):em=es.length/\es.length<=ec/\EVw w eo es:=by
 obtain ⟨eo',ec',he,hv⟩:=Jf h.ex h.it
 cases he
 obtain ⟨o,c,hv2,hc⟩:=zY h.ex
 cases hv2
 exact ⟨rfl,hc,hv⟩
theorem xA (eo:Option Addr) (ec:Nat) (ro:Option Addr) (rm rc:Nat) (base:Nat) (es:List (EX×Value)) (rs:List RL) (w:World) (hl:es.length<=100000) (hi:∀ p∈es,p.1.items.length<=100000) (hb:yV (es.map Prod.fst)) (h:PQ w base (.slice eo es.length ec) (.slice ro rm rc) es rs) (n:Int) (hn:Hid ((if 1000<szR (es.map Prod.fst) es.length then (8:Int) else 0)=n)) :
 Calls Tryz.prog 25 #[.agg #[.slice eo es.length ec,.slice ro rm rc]] w (zdL w n (z8 (es.map Prod.fst) es.length)):=by
 have HB0:Hid (Below w.heap.size w (w.alloc (.cells #[.slice eo es.length ec,.slice ro rm rc] 74))):=(Below.refl _ _).alloc (Nat.le_refl _) _
 have HX0:Hid ((w.alloc (.cells #[.slice eo es.length ec,.slice ro rm rc] 74)).heap[w.heap.size]?=some (.cells #[.slice eo es.length ec,.slice ro rm rc] 74 (0,0))):=heap_alloc_new w _
 have HPZ:Hid (∀ rv,(∃ ro rm rc,rv=Value.slice ro rm rc)->Calls Tryz.prog 50 #[.agg #[.slice eo es.length ec,rv]] (w.alloc (.cells #[.slice eo es.length ec,.slice ro rm rc] 74)) fun e w'=>Below (w.alloc (.cells #[.slice eo es.length ec,.slice ro rm rc] 74)).heap.size (w.alloc (.cells #[.slice eo es.length ec,.slice ro rm rc] 74)) w'/\e=.returned (.int .i64 (szR (es.map Prod.fst) es.length))):=fun rv hrv=>zaw eo ec rv base es _ hrv (h.ex.alloc _) (fun p hp=>(h.it p hp).alloc _) hl hi
 obtain ⟨_,hec,hev⟩:=EVw.of_pq h
 have HEV:Hid (EVw w eo es):=hev
 have HENC:Hid (szR (es.map Prod.fst) es.length<=1000->∀ wz,EVw wz eo es->Calls Tryz.prog 51 #[.slice eo es.length ec] wz (zb4 wz (z8 (es.map Prod.fst) es.length))):=fun hsz wz hz=>jG es eo ec hec hl (fun p hp=>(hb p.1 (List.mem_map_of_mem hp)).shp (hi p hp)) es.length (Nat.le_refl _) hsz eo ec wz (fun _=>⟨rfl,rfl⟩) hz
 have hzb:=zdg (es.map Prod.fst) es.length
 clear h hev hb hi
 generalize z8 (es.map Prod.fst) es.length=X at *
 generalize szR (es.map Prod.fst) es.length=z at *
 go_enter Tryz.func25,Tryz.ntmps25
 go_wp2_with fail
 refine (HPZ.out _ ⟨_,_,_,rfl⟩).mono ?_
 rintro e w1 ⟨hb1,rfl⟩
 have HB1:Hid (Below w.heap.size w w1):=HB0.out.trans (hb1.mono HB0.out.size)
 have HX1:Hid (w1.heap[w.heap.size]?=some (.cells #[.slice eo es.length ec,.slice ro rm rc] 74 (0,0))):=by show _=_;rw [hb1.block _ (by simp)];exact HX0.out
 have q0:w1.cell? ⟨w.heap.size,0,none⟩=some (.slice eo es.length ec):=by rw [cell_of_row _ _ _ _ _ _ HX1.out];rfl
 clear hb1
 by_cases hz:1000<z
 ·have HN:Hid (n=8):=by show _=_;rw [<- hn.out,if_pos hz]
  go_wp2_with fail
  go_ret2
  exact ⟨HB1.out,none,0,0,by rw [HN.out];rfl,fun _=>⟨rfl,rfl,rfl⟩,fun h=>by rw [HN.out] at h;cases h⟩
 ·have HN:Hid (n=0):=by show _=_;rw [<- hn.out,if_neg hz]
  have hz':z<=1000:=by omega
  clear hz
  go_wp2_with fail
  refine (HENC.out hz' _ (HEV.out.below HB1.out)).mono ?_
  rintro r w2 ⟨hb2,o,k,rfl,hrow⟩
  have HB2:Hid _:=HB1.out.trans (hb2.mono HB1.out.size)
  have HR2:Hid (w2.ownsRow w.heap.size 5 1 (.slice o X.length k) X.length (X.map (Value.int .u8))):=yk hrow HB1.out.size
  clear hb2 hrow
  go_wp2_with fail
  go_ret2
  exact ⟨HB2.out,o,X.length,k,by rw [HN.out];rfl,fun h=>absurd HN.out h,fun _=>⟨rfl,HR2.out⟩⟩
theorem ja (s:ByteArray) (w:World) :
 Calls Tryz.prog 45 #[.string s] w (zdL w (cpE s) (cpX s)):=by
 obtain ⟨c,hc⟩:∃ c,Zj s=c:=⟨_,rfl⟩
 have HC:Hid _:=hc
 have HS:Hid (cpE s=if c.1=0 then (if 1000<szR (zA s).es (zA s).es.length then 8 else 0) else c.1):=by show _=_;unfold cpE;rw [hc]
 have HBDS:Hid (c.1=0->(zA s).es.length<=100000/\∀ e∈(zA s).es,e.items.length<=100000):=by
  intro h0
  have hs:¬ 2000<s.size:=fun h=>by rw [<- hc] at h0;unfold Zj at h0;rw [if_pos h] at h0;cases h0
  have h1:=Y6 s (s.size+1) [] 0 0 false
  refine ⟨?_,fun e he=>by have:=h1 e he;omega⟩
  have h2:=Zb s (s.size+1) [] 0 0 false (Nat.zero_le _)
  show (zw s (s.size+1) [] 0 0 false).es.length<=100000
  omega
 clear hc
 obtain ⟨c1,c2⟩:=c
 simp only at HS HBDS
 go_enter Tryz.func45,Tryz.ntmps45
 go_wp2_with fail
 refine (Q3 s _ (c1,c2) HC).mono ?_
 rintro e w1 ⟨hb,eo,em,ec,ro,rm,rc,rfl,hq⟩
 have HB:Hid _:=hb
 have HQ:Hid _:=hq
 clear hb hq
 cases e1:(c1==0) with
 | false =>
  have e2:(c1 != 0)=true:=by simp [bne,e1]
  have HE:Hid (cpE s=c1):=by show _=_;rw [HS.out,if_neg (by simpa using e1)]
  have HB1:Hid (Below w.heap.size w (w1.alloc (.cells #[.slice eo em ec,.slice ro rm rc] 74))):=HB.out.alloc HB.out.size _
  have HNZ:Hid (c1≠0):=by show ¬ _;simpa using e1
  go_wp2_with fail
  go_ret2
  exact ⟨HB1.out,none,0,0,by rw [HE.out];rfl,fun _=>⟨rfl,rfl,rfl⟩,fun h=>by rw [HE.out] at h;exact absurd h HNZ.out⟩
 | true =>
  have h0:c1=0:=by simpa using e1
  subst h0
  obtain ⟨es,hes,hpq⟩:=HQ.out rfl
  have hbd:=HBDS.out rfl
  have HE:Hid ((if 1000<szR (es.map Prod.fst) es.length then (8:Int) else 0)=cpE s):=by
   show _=_
   rw [HS.out,if_pos rfl,<- hes,List.length_map]
  have HXX:Hid (z8 (es.map Prod.fst) es.length=cpX s):=by show _=_;unfold cpX;rw [<- hes,List.length_map]
  obtain ⟨rfl,_,_⟩:=EVw.of_pq hpq
  have hab:yV (es.map Prod.fst):=by rw [hes];exact Qe s
  rw [<- hes] at hbd
  have HB1:Hid (Below w.heap.size w (w1.alloc (.cells #[.slice eo es.length ec,.slice ro rm rc] 74))):=HB.out.alloc HB.out.size _
  have HCP:=xA eo ec ro rm rc w.heap.size es (zA s).rs (w1.alloc (.cells #[.slice eo es.length ec,.slice ro rm rc] 74)) (by simpa using hbd.1) (fun p hp=>hbd.2 p.1 (List.mem_map_of_mem hp)) hab ⟨hpq.ex.alloc _,hpq.rl.alloc _,fun p hp=>(hpq.it p hp).alloc _⟩ (cpE s) HE
  rw [HXX.out] at HCP
  clear hpq hes hbd hab
  go_wp2_with fail
  refine HCP.mono ?_
  rintro e w2 ⟨hb2,o,m,k,rfl,hn,hz⟩
  have HB2:Hid _:=HB1.out.trans (hb2.mono HB1.out.size)
  have HN2:Hid _:=hn
  have HZ2:Hid (cpE s=0->m=(cpX s).length/\w2.ownsRow w.heap.size 5 1 (.slice o m k) (cpX s).length ((cpX s).map (Value.int .u8))):=fun h=>⟨(hz h).1,yk (hz h).2 HB1.out.size⟩
  clear hb2 hn hz
  go_wp2_with fail
  go_ret2
  exact ⟨HB2.out,o,m,k,rfl,HN2.out,HZ2.out⟩
theorem zdB {s:ByteArray}:cpE s=if (cSz s).2=0/\1000<(cSz s).1 then 8 else (cSz s).2:=by
 unfold cpE cSz
 by_cases h:(Zj s).1=0
 ·simp [h]
 ·simp [h]
theorem XX {s:ByteArray} (h:cpE s=0):(Zj s).1=0/\szR (zA s).es (zA s).es.length<=1000/\1<=(cpX s).length/\(cpX s).length<=7000:=by
 have h1:(Zj s).1=0:=by
  unfold cpE at h
  split at h
  ·assumption
  ·exact h
 have h2:szR (zA s).es (zA s).es.length<=1000:=by
  unfold cpE at h
  rw [if_pos h1] at h
  split at h
  ·cases h
  ·omega
 obtain ⟨hp,hg⟩:=Qb h1
 have h3:=hg.enc_pos
 rw [Nat.sub_add_cancel hp] at h3
 have h4:=jH (zA s).es (zA s).es.length h2
 refine ⟨h1,h2,h3,?_⟩
 unfold cpX
 omega
theorem zdW {W:RW} {E:List EX} (h0:0<=W.dep) (h1:W.dep<=32) {j:Nat} (h:GD E j):1<=(mnN W E (j+1)).ttl/\(mnN W E (j+1)).ttl<=86400/\0<=(mnN W E (j+1)).sc/\(mnN W E (j+1)).sc<=32:=by
 induction h with
 | @servers j e he hk _ _ _ _=>simp only [mnN,he,mnE];rw [if_pos hk];simp
 | @alias j e he hk _ _ _ _=>simp only [mnN,he,mnE];rw [if_neg (by omega),if_pos hk];simp
 | @name j i e he hk _ hin hij _ ih =>
  have hm:mnN W E (j+1)=mnN W E (i+1):=by simp only [mnN,he,mnE];rw [if_neg (by omega),if_neg (by omega),if_pos hk,hin,Zl W E hij];rfl
  rw [hm];exact ih
 | @ttl j i e he hk a1 a2 _ hin hij _ ih =>
  have hm:mnN W E (j+1)=⟨(mnN W E (i+1)).sv,if e.nv<(mnN W E (i+1)).ttl then e.nv else (mnN W E (i+1)).ttl,(mnN W E (i+1)).sc⟩:=by
   rw [<- Zl W E hij,<- hin]
   simp only [mnN,he,mnE];rw [if_neg (by omega),if_neg (by omega),if_neg (by omega),if_pos hk]
  rw [hm]
  simp only
  split<;>omega
 | @list j i e he hk _ _ _ hin hij _ ih =>
  rcases hk with hk | hk
  ·have hm:mnN W E (j+1)=(match XJ W e.items with | some x=>⟨[x],86400,0⟩ | none=>mnN W E (i+1)):=by
    rw [<- Zl W E hij,<- hin]
    simp only [mnN,he,mnE];rw [if_neg (by omega),if_neg (by omega),if_neg (by omega),if_neg (by omega),if_pos hk];rfl
   rw [hm]
   cases XJ W e.items with
   | some x=>simp
   | none=>exact ih
  ·have hm:mnN W E (j+1)=(match Yx W e.items with | some x=>⟨[x],86400,0⟩ | none=>mnN W E (i+1)):=by
    rw [<- Zl W E hij,<- hin]
    simp only [mnN,he,mnE];rw [if_neg (by omega),if_neg (by omega),if_neg (by omega),if_neg (by omega),if_neg (by omega),if_pos hk];rfl
   rw [hm]
   cases Yx W e.items with
   | some x=>simp
   | none=>exact ih
 | @maps j i e an he hk g0 _ hit _ _ harm _ hin hij _ iha ih =>
  have hL:e.kind=109->∀ k,k<e.items.length->itL e k<=32:=fun hk k hkl=>by
   have hx:e.items[k]?=some e.items[k]:=List.getElem?_eq_getElem hkl
   unfold itL
   rw [hx]
   exact (M.isP_iff.1 ((hit _ (List.mem_of_getElem? hx)).1 hk)).2.1
  have key:∀ (q:Int) (d:Int),(q=e.inner\/∃ (k:Nat) (x:IM),e.items[k]?=some x/\q=x.arm)->0<=d->d<=32->1<=(atM (mnK W E j) q).ttl/\(atM (mnK W E j) q).ttl<=86400/\0<=nar d (atM (mnK W E j) q).sc/\nar d (atM (mnK W E j) q).sc<=32:=by
   intro q d hq hd0 hd1
   have h5:1<=(atM (mnK W E j) q).ttl/\(atM (mnK W E j) q).ttl<=86400/\0<=(atM (mnK W E j) q).sc/\(atM (mnK W E j) q).sc<=32:=by
    rcases hq with rfl | ⟨k,x,hx,rfl⟩
    ·rw [hin,Zl W E hij];exact ih
    ·rw [(harm k x hx).1,Zl W E (harm k x hx).2]
     exact iha k (List.getElem?_eq_some_iff.1 hx).1
   refine ⟨h5.1,h5.2.1,?_,?_⟩<;>(unfold nar;split<;>omega)
  rcases hk with hk | hk
  ·have hm:mnN W E (j+1)=⟨(atM (mnK W E j) (ZR W e)).sv,(atM (mnK W E j) (ZR W e)).ttl,nar (M.depTo (itV e) (itL e) W.addr e.items.length) (atM (mnK W E j) (ZR W e)).sc⟩:=by
    simp only [mnN,he,mnE];rw [if_neg (by omega),if_neg (by omega),if_neg (by omega),if_neg (by omega),if_neg (by omega),if_neg (by omega),if_pos hk]
   rw [hm]
   refine key _ _ ?_ M.depTo_pos (M.depTo_le (hL hk))
   unfold ZR
   split
   ·exact .inl rfl
   ·cases hx:e.items[(M.bestTo (itV e) (itL e) W.addr e.items.length).toNat]? with
    | none=>exact .inl rfl
    | some x=>exact .inr ⟨_,x,hx,rfl⟩
  ·have hm:mnN W E (j+1)=⟨(atM (mnK W E j) (xu W e)).sv,(atM (mnK W E j) (xu W e)).ttl,nar W.dep (atM (mnK W E j) (xu W e)).sc⟩:=by
    simp only [mnN,he,mnE];rw [if_neg (by omega),if_neg (by omega),if_neg (by omega),if_neg (by omega),if_neg (by omega),if_neg (by omega),if_neg (by omega)]
   rw [hm]
   refine key _ _ ?_ h0 h1
   unfold xu
   cases hx:e.items.find? (fun x=>x.num==W.reg) with
   | none=>exact .inl rfl
   | some x =>
    obtain ⟨k,hk2⟩:=List.getElem?_of_mem (List.mem_of_find?_eq_some hx)
    exact .inr ⟨k,x,hk2,rfl⟩
theorem zdj {W:RW} {s:ByteArray} (hc:(Zj s).1=0) (hz:szR (zA s).es (zA s).es.length<=1000):∃ k,k<=(cpX s).length/\xe W (cpX s) ⟨⟨0,false⟩,[],86400,0⟩ k ((mnN W (zA s).es (zA s).es.length).sv,ZK (mnN W (zA s).es (zA s).es.length).ttl 86400,nar (mnN W (zA s).es (zA s).es.length).sc 0):=by
 obtain ⟨hp,hg⟩:=Qb hc
 have he:(zA s).es.length-1+1=(zA s).es.length:=Nat.sub_add_cancel hp
 have:=zcm (W:=W) hg (by rw [he];exact hz) (cpX s) 0 86400 0 (by rw [he];intro i x hx;rw [Nat.zero_add];exact hx) (by omega) (by omega)
 rw [he] at this
 exact this
end Go.Proofs.YtaebngpoagjafabGreat
