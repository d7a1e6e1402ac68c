import Derived.Test.YtaebngpoagjafaaGreatR42
import Derived.Test.YtaebngpoagjafaaGreatR28
import Derived.Test.YtaebngpoagjafaaGreatR18
import Derived.Test.YtaebngpoagjafaaGreatR34
import Derived.Test.YtaebngpoagjafaaGreatR35
import Derived.BigRegion
import Derived.Test.YtaebngpoagjafaaGreatR21
import Derived.Test.YtaebngpoagjafaaGreatR16
set_option maxRecDepth 100000
set_option maxHeartbeats 3200000
namespace Go.Proofs.YtaebngpoagjafaaGreat
open Value renaming int → J
open IntKind renaming i64 → Z
open Go.RowKit
attribute [local go_sem ↓] Go.wp_at_zero Go.wp_at_succ
theorem yG {w:World} {g:Nat} {x y z x' y' z':Value} {t:TypeId} (h:w.heap[g]?=some (.cells #[x,y,z] t (0,0))):(((w.setCell ⟨g,0,none⟩ x').setCell ⟨g,1,none⟩ y').setCell ⟨g,2,none⟩ z').heap[g]?=some (.cells #[x',y',z'] t (0,0)):=by
 rw [yx (yx (yx h))];rfl
theorem zci (a b d:Int) (do_ ao po:Option Addr) (dl dc ac pl pcp pb poff db doff ab aoff:Nat) (al:List (List Int)) (Dn:Nat->Int) (V L R:Nat->Int) (co:Option Addr) (cb coff cc:Nat) (C:List Int) (fuel:Int) (w:World) (hC:C.length<=140737488355328) (hf:fuel<=9223372036854775807) (hdl:dl<=9223372036854775806) (hln:al.length<=9223372036854775807) (hs:TS w po pb poff pl V L R) (hd:IS w do_ db doff dl Dn) (hal:AS w w.heap.size ao ab aoff al) (hcs:CS w w.heap.size co cb coff C) :
 Calls Tryz.prog 41 #[.slice co C.length cc,.agg #[J Z a,J Z b,J Z d,.slice do_ dl dc,.slice ao al.length ac,.slice po pl pcp],J Z fuel] w (JS w (ruF a b d Dn dl al V L R pl C fuel)):=by
 have HS:Hid _:=hs
 have HD:Hid _:=hd
 have HAS:Hid _:=hal
 have HCS:Hid _:=hcs
 have HBT:Hid _:=hcs.byt
 have HB0:Hid (Below w.heap.size w ((w.alloc (.cells #[J Z a,J Z b,J Z d,.slice do_ dl dc,.slice ao al.length ac,.slice po pl pcp] 30)).alloc (.cells #[.slice none 0 0,J Z 0,J Z 0] 35))):=((Below.refl _ _).alloc (Nat.le_refl _) _).alloc (by simp) _
 have HW0:Hid (((w.alloc (.cells #[J Z a,J Z b,J Z d,.slice do_ dl dc,.slice ao al.length ac,.slice po pl pcp] 30)).alloc (.cells #[.slice none 0 0,J Z 0,J Z 0] 35)).heap[w.heap.size]?=some (.cells #[J Z a,J Z b,J Z d,.slice do_ dl dc,.slice ao al.length ac,.slice po pl pcp] 30 (0,0))):=by show _=_;rw [Below.heap_alloc _ _ _ (by simp)];exact heap_alloc_new w _
 have HR0:Hid (((w.alloc (.cells #[J Z a,J Z b,J Z d,.slice do_ dl dc,.slice ao al.length ac,.slice po pl pcp] 30)).alloc (.cells #[.slice none 0 0,J Z 0,J Z 0] 35)).heap[w.heap.size+1]?=some (.cells #[.slice none 0 0,J Z 0,J Z 0] 35 (0,0))):=zt _ (by simp)
 have HRU:Hid (ruF a b d Dn dl al V L R pl C fuel=if fuel<0 then (9,[],0,0) else if ZA a b d V L R pl=true then Yb (zdq a b d Dn dl al V L R pl) C fuel.toNat rt0 else (9,[],0,0)):=rfl
 -- the end,out of the result's block
 have HEND:Hid (∀ (we:World) (tm:Array Value) (x:Value) (t c n:Int),we.heap[w.heap.size+1]?=some (.cells #[x,J Z t,J Z c] 35 (0,0))->tm.getD 6 undef=.pointer (some ⟨w.heap.size+1,0,none⟩)->tm.getD 7 undef=J Z n->JS w (ruF a b d Dn dl al V L R pl C fuel) (.returned (.tuple #[.agg #[x,J Z t,J Z c],J Z n])) we->bodyPost Tryz.prog Tryz.f41 (JS w (ruF a b d Dn dl al V L R pl C fuel)) .ret ⟨tm,[]⟩ we):=fun we tm x t c n h1 h2 h3 h4=>by
  refine bodyPost_ret (v:=.tuple #[.agg #[x,J Z t,J Z c],J Z n]) ?_ rfl h4
  rw [results_cell_tmp Tryz.results41,h2,h3]
  have h5:(asAddr (.pointer (some ⟨w.heap.size+1,0,none⟩))).run Tryz.prog we=.ok ⟨w.heap.size+1,0,none⟩ we:=rfl
  have h6:=run_loadVar_row (P:=Tryz.prog) we (w.heap.size+1) 35 35 #[x,J Z t,J Z c] (0,0) _ h1 Tryz.underlying35 rfl (by kernel_rfl)
  rw [h5,Result.andThen_ok,h6,Result.andThen_ok]
 clear hs hd hal hcs
 go_enter Tryz.func41,Tryz.ntmps41
 by_cases hfu:fuel<0
 ·have HE:Hid (ruF a b d Dn dl al V L R pl C fuel=(9,[],0,0)):=by show _=_;rw [HRU.out,if_pos hfu]
  go_wp2_with fail
  exact HEND.out _ _ _ _ _ _ HR0.out rfl rfl ⟨HB0.out,none,0,0,by rw [HE.out],fun _=>⟨rfl,rfl,rfl⟩,fun h=>by rw [HE.out] at h;cases h⟩
 ·have hfu':0<=fuel:=by omega
  obtain ⟨F,rfl⟩:∃ F:Nat,fuel=F:=⟨fuel.toNat,by omega⟩
  go_wp2_with fail
  refine (j9 a b d do_ ao po dl dc al.length ac pl pcp pb poff V L R _ (HS.out.below HB0.out)).mono ?_
  rintro e w1 ⟨rfl,hb1⟩
  have HB1:Hid _:=HB0.out.trans (hb1.mono HB0.out.size)
  have HW1:Hid _:=(hb1.block _ (lt_of_block HW0.out)).trans HW0.out
  have HR1:Hid _:=(hb1.block _ (lt_of_block HR0.out)).trans HR0.out
  have hlt1:w.heap.size+1<w1.heap.size:=lt_of_block HR1.out
  clear hb1
  cases hr:ZA a b d V L R pl with
  | false =>
   have HE:Hid (ruF a b d Dn dl al V L R pl C F=(9,[],0,0)):=by show _=_;rw [HRU.out,if_neg (by omega),if_neg (by rw [hr];decide)]
   have y0:w1.cell? ⟨w.heap.size+1,0,none⟩=some (.slice none 0 0):=by rw [cell_of_row _ _ _ _ _ _ HR1.out];rfl
   have y1:w1.cell? ⟨w.heap.size+1,1,none⟩=some (J Z 0):=by rw [cell_of_row _ _ _ _ _ _ HR1.out];rfl
   have y2:w1.cell? ⟨w.heap.size+1,2,none⟩=some (J Z 0):=by rw [cell_of_row _ _ _ _ _ _ HR1.out];rfl
   have z0:w1.frozen? ⟨w.heap.size+1,0,none⟩=false:=by simp [World.frozen?,HR1.out]
   have z1:w1.frozen? ⟨w.heap.size+1,1,none⟩=false:=by simp [World.frozen?,HR1.out]
   have z2:w1.frozen? ⟨w.heap.size+1,2,none⟩=false:=by simp [World.frozen?,HR1.out]
   clear hr
   go_wp2_with fail
   exact HEND.out _ _ _ _ _ _ (yG HR1.out) rfl rfl ⟨((HB1.out.setCell (by simp only;omega) _).setCell (by simp only;omega) _).setCell (by simp only;omega) _,none,0,0,by rw [HE.out],fun _=>⟨rfl,rfl,rfl⟩,fun h=>by rw [HE.out] at h;cases h⟩
  | true =>
   have hrr:ZX a b d=true/\YU V L R pl=true:=by simpa [ZA] using hr
   have hask:M.isA a=true/\0<=b/\b<=32/\0<=d/\d<4294967296:=by simpa [ZX] using hrr.1
   obtain ⟨hA,b0,b1,d0,d1⟩:=hask
   have HPL:Hid _:=hrr.2
   obtain ⟨W,HW⟩:∃ W,Hid (W=zdq a b d Dn dl al V L R pl):=⟨_,rfl⟩
   have HE:Hid (ruF a b d Dn dl al V L R pl C F=Yb W C F rt0):=by show _=_;rw [HRU.out,if_neg (by omega),if_pos hr,Int.toNat_natCast,HW.out]
   have q0:w1.cell? ⟨w.heap.size,0,none⟩=some (J Z a):=by rw [cell_of_row _ _ _ _ _ _ HW1.out];rfl
   have q1:w1.cell? ⟨w.heap.size,1,none⟩=some (J Z b):=by rw [cell_of_row _ _ _ _ _ _ HW1.out];rfl
   have q2:w1.cell? ⟨w.heap.size,2,none⟩=some (J Z d):=by rw [cell_of_row _ _ _ _ _ _ HW1.out];rfl
   have q3:w1.cell? ⟨w.heap.size,3,none⟩=some (.slice do_ dl dc):=by rw [cell_of_row _ _ _ _ _ _ HW1.out];rfl
   have q4:w1.cell? ⟨w.heap.size,4,none⟩=some (.slice ao al.length ac):=by rw [cell_of_row _ _ _ _ _ _ HW1.out];rfl
   have q5:w1.cell? ⟨w.heap.size,5,none⟩=some (.slice po pl pcp):=by rw [cell_of_row _ _ _ _ _ _ HW1.out];rfl
   clear hr hrr
   go_wp2_with fail
   refine (zbs a b d do_ ao po dl dc al.length ac pl pcp pb poff db doff Dn V L R co C.length cc _ hA b0 b1 hdl HPL.out (HS.out.below HB1.out) (HD.out.below HB1.out HD.out.lt)).mono ?_
   rintro e w2 ⟨rfl,hb2⟩
   have HB2:Hid _:=HB1.out.trans (hb2.mono HB1.out.size)
   have HR2:Hid _:=(hb2.block _ hlt1).trans HR1.out
   have hlt2:w.heap.size+1<w2.heap.size:=lt_of_block HR2.out
   clear hb2 q0 q1 q2 q3 q4 q5
   -- the run's own block
   have HBC:Hid (YP co C.length cc a b d Dn dl ao al.length ac V L R pl=yI (.slice co C.length cc) (J Z 0) (.bool false) (J Z W.addr) (J Z W.draw) (DA Dn dl) (.slice ao al.length ac) (J Z W.reg) (J Z W.dep) (.slice none 0 0) (J Z 86400) (J Z 0)):=by show _=_;rw [HW.out];rfl
   have HSZ:Hid ((YP co C.length cc a b d Dn dl ao al.length ac V L R pl).size=75):=by show _=_;rw [HBC.out];exact xn (yZ _ _)
   have HON:Hid (∀ v∈(YP co C.length cc a b d Dn dl ao al.length ac V L R pl).toList,v.oneCell'=true):=by show ∀ v∈_,_;rw [HBC.out];exact qK rfl rfl rfl rfl rfl (Jq _ _) rfl rfl rfl rfl rfl rfl
   generalize YP co C.length cc a b d Dn dl ao al.length ac V L R pl=c at *
   obtain ⟨X,HXE⟩:∃ X,Hid (X=w2.alloc (.cells c 121)):=⟨_,rfl⟩
   have hst:(storeCells ⟨w2.heap.size,0,none⟩ c.toList).run Tryz.prog (w2.alloc (.cells Tryz.zeroCells121 121))=.ok () X:=by
    rw [HXE.out]
    exact run_storeCells_new (P:=Tryz.prog) w2 121 Tryz.zeroCells121 c (by rw [HSZ.out];kernel_rfl) (by rw [HSZ.out];rfl) (by
     rw [Array.all_eq_true_iff_forall_mem]
     intro v hv
     exact HON.out v (by simpa using hv))
   have hcs75:c.size=75:=HSZ.out
   have HXB:Hid (X.heap[w2.heap.size]?=some (.cells c 121 (0,0))):=by show _=_;rw [HXE.out];exact heap_alloc_new _ _
   have HXL:Hid (Below (w.heap.size+2) w2 X):=by show Below _ _ _;rw [HXE.out];exact (Below.refl _ _).alloc (by omega) _
   have HKC:Hid (∀ k,k<w.heap.size->X.heap[k]?=w.heap[k]?):=fun k hk=>(HXL.out.block k (by omega)).trans (HB2.out.block k hk)
   have HM0:Hid (RM X (w.heap.size+2) w2.heap.size co cb coff cc C W (DA Dn dl) (.slice ao al.length ac) (.slice none 0 0) rt0):=by
    refine ⟨?_,yZ _ _,fun i hi=>?_,World.ownsRow_nil _ _ _ _,by omega,?_⟩
    ·rw [HXB.out,HBC.out];rfl
    ·rw [Ja _ _ _ hi,HW.out];rfl
    ·have h1:=HCS.out.of_kept HKC.out
     exact ⟨h1.at_,fun h=>by have:=h1.lt h;omega,h1.val,h1.byt⟩
   have HAL:Hid (W.al=al):=by show _=_;rw [HW.out];rfl
   have HA0:Hid (AS X (w.heap.size+2) ao ab aoff W.al):=by
    show AS _ _ _ _ _ _
    rw [HAL.out]
    have h1:=HAS.out.of_kept HKC.out
    exact ⟨h1.at_,fun h=>by have:=h1.lt h;omega,fun k l hl=>by
     obtain ⟨lo,lc,h2,h3⟩:=h1.val k l hl
     refine ⟨lo,lc,h2,fun h0=>?_⟩
     obtain ⟨lb,loff,h4,h5,h6⟩:=h3 h0
     exact ⟨lb,loff,h4,by omega,h6⟩,h1.len⟩
   have HDR:Hid (0<=W.draw):=by show _<=_;rw [HW.out];exact d0
   have HAD:Hid (0<=W.addr/\W.addr<4294967296):=by show _/\_;rw [HW.out];exact qj (M.isA_iff.1 hA).1 (M.isA_iff.1 hA).2
   clear HBC HON
   go_wp2_with fail
   go_loopg [2] F (fun q y wr=>∃ (s:RT) (sv:Value),y=J Z q/\Hid (Yb W C F rt0=Yb W C q s)/\RM wr (w.heap.size+2) w2.heap.size co cb coff cc C W (DA Dn dl) (.slice ao al.length ac) sv s/\s.sv=[]/\s.r.p<=C.length+70000/\q<=F/\Below (w.heap.size+2) w2 wr)
   case atStart=>exact ⟨rt0,.slice none 0 0,rfl,rfl,HM0.out,rfl,by simp [rt0],Nat.le_refl _,HXL.out⟩
   case round =>
    obtain ⟨s,sv,rfl,HRF,hm,hsv,hsp,hqF,hbl⟩:=hrel
    have HM:Hid _:=hm
    have HSV:Hid _:=hsv
    have HBL:Hid _:=hbl
    have HAS2:Hid (AS wr (w.heap.size+2) ao ab aoff W.al):=HA0.out.of_kept (fun k hk=>(hbl.block k hk).trans (HXL.out.block k hk).symm)
    clear hm hsv hbl
    have HBW:Hid (Below w.heap.size w wr):=HB2.out.trans (HBL.out.mono (by omega))
    have HRW:Hid (wr.heap[w.heap.size+1]?=some (.cells #[.slice none 0 0,J Z 0,J Z 0] 35 (0,0))):=(HBL.out.block _ (by omega)).trans HR2.out
    cases gk with
    | zero =>
     have HE2:Hid (ruF a b d Dn dl al V L R pl C F=(11,[],0,0)):=by show _=_;rw [HE.out,HRF.out];rfl
     have y0:wr.cell? ⟨w.heap.size+1,0,none⟩=some (.slice none 0 0):=by rw [cell_of_row _ _ _ _ _ _ HRW.out];rfl
     have y1:wr.cell? ⟨w.heap.size+1,1,none⟩=some (J Z 0):=by rw [cell_of_row _ _ _ _ _ _ HRW.out];rfl
     have y2:wr.cell? ⟨w.heap.size+1,2,none⟩=some (J Z 0):=by rw [cell_of_row _ _ _ _ _ _ HRW.out];rfl
     have z0:wr.frozen? ⟨w.heap.size+1,0,none⟩=false:=by simp [World.frozen?,HRW.out]
     have z1:wr.frozen? ⟨w.heap.size+1,1,none⟩=false:=by simp [World.frozen?,HRW.out]
     have z2:wr.frozen? ⟨w.heap.size+1,2,none⟩=false:=by simp [World.frozen?,HRW.out]
     go_wp2_with fail
     exact HEND.out _ _ _ _ _ _ (yG HRW.out) rfl rfl ⟨((HBW.out.setCell (by simp only;omega) _).setCell (by simp only;omega) _).setCell (by simp only;omega) _,none,0,0,by rw [HE2.out],fun _=>⟨rfl,rfl,rfl⟩,fun h=>by rw [HE2.out] at h;cases h⟩
    | succ f =>
     have hf0:(0:Int)<((f+1:Nat):Int):=by omega
     have hf1:((f+1:Nat):Int)-1=(f:Int):=by omega
     have HALM:Hid (RM wr (w.heap.size+2) w2.heap.size co cb coff cc C W (DA Dn dl) (.slice ao W.al.length ac) sv s):=by show RM _ _ _ _ _ _ _ _ _ _ _ _ _;rw [HAL.out];exact HM.out
     have hLn:W.al.length<=9223372036854775807:=by rw [HAL.out];exact hln
     have HSTEP:=zbH (w.heap.size+2) w2.heap.size co cb coff cc C W (DA Dn dl) ao ab aoff ac sv s wr (by omega) HSV.out HDR.out HAD.out.1 HAD.out.2 HAS2.out hLn HALM.out
     rw [HAL.out] at HSTEP
     have HST2:Hid _:=HSTEP
     clear HSTEP
     have HPP:Hid ((zC W C s).1.r.b=false->(zC W C s).1.r.p<=C.length+70000):=fun h=>by have h1:=zdm h;have h2:=zez (W:=W) (s:=s) HBT.out;omega
     have HSS:Hid ((zC W C s).2=false->(zC W C s).1.sv=[]):=fun h=>(zdl h).trans HSV.out
     have HRN:Hid (Yb W C (f+1) s=if (zC W C s).1.r.b=true then (10,[],0,0) else if (zC W C s).2=true then (0,(zC W C s).1.sv,(zC W C s).1.ttl,(zC W C s).1.sc) else Yb W C f (zC W C s).1):=rfl
     generalize hST:zC W C s=st at *
     clear hST
     obtain ⟨t,over⟩:=st
     simp only at HPP HSS HRN
     go_wp2_with fail
     refine (Calls.mono HST2.out) ?_
     rintro e w4 ⟨rfl,⟨sv',hm4⟩,hb4⟩
     have HM4:Hid _:=hm4
     have HB4:Hid _:=HBL.out.trans hb4
     have HBW4:Hid (Below w.heap.size w w4):=HB2.out.trans (HB4.out.mono (by omega))
     have HR4:Hid (w4.heap[w.heap.size+1]?=some (.cells #[.slice none 0 0,J Z 0,J Z 0] 35 (0,0))):=(HB4.out.block _ (by omega)).trans HR2.out
     have c2:=hm4.c2
     have y0:w4.cell? ⟨w.heap.size+1,0,none⟩=some (.slice none 0 0):=by rw [cell_of_row _ _ _ _ _ _ HR4.out];rfl
     have y1:w4.cell? ⟨w.heap.size+1,1,none⟩=some (J Z 0):=by rw [cell_of_row _ _ _ _ _ _ HR4.out];rfl
     have y2:w4.cell? ⟨w.heap.size+1,2,none⟩=some (J Z 0):=by rw [cell_of_row _ _ _ _ _ _ HR4.out];rfl
     have z0:w4.frozen? ⟨w.heap.size+1,0,none⟩=false:=by simp [World.frozen?,HR4.out]
     have z1:w4.frozen? ⟨w.heap.size+1,1,none⟩=false:=by simp [World.frozen?,HR4.out]
     have z2:w4.frozen? ⟨w.heap.size+1,2,none⟩=false:=by simp [World.frozen?,HR4.out]
     clear hm4 hb4
     cases hbad:t.r.b with
     | true =>
      have HE2:Hid (ruF a b d Dn dl al V L R pl C F=(10,[],0,0)):=by show _=_;rw [HE.out,HRF.out,HRN.out,if_pos hbad]
      rw [hbad] at c2
      clear hbad
      go_wp2_with fail
      exact HEND.out _ _ _ _ _ _ (yG HR4.out) rfl rfl ⟨((HBW4.out.setCell (by simp only;omega) _).setCell (by simp only;omega) _).setCell (by simp only;omega) _,none,0,0,by rw [HE2.out],fun _=>⟨rfl,rfl,rfl⟩,fun h=>by rw [HE2.out] at h;cases h⟩
     | false =>
      rw [hbad] at c2
      cases over with
      | true =>
       have HE2:Hid (ruF a b d Dn dl al V L R pl C F=(0,t.sv,t.ttl,t.sc)):=by show _=_;rw [HE.out,HRF.out,HRN.out,if_neg (by rw [hbad];decide),if_pos rfl]
       have c72:=HM4.out.c72
       have c73:=HM4.out.c73
       have c74:=HM4.out.c74
       obtain ⟨so,sk,hso,_⟩:=yd HM4.out.row
       subst hso
       clear hbad
       go_wp2_with fail
       refine HEND.out _ _ _ _ _ _ (yG HR4.out) rfl rfl ⟨((HBW4.out.setCell (by simp only;omega) _).setCell (by simp only;omega) _).setCell (by simp only;omega) _,so,t.sv.length,sk,by rw [HE2.out],fun h=>by rw [HE2.out] at h;exact absurd rfl h,fun _=>?_⟩
       rw [HE2.out]
       refine ⟨rfl,?_⟩
       have hrow:w4.ownsRow w.heap.size 3 1 (.slice so t.sv.length sk) t.sv.length (t.sv.map (J Z)):=ZC HM4.out.row (by omega)
       have hne:(Value.slice so t.sv.length sk).ownBlock≠some (w.heap.size+1):=zj hrow HR4.out (by decide)
       refine zh hrow (fun g hg=>?_)
       have hgn:g≠w.heap.size+1:=fun e=>hne (by rw [<- e];exact hg)
       rw [za hgn,za hgn,za hgn]
      | false =>
       have HRF2:Hid (Yb W C F rt0=Yb W C f t):=by show _=_;rw [HRF.out,HRN.out,if_neg (by rw [hbad];decide),if_neg (by decide)]
       have hp4:=HPP.out hbad
       have hs4:=HSS.out rfl
       have HS4:Hid _:=hs4
       clear hbad hs4
       go_wp2_with fail
       go_roundg f
       case measure=>omega
       case rel=>exact ⟨t,sv',by go_num,HRF2,HM4.out,HS4.out,hp4,by omega,HB4.out⟩
theorem CS.wide {w:World} {base base':Nat} {co:Option Addr} {cb coff:Nat} {C:List Int} (h:CS w base co cb coff C) (hb:base<=base'):CS w base' co cb coff C:=⟨h.at_,fun h0=>by have:=h.lt h0;omega,h.val,h.byt⟩
def WD.ru (x:WD) (C:List Int) (fuel:Int):Int×(List Int×Int×Int):=ruF x.a x.b x.d x.Dn x.dl x.al x.V x.L x.R x.pl C fuel
def WD.right (x:WD):Bool:=ZA x.a x.b x.d x.V x.L x.R x.pl
def WD.rw (x:WD):RW:=zdq x.a x.b x.d x.Dn x.dl x.al x.V x.L x.R x.pl
theorem zal (x:WD) (co:Option Addr) (cb coff cc:Nat) (C:List Int) (fuel:Int) (w:World) (hC:C.length<=140737488355328) (hf:fuel<=9223372036854775807) (hx:x.In w) (hcs:CS w w.heap.size co cb coff C) :
 Calls Tryz.prog 26 #[.slice co C.length cc,x.val,J Z fuel] w (JS w (x.ru C fuel)):=by
 have HX:Hid _:=hx
 have HCS:Hid _:=hcs
 obtain ⟨R,HR⟩:∃ R,Hid (x.ru C fuel=R):=⟨_,rfl⟩
 have HRUN:Hid (∀ wz,x.In wz->CS wz wz.heap.size co cb coff C->Calls Tryz.prog 41 #[.slice co C.length cc,x.val,J Z fuel] wz (JS wz R)):=fun wz h1 h2=>by
  have:=zci x.a x.b x.d x.do_ x.ao x.po x.dl x.dc x.ac x.pl x.pcp x.pb x.poff x.db x.doff x.ab x.aoff x.al x.Dn x.V x.L x.R co cb coff cc C fuel wz hC hf h1.ndl h1.nal h1.ts h1.is_ h1.as_ h2
  rw [show ruF x.a x.b x.d x.Dn x.dl x.al x.V x.L x.R x.pl C fuel=R from HR.out] at this
  exact this
 rw [HR.out]
 clear hx hcs
 unfold WD.val at HRUN ⊢
 obtain ⟨xa,xb,xd,xdo,xdb,xdoff,xdl,xdc,xDn,xao,xab,xaoff,xac,xal,xpo,xpb,xpoff,xpl,xpcp,xV,xL,xR⟩:=x
 simp only at HRUN ⊢
 have HB0:Hid (Below w.heap.size w ((w.alloc (.cells #[J Z xa,J Z xb,J Z xd,.slice xdo xdl xdc,.slice xao xal.length xac,.slice xpo xpl xpcp] 30)).alloc (.cells #[.slice none 0 0,J Z 0,J Z 0] 35))):=((Below.refl _ _).alloc (Nat.le_refl _) _).alloc (by simp) _
 have HR0:Hid (((w.alloc (.cells #[J Z xa,J Z xb,J Z xd,.slice xdo xdl xdc,.slice xao xal.length xac,.slice xpo xpl xpcp] 30)).alloc (.cells #[.slice none 0 0,J Z 0,J Z 0] 35)).heap[w.heap.size+1]?=some (.cells #[.slice none 0 0,J Z 0,J Z 0] 35 (0,0))):=zt _ (by simp)
 have HCALL:=HRUN.out _ (HX.out.below HB0.out) ((HCS.out.of_kept (fun b hb=>HB0.out.block b hb)).wide HB0.out.size)
 have hsz:((w.alloc (.cells #[J Z xa,J Z xb,J Z xd,.slice xdo xdl xdc,.slice xao xal.length xac,.slice xpo xpl xpcp] 30)).alloc (.cells #[.slice none 0 0,J Z 0,J Z 0] 35)).heap.size=w.heap.size+2:=by simp
 have HSZ:Hid _:=hsz
 clear hsz
 go_enter Tryz.func26,Tryz.ntmps26
 go_wp2_with fail
 refine HCALL.mono ?_
 rintro e w1 ⟨hb1,o,m,k,rfl,hne,heq⟩
 have HB1:Hid _:=HB0.out.trans (hb1.mono HB0.out.size)
 have HR1:Hid (w1.heap[w.heap.size+1]?=some (.cells #[.slice none 0 0,J Z 0,J Z 0] 35 (0,0))):=(hb1.block _ (by rw [HSZ.out];omega)).trans HR0.out
 have HNE:Hid _:=hne
 have HEQ:Hid (R.1=0->m=R.2.1.length/\w1.ownsRow (w.heap.size+2) 3 1 (.slice o m k) R.2.1.length (R.2.1.map (J Z))):=by rw [HSZ.out] at heq;exact heq
 have y0:w1.cell? ⟨w.heap.size+1,0,none⟩=some (.slice none 0 0):=by rw [cell_of_row _ _ _ _ _ _ HR1.out];rfl
 have y1:w1.cell? ⟨w.heap.size+1,1,none⟩=some (J Z 0):=by rw [cell_of_row _ _ _ _ _ _ HR1.out];rfl
 have y2:w1.cell? ⟨w.heap.size+1,2,none⟩=some (J Z 0):=by rw [cell_of_row _ _ _ _ _ _ HR1.out];rfl
 have z0:w1.frozen? ⟨w.heap.size+1,0,none⟩=false:=by simp [World.frozen?,HR1.out]
 have z1:w1.frozen? ⟨w.heap.size+1,1,none⟩=false:=by simp [World.frozen?,HR1.out]
 have z2:w1.frozen? ⟨w.heap.size+1,2,none⟩=false:=by simp [World.frozen?,HR1.out]
 clear hb1 hne heq
 go_wp2_with fail
 have HBE:=yG (x':=.slice o m k) (y':=J Z R.2.2.1) (z':=J Z R.2.2.2) HR1.out
 refine bodyPost_ret (v:=.tuple #[.agg #[.slice o m k,J Z R.2.2.1,J Z R.2.2.2],J Z R.1]) ?_ rfl ⟨((HB1.out.setCell (by simp only;omega) _).setCell (by simp only;omega) _).setCell (by simp only;omega) _,o,m,k,rfl,HNE.out,fun h=>⟨(HEQ.out h).1,?_⟩⟩
 ·rw [results_cell_tmp Tryz.results26]
  have h5:∀ we:World,(asAddr (.pointer (some ⟨w.heap.size+1,0,none⟩))).run Tryz.prog we=.ok ⟨w.heap.size+1,0,none⟩ we:=fun _=>rfl
  have h6:=run_loadVar_row (P:=Tryz.prog) _ (w.heap.size+1) 35 35 #[.slice o m k,J Z R.2.2.1,J Z R.2.2.2] (0,0) _ HBE Tryz.underlying35 rfl (by kernel_rfl)
  show ((asAddr (.pointer (some ⟨w.heap.size+1,0,none⟩))).run Tryz.prog _).andThen _=_
  rw [h5,Result.andThen_ok,h6,Result.andThen_ok]
  rfl
 ·have hrow:=ZC (HEQ.out h).2 (base':=w.heap.size) (by omega)
  have hne:(Value.slice o m k).ownBlock≠some (w.heap.size+1):=zj hrow HR1.out (by decide)
  refine zh hrow (fun g hg=>?_)
  have hgn:g≠w.heap.size+1:=fun e=>hne (by rw [<- e];exact hg)
  rw [za hgn,za hgn,za hgn]
def za3 (s:ByteArray):Bool:=cpE s==0
theorem ze3 (a b d:Int):ZX a b d=(M.isA a && (M.isA d && (decide (0<=b) && decide (b<=32)))):=by
 unfold ZX M.isA
 by_cases h1:0<=a<;>by_cases h2:a<4294967296<;>by_cases h3:0<=b<;>by_cases h4:b<=32<;>by_cases h5:0<=d<;>by_cases h6:d<4294967296<;>simp [h1,h2,h3,h4,h5,h6]
theorem zbA (a b d:Int) (w:World):Calls Tryz.prog 33 #[J Z a,J Z b,J Z d] w fun e w'=>e=.returned (.bool (ZX a b d))/\w'=w:=by
 have HE:Hid (ZX a b d=(M.isA a && (M.isA d && (decide (0<=b) && decide (b<=32))))):=ze3 a b d
 go_enter Tryz.func33,Tryz.ntmps33
 go_wp2_with fail
 refine (xW a _).mono ?_
 rintro e w' ⟨rfl,hw'⟩
 subst w'
 generalize M.isA a=q at *
 cases q with
 | false =>
  go_wp2_with fail
  go_ret
  exact ⟨by rw [HE.out];rfl,rfl⟩
 | true =>
  go_wp2_with fail
  refine (xW d _).mono ?_
  rintro e w' ⟨rfl,hw'⟩
  subst w'
  generalize M.isA d=q2 at *
  cases q2 with
  | false =>
   go_wp2_with fail
   go_ret
   exact ⟨by rw [HE.out];rfl,rfl⟩
  | true =>
   by_cases h1:0<=b
   ·by_cases h2:b<=32
    ·have HE2:Hid (ZX a b d=true):=by show _=_;rw [HE.out];simp [h1,h2]
     go_wp2_with fail
     go_ret
     exact ⟨by rw [HE2.out];rfl,rfl⟩
    ·have HE2:Hid (ZX a b d=false):=by show _=_;rw [HE.out];simp [h2]
     have h2':decide (b<=32)=false:=decide_eq_false h2
     go_wp2_with fail
     go_ret
     exact ⟨by rw [HE2.out];rfl,rfl⟩
   ·have HE2:Hid (ZX a b d=false):=by show _=_;rw [HE.out];simp [h1]
    have h1':decide (0<=b)=false:=decide_eq_false h1
    go_wp2_with fail
    go_ret
    exact ⟨by rw [HE2.out];rfl,rfl⟩
theorem QH (x:WD) (w:World) (hx:x.In w) (hn:x.pl*24<=140737488351232) :
 Calls Tryz.prog 14 #[x.val] w fun e w'=>e=.returned (.bool x.right)/\Below w.heap.size w w':=by
 have HS:Hid _:=hx.ts
 have HE:Hid (x.right=(ZX x.a x.b x.d && YU x.V x.L x.R x.pl)):=rfl
 clear hx
 unfold WD.val
 obtain ⟨xa,xb,xd,xdo,xdb,xdoff,xdl,xdc,xDn,xao,xab,xaoff,xac,xal,xpo,xpb,xpoff,xpl,xpcp,xV,xL,xR⟩:=x
 simp only at HS HE hn ⊢
 have HB0:Hid (Below w.heap.size w (w.alloc (.cells #[J Z xa,J Z xb,J Z xd,.slice xdo xdl xdc,.slice xao xal.length xac,.slice xpo xpl xpcp] 30))):=(Below.refl _ _).alloc (Nat.le_refl _) _
 go_enter Tryz.func14,Tryz.ntmps14
 go_wp2_with fail
 refine (zbA xa xb xd _).mono ?_
 rintro e w' ⟨rfl,hw'⟩
 subst w'
 generalize ZX xa xb xd=q at *
 cases q with
 | false =>
  go_wp2_with fail
  go_ret
  exact ⟨by rw [HE.out];rfl,HB0.out⟩
 | true =>
  go_wp2_with fail
  refine (JU _ xpb xpoff xpl _ xV xL xR _ hn (HS.out.below HB0.out)).mono ?_
  rintro e w2 ⟨rfl,hb2⟩
  have HB2:Hid _:=HB0.out.trans (hb2.mono HB0.out.size)
  clear hb2
  go_wp2_with fail
  go_ret
  exact ⟨by rw [HE.out];rfl,HB2.out⟩
theorem xC (n:Int) (k:Nat):∀ x∈zZ n k,0<=x/\x<256:=by
 induction k generalizing n with
 | zero=>intro x hx;simp [zZ] at hx
 | succ k ih =>
  intro x hx
  simp only [zZ,List.mem_cons] at hx
  rcases hx with rfl | hx
  ·omega
  ·exact ih _ x hx
theorem zd2 (es:List EX):∀ n,∀ x∈yg es n,0<=x/\x<256:=by
 intro n
 induction n using Nat.strongRecOn with
 | ind n ih =>
  cases n with
  | zero=>intro x hx;simp [yg] at hx
  | succ j =>
   cases he:es[j]? with
   | none=>intro x hx;simp [yg,he] at hx
   | some e =>
    have hat:∀ i,∀ x∈atL (zT es j) i,0<=x/\x<256:=by
     intro i x hx
     rw [XB] at hx
     split at hx
     ·simp at hx
     ·split at hx
      ·exact ih _ (by omega) x hx
      ·simp at hx
    have hw:∀ k,∀ x∈zg (zT es j) e k,0<=x/\x<256:=by
     intro k
     induction k with
     | zero=>exact hat _
     | succ k ihk =>
      intro x hx
      simp only [zg,List.mem_append] at hx
      rcases hx with hx | hx
      ·exact ihk x hx
      ·cases hi:e.items[k]? with
       | none=>rw [hi] at hx;simp at hx
       | some y=>rw [hi] at hx;exact hat _ x hx
    have hh:∀ k,∀ x∈zq (zT es j) e k,0<=x/\x<256:=by
     intro k
     induction k with
     | zero =>
      intro x hx
      simp only [zq,yo,List.mem_append] at hx
      rcases hx with hx | hx
      ·exact xC _ _ x hx
      ·repeat' split at hx
       all_goals exact xC _ _ x hx
     | succ k ihk =>
      intro x hx
      simp only [zq,List.mem_append] at hx
      rcases hx with hx | hx
      ·exact ihk x hx
      ·cases hi:e.items[k]? with
       | none=>rw [hi] at hx;simp at hx
       | some y =>
        rw [hi] at hx
        simp only [yv] at hx
        repeat' split at hx
        all_goals (try simp only [List.mem_append] at hx)
        ·rcases hx with (hx | hx) | hx<;>exact xC _ _ x hx
        ·rcases hx with hx | hx<;>exact xC _ _ x hx
        ·rcases hx with hx | hx<;>exact xC _ _ x hx
        ·exact xC _ _ x hx
    intro x hx
    simp only [yg,he,YK] at hx
    split at hx
    ·exact hat _ x hx
    ·rcases List.mem_append.1 hx with hx | hx
     ·exact hh _ x hx
     ·exact hw _ x hx
theorem ze7 {w:World} {base:Nat} {o:Option Addr} {k:Nat} {X:List Int} (h:w.ownsRow base 5 1 (.slice o X.length k) X.length (X.map (Value.int .u8))) (hb:∀ x∈X,0<=x/\x<256):∃ g,CS w w.heap.size o g 0 X:=by
 rcases Nat.eq_zero_or_pos X.length with h0 | h0
 ·exact ⟨0,⟨fun h=>by omega,fun h=>by omega,fun i x hx=>by have:=(List.getElem?_eq_some_iff.1 hx).1;omega,hb⟩⟩
 ·obtain ⟨g,kk,hg,_,hl⟩:=h.form h0
  obtain ⟨ho,_⟩:o=some ⟨g,0,none⟩/\k=kk:=by cases hg;exact ⟨rfl,rfl⟩
  subst ho
  refine ⟨g,⟨fun _=>rfl,fun _=>hl,fun i x hx=>?_,hb⟩⟩
  have hi:=(List.getElem?_eq_some_iff.1 hx).1
  rw [Nat.zero_add,World.ownsRow.cellAt h i (by omega),List.getElem?_map,hx];rfl
theorem Qu {w:World} {base:Nat} {o:Option Addr} {k:Nat} {l:List Int} (h:w.ownsRow base 3 1 (.slice o l.length k) l.length (l.map (J Z))):∃ g,IS w o g 0 l.length (fun i=>(l[i]?).getD 0):=by
 rcases Nat.eq_zero_or_pos l.length with h0 | h0
 ·exact ⟨0,⟨fun h=>by omega,fun h=>by omega,fun i hi=>by omega⟩⟩
 ·obtain ⟨g,kk,hg,_,hl⟩:=h.form h0
  obtain ⟨ho,_⟩:o=some ⟨g,0,none⟩/\k=kk:=by cases hg;exact ⟨rfl,rfl⟩
  subst ho
  refine ⟨g,⟨fun _=>rfl,fun _=>hl,fun i hi=>?_⟩⟩
  rw [Nat.zero_add,World.ownsRow.cellAt h i (by omega),List.getElem?_map,List.getElem?_eq_getElem hi];rfl
section
open Go.ChangeShapes Go.WideShapes Go.ChangeAt Go.RowKit
theorem zcJ:Tryz.prog.bytesOf 3=8:=by kernel_rfl
theorem zbp:Tryz.prog.bytesOf 25=24:=by kernel_rfl
section
variable {H:Type} {enc:TypeId×Value->H} {w:World} {base:Nat} {spare:Nat->Bool} {held:Bool}
theorem Qp {fuel:Nat} {cs:List Value} {x:DataW H×List MemPlace} (h:DataW.trod enc Tryz.prog w base spare held fuel 25 cs=some x) :
 ∃ o len cap b off D,cs=[.slice o len cap]/\IS w o b off len D/\((∀ k∈x.1.weights Tryz.prog 25,k<=reachBytes)->len*8<=140737488351232):=by
 rcases Deep.open_slice1 Tryz.underlying25 Y6 h with ⟨hcs,_⟩ | ⟨a,l,c,m,n,V,D,Pl,hcs,_,hl,_,hmm,hx,hel⟩
 ·exact ⟨none,0,0,0,0,fun _=>0,hcs,⟨fun h=>by omega,fun h=>by omega,fun i hi=>by omega⟩,fun _=>by omega⟩
 ·have hlm:l<=m:=by rw [hmm];split<;>omega
  obtain ⟨F,hF⟩:=Deep.choose_lt (α:=Int) (n:=l) (p:=fun i y=>w.cell? (a.add i)=some (J Z y)) (fun i hi=>by
   obtain ⟨h1,h2⟩:=hel i (by omega)
   obtain ⟨y,ey,_,_⟩:=DataW.trod_int Tryz.underlying3 h2
   simp at ey
   exact ⟨y,by rw [h1,ey]⟩)
  obtain ⟨b,off,spot⟩:=a
  refine ⟨some ⟨b,off,spot⟩,l,c,b,off,F,hcs,?_,fun hw=>?_⟩
  ·by_cases hl0:l=0
   ·subst hl0
    exact ⟨fun h=>by omega,fun h=>by omega,fun i hi=>by omega⟩
   ·have hc0:=hF 0 (by omega)
    have hspot:spot=none:=by simpa [Addr.add] using World.cell?_spot hc0
    subst hspot
    have hlt:b<w.heap.size:=by
     have:=hc0
     simp [Addr.add] at this
     exact yB this
    refine ⟨fun _=>rfl,fun _=>hlt,fun i hi=>?_⟩
    have:=hF i hi
    rw [add_plain] at this
    exact this
  ·have hmem:(l+(m-l))*8∈x.1.weights Tryz.prog 25:=by
    rw [hx]
    simp only [DataW.weights,Tryz.underlying25,zcJ]
    simp
   have:=hw _ hmem
   simp only [reachBytes] at this
   omega
theorem Jp {fuel:Nat} {cs:List Value} {x:DataW H×List MemPlace} (h:DataW.trod enc Tryz.prog w base spare held fuel 27 cs=some x) :
 ∃ o cap ab aoff al,cs=[.slice o al.length cap]/\((∀ k∈x.1.weights Tryz.prog 27,k<=reachBytes)->AS w w.heap.size o ab aoff al/\al.length*24<=140737488351232):=by
 rcases Deep.open_slice1 Tryz.underlying27 Qz h with ⟨hcs,_⟩ | ⟨a,l,c,m,n,V,D,Pl,hcs,_,hl,_,hmm,hx,hel⟩
 ·exact ⟨none,0,0,0,[],hcs,fun _=>⟨⟨fun h=>by simp at h,fun h=>by simp at h,fun k l hl=>by simp at hl,fun l hl=>by simp at hl⟩,by simp⟩⟩
 ·have hlm:l<=m:=by rw [hmm];split<;>omega
  obtain ⟨F,hF⟩:=Deep.choose_lt (α:=Option Addr×Nat×Nat×Nat×Nat×(Nat->Int)) (n:=l) (p:=fun i y=>w.cell? (a.add i)=some (.slice y.1 y.2.1 y.2.2.1)/\IS w y.1 y.2.2.2.1 y.2.2.2.2.1 y.2.1 y.2.2.2.2.2/\((∀ k∈(D i).weights Tryz.prog 25,k<=reachBytes)->y.2.1*8<=140737488351232)) (fun i hi=>by
   obtain ⟨h1,h2⟩:=hel i (by omega)
   obtain ⟨o,len,cap,b,off,Dn,e1,hi1,hw1⟩:=Qp h2
   simp at e1
   exact ⟨(o,len,cap,b,off,Dn),by rw [h1,e1],hi1,hw1⟩)
  obtain ⟨b,off,spot⟩:=a
  refine ⟨some ⟨b,off,spot⟩,c,b,off,(List.range l).map (fun i=>(List.range (F i).2.1).map (F i).2.2.2.2.2),by simpa using hcs,fun hw=>?_⟩
  have hwl:l*24<=140737488351232:=by
   have hmem:(l+(m-l))*24∈x.1.weights Tryz.prog 27:=by
    rw [hx]
    simp only [DataW.weights,Tryz.underlying27,zbp]
    simp
   have:=hw _ hmem
   simp only [reachBytes] at this
   omega
  have hwi:∀ i,i<l->(F i).2.1*8<=140737488351232:=fun i hi=>(hF i hi).2.2 (fun k hk=>hw k (by
   rw [hx]
   simp only [DataW.weights,Tryz.underlying27]
   refine List.mem_cons_of_mem _ (List.mem_append_left _ (Zt (d:=D i) ?_ hk))
   exact List.mem_map.2 ⟨i,List.mem_range.2 hi,rfl⟩))
  have hat:∀ (k:Nat) (q:List Int),((List.range l).map (fun i=>(List.range (F i).2.1).map (F i).2.2.2.2.2))[k]?=some q->k<l/\q=(List.range (F k).2.1).map (F k).2.2.2.2.2:=fun k q hq=>by
   rw [List.getElem?_map] at hq
   by_cases hk:k<l
   ·rw [List.getElem?_range hk] at hq
    simp only [Option.map_some,Option.some.injEq] at hq
    exact ⟨hk,hq.symm⟩
   ·rw [List.getElem?_eq_none (by simp;omega)] at hq
    cases hq
  refine ⟨?_,by simpa using hwl⟩
  by_cases hl0:l=0
  ·subst hl0
   exact ⟨fun h=>by simp at h,fun h=>by simp at h,fun k q hq=>by simp at hq,fun q hq=>by simp at hq⟩
  ·have hc0:=(hF 0 (by omega)).1
   have hspot:spot=none:=by simpa [Addr.add] using World.cell?_spot hc0
   subst hspot
   have hlt:b<w.heap.size:=by
    have:=hc0
    simp [Addr.add] at this
    exact yB this
   refine ⟨fun _=>rfl,fun _=>hlt,fun k q hq=>?_,fun q hq=>?_⟩
   ·obtain ⟨hk,rfl⟩:=hat k q hq
    obtain ⟨h1,h2,_⟩:=hF k hk
    rw [add_plain] at h1
    refine ⟨(F k).1,(F k).2.2.1,by rw [h1];simp,fun h0=>?_⟩
    simp only [List.length_map,List.length_range] at h0
    refine ⟨(F k).2.2.2.1,(F k).2.2.2.2.1,h2.at_ h0,h2.lt h0,fun i y hy=>?_⟩
    rw [List.getElem?_map] at hy
    by_cases hi:i<(F k).2.1
    ·rw [List.getElem?_range hi] at hy
     simp only [Option.map_some,Option.some.injEq] at hy
     subst hy
     exact h2.val i hi
    ·rw [List.getElem?_eq_none (by simp;omega)] at hy
     cases hy
   ·obtain ⟨k,hk⟩:=List.getElem?_of_mem hq
    obtain ⟨hkl,rfl⟩:=hat k q hk
    have:=hwi k hkl
    simp only [List.length_map,List.length_range]
    omega
theorem zdF {n:Nat} {cs:List Value} {x:DataW H×List MemPlace} (h:DataW.trod enc Tryz.prog w base spare held n 30 cs=some x) (hw:∀ k∈x.1.weights Tryz.prog 30,k<=reachBytes) :
 ∃ y:WD,cs=[J Z y.a,J Z y.b,J Z y.d,.slice y.do_ y.dl y.dc,.slice y.ao y.al.length y.ac,.slice y.po y.pl y.pcp]/\y.In w/\y.pl*24<=140737488351232/\y.dl*8<=140737488351232/\y.al.length*24<=140737488351232:=by
 obtain ⟨xs,m,_,rfl,hlen,hxs,hf⟩:=DataW.trod_struct Tryz.underlying30 h
 rw [YM] at hlen
 match cs,hlen,xs,hxs with
 | [c0,c1,c2,c3,c4,c5],_,[x0,x1,x2,x3,x4,x5],_ =>
  have f0:=hf 0 _ rfl
  have f1:=hf 1 _ rfl
  have f2:=hf 2 _ rfl
  have f3:=hf 3 _ rfl
  have f4:=hf 4 _ rfl
  have f5:=hf 5 _ rfl
  obtain ⟨a,ea,_,_⟩:=DataW.trod_int Tryz.underlying3 f0
  obtain ⟨bi,eb,_,_⟩:=DataW.trod_int Tryz.underlying3 f1
  obtain ⟨dr,ec,_,_⟩:=DataW.trod_int Tryz.underlying3 f2
  obtain ⟨do_,dl,dc,db,doff,Dn,e3,hdn,hdw⟩:=Qp f3
  obtain ⟨ao,ac,ab,aoff,al,e4,haw⟩:=Jp f4
  obtain ⟨po,len,cap,b,off,V,L,R,e5,hpt,hd⟩:=XZ f5
  simp [Y6,Qz,JK,X6] at ea eb ec e3 e4 e5
  have hall:∀ k,k∈x3.1.weights Tryz.prog 25\/k∈x4.1.weights Tryz.prog 27\/k∈x5.1.weights Tryz.prog 28->k<=reachBytes:=fun k hk=>hw k (by
   simp only [DataW.weights,Tryz.underlying30,DataW.weightsEach,List.map_cons,List.map_nil,List.mem_append]
   rcases hk with hk | hk | hk
   ·right;right;right;left;exact hk
   ·right;right;right;right;left;exact hk
   ·right;right;right;right;right;left;exact hk)
  have h3:=hdw (fun k hk=>hall k (.inl hk))
  obtain ⟨h4,h5⟩:=haw (fun k hk=>hall k (.inr (.inl hk)))
  have h6:len*24<=140737488351232:=by
   rcases hd with ⟨_,rfl⟩ | ⟨el,sp,he,hl⟩
   ·omega
   ·have hmem:(el.length+sp.length)*24∈x5.1.weights Tryz.prog 28:=by
     simp only [DataW.weights,he,Tryz.underlying28,q9]
     simp
    have:=hall _ (.inr (.inr hmem))
    simp only [reachBytes] at this
    omega
  have hts:TS w po b off len V L R:=by
   rcases hpt with ⟨h1,h2,h3⟩ | ⟨ad,h1,h2⟩
   ·subst h2
    exact ⟨fun h=>by omega,fun h=>by omega,fun i hi=>by omega,fun i hi=>by omega,fun i hi=>by omega⟩
   ·rw [h1];exact h2
  refine ⟨⟨a,bi,dr,do_,db,doff,dl,dc,Dn,ao,ab,aoff,ac,al,po,b,off,len,cap,V,L,R⟩,by rw [ea,eb,ec,e3,e4,e5],⟨hts,hdn,h4,by simp only;omega,by simp only;omega⟩,h6,h3,h5⟩
end
end
def pkF (c n:Int):Int:=if c<0 then (-(c+1))%n else c%n
theorem XN {c n:Int} (h:0<n):0<=pkF c n/\pkF c n<n:=by
 unfold pkF
 split
 ·exact ⟨Int.emod_nonneg _ (by omega),Int.emod_lt_of_pos _ h⟩
 ·exact ⟨Int.emod_nonneg _ (by omega),Int.emod_lt_of_pos _ h⟩
def WD.mn (x:WD) (s:ByteArray):MN:=mnN x.rw (zy s).es (zy s).es.length
def WD.an (x:WD) (s:ByteArray):List Int×Int×Int:=((x.mn s).sv,Z5 (x.mn s).ttl 86400,nar (x.mn s).sc 0)
theorem jv {x:WD} (h:x.right=true):M.isA x.a=true/\0<=x.b/\x.b<=32/\0<=x.d/\x.d<4294967296/\YU x.V x.L x.R x.pl=true:=by
 have h1:ZX x.a x.b x.d=true/\YU x.V x.L x.R x.pl=true:=by simpa [WD.right,ZA] using h
 have h2:M.isA x.a=true/\0<=x.b/\x.b<=32/\0<=x.d/\x.d<4294967296:=by simpa [ZX] using h1.1
 exact ⟨h2.1,h2.2.1,h2.2.2.1,h2.2.2.2.1,h2.2.2.2.2,h1.2⟩
theorem zdB {V L R:Nat->Int} {n:Nat} (h:YU V L R n=true):∀ i,i<n->M.isP (V i) (L i)=true:=fun i hi=>by
 obtain ⟨_,_,hm⟩:=QX h
 have:n<=64/\M.okTo V L n=true:=by simpa [M.isMap] using hm
 exact (M.okTo_iff.1 this.2 i hi).1
theorem zeS {x:WD} (h:x.right=true):0<=x.rw.dep/\x.rw.dep<=32:=by
 obtain ⟨_,_,_,_,_,hp⟩:=jv h
 exact ⟨M.depTo_pos,M.depTo_le (fun i hi=>(M.isP_iff.1 (zdB hp i hi)).2.1)⟩
theorem zct {s:ByteArray} (h:za3 s=true):cpE s=0:=by simpa [za3] using h
theorem zbR {x:WD} {s:ByteArray} (hf:za3 s=true) (hr:x.right=true):∃ k:Nat,1<=k/\k<=(cpX s).length/\(∀ f:Int,0<=f->f<k->x.ru (cpX s) f=(11,[],0,0))/\(∀ f:Int,(k:Int)<=f->x.ru (cpX s) f=(0,x.an s)):=by
 obtain ⟨h1,h2,_,_⟩:=Q9 (zct hf)
 obtain ⟨k,hk,r1,r2,r3⟩:=zeB (W:=x.rw) h1 h2
 have e:∀ f:Int,0<=f->x.ru (cpX s) f=Yb x.rw (cpX s) f.toNat rt0:=fun f h0=>by
  unfold WD.ru ruF
  rw [if_neg (by omega),if_pos (show ZA x.a x.b x.d x.V x.L x.R x.pl=true from hr)];rfl
 refine ⟨k,r1,hk,fun f h0 hfk=>?_,fun f hfk=>?_⟩
 ·rw [e f h0];exact r2 f.toNat (by omega)
 ·rw [e f (by omega)];exact r3 f.toNat (by omega)
theorem zfh {x:WD} {s:ByteArray} (hf:za3 s=true) (hr:x.right=true):1<=(x.an s).2.1/\(x.an s).2.1<=86400/\0<=(x.an s).2.2/\(x.an s).2.2<=32/\(x.an s).2.1=(x.mn s).ttl/\(x.an s).2.2=(x.mn s).sc:=by
 obtain ⟨h1,_,_,_⟩:=Q9 (zct hf)
 obtain ⟨hp,hg⟩:=Q8 h1
 obtain ⟨d0,d1⟩:=zeS hr
 have hb:=zfc d0 d1 hg
 rw [Nat.sub_add_cancel hp] at hb
 have hb2:1<=(x.mn s).ttl/\(x.mn s).ttl<=86400/\0<=(x.mn s).sc/\(x.mn s).sc<=32:=hb
 unfold WD.an Z5 nar
 simp only
 refine ⟨?_,?_,?_,?_,?_,?_⟩
 all_goals (split<;>omega)
end Go.Proofs.YtaebngpoagjafaaGreat
