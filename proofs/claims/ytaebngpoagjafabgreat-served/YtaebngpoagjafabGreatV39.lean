import Derived.Test.YtaebngpoagjafabGreatV25
import Derived.Test.YtaebngpoagjafabGreatV34
import Derived.Test.YtaebngpoagjafabGreatV37
import Derived.Test.YtaebngpoagjafabGreatV38
set_option maxRecDepth 100000
set_option maxHeartbeats 3200000
namespace Go.Proofs.YtaebngpoagjafabGreat
open Obj renaming cells → Q
open Value renaming int → J, slice → O
open IntKind renaming i64 → Z
open Go.RowKit
attribute [local go_sem ↓] Go.wp_at_zero Go.wp_at_succ
theorem yU {w:World} {g:Nat} {x y z x' y' z':Value} {t:TypeId} (h:w.heap[g]?=some (Q #[x,y,z] t (0,0))):(((w.setCell ⟨g,0,none⟩ x').setCell ⟨g,1,none⟩ y').setCell ⟨g,2,none⟩ z').heap[g]?=some (Q #[x',y',z'] t (0,0)):=by
 rw [zM (zM (zM h))];rfl
theorem QI (a b d:Int) (do_ ao po:Option Addr) (dl dc ac pl pcp pb poff db doff ab aoff:Nat) (al:List (List Int)) (Dn:Nat->Int) (V L R:Nat->Int) (co:Option Addr) (cb coff cc:Nat) (C:List Int) (fuel:Int) (w:World) (hC:C.length<=140737488355328) (hf:fuel<=9223372036854775807) (hdl:dl<=9223372036854775806) (hln:al.length<=9223372036854775807) (hs:TS w po pb poff pl V L R) (hd:IS w do_ db doff dl Dn) (hal:AS w w.heap.size ao ab aoff al) (hcs:CS w w.heap.size co cb coff C) :
 Calls Tryz.prog 29 #[O co C.length cc,.agg #[J Z a,J Z b,J Z d,O do_ dl dc,O ao al.length ac,O po pl pcp],J Z fuel] w (xT w (ruF a b d Dn dl al V L R pl C fuel)):=by
 have HS:Hid _:=hs
 have HD:Hid _:=hd
 have HAS:Hid _:=hal
 have HCS:Hid _:=hcs
 have HBT:Hid _:=hcs.byt
 have HB0:Hid (Below w.heap.size w ((w.alloc (Q #[J Z a,J Z b,J Z d,O do_ dl dc,O ao al.length ac,O po pl pcp] 31)).alloc (Q #[O none 0 0,J Z 0,J Z 0] 42))):=((Below.refl _ _).alloc (Nat.le_refl _) _).alloc (by simp) _
 have HW0:Hid (((w.alloc (Q #[J Z a,J Z b,J Z d,O do_ dl dc,O ao al.length ac,O po pl pcp] 31)).alloc (Q #[O none 0 0,J Z 0,J Z 0] 42)).heap[w.heap.size]?=some (Q #[J Z a,J Z b,J Z d,O do_ dl dc,O ao al.length ac,O po pl pcp] 31 (0,0))):=by show _=_;rw [Below.heap_alloc _ _ _ (by simp)];exact heap_alloc_new w _
 have HR0:Hid (((w.alloc (Q #[J Z a,J Z b,J Z d,O do_ dl dc,O ao al.length ac,O po pl pcp] 31)).alloc (Q #[O none 0 0,J Z 0,J Z 0] 42)).heap[w.heap.size+1]?=some (Q #[O none 0 0,J Z 0,J Z 0] 42 (0,0))):=zy _ (by simp)
 have HRU:Hid (ruF a b d Dn dl al V L R pl C fuel=if fuel<0 then (9,[],0,0) else if ZV a b d V L R pl=true then YU (zcl a b d Dn dl al V L R pl) C fuel.toNat rt0 else (9,[],0,0)):=rfl
 -- the end,out of the result's block
 have HEND:Hid (∀ (we:World) (tm:Array Value) (x:Value) (t c n:Int),we.heap[w.heap.size+1]?=some (Q #[x,J Z t,J Z c] 42 (0,0))->tm.getD 6 undef=.pointer (some ⟨w.heap.size+1,0,none⟩)->tm.getD 7 undef=J Z n->xT w (ruF a b d Dn dl al V L R pl C fuel) (.returned (.tuple #[.agg #[x,J Z t,J Z c],J Z n])) we->bodyPost Tryz.prog Tryz.f29 (xT w (ruF a b d Dn dl al V L R pl C fuel)) .ret ⟨tm,[]⟩ we):=fun we tm x t c n h1 h2 h3 h4=>by
  refine bodyPost_ret (v:=.tuple #[.agg #[x,J Z t,J Z c],J Z n]) ?_ rfl h4
  rw [results_cell_tmp Tryz.results29,h2,h3]
  have h5:(asAddr (.pointer (some ⟨w.heap.size+1,0,none⟩))).run Tryz.prog we=.ok ⟨w.heap.size+1,0,none⟩ we:=rfl
  have h6:=run_loadVar_row (P:=Tryz.prog) we (w.heap.size+1) 42 42 #[x,J Z t,J Z c] (0,0) _ h1 Tryz.underlying42 rfl (by kernel_rfl)
  rw [h5,Result.andThen_ok,h6,Result.andThen_ok]
 clear hs hd hal hcs
 go_enter Tryz.func29,Tryz.ntmps29
 by_cases hfu:fuel<0
 ·have HE:Hid (ruF a b d Dn dl al V L R pl C fuel=(9,[],0,0)):=by show _=_;rw [HRU.out,if_pos hfu]
  go_wp2_with fail
  exact HEND.out _ _ _ _ _ _ HR0.out rfl rfl ⟨HB0.out,none,0,0,by rw [HE.out],fun _=>⟨rfl,rfl,rfl⟩,fun h=>by rw [HE.out] at h;cases h⟩
 ·have hfu':0<=fuel:=by omega
  obtain ⟨F,rfl⟩:∃ F:Nat,fuel=F:=⟨fuel.toNat,by omega⟩
  go_wp2_with fail
  refine (Q8 a b d do_ ao po dl dc al.length ac pl pcp pb poff V L R _ (HS.out.below HB0.out)).mono ?_
  rintro e w1 ⟨rfl,hb1⟩
  have HB1:Hid _:=HB0.out.trans (hb1.mono HB0.out.size)
  have HW1:Hid _:=(hb1.block _ (lt_of_block HW0.out)).trans HW0.out
  have HR1:Hid _:=(hb1.block _ (lt_of_block HR0.out)).trans HR0.out
  have hlt1:w.heap.size+1<w1.heap.size:=lt_of_block HR1.out
  clear hb1
  cases hr:ZV a b d V L R pl with
  | false =>
   have HE:Hid (ruF a b d Dn dl al V L R pl C F=(9,[],0,0)):=by show _=_;rw [HRU.out,if_neg (by omega),if_neg (by rw [hr];decide)]
   have y0:w1.cell? ⟨w.heap.size+1,0,none⟩=some (O none 0 0):=by rw [cell_of_row _ _ _ _ _ _ HR1.out];rfl
   have y1:w1.cell? ⟨w.heap.size+1,1,none⟩=some (J Z 0):=by rw [cell_of_row _ _ _ _ _ _ HR1.out];rfl
   have y2:w1.cell? ⟨w.heap.size+1,2,none⟩=some (J Z 0):=by rw [cell_of_row _ _ _ _ _ _ HR1.out];rfl
   have z0:w1.frozen? ⟨w.heap.size+1,0,none⟩=false:=by simp [World.frozen?,HR1.out]
   have z1:w1.frozen? ⟨w.heap.size+1,1,none⟩=false:=by simp [World.frozen?,HR1.out]
   have z2:w1.frozen? ⟨w.heap.size+1,2,none⟩=false:=by simp [World.frozen?,HR1.out]
   clear hr
   go_wp2_with fail
   exact HEND.out _ _ _ _ _ _ (yU HR1.out) rfl rfl ⟨((HB1.out.setCell (by simp only;omega) _).setCell (by simp only;omega) _).setCell (by simp only;omega) _,none,0,0,by rw [HE.out],fun _=>⟨rfl,rfl,rfl⟩,fun h=>by rw [HE.out] at h;cases h⟩
  | true =>
   have hrr:Zm a b d=true/\Zd V L R pl=true:=by simpa [ZV] using hr
   have hask:M.isA a=true/\0<=b/\b<=32/\0<=d/\d<4294967296:=by simpa [Zm] using hrr.1
   obtain ⟨hA,b0,b1,d0,d1⟩:=hask
   have HPL:Hid _:=hrr.2
   obtain ⟨W,HW⟩:∃ W,Hid (W=zcl a b d Dn dl al V L R pl):=⟨_,rfl⟩
   have HE:Hid (ruF a b d Dn dl al V L R pl C F=YU W C F rt0):=by show _=_;rw [HRU.out,if_neg (by omega),if_pos hr,Int.toNat_natCast,HW.out]
   have q0:w1.cell? ⟨w.heap.size,0,none⟩=some (J Z a):=by rw [cell_of_row _ _ _ _ _ _ HW1.out];rfl
   have q1:w1.cell? ⟨w.heap.size,1,none⟩=some (J Z b):=by rw [cell_of_row _ _ _ _ _ _ HW1.out];rfl
   have q2:w1.cell? ⟨w.heap.size,2,none⟩=some (J Z d):=by rw [cell_of_row _ _ _ _ _ _ HW1.out];rfl
   have q3:w1.cell? ⟨w.heap.size,3,none⟩=some (O do_ dl dc):=by rw [cell_of_row _ _ _ _ _ _ HW1.out];rfl
   have q4:w1.cell? ⟨w.heap.size,4,none⟩=some (O ao al.length ac):=by rw [cell_of_row _ _ _ _ _ _ HW1.out];rfl
   have q5:w1.cell? ⟨w.heap.size,5,none⟩=some (O po pl pcp):=by rw [cell_of_row _ _ _ _ _ _ HW1.out];rfl
   clear hr hrr
   go_wp2_with fail
   refine (zaq a b d do_ ao po dl dc al.length ac pl pcp pb poff db doff Dn V L R co C.length cc _ hA b0 b1 hdl HPL.out (HS.out.below HB1.out) (HD.out.below HB1.out HD.out.lt)).mono ?_
   rintro e w2 ⟨rfl,hb2⟩
   have HB2:Hid _:=HB1.out.trans (hb2.mono HB1.out.size)
   have HR2:Hid _:=(hb2.block _ hlt1).trans HR1.out
   have hlt2:w.heap.size+1<w2.heap.size:=lt_of_block HR2.out
   clear hb2 q0 q1 q2 q3 q4 q5
   -- the run's own block
   have HBC:Hid (Yn co C.length cc a b d Dn dl ao al.length ac V L R pl=yx (O co C.length cc) (J Z 0) (.bool false) (J Z W.addr) (J Z W.draw) (DA Dn dl) (O ao al.length ac) (J Z W.reg) (J Z W.dep) (O none 0 0) (J Z 86400) (J Z 0)):=by show _=_;rw [HW.out];rfl
   have HSZ:Hid ((Yn co C.length cc a b d Dn dl ao al.length ac V L R pl).size=75):=by show _=_;rw [HBC.out];exact YF (yL _ _)
   have HON:Hid (∀ v∈(Yn co C.length cc a b d Dn dl ao al.length ac V L R pl).toList,v.oneCell'=true):=by show ∀ v∈_,_;rw [HBC.out];exact XN rfl rfl rfl rfl rfl (jr _ _) rfl rfl rfl rfl rfl rfl
   generalize Yn co C.length cc a b d Dn dl ao al.length ac V L R pl=c at *
   obtain ⟨X,HXE⟩:∃ X,Hid (X=w2.alloc (Q c 118)):=⟨_,rfl⟩
   have hst:(storeCells ⟨w2.heap.size,0,none⟩ c.toList).run Tryz.prog (w2.alloc (Q Tryz.zeroCells118 118))=.ok () X:=by
    rw [HXE.out]
    exact run_storeCells_new (P:=Tryz.prog) w2 118 Tryz.zeroCells118 c (by rw [HSZ.out];kernel_rfl) (by rw [HSZ.out];rfl) (by
     rw [Array.all_eq_true_iff_forall_mem]
     intro v hv
     exact HON.out v (by simpa using hv))
   have hcs75:c.size=75:=HSZ.out
   have HXB:Hid (X.heap[w2.heap.size]?=some (Q c 118 (0,0))):=by show _=_;rw [HXE.out];exact heap_alloc_new _ _
   have HXL:Hid (Below (w.heap.size+2) w2 X):=by show Below _ _ _;rw [HXE.out];exact (Below.refl _ _).alloc (by omega) _
   have HKC:Hid (∀ k,k<w.heap.size->X.heap[k]?=w.heap[k]?):=fun k hk=>(HXL.out.block k (by omega)).trans (HB2.out.block k hk)
   have HM0:Hid (RM X (w.heap.size+2) w2.heap.size co cb coff cc C W (DA Dn dl) (O ao al.length ac) (O none 0 0) rt0):=by
    refine ⟨?_,yL _ _,fun i hi=>?_,World.ownsRow_nil _ _ _ _,by omega,?_⟩
    ·rw [HXB.out,HBC.out];rfl
    ·rw [Q9 _ _ _ hi,HW.out];rfl
    ·have h1:=HCS.out.of_kept HKC.out
     exact ⟨h1.at_,fun h=>by have:=h1.lt h;omega,h1.val,h1.byt⟩
   have HAL:Hid (W.al=al):=by show _=_;rw [HW.out];rfl
   have HA0:Hid (AS X (w.heap.size+2) ao ab aoff W.al):=by
    show AS _ _ _ _ _ _
    rw [HAL.out]
    have h1:=HAS.out.of_kept HKC.out
    exact ⟨h1.at_,fun h=>by have:=h1.lt h;omega,fun k l hl=>by
     obtain ⟨lo,lc,h2,h3⟩:=h1.val k l hl
     refine ⟨lo,lc,h2,fun h0=>?_⟩
     obtain ⟨lb,loff,h4,h5,h6⟩:=h3 h0
     exact ⟨lb,loff,h4,by omega,h6⟩,h1.len⟩
   have HDR:Hid (0<=W.draw):=by show _<=_;rw [HW.out];exact d0
   have HAD:Hid (0<=W.addr/\W.addr<4294967296):=by show _/\_;rw [HW.out];exact Jh (M.isA_iff.1 hA).1 (M.isA_iff.1 hA).2
   clear HBC HON
   go_wp2_with fail
   go_loopg [2] F (fun q y wr=>∃ (s:RT) (sv:Value),y=J Z q/\Hid (YU W C F rt0=YU W C q s)/\RM wr (w.heap.size+2) w2.heap.size co cb coff cc C W (DA Dn dl) (O ao al.length ac) sv s/\s.sv=[]/\s.r.p<=C.length+70000/\q<=F/\Below (w.heap.size+2) w2 wr)
   case atStart=>exact ⟨rt0,O none 0 0,rfl,rfl,HM0.out,rfl,by simp [rt0],Nat.le_refl _,HXL.out⟩
   case round =>
    obtain ⟨s,sv,rfl,HRF,hm,hsv,hsp,hqF,hbl⟩:=hrel
    have HM:Hid _:=hm
    have HSV:Hid _:=hsv
    have HBL:Hid _:=hbl
    have HAS2:Hid (AS wr (w.heap.size+2) ao ab aoff W.al):=HA0.out.of_kept (fun k hk=>(hbl.block k hk).trans (HXL.out.block k hk).symm)
    clear hm hsv hbl
    have HBW:Hid (Below w.heap.size w wr):=HB2.out.trans (HBL.out.mono (by omega))
    have HRW:Hid (wr.heap[w.heap.size+1]?=some (Q #[O none 0 0,J Z 0,J Z 0] 42 (0,0))):=(HBL.out.block _ (by omega)).trans HR2.out
    cases gk with
    | zero =>
     have HE2:Hid (ruF a b d Dn dl al V L R pl C F=(11,[],0,0)):=by show _=_;rw [HE.out,HRF.out];rfl
     have y0:wr.cell? ⟨w.heap.size+1,0,none⟩=some (O none 0 0):=by rw [cell_of_row _ _ _ _ _ _ HRW.out];rfl
     have y1:wr.cell? ⟨w.heap.size+1,1,none⟩=some (J Z 0):=by rw [cell_of_row _ _ _ _ _ _ HRW.out];rfl
     have y2:wr.cell? ⟨w.heap.size+1,2,none⟩=some (J Z 0):=by rw [cell_of_row _ _ _ _ _ _ HRW.out];rfl
     have z0:wr.frozen? ⟨w.heap.size+1,0,none⟩=false:=by simp [World.frozen?,HRW.out]
     have z1:wr.frozen? ⟨w.heap.size+1,1,none⟩=false:=by simp [World.frozen?,HRW.out]
     have z2:wr.frozen? ⟨w.heap.size+1,2,none⟩=false:=by simp [World.frozen?,HRW.out]
     go_wp2_with fail
     exact HEND.out _ _ _ _ _ _ (yU HRW.out) rfl rfl ⟨((HBW.out.setCell (by simp only;omega) _).setCell (by simp only;omega) _).setCell (by simp only;omega) _,none,0,0,by rw [HE2.out],fun _=>⟨rfl,rfl,rfl⟩,fun h=>by rw [HE2.out] at h;cases h⟩
    | succ f =>
     have hf0:(0:Int)<((f+1:Nat):Int):=by omega
     have hf1:((f+1:Nat):Int)-1=(f:Int):=by omega
     have HALM:Hid (RM wr (w.heap.size+2) w2.heap.size co cb coff cc C W (DA Dn dl) (O ao W.al.length ac) sv s):=by show RM _ _ _ _ _ _ _ _ _ _ _ _ _;rw [HAL.out];exact HM.out
     have hLn:W.al.length<=9223372036854775807:=by rw [HAL.out];exact hln
     have HSTEP:=zaJ (w.heap.size+2) w2.heap.size co cb coff cc C W (DA Dn dl) ao ab aoff ac sv s wr (by omega) HSV.out HDR.out HAD.out.1 HAD.out.2 HAS2.out hLn HALM.out
     rw [HAL.out] at HSTEP
     have HST2:Hid _:=HSTEP
     clear HSTEP
     have HPP:Hid ((zD W C s).1.r.b=false->(zD W C s).1.r.p<=C.length+70000):=fun h=>by have h1:=zch h;have h2:=zdi (W:=W) (s:=s) HBT.out;omega
     have HSS:Hid ((zD W C s).2=false->(zD W C s).1.sv=[]):=fun h=>(zcg h).trans HSV.out
     have HRN:Hid (YU W C (f+1) s=if (zD W C s).1.r.b=true then (10,[],0,0) else if (zD W C s).2=true then (0,(zD W C s).1.sv,(zD W C s).1.ttl,(zD W C s).1.sc) else YU W C f (zD W C s).1):=rfl
     generalize hST:zD W C s=st at *
     clear hST
     obtain ⟨t,over⟩:=st
     simp only at HPP HSS HRN
     go_wp2_with fail
     refine (Calls.mono HST2.out) ?_
     rintro e w4 ⟨rfl,⟨sv',hm4⟩,hb4⟩
     have HM4:Hid _:=hm4
     have HB4:Hid _:=HBL.out.trans hb4
     have HBW4:Hid (Below w.heap.size w w4):=HB2.out.trans (HB4.out.mono (by omega))
     have HR4:Hid (w4.heap[w.heap.size+1]?=some (Q #[O none 0 0,J Z 0,J Z 0] 42 (0,0))):=(HB4.out.block _ (by omega)).trans HR2.out
     have c2:=hm4.c2
     have y0:w4.cell? ⟨w.heap.size+1,0,none⟩=some (O none 0 0):=by rw [cell_of_row _ _ _ _ _ _ HR4.out];rfl
     have y1:w4.cell? ⟨w.heap.size+1,1,none⟩=some (J Z 0):=by rw [cell_of_row _ _ _ _ _ _ HR4.out];rfl
     have y2:w4.cell? ⟨w.heap.size+1,2,none⟩=some (J Z 0):=by rw [cell_of_row _ _ _ _ _ _ HR4.out];rfl
     have z0:w4.frozen? ⟨w.heap.size+1,0,none⟩=false:=by simp [World.frozen?,HR4.out]
     have z1:w4.frozen? ⟨w.heap.size+1,1,none⟩=false:=by simp [World.frozen?,HR4.out]
     have z2:w4.frozen? ⟨w.heap.size+1,2,none⟩=false:=by simp [World.frozen?,HR4.out]
     clear hm4 hb4
     cases hbad:t.r.b with
     | true =>
      have HE2:Hid (ruF a b d Dn dl al V L R pl C F=(10,[],0,0)):=by show _=_;rw [HE.out,HRF.out,HRN.out,if_pos hbad]
      rw [hbad] at c2
      clear hbad
      go_wp2_with fail
      exact HEND.out _ _ _ _ _ _ (yU HR4.out) rfl rfl ⟨((HBW4.out.setCell (by simp only;omega) _).setCell (by simp only;omega) _).setCell (by simp only;omega) _,none,0,0,by rw [HE2.out],fun _=>⟨rfl,rfl,rfl⟩,fun h=>by rw [HE2.out] at h;cases h⟩
     | false =>
      rw [hbad] at c2
      cases over with
      | true =>
       have HE2:Hid (ruF a b d Dn dl al V L R pl C F=(0,t.sv,t.ttl,t.sc)):=by show _=_;rw [HE.out,HRF.out,HRN.out,if_neg (by rw [hbad];decide),if_pos rfl]
       have c72:=HM4.out.c72
       have c73:=HM4.out.c73
       have c74:=HM4.out.c74
       obtain ⟨so,sk,hso,_⟩:=zY HM4.out.row
       subst hso
       clear hbad
       go_wp2_with fail
       refine HEND.out _ _ _ _ _ _ (yU HR4.out) rfl rfl ⟨((HBW4.out.setCell (by simp only;omega) _).setCell (by simp only;omega) _).setCell (by simp only;omega) _,so,t.sv.length,sk,by rw [HE2.out],fun h=>by rw [HE2.out] at h;exact absurd rfl h,fun _=>?_⟩
       rw [HE2.out]
       refine ⟨rfl,?_⟩
       have hrow:w4.ownsRow w.heap.size 3 1 (O so t.sv.length sk) t.sv.length (t.sv.map (J Z)):=yk HM4.out.row (by omega)
       have hne:(O so t.sv.length sk).ownBlock≠some (w.heap.size+1):=zs hrow HR4.out (by decide)
       refine zh hrow (fun g hg=>?_)
       have hgn:g≠w.heap.size+1:=fun e=>hne (by rw [<- e];exact hg)
       rw [za hgn,za hgn,za hgn]
      | false =>
       have HRF2:Hid (YU W C F rt0=YU W C f t):=by show _=_;rw [HRF.out,HRN.out,if_neg (by rw [hbad];decide),if_neg (by decide)]
       have hp4:=HPP.out hbad
       have hs4:=HSS.out rfl
       have HS4:Hid _:=hs4
       clear hbad hs4
       go_wp2_with fail
       go_roundg f
       case measure=>omega
       case rel=>exact ⟨t,sv',by go_num,HRF2,HM4.out,HS4.out,hp4,by omega,HB4.out⟩
theorem CS.wide {w:World} {base base':Nat} {co:Option Addr} {cb coff:Nat} {C:List Int} (h:CS w base co cb coff C) (hb:base<=base'):CS w base' co cb coff C:=⟨h.at_,fun h0=>by have:=h.lt h0;omega,h.val,h.byt⟩
def WD.ru (x:WD) (C:List Int) (fuel:Int):Int×(List Int×Int×Int):=ruF x.a x.b x.d x.Dn x.dl x.al x.V x.L x.R x.pl C fuel
def WD.right (x:WD):Bool:=ZV x.a x.b x.d x.V x.L x.R x.pl
def WD.rw (x:WD):RW:=zcl x.a x.b x.d x.Dn x.dl x.al x.V x.L x.R x.pl
theorem zc3 (x:WD) (co:Option Addr) (cb coff cc:Nat) (C:List Int) (fuel:Int) (w:World) (hC:C.length<=140737488355328) (hf:fuel<=9223372036854775807) (hx:x.In w) (hcs:CS w w.heap.size co cb coff C) :
 Calls Tryz.prog 46 #[O co C.length cc,x.val,J Z fuel] w (xT w (x.ru C fuel)):=by
 have HX:Hid _:=hx
 have HCS:Hid _:=hcs
 obtain ⟨R,HR⟩:∃ R,Hid (x.ru C fuel=R):=⟨_,rfl⟩
 have HRUN:Hid (∀ wz,x.In wz->CS wz wz.heap.size co cb coff C->Calls Tryz.prog 29 #[O co C.length cc,x.val,J Z fuel] wz (xT wz R)):=fun wz h1 h2=>by
  have:=QI x.a x.b x.d x.do_ x.ao x.po x.dl x.dc x.ac x.pl x.pcp x.pb x.poff x.db x.doff x.ab x.aoff x.al x.Dn x.V x.L x.R co cb coff cc C fuel wz hC hf h1.ndl h1.nal h1.ts h1.is_ h1.as_ h2
  rw [show ruF x.a x.b x.d x.Dn x.dl x.al x.V x.L x.R x.pl C fuel=R from HR.out] at this
  exact this
 rw [HR.out]
 clear hx hcs
 unfold WD.val at HRUN ⊢
 obtain ⟨xa,xb,xd,xdo,xdb,xdoff,xdl,xdc,xDn,xao,xab,xaoff,xac,xal,xpo,xpb,xpoff,xpl,xpcp,xV,xL,xR⟩:=x
 simp only at HRUN ⊢
 have HB0:Hid (Below w.heap.size w ((w.alloc (Q #[J Z xa,J Z xb,J Z xd,O xdo xdl xdc,O xao xal.length xac,O xpo xpl xpcp] 31)).alloc (Q #[O none 0 0,J Z 0,J Z 0] 42))):=((Below.refl _ _).alloc (Nat.le_refl _) _).alloc (by simp) _
 have HR0:Hid (((w.alloc (Q #[J Z xa,J Z xb,J Z xd,O xdo xdl xdc,O xao xal.length xac,O xpo xpl xpcp] 31)).alloc (Q #[O none 0 0,J Z 0,J Z 0] 42)).heap[w.heap.size+1]?=some (Q #[O none 0 0,J Z 0,J Z 0] 42 (0,0))):=zy _ (by simp)
 have HCALL:=HRUN.out _ (HX.out.below HB0.out) ((HCS.out.of_kept (fun b hb=>HB0.out.block b hb)).wide HB0.out.size)
 have hsz:((w.alloc (Q #[J Z xa,J Z xb,J Z xd,O xdo xdl xdc,O xao xal.length xac,O xpo xpl xpcp] 31)).alloc (Q #[O none 0 0,J Z 0,J Z 0] 42)).heap.size=w.heap.size+2:=by simp
 have HSZ:Hid _:=hsz
 clear hsz
 go_enter Tryz.func46,Tryz.ntmps46
 go_wp2_with fail
 refine HCALL.mono ?_
 rintro e w1 ⟨hb1,o,m,k,rfl,hne,heq⟩
 have HB1:Hid _:=HB0.out.trans (hb1.mono HB0.out.size)
 have HR1:Hid (w1.heap[w.heap.size+1]?=some (Q #[O none 0 0,J Z 0,J Z 0] 42 (0,0))):=(hb1.block _ (by rw [HSZ.out];omega)).trans HR0.out
 have HNE:Hid _:=hne
 have HEQ:Hid (R.1=0->m=R.2.1.length/\w1.ownsRow (w.heap.size+2) 3 1 (O o m k) R.2.1.length (R.2.1.map (J Z))):=by rw [HSZ.out] at heq;exact heq
 have y0:w1.cell? ⟨w.heap.size+1,0,none⟩=some (O none 0 0):=by rw [cell_of_row _ _ _ _ _ _ HR1.out];rfl
 have y1:w1.cell? ⟨w.heap.size+1,1,none⟩=some (J Z 0):=by rw [cell_of_row _ _ _ _ _ _ HR1.out];rfl
 have y2:w1.cell? ⟨w.heap.size+1,2,none⟩=some (J Z 0):=by rw [cell_of_row _ _ _ _ _ _ HR1.out];rfl
 have z0:w1.frozen? ⟨w.heap.size+1,0,none⟩=false:=by simp [World.frozen?,HR1.out]
 have z1:w1.frozen? ⟨w.heap.size+1,1,none⟩=false:=by simp [World.frozen?,HR1.out]
 have z2:w1.frozen? ⟨w.heap.size+1,2,none⟩=false:=by simp [World.frozen?,HR1.out]
 clear hb1 hne heq
 go_wp2_with fail
 have HBE:=yU (x':=O o m k) (y':=J Z R.2.2.1) (z':=J Z R.2.2.2) HR1.out
 refine bodyPost_ret (v:=.tuple #[.agg #[O o m k,J Z R.2.2.1,J Z R.2.2.2],J Z R.1]) ?_ rfl ⟨((HB1.out.setCell (by simp only;omega) _).setCell (by simp only;omega) _).setCell (by simp only;omega) _,o,m,k,rfl,HNE.out,fun h=>⟨(HEQ.out h).1,?_⟩⟩
 ·rw [results_cell_tmp Tryz.results46]
  have h5:∀ we:World,(asAddr (.pointer (some ⟨w.heap.size+1,0,none⟩))).run Tryz.prog we=.ok ⟨w.heap.size+1,0,none⟩ we:=fun _=>rfl
  have h6:=run_loadVar_row (P:=Tryz.prog) _ (w.heap.size+1) 42 42 #[O o m k,J Z R.2.2.1,J Z R.2.2.2] (0,0) _ HBE Tryz.underlying42 rfl (by kernel_rfl)
  show ((asAddr (.pointer (some ⟨w.heap.size+1,0,none⟩))).run Tryz.prog _).andThen _=_
  rw [h5,Result.andThen_ok,h6,Result.andThen_ok]
  rfl
 ·have hrow:=yk (HEQ.out h).2 (base':=w.heap.size) (by omega)
  have hne:(O o m k).ownBlock≠some (w.heap.size+1):=zs hrow HR1.out (by decide)
  refine zh hrow (fun g hg=>?_)
  have hgn:g≠w.heap.size+1:=fun e=>hne (by rw [<- e];exact hg)
  rw [za hgn,za hgn,za hgn]
end Go.Proofs.YtaebngpoagjafabGreat
