/-
  OUR OWN.
-/
import Derived.Test.YtaebngpoagjafaaGreatU38
import Derived.Test.YtaebngpoagjafaaGreatU39
import Derived.Test.YtaebngpoagjafaaGreatU23
import Derived.Test.YtaebngpoagjafaaGreatU26
import Derived.Test.YtaebngpoagjafaaGreatU35
set_option maxRecDepth 100000
namespace Go.Proofs.YtaebngpoagjafaaGreat
open Go.RowKit
theorem blk3_store {w:World} {g:Nat} {x y z x' y' z':Value} {t:TypeId} (h:w.heap[g]?=some (.cells #[x,y,z] t (0,0))):(((w.setCell ⟨g,0,none⟩ x').setCell ⟨g,1,none⟩ y').setCell ⟨g,2,none⟩ z').heap[g]?=some (.cells #[x',y',z'] t (0,0)):=by
 rw [blkN_set (blkN_set (blkN_set h))];rfl
attribute [local go_sem ↓] Go.wp_at_zero Go.wp_at_succ
set_option maxHeartbeats 3200000 in
theorem mRun_any (a b d:Int) (do_ ao po:Option Addr) (dl dc ac pl pcp pb poff db doff ab aoff:Nat) (al:List (List Int)) (Dn:Nat->Int) (V L R:Nat->Int) (co:Option Addr) (cb coff cc:Nat) (C:List Int) (fuel:Int) (w:World) (hC:C.length<=140737488355328) (hf:fuel<=9223372036854775807) (hdl:dl<=9223372036854775806) (hln:al.length<=9223372036854775807) (hs:TS w po pb poff pl V L R) (hd:IS w do_ db doff dl Dn) (hal:AS w w.heap.size ao ab aoff al) (hcs:CS w w.heap.size co cb coff C) :
   Calls Tryz.prog 41 #[.slice co C.length cc,.agg #[.int .i64 a,.int .i64 b,.int .i64 d,.slice do_ dl dc,.slice ao al.length ac,.slice po pl pcp],.int .i64 fuel] w (RuTo w (ruF a b d Dn dl al V L R pl C fuel)):=by
 have HS:Hid (TS w po pb poff pl V L R):=hs
 have HD:Hid (IS w do_ db doff dl Dn):=hd
 have HAS:Hid (AS w w.heap.size ao ab aoff al):=hal
 have HCS:Hid (CS w w.heap.size co cb coff C):=hcs
 have HBT:Hid (∀ x∈C,0<=x/\x<256):=hcs.byt
 have HB0:Hid (Below w.heap.size w ((w.alloc (.cells #[.int .i64 a,.int .i64 b,.int .i64 d,.slice do_ dl dc,.slice ao al.length ac,.slice po pl pcp] 30)).alloc (.cells #[.slice none 0 0,.int .i64 0,.int .i64 0] 35))):=((Below.refl _ _).alloc (Nat.le_refl _) _).alloc (by simp) _
 have HW0:Hid (((w.alloc (.cells #[.int .i64 a,.int .i64 b,.int .i64 d,.slice do_ dl dc,.slice ao al.length ac,.slice po pl pcp] 30)).alloc (.cells #[.slice none 0 0,.int .i64 0,.int .i64 0] 35)).heap[w.heap.size]?=some (.cells #[.int .i64 a,.int .i64 b,.int .i64 d,.slice do_ dl dc,.slice ao al.length ac,.slice po pl pcp] 30 (0,0))):=by show _=_;rw [Below.heap_alloc _ _ _ (by simp)];exact heap_alloc_new w _
 have HR0:Hid (((w.alloc (.cells #[.int .i64 a,.int .i64 b,.int .i64 d,.slice do_ dl dc,.slice ao al.length ac,.slice po pl pcp] 30)).alloc (.cells #[.slice none 0 0,.int .i64 0,.int .i64 0] 35)).heap[w.heap.size+1]?=some (.cells #[.slice none 0 0,.int .i64 0,.int .i64 0] 35 (0,0))):=heap_alloc_at _ (by simp)
 have HRU:Hid (ruF a b d Dn dl al V L R pl C fuel=if fuel<0 then (9,[],0,0) else if rightB a b d V L R pl=true then runF (rwOf a b d Dn dl al V L R pl) C fuel.toNat rt0 else (9,[],0,0)):=rfl
 -- the end,out of the result's block
 have HEND:Hid (∀ (we:World) (tm:Array Value) (x:Value) (t c n:Int),we.heap[w.heap.size+1]?=some (.cells #[x,.int .i64 t,.int .i64 c] 35 (0,0))->tm.getD 6 undef=.pointer (some ⟨w.heap.size+1,0,none⟩)->tm.getD 7 undef=.int .i64 n->RuTo w (ruF a b d Dn dl al V L R pl C fuel) (.returned (.tuple #[.agg #[x,.int .i64 t,.int .i64 c],.int .i64 n])) we->bodyPost Tryz.prog Tryz.f41 (RuTo w (ruF a b d Dn dl al V L R pl C fuel)) .ret ⟨tm,[]⟩ we):=fun we tm x t c n h1 h2 h3 h4=>by
   refine bodyPost_ret (v:=.tuple #[.agg #[x,.int .i64 t,.int .i64 c],.int .i64 n]) ?_ rfl h4
   rw [results_cell_tmp Tryz.results41,h2,h3]
   have h5:(asAddr (.pointer (some ⟨w.heap.size+1,0,none⟩))).run Tryz.prog we=.ok ⟨w.heap.size+1,0,none⟩ we:=rfl
   have h6:=run_loadVar_row (P:=Tryz.prog) we (w.heap.size+1) 35 35 #[x,.int .i64 t,.int .i64 c] (0,0) _ h1 Tryz.underlying35 rfl (by kernel_rfl)
   rw [h5,Result.andThen_ok,h6,Result.andThen_ok]
 clear hs hd hal hcs
 go_enter Tryz.func41,Tryz.ntmps41
 by_cases hfu:fuel<0
 · have HE:Hid (ruF a b d Dn dl al V L R pl C fuel=(9,[],0,0)):=by show _=_;rw [HRU.out,if_pos hfu]
   go_wp2_with fail
   exact HEND.out _ _ _ _ _ _ HR0.out rfl rfl ⟨HB0.out,none,0,0,by rw [HE.out],fun _=>⟨rfl,rfl,rfl⟩,fun h=>by rw [HE.out] at h;cases h⟩
 · have hfu':0<=fuel:=by omega
   obtain ⟨F,rfl⟩:∃ F:Nat,fuel=F:=⟨fuel.toNat,by omega⟩
   go_wp2_with fail
   refine (IsRight_any a b d do_ ao po dl dc al.length ac pl pcp pb poff V L R _ (HS.out.below HB0.out)).mono ?_
   rintro e w1 ⟨rfl,hb1⟩
   have HB1:Hid (Below w.heap.size w w1):=HB0.out.trans (hb1.mono HB0.out.size)
   have HW1:Hid (w1.heap[w.heap.size]?=some (.cells #[.int .i64 a,.int .i64 b,.int .i64 d,.slice do_ dl dc,.slice ao al.length ac,.slice po pl pcp] 30 (0,0))):=(hb1.block _ (lt_of_block HW0.out)).trans HW0.out
   have HR1:Hid (w1.heap[w.heap.size+1]?=some (.cells #[.slice none 0 0,.int .i64 0,.int .i64 0] 35 (0,0))):=(hb1.block _ (lt_of_block HR0.out)).trans HR0.out
   have hlt1:w.heap.size+1<w1.heap.size:=lt_of_block HR1.out
   clear hb1
   cases hr:rightB a b d V L R pl with
   | false =>
     have HE:Hid (ruF a b d Dn dl al V L R pl C F=(9,[],0,0)):=by show _=_;rw [HRU.out,if_neg (by omega),if_neg (by rw [hr];decide)]
     have y0:w1.cell? ⟨w.heap.size+1,0,none⟩=some (.slice none 0 0):=by rw [cell_of_row _ _ _ _ _ _ HR1.out];rfl
     have y1:w1.cell? ⟨w.heap.size+1,1,none⟩=some (.int .i64 0):=by rw [cell_of_row _ _ _ _ _ _ HR1.out];rfl
     have y2:w1.cell? ⟨w.heap.size+1,2,none⟩=some (.int .i64 0):=by rw [cell_of_row _ _ _ _ _ _ HR1.out];rfl
     have z0:w1.frozen? ⟨w.heap.size+1,0,none⟩=false:=by simp [World.frozen?,HR1.out]
     have z1:w1.frozen? ⟨w.heap.size+1,1,none⟩=false:=by simp [World.frozen?,HR1.out]
     have z2:w1.frozen? ⟨w.heap.size+1,2,none⟩=false:=by simp [World.frozen?,HR1.out]
     clear hr
     go_wp2_with fail
     exact HEND.out _ _ _ _ _ _ (blk3_store HR1.out) rfl rfl ⟨((HB1.out.setCell (by simp only;omega) _).setCell (by simp only;omega) _).setCell (by simp only;omega) _,none,0,0,by rw [HE.out],fun _=>⟨rfl,rfl,rfl⟩,fun h=>by rw [HE.out] at h;cases h⟩
   | true =>
     have hrr:askB a b d=true/\plcB V L R pl=true:=by simpa [rightB] using hr
     have hask:M.isA a=true/\0<=b/\b<=32/\0<=d/\d<4294967296:=by simpa [askB] using hrr.1
     obtain ⟨hA,b0,b1,d0,d1⟩:=hask
     have HPL:Hid (plcB V L R pl=true):=hrr.2
     obtain ⟨W,HW⟩:∃ W,Hid (W=rwOf a b d Dn dl al V L R pl):=⟨_,rfl⟩
     have HE:Hid (ruF a b d Dn dl al V L R pl C F=runF W C F rt0):=by show _=_;rw [HRU.out,if_neg (by omega),if_pos hr,Int.toNat_natCast,HW.out]
     have q0:w1.cell? ⟨w.heap.size,0,none⟩=some (.int .i64 a):=by rw [cell_of_row _ _ _ _ _ _ HW1.out];rfl
     have q1:w1.cell? ⟨w.heap.size,1,none⟩=some (.int .i64 b):=by rw [cell_of_row _ _ _ _ _ _ HW1.out];rfl
     have q2:w1.cell? ⟨w.heap.size,2,none⟩=some (.int .i64 d):=by rw [cell_of_row _ _ _ _ _ _ HW1.out];rfl
     have q3:w1.cell? ⟨w.heap.size,3,none⟩=some (.slice do_ dl dc):=by rw [cell_of_row _ _ _ _ _ _ HW1.out];rfl
     have q4:w1.cell? ⟨w.heap.size,4,none⟩=some (.slice ao al.length ac):=by rw [cell_of_row _ _ _ _ _ _ HW1.out];rfl
     have q5:w1.cell? ⟨w.heap.size,5,none⟩=some (.slice po pl pcp):=by rw [cell_of_row _ _ _ _ _ _ HW1.out];rfl
     clear hr hrr
     go_wp2_with fail
     refine (begin_any a b d do_ ao po dl dc al.length ac pl pcp pb poff db doff Dn V L R co C.length cc _ hA b0 b1 hdl HPL.out (HS.out.below HB1.out) (HD.out.below HB1.out HD.out.lt)).mono ?_
     rintro e w2 ⟨rfl,hb2⟩
     have HB2:Hid (Below w.heap.size w w2):=HB1.out.trans (hb2.mono HB1.out.size)
     have HR2:Hid (w2.heap[w.heap.size+1]?=some (.cells #[.slice none 0 0,.int .i64 0,.int .i64 0] 35 (0,0))):=(hb2.block _ hlt1).trans HR1.out
     have hlt2:w.heap.size+1<w2.heap.size:=lt_of_block HR2.out
     clear hb2 q0 q1 q2 q3 q4 q5
     -- the run's own block
     have HBC:Hid (begC co C.length cc a b d Dn dl ao al.length ac V L R pl=runC (.slice co C.length cc) (.int .i64 0) (.bool false) (.int .i64 W.addr) (.int .i64 W.draw) (DA Dn dl) (.slice ao al.length ac) (.int .i64 W.reg) (.int .i64 W.dep) (.slice none 0 0) (.int .i64 86400) (.int .i64 0)):=by show _=_;rw [HW.out];rfl
     have HSZ:Hid ((begC co C.length cc a b d Dn dl ao al.length ac V L R pl).size=75):=by show _=_;rw [HBC.out];exact runC_size (DA_size _ _)
     have HON:Hid (∀ v∈(begC co C.length cc a b d Dn dl ao al.length ac V L R pl).toList,v.oneCell'=true):=by show ∀ v∈_,_;rw [HBC.out];exact one_runC rfl rfl rfl rfl rfl (one_DA _ _) rfl rfl rfl rfl rfl rfl
     generalize begC co C.length cc a b d Dn dl ao al.length ac V L R pl=c at *
     obtain ⟨X,HXE⟩:∃ X,Hid (X=w2.alloc (.cells c 121)):=⟨_,rfl⟩
     have hst:(storeCells ⟨w2.heap.size,0,none⟩ c.toList).run Tryz.prog (w2.alloc (.cells Tryz.zeroCells121 121))=.ok () X:=by
       rw [HXE.out]
       exact run_storeCells_new (P:=Tryz.prog) w2 121 Tryz.zeroCells121 c (by rw [HSZ.out];kernel_rfl) (by rw [HSZ.out];rfl) (by
         rw [Array.all_eq_true_iff_forall_mem]
         intro v hv
         exact HON.out v (by simpa using hv))
     have hcs75:c.size=75:=HSZ.out
     have HXB:Hid (X.heap[w2.heap.size]?=some (.cells c 121 (0,0))):=by show _=_;rw [HXE.out];exact heap_alloc_new _ _
     have HXL:Hid (Below (w.heap.size+2) w2 X):=by show Below _ _ _;rw [HXE.out];exact (Below.refl _ _).alloc (by omega) _
     have HKC:Hid (∀ k,k<w.heap.size->X.heap[k]?=w.heap[k]?):=fun k hk=>(HXL.out.block k (by omega)).trans (HB2.out.block k hk)
     have HM0:Hid (RM X (w.heap.size+2) w2.heap.size co cb coff cc C W (DA Dn dl) (.slice ao al.length ac) (.slice none 0 0) rt0):=by
       refine ⟨?_,DA_size _ _,fun i hi=>?_,World.ownsRow_nil _ _ _ _,by omega,?_⟩
       · rw [HXB.out,HBC.out];rfl
       · rw [DA_at _ _ _ hi,HW.out];rfl
       · have h1:=HCS.out.of_kept HKC.out
         exact ⟨h1.at_,fun h=>by have:=h1.lt h;omega,h1.val,h1.byt⟩
     have HAL:Hid (W.al=al):=by show _=_;rw [HW.out];rfl
     have HA0:Hid (AS X (w.heap.size+2) ao ab aoff W.al):=by
       show AS _ _ _ _ _ _
       rw [HAL.out]
       have h1:=HAS.out.of_kept HKC.out
       exact ⟨h1.at_,fun h=>by have:=h1.lt h;omega,fun k l hl=>by
         obtain ⟨lo,lc,h2,h3⟩:=h1.val k l hl
         refine ⟨lo,lc,h2,fun h0=>?_⟩
         obtain ⟨lb,loff,h4,h5,h6⟩:=h3 h0
         exact ⟨lb,loff,h4,by omega,h6⟩,h1.len⟩
     have HDR:Hid (0<=W.draw):=by show _<=_;rw [HW.out];exact d0
     have HAD:Hid (0<=W.addr/\W.addr<4294967296):=by show _/\_;rw [HW.out];exact cutA_bd (M.isA_iff.1 hA).1 (M.isA_iff.1 hA).2
     clear HBC HON
     go_wp2_with fail
     go_loopg [2] F (fun q y wr=>∃ (s:RT) (sv:Value),y=.int .i64 q/\Hid (runF W C F rt0=runF W C q s)/\RM wr (w.heap.size+2) w2.heap.size co cb coff cc C W (DA Dn dl) (.slice ao al.length ac) sv s/\s.sv=[]/\s.r.p<=C.length+70000/\q<=F/\Below (w.heap.size+2) w2 wr)
     case atStart=>exact ⟨rt0,.slice none 0 0,rfl,rfl,HM0.out,rfl,by simp [rt0],Nat.le_refl _,HXL.out⟩
     case round =>
       obtain ⟨s,sv,rfl,HRF,hm,hsv,hsp,hqF,hbl⟩:=hrel
       have HM:Hid (RM wr (w.heap.size+2) w2.heap.size co cb coff cc C W (DA Dn dl) (.slice ao al.length ac) sv s):=hm
       have HSV:Hid (s.sv=[]):=hsv
       have HBL:Hid (Below (w.heap.size+2) w2 wr):=hbl
       have HAS2:Hid (AS wr (w.heap.size+2) ao ab aoff W.al):=HA0.out.of_kept (fun k hk=>(hbl.block k hk).trans (HXL.out.block k hk).symm)
       clear hm hsv hbl
       have HBW:Hid (Below w.heap.size w wr):=HB2.out.trans (HBL.out.mono (by omega))
       have HRW:Hid (wr.heap[w.heap.size+1]?=some (.cells #[.slice none 0 0,.int .i64 0,.int .i64 0] 35 (0,0))):=(HBL.out.block _ (by omega)).trans HR2.out
       cases gk with
       | zero =>
         have HE2:Hid (ruF a b d Dn dl al V L R pl C F=(11,[],0,0)):=by show _=_;rw [HE.out,HRF.out];rfl
         have y0:wr.cell? ⟨w.heap.size+1,0,none⟩=some (.slice none 0 0):=by rw [cell_of_row _ _ _ _ _ _ HRW.out];rfl
         have y1:wr.cell? ⟨w.heap.size+1,1,none⟩=some (.int .i64 0):=by rw [cell_of_row _ _ _ _ _ _ HRW.out];rfl
         have y2:wr.cell? ⟨w.heap.size+1,2,none⟩=some (.int .i64 0):=by rw [cell_of_row _ _ _ _ _ _ HRW.out];rfl
         have z0:wr.frozen? ⟨w.heap.size+1,0,none⟩=false:=by simp [World.frozen?,HRW.out]
         have z1:wr.frozen? ⟨w.heap.size+1,1,none⟩=false:=by simp [World.frozen?,HRW.out]
         have z2:wr.frozen? ⟨w.heap.size+1,2,none⟩=false:=by simp [World.frozen?,HRW.out]
         go_wp2_with fail
         exact HEND.out _ _ _ _ _ _ (blk3_store HRW.out) rfl rfl ⟨((HBW.out.setCell (by simp only;omega) _).setCell (by simp only;omega) _).setCell (by simp only;omega) _,none,0,0,by rw [HE2.out],fun _=>⟨rfl,rfl,rfl⟩,fun h=>by rw [HE2.out] at h;cases h⟩
       | succ f =>
         have hf0:(0:Int)<((f+1:Nat):Int):=by omega
         have hf1:((f+1:Nat):Int)-1=(f:Int):=by omega
         have HALM:Hid (RM wr (w.heap.size+2) w2.heap.size co cb coff cc C W (DA Dn dl) (.slice ao W.al.length ac) sv s):=by show RM _ _ _ _ _ _ _ _ _ _ _ _ _;rw [HAL.out];exact HM.out
         have hLn:W.al.length<=9223372036854775807:=by rw [HAL.out];exact hln
         have HSTEP:=step_run (w.heap.size+2) w2.heap.size co cb coff cc C W (DA Dn dl) ao ab aoff ac sv s wr (by omega) HSV.out HDR.out HAD.out.1 HAD.out.2 HAS2.out hLn HALM.out
         rw [HAL.out] at HSTEP
         have HST2:Hid (Calls Tryz.prog 65 #[.pointer (some ⟨w2.heap.size,0,none⟩)] wr fun e w'=>e=.returned (.bool (stepF W C s).2)/\(∃ sv',RM w' (w.heap.size+2) w2.heap.size co cb coff cc C W (DA Dn dl) (.slice ao al.length ac) sv' (stepF W C s).1)/\Below (w.heap.size+2) wr w'):=HSTEP
         clear HSTEP
         have HPP:Hid ((stepF W C s).1.r.b=false->(stepF W C s).1.r.p<=C.length+70000):=fun h=>by have h1:=step_in h;have h2:=step_p (W:=W) (s:=s) HBT.out;omega
         have HSS:Hid ((stepF W C s).2=false->(stepF W C s).1.sv=[]):=fun h=>(step_sv h).trans HSV.out
         have HRN:Hid (runF W C (f+1) s=if (stepF W C s).1.r.b=true then (10,[],0,0) else if (stepF W C s).2=true then (0,(stepF W C s).1.sv,(stepF W C s).1.ttl,(stepF W C s).1.sc) else runF W C f (stepF W C s).1):=rfl
         generalize hST:stepF W C s=st at *
         clear hST
         obtain ⟨t,over⟩:=st
         simp only at HPP HSS HRN
         go_wp2_with fail
         refine (Calls.mono HST2.out) ?_
         rintro e w4 ⟨rfl,⟨sv',hm4⟩,hb4⟩
         have HM4:Hid (RM w4 (w.heap.size+2) w2.heap.size co cb coff cc C W (DA Dn dl) (.slice ao al.length ac) sv' t):=hm4
         have HB4:Hid (Below (w.heap.size+2) w2 w4):=HBL.out.trans hb4
         have HBW4:Hid (Below w.heap.size w w4):=HB2.out.trans (HB4.out.mono (by omega))
         have HR4:Hid (w4.heap[w.heap.size+1]?=some (.cells #[.slice none 0 0,.int .i64 0,.int .i64 0] 35 (0,0))):=(HB4.out.block _ (by omega)).trans HR2.out
         have c2:=hm4.c2
         have y0:w4.cell? ⟨w.heap.size+1,0,none⟩=some (.slice none 0 0):=by rw [cell_of_row _ _ _ _ _ _ HR4.out];rfl
         have y1:w4.cell? ⟨w.heap.size+1,1,none⟩=some (.int .i64 0):=by rw [cell_of_row _ _ _ _ _ _ HR4.out];rfl
         have y2:w4.cell? ⟨w.heap.size+1,2,none⟩=some (.int .i64 0):=by rw [cell_of_row _ _ _ _ _ _ HR4.out];rfl
         have z0:w4.frozen? ⟨w.heap.size+1,0,none⟩=false:=by simp [World.frozen?,HR4.out]
         have z1:w4.frozen? ⟨w.heap.size+1,1,none⟩=false:=by simp [World.frozen?,HR4.out]
         have z2:w4.frozen? ⟨w.heap.size+1,2,none⟩=false:=by simp [World.frozen?,HR4.out]
         clear hm4 hb4
         cases hbad:t.r.b with
         | true =>
           have HE2:Hid (ruF a b d Dn dl al V L R pl C F=(10,[],0,0)):=by show _=_;rw [HE.out,HRF.out,HRN.out,if_pos hbad]
           rw [hbad] at c2
           clear hbad
           go_wp2_with fail
           exact HEND.out _ _ _ _ _ _ (blk3_store HR4.out) rfl rfl ⟨((HBW4.out.setCell (by simp only;omega) _).setCell (by simp only;omega) _).setCell (by simp only;omega) _,none,0,0,by rw [HE2.out],fun _=>⟨rfl,rfl,rfl⟩,fun h=>by rw [HE2.out] at h;cases h⟩
         | false =>
           rw [hbad] at c2
           cases over with
           | true =>
             have HE2:Hid (ruF a b d Dn dl al V L R pl C F=(0,t.sv,t.ttl,t.sc)):=by show _=_;rw [HE.out,HRF.out,HRN.out,if_neg (by rw [hbad];decide),if_pos rfl]
             have c72:=HM4.out.c72
             have c73:=HM4.out.c73
             have c74:=HM4.out.c74
             obtain ⟨so,sk,hso,_⟩:=owns_form HM4.out.row
             subst hso
             clear hbad
             go_wp2_with fail
             refine HEND.out _ _ _ _ _ _ (blk3_store HR4.out) rfl rfl ⟨((HBW4.out.setCell (by simp only;omega) _).setCell (by simp only;omega) _).setCell (by simp only;omega) _,so,t.sv.length,sk,by rw [HE2.out],fun h=>by rw [HE2.out] at h;exact absurd rfl h,fun _=>?_⟩
             rw [HE2.out]
             refine ⟨rfl,?_⟩
             have hrow:w4.ownsRow w.heap.size 3 1 (.slice so t.sv.length sk) t.sv.length (t.sv.map (Value.int .i64)):=owns_mono HM4.out.row (by omega)
             have hne:(Value.slice so t.sv.length sk).ownBlock≠some (w.heap.size+1):=owns_ne hrow HR4.out (by decide)
             refine owns_of_block hrow (fun g hg=>?_)
             have hgn:g≠w.heap.size+1:=fun e=>hne (by rw [<- e];exact hg)
             rw [heap_set_ne hgn,heap_set_ne hgn,heap_set_ne hgn]
           | false =>
             have HRF2:Hid (runF W C F rt0=runF W C f t):=by show _=_;rw [HRF.out,HRN.out,if_neg (by rw [hbad];decide),if_neg (by decide)]
             have hp4:=HPP.out hbad
             have hs4:=HSS.out rfl
             have HS4:Hid (t.sv=[]):=hs4
             clear hbad hs4
             go_wp2_with fail
             go_roundg f
             case measure=>omega
             case rel=>exact ⟨t,sv',by go_num,HRF2,HM4.out,HS4.out,hp4,by omega,HB4.out⟩
end Go.Proofs.YtaebngpoagjafaaGreat
namespace Go.Proofs.YtaebngpoagjafaaGreat
open Go.RowKit
structure WD where
 a:Int
 b:Int
 d:Int
 do_:Option Addr
 db:Nat
 doff:Nat
 dl:Nat
 dc:Nat
 Dn:Nat->Int
 ao:Option Addr
 ab:Nat
 aoff:Nat
 ac:Nat
 al:List (List Int)
 po:Option Addr
 pb:Nat
 poff:Nat
 pl:Nat
 pcp:Nat
 V:Nat->Int
 L:Nat->Int
 R:Nat->Int
def WD.val (x:WD):Value:=.agg #[.int .i64 x.a,.int .i64 x.b,.int .i64 x.d,.slice x.do_ x.dl x.dc,.slice x.ao x.al.length x.ac,.slice x.po x.pl x.pcp]
structure WD.In (x:WD) (w:World):Prop where
 ts:TS w x.po x.pb x.poff x.pl x.V x.L x.R
 is_:IS w x.do_ x.db x.doff x.dl x.Dn
 as_:AS w w.heap.size x.ao x.ab x.aoff x.al
 ndl:x.dl<=9223372036854775806
 nal:x.al.length<=9223372036854775807
theorem AS.wide {w:World} {base base':Nat} {ao:Option Addr} {ab aoff:Nat} {al:List (List Int)} (h:AS w base ao ab aoff al) (hb:base<=base'):AS w base' ao ab aoff al :=
 ⟨h.at_,fun h0=>by have:=h.lt h0;omega,fun k l hl=>by
   obtain ⟨lo,lc,h2,h3⟩:=h.val k l hl
   refine ⟨lo,lc,h2,fun h0=>?_⟩
   obtain ⟨lb,loff,h4,h5,h6⟩:=h3 h0
   exact ⟨lb,loff,h4,by omega,h6⟩,h.len⟩
theorem WD.In.below {x:WD} {w w':World} (h:x.In w) (hb:Below w.heap.size w w'):x.In w' :=
 ⟨h.ts.below hb,h.is_.below hb h.is_.lt,(h.as_.of_kept (fun b hl=>hb.block b hl)).wide hb.size,h.ndl,h.nal⟩
end Go.Proofs.YtaebngpoagjafaaGreat
namespace Go.Proofs.YtaebngpoagjafaaGreat
open Go.RowKit
theorem CS.wide {w:World} {base base':Nat} {co:Option Addr} {cb coff:Nat} {C:List Int} (h:CS w base co cb coff C) (hb:base<=base'):CS w base' co cb coff C:=⟨h.at_,fun h0=>by have:=h.lt h0;omega,h.val,h.byt⟩
def WD.ru (x:WD) (C:List Int) (fuel:Int):Int×(List Int×Int×Int):=ruF x.a x.b x.d x.Dn x.dl x.al x.V x.L x.R x.pl C fuel
def WD.right (x:WD):Bool:=rightB x.a x.b x.d x.V x.L x.R x.pl
def WD.rw (x:WD):RW:=rwOf x.a x.b x.d x.Dn x.dl x.al x.V x.L x.R x.pl
attribute [local go_sem ↓] Go.wp_at_zero Go.wp_at_succ
set_option maxHeartbeats 1600000 in
theorem Run_any (x:WD) (co:Option Addr) (cb coff cc:Nat) (C:List Int) (fuel:Int) (w:World) (hC:C.length<=140737488355328) (hf:fuel<=9223372036854775807) (hx:x.In w) (hcs:CS w w.heap.size co cb coff C) :
   Calls Tryz.prog 26 #[.slice co C.length cc,x.val,.int .i64 fuel] w (RuTo w (x.ru C fuel)):=by
 have HX:Hid (x.In w):=hx
 have HCS:Hid (CS w w.heap.size co cb coff C):=hcs
 obtain ⟨R,HR⟩:∃ R,Hid (x.ru C fuel=R):=⟨_,rfl⟩
 have HRUN:Hid (∀ wz,x.In wz->CS wz wz.heap.size co cb coff C->Calls Tryz.prog 41 #[.slice co C.length cc,x.val,.int .i64 fuel] wz (RuTo wz R)):=fun wz h1 h2=>by
   have:=mRun_any x.a x.b x.d x.do_ x.ao x.po x.dl x.dc x.ac x.pl x.pcp x.pb x.poff x.db x.doff x.ab x.aoff x.al x.Dn x.V x.L x.R co cb coff cc C fuel wz hC hf h1.ndl h1.nal h1.ts h1.is_ h1.as_ h2
   rw [show ruF x.a x.b x.d x.Dn x.dl x.al x.V x.L x.R x.pl C fuel=R from HR.out] at this
   exact this
 rw [HR.out]
 clear hx hcs
 unfold WD.val at HRUN ⊢
 obtain ⟨xa,xb,xd,xdo,xdb,xdoff,xdl,xdc,xDn,xao,xab,xaoff,xac,xal,xpo,xpb,xpoff,xpl,xpcp,xV,xL,xR⟩:=x
 simp only at HRUN ⊢
 have HB0:Hid (Below w.heap.size w ((w.alloc (.cells #[.int .i64 xa,.int .i64 xb,.int .i64 xd,.slice xdo xdl xdc,.slice xao xal.length xac,.slice xpo xpl xpcp] 30)).alloc (.cells #[.slice none 0 0,.int .i64 0,.int .i64 0] 35))):=((Below.refl _ _).alloc (Nat.le_refl _) _).alloc (by simp) _
 have HR0:Hid (((w.alloc (.cells #[.int .i64 xa,.int .i64 xb,.int .i64 xd,.slice xdo xdl xdc,.slice xao xal.length xac,.slice xpo xpl xpcp] 30)).alloc (.cells #[.slice none 0 0,.int .i64 0,.int .i64 0] 35)).heap[w.heap.size+1]?=some (.cells #[.slice none 0 0,.int .i64 0,.int .i64 0] 35 (0,0))):=heap_alloc_at _ (by simp)
 have HCALL:=HRUN.out _ (HX.out.below HB0.out) ((HCS.out.of_kept (fun b hb=>HB0.out.block b hb)).wide HB0.out.size)
 have hsz:((w.alloc (.cells #[.int .i64 xa,.int .i64 xb,.int .i64 xd,.slice xdo xdl xdc,.slice xao xal.length xac,.slice xpo xpl xpcp] 30)).alloc (.cells #[.slice none 0 0,.int .i64 0,.int .i64 0] 35)).heap.size=w.heap.size+2:=by simp
 have HSZ:Hid (((w.alloc (.cells #[.int .i64 xa,.int .i64 xb,.int .i64 xd,.slice xdo xdl xdc,.slice xao xal.length xac,.slice xpo xpl xpcp] 30)).alloc (.cells #[.slice none 0 0,.int .i64 0,.int .i64 0] 35)).heap.size=w.heap.size+2):=hsz
 clear hsz
 go_enter Tryz.func26,Tryz.ntmps26
 go_wp2_with fail
 refine HCALL.mono ?_
 rintro e w1 ⟨hb1,o,m,k,rfl,hne,heq⟩
 have HB1:Hid (Below w.heap.size w w1):=HB0.out.trans (hb1.mono HB0.out.size)
 have HR1:Hid (w1.heap[w.heap.size+1]?=some (.cells #[.slice none 0 0,.int .i64 0,.int .i64 0] 35 (0,0))):=(hb1.block _ (by rw [HSZ.out];omega)).trans HR0.out
 have HNE:Hid (R.1≠0->o=none/\m=0/\k=0):=hne
 have HEQ:Hid (R.1=0->m=R.2.1.length/\w1.ownsRow (w.heap.size+2) 3 1 (.slice o m k) R.2.1.length (R.2.1.map (Value.int .i64))):=by rw [HSZ.out] at heq;exact heq
 have y0:w1.cell? ⟨w.heap.size+1,0,none⟩=some (.slice none 0 0):=by rw [cell_of_row _ _ _ _ _ _ HR1.out];rfl
 have y1:w1.cell? ⟨w.heap.size+1,1,none⟩=some (.int .i64 0):=by rw [cell_of_row _ _ _ _ _ _ HR1.out];rfl
 have y2:w1.cell? ⟨w.heap.size+1,2,none⟩=some (.int .i64 0):=by rw [cell_of_row _ _ _ _ _ _ HR1.out];rfl
 have z0:w1.frozen? ⟨w.heap.size+1,0,none⟩=false:=by simp [World.frozen?,HR1.out]
 have z1:w1.frozen? ⟨w.heap.size+1,1,none⟩=false:=by simp [World.frozen?,HR1.out]
 have z2:w1.frozen? ⟨w.heap.size+1,2,none⟩=false:=by simp [World.frozen?,HR1.out]
 clear hb1 hne heq
 go_wp2_with fail
 have HBE:=blk3_store (x':=.slice o m k) (y':=.int .i64 R.2.2.1) (z':=.int .i64 R.2.2.2) HR1.out
 refine bodyPost_ret (v:=.tuple #[.agg #[.slice o m k,.int .i64 R.2.2.1,.int .i64 R.2.2.2],.int .i64 R.1]) ?_ rfl ⟨((HB1.out.setCell (by simp only;omega) _).setCell (by simp only;omega) _).setCell (by simp only;omega) _,o,m,k,rfl,HNE.out,fun h=>⟨(HEQ.out h).1,?_⟩⟩
 · rw [results_cell_tmp Tryz.results26]
   have h5:∀ we:World,(asAddr (.pointer (some ⟨w.heap.size+1,0,none⟩))).run Tryz.prog we=.ok ⟨w.heap.size+1,0,none⟩ we:=fun _=>rfl
   have h6:=run_loadVar_row (P:=Tryz.prog) _ (w.heap.size+1) 35 35 #[.slice o m k,.int .i64 R.2.2.1,.int .i64 R.2.2.2] (0,0) _ HBE Tryz.underlying35 rfl (by kernel_rfl)
   show ((asAddr (.pointer (some ⟨w.heap.size+1,0,none⟩))).run Tryz.prog _).andThen _=_
   rw [h5,Result.andThen_ok,h6,Result.andThen_ok]
   rfl
 · have hrow:=owns_mono (HEQ.out h).2 (base':=w.heap.size) (by omega)
   have hne:(Value.slice o m k).ownBlock≠some (w.heap.size+1):=owns_ne hrow HR1.out (by decide)
   refine owns_of_block hrow (fun g hg=>?_)
   have hgn:g≠w.heap.size+1:=fun e=>hne (by rw [<- e];exact hg)
   rw [heap_set_ne hgn,heap_set_ne hgn,heap_set_ne hgn]
end Go.Proofs.YtaebngpoagjafaaGreat
namespace Go.Proofs.YtaebngpoagjafaaGreat
open Go.RowKit
theorem nmF_dg (s:ByteArray) (b:Bool) (p:Nat):∀ n j,p<=j->(∀ i,p<=i->i<j->48<=T.ch s i/\T.ch s i<=57)->∀ i,p<=i->i<nmF s b n j->48<=T.ch s i/\T.ch s i<=57:=by
 intro n
 induction n with
 | zero=>intro j _ h i h1 h2;exact h i h1 h2
 | succ n ih =>
   intro j hj h i h1 h2
   simp only [nmF] at h2
   split at h2
   · rename_i hd
     obtain ⟨_,_,he⟩:=dig_here hd
     refine ih (j+1) (by omega) (fun q hq1 hq2=>?_) i h1 h2
     by_cases hqj:q<j
     · exact h q hq1 hqj
     · have:q=j:=by omega
       subst this
       rw [he] at hd
       exact (dig_iff _).1 hd
   · exact h i h1 h2
theorem vl_bd {s:ByteArray} {p:Nat}:∀ m,(∀ i,p<=i->i<p+m->48<=T.ch s i/\T.ch s i<=57)->0<=vl s p m/\vl s p m+1<=10 ^ m:=by
 intro m
 induction m with
 | zero=>intro _;simp [vl]
 | succ m ih =>
   intro h
   have h1:=ih (fun i a b=>h i a (by omega))
   have h2:=h (p+m) (by omega) (by omega)
   have h3:(10:Int) ^ (m+1)=10 ^ m*10:=Int.pow_succ _ _
   simp only [vl]
   omega
theorem numV_bd (s:ByteArray) (k:Nat) (b:Bool):0<=numV s k b/\numV s k b<=999999999:=by
 have hu:=nmF_up s b (nmL s (skipF s k b) b) (skipF s k b)
 have h9:nmL s (skipF s k b) b<=9:=by unfold nmL;split<;>omega
 have hd:=nmF_dg s b (skipF s k b) (nmL s (skipF s k b) b) (skipF s k b) (Nat.le_refl _) (fun i h1 h2=>by omega)
 have hk:numK s k b=nmF s b (nmL s (skipF s k b) b) (skipF s k b):=rfl
 rw [<- hk] at hd hu
 unfold numV
 have h1:=vl_bd (s:=s) (p:=skipF s k b) (numK s k b-skipF s k b) (fun i a c=>hd i a (by omega))
 have h2:(10:Int) ^ (numK s k b-skipF s k b)<=10 ^ 9:=by
   have:numK s k b-skipF s k b<=9:=by omega
   generalize numK s k b-skipF s k b=m at *
   have:m=0\/m=1\/m=2\/m=3\/m=4\/m=5\/m=6\/m=7\/m=8\/m=9:=by omega
   rcases this with rfl | rfl | rfl | rfl | rfl | rfl | rfl | rfl | rfl | rfl<;>decide
 have h3:(10:Int) ^ 9=1000000000:=by decide
 omega
theorem btF_dg (s:ByteArray) (b:Bool) (p:Nat):∀ n j,p<=j->(∀ i,p<=i->i<j->T.ch s i=48\/T.ch s i=49)->∀ i,p<=i->i<btF s b n j->T.ch s i=48\/T.ch s i=49:=by
 intro n
 induction n with
 | zero=>intro j _ h i h1 h2;exact h i h1 h2
 | succ n ih =>
   intro j hj h i h1 h2
   simp only [btF] at h2
   split at h2
   · rename_i hd
     obtain ⟨_,_,he⟩:=bit_here hd
     refine ih (j+1) (by omega) (fun q hq1 hq2=>?_) i h1 h2
     by_cases hqj:q<j
     · exact h q hq1 hqj
     · have:q=j:=by omega
       subst this
       rw [he] at hd
       simpa [bit] using hd
   · exact h i h1 h2
theorem btF_up2 (s:ByteArray) (b:Bool):∀ n j,btF s b n j<=j+n:=by
 intro n
 induction n with
 | zero=>intro j;simp [btF]
 | succ n ih => intro j; simp only [btF]; split
                · have:=ih (j+1);omega
                · omega
theorem bv_bd {s:ByteArray} {p:Nat}:∀ m,(∀ i,p<=i->i<p+m->T.ch s i=48\/T.ch s i=49)->0<=bv s p m/\bv s p m+1<=2 ^ m:=by
 intro m
 induction m with
 | zero=>intro _;simp [bv]
 | succ m ih =>
   intro h
   have h1:=ih (fun i a b=>h i a (by omega))
   have h2:=h (p+m) (by omega) (by omega)
   have h3:(2:Int) ^ (m+1)=2 ^ m*2:=Int.pow_succ _ _
   simp only [bv]
   omega
theorem btV_bd (s:ByteArray) (k:Nat) (b:Bool):0<=btV s k b/\btV s k b<4294967296/\btL s k b<=32:=by
 have hu:=btF_up2 s b 32 (skipF s k b)
 have hd:=btF_dg s b (skipF s k b) 32 (skipF s k b) (Nat.le_refl _) (fun i h1 h2=>by omega)
 have hk:btK s k b=btF s b 32 (skipF s k b):=rfl
 rw [<- hk] at hd hu
 have hl:btL s k b<=32:=by unfold btL;omega
 have h1:=bv_bd (s:=s) (p:=skipF s k b) (btL s k b) (fun i a c=>hd i a (by unfold btL at c;omega))
 unfold btV
 generalize btL s k b=m at *
 generalize bv s (skipF s k b) m=v at *
 have hp:(0:Int)<2 ^ (32-m):=Int.pow_pos (by decide)
 have h2:(2:Int) ^ m*2 ^ (32-m)=4294967296:=by
   rw [<- Int.pow_add,show m+(32-m)=32 from by omega];decide
 have h3:(v+1)*2 ^ (32-m)<=2 ^ m*2 ^ (32-m):=Int.mul_le_mul_of_nonneg_right h1.2 (by omega)
 rw [h2,Int.add_mul,Int.one_mul] at h3
 refine ⟨Int.mul_nonneg h1.1 (by omega),by omega,hl⟩
structure IB (kind:Int) (x:IM):Prop where
 num:0<=x.num/\x.num<=999999999
 pv:0<=x.pv/\x.pv<4294967296
 pl:0<=x.pl/\x.pl<=32
 wv:0<=x.wv/\x.wv<=999999999
 arm:kind≠109->kind≠103->x.arm=-1
 zp:kind≠109->x.pv=0/\x.pl=0
 zn:kind=109->x.num=0
structure EB (e:EX):Prop where
 kind:e.kind=123\/e.kind=119\/e.kind=102\/e.kind=109\/e.kind=103\/e.kind=116\/e.kind=64\/e.kind=61
 nv:0<=e.nv/\e.nv<=999999999
 it:∀ x∈e.items,IB e.kind x
 inn:e.kind=123\/e.kind=64->e.inner=-1
 emp:e.kind=64\/e.kind=116\/e.kind=61->e.items=[]
def AllB (l:List EX):Prop:=∀ e∈l,EB e
theorem AllB.app {a b:List EX} (h:AllB a) (k:AllB b):AllB (a++b):=fun e he=>(List.mem_append.1 he).elim (h e) (k e)
theorem AllB.one {e:EX} (h:EB e):AllB [e]:=fun x hx=>by simp at hx;subst hx;exact h
theorem AllB.nil:AllB []:=fun _ h=>by simp at h
theorem cItem_sh {ex:Int->Nat->Nat->Bool->CR} {s:ByteArray} (hX:∀ d m k b,AllB (ex d m k b).es) (kind d:Int) (m k:Nat) (b:Bool):AllB (cItem ex s kind d m k b).es/\IB kind (cItem ex s kind d m k b).im:=by
 unfold cItem
 simp only
 split
 · rename_i hk
   have:=btV_bd s (skipF s k b) b
   exact ⟨hX _ _ _ _,⟨by simp,by simp only;omega,by simp only;omega,by simp,fun h=>absurd hk h,fun h=>absurd hk h,fun _=>rfl⟩⟩
 · split
   · rename_i hk
     have:=numV_bd s (skipF s k b) b
     exact ⟨hX _ _ _ _,⟨by simp only;omega,by simp,by simp,by simp,fun _ h=>absurd hk h,fun _=>⟨rfl,rfl⟩,fun h=>by omega⟩⟩
   · have h1:=numV_bd s (skipF s k b) b
     split
     · have h2:=numV_bd s (takeK s 42 (numK s (skipF s k b) b) (numX s (skipF s k b) b)) (wantB s 42 (numK s (skipF s k b) b) (numX s (skipF s k b) b))
       exact ⟨AllB.nil,⟨by simp only;omega,by simp,by simp,by simp only;omega,fun _ _=>rfl,fun _=>⟨rfl,rfl⟩,fun h=>by omega⟩⟩
     · exact ⟨AllB.nil,⟨by simp only;omega,by simp,by simp,by simp,fun _ _=>rfl,fun _=>⟨rfl,rfl⟩,fun h=>by omega⟩⟩
theorem cItems_sh {ex:Int->Nat->Nat->Bool->CR} {s:ByteArray} (hX:∀ d m k b,AllB (ex d m k b).es) (kind d:Int):∀ (n m k:Nat) (b:Bool),AllB (cItems ex s kind d n m k b).es/\∀ x∈(cItems ex s kind d n m k b).ims,IB kind x:=by
 intro n
 induction n with
 | zero=>intro m k b;exact ⟨AllB.nil,fun x hx=>by simp [cItems] at hx⟩
 | succ n ih =>
   intro m k b
   have h1:=cItem_sh (s:=s) hX kind d m k b
   simp only [cItems]
   split
   · have h2:=ih (m+(cItem ex s kind d m k b).es.length) (takeK s 44 (cItem ex s kind d m k b).k (cItem ex s kind d m k b).b) (cItem ex s kind d m k b).b
     refine ⟨h1.1.app h2.1,fun x hx=>?_⟩
     rcases List.mem_cons.1 hx with rfl | hx
     · exact h1.2
     · exact h2.2 x hx
   · refine ⟨h1.1,fun x hx=>?_⟩
     simp only [List.mem_singleton] at hx
     subst hx
     exact h1.2
theorem cE_sh (s:ByteArray) (rs:List RL) (n:Nat):∀ d m k b,AllB (cE s rs n d m k b).es:=by
 induction n with
 | zero=>intro d m k b;exact AllB.nil
 | succ n ih =>
   intro d m k b
   have hb:=hereF_bd s (skipF s k b) b
   simp only [cE]
   split
   · exact AllB.nil
   · rename_i hk
     split
     · have h:=cItems_sh (s:=s) ih 123 d (s.size+1-(skipF s k b+1)) m (skipF s k b+1) b
       exact h.1.app (AllB.one ⟨.inl rfl,by simp,h.2,fun _=>rfl,fun h=>by simp at h⟩)
     · split
       · exact (ih _ _ _ _).app (AllB.one ⟨by simp,numV_bd _ _ _,fun x hx=>by simp at hx,fun h=>by simp at h,fun _=>rfl⟩)
       · split
         · exact AllB.one ⟨by simp,numV_bd _ _ _,fun x hx=>by simp at hx,fun _=>rfl,fun _=>rfl⟩
         · split
           · exact AllB.one ⟨by simp,by have:=hereF_bd s (skipF s (skipF s k b+1) b) b;simp only;omega,fun x hx=>by simp at hx,fun h=>by simp at h,fun _=>rfl⟩
           · rename_i h1 h2 h3 h4
             have h:=cItems_sh (s:=s) ih (hereF s (skipF s k b) b) d (s.size+1-takeK s 40 (skipF s k b+1) b) m (takeK s 40 (skipF s k b+1) b) (wantB s 40 (skipF s k b+1) b)
             have hkk:isK (hereF s (skipF s k b) b)=true:=by simpa using hk
             simp only [isK,Bool.or_eq_true,beq_iff_eq] at hkk
             exact (h.1.app (ih _ _ _ _)).app (AllB.one ⟨by simp only;omega,by simp,h.2,fun h=>by simp only at h;omega,fun h=>by simp only at h;omega⟩)
theorem cRules_sh (s:ByteArray):∀ (n:Nat) (rs:List RL) (m k:Nat) (b:Bool),AllB (cRules s n rs m k b).es:=by
 intro n
 induction n with
 | zero=>intro rs m k b;exact AllB.nil
 | succ n ih =>
   intro rs m k b
   simp only [cRules]
   split
   · exact AllB.app (cE_sh s rs _ _ _ _ _) (ih _ _ _ _)
   · exact cE_sh s rs _ _ _ _ _
theorem cAll_sh (s:ByteArray):AllB (cAll s).es:=cRules_sh s _ _ _ _ _
end Go.Proofs.YtaebngpoagjafaaGreat
