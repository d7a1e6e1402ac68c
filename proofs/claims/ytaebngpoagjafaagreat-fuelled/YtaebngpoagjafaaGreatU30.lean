/-
  OUR OWN.
-/
import Derived.Test.YtaebngpoagjafaaGreatU29
import Derived.Test.YtaebngpoagjafaaGreatU26
import Derived.Test.YtaebngpoagjafaaGreatU23
set_option maxRecDepth 100000
namespace Go.Proofs.YtaebngpoagjafaaGreat
open Go.RowKit
attribute [local go_sem ↓] Go.wp_at_zero Go.wp_at_succ
set_option maxHeartbeats 3200000 in
theorem prefixes_run (base B:Nat) (co:Option Addr) (cb coff cc:Nat) (C:List Int) (W:RW) (D:Array Value) (av sv:Value) (s:RT) (w:World) (hp:s.r.p<=900000000000000000-10000) (a0:0<=W.addr) (a1:W.addr<4294967296) (h:RM w base B co cb coff cc C W D av sv s) :
   Calls Tryz.prog 118 #[.pointer (some ⟨B,0,none⟩)] w fun e w'=>e=.returned (.tuple #[])/\RM w' base B co cb coff cc C W D av sv (stPrefixes W C s)/\Below base w w':=by
 obtain ⟨i0,hi0,hz0,hz1,hz2⟩:=info_parts Tryz.infoInt
 obtain ⟨j0,hj0,hy0,hy1,hy2⟩:=info_parts Tryz.infoPrefix
 have H:Hid (RM w base B co cb coff cc C W D av sv s):=h
 have HBT:Hid (∀ x∈C,0<=x/\x<256):=h.code.byt
 have HBS:Hid (base<=w.heap.size):=h.bs
 have HHB:Hid (base<=B):=h.hB
 clear h
 go_enter Tryz.func118,Tryz.ntmps118
 go_wp2_with fail
 refine (count_any base B co cb coff cc C W D av sv s _ (by omega) H.out).mono ?_
 rintro e w1 ⟨rfl,hm,hv⟩
 have HM1:Hid (RM ((w1.alloc (.cells #[] 99)).alloc (.cells #[] 3)) base B co cb coff cc C W D av sv ⟨cnR C s.r,s.sv,s.ttl,s.sc⟩):=(hm.alloc _).alloc _
 have HB1:Hid (Below base w ((w1.alloc (.cells #[] 99)).alloc (.cells #[] 3))):=((hv.below HHB.out HBS.out).alloc hm.bs _).alloc (hm.alloc _).bs _
 have HA1:Hid (((w1.alloc (.cells #[] 99)).alloc (.cells #[] 3)).ownsRow base 99 2 (.slice (some ⟨w1.heap.size,0,none⟩) 0 0) 0 []):=by
   refine World.ownsRow.alloc ?_ _
   exact ⟨rfl,.inr ⟨w1.heap.size,0,#[],rfl,hm.bs,heap_alloc_at _ rfl,Nat.le_refl _,by decide,rfl,rfl⟩⟩
 have HW1:Hid (((w1.alloc (.cells #[] 99)).alloc (.cells #[] 3)).ownsRow base 3 1 (.slice (some ⟨w1.heap.size+1,0,none⟩) 0 0) 0 []):=⟨rfl,.inr ⟨w1.heap.size+1,0,#[],rfl,by have:=hm.bs;omega,heap_alloc_at _ (by simp),Nat.le_refl _,by decide,rfl,rfl⟩⟩
 have HD1:Hid (∀ b,sv.ownBlock=some b->b≠w1.heap.size+1):=fun b hb=>by have:=(hm.row.lt b hb).2;omega
 clear hm hv
 obtain ⟨hcn,hc255⟩:=cnN_bd HBT.out s.r
 rw [hcn]
 have hcp:=num_p C s.r 1 1 16
 have HST:Hid (stPrefixes W C s=⟨⟨(amR C (cnR C s.r) (cnN C s.r)).p+(if M.bestTo (arV C (cnR C s.r)) (arL C (cnR C s.r)) W.addr (cnN C s.r)<0 then 0 else (arW C (cnR C s.r) (M.bestTo (arV C (cnR C s.r)) (arL C (cnR C s.r)) W.addr (cnN C s.r)).toNat).toNat),(amR C (cnR C s.r) (cnN C s.r)).b⟩,s.sv,s.ttl,nar (M.depTo (arV C (cnR C s.r)) (arL C (cnR C s.r)) W.addr (cnN C s.r)) s.sc⟩):=rfl
 have hcp2:(cnR C s.r).p<=s.r.p+1:=hcp.2
 generalize cnN C s.r=n at *
 generalize cnR C s.r=r at *
 clear hcn hcp
 go_wp2_with fail
 go_loopg [3,4,5] n (fun q u v y wr=>∃ (i:Nat) (wo:Option Addr) (wc:Nat),q+i=n/\v=.slice wo (amW C r i).length wc/\y=.int .i64 i/\RM wr base B co cb coff cc C W D av sv ⟨amR C r i,s.sv,s.ttl,s.sc⟩/\wr.ownsRow base 99 2 u (amA C r i).length (mbC (amA C r i))/\wr.ownsRow base 3 1 (.slice wo (amW C r i).length wc) (amW C r i).length ((amW C r i).map (Value.int .i64))/\(∀ b,sv.ownBlock=some b->(Value.slice wo (amW C r i).length wc).ownBlock≠some b)/\Below base w wr)
 case atStart=>exact ⟨0,some ⟨w1.heap.size+1,0,none⟩,0,by omega,rfl,rfl,HM1.out,HA1.out,HW1.out,fun b hb e=>HD1.out b hb (by simpa [Value.ownBlock] using e.symm),HB1.out⟩
 case round =>
   obtain ⟨i,wo,wc,hq,rfl,rfl,hm,hu,hw,hdis,hb⟩:=hrel
   have HM:Hid (RM wr base B co cb coff cc C W D av sv ⟨amR C r i,s.sv,s.ttl,s.sc⟩):=hm
   have HU:Hid (wr.ownsRow base 99 2 u3 (amA C r i).length (mbC (amA C r i))):=hu
   have HW:Hid (wr.ownsRow base 3 1 (.slice wo (amW C r i).length wc) (amW C r i).length ((amW C r i).map (Value.int .i64))):=hw
   have HD:Hid (∀ b,sv.ownBlock=some b->(Value.slice wo (amW C r i).length wc).ownBlock≠some b):=hdis
   have HUB:Hid (u3.ownBlock≠some B):=owns_ne hu hm.blk (by decide)
   have HWB:Hid ((Value.slice wo (amW C r i).length wc).ownBlock≠some B):=owns_ne hw hm.blk (by decide)
   have HB:Hid (Below base w wr):=hb
   clear hm hb hu hw hdis
   have hpi:=amR_p C r i
   have HALN:Hid ((amA C r i).length=i):=amA_len C r i
   have HWLN:Hid ((amW C r i).length=i):=amW_len C r i
   by_cases hlt:i<n
   · have hlt':(i:Int)<(n:Int):=by omega
     have hn1:=num_p C (amR C r i) 4 0 4294967295
     have hn2:=num_p C (amV C (amR C r i)) 1 0 32
     have hn5:(amV C (amR C r i)).p=(num C (amR C r i) 4 0 4294967295).p:=rfl
     have hn4:(amL C (amR C r i)).p=(num C (amV C (amR C r i)) 1 0 32).p:=rfl
     have hbs:base<=wr.heap.size:=HM.out.bs
     -- the arm's own block
     have HMA:Hid (RM (wr.alloc (.cells #[.int .i64 0,.int .i64 0] 99)) base B co cb coff cc C W D av sv ⟨amR C r i,s.sv,s.ttl,s.sc⟩):=HM.out.alloc _
     have HPA:Hid ((wr.alloc (.cells #[.int .i64 0,.int .i64 0] 99)).heap[wr.heap.size]?=some (.cells #[.int .i64 0,.int .i64 0] 99 (0,0))):=heap_alloc_new wr _
     have HPB:Hid (wr.heap.size≠B):=fun e=>by have:=HM.out.lt;omega
     have HSV:Hid (∀ g,sv.ownBlock=some g->g<wr.heap.size):=fun g hg=>(HM.out.row.lt g hg).2
     go_wp2_with fail
     refine (readN_any base B co cb coff cc C W D av sv _ 4 0 4294967295 4 _ rfl (by decide) (by simp only;omega) HMA.out).mono ?_
     rintro e w2 ⟨rfl,hm2,hv2⟩
     have HM2:Hid (RM w2 base B co cb coff cc C W D av sv ⟨amV C (amR C r i),s.sv,s.ttl,s.sc⟩):=hm2
     have HK2:Hid (∀ b,b<wr.heap.size->b≠B->w2.heap[b]?=wr.heap[b]?):=fun b hb hn=>(hv2.kept b (by simp;omega) hn).trans (Below.heap_alloc _ _ _ hb)
     have hp2:w2.heap[wr.heap.size]?=some (.cells #[.int .i64 0,.int .i64 0] 99 (0,0)):=(hv2.kept _ (by simp) HPB.out).trans HPA.out
     have HP2:Hid (w2.heap[wr.heap.size]?=some (.cells #[.int .i64 0,.int .i64 0] 99 (0,0))):=hp2
     have HBB2:Hid (Below base w w2):=(HB.out.alloc hbs _).trans (hv2.below HHB.out HMA.out.bs)
     have x0:w2.cell? ⟨wr.heap.size,0,none⟩=some (.int .i64 0):=by rw [cell_of_row _ _ _ _ _ _ hp2];rfl
     have f0:w2.frozen? ⟨wr.heap.size,0,none⟩=false:=by simp [World.frozen?,hp2]
     clear hm2 hv2 hp2
     simp only
     have HVV:Hid (arV C r i=rdN C (amR C r i) 4):=rfl
     have hvb:=rdN4_bd HBT.out (amR C r i)
     generalize rdN C (amR C r i) 4=v at *
     go_wp2_with fail
     -- the value is stored
     have HM3:Hid (RM (w2.setCell ⟨wr.heap.size,0,none⟩ (.int .i64 v)) base B co cb coff cc C W D av sv ⟨amV C (amR C r i),s.sv,s.ttl,s.sc⟩):=HM2.out.keep (heap_set_ne HPB.out.symm) (fun g hg=>heap_set_ne (by have:=HSV.out g hg;omega)) (fun b hb=>heap_set_ne (by omega))
     have HP3:Hid ((w2.setCell ⟨wr.heap.size,0,none⟩ (.int .i64 v)).heap[wr.heap.size]?=some (.cells #[.int .i64 v,.int .i64 0] 99 (0,0))):=by show _=_;rw [blkN_set HP2.out];rfl
     have HK3:Hid (∀ b,b<wr.heap.size->b≠B->(w2.setCell ⟨wr.heap.size,0,none⟩ (.int .i64 v)).heap[b]?=wr.heap[b]?):=fun b hb hn=>(heap_set_ne (by omega)).trans (HK2.out b hb hn)
     have HBB3:Hid (Below base w (w2.setCell ⟨wr.heap.size,0,none⟩ (.int .i64 v))):=HBB2.out.setCell hbs _
     clear x0 f0
     generalize w2.setCell ⟨wr.heap.size,0,none⟩ (.int .i64 v)=w3 at *
     refine (readN_any base B co cb coff cc C W D av sv _ 1 0 32 1 _ rfl (by decide) (by simp only;omega) HM3.out).mono ?_
     rintro e w4 ⟨rfl,hm4,hv4⟩
     have HM4:Hid (RM w4 base B co cb coff cc C W D av sv ⟨num C (amV C (amR C r i)) 1 0 32,s.sv,s.ttl,s.sc⟩):=hm4
     have hs3:wr.heap.size<w3.heap.size:=lt_of_block HP3.out
     have HK4:Hid (∀ b,b<wr.heap.size->b≠B->w4.heap[b]?=wr.heap[b]?):=fun b hb hn=>(hv4.kept b (by omega) hn).trans (HK3.out b hb hn)
     have hp4:w4.heap[wr.heap.size]?=some (.cells #[.int .i64 v,.int .i64 0] 99 (0,0)):=(hv4.kept _ hs3 HPB.out).trans HP3.out
     have HP4:Hid (w4.heap[wr.heap.size]?=some (.cells #[.int .i64 v,.int .i64 0] 99 (0,0))):=hp4
     have HBB4:Hid (Below base w w4):=HBB3.out.trans (hv4.below HHB.out HM3.out.bs)
     have x1:w4.cell? ⟨wr.heap.size,1,none⟩=some (.int .i64 0):=by rw [cell_of_row _ _ _ _ _ _ hp4];rfl
     have f1:w4.frozen? ⟨wr.heap.size,1,none⟩=false:=by simp [World.frozen?,hp4]
     have y0:w4.cell? ⟨wr.heap.size,0,none⟩=some (.int .i64 v):=by rw [cell_of_row _ _ _ _ _ _ hp4];rfl
     clear hm4 hv4 hp4
     simp only
     have HLL:Hid (arL C r i=rdN C (amV C (amR C r i)) 1):=rfl
     have HAL:Hid (amL C (amR C r i)=⟨(num C (amV C (amR C r i)) 1 0 32).p,if M.isP (arV C r i) (rdN C (amV C (amR C r i)) 1)=true then (num C (amV C (amR C r i)) 1 0 32).b else true⟩):=rfl
     have hlb:=rdN1_bd HBT.out (amV C (amR C r i))
     generalize rdN C (amV C (amR C r i)) 1=l at *
     rw [HVV.out] at HAL
     go_wp2_with fail
     have HM5:Hid (RM (w4.setCell ⟨wr.heap.size,1,none⟩ (.int .i64 l)) base B co cb coff cc C W D av sv ⟨num C (amV C (amR C r i)) 1 0 32,s.sv,s.ttl,s.sc⟩):=HM4.out.keep (heap_set_ne HPB.out.symm) (fun g hg=>heap_set_ne (by have:=HSV.out g hg;omega)) (fun b hb=>heap_set_ne (by omega))
     have HP5:Hid ((w4.setCell ⟨wr.heap.size,1,none⟩ (.int .i64 l)).heap[wr.heap.size]?=some (.cells #[.int .i64 v,.int .i64 l] 99 (0,0))):=by show _=_;rw [blkN_set HP4.out];rfl
     have HK5:Hid (∀ b,b<wr.heap.size->b≠B->(w4.setCell ⟨wr.heap.size,1,none⟩ (.int .i64 l)).heap[b]?=wr.heap[b]?):=fun b hb hn=>(heap_set_ne (by omega)).trans (HK4.out b hb hn)
     have HBB5:Hid (Below base w (w4.setCell ⟨wr.heap.size,1,none⟩ (.int .i64 l))):=HBB4.out.setCell hbs _
     clear x1 f1 y0
     generalize w4.setCell ⟨wr.heap.size,1,none⟩ (.int .i64 l)=w5 at *
     refine (IsPrefix_any v l _).mono ?_
     rintro e w6 ⟨rfl,hb6⟩
     have hs5:wr.heap.size<w5.heap.size:=lt_of_block HP5.out
     have HM6:Hid (RM w6 base B co cb coff cc C W D av sv ⟨num C (amV C (amR C r i)) 1 0 32,s.sv,s.ttl,s.sc⟩):=HM5.out.keep (hb6.block _ HM5.out.lt) (fun g hg=>hb6.block g (by have:=HSV.out g hg;omega)) (fun b hb=>hb6.block b (by omega))
     have hp6:w6.heap[wr.heap.size]?=some (.cells #[.int .i64 v,.int .i64 l] 99 (0,0)):=(hb6.block _ hs5).trans HP5.out
     have HP6:Hid (w6.heap[wr.heap.size]?=some (.cells #[.int .i64 v,.int .i64 l] 99 (0,0))):=hp6
     have HK6:Hid (∀ b,b<wr.heap.size->b≠B->w6.heap[b]?=wr.heap[b]?):=fun b hb hn=>(hb6.block b (by omega)).trans (HK5.out b hb hn)
     have HBB6:Hid (Below base w w6):=HBB5.out.trans (hb6.mono (by have:=HM5.out.bs;omega))
     have y0:w6.cell? ⟨wr.heap.size,0,none⟩=some (.int .i64 v):=by rw [cell_of_row _ _ _ _ _ _ hp6];rfl
     have y1:w6.cell? ⟨wr.heap.size,1,none⟩=some (.int .i64 l):=by rw [cell_of_row _ _ _ _ _ _ hp6];rfl
     have c2:=HM6.out.c2
     have z2:=HM6.out.fz 2
     clear hb6 hp6
     -- bad or not: the run behind it
     obtain ⟨w7,HW7,HM7,HP7,HK7,HBB7⟩:∃ w7,Hid (w7=if M.isP v l=true then w6 else w6.setCell ⟨B,2,none⟩ (.bool true))/\Hid (RM w7 base B co cb coff cc C W D av sv ⟨amL C (amR C r i),s.sv,s.ttl,s.sc⟩)/\Hid (w7.heap[wr.heap.size]?=some (.cells #[.int .i64 v,.int .i64 l] 99 (0,0)))/\Hid (∀ b,b<wr.heap.size->b≠B->w7.heap[b]?=wr.heap[b]?)/\Hid (Below base w w7):=by
       by_cases hP:M.isP v l=true
       · refine ⟨w6,by show _=_;rw [if_pos hP],?_,HP6,HK6,HBB6⟩
         show RM _ _ _ _ _ _ _ _ _ _ _ _ _
         rw [HAL.out,if_pos hP]
         exact HM6.out
       · refine ⟨w6.setCell ⟨B,2,none⟩ (.bool true),by show _=_;rw [if_neg hP],?_,?_,fun b hb hn=>(heap_set_ne hn).trans (HK6.out b hb hn),HBB6.out.setCell HHB.out _⟩
         · show RM _ _ _ _ _ _ _ _ _ _ _ _ _
           rw [HAL.out,if_neg hP]
           exact HM6.out.bad true
         · show _=_
           rw [heap_set_ne HPB.out]
           exact HP6.out
     have v0:w7.cell? ⟨wr.heap.size,0,none⟩=some (.int .i64 v):=by rw [cell_of_row _ _ _ _ _ _ HP7.out];rfl
     have v1:w7.cell? ⟨wr.heap.size,1,none⟩=some (.int .i64 l):=by rw [cell_of_row _ _ _ _ _ _ HP7.out];rfl
     have HU7:Hid (w7.ownsRow base 99 2 u3 (amA C r i).length (mbC (amA C r i))):=owns_of_block HU.out (fun b hb=>HK7.out b (HU.out.lt b hb).2 (fun e=>HUB.out (by rw [<- e];exact hb)))
     have HW7r:Hid (w7.ownsRow base 3 1 (.slice wo (amW C r i).length wc) (amW C r i).length ((amW C r i).map (Value.int .i64))):=owns_of_block HW.out (fun b hb=>HK7.out b (HW.out.lt b hb).2 (fun e=>HWB.out (by rw [<- e];exact hb)))
     have hbs7:base<=w7.heap.size:=HM7.out.bs
     have hA1:Hid ((amA C r i).length+1<=maxLen):=by show _<=_;rw [HALN.out];unfold maxLen;omega
     have hA2:Hid (((amA C r i).length+1)*16<=140737488355328):=by show _<=_;rw [HALN.out];omega
     have hA3:Hid (base<=(w7.alloc (.cells #[.int .i64 v,.int .i64 l] 99)).heap.size):=by show _<=_;simp;omega
     have hone:Hid (∀ u∈[Value.int .i64 v,Value.int .i64 l],u.oneCell'=true):=fun u hu=>by simp at hu;rcases hu with rfl | rfl<;>rfl
     have HCP:Hid (amA C r (i+1)=amA C r i++[(v,l)]):=by show _=_;simp only [amA];rw [HVV.out,HLL.out]
     cases hP:M.isP v l with
     | true =>
       have hw76:w7=w6:=by rw [HW7.out,if_pos hP]
       subst hw76
       clear hP y0 y1
       go_wp2_with (at_builtin;refine wpList_append_lies _ rfl _ _ 103 rfl base 99 j0 _ 2 16 Tryz.underlying103 hj0 hy0 hy1 hy2 rfl (by decide) u3 _ _ rfl (HU7.out.alloc _) ⟨w7.heap.size,0,none⟩ 1 1 [.int .i64 v,.int .i64 l] rfl rfl (World.news_of_block (cs:=#[.int .i64 v,.int .i64 l]) (t:=99) (fr:=(0,0)) (heap_alloc_new w7 _)) hone.out (Nat.lt_succ_self 0) hA1.out hA2.out hA3.out (w7.heap.size+1) (by simp) ?_;intro g cap w8 hown hgrow hat hlt8)
       have HM8:Hid (RM w8 base B co cb coff cc C W D av sv ⟨amL C (amR C r i),s.sv,s.ttl,s.sc⟩):=(HM7.out.alloc (.cells #[.int .i64 v,.int .i64 l] 99)).grown hgrow HUB.out (owns_ne2 (HM7.out.alloc (.cells #[.int .i64 v,.int .i64 l] 99)).row (HU7.out.alloc (.cells #[.int .i64 v,.int .i64 l] 99)) (by decide)) (fun k hk=>(HU7.out.lt k hk).1)
       have HB8:Hid (Below base w w8):=(HBB7.out.alloc hbs7 (.cells #[.int .i64 v,.int .i64 l] 99)).grown hgrow hA3.out (fun k hk=>(HU7.out.lt k hk).1)
       have HU8:Hid (w8.ownsRow base 99 2 (.slice (some ⟨g,0,none⟩) ((amA C r i).length+1) cap) (amA C r (i+1)).length (mbC (amA C r (i+1)))):=by show World.ownsRow _ _ _ _ _ _ _;rw [HCP.out,List.length_append,mbC_app];exact hown
       have HW8:Hid (w8.ownsRow base 3 1 (.slice wo (amW C r i).length wc) (amW C r i).length ((amW C r i).map (Value.int .i64))):=(HW7r.out.alloc (.cells #[.int .i64 v,.int .i64 l] 99)).kept hgrow (owns_ne2 (HW7r.out.alloc (.cells #[.int .i64 v,.int .i64 l] 99)) (HU7.out.alloc (.cells #[.int .i64 v,.int .i64 l] 99)) (by decide))
       have HUB8:Hid ((Value.slice (some ⟨g,0,none⟩) ((amA C r i).length+1) cap).ownBlock≠some B):=owns_ne HU8.out HM8.out.blk (by decide)
       clear hown hgrow hat
       refine (way_any base B co cb coff cc C W D av sv _ _ (by simp only;omega) HM8.out).mono ?_
       rintro e w9 ⟨rfl,hm9,hv9⟩
       have HM9:Hid (RM w9 base B co cb coff cc C W D av sv ⟨amR C r (i+1),s.sv,s.ttl,s.sc⟩):=hm9
       have HB9:Hid (Below base w w9):=HB8.out.trans (hv9.below HHB.out HM8.out.bs)
       have HU9:Hid (w9.ownsRow base 99 2 (.slice (some ⟨g,0,none⟩) ((amA C r i).length+1) cap) (amA C r (i+1)).length (mbC (amA C r (i+1)))):=hv9.owns HU8.out HUB8.out
       have HW9:Hid (w9.ownsRow base 3 1 (.slice wo (amW C r i).length wc) (amW C r i).length ((amW C r i).map (Value.int .i64))):=hv9.owns HW8.out HWB.out
       have hbs9:base<=w9.heap.size:=hm9.bs
       clear hm9 hv9
       simp only
       have HYY:Hid (amW C r (i+1)=amW C r i++[rdN C (amL C (amR C r i)) 2]):=rfl
       generalize rdN C (amL C (amR C r i)) 2=y at *
       have hC1:Hid ((amW C r i).length+1<=maxLen):=by show _<=_;rw [HWLN.out];unfold maxLen;omega
       have hC2:Hid (((amW C r i).length+1)*8<=140737488355328):=by show _<=_;rw [HWLN.out];omega
       have hC3:Hid (base<=(w9.alloc (.cells #[.int .i64 y] 3)).heap.size):=by show _<=_;simp;omega
       have hcne:Hid (∀ u∈[Value.int .i64 y],u.oneCell'=true):=fun u hu=>by simp at hu;subst hu;rfl
       go_wp2_with (at_builtin;refine wpList_append_lies _ rfl _ _ 25 rfl base 3 i0 _ 1 8 Tryz.underlying25 hi0 hz0 hz1 hz2 rfl (by decide) (.slice wo (amW C r i).length wc) _ _ rfl (HW9.out.alloc _) ⟨w9.heap.size,0,none⟩ 1 1 [.int .i64 y] rfl rfl (World.news_of_block (cs:=#[.int .i64 y]) (t:=3) (fr:=(0,0)) (heap_alloc_new w9 _)) hcne.out (Nat.lt_succ_self 0) hC1.out hC2.out hC3.out (w9.heap.size+1) (by simp) ?_;intro g2 cap2 w10 hown hgrow hat hlt10)
       have HM10:=(HM9.out.alloc (.cells #[.int .i64 y] 3)).grown hgrow HWB.out (by
         cases hsv:sv.ownBlock with
         | none=>exact .inl rfl
         | some b=>exact .inr (fun e=>HD.out b hsv e.symm)) (fun k hk=>(HW9.out.lt k hk).1)
       have HB10:=(HB9.out.alloc hbs9 (.cells #[.int .i64 y] 3)).grown hgrow hC3.out (fun k hk=>(HW9.out.lt k hk).1)
       have HU10:=(HU9.out.alloc (.cells #[.int .i64 y] 3)).kept hgrow (owns_ne2 (HU9.out.alloc (.cells #[.int .i64 y] 3)) (HW9.out.alloc (.cells #[.int .i64 y] 3)) (by decide))
       have HW10:w10.ownsRow base 3 1 (.slice (some ⟨g2,0,none⟩) (amW C r (i+1)).length cap2) (amW C r (i+1)).length ((amW C r (i+1)).map (Value.int .i64)):=by rw [HYY.out,List.length_append,List.map_append];exact hown
       have HD10:∀ b,sv.ownBlock=some b->(Value.slice (some ⟨g2,0,none⟩) (amW C r (i+1)).length cap2).ownBlock≠some b:=fun b hb e=>by
         have e':g2=b:=by simpa [Value.ownBlock] using e
         rcases hat with h9 | h9
         · exact HD.out b hb (by rw [h9,e'])
         · have:=(HM9.out.row.lt b hb).2;omega
       clear hown hgrow hat
       go_roundg (gk-1)
       case measure=>omega
       case rel=>exact ⟨i+1,some ⟨g2,0,none⟩,cap2,by omega,by rw [HYY.out,List.length_append];rfl,by go_num,HM10,HU10,HW10,HD10,HB10⟩
     | false =>
       have hw76:w7=w6.setCell ⟨B,2,none⟩ (.bool true):=by rw [HW7.out,if_neg (by rw [hP];decide)]
       clear hP
       subst hw76
       go_wp2_with (at_builtin;refine wpList_append_lies _ rfl _ _ 103 rfl base 99 j0 _ 2 16 Tryz.underlying103 hj0 hy0 hy1 hy2 rfl (by decide) u3 _ _ rfl (HU7.out.alloc _) ⟨w6.heap.size,0,none⟩ 1 1 [.int .i64 v,.int .i64 l] rfl rfl (World.news_of_block (cs:=#[.int .i64 v,.int .i64 l]) (t:=99) (fr:=(0,0)) (heap_alloc_at (w:=(w6.setCell ⟨B,2,none⟩ (.bool true))) _ (by simp [World.setCell]))) hone.out (Nat.lt_succ_self 0) hA1.out hA2.out hA3.out (w6.heap.size+1) (by simp [World.setCell]) ?_;intro g cap w8 hown hgrow hat hlt8)
       have HM8:Hid (RM w8 base B co cb coff cc C W D av sv ⟨amL C (amR C r i),s.sv,s.ttl,s.sc⟩):=(HM7.out.alloc (.cells #[.int .i64 v,.int .i64 l] 99)).grown hgrow HUB.out (owns_ne2 (HM7.out.alloc (.cells #[.int .i64 v,.int .i64 l] 99)).row (HU7.out.alloc (.cells #[.int .i64 v,.int .i64 l] 99)) (by decide)) (fun k hk=>(HU7.out.lt k hk).1)
       have HB8:Hid (Below base w w8):=(HBB7.out.alloc hbs7 (.cells #[.int .i64 v,.int .i64 l] 99)).grown hgrow hA3.out (fun k hk=>(HU7.out.lt k hk).1)
       have HU8:Hid (w8.ownsRow base 99 2 (.slice (some ⟨g,0,none⟩) ((amA C r i).length+1) cap) (amA C r (i+1)).length (mbC (amA C r (i+1)))):=by show World.ownsRow _ _ _ _ _ _ _;rw [HCP.out,List.length_append,mbC_app];exact hown
       have HW8:Hid (w8.ownsRow base 3 1 (.slice wo (amW C r i).length wc) (amW C r i).length ((amW C r i).map (Value.int .i64))):=(HW7r.out.alloc (.cells #[.int .i64 v,.int .i64 l] 99)).kept hgrow (owns_ne2 (HW7r.out.alloc (.cells #[.int .i64 v,.int .i64 l] 99)) (HU7.out.alloc (.cells #[.int .i64 v,.int .i64 l] 99)) (by decide))
       have HUB8:Hid ((Value.slice (some ⟨g,0,none⟩) ((amA C r i).length+1) cap).ownBlock≠some B):=owns_ne HU8.out HM8.out.blk (by decide)
       clear hown hgrow hat
       refine (way_any base B co cb coff cc C W D av sv _ _ (by simp only;omega) HM8.out).mono ?_
       rintro e w9 ⟨rfl,hm9,hv9⟩
       have HM9:Hid (RM w9 base B co cb coff cc C W D av sv ⟨amR C r (i+1),s.sv,s.ttl,s.sc⟩):=hm9
       have HB9:Hid (Below base w w9):=HB8.out.trans (hv9.below HHB.out HM8.out.bs)
       have HU9:Hid (w9.ownsRow base 99 2 (.slice (some ⟨g,0,none⟩) ((amA C r i).length+1) cap) (amA C r (i+1)).length (mbC (amA C r (i+1)))):=hv9.owns HU8.out HUB8.out
       have HW9:Hid (w9.ownsRow base 3 1 (.slice wo (amW C r i).length wc) (amW C r i).length ((amW C r i).map (Value.int .i64))):=hv9.owns HW8.out HWB.out
       have hbs9:base<=w9.heap.size:=hm9.bs
       clear hm9 hv9
       simp only
       have HYY:Hid (amW C r (i+1)=amW C r i++[rdN C (amL C (amR C r i)) 2]):=rfl
       generalize rdN C (amL C (amR C r i)) 2=y at *
       have hC1:Hid ((amW C r i).length+1<=maxLen):=by show _<=_;rw [HWLN.out];unfold maxLen;omega
       have hC2:Hid (((amW C r i).length+1)*8<=140737488355328):=by show _<=_;rw [HWLN.out];omega
       have hC3:Hid (base<=(w9.alloc (.cells #[.int .i64 y] 3)).heap.size):=by show _<=_;simp;omega
       have hcne:Hid (∀ u∈[Value.int .i64 y],u.oneCell'=true):=fun u hu=>by simp at hu;subst hu;rfl
       go_wp2_with (at_builtin;refine wpList_append_lies _ rfl _ _ 25 rfl base 3 i0 _ 1 8 Tryz.underlying25 hi0 hz0 hz1 hz2 rfl (by decide) (.slice wo (amW C r i).length wc) _ _ rfl (HW9.out.alloc _) ⟨w9.heap.size,0,none⟩ 1 1 [.int .i64 y] rfl rfl (World.news_of_block (cs:=#[.int .i64 y]) (t:=3) (fr:=(0,0)) (heap_alloc_new w9 _)) hcne.out (Nat.lt_succ_self 0) hC1.out hC2.out hC3.out (w9.heap.size+1) (by simp) ?_;intro g2 cap2 w10 hown hgrow hat hlt10)
       have HM10:=(HM9.out.alloc (.cells #[.int .i64 y] 3)).grown hgrow HWB.out (by
         cases hsv:sv.ownBlock with
         | none=>exact .inl rfl
         | some b=>exact .inr (fun e=>HD.out b hsv e.symm)) (fun k hk=>(HW9.out.lt k hk).1)
       have HB10:=(HB9.out.alloc hbs9 (.cells #[.int .i64 y] 3)).grown hgrow hC3.out (fun k hk=>(HW9.out.lt k hk).1)
       have HU10:=(HU9.out.alloc (.cells #[.int .i64 y] 3)).kept hgrow (owns_ne2 (HU9.out.alloc (.cells #[.int .i64 y] 3)) (HW9.out.alloc (.cells #[.int .i64 y] 3)) (by decide))
       have HW10:w10.ownsRow base 3 1 (.slice (some ⟨g2,0,none⟩) (amW C r (i+1)).length cap2) (amW C r (i+1)).length ((amW C r (i+1)).map (Value.int .i64)):=by rw [HYY.out,List.length_append,List.map_append];exact hown
       have HD10:∀ b,sv.ownBlock=some b->(Value.slice (some ⟨g2,0,none⟩) (amW C r (i+1)).length cap2).ownBlock≠some b:=fun b hb e=>by
         have e':g2=b:=by simpa [Value.ownBlock] using e
         rcases hat with h9 | h9
         · exact HD.out b hb (by rw [h9,e'])
         · have:=(HM9.out.row.lt b hb).2;omega
       clear hown hgrow hat
       go_roundg (gk-1)
       case measure=>omega
       case rel=>exact ⟨i+1,some ⟨g2,0,none⟩,cap2,by omega,by rw [HYY.out,List.length_append];rfl,by go_num,HM10,HU10,HW10,HD10,HB10⟩
   · have hin:i=n:=by omega
     subst hin
     have hlt':¬ (i:Int)<(i:Int):=by omega
     have c3:=HM.out.c3
     obtain ⟨uo,uc,hu3,huc⟩:=owns_form HU.out
     subst hu3
     have HPS:Hid (∃ ug,PS wr uo ug i (arV C r) (arL C r)):=by
       rcases HU.out.2 with ⟨h1,h2⟩ | ⟨g,cap,cur,h1,h2,h3,_⟩
       · exact ⟨0,⟨fun h=>by rw [HALN.out] at h2;omega,fun h=>by rw [HALN.out] at h2;omega,fun k hk=>by rw [HALN.out] at h2;omega,fun k hk=>by rw [HALN.out] at h2;omega⟩⟩
       · have huo:uo=some ⟨g,0,none⟩:=by cases h1;rfl
         subst huo
         refine ⟨g,⟨fun _=>rfl,fun _=>lt_of_block h3,fun k hk=>?_,fun k hk=>?_⟩⟩
         · have h9:=row_cells (fun x:Int×Int=>[Value.int .i64 x.1,Value.int .i64 x.2]) (fun _=>rfl) HU.out (amA_at C r i k hk) 0 (by decide)
           simpa using h9
         · have h9:=row_cells (fun x:Int×Int=>[Value.int .i64 x.1,Value.int .i64 x.2]) (fun _=>rfl) HU.out (amA_at C r i k hk) 1 (by decide)
           simpa using h9
     obtain ⟨ug,hps⟩:=HPS.out
     have HL:Hid (Calls Tryz.prog 125 #[.slice uo (amA C r i).length uc,.int .i64 W.addr] wr fun e w'=>e=.returned (.tuple #[.int .i64 (M.bestTo (arV C r) (arL C r) W.addr i),.int .i64 (M.depTo (arV C r) (arL C r) W.addr i)])/\Below wr.heap.size wr w'):=by
       show Calls _ _ _ _ _
       rw [HALN.out]
       exact Longest_gen uo ug i uc (arV C r) (arL C r) W.addr wr a0 a1 hc255 hps (fun k _=>⟨(rdN1_bd HBT.out _).1,(rdN1_bd HBT.out _).2,(rdN4_bd HBT.out _).1,(rdN4_bd HBT.out _).2⟩)
     have hbl:=best_lt (V:=arV C r) (L:=arL C r) (a:=W.addr) i
     have hbg:-1<=M.bestTo (arV C r) (arL C r) W.addr i:=by
       have key:∀ m,-1<=M.bestTo (arV C r) (arL C r) W.addr m:=by
         intro m
         induction m with
         | zero=>simp [M.bestTo]
         | succ m ih=>simp only [M.bestTo];split<;>omega
       exact key i
     have HWY:Hid (∀ k,k<i->0<=arW C r k/\arW C r k<=65535):=fun k _=>rdN2_bd HBT.out _
     clear hps
     generalize M.bestTo (arV C r) (arL C r) W.addr i=best at *
     generalize M.depTo (arV C r) (arL C r) W.addr i=dep at *
     go_wp2_with fail
     refine (Calls.mono HL.out) ?_
     rintro e w2 ⟨rfl,hb2⟩
     have HM2:Hid (RM w2 base B co cb coff cc C W D av sv ⟨amR C r i,s.sv,s.ttl,s.sc⟩):=HM.out.keep (hb2.block _ HM.out.lt) (fun g hg=>hb2.block g (HM.out.row.lt g hg).2) (fun b hb=>hb2.block b (by have:=HM.out.bs;omega))
     have HB2:Hid (Below base w w2):=HB.out.trans (hb2.mono HM.out.bs)
     have HW2:Hid (w2.ownsRow base 3 1 (.slice wo (amW C r i).length wc) (amW C r i).length ((amW C r i).map (Value.int .i64))):=owns_of_block HW.out (fun b hb=>hb2.block b (HW.out.lt b hb).2)
     clear hb2
     go_wp2_with fail
     refine (narrow_any base B co cb coff cc C W D av sv _ _ _ HM2.out).mono ?_
     rintro e w3 ⟨rfl,hm3,hv3⟩
     have HM3:Hid (RM w3 base B co cb coff cc C W D av sv ⟨amR C r i,s.sv,s.ttl,nar dep s.sc⟩):=hm3
     have HB3:Hid (Below base w w3):=HB2.out.trans (hv3.below HHB.out HM2.out.bs)
     have HW3:Hid (w3.ownsRow base 3 1 (.slice wo (amW C r i).length wc) (amW C r i).length ((amW C r i).map (Value.int .i64))):=hv3.owns HW2.out HWB.out
     have c1:=hm3.c1
     have z1:=hm3.fz 1
     simp only at c1
     clear hm3 hv3
     by_cases hb0:best<0
     · have HE:Hid (stPrefixes W C s=⟨⟨(amR C r i).p,(amR C r i).b⟩,s.sv,s.ttl,nar dep s.sc⟩):=by show _=_;rw [HST.out,if_pos hb0];rfl
       have hb0':decide (0<=best)=false:=decide_eq_false (by omega)
       clear hb0
       go_wp2_with fail
       go_end0
       exact ⟨rfl,by rw [HE.out];exact HM3.out,HB3.out⟩
     · obtain ⟨k,hk⟩:∃ k:Nat,best=k:=⟨best.toNat,by omega⟩
       subst hk
       have hki:k<i:=by omega
       have HE:Hid (stPrefixes W C s=⟨⟨(amR C r i).p+(arW C r k).toNat,(amR C r i).b⟩,s.sv,s.ttl,nar dep s.sc⟩):=by show _=_;rw [HST.out,if_neg hb0,Int.toNat_natCast]
       have hwy:=HWY.out k hki
       obtain ⟨wg,wc',hwg,_,_⟩:=HW3.out.form (by rw [HWLN.out];omega)
       obtain ⟨hwo,_⟩:wo=some ⟨wg,0,none⟩/\wc=wc':=by cases hwg;exact ⟨rfl,rfl⟩
       subst hwo
       have hyc:w3.cell? ⟨wg,k,none⟩=some (.int .i64 (arW C r k)):=by
         rw [World.ownsRow.cellAt HW3.out k (by rw [HWLN.out];omega)]
         rw [List.getElem?_map,amW_at C r i k hki];rfl
       have hk':(k:Int)<((amW C r i).length:Int):=by rw [HWLN.out];omega
       have hk0:(0:Int)<=(k:Int):=by omega
       clear hwg hb0
       generalize arW C r k=y at *
       generalize amR C r i=p at *
       go_wp2_with fail
       go_region
       all_goals
         go_wp2_with fail
         go_end0
         exact ⟨rfl,by rw [HE.out];exact (HM3.out.drew).at (p.p+y.toNat) ((p.p:Int)+y) (by omega),(HB3.out.drew).setCell HHB.out _⟩
end Go.Proofs.YtaebngpoagjafaaGreat
namespace Go.Proofs.YtaebngpoagjafaaGreat
open Go.RowKit
theorem step_append_zero {P:Program} (w:World) {ops:Array Oper} {o:Oper} {a:Act} {K:Act->World->Prop} {Q:Exit->Act->World->Prop} {E:Prop} (hgd:o.guard=none) (s x:Operand) (t:TypeId)
   (ho:o.op=.call { callee:=.builtin .append,args:=#[s,x],argTypes:=#[t,t] })
   (e:TypeId) (i:TypeInfo) (ht:P.underlying t=some (.slice e)) (hi:P.info? e=some i)
   (so:Option Addr) (n cap:Nat) (hs:a.eval s=.slice so n cap) (xo:Option Addr) (c:Nat) (hx:a.eval x=.slice xo 0 c) (hn:n<=cap)
   (h:K (a.put o.dst (.slice so n cap)) w) :
   if Region.wanted o (yielded ops a.tmps)=true then Oper.wp P o a w K Q else E:=by
 have hw:Region.wanted o (yielded ops a.tmps)=true:=by simp [Region.wanted,hgd]
 rw [if_pos hw]
 have hrun:=run_append_zero (P:=P) w t o.type e i ht hi so n cap xo c hn
 unfold Oper.wp execOp
 simp only [ho,resolve,invoke,builtin,Sem.run_bind,Sem.run_pure,Result.andThen_ok,List.map_toArray,List.map_cons,List.map_nil,hs,hx,hrun]
 exact h
attribute [local go_sem ↓] Go.wp_at_zero Go.wp_at_succ
set_option maxHeartbeats 1600000 in
theorem alias_run (base B:Nat) (co:Option Addr) (cb coff cc:Nat) (C:List Int) (W:RW) (D:Array Value) (ao:Option Addr) (ab aoff ac:Nat) (sv:Value) (s:RT) (w:World) (hp:s.r.p<=900000000000000000) (hsv:s.sv=[]) (hal:AS w base ao ab aoff W.al) (hln:W.al.length<=9223372036854775807) (h:RM w base B co cb coff cc C W D (.slice ao W.al.length ac) sv s) :
   Calls Tryz.prog 121 #[.pointer (some ⟨B,0,none⟩)] w fun e w'=>e=.returned (.tuple #[])/\(∃ sv',RM w' base B co cb coff cc C W D (.slice ao W.al.length ac) sv' (stAlias W C s))/\Below base w w':=by
 obtain ⟨i0,hi0,hz0,hz1,hz2⟩:=info_parts Tryz.infoInt
 have H:Hid (RM w base B co cb coff cc C W D (.slice ao W.al.length ac) sv s):=h
 have HBT:Hid (∀ x∈C,0<=x/\x<256):=h.code.byt
 have HBS:Hid (base<=w.heap.size):=h.bs
 have HHB:Hid (base<=B):=h.hB
 have HAS:Hid (AS w base ao ab aoff W.al):=hal
 have HSV:Hid (s.sv=[]):=hsv
 clear h hal hsv
 go_enter Tryz.func121,Tryz.ntmps121
 go_wp2_with fail
 refine (readN_any base B co cb coff cc C W D _ sv s 1 0 15 1 _ rfl (by decide) hp H.out).mono ?_
 rintro e w1 ⟨rfl,hm,hv⟩
 have HM1:Hid (RM w1 base B co cb coff cc C W D (.slice ao W.al.length ac) sv ⟨num C s.r 1 0 15,s.sv,s.ttl,s.sc⟩):=hm
 have HB1:Hid (Below base w w1):=hv.below HHB.out HBS.out
 have HA1:Hid (AS w1 base ao ab aoff W.al):=HAS.out.of_kept (fun b hb=>HB1.out.block b hb)
 have c69:=hm.c69
 have c72:=hm.c72
 have z72:=hm.fz 72
 clear hm hv
 have hnb:=rdN1_bd HBT.out s.r
 have HST:Hid (stAlias W C s=⟨num C s.r 1 0 15,s.sv++(W.al[(rdN C s.r 1).toNat]?).getD [],s.ttl,s.sc⟩):=rfl
 generalize hk0:rdN C s.r 1=k at *
 clear hk0
 obtain ⟨k,rfl⟩:∃ q:Nat,k=q:=⟨k.toNat,by omega⟩
 rw [Int.toNat_natCast] at HST
 have hkp:(0:Int)<=(k:Int):=by omega
 by_cases hk:k<W.al.length
 · obtain ⟨l,hl⟩:∃ l,W.al[k]?=some l:=⟨W.al[k],List.getElem?_eq_getElem hk⟩
   have hlt':(k:Int)<(W.al.length:Int):=by omega
   obtain ⟨lo,lc,hcl,hll⟩:=HA1.out.val k l hl
   obtain rfl:=HA1.out.at_ (by omega)
   have hlen:l.length*8<=140737488355328:=Nat.le_trans (HA1.out.len l (List.mem_of_getElem? hl)) (by decide)
   have HE:Hid (stAlias W C s=⟨num C s.r 1 0 15,s.sv++l,s.ttl,s.sc⟩):=by show _=_;rw [HST.out,hl];rfl
   clear hl
   go_wp2_with fail
   rcases Nat.eq_zero_or_pos l.length with h0 | h0
   · have hln0:l=[]:=List.eq_nil_of_length_eq_zero h0
     subst hln0
     obtain ⟨so,scap,hso,hsc⟩:=owns_form HM1.out.row
     simp only at hso hsc
     subst hso
     clear hll
     go_region_law ((refine step_append_zero _ (by rfl) _ _ _ (by rfl) 3 i0 Tryz.underlying25 hi0 so s.sv.length scap (by rfl) lo lc (by rfl) hsc ?_))
     all_goals
       have HM6:=(HM1.out.drew).push (ys:=[]) (n:=s.sv.length) (oo:=so) (cap:=scap) (by simp) (w4:=w1.drew) ⟨rfl,rfl,rfl,Nat.le_refl _,fun _ _ _=>rfl⟩ (by simpa using HM1.out.drew.row)
       have HB6:=(HM1.out.drew).pushB (u:=.slice so s.sv.length scap) (w4:=w1.drew) (HB1.out.drew) ⟨rfl,rfl,rfl,Nat.le_refl _,fun _ _ _=>rfl⟩
       go_wp2_with fail
       go_end0
       exact ⟨rfl,⟨_,by rw [HE.out];exact HM6⟩,HB6⟩
   · obtain ⟨lb,loff,hlo,hlb,hlv⟩:=hll h0
     subst hlo
     have HLV:Hid (∀ (j:Nat) (u:Value),(l.map (Value.int .i64))[j]?=some u->w1.cell? ((⟨lb,loff,none⟩:Addr).add j)=some u):=fun j u hu=>by
       rw [List.getElem?_map] at hu
       cases hx:l[j]? with
       | none=>rw [hx] at hu;cases hu
       | some x=>rw [hx] at hu;cases hu;rw [Addr.add_lit];exact hlv j x hx
     have hA1:Hid (s.sv.length+l.length<=maxLen):=by show _<=_;rw [HSV.out];unfold maxLen;simp;omega
     have hA2:Hid ((s.sv.length+l.length)*8<=140737488355328):=by show _<=_;rw [HSV.out];simpa using hlen
     have hA3:Hid (base<=w1.drew.heap.size):=HM1.out.bs
     have hone:Hid (∀ u∈l.map (Value.int .i64),u.oneCell'=true):=fun u hu=>by simp only [List.mem_map] at hu;obtain ⟨x,_,rfl⟩:=hu;rfl
     have hlm:Hid ((l.map (Value.int .i64)).length=l.length*1):=by show _=_;simp
     have H0:Hid (0<l.length):=h0
     clear hll hlv hlen h0
     go_region_law ((refine step_append_lies _ (by rfl) _ _ _ (by rfl) base 3 i0 _ 1 8 Tryz.underlying25 hi0 hz0 hz1 hz2 rfl (by decide) sv _ _ (by rfl) (HM1.out.row.drew) ⟨lb,loff,none⟩ l.length lc (l.map (Value.int .i64)) (by rfl) hlm.out HLV.out hone.out H0.out hA1.out hA2.out hA3.out w1.heap.size (by rfl) ?_;intro g cap w4 hown hgrow hat hlt4;have zz:w4.frozen? ⟨B,72,none⟩=false:=(hgrow.frozen_far ⟨B,72,none⟩ HM1.out.lt (fun e=>HM1.out.ne e.symm)).trans ((HM1.out.drew).fz 72);have ccx:w4.cell? ⟨B,72,none⟩=some sv:=(hgrow.cell_far ⟨B,72,none⟩ HM1.out.lt (fun e=>HM1.out.ne e.symm)).trans (HM1.out.drew).c72))
     all_goals
       have HM6:=(HM1.out.drew).push (ys:=l) (n:=s.sv.length+l.length) (by simp) hgrow (by rw [List.map_append];exact hown)
       have HB6:=(HM1.out.drew).pushB (u:=.slice (some ⟨g,0,none⟩) (s.sv.length+l.length) cap) (HB1.out.drew) hgrow
       clear hown hgrow hat
       go_wp2_with fail
       go_end0
       exact ⟨rfl,⟨_,by rw [HE.out];exact HM6⟩,HB6⟩
 · have hlt':¬ (k:Int)<(W.al.length:Int):=by omega
   have hltd:decide ((k:Int)<(W.al.length:Int))=false:=decide_eq_false hlt'
   have HE:Hid (stAlias W C s=⟨num C s.r 1 0 15,s.sv,s.ttl,s.sc⟩):=by show _=_;rw [HST.out,List.getElem?_eq_none (by omega)];simp
   go_wp2_with fail
   go_end0
   exact ⟨rfl,⟨sv,by rw [HE.out];exact HM1.out⟩,HB1.out⟩
end Go.Proofs.YtaebngpoagjafaaGreat
