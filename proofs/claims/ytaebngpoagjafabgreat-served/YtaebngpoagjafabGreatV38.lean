import Derived.Test.YtaebngpoagjafabGreatV33
set_option maxRecDepth 100000
set_option maxHeartbeats 3200000
namespace Go.Proofs.YtaebngpoagjafabGreat
open Obj renaming cells → Q
open Value renaming int → J, slice → O
open IntKind renaming i64 → Z
open Go.RowKit
attribute [local go_sem ↓] Go.wp_at_zero Go.wp_at_succ
theorem qT (base B:Nat) (co:Option Addr) (cb coff cc:Nat) (C:List Int) (W:RW) (D:Array Value) (av sv:Value) (s:RT) (w:World) (hp:s.r.p<=900000000000000000-10000) (a0:0<=W.addr) (a1:W.addr<4294967296) (h:RM w base B co cb coff cc C W D av sv s) :
 Calls Tryz.prog 109 #[.pointer (some ⟨B,0,none⟩)] w fun e w'=>e=.returned (.tuple #[])/\RM w' base B co cb coff cc C W D av sv (yp W C s)/\Below base w w':=by
 obtain ⟨i0,hi0,hz0,hz1,hz2⟩:=info_parts Tryz.infoInt
 obtain ⟨j0,hj0,hy0,hy1,hy2⟩:=info_parts Tryz.infoPrefix
 have H:Hid _:=h
 have HBT:Hid (∀ x∈C,0<=x/\x<256):=h.code.byt
 have HBS:Hid _:=h.bs
 have HHB:Hid (base<=B):=h.hB
 clear h
 go_enter Tryz.func109,Tryz.ntmps109
 go_wp2_with fail
 refine (Ya base B co cb coff cc C W D av sv s _ (by omega) H.out).mono ?_
 rintro e w1 ⟨rfl,hm,hv⟩
 have HM1:Hid (RM ((w1.alloc (Q #[] 94)).alloc (Q #[] 3)) base B co cb coff cc C W D av sv ⟨cnR C s.r,s.sv,s.ttl,s.sc⟩):=(hm.alloc _).alloc _
 have HB1:Hid (Below base w ((w1.alloc (Q #[] 94)).alloc (Q #[] 3))):=((hv.below HHB.out HBS.out).alloc hm.bs _).alloc (hm.alloc _).bs _
 have HA1:Hid (((w1.alloc (Q #[] 94)).alloc (Q #[] 3)).ownsRow base 94 2 (O (some ⟨w1.heap.size,0,none⟩) 0 0) 0 []):=by
  refine World.ownsRow.alloc ?_ _
  exact ⟨rfl,.inr ⟨w1.heap.size,0,#[],rfl,hm.bs,zy _ rfl,Nat.le_refl _,by decide,rfl,rfl⟩⟩
 have HW1:Hid (((w1.alloc (Q #[] 94)).alloc (Q #[] 3)).ownsRow base 3 1 (O (some ⟨w1.heap.size+1,0,none⟩) 0 0) 0 []):=⟨rfl,.inr ⟨w1.heap.size+1,0,#[],rfl,by have:=hm.bs;omega,zy _ (by simp),Nat.le_refl _,by decide,rfl,rfl⟩⟩
 have HD1:Hid (∀ b,sv.ownBlock=some b->b≠w1.heap.size+1):=fun b hb=>by have:=(hm.row.lt b hb).2;omega
 clear hm hv
 obtain ⟨hcn,hc255⟩:=Xa HBT.out s.r
 rw [hcn]
 have hcp:=Za C s.r 1 1 16
 have HST:Hid (yp W C s=⟨⟨(amR C (cnR C s.r) (cnN C s.r)).p+(if M.bestTo (arV C (cnR C s.r)) (arL C (cnR C s.r)) W.addr (cnN C s.r)<0 then 0 else (arW C (cnR C s.r) (M.bestTo (arV C (cnR C s.r)) (arL C (cnR C s.r)) W.addr (cnN C s.r)).toNat).toNat),(amR C (cnR C s.r) (cnN C s.r)).b⟩,s.sv,s.ttl,nar (M.depTo (arV C (cnR C s.r)) (arL C (cnR C s.r)) W.addr (cnN C s.r)) s.sc⟩):=rfl
 have hcp2:(cnR C s.r).p<=s.r.p+1:=hcp.2
 generalize cnN C s.r=n at *
 generalize cnR C s.r=r at *
 clear hcn hcp
 go_wp2_with fail
 go_loopg [3,4,5] n (fun q u v y wr=>∃ (i:Nat) (wo:Option Addr) (wc:Nat),q+i=n/\v=O wo (amW C r i).length wc/\y=J Z i/\RM wr base B co cb coff cc C W D av sv ⟨amR C r i,s.sv,s.ttl,s.sc⟩/\wr.ownsRow base 94 2 u (amA C r i).length (mbC (amA C r i))/\wr.ownsRow base 3 1 (O wo (amW C r i).length wc) (amW C r i).length ((amW C r i).map (J Z))/\(∀ b,sv.ownBlock=some b->(O wo (amW C r i).length wc).ownBlock≠some b)/\Below base w wr)
 case atStart=>exact ⟨0,some ⟨w1.heap.size+1,0,none⟩,0,by omega,rfl,rfl,HM1.out,HA1.out,HW1.out,fun b hb e=>HD1.out b hb (by simpa [Value.ownBlock] using e.symm),HB1.out⟩
 case round =>
  obtain ⟨i,wo,wc,hq,rfl,rfl,hm,hu,hw,hdis,hb⟩:=hrel
  have HM:Hid _:=hm
  have HU:Hid (wr.ownsRow base 94 2 u3 (amA C r i).length (mbC (amA C r i))):=hu
  have HW:Hid (wr.ownsRow base 3 1 (O wo (amW C r i).length wc) (amW C r i).length ((amW C r i).map (J Z))):=hw
  have HD:Hid _:=hdis
  have HUB:Hid (u3.ownBlock≠some B):=zs hu hm.blk (by decide)
  have HWB:Hid ((O wo (amW C r i).length wc).ownBlock≠some B):=zs hw hm.blk (by decide)
  have HB:Hid _:=hb
  clear hm hb hu hw hdis
  have hpi:=zdf C r i
  have HALN:Hid ((amA C r i).length=i):=Xw C r i
  have HWLN:Hid ((amW C r i).length=i):=Xv C r i
  by_cases hlt:i<n
  ·have hlt':(i:Int)<(n:Int):=by omega
   have hn1:=Za C (amR C r i) 4 0 4294967295
   have hn2:=Za C (amV C (amR C r i)) 1 0 32
   have hn5:(amV C (amR C r i)).p=(num C (amR C r i) 4 0 4294967295).p:=rfl
   have hn4:(amL C (amR C r i)).p=(num C (amV C (amR C r i)) 1 0 32).p:=rfl
   have hbs:base<=wr.heap.size:=HM.out.bs
   -- the arm's own block
   have HMA:Hid (RM (wr.alloc (Q #[J Z 0,J Z 0] 94)) base B co cb coff cc C W D av sv ⟨amR C r i,s.sv,s.ttl,s.sc⟩):=HM.out.alloc _
   have HPA:Hid ((wr.alloc (Q #[J Z 0,J Z 0] 94)).heap[wr.heap.size]?=some (Q #[J Z 0,J Z 0] 94 (0,0))):=heap_alloc_new wr _
   have HPB:Hid (wr.heap.size≠B):=fun e=>by have:=HM.out.lt;omega
   have HSV:Hid (∀ g,sv.ownBlock=some g->g<wr.heap.size):=fun g hg=>(HM.out.row.lt g hg).2
   go_wp2_with fail
   refine (yH base B co cb coff cc C W D av sv _ 4 0 4294967295 4 _ rfl (by decide) (by simp only;omega) HMA.out).mono ?_
   rintro e w2 ⟨rfl,hm2,hv2⟩
   have HM2:Hid _:=hm2
   have HK2:Hid (∀ b,b<wr.heap.size->b≠B->w2.heap[b]?=wr.heap[b]?):=fun b hb hn=>(hv2.kept b (by simp;omega) hn).trans (Below.heap_alloc _ _ _ hb)
   have hp2:w2.heap[wr.heap.size]?=some (Q #[J Z 0,J Z 0] 94 (0,0)):=(hv2.kept _ (by simp) HPB.out).trans HPA.out
   have HP2:Hid _:=hp2
   have HBB2:Hid (Below base w w2):=(HB.out.alloc hbs _).trans (hv2.below HHB.out HMA.out.bs)
   have x0:w2.cell? ⟨wr.heap.size,0,none⟩=some (J Z 0):=by rw [cell_of_row _ _ _ _ _ _ hp2];rfl
   have f0:w2.frozen? ⟨wr.heap.size,0,none⟩=false:=by simp [World.frozen?,hp2]
   clear hm2 hv2 hp2
   simp only
   have HVV:Hid (arV C r i=rdN C (amR C r i) 4):=rfl
   have hvb:=qS HBT.out (amR C r i)
   generalize rdN C (amR C r i) 4=v at *
   go_wp2_with fail
   -- the value is stored
   have HM3:Hid (RM (w2.setCell ⟨wr.heap.size,0,none⟩ (J Z v)) base B co cb coff cc C W D av sv ⟨amV C (amR C r i),s.sv,s.ttl,s.sc⟩):=HM2.out.keep (za HPB.out.symm) (fun g hg=>za (by have:=HSV.out g hg;omega)) (fun b hb=>za (by omega))
   have HP3:Hid ((w2.setCell ⟨wr.heap.size,0,none⟩ (J Z v)).heap[wr.heap.size]?=some (Q #[J Z v,J Z 0] 94 (0,0))):=by show _=_;rw [zM HP2.out];rfl
   have HK3:Hid (∀ b,b<wr.heap.size->b≠B->(w2.setCell ⟨wr.heap.size,0,none⟩ (J Z v)).heap[b]?=wr.heap[b]?):=fun b hb hn=>(za (by omega)).trans (HK2.out b hb hn)
   have HBB3:Hid (Below base w (w2.setCell ⟨wr.heap.size,0,none⟩ (J Z v))):=HBB2.out.setCell hbs _
   clear x0 f0
   generalize w2.setCell ⟨wr.heap.size,0,none⟩ (J Z v)=w3 at *
   refine (yH base B co cb coff cc C W D av sv _ 1 0 32 1 _ rfl (by decide) (by simp only;omega) HM3.out).mono ?_
   rintro e w4 ⟨rfl,hm4,hv4⟩
   have HM4:Hid _:=hm4
   have hs3:wr.heap.size<w3.heap.size:=lt_of_block HP3.out
   have HK4:Hid (∀ b,b<wr.heap.size->b≠B->w4.heap[b]?=wr.heap[b]?):=fun b hb hn=>(hv4.kept b (by omega) hn).trans (HK3.out b hb hn)
   have hp4:w4.heap[wr.heap.size]?=some (Q #[J Z v,J Z 0] 94 (0,0)):=(hv4.kept _ hs3 HPB.out).trans HP3.out
   have HP4:Hid _:=hp4
   have HBB4:Hid (Below base w w4):=HBB3.out.trans (hv4.below HHB.out HM3.out.bs)
   have x1:w4.cell? ⟨wr.heap.size,1,none⟩=some (J Z 0):=by rw [cell_of_row _ _ _ _ _ _ hp4];rfl
   have f1:w4.frozen? ⟨wr.heap.size,1,none⟩=false:=by simp [World.frozen?,hp4]
   have y0:w4.cell? ⟨wr.heap.size,0,none⟩=some (J Z v):=by rw [cell_of_row _ _ _ _ _ _ hp4];rfl
   clear hm4 hv4 hp4
   simp only
   have HLL:Hid (arL C r i=rdN C (amV C (amR C r i)) 1):=rfl
   have HAL:Hid (amL C (amR C r i)=⟨(num C (amV C (amR C r i)) 1 0 32).p,if M.isP (arV C r i) (rdN C (amV C (amR C r i)) 1)=true then (num C (amV C (amR C r i)) 1 0 32).b else true⟩):=rfl
   have hlb:=Xn HBT.out (amV C (amR C r i))
   generalize rdN C (amV C (amR C r i)) 1=l at *
   rw [HVV.out] at HAL
   go_wp2_with fail
   have HM5:Hid (RM (w4.setCell ⟨wr.heap.size,1,none⟩ (J Z l)) base B co cb coff cc C W D av sv ⟨num C (amV C (amR C r i)) 1 0 32,s.sv,s.ttl,s.sc⟩):=HM4.out.keep (za HPB.out.symm) (fun g hg=>za (by have:=HSV.out g hg;omega)) (fun b hb=>za (by omega))
   have HP5:Hid ((w4.setCell ⟨wr.heap.size,1,none⟩ (J Z l)).heap[wr.heap.size]?=some (Q #[J Z v,J Z l] 94 (0,0))):=by show _=_;rw [zM HP4.out];rfl
   have HK5:Hid (∀ b,b<wr.heap.size->b≠B->(w4.setCell ⟨wr.heap.size,1,none⟩ (J Z l)).heap[b]?=wr.heap[b]?):=fun b hb hn=>(za (by omega)).trans (HK4.out b hb hn)
   have HBB5:Hid (Below base w (w4.setCell ⟨wr.heap.size,1,none⟩ (J Z l))):=HBB4.out.setCell hbs _
   clear x1 f1 y0
   generalize w4.setCell ⟨wr.heap.size,1,none⟩ (J Z l)=w5 at *
   refine (Yp v l _).mono ?_
   rintro e w6 ⟨rfl,hb6⟩
   have hs5:wr.heap.size<w5.heap.size:=lt_of_block HP5.out
   have HM6:Hid (RM w6 base B co cb coff cc C W D av sv ⟨num C (amV C (amR C r i)) 1 0 32,s.sv,s.ttl,s.sc⟩):=HM5.out.keep (hb6.block _ HM5.out.lt) (fun g hg=>hb6.block g (by have:=HSV.out g hg;omega)) (fun b hb=>hb6.block b (by omega))
   have hp6:w6.heap[wr.heap.size]?=some (Q #[J Z v,J Z l] 94 (0,0)):=(hb6.block _ hs5).trans HP5.out
   have HP6:Hid _:=hp6
   have HK6:Hid (∀ b,b<wr.heap.size->b≠B->w6.heap[b]?=wr.heap[b]?):=fun b hb hn=>(hb6.block b (by omega)).trans (HK5.out b hb hn)
   have HBB6:Hid (Below base w w6):=HBB5.out.trans (hb6.mono (by have:=HM5.out.bs;omega))
   have y0:w6.cell? ⟨wr.heap.size,0,none⟩=some (J Z v):=by rw [cell_of_row _ _ _ _ _ _ hp6];rfl
   have y1:w6.cell? ⟨wr.heap.size,1,none⟩=some (J Z l):=by rw [cell_of_row _ _ _ _ _ _ hp6];rfl
   have c2:=HM6.out.c2
   have z2:=HM6.out.fz 2
   clear hb6 hp6
   -- bad or not: the run behind it
   obtain ⟨w7,HW7,HM7,HP7,HK7,HBB7⟩:∃ w7,Hid (w7=if M.isP v l=true then w6 else w6.setCell ⟨B,2,none⟩ (.bool true))/\Hid (RM w7 base B co cb coff cc C W D av sv ⟨amL C (amR C r i),s.sv,s.ttl,s.sc⟩)/\Hid (w7.heap[wr.heap.size]?=some (Q #[J Z v,J Z l] 94 (0,0)))/\Hid (∀ b,b<wr.heap.size->b≠B->w7.heap[b]?=wr.heap[b]?)/\Hid (Below base w w7):=by
    by_cases hP:M.isP v l=true
    ·refine ⟨w6,by show _=_;rw [if_pos hP],?_,HP6,HK6,HBB6⟩
     show RM _ _ _ _ _ _ _ _ _ _ _ _ _
     rw [HAL.out,if_pos hP]
     exact HM6.out
    ·refine ⟨w6.setCell ⟨B,2,none⟩ (.bool true),by show _=_;rw [if_neg hP],?_,?_,fun b hb hn=>(za hn).trans (HK6.out b hb hn),HBB6.out.setCell HHB.out _⟩
     ·show RM _ _ _ _ _ _ _ _ _ _ _ _ _
      rw [HAL.out,if_neg hP]
      exact HM6.out.bad true
     ·show _=_
      rw [za HPB.out]
      exact HP6.out
   have v0:w7.cell? ⟨wr.heap.size,0,none⟩=some (J Z v):=by rw [cell_of_row _ _ _ _ _ _ HP7.out];rfl
   have v1:w7.cell? ⟨wr.heap.size,1,none⟩=some (J Z l):=by rw [cell_of_row _ _ _ _ _ _ HP7.out];rfl
   have HU7:Hid (w7.ownsRow base 94 2 u3 (amA C r i).length (mbC (amA C r i))):=zh HU.out (fun b hb=>HK7.out b (HU.out.lt b hb).2 (fun e=>HUB.out (by rw [<- e];exact hb)))
   have HW7r:Hid (w7.ownsRow base 3 1 (O wo (amW C r i).length wc) (amW C r i).length ((amW C r i).map (J Z))):=zh HW.out (fun b hb=>HK7.out b (HW.out.lt b hb).2 (fun e=>HWB.out (by rw [<- e];exact hb)))
   have hbs7:base<=w7.heap.size:=HM7.out.bs
   have hA1:Hid ((amA C r i).length+1<=maxLen):=by show _<=_;rw [HALN.out];unfold maxLen;omega
   have hA2:Hid (((amA C r i).length+1)*16<=140737488355328):=by show _<=_;rw [HALN.out];omega
   have hA3:Hid (base<=(w7.alloc (Q #[J Z v,J Z l] 94)).heap.size):=by show _<=_;simp;omega
   have hone:Hid (∀ u∈[J Z v,J Z l],u.oneCell'=true):=fun u hu=>by simp at hu;rcases hu with rfl | rfl<;>rfl
   have HCP:Hid (amA C r (i+1)=amA C r i++[(v,l)]):=by show _=_;simp only [amA];rw [HVV.out,HLL.out]
   cases hP:M.isP v l with
   | true =>
    have hw76:w7=w6:=by rw [HW7.out,if_pos hP]
    subst hw76
    clear hP y0 y1
    go_wp2_with (at_builtin;refine wpList_append_lies _ rfl _ _ 98 rfl base 94 j0 _ 2 16 Tryz.underlying98 hj0 hy0 hy1 hy2 rfl (by decide) u3 _ _ rfl (HU7.out.alloc _) ⟨w7.heap.size,0,none⟩ 1 1 [J Z v,J Z l] rfl rfl (World.news_of_block (cs:=#[J Z v,J Z l]) (t:=94) (fr:=(0,0)) (heap_alloc_new w7 _)) hone.out (Nat.lt_succ_self 0) hA1.out hA2.out hA3.out (w7.heap.size+1) (by simp) ?_;intro g cap w8 hown hgrow hat hlt8)
    have HM8:Hid (RM w8 base B co cb coff cc C W D av sv ⟨amL C (amR C r i),s.sv,s.ttl,s.sc⟩):=(HM7.out.alloc (Q #[J Z v,J Z l] 94)).grown hgrow HUB.out (yb (HM7.out.alloc (Q #[J Z v,J Z l] 94)).row (HU7.out.alloc (Q #[J Z v,J Z l] 94)) (by decide)) (fun k hk=>(HU7.out.lt k hk).1)
    have HB8:Hid (Below base w w8):=(HBB7.out.alloc hbs7 (Q #[J Z v,J Z l] 94)).grown hgrow hA3.out (fun k hk=>(HU7.out.lt k hk).1)
    have HU8:Hid (w8.ownsRow base 94 2 (O (some ⟨g,0,none⟩) ((amA C r i).length+1) cap) (amA C r (i+1)).length (mbC (amA C r (i+1)))):=by show World.ownsRow _ _ _ _ _ _ _;rw [HCP.out,List.length_append,q8];exact hown
    have HW8:Hid (w8.ownsRow base 3 1 (O wo (amW C r i).length wc) (amW C r i).length ((amW C r i).map (J Z))):=(HW7r.out.alloc (Q #[J Z v,J Z l] 94)).kept hgrow (yb (HW7r.out.alloc (Q #[J Z v,J Z l] 94)) (HU7.out.alloc (Q #[J Z v,J Z l] 94)) (by decide))
    have HUB8:Hid ((O (some ⟨g,0,none⟩) ((amA C r i).length+1) cap).ownBlock≠some B):=zs HU8.out HM8.out.blk (by decide)
    clear hown hgrow hat
    refine (qH base B co cb coff cc C W D av sv _ _ (by simp only;omega) HM8.out).mono ?_
    rintro e w9 ⟨rfl,hm9,hv9⟩
    have HM9:Hid _:=hm9
    have HB9:Hid (Below base w w9):=HB8.out.trans (hv9.below HHB.out HM8.out.bs)
    have HU9:Hid (w9.ownsRow base 94 2 (O (some ⟨g,0,none⟩) ((amA C r i).length+1) cap) (amA C r (i+1)).length (mbC (amA C r (i+1)))):=hv9.owns HU8.out HUB8.out
    have HW9:Hid (w9.ownsRow base 3 1 (O wo (amW C r i).length wc) (amW C r i).length ((amW C r i).map (J Z))):=hv9.owns HW8.out HWB.out
    have hbs9:base<=w9.heap.size:=hm9.bs
    clear hm9 hv9
    simp only
    have HYY:Hid (amW C r (i+1)=amW C r i++[rdN C (amL C (amR C r i)) 2]):=rfl
    generalize rdN C (amL C (amR C r i)) 2=y at *
    have hC1:Hid ((amW C r i).length+1<=maxLen):=by show _<=_;rw [HWLN.out];unfold maxLen;omega
    have hC2:Hid (((amW C r i).length+1)*8<=140737488355328):=by show _<=_;rw [HWLN.out];omega
    have hC3:Hid (base<=(w9.alloc (Q #[J Z y] 3)).heap.size):=by show _<=_;simp;omega
    have hcne:Hid (∀ u∈[J Z y],u.oneCell'=true):=fun u hu=>by simp at hu;subst hu;rfl
    go_wp2_with (at_builtin;refine wpList_append_lies _ rfl _ _ 25 rfl base 3 i0 _ 1 8 Tryz.underlying25 hi0 hz0 hz1 hz2 rfl (by decide) (O wo (amW C r i).length wc) _ _ rfl (HW9.out.alloc _) ⟨w9.heap.size,0,none⟩ 1 1 [J Z y] rfl rfl (World.news_of_block (cs:=#[J Z y]) (t:=3) (fr:=(0,0)) (heap_alloc_new w9 _)) hcne.out (Nat.lt_succ_self 0) hC1.out hC2.out hC3.out (w9.heap.size+1) (by simp) ?_;intro g2 cap2 w10 hown hgrow hat hlt10)
    have HM10:=(HM9.out.alloc (Q #[J Z y] 3)).grown hgrow HWB.out (by
     cases hsv:sv.ownBlock with
     | none=>exact .inl rfl
     | some b=>exact .inr (fun e=>HD.out b hsv e.symm)) (fun k hk=>(HW9.out.lt k hk).1)
    have HB10:=(HB9.out.alloc hbs9 (Q #[J Z y] 3)).grown hgrow hC3.out (fun k hk=>(HW9.out.lt k hk).1)
    have HU10:=(HU9.out.alloc (Q #[J Z y] 3)).kept hgrow (yb (HU9.out.alloc (Q #[J Z y] 3)) (HW9.out.alloc (Q #[J Z y] 3)) (by decide))
    have HW10:w10.ownsRow base 3 1 (O (some ⟨g2,0,none⟩) (amW C r (i+1)).length cap2) (amW C r (i+1)).length ((amW C r (i+1)).map (J Z)):=by rw [HYY.out,List.length_append,List.map_append];exact hown
    have HD10:∀ b,sv.ownBlock=some b->(O (some ⟨g2,0,none⟩) (amW C r (i+1)).length cap2).ownBlock≠some b:=fun b hb e=>by
     have e':g2=b:=by simpa [Value.ownBlock] using e
     rcases hat with h9 | h9
     ·exact HD.out b hb (by rw [h9,e'])
     ·have:=(HM9.out.row.lt b hb).2;omega
    clear hown hgrow hat
    go_roundg (gk-1)
    case measure=>omega
    case rel=>exact ⟨i+1,some ⟨g2,0,none⟩,cap2,by omega,by rw [HYY.out,List.length_append];rfl,by go_num,HM10,HU10,HW10,HD10,HB10⟩
   | false =>
    have hw76:w7=w6.setCell ⟨B,2,none⟩ (.bool true):=by rw [HW7.out,if_neg (by rw [hP];decide)]
    clear hP
    subst hw76
    go_wp2_with (at_builtin;refine wpList_append_lies _ rfl _ _ 98 rfl base 94 j0 _ 2 16 Tryz.underlying98 hj0 hy0 hy1 hy2 rfl (by decide) u3 _ _ rfl (HU7.out.alloc _) ⟨w6.heap.size,0,none⟩ 1 1 [J Z v,J Z l] rfl rfl (World.news_of_block (cs:=#[J Z v,J Z l]) (t:=94) (fr:=(0,0)) (zy (w:=(w6.setCell ⟨B,2,none⟩ (.bool true))) _ (by simp [World.setCell]))) hone.out (Nat.lt_succ_self 0) hA1.out hA2.out hA3.out (w6.heap.size+1) (by simp [World.setCell]) ?_;intro g cap w8 hown hgrow hat hlt8)
    have HM8:Hid (RM w8 base B co cb coff cc C W D av sv ⟨amL C (amR C r i),s.sv,s.ttl,s.sc⟩):=(HM7.out.alloc (Q #[J Z v,J Z l] 94)).grown hgrow HUB.out (yb (HM7.out.alloc (Q #[J Z v,J Z l] 94)).row (HU7.out.alloc (Q #[J Z v,J Z l] 94)) (by decide)) (fun k hk=>(HU7.out.lt k hk).1)
    have HB8:Hid (Below base w w8):=(HBB7.out.alloc hbs7 (Q #[J Z v,J Z l] 94)).grown hgrow hA3.out (fun k hk=>(HU7.out.lt k hk).1)
    have HU8:Hid (w8.ownsRow base 94 2 (O (some ⟨g,0,none⟩) ((amA C r i).length+1) cap) (amA C r (i+1)).length (mbC (amA C r (i+1)))):=by show World.ownsRow _ _ _ _ _ _ _;rw [HCP.out,List.length_append,q8];exact hown
    have HW8:Hid (w8.ownsRow base 3 1 (O wo (amW C r i).length wc) (amW C r i).length ((amW C r i).map (J Z))):=(HW7r.out.alloc (Q #[J Z v,J Z l] 94)).kept hgrow (yb (HW7r.out.alloc (Q #[J Z v,J Z l] 94)) (HU7.out.alloc (Q #[J Z v,J Z l] 94)) (by decide))
    have HUB8:Hid ((O (some ⟨g,0,none⟩) ((amA C r i).length+1) cap).ownBlock≠some B):=zs HU8.out HM8.out.blk (by decide)
    clear hown hgrow hat
    refine (qH base B co cb coff cc C W D av sv _ _ (by simp only;omega) HM8.out).mono ?_
    rintro e w9 ⟨rfl,hm9,hv9⟩
    have HM9:Hid _:=hm9
    have HB9:Hid (Below base w w9):=HB8.out.trans (hv9.below HHB.out HM8.out.bs)
    have HU9:Hid (w9.ownsRow base 94 2 (O (some ⟨g,0,none⟩) ((amA C r i).length+1) cap) (amA C r (i+1)).length (mbC (amA C r (i+1)))):=hv9.owns HU8.out HUB8.out
    have HW9:Hid (w9.ownsRow base 3 1 (O wo (amW C r i).length wc) (amW C r i).length ((amW C r i).map (J Z))):=hv9.owns HW8.out HWB.out
    have hbs9:base<=w9.heap.size:=hm9.bs
    clear hm9 hv9
    simp only
    have HYY:Hid (amW C r (i+1)=amW C r i++[rdN C (amL C (amR C r i)) 2]):=rfl
    generalize rdN C (amL C (amR C r i)) 2=y at *
    have hC1:Hid ((amW C r i).length+1<=maxLen):=by show _<=_;rw [HWLN.out];unfold maxLen;omega
    have hC2:Hid (((amW C r i).length+1)*8<=140737488355328):=by show _<=_;rw [HWLN.out];omega
    have hC3:Hid (base<=(w9.alloc (Q #[J Z y] 3)).heap.size):=by show _<=_;simp;omega
    have hcne:Hid (∀ u∈[J Z y],u.oneCell'=true):=fun u hu=>by simp at hu;subst hu;rfl
    go_wp2_with (at_builtin;refine wpList_append_lies _ rfl _ _ 25 rfl base 3 i0 _ 1 8 Tryz.underlying25 hi0 hz0 hz1 hz2 rfl (by decide) (O wo (amW C r i).length wc) _ _ rfl (HW9.out.alloc _) ⟨w9.heap.size,0,none⟩ 1 1 [J Z y] rfl rfl (World.news_of_block (cs:=#[J Z y]) (t:=3) (fr:=(0,0)) (heap_alloc_new w9 _)) hcne.out (Nat.lt_succ_self 0) hC1.out hC2.out hC3.out (w9.heap.size+1) (by simp) ?_;intro g2 cap2 w10 hown hgrow hat hlt10)
    have HM10:=(HM9.out.alloc (Q #[J Z y] 3)).grown hgrow HWB.out (by
     cases hsv:sv.ownBlock with
     | none=>exact .inl rfl
     | some b=>exact .inr (fun e=>HD.out b hsv e.symm)) (fun k hk=>(HW9.out.lt k hk).1)
    have HB10:=(HB9.out.alloc hbs9 (Q #[J Z y] 3)).grown hgrow hC3.out (fun k hk=>(HW9.out.lt k hk).1)
    have HU10:=(HU9.out.alloc (Q #[J Z y] 3)).kept hgrow (yb (HU9.out.alloc (Q #[J Z y] 3)) (HW9.out.alloc (Q #[J Z y] 3)) (by decide))
    have HW10:w10.ownsRow base 3 1 (O (some ⟨g2,0,none⟩) (amW C r (i+1)).length cap2) (amW C r (i+1)).length ((amW C r (i+1)).map (J Z)):=by rw [HYY.out,List.length_append,List.map_append];exact hown
    have HD10:∀ b,sv.ownBlock=some b->(O (some ⟨g2,0,none⟩) (amW C r (i+1)).length cap2).ownBlock≠some b:=fun b hb e=>by
     have e':g2=b:=by simpa [Value.ownBlock] using e
     rcases hat with h9 | h9
     ·exact HD.out b hb (by rw [h9,e'])
     ·have:=(HM9.out.row.lt b hb).2;omega
    clear hown hgrow hat
    go_roundg (gk-1)
    case measure=>omega
    case rel=>exact ⟨i+1,some ⟨g2,0,none⟩,cap2,by omega,by rw [HYY.out,List.length_append];rfl,by go_num,HM10,HU10,HW10,HD10,HB10⟩
  ·have hin:i=n:=by omega
   subst hin
   have hlt':¬ (i:Int)<(i:Int):=by omega
   have c3:=HM.out.c3
   obtain ⟨uo,uc,hu3,huc⟩:=zY HU.out
   subst hu3
   have HPS:Hid (∃ ug,PS wr uo ug i (arV C r) (arL C r)):=by
    rcases HU.out.2 with ⟨h1,h2⟩ | ⟨g,cap,cur,h1,h2,h3,_⟩
    ·exact ⟨0,⟨fun h=>by rw [HALN.out] at h2;omega,fun h=>by rw [HALN.out] at h2;omega,fun k hk=>by rw [HALN.out] at h2;omega,fun k hk=>by rw [HALN.out] at h2;omega⟩⟩
    ·have huo:uo=some ⟨g,0,none⟩:=by cases h1;rfl
     subst huo
     refine ⟨g,⟨fun _=>rfl,fun _=>lt_of_block h3,fun k hk=>?_,fun k hk=>?_⟩⟩
     ·have h9:=z6 (fun x:Int×Int=>[J Z x.1,J Z x.2]) (fun _=>rfl) HU.out (zbV C r i k hk) 0 (by decide)
      simpa using h9
     ·have h9:=z6 (fun x:Int×Int=>[J Z x.1,J Z x.2]) (fun _=>rfl) HU.out (zbV C r i k hk) 1 (by decide)
      simpa using h9
   obtain ⟨ug,hps⟩:=HPS.out
   have HL:Hid (Calls Tryz.prog 114 #[O uo (amA C r i).length uc,J Z W.addr] wr fun e w'=>e=.returned (.tuple #[J Z (M.bestTo (arV C r) (arL C r) W.addr i),J Z (M.depTo (arV C r) (arL C r) W.addr i)])/\Below wr.heap.size wr w'):=by
    show Calls _ _ _ _ _
    rw [HALN.out]
    exact Q5 uo ug i uc (arV C r) (arL C r) W.addr wr a0 a1 hc255 hps (fun k _=>⟨(Xn HBT.out _).1,(Xn HBT.out _).2,(qS HBT.out _).1,(qS HBT.out _).2⟩)
   have hbl:=Qh (V:=arV C r) (L:=arL C r) (a:=W.addr) i
   have hbg:-1<=M.bestTo (arV C r) (arL C r) W.addr i:=by
    have key:∀ m,-1<=M.bestTo (arV C r) (arL C r) W.addr m:=by
     intro m
     induction m with
     | zero=>simp [M.bestTo]
     | succ m ih=>simp only [M.bestTo];split<;>omega
    exact key i
   have HWY:Hid (∀ k,k<i->0<=arW C r k/\arW C r k<=65535):=fun k _=>xw HBT.out _
   clear hps
   generalize M.bestTo (arV C r) (arL C r) W.addr i=best at *
   generalize M.depTo (arV C r) (arL C r) W.addr i=dep at *
   go_wp2_with fail
   refine (Calls.mono HL.out) ?_
   rintro e w2 ⟨rfl,hb2⟩
   have HM2:Hid (RM w2 base B co cb coff cc C W D av sv ⟨amR C r i,s.sv,s.ttl,s.sc⟩):=HM.out.keep (hb2.block _ HM.out.lt) (fun g hg=>hb2.block g (HM.out.row.lt g hg).2) (fun b hb=>hb2.block b (by have:=HM.out.bs;omega))
   have HB2:Hid (Below base w w2):=HB.out.trans (hb2.mono HM.out.bs)
   have HW2:Hid (w2.ownsRow base 3 1 (O wo (amW C r i).length wc) (amW C r i).length ((amW C r i).map (J Z))):=zh HW.out (fun b hb=>hb2.block b (HW.out.lt b hb).2)
   clear hb2
   go_wp2_with fail
   refine (XQ base B co cb coff cc C W D av sv _ _ _ HM2.out).mono ?_
   rintro e w3 ⟨rfl,hm3,hv3⟩
   have HM3:Hid _:=hm3
   have HB3:Hid (Below base w w3):=HB2.out.trans (hv3.below HHB.out HM2.out.bs)
   have HW3:Hid (w3.ownsRow base 3 1 (O wo (amW C r i).length wc) (amW C r i).length ((amW C r i).map (J Z))):=hv3.owns HW2.out HWB.out
   have c1:=hm3.c1
   have z1:=hm3.fz 1
   simp only at c1
   clear hm3 hv3
   by_cases hb0:best<0
   ·have HE:Hid (yp W C s=⟨⟨(amR C r i).p,(amR C r i).b⟩,s.sv,s.ttl,nar dep s.sc⟩):=by show _=_;rw [HST.out,if_pos hb0];rfl
    have hb0':decide (0<=best)=false:=decide_eq_false (by omega)
    clear hb0
    go_wp2_with fail
    go_end0
    exact ⟨rfl,by rw [HE.out];exact HM3.out,HB3.out⟩
   ·obtain ⟨k,hk⟩:∃ k:Nat,best=k:=⟨best.toNat,by omega⟩
    subst hk
    have hki:k<i:=by omega
    have HE:Hid (yp W C s=⟨⟨(amR C r i).p+(arW C r k).toNat,(amR C r i).b⟩,s.sv,s.ttl,nar dep s.sc⟩):=by show _=_;rw [HST.out,if_neg hb0,Int.toNat_natCast]
    have hwy:=HWY.out k hki
    obtain ⟨wg,wc',hwg,_,_⟩:=HW3.out.form (by rw [HWLN.out];omega)
    obtain ⟨hwo,_⟩:wo=some ⟨wg,0,none⟩/\wc=wc':=by cases hwg;exact ⟨rfl,rfl⟩
    subst hwo
    have hyc:w3.cell? ⟨wg,k,none⟩=some (J Z (arW C r k)):=by
     rw [World.ownsRow.cellAt HW3.out k (by rw [HWLN.out];omega)]
     rw [List.getElem?_map,zdJ C r i k hki];rfl
    have hk':(k:Int)<((amW C r i).length:Int):=by rw [HWLN.out];omega
    have hk0:(0:Int)<=(k:Int):=by omega
    clear hwg hb0
    generalize arW C r k=y at *
    generalize amR C r i=p at *
    go_wp2_with fail
    go_region
    all_goals
     go_wp2_with fail
     go_end0
     exact ⟨rfl,by rw [HE.out];exact (HM3.out.drew).at (p.p+y.toNat) ((p.p:Int)+y) (by omega),(HB3.out.drew).setCell HHB.out _⟩
theorem zaJ (base B:Nat) (co:Option Addr) (cb coff cc:Nat) (C:List Int) (W:RW) (D:Array Value) (ao:Option Addr) (ab aoff ac:Nat) (sv:Value) (s:RT) (w:World) (hp:s.r.p<=900000000000000000-100000) (hsv:s.sv=[]) (hd:0<=W.draw) (a0:0<=W.addr) (a1:W.addr<4294967296) (hal:AS w base ao ab aoff W.al) (hln:W.al.length<=9223372036854775807) (h:RM w base B co cb coff cc C W D (O ao W.al.length ac) sv s) :
 Calls Tryz.prog 58 #[.pointer (some ⟨B,0,none⟩)] w fun e w'=>e=.returned (.bool (zD W C s).2)/\(∃ sv',RM w' base B co cb coff cc C W D (O ao W.al.length ac) sv' (zD W C s).1)/\Below base w w':=by
 have H:Hid _:=h
 have HBS:Hid _:=h.bs
 have HHB:Hid (base<=B):=h.hB
 have HAS:Hid _:=hal
 have HSV:Hid _:=hsv
 have hsl:s.sv.length<=100000:=by rw [hsv];simp
 clear h hal hsv
 go_enter Tryz.func58,Tryz.ntmps58
 go_wp2_with fail
 refine (QH base B co cb coff cc C W D _ sv s _ (by omega) H.out).mono ?_
 rintro e w1 ⟨rfl,hm,hv⟩
 have HM1:Hid _:=hm
 have HB1:Hid (Below base w w1):=hv.below HHB.out HBS.out
 have HA1:Hid (AS w1 base ao ab aoff W.al):=HAS.out.of_kept (fun b hb=>HB1.out.block b hb)
 have hpx:=zdn C s.r
 clear hm hv
 have HST:Hid (zD W C s=if nxV C s.r=123 then (Zn C ⟨nx C s.r,s.sv,s.ttl,s.sc⟩,true) else if nxV C s.r=119 then Zf W C ⟨nx C s.r,s.sv,s.ttl,s.sc⟩ else if nxV C s.r=102 then yG W C ⟨nx C s.r,s.sv,s.ttl,s.sc⟩ else if nxV C s.r=109 then (yp W C ⟨nx C s.r,s.sv,s.ttl,s.sc⟩,false) else if nxV C s.r=103 then (yY W C ⟨nx C s.r,s.sv,s.ttl,s.sc⟩,false) else if nxV C s.r=116 then (yy C ⟨nx C s.r,s.sv,s.ttl,s.sc⟩,false) else if nxV C s.r=64 then (ZB W C ⟨nx C s.r,s.sv,s.ttl,s.sc⟩,true) else (⟨⟨(nx C s.r).p,true⟩,s.sv,s.ttl,s.sc⟩,false)):=rfl
 generalize nxV C s.r=k at *
 obtain ⟨t,ht⟩:∃ t:RT,t=⟨nx C s.r,s.sv,s.ttl,s.sc⟩:=⟨_,rfl⟩
 have htp:t.r.p<=900000000000000000-90000:=by rw [ht];simp only;omega
 have htl:t.sv.length<=100000:=by rw [ht];exact hsl
 have HTV:Hid (t.sv=[]):=by show _=_;rw [ht];exact HSV.out
 have HTB:Hid ((⟨⟨(nx C s.r).p,true⟩,s.sv,s.ttl,s.sc⟩:RT)=⟨⟨t.r.p,true⟩,t.sv,t.ttl,t.sc⟩):=by show _=_;rw [ht]
 rw [HTB.out,<- ht] at HST
 rw [<- ht] at HM1
 clear ht HTB
 cases e123:(k==123) with
 | true =>
  have HE:Hid (zD W C s=(Zn C t,true)):=by show _=_;rw [HST.out,if_pos (by simpa using e123)]
  go_wp2_with fail
  refine (Qt base B co cb coff cc C W D _ sv t _ (by omega) htl HM1.out).mono ?_
  rintro e w2 ⟨rfl,⟨sv',hm2⟩,hb2⟩
  have HM2:Hid _:=hm2
  have HB2:Hid _:=HB1.out.trans hb2
  clear hm2 hb2
  go_wp2_with fail
  go_ret
  exact ⟨by rw [HE.out];rfl,⟨sv',by rw [HE.out];exact HM2.out⟩,HB2.out⟩
 | false =>
  cases e119:(k==119) with
  | true =>
   have HE:Hid (zD W C s=Zf W C t):=by show _=_;rw [HST.out,if_neg (by simpa using e123),if_pos (by simpa using e119)]
   go_wp2_with fail
   refine (za0 base B co cb coff cc C W D _ sv t _ (by omega) htl hd HM1.out).mono ?_
   rintro e w2 ⟨rfl,⟨sv',hm2⟩,hb2⟩
   have HM2:Hid _:=hm2
   have HB2:Hid _:=HB1.out.trans hb2
   clear hm2 hb2
   go_wp2_with fail
   go_ret
   exact ⟨by rw [HE.out];rfl,⟨sv',by rw [HE.out];exact HM2.out⟩,HB2.out⟩
  | false =>
   cases e102:(k==102) with
   | true =>
    have HE:Hid (zD W C s=yG W C t):=by show _=_;rw [HST.out,if_neg (by simpa using e123),if_neg (by simpa using e119),if_pos (by simpa using e102)]
    go_wp2_with fail
    refine (zaj base B co cb coff cc C W D _ sv t _ (by omega) htl HM1.out).mono ?_
    rintro e w2 ⟨rfl,⟨sv',hm2⟩,hb2⟩
    have HM2:Hid _:=hm2
    have HB2:Hid _:=HB1.out.trans hb2
    clear hm2 hb2
    go_wp2_with fail
    go_ret
    exact ⟨by rw [HE.out];rfl,⟨sv',by rw [HE.out];exact HM2.out⟩,HB2.out⟩
   | false =>
    cases e109:(k==109) with
    | true =>
     have HE:Hid (zD W C s=(yp W C t,false)):=by show _=_;rw [HST.out,if_neg (by simpa using e123),if_neg (by simpa using e119),if_neg (by simpa using e102),if_pos (by simpa using e109)]
     go_wp2_with fail
     refine (qT base B co cb coff cc C W D _ sv t _ (by omega) a0 a1 HM1.out).mono ?_
     rintro e w2 ⟨rfl,hm2,hb2⟩
     have HM2:Hid _:=hm2
     have HB2:Hid _:=HB1.out.trans hb2
     clear hm2 hb2
     go_wp2_with fail
     go_ret
     exact ⟨by rw [HE.out];rfl,⟨sv,by rw [HE.out];exact HM2.out⟩,HB2.out⟩
    | false =>
     cases e103:(k==103) with
     | true =>
      have HE:Hid (zD W C s=(yY W C t,false)):=by show _=_;rw [HST.out,if_neg (by simpa using e123),if_neg (by simpa using e119),if_neg (by simpa using e102),if_neg (by simpa using e109),if_pos (by simpa using e103)]
      go_wp2_with fail
      refine (Qx base B co cb coff cc C W D _ sv t _ (by omega) HM1.out).mono ?_
      rintro e w2 ⟨rfl,hm2,hb2⟩
      have HM2:Hid _:=hm2
      have HB2:Hid _:=HB1.out.trans hb2
      clear hm2 hb2
      go_wp2_with fail
      go_ret
      exact ⟨by rw [HE.out];rfl,⟨sv,by rw [HE.out];exact HM2.out⟩,HB2.out⟩
     | false =>
      cases e116:(k==116) with
      | true =>
       have HE:Hid (zD W C s=(yy C t,false)):=by show _=_;rw [HST.out,if_neg (by simpa using e123),if_neg (by simpa using e119),if_neg (by simpa using e102),if_neg (by simpa using e109),if_neg (by simpa using e103),if_pos (by simpa using e116)]
       go_wp2_with fail
       refine (Qv base B co cb coff cc C W D _ sv t _ (by omega) HM1.out).mono ?_
       rintro e w2 ⟨rfl,hm2,hv2⟩
       have hb2:=hv2.below HHB.out HM1.out.bs
       clear hv2
       have HM2:Hid _:=hm2
       have HB2:Hid _:=HB1.out.trans hb2
       clear hm2 hb2
       go_wp2_with fail
       go_ret
       exact ⟨by rw [HE.out];rfl,⟨sv,by rw [HE.out];exact HM2.out⟩,HB2.out⟩
      | false =>
       cases e64:(k==64) with
       | true =>
        have HE:Hid (zD W C s=(ZB W C t,true)):=by show _=_;rw [HST.out,if_neg (by simpa using e123),if_neg (by simpa using e119),if_neg (by simpa using e102),if_neg (by simpa using e109),if_neg (by simpa using e103),if_neg (by simpa using e116),if_pos (by simpa using e64)]
        go_wp2_with fail
        refine (zau base B co cb coff cc C W D ao ab aoff ac sv t _ (by omega) HTV.out HA1.out hln HM1.out).mono ?_
        rintro e w2 ⟨rfl,⟨sv',hm2⟩,hb2⟩
        have HM2:Hid _:=hm2
        have HB2:Hid _:=HB1.out.trans hb2
        clear hm2 hb2
        go_wp2_with fail
        go_ret
        exact ⟨by rw [HE.out];rfl,⟨sv',by rw [HE.out];exact HM2.out⟩,HB2.out⟩
       | false =>
        have HE:Hid (zD W C s=(⟨⟨t.r.p,true⟩,t.sv,t.ttl,t.sc⟩,false)):=by show _=_;rw [HST.out,if_neg (by simpa using e123),if_neg (by simpa using e119),if_neg (by simpa using e102),if_neg (by simpa using e109),if_neg (by simpa using e103),if_neg (by simpa using e116),if_neg (by simpa using e64)]
        have c2:=HM1.out.c2
        have z2:=HM1.out.fz 2
        go_wp2_with fail
        go_ret
        exact ⟨by rw [HE.out];rfl,⟨sv,by rw [HE.out];exact HM1.out.bad true⟩,HB1.out.setCell HHB.out _⟩
end Go.Proofs.YtaebngpoagjafabGreat
