import Derived.Test.YtaebngpoagjafabGreatU27
set_option maxRecDepth 100000
set_option maxHeartbeats 3200000
namespace Go.Proofs.YtaebngpoagjafabGreat
open Obj renaming cells → Q
open Value renaming int → J, slice → O
open IntKind renaming i64 → Z
open Go.RowKit
attribute [local go_sem ↓] Go.wp_at_zero Go.wp_at_succ
theorem QZ (base B:Nat) (co:Option Addr) (cb coff cc:Nat) (C:List Int) (W:RW) (D:Array Value) (av sv:Value) (s:RT) (w:World) (hp:s.r.p<=900000000000000000-10000) (a0:0<=W.addr) (a1:W.addr<4294967296) (h:RM w base B co cb coff cc C W D av sv s) :
 Calls Tryz.prog 109 #[.pointer (some ⟨B,0,none⟩)] w fun e w'=>e=.returned (.tuple #[])/\RM w' base B co cb coff cc C W D av sv (yy W C s)/\Below base w w':=by
 obtain ⟨i0,i1,g4,g3,g1⟩:=info_parts Tryz.infoInt
 obtain ⟨j0,h8,g7,g6,g5⟩:=info_parts Tryz.infoPrefix
 have H:Hid _:=h
 have U:Hid (∀ x∈C,0<=x/\x<256):=h.code.byt
 have o5:Hid _:=h.bs
 have S:Hid (base<=B):=h.hB
 clear h
 go_enter Tryz.func109,Tryz.ntmps109
 go_wp2_with fail
 refine (Yy base B co cb coff cc C W D av sv s _ (by omega) H.out).mono ?_
 rintro e w1 ⟨rfl,hm,hv⟩
 have n8:Hid (RM ((w1.alloc (Q #[] 94)).alloc (Q #[] 3)) base B co cb coff cc C W D av sv ⟨cnR C s.r,s.sv,s.ttl,s.sc⟩):=(hm.alloc _).alloc _
 have o7:Hid (Below base w ((w1.alloc (Q #[] 94)).alloc (Q #[] 3))):=((hv.below S.out o5.out).alloc hm.bs _).alloc (hm.alloc _).bs _
 have o8:Hid (((w1.alloc (Q #[] 94)).alloc (Q #[] 3)).ownsRow base 94 2 (O (some ⟨w1.heap.size,0,none⟩) 0 0) 0 []):=by
  refine World.ownsRow.alloc ?_ _
  exact ⟨rfl,.inr ⟨w1.heap.size,0,#[],rfl,hm.bs,zu _ rfl,Nat.le_refl _,by decide,rfl,rfl⟩⟩
 have n2:Hid (((w1.alloc (Q #[] 94)).alloc (Q #[] 3)).ownsRow base 3 1 (O (some ⟨w1.heap.size+1,0,none⟩) 0 0) 0 []):=⟨rfl,.inr ⟨w1.heap.size+1,0,#[],rfl,by have:=hm.bs;omega,zu _ (by simp),Nat.le_refl _,by decide,rfl,rfl⟩⟩
 have o4:Hid (∀ b,sv.ownBlock=some b->b≠w1.heap.size+1):=fun b f=>by have:=(hm.row.lt b f).2;omega
 clear hm hv
 obtain ⟨i3,e8⟩:=XN U.out s.r
 rw [i3]
 have i2:=Zp C s.r 1 1 16
 have i9:Hid (yy W C s=⟨⟨(amR C (cnR C s.r) (cnN C s.r)).p+(if M.bestTo (arV C (cnR C s.r)) (arL C (cnR C s.r)) W.addr (cnN C s.r)<0 then 0 else (arW C (cnR C s.r) (M.bestTo (arV C (cnR C s.r)) (arL C (cnR C s.r)) W.addr (cnN C s.r)).toNat).toNat),(amR C (cnR C s.r) (cnN C s.r)).b⟩,s.sv,s.ttl,nar (M.depTo (arV C (cnR C s.r)) (arL C (cnR C s.r)) W.addr (cnN C s.r)) s.sc⟩):=rfl
 have o9:(cnR C s.r).p<=s.r.p+1:=i2.2
 generalize cnN C s.r=n at *
 generalize cnR C s.r=r at *
 clear i3 i2
 go_wp2_with fail
 go_loopg [3,4,5] n (fun q u v y wr=>∃ (i:Nat) (X:Option Addr) (wc:Nat),q+i=n/\v=O X (amW C r i).length wc/\y=J Z i/\RM wr base B co cb coff cc C W D av sv ⟨amR C r i,s.sv,s.ttl,s.sc⟩/\wr.ownsRow base 94 2 u (amA C r i).length (mbC (amA C r i))/\wr.ownsRow base 3 1 (O X (amW C r i).length wc) (amW C r i).length ((amW C r i).map (J Z))/\(∀ b,sv.ownBlock=some b->(O X (amW C r i).length wc).ownBlock≠some b)/\Below base w wr)
 case atStart=>exact ⟨0,some ⟨w1.heap.size+1,0,none⟩,0,by omega,rfl,rfl,n8.out,o8.out,n2.out,fun b f e=>o4.out b f (by simpa [Value.ownBlock] using e.symm),o7.out⟩
 case round =>
  obtain ⟨i,X,wc,hq,rfl,rfl,hm,hu,hw,e1,f⟩:=hrel
  have HM:Hid _:=hm
  have HU:Hid (wr.ownsRow base 94 2 u3 (amA C r i).length (mbC (amA C r i))):=hu
  have HW:Hid (wr.ownsRow base 3 1 (O X (amW C r i).length wc) (amW C r i).length ((amW C r i).map (J Z))):=hw
  have HD:Hid _:=e1
  have f5:Hid (u3.ownBlock≠some B):=zk hu hm.blk (by decide)
  have a7:Hid ((O X (amW C r i).length wc).ownBlock≠some B):=zk hw hm.blk (by decide)
  have HB:Hid _:=f
  clear hm f hu hw e1
  have p6:=zfd C r i
  have E:Hid ((amA C r i).length=i):=qq C r i
  have A:Hid ((amW C r i).length=i):=qp C r i
  by_cases q1:i<n
  ·have h6:(i:Int)<(n:Int):=by omega
   have q0:=Zp C (amR C r i) 4 0 4294967295
   have p9:=Zp C (amV C (amR C r i)) 1 0 32
   have p7:(amV C (amR C r i)).p=(num C (amR C r i) 4 0 4294967295).p:=rfl
   have p8:(amL C (amR C r i)).p=(num C (amV C (amR C r i)) 1 0 32).p:=rfl
   have e9:base<=wr.heap.size:=HM.out.bs
   -- the arm's own block
   have k3:Hid (RM (wr.alloc (Q #[J Z 0,J Z 0] 94)) base B co cb coff cc C W D av sv ⟨amR C r i,s.sv,s.ttl,s.sc⟩):=HM.out.alloc _
   have n4:Hid ((wr.alloc (Q #[J Z 0,J Z 0] 94)).heap[wr.heap.size]?=some (Q #[J Z 0,J Z 0] 94 (0,0))):=heap_alloc_new wr _
   have b9:Hid (wr.heap.size≠B):=fun e=>by have:=HM.out.lt;omega
   have f6:Hid (∀ g,sv.ownBlock=some g->g<wr.heap.size):=fun g hg=>(HM.out.row.lt g hg).2
   go_wp2_with fail
   refine (yU base B co cb coff cc C W D av sv _ 4 0 4294967295 4 _ rfl (by decide) (by simp only;omega) k3.out).mono ?_
   rintro e w2 ⟨rfl,h4,d2⟩
   have d9:Hid _:=h4
   have o3:Hid (∀ b,b<wr.heap.size->b≠B->w2.heap[b]?=wr.heap[b]?):=fun b f hn=>(d2.kept b (by simp;omega) hn).trans (Below.heap_alloc _ _ _ f)
   have d4:w2.heap[wr.heap.size]?=some (Q #[J Z 0,J Z 0] 94 (0,0)):=(d2.kept _ (by simp) b9.out).trans n4.out
   have n6:Hid _:=d4
   have m0:Hid (Below base w w2):=(HB.out.alloc e9 _).trans (d2.below S.out k3.out.bs)
   have x0:w2.cell? ⟨wr.heap.size,0,none⟩=some (J Z 0):=by rw [cell_of_row _ _ _ _ _ _ d4];rfl
   have f0:w2.frozen? ⟨wr.heap.size,0,none⟩=false:=by simp [World.frozen?,d4]
   clear h4 d2 d4
   simp only
   have i8:Hid (arV C r i=rdN C (amR C r i) 4):=rfl
   have p4:=QY U.out (amR C r i)
   generalize rdN C (amR C r i) 4=v at *
   go_wp2_with fail
   -- the value is stored
   have c7:Hid (RM (w2.setCell ⟨wr.heap.size,0,none⟩ (J Z v)) base B co cb coff cc C W D av sv ⟨amV C (amR C r i),s.sv,s.ttl,s.sc⟩):=d9.out.keep (za b9.out.symm) (fun g hg=>za (by have:=f6.out g hg;omega)) (fun b f=>za (by omega))
   have k2:Hid ((w2.setCell ⟨wr.heap.size,0,none⟩ (J Z v)).heap[wr.heap.size]?=some (Q #[J Z v,J Z 0] 94 (0,0))):=by show _=_;rw [zU n6.out];rfl
   have o2:Hid (∀ b,b<wr.heap.size->b≠B->(w2.setCell ⟨wr.heap.size,0,none⟩ (J Z v)).heap[b]?=wr.heap[b]?):=fun b f hn=>(za (by omega)).trans (o3.out b f hn)
   have k9:Hid (Below base w (w2.setCell ⟨wr.heap.size,0,none⟩ (J Z v))):=m0.out.setCell e9 _
   clear x0 f0
   generalize w2.setCell ⟨wr.heap.size,0,none⟩ (J Z v)=w3 at *
   refine (yU base B co cb coff cc C W D av sv _ 1 0 32 1 _ rfl (by decide) (by simp only;omega) c7.out).mono ?_
   rintro e w4 ⟨rfl,h0,d1⟩
   have n7:Hid _:=h0
   have m8:wr.heap.size<w3.heap.size:=lt_of_block k2.out
   have o1:Hid (∀ b,b<wr.heap.size->b≠B->w4.heap[b]?=wr.heap[b]?):=fun b f hn=>(d1.kept b (by omega) hn).trans (o2.out b f hn)
   have a9:w4.heap[wr.heap.size]?=some (Q #[J Z v,J Z 0] 94 (0,0)):=(d1.kept _ m8 b9.out).trans k2.out
   have n5:Hid _:=a9
   have k8:Hid (Below base w w4):=k9.out.trans (d1.below S.out c7.out.bs)
   have x1:w4.cell? ⟨wr.heap.size,1,none⟩=some (J Z 0):=by rw [cell_of_row _ _ _ _ _ _ a9];rfl
   have f1:w4.frozen? ⟨wr.heap.size,1,none⟩=false:=by simp [World.frozen?,a9]
   have y0:w4.cell? ⟨wr.heap.size,0,none⟩=some (J Z v):=by rw [cell_of_row _ _ _ _ _ _ a9];rfl
   clear h0 d1 a9
   simp only
   have n9:Hid (arL C r i=rdN C (amV C (amR C r i)) 1):=rfl
   have g0:Hid (amL C (amR C r i)=⟨(num C (amV C (amR C r i)) 1 0 32).p,if M.isP (arV C r i) (rdN C (amV C (amR C r i)) 1)=true then (num C (amV C (amR C r i)) 1 0 32).b else true⟩):=rfl
   have q2:=qa U.out (amV C (amR C r i))
   generalize rdN C (amV C (amR C r i)) 1=l at *
   rw [i8.out] at g0
   go_wp2_with fail
   have f7:Hid (RM (w4.setCell ⟨wr.heap.size,1,none⟩ (J Z l)) base B co cb coff cc C W D av sv ⟨num C (amV C (amR C r i)) 1 0 32,s.sv,s.ttl,s.sc⟩):=n7.out.keep (za b9.out.symm) (fun g hg=>za (by have:=f6.out g hg;omega)) (fun b f=>za (by omega))
   have k1:Hid ((w4.setCell ⟨wr.heap.size,1,none⟩ (J Z l)).heap[wr.heap.size]?=some (Q #[J Z v,J Z l] 94 (0,0))):=by show _=_;rw [zU n5.out];rfl
   have o0:Hid (∀ b,b<wr.heap.size->b≠B->(w4.setCell ⟨wr.heap.size,1,none⟩ (J Z l)).heap[b]?=wr.heap[b]?):=fun b f hn=>(za (by omega)).trans (o1.out b f hn)
   have k7:Hid (Below base w (w4.setCell ⟨wr.heap.size,1,none⟩ (J Z l))):=k8.out.setCell e9 _
   clear x1 f1 y0
   generalize w4.setCell ⟨wr.heap.size,1,none⟩ (J Z l)=w5 at *
   refine (YS v l _).mono ?_
   rintro e Y ⟨rfl,a3⟩
   have m7:wr.heap.size<w5.heap.size:=lt_of_block k1.out
   have d8:Hid (RM Y base B co cb coff cc C W D av sv ⟨num C (amV C (amR C r i)) 1 0 32,s.sv,s.ttl,s.sc⟩):=f7.out.keep (a3.block _ f7.out.lt) (fun g hg=>a3.block g (by have:=f6.out g hg;omega)) (fun b f=>a3.block b (by omega))
   have d3:Y.heap[wr.heap.size]?=some (Q #[J Z v,J Z l] 94 (0,0)):=(a3.block _ m7).trans k1.out
   have k0:Hid _:=d3
   have k5:Hid (∀ b,b<wr.heap.size->b≠B->Y.heap[b]?=wr.heap[b]?):=fun b f hn=>(a3.block b (by omega)).trans (o0.out b f hn)
   have e4:Hid (Below base w Y):=k7.out.trans (a3.mono (by have:=f7.out.bs;omega))
   have y0:Y.cell? ⟨wr.heap.size,0,none⟩=some (J Z v):=by rw [cell_of_row _ _ _ _ _ _ d3];rfl
   have y1:Y.cell? ⟨wr.heap.size,1,none⟩=some (J Z l):=by rw [cell_of_row _ _ _ _ _ _ d3];rfl
   have c2:=d8.out.c2
   have z2:=d8.out.fz 2
   clear a3 d3
   -- bad or not: the run behind it
   obtain ⟨P,i6,c6,j1,k4,e3⟩:∃ P,Hid (P=if M.isP v l=true then Y else Y.setCell ⟨B,2,none⟩ (.bool true))/\Hid (RM P base B co cb coff cc C W D av sv ⟨amL C (amR C r i),s.sv,s.ttl,s.sc⟩)/\Hid (P.heap[wr.heap.size]?=some (Q #[J Z v,J Z l] 94 (0,0)))/\Hid (∀ b,b<wr.heap.size->b≠B->P.heap[b]?=wr.heap[b]?)/\Hid (Below base w P):=by
    by_cases hP:M.isP v l=true
    ·refine ⟨Y,by show _=_;rw [if_pos hP],?_,k0,k5,e4⟩
     show RM _ _ _ _ _ _ _ _ _ _ _ _ _
     rw [g0.out,if_pos hP]
     exact d8.out
    ·refine ⟨Y.setCell ⟨B,2,none⟩ (.bool true),by show _=_;rw [if_neg hP],?_,?_,fun b f hn=>(za hn).trans (k5.out b f hn),e4.out.setCell S.out _⟩
     ·show RM _ _ _ _ _ _ _ _ _ _ _ _ _
      rw [g0.out,if_neg hP]
      exact d8.out.bad true
     ·show _=_
      rw [za b9.out]
      exact k0.out
   have v0:P.cell? ⟨wr.heap.size,0,none⟩=some (J Z v):=by rw [cell_of_row _ _ _ _ _ _ j1.out];rfl
   have v1:P.cell? ⟨wr.heap.size,1,none⟩=some (J Z l):=by rw [cell_of_row _ _ _ _ _ _ j1.out];rfl
   have F:Hid (P.ownsRow base 94 2 u3 (amA C r i).length (mbC (amA C r i))):=zh HU.out (fun b f=>k4.out b (HU.out.lt b f).2 (fun e=>f5.out (by rw [<- e];exact f)))
   have a5:Hid (P.ownsRow base 3 1 (O X (amW C r i).length wc) (amW C r i).length ((amW C r i).map (J Z))):=zh HW.out (fun b f=>k4.out b (HW.out.lt b f).2 (fun e=>a7.out (by rw [<- e];exact f)))
   have e2:base<=P.heap.size:=c6.out.bs
   have i5:Hid ((amA C r i).length+1<=maxLen):=by show _<=_;rw [E.out];unfold maxLen;omega
   have i4:Hid (((amA C r i).length+1)*16<=140737488355328):=by show _<=_;rw [E.out];omega
   have d7:Hid (base<=(P.alloc (Q #[J Z v,J Z l] 94)).heap.size):=by show _<=_;simp;omega
   have e0:Hid (∀ u∈[J Z v,J Z l],u.oneCell'=true):=fun u hu=>by simp at hu;rcases hu with rfl | rfl<;>rfl
   have k6:Hid (amA C r (i+1)=amA C r i++[(v,l)]):=by show _=_;simp only [amA];rw [i8.out,n9.out]
   cases hP:M.isP v l with
   | true =>
    have a8:P=Y:=by rw [i6.out,if_pos hP]
    subst a8
    clear hP y0 y1
    go_wp2_with (at_builtin;refine wpList_append_lies _ rfl _ _ 98 rfl base 94 j0 _ 2 16 Tryz.underlying98 h8 g7 g6 g5 rfl (by decide) u3 _ _ rfl (F.out.alloc _) ⟨P.heap.size,0,none⟩ 1 1 [J Z v,J Z l] rfl rfl (World.news_of_block (cs:=#[J Z v,J Z l]) (t:=94) (fr:=(0,0)) (heap_alloc_new P _)) e0.out (Nat.lt_succ_self 0) i5.out i4.out d7.out (P.heap.size+1) (by simp) ?_;intro g R w8 j d I h5)
    have a4:Hid (RM w8 base B co cb coff cc C W D av sv ⟨amL C (amR C r i),s.sv,s.ttl,s.sc⟩):=(c6.out.alloc (Q #[J Z v,J Z l] 94)).grown d f5.out (zY (c6.out.alloc (Q #[J Z v,J Z l] 94)).row (F.out.alloc (Q #[J Z v,J Z l] 94)) (by decide)) (fun k o=>(F.out.lt k o).1)
    have f9:Hid (Below base w w8):=(e3.out.alloc e2 (Q #[J Z v,J Z l] 94)).grown d d7.out (fun k o=>(F.out.lt k o).1)
    have b7:Hid (w8.ownsRow base 94 2 (O (some ⟨g,0,none⟩) ((amA C r i).length+1) R) (amA C r (i+1)).length (mbC (amA C r (i+1)))):=by show World.ownsRow _ _ _ _ _ _ _;rw [k6.out,List.length_append,Q6];exact j
    have f4:Hid (w8.ownsRow base 3 1 (O X (amW C r i).length wc) (amW C r i).length ((amW C r i).map (J Z))):=(a5.out.alloc (Q #[J Z v,J Z l] 94)).kept d (zY (a5.out.alloc (Q #[J Z v,J Z l] 94)) (F.out.alloc (Q #[J Z v,J Z l] 94)) (by decide))
    have b5:Hid ((O (some ⟨g,0,none⟩) ((amA C r i).length+1) R).ownBlock≠some B):=zk b7.out a4.out.blk (by decide)
    clear j d I
    refine (QQ base B co cb coff cc C W D av sv _ _ (by simp only;omega) a4.out).mono ?_
    rintro e N ⟨rfl,a2,G⟩
    have c5:Hid _:=a2
    have f8:Hid (Below base w N):=f9.out.trans (G.below S.out a4.out.bs)
    have b6:Hid (N.ownsRow base 94 2 (O (some ⟨g,0,none⟩) ((amA C r i).length+1) R) (amA C r (i+1)).length (mbC (amA C r (i+1)))):=G.owns b7.out b5.out
    have K:Hid (N.ownsRow base 3 1 (O X (amW C r i).length wc) (amW C r i).length ((amW C r i).map (J Z))):=G.owns f4.out a7.out
    have b1:base<=N.heap.size:=a2.bs
    clear a2 G
    simp only
    have b3:Hid (amW C r (i+1)=amW C r i++[rdN C (amL C (amR C r i)) 2]):=rfl
    generalize rdN C (amL C (amR C r i)) 2=y at *
    have f3:Hid ((amW C r i).length+1<=maxLen):=by show _<=_;rw [A.out];unfold maxLen;omega
    have f2:Hid (((amW C r i).length+1)*8<=140737488355328):=by show _<=_;rw [A.out];omega
    have b2:Hid (base<=(N.alloc (Q #[J Z y] 3)).heap.size):=by show _<=_;simp;omega
    have b0:Hid (∀ u∈[J Z y],u.oneCell'=true):=fun u hu=>by simp at hu;subst hu;rfl
    go_wp2_with (at_builtin;refine wpList_append_lies _ rfl _ _ 25 rfl base 3 i0 _ 1 8 Tryz.underlying25 i1 g4 g3 g1 rfl (by decide) (O X (amW C r i).length wc) _ _ rfl (K.out.alloc _) ⟨N.heap.size,0,none⟩ 1 1 [J Z y] rfl rfl (World.news_of_block (cs:=#[J Z y]) (t:=3) (fr:=(0,0)) (heap_alloc_new N _)) b0.out (Nat.lt_succ_self 0) f3.out f2.out b2.out (N.heap.size+1) (by simp) ?_;intro g2 z e5 j d I e7)
    have c8:=(c5.out.alloc (Q #[J Z y] 3)).grown d a7.out (by
     cases hsv:sv.ownBlock with
     | none=>exact .inl rfl
     | some b=>exact .inr (fun e=>HD.out b hsv e.symm)) (fun k o=>(K.out.lt k o).1)
    have d0:=(f8.out.alloc b1 (Q #[J Z y] 3)).grown d b2.out (fun k o=>(K.out.lt k o).1)
    have b8:=(b6.out.alloc (Q #[J Z y] 3)).kept d (zY (b6.out.alloc (Q #[J Z y] 3)) (K.out.alloc (Q #[J Z y] 3)) (by decide))
    have b4:e5.ownsRow base 3 1 (O (some ⟨g2,0,none⟩) (amW C r (i+1)).length z) (amW C r (i+1)).length ((amW C r (i+1)).map (J Z)):=by rw [b3.out,List.length_append,List.map_append];exact j
    have c9:∀ b,sv.ownBlock=some b->(O (some ⟨g2,0,none⟩) (amW C r (i+1)).length z).ownBlock≠some b:=fun b f e=>by
     have e':g2=b:=by simpa [Value.ownBlock] using e
     rcases I with h9 | h9
     ·exact HD.out b f (by rw [h9,e'])
     ·have:=(c5.out.row.lt b f).2;omega
    clear j d I
    go_roundg (gk-1)
    case measure=>omega
    case rel=>exact ⟨i+1,some ⟨g2,0,none⟩,z,by omega,by rw [b3.out,List.length_append];rfl,by go_num,c8,b8,b4,c9,d0⟩
   | false =>
    have a8:P=Y.setCell ⟨B,2,none⟩ (.bool true):=by rw [i6.out,if_neg (by rw [hP];decide)]
    clear hP
    subst a8
    go_wp2_with (at_builtin;refine wpList_append_lies _ rfl _ _ 98 rfl base 94 j0 _ 2 16 Tryz.underlying98 h8 g7 g6 g5 rfl (by decide) u3 _ _ rfl (F.out.alloc _) ⟨Y.heap.size,0,none⟩ 1 1 [J Z v,J Z l] rfl rfl (World.news_of_block (cs:=#[J Z v,J Z l]) (t:=94) (fr:=(0,0)) (zu (w:=(Y.setCell ⟨B,2,none⟩ (.bool true))) _ (by simp [World.setCell]))) e0.out (Nat.lt_succ_self 0) i5.out i4.out d7.out (Y.heap.size+1) (by simp [World.setCell]) ?_;intro g R w8 j d I h5)
    have a4:Hid (RM w8 base B co cb coff cc C W D av sv ⟨amL C (amR C r i),s.sv,s.ttl,s.sc⟩):=(c6.out.alloc (Q #[J Z v,J Z l] 94)).grown d f5.out (zY (c6.out.alloc (Q #[J Z v,J Z l] 94)).row (F.out.alloc (Q #[J Z v,J Z l] 94)) (by decide)) (fun k o=>(F.out.lt k o).1)
    have f9:Hid (Below base w w8):=(e3.out.alloc e2 (Q #[J Z v,J Z l] 94)).grown d d7.out (fun k o=>(F.out.lt k o).1)
    have b7:Hid (w8.ownsRow base 94 2 (O (some ⟨g,0,none⟩) ((amA C r i).length+1) R) (amA C r (i+1)).length (mbC (amA C r (i+1)))):=by show World.ownsRow _ _ _ _ _ _ _;rw [k6.out,List.length_append,Q6];exact j
    have f4:Hid (w8.ownsRow base 3 1 (O X (amW C r i).length wc) (amW C r i).length ((amW C r i).map (J Z))):=(a5.out.alloc (Q #[J Z v,J Z l] 94)).kept d (zY (a5.out.alloc (Q #[J Z v,J Z l] 94)) (F.out.alloc (Q #[J Z v,J Z l] 94)) (by decide))
    have b5:Hid ((O (some ⟨g,0,none⟩) ((amA C r i).length+1) R).ownBlock≠some B):=zk b7.out a4.out.blk (by decide)
    clear j d I
    refine (QQ base B co cb coff cc C W D av sv _ _ (by simp only;omega) a4.out).mono ?_
    rintro e N ⟨rfl,a2,G⟩
    have c5:Hid _:=a2
    have f8:Hid (Below base w N):=f9.out.trans (G.below S.out a4.out.bs)
    have b6:Hid (N.ownsRow base 94 2 (O (some ⟨g,0,none⟩) ((amA C r i).length+1) R) (amA C r (i+1)).length (mbC (amA C r (i+1)))):=G.owns b7.out b5.out
    have K:Hid (N.ownsRow base 3 1 (O X (amW C r i).length wc) (amW C r i).length ((amW C r i).map (J Z))):=G.owns f4.out a7.out
    have b1:base<=N.heap.size:=a2.bs
    clear a2 G
    simp only
    have b3:Hid (amW C r (i+1)=amW C r i++[rdN C (amL C (amR C r i)) 2]):=rfl
    generalize rdN C (amL C (amR C r i)) 2=y at *
    have f3:Hid ((amW C r i).length+1<=maxLen):=by show _<=_;rw [A.out];unfold maxLen;omega
    have f2:Hid (((amW C r i).length+1)*8<=140737488355328):=by show _<=_;rw [A.out];omega
    have b2:Hid (base<=(N.alloc (Q #[J Z y] 3)).heap.size):=by show _<=_;simp;omega
    have b0:Hid (∀ u∈[J Z y],u.oneCell'=true):=fun u hu=>by simp at hu;subst hu;rfl
    go_wp2_with (at_builtin;refine wpList_append_lies _ rfl _ _ 25 rfl base 3 i0 _ 1 8 Tryz.underlying25 i1 g4 g3 g1 rfl (by decide) (O X (amW C r i).length wc) _ _ rfl (K.out.alloc _) ⟨N.heap.size,0,none⟩ 1 1 [J Z y] rfl rfl (World.news_of_block (cs:=#[J Z y]) (t:=3) (fr:=(0,0)) (heap_alloc_new N _)) b0.out (Nat.lt_succ_self 0) f3.out f2.out b2.out (N.heap.size+1) (by simp) ?_;intro g2 z e5 j d I e7)
    have c8:=(c5.out.alloc (Q #[J Z y] 3)).grown d a7.out (by
     cases hsv:sv.ownBlock with
     | none=>exact .inl rfl
     | some b=>exact .inr (fun e=>HD.out b hsv e.symm)) (fun k o=>(K.out.lt k o).1)
    have d0:=(f8.out.alloc b1 (Q #[J Z y] 3)).grown d b2.out (fun k o=>(K.out.lt k o).1)
    have b8:=(b6.out.alloc (Q #[J Z y] 3)).kept d (zY (b6.out.alloc (Q #[J Z y] 3)) (K.out.alloc (Q #[J Z y] 3)) (by decide))
    have b4:e5.ownsRow base 3 1 (O (some ⟨g2,0,none⟩) (amW C r (i+1)).length z) (amW C r (i+1)).length ((amW C r (i+1)).map (J Z)):=by rw [b3.out,List.length_append,List.map_append];exact j
    have c9:∀ b,sv.ownBlock=some b->(O (some ⟨g2,0,none⟩) (amW C r (i+1)).length z).ownBlock≠some b:=fun b f e=>by
     have e':g2=b:=by simpa [Value.ownBlock] using e
     rcases I with h9 | h9
     ·exact HD.out b f (by rw [h9,e'])
     ·have:=(c5.out.row.lt b f).2;omega
    clear j d I
    go_roundg (gk-1)
    case measure=>omega
    case rel=>exact ⟨i+1,some ⟨g2,0,none⟩,z,by omega,by rw [b3.out,List.length_append];rfl,by go_num,c8,b8,b4,c9,d0⟩
  ·have m9:i=n:=by omega
   subst m9
   have h6:¬ (i:Int)<(i:Int):=by omega
   have c3:=HM.out.c3
   obtain ⟨uo,uc,m6,p5⟩:=z9 HU.out
   subst m6
   have n3:Hid (∃ ug,PS wr uo ug i (arV C r) (arL C r)):=by
    rcases HU.out.2 with ⟨h1,h2⟩ | ⟨g,R,cur,h1,h2,h3,_⟩
    ·exact ⟨0,⟨fun h=>by rw [E.out] at h2;omega,fun h=>by rw [E.out] at h2;omega,fun k o=>by rw [E.out] at h2;omega,fun k o=>by rw [E.out] at h2;omega⟩⟩
    ·have m5:uo=some ⟨g,0,none⟩:=by cases h1;rfl
     subst m5
     refine ⟨g,⟨fun _=>rfl,fun _=>lt_of_block h3,fun k o=>?_,fun k o=>?_⟩⟩
     ·have h9:=ye (fun x:Int×Int=>[J Z x.1,J Z x.2]) (fun _=>rfl) HU.out (zdD C r i k o) 0 (by decide)
      simpa using h9
     ·have h9:=ye (fun x:Int×Int=>[J Z x.1,J Z x.2]) (fun _=>rfl) HU.out (zdD C r i k o) 1 (by decide)
      simpa using h9
   obtain ⟨ug,g9⟩:=n3.out
   have HL:Hid (Calls Tryz.prog 114 #[O uo (amA C r i).length uc,J Z W.addr] wr fun e w'=>e=.returned (.tuple #[J Z (M.bestTo (arV C r) (arL C r) W.addr i),J Z (M.depTo (arV C r) (arL C r) W.addr i)])/\Below wr.heap.size wr w'):=by
    show Calls _ _ _ _ _
    rw [E.out]
    exact Jj uo ug i uc (arV C r) (arL C r) W.addr wr a0 a1 e8 g9 (fun k _=>⟨(qa U.out _).1,(qa U.out _).2,(QY U.out _).1,(QY U.out _).2⟩)
   have q5:=jn (V:=arV C r) (L:=arL C r) (a:=W.addr) i
   have q6:-1<=M.bestTo (arV C r) (arL C r) W.addr i:=by
    have m3:∀ m,-1<=M.bestTo (arV C r) (arL C r) W.addr m:=by
     intro m
     induction m with
     | zero=>simp [M.bestTo]
     | succ m ih=>simp only [M.bestTo];split<;>omega
    exact m3 i
   have n0:Hid (∀ k,k<i->0<=arW C r k/\arW C r k<=65535):=fun k _=>Xf U.out _
   clear g9
   generalize M.bestTo (arV C r) (arL C r) W.addr i=best at *
   generalize M.depTo (arV C r) (arL C r) W.addr i=dep at *
   go_wp2_with fail
   refine (Calls.mono HL.out) ?_
   rintro e w2 ⟨rfl,a6⟩
   have d9:Hid (RM w2 base B co cb coff cc C W D av sv ⟨amR C r i,s.sv,s.ttl,s.sc⟩):=HM.out.keep (a6.block _ HM.out.lt) (fun g hg=>a6.block g (HM.out.row.lt g hg).2) (fun b f=>a6.block b (by have:=HM.out.bs;omega))
   have o6:Hid (Below base w w2):=HB.out.trans (a6.mono HM.out.bs)
   have n1:Hid (w2.ownsRow base 3 1 (O X (amW C r i).length wc) (amW C r i).length ((amW C r i).map (J Z))):=zh HW.out (fun b f=>a6.block b (HW.out.lt b f).2)
   clear a6
   go_wp2_with fail
   refine (qO base B co cb coff cc C W D av sv _ _ _ d9.out).mono ?_
   rintro e w3 ⟨rfl,d5,e6⟩
   have c7:Hid _:=d5
   have m1:Hid (Below base w w3):=o6.out.trans (e6.below S.out d9.out.bs)
   have i7:Hid (w3.ownsRow base 3 1 (O X (amW C r i).length wc) (amW C r i).length ((amW C r i).map (J Z))):=e6.owns n1.out a7.out
   have c1:=d5.c1
   have z1:=d5.fz 1
   simp only at c1
   clear d5 e6
   by_cases d6:best<0
   ·have HE:Hid (yy W C s=⟨⟨(amR C r i).p,(amR C r i).b⟩,s.sv,s.ttl,nar dep s.sc⟩):=by show _=_;rw [i9.out,if_pos d6];rfl
    have p0:decide (0<=best)=false:=decide_eq_false (by omega)
    clear d6
    go_wp2_with fail
    go_end0
    exact ⟨rfl,by rw [HE.out];exact c7.out,m1.out⟩
   ·obtain ⟨k,o⟩:∃ k:Nat,best=k:=⟨best.toNat,by omega⟩
    subst o
    have h7:k<i:=by omega
    have HE:Hid (yy W C s=⟨⟨(amR C r i).p+(arW C r k).toNat,(amR C r i).b⟩,s.sv,s.ttl,nar dep s.sc⟩):=by show _=_;rw [i9.out,if_neg d6,Int.toNat_natCast]
    have p3:=n0.out k h7
    obtain ⟨wg,m2,g8,_,_⟩:=i7.out.form (by rw [A.out];omega)
    obtain ⟨m4,_⟩:X=some ⟨wg,0,none⟩/\wc=m2:=by cases g8;exact ⟨rfl,rfl⟩
    subst m4
    have p1:w3.cell? ⟨wg,k,none⟩=some (J Z (arW C r k)):=by
     rw [World.ownsRow.cellAt i7.out k (by rw [A.out];omega)]
     rw [List.getElem?_map,zfP C r i k h7];rfl
    have q4:(k:Int)<((amW C r i).length:Int):=by rw [A.out];omega
    have q3:(0:Int)<=(k:Int):=by omega
    clear g8 d6
    generalize arW C r k=y at *
    generalize amR C r i=p at *
    go_wp2_with fail
    go_region
    all_goals
     go_wp2_with fail
     go_end0
     exact ⟨rfl,by rw [HE.out];exact (c7.out.drew).at (p.p+y.toNat) ((p.p:Int)+y) (by omega),(m1.out.drew).setCell S.out _⟩
theorem zb8 (base B:Nat) (co:Option Addr) (cb coff cc:Nat) (C:List Int) (W:RW) (D:Array Value) (ao:Option Addr) (ab aoff ac:Nat) (sv:Value) (s:RT) (w:World) (hp:s.r.p<=900000000000000000-100000) (hsv:s.sv=[]) (hd:0<=W.draw) (a0:0<=W.addr) (a1:W.addr<4294967296) (hal:AS w base ao ab aoff W.al) (hln:W.al.length<=9223372036854775807) (h:RM w base B co cb coff cc C W D (O ao W.al.length ac) sv s) :
 Calls Tryz.prog 58 #[.pointer (some ⟨B,0,none⟩)] w fun e w'=>e=.returned (.bool (zE W C s).2)/\(∃ sv',RM w' base B co cb coff cc C W D (O ao W.al.length ac) sv' (zE W C s).1)/\Below base w w':=by
 have H:Hid _:=h
 have E:Hid _:=h.bs
 have q:Hid (base<=B):=h.hB
 have F:Hid _:=hal
 have A:Hid _:=hsv
 have y:s.sv.length<=100000:=by rw [hsv];simp
 clear h hal hsv
 go_enter Tryz.func58,Tryz.ntmps58
 go_wp2_with fail
 refine (jQ base B co cb coff cc C W D _ sv s _ (by omega) H.out).mono ?_
 rintro e I ⟨rfl,K,J⟩
 have i:Hid _:=K
 have m:Hid (Below base w I):=J.below q.out E.out
 have G:Hid (AS I base ao ab aoff W.al):=F.out.of_kept (fun b hb=>m.out.block b hb)
 have N:=zfr C s.r
 clear K J
 have l:Hid (zE W C s=if nxV C s.r=123 then (ZC C ⟨nx C s.r,s.sv,s.ttl,s.sc⟩,true) else if nxV C s.r=119 then Zu W C ⟨nx C s.r,s.sv,s.ttl,s.sc⟩ else if nxV C s.r=102 then yS W C ⟨nx C s.r,s.sv,s.ttl,s.sc⟩ else if nxV C s.r=109 then (yy W C ⟨nx C s.r,s.sv,s.ttl,s.sc⟩,false) else if nxV C s.r=103 then (Zo W C ⟨nx C s.r,s.sv,s.ttl,s.sc⟩,false) else if nxV C s.r=116 then (yI C ⟨nx C s.r,s.sv,s.ttl,s.sc⟩,false) else if nxV C s.r=64 then (ZY W C ⟨nx C s.r,s.sv,s.ttl,s.sc⟩,true) else (⟨⟨(nx C s.r).p,true⟩,s.sv,s.ttl,s.sc⟩,false)):=rfl
 generalize nxV C s.r=k at *
 obtain ⟨t,o⟩:∃ t:RT,t=⟨nx C s.r,s.sv,s.ttl,s.sc⟩:=⟨_,rfl⟩
 have L:t.r.p<=900000000000000000-90000:=by rw [o];simp only;omega
 have n:t.sv.length<=100000:=by rw [o];exact y
 have z:Hid (t.sv=[]):=by show _=_;rw [o];exact A.out
 have x:Hid ((⟨⟨(nx C s.r).p,true⟩,s.sv,s.ttl,s.sc⟩:RT)=⟨⟨t.r.p,true⟩,t.sv,t.ttl,t.sc⟩):=by show _=_;rw [o]
 rw [x.out,<- o] at l
 rw [<- o] at i
 clear o x
 cases e123:(k==123) with
 | true =>
  have j:Hid (zE W C s=(ZC C t,true)):=by show _=_;rw [l.out,if_pos (by simpa using e123)]
  go_wp2_with fail
  refine (jC base B co cb coff cc C W D _ sv t _ (by omega) n i.out).mono ?_
  rintro e u ⟨rfl,⟨sv',a⟩,d⟩
  have f:Hid _:=a
  have g:Hid _:=m.out.trans d
  clear a d
  go_wp2_with fail
  go_ret
  exact ⟨by rw [j.out];rfl,⟨sv',by rw [j.out];exact f.out⟩,g.out⟩
 | false =>
  cases e119:(k==119) with
  | true =>
   have j:Hid (zE W C s=Zu W C t):=by show _=_;rw [l.out,if_neg (by simpa using e123),if_pos (by simpa using e119)]
   go_wp2_with fail
   refine (zcq base B co cb coff cc C W D _ sv t _ (by omega) n hd i.out).mono ?_
   rintro e u ⟨rfl,⟨sv',a⟩,d⟩
   have f:Hid _:=a
   have g:Hid _:=m.out.trans d
   clear a d
   go_wp2_with fail
   go_ret
   exact ⟨by rw [j.out];rfl,⟨sv',by rw [j.out];exact f.out⟩,g.out⟩
  | false =>
   cases e102:(k==102) with
   | true =>
    have j:Hid (zE W C s=yS W C t):=by show _=_;rw [l.out,if_neg (by simpa using e123),if_neg (by simpa using e119),if_pos (by simpa using e102)]
    go_wp2_with fail
    refine (zbK base B co cb coff cc C W D _ sv t _ (by omega) n i.out).mono ?_
    rintro e u ⟨rfl,⟨sv',a⟩,d⟩
    have f:Hid _:=a
    have g:Hid _:=m.out.trans d
    clear a d
    go_wp2_with fail
    go_ret
    exact ⟨by rw [j.out];rfl,⟨sv',by rw [j.out];exact f.out⟩,g.out⟩
   | false =>
    cases e109:(k==109) with
    | true =>
     have j:Hid (zE W C s=(yy W C t,false)):=by show _=_;rw [l.out,if_neg (by simpa using e123),if_neg (by simpa using e119),if_neg (by simpa using e102),if_pos (by simpa using e109)]
     go_wp2_with fail
     refine (QZ base B co cb coff cc C W D _ sv t _ (by omega) a0 a1 i.out).mono ?_
     rintro e u ⟨rfl,a,d⟩
     have f:Hid _:=a
     have g:Hid _:=m.out.trans d
     clear a d
     go_wp2_with fail
     go_ret
     exact ⟨by rw [j.out];rfl,⟨sv,by rw [j.out];exact f.out⟩,g.out⟩
    | false =>
     cases e103:(k==103) with
     | true =>
      have j:Hid (zE W C s=(Zo W C t,false)):=by show _=_;rw [l.out,if_neg (by simpa using e123),if_neg (by simpa using e119),if_neg (by simpa using e102),if_neg (by simpa using e109),if_pos (by simpa using e103)]
      go_wp2_with fail
      refine (jF base B co cb coff cc C W D _ sv t _ (by omega) i.out).mono ?_
      rintro e u ⟨rfl,a,d⟩
      have f:Hid _:=a
      have g:Hid _:=m.out.trans d
      clear a d
      go_wp2_with fail
      go_ret
      exact ⟨by rw [j.out];rfl,⟨sv,by rw [j.out];exact f.out⟩,g.out⟩
     | false =>
      cases e116:(k==116) with
      | true =>
       have j:Hid (zE W C s=(yI C t,false)):=by show _=_;rw [l.out,if_neg (by simpa using e123),if_neg (by simpa using e119),if_neg (by simpa using e102),if_neg (by simpa using e109),if_neg (by simpa using e103),if_pos (by simpa using e116)]
       go_wp2_with fail
       refine (jD base B co cb coff cc C W D _ sv t _ (by omega) i.out).mono ?_
       rintro e u ⟨rfl,a,v⟩
       have d:=v.below q.out i.out.bs
       clear v
       have f:Hid _:=a
       have g:Hid _:=m.out.trans d
       clear a d
       go_wp2_with fail
       go_ret
       exact ⟨by rw [j.out];rfl,⟨sv,by rw [j.out];exact f.out⟩,g.out⟩
      | false =>
       cases e64:(k==64) with
       | true =>
        have j:Hid (zE W C s=(ZY W C t,true)):=by show _=_;rw [l.out,if_neg (by simpa using e123),if_neg (by simpa using e119),if_neg (by simpa using e102),if_neg (by simpa using e109),if_neg (by simpa using e103),if_neg (by simpa using e116),if_pos (by simpa using e64)]
        go_wp2_with fail
        refine (zbV base B co cb coff cc C W D ao ab aoff ac sv t _ (by omega) z.out G.out hln i.out).mono ?_
        rintro e u ⟨rfl,⟨sv',a⟩,d⟩
        have f:Hid _:=a
        have g:Hid _:=m.out.trans d
        clear a d
        go_wp2_with fail
        go_ret
        exact ⟨by rw [j.out];rfl,⟨sv',by rw [j.out];exact f.out⟩,g.out⟩
       | false =>
        have j:Hid (zE W C s=(⟨⟨t.r.p,true⟩,t.sv,t.ttl,t.sc⟩,false)):=by show _=_;rw [l.out,if_neg (by simpa using e123),if_neg (by simpa using e119),if_neg (by simpa using e102),if_neg (by simpa using e109),if_neg (by simpa using e103),if_neg (by simpa using e116),if_neg (by simpa using e64)]
        have c2:=i.out.c2
        have P:=i.out.fz 2
        go_wp2_with fail
        go_ret
        exact ⟨by rw [j.out];rfl,⟨sv,by rw [j.out];exact i.out.bad true⟩,m.out.setCell q.out _⟩
end Go.Proofs.YtaebngpoagjafabGreat
