import Derived.Test.YtaebngpoagjafaaJ08
set_option maxRecDepth 100000
set_option maxHeartbeats 1600000
namespace Go.Proofs.Ytaebngpoagjafaa
open Obj renaming cells → X
open Value renaming int → J, slice → Q
open IntKind renaming i64 → Z, u8 → O
open Go.RowKit
attribute [local go_sem ↓] Go.wp_at_zero Go.wp_at_succ
section
def yZ (rs:List RL) (f:Int×Int):Nat->Int×Int
 | 0=>f
 | j+1=>match rs[j]? with
  | some r=>if yA r.nv (rs.take j)=-1 then yZ rs f j else fnd (yZ rs f j) 5 r.na
  | none=>yZ rs f j
def Ye (es:List EX) (f:Int×Int):Nat->Int×Int
 | 0=>f
 | j+1=>match es[j]? with
  | some e=>yR e.kind e.items (Yz e (Ye es f j)) e.items.length
  | none=>Ye es f j
def Yq (es:List EX) (rs:List RL):Int×Int:=Ye es (yZ rs (0,0) rs.length) es.length
structure PV (w:World) (eo ro:Option Addr) (ec rc:Nat) (es:List (EX×Value)) (rs:List RL):Prop where
 lr:rs.length<=rc
 nr:rs.length<=100000
 ne:es.length<=100000
 hr:∀ i r,rs[i]?=some r->∃ g,ro=some ⟨g,0,none⟩/\g<w.heap.size/\w.cell? ⟨g,i*3,none⟩=some (J Z r.nv)/\w.cell? ⟨g,i*3+1,none⟩=some (J Z r.na)/\w.cell? ⟨g,i*3+2,none⟩=some (J Z r.ex)
 he:∀ i x,es[i]?=some x->∃ g vo vm vc,eo=some ⟨g,0,none⟩/\g<w.heap.size/\w.cell? ⟨g,i*7,none⟩=some (J O x.1.kind)/\w.cell? ⟨g,i*7+1,none⟩=some (J Z x.1.at_)/\w.cell? ⟨g,i*7+2,none⟩=some (J Z x.1.depth)/\w.cell? ⟨g,i*7+3,none⟩=some (J Z x.1.nv)/\w.cell? ⟨g,i*7+4,none⟩=some (J Z x.1.na)/\w.cell? ⟨g,i*7+5,none⟩=some (Q vo vm vc)/\w.cell? ⟨g,i*7+6,none⟩=some (J Z x.1.inner)/\x.2=Q vo vm vc/\IV w (Q vo vm vc) x.1.items/\(∀ q,(Q vo vm vc).ownBlock=some q->q<w.heap.size)/\x.1.items.length<=100000
attribute [local go_sem] zC zu
theorem Qj (eo ro:Option Addr) (ec rc:Nat) (es:List (EX×Value)) (rs:List RL) (w:World) (h:PV w eo ro ec rc es rs) (f':Int×Int) (hf:Hid (Yq (es.map Prod.fst) rs=f')) :
 Calls Try.prog 35 #[.agg #[Q eo es.length ec,Q ro rs.length rc]] w fun r w'=>r=.returned (.agg #[J Z f'.1,J Z f'.2])/\Below w.heap.size w w':=by
 have H:Hid (FM (((w.alloc (X #[Q eo es.length ec,Q ro rs.length rc] 68)).alloc (X #[J Z 0,J Z 0] 75)).alloc (X #[J Z 0,J Z 0] 75)) (w.heap.size+1+1) (0,0)):=zt _ (by simp)
 have HB:Hid (Below w.heap.size w (((w.alloc (X #[Q eo es.length ec,Q ro rs.length rc] 68)).alloc (X #[J Z 0,J Z 0] 75)).alloc (X #[J Z 0,J Z 0] 75))):=(((Below.refl _ _).alloc (Nat.le_refl _) _).alloc (by simp) _).alloc (by simp;omega) _
 have HP:Hid ((((w.alloc (X #[Q eo es.length ec,Q ro rs.length rc] 68)).alloc (X #[J Z 0,J Z 0] 75)).alloc (X #[J Z 0,J Z 0] 75)).heap[w.heap.size]?=some (X #[Q eo es.length ec,Q ro rs.length rc] 68 (0,0))):=(Below.heap_alloc _ _ _ (by simp;omega)).trans ((Below.heap_alloc _ _ _ (by simp)).trans (heap_alloc_new w _))
 have HR:Hid ((((w.alloc (X #[Q eo es.length ec,Q ro rs.length rc] 68)).alloc (X #[J Z 0,J Z 0] 75)).alloc (X #[J Z 0,J Z 0] 75)).heap[w.heap.size+1]?=some (X #[J Z 0,J Z 0] 75 (0,0))):=(Below.heap_alloc _ _ _ (by simp)).trans (zt _ (by simp))
 have hlr:=h.lr
 have hnr:=h.nr
 have hne:=h.ne
 have HH:Hid _:=h
 clear h
 have hPF:w.heap.size≠(w.heap.size+1+1):=by omega
 have hRF:w.heap.size+1≠(w.heap.size+1+1):=by omega
 go_enter Try.func35,Try.ntmps35
 go_wp2_with fail
 generalize hw0:((w.alloc (X #[Q eo es.length ec,Q ro rs.length rc] 68)).alloc (X #[J Z 0,J Z 0] 75)).alloc (X #[J Z 0,J Z 0] 75)=w0 at *
 clear hw0
 have HK0:Hid (FK (w.heap.size+1+1) w0 w0):=FK.refl _ _
 go_loopg [12] rs.length (fun n y wr=>∃ (j:Nat),n+j=rs.length/\y=J Z j/\FM wr (w.heap.size+1+1) (yZ rs (0,0) j)/\FK (w.heap.size+1+1) w0 wr)
 case atStart=>exact ⟨0,by omega,rfl,H.out,FK.refl _ _⟩
 case round =>
  obtain ⟨j,hn,rfl,hfm,hfk⟩:=hrel
  have HF1:Hid (FM wr (w.heap.size+1+1) (yZ rs (0,0) j)):=hfm
  have HK1:Hid _:=hfk
  have hfl:=hfm.lt
  have hFx:wr.heap.size≠(w.heap.size+1+1):=by omega
  have HP1:Hid _:=(hfk.kept _ (lt_of_block HP.out) hPF).trans HP.out
  have hPX:=lt_of_block HP1.out
  have HWB:Hid (∀ g,g<w.heap.size->wr.heap[g]?=w.heap[g]?):=fun g hg=>(hfk.kept g (Nat.lt_of_lt_of_le hg HB.out.size) (by omega)).trans (HB.out.block g hg)
  have hws:w.heap.size<=wr.heap.size:=Nat.le_trans HB.out.size hfk.bel.size
  clear hfm hfk
  by_cases hlt:j<rs.length
  ·obtain ⟨r,hr⟩:∃ r,rs[j]?=some r:=⟨rs[j],List.getElem?_eq_getElem hlt⟩
   have hj0:(0:Int)<=(j:Int):=by omega
   have hj1:(j:Int)<(rs.length:Int):=by omega
   have hj2:(j:Int)<=(rc:Int):=by omega
   obtain ⟨g,rfl,hgw,r0,r1,r2⟩:=HH.out.hr j r hr
   have hcg:∀ q,wr.cell? ⟨g,q,none⟩=w.cell? ⟨g,q,none⟩:=fun q=>World.cell?_of_block (w:=w) (HWB.out g hgw)
   rw [<- hcg] at r0 r1 r2
   have hl2:(rs.take j).length=j:=by rw [List.length_take];omega
   have HV2:Hid (RV (wr.alloc (X #[J Z r.nv,J Z r.na,J Z r.ex] 92)) (Q (some ⟨g,0,none⟩) (rs.take j).length rc) (rs.take j)):=.inr ⟨g,rc,rfl,fun i y hy=>by
    have hcq:∀ q,(wr.alloc (X #[J Z r.nv,J Z r.na,J Z r.ex] 92)).cell? ⟨g,q,none⟩=w.cell? ⟨g,q,none⟩:=fun q=>World.cell?_of_block (w:=w) ((Below.heap_alloc _ _ _ (Nat.lt_of_lt_of_le hgw hws)).trans (HWB.out g hgw))
    have hi:i<j:=by have:=(List.getElem?_eq_some_iff.1 hy).1;omega
    obtain ⟨g',hg',_,q0,q1,q2⟩:=HH.out.hr i y (by rw [List.getElem?_take_of_lt hi] at hy;exact hy)
    cases hg'
    exact ⟨(hcq _).trans q0,(hcq _).trans q1,(hcq _).trans q2⟩⟩
   have HF2:Hid (FM (wr.alloc (X #[J Z r.nv,J Z r.na,J Z r.ex] 92)) (w.heap.size+1+1) (yZ rs (0,0) j)):=HF1.out.alloc _
   have HK2:Hid (FK (w.heap.size+1+1) w0 (wr.alloc (X #[J Z r.nv,J Z r.na,J Z r.ex] 92))):=HK1.out.alloc (Nat.le_of_lt hfl) _
   have HX2:Hid ((wr.alloc (X #[J Z r.nv,J Z r.na,J Z r.ex] 92)).heap[wr.heap.size]?=some (X #[J Z r.nv,J Z r.na,J Z r.ex] 92 (0,0))):=heap_alloc_new wr _
   have HP2:Hid ((wr.alloc (X #[J Z r.nv,J Z r.na,J Z r.ex] 92)).heap[w.heap.size]?=some (X #[Q eo es.length ec,Q (some ⟨g,0,none⟩) rs.length rc] 68 (0,0))):=(Below.heap_alloc _ _ _ hPX).trans HP1.out
   have HJ1:Hid (yZ rs (0,0) (j+1)=if yA r.nv (rs.take j)=-1 then yZ rs (0,0) j else fnd (yZ rs (0,0) j) 5 r.na):=by show _=_;simp only [yZ,hr]
   have p1':wr.cell? ⟨w.heap.size,1,none⟩=some (Q (some ⟨g,0,none⟩) rs.length rc):=by simp [World.cell?,HP1.out]
   rw [hl2] at HV2
   have HL2:Hid ((rs.take j).length<=100000):=by show _<=_;omega
   clear hr hcg
   generalize hfj:yZ rs (0,0) j=fj at *
   clear hfj
   go_wp2_with fail
   clear r0 r1 r2 p1'
   generalize wr.alloc (X #[J Z r.nv,J Z r.na,J Z r.ex] 92)=w3 at *
   have p1:w3.cell? ⟨w.heap.size,1,none⟩=some (Q (some ⟨g,0,none⟩) rs.length rc):=by simp [World.cell?,HP2.out]
   have x0:w3.cell? ⟨wr.heap.size,0,none⟩=some (J Z r.nv):=by simp [World.cell?,HX2.out]
   generalize hnq:yA r.nv (rs.take j)=nq at *
   have hnm:∀ wz:World,wz.heap=w3.heap->Calls Try.prog 43 #[Q (some ⟨g,0,none⟩) j rc,J Z r.nv] wz fun e w'=>Below wz.heap.size wz w'/\e=.returned (J Z nq):=fun wz hz=>by
    have:=YV (Q (some ⟨g,0,none⟩) j rc) r.nv (rs.take j) wz HL2.out (by
     rcases HV2.out with h | ⟨g',c',h1,h2⟩
     ·exact .inl h
     ·exact .inr ⟨g',c',h1,fun i y hy=>by
       have e:∀ q,wz.cell? ⟨g',q,none⟩=w3.cell? ⟨g',q,none⟩:=fun q=>World.cell?_of_block (w:=w3) (by rw [hz])
       simp only [e];exact h2 i y hy⟩)
    rwa [hnq] at this
   clear hnq
   cases hq:(nq==-1) with
   | true =>
    have hq2:(nq != -1)=false:=by simp [bne,hq]
    have HJ:Hid (yZ rs (0,0) (j+1)=fj):=by show _=_;rw [HJ1.out,if_pos (by simpa using hq)]
    clear hq
    go_region_with (go_at_call 43;refine (hnm _ ?_).mono ?_;rfl;rintro e w4 ⟨hb4,rfl⟩)
    all_goals
     have HK4:Hid (FK (w.heap.size+1+1) w0 w4):=HK2.out.drew.trans (FK.below hb4 (Nat.le_of_lt HF2.out.lt))
     have HF4:Hid (FM w4 (w.heap.size+1+1) (yZ rs (0,0) (j+1))):=by show FM _ _ _;rw [HJ.out];exact (hb4.block _ HF2.out.lt).trans HF2.out
     clear hb4
     go_wp2_with fail
     go_roundg (gk-1)
     case measure=>omega
     case rel=>exact ⟨j+1,by omega,by go_num,HF4.out,HK4.out⟩
   | false =>
    have hq2:(nq != -1)=true:=by simp [bne,hq]
    have HJ:Hid (yZ rs (0,0) (j+1)=fnd fj 5 r.na):=by show _=_;rw [HJ1.out,if_neg (by simpa using hq)]
    have HJ':Hid (fnd fj 5 r.na=yZ rs (0,0) (j+1)):=HJ.out.symm
    clear hq
    go_region_with (go_at_call 43;refine (hnm _ ?_).mono ?_;rfl;rintro e w4 ⟨hb4,rfl⟩)
    all_goals
     have HK4:Hid (FK (w.heap.size+1+1) w0 w4):=HK2.out.drew.trans (FK.below hb4 (Nat.le_of_lt HF2.out.lt))
     have HF4:Hid (FM w4 (w.heap.size+1+1) fj):=(hb4.block _ HF2.out.lt).trans HF2.out
     have hx4:=(hb4.block wr.heap.size (lt_of_block HX2.out)).trans HX2.out
     have x1:w4.cell? ⟨wr.heap.size,1,none⟩=some (J Z r.na):=by simp [World.cell?,hx4]
     clear hb4 hx4
     go_wp2_with fail
     refine (yk (w.heap.size+1+1) fj 5 r.na _ HF4.out _ HJ').mono ?_
     rintro e w5 ⟨rfl,h5,k5⟩
     have HF5:Hid _:=h5
     have HK5:Hid _:=HK4.out.trans k5
     clear h5 k5
     go_wp2_with fail
     go_roundg (gk-1)
     case measure=>omega
     case rel=>exact ⟨j+1,by omega,by go_num,HF5.out,HK5.out⟩
  ·have hd:¬ ((j:Int)<(rs.length:Int)):=by omega
   have hje:j=rs.length:=by omega
   have p0:wr.cell? ⟨w.heap.size,0,none⟩=some (Q eo es.length ec):=by simp [World.cell?,HP1.out]
   have HF2:Hid (FM wr (w.heap.size+1+1) (yZ rs (0,0) rs.length)):=by show FM _ _ _;rw [<- hje];exact HF1.out
   clear hje
   go_wp2_with fail
   generalize hf0:yZ rs (0,0) rs.length=f0 at *
   have HF0:Hid (Ye (es.map Prod.fst) f0 es.length=f'):=by show _=_;rw [<- hf.out,<- hf0];simp [Yq]
   clear hf0
   have HFf:Hid (Ye (es.map Prod.fst) f0 0=f0):=rfl
   go_loopg [34] es.length (fun n y wz=>∃ (j:Nat),n+j=es.length/\y=J Z j/\FM wz (w.heap.size+1+1) (Ye (es.map Prod.fst) f0 j)/\FK (w.heap.size+1+1) w0 wz)
   case atStart=>exact ⟨0,by omega,rfl,HF2.out,HK1.out⟩
   case round =>
    obtain ⟨i,hni,rfl,hfm,hfk⟩:=hrel
    have HFb:Hid (FM wr (w.heap.size+1+1) (Ye (es.map Prod.fst) f0 i)):=hfm
    have HKb:Hid _:=hfk
    have hflb:=hfm.lt
    have hFxb:wr.heap.size≠(w.heap.size+1+1):=by omega
    have HWBb:Hid (∀ g,g<w.heap.size->wr.heap[g]?=w.heap[g]?):=fun g hg=>(hfk.kept g (Nat.lt_of_lt_of_le hg HB.out.size) (by omega)).trans (HB.out.block g hg)
    have hwsb:w.heap.size<=wr.heap.size:=Nat.le_trans HB.out.size hfk.bel.size
    have HRb:Hid _:=(hfk.kept _ (lt_of_block HR.out) hRF).trans HR.out
    clear hfm hfk
    by_cases hlti:i<es.length
    ·obtain ⟨xv,hxv⟩:∃ r,es[i]?=some r:=⟨es[i],List.getElem?_eq_getElem hlti⟩
     have hi0:(0:Int)<=(i:Int):=by omega
     have hi1:(i:Int)<(es.length:Int):=by omega
     obtain ⟨g,vo,vm,vc,heo,hgw,r0,r1,r2,r3,r4,r5,r6,hx2,hiv,hivg,hil⟩:=HH.out.he i xv hxv
     obtain ⟨x,xq⟩:=xv
     simp only at r0 r1 r2 r3 r4 r6 hx2 hiv hil
     subst hx2
     subst heo
     have hcg:∀ q,wr.cell? ⟨g,q,none⟩=w.cell? ⟨g,q,none⟩:=fun q=>World.cell?_of_block (w:=w) (HWBb.out g hgw)
     rw [<- hcg] at r0 r1 r2 r3 r4 r5 r6
     have HJ1:Hid (Ye (es.map Prod.fst) f0 (i+1)=yR x.kind x.items (Yz x (Ye (es.map Prod.fst) f0 i)) x.items.length):=by
      show _=_
      have:(es.map Prod.fst)[i]?=some x:=by rw [List.getElem?_map,hxv];rfl
      simp only [Ye,this]
     have HVb:Hid (IV w (Q vo vm vc) x.items):=hiv
     have HVg:Hid _:=hivg
     have HIL:Hid _:=hil
     have HFc:Hid (FM (wr.alloc (X #[J O x.kind,J Z x.at_,J Z x.depth,J Z x.nv,J Z x.na,Q vo vm vc,J Z x.inner] 97)) (w.heap.size+1+1) (Ye (es.map Prod.fst) f0 i)):=HFb.out.alloc _
     have HKc:Hid (FK (w.heap.size+1+1) w0 (wr.alloc (X #[J O x.kind,J Z x.at_,J Z x.depth,J Z x.nv,J Z x.na,Q vo vm vc,J Z x.inner] 97))):=HKb.out.alloc (Nat.le_of_lt hflb) _
     have HXc:Hid ((wr.alloc (X #[J O x.kind,J Z x.at_,J Z x.depth,J Z x.nv,J Z x.na,Q vo vm vc,J Z x.inner] 97)).heap[wr.heap.size]?=some (X #[J O x.kind,J Z x.at_,J Z x.depth,J Z x.nv,J Z x.na,Q vo vm vc,J Z x.inner] 97 (0,0))):=heap_alloc_new wr _
     have HKc':Hid (w.heap.size<=(wr.alloc (X #[J O x.kind,J Z x.at_,J Z x.depth,J Z x.nv,J Z x.na,Q vo vm vc,J Z x.inner] 97)).heap.size):=by show _<=_;simp;omega
     generalize hfj:Ye (es.map Prod.fst) f0 i=fi at *
     clear hfj hxv hcg hiv hivg hil
     go_wp2_with fail
     clear r0 r1 r2 r3 r4 r5 r6
     refine (Qf (w.heap.size+1+1) fi x vo vm vc _ HFc.out _ rfl).mono ?_
     rintro e w5 ⟨rfl,h5,k5⟩
     have HF5:Hid _:=h5
     have HK5:Hid _:=HKc.out.trans k5
     have hx5:=(k5.kept wr.heap.size (lt_of_block HXc.out) hFxb).trans HXc.out
     have x0:w5.cell? ⟨wr.heap.size,0,none⟩=some (J O x.kind):=by simp [World.cell?,hx5]
     have x1:w5.cell? ⟨wr.heap.size,1,none⟩=some (J Z x.at_):=by simp [World.cell?,hx5]
     have x2:w5.cell? ⟨wr.heap.size,2,none⟩=some (J Z x.depth):=by simp [World.cell?,hx5]
     have x3:w5.cell? ⟨wr.heap.size,3,none⟩=some (J Z x.nv):=by simp [World.cell?,hx5]
     have x4:w5.cell? ⟨wr.heap.size,4,none⟩=some (J Z x.na):=by simp [World.cell?,hx5]
     have x5:w5.cell? ⟨wr.heap.size,5,none⟩=some (Q vo vm vc):=by simp [World.cell?,hx5]
     have x6:w5.cell? ⟨wr.heap.size,6,none⟩=some (J Z x.inner):=by simp [World.cell?,hx5]
     have HV5:Hid (IV w5 (Q vo vm vc) x.items):=HVb.out.of_kept (fun q hq=>by
      have hqw:=HVg.out q hq
      exact (k5.kept q (Nat.lt_of_lt_of_le hqw HKc'.out) (by omega)).trans ((Below.heap_alloc _ _ _ (Nat.lt_of_lt_of_le hqw hwsb)).trans (HWBb.out q hqw)))
     have HVq:Hid (∀ q,(Q vo vm vc).ownBlock=some q->q≠(w.heap.size+1+1)/\q<w5.heap.size):=fun q hq=>by
      have hqw:=HVg.out q hq
      exact ⟨by omega,Nat.lt_of_lt_of_le hqw (Nat.le_trans HKc'.out k5.bel.size)⟩
     clear h5 k5 hx5
     go_wp2_with fail
     refine (qb (w.heap.size+1+1) (Yz x fi) x vo vm vc _ HIL.out HF5.out HV5.out HVq.out _ HJ1.out.symm).mono ?_
     rintro e w6 ⟨rfl,h6,k6⟩
     have HF6:Hid _:=h6
     have HK6:Hid _:=HK5.out.trans k6
     clear h6 k6 x0 x1 x2 x3 x4 x5 x6
     go_wp2_with fail
     go_roundg (gk-1)
     case measure=>omega
     case rel=>exact ⟨i+1,by omega,by go_num,HF6.out,HK6.out⟩
    ·have hd2:¬ ((i:Int)<(es.length:Int)):=by omega
     have hie:i=es.length:=by omega
     have HF9:Hid (FM wr (w.heap.size+1+1) f'):=by show FM _ _ _;rw [<- HF0.out,<- hie];exact HFb.out
     clear hie
     have q0:=HF9.out.c0
     have q1:=HF9.out.c1
     have s0:wr.cell? ⟨w.heap.size+1,0,none⟩=some (J Z 0):=by simp [World.cell?,HRb.out]
     have s1:wr.cell? ⟨w.heap.size+1,1,none⟩=some (J Z 0):=by simp [World.cell?,HRb.out]
     have sz:∀ q,wr.frozen? ⟨w.heap.size+1,q,none⟩=false:=fun q=>by simp [World.frozen?,HRb.out]
     have HBz:Hid (Below w.heap.size w wr):=HB.out.trans (HKb.out.bel.mono (by omega))
     go_wp2_with fail
     exact bodyPost_ret (v:=.agg #[J Z f'.1,J Z f'.2]) (by simp [results,Try.results35,go_sem,s0,s1]) rfl ⟨rfl,(HBz.out.setCell (by simp) _).setCell (by simp) _⟩
end
section
attribute [local go_sem] zC zu
theorem XK (n base B:Nat) (s:ByteArray) (d:Int) (k:Nat) (b:Bool) (ev rv:Value) (es:List (EX×Value)) (rs:List RL) (w:World) (hs:s.size<=2000) (hk:k<=s.size) (_h0:0<=d) (_h1:d<=k) (hl:es.length<=k) (_hrl:rs.length<=2000) (hc:zd s (za s k b) b=64) (h:PM w base B s k b ev rv es rs) (R:CR) (hR:Hid (cE s rs (n+1) d es.length k b=R)) :
 Calls Try.prog 65 #[.pointer (some ⟨B,0,none⟩),J Z d] w fun e w' =>
  e=.returned (J Z R.idx)/\∃ ev' new,new.map Prod.fst=R.es/\PM w' base B s R.k R.b ev' rv (es++new) rs/\Mv base B ev rv ev' rv w w'/\∀ p∈new,∀ g,p.2.ownBlock=some g->w.heap.size<=g:=by
 obtain ⟨i0,hi0,hz0,hz1,hz2⟩:=info_parts Try.infoExpr
 have H:Hid _:=h
 clear h
 go_enter Try.func65,Try.ntmps65
 go_wp2_with fail
 refine (zO base B s k b ev rv es rs _ hs hk H.out).mono ?_
 rintro e w1 ⟨rfl,hp,hm⟩
 have hKK:isK (zd s (za s k b) b)=true:=by rw [hc];rfl
 have hlt:za s k b<s.size:=(yJ hKK).2
 have hkp:k<=za s k b:=zP s k b
 have hbf:b=false:=(yJ hKK).1
 subst hbf
 rw [XO n d es.length k false hc] at hR
 clear hKK
 have hce:zd s (za s k false) false=64:=hc
 have hpd:=fun (wz:World) (hz:PM wz base B s (za s k false) false ev rv es rs)=>ZO base B s (za s k false) false ev rv es rs wz hz
 rw [hce] at hpd
 clear hce hc
 generalize za s k false=p at *
 have HP1:Hid _:=hp
 have HM1:Hid _:=hm
 have c1:=hp.c1
 have hxou:=hp.outNew
 have hbs1:=hp.bs
 have hws:w.heap.size<=w1.heap.size:=hm.bel.size
 have hXB:w1.heap.size≠B:=hxou.1
 have hBX:B≠w1.heap.size:=fun e=>hxou.1 e.symm
 have hBl:=hp.lt
 clear hp hm
 have hbn:=fun w=>ZT 64 p d w
 go_wp2_with fail
 go_region_held3 (fun w'=>w'.cell? ⟨B,1,none⟩=some (J Z p)) (first | (exact c1) | (exact yW c1 _) | (exact xu hXB (yW c1 _) _ _) | go_keep) (first | (go_at_call 67;refine (hpd _ (by first | exact HP1.out.drew | exact HP1.out.drew.alloc _ | exact HP1.out.alloc _ | exact HP1.out)).mono ?_;rintro e w' ⟨rfl,q,rfl⟩))
 all_goals
  have HP2:Hid (PM ((w1.alloc (X #[J O 64,J Z p,J Z d,J Z 0,J Z 0,Q none 0 0,J Z (-1)] 97)).drewN (1+q)) base B s p false ev rv es rs):=(HP1.out.alloc _).drewN _
  have HM2:Hid (Mv base B ev rv ev rv w ((w1.alloc (X #[J O 64,J Z p,J Z d,J Z 0,J Z 0,Q none 0 0,J Z (-1)] 97)).drewN (1+q))):=(HM1.out.trans (Mv.alloc hbs1 _)).drewN _
  have XH2:Hid (((w1.alloc (X #[J O 64,J Z p,J Z d,J Z 0,J Z 0,Q none 0 0,J Z (-1)] 97)).drewN (1+q)).heap[w1.heap.size]?=some (X #[J O 64,J Z p,J Z d,J Z 0,J Z 0,Q none 0 0,J Z (-1)] 97 (0,0))):=heap_alloc_new w1 _
  generalize (w1.alloc (X #[J O 64,J Z p,J Z d,J Z 0,J Z 0,Q none 0 0,J Z (-1)] 97)).drewN (1+q)=w2 at *
  clear c1 hbn
  have c1:=HP2.out.c1
  have z1:=HP2.out.fz 1
  have x0:w2.cell? ⟨w1.heap.size,0,none⟩=some (J O 64):=by simp [World.cell?,XH2.out]
  have hik:=fun w=>yI 64 w
  rw [show isK 64=true from rfl] at hik
  go_wp2_with fail
  refine (hik _).mono ?_
  rintro e w3 ⟨hw3,rfl⟩
  subst w3
  have HP3:Hid (PM (w2.setCell ⟨B,1,none⟩ (J Z ((p:Int)+1))) base B s (p+1) false ev rv es rs):=HP2.out.at (p+1) _ (by omega)
  have HM3:Hid (Mv base B ev rv ev rv w (w2.setCell ⟨B,1,none⟩ (J Z ((p:Int)+1)))):=HM2.out.trans (HP2.out.setMv 1 _)
  have XH3:Hid ((w2.setCell ⟨B,1,none⟩ (J Z ((p:Int)+1))).heap[w1.heap.size]?=some (X #[J O 64,J Z p,J Z d,J Z 0,J Z 0,Q none 0 0,J Z (-1)] 97 (0,0))):=(zc hXB).trans XH2.out
  have hp1:(p:Int)<2000:=by omega
  go_wp2_with fail
  clear c1 z1 x0
  refine (yv base B s (p+1) false ev rv es rs _ hs (by omega) HP3.out).mono ?_
  rintro e w4 ⟨rfl,hp,hm⟩
  have Pw4:Hid _:=hp
  have Mw4:Hid (Mv base B ev rv ev rv w w4):=(HM3.out).trans hm
  have Xw4:Hid _:=(hm.kept _ (lt_of_block (XH3.out)) hxou).1.trans (XH3.out)
  clear hp hm
  have x0:w4.cell? ⟨w1.heap.size,0,none⟩=some (J O 64):=by simp [World.cell?,Xw4.out]
  have x1:w4.cell? ⟨w1.heap.size,1,none⟩=some (J Z p):=by simp [World.cell?,Xw4.out]
  have x2:w4.cell? ⟨w1.heap.size,2,none⟩=some (J Z d):=by simp [World.cell?,Xw4.out]
  have x3:w4.cell? ⟨w1.heap.size,3,none⟩=some (J Z 0):=by simp [World.cell?,Xw4.out]
  have x4:w4.cell? ⟨w1.heap.size,4,none⟩=some (J Z 0):=by simp [World.cell?,Xw4.out]
  have x5:w4.cell? ⟨w1.heap.size,5,none⟩=some (Q none 0 0):=by simp [World.cell?,Xw4.out]
  have x6:w4.cell? ⟨w1.heap.size,6,none⟩=some (J Z (-1)):=by simp [World.cell?,Xw4.out]
  have xz:∀ j,w4.frozen? ⟨w1.heap.size,j,none⟩=false:=fun j=>by simp [World.frozen?,Xw4.out]
  have HP5:Hid (PM (((w4).setCell ⟨w1.heap.size,3,none⟩ (J Z (zD s (p+1) false))).setCell ⟨w1.heap.size,4,none⟩ (J Z (za s (p+1) false))) base B s (zh s (p+1) false) (zo s (p+1) false) ev rv (es) rs):=((Pw4.out).setE (j:=3) (u:=J Z (zD s (p+1) false)) ⟨_,_,Xw4.out⟩ hxou.2.1).setE (j:=4) (u:=J Z (za s (p+1) false)) ⟨_,_,(zK (j:=3) (u:=J Z (zD s (p+1) false)) (Xw4.out))⟩ hxou.2.1
  have HM5:Hid (Mv base B ev rv ev rv w (((w4).setCell ⟨w1.heap.size,3,none⟩ (J Z (zD s (p+1) false))).setCell ⟨w1.heap.size,4,none⟩ (J Z (za s (p+1) false)))):=((Mw4.out).setNew (j:=3) hws hbs1 (J Z (zD s (p+1) false))).setNew (j:=4) hws hbs1 (J Z (za s (p+1) false))
  have HX5:Hid ((((w4).setCell ⟨w1.heap.size,3,none⟩ (J Z (zD s (p+1) false))).setCell ⟨w1.heap.size,4,none⟩ (J Z (za s (p+1) false))).heap[w1.heap.size]?=some (X #[J O 64,J Z p,J Z d,J Z (zD s (p+1) false),J Z (za s (p+1) false),Q none 0 0,J Z (-1)] 97 (0,0))):=(zK (j:=4) (u:=J Z (za s (p+1) false)) ((zK (j:=3) (u:=J Z (zD s (p+1) false)) (Xw4.out))))
  have HV5:Hid ((((w4).setCell ⟨w1.heap.size,3,none⟩ (J Z (zD s (p+1) false))).setCell ⟨w1.heap.size,4,none⟩ (J Z (za s (p+1) false))).ownsRow base 104 7 (Q none 0 0) ((⟨64,p,d,zD s (p+1) false,za s (p+1) false,[],-1⟩:EX)).items.length (imC ((⟨64,p,d,zD s (p+1) false,za s (p+1) false,[],-1⟩:EX)).items)):=⟨rfl,.inl ⟨rfl,rfl⟩⟩
  go_wp2_with fail
  generalize ((w4).setCell ⟨w1.heap.size,3,none⟩ (J Z (zD s (p+1) false))).setCell ⟨w1.heap.size,4,none⟩ (J Z (za s (p+1) false))=w5 at *
  clear x0 x1 x2 x3 x4 x5 x6 xz
  have x0:w5.cell? ⟨w1.heap.size,0,none⟩=some (J O 64):=by simp [World.cell?,HX5.out]
  have x1:w5.cell? ⟨w1.heap.size,1,none⟩=some (J Z p):=by simp [World.cell?,HX5.out]
  have x2:w5.cell? ⟨w1.heap.size,2,none⟩=some (J Z d):=by simp [World.cell?,HX5.out]
  have x3:w5.cell? ⟨w1.heap.size,3,none⟩=some (J Z (zD s (p+1) false)):=by simp [World.cell?,HX5.out]
  have x4:w5.cell? ⟨w1.heap.size,4,none⟩=some (J Z (za s (p+1) false)):=by simp [World.cell?,HX5.out]
  have x5:w5.cell? ⟨w1.heap.size,5,none⟩=some (Q none 0 0):=by simp [World.cell?,HX5.out]
  have x6:w5.cell? ⟨w1.heap.size,6,none⟩=some (J Z (-1)):=by simp [World.cell?,HX5.out]
  have c3:=HP5.out.c3
  have hB5:=HP5.out.lt
  have hX5:w1.heap.size<w5.heap.size:=lt_of_block HX5.out
  have z3:=HP5.out.fz 3
  obtain ⟨n9,hn9⟩:∃ n9,n9=(es).length:=⟨_,rfl⟩
  have HN9:Hid _:=hn9
  have HE9:Hid (w5.ownsRow base 97 7 ev n9 (exC (es))):=by show World.ownsRow _ _ _ _ _ _ _;rw [hn9];exact HP5.out.ex
  have hl9:(n9:Int)<5000:=by rw [hn9];omega
  clear hn9
  have hA1:Hid (n9+1<=maxLen):=by show _<=_;unfold maxLen;omega
  have hA2:Hid ((n9+1)*72<=140737488355328):=by show _<=_;omega
  have hA3:Hid (∀ o:Obj,base<=(w5.alloc o).drew.heap.size):=fun o=>by have:=HP5.out.bs;show base<=(w5.alloc o).heap.size;simp;omega
  have hone:Hid (∀ u∈exV ((⟨64,p,d,zD s (p+1) false,za s (p+1) false,[],-1⟩:EX),Q none 0 0),u.oneCell'=true):=fun u hu=>by simp [exV] at hu;rcases hu with rfl | rfl | rfl | rfl | rfl | rfl | rfl<;>first | rfl | exact HV1.out
  go_region_law ((refine step_append_lies _ (by rfl) _ _ _ (by rfl) base 97 i0 _ 7 72 Try.underlying65 hi0 hz0 hz1 hz2 rfl (by decide) ev _ _ (by rfl) ((HE9.out.alloc _).drew) ⟨w5.heap.size,0,none⟩ 1 1 (exV ((⟨64,p,d,zD s (p+1) false,za s (p+1) false,[],-1⟩:EX),Q none 0 0)) (by rfl) (by rfl) (World.news_of_block (cs:=#[J O 64,J Z p,J Z d,J Z (zD s (p+1) false),J Z (za s (p+1) false),Q none 0 0,J Z (-1)]) (t:=97) (fr:=(0,0)) (heap_alloc_new w5 _)) hone.out (Nat.lt_succ_self 0) hA1.out hA2.out (hA3.out _) (w5.heap.size+1) (by simp) ?_;intro g cap w9 hown hgrow hat hlt9;obtain ⟨y3,yz⟩:=HP5.out.grown3 hgrow))
  all_goals
   have HP9:Hid (PM (w9.setCell ⟨B,3,none⟩ (Q (some ⟨g,0,none⟩) (n9+1) cap)) base B s (zh s (p+1) false) (zo s (p+1) false) (Q (some ⟨g,0,none⟩) (n9+1) cap) rv (es++[((⟨64,p,d,zD s (p+1) false,za s (p+1) false,[],-1⟩:EX),Q none 0 0)]) rs):=((HP5.out.alloc _).drew).pushE HN9.out hgrow hown ((HV5.out.alloc _).drew)
   have HM9:Hid (Mv base B ev rv (Q (some ⟨g,0,none⟩) (n9+1) cap) rv w (w9.setCell ⟨B,3,none⟩ (Q (some ⟨g,0,none⟩) (n9+1) cap))):=(HM5.out.trans (Mv.alloc HP5.out.bs _)).drew.trans (((HP5.out.alloc _).drew).pushMv hgrow hat (by show (w5.alloc _).heap.size<=_;simp))
   clear hown hgrow hat
   go_wp2_with fail
   go_ret
   exact ⟨by rw [<- hR.out];rw [<- HN9.out];rfl,_,[((⟨64,p,d,zD s (p+1) false,za s (p+1) false,[],-1⟩:EX),Q none 0 0)],by rw [<- hR.out];rfl,by rw [<- hR.out];exact HP9.out,HM9.out,fun q hq g hg=>by simp at hq;subst hq;simp [Value.ownBlock] at hg⟩
end
section
attribute [local go_sem] zC zu
theorem qg (n base B:Nat) (s:ByteArray) (d:Int) (k:Nat) (b:Bool) (ev rv:Value) (es:List (EX×Value)) (rs:List RL) (w:World) (hs:s.size<=2000) (hk:k<=s.size) (_h0:0<=d) (_h1:d<=k) (hl:es.length<=k) (hrl:rs.length<=2000) (hc:zd s (za s k b) b=61) (h:PM w base B s k b ev rv es rs) (R:CR) (hR:Hid (cE s rs (n+1) d es.length k b=R)) :
 Calls Try.prog 65 #[.pointer (some ⟨B,0,none⟩),J Z d] w fun e w' =>
  e=.returned (J Z R.idx)/\∃ ev' new,new.map Prod.fst=R.es/\PM w' base B s R.k R.b ev' rv (es++new) rs/\Mv base B ev rv ev' rv w w'/\∀ p∈new,∀ g,p.2.ownBlock=some g->w.heap.size<=g:=by
 obtain ⟨i0,hi0,hz0,hz1,hz2⟩:=info_parts Try.infoExpr
 have H:Hid _:=h
 clear h
 go_enter Try.func65,Try.ntmps65
 go_wp2_with fail
 refine (zO base B s k b ev rv es rs _ hs hk H.out).mono ?_
 rintro e w1 ⟨rfl,hp,hm⟩
 have hKK:isK (zd s (za s k b) b)=true:=by rw [hc];rfl
 have hlt:za s k b<s.size:=(yJ hKK).2
 have hkp:k<=za s k b:=zP s k b
 have hbf:b=false:=(yJ hKK).1
 subst hbf
 rw [qD n d es.length k false hc] at hR
 clear hKK
 have hce:zd s (za s k false) false=61:=hc
 have hpd:=fun (wz:World) (hz:PM wz base B s (za s k false) false ev rv es rs)=>ZO base B s (za s k false) false ev rv es rs wz hz
 rw [hce] at hpd
 clear hce hc
 generalize za s k false=p at *
 have HP1:Hid _:=hp
 have HM1:Hid _:=hm
 have c1:=hp.c1
 have hxou:=hp.outNew
 have hbs1:=hp.bs
 have hws:w.heap.size<=w1.heap.size:=hm.bel.size
 have hXB:w1.heap.size≠B:=hxou.1
 have hBX:B≠w1.heap.size:=fun e=>hxou.1 e.symm
 have hBl:=hp.lt
 clear hp hm
 have hbn:=fun w=>ZT 61 p d w
 go_wp2_with fail
 go_region_held3 (fun w'=>w'.cell? ⟨B,1,none⟩=some (J Z p)) (first | (exact c1) | (exact yW c1 _) | (exact xu hXB (yW c1 _) _ _) | go_keep) (first | (go_at_call 67;refine (hpd _ (by first | exact HP1.out.drew | exact HP1.out.drew.alloc _ | exact HP1.out.alloc _ | exact HP1.out)).mono ?_;rintro e w' ⟨rfl,q,rfl⟩))
 all_goals
  have HP2:Hid (PM ((w1.alloc (X #[J O 61,J Z p,J Z d,J Z 0,J Z 0,Q none 0 0,J Z (-1)] 97)).drewN (1+q)) base B s p false ev rv es rs):=(HP1.out.alloc _).drewN _
  have HM2:Hid (Mv base B ev rv ev rv w ((w1.alloc (X #[J O 61,J Z p,J Z d,J Z 0,J Z 0,Q none 0 0,J Z (-1)] 97)).drewN (1+q))):=(HM1.out.trans (Mv.alloc hbs1 _)).drewN _
  have XH2:Hid (((w1.alloc (X #[J O 61,J Z p,J Z d,J Z 0,J Z 0,Q none 0 0,J Z (-1)] 97)).drewN (1+q)).heap[w1.heap.size]?=some (X #[J O 61,J Z p,J Z d,J Z 0,J Z 0,Q none 0 0,J Z (-1)] 97 (0,0))):=heap_alloc_new w1 _
  generalize (w1.alloc (X #[J O 61,J Z p,J Z d,J Z 0,J Z 0,Q none 0 0,J Z (-1)] 97)).drewN (1+q)=w2 at *
  clear c1 hbn
  have c1:=HP2.out.c1
  have z1:=HP2.out.fz 1
  have x0:w2.cell? ⟨w1.heap.size,0,none⟩=some (J O 61):=by simp [World.cell?,XH2.out]
  have hik:=fun w=>yI 61 w
  rw [show isK 61=true from rfl] at hik
  go_wp2_with fail
  refine (hik _).mono ?_
  rintro e w3 ⟨hw3,rfl⟩
  subst w3
  have HP3:Hid (PM (w2.setCell ⟨B,1,none⟩ (J Z ((p:Int)+1))) base B s (p+1) false ev rv es rs):=HP2.out.at (p+1) _ (by omega)
  have HM3:Hid (Mv base B ev rv ev rv w (w2.setCell ⟨B,1,none⟩ (J Z ((p:Int)+1)))):=HM2.out.trans (HP2.out.setMv 1 _)
  have XH3:Hid ((w2.setCell ⟨B,1,none⟩ (J Z ((p:Int)+1))).heap[w1.heap.size]?=some (X #[J O 61,J Z p,J Z d,J Z 0,J Z 0,Q none 0 0,J Z (-1)] 97 (0,0))):=(zc hXB).trans XH2.out
  have hp1:(p:Int)<2000:=by omega
  go_wp2_with fail
  clear c1 z1 x0
  refine (YW base B s (p+1) false ev rv es rs _ hs (by omega) HP3.out).mono ?_
  rintro e w4 ⟨rfl,hp,hm⟩
  have Pw4:Hid _:=hp
  have Mw4:Hid (Mv base B ev rv ev rv w w4):=(HM3.out).trans hm
  have Xw4:Hid _:=(hm.kept _ (lt_of_block (XH3.out)) hxou).1.trans (XH3.out)
  clear hp hm
  generalize hqe:za s (p+1) false=q1 at *
  generalize hve:zd s q1 false=v1 at *
  clear hqe hve
  have x0:w4.cell? ⟨w1.heap.size,0,none⟩=some (J O 61):=by simp [World.cell?,Xw4.out]
  have x1:w4.cell? ⟨w1.heap.size,1,none⟩=some (J Z p):=by simp [World.cell?,Xw4.out]
  have x2:w4.cell? ⟨w1.heap.size,2,none⟩=some (J Z d):=by simp [World.cell?,Xw4.out]
  have x3:w4.cell? ⟨w1.heap.size,3,none⟩=some (J Z 0):=by simp [World.cell?,Xw4.out]
  have x4:w4.cell? ⟨w1.heap.size,4,none⟩=some (J Z 0):=by simp [World.cell?,Xw4.out]
  have x5:w4.cell? ⟨w1.heap.size,5,none⟩=some (Q none 0 0):=by simp [World.cell?,Xw4.out]
  have x6:w4.cell? ⟨w1.heap.size,6,none⟩=some (J Z (-1)):=by simp [World.cell?,Xw4.out]
  have xz:∀ j,w4.frozen? ⟨w1.heap.size,j,none⟩=false:=fun j=>by simp [World.frozen?,Xw4.out]
  have HP4:Hid (PM (((w4).setCell ⟨w1.heap.size,3,none⟩ (J Z v1)).setCell ⟨w1.heap.size,4,none⟩ (J Z q1)) base B s (zM s (p+1) false) (z9 s (p+1) false) ev rv (es) rs):=((Pw4.out).setE (j:=3) (u:=J Z v1) ⟨_,_,Xw4.out⟩ hxou.2.1).setE (j:=4) (u:=J Z q1) ⟨_,_,(zK (j:=3) (u:=J Z v1) (Xw4.out))⟩ hxou.2.1
  have HM4:Hid (Mv base B ev rv ev rv w (((w4).setCell ⟨w1.heap.size,3,none⟩ (J Z v1)).setCell ⟨w1.heap.size,4,none⟩ (J Z q1))):=((Mw4.out).setNew (j:=3) hws hbs1 (J Z v1)).setNew (j:=4) hws hbs1 (J Z q1)
  have HX4:Hid ((((w4).setCell ⟨w1.heap.size,3,none⟩ (J Z v1)).setCell ⟨w1.heap.size,4,none⟩ (J Z q1)).heap[w1.heap.size]?=some (X #[J O 61,J Z p,J Z d,J Z v1,J Z q1,Q none 0 0,J Z (-1)] 97 (0,0))):=(zK (j:=4) (u:=J Z q1) ((zK (j:=3) (u:=J Z v1) (Xw4.out))))
  go_wp2_with fail
  generalize ((w4).setCell ⟨w1.heap.size,3,none⟩ (J Z v1)).setCell ⟨w1.heap.size,4,none⟩ (J Z q1)=wq at *
  clear x0 x1 x2 x3 x4 x5 x6 xz
  have x0:wq.cell? ⟨w1.heap.size,0,none⟩=some (J O 61):=by simp [World.cell?,HX4.out]
  have x1:wq.cell? ⟨w1.heap.size,1,none⟩=some (J Z p):=by simp [World.cell?,HX4.out]
  have x2:wq.cell? ⟨w1.heap.size,2,none⟩=some (J Z d):=by simp [World.cell?,HX4.out]
  have x3:wq.cell? ⟨w1.heap.size,3,none⟩=some (J Z v1):=by simp [World.cell?,HX4.out]
  have x4:wq.cell? ⟨w1.heap.size,4,none⟩=some (J Z q1):=by simp [World.cell?,HX4.out]
  have x5:wq.cell? ⟨w1.heap.size,5,none⟩=some (Q none 0 0):=by simp [World.cell?,HX4.out]
  have x6:wq.cell? ⟨w1.heap.size,6,none⟩=some (J Z (-1)):=by simp [World.cell?,HX4.out]
  have xz:∀ j,wq.frozen? ⟨w1.heap.size,j,none⟩=false:=fun j=>by simp [World.frozen?,HX4.out]
  have c4:=HP4.out.c4
  have hX4:w1.heap.size<wq.heap.size:=lt_of_block HX4.out
  have hnm:∀ wz:World,Below wq.heap.size wq wz->Calls Try.prog 43 #[rv,J Z v1] wz fun e w'=>Below wz.heap.size wz w'/\e=.returned (J Z (yA v1 rs)):=fun wz hz=>YV rv v1 rs wz (by omega) (HP4.out.below hz).rvs
  go_region_with (go_at_call 43;refine (hnm _ ?_).mono ?_;exact (Below.refl _ _).drew;rintro e w6 ⟨hb6,rfl⟩;have f6:=(hb6.cell (p:=⟨w1.heap.size,6,none⟩) hX4).trans x6;have f7:=(hb6.frozen (p:=⟨w1.heap.size,6,none⟩) hX4).trans (xz 6))
  all_goals
   have HP6:Hid (PM w6 base B s (zM s (p+1) false) (z9 s (p+1) false) ev rv es rs):=HP4.out.drew.below hb6
   have HM6:Hid (Mv base B ev rv ev rv w w6):=HM4.out.drew.trans (Mv.of_below hb6 HP4.out.drew.bs)
   have HX6:Hid _:=(hb6.block _ hX4).trans HX4.out
   clear hb6 f6 f7
   generalize hnr:yA v1 rs=nr at *
   clear hnr
   clear x0 x1 x2 x3 x4 x5 x6 xz
   have x0:w6.cell? ⟨w1.heap.size,0,none⟩=some (J O 61):=by simp [World.cell?,HX6.out]
   have x1:w6.cell? ⟨w1.heap.size,1,none⟩=some (J Z p):=by simp [World.cell?,HX6.out]
   have x2:w6.cell? ⟨w1.heap.size,2,none⟩=some (J Z d):=by simp [World.cell?,HX6.out]
   have x3:w6.cell? ⟨w1.heap.size,3,none⟩=some (J Z v1):=by simp [World.cell?,HX6.out]
   have x4:w6.cell? ⟨w1.heap.size,4,none⟩=some (J Z q1):=by simp [World.cell?,HX6.out]
   have x5:w6.cell? ⟨w1.heap.size,5,none⟩=some (Q none 0 0):=by simp [World.cell?,HX6.out]
   have x6:w6.cell? ⟨w1.heap.size,6,none⟩=some (J Z (-1)):=by simp [World.cell?,HX6.out]
   have xz:∀ j,w6.frozen? ⟨w1.heap.size,j,none⟩=false:=fun j=>by simp [World.frozen?,HX6.out]
   have HP5:Hid (PM ((w6).setCell ⟨w1.heap.size,6,none⟩ (J Z nr)) base B s (zM s (p+1) false) (z9 s (p+1) false) ev rv (es) rs):=(HP6.out).setE (j:=6) (u:=J Z nr) ⟨_,_,HX6.out⟩ hxou.2.1
   have HM5:Hid (Mv base B ev rv ev rv w ((w6).setCell ⟨w1.heap.size,6,none⟩ (J Z nr))):=(HM6.out).setNew (j:=6) hws hbs1 (J Z nr)
   have HX5:Hid (((w6).setCell ⟨w1.heap.size,6,none⟩ (J Z nr)).heap[w1.heap.size]?=some (X #[J O 61,J Z p,J Z d,J Z v1,J Z q1,Q none 0 0,J Z nr] 97 (0,0))):=(zK (j:=6) (u:=J Z nr) (HX6.out))
   have HV5:Hid (((w6).setCell ⟨w1.heap.size,6,none⟩ (J Z nr)).ownsRow base 104 7 (Q none 0 0) ((⟨61,p,d,v1,q1,[],nr⟩:EX)).items.length (imC ((⟨61,p,d,v1,q1,[],nr⟩:EX)).items)):=⟨rfl,.inl ⟨rfl,rfl⟩⟩
   go_wp2_with fail
   generalize (w6).setCell ⟨w1.heap.size,6,none⟩ (J Z nr)=w5 at *
   clear x0 x1 x2 x3 x4 x5 x6 xz
   have x0:w5.cell? ⟨w1.heap.size,0,none⟩=some (J O 61):=by simp [World.cell?,HX5.out]
   have x1:w5.cell? ⟨w1.heap.size,1,none⟩=some (J Z p):=by simp [World.cell?,HX5.out]
   have x2:w5.cell? ⟨w1.heap.size,2,none⟩=some (J Z d):=by simp [World.cell?,HX5.out]
   have x3:w5.cell? ⟨w1.heap.size,3,none⟩=some (J Z v1):=by simp [World.cell?,HX5.out]
   have x4:w5.cell? ⟨w1.heap.size,4,none⟩=some (J Z q1):=by simp [World.cell?,HX5.out]
   have x5:w5.cell? ⟨w1.heap.size,5,none⟩=some (Q none 0 0):=by simp [World.cell?,HX5.out]
   have x6:w5.cell? ⟨w1.heap.size,6,none⟩=some (J Z nr):=by simp [World.cell?,HX5.out]
   have c3:=HP5.out.c3
   have hB5:=HP5.out.lt
   have hX5:w1.heap.size<w5.heap.size:=lt_of_block HX5.out
   have z3:=HP5.out.fz 3
   obtain ⟨n9,hn9⟩:∃ n9,n9=(es).length:=⟨_,rfl⟩
   have HN9:Hid _:=hn9
   have HE9:Hid (w5.ownsRow base 97 7 ev n9 (exC (es))):=by show World.ownsRow _ _ _ _ _ _ _;rw [hn9];exact HP5.out.ex
   have hl9:(n9:Int)<5000:=by rw [hn9];omega
   clear hn9
   have hA1:Hid (n9+1<=maxLen):=by show _<=_;unfold maxLen;omega
   have hA2:Hid ((n9+1)*72<=140737488355328):=by show _<=_;omega
   have hA3:Hid (∀ o:Obj,base<=(w5.alloc o).drew.heap.size):=fun o=>by have:=HP5.out.bs;show base<=(w5.alloc o).heap.size;simp;omega
   have hone:Hid (∀ u∈exV ((⟨61,p,d,v1,q1,[],nr⟩:EX),Q none 0 0),u.oneCell'=true):=fun u hu=>by simp [exV] at hu;rcases hu with rfl | rfl | rfl | rfl | rfl | rfl | rfl<;>first | rfl | exact HV1.out
   go_region_law ((refine step_append_lies _ (by rfl) _ _ _ (by rfl) base 97 i0 _ 7 72 Try.underlying65 hi0 hz0 hz1 hz2 rfl (by decide) ev _ _ (by rfl) ((HE9.out.alloc _).drew) ⟨w5.heap.size,0,none⟩ 1 1 (exV ((⟨61,p,d,v1,q1,[],nr⟩:EX),Q none 0 0)) (by rfl) (by rfl) (World.news_of_block (cs:=#[J O 61,J Z p,J Z d,J Z v1,J Z q1,Q none 0 0,J Z nr]) (t:=97) (fr:=(0,0)) (heap_alloc_new w5 _)) hone.out (Nat.lt_succ_self 0) hA1.out hA2.out (hA3.out _) (w5.heap.size+1) (by simp) ?_;intro g cap w9 hown hgrow hat hlt9;obtain ⟨y3,yz⟩:=HP5.out.grown3 hgrow))
   all_goals
    have HP9:Hid (PM (w9.setCell ⟨B,3,none⟩ (Q (some ⟨g,0,none⟩) (n9+1) cap)) base B s (zM s (p+1) false) (z9 s (p+1) false) (Q (some ⟨g,0,none⟩) (n9+1) cap) rv (es++[((⟨61,p,d,v1,q1,[],nr⟩:EX),Q none 0 0)]) rs):=((HP5.out.alloc _).drew).pushE HN9.out hgrow hown ((HV5.out.alloc _).drew)
    have HM9:Hid (Mv base B ev rv (Q (some ⟨g,0,none⟩) (n9+1) cap) rv w (w9.setCell ⟨B,3,none⟩ (Q (some ⟨g,0,none⟩) (n9+1) cap))):=(HM5.out.trans (Mv.alloc HP5.out.bs _)).drew.trans (((HP5.out.alloc _).drew).pushMv hgrow hat (by show (w5.alloc _).heap.size<=_;simp))
    clear hown hgrow hat
    go_wp2_with fail
    go_ret
    exact ⟨by rw [<- hR.out];rw [<- HN9.out];rfl,_,[((⟨61,p,d,v1,q1,[],nr⟩:EX),Q none 0 0)],by rw [<- hR.out];rfl,by rw [<- hR.out];exact HP9.out,HM9.out,fun q hq g hg=>by simp at hq;subst hq;simp [Value.ownBlock] at hg⟩
end
end Go.Proofs.Ytaebngpoagjafaa
