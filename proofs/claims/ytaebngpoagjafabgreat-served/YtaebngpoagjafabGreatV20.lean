import Derived.Test.YtaebngpoagjafabGreatV17
set_option maxRecDepth 100000
set_option maxHeartbeats 1600000
namespace Go.Proofs.YtaebngpoagjafabGreat
open Obj renaming cells → X
open Value renaming int → J, slice → Q
open IntKind renaming i64 → Z, u8 → O
open Go.RowKit
attribute [local go_sem ↓] Go.wp_at_zero Go.wp_at_succ
section
def fIt (c:Int) (l:List IM) (j:Nat) (x:IM) (f:Int×Int):Int×Int :=
 let f1:=if 16<=j then fnd f 4 x.at_ else f
 let f2:=if (l.take j).any (fun y=>yo y x)=true then fnd f1 7 x.at_ else f1
 Yw c x f2
def ZC (c:Int) (l:List IM) (f:Int×Int):Nat->Int×Int
 | 0=>f
 | j+1=>match l[j]? with
  | some x=>fIt c l j x (ZC c l f j)
  | none=>ZC c l f j
theorem IV.of_kept {w w':World} {v:Value} {l:List IM} (h:IV w v l) (hk:∀ g,v.ownBlock=some g->w'.heap[g]?=w.heap[g]?):IV w' v l:=by
 rcases h with h | ⟨g,cap,rfl,h1,h2⟩
 ·exact .inl h
 ·refine .inr ⟨g,cap,rfl,h1,fun i x hx=>?_⟩
  have e:∀ j,w'.cell? ⟨g,j,none⟩=w.cell? ⟨g,j,none⟩:=fun j=>World.cell?_of_block (w:=w) (hk g rfl)
  simp only [e]
  exact h2 i x hx
attribute [local go_sem] zS zG
theorem jv (F:Nat) (f:Int×Int) (e:EX) (vo:Option Addr) (vm vc:Nat) (w:World) (hl:e.items.length<=100000) (h:FM w F f) (hv:IV w (Q vo vm vc) e.items) (hvg:∀ g,(Q vo vm vc).ownBlock=some g->g≠F/\g<w.heap.size) (f':Int×Int) (hf:Hid (ZC e.kind e.items f e.items.length=f')) :
 Calls Tryz.prog 91 #[.pointer (some ⟨F,0,none⟩),.agg #[J O e.kind,J Z e.at_,J Z e.depth,J Z e.nv,J Z e.na,Q vo vm vc,J Z e.inner]] w fun r w'=>r=.returned (.tuple #[])/\FM w' F f'/\FK F w w':=by
 have H:Hid (FM (w.alloc (X #[J O e.kind,J Z e.at_,J Z e.depth,J Z e.nv,J Z e.na,Q vo vm vc,J Z e.inner] 148)) F f):=h.alloc _
 have HK:Hid (FK F w (w.alloc (X #[J O e.kind,J Z e.at_,J Z e.depth,J Z e.nv,J Z e.na,Q vo vm vc,J Z e.inner] 148))):=(FK.refl _ _).alloc (Nat.le_of_lt h.lt) _
 have HX:Hid ((w.alloc (X #[J O e.kind,J Z e.at_,J Z e.depth,J Z e.nv,J Z e.na,Q vo vm vc,J Z e.inner] 148)).heap[w.heap.size]?=some (X #[J O e.kind,J Z e.at_,J Z e.depth,J Z e.nv,J Z e.na,Q vo vm vc,J Z e.inner] 148 (0,0))):=heap_alloc_new w _
 have hFl:=h.lt
 have hFn:w.heap.size≠F:=by omega
 clear h
 have hloop:∀ (i:Nat),i<e.items.length->∃ r,e.items[i]?=some r:=fun i hi=>⟨e.items[i],List.getElem?_eq_getElem hi⟩
 rcases hv with ⟨hv0,hv1⟩ | ⟨g,cp,hv0,hcl,hc⟩
 ·cases hv0
  have HF:Hid (f=f'):=by show _=_;rw [<- hf.out,hv1];rfl
  go_enter Tryz.func91,Tryz.ntmps91
  go_wp2_with fail
  go_loopg [9] 1 (fun n y wr=>y=J Z 0/\wr=w.alloc (X #[J O e.kind,J Z e.at_,J Z e.depth,J Z e.nv,J Z e.na,Q none 0 0,J Z e.inner] 148))
  case atStart=>exact ⟨rfl,rfl⟩
  case round =>
   obtain ⟨rfl,rfl⟩:=hrel
   go_wp2_with fail
   go_end0
   exact ⟨rfl,by rw [<- HF.out];exact H.out,HK.out⟩
 ·cases hv0
  have hgF:g≠F:=(hvg g rfl).1
  have hgl:g<w.heap.size:=(hvg g rfl).2
  go_enter Tryz.func91,Tryz.ntmps91
  go_wp2_with fail
  go_loopg [9] e.items.length (fun n y wr=>∃ (j:Nat),n+j=e.items.length/\y=J Z j/\FM wr F (ZC e.kind e.items f j)/\FK F w wr/\wr.heap[w.heap.size]?=some (X #[J O e.kind,J Z e.at_,J Z e.depth,J Z e.nv,J Z e.na,Q (some ⟨g,0,none⟩) e.items.length vc,J Z e.inner] 148 (0,0)))
  case atStart=>exact ⟨0,by omega,rfl,H.out,HK.out,HX.out⟩
  case round =>
   obtain ⟨j,hn,rfl,hfm,hfk,hxe⟩:=hrel
   have HF1:Hid (FM wr F (ZC e.kind e.items f j)):=hfm
   have HK1:Hid _:=hfk
   have HE1:Hid _:=hxe
   have hfl:=hfm.lt
   have hFx:wr.heap.size≠F:=by omega
   have hEX:w.heap.size<wr.heap.size:=lt_of_block hxe
   have hgw:g<wr.heap.size:=Nat.lt_of_lt_of_le hgl hfk.bel.size
   have hblk:wr.heap[g]?=w.heap[g]?:=hfk.kept g hgl hgF
   clear hfm hfk hxe
   by_cases hlt:j<e.items.length
   ·obtain ⟨x,hx⟩:=hloop j hlt
    have hj0:(0:Int)<=(j:Int):=by omega
    have hj1:(j:Int)<(e.items.length:Int):=by omega
    have hj2:(j:Int)<=(vc:Int):=by omega
    have hcj:∀ q,wr.cell? ⟨g,q,none⟩=w.cell? ⟨g,q,none⟩:=fun q=>World.cell?_of_block (w:=w) hblk
    obtain ⟨r0,r1,r2,r3,r4,r5,r6⟩:=hc j x hx
    rw [<- hcj] at r0 r1 r2 r3 r4 r5 r6
    have hl2:(e.items.take j).length=j:=by rw [List.length_take];omega
    have hlt2:(e.items.take j).length<=100000:=by omega
    have HV1:Hid (IV (wr.alloc (X #[J Z x.at_,J Z x.num,J Z x.pv,J Z x.pl,J Z x.wv,J Z x.wa,J Z x.arm] 155)) (Q (some ⟨g,0,none⟩) (e.items.take j).length vc) (e.items.take j)):=.inr ⟨g,vc,rfl,by omega,fun i y hy=>by
     have hcg:∀ q,(wr.alloc (X #[J Z x.at_,J Z x.num,J Z x.pv,J Z x.pl,J Z x.wv,J Z x.wa,J Z x.arm] 155)).cell? ⟨g,q,none⟩=w.cell? ⟨g,q,none⟩:=fun q=>World.cell?_of_block (w:=w) ((Below.heap_alloc _ _ _ hgw).trans hblk)
     simp only [hcg]
     have hi:i<j:=by have:=(List.getElem?_eq_some_iff.1 hy).1;omega
     exact hc i y (by rw [List.getElem?_take_of_lt hi] at hy;exact hy)⟩
    have HF2:Hid (FM (wr.alloc (X #[J Z x.at_,J Z x.num,J Z x.pv,J Z x.pl,J Z x.wv,J Z x.wa,J Z x.arm] 155)) F (ZC e.kind e.items f j)):=HF1.out.alloc _
    have HK2:Hid (FK F w (wr.alloc (X #[J Z x.at_,J Z x.num,J Z x.pv,J Z x.pl,J Z x.wv,J Z x.wa,J Z x.arm] 155))):=HK1.out.alloc (Nat.le_of_lt hfl) _
    have HE2:Hid ((wr.alloc (X #[J Z x.at_,J Z x.num,J Z x.pv,J Z x.pl,J Z x.wv,J Z x.wa,J Z x.arm] 155)).heap[w.heap.size]?=some (X #[J O e.kind,J Z e.at_,J Z e.depth,J Z e.nv,J Z e.na,Q (some ⟨g,0,none⟩) e.items.length vc,J Z e.inner] 148 (0,0))):=(Below.heap_alloc _ _ _ hEX).trans HE1.out
    have HX2:Hid ((wr.alloc (X #[J Z x.at_,J Z x.num,J Z x.pv,J Z x.pl,J Z x.wv,J Z x.wa,J Z x.arm] 155)).heap[wr.heap.size]?=some (X #[J Z x.at_,J Z x.num,J Z x.pv,J Z x.pl,J Z x.wv,J Z x.wa,J Z x.arm] 155 (0,0))):=heap_alloc_new wr _
    have HV2:Hid _:=HV1
    have HJ1:Hid (ZC e.kind e.items f (j+1)=fIt e.kind e.items j x (ZC e.kind e.items f j)):=by show _=_;simp only [ZC,hx]
    rw [hl2] at HV2
    generalize hfj:ZC e.kind e.items f j=fj at *
    clear hx hc hcj hblk hfj HF1 HK1 HV1
    by_cases h16:16<=j
    ·have h16':(16:Int)<=(j:Int):=by omega
     have HJ0:Hid (ZC e.kind e.items f (j+1)=Yw e.kind x (if (e.items.take j).any (fun y=>yo y x)=true then fnd (fnd fj 4 x.at_) 7 x.at_ else fnd fj 4 x.at_)):=by show _=_;rw [HJ1.out];simp only [fIt,if_pos h16]
     go_wp2_with fail
     clear r0 r1 r2 r3 r4 r5 r6
     refine (yK F fj 4 x.at_ _ HF2.out _ rfl).mono ?_
     rintro r w3 ⟨rfl,h,k⟩
     have HF3:Hid (FM w3 F (fnd fj 4 x.at_)):=h
     have HK3:Hid _:=HK2.out.trans k
     have HE3:Hid _:=(k.kept _ (lt_of_block HE2.out) hFn).trans HE2.out
     have HX3:Hid _:=(k.kept _ (lt_of_block HX2.out) hFx).trans HX2.out
     have HV3:Hid (IV w3 (Q (some ⟨g,0,none⟩) j vc) (e.items.take j)):=HV2.out.of_kept (fun g' hg'=>by cases hg';exact k.kept _ (Nat.lt_of_lt_of_le hgl HK2.out.bel.size) hgF)
     clear h k
     have e0:w3.cell? ⟨w.heap.size,0,none⟩=some (J O e.kind):=by simp [World.cell?,HE3.out]
     have e5:w3.cell? ⟨w.heap.size,5,none⟩=some (Q (some ⟨g,0,none⟩) e.items.length vc):=by simp [World.cell?,HE3.out]
     have x0:w3.cell? ⟨wr.heap.size,0,none⟩=some (J Z x.at_):=by simp [World.cell?,HX3.out]
     have x1:w3.cell? ⟨wr.heap.size,1,none⟩=some (J Z x.num):=by simp [World.cell?,HX3.out]
     have x2:w3.cell? ⟨wr.heap.size,2,none⟩=some (J Z x.pv):=by simp [World.cell?,HX3.out]
     have x3:w3.cell? ⟨wr.heap.size,3,none⟩=some (J Z x.pl):=by simp [World.cell?,HX3.out]
     have x4:w3.cell? ⟨wr.heap.size,4,none⟩=some (J Z x.wv):=by simp [World.cell?,HX3.out]
     have x5:w3.cell? ⟨wr.heap.size,5,none⟩=some (J Z x.wa):=by simp [World.cell?,HX3.out]
     have x6:w3.cell? ⟨wr.heap.size,6,none⟩=some (J Z x.arm):=by simp [World.cell?,HX3.out]
     go_wp2_with fail
     go_region_with (go_at_call 129;refine (QO _ x (e.items.take j) _ hlt2 ?_).mono ?_;exact HV3.out.of_kept (fun _ _=>rfl);rintro r w4 ⟨hb4,rfl⟩)
     all_goals
      have k:FK F w3 w4:=(FK.refl _ _).drew.trans (FK.below hb4 (Nat.le_of_lt HF3.out.lt))
      have h:FM w4 F (fnd fj 4 x.at_):=(hb4.block F HF3.out.lt).trans HF3.out
      clear hb4 e0 e5 x0 x1 x2 x3 x4 x5 x6
      have HF4:Hid _:=h
      have HK4:Hid _:=HK3.out.trans k
      have HE4:Hid _:=(k.kept _ (lt_of_block HE3.out) hFn).trans HE3.out
      have HX4:Hid _:=(k.kept _ (lt_of_block HX3.out) hFx).trans HX3.out
      have HV4:Hid (IV w4 (Q (some ⟨g,0,none⟩) j vc) (e.items.take j)):=HV3.out.of_kept (fun g' hg'=>by cases hg';exact k.kept _ (Nat.lt_of_lt_of_le hgl HK3.out.bel.size) hgF)
      clear h k
      have e0:w4.cell? ⟨w.heap.size,0,none⟩=some (J O e.kind):=by simp [World.cell?,HE4.out]
      have e5:w4.cell? ⟨w.heap.size,5,none⟩=some (Q (some ⟨g,0,none⟩) e.items.length vc):=by simp [World.cell?,HE4.out]
      have x0:w4.cell? ⟨wr.heap.size,0,none⟩=some (J Z x.at_):=by simp [World.cell?,HX4.out]
      have x1:w4.cell? ⟨wr.heap.size,1,none⟩=some (J Z x.num):=by simp [World.cell?,HX4.out]
      have x2:w4.cell? ⟨wr.heap.size,2,none⟩=some (J Z x.pv):=by simp [World.cell?,HX4.out]
      have x3:w4.cell? ⟨wr.heap.size,3,none⟩=some (J Z x.pl):=by simp [World.cell?,HX4.out]
      have x4:w4.cell? ⟨wr.heap.size,4,none⟩=some (J Z x.wv):=by simp [World.cell?,HX4.out]
      have x5:w4.cell? ⟨wr.heap.size,5,none⟩=some (J Z x.wa):=by simp [World.cell?,HX4.out]
      have x6:w4.cell? ⟨wr.heap.size,6,none⟩=some (J Z x.arm):=by simp [World.cell?,HX4.out]
      cases hin:(e.items.take j).any (fun y=>yo y x) with
      | true =>
       have HJ:Hid (ZC e.kind e.items f (j+1)=Yw e.kind x (fnd (fnd fj 4 x.at_) 7 x.at_)):=by show _=_;rw [HJ0.out,hin];rfl
       clear hin HJ0
       go_wp2_with fail
       refine (yK F (fnd fj 4 x.at_) 7 x.at_ _ HF4.out _ rfl).mono ?_
       rintro r w5 ⟨rfl,h,k⟩
       have HF5:Hid _:=h
       have HK5:Hid _:=HK4.out.trans k
       have HE5:Hid _:=(k.kept _ (lt_of_block HE4.out) hFn).trans HE4.out
       have HX5:Hid _:=(k.kept _ (lt_of_block HX4.out) hFx).trans HX4.out
       have HV5:Hid (IV w5 (Q (some ⟨g,0,none⟩) j vc) (e.items.take j)):=HV4.out.of_kept (fun g' hg'=>by cases hg';exact k.kept _ (Nat.lt_of_lt_of_le hgl HK4.out.bel.size) hgF)
       clear h k
       clear e0 e5 x0 x1 x2 x3 x4 x5 x6
       have e0:w5.cell? ⟨w.heap.size,0,none⟩=some (J O e.kind):=by simp [World.cell?,HE5.out]
       have e5:w5.cell? ⟨w.heap.size,5,none⟩=some (Q (some ⟨g,0,none⟩) e.items.length vc):=by simp [World.cell?,HE5.out]
       have x0:w5.cell? ⟨wr.heap.size,0,none⟩=some (J Z x.at_):=by simp [World.cell?,HX5.out]
       have x1:w5.cell? ⟨wr.heap.size,1,none⟩=some (J Z x.num):=by simp [World.cell?,HX5.out]
       have x2:w5.cell? ⟨wr.heap.size,2,none⟩=some (J Z x.pv):=by simp [World.cell?,HX5.out]
       have x3:w5.cell? ⟨wr.heap.size,3,none⟩=some (J Z x.pl):=by simp [World.cell?,HX5.out]
       have x4:w5.cell? ⟨wr.heap.size,4,none⟩=some (J Z x.wv):=by simp [World.cell?,HX5.out]
       have x5:w5.cell? ⟨wr.heap.size,5,none⟩=some (J Z x.wa):=by simp [World.cell?,HX5.out]
       have x6:w5.cell? ⟨wr.heap.size,6,none⟩=some (J Z x.arm):=by simp [World.cell?,HX5.out]
       go_wp2_with fail
       refine (YL F (fnd (fnd fj 4 x.at_) 7 x.at_) e.kind x _ HF5.out _ rfl).mono ?_
       rintro r w9 ⟨rfl,h,k⟩
       have HF9:Hid (FM w9 F (ZC e.kind e.items f (j+1))):=by show FM _ _ _;rw [HJ.out];exact h
       have HK9:Hid _:=HK5.out.trans k
       have HE9:Hid _:=(k.kept _ (lt_of_block HE5.out) hFn).trans HE5.out
       clear h k
       clear e0 e5 x0 x1 x2 x3 x4 x5 x6
       go_wp2_with fail
       go_roundg (gk-1)
       case measure=>omega
       case rel=>exact ⟨j+1,by omega,by go_num,HF9.out,HK9.out,HE9.out⟩
      | false =>
       have HJ:Hid (ZC e.kind e.items f (j+1)=Yw e.kind x (fnd fj 4 x.at_)):=by show _=_;rw [HJ0.out,hin];rfl
       clear hin HJ0
       go_wp2_with fail
       refine (YL F (fnd fj 4 x.at_) e.kind x _ HF4.out _ rfl).mono ?_
       rintro r w9 ⟨rfl,h,k⟩
       have HF9:Hid (FM w9 F (ZC e.kind e.items f (j+1))):=by show FM _ _ _;rw [HJ.out];exact h
       have HK9:Hid _:=HK4.out.trans k
       have HE9:Hid _:=(k.kept _ (lt_of_block HE4.out) hFn).trans HE4.out
       clear h k
       clear e0 e5 x0 x1 x2 x3 x4 x5 x6
       go_wp2_with fail
       go_roundg (gk-1)
       case measure=>omega
       case rel=>exact ⟨j+1,by omega,by go_num,HF9.out,HK9.out,HE9.out⟩
    ·have h16':¬ (16:Int)<=(j:Int):=by omega
     have HJ0:Hid (ZC e.kind e.items f (j+1)=Yw e.kind x (if (e.items.take j).any (fun y=>yo y x)=true then fnd fj 7 x.at_ else fj)):=by show _=_;rw [HJ1.out];simp only [fIt,if_neg h16]
     have e0':wr.cell? ⟨w.heap.size,5,none⟩=some (Q (some ⟨g,0,none⟩) e.items.length vc):=by simp [World.cell?,HE1.out]
     go_wp2_with fail
     clear r0 r1 r2 r3 r4 r5 r6 e0'
     generalize wr.alloc (X #[J Z x.at_,J Z x.num,J Z x.pv,J Z x.pl,J Z x.wv,J Z x.wa,J Z x.arm] 155)=w3 at *
     have HF3:=HF2
     have HK3:=HK2
     have HE3:=HE2
     have HX3:=HX2
     have HV3:=HV2
     have e0:w3.cell? ⟨w.heap.size,0,none⟩=some (J O e.kind):=by simp [World.cell?,HE3.out]
     have e5:w3.cell? ⟨w.heap.size,5,none⟩=some (Q (some ⟨g,0,none⟩) e.items.length vc):=by simp [World.cell?,HE3.out]
     have x0:w3.cell? ⟨wr.heap.size,0,none⟩=some (J Z x.at_):=by simp [World.cell?,HX3.out]
     have x1:w3.cell? ⟨wr.heap.size,1,none⟩=some (J Z x.num):=by simp [World.cell?,HX3.out]
     have x2:w3.cell? ⟨wr.heap.size,2,none⟩=some (J Z x.pv):=by simp [World.cell?,HX3.out]
     have x3:w3.cell? ⟨wr.heap.size,3,none⟩=some (J Z x.pl):=by simp [World.cell?,HX3.out]
     have x4:w3.cell? ⟨wr.heap.size,4,none⟩=some (J Z x.wv):=by simp [World.cell?,HX3.out]
     have x5:w3.cell? ⟨wr.heap.size,5,none⟩=some (J Z x.wa):=by simp [World.cell?,HX3.out]
     have x6:w3.cell? ⟨wr.heap.size,6,none⟩=some (J Z x.arm):=by simp [World.cell?,HX3.out]
     go_region_with (go_at_call 129;refine (QO _ x (e.items.take j) _ hlt2 ?_).mono ?_;exact HV3.out.of_kept (fun _ _=>rfl);rintro r w4 ⟨hb4,rfl⟩)
     all_goals
      have k:FK F w3 w4:=(FK.refl _ _).drew.trans (FK.below hb4 (Nat.le_of_lt HF3.out.lt))
      have h:FM w4 F fj:=(hb4.block F HF3.out.lt).trans HF3.out
      clear hb4 e0 e5 x0 x1 x2 x3 x4 x5 x6
      have HF4:Hid _:=h
      have HK4:Hid _:=HK3.out.trans k
      have HE4:Hid _:=(k.kept _ (lt_of_block HE3.out) hFn).trans HE3.out
      have HX4:Hid _:=(k.kept _ (lt_of_block HX3.out) hFx).trans HX3.out
      have HV4:Hid (IV w4 (Q (some ⟨g,0,none⟩) j vc) (e.items.take j)):=HV3.out.of_kept (fun g' hg'=>by cases hg';exact k.kept _ (Nat.lt_of_lt_of_le hgl HK3.out.bel.size) hgF)
      clear h k
      have e0:w4.cell? ⟨w.heap.size,0,none⟩=some (J O e.kind):=by simp [World.cell?,HE4.out]
      have e5:w4.cell? ⟨w.heap.size,5,none⟩=some (Q (some ⟨g,0,none⟩) e.items.length vc):=by simp [World.cell?,HE4.out]
      have x0:w4.cell? ⟨wr.heap.size,0,none⟩=some (J Z x.at_):=by simp [World.cell?,HX4.out]
      have x1:w4.cell? ⟨wr.heap.size,1,none⟩=some (J Z x.num):=by simp [World.cell?,HX4.out]
      have x2:w4.cell? ⟨wr.heap.size,2,none⟩=some (J Z x.pv):=by simp [World.cell?,HX4.out]
      have x3:w4.cell? ⟨wr.heap.size,3,none⟩=some (J Z x.pl):=by simp [World.cell?,HX4.out]
      have x4:w4.cell? ⟨wr.heap.size,4,none⟩=some (J Z x.wv):=by simp [World.cell?,HX4.out]
      have x5:w4.cell? ⟨wr.heap.size,5,none⟩=some (J Z x.wa):=by simp [World.cell?,HX4.out]
      have x6:w4.cell? ⟨wr.heap.size,6,none⟩=some (J Z x.arm):=by simp [World.cell?,HX4.out]
      cases hin:(e.items.take j).any (fun y=>yo y x) with
      | true =>
       have HJ:Hid (ZC e.kind e.items f (j+1)=Yw e.kind x (fnd fj 7 x.at_)):=by show _=_;rw [HJ0.out,hin];rfl
       clear hin HJ0
       go_wp2_with fail
       refine (yK F fj 7 x.at_ _ HF4.out _ rfl).mono ?_
       rintro r w5 ⟨rfl,h,k⟩
       have HF5:Hid _:=h
       have HK5:Hid _:=HK4.out.trans k
       have HE5:Hid _:=(k.kept _ (lt_of_block HE4.out) hFn).trans HE4.out
       have HX5:Hid _:=(k.kept _ (lt_of_block HX4.out) hFx).trans HX4.out
       have HV5:Hid (IV w5 (Q (some ⟨g,0,none⟩) j vc) (e.items.take j)):=HV4.out.of_kept (fun g' hg'=>by cases hg';exact k.kept _ (Nat.lt_of_lt_of_le hgl HK4.out.bel.size) hgF)
       clear h k
       clear e0 e5 x0 x1 x2 x3 x4 x5 x6
       have e0:w5.cell? ⟨w.heap.size,0,none⟩=some (J O e.kind):=by simp [World.cell?,HE5.out]
       have e5:w5.cell? ⟨w.heap.size,5,none⟩=some (Q (some ⟨g,0,none⟩) e.items.length vc):=by simp [World.cell?,HE5.out]
       have x0:w5.cell? ⟨wr.heap.size,0,none⟩=some (J Z x.at_):=by simp [World.cell?,HX5.out]
       have x1:w5.cell? ⟨wr.heap.size,1,none⟩=some (J Z x.num):=by simp [World.cell?,HX5.out]
       have x2:w5.cell? ⟨wr.heap.size,2,none⟩=some (J Z x.pv):=by simp [World.cell?,HX5.out]
       have x3:w5.cell? ⟨wr.heap.size,3,none⟩=some (J Z x.pl):=by simp [World.cell?,HX5.out]
       have x4:w5.cell? ⟨wr.heap.size,4,none⟩=some (J Z x.wv):=by simp [World.cell?,HX5.out]
       have x5:w5.cell? ⟨wr.heap.size,5,none⟩=some (J Z x.wa):=by simp [World.cell?,HX5.out]
       have x6:w5.cell? ⟨wr.heap.size,6,none⟩=some (J Z x.arm):=by simp [World.cell?,HX5.out]
       go_wp2_with fail
       refine (YL F (fnd fj 7 x.at_) e.kind x _ HF5.out _ rfl).mono ?_
       rintro r w9 ⟨rfl,h,k⟩
       have HF9:Hid (FM w9 F (ZC e.kind e.items f (j+1))):=by show FM _ _ _;rw [HJ.out];exact h
       have HK9:Hid _:=HK5.out.trans k
       have HE9:Hid _:=(k.kept _ (lt_of_block HE5.out) hFn).trans HE5.out
       clear h k
       clear e0 e5 x0 x1 x2 x3 x4 x5 x6
       go_wp2_with fail
       go_roundg (gk-1)
       case measure=>omega
       case rel=>exact ⟨j+1,by omega,by go_num,HF9.out,HK9.out,HE9.out⟩
      | false =>
       have HJ:Hid (ZC e.kind e.items f (j+1)=Yw e.kind x fj):=by show _=_;rw [HJ0.out,hin];rfl
       clear hin HJ0
       go_wp2_with fail
       refine (YL F fj e.kind x _ HF4.out _ rfl).mono ?_
       rintro r w9 ⟨rfl,h,k⟩
       have HF9:Hid (FM w9 F (ZC e.kind e.items f (j+1))):=by show FM _ _ _;rw [HJ.out];exact h
       have HK9:Hid _:=HK4.out.trans k
       have HE9:Hid _:=(k.kept _ (lt_of_block HE4.out) hFn).trans HE4.out
       clear h k
       clear e0 e5 x0 x1 x2 x3 x4 x5 x6
       go_wp2_with fail
       go_roundg (gk-1)
       case measure=>omega
       case rel=>exact ⟨j+1,by omega,by go_num,HF9.out,HK9.out,HE9.out⟩
   ·have hd:¬ ((j:Int)<(e.items.length:Int)):=by omega
    have hje:j=e.items.length:=by omega
    have HF9:Hid (FM wr F f'):=by show FM _ _ _;rw [<- hf.out,<- hje];exact HF1.out
    clear hje
    go_wp2_with fail
    go_end0
    exact ⟨rfl,HF9.out,HK1.out⟩
end
section
def ZN (rs:List RL) (f:Int×Int):Nat->Int×Int
 | 0=>f
 | j+1=>match rs[j]? with
  | some r=>if yf r.nv (rs.take j)=-1 then ZN rs f j else fnd (ZN rs f j) 5 r.na
  | none=>ZN rs f j
def xH (es:List EX) (f:Int×Int):Nat->Int×Int
 | 0=>f
 | j+1=>match es[j]? with
  | some e=>ZC e.kind e.items (Xh e (xH es f j)) e.items.length
  | none=>xH es f j
def Y5 (es:List EX) (rs:List RL):Int×Int:=xH es (ZN rs (0,0) rs.length) es.length
structure PV (w:World) (eo ro:Option Addr) (ec rc:Nat) (es:List (EX×Value)) (rs:List RL):Prop where
 lr:rs.length<=rc
 nr:rs.length<=100000
 ne:es.length<=100000
 hr:∀ i r,rs[i]?=some r->∃ g,ro=some ⟨g,0,none⟩/\g<w.heap.size/\w.cell? ⟨g,i*3,none⟩=some (J Z r.nv)/\w.cell? ⟨g,i*3+1,none⟩=some (J Z r.na)/\w.cell? ⟨g,i*3+2,none⟩=some (J Z r.ex)
 he:∀ i x,es[i]?=some x->∃ g vo vm vc,eo=some ⟨g,0,none⟩/\g<w.heap.size/\w.cell? ⟨g,i*7,none⟩=some (J O x.1.kind)/\w.cell? ⟨g,i*7+1,none⟩=some (J Z x.1.at_)/\w.cell? ⟨g,i*7+2,none⟩=some (J Z x.1.depth)/\w.cell? ⟨g,i*7+3,none⟩=some (J Z x.1.nv)/\w.cell? ⟨g,i*7+4,none⟩=some (J Z x.1.na)/\w.cell? ⟨g,i*7+5,none⟩=some (Q vo vm vc)/\w.cell? ⟨g,i*7+6,none⟩=some (J Z x.1.inner)/\x.2=Q vo vm vc/\IV w (Q vo vm vc) x.1.items/\(∀ q,(Q vo vm vc).ownBlock=some q->q<w.heap.size)/\x.1.items.length<=100000
attribute [local go_sem] zS zG
theorem zai (eo ro:Option Addr) (ec rc:Nat) (es:List (EX×Value)) (rs:List RL) (w:World) (h:PV w eo ro ec rc es rs) (f':Int×Int) (hf:Hid (Y5 (es.map Prod.fst) rs=f')) :
 Calls Tryz.prog 49 #[.agg #[Q eo es.length ec,Q ro rs.length rc]] w fun r w'=>r=.returned (.agg #[J Z f'.1,J Z f'.2])/\Below w.heap.size w w':=by
 have H:Hid (FM (((w.alloc (X #[Q eo es.length ec,Q ro rs.length rc] 74)).alloc (X #[J Z 0,J Z 0] 106)).alloc (X #[J Z 0,J Z 0] 106)) (w.heap.size+1+1) (0,0)):=zy _ (by simp)
 have HB:Hid (Below w.heap.size w (((w.alloc (X #[Q eo es.length ec,Q ro rs.length rc] 74)).alloc (X #[J Z 0,J Z 0] 106)).alloc (X #[J Z 0,J Z 0] 106))):=(((Below.refl _ _).alloc (Nat.le_refl _) _).alloc (by simp) _).alloc (by simp;omega) _
 have HP:Hid ((((w.alloc (X #[Q eo es.length ec,Q ro rs.length rc] 74)).alloc (X #[J Z 0,J Z 0] 106)).alloc (X #[J Z 0,J Z 0] 106)).heap[w.heap.size]?=some (X #[Q eo es.length ec,Q ro rs.length rc] 74 (0,0))):=(Below.heap_alloc _ _ _ (by simp;omega)).trans ((Below.heap_alloc _ _ _ (by simp)).trans (heap_alloc_new w _))
 have HR:Hid ((((w.alloc (X #[Q eo es.length ec,Q ro rs.length rc] 74)).alloc (X #[J Z 0,J Z 0] 106)).alloc (X #[J Z 0,J Z 0] 106)).heap[w.heap.size+1]?=some (X #[J Z 0,J Z 0] 106 (0,0))):=(Below.heap_alloc _ _ _ (by simp)).trans (zy _ (by simp))
 have hlr:=h.lr
 have hnr:=h.nr
 have hne:=h.ne
 have HH:Hid _:=h
 clear h
 have hPF:w.heap.size≠(w.heap.size+1+1):=by omega
 have hRF:w.heap.size+1≠(w.heap.size+1+1):=by omega
 go_enter Tryz.func49,Tryz.ntmps49
 go_wp2_with fail
 generalize hw0:((w.alloc (X #[Q eo es.length ec,Q ro rs.length rc] 74)).alloc (X #[J Z 0,J Z 0] 106)).alloc (X #[J Z 0,J Z 0] 106)=w0 at *
 clear hw0
 have HK0:Hid (FK (w.heap.size+1+1) w0 w0):=FK.refl _ _
 go_loopg [12] rs.length (fun n y wr=>∃ (j:Nat),n+j=rs.length/\y=J Z j/\FM wr (w.heap.size+1+1) (ZN rs (0,0) j)/\FK (w.heap.size+1+1) w0 wr)
 case atStart=>exact ⟨0,by omega,rfl,H.out,FK.refl _ _⟩
 case round =>
  obtain ⟨j,hn,rfl,hfm,hfk⟩:=hrel
  have HF1:Hid (FM wr (w.heap.size+1+1) (ZN rs (0,0) j)):=hfm
  have HK1:Hid _:=hfk
  have hfl:=hfm.lt
  have hFx:wr.heap.size≠(w.heap.size+1+1):=by omega
  have HP1:Hid _:=(hfk.kept _ (lt_of_block HP.out) hPF).trans HP.out
  have hPX:=lt_of_block HP1.out
  have HWB:Hid (∀ g,g<w.heap.size->wr.heap[g]?=w.heap[g]?):=fun g hg=>(hfk.kept g (Nat.lt_of_lt_of_le hg HB.out.size) (by omega)).trans (HB.out.block g hg)
  have hws:w.heap.size<=wr.heap.size:=Nat.le_trans HB.out.size hfk.bel.size
  clear hfm hfk
  by_cases hlt:j<rs.length
  ·obtain ⟨r,hr⟩:∃ r,rs[j]?=some r:=⟨rs[j],List.getElem?_eq_getElem hlt⟩
   have hj0:(0:Int)<=(j:Int):=by omega
   have hj1:(j:Int)<(rs.length:Int):=by omega
   have hj2:(j:Int)<=(rc:Int):=by omega
   obtain ⟨g,rfl,hgw,r0,r1,r2⟩:=HH.out.hr j r hr
   have hcg:∀ q,wr.cell? ⟨g,q,none⟩=w.cell? ⟨g,q,none⟩:=fun q=>World.cell?_of_block (w:=w) (HWB.out g hgw)
   rw [<- hcg] at r0 r1 r2
   have hl2:(rs.take j).length=j:=by rw [List.length_take];omega
   have HV2:Hid (RV (wr.alloc (X #[J Z r.nv,J Z r.na,J Z r.ex] 143)) (Q (some ⟨g,0,none⟩) (rs.take j).length rc) (rs.take j)):=.inr ⟨g,rc,rfl,fun i y hy=>by
    have hcq:∀ q,(wr.alloc (X #[J Z r.nv,J Z r.na,J Z r.ex] 143)).cell? ⟨g,q,none⟩=w.cell? ⟨g,q,none⟩:=fun q=>World.cell?_of_block (w:=w) ((Below.heap_alloc _ _ _ (Nat.lt_of_lt_of_le hgw hws)).trans (HWB.out g hgw))
    have hi:i<j:=by have:=(List.getElem?_eq_some_iff.1 hy).1;omega
    obtain ⟨g',hg',_,q0,q1,q2⟩:=HH.out.hr i y (by rw [List.getElem?_take_of_lt hi] at hy;exact hy)
    cases hg'
    exact ⟨(hcq _).trans q0,(hcq _).trans q1,(hcq _).trans q2⟩⟩
   have HF2:Hid (FM (wr.alloc (X #[J Z r.nv,J Z r.na,J Z r.ex] 143)) (w.heap.size+1+1) (ZN rs (0,0) j)):=HF1.out.alloc _
   have HK2:Hid (FK (w.heap.size+1+1) w0 (wr.alloc (X #[J Z r.nv,J Z r.na,J Z r.ex] 143))):=HK1.out.alloc (Nat.le_of_lt hfl) _
   have HX2:Hid ((wr.alloc (X #[J Z r.nv,J Z r.na,J Z r.ex] 143)).heap[wr.heap.size]?=some (X #[J Z r.nv,J Z r.na,J Z r.ex] 143 (0,0))):=heap_alloc_new wr _
   have HP2:Hid ((wr.alloc (X #[J Z r.nv,J Z r.na,J Z r.ex] 143)).heap[w.heap.size]?=some (X #[Q eo es.length ec,Q (some ⟨g,0,none⟩) rs.length rc] 74 (0,0))):=(Below.heap_alloc _ _ _ hPX).trans HP1.out
   have HJ1:Hid (ZN rs (0,0) (j+1)=if yf r.nv (rs.take j)=-1 then ZN rs (0,0) j else fnd (ZN rs (0,0) j) 5 r.na):=by show _=_;simp only [ZN,hr]
   have p1':wr.cell? ⟨w.heap.size,1,none⟩=some (Q (some ⟨g,0,none⟩) rs.length rc):=by simp [World.cell?,HP1.out]
   rw [hl2] at HV2
   have HL2:Hid ((rs.take j).length<=100000):=by show _<=_;omega
   clear hr hcg
   generalize hfj:ZN rs (0,0) j=fj at *
   clear hfj
   go_wp2_with fail
   clear r0 r1 r2 p1'
   generalize wr.alloc (X #[J Z r.nv,J Z r.na,J Z r.ex] 143)=w3 at *
   have p1:w3.cell? ⟨w.heap.size,1,none⟩=some (Q (some ⟨g,0,none⟩) rs.length rc):=by simp [World.cell?,HP2.out]
   have x0:w3.cell? ⟨wr.heap.size,0,none⟩=some (J Z r.nv):=by simp [World.cell?,HX2.out]
   generalize hnq:yf r.nv (rs.take j)=nq at *
   have hnm:∀ wz:World,wz.heap=w3.heap->Calls Tryz.prog 88 #[Q (some ⟨g,0,none⟩) j rc,J Z r.nv] wz fun e w'=>Below wz.heap.size wz w'/\e=.returned (J Z nq):=fun wz hz=>by
    have:=XR (Q (some ⟨g,0,none⟩) j rc) r.nv (rs.take j) wz HL2.out (by
     rcases HV2.out with h | ⟨g',c',h1,h2⟩
     ·exact .inl h
     ·exact .inr ⟨g',c',h1,fun i y hy=>by
       have e:∀ q,wz.cell? ⟨g',q,none⟩=w3.cell? ⟨g',q,none⟩:=fun q=>World.cell?_of_block (w:=w3) (by rw [hz])
       simp only [e];exact h2 i y hy⟩)
    rwa [hnq] at this
   clear hnq
   cases hq:(nq==-1) with
   | true =>
    have hq2:(nq != -1)=false:=by simp [bne,hq]
    have HJ:Hid (ZN rs (0,0) (j+1)=fj):=by show _=_;rw [HJ1.out,if_pos (by simpa using hq)]
    clear hq
    go_region_with (go_at_call 88;refine (hnm _ ?_).mono ?_;rfl;rintro e w4 ⟨hb4,rfl⟩)
    all_goals
     have HK4:Hid (FK (w.heap.size+1+1) w0 w4):=HK2.out.drew.trans (FK.below hb4 (Nat.le_of_lt HF2.out.lt))
     have HF4:Hid (FM w4 (w.heap.size+1+1) (ZN rs (0,0) (j+1))):=by show FM _ _ _;rw [HJ.out];exact (hb4.block _ HF2.out.lt).trans HF2.out
     clear hb4
     go_wp2_with fail
     go_roundg (gk-1)
     case measure=>omega
     case rel=>exact ⟨j+1,by omega,by go_num,HF4.out,HK4.out⟩
   | false =>
    have hq2:(nq != -1)=true:=by simp [bne,hq]
    have HJ:Hid (ZN rs (0,0) (j+1)=fnd fj 5 r.na):=by show _=_;rw [HJ1.out,if_neg (by simpa using hq)]
    have HJ':Hid (fnd fj 5 r.na=ZN rs (0,0) (j+1)):=HJ.out.symm
    clear hq
    go_region_with (go_at_call 88;refine (hnm _ ?_).mono ?_;rfl;rintro e w4 ⟨hb4,rfl⟩)
    all_goals
     have HK4:Hid (FK (w.heap.size+1+1) w0 w4):=HK2.out.drew.trans (FK.below hb4 (Nat.le_of_lt HF2.out.lt))
     have HF4:Hid (FM w4 (w.heap.size+1+1) fj):=(hb4.block _ HF2.out.lt).trans HF2.out
     have hx4:=(hb4.block wr.heap.size (lt_of_block HX2.out)).trans HX2.out
     have x1:w4.cell? ⟨wr.heap.size,1,none⟩=some (J Z r.na):=by simp [World.cell?,hx4]
     clear hb4 hx4
     go_wp2_with fail
     refine (yK (w.heap.size+1+1) fj 5 r.na _ HF4.out _ HJ').mono ?_
     rintro e w5 ⟨rfl,h5,k5⟩
     have HF5:Hid _:=h5
     have HK5:Hid _:=HK4.out.trans k5
     clear h5 k5
     go_wp2_with fail
     go_roundg (gk-1)
     case measure=>omega
     case rel=>exact ⟨j+1,by omega,by go_num,HF5.out,HK5.out⟩
  ·have hd:¬ ((j:Int)<(rs.length:Int)):=by omega
   have hje:j=rs.length:=by omega
   have p0:wr.cell? ⟨w.heap.size,0,none⟩=some (Q eo es.length ec):=by simp [World.cell?,HP1.out]
   have HF2:Hid (FM wr (w.heap.size+1+1) (ZN rs (0,0) rs.length)):=by show FM _ _ _;rw [<- hje];exact HF1.out
   clear hje
   go_wp2_with fail
   generalize hf0:ZN rs (0,0) rs.length=f0 at *
   have HF0:Hid (xH (es.map Prod.fst) f0 es.length=f'):=by show _=_;rw [<- hf.out,<- hf0];simp [Y5]
   clear hf0
   have HFf:Hid (xH (es.map Prod.fst) f0 0=f0):=rfl
   go_loopg [34] es.length (fun n y wz=>∃ (j:Nat),n+j=es.length/\y=J Z j/\FM wz (w.heap.size+1+1) (xH (es.map Prod.fst) f0 j)/\FK (w.heap.size+1+1) w0 wz)
   case atStart=>exact ⟨0,by omega,rfl,HF2.out,HK1.out⟩
   case round =>
    obtain ⟨i,hni,rfl,hfm,hfk⟩:=hrel
    have HFb:Hid (FM wr (w.heap.size+1+1) (xH (es.map Prod.fst) f0 i)):=hfm
    have HKb:Hid _:=hfk
    have hflb:=hfm.lt
    have hFxb:wr.heap.size≠(w.heap.size+1+1):=by omega
    have HWBb:Hid (∀ g,g<w.heap.size->wr.heap[g]?=w.heap[g]?):=fun g hg=>(hfk.kept g (Nat.lt_of_lt_of_le hg HB.out.size) (by omega)).trans (HB.out.block g hg)
    have hwsb:w.heap.size<=wr.heap.size:=Nat.le_trans HB.out.size hfk.bel.size
    have HRb:Hid _:=(hfk.kept _ (lt_of_block HR.out) hRF).trans HR.out
    clear hfm hfk
    by_cases hlti:i<es.length
    ·obtain ⟨xv,hxv⟩:∃ r,es[i]?=some r:=⟨es[i],List.getElem?_eq_getElem hlti⟩
     have hi0:(0:Int)<=(i:Int):=by omega
     have hi1:(i:Int)<(es.length:Int):=by omega
     obtain ⟨g,vo,vm,vc,heo,hgw,r0,r1,r2,r3,r4,r5,r6,hx2,hiv,hivg,hil⟩:=HH.out.he i xv hxv
     obtain ⟨x,xq⟩:=xv
     simp only at r0 r1 r2 r3 r4 r6 hx2 hiv hil
     subst hx2
     subst heo
     have hcg:∀ q,wr.cell? ⟨g,q,none⟩=w.cell? ⟨g,q,none⟩:=fun q=>World.cell?_of_block (w:=w) (HWBb.out g hgw)
     rw [<- hcg] at r0 r1 r2 r3 r4 r5 r6
     have HJ1:Hid (xH (es.map Prod.fst) f0 (i+1)=ZC x.kind x.items (Xh x (xH (es.map Prod.fst) f0 i)) x.items.length):=by
      show _=_
      have:(es.map Prod.fst)[i]?=some x:=by rw [List.getElem?_map,hxv];rfl
      simp only [xH,this]
     have HVb:Hid (IV w (Q vo vm vc) x.items):=hiv
     have HVg:Hid _:=hivg
     have HIL:Hid _:=hil
     have HFc:Hid (FM (wr.alloc (X #[J O x.kind,J Z x.at_,J Z x.depth,J Z x.nv,J Z x.na,Q vo vm vc,J Z x.inner] 148)) (w.heap.size+1+1) (xH (es.map Prod.fst) f0 i)):=HFb.out.alloc _
     have HKc:Hid (FK (w.heap.size+1+1) w0 (wr.alloc (X #[J O x.kind,J Z x.at_,J Z x.depth,J Z x.nv,J Z x.na,Q vo vm vc,J Z x.inner] 148))):=HKb.out.alloc (Nat.le_of_lt hflb) _
     have HXc:Hid ((wr.alloc (X #[J O x.kind,J Z x.at_,J Z x.depth,J Z x.nv,J Z x.na,Q vo vm vc,J Z x.inner] 148)).heap[wr.heap.size]?=some (X #[J O x.kind,J Z x.at_,J Z x.depth,J Z x.nv,J Z x.na,Q vo vm vc,J Z x.inner] 148 (0,0))):=heap_alloc_new wr _
     have HKc':Hid (w.heap.size<=(wr.alloc (X #[J O x.kind,J Z x.at_,J Z x.depth,J Z x.nv,J Z x.na,Q vo vm vc,J Z x.inner] 148)).heap.size):=by show _<=_;simp;omega
     generalize hfj:xH (es.map Prod.fst) f0 i=fi at *
     clear hfj hxv hcg hiv hivg hil
     go_wp2_with fail
     clear r0 r1 r2 r3 r4 r5 r6
     refine (zad (w.heap.size+1+1) fi x vo vm vc _ HFc.out _ rfl).mono ?_
     rintro e w5 ⟨rfl,h5,k5⟩
     have HF5:Hid _:=h5
     have HK5:Hid _:=HKc.out.trans k5
     have hx5:=(k5.kept wr.heap.size (lt_of_block HXc.out) hFxb).trans HXc.out
     have x0:w5.cell? ⟨wr.heap.size,0,none⟩=some (J O x.kind):=by simp [World.cell?,hx5]
     have x1:w5.cell? ⟨wr.heap.size,1,none⟩=some (J Z x.at_):=by simp [World.cell?,hx5]
     have x2:w5.cell? ⟨wr.heap.size,2,none⟩=some (J Z x.depth):=by simp [World.cell?,hx5]
     have x3:w5.cell? ⟨wr.heap.size,3,none⟩=some (J Z x.nv):=by simp [World.cell?,hx5]
     have x4:w5.cell? ⟨wr.heap.size,4,none⟩=some (J Z x.na):=by simp [World.cell?,hx5]
     have x5:w5.cell? ⟨wr.heap.size,5,none⟩=some (Q vo vm vc):=by simp [World.cell?,hx5]
     have x6:w5.cell? ⟨wr.heap.size,6,none⟩=some (J Z x.inner):=by simp [World.cell?,hx5]
     have HV5:Hid (IV w5 (Q vo vm vc) x.items):=HVb.out.of_kept (fun q hq=>by
      have hqw:=HVg.out q hq
      exact (k5.kept q (Nat.lt_of_lt_of_le hqw HKc'.out) (by omega)).trans ((Below.heap_alloc _ _ _ (Nat.lt_of_lt_of_le hqw hwsb)).trans (HWBb.out q hqw)))
     have HVq:Hid (∀ q,(Q vo vm vc).ownBlock=some q->q≠(w.heap.size+1+1)/\q<w5.heap.size):=fun q hq=>by
      have hqw:=HVg.out q hq
      exact ⟨by omega,Nat.lt_of_lt_of_le hqw (Nat.le_trans HKc'.out k5.bel.size)⟩
     clear h5 k5 hx5
     go_wp2_with fail
     refine (jv (w.heap.size+1+1) (Xh x fi) x vo vm vc _ HIL.out HF5.out HV5.out HVq.out _ HJ1.out.symm).mono ?_
     rintro e w6 ⟨rfl,h6,k6⟩
     have HF6:Hid _:=h6
     have HK6:Hid _:=HK5.out.trans k6
     clear h6 k6 x0 x1 x2 x3 x4 x5 x6
     go_wp2_with fail
     go_roundg (gk-1)
     case measure=>omega
     case rel=>exact ⟨i+1,by omega,by go_num,HF6.out,HK6.out⟩
    ·have hd2:¬ ((i:Int)<(es.length:Int)):=by omega
     have hie:i=es.length:=by omega
     have HF9:Hid (FM wr (w.heap.size+1+1) f'):=by show FM _ _ _;rw [<- HF0.out,<- hie];exact HFb.out
     clear hie
     have q0:=HF9.out.c0
     have q1:=HF9.out.c1
     have s0:wr.cell? ⟨w.heap.size+1,0,none⟩=some (J Z 0):=by simp [World.cell?,HRb.out]
     have s1:wr.cell? ⟨w.heap.size+1,1,none⟩=some (J Z 0):=by simp [World.cell?,HRb.out]
     have sz:∀ q,wr.frozen? ⟨w.heap.size+1,q,none⟩=false:=fun q=>by simp [World.frozen?,HRb.out]
     have HBz:Hid (Below w.heap.size w wr):=HB.out.trans (HKb.out.bel.mono (by omega))
     go_wp2_with fail
     exact bodyPost_ret (v:=.agg #[J Z f'.1,J Z f'.2]) (by simp [results,Tryz.results49,go_sem,s0,s1]) rfl ⟨rfl,(HBz.out.setCell (by simp) _).setCell (by simp) _⟩
end
end Go.Proofs.YtaebngpoagjafabGreat
