import Derived.Test.YtaebngpoagjafabGreatU16
set_option maxRecDepth 100000
set_option maxHeartbeats 1600000
namespace Go.Proofs.YtaebngpoagjafabGreat
open Obj renaming cells → X
open Value renaming int → J, slice → Q
open IntKind renaming i64 → Z, u8 → O
open Go.RowKit
attribute [local go_sem ↓] Go.wp_at_zero Go.wp_at_succ
section
def fIt (c:Int) (l:List IM) (j:Nat) (x:IM) (f:Int×Int):Int×Int :=
 let f1:=if 16<=j then fnd f 4 x.at_ else f
 let f2:=if (l.take j).any (fun y=>yv y x)=true then fnd f1 7 x.at_ else f1
 Y4 c x f2
def ZZ (c:Int) (l:List IM) (f:Int×Int):Nat->Int×Int
 | 0=>f
 | j+1=>match l[j]? with
  | some x=>fIt c l j x (ZZ c l f j)
  | none=>ZZ c l f j
theorem IV.of_kept {w w':World} {v:Value} {l:List IM} (h:IV w v l) (hk:∀ g,v.ownBlock=some g->w'.heap[g]?=w.heap[g]?):IV w' v l:=by
 rcases h with h | ⟨g,cap,rfl,h1,h2⟩
 ·exact .inl h
 ·refine .inr ⟨g,cap,rfl,h1,fun i x hx=>?_⟩
  have e:∀ j,w'.cell? ⟨g,j,none⟩=w.cell? ⟨g,j,none⟩:=fun j=>World.cell?_of_block (w:=w) (hk g rfl)
  simp only [e]
  exact h2 i x hx
attribute [local go_sem] zV zH
theorem JM (F:Nat) (f:Int×Int) (e:EX) (vo:Option Addr) (vm vc:Nat) (w:World) (hl:e.items.length<=100000) (h:FM w F f) (hv:IV w (Q vo vm vc) e.items) (hvg:∀ g,(Q vo vm vc).ownBlock=some g->g≠F/\g<w.heap.size) (f':Int×Int) (hf:Hid (ZZ e.kind e.items f e.items.length=f')) :
 Calls Tryz.prog 91 #[.pointer (some ⟨F,0,none⟩),.agg #[J O e.kind,J Z e.at_,J Z e.depth,J Z e.nv,J Z e.na,Q vo vm vc,J Z e.inner]] w fun r w'=>r=.returned (.tuple #[])/\FM w' F f'/\FK F w w':=by
 have H:Hid (FM (w.alloc (X #[J O e.kind,J Z e.at_,J Z e.depth,J Z e.nv,J Z e.na,Q vo vm vc,J Z e.inner] 148)) F f):=h.alloc _
 have HK:Hid (FK F w (w.alloc (X #[J O e.kind,J Z e.at_,J Z e.depth,J Z e.nv,J Z e.na,Q vo vm vc,J Z e.inner] 148))):=(FK.refl _ _).alloc (Nat.le_of_lt h.lt) _
 have HX:Hid ((w.alloc (X #[J O e.kind,J Z e.at_,J Z e.depth,J Z e.nv,J Z e.na,Q vo vm vc,J Z e.inner] 148)).heap[w.heap.size]?=some (X #[J O e.kind,J Z e.at_,J Z e.depth,J Z e.nv,J Z e.na,Q vo vm vc,J Z e.inner] 148 (0,0))):=heap_alloc_new w _
 have e4:=h.lt
 have s:w.heap.size≠F:=by omega
 clear h
 have a8:∀ (i:Nat),i<e.items.length->∃ r,e.items[i]?=some r:=fun i hi=>⟨e.items[i],List.getElem?_eq_getElem hi⟩
 rcases hv with ⟨hv0,hv1⟩ | ⟨g,cp,hv0,hcl,hc⟩
 ·cases hv0
  have HF:Hid (f=f'):=by show _=_;rw [<- hf.out,hv1];rfl
  go_enter Tryz.func91,Tryz.ntmps91
  go_wp2_with fail
  go_loopg [9] 1 (fun n y wr=>y=J Z 0/\wr=w.alloc (X #[J O e.kind,J Z e.at_,J Z e.depth,J Z e.nv,J Z e.na,Q none 0 0,J Z e.inner] 148))
  case atStart=>exact ⟨rfl,rfl⟩
  case round =>
   obtain ⟨rfl,rfl⟩:=hrel
   go_wp2_with fail
   go_end0
   exact ⟨rfl,by rw [<- HF.out];exact H.out,HK.out⟩
 ·cases hv0
  have V:g≠F:=(hvg g rfl).1
  have B:g<w.heap.size:=(hvg g rfl).2
  go_enter Tryz.func91,Tryz.ntmps91
  go_wp2_with fail
  go_loopg [9] e.items.length (fun n y wr=>∃ (j:Nat),n+j=e.items.length/\y=J Z j/\FM wr F (ZZ e.kind e.items f j)/\FK F w wr/\wr.heap[w.heap.size]?=some (X #[J O e.kind,J Z e.at_,J Z e.depth,J Z e.nv,J Z e.na,Q (some ⟨g,0,none⟩) e.items.length vc,J Z e.inner] 148 (0,0)))
  case atStart=>exact ⟨0,by omega,rfl,H.out,HK.out,HX.out⟩
  case round =>
   obtain ⟨j,hn,rfl,a9,a5,a7⟩:=hrel
   have b7:Hid (FM wr F (ZZ e.kind e.items f j)):=a9
   have b5:Hid _:=a5
   have d1:Hid _:=a7
   have d5:=a9.lt
   have a1:wr.heap.size≠F:=by omega
   have d7:w.heap.size<wr.heap.size:=lt_of_block a7
   have d4:g<wr.heap.size:=Nat.lt_of_lt_of_le B a5.bel.size
   have a0:wr.heap[g]?=w.heap[g]?:=a5.kept g B V
   clear a9 a5 a7
   by_cases d2:j<e.items.length
   ·obtain ⟨x,hx⟩:=a8 j d2
    have e3:(0:Int)<=(j:Int):=by omega
    have e2:(j:Int)<(e.items.length:Int):=by omega
    have e1:(j:Int)<=(vc:Int):=by omega
    have c5:∀ q,wr.cell? ⟨g,q,none⟩=w.cell? ⟨g,q,none⟩:=fun q=>World.cell?_of_block (w:=w) a0
    obtain ⟨r0,r1,r2,r3,r4,r5,r6⟩:=hc j x hx
    rw [<- c5] at r0 r1 r2 r3 r4 r5 r6
    have d3:(e.items.take j).length=j:=by rw [List.length_take];omega
    have a6:(e.items.take j).length<=100000:=by omega
    have c8:Hid (IV (wr.alloc (X #[J Z x.at_,J Z x.num,J Z x.pv,J Z x.pl,J Z x.wv,J Z x.wa,J Z x.arm] 155)) (Q (some ⟨g,0,none⟩) (e.items.take j).length vc) (e.items.take j)):=.inr ⟨g,vc,rfl,by omega,fun i y hy=>by
     have d6:∀ q,(wr.alloc (X #[J Z x.at_,J Z x.num,J Z x.pv,J Z x.pl,J Z x.wv,J Z x.wa,J Z x.arm] 155)).cell? ⟨g,q,none⟩=w.cell? ⟨g,q,none⟩:=fun q=>World.cell?_of_block (w:=w) ((Below.heap_alloc _ _ _ d4).trans a0)
     simp only [d6]
     have hi:i<j:=by have:=(List.getElem?_eq_some_iff.1 hy).1;omega
     exact hc i y (by rw [List.getElem?_take_of_lt hi] at hy;exact hy)⟩
    have d0:Hid (FM (wr.alloc (X #[J Z x.at_,J Z x.num,J Z x.pv,J Z x.pl,J Z x.wv,J Z x.wa,J Z x.arm] 155)) F (ZZ e.kind e.items f j)):=b7.out.alloc _
    have b4:Hid (FK F w (wr.alloc (X #[J Z x.at_,J Z x.num,J Z x.pv,J Z x.pl,J Z x.wv,J Z x.wa,J Z x.arm] 155))):=b5.out.alloc (Nat.le_of_lt d5) _
    have b8:Hid ((wr.alloc (X #[J Z x.at_,J Z x.num,J Z x.pv,J Z x.pl,J Z x.wv,J Z x.wa,J Z x.arm] 155)).heap[w.heap.size]?=some (X #[J O e.kind,J Z e.at_,J Z e.depth,J Z e.nv,J Z e.na,Q (some ⟨g,0,none⟩) e.items.length vc,J Z e.inner] 148 (0,0))):=(Below.heap_alloc _ _ _ d7).trans d1.out
    have b0:Hid ((wr.alloc (X #[J Z x.at_,J Z x.num,J Z x.pv,J Z x.pl,J Z x.wv,J Z x.wa,J Z x.arm] 155)).heap[wr.heap.size]?=some (X #[J Z x.at_,J Z x.num,J Z x.pv,J Z x.pl,J Z x.wv,J Z x.wa,J Z x.arm] 155 (0,0))):=heap_alloc_new wr _
    have b2:Hid _:=c8
    have c9:Hid (ZZ e.kind e.items f (j+1)=fIt e.kind e.items j x (ZZ e.kind e.items f j)):=by show _=_;simp only [ZZ,hx]
    rw [d3] at b2
    generalize hfj:ZZ e.kind e.items f j=fj at *
    clear hx hc c5 a0 hfj b7 b5 c8
    by_cases c7:16<=j
    ·have c6:(16:Int)<=(j:Int):=by omega
     have u:Hid (ZZ e.kind e.items f (j+1)=Y4 e.kind x (if (e.items.take j).any (fun y=>yv y x)=true then fnd (fnd fj 4 x.at_) 7 x.at_ else fnd fj 4 x.at_)):=by show _=_;rw [c9.out];simp only [fIt,if_pos c7]
     go_wp2_with fail
     clear r0 r1 r2 r3 r4 r5 r6
     refine (yX F fj 4 x.at_ _ d0.out _ rfl).mono ?_
     rintro r o ⟨rfl,h,k⟩
     have G:Hid (FM o F (fnd fj 4 x.at_)):=h
     have a3:Hid _:=b4.out.trans k
     have A:Hid _:=(k.kept _ (lt_of_block b8.out) s).trans b8.out
     have b:Hid _:=(k.kept _ (lt_of_block b0.out) a1).trans b0.out
     have a2:Hid (IV o (Q (some ⟨g,0,none⟩) j vc) (e.items.take j)):=b2.out.of_kept (fun g' hg'=>by cases hg';exact k.kept _ (Nat.lt_of_lt_of_le B b4.out.bel.size) V)
     clear h k
     have Y:o.cell? ⟨w.heap.size,0,none⟩=some (J O e.kind):=by simp [World.cell?,A.out]
     have W:o.cell? ⟨w.heap.size,5,none⟩=some (Q (some ⟨g,0,none⟩) e.items.length vc):=by simp [World.cell?,A.out]
     have U:o.cell? ⟨wr.heap.size,0,none⟩=some (J Z x.at_):=by simp [World.cell?,b.out]
     have S:o.cell? ⟨wr.heap.size,1,none⟩=some (J Z x.num):=by simp [World.cell?,b.out]
     have R:o.cell? ⟨wr.heap.size,2,none⟩=some (J Z x.pv):=by simp [World.cell?,b.out]
     have P:o.cell? ⟨wr.heap.size,3,none⟩=some (J Z x.pl):=by simp [World.cell?,b.out]
     have N:o.cell? ⟨wr.heap.size,4,none⟩=some (J Z x.wv):=by simp [World.cell?,b.out]
     have L:o.cell? ⟨wr.heap.size,5,none⟩=some (J Z x.wa):=by simp [World.cell?,b.out]
     have K:o.cell? ⟨wr.heap.size,6,none⟩=some (J Z x.arm):=by simp [World.cell?,b.out]
     go_wp2_with fail
     go_region_with (go_at_call 129;refine (jZ _ x (e.items.take j) _ a6 ?_).mono ?_;exact a2.out.of_kept (fun _ _=>rfl);rintro r m ⟨C,rfl⟩)
     all_goals
      have k:FK F o m:=(FK.refl _ _).drew.trans (FK.below C (Nat.le_of_lt G.out.lt))
      have h:FM m F (fnd fj 4 x.at_):=(C.block F G.out.lt).trans G.out
      clear C Y W U S R P N L K
      have a4:Hid _:=h
      have E:Hid _:=a3.out.trans k
      have l:Hid _:=(k.kept _ (lt_of_block A.out) s).trans A.out
      have a:Hid _:=(k.kept _ (lt_of_block b.out) a1).trans b.out
      have b1:Hid (IV m (Q (some ⟨g,0,none⟩) j vc) (e.items.take j)):=a2.out.of_kept (fun g' hg'=>by cases hg';exact k.kept _ (Nat.lt_of_lt_of_le B a3.out.bel.size) V)
      clear h k
      have Y:m.cell? ⟨w.heap.size,0,none⟩=some (J O e.kind):=by simp [World.cell?,l.out]
      have W:m.cell? ⟨w.heap.size,5,none⟩=some (Q (some ⟨g,0,none⟩) e.items.length vc):=by simp [World.cell?,l.out]
      have U:m.cell? ⟨wr.heap.size,0,none⟩=some (J Z x.at_):=by simp [World.cell?,a.out]
      have S:m.cell? ⟨wr.heap.size,1,none⟩=some (J Z x.num):=by simp [World.cell?,a.out]
      have R:m.cell? ⟨wr.heap.size,2,none⟩=some (J Z x.pv):=by simp [World.cell?,a.out]
      have P:m.cell? ⟨wr.heap.size,3,none⟩=some (J Z x.pl):=by simp [World.cell?,a.out]
      have N:m.cell? ⟨wr.heap.size,4,none⟩=some (J Z x.wv):=by simp [World.cell?,a.out]
      have L:m.cell? ⟨wr.heap.size,5,none⟩=some (J Z x.wa):=by simp [World.cell?,a.out]
      have K:m.cell? ⟨wr.heap.size,6,none⟩=some (J Z x.arm):=by simp [World.cell?,a.out]
      cases hin:(e.items.take j).any (fun y=>yv y x) with
      | true =>
       have HJ:Hid (ZZ e.kind e.items f (j+1)=Y4 e.kind x (fnd (fnd fj 4 x.at_) 7 x.at_)):=by show _=_;rw [u.out,hin];rfl
       clear hin u
       go_wp2_with fail
       refine (yX F (fnd fj 4 x.at_) 7 x.at_ _ a4.out _ rfl).mono ?_
       rintro r p ⟨rfl,h,k⟩
       have b6:Hid _:=h
       have b3:Hid _:=E.out.trans k
       have z:Hid _:=(k.kept _ (lt_of_block l.out) s).trans l.out
       have d:Hid _:=(k.kept _ (lt_of_block a.out) a1).trans a.out
       have d9:Hid (IV p (Q (some ⟨g,0,none⟩) j vc) (e.items.take j)):=b1.out.of_kept (fun g' hg'=>by cases hg';exact k.kept _ (Nat.lt_of_lt_of_le B E.out.bel.size) V)
       clear h k
       clear Y W U S R P N L K
       have Y:p.cell? ⟨w.heap.size,0,none⟩=some (J O e.kind):=by simp [World.cell?,z.out]
       have W:p.cell? ⟨w.heap.size,5,none⟩=some (Q (some ⟨g,0,none⟩) e.items.length vc):=by simp [World.cell?,z.out]
       have U:p.cell? ⟨wr.heap.size,0,none⟩=some (J Z x.at_):=by simp [World.cell?,d.out]
       have S:p.cell? ⟨wr.heap.size,1,none⟩=some (J Z x.num):=by simp [World.cell?,d.out]
       have R:p.cell? ⟨wr.heap.size,2,none⟩=some (J Z x.pv):=by simp [World.cell?,d.out]
       have P:p.cell? ⟨wr.heap.size,3,none⟩=some (J Z x.pl):=by simp [World.cell?,d.out]
       have N:p.cell? ⟨wr.heap.size,4,none⟩=some (J Z x.wv):=by simp [World.cell?,d.out]
       have L:p.cell? ⟨wr.heap.size,5,none⟩=some (J Z x.wa):=by simp [World.cell?,d.out]
       have K:p.cell? ⟨wr.heap.size,6,none⟩=some (J Z x.arm):=by simp [World.cell?,d.out]
       go_wp2_with fail
       refine (xu F (fnd (fnd fj 4 x.at_) 7 x.at_) e.kind x _ b6.out _ rfl).mono ?_
       rintro r w9 ⟨rfl,h,k⟩
       have v:Hid (FM w9 F (ZZ e.kind e.items f (j+1))):=by show FM _ _ _;rw [HJ.out];exact h
       have D:Hid _:=b3.out.trans k
       have I:Hid _:=(k.kept _ (lt_of_block z.out) s).trans z.out
       clear h k
       clear Y W U S R P N L K
       go_wp2_with fail
       go_roundg (gk-1)
       case measure=>omega
       case rel=>exact ⟨j+1,by omega,by go_num,v.out,D.out,I.out⟩
      | false =>
       have HJ:Hid (ZZ e.kind e.items f (j+1)=Y4 e.kind x (fnd fj 4 x.at_)):=by show _=_;rw [u.out,hin];rfl
       clear hin u
       go_wp2_with fail
       refine (xu F (fnd fj 4 x.at_) e.kind x _ a4.out _ rfl).mono ?_
       rintro r w9 ⟨rfl,h,k⟩
       have v:Hid (FM w9 F (ZZ e.kind e.items f (j+1))):=by show FM _ _ _;rw [HJ.out];exact h
       have D:Hid _:=E.out.trans k
       have I:Hid _:=(k.kept _ (lt_of_block l.out) s).trans l.out
       clear h k
       clear Y W U S R P N L K
       go_wp2_with fail
       go_roundg (gk-1)
       case measure=>omega
       case rel=>exact ⟨j+1,by omega,by go_num,v.out,D.out,I.out⟩
    ·have c6:¬ (16:Int)<=(j:Int):=by omega
     have u:Hid (ZZ e.kind e.items f (j+1)=Y4 e.kind x (if (e.items.take j).any (fun y=>yv y x)=true then fnd fj 7 x.at_ else fj)):=by show _=_;rw [c9.out];simp only [fIt,if_neg c7]
     have d8:wr.cell? ⟨w.heap.size,5,none⟩=some (Q (some ⟨g,0,none⟩) e.items.length vc):=by simp [World.cell?,d1.out]
     go_wp2_with fail
     clear r0 r1 r2 r3 r4 r5 r6 d8
     generalize wr.alloc (X #[J Z x.at_,J Z x.num,J Z x.pv,J Z x.pl,J Z x.wv,J Z x.wa,J Z x.arm] 155)=o at *
     have G:=d0
     have a3:=b4
     have A:=b8
     have b:=b0
     have a2:=b2
     have Y:o.cell? ⟨w.heap.size,0,none⟩=some (J O e.kind):=by simp [World.cell?,A.out]
     have W:o.cell? ⟨w.heap.size,5,none⟩=some (Q (some ⟨g,0,none⟩) e.items.length vc):=by simp [World.cell?,A.out]
     have U:o.cell? ⟨wr.heap.size,0,none⟩=some (J Z x.at_):=by simp [World.cell?,b.out]
     have S:o.cell? ⟨wr.heap.size,1,none⟩=some (J Z x.num):=by simp [World.cell?,b.out]
     have R:o.cell? ⟨wr.heap.size,2,none⟩=some (J Z x.pv):=by simp [World.cell?,b.out]
     have P:o.cell? ⟨wr.heap.size,3,none⟩=some (J Z x.pl):=by simp [World.cell?,b.out]
     have N:o.cell? ⟨wr.heap.size,4,none⟩=some (J Z x.wv):=by simp [World.cell?,b.out]
     have L:o.cell? ⟨wr.heap.size,5,none⟩=some (J Z x.wa):=by simp [World.cell?,b.out]
     have K:o.cell? ⟨wr.heap.size,6,none⟩=some (J Z x.arm):=by simp [World.cell?,b.out]
     go_region_with (go_at_call 129;refine (jZ _ x (e.items.take j) _ a6 ?_).mono ?_;exact a2.out.of_kept (fun _ _=>rfl);rintro r m ⟨C,rfl⟩)
     all_goals
      have k:FK F o m:=(FK.refl _ _).drew.trans (FK.below C (Nat.le_of_lt G.out.lt))
      have h:FM m F fj:=(C.block F G.out.lt).trans G.out
      clear C Y W U S R P N L K
      have a4:Hid _:=h
      have E:Hid _:=a3.out.trans k
      have l:Hid _:=(k.kept _ (lt_of_block A.out) s).trans A.out
      have a:Hid _:=(k.kept _ (lt_of_block b.out) a1).trans b.out
      have b1:Hid (IV m (Q (some ⟨g,0,none⟩) j vc) (e.items.take j)):=a2.out.of_kept (fun g' hg'=>by cases hg';exact k.kept _ (Nat.lt_of_lt_of_le B a3.out.bel.size) V)
      clear h k
      have Y:m.cell? ⟨w.heap.size,0,none⟩=some (J O e.kind):=by simp [World.cell?,l.out]
      have W:m.cell? ⟨w.heap.size,5,none⟩=some (Q (some ⟨g,0,none⟩) e.items.length vc):=by simp [World.cell?,l.out]
      have U:m.cell? ⟨wr.heap.size,0,none⟩=some (J Z x.at_):=by simp [World.cell?,a.out]
      have S:m.cell? ⟨wr.heap.size,1,none⟩=some (J Z x.num):=by simp [World.cell?,a.out]
      have R:m.cell? ⟨wr.heap.size,2,none⟩=some (J Z x.pv):=by simp [World.cell?,a.out]
      have P:m.cell? ⟨wr.heap.size,3,none⟩=some (J Z x.pl):=by simp [World.cell?,a.out]
      have N:m.cell? ⟨wr.heap.size,4,none⟩=some (J Z x.wv):=by simp [World.cell?,a.out]
      have L:m.cell? ⟨wr.heap.size,5,none⟩=some (J Z x.wa):=by simp [World.cell?,a.out]
      have K:m.cell? ⟨wr.heap.size,6,none⟩=some (J Z x.arm):=by simp [World.cell?,a.out]
      cases hin:(e.items.take j).any (fun y=>yv y x) with
      | true =>
       have HJ:Hid (ZZ e.kind e.items f (j+1)=Y4 e.kind x (fnd fj 7 x.at_)):=by show _=_;rw [u.out,hin];rfl
       clear hin u
       go_wp2_with fail
       refine (yX F fj 7 x.at_ _ a4.out _ rfl).mono ?_
       rintro r p ⟨rfl,h,k⟩
       have b6:Hid _:=h
       have b3:Hid _:=E.out.trans k
       have z:Hid _:=(k.kept _ (lt_of_block l.out) s).trans l.out
       have d:Hid _:=(k.kept _ (lt_of_block a.out) a1).trans a.out
       have d9:Hid (IV p (Q (some ⟨g,0,none⟩) j vc) (e.items.take j)):=b1.out.of_kept (fun g' hg'=>by cases hg';exact k.kept _ (Nat.lt_of_lt_of_le B E.out.bel.size) V)
       clear h k
       clear Y W U S R P N L K
       have Y:p.cell? ⟨w.heap.size,0,none⟩=some (J O e.kind):=by simp [World.cell?,z.out]
       have W:p.cell? ⟨w.heap.size,5,none⟩=some (Q (some ⟨g,0,none⟩) e.items.length vc):=by simp [World.cell?,z.out]
       have U:p.cell? ⟨wr.heap.size,0,none⟩=some (J Z x.at_):=by simp [World.cell?,d.out]
       have S:p.cell? ⟨wr.heap.size,1,none⟩=some (J Z x.num):=by simp [World.cell?,d.out]
       have R:p.cell? ⟨wr.heap.size,2,none⟩=some (J Z x.pv):=by simp [World.cell?,d.out]
       have P:p.cell? ⟨wr.heap.size,3,none⟩=some (J Z x.pl):=by simp [World.cell?,d.out]
       have N:p.cell? ⟨wr.heap.size,4,none⟩=some (J Z x.wv):=by simp [World.cell?,d.out]
       have L:p.cell? ⟨wr.heap.size,5,none⟩=some (J Z x.wa):=by simp [World.cell?,d.out]
       have K:p.cell? ⟨wr.heap.size,6,none⟩=some (J Z x.arm):=by simp [World.cell?,d.out]
       go_wp2_with fail
       refine (xu F (fnd fj 7 x.at_) e.kind x _ b6.out _ rfl).mono ?_
       rintro r w9 ⟨rfl,h,k⟩
       have v:Hid (FM w9 F (ZZ e.kind e.items f (j+1))):=by show FM _ _ _;rw [HJ.out];exact h
       have D:Hid _:=b3.out.trans k
       have I:Hid _:=(k.kept _ (lt_of_block z.out) s).trans z.out
       clear h k
       clear Y W U S R P N L K
       go_wp2_with fail
       go_roundg (gk-1)
       case measure=>omega
       case rel=>exact ⟨j+1,by omega,by go_num,v.out,D.out,I.out⟩
      | false =>
       have HJ:Hid (ZZ e.kind e.items f (j+1)=Y4 e.kind x fj):=by show _=_;rw [u.out,hin];rfl
       clear hin u
       go_wp2_with fail
       refine (xu F fj e.kind x _ a4.out _ rfl).mono ?_
       rintro r w9 ⟨rfl,h,k⟩
       have v:Hid (FM w9 F (ZZ e.kind e.items f (j+1))):=by show FM _ _ _;rw [HJ.out];exact h
       have D:Hid _:=E.out.trans k
       have I:Hid _:=(k.kept _ (lt_of_block l.out) s).trans l.out
       clear h k
       clear Y W U S R P N L K
       go_wp2_with fail
       go_roundg (gk-1)
       case measure=>omega
       case rel=>exact ⟨j+1,by omega,by go_num,v.out,D.out,I.out⟩
   ·have hd:¬ ((j:Int)<(e.items.length:Int)):=by omega
    have b9:j=e.items.length:=by omega
    have v:Hid (FM wr F f'):=by show FM _ _ _;rw [<- hf.out,<- b9];exact b7.out
    clear b9
    go_wp2_with fail
    go_end0
    exact ⟨rfl,v.out,b5.out⟩
end
section
def Yb (rs:List RL) (f:Int×Int):Nat->Int×Int
 | 0=>f
 | j+1=>match rs[j]? with
  | some r=>if yn r.nv (rs.take j)=-1 then Yb rs f j else fnd (Yb rs f j) 5 r.na
  | none=>Yb rs f j
def Xp (es:List EX) (f:Int×Int):Nat->Int×Int
 | 0=>f
 | j+1=>match es[j]? with
  | some e=>ZZ e.kind e.items (X0 e (Xp es f j)) e.items.length
  | none=>Xp es f j
def xR (es:List EX) (rs:List RL):Int×Int:=Xp es (Yb rs (0,0) rs.length) es.length
structure PV (w:World) (eo ro:Option Addr) (ec rc:Nat) (es:List (EX×Value)) (rs:List RL):Prop where
 lr:rs.length<=rc
 nr:rs.length<=100000
 ne:es.length<=100000
 hr:∀ i r,rs[i]?=some r->∃ g,ro=some ⟨g,0,none⟩/\g<w.heap.size/\w.cell? ⟨g,i*3,none⟩=some (J Z r.nv)/\w.cell? ⟨g,i*3+1,none⟩=some (J Z r.na)/\w.cell? ⟨g,i*3+2,none⟩=some (J Z r.ex)
 he:∀ i x,es[i]?=some x->∃ g vo vm vc,eo=some ⟨g,0,none⟩/\g<w.heap.size/\w.cell? ⟨g,i*7,none⟩=some (J O x.1.kind)/\w.cell? ⟨g,i*7+1,none⟩=some (J Z x.1.at_)/\w.cell? ⟨g,i*7+2,none⟩=some (J Z x.1.depth)/\w.cell? ⟨g,i*7+3,none⟩=some (J Z x.1.nv)/\w.cell? ⟨g,i*7+4,none⟩=some (J Z x.1.na)/\w.cell? ⟨g,i*7+5,none⟩=some (Q vo vm vc)/\w.cell? ⟨g,i*7+6,none⟩=some (J Z x.1.inner)/\x.2=Q vo vm vc/\IV w (Q vo vm vc) x.1.items/\(∀ q,(Q vo vm vc).ownBlock=some q->q<w.heap.size)/\x.1.items.length<=100000
attribute [local go_sem] zV zH
theorem zbJ (eo ro:Option Addr) (ec rc:Nat) (es:List (EX×Value)) (rs:List RL) (w:World) (h:PV w eo ro ec rc es rs) (f':Int×Int) (hf:Hid (xR (es.map Prod.fst) rs=f')) :
 Calls Tryz.prog 49 #[.agg #[Q eo es.length ec,Q ro rs.length rc]] w fun r w'=>r=.returned (.agg #[J Z f'.1,J Z f'.2])/\Below w.heap.size w w':=by
 have H:Hid (FM (((w.alloc (X #[Q eo es.length ec,Q ro rs.length rc] 74)).alloc (X #[J Z 0,J Z 0] 106)).alloc (X #[J Z 0,J Z 0] 106)) (w.heap.size+1+1) (0,0)):=zu _ (by simp)
 have W:Hid (Below w.heap.size w (((w.alloc (X #[Q eo es.length ec,Q ro rs.length rc] 74)).alloc (X #[J Z 0,J Z 0] 106)).alloc (X #[J Z 0,J Z 0] 106))):=(((Below.refl _ _).alloc (Nat.le_refl _) _).alloc (by simp) _).alloc (by simp;omega) _
 have HP:Hid ((((w.alloc (X #[Q eo es.length ec,Q ro rs.length rc] 74)).alloc (X #[J Z 0,J Z 0] 106)).alloc (X #[J Z 0,J Z 0] 106)).heap[w.heap.size]?=some (X #[Q eo es.length ec,Q ro rs.length rc] 74 (0,0))):=(Below.heap_alloc _ _ _ (by simp;omega)).trans ((Below.heap_alloc _ _ _ (by simp)).trans (heap_alloc_new w _))
 have HR:Hid ((((w.alloc (X #[Q eo es.length ec,Q ro rs.length rc] 74)).alloc (X #[J Z 0,J Z 0] 106)).alloc (X #[J Z 0,J Z 0] 106)).heap[w.heap.size+1]?=some (X #[J Z 0,J Z 0] 106 (0,0))):=(Below.heap_alloc _ _ _ (by simp)).trans (zu _ (by simp))
 have f2:=h.lr
 have e8:=h.nr
 have f1:=h.ne
 have HH:Hid _:=h
 clear h
 have d4:w.heap.size≠(w.heap.size+1+1):=by omega
 have d2:w.heap.size+1≠(w.heap.size+1+1):=by omega
 go_enter Tryz.func49,Tryz.ntmps49
 go_wp2_with fail
 generalize hw0:((w.alloc (X #[Q eo es.length ec,Q ro rs.length rc] 74)).alloc (X #[J Z 0,J Z 0] 106)).alloc (X #[J Z 0,J Z 0] 106)=w0 at *
 clear hw0
 have g0:Hid (FK (w.heap.size+1+1) w0 w0):=FK.refl _ _
 go_loopg [12] rs.length (fun n y wr=>∃ (j:Nat),n+j=rs.length/\y=J Z j/\FM wr (w.heap.size+1+1) (Yb rs (0,0) j)/\FK (w.heap.size+1+1) w0 wr)
 case atStart=>exact ⟨0,by omega,rfl,H.out,FK.refl _ _⟩
 case round =>
  obtain ⟨j,hn,rfl,k,a⟩:=hrel
  have b8:Hid (FM wr (w.heap.size+1+1) (Yb rs (0,0) j)):=k
  have b5:Hid _:=a
  have d0:=k.lt
  have f9:wr.heap.size≠(w.heap.size+1+1):=by omega
  have A:Hid _:=(a.kept _ (lt_of_block HP.out) d4).trans HP.out
  have d3:=lt_of_block A.out
  have b0:Hid (∀ g,g<w.heap.size->wr.heap[g]?=w.heap[g]?):=fun g hg=>(a.kept g (Nat.lt_of_lt_of_le hg W.out.size) (by omega)).trans (W.out.block g hg)
  have c5:w.heap.size<=wr.heap.size:=Nat.le_trans W.out.size a.bel.size
  clear k a
  by_cases c7:j<rs.length
  ·obtain ⟨r,hr⟩:∃ r,rs[j]?=some r:=⟨rs[j],List.getElem?_eq_getElem c7⟩
   have f5:(0:Int)<=(j:Int):=by omega
   have f4:(j:Int)<(rs.length:Int):=by omega
   have f3:(j:Int)<=(rc:Int):=by omega
   obtain ⟨g,rfl,s,r0,r1,r2⟩:=HH.out.hr j r hr
   have u:∀ q,wr.cell? ⟨g,q,none⟩=w.cell? ⟨g,q,none⟩:=fun q=>World.cell?_of_block (w:=w) (b0.out g s)
   rw [<- u] at r0 r1 r2
   have c8:(rs.take j).length=j:=by rw [List.length_take];omega
   have b2:Hid (RV (wr.alloc (X #[J Z r.nv,J Z r.na,J Z r.ex] 143)) (Q (some ⟨g,0,none⟩) (rs.take j).length rc) (rs.take j)):=.inr ⟨g,rc,rfl,fun i y hy=>by
    have L:∀ q,(wr.alloc (X #[J Z r.nv,J Z r.na,J Z r.ex] 143)).cell? ⟨g,q,none⟩=w.cell? ⟨g,q,none⟩:=fun q=>World.cell?_of_block (w:=w) ((Below.heap_alloc _ _ _ (Nat.lt_of_lt_of_le s c5)).trans (b0.out g s))
    have hi:i<j:=by have:=(List.getElem?_eq_some_iff.1 hy).1;omega
    obtain ⟨g',c9,_,q0,q1,q2⟩:=HH.out.hr i y (by rw [List.getElem?_take_of_lt hi] at hy;exact hy)
    cases c9
    exact ⟨(L _).trans q0,(L _).trans q1,(L _).trans q2⟩⟩
   have f:Hid (FM (wr.alloc (X #[J Z r.nv,J Z r.na,J Z r.ex] 143)) (w.heap.size+1+1) (Yb rs (0,0) j)):=b8.out.alloc _
   have b4:Hid (FK (w.heap.size+1+1) w0 (wr.alloc (X #[J Z r.nv,J Z r.na,J Z r.ex] 143))):=b5.out.alloc (Nat.le_of_lt d0) _
   have N:Hid ((wr.alloc (X #[J Z r.nv,J Z r.na,J Z r.ex] 143)).heap[wr.heap.size]?=some (X #[J Z r.nv,J Z r.na,J Z r.ex] 143 (0,0))):=heap_alloc_new wr _
   have d8:Hid ((wr.alloc (X #[J Z r.nv,J Z r.na,J Z r.ex] 143)).heap[w.heap.size]?=some (X #[Q eo es.length ec,Q (some ⟨g,0,none⟩) rs.length rc] 74 (0,0))):=(Below.heap_alloc _ _ _ d3).trans A.out
   have B:Hid (Yb rs (0,0) (j+1)=if yn r.nv (rs.take j)=-1 then Yb rs (0,0) j else fnd (Yb rs (0,0) j) 5 r.na):=by show _=_;simp only [Yb,hr]
   have b9:wr.cell? ⟨w.heap.size,1,none⟩=some (Q (some ⟨g,0,none⟩) rs.length rc):=by simp [World.cell?,A.out]
   rw [c8] at b2
   have d9:Hid ((rs.take j).length<=100000):=by show _<=_;omega
   clear hr u
   generalize hfj:Yb rs (0,0) j=fj at *
   clear hfj
   go_wp2_with fail
   clear r0 r1 r2 b9
   generalize wr.alloc (X #[J Z r.nv,J Z r.na,J Z r.ex] 143)=w3 at *
   have p1:w3.cell? ⟨w.heap.size,1,none⟩=some (Q (some ⟨g,0,none⟩) rs.length rc):=by simp [World.cell?,d8.out]
   have x0:w3.cell? ⟨wr.heap.size,0,none⟩=some (J Z r.nv):=by simp [World.cell?,N.out]
   generalize hnq:yn r.nv (rs.take j)=nq at *
   have a3:∀ wz:World,wz.heap=w3.heap->Calls Tryz.prog 88 #[Q (some ⟨g,0,none⟩) j rc,J Z r.nv] wz fun e w'=>Below wz.heap.size wz w'/\e=.returned (J Z nq):=fun wz hz=>by
    have:=qP (Q (some ⟨g,0,none⟩) j rc) r.nv (rs.take j) wz d9.out (by
     rcases b2.out with h | ⟨g',c',h1,h2⟩
     ·exact .inl h
     ·exact .inr ⟨g',c',h1,fun i y hy=>by
       have e:∀ q,wz.cell? ⟨g',q,none⟩=w3.cell? ⟨g',q,none⟩:=fun q=>World.cell?_of_block (w:=w3) (by rw [hz])
       simp only [e];exact h2 i y hy⟩)
    rwa [hnq] at this
   clear hnq
   cases hq:(nq==-1) with
   | true =>
    have c6:(nq != -1)=false:=by simp [bne,hq]
    have HJ:Hid (Yb rs (0,0) (j+1)=fj):=by show _=_;rw [B.out,if_pos (by simpa using hq)]
    clear hq
    go_region_with (go_at_call 88;refine (a3 _ ?_).mono ?_;rfl;rintro e Y ⟨d,rfl⟩)
    all_goals
     have S:Hid (FK (w.heap.size+1+1) w0 Y):=b4.out.drew.trans (FK.below d (Nat.le_of_lt f.out.lt))
     have V:Hid (FM Y (w.heap.size+1+1) (Yb rs (0,0) (j+1))):=by show FM _ _ _;rw [HJ.out];exact (d.block _ f.out.lt).trans f.out
     clear d
     go_wp2_with fail
     go_roundg (gk-1)
     case measure=>omega
     case rel=>exact ⟨j+1,by omega,by go_num,V.out,S.out⟩
   | false =>
    have c6:(nq != -1)=true:=by simp [bne,hq]
    have HJ:Hid (Yb rs (0,0) (j+1)=fnd fj 5 r.na):=by show _=_;rw [B.out,if_neg (by simpa using hq)]
    have e2:Hid (fnd fj 5 r.na=Yb rs (0,0) (j+1)):=HJ.out.symm
    clear hq
    go_region_with (go_at_call 88;refine (a3 _ ?_).mono ?_;rfl;rintro e Y ⟨d,rfl⟩)
    all_goals
     have S:Hid (FK (w.heap.size+1+1) w0 Y):=b4.out.drew.trans (FK.below d (Nat.le_of_lt f.out.lt))
     have V:Hid (FM Y (w.heap.size+1+1) fj):=(d.block _ f.out.lt).trans f.out
     have a0:=(d.block wr.heap.size (lt_of_block N.out)).trans N.out
     have x1:Y.cell? ⟨wr.heap.size,1,none⟩=some (J Z r.na):=by simp [World.cell?,a0]
     clear d a0
     go_wp2_with fail
     refine (yX (w.heap.size+1+1) fj 5 r.na _ V.out _ e2).mono ?_
     rintro e z ⟨rfl,h5,C⟩
     have U:Hid _:=h5
     have R:Hid _:=S.out.trans C
     clear h5 C
     go_wp2_with fail
     go_roundg (gk-1)
     case measure=>omega
     case rel=>exact ⟨j+1,by omega,by go_num,U.out,R.out⟩
  ·have hd:¬ ((j:Int)<(rs.length:Int)):=by omega
   have a5:j=rs.length:=by omega
   have p0:wr.cell? ⟨w.heap.size,0,none⟩=some (Q eo es.length ec):=by simp [World.cell?,A.out]
   have f:Hid (FM wr (w.heap.size+1+1) (Yb rs (0,0) rs.length)):=by show FM _ _ _;rw [<- a5];exact b8.out
   clear a5
   go_wp2_with fail
   generalize hf0:Yb rs (0,0) rs.length=f0 at *
   have e6:Hid (Xp (es.map Prod.fst) f0 es.length=f'):=by show _=_;rw [<- hf.out,<- hf0];simp [xR]
   clear hf0
   have g1:Hid (Xp (es.map Prod.fst) f0 0=f0):=rfl
   go_loopg [34] es.length (fun n y wz=>∃ (j:Nat),n+j=es.length/\y=J Z j/\FM wz (w.heap.size+1+1) (Xp (es.map Prod.fst) f0 j)/\FK (w.heap.size+1+1) w0 wz)
   case atStart=>exact ⟨0,by omega,rfl,f.out,b5.out⟩
   case round =>
    obtain ⟨i,e9,rfl,k,a⟩:=hrel
    have b6:Hid (FM wr (w.heap.size+1+1) (Xp (es.map Prod.fst) f0 i)):=k
    have b3:Hid _:=a
    have a7:=k.lt
    have a8:wr.heap.size≠(w.heap.size+1+1):=by omega
    have E:Hid (∀ g,g<w.heap.size->wr.heap[g]?=w.heap[g]?):=fun g hg=>(a.kept g (Nat.lt_of_lt_of_le hg W.out.size) (by omega)).trans (W.out.block g hg)
    have a2:w.heap.size<=wr.heap.size:=Nat.le_trans W.out.size a.bel.size
    have P:Hid _:=(a.kept _ (lt_of_block HR.out) d2).trans HR.out
    clear k a
    by_cases a4:i<es.length
    ·obtain ⟨xv,G⟩:∃ r,es[i]?=some r:=⟨es[i],List.getElem?_eq_getElem a4⟩
     have f7:(0:Int)<=(i:Int):=by omega
     have f6:(i:Int)<(es.length:Int):=by omega
     obtain ⟨g,l,m,o,d1,s,r0,r1,r2,r3,r4,r5,r6,a1,I,D,K⟩:=HH.out.he i xv G
     obtain ⟨x,xq⟩:=xv
     simp only at r0 r1 r2 r3 r4 r6 a1 I K
     subst a1
     subst d1
     have u:∀ q,wr.cell? ⟨g,q,none⟩=w.cell? ⟨g,q,none⟩:=fun q=>World.cell?_of_block (w:=w) (E.out g s)
     rw [<- u] at r0 r1 r2 r3 r4 r5 r6
     have B:Hid (Xp (es.map Prod.fst) f0 (i+1)=ZZ x.kind x.items (X0 x (Xp (es.map Prod.fst) f0 i)) x.items.length):=by
      show _=_
      have:(es.map Prod.fst)[i]?=some x:=by rw [List.getElem?_map,G];rfl
      simp only [Xp,this]
     have d6:Hid (IV w (Q l m o) x.items):=I
     have b1:Hid _:=D
     have e3:Hid _:=K
     have e4:Hid (FM (wr.alloc (X #[J O x.kind,J Z x.at_,J Z x.depth,J Z x.nv,J Z x.na,Q l m o,J Z x.inner] 148)) (w.heap.size+1+1) (Xp (es.map Prod.fst) f0 i)):=b6.out.alloc _
     have e0:Hid (FK (w.heap.size+1+1) w0 (wr.alloc (X #[J O x.kind,J Z x.at_,J Z x.depth,J Z x.nv,J Z x.na,Q l m o,J Z x.inner] 148))):=b3.out.alloc (Nat.le_of_lt a7) _
     have a9:Hid ((wr.alloc (X #[J O x.kind,J Z x.at_,J Z x.depth,J Z x.nv,J Z x.na,Q l m o,J Z x.inner] 148)).heap[wr.heap.size]?=some (X #[J O x.kind,J Z x.at_,J Z x.depth,J Z x.nv,J Z x.na,Q l m o,J Z x.inner] 148 (0,0))):=heap_alloc_new wr _
     have F:Hid (w.heap.size<=(wr.alloc (X #[J O x.kind,J Z x.at_,J Z x.depth,J Z x.nv,J Z x.na,Q l m o,J Z x.inner] 148)).heap.size):=by show _<=_;simp;omega
     generalize hfj:Xp (es.map Prod.fst) f0 i=fi at *
     clear hfj G u I D K
     go_wp2_with fail
     clear r0 r1 r2 r3 r4 r5 r6
     refine (zbE (w.heap.size+1+1) fi x l m o _ e4.out _ rfl).mono ?_
     rintro e z ⟨rfl,h5,C⟩
     have U:Hid _:=h5
     have R:Hid _:=e0.out.trans C
     have b:=(C.kept wr.heap.size (lt_of_block a9.out) a8).trans a9.out
     have x0:z.cell? ⟨wr.heap.size,0,none⟩=some (J O x.kind):=by simp [World.cell?,b]
     have x1:z.cell? ⟨wr.heap.size,1,none⟩=some (J Z x.at_):=by simp [World.cell?,b]
     have x2:z.cell? ⟨wr.heap.size,2,none⟩=some (J Z x.depth):=by simp [World.cell?,b]
     have x3:z.cell? ⟨wr.heap.size,3,none⟩=some (J Z x.nv):=by simp [World.cell?,b]
     have x4:z.cell? ⟨wr.heap.size,4,none⟩=some (J Z x.na):=by simp [World.cell?,b]
     have x5:z.cell? ⟨wr.heap.size,5,none⟩=some (Q l m o):=by simp [World.cell?,b]
     have x6:z.cell? ⟨wr.heap.size,6,none⟩=some (J Z x.inner):=by simp [World.cell?,b]
     have d7:Hid (IV z (Q l m o) x.items):=d6.out.of_kept (fun q hq=>by
      have p:=b1.out q hq
      exact (C.kept q (Nat.lt_of_lt_of_le p F.out) (by omega)).trans ((Below.heap_alloc _ _ _ (Nat.lt_of_lt_of_le p a2)).trans (E.out q p)))
     have d5:Hid (∀ q,(Q l m o).ownBlock=some q->q≠(w.heap.size+1+1)/\q<z.heap.size):=fun q hq=>by
      have p:=b1.out q hq
      exact ⟨by omega,Nat.lt_of_lt_of_le p (Nat.le_trans F.out C.bel.size)⟩
     clear h5 C b
     go_wp2_with fail
     refine (JM (w.heap.size+1+1) (X0 x fi) x l m o _ e3.out U.out d7.out d5.out _ B.out.symm).mono ?_
     rintro e w6 ⟨rfl,h6,k6⟩
     have e5:Hid _:=h6
     have e1:Hid _:=R.out.trans k6
     clear h6 k6 x0 x1 x2 x3 x4 x5 x6
     go_wp2_with fail
     go_roundg (gk-1)
     case measure=>omega
     case rel=>exact ⟨i+1,by omega,by go_num,e5.out,e1.out⟩
    ·have f8:¬ ((i:Int)<(es.length:Int)):=by omega
     have a6:i=es.length:=by omega
     have b7:Hid (FM wr (w.heap.size+1+1) f'):=by show FM _ _ _;rw [<- e6.out,<- a6];exact b6.out
     clear a6
     have q0:=b7.out.c0
     have q1:=b7.out.c1
     have s0:wr.cell? ⟨w.heap.size+1,0,none⟩=some (J Z 0):=by simp [World.cell?,P.out]
     have s1:wr.cell? ⟨w.heap.size+1,1,none⟩=some (J Z 0):=by simp [World.cell?,P.out]
     have sz:∀ q,wr.frozen? ⟨w.heap.size+1,q,none⟩=false:=fun q=>by simp [World.frozen?,P.out]
     have e7:Hid (Below w.heap.size w wr):=W.out.trans (b3.out.bel.mono (by omega))
     go_wp2_with fail
     exact bodyPost_ret (v:=.agg #[J Z f'.1,J Z f'.2]) (by simp [results,Tryz.results49,go_sem,s0,s1]) rfl ⟨rfl,(e7.out.setCell (by simp) _).setCell (by simp) _⟩
end
end Go.Proofs.YtaebngpoagjafabGreat
