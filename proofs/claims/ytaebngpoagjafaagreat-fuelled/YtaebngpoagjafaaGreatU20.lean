/-
  OUR OWN.
-/
import Derived.Test.YtaebngpoagjafaaGreatU19
set_option maxRecDepth 100000
namespace Go.Proofs.YtaebngpoagjafaaGreat
open Go.RowKit
def fIt (c:Int) (l:List IM) (j:Nat) (x:IM) (f:Int×Int):Int×Int :=
 let f1:=if 16<=j then fnd f 4 x.at_ else f
 let f2:=if (l.take j).any (fun y=>sameI y x)=true then fnd f1 7 x.at_ else f1
 fItem c x f2
def fIts (c:Int) (l:List IM) (f:Int×Int):Nat->Int×Int
 | 0=>f
 | j+1=>match l[j]? with
   | some x=>fIt c l j x (fIts c l f j)
   | none=>fIts c l f j
theorem IV.of_kept {w w':World} {v:Value} {l:List IM} (h:IV w v l) (hk:∀ g,v.ownBlock=some g->w'.heap[g]?=w.heap[g]?):IV w' v l:=by
 rcases h with h | ⟨g,cap,rfl,h1,h2⟩
 · exact .inl h
 · refine .inr ⟨g,cap,rfl,h1,fun i x hx=>?_⟩
   have e:∀ j,w'.cell? ⟨g,j,none⟩=w.cell? ⟨g,j,none⟩:=fun j=>World.cell?_of_block (w:=w) (hk g rfl)
   simp only [e]
   exact h2 i x hx
attribute [local go_sem ↓] Go.wp_at_zero Go.wp_at_succ
attribute [local go_sem] alloc_drewN setCell_drewN
set_option maxHeartbeats 800000 in
theorem itemsF_any (F:Nat) (f:Int×Int) (e:EX) (vo:Option Addr) (vm vc:Nat) (w:World) (hl:e.items.length<=100000) (h:FM w F f) (hv:IV w (.slice vo vm vc) e.items) (hvg:∀ g,(Value.slice vo vm vc).ownBlock=some g->g≠F/\g<w.heap.size) (f':Int×Int) (hf:Hid (fIts e.kind e.items f e.items.length=f')) :
   Calls Tryz.prog 105 #[.pointer (some ⟨F,0,none⟩),.agg #[.int .u8 e.kind,.int .i64 e.at_,.int .i64 e.depth,.int .i64 e.nv,.int .i64 e.na,.slice vo vm vc,.int .i64 e.inner]] w fun r w'=>r=.returned (.tuple #[])/\FM w' F f'/\FK F w w':=by
 have H:Hid (FM (w.alloc (.cells #[.int .u8 e.kind,.int .i64 e.at_,.int .i64 e.depth,.int .i64 e.nv,.int .i64 e.na,.slice vo vm vc,.int .i64 e.inner] 114)) F f):=h.alloc _
 have HK:Hid (FK F w (w.alloc (.cells #[.int .u8 e.kind,.int .i64 e.at_,.int .i64 e.depth,.int .i64 e.nv,.int .i64 e.na,.slice vo vm vc,.int .i64 e.inner] 114))):=(FK.refl _ _).alloc (Nat.le_of_lt h.lt) _
 have HX:Hid ((w.alloc (.cells #[.int .u8 e.kind,.int .i64 e.at_,.int .i64 e.depth,.int .i64 e.nv,.int .i64 e.na,.slice vo vm vc,.int .i64 e.inner] 114)).heap[w.heap.size]?=some (.cells #[.int .u8 e.kind,.int .i64 e.at_,.int .i64 e.depth,.int .i64 e.nv,.int .i64 e.na,.slice vo vm vc,.int .i64 e.inner] 114 (0,0))):=heap_alloc_new w _
 have hFl:=h.lt
 have hFn:w.heap.size≠F:=by omega
 clear h
 have hloop:∀ (i:Nat),i<e.items.length->∃ r,e.items[i]?=some r:=fun i hi=>⟨e.items[i],List.getElem?_eq_getElem hi⟩
 rcases hv with ⟨hv0,hv1⟩ | ⟨g,cp,hv0,hcl,hc⟩
 · cases hv0
   have HF:Hid (f=f'):=by show _=_;rw [<- hf.out,hv1];rfl
   go_enter Tryz.func105,Tryz.ntmps105
   go_wp2_with fail
   go_loopg [9] 1 (fun n y wr=>y=.int .i64 0/\wr=w.alloc (.cells #[.int .u8 e.kind,.int .i64 e.at_,.int .i64 e.depth,.int .i64 e.nv,.int .i64 e.na,.slice none 0 0,.int .i64 e.inner] 114))
   case atStart=>exact ⟨rfl,rfl⟩
   case round =>
     obtain ⟨rfl,rfl⟩:=hrel
     go_wp2_with fail
     go_end0
     exact ⟨rfl,by rw [<- HF.out];exact H.out,HK.out⟩
 · cases hv0
   have hgF:g≠F:=(hvg g rfl).1
   have hgl:g<w.heap.size:=(hvg g rfl).2
   go_enter Tryz.func105,Tryz.ntmps105
   go_wp2_with fail
   go_loopg [9] e.items.length (fun n y wr=>∃ (j:Nat),n+j=e.items.length/\y=.int .i64 j/\FM wr F (fIts e.kind e.items f j)/\FK F w wr/\wr.heap[w.heap.size]?=some (.cells #[.int .u8 e.kind,.int .i64 e.at_,.int .i64 e.depth,.int .i64 e.nv,.int .i64 e.na,.slice (some ⟨g,0,none⟩) e.items.length vc,.int .i64 e.inner] 114 (0,0)))
   case atStart=>exact ⟨0,by omega,rfl,H.out,HK.out,HX.out⟩
   case round =>
     obtain ⟨j,hn,rfl,hfm,hfk,hxe⟩:=hrel
     have HF1:Hid (FM wr F (fIts e.kind e.items f j)):=hfm
     have HK1:Hid (FK F w wr):=hfk
     have HE1:Hid (wr.heap[w.heap.size]?=some (.cells #[.int .u8 e.kind,.int .i64 e.at_,.int .i64 e.depth,.int .i64 e.nv,.int .i64 e.na,.slice (some ⟨g,0,none⟩) e.items.length vc,.int .i64 e.inner] 114 (0,0))):=hxe
     have hfl:=hfm.lt
     have hFx:wr.heap.size≠F:=by omega
     have hEX:w.heap.size<wr.heap.size:=lt_of_block hxe
     have hgw:g<wr.heap.size:=Nat.lt_of_lt_of_le hgl hfk.bel.size
     have hblk:wr.heap[g]?=w.heap[g]?:=hfk.kept g hgl hgF
     clear hfm hfk hxe
     by_cases hlt:j<e.items.length
     · obtain ⟨x,hx⟩:=hloop j hlt
       have hj0:(0:Int)<=(j:Int):=by omega
       have hj1:(j:Int)<(e.items.length:Int):=by omega
       have hj2:(j:Int)<=(vc:Int):=by omega
       have hcj:∀ q,wr.cell? ⟨g,q,none⟩=w.cell? ⟨g,q,none⟩:=fun q=>World.cell?_of_block (w:=w) hblk
       obtain ⟨r0,r1,r2,r3,r4,r5,r6⟩:=hc j x hx
       rw [<- hcj] at r0 r1 r2 r3 r4 r5 r6
       have hl2:(e.items.take j).length=j:=by rw [List.length_take];omega
       have hlt2:(e.items.take j).length<=100000:=by omega
       have HV1:Hid (IV (wr.alloc (.cells #[.int .i64 x.at_,.int .i64 x.num,.int .i64 x.pv,.int .i64 x.pl,.int .i64 x.wv,.int .i64 x.wa,.int .i64 x.arm] 167)) (.slice (some ⟨g,0,none⟩) (e.items.take j).length vc) (e.items.take j)):=.inr ⟨g,vc,rfl,by omega,fun i y hy=>by
         have hcg:∀ q,(wr.alloc (.cells #[.int .i64 x.at_,.int .i64 x.num,.int .i64 x.pv,.int .i64 x.pl,.int .i64 x.wv,.int .i64 x.wa,.int .i64 x.arm] 167)).cell? ⟨g,q,none⟩=w.cell? ⟨g,q,none⟩:=fun q=>World.cell?_of_block (w:=w) ((Below.heap_alloc _ _ _ hgw).trans hblk)
         simp only [hcg]
         have hi:i<j:=by have:=(List.getElem?_eq_some_iff.1 hy).1;omega
         exact hc i y (by rw [List.getElem?_take_of_lt hi] at hy;exact hy)⟩
       have HF2:Hid (FM (wr.alloc (.cells #[.int .i64 x.at_,.int .i64 x.num,.int .i64 x.pv,.int .i64 x.pl,.int .i64 x.wv,.int .i64 x.wa,.int .i64 x.arm] 167)) F (fIts e.kind e.items f j)):=HF1.out.alloc _
       have HK2:Hid (FK F w (wr.alloc (.cells #[.int .i64 x.at_,.int .i64 x.num,.int .i64 x.pv,.int .i64 x.pl,.int .i64 x.wv,.int .i64 x.wa,.int .i64 x.arm] 167))):=HK1.out.alloc (Nat.le_of_lt hfl) _
       have HE2:Hid ((wr.alloc (.cells #[.int .i64 x.at_,.int .i64 x.num,.int .i64 x.pv,.int .i64 x.pl,.int .i64 x.wv,.int .i64 x.wa,.int .i64 x.arm] 167)).heap[w.heap.size]?=some (.cells #[.int .u8 e.kind,.int .i64 e.at_,.int .i64 e.depth,.int .i64 e.nv,.int .i64 e.na,.slice (some ⟨g,0,none⟩) e.items.length vc,.int .i64 e.inner] 114 (0,0))):=(Below.heap_alloc _ _ _ hEX).trans HE1.out
       have HX2:Hid ((wr.alloc (.cells #[.int .i64 x.at_,.int .i64 x.num,.int .i64 x.pv,.int .i64 x.pl,.int .i64 x.wv,.int .i64 x.wa,.int .i64 x.arm] 167)).heap[wr.heap.size]?=some (.cells #[.int .i64 x.at_,.int .i64 x.num,.int .i64 x.pv,.int .i64 x.pl,.int .i64 x.wv,.int .i64 x.wa,.int .i64 x.arm] 167 (0,0))):=heap_alloc_new wr _
       have HV2:Hid (IV (wr.alloc (.cells #[.int .i64 x.at_,.int .i64 x.num,.int .i64 x.pv,.int .i64 x.pl,.int .i64 x.wv,.int .i64 x.wa,.int .i64 x.arm] 167)) (.slice (some ⟨g,0,none⟩) (e.items.take j).length vc) (e.items.take j)):=HV1
       have HJ1:Hid (fIts e.kind e.items f (j+1)=fIt e.kind e.items j x (fIts e.kind e.items f j)):=by show _=_;simp only [fIts,hx]
       rw [hl2] at HV2
       generalize hfj:fIts e.kind e.items f j=fj at *
       clear hx hc hcj hblk hfj HF1 HK1 HV1
       by_cases h16:16<=j
       · have h16':(16:Int)<=(j:Int):=by omega
         have HJ0:Hid (fIts e.kind e.items f (j+1)=fItem e.kind x (if (e.items.take j).any (fun y=>sameI y x)=true then fnd (fnd fj 4 x.at_) 7 x.at_ else fnd fj 4 x.at_)):=by show _=_;rw [HJ1.out];simp only [fIt,if_pos h16]
         go_wp2_with fail
         clear r0 r1 r2 r3 r4 r5 r6
         refine (found_any F fj 4 x.at_ _ HF2.out _ rfl).mono ?_
         rintro r w3 ⟨rfl,h,k⟩
         have HF3:Hid (FM w3 F (fnd fj 4 x.at_)):=h
         have HK3:Hid (FK F w w3):=HK2.out.trans k
         have HE3:Hid (w3.heap[w.heap.size]?=some (.cells #[.int .u8 e.kind,.int .i64 e.at_,.int .i64 e.depth,.int .i64 e.nv,.int .i64 e.na,.slice (some ⟨g,0,none⟩) e.items.length vc,.int .i64 e.inner] 114 (0,0))):=(k.kept _ (lt_of_block HE2.out) hFn).trans HE2.out
         have HX3:Hid (w3.heap[wr.heap.size]?=some (.cells #[.int .i64 x.at_,.int .i64 x.num,.int .i64 x.pv,.int .i64 x.pl,.int .i64 x.wv,.int .i64 x.wa,.int .i64 x.arm] 167 (0,0))):=(k.kept _ (lt_of_block HX2.out) hFx).trans HX2.out
         have HV3:Hid (IV w3 (.slice (some ⟨g,0,none⟩) j vc) (e.items.take j)):=HV2.out.of_kept (fun g' hg'=>by cases hg';exact k.kept _ (Nat.lt_of_lt_of_le hgl HK2.out.bel.size) hgF)
         clear h k
         have e0:w3.cell? ⟨w.heap.size,0,none⟩=some (.int .u8 e.kind):=by simp [World.cell?,HE3.out]
         have e5:w3.cell? ⟨w.heap.size,5,none⟩=some (.slice (some ⟨g,0,none⟩) e.items.length vc):=by simp [World.cell?,HE3.out]
         have x0:w3.cell? ⟨wr.heap.size,0,none⟩=some (.int .i64 x.at_):=by simp [World.cell?,HX3.out]
         have x1:w3.cell? ⟨wr.heap.size,1,none⟩=some (.int .i64 x.num):=by simp [World.cell?,HX3.out]
         have x2:w3.cell? ⟨wr.heap.size,2,none⟩=some (.int .i64 x.pv):=by simp [World.cell?,HX3.out]
         have x3:w3.cell? ⟨wr.heap.size,3,none⟩=some (.int .i64 x.pl):=by simp [World.cell?,HX3.out]
         have x4:w3.cell? ⟨wr.heap.size,4,none⟩=some (.int .i64 x.wv):=by simp [World.cell?,HX3.out]
         have x5:w3.cell? ⟨wr.heap.size,5,none⟩=some (.int .i64 x.wa):=by simp [World.cell?,HX3.out]
         have x6:w3.cell? ⟨wr.heap.size,6,none⟩=some (.int .i64 x.arm):=by simp [World.cell?,HX3.out]
         go_wp2_with fail
         go_region_with (go_at_call 147;refine (isIn_any _ x (e.items.take j) _ hlt2 ?_).mono ?_;exact HV3.out.of_kept (fun _ _=>rfl);rintro r w4 ⟨hb4,rfl⟩)
         all_goals
           have k:FK F w3 w4:=(FK.refl _ _).drew.trans (FK.below hb4 (Nat.le_of_lt HF3.out.lt))
           have h:FM w4 F (fnd fj 4 x.at_):=(hb4.block F HF3.out.lt).trans HF3.out
           clear hb4 e0 e5 x0 x1 x2 x3 x4 x5 x6
           have HF4:Hid (FM w4 F (fnd fj 4 x.at_)):=h
           have HK4:Hid (FK F w w4):=HK3.out.trans k
           have HE4:Hid (w4.heap[w.heap.size]?=some (.cells #[.int .u8 e.kind,.int .i64 e.at_,.int .i64 e.depth,.int .i64 e.nv,.int .i64 e.na,.slice (some ⟨g,0,none⟩) e.items.length vc,.int .i64 e.inner] 114 (0,0))):=(k.kept _ (lt_of_block HE3.out) hFn).trans HE3.out
           have HX4:Hid (w4.heap[wr.heap.size]?=some (.cells #[.int .i64 x.at_,.int .i64 x.num,.int .i64 x.pv,.int .i64 x.pl,.int .i64 x.wv,.int .i64 x.wa,.int .i64 x.arm] 167 (0,0))):=(k.kept _ (lt_of_block HX3.out) hFx).trans HX3.out
           have HV4:Hid (IV w4 (.slice (some ⟨g,0,none⟩) j vc) (e.items.take j)):=HV3.out.of_kept (fun g' hg'=>by cases hg';exact k.kept _ (Nat.lt_of_lt_of_le hgl HK3.out.bel.size) hgF)
           clear h k
           have e0:w4.cell? ⟨w.heap.size,0,none⟩=some (.int .u8 e.kind):=by simp [World.cell?,HE4.out]
           have e5:w4.cell? ⟨w.heap.size,5,none⟩=some (.slice (some ⟨g,0,none⟩) e.items.length vc):=by simp [World.cell?,HE4.out]
           have x0:w4.cell? ⟨wr.heap.size,0,none⟩=some (.int .i64 x.at_):=by simp [World.cell?,HX4.out]
           have x1:w4.cell? ⟨wr.heap.size,1,none⟩=some (.int .i64 x.num):=by simp [World.cell?,HX4.out]
           have x2:w4.cell? ⟨wr.heap.size,2,none⟩=some (.int .i64 x.pv):=by simp [World.cell?,HX4.out]
           have x3:w4.cell? ⟨wr.heap.size,3,none⟩=some (.int .i64 x.pl):=by simp [World.cell?,HX4.out]
           have x4:w4.cell? ⟨wr.heap.size,4,none⟩=some (.int .i64 x.wv):=by simp [World.cell?,HX4.out]
           have x5:w4.cell? ⟨wr.heap.size,5,none⟩=some (.int .i64 x.wa):=by simp [World.cell?,HX4.out]
           have x6:w4.cell? ⟨wr.heap.size,6,none⟩=some (.int .i64 x.arm):=by simp [World.cell?,HX4.out]
           cases hin:(e.items.take j).any (fun y=>sameI y x) with
           | true =>
             have HJ:Hid (fIts e.kind e.items f (j+1)=fItem e.kind x (fnd (fnd fj 4 x.at_) 7 x.at_)):=by show _=_;rw [HJ0.out,hin];rfl
             clear hin HJ0
             go_wp2_with fail
             refine (found_any F (fnd fj 4 x.at_) 7 x.at_ _ HF4.out _ rfl).mono ?_
             rintro r w5 ⟨rfl,h,k⟩
             have HF5:Hid (FM w5 F (fnd (fnd fj 4 x.at_) 7 x.at_)):=h
             have HK5:Hid (FK F w w5):=HK4.out.trans k
             have HE5:Hid (w5.heap[w.heap.size]?=some (.cells #[.int .u8 e.kind,.int .i64 e.at_,.int .i64 e.depth,.int .i64 e.nv,.int .i64 e.na,.slice (some ⟨g,0,none⟩) e.items.length vc,.int .i64 e.inner] 114 (0,0))):=(k.kept _ (lt_of_block HE4.out) hFn).trans HE4.out
             have HX5:Hid (w5.heap[wr.heap.size]?=some (.cells #[.int .i64 x.at_,.int .i64 x.num,.int .i64 x.pv,.int .i64 x.pl,.int .i64 x.wv,.int .i64 x.wa,.int .i64 x.arm] 167 (0,0))):=(k.kept _ (lt_of_block HX4.out) hFx).trans HX4.out
             have HV5:Hid (IV w5 (.slice (some ⟨g,0,none⟩) j vc) (e.items.take j)):=HV4.out.of_kept (fun g' hg'=>by cases hg';exact k.kept _ (Nat.lt_of_lt_of_le hgl HK4.out.bel.size) hgF)
             clear h k
             clear e0 e5 x0 x1 x2 x3 x4 x5 x6
             have e0:w5.cell? ⟨w.heap.size,0,none⟩=some (.int .u8 e.kind):=by simp [World.cell?,HE5.out]
             have e5:w5.cell? ⟨w.heap.size,5,none⟩=some (.slice (some ⟨g,0,none⟩) e.items.length vc):=by simp [World.cell?,HE5.out]
             have x0:w5.cell? ⟨wr.heap.size,0,none⟩=some (.int .i64 x.at_):=by simp [World.cell?,HX5.out]
             have x1:w5.cell? ⟨wr.heap.size,1,none⟩=some (.int .i64 x.num):=by simp [World.cell?,HX5.out]
             have x2:w5.cell? ⟨wr.heap.size,2,none⟩=some (.int .i64 x.pv):=by simp [World.cell?,HX5.out]
             have x3:w5.cell? ⟨wr.heap.size,3,none⟩=some (.int .i64 x.pl):=by simp [World.cell?,HX5.out]
             have x4:w5.cell? ⟨wr.heap.size,4,none⟩=some (.int .i64 x.wv):=by simp [World.cell?,HX5.out]
             have x5:w5.cell? ⟨wr.heap.size,5,none⟩=some (.int .i64 x.wa):=by simp [World.cell?,HX5.out]
             have x6:w5.cell? ⟨wr.heap.size,6,none⟩=some (.int .i64 x.arm):=by simp [World.cell?,HX5.out]
             go_wp2_with fail
             refine (itemF_any F (fnd (fnd fj 4 x.at_) 7 x.at_) e.kind x _ HF5.out _ rfl).mono ?_
             rintro r w9 ⟨rfl,h,k⟩
             have HF9:Hid (FM w9 F (fIts e.kind e.items f (j+1))):=by show FM _ _ _;rw [HJ.out];exact h
             have HK9:Hid (FK F w w9):=HK5.out.trans k
             have HE9:Hid (w9.heap[w.heap.size]?=some (.cells #[.int .u8 e.kind,.int .i64 e.at_,.int .i64 e.depth,.int .i64 e.nv,.int .i64 e.na,.slice (some ⟨g,0,none⟩) e.items.length vc,.int .i64 e.inner] 114 (0,0))):=(k.kept _ (lt_of_block HE5.out) hFn).trans HE5.out
             clear h k
             clear e0 e5 x0 x1 x2 x3 x4 x5 x6
             go_wp2_with fail
             go_roundg (gk-1)
             case measure=>omega
             case rel=>exact ⟨j+1,by omega,by go_num,HF9.out,HK9.out,HE9.out⟩
           | false =>
             have HJ:Hid (fIts e.kind e.items f (j+1)=fItem e.kind x (fnd fj 4 x.at_)):=by show _=_;rw [HJ0.out,hin];rfl
             clear hin HJ0
             go_wp2_with fail
             refine (itemF_any F (fnd fj 4 x.at_) e.kind x _ HF4.out _ rfl).mono ?_
             rintro r w9 ⟨rfl,h,k⟩
             have HF9:Hid (FM w9 F (fIts e.kind e.items f (j+1))):=by show FM _ _ _;rw [HJ.out];exact h
             have HK9:Hid (FK F w w9):=HK4.out.trans k
             have HE9:Hid (w9.heap[w.heap.size]?=some (.cells #[.int .u8 e.kind,.int .i64 e.at_,.int .i64 e.depth,.int .i64 e.nv,.int .i64 e.na,.slice (some ⟨g,0,none⟩) e.items.length vc,.int .i64 e.inner] 114 (0,0))):=(k.kept _ (lt_of_block HE4.out) hFn).trans HE4.out
             clear h k
             clear e0 e5 x0 x1 x2 x3 x4 x5 x6
             go_wp2_with fail
             go_roundg (gk-1)
             case measure=>omega
             case rel=>exact ⟨j+1,by omega,by go_num,HF9.out,HK9.out,HE9.out⟩
       · have h16':¬ (16:Int)<=(j:Int):=by omega
         have HJ0:Hid (fIts e.kind e.items f (j+1)=fItem e.kind x (if (e.items.take j).any (fun y=>sameI y x)=true then fnd fj 7 x.at_ else fj)):=by show _=_;rw [HJ1.out];simp only [fIt,if_neg h16]
         have e0':wr.cell? ⟨w.heap.size,5,none⟩=some (.slice (some ⟨g,0,none⟩) e.items.length vc):=by simp [World.cell?,HE1.out]
         go_wp2_with fail
         clear r0 r1 r2 r3 r4 r5 r6 e0'
         generalize wr.alloc (.cells #[.int .i64 x.at_,.int .i64 x.num,.int .i64 x.pv,.int .i64 x.pl,.int .i64 x.wv,.int .i64 x.wa,.int .i64 x.arm] 167)=w3 at *
         have HF3:=HF2
         have HK3:=HK2
         have HE3:=HE2
         have HX3:=HX2
         have HV3:=HV2
         have e0:w3.cell? ⟨w.heap.size,0,none⟩=some (.int .u8 e.kind):=by simp [World.cell?,HE3.out]
         have e5:w3.cell? ⟨w.heap.size,5,none⟩=some (.slice (some ⟨g,0,none⟩) e.items.length vc):=by simp [World.cell?,HE3.out]
         have x0:w3.cell? ⟨wr.heap.size,0,none⟩=some (.int .i64 x.at_):=by simp [World.cell?,HX3.out]
         have x1:w3.cell? ⟨wr.heap.size,1,none⟩=some (.int .i64 x.num):=by simp [World.cell?,HX3.out]
         have x2:w3.cell? ⟨wr.heap.size,2,none⟩=some (.int .i64 x.pv):=by simp [World.cell?,HX3.out]
         have x3:w3.cell? ⟨wr.heap.size,3,none⟩=some (.int .i64 x.pl):=by simp [World.cell?,HX3.out]
         have x4:w3.cell? ⟨wr.heap.size,4,none⟩=some (.int .i64 x.wv):=by simp [World.cell?,HX3.out]
         have x5:w3.cell? ⟨wr.heap.size,5,none⟩=some (.int .i64 x.wa):=by simp [World.cell?,HX3.out]
         have x6:w3.cell? ⟨wr.heap.size,6,none⟩=some (.int .i64 x.arm):=by simp [World.cell?,HX3.out]
         go_region_with (go_at_call 147;refine (isIn_any _ x (e.items.take j) _ hlt2 ?_).mono ?_;exact HV3.out.of_kept (fun _ _=>rfl);rintro r w4 ⟨hb4,rfl⟩)
         all_goals
           have k:FK F w3 w4:=(FK.refl _ _).drew.trans (FK.below hb4 (Nat.le_of_lt HF3.out.lt))
           have h:FM w4 F fj:=(hb4.block F HF3.out.lt).trans HF3.out
           clear hb4 e0 e5 x0 x1 x2 x3 x4 x5 x6
           have HF4:Hid (FM w4 F fj):=h
           have HK4:Hid (FK F w w4):=HK3.out.trans k
           have HE4:Hid (w4.heap[w.heap.size]?=some (.cells #[.int .u8 e.kind,.int .i64 e.at_,.int .i64 e.depth,.int .i64 e.nv,.int .i64 e.na,.slice (some ⟨g,0,none⟩) e.items.length vc,.int .i64 e.inner] 114 (0,0))):=(k.kept _ (lt_of_block HE3.out) hFn).trans HE3.out
           have HX4:Hid (w4.heap[wr.heap.size]?=some (.cells #[.int .i64 x.at_,.int .i64 x.num,.int .i64 x.pv,.int .i64 x.pl,.int .i64 x.wv,.int .i64 x.wa,.int .i64 x.arm] 167 (0,0))):=(k.kept _ (lt_of_block HX3.out) hFx).trans HX3.out
           have HV4:Hid (IV w4 (.slice (some ⟨g,0,none⟩) j vc) (e.items.take j)):=HV3.out.of_kept (fun g' hg'=>by cases hg';exact k.kept _ (Nat.lt_of_lt_of_le hgl HK3.out.bel.size) hgF)
           clear h k
           have e0:w4.cell? ⟨w.heap.size,0,none⟩=some (.int .u8 e.kind):=by simp [World.cell?,HE4.out]
           have e5:w4.cell? ⟨w.heap.size,5,none⟩=some (.slice (some ⟨g,0,none⟩) e.items.length vc):=by simp [World.cell?,HE4.out]
           have x0:w4.cell? ⟨wr.heap.size,0,none⟩=some (.int .i64 x.at_):=by simp [World.cell?,HX4.out]
           have x1:w4.cell? ⟨wr.heap.size,1,none⟩=some (.int .i64 x.num):=by simp [World.cell?,HX4.out]
           have x2:w4.cell? ⟨wr.heap.size,2,none⟩=some (.int .i64 x.pv):=by simp [World.cell?,HX4.out]
           have x3:w4.cell? ⟨wr.heap.size,3,none⟩=some (.int .i64 x.pl):=by simp [World.cell?,HX4.out]
           have x4:w4.cell? ⟨wr.heap.size,4,none⟩=some (.int .i64 x.wv):=by simp [World.cell?,HX4.out]
           have x5:w4.cell? ⟨wr.heap.size,5,none⟩=some (.int .i64 x.wa):=by simp [World.cell?,HX4.out]
           have x6:w4.cell? ⟨wr.heap.size,6,none⟩=some (.int .i64 x.arm):=by simp [World.cell?,HX4.out]
           cases hin:(e.items.take j).any (fun y=>sameI y x) with
           | true =>
             have HJ:Hid (fIts e.kind e.items f (j+1)=fItem e.kind x (fnd fj 7 x.at_)):=by show _=_;rw [HJ0.out,hin];rfl
             clear hin HJ0
             go_wp2_with fail
             refine (found_any F fj 7 x.at_ _ HF4.out _ rfl).mono ?_
             rintro r w5 ⟨rfl,h,k⟩
             have HF5:Hid (FM w5 F (fnd fj 7 x.at_)):=h
             have HK5:Hid (FK F w w5):=HK4.out.trans k
             have HE5:Hid (w5.heap[w.heap.size]?=some (.cells #[.int .u8 e.kind,.int .i64 e.at_,.int .i64 e.depth,.int .i64 e.nv,.int .i64 e.na,.slice (some ⟨g,0,none⟩) e.items.length vc,.int .i64 e.inner] 114 (0,0))):=(k.kept _ (lt_of_block HE4.out) hFn).trans HE4.out
             have HX5:Hid (w5.heap[wr.heap.size]?=some (.cells #[.int .i64 x.at_,.int .i64 x.num,.int .i64 x.pv,.int .i64 x.pl,.int .i64 x.wv,.int .i64 x.wa,.int .i64 x.arm] 167 (0,0))):=(k.kept _ (lt_of_block HX4.out) hFx).trans HX4.out
             have HV5:Hid (IV w5 (.slice (some ⟨g,0,none⟩) j vc) (e.items.take j)):=HV4.out.of_kept (fun g' hg'=>by cases hg';exact k.kept _ (Nat.lt_of_lt_of_le hgl HK4.out.bel.size) hgF)
             clear h k
             clear e0 e5 x0 x1 x2 x3 x4 x5 x6
             have e0:w5.cell? ⟨w.heap.size,0,none⟩=some (.int .u8 e.kind):=by simp [World.cell?,HE5.out]
             have e5:w5.cell? ⟨w.heap.size,5,none⟩=some (.slice (some ⟨g,0,none⟩) e.items.length vc):=by simp [World.cell?,HE5.out]
             have x0:w5.cell? ⟨wr.heap.size,0,none⟩=some (.int .i64 x.at_):=by simp [World.cell?,HX5.out]
             have x1:w5.cell? ⟨wr.heap.size,1,none⟩=some (.int .i64 x.num):=by simp [World.cell?,HX5.out]
             have x2:w5.cell? ⟨wr.heap.size,2,none⟩=some (.int .i64 x.pv):=by simp [World.cell?,HX5.out]
             have x3:w5.cell? ⟨wr.heap.size,3,none⟩=some (.int .i64 x.pl):=by simp [World.cell?,HX5.out]
             have x4:w5.cell? ⟨wr.heap.size,4,none⟩=some (.int .i64 x.wv):=by simp [World.cell?,HX5.out]
             have x5:w5.cell? ⟨wr.heap.size,5,none⟩=some (.int .i64 x.wa):=by simp [World.cell?,HX5.out]
             have x6:w5.cell? ⟨wr.heap.size,6,none⟩=some (.int .i64 x.arm):=by simp [World.cell?,HX5.out]
             go_wp2_with fail
             refine (itemF_any F (fnd fj 7 x.at_) e.kind x _ HF5.out _ rfl).mono ?_
             rintro r w9 ⟨rfl,h,k⟩
             have HF9:Hid (FM w9 F (fIts e.kind e.items f (j+1))):=by show FM _ _ _;rw [HJ.out];exact h
             have HK9:Hid (FK F w w9):=HK5.out.trans k
             have HE9:Hid (w9.heap[w.heap.size]?=some (.cells #[.int .u8 e.kind,.int .i64 e.at_,.int .i64 e.depth,.int .i64 e.nv,.int .i64 e.na,.slice (some ⟨g,0,none⟩) e.items.length vc,.int .i64 e.inner] 114 (0,0))):=(k.kept _ (lt_of_block HE5.out) hFn).trans HE5.out
             clear h k
             clear e0 e5 x0 x1 x2 x3 x4 x5 x6
             go_wp2_with fail
             go_roundg (gk-1)
             case measure=>omega
             case rel=>exact ⟨j+1,by omega,by go_num,HF9.out,HK9.out,HE9.out⟩
           | false =>
             have HJ:Hid (fIts e.kind e.items f (j+1)=fItem e.kind x fj):=by show _=_;rw [HJ0.out,hin];rfl
             clear hin HJ0
             go_wp2_with fail
             refine (itemF_any F fj e.kind x _ HF4.out _ rfl).mono ?_
             rintro r w9 ⟨rfl,h,k⟩
             have HF9:Hid (FM w9 F (fIts e.kind e.items f (j+1))):=by show FM _ _ _;rw [HJ.out];exact h
             have HK9:Hid (FK F w w9):=HK4.out.trans k
             have HE9:Hid (w9.heap[w.heap.size]?=some (.cells #[.int .u8 e.kind,.int .i64 e.at_,.int .i64 e.depth,.int .i64 e.nv,.int .i64 e.na,.slice (some ⟨g,0,none⟩) e.items.length vc,.int .i64 e.inner] 114 (0,0))):=(k.kept _ (lt_of_block HE4.out) hFn).trans HE4.out
             clear h k
             clear e0 e5 x0 x1 x2 x3 x4 x5 x6
             go_wp2_with fail
             go_roundg (gk-1)
             case measure=>omega
             case rel=>exact ⟨j+1,by omega,by go_num,HF9.out,HK9.out,HE9.out⟩
     · have hd:¬ ((j:Int)<(e.items.length:Int)):=by omega
       have hje:j=e.items.length:=by omega
       have HF9:Hid (FM wr F f'):=by show FM _ _ _;rw [<- hf.out,<- hje];exact HF1.out
       clear hje
       go_wp2_with fail
       go_end0
       exact ⟨rfl,HF9.out,HK1.out⟩
end Go.Proofs.YtaebngpoagjafaaGreat
