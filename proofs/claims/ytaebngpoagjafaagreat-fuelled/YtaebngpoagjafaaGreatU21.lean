/-
  OUR OWN.
-/
import Derived.Test.YtaebngpoagjafaaGreatU20
import Derived.Test.YtaebngpoagjafaaGreatU10
set_option maxRecDepth 100000
namespace Go.Proofs.YtaebngpoagjafaaGreat
open Go.RowKit
def fRls (rs:List RL) (f:Int×Int):Nat->Int×Int
 | 0=>f
 | j+1=>match rs[j]? with
   | some r=>if nmdR r.nv (rs.take j)=-1 then fRls rs f j else fnd (fRls rs f j) 5 r.na
   | none=>fRls rs f j
def fExs (es:List EX) (f:Int×Int):Nat->Int×Int
 | 0=>f
 | j+1=>match es[j]? with
   | some e=>fIts e.kind e.items (fExpr e (fExs es f j)) e.items.length
   | none=>fExs es f j
def fAll (es:List EX) (rs:List RL):Int×Int:=fExs es (fRls rs (0,0) rs.length) es.length
structure PV (w:World) (eo ro:Option Addr) (ec rc:Nat) (es:List (EX×Value)) (rs:List RL):Prop where
 lr:rs.length<=rc
 nr:rs.length<=100000
 ne:es.length<=100000
 hr:∀ i r,rs[i]?=some r->∃ g,ro=some ⟨g,0,none⟩/\g<w.heap.size/\w.cell? ⟨g,i*3,none⟩=some (.int .i64 r.nv)/\w.cell? ⟨g,i*3+1,none⟩=some (.int .i64 r.na)/\w.cell? ⟨g,i*3+2,none⟩=some (.int .i64 r.ex)
 he:∀ i x,es[i]?=some x->∃ g vo vm vc,eo=some ⟨g,0,none⟩/\g<w.heap.size/\w.cell? ⟨g,i*7,none⟩=some (.int .u8 x.1.kind)/\w.cell? ⟨g,i*7+1,none⟩=some (.int .i64 x.1.at_)/\w.cell? ⟨g,i*7+2,none⟩=some (.int .i64 x.1.depth)/\w.cell? ⟨g,i*7+3,none⟩=some (.int .i64 x.1.nv)/\w.cell? ⟨g,i*7+4,none⟩=some (.int .i64 x.1.na)/\w.cell? ⟨g,i*7+5,none⟩=some (.slice vo vm vc)/\w.cell? ⟨g,i*7+6,none⟩=some (.int .i64 x.1.inner)/\x.2=.slice vo vm vc/\IV w (.slice vo vm vc) x.1.items/\(∀ q,(Value.slice vo vm vc).ownBlock=some q->q<w.heap.size)/\x.1.items.length<=100000
attribute [local go_sem ↓] Go.wp_at_zero Go.wp_at_succ
attribute [local go_sem] alloc_drewN setCell_drewN
set_option maxHeartbeats 1600000 in
theorem check_any (eo ro:Option Addr) (ec rc:Nat) (es:List (EX×Value)) (rs:List RL) (w:World) (h:PV w eo ro ec rc es rs) (f':Int×Int) (hf:Hid (fAll (es.map Prod.fst) rs=f')) :
   Calls Tryz.prog 60 #[.agg #[.slice eo es.length ec,.slice ro rs.length rc]] w fun r w'=>r=.returned (.agg #[.int .i64 f'.1,.int .i64 f'.2])/\Below w.heap.size w w':=by
 have H:Hid (FM (((w.alloc (.cells #[.slice eo es.length ec,.slice ro rs.length rc] 77)).alloc (.cells #[.int .i64 0,.int .i64 0] 108)).alloc (.cells #[.int .i64 0,.int .i64 0] 108)) (w.heap.size+1+1) (0,0)):=heap_alloc_at _ (by simp)
 have HB:Hid (Below w.heap.size w (((w.alloc (.cells #[.slice eo es.length ec,.slice ro rs.length rc] 77)).alloc (.cells #[.int .i64 0,.int .i64 0] 108)).alloc (.cells #[.int .i64 0,.int .i64 0] 108))):=(((Below.refl _ _).alloc (Nat.le_refl _) _).alloc (by simp) _).alloc (by simp;omega) _
 have HP:Hid ((((w.alloc (.cells #[.slice eo es.length ec,.slice ro rs.length rc] 77)).alloc (.cells #[.int .i64 0,.int .i64 0] 108)).alloc (.cells #[.int .i64 0,.int .i64 0] 108)).heap[w.heap.size]?=some (.cells #[.slice eo es.length ec,.slice ro rs.length rc] 77 (0,0))):=(Below.heap_alloc _ _ _ (by simp;omega)).trans ((Below.heap_alloc _ _ _ (by simp)).trans (heap_alloc_new w _))
 have HR:Hid ((((w.alloc (.cells #[.slice eo es.length ec,.slice ro rs.length rc] 77)).alloc (.cells #[.int .i64 0,.int .i64 0] 108)).alloc (.cells #[.int .i64 0,.int .i64 0] 108)).heap[w.heap.size+1]?=some (.cells #[.int .i64 0,.int .i64 0] 108 (0,0))):=(Below.heap_alloc _ _ _ (by simp)).trans (heap_alloc_at _ (by simp))
 have hlr:=h.lr
 have hnr:=h.nr
 have hne:=h.ne
 have HH:Hid (PV w eo ro ec rc es rs):=h
 clear h
 have hPF:w.heap.size≠(w.heap.size+1+1):=by omega
 have hRF:w.heap.size+1≠(w.heap.size+1+1):=by omega
 go_enter Tryz.func60,Tryz.ntmps60
 go_wp2_with fail
 generalize hw0:((w.alloc (.cells #[.slice eo es.length ec,.slice ro rs.length rc] 77)).alloc (.cells #[.int .i64 0,.int .i64 0] 108)).alloc (.cells #[.int .i64 0,.int .i64 0] 108)=w0 at *
 clear hw0
 have HK0:Hid (FK (w.heap.size+1+1) w0 w0):=FK.refl _ _
 go_loopg [12] rs.length (fun n y wr=>∃ (j:Nat),n+j=rs.length/\y=.int .i64 j/\FM wr (w.heap.size+1+1) (fRls rs (0,0) j)/\FK (w.heap.size+1+1) w0 wr)
 case atStart=>exact ⟨0,by omega,rfl,H.out,FK.refl _ _⟩
 case round =>
   obtain ⟨j,hn,rfl,hfm,hfk⟩:=hrel
   have HF1:Hid (FM wr (w.heap.size+1+1) (fRls rs (0,0) j)):=hfm
   have HK1:Hid (FK (w.heap.size+1+1) w0 wr):=hfk
   have hfl:=hfm.lt
   have hFx:wr.heap.size≠(w.heap.size+1+1):=by omega
   have HP1:Hid (wr.heap[w.heap.size]?=some (.cells #[.slice eo es.length ec,.slice ro rs.length rc] 77 (0,0))):=(hfk.kept _ (lt_of_block HP.out) hPF).trans HP.out
   have hPX:=lt_of_block HP1.out
   have HWB:Hid (∀ g,g<w.heap.size->wr.heap[g]?=w.heap[g]?):=fun g hg=>(hfk.kept g (Nat.lt_of_lt_of_le hg HB.out.size) (by omega)).trans (HB.out.block g hg)
   have hws:w.heap.size<=wr.heap.size:=Nat.le_trans HB.out.size hfk.bel.size
   clear hfm hfk
   by_cases hlt:j<rs.length
   · obtain ⟨r,hr⟩:∃ r,rs[j]?=some r:=⟨rs[j],List.getElem?_eq_getElem hlt⟩
     have hj0:(0:Int)<=(j:Int):=by omega
     have hj1:(j:Int)<(rs.length:Int):=by omega
     have hj2:(j:Int)<=(rc:Int):=by omega
     obtain ⟨g,rfl,hgw,r0,r1,r2⟩:=HH.out.hr j r hr
     have hcg:∀ q,wr.cell? ⟨g,q,none⟩=w.cell? ⟨g,q,none⟩:=fun q=>World.cell?_of_block (w:=w) (HWB.out g hgw)
     rw [<- hcg] at r0 r1 r2
     have hl2:(rs.take j).length=j:=by rw [List.length_take];omega
     have HV2:Hid (RV (wr.alloc (.cells #[.int .i64 r.nv,.int .i64 r.na,.int .i64 r.ex] 161)) (.slice (some ⟨g,0,none⟩) (rs.take j).length rc) (rs.take j)):=.inr ⟨g,rc,rfl,fun i y hy=>by
       have hcq:∀ q,(wr.alloc (.cells #[.int .i64 r.nv,.int .i64 r.na,.int .i64 r.ex] 161)).cell? ⟨g,q,none⟩=w.cell? ⟨g,q,none⟩:=fun q=>World.cell?_of_block (w:=w) ((Below.heap_alloc _ _ _ (Nat.lt_of_lt_of_le hgw hws)).trans (HWB.out g hgw))
       have hi:i<j:=by have:=(List.getElem?_eq_some_iff.1 hy).1;omega
       obtain ⟨g',hg',_,q0,q1,q2⟩:=HH.out.hr i y (by rw [List.getElem?_take_of_lt hi] at hy;exact hy)
       cases hg'
       exact ⟨(hcq _).trans q0,(hcq _).trans q1,(hcq _).trans q2⟩⟩
     have HF2:Hid (FM (wr.alloc (.cells #[.int .i64 r.nv,.int .i64 r.na,.int .i64 r.ex] 161)) (w.heap.size+1+1) (fRls rs (0,0) j)):=HF1.out.alloc _
     have HK2:Hid (FK (w.heap.size+1+1) w0 (wr.alloc (.cells #[.int .i64 r.nv,.int .i64 r.na,.int .i64 r.ex] 161))):=HK1.out.alloc (Nat.le_of_lt hfl) _
     have HX2:Hid ((wr.alloc (.cells #[.int .i64 r.nv,.int .i64 r.na,.int .i64 r.ex] 161)).heap[wr.heap.size]?=some (.cells #[.int .i64 r.nv,.int .i64 r.na,.int .i64 r.ex] 161 (0,0))):=heap_alloc_new wr _
     have HP2:Hid ((wr.alloc (.cells #[.int .i64 r.nv,.int .i64 r.na,.int .i64 r.ex] 161)).heap[w.heap.size]?=some (.cells #[.slice eo es.length ec,.slice (some ⟨g,0,none⟩) rs.length rc] 77 (0,0))):=(Below.heap_alloc _ _ _ hPX).trans HP1.out
     have HJ1:Hid (fRls rs (0,0) (j+1)=if nmdR r.nv (rs.take j)=-1 then fRls rs (0,0) j else fnd (fRls rs (0,0) j) 5 r.na):=by show _=_;simp only [fRls,hr]
     have p1':wr.cell? ⟨w.heap.size,1,none⟩=some (.slice (some ⟨g,0,none⟩) rs.length rc):=by simp [World.cell?,HP1.out]
     rw [hl2] at HV2
     have HL2:Hid ((rs.take j).length<=100000):=by show _<=_;omega
     clear hr hcg
     generalize hfj:fRls rs (0,0) j=fj at *
     clear hfj
     go_wp2_with fail
     clear r0 r1 r2 p1'
     generalize wr.alloc (.cells #[.int .i64 r.nv,.int .i64 r.na,.int .i64 r.ex] 161)=w3 at *
     have p1:w3.cell? ⟨w.heap.size,1,none⟩=some (.slice (some ⟨g,0,none⟩) rs.length rc):=by simp [World.cell?,HP2.out]
     have x0:w3.cell? ⟨wr.heap.size,0,none⟩=some (.int .i64 r.nv):=by simp [World.cell?,HX2.out]
     generalize hnq:nmdR r.nv (rs.take j)=nq at *
     have hnm:∀ wz:World,wz.heap=w3.heap->Calls Tryz.prog 102 #[.slice (some ⟨g,0,none⟩) j rc,.int .i64 r.nv] wz fun e w'=>Below wz.heap.size wz w'/\e=.returned (.int .i64 nq):=fun wz hz=>by
       have:=namedP_any (.slice (some ⟨g,0,none⟩) j rc) r.nv (rs.take j) wz HL2.out (by
         rcases HV2.out with h | ⟨g',c',h1,h2⟩
         · exact .inl h
         · exact .inr ⟨g',c',h1,fun i y hy=>by
             have e:∀ q,wz.cell? ⟨g',q,none⟩=w3.cell? ⟨g',q,none⟩:=fun q=>World.cell?_of_block (w:=w3) (by rw [hz])
             simp only [e];exact h2 i y hy⟩)
       rwa [hnq] at this
     clear hnq
     cases hq:(nq==-1) with
     | true =>
       have hq2:(nq != -1)=false:=by simp [bne,hq]
       have HJ:Hid (fRls rs (0,0) (j+1)=fj):=by show _=_;rw [HJ1.out,if_pos (by simpa using hq)]
       clear hq
       go_region_with (go_at_call 102;refine (hnm _ ?_).mono ?_;rfl;rintro e w4 ⟨hb4,rfl⟩)
       all_goals
         have HK4:Hid (FK (w.heap.size+1+1) w0 w4):=HK2.out.drew.trans (FK.below hb4 (Nat.le_of_lt HF2.out.lt))
         have HF4:Hid (FM w4 (w.heap.size+1+1) (fRls rs (0,0) (j+1))):=by show FM _ _ _;rw [HJ.out];exact (hb4.block _ HF2.out.lt).trans HF2.out
         clear hb4
         go_wp2_with fail
         go_roundg (gk-1)
         case measure=>omega
         case rel=>exact ⟨j+1,by omega,by go_num,HF4.out,HK4.out⟩
     | false =>
       have hq2:(nq != -1)=true:=by simp [bne,hq]
       have HJ:Hid (fRls rs (0,0) (j+1)=fnd fj 5 r.na):=by show _=_;rw [HJ1.out,if_neg (by simpa using hq)]
       have HJ':Hid (fnd fj 5 r.na=fRls rs (0,0) (j+1)):=HJ.out.symm
       clear hq
       go_region_with (go_at_call 102;refine (hnm _ ?_).mono ?_;rfl;rintro e w4 ⟨hb4,rfl⟩)
       all_goals
         have HK4:Hid (FK (w.heap.size+1+1) w0 w4):=HK2.out.drew.trans (FK.below hb4 (Nat.le_of_lt HF2.out.lt))
         have HF4:Hid (FM w4 (w.heap.size+1+1) fj):=(hb4.block _ HF2.out.lt).trans HF2.out
         have hx4:=(hb4.block wr.heap.size (lt_of_block HX2.out)).trans HX2.out
         have x1:w4.cell? ⟨wr.heap.size,1,none⟩=some (.int .i64 r.na):=by simp [World.cell?,hx4]
         clear hb4 hx4
         go_wp2_with fail
         refine (found_any (w.heap.size+1+1) fj 5 r.na _ HF4.out _ HJ').mono ?_
         rintro e w5 ⟨rfl,h5,k5⟩
         have HF5:Hid (FM w5 (w.heap.size+1+1) (fRls rs (0,0) (j+1))):=h5
         have HK5:Hid (FK (w.heap.size+1+1) w0 w5):=HK4.out.trans k5
         clear h5 k5
         go_wp2_with fail
         go_roundg (gk-1)
         case measure=>omega
         case rel=>exact ⟨j+1,by omega,by go_num,HF5.out,HK5.out⟩
   · have hd:¬ ((j:Int)<(rs.length:Int)):=by omega
     have hje:j=rs.length:=by omega
     have p0:wr.cell? ⟨w.heap.size,0,none⟩=some (.slice eo es.length ec):=by simp [World.cell?,HP1.out]
     have HF2:Hid (FM wr (w.heap.size+1+1) (fRls rs (0,0) rs.length)):=by show FM _ _ _;rw [<- hje];exact HF1.out
     clear hje
     go_wp2_with fail
     generalize hf0:fRls rs (0,0) rs.length=f0 at *
     have HF0:Hid (fExs (es.map Prod.fst) f0 es.length=f'):=by show _=_;rw [<- hf.out,<- hf0];simp [fAll]
     clear hf0
     have HFf:Hid (fExs (es.map Prod.fst) f0 0=f0):=rfl
     go_loopg [34] es.length (fun n y wz=>∃ (j:Nat),n+j=es.length/\y=.int .i64 j/\FM wz (w.heap.size+1+1) (fExs (es.map Prod.fst) f0 j)/\FK (w.heap.size+1+1) w0 wz)
     case atStart=>exact ⟨0,by omega,rfl,HF2.out,HK1.out⟩
     case round =>
       obtain ⟨i,hni,rfl,hfm,hfk⟩:=hrel
       have HFb:Hid (FM wr (w.heap.size+1+1) (fExs (es.map Prod.fst) f0 i)):=hfm
       have HKb:Hid (FK (w.heap.size+1+1) w0 wr):=hfk
       have hflb:=hfm.lt
       have hFxb:wr.heap.size≠(w.heap.size+1+1):=by omega
       have HWBb:Hid (∀ g,g<w.heap.size->wr.heap[g]?=w.heap[g]?):=fun g hg=>(hfk.kept g (Nat.lt_of_lt_of_le hg HB.out.size) (by omega)).trans (HB.out.block g hg)
       have hwsb:w.heap.size<=wr.heap.size:=Nat.le_trans HB.out.size hfk.bel.size
       have HRb:Hid (wr.heap[w.heap.size+1]?=some (.cells #[.int .i64 0,.int .i64 0] 108 (0,0))):=(hfk.kept _ (lt_of_block HR.out) hRF).trans HR.out
       clear hfm hfk
       by_cases hlti:i<es.length
       · obtain ⟨xv,hxv⟩:∃ r,es[i]?=some r:=⟨es[i],List.getElem?_eq_getElem hlti⟩
         have hi0:(0:Int)<=(i:Int):=by omega
         have hi1:(i:Int)<(es.length:Int):=by omega
         obtain ⟨g,vo,vm,vc,heo,hgw,r0,r1,r2,r3,r4,r5,r6,hx2,hiv,hivg,hil⟩:=HH.out.he i xv hxv
         obtain ⟨x,xq⟩:=xv
         simp only at r0 r1 r2 r3 r4 r6 hx2 hiv hil
         subst hx2
         subst heo
         have hcg:∀ q,wr.cell? ⟨g,q,none⟩=w.cell? ⟨g,q,none⟩:=fun q=>World.cell?_of_block (w:=w) (HWBb.out g hgw)
         rw [<- hcg] at r0 r1 r2 r3 r4 r5 r6
         have HJ1:Hid (fExs (es.map Prod.fst) f0 (i+1)=fIts x.kind x.items (fExpr x (fExs (es.map Prod.fst) f0 i)) x.items.length):=by
           show _=_
           have:(es.map Prod.fst)[i]?=some x:=by rw [List.getElem?_map,hxv];rfl
           simp only [fExs,this]
         have HVb:Hid (IV w (.slice vo vm vc) x.items):=hiv
         have HVg:Hid (∀ q,(Value.slice vo vm vc).ownBlock=some q->q<w.heap.size):=hivg
         have HIL:Hid (x.items.length<=100000):=hil
         have HFc:Hid (FM (wr.alloc (.cells #[.int .u8 x.kind,.int .i64 x.at_,.int .i64 x.depth,.int .i64 x.nv,.int .i64 x.na,.slice vo vm vc,.int .i64 x.inner] 114)) (w.heap.size+1+1) (fExs (es.map Prod.fst) f0 i)):=HFb.out.alloc _
         have HKc:Hid (FK (w.heap.size+1+1) w0 (wr.alloc (.cells #[.int .u8 x.kind,.int .i64 x.at_,.int .i64 x.depth,.int .i64 x.nv,.int .i64 x.na,.slice vo vm vc,.int .i64 x.inner] 114))):=HKb.out.alloc (Nat.le_of_lt hflb) _
         have HXc:Hid ((wr.alloc (.cells #[.int .u8 x.kind,.int .i64 x.at_,.int .i64 x.depth,.int .i64 x.nv,.int .i64 x.na,.slice vo vm vc,.int .i64 x.inner] 114)).heap[wr.heap.size]?=some (.cells #[.int .u8 x.kind,.int .i64 x.at_,.int .i64 x.depth,.int .i64 x.nv,.int .i64 x.na,.slice vo vm vc,.int .i64 x.inner] 114 (0,0))):=heap_alloc_new wr _
         have HKc':Hid (w.heap.size<=(wr.alloc (.cells #[.int .u8 x.kind,.int .i64 x.at_,.int .i64 x.depth,.int .i64 x.nv,.int .i64 x.na,.slice vo vm vc,.int .i64 x.inner] 114)).heap.size):=by show _<=_;simp;omega
         generalize hfj:fExs (es.map Prod.fst) f0 i=fi at *
         clear hfj hxv hcg hiv hivg hil
         go_wp2_with fail
         clear r0 r1 r2 r3 r4 r5 r6
         refine (exprF_any (w.heap.size+1+1) fi x vo vm vc _ HFc.out _ rfl).mono ?_
         rintro e w5 ⟨rfl,h5,k5⟩
         have HF5:Hid (FM w5 (w.heap.size+1+1) (fExpr x fi)):=h5
         have HK5:Hid (FK (w.heap.size+1+1) w0 w5):=HKc.out.trans k5
         have hx5:=(k5.kept wr.heap.size (lt_of_block HXc.out) hFxb).trans HXc.out
         have x0:w5.cell? ⟨wr.heap.size,0,none⟩=some (.int .u8 x.kind):=by simp [World.cell?,hx5]
         have x1:w5.cell? ⟨wr.heap.size,1,none⟩=some (.int .i64 x.at_):=by simp [World.cell?,hx5]
         have x2:w5.cell? ⟨wr.heap.size,2,none⟩=some (.int .i64 x.depth):=by simp [World.cell?,hx5]
         have x3:w5.cell? ⟨wr.heap.size,3,none⟩=some (.int .i64 x.nv):=by simp [World.cell?,hx5]
         have x4:w5.cell? ⟨wr.heap.size,4,none⟩=some (.int .i64 x.na):=by simp [World.cell?,hx5]
         have x5:w5.cell? ⟨wr.heap.size,5,none⟩=some (.slice vo vm vc):=by simp [World.cell?,hx5]
         have x6:w5.cell? ⟨wr.heap.size,6,none⟩=some (.int .i64 x.inner):=by simp [World.cell?,hx5]
         have HV5:Hid (IV w5 (.slice vo vm vc) x.items):=HVb.out.of_kept (fun q hq=>by
           have hqw:=HVg.out q hq
           exact (k5.kept q (Nat.lt_of_lt_of_le hqw HKc'.out) (by omega)).trans ((Below.heap_alloc _ _ _ (Nat.lt_of_lt_of_le hqw hwsb)).trans (HWBb.out q hqw)))
         have HVq:Hid (∀ q,(Value.slice vo vm vc).ownBlock=some q->q≠(w.heap.size+1+1)/\q<w5.heap.size):=fun q hq=>by
           have hqw:=HVg.out q hq
           exact ⟨by omega,Nat.lt_of_lt_of_le hqw (Nat.le_trans HKc'.out k5.bel.size)⟩
         clear h5 k5 hx5
         go_wp2_with fail
         refine (itemsF_any (w.heap.size+1+1) (fExpr x fi) x vo vm vc _ HIL.out HF5.out HV5.out HVq.out _ HJ1.out.symm).mono ?_
         rintro e w6 ⟨rfl,h6,k6⟩
         have HF6:Hid (FM w6 (w.heap.size+1+1) (fExs (es.map Prod.fst) f0 (i+1))):=h6
         have HK6:Hid (FK (w.heap.size+1+1) w0 w6):=HK5.out.trans k6
         clear h6 k6 x0 x1 x2 x3 x4 x5 x6
         go_wp2_with fail
         go_roundg (gk-1)
         case measure=>omega
         case rel=>exact ⟨i+1,by omega,by go_num,HF6.out,HK6.out⟩
       · have hd2:¬ ((i:Int)<(es.length:Int)):=by omega
         have hie:i=es.length:=by omega
         have HF9:Hid (FM wr (w.heap.size+1+1) f'):=by show FM _ _ _;rw [<- HF0.out,<- hie];exact HFb.out
         clear hie
         have q0:=HF9.out.c0
         have q1:=HF9.out.c1
         have s0:wr.cell? ⟨w.heap.size+1,0,none⟩=some (.int .i64 0):=by simp [World.cell?,HRb.out]
         have s1:wr.cell? ⟨w.heap.size+1,1,none⟩=some (.int .i64 0):=by simp [World.cell?,HRb.out]
         have sz:∀ q,wr.frozen? ⟨w.heap.size+1,q,none⟩=false:=fun q=>by simp [World.frozen?,HRb.out]
         have HBz:Hid (Below w.heap.size w wr):=HB.out.trans (HKb.out.bel.mono (by omega))
         go_wp2_with fail
         exact bodyPost_ret (v:=.agg #[.int .i64 f'.1,.int .i64 f'.2]) (by simp [results,Tryz.results60,go_sem,s0,s1]) rfl ⟨rfl,(HBz.out.setCell (by simp) _).setCell (by simp) _⟩
end Go.Proofs.YtaebngpoagjafaaGreat
namespace Go.Proofs.YtaebngpoagjafaaGreat
open Go.RowKit
def cChk (s:ByteArray):Int×Int :=
 if 2000<s.size then (1,0)
 else if ((cAll s).b || decide ((cAll s).k<s.size))=true then (2,(cAll s).k)
 else if (fAll (cAll s).es (cAll s).rs).1=0 then (0,0) else fAll (cAll s).es (cAll s).rs
structure PQ (w:World) (base:Nat) (ev rv:Value) (es:List (EX×Value)) (rs:List RL):Prop where
 ex:w.ownsRow base 114 7 ev es.length (exC es)
 rl:w.ownsRow base 161 3 rv rs.length (rlC rs)
 it:∀ p∈es,w.ownsRow base 167 7 p.2 p.1.items.length (imC p.1.items)
theorem buildPs (s:ByteArray) (w:World):(Instr.build 106 #[(0,.string s)]).run Tryz.prog w=.ok (.agg #[.string s,.int .i64 0,.bool false,.slice none 0 0,.slice none 0 0]) w:=run_build w 106 _ _ (by kernel_rfl)
def AllI (n:Nat) (l:List EX):Prop:=∀ e∈l,e.items.length<=n
theorem AllI.app {n:Nat} {a b:List EX} (h:AllI n a) (k:AllI n b):AllI n (a++b):=fun e he=>(List.mem_append.1 he).elim (h e) (k e)
theorem AllI.one {n:Nat} {e:EX} (h:e.items.length<=n):AllI n [e]:=fun x hx=>by simp at hx;subst hx;exact h
theorem AllI.nil (n:Nat):AllI n []:=fun _ h=>by simp at h
theorem cItem_all {ex:Int->Nat->Nat->Bool->CR} {s:ByteArray} {N:Nat} (hX:∀ d m k b,AllI N (ex d m k b).es) (kind d:Int) (m k:Nat) (b:Bool):AllI N (cItem ex s kind d m k b).es:=by
 unfold cItem
 simp only
 split
 · exact hX _ _ _ _
 · split
   · exact hX _ _ _ _
   · split<;>exact AllI.nil _
theorem cItems_all {ex:Int->Nat->Nat->Bool->CR} {s:ByteArray} {N:Nat} (hX:∀ d m k b,AllI N (ex d m k b).es) (kind d:Int):∀ (n m k:Nat) (b:Bool),AllI N (cItems ex s kind d n m k b).es/\(cItems ex s kind d n m k b).ims.length<=n:=by
 intro n
 induction n with
 | zero=>intro m k b;exact ⟨AllI.nil _,by simp [cItems]⟩
 | succ n ih =>
   intro m k b
   have h1:=cItem_all (s:=s) hX kind d m k b
   simp only [cItems]
   split
   · have h2:=ih (m+(cItem ex s kind d m k b).es.length) (takeK s 44 (cItem ex s kind d m k b).k (cItem ex s kind d m k b).b) (cItem ex s kind d m k b).b
     exact ⟨h1.app h2.1,by simp only [List.length_cons];omega⟩
   · exact ⟨h1,by simp⟩
theorem cE_all (s:ByteArray) (rs:List RL) (n:Nat):∀ d m k b,AllI (s.size+1) (cE s rs n d m k b).es:=by
 induction n with
 | zero=>intro d m k b;exact AllI.nil _
 | succ n ih =>
   intro d m k b
   simp only [cE]
   split
   · exact AllI.nil _
   · split
     · have h:=cItems_all (s:=s) ih 123 d (s.size+1-(skipF s k b+1)) m (skipF s k b+1) b
       exact h.1.app (AllI.one (by simp only;omega))
     · split
       · exact (ih _ _ _ _).app (AllI.one (by simp))
       · split
         · exact AllI.one (by simp)
         · split
           · exact AllI.one (by simp)
           · have h:=cItems_all (s:=s) ih (hereF s (skipF s k b) b) d (s.size+1-takeK s 40 (skipF s k b+1) b) m (takeK s 40 (skipF s k b+1) b) (wantB s 40 (skipF s k b+1) b)
             exact (h.1.app (ih _ _ _ _)).app (AllI.one (by simp only;omega))
theorem cRules_all (s:ByteArray):∀ (n:Nat) (rs:List RL) (m k:Nat) (b:Bool),AllI (s.size+1) (cRules s n rs m k b).es:=by
 intro n
 induction n with
 | zero=>intro rs m k b;exact AllI.nil _
 | succ n ih =>
   intro rs m k b
   simp only [cRules]
   split
   · exact AllI.app (cE_all s rs _ _ _ _ _) (ih _ _ _ _)
   · exact cE_all s rs _ _ _ _ _
theorem PM.pv {w:World} {base B s k b ev rv es rs} (h:PM w base B s k b ev rv es rs) (he:es.length<=100000) (hr:rs.length<=100000) (hi:∀ p∈es,p.1.items.length<=100000):∃ eo ec ro rc,ev=.slice eo es.length ec/\rv=.slice ro rs.length rc/\PV w eo ro ec rc es rs:=by
 have h1:∃ eo ec,ev=.slice eo es.length ec/\∀ i x,es[i]?=some x->∃ g vo vm vc,eo=some ⟨g,0,none⟩/\g<w.heap.size/\w.cell? ⟨g,i*7,none⟩=some (.int .u8 x.1.kind)/\w.cell? ⟨g,i*7+1,none⟩=some (.int .i64 x.1.at_)/\w.cell? ⟨g,i*7+2,none⟩=some (.int .i64 x.1.depth)/\w.cell? ⟨g,i*7+3,none⟩=some (.int .i64 x.1.nv)/\w.cell? ⟨g,i*7+4,none⟩=some (.int .i64 x.1.na)/\w.cell? ⟨g,i*7+5,none⟩=some (.slice vo vm vc)/\w.cell? ⟨g,i*7+6,none⟩=some (.int .i64 x.1.inner)/\x.2=.slice vo vm vc/\IV w (.slice vo vm vc) x.1.items/\(∀ q,(Value.slice vo vm vc).ownBlock=some q->q<w.heap.size)/\x.1.items.length<=100000:=by
   have h0:=h.ex
   rcases h.ex.2 with ⟨h1,h2⟩ | ⟨g,cap,cur,rfl,h1,h2,_⟩
   · have:es=[]:=List.eq_nil_of_length_eq_zero h2
     subst this
     exact ⟨none,0,h1,fun i x hx=>by simp at hx⟩
   · refine ⟨_,cap,rfl,fun i x hx=>?_⟩
     have hx2:=h.it x (List.mem_of_getElem? hx)
     have hc:=fun j hj=>row_cells exV (fun _=>rfl) h0 hx j hj
     have hiv:∃ vo vm vc,x.2=.slice vo vm vc/\IV w (.slice vo vm vc) x.1.items:=by
       have h3:=hx2
       rcases hx2.2 with ⟨q1,q2⟩ | ⟨g',cap',cur',q1,q2,q3,q4,_⟩
       · exact ⟨none,0,0,q1,.inl ⟨rfl,List.eq_nil_of_length_eq_zero q2⟩⟩
       · rw [q1] at h3
         have hd:=fun i y hy j hj=>row_cells imV (fun _=>rfl) h3 (i:=i) (x:=y) hy j hj
         exact ⟨_,_,_,q1,.inr ⟨g',cap',rfl,q4,fun i y hy=>⟨hd i y hy 0 (by decide),hd i y hy 1 (by decide),hd i y hy 2 (by decide),hd i y hy 3 (by decide),hd i y hy 4 (by decide),hd i y hy 5 (by decide),hd i y hy 6 (by decide)⟩⟩⟩
     obtain ⟨vo,vm,vc,hv,hiv⟩:=hiv
     have h5:w.cell? ⟨g,i*7+5,none⟩=some (.slice vo vm vc):=by rw [<- hv];exact hc 5 (by decide)
     exact ⟨g,vo,vm,vc,rfl,lt_of_block h2,hc 0 (by decide),hc 1 (by decide),hc 2 (by decide),hc 3 (by decide),hc 4 (by decide),h5,hc 6 (by decide),hv,hiv,fun q hq=>(hx2.lt q (by rw [hv];exact hq)).2,hi x (List.mem_of_getElem? hx)⟩
 have h2:∃ ro rc,rv=.slice ro rs.length rc/\rs.length<=rc/\∀ i r,rs[i]?=some r->∃ g,ro=some ⟨g,0,none⟩/\g<w.heap.size/\w.cell? ⟨g,i*3,none⟩=some (.int .i64 r.nv)/\w.cell? ⟨g,i*3+1,none⟩=some (.int .i64 r.na)/\w.cell? ⟨g,i*3+2,none⟩=some (.int .i64 r.ex):=by
   have h0:=h.rl
   rcases h.rl.2 with ⟨h1,h2⟩ | ⟨g,cap,cur,rfl,h1,h2,h3,_⟩
   · have:rs=[]:=List.eq_nil_of_length_eq_zero h2
     subst this
     exact ⟨none,0,h1,Nat.le_refl _,fun i x hx=>by simp at hx⟩
   · exact ⟨_,cap,rfl,h3,fun i r hr=>⟨g,rfl,lt_of_block h2,row_cells rlV (fun _=>rfl) h0 hr 0 (by decide),row_cells rlV (fun _=>rfl) h0 hr 1 (by decide),row_cells rlV (fun _=>rfl) h0 hr 2 (by decide)⟩⟩
 obtain ⟨eo,ec,rfl,e1⟩:=h1
 obtain ⟨ro,rc,rfl,r1,r2⟩:=h2
 exact ⟨eo,ec,ro,rc,rfl,rfl,r1,hr,he,r2,e1⟩
attribute [local go_sem ↓] Go.wp_at_zero Go.wp_at_succ
attribute [local go_sem] alloc_drewN setCell_drewN
set_option maxHeartbeats 800000 in
theorem Read_any (s:ByteArray) (w:World) (c:Int×Int) (hc:Hid (cChk s=c)) :
   Calls Tryz.prog 38 #[.string s] w fun e w'=>Below w.heap.size w w'/\∃ eo em ec ro rm rc,e=.returned (.tuple #[.agg #[.slice eo em ec,.slice ro rm rc],.int .i64 c.1,.int .i64 c.2])/\(c.1=0->∃ es,es.map Prod.fst=(cAll s).es/\PQ w' w.heap.size (.slice eo em ec) (.slice ro rm rc) es (cAll s).rs):=by
 by_cases hs:2000<s.size
 · have HC:Hid (c=(1,0)):=by show _=_;rw [<- hc.out];unfold cChk;rw [if_pos hs]
   have hs':(2000:Int)<(s.size:Int):=by omega
   go_enter Tryz.func38,Tryz.ntmps38
   go_wp2_with fail
   exact bodyPost_ret (v:=.tuple #[.agg #[.slice none 0 0,.slice none 0 0],.int .i64 1,.int .i64 0]) (by simp [results,Tryz.results38,go_sem]) rfl ⟨(Below.refl _ _).alloc (Nat.le_refl _) _,_,_,_,_,_,_,by rw [HC.out],by rw [HC.out];intro h;cases h⟩
 have hs':¬ (2000:Int)<(s.size:Int):=by omega
 have hs2:s.size<=2000:=by omega
 have hbp:=fun w=>buildPs s w
 obtain ⟨R,hR⟩:∃ R,cAll s=R:=⟨_,rfl⟩
 have HR:Hid (cAll s=R):=hR
 have HI:Hid (∀ e∈R.es,e.items.length<=100000):=fun e he=>by
   have:=cRules_all s (s.size+1) [] 0 0 false e (by rw [<- hR] at he;exact he)
   omega
 have HC:Hid (c=if (R.b || decide (R.k<s.size))=true then (2,(R.k:Int)) else if (fAll R.es R.rs).1=0 then (0,0) else fAll R.es R.rs):=by show _=_;rw [<- hc.out];unfold cChk;rw [if_neg hs,hR]
 clear hR hs
 have HP0:Hid (PM ((w.alloc (.cells #[.slice none 0 0,.slice none 0 0] 77)).alloc (.cells #[.string s,.int .i64 0,.bool false,.slice none 0 0,.slice none 0 0] 106)) w.heap.size (w.heap.size+1) s 0 false (.slice none 0 0) (.slice none 0 0) [] []) :=
   ⟨heap_alloc_at _ (by simp),⟨rfl,.inl ⟨rfl,rfl⟩⟩,⟨rfl,.inl ⟨rfl,rfl⟩⟩,fun p hp=>by simp at hp,by omega⟩
 have HB0:Hid (Below w.heap.size w ((w.alloc (.cells #[.slice none 0 0,.slice none 0 0] 77)).alloc (.cells #[.string s,.int .i64 0,.bool false,.slice none 0 0,.slice none 0 0] 106))):=((Below.refl _ _).alloc (Nat.le_refl _) _).alloc (by simp) _
 have HX0:Hid (((w.alloc (.cells #[.slice none 0 0,.slice none 0 0] 77)).alloc (.cells #[.string s,.int .i64 0,.bool false,.slice none 0 0,.slice none 0 0] 106)).heap[w.heap.size]?=some (.cells #[.slice none 0 0,.slice none 0 0] 77 (0,0))):=(Below.heap_alloc _ _ _ (by simp)).trans (heap_alloc_new w _)
 have hXB:w.heap.size≠w.heap.size+1:=by omega
 have hBX:w.heap.size+1≠w.heap.size:=by omega
 go_enter Tryz.func38,Tryz.ntmps38
 go_wp2_with fail
 refine (rules_any w.heap.size (w.heap.size+1) s _ _ _ hs2 HP0.out R HR).mono ?_
 rintro e w2 ⟨rfl,hk,hel,hrl,ev,rv,es,hes,hp,hm⟩
 have HX2:Hid (w2.heap[w.heap.size]?=some (.cells #[.slice none 0 0,.slice none 0 0] 77 (0,0))):=(hm.kept _ (lt_of_block HX0.out) ⟨by omega,by simp [Value.ownBlock],by simp [Value.ownBlock]⟩).1.trans HX0.out
 have HB2:Hid (Below w.heap.size w w2):=HB0.out.trans hm.bel
 have HP2:Hid (PM w2 w.heap.size (w.heap.size+1) s R.k (R.b || decide (R.k<s.size)) ev rv es R.rs):=hp
 have HES:Hid (es.map Prod.fst=R.es):=hes
 have HEL:Hid (es.length<=s.size):=by show _<=_;rw [show es.length=R.es.length by rw [<- hes,List.length_map]];omega
 clear hm hp hes
 have c1:=HP2.out.c1
 have c2:=HP2.out.c2
 have x0:w2.cell? ⟨w.heap.size,0,none⟩=some (.slice none 0 0):=by simp [World.cell?,HX2.out]
 have x1:w2.cell? ⟨w.heap.size,1,none⟩=some (.slice none 0 0):=by simp [World.cell?,HX2.out]
 have xz:∀ j,w2.frozen? ⟨w.heap.size,j,none⟩=false:=fun j=>by simp [World.frozen?,HX2.out]
 generalize hbd:(R.b || decide (R.k<s.size))=bd at *
 clear hbd
 cases bd with
 | true =>
   have HC2:Hid (c=(2,(R.k:Int))):=HC.out
   clear HC
   go_wp2_with fail
   go_region_with (fail)
   all_goals
     go_wp2_with fail
     exact bodyPost_ret (v:=.tuple #[.agg #[.slice none 0 0,.slice none 0 0],.int .i64 2,.int .i64 R.k]) (by simp [results,Tryz.results38,go_sem,x0,x1]) rfl ⟨(HB2.out.drew.setCell (by simp) _).setCell (by simp) _,_,_,_,_,_,_,by rw [HC2.out],by rw [HC2.out];intro h;cases h⟩
 | false =>
   have HC2:Hid (c=if (fAll R.es R.rs).1=0 then (0,0) else fAll R.es R.rs):=HC.out
   clear HC
   obtain ⟨eo,ec,ro,rc,rfl,rfl,hpv⟩:=HP2.out.pv (by have:=HEL.out;omega) (by omega) (fun p hp=>HI.out p.1 (by rw [<- HES.out];exact List.mem_map_of_mem hp))
   have HPV:Hid (PV w2 eo ro ec rc es R.rs):=hpv
   have c3:=HP2.out.c3
   have c4:=HP2.out.c4
   have hB2:=HP2.out.lt
   have hX2:=lt_of_block HX2.out
   clear hpv
   rw [<- HES.out] at HC2
   generalize hff:fAll (es.map Prod.fst) R.rs=f at *
   have HFF:Hid (fAll (es.map Prod.fst) R.rs=f):=hff
   clear hff
   go_wp2_with fail
   refine (check_any eo ro ec rc es R.rs w2 HPV.out f HFF).mono ?_
   rintro e w3 ⟨rfl,hb3⟩
   have HB3:Hid (Below w2.heap.size w2 w3):=hb3
   have HX3:=(hb3.block _ hX2).trans HX2.out
   have HP3:Hid (PM w3 w.heap.size (w.heap.size+1) s R.k false (.slice eo es.length ec) (.slice ro R.rs.length rc) es R.rs):=HP2.out.below hb3
   clear hb3 x0 x1 xz c1 c2 c3 c4
   have x0:w3.cell? ⟨w.heap.size,0,none⟩=some (.slice none 0 0):=by simp [World.cell?,HX3]
   have x1:w3.cell? ⟨w.heap.size,1,none⟩=some (.slice none 0 0):=by simp [World.cell?,HX3]
   have xz:∀ j,w3.frozen? ⟨w.heap.size,j,none⟩=false:=fun j=>by simp [World.frozen?,HX3]
   have c3:=HP3.out.c3
   have c4:=HP3.out.c4
   have hX3:=lt_of_block HX3
   have hB3:=HP3.out.lt
   have HBW:Hid (Below w.heap.size w w3):=HB2.out.trans (HB3.out.mono HB2.out.size)
   have HT3:Hid (HasT w3 w.heap.size 77):=⟨_,_,HX3⟩
   clear HX3
   obtain ⟨fe,fa⟩:=f
   by_cases hfe:fe=0
   · have HC3:Hid (c=(0,0)):=by show _=_;rw [HC2.out,if_pos hfe]
     subst hfe
     clear HC2
     go_wp2_with fail
     exact bodyPost_ret (v:=.tuple #[.agg #[.slice eo es.length ec,.slice ro R.rs.length rc],.int .i64 0,.int .i64 0]) (by simp [results,Tryz.results38,go_sem,x0,x1,hX3]) rfl ⟨((HBW.out.setCell (by simp) _).setCell (by simp) _).alloc (by simp [World.size_setCell];omega) _,_,_,_,_,_,_,by rw [HC3.out],fun _=>⟨es,by rw [HR.out];exact HES.out,by
       rw [HR.out]
       have hp:=((HP3.out.setT (j:=0) (u:=.slice eo es.length ec) HT3.out (by decide) (by decide) (by decide) (by decide)).setT (j:=1) (u:=.slice ro R.rs.length rc) (HT3.out.set _ _ _) (by decide) (by decide) (by decide) (by decide)).alloc (.cells #[.int .i64 0,.int .i64 fa] 108)
       exact ⟨hp.ex,hp.rl,hp.it⟩⟩⟩
   · have HC3:Hid (c=(fe,fa)):=by show _=_;rw [HC2.out,if_neg hfe]
     have hq:(fe==0)=false:=by simp [hfe]
     have hq2:(fe != 0)=true:=by simp [hfe]
     have HFE:Hid (fe≠0):=hfe
     clear HC2 hfe
     go_wp2_with fail
     go_region_with (fail)
     all_goals
       go_wp2_with fail
       exact bodyPost_ret (v:=.tuple #[.agg #[.slice none 0 0,.slice none 0 0],.int .i64 fe,.int .i64 fa]) (by simp [results,Tryz.results38,go_sem,x0,x1,hX3]) rfl ⟨(((HBW.out.setCell (by simp) _).setCell (by simp) _).alloc (by simp [World.size_setCell];omega) _).drew,_,_,_,_,_,_,by rw [HC3.out],fun h=>absurd (by rw [HC3.out] at h;exact h) HFE.out⟩
end Go.Proofs.YtaebngpoagjafaaGreat
namespace Go.Proofs.YtaebngpoagjafaaGreat
open Go.RowKit
def T.val (s:ByteArray):Nat->Int
 | 0=>0
 | n+1=>T.val s n*10+(T.ch s n-48)
def T.digs (s:ByteArray):Prop:=∀ i,i<s.size->48<=T.ch s i/\T.ch s i<=57
theorem T.val_bd {s:ByteArray} (h:T.digs s):∀ n,n<=s.size->0<=T.val s n/\T.val s n+1<=10 ^ n:=by
 intro n
 induction n with
 | zero=>intro _;exact ⟨Int.le_refl _,by simp [T.val]⟩
 | succ n ih =>
   intro hn
   have h1:=ih (by omega)
   have h2:=h n (by omega)
   have e:(10:Int) ^ (n+1)=10 ^ n*10:=Int.pow_succ _ _
   simp only [T.val]
   rw [e]
   exact ⟨by omega,by omega⟩
attribute [local go_sem ↓] Go.wp_at_zero Go.wp_at_succ
set_option maxHeartbeats 400000 in
theorem value_any (s:ByteArray) (w:World) (hs:s.size<=2000) :
   Calls Tryz.prog 164 #[.string s] w fun e w'=>Below w.heap.size w w'/\∃ v,e=.returned (.int .i64 v)/\(T.digs s->s.size<=9->v=T.val s s.size):=by
 go_enter Tryz.func164,Tryz.ntmps164
 go_wp2_with fail
 go_loopg [3,4] s.size (fun n x y wr=>∃ (j:Nat) (v:Int),n+j=s.size/\x=.int .i64 v/\y=.int .i64 j/\Hid (T.digs s->s.size<=9->v=T.val s j)/\Below w.heap.size w wr)
 case atStart=>exact ⟨0,0,by omega,rfl,rfl,fun _ _=>rfl,Below.refl _ _⟩
 case round =>
   obtain ⟨j,v,hn,rfl,rfl,HV,hb⟩:=hrel
   have HB:Hid (Below w.heap.size w wr):=hb
   clear hb
   by_cases hlt:j<s.size
   · have hlt':(j:Int)<(s.size:Int):=by omega
     have hch:((s[j]).toNat:Int)=T.ch s j:=(T.ch_lt hlt).symm
     obtain ⟨cb0,cb1⟩:=T.ch_bd hlt
     go_wp2_with fail
     go_roundg (gk-1)
     case measure=>omega
     case rel=>exact ⟨j+1,_,by omega,rfl,by go_num,fun hd h9=>by
       have e:=HV.out hd h9
       have hb:=T.val_bd hd j (by omega)
       have hd2:=hd j hlt
       have hp:(10:Int) ^ j<=10 ^ 9:=by
         have h1:(10:Nat) ^ j<=10 ^ 9:=Nat.pow_le_pow_right (by omega) (by omega)
         exact_mod_cast h1
       have hp9:(10:Int) ^ 9=1000000000:=by decide
       subst e
       simp only [T.val]
       unfold wrap64
       omega,HB.out⟩
   · have hje:j=s.size:=by omega
     have hd:decide ((j:Int)<(s.size:Int))=false:=decide_eq_false (by omega)
     go_wp2_with fail
     go_ret
     exact ⟨HB.out,v,rfl,fun h1 h2=>(HV.out h1 h2).trans (by rw [hje])⟩
end Go.Proofs.YtaebngpoagjafaaGreat
