/-
  OUR OWN.
-/
import Derived.Test.YtaebngpoagjafaaGreatU10
import Derived.Test.YtaebngpoagjafaaGreatU21
set_option maxRecDepth 100000
namespace Go.Proofs.YtaebngpoagjafaaGreat
open Go.RowKit
def SL (w:World) (b:Nat) (l:List SG):Prop:=∀ i g,l[i]?=some g->w.cell? ⟨b,i*5,none⟩=some (.int .i64 g.kind)/\w.cell? ⟨b,i*5+1,none⟩=some (.int .i64 g.place)/\w.cell? ⟨b,i*5+2,none⟩=some (.int .i64 g.depth)/\w.cell? ⟨b,i*5+3,none⟩=some (.int .i64 g.list)/\w.cell? ⟨b,i*5+4,none⟩=some (.string g.text)
theorem SL.of_block {w w':World} {b:Nat} {l:List SG} (h:SL w b l) (e:w'.heap[b]?=w.heap[b]?):SL w' b l:=fun i g hg=>by
 obtain ⟨h0,h1,h2,h3,h4⟩:=h i g hg
 exact ⟨by rw [World.cell?_of_block (w:=w) e];exact h0,by rw [World.cell?_of_block (w:=w) e];exact h1,by rw [World.cell?_of_block (w:=w) e];exact h2,by rw [World.cell?_of_block (w:=w) e];exact h3,by rw [World.cell?_of_block (w:=w) e];exact h4⟩
def befN (g:SG):List SG->Nat
 | []=>0
 | x::r=>befN g r+(if x.list=g.list/\x.kind=g.kind then 1 else 0)
def befS (g:SG):List SG->Bool
 | []=>false
 | x::r=>befS g r || (decide (x.list=g.list/\x.kind=g.kind) && (x.text.toList==g.text.toList))
theorem befN_le (g:SG) (l:List SG) (n:Nat) (h:l.length<=n):befN g l<=n:=by
 induction l generalizing n with
 | nil=>exact Nat.zero_le _
 | cons x r ih =>
   simp only [List.length_cons] at h
   simp only [befN]
   have:=ih (n-1) (by omega)
   split<;>omega
attribute [local go_sem ↓] Go.wp_at_zero Go.wp_at_succ
set_option maxHeartbeats 400000 in
theorem before_any (b cap:Nat) (l:List SG) (i:Nat) (g:SG) (w:World) (h:SL w b l) (hl:l.length<=100000) (hg:l[i]?=some g) :
   Calls Tryz.prog 137 #[.slice (some ⟨b,0,none⟩) l.length cap,.int .i64 i] w fun e w'=>Below w.heap.size w w'/\e=.returned (.tuple #[.int .i64 (befN g (l.take i).reverse),.bool (befS g (l.take i).reverse)]):=by
 go_enter Tryz.func137,Tryz.ntmps137
 go_wp2_with fail
 have hil:i<l.length:=(List.getElem?_eq_some_iff.1 hg).1
 go_loopg [6,7,8] i (fun n x y z wr=>∃ (j:Nat),n+j=i/\x=.int .i64 (befN g (l.take j).reverse)/\y=.bool (befS g (l.take j).reverse)/\z=.int .i64 j/\wr.heap=w.heap/\Below w.heap.size w wr)
 case atStart=>exact ⟨0,by omega,rfl,rfl,rfl,rfl,Below.refl _ _⟩
 case round =>
   obtain ⟨j,hn,rfl,rfl,rfl,hh,hb⟩:=hrel
   have HB:Hid (Below w.heap.size w wr):=hb
   have HH:Hid (wr.heap=w.heap):=hh
   have hsl:SL wr b l:=h.of_block (by rw [hh])
   obtain ⟨g0,g1,g2,g3,g4⟩:=hsl i g hg
   have i0:(0:Int)<=(i:Int):=by omega
   have i1:(i:Int)<(l.length:Int):=by omega
   have j0:(0:Int)<=(j:Int):=by omega
   clear hb hh
   by_cases hlt:j<i
   · have hlt':(j:Int)<(i:Int):=by omega
     have j1:(j:Int)<(l.length:Int):=by omega
     obtain ⟨x,hx⟩:∃ x,l[j]?=some x:=⟨l[j]'(by omega),List.getElem?_eq_getElem (by omega)⟩
     obtain ⟨x0,x1,x2,x3,x4⟩:=hsl j x hx
     have hnx:(l.take (j+1)).reverse=x::(l.take j).reverse:=by
       rw [List.take_add_one,hx];simp
     have HN:Hid (befN g (l.take (j+1)).reverse=befN g (l.take j).reverse+(if x.list=g.list/\x.kind=g.kind then 1 else 0)):=by show _=_;rw [hnx];rfl
     have HS:Hid (befS g (l.take (j+1)).reverse=(befS g (l.take j).reverse || (decide (x.list=g.list/\x.kind=g.kind) && (x.text.toList==g.text.toList)))):=by show _=_;rw [hnx];rfl
     have hbn:befN g (l.take j).reverse<=j:=befN_le g _ j (by simp;omega)
     clear hnx hsl h
     have HX:Hid (l[j]?=some x):=hx
     have HG:Hid (l[i]?=some g):=hg
     clear hx hg
     generalize hBN:befN g (l.take j).reverse=bn at *
     generalize hBS:befS g (l.take j).reverse=bs at *
     clear hBN hBS
     have n0:(bn:Int)<=100000:=by omega
     cases hL:(x.list==g.list) with
     | false =>
       have hL':Hid (¬ (x.list=g.list/\x.kind=g.kind)):=fun hc=>by have:=beq_eq_false_iff_ne.1 hL;exact this hc.1
       go_wp2_with fail
       go_quiet (fail)
       go_wp2_with fail
       go_roundg (gk-1)
       case measure=>omega
       case rel=>exact ⟨j+1,by omega,by rw [HN.out,if_neg hL'.out];rfl,by rw [HS.out,decide_eq_false hL'.out];simp,by go_num,HH.out,below_drewN HB.out _⟩
     | true =>
       have hLe:x.list=g.list:=by simpa using hL
       cases hK:(x.kind==g.kind) with
       | false =>
         have hL':Hid (¬ (x.list=g.list/\x.kind=g.kind)):=fun hc=>by have:=beq_eq_false_iff_ne.1 hK;exact this hc.2
         clear hLe
         go_wp2_with fail
         go_quiet (fail)
         go_wp2_with fail
         go_roundg (gk-1)
         case measure=>omega
         case rel=>exact ⟨j+1,by omega,by rw [HN.out,if_neg hL'.out];rfl,by rw [HS.out,decide_eq_false hL'.out];simp,by go_num,HH.out,below_drewN HB.out _⟩
       | true =>
         have hY:Hid (x.list=g.list/\x.kind=g.kind):=⟨hLe,by simpa using hK⟩
         clear hLe
         cases bs with
         | true =>
           go_wp2_with fail
           go_quiet (fail)
           go_wp2_with fail
           go_quiet (fail)
           go_wp2_with fail
           go_roundg (gk-1)
           case measure=>omega
           case rel=>exact ⟨j+1,by omega,by rw [HN.out,if_pos hY.out];rfl,by rw [HS.out];simp,by go_num,HH.out,below_drewN HB.out _⟩
         | false =>
           go_wp2_with fail
           go_quiet (fail)
           go_wp2_with fail
           go_quiet (fail)
           go_wp2_with fail
           go_roundg (gk-1)
           case measure=>omega
           case rel=>exact ⟨j+1,by omega,by rw [HN.out,if_pos hY.out];rfl,by rw [HS.out,decide_eq_true hY.out];simp,by go_num,HH.out,below_drewN HB.out _⟩
   · have hji:j=i:=by omega
     have hd:decide ((j:Int)<(i:Int))=false:=decide_eq_false (by omega)
     subst hji
     go_wp2_with fail
     go_ret2
     exact ⟨HB.out,rfl⟩
def lastR:List SG->Nat
 | []=>0
 | x::r=>if x.kind=1 then r.length+1 else lastR r
def isR (g x:SG):Bool:=decide (x.kind=1) && (x.text.toList==g.text.toList)
def lastI (l:List SG) (n:Nat):Int:=(lastR (l.take n).reverse:Int)-1
theorem lastR_le (l:List SG):lastR l<=l.length:=by
 induction l with
 | nil=>exact Nat.le_refl _
 | cons x r ih=>simp only [lastR,List.length_cons];split<;>omega
set_option maxHeartbeats 400000 in
theorem named_any (b cap:Nat) (l:List SG) (i:Nat) (g:SG) (w:World) (h:SL w b l) (hl:l.length<=100000) (hg:l[i]?=some g) :
   Calls Tryz.prog 136 #[.slice (some ⟨b,0,none⟩) l.length cap,.int .i64 i] w fun e w'=>Below w.heap.size w w'/\e=.returned (.bool ((l.take (lastR (l.take (i+1)).reverse-1)).any (isR g))):=by
 go_enter Tryz.func136,Tryz.ntmps136
 go_wp2_with fail
 have hil:i<l.length:=(List.getElem?_eq_some_iff.1 hg).1
 go_loopg [5,6] (i+1) (fun n x y wr=>∃ (j:Nat),n+j=i+1/\x=.int .i64 (lastI l j)/\y=.int .i64 j/\wr.heap=w.heap/\Below w.heap.size w wr)
 case atStart=>exact ⟨0,by omega,rfl,rfl,rfl,Below.refl _ _⟩
 case round =>
   obtain ⟨j,hn,rfl,rfl,hh,hb⟩:=hrel
   have HB:Hid (Below w.heap.size w wr):=hb
   have HH:Hid (wr.heap=w.heap):=hh
   have hsl:SL wr b l:=h.of_block (by rw [hh])
   have i0:(0:Int)<=(i:Int):=by omega
   have i1:(i:Int)<(l.length:Int):=by omega
   have j0:(0:Int)<=(j:Int):=by omega
   clear hb hh
   by_cases hlt:j<=i
   · have hlt':(j:Int)<=(i:Int):=by omega
     have j1:(j:Int)<(l.length:Int):=by omega
     obtain ⟨x,hx⟩:∃ x,l[j]?=some x:=⟨l[j]'(by omega),List.getElem?_eq_getElem (by omega)⟩
     obtain ⟨x0,x1,x2,x3,x4⟩:=hsl j x hx
     have hnx:(l.take (j+1)).reverse=x::(l.take j).reverse:=by
       rw [List.take_add_one,hx];simp
     have HN:Hid (lastI l (j+1)=if x.kind=1 then (j:Int) else lastI l j):=by
       show _=_
       unfold lastI
       rw [hnx]
       simp only [lastR,List.length_reverse,List.length_take]
       split
       · rw [Nat.min_eq_left (by omega)];omega
       · rfl
     clear hnx hsl
     have HX:Hid (l[j]?=some x):=hx
     clear hx
     cases hK:(x.kind==1) with
     | false =>
       have hK':Hid (¬ x.kind=1):=fun hc=>by have:=beq_eq_false_iff_ne.1 hK;exact this hc
       go_wp2_with fail
       go_roundg (gk-1)
       case measure=>omega
       case rel=>exact ⟨j+1,by omega,by rw [HN.out,if_neg hK'.out],by go_num,HH.out,HB.out⟩
     | true =>
       have hK':Hid (x.kind=1):=by show _=_;simpa using hK
       go_wp2_with fail
       go_roundg (gk-1)
       case measure=>omega
       case rel=>exact ⟨j+1,by omega,by rw [HN.out,if_pos hK'.out],by go_num,HH.out,HB.out⟩
   · have hji:j=i+1:=by omega
     have hd:¬ (j:Int)<=(i:Int):=by omega
     subst hji
     have hlr:=lastR_le (l.take (i+1)).reverse
     have HG:Hid (l[i]?=some g):=hg
     have HSL:Hid (SL wr b l):=hsl
     obtain ⟨g0,g1,g2,g3,g4⟩:=hsl i g hg
     unfold lastI
     clear hg hsl h
     simp only [List.length_reverse,List.length_take] at hlr
     rw [Nat.min_eq_left (by omega)] at hlr
     generalize hm:lastR (l.take (i+1)).reverse=m at *
     have HMM:Hid (lastR (l.take (i+1)).reverse=m):=hm
     clear hm
     go_wp2_with fail
     clear g0 g1 g2 g3 g4
     go_loopg [7] m (fun n x wz=>∃ (j:Nat),n+j=m/\j<=m-1/\x=.int .i64 j/\Hid ((l.take j).any (isR g)=false)/\wz.heap=w.heap/\Below w.heap.size w wz)
     case atStart=>exact ⟨0,by omega,by omega,rfl,rfl,HH.out,HB.out⟩
     case round =>
       obtain ⟨j,hn,hjm,rfl,HF,hh,hb⟩:=hrel
       have HB2:Hid (Below w.heap.size w wr):=hb
       have HH2:Hid (wr.heap=w.heap):=hh
       have hsl:SL wr b l:=HSL.out.of_block (by rw [hh,HH.out])
       obtain ⟨g0,g1,g2,g3,g4⟩:=hsl i g HG.out
       have j0:(0:Int)<=(j:Int):=by omega
       clear hb hh
       by_cases hlt:j<m-1
       · have hlt':(j:Int)<(m:Int)-1:=by omega
         have j1:(j:Int)<(l.length:Int):=by omega
         obtain ⟨x,hx⟩:∃ x,l[j]?=some x:=⟨l[j]'(by omega),List.getElem?_eq_getElem (by omega)⟩
         obtain ⟨x0,x1,x2,x3,x4⟩:=hsl j x hx
         have HN:Hid ((l.take (j+1)).any (isR g)=isR g x):=by
           show _=_
           rw [List.take_add_one,hx,List.any_append,HF.out];simp
         have HY:Hid (isR g x=true->(l.take (m-1)).any (isR g)=true):=fun h1=>by
           rw [List.any_eq_true]
           refine ⟨x,?_,h1⟩
           rw [List.mem_iff_getElem?]
           exact ⟨j,by rw [List.getElem?_take_of_lt hlt];exact hx⟩
         clear hsl hx
         cases hK:(x.kind==1) with
         | false =>
           have HI:Hid (isR g x=false):=by
             show _=_
             have:=beq_eq_false_iff_ne.1 hK
             simp [isR,this]
           go_wp2_with fail
           go_quiet (fail)
           go_wp2_with fail
           go_roundg (gk-1)
           case measure=>omega
           case rel=>exact ⟨j+1,by omega,by omega,by go_num,HN.out.trans HI.out,HH2.out,below_drewN HB2.out _⟩
         | true =>
           cases hT:(x.text.toList==g.text.toList) with
           | false =>
             have HI:Hid (isR g x=false):=by
               show _=_
               simp only [isR,hT];simp
             go_wp2_with fail
             go_quiet (fail)
             go_wp2_with fail
             go_roundg (gk-1)
             case measure=>omega
             case rel=>exact ⟨j+1,by omega,by omega,by go_num,HN.out.trans HI.out,HH2.out,below_drewN HB2.out _⟩
           | true =>
             have HI:Hid ((l.take (m-1)).any (isR g)=true):=HY.out (by
               have:=beq_iff_eq.1 hK
               simp only [isR,hT,this];simp)
             go_wp2_with fail
             go_quiet (fail)
             go_wp2_with fail
             go_ret
             exact ⟨below_drewN HB2.out _,by rw [HMM.out,HI.out];rfl⟩
       · have hji:j=m-1:=by omega
         have hd:¬ (j:Int)<(m:Int)-1:=by omega
         have HI:Hid ((l.take (m-1)).any (isR g)=false):=by show _=_;rw [<- hji];exact HF.out
         clear hji
         go_wp2_with fail
         go_ret
         exact ⟨HB2.out,by rw [HMM.out,HI.out];rfl⟩
end Go.Proofs.YtaebngpoagjafaaGreat
namespace Go.Proofs.YtaebngpoagjafaaGreat
open Go.RowKit
def wrgV (k v:Int):Bool :=
 if k=4 then decide (64<=v) else if k=5 then (v==0 || decide (1000<v)) else if k=6 then (v==0 || decide (86400<v))
 else if k=7 then decide (99<v) else if k=8 then decide (16<=v) else false
def sgA (g:SG):Value:=.agg #[.int .i64 g.kind,.int .i64 g.place,.int .i64 g.depth,.int .i64 g.list,.string g.text]
set_option maxHeartbeats 400000 in
theorem wrong_any (g:SG) (w:World) (hs:g.text.size<=2000) :
   Calls Tryz.prog 138 #[sgA g] w fun e w'=>Below w.heap.size w w'/\∃ v,e=.returned (.bool (wrgV g.kind v))/\(T.digs g.text->g.text.size<=9->v=T.val g.text g.text.size):=by
 unfold sgA
 go_enter Tryz.func138,Tryz.ntmps138
 go_wp2_with fail
 refine (value_any g.text _ hs).mono ?_
 rintro e w1 ⟨hb1,v,rfl,hv⟩
 have hbb:Below w.heap.size w w1:=((Below.refl _ _).alloc (Nat.le_refl _) _).trans (hb1.mono (by simp))
 have b0:w1.cell? ⟨w.heap.size,0,none⟩=some (.int .i64 g.kind):=(hb1.cell (p:=⟨w.heap.size,0,none⟩) (by simp)).trans (by simp)
 have HB:Hid (Below w.heap.size w w1):=hbb
 have HV:Hid (T.digs g.text->g.text.size<=9->v=T.val g.text g.text.size):=hv
 clear hbb hb1 hv
 cases k4:(g.kind==4) with
 | true =>
   have e4:g.kind=4:=by simpa using k4
   clear k4
   rw [e4] at b0
   have HW:Hid (wrgV g.kind v=decide (64<=v)):=by show _=_;rw [e4];rfl
   clear e4
   go_wp2_with fail
   go_ret
   exact ⟨HB.out,v,by rw [HW.out];rfl,HV.out⟩
 | false =>
   cases k5:(g.kind==5) with
   | true =>
     have e5:g.kind=5:=by simpa using k5
     clear k5 k4
     rw [e5] at b0
     have HW:Hid (wrgV g.kind v=(v==0 || decide (1000<v))):=by show _=_;rw [e5];rfl
     clear e5
     cases v0:(v==0) with
     | true =>
       have HW:Hid (wrgV g.kind v=true):=HW.out.trans (by rw [v0];rfl)
       go_wp2_with fail
       go_ret
       exact ⟨HB.out,v,by rw [HW.out];rfl,HV.out⟩
     | false =>
       have HW:Hid (wrgV g.kind v=decide (1000<v)):=HW.out.trans (by rw [v0];rfl)
       go_wp2_with fail
       go_ret
       exact ⟨HB.out,v,by rw [HW.out];rfl,HV.out⟩
   | false =>
     cases k6:(g.kind==6) with
     | true =>
       have e6:g.kind=6:=by simpa using k6
       clear k6 k4 k5
       rw [e6] at b0
       have HW:Hid (wrgV g.kind v=(v==0 || decide (86400<v))):=by show _=_;rw [e6];rfl
       clear e6
       cases v0:(v==0) with
       | true =>
         have HW:Hid (wrgV g.kind v=true):=HW.out.trans (by rw [v0];rfl)
         go_wp2_with fail
         go_ret
         exact ⟨HB.out,v,by rw [HW.out];rfl,HV.out⟩
       | false =>
         have HW:Hid (wrgV g.kind v=decide (86400<v)):=HW.out.trans (by rw [v0];rfl)
         go_wp2_with fail
         go_ret
         exact ⟨HB.out,v,by rw [HW.out];rfl,HV.out⟩
     | false =>
       cases k7:(g.kind==7) with
       | true =>
         have e7:g.kind=7:=by simpa using k7
         clear k7 k4 k5 k6
         rw [e7] at b0
         have HW:Hid (wrgV g.kind v=decide (99<v)):=by show _=_;rw [e7];rfl
         clear e7
         go_wp2_with fail
         go_ret
         exact ⟨HB.out,v,by rw [HW.out];rfl,HV.out⟩
       | false =>
         cases k8:(g.kind==8) with
         | true =>
           have e8:g.kind=8:=by simpa using k8
           clear k8 k4 k5 k6 k7
           rw [e8] at b0
           have HW:Hid (wrgV g.kind v=decide (16<=v)):=by show _=_;rw [e8];rfl
           clear e8
           go_wp2_with fail
           go_ret
           exact ⟨HB.out,v,by rw [HW.out];rfl,HV.out⟩
         | false =>
           have HW:Hid (wrgV g.kind v=false):=by
             show _=_
             simp only [beq_eq_false_iff_ne] at k4 k5 k6 k7 k8
             unfold wrgV;rw [if_neg k4,if_neg k5,if_neg k6,if_neg k7,if_neg k8]
           go_wp2_with fail
           go_ret
           exact ⟨HB.out,v,by rw [HW.out];rfl,HV.out⟩
end Go.Proofs.YtaebngpoagjafaaGreat
namespace Go.Proofs.YtaebngpoagjafaaGreat
open Go.RowKit
def fltC (kd d:Int) (th:Bool) (n:Int) (sm wr:Bool):Int :=
 if kd=3/\12<=d then 3 else if 16<=n then 4 else if (kd=1/\th=true)\/(kd=2/\th=false) then 5 else if wr=true then 6 else if sm=true then 7 else 0
def thereB (l:List SG) (i:Nat) (g:SG):Bool:=(l.take (lastR (l.take (i+1)).reverse-1)).any (isR g)
def manyN (l:List SG) (i:Nat) (g:SG):Int:=if g.list=-1 then 0 else (befN g (l.take i).reverse:Int)
def sameB (l:List SG) (i:Nat) (g:SG):Bool:=if g.list=-1 then false else befS g (l.take i).reverse
def fltV (l:List SG) (i:Nat) (g:SG) (v:Int):Int:=fltC g.kind g.depth (thereB l i g) (manyN l i g) (sameB l i g) (wrgV g.kind v)
attribute [local go_sem ↓] Go.wp_at_zero Go.wp_at_succ
set_option maxHeartbeats 3200000 in
theorem fault_any (b cap:Nat) (l:List SG) (i:Nat) (g:SG) (w:World) (h:SL w b l) (hl:l.length<=100000) (hg:l[i]?=some g) (hbw:b<w.heap.size) (hs:g.text.size<=2000) :
   Calls Tryz.prog 93 #[.slice (some ⟨b,0,none⟩) l.length cap,.int .i64 i] w fun e w'=>Below w.heap.size w w'/\∃ v,e=.returned (.int .i64 (fltV l i g v))/\(T.digs g.text->g.text.size<=9->v=T.val g.text g.text.size):=by
 obtain ⟨g0,g1,g2,g3,g4⟩:=h i g hg
 have hil:i<l.length:=(List.getElem?_eq_some_iff.1 hg).1
 have i0:(0:Int)<=(i:Int):=by omega
 have i1:(i:Int)<(l.length:Int):=by omega
 have HSL:Hid (SL w b l):=h
 have HG:Hid (l[i]?=some g):=hg
 clear h hg
 unfold fltV
 generalize hth:thereB l i g=th
 generalize hnn:manyN l i g=n
 generalize hsm:sameB l i g=sm
 have HTH:Hid (thereB l i g=th):=hth
 have HNN:Hid (manyN l i g=n):=hnn
 have HSM:Hid (sameB l i g=sm):=hsm
 clear hth hnn hsm
 go_enter Tryz.func93,Tryz.ntmps93
 go_wp2_with fail
 have hSL1:SL (w.alloc (.cells #[.int .i64 g.kind,.int .i64 g.place,.int .i64 g.depth,.int .i64 g.list,.string g.text] 151)) b l:=HSL.out.of_block (Below.heap_alloc _ _ _ hbw)
 have hNM:=named_any b cap l i g _ hSL1 hl HG.out
 rw [show (l.take (lastR (l.take (i+1)).reverse-1)).any (isR g)=th from HTH.out] at hNM
 refine hNM.mono ?_
 rintro e w1 ⟨hb1,rfl⟩
 have hsz1:w.heap.size<w1.heap.size:=Nat.lt_of_lt_of_le (by simp) hb1.size
 have hce:∀ j,w1.cell? ⟨w.heap.size,j,none⟩=(w.alloc (.cells #[.int .i64 g.kind,.int .i64 g.place,.int .i64 g.depth,.int .i64 g.list,.string g.text] 151)).cell? ⟨w.heap.size,j,none⟩:=fun j=>hb1.cell (p:=⟨w.heap.size,j,none⟩) (by simp)
 have b0:w1.cell? ⟨w.heap.size,0,none⟩=some (.int .i64 g.kind):=(hce 0).trans (by simp)
 have b1:w1.cell? ⟨w.heap.size,1,none⟩=some (.int .i64 g.place):=(hce 1).trans (by simp)
 have b2:w1.cell? ⟨w.heap.size,2,none⟩=some (.int .i64 g.depth):=(hce 2).trans (by simp)
 have b3:w1.cell? ⟨w.heap.size,3,none⟩=some (.int .i64 g.list):=(hce 3).trans (by simp)
 have b4:w1.cell? ⟨w.heap.size,4,none⟩=some (.string g.text):=(hce 4).trans (by simp)
 have HB1:Hid (Below w.heap.size w w1):=((Below.refl _ _).alloc (Nat.le_refl _) _).trans (hb1.mono (by simp))
 have HSL1:Hid (SL w1 b l):=hSL1.of_block (hb1.block _ (Nat.lt_of_lt_of_le hbw (by simp)))
 clear hNM hSL1 hce hb1 g0 g1 g2 g3 g4
 cases hl1:(g.list==-1) with
 | true =>
   have hle:g.list=-1:=by simpa using hl1
   have hl2:(g.list != -1)=false:=by simp [bne,hl1]
   have en:n=0:=by rw [<- HNN.out];unfold manyN;rw [if_pos hle]
   have es:sm=false:=by rw [<- HSM.out];unfold sameB;rw [if_pos hle]
   clear HNN HSM hle
   have HB:Hid (Below w.heap.size w w1):=HB1.out
   have HSZ:Hid (w.heap.size<=w1.heap.size):=Nat.le_of_lt hsz1
   subst en
   subst es
   cases k3:(g.kind==3) with
   | true =>
     have e3:g.kind=3:=by simpa using k3
     have k1:(g.kind==1)=false:=by rw [e3];decide
     have k2:(g.kind==2)=false:=by rw [e3];decide
     by_cases hd:12<=g.depth
     · have dd:decide (12<=g.depth)=true:=decide_eq_true hd
       have HW:Hid (∀ wr,fltC g.kind g.depth th 0 false wr=3):=fun wr=>by simp [fltC,e3,hd]
       clear e3
       go_wp2_with fail
       go_ret
       exact ⟨HB.out,T.val g.text g.text.size,by rw [HW.out];rfl,fun _ _=>rfl⟩
     · have dd:decide (12<=g.depth)=false:=decide_eq_false hd
       have HW:Hid (∀ wr,fltC g.kind g.depth th 0 false wr=if wr=true then 6 else 0):=fun wr=>by simp [fltC,e3,hd]
       clear hd e3
       go_wp2_with fail
       refine (wrong_any g _ hs).mono ?_
       rintro e w3 ⟨hb3,v,rfl,hv⟩
       have HB3:Hid (Below w.heap.size w w3):=HB.out.trans (hb3.mono HSZ.out)
       have HV3:Hid (T.digs g.text->g.text.size<=9->v=T.val g.text g.text.size):=hv
       clear hb3 hv
       cases hwr:wrgV g.kind v with
       | true =>
         have HE:Hid (fltC g.kind g.depth th 0 false (wrgV g.kind v)=6):=by show _=_;rw [HW.out,hwr];rfl
         go_wp2_with fail
         go_ret
         exact ⟨HB3.out,v,by rw [HE.out];rfl,HV3.out⟩
       | false =>
         have HE:Hid (fltC g.kind g.depth th 0 false (wrgV g.kind v)=0):=by show _=_;rw [HW.out,hwr];rfl
         go_wp2_with fail
         go_ret
         exact ⟨HB3.out,v,by rw [HE.out];rfl,HV3.out⟩
   | false =>
     have e3n:¬ g.kind=3:=beq_eq_false_iff_ne.1 k3
     cases k1:(g.kind==1) with
     | true =>
       have e1:g.kind=1:=by simpa using k1
       have k2:(g.kind==2)=false:=by rw [e1];decide
       cases th with
       | true =>
         have HW:Hid (∀ wr,fltC g.kind g.depth true 0 false wr=5):=fun wr=>by simp [fltC,e1]
         clear e1 e3n
         go_wp2_with fail
         go_ret
         exact ⟨HB.out,T.val g.text g.text.size,by rw [HW.out];rfl,fun _ _=>rfl⟩
       | false =>
         have HW:Hid (∀ wr,fltC g.kind g.depth false 0 false wr=if wr=true then 6 else 0):=fun wr=>by simp [fltC,e1]
         clear e1 e3n
         go_wp2_with fail
         refine (wrong_any g _ hs).mono ?_
         rintro e w3 ⟨hb3,v,rfl,hv⟩
         have HB3:Hid (Below w.heap.size w w3):=HB.out.trans (hb3.mono HSZ.out)
         have HV3:Hid (T.digs g.text->g.text.size<=9->v=T.val g.text g.text.size):=hv
         clear hb3 hv
         cases hwr:wrgV g.kind v with
         | true =>
           have HE:Hid (fltC g.kind g.depth false 0 false (wrgV g.kind v)=6):=by show _=_;rw [HW.out,hwr];rfl
           go_wp2_with fail
           go_ret
           exact ⟨HB3.out,v,by rw [HE.out];rfl,HV3.out⟩
         | false =>
           have HE:Hid (fltC g.kind g.depth false 0 false (wrgV g.kind v)=0):=by show _=_;rw [HW.out,hwr];rfl
           go_wp2_with fail
           go_ret
           exact ⟨HB3.out,v,by rw [HE.out];rfl,HV3.out⟩
     | false =>
       have e1n:¬ g.kind=1:=beq_eq_false_iff_ne.1 k1
       cases k2:(g.kind==2) with
       | true =>
         have e2:g.kind=2:=by simpa using k2
         cases th with
         | true =>
           have HW:Hid (∀ wr,fltC g.kind g.depth true 0 false wr=if wr=true then 6 else 0):=fun wr=>by simp [fltC,e2]
           clear e2 e1n e3n
           go_wp2_with fail
           refine (wrong_any g _ hs).mono ?_
           rintro e w3 ⟨hb3,v,rfl,hv⟩
           have HB3:Hid (Below w.heap.size w w3):=HB.out.trans (hb3.mono HSZ.out)
           have HV3:Hid (T.digs g.text->g.text.size<=9->v=T.val g.text g.text.size):=hv
           clear hb3 hv
           cases hwr:wrgV g.kind v with
           | true =>
             have HE:Hid (fltC g.kind g.depth true 0 false (wrgV g.kind v)=6):=by show _=_;rw [HW.out,hwr];rfl
             go_wp2_with fail
             go_ret
             exact ⟨HB3.out,v,by rw [HE.out];rfl,HV3.out⟩
           | false =>
             have HE:Hid (fltC g.kind g.depth true 0 false (wrgV g.kind v)=0):=by show _=_;rw [HW.out,hwr];rfl
             go_wp2_with fail
             go_ret
             exact ⟨HB3.out,v,by rw [HE.out];rfl,HV3.out⟩
         | false =>
           have HW:Hid (∀ wr,fltC g.kind g.depth false 0 false wr=5):=fun wr=>by simp [fltC,e2]
           clear e2 e1n e3n
           go_wp2_with fail
           go_ret
           exact ⟨HB.out,T.val g.text g.text.size,by rw [HW.out];rfl,fun _ _=>rfl⟩
       | false =>
         have e2n:¬ g.kind=2:=beq_eq_false_iff_ne.1 k2
         have HW:Hid (∀ wr,fltC g.kind g.depth th 0 false wr=if wr=true then 6 else 0):=fun wr=>by simp [fltC,e1n,e2n,e3n]
         clear e1n e2n e3n
         go_wp2_with fail
         refine (wrong_any g _ hs).mono ?_
         rintro e w3 ⟨hb3,v,rfl,hv⟩
         have HB3:Hid (Below w.heap.size w w3):=HB.out.trans (hb3.mono HSZ.out)
         have HV3:Hid (T.digs g.text->g.text.size<=9->v=T.val g.text g.text.size):=hv
         clear hb3 hv
         cases hwr:wrgV g.kind v with
         | true =>
           have HE:Hid (fltC g.kind g.depth th 0 false (wrgV g.kind v)=6):=by show _=_;rw [HW.out,hwr];rfl
           go_wp2_with fail
           go_ret
           exact ⟨HB3.out,v,by rw [HE.out];rfl,HV3.out⟩
         | false =>
           have HE:Hid (fltC g.kind g.depth th 0 false (wrgV g.kind v)=0):=by show _=_;rw [HW.out,hwr];rfl
           go_wp2_with fail
           go_ret
           exact ⟨HB3.out,v,by rw [HE.out];rfl,HV3.out⟩
 | false =>
   have hle:¬ g.list=-1:=beq_eq_false_iff_ne.1 hl1
   have hl2:(g.list != -1)=true:=by simp [bne,hl1]
   have en:((befN g (l.take i).reverse:Nat):Int)=n:=by rw [<- HNN.out];unfold manyN;rw [if_neg hle]
   have es:befS g (l.take i).reverse=sm:=by rw [<- HSM.out];unfold sameB;rw [if_neg hle]
   go_wp2_with fail
   have hBF:=before_any b cap l i g _ HSL1.out hl HG.out
   rw [en,es] at hBF
   refine hBF.mono ?_
   rintro e w2 ⟨hb2,rfl⟩
   have hce:∀ j,w2.cell? ⟨w.heap.size,j,none⟩=w1.cell? ⟨w.heap.size,j,none⟩:=fun j=>hb2.cell (p:=⟨w.heap.size,j,none⟩) hsz1
   have b0:w2.cell? ⟨w.heap.size,0,none⟩=some (.int .i64 g.kind):=(hce 0).trans b0
   have b1:w2.cell? ⟨w.heap.size,1,none⟩=some (.int .i64 g.place):=(hce 1).trans b1
   have b2:w2.cell? ⟨w.heap.size,2,none⟩=some (.int .i64 g.depth):=(hce 2).trans b2
   have b3:w2.cell? ⟨w.heap.size,3,none⟩=some (.int .i64 g.list):=(hce 3).trans b3
   have b4:w2.cell? ⟨w.heap.size,4,none⟩=some (.string g.text):=(hce 4).trans b4
   have HB:Hid (Below w.heap.size w w2):=HB1.out.trans (hb2.mono (Nat.le_of_lt hsz1))
   have HSZ:Hid (w.heap.size<=w2.heap.size):=Nat.le_trans (Nat.le_of_lt hsz1) hb2.size
   clear hBF hce hb2 HNN HSM hle en es
   cases k3:(g.kind==3) with
   | true =>
     have e3:g.kind=3:=by simpa using k3
     have k1:(g.kind==1)=false:=by rw [e3];decide
     have k2:(g.kind==2)=false:=by rw [e3];decide
     by_cases hd:12<=g.depth
     · have dd:decide (12<=g.depth)=true:=decide_eq_true hd
       have HW:Hid (∀ wr,fltC g.kind g.depth th n sm wr=3):=fun wr=>by simp [fltC,e3,hd]
       clear e3
       go_wp2_with fail
       go_ret
       exact ⟨HB.out,T.val g.text g.text.size,by rw [HW.out];rfl,fun _ _=>rfl⟩
     · have dd:decide (12<=g.depth)=false:=decide_eq_false hd
       by_cases hn:16<=n
       · have dn:decide (16<=n)=true:=decide_eq_true hn
         have HW:Hid (∀ wr,fltC g.kind g.depth th n sm wr=4):=fun wr=>by simp [fltC,e3,hd,hn]
         go_wp2_with fail
         go_ret
         exact ⟨HB.out,T.val g.text g.text.size,by rw [HW.out];rfl,fun _ _=>rfl⟩
       · have dn:decide (16<=n)=false:=decide_eq_false hn
         have HW:Hid (∀ wr,fltC g.kind g.depth th n sm wr=if wr=true then 6 else if sm=true then 7 else 0):=fun wr=>by simp [fltC,e3,hd,hn]
         clear hn hd e3
         go_wp2_with fail
         refine (wrong_any g _ hs).mono ?_
         rintro e w3 ⟨hb3,v,rfl,hv⟩
         have HB3:Hid (Below w.heap.size w w3):=HB.out.trans (hb3.mono HSZ.out)
         have HV3:Hid (T.digs g.text->g.text.size<=9->v=T.val g.text g.text.size):=hv
         clear hb3 hv
         cases hwr:wrgV g.kind v with
         | true =>
           have HE:Hid (fltC g.kind g.depth th n sm (wrgV g.kind v)=6):=by show _=_;rw [HW.out,hwr];rfl
           go_wp2_with fail
           go_ret
           exact ⟨HB3.out,v,by rw [HE.out];rfl,HV3.out⟩
         | false =>
           cases sm with
           | true =>
             have HE:Hid (fltC g.kind g.depth th n true (wrgV g.kind v)=7):=by show _=_;rw [HW.out,hwr];rfl
             go_wp2_with fail
             go_ret
             exact ⟨HB3.out,v,by rw [HE.out];rfl,HV3.out⟩
           | false =>
             have HE:Hid (fltC g.kind g.depth th n false (wrgV g.kind v)=0):=by show _=_;rw [HW.out,hwr];rfl
             go_wp2_with fail
             go_ret
             exact ⟨HB3.out,v,by rw [HE.out];rfl,HV3.out⟩
   | false =>
     have e3n:¬ g.kind=3:=beq_eq_false_iff_ne.1 k3
     by_cases hn:16<=n
     · have dn:decide (16<=n)=true:=decide_eq_true hn
       have HW:Hid (∀ wr,fltC g.kind g.depth th n sm wr=4):=fun wr=>by simp [fltC,e3n,hn]
       go_wp2_with fail
       go_ret
       exact ⟨HB.out,T.val g.text g.text.size,by rw [HW.out];rfl,fun _ _=>rfl⟩
     · have dn:decide (16<=n)=false:=decide_eq_false hn
       cases k1:(g.kind==1) with
       | true =>
         have e1:g.kind=1:=by simpa using k1
         have k2:(g.kind==2)=false:=by rw [e1];decide
         cases th with
         | true =>
           have HW:Hid (∀ wr,fltC g.kind g.depth true n sm wr=5):=fun wr=>by simp [fltC,hn,e1]
           clear hn e1 e3n
           go_wp2_with fail
           go_ret
           exact ⟨HB.out,T.val g.text g.text.size,by rw [HW.out];rfl,fun _ _=>rfl⟩
         | false =>
           have HW:Hid (∀ wr,fltC g.kind g.depth false n sm wr=if wr=true then 6 else if sm=true then 7 else 0):=fun wr=>by simp [fltC,hn,e1]
           clear hn e1 e3n
           go_wp2_with fail
           refine (wrong_any g _ hs).mono ?_
           rintro e w3 ⟨hb3,v,rfl,hv⟩
           have HB3:Hid (Below w.heap.size w w3):=HB.out.trans (hb3.mono HSZ.out)
           have HV3:Hid (T.digs g.text->g.text.size<=9->v=T.val g.text g.text.size):=hv
           clear hb3 hv
           cases hwr:wrgV g.kind v with
           | true =>
             have HE:Hid (fltC g.kind g.depth false n sm (wrgV g.kind v)=6):=by show _=_;rw [HW.out,hwr];rfl
             go_wp2_with fail
             go_ret
             exact ⟨HB3.out,v,by rw [HE.out];rfl,HV3.out⟩
           | false =>
             cases sm with
             | true =>
               have HE:Hid (fltC g.kind g.depth false n true (wrgV g.kind v)=7):=by show _=_;rw [HW.out,hwr];rfl
               go_wp2_with fail
               go_ret
               exact ⟨HB3.out,v,by rw [HE.out];rfl,HV3.out⟩
             | false =>
               have HE:Hid (fltC g.kind g.depth false n false (wrgV g.kind v)=0):=by show _=_;rw [HW.out,hwr];rfl
               go_wp2_with fail
               go_ret
               exact ⟨HB3.out,v,by rw [HE.out];rfl,HV3.out⟩
       | false =>
         have e1n:¬ g.kind=1:=beq_eq_false_iff_ne.1 k1
         cases k2:(g.kind==2) with
         | true =>
           have e2:g.kind=2:=by simpa using k2
           cases th with
           | true =>
             have HW:Hid (∀ wr,fltC g.kind g.depth true n sm wr=if wr=true then 6 else if sm=true then 7 else 0):=fun wr=>by simp [fltC,hn,e2]
             clear hn e2 e1n e3n
             go_wp2_with fail
             refine (wrong_any g _ hs).mono ?_
             rintro e w3 ⟨hb3,v,rfl,hv⟩
             have HB3:Hid (Below w.heap.size w w3):=HB.out.trans (hb3.mono HSZ.out)
             have HV3:Hid (T.digs g.text->g.text.size<=9->v=T.val g.text g.text.size):=hv
             clear hb3 hv
             cases hwr:wrgV g.kind v with
             | true =>
               have HE:Hid (fltC g.kind g.depth true n sm (wrgV g.kind v)=6):=by show _=_;rw [HW.out,hwr];rfl
               go_wp2_with fail
               go_ret
               exact ⟨HB3.out,v,by rw [HE.out];rfl,HV3.out⟩
             | false =>
               cases sm with
               | true =>
                 have HE:Hid (fltC g.kind g.depth true n true (wrgV g.kind v)=7):=by show _=_;rw [HW.out,hwr];rfl
                 go_wp2_with fail
                 go_ret
                 exact ⟨HB3.out,v,by rw [HE.out];rfl,HV3.out⟩
               | false =>
                 have HE:Hid (fltC g.kind g.depth true n false (wrgV g.kind v)=0):=by show _=_;rw [HW.out,hwr];rfl
                 go_wp2_with fail
                 go_ret
                 exact ⟨HB3.out,v,by rw [HE.out];rfl,HV3.out⟩
           | false =>
             have HW:Hid (∀ wr,fltC g.kind g.depth false n sm wr=5):=fun wr=>by simp [fltC,hn,e2]
             clear hn e2 e1n e3n
             go_wp2_with fail
             go_ret
             exact ⟨HB.out,T.val g.text g.text.size,by rw [HW.out];rfl,fun _ _=>rfl⟩
         | false =>
           have e2n:¬ g.kind=2:=beq_eq_false_iff_ne.1 k2
           have HW:Hid (∀ wr,fltC g.kind g.depth th n sm wr=if wr=true then 6 else if sm=true then 7 else 0):=fun wr=>by simp [fltC,hn,e1n,e2n,e3n]
           clear hn e1n e2n e3n
           go_wp2_with fail
           refine (wrong_any g _ hs).mono ?_
           rintro e w3 ⟨hb3,v,rfl,hv⟩
           have HB3:Hid (Below w.heap.size w w3):=HB.out.trans (hb3.mono HSZ.out)
           have HV3:Hid (T.digs g.text->g.text.size<=9->v=T.val g.text g.text.size):=hv
           clear hb3 hv
           cases hwr:wrgV g.kind v with
           | true =>
             have HE:Hid (fltC g.kind g.depth th n sm (wrgV g.kind v)=6):=by show _=_;rw [HW.out,hwr];rfl
             go_wp2_with fail
             go_ret
             exact ⟨HB3.out,v,by rw [HE.out];rfl,HV3.out⟩
           | false =>
             cases sm with
             | true =>
               have HE:Hid (fltC g.kind g.depth th n true (wrgV g.kind v)=7):=by show _=_;rw [HW.out,hwr];rfl
               go_wp2_with fail
               go_ret
               exact ⟨HB3.out,v,by rw [HE.out];rfl,HV3.out⟩
             | false =>
               have HE:Hid (fltC g.kind g.depth th n false (wrgV g.kind v)=0):=by show _=_;rw [HW.out,hwr];rfl
               go_wp2_with fail
               go_ret
               exact ⟨HB3.out,v,by rw [HE.out];rfl,HV3.out⟩
end Go.Proofs.YtaebngpoagjafaaGreat
