import Derived.Test.YtaebngpoagjafabGreatV08
set_option maxRecDepth 100000
set_option maxHeartbeats 3200000
namespace Go.Proofs.YtaebngpoagjafabGreat
open Value renaming int → J
open IntKind renaming i64 → Z
open Go.RowKit
attribute [local go_sem ↓] Go.wp_at_zero Go.wp_at_succ
def SL (w:World) (b:Nat) (l:List SG):Prop:=∀ i g,l[i]?=some g->w.cell? ⟨b,i*5,none⟩=some (J Z g.kind)/\w.cell? ⟨b,i*5+1,none⟩=some (J Z g.place)/\w.cell? ⟨b,i*5+2,none⟩=some (J Z g.depth)/\w.cell? ⟨b,i*5+3,none⟩=some (J Z g.list)/\w.cell? ⟨b,i*5+4,none⟩=some (.string g.text)
theorem SL.of_block {w w':World} {b:Nat} {l:List SG} (h:SL w b l) (e:w'.heap[b]?=w.heap[b]?):SL w' b l:=fun i g hg=>by
 obtain ⟨h0,h1,h2,h3,h4⟩:=h i g hg
 exact ⟨by rw [World.cell?_of_block (w:=w) e];exact h0,by rw [World.cell?_of_block (w:=w) e];exact h1,by rw [World.cell?_of_block (w:=w) e];exact h2,by rw [World.cell?_of_block (w:=w) e];exact h3,by rw [World.cell?_of_block (w:=w) e];exact h4⟩
def Zq (g:SG):List SG->Nat
 | []=>0
 | x::r=>Zq g r+(if x.list=g.list/\x.kind=g.kind then 1 else 0)
def Zx (g:SG):List SG->Bool
 | []=>false
 | x::r=>Zx g r || (decide (x.list=g.list/\x.kind=g.kind) && (x.text.toList==g.text.toList))
theorem zcY (g:SG) (l:List SG) (n:Nat) (h:l.length<=n):Zq g l<=n:=by
 induction l generalizing n with
 | nil=>exact Nat.zero_le _
 | cons x r ih =>
  simp only [List.length_cons] at h
  simp only [Zq]
  have:=ih (n-1) (by omega)
  split<;>omega
theorem jP (b cap:Nat) (l:List SG) (i:Nat) (g:SG) (w:World) (h:SL w b l) (hl:l.length<=100000) (hg:l[i]?=some g) :
 Calls Tryz.prog 137 #[.slice (some ⟨b,0,none⟩) l.length cap,J Z i] w fun e w'=>Below w.heap.size w w'/\e=.returned (.tuple #[J Z (Zq g (l.take i).reverse),.bool (Zx g (l.take i).reverse)]):=by
 go_enter Tryz.func137,Tryz.ntmps137
 go_wp2_with fail
 have hil:i<l.length:=(List.getElem?_eq_some_iff.1 hg).1
 go_loopg [6,7,8] i (fun n x y z wr=>∃ (j:Nat),n+j=i/\x=J Z (Zq g (l.take j).reverse)/\y=.bool (Zx g (l.take j).reverse)/\z=J Z j/\wr.heap=w.heap/\Below w.heap.size w wr)
 case atStart=>exact ⟨0,by omega,rfl,rfl,rfl,rfl,Below.refl _ _⟩
 case round =>
  obtain ⟨j,hn,rfl,rfl,rfl,hh,hb⟩:=hrel
  have HB:Hid _:=hb
  have HH:Hid (wr.heap=w.heap):=hh
  have hsl:SL wr b l:=h.of_block (by rw [hh])
  obtain ⟨g0,g1,g2,g3,g4⟩:=hsl i g hg
  have i0:(0:Int)<=(i:Int):=by omega
  have i1:(i:Int)<(l.length:Int):=by omega
  have j0:(0:Int)<=(j:Int):=by omega
  clear hb hh
  by_cases hlt:j<i
  ·have hlt':(j:Int)<(i:Int):=by omega
   have j1:(j:Int)<(l.length:Int):=by omega
   obtain ⟨x,hx⟩:∃ x,l[j]?=some x:=⟨l[j]'(by omega),List.getElem?_eq_getElem (by omega)⟩
   obtain ⟨x0,x1,x2,x3,x4⟩:=hsl j x hx
   have hnx:(l.take (j+1)).reverse=x::(l.take j).reverse:=by
    rw [List.take_add_one,hx];simp
   have HN:Hid (Zq g (l.take (j+1)).reverse=Zq g (l.take j).reverse+(if x.list=g.list/\x.kind=g.kind then 1 else 0)):=by show _=_;rw [hnx];rfl
   have HS:Hid (Zx g (l.take (j+1)).reverse=(Zx g (l.take j).reverse || (decide (x.list=g.list/\x.kind=g.kind) && (x.text.toList==g.text.toList)))):=by show _=_;rw [hnx];rfl
   have hbn:Zq g (l.take j).reverse<=j:=zcY g _ j (by simp;omega)
   clear hnx hsl h
   have HX:Hid _:=hx
   have HG:Hid _:=hg
   clear hx hg
   generalize hBN:Zq g (l.take j).reverse=bn at *
   generalize hBS:Zx g (l.take j).reverse=bs at *
   clear hBN hBS
   have n0:(bn:Int)<=100000:=by omega
   cases hL:(x.list==g.list) with
   | false =>
    have hL':Hid (¬ (x.list=g.list/\x.kind=g.kind)):=fun hc=>by have:=beq_eq_false_iff_ne.1 hL;exact this hc.1
    go_wp2_with fail
    go_quiet (fail)
    go_wp2_with fail
    go_roundg (gk-1)
    case measure=>omega
    case rel=>exact ⟨j+1,by omega,by rw [HN.out,if_neg hL'.out];rfl,by rw [HS.out,decide_eq_false hL'.out];simp,by go_num,HH.out,zQ HB.out _⟩
   | true =>
    have hLe:x.list=g.list:=by simpa using hL
    cases hK:(x.kind==g.kind) with
    | false =>
     have hL':Hid (¬ (x.list=g.list/\x.kind=g.kind)):=fun hc=>by have:=beq_eq_false_iff_ne.1 hK;exact this hc.2
     clear hLe
     go_wp2_with fail
     go_quiet (fail)
     go_wp2_with fail
     go_roundg (gk-1)
     case measure=>omega
     case rel=>exact ⟨j+1,by omega,by rw [HN.out,if_neg hL'.out];rfl,by rw [HS.out,decide_eq_false hL'.out];simp,by go_num,HH.out,zQ HB.out _⟩
    | true =>
     have hY:Hid (x.list=g.list/\x.kind=g.kind):=⟨hLe,by simpa using hK⟩
     clear hLe
     cases bs with
     | true =>
      go_wp2_with fail
      go_quiet (fail)
      go_wp2_with fail
      go_quiet (fail)
      go_wp2_with fail
      go_roundg (gk-1)
      case measure=>omega
      case rel=>exact ⟨j+1,by omega,by rw [HN.out,if_pos hY.out];rfl,by rw [HS.out];simp,by go_num,HH.out,zQ HB.out _⟩
     | false =>
      go_wp2_with fail
      go_quiet (fail)
      go_wp2_with fail
      go_quiet (fail)
      go_wp2_with fail
      go_roundg (gk-1)
      case measure=>omega
      case rel=>exact ⟨j+1,by omega,by rw [HN.out,if_pos hY.out];rfl,by rw [HS.out,decide_eq_true hY.out];simp,by go_num,HH.out,zQ HB.out _⟩
  ·have hji:j=i:=by omega
   have hd:decide ((j:Int)<(i:Int))=false:=decide_eq_false (by omega)
   subst hji
   go_wp2_with fail
   go_ret2
   exact ⟨HB.out,rfl⟩
def Zg:List SG->Nat
 | []=>0
 | x::r=>if x.kind=1 then r.length+1 else Zg r
def isR (g x:SG):Bool:=decide (x.kind=1) && (x.text.toList==g.text.toList)
def QK (l:List SG) (n:Nat):Int:=(Zg (l.take n).reverse:Int)-1
theorem QJ (l:List SG):Zg l<=l.length:=by
 induction l with
 | nil=>exact Nat.le_refl _
 | cons x r ih=>simp only [Zg,List.length_cons];split<;>omega
theorem JR (b cap:Nat) (l:List SG) (i:Nat) (g:SG) (w:World) (h:SL w b l) (hl:l.length<=100000) (hg:l[i]?=some g) :
 Calls Tryz.prog 136 #[.slice (some ⟨b,0,none⟩) l.length cap,J Z i] w fun e w'=>Below w.heap.size w w'/\e=.returned (.bool ((l.take (Zg (l.take (i+1)).reverse-1)).any (isR g))):=by
 go_enter Tryz.func136,Tryz.ntmps136
 go_wp2_with fail
 have hil:i<l.length:=(List.getElem?_eq_some_iff.1 hg).1
 go_loopg [5,6] (i+1) (fun n x y wr=>∃ (j:Nat),n+j=i+1/\x=J Z (QK l j)/\y=J Z j/\wr.heap=w.heap/\Below w.heap.size w wr)
 case atStart=>exact ⟨0,by omega,rfl,rfl,rfl,Below.refl _ _⟩
 case round =>
  obtain ⟨j,hn,rfl,rfl,hh,hb⟩:=hrel
  have HB:Hid _:=hb
  have HH:Hid (wr.heap=w.heap):=hh
  have hsl:SL wr b l:=h.of_block (by rw [hh])
  have i0:(0:Int)<=(i:Int):=by omega
  have i1:(i:Int)<(l.length:Int):=by omega
  have j0:(0:Int)<=(j:Int):=by omega
  clear hb hh
  by_cases hlt:j<=i
  ·have hlt':(j:Int)<=(i:Int):=by omega
   have j1:(j:Int)<(l.length:Int):=by omega
   obtain ⟨x,hx⟩:∃ x,l[j]?=some x:=⟨l[j]'(by omega),List.getElem?_eq_getElem (by omega)⟩
   obtain ⟨x0,x1,x2,x3,x4⟩:=hsl j x hx
   have hnx:(l.take (j+1)).reverse=x::(l.take j).reverse:=by
    rw [List.take_add_one,hx];simp
   have HN:Hid (QK l (j+1)=if x.kind=1 then (j:Int) else QK l j):=by
    show _=_
    unfold QK
    rw [hnx]
    simp only [Zg,List.length_reverse,List.length_take]
    split
    ·rw [Nat.min_eq_left (by omega)];omega
    ·rfl
   clear hnx hsl
   have HX:Hid _:=hx
   clear hx
   cases hK:(x.kind==1) with
   | false =>
    have hK':Hid (¬ x.kind=1):=fun hc=>by have:=beq_eq_false_iff_ne.1 hK;exact this hc
    go_wp2_with fail
    go_roundg (gk-1)
    case measure=>omega
    case rel=>exact ⟨j+1,by omega,by rw [HN.out,if_neg hK'.out],by go_num,HH.out,HB.out⟩
   | true =>
    have hK':Hid (x.kind=1):=by show _=_;simpa using hK
    go_wp2_with fail
    go_roundg (gk-1)
    case measure=>omega
    case rel=>exact ⟨j+1,by omega,by rw [HN.out,if_pos hK'.out],by go_num,HH.out,HB.out⟩
  ·have hji:j=i+1:=by omega
   have hd:¬ (j:Int)<=(i:Int):=by omega
   subst hji
   have hlr:=QJ (l.take (i+1)).reverse
   have HG:Hid _:=hg
   have HSL:Hid (SL wr b l):=hsl
   obtain ⟨g0,g1,g2,g3,g4⟩:=hsl i g hg
   unfold QK
   clear hg hsl h
   simp only [List.length_reverse,List.length_take] at hlr
   rw [Nat.min_eq_left (by omega)] at hlr
   generalize hm:Zg (l.take (i+1)).reverse=m at *
   have HMM:Hid _:=hm
   clear hm
   go_wp2_with fail
   clear g0 g1 g2 g3 g4
   go_loopg [7] m (fun n x wz=>∃ (j:Nat),n+j=m/\j<=m-1/\x=J Z j/\Hid ((l.take j).any (isR g)=false)/\wz.heap=w.heap/\Below w.heap.size w wz)
   case atStart=>exact ⟨0,by omega,by omega,rfl,rfl,HH.out,HB.out⟩
   case round =>
    obtain ⟨j,hn,hjm,rfl,HF,hh,hb⟩:=hrel
    have HB2:Hid _:=hb
    have HH2:Hid _:=hh
    have hsl:SL wr b l:=HSL.out.of_block (by rw [hh,HH.out])
    obtain ⟨g0,g1,g2,g3,g4⟩:=hsl i g HG.out
    have j0:(0:Int)<=(j:Int):=by omega
    clear hb hh
    by_cases hlt:j<m-1
    ·have hlt':(j:Int)<(m:Int)-1:=by omega
     have j1:(j:Int)<(l.length:Int):=by omega
     obtain ⟨x,hx⟩:∃ x,l[j]?=some x:=⟨l[j]'(by omega),List.getElem?_eq_getElem (by omega)⟩
     obtain ⟨x0,x1,x2,x3,x4⟩:=hsl j x hx
     have HN:Hid ((l.take (j+1)).any (isR g)=isR g x):=by
      show _=_
      rw [List.take_add_one,hx,List.any_append,HF.out];simp
     have HY:Hid (isR g x=true->(l.take (m-1)).any (isR g)=true):=fun h1=>by
      rw [List.any_eq_true]
      refine ⟨x,?_,h1⟩
      rw [List.mem_iff_getElem?]
      exact ⟨j,by rw [List.getElem?_take_of_lt hlt];exact hx⟩
     clear hsl hx
     cases hK:(x.kind==1) with
     | false =>
      have HI:Hid (isR g x=false):=by
       show _=_
       have:=beq_eq_false_iff_ne.1 hK
       simp [isR,this]
      go_wp2_with fail
      go_quiet (fail)
      go_wp2_with fail
      go_roundg (gk-1)
      case measure=>omega
      case rel=>exact ⟨j+1,by omega,by omega,by go_num,HN.out.trans HI.out,HH2.out,zQ HB2.out _⟩
     | true =>
      cases hT:(x.text.toList==g.text.toList) with
      | false =>
       have HI:Hid (isR g x=false):=by
        show _=_
        simp only [isR,hT];simp
       go_wp2_with fail
       go_quiet (fail)
       go_wp2_with fail
       go_roundg (gk-1)
       case measure=>omega
       case rel=>exact ⟨j+1,by omega,by omega,by go_num,HN.out.trans HI.out,HH2.out,zQ HB2.out _⟩
      | true =>
       have HI:Hid ((l.take (m-1)).any (isR g)=true):=HY.out (by
        have:=beq_iff_eq.1 hK
        simp only [isR,hT,this];simp)
       go_wp2_with fail
       go_quiet (fail)
       go_wp2_with fail
       go_ret
       exact ⟨zQ HB2.out _,by rw [HMM.out,HI.out];rfl⟩
    ·have hji:j=m-1:=by omega
     have hd:¬ (j:Int)<(m:Int)-1:=by omega
     have HI:Hid ((l.take (m-1)).any (isR g)=false):=by show _=_;rw [<- hji];exact HF.out
     clear hji
     go_wp2_with fail
     go_ret
     exact ⟨HB2.out,by rw [HMM.out,HI.out];rfl⟩
def T.val (s:ByteArray):Nat->Int
 | 0=>0
 | n+1=>T.val s n*10+(T.ch s n-48)
def T.digs (s:ByteArray):Prop:=∀ i,i<s.size->48<=T.ch s i/\T.ch s i<=57
theorem T.val_bd {s:ByteArray} (h:T.digs s):∀ n,n<=s.size->0<=T.val s n/\T.val s n+1<=10 ^ n:=by
 intro n
 induction n with
 | zero=>intro _;exact ⟨Int.le_refl _,by simp [T.val]⟩
 | succ n ih =>
  intro hn
  have h1:=ih (by omega)
  have h2:=h n (by omega)
  have e:(10:Int) ^ (n+1)=10 ^ n*10:=Int.pow_succ _ _
  simp only [T.val]
  rw [e]
  exact ⟨by omega,by omega⟩
theorem Jq (s:ByteArray) (w:World) (hs:s.size<=2000) :
 Calls Tryz.prog 151 #[.string s] w fun e w'=>Below w.heap.size w w'/\∃ v,e=.returned (J Z v)/\(T.digs s->s.size<=9->v=T.val s s.size):=by
 go_enter Tryz.func151,Tryz.ntmps151
 go_wp2_with fail
 go_loopg [3,4] s.size (fun n x y wr=>∃ (j:Nat) (v:Int),n+j=s.size/\x=J Z v/\y=J Z j/\Hid (T.digs s->s.size<=9->v=T.val s j)/\Below w.heap.size w wr)
 case atStart=>exact ⟨0,0,by omega,rfl,rfl,fun _ _=>rfl,Below.refl _ _⟩
 case round =>
  obtain ⟨j,v,hn,rfl,rfl,HV,hb⟩:=hrel
  have HB:Hid (Below w.heap.size w wr):=hb
  clear hb
  by_cases hlt:j<s.size
  ·have hlt':(j:Int)<(s.size:Int):=by omega
   have hch:((s[j]).toNat:Int)=T.ch s j:=(T.ch_lt hlt).symm
   obtain ⟨cb0,cb1⟩:=T.ch_bd hlt
   go_wp2_with fail
   go_roundg (gk-1)
   case measure=>omega
   case rel=>exact ⟨j+1,_,by omega,rfl,by go_num,fun hd h9=>by
    have e:=HV.out hd h9
    have hb:=T.val_bd hd j (by omega)
    have hd2:=hd j hlt
    have hp:(10:Int) ^ j<=10 ^ 9:=by
     have h1:(10:Nat) ^ j<=10 ^ 9:=Nat.pow_le_pow_right (by omega) (by omega)
     exact_mod_cast h1
    have hp9:(10:Int) ^ 9=1000000000:=by decide
    subst e
    simp only [T.val]
    unfold wrap64
    omega,HB.out⟩
  ·have hje:j=s.size:=by omega
   have hd:decide ((j:Int)<(s.size:Int))=false:=decide_eq_false (by omega)
   go_wp2_with fail
   go_ret
   exact ⟨HB.out,v,rfl,fun h1 h2=>(HV.out h1 h2).trans (by rw [hje])⟩
def zP (k v:Int):Bool :=
 if k=4 then decide (64<=v) else if k=5 then (v==0 || decide (1000<v)) else if k=6 then (v==0 || decide (86400<v))
 else if k=7 then decide (99<v) else if k=8 then decide (16<=v) else false
def sgA (g:SG):Value:=.agg #[J Z g.kind,J Z g.place,J Z g.depth,J Z g.list,.string g.text]
theorem yW (g:SG) (w:World) (hs:g.text.size<=2000) :
 Calls Tryz.prog 138 #[sgA g] w fun e w'=>Below w.heap.size w w'/\∃ v,e=.returned (.bool (zP g.kind v))/\(T.digs g.text->g.text.size<=9->v=T.val g.text g.text.size):=by
 unfold sgA
 go_enter Tryz.func138,Tryz.ntmps138
 go_wp2_with fail
 refine (Jq g.text _ hs).mono ?_
 rintro e w1 ⟨hb1,v,rfl,hv⟩
 have hbb:Below w.heap.size w w1:=((Below.refl _ _).alloc (Nat.le_refl _) _).trans (hb1.mono (by simp))
 have b0:w1.cell? ⟨w.heap.size,0,none⟩=some (J Z g.kind):=(hb1.cell (p:=⟨w.heap.size,0,none⟩) (by simp)).trans (by simp)
 have HB:Hid (Below w.heap.size w w1):=hbb
 have HV:Hid (T.digs g.text->g.text.size<=9->v=T.val g.text g.text.size):=hv
 clear hbb hb1 hv
 cases k4:(g.kind==4) with
 | true =>
  have e4:g.kind=4:=by simpa using k4
  clear k4
  rw [e4] at b0
  have HW:Hid (zP g.kind v=decide (64<=v)):=by show _=_;rw [e4];rfl
  clear e4
  go_wp2_with fail
  go_ret
  exact ⟨HB.out,v,by rw [HW.out];rfl,HV.out⟩
 | false =>
  cases k5:(g.kind==5) with
  | true =>
   have e5:g.kind=5:=by simpa using k5
   clear k5 k4
   rw [e5] at b0
   have HW:Hid (zP g.kind v=(v==0 || decide (1000<v))):=by show _=_;rw [e5];rfl
   clear e5
   cases v0:(v==0) with
   | true =>
    have HW:Hid (zP g.kind v=true):=HW.out.trans (by rw [v0];rfl)
    go_wp2_with fail
    go_ret
    exact ⟨HB.out,v,by rw [HW.out];rfl,HV.out⟩
   | false =>
    have HW:Hid (zP g.kind v=decide (1000<v)):=HW.out.trans (by rw [v0];rfl)
    go_wp2_with fail
    go_ret
    exact ⟨HB.out,v,by rw [HW.out];rfl,HV.out⟩
  | false =>
   cases k6:(g.kind==6) with
   | true =>
    have e6:g.kind=6:=by simpa using k6
    clear k6 k4 k5
    rw [e6] at b0
    have HW:Hid (zP g.kind v=(v==0 || decide (86400<v))):=by show _=_;rw [e6];rfl
    clear e6
    cases v0:(v==0) with
    | true =>
     have HW:Hid (zP g.kind v=true):=HW.out.trans (by rw [v0];rfl)
     go_wp2_with fail
     go_ret
     exact ⟨HB.out,v,by rw [HW.out];rfl,HV.out⟩
    | false =>
     have HW:Hid (zP g.kind v=decide (86400<v)):=HW.out.trans (by rw [v0];rfl)
     go_wp2_with fail
     go_ret
     exact ⟨HB.out,v,by rw [HW.out];rfl,HV.out⟩
   | false =>
    cases k7:(g.kind==7) with
    | true =>
     have e7:g.kind=7:=by simpa using k7
     clear k7 k4 k5 k6
     rw [e7] at b0
     have HW:Hid (zP g.kind v=decide (99<v)):=by show _=_;rw [e7];rfl
     clear e7
     go_wp2_with fail
     go_ret
     exact ⟨HB.out,v,by rw [HW.out];rfl,HV.out⟩
    | false =>
     cases k8:(g.kind==8) with
     | true =>
      have e8:g.kind=8:=by simpa using k8
      clear k8 k4 k5 k6 k7
      rw [e8] at b0
      have HW:Hid (zP g.kind v=decide (16<=v)):=by show _=_;rw [e8];rfl
      clear e8
      go_wp2_with fail
      go_ret
      exact ⟨HB.out,v,by rw [HW.out];rfl,HV.out⟩
     | false =>
      have HW:Hid (zP g.kind v=false):=by
       show _=_
       simp only [beq_eq_false_iff_ne] at k4 k5 k6 k7 k8
       unfold zP;rw [if_neg k4,if_neg k5,if_neg k6,if_neg k7,if_neg k8]
      go_wp2_with fail
      go_ret
      exact ⟨HB.out,v,by rw [HW.out];rfl,HV.out⟩
def z5 (kd d:Int) (th:Bool) (n:Int) (sm wr:Bool):Int :=
 if kd=3/\12<=d then 3 else if 16<=n then 4 else if (kd=1/\th=true)\/(kd=2/\th=false) then 5 else if wr=true then 6 else if sm=true then 7 else 0
def qI (l:List SG) (i:Nat) (g:SG):Bool:=(l.take (Zg (l.take (i+1)).reverse-1)).any (isR g)
def XS (l:List SG) (i:Nat) (g:SG):Int:=if g.list=-1 then 0 else (Zq g (l.take i).reverse:Int)
def XE (l:List SG) (i:Nat) (g:SG):Bool:=if g.list=-1 then false else Zx g (l.take i).reverse
def J2 (l:List SG) (i:Nat) (g:SG) (v:Int):Int:=z5 g.kind g.depth (qI l i g) (XS l i g) (XE l i g) (zP g.kind v)
theorem J3 (b cap:Nat) (l:List SG) (i:Nat) (g:SG) (w:World) (h:SL w b l) (hl:l.length<=100000) (hg:l[i]?=some g) (hbw:b<w.heap.size) (hs:g.text.size<=2000) :
 Calls Tryz.prog 97 #[.slice (some ⟨b,0,none⟩) l.length cap,J Z i] w fun e w'=>Below w.heap.size w w'/\∃ v,e=.returned (J Z (J2 l i g v))/\(T.digs g.text->g.text.size<=9->v=T.val g.text g.text.size):=by
 obtain ⟨g0,g1,g2,g3,g4⟩:=h i g hg
 have hil:i<l.length:=(List.getElem?_eq_some_iff.1 hg).1
 have i0:(0:Int)<=(i:Int):=by omega
 have i1:(i:Int)<(l.length:Int):=by omega
 have HSL:Hid (SL w b l):=h
 have HG:Hid _:=hg
 clear h hg
 unfold J2
 generalize hth:qI l i g=th
 generalize hnn:XS l i g=n
 generalize hsm:XE l i g=sm
 have HTH:Hid _:=hth
 have HNN:Hid _:=hnn
 have HSM:Hid _:=hsm
 clear hth hnn hsm
 go_enter Tryz.func97,Tryz.ntmps97
 go_wp2_with fail
 have hSL1:SL (w.alloc (.cells #[J Z g.kind,J Z g.place,J Z g.depth,J Z g.list,.string g.text] 162)) b l:=HSL.out.of_block (Below.heap_alloc _ _ _ hbw)
 have hNM:=JR b cap l i g _ hSL1 hl HG.out
 rw [show (l.take (Zg (l.take (i+1)).reverse-1)).any (isR g)=th from HTH.out] at hNM
 refine hNM.mono ?_
 rintro e w1 ⟨hb1,rfl⟩
 have hsz1:w.heap.size<w1.heap.size:=Nat.lt_of_lt_of_le (by simp) hb1.size
 have hce:∀ j,w1.cell? ⟨w.heap.size,j,none⟩=(w.alloc (.cells #[J Z g.kind,J Z g.place,J Z g.depth,J Z g.list,.string g.text] 162)).cell? ⟨w.heap.size,j,none⟩:=fun j=>hb1.cell (p:=⟨w.heap.size,j,none⟩) (by simp)
 have b0:w1.cell? ⟨w.heap.size,0,none⟩=some (J Z g.kind):=(hce 0).trans (by simp)
 have b1:w1.cell? ⟨w.heap.size,1,none⟩=some (J Z g.place):=(hce 1).trans (by simp)
 have b2:w1.cell? ⟨w.heap.size,2,none⟩=some (J Z g.depth):=(hce 2).trans (by simp)
 have b3:w1.cell? ⟨w.heap.size,3,none⟩=some (J Z g.list):=(hce 3).trans (by simp)
 have b4:w1.cell? ⟨w.heap.size,4,none⟩=some (.string g.text):=(hce 4).trans (by simp)
 have HB1:Hid (Below w.heap.size w w1):=((Below.refl _ _).alloc (Nat.le_refl _) _).trans (hb1.mono (by simp))
 have HSL1:Hid (SL w1 b l):=hSL1.of_block (hb1.block _ (Nat.lt_of_lt_of_le hbw (by simp)))
 clear hNM hSL1 hce hb1 g0 g1 g2 g3 g4
 cases hl1:(g.list==-1) with
 | true =>
  have hle:g.list=-1:=by simpa using hl1
  have hl2:(g.list != -1)=false:=by simp [bne,hl1]
  have en:n=0:=by rw [<- HNN.out];unfold XS;rw [if_pos hle]
  have es:sm=false:=by rw [<- HSM.out];unfold XE;rw [if_pos hle]
  clear HNN HSM hle
  have HB:Hid _:=HB1.out
  have HSZ:Hid (w.heap.size<=w1.heap.size):=Nat.le_of_lt hsz1
  subst en
  subst es
  cases k3:(g.kind==3) with
  | true =>
   have e3:g.kind=3:=by simpa using k3
   have k1:(g.kind==1)=false:=by rw [e3];decide
   have k2:(g.kind==2)=false:=by rw [e3];decide
   by_cases hd:12<=g.depth
   ·have dd:decide (12<=g.depth)=true:=decide_eq_true hd
    have HW:Hid (∀ wr,z5 g.kind g.depth th 0 false wr=3):=fun wr=>by simp [z5,e3,hd]
    clear e3
    go_wp2_with fail
    go_ret
    exact ⟨HB.out,T.val g.text g.text.size,by rw [HW.out];rfl,fun _ _=>rfl⟩
   ·have dd:decide (12<=g.depth)=false:=decide_eq_false hd
    have HW:Hid (∀ wr,z5 g.kind g.depth th 0 false wr=if wr=true then 6 else 0):=fun wr=>by simp [z5,e3,hd]
    clear hd e3
    go_wp2_with fail
    refine (yW g _ hs).mono ?_
    rintro e w3 ⟨hb3,v,rfl,hv⟩
    have HB3:Hid (Below w.heap.size w w3):=HB.out.trans (hb3.mono HSZ.out)
    have HV3:Hid _:=hv
    clear hb3 hv
    cases hwr:zP g.kind v with
    | true =>
     have HE:Hid (z5 g.kind g.depth th 0 false (zP g.kind v)=6):=by show _=_;rw [HW.out,hwr];rfl
     go_wp2_with fail
     go_ret
     exact ⟨HB3.out,v,by rw [HE.out];rfl,HV3.out⟩
    | false =>
     have HE:Hid (z5 g.kind g.depth th 0 false (zP g.kind v)=0):=by show _=_;rw [HW.out,hwr];rfl
     go_wp2_with fail
     go_ret
     exact ⟨HB3.out,v,by rw [HE.out];rfl,HV3.out⟩
  | false =>
   have e3n:¬ g.kind=3:=beq_eq_false_iff_ne.1 k3
   cases k1:(g.kind==1) with
   | true =>
    have e1:g.kind=1:=by simpa using k1
    have k2:(g.kind==2)=false:=by rw [e1];decide
    cases th with
    | true =>
     have HW:Hid (∀ wr,z5 g.kind g.depth true 0 false wr=5):=fun wr=>by simp [z5,e1]
     clear e1 e3n
     go_wp2_with fail
     go_ret
     exact ⟨HB.out,T.val g.text g.text.size,by rw [HW.out];rfl,fun _ _=>rfl⟩
    | false =>
     have HW:Hid (∀ wr,z5 g.kind g.depth false 0 false wr=if wr=true then 6 else 0):=fun wr=>by simp [z5,e1]
     clear e1 e3n
     go_wp2_with fail
     refine (yW g _ hs).mono ?_
     rintro e w3 ⟨hb3,v,rfl,hv⟩
     have HB3:Hid (Below w.heap.size w w3):=HB.out.trans (hb3.mono HSZ.out)
     have HV3:Hid _:=hv
     clear hb3 hv
     cases hwr:zP g.kind v with
     | true =>
      have HE:Hid (z5 g.kind g.depth false 0 false (zP g.kind v)=6):=by show _=_;rw [HW.out,hwr];rfl
      go_wp2_with fail
      go_ret
      exact ⟨HB3.out,v,by rw [HE.out];rfl,HV3.out⟩
     | false =>
      have HE:Hid (z5 g.kind g.depth false 0 false (zP g.kind v)=0):=by show _=_;rw [HW.out,hwr];rfl
      go_wp2_with fail
      go_ret
      exact ⟨HB3.out,v,by rw [HE.out];rfl,HV3.out⟩
   | false =>
    have e1n:¬ g.kind=1:=beq_eq_false_iff_ne.1 k1
    cases k2:(g.kind==2) with
    | true =>
     have e2:g.kind=2:=by simpa using k2
     cases th with
     | true =>
      have HW:Hid (∀ wr,z5 g.kind g.depth true 0 false wr=if wr=true then 6 else 0):=fun wr=>by simp [z5,e2]
      clear e2 e1n e3n
      go_wp2_with fail
      refine (yW g _ hs).mono ?_
      rintro e w3 ⟨hb3,v,rfl,hv⟩
      have HB3:Hid (Below w.heap.size w w3):=HB.out.trans (hb3.mono HSZ.out)
      have HV3:Hid _:=hv
      clear hb3 hv
      cases hwr:zP g.kind v with
      | true =>
       have HE:Hid (z5 g.kind g.depth true 0 false (zP g.kind v)=6):=by show _=_;rw [HW.out,hwr];rfl
       go_wp2_with fail
       go_ret
       exact ⟨HB3.out,v,by rw [HE.out];rfl,HV3.out⟩
      | false =>
       have HE:Hid (z5 g.kind g.depth true 0 false (zP g.kind v)=0):=by show _=_;rw [HW.out,hwr];rfl
       go_wp2_with fail
       go_ret
       exact ⟨HB3.out,v,by rw [HE.out];rfl,HV3.out⟩
     | false =>
      have HW:Hid (∀ wr,z5 g.kind g.depth false 0 false wr=5):=fun wr=>by simp [z5,e2]
      clear e2 e1n e3n
      go_wp2_with fail
      go_ret
      exact ⟨HB.out,T.val g.text g.text.size,by rw [HW.out];rfl,fun _ _=>rfl⟩
    | false =>
     have e2n:¬ g.kind=2:=beq_eq_false_iff_ne.1 k2
     have HW:Hid (∀ wr,z5 g.kind g.depth th 0 false wr=if wr=true then 6 else 0):=fun wr=>by simp [z5,e1n,e2n,e3n]
     clear e1n e2n e3n
     go_wp2_with fail
     refine (yW g _ hs).mono ?_
     rintro e w3 ⟨hb3,v,rfl,hv⟩
     have HB3:Hid (Below w.heap.size w w3):=HB.out.trans (hb3.mono HSZ.out)
     have HV3:Hid _:=hv
     clear hb3 hv
     cases hwr:zP g.kind v with
     | true =>
      have HE:Hid (z5 g.kind g.depth th 0 false (zP g.kind v)=6):=by show _=_;rw [HW.out,hwr];rfl
      go_wp2_with fail
      go_ret
      exact ⟨HB3.out,v,by rw [HE.out];rfl,HV3.out⟩
     | false =>
      have HE:Hid (z5 g.kind g.depth th 0 false (zP g.kind v)=0):=by show _=_;rw [HW.out,hwr];rfl
      go_wp2_with fail
      go_ret
      exact ⟨HB3.out,v,by rw [HE.out];rfl,HV3.out⟩
 | false =>
  have hle:¬ g.list=-1:=beq_eq_false_iff_ne.1 hl1
  have hl2:(g.list != -1)=true:=by simp [bne,hl1]
  have en:((Zq g (l.take i).reverse:Nat):Int)=n:=by rw [<- HNN.out];unfold XS;rw [if_neg hle]
  have es:Zx g (l.take i).reverse=sm:=by rw [<- HSM.out];unfold XE;rw [if_neg hle]
  go_wp2_with fail
  have hBF:=jP b cap l i g _ HSL1.out hl HG.out
  rw [en,es] at hBF
  refine hBF.mono ?_
  rintro e w2 ⟨hb2,rfl⟩
  have hce:∀ j,w2.cell? ⟨w.heap.size,j,none⟩=w1.cell? ⟨w.heap.size,j,none⟩:=fun j=>hb2.cell (p:=⟨w.heap.size,j,none⟩) hsz1
  have b0:w2.cell? ⟨w.heap.size,0,none⟩=some (J Z g.kind):=(hce 0).trans b0
  have b1:w2.cell? ⟨w.heap.size,1,none⟩=some (J Z g.place):=(hce 1).trans b1
  have b2:w2.cell? ⟨w.heap.size,2,none⟩=some (J Z g.depth):=(hce 2).trans b2
  have b3:w2.cell? ⟨w.heap.size,3,none⟩=some (J Z g.list):=(hce 3).trans b3
  have b4:w2.cell? ⟨w.heap.size,4,none⟩=some (.string g.text):=(hce 4).trans b4
  have HB:Hid (Below w.heap.size w w2):=HB1.out.trans (hb2.mono (Nat.le_of_lt hsz1))
  have HSZ:Hid (w.heap.size<=w2.heap.size):=Nat.le_trans (Nat.le_of_lt hsz1) hb2.size
  clear hBF hce hb2 HNN HSM hle en es
  cases k3:(g.kind==3) with
  | true =>
   have e3:g.kind=3:=by simpa using k3
   have k1:(g.kind==1)=false:=by rw [e3];decide
   have k2:(g.kind==2)=false:=by rw [e3];decide
   by_cases hd:12<=g.depth
   ·have dd:decide (12<=g.depth)=true:=decide_eq_true hd
    have HW:Hid (∀ wr,z5 g.kind g.depth th n sm wr=3):=fun wr=>by simp [z5,e3,hd]
    clear e3
    go_wp2_with fail
    go_ret
    exact ⟨HB.out,T.val g.text g.text.size,by rw [HW.out];rfl,fun _ _=>rfl⟩
   ·have dd:decide (12<=g.depth)=false:=decide_eq_false hd
    by_cases hn:16<=n
    ·have dn:decide (16<=n)=true:=decide_eq_true hn
     have HW:Hid (∀ wr,z5 g.kind g.depth th n sm wr=4):=fun wr=>by simp [z5,e3,hd,hn]
     go_wp2_with fail
     go_ret
     exact ⟨HB.out,T.val g.text g.text.size,by rw [HW.out];rfl,fun _ _=>rfl⟩
    ·have dn:decide (16<=n)=false:=decide_eq_false hn
     have HW:Hid (∀ wr,z5 g.kind g.depth th n sm wr=if wr=true then 6 else if sm=true then 7 else 0):=fun wr=>by simp [z5,e3,hd,hn]
     clear hn hd e3
     go_wp2_with fail
     refine (yW g _ hs).mono ?_
     rintro e w3 ⟨hb3,v,rfl,hv⟩
     have HB3:Hid (Below w.heap.size w w3):=HB.out.trans (hb3.mono HSZ.out)
     have HV3:Hid _:=hv
     clear hb3 hv
     cases hwr:zP g.kind v with
     | true =>
      have HE:Hid (z5 g.kind g.depth th n sm (zP g.kind v)=6):=by show _=_;rw [HW.out,hwr];rfl
      go_wp2_with fail
      go_ret
      exact ⟨HB3.out,v,by rw [HE.out];rfl,HV3.out⟩
     | false =>
      cases sm with
      | true =>
       have HE:Hid (z5 g.kind g.depth th n true (zP g.kind v)=7):=by show _=_;rw [HW.out,hwr];rfl
       go_wp2_with fail
       go_ret
       exact ⟨HB3.out,v,by rw [HE.out];rfl,HV3.out⟩
      | false =>
       have HE:Hid (z5 g.kind g.depth th n false (zP g.kind v)=0):=by show _=_;rw [HW.out,hwr];rfl
       go_wp2_with fail
       go_ret
       exact ⟨HB3.out,v,by rw [HE.out];rfl,HV3.out⟩
  | false =>
   have e3n:¬ g.kind=3:=beq_eq_false_iff_ne.1 k3
   by_cases hn:16<=n
   ·have dn:decide (16<=n)=true:=decide_eq_true hn
    have HW:Hid (∀ wr,z5 g.kind g.depth th n sm wr=4):=fun wr=>by simp [z5,e3n,hn]
    go_wp2_with fail
    go_ret
    exact ⟨HB.out,T.val g.text g.text.size,by rw [HW.out];rfl,fun _ _=>rfl⟩
   ·have dn:decide (16<=n)=false:=decide_eq_false hn
    cases k1:(g.kind==1) with
    | true =>
     have e1:g.kind=1:=by simpa using k1
     have k2:(g.kind==2)=false:=by rw [e1];decide
     cases th with
     | true =>
      have HW:Hid (∀ wr,z5 g.kind g.depth true n sm wr=5):=fun wr=>by simp [z5,hn,e1]
      clear hn e1 e3n
      go_wp2_with fail
      go_ret
      exact ⟨HB.out,T.val g.text g.text.size,by rw [HW.out];rfl,fun _ _=>rfl⟩
     | false =>
      have HW:Hid (∀ wr,z5 g.kind g.depth false n sm wr=if wr=true then 6 else if sm=true then 7 else 0):=fun wr=>by simp [z5,hn,e1]
      clear hn e1 e3n
      go_wp2_with fail
      refine (yW g _ hs).mono ?_
      rintro e w3 ⟨hb3,v,rfl,hv⟩
      have HB3:Hid (Below w.heap.size w w3):=HB.out.trans (hb3.mono HSZ.out)
      have HV3:Hid _:=hv
      clear hb3 hv
      cases hwr:zP g.kind v with
      | true =>
       have HE:Hid (z5 g.kind g.depth false n sm (zP g.kind v)=6):=by show _=_;rw [HW.out,hwr];rfl
       go_wp2_with fail
       go_ret
       exact ⟨HB3.out,v,by rw [HE.out];rfl,HV3.out⟩
      | false =>
       cases sm with
       | true =>
        have HE:Hid (z5 g.kind g.depth false n true (zP g.kind v)=7):=by show _=_;rw [HW.out,hwr];rfl
        go_wp2_with fail
        go_ret
        exact ⟨HB3.out,v,by rw [HE.out];rfl,HV3.out⟩
       | false =>
        have HE:Hid (z5 g.kind g.depth false n false (zP g.kind v)=0):=by show _=_;rw [HW.out,hwr];rfl
        go_wp2_with fail
        go_ret
        exact ⟨HB3.out,v,by rw [HE.out];rfl,HV3.out⟩
    | false =>
     have e1n:¬ g.kind=1:=beq_eq_false_iff_ne.1 k1
     cases k2:(g.kind==2) with
     | true =>
      have e2:g.kind=2:=by simpa using k2
      cases th with
      | true =>
       have HW:Hid (∀ wr,z5 g.kind g.depth true n sm wr=if wr=true then 6 else if sm=true then 7 else 0):=fun wr=>by simp [z5,hn,e2]
       clear hn e2 e1n e3n
       go_wp2_with fail
       refine (yW g _ hs).mono ?_
       rintro e w3 ⟨hb3,v,rfl,hv⟩
       have HB3:Hid (Below w.heap.size w w3):=HB.out.trans (hb3.mono HSZ.out)
       have HV3:Hid _:=hv
       clear hb3 hv
       cases hwr:zP g.kind v with
       | true =>
        have HE:Hid (z5 g.kind g.depth true n sm (zP g.kind v)=6):=by show _=_;rw [HW.out,hwr];rfl
        go_wp2_with fail
        go_ret
        exact ⟨HB3.out,v,by rw [HE.out];rfl,HV3.out⟩
       | false =>
        cases sm with
        | true =>
         have HE:Hid (z5 g.kind g.depth true n true (zP g.kind v)=7):=by show _=_;rw [HW.out,hwr];rfl
         go_wp2_with fail
         go_ret
         exact ⟨HB3.out,v,by rw [HE.out];rfl,HV3.out⟩
        | false =>
         have HE:Hid (z5 g.kind g.depth true n false (zP g.kind v)=0):=by show _=_;rw [HW.out,hwr];rfl
         go_wp2_with fail
         go_ret
         exact ⟨HB3.out,v,by rw [HE.out];rfl,HV3.out⟩
      | false =>
       have HW:Hid (∀ wr,z5 g.kind g.depth false n sm wr=5):=fun wr=>by simp [z5,hn,e2]
       clear hn e2 e1n e3n
       go_wp2_with fail
       go_ret
       exact ⟨HB.out,T.val g.text g.text.size,by rw [HW.out];rfl,fun _ _=>rfl⟩
     | false =>
      have e2n:¬ g.kind=2:=beq_eq_false_iff_ne.1 k2
      have HW:Hid (∀ wr,z5 g.kind g.depth th n sm wr=if wr=true then 6 else if sm=true then 7 else 0):=fun wr=>by simp [z5,hn,e1n,e2n,e3n]
      clear hn e1n e2n e3n
      go_wp2_with fail
      refine (yW g _ hs).mono ?_
      rintro e w3 ⟨hb3,v,rfl,hv⟩
      have HB3:Hid (Below w.heap.size w w3):=HB.out.trans (hb3.mono HSZ.out)
      have HV3:Hid _:=hv
      clear hb3 hv
      cases hwr:zP g.kind v with
      | true =>
       have HE:Hid (z5 g.kind g.depth th n sm (zP g.kind v)=6):=by show _=_;rw [HW.out,hwr];rfl
       go_wp2_with fail
       go_ret
       exact ⟨HB3.out,v,by rw [HE.out];rfl,HV3.out⟩
      | false =>
       cases sm with
       | true =>
        have HE:Hid (z5 g.kind g.depth th n true (zP g.kind v)=7):=by show _=_;rw [HW.out,hwr];rfl
        go_wp2_with fail
        go_ret
        exact ⟨HB3.out,v,by rw [HE.out];rfl,HV3.out⟩
       | false =>
        have HE:Hid (z5 g.kind g.depth th n false (zP g.kind v)=0):=by show _=_;rw [HW.out,hwr];rfl
        go_wp2_with fail
        go_ret
        exact ⟨HB3.out,v,by rw [HE.out];rfl,HV3.out⟩
theorem T.ch_extract (s:ByteArray) (p e i:Nat) (he:e<=s.size) (hi:i<e-p):T.ch (s.extract p e) i=T.ch s (p+i):=by
 have h1:i<(s.extract p e).size:=by rw [ByteArray.size_extract];omega
 have h2:p+i<s.size:=by omega
 rw [T.ch_lt h1,T.ch_lt h2]
 rw [ByteArray.getElem_extract]
theorem T.size_extract (s:ByteArray) (p e:Nat) (he:e<=s.size):(s.extract p e).size=e-p:=by rw [ByteArray.size_extract];omega
theorem T.dgF_all (s:ByteArray) (most lim:Int) (plain:Bool) (p:Nat):∀ n j,p<=j->((j:Int)-p<=most)->(∀ i,p<=i->i<j->T.dig (T.ch s i)=true)->0<=most ->
 (((T.dgF s most lim plain p n j).2:Int)-p<=most)/\(∀ i,p<=i->i<(T.dgF s most lim plain p n j).2->T.dig (T.ch s i)=true):=by
 intro n
 induction n with
 | zero=>intro j _ h2 h3 _;exact ⟨h2,h3⟩
 | succ n ih =>
  intro j h1 h2 h3 h4
  cases hd:T.dig (T.ch s j) with
  | false=>rw [T.dgF_end hd];exact ⟨h2,h3⟩
  | true =>
   cases hs:T.stp most lim plain (T.ch s j) ((j:Int)-p) (T.ch s p) with
   | true=>rw [T.dgF_stop hd hs];exact ⟨h2,h3⟩
   | false =>
    rw [T.dgF_next hd hs]
    simp only [T.stp,Bool.or_eq_false_iff,beq_eq_false_iff_ne] at hs
    refine ih (j+1) (by omega) (by omega) (fun i hi1 hi2=>?_) h4
    by_cases hij:i=j
    ·rw [hij];exact hd
    ·exact h3 i hi1 (by omega)
theorem T.dg_all (s:ByteArray) (most lim:Int) (plain:Bool) (p:Nat) (hp:p<=s.size) (hm:0<=most):T.digs (s.extract p (T.dg s most lim plain p).2)/\(((s.extract p (T.dg s most lim plain p).2).size:Int)<=most):=by
 have hb:=T.dg_bd s most lim plain p hp
 have h:=T.dgF_all s most lim plain p (s.size-p+1) p (Nat.le_refl _) (by omega) (fun i h1 h2=>by omega) hm
 have e:T.dgF s most lim plain p (s.size-p+1) p=T.dg s most lim plain p:=rfl
 rw [e] at h
 generalize (T.dg s most lim plain p).2=z at *
 constructor
 ·intro i hi
  rw [T.size_extract _ _ _ hb.2] at hi
  rw [T.ch_extract _ _ _ _ hb.2 hi]
  have:=h.2 (p+i) (by omega) (by omega)
  simp only [T.dig,Bool.and_eq_true,decide_eq_true_eq] at this
  exact this
 ·rw [T.size_extract _ _ _ hb.2];omega
def FI (f:FR):Prop:=(f.sym=262->f.kind=9)/\(f.sym=263->f.kind=1\/f.kind=2)
def SI (g:SG):Prop:=g.text.size<=2000/\((g.kind=1\/g.kind=2\/g.kind=3\/g.kind=9)\/(T.digs g.text/\g.text.size<=9))
theorem zbx (d:Int) (p:Nat) (c:Int) (l:List FR) (h:ZT d p c=some l):∀ f∈l,FI f:=by
 unfold ZT at h
 repeat' split at h
 all_goals first
  | (simp at h;done)
  | (injection h with h;subst h;simp [byF,FI])
theorem zbl (f:FR):∀ g∈Zh f,FI g:=by
 unfold Zh
 repeat' split
 all_goals (simp [byF,FI])
def RI (r:Res):Prop:=(∀ g∈r.push,FI g)/\(∀ g∈r.sg,SI g)
theorem zaM (s:ByteArray) (k:Nat) (f:FR) (hk:k<=s.size) (hf:FI f):RI (zl s k f):=by
 have h2:=T.sk_le hk
 unfold zl
 generalize T.sk s k=p at *
 simp only
 split
 ·simp [RI,byF,FI]
 ·split
  ·split<;>simp [RI,byF,FI]
  ·split
   ·split
    ·next l hl =>
     refine ⟨zbx _ _ _ _ hl,?_⟩
     intro g hg
     simp only [List.mem_singleton] at hg
     subst hg
     exact ⟨by simp,.inl (by simp)⟩
    ·simp [RI]
   ·split
    ·exact ⟨zbl f,by simp⟩
    ·split
     ·next e4 =>
      split
      ·refine ⟨?_,by simp⟩
       intro g hg
       simp only [List.mem_cons,List.not_mem_nil,or_false] at hg
       rcases hg with rfl | rfl | rfl
       ·simp [byF,FI]
       ·simp [FI]
       ·exact hf
      ·simp [RI]
     ·split
      ·have:=T.dg_all s 9 58 true p h2 (by omega)
       split
       ·refine ⟨by simp,?_⟩
        intro g hg
        simp only [List.mem_singleton] at hg
        subst hg
        exact ⟨by have:=this.2;simp only;omega,.inr ⟨this.1,by have:=this.2;simp only;omega⟩⟩
       ·simp [RI]
      ·split
       ·next e6 =>
        have:=T.dg_all s 32 50 false p h2 (by omega)
        split
        ·refine ⟨by simp,?_⟩
         intro g hg
         simp only [List.mem_singleton] at hg
         subst hg
         exact ⟨by have:=this.2;simp only;omega,.inl (.inr (.inr (.inr (hf.1 e6))))⟩
        ·simp [RI]
       ·split
        ·next e7 =>
         split
         ·next hc =>
          have:=T.ch_nn (s:=s) (k:=p) (by omega)
          refine ⟨by simp,?_⟩
          intro g hg
          simp only [List.mem_singleton] at hg
          subst hg
          refine ⟨by simp only;rw [T.size_extract _ _ _ (by omega)];omega,.inl ?_⟩
          rcases hf.2 e7 with h | h
          ·exact .inl h
          ·exact .inr (.inl h)
         ·simp [RI]
        ·split<;>simp [RI]
theorem zda (s:ByteArray) (one:Nat->FR->Option PR) (h1:∀ k f q,k<=s.size->0<=f.sym->0<=f.depth->FI f->one k f=some q->q.at_<=s.size/\q.sg.length<=q.n/\∀ g∈q.sg,SI g) :
 ∀ (l:List FR) (k:Nat) (q:PR),k<=s.size->(∀ f∈l,0<=f.sym/\0<=f.depth/\FI f)->pL one k l=some q->q.at_<=s.size/\q.sg.length<=q.n/\∀ g∈q.sg,SI g:=by
 intro l
 induction l with
 | nil =>
  intro k q hk _ h
  simp only [pL] at h
  injection h with h
  subst h
  exact ⟨hk,by simp,by simp⟩
 | cons f r ih =>
  intro k q hk hl h
  simp only [pL] at h
  have hf:=hl f (by simp)
  split at h
  ·simp at h
  ·next a ha =>
   have hA:=h1 k f a hk hf.1 hf.2.1 hf.2.2 ha
   split at h
   ·split at h
    ·simp at h
    ·next b hb =>
     injection h with h
     subst h
     have hB:=ih a.at_ b hA.1 (fun g hg=>hl g (by simp [hg])) hb
     refine ⟨hB.1,by simp only [List.length_append];omega,?_⟩
     intro g hg
     rcases List.mem_append.1 hg with hg | hg
     ·exact hB.2.2 g hg
     ·exact hA.2.2 g hg
   ·injection h with h
    subst h
    exact hA
theorem zdS (s:ByteArray):∀ (n k:Nat) (f:FR) (q:PR),k<=s.size->0<=f.sym->0<=f.depth->FI f->pF s n k f=some q->q.at_<=s.size/\q.sg.length<=q.n/\∀ g∈q.sg,SI g:=by
 intro n
 induction n with
 | zero=>intro k f q _ _ _ _ h;simp [pF] at h
 | succ n ih =>
  intro k f q hk h0 hd hf h
  have hS:=xm s k f hk h0 hd
  have hI:=zaM s k f hk hf
  simp only [pF] at h
  split at h
  ·split at h
   ·simp at h
   ·next b hb =>
    injection h with h
    subst h
    have hB:=zda s (pF s n) ih (zl s k f).push (zl s k f).at_ b hS.hi (fun g hg=>by
     rcases hS.fst with hp | ⟨f0,r,hp,_,_,hall⟩
     ·rw [hp] at hg;simp at hg
     ·have:=hall g hg;exact ⟨this.1,this.2.1,hI.1 g hg⟩) hb
    refine ⟨hB.1,by have:=hS.sg;simp only [List.length_append];omega,?_⟩
    intro g hg
    rcases List.mem_append.1 hg with hg | hg
    ·exact hB.2.2 g hg
    ·exact hI.2 g hg
  ·injection h with h
   subst h
   exact ⟨hS.hi,by simp,by simp⟩
theorem zcr (s:ByteArray) (hs:s.size<=2000):(rd s).2.1<=s.size/\(rd s).2.2.length<=40000/\(∀ g∈(rd s).2.2,SI g)/\∃ M R,M<=40000/\Y2 s M 0 [⟨256,0,0,0⟩,⟨257,0,0,0⟩] []=some R/\rd s=rdE s R:=by
 obtain ⟨q,hq,h1,h2,h3⟩:=Qy s
 have hI:=zda s _ (zdS s _) _ _ _ (Nat.zero_le _) (by simp [FI]) hq
 have e:rd s=rdE s (q.ok,q.at_,if q.ok=true then q.sg else []):=by unfold rd;rw [hq]
 have hk:=T.sk_le h1
 refine ⟨?_,?_,?_,q.n,_,by omega,h3,e⟩
 ·rw [e];unfold rdE;simp only
  split
  ·split
   ·exact hk
   ·exact hk
  ·exact h1
 ·rw [e];unfold rdE;simp only
  split
  ·split
   ·simp
   ·show q.sg.length<=40000;omega
  ·simp
 ·rw [e];unfold rdE;simp only
  split
  ·split
   ·simp
   ·exact hI.2.2
  ·simp
theorem zaO (l:List SG):sgC l=l.reverse.flatMap sgV:=by
 induction l with
 | nil=>rfl
 | cons g r ih=>simp only [sgC,ih,List.reverse_cons,List.flatMap_append];simp
theorem zck (ls:List SG):∀ (i:Nat) (f:SG) (j:Nat),ls[i]?=some f->j<5->(ls.flatMap sgV)[i*5+j]?=(sgV f)[j]?:=by
 induction ls with
 | nil=>intro i f j h;simp at h
 | cons g r ih =>
  intro i f j h hj
  simp only [List.flatMap_cons]
  cases i with
  | zero =>
   simp at h
   subst h
   rw [Nat.zero_mul,Nat.zero_add,List.getElem?_append_left (by simp [sgV];omega)]
  | succ i =>
   simp at h
   have:=ih i f j h hj
   rw [List.getElem?_append_right (by simp [sgV];omega)]
   have e:(i+1)*5+j-(sgV g).length=i*5+j:=by simp [sgV];omega
   rw [e];exact this
theorem SL.of_row {w:World} {base b cap:Nat} {gs:List SG} (h:w.ownsRow base 162 5 (.slice (some ⟨b,0,none⟩) gs.length cap) gs.length (sgC gs)):SL w b gs.reverse:=by
 intro i g hg
 have hi:i<gs.length:=by have:=(List.getElem?_eq_some_iff.1 hg).1;simpa using this
 have hc:∀ j,j<5->w.cell? ⟨b,i*5+j,none⟩=(sgV g)[j]?:=fun j hj=>by
  rw [World.ownsRow.cellAt h (i*5+j) (by omega),zaO]
  exact zck _ i g j hg hj
 exact ⟨hc 0 (by omega),hc 1 (by omega),hc 2 (by omega),hc 3 (by omega),hc 4 (by omega)⟩
end Go.Proofs.YtaebngpoagjafabGreat
