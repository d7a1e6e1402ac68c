import Derived.Test.YtaebngpoagjafaaGreatR19
set_option maxRecDepth 100000
set_option maxHeartbeats 800000
namespace Go.Proofs.YtaebngpoagjafaaGreat
open Go.RowKit
attribute [local go_sem ↓] Go.wp_at_zero Go.wp_at_succ
def flt (l:List SG) (i:Nat) (g:SG):Int:=za2 l i g (T.val g.text g.text.size)
theorem zeO (l:List SG) (i:Nat) (g:SG) (v:Int) (h:SI g) (hv:T.digs g.text->g.text.size<=9->v=T.val g.text g.text.size):za2 l i g v=flt l i g:=by
 rcases h.2 with h | ⟨h1,h2⟩
 ·have e:∀ v,zQ g.kind v=false:=fun v=>by
   rcases h with h | h | h | h<;>simp [zQ,h]
  unfold flt za2
  rw [e,e]
 ·unfold flt;rw [hv h1 h2]
def Xs (l:List SG):Nat->Nat->Int×Int
 | 0,_=>(0,0)
 | n+1,i=>match l[i]? with
  | none=>(0,0)
  | some g=>if flt l i g=0 then Xs l n (i+1) else (flt l i g,g.place)
def chk (s:ByteArray):Int×Int :=
 if 2000<s.size then (1,0) else if (rd s).1=true then Xs (rd s).2.2.reverse (rd s).2.2.length 0 else (2,(rd s).2.1)
theorem QJ (s:ByteArray) (w:World) :
 Calls Tryz.prog 53 #[.string s] w fun e w'=>Below w.heap.size w w'/\e=.returned (.tuple #[.int .i64 (chk s).1,.int .i64 (chk s).2]):=by
 by_cases hs:2000<s.size
 ·have HC:Hid (chk s=(1,0)):=by show _=_;unfold chk;rw [if_pos hs]
  have hs':(2000:Int)<(s.size:Int):=by omega
  go_enter Tryz.func53,Tryz.ntmps53
  go_wp2_with fail
  go_ret2
  exact ⟨Below.refl _ _,by rw [HC.out];rfl⟩
 have hs':¬ (2000:Int)<(s.size:Int):=by omega
 have hs2:s.size<=2000:=by omega
 obtain ⟨r1,r2,r3,M,R,hM,hR,he⟩:=zdx s hs2
 have hrd:=fun wz=>zbT s wz hs2 M R hM hR
 rw [<- he] at hrd
 have HC:Hid (chk s=if (rd s).1=true then Xs (rd s).2.2.reverse (rd s).2.2.length 0 else (2,(rd s).2.1)):=by show _=_;unfold chk;rw [if_neg hs]
 have HRD:Hid _:=hrd
 clear he hR hrd hs
 generalize rd s=D at *
 obtain ⟨ok,at_,gs⟩:=D
 simp only at r1 r2 r3
 have HC1:Hid _:=HC.out
 clear HC
 have HR3:Hid _:=r3
 clear r3
 go_enter Tryz.func53,Tryz.ntmps53
 go_wp2_with fail
 refine (HRD.out _).mono ?_
 rintro e w1 ⟨hb1,v,(⟨hok,he,hrow⟩ | ⟨hok,he⟩)⟩
 ·simp only at hok hrow
  subst hok
  subst he
  have HC2:Hid (chk s=Xs gs.reverse gs.length 0):=by show _=_;rw [HC1.out];rfl
  clear HC1 HRD
  have HB1:Hid _:=hb1
  rcases Nat.eq_zero_or_pos gs.length with h0 | h0
  ·have hv:∃ o cap,v=.slice o 0 cap:=by
    rcases hrow.2 with ⟨rfl,_⟩ | ⟨g,cap,cur,rfl,_⟩
    ·exact ⟨none,0,rfl⟩
    ·exact ⟨_,cap,by rw [h0]⟩
   obtain ⟨o,cap,rfl⟩:=hv
   have HC:Hid (chk s=(0,0)):=by show _=_;rw [HC2.out,h0];rfl
   clear HC2
   clear hrow hb1
   go_wp2_with fail
   go_loopg [6] 1 (fun n x wr=>x=.int .i64 0/\wr=w1)
   case atStart=>exact ⟨rfl,rfl⟩
   case round =>
    obtain ⟨rfl,rfl⟩:=hrel
    go_wp2_with fail
    go_ret2
    exact ⟨HB1.out,by rw [HC.out];rfl⟩
  ·have hv:∃ b cap,v=.slice (some ⟨b,0,none⟩) gs.length cap:=by
    rcases hrow.2 with ⟨_,h1⟩ | ⟨g,cap,cur,rfl,_⟩
    ·omega
    ·exact ⟨g,cap,rfl⟩
   obtain ⟨b,cap,rfl⟩:=hv
   have hbw:b<w1.heap.size:=(hrow.lt b rfl).2
   have HSL:Hid (SL w1 b gs.reverse):=SL.of_row hrow
   have hL:gs.reverse.length=gs.length:=List.length_reverse
   have HSI:Hid (∀ g∈gs.reverse,SI g):=fun g hg=>HR3.out g (List.mem_reverse.1 hg)
   clear hrow hb1 HR3
   generalize gs.reverse=L at *
   have hlen:gs.length=L.length:=hL.symm
   clear hL
   rw [hlen] at r2 HC2 ⊢
   have HC:Hid _:=HC2.out
   clear hlen HC2
   go_wp2_with fail
   go_loopg [6] L.length (fun n x wr=>∃ j:Nat,n+j=L.length/\x=.int .i64 j/\Hid (Xs L n j=Xs L L.length 0)/\Below w1.heap.size w1 wr)
   case atStart=>exact ⟨0,by omega,rfl,rfl,Below.refl _ _⟩
   case round =>
    obtain ⟨j,hn,rfl,HF,hb⟩:=hrel
    have HB2:Hid _:=hb
    have hsl:SL wr b L:=HSL.out.of_block (hb.block _ hbw)
    have hbr:b<wr.heap.size:=Nat.lt_of_lt_of_le hbw hb.size
    have j0:(0:Int)<=(j:Int):=by omega
    clear hb
    by_cases hlt:j<L.length
    ·have hlt':(j:Int)<(L.length:Int):=by omega
     obtain ⟨g,hg⟩:∃ g,L[j]?=some g:=⟨L[j]'hlt,List.getElem?_eq_getElem hlt⟩
     have hSI:SI g:=HSI.out g (List.mem_iff_getElem?.2 ⟨j,hg⟩)
     have hX:=fun (wz:World) (h1:SL wz b L) (h2:b<wz.heap.size)=>za5 b cap L j g wz h1 (by omega) hg h2 hSI.1
     obtain ⟨m,rfl⟩:∃ m,gk=m+1:=⟨gk-1,by omega⟩
     have HF2:Hid (Xs L (m+1) j=if flt L j g=0 then Xs L m (j+1) else (flt L j g,g.place)):=by
      show _=_
      simp only [Xs,hg]
     have HX:Hid _:=hX
     have HSL2:Hid (SL wr b L):=hsl
     have HG:Hid _:=hg
     have HS:Hid _:=hSI
     clear hX hsl hg hSI
     go_wp2_with fail
     refine (HX.out _ HSL2.out hbr).mono ?_
     rintro e w3 ⟨hb3,v,rfl,hv⟩
     rw [zeO L j g v HS.out hv]
     have hsl3:SL w3 b L:=HSL2.out.of_block (hb3.block _ hbr)
     obtain ⟨g0,g1,g2,g3,g4⟩:=hsl3 j g HG.out
     have HB3:Hid _:=HB2.out.trans (hb3.mono HB2.out.size)
     clear hb3 hv hsl3 g0 g2 g3 g4
     generalize flt L j g=z at *
     cases hz:(z==0) with
     | true =>
      have hz0:z=0:=by simpa using hz
      have HE:Hid (Xs L m (j+1)=Xs L L.length 0):=by
       show _=_
       rw [<- HF.out,HF2.out,if_pos hz0]
      clear hz0
      have hz2:(z != 0)=false:=by simp [bne,hz]
      go_wp2_with fail
      go_roundg m
      case measure=>omega
      case rel=>exact ⟨j+1,by omega,by go_num,HE.out,HB3.out⟩
     | false =>
      have hz0:¬ z=0:=beq_eq_false_iff_ne.1 hz
      have HE:Hid (chk s=(z,g.place)):=by
       show _=_
       rw [HC.out,<- HF.out,HF2.out,if_neg hz0]
      clear hz0
      have hz2:(z != 0)=true:=by simp [bne,hz]
      go_wp2_with fail
      go_quiet (fail)
      go_wp2_with fail
      go_ret2
      exact ⟨zR (HB1.out.trans (HB3.out.mono HB1.out.size)) _,by rw [HE.out];rfl⟩
    ·have hd:decide ((j:Int)<(L.length:Int))=false:=decide_eq_false (by omega)
     have HE:Hid (chk s=(0,0)):=by
      show _=_
      have h0:gk=0:=by omega
      rw [HC.out,<- HF.out,h0];rfl
     go_wp2_with fail
     go_ret2
     exact ⟨HB1.out.trans (HB2.out.mono HB1.out.size),by rw [HE.out];rfl⟩
 ·simp only at hok
  subst hok
  subst he
  have HC:Hid (chk s=(2,(at_:Int))):=by show _=_;rw [HC1.out];rfl
  have HB1:Hid _:=hb1
  clear hb1
  go_wp2_with fail
  go_ret2
  exact ⟨HB1.out,by rw [HC.out];rfl⟩
end Go.Proofs.YtaebngpoagjafaaGreat
