import Derived.Test.YtaebngpoagjafabGreatV09
import Derived.Test.YtaebngpoagjafabGreatV18
set_option maxRecDepth 100000
set_option maxHeartbeats 800000
namespace Go.Proofs.YtaebngpoagjafabGreat
open Value renaming int → J, slice → O
open IntKind renaming i64 → Z
open Go.RowKit
attribute [local go_sem ↓] Go.wp_at_zero Go.wp_at_succ
def flt (l:List SG) (i:Nat) (g:SG):Int:=J2 l i g (T.val g.text g.text.size)
theorem zdw (l:List SG) (i:Nat) (g:SG) (v:Int) (h:SI g) (hv:T.digs g.text->g.text.size<=9->v=T.val g.text g.text.size):J2 l i g v=flt l i g:=by
 rcases h.2 with h | ⟨h1,h2⟩
 ·have e:∀ v,zP g.kind v=false:=fun v=>by
   rcases h with h | h | h | h<;>simp [zP,h]
  unfold flt J2
  rw [e,e]
 ·unfold flt;rw [hv h1 h2]
def xG (l:List SG):Nat->Nat->Int×Int
 | 0,_=>(0,0)
 | n+1,i=>match l[i]? with
  | none=>(0,0)
  | some g=>if flt l i g=0 then xG l n (i+1) else (flt l i g,g.place)
def chk (s:ByteArray):Int×Int :=
 if 2000<s.size then (1,0) else if (rd s).1=true then xG (rd s).2.2.reverse (rd s).2.2.length 0 else (2,(rd s).2.1)
theorem qG (s:ByteArray) (w:World) :
 Calls Tryz.prog 52 #[.string s] w fun e w'=>Below w.heap.size w w'/\e=.returned (.tuple #[J Z (chk s).1,J Z (chk s).2]):=by
 by_cases hs:2000<s.size
 ·have HC:Hid (chk s=(1,0)):=by show _=_;unfold chk;rw [if_pos hs]
  have hs':(2000:Int)<(s.size:Int):=by omega
  go_enter Tryz.func52,Tryz.ntmps52
  go_wp2_with fail
  go_ret2
  exact ⟨Below.refl _ _,by rw [HC.out];rfl⟩
 have hs':¬ (2000:Int)<(s.size:Int):=by omega
 have hs2:s.size<=2000:=by omega
 obtain ⟨r1,r2,r3,M,R,hM,hR,he⟩:=zcr s hs2
 have hrd:=fun wz=>zaV s wz hs2 M R hM hR
 rw [<- he] at hrd
 have HC:Hid (chk s=if (rd s).1=true then xG (rd s).2.2.reverse (rd s).2.2.length 0 else (2,(rd s).2.1)):=by show _=_;unfold chk;rw [if_neg hs]
 have HRD:Hid _:=hrd
 clear he hR hrd hs
 generalize rd s=D at *
 obtain ⟨ok,at_,gs⟩:=D
 simp only at r1 r2 r3
 have HC1:Hid _:=HC.out
 clear HC
 have HR3:Hid _:=r3
 clear r3
 go_enter Tryz.func52,Tryz.ntmps52
 go_wp2_with fail
 refine (HRD.out _).mono ?_
 rintro e w1 ⟨hb1,v,(⟨hok,he,hrow⟩ | ⟨hok,he⟩)⟩
 ·simp only at hok hrow
  subst hok
  subst he
  have HC2:Hid (chk s=xG gs.reverse gs.length 0):=by show _=_;rw [HC1.out];rfl
  clear HC1 HRD
  have HB1:Hid _:=hb1
  rcases Nat.eq_zero_or_pos gs.length with h0 | h0
  ·have hv:∃ o cap,v=O o 0 cap:=by
    rcases hrow.2 with ⟨rfl,_⟩ | ⟨g,cap,cur,rfl,_⟩
    ·exact ⟨none,0,rfl⟩
    ·exact ⟨_,cap,by rw [h0]⟩
   obtain ⟨o,cap,rfl⟩:=hv
   have HC:Hid (chk s=(0,0)):=by show _=_;rw [HC2.out,h0];rfl
   clear HC2
   clear hrow hb1
   go_wp2_with fail
   go_loopg [6] 1 (fun n x wr=>x=J Z 0/\wr=w1)
   case atStart=>exact ⟨rfl,rfl⟩
   case round =>
    obtain ⟨rfl,rfl⟩:=hrel
    go_wp2_with fail
    go_ret2
    exact ⟨HB1.out,by rw [HC.out];rfl⟩
  ·have hv:∃ b cap,v=O (some ⟨b,0,none⟩) gs.length cap:=by
    rcases hrow.2 with ⟨_,h1⟩ | ⟨g,cap,cur,rfl,_⟩
    ·omega
    ·exact ⟨g,cap,rfl⟩
   obtain ⟨b,cap,rfl⟩:=hv
   have hbw:b<w1.heap.size:=(hrow.lt b rfl).2
   have HSL:Hid (SL w1 b gs.reverse):=SL.of_row hrow
   have hL:gs.reverse.length=gs.length:=List.length_reverse
   have HSI:Hid (∀ g∈gs.reverse,SI g):=fun g hg=>HR3.out g (List.mem_reverse.1 hg)
   clear hrow hb1 HR3
   generalize gs.reverse=L at *
   have hlen:gs.length=L.length:=hL.symm
   clear hL
   rw [hlen] at r2 HC2 ⊢
   have HC:Hid _:=HC2.out
   clear hlen HC2
   go_wp2_with fail
   go_loopg [6] L.length (fun n x wr=>∃ j:Nat,n+j=L.length/\x=J Z j/\Hid (xG L n j=xG L L.length 0)/\Below w1.heap.size w1 wr)
   case atStart=>exact ⟨0,by omega,rfl,rfl,Below.refl _ _⟩
   case round =>
    obtain ⟨j,hn,rfl,HF,hb⟩:=hrel
    have HB2:Hid _:=hb
    have hsl:SL wr b L:=HSL.out.of_block (hb.block _ hbw)
    have hbr:b<wr.heap.size:=Nat.lt_of_lt_of_le hbw hb.size
    have j0:(0:Int)<=(j:Int):=by omega
    clear hb
    by_cases hlt:j<L.length
    ·have hlt':(j:Int)<(L.length:Int):=by omega
     obtain ⟨g,hg⟩:∃ g,L[j]?=some g:=⟨L[j]'hlt,List.getElem?_eq_getElem hlt⟩
     have hSI:SI g:=HSI.out g (List.mem_iff_getElem?.2 ⟨j,hg⟩)
     have hX:=fun (wz:World) (h1:SL wz b L) (h2:b<wz.heap.size)=>J3 b cap L j g wz h1 (by omega) hg h2 hSI.1
     obtain ⟨m,rfl⟩:∃ m,gk=m+1:=⟨gk-1,by omega⟩
     have HF2:Hid (xG L (m+1) j=if flt L j g=0 then xG L m (j+1) else (flt L j g,g.place)):=by
      show _=_
      simp only [xG,hg]
     have HX:Hid _:=hX
     have HSL2:Hid (SL wr b L):=hsl
     have HG:Hid _:=hg
     have HS:Hid _:=hSI
     clear hX hsl hg hSI
     go_wp2_with fail
     refine (HX.out _ HSL2.out hbr).mono ?_
     rintro e w3 ⟨hb3,v,rfl,hv⟩
     rw [zdw L j g v HS.out hv]
     have hsl3:SL w3 b L:=HSL2.out.of_block (hb3.block _ hbr)
     obtain ⟨g0,g1,g2,g3,g4⟩:=hsl3 j g HG.out
     have HB3:Hid _:=HB2.out.trans (hb3.mono HB2.out.size)
     clear hb3 hv hsl3 g0 g2 g3 g4
     generalize flt L j g=z at *
     cases hz:(z==0) with
     | true =>
      have hz0:z=0:=by simpa using hz
      have HE:Hid (xG L m (j+1)=xG L L.length 0):=by
       show _=_
       rw [<- HF.out,HF2.out,if_pos hz0]
      clear hz0
      have hz2:(z != 0)=false:=by simp [bne,hz]
      go_wp2_with fail
      go_roundg m
      case measure=>omega
      case rel=>exact ⟨j+1,by omega,by go_num,HE.out,HB3.out⟩
     | false =>
      have hz0:¬ z=0:=beq_eq_false_iff_ne.1 hz
      have HE:Hid (chk s=(z,g.place)):=by
       show _=_
       rw [HC.out,<- HF.out,HF2.out,if_neg hz0]
      clear hz0
      have hz2:(z != 0)=true:=by simp [bne,hz]
      go_wp2_with fail
      go_quiet (fail)
      go_wp2_with fail
      go_ret2
      exact ⟨zQ (HB1.out.trans (HB3.out.mono HB1.out.size)) _,by rw [HE.out];rfl⟩
    ·have hd:decide ((j:Int)<(L.length:Int))=false:=decide_eq_false (by omega)
     have HE:Hid (chk s=(0,0)):=by
      show _=_
      have h0:gk=0:=by omega
      rw [HC.out,<- HF.out,h0];rfl
     go_wp2_with fail
     go_ret2
     exact ⟨HB1.out.trans (HB2.out.mono HB1.out.size),by rw [HE.out];rfl⟩
 ·simp only at hok
  subst hok
  subst he
  have HC:Hid (chk s=(2,(at_:Int))):=by show _=_;rw [HC1.out];rfl
  have HB1:Hid _:=hb1
  clear hb1
  go_wp2_with fail
  go_ret2
  exact ⟨HB1.out,by rw [HC.out];rfl⟩
def Yu (l:List ByteArray):Nat->ByteArray
 | 0=>ByteArray.empty
 | j+1=>Yu l j++(match l[j]? with | some t=>t.extract 0 1 | none=>ByteArray.empty)
def Zz (l:List ByteArray):List ByteArray:=l.map (fun t=>t.extract 2 t.size)
theorem qm (l:List ByteArray) (h:∀ t∈l,2<=t.size):∀ j,j<=l.length->(Yu l j).size=j:=by
 intro j
 induction j with
 | zero=>intro _;rfl
 | succ j ih =>
  intro hj
  have hx:l[j]?=some l[j]:=List.getElem?_eq_getElem (by omega)
  have h2:=h l[j] (List.getElem_mem _)
  simp only [Yu,hx]
  rw [ByteArray.size_append,ih (by omega),yc _ _ _ (by omega)]
structure PP (w:World) (base PB:Nat) (nm:ByteArray) (tv:Value) (ts:List ByteArray):Prop where
 blk:w.heap[PB]?=some (.cells #[.string nm,tv] 113 (0,0))
 row:w.ownsRow base 9 1 tv ts.length (ts.map Value.string)
 hB:base<=PB
theorem PP.c0 {w:World} {base PB nm tv ts} (h:PP w base PB nm tv ts):w.cell? ⟨PB,0,none⟩=some (.string nm):=by simp [World.cell?,h.blk]
theorem PP.c1 {w:World} {base PB nm tv ts} (h:PP w base PB nm tv ts):w.cell? ⟨PB,1,none⟩=some tv:=by simp [World.cell?,h.blk]
theorem PP.fz {w:World} {base PB nm tv ts} (h:PP w base PB nm tv ts) (j:Nat):w.frozen? ⟨PB,j,none⟩=false:=by simp [World.frozen?,h.blk]
theorem PP.lt {w:World} {base PB nm tv ts} (h:PP w base PB nm tv ts):PB<w.heap.size:=lt_of_block h.blk
theorem zd1 {w:World} {B:Nat} {a b u:Value} {t:TypeId} (h:w.heap[B]?=some (.cells #[a,b] t (0,0))):(w.setCell ⟨B,0,none⟩ u).heap[B]?=some (.cells #[u,b] t (0,0)):=by
 simp [World.setCell,Array.getElem?_modify,h]
theorem zd0 {w:World} {B:Nat} {a b u:Value} {t:TypeId} (h:w.heap[B]?=some (.cells #[a,b] t (0,0))):(w.setCell ⟨B,1,none⟩ u).heap[B]?=some (.cells #[a,u] t (0,0)):=by
 simp [World.setCell,Array.getElem?_modify,h]
theorem QC {w w':World} {base e size:Nat} {v:Value} {n:Nat} {xs:List Value} (h:w.ownsRow base e size v n xs) (hk:∀ g,v.ownBlock=some g->w'.heap[g]?=w.heap[g]?):w'.ownsRow base e size v n xs:=by
 refine ⟨h.1,?_⟩
 rcases h.2 with h0 | ⟨g,cap,cur,rfl,h1,h2,h3⟩
 ·exact .inl h0
 ·exact .inr ⟨g,cap,cur,rfl,h1,(hk g rfl).trans h2,h3⟩
theorem PP.drew {w:World} {base PB nm tv ts} (h:PP w base PB nm tv ts):PP w.drew base PB nm tv ts:=⟨h.blk,h.row,h.hB⟩
theorem PP.setN {w:World} {base PB nm tv ts} (h:PP w base PB nm tv ts) (x:ByteArray):PP (w.setCell ⟨PB,0,none⟩ (.string x)) base PB x tv ts :=
 ⟨zd1 h.blk,ownsRow_setCell_other h.row (zs h.row h.blk (by decide)) _,h.hB⟩
theorem PP.below {w w':World} {base PB nm tv ts} (h:PP w base PB nm tv ts) (hb:Below w.heap.size w w'):PP w' base PB nm tv ts :=
 ⟨(hb.block PB h.lt).trans h.blk,QC h.row (fun g hg=>hb.block g (h.row.lt g hg).2),h.hB⟩
theorem PP.push {w w4:World} {base PB nm tv ts} {o:Obj} (h:PP w base PB nm tv ts) {n g cap:Nat} {x:ByteArray} (hn:n=ts.length) (hg:((w.alloc o).drew).grownBy w4 tv.ownBlock) (hown:w4.ownsRow base 9 1 (O (some ⟨g,0,none⟩) (n+1) cap) (n+1) (ts.map Value.string++[.string x])) :
 PP (w4.setCell ⟨PB,1,none⟩ (O (some ⟨g,0,none⟩) (n+1) cap)) base PB nm (O (some ⟨g,0,none⟩) (n+1) cap) (ts++[x]):=by
 subst hn
 have hl:PB<(w.alloc o).drew.heap.size:=by have:=h.lt;show PB<(w.alloc o).heap.size;simp;omega
 have hb4:w4.heap[PB]?=some (.cells #[.string nm,tv] 113 (0,0)):=(hg.block PB hl (fun e=>zs h.row h.blk (by decide) e.symm)).trans ((Below.heap_alloc _ _ _ h.lt).trans h.blk)
 refine ⟨zd0 hb4,?_,h.hB⟩
 rw [List.length_append,List.map_append]
 exact ownsRow_setCell_other hown (zs hown hb4 (by decide)) _
theorem PP.grown {w w9:World} {base PB nm tv ts} (h:PP w base PB nm tv ts) {o:Obj} (hg:((w.alloc o).drew).grownBy w9 tv.ownBlock):w9.cell? ⟨PB,1,none⟩=some tv/\w9.frozen? ⟨PB,1,none⟩=false:=by
 have hl:PB<(w.alloc o).drew.heap.size:=by have:=h.lt;show PB<(w.alloc o).heap.size;simp;omega
 have hb:=(hg.block PB hl (fun e=>zs h.row h.blk (by decide) e.symm)).trans ((Below.heap_alloc _ _ _ h.lt).trans h.blk)
 exact ⟨by simp [World.cell?,hb],by simp [World.frozen?,hb]⟩
theorem jn (s:ByteArray) (w:World) (hs:s.size<=2000) (h2:∀ t∈spl (bare s) 59,2<=t.size) :
 Calls Tryz.prog 53 #[.string s] w fun e w'=>Below w.heap.size w w'/\∃ PB tv,e=.returned (.pointer (some ⟨PB,0,none⟩))/\PP w' w.heap.size PB (Yu (spl (bare s) 59) (spl (bare s) 59).length) tv (Zz (spl (bare s) 59)):=by
 obtain ⟨i0,hi0,hz0,hz1,hz2⟩:=info_parts Tryz.infoStr
 have hbz:(bare s).size<=2000:=by unfold bare;rw [strOfNums_size];exact Nat.le_trans (Qg s s.size) hs
 go_enter Tryz.func53,Tryz.ntmps53
 go_wp2_with fail
 refine (zbR s _ hs).mono ?_
 rintro e w1 ⟨hb1,rfl⟩
 have HB1:Hid _:=hb1
 clear hb1
 go_wp2_with fail
 refine (ZE (bare s) 59 _ hbz).mono ?_
 rintro e w2 ⟨hb2,v,rfl,hrow⟩
 obtain ⟨g,cap,rfl,hg1,hgl⟩:=yX hrow (Yd _ _)
 have HB2:Hid _:=HB1.out.trans (hb2.mono HB1.out.size)
 have HC:Hid (∀ i x,(spl (bare s) 59)[i]?=some x->w2.cell? ⟨g,i,none⟩=some (.string x)):=fun i x hx=>ZH hrow hx
 have HZ:Hid _:=h2
 have HS:Hid (∀ t∈spl (bare s) 59,t.size<=2000):=fun t ht=>Nat.le_trans (yE ht) hbz
 have hll:=xn (s:=bare s) (c:=59) hbz
 clear hb2 hrow h2
 generalize hle:spl (bare s) 59=l at *
 have HLE:Hid _:=hle
 clear hle
 have HNS:Hid (∀ j,j<=l.length->(Yu l j).size=j):=qm l HZ.out
 have HP0:Hid (PP (w2.alloc (.cells #[.string ByteArray.empty,O none 0 0] 113)) w2.heap.size w2.heap.size ByteArray.empty (O none 0 0) []):=⟨heap_alloc_new w2 _,⟨rfl,.inl ⟨rfl,rfl⟩⟩,Nat.le_refl _⟩
 have HA0:Hid (Below w2.heap.size w2 (w2.alloc (.cells #[.string ByteArray.empty,O none 0 0] 113))):=(Below.refl _ _).alloc (Nat.le_refl _) _
 go_wp2_with fail
 go_loopg [5] l.length (fun n y wr=>∃ (j:Nat) (tv:Value),n+j=l.length/\y=J Z j/\PP wr w2.heap.size w2.heap.size (Yu l j) tv (Zz (l.take j))/\Below w2.heap.size w2 wr)
 case atStart=>exact ⟨0,O none 0 0,by omega,rfl,HP0.out,HA0.out⟩
 case round =>
  obtain ⟨j,tv,hn,rfl,hpp,hbr⟩:=hrel
  have HPP:Hid _:=hpp
  have HBR:Hid _:=hbr
  clear hpp hbr
  by_cases hlt:j<l.length
  ·obtain ⟨x,hx⟩:∃ x,l[j]?=some x:=⟨l[j],List.getElem?_eq_getElem hlt⟩
   have hj0:(0:Int)<=(j:Int):=by omega
   have hj1:(j:Int)<(l.length:Int):=by omega
   have cx:=(HBR.out.cell (p:=⟨g,j,none⟩) hgl).trans (HC.out j x hx)
   have hx2:=HZ.out x (List.mem_of_getElem? hx)
   have hxs:=HS.out x (List.mem_of_getElem? hx)
   have hx2':(2:Int)<=(x.size:Int):=by omega
   have hx3':(x.size:Int)<=2000:=by omega
   have hnz:=HNS.out j (by omega)
   have HN1:Hid (Yu l (j+1)=Yu l j++x.extract 0 1):=by show _=_;simp only [Yu,hx]
   have HT1:Hid (Zz (l.take (j+1))=Zz (l.take j)++[x.extract 2 x.size]):=by show _=_;rw [List.take_add_one,hx];simp [Zz]
   have HTL:Hid (j=(Zz (l.take j)).length):=by show _=_;simp [Zz];omega
   generalize Yu l j=nj at *
   have hez:(x.extract 0 1).size=1:=by rw [yc x _ _ (by omega)]
   have q0:=HPP.out.c0
   have q1:=HPP.out.c1
   have qz:=HPP.out.fz
   have hPl:=HPP.out.lt
   have hne:g≠w2.heap.size:=by omega
   have hne2:w2.heap.size≠g:=by omega
   have hcat:=fun w=>run_string_add_sum (P:=Tryz.prog) (w:=w) nj (x.extract 0 1) (by rw [hnz,hez];omega)
   have HX:Hid _:=hx
   clear hx
   go_wp2_with fail
   go_region_with (fail)
   all_goals
    have HP5:Hid (PP ((wr.setCell ⟨w2.heap.size,0,none⟩ (.string (nj++x.extract 0 1))).drew) w2.heap.size w2.heap.size (nj++x.extract 0 1) tv (Zz (l.take j))):=(HPP.out.setN _).drew
    have HB5:Hid (Below w2.heap.size w2 ((wr.setCell ⟨w2.heap.size,0,none⟩ (.string (nj++x.extract 0 1))).drew)):=(HBR.out.setCell (p:=⟨w2.heap.size,0,none⟩) (Nat.le_refl _) _).drew
    generalize (wr.setCell ⟨w2.heap.size,0,none⟩ (.string (nj++x.extract 0 1))).drew=w5 at *
    clear cx q0 q1 qz hcat hPl
    have cx:=(HB5.out.cell (p:=⟨g,j,none⟩) hgl).trans (HC.out j x HX.out)
    have q1:=HP5.out.c1
    have qz:=HP5.out.fz 1
    have hP5:=HP5.out.lt
    have hg5:g<w5.heap.size:=Nat.lt_of_lt_of_le hgl HB5.out.size
    have HE9:Hid (w5.ownsRow w2.heap.size 9 1 tv j ((Zz (l.take j)).map Value.string)):=by show World.ownsRow _ _ _ _ _ _ _;have:=HP5.out.row;rw [<- HTL.out] at this;exact this
    have hA1:Hid (j+1<=maxLen):=by show _<=_;unfold maxLen;omega
    have hA2:Hid ((j+1)*16<=140737488355328):=by show _<=_;omega
    have hA3:Hid (∀ o:Obj,w2.heap.size<=(w5.alloc o).drew.heap.size):=fun o=>by have:=HB5.out.size;show w2.heap.size<=(w5.alloc o).heap.size;simp;omega
    have hone:Hid (∀ u∈[Value.string (x.extract 2 x.size)],u.oneCell'=true):=fun u hu=>by simp at hu;subst hu;rfl
    go_wp2_with fail
    go_region_law ((refine step_append_lies _ (by rfl) _ _ _ (by rfl) w2.heap.size 9 i0 _ 1 16 Tryz.underlying27 hi0 hz0 hz1 hz2 rfl (by decide) tv _ _ (by rfl) ((HE9.out.alloc _).drew) ⟨w5.heap.size,0,none⟩ 1 1 [.string (x.extract 2 x.size)] (by rfl) (by rfl) (World.news_of_block (cs:=#[.string (x.extract 2 x.size)]) (t:=9) (fr:=(0,0)) (heap_alloc_new w5 _)) hone.out (Nat.lt_succ_self 0) hA1.out hA2.out (hA3.out _) (w5.heap.size+1) (by simp) ?_;intro g' cap' w9 hown hgrow hat hlt9;obtain ⟨y1,yz⟩:=HP5.out.grown hgrow))
    all_goals
     have HP9:Hid (PP (w9.setCell ⟨w2.heap.size,1,none⟩ (O (some ⟨g',0,none⟩) (j+1) cap')) w2.heap.size w2.heap.size (Yu l (j+1)) (O (some ⟨g',0,none⟩) (j+1) cap') (Zz (l.take (j+1)))):=by
      show PP _ _ _ _ _ _
      rw [HN1.out,HT1.out]
      exact HP5.out.push HTL.out hgrow hown
     have HB9:Hid (Below w2.heap.size w2 (w9.setCell ⟨w2.heap.size,1,none⟩ (O (some ⟨g',0,none⟩) (j+1) cap'))):=(((HB5.out.alloc HB5.out.size _).drew).grown hgrow (hA3.out _) (fun k hk=>(HP5.out.row.lt k hk).1)).setCell (p:=⟨w2.heap.size,1,none⟩) (Nat.le_refl _) _
     clear hown hgrow hat
     go_wp2_with fail
     go_roundg (gk-1)
     case measure=>omega
     case rel=>exact ⟨j+1,_,by omega,by go_num,HP9.out,HB9.out⟩
  ·have hd:¬ ((j:Int)<(l.length:Int)):=by omega
   have hje:j=l.length:=by omega
   subst hje
   have HBW:Hid (Below w.heap.size w wr):=HB2.out.trans (HBR.out.mono HB2.out.size)
   have HPW:Hid (PP wr w.heap.size w2.heap.size (Yu l l.length) tv (Zz l)):=by
    have h:=HPP.out
    rw [List.take_length] at h
    exact ⟨h.blk,⟨h.row.1,h.row.2.imp (fun h=>h) (fun ⟨g,cap,cur,a,b,c⟩=>⟨g,cap,cur,a,Nat.le_trans HB2.out.size b,c⟩)⟩,HB2.out.size⟩
   go_wp2_with fail
   go_ret
   exact ⟨HBW.out,_,rfl,tv,by rw [HLE.out];exact HPW.out⟩
def knK (ns:Nat->Int) (j:Nat):List Int:=(List.range j).map ns
theorem xC (ns:Nat->Int) (j:Nat):(knK ns j).length=j:=by simp [knK]
theorem zbh (ns:Nat->Int) (j:Nat):knK ns (j+1)=knK ns j++[ns j]:=by simp [knK,List.range_succ]
theorem Jb (ns:Nat->Int) {i j:Nat} (h:i<j):(knK ns j)[i]?=some (ns i):=by simp [knK,h]
theorem zbZ (s:ByteArray) (w:World) (h:(chk s).1≠0) :
 Calls Tryz.prog 26 #[.string s] w fun e w'=>Below w.heap.size w w'/\e=.returned (.tuple #[J Z 0,J Z (chk s).1]):=by
 have hd:=fun wz=>qG s wz
 generalize chk s=c at *
 obtain ⟨c1,c2⟩:=c
 simp only at h
 have e1:(c1==0)=false:=by simp [h]
 have e2:(c1 != 0)=true:=by simp [h]
 clear h
 go_enter Tryz.func26,Tryz.ntmps26
 go_wp2_with fail
 refine (hd _).mono ?_
 rintro e w1 ⟨hb,rfl⟩
 have HB:Hid _:=hb
 clear hb
 go_wp2_with fail
 go_ret2
 exact ⟨HB.out,rfl⟩
theorem zbY (s:ByteArray) (w:World) (ns:Nat->Int) (hs:s.size<=2000) (h:(chk s).1=0) (h2:∀ t∈spl (bare s) 59,2<=t.size)
 (hz:∀ j t,(Zz (spl (bare s) 59))[j]?=some t->SZ (Yu (spl (bare s) 59) (spl (bare s) 59).length) (knK ns j) t (ns j)) :
 Calls Tryz.prog 26 #[.string s] w fun e w'=>Below w.heap.size w w'/\e=.returned (.tuple #[J Z (ns ((spl (bare s) 59).length-1)),J Z 0]):=by
 have hd:=fun wz=>qG s wz
 generalize chk s=c at *
 obtain ⟨c1,c2⟩:=c
 simp only at h
 subst h
 have hpl:=fun wz=>jn s wz hs h2
 have HPL:Hid _:=hpl
 have hbz:(bare s).size<=2000:=by unfold bare;rw [strOfNums_size];exact Nat.le_trans (Qg s s.size) hs
 have hll:=xn (s:=bare s) (c:=59) hbz
 have hne:=Yd (bare s) 59
 have hnm:=qm (spl (bare s) 59) h2 _ (Nat.le_refl _)
 have HTS:Hid (∀ t∈Zz (spl (bare s) 59),t.size<=2000):=fun t ht=>by
  simp only [Zz,List.mem_map] at ht
  obtain ⟨x,hx,rfl⟩:=ht
  have:=Nat.le_trans (yE hx) hbz
  rw [yc x _ _ (Nat.le_refl _)];omega
 have HTL:Hid ((Zz (spl (bare s) 59)).length=(spl (bare s) 59).length):=by show _=_;simp [Zz]
 have HSZ:Hid _:=hz
 clear hpl hz h2
 generalize hle:spl (bare s) 59=l at *
 have HLE:Hid _:=hle
 clear hle
 go_enter Tryz.func26,Tryz.ntmps26
 go_wp2_with fail
 refine (hd _).mono ?_
 rintro e w1 ⟨hb,rfl⟩
 have HB:Hid _:=hb
 clear hb
 go_wp2_with fail
 refine (HPL.out _).mono ?_
 rintro e w2 ⟨hb2,PB,tv,rfl,hpp⟩
 have HB2:Hid _:=HB.out.trans (hb2.mono HB.out.size)
 have HPP:Hid _:=hpp
 clear hb2 hpp
 obtain ⟨i0,hi0,hz0,hz1,hz2⟩:=info_parts Tryz.infoInt
 obtain ⟨tg,tc,rfl,htg1,htg2⟩:=yX HPP.out.row (by rw [HTL.out];exact hne)
 have HRW:Hid (∀ i t,(Zz l)[i]?=some t->w2.cell? ⟨tg,i,none⟩=some (.string t)):=fun i t ht=>ZH HPP.out.row ht
 have hPBl:=HPP.out.lt
 have hq0:=HPP.out.c0
 have hq1:=HPP.out.c1
 rw [HTL.out] at hq1
 have HBD:Hid (∀ j,j<l.length->0<=ns j/\ns j<=5000):=by
  intro j
  induction j using Nat.strongRecOn with
  | ind j ihj =>
   intro hj
   have hjt:j<(Zz l).length:=by rw [HTL.out];exact hj
   have hx:(Zz l)[j]?=some (Zz l)[j]:=List.getElem?_eq_getElem hjt
   exact (Qr (HSZ.out j _ hx) 0 none 0 (fun k hk=>by
    simp only [knK,List.mem_map,List.mem_range] at hk
    obtain ⟨i,hi,rfl⟩:=hk
    exact ihj i hi (by omega)) (by omega) (by rw [xC];omega) (HTS.out _ (List.mem_of_getElem? hx))).2
 clear HPL
 go_wp2_with fail
 go_loopg [7,8] l.length (fun n x y wr=>∃ (j:Nat),n+j=l.length/\y=J Z j/\wr.ownsRow w2.heap.size 3 1 x (knK ns j).length ((knK ns j).map (J Z))/\Below w2.heap.size w2 wr)
 case atStart=>exact ⟨0,by omega,rfl,⟨rfl,.inl ⟨rfl,rfl⟩⟩,Below.refl _ _⟩
 case round =>
  obtain ⟨j,hn,rfl,hrow,hb⟩:=hrel
  have HR:Hid (wr.ownsRow w2.heap.size 3 1 u7 (knK ns j).length ((knK ns j).map (J Z))):=hrow
  have HBr:Hid _:=hb
  have hbs:=hb.size
  have p1:=(hb.cell (p:=⟨PB,1,none⟩) hPBl).trans hq1
  clear hrow hb
  by_cases hlt:j<l.length
  ·have hjt:j<(Zz l).length:=by rw [HTL.out];exact hlt
   obtain ⟨t,ht⟩:∃ t,(Zz l)[j]?=some t:=⟨(Zz l)[j],List.getElem?_eq_getElem hjt⟩
   have hj0:(0:Int)<=(j:Int):=by omega
   have hj1:(j:Int)<(l.length:Int):=by omega
   have ct:=(HBr.out.cell (p:=⟨tg,j,none⟩) htg2).trans (HRW.out j t ht)
   obtain ⟨ko,kc,hu7⟩:∃ ko kc,u7=O ko (knK ns j).length kc:=by
    rcases HR.out.2 with ⟨h1,h2⟩ | ⟨g,cap,cur,h1,_⟩
    ·exact ⟨none,0,by rw [h1,h2]⟩
    ·exact ⟨_,cap,h1⟩
   subst hu7
   have HKV:Hid (KV wr PB (Yu l l.length) ko (knK ns j)):=⟨Nat.lt_of_lt_of_le hPBl HBr.out.size,(HBr.out.cell (p:=⟨PB,0,none⟩) hPBl).trans hq0,fun i v hv=>by
    rcases HR.out.2 with ⟨h1,h2⟩ | ⟨g,cap,cur,h1,h2,h3,_⟩
    ·have:=(List.getElem?_eq_some_iff.1 hv).1;omega
    ·cases h1
     have hil:i<(knK ns j).length:=(List.getElem?_eq_some_iff.1 hv).1
     refine ⟨g,rfl,lt_of_block h3,?_⟩
     rw [World.ownsRow.cellAt HR.out i (by omega)]
     simp [hv]⟩
   have hsz:=Qr (HSZ.out j t ht) PB ko kc (fun k hk=>by
    simp only [knK,List.mem_map,List.mem_range] at hk
    obtain ⟨i,hi,rfl⟩:=hk
    exact HBD.out i (by omega)) (by omega) (by rw [xC];omega) (HTS.out _ (List.mem_of_getElem? ht))
   have HCL:Hid _:=hsz.1
   have HE:Hid (knK ns (j+1)=knK ns j++[ns j]):=zbh ns j
   have HKL:Hid ((knK ns j).length=j):=xC ns j
   clear hsz ht
   go_wp2_with fail
   refine (HCL.out _ HKV.out).mono ?_
   rintro e w4 ⟨hb4,rfl⟩
   have HB4:Hid _:=HBr.out.trans (hb4.mono HBr.out.size)
   have HR4:Hid (w4.ownsRow w2.heap.size 3 1 (O ko (knK ns j).length kc) (knK ns j).length ((knK ns j).map (J Z))):=QC HR.out (fun g hg=>hb4.block g (HR.out.lt g hg).2)
   have hbs4:w2.heap.size<=w4.heap.size:=HB4.out.size
   clear hb4
   generalize hnj:ns j=nj at *
   clear hnj
   have hA1:Hid ((knK ns j).length+1<=maxLen):=by show _<=_;have:=HKL.out;unfold maxLen;omega
   have hA2:Hid (((knK ns j).length+1)*8<=140737488355328):=by show _<=_;have:=HKL.out;omega
   have hA3:Hid (w2.heap.size<=(w4.alloc (.cells #[J Z nj] 3)).heap.size):=by show _<=_;simp;omega
   have hone:Hid (∀ u∈[J Z nj],u.oneCell'=true):=fun u hu=>by simp at hu;subst hu;rfl
   go_wp2_with (at_builtin;refine wpList_append_lies _ rfl _ _ 25 rfl w2.heap.size 3 i0 _ 1 8 Tryz.underlying25 hi0 hz0 hz1 hz2 rfl (by decide) (O ko (knK ns j).length kc) _ _ rfl (HR4.out.alloc _) ⟨w4.heap.size,0,none⟩ 1 1 [J Z nj] rfl rfl (World.news_of_block (cs:=#[J Z nj]) (t:=3) (fr:=(0,0)) (heap_alloc_new w4 _)) hone.out (Nat.lt_succ_self 0) hA1.out hA2.out hA3.out (w4.heap.size+1) (by simp) ?_;intro g cap w5 hown hgrow hat hlt5)
   have HR5:Hid (w5.ownsRow w2.heap.size 3 1 (O (some ⟨g,0,none⟩) ((knK ns j).length+1) cap) (knK ns (j+1)).length ((knK ns (j+1)).map (J Z))):=by
    show World.ownsRow _ _ _ _ _ _ _
    rw [HE.out,List.length_append,List.map_append]
    exact hown
   have HB5:Hid (Below w2.heap.size w2 w5):=(HB4.out.alloc hbs4 _).grown hgrow (by simp;omega) (fun k hk=>(HR4.out.lt k hk).1)
   clear hown hgrow hat
   go_roundg (gk-1)
   case measure=>omega
   case rel=>exact ⟨j+1,by omega,by go_num,HR5.out,HB5.out⟩
  ·have hd:¬ ((j:Int)<(l.length:Int)):=by omega
   have hje:j=l.length:=by omega
   subst hje
   have hkl:=xC ns l.length
   have HBW:Hid (Below w.heap.size w wr):=HB2.out.trans (HBr.out.mono HB2.out.size)
   rcases HR.out.2 with ⟨h1,h2⟩ | ⟨g,cap,cur,h1,h2,h3,_⟩
   ·omega
   ·subst h1
    have ck:wr.cell? ⟨g,l.length-1,none⟩=some (J Z (ns (l.length-1))):=by
     rw [World.ownsRow.cellAt HR.out (l.length-1) (by omega)]
     simp [Jb ns (show l.length-1<l.length by omega)]
    rw [hkl] at *
    have hl1:(1:Int)<=(l.length:Int):=by omega
    have hl2:(l.length:Int)<=2001:=by omega
    generalize hnr:ns (l.length-1)=nr at *
    have HNR:Hid _:=hnr
    clear hnr
    go_wp2_with fail
    go_ret2
    exact ⟨HBW.out,by rw [HNR.out];rfl⟩
end Go.Proofs.YtaebngpoagjafabGreat
