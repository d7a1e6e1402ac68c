import Derived.Test.YtaebngpoagjafaaGreatR34
import Derived.Test.YtaebngpoagjafaaGreatR32
import Derived.Laws.Cover3
set_option maxRecDepth 100000
set_option maxHeartbeats 3200000
namespace Go.Proofs.YtaebngpoagjafaaGreat
open Obj renaming cells → Q
open Value renaming int → J, slice → O
open IntKind renaming i64 → Z
open Go.RowKit
attribute [local go_sem ↓] Go.wp_at_zero Go.wp_at_succ
def MkL (w:World) (t:TypeId) (m:Value) (v:Value):Prop:=∃ o c,v=O o c c/\c<=9223372036854775807/\(0<c->∃ (g:Nat) (cur:Array Value),o=some ⟨g,0,none⟩/\w.heap[g]?=some (Q cur t (0,0))/\cur.size=c/\∀ j,j<c->cur[j]?=some m)
theorem MkL.of_kept {w w':World} {t:TypeId} {m v:Value} (h:MkL w t m v) (hk:∀ (g:Nat) (cur:Array Value),w.heap[g]?=some (Q cur t (0,0))->w'.heap[g]?=w.heap[g]?):MkL w' t m v:=by
 obtain ⟨o,c,h1,hc,h2⟩:=h
 refine ⟨o,c,h1,hc,fun h0=>?_⟩
 obtain ⟨g,cur,h3,h4,h5,h6⟩:=h2 h0
 exact ⟨g,cur,h3,(hk g cur h4).trans h4,h5,h6⟩
def cdC (cs:List (ByteArray×ByteArray)):List Value:=cs.flatMap (fun x=>[.string x.1,.string x.2])
structure ST (w:World) (base SB n:Nat) (wv cv sv iv bv:Value) (cs:List (ByteArray×ByteArray)) (is bs:List Value):Prop where
 blk:w.heap[SB]?=some (Q #[wv,cv,sv,iv,bv] 64 (0,0))
 cr:w.ownsRow base 127 2 cv cs.length (cdC cs)
 ir:w.ownsRow base 25 1 iv is.length is
 br:w.ownsRow base 48 1 bv bs.length bs
 ok:∀ x∈cs,cpE x.1=0/\x.2=strOfNums (cpX x.1)
 im:∀ (i:Nat) (v:Value),is[i]?=some v->MkL w 3 (J Z (-1000-(i:Int))) v
 bm:∀ (i:Nat) (v:Value),bs[i]?=some v->MkL w 5 (J .u8 (200+(i:Int)%50)) v
 hB:base<=SB
 nc:cs.length<=n
 ni:is.length<=n
 nb:bs.length<=n
theorem ST.lt {w:World} {base SB n wv cv sv iv bv cs is bs} (h:ST w base SB n wv cv sv iv bv cs is bs):SB<w.heap.size:=lt_of_block h.blk
theorem ST.below {w w':World} {base SB n wv cv sv iv bv cs is bs} (h:ST w base SB n wv cv sv iv bv cs is bs) (hb:Below w.heap.size w w'):ST w' base SB n wv cv sv iv bv cs is bs :=
 ⟨(hb.block _ h.lt).trans h.blk,zh h.cr (fun g hg=>hb.block g (h.cr.lt g hg).2),zh h.ir (fun g hg=>hb.block g (h.ir.lt g hg).2),zh h.br (fun g hg=>hb.block g (h.br.lt g hg).2),h.ok,fun i v hv=>(h.im i v hv).of_kept (fun g _ hg=>hb.block g (lt_of_block hg)),fun i v hv=>(h.bm i v hv).of_kept (fun g _ hg=>hb.block g (lt_of_block hg)),h.hB,h.nc,h.ni,h.nb⟩
theorem ST.mono {w:World} {base SB n wv cv sv iv bv cs is bs} (h:ST w base SB n wv cv sv iv bv cs is bs):ST w base SB (n+1) wv cv sv iv bv cs is bs :=
 ⟨h.blk,h.cr,h.ir,h.br,h.ok,h.im,h.bm,h.hB,by have:=h.nc;omega,by have:=h.ni;omega,by have:=h.nb;omega⟩
theorem ST.c {w:World} {base SB n wv cv sv iv bv cs is bs} (h:ST w base SB n wv cv sv iv bv cs is bs) (j:Nat):w.cell? ⟨SB,j,none⟩=#[wv,cv,sv,iv,bv][j]?:=by rw [cell_of_row _ _ _ _ _ _ h.blk]
theorem ST.fz {w:World} {base SB n wv cv sv iv bv cs is bs} (h:ST w base SB n wv cv sv iv bv cs is bs) (j:Nat):w.frozen? ⟨SB,j,none⟩=false:=by simp [World.frozen?,h.blk]
theorem Xn (n:Nat) (w:World) (hn:n<=9223372036854775807):Calls Tryz.prog 52 #[J Z n] w fun e w'=>e=.returned (J .u8 (200+(n:Int)%50))/\w'=w:=by
 have ht:(n:Int).tmod 50=(n:Int)%50:=Int.tmod_eq_emod_of_nonneg (by omega)
 have h0:0<=(n:Int)%50:=by omega
 have h1:(n:Int)%50<50:=by omega
 generalize hq:(n:Int)%50=q at *
 clear hq
 go_enter Tryz.func52,Tryz.ntmps52
 go_wp2_with fail
 go_ret
 exact ⟨rfl,rfl⟩
theorem X0 (n:Nat) (w:World) (hn:n<=1000000000000000):Calls Tryz.prog 51 #[J Z n] w fun e w'=>e=.returned (J Z (-1000-(n:Int)))/\w'=w:=by
 go_enter Tryz.func51,Tryz.ntmps51
 go_wp2_with fail
 go_ret
 exact ⟨rfl,rfl⟩
theorem zaS (base SB n:Nat) (wv cv sv iv bv:Value) (cs:List (ByteArray×ByteArray)) (is bs:List Value) (w:World) (hn:n<=1000000000000000) (h:ST w base SB n wv cv sv iv bv cs is bs) :
 Calls Tryz.prog 31 #[.pointer (some ⟨SB,0,none⟩)] w fun e w'=>e=.returned (.bool true)/\Below w.heap.size w w':=by
 have H:Hid _:=h
 clear h
 go_enter Tryz.func31,Tryz.ntmps31
 go_wp2_with fail
 have c3:=H.out.c 3
 have c4:=H.out.c 4
 have hSB:=H.out.lt
 have HI:=H.out.im
 have HBM:=H.out.bm
 have hni:=H.out.ni
 have hnb:=H.out.nb
 obtain ⟨io,ic,hio,_⟩:=yd H.out.ir
 obtain ⟨bo,bc,hbo,_⟩:=yd H.out.br
 have HIR:Hid (w.ownsRow base 25 1 iv is.length is):=H.out.ir
 have HBR:Hid (w.ownsRow base 48 1 bv bs.length bs):=H.out.br
 have HIM:Hid _:=HI
 have HBMM:Hid _:=HBM
 simp only [List.getElem?_toArray,List.getElem?_cons_succ,List.getElem?_cons_zero] at c3 c4
 clear HI HBM H
 subst hio hbo
 go_loopg [3] is.length (fun q x wr=>∃ i:Nat,q+i=is.length/\x=J Z i/\Below w.heap.size w wr)
 case atStart=>exact ⟨0,by omega,rfl,Below.refl _ _⟩
 case round =>
  obtain ⟨i,hq,rfl,hb⟩:=hrel
  have HB:Hid _:=hb
  have cq:wr.cell? ⟨SB,3,none⟩=some (O io is.length ic):=by rw [hb.cell (p:=⟨SB,3,none⟩) hSB];exact c3
  clear hb
  by_cases hlt:i<is.length
  ·have hlt':(i:Int)<(is.length:Int):=by omega
   have hi0:(0:Int)<=(i:Int):=by omega
   obtain ⟨v,hv⟩:∃ v,is[i]?=some v:=⟨is[i],List.getElem?_eq_getElem hlt⟩
   obtain ⟨o,c,hvv,hcm,hmk⟩:=HIM.out i v hv
   subst hvv
   have HMK:Hid _:=hmk
   obtain ⟨ig,icc,hig,_,higl⟩:=HIR.out.form (by omega)
   obtain ⟨hio,_⟩:io=some ⟨ig,0,none⟩/\ic=icc:=by cases hig;exact ⟨rfl,rfl⟩
   subst hio
   have hcell0:w.cell? ⟨ig,i,none⟩=some (O o c c):=by rw [World.ownsRow.cellAt HIR.out i (by omega)];exact hv
   have HC0:Hid _:=hcell0
   have hcell:wr.cell? ⟨ig,i,none⟩=some (O o c c):=by rw [HB.out.cell (p:=⟨ig,i,none⟩) higl];exact hcell0
   have HCQ:Hid _:=c3
   clear hig hv hmk hcell0
   go_wp2_with fail
   go_loopg [4] c (fun q x wz=>∃ j:Nat,q+j=c/\x=J Z j/\Below w.heap.size w wz)
   case atStart=>exact ⟨0,by omega,rfl,HB.out⟩
   case round =>
    obtain ⟨j,hq2,rfl,hbz⟩:=hrel
    have HBz:Hid _:=hbz
    have cqz:wr.cell? ⟨SB,3,none⟩=some (O (some ⟨ig,0,none⟩) is.length ic):=by rw [hbz.cell (p:=⟨SB,3,none⟩) hSB];exact HCQ.out
    have hcz:wr.cell? ⟨ig,i,none⟩=some (O o c c):=by rw [hbz.cell (p:=⟨ig,i,none⟩) higl];exact HC0.out
    clear hbz
    by_cases hj:j<c
    ·have hj':(j:Int)<(c:Int):=by omega
     have hj0:(0:Int)<=(j:Int):=by omega
     obtain ⟨g,cur,ho,hg,hcs,hcj⟩:=HMK.out (by omega)
     subst ho
     have hcc:wr.cell? ⟨g,j,none⟩=some (J Z (-1000-(i:Int))):=by rw [HBz.out.cell (p:=⟨g,j,none⟩) (lt_of_block hg),cell_of_row _ _ _ _ _ _ hg];exact hcj j hj
     clear hg hcs hcj
     have hin:i<=1000000000000000:=by omega
     go_wp2_with fail
     go_quiet ((go_at_call 51;exact Calls.quiet_of_same (X0 _ _ hin)))
     go_wp2_with fail
     go_roundg (gk-1)
     case measure=>omega
     case rel=>exact ⟨j+1,by omega,by go_num,zB HBz.out _⟩
    ·have hj':¬ (j:Int)<(c:Int):=by omega
     go_wp2_with fail
     go_roundg (is.length-(i+1))
     case measure=>omega
     case rel=>exact ⟨i+1,by omega,by go_num,HBz.out⟩
  ·have hlt':¬ (i:Int)<(is.length:Int):=by omega
   go_wp2_with fail
   have HBo:Hid _:=HB.out
   go_loopg [5] bs.length (fun q x wr=>∃ i:Nat,q+i=bs.length/\x=J Z i/\Below w.heap.size w wr)
   case atStart=>exact ⟨0,by omega,rfl,HBo.out⟩
   case round =>
    obtain ⟨i,hq,rfl,hb⟩:=hrel
    have HB:Hid _:=hb
    have cq:wr.cell? ⟨SB,4,none⟩=some (O bo bs.length bc):=by rw [hb.cell (p:=⟨SB,4,none⟩) hSB];exact c4
    clear hb
    by_cases hlt:i<bs.length
    ·have hlt':(i:Int)<(bs.length:Int):=by omega
     have hi0:(0:Int)<=(i:Int):=by omega
     obtain ⟨v,hv⟩:∃ v,bs[i]?=some v:=⟨bs[i],List.getElem?_eq_getElem hlt⟩
     obtain ⟨o,c,hvv,hcm,hmk⟩:=HBMM.out i v hv
     subst hvv
     have HMK:Hid _:=hmk
     obtain ⟨ig,icc,hig,_,higl⟩:=HBR.out.form (by omega)
     obtain ⟨hio,_⟩:bo=some ⟨ig,0,none⟩/\bc=icc:=by cases hig;exact ⟨rfl,rfl⟩
     subst hio
     have hcell0:w.cell? ⟨ig,i,none⟩=some (O o c c):=by rw [World.ownsRow.cellAt HBR.out i (by omega)];exact hv
     have HC0:Hid _:=hcell0
     have hcell:wr.cell? ⟨ig,i,none⟩=some (O o c c):=by rw [HB.out.cell (p:=⟨ig,i,none⟩) higl];exact hcell0
     have HCQ:Hid _:=c4
     clear hig hv hmk hcell0
     go_wp2_with fail
     go_loopg [6] c (fun q x wz=>∃ j:Nat,q+j=c/\x=J Z j/\Below w.heap.size w wz)
     case atStart=>exact ⟨0,by omega,rfl,HB.out⟩
     case round =>
      obtain ⟨j,hq2,rfl,hbz⟩:=hrel
      have HBz:Hid _:=hbz
      have cqz:wr.cell? ⟨SB,4,none⟩=some (O (some ⟨ig,0,none⟩) bs.length bc):=by rw [hbz.cell (p:=⟨SB,4,none⟩) hSB];exact HCQ.out
      have hcz:wr.cell? ⟨ig,i,none⟩=some (O o c c):=by rw [hbz.cell (p:=⟨ig,i,none⟩) higl];exact HC0.out
      clear hbz
      by_cases hj:j<c
      ·have hj':(j:Int)<(c:Int):=by omega
       have hj0:(0:Int)<=(j:Int):=by omega
       obtain ⟨g,cur,ho,hg,hcs,hcj⟩:=HMK.out (by omega)
       subst ho
       have hcc:wr.cell? ⟨g,j,none⟩=some (J .u8 (200+(i:Int)%50)):=by rw [HBz.out.cell (p:=⟨g,j,none⟩) (lt_of_block hg),cell_of_row _ _ _ _ _ _ hg];exact hcj j hj
       clear hg hcs hcj
       have hin:i<=1000000000000000:=by omega
       go_wp2_with fail
       go_quiet ((go_at_call 52;exact Calls.quiet_of_same (Xn _ _ (by omega))))
       go_wp2_with fail
       go_roundg (gk-1)
       case measure=>omega
       case rel=>exact ⟨j+1,by omega,by go_num,zB HBz.out _⟩
      ·have hj':¬ (j:Int)<(c:Int):=by omega
       go_wp2_with fail
       go_roundg (bs.length-(i+1))
       case measure=>omega
       case rel=>exact ⟨i+1,by omega,by go_num,HBz.out⟩
    ·have hlt':¬ (i:Int)<(bs.length:Int):=by omega
     go_wp2_with fail
     go_ret
     exact ⟨rfl,HB.out⟩
theorem Tryz.infoBs:(Tryz.prog.info? 48).map (fun i=>(i.zero,i.size,i.bytes))=some (some (O none 0 0),1,24):=by kernel_rfl
theorem Tryz.infoCode:(Tryz.prog.info? 127).map (fun i=>(i.zero,i.size,i.bytes))=some (some (.agg #[.string ByteArray.empty,.string ByteArray.empty]),2,32):=by kernel_rfl
theorem MkL.ne {w:World} {t:TypeId} {m v:Value} (h:MkL w t m v) {w':World} (hk:∀ (g:Nat) (cur:Array Value),w.heap[g]?=some (Q cur t (0,0))->w'.heap[g]?=w.heap[g]?):MkL w' t m v:=h.of_kept hk
theorem ST.pushB {w w4:World} {base SB n wv cv sv iv bv cs is bs} {nv v:Value} (h:ST w base SB n wv cv sv iv bv cs is bs) (hg:w.grownBy w4 bv.ownBlock) (hown:w4.ownsRow base 48 1 nv (bs.length+1) (bs++[v])) (hm:MkL w 5 (J .u8 (200+(bs.length:Int)%50)) v) (hn:bs.length+1<=n) :
 ST (w4.setCell ⟨SB,4,none⟩ nv) base SB n wv cv sv iv nv cs is (bs++[v]):=by
 have hne:bv.ownBlock≠some SB:=zj h.br h.blk (by decide)
 have hb4:=(hg.block SB h.lt (fun e=>hne e.symm)).trans h.blk
 have hkI:∀ (g:Nat) (cur:Array Value),w.heap[g]?=some (Q cur 3 (0,0))->(w4.setCell ⟨SB,4,none⟩ nv).heap[g]?=w.heap[g]?:=fun g cur hc=>by
  rw [za (fun e=>by subst e;rw [h.blk] at hc;cases hc)]
  exact hg.block g (lt_of_block hc) (fun e=>zj h.br hc (by decide) e.symm)
 have hkB:∀ (g:Nat) (cur:Array Value),w.heap[g]?=some (Q cur 5 (0,0))->(w4.setCell ⟨SB,4,none⟩ nv).heap[g]?=w.heap[g]?:=fun g cur hc=>by
  rw [za (fun e=>by subst e;rw [h.blk] at hc;cases hc)]
  exact hg.block g (lt_of_block hc) (fun e=>zj h.br hc (by decide) e.symm)
 have hc4:=h.cr.kept hg (zS h.cr h.br (by decide))
 have hi4:=h.ir.kept hg (zS h.ir h.br (by decide))
 refine ⟨?_,ownsRow_setCell_other hc4 (zj hc4 hb4 (by decide)) _,ownsRow_setCell_other hi4 (zj hi4 hb4 (by decide)) _,?_,h.ok,fun i v' hv=>(h.im i v' hv).of_kept hkI,fun i v' hv=>?_,h.hB,h.nc,h.ni,by simp;exact hn⟩
 ·rw [Ya hb4];rfl
 ·rw [List.length_append];exact ownsRow_setCell_other hown (zj hown hb4 (by decide)) _
 ·by_cases hi:i<bs.length
  ·rw [List.getElem?_append_left hi] at hv
   exact (h.bm i v' hv).of_kept hkB
  ·rw [List.getElem?_append_right (by omega)] at hv
   have hi2:i=bs.length:=by
    have:=(List.getElem?_eq_some_iff.1 hv).1
    simp at this;omega
   subst hi2
   simp at hv
   subst hv
   exact hm.of_kept hkB
theorem ST.pushC {w w4:World} {base SB n wv cv sv iv bv cs is bs} {nv:Value} {x:ByteArray×ByteArray} (h:ST w base SB n wv cv sv iv bv cs is bs) (hg:w.grownBy w4 cv.ownBlock) (hown:w4.ownsRow base 127 2 nv (cs.length+1) (cdC cs++[.string x.1,.string x.2])) (hx:cpE x.1=0/\x.2=strOfNums (cpX x.1)) (hn:cs.length+1<=n) :
 ST (w4.setCell ⟨SB,1,none⟩ nv) base SB n wv nv sv iv bv (cs++[x]) is bs:=by
 have hne:cv.ownBlock≠some SB:=zj h.cr h.blk (by decide)
 have hb4:=(hg.block SB h.lt (fun e=>hne e.symm)).trans h.blk
 have hkI:∀ (g:Nat) (cur:Array Value),w.heap[g]?=some (Q cur 3 (0,0))->(w4.setCell ⟨SB,1,none⟩ nv).heap[g]?=w.heap[g]?:=fun g cur hc=>by
  rw [za (fun e=>by subst e;rw [h.blk] at hc;cases hc)]
  exact hg.block g (lt_of_block hc) (fun e=>zj h.cr hc (by decide) e.symm)
 have hkB:∀ (g:Nat) (cur:Array Value),w.heap[g]?=some (Q cur 5 (0,0))->(w4.setCell ⟨SB,1,none⟩ nv).heap[g]?=w.heap[g]?:=fun g cur hc=>by
  rw [za (fun e=>by subst e;rw [h.blk] at hc;cases hc)]
  exact hg.block g (lt_of_block hc) (fun e=>zj h.cr hc (by decide) e.symm)
 have hb5:=h.br.kept hg (zS h.br h.cr (by decide))
 have hi4:=h.ir.kept hg (zS h.ir h.cr (by decide))
 have e1:cdC (cs++[x])=cdC cs++[.string x.1,.string x.2]:=by simp [cdC]
 refine ⟨?_,?_,ownsRow_setCell_other hi4 (zj hi4 hb4 (by decide)) _,ownsRow_setCell_other hb5 (zj hb5 hb4 (by decide)) _,fun y hy=>?_,fun i v' hv=>(h.im i v' hv).of_kept hkI,fun i v' hv=>(h.bm i v' hv).of_kept hkB,h.hB,by simp;exact hn,h.ni,h.nb⟩
 ·rw [Ya hb4];rfl
 ·rw [e1,List.length_append];exact ownsRow_setCell_other hown (zj hown hb4 (by decide)) _
 ·rcases List.mem_append.1 hy with hy | hy
  ·exact h.ok y hy
  ·simp only [List.mem_singleton] at hy;subst hy;exact hx
theorem zeT {s:ByteArray}:cpE s=if (cSz s).2=0/\1000<(cSz s).1 then 8 else (cSz s).2:=by
 unfold cpE cSz
 by_cases h:(ZG s).1=0
 ·simp [h]
 ·simp [h]
theorem Q9 {s:ByteArray} (h:cpE s=0):(ZG s).1=0/\szR (zy s).es (zy s).es.length<=1000/\1<=(cpX s).length/\(cpX s).length<=7000:=by
 have h1:(ZG s).1=0:=by
  unfold cpE at h
  split at h
  ·assumption
  ·exact h
 have h2:szR (zy s).es (zy s).es.length<=1000:=by
  unfold cpE at h
  rw [if_pos h1] at h
  split at h
  ·cases h
  ·omega
 obtain ⟨hp,hg⟩:=Q8 h1
 have h3:=hg.enc_pos
 rw [Nat.sub_add_cancel hp] at h3
 have h4:=JH (zy s).es (zy s).es.length h2
 refine ⟨h1,h2,h3,?_⟩
 unfold cpX
 omega
theorem J7 (t e:TypeId) (h:Tryz.prog.underlying t=some (.slice e)) (w:World):(binOp .eql t (O none 0 0) (O none 0 0)).run Tryz.prog w=.ok (.bool true) w:=by
 simp only [binOp]
 simp [run_equal_slice_nil w t e none 0 0 h]
theorem ja (base SB n:Nat) (wv cv sv iv bv:Value) (cs:List (ByteArray×ByteArray)) (is bs:List Value) (s:ByteArray) (w:World) (hn:(n+1)*56<=140737488355328) (h:ST w base SB n wv cv sv iv bv cs is bs) :
 Calls Tryz.prog 45 #[.pointer (some ⟨SB,0,none⟩),.string s] w fun e w'=>e=.returned (.bool true)/\Below base w w'/\∃ cv' bv' cs' bs',ST w' base SB (n+1) wv cv' sv iv bv' cs' is bs':=by
 obtain ⟨i0,hi0,hz0,hz1,hz2⟩:=info_parts Tryz.infoBs
 obtain ⟨j0,hj0,hy0,hy1,hy2⟩:=info_parts Tryz.infoCode
 have H:Hid _:=h
 have HBS:Hid (base<=w.heap.size):=Nat.le_trans h.hB (Nat.le_of_lt h.lt)
 have HCP:Hid (∀ wz,Calls Tryz.prog 25 #[.string s] wz (ze6 wz (cpE s) (cpX s))):=fun wz=>Jb s wz
 have hd:=fun wz=>zbw s wz
 have HER:=zeT (s:=s)
 have HLN:Hid (cpE s=0->(ZG s).1=0/\szR (zy s).es (zy s).es.length<=1000/\1<=(cpX s).length/\(cpX s).length<=7000):=Q9
 obtain ⟨z,hz⟩:∃ z,cSz s=z:=⟨_,rfl⟩
 rw [hz] at hd HER
 clear hz h
 obtain ⟨z1,z2⟩:=z
 simp only at HER hd
 have HERR:Hid _:=HER
 clear HER
 obtain ⟨E,HE⟩:∃ E,Hid (cpE s=E):=⟨_,rfl⟩
 rw [HE.out] at HCP HERR HLN
 obtain ⟨X,HX⟩:∃ X,Hid (cpX s=X):=⟨_,rfl⟩
 rw [HX.out] at HCP HLN
 go_enter Tryz.func45,Tryz.ntmps45
 go_wp2_with fail
 refine (HCP.out _).mono ?_
 rintro e w1 ⟨hb1,o,m,k,rfl,hne,heq⟩
 have HB1:Hid _:=hb1
 have HNE:Hid _:=hne
 have HEQ:Hid _:=heq
 clear hb1 hne heq
 go_wp2_with fail
 refine (hd _).mono ?_
 rintro e w2 ⟨hb2,rfl⟩
 have HB2:Hid _:=HB1.out.trans (hb2.mono HB1.out.size)
 have HR2:Hid (E=0->m=X.length/\w2.ownsRow w.heap.size 5 1 (O o m k) X.length (X.map (Value.int .u8))):=fun h=>⟨(HEQ.out h).1,zh (HEQ.out h).2 (fun g hg=>hb2.block g ((HEQ.out h).2.lt g hg).2)⟩
 clear hb2 hd
 by_cases h2:z2=0
 ·subst h2
  by_cases h3:1000<z1
  ·have h8:E=8:=by rw [HERR.out,if_pos ⟨rfl,h3⟩]
   subst h8
   obtain ⟨rfl,rfl,rfl⟩:=HNE.out (by decide)
   have hnil:=fun wz=>J7 48 5 Tryz.underlying48 wz
   go_wp2_with fail
   go_ret
   exact ⟨rfl,HB2.out.mono HBS.out,cv,bv,cs,bs,(H.out.below HB2.out).mono⟩
  ·have h0:E=0:=by rw [HERR.out,if_neg (by omega)]
   subst h0
   have h3':decide (1000<z1)=false:=decide_eq_false h3
   obtain ⟨hm,hrow⟩:=HR2.out rfl
   subst hm
   obtain ⟨_,_,hl1,hl2⟩:=HLN.out rfl
   obtain ⟨g,kk,hgk,hgw,hgl⟩:=hrow.form (by omega)
   obtain ⟨ho,hkk⟩:o=some ⟨g,0,none⟩/\k=kk:=by cases hgk;exact ⟨rfl,rfl⟩
   subst ho
   clear hkk
   have HROW:Hid _:=hrow
   obtain ⟨cur0,hcur0,hc0s,hk0⟩:∃ cur,w2.heap[g]?=some (Q cur 5 (0,0))/\cur.size=k/\k<=9223372036854775807:=by
    rcases hrow.2 with ⟨h1,_⟩ | ⟨g',cap,cur,h1,_,h4,_,h6,h7,_⟩
    ·cases h1
    ·cases h1;exact ⟨cur,h4,by omega,h6⟩
   have HC0:Hid _:=hcur0
   have hxk:X.length<=k:=by obtain ⟨_,_,h1,h2⟩:=yd hrow;cases h1;exact h2
   have hcv:=run_convert_bytes_arg (P:=Tryz.prog) w2 48 5 Tryz.underlying48 Tryz.underlying5 g 0 X.length k X rfl (fun i hi=>by
    have:=World.ownsRow.cellAt HROW.out i (by omega)
    rw [Nat.zero_add,this]
    simp [hi]) 9 Tryz.underlying9
   have HKS:Hid ((strOfNums X).size=X.length):=strOfNums_size X
   have HXS:Hid _:=HX
   obtain ⟨kp,hkp⟩:∃ kp,strOfNums X=kp:=⟨_,rfl⟩
   have HKP:Hid _:=hkp
   rw [hkp] at hcv
   have hkz:kp.size=X.length:=by rw [<- hkp];exact HKS.out
   have HST2:Hid (ST w2 base SB (n+1) wv cv sv iv bv cs is bs):=(H.out.below HB2.out).mono
   obtain ⟨bo,bc,hbv,_⟩:=yd H.out.br
   subst hbv
   have hnb:=H.out.nb
   have hnc:=H.out.nc
   have hkc:(k:Int)<=(k:Int):=Int.le_refl _
   have hgw2:w.heap.size<=g:=(hrow.lt g rfl).1
   clear hrow hgk hcur0 hkp
   go_wp2_with fail
   go_loopg [11] k (fun q y wr=>∃ (i:Nat) (cur:Array Value),q+i=k/\y=J Z i/\wr.heap[g]?=some (Q cur 5 (0,0))/\cur.size=k/\(∀ j,j<i->cur[j]?=some (J .u8 (200+(bs.length:Int)%50)))/\Below w.heap.size w wr)
   case atStart=>exact ⟨0,cur0,by omega,rfl,HC0.out,hc0s,fun j hj=>by omega,HB2.out⟩
   case round =>
    obtain ⟨i,cur,hq,rfl,hcu,hcs,hcm,hb⟩:=hrel
    have HCU:Hid _:=hcu
    have HCM:Hid _:=hcm
    have HB:Hid _:=hb
    have HST:Hid (ST wr base SB (n+1) wv cv sv iv (O bo bs.length bc) cs is bs):=(H.out.below hb).mono
    have c4:=HST.out.c 4
    simp only [List.getElem?_toArray,List.getElem?_cons_succ,List.getElem?_cons_zero] at c4
    clear hcu hcm hb
    by_cases hlt:i<k
    ·have hlt':(i:Int)<(k:Int):=by omega
     have hi0:(0:Int)<=(i:Int):=by omega
     obtain ⟨cv0,hcv0⟩:∃ v,wr.cell? ⟨g,i,none⟩=some v:=⟨cur[i]'(by omega),by rw [cell_of_row _ _ _ _ _ _ HCU.out];exact Array.getElem?_eq_getElem (by omega)⟩
     have hfz:wr.frozen? ⟨g,i,none⟩=false:=by simp [World.frozen?,HCU.out]
     have hnb2:bs.length<=9223372036854775807:=by omega
     go_wp2_with fail
     refine (Xn bs.length _ hnb2).mono ?_
     rintro e w' ⟨rfl,hw'⟩
     subst w'
     generalize hmk:200+(bs.length:Int)%50=mk at *
     go_wp2_with fail
     go_roundg (gk-1)
     case measure=>omega
     case rel =>
      refine ⟨i+1,cur.setIfInBounds i (J .u8 mk),by omega,by go_num,?_,by simp [hcs],fun j hj=>?_,HB.out.setCell hgw2 _⟩
      ·simp [World.setCell,Array.getElem?_modify,HCU.out]
      ·rw [Array.getElem?_setIfInBounds]
       by_cases hji:i=j
       ·rw [if_pos hji,if_pos (by omega)]
       ·rw [if_neg hji];exact HCM.out j (by omega)
    ·have hik:i=k:=by omega
     subst hik
     have hlt':¬ (i:Int)<(i:Int):=by omega
     have hMK:Hid (MkL wr 5 (J .u8 (200+(bs.length:Int)%50)) (O (some ⟨g,0,none⟩) i i)):=⟨_,i,rfl,hk0,fun _=>⟨g,cur,rfl,HCU.out,hcs,HCM.out⟩⟩
     have hbsr:base<=wr.heap.size:=Nat.le_trans HBS.out HB.out.size
     have hSB:SB<wr.heap.size:=HST.out.lt
     have hA1:Hid (bs.length+1<=maxLen):=by show _<=_;unfold maxLen;omega
     have hA2:Hid ((bs.length+1)*24<=140737488355328):=by show _<=_;omega
     have hA3:Hid (base<=(wr.alloc (Q #[O (some ⟨g,0,none⟩) i i] 48)).heap.size):=by show _<=_;simp;omega
     have hone:Hid (∀ u∈[O (some ⟨g,0,none⟩) i i],u.oneCell'=true):=fun u hu=>by simp at hu;subst hu;rfl
     have HSA:Hid (ST (wr.alloc (Q #[O (some ⟨g,0,none⟩) i i] 48)) base SB (n+1) wv cv sv iv (O bo bs.length bc) cs is bs):=HST.out.below ((Below.refl _ _).alloc (Nat.le_refl _) _)
     have HMA:Hid (MkL (wr.alloc (Q #[O (some ⟨g,0,none⟩) i i] 48)) 5 (J .u8 (200+(bs.length:Int)%50)) (O (some ⟨g,0,none⟩) i i)):=hMK.out.of_kept (fun q _ hq=>Below.heap_alloc _ _ _ (lt_of_block hq))
     have HNBB:Hid ((O bo bs.length bc).ownBlock≠some SB):=zj HST.out.br HST.out.blk (by decide)
     have hC1:Hid (cs.length+1<=maxLen):=by show _<=_;unfold maxLen;omega
     have hC2:Hid ((cs.length+1)*32<=140737488355328):=by show _<=_;omega
     have hone2:Hid (∀ u∈[Value.string s,Value.string kp],u.oneCell'=true):=fun u hu=>by simp at hu;rcases hu with rfl | rfl<;>rfl
     have hOKX:Hid (cpE s=0/\kp=strOfNums (cpX s)):=⟨HE.out,by rw [HXS.out];exact HKP.out.symm⟩
     go_wp2_with (first | (at_builtin;refine wpList_append_lies _ rfl (.tmp 62) (.tmp 64) 62 rfl base 48 i0 _ 1 24 Tryz.underlying62 hi0 hz0 hz1 hz2 rfl (by decide) (O bo bs.length bc) _ _ rfl HSA.out.br ⟨wr.heap.size,0,none⟩ 1 1 [O (some ⟨g,0,none⟩) i i] rfl rfl (World.news_of_block (cs:=#[O (some ⟨g,0,none⟩) i i]) (t:=48) (fr:=(0,0)) (heap_alloc_new wr _)) hone.out (Nat.lt_succ_self 0) hA1.out hA2.out hA3.out (wr.heap.size+1) (by simp) ?_;intro g4 cap4 w4 hown hgrow hat hlt4;have zz:w4.frozen? ⟨SB,4,none⟩=false:=(hgrow.frozen_far ⟨SB,4,none⟩ (by simp;omega) (fun e=>HNBB.out e.symm)).trans (HSA.out.fz 4);have ccx:w4.cell? ⟨SB,4,none⟩=some (O bo bs.length bc):=(hgrow.cell_far ⟨SB,4,none⟩ (by simp;omega) (fun e=>HNBB.out e.symm)).trans (HSA.out.c 4);have cc1:w4.cell? ⟨SB,1,none⟩=some cv:=(hgrow.cell_far ⟨SB,1,none⟩ (by simp;omega) (fun e=>HNBB.out e.symm)).trans (HSA.out.c 1);have hst4:Hid (ST (w4.setCell ⟨SB,4,none⟩ (O (some ⟨g4,0,none⟩) (bs.length+1) cap4)) base SB (n+1) wv cv sv iv (O (some ⟨g4,0,none⟩) (bs.length+1) cap4) cs is (bs++[O (some ⟨g,0,none⟩) i i])):=HSA.out.pushB hgrow hown HMA.out (by omega);have hbb4:Hid (Below base w (w4.setCell ⟨SB,4,none⟩ (O (some ⟨g4,0,none⟩) (bs.length+1) cap4))):=(((HB.out.mono HBS.out).alloc hbsr _).grown hgrow hA3.out (fun q hq=>(HST.out.br.lt q hq).1)).setCell HST.out.hB _;clear hown hgrow hat hlt4) | (at_builtin;refine wpList_append_lies _ rfl (.tmp 72) (.tmp 76) 60 rfl base 127 j0 _ 2 32 Tryz.underlying60 hj0 hy0 hy1 hy2 rfl (by decide) cv _ _ rfl (hst4.out.below ((Below.refl _ _).alloc (Nat.le_refl _) (Q #[.string s,.string kp] 127))).cr ⟨w4.heap.size,0,none⟩ 1 1 [.string s,.string kp] rfl rfl (World.news_of_block (cs:=#[.string s,.string kp]) (t:=127) (fr:=(0,0)) (zt (w:=(w4.setCell ⟨SB,4,none⟩ (O (some ⟨g4,0,none⟩) (bs.length+1) cap4))) _ (by simp [World.setCell]))) hone2.out (Nat.lt_succ_self 0) hC1.out hC2.out (Nat.le_trans (hst4.out.below ((Below.refl _ _).alloc (Nat.le_refl _) (Q #[.string s,.string kp] 127))).hB (Nat.le_of_lt (hst4.out.below ((Below.refl _ _).alloc (Nat.le_refl _) (Q #[.string s,.string kp] 127))).lt)) (w4.heap.size+1) (by simp [World.setCell]) ?_;intro g5 cap5 w5 hown hgrow hat hlt5;have hnc5:cv.ownBlock≠some SB:=zj (hst4.out.below ((Below.refl _ _).alloc (Nat.le_refl _) (Q #[.string s,.string kp] 127))).cr (hst4.out.below ((Below.refl _ _).alloc (Nat.le_refl _) (Q #[.string s,.string kp] 127))).blk (by decide);have zz5:w5.frozen? ⟨SB,1,none⟩=false:=(hgrow.frozen_far ⟨SB,1,none⟩ (hst4.out.below ((Below.refl _ _).alloc (Nat.le_refl _) (Q #[.string s,.string kp] 127))).lt (fun e=>hnc5 e.symm)).trans ((hst4.out.below ((Below.refl _ _).alloc (Nat.le_refl _) (Q #[.string s,.string kp] 127))).fz 1);have cc5:w5.cell? ⟨SB,1,none⟩=some cv:=(hgrow.cell_far ⟨SB,1,none⟩ (hst4.out.below ((Below.refl _ _).alloc (Nat.le_refl _) (Q #[.string s,.string kp] 127))).lt (fun e=>hnc5 e.symm)).trans ((hst4.out.below ((Below.refl _ _).alloc (Nat.le_refl _) (Q #[.string s,.string kp] 127))).c 1);have hst5:Hid (ST (w5.setCell ⟨SB,1,none⟩ (O (some ⟨g5,0,none⟩) (cs.length+1) cap5)) base SB (n+1) wv (O (some ⟨g5,0,none⟩) (cs.length+1) cap5) sv iv (O (some ⟨g4,0,none⟩) (bs.length+1) cap4) (cs++[(s,kp)]) is (bs++[O (some ⟨g,0,none⟩) i i])):=(hst4.out.below ((Below.refl _ _).alloc (Nat.le_refl _) (Q #[.string s,.string kp] 127))).pushC (x:=(s,kp)) hgrow hown hOKX.out (by omega);have hbb5:Hid (Below base w (w5.setCell ⟨SB,1,none⟩ (O (some ⟨g5,0,none⟩) (cs.length+1) cap5))):=((hbb4.out.alloc (Nat.le_trans hst4.out.hB (Nat.le_of_lt hst4.out.lt)) (Q #[.string s,.string kp] 127)).grown hgrow (Nat.le_trans (hst4.out.below ((Below.refl _ _).alloc (Nat.le_refl _) (Q #[.string s,.string kp] 127))).hB (Nat.le_of_lt (hst4.out.below ((Below.refl _ _).alloc (Nat.le_refl _) (Q #[.string s,.string kp] 127))).lt)) (fun q hq=>((hst4.out.below ((Below.refl _ _).alloc (Nat.le_refl _) (Q #[.string s,.string kp] 127))).cr.lt q hq).1)).setCell hst4.out.hB _;clear hown hgrow hat hlt5))
     refine (HCP.out _).mono ?_
     rintro e w6 ⟨hb6,o6,m6,k6,rfl,hne6,heq6⟩
     obtain ⟨hm6,hrow6⟩:=heq6 rfl
     subst hm6
     obtain ⟨g6,kk6,hgk6,_,_⟩:=hrow6.form (by omega)
     obtain ⟨ho6,hkk6⟩:o6=some ⟨g6,0,none⟩/\k6=kk6:=by cases hgk6;exact ⟨rfl,rfl⟩
     subst ho6
     have hcv6:=run_convert_bytes_arg (P:=Tryz.prog) w6 48 5 Tryz.underlying48 Tryz.underlying5 g6 0 X.length k6 X rfl (fun q hq=>by
      have:=World.ownsRow.cellAt hrow6 q (by omega)
      rw [Nat.zero_add,this]
      simp [hq]) 9 Tryz.underlying9
     rw [HKP.out] at hcv6
     have HS6:Hid _:=hst5.out.below hb6
     have HB6:Hid (Below base w w6):=hbb5.out.trans (hb6.mono (Nat.le_trans hst5.out.hB (Nat.le_of_lt hst5.out.lt)))
     have hk1:(1:Int)<=(kp.size:Int):=by omega
     have hk2:(kp.size:Int)<=32000:=by omega
     clear hrow6 hgk6 hkk6 hb6 hne6 heq6 hcv
     go_wp2_with fail
     go_ret
     exact ⟨rfl,HB6.out,_,_,_,_,HS6.out⟩
 ·have h0:E=z2:=by rw [HERR.out,if_neg (by omega)]
  subst h0
  obtain ⟨rfl,rfl,rfl⟩:=HNE.out h2
  have hnil:=fun wz=>J7 48 5 Tryz.underlying48 wz
  have h2':(E==0)=false:=by simpa using h2
  have h2'':(E != 0)=true:=by simp [bne,h2']
  go_wp2_with fail
  go_ret
  exact ⟨rfl,HB2.out.mono HBS.out,cv,bv,cs,bs,(H.out.below HB2.out).mono⟩
theorem zb0 (Inv:Nat->World->Prop) (wo so:Option Addr) (m wc b off n c pb pn pcap:Nat) (K A B C D:Nat->Int) (S:Nat->ByteArray) (P:Nat->Int) (w:World)
 (hn:n*56<=140737488351232) (hpn:pn<=64) (hs:OS w so b off n K A B C D S) (hpb:pb<w.heap.size) (hp:∀ i,i<pn->w.cell? ⟨pb,i,none⟩=some (J Z (P i)))
 (h0:Inv 0 (w.alloc (st0 wo m wc)))
 (hgrow:∀ (i:Nat) (wq wr:World),Inv i wq->w.heap.size<wq.heap.size->Below wq.heap.size wq wr->Inv i wr/\Inv (i+1) wr)
 (hlooks:∀ (i:Nat) (wq:World),i<=n->Inv i wq->Calls Tryz.prog 31 #[.pointer (some ⟨w.heap.size,0,none⟩)] wq fun e w'=>e=.returned (.bool true)/\Inv i w'/\Below w.heap.size wq w')
 (hstep:∀ (i:Nat) (wq:World),i<n->Inv i wq->Below w.heap.size w wq->w.heap.size<wq.heap.size->qb P (K i) pn=true ->
  Calls Tryz.prog 30 #[.pointer (some ⟨w.heap.size,0,none⟩),.agg #[J Z (K i),J Z (A i),J Z (B i),J Z (C i),J Z (D i),.string (S i)]] wq fun e w'=>e=.returned (.bool true)/\Inv (i+1) w'/\Below w.heap.size wq w') :
 Calls Tryz.prog 12 #[O wo m wc,O so n c,O (some ⟨pb,0,none⟩) pn pcap] w fun e w'=>e=.returned (.bool true)/\Below w.heap.size w w':=by
 have HG:Hid _:=hgrow
 have HP:Hid _:=hp
 have HL:Hid _:=hlooks
 have HS:Hid (∀ (i:Nat) (wq:World),i<n->Inv i wq->Below w.heap.size w wq->w.heap.size<wq.heap.size->qb P (K i) pn=true ->
  Calls Tryz.prog 30 #[.pointer (some ⟨w.heap.size,0,none⟩),.agg #[J Z (K i),J Z (A i),J Z (B i),J Z (C i),J Z (D i),.string (S i)]] wq fun e w'=>e=.returned (.bool true)/\Inv (i+1) w'/\Below w.heap.size wq w'):=hstep
 have H0:Hid _:=h0
 clear hgrow hp hlooks hstep h0
 have hbs:=fun w=>JM wo m wc w
 go_enter Tryz.func12,Tryz.ntmps12
 go_wp2_with fail
 go_loopw [8] (fun x wr=>∃ k:Nat,k<=n/\x=J Z k/\Hid (Inv k wr)/\Below w.heap.size w wr/\w.heap.size<wr.heap.size) (fun x _=>n-(intOf x).toNat)
 case atStart=>exact ⟨0,by omega,rfl,H0,(Below.refl _ _).alloc (Nat.le_refl _) _,by simp⟩
 case round =>
  obtain ⟨k,hk,rfl,hinv,hb,hz⟩:=hrel
  clear hbs H0
  by_cases hlt:k<n
  ·obtain rfl:=hs.at_ (by omega)
   have hsr:=hs.below hb
   have hsz:b<wr.heap.size:=hsr.lt (by omega)
   have c0:=hsr.k k hlt
   have c1:=hsr.a k hlt
   have c2:=hsr.b_ k hlt
   have c3:=hsr.c k hlt
   have c4:=hsr.d k hlt
   have c5:=hsr.s k hlt
   have HB:Hid _:=hb
   clear hsr hb
   have hk58:(k:Int)<288230376151711744:=by omega
   have HA:Hid (∀ o:Obj,Below wr.heap.size wr (wr.alloc o)):=fun o=>(Below.refl _ _).alloc (Nat.le_refl _) o
   have HPr:Hid (∀ o:Obj,∀ i,i<pn->(wr.alloc o).cell? ⟨pb,i,none⟩=some (J Z (P i))):=fun o i hi=>by
    rw [(HB.out.trans ((HA.out o).mono HB.out.size)).cell (p:=⟨pb,i,none⟩) hpb];exact HP.out i hi
   go_wp2_with fail
   refine (zbu pb pn pcap P _ _ hpn (HPr.out _)).mono ?_
   rintro e w' ⟨rfl,hww⟩
   subst w'
   cases e1:qb P (K k) pn with
   | false =>
    go_wp2_with fail
    go_roundw
    case rel=>exact ⟨k+1,by omega,by go_num,(HG.out _ _ _ hinv.out hz (HA.out _)).2,HB.out.trans ((HA.out _).mono HB.out.size),by simp;omega⟩
    case measure=>simp [intOf];omega
   | true =>
    have HS':=fun wq=>HS.out k wq hlt
    have HS2:Hid _:=HS'
    clear HS'
    go_wp2_with fail
    refine (HS2.out _ (HG.out _ _ _ hinv.out hz (HA.out _)).1 (HB.out.trans ((HA.out _).mono HB.out.size)) (by simp;omega) e1).mono ?_
    rintro e w1 ⟨rfl,hinv1,hb1⟩
    have HI1:Hid _:=hinv1
    have hz1:=hb1.size
    simp at hz1
    have HB1:Hid (Below w.heap.size w w1):=(HB.out.trans ((HA.out _).mono HB.out.size)).trans hb1
    clear hinv1 hb1
    go_wp2_with fail
    refine (HL.out _ _ hlt HI1.out).mono ?_
    rintro e w2 ⟨rfl,hinv2,hb2⟩
    have HI2:Hid _:=hinv2
    have hz2:=hb2.size
    have HB2:Hid _:=HB1.out.trans hb2
    clear hinv2 hb2
    go_wp2_with fail
    go_roundw
    case rel=>exact ⟨k+1,by omega,by go_num,HI2,HB2.out,by omega⟩
    case measure=>simp [intOf];omega
  ·have hkn:k=n:=by omega
   subst hkn
   go_wp2_with fail
   go_ret
   exact ⟨rfl,hb⟩
theorem QO (base SB n:Nat) (wv cv sv iv bv:Value) (cs:List (ByteArray×ByteArray)) (is bs:List Value) (oa ob oc od:Int) (s:ByteArray) (w:World) (hn:(n+1)*56<=140737488355328) (h:ST w base SB n wv cv sv iv bv cs is bs) :
 Calls Tryz.prog 30 #[.pointer (some ⟨SB,0,none⟩),.agg #[J Z 4,J Z oa,J Z ob,J Z oc,J Z od,.string s]] w fun e w'=>e=.returned (.bool true)/\Below base w w'/\∃ cv' bv' cs' bs',ST w' base SB (n+1) wv cv' sv iv bv' cs' is bs':=by
 have H:Hid _:=h
 have HB0:Hid (Below w.heap.size w (w.alloc (Q #[J Z 4,J Z oa,J Z ob,J Z oc,J Z od,.string s] 66))):=(Below.refl _ _).alloc (Nat.le_refl _) _
 have HBS:Hid (base<=w.heap.size):=Nat.le_trans h.hB (Nat.le_of_lt h.lt)
 clear h
 go_enter Tryz.func30,Tryz.ntmps30
 go_wp2_with fail
 refine (ja base SB n wv cv sv iv bv cs is bs s _ hn (H.out.below HB0.out)).mono ?_
 rintro e w2 ⟨rfl,hb2,hst⟩
 have HB2:Hid (Below base w w2):=(HB0.out.mono HBS.out).trans hb2
 have HST:Hid _:=hst
 clear hb2 hst
 go_wp2_with fail
 go_ret
 exact ⟨rfl,HB2.out,HST.out⟩
end Go.Proofs.YtaebngpoagjafaaGreat
