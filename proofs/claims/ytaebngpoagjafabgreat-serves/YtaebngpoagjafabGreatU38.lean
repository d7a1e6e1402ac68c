import Derived.Test.YtaebngpoagjafabGreatU37
import Derived.Laws.Cover3
set_option maxRecDepth 100000
set_option maxHeartbeats 1600000
namespace Go.Proofs.YtaebngpoagjafabGreat
open Value renaming int → J, slice → O
open IntKind renaming i64 → Z
open Go.RowKit
attribute [local go_sem ↓] Go.wp_at_zero Go.wp_at_succ
theorem zcu (Inv:Nat->World->Prop) (wo so:Option Addr) (m wc b off n c pb pn pcap:Nat) (K A B C D:Nat->Int) (S:Nat->ByteArray) (P:Nat->Int) (w:World)
 (hn:n*56<=140737488351232) (hpn:pn<=64) (hs:OS w so b off n K A B C D S) (hpb:pb<w.heap.size) (hp:∀ i,i<pn->w.cell? ⟨pb,i,none⟩=some (J Z (P i)))
 (h0:Inv 0 (w.alloc (st0 wo m wc)))
 (hgrow:∀ (i:Nat) (wq wr:World),Inv i wq->w.heap.size<wq.heap.size->Below wq.heap.size wq wr->Inv i wr/\Inv (i+1) wr)
 (hlooks:∀ (i:Nat) (wq:World),i<=n->Inv i wq->Calls Tryz.prog 15 #[.pointer (some ⟨w.heap.size,0,none⟩)] wq fun e w'=>e=.returned (.bool true)/\Inv i w'/\Below w.heap.size wq w')
 (hstep:∀ (i:Nat) (wq:World),i<n->Inv i wq->Below w.heap.size w wq->w.heap.size<wq.heap.size->X6 P (K i) pn=true ->
  Calls Tryz.prog 14 #[.pointer (some ⟨w.heap.size,0,none⟩),.agg #[J Z (K i),J Z (A i),J Z (B i),J Z (C i),J Z (D i),.string (S i)]] wq fun e w'=>e=.returned (.bool true)/\Inv (i+1) w'/\Below w.heap.size wq w') :
 Calls Tryz.prog 6 #[O wo m wc,O so n c,O (some ⟨pb,0,none⟩) pn pcap] w fun e w'=>e=.returned (.bool true)/\Below w.heap.size w w':=by
 have W:Hid _:=hgrow
 have HP:Hid _:=hp
 have HL:Hid _:=hlooks
 have HS:Hid (∀ (i:Nat) (wq:World),i<n->Inv i wq->Below w.heap.size w wq->w.heap.size<wq.heap.size->X6 P (K i) pn=true ->
  Calls Tryz.prog 14 #[.pointer (some ⟨w.heap.size,0,none⟩),.agg #[J Z (K i),J Z (A i),J Z (B i),J Z (C i),J Z (D i),.string (S i)]] wq fun e w'=>e=.returned (.bool true)/\Inv (i+1) w'/\Below w.heap.size wq w'):=hstep
 have X:Hid _:=h0
 clear hgrow hp hlooks hstep h0
 have G:=fun w=>J2 wo m wc w
 go_enter Tryz.func6,Tryz.ntmps6
 go_wp2_with fail
 go_loopw [8] (fun x wr=>∃ k:Nat,k<=n/\x=J Z k/\Hid (Inv k wr)/\Below w.heap.size w wr/\w.heap.size<wr.heap.size) (fun x _=>n-(intOf x).toNat)
 case atStart=>exact ⟨0,by omega,rfl,X,(Below.refl _ _).alloc (Nat.le_refl _) _,by simp⟩
 case round =>
  obtain ⟨k,hk,rfl,l,z,U⟩:=hrel
  clear G X
  by_cases g:k<n
  ·obtain rfl:=hs.at_ (by omega)
   have f:=hs.below z
   have a2:b<wr.heap.size:=f.lt (by omega)
   have c0:=f.k k g
   have c1:=f.a k g
   have c2:=f.b_ k g
   have c3:=f.c k g
   have c4:=f.d k g
   have c5:=f.s k g
   have q:Hid _:=z
   clear f z
   have V:(k:Int)<288230376151711744:=by omega
   have v:Hid (∀ o:Obj,Below wr.heap.size wr (wr.alloc o)):=fun o=>(Below.refl _ _).alloc (Nat.le_refl _) o
   have I:Hid (∀ o:Obj,∀ i,i<pn->(wr.alloc o).cell? ⟨pb,i,none⟩=some (J Z (P i))):=fun o i hi=>by
    rw [(q.out.trans ((v.out o).mono q.out.size)).cell (p:=⟨pb,i,none⟩) hpb];exact HP.out i hi
   go_wp2_with fail
   refine (zbU pb pn pcap P _ _ hpn (I.out _)).mono ?_
   rintro e w' ⟨rfl,a1⟩
   subst w'
   cases e1:X6 P (K k) pn with
   | false =>
    go_wp2_with fail
    go_roundw
    case rel=>exact ⟨k+1,by omega,by go_num,(W.out _ _ _ l.out U (v.out _)).2,q.out.trans ((v.out _).mono q.out.size),by simp;omega⟩
    case measure=>simp [intOf];omega
   | true =>
    have y:=fun wq=>HS.out k wq g
    have H:Hid _:=y
    clear y
    go_wp2_with fail
    refine (H.out _ (W.out _ _ _ l.out U (v.out _)).1 (q.out.trans ((v.out _).mono q.out.size)) (by simp;omega) e1).mono ?_
    rintro e Y ⟨rfl,j,u⟩
    have N:Hid _:=j
    have E:=u.size
    simp at E
    have R:Hid (Below w.heap.size w Y):=(q.out.trans ((v.out _).mono q.out.size)).trans u
    clear j u
    go_wp2_with fail
    refine (HL.out _ _ g N.out).mono ?_
    rintro e w2 ⟨rfl,h,r⟩
    have L:Hid _:=h
    have a0:=r.size
    have Q:Hid _:=R.out.trans r
    clear h r
    go_wp2_with fail
    go_roundw
    case rel=>exact ⟨k+1,by omega,by go_num,L,Q.out,by omega⟩
    case measure=>simp [intOf];omega
  ·have F:k=n:=by omega
   subst F
   go_wp2_with fail
   go_ret
   exact ⟨rfl,z⟩
def MkL (w:World) (t:TypeId) (m:Value) (v:Value):Prop:=∃ o c,v=O o c c/\c<=9223372036854775807/\(0<c->∃ (g:Nat) (cur:Array Value),o=some ⟨g,0,none⟩/\w.heap[g]?=some (.cells cur t (0,0))/\cur.size=c/\∀ j,j<c->cur[j]?=some m)
theorem MkL.of_kept {w w':World} {t:TypeId} {m v:Value} (h:MkL w t m v) (hk:∀ (g:Nat) (cur:Array Value),w.heap[g]?=some (.cells cur t (0,0))->w'.heap[g]?=w.heap[g]?):MkL w' t m v:=by
 obtain ⟨o,c,j,b,i⟩:=h
 refine ⟨o,c,j,b,fun h0=>?_⟩
 obtain ⟨g,cur,f,a,e,d⟩:=i h0
 exact ⟨g,cur,f,(hk g cur a).trans a,e,d⟩
def cdC (cs:List (ByteArray×ByteArray)):List Value:=cs.flatMap (fun x=>[.string x.1,.string x.2])
structure ST (w:World) (base SB n:Nat) (wv cv sv iv bv:Value) (cs:List (ByteArray×ByteArray)) (is bs:List Value):Prop where
 blk:w.heap[SB]?=some (.cells #[wv,cv,sv,iv,bv] 51 (0,0))
 cr:w.ownsRow base 124 2 cv cs.length (cdC cs)
 ir:w.ownsRow base 25 1 iv is.length is
 br:w.ownsRow base 57 1 bv bs.length bs
 ok:∀ x∈cs,cpE x.1=0/\x.2=strOfNums (cpX x.1)
 im:∀ (i:Nat) (v:Value),is[i]?=some v->MkL w 3 (J Z (-1000-(i:Int))) v
 bm:∀ (i:Nat) (v:Value),bs[i]?=some v->MkL w 5 (J .u8 (200+(i:Int)%50)) v
 hB:base<=SB
 nc:cs.length<=n
 ni:is.length<=n
 nb:bs.length<=n
theorem ST.lt {w:World} {base SB n wv cv sv iv bv cs is bs} (h:ST w base SB n wv cv sv iv bv cs is bs):SB<w.heap.size:=lt_of_block h.blk
theorem ST.below {w w':World} {base SB n wv cv sv iv bv cs is bs} (h:ST w base SB n wv cv sv iv bv cs is bs) (hb:Below w.heap.size w w'):ST w' base SB n wv cv sv iv bv cs is bs :=
 ⟨(hb.block _ h.lt).trans h.blk,zh h.cr (fun g hg=>hb.block g (h.cr.lt g hg).2),zh h.ir (fun g hg=>hb.block g (h.ir.lt g hg).2),zh h.br (fun g hg=>hb.block g (h.br.lt g hg).2),h.ok,fun i v hv=>(h.im i v hv).of_kept (fun g _ hg=>hb.block g (lt_of_block hg)),fun i v hv=>(h.bm i v hv).of_kept (fun g _ hg=>hb.block g (lt_of_block hg)),h.hB,h.nc,h.ni,h.nb⟩
theorem ST.mono {w:World} {base SB n wv cv sv iv bv cs is bs} (h:ST w base SB n wv cv sv iv bv cs is bs):ST w base SB (n+1) wv cv sv iv bv cs is bs :=
 ⟨h.blk,h.cr,h.ir,h.br,h.ok,h.im,h.bm,h.hB,by have:=h.nc;omega,by have:=h.ni;omega,by have:=h.nb;omega⟩
theorem ST.c {w:World} {base SB n wv cv sv iv bv cs is bs} (h:ST w base SB n wv cv sv iv bv cs is bs) (j:Nat):w.cell? ⟨SB,j,none⟩=#[wv,cv,sv,iv,bv][j]?:=by rw [cell_of_row _ _ _ _ _ _ h.blk]
theorem ST.fz {w:World} {base SB n wv cv sv iv bv cs is bs} (h:ST w base SB n wv cv sv iv bv cs is bs) (j:Nat):w.frozen? ⟨SB,j,none⟩=false:=by simp [World.frozen?,h.blk]
theorem Q7 (n:Nat) (w:World) (hn:n<=9223372036854775807):Calls Tryz.prog 39 #[J Z n] w fun e w'=>e=.returned (J .u8 (200+(n:Int)%50))/\w'=w:=by
 have a:(n:Int).tmod 50=(n:Int)%50:=Int.tmod_eq_emod_of_nonneg (by omega)
 have d:0<=(n:Int)%50:=by omega
 have b:(n:Int)%50<50:=by omega
 generalize hq:(n:Int)%50=q at *
 clear hq
 go_enter Tryz.func39,Tryz.ntmps39
 go_wp2_with fail
 go_ret
 exact ⟨rfl,rfl⟩
theorem XX (n:Nat) (w:World) (hn:n<=1000000000000000):Calls Tryz.prog 38 #[J Z n] w fun e w'=>e=.returned (J Z (-1000-(n:Int)))/\w'=w:=by
 go_enter Tryz.func38,Tryz.ntmps38
 go_wp2_with fail
 go_ret
 exact ⟨rfl,rfl⟩
theorem zbg (base SB n:Nat) (wv cv sv iv bv:Value) (cs:List (ByteArray×ByteArray)) (is bs:List Value) (w:World) (hn:n<=1000000000000000) (h:ST w base SB n wv cv sv iv bv cs is bs) :
 Calls Tryz.prog 15 #[.pointer (some ⟨SB,0,none⟩)] w fun e w'=>e=.returned (.bool true)/\Below w.heap.size w w':=by
 have H:Hid _:=h
 clear h
 go_enter Tryz.func15,Tryz.ntmps15
 go_wp2_with fail
 have c3:=H.out.c 3
 have c4:=H.out.c 4
 have y:=H.out.lt
 have HI:=H.out.im
 have V:=H.out.bm
 have b0:=H.out.ni
 have b1:=H.out.nb
 obtain ⟨io,W,r,_⟩:=z9 H.out.ir
 obtain ⟨bo,bc,a5,_⟩:=z9 H.out.br
 have R:Hid (w.ownsRow base 25 1 iv is.length is):=H.out.ir
 have S:Hid (w.ownsRow base 57 1 bv bs.length bs):=H.out.br
 have a8:Hid _:=HI
 have U:Hid _:=V
 simp only [List.getElem?_toArray,List.getElem?_cons_succ,List.getElem?_cons_zero] at c3 c4
 clear HI V H
 subst r a5
 go_loopg [3] is.length (fun q x wr=>∃ i:Nat,q+i=is.length/\x=J Z i/\Below w.heap.size w wr)
 case atStart=>exact ⟨0,by omega,rfl,Below.refl _ _⟩
 case round =>
  obtain ⟨i,hq,rfl,I⟩:=hrel
  have P:Hid _:=I
  have cq:wr.cell? ⟨SB,3,none⟩=some (O io is.length W):=by rw [I.cell (p:=⟨SB,3,none⟩) y];exact c3
  clear I
  by_cases C:i<is.length
  ·have m:(i:Int)<(is.length:Int):=by omega
   have a1:(0:Int)<=(i:Int):=by omega
   obtain ⟨v,B⟩:∃ v,is[i]?=some v:=⟨is[i],List.getElem?_eq_getElem C⟩
   obtain ⟨o,c,A,a3,l⟩:=a8.out i v B
   subst A
   have K:Hid _:=l
   obtain ⟨f,z,s,_,d⟩:=R.out.form (by omega)
   obtain ⟨r,_⟩:io=some ⟨f,0,none⟩/\W=z:=by cases s;exact ⟨rfl,rfl⟩
   subst r
   have a:w.cell? ⟨f,i,none⟩=some (O o c c):=by rw [World.ownsRow.cellAt R.out i (by omega)];exact B
   have N:Hid _:=a
   have G:wr.cell? ⟨f,i,none⟩=some (O o c c):=by rw [P.out.cell (p:=⟨f,i,none⟩) d];exact a
   have L:Hid _:=c3
   clear s B l a
   go_wp2_with fail
   go_loopg [4] c (fun q x wz=>∃ j:Nat,q+j=c/\x=J Z j/\Below w.heap.size w wz)
   case atStart=>exact ⟨0,by omega,rfl,P.out⟩
   case round =>
    obtain ⟨j,X,rfl,b⟩:=hrel
    have k:Hid _:=b
    have a7:wr.cell? ⟨SB,3,none⟩=some (O (some ⟨f,0,none⟩) is.length W):=by rw [b.cell (p:=⟨SB,3,none⟩) y];exact L.out
    have a2:wr.cell? ⟨f,i,none⟩=some (O o c c):=by rw [b.cell (p:=⟨f,i,none⟩) d];exact N.out
    clear b
    by_cases hj:j<c
    ·have D:(j:Int)<(c:Int):=by omega
     have a0:(0:Int)<=(j:Int):=by omega
     obtain ⟨g,a6,Y,E,F,u⟩:=K.out (by omega)
     subst Y
     have a4:wr.cell? ⟨g,j,none⟩=some (J Z (-1000-(i:Int))):=by rw [k.out.cell (p:=⟨g,j,none⟩) (lt_of_block E),cell_of_row _ _ _ _ _ _ E];exact u j hj
     clear E F u
     have Q:i<=1000000000000000:=by omega
     go_wp2_with fail
     go_quiet ((go_at_call 38;exact Calls.quiet_of_same (XX _ _ Q)))
     go_wp2_with fail
     go_roundg (gk-1)
     case measure=>omega
     case rel=>exact ⟨j+1,by omega,by go_num,zL k.out _⟩
    ·have D:¬ (j:Int)<(c:Int):=by omega
     go_wp2_with fail
     go_roundg (is.length-(i+1))
     case measure=>omega
     case rel=>exact ⟨i+1,by omega,by go_num,k.out⟩
  ·have m:¬ (i:Int)<(is.length:Int):=by omega
   go_wp2_with fail
   have a9:Hid _:=P.out
   go_loopg [5] bs.length (fun q x wr=>∃ i:Nat,q+i=bs.length/\x=J Z i/\Below w.heap.size w wr)
   case atStart=>exact ⟨0,by omega,rfl,a9.out⟩
   case round =>
    obtain ⟨i,hq,rfl,I⟩:=hrel
    have P:Hid _:=I
    have cq:wr.cell? ⟨SB,4,none⟩=some (O bo bs.length bc):=by rw [I.cell (p:=⟨SB,4,none⟩) y];exact c4
    clear I
    by_cases C:i<bs.length
    ·have m:(i:Int)<(bs.length:Int):=by omega
     have a1:(0:Int)<=(i:Int):=by omega
     obtain ⟨v,B⟩:∃ v,bs[i]?=some v:=⟨bs[i],List.getElem?_eq_getElem C⟩
     obtain ⟨o,c,A,a3,l⟩:=U.out i v B
     subst A
     have K:Hid _:=l
     obtain ⟨f,z,s,_,d⟩:=S.out.form (by omega)
     obtain ⟨r,_⟩:bo=some ⟨f,0,none⟩/\bc=z:=by cases s;exact ⟨rfl,rfl⟩
     subst r
     have a:w.cell? ⟨f,i,none⟩=some (O o c c):=by rw [World.ownsRow.cellAt S.out i (by omega)];exact B
     have N:Hid _:=a
     have G:wr.cell? ⟨f,i,none⟩=some (O o c c):=by rw [P.out.cell (p:=⟨f,i,none⟩) d];exact a
     have L:Hid _:=c4
     clear s B l a
     go_wp2_with fail
     go_loopg [6] c (fun q x wz=>∃ j:Nat,q+j=c/\x=J Z j/\Below w.heap.size w wz)
     case atStart=>exact ⟨0,by omega,rfl,P.out⟩
     case round =>
      obtain ⟨j,X,rfl,b⟩:=hrel
      have k:Hid _:=b
      have a7:wr.cell? ⟨SB,4,none⟩=some (O (some ⟨f,0,none⟩) bs.length bc):=by rw [b.cell (p:=⟨SB,4,none⟩) y];exact L.out
      have a2:wr.cell? ⟨f,i,none⟩=some (O o c c):=by rw [b.cell (p:=⟨f,i,none⟩) d];exact N.out
      clear b
      by_cases hj:j<c
      ·have D:(j:Int)<(c:Int):=by omega
       have a0:(0:Int)<=(j:Int):=by omega
       obtain ⟨g,a6,Y,E,F,u⟩:=K.out (by omega)
       subst Y
       have a4:wr.cell? ⟨g,j,none⟩=some (J .u8 (200+(i:Int)%50)):=by rw [k.out.cell (p:=⟨g,j,none⟩) (lt_of_block E),cell_of_row _ _ _ _ _ _ E];exact u j hj
       clear E F u
       have Q:i<=1000000000000000:=by omega
       go_wp2_with fail
       go_quiet ((go_at_call 39;exact Calls.quiet_of_same (Q7 _ _ (by omega))))
       go_wp2_with fail
       go_roundg (gk-1)
       case measure=>omega
       case rel=>exact ⟨j+1,by omega,by go_num,zL k.out _⟩
      ·have D:¬ (j:Int)<(c:Int):=by omega
       go_wp2_with fail
       go_roundg (bs.length-(i+1))
       case measure=>omega
       case rel=>exact ⟨i+1,by omega,by go_num,k.out⟩
    ·have m:¬ (i:Int)<(bs.length:Int):=by omega
     go_wp2_with fail
     go_ret
     exact ⟨rfl,P.out⟩
theorem MkL.ne {w:World} {t:TypeId} {m v:Value} (h:MkL w t m v) {w':World} (hk:∀ (g:Nat) (cur:Array Value),w.heap[g]?=some (.cells cur t (0,0))->w'.heap[g]?=w.heap[g]?):MkL w' t m v:=h.of_kept hk
theorem ST.pushB {w w4:World} {base SB n wv cv sv iv bv cs is bs} {nv v:Value} (h:ST w base SB n wv cv sv iv bv cs is bs) (hg:w.grownBy w4 bv.ownBlock) (hown:w4.ownsRow base 57 1 nv (bs.length+1) (bs++[v])) (hm:MkL w 5 (J .u8 (200+(bs.length:Int)%50)) v) (hn:bs.length+1<=n) :
 ST (w4.setCell ⟨SB,4,none⟩ nv) base SB n wv cv sv iv nv cs is (bs++[v]):=by
 have j:bv.ownBlock≠some SB:=zk h.br h.blk (by decide)
 have a:=(hg.block SB h.lt (fun e=>j e.symm)).trans h.blk
 have k:∀ (g:Nat) (cur:Array Value),w.heap[g]?=some (.cells cur 3 (0,0))->(w4.setCell ⟨SB,4,none⟩ nv).heap[g]?=w.heap[g]?:=fun g cur hc=>by
  rw [za (fun e=>by subst e;rw [h.blk] at hc;cases hc)]
  exact hg.block g (lt_of_block hc) (fun e=>zk h.br hc (by decide) e.symm)
 have b:∀ (g:Nat) (cur:Array Value),w.heap[g]?=some (.cells cur 5 (0,0))->(w4.setCell ⟨SB,4,none⟩ nv).heap[g]?=w.heap[g]?:=fun g cur hc=>by
  rw [za (fun e=>by subst e;rw [h.blk] at hc;cases hc)]
  exact hg.block g (lt_of_block hc) (fun e=>zk h.br hc (by decide) e.symm)
 have f:=h.cr.kept hg (zY h.cr h.br (by decide))
 have d:=h.ir.kept hg (zY h.ir h.br (by decide))
 refine ⟨?_,ownsRow_setCell_other f (zk f a (by decide)) _,ownsRow_setCell_other d (zk d a (by decide)) _,?_,h.ok,fun i v' hv=>(h.im i v' hv).of_kept k,fun i v' hv=>?_,h.hB,h.nc,h.ni,by simp;exact hn⟩
 ·rw [Yz a];rfl
 ·rw [List.length_append];exact ownsRow_setCell_other hown (zk hown a (by decide)) _
 ·by_cases m:i<bs.length
  ·rw [List.getElem?_append_left m] at hv
   exact (h.bm i v' hv).of_kept b
  ·rw [List.getElem?_append_right (by omega)] at hv
   have l:i=bs.length:=by
    have:=(List.getElem?_eq_some_iff.1 hv).1
    simp at this;omega
   subst l
   simp at hv
   subst hv
   exact hm.of_kept b
theorem zfH {s:ByteArray}:cpE s=if (cSz s).2=0/\1000<(cSz s).1 then 8 else (cSz s).2:=by
 unfold cpE cSz
 by_cases h:(yQ s).1=0
 ·simp [h]
 ·simp [h]
theorem qW {s:ByteArray} (h:cpE s=0):(yQ s).1=0/\szR (zA s).es (zA s).es.length<=1000/\1<=(cpX s).length/\(cpX s).length<=7000:=by
 have a:(yQ s).1=0:=by
  unfold cpE at h
  split at h
  ·assumption
  ·exact h
 have d:szR (zA s).es (zA s).es.length<=1000:=by
  unfold cpE at h
  rw [if_pos a] at h
  split at h
  ·cases h
  ·omega
 obtain ⟨e,f⟩:=je a
 have b:=f.enc_pos
 rw [Nat.sub_add_cancel e] at b
 have g:=JY (zA s).es (zA s).es.length d
 refine ⟨a,d,b,?_⟩
 unfold cpX
 omega
end Go.Proofs.YtaebngpoagjafabGreat
