import Derived.Test.YtaebngpoagjafabGreatQ32
import Derived.Laws.Cover3
set_option maxRecDepth 100000
set_option maxHeartbeats 3200000
namespace Go.Proofs.YtaebngpoagjafabGreat
open Option renaming none → F,some → N
open Proofs.Tryz renaming prog → T
open Bool renaming true → G,false → I
open Proofs.Tryz
open Obj renaming cells → Q
open Value renaming int → J, slice → O
open IntKind renaming i64 → Z
open Go.RowKit
attribute [local go_sem ↓] Go.wp_at_zero Go.wp_at_succ
theorem zdt(f:Nat->World->Prop)(U so:Option Addr)(m wc b V n c I u v:Nat)(K A B C D:Nat->Int)(S:Nat->ByteArray)(P:Nat->Int)(w:World)(hn:n*56<=140737488351232)(X:u<=64)(hs:OS w so b V n K A B C D S)(Y:I<w.heap.size)(hp:∀i,i<u->w.cell? ⟨I,i,F⟩=N (J Z (P i)))(h0:f 0 (w.alloc (st0 U m wc)))(t:∀(i:Nat) (wq wr:World),f i wq->w.heap.size<wq.heap.size->Below wq.heap.size wq wr->f i wr/\f (i+1) wr)(j:∀(i:Nat) (wq:World),i<=n->f i wq->Calls T 15 #[.pointer (N ⟨w.heap.size,0,F⟩)] wq λe w'=>e=.returned (.bool G)/\f i w'/\Below w.heap.size wq w')(l:∀(i:Nat) (wq:World),i<n->f i wq->Below w.heap.size w wq->w.heap.size<wq.heap.size->qW P (K i) u=G ->
  Calls T 14 #[.pointer (N ⟨w.heap.size,0,F⟩),.agg #[J Z (K i),J Z (A i),J Z (B i),J Z (C i),J Z (D i),.string (S i)]] wq λe w'=>e=.returned (.bool G)/\f (i+1) w'/\Below w.heap.size wq w'):
 Calls T 6 #[O U m wc,O so n c,O (N ⟨I,0,F⟩) u v] w λe w'=>e=.returned (.bool G)/\Below w.heap.size w w':=by
 have HG:Hd _:=t;have HP:Hd _:=hp;have HL:Hd _:=j;have HS:Hd (∀(i:Nat) (wq:World),i<n->f i wq->Below w.heap.size w wq->w.heap.size<wq.heap.size->qW P (K i) u=G ->
  Calls T 14 #[.pointer (N ⟨w.heap.size,0,F⟩),.agg #[J Z (K i),J Z (A i),J Z (B i),J Z (C i),J Z (D i),.string (S i)]] wq λe w'=>e=.returned (.bool G)/\f (i+1) w'/\Below w.heap.size wq w'):=l
 have H0:Hd _:=h0;clear t hp j l h0;have a1:=λw=>zaP U m wc w
 go_enter func6,ntmps6;go_wp2_with fail;go_loopw [8] (λx wr=>∃k:Nat,k<=n/\x=J Z k/\Hd (f k wr)/\Below w.heap.size w wr/\w.heap.size<wr.heap.size) (λx _=>n-(intOf x).toNat)
 case atStart=>exact⟨0,ol,rfl,H0,(Below.refl _ _).alloc (Nat.le_refl _) _,ot⟩
 case round =>
  obtain⟨k,hk,rfl,y,R,hz⟩:=hrel;clear a1 H0;by_cases h:k<n
  ·obtain rfl:=hs.at_ ol;have g:=hs.below R;have b1:b<wr.heap.size:=g.lt ol;have c0:=g.k k h;have c1:=g.a k h;have c2:=g.b_ k h;have c3:=g.c k h;have c4:=g.d k h;have c5:=g.s k h;have z:Hd _:=R;clear g R;have a8:(k:Int)<288230376151711744:=ol;have L:Hd (∀o:Obj,Below wr.heap.size wr (wr.alloc o)):=λo=>(Below.refl _ _).alloc (Nat.le_refl _) o
   have a3:Hd (∀o:Obj,∀i,i<u->(wr.alloc o).cell? ⟨I,i,F⟩=N (J Z (P i))):=λo i hi=>by
    rw[(z.o.trans ((L.o o).mono z.o.size)).cell (p:=⟨I,i,F⟩) Y];exact HP.o i hi
   go_wp2_with fail;refine(zcR I u v P _ _ X (a3.o _)).mono ?_;rintro e w' ⟨rfl,b0⟩;subst w';cases e1:qW P (K k) u with
   | false =>
    go_wp2_with fail;go_roundw
    case rel=>exact⟨k+1,ol,by go_num,(HG.o _ _ _ y.o hz (L.o _)).2,z.o.trans ((L.o _).mono z.o.size),ow⟩
    case measure=>simp[intOf];omega
   | true =>
    have Q:=λwq=>HS.o k wq h
    have a2:Hd _:=Q;clear Q;go_wp2_with fail;refine(a2.o _ (HG.o _ _ _ y.o hz (L.o _)).1 (z.o.trans ((L.o _).mono z.o.size)) ow e1).mono ?_;rintro e w1 ⟨rfl,r,H⟩;have a5:Hd _:=r;have W:=H.size;simp at W;have a7:Hd (Below w.heap.size w w1):=(z.o.trans ((L.o _).mono z.o.size)).trans H;clear r H;go_wp2_with fail;refine(HL.o _ _ h a5.o).mono ?_;rintro e w2 ⟨rfl,q,E⟩;have a4:Hd _:=q;have a9:=E.size;have a6:Hd _:=a7.o.trans E;clear q E;go_wp2_with fail;go_roundw
    case rel=>exact⟨k+1,ol,by go_num,a4,a6.o,ol⟩
    case measure=>simp[intOf];omega
  ·have a0:k=n:=(by omega);subst a0;go_wp2_with fail;go_ret;exact⟨rfl,R⟩
def MkL(w:World)(t:TypeId)(m:Value)(v:Value):Prop:=∃o c,v=O o c c/\c<=9223372036854775807/\(0<c->∃(g:Nat) (cur:Array Value),o=N ⟨g,0,F⟩/\w.heap[g]?=N (Q cur t (0,0))/\cur.size=c/\∀j,j<c->cur[j]?=N m)
theorem MkL.of_kept{w w':World}{t:TypeId}{m v:Value}(h:MkL w t m v)(d:∀(g:Nat) (a:Array Value),w.heap[g]?=N (Q a t (0,0))->w'.heap[g]?=w.heap[g]?):MkL w' t m v:=by
 obtain⟨o,c,l,e,k⟩:=h;refine⟨o,c,l,e,λh0=>?_⟩;obtain⟨g,a,j,b,i,f⟩:=k h0;exact⟨g,a,j,(d g a b).trans b,i,f⟩
def cdC(cs:List (ByteArray×ByteArray)):List Value:=cs.flatMap (λx=>[.string x.1,.string x.2])
structure ST (w:World) (base SB n:Nat) (wv cv sv iv bv:Value) (cs:List (ByteArray×ByteArray)) (is bs:List Value):Prop where
 blk:w.heap[SB]?=N (Q #[wv,cv,sv,iv,bv] 51 (0,0))
 cr:w.ownsRow base 124 2 cv cs.length (cdC cs)
 ir:w.ownsRow base 25 1 iv is.length is
 br:w.ownsRow base 57 1 bv bs.length bs
 ok:∀x∈cs,cpE x.1=0/\x.2=strOfNums (cpX x.1)
 im:∀(i:Nat) (v:Value),is[i]?=N v->MkL w 3 (J Z (-1000-(i:Int))) v
 bm:∀(i:Nat) (v:Value),bs[i]?=N v->MkL w 5 (J .u8 (200+(i:Int)%50)) v
 hB:base<=SB
 nc:cs.length<=n
 ni:is.length<=n
 nb:bs.length<=n
theorem ST.lt{w:World}{base SB n wv cv sv iv bv cs is bs}(h:ST w base SB n wv cv sv iv bv cs is bs):SB<w.heap.size:=lt_of_block h.blk
theorem ST.below{w w':World}{base SB n wv cv sv iv bv cs is bs}(h:ST w base SB n wv cv sv iv bv cs is bs)(a:Below w.heap.size w w'):ST w' base SB n wv cv sv iv bv cs is bs :=
 ⟨(a.block _ h.lt).trans h.blk,zd h.cr (λg hg=>a.block g (h.cr.lt g hg).2),zd h.ir (λg hg=>a.block g (h.ir.lt g hg).2),zd h.br (λg hg=>a.block g (h.br.lt g hg).2),h.ok,λi v hv=>(h.im i v hv).of_kept (λg _ hg=>a.block g (lt_of_block hg)),λi v hv=>(h.bm i v hv).of_kept (λg _ hg=>a.block g (lt_of_block hg)),h.hB,h.nc,h.ni,h.nb⟩
theorem ST.mono{w:World}{base SB n wv cv sv iv bv cs is bs}(h:ST w base SB n wv cv sv iv bv cs is bs):ST w base SB (n+1) wv cv sv iv bv cs is bs :=
 ⟨h.blk,h.cr,h.ir,h.br,h.ok,h.im,h.bm,h.hB,by have:=h.nc;omega,by have:=h.ni;omega,by have:=h.nb;omega⟩
theorem ST.c{w:World}{base SB n wv cv sv iv bv cs is bs}(h:ST w base SB n wv cv sv iv bv cs is bs)(j:Nat):w.cell? ⟨SB,j,F⟩=#[wv,cv,sv,iv,bv][j]?:=by rw[cell_of_row _ _ _ _ _ _ h.blk]
theorem ST.fz{w:World}{base SB n wv cv sv iv bv cs is bs}(h:ST w base SB n wv cv sv iv bv cs is bs)(j:Nat):w.frozen? ⟨SB,j,F⟩=I:=by simp[World.frozen?,h.blk]
theorem XW(n:Nat)(w:World)(b:n<=9223372036854775807):Calls T 39 #[J Z n] w λe w'=>e=.returned (J .u8 (200+(n:Int)%50))/\w'=w:=by
 have a:(n:Int).tmod 50=(n:Int)%50:=Int.tmod_eq_emod_of_nonneg ol;have d:0<=(n:Int)%50:=ol;have c:(n:Int)%50<50:=ol;generalize hq:(n:Int)%50=q at *;clear hq;go_enter func39,ntmps39;go_wp2_with fail;go_ret;exact⟨rfl,rfl⟩
theorem qL(n:Nat)(w:World)(a:n<=1000000000000000):Calls T 38 #[J Z n] w λe w'=>e=.returned (J Z (-1000-(n:Int)))/\w'=w:=by
 go_enter func38,ntmps38;go_wp2_with fail;go_ret;exact⟨rfl,rfl⟩
theorem zcd(base y n:Nat)(wv cv sv iv bv:Value)(cs:List (ByteArray×ByteArray))(is l:List Value)(w:World)(hn:n<=1000000000000000)(h:ST w base y n wv cv sv iv bv cs is l):
 Calls T 15 #[.pointer (N ⟨y,0,F⟩)] w λe w'=>e=.returned (.bool G)/\Below w.heap.size w w':=by
 have H:Hd _:=h;clear h;go_enter func15,ntmps15;go_wp2_with fail;have c3:=H.o.c 3;have c4:=H.o.c 4;have z:=H.o.lt;have HI:=H.o.im;have a0:=H.o.bm;have b2:=H.o.ni;have b3:=H.o.nb;obtain⟨io,ic,s,_⟩:=zU H.o.ir;obtain⟨bo,bc,a7,_⟩:=zU H.o.br;have W:Hd (w.ownsRow base 25 1 iv is.length is):=H.o.ir;have X:Hd (w.ownsRow base 57 1 bv l.length l):=H.o.br;have b0:Hd _:=HI;have Y:Hd _:=a0;simp only[List.getElem?_toArray,List.getElem?_cons_succ,List.getElem?_cons_zero]at c3 c4;clear HI a0 H;subst s a7;go_loopg [3] is.length (λq x wr=>∃i:Nat,q+i=is.length/\x=J Z i/\Below w.heap.size w wr)
 case atStart=>exact⟨0,ol,rfl,Below.refl _ _⟩
 case round =>
  obtain⟨i,hq,rfl,P⟩:=hrel;have U:Hd _:=P;have cq:wr.cell? ⟨y,3,F⟩=N (O io is.length ic):=by rw[P.cell (p:=⟨y,3,F⟩) z];exact c3
  clear P;by_cases D:i<is.length
  ·have r:(i:Int)<(is.length:Int):=(by omega);have a3:(0:Int)<=(i:Int):=ol;obtain⟨v,C⟩:∃v,is[i]?=N v:=⟨is[i],List.getElem?_eq_getElem D⟩;obtain⟨o,c,B,a5,m⟩:=b0.o i v C;subst B;have Q:Hd _:=m;obtain⟨f,A,t,_,d⟩:=W.o.form ol;obtain⟨s,_⟩:io=N ⟨f,0,F⟩/\ic=A:=by cases t;exact⟨rfl,rfl⟩
   subst s;have a:w.cell? ⟨f,i,F⟩=N (O o c c):=(by rw[World.ownsRow.cellAt W.o i ol];exact C);have S:Hd _:=a;have L:wr.cell? ⟨f,i,F⟩=N (O o c c):=(by rw[U.o.cell (p:=⟨f,i,F⟩) d];exact a);have R:Hd _:=c3;clear t C m a;go_wp2_with fail;go_loopg [4] c (λq x wz=>∃j:Nat,q+j=c/\x=J Z j/\Below w.heap.size w wz)
   case atStart=>exact⟨0,ol,rfl,U.o⟩
   case round =>
    obtain⟨j,a1,rfl,b⟩:=hrel;have k:Hd _:=b;have a9:wr.cell? ⟨y,3,F⟩=N (O (N ⟨f,0,F⟩) is.length ic):=(by rw[b.cell (p:=⟨y,3,F⟩) z];exact R.o);have a4:wr.cell? ⟨f,i,F⟩=N (O o c c):=(by rw[b.cell (p:=⟨f,i,F⟩) d];exact S.o);clear b;by_cases hj:j<c
    ·have E:(j:Int)<(c:Int):=(by omega);have a2:(0:Int)<=(j:Int):=ol;obtain⟨g,a8,ho,I,K,u⟩:=Q.o ol;subst ho;have a6:wr.cell? ⟨g,j,F⟩=N (J Z (-1000-(i:Int))):=(by rw[k.o.cell (p:=⟨g,j,F⟩) (lt_of_block I),cell_of_row _ _ _ _ _ _ I];exact u j hj);clear I K u;have V:i<=1000000000000000:=ol;go_wp2_with fail;go_quiet ((go_at_call 38;exact Calls.quiet_of_same (qL _ _ V)))
     go_wp2_with fail;go_roundg (gk-1)
     case measure=>omega
     case rel=>exact⟨j+1,ol,by go_num,zC k.o _⟩
    ·have E:¬(j:Int)<(c:Int):=(by omega);go_wp2_with fail;go_roundg (is.length-(i+1))
     case measure=>omega
     case rel=>exact⟨i+1,ol,by go_num,k.o⟩
  ·have r:¬(i:Int)<(is.length:Int):=(by omega);go_wp2_with fail;have b1:Hd _:=U.o;go_loopg [5] l.length (λq x wr=>∃i:Nat,q+i=l.length/\x=J Z i/\Below w.heap.size w wr)
   case atStart=>exact⟨0,ol,rfl,b1.o⟩
   case round =>
    obtain⟨i,hq,rfl,P⟩:=hrel;have U:Hd _:=P;have cq:wr.cell? ⟨y,4,F⟩=N (O bo l.length bc):=(by rw[P.cell (p:=⟨y,4,F⟩) z];exact c4);clear P;by_cases D:i<l.length
    ·have r:(i:Int)<(l.length:Int):=(by omega);have a3:(0:Int)<=(i:Int):=ol;obtain⟨v,C⟩:∃v,l[i]?=N v:=⟨l[i],List.getElem?_eq_getElem D⟩;obtain⟨o,c,B,a5,m⟩:=Y.o i v C;subst B;have Q:Hd _:=m;obtain⟨f,A,t,_,d⟩:=X.o.form ol;obtain⟨s,_⟩:bo=N ⟨f,0,F⟩/\bc=A:=by cases t;exact⟨rfl,rfl⟩
     subst s;have a:w.cell? ⟨f,i,F⟩=N (O o c c):=(by rw[World.ownsRow.cellAt X.o i ol];exact C);have S:Hd _:=a;have L:wr.cell? ⟨f,i,F⟩=N (O o c c):=(by rw[U.o.cell (p:=⟨f,i,F⟩) d];exact a);have R:Hd _:=c4;clear t C m a;go_wp2_with fail;go_loopg [6] c (λq x wz=>∃j:Nat,q+j=c/\x=J Z j/\Below w.heap.size w wz)
     case atStart=>exact⟨0,ol,rfl,U.o⟩
     case round =>
      obtain⟨j,a1,rfl,b⟩:=hrel;have k:Hd _:=b;have a9:wr.cell? ⟨y,4,F⟩=N (O (N ⟨f,0,F⟩) l.length bc):=(by rw[b.cell (p:=⟨y,4,F⟩) z];exact R.o);have a4:wr.cell? ⟨f,i,F⟩=N (O o c c):=(by rw[b.cell (p:=⟨f,i,F⟩) d];exact S.o);clear b;by_cases hj:j<c
      ·have E:(j:Int)<(c:Int):=(by omega);have a2:(0:Int)<=(j:Int):=ol;obtain⟨g,a8,ho,I,K,u⟩:=Q.o ol;subst ho;have a6:wr.cell? ⟨g,j,F⟩=N (J .u8 (200+(i:Int)%50)):=(by rw[k.o.cell (p:=⟨g,j,F⟩) (lt_of_block I),cell_of_row _ _ _ _ _ _ I];exact u j hj);clear I K u;have V:i<=1000000000000000:=ol;go_wp2_with fail;go_quiet ((go_at_call 39;exact Calls.quiet_of_same (XW _ _ ol)))
       go_wp2_with fail;go_roundg (gk-1)
       case measure=>omega
       case rel=>exact⟨j+1,ol,by go_num,zC k.o _⟩
      ·have E:¬(j:Int)<(c:Int):=(by omega);go_wp2_with fail;go_roundg (l.length-(i+1))
       case measure=>omega
       case rel=>exact⟨i+1,ol,by go_num,k.o⟩
    ·have r:¬(i:Int)<(l.length:Int):=(by omega);go_wp2_with fail;go_ret;exact⟨rfl,U.o⟩
theorem infoBs:(Tryz.prog.info? 57).map (λi=>(i.zero,i.size,i.bytes))=N (N (O F 0 0),1,24):=kr
theorem infoCode:(Tryz.prog.info? 124).map (λi=>(i.zero,i.size,i.bytes))=N (N (.agg #[.string ByteArray.empty,.string ByteArray.empty]),2,32):=kr
theorem MkL.ne{w:World}{t:TypeId}{m v:Value}(h:MkL w t m v){w':World}(b:∀(g:Nat) (a:Array Value),w.heap[g]?=N (Q a t (0,0))->w'.heap[g]?=w.heap[g]?):MkL w' t m v:=h.of_kept b
theorem ST.pushB{w w4:World}{base SB n wv cv sv iv bv cs is bs}{c v:Value}(h:ST w base SB n wv cv sv iv bv cs is bs)(j:w.grownBy w4 bv.ownBlock)(b:w4.ownsRow base 57 1 c (bs.length+1) (bs++[v]))(q:MkL w 5 (J .u8 (200+(bs.length:Int)%50)) v)(p:bs.length+1<=n):
 ST (w4.setCell ⟨SB,4,F⟩ c) base SB n wv cv sv iv c cs is (bs++[v]):=by
 have l:bv.ownBlock≠N SB:=zi h.br h.blk oq;have a:=(j.block SB h.lt (λe=>l e.symm)).trans h.blk;have m:∀(g:Nat) (cur:Array Value),w.heap[g]?=N (Q cur 3 (0,0))->(w4.setCell ⟨SB,4,F⟩ c).heap[g]?=w.heap[g]?:=λg cur hc=>by
  rw[za (λe=>by subst e;rw[h.blk]at hc;cases hc)];exact j.block g (lt_of_block hc) (λe=>zi h.br hc oq e.symm)
 have d:∀(g:Nat) (cur:Array Value),w.heap[g]?=N (Q cur 5 (0,0))->(w4.setCell ⟨SB,4,F⟩ c).heap[g]?=w.heap[g]?:=λg cur hc=>by
  rw[za (λe=>by subst e;rw[h.blk]at hc;cases hc)];exact j.block g (lt_of_block hc) (λe=>zi h.br hc oq e.symm)
 have k:=h.cr.kept j (zV h.cr h.br oq);have f:=h.ir.kept j (zV h.ir h.br oq);refine⟨?_,ownsRow_setCell_other k (zi k a oq) _,ownsRow_setCell_other f (zi f a oq) _,?_,h.ok,λi v' hv=>(h.im i v' hv).of_kept m,λi v' hv=>?_,h.hB,h.nc,h.ni,by simp;exact p⟩
 ·rw[Yo a];rfl
 ·rw[List.length_append];exact ownsRow_setCell_other b (zi b a oq) _
 ·by_cases r:i<bs.length
  ·rw[List.getElem?_append_left r]at hv;exact(h.bm i v' hv).of_kept d
  ·rw[List.getElem?_append_right ol]at hv;have o:i=bs.length:=by
    have:=(List.getElem?_eq_some_iff.1 hv).1
    simp at this;omega
   subst o;simp at hv;subst hv;exact q.of_kept d
theorem ST.pushC{w w4:World}{base SB n wv cv sv iv bv cs is bs}{c:Value}{x:ByteArray×ByteArray}(h:ST w base SB n wv cv sv iv bv cs is bs)(f:w.grownBy w4 cv.ownBlock)(b:w4.ownsRow base 124 2 c (cs.length+1) (cdC cs++[.string x.1,.string x.2]))(o:cpE x.1=0/\x.2=strOfNums (cpX x.1))(p:cs.length+1<=n):
 ST (w4.setCell ⟨SB,1,F⟩ c) base SB n wv c sv iv bv (cs++[x]) is bs:=by
 have k:cv.ownBlock≠N SB:=zi h.cr h.blk oq;have a:=(f.block SB h.lt (λe=>k e.symm)).trans h.blk;have l:∀(g:Nat) (cur:Array Value),w.heap[g]?=N (Q cur 3 (0,0))->(w4.setCell ⟨SB,1,F⟩ c).heap[g]?=w.heap[g]?:=λg cur hc=>by
  rw[za (λe=>by subst e;rw[h.blk]at hc;cases hc)];exact f.block g (lt_of_block hc) (λe=>zi h.cr hc oq e.symm)
 have m:∀(g:Nat) (cur:Array Value),w.heap[g]?=N (Q cur 5 (0,0))->(w4.setCell ⟨SB,1,F⟩ c).heap[g]?=w.heap[g]?:=λg cur hc=>by
  rw[za (λe=>by subst e;rw[h.blk]at hc;cases hc)];exact f.block g (lt_of_block hc) (λe=>zi h.cr hc oq e.symm)
 have j:=h.br.kept f (zV h.br h.cr oq);have d:=h.ir.kept f (zV h.ir h.cr oq);have q:cdC (cs++[x])=cdC cs++[.string x.1,.string x.2]:=by simp[cdC]
 refine⟨?_,?_,ownsRow_setCell_other d (zi d a oq) _,ownsRow_setCell_other j (zi j a oq) _,λy hy=>?_,λi v' hv=>(h.im i v' hv).of_kept l,λi v' hv=>(h.bm i v' hv).of_kept m,h.hB,by simp;exact p,h.ni,h.nb⟩
 ·rw[Yo a];rfl
 ·rw[q,List.length_append];exact ownsRow_setCell_other b (zi b a oq) _
 ·rcases List.mem_append.1 hy with hy|hy
  ·exact h.ok y hy
  ·simp only[List.mem_singleton]at hy;subst hy;exact o
theorem zef{s:ByteArray}:cpE s=if(cSz s).2=0/\1000<(cSz s).1 then 8 else(cSz s).2:=by
 unfold cpE cSz;by_cases h:(yv s).1=0
 ·simp[h]
 ·simp[h]
theorem Xs{s:ByteArray}(h:cpE s=0):(yv s).1=0/\szR (zy s).es (zy s).es.length<=1000/\1<=(cpX s).length/\(cpX s).length<=7000:=by
 have a:(yv s).1=0:=by
  unfold cpE at h;split at h
  ·assumption
  ·exact h
 have c:szR (zy s).es (zy s).es.length<=1000:=by
  unfold cpE at h;rw[if_pos a]at h;split at h
  ·cases h
  ·omega
 obtain⟨d,e⟩:=jW a;have b:=e.enc_pos;rw[Nat.sub_add_cancel d]at b;have f:=zaL (zy s).es (zy s).es.length c;refine⟨a,c,b,?_⟩;unfold cpX;omega
theorem zba(t e:TypeId)(h:Tryz.prog.underlying t=N (.slice e))(w:World):(binOp .eql t (O F 0 0) (O F 0 0)).run T w=.ok (.bool G) w:=by
 simp only[binOp];simp[run_equal_slice_nil w t e F 0 0 h]
def CpK(base SB n:Nat)(wv cv sv iv bv:Value)(is:List Value)(w:World)(e:Ending)(w':World):Prop:=e=.returned (.bool G)/\Below base w w'/\∃cv' bv' cs' bs',ST w' base SB (n+1) wv cv' sv iv bv' cs' is bs'/\∀b,b<w.heap.size->b≠SB->bv.ownBlock≠N b->cv.ownBlock≠N b->w'.heap[b]?=w.heap[b]?
theorem Q4(base l n:Nat)(wv S sv iv bv:Value)(cs:List (ByteArray×ByteArray))(is f:List Value)(s:ByteArray)(w:World)(hn:(n+1)*56<=140737488355328)(h:ST w base l n wv S sv iv bv cs is f):
 Calls T 33 #[.pointer (N ⟨l,0,F⟩),.string s] w (CpK base l n wv S sv iv bv is w):=by
 obtain⟨i0,d0,f5,f4,f3⟩:=info_parts infoBs;obtain⟨j0,g3,f8,f7,f6⟩:=info_parts infoCode;have H:Hd _:=h;have a9:Hd (base<=w.heap.size):=Nat.le_trans h.hB (Nat.le_of_lt h.lt);have a8:Hd (∀wz,Calls T 45 #[.string s] wz (zgX wz (cpE s) (cpX s))):=λwz=>J7 s wz
 have hd:=λwz=>qH s wz
 have a6:=zef (s:=s);have b7:Hd (cpE s=0->(yv s).1=0/\szR (zy s).es (zy s).es.length<=1000/\1<=(cpX s).length/\(cpX s).length<=7000):=Xs;obtain⟨z,hz⟩:∃z,cSz s=z:=⟨_,rfl⟩;rw[hz]at hd a6;clear hz h;obtain⟨z1,z2⟩:=z;simp only at a6 hd;have V:Hd _:=a6;clear a6;obtain⟨E,HE⟩:∃E,Hd (cpE s=E):=⟨_,rfl⟩;rw[HE.o]at a8 V b7;obtain⟨X,HX⟩:∃X,Hd (cpX s=X):=⟨_,rfl⟩;rw[HX.o]at a8 b7;go_enter func33,ntmps33;go_wp2_with fail;refine(a8.o _).mono ?_;rintro e w1 ⟨e3,o,m,k,rfl,c2,d3⟩;have f1:Hd _:=e3;have e8:Hd _:=c2;have b8:Hd _:=d3;clear e3 c2 d3;go_wp2_with fail;refine(hd _).mono ?_;rintro e w2 ⟨b5,rfl⟩;have D:Hd _:=f1.o.trans (b5.mono f1.o.size);have i6:Hd (E=0->m=X.length/\w2.ownsRow w.heap.size 5 1 (O o m k) X.length (X.map (Value.int .u8))):=λh=>⟨(b8.o h).1,zd (b8.o h).2 (λg hg=>b5.block g ((b8.o h).2.lt g hg).2)⟩
 clear b5 hd;by_cases R:z2=0
 ·subst R;by_cases h3:1000<z1
  ·have h8:E=8:=(by rw[V.o,if_pos ⟨rfl,h3⟩]);subst h8;obtain⟨rfl,rfl,rfl⟩:=e8.o oq;have c0:=λwz=>zba 57 5 underlying57 wz
   go_wp2_with fail;go_ret;exact⟨rfl,D.o.mono a9.o,S,bv,cs,f,(H.o.below D.o).mono,λb hl _ _ _=>D.o.block b hl⟩
  ·have h0:E=0:=(by rw[V.o,if_neg ol]);subst h0;have n2:decide (1000<z1)=I:=decide_eq_false h3;obtain⟨hm,A⟩:=i6.o rfl;subst hm;obtain⟨_,_,m2,m1⟩:=b7.o rfl;obtain⟨g,kk,d2,m8,m9⟩:=A.form ol;obtain⟨ho,g1⟩:o=N ⟨g,0,F⟩/\k=kk:=by cases d2;exact⟨rfl,rfl⟩
   subst ho;clear g1;have e7:Hd _:=A;obtain⟨e6,a1,d9,g2⟩:∃r,w2.heap[g]?=N (Q r 5 (0,0))/\r.size=k/\k<=9223372036854775807:=by
    rcases A.2 with⟨W,_⟩|⟨g',cap,r,W,_,h4,_,h6,h7,_⟩
    ·cases W
    ·cases W;exact⟨r,h4,ol,h6⟩
   have j1:Hd _:=a1;have k5:X.length<=k:=(by obtain⟨_,_,W,R⟩:=zU A;cases W;exact R);have d5:=run_convert_bytes_arg (P:=T) w2 57 5 underlying57 underlying5 g 0 X.length k X rfl (λi hi=>by
    have:=World.ownsRow.cellAt e7.o i ol
    rw[Nat.zero_add,this];simp[hi]) 9 underlying9
   have i8:Hd ((strOfNums X).size=X.length):=strOfNums_size X;have i4:Hd _:=HX;obtain⟨p,a4⟩:∃p,strOfNums X=p:=⟨_,rfl⟩;have e9:Hd _:=a4;rw[a4]at d5;have m3:p.size=X.length:=(by rw[<-a4];exact i8.o);have k3:Hd (ST w2 base l (n+1) wv S sv iv bv cs is f):=(H.o.below D.o).mono;obtain⟨bo,bc,g8,_⟩:=zU H.o.br;subst g8;have k9:=H.o.nb;have k8:=H.o.nc;have m4:(k:Int)<=(k:Int):=Int.le_refl _;have d1:w.heap.size<=g:=(A.lt g rfl).1;clear A d2 a1 a4;go_wp2_with fail;go_loopg [11] k (λq y wr=>∃(i:Nat) (r:Array Value),q+i=k/\y=J Z i/\wr.heap[g]?=N (Q r 5 (0,0))/\r.size=k/\(∀j,j<i->r[j]?=N (J .u8 (200+(f.length:Int)%50)))/\Below w.heap.size w wr)
   case atStart=>exact⟨0,e6,ol,rfl,j1.o,d9,λj hj=>ol,D.o⟩
   case round =>
    obtain⟨i,r,hq,rfl,d6,d7,d8,hb⟩:=hrel;have a7:Hd _:=d6;have f0:Hd _:=d8;have HB:Hd _:=hb;have L:Hd (ST wr base l (n+1) wv S sv iv (O bo f.length bc) cs is f):=(H.o.below hb).mono;have c4:=L.o.c 4;simp only[List.getElem?_toArray,List.getElem?_cons_succ,List.getElem?_cons_zero]at c4;clear d6 d8 hb;by_cases m0:i<k
    ·have c7:(i:Int)<(k:Int):=(by omega);have d0:(0:Int)<=(i:Int):=ol;obtain⟨n3,k1⟩:∃v,wr.cell? ⟨g,i,F⟩=N v:=⟨r[i]'(by omega),by rw[cell_of_row _ _ _ _ _ _ a7.o];exact Array.getElem?_eq_getElem ol⟩;have n0:wr.frozen? ⟨g,i,F⟩=I:=(by simp[World.frozen?,a7.o]);have c3:f.length<=9223372036854775807:=ol;go_wp2_with fail;refine(XW f.length _ c3).mono ?_;rintro e w' ⟨rfl,k7⟩;subst w';generalize hmk:200+(f.length:Int)%50=mk at *;go_wp2_with fail;go_roundg (gk-1)
     case measure=>omega
     case rel =>
      refine⟨i+1,r.setIfInBounds i (J .u8 mk),ol,by go_num,?_,by simp[d7],λj hj=>?_,HB.o.setCell d1 _⟩
      ·simp[World.setCell,Array.getElem?_modify,a7.o]
      ·rw[Array.getElem?_setIfInBounds];by_cases c9:i=j
       ·rw[if_pos c9,if_pos ol]
       ·rw[if_neg c9];exact f0.o j ol
    ·have g7:i=k:=(by omega);subst g7;have c7:¬(i:Int)<(i:Int):=ol;have g9:Hd (MkL wr 5 (J .u8 (200+(f.length:Int)%50)) (O (N ⟨g,0,F⟩) i i)):=⟨_,i,rfl,g2,λ_=>⟨g,r,rfl,a7.o,d7,f0.o⟩⟩;have e0:base<=wr.heap.size:=Nat.le_trans a9.o HB.o.size;have n1:l<wr.heap.size:=L.o.lt;have i2:Hd (f.length+1<=maxLen):=sx;have i1:Hd ((f.length+1)*24<=140737488355328):=oz;have e5:Hd (base<=(wr.alloc (Q #[O (N ⟨g,0,F⟩) i i] 57)).heap.size):=mc;have b9:Hd (∀u∈[O (N ⟨g,0,F⟩) i i],u.oneCell'=G):=λu hu=>by simp at hu;subst hu;rfl
     have a2:Hd (ST (wr.alloc (Q #[O (N ⟨g,0,F⟩) i i] 57)) base l (n+1) wv S sv iv (O bo f.length bc) cs is f):=L.o.below ((Below.refl _ _).alloc (Nat.le_refl _) _);have i7:Hd (MkL (wr.alloc (Q #[O (N ⟨g,0,F⟩) i i] 57)) 5 (J .u8 (200+(f.length:Int)%50)) (O (N ⟨g,0,F⟩) i i)):=g9.o.of_kept (λq _ hq=>Below.heap_alloc _ _ _ (lt_of_block hq));have a3:Hd ((O bo f.length bc).ownBlock≠N l):=zi L.o.br L.o.blk oq;have h9:Hd (cs.length+1<=maxLen):=sx;have h5:Hd ((cs.length+1)*32<=140737488355328):=oz;have b4:Hd (∀u∈[Value.string s,Value.string p],u.oneCell'=G):=λu hu=>by simp at hu;rcases hu with rfl|rfl<;>rfl
     have e4:Hd (cpE s=0/\p=strOfNums (cpX s)):=⟨HE.o,by rw[i4.o];exact e9.o.symm⟩;go_wp2_with (first|(at_builtin;refine wpList_append_lies _ rfl (.tmp 62) (.tmp 64) 49 rfl base 57 i0 _ 1 24 underlying49 d0 f5 f4 f3 rfl oq (O bo f.length bc) _ _ rfl a2.o.br ⟨wr.heap.size,0,F⟩ 1 1 [O (N ⟨g,0,F⟩) i i] rfl rfl (World.news_of_block (cs:=#[O (N ⟨g,0,F⟩) i i]) (t:=57) (fr:=(0,0)) (heap_alloc_new wr _)) b9.o (Nat.lt_succ_self 0) i2.o i1.o e5.o (wr.heap.size+1) ot ?_;intro g4 C w4 B a b6 c6;have zz:w4.frozen? ⟨l,4,F⟩=I:=(a.frozen_far ⟨l,4,F⟩ ow (λe=>a3.o e.symm)).trans (a2.o.fz 4);have n4:w4.cell? ⟨l,4,F⟩=N (O bo f.length bc):=(a.cell_far ⟨l,4,F⟩ ow (λe=>a3.o e.symm)).trans (a2.o.c 4);have n6:w4.cell? ⟨l,1,F⟩=N S:=(a.cell_far ⟨l,1,F⟩ ow (λe=>a3.o e.symm)).trans (a2.o.c 1);have d:Hd (ST (w4.setCell ⟨l,4,F⟩ (O (N ⟨g4,0,F⟩) (f.length+1) C)) base l (n+1) wv S sv iv (O (N ⟨g4,0,F⟩) (f.length+1) C) cs is (f++[O (N ⟨g,0,F⟩) i i])):=a2.o.pushB a B i7.o ol;have e2:Hd (Below base w (w4.setCell ⟨l,4,F⟩ (O (N ⟨g4,0,F⟩) (f.length+1) C))):=(((HB.o.mono a9.o).alloc e0 _).grown a e5.o (λq hq=>(L.o.br.lt q hq).1)).setCell L.o.hB _;have a0:Hd (w.heap.size<=w4.heap.size/\∀b,b<w.heap.size->(O bo f.length bc).ownBlock≠N b->w4.heap[b]?=w.heap[b]?):=⟨(by have W:=HB.o.size;have R:=a.size;simp at R;omega),(λb W h3=>by have h8:=HB.o.size;rw[a.block b ow (λe=>h3 e.symm),Below.heap_alloc _ _ _ ol,HB.o.block b W])⟩;clear B a b6 c6)|(at_builtin;refine wpList_append_lies _ rfl (.tmp 72) (.tmp 76) 47 rfl base 124 j0 _ 2 32 underlying47 g3 f8 f7 f6 rfl oq S _ _ rfl (d.o.below ((Below.refl _ _).alloc (Nat.le_refl _) (Q #[.string s,.string p] 124))).cr ⟨w4.heap.size,0,F⟩ 1 1 [.string s,.string p] rfl rfl (World.news_of_block (cs:=#[.string s,.string p]) (t:=124) (fr:=(0,0)) (zl (w:=(w4.setCell ⟨l,4,F⟩ (O (N ⟨g4,0,F⟩) (f.length+1) C))) _ (by simp[World.setCell]))) b4.o (Nat.lt_succ_self 0) h9.o h5.o (Nat.le_trans (d.o.below ((Below.refl _ _).alloc (Nat.le_refl _) (Q #[.string s,.string p] 124))).hB (Nat.le_of_lt (d.o.below ((Below.refl _ _).alloc (Nat.le_refl _) (Q #[.string s,.string p] 124))).lt)) (w4.heap.size+1) (by simp[World.setCell]) ?_;intro g5 U w5 B a b6 c5;have b0:S.ownBlock≠N l:=zi (d.o.below ((Below.refl _ _).alloc (Nat.le_refl _) (Q #[.string s,.string p] 124))).cr (d.o.below ((Below.refl _ _).alloc (Nat.le_refl _) (Q #[.string s,.string p] 124))).blk oq;have k4:w5.frozen? ⟨l,1,F⟩=I:=(a.frozen_far ⟨l,1,F⟩ (d.o.below ((Below.refl _ _).alloc (Nat.le_refl _) (Q #[.string s,.string p] 124))).lt (λe=>b0 e.symm)).trans ((d.o.below ((Below.refl _ _).alloc (Nat.le_refl _) (Q #[.string s,.string p] 124))).fz 1);have n5:w5.cell? ⟨l,1,F⟩=N S:=(a.cell_far ⟨l,1,F⟩ (d.o.below ((Below.refl _ _).alloc (Nat.le_refl _) (Q #[.string s,.string p] 124))).lt (λe=>b0 e.symm)).trans ((d.o.below ((Below.refl _ _).alloc (Nat.le_refl _) (Q #[.string s,.string p] 124))).c 1);have Y:Hd (ST (w5.setCell ⟨l,1,F⟩ (O (N ⟨g5,0,F⟩) (cs.length+1) U)) base l (n+1) wv (O (N ⟨g5,0,F⟩) (cs.length+1) U) sv iv (O (N ⟨g4,0,F⟩) (f.length+1) C) (cs++[(s,p)]) is (f++[O (N ⟨g,0,F⟩) i i])):=(d.o.below ((Below.refl _ _).alloc (Nat.le_refl _) (Q #[.string s,.string p] 124))).pushC (x:=(s,p)) a B e4.o ol;have e1:Hd (Below base w (w5.setCell ⟨l,1,F⟩ (O (N ⟨g5,0,F⟩) (cs.length+1) U))):=((e2.o.alloc (Nat.le_trans d.o.hB (Nat.le_of_lt d.o.lt)) (Q #[.string s,.string p] 124)).grown a (Nat.le_trans (d.o.below ((Below.refl _ _).alloc (Nat.le_refl _) (Q #[.string s,.string p] 124))).hB (Nat.le_of_lt (d.o.below ((Below.refl _ _).alloc (Nat.le_refl _) (Q #[.string s,.string p] 124))).lt)) (λq hq=>((d.o.below ((Below.refl _ _).alloc (Nat.le_refl _) (Q #[.string s,.string p] 124))).cr.lt q hq).1)).setCell d.o.hB _;have b1:Hd (w.heap.size<=w5.heap.size/\∀b,b<w.heap.size->b≠l->(O bo f.length bc).ownBlock≠N b->S.ownBlock≠N b->(w5.setCell ⟨l,1,F⟩ (O (N ⟨g5,0,F⟩) (cs.length+1) U)).heap[b]?=w.heap[b]?):=⟨(by have W:=a0.o.1;have R:=a.size;simp[World.setCell]at R;omega),(λb W R h3 h4=>by have h8:=a0.o.1;rw[za R,a.block b (by simp[World.setCell];omega) (λe=>h4 e.symm),Below.heap_alloc _ _ _ (by simp[World.setCell];omega),za R,a0.o.2 b W h3])⟩;clear B a b6 c5))
     refine(a8.o _).mono ?_;rintro e w6 ⟨a5,o6,m6,k6,rfl,c1,b3⟩;obtain⟨g0,K⟩:=b3 rfl;subst g0;obtain⟨g6,f2,b2,_,_⟩:=K.form ol;obtain⟨f9,c8⟩:o6=N ⟨g6,0,F⟩/\k6=f2:=by cases b2;exact⟨rfl,rfl⟩
     subst f9;have d4:=run_convert_bytes_arg (P:=T) w6 57 5 underlying57 underlying5 g6 0 X.length k6 X rfl (λq hq=>by
      have:=World.ownsRow.cellAt K q ol
      rw[Nat.zero_add,this];simp[hq]) 9 underlying9
     rw[e9.o]at d4;have i5:Hd _:=Y.o.below a5;have k0:Hd (Below base w w6):=e1.o.trans (a5.mono (Nat.le_trans Y.o.hB (Nat.le_of_lt Y.o.lt)));have i9:Hd (∀b,b<w.heap.size->b≠l->(O bo f.length bc).ownBlock≠N b->S.ownBlock≠N b->w6.heap[b]?=w.heap[b]?):=λb W R h3 h4=>(a5.block b (by have:=b1.o.1;rw[World.size_setCell];omega)).trans (b1.o.2 b W R h3 h4)
     have m7:(1:Int)<=(p.size:Int):=ol;have m5:(p.size:Int)<=32000:=ol;clear K b2 c8 a5 c1 b3 d5;go_wp2_with fail;go_ret;exact⟨rfl,k0.o,_,_,_,_,i5.o,i9.o⟩
 ·have h0:E=z2:=by rw[V.o,if_neg ol]
  subst h0;obtain⟨rfl,rfl,rfl⟩:=e8.o R;have c0:=λwz=>zba 57 5 underlying57 wz
  have i3:(E==0)=I:=by simpa using R
  have k2:(E != 0)=G:=by simp[bne,i3]
  go_wp2_with fail;go_ret;exact⟨rfl,D.o.mono a9.o,S,bv,cs,f,(H.o.below D.o).mono,λb hl _ _ _=>D.o.block b hl⟩
end Go.Proofs.YtaebngpoagjafabGreat
