import Derived.Test.YtaebngpoagjafabGreatQ24
import Derived.Test.YtaebngpoagjafabGreatQ26
set_option maxRecDepth 100000
set_option maxHeartbeats 1600000
namespace Go.Proofs.YtaebngpoagjafabGreat
open Option renaming none → F,some → N
open Proofs.Tryz renaming prog → S
open Bool renaming false → T,true → P
open Proofs.Tryz
open Obj renaming cells → Q
open Value renaming int → J, slice → O
open IntKind renaming i64 → Z
open Go.RowKit
attribute [local go_sem ↓] Go.wp_at_zero Go.wp_at_succ
section
def yO(a b c d e:Value)(D:Array Value)(f g h i j k:Value):Array Value:=#[a,b,c,d,e]++D++#[f,g,h,i,j,k]
theorem za6{a b c d e:Value}{D:Array Value}{f g h i j k:Value}{n:Nat}(m:D.size=64)(l:n<64):(yO a b c d e D f g h i j k)[5+n]?=D[n]?:=by
 unfold yO;rw[Array.getElem?_append_left ow,Array.getElem?_append_right ot];simp
theorem za5{a b c d e:Value}{D:Array Value}{f g h i j k:Value}(l:D.size=64)(n:Nat):(yO a b c d e D f g h i j k)[69+n]?=#[f,g,h,i,j,k][n]?:=by
 unfold yO;rw[Array.getElem?_append_right ow];congr 1
 simp;omega
theorem xP{a b c d e:Value}{D:Array Value}{f g h i j k:Value}{n:Nat}(l:n<5):(yO a b c d e D f g h i j k)[n]?=#[a,b,c,d,e][n]?:=by
 unfold yO;rw[Array.getElem?_append_left ow,Array.getElem?_append_left (by simpa using l)]
theorem xO{a b c d e:Value}{D:Array Value}{f g h i j k:Value}(l:D.size=64):(yO a b c d e D f g h i j k).size=75:=by simp[yO,l]
theorem yJ{X Y:Array Value}{n:Nat}{u:Value}(h:n<X.size):(X++Y).setIfInBounds n u=X.setIfInBounds n u++Y:=by
 apply Array.ext'
 simp only[Array.toList_setIfInBounds,Array.toList_append];rw[List.set_append_left _ _ (by simpa using h)]
theorem ZZ{X Y:Array Value}{n:Nat}{u:Value}(h:X.size<=n):(X++Y).setIfInBounds n u=X++Y.setIfInBounds (n-X.size) u:=by
 apply Array.ext'
 simp only[Array.toList_setIfInBounds,Array.toList_append];rw[List.set_append_right _ _ (by simpa using h)];simp
theorem zbS{a b c d e:Value}{D:Array Value}{f g h i j k u:Value}:(yO a b c d e D f g h i j k).setIfInBounds 1 u=yO a u c d e D f g h i j k:=by
 unfold yO;rw[yJ ow,yJ ot];rfl
theorem zbR{a b c d e:Value}{D:Array Value}{f g h i j k u:Value}:(yO a b c d e D f g h i j k).setIfInBounds 2 u=yO a b u d e D f g h i j k:=by
 unfold yO;rw[yJ ow,yJ ot];rfl
theorem zak{a b c d e:Value}{D:Array Value}{f g h i j k u:Value}(l:D.size=64):(yO a b c d e D f g h i j k).setIfInBounds 72 u=yO a b c d e D f g h u j k:=by
 unfold yO;rw[ZZ ow];simp[l]
theorem Qw{a b c d e:Value}{D:Array Value}{f g h i j k u:Value}(l:D.size=64):(yO a b c d e D f g h i j k).setIfInBounds 73 u=yO a b c d e D f g h i u k:=by
 unfold yO;rw[ZZ ow];simp[l]
theorem zaj{a b c d e:Value}{D:Array Value}{f g h i j k u:Value}(l:D.size=64):(yO a b c d e D f g h i j k).setIfInBounds 74 u=yO a b c d e D f g h i j u:=by
 unfold yO;rw[ZZ ow];simp[l]
structure CS (w:World) (base:Nat) (co:Option Addr) (cb coff:Nat) (C:List Int):Prop where
 at_:0<C.length->co=N ⟨cb,coff,F⟩
 lt:0<C.length->cb<base
 val:∀i x,C[i]?=N x->w.cell? ⟨cb,coff+i,F⟩=N (J .u8 x)
 byt:∀x∈C,0<=x/\x<256
structure RM (w:World) (base B:Nat) (co:Option Addr) (cb coff cc:Nat) (C:List Int) (W:RW) (D:Array Value) (av sv:Value) (s:RT):Prop where
 blk:w.heap[B]?=N (Q (yO (O co C.length cc) (J Z s.r.p) (.bool s.r.b) (J Z W.addr) (J Z W.draw) D av (J Z W.reg) (J Z W.dep) sv (J Z s.ttl) (J Z s.sc)) 118 (0,0))
 dsz:D.size=64
 dn:∀i,i<64->D[i]?=N (.bool (W.dn i))
 row:w.ownsRow base 3 1 sv s.sv.length (s.sv.map (J Z))
 hB:base<=B
 code:CS w base co cb coff C
structure RQ (B:Nat) (w w':World):Prop where
 bel:Below 0 w w'
 kept:∀b,b<w.heap.size->b≠B->w'.heap[b]?=w.heap[b]?
theorem RQ.refl(B:Nat)(w:World):RQ B w w:=⟨Below.refl _ _,λ_ _ _=>rfl⟩
theorem RQ.trans{B:Nat}{a b c:World}(h:RQ B a b)(k:RQ B b c):RQ B a c:=⟨h.bel.trans k.bel,λx hx hn=>(k.kept x (Nat.lt_of_lt_of_le hx h.bel.size) hn).trans (h.kept x hx hn)⟩
theorem RQ.drewN{B:Nat}{a b:World}(h:RQ B a b)(n:Nat):RQ B a (b.drewN n):=⟨⟨h.bel.os,h.bel.tape,h.bel.output,h.bel.size,h.bel.block⟩,h.kept⟩
theorem RQ.setCell{B:Nat}{a b:World}(h:RQ B a b)(j:Nat)(u:Value):RQ B a (b.setCell ⟨B,j,F⟩ u):=⟨h.bel.setCell (Nat.zero_le _) u,λx hx hn=>by rw[za hn];exact h.kept x hx hn⟩
theorem RQ.alloc{B:Nat}{a b:World}(h:RQ B a b)(o:Obj):RQ B a (b.alloc o):=⟨h.bel.alloc (Nat.zero_le _) o,λx hx hn=>by rw[Below.heap_alloc _ _ _ (Nat.lt_of_lt_of_le hx h.bel.size)];exact h.kept x hx hn⟩
theorem RQ.below{B:Nat}{a b:World}(h:RQ B a b){base:Nat}(d:base<=B)(c:base<=a.heap.size):Below base a b:=⟨h.bel.os,h.bel.tape,h.bel.output,h.bel.size,λk hk=>h.kept k ol ol⟩
section
variable {w:World} {base B:Nat} {co:Option Addr} {cb coff cc:Nat} {C:List Int} {W:RW} {D:Array Value} {av sv:Value} {s:RT}
theorem RM.lt(h:RM w base B co cb coff cc C W D av sv s):B<w.heap.size:=lt_of_block h.blk
theorem RM.c0(h:RM w base B co cb coff cc C W D av sv s):w.cell? ⟨B,0,F⟩=N (O co C.length cc):=by rw[cell_of_row w B 0 _ _ _ h.blk,xP oq];rfl
theorem RM.c1(h:RM w base B co cb coff cc C W D av sv s):w.cell? ⟨B,1,F⟩=N (J Z s.r.p):=by rw[cell_of_row w B 1 _ _ _ h.blk,xP oq];rfl
theorem RM.c2(h:RM w base B co cb coff cc C W D av sv s):w.cell? ⟨B,2,F⟩=N (.bool s.r.b):=by rw[cell_of_row w B 2 _ _ _ h.blk,xP oq];rfl
theorem RM.c3(h:RM w base B co cb coff cc C W D av sv s):w.cell? ⟨B,3,F⟩=N (J Z W.addr):=by rw[cell_of_row w B 3 _ _ _ h.blk,xP oq];rfl
theorem RM.c4(h:RM w base B co cb coff cc C W D av sv s):w.cell? ⟨B,4,F⟩=N (J Z W.draw):=by rw[cell_of_row w B 4 _ _ _ h.blk,xP oq];rfl
theorem RM.cd(h:RM w base B co cb coff cc C W D av sv s){i:Nat}(hi:i<64):w.cell? ⟨B,5+i,F⟩=N (.bool (W.dn i)):=by
 rw[cell_of_row w B (5+i) _ _ _ h.blk,za6 h.dsz hi];exact h.dn i hi
theorem RM.ch(h:RM w base B co cb coff cc C W D av sv s)(i:Nat):w.cell? ⟨B,69+i,F⟩=#[av,J Z W.reg,J Z W.dep,sv,J Z s.ttl,J Z s.sc][i]?:=by
 rw[cell_of_row w B (69+i) _ _ _ h.blk,za5 h.dsz]
theorem RM.fz(h:RM w base B co cb coff cc C W D av sv s)(j:Nat):w.frozen? ⟨B,j,F⟩=T:=by simp[World.frozen?,h.blk]
theorem RM.ne(h:RM w base B co cb coff cc C W D av sv s):sv.ownBlock≠N B:=zi h.row h.blk oq
theorem zH{w:World}{B j:Nat}{cs:Array Value}{u:Value}{t:TypeId}(h:w.heap[B]?=N (Q cs t (0,0))):(w.setCell ⟨B,j,F⟩ u).heap[B]?=N (Q (cs.setIfInBounds j u) t (0,0)):=by
 simp[World.setCell,Array.getElem?_modify,h]
theorem CS.set(h:CS w base co cb coff C)(b:base<=B)(j:Nat)(u:Value):CS (w.setCell ⟨B,j,F⟩ u) base co cb coff C:=⟨h.at_,h.lt,λi x hx=>by
 have a:0<C.length:=by have:=(List.getElem?_eq_some_iff.1 hx).1;omega
 rw[World.cell?_of_block (za (by have:=h.lt a;simp only;omega))];exact h.val i x hx,h.byt⟩
theorem CS.of_kept{w':World}(h:CS w base co cb coff C)(c:∀b,b<base->w'.heap[b]?=w.heap[b]?):CS w' base co cb coff C:=⟨h.at_,h.lt,λi x hx=>by
 have a:0<C.length:=by have:=(List.getElem?_eq_some_iff.1 hx).1;omega
 rw[World.cell?_of_block (c cb (h.lt a))];exact h.val i x hx,h.byt⟩
theorem RM.at(h:RM w base B co cb coff cc C W D av sv s)(p:Nat)(x:Int)(a:x=p):RM (w.setCell ⟨B,1,F⟩ (J Z x)) base B co cb coff cc C W D av sv ⟨⟨p,s.r.b⟩,s.sv,s.ttl,s.sc⟩ :=
 ⟨by rw[a,zH h.blk,zbS],h.dsz,h.dn,ownsRow_setCell_other h.row h.ne _,h.hB,h.code.set h.hB _ _⟩
theorem RM.bad(h:RM w base B co cb coff cc C W D av sv s)(b:Bool):RM (w.setCell ⟨B,2,F⟩ (.bool b)) base B co cb coff cc C W D av sv ⟨⟨s.r.p,b⟩,s.sv,s.ttl,s.sc⟩ :=
 ⟨by rw[zH h.blk,zbR],h.dsz,h.dn,ownsRow_setCell_other h.row h.ne _,h.hB,h.code.set h.hB _ _⟩
theorem RM.ttlS(h:RM w base B co cb coff cc C W D av sv s)(n:Int):RM (w.setCell ⟨B,73,F⟩ (J Z n)) base B co cb coff cc C W D av sv ⟨s.r,s.sv,n,s.sc⟩ :=
 ⟨by rw[zH h.blk,Qw h.dsz],h.dsz,h.dn,ownsRow_setCell_other h.row h.ne _,h.hB,h.code.set h.hB _ _⟩
theorem RM.scS(h:RM w base B co cb coff cc C W D av sv s)(n:Int):RM (w.setCell ⟨B,74,F⟩ (J Z n)) base B co cb coff cc C W D av sv ⟨s.r,s.sv,s.ttl,n⟩ :=
 ⟨by rw[zH h.blk,zaj h.dsz],h.dsz,h.dn,ownsRow_setCell_other h.row h.ne _,h.hB,h.code.set h.hB _ _⟩
theorem RM.drewN(h:RM w base B co cb coff cc C W D av sv s)(n:Nat):RM (w.drewN n) base B co cb coff cc C W D av sv s:=⟨h.blk,h.dsz,h.dn,h.row,h.hB,⟨h.code.at_,h.code.lt,h.code.val,h.code.byt⟩⟩
theorem RM.alloc(h:RM w base B co cb coff cc C W D av sv s)(o:Obj):RM (w.alloc o) base B co cb coff cc C W D av sv s :=
 ⟨by rw[Below.heap_alloc _ _ _ h.lt];exact h.blk,h.dsz,h.dn,h.row.alloc o,h.hB,h.code.of_kept (λb hb=>Below.heap_alloc _ _ _ (by have:=h.lt;have:=h.hB;omega))⟩
end
theorem Jz(base B:Nat)(k:Option Addr)(m c l:Nat)(C:List Int)(W:RW)(D:Array Value)(n g:Value)(s:RT)(w:World)(z:s.r.p<=1000000000000000000)(h:RM w base B k m c l C W D n g s):
 Calls S 105 #[.pointer (N ⟨B,0,F⟩)] w λe w'=>e=.returned (J Z (nxV C s.r))/\RM w' base B k m c l C W D n g ⟨nx C s.r,s.sv,s.ttl,s.sc⟩/\RQ B w w':=by
 have H:Hd (RM w base B k m c l C W D n g s):=h;have O:=h.c0;have G:=h.c1;have E:=h.c2;have K:=h.fz 1;have I:=h.fz 2;have a:=h.code;clear h;obtain⟨⟨p,b⟩,L,ttl,sc⟩:=s;simp only at G E z;have y:(0:Int)<=(p:Int):=ol;by_cases d:p<C.length
 ·obtain⟨x,f⟩:∃x,C[p]?=N x:=⟨C[p],List.getElem?_eq_getElem d⟩;have v:=a.val p x f;have A:=a.byt x (List.mem_of_getElem? f);obtain rfl:=a.at_ ol;have t:Hd (nxV C ⟨p,b⟩=x):=by show _=_;simp[nxV,f]
  have q:Hd (nx C ⟨p,b⟩=⟨p+1,b⟩):=by show _=_;simp[nx,d]
  have u:(p:Int)<(C.length:Int):=ol;have j:decide ((C.length:Int)<=(p:Int))=T:=decide_eq_false ol;have i:decide ((p:Int)<0)=T:=decide_eq_false ol;clear a f;go_enter func105,ntmps105;go_wp2_with fail;go_quiet (fail)
  go_wp2_with fail;go_quiet (fail)
  go_wp2_with fail;go_ret;exact⟨by rw[t.o];rfl,by rw[q.o];exact(H.o.drewN _).at (p+1) ((p:Int)+1) ol,((RQ.refl _ _).drewN _).setCell _ _⟩
 ·have t:Hd (nxV C ⟨p,b⟩=0):=by show _=_;simp[nxV,List.getElem?_eq_none (Nat.le_of_not_lt d)]
  have q:Hd (nx C ⟨p,b⟩=⟨p,P⟩):=by show _=_;simp[nx,d]
  have j:decide ((C.length:Int)<=(p:Int))=P:=decide_eq_true ol;have i:decide ((p:Int)<0)=T:=decide_eq_false ol;clear a;go_enter func105,ntmps105;go_wp2_with fail;go_quiet (fail)
  go_wp2_with fail;go_ret;exact⟨by rw[t.o];rfl,by rw[q.o];exact(H.o.drewN _).bad P,((RQ.refl _ _).drewN _).setCell _ _⟩
end
theorem zdF{C:List Int}(h:∀x∈C,0<=x/\x<256)(r:RD):0<=nxV C r/\nxV C r<=255:=by
 unfold nxV;cases hx:C[r.p]? with
 |none=>simp
 |some x=>have:=h x (List.mem_of_getElem? hx);simp;omega
theorem zgv(C:List Int)(r:RD):r.p<=(nx C r).p/\(nx C r).p<=r.p+1:=by unfold nx;split<;>simp
theorem zdi(C:List Int)(r:RD):∀i,r.p<=(Zt C r i).p/\(Zt C r i).p<=r.p+i:=by
 intro i;induction i with
 |zero=>simp[Zt]
 |succ i ih=>have:=zgv C (Zt C r i);simp only[Zt];omega
theorem Qy{C:List Int}(h:∀x∈C,0<=x/\x<256)(r:RD):∀i,0<=rdN C r i/\rdN C r i<yY i:=by
 intro i;induction i with
 |zero=>simp[rdN,yY]
 | succ i ih =>
  have a:=zdF h (Zt C r i);have d:=Ju i;have c:nxV C (Zt C r i)*yY i<=255*yY i:=Int.mul_le_mul_of_nonneg_right a.2 ol;have b:0<=nxV C (Zt C r i)*yY i:=Int.mul_nonneg a.1 ol;simp only[rdN,yY];omega
theorem zfk{i:Nat}(h:i<=4):yY i<=4294967296:=by
 have:i=0\/i=1\/i=2\/i=3\/i=4:=ol
 rcases this with rfl|rfl|rfl|rfl|rfl<;>decide
theorem ZD(C:List Int)(r:RD)(k:Nat)(lo hi:Int):r.p<=(num C r k lo hi).p/\(num C r k lo hi).p<=r.p+k:=zdi C r k
theorem Ze(base B:Nat)(m:Option Addr)(u d t:Nat)(C:List Int)(W:RW)(D:Array Value)(v l:Value)(s:RT)(kI lo hi:Int)(k:Nat)(w:World)(hk:kI=k)(b1:k<=4)(hp:s.r.p<=900000000000000000)(h:RM w base B m u d t C W D v l s):
 Calls S 142 #[.pointer (N ⟨B,0,F⟩),J Z kI,J Z lo,J Z hi] w λe w'=>e=.returned (J Z (rdN C s.r k))/\RM w' base B m u d t C W D v l ⟨num C s.r k lo hi,s.sv,s.ttl,s.sc⟩/\RQ B w w':=by
 subst hk;have H:Hd _:=h;have O:Hd (∀x∈C,0<=x/\x<256):=h.code.byt;clear h;obtain⟨r,R,ttl,sc⟩:=s;simp only at hp;go_enter func142,ntmps142;go_wp2_with fail;go_loopg [9,10,11] k (λq a b y wr=>∃i:Nat,q+i=k/\a=J Z (rdN C r i)/\b=J Z (yY i)/\y=J Z i/\RM wr base B m u d t C W D v l ⟨Zt C r i,R,ttl,sc⟩/\RQ B w wr)
 case atStart=>exact⟨0,ol,rfl,rfl,rfl,H.o,RQ.refl _ _⟩
 case round =>
  obtain⟨i,hq,rfl,rfl,rfl,hm,hv⟩:=hrel;have L:Hd _:=hm;have Q:Hd _:=hv;clear hm hv;have a6:=zdi C r i;have a7:=Qy O.o r i;have a4:=zfk (i:=i) ol;have a5:=Ju i;by_cases b0:i<k
  ·have E:(i:Int)<(k:Int):=(by omega);have z:=zdF O.o (Zt C r i);have a0:Hd (rdN C r (i+1)=rdN C r i+nxV C (Zt C r i)*yY i):=rfl;have Y:Hd (yY (i+1)=yY i*256):=rfl;have a2:Hd (Zt C r (i+1)=nx C (Zt C r i)):=rfl;have a9:0<=nxV C (Zt C r i)*yY i:=Int.mul_nonneg z.1 ol;have a8:nxV C (Zt C r i)*yY i<=255*yY i:=Int.mul_le_mul_of_nonneg_right z.2 ol;go_wp2_with fail;refine(Jz base B m u d t C W D v l _ _ ox L.o).mono ?_;rintro e w1 ⟨rfl,g,A⟩;have a1:Hd (RM w1 base B m u d t C W D v l ⟨Zt C r (i+1),R,ttl,sc⟩):=(by show RM _ _ _ _ _ _ _ _ _ _ _ _ _;rw[a2.o];exact g);have X:Hd _:=Q.o.trans A;clear g A;generalize nxV C (Zt C r i)=c at *;generalize yY i=pw at *;generalize rdN C r i=n at *;go_wp2_with fail;go_roundg (gk-1)
   case measure=>omega
   case rel=>exact⟨i+1,ol,by rw[a0.o],by rw[Y.o],by go_num,a1.o,X.o⟩
  ·have U:i=k:=(by omega);subst U;have E:¬(i:Int)<(i:Int):=ol;have c2:=L.o.c2;have z2:=L.o.fz 2;by_cases f:rdN C r i<lo\/hi<rdN C r i
   ·have j:Hd (num C r i lo hi=⟨(Zt C r i).p,P⟩):=(by show _=_;unfold num;rw[if_pos f]);have K:Hd (RM (wr.setCell ⟨B,2,F⟩ (.bool P)) base B m u d t C W D v l ⟨num C r i lo hi,R,ttl,sc⟩):=(by show RM _ _ _ _ _ _ _ _ _ _ _ _ _;rw[j.o];exact L.o.bad P);by_cases G:rdN C r i<lo
    ·clear f;generalize hnn:rdN C r i=n at *;have I:Hd _:=hnn;clear hnn;go_wp2_with fail;go_ret;exact⟨by rw[I.o];rfl,K.o,Q.o.setCell _ _⟩
    ·have V:hi<rdN C r i:=(by omega);have a3:lo<=rdN C r i:=ol;clear f G;generalize hnn:rdN C r i=n at *;have I:Hd _:=hnn;clear hnn;go_wp2_with fail;go_ret;exact⟨by rw[I.o];rfl,K.o,Q.o.setCell _ _⟩
   ·have j:Hd (num C r i lo hi=Zt C r i):=(by show _=_;unfold num;rw[if_neg f]);have G:lo<=rdN C r i:=ol;have V:rdN C r i<=hi:=ol;clear f;generalize hnn:rdN C r i=n at *;have I:Hd _:=hnn;clear hnn;go_wp2_with fail;go_ret;exact⟨by rw[I.o];rfl,by show RM _ _ _ _ _ _ _ _ _ _ _ _ _;rw[j.o];exact L.o,Q.o⟩
section
section
variable {w:World} {base B:Nat} {co:Option Addr} {cb coff cc:Nat} {C:List Int} {W:RW} {D:Array Value} {av sv:Value} {s:RT}
theorem RM.c69(h:RM w base B co cb coff cc C W D av sv s):w.cell? ⟨B,69,F⟩=N av:=h.ch 0
theorem RM.c70(h:RM w base B co cb coff cc C W D av sv s):w.cell? ⟨B,70,F⟩=N (J Z W.reg):=h.ch 1
theorem RM.c71(h:RM w base B co cb coff cc C W D av sv s):w.cell? ⟨B,71,F⟩=N (J Z W.dep):=h.ch 2
theorem RM.c72(h:RM w base B co cb coff cc C W D av sv s):w.cell? ⟨B,72,F⟩=N sv:=h.ch 3
theorem RM.c73(h:RM w base B co cb coff cc C W D av sv s):w.cell? ⟨B,73,F⟩=N (J Z s.ttl):=h.ch 4
theorem RM.c74(h:RM w base B co cb coff cc C W D av sv s):w.cell? ⟨B,74,F⟩=N (J Z s.sc):=h.ch 5
theorem RM.bs(h:RM w base B co cb coff cc C W D av sv s):base<=w.heap.size:=Nat.le_trans h.hB (Nat.le_of_lt h.lt)
theorem RM.push{w4:World}{ys:List Int}{oo:Option Addr}{n cap:Nat}(h:RM w base B co cb coff cc C W D av sv s)(g:n=(s.sv++ys).length)(f:w.grownBy w4 sv.ownBlock)(a:w4.ownsRow base 3 1 (O oo n cap) n ((s.sv++ys).map (J Z))):
 RM (w4.setCell ⟨B,72,F⟩ (O oo n cap)) base B co cb coff cc C W D av (O oo n cap) ⟨s.r,s.sv++ys,s.ttl,s.sc⟩:=by
 have c:=(f.block B h.lt (λe=>h.ne e.symm)).trans h.blk;have d:CS w4 base co cb coff C:=h.code.of_kept (λb hb=>f.block b (by have:=h.bs;omega) (λe=>by have:=(h.row.lt b e.symm).1;omega));subst g;exact⟨by rw[zH c,zak h.dsz],h.dsz,h.dn,ownsRow_setCell_other a (zi a c oq) _,h.hB,d.set h.hB _ _⟩
theorem RM.pushB{a w4:World}{u:Value}(h:RM w base B co cb coff cc C W D av sv s)(c:Below base a w)(b:w.grownBy w4 sv.ownBlock):Below base a (w4.setCell ⟨B,72,F⟩ u) :=
 (c.grown b h.bs (λk hk=>(h.row.lt k hk).1)).setCell h.hB _
end
theorem YO(base B:Nat)(c:Option Addr)(f a d:Nat)(C:List Int)(W:RW)(D:Array Value)(g b:Value)(s:RT)(w:World)(k:s.r.p<=900000000000000000)(h:RM w base B c f a d C W D g b s):
 Calls S 140 #[.pointer (N ⟨B,0,F⟩)] w λe w'=>e=.returned (J Z (rdN C s.r 1))/\RM w' base B c f a d C W D g b ⟨cnR C s.r,s.sv,s.ttl,s.sc⟩/\RQ B w w':=by
 have H:Hd _:=h;clear h;go_enter func140,ntmps140;go_wp2_with fail;refine(Ze base B c f a d C W D g b s 1 1 16 1 _ rfl oq k H.o).mono ?_;rintro e n ⟨rfl,j,i⟩;have m:Hd _:=j;have l:Hd _:=i;clear j i;go_wp2_with fail;go_ret;exact⟨rfl,m.o,l.o⟩
theorem Xn(base B:Nat)(c:Option Addr)(f a d:Nat)(C:List Int)(W:RW)(D:Array Value)(g b:Value)(s:RT)(w:World)(k:s.r.p<=900000000000000000)(h:RM w base B c f a d C W D g b s):
 Calls S 141 #[.pointer (N ⟨B,0,F⟩)] w λe w'=>e=.returned (J Z (rdN C s.r 1))/\RM w' base B c f a d C W D g b ⟨num C s.r 1 0 63,s.sv,s.ttl,s.sc⟩/\RQ B w w':=by
 have H:Hd _:=h;clear h;go_enter func141,ntmps141;go_wp2_with fail;refine(Ze base B c f a d C W D g b s 1 0 63 1 _ rfl oq k H.o).mono ?_;rintro e n ⟨rfl,j,i⟩;have m:Hd _:=j;have l:Hd _:=i;clear j i;go_wp2_with fail;go_ret;exact⟨rfl,m.o,l.o⟩
theorem jA(base B:Nat)(c:Option Addr)(f a d:Nat)(C:List Int)(W:RW)(D:Array Value)(g b:Value)(s:RT)(w:World)(k:s.r.p<=900000000000000000)(h:RM w base B c f a d C W D g b s):
 Calls S 144 #[.pointer (N ⟨B,0,F⟩)] w λe w'=>e=.returned (J Z (rdN C s.r 2))/\RM w' base B c f a d C W D g b ⟨num C s.r 2 0 32000,s.sv,s.ttl,s.sc⟩/\RQ B w w':=by
 have H:Hd _:=h;clear h;go_enter func144,ntmps144;go_wp2_with fail;refine(Ze base B c f a d C W D g b s 2 0 32000 2 _ rfl oq k H.o).mono ?_;rintro e n ⟨rfl,j,i⟩;have m:Hd _:=j;have l:Hd _:=i;clear j i;go_wp2_with fail;go_ret;exact⟨rfl,m.o,l.o⟩
theorem JJ(base B:Nat)(l:Option Addr)(p a m:Nat)(C:List Int)(W:RW)(D:Array Value)(r f:Value)(s:RT)(n:Int)(w:World)(h:RM w base B l p a m C W D r f s):
 Calls S 143 #[.pointer (N ⟨B,0,F⟩),J Z n] w λe w'=>e=.returned (.bool (upW W n))/\w'=w:=by
 by_cases d:0<=n
 ·by_cases c:n<64
  ·obtain⟨k,rfl⟩:∃k:Nat,n=k:=⟨n.toNat,ol⟩;have t:=h.cd (i:=k) ol;have b:Hd (upW W (k:Int)=!W.dn k):=(by show _=_;unfold upW;simp[c]);clear h;generalize W.dn k=q at *;go_enter func143,ntmps143;go_wp2_with fail;go_ret;exact⟨by rw[b.o];rfl,rfl⟩
  ·have b:Hd (upW W n=T):=(by show _=_;unfold upW;simp[c]);have g:decide (n<64)=T:=decide_eq_false c;clear h;go_enter func143,ntmps143;go_wp2_with fail;go_ret;exact⟨by rw[b.o];rfl,rfl⟩
 ·have b:Hd (upW W n=T):=by show _=_;unfold upW;simp[d]
  have j:decide (0<=n)=T:=decide_eq_false d;clear h;go_enter func143,ntmps143;go_wp2_with fail;go_ret;exact⟨by rw[b.o];rfl,rfl⟩
theorem QG(base B:Nat)(f:Option Addr)(i a g:Nat)(C:List Int)(W:RW)(D:Array Value)(j d:Value)(s:RT)(n:Int)(w:World)(h:RM w base B f i a g C W D j d s):
 Calls S 145 #[.pointer (N ⟨B,0,F⟩),J Z n] w λe w'=>e=.returned (.tuple #[])/\RM w' base B f i a g C W D j d ⟨s.r,s.sv,s.ttl,nar n s.sc⟩/\RQ B w w':=by
 have H:Hd _:=h;have m:=h.c74;have k:=h.fz 74;clear h;by_cases b:s.sc<n
 ·have c:Hd (nar n s.sc=n):=by show _=_;unfold nar;rw[if_pos b]
  go_enter func145,ntmps145;go_wp2_with fail;go_end0
  exact⟨rfl,by rw[c.o];exact H.o.scS n,(RQ.refl _ _).setCell _ _⟩
 ·have c:Hd (nar n s.sc=s.sc):=by show _=_;unfold nar;rw[if_neg b]
  have l:n<=s.sc:=ol;clear b;go_enter func145,ntmps145;go_wp2_with fail;go_end0
  exact⟨rfl,by rw[c.o];exact H.o,RQ.refl _ _⟩
theorem Jk(base B:Nat)(f:Option Addr)(i a g:Nat)(C:List Int)(W:RW)(D:Array Value)(k c:Value)(s:RT)(w:World)(v:s.r.p<=900000000000000000)(h:RM w base B f i a g C W D k c s):
 Calls S 111 #[.pointer (N ⟨B,0,F⟩)] w λe w'=>e=.returned (.tuple #[])/\RM w' base B f i a g C W D k c (yB C s)/\RQ B w w':=by
 have H:Hd _:=h;clear h;go_enter func111,ntmps111;go_wp2_with fail;refine(Ze base B f i a g C W D k c s 3 1 86400 3 _ rfl oq v H.o).mono ?_;rintro e y ⟨rfl,b,m⟩;have t:Hd _:=b;have q:Hd _:=m;have j:=b.c73;have u:=b.fz 73;simp only at j;clear b m;by_cases d:rdN C s.r 3<s.ttl
 ·have l:Hd (yB C s=⟨num C s.r 3 1 86400,s.sv,rdN C s.r 3,s.sc⟩):=by show _=_;unfold yB;rw[if_pos d]
  generalize rdN C s.r 3=n at *;go_wp2_with fail;go_end0
  exact⟨rfl,by rw[l.o];exact t.o.ttlS n,q.o.setCell _ _⟩
 ·have l:Hd (yB C s=⟨num C s.r 3 1 86400,s.sv,s.ttl,s.sc⟩):=by show _=_;unfold yB;rw[if_neg d]
  have x:s.ttl<=rdN C s.r 3:=ol;clear d;generalize rdN C s.r 3=n at *;go_wp2_with fail;go_end0
  exact⟨rfl,by rw[l.o];exact t.o,q.o⟩
end
theorem Je(C:List Int)(r:RD):∀i,r.p<=(svR C r i).p/\(svR C r i).p<=r.p+i:=by
 intro i;induction i with
 |zero=>simp[svR]
 |succ i ih=>have:=ZD C (svR C r i) 1 0 63;simp only[svR];omega
theorem za0(C:List Int)(r:RD):∀i,(svL C r i).length=i:=by
 intro i;induction i with
 |zero=>rfl
 |succ i ih=>simp[svL,ih]
theorem qE{C:List Int}(h:∀x∈C,0<=x/\x<256)(r:RD):rdN C r 1=(cnN C r:Int)/\cnN C r<=255:=by
 have b:=Qy h r 1;have a:yY 1=256:=oq;rw[a]at b;unfold cnN;omega
theorem RQ.owns{B:Nat}{w w':World}(h:RQ B w w'){base e a:Nat}{v:Value}{n:Nat}{c:List Value}(d:w.ownsRow base e a v n c)(b:v.ownBlock≠N B):w'.ownsRow base e a v n c:=zd d (λg hg=>h.kept g (d.lt g hg).2 (λe=>b (by rw[<-e];exact hg)))
theorem Jj(base B:Nat)(I:Option Addr)(R c K:Nat)(C:List Int)(W:RW)(D:Array Value)(U X:Value)(s:RT)(w:World)(hp:s.r.p<=900000000000000000-1000)(hl:s.sv.length<=100000)(h:RM w base B I R c K C W D U X s):
 Calls S 106 #[.pointer (N ⟨B,0,F⟩)] w λe w'=>e=.returned (.tuple #[])/\(∃sv',RM w' base B I R c K C W D U sv' (ZC C s))/\Below base w w':=by
 obtain⟨i0,a3,a1,a0,Y⟩:=info_parts infoInt;have H:Hd _:=h;have b2:Hd (∀x∈C,0<=x/\x<256):=h.code.byt;have b3:Hd _:=h.bs;have V:Hd (base<=B):=h.hB;clear h;go_enter func106,ntmps106;go_wp2_with fail;refine(YO base B I R c K C W D U X s _ ol H.o).mono ?_;rintro e w1 ⟨rfl,v,hv⟩;have b1:Hd _:=v;have b6:Hd (Below base w w1):=hv.below V.o b3.o;clear v hv;obtain⟨E,a4⟩:=qE b2.o s.r;rw[E];have A:=ZD C s.r 1 1 16;have b0:Hd (ZC C s=⟨svR C (cnR C s.r) (cnN C s.r),s.sv++svL C (cnR C s.r) (cnN C s.r),s.ttl,s.sc⟩):=rfl;have b8:(cnR C s.r).p<=s.r.p+1:=A.2;generalize cnN C s.r=n at *;generalize cnR C s.r=r at *;clear E A;go_wp2_with fail;go_loopg [3] n (λq y wr=>∃(i:Nat) (sv':Value),q+i=n/\y=J Z i/\RM wr base B I R c K C W D U sv' ⟨svR C r i,s.sv++svL C r i,s.ttl,s.sc⟩/\Below base w wr)
 case atStart=>exact⟨0,X,ol,rfl,by simpa[svR,svL]using b1.o,b6.o⟩
 case round =>
  obtain⟨i,sv',hq,rfl,v,hb⟩:=hrel;have HM:Hd _:=v;have HB:Hd _:=hb;clear v hb;have b9:=Je C r i;by_cases c0:i<n
  ·have z:(i:Int)<(n:Int):=(by omega);go_wp2_with fail;refine(Xn base B I R c K C W D U sv' _ _ ox HM.o).mono ?_;rintro e k ⟨rfl,d,l⟩;have b:Hd _:=d;have b5:Hd (Below base w k):=HB.o.trans (l.below V.o HM.o.bs);have c3:=d.c72;have HL:Hd (s.sv++svL C r (i+1)=(s.sv++svL C r i)++[rdN C (svR C r i) 1]):=(by show _=_;simp[svL]);have G:base<=k.heap.size:=d.bs;have c1:(s.sv++svL C r i).length<=200000:=(by rw[List.length_append,za0];omega);clear d l;simp only;generalize rdN C (svR C r i) 1=x at *;generalize s.sv++svL C r i=L at *;have a8:Hd (L.length+1<=maxLen):=sx;have a7:Hd ((L.length+1)*8<=140737488355328):=oz;have a6:Hd (base<=(k.alloc (Q #[J Z x] 3)).heap.size):=mc;have m:Hd (∀u∈[J Z x],u.oneCell'=P):=λu hu=>by simp at hu;subst hu;rfl
   go_wp2_with (at_builtin;refine wpList_append_lies _ rfl _ _ 25 rfl base 3 i0 _ 1 8 underlying25 a3 a1 a0 Y rfl oq sv' _ _ rfl (b.o.row.alloc _) ⟨k.heap.size,0,F⟩ 1 1 [J Z x] rfl rfl (World.news_of_block (cs:=#[J Z x]) (t:=3) (fr:=(0,0)) (heap_alloc_new k _)) m.o (Nat.lt_succ_self 0) a8.o a7.o a6.o (k.heap.size+1) ot ?_;intro g a9 w4 f a a5 b7;have zz:w4.frozen? ⟨B,72,F⟩=T:=(a.frozen_far ⟨B,72,F⟩ (by have:=b.o.lt;simp;omega) (λe=>b.o.ne e.symm)).trans ((b.o.alloc _).fz 72);have c2:w4.cell? ⟨B,72,F⟩=N sv':=(a.cell_far ⟨B,72,F⟩ (by have:=b.o.lt;simp;omega) (λe=>b.o.ne e.symm)).trans (b.o.alloc _).c72)
   have j:=(b.o.alloc (Q #[J Z x] 3)).push (ys:=[x]) (n:=L.length+1) ot a (by simpa using f);have b4:=(b.o.alloc (Q #[J Z x] 3)).pushB (u:=O (N ⟨g,0,F⟩) (L.length+1) a9) (b5.o.alloc G _) a;simp only at j;rw[<-HL.o]at j;clear f a a5;go_roundg (gk-1)
   case measure=>omega
   case rel=>exact⟨i+1,_,ol,by go_num,j,b4⟩
  ·have a2:i=n:=(by omega);subst a2;have z:¬(i:Int)<(i:Int):=ol;go_wp2_with fail;go_end0
   exact⟨rfl,⟨sv',by rw[b0.o];exact HM.o⟩,HB.o⟩
theorem zcH(base B:Nat)(k:Option Addr)(m c l:Nat)(C:List Int)(W:RW)(D:Array Value)(v d:Value)(s:RT)(w:World)(hp:s.r.p<=900000000000000000-1000)(hl:s.sv.length<=100000)(h:RM w base B k m c l C W D v d s):
 Calls S 108 #[.pointer (N ⟨B,0,F⟩)] w λe w'=>e=.returned (.bool (yS W C s).2)/\(∃sv',RM w' base B k m c l C W D v sv' (yS W C s).1)/\Below base w w':=by
 obtain⟨i0,a4,a2,a1,a0⟩:=info_parts infoInt;have H:Hd _:=h;have b5:Hd (∀x∈C,0<=x/\x<256):=h.code.byt;have b6:Hd _:=h.bs;have V:Hd (base<=B):=h.hB;clear h;go_enter func108,ntmps108;go_wp2_with fail;refine(YO base B k m c l C W D v d s _ ol H.o).mono ?_;rintro e w1 ⟨rfl,G,hv⟩;have b3:Hd _:=G;have b8:Hd (Below base w w1):=hv.below V.o b6.o;clear G hv;obtain⟨L,a6⟩:=qE b5.o s.r;rw[L];have K:=ZD C s.r 1 1 16;have U:Hd (yS W C s=match chG W C (cnR C s.r) 0 (cnN C s.r)with
  |some i=>(⟨svR C (cnR C s.r) (i+1),s.sv++[rdN C (svR C (cnR C s.r) i) 1],s.ttl,s.sc⟩,P)
  |none=>(⟨svR C (cnR C s.r) (cnN C s.r),s.sv,s.ttl,s.sc⟩,T)):=rfl
 have c0:(cnR C s.r).p<=s.r.p+1:=K.2;generalize cnN C s.r=n at *;generalize cnR C s.r=r at *;clear L K;go_wp2_with fail;go_loopg [4] n (λq y wr=>∃i:Nat,q+i=n/\y=J Z i/\Hd (chG W C r 0 n=chG W C r i q)/\RM wr base B k m c l C W D v d ⟨svR C r i,s.sv,s.ttl,s.sc⟩/\Below base w wr)
 case atStart=>exact⟨0,ol,rfl,rfl,b3.o,b8.o⟩
 case round =>
  obtain⟨i,hq,rfl,HC,G,hb⟩:=hrel;have HM:Hd _:=G;have HB:Hd _:=hb;clear G hb;have c2:=Je C r i;by_cases c3:i<n
  ·have I:(i:Int)<(n:Int):=(by omega);obtain⟨q',rfl⟩:∃q',gk=q'+1:=⟨gk-1,ol⟩;go_wp2_with fail;refine(Xn base B k m c l C W D v d _ _ ox HM.o).mono ?_;rintro e j ⟨rfl,E,z⟩;have a:Hd _:=E;have Y:Hd (Below base w j):=HB.o.trans (z.below V.o HM.o.bs);clear E z;simp only;go_wp2_with fail;refine(JJ base B k m c l C W D v d _ _ _ a.o).mono ?_;rintro e w' ⟨rfl,c1⟩;subst w';have c5:=a.o.c72;have R:base<=j.heap.size:=a.o.bs;cases hu:upW W (rdN C (svR C r i) 1)with
   | true =>
    have X:Hd (yS W C s=(⟨svR C r (i+1),s.sv++[rdN C (svR C r i) 1],s.ttl,s.sc⟩,P)):=(by show _=_;rw[U.o,HC.o];simp only[chG];rw[if_pos hu]);clear hu;generalize rdN C (svR C r i) 1=x at *;have b0:Hd (s.sv.length+1<=maxLen):=sx;have a9:Hd ((s.sv.length+1)*8<=140737488355328):=oz;have a8:Hd (base<=(j.alloc (Q #[J Z x] 3)).heap.size):=mc;have A:Hd (∀u∈[J Z x],u.oneCell'=P):=λu hu=>by simp at hu;subst hu;rfl
    go_wp2_with (at_builtin;refine wpList_append_lies _ rfl _ _ 25 rfl base 3 i0 _ 1 8 underlying25 a4 a2 a1 a0 rfl oq d _ _ rfl (a.o.row.alloc _) ⟨j.heap.size,0,F⟩ 1 1 [J Z x] rfl rfl (World.news_of_block (cs:=#[J Z x]) (t:=3) (fr:=(0,0)) (heap_alloc_new j _)) A.o (Nat.lt_succ_self 0) b0.o a9.o a8.o (j.heap.size+1) ot ?_;intro g b1 w4 f b a7 b9;have zz:w4.frozen? ⟨B,72,F⟩=T:=(b.frozen_far ⟨B,72,F⟩ (by have:=a.o.lt;simp;omega) (λe=>a.o.ne e.symm)).trans ((a.o.alloc _).fz 72);have c4:w4.cell? ⟨B,72,F⟩=N d:=(b.cell_far ⟨B,72,F⟩ (by have:=a.o.lt;simp;omega) (λe=>a.o.ne e.symm)).trans (a.o.alloc _).c72)
    have b2:=(a.o.alloc (Q #[J Z x] 3)).push (ys:=[x]) (n:=s.sv.length+1) ot b (by simpa using f);have b7:=(a.o.alloc (Q #[J Z x] 3)).pushB (u:=O (N ⟨g,0,F⟩) (s.sv.length+1) b1) (Y.o.alloc R _) b;clear f b a7;go_ret;exact⟨by rw[X.o];rfl,⟨_,by rw[X.o];exact b2⟩,b7⟩
   | false =>
    have b4:Hd (chG W C r 0 n=chG W C r (i+1) q'):=(by show _=_;rw[HC.o];simp only[chG];rw[if_neg (by rw[hu];decide)]);clear hu;go_wp2_with fail;go_roundg q'
    case measure=>omega
    case rel=>exact⟨i+1,ol,by go_num,b4,a.o,Y.o⟩
  ·have a3:i=n:=(by omega);subst a3;have a5:gk=0:=ol;subst a5;have I:¬(i:Int)<(i:Int):=ol;have X:Hd (yS W C s=(⟨svR C r i,s.sv,s.ttl,s.sc⟩,T)):=(by show _=_;rw[U.o,HC.o];rfl);go_wp2_with fail;go_ret;exact⟨by rw[X.o];rfl,⟨d,by rw[X.o];exact HM.o⟩,HB.o⟩
theorem zf7(C:List Int)(r:RD):∀i,r.p<=(rgR C r i).p/\(rgR C r i).p<=r.p+3*i:=by
 intro i;induction i with
 |zero=>simp[rgR]
 |succ i ih=>have b:=ZD C (rgR C r i) 1 0 99;have a:=ZD C (num C (rgR C r i) 1 0 99) 2 0 32000;simp only[rgR];omega
theorem XP{C:List Int}(h:∀x∈C,0<=x/\x<256)(r:RD):0<=rdN C r 2/\rdN C r 2<=65535:=by
 have b:=Qy h r 2;have a:yY 2=65536:=oq;rw[a]at b;omega
theorem zdf{W:RW}{C:List Int}(h:∀x∈C,0<=x/\x<256)(r:RD):∀i,0<=rgT W C r i/\rgT W C r i<=65535:=by
 intro i;induction i with
 |zero=>simp[rgT]
 | succ i ih =>
  simp only[rgT];split
  ·exact XP h _
  ·exact ih
theorem Jn(base B:Nat)(l:Option Addr)(u a m:Nat)(C:List Int)(W:RW)(D:Array Value)(v j:Value)(s:RT)(w:World)(hp:s.r.p<=900000000000000000-10000)(h:RM w base B l u a m C W D v j s):
 Calls S 110 #[.pointer (N ⟨B,0,F⟩)] w λe w'=>e=.returned (.tuple #[])/\RM w' base B l u a m C W D v j (Zc W C s)/\Below base w w':=by
 have H:Hd _:=h;have Q:Hd (∀x∈C,0<=x/\x<256):=h.code.byt;have a2:Hd _:=h.bs;have f:Hd (base<=B):=h.hB;clear h;go_enter func110,ntmps110;go_wp2_with fail;refine(YO base B l u a m C W D v j s _ ol H.o).mono ?_;rintro e w1 ⟨rfl,G,hv⟩;have a1:Hd _:=G;have a3:Hd (Below base w w1):=hv.below f.o a2.o;clear G hv;obtain⟨L,X⟩:=qE Q.o s.r;rw[L];have K:=ZD C s.r 1 1 16;have a0:Hd (Zc W C s=⟨⟨(rgR C (cnR C s.r) (cnN C s.r)).p+(rgT W C (cnR C s.r) (cnN C s.r)).toNat,(rgR C (cnR C s.r) (cnN C s.r)).b⟩,s.sv,s.ttl,nar W.dep s.sc⟩):=rfl;have a4:(cnR C s.r).p<=s.r.p+1:=K.2;generalize cnN C s.r=n at *;generalize cnR C s.r=r at *;clear L K;go_wp2_with fail;go_loopg [3,4] n (λq t y wr=>∃i:Nat,q+i=n/\t=J Z (rgT W C r i)/\y=J Z i/\RM wr base B l u a m C W D v j ⟨rgR C r i,s.sv,s.ttl,s.sc⟩/\Below base w wr)
 case atStart=>exact⟨0,ol,rfl,rfl,a1.o,a3.o⟩
 case round =>
  obtain⟨i,hq,rfl,rfl,G,hb⟩:=hrel;have P:Hd _:=G;have HB:Hd _:=hb;clear G hb;have a5:=zf7 C r i;by_cases a7:i<n
  ·have I:(i:Int)<(n:Int):=(by omega);have a6:=ZD C (rgR C r i) 1 0 99;go_wp2_with fail;refine(Ze base B l u a m C W D v j _ 1 0 99 1 _ rfl oq ox P.o).mono ?_;rintro e U ⟨rfl,c,d⟩;have g:Hd _:=c;have A:Hd (Below base w U):=HB.o.trans (d.below f.o P.o.bs);clear c d;simp only;go_wp2_with fail;refine(jA base B l u a m C W D v j _ _ ox g.o).mono ?_;rintro e w3 ⟨rfl,k,E⟩;have O:Hd _:=k;have R:Hd (Below base w w3):=A.o.trans (E.below f.o g.o.bs);have b0:=k.c70;clear k E;simp only;have Y:Hd (rgT W C r (i+1)=if rdN C (rgR C r i) 1=W.reg then rdN C (num C (rgR C r i) 1 0 99) 2 else rgT W C r i):=rfl;generalize rdN C (rgR C r i) 1=x at *;generalize rdN C (num C (rgR C r i) 1 0 99) 2=y at *;cases hx:(x==W.reg)with
   | true =>
    have z:Hd (rgT W C r (i+1)=y):=(by show _=_;rw[Y.o,if_pos (by simpa using hx)]);go_wp2_with fail;go_roundg (gk-1)
    case measure=>omega
    case rel=>exact⟨i+1,ol,by rw[z.o],by go_num,O.o,R.o⟩
   | false =>
    have z:Hd (rgT W C r (i+1)=rgT W C r i):=(by show _=_;rw[Y.o,if_neg (by simpa using hx)]);go_wp2_with fail;go_roundg (gk-1)
    case measure=>omega
    case rel=>exact⟨i+1,ol,by rw[z.o],by go_num,O.o,R.o⟩
  ·have V:i=n:=(by omega);subst V;have I:¬(i:Int)<(i:Int):=ol;have a8:=zdf (W:=W) Q.o r i;have a9:=P.o.c71;generalize hT:rgT W C r i=t at *;have Y:Hd _:=hT;clear hT;go_wp2_with fail;refine(QG base B l u a m C W D v j _ _ _ P.o).mono ?_;rintro e U ⟨rfl,c,d⟩;have g:Hd _:=c;have A:Hd (Below base w U):=HB.o.trans (d.below f.o P.o.bs);have c1:=c.c1;have z1:=c.fz 1;simp only at c1;clear c d;have HE:Hd (Zc W C s=⟨⟨(rgR C r i).p+t.toNat,(rgR C r i).b⟩,s.sv,s.ttl,nar W.dep s.sc⟩):=(by show _=_;rw[a0.o]);generalize rgR C r i=p at *;go_wp2_with fail;go_end0
   exact⟨rfl,by rw[HE.o];exact g.o.at (p.p+t.toNat) ((p.p:Int)+t) ol,A.o.setCell f.o _⟩
section
theorem infoMember:(Tryz.prog.info? 203).map (λi=>(i.zero,i.size,i.bytes))=N (N (.agg #[J Z 0,J Z 0]),2,16):=kr
theorem zgc(C:List Int)(r:RD):∀i,r.p<=(meR C r i).p/\(meR C r i).p<=r.p+3*i:=by
 intro i;induction i with
 |zero=>simp[meR]
 |succ i ih=>have b:=ZD C (meR C r i) 1 0 63;have a:=ZD C (num C (meR C r i) 1 0 63) 2 1 1000;simp only[meR];omega
theorem za2(l:List (Int×Int))(x:Int×Int):suL (l++[x])=suL l+x.2:=by
 induction l with
 |nil=>simp[suL]
 |cons y l ih=>simp only[List.cons_append,suL,ih];omega
theorem zgD{W:RW}{C:List Int}(h:∀x∈C,0<=x/\x<256)(r:RD):∀i,(meL W C r i).length<=i/\0<=suL (meL W C r i)/\suL (meL W C r i)<=65535*i/\∀x∈meL W C r i,0<=x.2/\x.2<=65535:=by
 intro i;induction i with
 |zero=>simp[meL,suL]
 | succ i ih =>
  obtain⟨e,c,d,a⟩:=ih;have b:=XP h (num C (meR C r i) 1 0 63);simp only[meL];split
  ·rw[za2];refine⟨ow,by simp only[meW];omega,by simp only[meW];omega,λx hx=>?_⟩;rcases List.mem_append.1 hx with hx|hx
   ·exact a x hx
   ·simp only[List.mem_singleton]at hx;subst hx;exact b
  ·exact⟨ol,c,ol,a⟩
def mbC(l:List (Int×Int)):List Value:=l.flatMap (λx=>[J Z x.1,J Z x.2])
theorem jR(l:List (Int×Int))(x:Int×Int):mbC (l++[x])=mbC l++[J Z x.1,J Z x.2]:=by simp[mbC]
section
variable {w:World} {base B:Nat} {co:Option Addr} {cb coff cc:Nat} {C:List Int} {W:RW} {D:Array Value} {av sv:Value} {s:RT}
theorem RM.drew(h:RM w base B co cb coff cc C W D av sv s):RM w.drew base B co cb coff cc C W D av sv s:=⟨h.blk,h.dsz,h.dn,h.row,h.hB,⟨h.code.at_,h.code.lt,h.code.val,h.code.byt⟩⟩
theorem RM.grown{w4:World}{a:Option Nat}(h:RM w base B co cb coff cc C W D av sv s)(c:w.grownBy w4 a)(g:a≠N B)(f:sv.ownBlock=F\/sv.ownBlock≠a)(d:∀k,a=N k->base<=k):RM w4 base B co cb coff cc C W D av sv s :=
 ⟨(c.block B h.lt (λe=>g e.symm)).trans h.blk,h.dsz,h.dn,h.row.kept c f,h.hB,h.code.of_kept (λb hb=>c.block b (by have:=h.bs;omega) (λe=>by have:=d b e.symm;omega))⟩
end
theorem zdp(base B:Nat)(R:Option Addr)(V b U:Nat)(C:List Int)(W:RW)(D:Array Value)(X m:Value)(s:RT)(w:World)(hp:s.r.p<=900000000000000000-10000)(hl:s.sv.length<=100000)(hd:0<=W.draw)(h:RM w base B R V b U C W D X m s):
 Calls S 107 #[.pointer (N ⟨B,0,F⟩)] w λe w'=>e=.returned (.bool (Zp W C s).2)/\(∃sv',RM w' base B R V b U C W D X sv' (Zp W C s).1)/\Below base w w':=by
 obtain⟨i0,f0,d7,d6,d5⟩:=info_parts infoInt;obtain⟨j0,e8,e1,e0,d9⟩:=info_parts infoMember;have H:Hd _:=h;have b6:Hd (∀x∈C,0<=x/\x<256):=h.code.byt;have g2:Hd _:=h.bs;have b4:Hd (base<=B):=h.hB;clear h;go_enter func107,ntmps107;go_wp2_with fail;refine(YO base B R V b U C W D X m s _ ol H.o).mono ?_;rintro e w1 ⟨rfl,A,hv⟩;have g1:Hd (RM (w1.alloc (Q #[] 203)) base B R V b U C W D X m ⟨cnR C s.r,s.sv,s.ttl,s.sc⟩):=A.alloc _;have g6:Hd (Below base w (w1.alloc (Q #[] 203))):=(hv.below b4.o g2.o).alloc A.bs _;have f6:Hd ((w1.alloc (Q #[] 203)).ownsRow base 203 2 (O (N ⟨w1.heap.size,0,F⟩) 0 0) 0 []):=⟨rfl,.inr ⟨w1.heap.size,0,#[],rfl,A.bs,zl _ rfl,Nat.le_refl _,oq,rfl,rfl⟩⟩;clear A hv;obtain⟨c6,f1⟩:=qE b6.o s.r;rw[c6];have c5:=ZD C s.r 1 1 16;have d0:Hd (Zp W C s=if suL (meL W C (cnR C s.r) (cnN C s.r))<=0 then(⟨meR C (cnR C s.r) (cnN C s.r),s.sv,s.ttl,s.sc⟩,T)
  else match pkL (meL W C (cnR C s.r) (cnN C s.r)) (W.draw%suL (meL W C (cnR C s.r) (cnN C s.r)))with
   |some x=>(⟨meR C (cnR C s.r) (cnN C s.r),s.sv++[x],s.ttl,s.sc⟩,P)
   |none=>(⟨meR C (cnR C s.r) (cnN C s.r),s.sv,s.ttl,s.sc⟩,T)):=rfl
 have h0:(cnR C s.r).p<=s.r.p+1:=c5.2;generalize cnN C s.r=n at *;generalize cnR C s.r=r at *;clear c6 c5;go_wp2_with fail;go_loopg [4,5,6] n (λq u t y wr=>∃i:Nat,q+i=n/\t=J Z (suL (meL W C r i))/\y=J Z i/\RM wr base B R V b U C W D X m ⟨meR C r i,s.sv,s.ttl,s.sc⟩/\wr.ownsRow base 203 2 u (meL W C r i).length (mbC (meL W C r i))/\Below base w wr)
 case atStart=>exact⟨0,ol,rfl,rfl,g1.o,f6.o,g6.o⟩
 case round =>
  obtain⟨i,hq,rfl,rfl,A,f,hb⟩:=hrel;have HM:Hd _:=A;have HU:Hd _:=f;have b3:Hd (u4.ownBlock≠N B):=zi f A.blk oq;have HB:Hd _:=hb;clear A hb f;have h9:=zgc C r i;obtain⟨i3,h6,h5,a3⟩:=zgD (W:=W) b6.o r i;by_cases i4:i<n
  ·have c2:(i:Int)<(n:Int):=(by omega);have i1:=ZD C (meR C r i) 1 0 63;clear a3;go_wp2_with fail;refine(Xn base B R V b U C W D X m _ _ ox HM.o).mono ?_;rintro e w2 ⟨rfl,c0,a5⟩;have d2:Hd _:=c0;have g5:Hd (Below base w w2):=HB.o.trans (a5.below b4.o HM.o.bs);have f5:Hd (w2.ownsRow base 203 2 u4 (meL W C r i).length (mbC (meL W C r i))):=a5.owns HU.o b3.o;clear c0 a5;simp only;go_wp2_with fail;refine(Ze base B R V b U C W D X m _ 2 1 1000 2 _ rfl oq ox d2.o).mono ?_;rintro e w3 ⟨rfl,b9,a4⟩;have I:Hd _:=b9;have d3:Hd (Below base w w3):=g5.o.trans (a4.below b4.o d2.o.bs);have E:Hd (w3.ownsRow base 203 2 u4 (meL W C r i).length (mbC (meL W C r i))):=a4.owns f5.o b3.o;clear b9 a4;simp only;go_wp2_with fail;refine(JJ base B R V b U C W D X m _ _ _ I.o).mono ?_;rintro e w' ⟨rfl,h3⟩;subst w';have a3:=XP b6.o (num C (meR C r i) 1 0 63);have HT:Hd (meL W C r (i+1)=if upW W (rdN C (meR C r i) 1)=P then meL W C r i++[(rdN C (meR C r i) 1,rdN C (num C (meR C r i) 1 0 63) 2)]else meL W C r i):=rfl;have c8:base<=w3.heap.size:=I.o.bs;generalize rdN C (meR C r i) 1=x at *;generalize rdN C (num C (meR C r i) 1 0 63) 2=y at *;generalize hLL:meL W C r i=L at *;clear hLL;cases f:upW W x with
   | true =>
    have G:Hd (meL W C r (i+1)=L++[(x,y)]):=(by show _=_;rw[HT.o,if_pos f]);clear f;have a9:Hd (L.length+1<=maxLen):=sx;have a8:Hd ((L.length+1)*16<=140737488355328):=oz;have Y:Hd (base<=(w3.alloc (Q #[J Z x,J Z y] 203)).heap.size):=mc;have z:Hd (∀u∈[J Z x,J Z y],u.oneCell'=P):=λu f=>by simp at f;rcases f with rfl|rfl<;>rfl
    go_wp2_with (at_builtin;refine wpList_append_lies _ rfl _ _ 200 rfl base 203 j0 _ 2 16 underlying200 e8 e1 e0 d9 rfl oq u4 _ _ rfl (E.o.alloc _) ⟨w3.heap.size,0,F⟩ 1 1 [J Z x,J Z y] rfl rfl (World.news_of_block (cs:=#[J Z x,J Z y]) (t:=203) (fr:=(0,0)) (heap_alloc_new w3 _)) z.o (Nat.lt_succ_self 0) a9.o a8.o Y.o (w3.heap.size+1) ot ?_;intro g b2 w4 j a a7 c1)
    have g0:=(I.o.alloc (Q #[J Z x,J Z y] 203)).grown a b3.o (zV (I.o.alloc (Q #[J Z x,J Z y] 203)).row (E.o.alloc (Q #[J Z x,J Z y] 203)) oq) (λk hk=>(E.o.lt k hk).1);have g4:=(d3.o.alloc c8 (Q #[J Z x,J Z y] 203)).grown a Y.o (λk hk=>(E.o.lt k hk).1);have f4:Hd (w4.ownsRow base 203 2 (O (N ⟨g,0,F⟩) (L.length+1) b2) (meL W C r (i+1)).length (mbC (meL W C r (i+1)))):=(by show World.ownsRow _ _ _ _ _ _ _;rw[G.o,List.length_append,jR];exact j);have f7:Hd (suL (meL W C r (i+1))=suL L+y):=(by show _=_;rw[G.o,za2]);clear j a a7;go_roundg (gk-1)
    case measure=>omega
    case rel=>exact⟨i+1,ol,by rw[f7.o],by go_num,g0,f4.o,g4⟩
   | false =>
    have G:Hd (meL W C r (i+1)=L):=(by show _=_;rw[HT.o,if_neg (by rw[f];decide)]);clear f;go_wp2_with fail;go_roundg (gk-1)
    case measure=>omega
    case rel=>exact⟨i+1,ol,by rw[G.o],by go_num,I.o,by rw[G.o];exact E.o,d3.o⟩
  ·have e9:i=n:=(by omega);subst e9;have c2:¬(i:Int)<(i:Int):=ol;generalize hLL:meL W C r i=L at *;have i9:Hd _:=hLL;clear hLL;by_cases hz:suL L<=0
   ·have HE:Hd (Zp W C s=(⟨meR C r i,s.sv,s.ttl,s.sc⟩,T)):=(by show _=_;rw[d0.o,if_pos hz]);generalize suL L=t at *;go_wp2_with fail;go_ret;exact⟨by rw[HE.o];rfl,⟨m,by rw[HE.o];exact HM.o⟩,HB.o⟩
   ·have HE:Hd (Zp W C s=match pkL L (W.draw%suL L)with
     |some x=>(⟨meR C r i,s.sv++[x],s.ttl,s.sc⟩,P)
     |none=>(⟨meR C r i,s.sv,s.ttl,s.sc⟩,T)):=by show _=_;rw[d0.o,if_neg hz]
    have d8:0<suL L:=ol;have ht:W.draw.tmod (suL L)=W.draw%suL L:=Int.tmod_eq_emod_of_nonneg hd;have e5:0<=W.draw%suL L:=Int.emod_nonneg _ ol;have h7:W.draw%suL L<suL L:=Int.emod_lt_of_pos _ d8;have i2:¬suL L=0:=ol;have c4:=HM.o.c4;obtain⟨uo,uc,e4,h4⟩:=zU HU.o;subst e4;clear hz;generalize hDD:W.draw%suL L=dd at *;clear hDD;generalize suL L=t at *;go_wp2_with fail;go_loopg [9,52] L.length (λq rst y wz=>∃(k:Nat) (v:Int),q+k=L.length/\rst=J Z v/\y=J Z k/\0<=v/\v<=20000000/\Hd (pkL L dd=pkL (L.drop k) v)/\RM wz base B R V b U C W D X m ⟨meR C r i,s.sv,s.ttl,s.sc⟩/\wz.ownsRow base 203 2 (O uo L.length uc) L.length (mbC L)/\Below base w wz)
    case atStart=>exact⟨0,dd,ol,rfl,rfl,e5,ol,rfl,HM.o,HU.o,HB.o⟩
    case round =>
     obtain⟨k,v,h8,rfl,rfl,b0,b1,HP,A,f,hb⟩:=hrel;have a1:Hd _:=A;have a0:Hd (wr.ownsRow base 203 2 (O uo L.length uc) L.length (mbC L)):=f;have b5:Hd _:=hb;clear A f hb;by_cases hk:k<L.length
     ·obtain⟨x,hx⟩:∃x,L[k]?=N x:=⟨L[k],List.getElem?_eq_getElem hk⟩;obtain⟨ug,d4,b8,_,g7⟩:=a0.o.form ol;obtain⟨e3,g8⟩:uo=N ⟨ug,0,F⟩/\uc=d4:=by cases b8;exact⟨rfl,rfl⟩
      subst e3;have c9:=yg (λx:Int×Int=>[J Z x.1,J Z x.2]) (λ_=>rfl) a0.o hx 0 oq;have f2:=yg (λx:Int×Int=>[J Z x.1,J Z x.2]) (λ_=>rfl) a0.o hx 1 oq;have e2:=a3 x (List.mem_of_getElem? hx);have e7:(k:Int)<(L.length:Int):=ol;have i5:(0:Int)<=(k:Int):=ol;have c3:L.drop k=x::L.drop (k+1):=by
       rw[List.drop_eq_getElem_cons hk];rw[(List.getElem?_eq_some_iff.1 hx).2]
      obtain⟨d,l⟩:=x;simp only at c9 f2 e2;simp only[Nat.add_zero]at c9;have d1:Hd (pkL L dd=if v<l then N d else pkL (L.drop (k+1)) (v-l)):=(by show _=_;rw[HP.o,c3];rfl);have a2:base<=wr.heap.size:=a1.o.bs;clear c3 hx b8;by_cases a6:v<l
      ·have K:Hd (Zp W C s=(⟨meR C r i,s.sv++[d],s.ttl,s.sc⟩,P)):=(by show _=_;rw[HE.o,d1.o,if_pos a6]);have c:Hd (RM (wr.alloc (Q #[J Z d,J Z l] 203)) base B R V b U C W D X m ⟨meR C r i,s.sv,s.ttl,s.sc⟩):=a1.o.alloc _;have b7:Hd (Below base w (wr.alloc (Q #[J Z d,J Z l] 203))):=b5.o.alloc a2 _;have k0:(wr.alloc (Q #[J Z d,J Z l] 203)).cell? ⟨wr.heap.size,0,F⟩=N (J Z d):=ot;have h2:wr.heap.size<(wr.alloc (Q #[J Z d,J Z l] 203)).heap.size:=ot;go_wp2_with fail;generalize wr.alloc (Q #[J Z d,J Z l] 203)=w5 at *;have i8:=c.o.c72;have h1:=c.o.fz 72;have i6:=c.o.lt;have c7:base<=w5.heap.size:=c.o.bs;have a9:Hd (s.sv.length+1<=maxLen):=sx;have a8:Hd ((s.sv.length+1)*8<=140737488355328):=oz;have Y:Hd (∀o:Obj,base<=(w5.alloc o).drew.heap.size):=λo=>by show base<=(w5.alloc o).heap.size;simp;omega
       have z:Hd (∀u∈[J Z d],u.oneCell'=P):=λu f=>by simp at f;subst f;rfl
       go_region_law ((refine step_append_lies _ (by rfl) _ _ _ (by rfl) base 3 i0 _ 1 8 underlying25 f0 d7 d6 d5 rfl oq m _ _ (by rfl) ((c.o.row.alloc _).drew) ⟨w5.heap.size,0,F⟩ 1 1 [J Z d] (by rfl) (by rfl) (World.news_of_block (cs:=#[J Z d]) (t:=3) (fr:=(0,0)) (heap_alloc_new w5 _)) z.o (Nat.lt_succ_self 0) a9.o a8.o (Y.o _) (w5.heap.size+1) ot ?_;intro g b2 w4 j a a7 c1;have zz:w4.frozen? ⟨B,72,F⟩=T:=(a.frozen_far ⟨B,72,F⟩ (by show B<(w5.alloc _).heap.size;simp;omega) (λe=>c.o.ne e.symm)).trans (((c.o.alloc _).drew).fz 72);have i7:w4.cell? ⟨B,72,F⟩=N m:=(a.cell_far ⟨B,72,F⟩ (by show B<(w5.alloc _).heap.size;simp;omega) (λe=>c.o.ne e.symm)).trans ((c.o.alloc _).drew).c72))
       all_goals
        have f9:=((c.o.alloc (Q #[J Z d] 3)).drew).push (ys:=[d]) (n:=s.sv.length+1) ot a (by simpa using j);have g3:=((c.o.alloc (Q #[J Z d] 3)).drew).pushB (u:=O (N ⟨g,0,F⟩) (s.sv.length+1) b2) ((b7.o.alloc c7 _).drew) a;clear j a a7;go_wp2_with fail;go_ret;exact⟨by rw[K.o];rfl,⟨_,by rw[K.o];exact f9⟩,g3⟩
      ·have f8:Hd (pkL L dd=pkL (L.drop (k+1)) (v-l)):=(by show _=_;rw[d1.o,if_neg a6]);have g9:l<=v:=ol;have c:=a1.o.alloc (Q #[J Z d,J Z l] 203);have b7:=b5.o.alloc a2 (Q #[J Z d,J Z l] 203);have f3:=a0.o.alloc (Q #[J Z d,J Z l] 203);clear a6;go_wp2_with fail;go_roundg (gk-1)
       case measure=>omega
       case rel=>exact⟨k+1,v-l,ol,by go_num,by go_num,ol,ol,f8,c,f3,b7⟩
     ·have e6:k=L.length:=(by omega);have e7:¬(k:Int)<(L.length:Int):=ol;have K:Hd (Zp W C s=(⟨meR C r i,s.sv,s.ttl,s.sc⟩,T)):=(by show _=_;rw[HE.o,HP.o,List.drop_eq_nil_of_le ol];rfl);clear e6;go_wp2_with fail;go_ret;exact⟨by rw[K.o];rfl,⟨m,by rw[K.o];exact a1.o⟩,b5.o⟩
end
end Go.Proofs.YtaebngpoagjafabGreat
