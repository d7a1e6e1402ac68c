import Derived.Test.YtaebngpoagjafabGreatQ23
import Derived.Test.YtaebngpoagjafabGreatQ24
set_option maxRecDepth 100000
set_option maxHeartbeats 3200000
namespace Go.Proofs.YtaebngpoagjafabGreat
open Option renaming some → F,none → N
open Proofs.Tryz renaming prog → S
open Proofs.Tryz
open Obj renaming cells → Y
open Value renaming int → J, slice → U
open IntKind renaming i64 → Z, u8 → O
open Go.RowKit
attribute [local go_sem ↓] Go.wp_at_zero Go.wp_at_succ
structure WM (w:World) (base B:Nat) (v:Value) (xs:List Int):Prop where
 blk:w.heap[B]?=F (Y #[v] 153 (0,0))
 row:w.ownsRow base 5 1 v xs.length (xs.map (Value.int .u8))
 hB:base<=B
structure WV (B:Nat) (v v':Value) (w w':World):Prop where
 bel:Below 0 w w'
 kept:∀b,b<w.heap.size->b≠B->v.ownBlock≠F b->w'.heap[b]?=w.heap[b]?/\v'.ownBlock≠F b
theorem WV.refl(B:Nat)(v:Value)(w:World):WV B v v w w:=⟨Below.refl _ _,λ_ _ _ h=>⟨rfl,h⟩⟩
theorem WV.trans{B:Nat}{a b c:Value}{w e d:World}(h:WV B a b w e)(k:WV B b c e d):WV B a c w d :=
 ⟨h.bel.trans k.bel,λx hx h1 h2=>by
  obtain⟨i,p2⟩:=h.kept x hx h1 h2;obtain⟨g,f⟩:=k.kept x (Nat.lt_of_lt_of_le hx h.bel.size) h1 p2;exact⟨g.trans i,f⟩⟩
theorem WM.lt{w:World}{base B v xs}(h:WM w base B v xs):B<w.heap.size:=lt_of_block h.blk
theorem WM.c0{w:World}{base B v xs}(h:WM w base B v xs):w.cell? ⟨B,0,N⟩=F v:=by simp[World.cell?,h.blk]
theorem WM.fz{w:World}{base B v xs}(h:WM w base B v xs)(j:Nat):w.frozen? ⟨B,j,N⟩=false:=by simp[World.frozen?,h.blk]
theorem WM.ne{w:World}{base B v xs}(h:WM w base B v xs):v.ownBlock≠F B:=zi h.row h.blk oq
theorem WV.below{B:Nat}{v c:Value}{w w':World}{base:Nat}{b:List Int}(h:WV B v c w w')(a:WM w base B v b):Below base w w' :=
 ⟨h.bel.os,h.bel.tape,h.bel.output,h.bel.size,λk hk=>(h.kept k (by have:=a.lt;have:=a.hB;omega) (by have:=a.hB;omega) (λe=>by have:=(a.row.lt k e).1;omega)).1⟩
theorem WM.alloc{w:World}{base B v xs}(h:WM w base B v xs)(o:Obj):WM (w.alloc o) base B v xs :=
 ⟨by rw[Below.heap_alloc _ _ _ h.lt];exact h.blk,h.row.alloc o,h.hB⟩
theorem WM.drewN{w:World}{base B v xs}(h:WM w base B v xs)(n:Nat):WM (w.drewN n) base B v xs:=⟨h.blk,h.row,h.hB⟩
theorem WV.alloc{B:Nat}{v a:Value}{w w':World}(h:WV B v a w w')(o:Obj):WV B v a w (w'.alloc o) :=
 ⟨h.bel.alloc (Nat.zero_le _) o,λb hb h1 h2=>by
  obtain⟨c,p2⟩:=h.kept b hb h1 h2;exact⟨by rw[Below.heap_alloc _ _ _ (Nat.lt_of_lt_of_le hb h.bel.size)];exact c,p2⟩⟩
theorem zer{w:World}{B:Nat}{a u:Value}{t:TypeId}(h:w.heap[B]?=F (Y #[a] t (0,0))):(w.setCell ⟨B,0,N⟩ u).heap[B]?=F (Y #[u] t (0,0)):=by
 simp[World.setCell,Array.getElem?_modify,h]
theorem WM.push{w w4:World}{base B v xs ys}{oo:Option Addr}{cap n:Nat}(h:WM w base B v xs)(c:n=(xs++ys).length)(d:w.grownBy w4 v.ownBlock)(a:w4.ownsRow base 5 1 (U oo n cap) n ((xs++ys).map (Value.int .u8))):
 WM (w4.setCell ⟨B,0,N⟩ (U oo n cap)) base B (U oo n cap) (xs++ys):=by
 have b:w4.heap[B]?=F (Y #[v] 153 (0,0)):=(d.block B h.lt (λe=>h.ne e.symm)).trans h.blk;subst c;exact⟨zer b,ownsRow_setCell_other a (zi a b oq) _,h.hB⟩
theorem WM.pushV{w w4:World}{base B v xs}{g n cap H:Nat}(_:WM w base B v xs)(a:w.grownBy w4 v.ownBlock)(c:v.ownBlock=F g\/g=H)(f:w.heap.size<=H):
 WV B v (U (F ⟨g,0,N⟩) n cap) w (w4.setCell ⟨B,0,N⟩ (U (F ⟨g,0,N⟩) n cap)):=by
 refine⟨⟨a.os,a.tape,a.output,Nat.le_trans a.size (by simp[World.setCell]),λk hk=>absurd hk (Nat.not_lt_zero _)⟩,λb hb h1 h2=>⟨?_,?_⟩⟩
 ·rw[za h1];exact a.block b hb (λe=>h2 e.symm)
 ·intro e;have d:g=b:=by simpa[Value.ownBlock]using e
  subst d;rcases c with e1|e1
  ·exact h2 e1
  ·omega
theorem yN(base B:Nat)(n V:Int)(k:Nat)(v:Value)(m:List Int)(w:World)(hk:V=k)(a4:k<=4)(h0:0<=n)(h1:n<=4294967296)(hx:m.length<=1000000)(h:WM w base B v m):
 Calls S 132 #[.pointer (F ⟨B,0,N⟩),J Z n,J Z V] w λe w'=>e=.returned (.tuple #[])/\∃v',WM w' base B v' (m++z8 n k)/\WV B v v' w w':=by
 subst hk;obtain⟨i0,G,D,C,A⟩:=info_parts infoByte;have H:Hd (WM w base B v m):=h;clear h;go_enter func132,ntmps132;go_wp2_with fail;go_loopg [1,6] k (λq a y wr=>∃(i:Nat) (f:Int) (v':Value) (j:List Int),q+i=k/\a=J Z f/\y=J Z i/\0<=f/\f<=4294967296/\j.length<=1000000+i/\Hd (j++z8 f q=m++z8 n k)/\WM wr base B v' j/\WV B v v' w wr)
 case atStart=>exact⟨0,n,v,m,ol,rfl,rfl,h0,h1,ol,rfl,H.o,WV.refl _ _ _⟩
 case round =>
  obtain⟨i,f,v',j,hq,rfl,rfl,g0,g1,gx,HX,z,W⟩:=hrel;have l:Hd (WM wr base B v' j):=z;have HV:Hd (WV B v v' w wr):=W;have c0:=z.c0;have z0:=z.fz 0;clear z W;by_cases a3:i<k
  ·have x:(i:Int)<(k:Int):=(by omega);obtain⟨p,rfl⟩:∃p,gk=p+1:=⟨gk-1,ol⟩;have R:Hd (j.length+1<=maxLen):=sx;have Q:Hd ((j.length+1)*1<=140737488355328):=oz;have a5:base<=wr.heap.size:=Nat.le_trans l.o.hB (Nat.le_of_lt l.o.lt);have ht:f.tmod 256=f%256:=Int.tmod_eq_emod_of_nonneg g0;have a0:f.tdiv 256=f / 256:=Int.tdiv_eq_ediv_of_nonneg g0;have a2:0<=f%256:=ol;have a1:f%256<256:=ol;have K:0<=f / 256:=ol;have I:f / 256<=4294967296:=ol;have HN:Hd (z8 f (p+1)=(f%256)::z8 (f / 256) p):=rfl;generalize hc:f%256=c at *;generalize hdd:f / 256=d at *;have P:Hd (base<=(wr.alloc (Y #[J O c] 5)).heap.size):=mc;have s:Hd (∀u∈[Value.int .u8 c],u.oneCell'=true):=λu hu=>by simp at hu;subst hu;rfl
   go_wp2_with (at_builtin;refine wpList_append_lies _ rfl _ _ 57 rfl base 5 i0 _ 1 1 underlying57 G D C A rfl oq v' _ _ rfl (l.o.row.alloc _) ⟨wr.heap.size,0,N⟩ 1 1 [J O c] rfl rfl (World.news_of_block (cs:=#[J O c]) (t:=5) (fr:=(0,0)) (heap_alloc_new wr _)) s.o (Nat.lt_succ_self 0) R.o Q.o P.o (wr.heap.size+1) ot ?_;intro g a6 U r b L X;have zz:U.frozen? ⟨B,0,N⟩=false:=(b.frozen_far ⟨B,0,N⟩ (by have:=l.o.lt;simp;omega) (λe=>l.o.ne e.symm)).trans ((l.o.alloc _).fz 0);have cc:U.cell? ⟨B,0,N⟩=F v':=(b.cell_far ⟨B,0,N⟩ (by have:=l.o.lt;simp;omega) (λe=>l.o.ne e.symm)).trans (l.o.alloc _).c0)
   go_roundg p
   case measure=>omega
   case rel =>
    refine⟨i+1,d,_,j++[c],ol,by go_num,by go_num,K,I,ow,?_,(l.o.alloc _).push ot b (by simpa using r),HV.o.trans (((WV.refl _ _ _).alloc _).trans ((l.o.alloc _).pushV b L ot))⟩;show _=_;rw[<-HX.o,HN.o];simp
  ·have x:¬(i:Int)<(k:Int):=(by omega);have E:gk=0:=ol;subst E;go_wp2_with fail;go_end0
   exact⟨rfl,v',by have:=HX.o;simp only[z8,List.append_nil]at this;rw[<-this];exact l.o,HV.o⟩
theorem zbt(base B:Nat)(e:EX)(q:Option Addr)(s:Nat)(v:Value)(g:List Int)(w:World)(A:0<=e.kind)(k1:e.kind<256)(z:0<=e.nv)(y:e.nv<=4294967296)(K:e.items.length<=100000)(I:g.length<=999990)(h:WM w base B v g):
 Calls S 94 #[.pointer (F ⟨B,0,N⟩),.agg #[J O e.kind,J Z e.at_,J Z e.depth,J Z e.nv,J Z e.na,U q e.items.length s,J Z e.inner]] w λr w'=>r=.returned (.tuple #[])/\∃v',WM w' base B v' (g++yu e)/\WV B v v' w w':=by
 have H:Hd _:=h;clear h;have C:Hd ((w.alloc (Y #[J O e.kind,J Z e.at_,J Z e.depth,J Z e.nv,J Z e.na,U q e.items.length s,J Z e.inner] 148)).heap[w.heap.size]?=F (Y #[J O e.kind,J Z e.at_,J Z e.depth,J Z e.nv,J Z e.na,U q e.items.length s,J Z e.inner] 148 (0,0))):=heap_alloc_new w _;go_enter func94,ntmps94;go_wp2_with fail;refine(yN base B e.kind 1 1 v g _ rfl oq A ol ol (H.o.alloc _)).mono ?_;rintro r p ⟨rfl,x,t,k⟩;have m:Hd _:=t;have l:Hd (WV B v x w p):=((WV.refl _ _ _).alloc _).trans k;have c:p.heap[w.heap.size]?=F (Y #[J O e.kind,J Z e.at_,J Z e.depth,J Z e.nv,J Z e.na,U q e.items.length s,J Z e.inner] 148 (0,0)):=by
  rw[(k.kept w.heap.size ot (λe'=>by have:=H.o.lt;omega) (λe'=>by have:=(H.o.row.lt _ e').2;omega)).1];exact C.o
 have G:p.cell? ⟨w.heap.size,0,N⟩=F (J O e.kind):=by simp[World.cell?,c]
 have E:p.cell? ⟨w.heap.size,3,N⟩=F (J Z e.nv):=by simp[World.cell?,c]
 have D:p.cell? ⟨w.heap.size,5,N⟩=F (U q e.items.length s):=by simp[World.cell?,c]
 have j:(g++z8 e.kind 1).length<=1000000:=by rw[List.length_append,zG];omega
 clear t k c;cases e116:(e.kind==116)with
 | true =>
  have u:Hd (yu e=z8 e.kind 1++z8 e.nv 3):=by show _=_;unfold yu;rw[if_pos (by simpa using e116)]
  go_wp2_with fail;refine(yN base B e.nv 3 3 x _ _ rfl oq z y j m.o).mono ?_;rintro r n ⟨rfl,i,b,a⟩;have f:Hd (WM n base B i (g++yu e)):=by show WM _ _ _ _ _;rw[u.o,<-List.append_assoc];exact b
  have d:Hd _:=l.o.trans a;clear b a;go_wp2_with fail;go_end0
  exact⟨rfl,i,f.o,d.o⟩
 | false =>
  cases e64:(e.kind==64)with
  | true =>
   have u:Hd (yu e=z8 e.kind 1++z8 e.nv 1):=(by show _=_;unfold yu;rw[if_neg (by simpa using e116),if_pos (by simpa using e64)]);go_wp2_with fail;refine(yN base B e.nv 1 1 x _ _ rfl oq z y j m.o).mono ?_;rintro r n ⟨rfl,i,b,a⟩;have f:Hd (WM n base B i (g++yu e)):=(by show WM _ _ _ _ _;rw[u.o,<-List.append_assoc];exact b);have d:Hd _:=l.o.trans a;clear b a;go_wp2_with fail;go_end0
   exact⟨rfl,i,f.o,d.o⟩
  | false =>
   have u:Hd (yu e=z8 e.kind 1++z8 e.items.length 1):=(by show _=_;unfold yu;rw[if_neg (by simpa using e116),if_neg (by simpa using e64)]);go_wp2_with fail;refine(yN base B e.items.length 1 1 x _ _ rfl oq ol ol j m.o).mono ?_;rintro r n ⟨rfl,i,b,a⟩;have f:Hd (WM n base B i (g++yu e)):=(by show WM _ _ _ _ _;rw[u.o,<-List.append_assoc];exact b);have d:Hd _:=l.o.trans a;clear b a;go_wp2_with fail;go_end0
   exact⟨rfl,i,f.o,d.o⟩
theorem zbr(base B:Nat)(kind:Int)(x:IM)(a:Int)(v:Value)(l:List Int)(w:World)(z:0<=x.num)(y:x.num<=4294967296)(X:0<=x.pv)(W:x.pv<=4294967296)(V:0<=x.pl)(U:x.pl<=4294967296)(R:0<=x.wv)(Q:x.wv<=4294967296)(E:0<=a)(D:a<=4294967296)(hx:l.length<=999990)(h:WM w base B v l):
 Calls S 95 #[.pointer (F ⟨B,0,N⟩),J O kind,.agg #[J Z x.at_,J Z x.num,J Z x.pv,J Z x.pl,J Z x.wv,J Z x.wa,J Z x.arm],J Z a] w λr w'=>r=.returned (.tuple #[])/\∃v',WM w' base B v' (l++yD kind x a)/\WV B v v' w w':=by
 have H:Hd _:=h;clear h;have K:Hd ((w.alloc (Y #[J Z x.at_,J Z x.num,J Z x.pv,J Z x.pl,J Z x.wv,J Z x.wa,J Z x.arm] 155)).heap[w.heap.size]?=F (Y #[J Z x.at_,J Z x.num,J Z x.pv,J Z x.pl,J Z x.wv,J Z x.wa,J Z x.arm] 155 (0,0))):=heap_alloc_new w _;have I:Hd (∀i g,WV B v g (w.alloc (Y #[J Z x.at_,J Z x.num,J Z x.pv,J Z x.pl,J Z x.wv,J Z x.wa,J Z x.arm] 155)) i->i.heap[w.heap.size]?=F (Y #[J Z x.at_,J Z x.num,J Z x.pv,J Z x.pl,J Z x.wv,J Z x.wa,J Z x.arm] 155 (0,0))):=λi g b=>by
  rw[(b.kept w.heap.size ot (λe'=>by have:=H.o.lt;omega) (λe'=>by have:=(H.o.row.lt _ e').2;omega)).1];exact K.o
 clear K;cases e109:(kind==109)with
 | true =>
  have q:Hd (yD kind x a=z8 x.pv 4++z8 x.pl 1++z8 a 2):=by show _=_;unfold yD;rw[if_pos (by simpa using e109)]
  go_enter func95,ntmps95;go_wp2_with fail;refine(yN base B x.pv 4 4 v l _ rfl oq X W ol (H.o.alloc _)).mono ?_;rintro r i ⟨rfl,g,c,b⟩;have k:Hd _:=c;have j:Hd _:=b;have f:=I.o i g b;have P:i.cell? ⟨w.heap.size,3,N⟩=F (J Z x.pl):=by simp[World.cell?,f]
  clear c b f;go_wp2_with fail;refine(yN base B x.pl 1 1 g _ _ rfl oq V U (by rw[List.length_append,zG];omega) k.o).mono ?_;rintro r L ⟨rfl,G,u,t⟩;have C:Hd _:=u;have A:Hd (WV B v G w L):=((WV.refl _ _ _).alloc _).trans (j.o.trans t);clear u t P;go_wp2_with fail;refine(yN base B a 2 2 G _ _ rfl oq E D (by rw[List.length_append,List.length_append,zG,zG];omega) C.o).mono ?_;rintro r s ⟨rfl,p,e,d⟩;have n:Hd (WM s base B p (l++yD kind x a)):=by show WM _ _ _ _ _;rw[q.o,<-List.append_assoc,<-List.append_assoc];exact e
  have m:Hd _:=A.o.trans d;clear e d;go_wp2_with fail;go_end0
  exact⟨rfl,p,n.o,m.o⟩
 | false =>
  cases e103:(kind==103)with
  | true =>
   have q:Hd (yD kind x a=z8 x.num 1++z8 a 2):=(by show _=_;unfold yD;rw[if_neg (by simpa using e109),if_pos (by simpa using e103)]);go_enter func95,ntmps95;go_wp2_with fail;refine(yN base B x.num 1 1 v l _ rfl oq z y ol (H.o.alloc _)).mono ?_;rintro r i ⟨rfl,g,c,b⟩;have k:Hd _:=c;have j:Hd (WV B v g w i):=((WV.refl _ _ _).alloc _).trans b;clear c b;go_wp2_with fail;refine(yN base B a 2 2 g _ _ rfl oq E D (by rw[List.length_append,zG];omega) k.o).mono ?_;rintro r s ⟨rfl,p,e,d⟩;have n:Hd (WM s base B p (l++yD kind x a)):=(by show WM _ _ _ _ _;rw[q.o,<-List.append_assoc];exact e);have m:Hd _:=j.o.trans d;clear e d;go_wp2_with fail;go_end0
   exact⟨rfl,p,n.o,m.o⟩
  | false =>
   cases e119:(kind==119)with
   | true =>
    have q:Hd (yD kind x a=z8 x.num 1++z8 x.wv 2):=(by show _=_;unfold yD;rw[if_neg (by simpa using e109),if_neg (by simpa using e103),if_pos (by simpa using e119)]);go_enter func95,ntmps95;go_wp2_with fail;refine(yN base B x.num 1 1 v l _ rfl oq z y ol (H.o.alloc _)).mono ?_;rintro r i ⟨rfl,g,c,b⟩;have k:Hd _:=c;have j:Hd (WV B v g w i):=((WV.refl _ _ _).alloc _).trans b;have f:=I.o i g b;have q4:i.cell? ⟨w.heap.size,4,N⟩=F (J Z x.wv):=(by simp[World.cell?,f]);clear c b f;go_wp2_with fail;refine(yN base B x.wv 2 2 g _ _ rfl oq R Q (by rw[List.length_append,zG];omega) k.o).mono ?_;rintro r s ⟨rfl,p,e,d⟩;have n:Hd (WM s base B p (l++yD kind x a)):=(by show WM _ _ _ _ _;rw[q.o,<-List.append_assoc];exact e);have m:Hd _:=j.o.trans d;clear e d;go_wp2_with fail;go_end0
    exact⟨rfl,p,n.o,m.o⟩
   | false =>
    have q:Hd (yD kind x a=z8 x.num 1):=(by show _=_;unfold yD;rw[if_neg (by simpa using e109),if_neg (by simpa using e103),if_neg (by simpa using e119)]);go_enter func95,ntmps95;go_wp2_with fail;refine(yN base B x.num 1 1 v l _ rfl oq z y ol (H.o.alloc _)).mono ?_;rintro r i ⟨rfl,g,c,b⟩;have k:Hd (WM i base B g (l++yD kind x a)):=(by show WM _ _ _ _ _;rw[q.o];exact c);have j:Hd (WV B v g w i):=((WV.refl _ _ _).alloc _).trans b;clear c b;go_wp2_with fail;go_end0
    exact⟨rfl,g,k.o,j.o⟩
theorem Ys{P:Program}(w:World){y:Array Oper}{rest:List Oper}{o:Oper}{a:Act}{Q:Exit->Act->World->Prop}(B:o.guard=N)(s x:Operand)(t:TypeId)(X:o.op=.call { callee:=.builtin .append,args:=#[s,x],argTypes:=#[t,t] })(base:Nat)(e:TypeId)(i:TypeInfo)(z:Value)(b j:Nat)(V:P.underlying t=F (.slice e))(hi:P.info? e=F i)(Z:i.zero=F z)(p:i.size=b)(J:i.bytes=j)(D:z.cells.size=b)(G:0<b)(v:Value)(n:Nat)(C:List Value)(W:a.eval s=v)(k:w.ownsRow base e b v n C)(r:Nat)(O:Value)(m:Nat)(d:List Value)(S:a.eval x=O)(f:w.ownsRow r e b O m d)(h1:∀u∈d,u.oneCell'=true)(L:n+m<=maxLen)(l:(n+m)*j<=140737488355328)(q:base<=w.heap.size)(H:Nat)(hH:w.heap.size=H)(h:∀oo cap w',w'.ownsRow base e b (U oo (n+m) cap) (n+m) (C++d)->w.grownBy w' v.ownBlock->((U oo (n+m) cap).ownBlock=v.ownBlock\/(U oo (n+m) cap).ownBlock=F H)->wpList P y Q rest (a.put o.dst (U oo (n+m) cap)) w'):wpList P y Q (o::rest) a w:=by
 rcases Nat.eq_zero_or_pos m with hm|hm
 ·subst hm;have I:d=[]:=List.eq_nil_of_length_eq_zero (by have:=f.1;simpa using this);subst I;obtain⟨R,cap,rfl,hn⟩:=zU k;obtain⟨Y,c,rfl,_⟩:=zU f;refine wpList_plain B λK hK'=>?_
  have A:=Z6 (P:=P) w t o.type e i V hi R n cap Y c hn;unfold Oper.wp;simp[execOp,X,resolve,invoke,builtin,W,S,A,Result.andThen];refine hK' _ _ ?_;have:=h R cap w (by simpa using k) ⟨rfl,rfl,rfl,Nat.le_refl _,λ_ _ _=>rfl⟩ (.inl rfl)
  simpa using this
 ·obtain⟨g,c,E,_,_⟩:=f.form hm;subst E;refine wpList_append_lies w B s x t X base e i z b j V hi Z p J D G v n C W k ⟨g,0,N⟩ m c d S f.1 (f.cells rfl) h1 hm L l q H hH (λg' cap w' q1 q2 q3 _=>h _ _ _ q1 q2 ?_);rcases q3 with q3|q3
  ·exact .inl q3.symm
  ·exact .inr (by rw[q3];rfl)
theorem zcX(d:Option Addr)(m c:Nat)(i:Int)(w:World)(f:m<=c)(p:m<=100000)(h:0<m->∃g,d=F ⟨g,0,N⟩):
 Calls S 93 #[U d m c,J Z i] w λe w'=>w'=w/\((i<0\/(m:Int)<=i)/\e=.returned (U N 0 0)\/∃k:Nat,i=k/\k<m/\e=.returned (U d (k+1) c)):=by
 by_cases b:i<0
 ·go_enter func93,ntmps93;go_wp2_with fail;go_ret;exact⟨rfl,.inl ⟨.inl b,rfl⟩⟩
 ·obtain⟨k,rfl⟩:∃k:Nat,i=k:=⟨i.toNat,ol⟩;have o:(0:Int)<=(k:Int):=ol;by_cases n:k<m
  ·obtain⟨g,rfl⟩:=h ol;have a:(k:Int)<(m:Int):=ol;have l:¬(m:Int)<=(k:Int):=ol;have j:(k:Int)+1<=(c:Int):=ol;clear h b;go_enter func93,ntmps93;go_wp2_with fail;go_ret;exact⟨rfl,.inr ⟨k,rfl,n,rfl⟩⟩
  ·have a:(m:Int)<=(k:Int):=(by omega);clear h b;go_enter func93,ntmps93;go_wp2_with fail;go_ret;exact⟨rfl,.inl ⟨.inr a,rfl⟩⟩
def EVw(w:World)(eo:Option Addr)(es:List (EX×Value)):Prop:=∀i x,es[i]?=F x->∃g vo vm vc,eo=F ⟨g,0,N⟩/\g<w.heap.size/\w.cell? ⟨g,i*7,N⟩=F (J O x.1.kind)/\w.cell? ⟨g,i*7+1,N⟩=F (J Z x.1.at_)/\w.cell? ⟨g,i*7+2,N⟩=F (J Z x.1.depth)/\w.cell? ⟨g,i*7+3,N⟩=F (J Z x.1.nv)/\w.cell? ⟨g,i*7+4,N⟩=F (J Z x.1.na)/\w.cell? ⟨g,i*7+5,N⟩=F (U vo vm vc)/\w.cell? ⟨g,i*7+6,N⟩=F (J Z x.1.inner)/\IV w (U vo vm vc) x.1.items/\(∀q,(U vo vm vc).ownBlock=F q->q<w.heap.size)
theorem EVw.below{w w':World}{f:Option Addr}{e:List (EX×Value)}(h:EVw w f e)(b:Below w.heap.size w w'):EVw w' f e:=λi x hx=>by
 obtain⟨g,j,k,l,y,d,v,u,t,s,r,o,n,m,c⟩:=h i x hx;have a:∀q,w'.cell? ⟨g,q,N⟩=w.cell? ⟨g,q,N⟩:=λq=>b.cell (p:=⟨g,q,N⟩) d
 exact⟨g,j,k,l,y,Nat.lt_of_lt_of_le d b.size,by rw[a];exact v,by rw[a];exact u,by rw[a];exact t,by rw[a];exact s,by rw[a];exact r,by rw[a];exact o,by rw[a];exact n,m.of_kept (λq hq=>b.block q (c q hq)),λq hq=>Nat.lt_of_lt_of_le (c q hq) b.size⟩
structure SHP (e:EX):Prop where
 k0:0<=e.kind
 k1:e.kind<256
 n0:0<=e.nv
 n1:e.nv<=4294967296
 il:e.items.length<=100000
 it:∀x∈e.items,0<=x.num/\x.num<=4294967296/\0<=x.pv/\x.pv<=4294967296/\0<=x.pl/\x.pl<=4294967296/\0<=x.wv/\x.wv<=4294967296
def zeR(w:World)(X:List Int)(r:Ending)(w':World):Prop:=Below w.heap.size w w'/\∃o k,r=.returned (U o X.length k)/\w'.ownsRow w.heap.size 5 1 (U o X.length k) X.length (X.map (Value.int .u8))
theorem yC{w:World}{base base' e a:Nat}{v:Value}{n:Nat}{b:List Value}(h:w.ownsRow base e a v n b)(c:base'<=base):w.ownsRow base' e a v n b:=by
 refine⟨h.1,?_⟩;rcases h.2 with h0|⟨g,cap,cur,h1,h2,h3⟩
 ·exact .inl h0
 ·exact .inr ⟨g,cap,cur,h1,ol,h3⟩
theorem zdE(X:List Int):∀u∈X.map (Value.int .u8),u.oneCell'=true:=λu hu=>by
 simp only[List.mem_map]at hu;obtain⟨x,_,rfl⟩:=hu;rfl
theorem zgJ{w:World}{v:Value}{l:List IM}{b:Option Addr}{vm c:Nat}(h:IV w v l)(a:v=U b vm c):vm=l.length:=by
 rcases h with⟨h1,h2⟩|⟨g,cap,h1,_⟩
 ·rw[a]at h1;cases h1;rw[h2];rfl
 ·rw[a]at h1;cases h1;rfl
theorem zaK(s:List (EX×Value))(eo:Option Addr)(ec:Nat)(m7:s.length<=ec)(m6:s.length<=100000)(e4:∀p∈s,SHP p.1):∀n,n<=s.length->szR (s.map Prod.fst) n<=1000->∀(v:Option Addr) (c:Nat) (w:World),(0<n->v=eo/\c=ec)->EVw w eo s ->
 Calls S 51 #[U v n c] w (zeR w (yj (s.map Prod.fst) n)):=by
 obtain⟨i0,e9,e2,e1,e0⟩:=info_parts infoByte;intro n;induction n using Nat.strongRecOn with
 | ind n ih =>
  intro hn c2 v c w f1 c5;cases n with
  | zero =>
   clear ih f1;go_enter func51,ntmps51;go_wp2_with fail;go_ret;exact⟨Below.refl _ _,N,0,rfl,World.ownsRow_nil _ _ _ _⟩
  | succ j =>
   obtain⟨rfl,rfl⟩:=f1 (Nat.succ_pos j);obtain⟨xq,Q⟩:∃x,s[j]?=F x:=⟨s[j],List.getElem?_eq_getElem ol⟩;have c4:(s.map Prod.fst)[j]?=F xq.1:=(by rw[List.getElem?_map,Q];rfl);have V:=e4 xq (List.mem_of_getElem? Q);obtain⟨z1,z2,z3,z4⟩:=YC c4 c2;have g4:=zaL _ _ c2
   -- another expression's code
   have b9:Hd (∀i wz,atF (szK (s.map Prod.fst) j) i<=1000->EVw wz v s->Calls S 93 #[U v j c,J Z i] wz λr w'=>w'=wz/\∃bo m d,r=.returned (U bo m d)/\Calls S 51 #[U bo m d] wz (zeR wz (atL (zW (s.map Prod.fst) j) i))):=λi wz hi hz=>by
    refine(zcX v j c i wz ol ol (λ_=>by obtain⟨g,_,_,_,E,_⟩:=hz j xq Q;exact⟨g,E⟩)).mono ?_;rintro r w' ⟨rfl,E⟩;refine⟨rfl,?_⟩;rcases E with⟨E,rfl⟩|⟨k,rfl,E,rfl⟩
    ·refine⟨N,0,0,rfl,?_⟩;have h2:atL (zW (s.map Prod.fst) j) i=yj (s.map Prod.fst) 0:=by
      rw[qb];split
      ·rfl
      ·rw[if_neg ol];rfl
     rw[h2];exact ih 0 ol ol (by simp[szR]) N 0 _ (λh=>ol) hz
    ·refine⟨v,k+1,c,rfl,?_⟩;have h2:atL (zW (s.map Prod.fst) j) (k:Int)=yj (s.map Prod.fst) (k+1):=by
      rw[qb,if_neg ol,if_pos ol,Int.toNat_natCast]
     rw[h2];rw[Xv,if_neg ol,if_pos ol,Int.toNat_natCast]at hi;exact ih (k+1) ol ol hi v c _ (λ_=>⟨rfl,rfl⟩) hz
   have f9:Hd ((yj (s.map Prod.fst) (j+1)).length<=7000):=oz;have a4:Hd (yj (s.map Prod.fst) (j+1)=Y2 (zW (s.map Prod.fst) j) xq.1):=(by show _=_;simp only[yj,c4]);generalize yj (s.map Prod.fst) (j+1)=X at *;have g0:Hd (EVw w v s):=c5;obtain⟨g,P,vm,A,hg,m5,r0,r1,r2,r3,r4,r5,r6,a6,e8⟩:=c5 j xq Q;obtain⟨e,xv⟩:=xq;simp only at r0 r1 r2 r3 r4 r5 r6 a6 V a4 z1 z2 z3 z4;have g3:=zgJ a6 rfl;subst g3;subst hg;generalize hKe:zW (s.map Prod.fst) j=K at *;have h4:Hd _:=z3;have m2:(j:Int)<=(c:Int):=ol;have m3:(0:Int)<=(j:Int):=ol;have m1:(j:Int)+1-1=(j:Int):=ol;have i7:Hd _:=a6;have H:Hd (SHP e):=V;have d9:Hd (Below w.heap.size w (w.alloc (Y #[J O e.kind,J Z e.at_,J Z e.depth,J Z e.nv,J Z e.na,U P e.items.length A,J Z e.inner] 148))):=(Below.refl _ _).alloc (Nat.le_refl _) _;have f5:Hd ((w.alloc (Y #[J O e.kind,J Z e.at_,J Z e.depth,J Z e.nv,J Z e.na,U P e.items.length A,J Z e.inner] 148)).heap[w.heap.size]?=F (Y #[J O e.kind,J Z e.at_,J Z e.depth,J Z e.nv,J Z e.na,U P e.items.length A,J Z e.inner] 148 (0,0))):=heap_alloc_new w _;clear ih c4 Q c2 z1 z3 g4 a6 V hKe e4;go_enter func51,ntmps51;go_wp2_with fail;refine(b9.o e.inner _ z2 (g0.o.below d9.o)).mono ?_;rintro r w' ⟨g2,bo,m,d,rfl,t⟩;subst w';have u:=t;clear t;go_wp2_with fail;refine u.mono ?_;rintro r l ⟨c6,wo,wk,rfl,a0⟩;have a8:Hd (Below w.heap.size w l):=d9.o.trans (c6.mono ot);have a2:Hd (l.heap[w.heap.size]?=F (Y #[J O e.kind,J Z e.at_,J Z e.depth,J Z e.nv,J Z e.na,U P e.items.length A,J Z e.inner] 148 (0,0))):=(by show _=_;rw[c6.block _ ot];exact f5.o);have a7:Hd (l.ownsRow w.heap.size 5 1 (U wo (atL K e.inner).length wk) (atL K e.inner).length ((atL K e.inner).map (Value.int .u8))):=yC a0 ot;have q0:l.cell? ⟨w.heap.size,0,N⟩=F (J O e.kind):=(by rw[cell_of_row l _ _ _ _ _ a2.o];rfl);clear c6 a0 u d9 f5 r0 r1 r2 r3 r4 r5 r6 c5;cases ek:(e.kind==61)with
   | true =>
    have HE:Hd (X=atL K e.inner):=(by show _=_;rw[a4.o];unfold Y2;rw[if_pos (by simpa using ek)]);go_wp2_with fail;go_ret;exact⟨a8.o,wo,wk,by rw[HE.o];rfl,by rw[HE.o];exact a7.o⟩
   | false =>
    have HE:Hd (X=zt K e e.items.length++zh K e e.items.length):=(by show _=_;rw[a4.o];unfold Y2;rw[if_neg (by simpa using ek)]);have d4:Hd ((zt K e e.items.length).length+(zh K e e.items.length).length<=7000):=(by show _<=_;rw[<-List.length_append,<-HE.o];exact f9.o);have m4:=z4 (by simpa using ek);have d3:Hd (WM (l.alloc (Y #[U N 0 0] 153)) w.heap.size l.heap.size (U N 0 0) []):=⟨heap_alloc_new _ _,World.ownsRow_nil _ _ _ _,a8.o.size⟩;have z:Hd ((l.alloc (Y #[U N 0 0] 153)).heap[w.heap.size]?=F (Y #[J O e.kind,J Z e.at_,J Z e.depth,J Z e.nv,J Z e.na,U P e.items.length A,J Z e.inner] 148 (0,0))):=(by show _=_;rw[Below.heap_alloc _ _ _ (lt_of_block a2.o)];exact a2.o);have p0:(l.alloc (Y #[U N 0 0] 153)).cell? ⟨w.heap.size,0,N⟩=F (J O e.kind):=(by rw[cell_of_row _ _ _ _ _ _ z.o];rfl);have p1:(l.alloc (Y #[U N 0 0] 153)).cell? ⟨w.heap.size,1,N⟩=F (J Z e.at_):=(by rw[cell_of_row _ _ _ _ _ _ z.o];rfl);have p2:(l.alloc (Y #[U N 0 0] 153)).cell? ⟨w.heap.size,2,N⟩=F (J Z e.depth):=(by rw[cell_of_row _ _ _ _ _ _ z.o];rfl);have p3:(l.alloc (Y #[U N 0 0] 153)).cell? ⟨w.heap.size,3,N⟩=F (J Z e.nv):=(by rw[cell_of_row _ _ _ _ _ _ z.o];rfl);have p4:(l.alloc (Y #[U N 0 0] 153)).cell? ⟨w.heap.size,4,N⟩=F (J Z e.na):=(by rw[cell_of_row _ _ _ _ _ _ z.o];rfl);have p5:(l.alloc (Y #[U N 0 0] 153)).cell? ⟨w.heap.size,5,N⟩=F (U P e.items.length A):=(by rw[cell_of_row _ _ _ _ _ _ z.o];rfl);have p6:(l.alloc (Y #[U N 0 0] 153)).cell? ⟨w.heap.size,6,N⟩=F (J Z e.inner):=(by rw[cell_of_row _ _ _ _ _ _ z.o];rfl);go_wp2_with fail;refine(zbt w.heap.size l.heap.size e P A _ [] _ H.o.k0 H.o.k1 H.o.n0 H.o.n1 H.o.il ot d3.o).mono ?_;rintro r w3 ⟨rfl,v3,e6,c1⟩;have e7:w.heap.size<l.heap.size:=lt_of_block a2.o;have i6:Hd (WM w3 w.heap.size l.heap.size v3 (zt K e 0)):=(by show WM _ _ _ _ _;simpa[zt]using e6);have d6:Hd (∀b,b<l.heap.size->w3.heap[b]?=l.heap[b]?/\v3.ownBlock≠F b):=λb hb=>by
     have E:=c1.kept b ow ol (by simp[Value.ownBlock]);exact⟨E.1.trans (Below.heap_alloc _ _ _ hb),E.2⟩
    have k3:Hd (Below w.heap.size w w3):=(a8.o.alloc a8.o.size _).trans (c1.below d3.o);have f4:Hd (w3.heap[w.heap.size]?=F (Y #[J O e.kind,J Z e.at_,J Z e.depth,J Z e.nv,J Z e.na,U P e.items.length A,J Z e.inner] 148 (0,0))):=(by show _=_;rw[(d6.o _ e7).1];exact a2.o);have i3:Hd (w3.ownsRow w.heap.size 5 1 (U wo (atL K e.inner).length wk) (atL K e.inner).length ((atL K e.inner).map (Value.int .u8))):=zd a7.o (λb hb=>(d6.o b (a7.o.lt b hb).2).1);have j0:Hd (∀b,(U wo (atL K e.inner).length wk).ownBlock=F b->v3.ownBlock≠F b):=λb hb=>(d6.o b (a7.o.lt b hb).2).2
    have s5:w3.cell? ⟨w.heap.size,5,N⟩=F (U P e.items.length A):=(by rw[cell_of_row _ _ _ _ _ _ f4.o];rfl);clear e6 c1 p0 p1 p2 p3 p4 p5 p6 z d3 q0;go_wp2_with fail;go_loopg [5,39] e.items.length (λq a y wr=>∃(i:Nat) (v:Option Addr) (L:Nat) (v':Value),q+i=e.items.length/\a=U v (zh K e i).length L/\y=J Z i/\WM wr w.heap.size l.heap.size v' (zt K e i)/\wr.ownsRow w.heap.size 5 1 (U v (zh K e i).length L) (zh K e i).length ((zh K e i).map (Value.int .u8))/\(∀b,(U v (zh K e i).length L).ownBlock=F b->v'.ownBlock≠F b)/\Below w.heap.size w wr/\wr.heap[w.heap.size]?=F (Y #[J O e.kind,J Z e.at_,J Z e.depth,J Z e.nv,J Z e.na,U P e.items.length A,J Z e.inner] 148 (0,0)))
    case atStart=>exact⟨0,wo,wk,v3,ol,rfl,rfl,i6.o,i3.o,j0.o,k3.o,f4.o⟩
    case round =>
     obtain⟨i,v,L,v',hq,rfl,rfl,hm,a1,a9,b0,e3⟩:=hrel;have C:Hd (WM wr w.heap.size l.heap.size v' (zt K e i)):=hm;have HR:Hd (wr.ownsRow w.heap.size 5 1 (U v (zh K e i).length L) (zh K e i).length ((zh K e i).map (Value.int .u8))):=a1;have HD:Hd (∀b,(U v (zh K e i).length L).ownBlock=F b->v'.ownBlock≠F b):=a9;have HB:Hd (Below w.heap.size w wr):=b0;have d1:Hd (wr.heap[w.heap.size]?=F (Y #[J O e.kind,J Z e.at_,J Z e.depth,J Z e.nv,J Z e.na,U P e.items.length A,J Z e.inner] 148 (0,0))):=e3;have k8:(zh K e i).length<=7000:=(by have:=Zo K e e.items.length i ol;have:=d4.o;omega);have k9:(zt K e i).length<=7000:=(by have:=zdY K e e.items.length i ol;have:=d4.o;omega);have f8:Hd ((U v (zh K e i).length L).ownBlock≠F l.heap.size):=zi a1 hm.blk oq;clear hm a1 a9 b0 e3;by_cases c3:i<e.items.length
     ·obtain⟨x,hx⟩:∃x,e.items[i]?=F x:=⟨e.items[i],List.getElem?_eq_getElem c3⟩;have k5:(0:Int)<=(i:Int):=ol;have k4:(i:Int)<(e.items.length:Int):=ol;rcases i7.o with⟨_,h2⟩|⟨gi,icap,E,h2,h3⟩
      ·rw[h2]at c3;simp at c3
      ·cases E
       have g6:gi<w.heap.size:=e8 gi rfl;obtain⟨r0,r1,r2,r3,r4,r5,r6⟩:=h3 i x hx;have f0:∀q,wr.cell? ⟨gi,q,N⟩=w.cell? ⟨gi,q,N⟩:=λq=>HB.o.cell (p:=⟨gi,q,N⟩) g6
       rw[<-f0]at r0 r1 r2 r3 r4 r5 r6;have g1:=H.o.it x (List.mem_of_getElem? hx);obtain⟨b1,b2,b3,b4,b5,b6,b7,b8⟩:=g1;have h0:Hd (atF (szK (List.map Prod.fst s) j) x.arm<=1000):=h4.o i x hx;have i8:Hd (zt K e (i+1)=zt K e i++yD e.kind x (zh K e i).length):=(by show _=_;simp only[zt,hx]);have a3:Hd (zh K e (i+1)=zh K e i++atL K x.arm):=(by show _=_;simp only[zh,hx]);have m0:(zh K e i).length+(atL K x.arm).length<=7000:=(by have h9:=Zo K e e.items.length (i+1) ol;rw[a3.o,List.length_append]at h9;have:=d4.o;omega);have g7:w.heap.size<wr.heap.size:=lt_of_block d1.o;have f2:Hd ((wr.alloc (Y #[J Z x.at_,J Z x.num,J Z x.pv,J Z x.pl,J Z x.wv,J Z x.wa,J Z x.arm] 155)).heap[w.heap.size]?=F (Y #[J O e.kind,J Z e.at_,J Z e.depth,J Z e.nv,J Z e.na,U (F ⟨gi,0,N⟩) e.items.length A,J Z e.inner] 148 (0,0))):=(by show _=_;rw[Below.heap_alloc _ _ _ g7];exact d1.o);have k0:(wr.alloc (Y #[J Z x.at_,J Z x.num,J Z x.pv,J Z x.pl,J Z x.wv,J Z x.wa,J Z x.arm] 155)).cell? ⟨w.heap.size,0,N⟩=F (J O e.kind):=(by rw[cell_of_row _ _ _ _ _ _ f2.o];rfl);have h6:Hd ((wr.alloc (Y #[J Z x.at_,J Z x.num,J Z x.pv,J Z x.pl,J Z x.wv,J Z x.wa,J Z x.arm] 155)).heap[wr.heap.size]?=F (Y #[J Z x.at_,J Z x.num,J Z x.pv,J Z x.pl,J Z x.wv,J Z x.wa,J Z x.arm] 155 (0,0))):=heap_alloc_new wr _;clear h2 h3 f0 hx;go_wp2_with fail;refine(zbr w.heap.size l.heap.size e.kind x (zh K e i).length v' (zt K e i) _ b1 b2 b3 b4 b5 b6 b7 b8 ol ol ol (C.o.alloc _)).mono ?_;rintro r w4 ⟨rfl,v4,e5,R⟩;have I:Hd (WM w4 w.heap.size l.heap.size v4 (zt K e (i+1))):=(by show WM _ _ _ _ _;rw[i8.o];exact e5);have d8:Hd (Below w.heap.size w w4):=(HB.o.alloc HB.o.size _).trans (R.below (C.o.alloc _));have f3:Hd (w4.heap[w.heap.size]?=F (Y #[J O e.kind,J Z e.at_,J Z e.depth,J Z e.nv,J Z e.na,U (F ⟨gi,0,N⟩) e.items.length A,J Z e.inner] 148 (0,0))):=(by show _=_;rw[(R.kept _ ow ol (zi C.o.row d1.o oq)).1];exact f2.o);have h5:Hd (w4.heap[wr.heap.size]?=F (Y #[J Z x.at_,J Z x.num,J Z x.pv,J Z x.pl,J Z x.wv,J Z x.wa,J Z x.arm] 155 (0,0))):=(by show _=_;rw[(R.kept _ ot (by have:=C.o.lt;omega) (λe'=>by have:=(C.o.row.lt _ e').2;omega)).1];exact h6.o);have d5:Hd (∀b,(U v (zh K e i).length L).ownBlock=F b->w4.heap[b]?=wr.heap[b]?/\v4.ownBlock≠F b):=λb hb=>by
        have g8:=(HR.o.lt b hb).2;have E:=R.kept b ow (λe'=>f8.o (by rw[<-e'];exact hb)) (HD.o b hb);exact⟨E.1.trans (Below.heap_alloc _ _ _ g8),E.2⟩
       have f7:Hd (w4.ownsRow w.heap.size 5 1 (U v (zh K e i).length L) (zh K e i).length ((zh K e i).map (Value.int .u8))):=zd HR.o (λb hb=>(d5.o b hb).1);have k6:w4.cell? ⟨wr.heap.size,6,N⟩=F (J Z x.arm):=(by rw[cell_of_row _ _ _ _ _ _ h5.o];rfl);clear e5 R r0 r1 r2 r3 r4 r5 r6 k0;go_wp2_with fail;refine(b9.o x.arm _ h0.o (g0.o.below d8.o)).mono ?_;rintro r w' ⟨g2,bo,m,d,rfl,t⟩;subst w';have u:=t;clear t;go_wp2_with fail;refine u.mono ?_;rintro r w5 ⟨B,xo,xk,rfl,W⟩;have i2:Hd _:=W;have d7:Hd (Below w.heap.size w w5):=d8.o.trans (B.mono d8.o.size);have d2:Hd (w5.heap[w.heap.size]?=F (Y #[J O e.kind,J Z e.at_,J Z e.depth,J Z e.nv,J Z e.na,U (F ⟨gi,0,N⟩) e.items.length A,J Z e.inner] 148 (0,0))):=(by show _=_;rw[B.block _ (lt_of_block f3.o)];exact f3.o);have f6:Hd (w5.ownsRow w.heap.size 5 1 (U v (zh K e i).length L) (zh K e i).length ((zh K e i).map (Value.int .u8))):=zd f7.o (λb hb=>B.block b (f7.o.lt b hb).2);have a5:Hd (WM w5 w.heap.size l.heap.size v4 (zt K e (i+1))):=⟨by rw[B.block _ I.o.lt];exact I.o.blk,zd I.o.row (λb hb=>B.block b (I.o.row.lt b hb).2),I.o.hB⟩;have k7:w4.heap.size<=w5.heap.size:=B.size;have h8:Hd (∀b,v4.ownBlock=F b->b<w4.heap.size):=λb hb=>(I.o.row.lt b hb).2
       clear B W u;have d0:Hd ((zh K e i).length+(atL K x.arm).length<=maxLen):=sx;have c9:Hd (((zh K e i).length+(atL K x.arm).length)*1<=140737488355328):=oz;have c8:Hd (w.heap.size<=w5.heap.size):=d7.o.size;go_wp2_with (at_builtin;refine Ys _ rfl _ _ 57 rfl w.heap.size 5 i0 _ 1 1 underlying57 e9 e2 e1 e0 rfl oq (U v (zh K e i).length L) _ _ rfl f6.o w4.heap.size (U xo (atL K x.arm).length xk) _ _ rfl i2.o (zdE _) d0.o c9.o c8.o w5.heap.size rfl ?_;intro oo G w6 D f c7)
       have i5:Hd (WM w6 w.heap.size l.heap.size v4 (zt K e (i+1))):=⟨by rw[f.block _ a5.o.lt (λe'=>f8.o e'.symm)];exact a5.o.blk,zd a5.o.row (λb hb=>f.block b (a5.o.row.lt b hb).2 (λe'=>(d5.o b e'.symm).2 hb)),a5.o.hB⟩;have i1:Hd (w6.ownsRow w.heap.size 5 1 (U oo ((zh K e i).length+(atL K x.arm).length) G) (zh K e (i+1)).length ((zh K e (i+1)).map (Value.int .u8))):=by
        show World.ownsRow _ _ _ _ _ _ _;rw[a3.o,List.length_append,List.map_append];exact D
       have i9:Hd (∀b,(U oo ((zh K e i).length+(atL K x.arm).length) G).ownBlock=F b->v4.ownBlock≠F b):=λb hb=>by
        rcases c7 with h9|h9
        ·rw[h9]at hb;exact(d5.o b hb).2
        ·rw[h9]at hb;intro g9;have:=h8.o b g9
         cases hb
         omega
       have k2:Hd (Below w.heap.size w w6):=d7.o.grown f d7.o.size (λb hb=>(HR.o.lt b hb).1);have h7:Hd (w6.heap[w.heap.size]?=F (Y #[J O e.kind,J Z e.at_,J Z e.depth,J Z e.nv,J Z e.na,U (F ⟨gi,0,N⟩) e.items.length A,J Z e.inner] 148 (0,0))):=(by show _=_;rw[f.block _ (lt_of_block d2.o) (λe'=>zi f6.o d2.o oq e'.symm)];exact d2.o);clear D f c7;go_roundg (gk-1)
       case measure=>omega
       case rel =>
        refine⟨i+1,oo,G,v4,ol,by rw[a3.o,List.length_append],by go_num,i5.o,?_,?_,k2.o,h7.o⟩
        ·have h9:=i1.o;rw[a3.o,List.length_append]at h9⊢;exact h9
        ·have h9:=i9.o;rw[a3.o,List.length_append];exact h9
     ·have hd:¬((i:Int)<(e.items.length:Int)):=(by omega);have g5:i=e.items.length:=ol;subst g5;have c0:=C.o.c0;have d0:Hd ((zt K e e.items.length).length+(zh K e e.items.length).length<=maxLen):=sx;have c9:Hd (((zt K e e.items.length).length+(zh K e e.items.length).length)*1<=140737488355328):=oz;have c8:Hd (w.heap.size<=wr.heap.size):=HB.o.size;go_wp2_with (at_builtin;refine Ys _ rfl _ _ 57 rfl w.heap.size 5 i0 _ 1 1 underlying57 e9 e2 e1 e0 rfl oq v' _ _ rfl C.o.row w.heap.size (U v (zh K e e.items.length).length L) _ _ rfl HR.o (zdE _) d0.o c9.o c8.o wr.heap.size rfl ?_;intro oo G w6 D f c7;have zz:w6.frozen? ⟨l.heap.size,0,N⟩=false:=(f.frozen_far ⟨l.heap.size,0,N⟩ C.o.lt (λe=>C.o.ne e.symm)).trans (C.o.fz 0);have cc:w6.cell? ⟨l.heap.size,0,N⟩=F v':=(f.cell_far ⟨l.heap.size,0,N⟩ C.o.lt (λe=>C.o.ne e.symm)).trans C.o.c0)
      have i4:=C.o.push (ys:=zh K e e.items.length) (n:=(zt K e e.items.length).length+(zh K e e.items.length).length) ot f (by rw[List.map_append];exact D);have j1:Below w.heap.size w (w6.setCell ⟨l.heap.size,0,N⟩ (U oo ((zt K e e.items.length).length+(zh K e e.items.length).length) G)):=(HB.o.grown f HB.o.size (λb hb=>(C.o.row.lt b hb).1)).setCell ox _;go_ret;refine⟨j1,oo,G,by rw[HE.o,List.length_append];rfl,?_⟩;have h9:=i4.row;rw[HE.o];rw[List.length_append]at h9⊢;exact h9
def cpE(s:ByteArray):Int:=if(yv s).1=0 then(if 1000<szR (zy s).es (zy s).es.length then 8 else 0)else(yv s).1
def cpX(s:ByteArray):List Int:=yj (zy s).es (zy s).es.length
def zgX(w:World)(n:Int)(X:List Int)(r:Ending)(w':World):Prop:=Below w.heap.size w w'/\∃o m k,r=.returned (.tuple #[U o m k,J Z n])/\(n≠0->o=N/\m=0/\k=0)/\(n=0->m=X.length/\w'.ownsRow w.heap.size 5 1 (U o m k) X.length (X.map (Value.int .u8)))
theorem EB.shp{e:EX}(h:EB e)(a:e.items.length<=100000):SHP e:=by
 refine⟨?_,?_,h.nv.1,by have:=h.nv;omega,a,λx hx=>?_⟩
 ·have:=h.kind;omega
 ·have:=h.kind;omega
 ·have i:=h.it x hx;have f:=i.num;have d:=i.pv;have c:=i.pl;have b:=i.wv;omega
theorem EVw.of_pq{w:World}{base:Nat}{d:Option Addr}{e f:Nat}{g:Value}{a:List (EX×Value)}{rs:List RL}(h:PQ w base (U d e f) g a rs):e=a.length/\a.length<=f/\EVw w d a:=by
 obtain⟨l,m,j,i⟩:=jX h.ex h.it;cases j
 obtain⟨o,c,b,k⟩:=zU h.ex;cases b
 exact⟨rfl,k,i⟩
theorem XX(b:Option Addr)(c:Nat)(d:Option Addr)(f g:Nat)(base:Nat)(a:List (EX×Value))(rs:List RL)(w:World)(K:a.length<=100000)(hi:∀p∈a,p.1.items.length<=100000)(L:Zn (a.map Prod.fst))(h:PQ w base (U b a.length c) (U d f g) a rs)(n:Int)(I:Hd ((if 1000<szR (a.map Prod.fst) a.length then(8:Int)else 0)=n)):
 Calls S 25 #[.agg #[U b a.length c,U d f g]] w (zgX w n (yj (a.map Prod.fst) a.length)):=by
 have v:Hd (Below w.heap.size w (w.alloc (Y #[U b a.length c,U d f g] 74))):=(Below.refl _ _).alloc (Nat.le_refl _) _;have C:Hd ((w.alloc (Y #[U b a.length c,U d f g] 74)).heap[w.heap.size]?=F (Y #[U b a.length c,U d f g] 74 (0,0))):=heap_alloc_new w _;have E:Hd (∀rv,(∃d f g,rv=U d f g)->Calls S 50 #[.agg #[U b a.length c,rv]] (w.alloc (Y #[U b a.length c,U d f g] 74)) λe w'=>Below (w.alloc (Y #[U b a.length c,U d f g] 74)).heap.size (w.alloc (Y #[U b a.length c,U d f g] 74)) w'/\e=.returned (J Z (szR (a.map Prod.fst) a.length))):=λrv hrv=>jy b c rv base a _ hrv (h.ex.alloc _) (λp hp=>(h.it p hp).alloc _) K hi
 obtain⟨_,A,q⟩:=EVw.of_pq h;have G:Hd (EVw w b a):=q;have u:Hd (szR (a.map Prod.fst) a.length<=1000->∀wz,EVw wz b a->Calls S 51 #[U b a.length c] wz (zeR wz (yj (a.map Prod.fst) a.length))):=λhsz wz m=>zaK a b c A K (λp hp=>(L p.1 (List.mem_map_of_mem hp)).shp (hi p hp)) a.length (Nat.le_refl _) hsz b c wz (λ_=>⟨rfl,rfl⟩) m
 have P:=zgj (a.map Prod.fst) a.length;clear h q L hi;generalize yj (a.map Prod.fst) a.length=X at *;generalize szR (a.map Prod.fst) a.length=z at *;go_enter func25,ntmps25;go_wp2_with fail;refine(E.o _ ⟨_,_,_,rfl⟩).mono ?_;rintro e x ⟨l,rfl⟩;have i:Hd (Below w.heap.size w x):=v.o.trans (l.mono v.o.size);have B:Hd (x.heap[w.heap.size]?=F (Y #[U b a.length c,U d f g] 74 (0,0))):=by show _=_;rw[l.block _ ot];exact C.o
 have Q:x.cell? ⟨w.heap.size,0,N⟩=F (U b a.length c):=by rw[cell_of_row _ _ _ _ _ _ B.o];rfl
 clear l;by_cases m:1000<z
 ·have t:Hd (n=8):=by show _=_;rw[<-I.o,if_pos m]
  go_wp2_with fail;go_ret2;exact⟨i.o,N,0,0,by rw[t.o];rfl,λ_=>⟨rfl,rfl,rfl⟩,λh=>by rw[t.o]at h;cases h⟩
 ·have t:Hd (n=0):=by show _=_;rw[<-I.o,if_neg m]
  have y:z<=1000:=ol;clear m;go_wp2_with fail;refine(u.o y _ (G.o.below i.o)).mono ?_;rintro r O ⟨s,o,k,rfl,j⟩;have H:Hd _:=i.o.trans (s.mono i.o.size);have D:Hd (O.ownsRow w.heap.size 5 1 (U o X.length k) X.length (X.map (Value.int .u8))):=yC j i.o.size;clear s j;go_wp2_with fail;go_ret2;exact⟨H.o,o,X.length,k,by rw[t.o];rfl,λh=>absurd t.o h,λ_=>⟨rfl,D.o⟩⟩
theorem J7(s:ByteArray)(w:World):
 Calls S 45 #[.string s] w (zgX w (cpE s) (cpX s)):=by
 obtain⟨c,x⟩:∃c,yv s=c:=⟨_,rfl⟩;have X:Hd _:=x;have G:Hd (cpE s=if c.1=0 then(if 1000<szR (zy s).es (zy s).es.length then 8 else 0)else c.1):=by show _=_;unfold cpE;rw[x]
 have i:Hd (c.1=0->(zy s).es.length<=100000/\∀e∈(zy s).es,e.items.length<=100000):=by
  intro j;have Z:¬2000<s.size:=λh=>by rw[<-x]at j;unfold yv at j;rw[if_pos h]at j;cases j
  have Q:=Y6 s (s.size+1) [] 0 0 false;refine⟨?_,λe he=>by have:=Q e he;omega⟩;have h2:=Za s (s.size+1) [] 0 0 false (Nat.zero_le _);show(zA s (s.size+1) [] 0 0 false).es.length<=100000;omega
 clear x;obtain⟨l,V⟩:=c;simp only at G i;go_enter func45,ntmps45;go_wp2_with fail;refine(qi s _ (l,V) X).mono ?_;rintro e C ⟨O,y,R,z,t,u,v,rfl,K⟩;have B:Hd _:=O;have W:Hd _:=K;clear O K;cases e1:(l==0)with
 | false =>
  have e2:(l != 0)=true:=by simp[bne,e1]
  have A:Hd (cpE s=l):=by show _=_;rw[G.o,if_neg (by simpa using e1)]
  have d:Hd (Below w.heap.size w (C.alloc (Y #[U y R z,U t u v] 74))):=B.o.alloc B.o.size _;have H:Hd (l≠0):=by show¬_;simpa using e1
  go_wp2_with fail;go_ret2;exact⟨d.o,N,0,0,by rw[A.o];rfl,λ_=>⟨rfl,rfl,rfl⟩,λh=>by rw[A.o]at h;exact absurd h H.o⟩
 | true =>
  have j:l=0:=by simpa using e1
  subst j;obtain⟨g,b,a⟩:=W.o rfl;have f:=i.o rfl;have A:Hd ((if 1000<szR (g.map Prod.fst) g.length then(8:Int)else 0)=cpE s):=by
   show _=_;rw[G.o,if_pos rfl,<-b,List.length_map]
  have F:Hd (yj (g.map Prod.fst) g.length=cpX s):=by show _=_;unfold cpX;rw[<-b,List.length_map]
  obtain⟨rfl,_,_⟩:=EVw.of_pq a;have q:Zn (g.map Prod.fst):=by rw[b];exact Qg s
  rw[<-b]at f;have d:Hd (Below w.heap.size w (C.alloc (Y #[U y g.length z,U t u v] 74))):=B.o.alloc B.o.size _;have r:=XX y z t u v w.heap.size g (zy s).rs (C.alloc (Y #[U y g.length z,U t u v] 74)) (by simpa using f.1) (λp hp=>f.2 p.1 (List.mem_map_of_mem hp)) q ⟨a.ex.alloc _,a.rl.alloc _,λp hp=>(a.it p hp).alloc _⟩ (cpE s) A;rw[F.o]at r;clear a b f q;go_wp2_with fail;refine r.mono ?_;rintro e P ⟨n,o,m,k,rfl,L,D⟩;have J:Hd _:=d.o.trans (n.mono d.o.size);have I:Hd _:=L;have E:Hd (cpE s=0->m=(cpX s).length/\P.ownsRow w.heap.size 5 1 (U o m k) (cpX s).length ((cpX s).map (Value.int .u8))):=λh=>⟨(D h).1,yC (D h).2 d.o.size⟩
  clear n L D;go_wp2_with fail;go_ret2;exact⟨J.o,o,m,k,rfl,I.o,E.o⟩
end Go.Proofs.YtaebngpoagjafabGreat
