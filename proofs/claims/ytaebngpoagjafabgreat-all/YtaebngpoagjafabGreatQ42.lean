import Derived.Test.YtaebngpoagjafabGreatQ41
set_option maxRecDepth 100000
set_option maxHeartbeats 6400000
namespace Go.Proofs.YtaebngpoagjafabGreat
open Option renaming some → N,none → G
open Proofs.Tryz renaming prog → I
open Bool renaming true → M,false → U
open Proofs.Tryz
open Value renaming int → J
open IntKind renaming i64 → Z
open Go.RowKit
attribute [local go_sem ↓] Go.wp_at_zero Go.wp_at_succ
def pkF(c n:Int):Int:=if c<0 then(-(c+1))%n else c%n
theorem Z7{c n:Int}(h:0<n):0<=pkF c n/\pkF c n<n:=by
 unfold pkF;split
 ·exact⟨Int.emod_nonneg _ ol,Int.emod_lt_of_pos _ h⟩
 ·exact⟨Int.emod_nonneg _ ol,Int.emod_lt_of_pos _ h⟩
theorem zgR{X:List Int}(h:∀x∈X,0<=x/\x<256):bsL (strOfNums X)=X:=by
 apply List.ext_getElem?
 intro i;by_cases a:i<X.length
 ·rw[zaQ _ (by rw[strOfNums_size];exact a),yA h,List.getElem?_eq_getElem a];rfl
 ·rw[List.getElem?_eq_none (by rw[Xc,strOfNums_size];omega),List.getElem?_eq_none ol]
structure XS (w:World) (wo:Option Addr) (b off m:Nat) (X:Nat->WD):Prop where
 at_:0<m->wo=N ⟨b,off,G⟩
 lt:0<m->b<w.heap.size
 c:∀i,i<m->∀j,j<6->w.cell? ⟨b,off+i*6+j,G⟩=[J Z (X i).a,J Z (X i).b,J Z (X i).d,.slice (X i).do_ (X i).dl (X i).dc,.slice (X i).ao (X i).al.length (X i).ac,.slice (X i).po (X i).pl (X i).pcp][j]?
 in_:∀i,i<m->(X i).In w
 sz:∀i,i<m->(X i).pl*24<=140737488351232/\(X i).dl*8<=140737488351232/\(X i).al.length*24<=140737488351232
theorem XS.below{w w':World}{e:Option Addr}{b a m:Nat}{X:Nat->WD}(h:XS w e b a m X)(d:Below w.heap.size w w'):XS w' e b a m X :=
 ⟨h.at_,λh0=>Nat.lt_of_lt_of_le (h.lt h0) d.size,λi hi j hj=>(d.cell (h.lt ol)).trans (h.c i hi j hj),λi hi=>(h.in_ i hi).below d,h.sz⟩
theorem xD.as_{B T:Nat}{w:World}{r:Option Addr}{s b:Nat}{al:List (List Int)}{va vm:Value}(h:xD B T w r s b al va vm)(a:∀l∈al,l.length*8<=140737488351232):∃o c g,va=.slice o al.length c/\AS w w.heap.size o g 0 al:=by
 rcases h with⟨_,⟨c,rfl⟩,rfl,rfl⟩|⟨ad,ga,gm,fa,fm,S,h1,rfl,h3,h4,h5,h6,h7,h8,h9,_⟩
 ·exact⟨G,c,0,rfl,λh=>by simp at h,λh=>by simp at h,λk l a=>by simp at a,λl a=>by simp at a⟩
 ·refine⟨_,_,ga,rfl,λ_=>rfl,λ_=>h7.lt,λk l hk=>?_,a⟩;have f:=(List.getElem?_eq_some_iff.1 hk).1;obtain⟨p,⟨t,u,_,n⟩,v⟩:=h9.own k l (Nat.zero_le _) ol hk;obtain⟨e,q,g,m,d,j⟩:=n.is_;refine⟨e,q,by rw[Nat.zero_add,h7.cell ol,p,m],λh0=>⟨g,0,d.at_ h0,(j h0).2,λi x hx=>?_⟩⟩;have:=d.val i (List.getElem?_eq_some_iff.1 hx).1
  rw[this,liF,hx];rfl
theorem LnW.wd{B T:Nat}{w:World}{x:WD}{g va e vm:Value}{s1 s2:Nat}(h:LnW B T w x g va e vm s1 s2)(c:x.In w):∃y:WD,y.val=.agg #[J Z x.a,J Z x.b,J Z x.d,g,va,e]/\y.In w/\∀C f,y.ru C f=x.ru C f:=by
 obtain⟨j,t,m,rfl,r,_⟩:=h.d.is_;obtain⟨i,s,l,rfl,q⟩:=h.p.ts;obtain⟨k,u,n,rfl,o⟩:=h.a.as_ c.as_.len;exact⟨⟨x.a,x.b,x.d,j,m,0,x.dl,t,x.Dn,k,n,0,u,x.al,i,l,0,x.pl,s,x.V,x.L,x.R⟩,rfl,⟨q,r,o,c.ndl,c.nal⟩,λ_ _=>rfl⟩
theorem LnB.cs{B:Nat}{w:World}{v:Value}{s:ByteArray}(h:LnB B w v s):∃o c g,v=.slice o (bsL s).length c/\CS w w.heap.size o g 0 (bsL s):=by
 obtain⟨g,f,rfl,e,b,d⟩:=h;refine⟨_,_,g,by rw[Xc],λ_=>rfl,λ_=>b.lt,λi x hx=>?_,zbl s⟩;have a:i<s.size:=by have:=(List.getElem?_eq_some_iff.1 hx).1;rw[Xc]at this;exact this
 rw[Nat.zero_add,b.cell ol,d i ol,ext,if_pos a];rw[zaQ s a]at hx;cases hx
 rfl
theorem LnB.keep{B:Nat}{w w':World}{v:Value}{s:ByteArray}(h:LnB B w v s)(b:∀g,v.ownBlock=N g->w'.heap[g]?=w.heap[g]?):LnB B w' v s:=by
 obtain⟨g,f,a,e,d,c⟩:=h;exact⟨g,f,a,e,d.of_block (b g (by rw[a];rfl)),c⟩
theorem LnB.lt{B:Nat}{w:World}{v:Value}{s:ByteArray}(h:LnB B w v s){g:Nat}(a:v.ownBlock=N g):B<=g/\g<w.heap.size:=by
 obtain⟨e,f,rfl,c,b,d⟩:=h;cases a
 exact⟨c,b.lt⟩
theorem YF(c n:Int)(w:World)(l:-9223372036854775808<=c)(k:c<=9223372036854775807)(i:0<n)(g:n<=9223372036854775807):
 Calls I 31 #[J Z c,J Z n] w λe w'=>e=.returned (J Z (pkF c n))/\w'=w:=by
 have j:¬n=0:=ol;by_cases h:c<0
 ·have b:Hd (pkF c n=(-(c+1))%n):=by show _=_;unfold pkF;rw[if_pos h]
  have a:0<=(-(c+1))%n/\(-(c+1))%n<n:=⟨Int.emod_nonneg _ ol,Int.emod_lt_of_pos _ ol⟩;have d:-(c+1).tmod n=(-(c+1))%n:=by rw[<-Int.neg_tmod,Int.tmod_eq_emod_of_nonneg ol]
  rw[<-d]at b a;have f:Hd (0<=-(c+1).tmod n/\-(c+1).tmod n<n):=a;clear d a;go_enter func31,ntmps31;go_wp2
  go_ret;exact⟨YT (by rw[b.o]),rfl⟩
 ·have b:Hd (pkF c n=c%n):=by show _=_;unfold pkF;rw[if_neg h]
  have a:0<=c%n/\c%n<n:=⟨Int.emod_nonneg _ ol,Int.emod_lt_of_pos _ ol⟩;have f:Hd (0<=c%n/\c%n<n):=a;clear a;go_enter func31,ntmps31;go_wp2
  go_ret;exact⟨YT (by rw[b.o]),rfl⟩
section
open Go.ChangeShapes Go.WideShapes Go.ChangeAt Go.RowKit
section
variable {H:Type} {enc:TypeId×Value->H} {w:World} {base:Nat} {spare:Nat->Bool} {held:Bool}
theorem zdB{r:Nat}{A:Option Addr}{m cap:Nat}{d:DataW H}{p:List MemPlace}(h:DataW.trod enc I w base spare held r 22 [.slice A m cap]=N (d,p))(B:∀k∈d.weights I 22,k<=reachBytes):m*96<=140737488351232/\∃b off X,XS w A b off m X:=by
 have z:WD:=⟨0,0,0,G,0,0,0,0,λ_=>0,G,0,0,0,[],G,0,0,0,0,λ_=>0,λ_=>0,λ_=>0⟩;rcases Deep.open_slice underlying22 h with⟨hcs,hx⟩|⟨a,l,c,q,n,D,Pl,hcs,hb,hl,hm,hmm,hx,hel⟩
 ·simp at hcs;obtain⟨rfl,rfl,rfl⟩:=hcs;exact⟨ol,0,0,λ_=>z,λh=>ol,λh=>ol,λi hi=>ol,λi hi=>ol,λi hi=>ol⟩
 ·simp at hcs hx;obtain⟨rfl,rfl,rfl⟩:=hcs;obtain⟨rfl,_⟩:=hx;have E:m<=q:=by rw[hmm];split<;>omega
  rw[Y4]at hel;have g:∀k,k∈(m+(q-m))*96::(DataW.weightsAll I 31 ((List.range m).map D)++DataW.weightsAll I 31 ((List.range (q-m)).map λj=>D (m+j)))->k<=reachBytes:=by
   intro k v;refine B k ?_;simp only[DataW.weights,underlying22,QS,List.length_map,List.length_range];exact v
  refine⟨by have:=g _ (List.mem_cons_self ..);simp only[reachBytes]at this;omega,?_⟩;haveI:Inhabited WD:=⟨z⟩
  obtain⟨F,s⟩:=Deep.choose_lt (α:=WD) (n:=m)
   (p:=λi y=>(∀j,j<6->w.cell? ((a.add (i*6)).add j)=[J Z y.a,J Z y.b,J Z y.d,.slice y.do_ y.dl y.dc,.slice y.ao y.al.length y.ac,.slice y.po y.pl y.pcp][j]?)/\y.In w/\y.pl*24<=140737488351232/\y.dl*8<=140737488351232/\y.al.length*24<=140737488351232) (λi hi=>by
   obtain⟨P,O,L⟩:=hel i ol;obtain⟨y,rfl,x,C⟩:=zfm L (λk v=>g k (List.mem_cons_of_mem _ (List.mem_append_left _ (ZF (d:=D i) (List.mem_map.2 ⟨i,List.mem_range.2 hi,rfl⟩) v))));obtain⟨_,_,K⟩:=World.cells?_some O;exact⟨y,K,x,C⟩)
  obtain⟨b,off,f⟩:=a;refine⟨b,off,F,?_⟩;by_cases u:m=0
  ·subst u;exact⟨λh=>ol,λh=>ol,λi hi=>ol,λi hi=>ol,λi hi=>ol⟩
  ·have o:=(s 0 ol).1 0 ol;have e:f=G:=(by simpa[Addr.add]using World.cell?_spot o);subst e;have t:b<w.heap.size:=by
    have:=o
    simp[Addr.add]at this;exact yH this
   exact⟨λ_=>rfl,λ_=>t,λi hi j hj=>by
    have:=(s i hi).1 j hj
    rw[add_plain,add_plain]at this;exact this,λi hi=>(s i hi).2.1,λi hi=>(s i hi).2.2⟩
theorem zfl{j:Nat}{y:Option Addr}{m cap:Nat}{d:DataW H}{p:List MemPlace}(h:DataW.trod enc I w base spare held j 23 [.slice y m cap]=N (d,p))(J:∀k∈d.weights I 23,k<=reachBytes){b o:Nat}{K A B C E:Nat->Int}{S:Nat->ByteArray}(z:OS w y b o m K A B C E S):∀i,i<m->(S i).size<=140737488351232:=by
 rcases Deep.open_slice underlying23 h with⟨hcs,hx⟩|⟨a,l,c,q,n,D,Pl,hcs,hb,hl,hm,hmm,hx,hel⟩
 ·simp at hcs;obtain⟨rfl,rfl,rfl⟩:=hcs;intro i t;omega
 ·simp at hcs hx;obtain⟨rfl,rfl,rfl⟩:=hcs;obtain⟨rfl,_⟩:=hx;have O:m<=q:=by rw[hmm];split<;>omega
  rw[Qc]at hel;intro i t;obtain⟨x,V,U⟩:=hel i ol;have g:∀k∈(D i).weights I 53,k<=reachBytes:=λk hk=>J k (by
   simp only[DataW.weights,underlying23];exact List.mem_cons_of_mem _ (List.mem_append_left _ (ZF (d:=D i) (List.mem_map.2 ⟨i,List.mem_range.2 t,rfl⟩) hk)))
  obtain⟨_,_,Q⟩:=World.cells?_some V;have f:=Q 5 ol;have u:=z.at_ ol;cases u
  rw[add_plain,add_plain,z.s i t]at f;obtain⟨G,Y,_,v,e,r,P⟩:=DataW.trod_struct underlying53 U;rw[Qc]at e;match x,e,G,r with
  | [c0,c1,c2,c3,c4,c5],_,[x0,x1,x2,x3,x4,x5],_ =>
   have W:=P 5 _ rfl;obtain⟨s,F,X,_⟩:=DataW.trod_string underlying9 W;simp[qP]at F f;rw[F]at f;injection f with f
   have R:D i=DataW.agg [x0.1,x1.1,x2.1,x3.1,x4.1,x5.1]:=(Prod.mk.inj v).1;rw[R]at g;have:=g s.data.toList.length (by
    simp only[DataW.weights,underlying53,DataW.weightsEach,List.map_cons,List.map_nil,List.mem_append];right;right;right;right;right;left
    rw[X];simp[DataW.weights])
   simp only[reachBytes]at this;rw[f];have L:s.data.toList.length=s.size:=Array.length_toList;omega
end
end
theorem ST.pushI{w w4:World}{base SB n wv cv sv iv bv cs is bs}{c v:Value}(h:ST w base SB n wv cv sv iv bv cs is bs)(f:w.grownBy w4 iv.ownBlock)(b:w4.ownsRow base 25 1 c (is.length+1) (is++[v]))(q:MkL w 3 (J Z (-1000-(is.length:Int))) v)(p:is.length+1<=n):
 ST (w4.setCell ⟨SB,3,G⟩ c) base SB n wv cv sv c bv cs (is++[v]) bs:=by
 have l:iv.ownBlock≠N SB:=zi h.ir h.blk oq;have a:=(f.block SB h.lt (λe=>l e.symm)).trans h.blk;have d:∀(g:Nat) (cur:Array Value),w.heap[g]?=N (.cells cur 3 (0,0))->(w4.setCell ⟨SB,3,G⟩ c).heap[g]?=w.heap[g]?:=λg cur hc=>by
  rw[za (λe=>by subst e;rw[h.blk]at hc;cases hc)];exact f.block g (lt_of_block hc) (λe=>zi h.ir hc oq e.symm)
 have m:∀(g:Nat) (cur:Array Value),w.heap[g]?=N (.cells cur 5 (0,0))->(w4.setCell ⟨SB,3,G⟩ c).heap[g]?=w.heap[g]?:=λg cur hc=>by
  rw[za (λe=>by subst e;rw[h.blk]at hc;cases hc)];exact f.block g (lt_of_block hc) (λe=>zi h.ir hc oq e.symm)
 have j:=h.cr.kept f (zV h.cr h.ir oq);have k:=h.br.kept f (zV h.br h.ir oq);refine⟨?_,ownsRow_setCell_other j (zi j a oq) _,?_,ownsRow_setCell_other k (zi k a oq) _,h.ok,λi v' hv=>?_,λi v' hv=>(h.bm i v' hv).of_kept m,h.hB,h.nc,by simp;exact p,h.nb⟩
 ·rw[Yo a];rfl
 ·rw[List.length_append];exact ownsRow_setCell_other b (zi b a oq) _
 ·by_cases r:i<is.length
  ·rw[List.getElem?_append_left r]at hv;exact(h.im i v' hv).of_kept d
  ·rw[List.getElem?_append_right ol]at hv;have o:i=is.length:=by
    have:=(List.getElem?_eq_some_iff.1 hv).1
    simp at this;omega
   subst o;simp at hv;subst hv;exact q.of_kept d
theorem zbO(j i:Option Addr)(y v n:Nat)(D:Nat->Int)(h q g m:Nat)(w:World)(B:n<=9223372036854775807)(f:IS w j h q n D)(d:IS w i g m n D):
 Calls I 119 #[.slice j n y,.slice i n v] w λe w'=>e=.returned (.bool M)/\Below w.heap.size w w':=by
 go_enter func119,ntmps119;go_wp2_with fail;go_loopw [5] (λx wr=>∃k:Nat,k<=n/\x=J Z k/\Below w.heap.size w wr) (λx _=>n-(intOf x).toNat)
 case atStart=>exact⟨0,ol,rfl,Below.refl _ _⟩
 case round =>
  obtain⟨k,C,rfl,a⟩:=hrel;by_cases b:k<n
  ·obtain rfl:=f.at_ ol;obtain rfl:=d.at_ ol;have z:Hd (Below w.heap.size w wr):=a;have u:=f.lt ol;have s:=d.lt ol;have A:=a.size;have t:h<wr.heap.size:=ol;have r:g<wr.heap.size:=ol;have F:=(a.cell (p:=⟨h,q+k,G⟩) u).trans (f.val k b);have E:=(a.cell (p:=⟨g,m+k,G⟩) s).trans (d.val k b);have l:(k:Int)<(n:Int):=ol;clear a;go_wp2_with fail;go_quiet (fail)
   go_wp2_with fail;go_roundw
   case rel=>exact⟨k+1,ol,by go_num,zC z.o _⟩
   case measure=>simp[intOf];omega
  ·have c:k=n:=(by omega);subst c;go_wp2_with fail;go_ret;exact⟨rfl,a⟩
theorem yq(w:World):Calls I 71 #[.agg #[.slice G 0 0,J Z 0,J Z 0]] w λe w'=>e=.returned (.bool M)/\Below w.heap.size w w':=by
 have a:=λw=>Lib.run_eql_slice_nil (P:=I) w 25 3 G 0 0 0 0 underlying25
 simp only[Option.isNone]at a;have b:Hd (Below w.heap.size w (w.alloc (.cells #[.slice G 0 0,J Z 0,J Z 0] 42))):=(Below.refl _ _).alloc (Nat.le_refl _) _;go_enter func71,ntmps71;go_wp2_with fail;go_ret;exact⟨rfl,b.o⟩
theorem zdZ(k l h c b:Int)(s:ByteArray)(n:Nat)(w:World)(p:-9223372036854775808<=c)(m:c<=9223372036854775807)(u:-9223372036854775808<=b)(t:b<=9223372036854775807)(x:n<=1000000):
 Calls I 65 #[.agg #[J Z k,J Z l,J Z h,J Z c,J Z b,.string s],J Z n] w λe w'=>(∃v:Int,e=.returned (J Z v)/\-9223372036854775808<=v/\v<=9223372036854775807)/\Below w.heap.size w w':=by
 have d:=λwz=>QA b 3 wz u t oq oq
 have g:=λwz=>QA c 5 wz p m oq oq
 have a:Hd (Below w.heap.size w (w.alloc (.cells #[J Z k,J Z l,J Z h,J Z c,J Z b,.string s] 53))):=(Below.refl _ _).alloc (Nat.le_refl _) _;go_enter func65,ntmps65;go_wp2_with fail;refine(d _).mono ?_;rintro e w' ⟨⟨j,y,rfl⟩,f⟩;subst w';clear d;rcases(show j=0\/j=1\/j=2 by omega)with rfl|rfl|rfl
 ·go_wp2_with fail;go_ret;exact⟨⟨_,rfl,ol,ol⟩,a.o⟩
 ·go_wp2_with fail;go_ret;exact⟨⟨_,rfl,p,m⟩,a.o⟩
 ·go_wp2_with fail;refine(g _).mono ?_;rintro e w' ⟨⟨i,z,rfl⟩,f⟩;subst w';have r:(i:Int)<5:=ol;have q:(n:Int)<=1000000:=ol;go_wp2_with fail;go_ret;exact⟨⟨_,rfl,ol,ol⟩,a.o⟩
def AnK(base SB n:Nat)(wv cv sv iv bv:Value)(cs:List (ByteArray×ByteArray))(bs:List Value)(w0 w:World)(e:Ending)(w':World):Prop:=e=.returned (.bool M)/\Below base w w'/\∃iv' is',ST w' base SB (n+1) wv cv sv iv' bv cs is' bs/\(∀b,b<w0.heap.size->b≠SB->iv.ownBlock≠N b->w'.heap[b]?=w.heap[b]?)/\∀g,iv'.ownBlock=N g->iv.ownBlock=N g\/w0.heap.size<=g
theorem xf(base s n:Nat)(wv cv sv iv bv:Value)(cs:List (ByteArray×ByteArray))(is bs:List Value)(f Q:Option Addr)(k1 W b2 f2:Nat)(L:List Int)(t c:Int)(r w:World)(hn:(n+1)*56<=140737488355328)(h:ST r base s n wv cv sv iv bv cs is bs)(a2:Below r.heap.size r w)(x:w.ownsRow r.heap.size 3 1 (.slice f L.length k1) L.length (L.map (J Z)))(Y:IS w Q b2 f2 L.length (λi=>(L[i]?).getD 0)):
 Calls I 73 #[.pointer (N ⟨s,0,G⟩),.agg #[.slice f L.length k1,J Z t,J Z c],.agg #[.slice Q L.length W,J Z t,J Z c]] w (AnK base s n wv cv sv iv bv cs bs r w):=by
 obtain⟨i0,e0,d7,d6,d5⟩:=info_parts infoIs;have H0:Hd (∀wz,Below r.heap.size w wz->ST wz base s (n+1) wv cv sv iv bv cs is bs):=λwz hb=>(h.below (a2.trans hb)).mono
 have g3:=h.ni;have c6:Hd (base<=r.heap.size):=Nat.le_trans h.hB (Nat.le_of_lt h.lt);have f3:Hd _:=h.lt;have f7:Hd (∀g,iv.ownBlock=N g->g<r.heap.size):=λg hg=>(h.ir.lt g hg).2
 have c9:=a2.size;obtain⟨R,S,d8,_⟩:=zU h.ir;subst d8;have e9:L.length<=9223372036854775807:=by
  rcases x.2 with⟨_,h1⟩|⟨_,cap,_,_,_,_,h1,C,_⟩
  ·omega
  ·have:maxLen=9223372036854775807:=rfl;omega
 obtain⟨g1,a0⟩:=qB x;have c2:Hd (∀wz,Below w.heap.size w wz->Calls I 119 #[.slice f L.length k1,.slice Q L.length W] wz λe w'=>e=.returned (.bool M)/\Below wz.heap.size wz w'):=λwz hb=>zbO f Q k1 W L.length _ g1 0 b2 f2 wz e9 (a0.below hb a0.lt) (Y.below hb Y.lt)
 have p:Hd (w.ownsRow r.heap.size 3 1 (.slice f L.length k1) L.length (L.map (J Z))):=x;clear h a2 a0 Y x;have O:Hd (Below w.heap.size w ((w.alloc (.cells #[.slice f L.length k1,J Z t,J Z c] 42)).alloc (.cells #[.slice Q L.length W,J Z t,J Z c] 42))):=((Below.refl _ _).alloc (Nat.le_refl _) _).alloc ot _;have a5:Hd (((w.alloc (.cells #[.slice f L.length k1,J Z t,J Z c] 42)).alloc (.cells #[.slice Q L.length W,J Z t,J Z c] 42)).heap[w.heap.size]?=N (.cells #[.slice f L.length k1,J Z t,J Z c] 42 (0,0))):=by show _=_;rw[Below.heap_alloc _ _ _ ot];exact heap_alloc_new w _
 have a3:Hd (((w.alloc (.cells #[.slice f L.length k1,J Z t,J Z c] 42)).alloc (.cells #[.slice Q L.length W,J Z t,J Z c] 42)).heap[w.heap.size+1]?=N (.cells #[.slice Q L.length W,J Z t,J Z c] 42 (0,0))):=zl _ ot;go_enter func73,ntmps73;go_wp2_with fail;refine(c2.o _ O.o).mono ?_;rintro e P ⟨rfl,H⟩;have c8:Hd (Below w.heap.size w P):=O.o.trans (H.mono O.o.size);have a4:Hd _:=(H.block _ (lt_of_block a5.o)).trans a5.o;have c1:Hd _:=(H.block _ (lt_of_block a3.o)).trans a3.o;have a7:=lt_of_block c1.o;obtain⟨u0,u1,u2,_,_,_⟩:=ld3 a4.o;clear H O a5 a3 c2;have D:Hd (P.ownsRow r.heap.size 3 1 (.slice f L.length k1) L.length (L.map (J Z))):=zd p.o (λg hg=>c8.o.block g (p.o.lt g hg).2)
 -- its room: nil,or a row
 obtain⟨l,k⟩:∃l:Array Value,(f=G/\k1=0)\/∃g,f=N ⟨g,0,G⟩/\r.heap.size<=g/\g<w.heap.size/\P.heap[g]?=N (.cells l 3 (0,0))/\l.size=k1/\k1<=9223372036854775807:=by
  rcases D.o.2 with⟨h1,_⟩|⟨g',cap,m,h1,C,h4,_,h6,h7,_⟩
  ·injection h1 with e1 e2 e3;exact⟨#[],.inl ⟨e1,e3⟩⟩
  ·injection h1 with e1 e2 e3;subst e1 e3;exact⟨m,.inr ⟨g',rfl,C,(p.o.lt g' rfl).2,h4,ol,h6⟩⟩
 have g7:L.length<=k1:=by obtain⟨_,_,h1,C⟩:=zU p.o;injection h1 with e1 e2 e3;omega
 clear p D;go_wp2_with fail;obtain⟨mk,X⟩:∃mk:Int,-1000-(is.length:Int)=mk:=⟨_,rfl⟩;have f4:Hd _:=X;have f5:Hd (∀wz,Calls I 38 #[J Z is.length] wz λe w'=>e=.returned (J Z mk)/\w'=wz):=λwz=>by have:=qL is.length wz ol;rw[X]at this;exact this
 clear X;have c7:Hd (Below r.heap.size w P):=c8.o.mono c9;go_loopg [9] k1 (λq y wr=>∃(i:Nat) (m:Array Value),q+i=k1/\y=J Z i/\Hd (∀g,f=N ⟨g,0,G⟩->wr.heap[g]?=N (.cells m 3 (0,0))/\m.size=k1/\∀j,j<i->m[j]?=N (J Z mk))/\Hd (∀b,b<P.heap.size->(∀g,f=N ⟨g,0,G⟩->b≠g)->wr.heap[b]?=P.heap[b]?)/\Hd (Below r.heap.size w wr)/\P.heap.size<=wr.heap.size)
 case atStart =>
  refine⟨0,l,ol,rfl,λg hg=>?_,λb _ _=>rfl,c7,Nat.le_refl _⟩;rcases k with⟨h1,_⟩|⟨g',h1,_,_,C,h3,_⟩
  ·rw[h1]at hg;cases hg
  ·rw[h1]at hg;cases hg;exact⟨C,h3,λj hj=>ol⟩
 case round =>
  obtain⟨i,m,hq,rfl,c5,a6,HB,d0⟩:=hrel;have B:Hd (ST wr base s (n+1) wv cv sv (.slice R is.length S) bv cs is bs):=H0.o wr HB.o;have c3:=B.o.c 3;simp only[List.getElem?_toArray,List.getElem?_cons_succ,List.getElem?_cons_zero]at c3;by_cases g5:i<k1
  ·obtain⟨g,rfl,e4,g8,_,_,g6⟩:∃g,f=N ⟨g,0,G⟩/\r.heap.size<=g/\g<w.heap.size/\P.heap[g]?=N (.cells l 3 (0,0))/\l.size=k1/\k1<=9223372036854775807:=by
    rcases k with⟨_,h1⟩|h1
    ·omega
    ·exact h1
   obtain⟨F,e5,b5⟩:=c5.o g rfl;have HC:Hd _:=F;have f8:Hd _:=b5;obtain⟨h8,g0⟩:∃v,wr.cell? ⟨g,i,G⟩=N v:=⟨m[i]'(by omega),by rw[cell_of_row _ _ _ _ _ _ F];exact Array.getElem?_eq_getElem ol⟩;have g9:wr.frozen? ⟨g,i,G⟩=U:=(by simp[World.frozen?,F]);have b1:(i:Int)<(k1:Int):=ol;clear F b5;go_wp2_with fail;refine(f5.o _).mono ?_;rintro e w' ⟨rfl,g2⟩;subst w';go_wp2_with fail;go_roundg (gk-1)
   case measure=>omega
   case rel =>
    refine⟨i+1,m.setIfInBounds i (J Z mk),ol,by go_num,λg' hg'=>?_,λb hb hne=>?_,HB.o.setCell e4 _,by simpa[World.setCell]using d0⟩
    ·cases hg'
     refine⟨Yb HC.o,by simp[e5],λj hj=>?_⟩;rw[Array.getElem?_setIfInBounds];by_cases b4:i=j
     ·rw[if_pos b4,if_pos ol]
     ·rw[if_neg b4];exact f8.o j ol
    ·rw[za (hne g rfl)];exact a6.o b hb hne
  ·have d9:i=k1:=(by omega);subst d9;have a1:∀g,f=N ⟨g,0,G⟩->g<w.heap.size/\i<=9223372036854775807:=λg hg=>by
    rcases k with⟨h1,_⟩|⟨g',h1,_,C,_,_,h3⟩
    ·rw[h1]at hg;cases hg
    ·rw[h1]at hg;cases hg;exact⟨C,h3⟩
   have e8:Hd (MkL wr 3 (J Z (-1000-(is.length:Int))) (.slice f i i)):=by
    rw[f4.o];refine⟨f,i,rfl,?_,λh0=>?_⟩
    ·rcases k with⟨_,h1⟩|⟨g',h1,_⟩
     ·omega
     ·exact(a1 g' h1).2
    ·rcases k with⟨_,h1⟩|⟨g',h1,_⟩
     ·omega
     ·obtain⟨C,h3,h4⟩:=c5.o g' h1;exact⟨g',m,h1,C,h3,h4⟩
   have e7:=(a6.o w.heap.size (lt_of_block a4.o) (λg hg=>by have:=(a1 g hg).1;omega)).trans a4.o;have e6:=(a6.o (w.heap.size+1) a7 (λg hg=>by have:=(a1 g hg).1;omega)).trans c1.o;obtain⟨p0,p1,p2,_,_,_⟩:=ld3 e7;obtain⟨r0,r1,r2,_,_,_⟩:=ld3 e6;have b6:base<=wr.heap.size:=(by have:=c6.o;omega);have h5:=f3.o;have b1:¬(i:Int)<(i:Int):=ol;have f1:Hd (is.length+1<=maxLen):=sx;have f0:Hd ((is.length+1)*24<=140737488355328):=oz;have c0:Hd (base<=(wr.alloc (.cells #[.slice f i i] 25)).heap.size):=mc;have a9:Hd (∀u∈[Value.slice f i i],u.oneCell'=M):=λu hu=>by simp at hu;subst hu;rfl
   have K:Hd (ST (wr.alloc (.cells #[.slice f i i] 25)) base s (n+1) wv cv sv (.slice R is.length S) bv cs is bs):=B.o.below ((Below.refl _ _).alloc (Nat.le_refl _) _);have f6:Hd (MkL (wr.alloc (.cells #[.slice f i i] 25)) 3 (J Z (-1000-(is.length:Int))) (.slice f i i)):=e8.o.of_kept (λq _ hq=>Below.heap_alloc _ _ _ (lt_of_block hq));have A:Hd (∀b,w.heap.size<=b->N b≠(Value.slice R is.length S).ownBlock):=λb hb e=>by have:=f7.o b e.symm;omega
   have c4:Hd (N s≠(Value.slice R is.length S).ownBlock):=λe=>zi B.o.ir B.o.blk oq e.symm
   have f9:w.heap.size+1<wr.heap.size:=ol;go_wp2_with (at_builtin;refine wpList_append_lies _ rfl (.tmp 40) (.tmp 42) 28 rfl base 25 i0 _ 1 24 underlying28 e0 d7 d6 d5 rfl oq (.slice R is.length S) _ _ rfl K.o.ir ⟨wr.heap.size,0,G⟩ 1 1 [.slice f i i] rfl rfl (World.news_of_block (cs:=#[.slice f i i]) (t:=25) (fr:=(0,0)) (heap_alloc_new wr _)) a9.o (Nat.lt_succ_self 0) f1.o f0.o c0.o (wr.heap.size+1) ot ?_;intro g4 z E V d b9 b0;have zz:E.frozen? ⟨s,3,G⟩=U:=(d.frozen_far ⟨s,3,G⟩ ow c4.o).trans (K.o.fz 3);have h9:E.cell? ⟨s,3,G⟩=N (.slice R is.length S):=(d.cell_far ⟨s,3,G⟩ ow c4.o).trans (K.o.c 3);have d1:E.cell? ⟨w.heap.size,1,G⟩=N (J Z t):=(d.cell_far ⟨w.heap.size,1,G⟩ ow (A.o _ (Nat.le_refl _))).trans (zx p1 _);have d2:E.cell? ⟨w.heap.size,2,G⟩=N (J Z c):=(d.cell_far ⟨w.heap.size,2,G⟩ ow (A.o _ (Nat.le_refl _))).trans (zx p2 _);have d3:E.cell? ⟨w.heap.size+1,1,G⟩=N (J Z t):=(d.cell_far ⟨w.heap.size+1,1,G⟩ ow (A.o _ ox)).trans (zx r1 _);have d4:E.cell? ⟨w.heap.size+1,2,G⟩=N (J Z c):=(d.cell_far ⟨w.heap.size+1,2,G⟩ ow (A.o _ ox)).trans (zx r2 _);have a8:Hd (ST (E.setCell ⟨s,3,G⟩ (.slice (N ⟨g4,0,G⟩) (is.length+1) z)) base s (n+1) wv cv sv (.slice (N ⟨g4,0,G⟩) (is.length+1) z) bv cs (is++[.slice f i i]) bs):=K.o.pushI d V f6.o ol;have b7:Hd (Below base w (E.setCell ⟨s,3,G⟩ (.slice (N ⟨g4,0,G⟩) (is.length+1) z))):=(((HB.o.mono c6.o).alloc b6 _).grown d c0.o (λq hq=>(B.o.ir.lt q hq).1)).setCell B.o.hB _;have b3:Hd (∀b,b<r.heap.size->b≠s->(Value.slice R is.length S).ownBlock≠N b->(E.setCell ⟨s,3,G⟩ (.slice (N ⟨g4,0,G⟩) (is.length+1) z)).heap[b]?=w.heap[b]?):=(λb h1 C h3=>by rw[za C,d.block b ow (λe=>h3 e.symm),Below.heap_alloc _ _ _ ol,HB.o.block b h1]);have b8:Hd ((Value.slice R is.length S).ownBlock=N g4\/r.heap.size<=g4):=(b9.imp id (λe=>ol));clear V d b9 b0)
   go_ret;exact⟨rfl,b7.o,_,_,a8.o,b3.o,λg hg=>by cases hg;exact b8.o⟩
def QyT(base SB n:Nat)(wv cv sv iv bv:Value)(cs:List (ByteArray×ByteArray))(bs:List Value)(w:World)(e:Ending)(w':World):Prop:=e=.returned (.bool M)/\Below base w w'/\∃iv' is',ST w' base SB (n+1) wv cv sv iv' bv cs is' bs/\(∀b,b<w.heap.size->b≠SB->iv.ownBlock≠N b->w'.heap[b]?=w.heap[b]?)/\(∀g,iv'.ownBlock=N g->iv.ownBlock=N g\/w.heap.size<=g)/\w.heap.size<=w'.heap.size
theorem QyT.below{base i n:Nat}{d f e c bv:Value}{cs:List (ByteArray×ByteArray)}{is g:List Value}{w w':World}(h:ST w base i n d f e c bv cs is g)(a:Below w.heap.size w w'):QyT base i n d f e c bv cs g w (.returned (.bool M)) w' :=
 ⟨rfl,a.mono (Nat.le_trans h.hB (Nat.le_of_lt h.lt)),c,is,(h.below a).mono,λb hl _ _=>a.block b hl,λ_ hg=>.inl hg,a.size⟩
theorem zgN{cs:List (ByteArray×ByteArray)}{i:Nat}{x:ByteArray×ByteArray}(h:cs[i]?=N x):(cdC cs)[i*2]?=N (.string x.1)/\(cdC cs)[i*2+1]?=N (.string x.2):=by
 induction cs generalizing i with
 |nil=>simp at h
 | cons y l ih =>
  have e:cdC (y::l)=.string y.1::.string y.2::cdC l:=by simp[cdC]
  rw[e];cases i with
  |zero=>simp at h;subst h;simp
  | succ i =>
   have:=ih (i:=i) (by simpa using h)
   rw[show(i+1)*2=i*2+1+1 from by omega];simpa using this
theorem zdl(base SB n:Nat)(wo:Option Addr)(wb r m b5:Nat)(X:Nat->WD)(cv sv iv bv:Value)(cs:List (ByteArray×ByteArray))(is bs:List Value)(kk P O oc od:Int)(os:ByteArray)(w:World)(hn:(n+1)*56<=140737488355328)(hm:m*96<=140737488351232)(hX:XS w wo wb r m X)(h:ST w base SB n (.slice wo m b5) cv sv iv bv cs is bs)(a0:-9223372036854775808<=P)(a1:P<=9223372036854775807)(b0:-9223372036854775808<=O)(b1:O<=9223372036854775807)(c0:-9223372036854775808<=oc)(c1:oc<=9223372036854775807)(d0:-9223372036854775808<=od)(d1:od<=9223372036854775807):
 Calls I 34 #[.pointer (N ⟨SB,0,G⟩),.agg #[J Z kk,J Z P,J Z O,J Z oc,J Z od,.string os]] w (QyT base SB n (.slice wo m b5) cv sv iv bv cs bs w):=by
 have H:Hd (ST w base SB n (.slice wo m b5) cv sv iv bv cs is bs):=h;have HX:Hd _:=hX;have A6:Hd (base<=w.heap.size):=Nat.le_trans h.hB (Nat.le_of_lt h.lt);have K:Hd (Below w.heap.size w (w.alloc (.cells #[J Z kk,J Z P,J Z O,J Z oc,J Z od,.string os] 53))):=(Below.refl _ _).alloc (Nat.le_refl _) _;obtain⟨co,cc,y5,_⟩:=zU h.cr;subst y5;have s0:=h.c 0;have s1:=h.c 1;simp only[List.getElem?_toArray,List.getElem?_cons_succ,List.getElem?_cons_zero]at s0 s1;have r7:=h.lt;have C4:=h.nc;clear h hX;by_cases x4:m=0
 ·subst x4;go_enter func34,ntmps34;go_wp2_with fail;go_ret;exact QyT.below H.o K.o
 by_cases y8:cs.length=0
 ·have C3:((m:Int)==0)=U:=by rw[beq_eq_false_iff_ne];omega
  rw[y8]at s1;go_enter func34,ntmps34;go_wp2_with fail;go_ret;exact QyT.below H.o K.o
 have o4:((m:Int)==0)=U:=by rw[beq_eq_false_iff_ne];omega
 have o3:((cs.length:Int)==0)=U:=by rw[beq_eq_false_iff_ne];omega
 obtain rfl:=HX.o.at_ ol;obtain⟨cg,ck,p6,y7,k9⟩:=H.o.cr.form ol;have y6:co=N ⟨cg,0,G⟩:=by injection p6
 subst y6;have m9:Hd (∀i x,cs[i]?=N x->w.cell? ⟨cg,i*2,G⟩=N (.string x.1)/\w.cell? ⟨cg,i*2+1,G⟩=N (.string x.2)):=λi x hx=>by
  have hi:=(List.getElem?_eq_some_iff.1 hx).1;obtain⟨e1,e2⟩:=zgN hx;exact⟨by rw[H.o.cr.cellAt (i*2) ol];exact e1,by rw[H.o.cr.cellAt (i*2+1) ol];exact e2⟩
 have h6:cg<w.heap.size:=k9;have n7:wb<w.heap.size:=HX.o.lt ol;clear p6 y7 k9;go_enter func34,ntmps34;go_upto_region 3 with fail
 have m6:Hd ((w.alloc (.cells #[J Z kk,J Z P,J Z O,J Z oc,J Z od,.string os] 53)).heap[w.heap.size]?=N (.cells #[J Z kk,J Z P,J Z O,J Z oc,J Z od,.string os] 53 (0,0))):=heap_alloc_new w _;have A4:Hd _:=H.o.below K.o;have n4:=(K.o.cell (p:=⟨SB,0,G⟩) r7).trans s0;have f4:=(K.o.cell (p:=⟨SB,1,G⟩) r7).trans s1;have i5:Hd (∀i x,cs[i]?=N x->(w.alloc (.cells #[J Z kk,J Z P,J Z O,J Z oc,J Z od,.string os] 53)).cell? ⟨cg,i*2,G⟩=N (.string x.1)/\(w.alloc (.cells #[J Z kk,J Z P,J Z O,J Z oc,J Z od,.string os] 53)).cell? ⟨cg,i*2+1,G⟩=N (.string x.2)):=λi x hx=>⟨(K.o.cell (p:=⟨cg,i*2,G⟩) h6).trans (m9.o i x hx).1,(K.o.cell (p:=⟨cg,i*2+1,G⟩) h6).trans (m9.o i x hx).2⟩
 have n3:Hd _:=K.o;have C1:w.heap.size<(w.alloc (.cells #[J Z kk,J Z P,J Z O,J Z oc,J Z od,.string os] 53)).heap.size:=ot;generalize w.alloc (.cells #[J Z kk,J Z P,J Z O,J Z oc,J Z od,.string os] 53)=w1 at *;clear K m9 s0 s1;obtain⟨q0,q1,q2,q3,q4,q5⟩:=ld6 m6.o rfl;have y9:SB<w1.heap.size:=ol;have B8:cg<w1.heap.size:=ol;have z0:w.heap.size<w1.heap.size:=ol;have k7:(0:Int)<(cs.length:Int):=ol;obtain⟨kc,o7⟩:∃kc:Nat,pkF P cs.length=(kc:Int):=⟨(pkF P cs.length).toNat,by have:=(Z7 (c:=P) k7).1;omega⟩;have y3:kc<cs.length:=by have:=(Z7 (c:=P) k7).2;omega
 have B5:(kc:Int)<(cs.length:Int):=ol;have s9:Hd (∀wz,Calls I 31 #[J Z P,J Z cs.length] wz λe w'=>e=.returned (J Z kc)/\w'=wz):=λwz=>by have:=YF P cs.length wz a0 a1 k7 ol;rw[o7]at this;exact this
 obtain⟨l,j1⟩:∃l,cs[kc]?=N l:=⟨cs[kc],List.getElem?_eq_getElem y3⟩;obtain⟨f0,f1⟩:=i5.o kc l j1;have z5:Hd (l∈cs):=List.mem_of_getElem? j1;have c6:w1.heap.size≠SB:=ol;have c7:w1.heap.size≠w.heap.size:=ol;have W:w1.heap.size≠cg:=ol;clear o7 j1;go_cut [5] (λs5 wx=>s5=.pointer (N ⟨w1.heap.size,0,G⟩)/\Below w1.heap.size w1 wx/\wx.heap[w1.heap.size]?=N (.cells #[.string l.1,.string l.2] 124 (0,0)))
 case first =>
  go_region_held3 (λw'=>w'.cell? ⟨SB,1,G⟩=N (.slice (N ⟨cg,0,G⟩) cs.length cc)/\w'.cell? ⟨w.heap.size,1,G⟩=N (J Z P)/\w'.cell? ⟨cg,kc*2,G⟩=N (.string l.1)/\w'.cell? ⟨cg,kc*2+1,G⟩=N (.string l.2)) (first|(exact⟨f4,q1,f0,f1⟩)|(exact⟨zx f4 _,zx q1 _,zx f0 _,zx f1 _⟩)|(exact⟨zo c6 (zo c6 (zx f4 _) _ _) _ _,zo c7 (zo c7 (zx q1 _) _ _) _ _,zo W (zo W (zx f0 _) _ _) _ _,zo W (zo W (zx f1 _) _ _) _ _⟩)|go_keep) (first|(go_at_call 31;refine(s9.o _).mono ?_;rintro e w' ⟨rfl,v7⟩;subst w'))
  all_goals
   go_wp2_with fail;go_meet
   exact⟨rfl,((Below.refl _ _).alloc (Nat.le_refl _) _).drew,heap_alloc_new w1 _⟩
 case rest =>
 obtain⟨rfl,q6,p9⟩:=hcut;obtain⟨w2,v9⟩:∃w2,w2=wc:=⟨_,rfl⟩;subst v9;have g8:Hd _:=q6;have n2:Hd _:=p9;have c2:=(g8.o.cell (p:=⟨SB,0,G⟩) y9).trans n4;have f9:=(g8.o.block _ z0).trans m6.o;have m5:Hd _:=f9;have p8:=lt_of_block n2.o;clear q6 p9 f9 q0 q1 q2 q3 q4 q5 f0 f1 f4 s9 i5 c6 c7 W m6;have k3:(0:Int)<(m:Int):=ol;obtain⟨S,o6⟩:∃S:Nat,pkF O m=(S:Int):=⟨(pkF O m).toNat,by have:=(Z7 (c:=O) k3).1;omega⟩;have c9:S<m:=by have:=(Z7 (c:=O) k3).2;omega
 have x6:(S:Int)<(m:Int):=ol;have s8:Hd (∀wz,Calls I 31 #[J Z O,J Z m] wz λe w'=>e=.returned (J Z S)/\w'=wz):=λwz=>by have:=YF O m wz b0 b1 k3 ol;rw[o6]at this;exact this
 clear o6;obtain⟨x,f5⟩:∃x,X S=x:=⟨_,rfl⟩;have E:Hd (x.In w):=by rw[<-f5];exact HX.o.in_ S c9
 have a3:Hd (x.pl*24<=140737488351232/\x.dl*8<=140737488351232/\x.al.length*24<=140737488351232):=by rw[<-f5];exact HX.o.sz S c9
 have g7:Hd (Below w.heap.size w w2):=n3.o.trans (g8.o.mono n3.o.size);have a4:Hd (∀j,j<6->w2.cell? ⟨wb,r+S*6+j,G⟩=[J Z x.a,J Z x.b,J Z x.d,.slice x.do_ x.dl x.dc,.slice x.ao x.al.length x.ac,.slice x.po x.pl x.pcp][j]?):=λj hj=>by rw[g7.o.cell (p:=⟨wb,r+S*6+j,G⟩) n7,<-f5];exact HX.o.c S c9 j hj
 have e0:=a4.o 0 ol;have e1:=a4.o 1 ol;have e2:=a4.o 2 ol;have e3:=a4.o 3 ol;have e4:=a4.o 4 ol;have e5:=a4.o 5 ol;simp only[List.getElem?_cons_succ,List.getElem?_cons_zero,Nat.add_zero]at e0 e1 e2 e3 e4 e5;obtain⟨_,_,q2,_,_,_⟩:=ld6 m5.o rfl;clear f5 a4;have B1:wb<w2.heap.size:=ol;have D0:SB<w2.heap.size:=ol;have f9:w.heap.size<w2.heap.size:=ol;go_upto_region 4 with fail
 go_cut [6] (λs6 wx=>s6=.pointer (N ⟨w2.heap.size,0,G⟩)/\Below w2.heap.size w2 wx/\wx.heap[w2.heap.size]?=N (.cells #[J Z x.a,J Z x.b,J Z x.d,.slice x.do_ x.dl x.dc,.slice x.ao x.al.length x.ac,.slice x.po x.pl x.pcp] 31 (0,0)))
 case first =>
  go_region_held3 (λw'=>w'.cell? ⟨SB,0,G⟩=N (.slice (N ⟨wb,r,G⟩) m b5)/\w'.cell? ⟨w.heap.size,2,G⟩=N (J Z O)/\w'.cell? ⟨wb,r+S*6,G⟩=N (J Z x.a)/\w'.cell? ⟨wb,r+S*6+1,G⟩=N (J Z x.b)/\w'.cell? ⟨wb,r+S*6+2,G⟩=N (J Z x.d)/\w'.cell? ⟨wb,r+S*6+3,G⟩=N (.slice x.do_ x.dl x.dc)/\w'.cell? ⟨wb,r+S*6+4,G⟩=N (.slice x.ao x.al.length x.ac)/\w'.cell? ⟨wb,r+S*6+5,G⟩=N (.slice x.po x.pl x.pcp)) (first|(exact⟨c2,q2,e0,e1,e2,e3,e4,e5⟩)|(exact⟨zx c2 _,zx q2 _,zx e0 _,zx e1 _,zx e2 _,zx e3 _,zx e4 _,zx e5 _⟩)|go_keep) (first|(go_at_call 31;refine(s8.o _).mono ?_;rintro e w' ⟨rfl,v7⟩;subst w'))
  all_goals
   go_wp2_with fail;go_meet
   exact⟨rfl,((Below.refl _ _).alloc (Nat.le_refl _) _).drew,heap_alloc_new w2 _⟩
 case rest =>
 obtain⟨rfl,f8,p7⟩:=hcut;obtain⟨w3,v8⟩:∃w3,w3=wc:=⟨_,rfl⟩;subst v8;have e9:Hd _:=g7.o.trans (f8.mono g7.o.size);have t0:Hd _:=(f8.block _ f9).trans m5.o;have g6:Hd _:=(f8.block _ p8).trans n2.o;have m3:Hd _:=p7;have v3:=lt_of_block m3.o;have A2:=H.o.ok l z5.o;obtain⟨hE,m1⟩:=A2;obtain⟨h7,n9,p5,p4⟩:=Xs hE;have n6:l.2.size=(cpX l.1).length:=by rw[m1,strOfNums_size]
 have B0:l.2.size<=7000:=ol;have i4:Hd (Q2 l.1=M):=by show _=_;simp[Q2,hE]
 have t6:Hd _:=h7;have t7:Hd (bsL l.2=cpX l.1):=by
  show _=_;rw[m1];exact zgR (zbh _ _)
 have A5:Hd _:=n6;clear f8 p7 e0 e1 e2 e3 e4 e5 q2 n4 c2 s8 n2 m5 hE m1 h7 n9 p5 p4 n6 g7 n3 g8 HX A4 o4 o3;have HF:=λwz=>zdZ kk P O oc od os l.2.size wz c0 c1 d0 d1 ol
 obtain⟨q0,q1,q2,q3,q4,q5⟩:=ld6 t0.o rfl;have g1:w3.cell? ⟨w1.heap.size,1,G⟩=N (.string l.2):=by rw[cell_of_row _ _ _ _ _ _ g6.o];rfl
 go_wp2_with fail;refine(HF _).mono ?_;rintro e w4 ⟨⟨fl,rfl,B6,o9⟩,f7⟩;have e8:Hd _:=e9.o.trans (f7.mono e9.o.size);have g5:Hd _:=(f7.block _ (lt_of_block g6.o)).trans g6.o;have m2:Hd _:=(f7.block _ v3).trans m3.o;have v2:=lt_of_block m2.o;clear f7 HF q0 q1 q2 q3 q4 q5 g1 t0 g6 m3 e9;have g1:w4.cell? ⟨w1.heap.size,1,G⟩=N (.string l.2):=by rw[cell_of_row _ _ _ _ _ _ g5.o];rfl
 go_wp2_with fail;refine(Xl l.2 _ ol).mono ?_;rintro e w5 ⟨⟨vb,rfl,k0⟩,d4⟩;obtain⟨bo,bc,bg,n8,_⟩:=k0.cs;have g4:Hd (LnB w4.heap.size w5 vb l.2):=k0;have b4:Hd _:=e8.o.trans (d4.mono e8.o.size);have n1:Hd _:=(d4.block _ (lt_of_block g5.o)).trans g5.o;have g3:Hd _:=(d4.block _ v2).trans m2.o;have v1:=lt_of_block g3.o;have A9:=d4.size;subst n8;clear d4 k0 e8 g5 m2 g1;have t4:Hd (Calls I 67 #[.agg #[J Z x.a,J Z x.b,J Z x.d,.slice x.do_ x.dl x.dc,.slice x.ao x.al.length x.ac,.slice x.po x.pl x.pcp]] w5 (zfZ x w5)):=Xk x w5 (E.o.below b4.o) a3.o.1 a3.o.2.1 a3.o.2.2;obtain⟨q0,q1,q2,q3,q4,q5⟩:=ld6 g3.o rfl;go_wp2_with fail;refine t4.o.mono ?_;rintro e w6 ⟨⟨vd,va,vp,vm,t1,t2,rfl,c8⟩,b8⟩;obtain⟨b6,cd,_,x1,_⟩:=c8.d.is_;obtain⟨op,cp,_,w0,_⟩:=c8.p.ts;obtain⟨b7,ca,om,cm,x2,x0⟩:=c8.a.form;subst x1 w0 x2 x0;have m7:Hd _:=c8;have e7:Hd _:=b4.o.trans (b8.mono b4.o.size);have n0:Hd _:=(b8.block _ (lt_of_block n1.o)).trans n1.o;have s2:Hd _:=(b8.block _ v1).trans g3.o;have Y:Hd (LnB w4.heap.size w6 (.slice bo (bsL l.2).length bc) l.2):=g4.o.keep (λg hg=>b8.block g (g4.o.lt hg).2);have s3:Hd (∀g,(Value.slice bo (bsL l.2).length bc).ownBlock=N g->w4.heap.size<=g/\g<w5.heap.size):=λg hg=>g4.o.lt hg
 have A8:=b8.size;clear b8 c8 b4 n1 g3 g4 t4 q0 q1 q2 q3 q4 q5;obtain⟨w7,c4⟩:∃w7,w6.alloc (.cells #[J Z x.a,J Z x.b,J Z x.d,.slice b6 x.dl cd,.slice b7 x.al.length ca,.slice op x.pl cp] 31)=w7:=⟨_,rfl⟩;have A1:Hd _:=c4;have n5:w7.heap.size=w6.heap.size+1:=by rw[<-c4];simp
 have z4:Hd _:=n5;have C:Hd (Below w6.heap.size w6 w7):=by rw[<-c4];exact(Below.refl _ _).alloc (Nat.le_refl _) _
 have m4:Hd (w7.heap[w6.heap.size]?=N (.cells #[J Z x.a,J Z x.b,J Z x.d,.slice b6 x.dl cd,.slice b7 x.al.length ca,.slice op x.pl cp] 31 (0,0))):=by rw[<-c4];exact heap_alloc_new w6 _
 clear c4 n5;have B2:w.heap.size<=w5.heap.size:=ol;have i8:Hd (0<x.al.length->x.ab<w.heap.size):=E.o.as_.lt;obtain⟨R,HR⟩:∃R,Hd (x.ru (cpX l.1) fl=R):=⟨_,rfl⟩;have i0:Hd (Calls I 46 #[.slice bo (bsL l.2).length bc,.agg #[J Z x.a,J Z x.b,J Z x.d,.slice b6 x.dl cd,.slice b7 x.al.length ca,.slice op x.pl cp],J Z fl] w7 (qh w7 R)):=by
  have x5:=m7.o.below (λh=>by have:=i8.o h;omega) C.o;have o8:x.In w7:=E.o.below (e7.o.trans (C.o.mono e7.o.size));obtain⟨y,v6,v5,v4⟩:=x5.wd o8;obtain⟨D3,D4,z2,e1,e2⟩:=(Y.o.keep (w':=w7) (λg hg=>C.o.block g (Y.o.lt hg).2)).cs;injection e1 with i1 i2 i3
  subst i1 i3;have:=zbp y bo z2 0 bc (bsL l.2) fl w7 (by rw[Xc];omega) o9 v5 e2
  rw[v6,v4,t7.o,HR.o]at this;rw[t7.o];exact this
 go_wp2_with fail;rw[A1.o];have v0:=ld6 m4.o rfl;obtain⟨q0,q1,q2,q3,q4,q5⟩:=v0;go_wp2_with fail;refine i0.o.mono ?_;rintro e w8 ⟨m0,o,m8,k8,rfl,g9,h5⟩;have b3:Hd _:=m0;have d8:Hd _:=g9;have a9:Hd _:=h5;have D1:=m0.size;have D2:=z4.o;have g1:w8.cell? ⟨w1.heap.size,1,G⟩=N (.string l.2):=by
  rw[cell_of_row _ _ _ _ _ _ ((b3.o.block _ ol).trans ((C.o.block _ ol).trans n0.o))];rfl
 have C6:w1.heap.size<w8.heap.size:=ol;obtain⟨w9,c3⟩:∃w9,w8.alloc (.cells #[.slice o m8 k8,J Z R.2.2.1,J Z R.2.2.2] 42)=w9:=⟨_,rfl⟩;have A0:Hd _:=c3;have z3:Hd (w9.heap.size=w8.heap.size+1):=by show _=_;rw[<-c3];simp
 have b2:Hd (Below w8.heap.size w8 w9):=by rw[<-c3];exact(Below.refl _ _).alloc (Nat.le_refl _) _
 have u0:Hd (w9.heap[w8.heap.size]?=N (.cells #[.slice o m8 k8,J Z R.2.2.1,J Z R.2.2.2] 42 (0,0))):=by rw[<-c3];exact heap_alloc_new w8 _
 have z:Hd (Below w6.heap.size w6 w9):=C.o.trans ((b3.o.mono ol).trans (b2.o.mono ol));have s4:Hd (w9.heap[w6.heap.size]?=N (.cells #[J Z x.a,J Z x.b,J Z x.d,.slice b6 x.dl cd,.slice b7 x.al.length ca,.slice op x.pl cp] 31 (0,0))):=(b2.o.block _ ol).trans ((b3.o.block _ ol).trans m4.o);clear m0 g9 h5 c3 q0 q1 q2 q3 q4 q5 i0;have r9:Hd (Calls I 68 #[.slice bo (bsL l.2).length bc,.string l.2] w9 λe w'=>e=.returned (.bool M)/\w9.grownBy w' (Value.slice bo (bsL l.2).length bc).ownBlock):=xn w4.heap.size _ l.2 w9 ol (Y.o.keep (λg hg=>z.o.block g (Y.o.lt hg).2));go_wp2_with fail;rw[A0.o];refine r9.o.mono ?_;rintro e v ⟨rfl,a7⟩;have C2:=z3.o;have B9:=a7.size;have t:Hd (∀b,b<w9.heap.size->b<w4.heap.size\/w5.heap.size<=b->v.heap[b]?=w9.heap[b]?):=λb hb h=>a7.block b hb (λe=>by have:=s3.o _ e.symm;omega)
 have a6:Hd (Below w.heap.size w v):=(e7.o.trans (z.o.mono ol)).grown a7 ol (λg hg=>by have:=s3.o g hg;omega);have d6:Hd (v.heap[w2.heap.size]?=N (.cells #[J Z x.a,J Z x.b,J Z x.d,.slice x.do_ x.dl x.dc,.slice x.ao x.al.length x.ac,.slice x.po x.pl x.pcp] 31 (0,0))):=(t.o _ ol ol).trans ((z.o.block _ ol).trans s2.o);have h9:Hd (v.heap[w6.heap.size]?=N (.cells #[J Z x.a,J Z x.b,J Z x.d,.slice b6 x.dl cd,.slice b7 x.al.length ca,.slice op x.pl cp] 31 (0,0))):=(t.o _ ol ol).trans s4.o;have j0:Hd (v.heap[w8.heap.size]?=N (.cells #[.slice o m8 k8,J Z R.2.2.1,J Z R.2.2.2] 42 (0,0))):=(t.o _ ol ol).trans u0.o;have i7:Hd (v.heap[w1.heap.size]?=N (.cells #[.string l.1,.string l.2] 124 (0,0))):=(t.o _ ol ol).trans ((z.o.block _ ol).trans n0.o);have r8:Hd (Calls I 69 #[.agg #[J Z x.a,J Z x.b,J Z x.d,.slice b6 x.dl cd,.slice b7 x.al.length ca,.slice op x.pl cp],.slice om x.al.length cm,.agg #[J Z x.a,J Z x.b,J Z x.d,.slice x.do_ x.dl x.dc,.slice x.ao x.al.length x.ac,.slice x.po x.pl x.pcp]] v λe w'=>e=.returned (.bool M)/\Below w5.heap.size v w'/\∀b,w6.heap.size<=b->b<v.heap.size->w'.heap[b]?=v.heap[b]?):=xm w5.heap.size w6.heap.size x _ _ _ _ t1 t2 v (E.o.below a6.o) (λh=>by have:=E.o.is_.lt h;omega) (λh=>by have:=E.o.ts.lt h;omega) ((E.o.as_.of_kept (λb hb=>a6.o.block b hb)).wide ol) ol a3.o.1 a3.o.2.1 a3.o.2.2 (m7.o.keep ol (λh=>by have:=i8.o h;rw[t.o _ ol ol];exact z.o.block _ ol) (λb h1 h2=>by rw[t.o _ ol ol];exact z.o.block _ h2));obtain⟨q0,q1,q2,q3,q4,q5⟩:=ld6 d6.o rfl;obtain⟨r0,r1,r2,r3,r4,r5⟩:=ld6 h9.o rfl;clear a7 g1 Y n0 s2 s4 m4 u0 m7 r9;go_wp2_with fail;refine r8.o.mono ?_;rintro e D ⟨rfl,B,d2⟩;have z1:=B.size;have C0:Hd _:=B;have a5:Hd (Below w.heap.size w D):=a6.o.trans (B.mono ol);have a8:Hd (D.heap[w2.heap.size]?=N (.cells #[J Z x.a,J Z x.b,J Z x.d,.slice x.do_ x.dl x.dc,.slice x.ao x.al.length x.ac,.slice x.po x.pl x.pcp] 31 (0,0))):=(B.block _ ol).trans d6.o;have f3:Hd (D.heap[w8.heap.size]?=N (.cells #[.slice o m8 k8,J Z R.2.2.1,J Z R.2.2.2] 42 (0,0))):=(d2 _ ol ol).trans j0.o;have e6:Hd (D.heap[w1.heap.size]?=N (.cells #[.string l.1,.string l.2] 124 (0,0))):=(B.block _ ol).trans i7.o;have F:Hd (R.1=0->m8=R.2.1.length/\D.ownsRow w.heap.size 3 1 (.slice o m8 k8) R.2.1.length (R.2.1.map (J Z))):=λh=>⟨(a9.o h).1,yC (zd (a9.o h).2 (λg hg=>by
  have C9:=(a9.o h).2.lt g hg;rw[d2 g ol ol,t.o g ol ol,b2.o.block g ol])) ol⟩
 obtain⟨u7,u6,u5,u4,u3,u2⟩:=ld6 a8.o rfl;clear B d2 d6 h9 j0 i7 r8 a9 q0 q1 q2 q3 q4 q5 r0 r1 r2 r3 r4 r5 t z b2 b3 C;have s7:Hd (Calls I 70 #[.agg #[J Z x.a,J Z x.b,J Z x.d,.slice x.do_ x.dl x.dc,.slice x.ao x.al.length x.ac,.slice x.po x.pl x.pcp]] D λe w'=>e=.returned (.bool x.right)/\Below D.heap.size D w'):=jx x D (E.o.below a5.o) a3.o.1;go_wp2_with fail;refine s7.o.mono ?_;rintro e Q ⟨rfl,A⟩;have q:Hd _:=a5.o.trans (A.mono a5.o.size);have h8:Hd _:=(A.block _ (lt_of_block a8.o)).trans a8.o;have i9:Hd _:=(A.block _ (lt_of_block f3.o)).trans f3.o;have i6:Hd _:=(A.block _ (lt_of_block e6.o)).trans e6.o;have d9:Hd (R.1=0->m8=R.2.1.length/\Q.ownsRow w.heap.size 3 1 (.slice o m8 k8) R.2.1.length (R.2.1.map (J Z))):=λh=>⟨(F.o h).1,zd (F.o h).2 (λg hg=>A.block g ((F.o h).2.lt g hg).2)⟩
 clear A a8 f3 e6 F s7 u7 u6 u5 u4 u3 u2;obtain⟨y0,y1,y2,_,_,_⟩:=ld3 i9.o;have g0:Q.cell? ⟨w1.heap.size,0,G⟩=N (.string l.1):=by rw[cell_of_row _ _ _ _ _ _ i6.o];rfl
 have g1:Q.cell? ⟨w1.heap.size,1,G⟩=N (.string l.2):=by rw[cell_of_row _ _ _ _ _ _ i6.o];rfl
 have t3:Hd (R=(9,[],0,0)\/x.right=M/\0<=fl):=by
  rw[<-HR.o];unfold WD.ru ruF;by_cases hf:fl<0
  ·exact .inl (if_pos hf)
  ·cases hq:x.right with
   |true=>exact .inr ⟨rfl,ol⟩
   | false =>
    have x3:Zr x.a x.b x.d x.V x.L x.R x.pl=U:=hq;exact .inl (by rw[if_neg hf,x3];rfl)
 by_cases k6:x.right=M/\0<=fl
 ·obtain⟨k1,p3⟩:=k6;have B7:¬fl<0:=ol;obtain⟨k,C8,C7,k5,k4⟩:=Jl (x:=x) i4.o k1;have k9:=A5.o;by_cases y4:fl<k
  ·have hR:R=(11,[],0,0):=HR.o.symm.trans (k5 fl p3 y4);have C5:fl<(l.2.size:Int):=ol;subst hR;obtain⟨rfl,rfl,rfl⟩:=d8.o oq;clear k5 k4 HR;go_wp2_with fail;refine(yq _).mono ?_;rintro e u ⟨rfl,f⟩;have a2:Hd _:=q.o.trans (f.mono q.o.size);clear f;go_wp2_with fail;go_ret;exact QyT.below H.o a2.o
  ·have hR:R=(0,x.an l.1):=HR.o.symm.trans (k4 fl ol);obtain⟨_,_,_,_,q7,r6⟩:=zgg (x:=x) i4.o k1;subst hR;obtain⟨o5,c5⟩:=d9.o rfl;have o0:(x.an l.1).1=(x.mn l.1).sv:=rfl;have A3:Hd (Calls I 72 #[.string l.1,.agg #[J Z x.a,J Z x.b,J Z x.d,.slice x.do_ x.dl x.dc,.slice x.ao x.al.length x.ac,.slice x.po x.pl x.pcp]] Q (ZV Q.heap.size Q (x.mn l.1))):=J0 l.1 x Q t6.o (E.o.below q.o) k1;simp only at y1 y2;rw[q7]at y1;rw[r6]at y2;simp only[o0]at o5 c5;subst o5;generalize x.mn l.1=mm at *;have d7:Hd (Q.ownsRow w.heap.size 3 1 (.slice o mm.sv.length k8) mm.sv.length (mm.sv.map (J Z))):=c5;obtain⟨q0,q1,q2,q3,q4,q5⟩:=ld6 h8.o rfl;have B3:=lt_of_block h8.o;have f6:=lt_of_block i9.o;clear k5 k4 HR q7 r6 o0 c5 d9 d8;rcases Decidable.em (fl<(l.2.size:Int))with hfs|hfs
   all_goals
    go_wp2_with fail;refine A3.o.mono ?_;rintro e u ⟨f,o2,k2,g2,f2,rfl,d3,_⟩;have s:Hd (Below w.heap.size w u):=q.o.trans (f.mono q.o.size);have p0:=(f.cell (p:=⟨w8.heap.size,0,G⟩) f6).trans y0;have p1:=(f.cell (p:=⟨w8.heap.size,1,G⟩) f6).trans y1;have p2:=(f.cell (p:=⟨w8.heap.size,2,G⟩) f6).trans y2;have B4:w8.heap.size<u.heap.size:=Nat.lt_of_lt_of_le f6 f.size;have b9:Below u.heap.size u (u.alloc (.cells #[.slice o2 mm.sv.length k2,J Z mm.ttl,J Z mm.sc] 42)):=(Below.refl _ _).alloc (Nat.le_refl _) _;have A7:Hd (Calls I 73 #[.pointer (N ⟨SB,0,G⟩),.agg #[.slice o mm.sv.length k8,J Z mm.ttl,J Z mm.sc],.agg #[.slice o2 mm.sv.length k2,J Z mm.ttl,J Z mm.sc]] (u.alloc (.cells #[.slice o2 mm.sv.length k2,J Z mm.ttl,J Z mm.sc] 42)) (AnK base SB n (.slice (N ⟨wb,r,G⟩) m b5) (.slice (N ⟨cg,0,G⟩) cs.length cc) sv iv bv cs bs w (u.alloc (.cells #[.slice o2 mm.sv.length k2,J Z mm.ttl,J Z mm.sc] 42)))):=xf base SB n _ _ sv iv bv cs is bs o o2 k8 k2 g2 f2 mm.sv mm.ttl mm.sc w _ hn H.o (s.o.trans (b9.mono s.o.size)) (zd d7.o (λg hg=>(b9.block g (Nat.lt_of_lt_of_le (d7.o.lt g hg).2 f.size)).trans (f.block g (d7.o.lt g hg).2))) (d3.below b9 d3.lt);have t8:Hd (Below w.heap.size w (u.alloc (.cells #[.slice o2 mm.sv.length k2,J Z mm.ttl,J Z mm.sc] 42))):=s.o.trans (b9.mono s.o.size);have t9:Hd (Below base w (u.alloc (.cells #[.slice o2 mm.sv.length k2,J Z mm.ttl,J Z mm.sc] 42))):=(s.o.trans (b9.mono s.o.size)).mono A6.o;clear f d3 b9;go_wp2_with fail;refine A7.o.mono ?_;rintro e u1 ⟨rfl,d5,u8,u9,o1,h0,h4⟩;have t5:Hd (QyT base SB n (.slice (N ⟨wb,r,G⟩) m b5) (.slice (N ⟨cg,0,G⟩) cs.length cc) sv iv bv cs bs w (.returned (.bool M)) u1):=⟨rfl,t9.o.trans d5,u8,u9,o1,λb h1 h2 h3=>(h0 b h1 h2 h3).trans (t8.o.block b h1),h4,Nat.le_trans t8.o.size d5.size⟩;clear d5 o1 h0 h4;go_wp2_with fail;go_ret;exact t5.o
 ·have hR:R=(9,[],0,0):=by rcases t3.o with h|h;exact h;exact absurd h k6
  subst hR;obtain⟨rfl,rfl,rfl⟩:=d8.o oq;clear HR t3;cases hq:x.right with
  | false =>
   go_wp2_with fail;refine(yq _).mono ?_;rintro e u ⟨rfl,f⟩;have a2:Hd _:=q.o.trans (f.mono q.o.size);clear f;go_wp2_with fail;go_ret;exact QyT.below H.o a2.o
  | true =>
   have p3:fl<0:=(by rcases Int.lt_or_le fl 0 with h|h;exact h;exact absurd ⟨hq,h⟩ k6);go_wp2_with fail;refine(yq _).mono ?_;rintro e u ⟨rfl,f⟩;have a2:Hd _:=q.o.trans (f.mono q.o.size);clear f;go_wp2_with fail;go_ret;exact QyT.below H.o a2.o
end Go.Proofs.YtaebngpoagjafabGreat
