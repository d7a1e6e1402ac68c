import Derived.Test.YtaebngpoagjafabGreatQ46
set_option maxRecDepth 100000
set_option maxHeartbeats 6400000
namespace Go.Proofs.YtaebngpoagjafabGreat
open Option renaming none → F,some → N
open Proofs.Tryz renaming prog → S
open Proofs.Tryz
open Obj renaming cells → U
open Value renaming int → J, slice → O
open IntKind renaming i64 → Z
open Go.RowKit
attribute [local go_sem ↓] Go.wp_at_zero Go.wp_at_succ
theorem LnP.typ{B:Nat}{w:World}{o:Option Addr}{v:Value}{n:Nat}{V L R:Nat->Int}(h:LnP B w o v n V L R){g:Nat}(a:v.ownBlock=N g):∃cs fr,w.heap[g]?=N (U cs 96 fr):=by
 rcases h with⟨_,rfl,_⟩|⟨ad,g',f,_,rfl,_,⟨c,hc,_⟩,_⟩
 ·cases a
 ·cases a;exact⟨c,_,hc⟩
theorem Jb(SB:Nat)(p:PrS)(r:World)(wo:Option Addr)(wb f m e6:Nat)(X:Nat->WD)(oa l oc od:Int)(os:ByteArray)(w:World)(h:Zb w (λ_=>True) p)(hw:WsS r w SB wo wb f m e6 X)(hm:0<m)(h4:r.heap.size<=p.B)(h3:r.heap.size<=p.R)(c0:-9223372036854775808<=l)(c1:l<=9223372036854775807):
 Calls S 37 #[.pointer (N ⟨SB,0,F⟩),.agg #[.pointer (N ⟨p.B,0,F⟩),.pointer (N ⟨p.R,0,F⟩)],.agg #[J Z 11,J Z oa,J Z l,J Z oc,J Z od,.string os]] w (TlT p w):=by
 obtain⟨f2,f3⟩:=x9 w p.B p.R (opC 11 oa l oc od os);have c7:Hd (BxS w ((w.alloc (U #[.pointer (N ⟨p.B,0,F⟩),.pointer (N ⟨p.R,0,F⟩)] 88)).alloc (U #[J Z 11,J Z oa,J Z l,J Z oc,J Z od,.string os] 53)) p.B p.R (opC 11 oa l oc od os)):=f2;have b8:Hd (Below w.heap.size w ((w.alloc (U #[.pointer (N ⟨p.B,0,F⟩),.pointer (N ⟨p.R,0,F⟩)] 88)).alloc (U #[J Z 11,J Z oa,J Z l,J Z oc,J Z od,.string os] 53))):=f3;have H:Hd _:=h;have HW:Hd _:=hw;have i9:=h.sv.lt;have i7:=h.rf.lt;have s0:=hw.s0;have g9:=hw.sl;obtain rfl:=hw.xs.at_ hm;have b9:wb<r.heap.size:=hw.xs.lt hm;have i2:wb<w.heap.size:=Nat.lt_of_lt_of_le b9 hw.bel.size;have i5:=hw.sz;have f0:((m:Int)==0)=false:=by rw[beq_eq_false_iff_ne];omega
 clear h hw f2 f3;go_enter func37,ntmps37;go_upto_region 19 with fail
 have a5:=(b8.o.cell (p:=⟨SB,0,F⟩) g9).trans s0;have c4:Hd (((w.alloc (U #[.pointer (N ⟨p.B,0,F⟩),.pointer (N ⟨p.R,0,F⟩)] 88)).alloc (U #[J Z 11,J Z oa,J Z l,J Z oc,J Z od,.string os] 53)).heap.size=w.heap.size+2):=sw;generalize((w.alloc (U #[.pointer (N ⟨p.B,0,F⟩),.pointer (N ⟨p.R,0,F⟩)] 88)).alloc (U #[J Z 11,J Z oa,J Z l,J Z oc,J Z od,.string os] 53))=w2 at *;clear s0;have c3:(0:Int)<(m:Int):=ol;obtain⟨u,f1⟩:∃u:Nat,pkF l m=(u:Int):=⟨(pkF l m).toNat,by have:=(Z7 (c:=l) c3).1;omega⟩;have a7:u<m:=by have:=(Z7 (c:=l) c3).2;omega
 have g8:(u:Int)<(m:Int):=ol;have g1:Hd (∀wz,Calls S 31 #[J Z l,J Z m] wz λe w'=>e=.returned (J Z u)/\w'=wz):=λwz=>by have:=YF l m wz c0 c1 c3 ol;rw[f1]at this;exact this
 clear f1;obtain⟨x,b0⟩:∃x,X u=x:=⟨_,rfl⟩;have Y:Hd (x.In r):=by rw[<-b0];exact HW.o.xs.in_ u a7
 have b4:Hd (x.pl*24<=140737488351232/\x.dl*8<=140737488351232/\x.al.length*24<=140737488351232):=by rw[<-b0];exact HW.o.xs.sz u a7
 have b7:Hd (Below r.heap.size r w2):=HW.o.bel.trans (b8.o.mono HW.o.bel.size);have a2:Hd (∀j,j<6->w2.cell? ⟨wb,f+u*6+j,F⟩=[J Z x.a,J Z x.b,J Z x.d,O x.do_ x.dl x.dc,O x.ao x.al.length x.ac,O x.po x.pl x.pcp][j]?):=λj hj=>by rw[b7.o.cell (p:=⟨wb,f+u*6+j,F⟩) b9,<-b0];exact HW.o.xs.c u a7 j hj
 have e0:=a2.o 0 ol;have e1:=a2.o 1 ol;have e2:=a2.o 2 ol;have e3:=a2.o 3 ol;have e4:=a2.o 4 ol;have e5:=a2.o 5 ol;simp only[List.getElem?_cons_succ,List.getElem?_cons_zero,Nat.add_zero]at e0 e1 e2 e3 e4 e5;have q3:w2.cell? ⟨w.heap.size+1,2,F⟩=N (J Z l):=by rw[cell_of_row _ _ _ _ _ _ c7.o.ob];rfl
 clear b0 a2;have i3:wb<w2.heap.size:=by have:=c4.o;omega
 have i6:SB<w2.heap.size:=by have:=c4.o;omega
 have i8:w.heap.size+1<w2.heap.size:=by have:=c4.o;omega
 go_cut [18] (λs6 wx=>s6=.pointer (N ⟨w2.heap.size,0,F⟩)/\Below w2.heap.size w2 wx/\wx.heap[w2.heap.size]?=N (U #[J Z x.a,J Z x.b,J Z x.d,O x.do_ x.dl x.dc,O x.ao x.al.length x.ac,O x.po x.pl x.pcp] 31 (0,0)))
 case first =>
  go_region_held3 (λw'=>w'.cell? ⟨SB,0,F⟩=N (O (N ⟨wb,f,F⟩) m e6)/\w'.cell? ⟨w.heap.size+1,2,F⟩=N (J Z l)/\w'.cell? ⟨wb,f+u*6,F⟩=N (J Z x.a)/\w'.cell? ⟨wb,f+u*6+1,F⟩=N (J Z x.b)/\w'.cell? ⟨wb,f+u*6+2,F⟩=N (J Z x.d)/\w'.cell? ⟨wb,f+u*6+3,F⟩=N (O x.do_ x.dl x.dc)/\w'.cell? ⟨wb,f+u*6+4,F⟩=N (O x.ao x.al.length x.ac)/\w'.cell? ⟨wb,f+u*6+5,F⟩=N (O x.po x.pl x.pcp)) (first|(exact⟨a5,q3,e0,e1,e2,e3,e4,e5⟩)|(exact⟨zx a5 _,zx q3 _,zx e0 _,zx e1 _,zx e2 _,zx e3 _,zx e4 _,zx e5 _⟩)|go_keep) (first|(go_at_call 31;refine(g1.o _).mono ?_;rintro e w' ⟨rfl,i4⟩;subst w'))
  all_goals
   go_wp2_with fail;go_meet
   exact⟨rfl,((Below.refl _ _).alloc (Nat.le_refl _) _).drew,heap_alloc_new w2 _⟩
 case rest =>
 obtain⟨rfl,a8,b1⟩:=hcut;obtain⟨k,g6⟩:∃k,k=wc:=⟨_,rfl⟩;subst g6;have q:Hd (Below w.heap.size w k):=b8.o.trans (a8.mono b8.o.size);have f4:Hd (BxS w k p.B p.R (opC 11 oa l oc od os)):=c7.o.keep (λb _ h2=>a8.block b h2);have f5:Hd _:=b1;have b6:Hd (Below r.heap.size r k):=b7.o.trans (a8.mono b7.o.size);have i1:=a8.size;have h5:w2.heap.size<k.heap.size:=lt_of_block b1;have d3:k.cell? ⟨w2.heap.size,5,F⟩=N (O x.po x.pl x.pcp):=by rw[cell_of_row _ _ _ _ _ _ b1];rfl
 have g3:Hd (Calls S 80 #[O x.po x.pl x.pcp] k λe w'=>(∃v,e=.returned v/\LnP k.heap.size w' x.po v x.pl x.V x.L x.R)/\Below k.heap.size k w'):=xu x.po x.pb x.poff x.pl x.pcp x.V x.L x.R k b4.o.1 (Y.o.ts.below b6.o);clear a8 b1 e0 e1 e2 e3 e4 e5 q3 a5 g1 c7 b7 f0;go_wp2_with fail;refine g3.o.mono ?_;rintro e w4 ⟨⟨v,rfl,hv⟩,K⟩;obtain⟨E,P,g,g7,c2⟩:=hv.ts;have d0:Hd (LnP k.heap.size w4 x.po v x.pl x.V x.L x.R):=hv;have f8:Hd (TS w4 E g 0 x.pl x.V x.L x.R):=c2;have b5:Hd (Zb w4 (λb=>v.ownBlock≠N b) p):=by
  have hb:Below w.heap.size w w4:=q.o.trans (K.mono q.o.size);exact(H.o.wk (λb _ hl e=>by have:=(hv.lt e).1;have:=q.o.size;omega)).below hb
 have d9:Hd (Below w.heap.size w w4):=q.o.trans (K.mono q.o.size);have c6:Hd (BxS w w4 p.B p.R (opC 11 oa l oc od os)):=f4.o.keep (λb _ h2=>K.block b h2);have b2:Hd _:=(K.block _ h5).trans f5.o;have d7:Hd (Below r.heap.size r w4):=b6.o.trans (K.mono b6.o.size);have f6:Hd (∀b,w4.heap.size<=b->v.ownBlock≠N b):=λb hb e=>by have:=(hv.lt e).2;omega
 have j1:=K.size;subst g7;clear hv c2 K g3 d3 f4 b6 f5;have a0:w4.cell? ⟨w.heap.size,0,F⟩=N (.pointer (N ⟨p.B,0,F⟩)):=by rw[cell_of_row _ _ _ _ _ _ c6.o.pb];rfl
 go_wp2_with fail;cases hok:yU x.V x.L x.R x.pl with
 | true =>
  have d5:Hd (yU x.V x.L x.R x.pl=true):=hok;have g5:Hd (Calls S 20 #[.pointer (N ⟨p.B,0,F⟩),O E x.pl P] w4 λe w'=>e=.returned (J Z 0)/\Below p.B w4 w'/\Kp p.B w4 w'/\SV w' (λb=>(O E x.pl P).ownBlock≠N b) p.B p.C p.dn p.al x.V x.L x.R x.pl):=b5.o.sv.locateC f8.o d5.o f6.o;clear hok;refine g5.o.mono ?_;rintro e t ⟨rfl,i,y,e8⟩;have c5:Hd (BxS w t p.B p.R (opC 11 oa l oc od os)):=c6.o.keep (λb h1 h2=>y.block b ol h2);have Q:Hd _:=(y.block _ ol (lt_of_block b2.o)).trans b2.o;have a4:Hd (Below r.heap.size r t):=d7.o.trans (i.mono h4);obtain⟨cb,fb,I⟩:=b5.o.sv.blk;have a6:=b5.o.rf.other I y;have b3:Hd (LnP k.heap.size t x.po (O E x.pl P) x.pl x.V x.L x.R):=d0.o.keep (λg hg=>by
   obtain⟨c9,f9,h9⟩:=d0.o.typ hg;exact y.block g (zJ h9 I oq) (lt_of_block h9))
  have h8:Hd (ChS p.B p.R p.A w t):=(ChS.below d9.o).trans (ChS.kpB i y);have f7:Hd _:=e8;have d1:Hd _:=a6;have g0:Hd (Calls S 81 #[.pointer (N ⟨p.R,0,F⟩),O x.po x.pl x.pcp] t λe w'=>e=.returned (J Z 0)/\Below p.R t w'/\Kp p.R t w'/\RfV w' (λb=>(O E x.pl P).ownBlock≠N b) p.R p.A p.s p.D p.al x.V x.L x.R x.pl):=zao a6 x.po x.pb x.poff x.pl x.pcp x.V x.L x.R (Y.o.ts.below a4.o) d5.o (λb hb=>f6.o b (Nat.le_trans y.size hb));have j0:=y.size;clear i y e8 I a6 g5;have a1:t.cell? ⟨w.heap.size,1,F⟩=N (.pointer (N ⟨p.R,0,F⟩)):=by rw[cell_of_row _ _ _ _ _ _ c5.o.pb];rfl
  have d3:t.cell? ⟨w2.heap.size,5,F⟩=N (O x.po x.pl x.pcp):=by rw[cell_of_row _ _ _ _ _ _ Q.o];rfl
  go_wp2_with fail;refine g0.o.mono ?_;rintro e z ⟨rfl,n,a3,e9⟩;have c8:Hd _:=(a3.block _ ol (lt_of_block Q.o)).trans Q.o;have W:Hd (LnP k.heap.size z x.po (O E x.pl P) x.pl x.V x.L x.R):=b3.o.keep (λg hg=>by
   have h9:=b3.o.lt hg;exact a3.block g ol h9.2)
  have h7:Hd (ChS p.B p.R p.A w z):=h8.o.trans (ChS.kpR n a3);have d6:Hd (TS z x.po x.pb x.poff x.pl x.V x.L x.R):=Y.o.ts.below (a4.o.trans (n.mono h3));have d4:Hd (Zb z (λb=>(O E x.pl P).ownBlock≠N b) { p with V:=x.V,L:=x.L,Rg:=x.R,pl:=x.pl }):=by
   obtain⟨cr,fr,hr⟩:=d1.o.blk;exact⟨f7.o.other hr (λg hg=>d1.o.ablk hg) a3.size (λb e1 _ hl=>a3.block b e1 hl),e9,H.o.st,H.o.dd,d5.o⟩
  have e7:r.heap.size<=k.heap.size:=by have:=HW.o.bel.size;have:=q.o.size;omega
  have a9:Hd (Calls S 82 #[O E x.pl P,O x.po x.pl x.pcp] z λe w'=>e=.returned (.bool true)/\z.grownBy w' (O E x.pl P).ownBlock):=Z5 k.heap.size (O E x.pl P) x.po x.pb x.poff x.pl x.pcp x.V x.L x.R z b4.o.1 d6.o (λh0=>by have:=Y.o.ts.lt h0;omega) W.o;clear n a3 e9 g0 d1 f7 d3;have d3:z.cell? ⟨w2.heap.size,5,F⟩=N (O x.po x.pl x.pcp):=by rw[cell_of_row _ _ _ _ _ _ c8.o];rfl
  go_wp2_with fail;refine a9.o.mono ?_;rintro e w7 ⟨rfl,G⟩;have d2:Hd _:=d4.o.grown G (.inr rfl) (λg hg=>W.o.typ hg);have d8:Hd (ChS p.B p.R p.A w w7):=h7.o.grown G (λg hg=>by have:=(W.o.lt hg).1;have:=q.o.size;omega);clear G a9;go_wp2_with fail;go_ret;exact⟨rfl,d8.o,_,d2.o,rfl,rfl,.inl rfl⟩
 | false =>
  have g2:Hd (yU x.V x.L x.R x.pl=false):=hok;clear hok;refine(zcf p.B E g 0 x.pl P x.V x.L x.R w4 f8.o g2.o).mono ?_;rintro e t ⟨rfl,i⟩;have c5:Hd (BxS w t p.B p.R (opC 11 oa l oc od os)):=c6.o.keep (λb _ h2=>i.block b h2);have Q:Hd _:=(i.block _ (lt_of_block b2.o)).trans b2.o;have a4:Hd (Below r.heap.size r t):=d7.o.trans (i.mono d7.o.size);have h6:Hd _:=b5.o.below i;have b3:Hd (LnP k.heap.size t x.po (O E x.pl P) x.pl x.V x.L x.R):=d0.o.below i;have g4:Hd (Below w.heap.size w t):=d9.o.trans (i.mono d9.o.size);clear i;have a1:t.cell? ⟨w.heap.size,1,F⟩=N (.pointer (N ⟨p.R,0,F⟩)):=by rw[cell_of_row _ _ _ _ _ _ c5.o.pb];rfl
  have d3:t.cell? ⟨w2.heap.size,5,F⟩=N (O x.po x.pl x.pcp):=by rw[cell_of_row _ _ _ _ _ _ Q.o];rfl
  go_wp2_with fail;refine(zap p.R x.po x.pb x.poff x.pl x.pcp x.V x.L x.R t b4.o.1 (Y.o.ts.below a4.o) g2.o).mono ?_;rintro e z ⟨rfl,n⟩;have c8:Hd _:=(n.block _ (lt_of_block Q.o)).trans Q.o;have d6:Hd (TS z x.po x.pb x.poff x.pl x.V x.L x.R):=Y.o.ts.below (a4.o.trans (n.mono a4.o.size));have d4:Hd _:=h6.o.below n;have W:Hd (LnP k.heap.size z x.po (O E x.pl P) x.pl x.V x.L x.R):=b3.o.below n;have i0:Hd (Below w.heap.size w z):=g4.o.trans (n.mono g4.o.size);clear n d3;have d3:z.cell? ⟨w2.heap.size,5,F⟩=N (O x.po x.pl x.pcp):=by rw[cell_of_row _ _ _ _ _ _ c8.o];rfl
  have e7:r.heap.size<=k.heap.size:=by have:=HW.o.bel.size;have:=q.o.size;omega
  have a9:Hd (Calls S 82 #[O E x.pl P,O x.po x.pl x.pcp] z λe w'=>e=.returned (.bool true)/\z.grownBy w' (O E x.pl P).ownBlock):=Z5 k.heap.size (O E x.pl P) x.po x.pb x.poff x.pl x.pcp x.V x.L x.R z b4.o.1 d6.o (λh0=>by have:=Y.o.ts.lt h0;omega) W.o;go_wp2_with fail;refine a9.o.mono ?_;rintro e w7 ⟨rfl,G⟩;have d2:Hd _:=d4.o.grown G (.inr rfl) (λg hg=>W.o.typ hg);have d8:Hd (ChS p.B p.R p.A w w7):=(ChS.below i0.o).grown G (λg hg=>by have:=(W.o.lt hg).1;have:=q.o.size;omega);clear G a9;go_wp2_with fail;go_ret;exact⟨rfl,d8.o,_,d2.o,rfl,rfl,.inl rfl⟩
theorem Jq(base SB n:Nat)(wv cv sv iv bv:Value)(cs:List (ByteArray×ByteArray))(is bs:List Value)(p:PrS)(kk oa t r q:Int)(os:ByteArray)(w:World)(hn:(n+1)*56<=140737488355328)(b6:ST w base SB n wv cv sv iv bv cs is bs)(h:Zb w (λ_=>True) p):
 Calls S 36 #[.pointer (N ⟨SB,0,F⟩),.agg #[.pointer (N ⟨p.B,0,F⟩),.pointer (N ⟨p.R,0,F⟩)],.agg #[J Z kk,J Z oa,J Z t,J Z r,J Z q,.string os]] w (QyT base SB n wv cv sv iv bv cs bs w):=by
 have H:Hd _:=h;have G:Hd _:=b6;obtain⟨c1,c2⟩:=x9 w p.B p.R (opC kk oa t r q os);have c5:Hd (BxS w ((w.alloc (U #[.pointer (N ⟨p.B,0,F⟩),.pointer (N ⟨p.R,0,F⟩)] 88)).alloc (U #[J Z kk,J Z oa,J Z t,J Z r,J Z q,.string os] 53)) p.B p.R (opC kk oa t r q os)):=c1;have K:Hd (Below w.heap.size w ((w.alloc (U #[.pointer (N ⟨p.B,0,F⟩),.pointer (N ⟨p.R,0,F⟩)] 88)).alloc (U #[J Z kk,J Z oa,J Z t,J Z r,J Z q,.string os] 53))):=c2;obtain⟨Q,a8⟩:∃Q,Hd (quF t r q p.dn ((List.range 16).map p.al) p.V p.L p.Rg p.pl p.C=Q):=⟨_,rfl⟩;have HQ:Hd (∀wz,Below w.heap.size w wz->Calls S 12 #[.pointer (N ⟨p.B,0,F⟩),J Z t,J Z r,J Z q] wz (qh wz Q)):=λwz hb=>by
  have:=(H.o.sv.below hb).queryC t r q
  rw[a8.o]at this;exact this
 clear h b6 c1 c2;go_enter func36,ntmps36;go_wp2_with fail;refine(HQ.o _ K.o).mono ?_;rintro e i ⟨a3,o,m,k,rfl,b7,a2⟩;have c7:Hd (Below w.heap.size w i):=K.o.trans (a3.mono K.o.size);have E:Hd (BxS w i p.B p.R (opC kk oa t r q os)):=c5.o.keep (λb _ h2=>a3.block b h2);have P:Hd _:=b7;have b0:Hd (Q.1=0->m=Q.2.1.length/\i.ownsRow w.heap.size 3 1 (O o m k) Q.2.1.length (Q.2.1.map (J Z))):=λh=>⟨(a2 h).1,yC (a2 h).2 K.o.size⟩
 clear a3 b7 a2 c5 K;have a1:i.cell? ⟨w.heap.size,1,F⟩=N (.pointer (N ⟨p.R,0,F⟩)):=by rw[cell_of_row _ _ _ _ _ _ E.o.pb];rfl
 have b2:i.cell? ⟨w.heap.size+1,2,F⟩=N (J Z t):=by rw[cell_of_row _ _ _ _ _ _ E.o.ob];rfl
 have b3:i.cell? ⟨w.heap.size+1,3,F⟩=N (J Z r):=by rw[cell_of_row _ _ _ _ _ _ E.o.ob];rfl
 have b4:i.cell? ⟨w.heap.size+1,4,F⟩=N (J Z q):=by rw[cell_of_row _ _ _ _ _ _ E.o.ob];rfl
 have d2:=lt_of_block E.o.ob;have d1:w.heap.size<i.heap.size:=ol;have l:Hd (Below w.heap.size w (i.alloc (U #[O o m k,J Z Q.2.2.1,J Z Q.2.2.2] 42))):=c7.o.alloc c7.o.size _;have X:Hd ((i.alloc (U #[O o m k,J Z Q.2.2.1,J Z Q.2.2.2] 42)).heap[i.heap.size]?=N (U #[O o m k,J Z Q.2.2.1,J Z Q.2.2.2] 42 (0,0))):=heap_alloc_new _ _;have a9:Hd (Q.1=0->m=Q.2.1.length/\(i.alloc (U #[O o m k,J Z Q.2.2.1,J Z Q.2.2.2] 42)).ownsRow w.heap.size 3 1 (O o m k) Q.2.1.length (Q.2.1.map (J Z))):=λh=>⟨(b0.o h).1,(b0.o h).2.alloc _⟩
 have u:i.heap.size<(i.alloc (U #[O o m k,J Z Q.2.2.1,J Z Q.2.2.2] 42)).heap.size:=ot;have a7:Hd (RfV (i.alloc (U #[O o m k,J Z Q.2.2.1,J Z Q.2.2.2] 42)) (λ_=>True) p.R p.A p.s p.D p.al p.V p.L p.Rg p.pl):=H.o.rf.below l.o;clear b0 HQ;have d:=a8.o;clear a8;obtain⟨qe,qs,qt,qc⟩:=Q;simp only at X a9 l u a7 P⊢;cases hk:Zm t r q with
 | false =>
  have hQ:((qe,qs,qt,qc):Int×(List Int×Int×Int))=(9,[],0,0):=by rw[<-d];unfold quF;rw[if_neg (by rw[hk];decide)]
  simp only[Prod.mk.injEq]at hQ;obtain⟨rfl,rfl,rfl,rfl⟩:=hQ;clear d;obtain⟨rfl,rfl,rfl⟩:=P.o oq;have a6:Hd _:=zb2 p.R t r q (i.alloc (U #[O F 0 0,J Z 0,J Z 0] 42)) hk;clear hk;go_wp2_with fail;refine Calls.mono a6.o ?_;rintro e v ⟨rfl,a⟩;have j:Hd (Below w.heap.size w v):=l.o.trans (a.mono l.o.size);have c:=(a.block _ u).trans X.o;obtain⟨y0,y1,y2,_,_,_⟩:=ld3 c;have b8:=lt_of_block c;clear a c;go_wp2_with fail;refine(yq _).mono ?_;rintro e w5 ⟨rfl,f⟩;have b5:Hd (Below w.heap.size w w5):=by
   have h9:Below w.heap.size w (v.alloc (U #[O F 0 0,J Z 0,J Z 0] 42)):=j.o.alloc j.o.size _;exact h9.trans (f.mono h9.size)
  clear f;go_wp2_with fail;go_ret;exact QyT.below G.o b5.o
 | true =>
  by_cases hs:p.s=⟨#[]⟩
  ·have hC:p.C=[]:=by
    rcases H.o.st with⟨_,h⟩|⟨h,_⟩
    ·exact h
    ·exact absurd hs h
   have hQ:((qe,qs,qt,qc):Int×(List Int×Int×Int))=(12,[],0,0):=(by rw[<-d];unfold quF;rw[if_pos hk,hC];rfl);simp only[Prod.mk.injEq]at hQ;obtain⟨rfl,rfl,rfl,rfl⟩:=hQ;clear d;obtain⟨rfl,rfl,rfl⟩:=P.o oq;have a4:=a7.o;rw[hs]at a4;have a6:Hd _:=Jp a4 t r q hk;clear hk hs hC a4;go_wp2_with fail;refine Calls.mono a6.o ?_;rintro e v ⟨rfl,a⟩;have j:Hd (Below w.heap.size w v):=l.o.trans (a.mono l.o.size);have c:=(a.block _ u).trans X.o;obtain⟨y0,y1,y2,_,_,_⟩:=ld3 c;have b8:=lt_of_block c;clear a c;go_wp2_with fail;refine(yq _).mono ?_;rintro e w5 ⟨rfl,f⟩;have b5:Hd (Below w.heap.size w w5):=by
    have h9:Below w.heap.size w (v.alloc (U #[O F 0 0,J Z 0,J Z 0] 42)):=j.o.alloc j.o.size _;exact h9.trans (f.mono h9.size)
   clear f;go_wp2_with fail;go_ret;exact QyT.below G.o b5.o
  ·obtain⟨hE,hC⟩:cpE p.s=0/\p.C=cpX p.s:=by
    rcases H.o.st with⟨h,_⟩|⟨_,h⟩
    ·exact absurd h hs
    ·exact h
   obtain⟨x,e1,e2,e3,e4,e5,e6,e7,e8,e9,a5,z⟩:=zb1 a7.o t r q hk hs (Xs hE).1 H.o.pp;have c4:p.A=F->∀k,k<16->p.al k=[]:=λhA=>by
    obtain⟨_,_,_,_,_,h3,_⟩:=H.o.rf.ex;rcases h3 with⟨_,_,h⟩|⟨g,_,_,h,_⟩
    ·exact h
    ·rw[hA]at h;cases h
   have hQ:((qe,qs,qt,qc):Int×(List Int×Int×Int))=(0,(x.mn p.s).sv,(x.mn p.s).ttl,(x.mn p.s).sc):=by
    rw[<-d,hC,<-e1,<-e2,<-e3,<-e7,<-e8,<-e9,<-a5];exact zfe e4 e5 e6 c4 H.o.dd (by rw[e7,e8,e9,a5];exact H.o.pp) hE (by rw[e1,e2,e3];exact hk)
   have b1:Hd _:=z;clear d z e1 e2 e3 e4 e5 e6 e7 e8 e9 a5 c4 hE hC hs hk;generalize x.mn p.s=mm at *;simp only[Prod.mk.injEq]at hQ;obtain⟨rfl,rfl,rfl,rfl⟩:=hQ;obtain⟨hm,a0⟩:=a9.o rfl;subst hm;have I:Hd ((i.alloc (U #[O o mm.sv.length k,J Z mm.ttl,J Z mm.sc] 42)).ownsRow w.heap.size 3 1 (O o mm.sv.length k) mm.sv.length (mm.sv.map (J Z))):=a0;clear a0 a9 P;go_wp2_with fail;refine Calls.mono b1.o ?_;rintro e v ⟨a,o3,k3,g3,f3,rfl,y⟩;have j:Hd (Below w.heap.size w v):=l.o.trans (a.mono l.o.size);have c:=(a.block _ u).trans X.o;obtain⟨y0,y1,y2,_,_,_⟩:=ld3 c;have b8:=lt_of_block c;have c3:Below v.heap.size v (v.alloc (U #[O o3 mm.sv.length k3,J Z mm.ttl,J Z mm.sc] 42)):=(Below.refl _ _).alloc (Nat.le_refl _) _;have W:Hd (Below w.heap.size w (v.alloc (U #[O o3 mm.sv.length k3,J Z mm.ttl,J Z mm.sc] 42))):=j.o.alloc j.o.size _;have c8:Hd (Calls S 73 #[.pointer (N ⟨SB,0,F⟩),.agg #[O o mm.sv.length k,J Z mm.ttl,J Z mm.sc],.agg #[O o3 mm.sv.length k3,J Z mm.ttl,J Z mm.sc]] (v.alloc (U #[O o3 mm.sv.length k3,J Z mm.ttl,J Z mm.sc] 42)) (AnK base SB n wv cv sv iv bv cs bs w (v.alloc (U #[O o3 mm.sv.length k3,J Z mm.ttl,J Z mm.sc] 42)))):=xf base SB n wv cv sv iv bv cs is bs o o3 k k3 g3 f3 mm.sv mm.ttl mm.sc w _ hn G.o W.o ((zd I.o (λg hg=>a.block g (I.o.lt g hg).2)).alloc _) (y.below c3 y.lt);clear a c y c3 I;go_wp2_with fail;refine c8.o.mono ?_;rintro e w5 ⟨rfl,f,c9,d0,Y,b9,c0⟩;have c6:Hd (QyT base SB n wv cv sv iv bv cs bs w (.returned (.bool true)) w5):=⟨rfl,(W.o.mono (Nat.le_trans G.o.hB (Nat.le_of_lt G.o.lt))).trans f,c9,d0,Y,λb h1 h2 h3=>(b9 b h1 h2 h3).trans (W.o.block b h1),c0,Nat.le_trans W.o.size f.size⟩;clear f Y b9 c0 c8;go_wp2_with fail;go_ret;exact c6.o
section
def StS(base SB n:Nat)(wv cv bv:Value)(cs:List (ByteArray×ByteArray))(bs:List Value)(w:World)(e:Ending)(w':World):Prop :=
 e=.returned (.bool true)/\Below base w w'/\∃sv' iv' is' ps',ST w' base SB (n+1) wv cv sv' iv' bv cs is' bs/\SRV w' base sv' iv' ps'/\ps'.length<=n+1
theorem zgs:∀{a:List PrS} {i:Nat} {p:PrS},a[i]?=N p->(prL a)[i*2]?=N (.pointer (N ⟨p.B,0,F⟩))/\(prL a)[i*2+1]?=N (.pointer (N ⟨p.R,0,F⟩)):=by
 intro a;induction a with
 |nil=>intro i p h;simp at h
 | cons q a ih =>
  intro i p h;cases i with
  |zero=>simp at h;subst h;simp[prL]
  | succ i =>
   simp only[List.getElem?_cons_succ]at h;obtain⟨c,b⟩:=ih h;have e:prL (q::a)=.pointer (N ⟨q.B,0,F⟩)::.pointer (N ⟨q.R,0,F⟩)::prL a:=rfl;rw[e,show(i+1)*2=i*2+1+1 by omega];simp only[List.getElem?_cons_succ];exact⟨c,b⟩
section
variable {w w':World} {base SB n:Nat} {wv cv sv iv bv:Value} {cs:List (ByteArray×ByteArray)} {is bs:List Value} {ps:List PrS}
theorem StS.told(a:ST w base SB n wv cv sv iv bv cs is bs)(b:SRV w base sv iv ps)(t:ps.length<=n){i:Nat}{p:PrS}(hi:ps[i]?=N p){e:Ending}(h:TlT p w e w'):StS base SB n wv cv bv cs bs w e w':=by
 obtain⟨o,f,m,d,s,r,q⟩:=h;obtain⟨l,k,j,c⟩:=b.ok p (List.mem_of_getElem? hi);exact⟨o,f.bel base k j (by have:=l.sv.lt;omega) (λg hg=>(c g hg).1),sv,iv,is,ps.set i m,(a.ch l (λg hg=>(c g hg).2) f).mono,b.told a hi f d s r q,by rw[List.length_set];omega⟩
theorem StS.queried(c:ST w base SB n wv cv sv iv bv cs is bs)(d:SRV w base sv iv ps)(m:ps.length<=n){e:Ending}(h:QyT base SB n wv cv sv iv bv cs bs w e w'):StS base SB n wv cv bv cs bs w e w':=by
 obtain⟨k,l,a,b,f,i,j,g⟩:=h;exact⟨k,l,sv,a,b,ps,f,d.queried c g i j,ol⟩
theorem StS.trans{a:World}(c:Below a.heap.size a w)(b:base<=a.heap.size){e:Ending}(h:StS base SB n wv cv bv cs bs w e w'):StS base SB n wv cv bv cs bs a e w':=⟨h.1,(c.mono b).trans h.2.1,h.2.2⟩
end
theorem zbF(base h n:Nat)(L:World)(y:Option Addr)(wb i m b:Nat)(X:Nat->WD)(cv sv iv bv:Value)(cs:List (ByteArray×ByteArray))(is bs:List Value)(f:List PrS)(s a k j r:Int)(q:ByteArray)(w:World)(hn:(n+1)*56<=140737488355328)(l:ST w base h n (O y m b) cv sv iv bv cs is bs)(C:SRV w base sv iv f)(b4:f.length<=n)(b2:XS L y wb i m X)(a3:Below L.heap.size L w)(e1:L.heap.size<=base)(d3:m*96<=140737488351232)(a0:-9223372036854775808<=a)(a1:a<=9223372036854775807)(b0:-9223372036854775808<=k)(b1:k<=9223372036854775807)(c0:-9223372036854775808<=j)(c1:j<=9223372036854775807)(hk:s=8\/s=9\/s=10\/s=11\/s=12):
 Calls S 14 #[.pointer (N ⟨h,0,F⟩),.agg #[J Z s,J Z a,J Z k,J Z j,J Z r,.string q]] w (StS base h n (O y m b) cv bv cs bs w):=by
 have a5:Hd _:=l;have a6:Hd _:=C;have a8:Hd (base<=w.heap.size):=Nat.le_trans l.hB (Nat.le_of_lt l.lt);have d9:=l.lt;have s2:=l.c 2;simp only[List.getElem?_toArray,List.getElem?_cons_succ,List.getElem?_cons_zero]at s2;have c2:Hd (∀wz,Below w.heap.size w wz->WsS L wz h y wb i m b X):=λwz hb=>⟨b2,a3.trans (hb.mono a3.size),by have:=(l.below hb).c 0;simpa using this,(l.below hb).lt,d3⟩
 have c4:Hd (∀(p:PrS) (wz:World),p∈f->Below w.heap.size w wz->s≠12->Calls S 37 #[.pointer (N ⟨h,0,F⟩),.agg #[.pointer (N ⟨p.B,0,F⟩),.pointer (N ⟨p.R,0,F⟩)],.agg #[J Z s,J Z a,J Z k,J Z j,J Z r,.string q]] wz (TlT p wz)):=λp wz W hb hne=>by
  obtain⟨h1,h2,h3,h4⟩:=C.ok p W;have x:=h1.below hb;have Q:=c2.o wz hb;rcases hk with rfl|rfl|rfl|rfl|rfl
  ·exact zbw h p a k j r q wz x
  ·exact zbv h p a k j r q wz x
  ·rcases Nat.eq_zero_or_pos m with h0|h0
   ·subst h0;exact Q8 h p L y wb i b X 10 a k j r q wz (.inl rfl) x Q
   ·exact J8 h p L y wb i m b X a k j r q wz x Q h0 ol ol (λg hg=>by have:=(h4 g hg).1;omega) c0 c1
  ·rcases Nat.eq_zero_or_pos m with h0|h0
   ·subst h0;exact Q8 h p L y wb i b X 11 a k j r q wz (.inr rfl) x Q
   ·exact Jb h p L y wb i m b X a k j r q wz x Q h0 ol ol b0 b1
  ·exact absurd rfl hne
 have c5:Hd (∀(p:PrS) (wz:World),p∈f->Below w.heap.size w wz->Calls S 36 #[.pointer (N ⟨h,0,F⟩),.agg #[.pointer (N ⟨p.B,0,F⟩),.pointer (N ⟨p.R,0,F⟩)],.agg #[J Z s,J Z a,J Z k,J Z j,J Z r,.string q]] wz (QyT base h n (O y m b) cv sv iv bv cs bs wz)):=λp wz W hb=>Jq base h n _ cv sv iv bv cs is bs p s a k j r q wz hn (l.below hb) ((C.ok p W).1.below hb)
 have K:Hd (Below w.heap.size w (w.alloc (U #[J Z s,J Z a,J Z k,J Z j,J Z r,.string q] 53))):=(Below.refl _ _).alloc (Nat.le_refl _) _;have c7:Hd ((w.alloc (U #[J Z s,J Z a,J Z k,J Z j,J Z r,.string q] 53)).heap[w.heap.size]?=N (U #[J Z s,J Z a,J Z k,J Z j,J Z r,.string q] 53 (0,0))):=heap_alloc_new w _;have D:=C.row;obtain⟨so,sc,d2,_⟩:=zU D;subst d2;have I:Hd (w.ownsRow base 88 2 (O so f.length sc) f.length (prL f)):=D;clear l C D b2 a3 c2;rcases Nat.eq_zero_or_pos f.length with h0|h0
 ·have c8:Hd (StS base h n (O y m b) cv bv cs bs w (.returned (.bool true)) (w.alloc (U #[J Z s,J Z a,J Z k,J Z j,J Z r,.string q] 53))):=⟨rfl,K.o.mono a8.o,_,_,_,_,(a5.o.below K.o).mono,a6.o.below K.o,ol⟩;rw[h0]at s2;clear h0 c4 c5;rcases hk with rfl|rfl|rfl|rfl|rfl
  all_goals
   go_enter func14,ntmps14;go_wp2_with fail;go_ret;exact c8.o
 ·obtain⟨z,d0,b3,_,d6⟩:=I.o.form h0;obtain⟨rfl,rfl⟩:so=N ⟨z,0,F⟩/\sc=d0:=by cases b3;exact⟨rfl,rfl⟩
  clear b3;have Y:(0:Int)<(f.length:Int):=ol;have b5:((f.length:Int)==0)=false:=by rw[beq_eq_false_iff_ne];omega
  obtain⟨v,b6⟩:∃v:Nat,pkF a f.length=(v:Int):=⟨(pkF a f.length).toNat,by have:=(Z7 (c:=a) Y).1;omega⟩;have d4:v<f.length:=by have:=(Z7 (c:=a) Y).2;omega
  have d7:(v:Int)<(f.length:Int):=ol;have c6:Hd (∀wz,Calls S 31 #[J Z a,J Z f.length] wz λe w'=>e=.returned (J Z v)/\w'=wz):=λwz=>by have:=YF a f.length wz a0 a1 Y ol;rw[b6]at this;exact this
  obtain⟨p,W⟩:∃p,f[v]?=N p:=⟨f[v],List.getElem?_eq_getElem d4⟩;have HP:Hd (f[v]?=N p):=W;obtain⟨g0,g1⟩:=zgs W;have b9:w.cell? ⟨z,v*2,F⟩=N (.pointer (N ⟨p.B,0,F⟩)):=by rw[I.o.cellAt _ ol];exact g0
  have b8:w.cell? ⟨z,v*2+1,F⟩=N (.pointer (N ⟨p.R,0,F⟩)):=by rw[I.o.cellAt _ ol];exact g1
  clear g0 g1 b6 W;obtain⟨d,A⟩:∃d,d=w.alloc (U #[J Z s,J Z a,J Z k,J Z j,J Z r,.string q] 53):=⟨_,rfl⟩;have c3:Hd (d=w.alloc (U #[J Z s,J Z a,J Z k,J Z j,J Z r,.string q] 53)):=A;have c9:Hd (Below w.heap.size w d):=by rw[A];exact K.o
  have a7:Hd (d.heap[w.heap.size]?=N (U #[J Z s,J Z a,J Z k,J Z j,J Z r,.string q] 53 (0,0))):=by show _=_;rw[A];exact c7.o
  have HF:Hd (d.cell? ⟨h,2,F⟩=N (O (N ⟨z,0,F⟩) f.length sc)/\d.cell? ⟨z,v*2,F⟩=N (.pointer (N ⟨p.B,0,F⟩))/\d.cell? ⟨z,v*2+1,F⟩=N (.pointer (N ⟨p.R,0,F⟩))):=by
   rw[A];exact⟨zx s2 _,zx b9 _,zx b8 _⟩
  clear A K c7;rcases hk with rfl|rfl|rfl|rfl|rfl
  all_goals
   go_enter func14,ntmps14;go_upto_region 21 with fail
   rw[<-c3.o];clear c3 s2 b9 b8 b5;obtain⟨P,f0,f1⟩:=HF.o;have q1:d.cell? ⟨w.heap.size,1,F⟩=N (J Z a):=(by rw[cell_of_row _ _ _ _ _ _ a7.o];rfl);have d5:=lt_of_block a7.o;have e0:h<d.heap.size:=ol;have e2:z<d.heap.size:=ol;have E:d.heap.size≠h:=ol;have G:d.heap.size≠w.heap.size:=ol;have t:d.heap.size≠z:=ol;go_cut [6] (λs5 wx=>s5=.pointer (N ⟨d.heap.size,0,F⟩)/\Below d.heap.size d wx/\wx.heap[d.heap.size]?=N (U #[.pointer (N ⟨p.B,0,F⟩),.pointer (N ⟨p.R,0,F⟩)] 88 (0,0)))
   case first =>
    go_region_held3 (λw'=>w'.cell? ⟨h,2,F⟩=N (O (N ⟨z,0,F⟩) f.length sc)/\w'.cell? ⟨w.heap.size,1,F⟩=N (J Z a)/\w'.cell? ⟨z,v*2,F⟩=N (.pointer (N ⟨p.B,0,F⟩))/\w'.cell? ⟨z,v*2+1,F⟩=N (.pointer (N ⟨p.R,0,F⟩))) (first|(exact⟨P,q1,f0,f1⟩)|(exact⟨zx P _,zx q1 _,zx f0 _,zx f1 _⟩)|(exact⟨zo E (zo E (zx P _) _ _) _ _,zo G (zo G (zx q1 _) _ _) _ _,zo t (zo t (zx f0 _) _ _) _ _,zo t (zo t (zx f1 _) _ _) _ _⟩)|go_keep) (first|(go_at_call 31;refine(c6.o _).mono ?_;rintro e w' ⟨rfl,d8⟩;subst w'))
    all_goals
     go_wp2_with fail;go_meet
     exact⟨rfl,((Below.refl _ _).alloc (Nat.le_refl _) _).drew,heap_alloc_new d _⟩
   case rest =>
    obtain⟨rfl,a4,a2⟩:=hcut;obtain⟨V,d1⟩:∃V,V=wc:=⟨_,rfl⟩;subst d1;have u:Hd (Below w.heap.size w V):=c9.o.trans (a4.mono c9.o.size);have b7:=(a4.block _ d5).trans a7.o;obtain⟨q0,a9,q2,q3,q4,q5⟩:=ld6 b7 rfl;have p0:V.cell? ⟨d.heap.size,0,F⟩=N (.pointer (N ⟨p.B,0,F⟩)):=(by rw[cell_of_row _ _ _ _ _ _ a2];rfl);have p1:V.cell? ⟨d.heap.size,1,F⟩=N (.pointer (N ⟨p.R,0,F⟩)):=(by rw[cell_of_row _ _ _ _ _ _ a2];rfl);clear a4 a2 b7 q1 f0 f1 P c6 HF E G t;go_wp2_with fail;first
     | (refine(c4.o p V (List.mem_of_getElem? HP.o) u.o oq).mono ?_
        rintro e w4 h4;obtain⟨rfl,H⟩:=h4;have HE:Hd (StS base h n (O y m b) cv bv cs bs w (.returned (.bool true)) w4):=(StS.told (a5.o.below u.o) (a6.o.below u.o) b4 HP.o ⟨rfl,H⟩).trans u.o a8.o;clear H q0 a9 q2 q3 q4 q5 p0 p1;go_wp2_with fail;go_ret;exact HE.o)
     | (refine(c5.o p V (List.mem_of_getElem? HP.o) u.o).mono ?_
        rintro e w4 h4;obtain⟨rfl,H⟩:=h4;have HE:Hd (StS base h n (O y m b) cv bv cs bs w (.returned (.bool true)) w4):=(StS.queried (a5.o.below u.o) (a6.o.below u.o) b4 ⟨rfl,H⟩).trans u.o a8.o;clear H q0 a9 q2 q3 q4 q5 p0 p1;go_wp2_with fail;go_ret;exact HE.o)
end
theorem infoPair:(Tryz.prog.info? 88).map (λi=>(i.zero,i.size,i.bytes))=N (N (.agg #[.pointer F,.pointer F]),2,16):=kr
def pr0(B R:Nat):PrS:=⟨B,R,F,⟨#[]⟩,[],λ_=>false,[],λ_=>[],λ_=>0,λ_=>0,λ_=>0,0⟩
theorem zdg{w:World}{R:Nat}(h:w.heap[R]?=N (U #[.string ⟨#[]⟩,O F 0 0,O F 0 0,O F 0 0] 86 (0,0))):RfV w (λ_=>True) R F ⟨#[]⟩ [] (λ_=>[]) (λ_=>0) (λ_=>0) (λ_=>0) 0 :=
 ⟨⟨_,_,_,h,⟨F,0,rfl,λh=>absurd h (Nat.lt_irrefl _)⟩,.inl ⟨rfl,rfl,λ_ _=>rfl⟩,⟨F,0,0,0,rfl,⟨λh=>absurd h (Nat.lt_irrefl _),λh=>absurd h (Nat.lt_irrefl _),λi h=>absurd h (Nat.not_lt_zero _),λi h=>absurd h (Nat.not_lt_zero _),λi h=>absurd h (Nat.not_lt_zero _)⟩,λh=>absurd h (Nat.lt_irrefl _)⟩⟩,ot,λ_ _=>ot⟩
theorem zcD:∀n,dnL (λ_=>false) n=[]:=by
 intro n;induction n with
 |zero=>rfl
 |succ n ih=>simp[dnL,ih]
theorem Zb.keepT{w w':World}{p:PrS}(h:Zb w (λ_=>True) p)(d:w.heap.size<=w'.heap.size)(a:∀(b:Nat) (c:Array Value) (t:TypeId) (f:Nat×Nat),w.heap[b]?=N (U c t f)->t≠51->t≠88->w'.heap[b]?=w.heap[b]?):Zb w' (λ_=>True) p:=by
 obtain⟨o,l,j⟩:=h.sv.blk;obtain⟨n,k,i⟩:=h.rf.blk;refine⟨h.sv.of d (λ_ h _=>h) (a _ _ _ _ j oq oq) (λb _ t _ _ ht hb=>a b _ t _ hb ?_ ?_),h.rf.of d (λ_ h _=>h) (a _ _ _ _ i oq oq) (λg hg=>?_) (λb _ t _ _ ht hb=>a b _ t _ hb ?_ ?_),h.st,h.dd,h.pp⟩
 ·rcases ht with rfl|rfl|rfl<;>decide
 ·rcases ht with rfl|rfl|rfl<;>decide
 ·obtain⟨q,m,e⟩:=h.rf.ablk hg;exact a g _ _ _ e oq oq
 ·rcases ht with rfl|rfl<;>decide
 ·rcases ht with rfl|rfl<;>decide
theorem SRV.push{w w4:World}{base s n:Nat}{G L y x bv m:Value}{cs:List (ByteArray×ByteArray)}{is O:List Value}{d:List PrS}{a:PrS}{P:Obj}(h:SRV w base y x d)(k:ST w base s n G L y x bv cs is O)(z:Zb w (λ_=>True) a)(S:base<=a.B)(Q:base<=a.R)(C:a.A=F)(K:∀p∈d,p.B≠a.B/\p.R≠a.R)(u:(w.alloc P).grownBy w4 y.ownBlock)(I:w4.ownsRow base 88 2 m (d.length+1) (prL d++[.pointer (N ⟨a.B,0,F⟩),.pointer (N ⟨a.R,0,F⟩)])):
 SRV (w4.setCell ⟨s,2,F⟩ m) base m x (d++[a])/\ST (w4.setCell ⟨s,2,F⟩ m) base s n G L m x bv cs is O:=by
 have l:∀(b:Nat) (c:Array Value) (t:TypeId) (f:Nat×Nat),w.heap[b]?=N (U c t f)->t≠88->w4.heap[b]?=w.heap[b]?:=λb c t f hb ht=>by
  have hl:=lt_of_block hb;rw[u.block b ow (λe=>zi h.row hb ht e.symm),Below.heap_alloc _ _ _ hl]
 have o:∀(b:Nat) (c:Array Value) (t:TypeId) (f:Nat×Nat),w.heap[b]?=N (U c t f)->t≠51->t≠88->(w4.setCell ⟨s,2,F⟩ m).heap[b]?=w.heap[b]?:=λb c t f hb ht1 ht2=>by
  rw[za (zJ hb k.blk ht1)];exact l b c t f hb ht2
 have H:w.heap.size<=(w4.setCell ⟨s,2,F⟩ m).heap.size:=by rw[World.size_setCell];have:=u.size;simp at this;omega
 have v:=(l s _ _ _ k.blk oq).trans k.blk;refine⟨⟨?_,λp hp=>?_,λi j p q hi hj hij=>?_⟩,k.of (by rw[zH v];rfl) (λb c t f hb ht=>o b c t f hb ?_ ?_)⟩
 ·rw[List.length_append,show prL (d++[a])=prL d++[.pointer (N ⟨a.B,0,F⟩),.pointer (N ⟨a.R,0,F⟩)] by simp[prL]];refine zd I (λg hg'=>za (λe=>?_));obtain⟨c,f,J⟩:=Z0 I hg';rw[e,v]at J;simp at J
 ·rcases List.mem_append.1 hp with hp|hp
  ·exact⟨(h.ok p hp).1.keepT H o,(h.ok p hp).2⟩
  ·simp at hp;subst hp;exact⟨z.keepT H o,S,Q,λg u=>by rw[C]at u;cases u⟩
 ·have r:∀(i:Nat) (p:PrS),(d++[a])[i]?=N p->d[i]?=N p\/(i=d.length/\p=a):=λi p hi=>by
   rcases Nat.lt_or_ge i d.length with hl|hl
   ·rw[List.getElem?_append_left hl]at hi;exact .inl hi
   ·rw[List.getElem?_append_right hl]at hi;have:i-d.length=0:=by have:=(List.getElem?_eq_some_iff.1 hi).1;simp at this;omega
    rw[this]at hi;simp at hi;exact .inr ⟨ol,hi.symm⟩
  rcases r i p hi with h5|⟨h5,rfl⟩
  ·rcases r j q hj with h6|⟨h6,rfl⟩
   ·exact h.dis i j p q h5 h6 hij
   ·obtain⟨E,D⟩:=K p (List.mem_of_getElem? h5);exact⟨E,D,λg _ e=>by rw[C]at e;cases e⟩
  ·rcases r j q hj with h6|⟨h6,rfl⟩
   ·obtain⟨E,D⟩:=K q (List.mem_of_getElem? h6);exact⟨λe=>E e.symm,λe=>D e.symm,λg e=>by rw[C]at e;cases e⟩
   ·omega
 ·rcases ht with rfl|rfl|rfl|rfl|⟨rfl,_⟩<;>decide
 ·rcases ht with rfl|rfl|rfl|rfl|⟨rfl,_⟩<;>decide
theorem zac(base g n:Nat)(I W sv v bv:Value)(cs:List (ByteArray×ByteArray))(is X:List Value)(d:List PrS)(V R Q P:Int)(L:ByteArray)(w:World)(hn:(n+1)*56<=140737488355328)(h:ST w base g n I W sv v bv cs is X)(x:SRV w base sv v d)(b6:d.length<=n):
 Calls S 14 #[.pointer (N ⟨g,0,F⟩),.agg #[J Z 7,J Z V,J Z R,J Z Q,J Z P,.string L]] w (StS base g n I W bv cs X w):=by
 have E:Hd _:=h;have G:Hd _:=x;have m:Hd (base<=w.heap.size):=Nat.le_trans h.hB (Nat.le_of_lt h.lt);have B:=h.lt;have r:=x.row;obtain⟨s,t,a5,_⟩:=zU r;subst a5;have Y:=h.c 2;simp only[List.getElem?_toArray,List.getElem?_cons_succ,List.getElem?_cons_zero]at Y;have z2:=h.fz 2;clear h x r;have q:Hd (Below w.heap.size w (w.alloc (U #[J Z 7,J Z V,J Z R,J Z Q,J Z P,.string L] 53))):=(Below.refl _ _).alloc (Nat.le_refl _) _;have b9:Hd ((w.alloc (U #[J Z 7,J Z V,J Z R,J Z Q,J Z P,.string L] 53)).heap.size=w.heap.size+1):=sw;go_enter func14,ntmps14;go_wp2_with fail;refine(zbI _).mono ?_;rintro e w' ⟨rfl,a4⟩;subst a4;generalize w.alloc (U #[J Z 7,J Z V,J Z R,J Z Q,J Z P,.string L] 53)=w1 at *;have b5:w1.cell? ⟨g,2,F⟩=N (O s d.length t):=(q.o.cell (p:=⟨g,2,F⟩) B).trans Y;have b4:w1.frozen? ⟨g,2,F⟩=false:=(q.o.frozen (p:=⟨g,2,F⟩) B).trans z2;have a0:w.heap.size<=w1.heap.size:=q.o.size;have b8:g<w1.heap.size:=ol;clear Y z2;have b3:Hd (Below w1.heap.size w1 ((w1.alloc (U sv0 61)).alloc (U #[.string ⟨#[]⟩,O F 0 0,O F 0 0,O F 0 0] 86))):=((Below.refl _ _).alloc (Nat.le_refl _) _).alloc ot _;have l:Hd (Below w.heap.size w ((w1.alloc (U sv0 61)).alloc (U #[.string ⟨#[]⟩,O F 0 0,O F 0 0,O F 0 0] 86))):=q.o.trans (b3.o.mono a0);have k:Hd (ST ((w1.alloc (U sv0 61)).alloc (U #[.string ⟨#[]⟩,O F 0 0,O F 0 0,O F 0 0] 86)) base g n I W (O s d.length t) v bv cs is X):=E.o.below l.o;have i:Hd (SRV ((w1.alloc (U sv0 61)).alloc (U #[.string ⟨#[]⟩,O F 0 0,O F 0 0,O F 0 0] 86)) base (O s d.length t) v d):=G.o.below l.o;have b0:Hd (Zb ((w1.alloc (U sv0 61)).alloc (U #[.string ⟨#[]⟩,O F 0 0,O F 0 0,O F 0 0] 86)) (λ_=>True) (pr0 w1.heap.size (w1.heap.size+1))):=by
  refine⟨(zc3 w1 _).below ((Below.refl _ _).alloc (Nat.le_refl _) _),zdg (zl _ (by simp[pr0])),.inl ⟨rfl,rfl⟩,?_,zds _ _ _⟩;show List.Perm [] (dnL (λ_=>false) 64);rw[zcD]
 have a9:Hd ((((w1.alloc (U sv0 61)).alloc (U #[.string ⟨#[]⟩,O F 0 0,O F 0 0,O F 0 0] 86)).alloc (U #[.pointer (N ⟨w1.heap.size,0,F⟩),.pointer (N ⟨w1.heap.size+1,0,F⟩)] 88)).ownsRow base 88 2 (O s d.length t) d.length (prL d)):=i.o.row.alloc _;have b1:Hd ((((w1.alloc (U sv0 61)).alloc (U #[.string ⟨#[]⟩,O F 0 0,O F 0 0,O F 0 0] 86)).alloc (U #[.pointer (N ⟨w1.heap.size,0,F⟩),.pointer (N ⟨w1.heap.size+1,0,F⟩)] 88)).heap[w1.heap.size+1+1]?=N (U #[.pointer (N ⟨w1.heap.size,0,F⟩),.pointer (N ⟨w1.heap.size+1,0,F⟩)] 88 (0,0))):=zl _ ot;have y:Hd (∀u∈[Value.pointer (N ⟨w1.heap.size,0,F⟩),Value.pointer (N ⟨w1.heap.size+1,0,F⟩)],u.oneCell'=true):=λu hu=>by simp at hu;rcases hu with rfl|rfl<;>rfl
 have hG:Hd (∀w9:World,(((w1.alloc (U sv0 61)).alloc (U #[.string ⟨#[]⟩,O F 0 0,O F 0 0,O F 0 0] 86)).alloc (U #[.pointer (N ⟨w1.heap.size,0,F⟩),.pointer (N ⟨w1.heap.size+1,0,F⟩)] 88)).grownBy w9 (O s d.length t).ownBlock->w9.cell? ⟨g,2,F⟩=N (O s d.length t)/\w9.frozen? ⟨g,2,F⟩=false):=λw9 hg=>by
  have hb:w9.heap[g]?=((w1.alloc (U sv0 61)).alloc (U #[.string ⟨#[]⟩,O F 0 0,O F 0 0,O F 0 0] 86)).heap[g]?:=by
   rw[hg.block _ ow (λe=>zi i.o.row k.o.blk oq e.symm),Below.heap_alloc _ _ _ ow]
  have h9:=hb.trans k.o.blk;exact⟨by rw[cell_of_row _ _ _ _ _ _ h9];rfl,by simp[World.frozen?,h9]⟩
 have a8:Hd (d.length+1<=maxLen):=sx;have a7:Hd ((d.length+1)*16<=140737488355328):=oz;have C:Hd (base<=(((w1.alloc (U sv0 61)).alloc (U #[.string ⟨#[]⟩,O F 0 0,O F 0 0,O F 0 0] 86)).alloc (U #[.pointer (N ⟨w1.heap.size,0,F⟩),.pointer (N ⟨w1.heap.size+1,0,F⟩)] 88)).heap.size):=by show _<=_;have:=m.o;simp;omega
 obtain⟨i1,a6,a3,a2,a1⟩:=info_parts infoPair;go_wp2_with (at_builtin;refine wpList_append_lies _ rfl _ _ 48 rfl base 88 i1 _ 2 16 underlying48 a6 a3 a2 a1 rfl oq (O s d.length t) _ _ rfl a9.o ⟨w1.heap.size+1+1,0,F⟩ 1 1 [.pointer (N ⟨w1.heap.size,0,F⟩),.pointer (N ⟨w1.heap.size+1,0,F⟩)] rfl rfl (World.news_of_block b1.o) y.o (Nat.lt_succ_self 0) a8.o a7.o C.o (w1.heap.size+1+1+1) ot ?_;intro D f K j a A z;obtain⟨y3,yz⟩:=hG.o K a)
 have H:Hd (SRV (K.setCell ⟨g,2,F⟩ (O (N ⟨D,0,F⟩) (d.length+1) f)) base (O (N ⟨D,0,F⟩) (d.length+1) f) v (d++[pr0 w1.heap.size (w1.heap.size+1)])/\ST (K.setCell ⟨g,2,F⟩ (O (N ⟨D,0,F⟩) (d.length+1) f)) base g n I W (O (N ⟨D,0,F⟩) (d.length+1) f) v bv cs is X):=by
  have b7:=m.o;refine i.o.push k.o b0.o (by simp only[pr0];omega) (by simp only[pr0];omega) rfl (λp hp=>?_) a j;have h8:=(G.o.ok p hp).1;have h6:=h8.sv.lt;have h7:=h8.rf.lt;simp only[pr0];omega
 have b2:Hd (Below base w (K.setCell ⟨g,2,F⟩ (O (N ⟨D,0,F⟩) (d.length+1) f))):=(((l.o.mono m.o).alloc (Nat.le_trans m.o l.o.size) _).grown a C.o (λb hb=>(i.o.row.lt b hb).1)).setCell E.o.hB _;clear j a A z;go_ret;exact⟨rfl,b2.o,_,v,is,_,H.o.2.mono,H.o.1,ow⟩
theorem ze3(w:World)(base:Nat)(a:Value):SRV w base (O F 0 0) a [] :=
 ⟨World.ownsRow_nil _ _ _ _,(λp hp=>absurd hp List.not_mem_nil),(λi j p q hi=>by simp at hi)⟩
end Go.Proofs.YtaebngpoagjafabGreat
