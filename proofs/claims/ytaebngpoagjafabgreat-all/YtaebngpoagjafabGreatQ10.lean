import Derived.Test.YtaebngpoagjafabGreatQ06
import Derived.Test.YtaebngpoagjafabGreatQ09
set_option maxRecDepth 100000
set_option maxHeartbeats 3200000
namespace Go.Proofs.YtaebngpoagjafabGreat
open Option renaming none → F,some → N
open Proofs.Tryz renaming prog → E
open Proofs.Tryz
open Obj renaming cells → Q
open Value renaming int → J, slice → O
open IntKind renaming i64 → Z
open Go.RowKit
attribute [local go_sem ↓] Go.wp_at_zero Go.wp_at_succ
theorem ld6{w w':World}{B:Nat}{a b c d e f:Value}{t:TypeId}{fr:Nat×Nat}(h:w.heap[B]?=N (Q #[a,b,c,d,e,f] t fr))(g:w'.heap[B]?=w.heap[B]?):w'.cell? ⟨B,0,F⟩=N a/\w'.cell? ⟨B,1,F⟩=N b/\w'.cell? ⟨B,2,F⟩=N c/\w'.cell? ⟨B,3,F⟩=N d/\w'.cell? ⟨B,4,F⟩=N e/\w'.cell? ⟨B,5,F⟩=N f:=by
 have i:=g.trans h;refine⟨?_,?_,?_,?_,?_,?_⟩<;>(rw[cell_of_row _ _ _ _ _ _ i];rfl)
theorem ld3{w:World}{B:Nat}{a b c:Value}{t:TypeId}(h:w.heap[B]?=N (Q #[a,b,c] t (0,0))):w.cell? ⟨B,0,F⟩=N a/\w.cell? ⟨B,1,F⟩=N b/\w.cell? ⟨B,2,F⟩=N c/\w.frozen? ⟨B,0,F⟩=false/\w.frozen? ⟨B,1,F⟩=false/\w.frozen? ⟨B,2,F⟩=false:=by
 refine⟨?_,?_,?_,?_,?_,?_⟩;all_goals first|(rw[cell_of_row _ _ _ _ _ _ h];rfl)|simp[World.frozen?,h]
theorem zdb{w:World}{base e a:Nat}{v:Value}{n:Nat}{d:List Value}{B:Nat}(h:w.ownsRow base e a v n d)(c:v.ownBlock≠N B)(x y z:Value):(((w.setCell ⟨B,0,F⟩ x).setCell ⟨B,1,F⟩ y).setCell ⟨B,2,F⟩ z).ownsRow base e a v n d :=
 zd h (λg hg=>by
  have b:g≠B:=λe=>c (by rw[<-e];exact hg)
  rw[za b,za b,za b])
theorem Yb{w:World}{B j:Nat}{cs:Array Value}{t:TypeId}{fr:Nat×Nat}{u:Value}(h:w.heap[B]?=N (Q cs t fr)):(w.setCell ⟨B,j,F⟩ u).heap[B]?=N (Q (cs.setIfInBounds j u) t fr):=by
 simp[World.setCell,Array.getElem?_modify,h]
theorem blk6_store{w:World}{g:Nat}{a b c d e f a' b' c' d' e' f':Value}{t:TypeId}(h:w.heap[g]?=N (Q #[a,b,c,d,e,f] t (0,0))):((((((w.setCell ⟨g,0,F⟩ a').setCell ⟨g,1,F⟩ b').setCell ⟨g,2,F⟩ c').setCell ⟨g,3,F⟩ d').setCell ⟨g,4,F⟩ e').setCell ⟨g,5,F⟩ f').heap[g]?=N (Q #[a',b',c',d',e',f'] t (0,0)) :=
 Yb (Yb (Yb (Yb (Yb (Yb h)))))
theorem Yl{w:World}{B:Nat}{cs:Array Value}{t:TypeId}(h:w.heap[B]?=N (Q cs t (0,0)))(j:Nat):w.frozen? ⟨B,j,F⟩=false:=by simp[World.frozen?,h]
structure LnW (B T:Nat) (w:World) (x:WD) (vd va vp vm:Value) (s1 s2:Nat):Prop where
 b1:B<=s1
 b2:s1<=s2
 b3:s2<=T
 d:LnI B w x.do_ vd x.dl x.Dn
 dl:∀g,vd.ownBlock=N g->g<s1
 p:LnP s1 w x.po vp x.pl x.V x.L x.R
 pl:∀g,vp.ownBlock=N g->g<s2
 a:xD s2 T w x.ao x.ab x.aoff x.al va vm
theorem LnW.below{B T:Nat}{w w':World}{x:WD}{f va e vm:Value}{s1 s2:Nat}(h:LnW B T w x f va e vm s1 s2)(c:0<x.al.length->x.ab<w.heap.size)(b:Below w.heap.size w w'):LnW B T w' x f va e vm s1 s2:=⟨h.b1,h.b2,h.b3,h.d.below b,h.dl,h.p.below b,h.pl,h.a.below c b⟩
theorem LnI.put{B q j:Nat}{u:Value}{w:World}{o:Option Addr}{v:Value}{n:Nat}{D:Nat->Int}(h:LnI B w o v n D)(a:q<B):LnI B (w.setCell ⟨q,j,F⟩ u) o v n D:=h.keep (λg hg=>za (by have:=(h.lt hg).1;omega))
theorem LnP.put{B q j:Nat}{u:Value}{w:World}{o:Option Addr}{v:Value}{n:Nat}{V L R:Nat->Int}(h:LnP B w o v n V L R)(a:q<B):LnP B (w.setCell ⟨q,j,F⟩ u) o v n V L R:=h.keep (λg hg=>za (by have:=(h.lt hg).1;omega))
theorem xD.put{B T q j:Nat}{u:Value}{w:World}{e:Option Addr}{d a:Nat}{al:List (List Int)}{va vm:Value}(h:xD B T w e d a al va vm)(f:q<B)(c:0<al.length->d≠q):xD B T (w.setCell ⟨q,j,F⟩ u) e d a al va vm:=by
 rcases h with h|⟨ad,ga,gm,fa,fm,S,h1,h2,h3,h4,h5,h6,h7,h8,h9,h10⟩
 ·exact .inl h
 ·have:=h9.lo.1
  exact .inr ⟨ad,ga,gm,fa,fm,S,h1,h2,h3,h4,h5,h6,h7.of_block (za ol),h8.of_block (za ol),h9.keep (Nat.le_refl _) (by simp[World.setCell]) (λh0=>za (c h0)) (λb hb _=>za ol),h10⟩
theorem LnI.mono{B a:Nat}{w:World}{o:Option Addr}{v:Value}{n:Nat}{D:Nat->Int}(h:LnI B w o v n D)(b:a<=B):LnI a w o v n D:=by
 rcases h with h|⟨ad,g,f,h1,h2,h3,h4,h5⟩
 ·exact .inl h
 ·exact .inr ⟨ad,g,f,h1,h2,ol,h4,h5⟩
def zfZ(x:WD)(w:World)(e:Ending)(w':World):Prop:=(∃vd va vp vm s1 s2,e=.returned (.tuple #[.agg #[J Z x.a,J Z x.b,J Z x.d,vd,va,vp],vm])/\LnW w.heap.size w'.heap.size w' x vd va vp vm s1 s2)/\Below w.heap.size w w'
theorem ji{x:WD}{w w4:World}{k:Array Value}{g f:Option Addr}{j i:Nat}{va vm:Value}{s1 s2:Nat}(n:0<x.al.length->x.ab<w.heap.size)(s:Below w.heap.size w w4)(r:w4.heap[w.heap.size+1]?=N (Q #[J Z 0,J Z 0,J Z 0,O F 0 0,O F 0 0,O F 0 0] 31 (0,0)))(e:LnW (w.heap.size+2) w4.heap.size w4 x (O g x.dl j) va (O f x.pl i) vm s1 s2)(z:k.getD 2 undef=.pointer (N ⟨w.heap.size+1,0,F⟩))(y:k.getD 3 undef=vm):
 bodyPost E f67 (zfZ x w) .ret ⟨k,[]⟩ ((((((w4.setCell ⟨w.heap.size+1,0,F⟩ (J Z x.a)).setCell ⟨w.heap.size+1,1,F⟩ (J Z x.b)).setCell ⟨w.heap.size+1,2,F⟩ (J Z x.d)).setCell ⟨w.heap.size+1,3,F⟩ (O g x.dl j)).setCell ⟨w.heap.size+1,4,F⟩ va).setCell ⟨w.heap.size+1,5,F⟩ (O f x.pl i)):=by
 have o:=blk6_store (a':=J Z x.a) (b':=J Z x.b) (c':=J Z x.d) (d':=O g x.dl j) (e':=va) (f':=O f x.pl i) r;have q:=e.b1;have m:=e.b2;have c:0<x.al.length->x.ab≠w.heap.size+1:=λh=>by have:=n h;omega
 have l:((((((w4.setCell ⟨w.heap.size+1,0,F⟩ (J Z x.a)).setCell ⟨w.heap.size+1,1,F⟩ (J Z x.b)).setCell ⟨w.heap.size+1,2,F⟩ (J Z x.d)).setCell ⟨w.heap.size+1,3,F⟩ (O g x.dl j)).setCell ⟨w.heap.size+1,4,F⟩ va).setCell ⟨w.heap.size+1,5,F⟩ (O f x.pl i)).heap.size=w4.heap.size:=by simp[World.setCell]
 refine bodyPost_ret (v:=.tuple #[.agg #[J Z x.a,J Z x.b,J Z x.d,O g x.dl j,va,O f x.pl i],vm]) ?_ rfl ⟨⟨_,_,_,_,s1,s2,rfl,by rw[l];exact⟨ol,m,e.b3,((((((e.d.put ol).put ol).put ol).put ol).put ol).put ol).mono ol,e.dl,(((((e.p.put ol).put ol).put ol).put ol).put ol).put ol,e.pl,(((((e.a.put ol c).put ol c).put ol c).put ol c).put ol c).put ol c⟩⟩,(((((s.setCell ox _).setCell ox _).setCell ox _).setCell ox _).setCell ox _).setCell ox _⟩;rw[results_cell_tmp results67];have u:∀we:World,(asAddr (.pointer (N ⟨w.heap.size+1,0,F⟩))).run E we=.ok ⟨w.heap.size+1,0,F⟩ we:=λ_=>rfl
 have t:=run_loadVar_row (P:=E) _ (w.heap.size+1) 31 31 _ (0,0) _ o underlying31 rfl kr;rw[z,u,Result.andThen_ok,t,Result.andThen_ok,y]
theorem Xk(x:WD)(w:World)(hx:x.In w)(hp:x.pl*24<=140737488351232)(hd:x.dl*8<=140737488351232)(ha:x.al.length*24<=140737488351232):
 Calls E 67 #[x.val] w (zfZ x w):=by
 have HX:Hd _:=hx;have i4:=λwz (hb:Below w.heap.size w wz)=>YX x.do_ x.db x.doff x.dl x.dc x.Dn wz hd (hx.is_.below hb hx.is_.lt)
 have d1:Hd _:=i4;have d0:Hd (∀wz,Below w.heap.size w wz->Calls E 80 #[O x.po x.pl x.pcp] wz λe w'=>(∃v,e=.returned v/\LnP wz.heap.size w' x.po v x.pl x.V x.L x.R)/\Below wz.heap.size wz w'):=λwz hb=>xu x.po x.pb x.poff x.pl x.pcp x.V x.L x.R wz hp (hx.ts.below hb)
 have n3:Hd (∀wz,Below w.heap.size w wz->AS wz w.heap.size x.ao x.ab x.aoff x.al):=λwz hb=>hx.as_.of_kept (λb hl=>hb.block b hl)
 clear hx i4;unfold WD.val;have c8:Hd (Below w.heap.size w ((w.alloc (Q #[J Z x.a,J Z x.b,J Z x.d,O x.do_ x.dl x.dc,O x.ao x.al.length x.ac,O x.po x.pl x.pcp] 31)).alloc (Q #[J Z 0,J Z 0,J Z 0,O F 0 0,O F 0 0,O F 0 0] 31))):=((Below.refl _ _).alloc (Nat.le_refl _) _).alloc ot _;have d6:Hd (((w.alloc (Q #[J Z x.a,J Z x.b,J Z x.d,O x.do_ x.dl x.dc,O x.ao x.al.length x.ac,O x.po x.pl x.pcp] 31)).alloc (Q #[J Z 0,J Z 0,J Z 0,O F 0 0,O F 0 0,O F 0 0] 31)).heap[w.heap.size]?=N (Q #[J Z x.a,J Z x.b,J Z x.d,O x.do_ x.dl x.dc,O x.ao x.al.length x.ac,O x.po x.pl x.pcp] 31 (0,0))):=by show _=_;rw[Below.heap_alloc _ _ _ ot];exact heap_alloc_new w _
 have e0:Hd (((w.alloc (Q #[J Z x.a,J Z x.b,J Z x.d,O x.do_ x.dl x.dc,O x.ao x.al.length x.ac,O x.po x.pl x.pcp] 31)).alloc (Q #[J Z 0,J Z 0,J Z 0,O F 0 0,O F 0 0,O F 0 0] 31)).heap[w.heap.size+1]?=N (Q #[J Z 0,J Z 0,J Z 0,O F 0 0,O F 0 0,O F 0 0] 31 (0,0))):=zl _ ot;go_enter func67,ntmps67;go_wp2_with fail;refine(d1.o _ c8.o).mono ?_;rintro e U ⟨⟨vd,rfl,b4⟩,a8⟩;obtain⟨W,cd,gd,rfl,_⟩:=b4.is_;have i9:Hd _:=c8.o.trans (a8.mono c8.o.size);have f0:w.heap.size+2<=U.heap.size:=by have:=a8.size;simp at this;omega
 have c6:Hd (LnI (w.heap.size+2) U x.do_ (O W x.dl cd) x.dl x.Dn):=by simp at b4;exact b4
 have b7:Hd _:=(a8.block _ (lt_of_block d6.o)).trans d6.o;have d9:Hd _:=(a8.block _ (lt_of_block e0.o)).trans e0.o;clear a8 b4 c8 d6 e0;obtain⟨q0,q1,q2,q3,q4,q5⟩:=ld6 b7.o rfl;have f3:=Yl b7.o 3;have d5:Hd ((U.setCell ⟨w.heap.size,3,F⟩ (O W x.dl cd)).heap[w.heap.size]?=N (Q #[J Z x.a,J Z x.b,J Z x.d,O W x.dl cd,O x.ao x.al.length x.ac,O x.po x.pl x.pcp] 31 (0,0))):=Yb b7.o;have a5:Hd (Below w.heap.size w (U.setCell ⟨w.heap.size,3,F⟩ (O W x.dl cd))):=i9.o.setCell (Nat.le_refl _) _;go_wp2_with fail;refine(d0.o _ a5.o).mono ?_;rintro e c ⟨⟨vp,rfl,b3⟩,X⟩;obtain⟨m,q,gp,rfl,_⟩:=b3.ts;have e9:U.heap.size<=c.heap.size:=by have:=X.size;simpa[World.setCell]using this
 have i8:Hd _:=a5.o.trans (X.mono a5.o.size);have c1:Hd (LnP U.heap.size c x.po (O m x.pl q) x.pl x.V x.L x.R):=by rw[show(U.setCell ⟨w.heap.size,3,F⟩ (O W x.dl cd)).heap.size=U.heap.size from by simp[World.setCell]]at b3;exact b3
 have e6:Hd (LnI (w.heap.size+2) c x.do_ (O W x.dl cd) x.dl x.Dn):=c6.o.keep (λg hg=>by
  have k2:=c6.o.lt hg;rw[X.block g (by simpa[World.setCell]using k2.2),za ol])
 have c5:Hd (∀g,(O W x.dl cd).ownBlock=N g->g<U.heap.size):=λg hg=>(c6.o.lt hg).2
 have b6:Hd _:=(X.block _ (lt_of_block d5.o)).trans d5.o;have h9:Hd (c.heap[w.heap.size+1]?=N (Q #[J Z 0,J Z 0,J Z 0,O F 0 0,O F 0 0,O F 0 0] 31 (0,0))):=by
  show _=_;rw[X.block _ (by have:=lt_of_block d9.o;simpa[World.setCell]using this),za ol];exact d9.o
 clear X b3 a5 d5 d9 b7 i9 c6 q0 q1 q2 q3 q4 q5 f3;obtain⟨q0,q1,q2,q3,q4,q5⟩:=ld6 b6.o rfl;have f5:=Yl b6.o 5;have h5:Hd ((c.setCell ⟨w.heap.size,5,F⟩ (O m x.pl q)).heap[w.heap.size]?=N (Q #[J Z x.a,J Z x.b,J Z x.d,O W x.dl cd,O x.ao x.al.length x.ac,O m x.pl q] 31 (0,0))):=Yb b6.o;have a4:Hd (Below w.heap.size w (c.setCell ⟨w.heap.size,5,F⟩ (O m x.pl q))):=i8.o.setCell (Nat.le_refl _) _;have b8:Hd ((c.setCell ⟨w.heap.size,5,F⟩ (O m x.pl q)).heap[w.heap.size+1]?=N (Q #[J Z 0,J Z 0,J Z 0,O F 0 0,O F 0 0,O F 0 0] 31 (0,0))):=by show _=_;rw[za ol];exact h9.o
 have e1:Hd (LnP U.heap.size (c.setCell ⟨w.heap.size,5,F⟩ (O m x.pl q)) x.po (O m x.pl q) x.pl x.V x.L x.R):=c1.o.keep (λg hg=>za (by have:=(c1.o.lt hg).1;omega));have e5:Hd (LnI (w.heap.size+2) (c.setCell ⟨w.heap.size,5,F⟩ (O m x.pl q)) x.do_ (O W x.dl cd) x.dl x.Dn):=e6.o.keep (λg hg=>za (by have:=(e6.o.lt hg).1;omega));have b9:Hd (∀g,(O m x.pl q).ownBlock=N g->g<c.heap.size):=λg hg=>(c1.o.lt hg).2
 have d2:(c.setCell ⟨w.heap.size,5,F⟩ (O m x.pl q)).heap.size=c.heap.size:=by simp[World.setCell]
 have a2:Hd _:=d2;clear d2;cases hao:x.ao with
 | none =>
  have g5:x.al=[]:=by
   rcases Nat.eq_zero_or_pos x.al.length with h|h
   ·exact List.eq_nil_of_length_eq_zero h
   ·have:=HX.o.as_.at_ h;rw[hao]at this;cases this
  have r:=λw=>Lib.run_eql_slice_nil (P:=E) w 28 25 F 0 x.ac 0 0 underlying28
  simp only[Option.isNone]at r;rw[hao,g5]at q4;have H:Hd (x.ao=F/\x.al=[]):=⟨hao,g5⟩;have s:=b8.o;obtain⟨p0,p1,p2,p3,p4,p5⟩:=ld6 s rfl;have z0:=Yl s 0;have z1:=Yl s 1;have z2:=Yl s 2;have z3:=Yl s 3;have z4:=Yl s 4;have z5:=Yl s 5;clear s;go_wp2_with fail;have hL:LnW (w.heap.size+2) (c.setCell ⟨w.heap.size,5,F⟩ (O m x.pl q)).heap.size (c.setCell ⟨w.heap.size,5,F⟩ (O m x.pl q)) x (O W x.dl cd) (O F 0 x.ac) (O m x.pl q) (O F 0 0) U.heap.size c.heap.size:=⟨f0,e9,by rw[a2.o];exact Nat.le_refl _,e5.o,c5.o,e1.o,b9.o,.inl ⟨H.o.1,⟨_,rfl⟩,rfl,H.o.2⟩⟩;exact ji (λh=>by rw[H.o.2]at h;simp at h) a4.o b8.o hL rfl rfl
 | some ad =>
  obtain⟨i0,hi,f7,f2,f1⟩:=info_parts infoIs;have r:=λw=>Lib.run_eql_slice_nil (P:=E) w 28 25 (N ad) x.al.length x.ac 0 0 underlying28
  simp only[Option.isNone]at r;rw[hao]at q4;have H:Hd _:=hao;clear hao;obtain⟨n,hn⟩:∃n,x.al.length=n:=⟨_,rfl⟩;have HN:Hd _:=hn;rw[hn]at q4 r ha;clear hn;have m1:w.heap.size+2<=c.heap.size:=ol;go_wp2_with (at_make;first|(refine wpList_make_full _ rfl _ _ 28 rfl 0 25 i0 (O F 0 0) 1 underlying28 hi f7 f2 .i64 .i64 _ _ (n+8) rfl rfl ol ol (by rw[f1];omega) mr (Nat.zero_le _) ?_;intro f C K;rw[a2.o]at C;rw[a2.o];obtain⟨fA,B⟩:=yd C rfl;have d8:Hd (f.rowIs c.heap.size 25 (n+8) fA):=(by rw[Nat.mul_one]at B;exact B);have e4:Hd ((c.setCell ⟨w.heap.size,5,F⟩ (O m x.pl q)).grownBy f F):=K;clear C K B)|(refine wpList_make_full _ rfl _ _ 28 rfl 0 25 i0 (O F 0 0) 1 underlying28 hi f7 f2 .i64 .i64 _ _ n rfl rfl ol ol (by rw[f1];omega) mr (Nat.zero_le _) ?_;intro u a7 I;obtain⟨f6,A⟩:=yd a7 rfl;have d7:Hd (u.rowIs f.heap.size 25 n f6):=(by rw[Nat.mul_one]at A;exact A);have c3:Hd (f.grownBy u F):=I;clear a7 I A))
  have k4:c.heap.size<f.heap.size:=d8.o.lt;have k3:f.heap.size<u.heap.size:=d7.o.lt;have b1:Hd (∀b,b<c.heap.size->u.heap[b]?=(c.setCell ⟨w.heap.size,5,F⟩ (O m x.pl q)).heap[b]?):=λb hb=>(c3.o.block b ol ot).trans (e4.o.block b (by rw[a2.o];exact hb) ot)
  have i7:Hd (Below w.heap.size w u):=(a4.o.grown e4.o (by rw[a2.o];omega) (λk hk=>by cases hk)).grown c3.o ol (λk hk=>by cases hk);have j0:Hd (u.rowIs c.heap.size 25 (n+8) fA):=d8.o.of_block (c3.o.block _ k4 ot);have k6:Hd (u.heap[w.heap.size]?=N (Q #[J Z x.a,J Z x.b,J Z x.d,O W x.dl cd,O (N ad) n x.ac,O m x.pl q] 31 (0,0))):=by show _=_;rw[b1.o _ ol,h5.o,H.o,HN.o]
  have h8:Hd (u.heap[w.heap.size+1]?=N (Q #[J Z 0,J Z 0,J Z 0,O F 0 0,O F 0 0,O F 0 0] 31 (0,0))):=by show _=_;rw[b1.o _ ol,b8.o]
  have i1:Hd (LnP U.heap.size u x.po (O m x.pl q) x.pl x.V x.L x.R):=e1.o.keep (λg hg=>b1.o g (b9.o g hg));have i6:Hd (LnI (w.heap.size+2) u x.do_ (O W x.dl cd) x.dl x.Dn):=e5.o.keep (λg hg=>b1.o g (by have:=c5.o g hg;omega));clear b1 a4 e4 c3 a2 h5 b8 e1 e5 d8 b6 h9 c1 e6 i8 q0 q1 q2 q3 q4 q5 f5 r d1 d0;go_loopw [7] (λy wr=>∃(k:Nat) (fa fm:Nat->Value) (S:Nat->Nat),k<=n+8/\y=J Z k/\Hd (wr.rowIs c.heap.size 25 (n+8) fa)/\Hd (wr.rowIs f.heap.size 25 n fm)/\Hd (LnA wr x.ab x.aoff x.al c.heap.size f.heap.size fa fm S 0 k)/\Hd (∀b,b<u.heap.size->b≠c.heap.size->b≠f.heap.size->wr.heap[b]?=u.heap[b]?)/\Hd (Below w.heap.size w wr)/\u.heap.size<=wr.heap.size) (λy _=>n+8-(intOf y).toNat)
  case atStart=>exact⟨0,_,_,λ_=>u.heap.size,ol,rfl,j0,d7,⟨λi hi=>ol,Nat.le_refl _,⟨ol,k3⟩,λi l _ hi=>ol,λi _ hi=>ol⟩,λb _ _ _=>rfl,i7,Nat.le_refl _⟩
  case round =>
   obtain⟨k,fa,fm,S,hk,rfl,c4,i5,G,a9,HB,m9⟩:=hrel;clear j0 d7 i7;have HW:Hd (wr.heap[w.heap.size]?=N (Q #[J Z x.a,J Z x.b,J Z x.d,O W x.dl cd,O (N ad) n x.ac,O m x.pl q] 31 (0,0))):=(a9.o _ ol ol ol).trans k6.o;by_cases g0:k<n+8
   ·have c0:=c4.o.cell (i:=k) g0;have z0:=c4.o.frozen k;have f9:(k:Int)<(n:Int)+8:=ol;have n1:c.heap.size<wr.heap.size:=ol;obtain⟨wA,z⟩:∃wA,(wr.setCell ⟨c.heap.size,k,F⟩ (O (N ⟨wr.heap.size,0,F⟩) 1 1)).alloc (Q #[J Z 77] 3)=wA:=⟨_,rfl⟩;have g9:Hd _:=z;have b2:(wr.setCell ⟨c.heap.size,k,F⟩ (O (N ⟨wr.heap.size,0,F⟩) 1 1)).heap.size=wr.heap.size:=(by simp[World.setCell]);have a1:Hd (wA.heap.size=wr.heap.size+1):=(by show _=_;rw[<-z];simp[World.setCell]);have c7:Hd (Below w.heap.size w wA):=(by rw[<-z];exact(HB.o.setCell ox _).alloc (by rw[b2];omega) _);have h7:Hd (wA.rowIs c.heap.size 25 (n+8) (λj=>if j=k then O (N ⟨wr.heap.size,0,F⟩) 1 1 else fa j)):=(by rw[<-z];exact(c4.o.set k _).alloc _);have b0:Hd (∀b,b<wr.heap.size->b≠c.heap.size->wA.heap[b]?=wr.heap[b]?):=λb hb b5=>by rw[<-z,Below.heap_alloc _ _ _ (by rw[b2];exact hb),za b5]
    have i2:Hd (wA.rowIs f.heap.size 25 n fm):=i5.o.of_block (b0.o _ ol ol);have k7:Hd (wA.rowIs wr.heap.size 3 1 (λ_=>J Z 77)):=by
     rw[<-z];have:=World.rowIs_alloc (wr.setCell ⟨c.heap.size,k,F⟩ (O (N ⟨wr.heap.size,0,F⟩) 1 1)) #[J Z 77] 3 (λ_=>J Z 77) (λi hi=>by simp at hi;subst hi;rfl)
     rw[b2]at this;exact this
    clear z b2;have n2:=G.o.lo;have h6:=G.o.top;by_cases g3:k<n
    ·have g2:(k:Int)<(n:Int):=(by omega);obtain⟨l,hl⟩:∃l,x.al[k]?=N l:=⟨x.al[k]'(by rw[HN.o];exact g3),List.getElem?_eq_getElem _⟩;obtain⟨lo,lc,lb,e8,d3,g4,g1⟩:=HX.o.as_.is_ (Nat.le_refl _) hl;have g6:=HX.o.as_.at_ (by rw[HN.o];omega);rw[H.o]at g6;cases g6
     have c9:=HX.o.as_.lt (by rw[HN.o];omega);have k0:=HX.o.as_.len l (List.mem_of_getElem? hl);have k8:Hd (∀wz,Below w.heap.size w wz->Calls E 77 #[O lo l.length lc] wz λe w'=>(∃v,e=.returned v/\LnI wz.heap.size w' lo v l.length (liF l))/\Below wz.heap.size wz w'):=λwz hb=>YX lo lb e8 l.length lc (liF l) wz k0 (g4.below hb g1)
     have k5:=(HB.o.cell (p:=⟨x.ab,x.aoff+k,F⟩) c9).trans d3;have m3:w.heap.size<wr.heap.size:=ol;have m2:x.ab<wr.heap.size:=ol;have k9:Hd (∀wz,Below w.heap.size w wz->wz.cell? ⟨x.ab,x.aoff+k,F⟩=N (O lo l.length lc)):=λwz hb=>(hb.cell (p:=⟨x.ab,x.aoff+k,F⟩) c9).trans d3
     have HL:Hd _:=hl;obtain⟨_,_,_,_,q4,_⟩:=ld6 HW.o rfl;have m7:¬w.heap.size=c.heap.size:=ol;have m6:¬x.ab=c.heap.size:=ol;clear d3 g4 g1 hl;go_wp2_with fail;rw[g9.o];refine(k8.o _ c7.o).mono ?_;rintro e w2 ⟨⟨v,rfl,hv⟩,Y⟩;obtain⟨ov,cv,gv,rfl,_⟩:=hv.is_;have HV:Hd (LnI (wr.heap.size+1) w2 lo (O ov l.length cv) l.length (liF l)):=(by rw[a1.o]at hv;exact hv);have n0:wr.heap.size+1<=w2.heap.size:=(by have:=Y.size;rw[a1.o]at this;exact this);have a5:Hd _:=c7.o.trans (Y.mono c7.o.size);have e2:Hd (w2.rowIs f.heap.size 25 n fm):=yQ i2.o Y;have e7:Hd (w2.rowIs c.heap.size 25 (n+8) (λj=>if j=k then O (N ⟨wr.heap.size,0,F⟩) 1 1 else fa j)):=yQ h7.o Y;have e3:Hd (∀b,b<wr.heap.size->b≠c.heap.size->w2.heap[b]?=wr.heap[b]?):=λb hb b5=>(Y.block b (by rw[a1.o];omega)).trans (b0.o b hb b5)
     have m0:=e2.o.cell (i:=k) g3;have y0:=e2.o.frozen k;have a0:=e7.o.cell (i:=k) g0;have x0:=e7.o.frozen k;have m5:¬c.heap.size=f.heap.size:=ol;have m4:¬f.heap.size=c.heap.size:=ol;clear Y hv c0 z0 q4 k5;go_wp2_with fail;obtain⟨w4,a6⟩:∃w4,(w2.setCell ⟨f.heap.size,k,F⟩ (O ov l.length cv)).setCell ⟨c.heap.size,k,F⟩ (O ov l.length cv)=w4:=⟨_,rfl⟩;have d2:w4.heap.size=w2.heap.size:=(by rw[<-a6];simp[World.setCell]);have c2:∀b,b≠c.heap.size->b≠f.heap.size->w4.heap[b]?=w2.heap[b]?:=λb h1 D=>by rw[<-a6,za h1,za D]
     have a4:Below w.heap.size w w4:=(by rw[<-a6];exact(a5.o.setCell ox _).setCell ox _);have j1:=(e7.o.setOther (a:=⟨f.heap.size,k,F⟩) ox (O ov l.length cv)).set k (O ov l.length cv);have i3:=(e2.o.set k (O ov l.length cv)).setOther (a:=⟨c.heap.size,k,F⟩) ox (O ov l.length cv);rw[a6]at j1 i3;have f8:LnI (wr.heap.size+1) w4 lo (O ov l.length cv) l.length (liF l):=HV.o.keep (λg hg=>c2 g (by have:=(HV.o.lt hg).1;omega) (by have:=(HV.o.lt hg).1;omega));obtain⟨S',d4⟩:=G.o.more (w':=w4) (fa':=λj=>if j=k then O ov l.length cv else(λj=>if j=k then O (N ⟨wr.heap.size,0,F⟩) 1 1 else fa j) j) (fm':=λj=>if j=k then O ov l.length cv else fm j) (λ_=>by rw[c2 _ ol ol,e3.o _ ol ol]) ol (λb h1 D=>by rw[c2 _ ol ol,e3.o _ ol ol]) (λi hi=>(if_neg ol).trans (if_neg ol)) (λi hi=>if_neg ol)
      (λl' hl'=>by
       have e:l'=l:=(by have:=HL.o;rw[hl']at this;simpa using this);subst e;refine⟨ot,⟨lo,lc,k9.o _ a4,?_⟩,λg hg=>?_⟩
       ·simp only[if_true];exact f8.mono ol
       ·simp only[if_true]at hg;exact(f8.lt hg).2) (λh=>by have:=HN.o;omega)
     rw[a6];go_roundw
     case rel=>exact⟨k+1,_,_,S',ol,by go_num,j1,i3,d4,λb h1 D h3=>by rw[c2 _ D h3,e3.o _ ol D,a9.o b h1 D h3],a4,ol⟩
     case measure=>simp[intOf];omega
    ·have g2:¬(k:Int)<(n:Int):=(by omega);go_wp2_with fail;rw[g9.o];obtain⟨S',d4⟩:=G.o.more (w':=wA) (fa':=λj=>if j=k then O (N ⟨wr.heap.size,0,F⟩) 1 1 else fa j) (fm':=fm) (λh=>b0.o _ (by have:=HX.o.as_.lt h;omega) (by have:=HX.o.as_.lt h;omega)) (by have:=a1.o;omega) (λb h1 D=>b0.o b ol ol) (λi hi=>if_neg ol) (λi hi=>rfl)
      (λl' hl'=>by have:=(List.getElem?_eq_some_iff.1 hl').1;have:=HN.o;omega) (λ_=>⟨wr.heap.size,ot,h6,by have:=a1.o;omega,k7.o⟩)
     go_roundw
     case rel=>exact⟨k+1,_,_,S',ol,by go_num,h7,i2,d4,λb h1 D h3=>by rw[b0.o _ ol D,a9.o b h1 D h3],c7,by have:=a1.o;omega⟩
     case measure=>simp[intOf];omega
   ·have k1:k=n+8:=(by omega);subst k1;have f9:¬((n:Int)+8<(n:Int)+8):=ol;obtain⟨q0,q1,q2,q3,q4,q5⟩:=ld6 HW.o rfl;have f4:=Yl HW.o 4;have t:Hd (wr.heap[w.heap.size+1]?=N (Q #[J Z 0,J Z 0,J Z 0,O F 0 0,O F 0 0,O F 0 0] 31 (0,0))):=(a9.o _ ol ol ol).trans h8.o;obtain⟨p0,p1,p2,p3,p4,p5⟩:=ld6 t.o rfl;have z0:=Yl t.o 0;have z1:=Yl t.o 1;have z2:=Yl t.o 2;have z3:=Yl t.o 3;have z4:=Yl t.o 4;have z5:=Yl t.o 5;have b5:¬w.heap.size=w.heap.size+1:=ol;have m8:¬w.heap.size+1=w.heap.size:=ol;have a3:Hd (∀b,b≠w.heap.size->(wr.setCell ⟨w.heap.size,4,F⟩ (O (N ⟨c.heap.size,0,F⟩) n (n+8))).heap[b]?=wr.heap[b]?):=λb hb=>za hb
    go_wp2_with fail;have h0:=G.o.lo;have g7:0<x.al.length->x.ab<w.heap.size:=HX.o.as_.lt;have g8:∀g,g<u.heap.size->g≠c.heap.size->g≠f.heap.size->g≠w.heap.size->(wr.setCell ⟨w.heap.size,4,F⟩ (O (N ⟨c.heap.size,0,F⟩) n (n+8))).heap[g]?=u.heap[g]?:=λg h1 D h3 h4=>(a3.o g h4).trans (a9.o g h1 D h3)
    refine ji (va:=O (N ⟨c.heap.size,0,F⟩) n (n+8)) (vm:=O (N ⟨f.heap.size,0,F⟩) n n) (s1:=U.heap.size) (s2:=c.heap.size) g7 (HB.o.setCell (Nat.le_refl _) _) ((a3.o _ ol).trans t.o) ⟨f0,e9,by simp[World.setCell];omega,i6.o.keep (λg hg=>?_),c5.o,i1.o.keep (λg hg=>?_),b9.o,.inr ⟨ad,c.heap.size,f.heap.size,fa,fm,S,H.o,by rw[HN.o],by rw[HN.o],Nat.le_refl _,ol,ol,by rw[HN.o];exact c4.o.of_block (a3.o _ ol),by rw[HN.o];exact i5.o.of_block (a3.o _ ol),?_,by rw[HN.o];have:=G.o.top;simpa[World.setCell]using this⟩⟩ rfl rfl
    ·have h1:=(i6.o.lt hg).1;have D:=c5.o g hg;exact g8 g ol ol ol ol
    ·have h1:=(i1.o.lt hg).1;have D:=b9.o g hg;exact g8 g ol ol ol ol
    ·rw[HN.o];exact G.o.keep (Nat.le_refl _) (by simp[World.setCell]) (λh=>a3.o _ (by have:=g7 h;omega)) (λb h1 D=>a3.o b ol)
theorem xD.form{B T:Nat}{w:World}{b:Option Addr}{d a:Nat}{al:List (List Int)}{va vm:Value}(h:xD B T w b d a al va vm):∃o c o' c',va=O o al.length c/\vm=O o' al.length c':=by
 rcases h with⟨_,⟨c,rfl⟩,rfl,rfl⟩|⟨_,_,_,_,_,_,_,rfl,rfl,_⟩
 ·exact⟨_,_,_,_,rfl,rfl⟩
 ·exact⟨_,_,_,_,rfl,rfl⟩
theorem xD.keep{B T:Nat}{w w':World}{f:Option Addr}{c a:Nat}{al:List (List Int)}{va vm:Value}(h:xD B T w f c a al va vm)(g:w.heap.size<=w'.heap.size)(e:0<al.length->w'.heap[c]?=w.heap[c]?)(d:∀b,B<=b->b<w.heap.size->w'.heap[b]?=w.heap[b]?):xD B T w' f c a al va vm:=by
 rcases h with h|⟨ad,ga,gm,fa,fm,S,h1,h2,h3,h4,h5,h6,h7,h8,h9,h10⟩
 ·exact .inl h
 ·have i:=h9.lo.1;exact .inr ⟨ad,ga,gm,fa,fm,S,h1,h2,h3,h4,h5,h6,h7.of_block (d _ h4 h7.lt),h8.of_block (d _ h5 h8.lt),h9.keep (Nat.le_refl _) g e (λb h1 h2=>d b ol (by have:=h9.top;omega)),h10⟩
theorem xm(B T:Nat)(x:WD)(vd va vp vm:Value)(s1 s2:Nat)(w:World)(hx:x.In w)(X:0<x.dl->x.db<B)(q:0<x.pl->x.pb<B)(G:AS w B x.ao x.ab x.aoff x.al)(b0:B<=w.heap.size)(hp:x.pl*24<=140737488351232)(hd:x.dl*8<=140737488351232)(ha:x.al.length*24<=140737488351232)(j:LnW B T w x vd va vp vm s1 s2):
 Calls E 69 #[.agg #[J Z x.a,J Z x.b,J Z x.d,vd,va,vp],vm,x.val] w λe w'=>e=.returned (.bool true)/\Below B w w'/\∀b,T<=b->b<w.heap.size->w'.heap[b]?=w.heap[b]?:=by
 obtain⟨f,k,_,a8,_⟩:=j.d.is_;obtain⟨m,n,_,a6,_⟩:=j.p.ts;obtain⟨C,D,om,cm,a9,a7⟩:=j.a.form;have c3:=j.b1;have c2:=j.b2;have c1:=j.b3;subst a8 a6 a9 a7;have HD:Hd (LnI B w x.do_ (O f x.dl k) x.dl x.Dn):=j.d;have HP:Hd (LnP s1 w x.po (O m x.pl n) x.pl x.V x.L x.R):=j.p;have HA:Hd (xD s2 T w x.ao x.ab x.aoff x.al (O C x.al.length D) (O om x.al.length cm)):=j.a;have l:Hd (∀g,(O f x.dl k).ownBlock=N g->B<=g/\g<s1):=λg hg=>⟨(j.d.lt hg).1,j.dl g hg⟩
 have K:Hd (∀g,(O m x.pl n).ownBlock=N g->s1<=g/\g<s2):=λg hg=>⟨(j.p.lt hg).1,j.pl g hg⟩
 have a3:Hd (IS w x.do_ x.db x.doff x.dl x.Dn):=hx.is_;have c:Hd (TS w x.po x.pb x.poff x.pl x.V x.L x.R):=hx.ts;have b8:Hd (∀wz,Below B w wz->AS wz B x.ao x.ab x.aoff x.al):=λwz hb=>G.of_kept (λb hl=>hb.block b hl)
 have F:Hd (0<x.al.length->x.ab<B):=G.lt;have a1:Hd (∀wz,Below w.heap.size w wz->Calls E 79 #[O f x.dl k,O x.do_ x.dl x.dc,J Z 1] wz λe w'=>e=.returned (.bool true)/\wz.grownBy w' (O f x.dl k).ownBlock):=λwz hb=>(ZX B (O f x.dl k) x.do_ x.db x.doff x.dl x.dc x.Dn 1 wz hd (a3.o.below hb a3.o.lt) X (HD.o.below hb)).mono (λe w' ⟨s,r,_⟩=>⟨s,r⟩)
 have a0:Hd (∀wz,w.grownBy wz (O f x.dl k).ownBlock->Calls E 82 #[O m x.pl n,O x.po x.pl x.pcp] wz λe w'=>e=.returned (.bool true)/\wz.grownBy w' (O m x.pl n).ownBlock):=λwz hg=>Z5 s1 (O m x.pl n) x.po x.pb x.poff x.pl x.pcp x.V x.L x.R wz hp ⟨c.o.at_,λh=>Nat.lt_of_lt_of_le (c.o.lt h) hg.size,λi hi=>(hg.cell_far _ (c.o.lt ol) (λe=>by have s:=(l.o _ e.symm).1;have r:=q ol;exact absurd r (Nat.not_lt.2 s))).trans (c.o.val i hi),λi hi=>(hg.cell_far _ (c.o.lt ol) (λe=>by have s:=(l.o _ e.symm).1;have r:=q ol;exact absurd r (Nat.not_lt.2 s))).trans (c.o.len i hi),λi hi=>(hg.cell_far _ (c.o.lt ol) (λe=>by have s:=(l.o _ e.symm).1;have r:=q ol;exact absurd r (Nat.not_lt.2 s))).trans (c.o.reg i hi)⟩ (λh=>by have:=q h;omega) (HP.o.keep (λg hgg=>hg.block g (HP.o.lt hgg).2 (λe=>by have:=l.o _ e.symm;have:=K.o _ hgg;omega)))
 clear hx G j X q;unfold WD.val;have S:Hd (Below w.heap.size w ((w.alloc (Q #[J Z x.a,J Z x.b,J Z x.d,O f x.dl k,O C x.al.length D,O m x.pl n] 31)).alloc (Q #[J Z x.a,J Z x.b,J Z x.d,O x.do_ x.dl x.dc,O x.ao x.al.length x.ac,O x.po x.pl x.pcp] 31))):=((Below.refl _ _).alloc (Nat.le_refl _) _).alloc ot _;have I:Hd (((w.alloc (Q #[J Z x.a,J Z x.b,J Z x.d,O f x.dl k,O C x.al.length D,O m x.pl n] 31)).alloc (Q #[J Z x.a,J Z x.b,J Z x.d,O x.do_ x.dl x.dc,O x.ao x.al.length x.ac,O x.po x.pl x.pcp] 31)).heap[w.heap.size]?=N (Q #[J Z x.a,J Z x.b,J Z x.d,O f x.dl k,O C x.al.length D,O m x.pl n] 31 (0,0))):=by show _=_;rw[Below.heap_alloc _ _ _ ot];exact heap_alloc_new w _
 have H:Hd (((w.alloc (Q #[J Z x.a,J Z x.b,J Z x.d,O f x.dl k,O C x.al.length D,O m x.pl n] 31)).alloc (Q #[J Z x.a,J Z x.b,J Z x.d,O x.do_ x.dl x.dc,O x.ao x.al.length x.ac,O x.po x.pl x.pcp] 31)).heap[w.heap.size+1]?=N (Q #[J Z x.a,J Z x.b,J Z x.d,O x.do_ x.dl x.dc,O x.ao x.al.length x.ac,O x.po x.pl x.pcp] 31 (0,0))):=zl _ ot;have a5:Hd (∀g,(O f x.dl k).ownBlock=N g->g<w.heap.size):=λg hg=>(HD.o.lt hg).2
 have a2:Hd (∀g,(O m x.pl n).ownBlock=N g->g<w.heap.size):=λg hg=>(HP.o.lt hg).2
 go_enter func69,ntmps69;go_wp2_with fail;refine(a1.o _ S.o).mono ?_;rintro e w2 ⟨rfl,v⟩;have A:Hd (w.grownBy w2 (O f x.dl k).ownBlock):=xw S.o v;have z:Hd (w2.heap[w.heap.size]?=N (Q #[J Z x.a,J Z x.b,J Z x.d,O f x.dl k,O C x.al.length D,O m x.pl n] 31 (0,0))):=(v.block _ (lt_of_block I.o) (λe=>by have:=a5.o _ e.symm;omega)).trans I.o;have y:Hd (w2.heap[w.heap.size+1]?=N (Q #[J Z x.a,J Z x.b,J Z x.d,O x.do_ x.dl x.dc,O x.ao x.al.length x.ac,O x.po x.pl x.pcp] 31 (0,0))):=(v.block _ (lt_of_block H.o) (λe=>by have:=a5.o _ e.symm;omega)).trans H.o;clear v I H S a1;obtain⟨_,_,_,u3,u4,u5⟩:=ld6 z.o rfl;obtain⟨_,_,_,v3,v4,v5⟩:=ld6 y.o rfl;go_wp2_with fail;refine(a0.o _ A.o).mono ?_;rintro e U ⟨rfl,u⟩;have a4:Hd _:=u;have b5:Hd (U.heap[w.heap.size]?=N (Q #[J Z x.a,J Z x.b,J Z x.d,O f x.dl k,O C x.al.length D,O m x.pl n] 31 (0,0))):=(u.block _ (lt_of_block z.o) (λe=>by have:=a2.o _ e.symm;omega)).trans z.o;have b4:Hd (U.heap[w.heap.size+1]?=N (Q #[J Z x.a,J Z x.b,J Z x.d,O x.do_ x.dl x.dc,O x.ao x.al.length x.ac,O x.po x.pl x.pcp] 31 (0,0))):=(u.block _ (lt_of_block y.o) (λe=>by have:=a2.o _ e.symm;omega)).trans y.o;clear u z y a0 u3 u4 u5 v3 v4 v5;obtain⟨_,_,_,u3,u4,u5⟩:=ld6 b5.o rfl;obtain⟨_,_,_,v3,v4,v5⟩:=ld6 b4.o rfl;have c0:=A.o.size;have t:Hd (Below B w U):=((Below.refl B w).grown A.o b0 (λg hg=>(l.o g hg).1)).grown a4.o ol (λg hg=>by have:=K.o g hg;omega);have P:Hd (∀b,b<w.heap.size->b<B\/s2<=b->U.heap[b]?=w.heap[b]?):=λb hb h=>(a4.o.block b ol (λe=>by have:=K.o _ e.symm;omega)).trans (A.o.block b hb (λe=>by have:=l.o _ e.symm;omega))
 have b9:Hd (xD s2 T U x.ao x.ab x.aoff x.al (O C x.al.length D) (O om x.al.length cm)):=HA.o.keep t.o.size (λh=>P.o _ (by have:=F.o h;omega) (.inl (F.o h))) (λb s r=>P.o b r (.inr s));go_wp2_with fail;refine(qj B s2 T x.ao x.ab x.aoff x.ac x.al _ _ _ ha (b8.o _ t.o) (by have:=t.o.size;omega) ol b9.o).mono ?_;rintro e w4 ⟨rfl,Y,W⟩;have b7:Hd (Below B w w4):=t.o.trans (Y.mono ol);have b6:Hd (∀b,T<=b->b<w.heap.size->w4.heap[b]?=w.heap[b]?):=λb s r=>(W b s (by have:=t.o.size;omega)).trans (P.o b r (.inr ol))
 clear Y W;go_wp2_with fail;go_ret;exact⟨rfl,b7.o,b6.o⟩
theorem LnW.keep{B T:Nat}{w w':World}{x:WD}{i va f vm:Value}{s1 s2:Nat}(h:LnW B T w x i va f vm s1 s2)(j:w.heap.size<=w'.heap.size)(e:0<x.al.length->w'.heap[x.ab]?=w.heap[x.ab]?)(c:∀b,B<=b->b<w.heap.size->w'.heap[b]?=w.heap[b]?):LnW B T w' x i va f vm s1 s2:=⟨h.b1,h.b2,h.b3,h.d.keep (λg hg=>c g (h.d.lt hg).1 (h.d.lt hg).2),h.dl,h.p.keep (λg hg=>c g (Nat.le_trans h.b1 (h.p.lt hg).1) (h.p.lt hg).2),h.pl,h.a.keep j e (λb h1 h2=>c b (Nat.le_trans h.b1 (Nat.le_trans h.b2 h1)) h2)⟩
end Go.Proofs.YtaebngpoagjafabGreat
