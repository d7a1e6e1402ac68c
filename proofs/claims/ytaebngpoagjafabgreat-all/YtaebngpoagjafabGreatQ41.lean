import Derived.Test.YtaebngpoagjafabGreatQ40
set_option maxRecDepth 100000
set_option maxHeartbeats 1600000
namespace Go.Proofs.YtaebngpoagjafabGreat
open Option renaming some → F,none → N
open Proofs.Tryz renaming prog → S
open Proofs.Tryz
open Obj renaming cells → Q
open Value renaming int → J, slice → O
open IntKind renaming i64 → Z
open Go.RowKit
attribute [local go_sem ↓] Go.wp_at_zero Go.wp_at_succ
theorem zb7{s:ByteArray}{Y:List (Int×List Int)}(h:Pol s Y):(∀t∈spl (bare s) 59,2<=t.size)/\ZO (spl (bare s) 59)=Y.map (λy=>strOfNums y.2)/\YE (spl (bare s) 59) (spl (bare s) 59).length=strOfNums (Y.map Prod.fst):=by
 refine⟨λt ht=>?_,?_,?_⟩
 ·rw[h.sp]at ht;simp only[List.mem_map]at ht;obtain⟨x,⟨y,_,rfl⟩,rfl⟩:=ht;rw[strOfNums_size];simp[ruT]
 ·rw[h.sp];unfold ZO;rw[List.map_map,List.map_map];apply List.map_congr_left
  intro y _;exact xM [y.1,58] y.2
 ·have b:∀j,j<=Y.length->YE (spl (bare s) 59) j=strOfNums ((Y.take j).map Prod.fst):=by
   intro j;induction j with
   |zero=>intro _;rfl
   | succ j ih =>
    intro d;have c:Y[j]?=F Y[j]:=List.getElem?_eq_getElem ol;have a:(spl (bare s) 59)[j]?=F (strOfNums (ruT Y[j])):=(by rw[h.sp,List.getElem?_map,List.getElem?_map,c];rfl);simp only[YE,a];rw[ih ol,XG,za3,show(Y.take (j+1))=Y.take j++[Y[j]]from by rw[List.take_add_one,c];rfl,List.map_append];rfl
  have a:(spl (bare s) 59).length=Y.length:=by rw[h.sp];simp
  rw[a,b Y.length (Nat.le_refl _),List.take_length]
theorem zdS(c a n tc:Nat)(t:ByteArray)(w:World)(i:0<n)(g:n<=2001)(j:w.cell? ⟨c,1,N⟩=F (O (F ⟨a,0,N⟩) n tc))(f:w.cell? ⟨a,n-1,N⟩=F (.string t)):
 Calls S 118 #[.pointer (F ⟨c,0,N⟩)] w λe w'=>Below w.heap.size w w'/\e=.returned (.string t):=by
 have h:(1:Int)<=(n:Int):=ol;have b:(n:Int)<=2001:=ol;have d:w.cell? ⟨a,((n:Int)-1).toNat,N⟩=F (.string t):=by rw[show((n:Int)-1).toNat=n-1 from by omega];exact f
 go_enter func118,ntmps118;go_wp2_with fail;go_quiet (fail)
 go_wp2_with fail;go_ret;exact⟨zC (Below.refl _ _) _,rfl⟩
theorem qR(s:ByteArray)(x:WD)(C w:World)(D:(yv s).1=0)(K:x.In C)(a4:Below C.heap.size C w)(hr:x.right=true):
 Calls S 72 #[.string s,x.val] w (ZV C.heap.size w (mnN x.rw (zy s).es (zy s).es.length)):=by
 have c2:=a4.size;obtain⟨Y,B⟩:=zdr D;obtain⟨hs,_⟩:=QD D;obtain⟨h2,hT,hN⟩:=zb7 B;have a0:0<Y.length:=List.length_pos_iff.2 B.ne;have c7:(bare s).size<=2000:=by unfold Go.Proofs.YtaebngpoagjafabGreat.bare;rw[strOfNums_size];exact Nat.le_trans (Qh s s.size) hs
 have u:Y.length<=2001/\∀y∈Y,y.2.length<=2000:=by
  have h1:(spl (bare s) 59).length=Y.length:=by rw[B.sp];simp
  have h3:=(qn (bare s) 59 (bare s).size).2.1;refine⟨by rw[<-h1];simp only[spl,List.length_append,List.length_cons,List.length_nil];omega,λy hy=>?_⟩;have h4:=Yv (c:=59) (Y.map ruT) (ruT y) (List.mem_map.2 ⟨y,hy,rfl⟩);have h5:(bare s).size=(joi 59 (Y.map ruT)).length:=by rw[B.br,strOfNums_size]
  simp only[ruT,List.length_append,List.length_cons,List.length_nil]at h4;omega
 -- the last rule
 obtain⟨r,R,a7⟩:=B.last;have a8:(zy s).rs[(zy s).rs.length-1]?=F r:=by rw[List.getLast?_eq_getElem?]at R;exact R
 have L:=B.rx.len;obtain⟨y,hy⟩:∃y,Y[Y.length-1]?=F y:=⟨Y[Y.length-1]'(by omega),List.getElem?_eq_getElem _⟩;obtain⟨_,j,hj,_,a5⟩:=B.rx.at_ _ r y a8 (by rw[<-L];exact hy);have b0:j+1=(zy s).es.length:=by rw[a7]at hj;have:=B.pos;omega
 have hb:Byt (Y.map Prod.fst):=λc hc=>by
  simp only[List.mem_map]at hc;obtain⟨z,hz,rfl⟩:=hc;have:=B.let_ z hz
  omega
 have P:=Qz s;have HX:Hd _:=K;have b5:=Qg s;have b4:=zga D;have G:Hd (∀(l t tc:Nat) (wz:World),MQ x C.heap.size l t tc (strOfNums (Y.map Prod.fst)) Y wz->Calls S 117 #[.pointer (F ⟨l,0,N⟩),.string (strOfNums y.2),x.val] wz (ZV C.heap.size wz (mnN x.rw (zy s).es (zy s).es.length))):=λl t tc wz hq=>by
  have:=zdO hr K.ndl K.nal (by rw[strOfNums_size,List.length_map];exact u.1) (by rw[strOfNums_size,List.length_map]) (λi z hz=>by rw[yA hb,List.getElem?_map,hz];rfl) u.2 b5 b4 a5 (u.2 y (List.mem_of_getElem? hy)) wz hq
  rw[b0]at this;exact this
 have b9:Hd (∀(l t tc:Nat) (wz:World),MQ x C.heap.size l t tc (strOfNums (Y.map Prod.fst)) Y wz->Calls S 118 #[.pointer (F ⟨l,0,N⟩)] wz λe w'=>Below wz.heap.size wz w'/\e=.returned (.string (strOfNums y.2))):=λl t tc wz hq=>zdS l t Y.length tc (strOfNums y.2) wz a0 u.1 hq.c1 (hq.tx _ y hy)
 have b7:Hd (∀wz,Below w.heap.size w wz->Calls S 53 #[.string s] wz λe w'=>Below wz.heap.size wz w'/\∃l t tc,e=.returned (.pointer (F ⟨l,0,N⟩))/\MQ x C.heap.size l t tc (strOfNums (Y.map Prod.fst)) Y w'):=λwz hbz=>(P wz hs h2).mono (λe w' ⟨n,l,tv,he,hpp⟩=>by
  have E:=a4.trans ((hbz.trans (n.mono hbz.size)).mono c2);have q:=hpp.row;rw[hT]at q;obtain⟨t,tc,a6,_,c4⟩:=q.form (by simpa using a0);refine⟨n,l,t,tc,he,⟨E.size,K.ts.below E,K.is_.below E K.is_.lt,K.as_.of_kept (λb hl=>E.block b hl),hpp.lt,c4,by rw[hpp.c0,hN],by rw[hpp.c1,a6];simp,λi z hz=>?_⟩⟩;have c6:=(List.getElem?_eq_some_iff.1 hz).1;rw[a6]at q;rw[World.ownsRow.cellAt q i (by simpa using c6)];simp[hz])
 obtain⟨m,HM⟩:∃m,Hd (mnN x.rw (zy s).es (zy s).es.length=m):=⟨_,rfl⟩;rw[HM.o]at G⊢;clear K hr D B h2 hT hN a0 c7 u R a7 a8 L a5 b0 hb P b5 b4 hj hs;unfold WD.val at G⊢;have H:Hd (Below w.heap.size w ((w.alloc (Q #[J Z x.a,J Z x.b,J Z x.d,O x.do_ x.dl x.dc,O x.ao x.al.length x.ac,O x.po x.pl x.pcp] 31)).alloc (Q #[O N 0 0,J Z 0,J Z 0] 42))):=((Below.refl _ _).alloc (Nat.le_refl _) _).alloc ot _;have a1:Hd (((w.alloc (Q #[J Z x.a,J Z x.b,J Z x.d,O x.do_ x.dl x.dc,O x.ao x.al.length x.ac,O x.po x.pl x.pcp] 31)).alloc (Q #[O N 0 0,J Z 0,J Z 0] 42)).heap[w.heap.size]?=F (Q #[J Z x.a,J Z x.b,J Z x.d,O x.do_ x.dl x.dc,O x.ao x.al.length x.ac,O x.po x.pl x.pcp] 31 (0,0))):=by show _=_;rw[Below.heap_alloc _ _ _ ot];exact heap_alloc_new w _
 have a2:Hd (((w.alloc (Q #[J Z x.a,J Z x.b,J Z x.d,O x.do_ x.dl x.dc,O x.ao x.al.length x.ac,O x.po x.pl x.pcp] 31)).alloc (Q #[O N 0 0,J Z 0,J Z 0] 42)).heap[w.heap.size+1]?=F (Q #[O N 0 0,J Z 0,J Z 0] 42 (0,0))):=zl _ ot;go_enter func72,ntmps72;go_wp2_with fail;refine(b7.o _ H.o).mono ?_;rintro e I ⟨n,l,t,tc,rfl,a9⟩;have a3:Hd _:=H.o.trans (n.mono H.o.size);have A:Hd _:=(n.block _ (lt_of_block a1.o)).trans a1.o;have b6:Hd _:=(n.block _ (lt_of_block a2.o)).trans a2.o;have b8:Hd _:=a9;have c5:=lt_of_block b6.o;obtain⟨q0,q1,q2,q3,q4,q5⟩:=ld6 A.o rfl;have d1:Hd (∀wz,Below I.heap.size I wz->Calls S 118 #[.pointer (F ⟨l,0,N⟩)] wz λe w'=>Below wz.heap.size wz w'/\e=.returned (.string (strOfNums y.2))):=λwz hb=>b9.o l t tc wz (b8.o.below hb)
 have d0:Hd (∀wz,Below I.heap.size I wz->Calls S 117 #[.pointer (F ⟨l,0,N⟩),.string (strOfNums y.2),.agg #[J Z x.a,J Z x.b,J Z x.d,O x.do_ x.dl x.dc,O x.ao x.al.length x.ac,O x.po x.pl x.pcp]] wz (ZV C.heap.size wz m)):=λwz hb=>G.o l t tc wz (b8.o.below hb)
 clear n a9 H a1 a2 b7 b9 G;go_upto_region 2 with fail
 go_region_held3 (λw'=>w'.cell? ⟨w.heap.size,0,N⟩=F (J Z x.a)/\w'.cell? ⟨w.heap.size,1,N⟩=F (J Z x.b)/\w'.cell? ⟨w.heap.size,2,N⟩=F (J Z x.d)/\w'.cell? ⟨w.heap.size,3,N⟩=F (O x.do_ x.dl x.dc)/\w'.cell? ⟨w.heap.size,4,N⟩=F (O x.ao x.al.length x.ac)/\w'.cell? ⟨w.heap.size,5,N⟩=F (O x.po x.pl x.pcp)) (first|(exact p)|(exact c8)|(exact⟨q0,q1,q2,q3,q4,q5⟩)|(exact⟨zo f (zo f (zo f p.1 _ _) _ _) _ _,zo f (zo f (zo f p.2.1 _ _) _ _) _ _,zo f (zo f (zo f p.2.2.1 _ _) _ _) _ _,zo f (zo f (zo f p.2.2.2.1 _ _) _ _) _ _,zo f (zo f (zo f p.2.2.2.2.1 _ _) _ _) _ _,zo f (zo f (zo f p.2.2.2.2.2 _ _) _ _) _ _⟩)|go_keep) (first|(go_at_call 118;refine(d1.o _ (by first|exact(Below.refl _ _).drew|exact Below.refl _ _)).mono ?_;rintro e w2 ⟨b3,rfl⟩;have g:Below I.heap.size I w2:=(by first|exact(Below.refl _ _).drew.trans (b3.mono (Nat.le_refl _))|exact b3);have c8:=ld6 A.o (g.block _ (lt_of_block A.o)))|(go_at_call 117;refine(d0.o _ (by first|exact g|exact g.drew)).mono ?_;rintro e w3 ⟨b2,o,k,gi,gf,rfl,U,b1⟩;have W:Below I.heap.size I w3:=(by first|exact g.trans (b2.mono g.size)|exact g.drew.trans (b2.mono g.size));have p:=ld6 A.o (W.block _ (lt_of_block A.o));have f:w.heap.size+1≠w.heap.size:=ol;have X:w3.heap[w.heap.size+1]?=F (Q #[O N 0 0,J Z 0,J Z 0] 42 (0,0)):=(W.block _ c5).trans b6.o;have c9:Hd (w3.heap[w.heap.size+1]?=F (Q #[O N 0 0,J Z 0,J Z 0] 42 (0,0))):=X;obtain⟨y0,y1,y2,z0,z1,z2⟩:=ld3 X;clear X))
 all_goals
  go_wp2_with fail;have d2:=ym (x':=O o m.sv.length k) (y':=J Z m.ttl) (z':=J Z m.sc) c9.o;have c3:=a3.o.size;refine bodyPost_ret (v:=.agg #[O o m.sv.length k,J Z m.ttl,J Z m.sc]) (YU results72 _ _ _ ⟨w.heap.size+1,0,N⟩ _ rfl (run_loadVar_row _ _ _ _ _ _ _ d2 underlying42 rfl kr)) rfl ⟨(((a3.o.trans (W.mono c3)).setCell ox _).setCell ox _).setCell ox _,o,k,gi,gf,rfl,⟨U.at_,λh=>by have:=U.lt h;simpa using this,λi hi=>?_⟩,λh=>by have h1:=b1 h;have h2:=g.size;have h4:=a3.o.size;first|omega|(rcases h1 with h1|h1;exact .inl h1;exact .inr (Nat.le_trans (Nat.le_trans h4 h2) h1))⟩;have V:gi≠w.heap.size+1:=by
   have h1:=b1 ol;have h2:=g.size;omega
  rw[World.cell?_of_block (w:=w3) (by rw[za V,za V,za V])];exact U.val i hi
theorem J0(s:ByteArray)(x:WD)(w:World)(a:(yv s).1=0)(b:x.In w)(c:x.right=true):
 Calls S 72 #[.string s,x.val] w (ZV w.heap.size w (mnN x.rw (zy s).es (zy s).es.length)):=qR s x w w a b (Below.refl _ _) c
end Go.Proofs.YtaebngpoagjafabGreat
