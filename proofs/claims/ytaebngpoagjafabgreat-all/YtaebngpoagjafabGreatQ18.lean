import Derived.Test.YtaebngpoagjafabGreatQ15
set_option maxRecDepth 100000
set_option maxHeartbeats 1600000
namespace Go.Proofs.YtaebngpoagjafabGreat
open Option renaming none → F,some → N
open Bool renaming false → S,true → T
open Proofs.Tryz renaming prog → P
open Proofs.Tryz
open Obj renaming cells → X
open Value renaming int → J, slice → Q
open IntKind renaming i64 → Z, u8 → O
open Go.RowKit
attribute [local go_sem ↓] Go.wp_at_zero Go.wp_at_succ
section
attribute [local go_sem] zX zK
theorem zcz(n base B:Nat)(s:ByteArray)(d:Int)(k:Nat)(b:Bool)(l c:Value)(y:List (EX×Value))(rs:List RL)(w:World)(hX:xG (cE s rs n) s base B rs n)(hn:s.size-k<n+1)(hs:s.size<=2000)(hk:k<=s.size)(h0:0<=d)(h1:d<=k)(hl:y.length<=k)(_hrl:rs.length<=2000)(hc:zg s (zb s k b) b=116)(h:PM w base B s k b l c y rs)(R:CR)(hR:Hd (cE s rs (n+1) d y.length k b=R)):
 Calls P 125 #[.pointer (N ⟨B,0,F⟩),J Z d] w λe w' =>
  e=.returned (J Z R.idx)/\∃ev' new,new.map Prod.fst=R.es/\PM w' base B s R.k R.b ev' c (y++new) rs/\Mv base B l c ev' c w w'/\∀p∈new,∀g,p.2.ownBlock=N g->w.heap.size<=g:=by
 obtain⟨i0,d6,d4,d3,d2⟩:=info_parts infoExpr;have H:Hd _:=h;clear h;go_enter func125,ntmps125;go_wp2_with fail;refine(yl base B s k b l c y rs _ hs hk H.o).mono ?_;rintro e a ⟨rfl,m,v⟩;have a5:isK (zg s (zb s k b) b)=T:=by rw[hc];rfl
 have g8:zb s k b<s.size:=(Zw a5).2;have h3:k<=zb s k b:=yi s k b;have d8:b=S:=(Zw a5).1;subst d8;rw[j2 n d y.length k S hc rfl rfl rfl]at hR;clear a5;have b5:zg s (zb s k S) S=116:=hc;have a7:=λ(wz:World) (hz:PM wz base B s (zb s k S) S l c y rs)=>xY base B s (zb s k S) S l c y rs wz hz
 rw[b5]at a7;clear b5 hc;generalize zb s k S=p at *;have V:Hd _:=m;have g2:Hd _:=v;have c1:=m.c1;have f:=m.outNew;have I:=m.bs;have a3:w.heap.size<=a.heap.size:=v.bel.size;have b9:a.heap.size≠B:=f.1;have i1:B≠a.heap.size:=λe=>f.1 e.symm
 have h9:=m.lt;clear m v;have d7:=λw=>Xb 116 p d w
 go_wp2_with fail;go_region_held3 (λw'=>w'.cell? ⟨B,1,F⟩=N (J Z p)) (first|(exact c1)|(exact zx c1 _)|(exact zo b9 (zx c1 _) _ _)|go_keep) (first|(go_at_call 127;refine(a7 _ (by first|exact V.o.drew|exact V.o.drew.alloc _|exact V.o.alloc _|exact V.o)).mono ?_;rintro e w' ⟨rfl,q,rfl⟩))
 all_goals
  have a1:Hd (PM ((a.alloc (X #[J O 116,J Z p,J Z d,J Z 0,J Z 0,Q F 0 0,J Z (-1)] 148)).drewN (1+q)) base B s p S l c y rs):=(V.o.alloc _).drewN _;have g1:Hd (Mv base B l c l c w ((a.alloc (X #[J O 116,J Z p,J Z d,J Z 0,J Z 0,Q F 0 0,J Z (-1)] 148)).drewN (1+q))):=(g2.o.trans (Mv.alloc I _)).drewN _;have c4:Hd (((a.alloc (X #[J O 116,J Z p,J Z d,J Z 0,J Z 0,Q F 0 0,J Z (-1)] 148)).drewN (1+q)).heap[a.heap.size]?=N (X #[J O 116,J Z p,J Z d,J Z 0,J Z 0,Q F 0 0,J Z (-1)] 148 (0,0))):=heap_alloc_new a _;generalize(a.alloc (X #[J O 116,J Z p,J Z d,J Z 0,J Z 0,Q F 0 0,J Z (-1)] 148)).drewN (1+q)=w2 at *;clear c1 d7;have c1:=a1.o.c1;have z1:=a1.o.fz 1;have x0:w2.cell? ⟨a.heap.size,0,F⟩=N (J O 116):=by simp[World.cell?,c4.o]
  have b0:=λw=>ZR 116 w
  rw[show isK 116=T from rfl]at b0;go_wp2_with fail;refine(b0 _).mono ?_;rintro e w3 ⟨g6,rfl⟩;subst w3;have f4:Hd (PM (w2.setCell ⟨B,1,F⟩ (J Z ((p:Int)+1))) base B s (p+1) S l c y rs):=a1.o.at (p+1) _ ol;have g0:Hd (Mv base B l c l c w (w2.setCell ⟨B,1,F⟩ (J Z ((p:Int)+1)))):=g1.o.trans (a1.o.setMv 1 _);have c2:Hd ((w2.setCell ⟨B,1,F⟩ (J Z ((p:Int)+1))).heap[a.heap.size]?=N (X #[J O 116,J Z p,J Z d,J Z 0,J Z 0,Q F 0 0,J Z (-1)] 148 (0,0))):=(za b9).trans c4.o;have g7:(p:Int)<2000:=ol;go_wp2_with fail;clear c1 z1 x0;have h7:=zj s 40 (p+1) S;have a4:zc s 40 (p+1) S<=s.size:=zu oq ol;generalize hk1:zc s 40 (p+1) S=k1 at *;generalize hq1:zk s 40 (p+1) S=b1 at *;have h6:=z7 (b:=b1) a4;have b7:=yb (b:=b1) a4;generalize hkn:zs s k1 b1=kn at *;generalize hqn:zw s k1 b1=bn at *;have h5:=zj s 44 kn bn;have b6:zc s 44 kn bn<=s.size:=zu oq b7;generalize hk2:zc s 44 kn bn=k2 at *;generalize hq2:zk s 44 kn bn=b2 at *;have d5:=yT s rs n (d+1) y.length k2 b2 b6;have d9:=hX (d+1) k2 b2 l c y;generalize hr:cE s rs n (d+1) y.length k2 b2=r at *;generalize hk3:zc s 41 r.k r.b=k3 at *;generalize hq3:zk s 41 r.k r.b=b3 at *;generalize hnv:zM s k1 b1=nv at *;generalize hna:zb s k1 b1=na at *;have h4:d<2000:=ol;refine(yW base B s 40 (p+1) (S) l c (y) rs _ hs ol oq f4.o).mono ?_;rintro e w4 ⟨rfl,m,v⟩;rw[hk1,hq1]at m;have e6:Hd _:=m;have e9:Hd (Mv base B l c l c w w4):=(g0.o).trans v;have c0:Hd _:=(v.kept _ (lt_of_block (c2.o)) f).1.trans (c2.o);clear m v;go_wp2_with fail;refine(Zv base B s k1 b1 l c y rs _ hs a4 e6.o).mono ?_;rintro e L ⟨rfl,m,v⟩;rw[hkn,hqn]at m;have e5:Hd _:=m;have e8:Hd (Mv base B l c l c w L):=(e9.o).trans v;have z:Hd _:=(v.kept _ (lt_of_block (c0.o)) f).1.trans (c0.o);clear m v;have x0:L.cell? ⟨a.heap.size,0,F⟩=N (J O 116):=by simp[World.cell?,z.o]
  have x1:L.cell? ⟨a.heap.size,1,F⟩=N (J Z p):=by simp[World.cell?,z.o]
  have x2:L.cell? ⟨a.heap.size,2,F⟩=N (J Z d):=by simp[World.cell?,z.o]
  have x3:L.cell? ⟨a.heap.size,3,F⟩=N (J Z 0):=by simp[World.cell?,z.o]
  have x4:L.cell? ⟨a.heap.size,4,F⟩=N (J Z 0):=by simp[World.cell?,z.o]
  have x5:L.cell? ⟨a.heap.size,5,F⟩=N (Q F 0 0):=by simp[World.cell?,z.o]
  have x6:L.cell? ⟨a.heap.size,6,F⟩=N (J Z (-1)):=by simp[World.cell?,z.o]
  have xz:∀j,L.frozen? ⟨a.heap.size,j,F⟩=S:=λj=>by simp[World.frozen?,z.o]
  rw[hnv,hna];have f3:Hd (PM (((L).setCell ⟨a.heap.size,3,F⟩ (J Z nv)).setCell ⟨a.heap.size,4,F⟩ (J Z na)) base B s (kn) (bn) l c (y) rs):=((e5.o).setE (j:=3) (u:=J Z nv) ⟨_,_,z.o⟩ f.2.1).setE (j:=4) (u:=J Z na) ⟨_,_,(z9 (j:=3) (u:=J Z nv) (z.o))⟩ f.2.1;have f8:Hd (Mv base B l c l c w (((L).setCell ⟨a.heap.size,3,F⟩ (J Z nv)).setCell ⟨a.heap.size,4,F⟩ (J Z na))):=((e8.o).setNew (j:=3) a3 I (J Z nv)).setNew (j:=4) a3 I (J Z na);have d0:Hd ((((L).setCell ⟨a.heap.size,3,F⟩ (J Z nv)).setCell ⟨a.heap.size,4,F⟩ (J Z na)).heap[a.heap.size]?=N (X #[J O 116,J Z p,J Z d,J Z nv,J Z na,Q F 0 0,J Z (-1)] 148 (0,0))):=(z9 (j:=4) (u:=J Z na) ((z9 (j:=3) (u:=J Z nv) (z.o))));go_wp2_with fail;refine(yW base B s 44 (kn) (bn) l c (y) rs _ hs b7 oq f3.o).mono ?_;rintro e w7 ⟨rfl,m,v⟩;rw[hk2,hq2]at m;have e4:Hd _:=m;have c7:Hd (Mv base B l c l c w w7):=(f8.o).trans v;have a6:Hd _:=(v.kept _ (lt_of_block (d0.o)) f).1.trans (d0.o);clear m v;clear x0 x1 x2 x3 x4 x5 x6 xz;go_wp2_with fail;refine(d9 _ b6 ol ol ol (.inr ol) e4.o).mono ?_;rintro e K ⟨rfl,E,new,U,m,v,b4⟩;have a9:Hd (new.length=r.es.length):=by show _=_;rw[<-U,List.length_map]
  have g3:Hd (∀p∈new,∀g,p.2.ownBlock=N g->w.heap.size<=g):=λp m g hg=>Nat.le_trans c7.o.bel.size (b4 p m g hg)
  have f5:Hd _:=U;clear b4 U;have e3:Hd _:=m;have e7:Hd (Mv base B l c E c w K):=(c7.o).trans v;have A:Hd _:=(v.kept _ (lt_of_block (a6.o)) f).1.trans (a6.o);have c6:Hd (Out B E c a.heap.size):=(v.kept _ (lt_of_block (a6.o)) f).2;clear m v;have x0:K.cell? ⟨a.heap.size,0,F⟩=N (J O 116):=by simp[World.cell?,A.o]
  have x1:K.cell? ⟨a.heap.size,1,F⟩=N (J Z p):=by simp[World.cell?,A.o]
  have x2:K.cell? ⟨a.heap.size,2,F⟩=N (J Z d):=by simp[World.cell?,A.o]
  have x3:K.cell? ⟨a.heap.size,3,F⟩=N (J Z nv):=by simp[World.cell?,A.o]
  have x4:K.cell? ⟨a.heap.size,4,F⟩=N (J Z na):=by simp[World.cell?,A.o]
  have x5:K.cell? ⟨a.heap.size,5,F⟩=N (Q F 0 0):=by simp[World.cell?,A.o]
  have x6:K.cell? ⟨a.heap.size,6,F⟩=N (J Z (-1)):=by simp[World.cell?,A.o]
  have xz:∀j,K.frozen? ⟨a.heap.size,j,F⟩=S:=λj=>by simp[World.frozen?,A.o]
  have f2:Hd (PM ((K).setCell ⟨a.heap.size,6,F⟩ (J Z r.idx)) base B s (r.k) (r.b) E c (y++new) rs):=(e3.o).setE (j:=6) (u:=J Z r.idx) ⟨_,_,A.o⟩ c6.o.2.1;have f7:Hd (Mv base B l c E c w ((K).setCell ⟨a.heap.size,6,F⟩ (J Z r.idx))):=(e7.o).setNew (j:=6) a3 I (J Z r.idx);have c9:Hd (((K).setCell ⟨a.heap.size,6,F⟩ (J Z r.idx)).heap[a.heap.size]?=N (X #[J O 116,J Z p,J Z d,J Z nv,J Z na,Q F 0 0,J Z r.idx] 148 (0,0))):=(z9 (j:=6) (u:=J Z r.idx) (A.o));go_wp2_with fail;refine(yW base B s 41 (r.k) (r.b) E c (y++new) rs _ hs d5.2.1 oq f2.o).mono ?_;rintro e x ⟨rfl,m,v⟩;rw[hk3,hq3]at m;have c5:Hd _:=m;have c8:Hd (Mv base B l c E c w x):=(f7.o).trans v;have i:Hd _:=(v.kept _ (lt_of_block (c9.o)) c6.o).1.trans (c9.o);clear m v;clear x0 x1 x2 x3 x4 x5 x6 xz;have x0:x.cell? ⟨a.heap.size,0,F⟩=N (J O 116):=by simp[World.cell?,i.o]
  have x1:x.cell? ⟨a.heap.size,1,F⟩=N (J Z p):=by simp[World.cell?,i.o]
  have x2:x.cell? ⟨a.heap.size,2,F⟩=N (J Z d):=by simp[World.cell?,i.o]
  have x3:x.cell? ⟨a.heap.size,3,F⟩=N (J Z nv):=by simp[World.cell?,i.o]
  have x4:x.cell? ⟨a.heap.size,4,F⟩=N (J Z na):=by simp[World.cell?,i.o]
  have x5:x.cell? ⟨a.heap.size,5,F⟩=N (Q F 0 0):=by simp[World.cell?,i.o]
  have x6:x.cell? ⟨a.heap.size,6,F⟩=N (J Z r.idx):=by simp[World.cell?,i.o]
  have xz:∀j,x.frozen? ⟨a.heap.size,j,F⟩=S:=λj=>by simp[World.frozen?,i.o]
  have h2:=a9.o;have D:Hd _:=c5.o;have f9:Hd _:=c8.o;have G:Hd _:=i.o;have f0:Hd ((x).ownsRow base 155 7 (Q F 0 0) ((⟨116,p,d,nv,na,[],r.idx⟩:EX)).items.length (imC ((⟨116,p,d,nv,na,[],r.idx⟩:EX)).items)):=⟨rfl,.inl ⟨rfl,rfl⟩⟩;go_wp2_with fail;generalize x=w5 at *;clear x0 x1 x2 x3 x4 x5 x6 xz;have x0:w5.cell? ⟨a.heap.size,0,F⟩=N (J O 116):=by simp[World.cell?,G.o]
  have x1:w5.cell? ⟨a.heap.size,1,F⟩=N (J Z p):=by simp[World.cell?,G.o]
  have x2:w5.cell? ⟨a.heap.size,2,F⟩=N (J Z d):=by simp[World.cell?,G.o]
  have x3:w5.cell? ⟨a.heap.size,3,F⟩=N (J Z nv):=by simp[World.cell?,G.o]
  have x4:w5.cell? ⟨a.heap.size,4,F⟩=N (J Z na):=by simp[World.cell?,G.o]
  have x5:w5.cell? ⟨a.heap.size,5,F⟩=N (Q F 0 0):=by simp[World.cell?,G.o]
  have x6:w5.cell? ⟨a.heap.size,6,F⟩=N (J Z r.idx):=by simp[World.cell?,G.o]
  have c3:=D.o.c3;have i2:=D.o.lt;have h8:a.heap.size<w5.heap.size:=lt_of_block G.o;have z3:=D.o.fz 3;obtain⟨W,Y⟩:∃W,W=(y++new).length:=⟨_,rfl⟩;have d1:Hd _:=Y;have g4:Hd (w5.ownsRow base 148 7 E W (exC (y++new))):=by show World.ownsRow _ _ _ _ _ _ _;rw[Y];exact D.o.ex
  have g9:(W:Int)<5000:=by rw[Y];simp only[List.length_append];omega
  clear Y;have e2:Hd (W+1<=maxLen):=sx;have e1:Hd ((W+1)*72<=140737488355328):=oz;have e0:Hd (∀o:Obj,base<=(w5.alloc o).drew.heap.size):=λo=>by have:=D.o.bs;show base<=(w5.alloc o).heap.size;simp;omega
  have a8:Hd (∀u∈exV ((⟨116,p,d,nv,na,[],r.idx⟩:EX),Q F 0 0),u.oneCell'=T):=λu hu=>by simp[exV]at hu;rcases hu with rfl|rfl|rfl|rfl|rfl|rfl|rfl<;>first|rfl|exact HV1.o
  go_region_law ((refine step_append_lies _ (by rfl) _ _ _ (by rfl) base 148 i0 _ 7 72 underlying71 d6 d4 d3 d2 rfl oq E _ _ (by rfl) ((g4.o.alloc _).drew) ⟨w5.heap.size,0,F⟩ 1 1 (exV ((⟨116,p,d,nv,na,[],r.idx⟩:EX),Q F 0 0)) (by rfl) (by rfl) (World.news_of_block (cs:=#[J O 116,J Z p,J Z d,J Z nv,J Z na,Q F 0 0,J Z r.idx]) (t:=148) (fr:=(0,0)) (heap_alloc_new w5 _)) a8.o (Nat.lt_succ_self 0) e2.o e1.o (e0.o _) (w5.heap.size+1) ot ?_;intro g a0 w9 a2 C b8 g5;obtain⟨y3,yz⟩:=D.o.grown3 C))
  all_goals
   have f1:Hd (PM (w9.setCell ⟨B,3,F⟩ (Q (N ⟨g,0,F⟩) (W+1) a0)) base B s (k3) (b3) (Q (N ⟨g,0,F⟩) (W+1) a0) c (y++new++[((⟨116,p,d,nv,na,[],r.idx⟩:EX),Q F 0 0)]) rs):=((D.o.alloc _).drew).pushE d1.o C a2 ((f0.o.alloc _).drew);have f6:Hd (Mv base B l c (Q (N ⟨g,0,F⟩) (W+1) a0) c w (w9.setCell ⟨B,3,F⟩ (Q (N ⟨g,0,F⟩) (W+1) a0))):=(f9.o.trans (Mv.alloc D.o.bs _)).drew.trans (((D.o.alloc _).drew).pushMv C b8 (by show(w5.alloc _).heap.size<=_;simp));clear a2 C b8;go_wp2_with fail;go_ret;exact⟨by rw[<-hR.o];show _=Ending.returned (J Z ((y.length+r.es.length:Nat):Int));rw[<-a9.o,<-List.length_append,<-d1.o];rfl,_,new++[((⟨116,p,d,nv,na,[],r.idx⟩:EX),Q F 0 0)],by rw[<-hR.o];rw[List.map_append,f5.o];rfl,by rw[<-hR.o,<-List.append_assoc];exact f1.o,f6.o,λq hq g hg=>by
    rcases List.mem_append.1 hq with hq|hq
    ·exact g3.o q hq g hg
    ·simp at hq;subst hq;simp[Value.ownBlock]at hg⟩
end
section
attribute [local go_sem] zX zK
theorem zaJ(c:Int)(n base B:Nat)(s:ByteArray)(d:Int)(k:Nat)(b:Bool)(L f:Value)(m:List (EX×Value))(rs:List RL)(w:World)(hX:xG (cE s rs n) s base B rs n)(hn:s.size-k<n+1)(hs:s.size<=2000)(hk:k<=s.size)(h0:0<=d)(h1:d<=k)(hl:m.length<=k)(_hrl:rs.length<=2000)(hc:zg s (zb s k b) b=c)(V:c=119\/c=102\/c=109\/c=103)(h:PM w base B s k b L f m rs)(R:CR)(hR:Hd (cE s rs (n+1) d m.length k b=R)):
 Calls P 125 #[.pointer (N ⟨B,0,F⟩),J Z d] w λe w' =>
  e=.returned (J Z R.idx)/\∃ev' new,new.map Prod.fst=R.es/\PM w' base B s R.k R.b ev' f (m++new) rs/\Mv base B L f ev' f w w'/\∀p∈new,∀g,p.2.ownBlock=N g->w.heap.size<=g:=by
 obtain⟨i0,g5,g3,g2,g1⟩:=info_parts infoExpr;have H:Hd _:=h;clear h;go_enter func125,ntmps125;go_wp2_with fail;refine(yl base B s k b L f m rs _ hs hk H.o).mono ?_;rintro e a ⟨rfl,hp,C⟩;have c5:isK (zg s (zb s k b) b)=T:=by rw[hc];rcases V with rfl|rfl|rfl|rfl<;>rfl
 have k9:zb s k b<s.size:=(Zw c5).2;have m3:k<=zb s k b:=yi s k b;have g7:b=S:=(Zw c5).1;subst g7;rw[Qf n d m.length k S hc V rfl rfl rfl rfl]at hR;clear c5;have d5:zg s (zb s k S) S=c:=hc;have d0:=λ(wz:World) (hz:PM wz base B s (zb s k S) S L f m rs)=>xY base B s (zb s k S) S L f m rs wz hz
 rw[d5]at d0;clear d5 hc;have e1:(c==123)=S:=by rcases V with rfl|rfl|rfl|rfl<;>rfl
 have e2:(c==116)=S:=by rcases V with rfl|rfl|rfl|rfl<;>rfl
 have e3:(c==64)=S:=by rcases V with rfl|rfl|rfl|rfl<;>rfl
 have e4:(c==61)=S:=by rcases V with rfl|rfl|rfl|rfl<;>rfl
 have e5:0<=c/\c<256:=by rcases V with rfl|rfl|rfl|rfl<;>decide
 generalize zb s k S=p at *;have b5:Hd _:=hp;have k0:Hd _:=C;have c1:=hp.c1;have a0:=hp.outNew;have a9:=hp.bs;have c8:w.heap.size<=a.heap.size:=C.bel.size;have e0:a.heap.size≠B:=a0.1;have m9:B≠a.heap.size:=λe=>a0.1 e.symm
 have m8:=hp.lt;clear hp C;have g6:=λw=>Xb c p d w
 go_wp2_with fail;go_region_held3 (λw'=>w'.cell? ⟨B,1,F⟩=N (J Z p)) (first|(exact c1)|(exact zx c1 _)|(exact zo e0 (zx c1 _) _ _)|go_keep) (first|(go_at_call 127;refine(d0 _ (by first|exact b5.o.drew|exact b5.o.drew.alloc _|exact b5.o.alloc _|exact b5.o)).mono ?_;rintro e w' ⟨rfl,q,rfl⟩))
 all_goals
  have b8:Hd (PM ((a.alloc (X #[J O c,J Z p,J Z d,J Z 0,J Z 0,Q F 0 0,J Z (-1)] 148)).drewN (1+q)) base B s p S L f m rs):=(b5.o.alloc _).drewN _;have j1:Hd (Mv base B L f L f w ((a.alloc (X #[J O c,J Z p,J Z d,J Z 0,J Z 0,Q F 0 0,J Z (-1)] 148)).drewN (1+q))):=(k0.o.trans (Mv.alloc a9 _)).drewN _;have e7:Hd (((a.alloc (X #[J O c,J Z p,J Z d,J Z 0,J Z 0,Q F 0 0,J Z (-1)] 148)).drewN (1+q)).heap[a.heap.size]?=N (X #[J O c,J Z p,J Z d,J Z 0,J Z 0,Q F 0 0,J Z (-1)] 148 (0,0))):=heap_alloc_new a _;generalize(a.alloc (X #[J O c,J Z p,J Z d,J Z 0,J Z 0,Q F 0 0,J Z (-1)] 148)).drewN (1+q)=w2 at *;clear c1 g6;have c1:=b8.o.c1;have z1:=b8.o.fz 1;have x0:w2.cell? ⟨a.heap.size,0,F⟩=N (J O c):=by simp[World.cell?,e7.o]
  have d4:=λw=>ZR c w
  rw[show isK c=T from by rcases V with rfl|rfl|rfl|rfl<;>rfl]at d4;go_wp2_with fail;refine(d4 _).mono ?_;rintro e w3 ⟨k7,rfl⟩;subst w3;have i4:Hd (PM (w2.setCell ⟨B,1,F⟩ (J Z ((p:Int)+1))) base B s (p+1) S L f m rs):=b8.o.at (p+1) _ ol;have j0:Hd (Mv base B L f L f w (w2.setCell ⟨B,1,F⟩ (J Z ((p:Int)+1)))):=j1.o.trans (b8.o.setMv 1 _);have e6:Hd ((w2.setCell ⟨B,1,F⟩ (J Z ((p:Int)+1))).heap[a.heap.size]?=N (X #[J O c,J Z p,J Z d,J Z 0,J Z 0,Q F 0 0,J Z (-1)] 148 (0,0))):=(za e0).trans e7.o;have k8:(p:Int)<2000:=ol;go_wp2_with fail;clear c1 z1 x0;have m6:=zj s 40 (p+1) S;have d7:zc s 40 (p+1) S<=s.size:=zu oq ol;generalize hk1:zc s 40 (p+1) S=k1 at *;generalize hq1:zk s 40 (p+1) S=b1 at *;have d2:=zP (yT s rs n) c d (s.size+1-k1) m.length k1 b1 d7;generalize hl0:ze (cE s rs n) s c d (s.size+1-k1) m.length k1 b1=l at *;have m5:=zj s 124 l.k l.b;have d6:zc s 124 l.k l.b<=s.size:=zu oq d2.2.1;generalize hk2:zc s 124 l.k l.b=k2 at *;generalize hq2:zk s 124 l.k l.b=b2 at *;have g4:=yT s rs n (d+1) (m.length+l.es.length) k2 b2 d6;generalize hr:cE s rs n (d+1) (m.length+l.es.length) k2 b2=r at *;generalize hk3:zc s 41 r.k r.b=k3 at *;generalize hq3:zk s 41 r.k r.b=b3 at *;have m4:d<2000:=ol;have d3:yt c:=by rcases V with rfl|rfl|rfl|rfl<;>simp[yt]
  refine(yW base B s 40 (p+1) (S) L f (m) rs _ hs ol oq i4.o).mono ?_;rintro e w4 ⟨rfl,hp,C⟩;rw[hk1,hq1]at hp;have h5:Hd _:=hp;have c7:Hd (Mv base B L f L f w w4):=(j0.o).trans C;have K:Hd _:=(C.kept _ (lt_of_block (e6.o)) a0).1.trans (e6.o);clear hp C;have x0:w4.cell? ⟨a.heap.size,0,F⟩=N (J O c):=by simp[World.cell?,K.o]
  have x1:w4.cell? ⟨a.heap.size,1,F⟩=N (J Z p):=by simp[World.cell?,K.o]
  have x2:w4.cell? ⟨a.heap.size,2,F⟩=N (J Z d):=by simp[World.cell?,K.o]
  have x3:w4.cell? ⟨a.heap.size,3,F⟩=N (J Z 0):=by simp[World.cell?,K.o]
  have x4:w4.cell? ⟨a.heap.size,4,F⟩=N (J Z 0):=by simp[World.cell?,K.o]
  have x5:w4.cell? ⟨a.heap.size,5,F⟩=N (Q F 0 0):=by simp[World.cell?,K.o]
  have x6:w4.cell? ⟨a.heap.size,6,F⟩=N (J Z (-1)):=by simp[World.cell?,K.o]
  have xz:∀j,w4.frozen? ⟨a.heap.size,j,F⟩=S:=λj=>by simp[World.frozen?,K.o]
  go_wp2_with fail;clear x0 x1 x2 x3 x4 x5 x6 xz;refine(jj (cE s rs n) base B s c d (k1) (b1) L f m rs _ n hX (yT s rs n) (xB s rs n) h0 ol ol (.inr ol) hs d7 d3 h5.o l hl0).mono ?_;rintro e w6 ⟨v,a2,new,rfl,E,hp,C,a8,a7,c9⟩;obtain⟨y,z,A,rfl⟩:∃y z A,v=Q y z A:=by
   rcases a7.2 with⟨rfl,_⟩|⟨g,b0,cur,rfl,_⟩
   ·exact⟨F,0,0,rfl⟩
   ·exact⟨_,_,_,rfl⟩
  have c4:Hd (new.length=l.es.length):=by show _=_;rw[<-E,List.length_map]
  have k4:Hd (∀p∈new,∀g,p.2.ownBlock=N g->w.heap.size<=g):=λp hp g hg=>Nat.le_trans c7.o.bel.size (a8 p hp g hg)
  have h8:Hd (∀g,(Q y z A).ownBlock=N g->w.heap.size<=g):=λg hg=>Nat.le_trans c7.o.bel.size (c9 g hg).1
  have i5:Hd _:=E;have i1:Hd ((Q y z A).oneCell'=T):=rfl;have f5:Hd _:=a7;clear a8 E c9 a7;have h4:Hd _:=hp;have h7:Hd (Mv base B L f a2 f w w6):=(c7.o).trans C;have I:Hd _:=(C.kept _ (lt_of_block (K.o)) a0).1.trans (K.o);have b7:Hd (Out B a2 f a.heap.size):=(C.kept _ (lt_of_block (K.o)) a0).2;clear hp C;have x0:w6.cell? ⟨a.heap.size,0,F⟩=N (J O c):=by simp[World.cell?,I.o]
  have x1:w6.cell? ⟨a.heap.size,1,F⟩=N (J Z p):=by simp[World.cell?,I.o]
  have x2:w6.cell? ⟨a.heap.size,2,F⟩=N (J Z d):=by simp[World.cell?,I.o]
  have x3:w6.cell? ⟨a.heap.size,3,F⟩=N (J Z 0):=by simp[World.cell?,I.o]
  have x4:w6.cell? ⟨a.heap.size,4,F⟩=N (J Z 0):=by simp[World.cell?,I.o]
  have x5:w6.cell? ⟨a.heap.size,5,F⟩=N (Q F 0 0):=by simp[World.cell?,I.o]
  have x6:w6.cell? ⟨a.heap.size,6,F⟩=N (J Z (-1)):=by simp[World.cell?,I.o]
  have xz:∀j,w6.frozen? ⟨a.heap.size,j,F⟩=S:=λj=>by simp[World.frozen?,I.o]
  have f7:Hd (PM ((w6).setCell ⟨a.heap.size,5,F⟩ (Q y z A)) base B s (l.k) (l.b) a2 f (m++new) rs):=(h4.o).setE (j:=5) (u:=Q y z A) ⟨_,_,I.o⟩ b7.o.2.1;have i8:Hd (Mv base B L f a2 f w ((w6).setCell ⟨a.heap.size,5,F⟩ (Q y z A))):=(h7.o).setNew (j:=5) c8 a9 (Q y z A);have f4:Hd (((w6).setCell ⟨a.heap.size,5,F⟩ (Q y z A)).heap[a.heap.size]?=N (X #[J O c,J Z p,J Z d,J Z 0,J Z 0,Q y z A,J Z (-1)] 148 (0,0))):=(z9 (j:=5) (u:=Q y z A) (I.o));have a5:Hd (((w6).setCell ⟨a.heap.size,5,F⟩ (Q y z A)).ownsRow base 155 7 (Q y z A) l.ims.length (imC l.ims)):=ownsRow_setCell_other (f5.o) (zi (f5.o) (I.o) oq) (Q y z A);go_wp2_with fail;refine(yW base B s 124 (l.k) (l.b) a2 f (m++new) rs _ hs d2.2.1 oq f7.o).mono ?_;rintro e w7 ⟨rfl,hp,C⟩;rw[hk2,hq2]at hp;have e8:Hd _:=hp;have f1:Hd (Mv base B L f a2 f w w7):=(i8.o).trans C;have c6:Hd _:=(C.kept _ (lt_of_block (f4.o)) b7.o).1.trans (f4.o);have a3:Hd (w7.ownsRow base 155 7 (Q y z A) l.ims.length (imC l.ims)):=zd (a5.o) (λg hg=>(C.kept g ((a5.o).lt g hg).2 ((f7.o).outI (a5.o) hg)).1);clear hp C;clear x0 x1 x2 x3 x4 x5 x6 xz;go_wp2_with fail;have c2:=c4.o;have d9:=hX (d+1) k2 b2 a2 f (m++new) w7 d6 ol ol (by simp only[List.length_append];omega) (.inr ol) e8.o;rw[show(m++new).length=m.length+l.es.length from by rw[List.length_append,c2],hr]at d9;refine(d9).mono ?_;rintro e w8 ⟨rfl,W,i,E,hp,C,a8⟩;have c0:Hd (i.length=r.es.length):=by show _=_;rw[<-E,List.length_map]
  have g0:Hd (∀p∈new++i,∀g,p.2.ownBlock=N g->w.heap.size<=g):=λp hp g hg=>by
   rcases List.mem_append.1 hp with hp|hp
   ·exact k4.o p hp g hg
   ·exact Nat.le_trans f1.o.bel.size (a8 p hp g hg)
  have f8:Hd ((new++i).map Prod.fst=l.es++r.es):=by show _=_;rw[List.map_append,i5.o,E]
  rw[List.append_assoc]at hp;clear a8 E c2;have h3:Hd _:=hp;have h6:Hd (Mv base B L f W f w w8):=(f1.o).trans C;have G:Hd _:=(C.kept _ (lt_of_block (c6.o)) b7.o).1.trans (c6.o);have f0:Hd (Out B W f a.heap.size):=(C.kept _ (lt_of_block (c6.o)) b7.o).2;have b4:Hd (w8.ownsRow base 155 7 (Q y z A) l.ims.length (imC l.ims)):=zd (a3.o) (λg hg=>(C.kept g ((a3.o).lt g hg).2 ((e8.o).outI (a3.o) hg)).1);clear hp C;have x0:w8.cell? ⟨a.heap.size,0,F⟩=N (J O c):=by simp[World.cell?,G.o]
  have x1:w8.cell? ⟨a.heap.size,1,F⟩=N (J Z p):=by simp[World.cell?,G.o]
  have x2:w8.cell? ⟨a.heap.size,2,F⟩=N (J Z d):=by simp[World.cell?,G.o]
  have x3:w8.cell? ⟨a.heap.size,3,F⟩=N (J Z 0):=by simp[World.cell?,G.o]
  have x4:w8.cell? ⟨a.heap.size,4,F⟩=N (J Z 0):=by simp[World.cell?,G.o]
  have x5:w8.cell? ⟨a.heap.size,5,F⟩=N (Q y z A):=by simp[World.cell?,G.o]
  have x6:w8.cell? ⟨a.heap.size,6,F⟩=N (J Z (-1)):=by simp[World.cell?,G.o]
  have xz:∀j,w8.frozen? ⟨a.heap.size,j,F⟩=S:=λj=>by simp[World.frozen?,G.o]
  have f6:Hd (PM ((w8).setCell ⟨a.heap.size,6,F⟩ (J Z r.idx)) base B s (r.k) (r.b) W f (m++(new++i)) rs):=(h3.o).setE (j:=6) (u:=J Z r.idx) ⟨_,_,G.o⟩ f0.o.2.1;have i7:Hd (Mv base B L f W f w ((w8).setCell ⟨a.heap.size,6,F⟩ (J Z r.idx))):=(h6.o).setNew (j:=6) c8 a9 (J Z r.idx);have f3:Hd (((w8).setCell ⟨a.heap.size,6,F⟩ (J Z r.idx)).heap[a.heap.size]?=N (X #[J O c,J Z p,J Z d,J Z 0,J Z 0,Q y z A,J Z r.idx] 148 (0,0))):=(z9 (j:=6) (u:=J Z r.idx) (G.o));have a4:Hd (((w8).setCell ⟨a.heap.size,6,F⟩ (J Z r.idx)).ownsRow base 155 7 (Q y z A) l.ims.length (imC l.ims)):=ownsRow_setCell_other (b4.o) (zi (b4.o) (G.o) oq) (J Z r.idx);go_wp2_with fail;refine(yW base B s 41 (r.k) (r.b) W f (m++(new++i)) rs _ hs g4.2.1 oq f6.o).mono ?_;rintro e D ⟨rfl,hp,C⟩;rw[hk3,hq3]at hp;have e9:Hd _:=hp;have f2:Hd (Mv base B L f W f w D):=(i7.o).trans C;have x:Hd _:=(C.kept _ (lt_of_block (f3.o)) f0.o).1.trans (f3.o);have a6:Hd (D.ownsRow base 155 7 (Q y z A) l.ims.length (imC l.ims)):=zd (a4.o) (λg hg=>(C.kept g ((a4.o).lt g hg).2 ((f6.o).outI (a4.o) hg)).1);clear hp C;clear x0 x1 x2 x3 x4 x5 x6 xz;have x0:D.cell? ⟨a.heap.size,0,F⟩=N (J O c):=by simp[World.cell?,x.o]
  have x1:D.cell? ⟨a.heap.size,1,F⟩=N (J Z p):=by simp[World.cell?,x.o]
  have x2:D.cell? ⟨a.heap.size,2,F⟩=N (J Z d):=by simp[World.cell?,x.o]
  have x3:D.cell? ⟨a.heap.size,3,F⟩=N (J Z 0):=by simp[World.cell?,x.o]
  have x4:D.cell? ⟨a.heap.size,4,F⟩=N (J Z 0):=by simp[World.cell?,x.o]
  have x5:D.cell? ⟨a.heap.size,5,F⟩=N (Q y z A):=by simp[World.cell?,x.o]
  have x6:D.cell? ⟨a.heap.size,6,F⟩=N (J Z r.idx):=by simp[World.cell?,x.o]
  have xz:∀j,D.frozen? ⟨a.heap.size,j,F⟩=S:=λj=>by simp[World.frozen?,x.o]
  have m1:=c4.o;have m2:=c0.o;have Y:Hd (PM (D) base B s (k3) (b3) W f (m++(new++i)) rs):=e9.o;have i9:Hd _:=f2.o;have a1:Hd _:=x.o;have i2:Hd _:=a6.o;have h9:Hd ((D).ownsRow base 155 7 (Q y z A) ((⟨c,p,d,0,0,l.ims,r.idx⟩:EX)).items.length (imC ((⟨c,p,d,0,0,l.ims,r.idx⟩:EX)).items)):=a6.o;go_wp2_with fail;generalize D=w5 at *;clear x0 x1 x2 x3 x4 x5 x6 xz;have x0:w5.cell? ⟨a.heap.size,0,F⟩=N (J O c):=by simp[World.cell?,a1.o]
  have x1:w5.cell? ⟨a.heap.size,1,F⟩=N (J Z p):=by simp[World.cell?,a1.o]
  have x2:w5.cell? ⟨a.heap.size,2,F⟩=N (J Z d):=by simp[World.cell?,a1.o]
  have x3:w5.cell? ⟨a.heap.size,3,F⟩=N (J Z 0):=by simp[World.cell?,a1.o]
  have x4:w5.cell? ⟨a.heap.size,4,F⟩=N (J Z 0):=by simp[World.cell?,a1.o]
  have x5:w5.cell? ⟨a.heap.size,5,F⟩=N (Q y z A):=by simp[World.cell?,a1.o]
  have x6:w5.cell? ⟨a.heap.size,6,F⟩=N (J Z r.idx):=by simp[World.cell?,a1.o]
  have c3:=Y.o.c3;have n0:=Y.o.lt;have m7:a.heap.size<w5.heap.size:=lt_of_block a1.o;have z3:=Y.o.fz 3;obtain⟨n9,b6⟩:∃n9,n9=(m++(new++i)).length:=⟨_,rfl⟩;have f9:Hd (n9=(m++(new++i)).length):=b6;have k5:Hd (w5.ownsRow base 148 7 W n9 (exC (m++(new++i)))):=by show World.ownsRow _ _ _ _ _ _ _;rw[b6];exact Y.o.ex
  have m0:(n9:Int)<5000:=by rw[b6];simp only[List.length_append];omega
  clear b6;have h2:Hd (n9+1<=maxLen):=sx;have g9:Hd ((n9+1)*72<=140737488355328):=oz;have g8:Hd (∀o:Obj,base<=(w5.alloc o).drew.heap.size):=λo=>by have:=Y.o.bs;show base<=(w5.alloc o).heap.size;simp;omega
  have d1:Hd (∀u∈exV ((⟨c,p,d,0,0,l.ims,r.idx⟩:EX),Q y z A),u.oneCell'=T):=λu hu=>by simp[exV]at hu;rcases hu with rfl|rfl|rfl|rfl|rfl|rfl|rfl<;>first|rfl|exact i1.o
  go_region_law ((refine step_append_lies _ (by rfl) _ _ _ (by rfl) base 148 i0 _ 7 72 underlying71 g5 g3 g2 g1 rfl oq W _ _ (by rfl) ((k5.o.alloc _).drew) ⟨w5.heap.size,0,F⟩ 1 1 (exV ((⟨c,p,d,0,0,l.ims,r.idx⟩:EX),Q y z A)) (by rfl) (by rfl) (World.news_of_block (cs:=#[J O c,J Z p,J Z d,J Z 0,J Z 0,Q y z A,J Z r.idx]) (t:=148) (fr:=(0,0)) (heap_alloc_new w5 _)) d1.o (Nat.lt_succ_self 0) h2.o g9.o (g8.o _) (w5.heap.size+1) ot ?_;intro g b0 w9 b9 U d8 k6;obtain⟨y3,yz⟩:=Y.o.grown3 U))
  all_goals
   have i3:Hd (PM (w9.setCell ⟨B,3,F⟩ (Q (N ⟨g,0,F⟩) (n9+1) b0)) base B s (k3) (b3) (Q (N ⟨g,0,F⟩) (n9+1) b0) f (m++(new++i)++[((⟨c,p,d,0,0,l.ims,r.idx⟩:EX),Q y z A)]) rs):=((Y.o.alloc _).drew).pushE f9.o U b9 ((h9.o.alloc _).drew);have i6:Hd (Mv base B L f (Q (N ⟨g,0,F⟩) (n9+1) b0) f w (w9.setCell ⟨B,3,F⟩ (Q (N ⟨g,0,F⟩) (n9+1) b0))):=(i9.o.trans (Mv.alloc Y.o.bs _)).drew.trans (((Y.o.alloc _).drew).pushMv U d8 (by show(w5.alloc _).heap.size<=_;simp));clear b9 U d8;go_wp2_with fail;go_ret;exact⟨by rw[<-hR.o];show _=Ending.returned (J Z ((m.length+l.es.length+r.es.length:Nat):Int));rw[<-c4.o,<-c0.o,Nat.add_assoc,<-List.length_append,<-List.length_append,<-f9.o];rfl,_,(new++i)++[((⟨c,p,d,0,0,l.ims,r.idx⟩:EX),Q y z A)],by rw[<-hR.o];rw[List.map_append,f8.o];rfl,by rw[<-hR.o,<-List.append_assoc];exact i3.o,i6.o,λq hq g hg=>by
    rcases List.mem_append.1 hq with hq|hq
    ·exact g0.o q hq g hg
    ·simp at hq;subst hq;exact h8.o g hg⟩
end
section
attribute [local go_sem] zX zK
theorem JN(c:Int)(base B:Nat)(s:ByteArray)(d:Int)(k:Nat)(b:Bool)(f a:Value)(m:List (EX×Value))(rs:List RL)(w:World)(U:s.size<=2000)(V:k<=s.size)(y:zg s (zb s k b) b=c)(x:isK c=S)(h:PM w base B s k b f a m rs):
 Calls P 125 #[.pointer (N ⟨B,0,F⟩),J Z d] w λe w' =>
  e=.returned (J Z (-1))/\PM w' base B s (zb s k b) T f a m rs/\Mv base B f a f a w w':=by
 have H:Hd (PM w base B s k b f a m rs):=h;clear h;go_enter func125,ntmps125;go_wp2_with fail;refine(yl base B s k b f a m rs _ U V H.o).mono ?_;rintro e g ⟨rfl,n,K⟩;have r:=λ(wz:World) (hz:PM wz base B s (zb s k b) b f a m rs)=>xY base B s (zb s k b) b f a m rs wz hz
 rw[y]at r;have A:=YK s (zb s k b) b;rw[y]at A;clear y;generalize hpe:zb s k b=p at *;have E:Hd (zb s k b=p):=hpe;clear hpe;have i:Hd (PM g base B s p b f a m rs):=n;have I:Hd (Mv base B f a f a w g):=K;have v:=n.c1;have l:=n.outNew;have u:=n.bs;have C:g.heap.size≠B:=l.1;have Y:B≠g.heap.size:=λe=>l.1 e.symm
 have W:=n.lt;clear n K;have z:=λw=>Xb c p d w
 go_wp2_with fail;go_region_held3 (λw'=>w'.cell? ⟨B,1,F⟩=N (J Z p)) (first|(exact v)|(exact zx v _)|(exact zo C (zx v _) _ _)|go_keep) (first|(go_at_call 127;refine(r _ (by first|exact i.o.drew|exact i.o.drew.alloc _|exact i.o.alloc _|exact i.o)).mono ?_;rintro e w' ⟨rfl,q,rfl⟩))
 all_goals
  have j:Hd (PM ((g.alloc (X #[J O c,J Z p,J Z d,J Z 0,J Z 0,Q F 0 0,J Z (-1)] 148)).drewN (1+q)) base B s p b f a m rs):=(i.o.alloc _).drewN _;have G:Hd (Mv base B f a f a w ((g.alloc (X #[J O c,J Z p,J Z d,J Z 0,J Z 0,Q F 0 0,J Z (-1)] 148)).drewN (1+q))):=(I.o.trans (Mv.alloc u _)).drewN _;have D:Hd (((g.alloc (X #[J O c,J Z p,J Z d,J Z 0,J Z 0,Q F 0 0,J Z (-1)] 148)).drewN (1+q)).heap[g.heap.size]?=N (X #[J O c,J Z p,J Z d,J Z 0,J Z 0,Q F 0 0,J Z (-1)] 148 (0,0))):=heap_alloc_new g _;generalize(g.alloc (X #[J O c,J Z p,J Z d,J Z 0,J Z 0,Q F 0 0,J Z (-1)] 148)).drewN (1+q)=w2 at *;clear v z;have c2:=j.o.c2;have z2:=j.o.fz 2;have x0:w2.cell? ⟨g.heap.size,0,F⟩=N (J O c):=by simp[World.cell?,D.o]
  have t:=λw=>ZR c w
  rw[x]at t;go_wp2_with fail;refine(t _).mono ?_;rintro e L ⟨R,rfl⟩;subst L;go_wp2_with fail;go_ret;exact⟨rfl,by rw[E.o];exact j.o.bad T,G.o.trans (j.o.setMv 2 _)⟩
theorem zfD(s:ByteArray)(rs:List RL)(base B:Nat)(l:s.size<=2000)(a:rs.length<=2000)(n:Nat):xG (cE s rs n) s base B rs n:=by
 induction n with
 | zero =>
  intro d k b f i g w j r q o u h;have x:b=T:=by
   rcases u with h|h
   ·exact h
   ·omega
  subst x;refine(JN 0 base B s d k T f i g rs w l j (YL _ _) rfl h).mono ?_;rintro e y ⟨rfl,t,v⟩;exact⟨rfl,f,[],rfl,by rw[List.append_nil];exact t,v,ot⟩
 | succ n ih =>
  intro d k b f i g w j r q o u h;cases hcc:isK (zg s (zb s k b) b)with
  | false =>
   refine(JN _ base B s d k b f i g rs w l j rfl hcc h).mono ?_;rintro e y ⟨rfl,t,v⟩;rw[JS n d g.length k b hcc];exact⟨rfl,f,[],rfl,by rw[List.append_nil];exact t,v,ot⟩
  | true =>
   have x:b=S:=(Zw hcc).1;have m:s.size-k<n+1:=by
    rcases u with h|h
    ·rw[x]at h;cases h
    ·exact h
   obtain⟨c,p⟩:∃c,zg s (zb s k b) b=c:=⟨_,rfl⟩;rw[p]at hcc;have h8:c=123\/c=116\/c=64\/c=61\/(c=119\/c=102\/c=109\/c=103):=by
    simp[isK]at hcc;omega
   rcases h8 with rfl|rfl|rfl|rfl|h8
   ·exact Q3 n base B s d k b f i g rs w ih m l j r q o a p h _ rfl
   ·exact zcz n base B s d k b f i g rs w ih m l j r q o a p h _ rfl
   ·exact JO n base B s d k b f i g rs w l j r q o a p h _ rfl
   ·exact zaI n base B s d k b f i g rs w l j r q o a p h _ rfl
   ·exact zaJ c n base B s d k b f i g rs w ih m l j r q o a p h8 h _ rfl
end
section
theorem infoRule:(Tryz.prog.info? 143).map (λi=>(i.zero,i.size,i.bytes))=N (N (.agg #[J Z 0,J Z 0,J Z 0]),3,24):=kr
theorem zfO(a b e:Int)(w:World):(Instr.build 143 #[(0,.agg #[J Z a,J Z b]),(1,J Z e)]).run P w=.ok (.agg #[J Z a,J Z b,J Z e]) w:=run_build w 143 _ _ kr
structure CU where
 rl:RL
 es:List EX
 k:Nat
 b:Bool
def zE(s:ByteArray)(rs:List RL)(m k:Nat)(b:Bool):CU :=
 let r:=cE s rs (s.size+1) 0 m (zc s 58 (zR s k b) (zZ s k b)) (zk s 58 (zR s k b) (zZ s k b))
 ⟨⟨zg s (zb s k b) b,zb s k b,r.idx⟩,r.es,r.k,r.b⟩
theorem Yn(s:ByteArray)(rs:List RL)(m k:Nat)(b:Bool)(a:k<=s.size):k<=(zE s rs m k b).k/\(zE s rs m k b).k<=s.size/\(zE s rs m k b).es.length+k<=(zE s rs m k b).k:=by
 have e:=Yu s k b;have d:=zj s 58 (zR s k b) (zZ s k b);have c:=yT s rs (s.size+1) 0 m (zc s 58 (zR s k b) (zZ s k b)) (zk s 58 (zR s k b) (zZ s k b)) (zu oq (xT a));simp only[zE];omega
theorem PM.pushR{w w4:World}{base B s k b ev rv es rs}(h:PM w base B s k b ev rv es rs){r:RL}{n g cap:Nat}(j:n=rs.length)(i:w.grownBy w4 rv.ownBlock)(c:w4.ownsRow base 143 3 (Q (N ⟨g,0,F⟩) (n+1) cap) (n+1) (rlC rs++rlV r)):
 PM (w4.setCell ⟨B,4,F⟩ (Q (N ⟨g,0,F⟩) (n+1) cap)) base B s k b ev (Q (N ⟨g,0,F⟩) (n+1) cap) es (rs++[r]):=by
 subst j;have a:w4.heap[B]?=N (X #[.string s,J Z k,.bool b,ev,rv] 104 (0,0)):=(i.block B h.lt (λe=>zi h.rl h.blk oq e.symm)).trans h.blk;have d:w4.ownsRow base 148 7 ev es.length (exC es):=h.ex.kept i (zV h.ex h.rl oq);have f:∀(q:Value) (n:Nat) (xs:List Value),w.ownsRow base 155 7 q n xs->w4.ownsRow base 155 7 q n xs:=λq n xs hq=>hq.kept i (zV hq h.rl oq)
 have m:rlC (rs++[r])=rlC rs++rlV r:=by simp[rlC]
 have l:(rs++[r]).length=rs.length+1:=ot;refine⟨Yo a,ownsRow_setCell_other d (zi d a oq) _,?_,λp hp=>?_,h.hB⟩
 ·rw[m,l];exact ownsRow_setCell_other c (zi c a oq) _
 ·have:=f _ _ _ (h.it p hp)
  exact ownsRow_setCell_other this (zi this a oq) _
theorem PM.pushRMv{w w4:World}{base B s k b ev rv es rs}(h:PM w base B s k b ev rv es rs){g n cap H:Nat}(c:w.grownBy w4 rv.ownBlock)(a:rv.ownBlock=N g\/g=H)(d:w.heap.size<=H):
 Mv base B ev rv ev (Q (N ⟨g,0,F⟩) n cap) w (w4.setCell ⟨B,4,F⟩ (Q (N ⟨g,0,F⟩) n cap)):=by
 refine⟨((Below.refl _ _).grown c h.bs (λq hq=>(h.rl.lt q hq).1)).setCell h.hB _,λx hx ho=>⟨?_,ho.1,ho.2.1,?_⟩⟩
 ·rw[za ho.1];exact c.block x hx (λe=>ho.2.2 e.symm)
 ·intro e;simp[Value.ownBlock]at e;subst e;rcases a with e|e
  ·exact ho.2.2 e
  ·omega
theorem PM.grown4{w c:World}{base B s k b ev rv es rs}(h:PM w base B s k b ev rv es rs){o:Obj}(f:((w.alloc o).drew).grownBy c rv.ownBlock):c.cell? ⟨B,4,F⟩=N rv/\c.frozen? ⟨B,4,F⟩=S:=by
 have a:=(h.alloc o).drew;have d:=(f.block B a.lt (λe=>zi a.rl a.blk oq e.symm)).trans a.blk;exact⟨by simp[World.cell?,d],by simp[World.frozen?,d]⟩
attribute [local go_sem] zX zK
theorem zde(base B:Nat)(s:ByteArray)(k:Nat)(b:Bool)(p d:Value)(f:List (EX×Value))(rs:List RL)(w:World)(Y:s.size<=2000)(hk:k<=s.size)(hl:f.length<=k)(a0:rs.length<=2000)(h:PM w base B s k b p d f rs)(R:CU)(hR:Hd (zE s rs f.length k b=R)):
 Calls P 86 #[.pointer (N ⟨B,0,F⟩)] w λe w' =>
  e=.returned (.tuple #[])/\∃ev' rv' new,new.map Prod.fst=R.es/\PM w' base B s R.k R.b ev' rv' (f++new) (rs++[R.rl])/\Mv base B p d ev' rv' w w':=by
 obtain⟨i0,a1,W,V,U⟩:=info_parts infoRule;have H:Hd _:=h;clear h;unfold zE at hR;go_enter func86,ntmps86;go_wp2_with fail;refine(QJ base B s k b p d f rs _ Y hk H.o).mono ?_;rintro e v ⟨rfl,m,l⟩;have D:Hd _:=m;have b8:Hd _:=l;have c6:=Yu s k b;have K:=xT (b:=b) hk;clear m l;generalize hk1:zR s k b=k1 at *;generalize hq1:zZ s k b=b1 at *;generalize hna:zb s k b=na at *;generalize hnv:zg s na b=nv at *;have c5:=zj s 58 k1 b1;have I:zc s 58 k1 b1<=s.size:=zu oq K;generalize hk2:zc s 58 k1 b1=k2 at *;generalize hq2:zk s 58 k1 b1=b2 at *;have c1:=yT s rs (s.size+1) 0 f.length k2 b2 I;have a3:=zfD s rs base B Y a0 (s.size+1) 0 k2 b2 p d f;generalize hr:cE s rs (s.size+1) 0 f.length k2 b2=r at *;have x:=D.o.outNew;have G:=D.o.bs;have a9:Hd (PM (v.alloc (X #[J Z nv,J Z na] 141)) base B s k1 b1 p d f rs):=D.o.alloc _;have b7:Hd (Mv base B p d p d w (v.alloc (X #[J Z nv,J Z na] 141))):=b8.o.trans (Mv.alloc G _);have S:Hd ((v.alloc (X #[J Z nv,J Z na] 141)).heap[v.heap.size]?=N (X #[J Z nv,J Z na] 141 (0,0))):=heap_alloc_new v _;go_wp2_with fail;refine(yW base B s 58 k1 b1 p d f rs _ Y K oq a9.o).mono ?_;rintro e w3 ⟨rfl,m,l⟩;rw[hk2,hq2]at m;have a8:Hd _:=m;have b6:Hd _:=b7.o.trans l;have O:Hd _:=(l.kept _ (lt_of_block S.o) x).1.trans S.o;clear m l;go_wp2_with fail;refine(a3 w3 I ol ol ol (.inr ol) a8.o).mono ?_;rintro e i ⟨rfl,A,new,z,m,l,a2⟩;have c:Hd _:=m;have b5:Hd _:=b6.o.trans l;have C:Hd _:=(l.kept _ (lt_of_block O.o) x).1.trans O.o;have b0:Hd _:=z;clear m l a2 z;have x0:i.cell? ⟨v.heap.size,0,F⟩=N (J Z nv):=by simp[World.cell?,C.o]
 have x1:i.cell? ⟨v.heap.size,1,F⟩=N (J Z na):=by simp[World.cell?,C.o]
 have c4:=c.o.c4;have c8:=c.o.lt;have c7:v.heap.size<i.heap.size:=lt_of_block C.o;have z4:=c.o.fz 4;have c3:=λw=>zfO nv na r.idx w
 obtain⟨j,n⟩:∃j,j=rs.length:=⟨_,rfl⟩;have b3:Hd _:=n;have b9:Hd (i.ownsRow base 143 3 d j (rlC rs)):=by show World.ownsRow _ _ _ _ _ _ _;rw[n];exact c.o.rl
 have c2:(j:Int)<5000:=by rw[n];omega
 clear n;have a6:Hd (j+1<=maxLen):=sx;have a5:Hd ((j+1)*24<=140737488355328):=oz;have a4:Hd (∀o:Obj,base<=(i.alloc o).drew.heap.size):=λo=>by have:=c.o.bs;show base<=(i.alloc o).heap.size;simp;omega
 have E:Hd (∀u∈rlV ⟨nv,na,r.idx⟩,u.oneCell'=T):=λu hu=>by simp[rlV]at hu;rcases hu with rfl|rfl|rfl<;>rfl
 go_wp2_with fail;go_region_law ((refine step_append_lies _ (by rfl) _ _ _ (by rfl) base 143 i0 _ 3 24 underlying72 a1 W V U rfl oq d _ _ (by rfl) ((b9.o.alloc _).drew) ⟨i.heap.size,0,F⟩ 1 1 (rlV ⟨nv,na,r.idx⟩) (by rfl) (by rfl) (World.news_of_block (cs:=#[J Z nv,J Z na,J Z r.idx]) (t:=143) (fr:=(0,0)) (heap_alloc_new i _)) E.o (Nat.lt_succ_self 0) a6.o a5.o (a4.o _) (i.heap.size+1) ot ?_;intro g q w9 y a L c0;obtain⟨y3,yz⟩:=c.o.grown4 a))
 all_goals
  have a7:Hd (PM (w9.setCell ⟨B,4,F⟩ (Q (N ⟨g,0,F⟩) (j+1) q)) base B s r.k r.b A (Q (N ⟨g,0,F⟩) (j+1) q) (f++new) (rs++[⟨nv,na,r.idx⟩])):=((c.o.alloc _).drew).pushR b3.o a y;have b4:Hd (Mv base B p d A (Q (N ⟨g,0,F⟩) (j+1) q) w (w9.setCell ⟨B,4,F⟩ (Q (N ⟨g,0,F⟩) (j+1) q))):=(b5.o.trans (Mv.alloc c.o.bs _)).drew.trans (((c.o.alloc _).drew).pushRMv a L (by show(i.alloc _).heap.size<=_;simp));clear y a L;go_wp2_with fail;go_end0
  exact⟨rfl,A,_,new,by rw[<-hR.o];exact b0.o,by rw[<-hR.o];exact a7.o,b4.o⟩
end
section
structure CP where
 es:List EX
 rs:List RL
 k:Nat
 b:Bool
def zA(s:ByteArray):Nat->List RL->Nat->Nat->Bool->CP
 |0,rs,_,k,b=>⟨[],rs,k,b⟩
 | n+1,rs,m,k,b =>
  let r:=zE s rs m k b
  if z6 s 59 r.k r.b=T then
   let q:=zA s n (rs++[r.rl]) (m+r.es.length) (zc s 59 r.k r.b) r.b
   ⟨r.es++q.es,q.rs,q.k,q.b⟩
  else⟨r.es,rs++[r.rl],zc s 59 r.k r.b,r.b⟩
def zy(s:ByteArray):CP:=zA s (s.size+1) [] 0 0 S
attribute [local go_sem] zX zK
theorem zbW(base B:Nat)(s:ByteArray)(L K:Value)(w:World)(Y:s.size<=2000)(h:PM w base B s 0 S L K [] [])(R:CP)(hR:Hd (zy s=R)):
 Calls P 48 #[.pointer (N ⟨B,0,F⟩)] w λe w' =>
  e=.returned (.tuple #[])/\R.k<=s.size/\R.es.length<=s.size/\R.rs.length<=s.size+1/\∃ev' rv' es,es.map Prod.fst=R.es/\PM w' base B s R.k (R.b || decide (R.k<s.size)) ev' rv' es R.rs/\Mv base B L K ev' rv' w w':=by
 have H:Hd _:=h;clear h;go_enter func48,ntmps48;go_wp2_with fail;go_loopg [2] (s.size+2) (λn mv wr=>∃(f:Nat) (c:Nat) (d:Bool) (ev' rv':Value) (es:List (EX×Value)) (rs:List RL),c<=s.size/\es.length<=c/\rs.length<=c+1 /\
  ((mv=.bool T/\n=f+1/\s.size+1<=f+c/\rs.length<=c/\Hd (R=⟨es.map Prod.fst++(zA s f rs es.length c d).es,(zA s f rs es.length c d).rs,(zA s f rs es.length c d).k,(zA s f rs es.length c d).b⟩))\/(mv=.bool S/\n=0/\Hd (R=⟨es.map Prod.fst,rs,c,d⟩))) /\
  PM wr base B s c d ev' rv' es rs/\Mv base B L K ev' rv' w wr)
 case atStart =>
  refine⟨s.size+1,0,S,L,K,[],[],Nat.zero_le _,ot,ot,.inl ⟨rfl,rfl,ol,ot,?_⟩,H.o,Mv.refl _ _ _ _ _⟩;show _=_;rw[<-hR.o];rfl
 case round =>
  obtain⟨f,c,d,ev',rv',es,rs,i,O,a2,p,Z,hm⟩:=hrel;have l:Hd _:=Z;have W:Hd _:=hm;clear Z hm;rcases p with⟨rfl,hgk,hfk,hrk,HE⟩|⟨rfl,hgk,HE⟩
  ·obtain⟨f,rfl⟩:∃f',f=f'+1:=⟨f-1,ol⟩;have z:=Yn s rs es.length c d i;generalize hr:zE s rs es.length c d=r at *;have j:Hd (R=if z6 s 59 r.k r.b=T then⟨es.map Prod.fst++(r.es++(zA s f (rs++[r.rl]) (es.length+r.es.length) (zc s 59 r.k r.b) r.b).es),(zA s f (rs++[r.rl]) (es.length+r.es.length) (zc s 59 r.k r.b) r.b).rs,(zA s f (rs++[r.rl]) (es.length+r.es.length) (zc s 59 r.k r.b) r.b).k,(zA s f (rs++[r.rl]) (es.length+r.es.length) (zc s 59 r.k r.b) r.b).b⟩else⟨es.map Prod.fst++r.es,rs++[r.rl],zc s 59 r.k r.b,r.b⟩):=by
    show _=_;rw[HE.o];simp only[zA,hr];split<;>rfl
   have Q:Hd _:=hr;clear HE hr;go_wp2_with fail;refine(zde base B s c d ev' rv' es rs _ Y i O ol l.o r Q).mono ?_;rintro e w2 ⟨rfl,t,m,a,g,y,C⟩;have U:Hd _:=y;have V:Hd _:=W.o.trans C;have I:Hd ((es++a).map Prod.fst=es.map Prod.fst++r.es):=(by show _=_;rw[List.map_append,g]);have q:Hd (a.length=r.es.length):=(by show _=_;rw[<-g,List.length_map]);clear y C g;go_wp2_with fail;refine(Qp base B s 59 r.k r.b t m _ _ _ Y z.2.1 oq U.o).mono ?_;rintro e w5 ⟨rfl,x,A⟩;have G:Hd _:=x;have J:Hd _:=V.o.trans A;have a3:=q.o;have a1:=zj s 59 r.k r.b;have v:zc s 59 r.k r.b<=s.size:=zu oq z.2.1;clear x A;cases ht:z6 s 59 r.k r.b with
   | true =>
    have a0:r.k+1<=zc s 59 r.k r.b:=by
     unfold zc;rw[if_pos ht];have:=yi s r.k r.b;omega
    have u:Hd (R=⟨(es++a).map Prod.fst++(zA s f (rs++[r.rl]) (es++a).length (zc s 59 r.k r.b) r.b).es,(zA s f (rs++[r.rl]) (es++a).length (zc s 59 r.k r.b) r.b).rs,(zA s f (rs++[r.rl]) (es++a).length (zc s 59 r.k r.b) r.b).k,(zA s f (rs++[r.rl]) (es++a).length (zc s 59 r.k r.b) r.b).b⟩):=by
     show _=_;have e3:(es++a).length=es.length+r.es.length:=(by simp only[List.length_append];omega);rw[j.o,if_pos ht,e3,I.o,List.append_assoc]
    clear j ht;go_wp2_with fail;go_roundg (f+1)
    case measure=>omega
    case rel=>exact⟨f,zc s 59 r.k r.b,r.b,t,m,es++a,rs++[r.rl],v,by simp only[List.length_append];omega,ow,.inl ⟨rfl,rfl,ol,ow,u⟩,G.o,J.o⟩
   | false =>
    have u:Hd (R=⟨(es++a).map Prod.fst,rs++[r.rl],zc s 59 r.k r.b,r.b⟩):=by
     show _=_;rw[j.o,if_neg (by rw[ht];decide),I.o]
    clear j ht;go_wp2_with fail;go_roundg 0
    case measure=>omega
    case rel=>exact⟨0,zc s 59 r.k r.b,r.b,t,m,es++a,rs++[r.rl],v,by simp only[List.length_append];omega,ow,.inr ⟨rfl,rfl,u⟩,G.o,J.o⟩
  ·have c0:=l.o.c0;have c1:=l.o.c1;have c2:=l.o.c2;have z2:=l.o.fz 2;by_cases E:c<s.size
   ·have D:(c:Int)<(s.size:Int):=(by omega);have X:Hd ((d || decide (c<s.size))=T):=(by show _=_;rw[decide_eq_true E,Bool.or_true]);go_wp2_with fail;go_quiet (fail)
    go_wp2_with fail;go_end0
    refine⟨rfl,by rw[HE.o];exact i,by rw[HE.o];simp;omega,by rw[HE.o];show rs.length<=_;omega,ev',rv',es,by rw[HE.o],?_,(W.o.drewN _).trans ((l.o.drewN _).setMv 2 _)⟩;rw[HE.o];simp only[X.o];exact(l.o.drewN _).bad T
   ·have D:¬(c:Int)<(s.size:Int):=(by omega);have X:Hd ((d || decide (c<s.size))=d):=(by show _=_;rw[decide_eq_false E,Bool.or_false]);go_wp2_with fail;go_quiet (fail)
    go_wp2_with fail;go_end0
    refine⟨rfl,by rw[HE.o];exact i,by rw[HE.o];simp;omega,by rw[HE.o];show rs.length<=_;omega,ev',rv',es,by rw[HE.o],?_,W.o.drewN _⟩;rw[HE.o];simp only[X.o];exact l.o.drewN _
end
end Go.Proofs.YtaebngpoagjafabGreat
