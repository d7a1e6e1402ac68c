import Derived.Test.YtaebngpoagjafabGreatQ08
set_option maxRecDepth 100000
set_option maxHeartbeats 1600000
namespace Go.Proofs.YtaebngpoagjafabGreat
open Option renaming some → F,none → N
open Bool renaming true → S,false → E
open Proofs.Tryz renaming prog → P
open Proofs.Tryz
open Obj renaming cells → Q
open Value renaming int → J, slice → O
open IntKind renaming i64 → Z
open Go.RowKit
attribute [local go_sem ↓] Go.wp_at_zero Go.wp_at_succ
theorem JI(ex:Int->Nat->Nat->Bool->CR)(base B:Nat)(s:ByteArray)(d:Int)(k:Nat)(b:Bool)(u q:Value)(x:List (EX×Value))(rs:List RL)(w:World)(n:Nat)(hX:xG ex s base B rs n)(h0:0<=d)(h1:d+1<=k)(hl:x.length<=k)(hn:b=S\/s.size-k<n)(hs:s.size<=2000)(hk:k<=s.size)(h:PM w base B s k b u q x rs)(R:CI)(hR:Hd ((zv ex s 103 d x.length k b)=R)):
 Calls P 170 #[.pointer (F ⟨B,0,N⟩),J .u8 103,J Z d] w λe w'=>e=.returned (.agg #[J Z R.im.at_,J Z R.im.num,J Z R.im.pv,J Z R.im.pl,J Z R.im.wv,J Z R.im.wa,J Z R.im.arm])/\∃ev' new,new.map Prod.fst=R.es/\PM w' base B s R.k R.b ev' q (x++new) rs/\Mv base B u q ev' q w w'/\∀p∈new,∀g,p.2.ownBlock=F g->w.heap.size<=g:=by
 have H:Hd (PM (w.alloc (Q #[J Z 0,J Z 0,J Z 0,J Z 0,J Z 0,J Z 0,J Z 0] 155)) base B s k b u q x rs):=h.alloc _;have b2:Hd (Mv base B u q u q w (w.alloc (Q #[J Z 0,J Z 0,J Z 0,J Z 0,J Z 0,J Z 0,J Z 0] 155))):=Mv.alloc h.bs _;have D:=h.outNew;have a4:=h.bs;have b3:Hd (Fre w.heap.size x):=h.fre (Nat.le_refl _);clear h;go_enter func170,ntmps170;go_wp2_with fail;refine(yl base B s k b u q x rs _ hs hk H.o).mono ?_;rintro e c ⟨rfl,f,t⟩;have I:Hd (c.heap[w.heap.size]?=F (Q #[J Z 0,J Z 0,J Z 0,J Z 0,J Z 0,J Z 0,J Z 0] 155 (0,0))):=(t.kept _ ot D).1.trans (heap_alloc_new w _);have K:zb s k b<=s.size:=zO hk;have a2:k<=zb s k b:=by unfold zb;split<;>first|exact Nat.le_refl _|exact T.sk_ge s k
 unfold zv at hR;generalize zb s k b=p at *;have HP:Hd (PM (c.alloc (Q #[J Z p,J Z 0,J Z 0,J Z 0,J Z 0,J Z 0,J Z (-1)] 155)) base B s p b u q x rs):=f.alloc _;have HM:Hd (Mv base B u q u q w (c.alloc (Q #[J Z p,J Z 0,J Z 0,J Z 0,J Z 0,J Z 0,J Z (-1)] 155))):=(b2.o.trans t).trans (Mv.alloc f.bs _);have z:=f.outNew;have Y:Hd (Fre c.heap.size x):=f.fre (Nat.le_refl _);have V:w.heap.size<c.heap.size:=lt_of_block I.o;have RH:Hd ((c.alloc (Q #[J Z p,J Z 0,J Z 0,J Z 0,J Z 0,J Z 0,J Z (-1)] 155)).heap[w.heap.size]?=F (Q #[J Z 0,J Z 0,J Z 0,J Z 0,J Z 0,J Z 0,J Z 0] 155 (0,0))):=(Below.heap_alloc _ _ _ V).trans I.o;have XH:Hd ((c.alloc (Q #[J Z p,J Z 0,J Z 0,J Z 0,J Z 0,J Z 0,J Z (-1)] 155)).heap[c.heap.size]?=F (Q #[J Z p,J Z 0,J Z 0,J Z 0,J Z 0,J Z 0,J Z (-1)] 155 (0,0))):=heap_alloc_new c _;have c1:=f.c1;clear f t I;have b9:=λw=>X8 p (-1) w
 have b8:=λa b w=>xx a b w
 have b5:w.heap.size≠B:=D.1;have a1:w.heap.size≠c.heap.size:=ol;have b6:c.heap.size≠B:=z.1;go_wp2_with fail;clear c1;refine(Zv base B s p b u q x rs _ hs K HP.o).mono ?_;rintro e A ⟨rfl,f,t⟩;have a7:Hd _:=f;have b0:Hd (Mv base B u q u q w A):=(HM.o).trans t;have I:Hd (A.heap[w.heap.size]?=F (Q #[J Z 0,J Z 0,J Z 0,J Z 0,J Z 0,J Z 0,J Z 0] 155 (0,0))):=(t.kept _ (by first|(simp;omega)|(simp[World.size_setCell];exact C.o)) D).1.trans (RH.o);have y:Hd (A.heap[c.heap.size]?=F (Q #[J Z p,J Z 0,J Z 0,J Z 0,J Z 0,J Z 0,J Z (-1)] 155 (0,0))):=(t.kept _ (by first|(simp;done)|(simp[World.size_setCell];exact G.o)) z).1.trans (XH.o);have C:Hd (w.heap.size<A.heap.size):=lt_of_block I.o;have G:Hd (c.heap.size<A.heap.size):=lt_of_block y.o;clear f t;have x0:A.cell? ⟨c.heap.size,0,N⟩=F (J Z p):=by simp[World.cell?,y.o]
 have x1:A.cell? ⟨c.heap.size,1,N⟩=F (J Z 0):=by simp[World.cell?,y.o]
 have x2:A.cell? ⟨c.heap.size,2,N⟩=F (J Z 0):=by simp[World.cell?,y.o]
 have x3:A.cell? ⟨c.heap.size,3,N⟩=F (J Z 0):=by simp[World.cell?,y.o]
 have x4:A.cell? ⟨c.heap.size,4,N⟩=F (J Z 0):=by simp[World.cell?,y.o]
 have x5:A.cell? ⟨c.heap.size,5,N⟩=F (J Z 0):=by simp[World.cell?,y.o]
 have x6:A.cell? ⟨c.heap.size,6,N⟩=F (J Z (-1)):=by simp[World.cell?,y.o]
 have xz:∀j,A.frozen? ⟨c.heap.size,j,N⟩=E:=λj=>by simp[World.frozen?,y.o]
 go_wp2_with fail;clear x0 x1 x2 x3 x4 x5 x6 xz;refine(yW base B s 58 _ _ u q x rs _ hs (yb K) oq (a7.o.setI ⟨_,_,y.o⟩ Y.o)).mono ?_;rintro e U ⟨rfl,f,t⟩;have a6:Hd _:=f;have a9:Hd (Mv base B u q u q w U):=(b0.o.setNew ol ol _).trans t;have I:Hd (U.heap[w.heap.size]?=F (Q #[J Z 0,J Z 0,J Z 0,J Z 0,J Z 0,J Z 0,J Z 0] 155 (0,0))):=(t.kept _ (by first|(simp;omega)|(simp[World.size_setCell];exact C.o)) D).1.trans (by rw[za a1];exact I.o);have y:Hd (U.heap[c.heap.size]?=F (Q #[J Z p,J Z (zM s p b),J Z 0,J Z 0,J Z 0,J Z 0,J Z (-1)] 155 (0,0))):=(t.kept _ (by first|(simp;done)|(simp[World.size_setCell];exact G.o)) z).1.trans (z9 y.o);have C:Hd (w.heap.size<U.heap.size):=lt_of_block I.o;have G:Hd (c.heap.size<U.heap.size):=lt_of_block y.o;clear f t;go_wp2_with fail;have a3:zc s 58 (zs s p b) (zw s p b)<=s.size:=zu oq (yb K);have b7:k<=zc s 58 (zs s p b) (zw s p b):=Nat.le_trans a2 (Nat.le_trans (z7 K) (zj _ _ _ _));have W:zk s 58 (zs s p b) (zw s p b)=S\/s.size-zc s 58 (zs s p b) (zw s p b)<n:=by
  rcases hn with hn|hn
  ·exact .inl (qk (QE hn))
  ·exact .inr ol
 refine(hX (d+1) _ _ u q x _ a3 ol ol ol W a6.o).mono ?_;rintro e m ⟨rfl,ev',new,O,f,t,L⟩;generalize ex (d+1) x.length (zc s 58 (zs s p b) (zw s p b)) (zk s 58 (zs s p b) (zw s p b))=r at *;have a5:Hd _:=f;have a8:Hd _:=a9.o.trans t;have l:Hd (m.heap[w.heap.size]?=F (Q #[J Z 0,J Z 0,J Z 0,J Z 0,J Z 0,J Z 0,J Z 0] 155 (0,0))):=(t.kept _ C.o D).1.trans I.o;have i:Hd (m.heap[c.heap.size]?=F (Q #[J Z p,J Z (zM s p b),J Z 0,J Z 0,J Z 0,J Z 0,J Z (-1)] 155 (0,0))):=(t.kept _ G.o z).1.trans y.o;have a0:Hd (Fre w.heap.size (x++new)):=b3.o.app (λp f e=>by have:=L p f _ e;have:=C.o;omega);have X:Hd (Fre c.heap.size (x++new)):=Y.o.app (λp f e=>by have:=L p f _ e;have:=G.o;omega);have b1:Hd _:=O;have b4:Hd (∀p∈new,∀g,p.2.ownBlock=F g->w.heap.size<=g):=λp f g hg=>by have:=L p f g hg;have:=C.o;omega
 clear f t L O;have x0:m.cell? ⟨c.heap.size,0,N⟩=F (J Z p):=by simp[World.cell?,i.o]
 have x1:m.cell? ⟨c.heap.size,1,N⟩=F (J Z (zM s p b)):=by simp[World.cell?,i.o]
 have x2:m.cell? ⟨c.heap.size,2,N⟩=F (J Z 0):=by simp[World.cell?,i.o]
 have x3:m.cell? ⟨c.heap.size,3,N⟩=F (J Z 0):=by simp[World.cell?,i.o]
 have x4:m.cell? ⟨c.heap.size,4,N⟩=F (J Z 0):=by simp[World.cell?,i.o]
 have x5:m.cell? ⟨c.heap.size,5,N⟩=F (J Z 0):=by simp[World.cell?,i.o]
 have x6:m.cell? ⟨c.heap.size,6,N⟩=F (J Z (-1)):=by simp[World.cell?,i.o]
 have xz:∀j,m.frozen? ⟨c.heap.size,j,N⟩=E:=λj=>by simp[World.frozen?,i.o]
 have r0:m.cell? ⟨w.heap.size,0,N⟩=F (J Z 0):=by simp[World.cell?,l.o]
 have r1:m.cell? ⟨w.heap.size,1,N⟩=F (J Z 0):=by simp[World.cell?,l.o]
 have r2:m.cell? ⟨w.heap.size,2,N⟩=F (J Z 0):=by simp[World.cell?,l.o]
 have r3:m.cell? ⟨w.heap.size,3,N⟩=F (J Z 0):=by simp[World.cell?,l.o]
 have r4:m.cell? ⟨w.heap.size,4,N⟩=F (J Z 0):=by simp[World.cell?,l.o]
 have r5:m.cell? ⟨w.heap.size,5,N⟩=F (J Z 0):=by simp[World.cell?,l.o]
 have r6:m.cell? ⟨w.heap.size,6,N⟩=F (J Z 0):=by simp[World.cell?,l.o]
 have rz:∀j,m.frozen? ⟨w.heap.size,j,N⟩=E:=λj=>by simp[World.frozen?,l.o]
 go_wp2_with fail;exact bodyPost_ret (v:=.agg #[J Z p,J Z (zM s p b),J Z 0,J Z 0,J Z 0,J Z 0,J Z r.idx]) (by simp[results,results170,go_sem,r0,r1,r2,r3,r4,r5,r6]) rfl ⟨by rw[<-hR.o];rfl,ev',new,by rw[<-hR.o];exact b1.o,by rw[<-hR.o];exact(a5.o.setI ⟨_,_,i.o⟩ X.o).setI7 (zL.set ⟨_,_,l.o⟩ _ _ _) a0.o,(a8.o.setNew ol ol _).setNew7 (Nat.le_refl _) a4 _ _ _ _ _ _ _,b4.o⟩
theorem zcj(ex:Int->Nat->Nat->Bool->CR)(base B:Nat)(s:ByteArray)(d:Int)(k:Nat)(b:Bool)(u q:Value)(y:List (EX×Value))(rs:List RL)(w:World)(n:Nat)(hX:xG ex s base B rs n)(h0:0<=d)(h1:d+1<=k)(hl:y.length<=k)(hn:b=S\/s.size-k<n)(hs:s.size<=2000)(hk:k<=s.size)(h:PM w base B s k b u q y rs)(R:CI)(hR:Hd ((zv ex s 109 d y.length k b)=R)):
 Calls P 170 #[.pointer (F ⟨B,0,N⟩),J .u8 109,J Z d] w λe w'=>e=.returned (.agg #[J Z R.im.at_,J Z R.im.num,J Z R.im.pv,J Z R.im.pl,J Z R.im.wv,J Z R.im.wa,J Z R.im.arm])/\∃ev' new,new.map Prod.fst=R.es/\PM w' base B s R.k R.b ev' q (y++new) rs/\Mv base B u q ev' q w w'/\∀p∈new,∀g,p.2.ownBlock=F g->w.heap.size<=g:=by
 have H:Hd (PM (w.alloc (Q #[J Z 0,J Z 0,J Z 0,J Z 0,J Z 0,J Z 0,J Z 0] 155)) base B s k b u q y rs):=h.alloc _;have b2:Hd (Mv base B u q u q w (w.alloc (Q #[J Z 0,J Z 0,J Z 0,J Z 0,J Z 0,J Z 0,J Z 0] 155))):=Mv.alloc h.bs _;have D:=h.outNew;have a4:=h.bs;have b3:Hd (Fre w.heap.size y):=h.fre (Nat.le_refl _);clear h;go_enter func170,ntmps170;go_wp2_with fail;refine(yl base B s k b u q y rs _ hs hk H.o).mono ?_;rintro e c ⟨rfl,f,t⟩;have I:Hd (c.heap[w.heap.size]?=F (Q #[J Z 0,J Z 0,J Z 0,J Z 0,J Z 0,J Z 0,J Z 0] 155 (0,0))):=(t.kept _ ot D).1.trans (heap_alloc_new w _);have K:zb s k b<=s.size:=zO hk;have a2:k<=zb s k b:=by unfold zb;split<;>first|exact Nat.le_refl _|exact T.sk_ge s k
 unfold zv at hR;generalize zb s k b=p at *;have HP:Hd (PM (c.alloc (Q #[J Z p,J Z 0,J Z 0,J Z 0,J Z 0,J Z 0,J Z (-1)] 155)) base B s p b u q y rs):=f.alloc _;have HM:Hd (Mv base B u q u q w (c.alloc (Q #[J Z p,J Z 0,J Z 0,J Z 0,J Z 0,J Z 0,J Z (-1)] 155))):=(b2.o.trans t).trans (Mv.alloc f.bs _);have z:=f.outNew;have U:Hd (Fre c.heap.size y):=f.fre (Nat.le_refl _);have W:w.heap.size<c.heap.size:=lt_of_block I.o;have RH:Hd ((c.alloc (Q #[J Z p,J Z 0,J Z 0,J Z 0,J Z 0,J Z 0,J Z (-1)] 155)).heap[w.heap.size]?=F (Q #[J Z 0,J Z 0,J Z 0,J Z 0,J Z 0,J Z 0,J Z 0] 155 (0,0))):=(Below.heap_alloc _ _ _ W).trans I.o;have XH:Hd ((c.alloc (Q #[J Z p,J Z 0,J Z 0,J Z 0,J Z 0,J Z 0,J Z (-1)] 155)).heap[c.heap.size]?=F (Q #[J Z p,J Z 0,J Z 0,J Z 0,J Z 0,J Z 0,J Z (-1)] 155 (0,0))):=heap_alloc_new c _;have c1:=f.c1;clear f t I;have b9:=λw=>X8 p (-1) w
 have b8:=λa b w=>xx a b w
 have b5:w.heap.size≠B:=D.1;have X:w.heap.size≠c.heap.size:=ol;have b6:c.heap.size≠B:=z.1;go_wp2_with fail;clear c1;refine(zet base B s p b u q y rs _ hs K HP.o).mono ?_;rintro e A ⟨rfl,f,t⟩;have a7:Hd _:=f;have b0:Hd (Mv base B u q u q w A):=(HM.o).trans t;have I:Hd (A.heap[w.heap.size]?=F (Q #[J Z 0,J Z 0,J Z 0,J Z 0,J Z 0,J Z 0,J Z 0] 155 (0,0))):=(t.kept _ (by first|(simp;omega)|(simp[World.size_setCell];exact C.o)) D).1.trans (RH.o);have x:Hd (A.heap[c.heap.size]?=F (Q #[J Z p,J Z 0,J Z 0,J Z 0,J Z 0,J Z 0,J Z (-1)] 155 (0,0))):=(t.kept _ (by first|(simp;done)|(simp[World.size_setCell];exact G.o)) z).1.trans (XH.o);have C:Hd (w.heap.size<A.heap.size):=lt_of_block I.o;have G:Hd (c.heap.size<A.heap.size):=lt_of_block x.o;clear f t;have x0:A.cell? ⟨c.heap.size,0,N⟩=F (J Z p):=by simp[World.cell?,x.o]
 have x1:A.cell? ⟨c.heap.size,1,N⟩=F (J Z 0):=by simp[World.cell?,x.o]
 have x2:A.cell? ⟨c.heap.size,2,N⟩=F (J Z 0):=by simp[World.cell?,x.o]
 have x3:A.cell? ⟨c.heap.size,3,N⟩=F (J Z 0):=by simp[World.cell?,x.o]
 have x4:A.cell? ⟨c.heap.size,4,N⟩=F (J Z 0):=by simp[World.cell?,x.o]
 have x5:A.cell? ⟨c.heap.size,5,N⟩=F (J Z 0):=by simp[World.cell?,x.o]
 have x6:A.cell? ⟨c.heap.size,6,N⟩=F (J Z (-1)):=by simp[World.cell?,x.o]
 have xz:∀j,A.frozen? ⟨c.heap.size,j,N⟩=E:=λj=>by simp[World.frozen?,x.o]
 go_wp2_with fail;clear x0 x1 x2 x3 x4 x5 x6 xz;refine(yW base B s 58 _ _ u q y rs _ hs (Xt K) oq ((a7.o.setI ⟨_,_,x.o⟩ U.o).setI (zL.set ⟨_,_,x.o⟩ _ _ _) U.o)).mono ?_;rintro e V ⟨rfl,f,t⟩;have a6:Hd _:=f;have a9:Hd (Mv base B u q u q w V):=((b0.o.setNew ol ol _).setNew ol ol _).trans t;have I:Hd (V.heap[w.heap.size]?=F (Q #[J Z 0,J Z 0,J Z 0,J Z 0,J Z 0,J Z 0,J Z 0] 155 (0,0))):=(t.kept _ (by first|(simp;omega)|(simp[World.size_setCell];exact C.o)) D).1.trans (by rw[za X,za X];exact I.o);have x:Hd (V.heap[c.heap.size]?=F (Q #[J Z p,J Z 0,J Z (btV s p b),J Z (btL s p b),J Z 0,J Z 0,J Z (-1)] 155 (0,0))):=(t.kept _ (by first|(simp;done)|(simp[World.size_setCell];exact G.o)) z).1.trans (z9 (z9 x.o));have C:Hd (w.heap.size<V.heap.size):=lt_of_block I.o;have G:Hd (c.heap.size<V.heap.size):=lt_of_block x.o;clear f t;go_wp2_with fail;have a3:zc s 58 (btK s p b) (btX s p b)<=s.size:=zu oq (Xt K);have b7:k<=zc s 58 (btK s p b) (btX s p b):=Nat.le_trans a2 (Nat.le_trans (Xu K) (zj _ _ _ _));have Y:zk s 58 (btK s p b) (btX s p b)=S\/s.size-zc s 58 (btK s p b) (btX s p b)<n:=by
  rcases hn with hn|hn
  ·exact .inl (qk (j5 hn))
  ·exact .inr ol
 refine(hX (d+1) _ _ u q y _ a3 ol ol ol Y a6.o).mono ?_;rintro e m ⟨rfl,ev',new,O,f,t,L⟩;generalize ex (d+1) y.length (zc s 58 (btK s p b) (btX s p b)) (zk s 58 (btK s p b) (btX s p b))=r at *;have a5:Hd _:=f;have a8:Hd _:=a9.o.trans t;have l:Hd (m.heap[w.heap.size]?=F (Q #[J Z 0,J Z 0,J Z 0,J Z 0,J Z 0,J Z 0,J Z 0] 155 (0,0))):=(t.kept _ C.o D).1.trans I.o;have i:Hd (m.heap[c.heap.size]?=F (Q #[J Z p,J Z 0,J Z (btV s p b),J Z (btL s p b),J Z 0,J Z 0,J Z (-1)] 155 (0,0))):=(t.kept _ G.o z).1.trans x.o;have a1:Hd (Fre w.heap.size (y++new)):=b3.o.app (λp f e=>by have:=L p f _ e;have:=C.o;omega);have a0:Hd (Fre c.heap.size (y++new)):=U.o.app (λp f e=>by have:=L p f _ e;have:=G.o;omega);have b1:Hd _:=O;have b4:Hd (∀p∈new,∀g,p.2.ownBlock=F g->w.heap.size<=g):=λp f g hg=>by have:=L p f g hg;have:=C.o;omega
 clear f t L O;have x0:m.cell? ⟨c.heap.size,0,N⟩=F (J Z p):=by simp[World.cell?,i.o]
 have x1:m.cell? ⟨c.heap.size,1,N⟩=F (J Z 0):=by simp[World.cell?,i.o]
 have x2:m.cell? ⟨c.heap.size,2,N⟩=F (J Z (btV s p b)):=by simp[World.cell?,i.o]
 have x3:m.cell? ⟨c.heap.size,3,N⟩=F (J Z (btL s p b)):=by simp[World.cell?,i.o]
 have x4:m.cell? ⟨c.heap.size,4,N⟩=F (J Z 0):=by simp[World.cell?,i.o]
 have x5:m.cell? ⟨c.heap.size,5,N⟩=F (J Z 0):=by simp[World.cell?,i.o]
 have x6:m.cell? ⟨c.heap.size,6,N⟩=F (J Z (-1)):=by simp[World.cell?,i.o]
 have xz:∀j,m.frozen? ⟨c.heap.size,j,N⟩=E:=λj=>by simp[World.frozen?,i.o]
 have r0:m.cell? ⟨w.heap.size,0,N⟩=F (J Z 0):=by simp[World.cell?,l.o]
 have r1:m.cell? ⟨w.heap.size,1,N⟩=F (J Z 0):=by simp[World.cell?,l.o]
 have r2:m.cell? ⟨w.heap.size,2,N⟩=F (J Z 0):=by simp[World.cell?,l.o]
 have r3:m.cell? ⟨w.heap.size,3,N⟩=F (J Z 0):=by simp[World.cell?,l.o]
 have r4:m.cell? ⟨w.heap.size,4,N⟩=F (J Z 0):=by simp[World.cell?,l.o]
 have r5:m.cell? ⟨w.heap.size,5,N⟩=F (J Z 0):=by simp[World.cell?,l.o]
 have r6:m.cell? ⟨w.heap.size,6,N⟩=F (J Z 0):=by simp[World.cell?,l.o]
 have rz:∀j,m.frozen? ⟨w.heap.size,j,N⟩=E:=λj=>by simp[World.frozen?,l.o]
 go_wp2_with fail;exact bodyPost_ret (v:=.agg #[J Z p,J Z 0,J Z (btV s p b),J Z (btL s p b),J Z 0,J Z 0,J Z r.idx]) (by simp[results,results170,go_sem,r0,r1,r2,r3,r4,r5,r6]) rfl ⟨by rw[<-hR.o];rfl,ev',new,by rw[<-hR.o];exact b1.o,by rw[<-hR.o];exact(a5.o.setI ⟨_,_,i.o⟩ a0.o).setI7 (zL.set ⟨_,_,l.o⟩ _ _ _) a1.o,(a8.o.setNew ol ol _).setNew7 (Nat.le_refl _) a4 _ _ _ _ _ _ _,b4.o⟩
theorem infoItem:(Tryz.prog.info? 155).map (λi=>(i.zero,i.size,i.bytes))=F (F (.agg #[J Z 0,J Z 0,J Z 0,J Z 0,J Z 0,J Z 0,J Z 0]),7,56):=kr
def ZW(ex:Int->Nat->Nat->Bool->CR)(s:ByteArray):Prop:=∀d m k b,k<=s.size->k<=(ex d m k b).k/\(ex d m k b).k<=s.size/\(ex d m k b).es.length+k<=(ex d m k b).k
theorem Zz{ex:Int->Nat->Nat->Bool->CR}{s:ByteArray}(g:ZW ex s)(kind d:Int)(m k:Nat)(b:Bool)(j:k<=s.size):
 k<=(zv ex s kind d m k b).k/\(zv ex s kind d m k b).k<=s.size/\(zv ex s kind d m k b).es.length+k<=(zv ex s kind d m k b).k:=by
 have a:=zO (b:=b) j;have l:=yi s k b;unfold zv;generalize zb s k b=p at *;simp only;split
 ·have f:=Xu (b:=b) a;have e:=zj s 58 (btK s p b) (btX s p b);have i:=g (d+1) m (zc s 58 (btK s p b) (btX s p b)) (zk s 58 (btK s p b) (btX s p b)) (zu oq (Xt a));simp only;omega
 ·split
  ·have f:=z7 (b:=b) a;have e:=zj s 58 (zs s p b) (zw s p b);have i:=g (d+1) m (zc s 58 (zs s p b) (zw s p b)) (zk s 58 (zs s p b) (zw s p b)) (zu oq (yb a));simp only;omega
  ·split
   ·have f:=z7 (b:=b) a;have e:=zj s 42 (zs s p b) (zw s p b);have h:=zu (c:=42) (b:=zw s p b) oq (yb (b:=b) a);have i:=z7 (b:=zk s 42 (zs s p b) (zw s p b)) h;have n:=yb (b:=zk s 42 (zs s p b) (zw s p b)) h;simp only[List.length_nil];omega
   ·have f:=z7 (b:=b) a;have e:=yb (b:=b) a;simp only[List.length_nil];omega
def qT(ex:Int->Nat->Nat->Bool->CR):Prop:=∀d m k,(ex d m k S).b=S
theorem jr{ex:Int->Nat->Nat->Bool->CR}{s:ByteArray}(a:qT ex)(kind d:Int)(m k:Nat){b:Bool}(c:b=S):(zv ex s kind d m k b).b=S:=by
 subst c;unfold zv;simp only[j5,QE,qk];split
 ·exact a _ _ _
 ·split
  ·exact a _ _ _
  ·split<;>rfl
structure CL where
 ims:List IM
 es:List EX
 k:Nat
 b:Bool
def ze(ex:Int->Nat->Nat->Bool->CR)(s:ByteArray)(kind d:Int):Nat->Nat->Nat->Bool->CL
 |0,_,k,b=>⟨[],[],k,b⟩
 | n+1,m,k,b =>
  let r:=zv ex s kind d m k b
  if z6 s 44 r.k r.b=S then
   let q:=ze ex s kind d n (m+r.es.length) (zc s 44 r.k r.b) r.b
   ⟨r.im::q.ims,r.es++q.es,q.k,q.b⟩
  else⟨[r.im],r.es,zc s 44 r.k r.b,r.b⟩
def yt(c:Int):Prop:=c=123\/c=102\/c=119\/c=103\/c=109
theorem zcl(ex:Int->Nat->Nat->Bool->CR)(base B:Nat)(s:ByteArray)(c d:Int)(k:Nat)(b:Bool)(i a:Value)(f:List (EX×Value))(rs:List RL)(w:World)(n:Nat)(r:xG ex s base B rs n)(u:0<=d)(t:d+1<=k)(q:f.length<=k)(o:b=S\/s.size-k<n)(j:s.size<=2000)(l:k<=s.size)(v:yt c)(h:PM w base B s k b i a f rs)(R:CI)(m:Hd (zv ex s c d f.length k b=R)):
 Calls P 170 #[.pointer (F ⟨B,0,N⟩),J .u8 c,J Z d] w λe w'=>e=.returned (.agg #[J Z R.im.at_,J Z R.im.num,J Z R.im.pv,J Z R.im.pl,J Z R.im.wv,J Z R.im.wa,J Z R.im.arm])/\∃ev' new,new.map Prod.fst=R.es/\PM w' base B s R.k R.b ev' a (f++new) rs/\Mv base B i a ev' a w w'/\∀p∈new,∀g,p.2.ownBlock=F g->w.heap.size<=g:=by
 rcases v with rfl|rfl|rfl|rfl|rfl
 ·exact jU ex base B s d k b i a f rs w j l h R m
 ·exact zaB ex base B s d k b i a f rs w j l h R m
 ·exact zci ex base B s d k b i a f rs w j l h R m
 ·exact JI ex base B s d k b i a f rs w n r u t q o j l h R m
 ·exact zcj ex base B s d k b i a f rs w n r u t q o j l h R m
theorem zd{w w':World}{base e a:Nat}{v:Value}{n:Nat}{b:List Value}(h:w.ownsRow base e a v n b)(c:∀g,v.ownBlock=F g->w'.heap[g]?=w.heap[g]?):w'.ownsRow base e a v n b:=by
 refine⟨h.1,?_⟩;rcases h.2 with h0|⟨g,cap,cur,rfl,h1,h2,h3⟩
 ·exact .inl h0
 ·exact .inr ⟨g,cap,cur,rfl,h1,(c g rfl).trans h2,h3⟩
theorem zV{w:World}{base e b i a:Nat}{v f:Value}{n k:Nat}{j c:List Value}(h:w.ownsRow base e b v n j)(l:w.ownsRow base i a f k c)(d:e≠i):v.ownBlock=N\/v.ownBlock≠f.ownBlock:=by
 rcases h.2 with⟨rfl,_⟩|⟨g,cap,cur,rfl,_,hg,_⟩
 ·exact .inl rfl
 ·right
  intro e;have:=zi l hg d
  exact this e.symm
theorem PM.grown{w w':World}{base B s k b ev rv es rs}(h:PM w base B s k b ev rv es rs){v:Value}{n:Nat}{d:List Value}(a:w.ownsRow base 155 7 v n d)(c:w.grownBy w' v.ownBlock)(f:∀g,v.ownBlock=F g->Fre g es):PM w' base B s k b ev rv es rs :=
 ⟨(c.block B h.lt (λe=>zi a h.blk oq e.symm)).trans h.blk,h.ex.kept c (zV h.ex a oq),h.rl.kept c (zV h.rl a oq),λp hp=>(h.it p hp).kept c (by
  cases hv:v.ownBlock with
  | none=>cases hq:p.2.ownBlock with
   |none=>exact .inl rfl
   |some q=>exact .inr ot
  |some g=>exact .inr (f g hv p hp)),h.hB⟩
theorem PM.outI{w:World}{base B s k b ev rv es rs}(h:PM w base B s k b ev rv es rs){v:Value}{n:Nat}{d:List Value}(a:w.ownsRow base 155 7 v n d){g:Nat}(c:v.ownBlock=F g):Out B ev rv g :=
 ⟨λe=>zi a h.blk oq (by rw[c,e]),λe=>(by
  rcases zV h.ex a oq with h|h
  ·rw[h]at e;cases e
  ·exact h (e.trans c.symm)),λe=>(by
  rcases zV h.rl a oq with h|h
  ·rw[h]at e;cases e
  ·exact h (e.trans c.symm))⟩
theorem Mv.grown{base B:Nat}{a b c d:Value}{w i j:World}(h:Mv base B a b c d w i){f:Option Nat}(l:i.grownBy j f)(m:base<=i.heap.size)(k:∀g,f=F g->w.heap.size<=g/\base<=g):Mv base B a b c d w j :=
 ⟨h.bel.grown l m (λq hq=>(k q hq).2),λx hx ho=>⟨(l.block x (Nat.lt_of_lt_of_le hx h.bel.size) (λe=>by have:=(k x e.symm).1;omega)).trans (h.kept x hx ho).1,(h.kept x hx ho).2⟩⟩
theorem zl{w:World}{k:Nat}(o:Obj)(h:k=w.heap.size):(w.alloc o).heap[k]?=F o:=by subst h;exact heap_alloc_new w o
theorem jj(ex:Int->Nat->Nat->Bool->CR)(base B:Nat)(s:ByteArray)(c d:Int)(k:Nat)(b:Bool)(U l:Value)(j:List (EX×Value))(rs:List RL)(w:World)(n:Nat)(hX:xG ex s base B rs n)(hM:ZW ex s)(hB:qT ex)(h0:0<=d)(h1:d+1<=k)(hl:j.length<=k)(hn:b=S\/s.size-k<n)(hs:s.size<=2000)(hk:k<=s.size)(hc:yt c)(h:PM w base B s k b U l j rs)(R:CL)(hR:Hd (ze ex s c d (s.size+1-k) j.length k b=R)):
 Calls P 160 #[.pointer (F ⟨B,0,N⟩),J .u8 c,J Z d] w λe w'=>∃v ev' new,e=.returned v/\new.map Prod.fst=R.es/\PM w' base B s R.k R.b ev' l (j++new) rs/\Mv base B U l ev' l w w'/\(∀p∈new,∀g,p.2.ownBlock=F g->w.heap.size<=g) /\
  w'.ownsRow base 155 7 v R.ims.length (imC R.ims)/\(∀g,v.ownBlock=F g->w.heap.size<=g/\Fre g (j++new)):=by
 obtain⟨i0,d0,c8,c7,c6⟩:=info_parts infoItem;go_enter func160,ntmps160;go_wp2_with fail;have d7:Hd (PM (w.alloc (Q #[] 155)) base B s k b U l (j++[]) rs):=by show PM _ _ _ _ _ _ _ _ _ _;rw[List.append_nil];exact h.alloc _
 have e0:Hd (Mv base B U l U l w (w.alloc (Q #[] 155))):=Mv.alloc h.bs _;have d4:Hd ((w.alloc (Q #[] 155)).ownsRow base 155 7 (O (F ⟨w.heap.size,0,N⟩) 0 0) 0 (imC [])):=⟨rfl,.inr ⟨w.heap.size,0,#[],rfl,h.bs,heap_alloc_new w _,Nat.le_refl _,oq,rfl,rfl⟩⟩;have e4:Hd (Fre w.heap.size (j++[])):=by show Fre _ _;rw[List.append_nil];exact h.fre (Nat.le_refl _)
 have f2:=h.bs;clear h;have f1:0<=c/\c<256:=by rcases hc with rfl|rfl|rfl|rfl|rfl<;>omega
 go_loopg [7,8] (s.size+2-k) (λn lv mv wr=>∃(f:Nat) (m:Nat) (z:Bool) (a:List IM) (ev':Value) (new:List (EX×Value)),m<=s.size/\k<=m/\new.length+k<=m/\(b=S->z=S) /\
  ((mv=.bool S/\n=f+1/\s.size+1<=f+m/\a.length<=m/\Hd (R=⟨a++(ze ex s c d f (j++new).length m z).ims,new.map Prod.fst++(ze ex s c d f (j++new).length m z).es,(ze ex s c d f (j++new).length m z).k,(ze ex s c d f (j++new).length m z).b⟩))\/(mv=.bool E/\n=0/\Hd (R=⟨a,new.map Prod.fst,m,z⟩))) /\
  PM wr base B s m z ev' l (j++new) rs/\Mv base B U l ev' l w wr/\(∀p∈new,∀g,p.2.ownBlock=F g->w.heap.size<=g)/\wr.ownsRow base 155 7 lv a.length (imC a)/\(∀g,lv.ownBlock=F g->w.heap.size<=g/\Fre g (j++new)))
 case atStart =>
  refine⟨s.size+1-k,k,b,[],U,[],hk,Nat.le_refl _,ot,λh=>h,.inl ⟨rfl,ol,ol,ot,?_⟩,d7.o,e0.o,ot,d4.o,λg hg=>by simp[Value.ownBlock]at hg;subst hg;exact⟨Nat.le_refl _,e4.o⟩⟩;show _=_;rw[<-hR.o];simp
 case round =>
  obtain⟨f,m,z,a,ev',new,b4,f0,e8,a7,a4,hp,hm,b5,W,b3⟩:=hrel;have HP:Hd (PM wr base B s m z ev' l (j++new) rs):=hp;have HM:Hd _:=hm;have c5:Hd _:=b5;have H:Hd (wr.ownsRow base 155 7 u7 a.length (imC a)):=W;have c4:Hd _:=b3;clear hp hm b5 W b3;rcases a4 with⟨rfl,hgk,hfk,hdl,HE⟩|⟨rfl,hgk,HE⟩
  ·obtain⟨f,rfl⟩:∃f',f=f'+1:=⟨f-1,ol⟩;have d1:(j++new).length<=m:=(by simp only[List.length_append];omega);have c9:z=S\/s.size-m<n:=by
    rcases hn with hn|hn
    ·exact .inl (a7 hn)
    ·exact .inr ol
   have b2:=Zz hM c d (j++new).length m z b4;generalize hr:zv ex s c d (j++new).length m z=r at *;have V:Hd (R=if z6 s 44 r.k r.b=S then⟨a++r.im::(ze ex s c d f ((j++new).length+r.es.length) (zc s 44 r.k r.b) r.b).ims,new.map Prod.fst++(r.es++(ze ex s c d f ((j++new).length+r.es.length) (zc s 44 r.k r.b) r.b).es),(ze ex s c d f ((j++new).length+r.es.length) (zc s 44 r.k r.b) r.b).k,(ze ex s c d f ((j++new).length+r.es.length) (zc s 44 r.k r.b) r.b).b⟩else⟨a++[r.im],new.map Prod.fst++r.es,zc s 44 r.k r.b,r.b⟩):=by
    show _=_;rw[HE.o];simp only[ze,hr];split<;>rfl
   have d6:Hd _:=hr;have Y:z=S->r.b=S:=λh=>by rw[<-hr];exact jr hB c d _ m h
   clear HE hr;go_wp2_with fail;refine(zcl ex base B s c d m z ev' l (j++new) rs _ n hX h0 ol d1 c9 hs b4 hc HP.o r d6).mono ?_;rintro e K ⟨rfl,y,i,q,A,L,C⟩;have b9:Hd (K.ownsRow base 155 7 u7 a.length (imC a)):=zd H.o (λg hg=>(L.kept g (H.o.lt g hg).2 (HP.o.outI H.o hg)).1);have c2:Hd (PM ((K.alloc (Q #[J Z r.im.at_,J Z r.im.num,J Z r.im.pv,J Z r.im.pl,J Z r.im.wv,J Z r.im.wa,J Z r.im.arm] 155)).alloc (Q #[J Z r.im.at_,J Z r.im.num,J Z r.im.pv,J Z r.im.pl,J Z r.im.wv,J Z r.im.wa,J Z r.im.arm] 155)) base B s r.k r.b y l (j++(new++i)) rs):=(by show PM _ _ _ _ _ _ _ _ _ _;rw[<-List.append_assoc];exact(A.alloc _).alloc _);have d9:Hd (Mv base B U l y l w ((K.alloc (Q #[J Z r.im.at_,J Z r.im.num,J Z r.im.pv,J Z r.im.pl,J Z r.im.wv,J Z r.im.wa,J Z r.im.arm] 155)).alloc (Q #[J Z r.im.at_,J Z r.im.num,J Z r.im.pv,J Z r.im.pl,J Z r.im.wv,J Z r.im.wa,J Z r.im.arm] 155))):=((HM.o.trans L).trans (Mv.alloc A.bs _)).trans (Mv.alloc (A.alloc _).bs _);have G:Hd (((K.alloc (Q #[J Z r.im.at_,J Z r.im.num,J Z r.im.pv,J Z r.im.pl,J Z r.im.wv,J Z r.im.wa,J Z r.im.arm] 155)).alloc (Q #[J Z r.im.at_,J Z r.im.num,J Z r.im.pv,J Z r.im.pl,J Z r.im.wv,J Z r.im.wa,J Z r.im.arm] 155)).ownsRow base 155 7 u7 a.length (imC a)):=(b9.o.alloc _).alloc _;have a3:Hd (∀p∈new++i,∀g,p.2.ownBlock=F g->w.heap.size<=g):=λp hp g hg=>by
    rcases List.mem_append.1 hp with hp|hp
    ·exact c5.o p hp g hg
    ·exact Nat.le_trans HM.o.bel.size (C p hp g hg)
   have I:Hd (∀g,u7.ownBlock=F g->w.heap.size<=g/\Fre g (j++(new++i))):=λg hg=>by
    have h1:=c4.o g hg;refine⟨h1.1,?_⟩;rw[<-List.append_assoc];exact h1.2.app (λp hp e=>by have h2:=C p hp g e;have h3:=(H.o.lt g hg).2;omega)
   have a1:Hd ((new++i).map Prod.fst=new.map Prod.fst++r.es):=(by show _=_;rw[List.map_append,q]);have f3:base<=K.heap.size:=A.bs;have d3:Hd (a.length+1<=maxLen):=sx;have d2:Hd ((a.length+1)*56<=140737488355328):=oz;have b7:Hd (base<=((K.alloc (Q #[J Z r.im.at_,J Z r.im.num,J Z r.im.pv,J Z r.im.pl,J Z r.im.wv,J Z r.im.wa,J Z r.im.arm] 155)).alloc (Q #[J Z r.im.at_,J Z r.im.num,J Z r.im.pv,J Z r.im.pl,J Z r.im.wv,J Z r.im.wa,J Z r.im.arm] 155)).heap.size):=mc;have b1:Hd (∀u∈imV r.im,u.oneCell'=S):=λu hu=>by simp[imV]at hu;rcases hu with rfl|rfl|rfl|rfl|rfl|rfl|rfl<;>rfl
   have a6:Hd (i.length=r.es.length):=(by show _=_;rw[<-q,List.length_map]);have d5:Hd (w.heap.size<=K.heap.size):=Nat.le_trans HM.o.bel.size L.bel.size;clear A L q C;go_wp2_with (at_builtin;refine wpList_append_lies _ rfl _ _ 146 rfl base 155 i0 _ 7 56 underlying146 d0 c8 c7 c6 rfl oq u7 _ _ rfl G.o ⟨K.heap.size+1,0,N⟩ 1 1 (imV r.im) rfl rfl (World.news_of_block (cs:=#[J Z r.im.at_,J Z r.im.num,J Z r.im.pv,J Z r.im.pl,J Z r.im.wv,J Z r.im.wa,J Z r.im.arm]) (t:=155) (fr:=(0,0)) (zl _ ot)) b1.o (Nat.lt_succ_self 0) d3.o d2.o b7.o (K.heap.size+2) ot ?_;intro g b8 w4 X x b6 e5)
   have e1:imC (a++[r.im])=imC a++imV r.im:=(by simp[imC]);have e2:(a++[r.im]).length=a.length+1:=ot;have D:Hd (w4.ownsRow base 155 7 (O (F ⟨g,0,N⟩) (a.length+1) b8) (a++[r.im]).length (imC (a++[r.im]))):=(by show World.ownsRow _ _ _ _ _ _ _;rw[e1,e2];exact X);have c1:Hd (PM w4 base B s r.k r.b y l (j++(new++i)) rs):=c2.o.grown G.o x (λg hg=>(I.o g hg).2);have d8:Hd (Mv base B U l y l w w4):=d9.o.grown x b7.o (λg hg=>⟨(I.o g hg).1,(G.o.lt g hg).1⟩);have a2:Hd (w.heap.size<=g/\Fre g (j++(new++i))):=by
    rcases b6 with h|h
    ·exact I.o g h
    ·have:=d5.o
     exact⟨ol,c2.o.fre ow⟩
   clear X x b6 e1 e2;refine(Qp base B s 44 r.k r.b y l _ rs _ hs b2.2.1 oq c1.o).mono ?_;rintro e w5 ⟨rfl,b0,a5⟩;have c0:Hd _:=b0;have c3:Hd _:=d8.o.trans a5;have a0:Hd (w5.ownsRow base 155 7 (O (F ⟨g,0,N⟩) (a.length+1) b8) (a++[r.im]).length (imC (a++[r.im]))):=zd D.o (λg' hg=>(a5.kept g' (D.o.lt g' hg).2 (c1.o.outI D.o hg)).1);have e9:=a6.o;have e7:=zj s 44 r.k r.b;have a9:zc s 44 r.k r.b<=s.size:=zu oq b2.2.1;clear b0 a5;cases ht:z6 s 44 r.k r.b with
   | true =>
    have e6:r.k+1<=zc s 44 r.k r.b:=by
     unfold zc;rw[if_pos ht];have:=yi s r.k r.b;omega
    have a8:Hd (R=⟨(a++[r.im])++(ze ex s c d f (j++(new++i)).length (zc s 44 r.k r.b) r.b).ims,(new++i).map Prod.fst++(ze ex s c d f (j++(new++i)).length (zc s 44 r.k r.b) r.b).es,(ze ex s c d f (j++(new++i)).length (zc s 44 r.k r.b) r.b).k,(ze ex s c d f (j++(new++i)).length (zc s 44 r.k r.b) r.b).b⟩):=by
     show _=_;have e3:(j++(new++i)).length=(j++new).length+r.es.length:=(by simp only[List.length_append];omega);rw[V.o,if_pos ht,e3,a1.o];simp
    clear V ht;go_wp2_with fail;go_roundg (f+1)
    case measure=>omega
    case rel=>exact⟨f,zc s 44 r.k r.b,r.b,a++[r.im],y,new++i,a9,ol,by simp only[List.length_append];omega,λh=>Y (a7 h),.inl ⟨rfl,rfl,ol,ow,a8⟩,c0.o,c3.o,a3.o,a0.o,λg' hg=>by simp[Value.ownBlock]at hg;subst hg;exact a2.o⟩
   | false =>
    have a8:Hd (R=⟨a++[r.im],(new++i).map Prod.fst,zc s 44 r.k r.b,r.b⟩):=by
     show _=_;rw[V.o,if_neg (by rw[ht];decide),a1.o]
    clear V ht;go_wp2_with fail;go_roundg 0
    case measure=>omega
    case rel=>exact⟨0,zc s 44 r.k r.b,r.b,a++[r.im],y,new++i,a9,ol,by simp only[List.length_append];omega,λh=>Y (a7 h),.inr ⟨rfl,rfl,a8⟩,c0.o,c3.o,a3.o,a0.o,λg' hg=>by simp[Value.ownBlock]at hg;subst hg;exact a2.o⟩
  ·go_wp2_with fail;go_ret;refine⟨_,ev',new,rfl,?_,?_,HM.o,c5.o,?_,c4.o⟩
   ·rw[HE.o]
   ·rw[HE.o];exact HP.o
   ·rw[HE.o];exact H.o
theorem yx{w w':World}(h:Below w.heap.size w w'){p:Addr}{v:Value}(a:w.cell? p=F v):w'.cell? p=F v:=by
 rw[h.cell (Nat.lt_of_not_le λhn=>by
  have:w.heap[p.block]?=N:=Array.getElem?_eq_none_iff.2 hn
  simp[World.cell?,this]at a)]
 exact a
def isK(c:Int):Bool:=c==123 || c==119 || c==102 || c==109 || c==103 || c==116 || c==64 || c==61
theorem ZR(c:Int)(w:World):Calls P 159 #[J .u8 c] w λe w'=>w'=w/\e=.returned (.bool (isK c)):=by
 have a:Hd (isK c=(c==123 || c==119 || c==102 || c==109 || c==103 || c==116 || c==64 || c==61)):=rfl;cases h1:(c==123)<;>cases h2:(c==119)<;>cases h3:(c==102)<;>cases h4:(c==109)<;>cases h5:(c==103)<;>cases h6:(c==116)<;>cases h7:(c==64)<;>cases h8:(c==61)<;>first
  |(exfalso;simp only[beq_iff_eq]at *;omega)
  | (go_enter func159,ntmps159
     go_wp2_with fail;go_ret;exact⟨rfl,by rw[a.o,h1,h2,h3,h4,h5,h6,h7,h8];rfl⟩)
def yr(v:Int):List RL->Int
 | []=>-1
 |r::l=>if r.nv=v then r.ex else yr v l
def RV(w:World)(v:Value)(rs:List RL):Prop:=(v=O N 0 0/\rs=[])\/∃g cap,v=O (F ⟨g,0,N⟩) rs.length cap/\∀i r,rs[i]?=F r->w.cell? ⟨g,i*3,N⟩=F (J Z r.nv)/\w.cell? ⟨g,i*3+1,N⟩=F (J Z r.na)/\w.cell? ⟨g,i*3+2,N⟩=F (J Z r.ex)
theorem QH(v:Value)(x:Int)(rs:List RL)(w:World)(G:rs.length<=100000)(h:RV w v rs):
 Calls P 88 #[v,J Z x] w λe w'=>Below w.heap.size w w'/\e=.returned (J Z (yr x rs)):=by
 have a:∀(i:Nat),i<rs.length->∃r,rs[i]?=F r:=λi hi=>⟨rs[i],List.getElem?_eq_getElem hi⟩
 rcases h with⟨rfl,rfl⟩|⟨g,cap,rfl,hc⟩
 ·go_enter func88,ntmps88;go_wp2_with fail;go_loopg [9] 1 (λn y wr=>y=J Z 0/\wr=w)
  case atStart=>exact⟨rfl,rfl⟩
  case round =>
   obtain⟨rfl,rfl⟩:=hrel;go_wp2_with fail;go_ret;exact⟨Below.refl _ _,rfl⟩
 ·have b:yr x (rs.drop 0)=yr x rs:=by rw[List.drop_zero]
  go_enter func88,ntmps88;go_wp2_with fail;go_loopg [9] rs.length (λn y wr=>∃(j:Nat),n+j=rs.length/\y=J Z j/\Hd (yr x (rs.drop j)=yr x rs)/\Below w.heap.size w wr)
  case atStart=>exact⟨0,ol,rfl,b,Below.refl _ _⟩
  case round =>
   obtain⟨j,E,rfl,t,s⟩:=hrel;have c:Hd (Below w.heap.size w wr):=s;by_cases d:j<rs.length
   ·obtain⟨r,l⟩:=a j d;have z:(0:Int)<=(j:Int):=ol;have u:(j:Int)<(rs.length:Int):=ol;obtain⟨q,p,m⟩:=hc j r l;have D:=yx c.o q;have C:=yx c.o p;have B:=yx c.o m;have k:Hd (yr x rs=if r.nv=x then r.ex else yr x (rs.drop (j+1))):=by
     show _=_;rw[<-t.o,List.drop_eq_getElem_cons d];have:rs[j]=r:=by have:=List.getElem?_eq_getElem d;rw[l]at this;simpa using this.symm
     rw[this];rfl
    clear s hc q p m l a b;cases he:(r.nv==x)with
    | true =>
     have f:Hd (yr x rs=r.ex):=(by show _=_;rw[k.o,if_pos (by simpa using he)]);go_wp2_with fail;go_ret;exact⟨c.o.alloc c.o.size _,by rw[f.o];rfl⟩
    | false =>
     have f:Hd (yr x (rs.drop (j+1))=yr x rs):=(by show _=_;rw[k.o,if_neg (by simpa using he)]);go_wp2_with fail;go_roundg (gk-1)
     case measure=>omega
     case rel=>exact⟨j+1,ol,by go_num,f,c.o.alloc c.o.size _⟩
   ·have H:¬((j:Int)<(rs.length:Int)):=(by omega);have A:((rs.length:Int))<=(j:Int):=ol;have k:Hd (yr x rs=-1):=(by show _=_;rw[<-t.o,List.drop_eq_nil_of_le ol];rfl);go_wp2_with fail;go_ret;exact⟨c.o,by rw[k.o];rfl⟩
theorem Xb(c a d:Int)(w:World):(Instr.build 148 #[(0,J .u8 c),(1,J Z a),(2,J Z d),(5,J Z (-1))]).run P w=.ok (.agg #[J .u8 c,J Z a,J Z d,J Z 0,J Z 0,O N 0 0,J Z (-1)]) w:=run_build w 148 _ _ kr
theorem xY(base B:Nat)(s:ByteArray)(k:Nat)(b:Bool)(j g:Value)(l:List (EX×Value))(rs:List RL)(w:World)(h:PM w base B s k b j g l rs):
 Calls P 127 #[.pointer (F ⟨B,0,N⟩)] w λe w'=>e=.returned (J .u8 (zg s k b))/\∃n,w'=w.drewN n:=by
 have q:=h.c0;have p:=h.c1;have m:=h.c2;clear h;cases b with
 | true =>
  go_enter func127,ntmps127;go_wp2_with fail;go_quiet (fail)
  go_wp2_with fail;go_ret;exact⟨rfl,_,rfl⟩
 | false =>
  by_cases a:k<s.size
  ·have d:Hd (zg s k E=T.ch s k):=(by show _=_;unfold zg;rw[if_neg oq,if_pos a]);have f:(k:Int)<(s.size:Int):=ol;have c:decide ((s.size:Int)<=(k:Int))=E:=decide_eq_false ol;have i:((s[k]).toNat:Int)=T.ch s k:=(T.ch_lt a).symm;go_enter func127,ntmps127;go_wp2_with fail;go_quiet (fail)
   go_wp2_with fail;go_quiet (fail)
   go_wp2_with fail;go_ret;exact⟨by rw[d.o];rfl,_,World.drewN_drewN _ _ _⟩
  ·have d:Hd (zg s k E=0):=(by show _=_;unfold zg;rw[if_neg oq,if_neg a]);have c:decide ((s.size:Int)<=(k:Int))=S:=decide_eq_true ol;go_enter func127,ntmps127;go_wp2_with fail;go_quiet (fail)
   go_wp2_with fail;go_ret;exact⟨by rw[d.o];rfl,_,rfl⟩
theorem PM.below{w w':World}{base B s k b ev rv es rs}(h:PM w base B s k b ev rv es rs)(a:Below w.heap.size w w'):PM w' base B s k b ev rv es rs :=
 ⟨(a.block B h.lt).trans h.blk,zd h.ex (λg hg=>a.block g (h.ex.lt g hg).2),zd h.rl (λg hg=>a.block g (h.rl.lt g hg).2),λp hp=>zd (h.it p hp) (λg hg=>a.block g ((h.it p hp).lt g hg).2),h.hB⟩
theorem zd0{α:Type}(f:α->List Value)(n:Nat)(b:∀x,(f x).length=n)(a:List α):∀(i:Nat) (x:α) (j:Nat),a[i]?=F x->j<n->(a.flatMap f)[i*n+j]?=(f x)[j]?:=by
 induction a with
 |nil=>intro i f j h;simp at h
 | cons g r ih =>
  intro i x j h c;simp only[List.flatMap_cons];cases i with
  | zero =>
   simp at h;subst h;rw[Nat.zero_mul,Nat.zero_add,List.getElem?_append_left (by rw[b];exact c)]
  | succ i =>
   simp at h;have:=ih i x j h c
   have d:(i+1)*n=i*n+n:=Nat.succ_mul i n;rw[List.getElem?_append_right (by rw[b];omega),b];have e:(i+1)*n+j-n=i*n+j:=ol;rw[e];exact this
theorem yg{w:World}{base e n g cap:Nat}{α:Type}(f:α->List Value)(k:∀x,(f x).length=n){a:List α}(h:w.ownsRow base e n (O (F ⟨g,0,N⟩) a.length cap) a.length (a.flatMap f)){i:Nat}{x:α}(b:a[i]?=F x)(j:Nat)(c:j<n):w.cell? ⟨g,i*n+j,N⟩=(f x)[j]?:=by
 have d:i<a.length:=(List.getElem?_eq_some_iff.1 b).1;have l:(i+1)*n<=a.length*n:=Nat.mul_le_mul_right n d;have m:(i+1)*n=i*n+n:=Nat.succ_mul i n;rw[World.ownsRow.cellAt h (i*n+j) ol];exact zd0 f n k a i x j b c
theorem PM.rvs{w:World}{base B s k b ev rv es rs}(h:PM w base B s k b ev rv es rs):RV w rv rs:=by
 have a:=h.rl;rcases h.rl.2 with⟨h1,h2⟩|⟨g,cap,cur,rfl,h1⟩
 ·exact .inl ⟨h1,List.eq_nil_of_length_eq_zero h2⟩
 ·exact .inr ⟨g,cap,rfl,λi r hr=>⟨yg rlV (λ_=>rfl) a hr 0 oq,yg rlV (λ_=>rfl) a hr 1 oq,yg rlV (λ_=>rfl) a hr 2 oq⟩⟩
def cE(s:ByteArray)(rs:List RL):Nat->Int->Nat->Nat->Bool->CR
 |0,_,_,k,b=>⟨-1,[],zb s k b,S⟩
 | n+1,d,m,k,b =>
  let p:=zb s k b
  let c:=zg s p b
  if isK c=E then⟨-1,[],p,S⟩
  else if c=123 then
   let l:=ze (cE s rs n) s 123 d (s.size+1-(p+1)) m (p+1) b
   ⟨(m+l.es.length:Nat),l.es++[⟨123,p,d,0,0,l.ims,-1⟩],zc s 125 l.k l.b,zk s 125 l.k l.b⟩
  else if c=116 then
   let k1:=zc s 40 (p+1) b
   let b1:=zk s 40 (p+1) b
   let k2:=zc s 44 (zs s k1 b1) (zw s k1 b1)
   let b2:=zk s 44 (zs s k1 b1) (zw s k1 b1)
   let r:=cE s rs n (d+1) m k2 b2
   ⟨(m+r.es.length:Nat),r.es++[⟨116,p,d,zM s k1 b1,zb s k1 b1,[],r.idx⟩],zc s 41 r.k r.b,zk s 41 r.k r.b⟩
  else if c=64 then⟨m,[⟨64,p,d,zM s (p+1) b,zb s (p+1) b,[],-1⟩],zs s (p+1) b,zw s (p+1) b⟩
  else if c=61 then
   let q:=zb s (p+1) b
   ⟨m,[⟨61,p,d,zg s q b,q,[],yr (zg s q b) rs⟩],zR s (p+1) b,zZ s (p+1) b⟩
  else
   let k1:=zc s 40 (p+1) b
   let b1:=zk s 40 (p+1) b
   let l:=ze (cE s rs n) s c d (s.size+1-k1) m k1 b1
   let r:=cE s rs n (d+1) (m+l.es.length) (zc s 124 l.k l.b) (zk s 124 l.k l.b)
   ⟨(m+l.es.length+r.es.length:Nat),l.es++r.es++[⟨c,p,d,0,0,l.ims,r.idx⟩],zc s 41 r.k r.b,zk s 41 r.k r.b⟩
theorem zP{ex:Int->Nat->Nat->Bool->CR}{s:ByteArray}(c:ZW ex s)(kind d:Int)(n m k:Nat)(b:Bool)(a:k<=s.size):
 k<=(ze ex s kind d n m k b).k/\(ze ex s kind d n m k b).k<=s.size/\(ze ex s kind d n m k b).es.length+k<=(ze ex s kind d n m k b).k:=by
 induction n generalizing m k b with
 |zero=>simp[ze,a]
 | succ n ih =>
  have f:=Zz c kind d m k b a;generalize hr:zv ex s kind d m k b=r at *;have h:=zj s 44 r.k r.b;have e:zc s 44 r.k r.b<=s.size:=zu oq f.2.1;have g:=ih (m+r.es.length) (zc s 44 r.k r.b) r.b e;simp only[ze,hr];split
  ·simp only[List.length_append];omega
  ·simp only;omega
theorem QQ{ex:Int->Nat->Nat->Bool->CR}{s:ByteArray}(e:qT ex)(kind d:Int)(n m k:Nat){b:Bool}(a:b=S):(ze ex s kind d n m k b).b=S:=by
 induction n generalizing m k b with
 |zero=>simpa[ze]using a
 | succ n ih =>
  have c:=jr (s:=s) e kind d m k a;simp only[ze];split
  ·exact ih _ _ c
  ·exact c
theorem YL(s:ByteArray)(k:Nat):zg s k S=0:=by simp[zg]
theorem Zw{s:ByteArray}{k:Nat}{b:Bool}(h:isK (zg s k b)=S):b=E/\k<s.size:=by
 unfold zg at h;cases b with
 |true=>simp[isK]at h
 | false =>
  by_cases a:k<s.size
  ·exact⟨rfl,a⟩
  ·simp[a,isK]at h
theorem xB(s:ByteArray)(rs:List RL)(n:Nat):qT (cE s rs n):=λd m k=>by
 cases n with
 |zero=>rfl
 |succ n=>simp only[cE,YL];rfl
theorem Yu(s:ByteArray)(k:Nat)(b:Bool):k<=zR s k b:=by
 unfold zR;have:=yi s k b
 split<;>omega
theorem yT(s:ByteArray)(rs:List RL)(n:Nat):ZW (cE s rs n) s:=by
 induction n with
 |zero=>intro d m k b e;have u:=yi s k b;have t:=zO (b:=b) e;simp[cE,t,u]
 | succ n ih =>
  intro d m k b e;have u:=yi s k b;have t:=zO (b:=b) e;simp only[cE];generalize zb s k b=p at *;split
  ·simp;omega
  ·next hK =>
   have f:isK (zg s p b)=S:=(by simpa using hK);have v:=(Zw f).2;split
   ·have g:=zP ih 123 d (s.size+1-(p+1)) m (p+1) b ol;generalize ze (cE s rs n) s 123 d (s.size+1-(p+1)) m (p+1) b=l at *;have q:=zj s 125 l.k l.b;have o:=zu (c:=125) (b:=l.b) oq g.2.1;simp only[List.length_append,List.length_cons,List.length_nil];omega
   ·split
    ·have j:=zj s 40 (p+1) b;have a:zc s 40 (p+1) b<=s.size:=zu oq ol;generalize zc s 40 (p+1) b=k1 at *;generalize zk s 40 (p+1) b=b1 at *;have y:=z7 (b:=b1) a;have x:=yb (b:=b1) a;have w:=zj s 44 (zs s k1 b1) (zw s k1 b1);have i:=zu (c:=44) (b:=zw s k1 b1) oq x;have h:=ih (d+1) m (zc s 44 (zs s k1 b1) (zw s k1 b1)) (zk s 44 (zs s k1 b1) (zw s k1 b1)) i;generalize cE s rs n (d+1) m (zc s 44 (zs s k1 b1) (zw s k1 b1)) (zk s 44 (zs s k1 b1) (zw s k1 b1))=r at *;have q:=zj s 41 r.k r.b;have o:=zu (c:=41) (b:=r.b) oq h.2.1;simp only[List.length_append,List.length_cons,List.length_nil];omega
    ·split
     ·have j:=z7 (s:=s) (k:=p+1) (b:=b) ol;have a:=yb (s:=s) (k:=p+1) (b:=b) ol;simp only[List.length_cons,List.length_nil];omega
     ·split
      ·have j:=Yu s (p+1) b;have a:=xT (s:=s) (k:=p+1) (b:=b) ol;simp only[List.length_cons,List.length_nil];omega
      ·have j:=zj s 40 (p+1) b;have a:zc s 40 (p+1) b<=s.size:=zu oq ol;generalize zc s 40 (p+1) b=k1 at *;generalize zk s 40 (p+1) b=b1 at *;have g:=zP ih (zg s p b) d (s.size+1-k1) m k1 b1 a;generalize ze (cE s rs n) s (zg s p b) d (s.size+1-k1) m k1 b1=l at *;have w:=zj s 124 l.k l.b;have i:=zu (c:=124) (b:=l.b) oq g.2.1;have h:=ih (d+1) (m+l.es.length) (zc s 124 l.k l.b) (zk s 124 l.k l.b) i;generalize cE s rs n (d+1) (m+l.es.length) (zc s 124 l.k l.b) (zk s 124 l.k l.b)=r at *;have q:=zj s 41 r.k r.b;have o:=zu (c:=41) (b:=r.b) oq h.2.1;simp only[List.length_append,List.length_cons,List.length_nil];omega
end Go.Proofs.YtaebngpoagjafabGreat
