import Derived.Test.YtaebngpoagjafabGreatU08
set_option maxRecDepth 100000
set_option maxHeartbeats 1600000
namespace Go.Proofs.YtaebngpoagjafabGreat
open Obj renaming cells → O
open Value renaming int → J
open IntKind renaming i64 → Z
open Go.RowKit
attribute [local go_sem ↓] Go.wp_at_zero Go.wp_at_succ
theorem zbl (ex:Int->Nat->Nat->Bool->CR) (base B:Nat) (s:ByteArray) (d:Int) (k:Nat) (b:Bool) (ev rv:Value) (es:List (EX×Value)) (rs:List RL) (w:World) (hs:s.size<=2000) (hk:k<=s.size) (h:PM w base B s k b ev rv es rs) (R:CI) (hR:Hid ((zv ex s 119 d es.length k b)=R)) :
 Calls Tryz.prog 170 #[.pointer (some ⟨B,0,none⟩),J .u8 119,J Z d] w fun e w'=>e=.returned (.agg #[J Z R.im.at_,J Z R.im.num,J Z R.im.pv,J Z R.im.pl,J Z R.im.wv,J Z R.im.wa,J Z R.im.arm])/\∃ ev' new,new.map Prod.fst=R.es/\PM w' base B s R.k R.b ev' rv (es++new) rs/\Mv base B ev rv ev' rv w w'/\∀ p∈new,∀ g,p.2.ownBlock=some g->w.heap.size<=g:=by
 have H:Hid (PM (w.alloc (O #[J Z 0,J Z 0,J Z 0,J Z 0,J Z 0,J Z 0,J Z 0] 155)) base B s k b ev rv es rs):=h.alloc _
 have S:Hid (Mv base B ev rv ev rv w (w.alloc (O #[J Z 0,J Z 0,J Z 0,J Z 0,J Z 0,J Z 0,J Z 0] 155))):=Mv.alloc h.bs _
 have u:=h.outNew
 have G:=h.bs
 have U:Hid (Fre w.heap.size es):=h.fre (Nat.le_refl _)
 clear h
 go_enter Tryz.func170,Tryz.ntmps170
 go_wp2_with fail
 refine (yj base B s k b ev rv es rs _ hs hk H.out).mono ?_
 rintro e f ⟨rfl,o,n⟩
 have m:Hid (f.heap[w.heap.size]?=some (O #[J Z 0,J Z 0,J Z 0,J Z 0,J Z 0,J Z 0,J Z 0] 155 (0,0))):=(n.kept _ (by simp) u).1.trans (heap_alloc_new w _)
 have z:zb s k b<=s.size:=zM hk
 have a2:k<=zb s k b:=by unfold zb;split<;>first | exact Nat.le_refl _ | exact T.sk_ge s k
 unfold zv at hR
 generalize zb s k b=p at *
 have HP:Hid (PM (f.alloc (O #[J Z p,J Z 0,J Z 0,J Z 0,J Z 0,J Z 0,J Z (-1)] 155)) base B s p b ev rv es rs):=o.alloc _
 have HM:Hid (Mv base B ev rv ev rv w (f.alloc (O #[J Z p,J Z 0,J Z 0,J Z 0,J Z 0,J Z 0,J Z (-1)] 155))):=(S.out.trans n).trans (Mv.alloc o.bs _)
 have q:=o.outNew
 have A:Hid (Fre f.heap.size es):=o.fre (Nat.le_refl _)
 have D:w.heap.size<f.heap.size:=lt_of_block m.out
 have RH:Hid ((f.alloc (O #[J Z p,J Z 0,J Z 0,J Z 0,J Z 0,J Z 0,J Z (-1)] 155)).heap[w.heap.size]?=some (O #[J Z 0,J Z 0,J Z 0,J Z 0,J Z 0,J Z 0,J Z 0] 155 (0,0))):=(Below.heap_alloc _ _ _ D).trans m.out
 have XH:Hid ((f.alloc (O #[J Z p,J Z 0,J Z 0,J Z 0,J Z 0,J Z 0,J Z (-1)] 155)).heap[f.heap.size]?=some (O #[J Z p,J Z 0,J Z 0,J Z 0,J Z 0,J Z 0,J Z (-1)] 155 (0,0))):=heap_alloc_new f _
 have c1:=o.c1
 clear o n m
 have a4:=fun w=>Xu p (-1) w
 have a3:=fun a b w=>Y3 a b w
 have a0:w.heap.size≠B:=u.1
 have F:w.heap.size≠f.heap.size:=by omega
 have a1:f.heap.size≠B:=q.1
 go_wp2_with fail
 clear c1
 refine (Zg base B s p b ev rv es rs _ hs z HP.out).mono ?_
 rintro e r ⟨rfl,o,n⟩
 have L:Hid _:=o
 have Q:Hid (Mv base B ev rv ev rv w r):=(HM.out).trans n
 have m:Hid (r.heap[w.heap.size]?=some (O #[J Z 0,J Z 0,J Z 0,J Z 0,J Z 0,J Z 0,J Z 0] 155 (0,0))):=(n.kept _ (by first | (simp;omega) | (simp [World.size_setCell];exact y.out)) u).1.trans (RH.out)
 have i:Hid (r.heap[f.heap.size]?=some (O #[J Z p,J Z 0,J Z 0,J Z 0,J Z 0,J Z 0,J Z (-1)] 155 (0,0))):=(n.kept _ (by first | (simp;done) | (simp [World.size_setCell];exact x.out)) q).1.trans (XH.out)
 have y:Hid (w.heap.size<r.heap.size):=lt_of_block m.out
 have x:Hid (f.heap.size<r.heap.size):=lt_of_block i.out
 clear o n
 have x0:r.cell? ⟨f.heap.size,0,none⟩=some (J Z p):=by simp [World.cell?,i.out]
 have x1:r.cell? ⟨f.heap.size,1,none⟩=some (J Z 0):=by simp [World.cell?,i.out]
 have x2:r.cell? ⟨f.heap.size,2,none⟩=some (J Z 0):=by simp [World.cell?,i.out]
 have x3:r.cell? ⟨f.heap.size,3,none⟩=some (J Z 0):=by simp [World.cell?,i.out]
 have Y:r.cell? ⟨f.heap.size,4,none⟩=some (J Z 0):=by simp [World.cell?,i.out]
 have X:r.cell? ⟨f.heap.size,5,none⟩=some (J Z 0):=by simp [World.cell?,i.out]
 have W:r.cell? ⟨f.heap.size,6,none⟩=some (J Z (-1)):=by simp [World.cell?,i.out]
 have V:∀ j,r.frozen? ⟨f.heap.size,j,none⟩=false:=fun j=>by simp [World.frozen?,i.out]
 go_wp2_with fail
 clear x0 x1 x2 x3 Y X W V
 refine (yM base B s 42 _ _ ev rv es rs _ hs (ya z) (by decide) (L.out.setI ⟨_,_,i.out⟩ A.out)).mono ?_
 rintro e C ⟨rfl,o,n⟩
 have K:Hid _:=o
 have P:Hid (Mv base B ev rv ev rv w C):=(Q.out.setNew (by omega) (by omega) _).trans n
 have m:Hid (C.heap[w.heap.size]?=some (O #[J Z 0,J Z 0,J Z 0,J Z 0,J Z 0,J Z 0,J Z 0] 155 (0,0))):=(n.kept _ (by first | (simp;omega) | (simp [World.size_setCell];exact y.out)) u).1.trans (by rw [za F];exact m.out)
 have i:Hid (C.heap[f.heap.size]?=some (O #[J Z p,J Z (zJ s p b),J Z 0,J Z 0,J Z 0,J Z 0,J Z (-1)] 155 (0,0))):=(n.kept _ (by first | (simp;done) | (simp [World.size_setCell];exact x.out)) q).1.trans (z7 i.out)
 have y:Hid (w.heap.size<C.heap.size):=lt_of_block m.out
 have x:Hid (f.heap.size<C.heap.size):=lt_of_block i.out
 clear o n
 generalize hk2:zc s 42 (zo s p b) (zw s p b)=k2 at *
 generalize hb2:zj s 42 (zo s p b) (zw s p b)=b2 at *
 have E:k2<=s.size:=by rw [<- hk2];exact zs (by decide) (ya z)
 clear hk2 hb2
 go_wp2_with fail
 refine (Zg base B s k2 b2 ev rv es rs _ hs E K.out).mono ?_
 rintro e l ⟨rfl,o,n⟩
 have I:Hid _:=o
 have N:Hid (Mv base B ev rv ev rv w l):=(P.out).trans n
 have m:Hid (l.heap[w.heap.size]?=some (O #[J Z 0,J Z 0,J Z 0,J Z 0,J Z 0,J Z 0,J Z 0] 155 (0,0))):=(n.kept _ y.out u).1.trans (m.out)
 have i:Hid (l.heap[f.heap.size]?=some (O #[J Z p,J Z (zJ s p b),J Z 0,J Z 0,J Z 0,J Z 0,J Z (-1)] 155 (0,0))):=(n.kept _ x.out q).1.trans (i.out)
 have y:Hid (w.heap.size<l.heap.size):=lt_of_block m.out
 have x:Hid (f.heap.size<l.heap.size):=lt_of_block i.out
 clear o n
 have x0:l.cell? ⟨f.heap.size,0,none⟩=some (J Z p):=by simp [World.cell?,i.out]
 have x1:l.cell? ⟨f.heap.size,1,none⟩=some (J Z (zJ s p b)):=by simp [World.cell?,i.out]
 have x2:l.cell? ⟨f.heap.size,2,none⟩=some (J Z 0):=by simp [World.cell?,i.out]
 have x3:l.cell? ⟨f.heap.size,3,none⟩=some (J Z 0):=by simp [World.cell?,i.out]
 have Y:l.cell? ⟨f.heap.size,4,none⟩=some (J Z 0):=by simp [World.cell?,i.out]
 have X:l.cell? ⟨f.heap.size,5,none⟩=some (J Z 0):=by simp [World.cell?,i.out]
 have W:l.cell? ⟨f.heap.size,6,none⟩=some (J Z (-1)):=by simp [World.cell?,i.out]
 have V:∀ j,l.frozen? ⟨f.heap.size,j,none⟩=false:=fun j=>by simp [World.frozen?,i.out]
 have r0:l.cell? ⟨w.heap.size,0,none⟩=some (J Z 0):=by simp [World.cell?,m.out]
 have r1:l.cell? ⟨w.heap.size,1,none⟩=some (J Z 0):=by simp [World.cell?,m.out]
 have r2:l.cell? ⟨w.heap.size,2,none⟩=some (J Z 0):=by simp [World.cell?,m.out]
 have r3:l.cell? ⟨w.heap.size,3,none⟩=some (J Z 0):=by simp [World.cell?,m.out]
 have r4:l.cell? ⟨w.heap.size,4,none⟩=some (J Z 0):=by simp [World.cell?,m.out]
 have r5:l.cell? ⟨w.heap.size,5,none⟩=some (J Z 0):=by simp [World.cell?,m.out]
 have r6:l.cell? ⟨w.heap.size,6,none⟩=some (J Z 0):=by simp [World.cell?,m.out]
 have rz:∀ j,l.frozen? ⟨w.heap.size,j,none⟩=false:=fun j=>by simp [World.frozen?,m.out]
 go_wp2_with fail
 exact bodyPost_ret (v:=.agg #[J Z p,J Z (zJ s p b),J Z 0,J Z 0,J Z (zJ s k2 b2),J Z (zb s k2 b2),J Z (-1)]) (by simp [results,Tryz.results170,go_sem,r0,r1,r2,r3,r4,r5,r6]) rfl ⟨by rw [<- hR.out];rfl,ev,[],by rw [<- hR.out];rfl,by rw [<- hR.out,List.append_nil];exact ((I.out.setI ⟨_,_,i.out⟩ A.out).setI (zI.set ⟨_,_,i.out⟩ _ _ _) A.out).setI7 (zI.set (zI.set ⟨_,_,m.out⟩ _ _ _) _ _ _) U.out,((N.out.setNew (by omega) (by omega) _).setNew (by omega) (by omega) _).setNew7 (Nat.le_refl _) G _ _ _ _ _ _ _,by simp⟩
theorem jX (ex:Int->Nat->Nat->Bool->CR) (base B:Nat) (s:ByteArray) (d:Int) (k:Nat) (b:Bool) (ev rv:Value) (es:List (EX×Value)) (rs:List RL) (w:World) (n:Nat) (hX:Y9 ex s base B rs n) (h0:0<=d) (h1:d+1<=k) (hl:es.length<=k) (hn:b=true\/s.size-k<n) (hs:s.size<=2000) (hk:k<=s.size) (h:PM w base B s k b ev rv es rs) (R:CI) (hR:Hid ((zv ex s 103 d es.length k b)=R)) :
 Calls Tryz.prog 170 #[.pointer (some ⟨B,0,none⟩),J .u8 103,J Z d] w fun e w'=>e=.returned (.agg #[J Z R.im.at_,J Z R.im.num,J Z R.im.pv,J Z R.im.pl,J Z R.im.wv,J Z R.im.wa,J Z R.im.arm])/\∃ ev' new,new.map Prod.fst=R.es/\PM w' base B s R.k R.b ev' rv (es++new) rs/\Mv base B ev rv ev' rv w w'/\∀ p∈new,∀ g,p.2.ownBlock=some g->w.heap.size<=g:=by
 have H:Hid (PM (w.alloc (O #[J Z 0,J Z 0,J Z 0,J Z 0,J Z 0,J Z 0,J Z 0] 155)) base B s k b ev rv es rs):=h.alloc _
 have a5:Hid (Mv base B ev rv ev rv w (w.alloc (O #[J Z 0,J Z 0,J Z 0,J Z 0,J Z 0,J Z 0,J Z 0] 155))):=Mv.alloc h.bs _
 have A:=h.outNew
 have W:=h.bs
 have a6:Hid (Fre w.heap.size es):=h.fre (Nat.le_refl _)
 clear h
 go_enter Tryz.func170,Tryz.ntmps170
 go_wp2_with fail
 refine (yj base B s k b ev rv es rs _ hs hk H.out).mono ?_
 rintro e f ⟨rfl,i,q⟩
 have D:Hid (f.heap[w.heap.size]?=some (O #[J Z 0,J Z 0,J Z 0,J Z 0,J Z 0,J Z 0,J Z 0] 155 (0,0))):=(q.kept _ (by simp) A).1.trans (heap_alloc_new w _)
 have E:zb s k b<=s.size:=zM hk
 have U:k<=zb s k b:=by unfold zb;split<;>first | exact Nat.le_refl _ | exact T.sk_ge s k
 unfold zv at hR
 generalize zb s k b=p at *
 have HP:Hid (PM (f.alloc (O #[J Z p,J Z 0,J Z 0,J Z 0,J Z 0,J Z 0,J Z (-1)] 155)) base B s p b ev rv es rs):=i.alloc _
 have HM:Hid (Mv base B ev rv ev rv w (f.alloc (O #[J Z p,J Z 0,J Z 0,J Z 0,J Z 0,J Z 0,J Z (-1)] 155))):=(a5.out.trans q).trans (Mv.alloc i.bs _)
 have x:=i.outNew
 have P:Hid (Fre f.heap.size es):=i.fre (Nat.le_refl _)
 have K:w.heap.size<f.heap.size:=lt_of_block D.out
 have RH:Hid ((f.alloc (O #[J Z p,J Z 0,J Z 0,J Z 0,J Z 0,J Z 0,J Z (-1)] 155)).heap[w.heap.size]?=some (O #[J Z 0,J Z 0,J Z 0,J Z 0,J Z 0,J Z 0,J Z 0] 155 (0,0))):=(Below.heap_alloc _ _ _ K).trans D.out
 have XH:Hid ((f.alloc (O #[J Z p,J Z 0,J Z 0,J Z 0,J Z 0,J Z 0,J Z (-1)] 155)).heap[f.heap.size]?=some (O #[J Z p,J Z 0,J Z 0,J Z 0,J Z 0,J Z 0,J Z (-1)] 155 (0,0))):=heap_alloc_new f _
 have c1:=i.c1
 clear i q D
 have b2:=fun w=>Xu p (-1) w
 have b1:=fun a b w=>Y3 a b w
 have a8:w.heap.size≠B:=A.1
 have S:w.heap.size≠f.heap.size:=by omega
 have a9:f.heap.size≠B:=x.1
 go_wp2_with fail
 clear c1
 refine (Zg base B s p b ev rv es rs _ hs E HP.out).mono ?_
 rintro e y ⟨rfl,i,q⟩
 have a0:Hid _:=i
 have a3:Hid (Mv base B ev rv ev rv w y):=(HM.out).trans q
 have D:Hid (y.heap[w.heap.size]?=some (O #[J Z 0,J Z 0,J Z 0,J Z 0,J Z 0,J Z 0,J Z 0] 155 (0,0))):=(q.kept _ (by first | (simp;omega) | (simp [World.size_setCell];exact z.out)) A).1.trans (RH.out)
 have u:Hid (y.heap[f.heap.size]?=some (O #[J Z p,J Z 0,J Z 0,J Z 0,J Z 0,J Z 0,J Z (-1)] 155 (0,0))):=(q.kept _ (by first | (simp;done) | (simp [World.size_setCell];exact C.out)) x).1.trans (XH.out)
 have z:Hid (w.heap.size<y.heap.size):=lt_of_block D.out
 have C:Hid (f.heap.size<y.heap.size):=lt_of_block u.out
 clear i q
 have x0:y.cell? ⟨f.heap.size,0,none⟩=some (J Z p):=by simp [World.cell?,u.out]
 have x1:y.cell? ⟨f.heap.size,1,none⟩=some (J Z 0):=by simp [World.cell?,u.out]
 have x2:y.cell? ⟨f.heap.size,2,none⟩=some (J Z 0):=by simp [World.cell?,u.out]
 have x3:y.cell? ⟨f.heap.size,3,none⟩=some (J Z 0):=by simp [World.cell?,u.out]
 have x4:y.cell? ⟨f.heap.size,4,none⟩=some (J Z 0):=by simp [World.cell?,u.out]
 have x5:y.cell? ⟨f.heap.size,5,none⟩=some (J Z 0):=by simp [World.cell?,u.out]
 have x6:y.cell? ⟨f.heap.size,6,none⟩=some (J Z (-1)):=by simp [World.cell?,u.out]
 have xz:∀ j,y.frozen? ⟨f.heap.size,j,none⟩=false:=fun j=>by simp [World.frozen?,u.out]
 go_wp2_with fail
 clear x0 x1 x2 x3 x4 x5 x6 xz
 refine (yM base B s 58 _ _ ev rv es rs _ hs (ya E) (by decide) (a0.out.setI ⟨_,_,u.out⟩ P.out)).mono ?_
 rintro e I ⟨rfl,i,q⟩
 have Y:Hid _:=i
 have a2:Hid (Mv base B ev rv ev rv w I):=(a3.out.setNew (by omega) (by omega) _).trans q
 have D:Hid (I.heap[w.heap.size]?=some (O #[J Z 0,J Z 0,J Z 0,J Z 0,J Z 0,J Z 0,J Z 0] 155 (0,0))):=(q.kept _ (by first | (simp;omega) | (simp [World.size_setCell];exact z.out)) A).1.trans (by rw [za S];exact D.out)
 have u:Hid (I.heap[f.heap.size]?=some (O #[J Z p,J Z (zJ s p b),J Z 0,J Z 0,J Z 0,J Z 0,J Z (-1)] 155 (0,0))):=(q.kept _ (by first | (simp;done) | (simp [World.size_setCell];exact C.out)) x).1.trans (z7 u.out)
 have z:Hid (w.heap.size<I.heap.size):=lt_of_block D.out
 have C:Hid (f.heap.size<I.heap.size):=lt_of_block u.out
 clear i q
 go_wp2_with fail
 have V:zc s 58 (zo s p b) (zw s p b)<=s.size:=zs (by decide) (ya E)
 have b0:k<=zc s 58 (zo s p b) (zw s p b):=Nat.le_trans U (Nat.le_trans (z5 E) (zi _ _ _ _))
 have L:zj s 58 (zo s p b) (zw s p b)=true\/s.size-zc s 58 (zo s p b) (zw s p b)<n:=by
  rcases hn with hn | hn
  ·exact .inl (XA (qM hn))
  ·exact .inr (by omega)
 refine (hX (d+1) _ _ ev rv es _ V (by omega) (by omega) (by omega) L Y.out).mono ?_
 rintro e o ⟨rfl,ev',new,G,i,q,F⟩
 generalize ex (d+1) es.length (zc s 58 (zo s p b) (zw s p b)) (zj s 58 (zo s p b) (zw s p b))=r at *
 have X:Hid _:=i
 have a1:Hid _:=a2.out.trans q
 have m:Hid (o.heap[w.heap.size]?=some (O #[J Z 0,J Z 0,J Z 0,J Z 0,J Z 0,J Z 0,J Z 0] 155 (0,0))):=(q.kept _ z.out A).1.trans D.out
 have l:Hid (o.heap[f.heap.size]?=some (O #[J Z p,J Z (zJ s p b),J Z 0,J Z 0,J Z 0,J Z 0,J Z (-1)] 155 (0,0))):=(q.kept _ C.out x).1.trans u.out
 have Q:Hid (Fre w.heap.size (es++new)):=a6.out.app (fun p i e=>by have:=F p i _ e;have:=z.out;omega)
 have N:Hid (Fre f.heap.size (es++new)):=P.out.app (fun p i e=>by have:=F p i _ e;have:=C.out;omega)
 have a4:Hid _:=G
 have a7:Hid (∀ p∈new,∀ g,p.2.ownBlock=some g->w.heap.size<=g):=fun p i g hg=>by have:=F p i g hg;have:=z.out;omega
 clear i q F G
 have x0:o.cell? ⟨f.heap.size,0,none⟩=some (J Z p):=by simp [World.cell?,l.out]
 have x1:o.cell? ⟨f.heap.size,1,none⟩=some (J Z (zJ s p b)):=by simp [World.cell?,l.out]
 have x2:o.cell? ⟨f.heap.size,2,none⟩=some (J Z 0):=by simp [World.cell?,l.out]
 have x3:o.cell? ⟨f.heap.size,3,none⟩=some (J Z 0):=by simp [World.cell?,l.out]
 have x4:o.cell? ⟨f.heap.size,4,none⟩=some (J Z 0):=by simp [World.cell?,l.out]
 have x5:o.cell? ⟨f.heap.size,5,none⟩=some (J Z 0):=by simp [World.cell?,l.out]
 have x6:o.cell? ⟨f.heap.size,6,none⟩=some (J Z (-1)):=by simp [World.cell?,l.out]
 have xz:∀ j,o.frozen? ⟨f.heap.size,j,none⟩=false:=fun j=>by simp [World.frozen?,l.out]
 have r0:o.cell? ⟨w.heap.size,0,none⟩=some (J Z 0):=by simp [World.cell?,m.out]
 have r1:o.cell? ⟨w.heap.size,1,none⟩=some (J Z 0):=by simp [World.cell?,m.out]
 have r2:o.cell? ⟨w.heap.size,2,none⟩=some (J Z 0):=by simp [World.cell?,m.out]
 have r3:o.cell? ⟨w.heap.size,3,none⟩=some (J Z 0):=by simp [World.cell?,m.out]
 have r4:o.cell? ⟨w.heap.size,4,none⟩=some (J Z 0):=by simp [World.cell?,m.out]
 have r5:o.cell? ⟨w.heap.size,5,none⟩=some (J Z 0):=by simp [World.cell?,m.out]
 have r6:o.cell? ⟨w.heap.size,6,none⟩=some (J Z 0):=by simp [World.cell?,m.out]
 have rz:∀ j,o.frozen? ⟨w.heap.size,j,none⟩=false:=fun j=>by simp [World.frozen?,m.out]
 go_wp2_with fail
 exact bodyPost_ret (v:=.agg #[J Z p,J Z (zJ s p b),J Z 0,J Z 0,J Z 0,J Z 0,J Z r.idx]) (by simp [results,Tryz.results170,go_sem,r0,r1,r2,r3,r4,r5,r6]) rfl ⟨by rw [<- hR.out];rfl,ev',new,by rw [<- hR.out];exact a4.out,by rw [<- hR.out];exact (X.out.setI ⟨_,_,l.out⟩ N.out).setI7 (zI.set ⟨_,_,m.out⟩ _ _ _) Q.out,(a1.out.setNew (by omega) (by omega) _).setNew7 (Nat.le_refl _) W _ _ _ _ _ _ _,a7.out⟩
theorem zbm (ex:Int->Nat->Nat->Bool->CR) (base B:Nat) (s:ByteArray) (d:Int) (k:Nat) (b:Bool) (ev rv:Value) (es:List (EX×Value)) (rs:List RL) (w:World) (n:Nat) (hX:Y9 ex s base B rs n) (h0:0<=d) (h1:d+1<=k) (hl:es.length<=k) (hn:b=true\/s.size-k<n) (hs:s.size<=2000) (hk:k<=s.size) (h:PM w base B s k b ev rv es rs) (R:CI) (hR:Hid ((zv ex s 109 d es.length k b)=R)) :
 Calls Tryz.prog 170 #[.pointer (some ⟨B,0,none⟩),J .u8 109,J Z d] w fun e w'=>e=.returned (.agg #[J Z R.im.at_,J Z R.im.num,J Z R.im.pv,J Z R.im.pl,J Z R.im.wv,J Z R.im.wa,J Z R.im.arm])/\∃ ev' new,new.map Prod.fst=R.es/\PM w' base B s R.k R.b ev' rv (es++new) rs/\Mv base B ev rv ev' rv w w'/\∀ p∈new,∀ g,p.2.ownBlock=some g->w.heap.size<=g:=by
 have H:Hid (PM (w.alloc (O #[J Z 0,J Z 0,J Z 0,J Z 0,J Z 0,J Z 0,J Z 0] 155)) base B s k b ev rv es rs):=h.alloc _
 have a5:Hid (Mv base B ev rv ev rv w (w.alloc (O #[J Z 0,J Z 0,J Z 0,J Z 0,J Z 0,J Z 0,J Z 0] 155))):=Mv.alloc h.bs _
 have A:=h.outNew
 have W:=h.bs
 have a6:Hid (Fre w.heap.size es):=h.fre (Nat.le_refl _)
 clear h
 go_enter Tryz.func170,Tryz.ntmps170
 go_wp2_with fail
 refine (yj base B s k b ev rv es rs _ hs hk H.out).mono ?_
 rintro e f ⟨rfl,i,q⟩
 have D:Hid (f.heap[w.heap.size]?=some (O #[J Z 0,J Z 0,J Z 0,J Z 0,J Z 0,J Z 0,J Z 0] 155 (0,0))):=(q.kept _ (by simp) A).1.trans (heap_alloc_new w _)
 have E:zb s k b<=s.size:=zM hk
 have U:k<=zb s k b:=by unfold zb;split<;>first | exact Nat.le_refl _ | exact T.sk_ge s k
 unfold zv at hR
 generalize zb s k b=p at *
 have HP:Hid (PM (f.alloc (O #[J Z p,J Z 0,J Z 0,J Z 0,J Z 0,J Z 0,J Z (-1)] 155)) base B s p b ev rv es rs):=i.alloc _
 have HM:Hid (Mv base B ev rv ev rv w (f.alloc (O #[J Z p,J Z 0,J Z 0,J Z 0,J Z 0,J Z 0,J Z (-1)] 155))):=(a5.out.trans q).trans (Mv.alloc i.bs _)
 have x:=i.outNew
 have I:Hid (Fre f.heap.size es):=i.fre (Nat.le_refl _)
 have L:w.heap.size<f.heap.size:=lt_of_block D.out
 have RH:Hid ((f.alloc (O #[J Z p,J Z 0,J Z 0,J Z 0,J Z 0,J Z 0,J Z (-1)] 155)).heap[w.heap.size]?=some (O #[J Z 0,J Z 0,J Z 0,J Z 0,J Z 0,J Z 0,J Z 0] 155 (0,0))):=(Below.heap_alloc _ _ _ L).trans D.out
 have XH:Hid ((f.alloc (O #[J Z p,J Z 0,J Z 0,J Z 0,J Z 0,J Z 0,J Z (-1)] 155)).heap[f.heap.size]?=some (O #[J Z p,J Z 0,J Z 0,J Z 0,J Z 0,J Z 0,J Z (-1)] 155 (0,0))):=heap_alloc_new f _
 have c1:=i.c1
 clear i q D
 have b2:=fun w=>Xu p (-1) w
 have b1:=fun a b w=>Y3 a b w
 have a8:w.heap.size≠B:=A.1
 have N:w.heap.size≠f.heap.size:=by omega
 have a9:f.heap.size≠B:=x.1
 go_wp2_with fail
 clear c1
 refine (zds base B s p b ev rv es rs _ hs E HP.out).mono ?_
 rintro e y ⟨rfl,i,q⟩
 have a0:Hid _:=i
 have a3:Hid (Mv base B ev rv ev rv w y):=(HM.out).trans q
 have D:Hid (y.heap[w.heap.size]?=some (O #[J Z 0,J Z 0,J Z 0,J Z 0,J Z 0,J Z 0,J Z 0] 155 (0,0))):=(q.kept _ (by first | (simp;omega) | (simp [World.size_setCell];exact z.out)) A).1.trans (RH.out)
 have u:Hid (y.heap[f.heap.size]?=some (O #[J Z p,J Z 0,J Z 0,J Z 0,J Z 0,J Z 0,J Z (-1)] 155 (0,0))):=(q.kept _ (by first | (simp;done) | (simp [World.size_setCell];exact C.out)) x).1.trans (XH.out)
 have z:Hid (w.heap.size<y.heap.size):=lt_of_block D.out
 have C:Hid (f.heap.size<y.heap.size):=lt_of_block u.out
 clear i q
 have x0:y.cell? ⟨f.heap.size,0,none⟩=some (J Z p):=by simp [World.cell?,u.out]
 have x1:y.cell? ⟨f.heap.size,1,none⟩=some (J Z 0):=by simp [World.cell?,u.out]
 have x2:y.cell? ⟨f.heap.size,2,none⟩=some (J Z 0):=by simp [World.cell?,u.out]
 have x3:y.cell? ⟨f.heap.size,3,none⟩=some (J Z 0):=by simp [World.cell?,u.out]
 have x4:y.cell? ⟨f.heap.size,4,none⟩=some (J Z 0):=by simp [World.cell?,u.out]
 have x5:y.cell? ⟨f.heap.size,5,none⟩=some (J Z 0):=by simp [World.cell?,u.out]
 have x6:y.cell? ⟨f.heap.size,6,none⟩=some (J Z (-1)):=by simp [World.cell?,u.out]
 have xz:∀ j,y.frozen? ⟨f.heap.size,j,none⟩=false:=fun j=>by simp [World.frozen?,u.out]
 go_wp2_with fail
 clear x0 x1 x2 x3 x4 x5 x6 xz
 refine (yM base B s 58 _ _ ev rv es rs _ hs (xS E) (by decide) ((a0.out.setI ⟨_,_,u.out⟩ I.out).setI (zI.set ⟨_,_,u.out⟩ _ _ _) I.out)).mono ?_
 rintro e K ⟨rfl,i,q⟩
 have Y:Hid _:=i
 have a2:Hid (Mv base B ev rv ev rv w K):=((a3.out.setNew (by omega) (by omega) _).setNew (by omega) (by omega) _).trans q
 have D:Hid (K.heap[w.heap.size]?=some (O #[J Z 0,J Z 0,J Z 0,J Z 0,J Z 0,J Z 0,J Z 0] 155 (0,0))):=(q.kept _ (by first | (simp;omega) | (simp [World.size_setCell];exact z.out)) A).1.trans (by rw [za N,za N];exact D.out)
 have u:Hid (K.heap[f.heap.size]?=some (O #[J Z p,J Z 0,J Z (btV s p b),J Z (btL s p b),J Z 0,J Z 0,J Z (-1)] 155 (0,0))):=(q.kept _ (by first | (simp;done) | (simp [World.size_setCell];exact C.out)) x).1.trans (z7 (z7 u.out))
 have z:Hid (w.heap.size<K.heap.size):=lt_of_block D.out
 have C:Hid (f.heap.size<K.heap.size):=lt_of_block u.out
 clear i q
 go_wp2_with fail
 have V:zc s 58 (btK s p b) (btX s p b)<=s.size:=zs (by decide) (xS E)
 have b0:k<=zc s 58 (btK s p b) (btX s p b):=Nat.le_trans U (Nat.le_trans (xT E) (zi _ _ _ _))
 have P:zj s 58 (btK s p b) (btX s p b)=true\/s.size-zc s 58 (btK s p b) (btX s p b)<n:=by
  rcases hn with hn | hn
  ·exact .inl (XA (jm hn))
  ·exact .inr (by omega)
 refine (hX (d+1) _ _ ev rv es _ V (by omega) (by omega) (by omega) P Y.out).mono ?_
 rintro e o ⟨rfl,ev',new,G,i,q,F⟩
 generalize ex (d+1) es.length (zc s 58 (btK s p b) (btX s p b)) (zj s 58 (btK s p b) (btX s p b))=r at *
 have X:Hid _:=i
 have a1:Hid _:=a2.out.trans q
 have m:Hid (o.heap[w.heap.size]?=some (O #[J Z 0,J Z 0,J Z 0,J Z 0,J Z 0,J Z 0,J Z 0] 155 (0,0))):=(q.kept _ z.out A).1.trans D.out
 have l:Hid (o.heap[f.heap.size]?=some (O #[J Z p,J Z 0,J Z (btV s p b),J Z (btL s p b),J Z 0,J Z 0,J Z (-1)] 155 (0,0))):=(q.kept _ C.out x).1.trans u.out
 have S:Hid (Fre w.heap.size (es++new)):=a6.out.app (fun p i e=>by have:=F p i _ e;have:=z.out;omega)
 have Q:Hid (Fre f.heap.size (es++new)):=I.out.app (fun p i e=>by have:=F p i _ e;have:=C.out;omega)
 have a4:Hid _:=G
 have a7:Hid (∀ p∈new,∀ g,p.2.ownBlock=some g->w.heap.size<=g):=fun p i g hg=>by have:=F p i g hg;have:=z.out;omega
 clear i q F G
 have x0:o.cell? ⟨f.heap.size,0,none⟩=some (J Z p):=by simp [World.cell?,l.out]
 have x1:o.cell? ⟨f.heap.size,1,none⟩=some (J Z 0):=by simp [World.cell?,l.out]
 have x2:o.cell? ⟨f.heap.size,2,none⟩=some (J Z (btV s p b)):=by simp [World.cell?,l.out]
 have x3:o.cell? ⟨f.heap.size,3,none⟩=some (J Z (btL s p b)):=by simp [World.cell?,l.out]
 have x4:o.cell? ⟨f.heap.size,4,none⟩=some (J Z 0):=by simp [World.cell?,l.out]
 have x5:o.cell? ⟨f.heap.size,5,none⟩=some (J Z 0):=by simp [World.cell?,l.out]
 have x6:o.cell? ⟨f.heap.size,6,none⟩=some (J Z (-1)):=by simp [World.cell?,l.out]
 have xz:∀ j,o.frozen? ⟨f.heap.size,j,none⟩=false:=fun j=>by simp [World.frozen?,l.out]
 have r0:o.cell? ⟨w.heap.size,0,none⟩=some (J Z 0):=by simp [World.cell?,m.out]
 have r1:o.cell? ⟨w.heap.size,1,none⟩=some (J Z 0):=by simp [World.cell?,m.out]
 have r2:o.cell? ⟨w.heap.size,2,none⟩=some (J Z 0):=by simp [World.cell?,m.out]
 have r3:o.cell? ⟨w.heap.size,3,none⟩=some (J Z 0):=by simp [World.cell?,m.out]
 have r4:o.cell? ⟨w.heap.size,4,none⟩=some (J Z 0):=by simp [World.cell?,m.out]
 have r5:o.cell? ⟨w.heap.size,5,none⟩=some (J Z 0):=by simp [World.cell?,m.out]
 have r6:o.cell? ⟨w.heap.size,6,none⟩=some (J Z 0):=by simp [World.cell?,m.out]
 have rz:∀ j,o.frozen? ⟨w.heap.size,j,none⟩=false:=fun j=>by simp [World.frozen?,m.out]
 go_wp2_with fail
 exact bodyPost_ret (v:=.agg #[J Z p,J Z 0,J Z (btV s p b),J Z (btL s p b),J Z 0,J Z 0,J Z r.idx]) (by simp [results,Tryz.results170,go_sem,r0,r1,r2,r3,r4,r5,r6]) rfl ⟨by rw [<- hR.out];rfl,ev',new,by rw [<- hR.out];exact a4.out,by rw [<- hR.out];exact (X.out.setI ⟨_,_,l.out⟩ Q.out).setI7 (zI.set ⟨_,_,m.out⟩ _ _ _) S.out,(a1.out.setNew (by omega) (by omega) _).setNew7 (Nat.le_refl _) W _ _ _ _ _ _ _,a7.out⟩
end Go.Proofs.YtaebngpoagjafabGreat
