import Derived.Test.YtaebngpoagjafabGreatV12
set_option maxRecDepth 100000
set_option maxHeartbeats 1600000
namespace Go.Proofs.YtaebngpoagjafabGreat
open Obj renaming cells → O
open Value renaming int → J
open IntKind renaming i64 → Z
open Go.RowKit
attribute [local go_sem ↓] Go.wp_at_zero Go.wp_at_succ
theorem JV (ex:Int->Nat->Nat->Bool->CR) (base B:Nat) (s:ByteArray) (d:Int) (k:Nat) (b:Bool) (ev rv:Value) (es:List (EX×Value)) (rs:List RL) (w:World) (hs:s.size<=2000) (hk:k<=s.size) (h:PM w base B s k b ev rv es rs) (R:CI) (hR:Hid ((zt ex s 119 d es.length k b)=R)) :
 Calls Tryz.prog 170 #[.pointer (some ⟨B,0,none⟩),J .u8 119,J Z d] w fun e w'=>e=.returned (.agg #[J Z R.im.at_,J Z R.im.num,J Z R.im.pv,J Z R.im.pl,J Z R.im.wv,J Z R.im.wa,J Z R.im.arm])/\∃ ev' new,new.map Prod.fst=R.es/\PM w' base B s R.k R.b ev' rv (es++new) rs/\Mv base B ev rv ev' rv w w'/\∀ p∈new,∀ g,p.2.ownBlock=some g->w.heap.size<=g:=by
 have H:Hid (PM (w.alloc (O #[J Z 0,J Z 0,J Z 0,J Z 0,J Z 0,J Z 0,J Z 0] 155)) base B s k b ev rv es rs):=h.alloc _
 have HM0:Hid (Mv base B ev rv ev rv w (w.alloc (O #[J Z 0,J Z 0,J Z 0,J Z 0,J Z 0,J Z 0,J Z 0] 155))):=Mv.alloc h.bs _
 have hou:=h.outNew
 have hbs:=h.bs
 have HFr:Hid (Fre w.heap.size es):=h.fre (Nat.le_refl _)
 clear h
 go_enter Tryz.func170,Tryz.ntmps170
 go_wp2_with fail
 refine (ya base B s k b ev rv es rs _ hs hk H.out).mono ?_
 rintro e w1 ⟨rfl,hp,hm⟩
 have rh:Hid (w1.heap[w.heap.size]?=some (O #[J Z 0,J Z 0,J Z 0,J Z 0,J Z 0,J Z 0,J Z 0] 155 (0,0))):=(hm.kept _ (by simp) hou).1.trans (heap_alloc_new w _)
 have hpk:zb s k b<=s.size:=zK hk
 have hkp:k<=zb s k b:=by unfold zb;split<;>first | exact Nat.le_refl _ | exact T.sk_ge s k
 unfold zt at hR
 generalize zb s k b=p at *
 have HP:Hid (PM (w1.alloc (O #[J Z p,J Z 0,J Z 0,J Z 0,J Z 0,J Z 0,J Z (-1)] 155)) base B s p b ev rv es rs):=hp.alloc _
 have HM:Hid (Mv base B ev rv ev rv w (w1.alloc (O #[J Z p,J Z 0,J Z 0,J Z 0,J Z 0,J Z 0,J Z (-1)] 155))):=(HM0.out.trans hm).trans (Mv.alloc hp.bs _)
 have hxou:=hp.outNew
 have HFx:Hid (Fre w1.heap.size es):=hp.fre (Nat.le_refl _)
 have hwl1:w.heap.size<w1.heap.size:=lt_of_block rh.out
 have RH:Hid ((w1.alloc (O #[J Z p,J Z 0,J Z 0,J Z 0,J Z 0,J Z 0,J Z (-1)] 155)).heap[w.heap.size]?=some (O #[J Z 0,J Z 0,J Z 0,J Z 0,J Z 0,J Z 0,J Z 0] 155 (0,0))):=(Below.heap_alloc _ _ _ hwl1).trans rh.out
 have XH:Hid ((w1.alloc (O #[J Z p,J Z 0,J Z 0,J Z 0,J Z 0,J Z 0,J Z (-1)] 155)).heap[w1.heap.size]?=some (O #[J Z p,J Z 0,J Z 0,J Z 0,J Z 0,J Z 0,J Z (-1)] 155 (0,0))):=heap_alloc_new w1 _
 have c1:=hp.c1
 clear hp hm rh
 have hbn:=fun w=>xN p (-1) w
 have hfn:=fun a b w=>Yv a b w
 have hne:w.heap.size≠B:=hou.1
 have hn5:w.heap.size≠w1.heap.size:=by omega
 have hn3:w1.heap.size≠B:=hxou.1
 go_wp2_with fail
 clear c1
 refine (yR base B s p b ev rv es rs _ hs hpk HP.out).mono ?_
 rintro e w2 ⟨rfl,hp,hm⟩
 have Pw2:Hid _:=hp
 have Mw2:Hid (Mv base B ev rv ev rv w w2):=(HM.out).trans hm
 have rh:Hid (w2.heap[w.heap.size]?=some (O #[J Z 0,J Z 0,J Z 0,J Z 0,J Z 0,J Z 0,J Z 0] 155 (0,0))):=(hm.kept _ (by first | (simp;omega) | (simp [World.size_setCell];exact SZR.out)) hou).1.trans (RH.out)
 have xh:Hid (w2.heap[w1.heap.size]?=some (O #[J Z p,J Z 0,J Z 0,J Z 0,J Z 0,J Z 0,J Z (-1)] 155 (0,0))):=(hm.kept _ (by first | (simp;done) | (simp [World.size_setCell];exact SZX.out)) hxou).1.trans (XH.out)
 have SZR:Hid (w.heap.size<w2.heap.size):=lt_of_block rh.out
 have SZX:Hid (w1.heap.size<w2.heap.size):=lt_of_block xh.out
 clear hp hm
 have x0:w2.cell? ⟨w1.heap.size,0,none⟩=some (J Z p):=by simp [World.cell?,xh.out]
 have x1:w2.cell? ⟨w1.heap.size,1,none⟩=some (J Z 0):=by simp [World.cell?,xh.out]
 have x2:w2.cell? ⟨w1.heap.size,2,none⟩=some (J Z 0):=by simp [World.cell?,xh.out]
 have x3:w2.cell? ⟨w1.heap.size,3,none⟩=some (J Z 0):=by simp [World.cell?,xh.out]
 have x4:w2.cell? ⟨w1.heap.size,4,none⟩=some (J Z 0):=by simp [World.cell?,xh.out]
 have x5:w2.cell? ⟨w1.heap.size,5,none⟩=some (J Z 0):=by simp [World.cell?,xh.out]
 have x6:w2.cell? ⟨w1.heap.size,6,none⟩=some (J Z (-1)):=by simp [World.cell?,xh.out]
 have xz:∀ j,w2.frozen? ⟨w1.heap.size,j,none⟩=false:=fun j=>by simp [World.frozen?,xh.out]
 go_wp2_with fail
 clear x0 x1 x2 x3 x4 x5 x6 xz
 refine (yD base B s 42 _ _ ev rv es rs _ hs (zZ hpk) (by decide) (Pw2.out.setI ⟨_,_,xh.out⟩ HFx.out)).mono ?_
 rintro e w3 ⟨rfl,hp,hm⟩
 have Pw3:Hid _:=hp
 have Mw3:Hid (Mv base B ev rv ev rv w w3):=(Mw2.out.setNew (by omega) (by omega) _).trans hm
 have rh:Hid (w3.heap[w.heap.size]?=some (O #[J Z 0,J Z 0,J Z 0,J Z 0,J Z 0,J Z 0,J Z 0] 155 (0,0))):=(hm.kept _ (by first | (simp;omega) | (simp [World.size_setCell];exact SZR.out)) hou).1.trans (by rw [za hn5];exact rh.out)
 have xh:Hid (w3.heap[w1.heap.size]?=some (O #[J Z p,J Z (zI s p b),J Z 0,J Z 0,J Z 0,J Z 0,J Z (-1)] 155 (0,0))):=(hm.kept _ (by first | (simp;done) | (simp [World.size_setCell];exact SZX.out)) hxou).1.trans (zX xh.out)
 have SZR:Hid (w.heap.size<w3.heap.size):=lt_of_block rh.out
 have SZX:Hid (w1.heap.size<w3.heap.size):=lt_of_block xh.out
 clear hp hm
 generalize hk2:zc s 42 (zm s p b) (zu s p b)=k2 at *
 generalize hb2:zj s 42 (zm s p b) (zu s p b)=b2 at *
 have hk2s:k2<=s.size:=by rw [<- hk2];exact zq (by decide) (zZ hpk)
 clear hk2 hb2
 go_wp2_with fail
 refine (yR base B s k2 b2 ev rv es rs _ hs hk2s Pw3.out).mono ?_
 rintro e w4 ⟨rfl,hp,hm⟩
 have Pw4:Hid _:=hp
 have Mw4:Hid (Mv base B ev rv ev rv w w4):=(Mw3.out).trans hm
 have rh:Hid (w4.heap[w.heap.size]?=some (O #[J Z 0,J Z 0,J Z 0,J Z 0,J Z 0,J Z 0,J Z 0] 155 (0,0))):=(hm.kept _ SZR.out hou).1.trans (rh.out)
 have xh:Hid (w4.heap[w1.heap.size]?=some (O #[J Z p,J Z (zI s p b),J Z 0,J Z 0,J Z 0,J Z 0,J Z (-1)] 155 (0,0))):=(hm.kept _ SZX.out hxou).1.trans (xh.out)
 have SZR:Hid (w.heap.size<w4.heap.size):=lt_of_block rh.out
 have SZX:Hid (w1.heap.size<w4.heap.size):=lt_of_block xh.out
 clear hp hm
 have x0:w4.cell? ⟨w1.heap.size,0,none⟩=some (J Z p):=by simp [World.cell?,xh.out]
 have x1:w4.cell? ⟨w1.heap.size,1,none⟩=some (J Z (zI s p b)):=by simp [World.cell?,xh.out]
 have x2:w4.cell? ⟨w1.heap.size,2,none⟩=some (J Z 0):=by simp [World.cell?,xh.out]
 have x3:w4.cell? ⟨w1.heap.size,3,none⟩=some (J Z 0):=by simp [World.cell?,xh.out]
 have x4:w4.cell? ⟨w1.heap.size,4,none⟩=some (J Z 0):=by simp [World.cell?,xh.out]
 have x5:w4.cell? ⟨w1.heap.size,5,none⟩=some (J Z 0):=by simp [World.cell?,xh.out]
 have x6:w4.cell? ⟨w1.heap.size,6,none⟩=some (J Z (-1)):=by simp [World.cell?,xh.out]
 have xz:∀ j,w4.frozen? ⟨w1.heap.size,j,none⟩=false:=fun j=>by simp [World.frozen?,xh.out]
 have r0:w4.cell? ⟨w.heap.size,0,none⟩=some (J Z 0):=by simp [World.cell?,rh.out]
 have r1:w4.cell? ⟨w.heap.size,1,none⟩=some (J Z 0):=by simp [World.cell?,rh.out]
 have r2:w4.cell? ⟨w.heap.size,2,none⟩=some (J Z 0):=by simp [World.cell?,rh.out]
 have r3:w4.cell? ⟨w.heap.size,3,none⟩=some (J Z 0):=by simp [World.cell?,rh.out]
 have r4:w4.cell? ⟨w.heap.size,4,none⟩=some (J Z 0):=by simp [World.cell?,rh.out]
 have r5:w4.cell? ⟨w.heap.size,5,none⟩=some (J Z 0):=by simp [World.cell?,rh.out]
 have r6:w4.cell? ⟨w.heap.size,6,none⟩=some (J Z 0):=by simp [World.cell?,rh.out]
 have rz:∀ j,w4.frozen? ⟨w.heap.size,j,none⟩=false:=fun j=>by simp [World.frozen?,rh.out]
 go_wp2_with fail
 exact bodyPost_ret (v:=.agg #[J Z p,J Z (zI s p b),J Z 0,J Z 0,J Z (zI s k2 b2),J Z (zb s k2 b2),J Z (-1)]) (by simp [results,Tryz.results170,go_sem,r0,r1,r2,r3,r4,r5,r6]) rfl ⟨by rw [<- hR.out];rfl,ev,[],by rw [<- hR.out];rfl,by rw [<- hR.out,List.append_nil];exact ((Pw4.out.setI ⟨_,_,xh.out⟩ HFx.out).setI (zH.set ⟨_,_,xh.out⟩ _ _ _) HFx.out).setI7 (zH.set (zH.set ⟨_,_,rh.out⟩ _ _ _) _ _ _) HFr.out,((Mw4.out.setNew (by omega) (by omega) _).setNew (by omega) (by omega) _).setNew7 (Nat.le_refl _) hbs _ _ _ _ _ _ _,by simp⟩
theorem QM (ex:Int->Nat->Nat->Bool->CR) (base B:Nat) (s:ByteArray) (d:Int) (k:Nat) (b:Bool) (ev rv:Value) (es:List (EX×Value)) (rs:List RL) (w:World) (n:Nat) (hX:YA ex s base B rs n) (h0:0<=d) (h1:d+1<=k) (hl:es.length<=k) (hn:b=true\/s.size-k<n) (hs:s.size<=2000) (hk:k<=s.size) (h:PM w base B s k b ev rv es rs) (R:CI) (hR:Hid ((zt ex s 103 d es.length k b)=R)) :
 Calls Tryz.prog 170 #[.pointer (some ⟨B,0,none⟩),J .u8 103,J Z d] w fun e w'=>e=.returned (.agg #[J Z R.im.at_,J Z R.im.num,J Z R.im.pv,J Z R.im.pl,J Z R.im.wv,J Z R.im.wa,J Z R.im.arm])/\∃ ev' new,new.map Prod.fst=R.es/\PM w' base B s R.k R.b ev' rv (es++new) rs/\Mv base B ev rv ev' rv w w'/\∀ p∈new,∀ g,p.2.ownBlock=some g->w.heap.size<=g:=by
 have H:Hid (PM (w.alloc (O #[J Z 0,J Z 0,J Z 0,J Z 0,J Z 0,J Z 0,J Z 0] 155)) base B s k b ev rv es rs):=h.alloc _
 have HM0:Hid (Mv base B ev rv ev rv w (w.alloc (O #[J Z 0,J Z 0,J Z 0,J Z 0,J Z 0,J Z 0,J Z 0] 155))):=Mv.alloc h.bs _
 have hou:=h.outNew
 have hbs:=h.bs
 have HFr:Hid (Fre w.heap.size es):=h.fre (Nat.le_refl _)
 clear h
 go_enter Tryz.func170,Tryz.ntmps170
 go_wp2_with fail
 refine (ya base B s k b ev rv es rs _ hs hk H.out).mono ?_
 rintro e w1 ⟨rfl,hp,hm⟩
 have rh:Hid (w1.heap[w.heap.size]?=some (O #[J Z 0,J Z 0,J Z 0,J Z 0,J Z 0,J Z 0,J Z 0] 155 (0,0))):=(hm.kept _ (by simp) hou).1.trans (heap_alloc_new w _)
 have hpk:zb s k b<=s.size:=zK hk
 have hkp:k<=zb s k b:=by unfold zb;split<;>first | exact Nat.le_refl _ | exact T.sk_ge s k
 unfold zt at hR
 generalize zb s k b=p at *
 have HP:Hid (PM (w1.alloc (O #[J Z p,J Z 0,J Z 0,J Z 0,J Z 0,J Z 0,J Z (-1)] 155)) base B s p b ev rv es rs):=hp.alloc _
 have HM:Hid (Mv base B ev rv ev rv w (w1.alloc (O #[J Z p,J Z 0,J Z 0,J Z 0,J Z 0,J Z 0,J Z (-1)] 155))):=(HM0.out.trans hm).trans (Mv.alloc hp.bs _)
 have hxou:=hp.outNew
 have HFx:Hid (Fre w1.heap.size es):=hp.fre (Nat.le_refl _)
 have hwl1:w.heap.size<w1.heap.size:=lt_of_block rh.out
 have RH:Hid ((w1.alloc (O #[J Z p,J Z 0,J Z 0,J Z 0,J Z 0,J Z 0,J Z (-1)] 155)).heap[w.heap.size]?=some (O #[J Z 0,J Z 0,J Z 0,J Z 0,J Z 0,J Z 0,J Z 0] 155 (0,0))):=(Below.heap_alloc _ _ _ hwl1).trans rh.out
 have XH:Hid ((w1.alloc (O #[J Z p,J Z 0,J Z 0,J Z 0,J Z 0,J Z 0,J Z (-1)] 155)).heap[w1.heap.size]?=some (O #[J Z p,J Z 0,J Z 0,J Z 0,J Z 0,J Z 0,J Z (-1)] 155 (0,0))):=heap_alloc_new w1 _
 have c1:=hp.c1
 clear hp hm rh
 have hbn:=fun w=>xN p (-1) w
 have hfn:=fun a b w=>Yv a b w
 have hne:w.heap.size≠B:=hou.1
 have hn5:w.heap.size≠w1.heap.size:=by omega
 have hn3:w1.heap.size≠B:=hxou.1
 go_wp2_with fail
 clear c1
 refine (yR base B s p b ev rv es rs _ hs hpk HP.out).mono ?_
 rintro e w2 ⟨rfl,hp,hm⟩
 have Pw2:Hid _:=hp
 have Mw2:Hid (Mv base B ev rv ev rv w w2):=(HM.out).trans hm
 have rh:Hid (w2.heap[w.heap.size]?=some (O #[J Z 0,J Z 0,J Z 0,J Z 0,J Z 0,J Z 0,J Z 0] 155 (0,0))):=(hm.kept _ (by first | (simp;omega) | (simp [World.size_setCell];exact SZR.out)) hou).1.trans (RH.out)
 have xh:Hid (w2.heap[w1.heap.size]?=some (O #[J Z p,J Z 0,J Z 0,J Z 0,J Z 0,J Z 0,J Z (-1)] 155 (0,0))):=(hm.kept _ (by first | (simp;done) | (simp [World.size_setCell];exact SZX.out)) hxou).1.trans (XH.out)
 have SZR:Hid (w.heap.size<w2.heap.size):=lt_of_block rh.out
 have SZX:Hid (w1.heap.size<w2.heap.size):=lt_of_block xh.out
 clear hp hm
 have x0:w2.cell? ⟨w1.heap.size,0,none⟩=some (J Z p):=by simp [World.cell?,xh.out]
 have x1:w2.cell? ⟨w1.heap.size,1,none⟩=some (J Z 0):=by simp [World.cell?,xh.out]
 have x2:w2.cell? ⟨w1.heap.size,2,none⟩=some (J Z 0):=by simp [World.cell?,xh.out]
 have x3:w2.cell? ⟨w1.heap.size,3,none⟩=some (J Z 0):=by simp [World.cell?,xh.out]
 have x4:w2.cell? ⟨w1.heap.size,4,none⟩=some (J Z 0):=by simp [World.cell?,xh.out]
 have x5:w2.cell? ⟨w1.heap.size,5,none⟩=some (J Z 0):=by simp [World.cell?,xh.out]
 have x6:w2.cell? ⟨w1.heap.size,6,none⟩=some (J Z (-1)):=by simp [World.cell?,xh.out]
 have xz:∀ j,w2.frozen? ⟨w1.heap.size,j,none⟩=false:=fun j=>by simp [World.frozen?,xh.out]
 go_wp2_with fail
 clear x0 x1 x2 x3 x4 x5 x6 xz
 refine (yD base B s 58 _ _ ev rv es rs _ hs (zZ hpk) (by decide) (Pw2.out.setI ⟨_,_,xh.out⟩ HFx.out)).mono ?_
 rintro e w3 ⟨rfl,hp,hm⟩
 have Pw3:Hid _:=hp
 have Mw3:Hid (Mv base B ev rv ev rv w w3):=(Mw2.out.setNew (by omega) (by omega) _).trans hm
 have rh:Hid (w3.heap[w.heap.size]?=some (O #[J Z 0,J Z 0,J Z 0,J Z 0,J Z 0,J Z 0,J Z 0] 155 (0,0))):=(hm.kept _ (by first | (simp;omega) | (simp [World.size_setCell];exact SZR.out)) hou).1.trans (by rw [za hn5];exact rh.out)
 have xh:Hid (w3.heap[w1.heap.size]?=some (O #[J Z p,J Z (zI s p b),J Z 0,J Z 0,J Z 0,J Z 0,J Z (-1)] 155 (0,0))):=(hm.kept _ (by first | (simp;done) | (simp [World.size_setCell];exact SZX.out)) hxou).1.trans (zX xh.out)
 have SZR:Hid (w.heap.size<w3.heap.size):=lt_of_block rh.out
 have SZX:Hid (w1.heap.size<w3.heap.size):=lt_of_block xh.out
 clear hp hm
 go_wp2_with fail
 have hk3:zc s 58 (zm s p b) (zu s p b)<=s.size:=zq (by decide) (zZ hpk)
 have hg3:k<=zc s 58 (zm s p b) (zu s p b):=Nat.le_trans hkp (Nat.le_trans (zV hpk) (zi _ _ _ _))
 have hn3':zj s 58 (zm s p b) (zu s p b)=true\/s.size-zc s 58 (zm s p b) (zu s p b)<n:=by
  rcases hn with hn | hn
  ·exact .inl (xW (XO hn))
  ·exact .inr (by omega)
 refine (hX (d+1) _ _ ev rv es _ hk3 (by omega) (by omega) (by omega) hn3' Pw3.out).mono ?_
 rintro e w4 ⟨rfl,ev',new,hnew,hp,hm,hfr⟩
 generalize ex (d+1) es.length (zc s 58 (zm s p b) (zu s p b)) (zj s 58 (zm s p b) (zu s p b))=r at *
 have Pw4:Hid _:=hp
 have Mw4:Hid _:=Mw3.out.trans hm
 have rh4:Hid (w4.heap[w.heap.size]?=some (O #[J Z 0,J Z 0,J Z 0,J Z 0,J Z 0,J Z 0,J Z 0] 155 (0,0))):=(hm.kept _ SZR.out hou).1.trans rh.out
 have xh4:Hid (w4.heap[w1.heap.size]?=some (O #[J Z p,J Z (zI s p b),J Z 0,J Z 0,J Z 0,J Z 0,J Z (-1)] 155 (0,0))):=(hm.kept _ SZX.out hxou).1.trans xh.out
 have HFr4:Hid (Fre w.heap.size (es++new)):=HFr.out.app (fun p hp e=>by have:=hfr p hp _ e;have:=SZR.out;omega)
 have HFx4:Hid (Fre w1.heap.size (es++new)):=HFx.out.app (fun p hp e=>by have:=hfr p hp _ e;have:=SZX.out;omega)
 have HNW:Hid _:=hnew
 have HFF:Hid (∀ p∈new,∀ g,p.2.ownBlock=some g->w.heap.size<=g):=fun p hp g hg=>by have:=hfr p hp g hg;have:=SZR.out;omega
 clear hp hm hfr hnew
 have x0:w4.cell? ⟨w1.heap.size,0,none⟩=some (J Z p):=by simp [World.cell?,xh4.out]
 have x1:w4.cell? ⟨w1.heap.size,1,none⟩=some (J Z (zI s p b)):=by simp [World.cell?,xh4.out]
 have x2:w4.cell? ⟨w1.heap.size,2,none⟩=some (J Z 0):=by simp [World.cell?,xh4.out]
 have x3:w4.cell? ⟨w1.heap.size,3,none⟩=some (J Z 0):=by simp [World.cell?,xh4.out]
 have x4:w4.cell? ⟨w1.heap.size,4,none⟩=some (J Z 0):=by simp [World.cell?,xh4.out]
 have x5:w4.cell? ⟨w1.heap.size,5,none⟩=some (J Z 0):=by simp [World.cell?,xh4.out]
 have x6:w4.cell? ⟨w1.heap.size,6,none⟩=some (J Z (-1)):=by simp [World.cell?,xh4.out]
 have xz:∀ j,w4.frozen? ⟨w1.heap.size,j,none⟩=false:=fun j=>by simp [World.frozen?,xh4.out]
 have r0:w4.cell? ⟨w.heap.size,0,none⟩=some (J Z 0):=by simp [World.cell?,rh4.out]
 have r1:w4.cell? ⟨w.heap.size,1,none⟩=some (J Z 0):=by simp [World.cell?,rh4.out]
 have r2:w4.cell? ⟨w.heap.size,2,none⟩=some (J Z 0):=by simp [World.cell?,rh4.out]
 have r3:w4.cell? ⟨w.heap.size,3,none⟩=some (J Z 0):=by simp [World.cell?,rh4.out]
 have r4:w4.cell? ⟨w.heap.size,4,none⟩=some (J Z 0):=by simp [World.cell?,rh4.out]
 have r5:w4.cell? ⟨w.heap.size,5,none⟩=some (J Z 0):=by simp [World.cell?,rh4.out]
 have r6:w4.cell? ⟨w.heap.size,6,none⟩=some (J Z 0):=by simp [World.cell?,rh4.out]
 have rz:∀ j,w4.frozen? ⟨w.heap.size,j,none⟩=false:=fun j=>by simp [World.frozen?,rh4.out]
 go_wp2_with fail
 exact bodyPost_ret (v:=.agg #[J Z p,J Z (zI s p b),J Z 0,J Z 0,J Z 0,J Z 0,J Z r.idx]) (by simp [results,Tryz.results170,go_sem,r0,r1,r2,r3,r4,r5,r6]) rfl ⟨by rw [<- hR.out];rfl,ev',new,by rw [<- hR.out];exact HNW.out,by rw [<- hR.out];exact (Pw4.out.setI ⟨_,_,xh4.out⟩ HFx4.out).setI7 (zH.set ⟨_,_,rh4.out⟩ _ _ _) HFr4.out,(Mw4.out.setNew (by omega) (by omega) _).setNew7 (Nat.le_refl _) hbs _ _ _ _ _ _ _,HFF.out⟩
theorem JW (ex:Int->Nat->Nat->Bool->CR) (base B:Nat) (s:ByteArray) (d:Int) (k:Nat) (b:Bool) (ev rv:Value) (es:List (EX×Value)) (rs:List RL) (w:World) (n:Nat) (hX:YA ex s base B rs n) (h0:0<=d) (h1:d+1<=k) (hl:es.length<=k) (hn:b=true\/s.size-k<n) (hs:s.size<=2000) (hk:k<=s.size) (h:PM w base B s k b ev rv es rs) (R:CI) (hR:Hid ((zt ex s 109 d es.length k b)=R)) :
 Calls Tryz.prog 170 #[.pointer (some ⟨B,0,none⟩),J .u8 109,J Z d] w fun e w'=>e=.returned (.agg #[J Z R.im.at_,J Z R.im.num,J Z R.im.pv,J Z R.im.pl,J Z R.im.wv,J Z R.im.wa,J Z R.im.arm])/\∃ ev' new,new.map Prod.fst=R.es/\PM w' base B s R.k R.b ev' rv (es++new) rs/\Mv base B ev rv ev' rv w w'/\∀ p∈new,∀ g,p.2.ownBlock=some g->w.heap.size<=g:=by
 have H:Hid (PM (w.alloc (O #[J Z 0,J Z 0,J Z 0,J Z 0,J Z 0,J Z 0,J Z 0] 155)) base B s k b ev rv es rs):=h.alloc _
 have HM0:Hid (Mv base B ev rv ev rv w (w.alloc (O #[J Z 0,J Z 0,J Z 0,J Z 0,J Z 0,J Z 0,J Z 0] 155))):=Mv.alloc h.bs _
 have hou:=h.outNew
 have hbs:=h.bs
 have HFr:Hid (Fre w.heap.size es):=h.fre (Nat.le_refl _)
 clear h
 go_enter Tryz.func170,Tryz.ntmps170
 go_wp2_with fail
 refine (ya base B s k b ev rv es rs _ hs hk H.out).mono ?_
 rintro e w1 ⟨rfl,hp,hm⟩
 have rh:Hid (w1.heap[w.heap.size]?=some (O #[J Z 0,J Z 0,J Z 0,J Z 0,J Z 0,J Z 0,J Z 0] 155 (0,0))):=(hm.kept _ (by simp) hou).1.trans (heap_alloc_new w _)
 have hpk:zb s k b<=s.size:=zK hk
 have hkp:k<=zb s k b:=by unfold zb;split<;>first | exact Nat.le_refl _ | exact T.sk_ge s k
 unfold zt at hR
 generalize zb s k b=p at *
 have HP:Hid (PM (w1.alloc (O #[J Z p,J Z 0,J Z 0,J Z 0,J Z 0,J Z 0,J Z (-1)] 155)) base B s p b ev rv es rs):=hp.alloc _
 have HM:Hid (Mv base B ev rv ev rv w (w1.alloc (O #[J Z p,J Z 0,J Z 0,J Z 0,J Z 0,J Z 0,J Z (-1)] 155))):=(HM0.out.trans hm).trans (Mv.alloc hp.bs _)
 have hxou:=hp.outNew
 have HFx:Hid (Fre w1.heap.size es):=hp.fre (Nat.le_refl _)
 have hwl1:w.heap.size<w1.heap.size:=lt_of_block rh.out
 have RH:Hid ((w1.alloc (O #[J Z p,J Z 0,J Z 0,J Z 0,J Z 0,J Z 0,J Z (-1)] 155)).heap[w.heap.size]?=some (O #[J Z 0,J Z 0,J Z 0,J Z 0,J Z 0,J Z 0,J Z 0] 155 (0,0))):=(Below.heap_alloc _ _ _ hwl1).trans rh.out
 have XH:Hid ((w1.alloc (O #[J Z p,J Z 0,J Z 0,J Z 0,J Z 0,J Z 0,J Z (-1)] 155)).heap[w1.heap.size]?=some (O #[J Z p,J Z 0,J Z 0,J Z 0,J Z 0,J Z 0,J Z (-1)] 155 (0,0))):=heap_alloc_new w1 _
 have c1:=hp.c1
 clear hp hm rh
 have hbn:=fun w=>xN p (-1) w
 have hfn:=fun a b w=>Yv a b w
 have hne:w.heap.size≠B:=hou.1
 have hn5:w.heap.size≠w1.heap.size:=by omega
 have hn3:w1.heap.size≠B:=hxou.1
 go_wp2_with fail
 clear c1
 refine (zbM base B s p b ev rv es rs _ hs hpk HP.out).mono ?_
 rintro e w2 ⟨rfl,hp,hm⟩
 have Pw2:Hid _:=hp
 have Mw2:Hid (Mv base B ev rv ev rv w w2):=(HM.out).trans hm
 have rh:Hid (w2.heap[w.heap.size]?=some (O #[J Z 0,J Z 0,J Z 0,J Z 0,J Z 0,J Z 0,J Z 0] 155 (0,0))):=(hm.kept _ (by first | (simp;omega) | (simp [World.size_setCell];exact SZR.out)) hou).1.trans (RH.out)
 have xh:Hid (w2.heap[w1.heap.size]?=some (O #[J Z p,J Z 0,J Z 0,J Z 0,J Z 0,J Z 0,J Z (-1)] 155 (0,0))):=(hm.kept _ (by first | (simp;done) | (simp [World.size_setCell];exact SZX.out)) hxou).1.trans (XH.out)
 have SZR:Hid (w.heap.size<w2.heap.size):=lt_of_block rh.out
 have SZX:Hid (w1.heap.size<w2.heap.size):=lt_of_block xh.out
 clear hp hm
 have x0:w2.cell? ⟨w1.heap.size,0,none⟩=some (J Z p):=by simp [World.cell?,xh.out]
 have x1:w2.cell? ⟨w1.heap.size,1,none⟩=some (J Z 0):=by simp [World.cell?,xh.out]
 have x2:w2.cell? ⟨w1.heap.size,2,none⟩=some (J Z 0):=by simp [World.cell?,xh.out]
 have x3:w2.cell? ⟨w1.heap.size,3,none⟩=some (J Z 0):=by simp [World.cell?,xh.out]
 have x4:w2.cell? ⟨w1.heap.size,4,none⟩=some (J Z 0):=by simp [World.cell?,xh.out]
 have x5:w2.cell? ⟨w1.heap.size,5,none⟩=some (J Z 0):=by simp [World.cell?,xh.out]
 have x6:w2.cell? ⟨w1.heap.size,6,none⟩=some (J Z (-1)):=by simp [World.cell?,xh.out]
 have xz:∀ j,w2.frozen? ⟨w1.heap.size,j,none⟩=false:=fun j=>by simp [World.frozen?,xh.out]
 go_wp2_with fail
 clear x0 x1 x2 x3 x4 x5 x6 xz
 refine (yD base B s 58 _ _ ev rv es rs _ hs (Y7 hpk) (by decide) ((Pw2.out.setI ⟨_,_,xh.out⟩ HFx.out).setI (zH.set ⟨_,_,xh.out⟩ _ _ _) HFx.out)).mono ?_
 rintro e w3 ⟨rfl,hp,hm⟩
 have Pw3:Hid _:=hp
 have Mw3:Hid (Mv base B ev rv ev rv w w3):=((Mw2.out.setNew (by omega) (by omega) _).setNew (by omega) (by omega) _).trans hm
 have rh:Hid (w3.heap[w.heap.size]?=some (O #[J Z 0,J Z 0,J Z 0,J Z 0,J Z 0,J Z 0,J Z 0] 155 (0,0))):=(hm.kept _ (by first | (simp;omega) | (simp [World.size_setCell];exact SZR.out)) hou).1.trans (by rw [za hn5,za hn5];exact rh.out)
 have xh:Hid (w3.heap[w1.heap.size]?=some (O #[J Z p,J Z 0,J Z (btV s p b),J Z (btL s p b),J Z 0,J Z 0,J Z (-1)] 155 (0,0))):=(hm.kept _ (by first | (simp;done) | (simp [World.size_setCell];exact SZX.out)) hxou).1.trans (zX (zX xh.out))
 have SZR:Hid (w.heap.size<w3.heap.size):=lt_of_block rh.out
 have SZX:Hid (w1.heap.size<w3.heap.size):=lt_of_block xh.out
 clear hp hm
 go_wp2_with fail
 have hk3:zc s 58 (btK s p b) (btX s p b)<=s.size:=zq (by decide) (Y7 hpk)
 have hg3:k<=zc s 58 (btK s p b) (btX s p b):=Nat.le_trans hkp (Nat.le_trans (Y8 hpk) (zi _ _ _ _))
 have hn3':zj s 58 (btK s p b) (btX s p b)=true\/s.size-zc s 58 (btK s p b) (btX s p b)<n:=by
  rcases hn with hn | hn
  ·exact .inl (xW (Qf hn))
  ·exact .inr (by omega)
 refine (hX (d+1) _ _ ev rv es _ hk3 (by omega) (by omega) (by omega) hn3' Pw3.out).mono ?_
 rintro e w4 ⟨rfl,ev',new,hnew,hp,hm,hfr⟩
 generalize ex (d+1) es.length (zc s 58 (btK s p b) (btX s p b)) (zj s 58 (btK s p b) (btX s p b))=r at *
 have Pw4:Hid _:=hp
 have Mw4:Hid _:=Mw3.out.trans hm
 have rh4:Hid (w4.heap[w.heap.size]?=some (O #[J Z 0,J Z 0,J Z 0,J Z 0,J Z 0,J Z 0,J Z 0] 155 (0,0))):=(hm.kept _ SZR.out hou).1.trans rh.out
 have xh4:Hid (w4.heap[w1.heap.size]?=some (O #[J Z p,J Z 0,J Z (btV s p b),J Z (btL s p b),J Z 0,J Z 0,J Z (-1)] 155 (0,0))):=(hm.kept _ SZX.out hxou).1.trans xh.out
 have HFr4:Hid (Fre w.heap.size (es++new)):=HFr.out.app (fun p hp e=>by have:=hfr p hp _ e;have:=SZR.out;omega)
 have HFx4:Hid (Fre w1.heap.size (es++new)):=HFx.out.app (fun p hp e=>by have:=hfr p hp _ e;have:=SZX.out;omega)
 have HNW:Hid _:=hnew
 have HFF:Hid (∀ p∈new,∀ g,p.2.ownBlock=some g->w.heap.size<=g):=fun p hp g hg=>by have:=hfr p hp g hg;have:=SZR.out;omega
 clear hp hm hfr hnew
 have x0:w4.cell? ⟨w1.heap.size,0,none⟩=some (J Z p):=by simp [World.cell?,xh4.out]
 have x1:w4.cell? ⟨w1.heap.size,1,none⟩=some (J Z 0):=by simp [World.cell?,xh4.out]
 have x2:w4.cell? ⟨w1.heap.size,2,none⟩=some (J Z (btV s p b)):=by simp [World.cell?,xh4.out]
 have x3:w4.cell? ⟨w1.heap.size,3,none⟩=some (J Z (btL s p b)):=by simp [World.cell?,xh4.out]
 have x4:w4.cell? ⟨w1.heap.size,4,none⟩=some (J Z 0):=by simp [World.cell?,xh4.out]
 have x5:w4.cell? ⟨w1.heap.size,5,none⟩=some (J Z 0):=by simp [World.cell?,xh4.out]
 have x6:w4.cell? ⟨w1.heap.size,6,none⟩=some (J Z (-1)):=by simp [World.cell?,xh4.out]
 have xz:∀ j,w4.frozen? ⟨w1.heap.size,j,none⟩=false:=fun j=>by simp [World.frozen?,xh4.out]
 have r0:w4.cell? ⟨w.heap.size,0,none⟩=some (J Z 0):=by simp [World.cell?,rh4.out]
 have r1:w4.cell? ⟨w.heap.size,1,none⟩=some (J Z 0):=by simp [World.cell?,rh4.out]
 have r2:w4.cell? ⟨w.heap.size,2,none⟩=some (J Z 0):=by simp [World.cell?,rh4.out]
 have r3:w4.cell? ⟨w.heap.size,3,none⟩=some (J Z 0):=by simp [World.cell?,rh4.out]
 have r4:w4.cell? ⟨w.heap.size,4,none⟩=some (J Z 0):=by simp [World.cell?,rh4.out]
 have r5:w4.cell? ⟨w.heap.size,5,none⟩=some (J Z 0):=by simp [World.cell?,rh4.out]
 have r6:w4.cell? ⟨w.heap.size,6,none⟩=some (J Z 0):=by simp [World.cell?,rh4.out]
 have rz:∀ j,w4.frozen? ⟨w.heap.size,j,none⟩=false:=fun j=>by simp [World.frozen?,rh4.out]
 go_wp2_with fail
 exact bodyPost_ret (v:=.agg #[J Z p,J Z 0,J Z (btV s p b),J Z (btL s p b),J Z 0,J Z 0,J Z r.idx]) (by simp [results,Tryz.results170,go_sem,r0,r1,r2,r3,r4,r5,r6]) rfl ⟨by rw [<- hR.out];rfl,ev',new,by rw [<- hR.out];exact HNW.out,by rw [<- hR.out];exact (Pw4.out.setI ⟨_,_,xh4.out⟩ HFx4.out).setI7 (zH.set ⟨_,_,rh4.out⟩ _ _ _) HFr4.out,(Mw4.out.setNew (by omega) (by omega) _).setNew7 (Nat.le_refl _) hbs _ _ _ _ _ _ _,HFF.out⟩
end Go.Proofs.YtaebngpoagjafabGreat
