import Derived.Test.YtaebngpoagjafaaJ05
set_option maxRecDepth 100000
set_option maxHeartbeats 1600000
namespace Go.Proofs.Ytaebngpoagjafaa
open Obj renaming cells → O
open Value renaming int → J
open IntKind renaming i64 → Z
open Go.RowKit
attribute [local go_sem ↓] Go.wp_at_zero Go.wp_at_succ
theorem qX (ex:Int->Nat->Nat->Bool->CR) (base B:Nat) (s:ByteArray) (d:Int) (k:Nat) (b:Bool) (ev rv:Value) (es:List (EX×Value)) (rs:List RL) (w:World) (hs:s.size<=2000) (hk:k<=s.size) (h:PM w base B s k b ev rv es rs) (R:CI) (hR:Hid ((zq ex s 119 d es.length k b)=R)) :
 Calls Try.prog 83 #[.pointer (some ⟨B,0,none⟩),J .u8 119,J Z d] w fun e w'=>e=.returned (.agg #[J Z R.im.at_,J Z R.im.num,J Z R.im.pv,J Z R.im.pl,J Z R.im.wv,J Z R.im.wa,J Z R.im.arm])/\∃ ev' new,new.map Prod.fst=R.es/\PM w' base B s R.k R.b ev' rv (es++new) rs/\Mv base B ev rv ev' rv w w'/\∀ p∈new,∀ g,p.2.ownBlock=some g->w.heap.size<=g:=by
 have H:Hid (PM (w.alloc (O #[J Z 0,J Z 0,J Z 0,J Z 0,J Z 0,J Z 0,J Z 0] 104)) base B s k b ev rv es rs):=h.alloc _
 have HM0:Hid (Mv base B ev rv ev rv w (w.alloc (O #[J Z 0,J Z 0,J Z 0,J Z 0,J Z 0,J Z 0,J Z 0] 104))):=Mv.alloc h.bs _
 have hou:=h.outNew
 have hbs:=h.bs
 have HFr:Hid (Fre w.heap.size es):=h.fre (Nat.le_refl _)
 clear h
 go_enter Try.func83,Try.ntmps83
 go_wp2_with fail
 refine (zO base B s k b ev rv es rs _ hs hk H.out).mono ?_
 rintro e w1 ⟨rfl,hp,hm⟩
 have rh:Hid (w1.heap[w.heap.size]?=some (O #[J Z 0,J Z 0,J Z 0,J Z 0,J Z 0,J Z 0,J Z 0] 104 (0,0))):=(hm.kept _ (by simp) hou).1.trans (heap_alloc_new w _)
 have hpk:za s k b<=s.size:=zB hk
 have hkp:k<=za s k b:=by unfold za;split<;>first | exact Nat.le_refl _ | exact T.sk_ge s k
 unfold zq at hR
 generalize za s k b=p at *
 have HP:Hid (PM (w1.alloc (O #[J Z p,J Z 0,J Z 0,J Z 0,J Z 0,J Z 0,J Z (-1)] 104)) base B s p b ev rv es rs):=hp.alloc _
 have HM:Hid (Mv base B ev rv ev rv w (w1.alloc (O #[J Z p,J Z 0,J Z 0,J Z 0,J Z 0,J Z 0,J Z (-1)] 104))):=(HM0.out.trans hm).trans (Mv.alloc hp.bs _)
 have hxou:=hp.outNew
 have HFx:Hid (Fre w1.heap.size es):=hp.fre (Nat.le_refl _)
 have hwl1:w.heap.size<w1.heap.size:=lt_of_block rh.out
 have RH:Hid ((w1.alloc (O #[J Z p,J Z 0,J Z 0,J Z 0,J Z 0,J Z 0,J Z (-1)] 104)).heap[w.heap.size]?=some (O #[J Z 0,J Z 0,J Z 0,J Z 0,J Z 0,J Z 0,J Z 0] 104 (0,0))):=(Below.heap_alloc _ _ _ hwl1).trans rh.out
 have XH:Hid ((w1.alloc (O #[J Z p,J Z 0,J Z 0,J Z 0,J Z 0,J Z 0,J Z (-1)] 104)).heap[w1.heap.size]?=some (O #[J Z p,J Z 0,J Z 0,J Z 0,J Z 0,J Z 0,J Z (-1)] 104 (0,0))):=heap_alloc_new w1 _
 have c1:=hp.c1
 clear hp hm rh
 have hbn:=fun w=>Yh p (-1) w
 have hfn:=fun a b w=>ZC a b w
 have hne:w.heap.size≠B:=hou.1
 have hn5:w.heap.size≠w1.heap.size:=by omega
 have hn3:w1.heap.size≠B:=hxou.1
 go_wp2_with fail
 clear c1
 refine (yv base B s p b ev rv es rs _ hs hpk HP.out).mono ?_
 rintro e w2 ⟨rfl,hp,hm⟩
 have Pw2:Hid _:=hp
 have Mw2:Hid (Mv base B ev rv ev rv w w2):=(HM.out).trans hm
 have rh:Hid (w2.heap[w.heap.size]?=some (O #[J Z 0,J Z 0,J Z 0,J Z 0,J Z 0,J Z 0,J Z 0] 104 (0,0))):=(hm.kept _ (by first | (simp;omega) | (simp [World.size_setCell];exact SZR.out)) hou).1.trans (RH.out)
 have xh:Hid (w2.heap[w1.heap.size]?=some (O #[J Z p,J Z 0,J Z 0,J Z 0,J Z 0,J Z 0,J Z (-1)] 104 (0,0))):=(hm.kept _ (by first | (simp;done) | (simp [World.size_setCell];exact SZX.out)) hxou).1.trans (XH.out)
 have SZR:Hid (w.heap.size<w2.heap.size):=lt_of_block rh.out
 have SZX:Hid (w1.heap.size<w2.heap.size):=lt_of_block xh.out
 clear hp hm
 have x0:w2.cell? ⟨w1.heap.size,0,none⟩=some (J Z p):=by simp [World.cell?,xh.out]
 have x1:w2.cell? ⟨w1.heap.size,1,none⟩=some (J Z 0):=by simp [World.cell?,xh.out]
 have x2:w2.cell? ⟨w1.heap.size,2,none⟩=some (J Z 0):=by simp [World.cell?,xh.out]
 have x3:w2.cell? ⟨w1.heap.size,3,none⟩=some (J Z 0):=by simp [World.cell?,xh.out]
 have x4:w2.cell? ⟨w1.heap.size,4,none⟩=some (J Z 0):=by simp [World.cell?,xh.out]
 have x5:w2.cell? ⟨w1.heap.size,5,none⟩=some (J Z 0):=by simp [World.cell?,xh.out]
 have x6:w2.cell? ⟨w1.heap.size,6,none⟩=some (J Z (-1)):=by simp [World.cell?,xh.out]
 have xz:∀ j,w2.frozen? ⟨w1.heap.size,j,none⟩=false:=fun j=>by simp [World.frozen?,xh.out]
 go_wp2_with fail
 clear x0 x1 x2 x3 x4 x5 x6 xz
 refine (yf base B s 42 _ _ ev rv es rs _ hs (zS hpk) (by decide) (Pw2.out.setI ⟨_,_,xh.out⟩ HFx.out)).mono ?_
 rintro e w3 ⟨rfl,hp,hm⟩
 have Pw3:Hid _:=hp
 have Mw3:Hid (Mv base B ev rv ev rv w w3):=(Mw2.out.setNew (by omega) (by omega) _).trans hm
 have rh:Hid (w3.heap[w.heap.size]?=some (O #[J Z 0,J Z 0,J Z 0,J Z 0,J Z 0,J Z 0,J Z 0] 104 (0,0))):=(hm.kept _ (by first | (simp;omega) | (simp [World.size_setCell];exact SZR.out)) hou).1.trans (by rw [zc hn5];exact rh.out)
 have xh:Hid (w3.heap[w1.heap.size]?=some (O #[J Z p,J Z (zD s p b),J Z 0,J Z 0,J Z 0,J Z 0,J Z (-1)] 104 (0,0))):=(hm.kept _ (by first | (simp;done) | (simp [World.size_setCell];exact SZX.out)) hxou).1.trans (zK xh.out)
 have SZR:Hid (w.heap.size<w3.heap.size):=lt_of_block rh.out
 have SZX:Hid (w1.heap.size<w3.heap.size):=lt_of_block xh.out
 clear hp hm
 generalize hk2:zb s 42 (zh s p b) (zo s p b)=k2 at *
 generalize hb2:zi s 42 (zh s p b) (zo s p b)=b2 at *
 have hk2s:k2<=s.size:=by rw [<- hk2];exact zm (by decide) (zS hpk)
 clear hk2 hb2
 go_wp2_with fail
 refine (yv base B s k2 b2 ev rv es rs _ hs hk2s Pw3.out).mono ?_
 rintro e w4 ⟨rfl,hp,hm⟩
 have Pw4:Hid _:=hp
 have Mw4:Hid (Mv base B ev rv ev rv w w4):=(Mw3.out).trans hm
 have rh:Hid (w4.heap[w.heap.size]?=some (O #[J Z 0,J Z 0,J Z 0,J Z 0,J Z 0,J Z 0,J Z 0] 104 (0,0))):=(hm.kept _ SZR.out hou).1.trans (rh.out)
 have xh:Hid (w4.heap[w1.heap.size]?=some (O #[J Z p,J Z (zD s p b),J Z 0,J Z 0,J Z 0,J Z 0,J Z (-1)] 104 (0,0))):=(hm.kept _ SZX.out hxou).1.trans (xh.out)
 have SZR:Hid (w.heap.size<w4.heap.size):=lt_of_block rh.out
 have SZX:Hid (w1.heap.size<w4.heap.size):=lt_of_block xh.out
 clear hp hm
 have x0:w4.cell? ⟨w1.heap.size,0,none⟩=some (J Z p):=by simp [World.cell?,xh.out]
 have x1:w4.cell? ⟨w1.heap.size,1,none⟩=some (J Z (zD s p b)):=by simp [World.cell?,xh.out]
 have x2:w4.cell? ⟨w1.heap.size,2,none⟩=some (J Z 0):=by simp [World.cell?,xh.out]
 have x3:w4.cell? ⟨w1.heap.size,3,none⟩=some (J Z 0):=by simp [World.cell?,xh.out]
 have x4:w4.cell? ⟨w1.heap.size,4,none⟩=some (J Z 0):=by simp [World.cell?,xh.out]
 have x5:w4.cell? ⟨w1.heap.size,5,none⟩=some (J Z 0):=by simp [World.cell?,xh.out]
 have x6:w4.cell? ⟨w1.heap.size,6,none⟩=some (J Z (-1)):=by simp [World.cell?,xh.out]
 have xz:∀ j,w4.frozen? ⟨w1.heap.size,j,none⟩=false:=fun j=>by simp [World.frozen?,xh.out]
 have r0:w4.cell? ⟨w.heap.size,0,none⟩=some (J Z 0):=by simp [World.cell?,rh.out]
 have r1:w4.cell? ⟨w.heap.size,1,none⟩=some (J Z 0):=by simp [World.cell?,rh.out]
 have r2:w4.cell? ⟨w.heap.size,2,none⟩=some (J Z 0):=by simp [World.cell?,rh.out]
 have r3:w4.cell? ⟨w.heap.size,3,none⟩=some (J Z 0):=by simp [World.cell?,rh.out]
 have r4:w4.cell? ⟨w.heap.size,4,none⟩=some (J Z 0):=by simp [World.cell?,rh.out]
 have r5:w4.cell? ⟨w.heap.size,5,none⟩=some (J Z 0):=by simp [World.cell?,rh.out]
 have r6:w4.cell? ⟨w.heap.size,6,none⟩=some (J Z 0):=by simp [World.cell?,rh.out]
 have rz:∀ j,w4.frozen? ⟨w.heap.size,j,none⟩=false:=fun j=>by simp [World.frozen?,rh.out]
 go_wp2_with fail
 exact bodyPost_ret (v:=.agg #[J Z p,J Z (zD s p b),J Z 0,J Z 0,J Z (zD s k2 b2),J Z (za s k2 b2),J Z (-1)]) (by simp [results,Try.results83,go_sem,r0,r1,r2,r3,r4,r5,r6]) rfl ⟨by rw [<- hR.out];rfl,ev,[],by rw [<- hR.out];rfl,by rw [<- hR.out,List.append_nil];exact ((Pw4.out.setI ⟨_,_,xh.out⟩ HFx.out).setI (zy.set ⟨_,_,xh.out⟩ _ _ _) HFx.out).setI7 (zy.set (zy.set ⟨_,_,rh.out⟩ _ _ _) _ _ _) HFr.out,((Mw4.out.setNew (by omega) (by omega) _).setNew (by omega) (by omega) _).setNew7 (Nat.le_refl _) hbs _ _ _ _ _ _ _,by simp⟩
theorem XE (ex:Int->Nat->Nat->Bool->CR) (base B:Nat) (s:ByteArray) (d:Int) (k:Nat) (b:Bool) (ev rv:Value) (es:List (EX×Value)) (rs:List RL) (w:World) (n:Nat) (hX:ZH ex s base B rs n) (h0:0<=d) (h1:d+1<=k) (hl:es.length<=k) (hn:b=true\/s.size-k<n) (hs:s.size<=2000) (hk:k<=s.size) (h:PM w base B s k b ev rv es rs) (R:CI) (hR:Hid ((zq ex s 103 d es.length k b)=R)) :
 Calls Try.prog 83 #[.pointer (some ⟨B,0,none⟩),J .u8 103,J Z d] w fun e w'=>e=.returned (.agg #[J Z R.im.at_,J Z R.im.num,J Z R.im.pv,J Z R.im.pl,J Z R.im.wv,J Z R.im.wa,J Z R.im.arm])/\∃ ev' new,new.map Prod.fst=R.es/\PM w' base B s R.k R.b ev' rv (es++new) rs/\Mv base B ev rv ev' rv w w'/\∀ p∈new,∀ g,p.2.ownBlock=some g->w.heap.size<=g:=by
 have H:Hid (PM (w.alloc (O #[J Z 0,J Z 0,J Z 0,J Z 0,J Z 0,J Z 0,J Z 0] 104)) base B s k b ev rv es rs):=h.alloc _
 have HM0:Hid (Mv base B ev rv ev rv w (w.alloc (O #[J Z 0,J Z 0,J Z 0,J Z 0,J Z 0,J Z 0,J Z 0] 104))):=Mv.alloc h.bs _
 have hou:=h.outNew
 have hbs:=h.bs
 have HFr:Hid (Fre w.heap.size es):=h.fre (Nat.le_refl _)
 clear h
 go_enter Try.func83,Try.ntmps83
 go_wp2_with fail
 refine (zO base B s k b ev rv es rs _ hs hk H.out).mono ?_
 rintro e w1 ⟨rfl,hp,hm⟩
 have rh:Hid (w1.heap[w.heap.size]?=some (O #[J Z 0,J Z 0,J Z 0,J Z 0,J Z 0,J Z 0,J Z 0] 104 (0,0))):=(hm.kept _ (by simp) hou).1.trans (heap_alloc_new w _)
 have hpk:za s k b<=s.size:=zB hk
 have hkp:k<=za s k b:=by unfold za;split<;>first | exact Nat.le_refl _ | exact T.sk_ge s k
 unfold zq at hR
 generalize za s k b=p at *
 have HP:Hid (PM (w1.alloc (O #[J Z p,J Z 0,J Z 0,J Z 0,J Z 0,J Z 0,J Z (-1)] 104)) base B s p b ev rv es rs):=hp.alloc _
 have HM:Hid (Mv base B ev rv ev rv w (w1.alloc (O #[J Z p,J Z 0,J Z 0,J Z 0,J Z 0,J Z 0,J Z (-1)] 104))):=(HM0.out.trans hm).trans (Mv.alloc hp.bs _)
 have hxou:=hp.outNew
 have HFx:Hid (Fre w1.heap.size es):=hp.fre (Nat.le_refl _)
 have hwl1:w.heap.size<w1.heap.size:=lt_of_block rh.out
 have RH:Hid ((w1.alloc (O #[J Z p,J Z 0,J Z 0,J Z 0,J Z 0,J Z 0,J Z (-1)] 104)).heap[w.heap.size]?=some (O #[J Z 0,J Z 0,J Z 0,J Z 0,J Z 0,J Z 0,J Z 0] 104 (0,0))):=(Below.heap_alloc _ _ _ hwl1).trans rh.out
 have XH:Hid ((w1.alloc (O #[J Z p,J Z 0,J Z 0,J Z 0,J Z 0,J Z 0,J Z (-1)] 104)).heap[w1.heap.size]?=some (O #[J Z p,J Z 0,J Z 0,J Z 0,J Z 0,J Z 0,J Z (-1)] 104 (0,0))):=heap_alloc_new w1 _
 have c1:=hp.c1
 clear hp hm rh
 have hbn:=fun w=>Yh p (-1) w
 have hfn:=fun a b w=>ZC a b w
 have hne:w.heap.size≠B:=hou.1
 have hn5:w.heap.size≠w1.heap.size:=by omega
 have hn3:w1.heap.size≠B:=hxou.1
 go_wp2_with fail
 clear c1
 refine (yv base B s p b ev rv es rs _ hs hpk HP.out).mono ?_
 rintro e w2 ⟨rfl,hp,hm⟩
 have Pw2:Hid _:=hp
 have Mw2:Hid (Mv base B ev rv ev rv w w2):=(HM.out).trans hm
 have rh:Hid (w2.heap[w.heap.size]?=some (O #[J Z 0,J Z 0,J Z 0,J Z 0,J Z 0,J Z 0,J Z 0] 104 (0,0))):=(hm.kept _ (by first | (simp;omega) | (simp [World.size_setCell];exact SZR.out)) hou).1.trans (RH.out)
 have xh:Hid (w2.heap[w1.heap.size]?=some (O #[J Z p,J Z 0,J Z 0,J Z 0,J Z 0,J Z 0,J Z (-1)] 104 (0,0))):=(hm.kept _ (by first | (simp;done) | (simp [World.size_setCell];exact SZX.out)) hxou).1.trans (XH.out)
 have SZR:Hid (w.heap.size<w2.heap.size):=lt_of_block rh.out
 have SZX:Hid (w1.heap.size<w2.heap.size):=lt_of_block xh.out
 clear hp hm
 have x0:w2.cell? ⟨w1.heap.size,0,none⟩=some (J Z p):=by simp [World.cell?,xh.out]
 have x1:w2.cell? ⟨w1.heap.size,1,none⟩=some (J Z 0):=by simp [World.cell?,xh.out]
 have x2:w2.cell? ⟨w1.heap.size,2,none⟩=some (J Z 0):=by simp [World.cell?,xh.out]
 have x3:w2.cell? ⟨w1.heap.size,3,none⟩=some (J Z 0):=by simp [World.cell?,xh.out]
 have x4:w2.cell? ⟨w1.heap.size,4,none⟩=some (J Z 0):=by simp [World.cell?,xh.out]
 have x5:w2.cell? ⟨w1.heap.size,5,none⟩=some (J Z 0):=by simp [World.cell?,xh.out]
 have x6:w2.cell? ⟨w1.heap.size,6,none⟩=some (J Z (-1)):=by simp [World.cell?,xh.out]
 have xz:∀ j,w2.frozen? ⟨w1.heap.size,j,none⟩=false:=fun j=>by simp [World.frozen?,xh.out]
 go_wp2_with fail
 clear x0 x1 x2 x3 x4 x5 x6 xz
 refine (yf base B s 58 _ _ ev rv es rs _ hs (zS hpk) (by decide) (Pw2.out.setI ⟨_,_,xh.out⟩ HFx.out)).mono ?_
 rintro e w3 ⟨rfl,hp,hm⟩
 have Pw3:Hid _:=hp
 have Mw3:Hid (Mv base B ev rv ev rv w w3):=(Mw2.out.setNew (by omega) (by omega) _).trans hm
 have rh:Hid (w3.heap[w.heap.size]?=some (O #[J Z 0,J Z 0,J Z 0,J Z 0,J Z 0,J Z 0,J Z 0] 104 (0,0))):=(hm.kept _ (by first | (simp;omega) | (simp [World.size_setCell];exact SZR.out)) hou).1.trans (by rw [zc hn5];exact rh.out)
 have xh:Hid (w3.heap[w1.heap.size]?=some (O #[J Z p,J Z (zD s p b),J Z 0,J Z 0,J Z 0,J Z 0,J Z (-1)] 104 (0,0))):=(hm.kept _ (by first | (simp;done) | (simp [World.size_setCell];exact SZX.out)) hxou).1.trans (zK xh.out)
 have SZR:Hid (w.heap.size<w3.heap.size):=lt_of_block rh.out
 have SZX:Hid (w1.heap.size<w3.heap.size):=lt_of_block xh.out
 clear hp hm
 go_wp2_with fail
 have hk3:zb s 58 (zh s p b) (zo s p b)<=s.size:=zm (by decide) (zS hpk)
 have hg3:k<=zb s 58 (zh s p b) (zo s p b):=Nat.le_trans hkp (Nat.le_trans (z8 hpk) (zk _ _ _ _))
 have hn3':zi s 58 (zh s p b) (zo s p b)=true\/s.size-zb s 58 (zh s p b) (zo s p b)<n:=by
  rcases hn with hn | hn
  ·exact .inl (Ym (YT hn))
  ·exact .inr (by omega)
 refine (hX (d+1) _ _ ev rv es _ hk3 (by omega) (by omega) (by omega) hn3' Pw3.out).mono ?_
 rintro e w4 ⟨rfl,ev',new,hnew,hp,hm,hfr⟩
 generalize ex (d+1) es.length (zb s 58 (zh s p b) (zo s p b)) (zi s 58 (zh s p b) (zo s p b))=r at *
 have Pw4:Hid _:=hp
 have Mw4:Hid _:=Mw3.out.trans hm
 have rh4:Hid (w4.heap[w.heap.size]?=some (O #[J Z 0,J Z 0,J Z 0,J Z 0,J Z 0,J Z 0,J Z 0] 104 (0,0))):=(hm.kept _ SZR.out hou).1.trans rh.out
 have xh4:Hid (w4.heap[w1.heap.size]?=some (O #[J Z p,J Z (zD s p b),J Z 0,J Z 0,J Z 0,J Z 0,J Z (-1)] 104 (0,0))):=(hm.kept _ SZX.out hxou).1.trans xh.out
 have HFr4:Hid (Fre w.heap.size (es++new)):=HFr.out.app (fun p hp e=>by have:=hfr p hp _ e;have:=SZR.out;omega)
 have HFx4:Hid (Fre w1.heap.size (es++new)):=HFx.out.app (fun p hp e=>by have:=hfr p hp _ e;have:=SZX.out;omega)
 have HNW:Hid _:=hnew
 have HFF:Hid (∀ p∈new,∀ g,p.2.ownBlock=some g->w.heap.size<=g):=fun p hp g hg=>by have:=hfr p hp g hg;have:=SZR.out;omega
 clear hp hm hfr hnew
 have x0:w4.cell? ⟨w1.heap.size,0,none⟩=some (J Z p):=by simp [World.cell?,xh4.out]
 have x1:w4.cell? ⟨w1.heap.size,1,none⟩=some (J Z (zD s p b)):=by simp [World.cell?,xh4.out]
 have x2:w4.cell? ⟨w1.heap.size,2,none⟩=some (J Z 0):=by simp [World.cell?,xh4.out]
 have x3:w4.cell? ⟨w1.heap.size,3,none⟩=some (J Z 0):=by simp [World.cell?,xh4.out]
 have x4:w4.cell? ⟨w1.heap.size,4,none⟩=some (J Z 0):=by simp [World.cell?,xh4.out]
 have x5:w4.cell? ⟨w1.heap.size,5,none⟩=some (J Z 0):=by simp [World.cell?,xh4.out]
 have x6:w4.cell? ⟨w1.heap.size,6,none⟩=some (J Z (-1)):=by simp [World.cell?,xh4.out]
 have xz:∀ j,w4.frozen? ⟨w1.heap.size,j,none⟩=false:=fun j=>by simp [World.frozen?,xh4.out]
 have r0:w4.cell? ⟨w.heap.size,0,none⟩=some (J Z 0):=by simp [World.cell?,rh4.out]
 have r1:w4.cell? ⟨w.heap.size,1,none⟩=some (J Z 0):=by simp [World.cell?,rh4.out]
 have r2:w4.cell? ⟨w.heap.size,2,none⟩=some (J Z 0):=by simp [World.cell?,rh4.out]
 have r3:w4.cell? ⟨w.heap.size,3,none⟩=some (J Z 0):=by simp [World.cell?,rh4.out]
 have r4:w4.cell? ⟨w.heap.size,4,none⟩=some (J Z 0):=by simp [World.cell?,rh4.out]
 have r5:w4.cell? ⟨w.heap.size,5,none⟩=some (J Z 0):=by simp [World.cell?,rh4.out]
 have r6:w4.cell? ⟨w.heap.size,6,none⟩=some (J Z 0):=by simp [World.cell?,rh4.out]
 have rz:∀ j,w4.frozen? ⟨w.heap.size,j,none⟩=false:=fun j=>by simp [World.frozen?,rh4.out]
 go_wp2_with fail
 exact bodyPost_ret (v:=.agg #[J Z p,J Z (zD s p b),J Z 0,J Z 0,J Z 0,J Z 0,J Z r.idx]) (by simp [results,Try.results83,go_sem,r0,r1,r2,r3,r4,r5,r6]) rfl ⟨by rw [<- hR.out];rfl,ev',new,by rw [<- hR.out];exact HNW.out,by rw [<- hR.out];exact (Pw4.out.setI ⟨_,_,xh4.out⟩ HFx4.out).setI7 (zy.set ⟨_,_,rh4.out⟩ _ _ _) HFr4.out,(Mw4.out.setNew (by omega) (by omega) _).setNew7 (Nat.le_refl _) hbs _ _ _ _ _ _ _,HFF.out⟩
theorem qY (ex:Int->Nat->Nat->Bool->CR) (base B:Nat) (s:ByteArray) (d:Int) (k:Nat) (b:Bool) (ev rv:Value) (es:List (EX×Value)) (rs:List RL) (w:World) (n:Nat) (hX:ZH ex s base B rs n) (h0:0<=d) (h1:d+1<=k) (hl:es.length<=k) (hn:b=true\/s.size-k<n) (hs:s.size<=2000) (hk:k<=s.size) (h:PM w base B s k b ev rv es rs) (R:CI) (hR:Hid ((zq ex s 109 d es.length k b)=R)) :
 Calls Try.prog 83 #[.pointer (some ⟨B,0,none⟩),J .u8 109,J Z d] w fun e w'=>e=.returned (.agg #[J Z R.im.at_,J Z R.im.num,J Z R.im.pv,J Z R.im.pl,J Z R.im.wv,J Z R.im.wa,J Z R.im.arm])/\∃ ev' new,new.map Prod.fst=R.es/\PM w' base B s R.k R.b ev' rv (es++new) rs/\Mv base B ev rv ev' rv w w'/\∀ p∈new,∀ g,p.2.ownBlock=some g->w.heap.size<=g:=by
 have H:Hid (PM (w.alloc (O #[J Z 0,J Z 0,J Z 0,J Z 0,J Z 0,J Z 0,J Z 0] 104)) base B s k b ev rv es rs):=h.alloc _
 have HM0:Hid (Mv base B ev rv ev rv w (w.alloc (O #[J Z 0,J Z 0,J Z 0,J Z 0,J Z 0,J Z 0,J Z 0] 104))):=Mv.alloc h.bs _
 have hou:=h.outNew
 have hbs:=h.bs
 have HFr:Hid (Fre w.heap.size es):=h.fre (Nat.le_refl _)
 clear h
 go_enter Try.func83,Try.ntmps83
 go_wp2_with fail
 refine (zO base B s k b ev rv es rs _ hs hk H.out).mono ?_
 rintro e w1 ⟨rfl,hp,hm⟩
 have rh:Hid (w1.heap[w.heap.size]?=some (O #[J Z 0,J Z 0,J Z 0,J Z 0,J Z 0,J Z 0,J Z 0] 104 (0,0))):=(hm.kept _ (by simp) hou).1.trans (heap_alloc_new w _)
 have hpk:za s k b<=s.size:=zB hk
 have hkp:k<=za s k b:=by unfold za;split<;>first | exact Nat.le_refl _ | exact T.sk_ge s k
 unfold zq at hR
 generalize za s k b=p at *
 have HP:Hid (PM (w1.alloc (O #[J Z p,J Z 0,J Z 0,J Z 0,J Z 0,J Z 0,J Z (-1)] 104)) base B s p b ev rv es rs):=hp.alloc _
 have HM:Hid (Mv base B ev rv ev rv w (w1.alloc (O #[J Z p,J Z 0,J Z 0,J Z 0,J Z 0,J Z 0,J Z (-1)] 104))):=(HM0.out.trans hm).trans (Mv.alloc hp.bs _)
 have hxou:=hp.outNew
 have HFx:Hid (Fre w1.heap.size es):=hp.fre (Nat.le_refl _)
 have hwl1:w.heap.size<w1.heap.size:=lt_of_block rh.out
 have RH:Hid ((w1.alloc (O #[J Z p,J Z 0,J Z 0,J Z 0,J Z 0,J Z 0,J Z (-1)] 104)).heap[w.heap.size]?=some (O #[J Z 0,J Z 0,J Z 0,J Z 0,J Z 0,J Z 0,J Z 0] 104 (0,0))):=(Below.heap_alloc _ _ _ hwl1).trans rh.out
 have XH:Hid ((w1.alloc (O #[J Z p,J Z 0,J Z 0,J Z 0,J Z 0,J Z 0,J Z (-1)] 104)).heap[w1.heap.size]?=some (O #[J Z p,J Z 0,J Z 0,J Z 0,J Z 0,J Z 0,J Z (-1)] 104 (0,0))):=heap_alloc_new w1 _
 have c1:=hp.c1
 clear hp hm rh
 have hbn:=fun w=>Yh p (-1) w
 have hfn:=fun a b w=>ZC a b w
 have hne:w.heap.size≠B:=hou.1
 have hn5:w.heap.size≠w1.heap.size:=by omega
 have hn3:w1.heap.size≠B:=hxou.1
 go_wp2_with fail
 clear c1
 refine (jx base B s p b ev rv es rs _ hs hpk HP.out).mono ?_
 rintro e w2 ⟨rfl,hp,hm⟩
 have Pw2:Hid _:=hp
 have Mw2:Hid (Mv base B ev rv ev rv w w2):=(HM.out).trans hm
 have rh:Hid (w2.heap[w.heap.size]?=some (O #[J Z 0,J Z 0,J Z 0,J Z 0,J Z 0,J Z 0,J Z 0] 104 (0,0))):=(hm.kept _ (by first | (simp;omega) | (simp [World.size_setCell];exact SZR.out)) hou).1.trans (RH.out)
 have xh:Hid (w2.heap[w1.heap.size]?=some (O #[J Z p,J Z 0,J Z 0,J Z 0,J Z 0,J Z 0,J Z (-1)] 104 (0,0))):=(hm.kept _ (by first | (simp;done) | (simp [World.size_setCell];exact SZX.out)) hxou).1.trans (XH.out)
 have SZR:Hid (w.heap.size<w2.heap.size):=lt_of_block rh.out
 have SZX:Hid (w1.heap.size<w2.heap.size):=lt_of_block xh.out
 clear hp hm
 have x0:w2.cell? ⟨w1.heap.size,0,none⟩=some (J Z p):=by simp [World.cell?,xh.out]
 have x1:w2.cell? ⟨w1.heap.size,1,none⟩=some (J Z 0):=by simp [World.cell?,xh.out]
 have x2:w2.cell? ⟨w1.heap.size,2,none⟩=some (J Z 0):=by simp [World.cell?,xh.out]
 have x3:w2.cell? ⟨w1.heap.size,3,none⟩=some (J Z 0):=by simp [World.cell?,xh.out]
 have x4:w2.cell? ⟨w1.heap.size,4,none⟩=some (J Z 0):=by simp [World.cell?,xh.out]
 have x5:w2.cell? ⟨w1.heap.size,5,none⟩=some (J Z 0):=by simp [World.cell?,xh.out]
 have x6:w2.cell? ⟨w1.heap.size,6,none⟩=some (J Z (-1)):=by simp [World.cell?,xh.out]
 have xz:∀ j,w2.frozen? ⟨w1.heap.size,j,none⟩=false:=fun j=>by simp [World.frozen?,xh.out]
 go_wp2_with fail
 clear x0 x1 x2 x3 x4 x5 x6 xz
 refine (yf base B s 58 _ _ ev rv es rs _ hs (Yt hpk) (by decide) ((Pw2.out.setI ⟨_,_,xh.out⟩ HFx.out).setI (zy.set ⟨_,_,xh.out⟩ _ _ _) HFx.out)).mono ?_
 rintro e w3 ⟨rfl,hp,hm⟩
 have Pw3:Hid _:=hp
 have Mw3:Hid (Mv base B ev rv ev rv w w3):=((Mw2.out.setNew (by omega) (by omega) _).setNew (by omega) (by omega) _).trans hm
 have rh:Hid (w3.heap[w.heap.size]?=some (O #[J Z 0,J Z 0,J Z 0,J Z 0,J Z 0,J Z 0,J Z 0] 104 (0,0))):=(hm.kept _ (by first | (simp;omega) | (simp [World.size_setCell];exact SZR.out)) hou).1.trans (by rw [zc hn5,zc hn5];exact rh.out)
 have xh:Hid (w3.heap[w1.heap.size]?=some (O #[J Z p,J Z 0,J Z (btV s p b),J Z (btL s p b),J Z 0,J Z 0,J Z (-1)] 104 (0,0))):=(hm.kept _ (by first | (simp;done) | (simp [World.size_setCell];exact SZX.out)) hxou).1.trans (zK (zK xh.out))
 have SZR:Hid (w.heap.size<w3.heap.size):=lt_of_block rh.out
 have SZX:Hid (w1.heap.size<w3.heap.size):=lt_of_block xh.out
 clear hp hm
 go_wp2_with fail
 have hk3:zb s 58 (btK s p b) (btX s p b)<=s.size:=zm (by decide) (Yt hpk)
 have hg3:k<=zb s 58 (btK s p b) (btX s p b):=Nat.le_trans hkp (Nat.le_trans (Y6 hpk) (zk _ _ _ _))
 have hn3':zi s 58 (btK s p b) (btX s p b)=true\/s.size-zb s 58 (btK s p b) (btX s p b)<n:=by
  rcases hn with hn | hn
  ·exact .inl (Ym (Xc hn))
  ·exact .inr (by omega)
 refine (hX (d+1) _ _ ev rv es _ hk3 (by omega) (by omega) (by omega) hn3' Pw3.out).mono ?_
 rintro e w4 ⟨rfl,ev',new,hnew,hp,hm,hfr⟩
 generalize ex (d+1) es.length (zb s 58 (btK s p b) (btX s p b)) (zi s 58 (btK s p b) (btX s p b))=r at *
 have Pw4:Hid _:=hp
 have Mw4:Hid _:=Mw3.out.trans hm
 have rh4:Hid (w4.heap[w.heap.size]?=some (O #[J Z 0,J Z 0,J Z 0,J Z 0,J Z 0,J Z 0,J Z 0] 104 (0,0))):=(hm.kept _ SZR.out hou).1.trans rh.out
 have xh4:Hid (w4.heap[w1.heap.size]?=some (O #[J Z p,J Z 0,J Z (btV s p b),J Z (btL s p b),J Z 0,J Z 0,J Z (-1)] 104 (0,0))):=(hm.kept _ SZX.out hxou).1.trans xh.out
 have HFr4:Hid (Fre w.heap.size (es++new)):=HFr.out.app (fun p hp e=>by have:=hfr p hp _ e;have:=SZR.out;omega)
 have HFx4:Hid (Fre w1.heap.size (es++new)):=HFx.out.app (fun p hp e=>by have:=hfr p hp _ e;have:=SZX.out;omega)
 have HNW:Hid _:=hnew
 have HFF:Hid (∀ p∈new,∀ g,p.2.ownBlock=some g->w.heap.size<=g):=fun p hp g hg=>by have:=hfr p hp g hg;have:=SZR.out;omega
 clear hp hm hfr hnew
 have x0:w4.cell? ⟨w1.heap.size,0,none⟩=some (J Z p):=by simp [World.cell?,xh4.out]
 have x1:w4.cell? ⟨w1.heap.size,1,none⟩=some (J Z 0):=by simp [World.cell?,xh4.out]
 have x2:w4.cell? ⟨w1.heap.size,2,none⟩=some (J Z (btV s p b)):=by simp [World.cell?,xh4.out]
 have x3:w4.cell? ⟨w1.heap.size,3,none⟩=some (J Z (btL s p b)):=by simp [World.cell?,xh4.out]
 have x4:w4.cell? ⟨w1.heap.size,4,none⟩=some (J Z 0):=by simp [World.cell?,xh4.out]
 have x5:w4.cell? ⟨w1.heap.size,5,none⟩=some (J Z 0):=by simp [World.cell?,xh4.out]
 have x6:w4.cell? ⟨w1.heap.size,6,none⟩=some (J Z (-1)):=by simp [World.cell?,xh4.out]
 have xz:∀ j,w4.frozen? ⟨w1.heap.size,j,none⟩=false:=fun j=>by simp [World.frozen?,xh4.out]
 have r0:w4.cell? ⟨w.heap.size,0,none⟩=some (J Z 0):=by simp [World.cell?,rh4.out]
 have r1:w4.cell? ⟨w.heap.size,1,none⟩=some (J Z 0):=by simp [World.cell?,rh4.out]
 have r2:w4.cell? ⟨w.heap.size,2,none⟩=some (J Z 0):=by simp [World.cell?,rh4.out]
 have r3:w4.cell? ⟨w.heap.size,3,none⟩=some (J Z 0):=by simp [World.cell?,rh4.out]
 have r4:w4.cell? ⟨w.heap.size,4,none⟩=some (J Z 0):=by simp [World.cell?,rh4.out]
 have r5:w4.cell? ⟨w.heap.size,5,none⟩=some (J Z 0):=by simp [World.cell?,rh4.out]
 have r6:w4.cell? ⟨w.heap.size,6,none⟩=some (J Z 0):=by simp [World.cell?,rh4.out]
 have rz:∀ j,w4.frozen? ⟨w.heap.size,j,none⟩=false:=fun j=>by simp [World.frozen?,rh4.out]
 go_wp2_with fail
 exact bodyPost_ret (v:=.agg #[J Z p,J Z 0,J Z (btV s p b),J Z (btL s p b),J Z 0,J Z 0,J Z r.idx]) (by simp [results,Try.results83,go_sem,r0,r1,r2,r3,r4,r5,r6]) rfl ⟨by rw [<- hR.out];rfl,ev',new,by rw [<- hR.out];exact HNW.out,by rw [<- hR.out];exact (Pw4.out.setI ⟨_,_,xh4.out⟩ HFx4.out).setI7 (zy.set ⟨_,_,rh4.out⟩ _ _ _) HFr4.out,(Mw4.out.setNew (by omega) (by omega) _).setNew7 (Nat.le_refl _) hbs _ _ _ _ _ _ _,HFF.out⟩
end Go.Proofs.Ytaebngpoagjafaa
