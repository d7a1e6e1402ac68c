import Derived.Test.YtaebngpoagjafabGreatV05
import Derived.Test.YtaebngpoagjafabGreatV10
set_option maxRecDepth 100000
set_option maxHeartbeats 800000
namespace Go.Proofs.YtaebngpoagjafabGreat
open Obj renaming cells → O
open Value renaming int → J
open IntKind renaming i64 → Z
open Go.RowKit
attribute [local go_sem ↓] Go.wp_at_zero Go.wp_at_succ
theorem Yb {w:World} {B:Nat} {a b u:Value} {t:TypeId} (h:w.heap[B]?=some (O #[a,b] t (0,0))):(w.setCell ⟨B,0,none⟩ u).heap[B]?=some (O #[u,b] t (0,0)):=by
 simp [World.setCell,Array.getElem?_modify,h]
def nmF (s:ByteArray) (b:Bool):Nat->Nat->Nat
 | 0,j=>j
 | n+1,j=>if T.dig (ze s j b)=true then nmF s b n (j+1) else j
def nmL (s:ByteArray) (p:Nat) (b:Bool):Nat:=if ze s p b=48 then 1 else 9
def nmE (s:ByteArray) (p:Nat) (b:Bool):Nat:=nmF s b (nmL s p b) p
def vl (s:ByteArray) (p:Nat):Nat->Int
 | 0=>0
 | i+1=>vl s p i*10+(T.ch s (p+i)-48)
def zm (s:ByteArray) (k:Nat) (b:Bool):Nat:=nmE s (zb s k b) b
def zu (s:ByteArray) (k:Nat) (b:Bool):Bool:=if zm s k b=zb s k b then true else b
def zI (s:ByteArray) (k:Nat) (b:Bool):Int:=vl s (zb s k b) (zm s k b-zb s k b)
theorem xK {s:ByteArray} {j:Nat} {b:Bool} (h:T.dig (ze s j b)=true):b=false/\j<s.size/\ze s j b=T.ch s j:=by
 unfold ze at h ⊢
 cases b with
 | true=>simp [T.dig] at h
 | false =>
  by_cases hlt:j<s.size
  ·exact ⟨rfl,hlt,by simp [hlt]⟩
  ·simp [hlt,T.dig] at h
theorem qY (s:ByteArray) (b:Bool):∀ n j,j<=s.size->j<=nmF s b n j/\nmF s b n j<=s.size:=by
 intro n
 induction n with
 | zero=>intro j h;exact ⟨Nat.le_refl _,h⟩
 | succ n ih =>
  intro j h
  simp only [nmF]
  split
  ·next hd=>have:=ih (j+1) (xK hd).2.1;omega
  ·omega
theorem zZ {s:ByteArray} {k:Nat} {b:Bool} (hk:k<=s.size):zm s k b<=s.size:=(qY s b _ _ (zK hk)).2
theorem yR (base B:Nat) (s:ByteArray) (k:Nat) (b:Bool) (ev rv:Value) (es:List (EX×Value)) (rs:List RL) (w:World) (hs:s.size<=2000) (hk:k<=s.size) (h:PM w base B s k b ev rv es rs) :
 Calls Tryz.prog 161 #[.pointer (some ⟨B,0,none⟩)] w fun e w'=>e=.returned (.agg #[J Z (zI s k b),J Z (zb s k b)])/\PM w' base B s (zm s k b) (zu s k b) ev rv es rs/\Mv base B ev rv ev rv w w':=by
 have H:Hid (PM (w.alloc (O #[J Z 0,J Z 0] 141)) base B s k b ev rv es rs):=h.alloc _
 have HM0:Hid (Mv base B ev rv ev rv w (w.alloc (O #[J Z 0,J Z 0] 141))):=Mv.alloc h.bs _
 have hou:=h.outNew
 have hbs:=h.bs
 clear h
 go_enter Tryz.func161,Tryz.ntmps161
 go_wp2_with fail
 refine (ya base B s k b ev rv es rs _ hs hk H.out).mono ?_
 rintro e w1 ⟨rfl,hp,hm⟩
 have HR1:Hid (w1.heap[w.heap.size]?=some (O #[J Z 0,J Z 0] 141 (0,0))):=(hm.kept _ (by simp) hou).1.trans (heap_alloc_new w _)
 have hpk:zb s k b<=s.size:=zK hk
 have HNK:Hid (zm s k b=nmE s (zb s k b) b):=rfl
 have HNX:Hid (zu s k b=if zm s k b=zb s k b then true else b):=rfl
 have HNV:Hid (zI s k b=vl s (zb s k b) (zm s k b-zb s k b)):=rfl
 generalize hpe:zb s k b=p at *
 have HPE:Hid _:=hpe
 clear hpe
 have HP:Hid (PM (w1.alloc (O #[J Z 0,J Z p] 141)) base B s p b ev rv es rs):=hp.alloc _
 have HM:Hid (Mv base B ev rv ev rv w (w1.alloc (O #[J Z 0,J Z p] 141))):=(HM0.out.trans hm).trans (Mv.alloc hp.bs _)
 have hnou:=hp.outNew
 have hwl1:w.heap.size<w1.heap.size:=lt_of_block HR1.out
 have HR2:Hid ((w1.alloc (O #[J Z 0,J Z p] 141)).heap[w.heap.size]?=some (O #[J Z 0,J Z 0] 141 (0,0))):=(Below.heap_alloc _ _ _ hwl1).trans HR1.out
 have HN2:Hid ((w1.alloc (O #[J Z 0,J Z p] 141)).heap[w1.heap.size]?=some (O #[J Z 0,J Z p] 141 (0,0))):=heap_alloc_new w1 _
 have c1:=hp.c1
 have hb1:=hp.lt
 clear hp hm
 have hbn:=fun w=>zap p w
 go_wp2_with fail
 refine (Zi base B s p b ev rv es rs _ hpk HP.out).mono ?_
 rintro e w2 ⟨rfl,hp,hm⟩
 have HP2:Hid _:=hp
 have HM2:Hid _:=HM.out.trans hm
 have HR3:Hid (w2.heap[w.heap.size]?=some (O #[J Z 0,J Z 0] 141 (0,0))):=(hm.kept _ (by simp;omega) hou).1.trans HR2.out
 have HN3:Hid (w2.heap[w1.heap.size]?=some (O #[J Z 0,J Z p] 141 (0,0))):=(hm.kept _ (by simp) hnou).1.trans HN2.out
 clear hp hm c1 hb1
 cases h48:(ze s p b==48) with
 | true =>
  have HL:Hid (nmL s p b=1):=by show _=_;unfold nmL;rw [if_pos (by simpa using h48)]
  go_wp2_with fail
  go_loopg [4] 1 (fun n x wr=>∃ (j:Nat) (v:Int),p<=j/\j<=s.size/\n+(j-p)=1/\x=J .u8 (ze s j b)/\Hid (nmF s b n j=nmE s p b)/\Hid (v=vl s p (j-p))/\Hid (0<=v/\v+1<=10 ^ (j-p))/\PM wr base B s j b ev rv es rs/\Mv base B ev rv ev rv w wr /\
   wr.heap[w.heap.size]?=some (O #[J Z 0,J Z 0] 141 (0,0))/\wr.heap[w1.heap.size]?=some (O #[J Z v,J Z p] 141 (0,0)))
  case atStart=>exact ⟨p,0,Nat.le_refl _,hpk,by omega,rfl,by show _=_;unfold nmE;rw [HL.out],by show _=_;rw [Nat.sub_self];rfl,⟨Int.le_refl _,by rw [Nat.sub_self];decide⟩,HP2.out,HM2.out,HR3.out,HN3.out⟩
  case round =>
   obtain ⟨j,v,hpj,hjs,hn,rfl,HF,HV,HVB,hp,hm,hr,hnb⟩:=hrel
   have HP4:Hid _:=hp
   have HM4:Hid _:=hm
   have HR4:Hid _:=hr
   have HN4:Hid _:=hnb
   have c1:=hp.c1
   have c2:=hp.c2
   have z1:=hp.fz 1
   have z2:=hp.fz 2
   have n0:wr.cell? ⟨w1.heap.size,0,none⟩=some (J Z v):=by simp [World.cell?,hnb]
   have n1:wr.cell? ⟨w1.heap.size,1,none⟩=some (J Z p):=by simp [World.cell?,hnb]
   have nz:∀ j,wr.frozen? ⟨w1.heap.size,j,none⟩=false:=fun j=>by simp [World.frozen?,hnb]
   have r0:wr.cell? ⟨w.heap.size,0,none⟩=some (J Z 0):=by simp [World.cell?,hr]
   have r1:wr.cell? ⟨w.heap.size,1,none⟩=some (J Z 0):=by simp [World.cell?,hr]
   have rz:∀ j,wr.frozen? ⟨w.heap.size,j,none⟩=false:=fun j=>by simp [World.frozen?,hr]
   have hne:w.heap.size≠B:=hou.1
   have hne':B≠w.heap.size:=fun e=>hou.1 e.symm
   have hn3:w1.heap.size≠B:=hnou.1
   have hn4:B≠w1.heap.size:=fun e=>hnou.1 e.symm
   have hn5:w.heap.size≠w1.heap.size:=by omega
   clear hp hm hr hnb
   have hji:(j:Int)<=2000:=by omega
   cases gk with
   | zero =>
    have hlim:decide ((j:Int)-(p:Int)<1)=false:=decide_eq_false (by omega)
    have HK2:Hid (zm s k b=j):=by
     show _=_
     rw [HNK.out,<- HF.out];rfl
    have HV2:Hid (zI s k b=v):=by
     show _=_
     rw [HNV.out,HK2.out];exact HV.out.symm
    cases hjp:((j:Int)==(p:Int)) with
    | true =>
     have HX2:Hid (zu s k b=true):=by
      show _=_
      rw [HNX.out,HK2.out,if_pos (by simp at hjp;omega)]
     go_wp2_with fail
     go_quiet (fail)
     go_wp2_with fail
     go_quiet (fail)
     go_wp2_with fail
     exact bodyPost_ret (v:=.agg #[J Z v,J Z p]) (by simp [results,Tryz.results161,go_sem,r0,r1]) rfl ⟨by rw [HPE.out,HV2.out],by rw [HK2.out,HX2.out];exact (((HP4.out.drewN _).bad true).setN (zH.set ⟨_,_,HR4.out⟩ _ _ _)).setN (zH.set (zH.set ⟨_,_,HR4.out⟩ _ _ _) _ _ _),(((HM4.out.drewN _).trans ((HP4.out.drewN _).setMv 2 _)).setNew (Nat.le_refl _) hbs _).setNew (Nat.le_refl _) hbs _⟩
    | false =>
     have HX2:Hid (zu s k b=b):=by
      show _=_
      rw [HNX.out,HK2.out,if_neg (by have:=beq_eq_false_iff_ne.1 hjp;omega)]
     go_wp2_with fail
     go_quiet (fail)
     go_wp2_with fail
     go_quiet (fail)
     go_wp2_with fail
     exact bodyPost_ret (v:=.agg #[J Z v,J Z p]) (by simp [results,Tryz.results161,go_sem,r0,r1]) rfl ⟨by rw [HPE.out,HV2.out],by rw [HK2.out,HX2.out];exact ((HP4.out.drewN _).setN ⟨_,_,HR4.out⟩).setN (zH.set ⟨_,_,HR4.out⟩ _ _ _),((HM4.out.drewN _).setNew (Nat.le_refl _) hbs _).setNew (Nat.le_refl _) hbs _⟩
   | succ m =>
    have hlim:decide ((j:Int)-(p:Int)<1)=true:=decide_eq_true (by omega)
    have hlim2:(j:Int)-(p:Int)<1:=by omega
    cases hd:T.dig (ze s j b) with
    | true =>
     obtain ⟨rfl,hlt,hch⟩:=xK hd
     have hdd:48<=ze s j false/\ze s j false<=57:=by simpa [T.dig] using hd
     obtain ⟨hd0,hd1⟩:=hdd
     have HF2:Hid (nmF s false m (j+1)=nmE s p false):=by
      show _=_
      rw [<- HF.out,nmF,if_pos hd]
     have ejp:j+1-p=(j-p)+1:=by omega
     have hp9:(10:Int) ^ (j-p)<=1000000000:=by
      have h1:(10:Nat) ^ (j-p)<=10 ^ 9:=Nat.pow_le_pow_right (by omega) (by omega)
      have h2:((10 ^ (j-p):Nat):Int)<=((10 ^ 9:Nat):Int):=Int.ofNat_le.2 h1
      rw [Int.natCast_pow] at h2
      exact h2
     have hv0:0<=v:=HVB.out.1
     have hv1:v<1000000000:=by have:=HVB.out.2;omega
     have HV2:Hid (v*10+(ze s j false-48)=vl s p (j+1-p)):=by
      show _=_
      rw [ejp];simp only [vl]
      rw [<- HV.out,hch,show p+(j-p)=j from by omega]
     have HVB2:Hid (0<=v*10+(ze s j false-48)/\v*10+(ze s j false-48)+1<=10 ^ (j+1-p)):=by
      have h1:=HVB.out
      show _/\_
      rw [ejp,Int.pow_succ]
      omega
     clear hd hch HF HV HVB hp9 ejp
     generalize ze s j false=x at *
     have hmod:(x-48)%256=x-48:=by omega
     go_wp2_with fail
     go_quiet (fail)
     go_wp2_with fail
     have hlr:w.heap.size<wr.heap.size:=lt_of_block HR4.out
     have hln:w1.heap.size<wr.heap.size:=lt_of_block HN4.out
     refine (Zi base B s (j+1) false ev rv es rs _ (by omega) (((HP4.out.drewN _).setN ⟨_,_,HN4.out⟩).at (j+1) _ (by omega))).mono ?_
     rintro e w5 ⟨rfl,hp5,hm5⟩
     have HP5:Hid _:=hp5
     have HM5:Hid (Mv base B ev rv ev rv w w5):=(((HM4.out.drewN _).setNew (by omega) (by omega) _).trans (((HP4.out.drewN _).setN ⟨_,_,HN4.out⟩).setMv 1 _)).trans hm5
     have HR5:Hid (w5.heap[w.heap.size]?=some (O #[J Z 0,J Z 0] 141 (0,0))):=(hm5.kept _ (by simp [World.size_setCell];exact hlr) hou).1.trans (by rw [za hne,za hn5];exact HR4.out)
     have HN5:Hid (w5.heap[w1.heap.size]?=some (O #[J Z (v*10+(x-48)),J Z p] 141 (0,0))):=(hm5.kept _ (by simp [World.size_setCell];exact hln) hnou).1.trans (by rw [za hn3];exact Yb HN4.out)
     clear hp5 hm5 c1 c2 z1 z2 n0 n1 nz r0 r1 rz
     go_wp2_with fail
     go_roundg m
     case measure=>omega
     case rel=>exact ⟨j+1,_,by omega,by omega,by omega,rfl,HF2,HV2,HVB2,HP5.out,HM5.out,HR5.out,HN5.out⟩
    | false =>
     by_cases h1:48<=ze s j b
     ·have h2:¬ ze s j b<=57:=fun h2=>by simp [T.dig,h1,h2] at hd
      have d1:decide (48<=ze s j b)=true:=decide_eq_true h1
      have d2:decide (ze s j b<=57)=false:=decide_eq_false h2
      have HK2:Hid (zm s k b=j):=by
       show _=_
       rw [HNK.out,<- HF.out];rw [nmF,if_neg (by rw [hd];decide)]
      have HV2:Hid (zI s k b=v):=by
       show _=_
       rw [HNV.out,HK2.out];exact HV.out.symm
      cases hjp:((j:Int)==(p:Int)) with
      | true =>
       have HX2:Hid (zu s k b=true):=by
        show _=_
        rw [HNX.out,HK2.out,if_pos (by simp at hjp;omega)]
       go_wp2_with fail
       go_quiet (fail)
       go_wp2_with fail
       go_quiet (fail)
       go_wp2_with fail
       exact bodyPost_ret (v:=.agg #[J Z v,J Z p]) (by simp [results,Tryz.results161,go_sem,r0,r1]) rfl ⟨by rw [HPE.out,HV2.out],by rw [HK2.out,HX2.out];exact (((HP4.out.drewN _).bad true).setN (zH.set ⟨_,_,HR4.out⟩ _ _ _)).setN (zH.set (zH.set ⟨_,_,HR4.out⟩ _ _ _) _ _ _),(((HM4.out.drewN _).trans ((HP4.out.drewN _).setMv 2 _)).setNew (Nat.le_refl _) hbs _).setNew (Nat.le_refl _) hbs _⟩
      | false =>
       have HX2:Hid (zu s k b=b):=by
        show _=_
        rw [HNX.out,HK2.out,if_neg (by have:=beq_eq_false_iff_ne.1 hjp;omega)]
       go_wp2_with fail
       go_quiet (fail)
       go_wp2_with fail
       go_quiet (fail)
       go_wp2_with fail
       exact bodyPost_ret (v:=.agg #[J Z v,J Z p]) (by simp [results,Tryz.results161,go_sem,r0,r1]) rfl ⟨by rw [HPE.out,HV2.out],by rw [HK2.out,HX2.out];exact ((HP4.out.drewN _).setN ⟨_,_,HR4.out⟩).setN (zH.set ⟨_,_,HR4.out⟩ _ _ _),((HM4.out.drewN _).setNew (Nat.le_refl _) hbs _).setNew (Nat.le_refl _) hbs _⟩
     ·have d1:decide (48<=ze s j b)=false:=decide_eq_false h1
      have HK2:Hid (zm s k b=j):=by
       show _=_
       rw [HNK.out,<- HF.out];rw [nmF,if_neg (by rw [hd];decide)]
      have HV2:Hid (zI s k b=v):=by
       show _=_
       rw [HNV.out,HK2.out];exact HV.out.symm
      cases hjp:((j:Int)==(p:Int)) with
      | true =>
       have HX2:Hid (zu s k b=true):=by
        show _=_
        rw [HNX.out,HK2.out,if_pos (by simp at hjp;omega)]
       go_wp2_with fail
       go_quiet (fail)
       go_wp2_with fail
       go_quiet (fail)
       go_wp2_with fail
       exact bodyPost_ret (v:=.agg #[J Z v,J Z p]) (by simp [results,Tryz.results161,go_sem,r0,r1]) rfl ⟨by rw [HPE.out,HV2.out],by rw [HK2.out,HX2.out];exact (((HP4.out.drewN _).bad true).setN (zH.set ⟨_,_,HR4.out⟩ _ _ _)).setN (zH.set (zH.set ⟨_,_,HR4.out⟩ _ _ _) _ _ _),(((HM4.out.drewN _).trans ((HP4.out.drewN _).setMv 2 _)).setNew (Nat.le_refl _) hbs _).setNew (Nat.le_refl _) hbs _⟩
      | false =>
       have HX2:Hid (zu s k b=b):=by
        show _=_
        rw [HNX.out,HK2.out,if_neg (by have:=beq_eq_false_iff_ne.1 hjp;omega)]
       go_wp2_with fail
       go_quiet (fail)
       go_wp2_with fail
       go_quiet (fail)
       go_wp2_with fail
       exact bodyPost_ret (v:=.agg #[J Z v,J Z p]) (by simp [results,Tryz.results161,go_sem,r0,r1]) rfl ⟨by rw [HPE.out,HV2.out],by rw [HK2.out,HX2.out];exact ((HP4.out.drewN _).setN ⟨_,_,HR4.out⟩).setN (zH.set ⟨_,_,HR4.out⟩ _ _ _),((HM4.out.drewN _).setNew (Nat.le_refl _) hbs _).setNew (Nat.le_refl _) hbs _⟩
 | false =>
  have HL:Hid (nmL s p b=9):=by show _=_;unfold nmL;rw [if_neg (by simpa using h48)]
  go_wp2_with fail
  go_loopg [4] 9 (fun n x wr=>∃ (j:Nat) (v:Int),p<=j/\j<=s.size/\n+(j-p)=9/\x=J .u8 (ze s j b)/\Hid (nmF s b n j=nmE s p b)/\Hid (v=vl s p (j-p))/\Hid (0<=v/\v+1<=10 ^ (j-p))/\PM wr base B s j b ev rv es rs/\Mv base B ev rv ev rv w wr /\
   wr.heap[w.heap.size]?=some (O #[J Z 0,J Z 0] 141 (0,0))/\wr.heap[w1.heap.size]?=some (O #[J Z v,J Z p] 141 (0,0)))
  case atStart=>exact ⟨p,0,Nat.le_refl _,hpk,by omega,rfl,by show _=_;unfold nmE;rw [HL.out],by show _=_;rw [Nat.sub_self];rfl,⟨Int.le_refl _,by rw [Nat.sub_self];decide⟩,HP2.out,HM2.out,HR3.out,HN3.out⟩
  case round =>
   obtain ⟨j,v,hpj,hjs,hn,rfl,HF,HV,HVB,hp,hm,hr,hnb⟩:=hrel
   have HP4:Hid _:=hp
   have HM4:Hid _:=hm
   have HR4:Hid _:=hr
   have HN4:Hid _:=hnb
   have c1:=hp.c1
   have c2:=hp.c2
   have z1:=hp.fz 1
   have z2:=hp.fz 2
   have n0:wr.cell? ⟨w1.heap.size,0,none⟩=some (J Z v):=by simp [World.cell?,hnb]
   have n1:wr.cell? ⟨w1.heap.size,1,none⟩=some (J Z p):=by simp [World.cell?,hnb]
   have nz:∀ j,wr.frozen? ⟨w1.heap.size,j,none⟩=false:=fun j=>by simp [World.frozen?,hnb]
   have r0:wr.cell? ⟨w.heap.size,0,none⟩=some (J Z 0):=by simp [World.cell?,hr]
   have r1:wr.cell? ⟨w.heap.size,1,none⟩=some (J Z 0):=by simp [World.cell?,hr]
   have rz:∀ j,wr.frozen? ⟨w.heap.size,j,none⟩=false:=fun j=>by simp [World.frozen?,hr]
   have hne:w.heap.size≠B:=hou.1
   have hne':B≠w.heap.size:=fun e=>hou.1 e.symm
   have hn3:w1.heap.size≠B:=hnou.1
   have hn4:B≠w1.heap.size:=fun e=>hnou.1 e.symm
   have hn5:w.heap.size≠w1.heap.size:=by omega
   clear hp hm hr hnb
   have hji:(j:Int)<=2000:=by omega
   cases gk with
   | zero =>
    have hlim:decide ((j:Int)-(p:Int)<9)=false:=decide_eq_false (by omega)
    have HK2:Hid (zm s k b=j):=by
     show _=_
     rw [HNK.out,<- HF.out];rfl
    have HV2:Hid (zI s k b=v):=by
     show _=_
     rw [HNV.out,HK2.out];exact HV.out.symm
    cases hjp:((j:Int)==(p:Int)) with
    | true =>
     have HX2:Hid (zu s k b=true):=by
      show _=_
      rw [HNX.out,HK2.out,if_pos (by simp at hjp;omega)]
     go_wp2_with fail
     go_quiet (fail)
     go_wp2_with fail
     go_quiet (fail)
     go_wp2_with fail
     exact bodyPost_ret (v:=.agg #[J Z v,J Z p]) (by simp [results,Tryz.results161,go_sem,r0,r1]) rfl ⟨by rw [HPE.out,HV2.out],by rw [HK2.out,HX2.out];exact (((HP4.out.drewN _).bad true).setN (zH.set ⟨_,_,HR4.out⟩ _ _ _)).setN (zH.set (zH.set ⟨_,_,HR4.out⟩ _ _ _) _ _ _),(((HM4.out.drewN _).trans ((HP4.out.drewN _).setMv 2 _)).setNew (Nat.le_refl _) hbs _).setNew (Nat.le_refl _) hbs _⟩
    | false =>
     have HX2:Hid (zu s k b=b):=by
      show _=_
      rw [HNX.out,HK2.out,if_neg (by have:=beq_eq_false_iff_ne.1 hjp;omega)]
     go_wp2_with fail
     go_quiet (fail)
     go_wp2_with fail
     go_quiet (fail)
     go_wp2_with fail
     exact bodyPost_ret (v:=.agg #[J Z v,J Z p]) (by simp [results,Tryz.results161,go_sem,r0,r1]) rfl ⟨by rw [HPE.out,HV2.out],by rw [HK2.out,HX2.out];exact ((HP4.out.drewN _).setN ⟨_,_,HR4.out⟩).setN (zH.set ⟨_,_,HR4.out⟩ _ _ _),((HM4.out.drewN _).setNew (Nat.le_refl _) hbs _).setNew (Nat.le_refl _) hbs _⟩
   | succ m =>
    have hlim:decide ((j:Int)-(p:Int)<9)=true:=decide_eq_true (by omega)
    have hlim2:(j:Int)-(p:Int)<9:=by omega
    cases hd:T.dig (ze s j b) with
    | true =>
     obtain ⟨rfl,hlt,hch⟩:=xK hd
     have hdd:48<=ze s j false/\ze s j false<=57:=by simpa [T.dig] using hd
     obtain ⟨hd0,hd1⟩:=hdd
     have HF2:Hid (nmF s false m (j+1)=nmE s p false):=by
      show _=_
      rw [<- HF.out,nmF,if_pos hd]
     have ejp:j+1-p=(j-p)+1:=by omega
     have hp9:(10:Int) ^ (j-p)<=1000000000:=by
      have h1:(10:Nat) ^ (j-p)<=10 ^ 9:=Nat.pow_le_pow_right (by omega) (by omega)
      have h2:((10 ^ (j-p):Nat):Int)<=((10 ^ 9:Nat):Int):=Int.ofNat_le.2 h1
      rw [Int.natCast_pow] at h2
      exact h2
     have hv0:0<=v:=HVB.out.1
     have hv1:v<1000000000:=by have:=HVB.out.2;omega
     have HV2:Hid (v*10+(ze s j false-48)=vl s p (j+1-p)):=by
      show _=_
      rw [ejp];simp only [vl]
      rw [<- HV.out,hch,show p+(j-p)=j from by omega]
     have HVB2:Hid (0<=v*10+(ze s j false-48)/\v*10+(ze s j false-48)+1<=10 ^ (j+1-p)):=by
      have h1:=HVB.out
      show _/\_
      rw [ejp,Int.pow_succ]
      omega
     clear hd hch HF HV HVB hp9 ejp
     generalize ze s j false=x at *
     have hmod:(x-48)%256=x-48:=by omega
     go_wp2_with fail
     go_quiet (fail)
     go_wp2_with fail
     have hlr:w.heap.size<wr.heap.size:=lt_of_block HR4.out
     have hln:w1.heap.size<wr.heap.size:=lt_of_block HN4.out
     refine (Zi base B s (j+1) false ev rv es rs _ (by omega) (((HP4.out.drewN _).setN ⟨_,_,HN4.out⟩).at (j+1) _ (by omega))).mono ?_
     rintro e w5 ⟨rfl,hp5,hm5⟩
     have HP5:Hid _:=hp5
     have HM5:Hid (Mv base B ev rv ev rv w w5):=(((HM4.out.drewN _).setNew (by omega) (by omega) _).trans (((HP4.out.drewN _).setN ⟨_,_,HN4.out⟩).setMv 1 _)).trans hm5
     have HR5:Hid (w5.heap[w.heap.size]?=some (O #[J Z 0,J Z 0] 141 (0,0))):=(hm5.kept _ (by simp [World.size_setCell];exact hlr) hou).1.trans (by rw [za hne,za hn5];exact HR4.out)
     have HN5:Hid (w5.heap[w1.heap.size]?=some (O #[J Z (v*10+(x-48)),J Z p] 141 (0,0))):=(hm5.kept _ (by simp [World.size_setCell];exact hln) hnou).1.trans (by rw [za hn3];exact Yb HN4.out)
     clear hp5 hm5 c1 c2 z1 z2 n0 n1 nz r0 r1 rz
     go_wp2_with fail
     go_roundg m
     case measure=>omega
     case rel=>exact ⟨j+1,_,by omega,by omega,by omega,rfl,HF2,HV2,HVB2,HP5.out,HM5.out,HR5.out,HN5.out⟩
    | false =>
     by_cases h1:48<=ze s j b
     ·have h2:¬ ze s j b<=57:=fun h2=>by simp [T.dig,h1,h2] at hd
      have d1:decide (48<=ze s j b)=true:=decide_eq_true h1
      have d2:decide (ze s j b<=57)=false:=decide_eq_false h2
      have HK2:Hid (zm s k b=j):=by
       show _=_
       rw [HNK.out,<- HF.out];rw [nmF,if_neg (by rw [hd];decide)]
      have HV2:Hid (zI s k b=v):=by
       show _=_
       rw [HNV.out,HK2.out];exact HV.out.symm
      cases hjp:((j:Int)==(p:Int)) with
      | true =>
       have HX2:Hid (zu s k b=true):=by
        show _=_
        rw [HNX.out,HK2.out,if_pos (by simp at hjp;omega)]
       go_wp2_with fail
       go_quiet (fail)
       go_wp2_with fail
       go_quiet (fail)
       go_wp2_with fail
       exact bodyPost_ret (v:=.agg #[J Z v,J Z p]) (by simp [results,Tryz.results161,go_sem,r0,r1]) rfl ⟨by rw [HPE.out,HV2.out],by rw [HK2.out,HX2.out];exact (((HP4.out.drewN _).bad true).setN (zH.set ⟨_,_,HR4.out⟩ _ _ _)).setN (zH.set (zH.set ⟨_,_,HR4.out⟩ _ _ _) _ _ _),(((HM4.out.drewN _).trans ((HP4.out.drewN _).setMv 2 _)).setNew (Nat.le_refl _) hbs _).setNew (Nat.le_refl _) hbs _⟩
      | false =>
       have HX2:Hid (zu s k b=b):=by
        show _=_
        rw [HNX.out,HK2.out,if_neg (by have:=beq_eq_false_iff_ne.1 hjp;omega)]
       go_wp2_with fail
       go_quiet (fail)
       go_wp2_with fail
       go_quiet (fail)
       go_wp2_with fail
       exact bodyPost_ret (v:=.agg #[J Z v,J Z p]) (by simp [results,Tryz.results161,go_sem,r0,r1]) rfl ⟨by rw [HPE.out,HV2.out],by rw [HK2.out,HX2.out];exact ((HP4.out.drewN _).setN ⟨_,_,HR4.out⟩).setN (zH.set ⟨_,_,HR4.out⟩ _ _ _),((HM4.out.drewN _).setNew (Nat.le_refl _) hbs _).setNew (Nat.le_refl _) hbs _⟩
     ·have d1:decide (48<=ze s j b)=false:=decide_eq_false h1
      have HK2:Hid (zm s k b=j):=by
       show _=_
       rw [HNK.out,<- HF.out];rw [nmF,if_neg (by rw [hd];decide)]
      have HV2:Hid (zI s k b=v):=by
       show _=_
       rw [HNV.out,HK2.out];exact HV.out.symm
      cases hjp:((j:Int)==(p:Int)) with
      | true =>
       have HX2:Hid (zu s k b=true):=by
        show _=_
        rw [HNX.out,HK2.out,if_pos (by simp at hjp;omega)]
       go_wp2_with fail
       go_quiet (fail)
       go_wp2_with fail
       go_quiet (fail)
       go_wp2_with fail
       exact bodyPost_ret (v:=.agg #[J Z v,J Z p]) (by simp [results,Tryz.results161,go_sem,r0,r1]) rfl ⟨by rw [HPE.out,HV2.out],by rw [HK2.out,HX2.out];exact (((HP4.out.drewN _).bad true).setN (zH.set ⟨_,_,HR4.out⟩ _ _ _)).setN (zH.set (zH.set ⟨_,_,HR4.out⟩ _ _ _) _ _ _),(((HM4.out.drewN _).trans ((HP4.out.drewN _).setMv 2 _)).setNew (Nat.le_refl _) hbs _).setNew (Nat.le_refl _) hbs _⟩
      | false =>
       have HX2:Hid (zu s k b=b):=by
        show _=_
        rw [HNX.out,HK2.out,if_neg (by have:=beq_eq_false_iff_ne.1 hjp;omega)]
       go_wp2_with fail
       go_quiet (fail)
       go_wp2_with fail
       go_quiet (fail)
       go_wp2_with fail
       exact bodyPost_ret (v:=.agg #[J Z v,J Z p]) (by simp [results,Tryz.results161,go_sem,r0,r1]) rfl ⟨by rw [HPE.out,HV2.out],by rw [HK2.out,HX2.out];exact ((HP4.out.drewN _).setN ⟨_,_,HR4.out⟩).setN (zH.set ⟨_,_,HR4.out⟩ _ _ _),((HM4.out.drewN _).setNew (Nat.le_refl _) hbs _).setNew (Nat.le_refl _) hbs _⟩
end Go.Proofs.YtaebngpoagjafabGreat
