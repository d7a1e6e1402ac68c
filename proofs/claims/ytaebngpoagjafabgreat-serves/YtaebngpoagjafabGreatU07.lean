import Derived.Test.YtaebngpoagjafabGreatU05
import Derived.Test.YtaebngpoagjafabGreatU06
set_option maxRecDepth 100000
set_option maxHeartbeats 800000
namespace Go.Proofs.YtaebngpoagjafabGreat
open Obj renaming cells → O
open Value renaming int → J
open IntKind renaming i64 → Z
open Go.RowKit
attribute [local go_sem ↓] Go.wp_at_zero Go.wp_at_succ
theorem YA {w:World} {B:Nat} {a b u:Value} {t:TypeId} (h:w.heap[B]?=some (O #[a,b] t (0,0))):(w.setCell ⟨B,0,none⟩ u).heap[B]?=some (O #[u,b] t (0,0)):=by
 simp [World.setCell,Array.getElem?_modify,h]
def nmF (s:ByteArray) (b:Bool):Nat->Nat->Nat
 | 0,j=>j
 | n+1,j=>if T.dig (ze s j b)=true then nmF s b n (j+1) else j
def nmL (s:ByteArray) (p:Nat) (b:Bool):Nat:=if ze s p b=48 then 1 else 9
def nmE (s:ByteArray) (p:Nat) (b:Bool):Nat:=nmF s b (nmL s p b) p
def vl (s:ByteArray) (p:Nat):Nat->Int
 | 0=>0
 | i+1=>vl s p i*10+(T.ch s (p+i)-48)
def zo (s:ByteArray) (k:Nat) (b:Bool):Nat:=nmE s (zb s k b) b
def zw (s:ByteArray) (k:Nat) (b:Bool):Bool:=if zo s k b=zb s k b then true else b
def zJ (s:ByteArray) (k:Nat) (b:Bool):Int:=vl s (zb s k b) (zo s k b-zb s k b)
theorem Xs {s:ByteArray} {j:Nat} {b:Bool} (h:T.dig (ze s j b)=true):b=false/\j<s.size/\ze s j b=T.ch s j:=by
 unfold ze at h ⊢
 cases b with
 | true=>simp [T.dig] at h
 | false =>
  by_cases a:j<s.size
  ·exact ⟨rfl,a,by simp [a]⟩
  ·simp [a,T.dig] at h
theorem Q3 (s:ByteArray) (b:Bool):∀ n j,j<=s.size->j<=nmF s b n j/\nmF s b n j<=s.size:=by
 intro n
 induction n with
 | zero=>intro j h;exact ⟨Nat.le_refl _,h⟩
 | succ n ih =>
  intro j h
  simp only [nmF]
  split
  ·next hd=>have:=ih (j+1) (Xs hd).2.1;omega
  ·omega
theorem ya {s:ByteArray} {k:Nat} {b:Bool} (hk:k<=s.size):zo s k b<=s.size:=(Q3 s b _ _ (zM hk)).2
theorem Zg (base B:Nat) (s:ByteArray) (k:Nat) (b:Bool) (ev rv:Value) (es:List (EX×Value)) (rs:List RL) (w:World) (hs:s.size<=2000) (hk:k<=s.size) (h:PM w base B s k b ev rv es rs) :
 Calls Tryz.prog 161 #[.pointer (some ⟨B,0,none⟩)] w fun e w'=>e=.returned (.agg #[J Z (zJ s k b),J Z (zb s k b)])/\PM w' base B s (zo s k b) (zw s k b) ev rv es rs/\Mv base B ev rv ev rv w w':=by
 have H:Hid (PM (w.alloc (O #[J Z 0,J Z 0] 141)) base B s k b ev rv es rs):=h.alloc _
 have e1:Hid (Mv base B ev rv ev rv w (w.alloc (O #[J Z 0,J Z 0] 141))):=Mv.alloc h.bs _
 have F:=h.outNew
 have f:=h.bs
 clear h
 go_enter Tryz.func161,Tryz.ntmps161
 go_wp2_with fail
 refine (yj base B s k b ev rv es rs _ hs hk H.out).mono ?_
 rintro e q ⟨rfl,y,L⟩
 have b8:Hid (q.heap[w.heap.size]?=some (O #[J Z 0,J Z 0] 141 (0,0))):=(L.kept _ (by simp) F).1.trans (heap_alloc_new w _)
 have a0:zb s k b<=s.size:=zM hk
 have R:Hid (zo s k b=nmE s (zb s k b) b):=rfl
 have u:Hid (zw s k b=if zo s k b=zb s k b then true else b):=rfl
 have Q:Hid (zJ s k b=vl s (zb s k b) (zo s k b-zb s k b)):=rfl
 generalize hpe:zb s k b=p at *
 have r:Hid _:=hpe
 clear hpe
 have HP:Hid (PM (q.alloc (O #[J Z 0,J Z p] 141)) base B s p b ev rv es rs):=y.alloc _
 have HM:Hid (Mv base B ev rv ev rv w (q.alloc (O #[J Z 0,J Z p] 141))):=(e1.out.trans L).trans (Mv.alloc y.bs _)
 have z:=y.outNew
 have b4:w.heap.size<q.heap.size:=lt_of_block b8.out
 have d9:Hid ((q.alloc (O #[J Z 0,J Z p] 141)).heap[w.heap.size]?=some (O #[J Z 0,J Z 0] 141 (0,0))):=(Below.heap_alloc _ _ _ b4).trans b8.out
 have e0:Hid ((q.alloc (O #[J Z 0,J Z p] 141)).heap[q.heap.size]?=some (O #[J Z 0,J Z p] 141 (0,0))):=heap_alloc_new q _
 have c1:=y.c1
 have d8:=y.lt
 clear y L
 have e2:=fun w=>zbR p w
 go_wp2_with fail
 refine (Zz base B s p b ev rv es rs _ a0 HP.out).mono ?_
 rintro e w2 ⟨rfl,y,L⟩
 have b9:Hid _:=y
 have c6:Hid _:=HM.out.trans L
 have b7:Hid (w2.heap[w.heap.size]?=some (O #[J Z 0,J Z 0] 141 (0,0))):=(L.kept _ (by simp;omega) F).1.trans d9.out
 have c5:Hid (w2.heap[q.heap.size]?=some (O #[J Z 0,J Z p] 141 (0,0))):=(L.kept _ (by simp) z).1.trans e0.out
 clear y L c1 d8
 cases h48:(ze s p b==48) with
 | true =>
  have HL:Hid (nmL s p b=1):=by show _=_;unfold nmL;rw [if_pos (by simpa using h48)]
  go_wp2_with fail
  go_loopg [4] 1 (fun n x wr=>∃ (j:Nat) (v:Int),p<=j/\j<=s.size/\n+(j-p)=1/\x=J .u8 (ze s j b)/\Hid (nmF s b n j=nmE s p b)/\Hid (v=vl s p (j-p))/\Hid (0<=v/\v+1<=10 ^ (j-p))/\PM wr base B s j b ev rv es rs/\Mv base B ev rv ev rv w wr /\
   wr.heap[w.heap.size]?=some (O #[J Z 0,J Z 0] 141 (0,0))/\wr.heap[q.heap.size]?=some (O #[J Z v,J Z p] 141 (0,0)))
  case atStart=>exact ⟨p,0,Nat.le_refl _,a0,by omega,rfl,by show _=_;unfold nmE;rw [HL.out],by show _=_;rw [Nat.sub_self];rfl,⟨Int.le_refl _,by rw [Nat.sub_self];decide⟩,b9.out,c6.out,b7.out,c5.out⟩
  case round =>
   obtain ⟨j,v,c9,d4,hn,rfl,HF,Y,D,y,L,S,A⟩:=hrel
   have i:Hid _:=y
   have o:Hid _:=L
   have d:Hid _:=S
   have E:Hid _:=A
   have c1:=y.c1
   have c2:=y.c2
   have z1:=y.fz 1
   have z2:=y.fz 2
   have n0:wr.cell? ⟨q.heap.size,0,none⟩=some (J Z v):=by simp [World.cell?,A]
   have n1:wr.cell? ⟨q.heap.size,1,none⟩=some (J Z p):=by simp [World.cell?,A]
   have nz:∀ j,wr.frozen? ⟨q.heap.size,j,none⟩=false:=fun j=>by simp [World.frozen?,A]
   have I:wr.cell? ⟨w.heap.size,0,none⟩=some (J Z 0):=by simp [World.cell?,S]
   have G:wr.cell? ⟨w.heap.size,1,none⟩=some (J Z 0):=by simp [World.cell?,S]
   have rz:∀ j,wr.frozen? ⟨w.heap.size,j,none⟩=false:=fun j=>by simp [World.frozen?,S]
   have a2:w.heap.size≠B:=F.1
   have b5:B≠w.heap.size:=fun e=>F.1 e.symm
   have a4:q.heap.size≠B:=z.1
   have d0:B≠q.heap.size:=fun e=>z.1 e.symm
   have a3:w.heap.size≠q.heap.size:=by omega
   clear y L S A
   have d5:(j:Int)<=2000:=by omega
   cases gk with
   | zero =>
    have V:decide ((j:Int)-(p:Int)<1)=false:=decide_eq_false (by omega)
    have a:Hid (zo s k b=j):=by
     show _=_
     rw [R.out,<- HF.out];rfl
    have l:Hid (zJ s k b=v):=by
     show _=_
     rw [Q.out,a.out];exact Y.out.symm
    cases hjp:((j:Int)==(p:Int)) with
    | true =>
     have g:Hid (zw s k b=true):=by
      show _=_
      rw [u.out,a.out,if_pos (by simp at hjp;omega)]
     go_wp2_with fail
     go_quiet (fail)
     go_wp2_with fail
     go_quiet (fail)
     go_wp2_with fail
     exact bodyPost_ret (v:=.agg #[J Z v,J Z p]) (by simp [results,Tryz.results161,go_sem,I,G]) rfl ⟨by rw [r.out,l.out],by rw [a.out,g.out];exact (((i.out.drewN _).bad true).setN (zI.set ⟨_,_,d.out⟩ _ _ _)).setN (zI.set (zI.set ⟨_,_,d.out⟩ _ _ _) _ _ _),(((o.out.drewN _).trans ((i.out.drewN _).setMv 2 _)).setNew (Nat.le_refl _) f _).setNew (Nat.le_refl _) f _⟩
    | false =>
     have g:Hid (zw s k b=b):=by
      show _=_
      rw [u.out,a.out,if_neg (by have:=beq_eq_false_iff_ne.1 hjp;omega)]
     go_wp2_with fail
     go_quiet (fail)
     go_wp2_with fail
     go_quiet (fail)
     go_wp2_with fail
     exact bodyPost_ret (v:=.agg #[J Z v,J Z p]) (by simp [results,Tryz.results161,go_sem,I,G]) rfl ⟨by rw [r.out,l.out],by rw [a.out,g.out];exact ((i.out.drewN _).setN ⟨_,_,d.out⟩).setN (zI.set ⟨_,_,d.out⟩ _ _ _),((o.out.drewN _).setNew (Nat.le_refl _) f _).setNew (Nat.le_refl _) f _⟩
   | succ m =>
    have V:decide ((j:Int)-(p:Int)<1)=true:=decide_eq_true (by omega)
    have a7:(j:Int)-(p:Int)<1:=by omega
    cases hd:T.dig (ze s j b) with
    | true =>
     obtain ⟨rfl,d3,W⟩:=Xs hd
     have a8:48<=ze s j false/\ze s j false<=57:=by simpa [T.dig] using hd
     obtain ⟨d7,d6⟩:=a8
     have b3:Hid (nmF s false m (j+1)=nmE s p false):=by
      show _=_
      rw [<- HF.out,nmF,if_pos hd]
     have K:j+1-p=(j-p)+1:=by omega
     have a1:(10:Int) ^ (j-p)<=1000000000:=by
      have P:(10:Nat) ^ (j-p)<=10 ^ 9:=Nat.pow_le_pow_right (by omega) (by omega)
      have N:((10 ^ (j-p):Nat):Int)<=((10 ^ 9:Nat):Int):=Int.ofNat_le.2 P
      rw [Int.natCast_pow] at N
      exact N
     have c8:0<=v:=D.out.1
     have c7:v<1000000000:=by have:=D.out.2;omega
     have l:Hid (v*10+(ze s j false-48)=vl s p (j+1-p)):=by
      show _=_
      rw [K];simp only [vl]
      rw [<- Y.out,W,show p+(j-p)=j from by omega]
     have X:Hid (0<=v*10+(ze s j false-48)/\v*10+(ze s j false-48)+1<=10 ^ (j+1-p)):=by
      have P:=D.out
      show _/\_
      rw [K,Int.pow_succ]
      omega
     clear hd W HF Y D a1 K
     generalize ze s j false=x at *
     have b6:(x-48)%256=x-48:=by omega
     go_wp2_with fail
     go_quiet (fail)
     go_wp2_with fail
     have a5:w.heap.size<wr.heap.size:=lt_of_block d.out
     have a6:q.heap.size<wr.heap.size:=lt_of_block E.out
     refine (Zz base B s (j+1) false ev rv es rs _ (by omega) (((i.out.drewN _).setN ⟨_,_,E.out⟩).at (j+1) _ (by omega))).mono ?_
     rintro e w5 ⟨rfl,U,C⟩
     have b0:Hid _:=U
     have b2:Hid (Mv base B ev rv ev rv w w5):=(((o.out.drewN _).setNew (by omega) (by omega) _).trans (((i.out.drewN _).setN ⟨_,_,E.out⟩).setMv 1 _)).trans C
     have a9:Hid (w5.heap[w.heap.size]?=some (O #[J Z 0,J Z 0] 141 (0,0))):=(C.kept _ (by simp [World.size_setCell];exact a5) F).1.trans (by rw [za a2,za a3];exact d.out)
     have b1:Hid (w5.heap[q.heap.size]?=some (O #[J Z (v*10+(x-48)),J Z p] 141 (0,0))):=(C.kept _ (by simp [World.size_setCell];exact a6) z).1.trans (by rw [za a4];exact YA E.out)
     clear U C c1 c2 z1 z2 n0 n1 nz I G rz
     go_wp2_with fail
     go_roundg m
     case measure=>omega
     case rel=>exact ⟨j+1,_,by omega,by omega,by omega,rfl,b3,l,X,b0.out,b2.out,a9.out,b1.out⟩
    | false =>
     by_cases P:48<=ze s j b
     ·have N:¬ ze s j b<=57:=fun N=>by simp [T.dig,P,N] at hd
      have d1:decide (48<=ze s j b)=true:=decide_eq_true P
      have d2:decide (ze s j b<=57)=false:=decide_eq_false N
      have a:Hid (zo s k b=j):=by
       show _=_
       rw [R.out,<- HF.out];rw [nmF,if_neg (by rw [hd];decide)]
      have l:Hid (zJ s k b=v):=by
       show _=_
       rw [Q.out,a.out];exact Y.out.symm
      cases hjp:((j:Int)==(p:Int)) with
      | true =>
       have g:Hid (zw s k b=true):=by
        show _=_
        rw [u.out,a.out,if_pos (by simp at hjp;omega)]
       go_wp2_with fail
       go_quiet (fail)
       go_wp2_with fail
       go_quiet (fail)
       go_wp2_with fail
       exact bodyPost_ret (v:=.agg #[J Z v,J Z p]) (by simp [results,Tryz.results161,go_sem,I,G]) rfl ⟨by rw [r.out,l.out],by rw [a.out,g.out];exact (((i.out.drewN _).bad true).setN (zI.set ⟨_,_,d.out⟩ _ _ _)).setN (zI.set (zI.set ⟨_,_,d.out⟩ _ _ _) _ _ _),(((o.out.drewN _).trans ((i.out.drewN _).setMv 2 _)).setNew (Nat.le_refl _) f _).setNew (Nat.le_refl _) f _⟩
      | false =>
       have g:Hid (zw s k b=b):=by
        show _=_
        rw [u.out,a.out,if_neg (by have:=beq_eq_false_iff_ne.1 hjp;omega)]
       go_wp2_with fail
       go_quiet (fail)
       go_wp2_with fail
       go_quiet (fail)
       go_wp2_with fail
       exact bodyPost_ret (v:=.agg #[J Z v,J Z p]) (by simp [results,Tryz.results161,go_sem,I,G]) rfl ⟨by rw [r.out,l.out],by rw [a.out,g.out];exact ((i.out.drewN _).setN ⟨_,_,d.out⟩).setN (zI.set ⟨_,_,d.out⟩ _ _ _),((o.out.drewN _).setNew (Nat.le_refl _) f _).setNew (Nat.le_refl _) f _⟩
     ·have d1:decide (48<=ze s j b)=false:=decide_eq_false P
      have a:Hid (zo s k b=j):=by
       show _=_
       rw [R.out,<- HF.out];rw [nmF,if_neg (by rw [hd];decide)]
      have l:Hid (zJ s k b=v):=by
       show _=_
       rw [Q.out,a.out];exact Y.out.symm
      cases hjp:((j:Int)==(p:Int)) with
      | true =>
       have g:Hid (zw s k b=true):=by
        show _=_
        rw [u.out,a.out,if_pos (by simp at hjp;omega)]
       go_wp2_with fail
       go_quiet (fail)
       go_wp2_with fail
       go_quiet (fail)
       go_wp2_with fail
       exact bodyPost_ret (v:=.agg #[J Z v,J Z p]) (by simp [results,Tryz.results161,go_sem,I,G]) rfl ⟨by rw [r.out,l.out],by rw [a.out,g.out];exact (((i.out.drewN _).bad true).setN (zI.set ⟨_,_,d.out⟩ _ _ _)).setN (zI.set (zI.set ⟨_,_,d.out⟩ _ _ _) _ _ _),(((o.out.drewN _).trans ((i.out.drewN _).setMv 2 _)).setNew (Nat.le_refl _) f _).setNew (Nat.le_refl _) f _⟩
      | false =>
       have g:Hid (zw s k b=b):=by
        show _=_
        rw [u.out,a.out,if_neg (by have:=beq_eq_false_iff_ne.1 hjp;omega)]
       go_wp2_with fail
       go_quiet (fail)
       go_wp2_with fail
       go_quiet (fail)
       go_wp2_with fail
       exact bodyPost_ret (v:=.agg #[J Z v,J Z p]) (by simp [results,Tryz.results161,go_sem,I,G]) rfl ⟨by rw [r.out,l.out],by rw [a.out,g.out];exact ((i.out.drewN _).setN ⟨_,_,d.out⟩).setN (zI.set ⟨_,_,d.out⟩ _ _ _),((o.out.drewN _).setNew (Nat.le_refl _) f _).setNew (Nat.le_refl _) f _⟩
 | false =>
  have HL:Hid (nmL s p b=9):=by show _=_;unfold nmL;rw [if_neg (by simpa using h48)]
  go_wp2_with fail
  go_loopg [4] 9 (fun n x wr=>∃ (j:Nat) (v:Int),p<=j/\j<=s.size/\n+(j-p)=9/\x=J .u8 (ze s j b)/\Hid (nmF s b n j=nmE s p b)/\Hid (v=vl s p (j-p))/\Hid (0<=v/\v+1<=10 ^ (j-p))/\PM wr base B s j b ev rv es rs/\Mv base B ev rv ev rv w wr /\
   wr.heap[w.heap.size]?=some (O #[J Z 0,J Z 0] 141 (0,0))/\wr.heap[q.heap.size]?=some (O #[J Z v,J Z p] 141 (0,0)))
  case atStart=>exact ⟨p,0,Nat.le_refl _,a0,by omega,rfl,by show _=_;unfold nmE;rw [HL.out],by show _=_;rw [Nat.sub_self];rfl,⟨Int.le_refl _,by rw [Nat.sub_self];decide⟩,b9.out,c6.out,b7.out,c5.out⟩
  case round =>
   obtain ⟨j,v,c9,d4,hn,rfl,HF,Y,D,y,L,S,A⟩:=hrel
   have i:Hid _:=y
   have o:Hid _:=L
   have d:Hid _:=S
   have E:Hid _:=A
   have c1:=y.c1
   have c2:=y.c2
   have z1:=y.fz 1
   have z2:=y.fz 2
   have n0:wr.cell? ⟨q.heap.size,0,none⟩=some (J Z v):=by simp [World.cell?,A]
   have n1:wr.cell? ⟨q.heap.size,1,none⟩=some (J Z p):=by simp [World.cell?,A]
   have nz:∀ j,wr.frozen? ⟨q.heap.size,j,none⟩=false:=fun j=>by simp [World.frozen?,A]
   have I:wr.cell? ⟨w.heap.size,0,none⟩=some (J Z 0):=by simp [World.cell?,S]
   have G:wr.cell? ⟨w.heap.size,1,none⟩=some (J Z 0):=by simp [World.cell?,S]
   have rz:∀ j,wr.frozen? ⟨w.heap.size,j,none⟩=false:=fun j=>by simp [World.frozen?,S]
   have a2:w.heap.size≠B:=F.1
   have b5:B≠w.heap.size:=fun e=>F.1 e.symm
   have a4:q.heap.size≠B:=z.1
   have d0:B≠q.heap.size:=fun e=>z.1 e.symm
   have a3:w.heap.size≠q.heap.size:=by omega
   clear y L S A
   have d5:(j:Int)<=2000:=by omega
   cases gk with
   | zero =>
    have V:decide ((j:Int)-(p:Int)<9)=false:=decide_eq_false (by omega)
    have a:Hid (zo s k b=j):=by
     show _=_
     rw [R.out,<- HF.out];rfl
    have l:Hid (zJ s k b=v):=by
     show _=_
     rw [Q.out,a.out];exact Y.out.symm
    cases hjp:((j:Int)==(p:Int)) with
    | true =>
     have g:Hid (zw s k b=true):=by
      show _=_
      rw [u.out,a.out,if_pos (by simp at hjp;omega)]
     go_wp2_with fail
     go_quiet (fail)
     go_wp2_with fail
     go_quiet (fail)
     go_wp2_with fail
     exact bodyPost_ret (v:=.agg #[J Z v,J Z p]) (by simp [results,Tryz.results161,go_sem,I,G]) rfl ⟨by rw [r.out,l.out],by rw [a.out,g.out];exact (((i.out.drewN _).bad true).setN (zI.set ⟨_,_,d.out⟩ _ _ _)).setN (zI.set (zI.set ⟨_,_,d.out⟩ _ _ _) _ _ _),(((o.out.drewN _).trans ((i.out.drewN _).setMv 2 _)).setNew (Nat.le_refl _) f _).setNew (Nat.le_refl _) f _⟩
    | false =>
     have g:Hid (zw s k b=b):=by
      show _=_
      rw [u.out,a.out,if_neg (by have:=beq_eq_false_iff_ne.1 hjp;omega)]
     go_wp2_with fail
     go_quiet (fail)
     go_wp2_with fail
     go_quiet (fail)
     go_wp2_with fail
     exact bodyPost_ret (v:=.agg #[J Z v,J Z p]) (by simp [results,Tryz.results161,go_sem,I,G]) rfl ⟨by rw [r.out,l.out],by rw [a.out,g.out];exact ((i.out.drewN _).setN ⟨_,_,d.out⟩).setN (zI.set ⟨_,_,d.out⟩ _ _ _),((o.out.drewN _).setNew (Nat.le_refl _) f _).setNew (Nat.le_refl _) f _⟩
   | succ m =>
    have V:decide ((j:Int)-(p:Int)<9)=true:=decide_eq_true (by omega)
    have a7:(j:Int)-(p:Int)<9:=by omega
    cases hd:T.dig (ze s j b) with
    | true =>
     obtain ⟨rfl,d3,W⟩:=Xs hd
     have a8:48<=ze s j false/\ze s j false<=57:=by simpa [T.dig] using hd
     obtain ⟨d7,d6⟩:=a8
     have b3:Hid (nmF s false m (j+1)=nmE s p false):=by
      show _=_
      rw [<- HF.out,nmF,if_pos hd]
     have K:j+1-p=(j-p)+1:=by omega
     have a1:(10:Int) ^ (j-p)<=1000000000:=by
      have P:(10:Nat) ^ (j-p)<=10 ^ 9:=Nat.pow_le_pow_right (by omega) (by omega)
      have N:((10 ^ (j-p):Nat):Int)<=((10 ^ 9:Nat):Int):=Int.ofNat_le.2 P
      rw [Int.natCast_pow] at N
      exact N
     have c8:0<=v:=D.out.1
     have c7:v<1000000000:=by have:=D.out.2;omega
     have l:Hid (v*10+(ze s j false-48)=vl s p (j+1-p)):=by
      show _=_
      rw [K];simp only [vl]
      rw [<- Y.out,W,show p+(j-p)=j from by omega]
     have X:Hid (0<=v*10+(ze s j false-48)/\v*10+(ze s j false-48)+1<=10 ^ (j+1-p)):=by
      have P:=D.out
      show _/\_
      rw [K,Int.pow_succ]
      omega
     clear hd W HF Y D a1 K
     generalize ze s j false=x at *
     have b6:(x-48)%256=x-48:=by omega
     go_wp2_with fail
     go_quiet (fail)
     go_wp2_with fail
     have a5:w.heap.size<wr.heap.size:=lt_of_block d.out
     have a6:q.heap.size<wr.heap.size:=lt_of_block E.out
     refine (Zz base B s (j+1) false ev rv es rs _ (by omega) (((i.out.drewN _).setN ⟨_,_,E.out⟩).at (j+1) _ (by omega))).mono ?_
     rintro e w5 ⟨rfl,U,C⟩
     have b0:Hid _:=U
     have b2:Hid (Mv base B ev rv ev rv w w5):=(((o.out.drewN _).setNew (by omega) (by omega) _).trans (((i.out.drewN _).setN ⟨_,_,E.out⟩).setMv 1 _)).trans C
     have a9:Hid (w5.heap[w.heap.size]?=some (O #[J Z 0,J Z 0] 141 (0,0))):=(C.kept _ (by simp [World.size_setCell];exact a5) F).1.trans (by rw [za a2,za a3];exact d.out)
     have b1:Hid (w5.heap[q.heap.size]?=some (O #[J Z (v*10+(x-48)),J Z p] 141 (0,0))):=(C.kept _ (by simp [World.size_setCell];exact a6) z).1.trans (by rw [za a4];exact YA E.out)
     clear U C c1 c2 z1 z2 n0 n1 nz I G rz
     go_wp2_with fail
     go_roundg m
     case measure=>omega
     case rel=>exact ⟨j+1,_,by omega,by omega,by omega,rfl,b3,l,X,b0.out,b2.out,a9.out,b1.out⟩
    | false =>
     by_cases P:48<=ze s j b
     ·have N:¬ ze s j b<=57:=fun N=>by simp [T.dig,P,N] at hd
      have d1:decide (48<=ze s j b)=true:=decide_eq_true P
      have d2:decide (ze s j b<=57)=false:=decide_eq_false N
      have a:Hid (zo s k b=j):=by
       show _=_
       rw [R.out,<- HF.out];rw [nmF,if_neg (by rw [hd];decide)]
      have l:Hid (zJ s k b=v):=by
       show _=_
       rw [Q.out,a.out];exact Y.out.symm
      cases hjp:((j:Int)==(p:Int)) with
      | true =>
       have g:Hid (zw s k b=true):=by
        show _=_
        rw [u.out,a.out,if_pos (by simp at hjp;omega)]
       go_wp2_with fail
       go_quiet (fail)
       go_wp2_with fail
       go_quiet (fail)
       go_wp2_with fail
       exact bodyPost_ret (v:=.agg #[J Z v,J Z p]) (by simp [results,Tryz.results161,go_sem,I,G]) rfl ⟨by rw [r.out,l.out],by rw [a.out,g.out];exact (((i.out.drewN _).bad true).setN (zI.set ⟨_,_,d.out⟩ _ _ _)).setN (zI.set (zI.set ⟨_,_,d.out⟩ _ _ _) _ _ _),(((o.out.drewN _).trans ((i.out.drewN _).setMv 2 _)).setNew (Nat.le_refl _) f _).setNew (Nat.le_refl _) f _⟩
      | false =>
       have g:Hid (zw s k b=b):=by
        show _=_
        rw [u.out,a.out,if_neg (by have:=beq_eq_false_iff_ne.1 hjp;omega)]
       go_wp2_with fail
       go_quiet (fail)
       go_wp2_with fail
       go_quiet (fail)
       go_wp2_with fail
       exact bodyPost_ret (v:=.agg #[J Z v,J Z p]) (by simp [results,Tryz.results161,go_sem,I,G]) rfl ⟨by rw [r.out,l.out],by rw [a.out,g.out];exact ((i.out.drewN _).setN ⟨_,_,d.out⟩).setN (zI.set ⟨_,_,d.out⟩ _ _ _),((o.out.drewN _).setNew (Nat.le_refl _) f _).setNew (Nat.le_refl _) f _⟩
     ·have d1:decide (48<=ze s j b)=false:=decide_eq_false P
      have a:Hid (zo s k b=j):=by
       show _=_
       rw [R.out,<- HF.out];rw [nmF,if_neg (by rw [hd];decide)]
      have l:Hid (zJ s k b=v):=by
       show _=_
       rw [Q.out,a.out];exact Y.out.symm
      cases hjp:((j:Int)==(p:Int)) with
      | true =>
       have g:Hid (zw s k b=true):=by
        show _=_
        rw [u.out,a.out,if_pos (by simp at hjp;omega)]
       go_wp2_with fail
       go_quiet (fail)
       go_wp2_with fail
       go_quiet (fail)
       go_wp2_with fail
       exact bodyPost_ret (v:=.agg #[J Z v,J Z p]) (by simp [results,Tryz.results161,go_sem,I,G]) rfl ⟨by rw [r.out,l.out],by rw [a.out,g.out];exact (((i.out.drewN _).bad true).setN (zI.set ⟨_,_,d.out⟩ _ _ _)).setN (zI.set (zI.set ⟨_,_,d.out⟩ _ _ _) _ _ _),(((o.out.drewN _).trans ((i.out.drewN _).setMv 2 _)).setNew (Nat.le_refl _) f _).setNew (Nat.le_refl _) f _⟩
      | false =>
       have g:Hid (zw s k b=b):=by
        show _=_
        rw [u.out,a.out,if_neg (by have:=beq_eq_false_iff_ne.1 hjp;omega)]
       go_wp2_with fail
       go_quiet (fail)
       go_wp2_with fail
       go_quiet (fail)
       go_wp2_with fail
       exact bodyPost_ret (v:=.agg #[J Z v,J Z p]) (by simp [results,Tryz.results161,go_sem,I,G]) rfl ⟨by rw [r.out,l.out],by rw [a.out,g.out];exact ((i.out.drewN _).setN ⟨_,_,d.out⟩).setN (zI.set ⟨_,_,d.out⟩ _ _ _),((o.out.drewN _).setNew (Nat.le_refl _) f _).setNew (Nat.le_refl _) f _⟩
end Go.Proofs.YtaebngpoagjafabGreat
