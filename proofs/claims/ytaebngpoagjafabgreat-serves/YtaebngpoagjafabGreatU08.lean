import Derived.Test.YtaebngpoagjafabGreatU07
set_option maxRecDepth 100000
set_option maxHeartbeats 1600000
namespace Go.Proofs.YtaebngpoagjafabGreat
open Obj renaming cells → O
open Value renaming int → J
open IntKind renaming i64 → Z
open Go.RowKit
attribute [local go_sem ↓] Go.wp_at_zero Go.wp_at_succ
def bit (c:Int):Bool:=c==48 || c==49
def btF (s:ByteArray) (b:Bool):Nat->Nat->Nat
 | 0,j=>j
 | n+1,j=>if bit (ze s j b)=true then btF s b n (j+1) else j
def bv (s:ByteArray) (p:Nat):Nat->Int
 | 0=>0
 | i+1=>bv s p i*2+(T.ch s (p+i)-48)
def btK (s:ByteArray) (k:Nat) (b:Bool):Nat:=btF s b 32 (zb s k b)
def btL (s:ByteArray) (k:Nat) (b:Bool):Nat:=btK s k b-zb s k b
def btX (s:ByteArray) (k:Nat) (b:Bool):Bool:=if btK s k b=zb s k b then true else b
def btV (s:ByteArray) (k:Nat) (b:Bool):Int:=bv s (zb s k b) (btL s k b)*2 ^ (32-btL s k b)
theorem Qd {s:ByteArray} {j:Nat} {b:Bool} (h:bit (ze s j b)=true):b=false/\j<s.size/\ze s j b=T.ch s j:=by
 unfold ze at h ⊢
 cases b with
 | true=>simp [bit] at h
 | false =>
  by_cases a:j<s.size
  ·exact ⟨rfl,a,by simp [a]⟩
  ·simp [a,bit] at h
theorem XP (s:ByteArray) (b:Bool):∀ n j,j<=s.size->j<=btF s b n j/\btF s b n j<=s.size/\btF s b n j<=j+n:=by
 intro n
 induction n with
 | zero=>intro j h;exact ⟨Nat.le_refl _,h,Nat.le_refl _⟩
 | succ n ih =>
  intro j h
  simp only [btF]
  split
  ·next hd=>have:=ih (j+1) (Qd hd).2.1;omega
  ·omega
theorem xS {s:ByteArray} {k:Nat} {b:Bool} (hk:k<=s.size):btK s k b<=s.size:=(XP s b _ _ (zM hk)).2.1
theorem PM.setP {w:World} {base B s k b ev rv es rs} (h:PM w base B s k b ev rv es rs) {c j:Nat} {u:Value} (hT:zI w c 94):PM (w.setCell ⟨c,j,none⟩ u) base B s k b ev rv es rs:=h.setT hT (by decide) (by decide) (by decide) (by decide)
theorem QL {w:World} {B:Nat} {a b u:Value} {t:TypeId} (h:w.heap[B]?=some (O #[a,b] t (0,0))):(w.setCell ⟨B,1,none⟩ u).heap[B]?=some (O #[a,u] t (0,0)):=by
 simp [World.setCell,Array.getElem?_modify,h]
theorem zds (base B:Nat) (s:ByteArray) (k:Nat) (b:Bool) (ev rv:Value) (es:List (EX×Value)) (rs:List RL) (w:World) (hs:s.size<=2000) (hk:k<=s.size) (h:PM w base B s k b ev rv es rs) :
 Calls Tryz.prog 172 #[.pointer (some ⟨B,0,none⟩)] w fun e w'=>e=.returned (.agg #[J Z (btV s k b),J Z (btL s k b)])/\PM w' base B s (btK s k b) (btX s k b) ev rv es rs/\Mv base B ev rv ev rv w w':=by
 have H:Hid (PM (w.alloc (O #[J Z 0,J Z 0] 94)) base B s k b ev rv es rs):=h.alloc _
 have e5:Hid (Mv base B ev rv ev rv w (w.alloc (O #[J Z 0,J Z 0] 94))):=Mv.alloc h.bs _
 have Y:=h.outNew
 have I:=h.bs
 clear h
 go_enter Tryz.func172,Tryz.ntmps172
 go_wp2_with fail
 refine (yj base B s k b ev rv es rs _ hs hk H.out).mono ?_
 rintro e d ⟨rfl,o,q⟩
 have d5:Hid (d.heap[w.heap.size]?=some (O #[J Z 0,J Z 0] 94 (0,0))):=(q.kept _ (by simp) Y).1.trans (heap_alloc_new w _)
 have d0:zb s k b<=s.size:=zM hk
 have b2:Hid (btK s k b=btF s b 32 (zb s k b)):=rfl
 have a9:Hid (btX s k b=if btK s k b=zb s k b then true else b):=rfl
 have b1:Hid (btL s k b=btK s k b-zb s k b):=rfl
 have b0:Hid (btV s k b=bv s (zb s k b) (btL s k b)*2 ^ (32-btL s k b)):=rfl
 generalize hpe:zb s k b=p at *
 clear hpe
 have HP:Hid (PM (d.alloc (O #[J Z 0,J Z 0] 94)) base B s p b ev rv es rs):=o.alloc _
 have HM:Hid (Mv base B ev rv ev rv w (d.alloc (O #[J Z 0,J Z 0] 94))):=(e5.out.trans q).trans (Mv.alloc o.bs _)
 have G:=o.outNew
 have c9:w.heap.size<d.heap.size:=lt_of_block d5.out
 have e0:Hid ((d.alloc (O #[J Z 0,J Z 0] 94)).heap[w.heap.size]?=some (O #[J Z 0,J Z 0] 94 (0,0))):=(Below.heap_alloc _ _ _ c9).trans d5.out
 have e3:Hid ((d.alloc (O #[J Z 0,J Z 0] 94)).heap[d.heap.size]?=some (O #[J Z 0,J Z 0] 94 (0,0))):=heap_alloc_new d _
 clear o q
 go_wp2_with fail
 refine (Zz base B s p b ev rv es rs _ d0 HP.out).mono ?_
 rintro e w2 ⟨rfl,o,q⟩
 have e1:Hid _:=o
 have e4:Hid _:=HM.out.trans q
 have d9:Hid (w2.heap[w.heap.size]?=some (O #[J Z 0,J Z 0] 94 (0,0))):=(q.kept _ (by simp;omega) Y).1.trans e0.out
 have e2:Hid (w2.heap[d.heap.size]?=some (O #[J Z 0,J Z 0] 94 (0,0))):=(q.kept _ (by simp) G).1.trans e3.out
 clear o q
 have a7:w.heap.size≠B:=Y.1
 have e7:B≠w.heap.size:=fun e=>Y.1 e.symm
 have a8:d.heap.size≠B:=G.1
 have f5:B≠d.heap.size:=fun e=>G.1 e.symm
 have a0:w.heap.size≠d.heap.size:=by omega
 go_wp2_with fail
 go_loopg [4] 32 (fun m x wr=>∃ (j n:Nat) (v:Int),p+n=j/\j<=s.size/\m+n=32/\x=J .u8 (ze s j b)/\Hid (btF s b m j=btF s b 32 p)/\Hid (bv s p (j-p)=v)/\Hid (0<=v/\v+1<=2 ^ n)/\PM wr base B s j b ev rv es rs/\Mv base B ev rv ev rv w wr /\
  wr.heap[w.heap.size]?=some (O #[J Z 0,J Z 0] 94 (0,0))/\wr.heap[d.heap.size]?=some (O #[J Z v,J Z n] 94 (0,0)))
 case atStart=>exact ⟨p,0,0,by omega,d0,by omega,rfl,rfl,by show _=_;rw [Nat.sub_self];rfl,⟨Int.le_refl _,by decide⟩,e1.out,e4.out,d9.out,e2.out⟩
 case round =>
  obtain ⟨j,n,v,f4,f6,hn,rfl,HF,HV,K,o,q,g,a⟩:=hrel
  have A:Hid _:=o
  have a2:Hid _:=q
  have z:Hid _:=g
  have f:Hid _:=a
  have c1:=o.c1
  have c2:=o.c2
  have z1:=o.fz 1
  have z2:=o.fz 2
  have n0:wr.cell? ⟨d.heap.size,0,none⟩=some (J Z v):=by simp [World.cell?,a]
  have n1:wr.cell? ⟨d.heap.size,1,none⟩=some (J Z n):=by simp [World.cell?,a]
  have nz:∀ j,wr.frozen? ⟨d.heap.size,j,none⟩=false:=fun j=>by simp [World.frozen?,a]
  have X:wr.cell? ⟨w.heap.size,0,none⟩=some (J Z 0):=by simp [World.cell?,g]
  have W:wr.cell? ⟨w.heap.size,1,none⟩=some (J Z 0):=by simp [World.cell?,g]
  have rz:∀ j,wr.frozen? ⟨w.heap.size,j,none⟩=false:=fun j=>by simp [World.frozen?,g]
  clear o q g a
  have f7:(j:Int)<=2000:=by omega
  cases gk with
  | zero =>
   have e9:decide ((n:Int)<32)=false:=decide_eq_false (by omega)
   have y:Hid (btK s k b=j):=by
    show _=_
    rw [b2.out,<- HF.out];rfl
   have V:Hid (btL s k b=n):=by
    show _=_
    rw [b1.out,y.out];omega
   have a6:Hid (btV s k b=v*2 ^ (32-n)):=by
    show _=_
    rw [b0.out,V.out,<- HV.out,show j-p=n from by omega]
   clear b2 b1 b0 HF HV
   have a4:w.heap.size<wr.heap.size:=lt_of_block z.out
   have a5:d.heap.size<wr.heap.size:=lt_of_block f.out
   cases hjp:((n:Int)==0) with
   | true =>
    have N:Hid (btX s k b=true):=by
     show _=_
     rw [a9.out,y.out,if_pos (by simp at hjp;omega)]
    go_wp2_with fail
    have Q:Hid (PM (wr.setCell ⟨B,2,none⟩ (.bool true)) base B s j true ev rv es rs):=A.out.bad true
    have U:Hid (Mv base B ev rv ev rv w (wr.setCell ⟨B,2,none⟩ (.bool true))):=a2.out.trans (A.out.setMv 2 _)
    have P:Hid ((wr.setCell ⟨B,2,none⟩ (.bool true)).heap[w.heap.size]?=some (O #[J Z 0,J Z 0] 94 (0,0))):=by show _=_;rw [za a7];exact z.out
    have S:Hid ((wr.setCell ⟨B,2,none⟩ (.bool true)).heap[d.heap.size]?=some (O #[J Z v,J Z n] 94 (0,0))):=by show _=_;rw [za a8];exact f.out
    clear c1 c2 z1 z2 n0 n1 nz X W rz
    go_loopg [5] (32-n) (fun m x wr=>∃ (i:Nat) (u:Int),n<=i/\i<=32/\m+i=32/\x=J Z i/\Hid (u=v*2 ^ (i-n))/\PM wr base B s j true ev rv es rs/\Mv base B ev rv ev rv w wr /\
     wr.heap[w.heap.size]?=some (O #[J Z 0,J Z 0] 94 (0,0))/\wr.heap[d.heap.size]?=some (O #[J Z u,J Z n] 94 (0,0)))
    case atStart=>exact ⟨n,v,Nat.le_refl _,by omega,by omega,by go_num,by show _=_;rw [Nat.sub_self];simp,Q.out,U.out,P.out,S.out⟩
    case round =>
     obtain ⟨i,u,b6,r,b7,rfl,D,o,q,g,a⟩:=hrel
     have E:Hid _:=o
     have F:Hid _:=q
     have l:Hid _:=g
     have R:Hid _:=a
     have n0:wr.cell? ⟨d.heap.size,0,none⟩=some (J Z u):=by simp [World.cell?,a]
     have n1:wr.cell? ⟨d.heap.size,1,none⟩=some (J Z n):=by simp [World.cell?,a]
     have nz:∀ j,wr.frozen? ⟨d.heap.size,j,none⟩=false:=fun j=>by simp [World.frozen?,a]
     have X:wr.cell? ⟨w.heap.size,0,none⟩=some (J Z 0):=by simp [World.cell?,g]
     have W:wr.cell? ⟨w.heap.size,1,none⟩=some (J Z 0):=by simp [World.cell?,g]
     have rz:∀ j,wr.frozen? ⟨w.heap.size,j,none⟩=false:=fun j=>by simp [World.frozen?,g]
     clear o q g a
     have L:0<=u/\u<=4294967296:=by
      rw [D.out]
      have h1:=K.out
      have h2:(2:Int) ^ n*2 ^ (i-n)=2 ^ i:=by rw [<- Int.pow_add];congr 1;omega
      have h3:(2:Int) ^ i<=4294967296:=by
       have h4:(2:Nat) ^ i<=2 ^ 32:=Nat.pow_le_pow_right (by omega) r
       have h5:((2 ^ i:Nat):Int)<=((2 ^ 32:Nat):Int):=Int.ofNat_le.2 h4
       rw [Int.natCast_pow] at h5
       exact h5
      have h6:(0:Int)<=2 ^ (i-n):=Int.le_of_lt (Int.pow_pos (by omega))
      refine ⟨Int.mul_nonneg h1.1 h6,?_⟩
      have h7:v*2 ^ (i-n)<=2 ^ n*2 ^ (i-n):=Int.mul_le_mul_of_nonneg_right (by omega) h6
      omega
     obtain ⟨b5,b4⟩:=L
     by_cases a1:i<32
     ·exact absurd a1 (by omega)
     ·have hd:decide ((i:Int)<32)=false:=decide_eq_false (by omega)
      have hi:i=32:=by omega
      have HE:Hid (btV s k b=u):=by show _=_;rw [a6.out,D.out,hi]
      clear D
      go_wp2_with fail
      exact bodyPost_ret (v:=.agg #[J Z u,J Z n]) (by simp [results,Tryz.results172,go_sem,X,W]) rfl ⟨by rw [V.out,HE.out],by rw [y.out,N.out];exact (E.out.setP ⟨_,_,l.out⟩).setP (zI.set ⟨_,_,l.out⟩ _ _ _),(F.out.setNew (Nat.le_refl _) I _).setNew (Nat.le_refl _) I _⟩
   | false =>
    have N:Hid (btX s k b=b):=by
     show _=_
     rw [a9.out,y.out,if_neg (by have:=beq_eq_false_iff_ne.1 hjp;omega)]
    go_wp2_with fail
    have Q:Hid _:=A.out
    have U:Hid _:=a2.out
    have P:Hid _:=z.out
    have S:Hid _:=f.out
    clear c1 c2 z1 z2 n0 n1 nz X W rz
    go_loopg [5] (32-n) (fun m x wr=>∃ (i:Nat) (u:Int),n<=i/\i<=32/\m+i=32/\x=J Z i/\Hid (u=v*2 ^ (i-n))/\PM wr base B s j b ev rv es rs/\Mv base B ev rv ev rv w wr /\
     wr.heap[w.heap.size]?=some (O #[J Z 0,J Z 0] 94 (0,0))/\wr.heap[d.heap.size]?=some (O #[J Z u,J Z n] 94 (0,0)))
    case atStart=>exact ⟨n,v,Nat.le_refl _,by omega,by omega,by go_num,by show _=_;rw [Nat.sub_self];simp,Q.out,U.out,P.out,S.out⟩
    case round =>
     obtain ⟨i,u,b6,r,b7,rfl,D,o,q,g,a⟩:=hrel
     have E:Hid _:=o
     have F:Hid _:=q
     have l:Hid _:=g
     have R:Hid _:=a
     have n0:wr.cell? ⟨d.heap.size,0,none⟩=some (J Z u):=by simp [World.cell?,a]
     have n1:wr.cell? ⟨d.heap.size,1,none⟩=some (J Z n):=by simp [World.cell?,a]
     have nz:∀ j,wr.frozen? ⟨d.heap.size,j,none⟩=false:=fun j=>by simp [World.frozen?,a]
     have X:wr.cell? ⟨w.heap.size,0,none⟩=some (J Z 0):=by simp [World.cell?,g]
     have W:wr.cell? ⟨w.heap.size,1,none⟩=some (J Z 0):=by simp [World.cell?,g]
     have rz:∀ j,wr.frozen? ⟨w.heap.size,j,none⟩=false:=fun j=>by simp [World.frozen?,g]
     clear o q g a
     have L:0<=u/\u<=4294967296:=by
      rw [D.out]
      have h1:=K.out
      have h2:(2:Int) ^ n*2 ^ (i-n)=2 ^ i:=by rw [<- Int.pow_add];congr 1;omega
      have h3:(2:Int) ^ i<=4294967296:=by
       have h4:(2:Nat) ^ i<=2 ^ 32:=Nat.pow_le_pow_right (by omega) r
       have h5:((2 ^ i:Nat):Int)<=((2 ^ 32:Nat):Int):=Int.ofNat_le.2 h4
       rw [Int.natCast_pow] at h5
       exact h5
      have h6:(0:Int)<=2 ^ (i-n):=Int.le_of_lt (Int.pow_pos (by omega))
      refine ⟨Int.mul_nonneg h1.1 h6,?_⟩
      have h7:v*2 ^ (i-n)<=2 ^ n*2 ^ (i-n):=Int.mul_le_mul_of_nonneg_right (by omega) h6
      omega
     obtain ⟨b5,b4⟩:=L
     by_cases a1:i<32
     ·exact absurd a1 (by omega)
     ·have hd:decide ((i:Int)<32)=false:=decide_eq_false (by omega)
      have hi:i=32:=by omega
      have HE:Hid (btV s k b=u):=by show _=_;rw [a6.out,D.out,hi]
      clear D
      go_wp2_with fail
      exact bodyPost_ret (v:=.agg #[J Z u,J Z n]) (by simp [results,Tryz.results172,go_sem,X,W]) rfl ⟨by rw [V.out,HE.out],by rw [y.out,N.out];exact (E.out.setP ⟨_,_,l.out⟩).setP (zI.set ⟨_,_,l.out⟩ _ _ _),(F.out.setNew (Nat.le_refl _) I _).setNew (Nat.le_refl _) I _⟩
  | succ m =>
   have d8:(n:Int)<32:=by omega
   cases hd:bit (ze s j b) with
   | true =>
    obtain ⟨rfl,a1,d2⟩:=Qd hd
    have b8:ze s j false=48\/ze s j false=49:=by simpa [bit] using hd
    have d6:Hid (btF s false m (j+1)=btF s false 32 p):=by
     show _=_
     rw [<- HF.out,btF,if_pos hd]
    have d7:(2:Int) ^ n<=4294967296:=by
     have h1:(2:Nat) ^ n<=2 ^ 32:=Nat.pow_le_pow_right (by omega) (by omega)
     have h2:((2 ^ n:Nat):Int)<=((2 ^ 32:Nat):Int):=Int.ofNat_le.2 h1
     rw [Int.natCast_pow] at h2
     exact h2
    have f3:0<=v:=K.out.1
    have f2:v<4294967296:=by have:=K.out.2;omega
    have d4:Hid (bv s p (j+1-p)=v*2+(ze s j false-48)):=by
     show _=_
     rw [show j+1-p=(j-p)+1 from by omega];simp only [bv]
     rw [HV.out,d2,show p+(j-p)=j from by omega]
    have b3:Hid (0<=v*2+(ze s j false-48)/\v*2+(ze s j false-48)+1<=2 ^ (n+1)):=by
     have h1:=K.out
     show _/\_
     rw [Int.pow_succ]
     omega
    have f1:48<=ze s j false:=by omega
    have f0:ze s j false<=49:=by omega
    clear hd d2 HF HV K d7
    generalize ze s j false=x at *
    have e8:(x-48)%256=x-48:=by omega
    cases hx48:(x==48) with
    | true =>
     clear b8
     go_wp2_with fail
     have a4:w.heap.size<wr.heap.size:=lt_of_block z.out
     have a5:d.heap.size<wr.heap.size:=lt_of_block f.out
     refine (Zz base B s (j+1) false ev rv es rs _ (by omega) (((A.out.setP ⟨_,_,f.out⟩).setP (zI.set ⟨_,_,f.out⟩ _ _ _)).at (j+1) _ (by omega))).mono ?_
     rintro e w5 ⟨rfl,a3,C⟩
     have c6:Hid _:=a3
     have c8:Hid (Mv base B ev rv ev rv w w5):=(((a2.out.setNew (by omega) (by omega) _).setNew (by omega) (by omega) _).trans (((A.out.setP ⟨_,_,f.out⟩).setP (zI.set ⟨_,_,f.out⟩ _ _ _)).setMv 1 _)).trans C
     have c5:Hid (w5.heap[w.heap.size]?=some (O #[J Z 0,J Z 0] 94 (0,0))):=(C.kept _ (by simp [World.size_setCell];exact a4) Y).1.trans (by rw [za a7,za a0,za a0];exact z.out)
     have c7:Hid (w5.heap[d.heap.size]?=some (O #[J Z (v*2+(x-48)),J Z ((n:Int)+1)] 94 (0,0))):=(C.kept _ (by simp [World.size_setCell];exact a5) G).1.trans (by rw [za a8];exact QL (YA f.out))
     clear a3 C c1 c2 z1 z2 n0 n1 nz X W rz
     go_wp2_with fail
     go_roundg m
     case measure=>omega
     case rel=>exact ⟨j+1,n+1,_,by omega,by omega,by omega,rfl,d6,d4,b3,c6.out,c8.out,c5.out,c7.out⟩
    | false =>
     have e6:(x==49)=true:=by rcases b8 with h | h<;>simp [h] at hx48 ⊢
     clear b8
     go_wp2_with fail
     have a4:w.heap.size<wr.heap.size:=lt_of_block z.out
     have a5:d.heap.size<wr.heap.size:=lt_of_block f.out
     refine (Zz base B s (j+1) false ev rv es rs _ (by omega) (((A.out.setP ⟨_,_,f.out⟩).setP (zI.set ⟨_,_,f.out⟩ _ _ _)).at (j+1) _ (by omega))).mono ?_
     rintro e w5 ⟨rfl,a3,C⟩
     have c6:Hid _:=a3
     have c8:Hid (Mv base B ev rv ev rv w w5):=(((a2.out.setNew (by omega) (by omega) _).setNew (by omega) (by omega) _).trans (((A.out.setP ⟨_,_,f.out⟩).setP (zI.set ⟨_,_,f.out⟩ _ _ _)).setMv 1 _)).trans C
     have c5:Hid (w5.heap[w.heap.size]?=some (O #[J Z 0,J Z 0] 94 (0,0))):=(C.kept _ (by simp [World.size_setCell];exact a4) Y).1.trans (by rw [za a7,za a0,za a0];exact z.out)
     have c7:Hid (w5.heap[d.heap.size]?=some (O #[J Z (v*2+(x-48)),J Z ((n:Int)+1)] 94 (0,0))):=(C.kept _ (by simp [World.size_setCell];exact a5) G).1.trans (by rw [za a8];exact QL (YA f.out))
     clear a3 C c1 c2 z1 z2 n0 n1 nz X W rz
     go_wp2_with fail
     go_roundg m
     case measure=>omega
     case rel=>exact ⟨j+1,n+1,_,by omega,by omega,by omega,rfl,d6,d4,b3,c6.out,c8.out,c5.out,c7.out⟩
   | false =>
    have d3:(ze s j b==48)=false/\(ze s j b==49)=false:=by simpa [bit] using hd
    obtain ⟨f9,f8⟩:=d3
    have y:Hid (btK s k b=j):=by
     show _=_
     rw [b2.out,<- HF.out];rw [btF,if_neg (by rw [hd];decide)]
    have V:Hid (btL s k b=n):=by
     show _=_
     rw [b1.out,y.out];omega
    have a6:Hid (btV s k b=v*2 ^ (32-n)):=by
     show _=_
     rw [b0.out,V.out,<- HV.out,show j-p=n from by omega]
    clear b2 b1 b0 HF HV
    have a4:w.heap.size<wr.heap.size:=lt_of_block z.out
    have a5:d.heap.size<wr.heap.size:=lt_of_block f.out
    cases hjp:((n:Int)==0) with
    | true =>
     have N:Hid (btX s k b=true):=by
      show _=_
      rw [a9.out,y.out,if_pos (by simp at hjp;omega)]
     go_wp2_with fail
     have Q:Hid (PM (wr.setCell ⟨B,2,none⟩ (.bool true)) base B s j true ev rv es rs):=A.out.bad true
     have U:Hid (Mv base B ev rv ev rv w (wr.setCell ⟨B,2,none⟩ (.bool true))):=a2.out.trans (A.out.setMv 2 _)
     have P:Hid ((wr.setCell ⟨B,2,none⟩ (.bool true)).heap[w.heap.size]?=some (O #[J Z 0,J Z 0] 94 (0,0))):=by show _=_;rw [za a7];exact z.out
     have S:Hid ((wr.setCell ⟨B,2,none⟩ (.bool true)).heap[d.heap.size]?=some (O #[J Z v,J Z n] 94 (0,0))):=by show _=_;rw [za a8];exact f.out
     clear c1 c2 z1 z2 n0 n1 nz X W rz
     go_loopg [5] (32-n) (fun m x wr=>∃ (i:Nat) (u:Int),n<=i/\i<=32/\m+i=32/\x=J Z i/\Hid (u=v*2 ^ (i-n))/\PM wr base B s j true ev rv es rs/\Mv base B ev rv ev rv w wr /\
      wr.heap[w.heap.size]?=some (O #[J Z 0,J Z 0] 94 (0,0))/\wr.heap[d.heap.size]?=some (O #[J Z u,J Z n] 94 (0,0)))
     case atStart=>exact ⟨n,v,Nat.le_refl _,by omega,by omega,by go_num,by show _=_;rw [Nat.sub_self];simp,Q.out,U.out,P.out,S.out⟩
     case round =>
      obtain ⟨i,u,b6,r,b7,rfl,D,o,q,g,a⟩:=hrel
      have E:Hid _:=o
      have F:Hid _:=q
      have l:Hid _:=g
      have R:Hid _:=a
      have n0:wr.cell? ⟨d.heap.size,0,none⟩=some (J Z u):=by simp [World.cell?,a]
      have n1:wr.cell? ⟨d.heap.size,1,none⟩=some (J Z n):=by simp [World.cell?,a]
      have nz:∀ j,wr.frozen? ⟨d.heap.size,j,none⟩=false:=fun j=>by simp [World.frozen?,a]
      have X:wr.cell? ⟨w.heap.size,0,none⟩=some (J Z 0):=by simp [World.cell?,g]
      have W:wr.cell? ⟨w.heap.size,1,none⟩=some (J Z 0):=by simp [World.cell?,g]
      have rz:∀ j,wr.frozen? ⟨w.heap.size,j,none⟩=false:=fun j=>by simp [World.frozen?,g]
      clear o q g a
      have L:0<=u/\u<=4294967296:=by
       rw [D.out]
       have h1:=K.out
       have h2:(2:Int) ^ n*2 ^ (i-n)=2 ^ i:=by rw [<- Int.pow_add];congr 1;omega
       have h3:(2:Int) ^ i<=4294967296:=by
        have h4:(2:Nat) ^ i<=2 ^ 32:=Nat.pow_le_pow_right (by omega) r
        have h5:((2 ^ i:Nat):Int)<=((2 ^ 32:Nat):Int):=Int.ofNat_le.2 h4
        rw [Int.natCast_pow] at h5
        exact h5
       have h6:(0:Int)<=2 ^ (i-n):=Int.le_of_lt (Int.pow_pos (by omega))
       refine ⟨Int.mul_nonneg h1.1 h6,?_⟩
       have h7:v*2 ^ (i-n)<=2 ^ n*2 ^ (i-n):=Int.mul_le_mul_of_nonneg_right (by omega) h6
       omega
      obtain ⟨b5,b4⟩:=L
      by_cases a1:i<32
      ·have d1:(i:Int)<32:=by omega
       have b9:Hid (u*2=v*2 ^ (i+1-n)):=by
        show _=_
        rw [D.out,show i+1-n=(i-n)+1 from by omega,Int.pow_succ,Int.mul_assoc]
       clear D
       go_wp2_with fail
       go_roundg (32-(i+1))
       case measure=>omega
       case rel=>exact ⟨i+1,u*2,by omega,by omega,by omega,by go_num,b9,E.out.setP ⟨_,_,R.out⟩,F.out.setNew (by omega) (by omega) _,by rw [za a0];exact l.out,YA R.out⟩
      ·have hd:decide ((i:Int)<32)=false:=decide_eq_false (by omega)
       have hi:i=32:=by omega
       have HE:Hid (btV s k b=u):=by show _=_;rw [a6.out,D.out,hi]
       clear D
       go_wp2_with fail
       exact bodyPost_ret (v:=.agg #[J Z u,J Z n]) (by simp [results,Tryz.results172,go_sem,X,W]) rfl ⟨by rw [V.out,HE.out],by rw [y.out,N.out];exact (E.out.setP ⟨_,_,l.out⟩).setP (zI.set ⟨_,_,l.out⟩ _ _ _),(F.out.setNew (Nat.le_refl _) I _).setNew (Nat.le_refl _) I _⟩
    | false =>
     have N:Hid (btX s k b=b):=by
      show _=_
      rw [a9.out,y.out,if_neg (by have:=beq_eq_false_iff_ne.1 hjp;omega)]
     go_wp2_with fail
     have Q:Hid _:=A.out
     have U:Hid _:=a2.out
     have P:Hid _:=z.out
     have S:Hid _:=f.out
     clear c1 c2 z1 z2 n0 n1 nz X W rz
     go_loopg [5] (32-n) (fun m x wr=>∃ (i:Nat) (u:Int),n<=i/\i<=32/\m+i=32/\x=J Z i/\Hid (u=v*2 ^ (i-n))/\PM wr base B s j b ev rv es rs/\Mv base B ev rv ev rv w wr /\
      wr.heap[w.heap.size]?=some (O #[J Z 0,J Z 0] 94 (0,0))/\wr.heap[d.heap.size]?=some (O #[J Z u,J Z n] 94 (0,0)))
     case atStart=>exact ⟨n,v,Nat.le_refl _,by omega,by omega,by go_num,by show _=_;rw [Nat.sub_self];simp,Q.out,U.out,P.out,S.out⟩
     case round =>
      obtain ⟨i,u,b6,r,b7,rfl,D,o,q,g,a⟩:=hrel
      have E:Hid _:=o
      have F:Hid _:=q
      have l:Hid _:=g
      have R:Hid _:=a
      have n0:wr.cell? ⟨d.heap.size,0,none⟩=some (J Z u):=by simp [World.cell?,a]
      have n1:wr.cell? ⟨d.heap.size,1,none⟩=some (J Z n):=by simp [World.cell?,a]
      have nz:∀ j,wr.frozen? ⟨d.heap.size,j,none⟩=false:=fun j=>by simp [World.frozen?,a]
      have X:wr.cell? ⟨w.heap.size,0,none⟩=some (J Z 0):=by simp [World.cell?,g]
      have W:wr.cell? ⟨w.heap.size,1,none⟩=some (J Z 0):=by simp [World.cell?,g]
      have rz:∀ j,wr.frozen? ⟨w.heap.size,j,none⟩=false:=fun j=>by simp [World.frozen?,g]
      clear o q g a
      have L:0<=u/\u<=4294967296:=by
       rw [D.out]
       have h1:=K.out
       have h2:(2:Int) ^ n*2 ^ (i-n)=2 ^ i:=by rw [<- Int.pow_add];congr 1;omega
       have h3:(2:Int) ^ i<=4294967296:=by
        have h4:(2:Nat) ^ i<=2 ^ 32:=Nat.pow_le_pow_right (by omega) r
        have h5:((2 ^ i:Nat):Int)<=((2 ^ 32:Nat):Int):=Int.ofNat_le.2 h4
        rw [Int.natCast_pow] at h5
        exact h5
       have h6:(0:Int)<=2 ^ (i-n):=Int.le_of_lt (Int.pow_pos (by omega))
       refine ⟨Int.mul_nonneg h1.1 h6,?_⟩
       have h7:v*2 ^ (i-n)<=2 ^ n*2 ^ (i-n):=Int.mul_le_mul_of_nonneg_right (by omega) h6
       omega
      obtain ⟨b5,b4⟩:=L
      by_cases a1:i<32
      ·have d1:(i:Int)<32:=by omega
       have b9:Hid (u*2=v*2 ^ (i+1-n)):=by
        show _=_
        rw [D.out,show i+1-n=(i-n)+1 from by omega,Int.pow_succ,Int.mul_assoc]
       clear D
       go_wp2_with fail
       go_roundg (32-(i+1))
       case measure=>omega
       case rel=>exact ⟨i+1,u*2,by omega,by omega,by omega,by go_num,b9,E.out.setP ⟨_,_,R.out⟩,F.out.setNew (by omega) (by omega) _,by rw [za a0];exact l.out,YA R.out⟩
      ·have hd:decide ((i:Int)<32)=false:=decide_eq_false (by omega)
       have hi:i=32:=by omega
       have HE:Hid (btV s k b=u):=by show _=_;rw [a6.out,D.out,hi]
       clear D
       go_wp2_with fail
       exact bodyPost_ret (v:=.agg #[J Z u,J Z n]) (by simp [results,Tryz.results172,go_sem,X,W]) rfl ⟨by rw [V.out,HE.out],by rw [y.out,N.out];exact (E.out.setP ⟨_,_,l.out⟩).setP (zI.set ⟨_,_,l.out⟩ _ _ _),(F.out.setNew (Nat.le_refl _) I _).setNew (Nat.le_refl _) I _⟩
structure CR where
 idx:Int
 es:List EX
 k:Nat
 b:Bool
structure CI where
 im:IM
 es:List EX
 k:Nat
 b:Bool
def zv (ex:Int->Nat->Nat->Bool->CR) (s:ByteArray) (kind d:Int) (m k:Nat) (b:Bool):CI :=
 let p:=zb s k b
 if kind=109 then
  let r:=ex (d+1) m (zc s 58 (btK s p b) (btX s p b)) (zj s 58 (btK s p b) (btX s p b))
  ⟨⟨p,0,btV s p b,btL s p b,0,0,r.idx⟩,r.es,r.k,r.b⟩
 else if kind=103 then
  let r:=ex (d+1) m (zc s 58 (zo s p b) (zw s p b)) (zj s 58 (zo s p b) (zw s p b))
  ⟨⟨p,zJ s p b,0,0,0,0,r.idx⟩,r.es,r.k,r.b⟩
 else if kind=119 then
  let k2:=zc s 42 (zo s p b) (zw s p b)
  let b2:=zj s 42 (zo s p b) (zw s p b)
  ⟨⟨p,zJ s p b,0,0,zJ s k2 b2,zb s k2 b2,-1⟩,[],zo s k2 b2,zw s k2 b2⟩
 else ⟨⟨p,zJ s p b,0,0,0,0,-1⟩,[],zo s p b,zw s p b⟩
theorem yg (s:ByteArray) (k:Nat) (b:Bool):k<=zb s k b:=by
 unfold zb;split
 ·exact Nat.le_refl _
 ·exact T.sk_ge s k
theorem zi (s:ByteArray) (c:Int) (k:Nat) (b:Bool):k<=zc s c k b:=by
 unfold zc
 have:=yg s k b
 split<;>omega
theorem z5 {s:ByteArray} {k:Nat} {b:Bool} (hk:k<=s.size):k<=zo s k b:=Nat.le_trans (yg s k b) (Q3 s b _ _ (zM hk)).1
theorem xT {s:ByteArray} {k:Nat} {b:Bool} (hk:k<=s.size):k<=btK s k b:=Nat.le_trans (yg s k b) (XP s b _ _ (zM hk)).1
theorem XA {s:ByteArray} {c:Int} {k:Nat} {b:Bool} (h:b=true):zj s c k b=true:=by
 subst h;unfold zj;split<;>rfl
theorem qM {s:ByteArray} {k:Nat} {b:Bool} (h:b=true):zw s k b=true:=by
 subst h;unfold zw;split<;>rfl
theorem jm {s:ByteArray} {k:Nat} {b:Bool} (h:b=true):btX s k b=true:=by
 subst h;unfold btX;split<;>rfl
def Y9 (ex:Int->Nat->Nat->Bool->CR) (s:ByteArray) (base B:Nat) (rs:List RL) (n:Nat):Prop :=
 ∀ (d:Int) (k:Nat) (b:Bool) (ev rv:Value) (es:List (EX×Value)) (w:World),k<=s.size->0<=d->d<=k->es.length<=k->(b=true\/s.size-k<n)->PM w base B s k b ev rv es rs ->
  Calls Tryz.prog 125 #[.pointer (some ⟨B,0,none⟩),J Z d] w fun e w' =>
   e=.returned (J Z (ex d es.length k b).idx)/\∃ ev' new,new.map Prod.fst=(ex d es.length k b).es/\PM w' base B s (ex d es.length k b).k (ex d es.length k b).b ev' rv (es++new) rs/\Mv base B ev rv ev' rv w w'/\∀ p∈new,∀ g,p.2.ownBlock=some g->w.heap.size<=g
theorem Xu (a g:Int) (w:World):(Instr.build 155 #[(0,J Z a),(4,J Z g)]).run Tryz.prog w=.ok (.agg #[J Z a,J Z 0,J Z 0,J Z 0,J Z 0,J Z 0,J Z g]) w:=run_build w 155 _ _ (by kernel_rfl)
theorem Y3 (a b:Int) (w:World):(Instr.field 141 (.agg #[J Z a,J Z b]) 0).run Tryz.prog w=.ok (J Z a) w:=by kernel_rfl
def Fre (c:Nat) (es:List (EX×Value)):Prop:=∀ p∈es,p.2.ownBlock≠some c
theorem PM.fre {w:World} {base B s k b ev rv es rs} (h:PM w base B s k b ev rv es rs) {c:Nat} (hc:w.heap.size<=c):Fre c es:=fun p hp e=>by have:=((h.it p hp).lt _ e).2;omega
theorem Fre.app {c:Nat} {es new:List (EX×Value)} (h1:Fre c es) (h2:Fre c new):Fre c (es++new):=fun p hp=>by
 rcases List.mem_append.1 hp with hp | hp
 ·exact h1 p hp
 ·exact h2 p hp
theorem PM.setI {w:World} {base B s k b ev rv es rs} (h:PM w base B s k b ev rv es rs) {c j:Nat} {u:Value} (hT:zI w c 155) (hF:Fre c es):PM (w.setCell ⟨c,j,none⟩ u) base B s k b ev rv es rs:=by
 obtain ⟨f,d,a⟩:=hT
 refine ⟨?_,ownsRow_setCell_other h.ex (zk h.ex a (by decide)) _,ownsRow_setCell_other h.rl (zk h.rl a (by decide)) _,fun p hp=>ownsRow_setCell_other (h.it p hp) (hF p hp) _,h.hB⟩
 rw [za (fun e=>by subst e;have:=h.blk;rw [a] at this;simp at this)]
 exact h.blk
theorem z7 {w:World} {B j:Nat} {a0 a1 a2 a3 a4 a5 a6 u:Value} {t:TypeId} (h:w.heap[B]?=some (O #[a0,a1,a2,a3,a4,a5,a6] t (0,0))):(w.setCell ⟨B,j,none⟩ u).heap[B]?=some (O (#[a0,a1,a2,a3,a4,a5,a6].setIfInBounds j u) t (0,0)):=by
 simp [World.setCell,Array.getElem?_modify,h]
theorem PM.setI7 {w:World} {base B s k b ev rv es rs} (h:PM w base B s k b ev rv es rs) {c:Nat} {u0 u1 u2 u3 u4 u5 u6:Value} (hT:zI w c 155) (hF:Fre c es) :
 PM (((((((w.setCell ⟨c,0,none⟩ u0).setCell ⟨c,1,none⟩ u1).setCell ⟨c,2,none⟩ u2).setCell ⟨c,3,none⟩ u3).setCell ⟨c,4,none⟩ u4).setCell ⟨c,5,none⟩ u5).setCell ⟨c,6,none⟩ u6) base B s k b ev rv es rs :=
 ((((((h.setI hT hF).setI (hT.set _ _ _) hF).setI ((hT.set _ _ _).set _ _ _) hF).setI (((hT.set _ _ _).set _ _ _).set _ _ _) hF).setI ((((hT.set _ _ _).set _ _ _).set _ _ _).set _ _ _) hF).setI (((((hT.set _ _ _).set _ _ _).set _ _ _).set _ _ _).set _ _ _) hF).setI ((((((hT.set _ _ _).set _ _ _).set _ _ _).set _ _ _).set _ _ _).set _ _ _) hF
theorem Mv.setNew7 {base B:Nat} {a b c d:Value} {w w1:World} (h:Mv base B a b c d w w1) {k:Nat} (hk:w.heap.size<=k) (hb:base<=k) (u0 u1 u2 u3 u4 u5 u6:Value) :
 Mv base B a b c d w (((((((w1.setCell ⟨k,0,none⟩ u0).setCell ⟨k,1,none⟩ u1).setCell ⟨k,2,none⟩ u2).setCell ⟨k,3,none⟩ u3).setCell ⟨k,4,none⟩ u4).setCell ⟨k,5,none⟩ u5).setCell ⟨k,6,none⟩ u6) :=
 ((((((h.setNew hk hb _).setNew hk hb _).setNew hk hb _).setNew hk hb _).setNew hk hb _).setNew hk hb _).setNew hk hb _
theorem jc (ex:Int->Nat->Nat->Bool->CR) (base B:Nat) (s:ByteArray) (d:Int) (k:Nat) (b:Bool) (ev rv:Value) (es:List (EX×Value)) (rs:List RL) (w:World) (hs:s.size<=2000) (hk:k<=s.size) (h:PM w base B s k b ev rv es rs) (R:CI) (hR:Hid ((zv ex s 123 d es.length k b)=R)) :
 Calls Tryz.prog 170 #[.pointer (some ⟨B,0,none⟩),J .u8 123,J Z d] w fun e w'=>e=.returned (.agg #[J Z R.im.at_,J Z R.im.num,J Z R.im.pv,J Z R.im.pl,J Z R.im.wv,J Z R.im.wa,J Z R.im.arm])/\∃ ev' new,new.map Prod.fst=R.es/\PM w' base B s R.k R.b ev' rv (es++new) rs/\Mv base B ev rv ev' rv w w'/\∀ p∈new,∀ g,p.2.ownBlock=some g->w.heap.size<=g:=by
 have H:Hid (PM (w.alloc (O #[J Z 0,J Z 0,J Z 0,J Z 0,J Z 0,J Z 0,J Z 0] 155)) base B s k b ev rv es rs):=h.alloc _
 have E:Hid (Mv base B ev rv ev rv w (w.alloc (O #[J Z 0,J Z 0,J Z 0,J Z 0,J Z 0,J Z 0,J Z 0] 155))):=Mv.alloc h.bs _
 have r:=h.outNew
 have y:=h.bs
 have G:Hid (Fre w.heap.size es):=h.fre (Nat.le_refl _)
 clear h
 go_enter Tryz.func170,Tryz.ntmps170
 go_wp2_with fail
 refine (yj base B s k b ev rv es rs _ hs hk H.out).mono ?_
 rintro e i ⟨rfl,n,q⟩
 have l:Hid (i.heap[w.heap.size]?=some (O #[J Z 0,J Z 0,J Z 0,J Z 0,J Z 0,J Z 0,J Z 0] 155 (0,0))):=(q.kept _ (by simp) r).1.trans (heap_alloc_new w _)
 have x:zb s k b<=s.size:=zM hk
 have X:k<=zb s k b:=by unfold zb;split<;>first | exact Nat.le_refl _ | exact T.sk_ge s k
 unfold zv at hR
 generalize zb s k b=p at *
 have HP:Hid (PM (i.alloc (O #[J Z p,J Z 0,J Z 0,J Z 0,J Z 0,J Z 0,J Z (-1)] 155)) base B s p b ev rv es rs):=n.alloc _
 have HM:Hid (Mv base B ev rv ev rv w (i.alloc (O #[J Z p,J Z 0,J Z 0,J Z 0,J Z 0,J Z 0,J Z (-1)] 155))):=(E.out.trans q).trans (Mv.alloc n.bs _)
 have o:=n.outNew
 have F:Hid (Fre i.heap.size es):=n.fre (Nat.le_refl _)
 have u:w.heap.size<i.heap.size:=lt_of_block l.out
 have RH:Hid ((i.alloc (O #[J Z p,J Z 0,J Z 0,J Z 0,J Z 0,J Z 0,J Z (-1)] 155)).heap[w.heap.size]?=some (O #[J Z 0,J Z 0,J Z 0,J Z 0,J Z 0,J Z 0,J Z 0] 155 (0,0))):=(Below.heap_alloc _ _ _ u).trans l.out
 have XH:Hid ((i.alloc (O #[J Z p,J Z 0,J Z 0,J Z 0,J Z 0,J Z 0,J Z (-1)] 155)).heap[i.heap.size]?=some (O #[J Z p,J Z 0,J Z 0,J Z 0,J Z 0,J Z 0,J Z (-1)] 155 (0,0))):=heap_alloc_new i _
 have c1:=n.c1
 clear n q l
 have a0:=fun w=>Xu p (-1) w
 have Y:=fun a b w=>Y3 a b w
 have U:w.heap.size≠B:=r.1
 have V:w.heap.size≠i.heap.size:=by omega
 have W:i.heap.size≠B:=o.1
 go_wp2_with fail
 clear c1
 refine (Zg base B s p b ev rv es rs _ hs x HP.out).mono ?_
 rintro e f ⟨rfl,n,q⟩
 have C:Hid (PM f base B s (zo s p b) (zw s p b) ev rv es rs):=n
 have D:Hid (Mv base B ev rv ev rv w f):=(HM.out).trans q
 have l:Hid (f.heap[w.heap.size]?=some (O #[J Z 0,J Z 0,J Z 0,J Z 0,J Z 0,J Z 0,J Z 0] 155 (0,0))):=(q.kept _ (by first | (simp;omega) | (simp [World.size_setCell];exact A.out)) r).1.trans (RH.out)
 have m:Hid (f.heap[i.heap.size]?=some (O #[J Z p,J Z 0,J Z 0,J Z 0,J Z 0,J Z 0,J Z (-1)] 155 (0,0))):=(q.kept _ (by first | (simp;done) | (simp [World.size_setCell];exact z.out)) o).1.trans (XH.out)
 have A:Hid (w.heap.size<f.heap.size):=lt_of_block l.out
 have z:Hid (i.heap.size<f.heap.size):=lt_of_block m.out
 clear n q
 have x0:f.cell? ⟨i.heap.size,0,none⟩=some (J Z p):=by simp [World.cell?,m.out]
 have x1:f.cell? ⟨i.heap.size,1,none⟩=some (J Z 0):=by simp [World.cell?,m.out]
 have x2:f.cell? ⟨i.heap.size,2,none⟩=some (J Z 0):=by simp [World.cell?,m.out]
 have x3:f.cell? ⟨i.heap.size,3,none⟩=some (J Z 0):=by simp [World.cell?,m.out]
 have x4:f.cell? ⟨i.heap.size,4,none⟩=some (J Z 0):=by simp [World.cell?,m.out]
 have x5:f.cell? ⟨i.heap.size,5,none⟩=some (J Z 0):=by simp [World.cell?,m.out]
 have x6:f.cell? ⟨i.heap.size,6,none⟩=some (J Z (-1)):=by simp [World.cell?,m.out]
 have xz:∀ j,f.frozen? ⟨i.heap.size,j,none⟩=false:=fun j=>by simp [World.frozen?,m.out]
 have S:f.cell? ⟨w.heap.size,0,none⟩=some (J Z 0):=by simp [World.cell?,l.out]
 have Q:f.cell? ⟨w.heap.size,1,none⟩=some (J Z 0):=by simp [World.cell?,l.out]
 have P:f.cell? ⟨w.heap.size,2,none⟩=some (J Z 0):=by simp [World.cell?,l.out]
 have N:f.cell? ⟨w.heap.size,3,none⟩=some (J Z 0):=by simp [World.cell?,l.out]
 have L:f.cell? ⟨w.heap.size,4,none⟩=some (J Z 0):=by simp [World.cell?,l.out]
 have K:f.cell? ⟨w.heap.size,5,none⟩=some (J Z 0):=by simp [World.cell?,l.out]
 have I:f.cell? ⟨w.heap.size,6,none⟩=some (J Z 0):=by simp [World.cell?,l.out]
 have rz:∀ j,f.frozen? ⟨w.heap.size,j,none⟩=false:=fun j=>by simp [World.frozen?,l.out]
 go_wp2_with fail
 exact bodyPost_ret (v:=.agg #[J Z p,J Z (zJ s p b),J Z 0,J Z 0,J Z 0,J Z 0,J Z (-1)]) (by simp [results,Tryz.results170,go_sem,S,Q,P,N,L,K,I]) rfl ⟨by rw [<- hR.out];rfl,ev,[],by rw [<- hR.out];rfl,by rw [<- hR.out,List.append_nil];exact (C.out.setI ⟨_,_,m.out⟩ F.out).setI7 (zI.set ⟨_,_,l.out⟩ _ _ _) G.out,(D.out.setNew (by omega) (by omega) _).setNew7 (Nat.le_refl _) y _ _ _ _ _ _ _,by simp⟩
theorem JO (ex:Int->Nat->Nat->Bool->CR) (base B:Nat) (s:ByteArray) (d:Int) (k:Nat) (b:Bool) (ev rv:Value) (es:List (EX×Value)) (rs:List RL) (w:World) (hs:s.size<=2000) (hk:k<=s.size) (h:PM w base B s k b ev rv es rs) (R:CI) (hR:Hid ((zv ex s 102 d es.length k b)=R)) :
 Calls Tryz.prog 170 #[.pointer (some ⟨B,0,none⟩),J .u8 102,J Z d] w fun e w'=>e=.returned (.agg #[J Z R.im.at_,J Z R.im.num,J Z R.im.pv,J Z R.im.pl,J Z R.im.wv,J Z R.im.wa,J Z R.im.arm])/\∃ ev' new,new.map Prod.fst=R.es/\PM w' base B s R.k R.b ev' rv (es++new) rs/\Mv base B ev rv ev' rv w w'/\∀ p∈new,∀ g,p.2.ownBlock=some g->w.heap.size<=g:=by
 have H:Hid (PM (w.alloc (O #[J Z 0,J Z 0,J Z 0,J Z 0,J Z 0,J Z 0,J Z 0] 155)) base B s k b ev rv es rs):=h.alloc _
 have E:Hid (Mv base B ev rv ev rv w (w.alloc (O #[J Z 0,J Z 0,J Z 0,J Z 0,J Z 0,J Z 0,J Z 0] 155))):=Mv.alloc h.bs _
 have r:=h.outNew
 have y:=h.bs
 have G:Hid (Fre w.heap.size es):=h.fre (Nat.le_refl _)
 clear h
 go_enter Tryz.func170,Tryz.ntmps170
 go_wp2_with fail
 refine (yj base B s k b ev rv es rs _ hs hk H.out).mono ?_
 rintro e i ⟨rfl,n,q⟩
 have l:Hid (i.heap[w.heap.size]?=some (O #[J Z 0,J Z 0,J Z 0,J Z 0,J Z 0,J Z 0,J Z 0] 155 (0,0))):=(q.kept _ (by simp) r).1.trans (heap_alloc_new w _)
 have x:zb s k b<=s.size:=zM hk
 have X:k<=zb s k b:=by unfold zb;split<;>first | exact Nat.le_refl _ | exact T.sk_ge s k
 unfold zv at hR
 generalize zb s k b=p at *
 have HP:Hid (PM (i.alloc (O #[J Z p,J Z 0,J Z 0,J Z 0,J Z 0,J Z 0,J Z (-1)] 155)) base B s p b ev rv es rs):=n.alloc _
 have HM:Hid (Mv base B ev rv ev rv w (i.alloc (O #[J Z p,J Z 0,J Z 0,J Z 0,J Z 0,J Z 0,J Z (-1)] 155))):=(E.out.trans q).trans (Mv.alloc n.bs _)
 have o:=n.outNew
 have F:Hid (Fre i.heap.size es):=n.fre (Nat.le_refl _)
 have u:w.heap.size<i.heap.size:=lt_of_block l.out
 have RH:Hid ((i.alloc (O #[J Z p,J Z 0,J Z 0,J Z 0,J Z 0,J Z 0,J Z (-1)] 155)).heap[w.heap.size]?=some (O #[J Z 0,J Z 0,J Z 0,J Z 0,J Z 0,J Z 0,J Z 0] 155 (0,0))):=(Below.heap_alloc _ _ _ u).trans l.out
 have XH:Hid ((i.alloc (O #[J Z p,J Z 0,J Z 0,J Z 0,J Z 0,J Z 0,J Z (-1)] 155)).heap[i.heap.size]?=some (O #[J Z p,J Z 0,J Z 0,J Z 0,J Z 0,J Z 0,J Z (-1)] 155 (0,0))):=heap_alloc_new i _
 have c1:=n.c1
 clear n q l
 have a0:=fun w=>Xu p (-1) w
 have Y:=fun a b w=>Y3 a b w
 have U:w.heap.size≠B:=r.1
 have V:w.heap.size≠i.heap.size:=by omega
 have W:i.heap.size≠B:=o.1
 go_wp2_with fail
 clear c1
 refine (Zg base B s p b ev rv es rs _ hs x HP.out).mono ?_
 rintro e f ⟨rfl,n,q⟩
 have C:Hid (PM f base B s (zo s p b) (zw s p b) ev rv es rs):=n
 have D:Hid (Mv base B ev rv ev rv w f):=(HM.out).trans q
 have l:Hid (f.heap[w.heap.size]?=some (O #[J Z 0,J Z 0,J Z 0,J Z 0,J Z 0,J Z 0,J Z 0] 155 (0,0))):=(q.kept _ (by first | (simp;omega) | (simp [World.size_setCell];exact A.out)) r).1.trans (RH.out)
 have m:Hid (f.heap[i.heap.size]?=some (O #[J Z p,J Z 0,J Z 0,J Z 0,J Z 0,J Z 0,J Z (-1)] 155 (0,0))):=(q.kept _ (by first | (simp;done) | (simp [World.size_setCell];exact z.out)) o).1.trans (XH.out)
 have A:Hid (w.heap.size<f.heap.size):=lt_of_block l.out
 have z:Hid (i.heap.size<f.heap.size):=lt_of_block m.out
 clear n q
 have x0:f.cell? ⟨i.heap.size,0,none⟩=some (J Z p):=by simp [World.cell?,m.out]
 have x1:f.cell? ⟨i.heap.size,1,none⟩=some (J Z 0):=by simp [World.cell?,m.out]
 have x2:f.cell? ⟨i.heap.size,2,none⟩=some (J Z 0):=by simp [World.cell?,m.out]
 have x3:f.cell? ⟨i.heap.size,3,none⟩=some (J Z 0):=by simp [World.cell?,m.out]
 have x4:f.cell? ⟨i.heap.size,4,none⟩=some (J Z 0):=by simp [World.cell?,m.out]
 have x5:f.cell? ⟨i.heap.size,5,none⟩=some (J Z 0):=by simp [World.cell?,m.out]
 have x6:f.cell? ⟨i.heap.size,6,none⟩=some (J Z (-1)):=by simp [World.cell?,m.out]
 have xz:∀ j,f.frozen? ⟨i.heap.size,j,none⟩=false:=fun j=>by simp [World.frozen?,m.out]
 have S:f.cell? ⟨w.heap.size,0,none⟩=some (J Z 0):=by simp [World.cell?,l.out]
 have Q:f.cell? ⟨w.heap.size,1,none⟩=some (J Z 0):=by simp [World.cell?,l.out]
 have P:f.cell? ⟨w.heap.size,2,none⟩=some (J Z 0):=by simp [World.cell?,l.out]
 have N:f.cell? ⟨w.heap.size,3,none⟩=some (J Z 0):=by simp [World.cell?,l.out]
 have L:f.cell? ⟨w.heap.size,4,none⟩=some (J Z 0):=by simp [World.cell?,l.out]
 have K:f.cell? ⟨w.heap.size,5,none⟩=some (J Z 0):=by simp [World.cell?,l.out]
 have I:f.cell? ⟨w.heap.size,6,none⟩=some (J Z 0):=by simp [World.cell?,l.out]
 have rz:∀ j,f.frozen? ⟨w.heap.size,j,none⟩=false:=fun j=>by simp [World.frozen?,l.out]
 go_wp2_with fail
 exact bodyPost_ret (v:=.agg #[J Z p,J Z (zJ s p b),J Z 0,J Z 0,J Z 0,J Z 0,J Z (-1)]) (by simp [results,Tryz.results170,go_sem,S,Q,P,N,L,K,I]) rfl ⟨by rw [<- hR.out];rfl,ev,[],by rw [<- hR.out];rfl,by rw [<- hR.out,List.append_nil];exact (C.out.setI ⟨_,_,m.out⟩ F.out).setI7 (zI.set ⟨_,_,l.out⟩ _ _ _) G.out,(D.out.setNew (by omega) (by omega) _).setNew7 (Nat.le_refl _) y _ _ _ _ _ _ _,by simp⟩
end Go.Proofs.YtaebngpoagjafabGreat
