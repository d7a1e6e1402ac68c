import Derived.Test.YtaebngpoagjafabGreatQ07
set_option maxRecDepth 100000
set_option maxHeartbeats 1600000
namespace Go.Proofs.YtaebngpoagjafabGreat
open Option renaming some → F,none → N
open Bool renaming false → S,true → P
open Proofs.Tryz renaming prog → E
open Proofs.Tryz
open Obj renaming cells → O
open Value renaming int → J
open IntKind renaming i64 → Z
open Go.RowKit
attribute [local go_sem ↓] Go.wp_at_zero Go.wp_at_succ
def bit(c:Int):Bool:=c==48 || c==49
def btF(s:ByteArray)(b:Bool):Nat->Nat->Nat
 |0,j=>j
 |n+1,j=>if bit (zg s j b)=P then btF s b n (j+1)else j
def bv(s:ByteArray)(p:Nat):Nat->Int
 |0=>0
 |i+1=>bv s p i*2+(T.ch s (p+i)-48)
def btK(s:ByteArray)(k:Nat)(b:Bool):Nat:=btF s b 32 (zb s k b)
def btL(s:ByteArray)(k:Nat)(b:Bool):Nat:=btK s k b-zb s k b
def btX(s:ByteArray)(k:Nat)(b:Bool):Bool:=if btK s k b=zb s k b then P else b
def btV(s:ByteArray)(k:Nat)(b:Bool):Int:=bv s (zb s k b) (btL s k b)*2 ^ (32-btL s k b)
theorem QW{s:ByteArray}{j:Nat}{b:Bool}(h:bit (zg s j b)=P):b=S/\j<s.size/\zg s j b=T.ch s j:=by
 unfold zg at h⊢;cases b with
 |true=>simp[bit]at h
 | false =>
  by_cases a:j<s.size
  ·exact⟨rfl,a,by simp[a]⟩
  ·simp[a,bit]at h
theorem qG(s:ByteArray)(b:Bool):∀n j,j<=s.size->j<=btF s b n j/\btF s b n j<=s.size/\btF s b n j<=j+n:=by
 intro n;induction n with
 |zero=>intro j h;exact⟨Nat.le_refl _,h,Nat.le_refl _⟩
 | succ n ih =>
  intro j h;simp only[btF];split
  ·next hd=>have:=ih (j+1) (QW hd).2.1;omega
  ·omega
theorem Xt{s:ByteArray}{k:Nat}{b:Bool}(a:k<=s.size):btK s k b<=s.size:=(qG s b _ _ (zO a)).2.1
theorem PM.setP{w:World}{base B s k b ev rv es rs}(h:PM w base B s k b ev rv es rs){c j:Nat}{u:Value}(a:zL w c 94):PM (w.setCell ⟨c,j,N⟩ u) base B s k b ev rv es rs:=h.setT a oq oq oq oq
theorem jt{w:World}{B:Nat}{a b u:Value}{t:TypeId}(h:w.heap[B]?=F (O #[a,b] t (0,0))):(w.setCell ⟨B,1,N⟩ u).heap[B]?=F (O #[a,u] t (0,0)):=by
 simp[World.setCell,Array.getElem?_modify,h]
theorem zet(base B:Nat)(s:ByteArray)(k:Nat)(b:Bool)(f d:Value)(V:List (EX×Value))(rs:List RL)(w:World)(hs:s.size<=2000)(hk:k<=s.size)(h:PM w base B s k b f d V rs):
 Calls E 172 #[.pointer (F ⟨B,0,N⟩)] w λe w'=>e=.returned (.agg #[J Z (btV s k b),J Z (btL s k b)])/\PM w' base B s (btK s k b) (btX s k b) f d V rs/\Mv base B f d f d w w':=by
 have H:Hd (PM (w.alloc (O #[J Z 0,J Z 0] 94)) base B s k b f d V rs):=h.alloc _;have e7:Hd (Mv base B f d f d w (w.alloc (O #[J Z 0,J Z 0] 94))):=Mv.alloc h.bs _;have a4:=h.outNew;have Q:=h.bs;clear h;go_enter func172,ntmps172;go_wp2_with fail;refine(yl base B s k b f d V rs _ hs hk H.o).mono ?_;rintro e c ⟨rfl,r,t⟩;have d7:Hd (c.heap[w.heap.size]?=F (O #[J Z 0,J Z 0] 94 (0,0))):=(t.kept _ ot a4).1.trans (heap_alloc_new w _);have d2:zb s k b<=s.size:=zO hk;have b7:Hd (btK s k b=btF s b 32 (zb s k b)):=rfl;have b4:Hd (btX s k b=if btK s k b=zb s k b then P else b):=rfl;have b6:Hd (btL s k b=btK s k b-zb s k b):=rfl;have b5:Hd (btV s k b=bv s (zb s k b) (btL s k b)*2 ^ (32-btL s k b)):=rfl;generalize hpe:zb s k b=p at *;clear hpe;have HP:Hd (PM (c.alloc (O #[J Z 0,J Z 0] 94)) base B s p b f d V rs):=r.alloc _;have HM:Hd (Mv base B f d f d w (c.alloc (O #[J Z 0,J Z 0] 94))):=(e7.o.trans t).trans (Mv.alloc r.bs _);have L:=r.outNew;have d1:w.heap.size<c.heap.size:=lt_of_block d7.o;have e2:Hd ((c.alloc (O #[J Z 0,J Z 0] 94)).heap[w.heap.size]?=F (O #[J Z 0,J Z 0] 94 (0,0))):=(Below.heap_alloc _ _ _ d1).trans d7.o;have e5:Hd ((c.alloc (O #[J Z 0,J Z 0] 94)).heap[c.heap.size]?=F (O #[J Z 0,J Z 0] 94 (0,0))):=heap_alloc_new c _;clear r t;go_wp2_with fail;refine(ZK base B s p b f d V rs _ d2 HP.o).mono ?_;rintro e w2 ⟨rfl,r,t⟩;have e3:Hd _:=r;have e6:Hd _:=HM.o.trans t;have e1:Hd (w2.heap[w.heap.size]?=F (O #[J Z 0,J Z 0] 94 (0,0))):=(t.kept _ ow a4).1.trans e2.o;have e4:Hd (w2.heap[c.heap.size]?=F (O #[J Z 0,J Z 0] 94 (0,0))):=(t.kept _ ot L).1.trans e5.o;clear r t;have b2:w.heap.size≠B:=a4.1;have e9:B≠w.heap.size:=λe=>a4.1 e.symm
 have b3:c.heap.size≠B:=L.1;have f7:B≠c.heap.size:=λe=>L.1 e.symm
 have a5:w.heap.size≠c.heap.size:=ol;go_wp2_with fail;go_loopg [4] 32 (λm x wr=>∃(j n:Nat) (v:Int),p+n=j/\j<=s.size/\m+n=32/\x=J .u8 (zg s j b)/\Hd (btF s b m j=btF s b 32 p)/\Hd (bv s p (j-p)=v)/\Hd (0<=v/\v+1<=2 ^ n)/\PM wr base B s j b f d V rs/\Mv base B f d f d w wr /\
  wr.heap[w.heap.size]?=F (O #[J Z 0,J Z 0] 94 (0,0))/\wr.heap[c.heap.size]?=F (O #[J Z v,J Z n] 94 (0,0)))
 case atStart=>exact⟨p,0,0,ol,d2,ol,rfl,rfl,by show _=_;rw[Nat.sub_self];rfl,⟨Int.le_refl _,oq⟩,e3.o,e6.o,e1.o,e4.o⟩
 case round =>
  obtain⟨j,n,v,f6,f8,hn,rfl,HF,HV,R,r,t,l,a⟩:=hrel;have C:Hd _:=r;have a7:Hd _:=t;have A:Hd _:=l;have g:Hd _:=a;have c1:=r.c1;have c2:=r.c2;have z1:=r.fz 1;have z2:=r.fz 2;have n0:wr.cell? ⟨c.heap.size,0,N⟩=F (J Z v):=by simp[World.cell?,a]
  have n1:wr.cell? ⟨c.heap.size,1,N⟩=F (J Z n):=by simp[World.cell?,a]
  have nz:∀j,wr.frozen? ⟨c.heap.size,j,N⟩=S:=λj=>by simp[World.frozen?,a]
  have r0:wr.cell? ⟨w.heap.size,0,N⟩=F (J Z 0):=by simp[World.cell?,l]
  have r1:wr.cell? ⟨w.heap.size,1,N⟩=F (J Z 0):=by simp[World.cell?,l]
  have rz:∀j,wr.frozen? ⟨w.heap.size,j,N⟩=S:=λj=>by simp[World.frozen?,l]
  clear r t l a;have f9:(j:Int)<=2000:=ol;cases gk with
  | zero =>
   have f1:decide ((n:Int)<32)=S:=decide_eq_false ol;have z:Hd (btK s k b=j):=by
    show _=_;rw[b7.o,<-HF.o];rfl
   have a3:Hd (btL s k b=n):=by
    show _=_;rw[b6.o,z.o];omega
   have b1:Hd (btV s k b=v*2 ^ (32-n)):=by
    show _=_;rw[b5.o,a3.o,<-HV.o,show j-p=n from by omega]
   clear b7 b6 b5 HF HV;have a9:w.heap.size<wr.heap.size:=lt_of_block A.o;have b0:c.heap.size<wr.heap.size:=lt_of_block g.o;cases hjp:((n:Int)==0)with
   | true =>
    have W:Hd (btX s k b=P):=by
     show _=_;rw[b4.o,z.o,if_pos (by simp at hjp;omega)]
    go_wp2_with fail;have Y:Hd (PM (wr.setCell ⟨B,2,N⟩ (.bool P)) base B s j P f d V rs):=C.o.bad P;have a2:Hd (Mv base B f d f d w (wr.setCell ⟨B,2,N⟩ (.bool P))):=a7.o.trans (C.o.setMv 2 _);have X:Hd ((wr.setCell ⟨B,2,N⟩ (.bool P)).heap[w.heap.size]?=F (O #[J Z 0,J Z 0] 94 (0,0))):=(by show _=_;rw[za b2];exact A.o);have a1:Hd ((wr.setCell ⟨B,2,N⟩ (.bool P)).heap[c.heap.size]?=F (O #[J Z v,J Z n] 94 (0,0))):=(by show _=_;rw[za b3];exact g.o);clear c1 c2 z1 z2 n0 n1 nz r0 r1 rz;go_loopg [5] (32-n) (λm x wr=>∃(i:Nat) (u:Int),n<=i/\i<=32/\m+i=32/\x=J Z i/\Hd (u=v*2 ^ (i-n))/\PM wr base B s j P f d V rs/\Mv base B f d f d w wr /\
     wr.heap[w.heap.size]?=F (O #[J Z 0,J Z 0] 94 (0,0))/\wr.heap[c.heap.size]?=F (O #[J Z u,J Z n] 94 (0,0)))
    case atStart=>exact⟨n,v,Nat.le_refl _,ol,ol,by go_num,by show _=_;rw[Nat.sub_self];simp,Y.o,a2.o,X.o,a1.o⟩
    case round =>
     obtain⟨i,u,c3,y,c4,rfl,G,r,t,l,a⟩:=hrel;have I:Hd _:=r;have K:Hd _:=t;have q:Hd _:=l;have a0:Hd _:=a;have n0:wr.cell? ⟨c.heap.size,0,N⟩=F (J Z u):=(by simp[World.cell?,a]);have n1:wr.cell? ⟨c.heap.size,1,N⟩=F (J Z n):=(by simp[World.cell?,a]);have nz:∀j,wr.frozen? ⟨c.heap.size,j,N⟩=S:=λj=>by simp[World.frozen?,a]
     have r0:wr.cell? ⟨w.heap.size,0,N⟩=F (J Z 0):=(by simp[World.cell?,l]);have r1:wr.cell? ⟨w.heap.size,1,N⟩=F (J Z 0):=(by simp[World.cell?,l]);have rz:∀j,wr.frozen? ⟨w.heap.size,j,N⟩=S:=λj=>by simp[World.frozen?,l]
     clear r t l a;have U:0<=u/\u<=4294967296:=by
      rw[G.o];have h1:=R.o;have h2:(2:Int) ^ n*2 ^ (i-n)=2 ^ i:=(by rw[<-Int.pow_add];congr 1;omega);have h3:(2:Int) ^ i<=4294967296:=by
       have h4:(2:Nat) ^ i<=2 ^ 32:=Nat.pow_le_pow_right ol y;have h5:((2 ^ i:Nat):Int)<=((2 ^ 32:Nat):Int):=Int.ofNat_le.2 h4;rw[Int.natCast_pow]at h5;exact h5
      have h6:(0:Int)<=2 ^ (i-n):=Int.le_of_lt (Int.pow_pos ol);refine⟨Int.mul_nonneg h1.1 h6,?_⟩;have h7:v*2 ^ (i-n)<=2 ^ n*2 ^ (i-n):=Int.mul_le_mul_of_nonneg_right ol h6;omega
     obtain⟨c0,b9⟩:=U;by_cases a6:i<32
     ·exact absurd a6 ol
     ·have hd:decide ((i:Int)<32)=S:=decide_eq_false ol;have hi:i=32:=ol;have HE:Hd (btV s k b=u):=(by show _=_;rw[b1.o,G.o,hi]);clear G;go_wp2_with fail;exact bodyPost_ret (v:=.agg #[J Z u,J Z n]) (by simp[results,results172,go_sem,r0,r1]) rfl ⟨by rw[a3.o,HE.o],by rw[z.o,W.o];exact(I.o.setP ⟨_,_,q.o⟩).setP (zL.set ⟨_,_,q.o⟩ _ _ _),(K.o.setNew (Nat.le_refl _) Q _).setNew (Nat.le_refl _) Q _⟩
   | false =>
    have W:Hd (btX s k b=b):=by
     show _=_;rw[b4.o,z.o,if_neg (by have:=beq_eq_false_iff_ne.1 hjp;omega)]
    go_wp2_with fail;have Y:Hd _:=C.o;have a2:Hd _:=a7.o;have X:Hd _:=A.o;have a1:Hd _:=g.o;clear c1 c2 z1 z2 n0 n1 nz r0 r1 rz;go_loopg [5] (32-n) (λm x wr=>∃(i:Nat) (u:Int),n<=i/\i<=32/\m+i=32/\x=J Z i/\Hd (u=v*2 ^ (i-n))/\PM wr base B s j b f d V rs/\Mv base B f d f d w wr /\
     wr.heap[w.heap.size]?=F (O #[J Z 0,J Z 0] 94 (0,0))/\wr.heap[c.heap.size]?=F (O #[J Z u,J Z n] 94 (0,0)))
    case atStart=>exact⟨n,v,Nat.le_refl _,ol,ol,by go_num,by show _=_;rw[Nat.sub_self];simp,Y.o,a2.o,X.o,a1.o⟩
    case round =>
     obtain⟨i,u,c3,y,c4,rfl,G,r,t,l,a⟩:=hrel;have I:Hd _:=r;have K:Hd _:=t;have q:Hd _:=l;have a0:Hd _:=a;have n0:wr.cell? ⟨c.heap.size,0,N⟩=F (J Z u):=(by simp[World.cell?,a]);have n1:wr.cell? ⟨c.heap.size,1,N⟩=F (J Z n):=(by simp[World.cell?,a]);have nz:∀j,wr.frozen? ⟨c.heap.size,j,N⟩=S:=λj=>by simp[World.frozen?,a]
     have r0:wr.cell? ⟨w.heap.size,0,N⟩=F (J Z 0):=(by simp[World.cell?,l]);have r1:wr.cell? ⟨w.heap.size,1,N⟩=F (J Z 0):=(by simp[World.cell?,l]);have rz:∀j,wr.frozen? ⟨w.heap.size,j,N⟩=S:=λj=>by simp[World.frozen?,l]
     clear r t l a;have U:0<=u/\u<=4294967296:=by
      rw[G.o];have h1:=R.o;have h2:(2:Int) ^ n*2 ^ (i-n)=2 ^ i:=(by rw[<-Int.pow_add];congr 1;omega);have h3:(2:Int) ^ i<=4294967296:=by
       have h4:(2:Nat) ^ i<=2 ^ 32:=Nat.pow_le_pow_right ol y;have h5:((2 ^ i:Nat):Int)<=((2 ^ 32:Nat):Int):=Int.ofNat_le.2 h4;rw[Int.natCast_pow]at h5;exact h5
      have h6:(0:Int)<=2 ^ (i-n):=Int.le_of_lt (Int.pow_pos ol);refine⟨Int.mul_nonneg h1.1 h6,?_⟩;have h7:v*2 ^ (i-n)<=2 ^ n*2 ^ (i-n):=Int.mul_le_mul_of_nonneg_right ol h6;omega
     obtain⟨c0,b9⟩:=U;by_cases a6:i<32
     ·exact absurd a6 ol
     ·have hd:decide ((i:Int)<32)=S:=decide_eq_false ol;have hi:i=32:=ol;have HE:Hd (btV s k b=u):=(by show _=_;rw[b1.o,G.o,hi]);clear G;go_wp2_with fail;exact bodyPost_ret (v:=.agg #[J Z u,J Z n]) (by simp[results,results172,go_sem,r0,r1]) rfl ⟨by rw[a3.o,HE.o],by rw[z.o,W.o];exact(I.o.setP ⟨_,_,q.o⟩).setP (zL.set ⟨_,_,q.o⟩ _ _ _),(K.o.setNew (Nat.le_refl _) Q _).setNew (Nat.le_refl _) Q _⟩
  | succ m =>
   have e0:(n:Int)<32:=ol;cases hd:bit (zg s j b)with
   | true =>
    obtain⟨rfl,a6,d4⟩:=QW hd;have c5:zg s j S=48\/zg s j S=49:=(by simpa[bit]using hd);have d8:Hd (btF s S m (j+1)=btF s S 32 p):=by
     show _=_;rw[<-HF.o,btF,if_pos hd]
    have d9:(2:Int) ^ n<=4294967296:=by
     have h1:(2:Nat) ^ n<=2 ^ 32:=Nat.pow_le_pow_right ol ol;have h2:((2 ^ n:Nat):Int)<=((2 ^ 32:Nat):Int):=Int.ofNat_le.2 h1;rw[Int.natCast_pow]at h2;exact h2
    have f5:0<=v:=R.o.1;have f4:v<4294967296:=(by have:=R.o.2;omega);have d6:Hd (bv s p (j+1-p)=v*2+(zg s j S-48)):=by
     show _=_;rw[show j+1-p=(j-p)+1 from by omega];simp only[bv];rw[HV.o,d4,show p+(j-p)=j from by omega]
    have b8:Hd (0<=v*2+(zg s j S-48)/\v*2+(zg s j S-48)+1<=2 ^ (n+1)):=by
     have h1:=R.o;show _/\_;rw[Int.pow_succ];omega
    have f3:48<=zg s j S:=ol;have f2:zg s j S<=49:=ol;clear hd d4 HF HV R d9;generalize zg s j S=x at *;have f0:(x-48)%256=x-48:=ol;cases hx48:(x==48)with
    | true =>
     clear c5;go_wp2_with fail;have a9:w.heap.size<wr.heap.size:=lt_of_block A.o;have b0:c.heap.size<wr.heap.size:=lt_of_block g.o;refine(ZK base B s (j+1) S f d V rs _ ol (((C.o.setP ⟨_,_,g.o⟩).setP (zL.set ⟨_,_,g.o⟩ _ _ _)).at (j+1) _ ol)).mono ?_;rintro e w5 ⟨rfl,a8,D⟩;have c8:Hd _:=a8;have d0:Hd (Mv base B f d f d w w5):=(((a7.o.setNew ol ol _).setNew ol ol _).trans (((C.o.setP ⟨_,_,g.o⟩).setP (zL.set ⟨_,_,g.o⟩ _ _ _)).setMv 1 _)).trans D;have c7:Hd (w5.heap[w.heap.size]?=F (O #[J Z 0,J Z 0] 94 (0,0))):=(D.kept _ (by simp[World.size_setCell];exact a9) a4).1.trans (by rw[za b2,za a5,za a5];exact A.o);have c9:Hd (w5.heap[c.heap.size]?=F (O #[J Z (v*2+(x-48)),J Z ((n:Int)+1)] 94 (0,0))):=(D.kept _ (by simp[World.size_setCell];exact b0) L).1.trans (by rw[za b3];exact jt (YP g.o));clear a8 D c1 c2 z1 z2 n0 n1 nz r0 r1 rz;go_wp2_with fail;go_roundg m
     case measure=>omega
     case rel=>exact⟨j+1,n+1,_,ol,ol,ol,rfl,d8,d6,b8,c8.o,d0.o,c7.o,c9.o⟩
    | false =>
     have e8:(x==49)=P:=(by rcases c5 with h|h<;>simp[h]at hx48⊢);clear c5;go_wp2_with fail;have a9:w.heap.size<wr.heap.size:=lt_of_block A.o;have b0:c.heap.size<wr.heap.size:=lt_of_block g.o;refine(ZK base B s (j+1) S f d V rs _ ol (((C.o.setP ⟨_,_,g.o⟩).setP (zL.set ⟨_,_,g.o⟩ _ _ _)).at (j+1) _ ol)).mono ?_;rintro e w5 ⟨rfl,a8,D⟩;have c8:Hd _:=a8;have d0:Hd (Mv base B f d f d w w5):=(((a7.o.setNew ol ol _).setNew ol ol _).trans (((C.o.setP ⟨_,_,g.o⟩).setP (zL.set ⟨_,_,g.o⟩ _ _ _)).setMv 1 _)).trans D;have c7:Hd (w5.heap[w.heap.size]?=F (O #[J Z 0,J Z 0] 94 (0,0))):=(D.kept _ (by simp[World.size_setCell];exact a9) a4).1.trans (by rw[za b2,za a5,za a5];exact A.o);have c9:Hd (w5.heap[c.heap.size]?=F (O #[J Z (v*2+(x-48)),J Z ((n:Int)+1)] 94 (0,0))):=(D.kept _ (by simp[World.size_setCell];exact b0) L).1.trans (by rw[za b3];exact jt (YP g.o));clear a8 D c1 c2 z1 z2 n0 n1 nz r0 r1 rz;go_wp2_with fail;go_roundg m
     case measure=>omega
     case rel=>exact⟨j+1,n+1,_,ol,ol,ol,rfl,d8,d6,b8,c8.o,d0.o,c7.o,c9.o⟩
   | false =>
    have d5:(zg s j b==48)=S/\(zg s j b==49)=S:=(by simpa[bit]using hd);obtain⟨g1,g0⟩:=d5;have z:Hd (btK s k b=j):=by
     show _=_;rw[b7.o,<-HF.o];rw[btF,if_neg (by rw[hd];decide)]
    have a3:Hd (btL s k b=n):=by
     show _=_;rw[b6.o,z.o];omega
    have b1:Hd (btV s k b=v*2 ^ (32-n)):=by
     show _=_;rw[b5.o,a3.o,<-HV.o,show j-p=n from by omega]
    clear b7 b6 b5 HF HV;have a9:w.heap.size<wr.heap.size:=lt_of_block A.o;have b0:c.heap.size<wr.heap.size:=lt_of_block g.o;cases hjp:((n:Int)==0)with
    | true =>
     have W:Hd (btX s k b=P):=by
      show _=_;rw[b4.o,z.o,if_pos (by simp at hjp;omega)]
     go_wp2_with fail;have Y:Hd (PM (wr.setCell ⟨B,2,N⟩ (.bool P)) base B s j P f d V rs):=C.o.bad P;have a2:Hd (Mv base B f d f d w (wr.setCell ⟨B,2,N⟩ (.bool P))):=a7.o.trans (C.o.setMv 2 _);have X:Hd ((wr.setCell ⟨B,2,N⟩ (.bool P)).heap[w.heap.size]?=F (O #[J Z 0,J Z 0] 94 (0,0))):=(by show _=_;rw[za b2];exact A.o);have a1:Hd ((wr.setCell ⟨B,2,N⟩ (.bool P)).heap[c.heap.size]?=F (O #[J Z v,J Z n] 94 (0,0))):=(by show _=_;rw[za b3];exact g.o);clear c1 c2 z1 z2 n0 n1 nz r0 r1 rz;go_loopg [5] (32-n) (λm x wr=>∃(i:Nat) (u:Int),n<=i/\i<=32/\m+i=32/\x=J Z i/\Hd (u=v*2 ^ (i-n))/\PM wr base B s j P f d V rs/\Mv base B f d f d w wr /\
      wr.heap[w.heap.size]?=F (O #[J Z 0,J Z 0] 94 (0,0))/\wr.heap[c.heap.size]?=F (O #[J Z u,J Z n] 94 (0,0)))
     case atStart=>exact⟨n,v,Nat.le_refl _,ol,ol,by go_num,by show _=_;rw[Nat.sub_self];simp,Y.o,a2.o,X.o,a1.o⟩
     case round =>
      obtain⟨i,u,c3,y,c4,rfl,G,r,t,l,a⟩:=hrel;have I:Hd _:=r;have K:Hd _:=t;have q:Hd _:=l;have a0:Hd _:=a;have n0:wr.cell? ⟨c.heap.size,0,N⟩=F (J Z u):=(by simp[World.cell?,a]);have n1:wr.cell? ⟨c.heap.size,1,N⟩=F (J Z n):=(by simp[World.cell?,a]);have nz:∀j,wr.frozen? ⟨c.heap.size,j,N⟩=S:=λj=>by simp[World.frozen?,a]
      have r0:wr.cell? ⟨w.heap.size,0,N⟩=F (J Z 0):=(by simp[World.cell?,l]);have r1:wr.cell? ⟨w.heap.size,1,N⟩=F (J Z 0):=(by simp[World.cell?,l]);have rz:∀j,wr.frozen? ⟨w.heap.size,j,N⟩=S:=λj=>by simp[World.frozen?,l]
      clear r t l a;have U:0<=u/\u<=4294967296:=by
       rw[G.o];have h1:=R.o;have h2:(2:Int) ^ n*2 ^ (i-n)=2 ^ i:=(by rw[<-Int.pow_add];congr 1;omega);have h3:(2:Int) ^ i<=4294967296:=by
        have h4:(2:Nat) ^ i<=2 ^ 32:=Nat.pow_le_pow_right ol y;have h5:((2 ^ i:Nat):Int)<=((2 ^ 32:Nat):Int):=Int.ofNat_le.2 h4;rw[Int.natCast_pow]at h5;exact h5
       have h6:(0:Int)<=2 ^ (i-n):=Int.le_of_lt (Int.pow_pos ol);refine⟨Int.mul_nonneg h1.1 h6,?_⟩;have h7:v*2 ^ (i-n)<=2 ^ n*2 ^ (i-n):=Int.mul_le_mul_of_nonneg_right ol h6;omega
      obtain⟨c0,b9⟩:=U;by_cases a6:i<32
      ·have d3:(i:Int)<32:=(by omega);have c6:Hd (u*2=v*2 ^ (i+1-n)):=by
        show _=_;rw[G.o,show i+1-n=(i-n)+1 from by omega,Int.pow_succ,Int.mul_assoc]
       clear G;go_wp2_with fail;go_roundg (32-(i+1))
       case measure=>omega
       case rel=>exact⟨i+1,u*2,ol,ol,ol,by go_num,c6,I.o.setP ⟨_,_,a0.o⟩,K.o.setNew ol ol _,by rw[za a5];exact q.o,YP a0.o⟩
      ·have hd:decide ((i:Int)<32)=S:=decide_eq_false ol;have hi:i=32:=ol;have HE:Hd (btV s k b=u):=(by show _=_;rw[b1.o,G.o,hi]);clear G;go_wp2_with fail;exact bodyPost_ret (v:=.agg #[J Z u,J Z n]) (by simp[results,results172,go_sem,r0,r1]) rfl ⟨by rw[a3.o,HE.o],by rw[z.o,W.o];exact(I.o.setP ⟨_,_,q.o⟩).setP (zL.set ⟨_,_,q.o⟩ _ _ _),(K.o.setNew (Nat.le_refl _) Q _).setNew (Nat.le_refl _) Q _⟩
    | false =>
     have W:Hd (btX s k b=b):=by
      show _=_;rw[b4.o,z.o,if_neg (by have:=beq_eq_false_iff_ne.1 hjp;omega)]
     go_wp2_with fail;have Y:Hd _:=C.o;have a2:Hd _:=a7.o;have X:Hd _:=A.o;have a1:Hd _:=g.o;clear c1 c2 z1 z2 n0 n1 nz r0 r1 rz;go_loopg [5] (32-n) (λm x wr=>∃(i:Nat) (u:Int),n<=i/\i<=32/\m+i=32/\x=J Z i/\Hd (u=v*2 ^ (i-n))/\PM wr base B s j b f d V rs/\Mv base B f d f d w wr /\
      wr.heap[w.heap.size]?=F (O #[J Z 0,J Z 0] 94 (0,0))/\wr.heap[c.heap.size]?=F (O #[J Z u,J Z n] 94 (0,0)))
     case atStart=>exact⟨n,v,Nat.le_refl _,ol,ol,by go_num,by show _=_;rw[Nat.sub_self];simp,Y.o,a2.o,X.o,a1.o⟩
     case round =>
      obtain⟨i,u,c3,y,c4,rfl,G,r,t,l,a⟩:=hrel;have I:Hd _:=r;have K:Hd _:=t;have q:Hd _:=l;have a0:Hd _:=a;have n0:wr.cell? ⟨c.heap.size,0,N⟩=F (J Z u):=(by simp[World.cell?,a]);have n1:wr.cell? ⟨c.heap.size,1,N⟩=F (J Z n):=(by simp[World.cell?,a]);have nz:∀j,wr.frozen? ⟨c.heap.size,j,N⟩=S:=λj=>by simp[World.frozen?,a]
      have r0:wr.cell? ⟨w.heap.size,0,N⟩=F (J Z 0):=(by simp[World.cell?,l]);have r1:wr.cell? ⟨w.heap.size,1,N⟩=F (J Z 0):=(by simp[World.cell?,l]);have rz:∀j,wr.frozen? ⟨w.heap.size,j,N⟩=S:=λj=>by simp[World.frozen?,l]
      clear r t l a;have U:0<=u/\u<=4294967296:=by
       rw[G.o];have h1:=R.o;have h2:(2:Int) ^ n*2 ^ (i-n)=2 ^ i:=(by rw[<-Int.pow_add];congr 1;omega);have h3:(2:Int) ^ i<=4294967296:=by
        have h4:(2:Nat) ^ i<=2 ^ 32:=Nat.pow_le_pow_right ol y;have h5:((2 ^ i:Nat):Int)<=((2 ^ 32:Nat):Int):=Int.ofNat_le.2 h4;rw[Int.natCast_pow]at h5;exact h5
       have h6:(0:Int)<=2 ^ (i-n):=Int.le_of_lt (Int.pow_pos ol);refine⟨Int.mul_nonneg h1.1 h6,?_⟩;have h7:v*2 ^ (i-n)<=2 ^ n*2 ^ (i-n):=Int.mul_le_mul_of_nonneg_right ol h6;omega
      obtain⟨c0,b9⟩:=U;by_cases a6:i<32
      ·have d3:(i:Int)<32:=(by omega);have c6:Hd (u*2=v*2 ^ (i+1-n)):=by
        show _=_;rw[G.o,show i+1-n=(i-n)+1 from by omega,Int.pow_succ,Int.mul_assoc]
       clear G;go_wp2_with fail;go_roundg (32-(i+1))
       case measure=>omega
       case rel=>exact⟨i+1,u*2,ol,ol,ol,by go_num,c6,I.o.setP ⟨_,_,a0.o⟩,K.o.setNew ol ol _,by rw[za a5];exact q.o,YP a0.o⟩
      ·have hd:decide ((i:Int)<32)=S:=decide_eq_false ol;have hi:i=32:=ol;have HE:Hd (btV s k b=u):=(by show _=_;rw[b1.o,G.o,hi]);clear G;go_wp2_with fail;exact bodyPost_ret (v:=.agg #[J Z u,J Z n]) (by simp[results,results172,go_sem,r0,r1]) rfl ⟨by rw[a3.o,HE.o],by rw[z.o,W.o];exact(I.o.setP ⟨_,_,q.o⟩).setP (zL.set ⟨_,_,q.o⟩ _ _ _),(K.o.setNew (Nat.le_refl _) Q _).setNew (Nat.le_refl _) Q _⟩
structure CR where
 idx:Int
 es:List EX
 k:Nat
 b:Bool
structure CI where
 im:IM
 es:List EX
 k:Nat
 b:Bool
def zv(ex:Int->Nat->Nat->Bool->CR)(s:ByteArray)(kind d:Int)(m k:Nat)(b:Bool):CI :=
 let p:=zb s k b
 if kind=109 then
  let r:=ex (d+1) m (zc s 58 (btK s p b) (btX s p b)) (zk s 58 (btK s p b) (btX s p b))
  ⟨⟨p,0,btV s p b,btL s p b,0,0,r.idx⟩,r.es,r.k,r.b⟩
 else if kind=103 then
  let r:=ex (d+1) m (zc s 58 (zs s p b) (zw s p b)) (zk s 58 (zs s p b) (zw s p b))
  ⟨⟨p,zM s p b,0,0,0,0,r.idx⟩,r.es,r.k,r.b⟩
 else if kind=119 then
  let k2:=zc s 42 (zs s p b) (zw s p b)
  let b2:=zk s 42 (zs s p b) (zw s p b)
  ⟨⟨p,zM s p b,0,0,zM s k2 b2,zb s k2 b2,-1⟩,[],zs s k2 b2,zw s k2 b2⟩
 else⟨⟨p,zM s p b,0,0,0,0,-1⟩,[],zs s p b,zw s p b⟩
theorem yi(s:ByteArray)(k:Nat)(b:Bool):k<=zb s k b:=by
 unfold zb;split
 ·exact Nat.le_refl _
 ·exact T.sk_ge s k
theorem zj(s:ByteArray)(c:Int)(k:Nat)(b:Bool):k<=zc s c k b:=by
 unfold zc;have:=yi s k b
 split<;>omega
theorem z7{s:ByteArray}{k:Nat}{b:Bool}(a:k<=s.size):k<=zs s k b:=Nat.le_trans (yi s k b) (jO s b _ _ (zO a)).1
theorem Xu{s:ByteArray}{k:Nat}{b:Bool}(a:k<=s.size):k<=btK s k b:=Nat.le_trans (yi s k b) (qG s b _ _ (zO a)).1
theorem qk{s:ByteArray}{c:Int}{k:Nat}{b:Bool}(h:b=P):zk s c k b=P:=by
 subst h;unfold zk;split<;>rfl
theorem QE{s:ByteArray}{k:Nat}{b:Bool}(h:b=P):zw s k b=P:=by
 subst h;unfold zw;split<;>rfl
theorem j5{s:ByteArray}{k:Nat}{b:Bool}(h:b=P):btX s k b=P:=by
 subst h;unfold btX;split<;>rfl
def xG(ex:Int->Nat->Nat->Bool->CR)(s:ByteArray)(base B:Nat)(rs:List RL)(n:Nat):Prop :=
 ∀(d:Int) (k:Nat) (b:Bool) (ev rv:Value) (es:List (EX×Value)) (w:World),k<=s.size->0<=d->d<=k->es.length<=k->(b=P\/s.size-k<n)->PM w base B s k b ev rv es rs ->
  Calls E 125 #[.pointer (F ⟨B,0,N⟩),J Z d] w λe w' =>
   e=.returned (J Z (ex d es.length k b).idx)/\∃ev' new,new.map Prod.fst=(ex d es.length k b).es/\PM w' base B s (ex d es.length k b).k (ex d es.length k b).b ev' rv (es++new) rs/\Mv base B ev rv ev' rv w w'/\∀p∈new,∀g,p.2.ownBlock=F g->w.heap.size<=g
theorem X8(a g:Int)(w:World):(Instr.build 155 #[(0,J Z a),(4,J Z g)]).run E w=.ok (.agg #[J Z a,J Z 0,J Z 0,J Z 0,J Z 0,J Z 0,J Z g]) w:=run_build w 155 _ _ kr
theorem xx(a b:Int)(w:World):(Instr.field 141 (.agg #[J Z a,J Z b]) 0).run E w=.ok (J Z a) w:=kr
def Fre(c:Nat)(es:List (EX×Value)):Prop:=∀p∈es,p.2.ownBlock≠F c
theorem PM.fre{w:World}{base B s k b ev rv es rs}(h:PM w base B s k b ev rv es rs){c:Nat}(a:w.heap.size<=c):Fre c es:=λp hp e=>by have:=((h.it p hp).lt _ e).2;omega
theorem Fre.app{c:Nat}{b a:List (EX×Value)}(e:Fre c b)(d:Fre c a):Fre c (b++a):=λp hp=>by
 rcases List.mem_append.1 hp with hp|hp
 ·exact e p hp
 ·exact d p hp
theorem PM.setI{w:World}{base B s k b ev rv es rs}(h:PM w base B s k b ev rv es rs){c j:Nat}{u:Value}(d:zL w c 155)(f:Fre c es):PM (w.setCell ⟨c,j,N⟩ u) base B s k b ev rv es rs:=by
 obtain⟨i,g,a⟩:=d;refine⟨?_,ownsRow_setCell_other h.ex (zi h.ex a oq) _,ownsRow_setCell_other h.rl (zi h.rl a oq) _,λp hp=>ownsRow_setCell_other (h.it p hp) (f p hp) _,h.hB⟩;rw[za (λe=>by subst e;have:=h.blk;rw[a]at this;simp at this)];exact h.blk
theorem z9{w:World}{B j:Nat}{g f e d c b a u:Value}{t:TypeId}(h:w.heap[B]?=F (O #[g,f,e,d,c,b,a] t (0,0))):(w.setCell ⟨B,j,N⟩ u).heap[B]?=F (O (#[g,f,e,d,c,b,a].setIfInBounds j u) t (0,0)):=by
 simp[World.setCell,Array.getElem?_modify,h]
theorem PM.setI7{w:World}{base B s k b ev rv es rs}(h:PM w base B s k b ev rv es rs){c:Nat}{m l j i g f e:Value}(a:zL w c 155)(d:Fre c es):
 PM (((((((w.setCell ⟨c,0,N⟩ m).setCell ⟨c,1,N⟩ l).setCell ⟨c,2,N⟩ j).setCell ⟨c,3,N⟩ i).setCell ⟨c,4,N⟩ g).setCell ⟨c,5,N⟩ f).setCell ⟨c,6,N⟩ e) base B s k b ev rv es rs :=
 ((((((h.setI a d).setI (a.set _ _ _) d).setI ((a.set _ _ _).set _ _ _) d).setI (((a.set _ _ _).set _ _ _).set _ _ _) d).setI ((((a.set _ _ _).set _ _ _).set _ _ _).set _ _ _) d).setI (((((a.set _ _ _).set _ _ _).set _ _ _).set _ _ _).set _ _ _) d).setI ((((((a.set _ _ _).set _ _ _).set _ _ _).set _ _ _).set _ _ _).set _ _ _) d
theorem Mv.setNew7{base B:Nat}{a b c d:Value}{w g:World}(h:Mv base B a b c d w g){k:Nat}(e:w.heap.size<=k)(f:base<=k)(p o n m l j i:Value):
 Mv base B a b c d w (((((((g.setCell ⟨k,0,N⟩ p).setCell ⟨k,1,N⟩ o).setCell ⟨k,2,N⟩ n).setCell ⟨k,3,N⟩ m).setCell ⟨k,4,N⟩ l).setCell ⟨k,5,N⟩ j).setCell ⟨k,6,N⟩ i) :=
 ((((((h.setNew e f _).setNew e f _).setNew e f _).setNew e f _).setNew e f _).setNew e f _).setNew e f _
theorem jU(ex:Int->Nat->Nat->Bool->CR)(base B:Nat)(s:ByteArray)(d:Int)(k:Nat)(b:Bool)(m i:Value)(q:List (EX×Value))(rs:List RL)(w:World)(U:s.size<=2000)(V:k<=s.size)(h:PM w base B s k b m i q rs)(R:CI)(z:Hd ((zv ex s 123 d q.length k b)=R)):
 Calls E 170 #[.pointer (F ⟨B,0,N⟩),J .u8 123,J Z d] w λe w'=>e=.returned (.agg #[J Z R.im.at_,J Z R.im.num,J Z R.im.pv,J Z R.im.pl,J Z R.im.wv,J Z R.im.wa,J Z R.im.arm])/\∃ev' new,new.map Prod.fst=R.es/\PM w' base B s R.k R.b ev' i (q++new) rs/\Mv base B m i ev' i w w'/\∀p∈new,∀g,p.2.ownBlock=F g->w.heap.size<=g:=by
 have H:Hd (PM (w.alloc (O #[J Z 0,J Z 0,J Z 0,J Z 0,J Z 0,J Z 0,J Z 0] 155)) base B s k b m i q rs):=h.alloc _;have L:Hd (Mv base B m i m i w (w.alloc (O #[J Z 0,J Z 0,J Z 0,J Z 0,J Z 0,J Z 0,J Z 0] 155))):=Mv.alloc h.bs _;have x:=h.outNew;have C:=h.bs;have Q:Hd (Fre w.heap.size q):=h.fre (Nat.le_refl _);clear h;go_enter func170,ntmps170;go_wp2_with fail;refine(yl base B s k b m i q rs _ U V H.o).mono ?_;rintro e f ⟨rfl,r,u⟩;have l:Hd (f.heap[w.heap.size]?=F (O #[J Z 0,J Z 0,J Z 0,J Z 0,J Z 0,J Z 0,J Z 0] 155 (0,0))):=(u.kept _ ot x).1.trans (heap_alloc_new w _);have A:zb s k b<=s.size:=zO V;have a3:k<=zb s k b:=by unfold zb;split<;>first|exact Nat.le_refl _|exact T.sk_ge s k
 unfold zv at z;generalize zb s k b=p at *;have HP:Hd (PM (f.alloc (O #[J Z p,J Z 0,J Z 0,J Z 0,J Z 0,J Z 0,J Z (-1)] 155)) base B s p b m i q rs):=r.alloc _;have HM:Hd (Mv base B m i m i w (f.alloc (O #[J Z p,J Z 0,J Z 0,J Z 0,J Z 0,J Z 0,J Z (-1)] 155))):=(L.o.trans u).trans (Mv.alloc r.bs _);have t:=r.outNew;have P:Hd (Fre f.heap.size q):=r.fre (Nat.le_refl _);have y:w.heap.size<f.heap.size:=lt_of_block l.o;have RH:Hd ((f.alloc (O #[J Z p,J Z 0,J Z 0,J Z 0,J Z 0,J Z 0,J Z (-1)] 155)).heap[w.heap.size]?=F (O #[J Z 0,J Z 0,J Z 0,J Z 0,J Z 0,J Z 0,J Z 0] 155 (0,0))):=(Below.heap_alloc _ _ _ y).trans l.o;have XH:Hd ((f.alloc (O #[J Z p,J Z 0,J Z 0,J Z 0,J Z 0,J Z 0,J Z (-1)] 155)).heap[f.heap.size]?=F (O #[J Z p,J Z 0,J Z 0,J Z 0,J Z 0,J Z 0,J Z (-1)] 155 (0,0))):=heap_alloc_new f _;have c1:=r.c1;clear r u l;have a5:=λw=>X8 p (-1) w
 have a4:=λa b w=>xx a b w
 have a0:w.heap.size≠B:=x.1;have a1:w.heap.size≠f.heap.size:=ol;have a2:f.heap.size≠B:=t.1;go_wp2_with fail;clear c1;refine(Zv base B s p b m i q rs _ U A HP.o).mono ?_;rintro e c ⟨rfl,r,u⟩;have I:Hd (PM c base B s (zs s p b) (zw s p b) m i q rs):=r;have K:Hd (Mv base B m i m i w c):=(HM.o).trans u;have l:Hd (c.heap[w.heap.size]?=F (O #[J Z 0,J Z 0,J Z 0,J Z 0,J Z 0,J Z 0,J Z 0] 155 (0,0))):=(u.kept _ (by first|(simp;omega)|(simp[World.size_setCell];exact G.o)) x).1.trans (RH.o);have n:Hd (c.heap[f.heap.size]?=F (O #[J Z p,J Z 0,J Z 0,J Z 0,J Z 0,J Z 0,J Z (-1)] 155 (0,0))):=(u.kept _ (by first|(simp;done)|(simp[World.size_setCell];exact D.o)) t).1.trans (XH.o);have G:Hd (w.heap.size<c.heap.size):=lt_of_block l.o;have D:Hd (f.heap.size<c.heap.size):=lt_of_block n.o;clear r u;have x0:c.cell? ⟨f.heap.size,0,N⟩=F (J Z p):=by simp[World.cell?,n.o]
 have x1:c.cell? ⟨f.heap.size,1,N⟩=F (J Z 0):=by simp[World.cell?,n.o]
 have x2:c.cell? ⟨f.heap.size,2,N⟩=F (J Z 0):=by simp[World.cell?,n.o]
 have x3:c.cell? ⟨f.heap.size,3,N⟩=F (J Z 0):=by simp[World.cell?,n.o]
 have x4:c.cell? ⟨f.heap.size,4,N⟩=F (J Z 0):=by simp[World.cell?,n.o]
 have x5:c.cell? ⟨f.heap.size,5,N⟩=F (J Z 0):=by simp[World.cell?,n.o]
 have x6:c.cell? ⟨f.heap.size,6,N⟩=F (J Z (-1)):=by simp[World.cell?,n.o]
 have xz:∀j,c.frozen? ⟨f.heap.size,j,N⟩=S:=λj=>by simp[World.frozen?,n.o]
 have r0:c.cell? ⟨w.heap.size,0,N⟩=F (J Z 0):=by simp[World.cell?,l.o]
 have r1:c.cell? ⟨w.heap.size,1,N⟩=F (J Z 0):=by simp[World.cell?,l.o]
 have r2:c.cell? ⟨w.heap.size,2,N⟩=F (J Z 0):=by simp[World.cell?,l.o]
 have r3:c.cell? ⟨w.heap.size,3,N⟩=F (J Z 0):=by simp[World.cell?,l.o]
 have Y:c.cell? ⟨w.heap.size,4,N⟩=F (J Z 0):=by simp[World.cell?,l.o]
 have X:c.cell? ⟨w.heap.size,5,N⟩=F (J Z 0):=by simp[World.cell?,l.o]
 have W:c.cell? ⟨w.heap.size,6,N⟩=F (J Z 0):=by simp[World.cell?,l.o]
 have rz:∀j,c.frozen? ⟨w.heap.size,j,N⟩=S:=λj=>by simp[World.frozen?,l.o]
 go_wp2_with fail;exact bodyPost_ret (v:=.agg #[J Z p,J Z (zM s p b),J Z 0,J Z 0,J Z 0,J Z 0,J Z (-1)]) (by simp[results,results170,go_sem,r0,r1,r2,r3,Y,X,W]) rfl ⟨by rw[<-z.o];rfl,m,[],by rw[<-z.o];rfl,by rw[<-z.o,List.append_nil];exact(I.o.setI ⟨_,_,n.o⟩ P.o).setI7 (zL.set ⟨_,_,l.o⟩ _ _ _) Q.o,(K.o.setNew ol ol _).setNew7 (Nat.le_refl _) C _ _ _ _ _ _ _,ot⟩
theorem zaB(ex:Int->Nat->Nat->Bool->CR)(base B:Nat)(s:ByteArray)(d:Int)(k:Nat)(b:Bool)(m i:Value)(q:List (EX×Value))(rs:List RL)(w:World)(U:s.size<=2000)(V:k<=s.size)(h:PM w base B s k b m i q rs)(R:CI)(z:Hd ((zv ex s 102 d q.length k b)=R)):
 Calls E 170 #[.pointer (F ⟨B,0,N⟩),J .u8 102,J Z d] w λe w'=>e=.returned (.agg #[J Z R.im.at_,J Z R.im.num,J Z R.im.pv,J Z R.im.pl,J Z R.im.wv,J Z R.im.wa,J Z R.im.arm])/\∃ev' new,new.map Prod.fst=R.es/\PM w' base B s R.k R.b ev' i (q++new) rs/\Mv base B m i ev' i w w'/\∀p∈new,∀g,p.2.ownBlock=F g->w.heap.size<=g:=by
 have H:Hd (PM (w.alloc (O #[J Z 0,J Z 0,J Z 0,J Z 0,J Z 0,J Z 0,J Z 0] 155)) base B s k b m i q rs):=h.alloc _;have L:Hd (Mv base B m i m i w (w.alloc (O #[J Z 0,J Z 0,J Z 0,J Z 0,J Z 0,J Z 0,J Z 0] 155))):=Mv.alloc h.bs _;have x:=h.outNew;have C:=h.bs;have Q:Hd (Fre w.heap.size q):=h.fre (Nat.le_refl _);clear h;go_enter func170,ntmps170;go_wp2_with fail;refine(yl base B s k b m i q rs _ U V H.o).mono ?_;rintro e f ⟨rfl,r,u⟩;have l:Hd (f.heap[w.heap.size]?=F (O #[J Z 0,J Z 0,J Z 0,J Z 0,J Z 0,J Z 0,J Z 0] 155 (0,0))):=(u.kept _ ot x).1.trans (heap_alloc_new w _);have A:zb s k b<=s.size:=zO V;have a3:k<=zb s k b:=by unfold zb;split<;>first|exact Nat.le_refl _|exact T.sk_ge s k
 unfold zv at z;generalize zb s k b=p at *;have HP:Hd (PM (f.alloc (O #[J Z p,J Z 0,J Z 0,J Z 0,J Z 0,J Z 0,J Z (-1)] 155)) base B s p b m i q rs):=r.alloc _;have HM:Hd (Mv base B m i m i w (f.alloc (O #[J Z p,J Z 0,J Z 0,J Z 0,J Z 0,J Z 0,J Z (-1)] 155))):=(L.o.trans u).trans (Mv.alloc r.bs _);have t:=r.outNew;have P:Hd (Fre f.heap.size q):=r.fre (Nat.le_refl _);have y:w.heap.size<f.heap.size:=lt_of_block l.o;have RH:Hd ((f.alloc (O #[J Z p,J Z 0,J Z 0,J Z 0,J Z 0,J Z 0,J Z (-1)] 155)).heap[w.heap.size]?=F (O #[J Z 0,J Z 0,J Z 0,J Z 0,J Z 0,J Z 0,J Z 0] 155 (0,0))):=(Below.heap_alloc _ _ _ y).trans l.o;have XH:Hd ((f.alloc (O #[J Z p,J Z 0,J Z 0,J Z 0,J Z 0,J Z 0,J Z (-1)] 155)).heap[f.heap.size]?=F (O #[J Z p,J Z 0,J Z 0,J Z 0,J Z 0,J Z 0,J Z (-1)] 155 (0,0))):=heap_alloc_new f _;have c1:=r.c1;clear r u l;have a5:=λw=>X8 p (-1) w
 have a4:=λa b w=>xx a b w
 have a0:w.heap.size≠B:=x.1;have a1:w.heap.size≠f.heap.size:=ol;have a2:f.heap.size≠B:=t.1;go_wp2_with fail;clear c1;refine(Zv base B s p b m i q rs _ U A HP.o).mono ?_;rintro e c ⟨rfl,r,u⟩;have I:Hd (PM c base B s (zs s p b) (zw s p b) m i q rs):=r;have K:Hd (Mv base B m i m i w c):=(HM.o).trans u;have l:Hd (c.heap[w.heap.size]?=F (O #[J Z 0,J Z 0,J Z 0,J Z 0,J Z 0,J Z 0,J Z 0] 155 (0,0))):=(u.kept _ (by first|(simp;omega)|(simp[World.size_setCell];exact G.o)) x).1.trans (RH.o);have n:Hd (c.heap[f.heap.size]?=F (O #[J Z p,J Z 0,J Z 0,J Z 0,J Z 0,J Z 0,J Z (-1)] 155 (0,0))):=(u.kept _ (by first|(simp;done)|(simp[World.size_setCell];exact D.o)) t).1.trans (XH.o);have G:Hd (w.heap.size<c.heap.size):=lt_of_block l.o;have D:Hd (f.heap.size<c.heap.size):=lt_of_block n.o;clear r u;have x0:c.cell? ⟨f.heap.size,0,N⟩=F (J Z p):=by simp[World.cell?,n.o]
 have x1:c.cell? ⟨f.heap.size,1,N⟩=F (J Z 0):=by simp[World.cell?,n.o]
 have x2:c.cell? ⟨f.heap.size,2,N⟩=F (J Z 0):=by simp[World.cell?,n.o]
 have x3:c.cell? ⟨f.heap.size,3,N⟩=F (J Z 0):=by simp[World.cell?,n.o]
 have x4:c.cell? ⟨f.heap.size,4,N⟩=F (J Z 0):=by simp[World.cell?,n.o]
 have x5:c.cell? ⟨f.heap.size,5,N⟩=F (J Z 0):=by simp[World.cell?,n.o]
 have x6:c.cell? ⟨f.heap.size,6,N⟩=F (J Z (-1)):=by simp[World.cell?,n.o]
 have xz:∀j,c.frozen? ⟨f.heap.size,j,N⟩=S:=λj=>by simp[World.frozen?,n.o]
 have r0:c.cell? ⟨w.heap.size,0,N⟩=F (J Z 0):=by simp[World.cell?,l.o]
 have r1:c.cell? ⟨w.heap.size,1,N⟩=F (J Z 0):=by simp[World.cell?,l.o]
 have r2:c.cell? ⟨w.heap.size,2,N⟩=F (J Z 0):=by simp[World.cell?,l.o]
 have r3:c.cell? ⟨w.heap.size,3,N⟩=F (J Z 0):=by simp[World.cell?,l.o]
 have Y:c.cell? ⟨w.heap.size,4,N⟩=F (J Z 0):=by simp[World.cell?,l.o]
 have X:c.cell? ⟨w.heap.size,5,N⟩=F (J Z 0):=by simp[World.cell?,l.o]
 have W:c.cell? ⟨w.heap.size,6,N⟩=F (J Z 0):=by simp[World.cell?,l.o]
 have rz:∀j,c.frozen? ⟨w.heap.size,j,N⟩=S:=λj=>by simp[World.frozen?,l.o]
 go_wp2_with fail;exact bodyPost_ret (v:=.agg #[J Z p,J Z (zM s p b),J Z 0,J Z 0,J Z 0,J Z 0,J Z (-1)]) (by simp[results,results170,go_sem,r0,r1,r2,r3,Y,X,W]) rfl ⟨by rw[<-z.o];rfl,m,[],by rw[<-z.o];rfl,by rw[<-z.o,List.append_nil];exact(I.o.setI ⟨_,_,n.o⟩ P.o).setI7 (zL.set ⟨_,_,l.o⟩ _ _ _) Q.o,(K.o.setNew ol ol _).setNew7 (Nat.le_refl _) C _ _ _ _ _ _ _,ot⟩
theorem zci(ex:Int->Nat->Nat->Bool->CR)(base B:Nat)(s:ByteArray)(d:Int)(k:Nat)(b:Bool)(n l:Value)(y:List (EX×Value))(rs:List RL)(w:World)(L:s.size<=2000)(hk:k<=s.size)(h:PM w base B s k b n l y rs)(R:CI)(P:Hd ((zv ex s 119 d y.length k b)=R)):
 Calls E 170 #[.pointer (F ⟨B,0,N⟩),J .u8 119,J Z d] w λe w'=>e=.returned (.agg #[J Z R.im.at_,J Z R.im.num,J Z R.im.pv,J Z R.im.pl,J Z R.im.wv,J Z R.im.wa,J Z R.im.arm])/\∃ev' new,new.map Prod.fst=R.es/\PM w' base B s R.k R.b ev' l (y++new) rs/\Mv base B n l ev' l w w'/\∀p∈new,∀g,p.2.ownBlock=F g->w.heap.size<=g:=by
 have H:Hd (PM (w.alloc (O #[J Z 0,J Z 0,J Z 0,J Z 0,J Z 0,J Z 0,J Z 0] 155)) base B s k b n l y rs):=h.alloc _;have a2:Hd (Mv base B n l n l w (w.alloc (O #[J Z 0,J Z 0,J Z 0,J Z 0,J Z 0,J Z 0,J Z 0] 155))):=Mv.alloc h.bs _;have x:=h.outNew;have U:=h.bs;have a3:Hd (Fre w.heap.size y):=h.fre (Nat.le_refl _);clear h;go_enter func170,ntmps170;go_wp2_with fail;refine(yl base B s k b n l y rs _ L hk H.o).mono ?_;rintro e c ⟨rfl,r,q⟩;have m:Hd (c.heap[w.heap.size]?=F (O #[J Z 0,J Z 0,J Z 0,J Z 0,J Z 0,J Z 0,J Z 0] 155 (0,0))):=(q.kept _ ot x).1.trans (heap_alloc_new w _);have C:zb s k b<=s.size:=zO hk;have a6:k<=zb s k b:=by unfold zb;split<;>first|exact Nat.le_refl _|exact T.sk_ge s k
 unfold zv at P;generalize zb s k b=p at *;have HP:Hd (PM (c.alloc (O #[J Z p,J Z 0,J Z 0,J Z 0,J Z 0,J Z 0,J Z (-1)] 155)) base B s p b n l y rs):=r.alloc _;have HM:Hd (Mv base B n l n l w (c.alloc (O #[J Z p,J Z 0,J Z 0,J Z 0,J Z 0,J Z 0,J Z (-1)] 155))):=(a2.o.trans q).trans (Mv.alloc r.bs _);have t:=r.outNew;have D:Hd (Fre c.heap.size y):=r.fre (Nat.le_refl _);have I:w.heap.size<c.heap.size:=lt_of_block m.o;have RH:Hd ((c.alloc (O #[J Z p,J Z 0,J Z 0,J Z 0,J Z 0,J Z 0,J Z (-1)] 155)).heap[w.heap.size]?=F (O #[J Z 0,J Z 0,J Z 0,J Z 0,J Z 0,J Z 0,J Z 0] 155 (0,0))):=(Below.heap_alloc _ _ _ I).trans m.o;have XH:Hd ((c.alloc (O #[J Z p,J Z 0,J Z 0,J Z 0,J Z 0,J Z 0,J Z (-1)] 155)).heap[c.heap.size]?=F (O #[J Z p,J Z 0,J Z 0,J Z 0,J Z 0,J Z 0,J Z (-1)] 155 (0,0))):=heap_alloc_new c _;have c1:=r.c1;clear r q m;have a8:=λw=>X8 p (-1) w
 have a7:=λa b w=>xx a b w
 have a4:w.heap.size≠B:=x.1;have Q:w.heap.size≠c.heap.size:=ol;have a5:c.heap.size≠B:=t.1;go_wp2_with fail;clear c1;refine(Zv base B s p b n l y rs _ L C HP.o).mono ?_;rintro e u ⟨rfl,r,q⟩;have X:Hd _:=r;have a1:Hd (Mv base B n l n l w u):=(HM.o).trans q;have m:Hd (u.heap[w.heap.size]?=F (O #[J Z 0,J Z 0,J Z 0,J Z 0,J Z 0,J Z 0,J Z 0] 155 (0,0))):=(q.kept _ (by first|(simp;omega)|(simp[World.size_setCell];exact A.o)) x).1.trans (RH.o);have f:Hd (u.heap[c.heap.size]?=F (O #[J Z p,J Z 0,J Z 0,J Z 0,J Z 0,J Z 0,J Z (-1)] 155 (0,0))):=(q.kept _ (by first|(simp;done)|(simp[World.size_setCell];exact z.o)) t).1.trans (XH.o);have A:Hd (w.heap.size<u.heap.size):=lt_of_block m.o;have z:Hd (c.heap.size<u.heap.size):=lt_of_block f.o;clear r q;have x0:u.cell? ⟨c.heap.size,0,N⟩=F (J Z p):=by simp[World.cell?,f.o]
 have x1:u.cell? ⟨c.heap.size,1,N⟩=F (J Z 0):=by simp[World.cell?,f.o]
 have x2:u.cell? ⟨c.heap.size,2,N⟩=F (J Z 0):=by simp[World.cell?,f.o]
 have x3:u.cell? ⟨c.heap.size,3,N⟩=F (J Z 0):=by simp[World.cell?,f.o]
 have x4:u.cell? ⟨c.heap.size,4,N⟩=F (J Z 0):=by simp[World.cell?,f.o]
 have x5:u.cell? ⟨c.heap.size,5,N⟩=F (J Z 0):=by simp[World.cell?,f.o]
 have x6:u.cell? ⟨c.heap.size,6,N⟩=F (J Z (-1)):=by simp[World.cell?,f.o]
 have xz:∀j,u.frozen? ⟨c.heap.size,j,N⟩=S:=λj=>by simp[World.frozen?,f.o]
 go_wp2_with fail;clear x0 x1 x2 x3 x4 x5 x6 xz;refine(yW base B s 42 _ _ n l y rs _ L (yb C) oq (X.o.setI ⟨_,_,f.o⟩ D.o)).mono ?_;rintro e G ⟨rfl,r,q⟩;have W:Hd _:=r;have a0:Hd (Mv base B n l n l w G):=(a1.o.setNew ol ol _).trans q;have m:Hd (G.heap[w.heap.size]?=F (O #[J Z 0,J Z 0,J Z 0,J Z 0,J Z 0,J Z 0,J Z 0] 155 (0,0))):=(q.kept _ (by first|(simp;omega)|(simp[World.size_setCell];exact A.o)) x).1.trans (by rw[za Q];exact m.o);have f:Hd (G.heap[c.heap.size]?=F (O #[J Z p,J Z (zM s p b),J Z 0,J Z 0,J Z 0,J Z 0,J Z (-1)] 155 (0,0))):=(q.kept _ (by first|(simp;done)|(simp[World.size_setCell];exact z.o)) t).1.trans (z9 f.o);have A:Hd (w.heap.size<G.heap.size):=lt_of_block m.o;have z:Hd (c.heap.size<G.heap.size):=lt_of_block f.o;clear r q;generalize hk2:zc s 42 (zs s p b) (zw s p b)=k2 at *;generalize hb2:zk s 42 (zs s p b) (zw s p b)=b2 at *;have K:k2<=s.size:=by rw[<-hk2];exact zu oq (yb C)
 clear hk2 hb2;go_wp2_with fail;refine(Zv base B s k2 b2 n l y rs _ L K W.o).mono ?_;rintro e i ⟨rfl,r,q⟩;have V:Hd _:=r;have Y:Hd (Mv base B n l n l w i):=(a0.o).trans q;have m:Hd (i.heap[w.heap.size]?=F (O #[J Z 0,J Z 0,J Z 0,J Z 0,J Z 0,J Z 0,J Z 0] 155 (0,0))):=(q.kept _ A.o x).1.trans (m.o);have f:Hd (i.heap[c.heap.size]?=F (O #[J Z p,J Z (zM s p b),J Z 0,J Z 0,J Z 0,J Z 0,J Z (-1)] 155 (0,0))):=(q.kept _ z.o t).1.trans (f.o);have A:Hd (w.heap.size<i.heap.size):=lt_of_block m.o;have z:Hd (c.heap.size<i.heap.size):=lt_of_block f.o;clear r q;have x0:i.cell? ⟨c.heap.size,0,N⟩=F (J Z p):=by simp[World.cell?,f.o]
 have x1:i.cell? ⟨c.heap.size,1,N⟩=F (J Z (zM s p b)):=by simp[World.cell?,f.o]
 have x2:i.cell? ⟨c.heap.size,2,N⟩=F (J Z 0):=by simp[World.cell?,f.o]
 have x3:i.cell? ⟨c.heap.size,3,N⟩=F (J Z 0):=by simp[World.cell?,f.o]
 have x4:i.cell? ⟨c.heap.size,4,N⟩=F (J Z 0):=by simp[World.cell?,f.o]
 have x5:i.cell? ⟨c.heap.size,5,N⟩=F (J Z 0):=by simp[World.cell?,f.o]
 have x6:i.cell? ⟨c.heap.size,6,N⟩=F (J Z (-1)):=by simp[World.cell?,f.o]
 have xz:∀j,i.frozen? ⟨c.heap.size,j,N⟩=S:=λj=>by simp[World.frozen?,f.o]
 have r0:i.cell? ⟨w.heap.size,0,N⟩=F (J Z 0):=by simp[World.cell?,m.o]
 have r1:i.cell? ⟨w.heap.size,1,N⟩=F (J Z 0):=by simp[World.cell?,m.o]
 have r2:i.cell? ⟨w.heap.size,2,N⟩=F (J Z 0):=by simp[World.cell?,m.o]
 have r3:i.cell? ⟨w.heap.size,3,N⟩=F (J Z 0):=by simp[World.cell?,m.o]
 have r4:i.cell? ⟨w.heap.size,4,N⟩=F (J Z 0):=by simp[World.cell?,m.o]
 have r5:i.cell? ⟨w.heap.size,5,N⟩=F (J Z 0):=by simp[World.cell?,m.o]
 have r6:i.cell? ⟨w.heap.size,6,N⟩=F (J Z 0):=by simp[World.cell?,m.o]
 have rz:∀j,i.frozen? ⟨w.heap.size,j,N⟩=S:=λj=>by simp[World.frozen?,m.o]
 go_wp2_with fail;exact bodyPost_ret (v:=.agg #[J Z p,J Z (zM s p b),J Z 0,J Z 0,J Z (zM s k2 b2),J Z (zb s k2 b2),J Z (-1)]) (by simp[results,results170,go_sem,r0,r1,r2,r3,r4,r5,r6]) rfl ⟨by rw[<-P.o];rfl,n,[],by rw[<-P.o];rfl,by rw[<-P.o,List.append_nil];exact((V.o.setI ⟨_,_,f.o⟩ D.o).setI (zL.set ⟨_,_,f.o⟩ _ _ _) D.o).setI7 (zL.set (zL.set ⟨_,_,m.o⟩ _ _ _) _ _ _) a3.o,((Y.o.setNew ol ol _).setNew ol ol _).setNew7 (Nat.le_refl _) U _ _ _ _ _ _ _,ot⟩
end Go.Proofs.YtaebngpoagjafabGreat
