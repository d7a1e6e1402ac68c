import Derived.Test.YtaebngpoagjafabGreatQ34
set_option maxRecDepth 100000
set_option maxHeartbeats 3200000
namespace Go.Proofs.YtaebngpoagjafabGreat
open Option renaming some → F,none → N
open Bool renaming true → S,false → T
open Proofs.Tryz renaming prog → A
open Proofs.Tryz
open Obj renaming cells → X
open Value renaming int → J, slice → O
open IntKind renaming i64 → Z
open Go.RowKit
attribute [local go_sem ↓] Go.wp_at_zero Go.wp_at_succ
theorem J3(t:Option Addr)(b n c:Nat)(V L:Nat->Int)(a:Int)(w:World)(v:0<=a)(u:a<4294967296)(K:n<=255)(j:PS w t b n V L)(r:∀i,i<n->0<=L i/\L i<=255/\0<=V i/\V i<4294967296):
 Calls A 114 #[O t n c,J Z a] w λe w'=>e=.returned (.tuple #[J Z (M.bestTo V L a n),J Z (M.depTo V L a n)])/\Below w.heap.size w w':=by
 go_enter func114,ntmps114;go_wp2
 go_loopw [6,7,8,15] (λx y z i wr=>∃k:Nat,k<=n/\i=J Z k/\x=J Z (M.bestTo V L a k)/\y=J Z (M.bitsTo V L a k)/\z=J Z (M.depTo V L a k)/\Below w.heap.size w wr) (λ_ _ _ i _=>n-(intOf i).toNat)
 case atStart=>exact⟨0,ol,rfl,rfl,rfl,rfl,Below.refl _ _⟩
 case round =>
  obtain⟨k,P,rfl,rfl,rfl,rfl,g⟩:=hrel;by_cases f:k<n
  ·obtain rfl:=j.at_ ol;have d:=j.below g;have H:=d.val k f;have N:=d.len k f;have E:b<wr.heap.size:=d.lt ol;have h:Hd (Below w.heap.size w wr):=g;obtain⟨G,F,q,p⟩:=r k f;have C:=M.sh_le (V k) a;clear j g d r;by_cases s:(M.sh (V k) a:Int)<L k
   ·have m:Hd (M.need V L a k=M.sh (V k) a+1):=(by show _=_;unfold M.need;rw[if_pos s]);by_cases D:M.depTo V L a k<M.sh (V k) a+1
    all_goals
     go_wp2_with (go_at_call 146;refine(YS _ _ _ q p v u).mono ?_;rintro e w' ⟨rfl,rfl⟩)
     go_roundw
     case rel=>exact⟨k+1,ol,by go_num,yy (M.step_best _ _ _ _ _ (by rw[if_neg ol])),yy (M.step_bits _ _ _ _ _ (by rw[if_neg ol])),yy (M.step_dep _ _ _ _ _ _ m.o (by split<;>omega)),h.o.trans (Below.mono (B:=wr.heap.size) (by repeat(first|exact Below.refl _ _|refine zC ?_ _|refine Below.drew ?_|refine Below.alloc ?_ ot _|refine Below.setCell ?_ ot _)) h.o.size)⟩
     case measure=>simp[intOf];omega
   ·have m:Hd (M.need V L a k=L k):=(by show _=_;unfold M.need;rw[if_neg s]);by_cases D:M.depTo V L a k<L k
    all_goals
     by_cases I:M.bitsTo V L a k<L k
     all_goals
      go_wp2_with (go_at_call 146;refine(YS _ _ _ q p v u).mono ?_;rintro e w' ⟨rfl,rfl⟩)
      go_roundw
      case rel=>exact⟨k+1,ol,by go_num,yy (M.step_best _ _ _ _ _ (by split<;>omega)),yy (M.step_bits _ _ _ _ _ (by split<;>omega)),yy (M.step_dep _ _ _ _ _ _ m.o (by split<;>omega)),h.o.trans (Below.mono (B:=wr.heap.size) (by repeat(first|exact Below.refl _ _|refine zC ?_ _|refine Below.drew ?_|refine Below.alloc ?_ ot _|refine Below.setCell ?_ ot _)) h.o.size)⟩
      case measure=>simp[intOf];omega
  ·have l:k=n:=(by omega);subst l;go_wp2
   go_ret2;exact⟨rfl,g⟩
def amA(C:List Int)(r:RD):Nat->List (Int×Int)
 |0=>[]
 |i+1=>amA C r i++[(arV C r i,arL C r i)]
def amW(C:List Int)(r:RD):Nat->List Int
 |0=>[]
 |i+1=>amW C r i++[arW C r i]
theorem Qm(C:List Int)(r:RD):∀i,(amA C r i).length=i:=by
 intro i;induction i with
 |zero=>rfl
 |succ i ih=>simp[amA,ih]
theorem Ql(C:List Int)(r:RD):∀i,(amW C r i).length=i:=by
 intro i;induction i with
 |zero=>rfl
 |succ i ih=>simp[amW,ih]
theorem zeE(C:List Int)(r:RD):∀n i,i<n->(amA C r n)[i]?=F (arV C r i,arL C r i):=by
 intro n;induction n with
 |zero=>intro i h;omega
 | succ n ih =>
  intro i h;simp only[amA];by_cases a:i<n
  ·rw[List.getElem?_append_left (by rw[Qm];exact a)];exact ih i a
  ·have:i=n:=by omega
   subst this;rw[List.getElem?_append_right (by rw[Qm];exact Nat.le_refl _),Qm];simp
theorem zgV(C:List Int)(r:RD):∀n i,i<n->(amW C r n)[i]?=F (arW C r i):=by
 intro n;induction n with
 |zero=>intro i h;omega
 | succ n ih =>
  intro i h;simp only[amW];by_cases a:i<n
  ·rw[List.getElem?_append_left (by rw[Ql];exact a)];exact ih i a
  ·have:i=n:=by omega
   subst this;rw[List.getElem?_append_right (by rw[Ql];exact Nat.le_refl _),Ql];simp
theorem zgh(C:List Int)(r:RD):∀i,r.p<=(amR C r i).p/\(amR C r i).p<=r.p+7*i:=by
 intro i;induction i with
 |zero=>simp[amR]
 | succ i ih =>
  have e:=ZD C (amR C r i) 4 0 4294967295;have d:=ZD C (amV C (amR C r i)) 1 0 32;have c:=ZD C (amL C (amR C r i)) 2 0 32000;have b:(amL C (amR C r i)).p=(num C (amV C (amR C r i)) 1 0 32).p:=rfl;have a:(amV C (amR C r i)).p=(num C (amR C r i) 4 0 4294967295).p:=rfl;simp only[amR];omega
theorem q8{C:List Int}(h:∀x∈C,0<=x/\x<256)(r:RD):0<=rdN C r 1/\rdN C r 1<=255:=by
 have b:=Qy h r 1;have a:yY 1=256:=oq;rw[a]at b;omega
theorem jJ{C:List Int}(h:∀x∈C,0<=x/\x<256)(r:RD):0<=rdN C r 4/\rdN C r 4<4294967296:=by
 have b:=Qy h r 4;have a:yY 4=4294967296:=oq;rw[a]at b;omega
theorem RM.keep{w w':World}{base B:Nat}{d:Option Addr}{f a e:Nat}{C:List Int}{W:RW}{D:Array Value}{i c:Value}{s:RT}(h:RM w base B d f a e C W D i c s)(k:w'.heap[B]?=w.heap[B]?)(j:∀g,c.ownBlock=F g->w'.heap[g]?=w.heap[g]?)(l:∀b,b<base->w'.heap[b]?=w.heap[b]?):RM w' base B d f a e C W D i c s :=
 ⟨k.trans h.blk,h.dsz,h.dn,zd h.row j,h.hB,h.code.of_kept l⟩
theorem jK(base B:Nat)(Y:Option Addr)(cb d cc:Nat)(C:List Int)(W:RW)(D:Array Value)(av z:Value)(s:RT)(w:World)(hp:s.r.p<=900000000000000000-10000)(a0:0<=W.addr)(a1:W.addr<4294967296)(h:RM w base B Y cb d cc C W D av z s):
 Calls A 109 #[.pointer (F ⟨B,0,N⟩)] w λe w'=>e=.returned (.tuple #[])/\RM w' base B Y cb d cc C W D av z (yw W C s)/\Below base w w':=by
 obtain⟨i0,i2,g5,g4,g3⟩:=info_parts infoInt;obtain⟨j0,i1,g8,g7,g6⟩:=info_parts infoPrefix;have H:Hd _:=h;have a4:Hd (∀x∈C,0<=x/\x<256):=h.code.byt;have o6:Hd _:=h.bs;have a3:Hd (base<=B):=h.hB;clear h;go_enter func109,ntmps109;go_wp2_with fail;refine(YO base B Y cb d cc C W D av z s _ ol H.o).mono ?_;rintro e w1 ⟨rfl,hm,hv⟩;have n9:Hd (RM ((w1.alloc (X #[] 94)).alloc (X #[] 3)) base B Y cb d cc C W D av z ⟨cnR C s.r,s.sv,s.ttl,s.sc⟩):=(hm.alloc _).alloc _;have o8:Hd (Below base w ((w1.alloc (X #[] 94)).alloc (X #[] 3))):=((hv.below a3.o o6.o).alloc hm.bs _).alloc (hm.alloc _).bs _;have o9:Hd (((w1.alloc (X #[] 94)).alloc (X #[] 3)).ownsRow base 94 2 (O (F ⟨w1.heap.size,0,N⟩) 0 0) 0 []):=by
  refine World.ownsRow.alloc ?_ _;exact⟨rfl,.inr ⟨w1.heap.size,0,#[],rfl,hm.bs,zl _ rfl,Nat.le_refl _,oq,rfl,rfl⟩⟩
 have n3:Hd (((w1.alloc (X #[] 94)).alloc (X #[] 3)).ownsRow base 3 1 (O (F ⟨w1.heap.size+1,0,N⟩) 0 0) 0 []):=⟨rfl,.inr ⟨w1.heap.size+1,0,#[],rfl,by have:=hm.bs;omega,zl _ ot,Nat.le_refl _,oq,rfl,rfl⟩⟩;have o5:Hd (∀b,z.ownBlock=F b->b≠w1.heap.size+1):=λb f=>by have:=(hm.row.lt b f).2;omega
 clear hm hv;obtain⟨i4,e9⟩:=qE a4.o s.r;rw[i4];have i3:=ZD C s.r 1 1 16;have j1:Hd (yw W C s=⟨⟨(amR C (cnR C s.r) (cnN C s.r)).p+(if M.bestTo (arV C (cnR C s.r)) (arL C (cnR C s.r)) W.addr (cnN C s.r)<0 then 0 else(arW C (cnR C s.r) (M.bestTo (arV C (cnR C s.r)) (arL C (cnR C s.r)) W.addr (cnN C s.r)).toNat).toNat),(amR C (cnR C s.r) (cnN C s.r)).b⟩,s.sv,s.ttl,nar (M.depTo (arV C (cnR C s.r)) (arL C (cnR C s.r)) W.addr (cnN C s.r)) s.sc⟩):=rfl;have p0:(cnR C s.r).p<=s.r.p+1:=i3.2;generalize cnN C s.r=n at *;generalize cnR C s.r=r at *;clear i4 i3;go_wp2_with fail;go_loopg [3,4,5] n (λq u v y wr=>∃(i:Nat) (wo:Option Addr) (wc:Nat),q+i=n/\v=O wo (amW C r i).length wc/\y=J Z i/\RM wr base B Y cb d cc C W D av z ⟨amR C r i,s.sv,s.ttl,s.sc⟩/\wr.ownsRow base 94 2 u (amA C r i).length (mbC (amA C r i))/\wr.ownsRow base 3 1 (O wo (amW C r i).length wc) (amW C r i).length ((amW C r i).map (J Z))/\(∀b,z.ownBlock=F b->(O wo (amW C r i).length wc).ownBlock≠F b)/\Below base w wr)
 case atStart=>exact⟨0,some ⟨w1.heap.size+1,0,none⟩,0,ol,rfl,rfl,n9.o,o9.o,n3.o,λb f e=>o5.o b f (by simpa[Value.ownBlock]using e.symm),o8.o⟩
 case round =>
  obtain⟨i,wo,wc,hq,rfl,rfl,hm,hu,hw,e2,f⟩:=hrel;have HM:Hd _:=hm;have HU:Hd (wr.ownsRow base 94 2 u3 (amA C r i).length (mbC (amA C r i))):=hu;have HW:Hd (wr.ownsRow base 3 1 (O wo (amW C r i).length wc) (amW C r i).length ((amW C r i).map (J Z))):=hw;have HD:Hd _:=e2;have f6:Hd (u3.ownBlock≠F B):=zi hu hm.blk oq;have b0:Hd ((O wo (amW C r i).length wc).ownBlock≠F B):=zi hw hm.blk oq;have HB:Hd _:=f;clear hm f hu hw e2;have p7:=zgh C r i;have K:Hd ((amA C r i).length=i):=Qm C r i;have I:Hd ((amW C r i).length=i):=Ql C r i;by_cases q2:i<n
  ·have h7:(i:Int)<(n:Int):=(by omega);have q1:=ZD C (amR C r i) 4 0 4294967295;have q0:=ZD C (amV C (amR C r i)) 1 0 32;have p8:(amV C (amR C r i)).p=(num C (amR C r i) 4 0 4294967295).p:=rfl;have p9:(amL C (amR C r i)).p=(num C (amV C (amR C r i)) 1 0 32).p:=rfl;have f2:base<=wr.heap.size:=HM.o.bs
   -- the arm's own block
   have k4:Hd (RM (wr.alloc (X #[J Z 0,J Z 0] 94)) base B Y cb d cc C W D av z ⟨amR C r i,s.sv,s.ttl,s.sc⟩):=HM.o.alloc _;have n5:Hd ((wr.alloc (X #[J Z 0,J Z 0] 94)).heap[wr.heap.size]?=F (X #[J Z 0,J Z 0] 94 (0,0))):=heap_alloc_new wr _;have c5:Hd (wr.heap.size≠B):=λe=>by have:=HM.o.lt;omega
   have f7:Hd (∀g,z.ownBlock=F g->g<wr.heap.size):=λg hg=>(HM.o.row.lt g hg).2
   go_wp2_with fail;refine(Ze base B Y cb d cc C W D av z _ 4 0 4294967295 4 _ rfl oq ox k4.o).mono ?_;rintro e w2 ⟨rfl,h5,d3⟩;have e0:Hd _:=h5;have o4:Hd (∀b,b<wr.heap.size->b≠B->w2.heap[b]?=wr.heap[b]?):=λb f hn=>(d3.kept b ow hn).trans (Below.heap_alloc _ _ _ f)
   have d5:w2.heap[wr.heap.size]?=F (X #[J Z 0,J Z 0] 94 (0,0)):=(d3.kept _ ot c5.o).trans n5.o;have n7:Hd _:=d5;have m1:Hd (Below base w w2):=(HB.o.alloc f2 _).trans (d3.below a3.o k4.o.bs);have x0:w2.cell? ⟨wr.heap.size,0,N⟩=F (J Z 0):=(by rw[cell_of_row _ _ _ _ _ _ d5];rfl);have f0:w2.frozen? ⟨wr.heap.size,0,N⟩=T:=(by simp[World.frozen?,d5]);clear h5 d3 d5;simp only;have i9:Hd (arV C r i=rdN C (amR C r i) 4):=rfl;have p5:=jJ a4.o (amR C r i);generalize rdN C (amR C r i) 4=v at *;go_wp2_with fail
   -- the value is stored
   have c8:Hd (RM (w2.setCell ⟨wr.heap.size,0,N⟩ (J Z v)) base B Y cb d cc C W D av z ⟨amV C (amR C r i),s.sv,s.ttl,s.sc⟩):=e0.o.keep (za c5.o.symm) (λg hg=>za (by have:=f7.o g hg;omega)) (λb f=>za ol);have k3:Hd ((w2.setCell ⟨wr.heap.size,0,N⟩ (J Z v)).heap[wr.heap.size]?=F (X #[J Z v,J Z 0] 94 (0,0))):=(by show _=_;rw[zH n7.o];rfl);have o3:Hd (∀b,b<wr.heap.size->b≠B->(w2.setCell ⟨wr.heap.size,0,N⟩ (J Z v)).heap[b]?=wr.heap[b]?):=λb f hn=>(za ol).trans (o4.o b f hn)
   have m0:Hd (Below base w (w2.setCell ⟨wr.heap.size,0,N⟩ (J Z v))):=m1.o.setCell f2 _;clear x0 f0;generalize w2.setCell ⟨wr.heap.size,0,N⟩ (J Z v)=w3 at *;refine(Ze base B Y cb d cc C W D av z _ 1 0 32 1 _ rfl oq ox c8.o).mono ?_;rintro e w4 ⟨rfl,h4,d2⟩;have n8:Hd _:=h4;have m9:wr.heap.size<w3.heap.size:=lt_of_block k3.o;have o2:Hd (∀b,b<wr.heap.size->b≠B->w4.heap[b]?=wr.heap[b]?):=λb f hn=>(d2.kept b ol hn).trans (o3.o b f hn)
   have b2:w4.heap[wr.heap.size]?=F (X #[J Z v,J Z 0] 94 (0,0)):=(d2.kept _ m9 c5.o).trans k3.o;have n6:Hd _:=b2;have k9:Hd (Below base w w4):=m0.o.trans (d2.below a3.o c8.o.bs);have x1:w4.cell? ⟨wr.heap.size,1,N⟩=F (J Z 0):=(by rw[cell_of_row _ _ _ _ _ _ b2];rfl);have f1:w4.frozen? ⟨wr.heap.size,1,N⟩=T:=(by simp[World.frozen?,b2]);have y0:w4.cell? ⟨wr.heap.size,0,N⟩=F (J Z v):=(by rw[cell_of_row _ _ _ _ _ _ b2];rfl);clear h4 d2 b2;simp only;have o0:Hd (arL C r i=rdN C (amV C (amR C r i)) 1):=rfl;have g1:Hd (amL C (amR C r i)=⟨(num C (amV C (amR C r i)) 1 0 32).p,if M.isP (arV C r i) (rdN C (amV C (amR C r i)) 1)=S then(num C (amV C (amR C r i)) 1 0 32).b else S⟩):=rfl;have q3:=q8 a4.o (amV C (amR C r i));generalize rdN C (amV C (amR C r i)) 1=l at *;rw[i9.o]at g1;go_wp2_with fail;have f8:Hd (RM (w4.setCell ⟨wr.heap.size,1,N⟩ (J Z l)) base B Y cb d cc C W D av z ⟨num C (amV C (amR C r i)) 1 0 32,s.sv,s.ttl,s.sc⟩):=n8.o.keep (za c5.o.symm) (λg hg=>za (by have:=f7.o g hg;omega)) (λb f=>za ol);have k2:Hd ((w4.setCell ⟨wr.heap.size,1,N⟩ (J Z l)).heap[wr.heap.size]?=F (X #[J Z v,J Z l] 94 (0,0))):=(by show _=_;rw[zH n6.o];rfl);have o1:Hd (∀b,b<wr.heap.size->b≠B->(w4.setCell ⟨wr.heap.size,1,N⟩ (J Z l)).heap[b]?=wr.heap[b]?):=λb f hn=>(za ol).trans (o2.o b f hn)
   have k8:Hd (Below base w (w4.setCell ⟨wr.heap.size,1,N⟩ (J Z l))):=k9.o.setCell f2 _;clear x1 f1 y0;generalize w4.setCell ⟨wr.heap.size,1,N⟩ (J Z l)=w5 at *;refine(xg v l _).mono ?_;rintro e w6 ⟨rfl,a6⟩;have m8:wr.heap.size<w5.heap.size:=lt_of_block k2.o;have d9:Hd (RM w6 base B Y cb d cc C W D av z ⟨num C (amV C (amR C r i)) 1 0 32,s.sv,s.ttl,s.sc⟩):=f8.o.keep (a6.block _ f8.o.lt) (λg hg=>a6.block g (by have:=f7.o g hg;omega)) (λb f=>a6.block b ol);have d4:w6.heap[wr.heap.size]?=F (X #[J Z v,J Z l] 94 (0,0)):=(a6.block _ m8).trans k2.o;have k1:Hd _:=d4;have k6:Hd (∀b,b<wr.heap.size->b≠B->w6.heap[b]?=wr.heap[b]?):=λb f hn=>(a6.block b ol).trans (o1.o b f hn)
   have e5:Hd (Below base w w6):=k8.o.trans (a6.mono (by have:=f8.o.bs;omega));have y0:w6.cell? ⟨wr.heap.size,0,N⟩=F (J Z v):=(by rw[cell_of_row _ _ _ _ _ _ d4];rfl);have y1:w6.cell? ⟨wr.heap.size,1,N⟩=F (J Z l):=(by rw[cell_of_row _ _ _ _ _ _ d4];rfl);have c2:=d9.o.c2;have z2:=d9.o.fz 2;clear a6 d4
   -- bad or not: the run behind it
   obtain⟨w7,i7,c7,k0,k5,e4⟩:∃w7,Hd (w7=if M.isP v l=S then w6 else w6.setCell ⟨B,2,N⟩ (.bool S))/\Hd (RM w7 base B Y cb d cc C W D av z ⟨amL C (amR C r i),s.sv,s.ttl,s.sc⟩)/\Hd (w7.heap[wr.heap.size]?=F (X #[J Z v,J Z l] 94 (0,0)))/\Hd (∀b,b<wr.heap.size->b≠B->w7.heap[b]?=wr.heap[b]?)/\Hd (Below base w w7):=by
    by_cases hP:M.isP v l=S
    ·refine⟨w6,by show _=_;rw[if_pos hP],?_,k1,k6,e5⟩;show RM _ _ _ _ _ _ _ _ _ _ _ _ _;rw[g1.o,if_pos hP];exact d9.o
    ·refine⟨w6.setCell ⟨B,2,N⟩ (.bool S),by show _=_;rw[if_neg hP],?_,?_,λb f hn=>(za hn).trans (k6.o b f hn),e5.o.setCell a3.o _⟩
     ·show RM _ _ _ _ _ _ _ _ _ _ _ _ _;rw[g1.o,if_neg hP];exact d9.o.bad S
     ·show _=_;rw[za c5.o];exact k1.o
   have v0:w7.cell? ⟨wr.heap.size,0,N⟩=F (J Z v):=(by rw[cell_of_row _ _ _ _ _ _ k0.o];rfl);have v1:w7.cell? ⟨wr.heap.size,1,N⟩=F (J Z l):=(by rw[cell_of_row _ _ _ _ _ _ k0.o];rfl);have P:Hd (w7.ownsRow base 94 2 u3 (amA C r i).length (mbC (amA C r i))):=zd HU.o (λb f=>k5.o b (HU.o.lt b f).2 (λe=>f6.o (by rw[<-e];exact f)));have a8:Hd (w7.ownsRow base 3 1 (O wo (amW C r i).length wc) (amW C r i).length ((amW C r i).map (J Z))):=zd HW.o (λb f=>k5.o b (HW.o.lt b f).2 (λe=>b0.o (by rw[<-e];exact f)));have e3:base<=w7.heap.size:=c7.o.bs;have i6:Hd ((amA C r i).length+1<=maxLen):=(by show _<=_;rw[K.o];unfold maxLen;omega);have i5:Hd (((amA C r i).length+1)*16<=140737488355328):=(by show _<=_;rw[K.o];omega);have d8:Hd (base<=(w7.alloc (X #[J Z v,J Z l] 94)).heap.size):=mc;have e1:Hd (∀u∈[J Z v,J Z l],u.oneCell'=S):=λu hu=>by simp at hu;rcases hu with rfl|rfl<;>rfl
   have k7:Hd (amA C r (i+1)=amA C r i++[(v,l)]):=(by show _=_;simp only[amA];rw[i9.o,o0.o]);cases hP:M.isP v l with
   | true =>
    have b1:w7=w6:=(by rw[i7.o,if_pos hP]);subst b1;clear hP y0 y1;go_wp2_with (at_builtin;refine wpList_append_lies _ rfl _ _ 98 rfl base 94 j0 _ 2 16 underlying98 i1 g8 g7 g6 rfl oq u3 _ _ rfl (P.o.alloc _) ⟨w7.heap.size,0,N⟩ 1 1 [J Z v,J Z l] rfl rfl (World.news_of_block (cs:=#[J Z v,J Z l]) (t:=94) (fr:=(0,0)) (heap_alloc_new w7 _)) e1.o (Nat.lt_succ_self 0) i6.o i5.o d8.o (w7.heap.size+1) ot ?_;intro g a2 w8 j c R h6)
    have a7:Hd (RM w8 base B Y cb d cc C W D av z ⟨amL C (amR C r i),s.sv,s.ttl,s.sc⟩):=(c7.o.alloc (X #[J Z v,J Z l] 94)).grown c f6.o (zV (c7.o.alloc (X #[J Z v,J Z l] 94)).row (P.o.alloc (X #[J Z v,J Z l] 94)) oq) (λk E=>(P.o.lt k E).1);have g0:Hd (Below base w w8):=(e4.o.alloc e3 (X #[J Z v,J Z l] 94)).grown c d8.o (λk E=>(P.o.lt k E).1);have c0:Hd (w8.ownsRow base 94 2 (O (F ⟨g,0,N⟩) ((amA C r i).length+1) a2) (amA C r (i+1)).length (mbC (amA C r (i+1)))):=(by show World.ownsRow _ _ _ _ _ _ _;rw[k7.o,List.length_append,jR];exact j);have f5:Hd (w8.ownsRow base 3 1 (O wo (amW C r i).length wc) (amW C r i).length ((amW C r i).map (J Z))):=(a8.o.alloc (X #[J Z v,J Z l] 94)).kept c (zV (a8.o.alloc (X #[J Z v,J Z l] 94)) (P.o.alloc (X #[J Z v,J Z l] 94)) oq);have b8:Hd ((O (F ⟨g,0,N⟩) ((amA C r i).length+1) a2).ownBlock≠F B):=zi c0.o a7.o.blk oq;clear j c R;refine(jA base B Y cb d cc C W D av z _ _ ox a7.o).mono ?_;rintro e w9 ⟨rfl,a5,Q⟩;have c6:Hd _:=a5;have f9:Hd (Below base w w9):=g0.o.trans (Q.below a3.o a7.o.bs);have b9:Hd (w9.ownsRow base 94 2 (O (F ⟨g,0,N⟩) ((amA C r i).length+1) a2) (amA C r (i+1)).length (mbC (amA C r (i+1)))):=Q.owns c0.o b8.o;have U:Hd (w9.ownsRow base 3 1 (O wo (amW C r i).length wc) (amW C r i).length ((amW C r i).map (J Z))):=Q.owns f5.o b0.o;have b4:base<=w9.heap.size:=a5.bs;clear a5 Q;simp only;have b6:Hd (amW C r (i+1)=amW C r i++[rdN C (amL C (amR C r i)) 2]):=rfl;generalize rdN C (amL C (amR C r i)) 2=y at *;have f4:Hd ((amW C r i).length+1<=maxLen):=(by show _<=_;rw[I.o];unfold maxLen;omega);have f3:Hd (((amW C r i).length+1)*8<=140737488355328):=(by show _<=_;rw[I.o];omega);have b5:Hd (base<=(w9.alloc (X #[J Z y] 3)).heap.size):=mc;have b3:Hd (∀u∈[J Z y],u.oneCell'=S):=λu hu=>by simp at hu;subst hu;rfl
    go_wp2_with (at_builtin;refine wpList_append_lies _ rfl _ _ 25 rfl base 3 i0 _ 1 8 underlying25 i2 g5 g4 g3 rfl oq (O wo (amW C r i).length wc) _ _ rfl (U.o.alloc _) ⟨w9.heap.size,0,N⟩ 1 1 [J Z y] rfl rfl (World.news_of_block (cs:=#[J Z y]) (t:=3) (fr:=(0,0)) (heap_alloc_new w9 _)) b3.o (Nat.lt_succ_self 0) f4.o f3.o b5.o (w9.heap.size+1) ot ?_;intro g2 G e6 j c R e8)
    have c9:=(c6.o.alloc (X #[J Z y] 3)).grown c b0.o (by
     cases hsv:z.ownBlock with
     |none=>exact .inl rfl
     |some b=>exact .inr (λe=>HD.o b hsv e.symm)) (λk E=>(U.o.lt k E).1)
    have d1:=(f9.o.alloc b4 (X #[J Z y] 3)).grown c b5.o (λk E=>(U.o.lt k E).1);have c4:=(b9.o.alloc (X #[J Z y] 3)).kept c (zV (b9.o.alloc (X #[J Z y] 3)) (U.o.alloc (X #[J Z y] 3)) oq);have b7:e6.ownsRow base 3 1 (O (F ⟨g2,0,N⟩) (amW C r (i+1)).length G) (amW C r (i+1)).length ((amW C r (i+1)).map (J Z)):=(by rw[b6.o,List.length_append,List.map_append];exact j);have d0:∀b,z.ownBlock=F b->(O (F ⟨g2,0,N⟩) (amW C r (i+1)).length G).ownBlock≠F b:=λb f e=>by
     have e':g2=b:=(by simpa[Value.ownBlock]using e);rcases R with h9|h9
     ·exact HD.o b f (by rw[h9,e'])
     ·have:=(c6.o.row.lt b f).2;omega
    clear j c R;go_roundg (gk-1)
    case measure=>omega
    case rel=>exact⟨i+1,some ⟨g2,0,none⟩,G,ol,by rw[b6.o,List.length_append];rfl,by go_num,c9,c4,b7,d0,d1⟩
   | false =>
    have b1:w7=w6.setCell ⟨B,2,N⟩ (.bool S):=(by rw[i7.o,if_neg (by rw[hP];decide)]);clear hP;subst b1;go_wp2_with (at_builtin;refine wpList_append_lies _ rfl _ _ 98 rfl base 94 j0 _ 2 16 underlying98 i1 g8 g7 g6 rfl oq u3 _ _ rfl (P.o.alloc _) ⟨w6.heap.size,0,N⟩ 1 1 [J Z v,J Z l] rfl rfl (World.news_of_block (cs:=#[J Z v,J Z l]) (t:=94) (fr:=(0,0)) (zl (w:=(w6.setCell ⟨B,2,N⟩ (.bool S))) _ (by simp[World.setCell]))) e1.o (Nat.lt_succ_self 0) i6.o i5.o d8.o (w6.heap.size+1) (by simp[World.setCell]) ?_;intro g a2 w8 j c R h6)
    have a7:Hd (RM w8 base B Y cb d cc C W D av z ⟨amL C (amR C r i),s.sv,s.ttl,s.sc⟩):=(c7.o.alloc (X #[J Z v,J Z l] 94)).grown c f6.o (zV (c7.o.alloc (X #[J Z v,J Z l] 94)).row (P.o.alloc (X #[J Z v,J Z l] 94)) oq) (λk E=>(P.o.lt k E).1);have g0:Hd (Below base w w8):=(e4.o.alloc e3 (X #[J Z v,J Z l] 94)).grown c d8.o (λk E=>(P.o.lt k E).1);have c0:Hd (w8.ownsRow base 94 2 (O (F ⟨g,0,N⟩) ((amA C r i).length+1) a2) (amA C r (i+1)).length (mbC (amA C r (i+1)))):=(by show World.ownsRow _ _ _ _ _ _ _;rw[k7.o,List.length_append,jR];exact j);have f5:Hd (w8.ownsRow base 3 1 (O wo (amW C r i).length wc) (amW C r i).length ((amW C r i).map (J Z))):=(a8.o.alloc (X #[J Z v,J Z l] 94)).kept c (zV (a8.o.alloc (X #[J Z v,J Z l] 94)) (P.o.alloc (X #[J Z v,J Z l] 94)) oq);have b8:Hd ((O (F ⟨g,0,N⟩) ((amA C r i).length+1) a2).ownBlock≠F B):=zi c0.o a7.o.blk oq;clear j c R;refine(jA base B Y cb d cc C W D av z _ _ ox a7.o).mono ?_;rintro e w9 ⟨rfl,a5,Q⟩;have c6:Hd _:=a5;have f9:Hd (Below base w w9):=g0.o.trans (Q.below a3.o a7.o.bs);have b9:Hd (w9.ownsRow base 94 2 (O (F ⟨g,0,N⟩) ((amA C r i).length+1) a2) (amA C r (i+1)).length (mbC (amA C r (i+1)))):=Q.owns c0.o b8.o;have U:Hd (w9.ownsRow base 3 1 (O wo (amW C r i).length wc) (amW C r i).length ((amW C r i).map (J Z))):=Q.owns f5.o b0.o;have b4:base<=w9.heap.size:=a5.bs;clear a5 Q;simp only;have b6:Hd (amW C r (i+1)=amW C r i++[rdN C (amL C (amR C r i)) 2]):=rfl;generalize rdN C (amL C (amR C r i)) 2=y at *;have f4:Hd ((amW C r i).length+1<=maxLen):=(by show _<=_;rw[I.o];unfold maxLen;omega);have f3:Hd (((amW C r i).length+1)*8<=140737488355328):=(by show _<=_;rw[I.o];omega);have b5:Hd (base<=(w9.alloc (X #[J Z y] 3)).heap.size):=mc;have b3:Hd (∀u∈[J Z y],u.oneCell'=S):=λu hu=>by simp at hu;subst hu;rfl
    go_wp2_with (at_builtin;refine wpList_append_lies _ rfl _ _ 25 rfl base 3 i0 _ 1 8 underlying25 i2 g5 g4 g3 rfl oq (O wo (amW C r i).length wc) _ _ rfl (U.o.alloc _) ⟨w9.heap.size,0,N⟩ 1 1 [J Z y] rfl rfl (World.news_of_block (cs:=#[J Z y]) (t:=3) (fr:=(0,0)) (heap_alloc_new w9 _)) b3.o (Nat.lt_succ_self 0) f4.o f3.o b5.o (w9.heap.size+1) ot ?_;intro g2 G e6 j c R e8)
    have c9:=(c6.o.alloc (X #[J Z y] 3)).grown c b0.o (by
     cases hsv:z.ownBlock with
     |none=>exact .inl rfl
     |some b=>exact .inr (λe=>HD.o b hsv e.symm)) (λk E=>(U.o.lt k E).1)
    have d1:=(f9.o.alloc b4 (X #[J Z y] 3)).grown c b5.o (λk E=>(U.o.lt k E).1);have c4:=(b9.o.alloc (X #[J Z y] 3)).kept c (zV (b9.o.alloc (X #[J Z y] 3)) (U.o.alloc (X #[J Z y] 3)) oq);have b7:e6.ownsRow base 3 1 (O (F ⟨g2,0,N⟩) (amW C r (i+1)).length G) (amW C r (i+1)).length ((amW C r (i+1)).map (J Z)):=(by rw[b6.o,List.length_append,List.map_append];exact j);have d0:∀b,z.ownBlock=F b->(O (F ⟨g2,0,N⟩) (amW C r (i+1)).length G).ownBlock≠F b:=λb f e=>by
     have e':g2=b:=(by simpa[Value.ownBlock]using e);rcases R with h9|h9
     ·exact HD.o b f (by rw[h9,e'])
     ·have:=(c6.o.row.lt b f).2;omega
    clear j c R;go_roundg (gk-1)
    case measure=>omega
    case rel=>exact⟨i+1,some ⟨g2,0,none⟩,G,ol,by rw[b6.o,List.length_append];rfl,by go_num,c9,c4,b7,d0,d1⟩
  ·have n0:i=n:=(by omega);subst n0;have h7:¬(i:Int)<(i:Int):=ol;have c3:=HM.o.c3;obtain⟨uo,uc,m7,p6⟩:=zU HU.o;subst m7;have n4:Hd (∃ug,PS wr uo ug i (arV C r) (arL C r)):=by
    rcases HU.o.2 with⟨h1,h2⟩|⟨g,a2,cur,h1,h2,h3,_⟩
    ·exact⟨0,⟨λh=>by rw[K.o]at h2;omega,λh=>by rw[K.o]at h2;omega,λk E=>by rw[K.o]at h2;omega,λk E=>by rw[K.o]at h2;omega⟩⟩
    ·have m6:uo=F ⟨g,0,N⟩:=(by cases h1;rfl);subst m6;refine⟨g,⟨λ_=>rfl,λ_=>lt_of_block h3,λk E=>?_,λk E=>?_⟩⟩
     ·have h9:=yg (λx:Int×Int=>[J Z x.1,J Z x.2]) (λ_=>rfl) HU.o (zeE C r i k E) 0 oq;simpa using h9
     ·have h9:=yg (λx:Int×Int=>[J Z x.1,J Z x.2]) (λ_=>rfl) HU.o (zeE C r i k E) 1 oq;simpa using h9
   obtain⟨ug,h0⟩:=n4.o;have HL:Hd (Calls A 114 #[O uo (amA C r i).length uc,J Z W.addr] wr λe w'=>e=.returned (.tuple #[J Z (M.bestTo (arV C r) (arL C r) W.addr i),J Z (M.depTo (arV C r) (arL C r) W.addr i)])/\Below wr.heap.size wr w'):=by
    show Calls _ _ _ _ _;rw[K.o];exact J3 uo ug i uc (arV C r) (arL C r) W.addr wr a0 a1 e9 h0 (λk _=>⟨(q8 a4.o _).1,(q8 a4.o _).2,(jJ a4.o _).1,(jJ a4.o _).2⟩)
   have q6:=j6 (V:=arV C r) (L:=arL C r) (a:=W.addr) i;have q7:-1<=M.bestTo (arV C r) (arL C r) W.addr i:=by
    have m4:∀m,-1<=M.bestTo (arV C r) (arL C r) W.addr m:=by
     intro m;induction m with
     |zero=>simp[M.bestTo]
     |succ m ih=>simp only[M.bestTo];split<;>omega
    exact m4 i
   have n1:Hd (∀k,k<i->0<=arW C r k/\arW C r k<=65535):=λk _=>XP a4.o _
   clear h0;generalize M.bestTo (arV C r) (arL C r) W.addr i=best at *;generalize M.depTo (arV C r) (arL C r) W.addr i=dep at *;go_wp2_with fail;refine(Calls.mono HL.o) ?_;rintro e w2 ⟨rfl,a9⟩;have e0:Hd (RM w2 base B Y cb d cc C W D av z ⟨amR C r i,s.sv,s.ttl,s.sc⟩):=HM.o.keep (a9.block _ HM.o.lt) (λg hg=>a9.block g (HM.o.row.lt g hg).2) (λb f=>a9.block b (by have:=HM.o.bs;omega));have o7:Hd (Below base w w2):=HB.o.trans (a9.mono HM.o.bs);have n2:Hd (w2.ownsRow base 3 1 (O wo (amW C r i).length wc) (amW C r i).length ((amW C r i).map (J Z))):=zd HW.o (λb f=>a9.block b (HW.o.lt b f).2);clear a9;go_wp2_with fail;refine(QG base B Y cb d cc C W D av z _ _ _ e0.o).mono ?_;rintro e w3 ⟨rfl,d6,e7⟩;have c8:Hd _:=d6;have m2:Hd (Below base w w3):=o7.o.trans (e7.below a3.o e0.o.bs);have i8:Hd (w3.ownsRow base 3 1 (O wo (amW C r i).length wc) (amW C r i).length ((amW C r i).map (J Z))):=e7.owns n2.o b0.o;have c1:=d6.c1;have z1:=d6.fz 1;simp only at c1;clear d6 e7;by_cases d7:best<0
   ·have HE:Hd (yw W C s=⟨⟨(amR C r i).p,(amR C r i).b⟩,s.sv,s.ttl,nar dep s.sc⟩):=(by show _=_;rw[j1.o,if_pos d7];rfl);have p1:decide (0<=best)=T:=decide_eq_false ol;clear d7;go_wp2_with fail;go_end0
    exact⟨rfl,by rw[HE.o];exact c8.o,m2.o⟩
   ·obtain⟨k,E⟩:∃k:Nat,best=k:=⟨best.toNat,ol⟩;subst E;have h8:k<i:=ol;have HE:Hd (yw W C s=⟨⟨(amR C r i).p+(arW C r k).toNat,(amR C r i).b⟩,s.sv,s.ttl,nar dep s.sc⟩):=(by show _=_;rw[j1.o,if_neg d7,Int.toNat_natCast]);have p4:=n1.o k h8;obtain⟨wg,m3,g9,_,_⟩:=i8.o.form (by rw[I.o];omega);obtain⟨m5,_⟩:wo=F ⟨wg,0,N⟩/\wc=m3:=by cases g9;exact⟨rfl,rfl⟩
    subst m5;have p3:w3.cell? ⟨wg,k,N⟩=F (J Z (arW C r k)):=by
     rw[World.ownsRow.cellAt i8.o k (by rw[I.o];omega)];rw[List.getElem?_map,zgV C r i k h8];rfl
    have q5:(k:Int)<((amW C r i).length:Int):=(by rw[I.o];omega);have q4:(0:Int)<=(k:Int):=ol;clear g9 d7;generalize arW C r k=y at *;generalize amR C r i=p at *;go_wp2_with fail;go_region
    all_goals
     go_wp2_with fail;go_end0
     exact⟨rfl,by rw[HE.o];exact(c8.o.drew).at (p.p+y.toNat) ((p.p:Int)+y) ol,(m2.o.drew).setCell a3.o _⟩
theorem qm{P:Program}(w:World){b:Array Oper}{o:Oper}{a:Act}{K:Act->World->Prop}{Q:Exit->Act->World->Prop}{E:Prop}(g:o.guard=N)(s x:Operand)(t:TypeId)(q:o.op=.call { callee:=.builtin .append,args:=#[s,x],argTypes:=#[t,t] })(e:TypeId)(i:TypeInfo)(m:P.underlying t=F (.slice e))(hi:P.info? e=F i)(f:Option Addr)(n cap:Nat)(p:a.eval s=O f n cap)(j:Option Addr)(c:Nat)(k:a.eval x=O j 0 c)(r:n<=cap)(h:K (a.put o.dst (O f n cap)) w):
 if Region.wanted o (yielded b a.tmps)=S then Oper.wp P o a w K Q else E:=by
 have l:Region.wanted o (yielded b a.tmps)=S:=by simp[Region.wanted,g]
 rw[if_pos l];have d:=Z6 (P:=P) w t o.type e i m hi f n cap j c r;unfold Oper.wp execOp;simp only[q,resolve,invoke,builtin,Sem.run_bind,Sem.run_pure,Result.andThen_ok,List.map_toArray,List.map_cons,List.map_nil,p,k,d];exact h
theorem zcS(base B:Nat)(co:Option Addr)(cb f cc:Nat)(C:List Int)(W:RW)(D:Array Value)(ao:Option Addr)(ab z ac:Nat)(Q:Value)(s:RT)(w:World)(hp:s.r.p<=900000000000000000)(R:s.sv=[])(a3:AS w base ao ab z W.al)(c3:W.al.length<=9223372036854775807)(h:RM w base B co cb f cc C W D (O ao W.al.length ac) Q s):
 Calls A 112 #[.pointer (F ⟨B,0,N⟩)] w λe w'=>e=.returned (.tuple #[])/\(∃sv',RM w' base B co cb f cc C W D (O ao W.al.length ac) sv' (ZY W C s))/\Below base w w':=by
 obtain⟨i0,a2,a7,a6,a5⟩:=info_parts infoInt;have H:Hd _:=h;have b6:Hd (∀x∈C,0<=x/\x<256):=h.code.byt;have b7:Hd _:=h.bs;have b5:Hd (base<=B):=h.hB;have b8:Hd _:=a3;have a4:Hd _:=R;clear h a3 R;go_enter func112,ntmps112;go_wp2_with fail;refine(Ze base B co cb f cc C W D _ Q s 1 0 15 1 _ rfl oq hp H.o).mono ?_;rintro e E ⟨rfl,Y,hv⟩;have a:Hd _:=Y;have i:Hd (Below base w E):=hv.below b5.o b7.o;have P:Hd (AS E base ao ab z W.al):=b8.o.of_kept (λb hb=>i.o.block b hb);have c9:=Y.c69;have c8:=Y.c72;have c1:=Y.fz 72;clear Y hv;have c2:=q8 b6.o s.r;have I:Hd (ZY W C s=⟨num C s.r 1 0 15,s.sv++(W.al[(rdN C s.r 1).toNat]?).getD [],s.ttl,s.sc⟩):=rfl;generalize hk0:rdN C s.r 1=k at *;clear hk0;obtain⟨k,rfl⟩:∃q:Nat,k=q:=⟨k.toNat,ol⟩;rw[Int.toNat_natCast]at I;have c5:(0:Int)<=(k:Int):=ol;by_cases hk:k<W.al.length
 ·obtain⟨l,hl⟩:∃l,W.al[k]?=F l:=⟨W.al[k],List.getElem?_eq_getElem hk⟩;have v:(k:Int)<(W.al.length:Int):=ol;obtain⟨lo,lc,c6,G⟩:=P.o.val k l hl;obtain rfl:=P.o.at_ ol;have y:l.length*8<=140737488355328:=Nat.le_trans (P.o.len l (List.mem_of_getElem? hl)) oq;have HE:Hd (ZY W C s=⟨num C s.r 1 0 15,s.sv++l,s.ttl,s.sc⟩):=by show _=_;rw[I.o,hl];rfl
  clear hl;go_wp2_with fail;rcases Nat.eq_zero_or_pos l.length with h0|h0
  ·have a1:l=[]:=List.eq_nil_of_length_eq_zero h0;subst a1;obtain⟨so,d,U,V⟩:=zU a.o.row;simp only at U V;subst U;clear G;go_region_law ((refine qm _ (by rfl) _ _ _ (by rfl) 3 i0 underlying25 a2 so s.sv.length d (by rfl) lo lc (by rfl) V ?_))
   all_goals
    have K:=(a.o.drew).push (ys:=[]) (n:=s.sv.length) (oo:=so) (cap:=d) ot (w4:=E.drew) ⟨rfl,rfl,rfl,Nat.le_refl _,λ_ _ _=>rfl⟩ (by simpa using a.o.drew.row);have L:=(a.o.drew).pushB (u:=O so s.sv.length d) (w4:=E.drew) (i.o.drew) ⟨rfl,rfl,rfl,Nat.le_refl _,λ_ _ _=>rfl⟩;go_wp2_with fail;go_end0
    exact⟨rfl,⟨_,by rw[HE.o];exact K⟩,L⟩
  ·obtain⟨lb,m,a8,c4,a0⟩:=G h0;subst a8;have b4:Hd (∀(j:Nat) (u:Value),(l.map (J Z))[j]?=F u->E.cell? ((⟨lb,m,N⟩:Addr).add j)=F u):=λj u hu=>by
    rw[List.getElem?_map]at hu;cases hx:l[j]? with
    |none=>rw[hx]at hu;cases hu
    |some x=>rw[hx]at hu;cases hu;rw[Addr.add_lit];exact a0 j x hx
   have b3:Hd (s.sv.length+l.length<=maxLen):=(by show _<=_;rw[a4.o];unfold maxLen;simp;omega);have b2:Hd ((s.sv.length+l.length)*8<=140737488355328):=(by show _<=_;rw[a4.o];simpa using y);have b1:Hd (base<=E.drew.heap.size):=a.o.bs;have X:Hd (∀u∈l.map (J Z),u.oneCell'=S):=λu hu=>by simp only[List.mem_map]at hu;obtain⟨x,_,rfl⟩:=hu;rfl
   have a9:Hd ((l.map (J Z)).length=l.length*1):=sw;have H0:Hd _:=h0;clear G a0 y h0;go_region_law ((refine step_append_lies _ (by rfl) _ _ _ (by rfl) base 3 i0 _ 1 8 underlying25 a2 a7 a6 a5 rfl oq Q _ _ (by rfl) (a.o.row.drew) ⟨lb,m,N⟩ l.length lc (l.map (J Z)) (by rfl) a9.o b4.o X.o H0.o b3.o b2.o b1.o E.heap.size (by rfl) ?_;intro g cap w4 t c b0 c0;have zz:w4.frozen? ⟨B,72,N⟩=T:=(c.frozen_far ⟨B,72,N⟩ a.o.lt (λe=>a.o.ne e.symm)).trans ((a.o.drew).fz 72);have c7:w4.cell? ⟨B,72,N⟩=F Q:=(c.cell_far ⟨B,72,N⟩ a.o.lt (λe=>a.o.ne e.symm)).trans (a.o.drew).c72))
   all_goals
    have K:=(a.o.drew).push (ys:=l) (n:=s.sv.length+l.length) ot c (by rw[List.map_append];exact t);have L:=(a.o.drew).pushB (u:=O (F ⟨g,0,N⟩) (s.sv.length+l.length) cap) (i.o.drew) c;clear t c b0;go_wp2_with fail;go_end0
    exact⟨rfl,⟨_,by rw[HE.o];exact K⟩,L⟩
 ·have v:¬(k:Int)<(W.al.length:Int):=by omega
  have b9:decide ((k:Int)<(W.al.length:Int))=T:=decide_eq_false v;have HE:Hd (ZY W C s=⟨num C s.r 1 0 15,s.sv,s.ttl,s.sc⟩):=by show _=_;rw[I.o,List.getElem?_eq_none ol];simp
  go_wp2_with fail;go_end0
  exact⟨rfl,⟨Q,by rw[HE.o];exact a.o⟩,i.o⟩
theorem zc4(base B:Nat)(u:Option Addr)(x d v:Nat)(C:List Int)(W:RW)(D:Array Value)(L:Option Addr)(V q U:Nat)(n:Value)(s:RT)(w:World)(hp:s.r.p<=900000000000000000-100000)(E:s.sv=[])(hd:0<=W.draw)(a0:0<=W.addr)(a1:W.addr<4294967296)(K:AS w base L V q W.al)(R:W.al.length<=9223372036854775807)(h:RM w base B u x d v C W D (O L W.al.length U) n s):
 Calls A 58 #[.pointer (F ⟨B,0,N⟩)] w λe w'=>e=.returned (.bool (zD W C s).2)/\(∃sv',RM w' base B u x d v C W D (O L W.al.length U) sv' (zD W C s).1)/\Below base w w':=by
 have H:Hd _:=h;have Z:Hd _:=h.bs;have G:Hd (base<=B):=h.hB;have a2:Hd _:=K;have Y:Hd _:=E;have Q:s.sv.length<=100000:=by rw[E];simp
 clear h K E;go_enter func58,ntmps58;go_wp2_with fail;refine(Jz base B u x d v C W D _ n s _ ol H.o).mono ?_;rintro e w1 ⟨rfl,hm,hv⟩;have i:Hd _:=hm;have m:Hd (Below base w w1):=hv.below G.o Z.o;have a3:Hd (AS w1 base L V q W.al):=a2.o.of_kept (λb hb=>m.o.block b hb);have a5:=zgv C s.r;clear hm hv;have l:Hd (zD W C s=if nxV C s.r=123 then(ZC C ⟨nx C s.r,s.sv,s.ttl,s.sc⟩,S)else if nxV C s.r=119 then Zp W C ⟨nx C s.r,s.sv,s.ttl,s.sc⟩else if nxV C s.r=102 then yS W C ⟨nx C s.r,s.sv,s.ttl,s.sc⟩else if nxV C s.r=109 then(yw W C ⟨nx C s.r,s.sv,s.ttl,s.sc⟩,T)else if nxV C s.r=103 then(Zc W C ⟨nx C s.r,s.sv,s.ttl,s.sc⟩,T)else if nxV C s.r=116 then(yB C ⟨nx C s.r,s.sv,s.ttl,s.sc⟩,T)else if nxV C s.r=64 then(ZY W C ⟨nx C s.r,s.sv,s.ttl,s.sc⟩,S)else(⟨⟨(nx C s.r).p,S⟩,s.sv,s.ttl,s.sc⟩,T)):=rfl;generalize nxV C s.r=k at *;obtain⟨t,z⟩:∃t:RT,t=⟨nx C s.r,s.sv,s.ttl,s.sc⟩:=⟨_,rfl⟩;have a4:t.r.p<=900000000000000000-90000:=by rw[z];simp only;omega
 have y:t.sv.length<=100000:=by rw[z];exact Q
 have X:Hd (t.sv=[]):=by show _=_;rw[z];exact Y.o
 have P:Hd ((⟨⟨(nx C s.r).p,S⟩,s.sv,s.ttl,s.sc⟩:RT)=⟨⟨t.r.p,S⟩,t.sv,t.ttl,t.sc⟩):=by show _=_;rw[z]
 rw[P.o,<-z]at l;rw[<-z]at i;clear z P;cases e123:(k==123)with
 | true =>
  have j:Hd (zD W C s=(ZC C t,S)):=by show _=_;rw[l.o,if_pos (by simpa using e123)]
  go_wp2_with fail;refine(Jj base B u x d v C W D _ n t _ ol y i.o).mono ?_;rintro e I ⟨rfl,⟨sv',a⟩,c⟩;have f:Hd _:=a;have g:Hd _:=m.o.trans c;clear a c;go_wp2_with fail;go_ret;exact⟨by rw[j.o];rfl,⟨sv',by rw[j.o];exact f.o⟩,g.o⟩
 | false =>
  cases e119:(k==119)with
  | true =>
   have j:Hd (zD W C s=Zp W C t):=(by show _=_;rw[l.o,if_neg (by simpa using e123),if_pos (by simpa using e119)]);go_wp2_with fail;refine(zdp base B u x d v C W D _ n t _ ol y hd i.o).mono ?_;rintro e I ⟨rfl,⟨sv',a⟩,c⟩;have f:Hd _:=a;have g:Hd _:=m.o.trans c;clear a c;go_wp2_with fail;go_ret;exact⟨by rw[j.o];rfl,⟨sv',by rw[j.o];exact f.o⟩,g.o⟩
  | false =>
   cases e102:(k==102)with
   | true =>
    have j:Hd (zD W C s=yS W C t):=(by show _=_;rw[l.o,if_neg (by simpa using e123),if_neg (by simpa using e119),if_pos (by simpa using e102)]);go_wp2_with fail;refine(zcH base B u x d v C W D _ n t _ ol y i.o).mono ?_;rintro e I ⟨rfl,⟨sv',a⟩,c⟩;have f:Hd _:=a;have g:Hd _:=m.o.trans c;clear a c;go_wp2_with fail;go_ret;exact⟨by rw[j.o];rfl,⟨sv',by rw[j.o];exact f.o⟩,g.o⟩
   | false =>
    cases e109:(k==109)with
    | true =>
     have j:Hd (zD W C s=(yw W C t,T)):=(by show _=_;rw[l.o,if_neg (by simpa using e123),if_neg (by simpa using e119),if_neg (by simpa using e102),if_pos (by simpa using e109)]);go_wp2_with fail;refine(jK base B u x d v C W D _ n t _ ol a0 a1 i.o).mono ?_;rintro e I ⟨rfl,a,c⟩;have f:Hd _:=a;have g:Hd _:=m.o.trans c;clear a c;go_wp2_with fail;go_ret;exact⟨by rw[j.o];rfl,⟨n,by rw[j.o];exact f.o⟩,g.o⟩
    | false =>
     cases e103:(k==103)with
     | true =>
      have j:Hd (zD W C s=(Zc W C t,T)):=(by show _=_;rw[l.o,if_neg (by simpa using e123),if_neg (by simpa using e119),if_neg (by simpa using e102),if_neg (by simpa using e109),if_pos (by simpa using e103)]);go_wp2_with fail;refine(Jn base B u x d v C W D _ n t _ ol i.o).mono ?_;rintro e I ⟨rfl,a,c⟩;have f:Hd _:=a;have g:Hd _:=m.o.trans c;clear a c;go_wp2_with fail;go_ret;exact⟨by rw[j.o];rfl,⟨n,by rw[j.o];exact f.o⟩,g.o⟩
     | false =>
      cases e116:(k==116)with
      | true =>
       have j:Hd (zD W C s=(yB C t,T)):=(by show _=_;rw[l.o,if_neg (by simpa using e123),if_neg (by simpa using e119),if_neg (by simpa using e102),if_neg (by simpa using e109),if_neg (by simpa using e103),if_pos (by simpa using e116)]);go_wp2_with fail;refine(Jk base B u x d v C W D _ n t _ ol i.o).mono ?_;rintro e I ⟨rfl,a,J⟩;have c:=J.below G.o i.o.bs;clear J;have f:Hd _:=a;have g:Hd _:=m.o.trans c;clear a c;go_wp2_with fail;go_ret;exact⟨by rw[j.o];rfl,⟨n,by rw[j.o];exact f.o⟩,g.o⟩
      | false =>
       cases e64:(k==64)with
       | true =>
        have j:Hd (zD W C s=(ZY W C t,S)):=(by show _=_;rw[l.o,if_neg (by simpa using e123),if_neg (by simpa using e119),if_neg (by simpa using e102),if_neg (by simpa using e109),if_neg (by simpa using e103),if_neg (by simpa using e116),if_pos (by simpa using e64)]);go_wp2_with fail;refine(zcS base B u x d v C W D L V q U n t _ ol X.o a3.o R i.o).mono ?_;rintro e I ⟨rfl,⟨sv',a⟩,c⟩;have f:Hd _:=a;have g:Hd _:=m.o.trans c;clear a c;go_wp2_with fail;go_ret;exact⟨by rw[j.o];rfl,⟨sv',by rw[j.o];exact f.o⟩,g.o⟩
       | false =>
        have j:Hd (zD W C s=(⟨⟨t.r.p,S⟩,t.sv,t.ttl,t.sc⟩,T)):=(by show _=_;rw[l.o,if_neg (by simpa using e123),if_neg (by simpa using e119),if_neg (by simpa using e102),if_neg (by simpa using e109),if_neg (by simpa using e103),if_neg (by simpa using e116),if_neg (by simpa using e64)]);have c2:=i.o.c2;have z2:=i.o.fz 2;go_wp2_with fail;go_ret;exact⟨by rw[j.o];rfl,⟨n,by rw[j.o];exact i.o.bad S⟩,m.o.setCell G.o _⟩
end Go.Proofs.YtaebngpoagjafabGreat
