import Derived.Test.YtaebngpoagjafabGreatQ42
import Derived.Test.YtaebngpoagjafabGreatQ45
set_option maxRecDepth 100000
set_option maxHeartbeats 3200000
namespace Go.Proofs.YtaebngpoagjafabGreat
open Option renaming some → N,none → S
open Proofs.Tryz renaming prog → T
open Proofs.Tryz
open Obj renaming cells → Q
open Value renaming int → J, slice → O
open IntKind renaming i64 → Z
open Go.RowKit
attribute [local go_sem ↓] Go.wp_at_zero Go.wp_at_succ
section
section
variable {w w':World} {G G':Nat->Prop} {B:Nat} {A:Option Nat} {s:ByteArray} {D:List Int} {al:Nat->List Int} {V L R:Nat->Int} {pl:Nat}
theorem RfV.row(h:RfV w G B S s D al V L R pl){a:World}{g c:Nat}(d:Below w.heap.size w a)(j:a.rowIs g 25 16 (λ_=>O S 0 0))(i:w.heap.size<=g):
 RfV (a.setCell ⟨B,2,S⟩ (O (N ⟨g,0,S⟩) 16 c)) G B (N g) s D al V L R pl:=by
 have l:=h.lt;have b:Kp B w (a.setCell ⟨B,2,S⟩ (O (N ⟨g,0,S⟩) 16 c)):=(Kp.of_below d).set _ _;obtain⟨q,r,f,p,o,n,m⟩:=h.data b;refine⟨⟨q,_,f,by rw[zH ((d.block B l).trans p)];rfl,o,.inr ⟨g,c,_,rfl,rfl,j.of_block (za ol),λk b=>?_⟩,m⟩,h.dl,h.ll⟩;rcases n with⟨_,_,h⟩|⟨g',_,_,e,_⟩
 ·rw[h k b];exact⟨S,0,rfl,λh=>absurd h (Nat.lt_irrefl _)⟩
 ·cases e
theorem RfV.alias{g:Nat}(h:RfV w G B (N g) s D al V L R pl){k n:Nat}{l:World}{F:Nat->Int}{d cap:Nat}(E:n<=16)(u:Below w.heap.size w l)(p:w.heap.size<=d)(z:l.rowIs d 3 n (λi=>J Z (F i)))(H:∀b,w.heap.size<=b->G b):
 RfV (l.setCell ⟨g,k,S⟩ (O (N ⟨d,0,S⟩) n cap)) G B (N g) s D (λi=>if i=k then(List.range n).map F else al i) V L R pl:=by
 have hB:=h.lt;have o:=h.alt rfl;obtain⟨X,av,C,v,W,U,P⟩:=h.ex;rcases U with⟨e,_⟩|⟨g',c,vs,e,rfl,h5,h6⟩
 ·cases e
 cases e
 obtain⟨y,r,q⟩:=h5;have I:B≠g:=zJ v r oq;have a:∀(b:Nat) (cs:Array Value) (t:TypeId) (fr:Nat×Nat),w.heap[b]?=N (Q cs t fr)->t≠25->(l.setCell ⟨g,k,S⟩ (O (N ⟨d,0,S⟩) n cap)).heap[b]?=w.heap[b]?:=λb cs t fr hb' ht=>by
  rw[za (zJ hb' r ht)];exact u.block b (lt_of_block hb')
 have m:=u.size;refine⟨⟨X,_,C,(a B _ _ _ v oq).trans v,W.of (λ_ h _=>h) (λb cs fr _ hb'=>a b cs _ fr hb' oq),.inr ⟨g,c,λi=>if i=k then O (N ⟨d,0,S⟩) n cap else vs i,rfl,rfl,(World.rowIs.of_block ⟨y,r,q⟩ (u.block g o)).set k _,λi hi=>?_⟩,P.of (by rw[World.size_setCell];exact m) (λ_ h _=>h) (λb cs fr _ hb'=>a b cs _ fr hb' oq)⟩,h.dl,λi hi=>?_⟩
 ·by_cases e:i=k
  ·simp only[if_pos e];have f:d≠g:=ol;refine⟨N ⟨d,0,S⟩,cap,ot,λh0=>⟨d,0,rfl,H d p,?_,λj x hx=>?_⟩⟩
   ·rw[za f];obtain⟨Y,K,_⟩:=z;exact⟨Y,_,K⟩
   ·have A:j<n:=(by have:=(List.getElem?_eq_some_iff.1 hx).1;simpa using this);rw[Nat.zero_add,World.cell?_of_block (za f),z.cell A];simp[A]at hx;rw[hx]
  ·simp only[if_neg e];exact(h6 i hi).of (λ_ h _=>h) (λb cs fr _ hb'=>a b cs _ fr hb' oq)
 ·by_cases e:i=k
  ·simp only[if_pos e];simpa using E
  ·simp only[if_neg e];exact h.ll i hi
theorem zf6{base g:Nat}(h:w.ownsRow base 25 1 (O (N ⟨g,0,S⟩) 16 16) 16 (madeCells (O S 0 0).cells (16*1)).toList):w.rowIs g 25 16 (λ_=>O S 0 0):=by
 rcases h.2 with⟨h',_⟩|⟨g',cap',cur,h',_,hg,_,_,hsz,htk⟩
 ·cases h'
 ·cases h'
  have a:(madeCells (O S 0 0).cells (16*1)).toList=List.replicate 16 (O S 0 0)  := toList_madeCells_one _ 16;rw[a,List.take_of_length_le (by simp[hsz])]at htk;refine⟨cur,hg,hsz,λi hi=>?_⟩;rw[<-Array.getElem?_toList,htk,List.getElem?_replicate,if_pos hi]
theorem jd{base g k n b a H:Nat}{o:Option Addr}{F:Nat->Int}{m:World}{C:List Value}(h:RfV w G B (N g) s D al V L R pl)(Q:k<16)(f:IS w o b a n F)(W:w.heap.size=H)(K:m.ownsRow base 3 1 (O (N ⟨H,0,S⟩) n n) n C)(U:w.grownBy m S)(c:Nat):
 ∃w7 cA vv,(Builtin.copy_ #[25,25] 3 #[O (N ⟨H,0,S⟩) n n,O o n c]).run T m=.ok (goInt n) w7/\w7.cell? ⟨B,2,S⟩=N (O (N ⟨g,0,S⟩) 16 cA)/\w7.cell? ⟨g,k,S⟩=N vv/\w7.frozen? ⟨g,k,S⟩=false/\Below w.heap.size w w7/\w7.rowIs H 3 n (λi=>J Z (F i)):=by
 subst W;obtain⟨i0,z,I,v,E⟩:=info_parts infoInt;have q:(Tryz.prog.info? 3).map (·.size)=N 1:=by rw[z];simp[v]
 have t:Below w.heap.size w m:=yI U;obtain⟨Y,d⟩:=yd K rfl;obtain⟨w7,x,r,y,_⟩:=Zl (P:=T) m 25 25 3 3 1 w.heap.size n n o n c 3 (n*1) Y (λi=>J Z (F i)) underlying25 q d (Nat.le_refl _) (λh0=>⟨_,f.at_ h0,λj hj=>by
  rw[show(⟨b,a,S⟩:Addr).add j=⟨b,a+j,S⟩from by unfold Addr.add;split<;>simp_all];exact(t.cell (p:=⟨b,a+j,S⟩) (f.lt h0)).trans (f.val j ol)⟩) (λj hj=>rfl) (Nat.le_refl _)
 have l:Below w.heap.size w w7:=y _ _ t (Nat.le_refl _);obtain⟨dv,av,pv,A,_,X,_⟩:=h.ex;rcases X with⟨e,_⟩|⟨g',cA,vs,e,rfl,h5,_⟩
 ·cases e
 cases e
 have u:w7.rowIs g 25 16 vs:=h5.of_block (l.block g h5.lt);refine⟨w7,cA,vs k,x,?_,u.cell Q,u.frozen k,l,?_⟩
 ·rw[l.cell (p:=⟨B,2,S⟩) (lt_of_block A),cell_of_row _ _ _ _ _ _ A];rfl
 ·rw[Nat.mul_one]at r;exact r.congr (λi z=>by rw[if_pos ol])
end
structure Kq (B:Nat) (A:Option Nat) (w w':World):Prop where
 size:w.heap.size<=w'.heap.size
 block:∀b,b≠B->A≠N b->b<w.heap.size->w'.heap[b]?=w.heap[b]?
 bel:∀base,base<=B->base<=w.heap.size->(∀g,A=N g->base<=g)->Below base w w'
def AlT(w:World)(G:Nat->Prop)(B:Nat)(A:Option Nat)(s:ByteArray)(D:List Int)(al:Nat->List Int)(V L R:Nat->Int)(pl k n:Nat)(F:Nat->Int)(e:Ending)(w':World):Prop :=
 e=.returned (J Z 0)/\Kq B A w w'/\∃A',(A'=A\/∃g,A'=N g/\w.heap.size<=g)/\RfV w' G B A' s D (λi=>if i=k then(List.range n).map F else al i) V L R pl
theorem zb5(B:Nat)(k:Int)(o:Option Addr)(b f n c:Nat)(D:Nat->Int)(w:World)(h:IS w o b f n D)(m:k<0\/15<k\/¬(n<=16/\∀i,i<n->0<=D i/\D i<64)):
 Calls T 78 #[.pointer (N ⟨B,0,S⟩),J Z k,O o n c] w λe w'=>e=.returned (J Z 9)/\w'=w:=by
 by_cases E:k<0
 ·go_enter func78,ntmps78;go_wp2_with fail;go_ret;exact⟨rfl,rfl⟩
 by_cases C:16<=k
 ·go_enter func78,ntmps78;go_wp2_with fail;go_ret;exact⟨rfl,rfl⟩
 by_cases A:16<n
 ·have g:(16:Int)<(n:Int):=by omega
  go_enter func78,ntmps78;go_wp2_with fail;go_ret;exact⟨rfl,rfl⟩
 have g:¬(16:Int)<(n:Int):=ol;have x:Hd (¬∀i,i<n->0<=D i/\D i<64):=λhh=>by
  rcases m with h|h|h
  ·omega
  ·omega
  ·exact h ⟨ol,hh⟩
 have p:Hd _:=h;clear h m;go_enter func78,ntmps78;go_wp2_with fail;go_loopg [7] n (λq y wq=>∃i,q+i=n/\y=J Z (i:Nat)/\(∀j,j<i->0<=D j/\D j<64)/\wq=w)
 case atStart=>exact⟨0,ol,rfl,λj hj=>ol,rfl⟩
 case round =>
  obtain⟨i,z,rfl,a,rfl⟩:=hrel;have r:Hd _:=a;clear a;have s:(0:Int)<=(i:Int):=ol;by_cases u:i<n
  ·have t:(i:Int)<(n:Int):=(by omega);have v:=p.o.val i u;obtain rfl:=p.o.at_ ol;by_cases G:D i<0
   ·generalize D i=d at *;go_wp2_with fail;go_ret;exact⟨rfl,rfl⟩
   ·by_cases F:64<=D i
    ·generalize D i=d at *;go_wp2_with fail;go_ret;exact⟨rfl,rfl⟩
    ·have l:Hd (∀j,j<i+1->0<=D j/\D j<64):=λj hj=>by
      by_cases e:j=i
      ·subst e;omega
      ·exact r.o j ol
     generalize hd:D i=d at *;clear hd;go_wp2_with fail;go_roundg (n-(i+1))
     case measure=>omega
     case rel=>exact⟨i+1,ol,by go_num,l.o,rfl⟩
  ·exact absurd (λj hj=>r.o j ol) x.o
theorem zb4{w:World}{G:Nat->Prop}{B:Nat}{A:Option Nat}{s:ByteArray}{D:List Int}{al:Nat->List Int}{V L R:Nat->Int}{pl:Nat}(h:RfV w G B A s D al V L R pl){k:Nat}(hk:k<16)(o:Option Addr)(b H n c:Nat)(F:Nat->Int)(hi:IS w o b H n F)(hn:n<=16)(hF:∀i,i<n->0<=F i/\F i<64)(a1:0<n->b≠B)(hG:∀b,w.heap.size<=b->G b):
 Calls T 78 #[.pointer (N ⟨B,0,S⟩),J Z k,O o n c] w (AlT w G B A s D al V L R pl k n F):=by
 have HR:Hd _:=h;have HG:Hd _:=hG;have P:Hd _:=hi;have HF:Hd _:=hF;have b4:Hd (0<n->b≠B):=a1;have a3:=h.lt;obtain⟨dv,av,pv,r,_,a2,_⟩:=h.ex;have b3:Hd _:=r;have b5:Hd _:=a2;have c2:w.cell? ⟨B,2,S⟩=N av:=by rw[cell_of_row _ _ _ _ _ _ r];rfl
 have z2:w.frozen? ⟨B,2,S⟩=false:=by simp[World.frozen?,r]
 clear h hG hi hF r a2 a1;have k0:(0:Int)<=(k:Int):=ol;have k1:¬(k:Int)<0:=ol;have k2:¬16<=(k:Int):=ol;have k3:(k:Int)<16:=ol;have n2:¬(16:Int)<(n:Int):=ol;go_enter func78,ntmps78;go_wp2_with fail;go_loopg [7] n (λq y wq=>∃i,q+i=n/\y=J Z (i:Nat)/\wq=w)
 case atStart=>exact⟨0,ol,rfl,rfl⟩
 case round =>
  obtain⟨i,hq,rfl,rfl⟩:=hrel;have b8:(0:Int)<=(i:Int):=ol;by_cases hi:i<n
  ·have a9:(i:Int)<(n:Int):=(by omega);have b9:=P.o.val i hi;obtain⟨f0,f1⟩:=HF.o i hi;have f2:¬F i<0:=ol;have f3:¬64<=F i:=ol;obtain rfl:=P.o.at_ ol;generalize F i=d at *;go_wp2_with fail;go_roundg (n-(i+1))
   case measure=>omega
   case rel=>exact⟨i+1,ol,by go_num,rfl⟩
  ·have a9:¬(i:Int)<(n:Int):=(by omega);obtain⟨i0,C,a0,Y,X⟩:=info_parts infoInt;obtain⟨i2,a8,a7,a6,a5⟩:=info_parts infoIs;rcases b5.o with⟨hA,hav,_⟩|⟨g,cA,vs,hA,hav,hrowA,_⟩
   ·subst hA hav;go_wp2_with (at_make;first|(refine wpList_make_full _ rfl _ _ 28 rfl 0 25 i2 (O S 0 0) 1 underlying28 a8 a7 a6 .i64 .i64 _ _ 16 rfl rfl ol ol (by rw[a5];omega) mr (Nat.zero_le _) ?_;intro x j m;have l:Below wr.heap.size wr x:=yI m;have c3:x.cell? ⟨B,2,S⟩=N (O S 0 0):=(l.cell (p:=⟨B,2,S⟩) a3).trans c2;have b6:x.frozen? ⟨B,2,S⟩=false:=(l.frozen (p:=⟨B,2,S⟩) a3).trans z2;have U:Hd (Below wr.heap.size wr x):=l;have b1:Hd (wr.heap.size<x.heap.size):=(zf6 j).lt;have a4:Hd (RfV (x.setCell ⟨B,2,S⟩ (O (N ⟨wr.heap.size,0,S⟩) 16 16)) G B (N wr.heap.size) s D al V L R pl):=HR.o.row l (zf6 j) (Nat.le_refl _);have b2:Hd (IS (x.setCell ⟨B,2,S⟩ (O (N ⟨wr.heap.size,0,S⟩) 16 16)) o b H n F):=⟨P.o.at_,(λh0=>by rw[World.size_setCell];exact Nat.lt_of_lt_of_le (P.o.lt h0) l.size),(λi hi=>by rw[World.cell?_of_block (za (b4.o ol))];exact(l.cell (p:=⟨b,H+i,S⟩) (P.o.lt ol)).trans (P.o.val i hi))⟩;clear l j m)|(refine wpList_make_full _ rfl _ _ 25 rfl 0 3 i0 (J Z 0) 1 underlying25 C a0 Y .i64 .i64 _ _ n rfl rfl ol ol (by rw[X];omega) mr (Nat.zero_le _) ?_;intro E f a;obtain⟨v,cB,vv,b0,e1,e2,e3,u,t⟩:=jd a4.o hk b2.o (World.size_setCell _ _ _) (by rw[World.size_setCell]at f;exact f) a c;rw[World.size_setCell];have Q:Hd _:=u;have K:Hd _:=t;clear u t f a))
    go_ret;have W:(x.setCell ⟨B,2,S⟩ (O (N ⟨wr.heap.size,0,S⟩) 16 16)).heap.size=x.heap.size:=World.size_setCell _ _ _;have z:=Q.o;have I:=z.size;rw[W]at I;have c0:=U.o.size;have b7:=b1.o;refine⟨rfl,⟨by rw[World.size_setCell];omega,λb h1 _ h3=>?_,λbase h1 h2 _=>?_⟩,N wr.heap.size,.inr ⟨_,rfl,Nat.le_refl _⟩,a4.o.alias hn z (by rw[W];exact Nat.le_refl _) K.o (λb hb=>HG.o b (by rw[W]at hb;omega))⟩
    ·rw[za ol,z.block b (by rw[W];omega),za h1,U.o.block b h3]
    ·have h9:Below base wr (x.setCell ⟨B,2,S⟩ (O (N ⟨wr.heap.size,0,S⟩) 16 16)):=(U.o.mono h2).setCell h1 _;exact(h9.trans (z.mono (by rw[W];omega))).setCell h2 _
   ·subst hA hav;have HP:Hd (∀(E:World) (xs:List Value),E.ownsRow 0 3 1 (O (N ⟨wr.heap.size,0,S⟩) n n) n xs->wr.grownBy E S->∃v cA vv,(Builtin.copy_ #[25,25] 3 #[O (N ⟨wr.heap.size,0,S⟩) n n,O o n c]).run T E=.ok (goInt n) v/\v.cell? ⟨B,2,S⟩=N (O (N ⟨g,0,S⟩) 16 cA)/\v.cell? ⟨g,k,S⟩=N vv/\v.frozen? ⟨g,k,S⟩=false/\Below wr.heap.size wr v/\v.rowIs wr.heap.size 3 n (λi=>J Z (F i))):=λE xs h1 h2=>jd HR.o hk P.o rfl h1 h2 c
    have c4:Hd (g<wr.heap.size/\g≠B):=⟨HR.o.alt rfl,by
     obtain⟨c1,hc,_⟩:=hrowA;exact zJ hc b3.o oq⟩
    clear hrowA;go_wp2_with (at_make;refine wpList_make_full _ rfl _ _ 25 rfl 0 3 i0 (J Z 0) 1 underlying25 C a0 Y .i64 .i64 _ _ n rfl rfl ol ol (by rw[X];omega) mr (Nat.zero_le _) ?_;intro E f a;obtain⟨v,cB,vv,b0,e1,e2,e3,u,t⟩:=HP.o E _ f a;have Q:Hd (Below wr.heap.size wr v):=u;have K:Hd (v.rowIs wr.heap.size 3 n (λi=>J Z (F i))):=t;clear u t f a)
    go_ret;have z:=Q.o;have I:=z.size;refine⟨rfl,⟨by rw[World.size_setCell];exact I,λb h1 h2 h3=>?_,λbase h1 h2 h3=>?_⟩,N g,.inl rfl,HR.o.alias hn z (Nat.le_refl _) K.o HG.o⟩
    ·rw[za (λe=>h2 (by rw[e])),z.block b h3]
    ·exact(z.mono h2).setCell (h3 g rfl) _
end
section
structure PrS where
 B:Nat
 R:Nat
 A:Option Nat
 s:ByteArray
 C:List Int
 dn:Nat->Bool
 D:List Int
 al:Nat->List Int
 V:Nat->Int
 L:Nat->Int
 Rg:Nat->Int
 pl:Nat
structure Zb (w:World) (G:Nat->Prop) (p:PrS):Prop where
 sv:SV w G p.B p.C p.dn p.al p.V p.L p.Rg p.pl
 rf:RfV w G p.R p.A p.s p.D p.al p.V p.L p.Rg p.pl
 st:p.s=⟨#[]⟩/\p.C=[]\/p.s≠⟨#[]⟩/\cpE p.s=0/\p.C=cpX p.s
 dd:p.D.Perm (dnL p.dn 64)
 pp:yU p.V p.L p.Rg p.pl=true
structure ChS (B R:Nat) (A:Option Nat) (w w':World):Prop where
 size:w.heap.size<=w'.heap.size
 block:∀b,b<w.heap.size->b≠B->b≠R->A≠N b->w'.heap[b]?=w.heap[b]?
 bel:∀base,base<=B->base<=R->base<=w.heap.size->(∀g,A=N g->base<=g)->Below base w w'
section
variable {w w1 w2:World} {B R:Nat} {A:Option Nat} {G G':Nat->Prop}
theorem ChS.below(h:Below w.heap.size w w1):ChS B R A w w1:=⟨h.size,λb hb _ _ _=>h.block b hb,λ_ _ _ h3 _=>h.mono h3⟩
theorem ChS.trans(h:ChS B R A w w1)(a:ChS B R A w1 w2):ChS B R A w w2 :=
 ⟨Nat.le_trans h.size a.size,λb hb e1 e2 e3=>(a.block b (Nat.lt_of_lt_of_le hb h.size) e1 e2 e3).trans (h.block b hb e1 e2 e3),λbase e1 e2 e3 e4=>(h.bel base e1 e2 e3 e4).trans (a.bel base e1 e2 (Nat.le_trans e3 h.size) e4)⟩
theorem ChS.kpB(c:Below B w w1)(a:Kp B w w1):ChS B R A w w1:=⟨a.size,λb hl e _ _=>a.block b e hl,λ_ e _ _ _=>c.mono e⟩
theorem ChS.kpR(c:Below R w w1)(a:Kp R w w1):ChS B R A w w1:=⟨a.size,λb hl _ e _=>a.block b e hl,λ_ _ e _ _=>c.mono e⟩
theorem ChS.kq(a:Kq R A w w1):ChS B R A w w1:=⟨a.size,λb hl _ e e2=>a.block b e e2 hl,λbase _ e2 e3 e4=>a.bel base e2 e3 e4⟩
theorem RfV.blk{s:ByteArray}{D:List Int}{al:Nat->List Int}{V L Rg:Nat->Int}{pl:Nat}(h:RfV w G R A s D al V L Rg pl):∃cs fr,w.heap[R]?=N (Q cs 86 fr):=by
 obtain⟨_,_,_,a,_⟩:=h.ex;exact⟨_,_,a⟩
theorem RfV.ablk{s:ByteArray}{D:List Int}{al:Nat->List Int}{V L Rg:Nat->Int}{pl:Nat}(h:RfV w G R A s D al V L Rg pl){g:Nat}(a:A=N g):∃cs fr,w.heap[g]?=N (Q cs 25 fr):=by
 obtain⟨_,_,_,_,_,b,_⟩:=h.ex;rcases b with⟨h,_⟩|⟨g',_,_,h1,_,⟨c,hc,_⟩,_⟩
 ·rw[h]at a;cases a
 ·rw[h1]at a;cases a;exact⟨c,_,hc⟩
theorem RfV.other{s:ByteArray}{D:List Int}{al:Nat->List Int}{V L Rg:Nat->Int}{pl:Nat}(h:RfV w G R A s D al V L Rg pl){cs:Array Value}{fr:Nat×Nat}(d:w.heap[B]?=N (Q cs 61 fr))(a:Kp B w w1):RfV w1 G R A s D al V L Rg pl:=by
 obtain⟨l,j,e⟩:=h.blk;refine h.of a.size (λ_ h _=>h) (a.block R (zJ e d oq) (lt_of_block e)) (λg hg=>?_) (λb c t f _ ht hb=>a.block b (zJ hb d ?_) (lt_of_block hb))
 ·obtain⟨m,k,i⟩:=h.ablk hg;exact a.block g (zJ i d oq) (lt_of_block i)
 ·rcases ht with rfl|rfl<;>decide
theorem SV.other{C:List Int}{dn:Nat->Bool}{al:Nat->List Int}{V L Rg:Nat->Int}{pl:Nat}(h:SV w G B C dn al V L Rg pl){cs:Array Value}{fr:Nat×Nat}(j:w.heap[R]?=N (Q cs 86 fr))(m:∀g,A=N g->∃(cs:Array Value) (fr:Nat×Nat),w.heap[g]?=N (Q cs 25 fr))(k:w.heap.size<=w1.heap.size)(i:∀b,b≠R->A≠N b->b<w.heap.size->w1.heap[b]?=w.heap[b]?):SV w1 G B C dn al V L Rg pl:=by
 obtain⟨p,n,a⟩:=h.blk;have d:∀(b:Nat) (c:Array Value) (t:TypeId) (f:Nat×Nat),w.heap[b]?=N (Q c t f)->t≠25->A≠N b:=λb c t f a ht e=>by
  obtain⟨q,o,l⟩:=m b e;exact zJ a l ht rfl
 refine h.of k (λ_ h _=>h) (i B (zJ a j oq) (d B _ _ _ a oq) (lt_of_block a)) (λb c t f _ ht a=>i b (zJ a j ?_) (d b _ _ _ a ?_) (lt_of_block a))
 ·rcases ht with rfl|rfl|rfl<;>decide
 ·rcases ht with rfl|rfl|rfl<;>decide
theorem Zb.below{p:PrS}(h:Zb w G p)(a:Below w.heap.size w w1):Zb w1 G p:=⟨h.sv.below a,h.rf.below a,h.st,h.dd,h.pp⟩
theorem Zb.wk{p:PrS}(h:Zb w G p)(a:∀b,G b->b<w.heap.size->G' b):Zb w G' p:=⟨h.sv.wk a,h.rf.wk a,h.st,h.dd,h.pp⟩
theorem Zb.grown{p:PrS}{r:Option Nat}{t:TypeId}(h:Zb w (λb=>r≠N b) p)(i:w.grownBy w1 r)(j:t=3\/t=96)(l:∀g,r=N g->∃cs fr,w.heap[g]?=N (Q cs t fr)):Zb w1 (λ_=>True) p:=by
 have d:∀(b:Nat) (c:Array Value) (u:TypeId) (f:Nat×Nat),w.heap[b]?=N (Q c u f)->u≠t->w1.heap[b]?=w.heap[b]?:=λb c u f a hu=>i.block b (lt_of_block a) (λe=>by
  obtain⟨A,v,n⟩:=l b e.symm;exact zJ a n hu rfl)
 obtain⟨y,q,a⟩:=h.sv.blk;obtain⟨x,o,k⟩:=h.rf.blk;refine⟨h.sv.of i.size (λ_ _ _=>trivial) (d _ _ _ _ a ?_) (λb _ _ _ hG _ a=>i.block b (lt_of_block a) (λe=>hG e.symm)),h.rf.of i.size (λ_ _ _=>trivial) (d _ _ _ _ k ?_) (λg hgg=>?_) (λb _ _ _ hG _ a=>i.block b (lt_of_block a) (λe=>hG e.symm)),h.st,h.dd,h.pp⟩
 ·rcases j with rfl|rfl<;>decide
 ·rcases j with rfl|rfl<;>decide
 ·obtain⟨z,s,m⟩:=h.rf.ablk hgg;exact d _ _ _ _ m (by rcases j with rfl|rfl<;>decide)
theorem Zb.ch{p:PrS}(h:Zb w (λ_=>True) p)(j:ChS B R A w w1){C z:Array Value}{s fr:Nat×Nat}(l:w.heap[B]?=N (Q C 61 s))(k:w.heap[R]?=N (Q z 86 fr))(n:∀g,A=N g->∃(cs:Array Value) (fr:Nat×Nat),w.heap[g]?=N (Q cs 25 fr))(y:p.B≠B)(x:p.R≠R)(v:∀g,p.A=N g->A≠N g):Zb w1 (λ_=>True) p:=by
 have a:∀(b:Nat) (c:Array Value) (u:TypeId) (f:Nat×Nat),w.heap[b]?=N (Q c u f)->b≠B->b≠R->u≠25->w1.heap[b]?=w.heap[b]?:=λb c u f hb h1 h2 h3=>j.block b (lt_of_block hb) h1 h2 (λe=>by
  obtain⟨I,G,o⟩:=n b e;exact zJ hb o h3 rfl)
 obtain⟨E,r,i⟩:=h.sv.blk;obtain⟨D,q,d⟩:=h.rf.blk;refine⟨h.sv.of j.size (λ_ h _=>h) (a _ _ _ _ i y (zJ i k oq) oq) (λb _ t _ _ ht hb=>a b _ t _ hb (zJ hb l ?_) (zJ hb k ?_) ?_),h.rf.of j.size (λ_ h _=>h) (a _ _ _ _ d (zJ d l oq) x oq) (λg hg=>?_) (λb _ t _ _ ht hb=>a b _ t _ hb (zJ hb l ?_) (zJ hb k ?_) ?_),h.st,h.dd,h.pp⟩
 ·rcases ht with rfl|rfl|rfl<;>decide
 ·rcases ht with rfl|rfl|rfl<;>decide
 ·rcases ht with rfl|rfl|rfl<;>decide
 ·obtain⟨H,F,m⟩:=h.rf.ablk hg;exact j.block g (lt_of_block m) (zJ m l oq) (zJ m k oq) (v g hg)
 ·rcases ht with rfl|rfl<;>decide
 ·rcases ht with rfl|rfl<;>decide
 ·rcases ht with rfl|rfl<;>decide
end
def TlT(p:PrS)(w:World)(e:Ending)(w':World):Prop:=e=.returned (.bool true)/\ChS p.B p.R p.A w w'/\∃p',Zb w' (λ_=>True) p'/\p'.B=p.B/\p'.R=p.R/\(p'.A=p.A\/∃g,p'.A=N g/\w.heap.size<=g)
end
def opC(kk oa ob oc od:Int)(os:ByteArray):Array Value:=#[J Z kk,J Z oa,J Z ob,J Z oc,J Z od,.string os]
def prC(B R:Nat):Array Value:=#[.pointer (N ⟨B,0,S⟩),.pointer (N ⟨R,0,S⟩)]
structure BxS (w w1:World) (B R:Nat) (op:Array Value):Prop where
 pb:w1.heap[w.heap.size]?=N (Q (prC B R) 88 (0,0))
 ob:w1.heap[w.heap.size+1]?=N (Q op 53 (0,0))
theorem x9(w:World)(B R:Nat)(a:Array Value):BxS w ((w.alloc (Q (prC B R) 88)).alloc (Q a 53)) B R a/\Below w.heap.size w ((w.alloc (Q (prC B R) 88)).alloc (Q a 53)) :=
 ⟨⟨by rw[Below.heap_alloc _ _ _ ot];exact heap_alloc_new w _,zl _ ot⟩,((Below.refl _ _).alloc (Nat.le_refl _) _).alloc ot _⟩
theorem BxS.keep{w a c:World}{B R:Nat}{d:Array Value}(h:BxS w a B R d)(e:∀b,w.heap.size<=b->b<a.heap.size->c.heap[b]?=a.heap[b]?):BxS w c B R d :=
 ⟨(e _ (Nat.le_refl _) (lt_of_block h.pb)).trans h.pb,(e _ ol (lt_of_block h.ob)).trans h.ob⟩
theorem zbw(SB:Nat)(p:PrS)(m l k j:Int)(a:ByteArray)(w:World)(h:Zb w (λ_=>True) p):
 Calls T 37 #[.pointer (N ⟨SB,0,S⟩),.agg #[.pointer (N ⟨p.B,0,S⟩),.pointer (N ⟨p.R,0,S⟩)],.agg #[J Z 8,J Z m,J Z l,J Z k,J Z j,.string a]] w (TlT p w):=by
 have H:Hd _:=h;have a2:=h.sv.lt;have a0:=h.rf.lt;obtain⟨x,n⟩:=x9 w p.B p.R (opC 8 m l k j a);have K:Hd (BxS w ((w.alloc (Q #[.pointer (N ⟨p.B,0,S⟩),.pointer (N ⟨p.R,0,S⟩)] 88)).alloc (Q #[J Z 8,J Z m,J Z l,J Z k,J Z j,.string a] 53)) p.B p.R (opC 8 m l k j a)):=x;have W:Hd (Below w.heap.size w ((w.alloc (Q #[.pointer (N ⟨p.B,0,S⟩),.pointer (N ⟨p.R,0,S⟩)] 88)).alloc (Q #[J Z 8,J Z m,J Z l,J Z k,J Z j,.string a] 53))):=n;have r:Hd (Zb ((w.alloc (Q #[.pointer (N ⟨p.B,0,S⟩),.pointer (N ⟨p.R,0,S⟩)] 88)).alloc (Q #[J Z 8,J Z m,J Z l,J Z k,J Z j,.string a] 53)) (λ_=>True) p):=h.below n;clear h x n;go_enter func37,ntmps37;go_wp2_with fail;generalize((w.alloc (Q #[.pointer (N ⟨p.B,0,S⟩),.pointer (N ⟨p.R,0,S⟩)] 88)).alloc (Q #[J Z 8,J Z m,J Z l,J Z k,J Z j,.string a] 53))=w0 at *;refine(r.o.sv.loadC a (λ_ _=>trivial)).mono ?_;rintro e t ⟨rfl,z,i,u⟩;have F:Hd (BxS w t p.B p.R (opC 8 m l k j a)):=K.o.keep (λb h1 h2=>i.block b ol h2);obtain⟨cb,fb,d⟩:=r.o.sv.blk;have c:=r.o.rf.other d i;have I:Hd (Calls T 75 #[.pointer (N ⟨p.R,0,S⟩),.string a] t (LdR t (λ_=>True) p.R p.A p.s a p.D p.al p.V p.L p.Rg p.pl)):=zb3 c a;have G:Hd _:=u;have U:Hd (ChS p.B p.R p.A w t):=(ChS.below W.o).trans (ChS.kpB z i);have q:Hd _:=c;clear z i u d c;have a1:t.cell? ⟨w.heap.size,1,S⟩=N (.pointer (N ⟨p.R,0,S⟩)):=by rw[cell_of_row _ _ _ _ _ _ F.o.pb];rfl
 have b5:t.cell? ⟨w.heap.size+1,5,S⟩=N (.string a):=by rw[cell_of_row _ _ _ _ _ _ F.o.ob];rfl
 go_wp2_with fail;refine I.o.mono ?_;rintro e X ⟨rfl,y,f,v⟩;have O:Hd (Zb X (λ_=>True) { p with s:=if cpE a=0 then a else p.s,C:=if cpE a=0 then cpX a else p.C }):=by
  obtain⟨cr,fr,Y⟩:=q.o.blk;refine⟨G.o.other Y (λg hg=>q.o.ablk hg) f.size (λb e1 _ hl=>f.block b e1 hl),v,?_,H.o.dd,H.o.pp⟩;by_cases E:cpE a=0
  ·simp only[if_pos E];exact .inr ⟨λe=>by rw[e]at E;exact zg5 E,E,by first|rfl|trivial⟩
  ·simp only[if_neg E];exact H.o.st
 have P:Hd (ChS p.B p.R p.A w X):=U.o.trans (ChS.kpR y f);clear y f v I G q;generalize cpE a=ce at *;generalize ldA a=la at *;go_wp2_with fail;go_ret;exact⟨rfl,P.o,_,O.o,rfl,rfl,.inl rfl⟩
theorem zbv(SB:Nat)(p:PrS)(v c a u:Int)(t:ByteArray)(w:World)(h:Zb w (λ_=>True) p):
 Calls T 37 #[.pointer (N ⟨SB,0,S⟩),.agg #[.pointer (N ⟨p.B,0,S⟩),.pointer (N ⟨p.R,0,S⟩)],.agg #[J Z 9,J Z v,J Z c,J Z a,J Z u,.string t]] w (TlT p w):=by
 have H:Hd _:=h;have b4:=h.sv.lt;have b1:=h.rf.lt;obtain⟨O,E⟩:=x9 w p.B p.R (opC 9 v c a u t);have m:Hd (BxS w ((w.alloc (Q #[.pointer (N ⟨p.B,0,S⟩),.pointer (N ⟨p.R,0,S⟩)] 88)).alloc (Q #[J Z 9,J Z v,J Z c,J Z a,J Z u,.string t] 53)) p.B p.R (opC 9 v c a u t)):=O;have a0:Hd (Below w.heap.size w ((w.alloc (Q #[.pointer (N ⟨p.B,0,S⟩),.pointer (N ⟨p.R,0,S⟩)] 88)).alloc (Q #[J Z 9,J Z v,J Z c,J Z a,J Z u,.string t] 53))):=E;have q:Hd (Zb ((w.alloc (Q #[.pointer (N ⟨p.B,0,S⟩),.pointer (N ⟨p.R,0,S⟩)] 88)).alloc (Q #[J Z 9,J Z v,J Z c,J Z a,J Z u,.string t] 53)) (λ_=>True) p):=h.below E;clear h O E;have a3:-2<a.tmod 2/\a.tmod 2<2:=⟨Int.lt_tmod_of_pos a oq,Int.tmod_lt_of_pos a oq⟩;obtain⟨b0,a9⟩:=a3;go_enter func37,ntmps37;go_wp2_with fail;generalize((w.alloc (Q #[.pointer (N ⟨p.B,0,S⟩),.pointer (N ⟨p.R,0,S⟩)] 88)).alloc (Q #[J Z 9,J Z v,J Z c,J Z a,J Z u,.string t] 53))=w0 at *;by_cases z:0<=c/\c<64
 ·obtain⟨n,hn⟩:=Int.eq_ofNat_of_zero_le z.1;have x:n<64:=ol;have HN:Hd (c=(n:Int)):=hn;have Y:Hd (Calls T 16 #[.pointer (N ⟨p.B,0,S⟩),J Z c,.bool (a.tmod 2==0)] w0 λe d=>e=.returned (J Z 0)/\Below p.B w0 d/\Kp p.B w0 d/\SV d (λ_=>True) p.B p.C (λi=>if i=n then !(a.tmod 2==0)else p.dn i) p.al p.V p.L p.Rg p.pl):=by
   show Calls _ _ _ _ _;rw[hn];exact q.o.sv.markC x _
  clear hn z;refine Y.o.mono ?_;rintro e r ⟨rfl,U,l,I⟩;have F:Hd (BxS w r p.B p.R (opC 9 v c a u t)):=m.o.keep (λb h1 h2=>l.block b ol h2);obtain⟨cb,fb,j⟩:=q.o.sv.blk;have f:=q.o.rf.other j l;have y:(mkD p.D n (a.tmod 2==0)).Perm (dnL (λi=>if i=n then !(a.tmod 2==0)else p.dn i) 64):=zdM H.o.dd x;have a4:Hd _:=y;have X:Hd (Calls T 76 #[.pointer (N ⟨p.R,0,S⟩),J Z c,.bool (a.tmod 2==0)] r λe d=>e=.returned (J Z 0)/\Below p.R r d/\Kp p.R r d/\RfV d (λ_=>True) p.R p.A p.s (mkD p.D n (a.tmod 2==0)) p.al p.V p.L p.Rg p.pl):=by
   show Calls _ _ _ _ _;rw[HN.o];exact zdm f n _ ol ol (by rw[y.length_eq];exact jZ _ _) (λ_ _=>trivial)
  have W:Hd _:=I;have a8:Hd (ChS p.B p.R p.A w r):=(ChS.below a0.o).trans (ChS.kpB U l);have G:Hd _:=f;clear U l I j f y;have a1:r.cell? ⟨w.heap.size,1,S⟩=N (.pointer (N ⟨p.R,0,S⟩)):=by rw[cell_of_row _ _ _ _ _ _ F.o.pb];rfl
  have b2:r.cell? ⟨w.heap.size+1,2,S⟩=N (J Z c):=by rw[cell_of_row _ _ _ _ _ _ F.o.ob];rfl
  have b3:r.cell? ⟨w.heap.size+1,3,S⟩=N (J Z a):=by rw[cell_of_row _ _ _ _ _ _ F.o.ob];rfl
  go_wp2_with fail;refine X.o.mono ?_;rintro e w2 ⟨rfl,P,k,K⟩;have a5:Hd (Zb w2 (λ_=>True) { p with D:=mkD p.D n (a.tmod 2==0),dn:=λi=>if i=n then !(a.tmod 2==0)else p.dn i }):=by
   obtain⟨cr,fr,hr⟩:=G.o.blk;exact⟨W.o.other hr (λg hg=>G.o.ablk hg) k.size (λb e1 _ hl=>k.block b e1 hl),K,H.o.st,a4.o,H.o.pp⟩
  have a7:Hd (ChS p.B p.R p.A w w2):=a8.o.trans (ChS.kpR P k);clear P k K X W G Y;go_wp2_with fail;go_ret;exact⟨rfl,a7.o,_,a5.o,rfl,rfl,.inl rfl⟩
 ·refine(zft p.B c _ w0 ol).mono ?_;rintro e d ⟨rfl,a2⟩;subst d;have a1:w0.cell? ⟨w.heap.size,1,S⟩=N (.pointer (N ⟨p.R,0,S⟩)):=by rw[cell_of_row _ _ _ _ _ _ m.o.pb];rfl
  have b2:w0.cell? ⟨w.heap.size+1,2,S⟩=N (J Z c):=by rw[cell_of_row _ _ _ _ _ _ m.o.ob];rfl
  have b3:w0.cell? ⟨w.heap.size+1,3,S⟩=N (J Z a):=by rw[cell_of_row _ _ _ _ _ _ m.o.ob];rfl
  have a6:Hd (c<0\/63<c):=by show _\/_;omega
  clear z;go_wp2_with fail;refine(zdn p.R c _ w0 a6.o).mono ?_;rintro e d ⟨rfl,a2⟩;subst d;go_wp2_with fail;go_ret;exact⟨rfl,ChS.below a0.o,_,q.o,rfl,rfl,.inl rfl⟩
theorem ChS.grown{B R:Nat}{A:Option Nat}{w d c:World}{r:Option Nat}(h:ChS B R A w d)(a:d.grownBy c r)(f:∀g,r=N g->w.heap.size<=g):ChS B R A w c :=
 ⟨Nat.le_trans h.size a.size,λb hb e1 e2 e3=>(a.block b (Nat.lt_of_lt_of_le hb h.size) (λe=>by have:=f b e.symm;omega)).trans (h.block b hb e1 e2 e3),λbase e1 e2 e3 e4=>(h.bel base e1 e2 e3 e4).grown a (Nat.le_trans e3 h.size) (λg hg'=>Nat.le_trans e3 (f g hg'))⟩
theorem LnI.typ{B:Nat}{w:World}{o:Option Addr}{v:Value}{n:Nat}{D:Nat->Int}(h:LnI B w o v n D){g:Nat}(a:v.ownBlock=N g):∃cs fr,w.heap[g]?=N (Q cs 3 fr):=by
 rcases h with⟨_,rfl,_⟩|⟨ad,g',f,_,rfl,_,⟨c,hc,_⟩,_⟩
 ·cases a
 ·cases a;exact⟨c,_,hc⟩
structure WsS (wI w:World) (SB:Nat) (wo:Option Addr) (wb woff m wcp:Nat) (X:Nat->WD):Prop where
 xs:XS wI wo wb woff m X
 bel:Below wI.heap.size wI w
 s0:w.cell? ⟨SB,0,S⟩=N (O wo m wcp)
 sl:SB<w.heap.size
 sz:m*96<=140737488351232
theorem Q8(m:Nat)(p:PrS)(r:World)(n:Option Addr)(q a e:Nat)(X:Nat->WD)(b k j i g:Int)(f:ByteArray)(w:World)(s:b=10\/b=11)(h:Zb w (λ_=>True) p)(l:WsS r w m n q a 0 e X):
 Calls T 37 #[.pointer (N ⟨m,0,S⟩),.agg #[.pointer (N ⟨p.B,0,S⟩),.pointer (N ⟨p.R,0,S⟩)],.agg #[J Z b,J Z k,J Z j,J Z i,J Z g,.string f]] w (TlT p w):=by
 obtain⟨_,c⟩:=x9 w p.B p.R (opC b k j i g f);have d:Hd (Below w.heap.size w ((w.alloc (Q #[.pointer (N ⟨p.B,0,S⟩),.pointer (N ⟨p.R,0,S⟩)] 88)).alloc (Q #[J Z b,J Z k,J Z j,J Z i,J Z g,.string f] 53))):=c;have H:Hd _:=h;have u:=l.s0;have t:=l.sl;clear h l c;rcases s with rfl|rfl
 all_goals
  go_enter func37,ntmps37;go_wp2_with fail;go_ret;exact⟨rfl,ChS.below d.o,_,H.o.below d.o,rfl,rfl,.inl rfl⟩
theorem J8(SB:Nat)(p:PrS)(y:World)(wo:Option Addr)(wb f m e6:Nat)(X:Nat->WD)(oa l r od:Int)(os:ByteArray)(w:World)(h:Zb w (λ_=>True) p)(hw:WsS y w SB wo wb f m e6 X)(hm:0<m)(i1:y.heap.size<=p.B)(i0:y.heap.size<=p.R)(f5:∀g,p.A=N g->y.heap.size<=g)(c0:-9223372036854775808<=r)(c1:r<=9223372036854775807):
 Calls T 37 #[.pointer (N ⟨SB,0,S⟩),.agg #[.pointer (N ⟨p.B,0,S⟩),.pointer (N ⟨p.R,0,S⟩)],.agg #[J Z 10,J Z oa,J Z l,J Z r,J Z od,.string os]] w (TlT p w):=by
 obtain⟨f3,f4⟩:=x9 w p.B p.R (opC 10 oa l r od os);have c8:Hd (BxS w ((w.alloc (Q #[.pointer (N ⟨p.B,0,S⟩),.pointer (N ⟨p.R,0,S⟩)] 88)).alloc (Q #[J Z 10,J Z oa,J Z l,J Z r,J Z od,.string os] 53)) p.B p.R (opC 10 oa l r od os)):=f3;have b8:Hd (Below w.heap.size w ((w.alloc (Q #[.pointer (N ⟨p.B,0,S⟩),.pointer (N ⟨p.R,0,S⟩)] 88)).alloc (Q #[J Z 10,J Z oa,J Z l,J Z r,J Z od,.string os] 53))):=f4;have H:Hd _:=h;have HW:Hd _:=hw;have k5:=h.sv.lt;have k3:=h.rf.lt;have s0:=hw.s0;have h8:=hw.sl;obtain rfl:=hw.xs.at_ hm;have b9:wb<y.heap.size:=hw.xs.lt hm;have j0:wb<w.heap.size:=Nat.lt_of_lt_of_le b9 hw.bel.size;have k1:=hw.sz;have f1:((m:Int)==0)=false:=by rw[beq_eq_false_iff_ne];omega
 have i5:Hd _:=f5;clear h hw f3 f4 f5;go_enter func37,ntmps37;go_upto_region 13 with fail
 have a2:=(b8.o.cell (p:=⟨SB,0,S⟩) h8).trans s0;have c6:Hd (((w.alloc (Q #[.pointer (N ⟨p.B,0,S⟩),.pointer (N ⟨p.R,0,S⟩)] 88)).alloc (Q #[J Z 10,J Z oa,J Z l,J Z r,J Z od,.string os] 53)).heap.size=w.heap.size+2):=sw;generalize((w.alloc (Q #[.pointer (N ⟨p.B,0,S⟩),.pointer (N ⟨p.R,0,S⟩)] 88)).alloc (Q #[J Z 10,J Z oa,J Z l,J Z r,J Z od,.string os] 53))=w2 at *;clear s0;have c4:(0:Int)<(m:Int):=ol;obtain⟨z,f2⟩:∃z:Nat,pkF r m=(z:Int):=⟨(pkF r m).toNat,by have:=(Z7 (c:=r) c4).1;omega⟩;have a5:z<m:=by have:=(Z7 (c:=r) c4).2;omega
 have h7:(z:Int)<(m:Int):=ol;have g5:Hd (∀wz,Calls T 31 #[J Z r,J Z m] wz λe w'=>e=.returned (J Z z)/\w'=wz):=λwz=>by have:=YF r m wz c0 c1 c4 ol;rw[f2]at this;exact this
 clear f2;obtain⟨x,a9⟩:∃x,X z=x:=⟨_,rfl⟩;have n:Hd (x.In y):=by rw[<-a9];exact HW.o.xs.in_ z a5
 have d4:Hd (x.pl*24<=140737488351232/\x.dl*8<=140737488351232/\x.al.length*24<=140737488351232):=by rw[<-a9];exact HW.o.xs.sz z a5
 have b7:Hd (Below y.heap.size y w2):=HW.o.bel.trans (b8.o.mono HW.o.bel.size);have W:Hd (∀j,j<6->w2.cell? ⟨wb,f+z*6+j,S⟩=[J Z x.a,J Z x.b,J Z x.d,O x.do_ x.dl x.dc,O x.ao x.al.length x.ac,O x.po x.pl x.pcp][j]?):=λj hj=>by rw[b7.o.cell (p:=⟨wb,f+z*6+j,S⟩) b9,<-a9];exact HW.o.xs.c z a5 j hj
 have e0:=W.o 0 ol;have e1:=W.o 1 ol;have e2:=W.o 2 ol;have e3:=W.o 3 ol;have e4:=W.o 4 ol;have e5:=W.o 5 ol;simp only[List.getElem?_cons_succ,List.getElem?_cons_zero,Nat.add_zero]at e0 e1 e2 e3 e4 e5;have q3:w2.cell? ⟨w.heap.size+1,3,S⟩=N (J Z r):=by rw[cell_of_row _ _ _ _ _ _ c8.o.ob];rfl
 clear a9 W;have j1:wb<w2.heap.size:=by have:=c6.o;omega
 have k2:SB<w2.heap.size:=by have:=c6.o;omega
 have k4:w.heap.size+1<w2.heap.size:=by have:=c6.o;omega
 go_cut [13] (λs6 wx=>s6=.pointer (N ⟨w2.heap.size,0,S⟩)/\Below w2.heap.size w2 wx/\wx.heap[w2.heap.size]?=N (Q #[J Z x.a,J Z x.b,J Z x.d,O x.do_ x.dl x.dc,O x.ao x.al.length x.ac,O x.po x.pl x.pcp] 31 (0,0)))
 case first =>
  go_region_held3 (λw'=>w'.cell? ⟨SB,0,S⟩=N (O (N ⟨wb,f,S⟩) m e6)/\w'.cell? ⟨w.heap.size+1,3,S⟩=N (J Z r)/\w'.cell? ⟨wb,f+z*6,S⟩=N (J Z x.a)/\w'.cell? ⟨wb,f+z*6+1,S⟩=N (J Z x.b)/\w'.cell? ⟨wb,f+z*6+2,S⟩=N (J Z x.d)/\w'.cell? ⟨wb,f+z*6+3,S⟩=N (O x.do_ x.dl x.dc)/\w'.cell? ⟨wb,f+z*6+4,S⟩=N (O x.ao x.al.length x.ac)/\w'.cell? ⟨wb,f+z*6+5,S⟩=N (O x.po x.pl x.pcp)) (first|(exact⟨a2,q3,e0,e1,e2,e3,e4,e5⟩)|(exact⟨zx a2 _,zx q3 _,zx e0 _,zx e1 _,zx e2 _,zx e3 _,zx e4 _,zx e5 _⟩)|go_keep) (first|(go_at_call 31;refine(g5.o _).mono ?_;rintro e w' ⟨rfl,k0⟩;subst w'))
  all_goals
   go_wp2_with fail;go_meet
   exact⟨rfl,((Below.refl _ _).alloc (Nat.le_refl _) _).drew,heap_alloc_new w2 _⟩
 case rest =>
 obtain⟨rfl,a6,b0⟩:=hcut;obtain⟨t,h4⟩:∃t,t=wc:=⟨_,rfl⟩;subst h4;have u:Hd (Below w.heap.size w t):=b8.o.trans (a6.mono b8.o.size);have f7:Hd (BxS w t p.B p.R (opC 10 oa l r od os)):=c8.o.keep (λb _ h2=>a6.block b h2);have f8:Hd _:=b0;have b6:Hd (Below y.heap.size y t):=b7.o.trans (a6.mono b7.o.size);have i9:=a6.size;have i2:w2.heap.size<t.heap.size:=lt_of_block b0;have d3:t.cell? ⟨w2.heap.size,3,S⟩=N (O x.do_ x.dl x.dc):=by rw[cell_of_row _ _ _ _ _ _ b0];rfl
 have g7:Hd (Calls T 77 #[O x.do_ x.dl x.dc] t λe w'=>(∃v,e=.returned v/\LnI t.heap.size w' x.do_ v x.dl x.Dn)/\Below t.heap.size t w'):=YX x.do_ x.db x.doff x.dl x.dc x.Dn t d4.o.2.1 (n.o.is_.below b6.o n.o.is_.lt);clear a6 b0 e0 e1 e2 e3 e4 e5 q3 a2 g5 c8 b7 f1;go_wp2_with fail;refine g7.o.mono ?_;rintro e q ⟨⟨v,rfl,hv⟩,P⟩;obtain⟨G,U,g,h6,c3,_⟩:=hv.is_;have a8:Hd (LnI t.heap.size q x.do_ v x.dl x.Dn):=hv;have g3:Hd (IS q G g 0 x.dl x.Dn):=c3;have b3:Hd (Zb q (λb=>v.ownBlock≠N b) p):=by
  have hb:Below w.heap.size w q:=u.o.trans (P.mono u.o.size);exact(H.o.wk (λb _ hl e=>by have:=(hv.lt e).1;have:=u.o.size;omega)).below hb
 have d9:Hd (Below w.heap.size w q):=u.o.trans (P.mono u.o.size);have b1:Hd (BxS w q p.B p.R (opC 10 oa l r od os)):=f7.o.keep (λb _ h2=>P.block b h2);have d1:Hd _:=(P.block _ i2).trans f8.o;have g8:Hd (Below y.heap.size y q):=b6.o.trans (P.mono b6.o.size);have g0:Hd (∀b,q.heap.size<=b->v.ownBlock≠N b):=λb hb e=>by have:=(hv.lt e).2;omega
 have k7:=P.size;subst h6;clear hv c3 P g7 d3 f7 b6 f8;have a0:q.cell? ⟨w.heap.size,0,S⟩=N (.pointer (N ⟨p.B,0,S⟩)):=by rw[cell_of_row _ _ _ _ _ _ b1.o.pb];rfl
 have b2:q.cell? ⟨w.heap.size+1,2,S⟩=N (J Z l):=by rw[cell_of_row _ _ _ _ _ _ b1.o.ob];rfl
 go_wp2_with fail;by_cases a4:0<=l/\l<16/\x.dl<=16/\∀i,i<x.dl->0<=x.Dn i/\x.Dn i<64
 ·obtain⟨k,hk⟩:=Int.eq_ofNat_of_zero_le a4.1;have HK:Hd (l=(k:Int)):=hk;have c2:k<16:=ol;have b4:Hd (x.dl<=16/\∀i,i<x.dl->0<=x.Dn i/\x.Dn i<64):=a4.2.2;have g9:Hd (Calls T 18 #[.pointer (N ⟨p.B,0,S⟩),J Z l,O G x.dl U] q λe w'=>e=.returned (J Z 0)/\Below p.B q w'/\Kp p.B q w'/\SV w' (λb=>(O G x.dl U).ownBlock≠N b) p.B p.C p.dn (λi=>if i=k then(List.range x.dl).map x.Dn else p.al i) p.V p.L p.Rg p.pl):=by
   show Calls _ _ _ _ _;rw[HK.o];exact b3.o.sv.aliasC c2 g3.o b4.o.1 b4.o.2 g0.o
  clear a4 hk;refine g9.o.mono ?_;rintro e w5 ⟨rfl,c5,F,e9⟩;have c7:Hd (BxS w w5 p.B p.R (opC 10 oa l r od os)):=b1.o.keep (λb h1 h2=>F.block b ol h2);have d0:Hd _:=(F.block _ ol (lt_of_block d1.o)).trans d1.o;have d7:Hd (Below y.heap.size y w5):=g8.o.trans (c5.mono i1);obtain⟨cb,fb,K⟩:=b3.o.sv.blk;have a3:=b3.o.rf.other K F;have g1:Hd (LnI t.heap.size w5 x.do_ (O G x.dl U) x.dl x.Dn):=a8.o.keep (λg hg=>by
   obtain⟨c9,f9,h9⟩:=a8.o.typ hg;exact F.block g (zJ h9 K oq) (lt_of_block h9))
  have i7:Hd (ChS p.B p.R p.A w w5):=(ChS.below d9.o).trans (ChS.kpB c5 F);have g2:Hd _:=e9;have d5:Hd _:=a3;have g4:Hd (Calls T 78 #[.pointer (N ⟨p.R,0,S⟩),J Z l,O x.do_ x.dl x.dc] w5 (AlT w5 (λb=>(O G x.dl U).ownBlock≠N b) p.R p.A p.s p.D p.al p.V p.L p.Rg p.pl k x.dl x.Dn)):=by
   show Calls _ _ _ _ _;rw[HK.o];exact zb4 a3 c2 x.do_ x.db x.doff x.dl x.dc x.Dn (n.o.is_.below d7.o n.o.is_.lt) b4.o.1 b4.o.2 (λh0=>by have:=n.o.is_.lt h0;omega) (λb hb=>g0.o b (Nat.le_trans F.size hb))
  have k6:=F.size;clear c5 F e9 K a3 g9;have a1:w5.cell? ⟨w.heap.size,1,S⟩=N (.pointer (N ⟨p.R,0,S⟩)):=by rw[cell_of_row _ _ _ _ _ _ c7.o.pb];rfl
  have k8:w5.cell? ⟨w.heap.size+1,2,S⟩=N (J Z l):=by rw[cell_of_row _ _ _ _ _ _ c7.o.ob];rfl
  have d3:w5.cell? ⟨w2.heap.size,3,S⟩=N (O x.do_ x.dl x.dc):=by rw[cell_of_row _ _ _ _ _ _ d0.o];rfl
  go_wp2_with fail;refine g4.o.mono ?_;rintro e w6 ⟨rfl,E,A',f6,f0⟩;have Y:∀g,p.A=N g->g<w.heap.size:=λg hg=>H.o.rf.alt hg
  have k9:Hd (BxS w w6 p.B p.R (opC 10 oa l r od os)):=c7.o.keep (λb h1 h2=>E.block b ol (λe=>by have:=Y b e;omega) h2);have i3:Hd _:=(E.block _ ol (λe=>by have:=Y _ e;omega) (lt_of_block d0.o)).trans d0.o;have d2:Hd (LnI t.heap.size w6 x.do_ (O G x.dl U) x.dl x.Dn):=g1.o.keep (λg hg=>by
   have h9:=g1.o.lt hg;exact E.block g ol (λe=>by have:=Y g e;omega) h9.2)
  have i6:Hd (ChS p.B p.R p.A w w6):=i7.o.trans (ChS.kq E);have e7:y.heap.size<=w5.heap.size:=d7.o.size;have b5:Hd (IS w6 x.do_ x.db x.doff x.dl x.Dn):=n.o.is_.below (d7.o.trans (E.bel _ i0 e7 i5.o)) n.o.is_.lt;have i4:Hd (Zb w6 (λb=>(O G x.dl U).ownBlock≠N b) { p with A:=A',al:=λi=>if i=k then(List.range x.dl).map x.Dn else p.al i }):=by
   obtain⟨cr,fr,hr⟩:=d5.o.blk;exact⟨g2.o.other hr (λg hg=>d5.o.ablk hg) E.size E.block,f0,H.o.st,H.o.dd,H.o.pp⟩
  have e8:y.heap.size<=t.heap.size:=by have:=HW.o.bel.size;have:=u.o.size;omega
  have a7:Hd (Calls T 79 #[O G x.dl U,O x.do_ x.dl x.dc,J Z 1] w6 λe w'=>e=.returned (.bool true)/\w6.grownBy w' (O G x.dl U).ownBlock/\∀g,(O G x.dl U).ownBlock=N g->w'.rowIs g 3 (x.dl+8) (λ_=>J Z 1)):=ZX t.heap.size (O G x.dl U) x.do_ x.db x.doff x.dl x.dc x.Dn 1 w6 d4.o.2.1 b5.o (λh0=>by have:=n.o.is_.lt h0;omega) d2.o;have i8:Hd (A'=p.A\/∃g,A'=N g/\w.heap.size<=g):=f6.imp id (λ⟨g,e,h⟩=>⟨g,e,by have:=d9.o.size;omega⟩);clear E f6 f0 g4 d5 g2 Y d3;have d3:w6.cell? ⟨w2.heap.size,3,S⟩=N (O x.do_ x.dl x.dc):=by rw[cell_of_row _ _ _ _ _ _ i3.o];rfl
  go_wp2_with fail;refine a7.o.mono ?_;rintro e w7 ⟨rfl,I,_⟩;have d6:Hd _:=i4.o.grown I (.inl rfl) (λg hg=>d2.o.typ hg);have d8:Hd (ChS p.B p.R p.A w w7):=i6.o.grown I (λg hg=>by have:=(d2.o.lt hg).1;have:=u.o.size;omega);clear I a7;go_wp2_with fail;go_ret;exact⟨rfl,d8.o,_,d6.o,rfl,rfl,i8.o⟩
 ·have g6:Hd (l<0\/15<l\/¬(x.dl<=16/\∀i,i<x.dl->0<=x.Dn i/\x.Dn i<64)):=by
   show _\/_\/_;by_cases h1:l<0
   ·exact .inl h1
   ·by_cases h2:15<l
    ·exact .inr (.inl h2)
    ·exact .inr (.inr (λh3=>a4 ⟨ol,ol,h3.1,h3.2⟩))
  clear a4;refine(zeH p.B l G g 0 x.dl U x.Dn q g3.o g6.o).mono ?_;rintro e w' ⟨rfl,h5⟩;subst w';have a1:q.cell? ⟨w.heap.size,1,S⟩=N (.pointer (N ⟨p.R,0,S⟩)):=by rw[cell_of_row _ _ _ _ _ _ b1.o.pb];rfl
  have d3:q.cell? ⟨w2.heap.size,3,S⟩=N (O x.do_ x.dl x.dc):=by rw[cell_of_row _ _ _ _ _ _ d1.o];rfl
  have b5:Hd (IS q x.do_ x.db x.doff x.dl x.Dn):=n.o.is_.below g8.o n.o.is_.lt;go_wp2_with fail;refine(zb5 p.R l x.do_ x.db x.doff x.dl x.dc x.Dn q b5.o g6.o).mono ?_;rintro e w' ⟨rfl,h5⟩;subst w';have e8:y.heap.size<=t.heap.size:=by have:=HW.o.bel.size;have:=u.o.size;omega
  have a7:Hd (Calls T 79 #[O G x.dl U,O x.do_ x.dl x.dc,J Z 1] q λe w'=>e=.returned (.bool true)/\q.grownBy w' (O G x.dl U).ownBlock/\∀g,(O G x.dl U).ownBlock=N g->w'.rowIs g 3 (x.dl+8) (λ_=>J Z 1)):=ZX t.heap.size (O G x.dl U) x.do_ x.db x.doff x.dl x.dc x.Dn 1 q d4.o.2.1 b5.o (λh0=>by have:=n.o.is_.lt h0;omega) a8.o;go_wp2_with fail;refine a7.o.mono ?_;rintro e w7 ⟨rfl,I,_⟩;have d6:Hd _:=b3.o.grown I (.inl rfl) (λg hg=>a8.o.typ hg);have d8:Hd (ChS p.B p.R p.A w w7):=(ChS.below d9.o).grown I (λg hg=>by have:=(a8.o.lt hg).1;have:=u.o.size;omega);clear I a7;go_wp2_with fail;go_ret;exact⟨rfl,d8.o,_,d6.o,rfl,rfl,.inl rfl⟩
section
def prL(ps:List PrS):List Value:=ps.flatMap (λp=>[.pointer (N ⟨p.B,0,S⟩),.pointer (N ⟨p.R,0,S⟩)])
structure SRV (w:World) (base:Nat) (sv iv:Value) (ps:List PrS):Prop where
 row:w.ownsRow base 88 2 sv ps.length (prL ps)
 ok:∀p∈ps,Zb w (λ_=>True) p/\base<=p.B/\base<=p.R/\∀g,p.A=N g->base<=g/\iv.ownBlock≠N g
 dis:∀(i j:Nat) (p q:PrS),ps[i]?=N p->ps[j]?=N q->i≠j->p.B≠q.B/\p.R≠q.R/\∀g,p.A=N g->q.A≠N g
section
variable {w w':World} {base SB n:Nat} {wv cv sv sv' iv bv:Value} {cs:List (ByteArray×ByteArray)} {is bs:List Value} {ps:List PrS}
theorem Z0{e a:Nat}{v:Value}{m:Nat}{c:List Value}(h:w.ownsRow base e a v m c){g:Nat}(b:v.ownBlock=N g):∃cs fr,w.heap[g]?=N (Q cs e fr):=by
 rcases h.2 with⟨rfl,_⟩|⟨g',_,cur,rfl,_,hb,_⟩
 ·cases b
 ·cases b;exact⟨cur,_,hb⟩
theorem ST.of(h:ST w base SB n wv cv sv iv bv cs is bs)(e:w'.heap[SB]?=N (Q #[wv,cv,sv',iv,bv] 51 (0,0)))(d:∀(b:Nat) (c:Array Value) (t:TypeId) (fr:Nat×Nat),w.heap[b]?=N (Q c t fr)->(t=124\/t=57\/t=3\/t=5\/(t=25/\iv.ownBlock=N b))->w'.heap[b]?=w.heap[b]?):ST w' base SB n wv cv sv' iv bv cs is bs :=
 ⟨e,zd h.cr (λg hg=>by obtain⟨c,f,a⟩:=Z0 h.cr hg;exact d g c _ f a (.inl rfl)),zd h.ir (λg hg=>by obtain⟨c,f,a⟩:=Z0 h.ir hg;exact d g c _ f a (.inr (.inr (.inr (.inr ⟨rfl,hg⟩))))),zd h.br (λg hg=>by obtain⟨c,f,a⟩:=Z0 h.br hg;exact d g c _ f a (.inr (.inl rfl))),h.ok,λi v hv=>(h.im i v hv).of_kept (λg c a=>d g c _ _ a (.inr (.inr (.inl rfl)))),λi v hv=>(h.bm i v hv).of_kept (λg c a=>d g c _ _ a (.inr (.inr (.inr (.inl rfl))))),h.hB,h.nc,h.ni,h.nb⟩
theorem SRV.below(h:SRV w base sv iv ps)(a:Below w.heap.size w w'):SRV w' base sv iv ps :=
 ⟨zd h.row (λg hg=>a.block g (h.row.lt g hg).2),λp hp=>⟨(h.ok p hp).1.below a,(h.ok p hp).2⟩,h.dis⟩
theorem ST.ch(h:ST w base SB n wv cv sv iv bv cs is bs){p:PrS}(i:Zb w (λ_=>True) p)(o:∀g,p.A=N g->iv.ownBlock≠N g)(j:ChS p.B p.R p.A w w'):ST w' base SB n wv cv sv iv bv cs is bs:=by
 obtain⟨v,r,m⟩:=i.sv.blk;obtain⟨u,q,l⟩:=i.rf.blk;have a:∀(b:Nat) (c:Array Value) (t:TypeId) (f:Nat×Nat),w.heap[b]?=N (Q c t f)->t≠61->t≠86->p.A≠N b->w'.heap[b]?=w.heap[b]?:=λb c t f hb h1 h2 h3=>j.block b (lt_of_block hb) (zJ hb m h1) (zJ hb l h2) h3
 have d:∀(b:Nat) (c:Array Value) (t:TypeId) (f:Nat×Nat),w.heap[b]?=N (Q c t f)->t≠25->p.A≠N b:=λb c t f hb ht e=>by
  obtain⟨x,s,k⟩:=i.rf.ablk e;exact zJ hb k ht rfl
 refine h.of ((a SB _ _ _ h.blk oq oq (d SB _ _ _ h.blk oq)).trans h.blk) (λb c t f hb ht=>?_);rcases ht with rfl|rfl|rfl|rfl|⟨rfl,hi⟩
 ·exact a b _ _ _ hb oq oq (d b _ _ _ hb oq)
 ·exact a b _ _ _ hb oq oq (d b _ _ _ hb oq)
 ·exact a b _ _ _ hb oq oq (d b _ _ _ hb oq)
 ·exact a b _ _ _ hb oq oq (d b _ _ _ hb oq)
 ·exact a b _ _ _ hb oq oq (λe=>o b e hi)
theorem zff{i:Nat}{p a:PrS}(h:ps[i]?=N p)(c:a.B=p.B)(b:a.R=p.R):prL (ps.set i a)=prL ps:=by
 induction ps generalizing i with
 |nil=>rfl
 | cons q ps ih =>
  cases i with
  | zero =>
   simp at h;subst h;simp[prL,c,b]
  | succ i =>
   simp only[List.getElem?_cons_succ]at h;have:=ih h
   simp only[prL,List.set_cons_succ,List.flatMap_cons]at this⊢;rw[this]
theorem SRV.told(h:SRV w base sv iv ps)(G:ST w base SB n wv cv sv iv bv cs is bs){i:Nat}{p l:PrS}(hi:ps[i]?=N p)(Q:ChS p.B p.R p.A w w')(K:Zb w' (λ_=>True) l)(F:l.B=p.B)(E:l.R=p.R)(W:l.A=p.A\/∃g,l.A=N g/\w.heap.size<=g):SRV w' base sv iv (ps.set i l):=by
 have J:=List.mem_of_getElem? hi;obtain⟨s,P,O,L⟩:=h.ok p J;obtain⟨cb,Y,U⟩:=s.sv.blk;obtain⟨cr,X,S⟩:=s.rf.blk;have V:base<=w.heap.size:=by have:=s.sv.lt;omega
 have o:=(List.getElem?_eq_some_iff.1 hi).1;have r:∀g,l.A=N g->(p.A=N g\/w.heap.size<=g):=λg hg=>by
  rcases W with e|⟨g',e,h'⟩
  ·rw[e]at hg;exact .inl hg
  ·rw[e]at hg;cases hg;exact .inr h'
 refine⟨?_,λq hq=>?_,λa b x y k hb hab=>?_⟩
 ·rw[List.length_set,zff hi F E];refine zd h.row (λg hg=>?_);obtain⟨c,f,d⟩:=Z0 h.row hg;exact Q.block g (lt_of_block d) (zJ d U oq) (zJ d S oq) (λe=>by
   obtain⟨ca,Z,k⟩:=s.rf.ablk e;exact zJ d k oq rfl)
 ·obtain⟨j,t⟩:=List.getElem?_of_mem hq;by_cases m:i=j
  ·subst m;rw[List.getElem?_set_self o]at t;cases t
   refine⟨K,by rw[F];exact P,by rw[E];exact O,λg hg=>?_⟩;rcases r g hg with h'|h'
   ·exact L g h'
   ·exact⟨ol,λe=>by have:=(G.ir.lt g e).2;omega⟩
  ·rw[List.getElem?_set_ne m]at t;obtain⟨I,H⟩:=h.ok q (List.mem_of_getElem? t);obtain⟨D,C,z⟩:=h.dis j i q p t hi (λe=>m e.symm);exact⟨I.ch Q U S (λg hg=>s.rf.ablk hg) D C z,H⟩
 ·by_cases v:i=a
  ·subst v;rw[List.getElem?_set_self o]at k;cases k
   rw[List.getElem?_set_ne hab]at hb;obtain⟨D,C,z⟩:=h.dis i b p y hi hb hab;refine⟨by rw[F];exact D,by rw[E];exact C,λg hg hy=>?_⟩;rcases r g hg with h'|h'
   ·exact z g h' hy
   ·have:=(h.ok y (List.mem_of_getElem? hb)).1.rf.alt hy
    omega
  ·rw[List.getElem?_set_ne v]at k;by_cases u:i=b
   ·subst u;rw[List.getElem?_set_self o]at hb;cases hb
    obtain⟨D,C,z⟩:=h.dis a i x p k hi hab;refine⟨by rw[F];exact D,by rw[E];exact C,λg hg hy=>?_⟩;rcases r g hy with h'|h'
    ·exact z g hg h'
    ·have:=(h.ok x (List.mem_of_getElem? k)).1.rf.alt hg
     omega
   ·rw[List.getElem?_set_ne u]at hb;exact h.dis a b x y k hb hab
theorem SRV.queried{j:Value}(h:SRV w base sv iv ps)(i:ST w base SB n wv cv sv iv bv cs is bs)(q:w.heap.size<=w'.heap.size)(r:∀b,b<w.heap.size->b≠SB->iv.ownBlock≠N b->w'.heap[b]?=w.heap[b]?)(hi:∀g,j.ownBlock=N g->iv.ownBlock=N g\/w.heap.size<=g):SRV w' base sv j ps:=by
 have a:∀(b:Nat) (c:Array Value) (t:TypeId) (f:Nat×Nat),w.heap[b]?=N (Q c t f)->t≠51->t≠25->w'.heap[b]?=w.heap[b]?:=λb c t f hb d o=>r b (lt_of_block hb) (zJ hb i.blk d) (λe=>by
  obtain⟨y,x,k⟩:=Z0 i.ir e;exact zJ hb k o rfl)
 refine⟨zd h.row (λg hg=>?_),λp hp=>?_,h.dis⟩
 ·obtain⟨c,f,l⟩:=Z0 h.row hg;exact a g _ _ _ l oq oq
 ·obtain⟨d,o,v,m⟩:=h.ok p hp;obtain⟨C,A,u⟩:=d.sv.blk;obtain⟨B,z,s⟩:=d.rf.blk;refine⟨⟨d.sv.of q (λ_ h _=>h) (a _ _ _ _ u oq oq) (λb _ t _ _ ht hb=>a b _ t _ hb ?_ ?_),d.rf.of q (λ_ h _=>h) (a _ _ _ _ s oq oq) (λg hg=>?_) (λb _ t _ _ ht hb=>a b _ t _ hb ?_ ?_),d.st,d.dd,d.pp⟩,o,v,λg hg=>⟨(m g hg).1,λe=>?_⟩⟩
  ·rcases ht with rfl|rfl|rfl<;>decide
  ·rcases ht with rfl|rfl|rfl<;>decide
  ·obtain⟨y,x,k⟩:=d.rf.ablk hg;exact r g (lt_of_block k) (zJ k i.blk oq) (m g hg).2
  ·rcases ht with rfl|rfl<;>decide
  ·rcases ht with rfl|rfl<;>decide
  ·rcases hi g e with h'|h'
   ·exact(m g hg).2 h'
   ·have:=d.rf.alt hg
    omega
end
end
end Go.Proofs.YtaebngpoagjafabGreat
