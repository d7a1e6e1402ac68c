import Derived.Test.YtaebngpoagjafabGreatQ41
import Derived.Test.YtaebngpoagjafabGreatQ44
set_option maxRecDepth 100000
set_option maxHeartbeats 1600000
namespace Go.Proofs.YtaebngpoagjafabGreat
open Option renaming none → F,some → S
open Proofs.Tryz renaming prog → T
open Bool renaming true → E,false → C
open Proofs.Tryz
open Obj renaming cells → Q
open Value renaming int → J, slice → O
open IntKind renaming i64 → Z
open Go.RowKit
attribute [local go_sem ↓] Go.wp_at_zero Go.wp_at_succ
section
def zaY(w:World)(G:Nat->Prop)(A:Option Nat)(av:Value)(al:Nat->List Int):Prop :=
 (A=F/\av=O F 0 0/\∀k,k<16->al k=[])\/∃g c vs,A=S g/\av=O (S ⟨g,0,F⟩) 16 c/\w.rowIs g 25 16 vs/\∀k,k<16->Zk w G (vs k) (al k)
structure RfV (w:World) (G:Nat->Prop) (B:Nat) (A:Option Nat) (s:ByteArray) (D:List Int) (al:Nat->List Int) (V L R:Nat->Int) (pl:Nat):Prop where
 ex:∃dv av pv,w.heap[B]?=S (Q #[.string s,dv,av,pv] 86 (0,0))/\Zk w G dv D/\zaY w G A av al/\QX w G pv V L R pl
 dl:D.length<=64
 ll:∀k,k<16->(al k).length<=16
section
variable {w w':World} {G G':Nat->Prop} {B:Nat} {A:Option Nat} {s:ByteArray} {D:List Int} {al:Nat->List Int} {V L R:Nat->Int} {pl:Nat}
theorem RfV.lt(h:RfV w G B A s D al V L R pl):B<w.heap.size:=by
 obtain⟨_,_,_,a,_⟩:=h.ex;exact lt_of_block a
theorem zaY.of{a:Value}(h:zaY w G A a al)(e:∀b,G b->b<w.heap.size->G' b)(f:∀g,A=S g->w'.heap[g]?=w.heap[g]?)(d:∀b cs fr,G b->w.heap[b]?=S (Q cs 3 fr)->w'.heap[b]?=w.heap[b]?):zaY w' G' A a al:=by
 rcases h with h|⟨g,c,vs,h1,h2,h3,h4⟩
 ·exact .inl h
 ·exact .inr ⟨g,c,vs,h1,h2,h3.of_block (f g h1),λk hk'=>(h4 k hk').of e d⟩
theorem zaY.lt{b:Value}(h:zaY w G A b al){g:Nat}(a:A=S g):g<w.heap.size:=by
 rcases h with⟨h,_⟩|⟨g',c,vs,h1,_,h3,_⟩
 ·rw[h]at a;cases a
 ·rw[h1]at a;cases a;exact h3.lt
theorem RfV.of(h:RfV w G B A s D al V L R pl)(e:w.heap.size<=w'.heap.size)(c:∀b,G b->b<w.heap.size->G' b)(f:w'.heap[B]?=w.heap[B]?)(i:∀g,A=S g->w'.heap[g]?=w.heap[g]?)(a:∀b cs t fr,G b->t=3\/t=96->w.heap[b]?=S (Q cs t fr)->w'.heap[b]?=w.heap[b]?):RfV w' G' B A s D al V L R pl:=by
 obtain⟨n,o,d,m,l,k,j⟩:=h.ex;exact⟨⟨n,o,d,f.trans m,l.of c (λb cs fr hb=>a b cs _ fr hb (.inl rfl)),k.of c i (λb cs fr hb=>a b cs _ fr hb (.inl rfl)),j.of e c (λb cs fr hb=>a b cs _ fr hb (.inr rfl))⟩,h.dl,h.ll⟩
theorem RfV.alt(h:RfV w G B A s D al V L R pl){g:Nat}(a:A=S g):g<w.heap.size:=by
 obtain⟨_,_,_,_,_,b,_⟩:=h.ex;exact b.lt a
theorem RfV.below(h:RfV w G B A s D al V L R pl)(a:Below w.heap.size w w'):RfV w' G B A s D al V L R pl :=
 h.of a.size (λ_ h _=>h) (a.block B h.lt) (λg hg=>a.block g (h.alt hg)) (λb _ _ _ _ _ h=>a.block b (lt_of_block h))
theorem RfV.wk(h:RfV w G B A s D al V L R pl)(a:∀b,G b->b<w.heap.size->G' b):RfV w G' B A s D al V L R pl:=h.of (Nat.le_refl _) a rfl (λ_ _=>rfl) (λ_ _ _ _ _ _ _=>rfl)
theorem zJ{b b':Nat}{cs c:Array Value}{t d:TypeId}{fr a:Nat×Nat}(h:w.heap[b]?=S (Q cs t fr))(g:w.heap[b']?=S (Q c d a))(f:t≠d):b≠b':=λe=>by
 rw[e,g]at h;simp at h;exact f h.2.1.symm
theorem RfV.data(h:RfV w G B A s D al V L R pl)(a:Kp B w w'):∃dv av pv,w.heap[B]?=S (Q #[.string s,dv,av,pv] 86 (0,0))/\Zk w' G dv D/\zaY w' G A av al/\QX w' G pv V L R pl:=by
 obtain⟨dv,av,pv,d,i,e,f⟩:=h.ex;refine⟨dv,av,pv,d,i.of (λ_ h _=>h) (λb _ _ _ hb=>a.block b (zJ hb d oq) (lt_of_block hb)),e.of (λ_ h _=>h) (λg hg=>a.block g ?_ (e.lt hg)) (λb _ _ _ hb=>a.block b (zJ hb d oq) (lt_of_block hb)),f.of a.size (λ_ h _=>h) (λb _ _ _ hb=>a.block b (zJ hb d oq) (lt_of_block hb))⟩;rcases e with⟨h,_⟩|⟨g',c,vs,e1,_,⟨cur,e3,_⟩,_⟩
 ·rw[h]at hg;cases hg
 ·rw[e1]at hg;cases hg;exact zJ e3 d oq
theorem RfV.load(h:RfV w G B A s D al V L R pl)(a:ByteArray):RfV (w.setCell ⟨B,0,F⟩ (.string a)) G B A a D al V L R pl:=by
 have c:Kp B w (w.setCell ⟨B,0,F⟩ (.string a)):=Kp.set ⟨Nat.le_refl _,λ_ _ _=>rfl⟩ _ _;obtain⟨i,j,b,g,f,e,d⟩:=h.data c;exact⟨⟨i,j,b,by rw[zH g];rfl,f,e,d⟩,h.dl,h.ll⟩
theorem RfV.mark(h:RfV w G B A s D al V L R pl){c:World}{oo:Option Addr}{cap:Nat}{a:List Int}(k:a.length<=64)(d:Below w.heap.size w c)(g:c.ownsRow w.heap.size 3 1 (O oo a.length cap) a.length (a.map (J Z)))(j:∀b,w.heap.size<=b->G b):
 RfV (c.setCell ⟨B,1,F⟩ (O oo a.length cap)) G B A s a al V L R pl:=by
 have l:=h.lt;have i:Kp B w (c.setCell ⟨B,1,F⟩ (O oo a.length cap)):=(Kp.of_below d).set _ _;obtain⟨q,p,f,e,_,o,n⟩:=h.data i;refine⟨⟨_,p,f,by rw[zH ((d.block B l).trans e)];rfl,?_,o,n⟩,k,h.ll⟩;have m:Zk c (λb=>G b/\b≠B) (O oo a.length cap) a:=Zk.own g (λb d=>⟨j b d,ol⟩);exact m.of (λ_ h _=>h.1) λb _ _ e _=>za e.2
theorem RfV.locate(h:RfV w G B A s D al V L R pl){c:World}{n:Nat}{k m l:Nat->Int}{oo:Option Addr}{cap:Nat}(j:Below w.heap.size w c)(e:c.ownsRow w.heap.size 96 3 (O oo n cap) n (plC k m l n))(p:∀b,w.heap.size<=b->G b):
 RfV (c.setCell ⟨B,3,F⟩ (O oo n cap)) G B A s D al k m l n:=by
 have q:=h.lt;have o:Kp B w (c.setCell ⟨B,3,F⟩ (O oo n cap)):=(Kp.of_below j).set _ _;obtain⟨v,x,y,u,t,r,_⟩:=h.data o;refine⟨⟨v,x,_,by rw[zH ((j.block B q).trans u)];rfl,t,r,?_⟩,h.dl,h.ll⟩;obtain⟨g,d,f⟩:=Qn e;have a:0<n->(c.setCell ⟨B,3,F⟩ (O oo n cap)).heap[g]?=c.heap[g]?:=λh0=>za (by have:=f h0;omega)
 refine⟨oo,cap,g,0,rfl,⟨d.at_,λh0=>by rw[World.size_setCell];exact d.lt h0,λi hi=>?_,λi hi=>?_,λi hi=>?_⟩,λh0=>⟨p g (f h0),?_⟩⟩
 ·rw[World.cell?_of_block (a ol)];exact d.val i hi
 ·rw[World.cell?_of_block (a ol)];exact d.len i hi
 ·rw[World.cell?_of_block (a ol)];exact d.reg i hi
 ·rw[a h0];have:=d.at_ h0
  subst this;exact XT e
end
end
theorem zap(B:Nat)(o:Option Addr)(b a n c:Nat)(V L R:Nat->Int)(w:World)(k:n*24<=140737488351232)(h:TS w o b a n V L R)(f:yU V L R n=C):
 Calls T 81 #[.pointer (S ⟨B,0,F⟩),O o n c] w λe w'=>e=.returned (J Z 9)/\Below w.heap.size w w':=by
 have g:Hd (Calls T 19 #[O o n c] w λe w'=>e=.returned (.bool C)/\Below w.heap.size w w'):=by
  have j:=Xz o b a n c V L R w k h;unfold yU at f;rw[f]at j;exact j
 clear h f;go_enter func81,ntmps81;go_wp2_with fail;refine g.o.mono ?_;rintro e l ⟨rfl,d⟩;have i:Hd _:=d;clear d;go_wp2_with fail;go_ret;exact⟨rfl,i.o⟩
theorem Q1{w:World}{base g t n sz:Nat}{f:Nat->Value}(h:w.rowIs g t (n*sz) f)(e:base<=g)(d:n<=maxLen):w.ownsRow base t sz (O (S ⟨g,0,F⟩) n n) n ((List.range (n*sz)).map f):=by
 obtain⟨a,j,b,c⟩:=h;refine⟨ot,.inr ⟨g,n,a,rfl,e,j,Nat.le_refl _,d,b,?_⟩⟩;rw[List.take_of_length_le (by simp[b])];apply List.ext_getElem?
 intro i;rw[Array.getElem?_toList,List.getElem?_map];rcases Nat.lt_or_ge i (n*sz)with h|h
 ·rw[c i h,List.getElem?_range h];rfl
 ·rw[Array.getElem?_eq_none ol,List.getElem?_eq_none ow];rfl
theorem zao{w:World}{G:Nat->Prop}{B:Nat}{A:Option Nat}{s:ByteArray}{D:List Int}{al:Nat->List Int}{V L R:Nat->Int}{pl:Nat}(h:RfV w G B A s D al V L R pl)(o:Option Addr)(b v n c:Nat)(m q p:Nat->Int)(hs:TS w o b v n m q p)(X:yU m q p n=E)(hG:∀b,w.heap.size<=b->G b):
 Calls T 81 #[.pointer (S ⟨B,0,F⟩),O o n c] w λe w'=>e=.returned (J Z 0)/\Below B w w'/\Kp B w w'/\RfV w' G B A s D al m q p n:=by
 have a6:=(XR X).1;have a4:Hd (Calls T 19 #[O o n c] w λe w'=>e=.returned (.bool E)/\Below w.heap.size w w'):=by
  have W:=Xz o b v n c m q p w ol hs;unfold yU at X;rw[X]at W;exact W
 have HR:Hd _:=h;have HG:Hd _:=hG;have HS:Hd _:=hs;have Q:=h.lt;obtain⟨dv,av,pv,u,_⟩:=h.ex;have a5:Hd _:=u;clear h hG hs X u;obtain⟨i0,hi,a0,z,Y⟩:=info_parts infoPlace;have H:(Tryz.prog.info? 96).map (·.size)=S 3:=by rw[hi];simp[z]
 go_enter func81,ntmps81;go_wp2_with fail;refine a4.o.mono ?_;rintro e g ⟨rfl,d⟩;have a7:Hd (Below w.heap.size w g):=d;have HP:Hd (∀(l:World) (xs:List Value),l.ownsRow 0 96 3 (O (S ⟨g.heap.size,0,F⟩) n n) n xs->g.grownBy l F->∃f vv,(Builtin.copy_ #[29,29] 3 #[O (S ⟨g.heap.size,0,F⟩) n n,O o n c]).run T l=.ok (goInt n) f/\f.cell? ⟨B,3,F⟩=S vv/\f.frozen? ⟨B,3,F⟩=C/\Below w.heap.size w f/\f.ownsRow w.heap.size 96 3 (O (S ⟨g.heap.size,0,F⟩) n n) n (plC m q p n)):=λl xs ho hg=>by
  have N:Below g.heap.size g l:=yI hg;obtain⟨f0,x⟩:=yd ho rfl;have a1:TS l o b v n m q p:=(HS.o.below d).below N;obtain⟨f,I,r,a2,_⟩:=Zl (P:=T) l 29 29 3 96 3 g.heap.size n n o n c 96 (n*3) f0 (λj=>((plC m q p n)[j]?).getD (J Z 0)) underlying29 H x (Nat.le_refl _) (λh0=>by
   obtain⟨ad,e1,e2⟩:=a1.src (w':=l) (λ_ _=>rfl) h0;exact⟨ad,e1,λj hj=>by
    rw[YV _ _ _ hj];exact e2 j _ (YV _ _ _ hj)⟩) (λj hj=>by rw[YV _ _ _ hj];rfl) (Nat.le_refl _)
  have t:Below g.heap.size g f:=a2 _ _ N (Nat.le_refl _);have K:Below w.heap.size w f:=d.trans (t.mono d.size);have U:=(K.block B Q).trans a5.o;refine⟨f,pv,I,by rw[cell_of_row _ _ _ _ _ _ U];rfl,by simp[World.frozen?,U],K,?_⟩;have W:=Q1 (base:=w.heap.size) (n:=n) (sz:=3) r d.size mr;have h8:(List.range (n*3)).map (λj=>if j<n*3 then((plC m q p n)[j]?).getD (J Z 0)else f0 j)=plC m q p n:=by
   apply List.ext_getElem?
   intro i;rw[List.getElem?_map];rcases Nat.lt_or_ge i (n*3)with h|h
   ·rw[List.getElem?_range h,YV _ _ _ h];simp[h,YV _ _ _ h]
   ·rw[List.getElem?_eq_none ow,List.getElem?_eq_none (by rw[jM];omega)];rfl
  rw[h8]at W;exact W
 clear d;go_wp2_with (at_make;refine wpList_make_full _ rfl _ _ 29 rfl 0 96 i0 _ 3 underlying29 hi a0 z .i64 .i64 _ _ n rfl rfl ol ol (by rw[Y];omega) mr (Nat.zero_le _) ?_;intro l k a;obtain⟨f,vv,I,e1,e2,t,r⟩:=HP.o l _ k a;have y:Hd (Below w.heap.size w f):=t;have a3:Hd (f.ownsRow w.heap.size 96 3 (O (S ⟨g.heap.size,0,F⟩) n n) n (plC m q p n)):=r;clear t r k a)
 go_ret;exact⟨rfl,(y.o.mono (Nat.le_of_lt Q)).setCell (Nat.le_refl _) _,(Kp.of_below y.o).set _ _,HR.o.locate y.o a3.o HG.o⟩
def LdR(w:World)(G:Nat->Prop)(B:Nat)(A:Option Nat)(s t:ByteArray)(D:List Int)(al:Nat->List Int)(V L R:Nat->Int)(pl:Nat)(e:Ending)(w':World):Prop :=
 e=.returned (.tuple #[J Z (cpE t),J Z (ldA t)])/\Below B w w'/\Kp B w w'/\RfV w' G B A (if cpE t=0 then t else s) D al V L R pl
theorem zb3{w:World}{G:Nat->Prop}{B:Nat}{A:Option Nat}{s:ByteArray}{D:List Int}{al:Nat->List Int}{V L R:Nat->Int}{pl:Nat}(h:RfV w G B A s D al V L R pl)(t:ByteArray):
 Calls T 75 #[.pointer (S ⟨B,0,F⟩),.string t] w (LdR w G B A s t D al V L R pl):=by
 have K:Hd _:=h;have g:=h.lt;obtain⟨dv,av,pv,l,_⟩:=h.ex;have N:Hd _:=l;have k:Hd (Calls T 52 #[.string t] w λe w'=>Below w.heap.size w w'/\e=.returned (.tuple #[J Z (yv t).1,J Z (yv t).2])):=by
  have P:=Xe t w;rw[QO]at P;exact P
 have n:Hd (∀wz,Calls T 26 #[.string t] wz λe w'=>Below wz.heap.size wz w'/\e=.returned (.tuple #[J Z (cSz t).1,J Z (cSz t).2])):=λwz=>qH t wz
 have d:Hd (cpE t=if(cSz t).2=0/\1000<(cSz t).1 then 8 else(cSz t).2):=zef;have i:Hd (ldA t=if(yv t).1=0 then 0 else(yv t).2):=rfl;have f:Hd ((cSz t).2=(yv t).1):=by show _=_;unfold cSz;split<;>simp_all
 clear h l;obtain⟨H,p⟩:∃H,yv t=H:=⟨_,rfl⟩;obtain⟨z,O⟩:∃z,cSz t=z:=⟨_,rfl⟩;rw[p]at k i f;rw[O]at n d f;clear p O;obtain⟨I,X⟩:=H;obtain⟨Q,Y⟩:=z;simp only at k i f n d;by_cases u:I=0
 ·subst u;have y:=f.o;subst y;have j:Hd (ldA t=0):=by show _=_;rw[i.o];rfl
  go_enter func75,ntmps75;go_wp2_with fail;refine k.o.mono ?_;rintro e x ⟨c,rfl⟩;have b:Hd (Below w.heap.size w x):=c;clear c;go_wp2_with fail;refine(n.o _).mono ?_;rintro e v ⟨q,rfl⟩;have a:Hd (Below w.heap.size w v):=b.o.trans (q.mono b.o.size);clear q;by_cases U:1000<Q
  ·have r:Hd (cpE t=8):=(by show _=_;rw[d.o,if_pos ⟨by first|rfl|trivial,U⟩]);go_wp2_with fail;go_ret2;unfold LdR;rw[r.o,j.o];exact⟨rfl,a.o.mono (Nat.le_of_lt g),Kp.of_below a.o,K.o.below a.o⟩
  ·have r:Hd (cpE t=0):=(by show _=_;rw[d.o,if_neg ol]);have m:=(a.o.block B g).trans N.o;have e1:v.cell? ⟨B,0,F⟩=S (.string s):=(by rw[cell_of_row _ _ _ _ _ _ m];rfl);have e2:v.frozen? ⟨B,0,F⟩=C:=(by simp[World.frozen?,m]);clear m;go_wp2_with fail;go_ret2;unfold LdR;rw[r.o,j.o,if_pos rfl];exact⟨rfl,(a.o.mono (Nat.le_of_lt g)).setCell (Nat.le_refl _) _,(Kp.of_below a.o).set _ _,(K.o.below a.o).load t⟩
 ·have r:Hd (cpE t=I):=by
   show _=_;have:=f.o
   rw[d.o,if_neg ol,this]
  have j:Hd (ldA t=X):=by show _=_;rw[i.o,if_neg u]
  have W:(I != 0)=E:=by simpa using u
  go_enter func75,ntmps75;go_wp2_with fail;refine k.o.mono ?_;rintro e x ⟨c,rfl⟩;have b:Hd (Below w.heap.size w x):=c;clear c;go_wp2_with fail;go_ret2;unfold LdR;rw[r.o,j.o,if_neg u];exact⟨rfl,b.o.mono (Nat.le_of_lt g),Kp.of_below b.o,K.o.below b.o⟩
def mkD(D:List Int)(n:Int)(up:Bool):List Int:=D.filter (λd=>decide (d≠n))++(if up=E then[]else[n])
theorem zgC(D:List Int)(n:Int)(i:Nat):((D.take i).filter (λd=>decide (d≠n))).length<=i:=Nat.le_trans (List.length_filter_le _ _) ow
theorem zdL{D:List Int}{i:Nat}{d:Int}(n:Int)(h:D[i]?=S d):(D.take (i+1)).filter (λd=>decide (d≠n))=(D.take i).filter (λd=>decide (d≠n))++(if d≠n then[d]else[]):=by
 rw[List.take_add_one,h,List.filter_append];congr 1
 simp only[Option.toList_some,List.filter_cons,List.filter_nil,decide_eq_true_eq]
theorem zdn(B:Nat)(n:Int)(a:Bool)(w:World)(h:n<0\/63<n):Calls T 76 #[.pointer (S ⟨B,0,F⟩),J Z n,.bool a] w λe w'=>e=.returned (J Z 9)/\w'=w:=by
 by_cases c:n<0
 ·go_enter func76,ntmps76;go_wp2_with fail;go_ret;exact⟨rfl,rfl⟩
 ·have b:64<=n:=by omega
  go_enter func76,ntmps76;go_wp2_with fail;go_ret;exact⟨rfl,rfl⟩
theorem zdm{w:World}{G:Nat->Prop}{B:Nat}{A:Option Nat}{s:ByteArray}{D:List Int}{al:Nat->List Int}{V L R:Nat->Int}{pl:Nat}(h:RfV w G B A s D al V L R pl)(n:Int)(m:Bool)(n0:0<=n)(n1:n<64)(hd:(mkD D n m).length<=64)(hG:∀b,w.heap.size<=b->G b):
 Calls T 76 #[.pointer (S ⟨B,0,F⟩),J Z n,.bool m] w λe w'=>e=.returned (J Z 0)/\Below B w w'/\Kp B w w'/\RfV w' G B A s (mkD D n m) al V L R pl:=by
 have HR:Hd _:=h;have HG:Hd _:=hG;have b3:Hd ((mkD D n m).length<=64):=hd;have a5:=h.lt;have b9:=h.dl;obtain⟨dv,av,pv,j,hD,_⟩:=h.ex;obtain⟨o,c,b,I,hv,a3⟩:=hD.is_;subst hv;have HI:Hd (IS w o b I D.length (λi=>(D[i]?).getD 0)):=a3;have b4:Hd _:=j;clear h hG hd hD a3 j;have n2:¬n<0:=ol;have n3:¬64<=n:=ol;have l:Hd (∀(w1:World) (oo:Option Addr) (cap:Nat),Below w.heap.size w w1->w1.ownsRow w.heap.size 3 1 (O oo (mkD D n m).length cap) (mkD D n m).length ((mkD D n m).map (J Z))->Below B w (w1.setCell ⟨B,1,F⟩ (O oo (mkD D n m).length cap))/\Kp B w (w1.setCell ⟨B,1,F⟩ (O oo (mkD D n m).length cap))/\RfV (w1.setCell ⟨B,1,F⟩ (O oo (mkD D n m).length cap)) G B A s (mkD D n m) al V L R pl):=λw1 oo cap h1 h2 =>
  ⟨(h1.mono (Nat.le_of_lt a5)).setCell (Nat.le_refl _) _,(Kp.of_below h1).set _ _,HR.o.mark b3.o h1 h2 HG.o⟩
 go_enter func76,ntmps76;go_wp2_with fail;go_loopg [7,8] D.length (λq y7 y8 wq=>∃i,q+i=D.length/\y8=J Z (i:Nat)/\Below w.heap.size w wq/\wq.ownsRow w.heap.size 3 1 y7 ((D.take i).filter (λd=>decide (d≠n))).length (((D.take i).filter (λd=>decide (d≠n))).map (J Z)))
 case atStart=>exact⟨0,ol,rfl,Below.refl _ _,⟨rfl,.inl ⟨rfl,rfl⟩⟩⟩
 case round =>
  obtain⟨i,hq,rfl,x,ho⟩:=hrel;obtain⟨Y,lc,a8,_⟩:=zU ho;subst a8;have W:Hd (Below w.heap.size w wr):=x;have H:Hd (wr.ownsRow w.heap.size 3 1 (O Y ((D.take i).filter (λd=>decide (d≠n))).length lc) ((D.take i).filter (λd=>decide (d≠n))).length (((D.take i).filter (λd=>decide (d≠n))).map (J Z))):=ho;have j:wr.heap[B]?=S (Q #[.string s,O o D.length c,av,pv] 86 (0,0)):=(x.block B a5).trans b4.o;have c1:wr.cell? ⟨B,1,F⟩=S (O o D.length c):=by rw[cell_of_row _ _ _ _ _ _ j];rfl
  have z1:wr.frozen? ⟨B,1,F⟩=C:=by simp[World.frozen?,j]
  have a7:Hd _:=j;have b7:=x.size;have a9:=zgC D n i;obtain⟨i1,a4,a2,a1,a0⟩:=info_parts infoInt;clear x ho j;have b8:(0:Int)<=(i:Int):=ol;by_cases hi:i<D.length
  ·have b0:(i:Int)<(D.length:Int):=(by omega);have P:D[i]?=S D[i]:=List.getElem?_eq_getElem hi;have z:Hd _:=zdL n P;have K:=HI.o.val i hi;rw[P,Option.getD_some]at K;have c0:wr.cell? ⟨b,I+i,F⟩=S (J Z D[i]):=(W.o.cell (p:=⟨b,I+i,F⟩) (HI.o.lt ol)).trans K;obtain rfl:=HI.o.at_ ol;clear K P;generalize D[i]=d at *;generalize(D.take i).filter (λd=>decide (d≠n))=LL at *;by_cases N:d=n
   ·have HE:Hd ((D.take (i+1)).filter (λd=>decide (d≠n))=LL):=(by show _=_;rw[z.o,if_neg (by simpa using N)];simp);have b6:(d != n)=C:=(by simpa using N);clear z;go_wp2_with fail;go_roundg (D.length-(i+1))
    case measure=>omega
    case rel=>exact⟨i+1,ol,by go_num,W.o,by rw[HE.o];exact H.o⟩
   ·have HE:Hd ((D.take (i+1)).filter (λd=>decide (d≠n))=LL++[d]):=(by show _=_;rw[z.o,if_pos N]);clear z;have r:∀u∈[J Z d],u.oneCell'=E:=λu hu=>by simp at hu;subst hu;rfl
    go_wp2_with (at_builtin;refine wpList_append_lies _ rfl _ _ 25 rfl w.heap.size 3 i1 _ 1 8 underlying25 a4 a2 a1 a0 rfl oq (O Y LL.length lc) _ _ rfl (H.o.alloc _) ⟨wr.heap.size,0,F⟩ 1 1 [J Z d] rfl rfl (World.news_of_block (cs:=#[J Z d]) (t:=3) (fr:=(0,0)) (heap_alloc_new wr _)) r (Nat.lt_succ_self 0) mr ol ow (wr.heap.size+1) ot ?_;intro g4 k X g f y v)
    have b2:Hd _:=f;have U:Hd (X.ownsRow w.heap.size 3 1 (O (S ⟨g4,0,F⟩) (LL.length+1) k) (LL.length+1) (LL.map (J Z)++[J Z d])):=g;clear g f y v;go_wp2_with fail;go_roundg (D.length-(i+1))
    case measure=>omega
    case rel =>
     refine⟨i+1,ol,by go_num,(W.o.alloc W.o.size _).grown b2.o ow (λb x=>(H.o.lt b x).1),?_⟩;rw[HE.o,List.map_append,List.length_append];exact U.o
  ·have b0:¬(i:Int)<(D.length:Int):=(by omega);have a6:Hd ((D.take i).filter (λd=>decide (d≠n))=D.filter (λd=>decide (d≠n))):=(by show _=_;rw[List.take_of_length_le ol]);simp only[a6.o]at H a9⊢;clear a6;cases m with
   | true =>
    have HM:Hd (mkD D n E=D.filter (λd=>decide (d≠n))):=(by show _=_;unfold mkD;simp);rw[HM.o]at l;generalize D.filter (λd=>decide (d≠n))=LL at *;go_wp2_with fail;go_ret;rw[HM.o];exact⟨rfl,l.o wr Y lc W.o H.o⟩
   | false =>
    have HM:Hd (mkD D n C=D.filter (λd=>decide (d≠n))++[n]):=(by show _=_;unfold mkD;simp);rw[HM.o]at l;generalize D.filter (λd=>decide (d≠n))=LL at *;have r:∀u∈[J Z n],u.oneCell'=E:=λu hu=>by simp at hu;subst hu;rfl
    have b1:Hd (∀(w9:World) (ob:Obj),(wr.alloc ob).grownBy w9 (O Y LL.length lc).ownBlock->w9.cell? ⟨B,1,F⟩=S (O o D.length c)/\w9.frozen? ⟨B,1,F⟩=C):=λw9 ob hg=>by
     have x:w9.heap[B]?=wr.heap[B]?:=by
      rw[hg.block _ ow (λe=>zi H.o a7.o oq e.symm),Below.heap_alloc _ _ _ ol]
     exact⟨(World.cell?_of_block (a:=⟨B,1,F⟩) x).trans c1,(World.frozen?_of_block (a:=⟨B,1,F⟩) x).trans z1⟩
    go_wp2_with (at_builtin;refine wpList_append_lies _ rfl _ _ 25 rfl w.heap.size 3 i1 _ 1 8 underlying25 a4 a2 a1 a0 rfl oq (O Y LL.length lc) _ _ rfl (H.o.alloc _) ⟨wr.heap.size,0,F⟩ 1 1 [J Z n] rfl rfl (World.news_of_block (cs:=#[J Z n]) (t:=3) (fr:=(0,0)) (heap_alloc_new wr _)) r (Nat.lt_succ_self 0) mr ol ow (wr.heap.size+1) ot ?_;intro g4 k X g f y v;obtain⟨y3,yz⟩:=b1.o X _ f)
    have b5:Hd (Below w.heap.size w X):=(W.o.alloc W.o.size _).grown f ow (λb x=>(H.o.lt b x).1);have U:Hd (X.ownsRow w.heap.size 3 1 (O (S ⟨g4,0,F⟩) (LL++[n]).length k) (LL++[n]).length ((LL++[n]).map (J Z))):=(by rw[List.map_append,List.length_append];exact g);clear g f y v;go_wp2_with fail;go_ret;have:=l.o X (S ⟨g4,0,F⟩) k b5.o U.o
    rw[List.length_append]at this;rw[HM.o];exact⟨rfl,this⟩
def zbZ(A:Option Nat)(al:Nat->List Int):List (List Int):=if A=F then[]else(List.range 16).map al
theorem RfV.world{w:World}{G:Nat->Prop}{B:Nat}{A:Option Nat}{s:ByteArray}{D:List Int}{al:Nat->List Int}{V L R:Nat->Int}{pl:Nat}(h:RfV w G B A s D al V L R pl)(a b d:Int):
 ∃x:WD,x.In w/\x.a=a/\x.b=b/\x.d=d/\x.dl=D.length/\(x.Dn=λi=>(D[i]?).getD 0)/\x.al=zbZ A al/\x.V=V/\x.L=L/\x.R=R/\x.pl=pl/\w.heap[B]?=S (Q #[.string s,O x.do_ x.dl x.dc,O x.ao x.al.length x.ac,O x.po x.pl x.pcp] 86 (0,0)):=by
 obtain⟨X,Z,U,u,H,E,⟨po,pcp,t,e,rfl,m,_⟩⟩:=h.ex;obtain⟨do_,dc,v,f,rfl,p⟩:=H.is_;have z:=h.dl;have r:=h.ll;rcases E with⟨rfl,rfl,q⟩|⟨g,c,vs,rfl,rfl,hrow,hls⟩
 ·exact⟨⟨a,b,d,do_,v,f,D.length,dc,_,F,0,0,0,[],po,t,e,pl,pcp,V,L,R⟩,⟨m,p,⟨λh=>absurd h (Nat.lt_irrefl _),λh=>absurd h (Nat.lt_irrefl _),λk l hl=>by simp at hl,λl hl=>by cases hl⟩,ox,ot⟩,rfl,rfl,rfl,rfl,rfl,rfl,rfl,rfl,rfl,rfl,u⟩
 ·refine⟨⟨a,b,d,do_,v,f,D.length,dc,_,S ⟨g,0,F⟩,g,0,c,(List.range 16).map al,po,t,e,pl,pcp,V,L,R⟩,⟨m,p,⟨λ_=>rfl,λ_=>hrow.lt,λk l hl=>?_,λl hl=>?_⟩,ox,ot⟩,rfl,rfl,rfl,rfl,rfl,rfl,rfl,rfl,rfl,rfl,by simpa using u⟩
  ·have n:k<16:=(by have:=(List.getElem?_eq_some_iff.1 hl).1;simpa using this);have q:al k=l:=(by simpa[n]using hl);subst q;obtain⟨o,N,y,C⟩:=hls k n;refine⟨o,N,by simp only[Nat.zero_add];rw[hrow.cell n,y],λh0=>?_⟩;obtain⟨P,j,K,_,⟨Y,W,J⟩,I⟩:=C h0;exact⟨P,j,K,lt_of_block J,I⟩
  ·simp only[List.mem_map,List.mem_range]at hl;obtain⟨k,n,rfl⟩:=hl;have:=r k n
   omega
theorem zan{a:Ending->World->Prop}{H:Nat}(b:World)(d:Array Value)(x:Value)(t c n:Int)(j:b.heap[H]?=S (Q #[x,J Z t,J Z c] 42 (0,0)))(i:d.getD 8 undef=.pointer (S ⟨H,0,F⟩))(h:d.getD 9 undef=J Z n)(g:a (.returned (.tuple #[.agg #[x,J Z t,J Z c],J Z n])) b):bodyPost T f74 a .ret ⟨d,[]⟩ b:=by
 refine bodyPost_ret (v:=.tuple #[.agg #[x,J Z t,J Z c],J Z n]) ?_ rfl g;rw[results_cell_tmp results74,i,h];have f:(asAddr (.pointer (S ⟨H,0,F⟩))).run T b=.ok ⟨H,0,F⟩ b:=rfl;have e:=run_loadVar_row (P:=T) b H 42 42 #[x,J Z t,J Z c] (0,0) _ j underlying42 rfl kr;rw[f,Result.andThen_ok,e,Result.andThen_ok]
theorem zb2(B:Nat)(a b d:Int)(w:World)(h:Zm a b d=C):
 Calls T 74 #[.pointer (S ⟨B,0,F⟩),J Z a,J Z b,J Z d] w λe w'=>e=.returned (.tuple #[.agg #[O F 0 0,J Z 0,J Z 0],J Z 9])/\Below w.heap.size w w':=by
 have f:Hd (∀wz,Calls T 21 #[J Z a,J Z b,J Z d] wz λe w'=>e=.returned (.bool C)/\w'=wz):=λwz=>by
  have g:=Xf a b d wz;rw[h]at g;exact g
 clear h;have c:Hd ((w.alloc (Q #[O F 0 0,J Z 0,J Z 0] 42)).heap[w.heap.size]?=S (Q #[O F 0 0,J Z 0,J Z 0] 42 (0,0))):=heap_alloc_new w _;go_enter func74,ntmps74;go_wp2_with fail;refine(f.o _).mono ?_;rintro e w' ⟨rfl,i⟩;subst w';go_wp2_with fail;exact zan _ _ _ _ _ _ c.o rfl rfl ⟨rfl,(Below.refl _ _).alloc (Nat.le_refl _) _⟩
theorem Jp{w:World}{G:Nat->Prop}{B:Nat}{A:Option Nat}{D:List Int}{al:Nat->List Int}{V L R:Nat->Int}{pl:Nat}(i:RfV w G B A ⟨#[]⟩ D al V L R pl)(a b d:Int)(h:Zm a b d=E):
 Calls T 74 #[.pointer (S ⟨B,0,F⟩),J Z a,J Z b,J Z d] w λe w'=>e=.returned (.tuple #[.agg #[O F 0 0,J Z 0,J Z 0],J Z 12])/\Below w.heap.size w w':=by
 have g:Hd (∀wz,Calls T 21 #[J Z a,J Z b,J Z d] wz λe w'=>e=.returned (.bool E)/\w'=wz):=λwz=>by
  have j:=Xf a b d wz;rw[h]at j;exact j
 obtain⟨_,_,_,c,_⟩:=i.ex;have l:=i.lt;have m:w.cell? ⟨B,0,F⟩=S (.string ⟨#[]⟩):=by rw[cell_of_row _ _ _ _ _ _ c];rfl
 clear h c;have f:Hd ((w.alloc (Q #[O F 0 0,J Z 0,J Z 0] 42)).heap[w.heap.size]?=S (Q #[O F 0 0,J Z 0,J Z 0] 42 (0,0))):=heap_alloc_new w _;go_enter func74,ntmps74;go_wp2_with fail;refine(g.o _).mono ?_;rintro e w' ⟨rfl,k⟩;subst w';go_wp2_with fail;exact zan _ _ _ _ _ _ f.o rfl rfl ⟨rfl,(Below.refl _ _).alloc (Nat.le_refl _) _⟩
theorem zb1{w:World}{G:Nat->Prop}{B:Nat}{A:Option Nat}{s:ByteArray}{D:List Int}{al:Nat->List Int}{V L R:Nat->Int}{pl:Nat}(hv:RfV w G B A s D al V L R pl)(a b d:Int)(h:Zm a b d=E)(hs:s≠⟨#[]⟩)(hc:(yv s).1=0)(hp:yU V L R pl=E):
 ∃x:WD,x.a=a/\x.b=b/\x.d=d/\x.dl=D.length/\(x.Dn=λi=>(D[i]?).getD 0)/\x.al=zbZ A al/\x.V=V/\x.L=L/\x.R=R/\x.pl=pl/\Calls T 74 #[.pointer (S ⟨B,0,F⟩),J Z a,J Z b,J Z d] w λe w'=>Below w.heap.size w w'/\∃o k g f,e=.returned (.tuple #[.agg #[O o (x.mn s).sv.length k,J Z (x.mn s).ttl,J Z (x.mn s).sc],J Z 0])/\IS w' o g f (x.mn s).sv.length (λi=>((x.mn s).sv[i]?).getD 0):=by
 have P:Hd (∀wz,Calls T 21 #[J Z a,J Z b,J Z d] wz λe w'=>e=.returned (.bool E)/\w'=wz):=λwz=>by
  have z:=Xf a b d wz;rw[h]at z;exact z
 obtain⟨x,I,Y,X,W,e4,e5,e6,e7,e8,e9,u,j⟩:=hv.world a b d;refine⟨x,Y,X,W,e4,e5,e6,e7,e8,e9,u,?_⟩;have hr:x.right=E:=by unfold WD.right Zr;rw[Y,X,W,e7,e8,e9,u,h,hp];rfl
 have N:Hd (∀wz,Below w.heap.size w wz->Calls T 72 #[.string s,.agg #[J Z a,J Z b,J Z d,O x.do_ x.dl x.dc,O x.ao x.al.length x.ac,O x.po x.pl x.pcp]] wz (ZV w.heap.size wz (x.mn s))):=λwz hb=>by
  have z:=qR s x w wz hc I hb hr;unfold WD.val at z;rw[Y,X,W]at z;exact z
 have a1:=hv.lt;have c0:w.cell? ⟨B,0,F⟩=S (.string s):=by rw[cell_of_row _ _ _ _ _ _ j];rfl
 have c1:w.cell? ⟨B,1,F⟩=S (O x.do_ x.dl x.dc):=by rw[cell_of_row _ _ _ _ _ _ j];rfl
 have c2:w.cell? ⟨B,2,F⟩=S (O x.ao x.al.length x.ac):=by rw[cell_of_row _ _ _ _ _ _ j];rfl
 have c3:w.cell? ⟨B,3,F⟩=S (O x.po x.pl x.pcp):=by rw[cell_of_row _ _ _ _ _ _ j];rfl
 have a7:(s.toList==[])=C:=by rw[<-jY];exact zb9 hs
 clear h j Y X W e4 e5 e6 e7 e8 e9 u I hr hv hc hp;generalize x.mn s=mm at *;have a2:Hd ((w.alloc (Q #[O F 0 0,J Z 0,J Z 0] 42)).heap[w.heap.size]?=S (Q #[O F 0 0,J Z 0,J Z 0] 42 (0,0))):=heap_alloc_new w _;have y:Hd (Below w.heap.size w (w.alloc (Q #[O F 0 0,J Z 0,J Z 0] 42))):=(Below.refl _ _).alloc (Nat.le_refl _) _;go_enter func74,ntmps74;go_wp2_with fail;refine(P.o _).mono ?_;rintro e w' ⟨rfl,a6⟩;subst w';go_wp2_with fail;have H:w.heap.size<(w.alloc (Q #[O F 0 0,J Z 0,J Z 0] 42)).heap.size:=ot;have k0:=zx c0 (Q #[O F 0 0,J Z 0,J Z 0] 42);have k1:=zx c1 (Q #[O F 0 0,J Z 0,J Z 0] 42);have k2:=zx c2 (Q #[O F 0 0,J Z 0,J Z 0] 42);have k3:=zx c3 (Q #[O F 0 0,J Z 0,J Z 0] 42);clear c0 c1 c2 c3;generalize w.alloc (Q #[O F 0 0,J Z 0,J Z 0] 42)=w1 at *;have v:Hd (∀wz,Below w1.heap.size w1 wz->Calls T 72 #[.string s,.agg #[J Z a,J Z b,J Z d,O x.do_ x.dl x.dc,O x.ao x.al.length x.ac,O x.po x.pl x.pcp]] wz λe r=>Below w.heap.size w r/\Below w1.heap.size w1 r/\ZV w.heap.size wz mm e r/\w1.heap.size<=wz.heap.size):=λwz hz=>by
  have hB:Below w.heap.size w wz:=y.o.trans (hz.mono y.o.size);refine(N.o wz hB).mono ?_;intro e r h8;exact⟨hB.trans (h8.1.mono hB.size),hz.trans (h8.1.mono hz.size),h8,hz.size⟩
 have l:B<w1.heap.size:=Nat.lt_of_lt_of_le a1 y.o.size;have c:w.heap.size≠B:=ol;clear N P;go_region_held3 (λw'=>w'.cell? ⟨B,0,F⟩=S (.string s)/\w'.cell? ⟨B,1,F⟩=S (O x.do_ x.dl x.dc)/\w'.cell? ⟨B,2,F⟩=S (O x.ao x.al.length x.ac)/\w'.cell? ⟨B,3,F⟩=S (O x.po x.pl x.pcp)) (first|(exact⟨k0,k1,k2,k3⟩)|(exact n)|(exact⟨zo c (zo c (zo c n.1 _ _) _ _) _ _,zo c (zo c (zo c n.2.1 _ _) _ _) _ _,zo c (zo c (zo c n.2.2.1 _ _) _ _) _ _,zo c (zo c (zo c n.2.2.2 _ _) _ _) _ _⟩)|go_keep) (first|(go_at_call 72;refine(v.o _ (by first|exact(Below.refl _ _).drew|exact Below.refl _ _)).mono ?_;rintro e r ⟨K,m,⟨_,o8,k8,g8,f8,rfl,q,a0⟩,a5⟩;have a3:Hd (0<mm.sv.length->g8≠w.heap.size):=(λh0=>by have:=a0 h0;omega);have a4:Hd _:=K;have p:Hd (IS r o8 g8 f8 mm.sv.length (λi=>(mm.sv[i]?).getD 0)):=q;have n:_/\_/\_/\_:=⟨(World.cell?_of_block (m.block _ l)).trans k0,(World.cell?_of_block (m.block _ l)).trans k1,(World.cell?_of_block (m.block _ l)).trans k2,(World.cell?_of_block (m.block _ l)).trans k3⟩;have U:Hd _:=(m.block _ H).trans a2.o;obtain⟨y0,y1,y2,z0,z1,z2⟩:=ld3 U.o;clear K m q))
 all_goals
  go_wp2_with fail;refine zan _ _ _ _ _ _ (ym U.o) rfl rfl ⟨((a4.o.setCell (Nat.le_refl _) _).setCell (Nat.le_refl _) _).setCell (Nat.le_refl _) _,o8,k8,g8,f8,rfl,?_⟩;refine⟨p.o.at_,λh=>by have:=p.o.lt h;simpa using this,λi hi=>?_⟩;have t:=a3.o ol;rw[World.cell?_of_block (w:=r) (by rw[za t,za t,za t])];exact p.o.val i hi
theorem jm(dn:Nat->Bool)(a:Int):∀N:Nat,(dnL dn N).count a=if 0<=a/\a<N/\dn a.toNat=E then 1 else 0:=by
 intro N;induction N with
 |zero=>rw[if_neg ol];rfl
 | succ N ih =>
  rw[dnL,List.count_append,ih];by_cases c:a=N
  ·subst c;rw[if_neg ol];by_cases b:dn N=E
   ·rw[if_pos b,if_pos ⟨ol,ol,by simpa using b⟩];simp
   ·rw[if_neg b,if_neg (λh=>b (by simpa using h.2.2))];rfl
  ·have d:(if dn N=E then[(N:Int)]else[]).count a=0:=by
    split
    ·exact List.count_eq_zero.2 (by simpa using c)
    ·rfl
   rw[d,Nat.add_zero];by_cases h:0<=a/\a<N/\dn a.toNat=E
   ·rw[if_pos h,if_pos ⟨h.1,ol,h.2.2⟩]
   ·rw[if_neg h,if_neg (λg=>h ⟨g.1,ol,g.2.2⟩)]
theorem zdM{D:List Int}{dn:Nat->Bool}{n:Nat}{c:Bool}(h:D.Perm (dnL dn 64))(j:n<64):(mkD D n c).Perm (dnL (λi=>if i=n then !c else dn i) 64):=by
 rw[List.perm_iff_count]at h⊢;intro a;rw[jm];unfold mkD;rw[List.count_append];by_cases e:a=n
 ·subst e;have f:(D.filter (λd=>decide (d≠(n:Int)))).count (n:Int)=0:=List.count_eq_zero.2 ot;rw[f];cases c with
  |true=>rw[if_pos rfl,if_neg ot];rfl
  |false=>rw[if_neg ot,if_pos ⟨ol,ol,ot⟩];simp
 ·have f:(if c=E then[]else[(n:Int)]).count a=0:=by
   split
   ·rfl
   ·exact List.count_eq_zero.2 (by simpa using e)
  rw[f,Nat.add_zero,List.count_filter (by simpa using e),h a,jm];by_cases b:0<=a/\a<((64:Nat):Int)/\dn a.toNat=E
  ·rw[if_pos b,if_pos ⟨b.1,b.2.1,by rw[if_neg ol];exact b.2.2⟩]
  ·rw[if_neg b,if_neg (λg=>b ⟨g.1,g.2.1,by have:=g.2.2;rw[if_neg ol]at this;exact this⟩)]
theorem zcY{D:Nat->Int}{s:Int}:∀{n:Nat},ZE D s n=E↔∀i,i<n->D i≠s:=by
 intro n;induction n with
 |zero=>simp[ZE]
 | succ n ih =>
  simp only[ZE,Bool.and_eq_true,ih,Bool.not_eq_true',beq_eq_false_iff_ne];constructor
  ·intro h i a;by_cases e:i=n
   ·subst e;exact h.2
   ·exact h.1 i ol
  ·exact λh=>⟨λi a=>h i ol,h n ol⟩
theorem JP(D:List Int)(i:Nat):dnTo (λj=>(D[j]?).getD 0) D.length i=decide ((i:Int)∈D):=by
 unfold dnTo;have b:ZE (λj=>(D[j]?).getD 0) (i:Int) D.length=E↔(i:Int) ∉ D:=by
  rw[zcY];constructor
  ·intro h a;obtain⟨j,c⟩:=List.getElem?_of_mem a;have d:=(List.getElem?_eq_some_iff.1 c).1;exact h j d (by rw[c];rfl)
  ·intro h j c e;rw[List.getElem?_eq_getElem c,Option.getD_some]at e;exact h (by rw[<-e];exact List.getElem_mem c)
 by_cases a:(i:Int)∈D
 ·rw[decide_eq_true a];cases hq:ZE (λj=>(D[j]?).getD 0) (i:Int) D.length with
  |false=>rfl
  |true=>exact absurd a (b.1 hq)
 ·rw[decide_eq_false a,b.2 a];rfl
theorem zdJ(W:RW){a b:List (List Int)}(h:∀k:Nat,(a[k]?).getD []=(b[k]?).getD [])(K:List MN)(e:EX):mnE { W with al:=a } K e=mnE { W with al:=b } K e:=by
 have g:∀l,Yg { W with al:=a } l=Yg { W with al:=b } l:=λ_=>rfl
 have f:∀l,yZ { W with al:=a } l=yZ { W with al:=b } l:=λ_=>rfl
 have d:∀l,ZN { W with al:=a } l=ZN { W with al:=b } l:=λ_=>rfl
 have c:∀l,xj { W with al:=a } l=xj { W with al:=b } l:=λ_=>rfl
 unfold mnE;simp only[h,g,f,d,c]
theorem zgA(W:RW){a b:List (List Int)}(h:∀k:Nat,(a[k]?).getD []=(b[k]?).getD [])(c:List EX)(n:Nat):mnN { W with al:=a } c n=mnN { W with al:=b } c n:=by
 have d:∀j,mnK { W with al:=a } c j=mnK { W with al:=b } c j:=by
  intro j;induction j with
  |zero=>rfl
  | succ j ih =>
   simp only[mnK];rw[ih];cases c[j]? with
   |none=>rfl
   |some e=>simp only;rw[zdJ W h]
 cases n with
 |zero=>rfl
 | succ j =>
  simp only[mnN];rw[d];cases c[j]? with
  |none=>rfl
  |some e=>exact zdJ W h _ e
theorem zfe{x:WD}{dn:Nat->Bool}{D:List Int}{A:Option Nat}{al:Nat->List Int}{s:ByteArray}(Q:x.dl=D.length)(P:x.Dn=λi=>(D[i]?).getD 0)(O:x.al=zbZ A al)(N:A=F->∀k,k<16->al k=[])(C:D.Perm (dnL dn 64))(I:yU x.V x.L x.R x.pl=E)(G:cpE s=0)(J:Zm x.a x.b x.d=E):
 quF x.a x.b x.d dn ((List.range 16).map al) x.V x.L x.R x.pl (cpX s)=(0,(x.mn s).sv,(x.mn s).ttl,(x.mn s).sc):=by
 generalize hLL:dnL dn 64=LL at C;obtain⟨v,p,o,n,t,r,q,m,l,j,c⟩:∃v:WD,v.a=x.a/\v.b=x.b/\v.d=x.d/\v.dl=LL.length/\(v.Dn=λi=>(LL[i]?).getD 0)/\v.al=(List.range 16).map al/\v.V=x.V/\v.L=x.L/\v.R=x.R/\v.pl=x.pl:=⟨{ x with dl:=LL.length,Dn:=λi=>(LL[i]?).getD 0,al:=(List.range 16).map al },rfl,rfl,rfl,rfl,rfl,rfl,rfl,rfl,rfl,rfl⟩;have u:({ v with a:=x.a,b:=x.b,d:=x.d }:WD)=v:=by
  cases v
  simp only at p o n;rw[p,o,n]
 have H:=zgr (v:=v) (dn:=dn) (al:=al) (s:=s) x.a x.b x.d (by rw[t,hLL]) (by rw[r,hLL]) q (by rw[m,l,j,c];exact I) G J;rw[u,m,l,j,c]at H;obtain⟨B,z⟩:=H;have K:Q2 s=E:=by unfold Q2;rw[G];rfl
 have f:=zgg K z;have e:v.mn s=x.mn s:=by
  have w:x.rw={ v.rw with al:=zbZ A al }:=by
   unfold WD.rw zbP;simp only;rw[Q,P,O,p,o,n,t,r,m,l,j,c];have:dnTo (λi=>(D[i]?).getD 0) D.length=dnTo (λi=>(LL[i]?).getD 0) LL.length:=by
    funext i
    rw[JP,JP];by_cases e:(i:Int)∈D
    ·rw[decide_eq_true e,decide_eq_true (C.mem_iff.1 e)]
    ·rw[decide_eq_false e,decide_eq_false (λh=>e (C.mem_iff.2 h))]
   rw[this]
  have y:v.rw={ v.rw with al:=(List.range 16).map al }:=by
   unfold WD.rw zbP;simp only;rw[q]
  unfold WD.mn;rw[w,y];refine(zgA v.rw (a:=(List.range 16).map al) (b:=zbZ A al) (λk=>?_) _ _);unfold zbZ;by_cases g:A=F
  ·rw[if_pos g];rcases Nat.lt_or_ge k 16 with h|h
   ·simp[h,N g k h]
   ·rw[List.getElem?_eq_none (by simpa using h)];rfl
  ·rw[if_neg g]
 rw[e]at f;rw[B];have U:=f.2.2.2.2.1;have S:=f.2.2.2.2.2;simp only[Prod.mk.injEq,true_and];refine Prod.ext ?_ (Prod.ext U S);show(v.mn s).sv=_;rw[e]
end Go.Proofs.YtaebngpoagjafabGreat
