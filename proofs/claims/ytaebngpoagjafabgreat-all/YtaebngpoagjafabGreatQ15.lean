import Derived.Test.YtaebngpoagjafabGreatQ09
import Derived.Test.YtaebngpoagjafabGreatQ13
set_option maxRecDepth 100000
set_option maxHeartbeats 1600000
namespace Go.Proofs.YtaebngpoagjafabGreat
open Option renaming none → N,some → S
open Bool renaming false → T,true → P
open Proofs.Tryz renaming prog → E
open Proofs.Tryz
open Obj renaming cells → U
open Value renaming int → J, slice → Q
open IntKind renaming i64 → Z, u8 → O
open Go.RowKit
attribute [local go_sem ↓] Go.wp_at_zero Go.wp_at_succ
section
theorem infoExpr:(Tryz.prog.info? 148).map (λi=>(i.zero,i.size,i.bytes))=S (S (.agg #[J O 0,J Z 0,J Z 0,J Z 0,J Z 0,Q N 0 0,J Z 0]),7,72):=kr
theorem zX(w:World)(n:Nat)(o:Obj):(w.drewN n).alloc o=(w.alloc o).drewN n:=rfl
theorem zK(w:World)(n:Nat)(a:Addr)(v:Value):(w.drewN n).setCell a v=(w.setCell a v).drewN n:=rfl
theorem zx{w:World}{a:Addr}{v:Value}(h:w.cell? a=S v)(o:Obj):(w.alloc o).cell? a=S v:=by
 have b:a.block<w.heap.size:=Nat.lt_of_not_le λhn=>by
  have:w.heap[a.block]?=N:=Array.getElem?_eq_none_iff.2 hn
  simp[World.cell?,this]at h
 rw[World.cell?_of_block (w:=w) (Below.heap_alloc w o a.block b)];exact h
theorem zo{w:World}{B i X:Nat}{v:Value}(a:X≠B)(h:w.cell? ⟨B,i,N⟩=S v)(j:Nat)(u:Value):(w.setCell ⟨X,j,N⟩ u).cell? ⟨B,i,N⟩=S v:=by
 rw[World.cell?_of_block (w:=w) (za (λe=>a e.symm))];exact h
theorem PM.setE{w:World}{base B s k b ev rv es rs}(h:PM w base B s k b ev rv es rs){c j:Nat}{u:Value}(d:zL w c 148)(f:ev.ownBlock≠S c):PM (w.setCell ⟨c,j,N⟩ u) base B s k b ev rv es rs:=by
 obtain⟨i,g,a⟩:=d;refine⟨?_,ownsRow_setCell_other h.ex f _,ownsRow_setCell_other h.rl (zi h.rl a oq) _,λp hp=>ownsRow_setCell_other (h.it p hp) (zi (h.it p hp) a oq) _,h.hB⟩;rw[za (λe=>by subst e;have:=h.blk;rw[a]at this;simp at this)];exact h.blk
theorem PM.pushE{w w4:World}{base B s k b ev rv es rs}(h:PM w base B s k b ev rv es rs){v:Value}{e:EX}{n g cap:Nat}(l:n=es.length)(j:w.grownBy w4 ev.ownBlock)(c:w4.ownsRow base 148 7 (Q (S ⟨g,0,N⟩) (n+1) cap) (n+1) (exC es++exV (e,v)))(d:w.ownsRow base 155 7 v e.items.length (imC e.items)):PM (w4.setCell ⟨B,3,N⟩ (Q (S ⟨g,0,N⟩) (n+1) cap)) base B s k b (Q (S ⟨g,0,N⟩) (n+1) cap) rv (es++[(e,v)]) rs:=by
 subst l;have a:w4.heap[B]?=S (U #[.string s,J Z k,.bool b,ev,rv] 104 (0,0)):=(j.block B h.lt (λe=>zi h.ex h.blk oq e.symm)).trans h.blk;have f:w4.ownsRow base 143 3 rv rs.length (rlC rs):=h.rl.kept j (zV h.rl h.ex oq);have i:∀(q:Value) (n:Nat) (xs:List Value),w.ownsRow base 155 7 q n xs->w4.ownsRow base 155 7 q n xs:=λq n xs hq=>hq.kept j (zV hq h.ex oq)
 have o:exC (es++[(e,v)])=exC es++exV (e,v):=by simp[exC]
 have m:(es++[(e,v)]).length=es.length+1:=ot;refine⟨Yo a,?_,ownsRow_setCell_other f (zi f a oq) _,λp hp=>?_,h.hB⟩
 ·rw[o,m];exact ownsRow_setCell_other c (zi c a oq) _
 ·rcases List.mem_append.1 hp with hp|hp
  ·have:=i _ _ _ (h.it p hp)
   exact ownsRow_setCell_other this (zi this a oq) _
  ·simp at hp;subst hp;have:=i _ _ _ d
   exact ownsRow_setCell_other this (zi this a oq) _
theorem PM.pushMv{w w4:World}{base B s k b ev rv es rs}(h:PM w base B s k b ev rv es rs){g n cap H:Nat}(c:w.grownBy w4 ev.ownBlock)(a:ev.ownBlock=S g\/g=H)(d:w.heap.size<=H):
 Mv base B ev rv (Q (S ⟨g,0,N⟩) n cap) rv w (w4.setCell ⟨B,3,N⟩ (Q (S ⟨g,0,N⟩) n cap)):=by
 refine⟨((Below.refl _ _).grown c h.bs (λq hq=>(h.ex.lt q hq).1)).setCell h.hB _,λx hx ho=>⟨?_,ho.1,?_,ho.2.2⟩⟩
 ·rw[za ho.1];exact c.block x hx (λe=>ho.2.1 e.symm)
 ·intro e;simp[Value.ownBlock]at e;subst e;rcases a with e|e
  ·exact ho.2.1 e
  ·omega
theorem PM.grown3{w c:World}{base B s k b ev rv es rs}(h:PM w base B s k b ev rv es rs){o:Obj}(f:((w.alloc o).drew).grownBy c ev.ownBlock):c.cell? ⟨B,3,N⟩=S ev/\c.frozen? ⟨B,3,N⟩=T:=by
 have a:=(h.alloc o).drew;have d:=(f.block B a.lt (λe=>zi a.ex a.blk oq e.symm)).trans a.blk;exact⟨by simp[World.cell?,d],by simp[World.frozen?,d]⟩
variable {s:ByteArray} {rs:List RL}
theorem JS(n:Nat)(d:Int)(m k:Nat)(b:Bool)(h:isK (zg s (zb s k b) b)=T):cE s rs (n+1) d m k b=⟨-1,[],zb s k b,P⟩:=by
 simp only[cE,h,if_true]
theorem Y7(n:Nat)(d:Int)(m k:Nat)(b:Bool)(h:zg s (zb s k b) b=123):cE s rs (n+1) d m k b =
 ⟨(m+(ze (cE s rs n) s 123 d (s.size+1-(zb s k b+1)) m (zb s k b+1) b).es.length:Nat),(ze (cE s rs n) s 123 d (s.size+1-(zb s k b+1)) m (zb s k b+1) b).es++[⟨123,zb s k b,d,0,0,(ze (cE s rs n) s 123 d (s.size+1-(zb s k b+1)) m (zb s k b+1) b).ims,-1⟩],zc s 125 (ze (cE s rs n) s 123 d (s.size+1-(zb s k b+1)) m (zb s k b+1) b).k (ze (cE s rs n) s 123 d (s.size+1-(zb s k b+1)) m (zb s k b+1) b).b,zk s 125 (ze (cE s rs n) s 123 d (s.size+1-(zb s k b+1)) m (zb s k b+1) b).k (ze (cE s rs n) s 123 d (s.size+1-(zb s k b+1)) m (zb s k b+1) b).b⟩:=by
 simp only[cE,h];rfl
theorem X7(n:Nat)(d:Int)(m k:Nat)(b:Bool)(h:zg s (zb s k b) b=64):cE s rs (n+1) d m k b =
 ⟨m,[⟨64,zb s k b,d,zM s (zb s k b+1) b,zb s (zb s k b+1) b,[],-1⟩],zs s (zb s k b+1) b,zw s (zb s k b+1) b⟩:=by
 simp only[cE,h];rfl
theorem Qe(n:Nat)(d:Int)(m k:Nat)(b:Bool)(h:zg s (zb s k b) b=61):cE s rs (n+1) d m k b =
 ⟨m,[⟨61,zb s k b,d,zg s (zb s (zb s k b+1) b) b,zb s (zb s k b+1) b,[],yr (zg s (zb s (zb s k b+1) b) b) rs⟩],zR s (zb s k b+1) b,zZ s (zb s k b+1) b⟩:=by
 simp only[cE,h];rfl
theorem j2(n:Nat)(d:Int)(m k:Nat)(b:Bool)(h:zg s (zb s k b) b=116){k1:Nat}{a:Bool}(c:zc s 40 (zb s k b+1) b=k1)(e:zk s 40 (zb s k b+1) b=a){r:CR}(f:cE s rs n (d+1) m (zc s 44 (zs s k1 a) (zw s k1 a)) (zk s 44 (zs s k1 a) (zw s k1 a))=r):cE s rs (n+1) d m k b =
 ⟨(m+r.es.length:Nat),r.es++[⟨116,zb s k b,d,zM s k1 a,zb s k1 a,[],r.idx⟩],zc s 41 r.k r.b,zk s 41 r.k r.b⟩:=by
 subst c e f;simp only[cE,h];rfl
theorem Qf(n:Nat)(d:Int)(m k:Nat)(b:Bool){c:Int}(h:zg s (zb s k b) b=c)(j:c=119\/c=102\/c=109\/c=103){k1:Nat}{f:Bool}(a:zc s 40 (zb s k b+1) b=k1)(e:zk s 40 (zb s k b+1) b=f){l:CL}(i:ze (cE s rs n) s c d (s.size+1-k1) m k1 f=l){r:CR}(g:cE s rs n (d+1) (m+l.es.length) (zc s 124 l.k l.b) (zk s 124 l.k l.b)=r):cE s rs (n+1) d m k b =
 ⟨(m+l.es.length+r.es.length:Nat),l.es++r.es++[⟨c,zb s k b,d,0,0,l.ims,r.idx⟩],zc s 41 r.k r.b,zk s 41 r.k r.b⟩:=by
 subst a e i g;rcases j with rfl|rfl|rfl|rfl<;>(simp only[cE,h];rfl)
end
section
def FM(w:World)(F:Nat)(f:Int×Int):Prop:=w.heap[F]?=S (U #[J Z f.1,J Z f.2] 106 (0,0))
structure FK (F:Nat) (w w':World):Prop where
 bel:Below F w w'
 kept:∀b,b<w.heap.size->b≠F->w'.heap[b]?=w.heap[b]?
theorem FK.refl(F:Nat)(w:World):FK F w w:=⟨Below.refl _ _,λ_ _ _=>rfl⟩
theorem FK.trans{F:Nat}{w c a:World}(h:FK F w c)(k:FK F c a):FK F w a:=⟨h.bel.trans k.bel,λb hb hne=>(k.kept b (Nat.lt_of_lt_of_le hb h.bel.size) hne).trans (h.kept b hb hne)⟩
theorem FK.drewN{F:Nat}{w a:World}(h:FK F w a)(n:Nat):FK F w (a.drewN n):=⟨zT h.bel n,h.kept⟩
theorem FK.drew{F:Nat}{w a:World}(h:FK F w a):FK F w a.drew:=⟨h.bel.drew,h.kept⟩
theorem FK.alloc{F:Nat}{w a:World}(h:FK F w a)(c:F<=a.heap.size)(o:Obj):FK F w (a.alloc o):=⟨h.bel.alloc c o,λb hb hne=>(Below.heap_alloc _ _ _ (Nat.lt_of_lt_of_le hb h.bel.size)).trans (h.kept b hb hne)⟩
theorem FK.set{F:Nat}{w a:World}(h:FK F w a)(j:Nat)(u:Value):FK F w (a.setCell ⟨F,j,N⟩ u):=⟨h.bel.setCell (Nat.le_refl _) u,λb hb hne=>(za hne).trans (h.kept b hb hne)⟩
theorem FK.below{F:Nat}{w a:World}(h:Below w.heap.size w a)(c:F<=w.heap.size):FK F w a:=⟨h.mono c,λb hb _=>h.block b hb⟩
theorem FM.lt{w:World}{F:Nat}{f:Int×Int}(h:FM w F f):F<w.heap.size:=lt_of_block h
theorem FM.alloc{w:World}{F:Nat}{f:Int×Int}(h:FM w F f)(o:Obj):FM (w.alloc o) F f:=(Below.heap_alloc _ _ _ h.lt).trans h
theorem FM.c0{w:World}{F:Nat}{f:Int×Int}(h:FM w F f):w.cell? ⟨F,0,N⟩=S (J Z f.1):=by unfold FM at h;simp[World.cell?,h]
theorem FM.c1{w:World}{F:Nat}{f:Int×Int}(h:FM w F f):w.cell? ⟨F,1,N⟩=S (J Z f.2):=by unfold FM at h;simp[World.cell?,h]
theorem FM.fz{w:World}{F:Nat}{f:Int×Int}(h:FM w F f)(j:Nat):w.frozen? ⟨F,j,N⟩=T:=by unfold FM at h;simp[World.frozen?,h]
def fnd(f:Int×Int)(e a:Int):Int×Int:=if f.1=0\/a<f.2\/(a=f.2/\e<f.1)then(e,a)else f
def YZ(f:Int×Int)(v a lo hi:Int):Int×Int:=if v<lo\/hi<v then fnd f 6 a else f
attribute [local go_sem] zX zK
theorem Zg(F:Nat)(f:Int×Int)(e a:Int)(w:World)(h:FM w F f)(f':Int×Int)(k:Hd (fnd f e a=f')):
 Calls E 89 #[.pointer (S ⟨F,0,N⟩),J Z e,J Z a] w λx w'=>x=.returned (.tuple #[])/\FM w' F f'/\FK F w w':=by
 have s:=h.c0;have r:=h.c1;have u:=h.fz 0;have t:=h.fz 1;have H:Hd _:=h;clear h;obtain⟨i,j⟩:=f;simp only at s r;have g:Hd (FM ((w.setCell ⟨F,0,N⟩ (J Z e)).setCell ⟨F,1,N⟩ (J Z a)) F (e,a)):=by
  have q:=H.o;unfold FM at q;show _=_;simp[World.setCell,Array.getElem?_modify,q]
 by_cases b:i=0
 ·have n:(i==0)=P:=by simp[b]
  have c:Hd (f'=(e,a)):=by show _=_;rw[<-k.o];unfold fnd;rw[if_pos (.inl b)]
  clear b;go_enter func89,ntmps89;go_wp2_with fail;go_end0
  exact⟨rfl,by rw[c.o];exact g.o,((FK.refl _ _).set _ _).set _ _⟩
 have n:(i==0)=T:=by simp[b]
 by_cases m:a<j
 ·have c:Hd (f'=(e,a)):=by show _=_;rw[<-k.o];unfold fnd;rw[if_pos (.inr (.inl m))]
  clear b;go_enter func89,ntmps89;go_wp2_with fail;go_end0
  exact⟨rfl,by rw[c.o];exact g.o,((FK.refl _ _).set _ _).set _ _⟩
 by_cases d:a=j
 ·have l:(a==j)=P:=by simp[d]
  by_cases p:e<i
  ·have c:Hd (f'=(e,a)):=(by show _=_;rw[<-k.o];unfold fnd;rw[if_pos (.inr (.inr ⟨d,p⟩))]);clear b d;go_enter func89,ntmps89;go_wp2_with fail;go_end0
   exact⟨rfl,by rw[c.o];exact g.o,((FK.refl _ _).set _ _).set _ _⟩
  ·have c:Hd (f'=(i,j)):=(by show _=_;rw[<-k.o];unfold fnd;rw[if_neg (λh=>h.elim b (λh=>h.elim m (λh=>p h.2)))]);clear b d;go_enter func89,ntmps89;go_wp2_with fail;go_end0
   exact⟨rfl,by rw[c.o];exact H.o,FK.refl _ _⟩
 ·have l:(a==j)=T:=by simp[d]
  have c:Hd (f'=(i,j)):=by show _=_;rw[<-k.o];unfold fnd;rw[if_neg (λh=>h.elim b (λh=>h.elim m (λh=>d h.1)))]
  clear b d;go_enter func89,ntmps89;go_wp2_with fail;go_end0
  exact⟨rfl,by rw[c.o];exact H.o,FK.refl _ _⟩
theorem yp(F:Nat)(f:Int×Int)(v a lo hi:Int)(w:World)(h:FM w F f)(f':Int×Int)(e:Hd (YZ f v a lo hi=f')):
 Calls E 128 #[.pointer (S ⟨F,0,N⟩),.agg #[J Z v,J Z a],J Z lo,J Z hi] w λx w'=>x=.returned (.tuple #[])/\FM w' F f'/\FK F w w':=by
 have H:Hd (FM (w.alloc (U #[J Z v,J Z a] 141)) F f):=h.alloc _;have g:Hd (FK F w (w.alloc (U #[J Z v,J Z a] 141))):=(FK.refl _ _).alloc (Nat.le_of_lt h.lt) _;clear h;by_cases i:v<lo
 ·have c:Hd (fnd f 6 a=f'):=by show _=_;rw[<-e.o];unfold YZ;rw[if_pos (.inl i)]
  go_enter func128,ntmps128;go_wp2_with fail;refine(Zg F f 6 a _ H.o f' c).mono ?_;rintro x j ⟨rfl,b,d⟩;go_wp2_with fail;go_end0
  exact⟨rfl,b,g.o.trans d⟩
 by_cases b:hi<v
 ·have c:Hd (fnd f 6 a=f'):=by show _=_;rw[<-e.o];unfold YZ;rw[if_pos (.inr b)]
  go_enter func128,ntmps128;go_wp2_with fail;refine(Zg F f 6 a _ H.o f' c).mono ?_;rintro x j ⟨rfl,b,d⟩;go_wp2_with fail;go_end0
  exact⟨rfl,b,g.o.trans d⟩
 have c:Hd (f=f'):=by show _=_;rw[<-e.o];unfold YZ;rw[if_neg (λh=>h.elim i b)]
 go_enter func128,ntmps128;go_wp2_with fail;go_end0
 exact⟨rfl,by rw[<-c.o];exact H.o,g.o⟩
def IV(w:World)(v:Value)(l:List IM):Prop:=(v=Q N 0 0/\l=[])\/∃g cap,v=Q (S ⟨g,0,N⟩) l.length cap/\l.length<=cap/\∀i x,l[i]?=S x->w.cell? ⟨g,i*7,N⟩=S (J Z x.at_)/\w.cell? ⟨g,i*7+1,N⟩=S (J Z x.num)/\w.cell? ⟨g,i*7+2,N⟩=S (J Z x.pv)/\w.cell? ⟨g,i*7+3,N⟩=S (J Z x.pl)/\w.cell? ⟨g,i*7+4,N⟩=S (J Z x.wv)/\w.cell? ⟨g,i*7+5,N⟩=S (J Z x.wa)/\w.cell? ⟨g,i*7+6,N⟩=S (J Z x.arm)
def yG(y x:IM):Bool:=(y.num==x.num) && (y.pv==x.pv) && (y.pl==x.pl)
theorem JK(v:Value)(x:IM)(l:List IM)(w:World)(hl:l.length<=100000)(h:IV w v l):
 Calls E 129 #[v,.agg #[J Z x.at_,J Z x.num,J Z x.pv,J Z x.pl,J Z x.wv,J Z x.wa,J Z x.arm]] w λe w'=>Below w.heap.size w w'/\e=.returned (.bool (l.any (λy=>yG y x))):=by
 have a:∀(i:Nat),i<l.length->∃r,l[i]?=S r:=λi hi=>⟨l[i],List.getElem?_eq_getElem hi⟩
 have s:Hd (Below w.heap.size w (w.alloc (U #[J Z x.at_,J Z x.num,J Z x.pv,J Z x.pl,J Z x.wv,J Z x.wa,J Z x.arm] 155))):=(Below.refl _ _).alloc (Nat.le_refl _) _;have B:Hd ((w.alloc (U #[J Z x.at_,J Z x.num,J Z x.pv,J Z x.pl,J Z x.wv,J Z x.wa,J Z x.arm] 155)).heap[w.heap.size]?=S (U #[J Z x.at_,J Z x.num,J Z x.pv,J Z x.pl,J Z x.wv,J Z x.wa,J Z x.arm] 155 (0,0))):=heap_alloc_new w _;rcases h with⟨rfl,rfl⟩|⟨g,cap,rfl,hcl,hc⟩
 ·go_enter func129,ntmps129;go_wp2_with fail;go_loopg [9] 1 (λn y wr=>y=J Z 0/\wr=w.alloc (U #[J Z x.at_,J Z x.num,J Z x.pv,J Z x.pl,J Z x.wv,J Z x.wa,J Z x.arm] 155))
  case atStart=>exact⟨rfl,rfl⟩
  case round =>
   obtain⟨rfl,rfl⟩:=hrel;go_wp2_with fail;go_ret;exact⟨s.o,rfl⟩
 ·have p:∀i y,l[i]?=S y->g<w.heap.size:=λi y d=>World.block_lt_of_cell? w ⟨g,i*7,N⟩ (hc i y d).1
  go_enter func129,ntmps129;go_wp2_with fail;go_loopg [9] l.length (λn y wr=>∃(j:Nat),n+j=l.length/\y=J Z j/\Hd ((l.take j).any (λy=>yG y x)=T)/\Below w.heap.size w wr/\wr.heap[w.heap.size]?=S (U #[J Z x.at_,J Z x.num,J Z x.pv,J Z x.pl,J Z x.wv,J Z x.wa,J Z x.arm] 155 (0,0)))
  case atStart=>exact⟨0,ol,rfl,sw,s.o,B.o⟩
  case round =>
   obtain⟨j,hn,rfl,O,L,z⟩:=hrel;have c:Hd _:=L;have t:Hd _:=z;have m:w.heap.size<wr.heap.size:=lt_of_block z;clear L z;by_cases A:j<l.length
   ·obtain⟨y,d⟩:=a j A;have R:(0:Int)<=(j:Int):=ol;have Q:(j:Int)<(l.length:Int):=ol;obtain⟨K,I,H,G,F,D,C⟩:=hc j y d;have g0:=yx c.o K;have g1:=yx c.o I;have g2:=yx c.o H;have g3:=yx c.o G;have g4:=yx c.o F;have g5:=yx c.o D;have g6:=yx c.o C;have V:=p j y d;have x1:wr.cell? ⟨w.heap.size,1,N⟩=S (J Z x.num):=(by simp[World.cell?,t.o]);have x2:wr.cell? ⟨w.heap.size,2,N⟩=S (J Z x.pv):=(by simp[World.cell?,t.o]);have Y:wr.cell? ⟨w.heap.size,3,N⟩=S (J Z x.pl):=(by simp[World.cell?,t.o]);have q:Hd ((l.take (j+1)).any (λy=>yG y x)=yG y x):=by
     show _=_;rw[List.take_add_one,d,List.any_append,O.o];simp
    have X:Hd (yG y x=P->l.any (λy=>yG y x)=P):=λh=>List.any_eq_true.2 ⟨y,List.mem_of_getElem? d,h⟩
    have b:Hd (∀o,Below w.heap.size w (wr.alloc o)):=λo=>c.o.alloc (Nat.le_of_lt m) o
    have k:Hd (∀o,(wr.alloc o).heap[w.heap.size]?=S (U #[J Z x.at_,J Z x.num,J Z x.pv,J Z x.pl,J Z x.wv,J Z x.wa,J Z x.arm] 155 (0,0))):=λo=>(Below.heap_alloc _ _ _ m).trans t.o
    have u:Hd (yG y x=((y.num==x.num) && (y.pv==x.pv) && (y.pl==x.pl))):=rfl;clear K I H G F D C d hc a p;cases e1:(y.num==x.num)with
    | false =>
     have f:Hd (yG y x=T):=(by show _=_;rw[u.o,e1];rfl);go_wp2_with fail;go_roundg (gk-1)
     case measure=>omega
     case rel=>exact⟨j+1,ol,by go_num,by show _=_;rw[q.o,f.o],b.o _,k.o _⟩
    | true =>
     cases e2:(y.pv==x.pv)with
     | false =>
      have f:Hd (yG y x=T):=(by show _=_;rw[u.o,e1,e2];rfl);go_wp2_with fail;go_roundg (gk-1)
      case measure=>omega
      case rel=>exact⟨j+1,ol,by go_num,by show _=_;rw[q.o,f.o],b.o _,k.o _⟩
     | true =>
      cases e3:(y.pl==x.pl)with
      | false =>
       have f:Hd (yG y x=T):=(by show _=_;rw[u.o,e1,e2,e3];rfl);go_wp2_with fail;go_roundg (gk-1)
       case measure=>omega
       case rel=>exact⟨j+1,ol,by go_num,by show _=_;rw[q.o,f.o],b.o _,k.o _⟩
      | true =>
       have f:Hd (l.any (λy=>yG y x)=P):=X.o (by rw[u.o,e1,e2,e3];rfl);go_wp2_with fail;go_ret;exact⟨b.o _,by rw[f.o];rfl⟩
   ·have hd:¬((j:Int)<(l.length:Int)):=(by omega);have W:((l.length:Int))<=(j:Int):=ol;have q:Hd (l.any (λy=>yG y x)=T):=(by show _=_;have:=O.o;rwa [List.take_of_length_le ol]at this);go_wp2_with fail;go_ret;exact⟨c.o,by rw[q.o];rfl⟩
end
section
attribute [local go_sem] zX zK
theorem JO(n base B:Nat)(s:ByteArray)(d:Int)(k:Nat)(b:Bool)(i f:Value)(x:List (EX×Value))(rs:List RL)(w:World)(hs:s.size<=2000)(hk:k<=s.size)(_h0:0<=d)(_h1:d<=k)(hl:x.length<=k)(_hrl:rs.length<=2000)(hc:zg s (zb s k b) b=64)(h:PM w base B s k b i f x rs)(R:CR)(hR:Hd (cE s rs (n+1) d x.length k b=R)):
 Calls E 125 #[.pointer (S ⟨B,0,N⟩),J Z d] w λe w' =>
  e=.returned (J Z R.idx)/\∃ev' new,new.map Prod.fst=R.es/\PM w' base B s R.k R.b ev' f (x++new) rs/\Mv base B i f ev' f w w'/\∀p∈new,∀g,p.2.ownBlock=S g->w.heap.size<=g:=by
 obtain⟨i0,b1,b0,a9,a8⟩:=info_parts infoExpr;have H:Hd _:=h;clear h;go_enter func125,ntmps125;go_wp2_with fail;refine(yl base B s k b i f x rs _ hs hk H.o).mono ?_;rintro e a ⟨rfl,D,L⟩;have V:isK (zg s (zb s k b) b)=P:=by rw[hc];rfl
 have d3:zb s k b<s.size:=(Zw V).2;have d5:k<=zb s k b:=yi s k b;have b3:b=T:=(Zw V).1;subst b3;rw[X7 n d x.length k T hc]at hR;clear V;have a2:zg s (zb s k T) T=64:=hc;have Y:=λ(wz:World) (hz:PM wz base B s (zb s k T) T i f x rs)=>xY base B s (zb s k T) T i f x rs wz hz
 rw[a2]at Y;clear a2 hc;generalize zb s k T=p at *;have A:Hd _:=D;have c8:Hd _:=L;have W:=D.c1;have r:=D.outNew;have z:=D.bs;have X:w.heap.size<=a.heap.size:=L.bel.size;have a4:a.heap.size≠B:=r.1;have d8:B≠a.heap.size:=λe=>r.1 e.symm
 have d7:=D.lt;clear D L;have b2:=λw=>Xb 64 p d w
 go_wp2_with fail;go_region_held3 (λw'=>w'.cell? ⟨B,1,N⟩=S (J Z p)) (first|(exact W)|(exact zx W _)|(exact zo a4 (zx W _) _ _)|go_keep) (first|(go_at_call 127;refine(Y _ (by first|exact A.o.drew|exact A.o.drew.alloc _|exact A.o.alloc _|exact A.o)).mono ?_;rintro e w' ⟨rfl,q,rfl⟩))
 all_goals
  have I:Hd (PM ((a.alloc (U #[J O 64,J Z p,J Z d,J Z 0,J Z 0,Q N 0 0,J Z (-1)] 148)).drewN (1+q)) base B s p T i f x rs):=(A.o.alloc _).drewN _;have c7:Hd (Mv base B i f i f w ((a.alloc (U #[J O 64,J Z p,J Z d,J Z 0,J Z 0,Q N 0 0,J Z (-1)] 148)).drewN (1+q))):=(c8.o.trans (Mv.alloc z _)).drewN _;have a6:Hd (((a.alloc (U #[J O 64,J Z p,J Z d,J Z 0,J Z 0,Q N 0 0,J Z (-1)] 148)).drewN (1+q)).heap[a.heap.size]?=S (U #[J O 64,J Z p,J Z d,J Z 0,J Z 0,Q N 0 0,J Z (-1)] 148 (0,0))):=heap_alloc_new a _;generalize(a.alloc (U #[J O 64,J Z p,J Z d,J Z 0,J Z 0,Q N 0 0,J Z (-1)] 148)).drewN (1+q)=w2 at *;clear W b2;have W:=I.o.c1;have z1:=I.o.fz 1;have x0:w2.cell? ⟨a.heap.size,0,N⟩=S (J O 64):=by simp[World.cell?,a6.o]
  have a1:=λw=>ZR 64 w
  rw[show isK 64=P from rfl]at a1;go_wp2_with fail;refine(a1 _).mono ?_;rintro e w3 ⟨d1,rfl⟩;subst w3;have c2:Hd (PM (w2.setCell ⟨B,1,N⟩ (J Z ((p:Int)+1))) base B s (p+1) T i f x rs):=I.o.at (p+1) _ ol;have c6:Hd (Mv base B i f i f w (w2.setCell ⟨B,1,N⟩ (J Z ((p:Int)+1)))):=c7.o.trans (I.o.setMv 1 _);have a5:Hd ((w2.setCell ⟨B,1,N⟩ (J Z ((p:Int)+1))).heap[a.heap.size]?=S (U #[J O 64,J Z p,J Z d,J Z 0,J Z 0,Q N 0 0,J Z (-1)] 148 (0,0))):=(za a4).trans a6.o;have d2:(p:Int)<2000:=ol;go_wp2_with fail;clear W z1 x0;refine(Zv base B s (p+1) T i f x rs _ hs ol c2.o).mono ?_;rintro e y ⟨rfl,D,L⟩;have b7:Hd _:=D;have b8:Hd (Mv base B i f i f w y):=(c6.o).trans L;have c:Hd _:=(L.kept _ (lt_of_block (a5.o)) r).1.trans (a5.o);clear D L;have x0:y.cell? ⟨a.heap.size,0,N⟩=S (J O 64):=by simp[World.cell?,c.o]
  have x1:y.cell? ⟨a.heap.size,1,N⟩=S (J Z p):=by simp[World.cell?,c.o]
  have x2:y.cell? ⟨a.heap.size,2,N⟩=S (J Z d):=by simp[World.cell?,c.o]
  have x3:y.cell? ⟨a.heap.size,3,N⟩=S (J Z 0):=by simp[World.cell?,c.o]
  have x4:y.cell? ⟨a.heap.size,4,N⟩=S (J Z 0):=by simp[World.cell?,c.o]
  have x5:y.cell? ⟨a.heap.size,5,N⟩=S (Q N 0 0):=by simp[World.cell?,c.o]
  have x6:y.cell? ⟨a.heap.size,6,N⟩=S (J Z (-1)):=by simp[World.cell?,c.o]
  have xz:∀j,y.frozen? ⟨a.heap.size,j,N⟩=T:=λj=>by simp[World.frozen?,c.o]
  have m:Hd (PM (((y).setCell ⟨a.heap.size,3,N⟩ (J Z (zM s (p+1) T))).setCell ⟨a.heap.size,4,N⟩ (J Z (zb s (p+1) T))) base B s (zs s (p+1) T) (zw s (p+1) T) i f (x) rs):=((b7.o).setE (j:=3) (u:=J Z (zM s (p+1) T)) ⟨_,_,c.o⟩ r.2.1).setE (j:=4) (u:=J Z (zb s (p+1) T)) ⟨_,_,(z9 (j:=3) (u:=J Z (zM s (p+1) T)) (c.o))⟩ r.2.1;have c5:Hd (Mv base B i f i f w (((y).setCell ⟨a.heap.size,3,N⟩ (J Z (zM s (p+1) T))).setCell ⟨a.heap.size,4,N⟩ (J Z (zb s (p+1) T)))):=((b8.o).setNew (j:=3) X z (J Z (zM s (p+1) T))).setNew (j:=4) X z (J Z (zb s (p+1) T));have v:Hd ((((y).setCell ⟨a.heap.size,3,N⟩ (J Z (zM s (p+1) T))).setCell ⟨a.heap.size,4,N⟩ (J Z (zb s (p+1) T))).heap[a.heap.size]?=S (U #[J O 64,J Z p,J Z d,J Z (zM s (p+1) T),J Z (zb s (p+1) T),Q N 0 0,J Z (-1)] 148 (0,0))):=(z9 (j:=4) (u:=J Z (zb s (p+1) T)) ((z9 (j:=3) (u:=J Z (zM s (p+1) T)) (c.o))));have b9:Hd ((((y).setCell ⟨a.heap.size,3,N⟩ (J Z (zM s (p+1) T))).setCell ⟨a.heap.size,4,N⟩ (J Z (zb s (p+1) T))).ownsRow base 155 7 (Q N 0 0) ((⟨64,p,d,zM s (p+1) T,zb s (p+1) T,[],-1⟩:EX)).items.length (imC ((⟨64,p,d,zM s (p+1) T,zb s (p+1) T,[],-1⟩:EX)).items)):=⟨rfl,.inl ⟨rfl,rfl⟩⟩;go_wp2_with fail;generalize((y).setCell ⟨a.heap.size,3,N⟩ (J Z (zM s (p+1) T))).setCell ⟨a.heap.size,4,N⟩ (J Z (zb s (p+1) T))=w5 at *;clear x0 x1 x2 x3 x4 x5 x6 xz;have x0:w5.cell? ⟨a.heap.size,0,N⟩=S (J O 64):=by simp[World.cell?,v.o]
  have x1:w5.cell? ⟨a.heap.size,1,N⟩=S (J Z p):=by simp[World.cell?,v.o]
  have x2:w5.cell? ⟨a.heap.size,2,N⟩=S (J Z d):=by simp[World.cell?,v.o]
  have x3:w5.cell? ⟨a.heap.size,3,N⟩=S (J Z (zM s (p+1) T)):=by simp[World.cell?,v.o]
  have x4:w5.cell? ⟨a.heap.size,4,N⟩=S (J Z (zb s (p+1) T)):=by simp[World.cell?,v.o]
  have x5:w5.cell? ⟨a.heap.size,5,N⟩=S (Q N 0 0):=by simp[World.cell?,v.o]
  have x6:w5.cell? ⟨a.heap.size,6,N⟩=S (J Z (-1)):=by simp[World.cell?,v.o]
  have c3:=m.o.c3;have d9:=m.o.lt;have d6:a.heap.size<w5.heap.size:=lt_of_block v.o;have z3:=m.o.fz 3;obtain⟨C,F⟩:∃C,C=(x).length:=⟨_,rfl⟩;have a7:Hd _:=F;have c9:Hd (w5.ownsRow base 148 7 i C (exC (x))):=by show World.ownsRow _ _ _ _ _ _ _;rw[F];exact m.o.ex
  have d4:(C:Int)<5000:=by rw[F];omega
  clear F;have b6:Hd (C+1<=maxLen):=sx;have b5:Hd ((C+1)*72<=140737488355328):=oz;have b4:Hd (∀o:Obj,base<=(w5.alloc o).drew.heap.size):=λo=>by have:=m.o.bs;show base<=(w5.alloc o).heap.size;simp;omega
  have a0:Hd (∀u∈exV ((⟨64,p,d,zM s (p+1) T,zb s (p+1) T,[],-1⟩:EX),Q N 0 0),u.oneCell'=P):=λu hu=>by simp[exV]at hu;rcases hu with rfl|rfl|rfl|rfl|rfl|rfl|rfl<;>first|rfl|exact HV1.o
  go_region_law ((refine step_append_lies _ (by rfl) _ _ _ (by rfl) base 148 i0 _ 7 72 underlying71 b1 b0 a9 a8 rfl oq i _ _ (by rfl) ((c9.o.alloc _).drew) ⟨w5.heap.size,0,N⟩ 1 1 (exV ((⟨64,p,d,zM s (p+1) T,zb s (p+1) T,[],-1⟩:EX),Q N 0 0)) (by rfl) (by rfl) (World.news_of_block (cs:=#[J O 64,J Z p,J Z d,J Z (zM s (p+1) T),J Z (zb s (p+1) T),Q N 0 0,J Z (-1)]) (t:=148) (fr:=(0,0)) (heap_alloc_new w5 _)) a0.o (Nat.lt_succ_self 0) b6.o b5.o (b4.o _) (w5.heap.size+1) ot ?_;intro g G w9 K l a3 d0;obtain⟨y3,yz⟩:=m.o.grown3 l))
  all_goals
   have c0:Hd (PM (w9.setCell ⟨B,3,N⟩ (Q (S ⟨g,0,N⟩) (C+1) G)) base B s (zs s (p+1) T) (zw s (p+1) T) (Q (S ⟨g,0,N⟩) (C+1) G) f (x++[((⟨64,p,d,zM s (p+1) T,zb s (p+1) T,[],-1⟩:EX),Q N 0 0)]) rs):=((m.o.alloc _).drew).pushE a7.o l K ((b9.o.alloc _).drew);have c4:Hd (Mv base B i f (Q (S ⟨g,0,N⟩) (C+1) G) f w (w9.setCell ⟨B,3,N⟩ (Q (S ⟨g,0,N⟩) (C+1) G))):=(c5.o.trans (Mv.alloc m.o.bs _)).drew.trans (((m.o.alloc _).drew).pushMv l a3 (by show(w5.alloc _).heap.size<=_;simp));clear K l a3;go_wp2_with fail;go_ret;exact⟨by rw[<-hR.o];rw[<-a7.o];rfl,_,[((⟨64,p,d,zM s (p+1) T,zb s (p+1) T,[],-1⟩:EX),Q N 0 0)],by rw[<-hR.o];rfl,by rw[<-hR.o];exact c0.o,c4.o,λq hq g hg=>by simp at hq;subst hq;simp[Value.ownBlock]at hg⟩
end
section
attribute [local go_sem] zX zK
theorem zaI(n base B:Nat)(s:ByteArray)(d:Int)(k:Nat)(b:Bool)(f c:Value)(y:List (EX×Value))(rs:List RL)(w:World)(hs:s.size<=2000)(hk:k<=s.size)(_h0:0<=d)(_h1:d<=k)(hl:y.length<=k)(e2:rs.length<=2000)(hc:zg s (zb s k b) b=61)(h:PM w base B s k b f c y rs)(R:CR)(hR:Hd (cE s rs (n+1) d y.length k b=R)):
 Calls E 125 #[.pointer (S ⟨B,0,N⟩),J Z d] w λe w' =>
  e=.returned (J Z R.idx)/\∃ev' new,new.map Prod.fst=R.es/\PM w' base B s R.k R.b ev' c (y++new) rs/\Mv base B f c ev' c w w'/\∀p∈new,∀g,p.2.ownBlock=S g->w.heap.size<=g:=by
 obtain⟨i0,b7,b5,b4,b3⟩:=info_parts infoExpr;have H:Hd _:=h;clear h;go_enter func125,ntmps125;go_wp2_with fail;refine(yl base B s k b f c y rs _ hs hk H.o).mono ?_;rintro e a ⟨rfl,K,hm⟩;have a3:isK (zg s (zb s k b) b)=P:=by rw[hc];rfl
 have e4:zb s k b<s.size:=(Zw a3).2;have e6:k<=zb s k b:=yi s k b;have b9:b=T:=(Zw a3).1;subst b9;rw[Qe n d y.length k T hc]at hR;clear a3;have a7:zg s (zb s k T) T=61:=hc;have a4:=λ(wz:World) (hz:PM wz base B s (zb s k T) T f c y rs)=>xY base B s (zb s k T) T f c y rs wz hz
 rw[a7]at a4;clear a7 hc;generalize zb s k T=p at *;have G:Hd _:=K;have d8:Hd _:=hm;have c1:=K.c1;have r:=K.outNew;have C:=K.bs;have a1:w.heap.size<=a.heap.size:=hm.bel.size;have a9:a.heap.size≠B:=r.1;have e9:B≠a.heap.size:=λe=>r.1 e.symm
 have e8:=K.lt;clear K hm;have b8:=λw=>Xb 61 p d w
 go_wp2_with fail;go_region_held3 (λw'=>w'.cell? ⟨B,1,N⟩=S (J Z p)) (first|(exact c1)|(exact zx c1 _)|(exact zo a9 (zx c1 _) _ _)|go_keep) (first|(go_at_call 127;refine(a4 _ (by first|exact G.o.drew|exact G.o.drew.alloc _|exact G.o.alloc _|exact G.o)).mono ?_;rintro e w' ⟨rfl,q,rfl⟩))
 all_goals
  have X:Hd (PM ((a.alloc (U #[J O 61,J Z p,J Z d,J Z 0,J Z 0,Q N 0 0,J Z (-1)] 148)).drewN (1+q)) base B s p T f c y rs):=(G.o.alloc _).drewN _;have d7:Hd (Mv base B f c f c w ((a.alloc (U #[J O 61,J Z p,J Z d,J Z 0,J Z 0,Q N 0 0,J Z (-1)] 148)).drewN (1+q))):=(d8.o.trans (Mv.alloc C _)).drewN _;have b1:Hd (((a.alloc (U #[J O 61,J Z p,J Z d,J Z 0,J Z 0,Q N 0 0,J Z (-1)] 148)).drewN (1+q)).heap[a.heap.size]?=S (U #[J O 61,J Z p,J Z d,J Z 0,J Z 0,Q N 0 0,J Z (-1)] 148 (0,0))):=heap_alloc_new a _;generalize(a.alloc (U #[J O 61,J Z p,J Z d,J Z 0,J Z 0,Q N 0 0,J Z (-1)] 148)).drewN (1+q)=w2 at *;clear c1 b8;have c1:=X.o.c1;have z1:=X.o.fz 1;have Y:w2.cell? ⟨a.heap.size,0,N⟩=S (J O 61):=by simp[World.cell?,b1.o]
  have a6:=λw=>ZR 61 w
  rw[show isK 61=P from rfl]at a6;go_wp2_with fail;refine(a6 _).mono ?_;rintro e w3 ⟨e1,rfl⟩;subst w3;have d1:Hd (PM (w2.setCell ⟨B,1,N⟩ (J Z ((p:Int)+1))) base B s (p+1) T f c y rs):=X.o.at (p+1) _ ol;have d6:Hd (Mv base B f c f c w (w2.setCell ⟨B,1,N⟩ (J Z ((p:Int)+1)))):=d7.o.trans (X.o.setMv 1 _);have b0:Hd ((w2.setCell ⟨B,1,N⟩ (J Z ((p:Int)+1))).heap[a.heap.size]?=S (U #[J O 61,J Z p,J Z d,J Z 0,J Z 0,Q N 0 0,J Z (-1)] 148 (0,0))):=(za a9).trans b1.o;have e3:(p:Int)<2000:=ol;go_wp2_with fail;clear c1 z1 Y;refine(QJ base B s (p+1) T f c y rs _ hs ol d1.o).mono ?_;rintro e D ⟨rfl,K,hm⟩;have c6:Hd _:=K;have c7:Hd (Mv base B f c f c w D):=(d6.o).trans hm;have i:Hd _:=(hm.kept _ (lt_of_block (b0.o)) r).1.trans (b0.o);clear K hm;generalize hqe:zb s (p+1) T=q1 at *;generalize hve:zg s q1 T=v1 at *;clear hqe hve;have Y:D.cell? ⟨a.heap.size,0,N⟩=S (J O 61):=by simp[World.cell?,i.o]
  have x1:D.cell? ⟨a.heap.size,1,N⟩=S (J Z p):=by simp[World.cell?,i.o]
  have x2:D.cell? ⟨a.heap.size,2,N⟩=S (J Z d):=by simp[World.cell?,i.o]
  have x3:D.cell? ⟨a.heap.size,3,N⟩=S (J Z 0):=by simp[World.cell?,i.o]
  have x4:D.cell? ⟨a.heap.size,4,N⟩=S (J Z 0):=by simp[World.cell?,i.o]
  have x5:D.cell? ⟨a.heap.size,5,N⟩=S (Q N 0 0):=by simp[World.cell?,i.o]
  have x6:D.cell? ⟨a.heap.size,6,N⟩=S (J Z (-1)):=by simp[World.cell?,i.o]
  have xz:∀j,D.frozen? ⟨a.heap.size,j,N⟩=T:=λj=>by simp[World.frozen?,i.o]
  have W:Hd (PM (((D).setCell ⟨a.heap.size,3,N⟩ (J Z v1)).setCell ⟨a.heap.size,4,N⟩ (J Z q1)) base B s (zR s (p+1) T) (zZ s (p+1) T) f c (y) rs):=((c6.o).setE (j:=3) (u:=J Z v1) ⟨_,_,i.o⟩ r.2.1).setE (j:=4) (u:=J Z q1) ⟨_,_,(z9 (j:=3) (u:=J Z v1) (i.o))⟩ r.2.1;have d5:Hd (Mv base B f c f c w (((D).setCell ⟨a.heap.size,3,N⟩ (J Z v1)).setCell ⟨a.heap.size,4,N⟩ (J Z q1))):=((c7.o).setNew (j:=3) a1 C (J Z v1)).setNew (j:=4) a1 C (J Z q1);have m:Hd ((((D).setCell ⟨a.heap.size,3,N⟩ (J Z v1)).setCell ⟨a.heap.size,4,N⟩ (J Z q1)).heap[a.heap.size]?=S (U #[J O 61,J Z p,J Z d,J Z v1,J Z q1,Q N 0 0,J Z (-1)] 148 (0,0))):=(z9 (j:=4) (u:=J Z q1) ((z9 (j:=3) (u:=J Z v1) (i.o))));go_wp2_with fail;generalize((D).setCell ⟨a.heap.size,3,N⟩ (J Z v1)).setCell ⟨a.heap.size,4,N⟩ (J Z q1)=wq at *;clear Y x1 x2 x3 x4 x5 x6 xz;have Y:wq.cell? ⟨a.heap.size,0,N⟩=S (J O 61):=by simp[World.cell?,m.o]
  have x1:wq.cell? ⟨a.heap.size,1,N⟩=S (J Z p):=by simp[World.cell?,m.o]
  have x2:wq.cell? ⟨a.heap.size,2,N⟩=S (J Z d):=by simp[World.cell?,m.o]
  have x3:wq.cell? ⟨a.heap.size,3,N⟩=S (J Z v1):=by simp[World.cell?,m.o]
  have x4:wq.cell? ⟨a.heap.size,4,N⟩=S (J Z q1):=by simp[World.cell?,m.o]
  have x5:wq.cell? ⟨a.heap.size,5,N⟩=S (Q N 0 0):=by simp[World.cell?,m.o]
  have x6:wq.cell? ⟨a.heap.size,6,N⟩=S (J Z (-1)):=by simp[World.cell?,m.o]
  have xz:∀j,wq.frozen? ⟨a.heap.size,j,N⟩=T:=λj=>by simp[World.frozen?,m.o]
  have c4:=W.o.c4;have a2:a.heap.size<wq.heap.size:=lt_of_block m.o;have b6:∀wz:World,Below wq.heap.size wq wz->Calls E 88 #[c,J Z v1] wz λe w'=>Below wz.heap.size wz w'/\e=.returned (J Z (yr v1 rs)):=λwz hz=>QH c v1 rs wz ol (W.o.below hz).rvs
  go_region_with (go_at_call 88;refine(b6 _ ?_).mono ?_;exact(Below.refl _ _).drew;rintro e A ⟨F,rfl⟩;have f6:=(F.cell (p:=⟨a.heap.size,6,N⟩) a2).trans x6;have f7:=(F.frozen (p:=⟨a.heap.size,6,N⟩) a2).trans (xz 6))
  all_goals
   have d0:Hd (PM A base B s (zR s (p+1) T) (zZ s (p+1) T) f c y rs):=W.o.drew.below F;have d3:Hd (Mv base B f c f c w A):=d5.o.drew.trans (Mv.of_below F W.o.drew.bs);have l:Hd _:=(F.block _ a2).trans m.o;clear F f6 f7;generalize hnr:yr v1 rs=nr at *;clear hnr;clear Y x1 x2 x3 x4 x5 x6 xz;have Y:A.cell? ⟨a.heap.size,0,N⟩=S (J O 61):=(by simp[World.cell?,l.o]);have x1:A.cell? ⟨a.heap.size,1,N⟩=S (J Z p):=(by simp[World.cell?,l.o]);have x2:A.cell? ⟨a.heap.size,2,N⟩=S (J Z d):=(by simp[World.cell?,l.o]);have x3:A.cell? ⟨a.heap.size,3,N⟩=S (J Z v1):=(by simp[World.cell?,l.o]);have x4:A.cell? ⟨a.heap.size,4,N⟩=S (J Z q1):=(by simp[World.cell?,l.o]);have x5:A.cell? ⟨a.heap.size,5,N⟩=S (Q N 0 0):=(by simp[World.cell?,l.o]);have x6:A.cell? ⟨a.heap.size,6,N⟩=S (J Z (-1)):=(by simp[World.cell?,l.o]);have xz:∀j,A.frozen? ⟨a.heap.size,j,N⟩=T:=λj=>by simp[World.frozen?,l.o]
   have x:Hd (PM ((A).setCell ⟨a.heap.size,6,N⟩ (J Z nr)) base B s (zR s (p+1) T) (zZ s (p+1) T) f c (y) rs):=(d0.o).setE (j:=6) (u:=J Z nr) ⟨_,_,l.o⟩ r.2.1;have d4:Hd (Mv base B f c f c w ((A).setCell ⟨a.heap.size,6,N⟩ (J Z nr))):=(d3.o).setNew (j:=6) a1 C (J Z nr);have z:Hd (((A).setCell ⟨a.heap.size,6,N⟩ (J Z nr)).heap[a.heap.size]?=S (U #[J O 61,J Z p,J Z d,J Z v1,J Z q1,Q N 0 0,J Z nr] 148 (0,0))):=(z9 (j:=6) (u:=J Z nr) (l.o));have c8:Hd (((A).setCell ⟨a.heap.size,6,N⟩ (J Z nr)).ownsRow base 155 7 (Q N 0 0) ((⟨61,p,d,v1,q1,[],nr⟩:EX)).items.length (imC ((⟨61,p,d,v1,q1,[],nr⟩:EX)).items)):=⟨rfl,.inl ⟨rfl,rfl⟩⟩;go_wp2_with fail;generalize(A).setCell ⟨a.heap.size,6,N⟩ (J Z nr)=w5 at *;clear Y x1 x2 x3 x4 x5 x6 xz;have Y:w5.cell? ⟨a.heap.size,0,N⟩=S (J O 61):=(by simp[World.cell?,z.o]);have x1:w5.cell? ⟨a.heap.size,1,N⟩=S (J Z p):=(by simp[World.cell?,z.o]);have x2:w5.cell? ⟨a.heap.size,2,N⟩=S (J Z d):=(by simp[World.cell?,z.o]);have x3:w5.cell? ⟨a.heap.size,3,N⟩=S (J Z v1):=(by simp[World.cell?,z.o]);have x4:w5.cell? ⟨a.heap.size,4,N⟩=S (J Z q1):=(by simp[World.cell?,z.o]);have x5:w5.cell? ⟨a.heap.size,5,N⟩=S (Q N 0 0):=(by simp[World.cell?,z.o]);have x6:w5.cell? ⟨a.heap.size,6,N⟩=S (J Z nr):=(by simp[World.cell?,z.o]);have c3:=x.o.c3;have f0:=x.o.lt;have e7:a.heap.size<w5.heap.size:=lt_of_block z.o;have z3:=x.o.fz 3;obtain⟨I,L⟩:∃I,I=(y).length:=⟨_,rfl⟩;have b2:Hd _:=L;have d9:Hd (w5.ownsRow base 148 7 f I (exC (y))):=(by show World.ownsRow _ _ _ _ _ _ _;rw[L];exact x.o.ex);have e5:(I:Int)<5000:=(by rw[L];omega);clear L;have c5:Hd (I+1<=maxLen):=sx;have c2:Hd ((I+1)*72<=140737488355328):=oz;have c0:Hd (∀o:Obj,base<=(w5.alloc o).drew.heap.size):=λo=>by have:=x.o.bs;show base<=(w5.alloc o).heap.size;simp;omega
   have a5:Hd (∀u∈exV ((⟨61,p,d,v1,q1,[],nr⟩:EX),Q N 0 0),u.oneCell'=P):=λu hu=>by simp[exV]at hu;rcases hu with rfl|rfl|rfl|rfl|rfl|rfl|rfl<;>first|rfl|exact HV1.o
   go_region_law ((refine step_append_lies _ (by rfl) _ _ _ (by rfl) base 148 i0 _ 7 72 underlying71 b7 b5 b4 b3 rfl oq f _ _ (by rfl) ((d9.o.alloc _).drew) ⟨w5.heap.size,0,N⟩ 1 1 (exV ((⟨61,p,d,v1,q1,[],nr⟩:EX),Q N 0 0)) (by rfl) (by rfl) (World.news_of_block (cs:=#[J O 61,J Z p,J Z d,J Z v1,J Z q1,Q N 0 0,J Z nr]) (t:=148) (fr:=(0,0)) (heap_alloc_new w5 _)) a5.o (Nat.lt_succ_self 0) c5.o c2.o (c0.o _) (w5.heap.size+1) ot ?_;intro g V w9 a0 v a8 e0;obtain⟨y3,yz⟩:=x.o.grown3 v))
   all_goals
    have c9:Hd (PM (w9.setCell ⟨B,3,N⟩ (Q (S ⟨g,0,N⟩) (I+1) V)) base B s (zR s (p+1) T) (zZ s (p+1) T) (Q (S ⟨g,0,N⟩) (I+1) V) c (y++[((⟨61,p,d,v1,q1,[],nr⟩:EX),Q N 0 0)]) rs):=((x.o.alloc _).drew).pushE b2.o v a0 ((c8.o.alloc _).drew);have d2:Hd (Mv base B f c (Q (S ⟨g,0,N⟩) (I+1) V) c w (w9.setCell ⟨B,3,N⟩ (Q (S ⟨g,0,N⟩) (I+1) V))):=(d4.o.trans (Mv.alloc x.o.bs _)).drew.trans (((x.o.alloc _).drew).pushMv v a8 (by show(w5.alloc _).heap.size<=_;simp));clear a0 v a8;go_wp2_with fail;go_ret;exact⟨by rw[<-hR.o];rw[<-b2.o];rfl,_,[((⟨61,p,d,v1,q1,[],nr⟩:EX),Q N 0 0)],by rw[<-hR.o];rfl,by rw[<-hR.o];exact c9.o,d2.o,λq hq g hg=>by simp at hq;subst hq;simp[Value.ownBlock]at hg⟩
end
section
attribute [local go_sem] zX zK
theorem Q3(n base B:Nat)(s:ByteArray)(d:Int)(k:Nat)(b:Bool)(G i:Value)(z:List (EX×Value))(rs:List RL)(w:World)(hX:xG (cE s rs n) s base B rs n)(hn:s.size-k<n+1)(hs:s.size<=2000)(hk:k<=s.size)(h0:0<=d)(h1:d<=k)(hl:z.length<=k)(_hrl:rs.length<=2000)(hc:zg s (zb s k b) b=123)(h:PM w base B s k b G i z rs)(R:CR)(hR:Hd (cE s rs (n+1) d z.length k b=R)):
 Calls E 125 #[.pointer (S ⟨B,0,N⟩),J Z d] w λe w' =>
  e=.returned (J Z R.idx)/\∃ev' new,new.map Prod.fst=R.es/\PM w' base B s R.k R.b ev' i (z++new) rs/\Mv base B G i ev' i w w'/\∀p∈new,∀g,p.2.ownBlock=S g->w.heap.size<=g:=by
 obtain⟨i0,d6,d3,d2,d1⟩:=info_parts infoExpr;have H:Hd _:=h;clear h;go_enter func125,ntmps125;go_wp2_with fail;refine(yl base B s k b G i z rs _ hs hk H.o).mono ?_;rintro e a ⟨rfl,I,X⟩;have a8:isK (zg s (zb s k b) b)=P:=by rw[hc];rfl
 have g1:zb s k b<s.size:=(Zw a8).2;have g4:k<=zb s k b:=yi s k b;have d8:b=T:=(Zw a8).1;subst d8;rw[Y7 n d z.length k T hc]at hR;clear a8;have b8:zg s (zb s k T) T=123:=hc;have b2:=λ(wz:World) (hz:PM wz base B s (zb s k T) T G i z rs)=>xY base B s (zb s k T) T G i z rs wz hz
 rw[b8]at b2;clear b8 hc;generalize zb s k T=p at *;have a3:Hd _:=I;have f5:Hd _:=X;have c1:=I.c1;have L:=I.outNew;have a7:=I.bs;have d4:w.heap.size<=a.heap.size:=X.bel.size;have c0:a.heap.size≠B:=L.1;have g7:B≠a.heap.size:=λe=>L.1 e.symm
 have g6:=I.lt;clear I X;have d7:=λw=>Xb 123 p d w
 go_wp2_with fail;go_region_held3 (λw'=>w'.cell? ⟨B,1,N⟩=S (J Z p)) (first|(exact c1)|(exact zx c1 _)|(exact zo c0 (zx c1 _) _ _)|go_keep) (first|(go_at_call 127;refine(b2 _ (by first|exact a3.o.drew|exact a3.o.drew.alloc _|exact a3.o.alloc _|exact a3.o)).mono ?_;rintro e w' ⟨rfl,q,rfl⟩))
 all_goals
  have a5:Hd (PM ((a.alloc (U #[J O 123,J Z p,J Z d,J Z 0,J Z 0,Q N 0 0,J Z (-1)] 148)).drewN (1+q)) base B s p T G i z rs):=(a3.o.alloc _).drewN _;have f4:Hd (Mv base B G i G i w ((a.alloc (U #[J O 123,J Z p,J Z d,J Z 0,J Z 0,Q N 0 0,J Z (-1)] 148)).drewN (1+q))):=(f5.o.trans (Mv.alloc a7 _)).drewN _;have c2:Hd (((a.alloc (U #[J O 123,J Z p,J Z d,J Z 0,J Z 0,Q N 0 0,J Z (-1)] 148)).drewN (1+q)).heap[a.heap.size]?=S (U #[J O 123,J Z p,J Z d,J Z 0,J Z 0,Q N 0 0,J Z (-1)] 148 (0,0))):=heap_alloc_new a _;generalize(a.alloc (U #[J O 123,J Z p,J Z d,J Z 0,J Z 0,Q N 0 0,J Z (-1)] 148)).drewN (1+q)=w2 at *;clear c1 d7;have c1:=a5.o.c1;have z1:=a5.o.fz 1;have x0:w2.cell? ⟨a.heap.size,0,N⟩=S (J O 123):=by simp[World.cell?,c2.o]
  have b6:=λw=>ZR 123 w
  rw[show isK 123=P from rfl]at b6;go_wp2_with fail;refine(b6 _).mono ?_;rintro e w3 ⟨f9,rfl⟩;subst w3;have e9:Hd (PM (w2.setCell ⟨B,1,N⟩ (J Z ((p:Int)+1))) base B s (p+1) T G i z rs):=a5.o.at (p+1) _ ol;have b0:Hd (Mv base B G i G i w (w2.setCell ⟨B,1,N⟩ (J Z ((p:Int)+1)))):=f4.o.trans (a5.o.setMv 1 _);have a9:Hd ((w2.setCell ⟨B,1,N⟩ (J Z ((p:Int)+1))).heap[a.heap.size]?=S (U #[J O 123,J Z p,J Z d,J Z 0,J Z 0,Q N 0 0,J Z (-1)] 148 (0,0))):=(za c0).trans c2.o;have g0:(p:Int)<2000:=ol;go_wp2_with fail;clear c1 z1 x0;have d5:=zP (yT s rs n) 123 d (s.size+1-(p+1)) z.length (p+1) T ol;generalize hl0:ze (cE s rs n) s 123 d (s.size+1-(p+1)) z.length (p+1) T=l at *;generalize hk3:zc s 125 l.k l.b=k3 at *;generalize hq3:zk s 125 l.k l.b=b3 at *;refine(jj (cE s rs n) base B s 123 d (p+1) (T) G i z rs _ n hX (yT s rs n) (xB s rs n) h0 ol ol (.inr ol) hs ol (.inl rfl) e9.o l hl0).mono ?_;rintro e W ⟨v,C,new,rfl,a1,I,X,b7,a0,b1⟩;obtain⟨m,r,x,rfl⟩:∃m r x,v=Q m r x:=by
   rcases a0.2 with⟨rfl,_⟩|⟨g,a2,cur,rfl,_⟩
   ·exact⟨N,0,0,rfl⟩
   ·exact⟨_,_,_,rfl⟩
  have b5:Hd (new.length=l.es.length):=by show _=_;rw[<-a1,List.length_map]
  have f6:Hd (∀p∈new,∀g,p.2.ownBlock=S g->w.heap.size<=g):=λp I g hg=>Nat.le_trans b0.o.bel.size (b7 p I g hg)
  have e4:Hd (∀g,(Q m r x).ownBlock=S g->w.heap.size<=g):=λg hg=>Nat.le_trans b0.o.bel.size (b1 g hg).1
  have f0:Hd _:=a1;have e6:Hd ((Q m r x).oneCell'=P):=rfl;have c8:Hd _:=a0;clear b7 a1 b1 a0;have e2:Hd _:=I;have e3:Hd (Mv base B G i C i w W):=(b0.o).trans X;have y:Hd _:=(X.kept _ (lt_of_block (a9.o)) L).1.trans (a9.o);have c5:Hd (Out B C i a.heap.size):=(X.kept _ (lt_of_block (a9.o)) L).2;clear I X;have x0:W.cell? ⟨a.heap.size,0,N⟩=S (J O 123):=by simp[World.cell?,y.o]
  have x1:W.cell? ⟨a.heap.size,1,N⟩=S (J Z p):=by simp[World.cell?,y.o]
  have x2:W.cell? ⟨a.heap.size,2,N⟩=S (J Z d):=by simp[World.cell?,y.o]
  have x3:W.cell? ⟨a.heap.size,3,N⟩=S (J Z 0):=by simp[World.cell?,y.o]
  have x4:W.cell? ⟨a.heap.size,4,N⟩=S (J Z 0):=by simp[World.cell?,y.o]
  have x5:W.cell? ⟨a.heap.size,5,N⟩=S (Q N 0 0):=by simp[World.cell?,y.o]
  have x6:W.cell? ⟨a.heap.size,6,N⟩=S (J Z (-1)):=by simp[World.cell?,y.o]
  have xz:∀j,W.frozen? ⟨a.heap.size,j,N⟩=T:=λj=>by simp[World.frozen?,y.o]
  have c9:Hd (PM ((W).setCell ⟨a.heap.size,5,N⟩ (Q m r x)) base B s (l.k) (l.b) C i (z++new) rs):=(e2.o).setE (j:=5) (u:=Q m r x) ⟨_,_,y.o⟩ c5.o.2.1;have f2:Hd (Mv base B G i C i w ((W).setCell ⟨a.heap.size,5,N⟩ (Q m r x))):=(e3.o).setNew (j:=5) d4 a7 (Q m r x);have c7:Hd (((W).setCell ⟨a.heap.size,5,N⟩ (Q m r x)).heap[a.heap.size]?=S (U #[J O 123,J Z p,J Z d,J Z 0,J Z 0,Q m r x,J Z (-1)] 148 (0,0))):=(z9 (j:=5) (u:=Q m r x) (y.o));have K:Hd (((W).setCell ⟨a.heap.size,5,N⟩ (Q m r x)).ownsRow base 155 7 (Q m r x) l.ims.length (imC l.ims)):=ownsRow_setCell_other (c8.o) (zi (c8.o) (y.o) oq) (Q m r x);go_wp2_with fail;refine(yW base B s 125 (l.k) (l.b) C i (z++new) rs _ hs d5.2.1 oq c9.o).mono ?_;rintro e f ⟨rfl,I,X⟩;rw[hk3,hq3]at I;have c4:Hd _:=I;have c6:Hd (Mv base B G i C i w f):=(f2.o).trans X;have c:Hd _:=(X.kept _ (lt_of_block (c7.o)) c5.o).1.trans (c7.o);have V:Hd (f.ownsRow base 155 7 (Q m r x) l.ims.length (imC l.ims)):=zd (K.o) (λg hg=>(X.kept g ((K.o).lt g hg).2 ((c9.o).outI (K.o) hg)).1);clear I X;clear x0 x1 x2 x3 x4 x5 x6 xz;have x0:f.cell? ⟨a.heap.size,0,N⟩=S (J O 123):=by simp[World.cell?,c.o]
  have x1:f.cell? ⟨a.heap.size,1,N⟩=S (J Z p):=by simp[World.cell?,c.o]
  have x2:f.cell? ⟨a.heap.size,2,N⟩=S (J Z d):=by simp[World.cell?,c.o]
  have x3:f.cell? ⟨a.heap.size,3,N⟩=S (J Z 0):=by simp[World.cell?,c.o]
  have x4:f.cell? ⟨a.heap.size,4,N⟩=S (J Z 0):=by simp[World.cell?,c.o]
  have x5:f.cell? ⟨a.heap.size,5,N⟩=S (Q m r x):=by simp[World.cell?,c.o]
  have x6:f.cell? ⟨a.heap.size,6,N⟩=S (J Z (-1)):=by simp[World.cell?,c.o]
  have xz:∀j,f.frozen? ⟨a.heap.size,j,N⟩=T:=λj=>by simp[World.frozen?,c.o]
  have g3:=b5.o;have D:Hd (PM (f) base B s (k3) (b3) C i (z++new) rs):=c4.o;have f3:Hd _:=c6.o;have F:Hd _:=c.o;have e7:Hd _:=V.o;have e5:Hd ((f).ownsRow base 155 7 (Q m r x) ((⟨123,p,d,0,0,l.ims,-1⟩:EX)).items.length (imC ((⟨123,p,d,0,0,l.ims,-1⟩:EX)).items)):=V.o;go_wp2_with fail;generalize f=w5 at *;clear x0 x1 x2 x3 x4 x5 x6 xz;have x0:w5.cell? ⟨a.heap.size,0,N⟩=S (J O 123):=by simp[World.cell?,F.o]
  have x1:w5.cell? ⟨a.heap.size,1,N⟩=S (J Z p):=by simp[World.cell?,F.o]
  have x2:w5.cell? ⟨a.heap.size,2,N⟩=S (J Z d):=by simp[World.cell?,F.o]
  have x3:w5.cell? ⟨a.heap.size,3,N⟩=S (J Z 0):=by simp[World.cell?,F.o]
  have x4:w5.cell? ⟨a.heap.size,4,N⟩=S (J Z 0):=by simp[World.cell?,F.o]
  have x5:w5.cell? ⟨a.heap.size,5,N⟩=S (Q m r x):=by simp[World.cell?,F.o]
  have x6:w5.cell? ⟨a.heap.size,6,N⟩=S (J Z (-1)):=by simp[World.cell?,F.o]
  have c3:=D.o.c3;have g8:=D.o.lt;have g5:a.heap.size<w5.heap.size:=lt_of_block F.o;have z3:=D.o.fz 3;obtain⟨Y,a4⟩:∃Y,Y=(z++new).length:=⟨_,rfl⟩;have d0:Hd (Y=(z++new).length):=a4;have f7:Hd (w5.ownsRow base 148 7 C Y (exC (z++new))):=by show World.ownsRow _ _ _ _ _ _ _;rw[a4];exact D.o.ex
  have g2:(Y:Int)<5000:=by rw[a4];simp only[List.length_append];omega
  clear a4;have e1:Hd (Y+1<=maxLen):=sx;have e0:Hd ((Y+1)*72<=140737488355328):=oz;have d9:Hd (∀o:Obj,base<=(w5.alloc o).drew.heap.size):=λo=>by have:=D.o.bs;show base<=(w5.alloc o).heap.size;simp;omega
  have b4:Hd (∀u∈exV ((⟨123,p,d,0,0,l.ims,-1⟩:EX),Q m r x),u.oneCell'=P):=λu hu=>by simp[exV]at hu;rcases hu with rfl|rfl|rfl|rfl|rfl|rfl|rfl<;>first|rfl|exact e6.o
  go_region_law ((refine step_append_lies _ (by rfl) _ _ _ (by rfl) base 148 i0 _ 7 72 underlying71 d6 d3 d2 d1 rfl oq C _ _ (by rfl) ((f7.o.alloc _).drew) ⟨w5.heap.size,0,N⟩ 1 1 (exV ((⟨123,p,d,0,0,l.ims,-1⟩:EX),Q m r x)) (by rfl) (by rfl) (World.news_of_block (cs:=#[J O 123,J Z p,J Z d,J Z 0,J Z 0,Q m r x,J Z (-1)]) (t:=148) (fr:=(0,0)) (heap_alloc_new w5 _)) b4.o (Nat.lt_succ_self 0) e1.o e0.o (d9.o _) (w5.heap.size+1) ot ?_;intro g a2 w9 a6 A b9 f8;obtain⟨y3,yz⟩:=D.o.grown3 A))
  all_goals
   have e8:Hd (PM (w9.setCell ⟨B,3,N⟩ (Q (S ⟨g,0,N⟩) (Y+1) a2)) base B s (k3) (b3) (Q (S ⟨g,0,N⟩) (Y+1) a2) i (z++new++[((⟨123,p,d,0,0,l.ims,-1⟩:EX),Q m r x)]) rs):=((D.o.alloc _).drew).pushE d0.o A a6 ((e5.o.alloc _).drew);have f1:Hd (Mv base B G i (Q (S ⟨g,0,N⟩) (Y+1) a2) i w (w9.setCell ⟨B,3,N⟩ (Q (S ⟨g,0,N⟩) (Y+1) a2))):=(f3.o.trans (Mv.alloc D.o.bs _)).drew.trans (((D.o.alloc _).drew).pushMv A b9 (by show(w5.alloc _).heap.size<=_;simp));clear a6 A b9;go_wp2_with fail;go_ret;exact⟨by rw[<-hR.o];show _=Ending.returned (J Z ((z.length+l.es.length:Nat):Int));rw[<-b5.o,<-List.length_append,<-d0.o];rfl,_,new++[((⟨123,p,d,0,0,l.ims,-1⟩:EX),Q m r x)],by rw[<-hR.o];rw[List.map_append,f0.o];rfl,by rw[<-hR.o,<-List.append_assoc];exact e8.o,f1.o,λq hq g hg=>by
    rcases List.mem_append.1 hq with hq|hq
    ·exact f6.o q hq g hg
    ·simp at hq;subst hq;exact e4.o g hg⟩
end
end Go.Proofs.YtaebngpoagjafabGreat
