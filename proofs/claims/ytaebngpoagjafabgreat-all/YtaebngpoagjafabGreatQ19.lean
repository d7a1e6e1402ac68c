import Derived.Test.YtaebngpoagjafabGreatQ15
set_option maxRecDepth 100000
set_option maxHeartbeats 1600000
namespace Go.Proofs.YtaebngpoagjafabGreat
open Option renaming some → N,none → S
open Bool renaming false → T,true → P
open Proofs.Tryz renaming prog → E
open Proofs.Tryz
open Obj renaming cells → X
open Value renaming int → J, slice → Q
open IntKind renaming i64 → Z, u8 → O
open Go.RowKit
attribute [local go_sem ↓] Go.wp_at_zero Go.wp_at_succ
section
def xy(c:Int)(x:IM)(f:Int×Int):Int×Int :=
 if c=123\/c=102 then YZ f x.num x.at_ 0 63
 else if c=119 then YZ (YZ f x.num x.at_ 0 63) x.wv x.wa 1 1000
 else if c=103 then YZ f x.num x.at_ 0 99
 else f
def qO(e:EX)(f:Int×Int):Int×Int :=
 let f1:=if 12<=e.depth then fnd f 3 e.at_ else f
 if e.kind=116 then YZ f1 e.nv e.na 1 86400
 else if e.kind=64 then YZ f1 e.nv e.na 0 15
 else if e.kind=61 then(if e.inner=-1 then fnd f1 5 e.na else f1)
 else f1
attribute [local go_sem] zX zK
theorem xW(F:Nat)(f:Int×Int)(c:Int)(x:IM)(w:World)(h:FM w F f)(f':Int×Int)(k:Hd (xy c x f=f')):
 Calls E 130 #[.pointer (N ⟨F,0,S⟩),J O c,.agg #[J Z x.at_,J Z x.num,J Z x.pv,J Z x.pl,J Z x.wv,J Z x.wa,J Z x.arm]] w λe w'=>e=.returned (.tuple #[])/\FM w' F f'/\FK F w w':=by
 have H:Hd (FM ((w.alloc (X #[J Z x.at_,J Z x.num,J Z x.pv,J Z x.pl,J Z x.wv,J Z x.wa,J Z x.arm] 155)).alloc (X #[J Z x.num,J Z x.at_] 141)) F f):=(h.alloc _).alloc _;have l:Hd (FK F w ((w.alloc (X #[J Z x.at_,J Z x.num,J Z x.pv,J Z x.pl,J Z x.wv,J Z x.wa,J Z x.arm] 155)).alloc (X #[J Z x.num,J Z x.at_] 141))):=((FK.refl _ _).alloc (Nat.le_of_lt h.lt) _).alloc (by have:=h.lt;simp;omega) _;have r:=λw=>js x.num x.at_ w
 have s:=h.lt;have p:w.heap.size≠F:=ol;have u:Hd (((w.alloc (X #[J Z x.at_,J Z x.num,J Z x.pv,J Z x.pl,J Z x.wv,J Z x.wa,J Z x.arm] 155)).alloc (X #[J Z x.num,J Z x.at_] 141)).heap[w.heap.size]?=N (X #[J Z x.at_,J Z x.num,J Z x.pv,J Z x.pl,J Z x.wv,J Z x.wa,J Z x.arm] 155 (0,0))):=(Below.heap_alloc _ _ _ ot).trans (heap_alloc_new w _);clear h;by_cases n:c=123
 ·subst n;have d:Hd _:=k;go_enter func130,ntmps130;go_wp2_with fail;refine(yp F f x.num x.at_ 0 63 _ H.o f' d).mono ?_;rintro e j ⟨rfl,a,b⟩;go_wp2_with fail;go_end0
  exact⟨rfl,a,l.o.trans b⟩
 by_cases a:c=102
 ·subst a;have d:Hd _:=k;go_enter func130,ntmps130;go_wp2_with fail;refine(yp F f x.num x.at_ 0 63 _ H.o f' d).mono ?_;rintro e j ⟨rfl,a,b⟩;go_wp2_with fail;go_end0
  exact⟨rfl,a,l.o.trans b⟩
 by_cases i:c=103
 ·subst i;have d:Hd _:=k;go_enter func130,ntmps130;go_wp2_with fail;refine(yp F f x.num x.at_ 0 99 _ H.o f' d).mono ?_;rintro e j ⟨rfl,a,b⟩;go_wp2_with fail;go_end0
  exact⟨rfl,a,l.o.trans b⟩
 by_cases m:c=119
 ·subst m;have d:Hd _:=k;go_enter func130,ntmps130;go_wp2_with fail;refine(yp F f x.num x.at_ 0 63 _ H.o _ rfl).mono ?_;rintro e j ⟨rfl,a,b⟩;have v:Hd _:=a;have t:Hd _:=l.o.trans b;have g:=(b.kept w.heap.size ow p).trans u.o;have z:j.cell? ⟨w.heap.size,4,S⟩=N (J Z x.wv):=by simp[World.cell?,g]
  have y:j.cell? ⟨w.heap.size,5,S⟩=N (J Z x.wa):=by simp[World.cell?,g]
  clear a b g;go_wp2_with fail;refine(yp F _ x.wv x.wa 1 1000 _ v.o f' d).mono ?_;rintro e A ⟨rfl,i,q⟩;go_wp2_with fail;go_end0
  exact⟨rfl,i,t.o.trans q⟩
 have G:(c==123)=T:=by simp[n]
 have D:(c==102)=T:=by simp[a]
 have C:(c==103)=T:=by simp[i]
 have B:(c==119)=T:=by simp[m]
 have d:Hd (f=f'):=by show _=_;rw[<-k.o];simp[xy,n,a,i,m]
 clear n a i m;go_enter func130,ntmps130;go_wp2_with fail;go_end0
 exact⟨rfl,by rw[<-d.o];exact H.o,l.o⟩
theorem zcB(F:Nat)(f:Int×Int)(e:EX)(u:Option Addr)(vm v:Nat)(w:World)(h:FM w F f)(f':Int×Int)(I:Hd (qO e f=f')):
 Calls E 90 #[.pointer (N ⟨F,0,S⟩),.agg #[J O e.kind,J Z e.at_,J Z e.depth,J Z e.nv,J Z e.na,Q u vm v,J Z e.inner]] w λr w'=>r=.returned (.tuple #[])/\FM w' F f'/\FK F w w':=by
 have H:Hd (FM (w.alloc (X #[J O e.kind,J Z e.at_,J Z e.depth,J Z e.nv,J Z e.na,Q u vm v,J Z e.inner] 148)) F f):=h.alloc _;have s:Hd (FK F w (w.alloc (X #[J O e.kind,J Z e.at_,J Z e.depth,J Z e.nv,J Z e.na,Q u vm v,J Z e.inner] 148))):=(FK.refl _ _).alloc (Nat.le_of_lt h.lt) _;have V:Hd ((w.alloc (X #[J O e.kind,J Z e.at_,J Z e.depth,J Z e.nv,J Z e.na,Q u vm v,J Z e.inner] 148)).heap[w.heap.size]?=N (X #[J O e.kind,J Z e.at_,J Z e.depth,J Z e.nv,J Z e.na,Q u vm v,J Z e.inner] 148 (0,0))):=heap_alloc_new w _;have U:=h.lt;have B:w.heap.size≠F:=ol;clear h;by_cases K:12<=e.depth
 ·obtain⟨i,n⟩:∃i,fnd f 3 e.at_=i:=⟨_,rfl⟩;have d:Hd ((if e.kind=116 then YZ i e.nv e.na 1 86400 else if e.kind=64 then YZ i e.nv e.na 0 15 else if e.kind=61 then(if e.inner=-1 then fnd i 5 e.na else i)else i)=f'):=by show _=_;rw[<-I.o,<-n];simp[qO,K]
  have G:Hd _:=n;clear n;go_enter func90,ntmps90;go_wp2_with fail;refine(Zg F f 3 e.at_ _ H.o i G).mono ?_;rintro r z ⟨rfl,L,A⟩;have y:Hd _:=L;have x:Hd _:=s.o.trans A;have l:=(A.kept w.heap.size ot B).trans V.o;clear L A;have x0:z.cell? ⟨w.heap.size,0,S⟩=N (J O e.kind):=by simp[World.cell?,l]
  have x3:z.cell? ⟨w.heap.size,3,S⟩=N (J Z e.nv):=by simp[World.cell?,l]
  have Y:z.cell? ⟨w.heap.size,4,S⟩=N (J Z e.na):=by simp[World.cell?,l]
  have W:z.cell? ⟨w.heap.size,6,S⟩=N (J Z e.inner):=by simp[World.cell?,l]
  clear l;by_cases a:e.kind=116
  ·have g:Hd (YZ i e.nv e.na 1 86400=f'):=(by show _=_;rw[<-d.o];simp[a]);have q:(e.kind==116)=P:=(by simp[a]);have p:(e.kind==64)=T:=(by simp[a]);clear a;go_wp2_with fail;refine(yp F i e.nv e.na 1 86400 _ y.o f' g).mono ?_;rintro r t ⟨rfl,m,k⟩;go_wp2_with fail;go_end0
   exact⟨rfl,m,x.o.trans k⟩
  by_cases c:e.kind=64
  ·have g:Hd (YZ i e.nv e.na 0 15=f'):=(by show _=_;rw[<-d.o];simp[c]);have q:(e.kind==116)=T:=(by simp[c]);have p:(e.kind==64)=P:=(by simp[c]);clear c;go_wp2_with fail;refine(yp F i e.nv e.na 0 15 _ y.o f' g).mono ?_;rintro r t ⟨rfl,m,k⟩;go_wp2_with fail;go_end0
   exact⟨rfl,m,x.o.trans k⟩
  by_cases b:e.kind=61
  ·have q:(e.kind==116)=T:=(by simp[b]);have p:(e.kind==64)=T:=(by simp[b]);have D:(e.kind==61)=P:=(by simp[b]);by_cases j:e.inner=-1
   ·have g:Hd (fnd i 5 e.na=f'):=(by show _=_;rw[<-d.o];simp[b,j]);have C:(e.inner==-1)=P:=(by simp[j]);clear j b;go_wp2_with fail;refine(Zg F i 5 e.na _ y.o f' g).mono ?_;rintro r t ⟨rfl,m,k⟩;go_wp2_with fail;go_end0
    exact⟨rfl,m,x.o.trans k⟩
   ·have g:Hd (i=f'):=(by show _=_;rw[<-d.o];simp[b,j]);have C:(e.inner==-1)=T:=(by simp[j]);clear j b;go_wp2_with fail;go_end0
    exact⟨rfl,by rw[<-g.o];exact y.o,x.o⟩
  have q:(e.kind==116)=T:=by simp[a]
  have p:(e.kind==64)=T:=by simp[c]
  have D:(e.kind==61)=T:=by simp[b]
  have g:Hd (i=f'):=by show _=_;rw[<-d.o];simp[b,c,a]
  clear b c a;go_wp2_with fail;go_end0
  exact⟨rfl,by rw[<-g.o];exact y.o,x.o⟩
 ·have R:e.depth<12:=by omega
  have d:Hd ((if e.kind=116 then YZ f e.nv e.na 1 86400 else if e.kind=64 then YZ f e.nv e.na 0 15 else if e.kind=61 then(if e.inner=-1 then fnd f 5 e.na else f)else f)=f'):=by show _=_;rw[<-I.o];simp[qO,K]
  by_cases a:e.kind=116
  ·have g:Hd (YZ f e.nv e.na 1 86400=f'):=(by show _=_;rw[<-d.o];simp[a]);have q:(e.kind==116)=P:=(by simp[a]);have p:(e.kind==64)=T:=(by simp[a]);clear a;go_enter func90,ntmps90;go_wp2_with fail;refine(yp F f e.nv e.na 1 86400 _ H.o f' g).mono ?_;rintro r t ⟨rfl,m,k⟩;go_wp2_with fail;go_end0
   exact⟨rfl,m,s.o.trans k⟩
  by_cases c:e.kind=64
  ·have g:Hd (YZ f e.nv e.na 0 15=f'):=(by show _=_;rw[<-d.o];simp[c]);have q:(e.kind==116)=T:=(by simp[c]);have p:(e.kind==64)=P:=(by simp[c]);clear c;go_enter func90,ntmps90;go_wp2_with fail;refine(yp F f e.nv e.na 0 15 _ H.o f' g).mono ?_;rintro r t ⟨rfl,m,k⟩;go_wp2_with fail;go_end0
   exact⟨rfl,m,s.o.trans k⟩
  by_cases b:e.kind=61
  ·have q:(e.kind==116)=T:=(by simp[b]);have p:(e.kind==64)=T:=(by simp[b]);have D:(e.kind==61)=P:=(by simp[b]);by_cases j:e.inner=-1
   ·have g:Hd (fnd f 5 e.na=f'):=(by show _=_;rw[<-d.o];simp[b,j]);have C:(e.inner==-1)=P:=(by simp[j]);clear j b;go_enter func90,ntmps90;go_wp2_with fail;refine(Zg F f 5 e.na _ H.o f' g).mono ?_;rintro r t ⟨rfl,m,k⟩;go_wp2_with fail;go_end0
    exact⟨rfl,m,s.o.trans k⟩
   ·have g:Hd (f=f'):=(by show _=_;rw[<-d.o];simp[b,j]);have C:(e.inner==-1)=T:=(by simp[j]);clear j b;go_enter func90,ntmps90;go_wp2_with fail;go_end0
    exact⟨rfl,by rw[<-g.o];exact H.o,s.o⟩
  have q:(e.kind==116)=T:=by simp[a]
  have p:(e.kind==64)=T:=by simp[c]
  have D:(e.kind==61)=T:=by simp[b]
  have g:Hd (f=f'):=by show _=_;rw[<-d.o];simp[b,c,a]
  clear b c a;go_enter func90,ntmps90;go_wp2_with fail;go_end0
  exact⟨rfl,by rw[<-g.o];exact H.o,s.o⟩
end
section
def fIt(c:Int)(l:List IM)(j:Nat)(x:IM)(f:Int×Int):Int×Int :=
 let f1:=if 16<=j then fnd f 4 x.at_ else f
 let f2:=if(l.take j).any (λy=>yG y x)=P then fnd f1 7 x.at_ else f1
 xy c x f2
def Ya(c:Int)(l:List IM)(f:Int×Int):Nat->Int×Int
 |0=>f
 | j+1=>match l[j]? with
  |some x=>fIt c l j x (Ya c l f j)
  |none=>Ya c l f j
theorem IV.of_kept{w w':World}{v:Value}{l:List IM}(h:IV w v l)(a:∀g,v.ownBlock=N g->w'.heap[g]?=w.heap[g]?):IV w' v l:=by
 rcases h with h|⟨g,cap,rfl,h1,h2⟩
 ·exact .inl h
 ·refine .inr ⟨g,cap,rfl,h1,λi x hx=>?_⟩;have e:∀j,w'.cell? ⟨g,j,S⟩=w.cell? ⟨g,j,S⟩:=λj=>World.cell?_of_block (w:=w) (a g rfl)
  simp only[e];exact h2 i x hx
attribute [local go_sem] zX zK
theorem zaz(F:Nat)(f:Int×Int)(e:EX)(vo:Option Addr)(vm m:Nat)(w:World)(hl:e.items.length<=100000)(h:FM w F f)(hv:IV w (Q vo vm m) e.items)(c0:∀g,(Q vo vm m).ownBlock=N g->g≠F/\g<w.heap.size)(f':Int×Int)(hf:Hd (Ya e.kind e.items f e.items.length=f')):
 Calls E 91 #[.pointer (N ⟨F,0,S⟩),.agg #[J O e.kind,J Z e.at_,J Z e.depth,J Z e.nv,J Z e.na,Q vo vm m,J Z e.inner]] w λr w'=>r=.returned (.tuple #[])/\FM w' F f'/\FK F w w':=by
 have H:Hd (FM (w.alloc (X #[J O e.kind,J Z e.at_,J Z e.depth,J Z e.nv,J Z e.na,Q vo vm m,J Z e.inner] 148)) F f):=h.alloc _;have HK:Hd (FK F w (w.alloc (X #[J O e.kind,J Z e.at_,J Z e.depth,J Z e.nv,J Z e.na,Q vo vm m,J Z e.inner] 148))):=(FK.refl _ _).alloc (Nat.le_of_lt h.lt) _;have HX:Hd ((w.alloc (X #[J O e.kind,J Z e.at_,J Z e.depth,J Z e.nv,J Z e.na,Q vo vm m,J Z e.inner] 148)).heap[w.heap.size]?=N (X #[J O e.kind,J Z e.at_,J Z e.depth,J Z e.nv,J Z e.na,Q vo vm m,J Z e.inner] 148 (0,0))):=heap_alloc_new w _;have e1:=h.lt;have t:w.heap.size≠F:=ol;clear h;have a9:∀(i:Nat),i<e.items.length->∃r,e.items[i]?=N r:=λi hi=>⟨e.items[i],List.getElem?_eq_getElem hi⟩
 rcases hv with⟨hv0,hv1⟩|⟨g,cp,hv0,hcl,hc⟩
 ·cases hv0
  have HF:Hd (f=f'):=by show _=_;rw[<-hf.o,hv1];rfl
  go_enter func91,ntmps91;go_wp2_with fail;go_loopg [9] 1 (λn y wr=>y=J Z 0/\wr=w.alloc (X #[J O e.kind,J Z e.at_,J Z e.depth,J Z e.nv,J Z e.na,Q S 0 0,J Z e.inner] 148))
  case atStart=>exact⟨rfl,rfl⟩
  case round =>
   obtain⟨rfl,rfl⟩:=hrel;go_wp2_with fail;go_end0
   exact⟨rfl,by rw[<-HF.o];exact H.o,HK.o⟩
 ·cases hv0
  have a0:g≠F:=(c0 g rfl).1;have B:g<w.heap.size:=(c0 g rfl).2;go_enter func91,ntmps91;go_wp2_with fail;go_loopg [9] e.items.length (λn y wr=>∃(j:Nat),n+j=e.items.length/\y=J Z j/\FM wr F (Ya e.kind e.items f j)/\FK F w wr/\wr.heap[w.heap.size]?=N (X #[J O e.kind,J Z e.at_,J Z e.depth,J Z e.nv,J Z e.na,Q (N ⟨g,0,S⟩) e.items.length m,J Z e.inner] 148 (0,0)))
  case atStart=>exact⟨0,ol,rfl,H.o,HK.o,HX.o⟩
  case round =>
   obtain⟨j,hn,rfl,b0,a6,a8⟩:=hrel;have b8:Hd (FM wr F (Ya e.kind e.items f j)):=b0;have b6:Hd _:=a6;have c8:Hd _:=a8;have d2:=b0.lt;have a2:wr.heap.size≠F:=ol;have d4:w.heap.size<wr.heap.size:=lt_of_block a8;have d1:g<wr.heap.size:=Nat.lt_of_lt_of_le B a6.bel.size;have a1:wr.heap[g]?=w.heap[g]?:=a6.kept g B a0;clear b0 a6 a8;by_cases c9:j<e.items.length
   ·obtain⟨x,hx⟩:=a9 j c9;have d9:(0:Int)<=(j:Int):=ol;have d8:(j:Int)<(e.items.length:Int):=ol;have d7:(j:Int)<=(m:Int):=ol;have c2:∀q,wr.cell? ⟨g,q,S⟩=w.cell? ⟨g,q,S⟩:=λq=>World.cell?_of_block (w:=w) a1
    obtain⟨r0,r1,r2,r3,r4,r5,r6⟩:=hc j x hx;rw[<-c2]at r0 r1 r2 r3 r4 r5 r6;have d0:(e.items.take j).length=j:=(by rw[List.length_take];omega);have a7:(e.items.take j).length<=100000:=ol;have c5:Hd (IV (wr.alloc (X #[J Z x.at_,J Z x.num,J Z x.pv,J Z x.pl,J Z x.wv,J Z x.wa,J Z x.arm] 155)) (Q (N ⟨g,0,S⟩) (e.items.take j).length m) (e.items.take j)):=.inr ⟨g,m,rfl,ol,λi y hy=>by
     have d3:∀q,(wr.alloc (X #[J Z x.at_,J Z x.num,J Z x.pv,J Z x.pl,J Z x.wv,J Z x.wa,J Z x.arm] 155)).cell? ⟨g,q,S⟩=w.cell? ⟨g,q,S⟩:=λq=>World.cell?_of_block (w:=w) ((Below.heap_alloc _ _ _ d1).trans a1)
     simp only[d3];have hi:i<j:=(by have:=(List.getElem?_eq_some_iff.1 hy).1;omega);exact hc i y (by rw[List.getElem?_take_of_lt hi]at hy;exact hy)⟩
    have c7:Hd (FM (wr.alloc (X #[J Z x.at_,J Z x.num,J Z x.pv,J Z x.pl,J Z x.wv,J Z x.wa,J Z x.arm] 155)) F (Ya e.kind e.items f j)):=b8.o.alloc _;have b5:Hd (FK F w (wr.alloc (X #[J Z x.at_,J Z x.num,J Z x.pv,J Z x.pl,J Z x.wv,J Z x.wa,J Z x.arm] 155))):=b6.o.alloc (Nat.le_of_lt d2) _;have b9:Hd ((wr.alloc (X #[J Z x.at_,J Z x.num,J Z x.pv,J Z x.pl,J Z x.wv,J Z x.wa,J Z x.arm] 155)).heap[w.heap.size]?=N (X #[J O e.kind,J Z e.at_,J Z e.depth,J Z e.nv,J Z e.na,Q (N ⟨g,0,S⟩) e.items.length m,J Z e.inner] 148 (0,0))):=(Below.heap_alloc _ _ _ d4).trans c8.o;have b1:Hd ((wr.alloc (X #[J Z x.at_,J Z x.num,J Z x.pv,J Z x.pl,J Z x.wv,J Z x.wa,J Z x.arm] 155)).heap[wr.heap.size]?=N (X #[J Z x.at_,J Z x.num,J Z x.pv,J Z x.pl,J Z x.wv,J Z x.wa,J Z x.arm] 155 (0,0))):=heap_alloc_new wr _;have b3:Hd _:=c5;have c6:Hd (Ya e.kind e.items f (j+1)=fIt e.kind e.items j x (Ya e.kind e.items f j)):=(by show _=_;simp only[Ya,hx]);rw[d0]at b3;generalize hfj:Ya e.kind e.items f j=fj at *;clear hx hc c2 a1 hfj b8 b6 c5;by_cases c4:16<=j
    ·have c3:(16:Int)<=(j:Int):=(by omega);have u:Hd (Ya e.kind e.items f (j+1)=xy e.kind x (if(e.items.take j).any (λy=>yG y x)=P then fnd (fnd fj 4 x.at_) 7 x.at_ else fnd fj 4 x.at_)):=(by show _=_;rw[c6.o];simp only[fIt,if_pos c4]);go_wp2_with fail;clear r0 r1 r2 r3 r4 r5 r6;refine(Zg F fj 4 x.at_ _ c7.o _ rfl).mono ?_;rintro r p ⟨rfl,h,k⟩;have I:Hd (FM p F (fnd fj 4 x.at_)):=h;have a4:Hd _:=b5.o.trans k;have A:Hd _:=(k.kept _ (lt_of_block b9.o) t).trans b9.o;have b:Hd _:=(k.kept _ (lt_of_block b1.o) a2).trans b1.o;have a3:Hd (IV p (Q (N ⟨g,0,S⟩) j m) (e.items.take j)):=b3.o.of_kept (λg' hg'=>by cases hg';exact k.kept _ (Nat.lt_of_lt_of_le B b5.o.bel.size) a0);clear h k;have e0:p.cell? ⟨w.heap.size,0,S⟩=N (J O e.kind):=(by simp[World.cell?,A.o]);have e5:p.cell? ⟨w.heap.size,5,S⟩=N (Q (N ⟨g,0,S⟩) e.items.length m):=(by simp[World.cell?,A.o]);have x0:p.cell? ⟨wr.heap.size,0,S⟩=N (J Z x.at_):=(by simp[World.cell?,b.o]);have Y:p.cell? ⟨wr.heap.size,1,S⟩=N (J Z x.num):=(by simp[World.cell?,b.o]);have W:p.cell? ⟨wr.heap.size,2,S⟩=N (J Z x.pv):=(by simp[World.cell?,b.o]);have V:p.cell? ⟨wr.heap.size,3,S⟩=N (J Z x.pl):=(by simp[World.cell?,b.o]);have U:p.cell? ⟨wr.heap.size,4,S⟩=N (J Z x.wv):=(by simp[World.cell?,b.o]);have R:p.cell? ⟨wr.heap.size,5,S⟩=N (J Z x.wa):=(by simp[World.cell?,b.o]);have L:p.cell? ⟨wr.heap.size,6,S⟩=N (J Z x.arm):=(by simp[World.cell?,b.o]);go_wp2_with fail;go_region_with (go_at_call 129;refine(JK _ x (e.items.take j) _ a7 ?_).mono ?_;exact a3.o.of_kept (λ_ _=>rfl);rintro r l ⟨C,rfl⟩)
     all_goals
      have k:FK F p l:=(FK.refl _ _).drew.trans (FK.below C (Nat.le_of_lt I.o.lt));have h:FM l F (fnd fj 4 x.at_):=(C.block F I.o.lt).trans I.o;clear C e0 e5 x0 Y W V U R L;have a5:Hd _:=h;have G:Hd _:=a4.o.trans k;have d:Hd _:=(k.kept _ (lt_of_block A.o) t).trans A.o;have a:Hd _:=(k.kept _ (lt_of_block b.o) a2).trans b.o;have b2:Hd (IV l (Q (N ⟨g,0,S⟩) j m) (e.items.take j)):=a3.o.of_kept (λg' hg'=>by cases hg';exact k.kept _ (Nat.lt_of_lt_of_le B a4.o.bel.size) a0);clear h k;have e0:l.cell? ⟨w.heap.size,0,S⟩=N (J O e.kind):=(by simp[World.cell?,d.o]);have e5:l.cell? ⟨w.heap.size,5,S⟩=N (Q (N ⟨g,0,S⟩) e.items.length m):=(by simp[World.cell?,d.o]);have x0:l.cell? ⟨wr.heap.size,0,S⟩=N (J Z x.at_):=(by simp[World.cell?,a.o]);have Y:l.cell? ⟨wr.heap.size,1,S⟩=N (J Z x.num):=(by simp[World.cell?,a.o]);have W:l.cell? ⟨wr.heap.size,2,S⟩=N (J Z x.pv):=(by simp[World.cell?,a.o]);have V:l.cell? ⟨wr.heap.size,3,S⟩=N (J Z x.pl):=(by simp[World.cell?,a.o]);have U:l.cell? ⟨wr.heap.size,4,S⟩=N (J Z x.wv):=(by simp[World.cell?,a.o]);have R:l.cell? ⟨wr.heap.size,5,S⟩=N (J Z x.wa):=(by simp[World.cell?,a.o]);have L:l.cell? ⟨wr.heap.size,6,S⟩=N (J Z x.arm):=(by simp[World.cell?,a.o]);cases hin:(e.items.take j).any (λy=>yG y x)with
      | true =>
       have HJ:Hd (Ya e.kind e.items f (j+1)=xy e.kind x (fnd (fnd fj 4 x.at_) 7 x.at_)):=(by show _=_;rw[u.o,hin];rfl);clear hin u;go_wp2_with fail;refine(Zg F (fnd fj 4 x.at_) 7 x.at_ _ a5.o _ rfl).mono ?_;rintro r s ⟨rfl,h,k⟩;have b7:Hd _:=h;have b4:Hd _:=G.o.trans k;have z:Hd _:=(k.kept _ (lt_of_block d.o) t).trans d.o;have c:Hd _:=(k.kept _ (lt_of_block a.o) a2).trans a.o;have d6:Hd (IV s (Q (N ⟨g,0,S⟩) j m) (e.items.take j)):=b2.o.of_kept (λg' hg'=>by cases hg';exact k.kept _ (Nat.lt_of_lt_of_le B G.o.bel.size) a0);clear h k;clear e0 e5 x0 Y W V U R L;have e0:s.cell? ⟨w.heap.size,0,S⟩=N (J O e.kind):=(by simp[World.cell?,z.o]);have e5:s.cell? ⟨w.heap.size,5,S⟩=N (Q (N ⟨g,0,S⟩) e.items.length m):=(by simp[World.cell?,z.o]);have x0:s.cell? ⟨wr.heap.size,0,S⟩=N (J Z x.at_):=(by simp[World.cell?,c.o]);have Y:s.cell? ⟨wr.heap.size,1,S⟩=N (J Z x.num):=(by simp[World.cell?,c.o]);have W:s.cell? ⟨wr.heap.size,2,S⟩=N (J Z x.pv):=(by simp[World.cell?,c.o]);have V:s.cell? ⟨wr.heap.size,3,S⟩=N (J Z x.pl):=(by simp[World.cell?,c.o]);have U:s.cell? ⟨wr.heap.size,4,S⟩=N (J Z x.wv):=(by simp[World.cell?,c.o]);have R:s.cell? ⟨wr.heap.size,5,S⟩=N (J Z x.wa):=(by simp[World.cell?,c.o]);have L:s.cell? ⟨wr.heap.size,6,S⟩=N (J Z x.arm):=(by simp[World.cell?,c.o]);go_wp2_with fail;refine(xW F (fnd (fnd fj 4 x.at_) 7 x.at_) e.kind x _ b7.o _ rfl).mono ?_;rintro r w9 ⟨rfl,h,k⟩;have v:Hd (FM w9 F (Ya e.kind e.items f (j+1))):=(by show FM _ _ _;rw[HJ.o];exact h);have D:Hd _:=b4.o.trans k;have K:Hd _:=(k.kept _ (lt_of_block z.o) t).trans z.o;clear h k;clear e0 e5 x0 Y W V U R L;go_wp2_with fail;go_roundg (gk-1)
       case measure=>omega
       case rel=>exact⟨j+1,ol,by go_num,v.o,D.o,K.o⟩
      | false =>
       have HJ:Hd (Ya e.kind e.items f (j+1)=xy e.kind x (fnd fj 4 x.at_)):=(by show _=_;rw[u.o,hin];rfl);clear hin u;go_wp2_with fail;refine(xW F (fnd fj 4 x.at_) e.kind x _ a5.o _ rfl).mono ?_;rintro r w9 ⟨rfl,h,k⟩;have v:Hd (FM w9 F (Ya e.kind e.items f (j+1))):=(by show FM _ _ _;rw[HJ.o];exact h);have D:Hd _:=G.o.trans k;have K:Hd _:=(k.kept _ (lt_of_block d.o) t).trans d.o;clear h k;clear e0 e5 x0 Y W V U R L;go_wp2_with fail;go_roundg (gk-1)
       case measure=>omega
       case rel=>exact⟨j+1,ol,by go_num,v.o,D.o,K.o⟩
    ·have c3:¬(16:Int)<=(j:Int):=(by omega);have u:Hd (Ya e.kind e.items f (j+1)=xy e.kind x (if(e.items.take j).any (λy=>yG y x)=P then fnd fj 7 x.at_ else fj)):=(by show _=_;rw[c6.o];simp only[fIt,if_neg c4]);have d5:wr.cell? ⟨w.heap.size,5,S⟩=N (Q (N ⟨g,0,S⟩) e.items.length m):=(by simp[World.cell?,c8.o]);go_wp2_with fail;clear r0 r1 r2 r3 r4 r5 r6 d5;generalize wr.alloc (X #[J Z x.at_,J Z x.num,J Z x.pv,J Z x.pl,J Z x.wv,J Z x.wa,J Z x.arm] 155)=p at *;have I:=c7;have a4:=b5;have A:=b9;have b:=b1;have a3:=b3;have e0:p.cell? ⟨w.heap.size,0,S⟩=N (J O e.kind):=(by simp[World.cell?,A.o]);have e5:p.cell? ⟨w.heap.size,5,S⟩=N (Q (N ⟨g,0,S⟩) e.items.length m):=(by simp[World.cell?,A.o]);have x0:p.cell? ⟨wr.heap.size,0,S⟩=N (J Z x.at_):=(by simp[World.cell?,b.o]);have Y:p.cell? ⟨wr.heap.size,1,S⟩=N (J Z x.num):=(by simp[World.cell?,b.o]);have W:p.cell? ⟨wr.heap.size,2,S⟩=N (J Z x.pv):=(by simp[World.cell?,b.o]);have V:p.cell? ⟨wr.heap.size,3,S⟩=N (J Z x.pl):=(by simp[World.cell?,b.o]);have U:p.cell? ⟨wr.heap.size,4,S⟩=N (J Z x.wv):=(by simp[World.cell?,b.o]);have R:p.cell? ⟨wr.heap.size,5,S⟩=N (J Z x.wa):=(by simp[World.cell?,b.o]);have L:p.cell? ⟨wr.heap.size,6,S⟩=N (J Z x.arm):=(by simp[World.cell?,b.o]);go_region_with (go_at_call 129;refine(JK _ x (e.items.take j) _ a7 ?_).mono ?_;exact a3.o.of_kept (λ_ _=>rfl);rintro r l ⟨C,rfl⟩)
     all_goals
      have k:FK F p l:=(FK.refl _ _).drew.trans (FK.below C (Nat.le_of_lt I.o.lt));have h:FM l F fj:=(C.block F I.o.lt).trans I.o;clear C e0 e5 x0 Y W V U R L;have a5:Hd _:=h;have G:Hd _:=a4.o.trans k;have d:Hd _:=(k.kept _ (lt_of_block A.o) t).trans A.o;have a:Hd _:=(k.kept _ (lt_of_block b.o) a2).trans b.o;have b2:Hd (IV l (Q (N ⟨g,0,S⟩) j m) (e.items.take j)):=a3.o.of_kept (λg' hg'=>by cases hg';exact k.kept _ (Nat.lt_of_lt_of_le B a4.o.bel.size) a0);clear h k;have e0:l.cell? ⟨w.heap.size,0,S⟩=N (J O e.kind):=(by simp[World.cell?,d.o]);have e5:l.cell? ⟨w.heap.size,5,S⟩=N (Q (N ⟨g,0,S⟩) e.items.length m):=(by simp[World.cell?,d.o]);have x0:l.cell? ⟨wr.heap.size,0,S⟩=N (J Z x.at_):=(by simp[World.cell?,a.o]);have Y:l.cell? ⟨wr.heap.size,1,S⟩=N (J Z x.num):=(by simp[World.cell?,a.o]);have W:l.cell? ⟨wr.heap.size,2,S⟩=N (J Z x.pv):=(by simp[World.cell?,a.o]);have V:l.cell? ⟨wr.heap.size,3,S⟩=N (J Z x.pl):=(by simp[World.cell?,a.o]);have U:l.cell? ⟨wr.heap.size,4,S⟩=N (J Z x.wv):=(by simp[World.cell?,a.o]);have R:l.cell? ⟨wr.heap.size,5,S⟩=N (J Z x.wa):=(by simp[World.cell?,a.o]);have L:l.cell? ⟨wr.heap.size,6,S⟩=N (J Z x.arm):=(by simp[World.cell?,a.o]);cases hin:(e.items.take j).any (λy=>yG y x)with
      | true =>
       have HJ:Hd (Ya e.kind e.items f (j+1)=xy e.kind x (fnd fj 7 x.at_)):=(by show _=_;rw[u.o,hin];rfl);clear hin u;go_wp2_with fail;refine(Zg F fj 7 x.at_ _ a5.o _ rfl).mono ?_;rintro r s ⟨rfl,h,k⟩;have b7:Hd _:=h;have b4:Hd _:=G.o.trans k;have z:Hd _:=(k.kept _ (lt_of_block d.o) t).trans d.o;have c:Hd _:=(k.kept _ (lt_of_block a.o) a2).trans a.o;have d6:Hd (IV s (Q (N ⟨g,0,S⟩) j m) (e.items.take j)):=b2.o.of_kept (λg' hg'=>by cases hg';exact k.kept _ (Nat.lt_of_lt_of_le B G.o.bel.size) a0);clear h k;clear e0 e5 x0 Y W V U R L;have e0:s.cell? ⟨w.heap.size,0,S⟩=N (J O e.kind):=(by simp[World.cell?,z.o]);have e5:s.cell? ⟨w.heap.size,5,S⟩=N (Q (N ⟨g,0,S⟩) e.items.length m):=(by simp[World.cell?,z.o]);have x0:s.cell? ⟨wr.heap.size,0,S⟩=N (J Z x.at_):=(by simp[World.cell?,c.o]);have Y:s.cell? ⟨wr.heap.size,1,S⟩=N (J Z x.num):=(by simp[World.cell?,c.o]);have W:s.cell? ⟨wr.heap.size,2,S⟩=N (J Z x.pv):=(by simp[World.cell?,c.o]);have V:s.cell? ⟨wr.heap.size,3,S⟩=N (J Z x.pl):=(by simp[World.cell?,c.o]);have U:s.cell? ⟨wr.heap.size,4,S⟩=N (J Z x.wv):=(by simp[World.cell?,c.o]);have R:s.cell? ⟨wr.heap.size,5,S⟩=N (J Z x.wa):=(by simp[World.cell?,c.o]);have L:s.cell? ⟨wr.heap.size,6,S⟩=N (J Z x.arm):=(by simp[World.cell?,c.o]);go_wp2_with fail;refine(xW F (fnd fj 7 x.at_) e.kind x _ b7.o _ rfl).mono ?_;rintro r w9 ⟨rfl,h,k⟩;have v:Hd (FM w9 F (Ya e.kind e.items f (j+1))):=(by show FM _ _ _;rw[HJ.o];exact h);have D:Hd _:=b4.o.trans k;have K:Hd _:=(k.kept _ (lt_of_block z.o) t).trans z.o;clear h k;clear e0 e5 x0 Y W V U R L;go_wp2_with fail;go_roundg (gk-1)
       case measure=>omega
       case rel=>exact⟨j+1,ol,by go_num,v.o,D.o,K.o⟩
      | false =>
       have HJ:Hd (Ya e.kind e.items f (j+1)=xy e.kind x fj):=(by show _=_;rw[u.o,hin];rfl);clear hin u;go_wp2_with fail;refine(xW F fj e.kind x _ a5.o _ rfl).mono ?_;rintro r w9 ⟨rfl,h,k⟩;have v:Hd (FM w9 F (Ya e.kind e.items f (j+1))):=(by show FM _ _ _;rw[HJ.o];exact h);have D:Hd _:=G.o.trans k;have K:Hd _:=(k.kept _ (lt_of_block d.o) t).trans d.o;clear h k;clear e0 e5 x0 Y W V U R L;go_wp2_with fail;go_roundg (gk-1)
       case measure=>omega
       case rel=>exact⟨j+1,ol,by go_num,v.o,D.o,K.o⟩
   ·have hd:¬((j:Int)<(e.items.length:Int)):=(by omega);have c1:j=e.items.length:=ol;have v:Hd (FM wr F f'):=(by show FM _ _ _;rw[<-hf.o,<-c1];exact b8.o);clear c1;go_wp2_with fail;go_end0
    exact⟨rfl,v.o,b6.o⟩
end
section
def Yq(rs:List RL)(f:Int×Int):Nat->Int×Int
 |0=>f
 | j+1=>match rs[j]? with
  |some r=>if yr r.nv (rs.take j)=-1 then Yq rs f j else fnd (Yq rs f j) 5 r.na
  |none=>Yq rs f j
def X3(es:List EX)(f:Int×Int):Nat->Int×Int
 |0=>f
 | j+1=>match es[j]? with
  |some e=>Ya e.kind e.items (qO e (X3 es f j)) e.items.length
  |none=>X3 es f j
def Xr(es:List EX)(rs:List RL):Int×Int:=X3 es (Yq rs (0,0) rs.length) es.length
structure PV (w:World) (eo ro:Option Addr) (ec rc:Nat) (es:List (EX×Value)) (rs:List RL):Prop where
 lr:rs.length<=rc
 nr:rs.length<=100000
 ne:es.length<=100000
 hr:∀i r,rs[i]?=N r->∃g,ro=N ⟨g,0,S⟩/\g<w.heap.size/\w.cell? ⟨g,i*3,S⟩=N (J Z r.nv)/\w.cell? ⟨g,i*3+1,S⟩=N (J Z r.na)/\w.cell? ⟨g,i*3+2,S⟩=N (J Z r.ex)
 he:∀i x,es[i]?=N x->∃g vo vm vc,eo=N ⟨g,0,S⟩/\g<w.heap.size/\w.cell? ⟨g,i*7,S⟩=N (J O x.1.kind)/\w.cell? ⟨g,i*7+1,S⟩=N (J Z x.1.at_)/\w.cell? ⟨g,i*7+2,S⟩=N (J Z x.1.depth)/\w.cell? ⟨g,i*7+3,S⟩=N (J Z x.1.nv)/\w.cell? ⟨g,i*7+4,S⟩=N (J Z x.1.na)/\w.cell? ⟨g,i*7+5,S⟩=N (Q vo vm vc)/\w.cell? ⟨g,i*7+6,S⟩=N (J Z x.1.inner)/\x.2=Q vo vm vc/\IV w (Q vo vm vc) x.1.items/\(∀q,(Q vo vm vc).ownBlock=N q->q<w.heap.size)/\x.1.items.length<=100000
attribute [local go_sem] zX zK
theorem zcG(B G:Option Addr)(C k:Nat)(a:List (EX×Value))(rs:List RL)(w:World)(h:PV w B G C k a rs)(f':Int×Int)(hf:Hd (Xr (a.map Prod.fst) rs=f')):
 Calls E 49 #[.agg #[Q B a.length C,Q G rs.length k]] w λr w'=>r=.returned (.agg #[J Z f'.1,J Z f'.2])/\Below w.heap.size w w':=by
 have H:Hd (FM (((w.alloc (X #[Q B a.length C,Q G rs.length k] 74)).alloc (X #[J Z 0,J Z 0] 106)).alloc (X #[J Z 0,J Z 0] 106)) (w.heap.size+1+1) (0,0)):=zl _ ot;have HB:Hd (Below w.heap.size w (((w.alloc (X #[Q B a.length C,Q G rs.length k] 74)).alloc (X #[J Z 0,J Z 0] 106)).alloc (X #[J Z 0,J Z 0] 106))):=(((Below.refl _ _).alloc (Nat.le_refl _) _).alloc ot _).alloc ow _;have HP:Hd ((((w.alloc (X #[Q B a.length C,Q G rs.length k] 74)).alloc (X #[J Z 0,J Z 0] 106)).alloc (X #[J Z 0,J Z 0] 106)).heap[w.heap.size]?=N (X #[Q B a.length C,Q G rs.length k] 74 (0,0))):=(Below.heap_alloc _ _ _ ow).trans ((Below.heap_alloc _ _ _ ot).trans (heap_alloc_new w _));have HR:Hd ((((w.alloc (X #[Q B a.length C,Q G rs.length k] 74)).alloc (X #[J Z 0,J Z 0] 106)).alloc (X #[J Z 0,J Z 0] 106)).heap[w.heap.size+1]?=N (X #[J Z 0,J Z 0] 106 (0,0))):=(Below.heap_alloc _ _ _ ot).trans (zl _ ot);have f5:=h.lr;have f2:=h.nr;have f4:=h.ne;have HH:Hd _:=h;clear h;have d7:w.heap.size≠(w.heap.size+1+1):=ol;have d5:w.heap.size+1≠(w.heap.size+1+1):=ol;go_enter func49,ntmps49;go_wp2_with fail;generalize hw0:((w.alloc (X #[Q B a.length C,Q G rs.length k] 74)).alloc (X #[J Z 0,J Z 0] 106)).alloc (X #[J Z 0,J Z 0] 106)=w0 at *;clear hw0;have g3:Hd (FK (w.heap.size+1+1) w0 w0):=FK.refl _ _;go_loopg [12] rs.length (λn y wr=>∃(j:Nat),n+j=rs.length/\y=J Z j/\FM wr (w.heap.size+1+1) (Yq rs (0,0) j)/\FK (w.heap.size+1+1) w0 wr)
 case atStart=>exact⟨0,ol,rfl,H.o,FK.refl _ _⟩
 case round =>
  obtain⟨j,hn,rfl,l,b⟩:=hrel;have c6:Hd (FM wr (w.heap.size+1+1) (Yq rs (0,0) j)):=l;have c3:Hd _:=b;have d3:=l.lt;have g2:wr.heap.size≠(w.heap.size+1+1):=ol;have D:Hd _:=(b.kept _ (lt_of_block HP.o) d7).trans HP.o;have d6:=lt_of_block D.o;have b6:Hd (∀g,g<w.heap.size->wr.heap[g]?=w.heap[g]?):=λg hg=>(b.kept g (Nat.lt_of_lt_of_le hg HB.o.size) ol).trans (HB.o.block g hg)
  have c8:w.heap.size<=wr.heap.size:=Nat.le_trans HB.o.size b.bel.size;clear l b;by_cases d0:j<rs.length
  ·obtain⟨r,hr⟩:∃r,rs[j]?=N r:=⟨rs[j],List.getElem?_eq_getElem d0⟩;have f8:(0:Int)<=(j:Int):=ol;have f7:(j:Int)<(rs.length:Int):=ol;have f6:(j:Int)<=(k:Int):=ol;obtain⟨g,rfl,u,r0,r1,r2⟩:=HH.o.hr j r hr;have z:∀q,wr.cell? ⟨g,q,S⟩=w.cell? ⟨g,q,S⟩:=λq=>World.cell?_of_block (w:=w) (b6.o g u)
   rw[<-z]at r0 r1 r2;have d1:(rs.take j).length=j:=(by rw[List.length_take];omega);have b8:Hd (RV (wr.alloc (X #[J Z r.nv,J Z r.na,J Z r.ex] 143)) (Q (N ⟨g,0,S⟩) (rs.take j).length k) (rs.take j)):=.inr ⟨g,k,rfl,λi y hy=>by
    have Y:∀q,(wr.alloc (X #[J Z r.nv,J Z r.na,J Z r.ex] 143)).cell? ⟨g,q,S⟩=w.cell? ⟨g,q,S⟩:=λq=>World.cell?_of_block (w:=w) ((Below.heap_alloc _ _ _ (Nat.lt_of_lt_of_le u c8)).trans (b6.o g u))
    have hi:i<j:=(by have:=(List.getElem?_eq_some_iff.1 hy).1;omega);obtain⟨g',d2,_,q0,q1,q2⟩:=HH.o.hr i y (by rw[List.getElem?_take_of_lt hi]at hy;exact hy);cases d2
    exact⟨(Y _).trans q0,(Y _).trans q1,(Y _).trans q2⟩⟩
   have f:Hd (FM (wr.alloc (X #[J Z r.nv,J Z r.na,J Z r.ex] 143)) (w.heap.size+1+1) (Yq rs (0,0) j)):=c6.o.alloc _;have c2:Hd (FK (w.heap.size+1+1) w0 (wr.alloc (X #[J Z r.nv,J Z r.na,J Z r.ex] 143))):=c3.o.alloc (Nat.le_of_lt d3) _;have a0:Hd ((wr.alloc (X #[J Z r.nv,J Z r.na,J Z r.ex] 143)).heap[wr.heap.size]?=N (X #[J Z r.nv,J Z r.na,J Z r.ex] 143 (0,0))):=heap_alloc_new wr _;have e1:Hd ((wr.alloc (X #[J Z r.nv,J Z r.na,J Z r.ex] 143)).heap[w.heap.size]?=N (X #[Q B a.length C,Q (N ⟨g,0,S⟩) rs.length k] 74 (0,0))):=(Below.heap_alloc _ _ _ d6).trans D.o;have F:Hd (Yq rs (0,0) (j+1)=if yr r.nv (rs.take j)=-1 then Yq rs (0,0) j else fnd (Yq rs (0,0) j) 5 r.na):=(by show _=_;simp only[Yq,hr]);have c7:wr.cell? ⟨w.heap.size,1,S⟩=N (Q (N ⟨g,0,S⟩) rs.length k):=(by simp[World.cell?,D.o]);rw[d1]at b8;have e2:Hd ((rs.take j).length<=100000):=oz;clear hr z;generalize hfj:Yq rs (0,0) j=fj at *;clear hfj;go_wp2_with fail;clear r0 r1 r2 c7;generalize wr.alloc (X #[J Z r.nv,J Z r.na,J Z r.ex] 143)=w3 at *;have p1:w3.cell? ⟨w.heap.size,1,S⟩=N (Q (N ⟨g,0,S⟩) rs.length k):=(by simp[World.cell?,e1.o]);have x0:w3.cell? ⟨wr.heap.size,0,S⟩=N (J Z r.nv):=(by simp[World.cell?,a0.o]);generalize hnq:yr r.nv (rs.take j)=nq at *;have a9:∀wz:World,wz.heap=w3.heap->Calls E 88 #[Q (N ⟨g,0,S⟩) j k,J Z r.nv] wz λe w'=>Below wz.heap.size wz w'/\e=.returned (J Z nq):=λwz hz=>by
    have:=QH (Q (N ⟨g,0,S⟩) j k) r.nv (rs.take j) wz e2.o (by
     rcases b8.o with h|⟨g',c',h1,h2⟩
     ·exact .inl h
     ·exact .inr ⟨g',c',h1,λi y hy=>by
       have e:∀q,wz.cell? ⟨g',q,S⟩=w3.cell? ⟨g',q,S⟩:=λq=>World.cell?_of_block (w:=w3) (by rw[hz])
       simp only[e];exact h2 i y hy⟩)
    rwa [hnq]at this
   clear hnq;cases hq:(nq==-1)with
   | true =>
    have c9:(nq != -1)=T:=(by simp[bne,hq]);have HJ:Hd (Yq rs (0,0) (j+1)=fj):=(by show _=_;rw[F.o,if_pos (by simpa using hq)]);clear hq;go_region_with (go_at_call 88;refine(a9 _ ?_).mono ?_;rfl;rintro e w4 ⟨d,rfl⟩)
    all_goals
     have a3:Hd (FK (w.heap.size+1+1) w0 w4):=c2.o.drew.trans (FK.below d (Nat.le_of_lt f.o.lt));have a5:Hd (FM w4 (w.heap.size+1+1) (Yq rs (0,0) (j+1))):=(by show FM _ _ _;rw[HJ.o];exact(d.block _ f.o.lt).trans f.o);clear d;go_wp2_with fail;go_roundg (gk-1)
     case measure=>omega
     case rel=>exact⟨j+1,ol,by go_num,a5.o,a3.o⟩
   | false =>
    have c9:(nq != -1)=P:=(by simp[bne,hq]);have HJ:Hd (Yq rs (0,0) (j+1)=fnd fj 5 r.na):=(by show _=_;rw[F.o,if_neg (by simpa using hq)]);have e5:Hd (fnd fj 5 r.na=Yq rs (0,0) (j+1)):=HJ.o.symm;clear hq;go_region_with (go_at_call 88;refine(a9 _ ?_).mono ?_;rfl;rintro e w4 ⟨d,rfl⟩)
    all_goals
     have a3:Hd (FK (w.heap.size+1+1) w0 w4):=c2.o.drew.trans (FK.below d (Nat.le_of_lt f.o.lt));have a5:Hd (FM w4 (w.heap.size+1+1) fj):=(d.block _ f.o.lt).trans f.o;have a6:=(d.block wr.heap.size (lt_of_block a0.o)).trans a0.o;have x1:w4.cell? ⟨wr.heap.size,1,S⟩=N (J Z r.na):=(by simp[World.cell?,a6]);clear d a6;go_wp2_with fail;refine(Zg (w.heap.size+1+1) fj 5 r.na _ a5.o _ e5).mono ?_;rintro e A ⟨rfl,h5,I⟩;have a4:Hd _:=h5;have a2:Hd _:=a3.o.trans I;clear h5 I;go_wp2_with fail;go_roundg (gk-1)
     case measure=>omega
     case rel=>exact⟨j+1,ol,by go_num,a4.o,a2.o⟩
  ·have hd:¬((j:Int)<(rs.length:Int)):=(by omega);have b1:j=rs.length:=ol;have p0:wr.cell? ⟨w.heap.size,0,S⟩=N (Q B a.length C):=(by simp[World.cell?,D.o]);have f:Hd (FM wr (w.heap.size+1+1) (Yq rs (0,0) rs.length)):=(by show FM _ _ _;rw[<-b1];exact c6.o);clear b1;go_wp2_with fail;generalize hf0:Yq rs (0,0) rs.length=f0 at *;have e9:Hd (X3 (a.map Prod.fst) f0 a.length=f'):=(by show _=_;rw[<-hf.o,<-hf0];simp[Xr]);clear hf0;have g4:Hd (X3 (a.map Prod.fst) f0 0=f0):=rfl;go_loopg [34] a.length (λn y wz=>∃(j:Nat),n+j=a.length/\y=J Z j/\FM wz (w.heap.size+1+1) (X3 (a.map Prod.fst) f0 j)/\FK (w.heap.size+1+1) w0 wz)
   case atStart=>exact⟨0,ol,rfl,f.o,c3.o⟩
   case round =>
    obtain⟨i,f3,rfl,l,b⟩:=hrel;have c4:Hd (FM wr (w.heap.size+1+1) (X3 (a.map Prod.fst) f0 i)):=l;have b9:Hd _:=b;have b3:=l.lt;have b4:wr.heap.size≠(w.heap.size+1+1):=ol;have L:Hd (∀g,g<w.heap.size->wr.heap[g]?=w.heap[g]?):=λg hg=>(b.kept g (Nat.lt_of_lt_of_le hg HB.o.size) ol).trans (HB.o.block g hg)
    have a8:w.heap.size<=wr.heap.size:=Nat.le_trans HB.o.size b.bel.size;have a1:Hd _:=(b.kept _ (lt_of_block HR.o) d5).trans HR.o;clear l b;by_cases b0:i<a.length
    ·obtain⟨xv,U⟩:∃r,a[i]?=N r:=⟨a[i],List.getElem?_eq_getElem b0⟩;have g0:(0:Int)<=(i:Int):=ol;have f9:(i:Int)<(a.length:Int):=ol;obtain⟨g,m,p,s,d4,u,r0,r1,r2,r3,r4,r5,r6,a7,V,K,W⟩:=HH.o.he i xv U;obtain⟨x,xq⟩:=xv;simp only at r0 r1 r2 r3 r4 r6 a7 V W;subst a7;subst d4;have z:∀q,wr.cell? ⟨g,q,S⟩=w.cell? ⟨g,q,S⟩:=λq=>World.cell?_of_block (w:=w) (L.o g u)
     rw[<-z]at r0 r1 r2 r3 r4 r5 r6;have F:Hd (X3 (a.map Prod.fst) f0 (i+1)=Ya x.kind x.items (qO x (X3 (a.map Prod.fst) f0 i)) x.items.length):=by
      show _=_;have:(a.map Prod.fst)[i]?=N x:=by rw[List.getElem?_map,U];rfl
      simp only[X3,this]
     have d9:Hd (IV w (Q m p s) x.items):=V;have b7:Hd _:=K;have e6:Hd _:=W;have e7:Hd (FM (wr.alloc (X #[J O x.kind,J Z x.at_,J Z x.depth,J Z x.nv,J Z x.na,Q m p s,J Z x.inner] 148)) (w.heap.size+1+1) (X3 (a.map Prod.fst) f0 i)):=c4.o.alloc _;have e3:Hd (FK (w.heap.size+1+1) w0 (wr.alloc (X #[J O x.kind,J Z x.at_,J Z x.depth,J Z x.nv,J Z x.na,Q m p s,J Z x.inner] 148))):=b9.o.alloc (Nat.le_of_lt b3) _;have b5:Hd ((wr.alloc (X #[J O x.kind,J Z x.at_,J Z x.depth,J Z x.nv,J Z x.na,Q m p s,J Z x.inner] 148)).heap[wr.heap.size]?=N (X #[J O x.kind,J Z x.at_,J Z x.depth,J Z x.nv,J Z x.na,Q m p s,J Z x.inner] 148 (0,0))):=heap_alloc_new wr _;have R:Hd (w.heap.size<=(wr.alloc (X #[J O x.kind,J Z x.at_,J Z x.depth,J Z x.nv,J Z x.na,Q m p s,J Z x.inner] 148)).heap.size):=mc;generalize hfj:X3 (a.map Prod.fst) f0 i=fi at *;clear hfj U z V K W;go_wp2_with fail;clear r0 r1 r2 r3 r4 r5 r6;refine(zcB (w.heap.size+1+1) fi x m p s _ e7.o _ rfl).mono ?_;rintro e A ⟨rfl,h5,I⟩;have a4:Hd _:=h5;have a2:Hd _:=e3.o.trans I;have c:=(I.kept wr.heap.size (lt_of_block b5.o) b4).trans b5.o;have x0:A.cell? ⟨wr.heap.size,0,S⟩=N (J O x.kind):=(by simp[World.cell?,c]);have x1:A.cell? ⟨wr.heap.size,1,S⟩=N (J Z x.at_):=(by simp[World.cell?,c]);have x2:A.cell? ⟨wr.heap.size,2,S⟩=N (J Z x.depth):=(by simp[World.cell?,c]);have x3:A.cell? ⟨wr.heap.size,3,S⟩=N (J Z x.nv):=(by simp[World.cell?,c]);have x4:A.cell? ⟨wr.heap.size,4,S⟩=N (J Z x.na):=(by simp[World.cell?,c]);have x5:A.cell? ⟨wr.heap.size,5,S⟩=N (Q m p s):=(by simp[World.cell?,c]);have x6:A.cell? ⟨wr.heap.size,6,S⟩=N (J Z x.inner):=(by simp[World.cell?,c]);have e0:Hd (IV A (Q m p s) x.items):=d9.o.of_kept (λq hq=>by
      have t:=b7.o q hq;exact(I.kept q (Nat.lt_of_lt_of_le t R.o) ol).trans ((Below.heap_alloc _ _ _ (Nat.lt_of_lt_of_le t a8)).trans (L.o q t)))
     have d8:Hd (∀q,(Q m p s).ownBlock=N q->q≠(w.heap.size+1+1)/\q<A.heap.size):=λq hq=>by
      have t:=b7.o q hq;exact⟨ol,Nat.lt_of_lt_of_le t (Nat.le_trans R.o I.bel.size)⟩
     clear h5 I c;go_wp2_with fail;refine(zaz (w.heap.size+1+1) (qO x fi) x m p s _ e6.o a4.o e0.o d8.o _ F.o.symm).mono ?_;rintro e w6 ⟨rfl,h6,k6⟩;have e8:Hd _:=h6;have e4:Hd _:=a2.o.trans k6;clear h6 k6 x0 x1 x2 x3 x4 x5 x6;go_wp2_with fail;go_roundg (gk-1)
     case measure=>omega
     case rel=>exact⟨i+1,ol,by go_num,e8.o,e4.o⟩
    ·have g1:¬((i:Int)<(a.length:Int)):=(by omega);have b2:i=a.length:=ol;have c5:Hd (FM wr (w.heap.size+1+1) f'):=(by show FM _ _ _;rw[<-e9.o,<-b2];exact c4.o);clear b2;have q0:=c5.o.c0;have q1:=c5.o.c1;have s0:wr.cell? ⟨w.heap.size+1,0,S⟩=N (J Z 0):=(by simp[World.cell?,a1.o]);have s1:wr.cell? ⟨w.heap.size+1,1,S⟩=N (J Z 0):=(by simp[World.cell?,a1.o]);have sz:∀q,wr.frozen? ⟨w.heap.size+1,q,S⟩=T:=λq=>by simp[World.frozen?,a1.o]
     have f1:Hd (Below w.heap.size w wr):=HB.o.trans (b9.o.bel.mono ol);go_wp2_with fail;exact bodyPost_ret (v:=.agg #[J Z f'.1,J Z f'.2]) (by simp[results,results49,go_sem,s0,s1]) rfl ⟨rfl,(f1.o.setCell ot _).setCell ot _⟩
end
end Go.Proofs.YtaebngpoagjafabGreat
