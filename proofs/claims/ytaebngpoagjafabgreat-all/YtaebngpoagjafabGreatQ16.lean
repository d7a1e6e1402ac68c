import Derived.Test.YtaebngpoagjafabGreatQ13
set_option maxRecDepth 100000
set_option maxHeartbeats 3200000
namespace Go.Proofs.YtaebngpoagjafabGreat
open Bool renaming false → F,true → N
open Option renaming some → S,none → P
open Proofs.Tryz renaming prog → E
open Proofs.Tryz
open Value renaming int → J, slice → O
open IntKind renaming i64 → Z
open Go.RowKit
attribute [local go_sem ↓] Go.wp_at_zero Go.wp_at_succ
def SL(w:World)(b:Nat)(l:List SG):Prop:=∀i g,l[i]?=S g->w.cell? ⟨b,i*5,P⟩=S (J Z g.kind)/\w.cell? ⟨b,i*5+1,P⟩=S (J Z g.place)/\w.cell? ⟨b,i*5+2,P⟩=S (J Z g.depth)/\w.cell? ⟨b,i*5+3,P⟩=S (J Z g.list)/\w.cell? ⟨b,i*5+4,P⟩=S (.string g.text)
theorem SL.of_block{w w':World}{b:Nat}{l:List SG}(h:SL w b l)(e:w'.heap[b]?=w.heap[b]?):SL w' b l:=λi g hg=>by
 obtain⟨j,f,d,c,a⟩:=h i g hg;exact⟨by rw[World.cell?_of_block (w:=w) e];exact j,by rw[World.cell?_of_block (w:=w) e];exact f,by rw[World.cell?_of_block (w:=w) e];exact d,by rw[World.cell?_of_block (w:=w) e];exact c,by rw[World.cell?_of_block (w:=w) e];exact a⟩
def ZT(g:SG):List SG->Nat
 | []=>0
 |x::r=>ZT g r+(if x.list=g.list/\x.kind=g.kind then 1 else 0)
def Z4(g:SG):List SG->Bool
 | []=>F
 |x::r=>Z4 g r || (decide (x.list=g.list/\x.kind=g.kind) && (x.text.toList==g.text.toList))
theorem zfV(g:SG)(l:List SG)(n:Nat)(h:l.length<=n):ZT g l<=n:=by
 induction l generalizing n with
 |nil=>exact Nat.zero_le _
 | cons x r ih =>
  simp only[List.length_cons]at h;simp only[ZT];have:=ih (n-1) ol
  split<;>omega
theorem zaT(b cap:Nat)(l:List SG)(i:Nat)(g:SG)(w:World)(h:SL w b l)(Y:l.length<=100000)(p:l[i]?=S g):
 Calls E 137 #[O (S ⟨b,0,P⟩) l.length cap,J Z i] w λe w'=>Below w.heap.size w w'/\e=.returned (.tuple #[J Z (ZT g (l.take i).reverse),.bool (Z4 g (l.take i).reverse)]):=by
 go_enter func137,ntmps137;go_wp2_with fail;have D:i<l.length:=(List.getElem?_eq_some_iff.1 p).1;go_loopg [6,7,8] i (λn x y z wr=>∃(j:Nat),n+j=i/\x=J Z (ZT g (l.take j).reverse)/\y=.bool (Z4 g (l.take j).reverse)/\z=J Z j/\wr.heap=w.heap/\Below w.heap.size w wr)
 case atStart=>exact⟨0,ol,rfl,rfl,rfl,rfl,Below.refl _ _⟩
 case round =>
  obtain⟨j,X,rfl,rfl,rfl,u,B⟩:=hrel;have k:Hd _:=B;have s:Hd (wr.heap=w.heap):=u;have c:SL wr b l:=h.of_block (by rw[u]);obtain⟨g0,g1,g2,g3,g4⟩:=c i g p;have W:(0:Int)<=(i:Int):=ol;have V:(i:Int)<(l.length:Int):=ol;have U:(0:Int)<=(j:Int):=ol;clear B u;by_cases C:j<i
  ·have A:(j:Int)<(i:Int):=(by omega);have R:(j:Int)<(l.length:Int):=ol;obtain⟨x,m⟩:∃x,l[j]?=S x:=⟨l[j]'(by omega),List.getElem?_eq_getElem ol⟩;obtain⟨N,L,K,I,H⟩:=c j x m;have d:(l.take (j+1)).reverse=x::(l.take j).reverse:=by
    rw[List.take_add_one,m];simp
   have r:Hd (ZT g (l.take (j+1)).reverse=ZT g (l.take j).reverse+(if x.list=g.list/\x.kind=g.kind then 1 else 0)):=(by show _=_;rw[d];rfl);have q:Hd (Z4 g (l.take (j+1)).reverse=(Z4 g (l.take j).reverse || (decide (x.list=g.list/\x.kind=g.kind) && (x.text.toList==g.text.toList)))):=(by show _=_;rw[d];rfl);have G:ZT g (l.take j).reverse<=j:=zfV g _ j ow;clear d c h;have HX:Hd _:=m;have HG:Hd _:=p;clear m p;generalize hBN:ZT g (l.take j).reverse=bn at *;generalize hBS:Z4 g (l.take j).reverse=bs at *;clear hBN hBS;have Q:(bn:Int)<=100000:=ol;cases hL:(x.list==g.list)with
   | false =>
    have a:Hd (¬(x.list=g.list/\x.kind=g.kind)):=λhc=>by have:=beq_eq_false_iff_ne.1 hL;exact this hc.1
    go_wp2_with fail;go_quiet (fail)
    go_wp2_with fail;go_roundg (gk-1)
    case measure=>omega
    case rel=>exact⟨j+1,ol,by rw[r.o,if_neg a.o];rfl,by rw[q.o,decide_eq_false a.o];simp,by go_num,s.o,zT k.o _⟩
   | true =>
    have f:x.list=g.list:=(by simpa using hL);cases hK:(x.kind==g.kind)with
    | false =>
     have a:Hd (¬(x.list=g.list/\x.kind=g.kind)):=λhc=>by have:=beq_eq_false_iff_ne.1 hK;exact this hc.2
     clear f;go_wp2_with fail;go_quiet (fail)
     go_wp2_with fail;go_roundg (gk-1)
     case measure=>omega
     case rel=>exact⟨j+1,ol,by rw[r.o,if_neg a.o];rfl,by rw[q.o,decide_eq_false a.o];simp,by go_num,s.o,zT k.o _⟩
    | true =>
     have v:Hd (x.list=g.list/\x.kind=g.kind):=⟨f,by simpa using hK⟩;clear f;cases bs with
     | true =>
      go_wp2_with fail;go_quiet (fail)
      go_wp2_with fail;go_quiet (fail)
      go_wp2_with fail;go_roundg (gk-1)
      case measure=>omega
      case rel=>exact⟨j+1,ol,by rw[r.o,if_pos v.o];rfl,by rw[q.o];simp,by go_num,s.o,zT k.o _⟩
     | false =>
      go_wp2_with fail;go_quiet (fail)
      go_wp2_with fail;go_quiet (fail)
      go_wp2_with fail;go_roundg (gk-1)
      case measure=>omega
      case rel=>exact⟨j+1,ol,by rw[r.o,if_pos v.o];rfl,by rw[q.o,decide_eq_true v.o];simp,by go_num,s.o,zT k.o _⟩
  ·have t:j=i:=(by omega);have hd:decide ((j:Int)<(i:Int))=F:=decide_eq_false ol;subst t;go_wp2_with fail;go_ret2;exact⟨k.o,rfl⟩
def ZI:List SG->Nat
 | []=>0
 |x::r=>if x.kind=1 then r.length+1 else ZI r
def isR(g x:SG):Bool:=decide (x.kind=1) && (x.text.toList==g.text.toList)
def JF(l:List SG)(n:Nat):Int:=(ZI (l.take n).reverse:Int)-1
theorem JE(l:List SG):ZI l<=l.length:=by
 induction l with
 |nil=>exact Nat.le_refl _
 |cons x r ih=>simp only[ZI,List.length_cons];split<;>omega
theorem zca(b cap:Nat)(l:List SG)(i:Nat)(g:SG)(w:World)(h:SL w b l)(hl:l.length<=100000)(C:l[i]?=S g):
 Calls E 136 #[O (S ⟨b,0,P⟩) l.length cap,J Z i] w λe w'=>Below w.heap.size w w'/\e=.returned (.bool ((l.take (ZI (l.take (i+1)).reverse-1)).any (isR g))):=by
 go_enter func136,ntmps136;go_wp2_with fail;have a1:i<l.length:=(List.getElem?_eq_some_iff.1 C).1;go_loopg [5,6] (i+1) (λn x y wr=>∃(j:Nat),n+j=i+1/\x=J Z (JF l j)/\y=J Z j/\wr.heap=w.heap/\Below w.heap.size w wr)
 case atStart=>exact⟨0,ol,rfl,rfl,rfl,Below.refl _ _⟩
 case round =>
  obtain⟨j,hn,rfl,rfl,k,v⟩:=hrel;have H:Hd _:=v;have D:Hd (wr.heap=w.heap):=k;have a:SL wr b l:=h.of_block (by rw[k]);have i0:(0:Int)<=(i:Int):=ol;have i1:(i:Int)<(l.length:Int):=ol;have j0:(0:Int)<=(j:Int):=ol;clear v k;by_cases t:j<=i
  ·have s:(j:Int)<=(i:Int):=(by omega);have j1:(j:Int)<(l.length:Int):=ol;obtain⟨x,c⟩:∃x,l[j]?=S x:=⟨l[j]'(by omega),List.getElem?_eq_getElem ol⟩;obtain⟨x0,Y,X,W,V⟩:=a j x c;have r:(l.take (j+1)).reverse=x::(l.take j).reverse:=by
    rw[List.take_add_one,c];simp
   have z:Hd (JF l (j+1)=if x.kind=1 then(j:Int)else JF l j):=by
    show _=_;unfold JF;rw[r];simp only[ZI,List.length_reverse,List.length_take];split
    ·rw[Nat.min_eq_left ol];omega
    ·rfl
   clear r a;have HX:Hd _:=c;clear c;cases hK:(x.kind==1)with
   | false =>
    have p:Hd (¬x.kind=1):=λhc=>by have:=beq_eq_false_iff_ne.1 hK;exact this hc
    go_wp2_with fail;go_roundg (gk-1)
    case measure=>omega
    case rel=>exact⟨j+1,ol,by rw[z.o,if_neg p.o],by go_num,D.o,H.o⟩
   | true =>
    have p:Hd (x.kind=1):=(by show _=_;simpa using hK);go_wp2_with fail;go_roundg (gk-1)
    case measure=>omega
    case rel=>exact⟨j+1,ol,by rw[z.o,if_pos p.o],by go_num,D.o,H.o⟩
  ·have d:j=i+1:=(by omega);have hd:¬(j:Int)<=(i:Int):=ol;subst d;have u:=JE (l.take (i+1)).reverse;have HG:Hd _:=C;have G:Hd (SL wr b l):=a;obtain⟨R,Q,L,K,I⟩:=a i g C;unfold JF;clear C a h;simp only[List.length_reverse,List.length_take]at u;rw[Nat.min_eq_left ol]at u;generalize hm:ZI (l.take (i+1)).reverse=m at *;have A:Hd _:=hm;clear hm;go_wp2_with fail;clear R Q L K I;go_loopg [7] m (λn x wz=>∃(j:Nat),n+j=m/\j<=m-1/\x=J Z j/\Hd ((l.take j).any (isR g)=F)/\wz.heap=w.heap/\Below w.heap.size w wz)
   case atStart=>exact⟨0,ol,ol,rfl,rfl,D.o,H.o⟩
   case round =>
    obtain⟨j,hn,a0,rfl,U,k,v⟩:=hrel;have f:Hd _:=v;have B:Hd _:=k;have a:SL wr b l:=G.o.of_block (by rw[k,D.o]);obtain⟨R,Q,L,K,I⟩:=a i g HG.o;have j0:(0:Int)<=(j:Int):=ol;clear v k;by_cases t:j<m-1
    ·have s:(j:Int)<(m:Int)-1:=(by omega);have j1:(j:Int)<(l.length:Int):=ol;obtain⟨x,c⟩:∃x,l[j]?=S x:=⟨l[j]'(by omega),List.getElem?_eq_getElem ol⟩;obtain⟨x0,Y,X,W,V⟩:=a j x c;have z:Hd ((l.take (j+1)).any (isR g)=isR g x):=by
      show _=_;rw[List.take_add_one,c,List.any_append,U.o];simp
     have HY:Hd (isR g x=N->(l.take (m-1)).any (isR g)=N):=λh1=>by
      rw[List.any_eq_true];refine⟨x,?_,h1⟩;rw[List.mem_iff_getElem?];exact⟨j,by rw[List.getElem?_take_of_lt t];exact c⟩
     clear a c;cases hK:(x.kind==1)with
     | false =>
      have q:Hd (isR g x=F):=by
       show _=_;have:=beq_eq_false_iff_ne.1 hK
       simp[isR,this]
      go_wp2_with fail;go_quiet (fail)
      go_wp2_with fail;go_roundg (gk-1)
      case measure=>omega
      case rel=>exact⟨j+1,ol,ol,by go_num,z.o.trans q.o,B.o,zT f.o _⟩
     | true =>
      cases hT:(x.text.toList==g.text.toList)with
      | false =>
       have q:Hd (isR g x=F):=by
        show _=_;simp only[isR,hT];simp
       go_wp2_with fail;go_quiet (fail)
       go_wp2_with fail;go_roundg (gk-1)
       case measure=>omega
       case rel=>exact⟨j+1,ol,ol,by go_num,z.o.trans q.o,B.o,zT f.o _⟩
      | true =>
       have q:Hd ((l.take (m-1)).any (isR g)=N):=HY.o (by
        have:=beq_iff_eq.1 hK
        simp only[isR,hT,this];simp)
       go_wp2_with fail;go_quiet (fail)
       go_wp2_with fail;go_ret;exact⟨zT f.o _,by rw[A.o,q.o];rfl⟩
    ·have d:j=m-1:=(by omega);have hd:¬(j:Int)<(m:Int)-1:=ol;have q:Hd ((l.take (m-1)).any (isR g)=F):=(by show _=_;rw[<-d];exact U.o);clear d;go_wp2_with fail;go_ret;exact⟨f.o,by rw[A.o,q.o];rfl⟩
theorem T.ch_extract(s:ByteArray)(p e i:Nat)(c:e<=s.size)(hi:i<e-p):T.ch (s.extract p e) i=T.ch s (p+i):=by
 have b:i<(s.extract p e).size:=by rw[ByteArray.size_extract];omega
 have a:p+i<s.size:=ol;rw[T.ch_lt b,T.ch_lt a];rw[ByteArray.getElem_extract]
theorem T.size_extract(s:ByteArray)(p e:Nat)(a:e<=s.size):(s.extract p e).size=e-p:=by rw[ByteArray.size_extract];omega
theorem T.dgF_all(s:ByteArray)(a c:Int)(b:Bool)(p:Nat):∀n j,p<=j->((j:Int)-p<=a)->(∀i,p<=i->i<j->T.dig (T.ch s i)=N)->0<=a ->
 (((T.dgF s a c b p n j).2:Int)-p<=a)/\(∀i,p<=i->i<(T.dgF s a c b p n j).2->T.dig (T.ch s i)=N):=by
 intro n;induction n with
 |zero=>intro j _ e d _;exact⟨e,d⟩
 | succ n ih =>
  intro j h e d g;cases hd:T.dig (T.ch s j)with
  |false=>rw[T.dgF_end hd];exact⟨e,d⟩
  | true =>
   cases hs:T.stp a c b (T.ch s j) ((j:Int)-p) (T.ch s p)with
   |true=>rw[T.dgF_stop hd hs];exact⟨e,d⟩
   | false =>
    rw[T.dgF_next hd hs];simp only[T.stp,Bool.or_eq_false_iff,beq_eq_false_iff_ne]at hs;refine ih (j+1) ol ol (λi hi1 hi2=>?_) g;by_cases f:i=j
    ·rw[f];exact hd
    ·exact d i hi1 ol
theorem T.dg_all(s:ByteArray)(b c:Int)(a:Bool)(p:Nat)(g:p<=s.size)(j:0<=b):T.digs (s.extract p (T.dg s b c a p).2)/\(((s.extract p (T.dg s b c a p).2).size:Int)<=b):=by
 have d:=T.dg_bd s b c a p g;have h:=T.dgF_all s b c a p (s.size-p+1) p (Nat.le_refl _) ol (λi h1 h2=>ol) j;have e:T.dgF s b c a p (s.size-p+1) p=T.dg s b c a p:=rfl;rw[e]at h;generalize(T.dg s b c a p).2=z at *;constructor
 ·intro i f;rw[T.size_extract _ _ _ d.2]at f;rw[T.ch_extract _ _ _ _ d.2 f];have:=h.2 (p+i) ol ol
  simp only[T.dig,Bool.and_eq_true,decide_eq_true_eq]at this;exact this
 ·rw[T.size_extract _ _ _ d.2];omega
def FI(f:FR):Prop:=(f.sym=262->f.kind=9)/\(f.sym=263->f.kind=1\/f.kind=2)
def SI(g:SG):Prop:=g.text.size<=2000/\((g.kind=1\/g.kind=2\/g.kind=3\/g.kind=9)\/(T.digs g.text/\g.text.size<=9))
theorem zd9(d:Int)(p:Nat)(c:Int)(l:List FR)(h:Yx d p c=S l):∀f∈l,FI f:=by
 unfold Yx at h;repeat' split at h
 all_goals first
  |(simp at h;done)
  |(injection h with h;subst h;simp[byF,FI])
theorem zdW(f:FR):∀g∈ZJ f,FI g:=by
 unfold ZJ;repeat' split
 all_goals (simp[byF,FI])
def RI(r:Res):Prop:=(∀g∈r.push,FI g)/\(∀g∈r.sg,SI g)
theorem zc8(s:ByteArray)(k:Nat)(f:FR)(d:k<=s.size)(b:FI f):RI (zq s k f):=by
 have c:=T.sk_le d;unfold zq;generalize T.sk s k=p at *;simp only;split
 ·simp[RI,byF,FI]
 ·split
  ·split<;>simp[RI,byF,FI]
  ·split
   ·split
    ·next l hl =>
     refine⟨zd9 _ _ _ _ hl,?_⟩;intro g a;simp only[List.mem_singleton]at a;subst a;exact⟨ot,.inl ot⟩
    ·simp[RI]
   ·split
    ·exact⟨zdW f,ot⟩
    ·split
     ·next e4 =>
      split
      ·refine⟨?_,ot⟩;intro g a;simp only[List.mem_cons,List.not_mem_nil,or_false]at a;rcases a with rfl|rfl|rfl
       ·simp[byF,FI]
       ·simp[FI]
       ·exact b
      ·simp[RI]
     ·split
      ·have:=T.dg_all s 9 58 N p c ol
       split
       ·refine⟨ot,?_⟩;intro g a;simp only[List.mem_singleton]at a;subst a;exact⟨by have:=this.2;simp only;omega,.inr ⟨this.1,by have:=this.2;simp only;omega⟩⟩
       ·simp[RI]
      ·split
       ·next e6 =>
        have:=T.dg_all s 32 50 F p c ol
        split
        ·refine⟨ot,?_⟩;intro g a;simp only[List.mem_singleton]at a;subst a;exact⟨by have:=this.2;simp only;omega,.inl (.inr (.inr (.inr (b.1 e6))))⟩
        ·simp[RI]
       ·split
        ·next e7 =>
         split
         ·next hc =>
          have:=T.ch_nn (s:=s) (k:=p) ol
          refine⟨ot,?_⟩;intro g a;simp only[List.mem_singleton]at a;subst a;refine⟨by simp only;rw[T.size_extract _ _ _ ol];omega,.inl ?_⟩;rcases b.2 e7 with h|h
          ·exact .inl h
          ·exact .inr (.inl h)
         ·simp[RI]
        ·split<;>simp[RI]
theorem zf9(s:ByteArray)(c:Nat->FR->Option PR)(o:∀k f q,k<=s.size->0<=f.sym->0<=f.depth->FI f->c k f=S q->q.at_<=s.size/\q.sg.length<=q.n/\∀g∈q.sg,SI g):
 ∀(l:List FR) (k:Nat) (q:PR),k<=s.size->(∀f∈l,0<=f.sym/\0<=f.depth/\FI f)->pL c k l=S q->q.at_<=s.size/\q.sg.length<=q.n/\∀g∈q.sg,SI g:=by
 intro l;induction l with
 | nil =>
  intro k q d _ h;simp only[pL]at h;injection h with h
  subst h;exact⟨d,ot,ot⟩
 | cons f r ih =>
  intro k q d j h;simp only[pL]at h;have e:=j f ot;split at h
  ·simp at h
  ·next a ha =>
   have i:=o k f a d e.1 e.2.1 e.2.2 ha;split at h
   ·split at h
    ·simp at h
    ·next b hb =>
     injection h with h
     subst h;have m:=ih a.at_ b i.1 (λg hg=>j g (by simp[hg])) hb;refine⟨m.1,by simp only[List.length_append];omega,?_⟩;intro g hg;rcases List.mem_append.1 hg with hg|hg
     ·exact m.2.2 g hg
     ·exact i.2.2 g hg
   ·injection h with h
    subst h;exact i
theorem zg1(s:ByteArray):∀(n k:Nat) (f:FR) (q:PR),k<=s.size->0<=f.sym->0<=f.depth->FI f->pF s n k f=S q->q.at_<=s.size/\q.sg.length<=q.n/\∀g∈q.sg,SI g:=by
 intro n;induction n with
 |zero=>intro k f q _ _ _ _ h;simp[pF]at h
 | succ n ih =>
  intro k f q c l j i h;have a:=XI s k f c l j;have d:=zc8 s k f c i;simp only[pF]at h;split at h
  ·split at h
   ·simp at h
   ·next b hb =>
    injection h with h
    subst h;have e:=zf9 s (pF s n) ih (zq s k f).push (zq s k f).at_ b a.hi (λg hg=>by
     rcases a.fst with hp|⟨f0,r,hp,_,_,hall⟩
     ·rw[hp]at hg;simp at hg
     ·have:=hall g hg;exact⟨this.1,this.2.1,d.1 g hg⟩) hb
    refine⟨e.1,by have:=a.sg;simp only[List.length_append];omega,?_⟩;intro g hg;rcases List.mem_append.1 hg with hg|hg
    ·exact e.2.2 g hg
    ·exact d.2 g hg
  ·injection h with h
   subst h;exact⟨a.hi,ot,ot⟩
theorem zfd(s:ByteArray)(h:s.size<=2000):(rd s).2.1<=s.size/\(rd s).2.2.length<=40000/\(∀g∈(rd s).2.2,SI g)/\∃M R,M<=40000/\Xo s M 0 [⟨256,0,0,0⟩,⟨257,0,0,0⟩] []=S R/\rd s=rdE s R:=by
 obtain⟨q,a,c,i,f⟩:=Jo s;have d:=zf9 s _ (zg1 s _) _ _ _ (Nat.zero_le _) (by simp[FI]) a;have e:rd s=rdE s (q.ok,q.at_,if q.ok=N then q.sg else[]):=by unfold rd;rw[a]
 have b:=T.sk_le c;refine⟨?_,?_,?_,q.n,_,ol,f,e⟩
 ·rw[e];unfold rdE;simp only;split
  ·split
   ·exact b
   ·exact b
  ·exact c
 ·rw[e];unfold rdE;simp only;split
  ·split
   ·simp
   ·show q.sg.length<=40000;omega
  ·simp
 ·rw[e];unfold rdE;simp only;split
  ·split
   ·simp
   ·exact d.2.2
  ·simp
theorem zda(l:List SG):sgC l=l.reverse.flatMap sgV:=by
 induction l with
 |nil=>rfl
 |cons g r ih=>simp only[sgC,ih,List.reverse_cons,List.flatMap_append];simp
theorem ze6(a:List SG):∀(i:Nat) (f:SG) (j:Nat),a[i]?=S f->j<5->(a.flatMap sgV)[i*5+j]?=(sgV f)[j]?:=by
 induction a with
 |nil=>intro i f j h;simp at h
 | cons g r ih =>
  intro i f j h b;simp only[List.flatMap_cons];cases i with
  | zero =>
   simp at h;subst h;rw[Nat.zero_mul,Nat.zero_add,List.getElem?_append_left (by simp[sgV];omega)]
  | succ i =>
   simp at h;have:=ih i f j h b
   rw[List.getElem?_append_right (by simp[sgV];omega)];have e:(i+1)*5+j-(sgV g).length=i*5+j:=(by simp[sgV];omega);rw[e];exact this
theorem SL.of_row{w:World}{base b cap:Nat}{c:List SG}(h:w.ownsRow base 162 5 (O (S ⟨b,0,P⟩) c.length cap) c.length (sgC c)):SL w b c.reverse:=by
 intro i g d;have e:i<c.length:=by have:=(List.getElem?_eq_some_iff.1 d).1;simpa using this
 have a:∀j,j<5->w.cell? ⟨b,i*5+j,P⟩=(sgV g)[j]?:=λj hj=>by
  rw[World.ownsRow.cellAt h (i*5+j) ol,zda];exact ze6 _ i g j d hj
 exact⟨a 0 ol,a 1 ol,a 2 ol,a 3 ol,a 4 ol⟩
def zS(k v:Int):Bool :=
 if k=4 then decide (64<=v)else if k=5 then(v==0 || decide (1000<v))else if k=6 then(v==0 || decide (86400<v))
 else if k=7 then decide (99<v)else if k=8 then decide (16<=v)else F
def sgA(g:SG):Value:=.agg #[J Z g.kind,J Z g.place,J Z g.depth,J Z g.list,.string g.text]
theorem ZA(g:SG)(w:World)(r:g.text.size<=2000):
 Calls E 138 #[sgA g] w λe w'=>Below w.heap.size w w'/\∃v,e=.returned (.bool (zS g.kind v))/\(T.digs g.text->g.text.size<=9->v=T.val g.text g.text.size):=by
 unfold sgA;go_enter func138,ntmps138;go_wp2_with fail;refine(ZB g.text _ r).mono ?_;rintro e i ⟨d,v,rfl,q⟩;have f:Below w.heap.size w i:=((Below.refl _ _).alloc (Nat.le_refl _) _).trans (d.mono ot);have h:i.cell? ⟨w.heap.size,0,P⟩=S (J Z g.kind):=(d.cell (p:=⟨w.heap.size,0,P⟩) ot).trans ot;have c:Hd (Below w.heap.size w i):=f;have b:Hd (T.digs g.text->g.text.size<=9->v=T.val g.text g.text.size):=q;clear f d q;cases k4:(g.kind==4)with
 | true =>
  have n:g.kind=4:=by simpa using k4
  clear k4;rw[n]at h;have a:Hd (zS g.kind v=decide (64<=v)):=by show _=_;rw[n];rfl
  clear n;go_wp2_with fail;go_ret;exact⟨c.o,v,by rw[a.o];rfl,b.o⟩
 | false =>
  cases k5:(g.kind==5)with
  | true =>
   have m:g.kind=5:=(by simpa using k5);clear k5 k4;rw[m]at h;have a:Hd (zS g.kind v=(v==0 || decide (1000<v))):=(by show _=_;rw[m];rfl);clear m;cases v0:(v==0)with
   | true =>
    have a:Hd (zS g.kind v=N):=a.o.trans (by rw[v0];rfl);go_wp2_with fail;go_ret;exact⟨c.o,v,by rw[a.o];rfl,b.o⟩
   | false =>
    have a:Hd (zS g.kind v=decide (1000<v)):=a.o.trans (by rw[v0];rfl);go_wp2_with fail;go_ret;exact⟨c.o,v,by rw[a.o];rfl,b.o⟩
  | false =>
   cases k6:(g.kind==6)with
   | true =>
    have l:g.kind=6:=(by simpa using k6);clear k6 k4 k5;rw[l]at h;have a:Hd (zS g.kind v=(v==0 || decide (86400<v))):=(by show _=_;rw[l];rfl);clear l;cases v0:(v==0)with
    | true =>
     have a:Hd (zS g.kind v=N):=a.o.trans (by rw[v0];rfl);go_wp2_with fail;go_ret;exact⟨c.o,v,by rw[a.o];rfl,b.o⟩
    | false =>
     have a:Hd (zS g.kind v=decide (86400<v)):=a.o.trans (by rw[v0];rfl);go_wp2_with fail;go_ret;exact⟨c.o,v,by rw[a.o];rfl,b.o⟩
   | false =>
    cases k7:(g.kind==7)with
    | true =>
     have k:g.kind=7:=(by simpa using k7);clear k7 k4 k5 k6;rw[k]at h;have a:Hd (zS g.kind v=decide (99<v)):=(by show _=_;rw[k];rfl);clear k;go_wp2_with fail;go_ret;exact⟨c.o,v,by rw[a.o];rfl,b.o⟩
    | false =>
     cases k8:(g.kind==8)with
     | true =>
      have j:g.kind=8:=(by simpa using k8);clear k8 k4 k5 k6 k7;rw[j]at h;have a:Hd (zS g.kind v=decide (16<=v)):=(by show _=_;rw[j];rfl);clear j;go_wp2_with fail;go_ret;exact⟨c.o,v,by rw[a.o];rfl,b.o⟩
     | false =>
      have a:Hd (zS g.kind v=F):=by
       show _=_;simp only[beq_eq_false_iff_ne]at k4 k5 k6 k7 k8;unfold zS;rw[if_neg k4,if_neg k5,if_neg k6,if_neg k7,if_neg k8]
      go_wp2_with fail;go_ret;exact⟨c.o,v,by rw[a.o];rfl,b.o⟩
def yc(kd d:Int)(th:Bool)(n:Int)(sm wr:Bool):Int :=
 if kd=3/\12<=d then 3 else if 16<=n then 4 else if(kd=1/\th=N)\/(kd=2/\th=F)then 5 else if wr=N then 6 else if sm=N then 7 else 0
def jB(l:List SG)(i:Nat)(g:SG):Bool:=(l.take (ZI (l.take (i+1)).reverse-1)).any (isR g)
def QI(l:List SG)(i:Nat)(g:SG):Int:=if g.list=-1 then 0 else(ZT g (l.take i).reverse:Int)
def Qv(l:List SG)(i:Nat)(g:SG):Bool:=if g.list=-1 then F else Z4 g (l.take i).reverse
def zcp(l:List SG)(i:Nat)(g:SG)(v:Int):Int:=yc g.kind g.depth (jB l i g) (QI l i g) (Qv l i g) (zS g.kind v)
theorem zcr(b cap:Nat)(l:List SG)(i:Nat)(g:SG)(w:World)(h:SL w b l)(hl:l.length<=100000)(hg:l[i]?=S g)(a2:b<w.heap.size)(X:g.text.size<=2000):
 Calls E 97 #[O (S ⟨b,0,P⟩) l.length cap,J Z i] w λe w'=>Below w.heap.size w w'/\∃v,e=.returned (J Z (zcp l i g v))/\(T.digs g.text->g.text.size<=9->v=T.val g.text g.text.size):=by
 obtain⟨g0,g1,g2,g3,g4⟩:=h i g hg;have a8:i<l.length:=(List.getElem?_eq_some_iff.1 hg).1;have i0:(0:Int)<=(i:Int):=ol;have i1:(i:Int)<(l.length:Int):=ol;have a7:Hd (SL w b l):=h;have HG:Hd _:=hg;clear h hg;unfold zcp;generalize hth:jB l i g=th;generalize hnn:QI l i g=n;generalize hsm:Qv l i g=sm;have a6:Hd _:=hth;have V:Hd _:=hnn;have U:Hd _:=hsm;clear hth hnn hsm;go_enter func97,ntmps97;go_wp2_with fail;have H:SL (w.alloc (.cells #[J Z g.kind,J Z g.place,J Z g.depth,J Z g.list,.string g.text] 162)) b l:=a7.o.of_block (Below.heap_alloc _ _ _ a2);have a0:=zca b cap l i g _ H hl HG.o;rw[show(l.take (ZI (l.take (i+1)).reverse-1)).any (isR g)=th from a6.o]at a0;refine a0.mono ?_;rintro e D ⟨G,rfl⟩;have A:w.heap.size<D.heap.size:=Nat.lt_of_lt_of_le ot G.size;have q:∀j,D.cell? ⟨w.heap.size,j,P⟩=(w.alloc (.cells #[J Z g.kind,J Z g.place,J Z g.depth,J Z g.list,.string g.text] 162)).cell? ⟨w.heap.size,j,P⟩:=λj=>G.cell (p:=⟨w.heap.size,j,P⟩) ot
 have b0:D.cell? ⟨w.heap.size,0,P⟩=S (J Z g.kind):=(q 0).trans ot;have b1:D.cell? ⟨w.heap.size,1,P⟩=S (J Z g.place):=(q 1).trans ot;have b2:D.cell? ⟨w.heap.size,2,P⟩=S (J Z g.depth):=(q 2).trans ot;have b3:D.cell? ⟨w.heap.size,3,P⟩=S (J Z g.list):=(q 3).trans ot;have b4:D.cell? ⟨w.heap.size,4,P⟩=S (.string g.text):=(q 4).trans ot;have a4:Hd (Below w.heap.size w D):=((Below.refl _ _).alloc (Nat.le_refl _) _).trans (G.mono ot);have a3:Hd (SL D b l):=H.of_block (G.block _ (Nat.lt_of_lt_of_le a2 ot));clear a0 H q G g0 g1 g2 g3 g4;cases hl1:(g.list==-1)with
 | true =>
  have z:g.list=-1:=by simpa using hl1
  have a5:(g.list != -1)=F:=by simp[bne,hl1]
  have en:n=0:=by rw[<-V.o];unfold QI;rw[if_pos z]
  have es:sm=F:=by rw[<-U.o];unfold Qv;rw[if_pos z]
  clear V U z;have x:Hd _:=a4.o;have u:Hd (w.heap.size<=D.heap.size):=Nat.le_of_lt A;subst en;subst es;cases k3:(g.kind==3)with
  | true =>
   have B:g.kind=3:=(by simpa using k3);have Y:(g.kind==1)=F:=(by rw[B];decide);have L:(g.kind==2)=F:=(by rw[B];decide);by_cases C:12<=g.depth
   ·have dd:decide (12<=g.depth)=N:=decide_eq_true C;have f:Hd (∀wr,yc g.kind g.depth th 0 F wr=3):=λwr=>by simp[yc,B,C]
    clear B;go_wp2_with fail;go_ret;exact⟨x.o,T.val g.text g.text.size,by rw[f.o];rfl,λ_ _=>rfl⟩
   ·have dd:decide (12<=g.depth)=F:=decide_eq_false C;have f:Hd (∀wr,yc g.kind g.depth th 0 F wr=if wr=N then 6 else 0):=λwr=>by simp[yc,B,C]
    clear C B;go_wp2_with fail;refine(ZA g _ X).mono ?_;rintro e y ⟨d,v,rfl,r⟩;have c:Hd (Below w.heap.size w y):=x.o.trans (d.mono u.o);have a:Hd _:=r;clear d r;cases hwr:zS g.kind v with
    | true =>
     have k:Hd (yc g.kind g.depth th 0 F (zS g.kind v)=6):=(by show _=_;rw[f.o,hwr];rfl);go_wp2_with fail;go_ret;exact⟨c.o,v,by rw[k.o];rfl,a.o⟩
    | false =>
     have k:Hd (yc g.kind g.depth th 0 F (zS g.kind v)=0):=(by show _=_;rw[f.o,hwr];rfl);go_wp2_with fail;go_ret;exact⟨c.o,v,by rw[k.o];rfl,a.o⟩
  | false =>
   have m:¬g.kind=3:=beq_eq_false_iff_ne.1 k3;cases Y:(g.kind==1)with
   | true =>
    have K:g.kind=1:=(by simpa using Y);have L:(g.kind==2)=F:=(by rw[K];decide);cases th with
    | true =>
     have f:Hd (∀wr,yc g.kind g.depth N 0 F wr=5):=λwr=>by simp[yc,K]
     clear K m;go_wp2_with fail;go_ret;exact⟨x.o,T.val g.text g.text.size,by rw[f.o];rfl,λ_ _=>rfl⟩
    | false =>
     have f:Hd (∀wr,yc g.kind g.depth F 0 F wr=if wr=N then 6 else 0):=λwr=>by simp[yc,K]
     clear K m;go_wp2_with fail;refine(ZA g _ X).mono ?_;rintro e y ⟨d,v,rfl,r⟩;have c:Hd (Below w.heap.size w y):=x.o.trans (d.mono u.o);have a:Hd _:=r;clear d r;cases hwr:zS g.kind v with
     | true =>
      have k:Hd (yc g.kind g.depth F 0 F (zS g.kind v)=6):=(by show _=_;rw[f.o,hwr];rfl);go_wp2_with fail;go_ret;exact⟨c.o,v,by rw[k.o];rfl,a.o⟩
     | false =>
      have k:Hd (yc g.kind g.depth F 0 F (zS g.kind v)=0):=(by show _=_;rw[f.o,hwr];rfl);go_wp2_with fail;go_ret;exact⟨c.o,v,by rw[k.o];rfl,a.o⟩
   | false =>
    have t:¬g.kind=1:=beq_eq_false_iff_ne.1 Y;cases L:(g.kind==2)with
    | true =>
     have R:g.kind=2:=(by simpa using L);cases th with
     | true =>
      have f:Hd (∀wr,yc g.kind g.depth N 0 F wr=if wr=N then 6 else 0):=λwr=>by simp[yc,R]
      clear R t m;go_wp2_with fail;refine(ZA g _ X).mono ?_;rintro e y ⟨d,v,rfl,r⟩;have c:Hd (Below w.heap.size w y):=x.o.trans (d.mono u.o);have a:Hd _:=r;clear d r;cases hwr:zS g.kind v with
      | true =>
       have k:Hd (yc g.kind g.depth N 0 F (zS g.kind v)=6):=(by show _=_;rw[f.o,hwr];rfl);go_wp2_with fail;go_ret;exact⟨c.o,v,by rw[k.o];rfl,a.o⟩
      | false =>
       have k:Hd (yc g.kind g.depth N 0 F (zS g.kind v)=0):=(by show _=_;rw[f.o,hwr];rfl);go_wp2_with fail;go_ret;exact⟨c.o,v,by rw[k.o];rfl,a.o⟩
     | false =>
      have f:Hd (∀wr,yc g.kind g.depth F 0 F wr=5):=λwr=>by simp[yc,R]
      clear R t m;go_wp2_with fail;go_ret;exact⟨x.o,T.val g.text g.text.size,by rw[f.o];rfl,λ_ _=>rfl⟩
    | false =>
     have I:¬g.kind=2:=beq_eq_false_iff_ne.1 L;have f:Hd (∀wr,yc g.kind g.depth th 0 F wr=if wr=N then 6 else 0):=λwr=>by simp[yc,t,I,m]
     clear t I m;go_wp2_with fail;refine(ZA g _ X).mono ?_;rintro e y ⟨d,v,rfl,r⟩;have c:Hd (Below w.heap.size w y):=x.o.trans (d.mono u.o);have a:Hd _:=r;clear d r;cases hwr:zS g.kind v with
     | true =>
      have k:Hd (yc g.kind g.depth th 0 F (zS g.kind v)=6):=(by show _=_;rw[f.o,hwr];rfl);go_wp2_with fail;go_ret;exact⟨c.o,v,by rw[k.o];rfl,a.o⟩
     | false =>
      have k:Hd (yc g.kind g.depth th 0 F (zS g.kind v)=0):=(by show _=_;rw[f.o,hwr];rfl);go_wp2_with fail;go_ret;exact⟨c.o,v,by rw[k.o];rfl,a.o⟩
 | false =>
  have z:¬g.list=-1:=beq_eq_false_iff_ne.1 hl1;have a5:(g.list != -1)=N:=by simp[bne,hl1]
  have en:((ZT g (l.take i).reverse:Nat):Int)=n:=by rw[<-V.o];unfold QI;rw[if_neg z]
  have es:Z4 g (l.take i).reverse=sm:=by rw[<-U.o];unfold Qv;rw[if_neg z]
  go_wp2_with fail;have a1:=zaT b cap l i g _ a3.o hl HG.o;rw[en,es]at a1;refine a1.mono ?_;rintro e W ⟨Q,rfl⟩;have q:∀j,W.cell? ⟨w.heap.size,j,P⟩=D.cell? ⟨w.heap.size,j,P⟩:=λj=>Q.cell (p:=⟨w.heap.size,j,P⟩) A
  have b0:W.cell? ⟨w.heap.size,0,P⟩=S (J Z g.kind):=(q 0).trans b0;have b1:W.cell? ⟨w.heap.size,1,P⟩=S (J Z g.place):=(q 1).trans b1;have b2:W.cell? ⟨w.heap.size,2,P⟩=S (J Z g.depth):=(q 2).trans b2;have b3:W.cell? ⟨w.heap.size,3,P⟩=S (J Z g.list):=(q 3).trans b3;have b4:W.cell? ⟨w.heap.size,4,P⟩=S (.string g.text):=(q 4).trans b4;have x:Hd (Below w.heap.size w W):=a4.o.trans (Q.mono (Nat.le_of_lt A));have u:Hd (w.heap.size<=W.heap.size):=Nat.le_trans (Nat.le_of_lt A) Q.size;clear a1 q Q V U z en es;cases k3:(g.kind==3)with
  | true =>
   have B:g.kind=3:=(by simpa using k3);have Y:(g.kind==1)=F:=(by rw[B];decide);have L:(g.kind==2)=F:=(by rw[B];decide);by_cases C:12<=g.depth
   ·have dd:decide (12<=g.depth)=N:=decide_eq_true C;have f:Hd (∀wr,yc g.kind g.depth th n sm wr=3):=λwr=>by simp[yc,B,C]
    clear B;go_wp2_with fail;go_ret;exact⟨x.o,T.val g.text g.text.size,by rw[f.o];rfl,λ_ _=>rfl⟩
   ·have dd:decide (12<=g.depth)=F:=decide_eq_false C;by_cases s:16<=n
    ·have dn:decide (16<=n)=N:=decide_eq_true s;have f:Hd (∀wr,yc g.kind g.depth th n sm wr=4):=λwr=>by simp[yc,B,C,s]
     go_wp2_with fail;go_ret;exact⟨x.o,T.val g.text g.text.size,by rw[f.o];rfl,λ_ _=>rfl⟩
    ·have dn:decide (16<=n)=F:=decide_eq_false s;have f:Hd (∀wr,yc g.kind g.depth th n sm wr=if wr=N then 6 else if sm=N then 7 else 0):=λwr=>by simp[yc,B,C,s]
     clear s C B;go_wp2_with fail;refine(ZA g _ X).mono ?_;rintro e y ⟨d,v,rfl,r⟩;have c:Hd (Below w.heap.size w y):=x.o.trans (d.mono u.o);have a:Hd _:=r;clear d r;cases hwr:zS g.kind v with
     | true =>
      have k:Hd (yc g.kind g.depth th n sm (zS g.kind v)=6):=(by show _=_;rw[f.o,hwr];rfl);go_wp2_with fail;go_ret;exact⟨c.o,v,by rw[k.o];rfl,a.o⟩
     | false =>
      cases sm with
      | true =>
       have k:Hd (yc g.kind g.depth th n N (zS g.kind v)=7):=(by show _=_;rw[f.o,hwr];rfl);go_wp2_with fail;go_ret;exact⟨c.o,v,by rw[k.o];rfl,a.o⟩
      | false =>
       have k:Hd (yc g.kind g.depth th n F (zS g.kind v)=0):=(by show _=_;rw[f.o,hwr];rfl);go_wp2_with fail;go_ret;exact⟨c.o,v,by rw[k.o];rfl,a.o⟩
  | false =>
   have m:¬g.kind=3:=beq_eq_false_iff_ne.1 k3;by_cases s:16<=n
   ·have dn:decide (16<=n)=N:=decide_eq_true s;have f:Hd (∀wr,yc g.kind g.depth th n sm wr=4):=λwr=>by simp[yc,m,s]
    go_wp2_with fail;go_ret;exact⟨x.o,T.val g.text g.text.size,by rw[f.o];rfl,λ_ _=>rfl⟩
   ·have dn:decide (16<=n)=F:=decide_eq_false s;cases Y:(g.kind==1)with
    | true =>
     have K:g.kind=1:=(by simpa using Y);have L:(g.kind==2)=F:=(by rw[K];decide);cases th with
     | true =>
      have f:Hd (∀wr,yc g.kind g.depth N n sm wr=5):=λwr=>by simp[yc,s,K]
      clear s K m;go_wp2_with fail;go_ret;exact⟨x.o,T.val g.text g.text.size,by rw[f.o];rfl,λ_ _=>rfl⟩
     | false =>
      have f:Hd (∀wr,yc g.kind g.depth F n sm wr=if wr=N then 6 else if sm=N then 7 else 0):=λwr=>by simp[yc,s,K]
      clear s K m;go_wp2_with fail;refine(ZA g _ X).mono ?_;rintro e y ⟨d,v,rfl,r⟩;have c:Hd (Below w.heap.size w y):=x.o.trans (d.mono u.o);have a:Hd _:=r;clear d r;cases hwr:zS g.kind v with
      | true =>
       have k:Hd (yc g.kind g.depth F n sm (zS g.kind v)=6):=(by show _=_;rw[f.o,hwr];rfl);go_wp2_with fail;go_ret;exact⟨c.o,v,by rw[k.o];rfl,a.o⟩
      | false =>
       cases sm with
       | true =>
        have k:Hd (yc g.kind g.depth F n N (zS g.kind v)=7):=(by show _=_;rw[f.o,hwr];rfl);go_wp2_with fail;go_ret;exact⟨c.o,v,by rw[k.o];rfl,a.o⟩
       | false =>
        have k:Hd (yc g.kind g.depth F n F (zS g.kind v)=0):=(by show _=_;rw[f.o,hwr];rfl);go_wp2_with fail;go_ret;exact⟨c.o,v,by rw[k.o];rfl,a.o⟩
    | false =>
     have t:¬g.kind=1:=beq_eq_false_iff_ne.1 Y;cases L:(g.kind==2)with
     | true =>
      have R:g.kind=2:=(by simpa using L);cases th with
      | true =>
       have f:Hd (∀wr,yc g.kind g.depth N n sm wr=if wr=N then 6 else if sm=N then 7 else 0):=λwr=>by simp[yc,s,R]
       clear s R t m;go_wp2_with fail;refine(ZA g _ X).mono ?_;rintro e y ⟨d,v,rfl,r⟩;have c:Hd (Below w.heap.size w y):=x.o.trans (d.mono u.o);have a:Hd _:=r;clear d r;cases hwr:zS g.kind v with
       | true =>
        have k:Hd (yc g.kind g.depth N n sm (zS g.kind v)=6):=(by show _=_;rw[f.o,hwr];rfl);go_wp2_with fail;go_ret;exact⟨c.o,v,by rw[k.o];rfl,a.o⟩
       | false =>
        cases sm with
        | true =>
         have k:Hd (yc g.kind g.depth N n N (zS g.kind v)=7):=(by show _=_;rw[f.o,hwr];rfl);go_wp2_with fail;go_ret;exact⟨c.o,v,by rw[k.o];rfl,a.o⟩
        | false =>
         have k:Hd (yc g.kind g.depth N n F (zS g.kind v)=0):=(by show _=_;rw[f.o,hwr];rfl);go_wp2_with fail;go_ret;exact⟨c.o,v,by rw[k.o];rfl,a.o⟩
      | false =>
       have f:Hd (∀wr,yc g.kind g.depth F n sm wr=5):=λwr=>by simp[yc,s,R]
       clear s R t m;go_wp2_with fail;go_ret;exact⟨x.o,T.val g.text g.text.size,by rw[f.o];rfl,λ_ _=>rfl⟩
     | false =>
      have I:¬g.kind=2:=beq_eq_false_iff_ne.1 L;have f:Hd (∀wr,yc g.kind g.depth th n sm wr=if wr=N then 6 else if sm=N then 7 else 0):=λwr=>by simp[yc,s,t,I,m]
      clear s t I m;go_wp2_with fail;refine(ZA g _ X).mono ?_;rintro e y ⟨d,v,rfl,r⟩;have c:Hd (Below w.heap.size w y):=x.o.trans (d.mono u.o);have a:Hd _:=r;clear d r;cases hwr:zS g.kind v with
      | true =>
       have k:Hd (yc g.kind g.depth th n sm (zS g.kind v)=6):=(by show _=_;rw[f.o,hwr];rfl);go_wp2_with fail;go_ret;exact⟨c.o,v,by rw[k.o];rfl,a.o⟩
      | false =>
       cases sm with
       | true =>
        have k:Hd (yc g.kind g.depth th n N (zS g.kind v)=7):=(by show _=_;rw[f.o,hwr];rfl);go_wp2_with fail;go_ret;exact⟨c.o,v,by rw[k.o];rfl,a.o⟩
       | false =>
        have k:Hd (yc g.kind g.depth th n F (zS g.kind v)=0):=(by show _=_;rw[f.o,hwr];rfl);go_wp2_with fail;go_ret;exact⟨c.o,v,by rw[k.o];rfl,a.o⟩
def flt(l:List SG)(i:Nat)(g:SG):Int:=zcp l i g (T.val g.text g.text.size)
theorem zgG(l:List SG)(i:Nat)(g:SG)(v:Int)(h:SI g)(a:T.digs g.text->g.text.size<=9->v=T.val g.text g.text.size):zcp l i g v=flt l i g:=by
 rcases h.2 with h|⟨h1,h2⟩
 ·have e:∀v,zS g.kind v=F:=λv=>by
   rcases h with h|h|h|h<;>simp[zS,h]
  unfold flt zcp;rw[e,e]
 ·unfold flt;rw[a h1 h2]
def X1(l:List SG):Nat->Nat->Int×Int
 |0,_=>(0,0)
 | n+1,i=>match l[i]? with
  |none=>(0,0)
  |some g=>if flt l i g=0 then X1 l n (i+1)else(flt l i g,g.place)
def chk(s:ByteArray):Int×Int :=
 if 2000<s.size then(1,0)else if(rd s).1=N then X1 (rd s).2.2.reverse (rd s).2.2.length 0 else(2,(rd s).2.1)
theorem Xe(s:ByteArray)(w:World):
 Calls E 52 #[.string s] w λe w'=>Below w.heap.size w w'/\e=.returned (.tuple #[J Z (chk s).1,J Z (chk s).2]):=by
 by_cases hs:2000<s.size
 ·have l:Hd (chk s=(1,0)):=by show _=_;unfold chk;rw[if_pos hs]
  have a4:(2000:Int)<(s.size:Int):=ol;go_enter func52,ntmps52;go_wp2_with fail;go_ret2;exact⟨Below.refl _ _,by rw[l.o];rfl⟩
 have a4:¬(2000:Int)<(s.size:Int):=ol;have U:s.size<=2000:=ol;obtain⟨r1,r2,r3,M,R,hM,hR,I⟩:=zfd s U;have u:=λwz=>zdh s wz U M R hM hR
 rw[<-I]at u;have l:Hd (chk s=if(rd s).1=N then X1 (rd s).2.2.reverse (rd s).2.2.length 0 else(2,(rd s).2.1)):=by show _=_;unfold chk;rw[if_neg hs]
 have Y:Hd _:=u;clear I hR u hs;generalize rd s=D at *;obtain⟨ok,a5,p⟩:=D;simp only at r1 r2 r3;have C:Hd _:=l.o;clear l;have a0:Hd _:=r3;clear r3;go_enter func52,ntmps52;go_wp2_with fail;refine(Y.o _).mono ?_;rintro e K ⟨i,v,(⟨h,I,a⟩|⟨h,I⟩)⟩
 ·simp only at h a;subst h;subst I;have k:Hd (chk s=X1 p.reverse p.length 0):=by show _=_;rw[C.o];rfl
  clear C Y;have d:Hd _:=i;rcases Nat.eq_zero_or_pos p.length with h0|h0
  ·have H:∃o c,v=O o 0 c:=by
    rcases a.2 with⟨rfl,_⟩|⟨g,c,cur,rfl,_⟩
    ·exact⟨P,0,rfl⟩
    ·exact⟨_,c,by rw[h0]⟩
   obtain⟨o,c,rfl⟩:=H;have l:Hd (chk s=(0,0)):=(by show _=_;rw[k.o,h0];rfl);clear k;clear a i;go_wp2_with fail;go_loopg [6] 1 (λn x wr=>x=J Z 0/\wr=K)
   case atStart=>exact⟨rfl,rfl⟩
   case round =>
    obtain⟨rfl,rfl⟩:=hrel;go_wp2_with fail;go_ret2;exact⟨d.o,by rw[l.o];rfl⟩
  ·have H:∃b c,v=O (S ⟨b,0,P⟩) p.length c:=by
    rcases a.2 with⟨_,h1⟩|⟨g,c,cur,rfl,_⟩
    ·omega
    ·exact⟨g,c,rfl⟩
   obtain⟨b,c,rfl⟩:=H;have W:b<K.heap.size:=(a.lt b rfl).2;have a6:Hd (SL K b p.reverse):=SL.of_row a;have hL:p.reverse.length=p.length:=List.length_reverse;have a7:Hd (∀g∈p.reverse,SI g):=λg y=>a0.o g (List.mem_reverse.1 y)
   clear a i a0;generalize p.reverse=L at *;have r:p.length=L.length:=hL.symm;clear hL;rw[r]at r2 k⊢;have l:Hd _:=k.o;clear r k;go_wp2_with fail;go_loopg [6] L.length (λn x wr=>∃j:Nat,n+j=L.length/\x=J Z j/\Hd (X1 L n j=X1 L L.length 0)/\Below K.heap.size K wr)
   case atStart=>exact⟨0,ol,rfl,rfl,Below.refl _ _⟩
   case round =>
    obtain⟨j,hn,rfl,HF,hb⟩:=hrel;have G:Hd _:=hb;have Q:SL wr b L:=a6.o.of_block (hb.block _ W);have X:b<wr.heap.size:=Nat.lt_of_lt_of_le W hb.size;have j0:(0:Int)<=(j:Int):=ol;clear hb;by_cases V:j<L.length
    ·have a8:(j:Int)<(L.length:Int):=(by omega);obtain⟨g,y⟩:∃g,L[j]?=S g:=⟨L[j]'V,List.getElem?_eq_getElem V⟩;have B:SI g:=a7.o g (List.mem_iff_getElem?.2 ⟨j,y⟩);have hX:=λ(wz:World) (h1:SL wz b L) (h2:b<wz.heap.size)=>zcr b c L j g wz h1 ol y h2 B.1
     obtain⟨m,rfl⟩:∃m,gk=m+1:=⟨gk-1,ol⟩;have a1:Hd (X1 L (m+1) j=if flt L j g=0 then X1 L m (j+1)else(flt L j g,g.place)):=by
      show _=_;simp only[X1,y]
     have HX:Hd _:=hX;have t:Hd (SL wr b L):=Q;have HG:Hd _:=y;have HS:Hd _:=B;clear hX Q y B;go_wp2_with fail;refine(HX.o _ t.o X).mono ?_;rintro e w3 ⟨A,v,rfl,H⟩;rw[zgG L j g v HS.o H];have q:SL w3 b L:=t.o.of_block (A.block _ X);obtain⟨g0,g1,g2,g3,g4⟩:=q j g HG.o;have a2:Hd _:=G.o.trans (A.mono G.o.size);clear A H q g0 g2 g3 g4;generalize flt L j g=z at *;cases hz:(z==0)with
     | true =>
      have f:z=0:=(by simpa using hz);have HE:Hd (X1 L m (j+1)=X1 L L.length 0):=by
       show _=_;rw[<-HF.o,a1.o,if_pos f]
      clear f;have a3:(z != 0)=F:=(by simp[bne,hz]);go_wp2_with fail;go_roundg m
      case measure=>omega
      case rel=>exact⟨j+1,ol,by go_num,HE.o,a2.o⟩
     | false =>
      have f:¬z=0:=beq_eq_false_iff_ne.1 hz;have HE:Hd (chk s=(z,g.place)):=by
       show _=_;rw[l.o,<-HF.o,a1.o,if_neg f]
      clear f;have a3:(z != 0)=N:=(by simp[bne,hz]);go_wp2_with fail;go_quiet (fail)
      go_wp2_with fail;go_ret2;exact⟨zT (d.o.trans (a2.o.mono d.o.size)) _,by rw[HE.o];rfl⟩
    ·have hd:decide ((j:Int)<(L.length:Int))=F:=decide_eq_false ol;have HE:Hd (chk s=(0,0)):=by
      show _=_;have h0:gk=0:=ol;rw[l.o,<-HF.o,h0];rfl
     go_wp2_with fail;go_ret2;exact⟨d.o.trans (G.o.mono d.o.size),by rw[HE.o];rfl⟩
 ·simp only at h;subst h;subst I;have l:Hd (chk s=(2,(a5:Int))):=by show _=_;rw[C.o];rfl
  have d:Hd _:=i;clear i;go_wp2_with fail;go_ret2;exact⟨d.o,by rw[l.o];rfl⟩
end Go.Proofs.YtaebngpoagjafabGreat
