import Derived.Test.YtaebngpoagjafabGreatQ17
import Derived.Test.YtaebngpoagjafabGreatQ18
import Derived.Test.YtaebngpoagjafabGreatQ19
set_option maxRecDepth 100000
namespace Go.Proofs.YtaebngpoagjafabGreat
open Bool renaming false → F,true → E
open Go.RowKit
theorem zf1{rs:List RL}{P:List SG}{pl d v:Int}{t:ByteArray}(h:qY t v)(a:Int):Er rs P ⟨5,pl,d,-1,t⟩ a↔(v<1\/1000<v)/\a=6:=by
 rw[xH rfl];have:=h.nn
 simp[h.vl,zS];constructor
 ·rintro⟨c,b⟩;exact⟨ol,c⟩
 ·rintro⟨c,b⟩;exact⟨b,ol⟩
theorem G1.mk1{rs:List RL}{c p:Int}{k f:Nat}{d:SG}{x:IM}(l:yt c)(b:c≠119)(j:p≠-1)(i:0<=x.num)(e:GX c p d x)(g:(k:Int)<=d.place/\d.place<f):G1 rs c p k f d [] [] x :=
 ⟨e,g,ot,ot,λP pre _ hC err a=>by
  simp only[FU,or_false];rw[j9 j e hC,j8 l pre x i,e.pl];constructor
  ·intro h;exact .inr (.inl h)
  ·rintro(h|h|h)
   ·exact absurd h (zeQ _ _)
   ·exact h
   ·exact absurd h.1 b⟩
theorem G1.mkArm{rs:List RL}{c p:Int}{k e i:Nat}{d:SG}{x:IM}{U:List SG}{l:List EX}(t:yt c)(b:c≠119)(q:p≠-1)(o:p<k)(n:0<=x.num)(f:GX c p d x)(m:(k:Int)<=d.place/\d.place<e)(s:e<=i)(r:k<=e)(j:GU rs e i U l):G1 rs c p k i d U l x :=
 ⟨f,⟨m.1,ol⟩,λg hg=>by
  have:=j.wl g hg
  exact⟨ol,this.2.1,this.2.2.1.imp (λh=>h) (λh=>⟨ol,h.2⟩),this.2.2.2⟩,j.st,λP pre hP hC err a=>by
  simp only[FU];rw[j9 q f hC,j8 t pre x n,f.pl,j.fu (P++[d]) (λy hy=>by
   rcases List.mem_append.1 hy with hy|hy
   ·have:=hP y hy;omega
   ·simp at hy;subst hy;rw[f.li];omega) err a]
  constructor
  ·rintro(h|h)
   ·exact .inr (.inl h)
   ·exact .inl h
  ·rintro(h|h|h)
   ·exact .inr h
   ·exact .inl h
   ·exact absurd h.1 b⟩
theorem zdU{s:ByteArray}{rs:List RL}{ex:Int->Nat->Nat->Bool->CR}{n:Nat}(B:ExP s rs ex n)(D:ExD s ex)(C:ZW ex s){c:Int}(N:yt c)(d:Int)(m k p:Nat)(R:0<=d)(K:k<=s.size)(Q:s.size-k<n)(O:p<k):
 Run s k [⟨259,kf c,d,p⟩] (zv ex s c d m k F).k (zv ex s c d m k F).b (λV=>∃g0 rest,V=g0::rest/\G1 rs c p k (zv ex s c d m k F).k g0 rest (zv ex s c d m k F).es (zv ex s c d m k F).im):=by
 have j:=T.sk_le K;have L:=T.sk_ge s k;have f:=xi s k;have w:∀(kk:Nat) (bb:Bool) (G:List SG->Prop),Run s (T.sk s k) (ZJ ⟨259,kf c,d,p⟩) kk bb G->Run s k [⟨259,kf c,d,p⟩] kk bb G:=λkk bb G h=>by
  rcases h with⟨U,v,l,i⟩|⟨v,l⟩
  ·exact .inl ⟨U,zdT v,l,i⟩
  ·exact .inr ⟨zfx v,l⟩
 refine w _ _ _ ?_;have q:(p:Int)≠-1:=ol;have t:=Xy.nil s (T.sk s k);rcases N with rfl|rfl|rfl|rfl|rfl
 ·have e:zv ex s 123 d m k F=⟨⟨T.sk s k,zM s (T.sk s k) F,0,0,0,0,-1⟩,[],zs s (T.sk s k) F,zw s (T.sk s k) F⟩:=by unfold zv;rw[zm];rfl
  rw[e];refine(t.num j 4 0 p).mono λ_ U hU=>?_
  obtain⟨V,rfl,rfl,_,l,i⟩:=hU;rw[f]at l i;exact⟨_,[],rfl,G1.mk1 (.inl rfl) oq q i.nn ⟨rfl,rfl,by simp only[f],.inr ⟨oq,by rw[f];exact i,rfl,rfl⟩⟩ (by simp only[f];omega)⟩
 ·have e:zv ex s 102 d m k F=⟨⟨T.sk s k,zM s (T.sk s k) F,0,0,0,0,-1⟩,[],zs s (T.sk s k) F,zw s (T.sk s k) F⟩:=by unfold zv;rw[zm];rfl
  rw[e];refine(t.num j 4 0 p).mono λ_ U hU=>?_
  obtain⟨V,rfl,rfl,_,l,i⟩:=hU;rw[f]at l i;exact⟨_,[],rfl,G1.mk1 (.inr (.inl rfl)) oq q i.nn ⟨rfl,rfl,by simp only[f],.inr ⟨oq,by rw[f];exact i,rfl,rfl⟩⟩ (by simp only[f];omega)⟩
 ·have e:zv ex s 119 d m k F=⟨⟨T.sk s k,zM s (T.sk s k) F,0,0,zM s (zc s 42 (zs s (T.sk s k) F) (zw s (T.sk s k) F)) (zk s 42 (zs s (T.sk s k) F) (zw s (T.sk s k) F)),zb s (zc s 42 (zs s (T.sk s k) F) (zw s (T.sk s k) F)) (zk s 42 (zs s (T.sk s k) F) (zw s (T.sk s k) F)),-1⟩,[],zs s (zc s 42 (zs s (T.sk s k) F) (zw s (T.sk s k) F)) (zk s 42 (zs s (T.sk s k) F) (zw s (T.sk s k) F)),zw s (zc s 42 (zs s (T.sk s k) F) (zw s (T.sk s k) F)) (zk s 42 (zs s (T.sk s k) F) (zw s (T.sk s k) F))⟩:=by unfold zv;rw[zm];rfl
  rw[e];have r:=yb (b:=false) j;have o:zc s 42 (zs s (T.sk s k) F) (zw s (T.sk s k) F)<=s.size:=zu oq r;have x:=zj s 42 (zs s (T.sk s k) F) (zw s (T.sk s k) F);have y:=(((t.num j 4 0 p).want 42 oq oq oq).num o 5 0 (-1));generalize zc s 42 (zs s (T.sk s k) F) (zw s (T.sk s k) F)=k2 at *;generalize zk s 42 (zs s (T.sk s k) F) (zw s (T.sk s k) F)=b2 at *;refine y.mono λ_ U hU=>?_
  obtain⟨V,rfl,⟨⟨I,rfl,rfl,_,l,i⟩,_⟩,rfl,E,z⟩:=hU;rw[f]at l i;have J:=T.sk_ge s k2;have H:GX 119 (p:Int) ⟨4,T.sk s (T.sk s k),0,p,s.extract (T.sk s (T.sk s k)) (zs s (T.sk s k) F)⟩ ⟨T.sk s k,zM s (T.sk s k) F,0,0,zM s k2 F,zb s k2 F,-1⟩:=⟨rfl,rfl,by simp only[f],.inr ⟨oq,by rw[f];exact i,rfl,rfl⟩⟩;refine⟨_,[_],rfl,H,by simp only[f];omega,λg hg=>?_,ot,λP pre hP hC err a=>?_⟩
  ·simp at hg;subst hg;simp only[f];exact⟨ol,ol,.inl trivial,KD.of ot ot⟩
  ·simp only[FU,or_false];rw[j9 q H hC,j8 (.inr (.inr (.inl rfl))) pre _ i.nn,zf1 z];simp only[f,zm];constructor
   ·rintro(h|⟨v,l,i⟩)
    ·exact .inr (.inl h)
    ·exact .inr (.inr ⟨trivial,l,i,v⟩)
   ·rintro(h|h|⟨_,v,l,i⟩)
    ·exact absurd h (zeQ _ _)
    ·exact .inl h
    ·exact .inr ⟨i,v,l⟩
 ·have e:zv ex s 103 d m k F=⟨⟨T.sk s k,zM s (T.sk s k) F,0,0,0,0,(ex (d+1) m (zc s 58 (zs s (T.sk s k) F) (zw s (T.sk s k) F)) (zk s 58 (zs s (T.sk s k) F) (zw s (T.sk s k) F))).idx⟩,(ex (d+1) m (zc s 58 (zs s (T.sk s k) F) (zw s (T.sk s k) F)) (zk s 58 (zs s (T.sk s k) F) (zw s (T.sk s k) F))).es,(ex (d+1) m (zc s 58 (zs s (T.sk s k) F) (zw s (T.sk s k) F)) (zk s 58 (zs s (T.sk s k) F) (zw s (T.sk s k) F))).k,(ex (d+1) m (zc s 58 (zs s (T.sk s k) F) (zw s (T.sk s k) F)) (zk s 58 (zs s (T.sk s k) F) (zw s (T.sk s k) F))).b⟩:=by unfold zv;rw[zm];rfl
  rw[e];have r:=yb (b:=false) j;have o:zc s 58 (zs s (T.sk s k) F) (zw s (T.sk s k) F)<=s.size:=zu oq r;have x:=zj s 58 (zs s (T.sk s k) F) (zw s (T.sk s k) F);have A:=z7 (b:=false) j;have y:=(((t.num j 7 0 p).want 58 oq oq oq).run).expr B D o (d+1) ol m ol;have u:=C (d+1) m (zc s 58 (zs s (T.sk s k) F) (zw s (T.sk s k) F)) (zk s 58 (zs s (T.sk s k) F) (zw s (T.sk s k) F)) o;generalize zc s 58 (zs s (T.sk s k) F) (zw s (T.sk s k) F)=k2 at *;generalize zk s 58 (zs s (T.sk s k) F) (zw s (T.sk s k) F)=b2 at *;refine y.mono λ_ U hU=>?_
  obtain⟨V,W,rfl,⟨⟨I,rfl,rfl,_,l,i⟩,_⟩,rfl,E,z⟩:=hU;rw[f]at l i;exact⟨_,W,rfl,G1.mkArm (.inr (.inr (.inr (.inl rfl)))) oq q ol i.nn ⟨rfl,rfl,by simp only[f],.inr ⟨oq,by rw[f];exact i,rfl,rfl⟩⟩ (by simp only[f];omega) u.1 ol z⟩
 ·have e:zv ex s 109 d m k F=⟨⟨T.sk s k,0,btV s (T.sk s k) F,btL s (T.sk s k) F,0,0,(ex (d+1) m (zc s 58 (btK s (T.sk s k) F) (btX s (T.sk s k) F)) (zk s 58 (btK s (T.sk s k) F) (btX s (T.sk s k) F))).idx⟩,(ex (d+1) m (zc s 58 (btK s (T.sk s k) F) (btX s (T.sk s k) F)) (zk s 58 (btK s (T.sk s k) F) (btX s (T.sk s k) F))).es,(ex (d+1) m (zc s 58 (btK s (T.sk s k) F) (btX s (T.sk s k) F)) (zk s 58 (btK s (T.sk s k) F) (btX s (T.sk s k) F))).k,(ex (d+1) m (zc s 58 (btK s (T.sk s k) F) (btX s (T.sk s k) F)) (zk s 58 (btK s (T.sk s k) F) (btX s (T.sk s k) F))).b⟩:=by unfold zv;rw[zm];rfl
  rw[e];have r:=Xt (b:=false) j;have o:zc s 58 (btK s (T.sk s k) F) (btX s (T.sk s k) F)<=s.size:=zu oq r;have x:=zj s 58 (btK s (T.sk s k) F) (btX s (T.sk s k) F);have A:=Xu (b:=false) j;have y:=(((t.bits j 9 0 p).want 58 oq oq oq).run).expr B D o (d+1) ol m ol;have u:=C (d+1) m (zc s 58 (btK s (T.sk s k) F) (btX s (T.sk s k) F)) (zk s 58 (btK s (T.sk s k) F) (btX s (T.sk s k) F)) o;generalize zc s 58 (btK s (T.sk s k) F) (btX s (T.sk s k) F)=k2 at *;generalize zk s 58 (btK s (T.sk s k) F) (btX s (T.sk s k) F)=b2 at *;refine y.mono λ_ U hU=>?_
  obtain⟨V,W,rfl,⟨⟨I,rfl,rfl,_,l,i⟩,_⟩,rfl,E,z⟩:=hU;rw[f]at l i;exact⟨_,W,rfl,G1.mkArm (.inr (.inr (.inr (.inr rfl)))) oq q ol (Int.le_refl _) ⟨rfl,rfl,by simp only[f],.inl ⟨rfl,rfl,by rw[f];exact i⟩⟩ (by simp only[f];omega) u.1 ol z⟩
theorem jb(s:ByteArray)(k:Nat)(a d p:Int):zq s k ⟨260,a,d,p⟩=⟨E,T.sk s k,if T.ch s (T.sk s k)=44 then[byF 44,⟨259,a,d,p⟩,⟨260,a,d,p⟩]else[],[]⟩:=by
 unfold zq;simp only;rw[if_neg oq,if_neg oq,if_neg oq,if_neg oq,if_pos trivial]
theorem zab{s:ByteArray}{k:Nat}:z6 s 44 k F=E↔T.ch s (T.sk s k)=44:=by
 unfold z6;rw[zm,Zi,beq_iff_eq];by_cases h:T.sk s k<s.size
 ·rw[if_pos h]
 ·rw[if_neg h,T.ch_ge h];omega
theorem G1.gi{rs:List RL}{c p:Int}{k k1 b:Nat}{e:SG}{rest:List SG}{f:List EX}{x:IM}(h:G1 rs c p k k1 e rest f x)(i:k1<=b):GI rs c p k b (e::rest) f [x] :=
 ⟨λg hg=>by
  rcases List.mem_cons.1 hg with rfl|hg
  ·exact⟨h.w0.1,by have:=h.w0.2;omega,.inr (.inl h.gx.li),KD.of (by rw[h.gx.ki];exact(zdK c).1) (by rw[h.gx.ki];exact(zdK c).2.1)⟩
  ·have d:=h.wl g hg;have j:=h.w0.1;exact⟨ol,ol,d.2.2.1.imp (λh=>h) (λh=>.inr ⟨h.1,ol⟩),d.2.2.2⟩,
  List.pairwise_cons.2 ⟨λg hg=>(h.wl g hg).1,h.st⟩,
  λP pre hP hC err a=>by rw[h.fu P pre hP hC err a];simp[FIs]⟩
theorem GI.cons{rs:List RL}{c:Int}{p:Nat}{k k1 f j:Nat}{l:SG}{rest U:List SG}{o n:List EX}{x:IM}{m:List IM}(h:G1 rs c p k k1 l rest o x)(q:p<k)(t:k1<=f)(r:k<=f)(s:f<=j)(i:GI rs c p f j U n m):GI rs c p k j ((l::rest)++U) (o++n) (x::m):=by
 have d:=h.gi (Nat.le_refl k1);refine⟨λg hg=>?_,?_,λP pre hP hC err a=>?_⟩
 ·rcases List.mem_append.1 hg with hg|hg
  ·have e:=d.wl g hg;exact⟨e.1,ol,e.2.2.1.imp (λh=>h) (λh=>h.imp (λh=>h) (λh=>⟨h.1,ol⟩)),e.2.2.2⟩
  ·have e:=i.wl g hg;exact⟨ol,e.2.1,e.2.2.1.imp (λh=>h) (λh=>h.imp (λh=>h) (λh=>⟨ol,h.2⟩)),e.2.2.2⟩
 ·refine List.pairwise_append.2 ⟨d.st,i.st,λa ha b hb=>?_⟩;have v:=(d.wl a ha).2.1;have u:=(i.wl b hb).1;omega
 ·rw[zeO,h.fu P pre hP hC err a,i.fu (P++(l::rest)) (pre++[x]) (λy hy=>?_) (hC.step h.gx (λy hy=>?_)) err a,XB]
  ·simp only[FIs];constructor
   ·rintro((h|h)|(h|h))
    ·exact .inl (.inl h)
    ·exact .inr (.inl h)
    ·exact .inl (.inr h)
    ·exact .inr (.inr h)
   ·rintro((h|h)|(h|h))
    ·exact .inl (.inl h)
    ·exact .inr (.inl h)
    ·exact .inl (.inr h)
    ·exact .inr (.inr h)
  ·rcases List.mem_append.1 hy with hy|hy
   ·have:=hP y hy;omega
   ·rcases(d.wl y hy).2.2.1 with h|h|h<;>omega
  ·rcases(h.wl y hy).2.2.1 with h|h<;>omega
theorem zch{s:ByteArray}{rs:List RL}{ex:Int->Nat->Nat->Bool->CR}{n:Nat}(H:ExP s rs ex n)(J:ExD s ex)(v:ZW ex s){c:Int}(G:yt c)(d:Int)(p:Nat)(K:0<=d):∀(N m k:Nat),k<=s.size->s.size+1<=N+k->s.size-k<n->p<k ->
 Run s k [⟨259,kf c,d,p⟩,⟨260,kf c,d,p⟩] (ze ex s c d N m k F).k (ze ex s c d N m k F).b (λU=>GI rs c p k (ze ex s c d N m k F).k U (ze ex s c d N m k F).es (ze ex s c d N m k F).ims):=by
 intro N;induction N with
 |zero=>intro m k A z;omega
 | succ N ih =>
  intro m k y O D x;have A:=zdU H J v G d m k p K y D x;have u:=Zz v c d m k F y;simp only[ze];generalize zv ex s c d m k F=it at *;rcases A with⟨V,a1,a2,g0,rest,rfl,a3⟩|⟨a1,a2⟩
  ·rw[a2];have r:=zj s 44 it.k F;have g:zc s 44 it.k F<=s.size:=zu oq u.2.1;cases ht:z6 s 44 it.k F with
   | false =>
    have t:¬T.ch s (T.sk s it.k)=44:=λh=>by rw[zab.2 h]at ht;cases ht
    have e:zc s 44 it.k F=T.sk s it.k:=(by unfold zc;rw[if_neg (by rw[ht];decide),zm]);have a:=jb s it.k (kf c) d p;rw[if_neg t]at a;have z:Par s it.k [⟨260,kf c,d,p⟩] E (zc s 44 it.k F) []:=by
     have:=Par.step (s:=s) (k:=it.k) (f:=⟨260,kf c,d,p⟩) (ok:=true) (b:=T.sk s it.k) (sg2:=[]) (by rw[a]) (by rw[a];exact Par.nil _ _)
     rw[a]at this;rw[e];exact this
    exact .inl ⟨g0::rest,by have:=a1.app z;simpa using this,rfl,a3.gi r⟩
   | true =>
    have j:=zab.1 ht;have a:=jb s it.k (kf c) d p;rw[if_pos j]at a;have B:it.k+1<=zc s 44 it.k F:=by
     unfold zc;rw[if_pos ht];have:=yi s it.k F;omega
    have i:z6 s 44 (T.sk s it.k) F=E:=zab.2 (by rw[xi];exact j);have L:zc s 44 (T.sk s it.k) F=zc s 44 it.k F:=(by unfold zc;rw[if_pos ht,if_pos i,zm,zm,xi]);have o:=(XF (s:=s) (k:=T.sk s it.k) (c:=44) oq oq i).1;rw[L]at o;have I:=ih (m+it.es.length) (zc s 44 it.k F) g ol ol ol;have C:=zP v c d N (m+it.es.length) (zc s 44 it.k F) F g;generalize ze ex s c d N (m+it.es.length) (zc s 44 it.k F) F=q at *;generalize zc s 44 it.k F=k2 at *;simp only[if_true];rcases I with⟨U,b1,b2,b3⟩|⟨b1,b2⟩
    ·have w:=o.cons b1;have l:=Par.step (s:=s) (k:=it.k) (f:=⟨260,kf c,d,p⟩) (ok:=true) (b:=q.k) (sg2:=U.reverse++[]) (by rw[a]) (by rw[a];exact w);rw[a]at l;refine .inl ⟨(g0::rest)++U,?_,b2,GI.cons a3 x ol ol C.1 b3⟩;have:=a1.app l
     rw[List.reverse_append];simpa using this
    ·have w:=zQ.after o b1;have l:=zQ.step (s:=s) (k:=it.k) (f:=⟨260,kf c,d,p⟩) (by rw[a]) (by rw[a];exact w);exact .inr ⟨zQ.app2 a1 l,b2⟩
  ·have:=yo a2 (c:=44) oq oq
   rw[this.1];simp only[Bool.false_eq_true,if_false];rw[this.2.1];exact .inr ⟨a1.app [⟨260,kf c,d,p⟩],a2⟩
theorem zez{s:ByteArray}{ex:Int->Nat->Nat->Bool->CR}(j:ExD s ex){c:Int}(l:yt c)(d:Int)(m k:Nat):(zv ex s c d m k E).k=k/\(zv ex s c d m k E).b=E:=by
 have f:zb s k E=k:=rfl;have e:=zbo s k;have i:=JY s k;have h:QY s k E:=.inl rfl;have a:=yo h (c:=58) oq oq;have g:=yo h (c:=42) oq oq;rcases l with rfl|rfl|rfl|rfl|rfl
 ·simp[zv,f,e.1,e.2]
 ·simp[zv,f,e.1,e.2]
 ·simp[zv,f,e.1,e.2,g.2.1,g.2.2]
 ·simp[zv,f,e.1,e.2,a.2.1,a.2.2,j (d+1) m k E h]
 ·simp[zv,f,i.1,i.2,a.2.1,a.2.2,j (d+1) m k E h]
theorem zcQ{s:ByteArray}{ex:Int->Nat->Nat->Bool->CR}(g:ExD s ex){c:Int}(f:yt c)(d:Int)(N m k:Nat):(ze ex s c d N m k E).k=k/\(ze ex s c d N m k E).b=E:=by
 cases N with
 |zero=>exact⟨rfl,rfl⟩
 | succ N =>
  have e:=zez g f d m k;have a:=yo (s:=s) (k:=k) (b:=true) (c:=44) (.inl rfl) oq oq;simp only[ze,e.1,e.2,a.1];simp[a.2.1]
theorem Xy.items{s:ByteArray}{rs:List RL}{ex:Int->Nat->Nat->Bool->CR}{n a k:Nat}{l:List FR}{b:Bool}{G:List SG->Prop}(h:Xy s a l k b G)(r:ExP s rs ex n)(g:ExD s ex)(t:ZW ex s){c:Int}(f:yt c)(o:k<=s.size)(d:Int)(q:0<=d)(p m:Nat)(i:p<k)(j:s.size-k<n):
 Run s a (l++[⟨259,kf c,d,p⟩,⟨260,kf c,d,p⟩]) (ze ex s c d (s.size+1-k) m k b).k (ze ex s c d (s.size+1-k) m k b).b (λU=>∃V W,U=V++W/\G V/\b=F/\GI rs c p k (ze ex s c d (s.size+1-k) m k b).k W (ze ex s c d (s.size+1-k) m k b).es (ze ex s c d (s.size+1-k) m k b).ims):=by
 rcases h with⟨U,h1,rfl,h3⟩|⟨h1,rfl⟩
 ·rcases zch r g t f d p q (s.size+1-k) m k o ol j i with⟨W,a1,a2,a3⟩|⟨a1,a2⟩
  ·exact .inl ⟨U++W,by have:=h1.app a1;rw[List.reverse_append];exact this,a2,U,W,rfl,h3,rfl,a3⟩
  ·exact .inr ⟨zQ.app2 h1 a1,a2⟩
 ·have e:=zcQ g f d (s.size+1-k) m k;exact .inr ⟨by rw[e.1];exact h1.app _,.inl e.2⟩
theorem YN{s:ByteArray}{k c:Nat}{d:Int}{e:Bool}{l:List FR}{G:List SG->Prop}(g:Yx d (T.sk s k) (T.ch s (T.sk s k))=some l)(h:Run s (T.sk s k) l c e G):Run s k [⟨258,0,d,0⟩] c e (λV=>∃U,V=⟨3,T.sk s k,d,-1,ByteArray.empty⟩::U/\G U):=by
 have a:zq s k ⟨258,0,d,0⟩=⟨E,T.sk s k,l,[⟨3,T.sk s k,d,-1,ByteArray.empty⟩]⟩:=by
  unfold zq;simp only;rw[if_neg oq,if_neg oq,if_pos trivial,g]
 rcases h with⟨U,h1,h2,h3⟩|⟨h1,h2⟩
 ·have:=Par.step (s:=s) (k:=k) (f:=⟨258,0,d,0⟩) (ok:=true) (b:=c) (sg2:=U.reverse) (by rw[a]) (by rw[a];exact h1)
  rw[a]at this;exact .inl ⟨_::U,by rw[List.reverse_cons];exact this,h2,U,rfl,h3⟩
 ·exact .inr ⟨zQ.step (s:=s) (k:=k) (f:=⟨258,0,d,0⟩) (by rw[a]) (by rw[a];exact h1),h2⟩
theorem zcu{s:ByteArray}{k:Nat}{d:Int}(b:Yx d (T.sk s k) (T.ch s (T.sk s k))=none):zQ s k [⟨258,0,d,0⟩] (T.sk s k):=by
 have a:zq s k ⟨258,0,d,0⟩=⟨F,T.sk s k,[],[]⟩:=by
  unfold zq;simp only;rw[if_neg oq,if_neg oq,if_pos trivial,b]
 have:=zQ.stop (s:=s) (k:=k) (f:=⟨258,0,d,0⟩) (by rw[a])
 rw[a]at this;exact this
theorem Ym{s:ByteArray}{p:Nat}{c:Int}(i:0<c)(b:c<256)(g:T.sk s p=p)(a:p<s.size)(h:T.ch s p=c):Xy s p [byF c] (p+1) F (λU=>U=[]):=by
 have f:z6 s c p F=E:=by unfold z6;rw[zm,g,Zi,if_pos a,h];simp
 have d:=(XF i b f).1;have e:zc s c p F=p+1:=by unfold zc;rw[if_pos f,zm,g]
 rw[e]at d;exact .inl ⟨[],d,rfl,rfl⟩
theorem Er3{rs:List RL}{P:List SG}{pl d:Int}(a:Int):Er rs P ⟨3,pl,d,-1,ByteArray.empty⟩ a↔a=3/\12<=d:=by
 rw[xH rfl];simp[zS]
theorem Er8{rs:List RL}{P:List SG}{pl d v:Int}{t:ByteArray}(h:qY t v)(a:Int):Er rs P ⟨8,pl,d,-1,t⟩ a↔(v<0\/15<v)/\a=6:=by
 rw[xH rfl];have:=h.nn
 simp[h.vl,zS];constructor
 ·rintro⟨c,b⟩;exact⟨ol,c⟩
 ·rintro⟨c,b⟩;exact⟨b,ol⟩
theorem Er6{rs:List RL}{P:List SG}{pl d v:Int}{t:ByteArray}(h:qY t v)(a:Int):Er rs P ⟨6,pl,d,-1,t⟩ a↔(v<1\/86400<v)/\a=6:=by
 rw[xH rfl];have:=h.nn
 simp[h.vl,zS];constructor
 ·rintro⟨c,b⟩;exact⟨ol,c⟩
 ·rintro⟨c,b⟩;exact⟨b,ol⟩
theorem Er2{rs:List RL}{P:List SG}{pl d v:Int}{t:ByteArray}(h:J4 t v)(a:Int):Er rs P ⟨2,pl,d,-1,t⟩ a↔yr v rs=-1/\a=5:=by
 rw[xH rfl];simp[h.vl,zS];constructor
 ·rintro⟨c,b⟩;exact⟨b,c⟩
 ·rintro⟨c,b⟩;exact⟨b,c⟩
theorem GU.of3{rs:List RL}{k p c:Nat}{d:Int}{W:List SG}{o:List EX}{H:Int->Int->Prop}(r:k<=p)(q:p<c)(n:∀g∈W,(p:Int)<g.place/\g.place<c/\(g.list=-1\/((k:Int)<=g.list/\g.list<c))/\KD g)(e:W.Pairwise (λa b=>a.place<b.place))(f:∀P:List SG,(∀x∈P,x.list<(k:Int))->∀err a,FU rs (P++[⟨3,p,d,-1,ByteArray.empty⟩]) W err a↔H err a)(i:∀err a,FE o err a↔(12<=d/\err=3/\a=p)\/H err a):GU rs k c (⟨3,p,d,-1,ByteArray.empty⟩::W) o :=
 ⟨λg hg=>by
  rcases List.mem_cons.1 hg with rfl|hg
  ·exact⟨ox,ox,.inl rfl,KD.of ot ot⟩
  ·have:=n g hg
   exact⟨ol,this.2.1,this.2.2.1,this.2.2.2⟩,
  List.pairwise_cons.2 ⟨λg hg=>(n g hg).1,e⟩,
  λP hP err a=>by
   simp only[FU];rw[Er3,f P hP,i];constructor
   ·rintro(⟨m,l,j⟩|h)
    ·exact .inl ⟨j,l,m⟩
    ·exact .inr h
   ·rintro(⟨m,l,j⟩|h)
    ·exact .inl ⟨j,l,m⟩
    ·exact .inr h⟩
theorem jz{e:EX}(f:e.kind≠116)(d:e.kind≠64)(c:e.kind≠61)(b a:Int):FEx e b a↔12<=e.depth/\b=3/\a=e.at_:=by
 unfold FEx;simp[f,d,c]
theorem zfI{P:List SG}{k:Nat}{p d:Int}(h:∀x∈P,x.list<(k:Int)):∀x∈P++[(⟨3,p,d,-1,ByteArray.empty⟩:SG)],x.list<(k:Int):=λx hx=>by
 rcases List.mem_append.1 hx with hx|hx
 ·exact h x hx
 ·simp at hx;subst hx;simp only;omega
theorem zd7(s:ByteArray)(rs:List RL):∀n,ExP s rs (cE s rs n) n:=by
 intro n;induction n with
 |zero=>intro d m k _ _ h;omega
 | succ n ih =>
  intro d m k Z hk hn;have J:ExD s (cE s rs n):=λd m k b h=>jn h
  have E:=yT s rs n;show Run s k [⟨258,0,d,0⟩] (cE s rs (n+1) d m k F).k (cE s rs (n+1) d m k F).b (λU=>0<=(cE s rs (n+1) d m k F).idx/\GU rs k (cE s rs (n+1) d m k F).k U (cE s rs (n+1) d m k F).es);have w:=T.sk_ge s k;have a0:=T.sk_le hk;have u:=xi s k;cases hK:isK (zg s (zb s k F) F)with
  | false =>
   rw[JS n d m k F hK];refine .inr ⟨?_,.inl rfl⟩;simp only[zm];refine zcu ?_;rw[zm,Zi]at hK;have:∀c,isK c=F->Yx d (T.sk s k) c=none:=λc i=>by
    simp[isK]at i;simp[Yx,i]
   refine this _ ?_;by_cases h:T.sk s k<s.size
   ·rw[if_pos h]at hK;exact hK
   ·rw[T.ch_ge h];rfl
  | true =>
   have C:=(Zw hK).2;have p:T.sk s k<s.size:=(by rw[zm]at C;exact C);have O:zg s (zb s k F) F=T.ch s (T.sk s k):=(by rw[zm,Zi,if_pos p]);obtain⟨c,i⟩:∃c,T.ch s (T.sk s k)=c:=⟨_,rfl⟩;have q:zg s (zb s k F) F=c:=O.trans i;rw[q]at hK;have h8:c=123\/c=116\/c=64\/c=61\/(c=119\/c=102\/c=109\/c=103):=by
    simp[isK]at hK;omega
   have v:=zm s k;rcases h8 with rfl|rfl|rfl|rfl|h8
   ·have z:=((((Ym oq oq u p i).items ih J E (c:=123) (.inl rfl) ol d Z (T.sk s k) m ol ol)).want 125 oq oq oq).run;have A:=YN (d:=d) (by rw[i];rfl) z;rw[Y7 n d m k F q,v];have I:=zP E 123 d (s.size+1-(T.sk s k+1)) m (T.sk s k+1) F ol;generalize ze (cE s rs n) s 123 d (s.size+1-(T.sk s k+1)) m (T.sk s k+1) F=l at *;have Y:=zj s 125 l.k l.b;refine A.mono λ_ V hV=>⟨ox,?_⟩
    obtain⟨U,rfl,⟨K,W,rfl,rfl,_,j⟩,_⟩:=hV;refine GU.of3 (H:=λerr a=>FE l.es err a\/FIs 123 [] l.ims err a) w ox (λg hg=>?_) j.st (λP hP err a=>?_) (λerr a=>?_)
    ·have e:=j.wl g hg;exact⟨ol,ox,ox,e.2.2.2⟩
    ·exact j.fu _ [] (λx hx=>by have:=zfI hP x hx;omega) (Cor.nil (λx hx=>by
      rcases List.mem_append.1 hx with hx|hx
      ·have:=hP x hx;omega
      ·simp at hx;subst hx;simp only;omega)) err a
    ·rw[XB,qI,jz ot ot ot];constructor
     ·rintro(h|h|h)
      ·exact .inr (.inl h)
      ·exact .inl h
      ·exact .inr (.inr h)
     ·rintro(h|h|h)
      ·exact .inr (.inl h)
      ·exact .inl h
      ·exact .inr (.inr h)
   ·have S:=zj s 40 (T.sk s k+1) F;have t:zc s 40 (T.sk s k+1) F<=s.size:=zu oq ol;have D:=((Ym oq oq u p i).run.want 40 oq oq oq).num t 6 0 (-1);rw[j2 n d m k F q rfl rfl rfl,v];generalize zc s 40 (T.sk s k+1) F=k1 at *;generalize zk s 40 (T.sk s k+1) F=b1 at *;have a1:=z7 (b:=b1) t;have R:=yb (b:=b1) t;have Q:=zj s 44 (zs s k1 b1) (zw s k1 b1);have y:zc s 44 (zs s k1 b1) (zw s k1 b1)<=s.size:=zu oq R;have z:=((((D.want 44 oq oq oq).run).expr ih J y (d+1) ol m ol).want 41 oq oq oq).run;have L:=E (d+1) m (zc s 44 (zs s k1 b1) (zw s k1 b1)) (zk s 44 (zs s k1 b1) (zw s k1 b1)) y;have A:=YN (d:=d) (by rw[i];rfl) z;generalize zc s 44 (zs s k1 b1) (zw s k1 b1)=k2 at *;generalize zk s 44 (zs s k1 b1) (zw s k1 b1)=b2 at *;generalize cE s rs n (d+1) m k2 b2=r at *;have Y:=zj s 41 r.k r.b;refine A.mono λ_ V hV=>⟨ox,?_⟩
    obtain⟨U,rfl,⟨K,W,rfl,⟨⟨V2,rfl,⟨rfl,_⟩,rfl,o,f⟩,_⟩,_,_,j⟩,_⟩:=hV;have G:=T.sk_ge s k1;refine GU.of3 (H:=λerr a=>((zM s k1 F<1\/86400<zM s k1 F)/\err=6/\a=T.sk s k1)\/FE r.es err a) w ox (λg hg=>?_) ?_ (λP hP err a=>?_) (λerr a=>?_)
    ·simp only[List.nil_append,List.singleton_append,List.mem_cons]at hg;rcases hg with rfl|hg
     ·exact⟨ox,ox,.inl rfl,KD.of ot ot⟩
     ·have e:=j.wl g hg;exact⟨ol,ox,ox,e.2.2.2⟩
    ·simp only[List.nil_append,List.singleton_append];refine List.pairwise_cons.2 ⟨λg hg=>?_,j.st⟩;have e:=j.wl g hg;simp only;omega
    ·simp only[List.nil_append,List.singleton_append,FU];rw[Er6 f,j.fu _ (λx hx=>by
      rcases List.mem_append.1 hx with hx|hx
      ·have:=zfI hP x hx;omega
      ·simp at hx;subst hx;simp only;omega) err a]
     constructor
     ·rintro(⟨e,o,f⟩|h)
      ·exact .inl ⟨o,f,e⟩
      ·exact .inr h
     ·rintro(⟨e,o,f⟩|h)
      ·exact .inl ⟨f,e,o⟩
      ·exact .inr h
    ·rw[XB,qI];simp[FEx,FIs,zm];constructor
     ·rintro(h|h|h)
      ·exact .inr (.inr h)
      ·exact .inl h
      ·exact .inr (.inl h)
     ·rintro(h|h|h)
      ·exact .inr (.inl h)
      ·exact .inr (.inr h)
      ·exact .inl h
   ·have z:=(Ym oq oq u p i).num ol 8 0 (-1);have A:=YN (d:=d) (by rw[i];rfl) z;rw[X7 n d m k F q,v];refine A.mono λ_ V hV=>⟨ox,?_⟩
    obtain⟨U,rfl,K,rfl,rfl,_,o,f⟩:=hV;have G:=T.sk_ge s (T.sk s k+1);refine GU.of3 (H:=λerr a=>(zM s (T.sk s k+1) F<0\/15<zM s (T.sk s k+1) F)/\err=6/\a=T.sk s (T.sk s k+1)) w ox (λg hg=>?_) ot (λP hP err a=>?_) (λerr a=>?_)
    ·simp at hg;subst hg;exact⟨ox,ox,.inl rfl,KD.of ot ot⟩
    ·simp only[List.nil_append,FU,or_false];rw[Er8 f];constructor
     ·rintro⟨e,o,f⟩;exact⟨o,f,e⟩
     ·rintro⟨e,o,f⟩;exact⟨f,e,o⟩
    ·rw[qI];simp[FEx,FIs,zm]
   ·have z:=((Ym oq oq u p i).run.letter 2 0 (-1)).run;have A:=YN (d:=d) (by rw[i];rfl) z;rw[Qe n d m k F q,v];refine A.mono λ_ V hV=>⟨ox,?_⟩
    obtain⟨U,rfl,K,rfl,rfl,_,o,f⟩:=hV;have G:=T.sk_ge s (T.sk s k+1);refine GU.of3 (H:=λerr a=>yr (zg s (zb s (T.sk s k+1) F) F) rs=-1/\err=5/\a=T.sk s (T.sk s k+1)) w ox (λg hg=>?_) ot (λP hP err a=>?_) (λerr a=>?_)
    ·simp at hg;subst hg;exact⟨ox,ox,.inl rfl,ot,λ_=>f.sz⟩
    ·simp only[List.nil_append,FU,or_false];rw[Er2 f];constructor
     ·rintro⟨e,o,f⟩;exact⟨o,f,e⟩
     ·rintro⟨e,o,f⟩;exact⟨f,e,o⟩
    ·rw[qI];simp[FEx,FIs,zm]
   ·have N:yt c:=(by rcases h8 with rfl|rfl|rfl|rfl<;>simp[yt]);have S:=zj s 40 (T.sk s k+1) F;have t:zc s 40 (T.sk s k+1) F<=s.size:=zu oq ol;have D:=(Ym ol ol u p i).run.want 40 oq oq oq;rw[Qf n d m k F q h8 rfl rfl rfl rfl,v];generalize zc s 40 (T.sk s k+1) F=k1 at *;generalize zk s 40 (T.sk s k+1) F=b1 at *;have X:=D.items ih J E N t d Z (T.sk s k) m ol ol;have I:=zP E c d (s.size+1-k1) m k1 b1 t;generalize ze (cE s rs n) s c d (s.size+1-k1) m k1 b1=l at *;have Q:=zj s 124 l.k l.b;have y:zc s 124 l.k l.b<=s.size:=zu oq I.2.1;have z:=((((X.want 124 oq oq oq).run).expr ih J y (d+1) ol (m+l.es.length) ol).want 41 oq oq oq).run;have L:=E (d+1) (m+l.es.length) (zc s 124 l.k l.b) (zk s 124 l.k l.b) y;have A:=YN (k:=k) (d:=d) (by rw[i];rcases h8 with rfl|rfl|rfl|rfl<;>rfl) z;generalize zc s 124 l.k l.b=k2 at *;generalize zk s 124 l.k l.b=b2 at *;generalize cE s rs n (d+1) (m+l.es.length) k2 b2=r at *;have Y:=zj s 41 r.k r.b;refine A.mono λ_ V hV=>⟨ox,?_⟩
    obtain⟨U,rfl,⟨K,W2,rfl,⟨⟨V2,W,rfl,⟨rfl,_⟩,_,j⟩,_⟩,_,_,B⟩,_⟩:=hV;refine GU.of3 (H:=λerr a=>(FE l.es err a\/FIs c [] l.ims err a)\/FE r.es err a) w ox (λg hg=>?_) ?_ (λP hP err a=>?_) (λerr a=>?_)
    ·simp only[List.nil_append]at hg;rcases List.mem_append.1 hg with hg|hg
     ·have e:=j.wl g hg;exact⟨ol,ox,ox,e.2.2.2⟩
     ·have e:=B.wl g hg;exact⟨ol,ox,ox,e.2.2.2⟩
    ·simp only[List.nil_append];refine List.pairwise_append.2 ⟨j.st,B.st,λa ha b hb=>?_⟩;have f:=(j.wl a ha).2.1;have h4:=(B.wl b hb).1;omega
    ·simp only[List.nil_append];rw[zeO,j.fu _ [] (λx hx=>by have:=zfI hP x hx;omega) (Cor.nil (λx hx=>by
      rcases List.mem_append.1 hx with hx|hx
      ·have:=hP x hx;omega
      ·simp at hx;subst hx;simp only;omega)) err a,B.fu _ (λx hx=>by
      rcases List.mem_append.1 hx with hx|hx
      ·have:=zfI hP x hx;omega
      ·have:=(j.wl x hx).2.2.1;omega) err a]
    ·rw[XB,XB,qI,jz ox ox ox];simp only;constructor
     ·rintro((h|h)|(h|h))
      ·exact .inr (.inl (.inl h))
      ·exact .inr (.inr h)
      ·exact .inl h
      ·exact .inr (.inl (.inr h))
     ·rintro(h|((h|h)|h))
      ·exact .inr (.inl h)
      ·exact .inl (.inl h)
      ·exact .inr (.inr h)
      ·exact .inl (.inr h)
def th(A:List SG)(g:SG):Bool:=(A.take (ZI (g::A.reverse)-1)).any (isR g)
def ErT(A:List SG)(g:SG)(err:Int):Prop :=
 (err=3/\g.kind=3/\12<=g.depth)\/(err=4/\g.list≠-1/\16<=ZT g A)\/(err=5/\((g.kind=1/\th A g=E)\/(g.kind=2/\th A g=F)))\/(err=6/\zS g.kind (T.val g.text g.text.size)=E)\/(err=7/\g.list≠-1/\Z4 g A=E)
def FT:List SG->List SG->Int->Int->Prop
 |_,[],_,_=>False
 |P,g::U,err,a=>(a=g.place/\ErT P g err)\/FT (P++[g]) U err a
theorem zgW(A B:List SG)(b a:Int):∀P,FT P (A++B) b a↔FT P A b a\/FT (P++A) B b a:=by
 induction A with
 |nil=>intro P;simp[FT]
 | cons g r ih =>
  intro P;simp only[List.cons_append,FT];rw[ih (P++[g]),List.append_assoc,List.singleton_append,or_assoc]
theorem zay(W X:List SG)(h:∀g∈W,g.kind≠1):ZI (W++X)=ZI X:=by
 induction W with
 |nil=>rfl
 |cons g r ih=>simp only[List.cons_append,ZI];rw[if_neg (h g ot),ih (λy hy=>h y (by simp[hy]))]
theorem zeZ{A:List SG}{g:SG}(h:g.kind=1):th A g=A.any (isR g):=by
 unfold th;simp only[ZI,if_pos h,List.length_reverse];rw[show A.length+1-1=A.length from by omega,List.take_length]
theorem zg0{P W:List SG}{a g:SG}(c:a.kind=1)(b:∀x∈W,x.kind≠1)(h:g.kind≠1):th (P++a::W) g=P.any (isR g):=by
 unfold th;have e:ZI (g::(P++a::W).reverse)=P.length+1:=by
  simp only[ZI,if_neg h];rw[List.reverse_append,List.reverse_cons,List.append_assoc,zay _ _ (λx hx=>b x (by simpa using hx))];simp[ZI,c]
 rw[e,show P.length+1-1=P.length from by omega,List.take_left]
structure RC (P:List SG) (rs:List RL):Prop where
 ex:∀r∈rs,0<=r.ex
 nm:∀g v,J4 g.text v->(P.any (isR g)=E↔∃r∈rs,r.nv=v)
theorem jN(v:Int):∀(rs:List RL),(∀r∈rs,0<=r.ex)->(yr v rs=-1↔¬∃r∈rs,r.nv=v):=by
 intro rs;induction rs with
 |nil=>intro _;simp[yr]
 | cons r l ih =>
  intro h;simp only[yr];split
  ·next e =>
   have:=h r ot
   constructor
   ·intro a;omega
   ·intro a;exact absurd ⟨r,ot,e⟩ a
  ·next e =>
   rw[ih (λx hx=>h x (by simp[hx]))];simp[e]
theorem RC.nil:RC [] []:=⟨ot,ot⟩
theorem RC.step{P W:List SG}{rs:List RL}{a:SG}{r:RL}(h:RC P rs)(e:a.kind=1)(b:J4 a.text r.nv)(c:0<=r.ex)(d:∀x∈W,x.kind≠1):RC (P++a::W) (rs++[r]):=by
 refine⟨λx hx=>?_,λg v hg=>?_⟩
 ·rcases List.mem_append.1 hx with hx|hx
  ·exact h.ex x hx
  ·simp at hx;subst hx;exact c
 ·rw[List.any_append,List.any_cons,Bool.or_eq_true,Bool.or_eq_true,h.nm g v hg];have i:W.any (isR g)=E↔False:=by
   simp only[List.any_eq_true,iff_false];rintro⟨x,hx,hh⟩;simp[isR,d x hx]at hh
  have f:isR g a=E↔r.nv=v:=by
   unfold isR;rw[decide_eq_true e,Bool.true_and,zdQ b hg]
  rw[i,f];constructor
  ·rintro(⟨x,hx,hv⟩|hv|hh)
   ·exact⟨x,List.mem_append_left _ hx,hv⟩
   ·exact⟨r,ot,hv⟩
   ·exact absurd hh id
  ·rintro⟨x,hx,hv⟩;rcases List.mem_append.1 hx with hx|hx
   ·exact .inl ⟨x,hx,hv⟩
   ·simp at hx;subst hx;exact .inr (.inl hv)
theorem zg9{rs:List RL}{P:List SG}{c:SG}(m:c.kind=1)(i:RC P rs)(b a:Int):∀(U W:List SG),(∀g∈W,g.kind≠1)->(∀g∈U,KD g)->(FT (P++c::W) U b a↔FU rs (P++c::W) U b a):=by
 intro U;induction U with
 |nil=>intro W _ _;simp[FT,FU]
 | cons g r ih =>
  intro W k l;simp only[FT,FU];have f:=l g ot;have e:(P++c::W)++[g]=P++c::(W++[g]):=ot;rw[e,ih (W++[g]) (λx hx=>by
   rcases List.mem_append.1 hx with hx|hx
   ·exact k x hx
   ·simp at hx;subst hx;exact f.1) (λx hx=>l x (by simp[hx]))]
  have:ErT (P++c::W) g b↔Er rs (P++c::W) g b:=by
   unfold ErT Er;have n:(b=5/\((g.kind=1/\th (P++c::W) g=E)\/(g.kind=2/\th (P++c::W) g=F)))↔(b=5/\g.kind=2/\yr (T.ch g.text 0) rs=-1):=by
    rw[zg0 m k f.1];constructor
    ·rintro⟨h,(⟨d,_⟩|⟨d,j⟩)⟩
     ·exact absurd d f.1
     ·refine⟨h,d,?_⟩;have:=i.nm g (T.ch g.text 0) ⟨f.2 d,rfl⟩
      rw[jN _ rs i.ex,<-this,j];decide
    ·rintro⟨h,d,j⟩;refine⟨h,.inr ⟨d,?_⟩⟩;have:=i.nm g (T.ch g.text 0) ⟨f.2 d,rfl⟩
     rw[jN _ rs i.ex,<-this]at j;simpa using j
   rw[n]
  rw[this]
def FRs:List RL->List RL->Int->Int->Prop
 |_,[],_,_=>False
 |pre,r::l,err,a=>(yr r.nv pre≠-1/\err=5/\a=r.na)\/FRs (pre++[r]) l err a
structure GT (rs:List RL) (k k':Nat) (U:List SG) (es:List EX) (new:List RL):Prop where
 wl:∀g∈U,(k:Int)<=g.place/\g.place<k'/\(g.list=-1\/((k:Int)<=g.list/\g.list<k'))
 st:U.Pairwise (λa b=>a.place<b.place)
 fu:∀P,(∀x∈P,x.list<(k:Int))->RC P rs->∀err a,FT P U err a↔FE es err a\/FRs rs new err a
structure GO (rs:List RL) (k k':Nat) (g1:SG) (W:List SG) (es:List EX) (r:RL):Prop where
 k1:g1.kind=1
 l1:g1.list=-1
 p1:g1.place=r.na
 t1:J4 g1.text r.nv
 ex:0<=r.ex
 w1:(k:Int)<=g1.place/\g1.place<k'
 wl:∀g∈W,g1.place<g.place/\g.place<k'/\(g.list=-1\/((k:Int)<=g.list/\g.list<k'))/\KD g
 st:W.Pairwise (λa b=>a.place<b.place)
 fu:∀P,(∀x∈P,x.list<(k:Int))->∀err a,FU rs (P++[g1]) W err a↔FE es err a
theorem GO.fu2{rs:List RL}{k l:Nat}{c:SG}{W:List SG}{j:List EX}{r:RL}(h:GO rs k l c W j r)(P:List SG)(p:∀x∈P,x.list<(k:Int))(d:RC P rs)(b a:Int):FT P (c::W) b a↔FE j b a\/(yr r.nv rs≠-1/\b=5/\a=r.na):=by
 simp only[FT];have s:ErT P c b↔b=5/\yr r.nv rs≠-1:=by
  unfold ErT;rw[zeZ h.k1];have o:=d.nm c r.nv h.t1;have n:zS c.kind (T.val c.text c.text.size)=F:=by rw[h.k1];rfl
  rw[n,h.k1,h.l1];have m:P.any (isR c)=E↔yr r.nv rs≠-1:=by
   rw[o,Ne,jN _ rs d.ex];simp
  rw[m];simp
 have q:=zg9 h.k1 d b a W [] ot (λg hg=>(h.wl g hg).2.2.2);rw[s,q,h.fu P p b a,h.p1];constructor
 ·rintro(⟨i,f,e⟩|h)
  ·exact .inr ⟨e,f,i⟩
  ·exact .inl h
 ·rintro(h|⟨i,f,e⟩)
  ·exact .inr h
  ·exact .inl ⟨e,f,i⟩
theorem GO.gt{rs:List RL}{k k1 b:Nat}{c:SG}{W:List SG}{d:List EX}{r:RL}(h:GO rs k k1 c W d r)(f:k1<=b):GT rs k b (c::W) d [r] :=
 ⟨λg hg=>by
  rcases List.mem_cons.1 hg with rfl|hg
  ·exact⟨h.w1.1,by have:=h.w1.2;omega,.inl h.l1⟩
  ·have e:=h.wl g hg;have i:=h.w1.1;exact⟨ol,ol,e.2.2.1.imp (λh=>h) (λh=>⟨h.1,ol⟩)⟩,
  List.pairwise_cons.2 ⟨λg hg=>(h.wl g hg).1,h.st⟩,
  λP hP hR err a=>by rw[h.fu2 P hP hR err a];simp[FRs]⟩
theorem GT.cons{rs:List RL}{k k1 f j:Nat}{l:SG}{W U:List SG}{n m:List EX}{r:RL}{d:List RL}(h:GO rs k k1 l W n r)(q:k1<=f)(o:k<=f)(p:f<=j)(i:GT (rs++[r]) f j U m d):GT rs k j ((l::W)++U) (n++m) (r::d):=by
 have c:=h.gt (Nat.le_refl k1);refine⟨λg hg=>?_,?_,λP hP hR err a=>?_⟩
 ·rcases List.mem_append.1 hg with hg|hg
  ·have e:=c.wl g hg;exact⟨e.1,ol,e.2.2.imp (λh=>h) (λh=>⟨h.1,ol⟩)⟩
  ·have e:=i.wl g hg;exact⟨ol,e.2.1,e.2.2.imp (λh=>h) (λh=>⟨ol,h.2⟩)⟩
 ·refine List.pairwise_append.2 ⟨c.st,i.st,λa ha b hb=>?_⟩;have t:=(c.wl a ha).2.1;have s:=(i.wl b hb).1;omega
 ·rw[zgW,h.fu2 P hP hR err a,i.fu (P++(l::W)) (λy hy=>?_) (hR.step h.k1 h.t1 h.ex (λx hx=>(h.wl x hx).2.2.2.1)) err a,XB]
  ·simp only[FRs];constructor
   ·rintro((h|h)|(h|h))
    ·exact .inl (.inl h)
    ·exact .inr (.inl h)
    ·exact .inl (.inr h)
    ·exact .inr (.inr h)
   ·rintro((h|h)|(h|h))
    ·exact .inl (.inl h)
    ·exact .inr (.inl h)
    ·exact .inl (.inr h)
    ·exact .inr (.inr h)
  ·rcases List.mem_append.1 hy with hy|hy
   ·have:=hP y hy;omega
   ·rcases(c.wl y hy).2.2 with h|h<;>omega
theorem YD(s:ByteArray)(k:Nat):zq s k ⟨256,0,0,0⟩=⟨E,T.sk s k,[⟨263,1,0,-1⟩,byF 58,⟨258,0,0,0⟩],[]⟩:=by
 unfold zq;simp only;rw[if_pos trivial]
theorem jh(s:ByteArray)(k:Nat):zq s k ⟨257,0,0,0⟩=⟨E,T.sk s k,if T.ch s (T.sk s k)=59 then[byF 59,⟨256,0,0,0⟩,⟨257,0,0,0⟩]else[],[]⟩:=by
 unfold zq;simp only;rw[if_neg oq,if_pos trivial]
theorem zaa{s:ByteArray}{k:Nat}:z6 s 59 k F=E↔T.ch s (T.sk s k)=59:=by
 unfold z6;rw[zm,Zi,beq_iff_eq];by_cases h:T.sk s k<s.size
 ·rw[if_pos h]
 ·rw[if_neg h,T.ch_ge h];omega
theorem zdd(s:ByteArray)(rs:List RL)(m k:Nat)(v:k<=s.size):Run s k [⟨256,0,0,0⟩] (zE s rs m k F).k (zE s rs m k F).b (λV=>∃g1 W,V=g1::W/\GO rs k (zE s rs m k F).k g1 W (zE s rs m k F).es (zE s rs m k F).rl):=by
 have A:=T.sk_ge s k;have y:=T.sk_le v;have c:=xi s k;have u:zR s (T.sk s k) F=zR s k F:=by unfold zR YW;rw[zm,zm,c]
 have t:zZ s (T.sk s k) F=zZ s k F:=by unfold zZ YW;rw[zm,zm,c]
 have z:=Yu s k F;have n:=xT (b:=false) v;have B:=zj s 58 (zR s k F) (zZ s k F);have i:zc s 58 (zR s k F) (zZ s k F)<=s.size:=zu oq n;have j:=((Xy.nil s (T.sk s k)).run.letter 1 0 (-1)).run.want 58 oq oq oq;rw[u,t,zm,c]at j;have C:=j.run.expr (zd7 s rs (s.size+1)) (λd m k b h=>jn h) i 0 oq m ol;have w:=yT s rs (s.size+1) 0 m (zc s 58 (zR s k F) (zZ s k F)) (zk s 58 (zR s k F) (zZ s k F)) i;unfold zE;simp only[zm];generalize zc s 58 (zR s k F) (zZ s k F)=k2 at *;generalize zk s 58 (zR s k F) (zZ s k F)=b2 at *;generalize cE s rs (s.size+1) 0 m k2 b2=r at *;have e:∀(G:List SG->Prop),Run s (T.sk s k) [⟨263,1,0,-1⟩,byF 58,⟨258,0,0,0⟩] r.k r.b G->Run s k [⟨256,0,0,0⟩] r.k r.b G:=λG h=>by
  rcases h with⟨U,h1,l,q⟩|⟨h1,l⟩
  ·have:=Par.step (s:=s) (k:=k) (f:=⟨256,0,0,0⟩) (ok:=true) (b:=r.k) (sg2:=U.reverse) (by rw[YD]) (by rw[YD];exact h1)
   rw[YD]at this;exact .inl ⟨U,by simpa using this,l,q⟩
  ·exact .inr ⟨zQ.step (s:=s) (k:=k) (f:=⟨256,0,0,0⟩) (by rw[YD]) (by rw[YD];exact h1),l⟩
 refine e _ (C.mono λ_ U hU=>?_);obtain⟨V,W,rfl,⟨⟨E,rfl,rfl,_,l,q⟩,_⟩,_,D,o⟩:=hU;refine⟨_,W,rfl,rfl,rfl,rfl,q,D,⟨ox,ox⟩,λg hg=>?_,o.st,λP hP err a=>?_⟩
 ·have p:=o.wl g hg;exact⟨ox,p.2.1,p.2.2.1.imp (λh=>h) (λh=>⟨ol,h.2⟩),p.2.2.2⟩
 ·exact o.fu _ (λx hx=>by
   rcases List.mem_append.1 hx with hx|hx
   ·have:=hP x hx;omega
   ·simp at hx;subst hx;simp only;omega) err a
theorem zbV(s:ByteArray):∀(N:Nat) (rs:List RL) (m k:Nat),k<=s.size->s.size+1<=N+k ->
 Run s k [⟨256,0,0,0⟩,⟨257,0,0,0⟩] (zA s N rs m k F).k (zA s N rs m k F).b (λU=>(∃new,(zA s N rs m k F).rs=rs++new/\GT rs k (zA s N rs m k F).k U (zA s N rs m k F).es new)/\T.sk s (zA s N rs m k F).k=(zA s N rs m k F).k)/\k<=(zA s N rs m k F).k:=by
 intro N;induction N with
 |zero=>intro rs m k x w;omega
 | succ N ih =>
  intro rs m k v A;have x:=zdd s rs m k v;have g:=Yn s rs m k F v;simp only[zA];generalize zE s rs m k F=it at *;rcases x with⟨V,a1,a2,g1,W,rfl,a3⟩|⟨a1,a2⟩
  ·rw[a2];have o:=zj s 59 it.k F;have n:zc s 59 it.k F<=s.size:=zu oq g.2.1;cases ht:z6 s 59 it.k F with
   | false =>
    have p:¬T.ch s (T.sk s it.k)=59:=λh=>by rw[zaa.2 h]at ht;cases ht
    have e:zc s 59 it.k F=T.sk s it.k:=(by unfold zc;rw[if_neg (by rw[ht];decide),zm]);have a:=jh s it.k;rw[if_neg p]at a;have w:Par s it.k [⟨257,0,0,0⟩] E (zc s 59 it.k F) []:=by
     have:=Par.step (s:=s) (k:=it.k) (f:=⟨257,0,0,0⟩) (ok:=true) (b:=T.sk s it.k) (sg2:=[]) (by rw[a]) (by rw[a];exact Par.nil _ _)
     rw[a]at this;rw[e];exact this
    simp only[Bool.false_eq_true,if_false];exact⟨.inl ⟨g1::W,by have:=a1.app w;simpa using this,rfl,⟨[it.rl],rfl,a3.gt o⟩,by rw[e,xi]⟩,ol⟩
   | true =>
    have i:=zaa.1 ht;have a:=jh s it.k;rw[if_pos i]at a;have y:it.k+1<=zc s 59 it.k F:=by
     unfold zc;rw[if_pos ht];have:=yi s it.k F;omega
    have d:z6 s 59 (T.sk s it.k) F=E:=zaa.2 (by rw[xi];exact i);have z:zc s 59 (T.sk s it.k) F=zc s 59 it.k F:=(by unfold zc;rw[if_pos ht,if_pos d,zm,zm,xi]);have l:=(XF (s:=s) (k:=T.sk s it.k) (c:=59) oq oq d).1;rw[z]at l;have t:=ih (rs++[it.rl]) (m+it.es.length) (zc s 59 it.k F) n ol;generalize zA s N (rs++[it.rl]) (m+it.es.length) (zc s 59 it.k F) F=q at *;generalize zc s 59 it.k F=k2 at *;simp only[if_true];obtain⟨t,r⟩:=t;refine⟨?_,ol⟩;rcases t with⟨U,b1,b2,⟨new,b3,b4⟩,b5⟩|⟨b1,b2⟩
    ·have u:=l.cons b1;have j:=Par.step (s:=s) (k:=it.k) (f:=⟨257,0,0,0⟩) (ok:=true) (b:=q.k) (sg2:=U.reverse++[]) (by rw[a]) (by rw[a];exact u);rw[a]at j;refine .inl ⟨(g1::W)++U,?_,b2,⟨it.rl::new,by rw[b3];simp,GT.cons a3 ol ol r b4⟩,b5⟩;have:=a1.app j
     rw[List.reverse_append];simpa using this
    ·have u:=zQ.after l b1;have j:=zQ.step (s:=s) (k:=it.k) (f:=⟨257,0,0,0⟩) (by rw[a]) (by rw[a];exact u);exact .inr ⟨zQ.app2 a1 j,b2⟩
  ·have:=yo a2 (c:=59) oq oq
   rw[this.1];simp only[Bool.false_eq_true,if_false];rw[this.2.1];exact⟨.inr ⟨a1.app [⟨257,0,0,0⟩],a2⟩,g.1⟩
def yk(S:Int->Int->Prop)(f:Int×Int):Prop:=(f=(0,0)/\∀err a,¬S err a)\/(f.1≠0/\S f.1 f.2/\∀err a,S err a->f.2<a\/(f.2=a/\f.1<=err))
theorem yk.congr{S b:Int->Int->Prop}{f:Int×Int}(h:yk S f)(e:∀err a,S err a↔b err a):yk b f:=by
 rcases h with⟨h1,h2⟩|⟨h1,h2,h3⟩
 ·exact .inl ⟨h1,λerr a hs=>h2 err a ((e err a).2 hs)⟩
 ·exact .inr ⟨h1,(e _ _).1 h2,λerr a hs=>h3 err a ((e err a).2 hs)⟩
theorem yk.unique{S:Int->Int->Prop}{f g:Int×Int}(h:yk S f)(k:yk S g):f=g:=by
 rcases h with⟨h1,h2⟩|⟨h1,h2,h3⟩
 ·rcases k with⟨k1,k2⟩|⟨k1,k2,k3⟩
  ·rw[h1,k1]
  ·exact absurd k2 (h2 _ _)
 ·rcases k with⟨k1,k2⟩|⟨k1,k2,k3⟩
  ·exact absurd h2 (k2 _ _)
  ·have d:=h3 _ _ k2;have c:=k3 _ _ h2;have b:f.1=g.1:=ol;have a:f.2=g.2:=ol;exact Prod.ext b a
theorem x7{S:Int->Int->Prop}{f:Int×Int}(h:yk S f)(e x:Int)(b:e≠0):yk (λerr a=>S err a\/(err=e/\a=x)) (fnd f e x):=by
 unfold fnd;split
 ·next hc =>
  refine .inr ⟨b,.inr ⟨rfl,rfl⟩,λerr a hs=>?_⟩;rcases hs with hs|⟨rfl,rfl⟩
  ·rcases h with⟨_,h2⟩|⟨h1,h2,h3⟩
   ·exact absurd hs (h2 _ _)
   ·have:=h3 err a hs
    rcases hc with hc|hc|hc
    ·exact absurd hc h1
    ·simp only;omega
    ·simp only;omega
  ·exact .inr ⟨rfl,Int.le_refl _⟩
 ·next hc =>
  rcases h with⟨h1,_⟩|⟨h1,h2,h3⟩
  ·exact absurd (.inl (by rw[h1])) hc
  ·refine .inr ⟨h1,.inl h2,λerr a hs=>?_⟩;rcases hs with hs|⟨rfl,rfl⟩
   ·exact h3 err a hs
   ·have d:¬a<f.2:=λh=>hc (.inr (.inl h))
    have c:¬(a=f.2/\err<f.1):=λh=>hc (.inr (.inr h))
    omega
theorem XZ{S T:Int->Int->Prop}{f g:Int×Int}{c:Prop}[Decidable c](h:yk S f)(b:c->yk (λerr a=>S err a\/T err a) g):yk (λerr a=>S err a\/(c/\T err a)) (if c then g else f):=by
 split
 ·next hc=>exact(b hc).congr (λerr a=>by simp[hc])
 ·next hc=>exact h.congr (λerr a=>by simp[hc])
theorem YM{S:Int->Int->Prop}{f:Int×Int}(h:yk S f)(v x lo hi:Int):yk (λerr a=>S err a\/((v<lo\/hi<v)/\err=6/\a=x)) (YZ f v x lo hi):=XZ h (λ_=>x7 h 6 x oq)
def zcV(c:Int)(x:IM)(err a:Int):Prop:=((c=123\/c=102\/c=119)/\(x.num<0\/63<x.num)/\err=6/\a=x.at_)\/(c=119/\(x.wv<1\/1000<x.wv)/\err=6/\a=x.wa)\/(c=103/\(x.num<0\/99<x.num)/\err=6/\a=x.at_)
theorem zcs{S:Int->Int->Prop}{f:Int×Int}(h:yk S f)(c:Int)(x:IM):yk (λerr a=>S err a\/zcV c x err a) (xy c x f):=by
 unfold xy;split
 ·next hc =>
  refine(YM h x.num x.at_ 0 63).congr λerr a=>?_
  unfold zcV;rcases hc with rfl|rfl<;>simp
 ·next h1 =>
  split
  ·next hc =>
   subst hc;refine(YM (YM h x.num x.at_ 0 63) x.wv x.wa 1 1000).congr λerr a=>?_
   unfold zcV;simp[or_assoc]
  ·next h2 =>
   split
   ·next hc =>
    subst hc;refine(YM h x.num x.at_ 0 99).congr λerr a=>?_
    unfold zcV;simp
   ·next h3 =>
    refine h.congr λerr a=>?_
    have:c≠123/\c≠102:=⟨λe=>h1 (.inl e),λe=>h1 (.inr e)⟩
    unfold zcV;simp[this.1,this.2,h2,h3]
theorem zfC{S:Int->Int->Prop}{f:Int×Int}(h:yk S f)(c:Int)(l:List IM)(j:Nat)(x:IM)(g:j<l.length):yk (λerr a=>S err a\/FIm c (l.take j) x err a) (fIt c l j x f):=by
 have b:yk (λerr a=>S err a\/(16<=j/\err=4/\a=x.at_)) (if 16<=j then fnd f 4 x.at_ else f):=XZ h (λ_=>x7 h 4 x.at_ oq);have e:=XZ (c:=(l.take j).any (λy=>yG y x)=E) b (λ_=>x7 b 7 x.at_ oq);have d:=zcs e c x;refine d.congr λerr a=>?_
 have:(l.take j).length=j:=by rw[List.length_take];omega
 unfold FIm zcV;rw[this];simp only[or_assoc]
theorem zbq(c:Int)(A B:List IM)(b a:Int):∀pre,FIs c pre (A++B) b a↔FIs c pre A b a\/FIs c (pre++A) B b a:=by
 induction A with
 |nil=>intro P;simp[FIs]
 | cons g r ih =>
  intro P;simp only[List.cons_append,FIs];rw[ih (P++[g]),List.append_assoc,List.singleton_append,or_assoc]
theorem zd3{S:Int->Int->Prop}{f:Int×Int}(h:yk S f)(c:Int)(l:List IM):∀n,n<=l.length->yk (λerr a=>S err a\/FIs c [] (l.take n) err a) (Ya c l f n):=by
 intro n;induction n with
 |zero=>intro _;exact h.congr (λerr a=>by simp[FIs])
 | succ n ih =>
  intro d;have b:l[n]?=some l[n]:=List.getElem?_eq_getElem ol;simp only[Ya,b];refine(zfC (ih ol) c l n l[n] ol).congr λerr a=>?_
  rw[List.take_add_one,b];simp only[Option.toList];rw[zbq];simp[FIs,or_assoc]
theorem zct{S:Int->Int->Prop}{f:Int×Int}(h:yk S f)(e:EX):yk (λerr a=>S err a\/FEx e err a) (qO e f):=by
 have b:yk (λerr a=>S err a\/(12<=e.depth/\err=3/\a=e.at_)) (if 12<=e.depth then fnd f 3 e.at_ else f):=XZ h (λ_=>x7 h 3 e.at_ oq);unfold qO;simp only;generalize(if 12<=e.depth then fnd f 3 e.at_ else f)=f1 at *;split
 ·next hc =>
  refine(YM b e.nv e.na 1 86400).congr λerr a=>?_
  unfold FEx;simp[hc,or_assoc]
 ·next c1 =>
  split
  ·next hc =>
   refine(YM b e.nv e.na 0 15).congr λerr a=>?_
   unfold FEx;simp[hc,or_assoc]
  ·next c2 =>
   split
   ·next hc =>
    refine(XZ (c:=e.inner=-1) b (λ_=>x7 b 5 e.na oq)).congr λerr a=>?_
    unfold FEx;simp[hc,or_assoc]
   ·next c3 =>
    refine b.congr λerr a=>?_
    unfold FEx;simp[c1,c2,c3]
theorem zd4{S:Int->Int->Prop}{f:Int×Int}(h:yk S f)(b:List EX):∀n,n<=b.length->yk (λerr a=>S err a\/FE (b.take n) err a) (X3 b f n):=by
 intro n;induction n with
 |zero=>intro _;exact h.congr (λerr a=>by simp[FE])
 | succ n ih =>
  intro d;have c:b[n]?=some b[n]:=List.getElem?_eq_getElem ol;simp only[X3,c];refine(zd3 (zct (ih ol) b[n]) b[n].kind b[n].items b[n].items.length (Nat.le_refl _)).congr λerr a=>?_
  rw[List.take_length,List.take_add_one,c];simp only[Option.toList];rw[XB,qI,or_assoc,or_assoc]
theorem zf0(A B:List RL)(b a:Int):∀pre,FRs pre (A++B) b a↔FRs pre A b a\/FRs (pre++A) B b a:=by
 induction A with
 |nil=>intro P;simp[FRs]
 | cons g r ih =>
  intro P;simp only[List.cons_append,FRs];rw[ih (P++[g]),List.append_assoc,List.singleton_append,or_assoc]
theorem zd2{S:Int->Int->Prop}{f:Int×Int}(h:yk S f)(rs:List RL):∀n,n<=rs.length->yk (λerr a=>S err a\/FRs [] (rs.take n) err a) (Yq rs f n):=by
 intro n;induction n with
 |zero=>intro _;exact h.congr (λerr a=>by simp[FRs])
 | succ n ih =>
  intro e;have b:rs[n]?=some rs[n]:=List.getElem?_eq_getElem ol;simp only[Yq,b];have c:=ih ol;have d:yk (λerr a=>(S err a\/FRs [] (rs.take n) err a)\/(yr rs[n].nv (rs.take n)≠-1/\err=5/\a=rs[n].na)) (if yr rs[n].nv (rs.take n)=-1 then Yq rs f n else fnd (Yq rs f n) 5 rs[n].na):=by
   split
   ·next hc=>exact c.congr (λerr a=>by simp[hc])
   ·next hc=>exact(x7 c 5 _ oq).congr (λerr a=>by simp[hc])
  refine d.congr λerr a=>?_
  rw[List.take_add_one,b];simp only[Option.toList];rw[zf0];simp[FRs,or_assoc]
theorem X4(b:List EX)(rs:List RL):yk (λerr a=>FE b err a\/FRs [] rs err a) (Xr b rs):=by
 have e:yk (λ_ _=>False) (0,0):=.inl ⟨rfl,λ_ _ h=>h⟩;have d:=zd2 e rs rs.length (Nat.le_refl _);have c:=zd4 d b b.length (Nat.le_refl _);refine c.congr λerr a=>?_
 rw[List.take_length,List.take_length];simp only[false_or];exact or_comm
end Go.Proofs.YtaebngpoagjafabGreat
