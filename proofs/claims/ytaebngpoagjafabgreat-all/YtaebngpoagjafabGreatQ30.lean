import Derived.Test.YtaebngpoagjafabGreatQ22
import Derived.Test.YtaebngpoagjafabGreatQ28
import Derived.Test.YtaebngpoagjafabGreatQ29
set_option maxRecDepth 100000
namespace Go.Proofs.YtaebngpoagjafabGreat
open Bool renaming false → F
open Go.RowKit
def nsR(E:List EX)(RA:List RL)(i:Nat):Int:=match RA[i]? with|some r=>szR E (r.ex.toNat+1)|none=>0
def ruT(y:Int×List Int):List Int:=[y.1,58]++y.2
theorem zal{s nm:ByteArray}{E:List EX}{d:List RL}(a5:∀e∈E,e.items.length<=16)(R:∀i r,d[i]?=some r->T.ch nm i=r.nv):∀(N:Nat) (rs:List RL) (m k:Nat),k<=s.size->s.size+1<=N+k->(zA s N rs m k F).b=F->Pos E m (zA s N rs m k F).es->(zA s N rs m k F).rs=d->(∀r∈rs,∃j:Nat,r.ex=(j:Int)/\j<m) ->
 ∃Y:List (Int×List Int),Y.length+rs.length=d.length/\Y≠[]/\bt s k (zA s N rs m k F).k=joi 59 (Y.map ruT)/\(∀i y,Y[i]?=some y->(97<=y.1/\y.1<=122)/\(∃r,d[rs.length+i]?=some r/\r.nv=y.1)/\SZL nm (knK (nsR E d) (rs.length+i)) y.2 (nsR E d (rs.length+i)))/\nsR E d (d.length-1)=szR E (m+(zA s N rs m k F).es.length):=by
 intro N;induction N with
 |zero=>intro rs m k h1 h2;omega
 | succ N ih =>
  intro rs m k hk hN g n a z;have v:=Yn s rs m k F hk;have a0:zE s rs m k F=⟨⟨zg s (zb s k F) F,zb s k F,(cE s rs (s.size+1) 0 m (zc s 58 (zR s k F) (zZ s k F)) (zk s 58 (zR s k F) (zZ s k F))).idx⟩,(cE s rs (s.size+1) 0 m (zc s 58 (zR s k F) (zZ s k F)) (zk s 58 (zR s k F) (zZ s k F))).es,(cE s rs (s.size+1) 0 m (zc s 58 (zR s k F) (zZ s k F)) (zk s 58 (zR s k F) (zZ s k F))).k,(cE s rs (s.size+1) 0 m (zc s 58 (zR s k F) (zZ s k F)) (zk s 58 (zR s k F) (zZ s k F))).b⟩:=rfl;simp only[zA]at g n a⊢
  -- the rules up to here
  have C:∃t,d=rs++(zE s rs m k F).rl::t:=by
   rw[<-a];split
   ·have P:∀(N:Nat) (rs:List RL) (m k:Nat) (b:Bool),∃t,(zA s N rs m k b).rs=rs++t:=by
     intro N;induction N with
     |zero=>intro rs m k b;exact⟨[],by simp[zA]⟩
     | succ N ih =>
      intro rs m k b;simp only[zA];split
      ·obtain⟨t,o⟩:=ih (rs++[(zE s rs m k b).rl]) (m+(zE s rs m k b).es.length) (zc s 59 (zE s rs m k b).k (zE s rs m k b).b) (zE s rs m k b).b;exact⟨(zE s rs m k b).rl::t,by simp only;rw[o];simp⟩
      ·exact⟨[(zE s rs m k b).rl],rfl⟩
    obtain⟨t,o⟩:=P N (rs++[(zE s rs m k F).rl]) (m+(zE s rs m k F).es.length) (zc s 59 (zE s rs m k F).k (zE s rs m k F).b) (zE s rs m k F).b;exact⟨t,by simp only;rw[o];simp⟩
   ·exact⟨[],rfl⟩
  obtain⟨t,B⟩:=C;have a3:RK rs nm (knK (nsR E d) rs.length) E m:=⟨YY _ _,λi r hr=>by
   have G:i<rs.length:=(List.getElem?_eq_some_iff.1 hr).1;have A:d[i]?=some r:=(by rw[B,List.getElem?_append_left G];exact hr);obtain⟨j,hj,V⟩:=z r (List.mem_of_getElem? hr);refine⟨R i r A,j,hj,V,?_⟩;rw[jT _ G];unfold nsR;rw[A];simp only;rw[hj,Int.toNat_natCast]⟩
  have a4:=zcx (s:=s) a3 a5 (s.size+1);have U:=Yu s k F;have S:=xT (b:=false) hk;have a2:=zj s 58 (zR s k F) (zZ s k F);have H:zc s 58 (zR s k F) (zZ s k F)<=s.size:=zu oq S;have p:(zE s rs m k F).b=F->Pos E m (zE s rs m k F).es->1<=(zE s rs m k F).es.length/\(zE s rs m k F).rl.ex=((m+(zE s rs m k F).es.length-1:Nat):Int)/\(97<=(zE s rs m k F).rl.nv/\(zE s rs m k F).rl.nv<=122)/\∃x,bt s k (zE s rs m k F).k=[(zE s rs m k F).rl.nv,58]++x/\SZL nm (knK (nsR E d) rs.length) x (szR E (m+(zE s rs m k F).es.length)):=by
   rw[a0];simp only;intro X hp;have a1:zk s 58 (zR s k F) (zZ s k F)=F:=by
    cases hq:zk s 58 (zR s k F) (zZ s k F)with
    |false=>rfl
    |true=>rw[hq,xB s rs (s.size+1)]at X;cases X
   have hw:=zN oq oq a1;have J:=XY hw.1;obtain⟨x1,x2,x3⟩:=a4 0 m _ _ H ol X (Nat.le_refl _) hp;have D:=yT s rs (s.size+1) 0 m (zc s 58 (zR s k F) (zZ s k F)) (zk s 58 (zR s k F) (zZ s k F)) H;refine⟨x1,x2,by rw[J.2.2.2.1];exact J.2.2.1,_,?_,x3⟩;rw[zB s U ol,zB s a2 D.1,J.2.2.2.2,hw.2.2,J.2.2.2.1];rfl
  generalize zE s rs m k F=it at *;have w:∀b,zc s 59 it.k b<=s.size:=λb=>zu oq v.2.1
  have u:=zj s 59 it.k it.b;have f:it.b=F:=by
   cases hq:it.b with
   |false=>rfl
   | true =>
    rw[hq]at g;have Z:=yo (s:=s) (k:=it.k) (b:=true) (c:=59) (.inl rfl) oq oq;rw[Z.1]at g;simp at g
  have l:d[rs.length]?=some it.rl:=by rw[B,List.getElem?_append_right (Nat.le_refl _),Nat.sub_self];rfl
  rw[f]at g u n a⊢;cases o:z6 s 59 it.k F with
  | false =>
   rw[o]at g n a;simp only[Bool.false_eq_true,if_false]at g n a⊢;obtain⟨y1,I,O,x,L,K⟩:=p f n;have h:nsR E d rs.length=szR E (m+it.es.length):=by
    unfold nsR;rw[l];simp only;rw[I,Int.toNat_natCast,show m+it.es.length-1+1=m+it.es.length from by omega]
   have a6:d.length=rs.length+1:=(by rw[<-a];simp);refine⟨[(it.rl.nv,x)],ow,ot,?_,λi y hy=>?_,?_⟩
   ·rw[zB s v.1 u,xK o,List.append_nil,L];rfl
   ·have W:i=0:=(by have:=(List.getElem?_eq_some_iff.1 hy).1;simpa using this);subst W;simp at hy;subst hy;exact⟨O,⟨it.rl,l,rfl⟩,by rw[Nat.add_zero,h];exact K⟩
   ·rw[show d.length-1=rs.length from by omega,h]
  | true =>
   rw[o]at g n a;simp only[if_true]at g n a⊢;obtain⟨y1,I,O,x,L,K⟩:=p f n.left;have h:nsR E d rs.length=szR E (m+it.es.length):=by
    unfold nsR;rw[l];simp only;rw[I,Int.toNat_natCast,show m+it.es.length-1+1=m+it.es.length from by omega]
   have Q:=YB (s:=s) (k:=it.k) (c:=59) oq oq o;have a7:=T.sk_ge s it.k;obtain⟨Y,q1,q2,q3,q4,q5⟩:=ih (rs++[it.rl]) (m+it.es.length) (zc s 59 it.k F) (w _) ol g n.right a (λr hr=>by
    rcases List.mem_append.1 hr with hr|hr
    ·obtain⟨j,h1,h2⟩:=z r hr;exact⟨j,h1,ol⟩
    ·simp at hr;subst hr;exact⟨_,I,ol⟩)
   have a8:=Za s N (rs++[it.rl]) (m+it.es.length) (zc s 59 it.k F) F (w _);generalize zA s N (rs++[it.rl]) (m+it.es.length) (zc s 59 it.k F) F=q at *;rw[List.length_append,List.length_singleton]at q1 q4;refine⟨(it.rl.nv,x)::Y,ow,ot,?_,λi y hy=>?_,?_⟩
   ·rw[List.map_cons,YI 59 _ (by simpa using q2),<-q3,zB s v.1 (c:=q.k) ol,zB s u ol,Q.2,L];simp[ruT]
   ·cases i with
    | zero =>
     simp at hy;subst hy;exact⟨O,⟨it.rl,l,rfl⟩,by rw[Nat.add_zero,h];exact K⟩
    | succ i =>
     simp at hy;have:=q4 i y hy
     rw[show rs.length+(i+1)=rs.length+1+i from by omega];exact this
   ·rw[q5,List.length_append,<-Nat.add_assoc]
theorem za3(a b:List Int):strOfNums a++strOfNums b=strOfNums (a++b):=by
 have h:(strOfNums a++strOfNums b).data.toList=(strOfNums (a++b)).data.toList:=by
  rw[xN,ByteArray.data_append,Array.toList_append,xN,xN,List.map_append]
 have:∀{x y:ByteArray},x.data.toList=y.data.toList->x=y:=λ{x y} h=>by
  obtain⟨⟨l⟩⟩:=x;obtain⟨⟨m⟩⟩:=y;simp at h;rw[h]
 exact this h
theorem zgy(s:ByteArray):∀(N:Nat) (rs:List RL) (m k:Nat) (b:Bool),∀r∈(zA s N rs m k b).rs,r∈rs\/(0<=r.nv/\r.nv<256):=by
 intro N;induction N with
 |zero=>intro rs m k b r hr;exact .inl (by simpa[zA]using hr)
 | succ N ih =>
  intro rs m k b r hr;have c:=YK s (zb s k b) b;have a:∀r∈rs++[(zE s rs m k b).rl],r∈rs\/(0<=r.nv/\r.nv<256):=λr hr=>by
   rcases List.mem_append.1 hr with hr|hr
   ·exact .inl hr
   ·simp at hr;subst hr;exact .inr c
  simp only[zA]at hr;split at hr
  ·rcases ih _ _ _ _ r hr with h|h
   ·exact a r h
   ·exact .inr h
  ·exact a r hr
theorem zf5{nm:ByteArray}{K:Nat->List Int}{n:Nat->Int}:∀(Y:List (Int×List Int)) (o:Nat),Y≠[]->(∀i y,Y[i]?=some y->(97<=y.1/\y.1<=122)/\SZL nm (K (o+i)) y.2 (n (o+i)))->yn 59 0 [] (joi 59 (Y.map ruT))=Y.map ruT:=by
 intro Y;induction Y with
 |nil=>intro o h;exact absurd rfl h
 | cons y r ih =>
  intro o _ h;have d:=h 0 y rfl;have a:∀cur rest,yn 59 0 cur (ruT y++rest)=yn 59 0 (cur++ruT y) rest:=λcur rest=>by
   have e:ruT y++rest=y.1::58::(y.2++rest):=(by simp[ruT]);rw[e,yn,if_neg ol,if_neg ol,if_neg ol,yn,if_neg oq,if_neg oq,if_neg oq,d.2.nsp 59 (.inr (.inr (.inr rfl))) 0 (Int.le_refl _)];simp[ruT]
  cases r with
  | nil =>
   have:=a [] []
   simp only[List.map_cons,List.map_nil,joi];rw[List.append_nil]at this;rw[this];simp[yn]
  | cons z r =>
   have c:=a [] ([59]++joi 59 ((z::r).map ruT));have b:=ih (o+1) ot (λi y hy=>by
    have:=h (i+1) y hy
    rw[show o+(i+1)=o+1+i from by omega]at this;exact this)
   simp only[List.map_cons,joi]at c b⊢;rw[List.append_assoc,c];simp only[List.singleton_append,yn,List.nil_append];rw[if_neg oq,if_neg oq,if_pos ⟨trivial,trivial⟩,b]
theorem zbc{l:List (List Int)}(h:∀x∈l,Byt x):Byt (joi 59 l):=Byt.joi oq l h
theorem zfw{b:List EX}{rs:List RL}(h:(Xr b rs).1=0):∀e∈b,e.items.length<=16:=by
 intro e g;rcases X4 b rs with⟨_,h2⟩|⟨h1,_⟩
 ·by_cases f:e.items.length<=16
  ·exact f
  ·exfalso
   obtain⟨x,c⟩:∃x,e.items[16]?=some x:=⟨e.items[16],List.getElem?_eq_getElem ol⟩;have j:e.items=e.items.take 16++x::e.items.drop 17:=by
    have a:e.items[16]=x:=by
     have:=List.getElem?_eq_getElem (l:=e.items) (i:=16) ol
     rw[this]at c;exact Option.some.inj c
    rw[<-a,<-List.drop_eq_getElem_cons ol,List.take_append_drop]
   have d:FIs e.kind [] (e.items.take 16++x::e.items.drop 17) 4 x.at_:=by
    rw[zbq];refine .inr (.inl (.inl ⟨?_,rfl,?_⟩))
    ·simp;omega
    ·rfl
   rw[<-j]at d;exact h2 4 x.at_ (.inl ⟨e,g,.inr d⟩)
 ·exact absurd h h1
theorem qH(s:ByteArray)(w:World):Calls Tryz.prog 26 #[.string s] w λe w'=>Below w.heap.size w w'/\e=.returned (.tuple #[.int .i64 (cSz s).1,.int .i64 (cSz s).2]):=by
 by_cases A:(chk s).1=0
 ·have c:(yv s).1=0:=by rw[<-QO];exact A
  have W:s.size<=2000:=by
   by_cases H:2000<s.size
   ·unfold yv at c;rw[if_pos H]at c;cases c
   ·omega
  have u:((zy s).b || decide ((zy s).k<s.size))=F/\(Xr (zy s).es (zy s).rs).1=0:=by
   unfold yv at c;rw[if_neg ol]at c;split at c
   ·cases c
   ·next H =>
    refine⟨by simpa using H,?_⟩;split at c
    ·next h=>exact h
    ·next h=>exact absurd c h
  have q:(zy s).b=F:=by cases hq:(zy s).b with
   |false=>rfl
   |true=>rw[hq]at u;cases u.1
  have G:=Za s (s.size+1) [] 0 0 F (Nat.zero_le _);have O:(zy s).k=s.size:=by
   have v:=u.1;rw[q,Bool.false_or]at v;have S:¬(zy s).k<s.size:=of_decide_eq_false v;have h3:(zy s).k<=s.size:=G.2;omega
  have P:=zfw u.2;have E:Byt ((zy s).rs.map RL.nv):=λx hx=>by
   simp only[List.mem_map]at hx;obtain⟨r,m,rfl⟩:=hx;rcases zgy s (s.size+1) [] 0 0 F r m with h|h
   ·simp at h
   ·exact h
  have D:∀i r,(zy s).rs[i]?=some r->T.ch (strOfNums ((zy s).rs.map RL.nv)) i=r.nv:=λi r m=>by
   rw[yA E,List.getElem?_map,m];rfl
  obtain⟨Y,Q,U,C,l,B⟩:=zal (s:=s) P D (s.size+1) [] 0 0 (Nat.zero_le _) ol q (λi e he=>by rw[Nat.zero_add];exact he) rfl ot;have I:zA s (s.size+1) [] 0 0 F=zy s:=rfl;rw[I]at C B;rw[O]at C;simp only[List.length_nil,Nat.add_zero,Nat.zero_add]at Q l B;have g:bare s=strOfNums (joi 59 (Y.map ruT)):=by unfold bare;rw[zaR,C]
  have J:∀x∈Y.map ruT,Byt x:=λx hx=>by
   simp only[List.mem_map]at hx;obtain⟨y,f,rfl⟩:=hx;obtain⟨i,X⟩:=List.getElem?_of_mem f;have v:=l i y X;exact Byt.app (a:=[y.1,58]) (λz hz=>by simp at hz;rcases hz with rfl|rfl<;>omega) v.2.2.byt
  have d:spl (bare s) 59=(Y.map ruT).map strOfNums:=by
   rw[g,ZG (zbc J),zf5 (nm:=strOfNums ((zy s).rs.map RL.nv)) (K:=λi=>knK (nsR (zy s).es (zy s).rs) i) (n:=λi=>nsR (zy s).es (zy s).rs i) Y 0 U (λi y f=>⟨(l i y f).1,by rw[Nat.zero_add];exact(l i y f).2.2⟩)]
  have S:∀t∈spl (bare s) 59,2<=t.size:=λt ht=>by
   rw[d]at ht;simp only[List.mem_map]at ht;obtain⟨x,⟨y,_,rfl⟩,rfl⟩:=ht;rw[strOfNums_size];simp[ruT]
  have Z:ZO (spl (bare s) 59)=Y.map (λy=>strOfNums y.2):=by
   rw[d];unfold ZO;rw[List.map_map,List.map_map];apply List.map_congr_left
   intro y _;exact xM [y.1,58] y.2
  have p:Y.map Prod.fst=(zy s).rs.map RL.nv:=by
   apply List.ext_getElem?
   intro i;rw[List.getElem?_map,List.getElem?_map];cases f:Y[i]? with
   | none =>
    have:Y.length<=i:=by simpa using f
    rw[List.getElem?_eq_none ol];rfl
   | some y =>
    obtain⟨r,m,V⟩:=(l i y f).2.1;rw[m];simp[V]
  have L:∀j,j<=Y.length->YE (spl (bare s) 59) j=strOfNums ((Y.take j).map Prod.fst):=by
   intro j;induction j with
   |zero=>intro _;rfl
   | succ j ih =>
    intro hj;have f:Y[j]?=some Y[j]:=List.getElem?_eq_getElem ol;have o:(spl (bare s) 59)[j]?=some (strOfNums (ruT Y[j])):=(by rw[d,List.getElem?_map,List.getElem?_map,f];rfl);simp only[YE,o];rw[ih ol,XG,za3,show(Y.take (j+1))=Y.take j++[Y[j]]from by rw[List.take_add_one,f];rfl,List.map_append];rfl
  have hN:YE (spl (bare s) 59) (spl (bare s) 59).length=strOfNums ((zy s).rs.map RL.nv):=by
   have o:(spl (bare s) 59).length=Y.length:=(by rw[d];simp);rw[o,L Y.length (Nat.le_refl _),List.take_length,p]
  have R:=zeI s w (nsR (zy s).es (zy s).rs) W A S (λj t ht=>by
   rw[hN];rw[Z,List.getElem?_map]at ht;cases f:Y[j]? with
   |none=>rw[f]at ht;simp at ht
   | some y =>
    rw[f]at ht;simp at ht;subst ht;exact(l j y f).2.2.sz)
  have o:(spl (bare s) 59).length=(zy s).rs.length:=by rw[d];simp;exact Q
  rw[o,B]at R;have N:cSz s=(szR (zy s).es (zy s).es.length,0):=by unfold cSz;rw[if_pos c]
  rw[N];exact R
 ·have c:(yv s).1≠0:=by rw[<-QO];exact A
  have N:cSz s=(0,(chk s).1):=by unfold cSz;rw[if_neg c,QO]
  rw[N];exact zeJ s w A
end Go.Proofs.YtaebngpoagjafabGreat
