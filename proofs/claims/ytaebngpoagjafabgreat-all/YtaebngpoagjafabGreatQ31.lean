import Derived.Test.YtaebngpoagjafabGreatQ30
set_option maxRecDepth 100000
namespace Go.Proofs.YtaebngpoagjafabGreat
open Bool renaming false → F,true → P
open Option renaming some → S
open Go.RowKit
theorem ja{s:ByteArray}{p:Nat}:∀n,(∀i,p<=i->i<p+n->T.bl (T.ch s i)=F)->sgL s p n=(List.range n).map (λi=>T.ch s (p+i)):=by
 intro n;induction n with
 |zero=>intro _;rfl
 | succ n ih =>
  intro h;simp only[sgL];rw[ih (λi h1 h2=>h i h1 ol),if_neg (by rw[h (p+n) ol ol];decide),List.range_succ,List.map_append];rfl
structure xC (x:List Int) (v:Int):Prop where
 dig:∀c∈x,48<=c/\c<=57
 ne:x≠[]
 le:x.length<=9
 val:T.val (strOfNums x) x.length=v
structure j7 (x:List Int) (v l:Int):Prop where
 dig:∀c∈x,c=48\/c=49
 ne:x≠[]
 le:x.length<=32
 len:l=(x.length:Int)
 val:v=bv (strOfNums x) 0 x.length*2 ^ (32-x.length)
theorem xC.pln{x:List Int}{v:Int}(h:xC x v):Pln x:=λc hc=>.inl (h.dig c hc)
theorem j7.pln{x:List Int}{v l:Int}(h:j7 x v l):Pln x:=λc hc=>.inl (by have:=h.dig c hc;omega)
theorem XU{s:ByteArray}{k:Nat}{b:Bool}(r:k<=s.size)(h:zw s k b=F):b=F/\T.sk s k<zs s k b/\xC (bt s k (zs s k b)) (zM s k b):=by
 have t:=YG r h;obtain⟨rfl,n,w⟩:=t;have v:zs s k F=nmF s F (nmL s (T.sk s k) F) (T.sk s k):=by unfold zs nmE;rw[zm]
 have u:zM s k F=vl s (T.sk s k) (zs s k F-T.sk s k):=by unfold zM;rw[zm]
 have o:=Jy s (nmL s (T.sk s k) F) (T.sk s k);have q:=zav s F (nmL s (T.sk s k) F) (T.sk s k);have z:nmL s (T.sk s k) F<=9:=by unfold nmL;split<;>omega
 rw[<-v]at o q;rw[u,yM ol];generalize zs s k F=e at *;generalize T.sk s k=p at *;have f:∀i,p<=i->i<p+(e-p)->48<=T.ch s i/\T.ch s i<=57:=λi h1 h2=>(Y3 _).1 (o i h1 ol)
 have m:bt s p e=(List.range (e-p)).map (λi=>T.ch s (p+i)):=ja (e-p) (λi h1 h2=>by have:=f i h1 h2;unfold T.bl;simp;omega);have a:(bt s p e).length=e-p:=by rw[m];simp
 have d:∀c∈bt s p e,48<=c/\c<=57:=λc hc=>by
  rw[m]at hc;simp only[List.mem_map,List.mem_range]at hc;obtain⟨i,y,rfl⟩:=hc;exact f _ ol ol
 have g:Byt (bt s p e):=λc hc=>by have:=d c hc;omega
 refine⟨rfl,n,⟨d,λhn=>by rw[hn]at a;simp at a;omega,ol,?_⟩⟩;rw[a];have l:∀j,j<=e-p->T.val (strOfNums (bt s p e)) j=vl s p j:=by
  intro j;induction j with
  |zero=>intro _;rfl
  | succ j ih =>
   intro x;simp only[T.val,vl];rw[ih ol,yA g,m,List.getElem?_map,List.getElem?_range ol];rfl
 exact l _ (Nat.le_refl _)
theorem zes{s:ByteArray}{k:Nat}{b:Bool}(o:k<=s.size)(h:btX s k b=F):b=F/\T.sk s k<btK s k b/\j7 (bt s k (btK s k b)) (btV s k b) (btL s k b):=by
 have t:=jv o h;obtain⟨rfl,n,x⟩:=t;have w:btK s k F=btF s F 32 (T.sk s k):=by unfold btK;rw[zm]
 have v:btL s k F=btK s k F-T.sk s k:=by unfold btL;rw[zm]
 have u:btV s k F=bv s (T.sk s k) (btL s k F)*2 ^ (32-btL s k F):=by unfold btV;rw[zm]
 have q:=QV s 32 (T.sk s k);have r:=(qG s F 32 (T.sk s k) (T.sk_le o)).2.2;rw[<-w]at q r;rw[u,v,yM ol];generalize btK s k F=e at *;generalize T.sk s k=p at *;have f:∀i,p<=i->i<p+(e-p)->T.ch s i=48\/T.ch s i=49:=λi h1 h2=>by
  have:=q i h1 ol
  simpa[bit]using this
 have m:bt s p e=(List.range (e-p)).map (λi=>T.ch s (p+i)):=ja (e-p) (λi h1 h2=>by have:=f i h1 h2;unfold T.bl;simp;omega);have a:(bt s p e).length=e-p:=by rw[m];simp
 have d:∀c∈bt s p e,c=48\/c=49:=λc hc=>by
  rw[m]at hc;simp only[List.mem_map,List.mem_range]at hc;obtain⟨i,z,rfl⟩:=hc;exact f _ ol ol
 have g:Byt (bt s p e):=λc hc=>by have:=d c hc;omega
 refine⟨rfl,n,⟨d,λhn=>by rw[hn]at a;simp at a;omega,ol,by rw[a],?_⟩⟩;rw[a];have l:∀j,j<=e-p->bv (strOfNums (bt s p e)) 0 j=bv s p j:=by
  intro j;induction j with
  |zero=>intro _;rfl
  | succ j ih =>
   intro y;simp only[bv];rw[ih ol,yA g,m,List.getElem?_map,List.getElem?_range ol,Nat.zero_add];rfl
 rw[l _ (Nat.le_refl _)]
def ruX(c:Int):List (Int×List Int)->Option (List Int)
 | []=>none
 |y::l=>if y.1=c then S y.2 else ruX c l
theorem ze8{c:Int}{t:List Int}(Z:List (Int×List Int)):∀(Y:List (Int×List Int)),ruX c Y=S t->ruX c (Y++Z)=S t:=by
 intro Y;induction Y with
 |nil=>intro h;cases h
 | cons y l ih =>
  intro h;simp only[List.cons_append,ruX]at h⊢;split
  ·next hh=>rw[if_pos hh]at h;exact h
  ·next hh=>rw[if_neg hh]at h;exact ih h
def TIt(k:Int)(x:List Int)(i:IM):Prop:=i.arm=-1/\if k=119 then∃a b,x=a++[42]++b/\xC a i.num/\xC b i.wv else xC x i.num
def qX(k:Int)(x:List Int)(i:IM):Prop:=if k=109 then j7 x i.pv i.pl else xC x i.num
theorem TIt.pln{k:Int}{x:List Int}{i:IM}(h:TIt k x i):Pln x:=by
 have:=h.2
 split at this
 ·obtain⟨a,b,rfl,d,c⟩:=this;exact(d.pln.app (λz hz=>by simp at hz;exact .inr hz)).app c.pln
 ·exact this.pln
theorem qX.pln{k:Int}{x:List Int}{i:IM}(h:qX k x i):Pln x:=by
 unfold qX at h;split at h
 ·exact h.pln
 ·exact h.pln
inductive TX (E:List EX) (Y:List (Int×List Int)):List Int->Nat->Prop where
 |servers {j:Nat} {e:EX} {l:List (List Int)}:E[j]?=S e->e.kind=123->l≠[]->l.length=e.items.length->(∀(i:Nat) (x:List Int) (it:IM),l[i]?=S x->e.items[i]?=S it->TIt 123 x it)->TX E Y ([123]++joi 44 l++[125]) j
 |alias {j:Nat} {e:EX} {x:List Int}:E[j]?=S e->e.kind=64->xC x e.nv->TX E Y (64::x) j
 |name {j i:Nat} {e:EX} {c:Int} {t:List Int}:E[j]?=S e->e.kind=61->e.nv=c->(97<=c/\c<=122)->ruX c Y=S t->e.inner=(i:Int)->i<j->TX E Y t i->TX E Y [61,c] j
 |ttl {j i:Nat} {e:EX} {x o:List Int}:E[j]?=S e->e.kind=116->xC x e.nv->e.inner=(i:Int)->i<j->TX E Y o i->TX E Y ([116]++([40]++joi 44 [x,o]++[41])) j
 |list {j i:Nat} {e:EX} {c:Int} {l:List (List Int)} {o:List Int}:E[j]?=S e->e.kind=c->(c=119\/c=102)->l≠[]->l.length=e.items.length->(∀(i:Nat) (x:List Int) (it:IM),l[i]?=S x->e.items[i]?=S it->TIt c x it)->e.inner=(i:Int)->i<j->TX E Y o i->TX E Y ([c]++([40]++joi 124 [joi 44 l,o]++[41])) j
 |maps {j i:Nat} {e:EX} {c:Int} {m:Nat} {ks ar:Nat->List Int} {an:Nat->Nat} {o:List Int}:E[j]?=S e->e.kind=c->(c=109\/c=103)->0<m->e.items.length=m->(∀(i:Nat) (it:IM),e.items[i]?=S it->qX c (ks i) it/\it.arm=(an i:Int)/\an i<j)->(∀i,i<m->TX E Y (ar i) (an i))->e.inner=(i:Int)->i<j->TX E Y o i->TX E Y ([c]++([40]++joi 124 [joi 44 ((List.range m).map (λi=>ks i++[58]++ar i)),o]++[41])) j
theorem TX.app{E:List EX}{Y:List (Int×List Int)}(Z:List (Int×List Int)){t:List Int}{j:Nat}(h:TX E Y t j):TX E (Y++Z) t j:=by
 induction h with
 |servers h1 h2 h3 h4 h5=>exact TX.servers h1 h2 h3 h4 h5
 |alias h1 h2 h3=>exact TX.alias h1 h2 h3
 |name h1 h2 h3 h4 h5 h6 h7 _ ih=>exact TX.name h1 h2 h3 h4 (ze8 Z _ h5) h6 h7 ih
 |ttl h1 h2 h3 h4 h5 _ ih=>exact TX.ttl h1 h2 h3 h4 h5 ih
 |list h1 h2 h3 h4 h5 h6 h7 h8 _ ih=>exact TX.list h1 h2 h3 h4 h5 h6 h7 h8 ih
 |maps h1 h2 h3 h4 h5 h6 _ h8 h9 _ iha iho=>exact TX.maps h1 h2 h3 h4 h5 h6 iha h8 h9 iho
theorem qZ{k:Int}{l:List (List Int)}{a:List IM}(e:l.length=a.length)(h:∀(i:Nat) (x:List Int) (b:IM),l[i]?=S x->a[i]?=S b->TIt k x b):∀x∈l,Pln x:=λx hx=>by
 obtain⟨i,c⟩:=List.getElem?_of_mem hx;have d:=(List.getElem?_eq_some_iff.1 c).1;exact(h i x a[i] c (List.getElem?_eq_getElem ol)).pln
theorem TX.szl{E:List EX}{Y:List (Int×List Int)}(nm:ByteArray)(K:List Int){t:List Int}{j:Nat}(h:TX E Y t j):∃n,SZL nm K t n:=by
 induction h with
 |servers h1 h2 h3 h4 h5=>exact⟨_,SZL.servers h3 (qZ h4 h5)⟩
 |alias h1 h2 h3=>exact⟨_,SZL.alias h3.pln⟩
 |name h1 h2 h3 h4 h5 h6 h7 _ a=>exact⟨_,SZL.name h4⟩
 |ttl h1 h2 h3 h4 h5 _ a=>obtain⟨n,a⟩:=a;exact⟨_,SZL.ttl h3.pln a⟩
 |list h1 h2 h3 h4 h5 h6 h7 h8 _ a=>obtain⟨n,a⟩:=a;exact⟨_,SZL.list h3 h4 (qZ h5 h6) a⟩
 | @maps j i e c m ks ar an o h1 h2 h3 h4 h5 h6 _ h8 h9 _ iha b =>
  obtain⟨n,b⟩:=b;have k:∀i,∃n,(i<m->SZL nm K (ar i) n)/\(m<=i->n=0):=λi=>by
   by_cases d:i<m
   ·obtain⟨n,g⟩:=iha i d;exact⟨n,λ_=>g,λh=>ol⟩
   ·exact⟨0,λh=>absurd h d,λ_=>rfl⟩
  obtain⟨ns,f⟩:=Classical.axiomOfChoice k;exact⟨_,SZL.maps (ks:=ks) (ar:=ar) (ns:=ns) h3 h4 (λi d=>(h6 i e.items[i] (List.getElem?_eq_getElem ol)).1.pln) (λi d=>(f i).1 d) (λi d=>(f i).2 d) b⟩
theorem TX.nsp{E:List EX}{Y:List (Int×List Int)}{t:List Int}{j:Nat}(h:TX E Y t j):Nsp 0 t:=by
 obtain⟨n,h⟩:=h.szl .empty [];exact h.nsp
theorem TX.byt{E:List EX}{Y:List (Int×List Int)}{t:List Int}{j:Nat}(h:TX E Y t j):Byt t:=by
 obtain⟨n,h⟩:=h.szl .empty [];exact h.byt
section
structure RX (rs:List RL) (Y:List (Int×List Int)) (E:List EX) (lim:Nat):Prop where
 len:Y.length=rs.length
 at_:∀(i:Nat) (r:RL) (y:Int×List Int),rs[i]?=S r->Y[i]?=S y->y.1=r.nv/\∃j:Nat,r.ex=(j:Int)/\j<lim/\TX E Y y.2 j
theorem zfp{rs:List RL}{Y:List (Int×List Int)}{E:List EX}{a:Nat}(h:RX rs Y E a){v:Int}(b:yr v rs≠-1):∃(t:List Int) (i:Nat),ruX v Y=S t/\yr v rs=(i:Int)/\i<a/\TX E Y t i:=by
 have d:∀(rs:List RL) (Z:List (Int×List Int)),Z.length=rs.length->(∀(i:Nat) (r:RL) (y:Int×List Int),rs[i]?=S r->Z[i]?=S y->y.1=r.nv/\∃j:Nat,r.ex=(j:Int)/\j<a/\TX E Y y.2 j)->yr v rs≠-1->∃(t:List Int) (i:Nat),ruX v Z=S t/\yr v rs=(i:Int)/\i<a/\TX E Y t i:=by
  intro rs;induction rs with
  |nil=>intro Z _ _ h;exact absurd rfl h
  | cons r l ih =>
   intro Z e f b;cases Z with
   |nil=>simp at e
   | cons y Z =>
    obtain⟨n,j,m,k,g⟩:=f 0 r y rfl rfl;simp only[yr,ruX]at b⊢;rw[n];by_cases c:r.nv=v
    ·rw[if_pos c,if_pos c];exact⟨_,j,rfl,m,k,g⟩
    ·rw[if_neg c]at b;rw[if_neg c,if_neg c];exact ih Z (by simpa using e) (λi r' y' hr hy=>f (i+1) r' y' hr hy) b
 exact d rs Y h.len h.at_ b
theorem zck{s:ByteArray}{ex:Int->Nat->Nat->Bool->CR}{c:Int}(u:c=123\/c=102\/c=119)(d:Int)(m k:Nat)(q:k<=s.size)(h:(zv ex s c d m k F).b=F):
 (zv ex s c d m k F).es=[]/\TIt c (bt s k (zv ex s c d m k F).k) (zv ex s c d m k F).im:=by
 have g:=T.sk_le q;have r:=T.sk_ge s k;have f:zw s (T.sk s k) F=F->xC (bt s k (zs s (T.sk s k) F)) (zM s (T.sk s k) F):=λhh=>by
  have w:=XU g hh;have:=xi s k
  rw[yM ol];exact w.2.2
 rcases u with rfl|rfl|rfl
 ·unfold zv at h⊢;simp only[zm]at h⊢;exact⟨rfl,rfl,f h⟩
 ·unfold zv at h⊢;simp only[zm]at h⊢;exact⟨rfl,rfl,f h⟩
 ·have e:zv ex s 119 d m k F=⟨⟨T.sk s k,zM s (T.sk s k) F,0,0,zM s (zc s 42 (zs s (T.sk s k) F) (zw s (T.sk s k) F)) (zk s 42 (zs s (T.sk s k) F) (zw s (T.sk s k) F)),zb s (zc s 42 (zs s (T.sk s k) F) (zw s (T.sk s k) F)) (zk s 42 (zs s (T.sk s k) F) (zw s (T.sk s k) F)),-1⟩,[],zs s (zc s 42 (zs s (T.sk s k) F) (zw s (T.sk s k) F)) (zk s 42 (zs s (T.sk s k) F) (zw s (T.sk s k) F)),zw s (zc s 42 (zs s (T.sk s k) F) (zw s (T.sk s k) F)) (zk s 42 (zs s (T.sk s k) F) (zw s (T.sk s k) F))⟩:=by unfold zv;rw[zm];rfl
  rw[e]at h⊢;simp only at h⊢;have j:=yb (b:=false) g;have i:zc s 42 (zs s (T.sk s k) F) (zw s (T.sk s k) F)<=s.size:=zu oq j;have p:=XU i h;have o:=zN oq oq p.1;have v:=f o.1;have t:=z7 (b:=false) g;have n:=zj s 42 (zs s (T.sk s k) F) (zw s (T.sk s k) F);have l:=z7 (b:=zk s 42 (zs s (T.sk s k) F) (zw s (T.sk s k) F)) i;refine⟨trivial,rfl,?_⟩;rw[if_pos rfl];refine⟨_,_,?_,v,p.2.2⟩;rw[zB s (b:=zs s (T.sk s k) F) ol ol,zB s (a:=zs s (T.sk s k) F) n l,o.2.2,List.append_assoc]
theorem QK{s:ByteArray}{ex:Int->Nat->Nat->Bool->CR}(v:ZW ex s){c:Int}(E:c=123\/c=102\/c=119)(d:Int):∀(N m k:Nat),k<=s.size->s.size+1<=N+k->(ze ex s c d N m k F).b=F ->
 (ze ex s c d N m k F).es=[]/\∃L:List (List Int),L.length=(ze ex s c d N m k F).ims.length/\L≠[]/\(∀(i:Nat) (x:List Int) (a:IM),L[i]?=S x->(ze ex s c d N m k F).ims[i]?=S a->TIt c x a)/\bt s k (ze ex s c d N m k F).k=joi 44 L:=by
 intro N;induction N with
 |zero=>intro m k I H;omega
 | succ N ih =>
  intro m k u G e;have h:=Zz v c d m k F u;have o:=zck (ex:=ex) E d m k u;simp only[ze]at e⊢;generalize zv ex s c d m k F=a at *;have j:∀b,zc s 44 a.k b<=s.size:=λb=>zu oq h.2.1
  have g:=zj s 44 a.k a.b;have f:a.b=F:=by
   cases n:a.b with
   |false=>rfl
   | true =>
    rw[n]at e;have q:=yo (s:=s) (k:=a.k) (b:=true) (c:=44) (.inl rfl) oq oq;rw[q.1]at e;simp at e
  obtain⟨t,r⟩:=o f;rw[f]at e g⊢;cases ht:z6 s 44 a.k F with
  | false =>
   rw[ht]at e;simp only[Bool.false_eq_true,if_false]at e⊢;refine⟨t,[bt s k a.k],rfl,ot,λi x z hx hz=>?_,?_⟩
   ·have p:i=0:=(by have:=(List.getElem?_eq_some_iff.1 hx).1;simpa using this);subst p;simp at hx hz;subst hx hz;exact r
   ·rw[zB s h.1 g,xK ht,List.append_nil];rfl
  | true =>
   rw[ht]at e;simp only[if_true]at e⊢;have l:=YB (s:=s) (k:=a.k) (c:=44) oq oq ht;have D:=T.sk_ge s a.k;obtain⟨C,L,B,A,y,w⟩:=ih (m+a.es.length) (zc s 44 a.k F) (j _) ol e;have n:=zP v c d N (m+a.es.length) (zc s 44 a.k F) F (j _);refine⟨by rw[C,t];rfl,bt s k a.k::L,by simp[B],ot,λi x z hx hz=>?_,?_⟩
   ·cases i with
    | zero =>
     simp at hx hz;subst hx hz;exact r
    |succ i=>exact y i x z (by simpa using hx) (by simpa using hz)
   ·rw[YI 44 _ A,<-w,zB s h.1 (c:=(ze ex s c d N (m+a.es.length) (zc s 44 a.k F) F).k) ol,zB s g n.1,l.2,List.append_assoc]
section
variable {s:ByteArray} {Y:List (Int×List Int)} {E:List EX} {lim:Nat}
def EGX(s:ByteArray)(Y:List (Int×List Int))(E:List EX)(lim:Nat)(ex:Int->Nat->Nat->Bool->CR)(n:Nat):Prop:=∀d m k b,k<=s.size->s.size-k<n->(ex d m k b).b=F->lim<=m->Pos E m (ex d m k b).es ->
 1<=(ex d m k b).es.length/\(ex d m k b).idx=((m+(ex d m k b).es.length-1:Nat):Int)/\TX E Y (bt s k (ex d m k b).k) (m+(ex d m k b).es.length-1)
theorem zco{ex:Int->Nat->Nat->Bool->CR}{n:Nat}(J:ZW ex s)(y:qT ex)(I:EGX s Y E lim ex n){c:Int}(H:c=103\/c=109)(d:Int)(m k:Nat)(D:k<=s.size)(U:s.size-k<n)(h:(zv ex s c d m k F).b=F)(C:lim<=m)(j:Pos E m (zv ex s c d m k F).es):
 ∃a:AR,qX c a.key (zv ex s c d m k F).im/\TX E Y a.txt a.num/\a.num<m+(zv ex s c d m k F).es.length/\(zv ex s c d m k F).im.arm=(a.num:Int)/\bt s k (zv ex s c d m k F).k=a.t:=by
 have e:=T.sk_le D;have G:=T.sk_ge s k;have o:∀(Q:List Int->Prop) (i f:Nat) (p g:Bool),T.sk s k<=i->i<=s.size->zc s 58 i p=f->zk s 58 i p=g->(p=F->Q (bt s k i))->(ex (d+1) m f g).b=F->Pos E m (ex (d+1) m f g).es->(g=P->(ex (d+1) m f g).b=P) ->
  ∃a:AR,Q a.key/\TX E Y a.txt a.num/\a.num<m+(ex (d+1) m f g).es.length/\(ex (d+1) m f g).idx=(a.num:Int)/\bt s k (ex (d+1) m f g).k=a.t:=by
  intro Q i f p g q R z O N w L K;have v:g=F:=by cases hq:g with
   |false=>rfl
   |true=>rw[K hq]at w;cases w
  subst v;have r:=zN oq oq O;have l:f<=s.size:=by rw[<-z];exact zu oq R
  have V:=zj s 58 i p;obtain⟨S,B,A⟩:=I (d+1) m f F l ol w C L;have u:=J (d+1) m f F l;refine⟨⟨bt s k i,bt s f (ex (d+1) m f F).k,m+(ex (d+1) m f F).es.length-1⟩,N r.1,A,ox,B,?_⟩;unfold AR.t;simp only;rw[zB s (b:=i) ol ol,zB s (a:=i) (b:=f) ol u.1];rw[z]at r;rw[r.2.2,List.append_assoc]
 rcases H with rfl|rfl
 ·unfold zv at h j⊢;simp only[zm]at h j⊢;exact o (λx=>xC x (zM s (T.sk s k) F)) (zs s (T.sk s k) F) _ (zw s (T.sk s k) F) _ (z7 e) (yb e) rfl rfl (λhh=>by
   have q:=XU e hh;rw[yM (z7 e)];exact q.2.2) h j (λhh=>by rw[hh];exact y _ _ _)
 ·unfold zv at h j⊢;simp only[zm]at h j⊢;exact o (λx=>j7 x (btV s (T.sk s k) F) (btL s (T.sk s k) F)) (btK s (T.sk s k) F) _ (btX s (T.sk s k) F) _ (Xu e) (Xt e) rfl rfl (λhh=>by
   have q:=zes e hh;rw[yM (Xu e)];exact q.2.2) h j (λhh=>by rw[hh];exact y _ _ _)
theorem zaA{ex:Int->Nat->Nat->Bool->CR}{n:Nat}(y:ZW ex s)(X:qT ex)(W:EGX s Y E lim ex n){c:Int}(V:c=103\/c=109)(d:Int):∀(N m k:Nat),k<=s.size->s.size+1<=N+k->s.size-k<n->(ze ex s c d N m k F).b=F->lim<=m->Pos E m (ze ex s c d N m k F).es ->
 ∃L:List AR,L.length=(ze ex s c d N m k F).ims.length/\L≠[]/\(∀a∈L,TX E Y a.txt a.num/\a.num<m+(ze ex s c d N m k F).es.length)/\(∀(i:Nat) (a:AR) (e:IM),L[i]?=S a->(ze ex s c d N m k F).ims[i]?=S e->qX c a.key e/\e.arm=(a.num:Int))/\bt s k (ze ex s c d N m k F).k=joi 44 (L.map AR.t):=by
 intro N;induction N with
 |zero=>intro m k h1 h2;omega
 | succ N ih =>
  intro m k H Z U g G h;have l:=Zz y c d m k F H;have p:=zco y X W V d m k H U;simp only[ze]at g h⊢;generalize zv ex s c d m k F=e at *;have o:∀b,zc s 44 e.k b<=s.size:=λb=>zu oq l.2.1
  have j:=zj s 44 e.k e.b;have f:e.b=F:=by
   cases u:e.b with
   |false=>rfl
   | true =>
    rw[u]at g;have w:=yo (s:=s) (k:=e.k) (b:=true) (c:=44) (.inl rfl) oq oq;rw[w.1]at g;simp at g
  rw[f]at g j h⊢;cases ht:z6 s 44 e.k F with
  | false =>
   rw[ht]at g h;simp only[Bool.false_eq_true,if_false]at g h⊢;obtain⟨a,D,C,I,B,A⟩:=p f G h;refine⟨[a],rfl,ot,λx hx=>by simp at hx;subst hx;exact⟨C,I⟩,λi x z hx hz=>?_,?_⟩
   ·have v:i=0:=(by have:=(List.getElem?_eq_some_iff.1 hx).1;simpa using this);subst v;simp at hx hz;subst hx hz;exact⟨D,B⟩
   ·rw[zB s l.1 j,xK ht,List.append_nil,A];rfl
  | true =>
   rw[ht]at g h;simp only[if_true]at g h⊢;obtain⟨a,D,C,I,B,A⟩:=p f G h.left;have r:=YB (s:=s) (k:=e.k) (c:=44) oq oq ht;have R:=T.sk_ge s e.k;obtain⟨L,Q,P,O,K,J⟩:=ih (m+e.es.length) (zc s 44 e.k F) (o _) ol ol g ol h.right;have u:=zP y c d N (m+e.es.length) (zc s 44 e.k F) F (o _);generalize ze ex s c d N (m+e.es.length) (zc s 44 e.k F) F=q at *;refine⟨a::L,by simp[Q],ot,λx hx=>?_,λi x z hx hz=>?_,?_⟩
   ·rcases List.mem_cons.1 hx with rfl|hx
    ·exact⟨C,by simp only[List.length_append];omega⟩
    ·have:=O x hx
     exact⟨this.1,by simp only[List.length_append];omega⟩
   ·cases i with
    | zero =>
     simp at hx hz;subst hx hz;exact⟨D,B⟩
    |succ i=>exact K i x z (by simpa using hx) (by simpa using hz)
   ·rw[List.map_cons,YI 44 _ (by simpa using P),<-J,zB s l.1 (c:=q.k) ol,zB s j u.1,r.2,A,List.append_assoc]
end
end
theorem zd5{s:ByteArray}{rs:List RL}{Y:List (Int×List Int)}{E:List EX}{V:Nat}(hR:RX rs Y E V)(a2:∀e∈E,e.kind=61->e.inner≠-1):∀n,EGX s Y E V (cE s rs n) n:=by
 intro n;induction n with
 |zero=>intro d m k b _ h;omega
 | succ n ih =>
  intro d m k b hk hn f hm g;have Q:=yT s rs n;have hB:=xB s rs n;have a6:b=F:=by
   cases hq:b with
   |false=>rfl
   |true=>rw[hq,xB s rs (n+1) d m k]at f;cases f
  subst a6;have b8:=T.sk_ge s k;have b7:=T.sk_le hk;have b6:=xi s k;have j:=zm s k;cases hK:isK (zg s (zb s k F) F)with
  |false=>rw[JS n d m k F hK]at f;cases f
  | true =>
   have a3:T.sk s k<s.size:=(by have:=(Zw hK).2;rw[j]at this;exact this);obtain⟨c,hc⟩:∃c,T.ch s (T.sk s k)=c:=⟨_,rfl⟩;have u:zg s (zb s k F) F=c:=(by rw[j,Zi,if_pos a3];exact hc);rw[u]at hK;have h8:c=123\/c=116\/c=64\/c=61\/(c=119\/c=102\/c=109\/c=103):=by
    simp[isK]at hK;omega
   have a7:T.bl c=F:=(by unfold T.bl;simp;omega);have z:bt s k (T.sk s k+1)=[c]:=(by rw[yM ol,QU hc a7]);rcases h8 with rfl|rfl|rfl|rfl|h8
   ·rw[Y7 n d m k F u,j]at f g⊢;have y:=zP Q 123 d (s.size+1-(T.sk s k+1)) m (T.sk s k+1) F ol;have U:=QK Q (c:=123) (.inl rfl) d (s.size+1-(T.sk s k+1)) m (T.sk s k+1) ol ol;generalize ze (cE s rs n) s 123 d (s.size+1-(T.sk s k+1)) m (T.sk s k+1) F=l at *;simp only at f g⊢;have v:=zN oq oq f;obtain⟨i1,L,R,X,W,i6⟩:=U v.1;have q:=g.last;have w:=zj s 125 l.k l.b;refine⟨ot,ot,?_⟩;rw[zB s (b:=T.sk s k+1) ol ol,zB s (a:=T.sk s k+1) y.1 w,z,i6,v.2.2,List.length_append,List.length_singleton,show m+(l.es.length+1)-1=m+l.es.length from by omega,<-List.append_assoc];exact TX.servers q rfl X R W
   ·rw[j2 n d m k F u rfl rfl rfl,j]at f g⊢;have O:=zj s 40 (T.sk s k+1) F;have p:zc s 40 (T.sk s k+1) F<=s.size:=zu oq ol;have I:=zN (s:=s) (c:=40) (k:=T.sk s k+1) (b:=false) oq oq;generalize zc s 40 (T.sk s k+1) F=k1 at *;generalize zk s 40 (T.sk s k+1) F=b1 at *;have a9:=z7 (b:=b1) p;have a8:=yb (b:=b1) p;have a1:=XU (b:=b1) p;generalize hnv:zM s k1 b1=nv at *;generalize zs s k1 b1=kn at *;generalize zw s k1 b1=bn at *;have N:=zj s 44 kn bn;have A:zc s 44 kn bn<=s.size:=zu oq a8;have H:=zN (s:=s) (c:=44) (k:=kn) (b:=bn) oq oq;generalize zc s 44 kn bn=k2 at *;generalize zk s 44 kn bn=b2 at *;have y:=Q (d+1) m k2 b2 A;have K:b2=P->(cE s rs n (d+1) m k2 b2).b=P:=λh=>by rw[h];exact hB _ _ _
    have hI:=ih (d+1) m k2 b2 A ol;generalize cE s rs n (d+1) m k2 b2=r at *;simp only at f g⊢;have v:=zN oq oq f;have B:b2=F:=by cases hq:b2 with
     |false=>rfl
     |true=>rw[K hq]at v;cases v.1
    obtain⟨x1,x2,x3⟩:=hI v.1 hm g.left;have G:=H B;have gn:=a1 G.1;have g1:=I gn.1;have q:=g.last;have w:=zj s 41 r.k r.b;refine⟨ot,ot,?_⟩;rw[zB s (b:=T.sk s k+1) ol ol,zB s (a:=T.sk s k+1) (b:=k1) O ol,zB s (a:=k1) (b:=kn) a9 ol,zB s (a:=kn) (b:=k2) N ol,zB s (a:=k2) y.1 w,z,g1.2.2,G.2.2,v.2.2];rw[List.length_append,List.length_singleton,show m+(r.es.length+1)-1=m+r.es.length from by omega];have:=TX.ttl (Y:=Y) q rfl gn.2.2 x2 ol x3
    simpa[joi]using this
   ·rw[X7 n d m k F u,j]at f g⊢;simp only at f g⊢;have gn:=XU ol f;have q:=g.last (a:=[]);rw[List.length_nil,Nat.add_zero]at q;refine⟨ot,ot,?_⟩;rw[zB s (b:=T.sk s k+1) ol (z7 ol),z,List.length_singleton,Nat.add_sub_cancel];exact TX.alias q rfl gn.2.2
   ·rw[Qe n d m k F u,j]at f g⊢;simp only at f g⊢;have gl:=XY f;have q:=g.last (a:=[]);rw[List.length_nil,Nat.add_zero]at q;have J:=a2 _ (List.mem_of_getElem? q) rfl;simp only at J;refine⟨ot,ot,?_⟩;rw[zB s (b:=T.sk s k+1) ol (Yu s _ _),z,gl.2.2.2.2,List.length_singleton,Nat.add_sub_cancel];rw[gl.2.2.2.1]at q J;obtain⟨t,i,n1,n2,n3,n4⟩:=zfp hR J;exact TX.name q rfl rfl gl.2.2.1 n1 n2 ol n4
   ·rw[Qf n d m k F u h8 rfl rfl rfl rfl,j]at f g⊢;have O:=zj s 40 (T.sk s k+1) F;have p:zc s 40 (T.sk s k+1) F<=s.size:=zu oq ol;have I:=zN (s:=s) (c:=40) (k:=T.sk s k+1) (b:=false) oq oq;generalize zc s 40 (T.sk s k+1) F=k1 at *;generalize zk s 40 (T.sk s k+1) F=b1 at *;have Z:=zP Q c d (s.size+1-k1) m k1 b1 p;have a5:b1=P->(ze (cE s rs n) s c d (s.size+1-k1) m k1 b1).b=P:=λh=>QQ hB c d _ m k1 h
    have b4:b1=F->(c=123\/c=102\/c=119)->(ze (cE s rs n) s c d (s.size+1-k1) m k1 b1).b=F->(ze (cE s rs n) s c d (s.size+1-k1) m k1 b1).es=[]/\∃L:List (List Int),L.length=(ze (cE s rs n) s c d (s.size+1-k1) m k1 b1).ims.length/\L≠[]/\(∀(i:Nat) (x:List Int) (it:IM),L[i]?=S x->(ze (cE s rs n) s c d (s.size+1-k1) m k1 b1).ims[i]?=S it->TIt c x it)/\bt s k1 (ze (cE s rs n) s c d (s.size+1-k1) m k1 b1).k=joi 44 L:=λh hc2 f=>by subst h;exact QK Q hc2 d (s.size+1-k1) m k1 p ol f
    have b5:b1=F->(c=103\/c=109)->(ze (cE s rs n) s c d (s.size+1-k1) m k1 b1).b=F->Pos E m (ze (cE s rs n) s c d (s.size+1-k1) m k1 b1).es->∃L:List AR,L.length=(ze (cE s rs n) s c d (s.size+1-k1) m k1 b1).ims.length/\L≠[]/\(∀a∈L,TX E Y a.txt a.num/\a.num<m+(ze (cE s rs n) s c d (s.size+1-k1) m k1 b1).es.length)/\(∀(i:Nat) (a:AR) (it:IM),L[i]?=S a->(ze (cE s rs n) s c d (s.size+1-k1) m k1 b1).ims[i]?=S it->qX c a.key it/\it.arm=(a.num:Int))/\bt s k1 (ze (cE s rs n) s c d (s.size+1-k1) m k1 b1).k=joi 44 (L.map AR.t):=λh hc2 f hp=>by subst h;exact zaA Q hB ih hc2 d (s.size+1-k1) m k1 p ol ol f hm hp
    generalize ze (cE s rs n) s c d (s.size+1-k1) m k1 b1=l at *;have N:=zj s 124 l.k l.b;have A:zc s 124 l.k l.b<=s.size:=zu oq Z.2.1;have H:=zN (s:=s) (c:=124) (k:=l.k) (b:=l.b) oq oq;generalize zc s 124 l.k l.b=k2 at *;generalize zk s 124 l.k l.b=b2 at *;have y:=Q (d+1) (m+l.es.length) k2 b2 A;have K:b2=P->(cE s rs n (d+1) (m+l.es.length) k2 b2).b=P:=λh=>by rw[h];exact hB _ _ _
    have hI:=ih (d+1) (m+l.es.length) k2 b2 A ol;generalize cE s rs n (d+1) (m+l.es.length) k2 b2=r at *;simp only at f g⊢;have v:=zN oq oq f;have B:b2=F:=by cases hq:b2 with
     |false=>rfl
     |true=>rw[K hq]at v;cases v.1
    have G:=H B;have C:b1=F:=by cases hq:b1 with
     |false=>rfl
     |true=>rw[a5 hq]at G;cases G.1
    have g1:=I C;obtain⟨x1,x2,x3⟩:=hI v.1 ol g.left.right;have q:=g.last;have w:=zj s 41 r.k r.b;refine⟨by simp only[List.length_append,List.length_cons,List.length_nil];omega,by simp only[List.length_append,List.length_cons,List.length_nil];omega,?_⟩;rw[zB s (b:=T.sk s k+1) ol ol,zB s (a:=T.sk s k+1) (b:=k1) O ol,zB s (a:=k1) (b:=l.k) Z.1 ol,zB s (a:=l.k) (b:=k2) N ol,zB s (a:=k2) y.1 w,z,g1.2.2,G.2.2,v.2.2];have b0:m+(l.es++r.es).length=m+l.es.length+r.es.length:=(by rw[List.length_append];omega);rw[b0]at q;have b3:m+(l.es++r.es++[(⟨c,T.sk s k,d,0,0,l.ims,r.idx⟩:EX)]).length-1=m+l.es.length+r.es.length:=(by simp only[List.length_append,List.length_cons,List.length_nil];omega);rw[b3];by_cases a0:c=123\/c=102\/c=119
    ·obtain⟨i1,L,R,X,W,i6⟩:=b4 C a0 G.1;rw[i6];have:=TX.list (Y:=Y) (c:=c) q rfl ol X R W x2 ol x3
     simpa[joi]using this
    ·obtain⟨L,i1,i2,R,X,W⟩:=b5 C ol G.1 g.left.left;rw[W];have D:∀i,i<L.length->∃a∈L,L[i]?=S a/\(L[i]?).getD arD=a:=λi U=>⟨L[i],List.getElem_mem _,List.getElem?_eq_getElem U,by rw[List.getElem?_eq_getElem U];rfl⟩
     have:=TX.maps (E:=E) (Y:=Y) (c:=c) (m:=L.length) (ks:=λi=>((L[i]?).getD arD).key) (ar:=λi=>((L[i]?).getD arD).txt) (an:=λi=>((L[i]?).getD arD).num) (o:=bt s k2 r.k) q rfl ol (List.length_pos_iff.2 i2) i1.symm
      (λi it hit=>by
       have a4:i<L.length:=(by have:=(List.getElem?_eq_some_iff.1 hit).1;simp only at this;omega);obtain⟨a,ha,e1,e2⟩:=D i a4;have h1:=X i a it e1 hit;have h2:=(R a ha).2;simp only[e2];exact⟨h1.1,h1.2,ol⟩) (λi U=>by obtain⟨a,ha,e1,e2⟩:=D i U;simp only[e2];exact(R a ha).1) x2 ol x3
     have e2:(List.range L.length).map (λi=>((L[i]?).getD arD).key++[58]++((L[i]?).getD arD).txt)=L.map AR.t:=jc L AR.t;rw[e2]at this;simpa[joi]using this
theorem RX.mono{rs:List RL}{Y:List (Int×List Int)}{E:List EX}{a b:Nat}(h:RX rs Y E a)(c:a<=b):RX rs Y E b:=⟨h.len,λi r y hr hy=>by
 obtain⟨f,j,e,g,d⟩:=h.at_ i r y hr hy;exact⟨f,j,e,ol,d⟩⟩
theorem RX.snoc{rs:List RL}{Y:List (Int×List Int)}{E:List EX}{a b:Nat}(h:RX rs Y E a)(l:a<=b){r:RL}{x:List Int}{j:Nat}(g:r.ex=(j:Int))(c:j<b)(f:TX E Y x j):RX (rs++[r]) (Y++[(r.nv,x)]) E b:=⟨by simp[h.len],λi r' y hr hy=>by
 by_cases k:i<rs.length
 ·rw[List.getElem?_append_left k]at hr;rw[List.getElem?_append_left (by have:=h.len;omega)]at hy;obtain⟨o,j,n,p,m⟩:=h.at_ i r' y hr hy;exact⟨o,j,n,ol,m.app _⟩
 ·have d:=(List.getElem?_eq_some_iff.1 hr).1;simp at d;have e:i=rs.length:=ol;subst e;rw[List.getElem?_append_right (Nat.le_refl _),Nat.sub_self]at hr;rw[<-h.len,List.getElem?_append_right (Nat.le_refl _),Nat.sub_self]at hy;simp at hr hy;subst hr hy;exact⟨rfl,j,g,c,f.app _⟩⟩
theorem zbU{s:ByteArray}{E:List EX}(B:∀e∈E,e.kind=61->e.inner≠-1):∀(N:Nat) (rs:List RL) (l:List (Int×List Int)) (m k:Nat),k<=s.size->s.size+1<=N+k->(zA s N rs m k F).b=F->Pos E m (zA s N rs m k F).es->RX rs l E m ->
 ∃Y1:List (Int×List Int),Y1≠[]/\bt s k (zA s N rs m k F).k=joi 59 (Y1.map ruT)/\(∀y∈Y1,97<=y.1/\y.1<=122)/\RX (zA s N rs m k F).rs (l++Y1) E (m+(zA s N rs m k F).es.length)/\1<=(zA s N rs m k F).es.length/\∃r,(zA s N rs m k F).rs.getLast?=S r/\r.ex=((m+(zA s N rs m k F).es.length-1:Nat):Int):=by
 intro N;induction N with
 |zero=>intro rs l m k h1 h2;omega
 | succ N ih =>
  intro rs l m k R hN d f j;have i:=Yn s rs m k F R;have I:zE s rs m k F=⟨⟨zg s (zb s k F) F,zb s k F,(cE s rs (s.size+1) 0 m (zc s 58 (zR s k F) (zZ s k F)) (zk s 58 (zR s k F) (zZ s k F))).idx⟩,(cE s rs (s.size+1) 0 m (zc s 58 (zR s k F) (zZ s k F)) (zk s 58 (zR s k F) (zZ s k F))).es,(cE s rs (s.size+1) 0 m (zc s 58 (zR s k F) (zZ s k F)) (zk s 58 (zR s k F) (zZ s k F))).k,(cE s rs (s.size+1) 0 m (zc s 58 (zR s k F) (zZ s k F)) (zk s 58 (zR s k F) (zZ s k F))).b⟩:=rfl;simp only[zA]at d f⊢;have L:=zd5 (s:=s) j B (s.size+1);have D:=Yu s k F;have C:=xT (b:=false) R;have K:=zj s 58 (zR s k F) (zZ s k F);have p:zc s 58 (zR s k F) (zZ s k F)<=s.size:=zu oq C;have g:(zE s rs m k F).b=F->Pos E m (zE s rs m k F).es->1<=(zE s rs m k F).es.length/\(zE s rs m k F).rl.ex=((m+(zE s rs m k F).es.length-1:Nat):Int)/\(97<=(zE s rs m k F).rl.nv/\(zE s rs m k F).rl.nv<=122)/\∃x,bt s k (zE s rs m k F).k=[(zE s rs m k F).rl.nv,58]++x/\TX E l x (m+(zE s rs m k F).es.length-1):=by
   rw[I];simp only;intro G hp;have J:zk s 58 (zR s k F) (zZ s k F)=F:=by
    cases hq:zk s 58 (zR s k F) (zZ s k F)with
    |false=>rfl
    |true=>rw[hq,xB s rs (s.size+1)]at G;cases G
   have Q:=zN oq oq J;have u:=XY Q.1;obtain⟨W,V,U⟩:=L 0 m _ _ p ol G (Nat.le_refl _) hp;have o:=yT s rs (s.size+1) 0 m (zc s 58 (zR s k F) (zZ s k F)) (zk s 58 (zR s k F) (zZ s k F)) p;refine⟨W,V,by rw[u.2.2.2.1];exact u.2.2.1,_,?_,U⟩;rw[zB s D ol,zB s K o.1,u.2.2.2.2,Q.2.2,u.2.2.2.1];rfl
  generalize zE s rs m k F=it at *;have n:∀b,zc s 59 it.k b<=s.size:=λb=>zu oq i.2.1
  have h:=zj s 59 it.k it.b;have a:it.b=F:=by
   cases hq:it.b with
   |false=>rfl
   | true =>
    rw[hq]at d;have H:=yo (s:=s) (k:=it.k) (b:=true) (c:=59) (.inl rfl) oq oq;rw[H.1]at d;simp at d
  rw[a]at d h f⊢;cases ht:z6 s 59 it.k F with
  | false =>
   rw[ht]at d f;simp only[Bool.false_eq_true,if_false]at d f⊢;obtain⟨O,t,z,x,w,v⟩:=g a f;refine⟨[(it.rl.nv,x)],ot,?_,λy hy=>by simp at hy;subst hy;exact z,j.snoc ol t ol v,O,it.rl,ot,t⟩;rw[zB s i.1 h,xK ht,List.append_nil,w];rfl
  | true =>
   rw[ht]at d f;simp only[if_true]at d f⊢;obtain⟨O,t,z,x,w,v⟩:=g a f.left;have A:=YB (s:=s) (k:=it.k) (c:=59) oq oq ht;have a0:=T.sk_ge s it.k;obtain⟨Y,q1,q2,q3,P,q5,r,Z,X⟩:=ih (rs++[it.rl]) (l++[(it.rl.nv,x)]) (m+it.es.length) (zc s 59 it.k F) (n _) ol d f.right (j.snoc ol t ol v);have a1:=Za s N (rs++[it.rl]) (m+it.es.length) (zc s 59 it.k F) F (n _);generalize zA s N (rs++[it.rl]) (m+it.es.length) (zc s 59 it.k F) F=q at *;refine⟨(it.rl.nv,x)::Y,ot,?_,λy hy=>?_,?_,by simp only[List.length_append];omega,r,Z,by rw[X,List.length_append];congr 1;omega⟩
   ·rw[List.map_cons,YI 59 _ (by simpa using q1),<-q2,zB s i.1 (c:=q.k) ol,zB s h ol,A.2,w];simp[ruT]
   ·rcases List.mem_cons.1 hy with rfl|hy
    ·exact z
    ·exact q3 y hy
   ·rw[List.append_assoc,List.singleton_append]at P;rw[List.length_append,<-Nat.add_assoc];exact P
structure Pol (s:ByteArray) (Y:List (Int×List Int)):Prop where
 ne:Y≠[]
 let_:∀y∈Y,97<=y.1/\y.1<=122
 rx:RX (zy s).rs Y (zy s).es (zy s).es.length
 pos:1<=(zy s).es.length
 last:∃r,(zy s).rs.getLast?=S r/\r.ex=(((zy s).es.length-1:Nat):Int)
 bl:brL s s.size=joi 59 (Y.map ruT)
 br:Go.Proofs.YtaebngpoagjafabGreat.bare s=strOfNums (joi 59 (Y.map ruT))
 sp:Go.Proofs.YtaebngpoagjafabGreat.spl (Go.Proofs.YtaebngpoagjafabGreat.bare s) 59=(Y.map ruT).map strOfNums
theorem QD{s:ByteArray}(a:(yv s).1=0):s.size<=2000/\(zy s).b=F/\(zy s).k=s.size/\(Xr (zy s).es (zy s).rs).1=0:=by
 have i:s.size<=2000:=by
  by_cases f:2000<s.size
  ·unfold yv at a;rw[if_pos f]at a;cases a
  ·omega
 have d:((zy s).b || decide ((zy s).k<s.size))=F/\(Xr (zy s).es (zy s).rs).1=0:=by
  unfold yv at a;rw[if_neg ol]at a;split at a
  ·cases a
  ·next f =>
   refine⟨by simpa using f,?_⟩;split at a
   ·next h=>exact h
   ·next h=>exact absurd a h
 have c:(zy s).b=F:=by cases hq:(zy s).b with
  |false=>rfl
  |true=>rw[hq]at d;cases d.1
 have e:=Za s (s.size+1) [] 0 0 F (Nat.zero_le _);refine⟨i,c,?_,d.2⟩;have g:=d.1;rw[c,Bool.false_or]at g;have l:¬(zy s).k<s.size:=of_decide_eq_false g;have j:(zy s).k<=s.size:=e.2;omega
theorem zdr{s:ByteArray}(t:(yv s).1=0):∃Y,Pol s Y:=by
 obtain⟨L,A,w,J⟩:=QD t;have o:∀e∈(zy s).es,e.kind=61->e.inner≠-1:=λe he hk p=>by
  rcases X4 (zy s).es (zy s).rs with⟨_,f⟩|⟨E,_⟩
  ·exact f 5 e.na (.inl ⟨e,he,.inl (.inr (.inr (.inr ⟨hk,p,rfl,rfl⟩)))⟩)
  ·exact absurd J E
 obtain⟨Y,D,g,C,d,B,k⟩:=zbU (s:=s) o (s.size+1) [] [] 0 0 (Nat.zero_le _) ol A (λi e he=>by rw[Nat.zero_add];exact he) ⟨rfl,λi r y hr=>by simp at hr⟩;have q:zA s (s.size+1) [] 0 0 F=zy s:=rfl;rw[q]at g d B k;rw[w]at g;simp only[List.nil_append,Nat.zero_add]at d k;have b:Go.Proofs.YtaebngpoagjafabGreat.bare s=strOfNums (joi 59 (Y.map ruT)):=by unfold Go.Proofs.YtaebngpoagjafabGreat.bare;rw[zaR,g]
 have v:∀(i:Nat) (y:Int×List Int),Y[i]?=S y->(97<=y.1/\y.1<=122)/\∃j,TX (zy s).es Y y.2 j:=λi y c=>by
  refine⟨C y (List.mem_of_getElem? c),?_⟩;have I:=(List.getElem?_eq_some_iff.1 c).1;have N:=d.len;obtain⟨_,j,_,_,h⟩:=d.at_ i _ y (List.getElem?_eq_getElem ol) c;exact⟨j,h⟩
 have u:∀x∈Y.map ruT,Byt x:=λx hx=>by
  simp only[List.mem_map]at hx;obtain⟨y,c,rfl⟩:=hx;obtain⟨i,p⟩:=List.getElem?_of_mem c;obtain⟨E,j,f⟩:=v i y p;exact Byt.app (a:=[y.1,58]) (λz hz=>by simp at hz;rcases hz with rfl|rfl<;>omega) f.byt
 have l:∀i:Nat,∃n:Int,∀y,Y[i]?=S y->SZL .empty [] y.2 n:=λi=>by
  cases c:Y[i]? with
  |none=>exact⟨0,λy h=>by cases h⟩
  | some y =>
   obtain⟨_,j,f⟩:=v i y c;obtain⟨n,H⟩:=f.szl .empty [];exact⟨n,λy' h=>by simp at h;subst h;exact H⟩
 obtain⟨G,m⟩:=Classical.axiomOfChoice l;refine⟨Y,D,C,d,B,k,by rw[zaR,g],b,?_⟩;rw[b,ZG (zbc u),zf5 (nm:=.empty) (K:=λ_=>[]) (n:=G) Y 0 D (λi y c=>⟨(v i y c).1,by rw[Nat.zero_add];exact m i y c⟩)]
end Go.Proofs.YtaebngpoagjafabGreat
