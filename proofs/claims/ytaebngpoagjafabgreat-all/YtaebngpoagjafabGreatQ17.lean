import Derived.Test.YtaebngpoagjafabGreatQ15
import Derived.Test.YtaebngpoagjafabGreatQ16
set_option maxRecDepth 100000
namespace Go.Proofs.YtaebngpoagjafabGreat
open Bool renaming false → F,true → S
open Option renaming some → E
open Go.RowKit
theorem Zi(s:ByteArray)(j:Nat):zg s j F=if j<s.size then T.ch s j else 0:=by unfold zg;rw[if_neg oq]
theorem zee(s:ByteArray)(j:Nat):T.dig (zg s j F)=T.dig (T.ch s j):=by
 rw[Zi];split
 ·rfl
 ·next h=>rw[T.ch_ge h];rfl
theorem zbm(s:ByteArray)(j:Nat):bit (zg s j F)=bit (T.ch s j):=by
 rw[Zi];split
 ·rfl
 ·next h=>rw[T.ch_ge h];rfl
theorem Y3(c:Int):T.dig c=S↔48<=c/\c<=57:=by unfold T.dig;simp
theorem zav(s:ByteArray)(b:Bool):∀n j,nmF s b n j<=j+n:=by
 intro n;induction n with
 |zero=>intro j;exact Nat.le_refl _
 | succ n ih =>
  intro j;simp only[nmF];split
  ·have:=ih (j+1);omega
  ·omega
theorem zfG(s:ByteArray)(p L:Nat)(c:L=if T.ch s p=48 then 1 else 9):∀n j,p<=j->j-p<=L->j<=s.size->s.size-j+1<=n ->
 (T.dgF s 9 58 S p n j).2=nmF s F (L-(j-p)) j/\((T.dgF s 9 58 S p n j).1=S↔T.dig (T.ch s (T.dgF s 9 58 S p n j).2)=F):=by
 intro n;induction n with
 |zero=>intro j k i h g;omega
 | succ n ih =>
  intro j k i h g;cases hd:T.dig (T.ch s j)with
  | false =>
   rw[T.dgF_end hd];refine⟨?_,by simp[hd]⟩;cases d:L-(j-p)with
   |zero=>rfl
   |succ m=>simp only[nmF];rw[zee,hd];rfl
  | true =>
   have r:=(Y3 _).1 hd;by_cases q:j-p=L
   ·have a:T.stp 9 58 S (T.ch s j) ((j:Int)-p) (T.ch s p)=S:=by
     unfold T.stp;by_cases b:T.ch s p=48
     ·rw[if_pos b]at c;have:(j:Int)-p=1:=ol
      simp[this,b]
     ·rw[if_neg b]at c;have:(j:Int)-p=9:=ol
      simp[this]
    rw[T.dgF_stop hd a];refine⟨?_,by simp[hd]⟩;rw[show L-(j-p)=0 from by omega];rfl
   ·have a:T.stp 9 58 S (T.ch s j) ((j:Int)-p) (T.ch s p)=F:=by
     unfold T.stp;have e:decide ((58:Int)<=T.ch s j)=F:=decide_eq_false ol;by_cases b:T.ch s p=48
     ·rw[if_pos b]at c;have:(j:Int)-p=0:=ol
      simp[this,e]
     ·rw[if_neg b]at c;have o:((j:Int)-p==9)=F:=beq_eq_false_iff_ne.2 ol;have l:(T.ch s p==48)=F:=beq_eq_false_iff_ne.2 b;rw[e,o,l];simp
    rw[T.dgF_next hd a];have f:j<s.size:=T.dig_lt hd;have:=ih (j+1) ol ol ol ol
    refine⟨?_,this.2⟩;rw[this.1];obtain⟨m,d⟩:∃m,L-(j-p)=m+1:=⟨L-(j-p)-1,ol⟩;rw[d,show L-(j+1-p)=m from by omega];simp only[nmF];rw[zee,hd];rfl
theorem zfH(s:ByteArray)(p:Nat):∀n j,p<=j->j-p<=32->j<=s.size->s.size-j+1<=n ->
 (T.dgF s 32 50 F p n j).2=btF s F (32-(j-p)) j/\((T.dgF s 32 50 F p n j).1=S↔T.dig (T.ch s (T.dgF s 32 50 F p n j).2)=F):=by
 intro n;induction n with
 |zero=>intro j i h g f;omega
 | succ n ih =>
  intro j i h g f;cases hd:T.dig (T.ch s j)with
  | false =>
   rw[T.dgF_end hd];refine⟨?_,by simp[hd]⟩;have b:bit (T.ch s j)=F:=by
    cases b:bit (T.ch s j)with
    |false=>rfl
    |true=>simp[bit]at b;unfold T.dig at hd;simp at hd;omega
   cases d:32-(j-p)with
   |zero=>rfl
   |succ m=>simp only[btF];rw[zbm,b];rfl
  | true =>
   have q:=(Y3 _).1 hd;by_cases o:j-p=32
   ·have a:T.stp 32 50 F (T.ch s j) ((j:Int)-p) (T.ch s p)=S:=by
     unfold T.stp;have:(j:Int)-p=32:=ol
     simp[this]
    rw[T.dgF_stop hd a];refine⟨?_,by simp[hd]⟩;rw[show 32-(j-p)=0 from by omega];rfl
   ·obtain⟨m,d⟩:∃m,32-(j-p)=m+1:=⟨32-(j-p)-1,ol⟩;by_cases c:50<=T.ch s j
    ·have a:T.stp 32 50 F (T.ch s j) ((j:Int)-p) (T.ch s p)=S:=by
      unfold T.stp;simp[c]
     rw[T.dgF_stop hd a];refine⟨?_,by simp[hd]⟩;have b:bit (T.ch s j)=F:=(by unfold bit;simp;omega);rw[d];simp only[btF];rw[zbm,b];rfl
    ·have a:T.stp 32 50 F (T.ch s j) ((j:Int)-p) (T.ch s p)=F:=by
      unfold T.stp;have l:decide ((50:Int)<=T.ch s j)=F:=decide_eq_false c;have k:((j:Int)-p==32)=F:=beq_eq_false_iff_ne.2 ol;rw[l,k];rfl
     rw[T.dgF_next hd a];have e:j<s.size:=T.dig_lt hd;have:=ih (j+1) ol ol ol ol
     refine⟨?_,this.2⟩;have b:bit (T.ch s j)=S:=(by unfold bit;simp;omega);rw[this.1,d,show 32-(j+1-p)=m from by omega];simp only[btF];rw[zbm,b];rfl
theorem zm(s:ByteArray)(k:Nat):zb s k F=T.sk s k:=by unfold zb;rw[if_neg oq]
theorem zdI{s:ByteArray}{k:Nat}(c:k<=s.size):(T.dg s 9 58 S (T.sk s k)).2=zs s k F/\((T.dg s 9 58 S (T.sk s k)).1=S↔T.dig (T.ch s (zs s k F))=F):=by
 have b:=T.sk_le c;have h:=zfG s (T.sk s k) _ rfl (s.size-T.sk s k+1) (T.sk s k) (Nat.le_refl _) ol b (Nat.le_refl _);have e:zs s k F=(T.dg s 9 58 S (T.sk s k)).2:=by
  unfold T.dg;rw[h.1];unfold zs nmE nmL;rw[zm,Nat.sub_self,Nat.sub_zero,Zi];by_cases a:T.sk s k<s.size
  ·rw[if_pos a]
  ·rw[if_neg a,T.ch_ge a];rfl
 refine⟨e.symm,?_⟩;rw[e];exact h.2
theorem zgS{s:ByteArray}{k:Nat}(b:k<=s.size):(T.dg s 32 50 F (T.sk s k)).2=btK s k F/\((T.dg s 32 50 F (T.sk s k)).1=S↔T.dig (T.ch s (btK s k F))=F):=by
 have a:=T.sk_le b;have h:=zfH s (T.sk s k) (s.size-T.sk s k+1) (T.sk s k) (Nat.le_refl _) ol a (Nat.le_refl _);have e:btK s k F=(T.dg s 32 50 F (T.sk s k)).2:=by
  unfold T.dg;rw[h.1];unfold btK;rw[zm,Nat.sub_self,Nat.sub_zero]
 refine⟨e.symm,?_⟩;rw[e];exact h.2
theorem Jc(a:ByteArray):∀(n i:Nat) (r:List UInt8),a.size-i=n->ByteArray.toList.loop a i r=r.reverse++a.data.toList.drop i:=by
 intro n;induction n with
 | zero =>
  intro i r h;rw[ByteArray.toList.loop,if_neg ol,List.drop_eq_nil_of_le (by simp;show a.size<=i;omega)];simp
 | succ n ih =>
  intro i r h;have b:i<a.size:=ol;have c:i<a.data.toList.length:=by simp;exact b
  rw[ByteArray.toList.loop,if_pos b,ih (i+1) _ ol,List.drop_eq_getElem_cons c];simp[ByteArray.get!,b]
theorem Qo(a:ByteArray):a.toList=a.data.toList:=by
 unfold ByteArray.toList;rw[Jc a (a.size-0) 0 [] rfl];simp
theorem xJ(a b:ByteArray):(a.toList==b.toList)=S↔a.size=b.size/\∀i,i<a.size->T.ch a i=T.ch b i:=by
 rw[beq_iff_eq,Qo,Qo];constructor
 ·intro h;have e:a.size=b.size:=by
   have:=congrArg List.length h
   simpa using this
  refine⟨e,λi c=>?_⟩;rw[T.ch_lt c,T.ch_lt ol];have d:a.data.toList[i]?=b.data.toList[i]?:=by rw[h]
  have f:a.data.toList[i]?=E a[i]:=List.getElem?_eq_getElem (l:=a.data.toList) (by simpa using c);have n:b.data.toList[i]?=E (b[i]'(by omega)):=List.getElem?_eq_getElem (l:=b.data.toList) (by simpa using(show i<b.size by omega));rw[f,n]at d;have m:a[i]=b[i]'(by omega):=Option.some.inj d;rw[m]
 ·rintro⟨e,h⟩;apply List.ext_getElem
  ·simpa using e
  ·intro i d f;have c:i<a.size:=(by simpa using d);have g:i<b.size:=(by simpa using f);have:=h i c
   rw[T.ch_lt c,T.ch_lt g]at this;have k:a[i].toNat=b[i].toNat:=ol;have j:a[i]=b[i]:=UInt8.toNat_inj.1 k;exact j
structure qY (t:ByteArray) (v:Int):Prop where
 dg:T.digs t
 lo:1<=t.size
 hi:t.size<=9
 zr:t.size=1\/T.ch t 0≠48
 vl:T.val t t.size=v
structure zeT (t:ByteArray) (pv pl:Int):Prop where
 bt:∀i,i<t.size->T.ch t i=48\/T.ch t i=49
 lo:1<=t.size
 hi:t.size<=32
 pl:pl=t.size
 pv:pv=bv t 0 t.size*2 ^ (32-t.size)
structure J4 (t:ByteArray) (v:Int):Prop where
 sz:t.size=1
 vl:T.ch t 0=v
theorem zbu(a b:ByteArray):∀n,(∀i,i<n->T.ch a i=T.ch b i)->T.val a n=T.val b n:=by
 intro n;induction n with
 |zero=>intro _;rfl
 |succ n ih=>intro h;simp only[T.val];rw[ih (λi hi=>h i ol),h n ol]
theorem zeY{a b:ByteArray}(g:T.digs a)(f:T.digs b):∀n,n<=a.size->n<=b.size->T.val a n=T.val b n->∀i,i<n->T.ch a i=T.ch b i:=by
 intro n;induction n with
 |zero=>intro _ _ _ i d;omega
 | succ n ih =>
  intro k j h i d;simp only[T.val]at h;have m:=g n ol;have l:=f n ol;have e:T.val a n=T.val b n:=ol;by_cases c:i=n
  ·subst c;omega
  ·exact ih ol ol e i ol
theorem zeX{a:ByteArray}(b:T.digs a)(e:T.ch a 0≠48):∀n,n+1<=a.size->(10:Int) ^ n<=T.val a (n+1):=by
 intro n;induction n with
 |zero=>intro h;have:=b 0 ol;simp[T.val];omega
 | succ n ih =>
  intro h;have d:=ih ol;have c:=b (n+1) ol;show(10:Int) ^ (n+1)<=T.val a (n+1)*10+(T.ch a (n+1)-48);rw[Int.pow_succ];omega
theorem zaq{m n:Nat}(h:m<=n):(10:Int) ^ m<=10 ^ n:=by
 induction n with
 | zero =>
  have:m=0:=ol
  subst this;exact Int.le_refl _
 | succ n ih =>
  by_cases e:m=n+1
  ·subst e;exact Int.le_refl _
  ·have:=ih ol
   have a:(0:Int)<10 ^ n:=Int.pow_pos oq;rw[Int.pow_succ];omega
theorem Jx{a b:ByteArray}{v:Int}(c:qY a v)(e:qY b v):a.size<=b.size:=by
 rcases c.zr with h|h
 ·have:=e.lo;omega
 ·by_cases d:a.size<=b.size
  ·exact d
  ·exfalso
   have g:=zeX c.dg h (a.size-1) (by have:=c.lo;omega);rw[show a.size-1+1=a.size from by have:=c.lo;omega,c.vl]at g;have f:=(T.val_bd e.dg b.size (Nat.le_refl _)).2;rw[e.vl]at f;have i:=zaq (m:=b.size) (n:=a.size-1) ol;omega
theorem zdH{a b:ByteArray}{v u:Int}(d:qY a v)(c:qY b u):(a.toList==b.toList)=S↔v=u:=by
 rw[xJ];constructor
 ·rintro⟨e,h⟩;rw[<-d.vl,<-c.vl,<-e];exact zbu a b _ h
 ·intro h;subst h;have e:a.size=b.size:=Nat.le_antisymm (Jx d c) (Jx c d);refine⟨e,zeY d.dg c.dg a.size (Nat.le_refl _) ol ?_⟩;rw[d.vl,e,c.vl]
theorem zel(a b:ByteArray):∀n,(∀i,i<n->T.ch a i=T.ch b i)->bv a 0 n=bv b 0 n:=by
 intro n;induction n with
 |zero=>intro _;rfl
 |succ n ih=>intro h;simp only[bv];rw[ih (λi hi=>h i ol),Nat.zero_add,h n ol]
theorem zgO{a b:ByteArray}(g:∀i,i<a.size->T.ch a i=48\/T.ch a i=49)(f:∀i,i<b.size->T.ch b i=48\/T.ch b i=49):∀n,n<=a.size->n<=b.size->bv a 0 n=bv b 0 n->∀i,i<n->T.ch a i=T.ch b i:=by
 intro n;induction n with
 |zero=>intro _ _ _ i d;omega
 | succ n ih =>
  intro k j h i d;simp only[bv,Nat.zero_add]at h;have m:=g n ol;have l:=f n ol;have e:bv a 0 n=bv b 0 n:=ol;by_cases c:i=n
  ·subst c;omega
  ·exact ih ol ol e i ol
theorem zev{a b:ByteArray}{v l g i:Int}(f:zeT a v l)(d:zeT b g i):(a.toList==b.toList)=S↔v=g/\l=i:=by
 rw[xJ];constructor
 ·rintro⟨c,h⟩;refine⟨?_,by rw[f.pl,d.pl,c]⟩;rw[f.pv,d.pv,<-c,zel a b _ h]
 ·rintro⟨j,k⟩;have c:a.size=b.size:=by have n:=f.pl;have m:=d.pl;omega
  refine⟨c,zgO f.bt d.bt a.size (Nat.le_refl _) ol ?_⟩;have e:=j;rw[f.pv,d.pv,<-c]at e;rw[c]at e⊢;exact Int.eq_of_mul_eq_mul_right (Int.ne_of_gt (Int.pow_pos oq)) e
theorem zdQ{a b:ByteArray}{v u:Int}(d:J4 a v)(c:J4 b u):(a.toList==b.toList)=S↔v=u:=by
 rw[xJ];have f:=d.sz;have e:=c.sz;constructor
 ·rintro⟨_,h⟩;rw[<-d.vl,<-c.vl];exact h 0 ol
 ·intro h;refine⟨ol,λi hi=>?_⟩;have:i=0:=ol
  subst this;rw[d.vl,c.vl,h]
theorem Ja(s:ByteArray)(p e:Nat)(a:e<=s.size):∀n,n<=e-p->T.val (s.extract p e) n=vl s p n:=by
 intro n;induction n with
 |zero=>intro _;rfl
 |succ n ih=>intro h;simp only[T.val,vl];rw[ih ol,T.ch_extract s p e n a ol]
theorem zaO(s:ByteArray)(p e:Nat)(a:e<=s.size):∀n,n<=e-p->bv (s.extract p e) 0 n=bv s p n:=by
 intro n;induction n with
 |zero=>intro _;rfl
 |succ n ih=>intro h;simp only[bv];rw[ih ol,Nat.zero_add,T.ch_extract s p e n a ol]
theorem zdG{s:ByteArray}{k:Nat}(c:k<=s.size)(h:T.sk s k<zs s k F):qY (s.extract (T.sk s k) (zs s k F)) (zM s k F):=by
 have f:=T.sk_le c;have d:=yb (b:=false) c;have g:=zdI c;have e:=T.dg_all s 9 58 S (T.sk s k) f oq;rw[g.1]at e;have a:=T.size_extract s (T.sk s k) (zs s k F) d;refine⟨e.1,ol,ol,?_,?_⟩
 ·by_cases i:T.ch s (T.sk s k)=48
  ·left
   have:zs s k F<=T.sk s k+1:=by
    unfold zs nmE nmL;rw[zm,Zi,if_pos ol];exact zav s F 1 _
   omega
  ·right
   rw[T.ch_extract s _ _ 0 d ol];simpa using i
 ·rw[a,Ja s _ _ d _ (Nat.le_refl _)];unfold zM;rw[zm]
theorem QV(s:ByteArray):∀n j i,j<=i->i<btF s F n j->bit (T.ch s i)=S:=by
 intro n;induction n with
 |zero=>intro j i b a;simp only[btF]at a;omega
 | succ n ih =>
  intro j i b a;simp only[btF]at a;split at a
  ·next hb =>
   by_cases e:i=j
   ·subst e;rw[zbm]at hb;exact hb
   ·exact ih (j+1) i ol a
  ·omega
theorem zeu{s:ByteArray}{k:Nat}(f:k<=s.size)(h:T.sk s k<btK s k F):zeT (s.extract (T.sk s k) (btK s k F)) (btV s k F) (btL s k F):=by
 have e:=Xt (b:=false) f;have a:=T.size_extract s (T.sk s k) (btK s k F) e;have d:=(qG s F 32 (zb s k F) (zO f)).2.2;have c:btL s k F=btK s k F-T.sk s k:=by unfold btL;rw[zm]
 have g:btK s k F<=T.sk s k+32:=by unfold btK;rw[zm]at *;exact d
 refine⟨λi hi=>?_,ol,ol,by rw[c,a],?_⟩
 ·rw[T.ch_extract s _ _ i e ol];have:=QV s 32 (T.sk s k) (T.sk s k+i) ol (by
   have:btK s k F=btF s F 32 (T.sk s k):=by unfold btK;rw[zm]
   omega)
  simpa[bit]using this
 ·rw[a,zaO s _ _ e _ (Nat.le_refl _)];unfold btV;rw[zm,c]
theorem xQ{d e:Nat->FR->Option PR}(h:∀k f q,d k f=E q->e k f=E q):∀(l:List FR) (k:Nat) (q:PR),pL d k l=E q->pL e k l=E q:=by
 intro l;induction l with
 |nil=>intro k q c;exact c
 | cons f r ih =>
  intro k q c;simp only[pL]at c⊢;cases ha:d k f with
  |none=>rw[ha]at c;simp at c
  | some a =>
   rw[ha]at c;rw[h k f a ha];simp only at c⊢;split at c
   ·next hok =>
    rw[if_pos hok];cases hb:pL d a.at_ r with
    |none=>rw[hb]at c;simp at c
    |some b=>rw[hb]at c;rw[ih _ _ hb];exact c
   ·next hok=>rw[if_neg hok];exact c
theorem zdx(s:ByteArray):∀(N k:Nat) (f:FR) (q:PR),pF s N k f=E q->pF s (N+1) k f=E q:=by
 intro N;induction N with
 |zero=>intro k f q h;simp[pF]at h
 | succ N ih =>
  intro k f q h;rw[pF]at h⊢;split at h
  ·next hok =>
   rw[if_pos hok];cases hb:pL (pF s N) (zq s k f).at_ (zq s k f).push with
   |none=>rw[hb]at h;simp at h
   |some b=>rw[hb]at h;rw[xQ (ih) _ _ _ hb];exact h
  ·next hok=>rw[if_neg hok];exact h
theorem xS(s:ByteArray){N M:Nat}(h:N<=M){k:Nat}{f:FR}{q:PR}(a:pF s N k f=E q):pF s M k f=E q:=by
 induction M with
 | zero =>
  have:N=0:=ol
  subst this;exact a
 | succ M ih =>
  by_cases e:N=M+1
  ·subst e;exact a
  ·exact zdx s M k f q (ih ol)
def Par(s:ByteArray)(k:Nat)(l:List FR)(ok:Bool)(a:Nat)(sg:List SG):Prop:=∃N n,pL (pF s N) k l=E ⟨ok,a,sg,n⟩
def zQ(s:ByteArray)(k:Nat)(l:List FR)(a:Nat):Prop:=∃sg,Par s k l F a sg
theorem Par.nil(s:ByteArray)(k:Nat):Par s k [] S k []:=⟨0,0,rfl⟩
theorem zdw{b:Nat->FR->Option PR}{k:Nat}{f:FR}{q:PR}(h:b k f=E q):∃n,pL b k [f]=E ⟨q.ok,q.at_,q.sg,n⟩:=by
 obtain⟨ok,a,sg,n⟩:=q;simp only[pL,h];cases ok with
 |true=>exact⟨n+0,ot⟩
 |false=>exact⟨n,ot⟩
theorem za8{b:Nat->FR->Option PR}{k:Nat}{f:FR}{ok:Bool}{a n:Nat}{d:List SG}(h:pL b k [f]=E ⟨ok,a,d,n⟩):∃n',b k f=E ⟨ok,a,d,n'⟩:=by
 simp only[pL]at h;cases ha:b k f with
 |none=>rw[ha]at h;simp at h
 | some q =>
  rw[ha]at h;obtain⟨c,g,e,n'⟩:=q;cases c with
  |true=>simp at h;obtain⟨rfl,rfl,rfl,_⟩:=h;exact⟨n',rfl⟩
  |false=>simp at h;obtain⟨rfl,rfl,rfl,rfl⟩:=h;exact⟨n',rfl⟩
theorem Par.cons{s:ByteArray}{k a b:Nat}{f:FR}{m:List FR}{ok:Bool}{c sg2:List SG}(i:Par s k [f] S a c)(e:Par s a m ok b sg2):Par s k (f::m) ok b (sg2++c):=by
 obtain⟨l,r,i⟩:=i;obtain⟨j,n,e⟩:=e;obtain⟨d,g⟩:=za8 i;refine⟨l+j,d+n,?_⟩;have p:=xS s (M:=l+j) ol g;have o:=xQ (λk f q h=>xS s (M:=l+j) ol h) _ _ _ e;simp only[pL,p,o];simp
theorem Par.cons_no{s:ByteArray}{k a:Nat}{f:FR}{g:List FR}{e:List SG}(d:Par s k [f] F a e):Par s k (f::g) F a e:=by
 obtain⟨h,i,d⟩:=d;obtain⟨b,c⟩:=za8 d;exact⟨h,b,by simp only[pL,c];simp⟩
theorem zQ.cons{s:ByteArray}{k a:Nat}{f:FR}{d:List FR}(c:zQ s k [f] a):zQ s k (f::d) a:=by
 obtain⟨b,h⟩:=c;exact⟨b,h.cons_no⟩
theorem zQ.after{s:ByteArray}{k a b:Nat}{f:FR}{d:List FR}{c:List SG}(g:Par s k [f] S a c)(e:zQ s a d b):zQ s k (f::d) b:=by
 obtain⟨i,h⟩:=e;exact⟨_,g.cons h⟩
theorem Par.step{s:ByteArray}{k b:Nat}{f:FR}{ok:Bool}{sg2:List SG}(h:(zq s k f).ok=S)(a:Par s (zq s k f).at_ (zq s k f).push ok b sg2):Par s k [f] ok b (sg2++(zq s k f).sg):=by
 obtain⟨N,n,a⟩:=a;have:pF s (N+1) k f=E ⟨ok,b,sg2++(zq s k f).sg,n+1⟩:=by rw[pF,if_pos h,a]
 obtain⟨c,d⟩:=zdw this;exact⟨N+1,c,d⟩
theorem zQ.step{s:ByteArray}{k b:Nat}{f:FR}(h:(zq s k f).ok=S)(a:zQ s (zq s k f).at_ (zq s k f).push b):zQ s k [f] b:=by
 obtain⟨c,a⟩:=a;exact⟨_,Par.step h a⟩
theorem zQ.stop{s:ByteArray}{k:Nat}{f:FR}(h:(zq s k f).ok=F):zQ s k [f] (zq s k f).at_:=by
 have:pF s 1 k f=E ⟨F,(zq s k f).at_,[],1⟩:=by rw[pF,if_neg (by rw[h];decide)]
 obtain⟨a,b⟩:=zdw this;exact⟨[],1,a,b⟩
theorem Par.det{s:ByteArray}{k a b N n:Nat}{l:List FR}{ok d:Bool}{i c:List SG}(g:Par s k l ok a i)(j:pL (pF s N) k l=E ⟨d,b,c,n⟩):ok=d/\a=b/\i=c:=by
 obtain⟨M,m,g⟩:=g;have o:=xQ (λk f q h=>xS s (M:=N+M) ol h) _ _ _ g;have e:=xQ (λk f q h=>xS s (M:=N+M) ol h) _ _ _ j;rw[o]at e;simp at e;exact⟨e.1,e.2.1,e.2.2.1⟩
def QY(s:ByteArray)(k:Nat)(b:Bool):Prop:=b=S\/T.dig (T.ch s k)=S
theorem ZS{s:ByteArray}{k:Nat}{b:Bool}(h:QY s k b):zb s k b=k:=by
 cases b with
 |true=>rfl
 | false =>
  rw[zm];rcases h with h|h
  ·cases h
  ·have:=(Y3 _).1 h
   refine T.sk_here ?_;unfold T.bl;simp
   omega
theorem qD{s:ByteArray}{k:Nat}{b:Bool}(h:QY s k b):zg s k b=0\/(48<=zg s k b/\zg s k b<=57):=by
 cases b with
 |true=>left;simp[zg]
 | false =>
  right
  rcases h with h|h
  ·cases h
  ·have:=(Y3 _).1 h
   have a:=T.dig_lt h;rw[Zi,if_pos a];exact this
theorem yo{s:ByteArray}{k:Nat}{b:Bool}{c:Int}(h:QY s k b)(e:c≠0)(d:c<48\/57<c):z6 s c k b=F/\zc s c k b=k/\zk s c k b=S:=by
 have a:z6 s c k b=F:=by
  unfold z6;rw[ZS h,beq_eq_false_iff_ne];rcases qD h with h|h<;>omega
 refine⟨a,?_,?_⟩
 ·unfold zc;rw[if_neg (by rw[a];decide),ZS h]
 ·unfold zk;rw[if_neg (by rw[a];decide)]
theorem JQ{s:ByteArray}{k:Nat}{b:Bool}(h:QY s k b):zR s k b=k/\zZ s k b=S:=by
 have a:YW s k b=F:=by
  unfold YW;rw[ZS h];rcases qD h with h|h
  ·simp[h]
  ·have:¬97<=zg s k b:=by omega
   simp[this]
 exact⟨by unfold zR;rw[if_neg (by rw[a];decide),ZS h],by unfold zZ;rw[if_neg (by rw[a];decide)]⟩
theorem jn{s:ByteArray}{rs:List RL}{n m k:Nat}{d:Int}{b:Bool}(h:QY s k b):cE s rs n d m k b=⟨-1,[],k,S⟩:=by
 cases n with
 |zero=>simp only[cE,ZS h]
 | succ n =>
  have a:isK (zg s (zb s k b) b)=F:=by
   rw[ZS h];rcases qD h with h|h
   ·rw[h];rfl
   ·unfold isK;simp;omega
  rw[JS n d m k b a,ZS h]
theorem zbo(s:ByteArray)(k:Nat):zs s k S=k/\zw s k S=S:=by
 refine⟨?_,QE rfl⟩;unfold zs nmE nmL;have:zb s k S=k:=rfl
 rw[this,YL];simp[nmF,YL,T.dig]
theorem XF{s:ByteArray}{k:Nat}{c:Int}(i:0<c)(d:c<256)(h:z6 s c k F=S):Par s k [byF c] S (zc s c k F) []/\zk s c k F=F:=by
 have g:=xp ol h;have a:zq s k (byF c)=⟨S,T.sk s k+1,[],[]⟩:=by
  unfold zq byF;simp only;rw[if_neg ol,if_neg ol,if_neg ol,if_neg ol,if_neg ol,if_neg ol,if_neg ol,if_neg ol,if_pos g.2.2]
 refine⟨?_,by unfold zk;rw[if_pos h]⟩;have e:zc s c k F=T.sk s k+1:=by unfold zc;rw[if_pos h,zm]
 have:=Par.step (s:=s) (k:=k) (f:=byF c) (ok:=true) (b:=T.sk s k+1) (sg2:=[]) (by rw[a]) (by rw[a];exact Par.nil _ _)
 rw[a]at this;rw[e];exact this
theorem zeW{s:ByteArray}{k:Nat}{c:Int}(i:0<c)(g:c<256)(h:z6 s c k F=F):zQ s k [byF c] (zc s c k F)/\zk s c k F=S:=by
 have d:T.ch s (T.sk s k)≠c:=by
  unfold z6 at h;rw[zm,Zi,beq_eq_false_iff_ne]at h;by_cases b:T.sk s k<s.size
  ·rw[if_pos b]at h;exact h
  ·rw[T.ch_ge b];omega
 have a:zq s k (byF c)=⟨F,T.sk s k,[],[]⟩:=by
  unfold zq byF;simp only;rw[if_neg ol,if_neg ol,if_neg ol,if_neg ol,if_neg ol,if_neg ol,if_neg ol,if_neg ol,if_neg d]
 refine⟨?_,by unfold zk;rw[if_neg (by rw[h];decide)]⟩;have e:zc s c k F=T.sk s k:=by unfold zc;rw[if_neg (by rw[h];decide),zm]
 have:=zQ.stop (s:=s) (k:=k) (f:=byF c) (by rw[a])
 rw[a]at this;rw[e];exact this
theorem zfo{s:ByteArray}{k:Nat}(j:k<=s.size)(e d l:Int):
 (Par s k [⟨261,e,d,l⟩] S (zs s k F) [⟨e,T.sk s k,d,l,s.extract (T.sk s k) (zs s k F)⟩]/\zw s k F=F/\T.sk s k<zs s k F) \/
 (zQ s k [⟨261,e,d,l⟩] (zs s k F)/\QY s (zs s k F) (zw s k F)):=by
 have g:=zdI j;have m:T.sk s k<=zs s k F:=by have:=(jO s F (nmL s (zb s k F) F) (zb s k F) (zO j)).1;rw[zm]at this;unfold zs nmE;rw[zm];exact this
 have i:zw s k F=if zs s k F=T.sk s k then S else F:=by unfold zw;rw[zm]
 by_cases c:((T.dg s 9 58 S (T.sk s k)).1 && decide (T.sk s k<(T.dg s 9 58 S (T.sk s k)).2))=S
 ·left
  have a:zq s k ⟨261,e,d,l⟩=⟨S,(T.dg s 9 58 S (T.sk s k)).2,[],[⟨e,T.sk s k,d,l,s.extract (T.sk s k) (T.dg s 9 58 S (T.sk s k)).2⟩]⟩:=by
   unfold zq;simp only;rw[if_neg oq,if_neg oq,if_neg oq,if_neg oq,if_neg oq,if_pos trivial,if_pos c]
  have h:T.sk s k<zs s k F:=by rw[<-g.1];simp at c;exact c.2
  refine⟨?_,by rw[i,if_neg ol],h⟩;have:=Par.step (s:=s) (k:=k) (f:=⟨261,e,d,l⟩) (ok:=true) (b:=(T.dg s 9 58 S (T.sk s k)).2) (sg2:=[]) (by rw[a]) (by rw[a];exact Par.nil _ _)
  rw[a]at this;rw[g.1]at this;exact this
 ·right
  have a:zq s k ⟨261,e,d,l⟩=⟨F,(T.dg s 9 58 S (T.sk s k)).2,[],[]⟩:=by
   unfold zq;simp only;rw[if_neg oq,if_neg oq,if_neg oq,if_neg oq,if_neg oq,if_pos trivial,if_neg c]
  have:=zQ.stop (s:=s) (k:=k) (f:=⟨261,e,d,l⟩) (by rw[a])
  rw[a]at this;simp only[g.1]at this;refine⟨this,?_⟩;by_cases n:zs s k F=T.sk s k
  ·left;rw[i,if_pos n]
  ·right
   cases hg:T.dig (T.ch s (zs s k F))with
   |true=>rfl
   |false=>exact absurd (by rw[g.2.2 hg,g.1];simp;omega) c
theorem zfU{s:ByteArray}{k:Nat}(j:k<=s.size)(e d l:Int):
 (Par s k [⟨262,e,d,l⟩] S (btK s k F) [⟨e,T.sk s k,d,l,s.extract (T.sk s k) (btK s k F)⟩]/\btX s k F=F/\T.sk s k<btK s k F) \/
 (zQ s k [⟨262,e,d,l⟩] (btK s k F)/\QY s (btK s k F) (btX s k F)):=by
 have g:=zgS j;have m:T.sk s k<=btK s k F:=by have:=(qG s F 32 (zb s k F) (zO j)).1;rw[zm]at this;unfold btK;rw[zm];exact this
 have i:btX s k F=if btK s k F=T.sk s k then S else F:=by unfold btX;rw[zm]
 by_cases c:((T.dg s 32 50 F (T.sk s k)).1 && decide (T.sk s k<(T.dg s 32 50 F (T.sk s k)).2))=S
 ·left
  have a:zq s k ⟨262,e,d,l⟩=⟨S,(T.dg s 32 50 F (T.sk s k)).2,[],[⟨e,T.sk s k,d,l,s.extract (T.sk s k) (T.dg s 32 50 F (T.sk s k)).2⟩]⟩:=by
   unfold zq;simp only;rw[if_neg oq,if_neg oq,if_neg oq,if_neg oq,if_neg oq,if_neg oq,if_pos trivial,if_pos c]
  have h:T.sk s k<btK s k F:=by rw[<-g.1];simp at c;exact c.2
  refine⟨?_,by rw[i,if_neg ol],h⟩;have:=Par.step (s:=s) (k:=k) (f:=⟨262,e,d,l⟩) (ok:=true) (b:=(T.dg s 32 50 F (T.sk s k)).2) (sg2:=[]) (by rw[a]) (by rw[a];exact Par.nil _ _)
  rw[a]at this;rw[g.1]at this;exact this
 ·right
  have a:zq s k ⟨262,e,d,l⟩=⟨F,(T.dg s 32 50 F (T.sk s k)).2,[],[]⟩:=by
   unfold zq;simp only;rw[if_neg oq,if_neg oq,if_neg oq,if_neg oq,if_neg oq,if_neg oq,if_pos trivial,if_neg c]
  have:=zQ.stop (s:=s) (k:=k) (f:=⟨262,e,d,l⟩) (by rw[a])
  rw[a]at this;simp only[g.1]at this;refine⟨this,?_⟩;by_cases n:btK s k F=T.sk s k
  ·left;rw[i,if_pos n]
  ·right
   cases hg:T.dig (T.ch s (btK s k F))with
   |true=>rfl
   |false=>exact absurd (by rw[g.2.2 hg,g.1];simp;omega) c
theorem zfu(s:ByteArray)(k:Nat)(g d l:Int):
 (Par s k [⟨263,g,d,l⟩] S (zR s k F) [⟨g,T.sk s k,d,l,s.extract (T.sk s k) (T.sk s k+1)⟩]/\zZ s k F=F/\zR s k F=T.sk s k+1/\J4 (s.extract (T.sk s k) (T.sk s k+1)) (zg s (zb s k F) F)) \/
 (zQ s k [⟨263,g,d,l⟩] (zR s k F)/\zZ s k F=S):=by
 cases hb:YW s k F with
 | true =>
  left
  have c:=(q9 hb).2;rw[zm]at c;have h:zg s (zb s k F) F=T.ch s (T.sk s k):=by rw[zm,Zi,if_pos c]
  have i:97<=T.ch s (T.sk s k)/\T.ch s (T.sk s k)<=122:=by unfold YW at hb;rw[h]at hb;simpa using hb
  have a:zq s k ⟨263,g,d,l⟩=⟨S,T.sk s k+1,[],[⟨g,T.sk s k,d,l,s.extract (T.sk s k) (T.sk s k+1)⟩]⟩:=by
   unfold zq;simp only;rw[if_neg oq,if_neg oq,if_neg oq,if_neg oq,if_neg oq,if_neg oq,if_neg oq,if_pos trivial,if_pos i]
  have e:zR s k F=T.sk s k+1:=by unfold zR;rw[if_pos hb,zm]
  have:=Par.step (s:=s) (k:=k) (f:=⟨263,g,d,l⟩) (ok:=true) (b:=T.sk s k+1) (sg2:=[]) (by rw[a]) (by rw[a];exact Par.nil _ _)
  rw[a]at this;refine⟨by rw[e];exact this,by unfold zZ;rw[if_pos hb],e,?_,?_⟩
  ·rw[T.size_extract s _ _ ol];omega
  ·rw[T.ch_extract s _ _ 0 ol ol,h];rfl
 | false =>
  right
  have i:¬(97<=T.ch s (T.sk s k)/\T.ch s (T.sk s k)<=122):=by
   intro i;have c:=T.ch_nn (s:=s) (k:=T.sk s k) ol;unfold YW at hb;rw[zm,Zi,if_pos c]at hb;simp at hb;omega
  have a:zq s k ⟨263,g,d,l⟩=⟨F,T.sk s k,[],[]⟩:=by
   unfold zq;simp only;rw[if_neg oq,if_neg oq,if_neg oq,if_neg oq,if_neg oq,if_neg oq,if_neg oq,if_pos trivial,if_neg i]
  have:=zQ.stop (s:=s) (k:=k) (f:=⟨263,g,d,l⟩) (by rw[a])
  rw[a]at this;have e:zR s k F=T.sk s k:=by unfold zR;rw[if_neg (by rw[hb];decide),zm]
  exact⟨by rw[e];exact this,by unfold zZ;rw[if_neg (by rw[hb];decide)]⟩
theorem JX(g:SG)(a b:List SG):ZT g (a++b)=ZT g a+ZT g b:=by
 induction a with
 |nil=>simp[ZT]
 |cons x r ih=>simp only[List.cons_append,ZT,ih];omega
theorem JW(g:SG)(a b:List SG):Z4 g (a++b)=(Z4 g a || Z4 g b):=by
 induction a with
 |nil=>simp[Z4]
 | cons x r ih =>
  simp only[List.cons_append,Z4,ih];cases Z4 g r<;>cases Z4 g b<;>simp
theorem zex(g:SG)(a:List SG):ZT g a.reverse=ZT g a:=by
 induction a with
 |nil=>rfl
 |cons x r ih=>rw[List.reverse_cons,JX,ih];simp[ZT]
theorem zew(g:SG)(a:List SG):Z4 g a.reverse=Z4 g a:=by
 induction a with
 |nil=>rfl
 | cons x r ih =>
  rw[List.reverse_cons,JW,ih];simp[Z4]
theorem JV{g:SG}{l:List SG}(h:∀x∈l,x.list≠g.list):ZT g l=0/\Z4 g l=F:=by
 induction l with
 |nil=>exact⟨rfl,rfl⟩
 | cons x r ih =>
  have b:=ih (λy hy=>h y (by simp[hy]));have a:¬(x.list=g.list/\x.kind=g.kind):=λe=>h x ot e.1
  simp only[ZT,Z4];rw[b.1,b.2,if_neg a,decide_eq_false a];simp
def Er(rs:List RL)(U:List SG)(g:SG)(err:Int):Prop :=
 (err=3/\g.kind=3/\12<=g.depth)\/(err=4/\g.list≠-1/\16<=ZT g U)\/(err=5/\g.kind=2/\yr (T.ch g.text 0) rs=-1)\/(err=6/\zS g.kind (T.val g.text g.text.size)=S)\/(err=7/\g.list≠-1/\Z4 g U=S)
def FU(rs:List RL):List SG->List SG->Int->Int->Prop
 |_,[],_,_=>False
 |P,g::U,err,a=>(a=g.place/\Er rs P g err)\/FU rs (P++[g]) U err a
theorem zeO(rs:List RL)(A B:List SG)(b a:Int):∀P,FU rs P (A++B) b a↔FU rs P A b a\/FU rs (P++A) B b a:=by
 induction A with
 |nil=>intro P;simp[FU]
 | cons g r ih =>
  intro P;simp only[List.cons_append,FU];rw[ih (P++[g]),List.append_assoc,List.singleton_append,or_assoc]
def FEx(e:EX)(err a:Int):Prop :=
 (12<=e.depth/\err=3/\a=e.at_)\/(e.kind=116/\(e.nv<1\/86400<e.nv)/\err=6/\a=e.na)\/(e.kind=64/\(e.nv<0\/15<e.nv)/\err=6/\a=e.na)\/(e.kind=61/\e.inner=-1/\err=5/\a=e.na)
def FIm(c:Int)(pre:List IM)(x:IM)(err a:Int):Prop :=
 (16<=pre.length/\err=4/\a=x.at_)\/(pre.any (λy=>yG y x)=S/\err=7/\a=x.at_)\/((c=123\/c=102\/c=119)/\(x.num<0\/63<x.num)/\err=6/\a=x.at_)\/(c=119/\(x.wv<1\/1000<x.wv)/\err=6/\a=x.wa)\/(c=103/\(x.num<0\/99<x.num)/\err=6/\a=x.at_)
def FIs(c:Int):List IM->List IM->Int->Int->Prop
 |_,[],_,_=>False
 |pre,x::l,err,a=>FIm c pre x err a\/FIs c (pre++[x]) l err a
def FE(es:List EX)(err a:Int):Prop:=∃e∈es,FEx e err a\/FIs e.kind [] e.items err a
theorem XB(d c:List EX)(b a:Int):FE (d++c) b a↔FE d b a\/FE c b a:=by
 unfold FE;constructor
 ·rintro⟨e,he,h⟩;rcases List.mem_append.1 he with he|he
  ·exact .inl ⟨e,he,h⟩
  ·exact .inr ⟨e,he,h⟩
 ·rintro(⟨e,he,h⟩|⟨e,he,h⟩)
  ·exact⟨e,List.mem_append_left _ he,h⟩
  ·exact⟨e,List.mem_append_right _ he,h⟩
theorem zeQ(b a:Int):¬FE [] b a:=λ⟨_,h,_⟩=>by simp at h
theorem qI(e:EX)(b a:Int):FE [e] b a↔FEx e b a\/FIs e.kind [] e.items b a:=by
 unfold FE;simp
def mk(c:Int):Int:=if c=103 then 7 else if c=109 then 9 else 4
structure GX (c p:Int) (g:SG) (x:IM):Prop where
 li:g.list=p
 ki:g.kind=mk c
 pl:g.place=x.at_
 tx:(c=109/\x.num=0/\zeT g.text x.pv x.pl)\/(c≠109/\qY g.text x.num/\x.pv=0/\x.pl=0)
theorem GX.same{c p:Int}{g h:SG}{x y:IM}(a:GX c p g x)(b:GX c p h y):(g.text.toList==h.text.toList)=yG x y:=by
 rw[Bool.eq_iff_iff];unfold yG;rcases a.tx with⟨a0,a1,a2⟩|⟨a0,a1,a2,a3⟩
 ·rcases b.tx with⟨b0,b1,b2⟩|⟨b0,_⟩
  ·rw[zev a2 b2];simp[a1,b1]
  ·exact absurd a0 b0
 ·rcases b.tx with⟨b0,_⟩|⟨b0,b1,b2,b3⟩
  ·exact absurd b0 a0
  ·rw[zdH a1 b1];simp[a2,a3,b2,b3]
def Cor(c p:Int)(P:List SG)(pre:List IM):Prop:=∀g x,GX c p g x->ZT g P=pre.length/\Z4 g P=pre.any (λy=>yG y x)
theorem Cor.nil{c p:Int}{P:List SG}(h:∀x∈P,x.list≠p):Cor c p P []:=λg x hg=>by
 have:=JV (g:=g) (l:=P) (λy hy=>by rw[hg.li];exact h y hy)
 simp[this.1,this.2]
theorem Cor.step{c p:Int}{P rest:List SG}{a:List IM}{b:SG}{e:IM}(h:Cor c p P a)(d:GX c p b e)(k:∀x∈rest,x.list≠p):Cor c p (P++b::rest) (a++[e]):=λg x hx=>by
 have i:=h g x hx;have f:=JV (g:=g) (l:=rest) (λy hy=>by rw[hx.li];exact k y hy);have j:b.list=g.list/\b.kind=g.kind:=⟨by rw[d.li,hx.li],by rw[d.ki,hx.ki]⟩;constructor
 ·rw[JX,i.1];simp only[ZT,f.1,if_pos j];simp
 ·rw[JW,i.2];simp only[Z4,f.2,decide_eq_true j,d.same hx];simp
def KD(g:SG):Prop:=g.kind≠1/\(g.kind=2->g.text.size=1)
theorem KD.of{g:SG}(b:g.kind≠1)(a:g.kind≠2):KD g:=⟨b,λh=>absurd h a⟩
structure GU (rs:List RL) (k k':Nat) (U:List SG) (es:List EX):Prop where
 wl:∀g∈U,(k:Int)<=g.place/\g.place<k'/\(g.list=-1\/((k:Int)<=g.list/\g.list<k'))/\KD g
 st:U.Pairwise (λa b=>a.place<b.place)
 fu:∀P,(∀x∈P,x.list<(k:Int))->∀err a,FU rs P U err a↔FE es err a
structure GI (rs:List RL) (c p:Int) (k k':Nat) (U:List SG) (es:List EX) (ims:List IM):Prop where
 wl:∀g∈U,(k:Int)<=g.place/\g.place<k'/\(g.list=-1\/g.list=p\/((k:Int)<=g.list/\g.list<k'))/\KD g
 st:U.Pairwise (λa b=>a.place<b.place)
 fu:∀P pre,(∀x∈P,x.list<(k:Int))->Cor c p P pre->∀err a,FU rs P U err a↔FE es err a\/FIs c pre ims err a
structure G1 (rs:List RL) (c p:Int) (k k':Nat) (g0:SG) (rest:List SG) (es:List EX) (x:IM):Prop where
 gx:GX c p g0 x
 w0:(k:Int)<=g0.place/\g0.place<k'
 wl:∀g∈rest,g0.place<g.place/\g.place<k'/\(g.list=-1\/((k:Int)<=g.list/\g.list<k'))/\KD g
 st:rest.Pairwise (λa b=>a.place<b.place)
 fu:∀P pre,(∀x∈P,x.list<(k:Int))->Cor c p P pre->∀err a,FU rs P (g0::rest) err a↔FE es err a\/FIm c pre x err a
theorem zdK(c:Int):mk c≠1/\mk c≠2/\mk c≠3:=by unfold mk;split<;>(try split)<;>decide
theorem qY.nn{t:ByteArray}{v:Int}(h:qY t v):0<=v:=by rw[<-h.vl];exact(T.val_bd h.dg _ (Nat.le_refl _)).1
theorem j9{rs:List RL}{c p:Int}{P:List SG}{b:List IM}{g:SG}{x:IM}(l:p≠-1)(e:GX c p g x)(m:Cor c p P b)(a:Int):
 Er rs P g a↔(a=4/\16<=b.length)\/(a=6/\zS (mk c) x.num=S)\/(a=7/\b.any (λy=>yG y x)=S):=by
 have j:=m g x e;have i:=zdK c;have f:g.list≠-1:=by rw[e.li];exact l
 have k:zS g.kind (T.val g.text g.text.size)=zS (mk c) x.num:=by
  rw[e.ki];rcases e.tx with⟨a0,_⟩|⟨_,a1,_⟩
  ·subst a0;rfl
  ·rw[a1.vl]
 unfold Er;rw[j.1,j.2,k,e.ki];constructor
 ·rintro(⟨_,h,_⟩|⟨h,_,d⟩|⟨_,h,_⟩|h|⟨h,_,d⟩)
  ·exact absurd h i.2.2
  ·exact .inl ⟨h,d⟩
  ·exact absurd h i.2.1
  ·exact .inr (.inl h)
  ·exact .inr (.inr ⟨h,d⟩)
 ·rintro(⟨h,d⟩|h|⟨h,d⟩)
  ·exact .inr (.inl ⟨h,f,d⟩)
  ·exact .inr (.inr (.inr (.inl h)))
  ·exact .inr (.inr (.inr (.inr ⟨h,f,d⟩)))
theorem xH{rs:List RL}{P:List SG}{g:SG}(b:g.list=-1)(a:Int):
 Er rs P g a↔(a=3/\g.kind=3/\12<=g.depth)\/(a=5/\g.kind=2/\yr (T.ch g.text 0) rs=-1)\/(a=6/\zS g.kind (T.val g.text g.text.size)=S):=by
 unfold Er;constructor
 ·rintro(h|⟨_,h,_⟩|h|h|⟨_,h,_⟩)
  ·exact .inl h
  ·exact absurd b h
  ·exact .inr (.inl h)
  ·exact .inr (.inr h)
  ·exact absurd b h
 ·rintro(h|h|h)
  ·exact .inl h
  ·exact .inr (.inr (.inl h))
  ·exact .inr (.inr (.inr (.inl h)))
theorem xi(s:ByteArray)(k:Nat):T.sk s (T.sk s k)=T.sk s k:=T.sk_here (T.sk_bl s k)
def ExP(s:ByteArray)(rs:List RL)(ex:Int->Nat->Nat->Bool->CR)(n:Nat):Prop:=∀d m k,0<=d->k<=s.size->s.size-k<n ->
 (∃U,Par s k [⟨258,0,d,0⟩] S (ex d m k F).k U.reverse/\(ex d m k F).b=F/\0<=(ex d m k F).idx/\GU rs k (ex d m k F).k U (ex d m k F).es) \/
 (zQ s k [⟨258,0,d,0⟩] (ex d m k F).k/\QY s (ex d m k F).k (ex d m k F).b)
def ExD(s:ByteArray)(ex:Int->Nat->Nat->Bool->CR):Prop:=∀d m k b,QY s k b->ex d m k b=⟨-1,[],k,S⟩
def kf(c:Int):Int:=if c=119 then 10 else if c=109 then 9 else if c=103 then 7 else 4
theorem YJ(s:ByteArray)(k:Nat)(a d p:Int):zq s k ⟨259,a,d,p⟩=⟨S,T.sk s k,ZJ ⟨259,a,d,p⟩,[]⟩:=by
 unfold zq;simp only;rw[if_neg oq,if_neg oq,if_neg oq,if_pos trivial]
theorem zdT{s:ByteArray}{k b:Nat}{c d p:Int}{a:List SG}(h:Par s (T.sk s k) (ZJ ⟨259,c,d,p⟩) S b a):Par s k [⟨259,c,d,p⟩] S b a:=by
 have:=Par.step (s:=s) (k:=k) (f:=⟨259,c,d,p⟩) (ok:=true) (b:=b) (sg2:=a) (by rw[YJ]) (by rw[YJ];exact h)
 rw[YJ]at this;simpa using this
theorem zfx{s:ByteArray}{k b:Nat}{a d p:Int}(h:zQ s (T.sk s k) (ZJ ⟨259,a,d,p⟩) b):zQ s k [⟨259,a,d,p⟩] b :=
 zQ.step (s:=s) (k:=k) (f:=⟨259,a,d,p⟩) (by rw[YJ]) (by rw[YJ];exact h)
theorem j8{c:Int}(f:yt c)(d:List IM)(x:IM)(g:0<=x.num)(b a:Int):
 FIm c d x b a↔(a=x.at_/\((b=4/\16<=d.length)\/(b=6/\zS (mk c) x.num=S)\/(b=7/\d.any (λy=>yG y x)=S)))\/(c=119/\(x.wv<1\/1000<x.wv)/\b=6/\a=x.wa):=by
 unfold FIm;generalize(d.any (λy=>yG y x))=Q;rcases f with rfl|rfl|rfl|rfl|rfl
 ·have e:(zS (mk 123) x.num=S)↔(x.num<0\/63<x.num):=by simp[mk,zS];omega
  rw[e];cases Q<;>simp<;>(constructor<;>intro h<;>omega)
 ·have e:(zS (mk 102) x.num=S)↔(x.num<0\/63<x.num):=by simp[mk,zS];omega
  rw[e];cases Q<;>simp<;>(constructor<;>intro h<;>omega)
 ·have e:(zS (mk 119) x.num=S)↔(x.num<0\/63<x.num):=by simp[mk,zS];omega
  rw[e];cases Q<;>simp<;>(constructor<;>intro h<;>omega)
 ·have e:(zS (mk 103) x.num=S)↔(x.num<0\/99<x.num):=by simp[mk,zS];omega
  rw[e];cases Q<;>simp<;>(constructor<;>intro h<;>omega)
 ·have e:(zS (mk 109) x.num=S)↔False:=by simp[mk,zS]
  rw[e];cases Q<;>simp<;>(constructor<;>intro h<;>omega)
theorem Par.app{s:ByteArray}{k a b:Nat}{p o:List FR}{ok:Bool}{c sg2:List SG}(e:Par s k p S a c)(d:Par s a o ok b sg2):Par s k (p++o) ok b (sg2++c):=by
 obtain⟨i,j,e⟩:=e;obtain⟨g,y,d⟩:=d;have B:=xQ (λk f q h=>xS s (M:=i+g) ol h) _ _ _ e;have A:=xQ (λk f q h=>xS s (M:=i+g) ol h) _ _ _ d;clear e d;have t:∀(l:List FR) (k j:Nat) (c:List SG),pL (pF s (i+g)) k l=E ⟨S,a,c,j⟩->∃n,pL (pF s (i+g)) k (l++o)=E ⟨ok,b,sg2++c,n⟩:=by
  intro l;induction l with
  | nil =>
   intro k j c h;simp only[pL]at h;simp at h;obtain⟨rfl,rfl,_⟩:=h;exact⟨y,by simpa using A⟩
  | cons f r ih =>
   intro k j c h;simp only[pL,List.cons_append]at h⊢;cases ha:pF s (i+g) k f with
   |none=>rw[ha]at h;simp at h
   | some q =>
    rw[ha]at h;simp only at h⊢;split at h
    ·next hok =>
     rw[if_pos hok];cases hb:pL (pF s (i+g)) q.at_ r with
     |none=>rw[hb]at h;simp at h
     | some q2 =>
      rw[hb]at h;simp at h;obtain⟨e,d,v,z⟩:=h;obtain⟨w,C,m,x⟩:=q2;simp only at e d v z;subst e d;obtain⟨n,u⟩:=ih q.at_ x m hb;rw[u];exact⟨q.n+n,by simp[<-v]⟩
    ·next hok=>simp at h;subst h;exact absurd rfl hok
 obtain⟨n,u⟩:=t p k j c B;exact⟨i+g,n,u⟩
theorem zQ.app{s:ByteArray}{k a:Nat}{j:List FR}(d:zQ s k j a)(p:List FR):zQ s k (j++p) a:=by
 obtain⟨u,g,e,d⟩:=d;have m:∀(l:List FR) (k e:Nat) (c:List SG),pL (pF s g) k l=E ⟨F,a,c,e⟩->∃n b,pL (pF s g) k (l++p)=E ⟨F,a,b,n⟩:=by
  intro l;induction l with
  |nil=>intro k e c h;simp[pL]at h
  | cons f r ih =>
   intro k e c h;simp only[pL,List.cons_append]at h⊢;cases ha:pF s g k f with
   |none=>rw[ha]at h;simp at h
   | some q =>
    rw[ha]at h;simp only at h⊢;split at h
    ·next hok =>
     rw[if_pos hok];cases hb:pL (pF s g) q.at_ r with
     |none=>rw[hb]at h;simp at h
     | some q2 =>
      rw[hb]at h;simp at h;obtain⟨d,t,y,x⟩:=h;obtain⟨v,z,i,w⟩:=q2;simp only at d t;subst d t;obtain⟨n,b,o⟩:=ih q.at_ w i hb;rw[o];exact⟨_,_,rfl⟩
    ·next hok=>rw[if_neg hok];exact⟨_,_,h⟩
 obtain⟨n,b,o⟩:=m j k e u d;exact⟨b,g,n,o⟩
theorem zQ.app2{s:ByteArray}{k a b:Nat}{e d:List FR}{c:List SG}(g:Par s k e S a c)(f:zQ s a d b):zQ s k (e++d) b:=by
 obtain⟨i,h⟩:=f;exact⟨_,g.app h⟩
def Run(s:ByteArray)(k0:Nat)(l:List FR)(k:Nat)(b:Bool)(G:List SG->Prop):Prop:=(∃U,Par s k0 l S k U.reverse/\b=F/\G U)\/(zQ s k0 l k/\QY s k b)
def Xy(s:ByteArray)(k0:Nat)(l:List FR)(k:Nat)(b:Bool)(G:List SG->Prop):Prop:=(∃U,Par s k0 l S k U.reverse/\b=F/\G U)\/(zQ s k0 l k/\b=S)
theorem Xy.run{s:ByteArray}{a k:Nat}{l:List FR}{b:Bool}{G:List SG->Prop}(h:Xy s a l k b G):Run s a l k b G:=h.imp (λh=>h) (λh=>⟨h.1,.inl h.2⟩)
theorem Xy.nil(s:ByteArray)(k:Nat):Xy s k [] k F (λU=>U=[]):=.inl ⟨[],Par.nil _ _,rfl,rfl⟩
theorem Run.mono{s:ByteArray}{a k:Nat}{l:List FR}{b:Bool}{G c:List SG->Prop}(h:Run s a l k b G)(d:b=F->∀U,G U->c U):Run s a l k b c:=by
 rcases h with⟨U,h1,h2,h3⟩|h
 ·exact .inl ⟨U,h1,h2,d h2 U h3⟩
 ·exact .inr h
theorem Run.want{s:ByteArray}{e k:Nat}{l:List FR}{b:Bool}{G:List SG->Prop}(h:Run s e l k b G)(c:Int)(f:0<c)(a:c<256)(d:c<48\/57<c):Xy s e (l++[byF c]) (zc s c k b) (zk s c k b) (λU=>G U/\b=F):=by
 rcases h with⟨U,h1,rfl,h3⟩|⟨h1,h2⟩
 ·cases ht:z6 s c k F with
  | true =>
   have:=XF f a ht
   exact .inl ⟨U,by have:=h1.app this.1;simpa using this,this.2,h3,rfl⟩
  | false =>
   have:=zeW f a ht
   exact .inr ⟨zQ.app2 h1 this.1,this.2⟩
 ·have:=yo h2 (c:=c) ol d
  exact .inr ⟨by rw[this.2.1];exact h1.app _,this.2.2⟩
theorem Xy.num{s:ByteArray}{e k:Nat}{l:List FR}{b:Bool}{G:List SG->Prop}(h:Xy s e l k b G)(f:k<=s.size)(c d a:Int):
 Run s e (l++[⟨261,c,d,a⟩]) (zs s k b) (zw s k b) (λU=>∃V,U=V++[⟨c,T.sk s k,d,a,s.extract (T.sk s k) (zs s k b)⟩]/\G V/\b=F/\T.sk s k<zs s k b/\qY (s.extract (T.sk s k) (zs s k b)) (zM s k b)):=by
 rcases h with⟨U,h1,rfl,h3⟩|⟨h1,rfl⟩
 ·rcases zfo f c d a with⟨a1,a2,a3⟩|⟨a1,a2⟩
  ·exact .inl ⟨U++[⟨c,T.sk s k,d,a,s.extract (T.sk s k) (zs s k F)⟩],by have:=h1.app a1;rw[List.reverse_append];exact this,a2,U,rfl,h3,rfl,a3,zdG f a3⟩
  ·exact .inr ⟨zQ.app2 h1 a1,a2⟩
 ·have:=zbo s k
  exact .inr ⟨by rw[this.1];exact h1.app _,.inl this.2⟩
theorem JY(s:ByteArray)(k:Nat):btK s k S=k/\btX s k S=S:=by
 refine⟨?_,j5 rfl⟩;unfold btK;have:zb s k S=k:=rfl
 rw[this];simp[btF,YL,bit]
theorem Xy.bits{s:ByteArray}{e k:Nat}{l:List FR}{b:Bool}{G:List SG->Prop}(h:Xy s e l k b G)(f:k<=s.size)(c d a:Int):
 Run s e (l++[⟨262,c,d,a⟩]) (btK s k b) (btX s k b) (λU=>∃V,U=V++[⟨c,T.sk s k,d,a,s.extract (T.sk s k) (btK s k b)⟩]/\G V/\b=F/\T.sk s k<btK s k b/\zeT (s.extract (T.sk s k) (btK s k b)) (btV s k b) (btL s k b)):=by
 rcases h with⟨U,h1,rfl,h3⟩|⟨h1,rfl⟩
 ·rcases zfU f c d a with⟨a1,a2,a3⟩|⟨a1,a2⟩
  ·exact .inl ⟨U++[⟨c,T.sk s k,d,a,s.extract (T.sk s k) (btK s k F)⟩],by have:=h1.app a1;rw[List.reverse_append];exact this,a2,U,rfl,h3,rfl,a3,zeu f a3⟩
  ·exact .inr ⟨zQ.app2 h1 a1,a2⟩
 ·have:=JY s k
  exact .inr ⟨by rw[this.1];exact h1.app _,.inl this.2⟩
theorem Run.letter{s:ByteArray}{e k:Nat}{l:List FR}{b:Bool}{G:List SG->Prop}(h:Run s e l k b G)(c d a:Int):
 Xy s e (l++[⟨263,c,d,a⟩]) (zR s k b) (zZ s k b) (λU=>∃V,U=V++[⟨c,T.sk s k,d,a,s.extract (T.sk s k) (T.sk s k+1)⟩]/\G V/\b=F/\zR s k b=T.sk s k+1/\J4 (s.extract (T.sk s k) (T.sk s k+1)) (zg s (zb s k b) b)):=by
 rcases h with⟨U,h1,rfl,h3⟩|⟨h1,h2⟩
 ·rcases zfu s k c d a with⟨a1,a2,a3,a4⟩|⟨a1,a2⟩
  ·exact .inl ⟨U++[⟨c,T.sk s k,d,a,s.extract (T.sk s k) (T.sk s k+1)⟩],by have:=h1.app a1;rw[List.reverse_append];exact this,a2,U,rfl,h3,rfl,a3,a4⟩
  ·exact .inr ⟨zQ.app2 h1 a1,a2⟩
 ·have:=JQ h2
  exact .inr ⟨by rw[this.1];exact h1.app _,this.2⟩
theorem Run.expr{s:ByteArray}{rs:List RL}{ex:Int->Nat->Nat->Bool->CR}{n a k:Nat}{l:List FR}{b:Bool}{G:List SG->Prop}(h:Run s a l k b G)(i:ExP s rs ex n)(j:ExD s ex)(f:k<=s.size)(d:Int)(g:0<=d)(m:Nat)(c:s.size-k<n):
 Run s a (l++[⟨258,0,d,0⟩]) (ex d m k b).k (ex d m k b).b (λU=>∃V W,U=V++W/\G V/\b=F/\0<=(ex d m k b).idx/\GU rs k (ex d m k b).k W (ex d m k b).es):=by
 rcases h with⟨U,h1,rfl,h3⟩|⟨h1,h2⟩
 ·rcases i d m k g f c with⟨W,a1,a2,a3,a4⟩|⟨a1,a2⟩
  ·exact .inl ⟨U++W,by have:=h1.app a1;rw[List.reverse_append];exact this,a2,U,W,rfl,h3,rfl,a3,a4⟩
  ·exact .inr ⟨zQ.app2 h1 a1,a2⟩
 ·have e:=j d m k b h2;rw[e];exact .inr ⟨h1.app _,.inl rfl⟩
end Go.Proofs.YtaebngpoagjafabGreat
