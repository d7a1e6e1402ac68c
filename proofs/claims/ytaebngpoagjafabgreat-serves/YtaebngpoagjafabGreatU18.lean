import Derived.Test.YtaebngpoagjafabGreatU16
import Derived.Test.YtaebngpoagjafabGreatU17
set_option maxRecDepth 100000
namespace Go.Proofs.YtaebngpoagjafabGreat
open Go.RowKit
theorem yZ (s:ByteArray) (j:Nat):ze s j false=if j<s.size then T.ch s j else 0:=by unfold ze;rw [if_neg (by decide)]
theorem zdf (s:ByteArray) (j:Nat):T.dig (ze s j false)=T.dig (T.ch s j):=by
 rw [yZ]
 split
 ·rfl
 ·next h=>rw [T.ch_ge h];rfl
theorem zav (s:ByteArray) (j:Nat):bit (ze s j false)=bit (T.ch s j):=by
 rw [yZ]
 split
 ·rfl
 ·next h=>rw [T.ch_ge h];rfl
theorem YM (c:Int):T.dig c=true↔48<=c/\c<=57:=by unfold T.dig;simp
theorem JI (s:ByteArray) (b:Bool):∀ n j,nmF s b n j<=j+n:=by
 intro n
 induction n with
 | zero=>intro j;exact Nat.le_refl _
 | succ n ih =>
  intro j;simp only [nmF];split
  ·have:=ih (j+1);omega
  ·omega
theorem zeC (s:ByteArray) (p L:Nat) (hL:L=if T.ch s p=48 then 1 else 9):∀ n j,p<=j->j-p<=L->j<=s.size->s.size-j+1<=n ->
 (T.dgF s 9 58 true p n j).2=nmF s false (L-(j-p)) j/\((T.dgF s 9 58 true p n j).1=true↔T.dig (T.ch s (T.dgF s 9 58 true p n j).2)=false):=by
 intro n
 induction n with
 | zero=>intro j k i h g;omega
 | succ n ih =>
  intro j k i h g
  cases hd:T.dig (T.ch s j) with
  | false =>
   rw [T.dgF_end hd]
   refine ⟨?_,by simp [hd]⟩
   cases d:L-(j-p) with
   | zero=>rfl
   | succ m=>simp only [nmF];rw [zdf,hd];rfl
  | true =>
   have r:=(YM _).1 hd
   by_cases q:j-p=L
   ·have a:T.stp 9 58 true (T.ch s j) ((j:Int)-p) (T.ch s p)=true:=by
     unfold T.stp
     by_cases b:T.ch s p=48
     ·rw [if_pos b] at hL
      have:(j:Int)-p=1:=by omega
      simp [this,b]
     ·rw [if_neg b] at hL
      have:(j:Int)-p=9:=by omega
      simp [this]
    rw [T.dgF_stop hd a]
    refine ⟨?_,by simp [hd]⟩
    rw [show L-(j-p)=0 from by omega];rfl
   ·have a:T.stp 9 58 true (T.ch s j) ((j:Int)-p) (T.ch s p)=false:=by
     unfold T.stp
     have e:decide ((58:Int)<=T.ch s j)=false:=decide_eq_false (by omega)
     by_cases b:T.ch s p=48
     ·rw [if_pos b] at hL
      have:(j:Int)-p=0:=by omega
      simp [this,e]
     ·rw [if_neg b] at hL
      have o:((j:Int)-p==9)=false:=beq_eq_false_iff_ne.2 (by omega)
      have l:(T.ch s p==48)=false:=beq_eq_false_iff_ne.2 b
      rw [e,o,l]
      simp
    rw [T.dgF_next hd a]
    have f:j<s.size:=T.dig_lt hd
    have:=ih (j+1) (by omega) (by omega) (by omega) (by omega)
    refine ⟨?_,this.2⟩
    rw [this.1]
    obtain ⟨m,d⟩:∃ m,L-(j-p)=m+1:=⟨L-(j-p)-1,by omega⟩
    rw [d,show L-(j+1-p)=m from by omega]
    simp only [nmF];rw [zdf,hd];rfl
theorem zeD (s:ByteArray) (p:Nat):∀ n j,p<=j->j-p<=32->j<=s.size->s.size-j+1<=n ->
 (T.dgF s 32 50 false p n j).2=btF s false (32-(j-p)) j/\((T.dgF s 32 50 false p n j).1=true↔T.dig (T.ch s (T.dgF s 32 50 false p n j).2)=false):=by
 intro n
 induction n with
 | zero=>intro j k i h g;omega
 | succ n ih =>
  intro j k i h g
  cases hd:T.dig (T.ch s j) with
  | false =>
   rw [T.dgF_end hd]
   refine ⟨?_,by simp [hd]⟩
   have b:bit (T.ch s j)=false:=by
    cases b:bit (T.ch s j) with
    | false=>rfl
    | true=>simp [bit] at b;unfold T.dig at hd;simp at hd;omega
   cases e:32-(j-p) with
   | zero=>rfl
   | succ m=>simp only [btF];rw [zav,b];rfl
  | true =>
   have r:=(YM _).1 hd
   by_cases q:j-p=32
   ·have a:T.stp 32 50 false (T.ch s j) ((j:Int)-p) (T.ch s p)=true:=by
     unfold T.stp
     have:(j:Int)-p=32:=by omega
     simp [this]
    rw [T.dgF_stop hd a]
    refine ⟨?_,by simp [hd]⟩
    rw [show 32-(j-p)=0 from by omega];rfl
   ·obtain ⟨m,e⟩:∃ m,32-(j-p)=m+1:=⟨32-(j-p)-1,by omega⟩
    by_cases d:50<=T.ch s j
    ·have a:T.stp 32 50 false (T.ch s j) ((j:Int)-p) (T.ch s p)=true:=by
      unfold T.stp;simp [d]
     rw [T.dgF_stop hd a]
     refine ⟨?_,by simp [hd]⟩
     have b:bit (T.ch s j)=false:=by unfold bit;simp;omega
     rw [e]
     simp only [btF];rw [zav,b];rfl
    ·have a:T.stp 32 50 false (T.ch s j) ((j:Int)-p) (T.ch s p)=false:=by
      unfold T.stp
      have o:decide ((50:Int)<=T.ch s j)=false:=decide_eq_false d
      have l:((j:Int)-p==32)=false:=beq_eq_false_iff_ne.2 (by omega)
      rw [o,l];rfl
     rw [T.dgF_next hd a]
     have f:j<s.size:=T.dig_lt hd
     have:=ih (j+1) (by omega) (by omega) (by omega) (by omega)
     refine ⟨?_,this.2⟩
     have b:bit (T.ch s j)=true:=by unfold bit;simp;omega
     rw [this.1,e,show 32-(j+1-p)=m from by omega]
     simp only [btF];rw [zav,b];rfl
theorem zl (s:ByteArray) (k:Nat):zb s k false=T.sk s k:=by unfold zb;rw [if_neg (by decide)]
theorem zcJ {s:ByteArray} {k:Nat} (hk:k<=s.size):(T.dg s 9 58 true (T.sk s k)).2=zo s k false/\((T.dg s 9 58 true (T.sk s k)).1=true↔T.dig (T.ch s (zo s k false))=false):=by
 have b:=T.sk_le hk
 have h:=zeC s (T.sk s k) _ rfl (s.size-T.sk s k+1) (T.sk s k) (Nat.le_refl _) (by omega) b (Nat.le_refl _)
 have e:zo s k false=(T.dg s 9 58 true (T.sk s k)).2:=by
  unfold T.dg
  rw [h.1]
  unfold zo nmE nmL
  rw [zl,Nat.sub_self,Nat.sub_zero,yZ]
  by_cases a:T.sk s k<s.size
  ·rw [if_pos a]
  ·rw [if_neg a,T.ch_ge a];rfl
 refine ⟨e.symm,?_⟩
 rw [e]
 exact h.2
theorem zfM {s:ByteArray} {k:Nat} (hk:k<=s.size):(T.dg s 32 50 false (T.sk s k)).2=btK s k false/\((T.dg s 32 50 false (T.sk s k)).1=true↔T.dig (T.ch s (btK s k false))=false):=by
 have a:=T.sk_le hk
 have h:=zeD s (T.sk s k) (s.size-T.sk s k+1) (T.sk s k) (Nat.le_refl _) (by omega) a (Nat.le_refl _)
 have e:btK s k false=(T.dg s 32 50 false (T.sk s k)).2:=by
  unfold T.dg
  rw [h.1]
  unfold btK
  rw [zl,Nat.sub_self,Nat.sub_zero]
 refine ⟨e.symm,?_⟩
 rw [e]
 exact h.2
theorem ju (a:ByteArray):∀ (n i:Nat) (r:List UInt8),a.size-i=n->ByteArray.toList.loop a i r=r.reverse++a.data.toList.drop i:=by
 intro n
 induction n with
 | zero =>
  intro i r h
  rw [ByteArray.toList.loop,if_neg (by omega),List.drop_eq_nil_of_le (by simp;show a.size<=i;omega)]
  simp
 | succ n ih =>
  intro i r h
  have b:i<a.size:=by omega
  have d:i<a.data.toList.length:=by simp;exact b
  rw [ByteArray.toList.loop,if_pos b,ih (i+1) _ (by omega),List.drop_eq_getElem_cons d]
  simp [ByteArray.get!,b]
theorem qv (a:ByteArray):a.toList=a.data.toList:=by
 unfold ByteArray.toList
 rw [ju a (a.size-0) 0 [] rfl]
 simp
theorem xe (a b:ByteArray):(a.toList==b.toList)=true↔a.size=b.size/\∀ i,i<a.size->T.ch a i=T.ch b i:=by
 rw [beq_iff_eq,qv,qv]
 constructor
 ·intro h
  have f:a.size=b.size:=by
   have:=congrArg List.length h
   simpa using this
  refine ⟨f,fun i d=>?_⟩
  rw [T.ch_lt d,T.ch_lt (by omega)]
  have e:a.data.toList[i]?=b.data.toList[i]?:=by rw [h]
  have g:a.data.toList[i]?=some a[i]:=List.getElem?_eq_getElem (l:=a.data.toList) (by simpa using d)
  have o:b.data.toList[i]?=some (b[i]'(by omega)):=List.getElem?_eq_getElem (l:=b.data.toList) (by simpa using (show i<b.size by omega))
  rw [g,o] at e
  have n:a[i]=b[i]'(by omega):=Option.some.inj e
  rw [n]
 ·rintro ⟨f,h⟩
  apply List.ext_getElem
  ·simpa using f
  ·intro i e g
   have d:i<a.size:=by simpa using e
   have j:i<b.size:=by simpa using g
   have:=h i d
   rw [T.ch_lt d,T.ch_lt j] at this
   have m:a[i].toNat=b[i].toNat:=by omega
   have k:a[i]=b[i]:=UInt8.toNat_inj.1 m
   exact k
structure X8 (t:ByteArray) (v:Int):Prop where
 dg:T.digs t
 lo:1<=t.size
 hi:t.size<=9
 zr:t.size=1\/T.ch t 0≠48
 vl:T.val t t.size=v
structure zdP (t:ByteArray) (pv pl:Int):Prop where
 bt:∀ i,i<t.size->T.ch t i=48\/T.ch t i=49
 lo:1<=t.size
 hi:t.size<=32
 pl:pl=t.size
 pv:pv=bv t 0 t.size*2 ^ (32-t.size)
structure Jl (t:ByteArray) (v:Int):Prop where
 sz:t.size=1
 vl:T.ch t 0=v
theorem zaB (a b:ByteArray):∀ n,(∀ i,i<n->T.ch a i=T.ch b i)->T.val a n=T.val b n:=by
 intro n
 induction n with
 | zero=>intro _;rfl
 | succ n ih=>intro h;simp only [T.val];rw [ih (fun i hi=>h i (by omega)),h n (by omega)]
theorem zdU {a b:ByteArray} (ha:T.digs a) (hb:T.digs b):∀ n,n<=a.size->n<=b.size->T.val a n=T.val b n->∀ i,i<n->T.ch a i=T.ch b i:=by
 intro n
 induction n with
 | zero=>intro _ _ _ i f;omega
 | succ n ih =>
  intro j g h i f
  simp only [T.val] at h
  have l:=ha n (by omega)
  have k:=hb n (by omega)
  have e:T.val a n=T.val b n:=by omega
  by_cases d:i=n
  ·subst d;omega
  ·exact ih (by omega) (by omega) e i (by omega)
theorem zdT {a:ByteArray} (ha:T.digs a) (h0:T.ch a 0≠48):∀ n,n+1<=a.size->(10:Int) ^ n<=T.val a (n+1):=by
 intro n
 induction n with
 | zero=>intro h;have:=ha 0 (by omega);simp [T.val];omega
 | succ n ih =>
  intro h
  have d:=ih (by omega)
  have b:=ha (n+1) (by omega)
  show (10:Int) ^ (n+1)<=T.val a (n+1)*10+(T.ch a (n+1)-48)
  rw [Int.pow_succ]
  omega
theorem JD {m n:Nat} (h:m<=n):(10:Int) ^ m<=10 ^ n:=by
 induction n with
 | zero =>
  have:m=0:=by omega
  subst this;exact Int.le_refl _
 | succ n ih =>
  by_cases e:m=n+1
  ·subst e;exact Int.le_refl _
  ·have:=ih (by omega)
   have a:(0:Int)<10 ^ n:=Int.pow_pos (by decide)
   rw [Int.pow_succ]
   omega
theorem jO {a b:ByteArray} {v:Int} (ha:X8 a v) (hb:X8 b v):a.size<=b.size:=by
 rcases ha.zr with h | h
 ·have:=hb.lo;omega
 ·by_cases d:a.size<=b.size
  ·exact d
  ·exfalso
   have f:=zdT ha.dg h (a.size-1) (by have:=ha.lo;omega)
   rw [show a.size-1+1=a.size from by have:=ha.lo;omega,ha.vl] at f
   have e:=(T.val_bd hb.dg b.size (Nat.le_refl _)).2
   rw [hb.vl] at e
   have g:=JD (m:=b.size) (n:=a.size-1) (by omega)
   omega
theorem zcI {a b:ByteArray} {v u:Int} (ha:X8 a v) (hb:X8 b u):(a.toList==b.toList)=true↔v=u:=by
 rw [xe]
 constructor
 ·rintro ⟨d,h⟩
  rw [<- ha.vl,<- hb.vl,<- d]
  exact zaB a b _ h
 ·intro h
  subst h
  have d:a.size=b.size:=Nat.le_antisymm (jO ha hb) (jO hb ha)
  refine ⟨d,zdU ha.dg hb.dg a.size (Nat.le_refl _) (by omega) ?_⟩
  rw [ha.vl,d,hb.vl]
theorem zdl (a b:ByteArray):∀ n,(∀ i,i<n->T.ch a i=T.ch b i)->bv a 0 n=bv b 0 n:=by
 intro n
 induction n with
 | zero=>intro _;rfl
 | succ n ih=>intro h;simp only [bv];rw [ih (fun i hi=>h i (by omega)),Nat.zero_add,h n (by omega)]
theorem zfJ {a b:ByteArray} (ha:∀ i,i<a.size->T.ch a i=48\/T.ch a i=49) (hb:∀ i,i<b.size->T.ch b i=48\/T.ch b i=49):∀ n,n<=a.size->n<=b.size->bv a 0 n=bv b 0 n->∀ i,i<n->T.ch a i=T.ch b i:=by
 intro n
 induction n with
 | zero=>intro _ _ _ i f;omega
 | succ n ih =>
  intro j g h i f
  simp only [bv,Nat.zero_add] at h
  have l:=ha n (by omega)
  have k:=hb n (by omega)
  have e:bv a 0 n=bv b 0 n:=by omega
  by_cases d:i=n
  ·subst d;omega
  ·exact ih (by omega) (by omega) e i (by omega)
theorem zdu {a b:ByteArray} {v l v' l':Int} (ha:zdP a v l) (hb:zdP b v' l'):(a.toList==b.toList)=true↔v=v'/\l=l':=by
 rw [xe]
 constructor
 ·rintro ⟨d,h⟩
  refine ⟨?_,by rw [ha.pl,hb.pl,d]⟩
  rw [ha.pv,hb.pv,<- d,zdl a b _ h]
 ·rintro ⟨f,g⟩
  have d:a.size=b.size:=by have j:=ha.pl;have i:=hb.pl;omega
  refine ⟨d,zfJ ha.bt hb.bt a.size (Nat.le_refl _) (by omega) ?_⟩
  have e:=f
  rw [ha.pv,hb.pv,<- d] at e
  rw [d] at e ⊢
  exact Int.eq_of_mul_eq_mul_right (Int.ne_of_gt (Int.pow_pos (by decide))) e
theorem zcS {a b:ByteArray} {v u:Int} (ha:Jl a v) (hb:Jl b u):(a.toList==b.toList)=true↔v=u:=by
 rw [xe]
 have e:=ha.sz
 have d:=hb.sz
 constructor
 ·rintro ⟨_,h⟩
  rw [<- ha.vl,<- hb.vl];exact h 0 (by omega)
 ·intro h
  refine ⟨by omega,fun i hi=>?_⟩
  have:i=0:=by omega
  subst this
  rw [ha.vl,hb.vl,h]
theorem js (s:ByteArray) (p e:Nat) (he:e<=s.size):∀ n,n<=e-p->T.val (s.extract p e) n=vl s p n:=by
 intro n
 induction n with
 | zero=>intro _;rfl
 | succ n ih=>intro h;simp only [T.val,vl];rw [ih (by omega),T.ch_extract s p e n he (by omega)]
theorem J1 (s:ByteArray) (p e:Nat) (he:e<=s.size):∀ n,n<=e-p->bv (s.extract p e) 0 n=bv s p n:=by
 intro n
 induction n with
 | zero=>intro _;rfl
 | succ n ih=>intro h;simp only [bv];rw [ih (by omega),Nat.zero_add,T.ch_extract s p e n he (by omega)]
theorem zcH {s:ByteArray} {k:Nat} (hk:k<=s.size) (h:T.sk s k<zo s k false):X8 (s.extract (T.sk s k) (zo s k false)) (zJ s k false):=by
 have f:=T.sk_le hk
 have d:=ya (b:=false) hk
 have g:=zcJ hk
 have e:=T.dg_all s 9 58 true (T.sk s k) f (by decide)
 rw [g.1] at e
 have a:=T.size_extract s (T.sk s k) (zo s k false) d
 refine ⟨e.1,by omega,by omega,?_,?_⟩
 ·by_cases i:T.ch s (T.sk s k)=48
  ·left
   have:zo s k false<=T.sk s k+1:=by
    unfold zo nmE nmL
    rw [zl,yZ,if_pos (by omega)]
    exact JI s false 1 _
   omega
  ·right
   rw [T.ch_extract s _ _ 0 d (by omega)]
   simpa using i
 ·rw [a,js s _ _ d _ (Nat.le_refl _)]
  unfold zJ
  rw [zl]
theorem Qc (s:ByteArray):∀ n j i,j<=i->i<btF s false n j->bit (T.ch s i)=true:=by
 intro n
 induction n with
 | zero=>intro j i b a;simp only [btF] at a;omega
 | succ n ih =>
  intro j i b a
  simp only [btF] at a
  split at a
  ·next hb =>
   by_cases e:i=j
   ·subst e;rw [zav] at hb;exact hb
   ·exact ih (j+1) i (by omega) a
  ·omega
theorem zdt {s:ByteArray} {k:Nat} (hk:k<=s.size) (h:T.sk s k<btK s k false):zdP (s.extract (T.sk s k) (btK s k false)) (btV s k false) (btL s k false):=by
 have f:=xS (b:=false) hk
 have a:=T.size_extract s (T.sk s k) (btK s k false) f
 have e:=(XP s false 32 (zb s k false) (zM hk)).2.2
 have d:btL s k false=btK s k false-T.sk s k:=by unfold btL;rw [zl]
 have g:btK s k false<=T.sk s k+32:=by unfold btK;rw [zl] at *;exact e
 refine ⟨fun i hi=>?_,by omega,by omega,by rw [d,a],?_⟩
 ·rw [T.ch_extract s _ _ i f (by omega)]
  have:=Qc s 32 (T.sk s k) (T.sk s k+i) (by omega) (by
   have:btK s k false=btF s false 32 (T.sk s k):=by unfold btK;rw [zl]
   omega)
  simpa [bit] using this
 ·rw [a,J1 s _ _ f _ (Nat.le_refl _)]
  unfold btV
  rw [zl,d]
theorem xn {one two:Nat->FR->Option PR} (h:∀ k f q,one k f=some q->two k f=some q):∀ (l:List FR) (k:Nat) (q:PR),pL one k l=some q->pL two k l=some q:=by
 intro l
 induction l with
 | nil=>intro k q d;exact d
 | cons f r ih =>
  intro k q d
  simp only [pL] at d ⊢
  cases ha:one k f with
  | none=>rw [ha] at d;simp at d
  | some a =>
   rw [ha] at d
   rw [h k f a ha]
   simp only at d ⊢
   split at d
   ·next hok =>
    rw [if_pos hok]
    cases hb:pL one a.at_ r with
    | none=>rw [hb] at d;simp at d
    | some b=>rw [hb] at d;rw [ih _ _ hb];exact d
   ·next hok=>rw [if_neg hok];exact d
theorem zcy (s:ByteArray):∀ (N k:Nat) (f:FR) (q:PR),pF s N k f=some q->pF s (N+1) k f=some q:=by
 intro N
 induction N with
 | zero=>intro k f q h;simp [pF] at h
 | succ N ih =>
  intro k f q h
  rw [pF] at h ⊢
  split at h
  ·next hok =>
   rw [if_pos hok]
   cases hb:pL (pF s N) (zm s k f).at_ (zm s k f).push with
   | none=>rw [hb] at h;simp at h
   | some b=>rw [hb] at h;rw [xn (ih) _ _ _ hb];exact h
  ·next hok=>rw [if_neg hok];exact h
theorem xp (s:ByteArray) {N M:Nat} (h:N<=M) {k:Nat} {f:FR} {q:PR} (hq:pF s N k f=some q):pF s M k f=some q:=by
 induction M with
 | zero =>
  have:N=0:=by omega
  subst this;exact hq
 | succ M ih =>
  by_cases e:N=M+1
  ·subst e;exact hq
  ·exact zcy s M k f q (ih (by omega))
def Par (s:ByteArray) (k:Nat) (l:List FR) (ok:Bool) (a:Nat) (sg:List SG):Prop:=∃ N n,pL (pF s N) k l=some ⟨ok,a,sg,n⟩
def zP (s:ByteArray) (k:Nat) (l:List FR) (a:Nat):Prop:=∃ sg,Par s k l false a sg
theorem Par.nil (s:ByteArray) (k:Nat):Par s k [] true k []:=⟨0,0,rfl⟩
theorem zcx {one:Nat->FR->Option PR} {k:Nat} {f:FR} {q:PR} (h:one k f=some q):∃ n,pL one k [f]=some ⟨q.ok,q.at_,q.sg,n⟩:=by
 obtain ⟨ok,a,sg,n⟩:=q
 simp only [pL,h]
 cases ok with
 | true=>exact ⟨n+0,by simp⟩
 | false=>exact ⟨n,by simp⟩
theorem zah {one:Nat->FR->Option PR} {k:Nat} {f:FR} {ok:Bool} {a n:Nat} {sg:List SG} (h:pL one k [f]=some ⟨ok,a,sg,n⟩):∃ n',one k f=some ⟨ok,a,sg,n'⟩:=by
 simp only [pL] at h
 cases ha:one k f with
 | none=>rw [ha] at h;simp at h
 | some q =>
  rw [ha] at h
  obtain ⟨b,e,d,n'⟩:=q
  cases b with
  | true=>simp at h;obtain ⟨rfl,rfl,rfl,_⟩:=h;exact ⟨n',rfl⟩
  | false=>simp at h;obtain ⟨rfl,rfl,rfl,rfl⟩:=h;exact ⟨n',rfl⟩
theorem Par.cons {s:ByteArray} {k a b:Nat} {f:FR} {fs:List FR} {ok:Bool} {sg1 sg2:List SG} (h1:Par s k [f] true a sg1) (h2:Par s a fs ok b sg2):Par s k (f::fs) ok b (sg2++sg1):=by
 obtain ⟨i,n,h1⟩:=h1
 obtain ⟨g,j,h2⟩:=h2
 obtain ⟨d,e⟩:=zah h1
 refine ⟨i+g,d+j,?_⟩
 have m:=xp s (M:=i+g) (by omega) e
 have l:=xn (fun k f q h=>xp s (M:=i+g) (by omega) h) _ _ _ h2
 simp only [pL,m,l]
 simp
theorem Par.cons_no {s:ByteArray} {k a:Nat} {f:FR} {fs:List FR} {sg:List SG} (h1:Par s k [f] false a sg):Par s k (f::fs) false a sg:=by
 obtain ⟨e,g,h1⟩:=h1
 obtain ⟨b,d⟩:=zah h1
 exact ⟨e,b,by simp only [pL,d];simp⟩
theorem zP.cons {s:ByteArray} {k a:Nat} {f:FR} {fs:List FR} (h1:zP s k [f] a):zP s k (f::fs) a:=by
 obtain ⟨b,h⟩:=h1;exact ⟨b,h.cons_no⟩
theorem zP.after {s:ByteArray} {k a b:Nat} {f:FR} {fs:List FR} {sg1:List SG} (h1:Par s k [f] true a sg1) (h2:zP s a fs b):zP s k (f::fs) b:=by
 obtain ⟨d,h⟩:=h2;exact ⟨_,h1.cons h⟩
theorem Par.step {s:ByteArray} {k b:Nat} {f:FR} {ok:Bool} {sg2:List SG} (h:(zm s k f).ok=true) (h2:Par s (zm s k f).at_ (zm s k f).push ok b sg2):Par s k [f] ok b (sg2++(zm s k f).sg):=by
 obtain ⟨N,n,h2⟩:=h2
 have:pF s (N+1) k f=some ⟨ok,b,sg2++(zm s k f).sg,n+1⟩:=by rw [pF,if_pos h,h2]
 obtain ⟨a,d⟩:=zcx this
 exact ⟨N+1,a,d⟩
theorem zP.step {s:ByteArray} {k b:Nat} {f:FR} (h:(zm s k f).ok=true) (h2:zP s (zm s k f).at_ (zm s k f).push b):zP s k [f] b:=by
 obtain ⟨a,h2⟩:=h2;exact ⟨_,Par.step h h2⟩
theorem zP.stop {s:ByteArray} {k:Nat} {f:FR} (h:(zm s k f).ok=false):zP s k [f] (zm s k f).at_:=by
 have:pF s 1 k f=some ⟨false,(zm s k f).at_,[],1⟩:=by rw [pF,if_neg (by rw [h];decide)]
 obtain ⟨a,b⟩:=zcx this
 exact ⟨[],1,a,b⟩
theorem Par.det {s:ByteArray} {k a b N n:Nat} {l:List FR} {ok ok':Bool} {sg sg':List SG} (h1:Par s k l ok a sg) (h2:pL (pF s N) k l=some ⟨ok',b,sg',n⟩):ok=ok'/\a=b/\sg=sg':=by
 obtain ⟨M,m,h1⟩:=h1
 have e:=xn (fun k f q h=>xp s (M:=N+M) (by omega) h) _ _ _ h1
 have d:=xn (fun k f q h=>xp s (M:=N+M) (by omega) h) _ _ _ h2
 rw [e] at d
 simp at d
 exact ⟨d.1,d.2.1,d.2.2.1⟩
def Qg (s:ByteArray) (k:Nat) (b:Bool):Prop:=b=true\/T.dig (T.ch s k)=true
theorem ZH {s:ByteArray} {k:Nat} {b:Bool} (h:Qg s k b):zb s k b=k:=by
 cases b with
 | true=>rfl
 | false =>
  rw [zl]
  rcases h with h | h
  ·cases h
  ·have:=(YM _).1 h
   refine T.sk_here ?_
   unfold T.bl
   simp
   omega
theorem XM {s:ByteArray} {k:Nat} {b:Bool} (h:Qg s k b):ze s k b=0\/(48<=ze s k b/\ze s k b<=57):=by
 cases b with
 | true=>left;simp [ze]
 | false =>
  right
  rcases h with h | h
  ·cases h
  ·have:=(YM _).1 h
   have a:=T.dig_lt h
   rw [yZ,if_pos a]
   exact this
theorem yl {s:ByteArray} {k:Nat} {b:Bool} {c:Int} (h:Qg s k b) (hc:c≠0) (hc2:c<48\/57<c):zZ s c k b=false/\zc s c k b=k/\zj s c k b=true:=by
 have a:zZ s c k b=false:=by
  unfold zZ
  rw [ZH h,beq_eq_false_iff_ne]
  rcases XM h with h | h<;>omega
 refine ⟨a,?_,?_⟩
 ·unfold zc;rw [if_neg (by rw [a];decide),ZH h]
 ·unfold zj;rw [if_neg (by rw [a];decide)]
theorem j7 {s:ByteArray} {k:Nat} {b:Bool} (h:Qg s k b):zQ s k b=k/\zX s k b=true:=by
 have a:YH s k b=false:=by
  unfold YH
  rw [ZH h]
  rcases XM h with h | h
  ·simp [h]
  ·have:¬ 97<=ze s k b:=by omega
   simp [this]
 exact ⟨by unfold zQ;rw [if_neg (by rw [a];decide),ZH h],by unfold zX;rw [if_neg (by rw [a];decide)]⟩
theorem QF {s:ByteArray} {rs:List RL} {n m k:Nat} {d:Int} {b:Bool} (h:Qg s k b):cE s rs n d m k b=⟨-1,[],k,true⟩:=by
 cases n with
 | zero=>simp only [cE,ZH h]
 | succ n =>
  have a:isK (ze s (zb s k b) b)=false:=by
   rw [ZH h]
   rcases XM h with h | h
   ·rw [h];rfl
   ·unfold isK;simp;omega
  rw [Ja n d m k b a,ZH h]
theorem zax (s:ByteArray) (k:Nat):zo s k true=k/\zw s k true=true:=by
 refine ⟨?_,qM rfl⟩
 unfold zo nmE nmL
 have:zb s k true=k:=rfl
 rw [this,Yv]
 simp [nmF,Yv,T.dig]
theorem x7 {s:ByteArray} {k:Nat} {c:Int} (hc:0<c) (hc2:c<256) (h:zZ s c k false=true):Par s k [byF c] true (zc s c k false) []/\zj s c k false=false:=by
 have d:=YX (by omega) h
 have a:zm s k (byF c)=⟨true,T.sk s k+1,[],[]⟩:=by
  unfold zm byF
  simp only
  rw [if_neg (by omega),if_neg (by omega),if_neg (by omega),if_neg (by omega),if_neg (by omega),if_neg (by omega),if_neg (by omega),if_neg (by omega),if_pos d.2.2]
 refine ⟨?_,by unfold zj;rw [if_pos h]⟩
 have e:zc s c k false=T.sk s k+1:=by unfold zc;rw [if_pos h,zl]
 have:=Par.step (s:=s) (k:=k) (f:=byF c) (ok:=true) (b:=T.sk s k+1) (sg2:=[]) (by rw [a]) (by rw [a];exact Par.nil _ _)
 rw [a] at this
 rw [e];exact this
theorem zdS {s:ByteArray} {k:Nat} {c:Int} (hc:0<c) (hc2:c<256) (h:zZ s c k false=false):zP s k [byF c] (zc s c k false)/\zj s c k false=true:=by
 have d:T.ch s (T.sk s k)≠c:=by
  unfold zZ at h
  rw [zl,yZ,beq_eq_false_iff_ne] at h
  by_cases b:T.sk s k<s.size
  ·rw [if_pos b] at h;exact h
  ·rw [T.ch_ge b];omega
 have a:zm s k (byF c)=⟨false,T.sk s k,[],[]⟩:=by
  unfold zm byF
  simp only
  rw [if_neg (by omega),if_neg (by omega),if_neg (by omega),if_neg (by omega),if_neg (by omega),if_neg (by omega),if_neg (by omega),if_neg (by omega),if_neg d]
 refine ⟨?_,by unfold zj;rw [if_neg (by rw [h];decide)]⟩
 have e:zc s c k false=T.sk s k:=by unfold zc;rw [if_neg (by rw [h];decide),zl]
 have:=zP.stop (s:=s) (k:=k) (f:=byF c) (by rw [a])
 rw [a] at this
 rw [e];exact this
theorem zek {s:ByteArray} {k:Nat} (hk:k<=s.size) (kd d l:Int) :
 (Par s k [⟨261,kd,d,l⟩] true (zo s k false) [⟨kd,T.sk s k,d,l,s.extract (T.sk s k) (zo s k false)⟩]/\zw s k false=false/\T.sk s k<zo s k false) \/
 (zP s k [⟨261,kd,d,l⟩] (zo s k false)/\Qg s (zo s k false) (zw s k false)):=by
 have g:=zcJ hk
 have j:T.sk s k<=zo s k false:=by have:=(Q3 s false (nmL s (zb s k false) false) (zb s k false) (zM hk)).1;rw [zl] at this;unfold zo nmE;rw [zl];exact this
 have i:zw s k false=if zo s k false=T.sk s k then true else false:=by unfold zw;rw [zl]
 by_cases e:((T.dg s 9 58 true (T.sk s k)).1 && decide (T.sk s k<(T.dg s 9 58 true (T.sk s k)).2))=true
 ·left
  have a:zm s k ⟨261,kd,d,l⟩=⟨true,(T.dg s 9 58 true (T.sk s k)).2,[],[⟨kd,T.sk s k,d,l,s.extract (T.sk s k) (T.dg s 9 58 true (T.sk s k)).2⟩]⟩:=by
   unfold zm
   simp only
   rw [if_neg (by decide),if_neg (by decide),if_neg (by decide),if_neg (by decide),if_neg (by decide),if_pos trivial,if_pos e]
  have h:T.sk s k<zo s k false:=by rw [<- g.1];simp at e;exact e.2
  refine ⟨?_,by rw [i,if_neg (by omega)],h⟩
  have:=Par.step (s:=s) (k:=k) (f:=⟨261,kd,d,l⟩) (ok:=true) (b:=(T.dg s 9 58 true (T.sk s k)).2) (sg2:=[]) (by rw [a]) (by rw [a];exact Par.nil _ _)
  rw [a] at this
  rw [g.1] at this
  exact this
 ·right
  have a:zm s k ⟨261,kd,d,l⟩=⟨false,(T.dg s 9 58 true (T.sk s k)).2,[],[]⟩:=by
   unfold zm
   simp only
   rw [if_neg (by decide),if_neg (by decide),if_neg (by decide),if_neg (by decide),if_neg (by decide),if_pos trivial,if_neg e]
  have:=zP.stop (s:=s) (k:=k) (f:=⟨261,kd,d,l⟩) (by rw [a])
  rw [a] at this
  simp only [g.1] at this
  refine ⟨this,?_⟩
  by_cases m:zo s k false=T.sk s k
  ·left;rw [i,if_pos m]
  ·right
   cases hg:T.dig (T.ch s (zo s k false)) with
   | true=>rfl
   | false=>exact absurd (by rw [g.2.2 hg,g.1];simp;omega) e
theorem zeR {s:ByteArray} {k:Nat} (hk:k<=s.size) (kd d l:Int) :
 (Par s k [⟨262,kd,d,l⟩] true (btK s k false) [⟨kd,T.sk s k,d,l,s.extract (T.sk s k) (btK s k false)⟩]/\btX s k false=false/\T.sk s k<btK s k false) \/
 (zP s k [⟨262,kd,d,l⟩] (btK s k false)/\Qg s (btK s k false) (btX s k false)):=by
 have g:=zfM hk
 have j:T.sk s k<=btK s k false:=by have:=(XP s false 32 (zb s k false) (zM hk)).1;rw [zl] at this;unfold btK;rw [zl];exact this
 have i:btX s k false=if btK s k false=T.sk s k then true else false:=by unfold btX;rw [zl]
 by_cases e:((T.dg s 32 50 false (T.sk s k)).1 && decide (T.sk s k<(T.dg s 32 50 false (T.sk s k)).2))=true
 ·left
  have a:zm s k ⟨262,kd,d,l⟩=⟨true,(T.dg s 32 50 false (T.sk s k)).2,[],[⟨kd,T.sk s k,d,l,s.extract (T.sk s k) (T.dg s 32 50 false (T.sk s k)).2⟩]⟩:=by
   unfold zm
   simp only
   rw [if_neg (by decide),if_neg (by decide),if_neg (by decide),if_neg (by decide),if_neg (by decide),if_neg (by decide),if_pos trivial,if_pos e]
  have h:T.sk s k<btK s k false:=by rw [<- g.1];simp at e;exact e.2
  refine ⟨?_,by rw [i,if_neg (by omega)],h⟩
  have:=Par.step (s:=s) (k:=k) (f:=⟨262,kd,d,l⟩) (ok:=true) (b:=(T.dg s 32 50 false (T.sk s k)).2) (sg2:=[]) (by rw [a]) (by rw [a];exact Par.nil _ _)
  rw [a] at this
  rw [g.1] at this
  exact this
 ·right
  have a:zm s k ⟨262,kd,d,l⟩=⟨false,(T.dg s 32 50 false (T.sk s k)).2,[],[]⟩:=by
   unfold zm
   simp only
   rw [if_neg (by decide),if_neg (by decide),if_neg (by decide),if_neg (by decide),if_neg (by decide),if_neg (by decide),if_pos trivial,if_neg e]
  have:=zP.stop (s:=s) (k:=k) (f:=⟨262,kd,d,l⟩) (by rw [a])
  rw [a] at this
  simp only [g.1] at this
  refine ⟨this,?_⟩
  by_cases m:btK s k false=T.sk s k
  ·left;rw [i,if_pos m]
  ·right
   cases hg:T.dig (T.ch s (btK s k false)) with
   | true=>rfl
   | false=>exact absurd (by rw [g.2.2 hg,g.1];simp;omega) e
theorem zeq (s:ByteArray) (k:Nat) (kd d l:Int) :
 (Par s k [⟨263,kd,d,l⟩] true (zQ s k false) [⟨kd,T.sk s k,d,l,s.extract (T.sk s k) (T.sk s k+1)⟩]/\zX s k false=false/\zQ s k false=T.sk s k+1/\Jl (s.extract (T.sk s k) (T.sk s k+1)) (ze s (zb s k false) false)) \/
 (zP s k [⟨263,kd,d,l⟩] (zQ s k false)/\zX s k false=true):=by
 cases hb:YH s k false with
 | true =>
  left
  have g:=(qb hb).2
  rw [zl] at g
  have h:ze s (zb s k false) false=T.ch s (T.sk s k):=by rw [zl,yZ,if_pos g]
  have i:97<=T.ch s (T.sk s k)/\T.ch s (T.sk s k)<=122:=by unfold YH at hb;rw [h] at hb;simpa using hb
  have a:zm s k ⟨263,kd,d,l⟩=⟨true,T.sk s k+1,[],[⟨kd,T.sk s k,d,l,s.extract (T.sk s k) (T.sk s k+1)⟩]⟩:=by
   unfold zm
   simp only
   rw [if_neg (by decide),if_neg (by decide),if_neg (by decide),if_neg (by decide),if_neg (by decide),if_neg (by decide),if_neg (by decide),if_pos trivial,if_pos i]
  have e:zQ s k false=T.sk s k+1:=by unfold zQ;rw [if_pos hb,zl]
  have:=Par.step (s:=s) (k:=k) (f:=⟨263,kd,d,l⟩) (ok:=true) (b:=T.sk s k+1) (sg2:=[]) (by rw [a]) (by rw [a];exact Par.nil _ _)
  rw [a] at this
  refine ⟨by rw [e];exact this,by unfold zX;rw [if_pos hb],e,?_,?_⟩
  ·rw [T.size_extract s _ _ (by omega)];omega
  ·rw [T.ch_extract s _ _ 0 (by omega) (by omega),h];rfl
 | false =>
  right
  have i:¬ (97<=T.ch s (T.sk s k)/\T.ch s (T.sk s k)<=122):=by
   intro i
   have g:=T.ch_nn (s:=s) (k:=T.sk s k) (by omega)
   unfold YH at hb
   rw [zl,yZ,if_pos g] at hb
   simp at hb
   omega
  have a:zm s k ⟨263,kd,d,l⟩=⟨false,T.sk s k,[],[]⟩:=by
   unfold zm
   simp only
   rw [if_neg (by decide),if_neg (by decide),if_neg (by decide),if_neg (by decide),if_neg (by decide),if_neg (by decide),if_neg (by decide),if_pos trivial,if_neg i]
  have:=zP.stop (s:=s) (k:=k) (f:=⟨263,kd,d,l⟩) (by rw [a])
  rw [a] at this
  have e:zQ s k false=T.sk s k:=by unfold zQ;rw [if_neg (by rw [hb];decide),zl]
  exact ⟨by rw [e];exact this,by unfold zX;rw [if_neg (by rw [hb];decide)]⟩
theorem Jf (g:SG) (a b:List SG):ZI g (a++b)=ZI g a+ZI g b:=by
 induction a with
 | nil=>simp [ZI]
 | cons x r ih=>simp only [List.cons_append,ZI,ih];omega
theorem Je (g:SG) (a b:List SG):ZS g (a++b)=(ZS g a || ZS g b):=by
 induction a with
 | nil=>simp [ZS]
 | cons x r ih =>
  simp only [List.cons_append,ZS,ih]
  cases ZS g r<;>cases ZS g b<;>simp
theorem zdw (g:SG) (a:List SG):ZI g a.reverse=ZI g a:=by
 induction a with
 | nil=>rfl
 | cons x r ih=>rw [List.reverse_cons,Jf,ih];simp [ZI]
theorem zdv (g:SG) (a:List SG):ZS g a.reverse=ZS g a:=by
 induction a with
 | nil=>rfl
 | cons x r ih =>
  rw [List.reverse_cons,Je,ih]
  simp [ZS]
theorem Jd {g:SG} {l:List SG} (h:∀ x∈l,x.list≠g.list):ZI g l=0/\ZS g l=false:=by
 induction l with
 | nil=>exact ⟨rfl,rfl⟩
 | cons x r ih =>
  have b:=ih (fun y hy=>h y (by simp [hy]))
  have a:¬ (x.list=g.list/\x.kind=g.kind):=fun e=>h x (by simp) e.1
  simp only [ZI,ZS]
  rw [b.1,b.2,if_neg a,decide_eq_false a]
  simp
def Er (rs:List RL) (U:List SG) (g:SG) (err:Int):Prop :=
 (err=3/\g.kind=3/\12<=g.depth)\/(err=4/\g.list≠-1/\16<=ZI g U)\/(err=5/\g.kind=2/\yn (T.ch g.text 0) rs=-1)\/(err=6/\zR g.kind (T.val g.text g.text.size)=true)\/(err=7/\g.list≠-1/\ZS g U=true)
def FU (rs:List RL):List SG->List SG->Int->Int->Prop
 | _,[],_,_=>False
 | P,g::U,err,a=>(a=g.place/\Er rs P g err)\/FU rs (P++[g]) U err a
theorem zdK (rs:List RL) (A B:List SG) (err a:Int):∀ P,FU rs P (A++B) err a↔FU rs P A err a\/FU rs (P++A) B err a:=by
 induction A with
 | nil=>intro P;simp [FU]
 | cons g r ih =>
  intro P
  simp only [List.cons_append,FU]
  rw [ih (P++[g]),List.append_assoc,List.singleton_append,or_assoc]
def FEx (e:EX) (err a:Int):Prop :=
 (12<=e.depth/\err=3/\a=e.at_)\/(e.kind=116/\(e.nv<1\/86400<e.nv)/\err=6/\a=e.na)\/(e.kind=64/\(e.nv<0\/15<e.nv)/\err=6/\a=e.na)\/(e.kind=61/\e.inner=-1/\err=5/\a=e.na)
def FIm (c:Int) (pre:List IM) (x:IM) (err a:Int):Prop :=
 (16<=pre.length/\err=4/\a=x.at_)\/(pre.any (fun y=>yv y x)=true/\err=7/\a=x.at_)\/((c=123\/c=102\/c=119)/\(x.num<0\/63<x.num)/\err=6/\a=x.at_)\/(c=119/\(x.wv<1\/1000<x.wv)/\err=6/\a=x.wa)\/(c=103/\(x.num<0\/99<x.num)/\err=6/\a=x.at_)
def FIs (c:Int):List IM->List IM->Int->Int->Prop
 | _,[],_,_=>False
 | pre,x::l,err,a=>FIm c pre x err a\/FIs c (pre++[x]) l err a
def FE (es:List EX) (err a:Int):Prop:=∃ e∈es,FEx e err a\/FIs e.kind [] e.items err a
theorem xY (es fs:List EX) (err a:Int):FE (es++fs) err a↔FE es err a\/FE fs err a:=by
 unfold FE
 constructor
 ·rintro ⟨e,b,h⟩
  rcases List.mem_append.1 b with b | b
  ·exact .inl ⟨e,b,h⟩
  ·exact .inr ⟨e,b,h⟩
 ·rintro (⟨e,b,h⟩ | ⟨e,b,h⟩)
  ·exact ⟨e,List.mem_append_left _ b,h⟩
  ·exact ⟨e,List.mem_append_right _ b,h⟩
theorem zdM (err a:Int):¬ FE [] err a:=fun ⟨_,h,_⟩=>by simp at h
theorem XQ (e:EX) (err a:Int):FE [e] err a↔FEx e err a\/FIs e.kind [] e.items err a:=by
 unfold FE;simp
def mk (c:Int):Int:=if c=103 then 7 else if c=109 then 9 else 4
structure GX (c p:Int) (g:SG) (x:IM):Prop where
 li:g.list=p
 ki:g.kind=mk c
 pl:g.place=x.at_
 tx:(c=109/\x.num=0/\zdP g.text x.pv x.pl)\/(c≠109/\X8 g.text x.num/\x.pv=0/\x.pl=0)
theorem GX.same {c p:Int} {g h:SG} {x y:IM} (a:GX c p g x) (b:GX c p h y):(g.text.toList==h.text.toList)=yv x y:=by
 rw [Bool.eq_iff_iff]
 unfold yv
 rcases a.tx with ⟨a0,a1,a2⟩ | ⟨a0,a1,a2,a3⟩
 ·rcases b.tx with ⟨b0,b1,b2⟩ | ⟨b0,_⟩
  ·rw [zdu a2 b2]
   simp [a1,b1]
  ·exact absurd a0 b0
 ·rcases b.tx with ⟨b0,_⟩ | ⟨b0,b1,b2,b3⟩
  ·exact absurd b0 a0
  ·rw [zcI a1 b1]
   simp [a2,a3,b2,b3]
def Cor (c p:Int) (P:List SG) (pre:List IM):Prop:=∀ g x,GX c p g x->ZI g P=pre.length/\ZS g P=pre.any (fun y=>yv y x)
theorem Cor.nil {c p:Int} {P:List SG} (h:∀ x∈P,x.list≠p):Cor c p P []:=fun g x hg=>by
 have:=Jd (g:=g) (l:=P) (fun y hy=>by rw [hg.li];exact h y hy)
 simp [this.1,this.2]
theorem Cor.step {c p:Int} {P rest:List SG} {pre:List IM} {g0:SG} {x0:IM} (h:Cor c p P pre) (hg:GX c p g0 x0) (hr:∀ x∈rest,x.list≠p):Cor c p (P++g0::rest) (pre++[x0]):=fun g x hx=>by
 have b:=h g x hx
 have a:=Jd (g:=g) (l:=rest) (fun y hy=>by rw [hx.li];exact hr y hy)
 have d:g0.list=g.list/\g0.kind=g.kind:=⟨by rw [hg.li,hx.li],by rw [hg.ki,hx.ki]⟩
 constructor
 ·rw [Jf,b.1]
  simp only [ZI,a.1,if_pos d]
  simp
 ·rw [Je,b.2]
  simp only [ZS,a.2,decide_eq_true d,hg.same hx]
  simp
def KD (g:SG):Prop:=g.kind≠1/\(g.kind=2->g.text.size=1)
theorem KD.of {g:SG} (h1:g.kind≠1) (h2:g.kind≠2):KD g:=⟨h1,fun h=>absurd h h2⟩
structure GU (rs:List RL) (k k':Nat) (U:List SG) (es:List EX):Prop where
 wl:∀ g∈U,(k:Int)<=g.place/\g.place<k'/\(g.list=-1\/((k:Int)<=g.list/\g.list<k'))/\KD g
 st:U.Pairwise (fun a b=>a.place<b.place)
 fu:∀ P,(∀ x∈P,x.list<(k:Int))->∀ err a,FU rs P U err a↔FE es err a
structure GI (rs:List RL) (c p:Int) (k k':Nat) (U:List SG) (es:List EX) (ims:List IM):Prop where
 wl:∀ g∈U,(k:Int)<=g.place/\g.place<k'/\(g.list=-1\/g.list=p\/((k:Int)<=g.list/\g.list<k'))/\KD g
 st:U.Pairwise (fun a b=>a.place<b.place)
 fu:∀ P pre,(∀ x∈P,x.list<(k:Int))->Cor c p P pre->∀ err a,FU rs P U err a↔FE es err a\/FIs c pre ims err a
structure G1 (rs:List RL) (c p:Int) (k k':Nat) (g0:SG) (rest:List SG) (es:List EX) (x:IM):Prop where
 gx:GX c p g0 x
 w0:(k:Int)<=g0.place/\g0.place<k'
 wl:∀ g∈rest,g0.place<g.place/\g.place<k'/\(g.list=-1\/((k:Int)<=g.list/\g.list<k'))/\KD g
 st:rest.Pairwise (fun a b=>a.place<b.place)
 fu:∀ P pre,(∀ x∈P,x.list<(k:Int))->Cor c p P pre->∀ err a,FU rs P (g0::rest) err a↔FE es err a\/FIm c pre x err a
theorem zcL (c:Int):mk c≠1/\mk c≠2/\mk c≠3:=by unfold mk;split<;>(try split)<;>decide
theorem X8.nn {t:ByteArray} {v:Int} (h:X8 t v):0<=v:=by rw [<- h.vl];exact (T.val_bd h.dg _ (Nat.le_refl _)).1
theorem jr {rs:List RL} {c p:Int} {P:List SG} {pre:List IM} {g:SG} {x:IM} (hp:p≠-1) (hg:GX c p g x) (hC:Cor c p P pre) (err:Int) :
 Er rs P g err↔(err=4/\16<=pre.length)\/(err=6/\zR (mk c) x.num=true)\/(err=7/\pre.any (fun y=>yv y x)=true):=by
 have e:=hC g x hg
 have d:=zcL c
 have b:g.list≠-1:=by rw [hg.li];exact hp
 have f:zR g.kind (T.val g.text g.text.size)=zR (mk c) x.num:=by
  rw [hg.ki]
  rcases hg.tx with ⟨a0,_⟩ | ⟨_,a1,_⟩
  ·subst a0;rfl
  ·rw [a1.vl]
 unfold Er
 rw [e.1,e.2,f,hg.ki]
 constructor
 ·rintro (⟨_,h,_⟩ | ⟨h,_,a⟩ | ⟨_,h,_⟩ | h | ⟨h,_,a⟩)
  ·exact absurd h d.2.2
  ·exact .inl ⟨h,a⟩
  ·exact absurd h d.2.1
  ·exact .inr (.inl h)
  ·exact .inr (.inr ⟨h,a⟩)
 ·rintro (⟨h,a⟩ | h | ⟨h,a⟩)
  ·exact .inr (.inl ⟨h,b,a⟩)
  ·exact .inr (.inr (.inr (.inl h)))
  ·exact .inr (.inr (.inr (.inr ⟨h,b,a⟩)))
theorem xc {rs:List RL} {P:List SG} {g:SG} (hl:g.list=-1) (err:Int) :
 Er rs P g err↔(err=3/\g.kind=3/\12<=g.depth)\/(err=5/\g.kind=2/\yn (T.ch g.text 0) rs=-1)\/(err=6/\zR g.kind (T.val g.text g.text.size)=true):=by
 unfold Er
 constructor
 ·rintro (h | ⟨_,h,_⟩ | h | h | ⟨_,h,_⟩)
  ·exact .inl h
  ·exact absurd hl h
  ·exact .inr (.inl h)
  ·exact .inr (.inr h)
  ·exact absurd hl h
 ·rintro (h | h | h)
  ·exact .inl h
  ·exact .inr (.inr (.inl h))
  ·exact .inr (.inr (.inr (.inl h)))
theorem YU (s:ByteArray) (k:Nat):T.sk s (T.sk s k)=T.sk s k:=T.sk_here (T.sk_bl s k)
def ExP (s:ByteArray) (rs:List RL) (ex:Int->Nat->Nat->Bool->CR) (n:Nat):Prop:=∀ d m k,0<=d->k<=s.size->s.size-k<n ->
 (∃ U,Par s k [⟨258,0,d,0⟩] true (ex d m k false).k U.reverse/\(ex d m k false).b=false/\0<=(ex d m k false).idx/\GU rs k (ex d m k false).k U (ex d m k false).es) \/
 (zP s k [⟨258,0,d,0⟩] (ex d m k false).k/\Qg s (ex d m k false).k (ex d m k false).b)
def ExD (s:ByteArray) (ex:Int->Nat->Nat->Bool->CR):Prop:=∀ d m k b,Qg s k b->ex d m k b=⟨-1,[],k,true⟩
def kf (c:Int):Int:=if c=119 then 10 else if c=109 then 9 else if c=103 then 7 else 4
theorem Yt (s:ByteArray) (k:Nat) (kd d p:Int):zm s k ⟨259,kd,d,p⟩=⟨true,T.sk s k,Zy ⟨259,kd,d,p⟩,[]⟩:=by
 unfold zm
 simp only
 rw [if_neg (by decide),if_neg (by decide),if_neg (by decide),if_pos trivial]
theorem zcU {s:ByteArray} {k b:Nat} {kd d p:Int} {sg:List SG} (h:Par s (T.sk s k) (Zy ⟨259,kd,d,p⟩) true b sg):Par s k [⟨259,kd,d,p⟩] true b sg:=by
 have:=Par.step (s:=s) (k:=k) (f:=⟨259,kd,d,p⟩) (ok:=true) (b:=b) (sg2:=sg) (by rw [Yt]) (by rw [Yt];exact h)
 rw [Yt] at this
 simpa using this
theorem zet {s:ByteArray} {k b:Nat} {kd d p:Int} (h:zP s (T.sk s k) (Zy ⟨259,kd,d,p⟩) b):zP s k [⟨259,kd,d,p⟩] b :=
 zP.step (s:=s) (k:=k) (f:=⟨259,kd,d,p⟩) (by rw [Yt]) (by rw [Yt];exact h)
theorem jq {c:Int} (hc:yo c) (pre:List IM) (x:IM) (hx:0<=x.num) (err a:Int) :
 FIm c pre x err a↔(a=x.at_/\((err=4/\16<=pre.length)\/(err=6/\zR (mk c) x.num=true)\/(err=7/\pre.any (fun y=>yv y x)=true)))\/(c=119/\(x.wv<1\/1000<x.wv)/\err=6/\a=x.wa):=by
 unfold FIm
 generalize (pre.any (fun y=>yv y x))=Q
 rcases hc with rfl | rfl | rfl | rfl | rfl
 ·have e:(zR (mk 123) x.num=true)↔(x.num<0\/63<x.num):=by simp [mk,zR];omega
  rw [e];cases Q<;>simp<;>(constructor<;>intro h<;>omega)
 ·have e:(zR (mk 102) x.num=true)↔(x.num<0\/63<x.num):=by simp [mk,zR];omega
  rw [e];cases Q<;>simp<;>(constructor<;>intro h<;>omega)
 ·have e:(zR (mk 119) x.num=true)↔(x.num<0\/63<x.num):=by simp [mk,zR];omega
  rw [e];cases Q<;>simp<;>(constructor<;>intro h<;>omega)
 ·have e:(zR (mk 103) x.num=true)↔(x.num<0\/99<x.num):=by simp [mk,zR];omega
  rw [e];cases Q<;>simp<;>(constructor<;>intro h<;>omega)
 ·have e:(zR (mk 109) x.num=true)↔False:=by simp [mk,zR]
  rw [e];cases Q<;>simp<;>(constructor<;>intro h<;>omega)
end Go.Proofs.YtaebngpoagjafabGreat
