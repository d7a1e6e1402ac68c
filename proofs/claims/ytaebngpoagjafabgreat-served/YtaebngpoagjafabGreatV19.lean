import Derived.Test.YtaebngpoagjafabGreatV17
import Derived.Test.YtaebngpoagjafabGreatV18
set_option maxRecDepth 100000
namespace Go.Proofs.YtaebngpoagjafabGreat
open Go.RowKit
theorem yM (s:ByteArray) (j:Nat):ze s j false=if j<s.size then T.ch s j else 0:=by unfold ze;rw [if_neg (by decide)]
theorem zbC (s:ByteArray) (j:Nat):T.dig (ze s j false)=T.dig (T.ch s j):=by
 rw [yM]
 split
 ·rfl
 ·next h=>rw [T.ch_ge h];rfl
theorem Jl (s:ByteArray) (j:Nat):bit (ze s j false)=bit (T.ch s j):=by
 rw [yM]
 split
 ·rfl
 ·next h=>rw [T.ch_ge h];rfl
theorem Yk (c:Int):T.dig c=true↔48<=c/\c<=57:=by unfold T.dig;simp
theorem jt (s:ByteArray) (b:Bool):∀ n j,nmF s b n j<=j+n:=by
 intro n
 induction n with
 | zero=>intro j;exact Nat.le_refl _
 | succ n ih =>
  intro j;simp only [nmF];split
  ·have:=ih (j+1);omega
  ·omega
theorem zcN (s:ByteArray) (p L:Nat) (hL:L=if T.ch s p=48 then 1 else 9):∀ n j,p<=j->j-p<=L->j<=s.size->s.size-j+1<=n ->
 (T.dgF s 9 58 true p n j).2=nmF s false (L-(j-p)) j/\((T.dgF s 9 58 true p n j).1=true↔T.dig (T.ch s (T.dgF s 9 58 true p n j).2)=false):=by
 intro n
 induction n with
 | zero=>intro j h1 h2 h3 h4;omega
 | succ n ih =>
  intro j h1 h2 h3 h4
  cases hd:T.dig (T.ch s j) with
  | false =>
   rw [T.dgF_end hd]
   refine ⟨?_,by simp [hd]⟩
   cases hm:L-(j-p) with
   | zero=>rfl
   | succ m=>simp only [nmF];rw [zbC,hd];rfl
  | true =>
   have hc:=(Yk _).1 hd
   by_cases hi:j-p=L
   ·have hst:T.stp 9 58 true (T.ch s j) ((j:Int)-p) (T.ch s p)=true:=by
     unfold T.stp
     by_cases h0:T.ch s p=48
     ·rw [if_pos h0] at hL
      have:(j:Int)-p=1:=by omega
      simp [this,h0]
     ·rw [if_neg h0] at hL
      have:(j:Int)-p=9:=by omega
      simp [this]
    rw [T.dgF_stop hd hst]
    refine ⟨?_,by simp [hd]⟩
    rw [show L-(j-p)=0 from by omega];rfl
   ·have hst:T.stp 9 58 true (T.ch s j) ((j:Int)-p) (T.ch s p)=false:=by
     unfold T.stp
     have a1:decide ((58:Int)<=T.ch s j)=false:=decide_eq_false (by omega)
     by_cases h0:T.ch s p=48
     ·rw [if_pos h0] at hL
      have:(j:Int)-p=0:=by omega
      simp [this,a1]
     ·rw [if_neg h0] at hL
      have a2:((j:Int)-p==9)=false:=beq_eq_false_iff_ne.2 (by omega)
      have a3:(T.ch s p==48)=false:=beq_eq_false_iff_ne.2 h0
      rw [a1,a2,a3]
      simp
    rw [T.dgF_next hd hst]
    have hlt:j<s.size:=T.dig_lt hd
    have:=ih (j+1) (by omega) (by omega) (by omega) (by omega)
    refine ⟨?_,this.2⟩
    rw [this.1]
    obtain ⟨m,hm⟩:∃ m,L-(j-p)=m+1:=⟨L-(j-p)-1,by omega⟩
    rw [hm,show L-(j+1-p)=m from by omega]
    simp only [nmF];rw [zbC,hd];rfl
theorem zcO (s:ByteArray) (p:Nat):∀ n j,p<=j->j-p<=32->j<=s.size->s.size-j+1<=n ->
 (T.dgF s 32 50 false p n j).2=btF s false (32-(j-p)) j/\((T.dgF s 32 50 false p n j).1=true↔T.dig (T.ch s (T.dgF s 32 50 false p n j).2)=false):=by
 intro n
 induction n with
 | zero=>intro j h1 h2 h3 h4;omega
 | succ n ih =>
  intro j h1 h2 h3 h4
  cases hd:T.dig (T.ch s j) with
  | false =>
   rw [T.dgF_end hd]
   refine ⟨?_,by simp [hd]⟩
   have hb:bit (T.ch s j)=false:=by
    cases hb:bit (T.ch s j) with
    | false=>rfl
    | true=>simp [bit] at hb;unfold T.dig at hd;simp at hd;omega
   cases hm:32-(j-p) with
   | zero=>rfl
   | succ m=>simp only [btF];rw [Jl,hb];rfl
  | true =>
   have hc:=(Yk _).1 hd
   by_cases hi:j-p=32
   ·have hst:T.stp 32 50 false (T.ch s j) ((j:Int)-p) (T.ch s p)=true:=by
     unfold T.stp
     have:(j:Int)-p=32:=by omega
     simp [this]
    rw [T.dgF_stop hd hst]
    refine ⟨?_,by simp [hd]⟩
    rw [show 32-(j-p)=0 from by omega];rfl
   ·obtain ⟨m,hm⟩:∃ m,32-(j-p)=m+1:=⟨32-(j-p)-1,by omega⟩
    by_cases h2c:50<=T.ch s j
    ·have hst:T.stp 32 50 false (T.ch s j) ((j:Int)-p) (T.ch s p)=true:=by
      unfold T.stp;simp [h2c]
     rw [T.dgF_stop hd hst]
     refine ⟨?_,by simp [hd]⟩
     have hb:bit (T.ch s j)=false:=by unfold bit;simp;omega
     rw [hm]
     simp only [btF];rw [Jl,hb];rfl
    ·have hst:T.stp 32 50 false (T.ch s j) ((j:Int)-p) (T.ch s p)=false:=by
      unfold T.stp
      have a1:decide ((50:Int)<=T.ch s j)=false:=decide_eq_false h2c
      have a2:((j:Int)-p==32)=false:=beq_eq_false_iff_ne.2 (by omega)
      rw [a1,a2];rfl
     rw [T.dgF_next hd hst]
     have hlt:j<s.size:=T.dig_lt hd
     have:=ih (j+1) (by omega) (by omega) (by omega) (by omega)
     refine ⟨?_,this.2⟩
     have hb:bit (T.ch s j)=true:=by unfold bit;simp;omega
     rw [this.1,hm,show 32-(j+1-p)=m from by omega]
     simp only [btF];rw [Jl,hb];rfl
theorem zk (s:ByteArray) (k:Nat):zb s k false=T.sk s k:=by unfold zb;rw [if_neg (by decide)]
theorem zbd {s:ByteArray} {k:Nat} (hk:k<=s.size):(T.dg s 9 58 true (T.sk s k)).2=zm s k false/\((T.dg s 9 58 true (T.sk s k)).1=true↔T.dig (T.ch s (zm s k false))=false):=by
 have hp:=T.sk_le hk
 have h:=zcN s (T.sk s k) _ rfl (s.size-T.sk s k+1) (T.sk s k) (Nat.le_refl _) (by omega) hp (Nat.le_refl _)
 have e:zm s k false=(T.dg s 9 58 true (T.sk s k)).2:=by
  unfold T.dg
  rw [h.1]
  unfold zm nmE nmL
  rw [zk,Nat.sub_self,Nat.sub_zero,yM]
  by_cases hlt:T.sk s k<s.size
  ·rw [if_pos hlt]
  ·rw [if_neg hlt,T.ch_ge hlt];rfl
 refine ⟨e.symm,?_⟩
 rw [e]
 exact h.2
theorem zdG {s:ByteArray} {k:Nat} (hk:k<=s.size):(T.dg s 32 50 false (T.sk s k)).2=btK s k false/\((T.dg s 32 50 false (T.sk s k)).1=true↔T.dig (T.ch s (btK s k false))=false):=by
 have hp:=T.sk_le hk
 have h:=zcO s (T.sk s k) (s.size-T.sk s k+1) (T.sk s k) (Nat.le_refl _) (by omega) hp (Nat.le_refl _)
 have e:btK s k false=(T.dg s 32 50 false (T.sk s k)).2:=by
  unfold T.dg
  rw [h.1]
  unfold btK
  rw [zk,Nat.sub_self,Nat.sub_zero]
 refine ⟨e.symm,?_⟩
 rw [e]
 exact h.2
theorem Qo (a:ByteArray):∀ (n i:Nat) (r:List UInt8),a.size-i=n->ByteArray.toList.loop a i r=r.reverse++a.data.toList.drop i:=by
 intro n
 induction n with
 | zero =>
  intro i r h
  rw [ByteArray.toList.loop,if_neg (by omega),List.drop_eq_nil_of_le (by simp;show a.size<=i;omega)]
  simp
 | succ n ih =>
  intro i r h
  have hlt:i<a.size:=by omega
  have hlt2:i<a.data.toList.length:=by simp;exact hlt
  rw [ByteArray.toList.loop,if_pos hlt,ih (i+1) _ (by omega),List.drop_eq_getElem_cons hlt2]
  simp [ByteArray.get!,hlt]
theorem Xy (a:ByteArray):a.toList=a.data.toList:=by
 unfold ByteArray.toList
 rw [Qo a (a.size-0) 0 [] rfl]
 simp
theorem YC (a b:ByteArray):(a.toList==b.toList)=true↔a.size=b.size/\∀ i,i<a.size->T.ch a i=T.ch b i:=by
 rw [beq_iff_eq,Xy,Xy]
 constructor
 ·intro h
  have hs:a.size=b.size:=by
   have:=congrArg List.length h
   simpa using this
  refine ⟨hs,fun i hi=>?_⟩
  rw [T.ch_lt hi,T.ch_lt (by omega)]
  have h1:a.data.toList[i]?=b.data.toList[i]?:=by rw [h]
  have h2:a.data.toList[i]?=some a[i]:=List.getElem?_eq_getElem (l:=a.data.toList) (by simpa using hi)
  have h3:b.data.toList[i]?=some (b[i]'(by omega)):=List.getElem?_eq_getElem (l:=b.data.toList) (by simpa using (show i<b.size by omega))
  rw [h2,h3] at h1
  have h4:a[i]=b[i]'(by omega):=Option.some.inj h1
  rw [h4]
 ·rintro ⟨hs,h⟩
  apply List.ext_getElem
  ·simpa using hs
  ·intro i h1 h2
   have hi:i<a.size:=by simpa using h1
   have hj:i<b.size:=by simpa using h2
   have:=h i hi
   rw [T.ch_lt hi,T.ch_lt hj] at this
   have h5:a[i].toNat=b[i].toNat:=by omega
   have h6:a[i]=b[i]:=UInt8.toNat_inj.1 h5
   exact h6
structure Xl (t:ByteArray) (v:Int):Prop where
 dg:T.digs t
 lo:1<=t.size
 hi:t.size<=9
 zr:t.size=1\/T.ch t 0≠48
 vl:T.val t t.size=v
structure zb6 (t:ByteArray) (pv pl:Int):Prop where
 bt:∀ i,i<t.size->T.ch t i=48\/T.ch t i=49
 lo:1<=t.size
 hi:t.size<=32
 pl:pl=t.size
 pv:pv=bv t 0 t.size*2 ^ (32-t.size)
structure Q7 (t:ByteArray) (v:Int):Prop where
 sz:t.size=1
 vl:T.ch t 0=v
theorem Jr (a b:ByteArray):∀ n,(∀ i,i<n->T.ch a i=T.ch b i)->T.val a n=T.val b n:=by
 intro n
 induction n with
 | zero=>intro _;rfl
 | succ n ih=>intro h;simp only [T.val];rw [ih (fun i hi=>h i (by omega)),h n (by omega)]
theorem zcb {a b:ByteArray} (ha:T.digs a) (hb:T.digs b):∀ n,n<=a.size->n<=b.size->T.val a n=T.val b n->∀ i,i<n->T.ch a i=T.ch b i:=by
 intro n
 induction n with
 | zero=>intro _ _ _ i hi;omega
 | succ n ih =>
  intro h1 h2 h i hi
  simp only [T.val] at h
  have d1:=ha n (by omega)
  have d2:=hb n (by omega)
  have e:T.val a n=T.val b n:=by omega
  by_cases hin:i=n
  ·subst hin;omega
  ·exact ih (by omega) (by omega) e i (by omega)
theorem zca {a:ByteArray} (ha:T.digs a) (h0:T.ch a 0≠48):∀ n,n+1<=a.size->(10:Int) ^ n<=T.val a (n+1):=by
 intro n
 induction n with
 | zero=>intro h;have:=ha 0 (by omega);simp [T.val];omega
 | succ n ih =>
  intro h
  have h1:=ih (by omega)
  have h2:=ha (n+1) (by omega)
  show (10:Int) ^ (n+1)<=T.val a (n+1)*10+(T.ch a (n+1)-48)
  rw [Int.pow_succ]
  omega
theorem jm {m n:Nat} (h:m<=n):(10:Int) ^ m<=10 ^ n:=by
 induction n with
 | zero =>
  have:m=0:=by omega
  subst this;exact Int.le_refl _
 | succ n ih =>
  by_cases e:m=n+1
  ·subst e;exact Int.le_refl _
  ·have:=ih (by omega)
   have h0:(0:Int)<10 ^ n:=Int.pow_pos (by decide)
   rw [Int.pow_succ]
   omega
theorem QF {a b:ByteArray} {v:Int} (ha:Xl a v) (hb:Xl b v):a.size<=b.size:=by
 rcases ha.zr with h | h
 ·have:=hb.lo;omega
 ·by_cases hle:a.size<=b.size
  ·exact hle
  ·exfalso
   have h1:=zca ha.dg h (a.size-1) (by have:=ha.lo;omega)
   rw [show a.size-1+1=a.size from by have:=ha.lo;omega,ha.vl] at h1
   have h2:=(T.val_bd hb.dg b.size (Nat.le_refl _)).2
   rw [hb.vl] at h2
   have h3:=jm (m:=b.size) (n:=a.size-1) (by omega)
   omega
theorem zbc {a b:ByteArray} {v u:Int} (ha:Xl a v) (hb:Xl b u):(a.toList==b.toList)=true↔v=u:=by
 rw [YC]
 constructor
 ·rintro ⟨hs,h⟩
  rw [<- ha.vl,<- hb.vl,<- hs]
  exact Jr a b _ h
 ·intro h
  subst h
  have hs:a.size=b.size:=Nat.le_antisymm (QF ha hb) (QF hb ha)
  refine ⟨hs,zcb ha.dg hb.dg a.size (Nat.le_refl _) (by omega) ?_⟩
  rw [ha.vl,hs,hb.vl]
theorem zbI (a b:ByteArray):∀ n,(∀ i,i<n->T.ch a i=T.ch b i)->bv a 0 n=bv b 0 n:=by
 intro n
 induction n with
 | zero=>intro _;rfl
 | succ n ih=>intro h;simp only [bv];rw [ih (fun i hi=>h i (by omega)),Nat.zero_add,h n (by omega)]
theorem zdD {a b:ByteArray} (ha:∀ i,i<a.size->T.ch a i=48\/T.ch a i=49) (hb:∀ i,i<b.size->T.ch b i=48\/T.ch b i=49):∀ n,n<=a.size->n<=b.size->bv a 0 n=bv b 0 n->∀ i,i<n->T.ch a i=T.ch b i:=by
 intro n
 induction n with
 | zero=>intro _ _ _ i hi;omega
 | succ n ih =>
  intro h1 h2 h i hi
  simp only [bv,Nat.zero_add] at h
  have d1:=ha n (by omega)
  have d2:=hb n (by omega)
  have e:bv a 0 n=bv b 0 n:=by omega
  by_cases hin:i=n
  ·subst hin;omega
  ·exact ih (by omega) (by omega) e i (by omega)
theorem zbO {a b:ByteArray} {v l v' l':Int} (ha:zb6 a v l) (hb:zb6 b v' l'):(a.toList==b.toList)=true↔v=v'/\l=l':=by
 rw [YC]
 constructor
 ·rintro ⟨hs,h⟩
  refine ⟨?_,by rw [ha.pl,hb.pl,hs]⟩
  rw [ha.pv,hb.pv,<- hs,zbI a b _ h]
 ·rintro ⟨h1,h2⟩
  have hs:a.size=b.size:=by have e1:=ha.pl;have e2:=hb.pl;omega
  refine ⟨hs,zdD ha.bt hb.bt a.size (Nat.le_refl _) (by omega) ?_⟩
  have e:=h1
  rw [ha.pv,hb.pv,<- hs] at e
  rw [hs] at e ⊢
  exact Int.eq_of_mul_eq_mul_right (Int.ne_of_gt (Int.pow_pos (by decide))) e
theorem zbg {a b:ByteArray} {v u:Int} (ha:Q7 a v) (hb:Q7 b u):(a.toList==b.toList)=true↔v=u:=by
 rw [YC]
 have h1:=ha.sz
 have h2:=hb.sz
 constructor
 ·rintro ⟨_,h⟩
  rw [<- ha.vl,<- hb.vl];exact h 0 (by omega)
 ·intro h
  refine ⟨by omega,fun i hi=>?_⟩
  have:i=0:=by omega
  subst this
  rw [ha.vl,hb.vl,h]
theorem Qm (s:ByteArray) (p e:Nat) (he:e<=s.size):∀ n,n<=e-p->T.val (s.extract p e) n=vl s p n:=by
 intro n
 induction n with
 | zero=>intro _;rfl
 | succ n ih=>intro h;simp only [T.val,vl];rw [ih (by omega),T.ch_extract s p e n he (by omega)]
theorem jN (s:ByteArray) (p e:Nat) (he:e<=s.size):∀ n,n<=e-p->bv (s.extract p e) 0 n=bv s p n:=by
 intro n
 induction n with
 | zero=>intro _;rfl
 | succ n ih=>intro h;simp only [bv];rw [ih (by omega),Nat.zero_add,T.ch_extract s p e n he (by omega)]
theorem zbb {s:ByteArray} {k:Nat} (hk:k<=s.size) (h:T.sk s k<zm s k false):Xl (s.extract (T.sk s k) (zm s k false)) (zI s k false):=by
 have hp:=T.sk_le hk
 have he:=zZ (b:=false) hk
 have hd:=zbd hk
 have ha:=T.dg_all s 9 58 true (T.sk s k) hp (by decide)
 rw [hd.1] at ha
 have hsz:=T.size_extract s (T.sk s k) (zm s k false) he
 refine ⟨ha.1,by omega,by omega,?_,?_⟩
 ·by_cases h0:T.ch s (T.sk s k)=48
  ·left
   have:zm s k false<=T.sk s k+1:=by
    unfold zm nmE nmL
    rw [zk,yM,if_pos (by omega)]
    exact jt s false 1 _
   omega
  ·right
   rw [T.ch_extract s _ _ 0 he (by omega)]
   simpa using h0
 ·rw [hsz,Qm s _ _ he _ (Nat.le_refl _)]
  unfold zI
  rw [zk]
theorem X4 (s:ByteArray):∀ n j i,j<=i->i<btF s false n j->bit (T.ch s i)=true:=by
 intro n
 induction n with
 | zero=>intro j i h1 h2;simp only [btF] at h2;omega
 | succ n ih =>
  intro j i h1 h2
  simp only [btF] at h2
  split at h2
  ·next hb =>
   by_cases e:i=j
   ·subst e;rw [Jl] at hb;exact hb
   ·exact ih (j+1) i (by omega) h2
  ·omega
theorem zbN {s:ByteArray} {k:Nat} (hk:k<=s.size) (h:T.sk s k<btK s k false):zb6 (s.extract (T.sk s k) (btK s k false)) (btV s k false) (btL s k false):=by
 have he:=Y7 (b:=false) hk
 have hsz:=T.size_extract s (T.sk s k) (btK s k false) he
 have hup:=(Xc s false 32 (zb s k false) (zK hk)).2.2
 have hbl:btL s k false=btK s k false-T.sk s k:=by unfold btL;rw [zk]
 have hbk:btK s k false<=T.sk s k+32:=by unfold btK;rw [zk] at *;exact hup
 refine ⟨fun i hi=>?_,by omega,by omega,by rw [hbl,hsz],?_⟩
 ·rw [T.ch_extract s _ _ i he (by omega)]
  have:=X4 s 32 (T.sk s k) (T.sk s k+i) (by omega) (by
   have:btK s k false=btF s false 32 (T.sk s k):=by unfold btK;rw [zk]
   omega)
  simpa [bit] using this
 ·rw [hsz,jN s _ _ he _ (Nat.le_refl _)]
  unfold btV
  rw [zk,hbl]
theorem YH {one two:Nat->FR->Option PR} (h:∀ k f q,one k f=some q->two k f=some q):∀ (l:List FR) (k:Nat) (q:PR),pL one k l=some q->pL two k l=some q:=by
 intro l
 induction l with
 | nil=>intro k q hq;exact hq
 | cons f r ih =>
  intro k q hq
  simp only [pL] at hq ⊢
  cases ha:one k f with
  | none=>rw [ha] at hq;simp at hq
  | some a =>
   rw [ha] at hq
   rw [h k f a ha]
   simp only at hq ⊢
   split at hq
   ·next hok =>
    rw [if_pos hok]
    cases hb:pL one a.at_ r with
    | none=>rw [hb] at hq;simp at hq
    | some b=>rw [hb] at hq;rw [ih _ _ hb];exact hq
   ·next hok=>rw [if_neg hok];exact hq
theorem za4 (s:ByteArray):∀ (N k:Nat) (f:FR) (q:PR),pF s N k f=some q->pF s (N+1) k f=some q:=by
 intro N
 induction N with
 | zero=>intro k f q h;simp [pF] at h
 | succ N ih =>
  intro k f q h
  rw [pF] at h ⊢
  split at h
  ·next hok =>
   rw [if_pos hok]
   cases hb:pL (pF s N) (zl s k f).at_ (zl s k f).push with
   | none=>rw [hb] at h;simp at h
   | some b=>rw [hb] at h;rw [YH (ih) _ _ _ hb];exact h
  ·next hok=>rw [if_neg hok];exact h
theorem YI (s:ByteArray) {N M:Nat} (h:N<=M) {k:Nat} {f:FR} {q:PR} (hq:pF s N k f=some q):pF s M k f=some q:=by
 induction M with
 | zero =>
  have:N=0:=by omega
  subst this;exact hq
 | succ M ih =>
  by_cases e:N=M+1
  ·subst e;exact hq
  ·exact za4 s M k f q (ih (by omega))
def Par (s:ByteArray) (k:Nat) (l:List FR) (ok:Bool) (a:Nat) (sg:List SG):Prop:=∃ N n,pL (pF s N) k l=some ⟨ok,a,sg,n⟩
def zN (s:ByteArray) (k:Nat) (l:List FR) (a:Nat):Prop:=∃ sg,Par s k l false a sg
theorem Par.nil (s:ByteArray) (k:Nat):Par s k [] true k []:=⟨0,0,rfl⟩
theorem za3 {one:Nat->FR->Option PR} {k:Nat} {f:FR} {q:PR} (h:one k f=some q):∃ n,pL one k [f]=some ⟨q.ok,q.at_,q.sg,n⟩:=by
 obtain ⟨ok,a,sg,n⟩:=q
 simp only [pL,h]
 cases ok with
 | true=>exact ⟨n+0,by simp⟩
 | false=>exact ⟨n,by simp⟩
theorem j7 {one:Nat->FR->Option PR} {k:Nat} {f:FR} {ok:Bool} {a n:Nat} {sg:List SG} (h:pL one k [f]=some ⟨ok,a,sg,n⟩):∃ n',one k f=some ⟨ok,a,sg,n'⟩:=by
 simp only [pL] at h
 cases ha:one k f with
 | none=>rw [ha] at h;simp at h
 | some q =>
  rw [ha] at h
  obtain ⟨ok',a',sg',n'⟩:=q
  cases ok' with
  | true=>simp at h;obtain ⟨rfl,rfl,rfl,_⟩:=h;exact ⟨n',rfl⟩
  | false=>simp at h;obtain ⟨rfl,rfl,rfl,rfl⟩:=h;exact ⟨n',rfl⟩
theorem Par.cons {s:ByteArray} {k a b:Nat} {f:FR} {fs:List FR} {ok:Bool} {sg1 sg2:List SG} (h1:Par s k [f] true a sg1) (h2:Par s a fs ok b sg2):Par s k (f::fs) ok b (sg2++sg1):=by
 obtain ⟨N1,n1,h1⟩:=h1
 obtain ⟨N2,n2,h2⟩:=h2
 obtain ⟨n1',h1'⟩:=j7 h1
 refine ⟨N1+N2,n1'+n2,?_⟩
 have e1:=YI s (M:=N1+N2) (by omega) h1'
 have e2:=YH (fun k f q h=>YI s (M:=N1+N2) (by omega) h) _ _ _ h2
 simp only [pL,e1,e2]
 simp
theorem Par.cons_no {s:ByteArray} {k a:Nat} {f:FR} {fs:List FR} {sg:List SG} (h1:Par s k [f] false a sg):Par s k (f::fs) false a sg:=by
 obtain ⟨N1,n1,h1⟩:=h1
 obtain ⟨n1',h1'⟩:=j7 h1
 exact ⟨N1,n1',by simp only [pL,h1'];simp⟩
theorem zN.cons {s:ByteArray} {k a:Nat} {f:FR} {fs:List FR} (h1:zN s k [f] a):zN s k (f::fs) a:=by
 obtain ⟨sg,h⟩:=h1;exact ⟨sg,h.cons_no⟩
theorem zN.after {s:ByteArray} {k a b:Nat} {f:FR} {fs:List FR} {sg1:List SG} (h1:Par s k [f] true a sg1) (h2:zN s a fs b):zN s k (f::fs) b:=by
 obtain ⟨sg,h⟩:=h2;exact ⟨_,h1.cons h⟩
theorem Par.step {s:ByteArray} {k b:Nat} {f:FR} {ok:Bool} {sg2:List SG} (h:(zl s k f).ok=true) (h2:Par s (zl s k f).at_ (zl s k f).push ok b sg2):Par s k [f] ok b (sg2++(zl s k f).sg):=by
 obtain ⟨N,n,h2⟩:=h2
 have:pF s (N+1) k f=some ⟨ok,b,sg2++(zl s k f).sg,n+1⟩:=by rw [pF,if_pos h,h2]
 obtain ⟨n',h'⟩:=za3 this
 exact ⟨N+1,n',h'⟩
theorem zN.step {s:ByteArray} {k b:Nat} {f:FR} (h:(zl s k f).ok=true) (h2:zN s (zl s k f).at_ (zl s k f).push b):zN s k [f] b:=by
 obtain ⟨sg,h2⟩:=h2;exact ⟨_,Par.step h h2⟩
theorem zN.stop {s:ByteArray} {k:Nat} {f:FR} (h:(zl s k f).ok=false):zN s k [f] (zl s k f).at_:=by
 have:pF s 1 k f=some ⟨false,(zl s k f).at_,[],1⟩:=by rw [pF,if_neg (by rw [h];decide)]
 obtain ⟨n',h'⟩:=za3 this
 exact ⟨[],1,n',h'⟩
theorem Par.det {s:ByteArray} {k a b N n:Nat} {l:List FR} {ok ok':Bool} {sg sg':List SG} (h1:Par s k l ok a sg) (h2:pL (pF s N) k l=some ⟨ok',b,sg',n⟩):ok=ok'/\a=b/\sg=sg':=by
 obtain ⟨M,m,h1⟩:=h1
 have e1:=YH (fun k f q h=>YI s (M:=N+M) (by omega) h) _ _ _ h1
 have e2:=YH (fun k f q h=>YI s (M:=N+M) (by omega) h) _ _ _ h2
 rw [e1] at e2
 simp at e2
 exact ⟨e2.1,e2.2.1,e2.2.2.1⟩
def X8 (s:ByteArray) (k:Nat) (b:Bool):Prop:=b=true\/T.dig (T.ch s k)=true
theorem Zp {s:ByteArray} {k:Nat} {b:Bool} (h:X8 s k b):zb s k b=k:=by
 cases b with
 | true=>rfl
 | false =>
  rw [zk]
  rcases h with h | h
  ·cases h
  ·have:=(Yk _).1 h
   refine T.sk_here ?_
   unfold T.bl
   simp
   omega
theorem x9 {s:ByteArray} {k:Nat} {b:Bool} (h:X8 s k b):ze s k b=0\/(48<=ze s k b/\ze s k b<=57):=by
 cases b with
 | true=>left;simp [ze]
 | false =>
  right
  rcases h with h | h
  ·cases h
  ·have:=(Yk _).1 h
   have hlt:=T.dig_lt h
   rw [yM,if_pos hlt]
   exact this
theorem yd {s:ByteArray} {k:Nat} {b:Bool} {c:Int} (h:X8 s k b) (hc:c≠0) (hc2:c<48\/57<c):zU s c k b=false/\zc s c k b=k/\zj s c k b=true:=by
 have h1:zU s c k b=false:=by
  unfold zU
  rw [Zp h,beq_eq_false_iff_ne]
  rcases x9 h with h | h<;>omega
 refine ⟨h1,?_,?_⟩
 ·unfold zc;rw [if_neg (by rw [h1];decide),Zp h]
 ·unfold zj;rw [if_neg (by rw [h1];decide)]
theorem QS {s:ByteArray} {k:Nat} {b:Bool} (h:X8 s k b):zO s k b=k/\zT s k b=true:=by
 have h1:Yg s k b=false:=by
  unfold Yg
  rw [Zp h]
  rcases x9 h with h | h
  ·simp [h]
  ·have:¬ 97<=ze s k b:=by omega
   simp [this]
 exact ⟨by unfold zO;rw [if_neg (by rw [h1];decide),Zp h],by unfold zT;rw [if_neg (by rw [h1];decide)]⟩
theorem qw {s:ByteArray} {rs:List RL} {n m k:Nat} {d:Int} {b:Bool} (h:X8 s k b):cE s rs n d m k b=⟨-1,[],k,true⟩:=by
 cases n with
 | zero=>simp only [cE,Zp h]
 | succ n =>
  have h1:isK (ze s (zb s k b) b)=false:=by
   rw [Zp h]
   rcases x9 h with h | h
   ·rw [h];rfl
   ·unfold isK;simp;omega
  rw [QV n d m k b h1,Zp h]
theorem Jm (s:ByteArray) (k:Nat):zm s k true=k/\zu s k true=true:=by
 refine ⟨?_,XO rfl⟩
 unfold zm nmE nmL
 have:zb s k true=k:=rfl
 rw [this,Z7]
 simp [nmF,Z7,T.dig]
theorem xj {s:ByteArray} {k:Nat} {c:Int} (hc:0<c) (hc2:c<256) (h:zU s c k false=true):Par s k [byF c] true (zc s c k false) []/\zj s c k false=false:=by
 have h1:=Yt (by omega) h
 have hst:zl s k (byF c)=⟨true,T.sk s k+1,[],[]⟩:=by
  unfold zl byF
  simp only
  rw [if_neg (by omega),if_neg (by omega),if_neg (by omega),if_neg (by omega),if_neg (by omega),if_neg (by omega),if_neg (by omega),if_neg (by omega),if_pos h1.2.2]
 refine ⟨?_,by unfold zj;rw [if_pos h]⟩
 have e:zc s c k false=T.sk s k+1:=by unfold zc;rw [if_pos h,zk]
 have:=Par.step (s:=s) (k:=k) (f:=byF c) (ok:=true) (b:=T.sk s k+1) (sg2:=[]) (by rw [hst]) (by rw [hst];exact Par.nil _ _)
 rw [hst] at this
 rw [e];exact this
theorem zb9 {s:ByteArray} {k:Nat} {c:Int} (hc:0<c) (hc2:c<256) (h:zU s c k false=false):zN s k [byF c] (zc s c k false)/\zj s c k false=true:=by
 have hne:T.ch s (T.sk s k)≠c:=by
  unfold zU at h
  rw [zk,yM,beq_eq_false_iff_ne] at h
  by_cases hlt:T.sk s k<s.size
  ·rw [if_pos hlt] at h;exact h
  ·rw [T.ch_ge hlt];omega
 have hst:zl s k (byF c)=⟨false,T.sk s k,[],[]⟩:=by
  unfold zl byF
  simp only
  rw [if_neg (by omega),if_neg (by omega),if_neg (by omega),if_neg (by omega),if_neg (by omega),if_neg (by omega),if_neg (by omega),if_neg (by omega),if_neg hne]
 refine ⟨?_,by unfold zj;rw [if_neg (by rw [h];decide)]⟩
 have e:zc s c k false=T.sk s k:=by unfold zc;rw [if_neg (by rw [h];decide),zk]
 have:=zN.stop (s:=s) (k:=k) (f:=byF c) (by rw [hst])
 rw [hst] at this
 rw [e];exact this
theorem zcw {s:ByteArray} {k:Nat} (hk:k<=s.size) (kd d l:Int) :
 (Par s k [⟨261,kd,d,l⟩] true (zm s k false) [⟨kd,T.sk s k,d,l,s.extract (T.sk s k) (zm s k false)⟩]/\zu s k false=false/\T.sk s k<zm s k false) \/
 (zN s k [⟨261,kd,d,l⟩] (zm s k false)/\X8 s (zm s k false) (zu s k false)):=by
 have hd:=zbd hk
 have hge:T.sk s k<=zm s k false:=by have:=(qY s false (nmL s (zb s k false) false) (zb s k false) (zK hk)).1;rw [zk] at this;unfold zm nmE;rw [zk];exact this
 have hx:zu s k false=if zm s k false=T.sk s k then true else false:=by unfold zu;rw [zk]
 by_cases hok:((T.dg s 9 58 true (T.sk s k)).1 && decide (T.sk s k<(T.dg s 9 58 true (T.sk s k)).2))=true
 ·left
  have hst:zl s k ⟨261,kd,d,l⟩=⟨true,(T.dg s 9 58 true (T.sk s k)).2,[],[⟨kd,T.sk s k,d,l,s.extract (T.sk s k) (T.dg s 9 58 true (T.sk s k)).2⟩]⟩:=by
   unfold zl
   simp only
   rw [if_neg (by decide),if_neg (by decide),if_neg (by decide),if_neg (by decide),if_neg (by decide),if_pos trivial,if_pos hok]
  have hlt:T.sk s k<zm s k false:=by rw [<- hd.1];simp at hok;exact hok.2
  refine ⟨?_,by rw [hx,if_neg (by omega)],hlt⟩
  have:=Par.step (s:=s) (k:=k) (f:=⟨261,kd,d,l⟩) (ok:=true) (b:=(T.dg s 9 58 true (T.sk s k)).2) (sg2:=[]) (by rw [hst]) (by rw [hst];exact Par.nil _ _)
  rw [hst] at this
  rw [hd.1] at this
  exact this
 ·right
  have hst:zl s k ⟨261,kd,d,l⟩=⟨false,(T.dg s 9 58 true (T.sk s k)).2,[],[]⟩:=by
   unfold zl
   simp only
   rw [if_neg (by decide),if_neg (by decide),if_neg (by decide),if_neg (by decide),if_neg (by decide),if_pos trivial,if_neg hok]
  have:=zN.stop (s:=s) (k:=k) (f:=⟨261,kd,d,l⟩) (by rw [hst])
  rw [hst] at this
  simp only [hd.1] at this
  refine ⟨this,?_⟩
  by_cases he:zm s k false=T.sk s k
  ·left;rw [hx,if_pos he]
  ·right
   cases hg:T.dig (T.ch s (zm s k false)) with
   | true=>rfl
   | false=>exact absurd (by rw [hd.2.2 hg,hd.1];simp;omega) hok
theorem zcX {s:ByteArray} {k:Nat} (hk:k<=s.size) (kd d l:Int) :
 (Par s k [⟨262,kd,d,l⟩] true (btK s k false) [⟨kd,T.sk s k,d,l,s.extract (T.sk s k) (btK s k false)⟩]/\btX s k false=false/\T.sk s k<btK s k false) \/
 (zN s k [⟨262,kd,d,l⟩] (btK s k false)/\X8 s (btK s k false) (btX s k false)):=by
 have hd:=zdG hk
 have hge:T.sk s k<=btK s k false:=by have:=(Xc s false 32 (zb s k false) (zK hk)).1;rw [zk] at this;unfold btK;rw [zk];exact this
 have hx:btX s k false=if btK s k false=T.sk s k then true else false:=by unfold btX;rw [zk]
 by_cases hok:((T.dg s 32 50 false (T.sk s k)).1 && decide (T.sk s k<(T.dg s 32 50 false (T.sk s k)).2))=true
 ·left
  have hst:zl s k ⟨262,kd,d,l⟩=⟨true,(T.dg s 32 50 false (T.sk s k)).2,[],[⟨kd,T.sk s k,d,l,s.extract (T.sk s k) (T.dg s 32 50 false (T.sk s k)).2⟩]⟩:=by
   unfold zl
   simp only
   rw [if_neg (by decide),if_neg (by decide),if_neg (by decide),if_neg (by decide),if_neg (by decide),if_neg (by decide),if_pos trivial,if_pos hok]
  have hlt:T.sk s k<btK s k false:=by rw [<- hd.1];simp at hok;exact hok.2
  refine ⟨?_,by rw [hx,if_neg (by omega)],hlt⟩
  have:=Par.step (s:=s) (k:=k) (f:=⟨262,kd,d,l⟩) (ok:=true) (b:=(T.dg s 32 50 false (T.sk s k)).2) (sg2:=[]) (by rw [hst]) (by rw [hst];exact Par.nil _ _)
  rw [hst] at this
  rw [hd.1] at this
  exact this
 ·right
  have hst:zl s k ⟨262,kd,d,l⟩=⟨false,(T.dg s 32 50 false (T.sk s k)).2,[],[]⟩:=by
   unfold zl
   simp only
   rw [if_neg (by decide),if_neg (by decide),if_neg (by decide),if_neg (by decide),if_neg (by decide),if_neg (by decide),if_pos trivial,if_neg hok]
  have:=zN.stop (s:=s) (k:=k) (f:=⟨262,kd,d,l⟩) (by rw [hst])
  rw [hst] at this
  simp only [hd.1] at this
  refine ⟨this,?_⟩
  by_cases he:btK s k false=T.sk s k
  ·left;rw [hx,if_pos he]
  ·right
   cases hg:T.dig (T.ch s (btK s k false)) with
   | true=>rfl
   | false=>exact absurd (by rw [hd.2.2 hg,hd.1];simp;omega) hok
theorem zcB (s:ByteArray) (k:Nat) (kd d l:Int) :
 (Par s k [⟨263,kd,d,l⟩] true (zO s k false) [⟨kd,T.sk s k,d,l,s.extract (T.sk s k) (T.sk s k+1)⟩]/\zT s k false=false/\zO s k false=T.sk s k+1/\Q7 (s.extract (T.sk s k) (T.sk s k+1)) (ze s (zb s k false) false)) \/
 (zN s k [⟨263,kd,d,l⟩] (zO s k false)/\zT s k false=true):=by
 cases hb:Yg s k false with
 | true =>
  left
  have hlt:=(Xo hb).2
  rw [zk] at hlt
  have hch:ze s (zb s k false) false=T.ch s (T.sk s k):=by rw [zk,yM,if_pos hlt]
  have hc:97<=T.ch s (T.sk s k)/\T.ch s (T.sk s k)<=122:=by unfold Yg at hb;rw [hch] at hb;simpa using hb
  have hst:zl s k ⟨263,kd,d,l⟩=⟨true,T.sk s k+1,[],[⟨kd,T.sk s k,d,l,s.extract (T.sk s k) (T.sk s k+1)⟩]⟩:=by
   unfold zl
   simp only
   rw [if_neg (by decide),if_neg (by decide),if_neg (by decide),if_neg (by decide),if_neg (by decide),if_neg (by decide),if_neg (by decide),if_pos trivial,if_pos hc]
  have e:zO s k false=T.sk s k+1:=by unfold zO;rw [if_pos hb,zk]
  have:=Par.step (s:=s) (k:=k) (f:=⟨263,kd,d,l⟩) (ok:=true) (b:=T.sk s k+1) (sg2:=[]) (by rw [hst]) (by rw [hst];exact Par.nil _ _)
  rw [hst] at this
  refine ⟨by rw [e];exact this,by unfold zT;rw [if_pos hb],e,?_,?_⟩
  ·rw [T.size_extract s _ _ (by omega)];omega
  ·rw [T.ch_extract s _ _ 0 (by omega) (by omega),hch];rfl
 | false =>
  right
  have hc:¬ (97<=T.ch s (T.sk s k)/\T.ch s (T.sk s k)<=122):=by
   intro hc
   have hlt:=T.ch_nn (s:=s) (k:=T.sk s k) (by omega)
   unfold Yg at hb
   rw [zk,yM,if_pos hlt] at hb
   simp at hb
   omega
  have hst:zl s k ⟨263,kd,d,l⟩=⟨false,T.sk s k,[],[]⟩:=by
   unfold zl
   simp only
   rw [if_neg (by decide),if_neg (by decide),if_neg (by decide),if_neg (by decide),if_neg (by decide),if_neg (by decide),if_neg (by decide),if_pos trivial,if_neg hc]
  have:=zN.stop (s:=s) (k:=k) (f:=⟨263,kd,d,l⟩) (by rw [hst])
  rw [hst] at this
  have e:zO s k false=T.sk s k:=by unfold zO;rw [if_neg (by rw [hb];decide),zk]
  exact ⟨by rw [e];exact this,by unfold zT;rw [if_neg (by rw [hb];decide)]⟩
theorem Q0 (g:SG) (a b:List SG):Zq g (a++b)=Zq g a+Zq g b:=by
 induction a with
 | nil=>simp [Zq]
 | cons x r ih=>simp only [List.cons_append,Zq,ih];omega
theorem QZ (g:SG) (a b:List SG):Zx g (a++b)=(Zx g a || Zx g b):=by
 induction a with
 | nil=>simp [Zx]
 | cons x r ih =>
  simp only [List.cons_append,Zx,ih]
  cases Zx g r<;>cases Zx g b<;>simp
theorem zbQ (g:SG) (a:List SG):Zq g a.reverse=Zq g a:=by
 induction a with
 | nil=>rfl
 | cons x r ih=>rw [List.reverse_cons,Q0,ih];simp [Zq]
theorem zbP (g:SG) (a:List SG):Zx g a.reverse=Zx g a:=by
 induction a with
 | nil=>rfl
 | cons x r ih =>
  rw [List.reverse_cons,QZ,ih]
  simp [Zx]
theorem QY {g:SG} {l:List SG} (h:∀ x∈l,x.list≠g.list):Zq g l=0/\Zx g l=false:=by
 induction l with
 | nil=>exact ⟨rfl,rfl⟩
 | cons x r ih =>
  have h1:=ih (fun y hy=>h y (by simp [hy]))
  have h2:¬ (x.list=g.list/\x.kind=g.kind):=fun e=>h x (by simp) e.1
  simp only [Zq,Zx]
  rw [h1.1,h1.2,if_neg h2,decide_eq_false h2]
  simp
def Er (rs:List RL) (U:List SG) (g:SG) (err:Int):Prop :=
 (err=3/\g.kind=3/\12<=g.depth)\/(err=4/\g.list≠-1/\16<=Zq g U)\/(err=5/\g.kind=2/\yf (T.ch g.text 0) rs=-1)\/(err=6/\zP g.kind (T.val g.text g.text.size)=true)\/(err=7/\g.list≠-1/\Zx g U=true)
def FU (rs:List RL):List SG->List SG->Int->Int->Prop
 | _,[],_,_=>False
 | P,g::U,err,a=>(a=g.place/\Er rs P g err)\/FU rs (P++[g]) U err a
theorem zb1 (rs:List RL) (A B:List SG) (err a:Int):∀ P,FU rs P (A++B) err a↔FU rs P A err a\/FU rs (P++A) B err a:=by
 induction A with
 | nil=>intro P;simp [FU]
 | cons g r ih =>
  intro P
  simp only [List.cons_append,FU]
  rw [ih (P++[g]),List.append_assoc,List.singleton_append,or_assoc]
def FEx (e:EX) (err a:Int):Prop :=
 (12<=e.depth/\err=3/\a=e.at_)\/(e.kind=116/\(e.nv<1\/86400<e.nv)/\err=6/\a=e.na)\/(e.kind=64/\(e.nv<0\/15<e.nv)/\err=6/\a=e.na)\/(e.kind=61/\e.inner=-1/\err=5/\a=e.na)
def FIm (c:Int) (pre:List IM) (x:IM) (err a:Int):Prop :=
 (16<=pre.length/\err=4/\a=x.at_)\/(pre.any (fun y=>yo y x)=true/\err=7/\a=x.at_)\/((c=123\/c=102\/c=119)/\(x.num<0\/63<x.num)/\err=6/\a=x.at_)\/(c=119/\(x.wv<1\/1000<x.wv)/\err=6/\a=x.wa)\/(c=103/\(x.num<0\/99<x.num)/\err=6/\a=x.at_)
def FIs (c:Int):List IM->List IM->Int->Int->Prop
 | _,[],_,_=>False
 | pre,x::l,err,a=>FIm c pre x err a\/FIs c (pre++[x]) l err a
def FE (es:List EX) (err a:Int):Prop:=∃ e∈es,FEx e err a\/FIs e.kind [] e.items err a
theorem xg (es fs:List EX) (err a:Int):FE (es++fs) err a↔FE es err a\/FE fs err a:=by
 unfold FE
 constructor
 ·rintro ⟨e,he,h⟩
  rcases List.mem_append.1 he with he | he
  ·exact .inl ⟨e,he,h⟩
  ·exact .inr ⟨e,he,h⟩
 ·rintro (⟨e,he,h⟩ | ⟨e,he,h⟩)
  ·exact ⟨e,List.mem_append_left _ he,h⟩
  ·exact ⟨e,List.mem_append_right _ he,h⟩
theorem zb3 (err a:Int):¬ FE [] err a:=fun ⟨_,h,_⟩=>by simp at h
theorem Xd (e:EX) (err a:Int):FE [e] err a↔FEx e err a\/FIs e.kind [] e.items err a:=by
 unfold FE;simp
def mk (c:Int):Int:=if c=103 then 7 else if c=109 then 9 else 4
structure GX (c p:Int) (g:SG) (x:IM):Prop where
 li:g.list=p
 ki:g.kind=mk c
 pl:g.place=x.at_
 tx:(c=109/\x.num=0/\zb6 g.text x.pv x.pl)\/(c≠109/\Xl g.text x.num/\x.pv=0/\x.pl=0)
theorem GX.same {c p:Int} {g h:SG} {x y:IM} (a:GX c p g x) (b:GX c p h y):(g.text.toList==h.text.toList)=yo x y:=by
 rw [Bool.eq_iff_iff]
 unfold yo
 rcases a.tx with ⟨a0,a1,a2⟩ | ⟨a0,a1,a2,a3⟩
 ·rcases b.tx with ⟨b0,b1,b2⟩ | ⟨b0,_⟩
  ·rw [zbO a2 b2]
   simp [a1,b1]
  ·exact absurd a0 b0
 ·rcases b.tx with ⟨b0,_⟩ | ⟨b0,b1,b2,b3⟩
  ·exact absurd b0 a0
  ·rw [zbc a1 b1]
   simp [a2,a3,b2,b3]
def Cor (c p:Int) (P:List SG) (pre:List IM):Prop:=∀ g x,GX c p g x->Zq g P=pre.length/\Zx g P=pre.any (fun y=>yo y x)
theorem Cor.nil {c p:Int} {P:List SG} (h:∀ x∈P,x.list≠p):Cor c p P []:=fun g x hg=>by
 have:=QY (g:=g) (l:=P) (fun y hy=>by rw [hg.li];exact h y hy)
 simp [this.1,this.2]
theorem Cor.step {c p:Int} {P rest:List SG} {pre:List IM} {g0:SG} {x0:IM} (h:Cor c p P pre) (hg:GX c p g0 x0) (hr:∀ x∈rest,x.list≠p):Cor c p (P++g0::rest) (pre++[x0]):=fun g x hx=>by
 have h1:=h g x hx
 have h2:=QY (g:=g) (l:=rest) (fun y hy=>by rw [hx.li];exact hr y hy)
 have e1:g0.list=g.list/\g0.kind=g.kind:=⟨by rw [hg.li,hx.li],by rw [hg.ki,hx.ki]⟩
 constructor
 ·rw [Q0,h1.1]
  simp only [Zq,h2.1,if_pos e1]
  simp
 ·rw [QZ,h1.2]
  simp only [Zx,h2.2,decide_eq_true e1,hg.same hx]
  simp
def KD (g:SG):Prop:=g.kind≠1/\(g.kind=2->g.text.size=1)
theorem KD.of {g:SG} (h1:g.kind≠1) (h2:g.kind≠2):KD g:=⟨h1,fun h=>absurd h h2⟩
structure GU (rs:List RL) (k k':Nat) (U:List SG) (es:List EX):Prop where
 wl:∀ g∈U,(k:Int)<=g.place/\g.place<k'/\(g.list=-1\/((k:Int)<=g.list/\g.list<k'))/\KD g
 st:U.Pairwise (fun a b=>a.place<b.place)
 fu:∀ P,(∀ x∈P,x.list<(k:Int))->∀ err a,FU rs P U err a↔FE es err a
structure GI (rs:List RL) (c p:Int) (k k':Nat) (U:List SG) (es:List EX) (ims:List IM):Prop where
 wl:∀ g∈U,(k:Int)<=g.place/\g.place<k'/\(g.list=-1\/g.list=p\/((k:Int)<=g.list/\g.list<k'))/\KD g
 st:U.Pairwise (fun a b=>a.place<b.place)
 fu:∀ P pre,(∀ x∈P,x.list<(k:Int))->Cor c p P pre->∀ err a,FU rs P U err a↔FE es err a\/FIs c pre ims err a
structure G1 (rs:List RL) (c p:Int) (k k':Nat) (g0:SG) (rest:List SG) (es:List EX) (x:IM):Prop where
 gx:GX c p g0 x
 w0:(k:Int)<=g0.place/\g0.place<k'
 wl:∀ g∈rest,g0.place<g.place/\g.place<k'/\(g.list=-1\/((k:Int)<=g.list/\g.list<k'))/\KD g
 st:rest.Pairwise (fun a b=>a.place<b.place)
 fu:∀ P pre,(∀ x∈P,x.list<(k:Int))->Cor c p P pre->∀ err a,FU rs P (g0::rest) err a↔FE es err a\/FIm c pre x err a
theorem zbe (c:Int):mk c≠1/\mk c≠2/\mk c≠3:=by unfold mk;split<;>(try split)<;>decide
theorem Xl.nn {t:ByteArray} {v:Int} (h:Xl t v):0<=v:=by rw [<- h.vl];exact (T.val_bd h.dg _ (Nat.le_refl _)).1
theorem Ql {rs:List RL} {c p:Int} {P:List SG} {pre:List IM} {g:SG} {x:IM} (hp:p≠-1) (hg:GX c p g x) (hC:Cor c p P pre) (err:Int) :
 Er rs P g err↔(err=4/\16<=pre.length)\/(err=6/\zP (mk c) x.num=true)\/(err=7/\pre.any (fun y=>yo y x)=true):=by
 have h1:=hC g x hg
 have hk:=zbe c
 have hl:g.list≠-1:=by rw [hg.li];exact hp
 have hw:zP g.kind (T.val g.text g.text.size)=zP (mk c) x.num:=by
  rw [hg.ki]
  rcases hg.tx with ⟨a0,_⟩ | ⟨_,a1,_⟩
  ·subst a0;rfl
  ·rw [a1.vl]
 unfold Er
 rw [h1.1,h1.2,hw,hg.ki]
 constructor
 ·rintro (⟨_,h,_⟩ | ⟨h,_,h'⟩ | ⟨_,h,_⟩ | h | ⟨h,_,h'⟩)
  ·exact absurd h hk.2.2
  ·exact .inl ⟨h,h'⟩
  ·exact absurd h hk.2.1
  ·exact .inr (.inl h)
  ·exact .inr (.inr ⟨h,h'⟩)
 ·rintro (⟨h,h'⟩ | h | ⟨h,h'⟩)
  ·exact .inr (.inl ⟨h,hl,h'⟩)
  ·exact .inr (.inr (.inr (.inl h)))
  ·exact .inr (.inr (.inr (.inr ⟨h,hl,h'⟩)))
theorem YB {rs:List RL} {P:List SG} {g:SG} (hl:g.list=-1) (err:Int) :
 Er rs P g err↔(err=3/\g.kind=3/\12<=g.depth)\/(err=5/\g.kind=2/\yf (T.ch g.text 0) rs=-1)\/(err=6/\zP g.kind (T.val g.text g.text.size)=true):=by
 unfold Er
 constructor
 ·rintro (h | ⟨_,h,_⟩ | h | h | ⟨_,h,_⟩)
  ·exact .inl h
  ·exact absurd hl h
  ·exact .inr (.inl h)
  ·exact .inr (.inr h)
  ·exact absurd hl h
 ·rintro (h | h | h)
  ·exact .inl h
  ·exact .inr (.inr (.inl h))
  ·exact .inr (.inr (.inr (.inl h)))
theorem Yq (s:ByteArray) (k:Nat):T.sk s (T.sk s k)=T.sk s k:=T.sk_here (T.sk_bl s k)
def ExP (s:ByteArray) (rs:List RL) (ex:Int->Nat->Nat->Bool->CR) (n:Nat):Prop:=∀ d m k,0<=d->k<=s.size->s.size-k<n ->
 (∃ U,Par s k [⟨258,0,d,0⟩] true (ex d m k false).k U.reverse/\(ex d m k false).b=false/\0<=(ex d m k false).idx/\GU rs k (ex d m k false).k U (ex d m k false).es) \/
 (zN s k [⟨258,0,d,0⟩] (ex d m k false).k/\X8 s (ex d m k false).k (ex d m k false).b)
def ExD (s:ByteArray) (ex:Int->Nat->Nat->Bool->CR):Prop:=∀ d m k b,X8 s k b->ex d m k b=⟨-1,[],k,true⟩
def kf (c:Int):Int:=if c=119 then 10 else if c=109 then 9 else if c=103 then 7 else 4
theorem Z5 (s:ByteArray) (k:Nat) (kd d p:Int):zl s k ⟨259,kd,d,p⟩=⟨true,T.sk s k,Zh ⟨259,kd,d,p⟩,[]⟩:=by
 unfold zl
 simp only
 rw [if_neg (by decide),if_neg (by decide),if_neg (by decide),if_pos trivial]
theorem zbi {s:ByteArray} {k b:Nat} {kd d p:Int} {sg:List SG} (h:Par s (T.sk s k) (Zh ⟨259,kd,d,p⟩) true b sg):Par s k [⟨259,kd,d,p⟩] true b sg:=by
 have:=Par.step (s:=s) (k:=k) (f:=⟨259,kd,d,p⟩) (ok:=true) (b:=b) (sg2:=sg) (by rw [Z5]) (by rw [Z5];exact h)
 rw [Z5] at this
 simpa using this
theorem zcE {s:ByteArray} {k b:Nat} {kd d p:Int} (h:zN s (T.sk s k) (Zh ⟨259,kd,d,p⟩) b):zN s k [⟨259,kd,d,p⟩] b :=
 zN.step (s:=s) (k:=k) (f:=⟨259,kd,d,p⟩) (by rw [Z5]) (by rw [Z5];exact h)
theorem Qk {c:Int} (hc:yg c) (pre:List IM) (x:IM) (hx:0<=x.num) (err a:Int) :
 FIm c pre x err a↔(a=x.at_/\((err=4/\16<=pre.length)\/(err=6/\zP (mk c) x.num=true)\/(err=7/\pre.any (fun y=>yo y x)=true)))\/(c=119/\(x.wv<1\/1000<x.wv)/\err=6/\a=x.wa):=by
 unfold FIm
 generalize (pre.any (fun y=>yo y x))=Q
 rcases hc with rfl | rfl | rfl | rfl | rfl
 ·have e:(zP (mk 123) x.num=true)↔(x.num<0\/63<x.num):=by simp [mk,zP];omega
  rw [e];cases Q<;>simp<;>(constructor<;>intro h<;>omega)
 ·have e:(zP (mk 102) x.num=true)↔(x.num<0\/63<x.num):=by simp [mk,zP];omega
  rw [e];cases Q<;>simp<;>(constructor<;>intro h<;>omega)
 ·have e:(zP (mk 119) x.num=true)↔(x.num<0\/63<x.num):=by simp [mk,zP];omega
  rw [e];cases Q<;>simp<;>(constructor<;>intro h<;>omega)
 ·have e:(zP (mk 103) x.num=true)↔(x.num<0\/99<x.num):=by simp [mk,zP];omega
  rw [e];cases Q<;>simp<;>(constructor<;>intro h<;>omega)
 ·have e:(zP (mk 109) x.num=true)↔False:=by simp [mk,zP]
  rw [e];cases Q<;>simp<;>(constructor<;>intro h<;>omega)
end Go.Proofs.YtaebngpoagjafabGreat
