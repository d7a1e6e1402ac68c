import Derived.Test.YtaebngpoagjafabGreatAo
set_option maxRecDepth 100000
namespace Go.Proofs.YtaebngpoagjafabGreat
open Bool renaming true → F,false → N
namespace M
def p2:Nat->Int
 |0=>1
 |n+1=>p2 n*2
theorem p2_pos(n:Nat):0<p2 n:=by
 induction n with
 |zero=>decide
 |succ n ih=>simp only[p2];omega
theorem p2_mono{a b:Nat}(h:a<=b):p2 a<=p2 b:=by
 induction b with
 | zero =>
  have:a=0:=ol
  subst this;exact Int.le_refl _
 | succ b ih =>
  by_cases c:a=b+1
  ·subst c;exact Int.le_refl _
  ·have:=ih ol;have:=p2_pos b;simp only[p2];omega
theorem p2_32:p2 32=4294967296:=oq
theorem p2_le{j:Nat}(h:j<=32):p2 j<=4294967296:=by rw[<-p2_32];exact p2_mono h
theorem p2_succ(n:Nat):p2 (n+1)=p2 n*2:=rfl
def shN:Nat->Int->Int->Nat
 |0,_,_=>0
 |n+1,a,b=>if a=b then n+1 else shN n (a / 2) (b / 2)
def sh(a b:Int):Nat:=shN 32 a b
theorem shN_le(n:Nat):∀a b,shN n a b<=n:=by
 induction n with
 |zero=>intro a b;simp[shN]
 | succ n ih =>
  intro a b;simp only[shN];split
  ·exact Nat.le_refl _
  ·exact Nat.le_succ_of_le (ih _ _)
theorem sh_le(a b:Int):sh a b<=32:=shN_le 32 a b
theorem shN_iff(n:Nat):∀(a b:Int) (s:Nat),s<=n->0<=a->0<=b->a<p2 n->b<p2 n->(s<=shN n a b↔a / p2 (n-s)=b / p2 (n-s)):=by
 induction n with
 | zero =>
  intro a b s g k j e d;have i:p2 0=1:=rfl;rw[i]at e d;have:s=0:=ol
  subst this;have:a=0:=ol
  have:b=0:=ol
  subst a b;simp[shN]
 | succ n ih =>
  intro a b s g k j e d;simp only[p2_succ]at e d;simp only[shN];by_cases c:a=b
  ·subst c;simp[g]
  ·rw[if_neg c];by_cases f:s=n+1
   ·subst f;have:=shN_le n (a / 2) (b / 2)
    rw[Nat.sub_self];simp only[p2,Int.ediv_one];constructor
    ·intro h;omega
    ·intro h;exact absurd h c
   ·have l:=ih (a / 2) (b / 2) s ol ol ol ol ol;rw[l,Int.ediv_ediv_of_nonneg ol,Int.ediv_ediv_of_nonneg ol];have:n+1-s=(n-s)+1:=ol
    rw[this,p2_succ,Int.mul_comm 2]
def isA(n:Int):Bool:=decide (0<=n) && decide (n<4294967296)
theorem isA_iff{n:Int}:isA n=F↔0<=n/\n<4294967296:=by simp[isA]
def isP(v n:Int):Bool:=decide (0<=n) && decide (n<=32) && isA v && decide (v%p2 (32-n).toNat=0)
theorem isP_iff{v n:Int}:isP v n=F↔0<=n/\n<=32/\0<=v/\v<4294967296/\v%p2 (32-n).toNat=0:=by
 simp[isP,isA];omega
theorem p2_eq(n:Nat):p2 n=2 ^ n:=by
 induction n with
 |zero=>rfl
 |succ n ih=>rw[p2_succ,ih,Int.pow_succ]
def inTo(V L:Nat->Int)(v m:Int):Nat->Bool
 |0=>N
 |n+1=>inTo V L v m n || (V n==v && L n==m)
theorem inTo_iff{V L:Nat->Int}{v m:Int}{n:Nat}:inTo V L v m n=F↔∃i,i<n/\V i=v/\L i=m:=by
 induction n with
 |zero=>simp[inTo]
 | succ n ih =>
  simp only[inTo,Bool.or_eq_true,ih,Bool.and_eq_true,beq_iff_eq];constructor
  ·rintro(⟨i,h,b,a⟩|⟨b,a⟩)
   ·exact⟨i,ol,b,a⟩
   ·exact⟨n,ol,b,a⟩
  ·rintro⟨i,h,b,a⟩;by_cases c:i=n
   ·subst c;exact .inr ⟨b,a⟩
   ·exact .inl ⟨i,ol,b,a⟩
theorem inTo_hit{V L:Nat->Int}{v m:Int}{n k:Nat}(h:k<n)(b:V k=v)(a:L k=m):inTo V L v m n=F:=inTo_iff.2 ⟨k,h,b,a⟩
def okTo(V L:Nat->Int):Nat->Bool
 |0=>F
 |k+1=>okTo V L k && (isP (V k) (L k) && !inTo V L (V k) (L k) k)
def isMap(V L:Nat->Int)(n:Nat):Bool:=decide (n<=64) && okTo V L n
theorem okTo_iff{V L:Nat->Int}{n:Nat}:okTo V L n=F↔∀k,k<n->isP (V k) (L k)=F/\inTo V L (V k) (L k) k=N:=by
 induction n with
 |zero=>simp[okTo]
 | succ n ih =>
  simp only[okTo,Bool.and_eq_true,ih,Bool.not_eq_true'];constructor
  ·rintro⟨h,d,c⟩ k a;by_cases b:k=n
   ·subst b;exact⟨d,c⟩
   ·exact h k ol
  ·intro h;exact⟨λk a=>h k ol,h n ol⟩
theorem isMap_bad{V L:Nat->Int}{n k:Nat}(b:k<n)(h:isP (V k) (L k)=N\/inTo V L (V k) (L k) k=F):isMap V L n=N:=by
 rw[Bool.eq_false_iff];intro a;simp only[isMap,Bool.and_eq_true]at a;have:=okTo_iff.1 a.2 k b
 rcases h with h|h
 ·rw[this.1]at h;cases h
 ·rw[this.2]at h;cases h
end M
section
namespace M
section
variable (V L:Nat->Int) (a:Int)
def bitsTo:Nat->Int
 |0=>-1
 |i+1=>if L i<=sh (V i) a/\bitsTo i<L i then L i else bitsTo i
def bestTo:Nat->Int
 |0=>-1
 |i+1=>if L i<=sh (V i) a/\bitsTo V L a i<L i then i else bestTo i
def need(i:Nat):Int:=if sh (V i) a<L i then sh (V i) a+1 else L i
def depTo:Nat->Int
 |0=>0
 |i+1=>if depTo i<need V L a i then need V L a i else depTo i
end
theorem need_le{V L:Nat->Int}{a:Int}{i:Nat}(h:L i<=32):need V L a i<=32:=by unfold need;split<;>omega
theorem depTo_pos{V L:Nat->Int}{a:Int}{n:Nat}:0<=depTo V L a n:=by
 induction n with
 |zero=>simp[depTo]
 |succ n ih=>simp only[depTo];split<;>omega
theorem depTo_le{V L:Nat->Int}{a:Int}{n:Nat}(h:∀i,i<n->L i<=32):depTo V L a n<=32:=by
 induction n with
 |zero=>simp[depTo]
 | succ n ih =>
  have c:=ih (λi hi=>h i ol);have b:=need_le (V:=V) (a:=a) (h n ol);simp only[depTo];split<;>omega
theorem need_le_dep{V L:Nat->Int}{a:Int}{n i:Nat}(hi:i<n):need V L a i<=depTo V L a n:=by
 induction n with
 |zero=>omega
 | succ n ih =>
  by_cases h:i=n
  ·subst h;simp only[depTo];split<;>omega
  ·have:=ih ol;simp only[depTo];split<;>omega
theorem dep_is{V L:Nat->Int}{a:Int}{n:Nat}:depTo V L a n=0\/∃i,i<n/\need V L a i=depTo V L a n:=by
 induction n with
 |zero=>left;rfl
 | succ n ih =>
  simp only[depTo];split
  ·exact .inr ⟨n,ol,rfl⟩
  ·rcases ih with h|⟨i,hi,h⟩
   ·exact .inl h
   ·exact .inr ⟨i,ol,h⟩
theorem best_is{V L:Nat->Int}{a:Int}{n:Nat}(d:∀i,i<n->0<=L i):
 (bestTo V L a n=-1/\bitsTo V L a n=-1/\∀i,i<n->¬L i<=sh (V i) a) \/
 (∃k:Nat,k<n/\bestTo V L a n=k/\bitsTo V L a n=L k/\L k<=sh (V k) a/\∀i,i<n->L i<=sh (V i) a->L i<=L k):=by
 induction n with
 |zero=>left;exact⟨rfl,rfl,λi hi=>ol⟩
 | succ n ih =>
  have e:=d n ol;simp only[bestTo,bitsTo];rcases ih (λi hi=>d i ol)with⟨h1,h2,h3⟩|⟨k,hk,h1,h2,h3,h4⟩
  ·rw[h2];by_cases c:L n<=sh (V n) a
   ·right
    refine⟨n,ol,by rw[if_pos ⟨c,ol⟩],by rw[if_pos ⟨c,ol⟩],c,λi hi hm=>?_⟩;by_cases b:i=n
    ·subst b;omega
    ·exact absurd hm (h3 i ol)
   ·left
    refine⟨by rw[if_neg ol];exact h1,by rw[if_neg ol],λi hi=>?_⟩;by_cases b:i=n
    ·subst b;exact c
    ·exact h3 i ol
  ·right
   rw[h2];by_cases c:L n<=sh (V n) a/\L k<L n
   ·refine⟨n,ol,by rw[if_pos c],by rw[if_pos c],c.1,λi hi hm=>?_⟩;by_cases b:i=n
    ·subst b;omega
    ·have:=h4 i ol hm;omega
   ·refine⟨k,ol,by rw[if_neg c];exact h1,by rw[if_neg c],h3,λi hi hm=>?_⟩;by_cases b:i=n
    ·subst b;omega
    ·exact h4 i ol hm
theorem best_lo{V L:Nat->Int}{a:Int}{n:Nat}:-1<=bestTo V L a n/\bestTo V L a n<n:=by
 induction n with
 |zero=>simp[bestTo]
 |succ n ih=>simp only[bestTo];split<;>omega
theorem sh_iff{a b:Int}{s:Nat}(c:s<=32)(e:isA a=F)(d:isA b=F):s<=sh a b↔a / p2 (32-s)=b / p2 (32-s):=by
 obtain⟨i,h⟩:=isA_iff.1 e;obtain⟨g,f⟩:=isA_iff.1 d;exact shN_iff 32 a b s c i g (by rw[p2_32];exact h) (by rw[p2_32];exact f)
theorem sh_trans{a b c:Int}{s:Nat}(g:isA a=F)(f:isA b=F)(e:isA c=F)(h:s<=sh a b)(i:s<=sh b c):s<=sh a c:=by
 have d:s<=32:=Nat.le_trans h (sh_le a b);rw[sh_iff d g f]at h;rw[sh_iff d f e]at i;rw[sh_iff d g e];omega
theorem sh_comm{a b:Int}{s:Nat}(e:isA a=F)(d:isA b=F)(h:s<=sh a b):s<=sh b a:=by
 have c:s<=32:=Nat.le_trans h (sh_le a b);rw[sh_iff c e d]at h;rw[sh_iff c d e];omega
theorem alike{V L:Nat->Int}{a a':Int}(c:isA a=F)(b:isA a'=F){i:Nat}(f:isA (V i)=F){s:Nat}(k:s<=sh a a')(h:need V L a i<=s):
 need V L a' i=need V L a i/\(L i<=sh (V i) a'↔L i<=sh (V i) a):=by
 unfold need at *;by_cases j:(sh (V i) a:Int)<L i
 ·rw[if_pos j]at h;have l:∀t,t<=s->(t<=sh (V i) a'↔t<=sh (V i) a):=λt g =>
   ⟨λd=>sh_trans f b c d (sh_comm c b (Nat.le_trans g k)),λd=>sh_trans f c b d (Nat.le_trans g k)⟩
  have e:sh (V i) a'=sh (V i) a:=by
   have o:=(l (sh (V i) a) ol).2 (Nat.le_refl _);have n:=l (sh (V i) a+1) ol;omega
  rw[e];exact⟨rfl,Iff.rfl⟩
 ·rw[if_neg j]at h;have d:L i<=sh (V i) a':=by
   by_cases m:0<=L i
   ·obtain⟨t,g⟩:=Int.eq_ofNat_of_zero_le m;have:=sh_trans (s:=t) f c b ol ol
    omega
   ·omega
  rw[if_neg j,if_neg ol];exact⟨rfl,ol⟩
end M
end
end Go.Proofs.YtaebngpoagjafabGreat
