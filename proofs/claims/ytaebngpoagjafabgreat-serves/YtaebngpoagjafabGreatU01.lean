set_option maxRecDepth 100000
namespace Go.Proofs.YtaebngpoagjafabGreat
namespace M
def p2:Nat->Int
 | 0=>1
 | n+1=>p2 n*2
theorem p2_pos (n:Nat):0<p2 n:=by
 induction n with
 | zero=>decide
 | succ n ih=>simp only [p2];omega
theorem p2_mono {a b:Nat} (h:a<=b):p2 a<=p2 b:=by
 induction b with
 | zero =>
  have:a=0:=by omega
  subst this;exact Int.le_refl _
 | succ b ih =>
  by_cases d:a=b+1
  ·subst d;exact Int.le_refl _
  ·have:=ih (by omega);have:=p2_pos b;simp only [p2];omega
theorem p2_32:p2 32=4294967296:=by decide
theorem p2_le {j:Nat} (h:j<=32):p2 j<=4294967296:=by rw [<- p2_32];exact p2_mono h
theorem p2_succ (n:Nat):p2 (n+1)=p2 n*2:=rfl
def shN:Nat->Int->Int->Nat
 | 0,_,_=>0
 | n+1,a,b=>if a=b then n+1 else shN n (a / 2) (b / 2)
def sh (a b:Int):Nat:=shN 32 a b
theorem shN_le (n:Nat):∀ a b,shN n a b<=n:=by
 induction n with
 | zero=>intro a b;simp [shN]
 | succ n ih =>
  intro a b;simp only [shN];split
  ·exact Nat.le_refl _
  ·exact Nat.le_succ_of_le (ih _ _)
theorem sh_le (a b:Int):sh a b<=32:=shN_le 32 a b
theorem shN_iff (n:Nat):∀ (a b:Int) (s:Nat),s<=n->0<=a->0<=b->a<p2 n->b<p2 n->(s<=shN n a b↔a / p2 (n-s)=b / p2 (n-s)):=by
 induction n with
 | zero =>
  intro a b s i l k f e
  have j:p2 0=1:=rfl
  rw [j] at f e
  have:s=0:=by omega
  subst this
  have:a=0:=by omega
  have:b=0:=by omega
  subst a b;simp [shN]
 | succ n ih =>
  intro a b s i l k f e
  simp only [p2_succ] at f e
  simp only [shN]
  by_cases d:a=b
  ·subst d;simp [i]
  ·rw [if_neg d]
   by_cases g:s=n+1
   ·subst g
    have:=shN_le n (a / 2) (b / 2)
    rw [Nat.sub_self]
    simp only [p2,Int.ediv_one]
    constructor
    ·intro h;omega
    ·intro h;exact absurd h d
   ·have m:=ih (a / 2) (b / 2) s (by omega) (by omega) (by omega) (by omega) (by omega)
    rw [m,Int.ediv_ediv_of_nonneg (by omega),Int.ediv_ediv_of_nonneg (by omega)]
    have:n+1-s=(n-s)+1:=by omega
    rw [this,p2_succ,Int.mul_comm 2]
def isA (n:Int):Bool:=decide (0<=n) && decide (n<4294967296)
theorem isA_iff {n:Int}:isA n=true↔0<=n/\n<4294967296:=by simp [isA]
def isP (v n:Int):Bool:=decide (0<=n) && decide (n<=32) && isA v && decide (v%p2 (32-n).toNat=0)
theorem isP_iff {v n:Int}:isP v n=true↔0<=n/\n<=32/\0<=v/\v<4294967296/\v%p2 (32-n).toNat=0:=by
 simp [isP,isA];omega
theorem p2_eq (n:Nat):p2 n=2 ^ n:=by
 induction n with
 | zero=>rfl
 | succ n ih=>rw [p2_succ,ih,Int.pow_succ]
def inTo (V L:Nat->Int) (v m:Int):Nat->Bool
 | 0=>false
 | n+1=>inTo V L v m n || (V n==v && L n==m)
theorem inTo_iff {V L:Nat->Int} {v m:Int} {n:Nat}:inTo V L v m n=true↔∃ i,i<n/\V i=v/\L i=m:=by
 induction n with
 | zero=>simp [inTo]
 | succ n ih =>
  simp only [inTo,Bool.or_eq_true,ih,Bool.and_eq_true,beq_iff_eq]
  constructor
  ·rintro (⟨i,h,b,a⟩ | ⟨b,a⟩)
   ·exact ⟨i,by omega,b,a⟩
   ·exact ⟨n,by omega,b,a⟩
  ·rintro ⟨i,h,b,a⟩
   by_cases d:i=n
   ·subst d;exact .inr ⟨b,a⟩
   ·exact .inl ⟨i,by omega,b,a⟩
theorem inTo_hit {V L:Nat->Int} {v m:Int} {n k:Nat} (h:k<n) (h1:V k=v) (h2:L k=m):inTo V L v m n=true:=inTo_iff.2 ⟨k,h,h1,h2⟩
def okTo (V L:Nat->Int):Nat->Bool
 | 0=>true
 | k+1=>okTo V L k && (isP (V k) (L k) && !inTo V L (V k) (L k) k)
def isMap (V L:Nat->Int) (n:Nat):Bool:=decide (n<=64) && okTo V L n
theorem okTo_iff {V L:Nat->Int} {n:Nat}:okTo V L n=true↔∀ k,k<n->isP (V k) (L k)=true/\inTo V L (V k) (L k) k=false:=by
 induction n with
 | zero=>simp [okTo]
 | succ n ih =>
  simp only [okTo,Bool.and_eq_true,ih,Bool.not_eq_true']
  constructor
  ·rintro ⟨h,e,d⟩ k a
   by_cases b:k=n
   ·subst b;exact ⟨e,d⟩
   ·exact h k (by omega)
  ·intro h
   exact ⟨fun k a=>h k (by omega),h n (by omega)⟩
theorem isMap_bad {V L:Nat->Int} {n k:Nat} (hk:k<n) (h:isP (V k) (L k)=false\/inTo V L (V k) (L k) k=true):isMap V L n=false:=by
 rw [Bool.eq_false_iff]
 intro a
 simp only [isMap,Bool.and_eq_true] at a
 have:=okTo_iff.1 a.2 k hk
 rcases h with h | h
 ·rw [this.1] at h;cases h
 ·rw [this.2] at h;cases h
end M
section
namespace M
section
variable (V L:Nat->Int) (a:Int)
def bitsTo:Nat->Int
 | 0=>-1
 | i+1=>if L i<=sh (V i) a/\bitsTo i<L i then L i else bitsTo i
def bestTo:Nat->Int
 | 0=>-1
 | i+1=>if L i<=sh (V i) a/\bitsTo V L a i<L i then i else bestTo i
def need (i:Nat):Int:=if sh (V i) a<L i then sh (V i) a+1 else L i
def depTo:Nat->Int
 | 0=>0
 | i+1=>if depTo i<need V L a i then need V L a i else depTo i
end
theorem need_le {V L:Nat->Int} {a:Int} {i:Nat} (h:L i<=32):need V L a i<=32:=by unfold need;split<;>omega
theorem depTo_pos {V L:Nat->Int} {a:Int} {n:Nat}:0<=depTo V L a n:=by
 induction n with
 | zero=>simp [depTo]
 | succ n ih=>simp only [depTo];split<;>omega
theorem depTo_le {V L:Nat->Int} {a:Int} {n:Nat} (h:∀ i,i<n->L i<=32):depTo V L a n<=32:=by
 induction n with
 | zero=>simp [depTo]
 | succ n ih =>
  have d:=ih (fun i hi=>h i (by omega))
  have b:=need_le (V:=V) (a:=a) (h n (by omega))
  simp only [depTo];split<;>omega
theorem need_le_dep {V L:Nat->Int} {a:Int} {n i:Nat} (hi:i<n):need V L a i<=depTo V L a n:=by
 induction n with
 | zero=>omega
 | succ n ih =>
  by_cases h:i=n
  ·subst h;simp only [depTo];split<;>omega
  ·have:=ih (by omega);simp only [depTo];split<;>omega
theorem dep_is {V L:Nat->Int} {a:Int} {n:Nat}:depTo V L a n=0\/∃ i,i<n/\need V L a i=depTo V L a n:=by
 induction n with
 | zero=>left;rfl
 | succ n ih =>
  simp only [depTo]
  split
  ·exact .inr ⟨n,by omega,rfl⟩
  ·rcases ih with h | ⟨i,hi,h⟩
   ·exact .inl h
   ·exact .inr ⟨i,by omega,h⟩
theorem best_is {V L:Nat->Int} {a:Int} {n:Nat} (h0:∀ i,i<n->0<=L i) :
 (bestTo V L a n=-1/\bitsTo V L a n=-1/\∀ i,i<n->¬ L i<=sh (V i) a) \/
 (∃ k:Nat,k<n/\bestTo V L a n=k/\bitsTo V L a n=L k/\L k<=sh (V k) a/\∀ i,i<n->L i<=sh (V i) a->L i<=L k):=by
 induction n with
 | zero=>left;exact ⟨rfl,rfl,fun i hi=>by omega⟩
 | succ n ih =>
  have e:=h0 n (by omega)
  simp only [bestTo,bitsTo]
  rcases ih (fun i hi=>h0 i (by omega)) with ⟨h1,h2,h3⟩ | ⟨k,hk,h1,h2,h3,h4⟩
  ·rw [h2]
   by_cases d:L n<=sh (V n) a
   ·right
    refine ⟨n,by omega,by rw [if_pos ⟨d,by omega⟩],by rw [if_pos ⟨d,by omega⟩],d,fun i hi hm=>?_⟩
    by_cases b:i=n
    ·subst b;omega
    ·exact absurd hm (h3 i (by omega))
   ·left
    refine ⟨by rw [if_neg (by omega)];exact h1,by rw [if_neg (by omega)],fun i hi=>?_⟩
    by_cases b:i=n
    ·subst b;exact d
    ·exact h3 i (by omega)
  ·right
   rw [h2]
   by_cases d:L n<=sh (V n) a/\L k<L n
   ·refine ⟨n,by omega,by rw [if_pos d],by rw [if_pos d],d.1,fun i hi hm=>?_⟩
    by_cases b:i=n
    ·subst b;omega
    ·have:=h4 i (by omega) hm;omega
   ·refine ⟨k,by omega,by rw [if_neg d];exact h1,by rw [if_neg d],h3,fun i hi hm=>?_⟩
    by_cases b:i=n
    ·subst b;omega
    ·exact h4 i (by omega) hm
theorem best_lo {V L:Nat->Int} {a:Int} {n:Nat}:-1<=bestTo V L a n/\bestTo V L a n<n:=by
 induction n with
 | zero=>simp [bestTo]
 | succ n ih=>simp only [bestTo];split<;>omega
theorem sh_iff {a b:Int} {s:Nat} (hs:s<=32) (ha:isA a=true) (hb:isA b=true):s<=sh a b↔a / p2 (32-s)=b / p2 (32-s):=by
 obtain ⟨g,f⟩:=isA_iff.1 ha
 obtain ⟨e,d⟩:=isA_iff.1 hb
 exact shN_iff 32 a b s hs g e (by rw [p2_32];exact f) (by rw [p2_32];exact d)
theorem sh_trans {a b c:Int} {s:Nat} (ha:isA a=true) (hb:isA b=true) (hc:isA c=true) (h1:s<=sh a b) (h2:s<=sh b c):s<=sh a c:=by
 have d:s<=32:=Nat.le_trans h1 (sh_le a b)
 rw [sh_iff d ha hb] at h1
 rw [sh_iff d hb hc] at h2
 rw [sh_iff d ha hc];omega
theorem sh_comm {a b:Int} {s:Nat} (ha:isA a=true) (hb:isA b=true) (h:s<=sh a b):s<=sh b a:=by
 have d:s<=32:=Nat.le_trans h (sh_le a b)
 rw [sh_iff d ha hb] at h
 rw [sh_iff d hb ha];omega
theorem alike {V L:Nat->Int} {a a':Int} (ha:isA a=true) (ha':isA a'=true) {i:Nat} (hv:isA (V i)=true) {s:Nat} (hs:s<=sh a a') (h:need V L a i<=s) :
 need V L a' i=need V L a i/\(L i<=sh (V i) a'↔L i<=sh (V i) a):=by
 unfold need at *
 by_cases f:(sh (V i) a:Int)<L i
 ·rw [if_pos f] at h
  have g:∀ t,t<=s->(t<=sh (V i) a'↔t<=sh (V i) a):=fun t d =>
   ⟨fun b=>sh_trans hv ha' ha b (sh_comm ha ha' (Nat.le_trans d hs)),fun b=>sh_trans hv ha ha' b (Nat.le_trans d hs)⟩
  have e:sh (V i) a'=sh (V i) a:=by
   have l:=(g (sh (V i) a) (by omega)).2 (Nat.le_refl _)
   have k:=g (sh (V i) a+1) (by omega)
   omega
  rw [e];exact ⟨rfl,Iff.rfl⟩
 ·rw [if_neg f] at h
  have b:L i<=sh (V i) a':=by
   by_cases j:0<=L i
   ·obtain ⟨t,d⟩:=Int.eq_ofNat_of_zero_le j
    have:=sh_trans (s:=t) hv ha ha' (by omega) (by omega)
    omega
   ·omega
  rw [if_neg f,if_neg (by omega)]
  exact ⟨rfl,by omega⟩
end M
end
end Go.Proofs.YtaebngpoagjafabGreat
