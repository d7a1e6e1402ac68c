import Derived.Test.YtaebngpoagjafabGreatQ20
import Derived.Test.YtaebngpoagjafabGreatQ27
import Derived.Below
import Derived.ChangeOld
import Derived.Deep.OwnRows
import Derived.Deep.Slices
import Derived.Laws.StructEq
import Derived.OpenShut
import Derived.ProofKit
import Derived.SizedLaws
set_option maxRecDepth 100000
set_option maxHeartbeats 800000
namespace Go.Proofs.YtaebngpoagjafabGreat
open Proofs.Tryz
open Value renaming int → J
open IntKind renaming i64 → Z
open Go.RowKit
attribute [local go_sem ↓] Go.wp_at_zero Go.wp_at_succ
theorem zc0(A B:List SG)(g:SG):jB (A++g::B) A.length g=th A g:=by
 unfold jB th;have b:(A++g::B).take (A.length+1)=A++[g]:=by
  rw[show A++g::B=(A++[g])++B from by simp];exact List.take_left' ot
 rw[b,List.reverse_append];simp only[List.reverse_cons,List.reverse_nil,List.nil_append,List.singleton_append];have h:=JE (g::A.reverse);simp only[List.length_cons,List.length_reverse]at h;have a:(A++g::B).take (ZI (g::A.reverse)-1)=A.take (ZI (g::A.reverse)-1):=by
  rw[List.take_append_of_le_length ol]
 rw[a]
theorem zfB(A B:List SG)(g:SG):(flt (A++g::B) A.length g=0/\∀err,¬ErT A g err)\/(flt (A++g::B) A.length g≠0/\ErT A g (flt (A++g::B) A.length g)/\∀err,ErT A g err->flt (A++g::B) A.length g<=err):=by
 have k:16<=QI (A++g::B) A.length g↔g.list≠-1/\16<=ZT g A:=by
  unfold QI;rw[List.take_left,zex];by_cases h:g.list=-1
  ·rw[if_pos h];simp[h]
  ·rw[if_neg h];simp[h];omega
 have j:Qv (A++g::B) A.length g=true↔g.list≠-1/\Z4 g A=true:=by
  unfold Qv;rw[List.take_left,zew];by_cases h:g.list=-1
  ·rw[if_pos h];simp[h]
  ·rw[if_neg h];simp[h]
 unfold flt zcp yc;rw[zc0];unfold ErT;by_cases c:g.kind=3/\12<=g.depth
 ·rw[if_pos c];refine .inr ⟨oq,.inl ⟨rfl,c⟩,λerr h=>?_⟩;rcases h with h|h|h|h|h<;>omega
 ·rw[if_neg c];by_cases b:16<=QI (A++g::B) A.length g
  ·rw[if_pos b];have e:=k.1 b;refine .inr ⟨oq,.inr (.inl ⟨rfl,e⟩),λerr h=>?_⟩;rcases h with h|h|h|h|h
   ·exact absurd h.2 c
   all_goals omega
  ·rw[if_neg b];have e:¬(g.list≠-1/\16<=ZT g A):=λh=>b (k.2 h)
   by_cases d:(g.kind=1/\th A g=true)\/(g.kind=2/\th A g=false)
   ·rw[if_pos d];refine .inr ⟨oq,.inr (.inr (.inl ⟨rfl,d⟩)),λerr h=>?_⟩;rcases h with h|h|h|h|h
    ·exact absurd h.2 c
    ·exact absurd h.2 e
    all_goals omega
   ·rw[if_neg d];by_cases f:zS g.kind (T.val g.text g.text.size)=true
    ·rw[if_pos f];refine .inr ⟨oq,.inr (.inr (.inr (.inl ⟨rfl,f⟩))),λerr h=>?_⟩;rcases h with h|h|h|h|h
     ·exact absurd h.2 c
     ·exact absurd h.2 e
     ·exact absurd h.2 d
     all_goals omega
    ·rw[if_neg f];by_cases a:Qv (A++g::B) A.length g=true
     ·rw[if_pos a];have i:=j.1 a;refine .inr ⟨oq,.inr (.inr (.inr (.inr ⟨rfl,i⟩))),λerr h=>?_⟩;rcases h with h|h|h|h|h
      ·exact absurd h.2 c
      ·exact absurd h.2 e
      ·exact absurd h.2 d
      ·exact absurd h.2 f
      ·omega
     ·rw[if_neg a];have i:¬(g.list≠-1/\Z4 g A=true):=λh=>a (j.2 h)
      refine .inl ⟨rfl,λerr h=>?_⟩;rcases h with h|h|h|h|h
      ·exact c h.2
      ·exact e h.2
      ·exact d h.2
      ·exact f h.2
      ·exact i h.2
theorem zeP{b a:Int}:∀(U P:List SG),FT P U b a->∃g∈U,a=g.place:=by
 intro U;induction U with
 |nil=>intro P h;exact absurd h id
 | cons g r ih =>
  intro P h;rcases h with h|h
  ·exact⟨g,ot,h.1⟩
  ·obtain⟨x,c,e⟩:=ih _ h;exact⟨x,by simp[c],e⟩
theorem zfz:∀(B A:List SG) (n:Nat),B.length<=n->B.Pairwise (λa b=>a.place<b.place)->yk (FT A B) (X1 (A++B) n A.length):=by
 intro B;induction B with
 | nil =>
  intro A n _ _;refine .inl ⟨?_,λerr a h=>h⟩;cases n with
  |zero=>rfl
  |succ n=>simp[X1]
 | cons g r ih =>
  intro A n i c;obtain⟨n,rfl⟩:∃m,n=m+1:=⟨n-1,by simp only[List.length_cons]at i;omega⟩;have k:(A++g::r)[A.length]?=some g:=ot;have f:=List.pairwise_cons.1 c;have d:=ih (A++[g]) n (by simp only[List.length_cons]at i;omega) f.2;rw[List.append_assoc,List.singleton_append,List.length_append]at d;simp only[List.length_cons,List.length_nil,Nat.zero_add]at d;simp only[X1,k];rcases zfB A r g with⟨h,h'⟩|⟨h,h',h3⟩
  ·rw[if_pos h];refine d.congr λerr a=>?_
   simp only[FT];constructor
   ·intro hh;exact .inr hh
   ·rintro(hh|hh)
    ·exact absurd hh.2 (h' err)
    ·exact hh
  ·rw[if_neg h];refine .inr ⟨h,.inl ⟨rfl,h'⟩,λerr a hh=>?_⟩;rcases hh with hh|hh
   ·exact .inr ⟨hh.1.symm,h3 err hh.2⟩
   ·obtain⟨x,j,e⟩:=zeP _ _ hh;left
    rw[e];exact f.1 x j
theorem QO(s:ByteArray):chk s=yv s:=by
 unfold chk yv;by_cases d:2000<s.size
 ·rw[if_pos d,if_pos d]
 rw[if_neg d,if_neg d];have p:=(zbV s (s.size+1) [] 0 0 (Nat.zero_le _) ol).1;have u:zA s (s.size+1) [] 0 0 false=zy s:=rfl;rw[u]at p;generalize zy s=C at *;obtain⟨q,g,_,_,_⟩:=Jo s;obtain⟨o,m,t,n⟩:=q;have i:rd s=rdE s (o,m,if o=true then t else[]):=by unfold rd;rw[g]
 rw[i];unfold rd0 at g;rcases p with⟨U,a1,a2,⟨new,a3,a4⟩,a5⟩|⟨⟨sg',a1⟩,a2⟩
 ·obtain⟨rfl,rfl,rfl⟩:=a1.det g;rw[List.nil_append]at a3;unfold rdE;simp only[if_true,a5,a2,Bool.false_or];by_cases c:C.k<s.size
  ·have j:=T.ch_bd c;rw[if_pos j.1,decide_eq_true c];simp
  ·have w:¬(0:Int)<=T.ch s C.k:=(by rw[T.ch_ge c];decide);rw[if_neg w,decide_eq_false c];simp only[Bool.false_eq_true,if_false,if_true];have l:=zfz U.reverse.reverse [] U.reverse.length ot (by rw[List.reverse_reverse];exact a4.st);simp only[List.nil_append,List.length_nil]at l;rw[List.reverse_reverse]at l⊢;have r:yk (FT [] U) (Xr C.es C.rs):=by
    refine(X4 C.es C.rs).congr λerr a=>?_
    rw[a3];exact(a4.fu [] ot RC.nil err a).symm
   have v:=l.unique r;rw[v];split
   ·next h0 =>
    rcases r with⟨e,_⟩|⟨e,_⟩
    ·exact e
    ·exact absurd h0 e
   ·rfl
 ·obtain⟨rfl,rfl,rfl⟩:=a1.det g;have f:(C.b || decide (C.k<s.size))=true:=by
   rcases a2 with h|h
   ·rw[h];rfl
   ·rw[decide_eq_true (T.dig_lt h),Bool.or_true]
  unfold rdE;rw[f];simp
theorem zaX(s:ByteArray)(w:World)(c:Int×Int)(f:Hd (yv s=c)):
 Calls prog 63 #[.string s] w λe w'=>Below w.heap.size w w'/\e=.returned (.tuple #[J Z c.1,J Z c.2]):=by
 go_enter func63,ntmps63;go_wp2_with fail;refine(qi s _ c f).mono ?_;rintro e d ⟨a,j,k,l,g,h,i,rfl,_⟩;have b:Hd (Below w.heap.size w d):=a;clear a;go_wp2_with fail;go_ret2;exact⟨b.o.alloc b.o.size _,rfl⟩
theorem J9(l k j i:Int)(s:ByteArray)(w:World):
 Calls prog 32 #[.agg #[J Z 2,J Z l,J Z k,J Z j,J Z i,.string s]] w λe w'=>e=.returned (.bool true)/\Below w.heap.size w w':=by
 obtain⟨c,m⟩:∃c,yv s=c:=⟨_,rfl⟩;have x:Hd (yv s=c):=m;have v:Hd (chk s=c):=by show _=_;rw[QO];exact m
 clear m;obtain⟨u,t⟩:=c;have q:=λwz=>Xe s wz
 rw[v.o]at q;have h:Hd (Below w.heap.size w (w.alloc (.cells #[J Z 2,J Z l,J Z k,J Z j,J Z i,.string s] 53))):=(Below.refl _ _).alloc (Nat.le_refl _) _;have f:Hd ((w.alloc (.cells #[J Z 2,J Z l,J Z k,J Z j,J Z i,.string s] 53)).heap[w.heap.size]?=some (.cells #[J Z 2,J Z l,J Z k,J Z j,J Z i,.string s] 53 (0,0))):=heap_alloc_new w _;go_enter func32,ntmps32;go_wp2_with fail;refine(zaX s _ (u,t) x).mono ?_;rintro e p ⟨a,rfl⟩;have g:Hd (Below w.heap.size w p):=h.o.trans (a.mono h.o.size);have b:=(a.block _ (lt_of_block f.o)).trans f.o;have y:p.cell? ⟨w.heap.size,5,none⟩=some (.string s):=by simp[World.cell?,b]
 clear a b;go_wp2_with fail;refine(q _).mono ?_;rintro e r ⟨d,rfl⟩;have n:Hd (Below w.heap.size w r):=g.o.trans (d.mono g.o.size);clear d;go_wp2_with fail;go_ret;exact⟨rfl,n.o⟩
theorem zaf(k:Nat)(h g f d:Int)(c:ByteArray)(w:World):
 Calls prog 14 #[.pointer (some ⟨k,0,none⟩),.agg #[J Z 2,J Z h,J Z g,J Z f,J Z d,.string c]] w λe w'=>e=.returned (.bool true)/\Below w.heap.size w w':=by
 have b:Hd (Below w.heap.size w (w.alloc (.cells #[J Z 2,J Z h,J Z g,J Z f,J Z d,.string c] 53))):=(Below.refl _ _).alloc (Nat.le_refl _) _;go_enter func14,ntmps14;go_wp2_with fail;refine(J9 h g f d c _).mono ?_;rintro e j ⟨rfl,a⟩;have i:Hd (Below w.heap.size w j):=b.o.trans (a.mono b.o.size);clear a;go_wp2_with fail;go_ret;exact⟨rfl,i.o⟩
end Go.Proofs.YtaebngpoagjafabGreat
