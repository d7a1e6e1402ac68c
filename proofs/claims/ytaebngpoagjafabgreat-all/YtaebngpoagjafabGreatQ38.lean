import Derived.Test.YtaebngpoagjafabGreatQ33
import Derived.Test.YtaebngpoagjafabGreatQ37
import Derived.BigRegion
set_option maxRecDepth 100000
set_option maxHeartbeats 1600000
namespace Go.Proofs.YtaebngpoagjafabGreat
open Bool renaming true → F,false → E
open Option renaming none → N,some → T
open Proofs.Tryz renaming prog → S
open Proofs.Tryz
open Value renaming int → J, slice → O
open IntKind renaming i64 → Z
open Go.RowKit
attribute [local go_sem ↓] Go.wp_at_zero Go.wp_at_succ
theorem CS.wide{w:World}{base base':Nat}{b:Option Addr}{c a:Nat}{C:List Int}(h:CS w base b c a C)(d:base<=base'):CS w base' b c a C:=⟨h.at_,λh0=>by have:=h.lt h0;omega,h.val,h.byt⟩
def WD.ru(x:WD)(C:List Int)(fuel:Int):Int×(List Int×Int×Int):=ruF x.a x.b x.d x.Dn x.dl x.al x.V x.L x.R x.pl C fuel
def WD.right(x:WD):Bool:=Zr x.a x.b x.d x.V x.L x.R x.pl
def WD.rw(x:WD):RW:=zbP x.a x.b x.d x.Dn x.dl x.al x.V x.L x.R x.pl
theorem zbp(x:WD)(U:Option Addr)(cb j cc:Nat)(C:List Int)(c:Int)(w:World)(hC:C.length<=140737488355328)(hf:c<=9223372036854775807)(hx:x.In w)(Q:CS w w.heap.size U cb j C):
 Calls S 46 #[O U C.length cc,x.val,J Z c] w (qh w (x.ru C c)):=by
 have HX:Hd _:=hx;have a4:Hd _:=Q;obtain⟨R,HR⟩:∃R,Hd (x.ru C c=R):=⟨_,rfl⟩;have l:Hd (∀wz,x.In wz->CS wz wz.heap.size U cb j C->Calls S 29 #[O U C.length cc,x.val,J Z c] wz (qh wz R)):=λwz h1 h2=>by
  have:=JD x.a x.b x.d x.do_ x.ao x.po x.dl x.dc x.ac x.pl x.pcp x.pb x.poff x.db x.doff x.ab x.aoff x.al x.Dn x.V x.L x.R U cb j cc C c wz hC hf h1.ndl h1.nal h1.ts h1.is_ h1.as_ h2
  rw[show ruF x.a x.b x.d x.Dn x.dl x.al x.V x.L x.R x.pl C c=R from HR.o]at this;exact this
 rw[HR.o];clear hx Q;unfold WD.val at l⊢;obtain⟨xa,xb,xd,u,a8,a0,y,z,b0,A,a9,a1,D,B,s,a7,Y,t,i,xV,xL,xR⟩:=x;simp only at l⊢;have n:Hd (Below w.heap.size w ((w.alloc (.cells #[J Z xa,J Z xb,J Z xd,O u y z,O A B.length D,O s t i] 31)).alloc (.cells #[O N 0 0,J Z 0,J Z 0] 42))):=((Below.refl _ _).alloc (Nat.le_refl _) _).alloc ot _;have a2:Hd (((w.alloc (.cells #[J Z xa,J Z xb,J Z xd,O u y z,O A B.length D,O s t i] 31)).alloc (.cells #[O N 0 0,J Z 0,J Z 0] 42)).heap[w.heap.size+1]?=T (.cells #[O N 0 0,J Z 0,J Z 0] 42 (0,0))):=zl _ ot;have I:=l.o _ (HX.o.below n.o) ((a4.o.of_kept (λb hb=>n.o.block b hb)).wide n.o.size);have K:((w.alloc (.cells #[J Z xa,J Z xb,J Z xd,O u y z,O A B.length D,O s t i] 31)).alloc (.cells #[O N 0 0,J Z 0,J Z 0] 42)).heap.size=w.heap.size+2:=ot;have W:Hd _:=K;clear K;go_enter func46,ntmps46;go_wp2_with fail;refine I.mono ?_;rintro e q ⟨H,o,m,k,rfl,p,G⟩;have a6:Hd _:=n.o.trans (H.mono n.o.size);have f:Hd (q.heap[w.heap.size+1]?=T (.cells #[O N 0 0,J Z 0,J Z 0] 42 (0,0))):=(H.block _ (by rw[W.o];omega)).trans a2.o;have a3:Hd _:=p;have X:Hd (R.1=0->m=R.2.1.length/\q.ownsRow (w.heap.size+2) 3 1 (O o m k) R.2.1.length (R.2.1.map (J Z))):=by rw[W.o]at G;exact G
 have y0:q.cell? ⟨w.heap.size+1,0,N⟩=T (O N 0 0):=by rw[cell_of_row _ _ _ _ _ _ f.o];rfl
 have y1:q.cell? ⟨w.heap.size+1,1,N⟩=T (J Z 0):=by rw[cell_of_row _ _ _ _ _ _ f.o];rfl
 have y2:q.cell? ⟨w.heap.size+1,2,N⟩=T (J Z 0):=by rw[cell_of_row _ _ _ _ _ _ f.o];rfl
 have z0:q.frozen? ⟨w.heap.size+1,0,N⟩=E:=by simp[World.frozen?,f.o]
 have z1:q.frozen? ⟨w.heap.size+1,1,N⟩=E:=by simp[World.frozen?,f.o]
 have z2:q.frozen? ⟨w.heap.size+1,2,N⟩=E:=by simp[World.frozen?,f.o]
 clear H p G;go_wp2_with fail;have a5:=ym (x':=O o m k) (y':=J Z R.2.2.1) (z':=J Z R.2.2.2) f.o;refine bodyPost_ret (v:=.tuple #[.agg #[O o m k,J Z R.2.2.1,J Z R.2.2.2],J Z R.1]) ?_ rfl ⟨((a6.o.setCell ox _).setCell ox _).setCell ox _,o,m,k,rfl,a3.o,λh=>⟨(X.o h).1,?_⟩⟩
 ·rw[results_cell_tmp results46];have h5:∀we:World,(asAddr (.pointer (T ⟨w.heap.size+1,0,N⟩))).run S we=.ok ⟨w.heap.size+1,0,N⟩ we:=λ_=>rfl
  have h6:=run_loadVar_row (P:=S) _ (w.heap.size+1) 42 42 #[O o m k,J Z R.2.2.1,J Z R.2.2.2] (0,0) _ a5 underlying42 rfl kr;show((asAddr (.pointer (T ⟨w.heap.size+1,0,N⟩))).run S _).andThen _=_;rw[h5,Result.andThen_ok,h6,Result.andThen_ok];rfl
 ·have r:=yC (X.o h).2 (base':=w.heap.size) ol;have p:(O o m k).ownBlock≠T (w.heap.size+1):=zi r f.o oq;refine zd r (λg hg=>?_);have F:g≠w.heap.size+1:=λe=>p (by rw[<-e];exact hg)
  rw[za F,za F,za F]
theorem x8(n:Int)(k:Nat):∀x∈z8 n k,0<=x/\x<256:=by
 induction k generalizing n with
 |zero=>intro x hx;simp[z8]at hx
 | succ k ih =>
  intro x hx;simp only[z8,List.mem_cons]at hx;rcases hx with rfl|hx
  ·omega
  ·exact ih _ x hx
theorem zbh(b:List EX):∀n,∀x∈yj b n,0<=x/\x<256:=by
 intro n;induction n using Nat.strongRecOn with
 | ind n ih =>
  cases n with
  |zero=>intro x hx;simp[yj]at hx
  | succ j =>
   cases he:b[j]? with
   |none=>intro x hx;simp[yj,he]at hx
   | some e =>
    have a:∀i,∀x∈atL (zW b j) i,0<=x/\x<256:=by
     intro i x hx;rw[qb]at hx;split at hx
     ·simp at hx
     ·split at hx
      ·exact ih _ ol x hx
      ·simp at hx
    have c:∀k,∀x∈zh (zW b j) e k,0<=x/\x<256:=by
     intro k;induction k with
     |zero=>exact a _
     | succ k ihk =>
      intro x hx;simp only[zh,List.mem_append]at hx;rcases hx with hx|hx
      ·exact ihk x hx
      ·cases hi:e.items[k]? with
       |none=>rw[hi]at hx;simp at hx
       |some y=>rw[hi]at hx;exact a _ x hx
    have d:∀k,∀x∈zt (zW b j) e k,0<=x/\x<256:=by
     intro k;induction k with
     | zero =>
      intro x hx;simp only[zt,yu,List.mem_append]at hx;rcases hx with hx|hx
      ·exact x8 _ _ x hx
      ·repeat' split at hx
       all_goals exact x8 _ _ x hx
     | succ k ihk =>
      intro x hx;simp only[zt,List.mem_append]at hx;rcases hx with hx|hx
      ·exact ihk x hx
      ·cases hi:e.items[k]? with
       |none=>rw[hi]at hx;simp at hx
       | some y =>
        rw[hi]at hx;simp only[yD]at hx;repeat' split at hx
        all_goals (try simp only[List.mem_append]at hx)
        ·rcases hx with(hx|hx)|hx<;>exact x8 _ _ x hx
        ·rcases hx with hx|hx<;>exact x8 _ _ x hx
        ·rcases hx with hx|hx<;>exact x8 _ _ x hx
        ·exact x8 _ _ x hx
    intro x hx;simp only[yj,he,Y2]at hx;split at hx
    ·exact a _ x hx
    ·rcases List.mem_append.1 hx with hx|hx
     ·exact d _ x hx
     ·exact c _ x hx
theorem zgY{w:World}{base:Nat}{o:Option Addr}{k:Nat}{X:List Int}(h:w.ownsRow base 5 1 (O o X.length k) X.length (X.map (Value.int .u8)))(a:∀x∈X,0<=x/\x<256):∃g,CS w w.heap.size o g 0 X:=by
 rcases Nat.eq_zero_or_pos X.length with h0|h0
 ·exact⟨0,⟨λh=>ol,λh=>ol,λi x hx=>by have:=(List.getElem?_eq_some_iff.1 hx).1;omega,a⟩⟩
 ·obtain⟨g,b,e,_,d⟩:=h.form h0;obtain⟨c,_⟩:o=T ⟨g,0,N⟩/\k=b:=by cases e;exact⟨rfl,rfl⟩
  subst c;refine⟨g,⟨λ_=>rfl,λ_=>d,λi x hx=>?_,a⟩⟩;have f:=(List.getElem?_eq_some_iff.1 hx).1;rw[Nat.zero_add,World.ownsRow.cellAt h i ol,List.getElem?_map,hx];rfl
theorem qB{w:World}{base:Nat}{o:Option Addr}{k:Nat}{l:List Int}(h:w.ownsRow base 3 1 (O o l.length k) l.length (l.map (J Z))):∃g,IS w o g 0 l.length (λi=>(l[i]?).getD 0):=by
 rcases Nat.eq_zero_or_pos l.length with h0|h0
 ·exact⟨0,⟨λh=>ol,λh=>ol,λi hi=>ol⟩⟩
 ·obtain⟨g,a,d,_,c⟩:=h.form h0;obtain⟨b,_⟩:o=T ⟨g,0,N⟩/\k=a:=by cases d;exact⟨rfl,rfl⟩
  subst b;refine⟨g,⟨λ_=>rfl,λ_=>c,λi hi=>?_⟩⟩;rw[Nat.zero_add,World.ownsRow.cellAt h i ol,List.getElem?_map,List.getElem?_eq_getElem hi];rfl
def Q2(s:ByteArray):Bool:=cpE s==0
theorem zgU(a b d:Int):Zm a b d=(M.isA a && (M.isA d && (decide (0<=b) && decide (b<=32)))):=by
 unfold Zm M.isA;by_cases i:0<=a<;>by_cases h:a<4294967296<;>by_cases g:0<=b<;>by_cases f:b<=32<;>by_cases e:0<=d<;>by_cases c:d<4294967296<;>simp[i,h,g,f,e,c]
theorem Xf(a b d:Int)(w:World):Calls S 21 #[J Z a,J Z b,J Z d] w λe w'=>e=.returned (.bool (Zm a b d))/\w'=w:=by
 have f:Hd (Zm a b d=(M.isA a && (M.isA d && (decide (0<=b) && decide (b<=32))))):=zgU a b d;go_enter func21,ntmps21;go_wp2_with fail;refine(Xq a _).mono ?_;rintro e w' ⟨rfl,g⟩;subst w';generalize M.isA a=q at *;cases q with
 | false =>
  go_wp2_with fail;go_ret;exact⟨by rw[f.o];rfl,rfl⟩
 | true =>
  go_wp2_with fail;refine(Xq d _).mono ?_;rintro e w' ⟨rfl,g⟩;subst w';generalize M.isA d=q2 at *;cases q2 with
  | false =>
   go_wp2_with fail;go_ret;exact⟨by rw[f.o];rfl,rfl⟩
  | true =>
   by_cases i:0<=b
   ·by_cases h:b<=32
    ·have c:Hd (Zm a b d=F):=(by show _=_;rw[f.o];simp[i,h]);go_wp2_with fail;go_ret;exact⟨by rw[c.o];rfl,rfl⟩
    ·have c:Hd (Zm a b d=E):=(by show _=_;rw[f.o];simp[h]);have j:decide (b<=32)=E:=decide_eq_false h;go_wp2_with fail;go_ret;exact⟨by rw[c.o];rfl,rfl⟩
   ·have c:Hd (Zm a b d=E):=(by show _=_;rw[f.o];simp[i]);have k:decide (0<=b)=E:=decide_eq_false i;go_wp2_with fail;go_ret;exact⟨by rw[c.o];rfl,rfl⟩
theorem jx(x:WD)(w:World)(C:x.In w)(D:x.pl*24<=140737488351232):
 Calls S 70 #[x.val] w λe w'=>e=.returned (.bool x.right)/\Below w.heap.size w w':=by
 have E:Hd _:=C.ts;have A:Hd (x.right=(Zm x.a x.b x.d && yU x.V x.L x.R x.pl)):=rfl;clear C;unfold WD.val;obtain⟨z,s,r,m,F,l,n,p,K,u,G,t,y,v,j,k,f,g,h,H,xL,I⟩:=x;simp only at E A D⊢;have c:Hd (Below w.heap.size w (w.alloc (.cells #[J Z z,J Z s,J Z r,O m n p,O u v.length y,O j g h] 31))):=(Below.refl _ _).alloc (Nat.le_refl _) _;go_enter func70,ntmps70;go_wp2_with fail;refine(Xf z s r _).mono ?_;rintro e w' ⟨rfl,N⟩;subst w';generalize Zm z s r=q at *;cases q with
 | false =>
  go_wp2_with fail;go_ret;exact⟨by rw[A.o];rfl,c.o⟩
 | true =>
  go_wp2_with fail;refine(Xz _ k f g _ H xL I _ D (E.o.below c.o)).mono ?_;rintro e P ⟨rfl,i⟩;have B:Hd _:=c.o.trans (i.mono c.o.size);clear i;go_wp2_with fail;go_ret;exact⟨by rw[A.o];rfl,B.o⟩
def WD.mn(x:WD)(s:ByteArray):MN:=mnN x.rw (zy s).es (zy s).es.length
def WD.an(x:WD)(s:ByteArray):List Int×Int×Int:=((x.mn s).sv,Yj (x.mn s).ttl 86400,nar (x.mn s).sc 0)
theorem Jm{x:WD}(h:x.right=F):M.isA x.a=F/\0<=x.b/\x.b<=32/\0<=x.d/\x.d<4294967296/\yU x.V x.L x.R x.pl=F:=by
 have e:Zm x.a x.b x.d=F/\yU x.V x.L x.R x.pl=F:=by simpa[WD.right,Zr]using h
 have c:M.isA x.a=F/\0<=x.b/\x.b<=32/\0<=x.d/\x.d<4294967296:=by simpa[Zm]using e.1
 exact⟨c.1,c.2.1,c.2.2.1,c.2.2.2.1,c.2.2.2.2,e.2⟩
theorem zfh{V L R:Nat->Int}{n:Nat}(h:yU V L R n=F):∀i,i<n->M.isP (V i) (L i)=F:=λi hi=>by
 obtain⟨_,_,a⟩:=XR h;have:n<=64/\M.okTo V L n=F:=by simpa[M.isMap]using a
 exact(M.okTo_iff.1 this.2 i hi).1
theorem zgK{x:WD}(h:x.right=F):0<=x.rw.dep/\x.rw.dep<=32:=by
 obtain⟨_,_,_,_,_,a⟩:=Jm h;exact⟨M.depTo_pos,M.depTo_le (λi hi=>(M.isP_iff.1 (zfh a i hi)).2.1)⟩
theorem zd1{s:ByteArray}(h:Q2 s=F):cpE s=0:=by simpa[Q2]using h
theorem Jl{x:WD}{s:ByteArray}(l:Q2 s=F)(i:x.right=F):∃k:Nat,1<=k/\k<=(cpX s).length/\(∀f:Int,0<=f->f<k->x.ru (cpX s) f=(11,[],0,0))/\(∀f:Int,(k:Int)<=f->x.ru (cpX s) f=(0,x.an s)):=by
 obtain⟨n,m,_,_⟩:=Xs (zd1 l);obtain⟨k,j,h,g,c⟩:=zgn (W:=x.rw) n m;have e:∀f:Int,0<=f->x.ru (cpX s) f=Yp x.rw (cpX s) f.toNat rt0:=λf h0=>by
  unfold WD.ru ruF;rw[if_neg ol,if_pos (show Zr x.a x.b x.d x.V x.L x.R x.pl=F from i)];rfl
 refine⟨k,h,j,λf h0 hfk=>?_,λf hfk=>?_⟩
 ·rw[e f h0];exact g f.toNat ol
 ·rw[e f ol];exact c f.toNat ol
theorem zgg{x:WD}{s:ByteArray}(e:Q2 s=F)(b:x.right=F):1<=(x.an s).2.1/\(x.an s).2.1<=86400/\0<=(x.an s).2.2/\(x.an s).2.2<=32/\(x.an s).2.1=(x.mn s).ttl/\(x.an s).2.2=(x.mn s).sc:=by
 obtain⟨g,_,_,_⟩:=Xs (zd1 e);obtain⟨c,d⟩:=jW g;obtain⟨i,h⟩:=zgK b;have a:=zg3 i h d;rw[Nat.sub_add_cancel c]at a;have f:1<=(x.mn s).ttl/\(x.mn s).ttl<=86400/\0<=(x.mn s).sc/\(x.mn s).sc<=32:=a;unfold WD.an Yj nar;simp only;refine⟨?_,?_,?_,?_,?_,?_⟩;all_goals (split<;>omega)
theorem zgo{x:WD}{s:ByteArray}(b:Q2 s=F)(a:x.right=F):x.ru (cpX s) (cpX s).length=(0,x.an s):=by
 obtain⟨k,_,c,_,h⟩:=Jl b a;exact h _ ol
end Go.Proofs.YtaebngpoagjafabGreat
