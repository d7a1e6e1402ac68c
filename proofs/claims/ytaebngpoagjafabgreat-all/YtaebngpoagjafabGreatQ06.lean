import Derived.Test.YtaebngpoagjafabGreatQ04
import Derived.Test.YtaebngpoagjafabGreatQ05
import Derived.Deep.DeepCutAuto
import Derived.Laws.CopyOwn
set_option maxRecDepth 100000
set_option maxHeartbeats 3200000
namespace Go.Proofs.YtaebngpoagjafabGreat
open Option renaming some → E,none → C
open Proofs.Tryz renaming prog → A
open Bool renaming true → G
open Proofs.Tryz
open Value renaming int → J, slice → O
open IntKind renaming i64 → Z
open Go.RowKit
attribute [local go_sem ↓] Go.wp_at_zero Go.wp_at_succ
theorem Xj(F f:Nat->Value)(m N:Nat)(a:Array Value)(b:∀i,i<N->a[i]?=E (f i))(i:Nat)(hi:i<N):((List.range m).map F++a.toList.drop m)[i]?=E (if i<m then F i else f i):=by
 by_cases h:i<m
 ·rw[List.getElem?_append_left (by simpa using h),if_pos h];simp[h]
 ·rw[List.getElem?_append_right ow,if_neg h];simp only[List.length_map,List.length_range,List.getElem?_drop];rw[show m+(i-m)=i from by omega];simpa using b i hi
theorem Zl{P:Program}(w:World)(L R Q c:TypeId)(sz g d s:Nat)(y:Option Addr)(a m:Nat)(t:TypeId)(N:Nat)(f F:Nat->Value)(I:P.underlying L=E (.slice c))(J:(P.info? c).map (·.size)=E sz)(U:w.rowIs g t N f)(A:a<=d)(o:0<a->∃ad,y=E ad/\∀j,j<a*sz->w.cell? (ad.add j)=E (F j))(p:∀j,j<a*sz->(F j).oneCell'=G)(r:a*sz<=N):
 ∃w',(Builtin.copy_ #[L,R] Q #[O (E ⟨g,0,C⟩) d s,O y a m]).run P w=.ok (goInt a) w'/\w'.rowIs g t N (λj=>if j<a*sz then F j else f j)/\(∀B w0,Below B w0 w->B<=g->Below B w0 w')/\∀b,b≠g->w'.heap[b]?=w.heap[b]?:=by
 obtain⟨e,D,H,K⟩:=U;have q:Nat.min a d=a:=Nat.min_eq_left A;cases hq:P.info? c with
 |none=>simp[hq]at J
 | some i =>
  have S:i.size=sz:=by simpa[hq]using J
  by_cases V:a=0
  ·subst V;have u:∀(x:Addr),(loadCells x 0).run P w=.ok #[] w:=λx=>by simpa using run_loadCells_list (P:=P) w x [] ot
   refine⟨w,?_,⟨e,D,H,λj k=>by simpa using K j k⟩,λ_ _ h _=>h,λ_ _=>rfl⟩;cases y<;>simp[Builtin.copy_,run_underlying I,Builtin.lenOf,Builtin.firstCells,sizeOf,typeInfo,hq,storeCells,u]
  ·obtain⟨ad,rfl,n⟩:=o ol;have z:((List.range (a*sz)).map F).length=a*sz:=ot;have u:=run_loadCells_list (P:=P) w ad ((List.range (a*sz)).map F) (λj v hv=>by
    have k:j<a*sz:=(by have:=(List.getElem?_eq_some_iff.1 hv).1;simpa using this);simp[k]at hv;rw[n j k,hv])
   have l:=run_storeCells_at P g 0 t ((List.range (a*sz)).map F) 0 e w D (by simpa[H]using r) (λv hv=>by
    simp only[List.mem_map,List.mem_range]at hv;obtain⟨j,k,rfl⟩:=hv;exact p j k)
   rw[z]at u l;simp only[Nat.add_zero,Nat.zero_add,List.take_zero,List.nil_append]at l;refine⟨w.setRow g ((List.range (a*sz)).map F++e.toList.drop (a*sz)).toArray,?_,⟨_,setRow_heap w g e _ t _ D,?_,λj k=>?_⟩,λB w0 h hB=>below_setRow h hB _,λb hb'=>setRow_other w g b _ hb'⟩
   ·simp[Builtin.copy_,run_underlying I,Builtin.lenOf,Builtin.firstCells,sizeOf,typeInfo,hq,S,q,u,l]
   ·simp[H];omega
   ·rw[List.getElem?_toArray];exact Xj F f _ N e K j k
def LnI(B:Nat)(w:World)(o:Option Addr)(v:Value)(n:Nat)(D:Nat->Int):Prop:=(o=C/\v=O C 0 0/\n=0)\/∃ad g f,o=E ad/\v=O (E ⟨g,0,C⟩) n (n+8)/\B<=g/\w.rowIs g 3 (n+8) f/\∀i,i<n+8->f i=J Z (ext n D i)
theorem LnI.keep{B:Nat}{w w':World}{o:Option Addr}{v:Value}{n:Nat}{D:Nat->Int}(h:LnI B w o v n D)(a:∀g,v.ownBlock=E g->w'.heap[g]?=w.heap[g]?):LnI B w' o v n D:=by
 rcases h with h|⟨ad,g,f,h1,h2,h3,h4,h5⟩
 ·exact .inl h
 ·exact .inr ⟨ad,g,f,h1,h2,h3,h4.of_block (a g (by rw[h2];rfl)),h5⟩
theorem LnI.lt{B:Nat}{w:World}{o:Option Addr}{v:Value}{n:Nat}{D:Nat->Int}(h:LnI B w o v n D){g:Nat}(a:v.ownBlock=E g):B<=g/\g<w.heap.size:=by
 rcases h with⟨_,rfl,_⟩|⟨ad,g',f,_,rfl,h3,h4,_⟩
 ·cases a
 ·cases a;exact⟨h3,h4.lt⟩
theorem LnI.below{B:Nat}{w w':World}{o:Option Addr}{v:Value}{n:Nat}{D:Nat->Int}(h:LnI B w o v n D)(a:Below w.heap.size w w'):LnI B w' o v n D:=h.keep (λg hg=>a.block g (h.lt hg).2)
theorem LnI.is_{B:Nat}{w:World}{o:Option Addr}{v:Value}{n:Nat}{D:Nat->Int}(h:LnI B w o v n D):∃o' c g,v=O o' n c/\IS w o' g 0 n D/\(0<n->B<=g/\g<w.heap.size):=by
 rcases h with⟨_,rfl,rfl⟩|⟨ad,g,f,_,rfl,h3,h4,h5⟩
 ·exact⟨C,0,0,rfl,⟨λh=>ol,λh=>ol,λi hi=>ol⟩,λh=>ol⟩
 ·refine⟨_,_,g,rfl,⟨λ_=>rfl,λ_=>h4.lt,λi hi=>?_⟩,λ_=>⟨h3,h4.lt⟩⟩;rw[Nat.zero_add,h4.cell ol,h5 i ol];simp[ext,hi]
theorem YX(o:Option Addr)(b l n c:Nat)(D:Nat->Int)(w:World)(hn:n*8<=140737488351232)(u:IS w o b l n D):
 Calls A 77 #[O o n c] w λe w'=>(∃v,e=.returned v/\LnI w.heap.size w' o v n D)/\Below w.heap.size w w':=by
 cases o with
 | none =>
  have L:n=0:=by rcases Nat.eq_zero_or_pos n with h|h;exact h;cases u.at_ h
  subst L;have d:=λw=>Lib.run_eql_slice_nil (P:=A) w 25 3 C 0 c 0 0 underlying25
  simp only[Option.isNone]at d;go_enter func77,ntmps77;go_wp2_with fail;go_ret;exact⟨⟨_,rfl,.inl ⟨rfl,rfl,rfl⟩⟩,Below.refl _ _⟩
 | some ad =>
  obtain⟨i0,G,R,z,Q⟩:=info_parts infoInt;have d:=λw=>Lib.run_eql_slice_nil (P:=A) w 25 3 (E ad) n c 0 0 underlying25
  simp only[Option.isNone]at d;have HS:Hd (IS w (E ad) b l n D):=u;have HC:Hd (∀s,Below w.heap.size w s->0<n->∃ad',E ad=E ad'/\∀j,j<n*1->s.cell? (ad'.add j)=E (J Z (D j))):=λs y L=>⟨ad,rfl,λj hj=>by
   have:=u.at_ L
   cases this
   rw[show(⟨b,l,C⟩:Addr).add j=⟨b,l+j,C⟩from by unfold Addr.add;split<;>simp_all];exact(y.cell (p:=⟨b,l+j,C⟩) (u.lt L)).trans (u.val j ol)⟩
  have B:(Tryz.prog.info? 3).map (·.size)=E 1:=by rw[G];simp[z]
  clear u;go_enter func77,ntmps77;go_wp2_with (at_make;refine wpList_make_full _ rfl _ _ 25 rfl w.heap.size 3 i0 (J Z 0) 1 underlying25 G R z .i64 .i64 _ _ (n+8) rfl rfl ol ol (by rw[Q];omega) mr (Nat.le_refl _) ?_;intro s r g;obtain⟨W,q⟩:=yd r rfl;have t:Below w.heap.size w s:=yI g;obtain⟨N,V,F,H,_⟩:=Zl (P:=A) s 25 25 3 3 1 w.heap.size (n+8) (n+8) (E ad) n c 3 ((n+8)*1) W (λi=>J Z (D i)) underlying25 B q ol (HC.o s t) (λj hj=>rfl) ol;have I:Hd (N.rowIs w.heap.size 3 ((n+8)*1) (λj=>if j<n*1 then J Z (D j)else W j)):=F;have K:Hd (Below w.heap.size w N):=H _ _ t (Nat.le_refl _);clear r g q t F H)
  have m:N.rowIs w.heap.size 3 (n+8) (λj=>if j<n*1 then J Z (D j)else W j):=by have:=I.o;rw[Nat.mul_one]at this;exact this
  clear d HC I V;go_loopw [5] (λx wr=>∃(k:Nat) (f:Nat->Value),n<=k/\k<=n+8/\x=J Z k/\wr.rowIs w.heap.size 3 (n+8) f/\Hd (∀i,i<k->f i=J Z (ext n D i))/\Below w.heap.size w wr) (λx _=>n+8-(intOf x).toNat)
  case atStart=>exact⟨n,_,Nat.le_refl _,ol,rfl,m,λi G=>by simp[ext,G],K.o⟩
  case round =>
   obtain⟨k,f,a0,hk,rfl,a,hf,y⟩:=hrel;clear m K;by_cases S:k<n+8
   ·have c0:=a.cell (i:=k) S;have z0:=a.frozen k;have HR:Hd (wr.rowIs w.heap.size 3 (n+8) f):=a;have X:Hd (Below w.heap.size w wr):=y;have Y:(k:Int)<(n:Int)+8:=ol;clear a y;go_wp2_with fail;go_roundw
    case rel=>exact⟨k+1,_,ol,ol,by go_num,HR.o.set k _,λi G=>by
     by_cases e:i=k
     ·simp only[e,if_true];rw[ext,if_neg ol]
     ·simp only[e,if_false];exact hf.o i ol,X.o.setCell (Nat.le_refl _) _⟩
    case measure=>simp[intOf];omega
   ·have U:k=n+8:=(by omega);subst U;have X:Hd (Below w.heap.size w wr):=y;clear y;go_wp2_with fail;go_ret;exact⟨⟨_,rfl,.inr ⟨ad,_,f,rfl,rfl,Nat.le_refl _,a,hf.o⟩⟩,X.o⟩
theorem Yk(w:World)(r:Option Nat):w.grownBy w r:=⟨rfl,rfl,rfl,Nat.le_refl _,λ_ _ _=>rfl⟩
theorem yE{w w':World}{g:Nat}(h:w.grownBy w' (E g))(i:Nat)(v:Value):w.grownBy (w'.setCell ⟨g,i,C⟩ v) (E g) :=
 ⟨h.os,h.tape,h.output,by have:=h.size;simpa[World.setCell]using this,λk hk hne=>(za (λe=>hne (by rw[e]))).trans (h.block k hk hne)⟩
theorem ZX(B:Nat)(v:Value)(o:Option Addr)(b j n c:Nat)(D:Nat->Int)(u:Int)(w:World)(hn:n*8<=140737488351232)(V:IS w o b j n D)(l:0<n->b<B)(X:LnI B w o v n D):
 Calls A 79 #[v,O o n c,J Z u] w λe w'=>e=.returned (.bool G)/\w.grownBy w' v.ownBlock/\∀g,v.ownBlock=E g->w'.rowIs g 3 (n+8) (λ_=>J Z u):=by
 rcases X with⟨rfl,rfl,rfl⟩|⟨ad,g,f0,rfl,rfl,hBg,hrow0,hf0⟩
 ·have a:=λw=>Lib.run_eql_slice_nil (P:=A) w 25 3 C 0 c 0 0 underlying25
  simp only[Option.isNone]at a;go_enter func79,ntmps79;go_wp2_with fail;go_ret;exact⟨rfl,Yk _ _,λg hg=>by cases hg⟩
 ·have a:=λw=>Lib.run_eql_slice_nil (P:=A) w 25 3 (E ad) n c 0 0 underlying25
  simp only[Option.isNone]at a;have Q:Hd (IS w (E ad) b j n D):=V;have R:Hd _:=hrow0;have S:Hd _:=hf0;have U:Hd _:=l;clear V hrow0 hf0 l;show Calls _ _ _ _ λe w'=>e=.returned (.bool G)/\w.grownBy w' (E g)/\∀g',E g=E g'->w'.rowIs g' 3 (n+8) (λ_=>J Z u)
  go_enter func79,ntmps79;go_wp2_with fail;clear a;go_loopw [9,10] (λy x wr=>∃(k:Nat) (f:Nat->Value),k<=n+8/\x=J Z k/\y=.bool G/\wr.rowIs g 3 (n+8) f/\Hd (∀i,i<k->f i=J Z u)/\Hd (∀i,k<=i->i<n+8->f i=J Z (ext n D i))/\w.grownBy wr (E g)) (λ_ x _=>n+8-(intOf x).toNat)
  case atStart=>exact⟨0,f0,ol,rfl,rfl,R.o,λi hi=>ol,λi _ hi=>S.o i hi,Yk _ _⟩
  case round =>
   obtain⟨k,f,hk,rfl,rfl,h,s,r,q⟩:=hrel;have F:Hd (wr.rowIs g 3 (n+8) f):=h;have H:Hd (w.grownBy wr (E g)):=q;clear h q;by_cases m:k<n+8
   ·have N:=F.o.cell (i:=k) m;have Y:=F.o.frozen k;have I:=r.o k (Nat.le_refl _) m;rw[I]at N;have W:(k:Int)<(n:Int)+8:=ol;have z:Hd (∀i,i<k+1->(if i=k then J Z u else f i)=J Z u):=λi hi=>by
     by_cases e:i=k
     ·rw[if_pos e]
     ·rw[if_neg e];exact s.o i ol
    have t:Hd (∀i,k+1<=i->i<n+8->(if i=k then J Z u else f i)=J Z (ext n D i)):=λi h1 h2=>by rw[if_neg ol];exact r.o i ol h2
    by_cases d:k<n
    ·have L:=Q.o.at_ ol;cases L
     have K:=Q.o.lt ol;have l:=U.o ol;have cv:=(H.o.cell_far ⟨b,j+k,C⟩ K ow).trans (Q.o.val k d);rw[ext,if_pos d]at N;have p:(k:Int)<(n:Int):=ol;go_wp2_with fail;go_roundw
     case rel=>exact⟨k+1,_,ol,by go_num,rfl,F.o.set k _,z,t,yE H.o _ _⟩
     case measure=>simp[intOf];omega
    ·rw[ext,if_neg d]at N;have p:¬(k:Int)<(n:Int):=ol;go_wp2_with fail;go_roundw
     case rel=>exact⟨k+1,_,ol,by go_num,rfl,F.o.set k _,z,t,yE H.o _ _⟩
     case measure=>simp[intOf];omega
   ·have d:k=n+8:=(by omega);subst d;go_wp2_with fail;go_ret;exact⟨rfl,H.o,λg' e=>by cases e;exact F.o.congr (λi hi=>s.o i hi)⟩
def bsL(s:ByteArray):List Int:=(List.range s.size).map (T.ch s)
theorem Xc(s:ByteArray):(bsL s).length=s.size:=by simp[bsL]
theorem zaQ(s:ByteArray){i:Nat}(h:i<s.size):(bsL s)[i]?=E (T.ch s i):=by simp[bsL,h]
theorem zbl(s:ByteArray):∀x∈bsL s,0<=x/\x<256:=λx hx=>by
 simp only[bsL,List.mem_map,List.mem_range]at hx;obtain⟨i,a,rfl⟩:=hx;unfold T.ch;rw[dif_pos a];have:=(s[i]).toNat_lt
 omega
theorem zfT(s:ByteArray):strOfNums (bsL s)=s:=by
 apply ByteArray.ext
 apply Array.ext
 ·simp[strOfNums,bsL]
 ·intro i c b;have a:i<s.size:=b;have e:s[i]=s.data[i]:=rfl;simp[strOfNums,bsL,T.ch,a,e]
theorem jH{P:Program}(w:World)(x z y a:TypeId)(g c n:Nat)(s:ByteArray)(t:TypeId)(N:Nat)(f:Nat->Value)(A:P.underlying x=E (.slice a))(D:(P.info? a).map (·.size)=E 1)(G:w.rowIs g t N f)(p:s.size<=c)(m:s.size<=N):
 ∃w',(Builtin.copy_ #[x,z] y #[O (E ⟨g,0,C⟩) c n,.string s]).run P w=.ok (goInt s.size) w'/\w'.rowIs g t N (λj=>if j<s.size then J .u8 (T.ch s j)else f j)/\∀B w0,Below B w0 w->B<=g->Below B w0 w':=by
 obtain⟨d,r,u,H⟩:=G;have l:Nat.min s.size c=s.size:=Nat.min_eq_left p;have o:List.take s.size (List.map (λb:UInt8=>Value.int IntKind.u8 (b.toNat:Int)) s.data.toList)=(List.range s.size).map (λj=>J .u8 (T.ch s j)):=by
  apply List.ext_getElem?
  intro i;by_cases F:i<s.size
  ·have e:s[i]=s.data[i]:=rfl;simp[F,T.ch,e]
  ·rw[List.getElem?_eq_none ow,List.getElem?_eq_none ow]
 cases hq:P.info? a with
 |none=>simp[hq]at D
 | some i =>
  have k:=run_storeCells_at P g 0 t ((List.range s.size).map (λj=>J .u8 (T.ch s j))) 0 d w r (by simpa[u]using m) (λv hv=>by
   simp only[List.mem_map,List.mem_range]at hv;obtain⟨j,q,rfl⟩:=hv;rfl)
  simp only[List.length_map,List.length_range,Nat.add_zero,Nat.zero_add,List.take_zero,List.nil_append]at k;refine⟨w.setRow g ((List.range s.size).map (λj=>Value.int .u8 (T.ch s j))++d.toList.drop s.size).toArray,?_,⟨_,setRow_heap w g d _ t _ r,?_,λj q=>?_⟩,λB w0 h hB=>below_setRow h hB _⟩
  ·simp[Builtin.copy_,run_underlying A,Builtin.lenOf,Builtin.firstCells,sizeOf,typeInfo,hq,l];rw[o,k];simp[Result.andThen]
  ·simp[u];omega
  ·rw[List.getElem?_toArray];exact Xj (λj=>J .u8 (T.ch s j)) f _ N d H j q
def LnB(B:Nat)(w:World)(v:Value)(s:ByteArray):Prop:=∃g f,v=O (E ⟨g,0,C⟩) s.size (s.size+8)/\B<=g/\w.rowIs g 5 (s.size+8) f/\∀i,i<s.size+8->f i=J .u8 (ext s.size (T.ch s) i)
theorem Xl(s:ByteArray)(w:World)(S:s.size<=140737488351232):
 Calls A 66 #[.string s] w λe w'=>(∃v,e=.returned v/\LnB w.heap.size w' v s)/\Below w.heap.size w w':=by
 obtain⟨N,n,B,h,z⟩:=info_parts infoByte;have l:(Tryz.prog.info? 5).map (·.size)=E 1:=by rw[n];simp[h]
 go_enter func66,ntmps66;go_wp2_with (at_make;refine wpList_make_full _ rfl _ _ 57 rfl w.heap.size 5 N (J .u8 0) 1 underlying57 n B h .i64 .i64 _ _ (s.size+8) rfl rfl ol ol (by rw[z];omega) mr (Nat.le_refl _) ?_;intro I g b;obtain⟨G,d⟩:=yd g rfl;have q:Below w.heap.size w I:=yI b;obtain⟨y,F,m,p⟩:=jH (P:=A) I 57 9 3 5 w.heap.size (s.size+8) (s.size+8) s 5 ((s.size+8)*1) G underlying57 l d ol ol;have r:Hd (y.rowIs w.heap.size 5 ((s.size+8)*1) (λj=>if j<s.size then J .u8 (T.ch s j)else G j)):=m;have t:Hd (Below w.heap.size w y):=p _ _ q (Nat.le_refl _);clear g b d q m p)
 have c:y.rowIs w.heap.size 5 (s.size+8) (λj=>if j<s.size then J .u8 (T.ch s j)else G j):=by have:=r.o;rw[Nat.mul_one]at this;exact this
 clear r F;go_loopw [5] (λx wr=>∃(k:Nat) (f:Nat->Value),s.size<=k/\k<=s.size+8/\x=J Z k/\wr.rowIs w.heap.size 5 (s.size+8) f/\Hd (∀i,i<k->f i=J .u8 (ext s.size (T.ch s) i))/\Below w.heap.size w wr) (λx _=>s.size+8-(intOf x).toNat)
 case atStart=>exact⟨s.size,_,Nat.le_refl _,ol,rfl,c,λi n=>by simp[ext,n],t.o⟩
 case round =>
  obtain⟨k,f,O,U,rfl,a,L,u⟩:=hrel;clear c t;by_cases C:k<s.size+8
  ·have V:=a.cell (i:=k) C;have R:=a.frozen k;have Q:Hd (wr.rowIs w.heap.size 5 (s.size+8) f):=a;have H:Hd (Below w.heap.size w wr):=u;have K:(k:Int)<(s.size:Int)+8:=ol;clear a u;go_wp2_with fail;go_roundw
   case rel=>exact⟨k+1,_,ol,ol,by go_num,Q.o.set k _,λi n=>by
    by_cases e:i=k
    ·simp only[e,if_true];rw[ext,if_neg ol]
    ·simp only[e,if_false];exact L.o i ol,H.o.setCell (Nat.le_refl _) _⟩
   case measure=>simp[intOf];omega
  ·have D:k=s.size+8:=(by omega);subst D;have H:Hd (Below w.heap.size w wr):=u;clear u;go_wp2_with fail;go_ret;exact⟨⟨_,rfl,_,f,rfl,Nat.le_refl _,a,L.o⟩,H.o⟩
theorem xn(B:Nat)(v:Value)(s:ByteArray)(w:World)(L:s.size<=140737488351232)(F:LnB B w v s):
 Calls A 68 #[v,.string s] w λe w'=>e=.returned (.bool G)/\w.grownBy w' v.ownBlock:=by
 obtain⟨g,I,rfl,H,a,d⟩:=F;have n:=run_convert_bytes_arg (P:=A) w 57 5 underlying57 underlying5 g 0 s.size (s.size+8) (bsL s) (Xc s) (λi hi=>by
  rw[Nat.zero_add,a.cell ol,d i ol];simp[ext,hi,zaQ s hi]) 9 underlying9
 rw[zfT]at n;have u:Hd _:=a;have C:Hd _:=d;clear a d;show Calls _ _ _ _ λe w'=>e=.returned (.bool G)/\w.grownBy w' (E g)
 go_enter func68,ntmps68;go_wp2_with fail;clear n;go_loopw [7,8] (λy x wr=>∃(k:Nat) (f:Nat->Value),k<=s.size+8/\x=J Z k/\y=.bool G/\wr.rowIs g 5 (s.size+8) f/\Hd (∀i,k<=i->i<s.size+8->f i=J .u8 (ext s.size (T.ch s) i))/\w.grownBy wr (E g)) (λ_ x _=>s.size+8-(intOf x).toNat)
 case atStart=>exact⟨0,I,ol,rfl,rfl,u.o,λi _ hi=>C.o i hi,Yk _ _⟩
 case round =>
  obtain⟨k,f,N,rfl,rfl,c,m,l⟩:=hrel;have q:Hd (wr.rowIs g 5 (s.size+8) f):=c;have z:Hd _:=l;clear c l;by_cases h:k<s.size+8
  ·have t:=q.o.cell (i:=k) h;have K:=q.o.frozen k;have r:=m.o k (Nat.le_refl _) h;rw[r]at t;have D:(k:Int)<(s.size:Int)+8:=ol;have p:Hd (∀i,k+1<=i->i<s.size+8->(if i=k then Value.int .u8 0 else f i)=J .u8 (ext s.size (T.ch s) i)):=λi h1 h2=>by rw[if_neg ol];exact m.o i ol h2
   by_cases b:k<s.size
   ·rw[ext,if_pos b]at t;have j:(k:Int)<(s.size:Int):=ol;go_wp2_with fail;go_roundw
    case rel=>exact⟨k+1,_,ol,by go_num,rfl,q.o.set k _,p,yE z.o _ _⟩
    case measure=>simp[intOf];omega
   ·rw[ext,if_neg b]at t;have j:¬(k:Int)<(s.size:Int):=ol;go_wp2_with fail;go_roundw
    case rel=>exact⟨k+1,_,ol,by go_num,rfl,q.o.set k _,p,yE z.o _ _⟩
    case measure=>simp[intOf];omega
  ·have b:k=s.size+8:=(by omega);subst b;go_wp2_with fail;go_ret;exact⟨rfl,z.o⟩
def plF(V L R:Nat->Int)(j:Nat):Value:=if j%3=0 then J Z (V (j / 3))else if j%3=1 then J Z (L (j / 3))else J Z (R (j / 3))
theorem zdu(V L R:Nat->Int)(i:Nat):plF V L R (i*3)=J Z (V i)/\plF V L R (i*3+1)=J Z (L i)/\plF V L R (i*3+2)=J Z (R i):=by
 unfold plF;rw[show i*3%3=0 from by omega,show i*3 / 3=i from by omega,show(i*3+1)%3=1 from by omega,show(i*3+1) / 3=i from by omega,show(i*3+2)%3=2 from by omega,show(i*3+2) / 3=i from by omega];simp
def P3(f:Nat->Value)(i:Nat)(a b c:Int):Prop:=f (i*3)=J Z a/\f (i*3+1)=J Z b/\f (i*3+2)=J Z c
def Q7(f:Nat->Value)(k:Nat)(x y z:Value)(j:Nat):Value:=if j=k*3+2 then z else if j=k*3+1 then y else if j=k*3 then x else f j
theorem jI{w:World}{g t N:Nat}{f:Nat->Value}(h:w.rowIs g t N f)(k:Nat)(x y z:Value):(((w.setCell ⟨g,k*3,C⟩ x).setCell ⟨g,k*3+1,C⟩ y).setCell ⟨g,k*3+2,C⟩ z).rowIs g t N (Q7 f k x y z):=((h.set _ _).set _ _).set _ _
theorem zcZ{f:Nat->Value}{k:Nat}{x y z:Value}{i:Nat}(h:i≠k){a b c:Int}(d:P3 f i a b c):P3 (Q7 f k x y z) i a b c:=by
 unfold P3 Q7;rw[if_neg ol,if_neg ol,if_neg ol,if_neg ol,if_neg ol,if_neg ol,if_neg ol,if_neg ol,if_neg ol];exact d
theorem zgi(f:Nat->Value)(k:Nat)(a b c:Int):P3 (Q7 f k (J Z a) (J Z b) (J Z c)) k a b c:=by
 unfold P3 Q7;simp
def LnP(B:Nat)(w:World)(o:Option Addr)(v:Value)(n:Nat)(V L R:Nat->Int):Prop:=(o=C/\v=O C 0 0/\n=0)\/∃ad g f,o=E ad/\v=O (E ⟨g,0,C⟩) n (n+8)/\B<=g/\w.rowIs g 96 ((n+8)*3) f/\∀i,i<n+8->P3 f i (ext n V i) (ext n L i) (ext n R i)
theorem LnP.keep{B:Nat}{w w':World}{o:Option Addr}{v:Value}{n:Nat}{V L R:Nat->Int}(h:LnP B w o v n V L R)(a:∀g,v.ownBlock=E g->w'.heap[g]?=w.heap[g]?):LnP B w' o v n V L R:=by
 rcases h with h|⟨ad,g,f,h1,h2,h3,h4,h5⟩
 ·exact .inl h
 ·exact .inr ⟨ad,g,f,h1,h2,h3,h4.of_block (a g (by rw[h2];rfl)),h5⟩
theorem LnP.lt{B:Nat}{w:World}{o:Option Addr}{v:Value}{n:Nat}{V L R:Nat->Int}(h:LnP B w o v n V L R){g:Nat}(a:v.ownBlock=E g):B<=g/\g<w.heap.size:=by
 rcases h with⟨_,rfl,_⟩|⟨ad,g',f,_,rfl,h3,h4,_⟩
 ·cases a
 ·cases a;exact⟨h3,h4.lt⟩
theorem LnP.below{B:Nat}{w w':World}{o:Option Addr}{v:Value}{n:Nat}{V L R:Nat->Int}(h:LnP B w o v n V L R)(a:Below w.heap.size w w'):LnP B w' o v n V L R:=h.keep (λg hg=>a.block g (h.lt hg).2)
theorem LnP.ts{B:Nat}{w:World}{o:Option Addr}{v:Value}{n:Nat}{V L R:Nat->Int}(h:LnP B w o v n V L R):∃o' c g,v=O o' n c/\TS w o' g 0 n V L R:=by
 rcases h with⟨_,rfl,rfl⟩|⟨ad,g,f,_,rfl,h3,h4,h5⟩
 ·exact⟨C,0,0,rfl,⟨λh=>ol,λh=>ol,λi hi=>ol,λi hi=>ol,λi hi=>ol⟩⟩
 ·refine⟨_,_,g,rfl,⟨λ_=>rfl,λ_=>h4.lt,λi hi=>?_,λi hi=>?_,λi hi=>?_⟩⟩
  ·rw[Nat.zero_add,h4.cell ol,(h5 i ol).1];simp[ext,hi]
  ·rw[Nat.zero_add,h4.cell ol,(h5 i ol).2.1];simp[ext,hi]
  ·rw[Nat.zero_add,h4.cell ol,(h5 i ol).2.2];simp[ext,hi]
theorem xu(o:Option Addr)(b s n c:Nat)(V L R:Nat->Int)(w:World)(hn:n*24<=140737488351232)(z:TS w o b s n V L R):
 Calls A 80 #[O o n c] w λe w'=>(∃v,e=.returned v/\LnP w.heap.size w' o v n V L R)/\Below w.heap.size w w':=by
 cases o with
 | none =>
  have Q:n=0:=by rcases Nat.eq_zero_or_pos n with h|h;exact h;cases z.at_ h
  subst Q;have d:=λw=>Lib.run_eql_slice_nil (P:=A) w 29 96 C 0 c 0 0 underlying29
  simp only[Option.isNone]at d;go_enter func80,ntmps80;go_wp2_with fail;go_ret;exact⟨⟨_,rfl,.inl ⟨rfl,rfl,rfl⟩⟩,Below.refl _ _⟩
 | some ad =>
  obtain⟨i0,K,Y,G,X⟩:=info_parts infoPlace;have d:=λw=>Lib.run_eql_slice_nil (P:=A) w 29 96 (E ad) n c 0 0 underlying29
  simp only[Option.isNone]at d;have HC:Hd (∀y,Below w.heap.size w y->0<n->∃ad',E ad=E ad'/\∀j,j<n*3->y.cell? (ad'.add j)=E (plF V L R j)):=λy F Q=>⟨ad,rfl,λj hj=>by
   have:=z.at_ Q
   cases this
   rw[show(⟨b,s,C⟩:Addr).add j=⟨b,s+j,C⟩from by unfold Addr.add;split<;>simp_all,F.cell (p:=⟨b,s+j,C⟩) (z.lt Q)];obtain⟨i,r,rfl,hr⟩:∃i r,j=i*3+r/\r<3:=⟨j / 3,j%3,ol,ol⟩;obtain⟨W,U,p2⟩:=zdu V L R i;rcases r with _|_|_|r
   ·rw[Nat.add_zero,W];exact z.val i ol
   ·rw[U];exact z.len i ol
   ·rw[p2];exact z.reg i ol
   ·omega⟩
  have H:(Tryz.prog.info? 96).map (·.size)=E 3:=by rw[K];simp[G]
  clear z;go_enter func80,ntmps80;go_wp2_with (at_make;refine wpList_make_full _ rfl _ _ 29 rfl w.heap.size 96 i0 (.agg #[J Z 0,J Z 0,J Z 0]) 3 underlying29 K Y G .i64 .i64 _ _ (n+8) rfl rfl ol ol (by rw[X];omega) mr (Nat.le_refl _) ?_;intro y q g;obtain⟨f0,l⟩:=yd q rfl;have D:Below w.heap.size w y:=yI g;obtain⟨w1,a1,I,N,_⟩:=Zl (P:=A) y 29 29 3 96 3 w.heap.size (n+8) (n+8) (E ad) n c 96 ((n+8)*3) f0 (plF V L R) underlying29 H l ol (HC.o y D) (λj hj=>by unfold plF;split<;>(try split)<;>rfl) ol;have t:Hd (w1.rowIs w.heap.size 96 ((n+8)*3) (λj=>if j<n*3 then plF V L R j else f0 j)):=I;have u:Hd (Below w.heap.size w w1):=N _ _ D (Nat.le_refl _);clear q g l D I N)
  clear d HC a1;go_loopw [5] (λx wr=>∃(k:Nat) (f:Nat->Value),n<=k/\k<=n+8/\x=J Z k/\wr.rowIs w.heap.size 96 ((n+8)*3) f/\Hd (∀i,i<k->P3 f i (ext n V i) (ext n L i) (ext n R i))/\Below w.heap.size w wr) (λx _=>n+8-(intOf x).toNat)
  case atStart =>
   refine⟨n,_,Nat.le_refl _,ol,rfl,t.o,λi K=>?_,u.o⟩;obtain⟨W,U,p2⟩:=zdu V L R i;unfold P3;dsimp only
   rw[if_pos ol,if_pos ol,if_pos ol,W,U,p2];simp[ext,K]
  case round =>
   obtain⟨k,f,a5,hk,rfl,m,hf,F⟩:=hrel;clear t u;by_cases a4:k<n+8
   ·have HR:Hd _:=m;have S:Hd _:=F;have a2:(k:Int)<(n:Int)+8:=ol;clear m F;go_wp2_with fail;refine(Qa _).mono ?_;rintro e a3 ⟨rfl,B⟩;have a:=yQ HR.o B;have t:Hd _:=a;have u:Hd _:=S.o.trans (B.mono S.o.size);have c0:=a.cell (i:=k*3) ol;have c1:=a.cell (i:=k*3+1) ol;have c2:=a.cell (i:=k*3+2) ol;have z0:=a.frozen (k*3);have z1:=a.frozen (k*3+1);have z2:=a.frozen (k*3+2);clear B a;go_wp2_with fail;go_roundw
    case rel=>exact⟨k+1,_,ol,ol,by go_num,jI t.o k _ _ _,λi K=>by
     by_cases e:i=k
     ·subst e;rw[ext,if_neg ol,ext,if_neg ol,ext,if_neg ol];exact zgi f i 77 77 77
     ·exact zcZ e (hf.o i ol),((u.o.setCell (Nat.le_refl _) _).setCell (Nat.le_refl _) _).setCell (Nat.le_refl _) _⟩
    case measure=>simp[intOf];omega
   ·have a0:k=n+8:=(by omega);subst a0;have S:Hd _:=F;clear F;go_wp2_with fail;go_ret;exact⟨⟨_,rfl,.inr ⟨ad,_,f,rfl,rfl,Nat.le_refl _,m,hf.o⟩⟩,S.o⟩
theorem zea(d:Nat)(a b c:Int)(w:World):(Op.equalIn (d+3) 96 (.agg #[J Z a,J Z b,J Z c]) (.agg #[J Z a,J Z b,J Z c])).run A w=.ok G w:=by
 have m:=underlying3;have k:Tryz.prog.underlying 96=E (.struct (Tryz.prog.fieldsOf 96)):=kr;have j:Tryz.prog.stoodInHeld 96=false:=kr;have g:Tryz.prog.underlying 94=E (.struct (Tryz.prog.fieldsOf 94)):=kr;have f:Tryz.prog.stoodInHeld 94=false:=kr;have l:∀e,(Op.equalIn (e+2) 94 (.agg #[J Z a,J Z b]) (.agg #[J Z a,J Z b])).run A w=.ok G w:=λe=>by
  rw[run_equalIn_agg w (e+1) 94 _ _ g f];simp only[Program.fieldsOf,underlying94];go_simp
 rw[run_equalIn_agg w (d+2) 96 _ _ k j];simp only[Program.fieldsOf,underlying96];have i:∀w,(part 94 #[J Z a,J Z b,J Z c] 0).run A w=.ok (.agg #[J Z a,J Z b]) w:=λw=>kr
 have h:∀w,(part 3 #[J Z a,J Z b,J Z c] 2).run A w=.ok (J Z c) w:=λw=>kr
 simp[Op.eqFields,i,h,l];go_simp
theorem zbf(a b c:Int)(w:World):(Op.equalIn 10000 96 (.agg #[J Z a,J Z b,J Z c]) (.agg #[J Z a,J Z b,J Z c])).run A w=.ok G w:=zea 9997 a b c w
theorem zem(w:World):(Instr.build 96 #[]).run A w=.ok (.agg #[J Z 0,J Z 0,J Z 0]) w:=run_build w 96 _ _ kr
theorem Yw{w b c:World}{r:Option Nat}(h:w.grownBy b r)(a:Below b.heap.size b c):w.grownBy c r :=
 ⟨a.os.trans h.os,a.tape.trans h.tape,a.output.trans h.output,Nat.le_trans h.size a.size,λk hk hne=>(a.block k (Nat.lt_of_lt_of_le hk h.size)).trans (h.block k hk hne)⟩
theorem Z5(B:Nat)(v:Value)(o:Option Addr)(b l n c:Nat)(V L R:Nat->Int)(w:World)(hn:n*24<=140737488351232)(hs:TS w o b l n V L R)(r:0<n->b<B)(hl:LnP B w o v n V L R):
 Calls A 82 #[v,O o n c] w λe w'=>e=.returned (.bool G)/\w.grownBy w' v.ownBlock:=by
 rcases hl with⟨rfl,rfl,rfl⟩|⟨ad,g,f0,rfl,rfl,hBg,hrow0,hf0⟩
 ·have h:=λw=>Lib.run_eql_slice_nil (P:=A) w 29 96 C 0 c 0 0 underlying29
  simp only[Option.isNone]at h;go_enter func82,ntmps82;go_wp2_with fail;go_ret;exact⟨rfl,Yk _ _⟩
 ·have h:=λw=>Lib.run_eql_slice_nil (P:=A) w 29 96 (E ad) n c 0 0 underlying29
  simp only[Option.isNone]at h;have F:Hd _:=hs;have W:Hd _:=hrow0;have X:Hd _:=hf0;have Y:Hd _:=r;have a3:=λw=>zem w
  clear hs hrow0 hf0 r;show Calls _ _ _ _ λe w'=>e=.returned (.bool G)/\w.grownBy w' (E g)
  go_enter func82,ntmps82;go_wp2_with fail;clear h;go_loopw [7,8] (λy x wr=>∃(k:Nat) (f:Nat->Value),k<=n+8/\x=J Z k/\y=.bool G/\wr.rowIs g 96 ((n+8)*3) f/\Hd (∀i,k<=i->i<n+8->P3 f i (ext n V i) (ext n L i) (ext n R i))/\w.grownBy wr (E g)) (λ_ x _=>n+8-(intOf x).toNat)
  case atStart=>exact⟨0,f0,ol,rfl,rfl,W.o,λi _ hi=>X.o i hi,Yk _ _⟩
  case round =>
   obtain⟨k,f,hk,rfl,rfl,q,z,u⟩:=hrel;have HR:Hd _:=q;have HG:Hd _:=u;clear q u;by_cases K:k<n+8
   ·have a0:(k:Int)<(n:Int)+8:=(by omega);have D:Hd (∀i,k+1<=i->i<n+8->P3 (Q7 f k (J Z 0) (J Z 0) (J Z 0)) i (ext n V i) (ext n L i) (ext n R i)):=λi h1 h2=>zcZ ol (z.o i ol h2)
    go_wp2_with fail;refine(Qa _).mono ?_;rintro e I ⟨rfl,s⟩;have a:=yQ HR.o s;have H:Hd _:=a;have j:Hd (w.grownBy I (E g)):=Yw HG.o s;have U:=a.cell (i:=k*3) ol;have S:=a.cell (i:=k*3+1) ol;have Q:=a.cell (i:=k*3+2) ol;have z0:=a.frozen (k*3);have z1:=a.frozen (k*3+1);have z2:=a.frozen (k*3+2);have a2:g<I.heap.size:=a.lt;have m:=z.o k (Nat.le_refl _) K;rw[m.1]at U;rw[m.2.1]at S;rw[m.2.2]at Q;clear s a m;by_cases d:k<n
    ·have N:=F.o.at_ ol;cases N
     have p:=F.o.lt ol;have r:=Y.o ol;have cv:=(j.o.cell_far ⟨b,l+k*3,C⟩ p ow).trans (F.o.val k d);have cl:=(j.o.cell_far ⟨b,l+k*3+1,C⟩ p ow).trans (F.o.len k d);have cr:=(j.o.cell_far ⟨b,l+k*3+2,C⟩ p ow).trans (F.o.reg k d);rw[ext,if_pos d]at U S Q;have t:(k:Int)<(n:Int):=ol;have hq:=λw=>zbf (V k) (L k) (R k) w
     have a1:b<I.heap.size:=Nat.lt_of_lt_of_le p j.o.size;go_wp2_with fail;go_quiet (fail)
     go_wp2_with fail;go_roundw
     case rel=>exact⟨k+1,_,ol,by go_num,rfl,jI (yQ H.o (zC ((Below.refl _ _).alloc (Nat.le_refl _) _) _)) k _ _ _,D,yE (yE (yE (Yw j.o (zC ((Below.refl _ _).alloc (Nat.le_refl _) _) _)) _ _) _ _) _ _⟩
     case measure=>simp[intOf];omega
    ·rw[ext,if_neg d]at U S Q;have t:¬(k:Int)<(n:Int):=ol;have hq:=λw=>zbf 77 77 77 w
     go_wp2_with fail;go_quiet (fail)
     go_wp2_with fail;go_roundw
     case rel=>exact⟨k+1,_,ol,by go_num,rfl,jI (yQ H.o (zC ((Below.refl _ _).alloc (Nat.le_refl _) _) _)) k _ _ _,D,yE (yE (yE (Yw j.o (zC ((Below.refl _ _).alloc (Nat.le_refl _) _) _)) _ _) _ _) _ _⟩
     case measure=>simp[intOf];omega
   ·have d:k=n+8:=(by omega);subst d;go_wp2_with fail;go_ret;exact⟨rfl,HG.o⟩
def liF(l:List Int)(i:Nat):Int:=(l[i]?).getD 0
theorem AS.is_{w:World}{base:Nat}{o:Option Addr}{d a:Nat}{al:List (List Int)}(h:AS w base o d a al)(f:base<=w.heap.size){k:Nat}{l:List Int}(e:al[k]?=E l):∃lo lc lb loff,w.cell? ⟨d,a+k,C⟩=E (O lo l.length lc)/\IS w lo lb loff l.length (liF l)/\(0<l.length->lb<base):=by
 obtain⟨lo,lc,c,n⟩:=h.val k l e;rcases Nat.eq_zero_or_pos l.length with h0|h0
 ·exact⟨lo,lc,0,0,c,⟨λh=>ol,λh=>ol,λi hi=>ol⟩,λh=>ol⟩
 ·obtain⟨lb,loff,m,j,g⟩:=n h0;refine⟨lo,lc,lb,loff,c,⟨λ_=>m,λ_=>ol,λi hi=>?_⟩,λ_=>j⟩;have b:l[i]?=E l[i]:=List.getElem?_eq_getElem hi;rw[g i _ b,liF,b];rfl
structure LnA (w:World) (ab aoff:Nat) (al:List (List Int)) (ga gm:Nat) (fa fm:Nat->Value) (S:Nat->Nat) (k0 k:Nat):Prop where
 mono:∀i,i<k->S i<=S (i+1)
 top:S k<=w.heap.size
 lo:ga<S 0/\gm<S 0
 own:∀i l,k0<=i->i<k->al[i]?=E l->fa i=fm i/\(∃lo lc,w.cell? ⟨ab,aoff+i,C⟩=E (O lo l.length lc)/\LnI (S i) w lo (fm i) l.length (liF l))/\∀g,(fm i).ownBlock=E g->g<S (i+1)
 far:∀i,k0<=i->i<k->al.length<=i->∃h,fa i=O (E ⟨h,0,C⟩) 1 1/\S i<=h/\h<S (i+1)/\w.rowIs h 3 1 (λ_=>J Z 77)
theorem LnA.ge{w:World}{m a:Nat}{al:List (List Int)}{f d:Nat}{l g:Nat->Value}{S:Nat->Nat}{b k:Nat}(h:LnA w m a al f d l g S b k):∀i j,i<=j->j<=k->S i<=S j:=by
 intro i j;induction j with
 |zero=>intro c _;rw[show i=0 from by omega];exact Nat.le_refl _
 | succ j ih =>
  intro c n;by_cases e:i=j+1
  ·rw[e];exact Nat.le_refl _
  ·exact Nat.le_trans (ih ol ol) (h.mono j ol)
theorem LnA.keep{w w':World}{e a:Nat}{al:List (List Int)}{r p:Nat}{t s:Nat->Value}{S:Nat->Nat}{n k1 k:Nat}(h:LnA w e a al r p t s S n k)(y:n<=k1)(x:w.heap.size<=w'.heap.size)(f:0<al.length->w'.heap[e]?=w.heap[e]?)(o:∀b,S k1<=b->b<S k->w'.heap[b]?=w.heap[b]?):LnA w' e a al r p t s S k1 k :=
 ⟨h.mono,Nat.le_trans h.top x,h.lo,λi l h0 hi hl=>by
  obtain⟨m,⟨u,v,j,d⟩,c⟩:=h.own i l ol hi hl;refine⟨m,⟨u,v,by rw[World.cell?_of_block (f (by have:=(List.getElem?_eq_some_iff.1 hl).1;omega))];exact j,d.keep (λg hg=>o g ?_ ?_)⟩,c⟩
  ·have:=(d.lt hg).1;have:=h.ge k1 i ol ol;omega
  ·have:=c g hg;have:=h.ge (i+1) k ol ol;omega,λi h0 hi hl=>by
  obtain⟨q,m,j,d,c⟩:=h.far i ol hi hl;refine⟨q,m,j,d,c.of_block (o q ?_ ?_)⟩
  ·have:=h.ge k1 i ol ol;omega
  ·have:=h.ge (i+1) k ol ol;omega⟩
theorem LnA.more{w w':World}{m a:Nat}{al:List (List Int)}{s r:Nat}{u t fa' fm':Nat->Value}{S:Nat->Nat}{k:Nat}(h:LnA w m a al s r u t S 0 k)(p:0<al.length->w'.heap[m]?=w.heap[m]?)(v:w.heap.size<=w'.heap.size)(x:∀b,S 0<=b->b<S k->w'.heap[b]?=w.heap[b]?)(j:∀i,i<k->fa' i=u i)(o:∀i,i<k->fm' i=t i)(d:∀l,al[k]?=E l->fa' k=fm' k/\(∃lo lc,w'.cell? ⟨m,a+k,C⟩=E (O lo l.length lc)/\LnI (S k) w' lo (fm' k) l.length (liF l))/\∀g,(fm' k).ownBlock=E g->g<w'.heap.size)(f:al.length<=k->∃h,fa' k=O (E ⟨h,0,C⟩) 1 1/\S k<=h/\h<w'.heap.size/\w'.rowIs h 3 1 (λ_=>J Z 77)):
 ∃S',LnA w' m a al s r fa' fm' S' 0 (k+1):=by
 have q:=h.keep (k1:=0) (Nat.le_refl _) v p x;obtain⟨S',c,n⟩:∃S':Nat->Nat,(∀i,i<=k->S' i=S i)/\S' (k+1)=w'.heap.size:=⟨λi=>if i<=k then S i else w'.heap.size,λi hi=>if_pos hi,if_neg ol⟩;refine⟨S',λi hi=>?_,?_,?_,λi l _ hi hl=>?_,λi _ hi hl=>?_⟩
 ·rw[c i ol];by_cases e:i=k
  ·rw[e,n];exact q.top
  ·rw[c (i+1) ol];exact h.mono i ol
 ·rw[n];exact Nat.le_refl _
 ·rw[c 0 ol];exact h.lo
 ·rw[c i ol];by_cases e:i=k
  ·subst e;rw[n];exact d l hl
  ·rw[c (i+1) ol,j i ol,o i ol];exact q.own i l (Nat.zero_le _) ol hl
 ·rw[c i ol];by_cases e:i=k
  ·subst e;rw[n];exact f hl
  ·rw[c (i+1) ol,j i ol];exact q.far i (Nat.zero_le _) ol hl
def xD(B T:Nat)(w:World)(ao:Option Addr)(ab aoff:Nat)(al:List (List Int))(va vm:Value):Prop:=(ao=C/\(∃c,va=O C 0 c)/\vm=O C 0 0/\al=[])\/∃ad ga gm fa fm S,ao=E ad/\va=O (E ⟨ga,0,C⟩) al.length (al.length+8)/\vm=O (E ⟨gm,0,C⟩) al.length al.length/\B<=ga/\B<=gm/\ga≠gm/\w.rowIs ga 25 (al.length+8) fa/\w.rowIs gm 25 al.length fm/\LnA w ab aoff al ga gm fa fm S 0 (al.length+8)/\S (al.length+8)<=T
theorem xD.below{B T:Nat}{w w':World}{f:Option Addr}{e a:Nat}{al:List (List Int)}{va vm:Value}(h:xD B T w f e a al va vm)(d:0<al.length->e<w.heap.size)(c:Below w.heap.size w w'):xD B T w' f e a al va vm:=by
 rcases h with h|⟨ad,ga,gm,fa,fm,S,h1,h2,h3,h4,h5,h6,h7,h8,h9,h10⟩
 ·exact .inl h
 ·exact .inr ⟨ad,ga,gm,fa,fm,S,h1,h2,h3,h4,h5,h6,h7.of_block (c.block _ h7.lt),h8.of_block (c.block _ h8.lt),h9.keep (Nat.le_refl _) c.size (λh0=>c.block _ (d h0)) (λb _ hb2=>c.block b (by have:=h9.top;omega)),h10⟩
theorem qo(o:Option Addr)(b a n c:Nat)(u:Int)(w:World)(i:n<=9223372036854775807)(h:IS w o b a n (λ_=>u)):
 Calls A 149 #[O o n c,J Z n,J Z u] w λe w'=>e=.returned (.bool G)/\w'=w:=by
 go_enter func149,ntmps149;go_wp2_with fail;go_loopw [7] (λx wr=>∃k:Nat,k<=n/\x=J Z k/\wr=w) (λx _=>n-(intOf x).toNat)
 case atStart=>exact⟨0,ol,rfl,rfl⟩
 case round =>
  obtain⟨k,j,rfl,rfl⟩:=hrel;by_cases d:k<n
  ·obtain rfl:=h.at_ ol;have l:=h.val k d;have g:(k:Int)<(n:Int):=ol;go_wp2_with fail;go_roundw
   case rel=>exact⟨k+1,ol,by go_num,trivial⟩
   case measure=>simp[intOf];omega
  ·have f:k=n:=(by omega);subst f;go_wp2_with fail;go_ret;exact⟨rfl,rfl⟩
theorem xw{w c b:World}{r:Option Nat}(a:Below w.heap.size w c)(h:c.grownBy b r):w.grownBy b r :=
 ⟨h.os.trans a.os,h.tape.trans a.tape,h.output.trans a.output,Nat.le_trans a.size h.size,λk hk hne=>(h.block k (Nat.lt_of_lt_of_le hk a.size) hne).trans (a.block k hk)⟩
theorem qj(B s2 T:Nat)(ao:Option Addr)(X a ac:Nat)(al:List (List Int))(va vm:Value)(w:World)(ha:al.length*24<=140737488351232)(Q:AS w B ao X a al)(f9:B<=w.heap.size)(g0:B<=s2)(hl:xD s2 T w ao X a al va vm):
 Calls A 116 #[va,vm,O ao al.length ac] w λe w'=>e=.returned (.bool G)/\Below s2 w w'/\∀b,T<=b->b<w.heap.size->w'.heap[b]?=w.heap[b]?:=by
 rcases hl with⟨rfl,⟨c,rfl⟩,rfl,rfl⟩|⟨ad,ga,gm,fa,fm,S,rfl,rfl,rfl,hga,hgm,hne,hra,hrm,hla,hTT⟩
 ·have s:=λw=>Lib.run_eql_slice_nil (P:=A) w 28 25 C 0 ac 0 0 underlying28
  simp only[Option.isNone]at s;go_enter func116,ntmps116;go_wp2_with fail;go_ret;exact⟨rfl,Below.refl _ _,λ_ _ _=>rfl⟩
 ·have s:=λw=>Lib.run_eql_slice_nil (P:=A) w 28 25 (E ad) al.length ac 0 0 underlying28
  simp only[Option.isNone]at s;have e2:Hd (∀wz,Below s2 w wz->AS wz B (E ad) X a al):=λwz hb=>Q.of_kept (λb hl=>hb.block b ol)
  have a9:Hd _:=hra;have a8:Hd _:=hrm;have V:Hd _:=hla;have e9:s2<=w.heap.size:=by have:=hra.lt;omega
  have c9:Hd _:=Q.at_;have W:Hd _:=Q.lt;have c5:Hd _:=Q.len;clear Q hra hrm hla;obtain⟨n,hn⟩:∃n,al.length=n:=⟨_,rfl⟩;have HN:Hd _:=hn;rw[hn]at ha s a9 a8 V c9 W hTT⊢;clear hn;go_enter func116,ntmps116;go_wp2_with fail;clear s;go_loopw [9,10] (λy x wr=>∃(k:Nat) (f:Nat->Value),k<=n+8/\x=J Z k/\y=.bool G/\Hd (wr.rowIs ga 25 (n+8) f)/\Hd (∀i,k<=i->f i=fa i)/\Hd (wr.rowIs gm 25 n fm)/\Hd (LnA wr X a al ga gm fa fm S k (n+8))/\Hd (Below s2 w wr)/\Hd (∀b,T<=b->b<w.heap.size->wr.heap[b]?=w.heap[b]?)) (λ_ x _=>n+8-(intOf x).toNat)
  case atStart=>exact⟨0,fa,ol,rfl,rfl,a9,λi _=>rfl,a8,V,Below.refl _ _,λ_ _ _=>rfl⟩
  case round =>
   obtain⟨wq,d0⟩:∃wq,wq=wr:=⟨_,rfl⟩;subst d0;obtain⟨k,f,hk,rfl,rfl,F,b5,D,p,HB,b3⟩:=hrel;clear a9 a8 V;by_cases L:k<n+8
   ·have c0:=F.o.cell (i:=k) L;have z0:=F.o.frozen k;rw[b5.o k (Nat.le_refl _)]at c0;have e3:(k:Int)<(n:Int)+8:=ol;have f3:=p.o.lo;have f7:=p.o.ge 0 k ol ol;have f6:=p.o.mono k L;have f5:=p.o.ge (k+1) (n+8) ol ol;have e7:=p.o.top;by_cases a2:k<n
    ·have c2:¬(n:Int)<=(k:Int):=(by omega);have e4:(k:Int)<(n:Int):=ol;obtain⟨l,hl⟩:∃l,al[k]?=E l:=⟨al[k]'(by rw[HN.o];exact a2),List.getElem?_eq_getElem _⟩;obtain⟨a6,⟨lo,lc,a7,v⟩,K⟩:=p.o.own k l (Nat.le_refl _) L hl;obtain⟨H,I,lb,b7,N,a3,c1⟩:=(e2.o wq HB.o).is_ (by have:=HB.o.size;omega) hl;rw[a7]at N;have e1:H=lo/\I=lc:=(by cases N;exact⟨rfl,rfl⟩);obtain⟨rfl,rfl⟩:=e1;clear N;obtain⟨d,m,gv,hv,_,d5⟩:=v.is_;rw[hv]at v K a6;rw[a6]at c0;have m0:=D.o.cell (i:=k) a2;rw[hv]at m0;have d3:=c5.o l (List.mem_of_getElem? hl);obtain rfl:ad=⟨X,a,C⟩:=by have:=c9.o ol;cases this;rfl
     have e6:=W.o ol;have R:X<wq.heap.size:=(by have:=HB.o.size;omega);have g2:Hd _:=a3;have g1:Hd _:=v;have a4:Hd (∀g,(O d l.length m).ownBlock=E g->S k<=g/\g<S (k+1)):=λg hg=>⟨(v.lt hg).1,K g hg⟩
     have d7:Hd (∀wz,Below wq.heap.size wq wz->Calls A 79 #[O d l.length m,O H l.length I,J Z 1] wz λe w'=>e=.returned (.bool G)/\wq.grownBy w' (O d l.length m).ownBlock/\∀g,(O d l.length m).ownBlock=E g->w'.rowIs g 3 (l.length+8) (λ_=>J Z 1)):=λwz hb=>(ZX (S k) (O d l.length m) H lb b7 l.length I (liF l) 1 wz d3 (a3.below hb a3.lt) (λh=>by have:=c1 h;omega) (v.below hb)).mono (λe w' ⟨U,h2,h3⟩=>⟨U,xw hb h2,h3⟩)
     have c4:Hd (0<l.length->∃g,d=E ⟨g,0,C⟩):=λh0=>by
      rcases v with⟨_,_,h⟩|⟨_,g,_,_,h,_⟩
      ·omega
      ·cases h;exact⟨g,rfl⟩
     have HL:Hd (al[k]?=E l):=hl;have a0:=a7;clear a3 v K a7 hl c1 d5 hv a6;go_upto_region 13 with fail
     go_cut [12] (λs12 wx=>s12=.bool G/\wq.grownBy wx (O d l.length m).ownBlock/\∀g,(O d l.length m).ownBlock=E g->wx.rowIs g 3 (l.length+8) (λ_=>J Z 1))
     case first =>
      go_region_held3 (λw'=>w'.cell? ⟨gm,k,C⟩=E (O d l.length m)/\w'.cell? ⟨X,a+k,C⟩=E (O H l.length I)) (first|(exact⟨m0,a0⟩)|(exact⟨d2,d6⟩)|go_keep) (first|(go_at_call 79;refine(d7.o _ (by first|exact(Below.refl _ _).drew|exact Below.refl _ _)).mono ?_;rintro e w1 ⟨rfl,z,a1⟩;have d2:=(z.cell_far ⟨gm,k,C⟩ D.o.lt (λe=>by have:=a4.o _ e.symm;simp only at this;omega)).trans m0;have d6:=(z.cell_far ⟨X,a+k,C⟩ R (λe=>by have:=a4.o _ e.symm;simp only at this;omega)).trans a0))
      all_goals
       go_wp2_with fail;go_meet
       exact⟨rfl,z,a1⟩
     case rest =>
      obtain⟨rfl,z,a1⟩:=hcut;obtain⟨w1,d1⟩:∃w1,w1=wc:=⟨_,rfl⟩;subst d1;have b4:Hd (wq.grownBy w1 (O d l.length m).ownBlock):=z;have b0:Hd (∀g,(O d l.length m).ownBlock=E g->w1.rowIs g 3 (l.length+8) (λ_=>J Z 1)):=a1;have t:Hd (∀b,b<S k\/S (k+1)<=b->E b≠(O d l.length m).ownBlock):=λb hb e=>by have:=a4.o _ e.symm;omega
      have c6:Hd (∀(wz:World) (u:Int),(∀g,(O d l.length m).ownBlock=E g->∃f2,wz.rowIs g 3 (l.length+8) f2/\∀i,i<l.length->f2 i=J Z u)->∃b,IS wz d b 0 l.length (λ_=>u)):=λwz u h=>by
       rcases Nat.eq_zero_or_pos l.length with h0|h0
       ·exact⟨0,λh=>ol,λh=>ol,λi hi=>ol⟩
       ·obtain⟨g,rfl⟩:=c4.o h0;obtain⟨f2,U,h2⟩:=h g rfl;exact⟨g,λ_=>rfl,λ_=>U.lt,λi hi=>by rw[Nat.zero_add,U.cell ol,h2 i hi]⟩
      have c8:Hd (∀wz,wq.grownBy wz (O d l.length m).ownBlock->wz.cell? ⟨ga,k,C⟩=E (O d l.length m)/\wz.cell? ⟨X,a+k,C⟩=E (O H l.length I)/\wz.cell? ⟨gm,k,C⟩=E (O d l.length m)):=λwz h=>⟨(h.cell_far ⟨ga,k,C⟩ F.o.lt (t.o _ ox)).trans c0,(h.cell_far ⟨X,a+k,C⟩ R (t.o _ ox)).trans a0,(h.cell_far ⟨gm,k,C⟩ D.o.lt (t.o _ ox)).trans m0⟩
      clear z a1 c0 m0 a0 z0;obtain⟨b1,i1⟩:=c6.o w1 1 (λg hg=>⟨_,b0.o g hg,λi _=>rfl⟩);have I1:Hd (IS w1 d b1 0 l.length (λ_=>1)):=i1;obtain⟨x0,x1,x2⟩:=c8.o w1 b4.o;clear i1;have b9:l.length<=9223372036854775807:=ol;go_wp2_with fail;go_quiet ((go_at_call 149;exact Calls.quiet_of_same (qo d b1 0 l.length m 1 _ b9 ⟨I1.o.at_,I1.o.lt,I1.o.val⟩)))
      go_wp2_with fail;clear x0 x1 x2 I1;go_loopw [14] (λx wx=>∃j:Nat,j<=l.length/\x=J Z j/\Hd (∀g,(O d l.length m).ownBlock=E g->∃f2,wx.rowIs g 3 (l.length+8) f2/\∀i,i<j->f2 i=J Z 2)/\Hd (wq.grownBy wx (O d l.length m).ownBlock)) (λx _=>l.length-(intOf x).toNat)
      case atStart=>exact⟨0,ol,rfl,λg hg=>⟨_,yQ (b0.o g hg) (zC (Below.refl _ _) _),λi hi=>ol⟩,Yw b4.o (zC (Below.refl _ _) _)⟩
      case round =>
       obtain⟨j,hj,rfl,c7,r⟩:=hrel;obtain⟨x0,x1,x2⟩:=c8.o wr r.o;clear b0 b4;by_cases f4:j<l.length
       ·obtain⟨g,rfl⟩:=c4.o ol;obtain⟨f2,Y,c3⟩:=c7.o g rfl;have d8:Hd (wr.rowIs g 3 (l.length+8) f2):=Y;have e0:Hd (∀i,i<j->f2 i=J Z 2):=c3;have y0:=Y.cell (i:=j) ol;have y1:=Y.frozen j;have e5:(j:Int)<(l.length:Int):=ol;clear Y c3;go_wp2_with fail;go_roundw
        case rel=>exact⟨j+1,ol,by go_num,λg' hg'=>by
         cases hg'
         exact⟨_,d8.o.set j _,λi hi=>by
          by_cases e:i=j
          ·rw[if_pos e]
          ·rw[if_neg e];exact e0.o i ol⟩,yE r.o _ _⟩
        case measure=>simp[intOf];omega
       ·have d4:j=l.length:=(by omega);subst d4;obtain⟨b2,i2⟩:=c6.o wr 2 c7.o;have I2:Hd _:=i2;have b6:Hd (wr.rowIs ga 25 (n+8) f):=F.o.of_block (r.o.block _ F.o.lt (t.o _ ol));have d9:Hd (wr.rowIs gm 25 n fm):=D.o.of_block (r.o.block _ D.o.lt (t.o _ ol));have y0:=b6.o.cell (i:=k) L;have y1:=b6.o.frozen k;clear i2;go_wp2_with fail;go_quiet ((go_at_call 149;exact Calls.quiet_of_same (qo d b2 0 l.length m 2 _ b9 ⟨I2.o.at_,I2.o.lt,I2.o.val⟩)))
        go_wp2_with fail;have f8:=HB.o.size;go_roundw
        case rel=>exact⟨k+1,_,ol,by go_num,rfl,(yQ b6.o (zC (Below.refl _ _) _)).set k _,λi hi=>by rw[if_neg ol];exact b5.o i ol,(yQ d9.o (zC (Below.refl _ _) _)).setOther ox _,p.o.keep ol (by have:=r.o.size;simpa[World.setCell]using this) (λ_=>(za ol).trans (r.o.block _ R (t.o _ ol))) (λb U h2=>(za ol).trans (r.o.block b ol (t.o b (.inr U)))),(zC (HB.o.grown r.o ol (λg hg=>by have:=a4.o g hg;omega)) _).setCell hga _,λb U h2=>(za ol).trans ((r.o.block b ol (t.o b (.inr ol))).trans (b3.o b U h2))⟩
        case measure=>simp[intOf];omega
    ·have c2:(n:Int)<=(k:Int):=(by omega);obtain⟨q,b8,f1,f0,a5⟩:=p.o.far k (Nat.le_refl _) L (by rw[HN.o];omega);rw[b8]at c0;have HQ:Hd (IS wq (E ⟨q,0,C⟩) q 0 1 (λ_=>77)):=⟨λ_=>rfl,λ_=>a5.lt,λi hi=>by rw[Nat.zero_add,a5.cell hi]⟩;clear b8 a5;go_wp2_with fail;refine(qo (E ⟨q,0,C⟩) q 0 1 1 77 _ oq HQ.o).mono ?_;rintro e w' ⟨rfl,e8⟩;subst w';go_wp2_with fail;go_roundw
     case rel=>exact⟨k+1,_,ol,by go_num,rfl,F.o.set k _,λi hi=>by rw[if_neg ol];exact b5.o i ol,D.o.setOther ox _,p.o.keep ol (by simp[World.setCell]) (λh=>za (by have:=W.o (by rw[<-HN.o];exact h);omega)) (λb U _=>za ol),HB.o.setCell hga _,λb U h2=>(za ol).trans (b3.o b U h2)⟩
     case measure=>simp[intOf];omega
   ·have a2:k=n+8:=(by omega);subst a2;go_wp2_with fail;go_ret;exact⟨rfl,HB.o,b3.o⟩
end Go.Proofs.YtaebngpoagjafabGreat
