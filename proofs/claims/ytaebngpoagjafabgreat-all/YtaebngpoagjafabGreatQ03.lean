import Derived.Test.YtaebngpoagjafabGreatQ02
import Derived.Below
import Derived.ChangeOld
import Derived.Deep.Slices
import Derived.OpenShut
import Derived.ProofKit
import Derived.SizedLaws
set_option maxRecDepth 100000
set_option maxHeartbeats 2000000
namespace Go.Proofs.YtaebngpoagjafabGreat
open Option renaming none → T,some → G
open Proofs.Tryz renaming prog → E
open Bool renaming true → I,false → U
open Proofs.Tryz
open Value renaming int → J
open IntKind renaming i64 → Z
open Go.RowKit
def ext(n:Nat)(V:Nat->Int)(i:Nat):Int:=if i<n then V i else 77
theorem yd{w:World}{base e a g N cap:Nat}{c:List Value}(h:w.ownsRow base e a (.slice (G ⟨g,0,T⟩) N cap) N c)(b:cap=N):∃f,w.rowIs g e (N*a) f:=by
 subst b;rcases h.2 with⟨h',_⟩|⟨g',cap',cur,h',_,hg,_,_,hsz,_⟩
 ·simp at h'
 ·simp only[Value.slice.injEq,Option.some.injEq,Addr.mk.injEq,and_true,true_and]at h';obtain⟨rfl,rfl⟩:=h';exact⟨λj=>cur.getD j (J Z 0),cur,hg,hsz,λi hi=>by simp[Array.getD,hsz,hi]⟩
theorem yI{w w':World}(h:w.grownBy w' T):Below w.heap.size w w':=(Below.refl _ _).grown h (Nat.le_refl _) (λk hk=>by simp at hk)
theorem yQ{w w':World}{g t N:Nat}{f:Nat->Value}(h:w.rowIs g t N f)(a:Below w.heap.size w w'):w'.rowIs g t N f:=h.of_block (a.block g h.lt)
theorem JL(a b c:Int)(w:World):(Instr.field 96 (.agg #[J Z a,J Z b,J Z c]) 0).run E w=.ok (.agg #[J Z a,J Z b]) w:=kr
def ZP(f:Nat->Value)(k:Nat)(x y:Value)(j:Nat):Value:=if j=k*2+1 then y else if j=k*2 then x else f j
theorem XN{w:World}{g t N:Nat}{f:Nat->Value}(h:w.rowIs g t N f)(k:Nat)(x y:Value):((w.setCell ⟨g,k*2,T⟩ x).setCell ⟨g,k*2+1,T⟩ y).rowIs g t N (ZP f k x y):=(h.set _ _).set _ _
theorem qq{f:Nat->Value}{k:Nat}{V L:Nat->Int}{x y:Value}(h:∀i,i<k->f (i*2)=J Z (V i)/\f (i*2+1)=J Z (L i))(b:x=J Z (V k))(a:y=J Z (L k)):
 ∀i,i<k+1->ZP f k x y (i*2)=J Z (V i)/\ZP f k x y (i*2+1)=J Z (L i):=by
 intro i c;unfold ZP;by_cases e:i=k
 ·subst e;simp[b,a]
 ·rw[if_neg ol,if_neg ol,if_neg ol,if_neg ol];exact h i ol
theorem zb8{f:Nat->Value}{k:Nat}{V L:Nat->Int}{x y:Value}(h:∀i,i<k->f (i*2)=J Z (V i)/\f (i*2+1)=J Z (L i)):
 ∀i,i<k->ZP f k x y (i*2)=J Z (V i)/\ZP f k x y (i*2+1)=J Z (L i):=by
 intro i a;unfold ZP;rw[if_neg ol,if_neg ol,if_neg ol,if_neg ol];exact h i a
theorem qx(w:World):
 Calls E 59 #[.slice T 0 0] w λe w'=>e=.returned (.slice T 0 0)/\w'=w:=by
 have a:=λw=>Lib.run_eql_slice_nil (P:=E) w 29 96 T 0 0 0 0 underlying29
 simp only[Option.isNone]at a;go_enter func59,ntmps59;go_wp2
 go_ret;exact⟨rfl,rfl⟩
theorem qy(H:Addr)(b s n c:Nat)(V L R:Nat->Int)(w:World)(hn:n*24<=140737488351232)(y:TS w (G H) b s n V L R):
 Calls E 59 #[.slice (G H) n c] w λe w'=>(∃g f,e=.returned (.slice (G ⟨g,0,T⟩) n (n+8))/\w.heap.size<=g/\w'.rowIs g 94 ((n+8)*2) f/\∀i,i<n+8->f (i*2)=J Z (ext n V i)/\f (i*2+1)=J Z (ext n L i))/\Below w.heap.size w w':=by
 obtain⟨S,N,C,B,A⟩:=info_parts infoPrefix;have r:=λw=>Lib.run_eql_slice_nil (P:=E) w 29 96 (G H) n c 0 0 underlying29
 simp only[Option.isNone]at r;go_enter func59,ntmps59;go_wp2_with (at_make;refine wpList_make_full _ rfl _ _ 98 rfl w.heap.size 94 S (.agg #[J Z 0,J Z 0]) 2 underlying98 N C B .i64 .i64 _ _ (n+8) rfl rfl ol ol (by rw[A];omega) mr (Nat.le_refl _) ?_;intro Q m h)
 obtain⟨Y,j⟩:=yd m rfl;have v:Hd (Below w.heap.size w Q):=yI h;clear m h r;go_loopw [5] (λx wr=>∃(k:Nat) (f:Nat->Value),k<=n+8/\x=J Z k/\wr.rowIs w.heap.size 94 ((n+8)*2) f/\Hd (∀i,i<k->f (i*2)=J Z (ext n V i)/\f (i*2+1)=J Z (ext n L i))/\Below w.heap.size w wr) (λx _=>n+8-(intOf x).toNat)
 case atStart=>exact⟨0,Y,ol,rfl,j,λi N=>ol,v⟩
 case round =>
  obtain⟨k,f,hk,rfl,l,D,z⟩:=hrel;clear j v;by_cases W:k<n+8
  ·go_wp2_with fail;refine(Qa _).mono ?_;rintro e O ⟨rfl,t⟩;have a:=yQ l t;have q:Hd (Below w.heap.size w O):=z.trans (t.mono z.size);clear t z l;have c0:=a.cell (i:=k*2) ol;have c1:=a.cell (i:=k*2+1) ol;have z0:=a.frozen (k*2);have z1:=a.frozen (k*2+1);have X:=λw=>JL 77 77 77 w
   by_cases d:k<n
   ·have F:=y.at_ ol;cases F
    have u:b<w.heap.size:=y.lt ol;have cv:=(q.o.cell (p:=⟨b,s+k*3,T⟩) u).trans (y.val k d);have cl:=(q.o.cell (p:=⟨b,s+k*3+1,T⟩) u).trans (y.len k d);have U:¬b=w.heap.size:=ol;have K:¬w.heap.size=b:=ol;have I:Hd (∀i,i<k+1->ZP (ZP f k (J Z 77) (J Z 77)) k (J Z (V k)) (J Z (L k)) (i*2)=J Z (ext n V i)/\ZP (ZP f k (J Z 77) (J Z 77)) k (J Z (V k)) (J Z (L k)) (i*2+1)=J Z (ext n L i)) :=
     qq (zb8 D.o) (by rw[ext,if_pos d]) (by rw[ext,if_pos d])
    go_wp2_with fail;go_roundw
    case rel=>exact⟨k+1,_,ol,by go_num,XN (XN a _ _ _) _ _ _,I,(((q.o.setCell (Nat.le_refl _) _).setCell (Nat.le_refl _) _).setCell (Nat.le_refl _) _).setCell (Nat.le_refl _) _⟩
    case measure=>simp[intOf];omega
   ·have I:Hd (∀i,i<k+1->ZP f k (J Z 77) (J Z 77) (i*2)=J Z (ext n V i)/\ZP f k (J Z 77) (J Z 77) (i*2+1)=J Z (ext n L i)) :=
     qq D.o (by rw[ext,if_neg d]) (by rw[ext,if_neg d])
    go_wp2_with fail;go_roundw
    case rel=>exact⟨k+1,_,ol,by go_num,XN a _ _ _,I,(q.o.setCell (Nat.le_refl _) _).setCell (Nat.le_refl _) _⟩
    case measure=>simp[intOf];omega
  ·have d:k=n+8:=(by omega);subst d;go_wp2_with fail;go_ret;exact⟨⟨_,f,rfl,Nat.le_refl _,l,D⟩,z⟩
theorem je{w:World}{g n:Nat}{f:Nat->Value}{V L:Nat->Int}(h:w.rowIs g 94 (n*2) f)(a:∀i,i<n->f (i*2)=J Z (V i)/\f (i*2+1)=J Z (L i)):PS w (G ⟨g,0,T⟩) g n V L :=
 ⟨λ_=>rfl,λ_=>h.lt,λi hi=>by rw[h.cell ol,(a i hi).1],λi hi=>by rw[h.cell ol,(a i hi).2]⟩
theorem PS.congr{w:World}{ao b n V L V' L'}(h:PS w ao b n V L)(a:∀i,i<n->V i=V' i/\L i=L' i):PS w ao b n V' L' :=
 ⟨h.at_,h.lt,λi hi=>by rw[<-(a i hi).1];exact h.val i hi,λi hi=>by rw[<-(a i hi).2];exact h.len i hi⟩
theorem PS.firsts{w:World}{ao b n V L}(h:PS w ao b (n+8) (ext n V) (ext n L)):PS w ao b n V L :=
 (h.take ol).congr λi hi=>by simp[ext,hi]
theorem XD(v:Value)(w:World):
 Calls E 61 #[v,.slice T 0 0] w λe w'=>e=.returned (.bool I)/\w'=w:=by
 have a:=λw=>Lib.run_eql_slice_nil (P:=E) w 29 96 T 0 0 0 0 underlying29
 simp only[Option.isNone]at a;go_enter func61,ntmps61;go_wp2
 go_ret;exact⟨rfl,rfl⟩
theorem XE(v:Addr)(g b h n c:Nat)(V L R:Nat->Int)(w:World)(N:n*24<=140737488351232)(m:TS w (G v) b h n V L R)(t:PS w (G ⟨g,0,T⟩) g (n+8) (ext n V) (ext n L)):
 Calls E 61 #[.slice (G ⟨g,0,T⟩) n (n+8),.slice (G v) n c] w λe w'=>e=.returned (.bool I)/\Below w.heap.size w w':=by
 have f:=λw=>Lib.run_eql_slice_nil (P:=E) w 29 96 (G v) n c 0 0 underlying29
 simp only[Option.isNone]at f;have K:=λw=>JL 77 77 77 w
 have F:g<w.heap.size:=t.lt ol;go_enter func61,ntmps61;go_wp2
 go_loopw [7,8] (λy x wr=>∃(k:Nat),k<=n+8/\x=J Z k/\y=.bool I/\Below w.heap.size w wr) (λ_ x _=>n+8-(intOf x).toNat)
 case atStart=>exact⟨0,ol,rfl,rfl,Below.refl _ _⟩
 case round =>
  obtain⟨k,O,rfl,rfl,q⟩:=hrel;clear f;by_cases i:k<n+8
  ·go_wp2_with fail;refine(Qa _).mono ?_;rintro e r ⟨rfl,j⟩;have a:Hd (Below w.heap.size w r):=q.trans (j.mono q.size);have B:=a.o.size;have A:=(t.below a.o).val k i;have z:=(t.below a.o).len k i;have H:g<r.heap.size:=ol;have C:(k:Int)<(n:Int)+8:=ol;clear j q;by_cases d:k<n
   ·have u:=m.at_ ol;cases u
    have l:b<w.heap.size:=m.lt ol;have Q:=(a.o.cell (p:=⟨b,h+k*3,T⟩) l).trans (m.val k d);have S:=(a.o.cell (p:=⟨b,h+k*3+1,T⟩) l).trans (m.len k d);have s:=λw=>QM (V k) (L k) (V k) (L k) w
    simp only[ext,if_pos d]at A z;simp only[beq_self_eq_true,Bool.and_self]at s;have D:b<r.heap.size:=ol;go_wp2_with fail;go_quiet (fail)
    go_wp2_with fail;go_roundw
    case rel=>exact⟨k+1,ol,by go_num,rfl,zC (a.o.alloc B _) _⟩
    case measure=>simp[intOf];omega
   ·have s:=λw=>QM 77 77 77 77 w
    simp only[ext,if_neg d]at A z;simp only[beq_self_eq_true,Bool.and_self]at s;go_wp2_with fail;go_quiet (fail)
    go_wp2_with fail;go_roundw
    case rel=>exact⟨k+1,ol,by go_num,rfl,zC (a.o.alloc B _) _⟩
    case measure=>simp[intOf];omega
  ·have d:k=n+8:=(by omega);subst d;go_wp2_with fail;go_ret;exact⟨rfl,q⟩
def PT(w:World)(po:Option Addr)(b off n c:Nat)(V L R:Nat->Int):Prop:=(po=T/\n=0/\c=0)\/∃ad,po=G ad/\TS w (G ad) b off n V L R
theorem PT.below{w w':World}{po b off n c V L R}(h:PT w po b off n c V L R)(a:Below w.heap.size w w'):PT w' po b off n c V L R:=by
 rcases h with h|⟨ad,h1,h2⟩
 ·exact .inl h
 ·exact .inr ⟨ad,h1,h2.below a⟩
def zeN(w:World)(lo:Option Addr)(lb n lc:Nat)(po:Option Addr)(V L:Nat->Int):Prop:=PS w lo lb n V L/\n<=lc/\(po=T\/(lo=G ⟨lb,0,T⟩/\lc=n+8/\PS w (G ⟨lb,0,T⟩) lb (n+8) (ext n V) (ext n L)))
theorem zeN.below{w w':World}{lo lb n lc po V L}(h:zeN w lo lb n lc po V L)(d:Below w.heap.size w w'):zeN w' lo lb n lc po V L:=by
 obtain⟨g,f,e⟩:=h;refine⟨g.below d,f,?_⟩;rcases e with h|⟨a,b,c⟩
 ·exact .inl h
 ·exact .inr ⟨a,b,c.below d⟩
theorem zdR(k:Option Addr)(b a n c:Nat)(V L R:Nat->Int)(w:World)(m:n*24<=140737488351232)(l:PT w k b a n c V L R):
 Calls E 59 #[.slice k n c] w λe w'=>(∃lo lb lc,e=.returned (.slice lo n lc)/\zeN w' lo lb n lc k V L)/\Below w.heap.size w w':=by
 rcases l with⟨rfl,rfl,rfl⟩|⟨ad,rfl,l⟩
 ·refine(qx w).mono ?_;rintro e w' ⟨rfl,q⟩;subst w';exact⟨⟨T,0,0,rfl,⟨λh=>ol,λh=>ol,λi hi=>ol,λi hi=>ol⟩,Nat.le_refl _,.inl rfl⟩,Below.refl _ _⟩
 ·refine(qy ad b a n c V L R w m l).mono ?_;rintro e w' ⟨⟨g,f,rfl,_,d,o⟩,p⟩;have j:=je d o;exact⟨⟨G ⟨g,0,T⟩,g,n+8,rfl,j.firsts,ol,.inr ⟨rfl,rfl,j⟩⟩,p⟩
theorem zbs(d lo:Option Addr)(b a n c i g:Nat)(V L R:Nat->Int)(w:World)(k:n*24<=140737488351232)(f:PT w d b a n c V L R)(l:zeN w lo i n g d V L):
 Calls E 61 #[.slice lo n g,.slice d n c] w λe w'=>e=.returned (.bool I)/\Below w.heap.size w w':=by
 rcases f with⟨rfl,rfl,rfl⟩|⟨ad,rfl,f⟩
 ·refine(XD _ w).mono ?_;rintro e w' ⟨rfl,m⟩;subst w';exact⟨rfl,Below.refl _ _⟩
 ·obtain⟨_,_,h|⟨rfl,rfl,j⟩⟩:=l
  ·cases h
  ·exact XE ad i b a n c V L R w k f j
theorem zaW(V L:Nat->Int)(n:Nat)(a:Int):∃x y z:Int,
 (∀(lo:Option Addr) (c b:Nat) (w:World),n<=9223372036854775807->n<=b->PS w lo c n V L ->
  Calls E 60 #[.slice lo n b,J Z a] w λe w'=>e=.returned (.tuple #[J Z x,J Z y,J Z z])/\Below w.heap.size w w') /\
 (∀(lo:Option Addr) (c b:Nat) (w:World),n<=9223372036854775807->PS w lo c n V L ->
  Calls E 62 #[.slice lo n b,J Z a] w λe w'=>e=.returned (.tuple #[J Z x,J Z y,J Z z])/\Below w.heap.size w w'):=by
 by_cases h:M.isA a=I/\M.isMap V L n=I
 ·exact⟨_,_,_,λlo c b w _ hc hs=>zeL lo c n b V L a w hc hs h.1 h.2,λlo c b w _ hs=>J1 lo c n b V L a w hs h.1 h.2⟩
 ·have d:M.isA a=U\/M.isMap V L n=U:=by
   cases hA:M.isA a with
   |false=>exact .inl rfl
   | true=>cases hM:M.isMap V L n with
    |false=>exact .inr rfl
    |true=>exact absurd ⟨hA,hM⟩ h
  exact⟨_,_,_,λlo c b w hn hc hs=>zeM lo c n b V L a w hn hc hs d,λlo c b w hn hs=>J2 lo c n b V L a w hn hs d⟩
theorem zaS(w:World)(g i j:Nat)(x y:Value):Below g w ((w.setCell ⟨g,i,T⟩ x).setCell ⟨g,j,T⟩ y) :=
 Below.setCell (p:=⟨g,j,T⟩) (Below.setCell (p:=⟨g,i,T⟩) (Below.refl _ _) (Nat.le_refl g) x) (Nat.le_refl g) y
structure BX (w:World) (B:Nat) (a:Int) (pl:Value):Prop where
 addr:w.cell? ⟨B,0,T⟩=G (J Z a)
 plc:w.cell? ⟨B,5,T⟩=G pl
 lt:B<w.heap.size
theorem BX.below{w w':World}{B a pl}(h:BX w B a pl)(b:Below w.heap.size w w'):BX w' B a pl :=
 ⟨by rw[b.cell h.lt];exact h.addr,by rw[b.cell h.lt];exact h.plc,Nat.lt_of_lt_of_le h.lt b.size⟩
theorem JC(a bi dr:Int)(dn al:Value)(H:Option Addr)(b g n c:Nat)(V L R:Nat->Int)(w:World)(hn:n*24<=140737488351232)(hs:PT w H b g n c V L R):
 Calls E 30 #[.agg #[J Z a,J Z bi,J Z dr,dn,al,.slice H n c]] w λe w'=>e=.returned (.bool I)/\Below w.heap.size w w':=by
 obtain⟨i0,K,b2,b1,b0⟩:=info_parts infoPrefix;obtain⟨x,y,z,a7,a6⟩:=zaW V L n a;have b8:Hd _:=a7;have b7:Hd _:=a6;clear a7 a6;go_enter func30,ntmps30;go_wp2_with fail;have P:PT (w.alloc (.cells #[J Z a,J Z bi,J Z dr,dn,al,.slice H n c] 31)) H b g n c V L R:=hs.below ((Below.refl _ _).alloc (Nat.le_refl _) _);refine(zdR _ _ _ _ _ V L R _ hn P).mono ?_;rintro e w1 ⟨⟨lo,lb,lc,rfl,F⟩,C⟩;have O:BX w1 w.heap.size a (.slice H n c):=BX.below ⟨ot,ot,ot⟩ C;have a1:=P.below C;have X:Hd (Below w.heap.size w w1):=((Below.refl _ _).alloc (Nat.le_refl _) _).trans (C.mono ot);clear hs P C;have q0:=O.addr;go_wp2_with fail;refine(b8.o lo lb lc _ ol F.2.1 F.1).mono ?_;rintro e w2 ⟨rfl,u⟩;have N:=O.below u;have S:=a1.below u;have a8:=F.below u;have W:Hd _:=X.o.trans (u.mono X.o.size);clear O a1 F u X q0;have q5:=N.plc;go_wp2_with fail;refine(zbs H lo b g n c lb lc V L R _ hn S a8).mono ?_;rintro e p ⟨rfl,B⟩;have v:=N.below B;have Q:=S.below B;have U:Hd _:=W.o.trans (B.mono W.o.size);clear N S a8 B W q5;have q5:=v.plc;go_wp2_with (at_make;refine wpList_make_full _ rfl _ _ 98 rfl p.heap.size 94 i0 (.agg #[J Z 0,J Z 0]) 2 underlying98 K b2 b1 .i64 .i64 _ _ n rfl rfl ol ol (by rw[b0];omega) mr (Nat.le_refl _) ?_;intro w0 s l)
 obtain⟨f0,r⟩:=yd s rfl;have D:=yI l;have Y:=v.below D;have a2:=Q.below D;have a9:Hd _:=U.o.trans (D.mono U.o.size);have A:w.heap.size<p.heap.size:=v.lt;have b4:Hd (0<n->b<p.heap.size):=λh0=>by
  rcases Q with⟨_,h,_⟩|⟨_,_,h⟩
  ·omega
  ·exact h.lt h0
 clear s l D v Q U q5;go_loopw [9] (λx wr=>∃(k:Nat) (f:Nat->Value),k<=n/\x=J Z k/\wr.rowIs p.heap.size 94 (n*2) f/\Hd (∀i,i<k->f (i*2)=J Z (V i)/\f (i*2+1)=J Z (L i))/\BX wr w.heap.size a (.slice H n c)/\PT wr H b g n c V L R/\Below w.heap.size w wr) (λx _=>n-(intOf x).toNat)
 case atStart=>exact⟨0,f0,ol,rfl,r,λi K=>ol,Y,a2,a9⟩
 case round =>
  obtain⟨k,f,hk,rfl,d,hf,j,a0,hb⟩:=hrel;clear r a9 Y a2;by_cases a4:k<n
  ·have q5:=j.plc;rcases a0 with⟨_,h,_⟩|⟨ad,rfl,hts⟩
   ·omega
   have b5:=hts.at_ ol;cases b5
   have c0:=d.cell (i:=k*2) ol;have c1:=d.cell (i:=k*2+1) ol;have z0:=d.frozen (k*2);have z1:=d.frozen (k*2+1);have cv:=hts.val k a4;have cl:=hts.len k a4;have t:=b4.o ol;have HS:=qq (x:=J Z (V k)) (y:=J Z (L k)) hf.o rfl rfl;have b6:Hd _:=HS;have q:Hd (∀(x y:Value),BX ((wr.setCell ⟨p.heap.size,k*2,T⟩ x).setCell ⟨p.heap.size,k*2+1,T⟩ y) w.heap.size a (.slice (G ⟨b,g,T⟩) n c)/\PT ((wr.setCell ⟨p.heap.size,k*2,T⟩ x).setCell ⟨p.heap.size,k*2+1,T⟩ y) (G ⟨b,g,T⟩) b g n c V L R):=by
    intro x y;have m:Below p.heap.size wr ((wr.setCell ⟨p.heap.size,k*2,T⟩ x).setCell ⟨p.heap.size,k*2+1,T⟩ y):=zaS _ _ _ _ _ _;have hz:=m.size;refine⟨⟨by rw[m.cell A];exact j.addr,by rw[m.cell A];exact j.plc,Nat.lt_of_lt_of_le j.lt hz⟩,.inr ⟨_,rfl,⟨λ_=>rfl,λh=>Nat.lt_of_lt_of_le (hts.lt h) hz,λi K=>by rw[m.cell t];exact hts.val i K,λi K=>by rw[m.cell t];exact hts.len i K,λi K=>by rw[m.cell t];exact hts.reg i K⟩⟩⟩
   have HR:Hd _:=d;have HB:Hd _:=hb;clear HS hts d hb hf j;go_wp2_with fail;go_roundw
   case rel=>exact⟨k+1,_,ol,by go_num,XN HR.o _ _ _,b6.o,(q.o _ _).1,(q.o _ _).2,(HB.o.setCell (Nat.le_of_lt A) _).setCell (Nat.le_of_lt A) _⟩
   case measure=>simp[intOf];omega
  ·have b3:k=n:=(by omega);subst b3;have q0:=j.addr;have a3:=je d hf.o;have HB:Hd _:=hb;clear d hf a0 hb;go_wp2_with fail;refine(b7.o _ _ _ _ ol a3).mono ?_;rintro e w4 ⟨rfl,a5⟩;have b9:Hd _:=HB.o.trans (a5.mono HB.o.size);clear a5 a3 j q0;go_wp2_with fail;go_ret;exact⟨rfl,b9⟩
theorem QA(c:Int)(n:Nat)(w:World)(m:-9223372036854775808<=c)(l:c<=9223372036854775807)(i:0<n)(g:n<=9223372036854775807):
 Calls E 31 #[J Z c,J Z n] w λe w'=>(∃k:Nat,k<n/\e=.returned (J Z k))/\w'=w:=by
 have j:¬(n:Int)=0:=ol;have f:(0:Int)<n:=ol;by_cases h:c<0
 ·have a:0<=(-(c+1))%(n:Int)/\(-(c+1))%(n:Int)<n:=⟨Int.emod_nonneg _ ol,Int.emod_lt_of_pos _ ol⟩;have d:-(c+1).tmod (n:Int)=(-(c+1))%(n:Int):=by rw[<-Int.neg_tmod,Int.tmod_eq_emod_of_nonneg ol]
  rw[<-d]at a;have b:Hd _:=a;clear d a;go_enter func31,ntmps31;go_wp2
  go_ret;refine⟨⟨(-(c+1).tmod (n:Int)).toNat,by have:=b.o;omega,YT ?_⟩,rfl⟩;have:=b.o;omega
 ·have a:0<=c%(n:Int)/\c%(n:Int)<n:=⟨Int.emod_nonneg _ ol,Int.emod_lt_of_pos _ ol⟩;have b:Hd _:=a;clear a;go_enter func31,ntmps31;go_wp2
  go_ret;refine⟨⟨(c%(n:Int)).toNat,by have:=b.o;omega,YT ?_⟩,rfl⟩;have:=b.o;omega
def qW(P:Nat->Int)(k:Int):Nat->Bool
 |0=>U
 |n+1=>qW P k n || (P n==k)
theorem zeD{P:Nat->Int}{k:Int}{n m:Nat}(h:m<n)(e:P m=k):qW P k n=I:=by
 induction n with
 |zero=>omega
 | succ n ih =>
  simp only[qW,Bool.or_eq_true,beq_iff_eq];by_cases a:m=n
  ·subst a;exact .inr e
  ·exact .inl (ih ol)
theorem zcR(b n c:Nat)(P:Nat->Int)(k:Int)(w:World)(p:n<=64)(f:∀i,i<n->w.cell? ⟨b,i,T⟩=G (J Z (P i))):
 Calls E 13 #[.slice (G ⟨b,0,T⟩) n c,J Z k] w λe w'=>e=.returned (.bool (qW P k n))/\w'=w:=by
 have j:Hd _:=f;clear f;go_enter func13,ntmps13;go_wp2
 go_loop [5] (λx=>∃m:Nat,m<=n/\x=J Z m/\qW P k m=U) (λx=>n-(intOf x).toNat)
 case atStart=>exact⟨0,ol,rfl,rfl⟩
 case round =>
  obtain⟨m,q,rfl,h⟩:=hrel;by_cases a:m<n
  ·have r:=j.o m a;cases e1:(P m==k)with
   | true =>
    have g:Hd (qW P k n=I):=zeD a (by simpa using e1);go_wp2
    go_ret;exact⟨ye g.o.symm,rfl⟩
   | false =>
    have l:Hd (qW P k (m+1)=U):=(by show _=_;simp[qW,h,e1]);go_wp2
    go_round
    case rel=>exact⟨m+1,ol,by go_num,l⟩
    case measure=>simp[intOf];omega
  ·have d:m=n:=(by omega);subst d;go_wp2
   go_ret;exact⟨rfl,rfl⟩
structure OS (w:World) (ao:Option Addr) (b off n:Nat) (K A B C D:Nat->Int) (S:Nat->ByteArray):Prop where
 at_:0<n->ao=G ⟨b,off,T⟩
 lt:0<n->b<w.heap.size
 k:∀i,i<n->w.cell? ⟨b,off+i*6,T⟩=G (J Z (K i))
 a:∀i,i<n->w.cell? ⟨b,off+i*6+1,T⟩=G (J Z (A i))
 b_:∀i,i<n->w.cell? ⟨b,off+i*6+2,T⟩=G (J Z (B i))
 c:∀i,i<n->w.cell? ⟨b,off+i*6+3,T⟩=G (J Z (C i))
 d:∀i,i<n->w.cell? ⟨b,off+i*6+4,T⟩=G (J Z (D i))
 s:∀i,i<n->w.cell? ⟨b,off+i*6+5,T⟩=G (.string (S i))
theorem OS.below{w w':World}{ao b off n K A B C D S}(h:OS w ao b off n K A B C D S)(e:Below w.heap.size w w'):OS w' ao b off n K A B C D S :=
 ⟨h.at_,λhn=>Nat.lt_of_lt_of_le (h.lt hn) e.size,λi hi=>by rw[e.cell (h.lt ol)];exact h.k i hi,λi hi=>by rw[e.cell (h.lt ol)];exact h.a i hi,
  λi hi=>by rw[e.cell (h.lt ol)];exact h.b_ i hi,λi hi=>by rw[e.cell (h.lt ol)];exact h.c i hi,λi hi=>by rw[e.cell (h.lt ol)];exact h.d i hi,λi hi=>by rw[e.cell (h.lt ol)];exact h.s i hi⟩
theorem zaP(a:Option Addr)(n c:Nat)(w:World):(Instr.build 51 #[(0,.slice a n c)]).run E w=.ok (.agg #[.slice a n c,.slice T 0 0,.slice T 0 0,.slice T 0 0,.slice T 0 0]) w:=run_build w 51 _ _ kr
def st0(wo:Option Addr)(m wc:Nat):Obj:=.cells #[.slice wo m wc,.slice T 0 0,.slice T 0 0,.slice T 0 0,.slice T 0 0] 51
structure WS (w:World) (wo:Option Addr) (b off m:Nat) (A Bi Dr:Nat->Int) (Dn Al:Nat->Value) (po:Nat->Option Addr) (n c pb poff:Nat->Nat) (V L R:Nat->Nat->Int):Prop where
 at_:0<m->wo=G ⟨b,off,T⟩
 lt:0<m->b<w.heap.size
 c0:∀i,i<m->w.cell? ⟨b,off+i*6,T⟩=G (J Z (A i))
 c1:∀i,i<m->w.cell? ⟨b,off+i*6+1,T⟩=G (J Z (Bi i))
 c2:∀i,i<m->w.cell? ⟨b,off+i*6+2,T⟩=G (J Z (Dr i))
 c3:∀i,i<m->w.cell? ⟨b,off+i*6+3,T⟩=G (Dn i)
 c4:∀i,i<m->w.cell? ⟨b,off+i*6+4,T⟩=G (Al i)
 c5:∀i,i<m->w.cell? ⟨b,off+i*6+5,T⟩=G (.slice (po i) (n i) (c i))
 pt:∀i,i<m->PT w (po i) (pb i) (poff i) (n i) (c i) (V i) (L i) (R i)
 sz:∀i,i<m->n i*24<=140737488351232
theorem WS.below{w w':World}{wo b off m A Bi Dr Dn Al po n c pb poff V L R}(h:WS w wo b off m A Bi Dr Dn Al po n c pb poff V L R)(a:Below w.heap.size w w'):WS w' wo b off m A Bi Dr Dn Al po n c pb poff V L R :=
 ⟨h.at_,λhn=>Nat.lt_of_lt_of_le (h.lt hn) a.size,λi hi=>by rw[a.cell (h.lt ol)];exact h.c0 i hi,λi hi=>by rw[a.cell (h.lt ol)];exact h.c1 i hi,
  λi hi=>by rw[a.cell (h.lt ol)];exact h.c2 i hi,λi hi=>by rw[a.cell (h.lt ol)];exact h.c3 i hi,λi hi=>by rw[a.cell (h.lt ol)];exact h.c4 i hi,
  λi hi=>by rw[a.cell (h.lt ol)];exact h.c5 i hi,λi hi=>(h.pt i hi).below a,h.sz⟩
theorem zad(v:Nat)(D:Option Addr)(b j m wc:Nat)(A Bi Y:Nat->Int)(Dn Al:Nat->Value)(K:Nat->Option Addr)(n c N h:Nat->Nat)(V L R:Nat->Nat->Int)(f r q l:Int)(i:ByteArray)(w:World)(hm:m*96<=140737488351232)(y:WS w D b j m A Bi Y Dn Al K n c N h V L R)(s:w.cell? ⟨v,0,T⟩=G (.slice D m wc))(z:v<w.heap.size)(X:-9223372036854775808<=f)(W:f<=9223372036854775807):
 Calls E 14 #[.pointer (G ⟨v,0,T⟩),.agg #[J Z 1,J Z f,J Z r,J Z q,J Z l,.string i]] w λe w'=>e=.returned (.bool I)/\Below w.heap.size w w':=by
 by_cases C:m=0
 ·subst C;go_enter func14,ntmps14;go_wp2_with fail;go_ret;exact⟨rfl,(Below.refl _ _).alloc (Nat.le_refl _) _⟩
 ·obtain rfl:=y.at_ ol;have P:((m:Int)==0)=U:=by rw[beq_eq_false_iff_ne];omega
  go_enter func14,ntmps14;go_wp2_with fail;have q1:(w.alloc (.cells #[J Z 1,J Z f,J Z r,J Z q,J Z l,.string i] 53)).cell? ⟨w.heap.size,1,T⟩=G (J Z f):=ot;have d:Below w.heap.size w (w.alloc (.cells #[J Z 1,J Z f,J Z r,J Z q,J Z l,.string i] 53)):=(Below.refl _ _).alloc (Nat.le_refl _) _;have F:(w.alloc (.cells #[J Z 1,J Z f,J Z r,J Z q,J Z l,.string i] 53)).cell? ⟨v,0,T⟩=G (.slice (G ⟨b,j,T⟩) m wc):=(d.cell (p:=⟨v,0,T⟩) z).trans s;have a:=y.below d;have x:Hd _:=d;generalize w.alloc (.cells #[J Z 1,J Z f,J Z r,J Z q,J Z l,.string i] 53)=w1 at *;clear s y d;have Q:(0:Int)<m:=ol;go_region_with (first|(go_at_call 31;refine(QA _ m _ X W ol ol).mono ?_;rintro e w' ⟨⟨k,g,rfl⟩,O⟩;subst w';have f0:=a.c0 k g;have f1:=a.c1 k g;have f2:=a.c2 k g;have f3:=a.c3 k g;have f4:=a.c4 k g;have f5:=a.c5 k g;have S:(k:Int)<m:=ol)|(go_at_call 30;refine(JC _ _ _ _ _ _ _ _ _ _ _ _ _ _ (a.sz k g) (by exact(a.pt k g).below (zC (Below.refl _ _) 1))).mono ?_;rintro e H ⟨rfl,u⟩))
  all_goals
   have t:Hd (Below w.heap.size w H):=x.o.trans (Below.mono (B:=w1.heap.size) ((zC (Below.refl _ _) 1).trans u) x.o.size);clear u;go_wp2_with fail;go_ret;exact⟨rfl,t.o⟩
section
open Go.ChangeShapes Go.WideShapes Go.ChangeAt Go.RowKit
theorem own:ownKnob Tryz.prog.godebug=T:=kr
theorem zbb:laidOutB E=I:=kr
theorem QP:Tryz.prog.cellsOf 96=3:=kr
theorem JR:Tryz.prog.cellsOf 94=2:=kr
theorem xA:Tryz.prog.cellsOf 3=1:=kr
theorem qP:Tryz.prog.cellsOf 9=1:=kr
theorem Y4:Tryz.prog.cellsOf 31=6:=kr
theorem Qc:Tryz.prog.cellsOf 53=6:=kr
theorem jo:Tryz.prog.cellsOf 25=1:=kr
theorem zaN:Tryz.prog.cellsOf 28=1:=kr
theorem qQ:Tryz.prog.cellsOf 29=1:=kr
theorem QT:Tryz.prog.bytesOf 96=24:=kr
theorem QS:Tryz.prog.bytesOf 31=96:=kr
theorem zfM:Tryz.prog.bytesOf 53=56:=kr
theorem yH{w:World}{a:Addr}{v:Value}(h:w.cell? a=G v):a.block<w.heap.size:=by
 by_cases b:a.block<w.heap.size
 ·exact b
 ·have:w.heap[a.block]?=T:=by simp;omega
  simp[World.cell?,this]at h
theorem ZF{H:Type}{P:Program}{e:TypeId}{l:List (DataW H)}{d:DataW H}(a:d∈l){n:Nat}(b:n∈d.weights P e):n∈DataW.weightsAll P e l:=by
 induction l with
 |nil=>cases a
 | cons x r ih =>
  simp only[DataW.weightsAll,List.mem_append];rcases List.mem_cons.1 a with rfl|h
  ·exact .inl b
  ·exact .inr (ih h)
section
variable {H:Type} {enc:TypeId×Value->H} {w:World} {base:Nat} {spare:Nat->Bool} {held:Bool}
theorem zas{n:Nat}{cs:List Value}{x:DataW H×List MemPlace}(h:DataW.trod enc E w base spare held n 96 cs=G x):
 ∃a b c:Int,cs=[J Z a,J Z b,J Z c]:=by
 obtain⟨r,q,m,_,d,j,i⟩:=trod_struct2 underlying96 h;rw[QP]at d;match cs,d with
 | [c0,c1,c2],_ =>
  obtain⟨p,o,s,_,_,l,k⟩:=trod_struct2 underlying94 j;obtain⟨a,g,_,_⟩:=DataW.trod_int underlying3 l;obtain⟨b,f,_,_⟩:=DataW.trod_int underlying3 k;obtain⟨c,e,_,_⟩:=DataW.trod_int underlying3 i;simp[xA,JR]at g f e;exact⟨a,b,c,by rw[g,f,e]⟩
theorem qK{g:Nat}{cs:List Value}{x:DataW H×List MemPlace}(h:DataW.trod enc E w base spare held g 29 cs=G x):
 ∃po len cap b off V L R,cs=[.slice po len cap]/\PT w po b off len cap V L R/\(x.1=.nil/\len=0\/∃el sp,x.1=.slice el sp/\el.length=len):=by
 rcases Deep.open_slice underlying29 h with⟨hcs,hx⟩|⟨a,l,c,m,n,D,Pl,hcs,hb,hl,hm,hmm,hx,hel⟩
 ·exact⟨T,0,0,0,0,λ_=>0,λ_=>0,λ_=>0,hcs,.inl ⟨rfl,rfl,rfl⟩,.inl ⟨by rw[hx],rfl⟩⟩
 ·have r:l<=m:=by rw[hmm];split<;>omega
  rw[QP]at hel;obtain⟨F,k⟩:=Deep.choose_lt (α:=Int×Int×Int) (n:=l) (p:=λi y=>∀j,j<3->w.cell? ((a.add (i*3)).add j)=G (J Z (if j=0 then y.1 else if j=1 then y.2.1 else y.2.2))) (λi hi=>by
   obtain⟨v,u,t⟩:=hel i ol;obtain⟨x,y,z,rfl⟩:=zas t;obtain⟨_,_,s⟩:=World.cells?_some u;refine⟨(x,y,z),λj hj=>?_⟩;rw[s j hj];match j,hj with
   |0,_=>rfl
   |1,_=>rfl
   |2,_=>rfl)
  obtain⟨b,off,d⟩:=a;refine⟨G ⟨b,off,d⟩,l,c,b,off,λi=>(F i).1,λi=>(F i).2.1,λi=>(F i).2.2,hcs,.inr ⟨_,rfl,?_⟩,.inr ⟨_,_,by rw[hx],ot⟩⟩;by_cases q:l=0
  ·subst q;exact⟨λh=>ol,λh=>ol,λi hi=>ol,λi hi=>ol,λi hi=>ol⟩
  ·have f:=k 0 ol 0 ol;have e:d=T:=(by simpa[Addr.add]using World.cell?_spot f);subst e;have o:b<w.heap.size:=by
    have:=f
    simp[Addr.add]at this;exact yH this
   refine⟨λ_=>rfl,λ_=>o,λi hi=>?_,λi hi=>?_,λi hi=>?_⟩
   ·have:=k i hi 0 ol
    rw[add_plain,add_plain]at this;exact this
   ·have:=k i hi 1 ol
    rw[add_plain,add_plain]at this;exact this
   ·have:=k i hi 2 ol
    rw[add_plain,add_plain]at this;exact this
theorem zar{n:Nat}{cs:List Value}{x:DataW H×List MemPlace}(h:DataW.trod enc E w base spare held n 31 cs=G x):
 ∃(a p o:Int) (dn al:Value) (i:Option Addr) (c cap b e:Nat) (V L R:Nat->Int),cs=[J Z a,J Z p,J Z o,dn,al,.slice i c cap]/\PT w i b e c cap V L R /\
  ((∀k∈x.1.weights E 31,k<=reachBytes)->c*24<=140737488351232):=by
 obtain⟨u,m,_,rfl,d,j,f⟩:=DataW.trod_struct underlying31 h;rw[Y4]at d;match cs,d,u,j with
 | [c0,c1,c2,c3,c4,c5],_,[x0,x1,x2,x3,x4,x5],_ =>
  have B:=f 0 _ rfl;have A:=f 1 _ rfl;have z:=f 2 _ rfl;have D:=f 3 _ rfl;have C:=f 4 _ rfl;have y:=f 5 _ rfl;obtain⟨a,s,_,_⟩:=DataW.trod_int underlying3 B;obtain⟨p,r,_,_⟩:=DataW.trod_int underlying3 A;obtain⟨o,q,_,_⟩:=DataW.trod_int underlying3 z;obtain⟨i,c,cap,b,e,V,L,R,t,l,v⟩:=qK y;simp[xA,qQ]at s r q t;refine⟨a,p,o,c3,c4,i,c,cap,b,e,V,L,R,by rw[s,r,q,t],l,λhw=>?_⟩;rcases v with⟨_,rfl⟩|⟨el,sp,he,hl⟩
  ·omega
  ·have g:(el.length+sp.length)*24∈(DataW.agg [x0.1,x1.1,x2.1,x3.1,x4.1,x5.1]:DataW H).weights E 31:=by
    simp only[DataW.weights,underlying31,DataW.weightsEach,List.map_cons,List.map_nil,he,underlying29,QT,List.mem_append,List.mem_cons];simp
   have:=hw _ g
   simp only[reachBytes]at this;omega
theorem zfn{n:Nat}{cs:List Value}{x:DataW H×List MemPlace}(h:DataW.trod enc E w base spare held n 53 cs=G x):
 ∃(k a b c d:Int) (s:ByteArray),cs=[J Z k,J Z a,J Z b,J Z c,J Z d,.string s]/\(Lit.int .i64 a).wf=I/\(Lit.int .i64 b).wf=I/\(Lit.int .i64 c).wf=I/\(Lit.int .i64 d).wf=I/\s.size<=maxLen:=by
 obtain⟨r,m,_,rfl,e,g,f⟩:=DataW.trod_struct underlying53 h;rw[Qc]at e;match cs,e,r,g with
 | [c0,c1,c2,c3,c4,c5],_,[x0,x1,x2,x3,x4,x5],_ =>
  have K:=f 0 _ rfl;have F:=f 1 _ rfl;have D:=f 2 _ rfl;have C:=f 3 _ rfl;have B:=f 4 _ rfl;have A:=f 5 _ rfl;obtain⟨k,q,_,_⟩:=DataW.trod_int underlying3 K;obtain⟨a,p,_,y⟩:=DataW.trod_int underlying3 F;obtain⟨b,o,_,v⟩:=DataW.trod_int underlying3 D;obtain⟨c,l,_,u⟩:=DataW.trod_int underlying3 C;obtain⟨d,j,_,t⟩:=DataW.trod_int underlying3 B;obtain⟨s,i,_,z⟩:=DataW.trod_string underlying9 A;simp[xA,qP]at q p o l j i;exact⟨k,a,b,c,d,s,by rw[q,p,o,l,j,i],y,v,u,t,z⟩
end
end
section
open Go.ChangeShapes Go.WideShapes Go.ChangeAt Go.RowKit
section
variable {H:Type} {enc:TypeId×Value->H} {w:World} {base:Nat} {spare:Nat->Bool} {held:Bool}
theorem Jv{s:Nat}{I:Option Addr}{m cap:Nat}{d:DataW H}{p:List MemPlace}(h:DataW.trod enc E w base spare held s 22 [.slice I m cap]=G (d,p))(P:∀k∈d.weights E 22,k<=reachBytes):
 m*96<=140737488351232/\∃b off A Bi Dr Dn Al po n c pb poff V L R,WS w I b off m A Bi Dr Dn Al po n c pb poff V L R:=by
 rcases Deep.open_slice underlying22 h with⟨hcs,hx⟩|⟨a,l,c,q,n,D,Pl,hcs,hb,hl,hm,hmm,hx,hel⟩
 ·simp at hcs;obtain⟨rfl,rfl,rfl⟩:=hcs;refine⟨ol,0,0,λ_=>0,λ_=>0,λ_=>0,λ_=>J Z 0,λ_=>J Z 0,λ_=>T,λ_=>0,λ_=>0,λ_=>0,λ_=>0,λ_ _=>0,λ_ _=>0,λ_ _=>0,?_⟩;exact⟨λh=>ol,λh=>ol,λi hi=>ol,λi hi=>ol,λi hi=>ol,λi hi=>ol,λi hi=>ol,λi hi=>ol,λi hi=>ol,λi hi=>ol⟩
 ·simp at hcs hx;obtain⟨rfl,rfl,rfl⟩:=hcs;obtain⟨rfl,_⟩:=hx;have Q:m<=q:=by rw[hmm];split<;>omega
  rw[Y4]at hel;have o:∀k,k∈(m+(q-m))*96::(DataW.weightsAll E 31 ((List.range m).map D)++DataW.weightsAll E 31 ((List.range (q-m)).map λj=>D (m+j)))->k<=reachBytes:=by
   intro k C;refine P k ?_;simp only[DataW.weights,underlying22,QS,List.length_map,List.length_range];exact C
  refine⟨by have:=o _ (List.mem_cons_self ..);simp only[reachBytes]at this;omega,?_⟩;obtain⟨F,t⟩:=Deep.choose_lt (α:=(Int×Int×Int)×(Value×Value)×(Option Addr×Nat×Nat)×(Nat×Nat)×((Nat->Int)×(Nat->Int)×(Nat->Int))) (n:=m)
   (p:=λi y=>(∀j,j<6->w.cell? ((a.add (i*6)).add j)=[J Z y.1.1,J Z y.1.2.1,J Z y.1.2.2,y.2.1.1,y.2.1.2,.slice y.2.2.1.1 y.2.2.1.2.1 y.2.2.1.2.2][j]?) /\
    PT w y.2.2.1.1 y.2.2.2.1.1 y.2.2.2.1.2 y.2.2.1.2.1 y.2.2.1.2.2 y.2.2.2.2.1 y.2.2.2.2.2.1 y.2.2.2.2.2.2/\y.2.2.1.2.1*24<=140737488351232) (λi hi=>by
   obtain⟨Y,W,U⟩:=hel i ol;obtain⟨O,N,K,X,al,po,u,cp,pb,poff,V,L,R,rfl,x,v⟩:=zar U;obtain⟨_,_,S⟩:=World.cells?_some W;refine⟨((O,N,K),(X,al),(po,u,cp),(pb,poff),(V,L,R)),S,x,v λk C=>o k ?_⟩;refine List.mem_cons_of_mem _ (List.mem_append_left _ (ZF (d:=D i) ?_ C));exact List.mem_map.2 ⟨i,List.mem_range.2 hi,rfl⟩)
  obtain⟨b,off,g⟩:=a;refine⟨b,off,λi=>(F i).1.1,λi=>(F i).1.2.1,λi=>(F i).1.2.2,λi=>(F i).2.1.1,λi=>(F i).2.1.2,λi=>(F i).2.2.1.1,λi=>(F i).2.2.1.2.1,λi=>(F i).2.2.1.2.2,
   λi=>(F i).2.2.2.1.1,λi=>(F i).2.2.2.1.2,λi=>(F i).2.2.2.2.1,λi=>(F i).2.2.2.2.2.1,λi=>(F i).2.2.2.2.2.2,?_⟩
  by_cases B:m=0
  ·subst B;exact⟨λh=>ol,λh=>ol,λi hi=>ol,λi hi=>ol,λi hi=>ol,λi hi=>ol,λi hi=>ol,λi hi=>ol,λi hi=>ol,λi hi=>ol⟩
  ·have r:=(t 0 ol).1 0 ol;have f:g=T:=(by simpa[Addr.add]using World.cell?_spot r);subst f;have z:b<w.heap.size:=by
    have:=r
    simp[Addr.add]at this;exact yH this
   have e:∀i,i<m->∀j,j<6->w.cell? ⟨b,off+i*6+j,T⟩=[J Z (F i).1.1,J Z (F i).1.2.1,J Z (F i).1.2.2,(F i).2.1.1,(F i).2.1.2,.slice (F i).2.2.1.1 (F i).2.2.1.2.1 (F i).2.2.1.2.2][j]?:=λi hi j hj=>by
    have:=(t i hi).1 j hj
    rw[add_plain,add_plain]at this;exact this
   exact⟨λ_=>rfl,λ_=>z,λi hi=>e i hi 0 ol,λi hi=>e i hi 1 ol,λi hi=>e i hi 2 ol,λi hi=>e i hi 3 ol,λi hi=>e i hi 4 ol,λi hi=>e i hi 5 ol,
    λi hi=>(t i hi).2.1,λi hi=>(t i hi).2.2⟩
theorem zdD{r:Nat}{z:Option Addr}{m cap:Nat}{d:DataW H}{p:List MemPlace}(h:DataW.trod enc E w base spare held r 23 [.slice z m cap]=G (d,p))(V:∀k∈d.weights E 23,k<=reachBytes):
 m*56<=140737488351232/\∃b off K A B C D S,OS w z b off m K A B C D S/\∀i,i<m->(-9223372036854775808<=A i/\A i<=9223372036854775807)/\(-9223372036854775808<=B i/\B i<=9223372036854775807)/\(-9223372036854775808<=C i/\C i<=9223372036854775807)/\(-9223372036854775808<=D i/\D i<=9223372036854775807)/\(S i).size<=maxLen:=by
 rcases Deep.open_slice underlying23 h with⟨hcs,hx⟩|⟨a,l,c,q,n,D,Pl,hcs,hb,hl,hm,hmm,hx,hel⟩
 ·simp at hcs;obtain⟨rfl,rfl,rfl⟩:=hcs;refine⟨ol,0,0,λ_=>0,λ_=>0,λ_=>0,λ_=>0,λ_=>0,λ_=>ByteArray.empty,?_,λi hi=>ol⟩;exact⟨λh=>ol,λh=>ol,λi hi=>ol,λi hi=>ol,λi hi=>ol,λi hi=>ol,λi hi=>ol,λi hi=>ol⟩
 ·simp at hcs hx;obtain⟨rfl,rfl,rfl⟩:=hcs;obtain⟨rfl,_⟩:=hx;have X:m<=q:=by rw[hmm];split<;>omega
  rw[Qc]at hel;have t:(m+(q-m))*56<=reachBytes:=by
   refine V _ ?_;simp only[DataW.weights,underlying23,zfM,List.length_map,List.length_range];exact List.mem_cons_self ..
  refine⟨by simp only[reachBytes]at t;omega,?_⟩;obtain⟨F,x⟩:=Deep.choose_lt (α:=(Int×Int×Int×Int×Int)×ByteArray) (n:=m)
   (p:=λi y=>(∀j,j<6->w.cell? ((a.add (i*6)).add j)=[J Z y.1.1,J Z y.1.2.1,J Z y.1.2.2.1,J Z y.1.2.2.2.1,J Z y.1.2.2.2.2,.string y.2][j]?) /\
    ((-9223372036854775808<=y.1.2.1/\y.1.2.1<=9223372036854775807)/\(-9223372036854775808<=y.1.2.2.1/\y.1.2.2.1<=9223372036854775807)/\(-9223372036854775808<=y.1.2.2.2.1/\y.1.2.2.2.1<=9223372036854775807)/\(-9223372036854775808<=y.1.2.2.2.2/\y.1.2.2.2.2<=9223372036854775807)/\y.2.size<=maxLen)) (λi hi=>by
   obtain⟨a0,h1,h2⟩:=hel i ol;obtain⟨k,U,R,Q,P,s,rfl,O,N,L,I,W⟩:=zfn h2;obtain⟨_,_,Y⟩:=World.cells?_some h1;exact⟨((k,U,R,Q,P),s),Y,bounds_i64 O,bounds_i64 N,bounds_i64 L,bounds_i64 I,W⟩)
  obtain⟨b,off,g⟩:=a;refine⟨b,off,λi=>(F i).1.1,λi=>(F i).1.2.1,λi=>(F i).1.2.2.1,λi=>(F i).1.2.2.2.1,λi=>(F i).1.2.2.2.2,λi=>(F i).2,?_,λi hi=>(x i hi).2⟩;by_cases v:m=0
  ·subst v;exact⟨λh=>ol,λh=>ol,λi hi=>ol,λi hi=>ol,λi hi=>ol,λi hi=>ol,λi hi=>ol,λi hi=>ol⟩
  ·have o:=(x 0 ol).1 0 ol;have f:g=T:=(by simpa[Addr.add]using World.cell?_spot o);subst f;have u:b<w.heap.size:=by
    have:=o
    simp[Addr.add]at this;exact yH this
   have e:∀i,i<m->∀j,j<6->w.cell? ⟨b,off+i*6+j,T⟩=[J Z (F i).1.1,J Z (F i).1.2.1,J Z (F i).1.2.2.1,J Z (F i).1.2.2.2.1,J Z (F i).1.2.2.2.2,.string (F i).2][j]?:=λi hi j hj=>by
    have:=(x i hi).1 j hj
    rw[add_plain,add_plain]at this;exact this
   exact⟨λ_=>rfl,λ_=>u,λi hi=>e i hi 0 ol,λi hi=>e i hi 1 ol,λi hi=>e i hi 2 ol,λi hi=>e i hi 3 ol,λi hi=>e i hi 4 ol,λi hi=>e i hi 5 ol⟩
end
end
end Go.Proofs.YtaebngpoagjafabGreat
