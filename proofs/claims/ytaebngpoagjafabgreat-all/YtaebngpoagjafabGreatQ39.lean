import Derived.Test.YtaebngpoagjafabGreatQ10
import Derived.Test.YtaebngpoagjafabGreatQ38
set_option maxRecDepth 100000
set_option maxHeartbeats 1600000
namespace Go.Proofs.YtaebngpoagjafabGreat
open Proofs.Tryz renaming prog → F
open Option renaming none → N,some → S
open Proofs.Tryz
open Obj renaming cells → X
open Value renaming int → J, slice → O
open IntKind renaming i64 → Z
open Go.RowKit
attribute [local go_sem ↓] Go.wp_at_zero Go.wp_at_succ
def ZV(B0:Nat)(w:World)(m:MN)(r:Ending)(w':World):Prop:=Below w.heap.size w w'/\∃o k g f,r=.returned (.agg #[O o m.sv.length k,J Z m.ttl,J Z m.sc])/\IS w' o g f m.sv.length (λi=>(m.sv[i]?).getD 0)/\(0<m.sv.length->g<B0\/w.heap.size<=g)
theorem zbX{w:World}{base e a:Nat}{v:Value}{n:Nat}{b:List Value}(h:w.ownsRow base e a v n b):∃o k,v=O o n k:=by
 rcases h.2 with⟨h0,h1⟩|⟨g',cap',cur,h0,_⟩
 ·exact⟨N,0,by rw[h0,h1]⟩
 ·exact⟨_,_,h0⟩
theorem zbj(o:Option Addr)(n k:Nat)(w:World):(Instr.build 42 #[(0,O o n k),(1,J Z 86400)]).run F w=.ok (.agg #[O o n k,J Z 86400,J Z 0]) w:=run_build w 42 _ _ kr
theorem yP{e:Nat}{w b:World}{j:Array Value}{m:MN}{o:Option Addr}{k g f:Nat}(r:Below w.heap.size w b)(p:b.heap[w.heap.size+1]?=S (X #[O N 0 0,J Z 0,J Z 0] 42 (0,0)))(c:IS b o g f m.sv.length (λi=>(m.sv[i]?).getD 0))(q:e<=w.heap.size)(l:0<m.sv.length->g<e\/w.heap.size+2<=g)(n:j.getD 6 undef=.pointer (S ⟨w.heap.size+1,0,N⟩)):
 bodyPost F f117 (ZV e w m) .ret ⟨j,[]⟩ (((b.setCell ⟨w.heap.size+1,0,N⟩ (O o m.sv.length k)).setCell ⟨w.heap.size+1,1,N⟩ (J Z m.ttl)).setCell ⟨w.heap.size+1,2,N⟩ (J Z m.sc)):=by
 have d:=ym (x':=O o m.sv.length k) (y':=J Z m.ttl) (z':=J Z m.sc) p;refine bodyPost_ret (v:=.agg #[O o m.sv.length k,J Z m.ttl,J Z m.sc]) (YU results117 _ _ _ ⟨w.heap.size+1,0,N⟩ _ n (run_loadVar_row _ _ _ _ _ _ _ d underlying42 rfl kr)) rfl ⟨((r.setCell ox _).setCell ox _).setCell ox _,o,k,g,f,rfl,?_,λh=>by have:=l h;omega⟩;refine⟨c.at_,λh=>by have:=c.lt h;simpa using this,λi hi=>?_⟩;have a:g≠w.heap.size+1:=by have:=l ol;omega
 rw[World.cell?_of_block (w:=b) (by rw[za a,za a,za a])];exact c.val i hi
theorem jQ(Q:Nat)(P:Value)(t:ByteArray)(x:WD)(V:Nat->Int)(w:World)(E:Q<=w.heap.size)(hs:t.size<=2000)(h:T.ch t 0=123)(h2:2<=t.size)(hi:∀i y,(spl (t.extract 1 (t.size-1)) 44)[i]?=S y->T.digs y/\y.size<=9/\T.val y y.size=V i):
 Calls F 117 #[P,.string t,x.val] w (ZV Q w ⟨knK V (spl (t.extract 1 (t.size-1)) 44).length,86400,0⟩):=by
 obtain⟨R,hc⟩:=Zy h oq;have a1:(2:Int)<=(t.size:Int):=ol;have a0:(t.size:Int)<=2000:=ol;have B:(t.extract 1 (t.size-1)).size<=2000:=by rw[yf t _ _ ol];omega
 have j:(spl (t.extract 1 (t.size-1)) 44).length<=2001:=by
  have:=(qn (t.extract 1 (t.size-1)) 44 (t.extract 1 (t.size-1)).size).2.1
  simp only[spl,List.length_append,List.length_cons,List.length_nil];omega
 have I:Hd _:=hi;clear hi;unfold WD.val;have A:Hd (Below w.heap.size w ((w.alloc (X #[J Z x.a,J Z x.b,J Z x.d,O x.do_ x.dl x.dc,O x.ao x.al.length x.ac,O x.po x.pl x.pcp] 31)).alloc (X #[O N 0 0,J Z 0,J Z 0] 42))):=((Below.refl _ _).alloc (Nat.le_refl _) _).alloc ot _;have s:Hd (((w.alloc (X #[J Z x.a,J Z x.b,J Z x.d,O x.do_ x.dl x.dc,O x.ao x.al.length x.ac,O x.po x.pl x.pcp] 31)).alloc (X #[O N 0 0,J Z 0,J Z 0] 42)).heap[w.heap.size+1]?=S (X #[O N 0 0,J Z 0,J Z 0] 42 (0,0))):=zl _ ot;go_enter func117,ntmps117;go_wp2_with fail;refine(Zd _ 44 _ B).mono ?_;rintro e W ⟨D,v,rfl,f⟩;have z:Hd _:=A.o.trans (D.mono A.o.size);have p:Hd _:=(D.block _ (lt_of_block s.o)).trans s.o;obtain⟨g,H,rfl,_,C⟩:=ya f (Zq _ _);have U:=Jw g (spl (t.extract 1 (t.size-1)) 44) H V W j (λi y hy=>⟨yh f hy,I.o i y hy⟩) C;clear D f;have a2:Hd _:=j;clear j;generalize(spl (t.extract 1 (t.size-1)) 44).length=n at *;go_wp2_with fail;refine U.mono ?_;rintro e w2 ⟨l,v,rfl,c⟩;obtain⟨o,k,rfl⟩:=zbX c;have L:Hd _:=z.o.trans (l.mono z.o.size);have r:Hd _:=(l.block _ (lt_of_block p.o)).trans p.o;obtain⟨y0,y1,y2,z0,z1,z2⟩:=ld3 r.o;obtain⟨G,q⟩:=qB c;have u:Hd _:=q;have K:Hd (0<(knK V n).length->G<Q\/w.heap.size+2<=G):=λR=>.inr (by
  have h1:=(c.lt G (by rw[u.o.at_ R];rfl)).1;have h2:=lt_of_block p.o;omega)
 have Y:=λwz=>zbj o (knK V n).length k wz
 clear l c q U;go_wp2_with fail;exact yP (k:=k) (m:=⟨knK V n,86400,0⟩) L.o r.o u.o E K.o rfl
theorem zfQ(w:World):(Instr.build 42 #[(1,J Z 86400)]).run F w=.ok (.agg #[O N 0 0,J Z 86400,J Z 0]) w:=run_build w 42 _ _ kr
theorem zax(I:Nat)(P:Value)(t:ByteArray)(x:WD)(c:Nat)(w:World)(hs:t.size<=2000)(h:T.ch t 0=64)(hd:T.digs (t.extract 1 t.size))(z:(t.extract 1 t.size).size<=9)(hv:T.val (t.extract 1 t.size) (t.extract 1 t.size).size=(c:Int))(B:I<=w.heap.size)(A:AS w I x.ao x.ab x.aoff x.al)(a3:x.al.length<=9223372036854775807):
 Calls F 117 #[P,.string t,x.val] w (ZV I w ⟨(x.al[c]?).getD [],86400,0⟩):=by
 obtain⟨h0,hc⟩:=Zy h oq;have a7:(1:Int)<=(t.size:Int):=ol;have a6:(t.size:Int)<=2000:=ol;have E:Hd (∀wz,Calls F 151 #[.string (t.extract 1 t.size)] wz λe w'=>Below wz.heap.size wz w'/\e=.returned (J Z (c:Int))):=λwz=>(ZB _ wz ol).mono (by rintro e w' ⟨u,v,rfl,Q⟩;exact⟨u,by rw[Q hd z,hv]⟩)
 have Y:Hd _:=A;clear hd z hv A;obtain⟨l,HL⟩:∃l,Hd ((x.al[c]?).getD []=l):=⟨_,rfl⟩;rw[HL.o];unfold WD.val;have H:Hd (Below w.heap.size w ((w.alloc (X #[J Z x.a,J Z x.b,J Z x.d,O x.do_ x.dl x.dc,O x.ao x.al.length x.ac,O x.po x.pl x.pcp] 31)).alloc (X #[O N 0 0,J Z 0,J Z 0] 42))):=((Below.refl _ _).alloc (Nat.le_refl _) _).alloc ot _;have D:Hd (((w.alloc (X #[J Z x.a,J Z x.b,J Z x.d,O x.do_ x.dl x.dc,O x.ao x.al.length x.ac,O x.po x.pl x.pcp] 31)).alloc (X #[O N 0 0,J Z 0,J Z 0] 42)).heap[w.heap.size]?=S (X #[J Z x.a,J Z x.b,J Z x.d,O x.do_ x.dl x.dc,O x.ao x.al.length x.ac,O x.po x.pl x.pcp] 31 (0,0))):=by show _=_;rw[Below.heap_alloc _ _ _ ot];exact heap_alloc_new w _
 have G:Hd (((w.alloc (X #[J Z x.a,J Z x.b,J Z x.d,O x.do_ x.dl x.dc,O x.ao x.al.length x.ac,O x.po x.pl x.pcp] 31)).alloc (X #[O N 0 0,J Z 0,J Z 0] 42)).heap[w.heap.size+1]?=S (X #[O N 0 0,J Z 0,J Z 0] 42 (0,0))):=zl _ ot;go_enter func117,ntmps117;go_wp2_with fail;refine(E.o _).mono ?_;rintro e w1 ⟨u,rfl⟩;have n:Hd _:=H.o.trans (u.mono H.o.size);have s:Hd _:=(u.block _ (lt_of_block G.o)).trans G.o;obtain⟨-,-,-,-,q4,-⟩:=ld6 D.o (u.block _ (lt_of_block D.o));obtain⟨y0,y1,y2,z0,z1,z2⟩:=ld3 s.o;clear u;by_cases R:c<x.al.length
 ·have hl:x.al[c]?=S l:=by rw[<-HL.o,List.getElem?_eq_getElem R];rfl
  obtain⟨K,L,j,q⟩:=Y.o.val c l hl;have a2:(c:Int)<(x.al.length:Int):=ol;have U:¬(x.al.length:Int)<=(c:Int):=ol;have W:=Y.o.at_ ol;have a5:=Y.o.lt ol;have a4:w1.cell? ⟨x.ab,x.aoff+c,N⟩=S (O K l.length L):=(n.o.cell (p:=⟨x.ab,x.aoff+c,N⟩) ox).trans j;rw[W]at q4;have V:=λwz=>zbj K l.length L wz
  obtain⟨r,C,a0,a1⟩:∃r C,Hd (IS w1 K r C l.length (λi=>(l[i]?).getD 0))/\Hd (0<l.length->r<I\/w.heap.size+2<=r):=by
   rcases Nat.eq_zero_or_pos l.length with h0|h0
   ·exact⟨0,0,⟨λh=>ol,λh=>ol,λi hi=>ol⟩,λh=>ol⟩
   ·obtain⟨r,C,e1,e2,e3⟩:=q h0;refine⟨r,C,⟨λ_=>e1,λ_=>by have:=n.o.size;omega,λi hi=>?_⟩,λ_=>.inl e2⟩;obtain⟨y,hy⟩:∃y,l[i]?=S y:=⟨_,List.getElem?_eq_getElem hi⟩;rw[n.o.cell (p:=⟨r,C+i,N⟩) ox,e3 i y hy,hy];rfl
  clear q j hl;go_wp2_with fail;exact yP (k:=L) (m:=⟨l,86400,0⟩) n.o s.o a0.o B a1.o rfl
 ·have U:(x.al.length:Int)<=(c:Int):=by omega
  obtain rfl:l=[]:=by rw[<-HL.o,List.getElem?_eq_none ol];rfl
  have V:=λwz=>zfQ wz
  go_wp2_with fail;exact yP (o:=none) (k:=0) (g:=0) (f:=0) (m:=⟨[],86400,0⟩) n.o s.o ⟨λh=>by simp at h,λh=>by simp at h,λi hi=>by simp at hi⟩ B (λh=>by simp at h) rfl
def pfV(s:ByteArray):Nat->Int
 |0=>0
 |n+1=>pfV s n*2+(if n<s.size/\T.ch s n=49 then 1 else 0)
theorem zgt(s:ByteArray):∀n,0<=pfV s n/\pfV s n<2 ^ n:=by
 intro n;induction n with
 |zero=>exact⟨Int.le_refl _,by simp[pfV]⟩
 | succ n ih =>
  simp only[pfV];rw[Int.pow_succ];split<;>omega
theorem jL(s:ByteArray)(w:World)(B:s.size<=2000):
 Calls F 169 #[.string s] w λe w'=>Below w.heap.size w w'/\e=.returned (.agg #[J Z (pfV s 32),J Z (s.size:Int)]):=by
 go_enter func169,ntmps169;go_wp2_with fail;have u:(s.size:Int)<=2000:=ol;go_loopg [3,4] 32 (λq x y wr=>∃(j:Nat) (v:Int),q+j=32/\x=J Z v/\y=J Z j/\Hd (pfV s j=v)/\wr=w.alloc (X #[J Z 0,J Z 0] 94))
 case atStart=>exact⟨0,0,ol,rfl,rfl,rfl,rfl⟩
 case round =>
  obtain⟨j,v,C,rfl,rfl,f,rfl⟩:=hrel;by_cases r:j<32
  ·have k:(j:Int)<32:=(by omega);have b:=zgt s j;rw[f.o]at b;have p:(2:Int) ^ j<=2 ^ 32:=by
    have z:(2:Nat) ^ j<=2 ^ 32:=Nat.pow_le_pow_right ol ol;exact_mod_cast z
   have n:0<=v:=b.1;have m:v<4294967296:=by
    have D:(2:Int) ^ 32=4294967296:=oq;omega
   clear b p;by_cases l:j<s.size
   ·have h:(j:Int)<(s.size:Int):=(by omega);obtain⟨ch,a⟩:∃c,T.ch s j=c:=⟨_,rfl⟩;have t:((s[j]).toNat:Int)=ch:=(by rw[<-a];exact(T.ch_lt l).symm);by_cases d:ch=49
    ·subst d;have g:Hd (pfV s (j+1)=v*2+1):=(by show _=_;simp only[pfV];rw[f.o,if_pos ⟨l,a⟩]);clear a;go_wp2_with fail;go_roundg (gk-1)
     case measure=>omega
     case rel=>exact⟨j+1,v*2+1,ol,by go_num,by go_num,g.o,rfl⟩
    ·have A:(ch==49)=false:=(by simpa using d);have g:Hd (pfV s (j+1)=v*2):=(by show _=_;simp only[pfV];rw[f.o,if_neg (by rw[a];omega)];omega);clear a;go_wp2_with fail;go_roundg (gk-1)
     case measure=>omega
     case rel=>exact⟨j+1,v*2,ol,by go_num,by go_num,g.o,rfl⟩
   ·have h:decide ((j:Int)<(s.size:Int))=false:=decide_eq_false ol;have g:Hd (pfV s (j+1)=v*2):=(by show _=_;simp only[pfV];rw[f.o,if_neg ol];omega);go_wp2_with fail;go_roundg (gk-1)
    case measure=>omega
    case rel=>exact⟨j+1,v*2,ol,by go_num,by go_num,g.o,rfl⟩
  ·have i:j=32:=(by omega);subst i;go_wp2_with fail;exact bodyPost_ret (v:=.agg #[J Z v,J Z (s.size:Int)]) (by simp[results,results169,go_sem]) rfl ⟨(Below.refl _ _).alloc (Nat.le_refl _) _,by rw[f.o]⟩
def zf3(w:World)(io:Nat)(L:List ByteArray)(A:Nat->ByteArray):Prop:=∀i x,L[i]?=S x->w.cell? ⟨io,i,N⟩=S (.string x)/\(spl x 58)[0]?=S (A i)/\(A i).size+1<=x.size/\x.size<=2000
def JZ(L:List ByteArray)(A:Nat->ByteArray)(k:Int)(other:ByteArray):ByteArray:=if k<0 then other else match L[k.toNat]? with|some x=>x.extract ((A k.toNat).size+1) x.size|none=>other
def bpV(A:Nat->ByteArray)(i:Nat):Int:=pfV (A i) 32
def bpL(A:Nat->ByteArray)(i:Nat):Int:=((A i).size:Int)
theorem j4(a b d:Int)(o:Option Addr)(n c:Nat)(I H:Option Addr)(al P pl l:Nat)(r:Nat)(L:List ByteArray)(ic:Nat)(A:Nat->ByteArray)(f:ByteArray)(w:World)(hA:M.isA a=true)(b0:0<=b)(b1:b<=32)(hL:L.length<=64)(hi:zf3 w r L A)(U:r<w.heap.size)(hp:∀i,i<L.length->M.isP (bpV A i) (bpL A i)=true):
 Calls F 155 #[.agg #[J Z a,J Z b,J Z d,O o n c,O I al P,O H pl l],O (S ⟨r,0,N⟩) L.length ic,.string f] w λe w'=>Below w.heap.size w w'/\e=.returned (.tuple #[.string (JZ L A (M.bestTo (bpV A) (bpL A) (zY a b) L.length) f),J Z (M.depTo (bpV A) (bpL A) (zY a b) L.length)]):=by
 obtain⟨i0,b9,b4,b3,b2⟩:=info_parts infoPrefix;obtain⟨m,hm⟩:∃m,L.length=m:=⟨_,rfl⟩;have HM:Hd _:=hm;rw[hm]at hL hp⊢;clear hm;have HP:Hd _:=hp;have a5:Hd _:=hi;obtain⟨a0,a1⟩:=M.isA_iff.1 hA;obtain⟨k0,k1⟩:=Qb (n:=b) a0 a1;have c0:M.isA (zY a b)=true:=M.isA_iff.2 ⟨k0,k1⟩;have a6:Hd (∀wz,Calls F 167 #[J Z a,J Z b] wz λe w'=>e=.returned (J Z (zY a b))/\w'=wz):=λwz=>Z1 a b wz a0 a1 b0 b1
 clear hi hp;have G:Hd (Below w.heap.size w (w.alloc (X #[J Z a,J Z b,J Z d,O o n c,O I al P,O H pl l] 31))):=(Below.refl _ _).alloc (Nat.le_refl _) _;have c5:Hd ((w.alloc (X #[J Z a,J Z b,J Z d,O o n c,O I al P,O H pl l] 31)).heap[w.heap.size]?=S (X #[J Z a,J Z b,J Z d,O o n c,O I al P,O H pl l] 31 (0,0))):=heap_alloc_new w _;go_enter func155,ntmps155;go_wp2_with fail;have HS:Hd ((w.alloc (X #[J Z a,J Z b,J Z d,O o n c,O I al P,O H pl l] 31)).heap.size=w.heap.size+1):=sw;generalize w.alloc (X #[J Z a,J Z b,J Z d,O o n c,O I al P,O H pl l] 31)=w1 at *;go_loopg [8,9] m (λq v x wr=>∃j:Nat,q+j=m/\x=J Z j/\Hd (wr.ownsRow w1.heap.size 94 2 v j (pc (bpV A) (bpL A) j))/\Hd (Below w1.heap.size w1 wr))
 case atStart=>exact⟨0,ol,rfl,World.ownsRow_nil _ _ _ _,Below.refl _ _⟩
 case round =>
  obtain⟨j,hj,rfl,HO,HB⟩:=hrel;by_cases b6:j<m
  ·have R:(j:Int)<(m:Int):=(by omega);obtain⟨x,s⟩:∃x,L[j]?=S x:=⟨L[j]'(by rw[HM.o];exact b6),List.getElem?_eq_getElem _⟩;obtain⟨c1,c2,c3,c4⟩:=a5.o j x s;have hv:wr.cell? ⟨r,j,N⟩=S (.string x):=by
    rw[HB.o.cell (p:=⟨r,j,N⟩) (by rw[HS.o];simp only;omega),G.o.cell (p:=⟨r,j,N⟩) U];exact c1
   have h:=λwz=>Qk x (A j) wz c4 c2 c3
   clear c1 c2 s;go_wp2_with fail;refine(h _).mono ?_;rintro e w2 ⟨B,rfl⟩;have a9:Hd _:=HB.o.trans (B.mono HB.o.size);have a4:Hd (w2.ownsRow w1.heap.size 94 2 u8 j (pc (bpV A) (bpL A) j)):=zd HO.o (λg hg=>B.block g (HO.o.lt g hg).2);have a2:=λwz=>jL (A j) wz ol
   clear B hv h;go_wp2_with fail;refine(a2 _).mono ?_;rintro e w3 ⟨z,rfl⟩;have E:Hd (Below w1.heap.size w1 w3):=a9.o.trans (z.mono a9.o.size);have a3:Hd (w3.ownsRow w1.heap.size 94 2 u8 j (pc (bpV A) (bpL A) j)):=zd a4.o (λg hg=>z.block g (a4.o.lt g hg).2);clear z a2;have c8:=E.o.size;go_wp2_with (at_builtin;refine wpList_append_own _ rfl _ _ 98 rfl w1.heap.size 94 i0 (.agg #[J Z 0,J Z 0]) 2 16 underlying98 b9 b4 b3 b2 rfl oq _ _ _ rfl (a3.o.alloc _) ⟨w3.heap.size,0,N⟩ 1 1 [J Z (pfV (A j) 32),J Z ((A j).size:Int)] rfl rfl (zgb _ _ _ _) (λx s=>by simp at s;rcases s with rfl|rfl<;>rfl) mr ol ow ?_;intro v' w4 y t _)
   have b5:Hd (Below w1.heap.size w1 w4):=(E.o.alloc E.o.size _).grown t ow (λq hq=>(a3.o.lt q hq).1);go_roundg (gk-1)
   case measure=>omega
   case rel=>exact⟨j+1,ol,by go_num,y,b5⟩
  ·have b8:j=m:=(by omega);subst b8;have R:¬(j:Int)<(j:Int):=ol;obtain⟨lo,lb,lc,rfl,_,_,Q⟩:=Yf HO.o;have u:=(HB.o.block w.heap.size (by rw[HS.o];omega)).trans c5.o;have r0:wr.cell? ⟨w.heap.size,0,N⟩=S (J Z a):=(by simp[World.cell?,u]);have r1:wr.cell? ⟨w.heap.size,1,N⟩=S (J Z b):=(by simp[World.cell?,u]);have C:=qw lo lb j lc (bpV A) (bpL A) (zY a b) wr c0 hL Q HP.o;have a7:=M.best_lo (V:=bpV A) (L:=bpL A) (a:=zY a b) (n:=j);obtain⟨K,HK⟩:∃K,Hd (M.bestTo (bpV A) (bpL A) (zY a b) j=K):=⟨_,rfl⟩;obtain⟨dp,HD⟩:∃dp,Hd (M.depTo (bpV A) (bpL A) (zY a b) j=dp):=⟨_,rfl⟩;rw[HK.o,HD.o]at C;rw[HK.o]at a7;clear u Q;go_wp2_with fail;refine(a6.o _).mono ?_;rintro e w' ⟨rfl,c7⟩;subst w';go_wp2_with fail;refine C.mono ?_;rintro e w5 ⟨rfl,q,rfl⟩;have a8:Hd (Below w1.heap.size w1 (wr.drewN q)):=zC HB.o q;have D:Hd (Below w.heap.size w (wr.drewN q)):=G.o.trans (a8.o.mono (by rw[HS.o];omega));clear C r0 r1;by_cases hk:K<0
   ·have W:JZ L A K f=f:=(by unfold JZ;rw[if_pos hk]);have HE:Hd _:=W;clear W;generalize wr.drewN q=w5 at *;go_wp2_with fail;go_ret2;exact⟨D.o,by rw[HK.o,HD.o,HE.o];rfl⟩
   ·obtain⟨k,rfl⟩:∃k:Nat,K=k:=⟨K.toNat,ol⟩;have b7:k<j:=ol;obtain⟨x,s⟩:∃x,L[k]?=S x:=⟨L[k]'(by rw[HM.o];exact b7),List.getElem?_eq_getElem _⟩;obtain⟨c1,c2,c3,c4⟩:=a5.o k x s;have W:JZ L A (k:Int) f=x.extract ((A k).size+1) x.size:=(by unfold JZ;rw[if_neg hk];simp only[Int.toNat_natCast];rw[s]);have HE:Hd _:=W;have hv:(wr.drewN q).cell? ⟨r,k,N⟩=S (.string x):=by
     rw[a8.o.cell (p:=⟨r,k,N⟩) (by rw[HS.o];simp only;omega),G.o.cell (p:=⟨r,k,N⟩) U];exact c1
    have h:=λwz=>Qk x (A k) wz c4 c2 c3
    have d0:(0:Int)<=(k:Int):=ol;have c9:(k:Int)<(j:Int):=ol;clear c1 c2 s W a7;generalize wr.drewN q=w5 at *;go_wp2_with fail;refine(h _).mono ?_;rintro e w6 ⟨Y,rfl⟩;have c6:Hd _:=D.o.trans (Y.mono D.o.size);clear Y hv h;go_wp2_with fail;go_ret2;exact⟨c6.o,by rw[HK.o,HD.o,HE.o];rfl⟩
theorem JB(B0:Nat)(Q:World->Prop)(hQ:∀w w',Q w->Below w.heap.size w w'->Q w')(P:Value)(t a b:ByteArray)(x:WD)(A:Nat->ByteArray)(y:ByteArray)(m:MN)(w:World)(a1:B0<=w.heap.size)(hs:t.size<=2000)(h:T.ch t 0=109)(h3:3<=t.size)(ha:(spl (t.extract 2 (t.size-1)) 124)[0]?=S a)(hb:(spl (t.extract 2 (t.size-1)) 124)[1]?=S b)(hL:(spl a 44).length<=64)(hi:∀i z,(spl a 44)[i]?=S z->(spl z 58)[0]?=S (A i)/\(A i).size+1<=z.size/\z.size<=2000)(hp:∀i,i<(spl a 44).length->M.isP (bpV A i) (bpL A i)=true)(hA:M.isA x.a=true)(b0:0<=x.b)(b1:x.b<=32)(hx:Q w)(hy:JZ (spl a 44) A (M.bestTo (bpV A) (bpL A) (zY x.a x.b) (spl a 44).length) b=y)(ih:∀wz,Q wz->Calls F 117 #[P,.string y,x.val] wz (ZV B0 wz m)):
 Calls F 117 #[P,.string t,x.val] w (ZV B0 w ⟨m.sv,m.ttl,if m.sc<M.depTo (bpV A) (bpL A) (zY x.a x.b) (spl a 44).length then M.depTo (bpV A) (bpL A) (zY x.a x.b) (spl a 44).length else m.sc⟩):=by
 obtain⟨h0,hc⟩:=Zy h oq;have b5:(3:Int)<=(t.size:Int):=ol;have b4:(t.size:Int)<=2000:=ol;have a6:Hd (∀wz,Calls F 101 #[.string t] wz λe w'=>Below wz.heap.size wz w'/\∃v,e=.returned (.tuple #[v,.string b])/\w'.ownsRow wz.heap.size 9 1 v (spl a 44).length ((spl a 44).map Value.string)):=λwz=>Yd t a b wz hs h3 ha hb
 have IH:Hd _:=ih;have HQ:Hd _:=hQ;have a5:Hd _:=hx;obtain⟨d,HD⟩:∃d,Hd (M.depTo (bpV A) (bpL A) (zY x.a x.b) (spl a 44).length=d):=⟨_,rfl⟩;have a9:Hd (∀wz io ic,zf3 wz io (spl a 44) A->io<wz.heap.size->Calls F 155 #[.agg #[J Z x.a,J Z x.b,J Z x.d,O x.do_ x.dl x.dc,O x.ao x.al.length x.ac,O x.po x.pl x.pcp],O (S ⟨io,0,N⟩) (spl a 44).length ic,.string b] wz λe w'=>Below wz.heap.size wz w'/\e=.returned (.tuple #[.string y,J Z d])):=λwz io ic h1 h2=>by
  have:=j4 x.a x.b x.d x.do_ x.dl x.dc x.ao x.po x.al.length x.ac x.pl x.pcp io (spl a 44) ic A b wz hA b0 b1 hL h1 h2 hp
  rw[hy,HD.o]at this;exact this
 have b3:Hd _:=hi;have a7:Hd (0<(spl a 44).length):=Zq _ _;have b6:Hd _:=hL;rw[HD.o];obtain⟨sc,D⟩:∃sc,Hd ((if m.sc<d then d else m.sc)=sc):=⟨_,rfl⟩;rw[D.o];have a3:Hd (∀o n k wz,Calls F 156 #[.agg #[O o n k,J Z m.ttl,J Z m.sc],J Z d] wz λe w'=>Below wz.heap.size wz w'/\e=.returned (.agg #[O o n k,J Z m.ttl,J Z sc])):=λo n k wz=>by rw[<-D.o];exact Q6 o n k m.ttl m.sc d wz
 clear hi hp hA b0 b1 hL hy ih ha hb hx hQ;generalize spl a 44=L at *;unfold WD.val at IH⊢;have Y:Hd (Below w.heap.size w ((w.alloc (X #[J Z x.a,J Z x.b,J Z x.d,O x.do_ x.dl x.dc,O x.ao x.al.length x.ac,O x.po x.pl x.pcp] 31)).alloc (X #[O N 0 0,J Z 0,J Z 0] 42))):=((Below.refl _ _).alloc (Nat.le_refl _) _).alloc ot _;have C:Hd (((w.alloc (X #[J Z x.a,J Z x.b,J Z x.d,O x.do_ x.dl x.dc,O x.ao x.al.length x.ac,O x.po x.pl x.pcp] 31)).alloc (X #[O N 0 0,J Z 0,J Z 0] 42)).heap[w.heap.size]?=S (X #[J Z x.a,J Z x.b,J Z x.d,O x.do_ x.dl x.dc,O x.ao x.al.length x.ac,O x.po x.pl x.pcp] 31 (0,0))):=by show _=_;rw[Below.heap_alloc _ _ _ ot];exact heap_alloc_new w _
 have I:Hd (((w.alloc (X #[J Z x.a,J Z x.b,J Z x.d,O x.do_ x.dl x.dc,O x.ao x.al.length x.ac,O x.po x.pl x.pcp] 31)).alloc (X #[O N 0 0,J Z 0,J Z 0] 42)).heap[w.heap.size+1]?=S (X #[O N 0 0,J Z 0,J Z 0] 42 (0,0))):=zl _ ot;go_enter func117,ntmps117;go_wp2_with fail;refine(a6.o _).mono ?_;rintro e w1 ⟨l,v,rfl,c⟩;have W:Hd _:=Y.o.trans (l.mono Y.o.size);have q:Hd _:=(l.block _ (lt_of_block C.o)).trans C.o;have H:Hd _:=(l.block _ (lt_of_block I.o)).trans I.o;obtain⟨g,a2,rfl,_,a0⟩:=ya c a7.o;have U:=a9.o w1 g a2 (λi z hz=>⟨yh c hz,b3.o i z hz⟩) a0;obtain⟨q0,q1,q2,q3,q4,q5⟩:=ld6 q.o rfl;clear l c;generalize L.length=n at *;go_wp2_with fail;refine U.mono ?_;rintro e w2 ⟨j,rfl⟩;have s:Hd _:=W.o.trans (j.mono W.o.size);have a4:Hd _:=(j.block _ (lt_of_block q.o)).trans q.o;have r:Hd _:=(j.block _ (lt_of_block H.o)).trans H.o;clear j U q0 q1 q2 q3 q4 q5;obtain⟨q0,q1,q2,q3,q4,q5⟩:=ld6 a4.o rfl;go_wp2_with fail;refine(IH.o _ (HQ.o _ _ a5.o s.o)).mono ?_;rintro e w3 ⟨p,o,k,gi,gf,rfl,u,B⟩;have V:Hd _:=s.o.trans (p.mono s.o.size);have G:Hd _:=(p.block _ (lt_of_block r.o)).trans r.o;have R:Hd _:=u;have a8:Hd (0<m.sv.length->gi<B0\/w.heap.size+2<=gi):=λh0=>by
  have h1:=B h0;have h2:=lt_of_block r.o;omega
 clear p u B q0 q1 q2 q3 q4 q5;go_wp2_with fail;refine(a3.o o m.sv.length k _).mono ?_;rintro e w4 ⟨f,rfl⟩;have b2:Hd _:=V.o.trans (f.mono V.o.size);have E:Hd _:=(f.block _ (lt_of_block G.o)).trans G.o;have K:Hd _:=R.o.below f R.o.lt;obtain⟨y0,y1,y2,z0,z1,z2⟩:=ld3 E.o;clear f;go_wp2_with fail;exact yP (k:=k) (m:=⟨m.sv,m.ttl,sc⟩) b2.o E.o K.o a1 a8.o rfl
def XO(A:Nat->ByteArray)(r:Int)(other:ByteArray):Nat->List ByteArray->ByteArray
 |_,[]=>other
 |i,x::xs=>if T.val (A i) (A i).size=r then x.extract ((A i).size+1) x.size else XO A r other (i+1) xs
def brE(L:List ByteArray)(A:Nat->ByteArray)(R:Nat->Int)(k:Int)(other:ByteArray):ByteArray:=if k<0 then other else XO A (R k.toNat) other 0 L
theorem j3(a b d:Int)(o:Option Addr)(n c:Nat)(ao u:Option Addr)(al ac Y k pl g:Nat)(V l R:Nat->Int)(io:Nat)(L:List ByteArray)(ic:Nat)(A:Nat->ByteArray)(f:ByteArray)(w:World)(hA:M.isA a=true)(b0:0<=b)(b1:b<=32)(hL:L.length<=2001)(hi:zf3 w io L A)(hd:∀i,i<L.length->T.digs (A i)/\(A i).size<=9)(c8:io<w.heap.size)(a2:TS w u Y k pl V l R)(c0:pl<=64)(hp:∀i,i<pl->M.isP (V i) (l i)=true):
 Calls F 157 #[.agg #[J Z a,J Z b,J Z d,O o n c,O ao al ac,O u pl g],O (S ⟨io,0,N⟩) L.length ic,.string f] w λe w'=>Below w.heap.size w w'/\e=.returned (.tuple #[.string (brE L A R (M.bestTo V l (zY a b) pl) f),J Z (M.depTo V l (zY a b) pl)]):=by
 obtain⟨m,hm⟩:∃m,L.length=m:=⟨_,rfl⟩;have HM:Hd _:=hm;rw[hm]at hL hd⊢;clear hm;have d6:Hd _:=hd;have d3:Hd _:=hi;have b3:Hd _:=a2;obtain⟨a0,a1⟩:=M.isA_iff.1 hA;obtain⟨k0,k1⟩:=Qb (n:=b) a0 a1;have a8:M.isA (zY a b)=true:=M.isA_iff.2 ⟨k0,k1⟩;have H:Hd (∀wz,Calls F 167 #[J Z a,J Z b] wz λe w'=>e=.returned (J Z (zY a b))/\w'=wz):=λwz=>Z1 a b wz a0 a1 b0 b1
 have b6:Hd (∀wz,TS wz u Y k pl V l R->Calls F 42 #[O u pl g] wz λe w'=>(∃v,e=.returned v/\w'.ownsRow wz.heap.size 94 2 v pl (pc V l pl))/\Below wz.heap.size wz w'):=λwz h=>XQ u Y k pl g V l R wz ol h
 have d7:=M.best_lo (V:=V) (L:=l) (a:=zY a b) (n:=pl);obtain⟨K,HK⟩:∃K,Hd (M.bestTo V l (zY a b) pl=K):=⟨_,rfl⟩;obtain⟨dp,HD⟩:∃dp,Hd (M.depTo V l (zY a b) pl=dp):=⟨_,rfl⟩;have b7:Hd (∀lo lb lc wz,PS wz lo lb pl V l->Calls F 115 #[O lo pl lc,J Z (zY a b)] wz λe w'=>e=.returned (.tuple #[J Z K,J Z dp])/\∃m,w'=wz.drewN m):=λlo lb lc wz h=>by
  rw[<-HK.o,<-HD.o];exact qw lo lb pl lc V l (zY a b) wz a8 c0 h hp
 rw[HK.o]at d7;clear hi hd a2 hp hA a8 k0 k1;generalize zY a b=ca at *;have D:Hd (Below w.heap.size w (w.alloc (X #[J Z a,J Z b,J Z d,O o n c,O ao al ac,O u pl g] 31))):=(Below.refl _ _).alloc (Nat.le_refl _) _;have B:Hd ((w.alloc (X #[J Z a,J Z b,J Z d,O o n c,O ao al ac,O u pl g] 31)).heap[w.heap.size]?=S (X #[J Z a,J Z b,J Z d,O o n c,O ao al ac,O u pl g] 31 (0,0))):=heap_alloc_new w _;have HS:Hd ((w.alloc (X #[J Z a,J Z b,J Z d,O o n c,O ao al ac,O u pl g] 31)).heap.size=w.heap.size+1):=sw;go_enter func157,ntmps157;go_upto_region 1 with fail
 generalize w.alloc (X #[J Z a,J Z b,J Z d,O o n c,O ao al ac,O u pl g] 31)=w1 at *;have b2:Hd _:=b3.o.below D.o;have y:w.heap.size<w1.heap.size:=lt_of_block B.o;obtain⟨q0,q1,-,-,-,q5⟩:=ld6 B.o rfl;go_cut [8,9] (λs8 s9 wx=>s8=J Z K/\s9=J Z dp/\Below w1.heap.size w1 wx)
 case first =>
  go_region_held3 (λw'=>w'.cell? ⟨w.heap.size,0,N⟩=S (J Z a)/\w'.cell? ⟨w.heap.size,1,N⟩=S (J Z b)/\w'.cell? ⟨w.heap.size,5,N⟩=S (O u pl g)) (first|(exact⟨q0,q1,q5⟩)|(exact⟨U.1,U.2.1,U.2.2.2.2.2⟩)|go_keep) (first|(go_at_call 42;refine(b6.o _ (b2.o.below (by first|exact(Below.refl _ _).drew|exact Below.refl _ _))).mono ?_;rintro e P ⟨⟨v,rfl,ho⟩,z⟩;obtain⟨lo,lb,lc,rfl,-,-,a3⟩:=Yf ho;have d0:Hd (PS P lo lb pl V l):=a3;have C:Hd (Below w1.heap.size w1 P):=(Below.refl _ _).drew.trans (z.mono (Nat.le_refl _));have U:=ld6 B.o (C.o.block _ y);clear a3 ho z)|(go_at_call 167;refine(H.o _).mono ?_;rintro e w' ⟨rfl,d9⟩;subst w')|(go_at_call 115;refine(b7.o _ _ _ _ d0.o).mono ?_;rintro e w3 ⟨rfl,q,rfl⟩))
  all_goals
   go_wp2_with fail;go_meet
   exact⟨rfl,rfl,zC C.o q⟩
 case rest =>
 obtain⟨rfl,rfl,z⟩:=hcut;obtain⟨P,b9⟩:∃P,P=wc:=⟨_,rfl⟩;subst b9;have C:Hd _:=z;clear z q0 q1 q5 b6 H b7;by_cases hk:K<0
 ·have HE:Hd (brE L A R K f=f):=by show _=_;unfold brE;rw[if_pos hk]
  have s:Hd (Below w.heap.size w P):=D.o.trans (C.o.mono (by rw[HS.o];omega));have e3:¬0<=K:=ol;go_wp2_with fail;go_loopg [10] 1 (λq x wr=>x=J Z 0/\wr=P)
  case atStart=>exact⟨rfl,rfl⟩
  case round =>
   obtain⟨rfl,rfl⟩:=hrel;by_cases e0:(0:Int)<(m:Int)
   ·go_wp2_with fail;go_ret2;exact⟨s.o,by rw[HK.o,HD.o,HE.o];rfl⟩
   ·go_wp2_with fail;go_ret2;exact⟨s.o,by rw[HK.o,HD.o,HE.o];rfl⟩
 ·obtain⟨t,rfl⟩:∃t:Nat,K=t:=⟨K.toNat,ol⟩;have c5:t<pl:=ol;have e2:(0:Int)<=(t:Int):=ol;have e1:(t:Int)<(pl:Int):=ol;obtain rfl:=b3.o.at_ ol;have HE:Hd (brE L A R (t:Int) f=XO A (R t) f 0 L):=by show _=_;unfold brE;rw[if_neg hk];simp only[Int.toNat_natCast]
  have b5:Hd (∀wz,Below w1.heap.size w1 wz->wz.cell? ⟨Y,k+t*3+2,N⟩=S (J Z (R t))):=λwz h=>((b2.o.below h).reg t c5)
  generalize R t=r at *;go_wp2_with fail;go_loopg [10] m (λq x wr=>∃j:Nat,q+j=m/\x=J Z j/\Hd (XO A r f j (L.drop j)=XO A r f 0 L)/\Hd (Below w1.heap.size w1 wr))
  case atStart=>exact⟨0,ol,rfl,by rw[List.drop_zero];exact(rfl:_=_),C.o⟩
  case round =>
   obtain⟨j,hj,rfl,HG,HB⟩:=hrel;by_cases a5:j<m
   ·have a4:(j:Int)<(m:Int):=(by omega);obtain⟨x,hx⟩:∃x,L[j]?=S x:=⟨L[j]'(by rw[HM.o];exact a5),List.getElem?_eq_getElem _⟩;obtain⟨c1,c2,c3,c4⟩:=d3.o j x hx;obtain⟨d1,d2⟩:=d6.o j a5;have d5:Hd (L.drop j=x::L.drop (j+1)):=by
     show _=_;obtain⟨c7,b8⟩:=List.getElem?_eq_some_iff.1 hx;rw[List.drop_eq_getElem_cons c7,b8]
    have hv:wr.cell? ⟨io,j,N⟩=S (.string x):=by
     rw[HB.o.cell (p:=⟨io,j,N⟩) (by rw[HS.o];simp only;omega),D.o.cell (p:=⟨io,j,N⟩) c8];exact c1
    have I:=λwz=>Qk x (A j) wz c4 c2 c3
    have a9:Hd (∀wz,Calls F 151 #[.string (A j)] wz λe w'=>Below wz.heap.size wz w'/\e=.returned (J Z (T.val (A j) (A j).size))):=λwz=>(ZB (A j) wz ol).mono (by rintro e w' ⟨hb,v,rfl,hv⟩;exact⟨hb,by rw[hv d1 d2]⟩)
    have b4:Hd (XO A r f j (L.drop j)=if T.val (A j) (A j).size=r then x.extract ((A j).size+1) x.size else XO A r f (j+1) (L.drop (j+1))):=(by show _=_;rw[d5.o];rfl);generalize T.val (A j) (A j).size=v at *;clear c1 c2 d1 hx;go_wp2_with fail;refine(I _).mono ?_;rintro e w3 ⟨a6,rfl⟩;have G:Hd _:=HB.o.trans (a6.mono HB.o.size);clear a6 hv I;obtain⟨-,-,-,-,-,q5⟩:=ld6 B.o (G.o.block _ y);have qr:=b5.o w3 G.o;go_wp2_with fail;go_region_held3 (λw'=>w'.cell? ⟨w.heap.size,5,N⟩=S (O (S ⟨Y,k,N⟩) pl g)/\w'.cell? ⟨Y,k+t*3+2,N⟩=S (J Z r)) (first|(exact⟨q5,qr⟩)|(exact a7)|go_keep) (first|(go_at_call 151;refine(a9.o _).mono ?_;rintro e w4 ⟨c9,rfl⟩;have E:Hd (Below w1.heap.size w1 w4):=G.o.drew.trans (c9.mono G.o.size);have a7:=And.intro (ld6 B.o (E.o.block _ y)).2.2.2.2.2 (b5.o _ E.o)))
    all_goals
     clear q5 qr a7;by_cases Q:v=r
     ·subst Q;have s:Hd (Below w.heap.size w w4):=D.o.trans (E.o.mono (by rw[HS.o];omega));have W:Hd (XO A v f 0 L=x.extract ((A j).size+1) x.size):=(by show _=_;rw[<-HG.o,b4.o,if_pos rfl]);go_wp2_with fail;go_ret2;exact⟨s.o,by rw[HK.o,HD.o,HE.o,W.o];rfl⟩
     ·have d8:(v==r)=false:=(by simp[Q]);have d4:Hd (XO A r f (j+1) (L.drop (j+1))=XO A r f 0 L):=(by show _=_;rw[<-HG.o,b4.o,if_neg Q]);go_wp2_with fail;go_roundg (gk-1)
      case measure=>omega
      case rel=>exact⟨j+1,ol,by go_num,d4,E⟩
   ·have c6:j=m:=(by omega);subst c6;have a4:¬(j:Int)<(j:Int):=ol;have s:Hd (Below w.heap.size w wr):=D.o.trans (HB.o.mono (by rw[HS.o];omega));have W:Hd (XO A r f 0 L=f):=(by show _=_;rw[<-HG.o,List.drop_eq_nil_of_le (by rw[HM.o];omega)];rfl);go_wp2_with fail;go_ret2;exact⟨s.o,by rw[HK.o,HD.o,HE.o,W.o];rfl⟩
theorem JA(B0:Nat)(Q:World->Prop)(hQ:∀w w',Q w->Below w.heap.size w w'->Q w')(P:Value)(t a b:ByteArray)(x:WD)(A:Nat->ByteArray)(y:ByteArray)(m:MN)(w:World)(a6:B0<=w.heap.size)(hs:t.size<=2000)(h:T.ch t 0=103)(h3:3<=t.size)(ha:(spl (t.extract 2 (t.size-1)) 124)[0]?=S a)(hb:(spl (t.extract 2 (t.size-1)) 124)[1]?=S b)(hL:(spl a 44).length<=2001)(hi:∀i z,(spl a 44)[i]?=S z->(spl z 58)[0]?=S (A i)/\(A i).size+1<=z.size/\z.size<=2000)(hd:∀i,i<(spl a 44).length->T.digs (A i)/\(A i).size<=9)(E:∀w,Q w->TS w x.po x.pb x.poff x.pl x.V x.L x.R)(B:x.pl<=64)(hp:∀i,i<x.pl->M.isP (x.V i) (x.L i)=true)(hA:M.isA x.a=true)(b0:0<=x.b)(b1:x.b<=32)(hx:Q w)(hy:brE (spl a 44) A x.R (M.bestTo x.V x.L (zY x.a x.b) x.pl) b=y)(ih:∀wz,Q wz->Calls F 117 #[P,.string y,x.val] wz (ZV B0 wz m)):
 Calls F 117 #[P,.string t,x.val] w (ZV B0 w ⟨m.sv,m.ttl,if m.sc<M.depTo x.V x.L (zY x.a x.b) x.pl then M.depTo x.V x.L (zY x.a x.b) x.pl else m.sc⟩):=by
 obtain⟨h0,hc⟩:=Zy h oq;have b9:(3:Int)<=(t.size:Int):=ol;have b8:(t.size:Int)<=2000:=ol;have b2:Hd (∀wz,Calls F 101 #[.string t] wz λe w'=>Below wz.heap.size wz w'/\∃v,e=.returned (.tuple #[v,.string b])/\w'.ownsRow wz.heap.size 9 1 v (spl a 44).length ((spl a 44).map Value.string)):=λwz=>Yd t a b wz hs h3 ha hb
 have IH:Hd _:=ih;have HQ:Hd _:=hQ;have Y:Hd _:=hx;obtain⟨d,HD⟩:∃d,Hd (M.depTo x.V x.L (zY x.a x.b) x.pl=d):=⟨_,rfl⟩;have b5:Hd (∀wz io ic,zf3 wz io (spl a 44) A->io<wz.heap.size->Q wz->Calls F 157 #[.agg #[J Z x.a,J Z x.b,J Z x.d,O x.do_ x.dl x.dc,O x.ao x.al.length x.ac,O x.po x.pl x.pcp],O (S ⟨io,0,N⟩) (spl a 44).length ic,.string b] wz λe w'=>Below wz.heap.size wz w'/\e=.returned (.tuple #[.string y,J Z d])):=λwz io ic h1 h2 h4=>by
  have:=j3 x.a x.b x.d x.do_ x.dl x.dc x.ao x.po x.al.length x.ac x.pb x.poff x.pl x.pcp x.V x.L x.R io (spl a 44) ic A b wz hA b0 b1 hL h1 hd h2 (E wz h4) B hp
  rw[hy,HD.o]at this;exact this
 have b7:Hd _:=hi;have b3:Hd (0<(spl a 44).length):=Zq _ _;have c0:Hd _:=hL;rw[HD.o];obtain⟨sc,H⟩:∃sc,Hd ((if m.sc<d then d else m.sc)=sc):=⟨_,rfl⟩;rw[H.o];have a8:Hd (∀o n k wz,Calls F 156 #[.agg #[O o n k,J Z m.ttl,J Z m.sc],J Z d] wz λe w'=>Below wz.heap.size wz w'/\e=.returned (.agg #[O o n k,J Z m.ttl,J Z sc])):=λo n k wz=>by rw[<-H.o];exact Q6 o n k m.ttl m.sc d wz
 clear hi hp hA b0 b1 hL hy ih ha hb hx hQ hd E B;generalize spl a 44=L at *;unfold WD.val at IH⊢;have a4:Hd (Below w.heap.size w ((w.alloc (X #[J Z x.a,J Z x.b,J Z x.d,O x.do_ x.dl x.dc,O x.ao x.al.length x.ac,O x.po x.pl x.pcp] 31)).alloc (X #[O N 0 0,J Z 0,J Z 0] 42))):=((Below.refl _ _).alloc (Nat.le_refl _) _).alloc ot _;have G:Hd (((w.alloc (X #[J Z x.a,J Z x.b,J Z x.d,O x.do_ x.dl x.dc,O x.ao x.al.length x.ac,O x.po x.pl x.pcp] 31)).alloc (X #[O N 0 0,J Z 0,J Z 0] 42)).heap[w.heap.size]?=S (X #[J Z x.a,J Z x.b,J Z x.d,O x.do_ x.dl x.dc,O x.ao x.al.length x.ac,O x.po x.pl x.pcp] 31 (0,0))):=by show _=_;rw[Below.heap_alloc _ _ _ ot];exact heap_alloc_new w _
 have W:Hd (((w.alloc (X #[J Z x.a,J Z x.b,J Z x.d,O x.do_ x.dl x.dc,O x.ao x.al.length x.ac,O x.po x.pl x.pcp] 31)).alloc (X #[O N 0 0,J Z 0,J Z 0] 42)).heap[w.heap.size+1]?=S (X #[O N 0 0,J Z 0,J Z 0] 42 (0,0))):=zl _ ot;go_enter func117,ntmps117;go_wp2_with fail;refine(b2.o _).mono ?_;rintro e w1 ⟨l,v,rfl,c⟩;have u:Hd _:=a4.o.trans (l.mono a4.o.size);have q:Hd _:=(l.block _ (lt_of_block G.o)).trans G.o;have U:Hd _:=(l.block _ (lt_of_block W.o)).trans W.o;obtain⟨g,a7,rfl,_,a5⟩:=ya c b3.o;have a2:=b5.o w1 g a7 (λi z hz=>⟨yh c hz,b7.o i z hz⟩) a5 (HQ.o _ _ Y.o u.o);obtain⟨q0,q1,q2,q3,q4,q5⟩:=ld6 q.o rfl;clear l c;generalize L.length=n at *;go_wp2_with fail;refine a2.mono ?_;rintro e w2 ⟨j,rfl⟩;have s:Hd _:=u.o.trans (j.mono u.o.size);have a9:Hd _:=(j.block _ (lt_of_block q.o)).trans q.o;have r:Hd _:=(j.block _ (lt_of_block U.o)).trans U.o;clear j a2 q0 q1 q2 q3 q4 q5;obtain⟨q0,q1,q2,q3,q4,q5⟩:=ld6 a9.o rfl;go_wp2_with fail;refine(IH.o _ (HQ.o _ _ Y.o s.o)).mono ?_;rintro e w3 ⟨p,o,k,gi,gf,rfl,C,D⟩;have a3:Hd _:=s.o.trans (p.mono s.o.size);have K:Hd _:=(p.block _ (lt_of_block r.o)).trans r.o;have a1:Hd _:=C;have b4:Hd (0<m.sv.length->gi<B0\/w.heap.size+2<=gi):=λh0=>by
  have h1:=D h0;have h2:=lt_of_block r.o;omega
 clear p C D q0 q1 q2 q3 q4 q5;go_wp2_with fail;refine(a8.o o m.sv.length k _).mono ?_;rintro e w4 ⟨f,rfl⟩;have b6:Hd _:=a3.o.trans (f.mono a3.o.size);have I:Hd _:=(f.block _ (lt_of_block K.o)).trans K.o;have a0:Hd _:=a1.o.below f a1.o.lt;obtain⟨y0,y1,y2,z0,z1,z2⟩:=ld3 I.o;clear f;go_wp2_with fail;exact yP (k:=k) (m:=⟨m.sv,m.ttl,sc⟩) b6.o I.o a0.o a6 b4.o rfl
theorem jw(s:Int)(w:World):
 Calls F 158 #[J Z s] w λe w'=>Below w.heap.size w w'/\∃g,e=.returned (.agg #[O (S ⟨g,0,N⟩) 1 1,J Z 86400,J Z 0])/\w.heap.size<=g/\w'.cell? ⟨g,0,N⟩=S (J Z s):=by
 go_enter func158,ntmps158;go_wp2_with fail;exact bodyPost_ret (v:=.agg #[O (S ⟨w.heap.size+1,0,N⟩) 1 1,J Z 86400,J Z 0]) (by simp[results,results158,go_sem]) rfl ⟨((Below.refl _ _).alloc (Nat.le_refl _) _).alloc ot _,_,rfl,ol,by have h:=heap_alloc_new (w.alloc (X #[O (S ⟨w.heap.size+1,0,N⟩) 1 1,J Z 86400,J Z 0] 42)) (X #[J Z s] 3 (0,0));rw[show(w.alloc (X #[O (S ⟨w.heap.size+1,0,N⟩) 1 1,J Z 86400,J Z 0] 42)).heap.size=w.heap.size+1 from by simp]at h;simp only[World.cell?,h];rfl⟩
theorem zcb(B0:Nat)(Q:World->Prop)(hQ:∀w w',Q w->Below w.heap.size w w'->Q w')(P:Value)(t a b:ByteArray)(x:WD)(K:Int)(m:MN)(w:World)(H:B0<=w.heap.size)(hs:t.size<=2000)(h:T.ch t 0=119)(h3:3<=t.size)(ha:(spl (t.extract 2 (t.size-1)) 124)[0]?=S a)(hb:(spl (t.extract 2 (t.size-1)) 124)[1]?=S b)(hx:Q w)(hp:∀wz io ic,(∀i z,(spl a 44)[i]?=S z->wz.cell? ⟨io,i,N⟩=S (.string z))->io<wz.heap.size->Q wz->Calls F 153 #[.agg #[J Z x.a,J Z x.b,J Z x.d,O x.do_ x.dl x.dc,O x.ao x.al.length x.ac,O x.po x.pl x.pcp],O (S ⟨io,0,N⟩) (spl a 44).length ic] wz λe w'=>Below wz.heap.size wz w'/\e=.returned (J Z K))(ih:K<0->∀wz,Q wz->Calls F 117 #[P,.string b,x.val] wz (ZV B0 wz m))(hm:0<=K->m=⟨[K],86400,0⟩):
 Calls F 117 #[P,.string t,x.val] w (ZV B0 w m):=by
 obtain⟨h0,hc⟩:=Zy h oq;have a8:(3:Int)<=(t.size:Int):=ol;have a7:(t.size:Int)<=2000:=ol;have a4:Hd (∀wz,Calls F 101 #[.string t] wz λe w'=>Below wz.heap.size wz w'/\∃v,e=.returned (.tuple #[v,.string b])/\w'.ownsRow wz.heap.size 9 1 v (spl a 44).length ((spl a 44).map Value.string)):=λwz=>Yd t a b wz hs h3 ha hb
 have IH:Hd _:=ih;have HQ:Hd _:=hQ;have V:Hd _:=hx;have a5:Hd _:=hp;have HM:Hd _:=hm;have a6:Hd (0<(spl a 44).length):=Zq _ _;clear hp ih ha hb hx hQ hm;generalize spl a 44=L at *;unfold WD.val at IH⊢;have Y:Hd (Below w.heap.size w ((w.alloc (X #[J Z x.a,J Z x.b,J Z x.d,O x.do_ x.dl x.dc,O x.ao x.al.length x.ac,O x.po x.pl x.pcp] 31)).alloc (X #[O N 0 0,J Z 0,J Z 0] 42))):=((Below.refl _ _).alloc (Nat.le_refl _) _).alloc ot _;have I:Hd (((w.alloc (X #[J Z x.a,J Z x.b,J Z x.d,O x.do_ x.dl x.dc,O x.ao x.al.length x.ac,O x.po x.pl x.pcp] 31)).alloc (X #[O N 0 0,J Z 0,J Z 0] 42)).heap[w.heap.size]?=S (X #[J Z x.a,J Z x.b,J Z x.d,O x.do_ x.dl x.dc,O x.ao x.al.length x.ac,O x.po x.pl x.pcp] 31 (0,0))):=by show _=_;rw[Below.heap_alloc _ _ _ ot];exact heap_alloc_new w _
 have U:Hd (((w.alloc (X #[J Z x.a,J Z x.b,J Z x.d,O x.do_ x.dl x.dc,O x.ao x.al.length x.ac,O x.po x.pl x.pcp] 31)).alloc (X #[O N 0 0,J Z 0,J Z 0] 42)).heap[w.heap.size+1]?=S (X #[O N 0 0,J Z 0,J Z 0] 42 (0,0))):=zl _ ot;go_enter func117,ntmps117;go_wp2_with fail;refine(a4.o _).mono ?_;rintro e w1 ⟨s,v,rfl,l⟩;have D:Hd _:=Y.o.trans (s.mono Y.o.size);have y:Hd _:=(s.block _ (lt_of_block I.o)).trans I.o;have R:Hd _:=(s.block _ (lt_of_block U.o)).trans U.o;obtain⟨g,a2,rfl,_,a0⟩:=ya l a6.o;have W:=a5.o w1 g a2 (λi z hz=>yh l hz) a0 (HQ.o _ _ V.o D.o);obtain⟨q0,q1,q2,q3,q4,q5⟩:=ld6 y.o rfl;clear s l;generalize L.length=n at *;go_wp2_with fail;refine W.mono ?_;rintro e w2 ⟨r,rfl⟩;have q:Hd _:=D.o.trans (r.mono D.o.size);have a3:Hd _:=(r.block _ (lt_of_block y.o)).trans y.o;have j:Hd _:=(r.block _ (lt_of_block R.o)).trans R.o;clear r W q0 q1 q2 q3 q4 q5;by_cases hk:K<0
 ·obtain⟨q0,q1,q2,q3,q4,q5⟩:=ld6 a3.o rfl;go_wp2_with fail;refine(IH.o hk _ (HQ.o _ _ V.o q.o)).mono ?_;rintro e w3 ⟨f,o,k,u,gf,rfl,E,G⟩;have C:Hd _:=q.o.trans (f.mono q.o.size);have p:Hd _:=(f.block _ (lt_of_block j.o)).trans j.o;have A:Hd _:=E;have B:Hd (0<m.sv.length->u<B0\/w.heap.size+2<=u):=λh0=>by
   have h1:=G h0;have h2:=lt_of_block j.o;omega
  clear f E G q0 q1 q2 q3 q4 q5;obtain⟨y0,y1,y2,z0,z1,z2⟩:=ld3 p.o;go_wp2_with fail;exact yP (k:=k) (m:=m) C.o p.o A.o H B.o rfl
 ·obtain rfl:=HM.o ol;go_wp2_with fail;refine(jw K _).mono ?_;rintro e w3 ⟨f,u,rfl,a1,c⟩;have C:Hd _:=q.o.trans (f.mono q.o.size);have p:Hd _:=(f.block _ (lt_of_block j.o)).trans j.o;have A:Hd (IS w3 (S ⟨u,0,N⟩) u 0 ([K]:List Int).length (λi=>(([K]:List Int)[i]?).getD 0)):=⟨λ_=>rfl,λ_=>yH c,λi hi=>by
   obtain rfl:i=0:=by simp at hi;omega
   simpa using c⟩
  have B:Hd (0<([K]:List Int).length->u<B0\/w.heap.size+2<=u):=λ_=>.inr (by
   have h2:=lt_of_block j.o;omega)
  clear f a1 c;obtain⟨y0,y1,y2,z0,z1,z2⟩:=ld3 p.o;go_wp2_with fail;exact yP (o:=some ⟨u,0,N⟩) (k:=1) (m:=⟨[K],86400,0⟩) C.o p.o A.o H B.o rfl
theorem zaw(B0:Nat)(Q:World->Prop)(hQ:∀w w',Q w->Below w.heap.size w w'->Q w')(P:Value)(t a b:ByteArray)(x:WD)(K:Int)(m:MN)(w:World)(H:B0<=w.heap.size)(hs:t.size<=2000)(h:T.ch t 0=102)(h3:3<=t.size)(ha:(spl (t.extract 2 (t.size-1)) 124)[0]?=S a)(hb:(spl (t.extract 2 (t.size-1)) 124)[1]?=S b)(hx:Q w)(hp:∀wz io ic,(∀i z,(spl a 44)[i]?=S z->wz.cell? ⟨io,i,N⟩=S (.string z))->io<wz.heap.size->Q wz->Calls F 154 #[.agg #[J Z x.a,J Z x.b,J Z x.d,O x.do_ x.dl x.dc,O x.ao x.al.length x.ac,O x.po x.pl x.pcp],O (S ⟨io,0,N⟩) (spl a 44).length ic] wz λe w'=>Below wz.heap.size wz w'/\e=.returned (J Z K))(ih:K<0->∀wz,Q wz->Calls F 117 #[P,.string b,x.val] wz (ZV B0 wz m))(hm:0<=K->m=⟨[K],86400,0⟩):
 Calls F 117 #[P,.string t,x.val] w (ZV B0 w m):=by
 obtain⟨h0,hc⟩:=Zy h oq;have a8:(3:Int)<=(t.size:Int):=ol;have a7:(t.size:Int)<=2000:=ol;have a4:Hd (∀wz,Calls F 101 #[.string t] wz λe w'=>Below wz.heap.size wz w'/\∃v,e=.returned (.tuple #[v,.string b])/\w'.ownsRow wz.heap.size 9 1 v (spl a 44).length ((spl a 44).map Value.string)):=λwz=>Yd t a b wz hs h3 ha hb
 have IH:Hd _:=ih;have HQ:Hd _:=hQ;have V:Hd _:=hx;have a5:Hd _:=hp;have HM:Hd _:=hm;have a6:Hd (0<(spl a 44).length):=Zq _ _;clear hp ih ha hb hx hQ hm;generalize spl a 44=L at *;unfold WD.val at IH⊢;have Y:Hd (Below w.heap.size w ((w.alloc (X #[J Z x.a,J Z x.b,J Z x.d,O x.do_ x.dl x.dc,O x.ao x.al.length x.ac,O x.po x.pl x.pcp] 31)).alloc (X #[O N 0 0,J Z 0,J Z 0] 42))):=((Below.refl _ _).alloc (Nat.le_refl _) _).alloc ot _;have I:Hd (((w.alloc (X #[J Z x.a,J Z x.b,J Z x.d,O x.do_ x.dl x.dc,O x.ao x.al.length x.ac,O x.po x.pl x.pcp] 31)).alloc (X #[O N 0 0,J Z 0,J Z 0] 42)).heap[w.heap.size]?=S (X #[J Z x.a,J Z x.b,J Z x.d,O x.do_ x.dl x.dc,O x.ao x.al.length x.ac,O x.po x.pl x.pcp] 31 (0,0))):=by show _=_;rw[Below.heap_alloc _ _ _ ot];exact heap_alloc_new w _
 have U:Hd (((w.alloc (X #[J Z x.a,J Z x.b,J Z x.d,O x.do_ x.dl x.dc,O x.ao x.al.length x.ac,O x.po x.pl x.pcp] 31)).alloc (X #[O N 0 0,J Z 0,J Z 0] 42)).heap[w.heap.size+1]?=S (X #[O N 0 0,J Z 0,J Z 0] 42 (0,0))):=zl _ ot;go_enter func117,ntmps117;go_wp2_with fail;refine(a4.o _).mono ?_;rintro e w1 ⟨s,v,rfl,l⟩;have D:Hd _:=Y.o.trans (s.mono Y.o.size);have y:Hd _:=(s.block _ (lt_of_block I.o)).trans I.o;have R:Hd _:=(s.block _ (lt_of_block U.o)).trans U.o;obtain⟨g,a2,rfl,_,a0⟩:=ya l a6.o;have W:=a5.o w1 g a2 (λi z hz=>yh l hz) a0 (HQ.o _ _ V.o D.o);obtain⟨q0,q1,q2,q3,q4,q5⟩:=ld6 y.o rfl;clear s l;generalize L.length=n at *;go_wp2_with fail;refine W.mono ?_;rintro e w2 ⟨r,rfl⟩;have q:Hd _:=D.o.trans (r.mono D.o.size);have a3:Hd _:=(r.block _ (lt_of_block y.o)).trans y.o;have j:Hd _:=(r.block _ (lt_of_block R.o)).trans R.o;clear r W q0 q1 q2 q3 q4 q5;by_cases hk:K<0
 ·obtain⟨q0,q1,q2,q3,q4,q5⟩:=ld6 a3.o rfl;go_wp2_with fail;refine(IH.o hk _ (HQ.o _ _ V.o q.o)).mono ?_;rintro e w3 ⟨f,o,k,u,gf,rfl,E,G⟩;have C:Hd _:=q.o.trans (f.mono q.o.size);have p:Hd _:=(f.block _ (lt_of_block j.o)).trans j.o;have A:Hd _:=E;have B:Hd (0<m.sv.length->u<B0\/w.heap.size+2<=u):=λh0=>by
   have h1:=G h0;have h2:=lt_of_block j.o;omega
  clear f E G q0 q1 q2 q3 q4 q5;obtain⟨y0,y1,y2,z0,z1,z2⟩:=ld3 p.o;go_wp2_with fail;exact yP (k:=k) (m:=m) C.o p.o A.o H B.o rfl
 ·obtain rfl:=HM.o ol;go_wp2_with fail;refine(jw K _).mono ?_;rintro e w3 ⟨f,u,rfl,a1,c⟩;have C:Hd _:=q.o.trans (f.mono q.o.size);have p:Hd _:=(f.block _ (lt_of_block j.o)).trans j.o;have A:Hd (IS w3 (S ⟨u,0,N⟩) u 0 ([K]:List Int).length (λi=>(([K]:List Int)[i]?).getD 0)):=⟨λ_=>rfl,λ_=>yH c,λi hi=>by
   obtain rfl:i=0:=by simp at hi;omega
   simpa using c⟩
  have B:Hd (0<([K]:List Int).length->u<B0\/w.heap.size+2<=u):=λ_=>.inr (by
   have h2:=lt_of_block j.o;omega)
  clear f a1 c;obtain⟨y0,y1,y2,z0,z1,z2⟩:=ld3 p.o;go_wp2_with fail;exact yP (o:=some ⟨u,0,N⟩) (k:=1) (m:=⟨[K],86400,0⟩) C.o p.o A.o H B.o rfl
end Go.Proofs.YtaebngpoagjafabGreat
