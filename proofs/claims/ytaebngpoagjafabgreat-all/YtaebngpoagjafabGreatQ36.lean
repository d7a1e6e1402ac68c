import Derived.Test.YtaebngpoagjafabGreatQ29
set_option maxRecDepth 100000
set_option maxHeartbeats 800000
namespace Go.Proofs.YtaebngpoagjafabGreat
open Option renaming none → F,some → N
open Proofs.Tryz renaming prog → P
open Proofs.Tryz
open Obj renaming cells → Q
open Value renaming int → J, slice → O
open IntKind renaming i64 → Z
open Go.RowKit
attribute [local go_sem ↓] Go.wp_at_zero Go.wp_at_succ
def ZE(D:Nat->Int)(s:Int):Nat->Bool
 |0=>true
 |n+1=>ZE D s n && !(D n==s)
theorem zcW(a b d:Int)(k g:Option Addr)(al l pl pc:Nat)(o:Option Addr)(y i n c:Nat)(D:Nat->Int)(s:Int)(w:World)(I:n<=9223372036854775807)(h:IS w o y i n D):
 Calls P 168 #[.agg #[J Z a,J Z b,J Z d,O o n c,O k al l,O g pl pc],J Z s] w λe w'=>Below w.heap.size w w'/\e=.returned (.bool (ZE D s n)):=by
 have f:Hd (Below w.heap.size w (w.alloc (Q #[J Z a,J Z b,J Z d,O o n c,O k al l,O g pl pc] 31))):=(Below.refl _ _).alloc (Nat.le_refl _) _;go_enter func168,ntmps168;go_wp2_with fail;have E:(w.alloc (Q #[J Z a,J Z b,J Z d,O o n c,O k al l,O g pl pc] 31)).cell? ⟨w.heap.size,3,F⟩=N (O o n c):=ot;have B:Hd (IS (w.alloc (Q #[J Z a,J Z b,J Z d,O o n c,O k al l,O g pl pc] 31)) o y i n D):=h.below f.o h.lt;generalize w.alloc (Q #[J Z a,J Z b,J Z d,O o n c,O k al l,O g pl pc] 31)=w1 at *;clear h;go_loopg [5] n (λq x wr=>∃j:Nat,q+j=n/\x=J Z j/\Hd (ZE D s j=true)/\wr=w1)
 case atStart=>exact⟨0,ol,rfl,rfl,rfl⟩
 case round =>
  obtain⟨j,K,rfl,z,rfl⟩:=hrel;by_cases r:j<n
  ·obtain rfl:=B.o.at_ ol;have H:=B.o.val j r;have v:(j:Int)<(n:Int):=ol;obtain⟨q,C⟩:∃q,(D j==s)=q:=⟨_,rfl⟩;have A:Hd (ZE D s (j+1)=!q):=(by show _=_;simp only[ZE];rw[z.o,C];rfl);have u:Hd (q=true->ZE D s n=false):=λhqt=>by
    have G:ZE D s (j+1)=false:=(by rw[A.o,hqt];rfl);have p:∀m,ZE D s (j+1+m)=false:=λm=>by
     induction m with
     |zero=>exact G
     |succ m ih=>rw[<-Nat.add_assoc];simp only[ZE,ih];rfl
    have:=p (n-(j+1))
    rw[show j+1+(n-(j+1))=n from by omega]at this;exact this
   cases q with
   | true =>
    go_wp2_with fail;go_ret;exact⟨f.o,by rw[u.o trivial];rfl⟩
   | false =>
    go_wp2_with fail;go_roundg (gk-1)
    case measure=>omega
    case rel=>exact⟨j+1,ol,by go_num,A.o,rfl⟩
  ·have t:j=n:=(by omega);subst t;go_wp2_with fail;go_ret;exact⟨f.o,by rw[z.o];rfl⟩
theorem Q6(o:Option Addr)(n c:Nat)(b a d:Int)(w:World):
 Calls P 156 #[.agg #[O o n c,J Z b,J Z a],J Z d] w λe w'=>Below w.heap.size w w'/\e=.returned (.agg #[O o n c,J Z b,J Z (if a<d then d else a)]):=by
 by_cases f:a<d
 ·rw[if_pos f];go_enter func156,ntmps156;go_wp2_with fail;exact bodyPost_ret (v:=.agg #[O o n c,J Z b,J Z d]) (by simp[results,results156,go_sem]) rfl ⟨((Below.refl _ _).alloc (Nat.le_refl _) _).alloc ot _,rfl⟩
 ·rw[if_neg f];go_enter func156,ntmps156;go_wp2_with fail;exact bodyPost_ret (v:=.agg #[O o n c,J Z b,J Z a]) (by simp[results,results156,go_sem]) rfl ⟨((Below.refl _ _).alloc (Nat.le_refl _) _).alloc ot _,rfl⟩
theorem zam(l n b tc:Nat)(nm t:ByteArray)(v:Int)(k:Nat)(w:World)(y:nm.size<=2001)(D:w.cell? ⟨l,0,F⟩=N (.string nm))(C:w.cell? ⟨l,1,F⟩=N (O (N ⟨n,0,F⟩) b tc))(A:k<nm.size)(s:k<b)(d:T.ch nm k=v)(a:∀i,i<k->T.ch nm i≠v)(u:w.cell? ⟨n,k,F⟩=N (.string t)):
 Calls P 152 #[.pointer (N ⟨l,0,F⟩),J .u8 v] w λe w'=>w'=w/\e=.returned (.string t):=by
 have m:Hd (∀i,i<k->T.ch nm i≠v):=a;clear a;go_enter func152,ntmps152;go_wp2_with fail;go_loopg [5] k (λq x wr=>∃j:Nat,q+j=k/\x=J Z j/\wr=w)
 case atStart=>exact⟨0,ol,rfl,rfl⟩
 case round =>
  obtain⟨j,B,rfl,rfl⟩:=hrel;have f:j<nm.size:=ol;have r:(j:Int)<(nm.size:Int):=ol;have h:((nm[j]).toNat:Int)=T.ch nm j:=(T.ch_lt f).symm;by_cases g:j=k
  ·subst g;have p:(j:Int)<(b:Int):=ol;rw[d]at h;go_wp2_with fail;go_ret;exact⟨rfl,rfl⟩
  ·have c:=m.o j ol;have E:(T.ch nm j==v)=false:=(by simpa using c);generalize T.ch nm j=z at *;go_wp2_with fail;go_roundg (gk-1)
   case measure=>omega
   case rel=>exact⟨j+1,ol,by go_num,rfl⟩
theorem Jw(q:Nat)(L:List ByteArray)(ic:Nat)(V:Nat->Int)(w:World)(hL:L.length<=2001)(hi:∀i x,L[i]?=N x->w.cell? ⟨q,i,F⟩=N (.string x)/\T.digs x/\x.size<=9/\T.val x x.size=V i)(Y:q<w.heap.size):
 Calls P 150 #[O (N ⟨q,0,F⟩) L.length ic] w λe w'=>Below w.heap.size w w'/\∃v,e=.returned v/\w'.ownsRow w.heap.size 3 1 v (knK V L.length).length ((knK V L.length).map (J Z)):=by
 obtain⟨m,U⟩:∃m,L.length=m:=⟨_,rfl⟩;have HM:Hd _:=U;rw[U]at hL⊢;clear U;have a6:Hd _:=hi;clear hi;obtain⟨i0,a0,R,K,I⟩:=info_parts infoInt;go_enter func150,ntmps150;go_wp2_with fail;go_loopg [3,4] m (λn x y wr=>∃(j:Nat),n+j=m/\y=J Z j/\wr.ownsRow w.heap.size 3 1 x (knK V j).length ((knK V j).map (J Z))/\Below w.heap.size w wr)
 case atStart=>exact⟨0,ol,rfl,⟨rfl,.inl ⟨rfl,rfl⟩⟩,Below.refl _ _⟩
 case round =>
  obtain⟨j,hn,rfl,c,hb⟩:=hrel;have H:Hd (wr.ownsRow w.heap.size 3 1 u3 (knK V j).length ((knK V j).map (J Z))):=c;have b:Hd _:=hb;have b0:=hb.size;clear c hb;by_cases W:j<m
  ·have a9:(j:Int)<(m:Int):=(by omega);obtain⟨x,hx⟩:∃x,L[j]?=N x:=⟨L[j]'(by rw[HM.o];exact W),List.getElem?_eq_getElem _⟩;obtain⟨c1,c2,c3,c4⟩:=a6.o j x hx;have hv:wr.cell? ⟨q,j,F⟩=N (.string x):=(b.o.cell (p:=⟨q,j,F⟩) Y).trans c1;have HD:Hd _:=c2;have HV:Hd _:=c4;obtain⟨E,G,S⟩:∃E G,u3=O E (knK V j).length G:=by
    rcases H.o.2 with⟨h1,h2⟩|⟨g,h,cur,h1,_⟩
    ·exact⟨F,0,by rw[h1,h2]⟩
    ·exact⟨_,h,h1⟩
   subst S;have HE:Hd (knK V (j+1)=knK V j++[V j]):=JG V j;have C:Hd ((knK V j).length=j):=YY V j;clear c1 c2 c4 hx;go_wp2_with fail;refine(ZB x _ ol).mono ?_;rintro e l ⟨f,v,rfl,r⟩;have s:v=V j:=(by rw[r HD.o c3,HV.o]);clear r;have D:Hd _:=b.o.trans (f.mono b.o.size);have B:Hd (l.ownsRow w.heap.size 3 1 (O E (knK V j).length G) (knK V j).length ((knK V j).map (J Z))):=Yh H.o (λg hg=>f.block g (H.o.lt g hg).2);have A:w.heap.size<=l.heap.size:=D.o.size;clear f;rw[<-s]at HE;clear s;have a4:Hd ((knK V j).length+1<=maxLen):=(by show _<=_;have:=C.o;unfold maxLen;omega);have a3:Hd (((knK V j).length+1)*8<=140737488355328):=(by show _<=_;have:=C.o;omega);have a2:Hd (w.heap.size<=(l.alloc (Q #[J Z v] 3)).heap.size):=mc;have z:Hd (∀u∈[J Z v],u.oneCell'=true):=λu hu=>by simp at hu;subst hu;rfl
   go_wp2_with (at_builtin;refine wpList_append_lies _ rfl _ _ 25 rfl w.heap.size 3 i0 _ 1 8 underlying25 a0 R K I rfl oq (O E (knK V j).length G) _ _ rfl (B.o.alloc _) ⟨l.heap.size,0,F⟩ 1 1 [J Z v] rfl rfl (World.news_of_block (cs:=#[J Z v]) (t:=3) (fr:=(0,0)) (heap_alloc_new l _)) z.o (Nat.lt_succ_self 0) a4.o a3.o a2.o (l.heap.size+1) ot ?_;intro g h w5 d a a1 a8)
   have a5:Hd (w5.ownsRow w.heap.size 3 1 (O (N ⟨g,0,F⟩) ((knK V j).length+1) h) (knK V (j+1)).length ((knK V (j+1)).map (J Z))):=by
    show World.ownsRow _ _ _ _ _ _ _;rw[HE.o,List.length_append,List.map_append];exact d
   have a7:Hd (Below w.heap.size w w5):=(D.o.alloc A _).grown a ow (λk hk=>(B.o.lt k hk).1);clear d a a1;go_roundg (gk-1)
   case measure=>omega
   case rel=>exact⟨j+1,ol,by go_num,a5.o,a7.o⟩
  ·have hd:¬((j:Int)<(m:Int)):=(by omega);have X:j=m:=ol;subst X;go_wp2_with fail;go_ret;exact⟨b.o,_,rfl,H.o⟩
def qF(D:Nat->Int)(dn:Nat)(V:Nat->Int):Nat->Int
 |0=>-1
 |n+1=>if 0<=qF D dn V n then qF D dn V n else if ZE D (V n) dn=true then V n else -1
theorem zcI(a b d:Int)(l k:Option Addr)(al r pl pc:Nat)(o:Option Addr)(W u n c:Nat)(D:Nat->Int)(y:Nat)(L:List ByteArray)(ic:Nat)(V:Nat->Int)(w:World)(hn:n<=9223372036854775807)(h:IS w o W u n D)(hL:L.length<=2001)(hi:∀i x,L[i]?=N x->w.cell? ⟨y,i,F⟩=N (.string x)/\T.digs x/\x.size<=9/\T.val x x.size=V i/\0<=V i)(U:y<w.heap.size):
 Calls P 154 #[.agg #[J Z a,J Z b,J Z d,O o n c,O l al r,O k pl pc],O (N ⟨y,0,F⟩) L.length ic] w λe w'=>Below w.heap.size w w'/\e=.returned (J Z (qF D n V L.length)):=by
 obtain⟨m,K⟩:∃m,L.length=m:=⟨_,rfl⟩;have HM:Hd _:=K;rw[K]at hL⊢;clear K;have a0:Hd _:=hi;clear hi;have g:Hd (Below w.heap.size w (w.alloc (Q #[J Z a,J Z b,J Z d,O o n c,O l al r,O k pl pc] 31))):=(Below.refl _ _).alloc (Nat.le_refl _) _;have X:Hd ((w.alloc (Q #[J Z a,J Z b,J Z d,O o n c,O l al r,O k pl pc] 31)).heap[w.heap.size]?=N (Q #[J Z a,J Z b,J Z d,O o n c,O l al r,O k pl pc] 31 (0,0))):=heap_alloc_new w _;go_enter func154,ntmps154;go_wp2_with fail;have HI:Hd (IS (w.alloc (Q #[J Z a,J Z b,J Z d,O o n c,O l al r,O k pl pc] 31)) o W u n D):=h.below g.o h.lt;have HS:Hd ((w.alloc (Q #[J Z a,J Z b,J Z d,O o n c,O l al r,O k pl pc] 31)).heap.size=w.heap.size+1):=sw;generalize w.alloc (Q #[J Z a,J Z b,J Z d,O o n c,O l al r,O k pl pc] 31)=w1 at *;clear h;go_loopg [5] m (λq x wr=>∃j:Nat,q+j=m/\x=J Z j/\Hd (qF D n V j=-1)/\Hd (Below w1.heap.size w1 wr))
 case atStart=>exact⟨0,ol,rfl,rfl,Below.refl _ _⟩
 case round =>
  obtain⟨j,hj,rfl,HU,E⟩:=hrel;by_cases R:j<m
  ·have a1:(j:Int)<(m:Int):=(by omega);obtain⟨x,hx⟩:∃x,L[j]?=N x:=⟨L[j]'(by rw[HM.o];exact R),List.getElem?_eq_getElem _⟩;obtain⟨c1,c2,c3,c4,c5⟩:=a0.o j x hx;have hv:wr.cell? ⟨y,j,F⟩=N (.string x):=by
    rw[E.o.cell (p:=⟨y,j,F⟩) (by rw[HS.o];simp only;omega),g.o.cell (p:=⟨y,j,F⟩) U];exact c1
   have HD:Hd _:=c2;have HV:Hd _:=c4;clear c1 c2 c4 hx;go_wp2_with fail;refine(ZB x _ ol).mono ?_;rintro e t ⟨B,v,rfl,z⟩;have H:v=V j:=(by rw[z HD.o c3,HV.o]);clear z;subst H;have s:Hd _:=E.o.trans (B.mono E.o.size);clear B;have f:=(s.o.block w.heap.size (by rw[HS.o];omega)).trans X.o;have r0:t.cell? ⟨w.heap.size,0,F⟩=N (J Z a):=(by simp[World.cell?,f]);have r1:t.cell? ⟨w.heap.size,1,F⟩=N (J Z b):=(by simp[World.cell?,f]);have r2:t.cell? ⟨w.heap.size,2,F⟩=N (J Z d):=(by simp[World.cell?,f]);have r3:t.cell? ⟨w.heap.size,3,F⟩=N (O o n c):=(by simp[World.cell?,f]);have r4:t.cell? ⟨w.heap.size,4,F⟩=N (O l al r):=(by simp[World.cell?,f]);have r5:t.cell? ⟨w.heap.size,5,F⟩=N (O k pl pc):=(by simp[World.cell?,f]);clear f;go_wp2_with fail;refine(zcW a b d l k al r pl pc o W u n c D _ t hn (HI.o.below s.o HI.o.lt)).mono ?_;rintro e w3 ⟨A,rfl⟩;have C:Hd _:=s.o.trans (A.mono s.o.size);clear A;obtain⟨q,I⟩:∃q,ZE D (V j) n=q:=⟨_,rfl⟩;have HQ:Hd (qF D n V (j+1)=if q=true then V j else -1):=(by show _=_;simp only[qF];rw[HU.o,I];rfl);rw[I];clear I;cases q with
   | true =>
    have Y:Hd (qF D n V m=V j):=by
     show _=_;have G:∀i,qF D n V (j+1+i)=V j:=λi=>by
      induction i with
      |zero=>exact HQ.o
      |succ i ih=>rw[<-Nat.add_assoc];simp only[qF,ih];rw[if_pos c5]
     have:=G (m-(j+1))
     rw[show j+1+(m-(j+1))=m from by omega]at this;exact this
    go_wp2_with fail;go_ret;exact⟨g.o.trans (C.o.mono g.o.size),by rw[Y.o];rfl⟩
   | false =>
    go_wp2_with fail;go_roundg (gk-1)
    case measure=>omega
    case rel=>exact⟨j+1,ol,by go_num,HQ.o,C.o⟩
  ·have S:j=m:=(by omega);subst S;go_wp2_with fail;go_ret;exact⟨g.o.trans (E.o.mono g.o.size),by rw[HU.o];rfl⟩
def slT(D:Nat->Int)(dn:Nat)(S:Nat->Int)(W:Nat->Nat):Nat->List Int
 |0=>[]
 |n+1=>slT D dn S W n++(if ZE D (S n) dn=true then List.replicate (W n) (S n)else[])
theorem za4(D:Nat->Int)(dn:Nat)(S:Nat->Int)(W:Nat->Nat)(h:∀i,W i<=1000):∀n,(slT D dn S W n).length<=n*1000:=by
 intro n;induction n with
 |zero=>simp[slT]
 | succ n ih =>
  have:=h n
  simp only[slT,List.length_append];split
  ·rw[List.length_replicate];omega
  ·rw[List.length_nil];omega
def Js(l:List Int)(d:Int):Int:=if l=[]then -1 else(l[(d%(l.length:Int)).toNat]?).getD 0
theorem zdq(a b d:Int)(U H:Option Addr)(al V pl pc:Nat)(o:Option Addr)(db a2 n c:Nat)(D:Nat->Int)(io:Nat)(L:List ByteArray)(ic:Nat)(S:Nat->Int)(W:Nat->Nat)(w:World)(hn:n<=9223372036854775807)(e2:0<=d)(h:IS w o db a2 n D)(hL:L.length<=16)(hW:∀i,W i<=1000)(hi:∀i x,L[i]?=N x->w.cell? ⟨io,i,F⟩=N (.string x)/\x.size<=2000/\∃xa xb,spl x 42=[xa,xb]/\T.digs xa/\xa.size<=9/\T.val xa xa.size=S i/\T.digs xb/\xb.size<=9/\T.val xb xb.size=(W i:Int))(d8:io<w.heap.size):
 Calls P 153 #[.agg #[J Z a,J Z b,J Z d,O o n c,O U al V,O H pl pc],O (N ⟨io,0,F⟩) L.length ic] w λe w'=>Below w.heap.size w w'/\e=.returned (J Z (Js (slT D n S W L.length) d)):=by
 obtain⟨m,hm⟩:∃m,L.length=m:=⟨_,rfl⟩;have HM:Hd _:=hm;rw[hm]at hL⊢;clear hm;have f0:Hd _:=hi;clear hi;obtain⟨i0,e1,d4,d3,d2⟩:=info_parts infoInt;have Y:Hd (Below w.heap.size w (w.alloc (Q #[J Z a,J Z b,J Z d,O o n c,O U al V,O H pl pc] 31))):=(Below.refl _ _).alloc (Nat.le_refl _) _;have b4:Hd ((w.alloc (Q #[J Z a,J Z b,J Z d,O o n c,O U al V,O H pl pc] 31)).heap[w.heap.size]?=N (Q #[J Z a,J Z b,J Z d,O o n c,O U al V,O H pl pc] 31 (0,0))):=heap_alloc_new w _;go_enter func153,ntmps153;go_wp2_with fail;have HI:Hd (IS (w.alloc (Q #[J Z a,J Z b,J Z d,O o n c,O U al V,O H pl pc] 31)) o db a2 n D):=h.below Y.o h.lt;have HS:Hd ((w.alloc (Q #[J Z a,J Z b,J Z d,O o n c,O U al V,O H pl pc] 31)).heap.size=w.heap.size+1):=sw;generalize w.alloc (Q #[J Z a,J Z b,J Z d,O o n c,O U al V,O H pl pc] 31)=w1 at *;clear h;go_loopw [5,6] (λx y wr=>∃(j:Nat) (l:List Int),j<=m/\y=J Z j/\Hd (slT D n S W j=l)/\Hd (wr.ownsRow w1.heap.size 3 1 x l.length (l.map (J Z)))/\Hd (Below w1.heap.size w1 wr)) (λ_ y _=>m-(intOf y).toNat)
 case atStart=>exact⟨0,[],ol,rfl,rfl,⟨rfl,.inl ⟨rfl,rfl⟩⟩,Below.refl _ _⟩
 case round =>
  obtain⟨j,l,hj,rfl,HU,HR,HB⟩:=hrel;by_cases d5:j<m
  ·have f6:(j:Int)<(m:Int):=(by omega);obtain⟨x,hx⟩:∃x,L[j]?=N x:=⟨L[j]'(by rw[HM.o];exact d5),List.getElem?_eq_getElem _⟩;obtain⟨c1,c2,xa,xb,c3,c4,c5,c6,c7,c8,c9⟩:=f0.o j x hx;have hv:wr.cell? ⟨io,j,F⟩=N (.string x):=by
    rw[HB.o.cell (p:=⟨io,j,F⟩) (by rw[HS.o];simp only;omega),Y.o.cell (p:=⟨io,j,F⟩) d8];exact c1
   have HD:Hd (T.digs xa/\T.val xa xa.size=S j/\T.digs xb/\T.val xb xb.size=(W j:Int)):=⟨c4,c6,c7,c9⟩;have e7:Hd _:=c3;clear c1 c3 c4 c6 c7 c9 hx;go_wp2_with fail;refine(Zd x 42 _ c2).mono ?_;rintro e w2 ⟨a6,sv,rfl,s⟩;rw[e7.o]at s;obtain⟨sg,f2,rfl,f3,a0⟩:=ya s ot;have s0:w2.cell? ⟨sg,0,F⟩=N (.string xa):=yh s (i:=0) rfl;have s1:w2.cell? ⟨sg,1,F⟩=N (.string xb):=yh s (i:=1) rfl;have d1:Hd _:=HB.o.trans (a6.mono HB.o.size);have b8:Hd (w2.ownsRow w1.heap.size 3 1 u5 l.length (l.map (J Z))):=Yh HR.o (λg hg=>a6.block g (HR.o.lt g hg).2);clear a6 s;simp only[List.length_cons,List.length_nil];go_wp2_with fail;refine(ZB xa _ ol).mono ?_;rintro e G ⟨E,v,rfl,B⟩;have a3:v=S j:=(by rw[B HD.o.1 c5,HD.o.2.1]);clear B;subst a3;have X:Hd _:=d1.o.trans (E.mono d1.o.size);have b7:Hd (G.ownsRow w1.heap.size 3 1 u5 l.length (l.map (J Z))):=Yh b8.o (λg hg=>E.block g (b8.o.lt g hg).2);have t1:G.cell? ⟨sg,1,F⟩=N (.string xb):=(E.cell (p:=⟨sg,1,F⟩) a0).trans s1;have b0:sg<G.heap.size:=Nat.lt_of_lt_of_le a0 E.size;clear E s0 s1;have f:=(X.o.block w.heap.size (by rw[HS.o];omega)).trans b4.o;have r0:G.cell? ⟨w.heap.size,0,F⟩=N (J Z a):=(by simp[World.cell?,f]);have r1:G.cell? ⟨w.heap.size,1,F⟩=N (J Z b):=(by simp[World.cell?,f]);have r2:G.cell? ⟨w.heap.size,2,F⟩=N (J Z d):=(by simp[World.cell?,f]);have r3:G.cell? ⟨w.heap.size,3,F⟩=N (O o n c):=(by simp[World.cell?,f]);have r4:G.cell? ⟨w.heap.size,4,F⟩=N (O U al V):=(by simp[World.cell?,f]);have r5:G.cell? ⟨w.heap.size,5,F⟩=N (O H pl pc):=(by simp[World.cell?,f]);clear f;go_wp2_with fail;refine(zcW a b d U H al V pl pc o db a2 n c D _ G hn (HI.o.below X.o HI.o.lt)).mono ?_;rintro e w4 ⟨R,rfl⟩;have d0:Hd _:=X.o.trans (R.mono X.o.size);have b6:Hd (w4.ownsRow w1.heap.size 3 1 u5 l.length (l.map (J Z))):=Yh b7.o (λg hg=>R.block g (b7.o.lt g hg).2);have t2:w4.cell? ⟨sg,1,F⟩=N (.string xb):=(R.cell (p:=⟨sg,1,F⟩) b0).trans t1;clear R r0 r1 r2 r3 r4 r5 t1;obtain⟨q,hq⟩:∃q,ZE D (S j) n=q:=⟨_,rfl⟩;have HQ:Hd (slT D n S W (j+1)=l++(if q=true then List.replicate (W j) (S j)else[])):=(by show _=_;simp only[slT];rw[HU.o,hq]);rw[hq];clear hq;go_wp2_with fail;refine(ZB xb _ ol).mono ?_;rintro e w5 ⟨a5,v,rfl,B⟩;have a3:v=(W j:Int):=(by rw[B HD.o.2.2.1 c8,HD.o.2.2.2]);clear B;subst a3;have c0:Hd _:=d0.o.trans (a5.mono d0.o.size);have b5:Hd (w5.ownsRow w1.heap.size 3 1 u5 l.length (l.map (J Z))):=Yh b6.o (λg hg=>a5.block g (b6.o.lt g hg).2);clear a5 t2;have d6:l.length<=j*1000:=(by rw[<-HU.o];exact za4 D n S W hW j);have g3:=hW j;generalize hwj:W j=wj at *;clear hwj;go_wp2_with fail;cases q with
   | false =>
    go_loopw [5,10] (λx y wq=>Hd (wq.ownsRow w1.heap.size 3 1 x l.length (l.map (J Z)))/\y=J Z (wj:Int)/\wq=w5) (λ_ _ _=>0)
    case atStart=>exact⟨b5,rfl,rfl⟩
    case round =>
     obtain⟨z,rfl,rfl⟩:=hrel;have a8:Hd (slT D n S W (j+1)=l):=(by show _=_;rw[HQ.o];simp);clear HQ;by_cases f8:(0:Int)<(wj:Int)
     all_goals
      go_wp2_with fail;go_roundw
      case rel=>exact⟨j+1,l,ol,by go_num,a8,z,c0⟩
      case measure=>simp[intOf];omega
   | true =>
    go_loopw [5,10] (λx y wq=>∃(i:Nat),i<=wj/\y=J Z ((wj-i:Nat):Int)/\Hd (wq.ownsRow w1.heap.size 3 1 x (l++List.replicate i (S j)).length ((l++List.replicate i (S j)).map (J Z)))/\Hd (Below w1.heap.size w1 wq)) (λ_ y _=>(intOf y).toNat)
    case atStart =>
     refine⟨0,ol,rfl,?_,c0⟩;have:=b5.o
     rw[<-List.append_nil l]at this;exact this
    case round =>
     obtain⟨i,hi,rfl,z,a9⟩:=hrel;have HE:Hd (l++List.replicate (i+1) (S j)=(l++List.replicate i (S j))++[S j]):=(by show _=_;rw[List.replicate_succ',List.append_assoc]);have a7:Hd ((l++List.replicate i (S j)).length=l.length+i):=sw;obtain⟨r,hr⟩:∃r,l++List.replicate i (S j)=r:=⟨_,rfl⟩;rw[hr]at z HE a7;have e8:Hd _:=hr;clear hr;by_cases g2:i<wj
     ·obtain⟨ko,kc,a4⟩:∃ko kc,u5=O ko r.length kc:=by
       rcases z.o.2 with⟨h1,h2⟩|⟨g,A,cur,h1,_⟩
       ·exact⟨F,0,by rw[h1,h2]⟩
       ·exact⟨_,A,h1⟩
      subst a4;obtain⟨k,K⟩:∃k,wj-i=k:=⟨_,rfl⟩;have HK:Hd _:=K;have g1:(0:Int)<(k:Int):=ol;have g0:(k:Int)<=1000:=ol;rw[K];clear K;have b3:w1.heap.size<=wr.heap.size:=a9.o.size;have e6:Hd (r.length+1<=maxLen):=(by show _<=_;have:=a7.o;unfold maxLen;omega);have e5:Hd ((r.length+1)*8<=140737488355328):=(by show _<=_;have:=a7.o;omega);generalize hsj:S j=sj at *;have e4:Hd (w1.heap.size<=(wr.alloc (Q #[J Z sj] 3)).heap.size):=mc;have b1:Hd (∀u∈[J Z sj],u.oneCell'=true):=λu hu=>by simp at hu;subst hu;rfl
      go_wp2_with (at_builtin;refine wpList_append_lies _ rfl _ _ 25 rfl w1.heap.size 3 i0 _ 1 8 underlying25 e1 d4 d3 d2 rfl oq (O ko r.length kc) _ _ rfl (z.o.alloc _) ⟨wr.heap.size,0,F⟩ 1 1 [J Z sj] rfl rfl (World.news_of_block (cs:=#[J Z sj]) (t:=3) (fr:=(0,0)) (heap_alloc_new wr _)) b1.o (Nat.lt_succ_self 0) e6.o e5.o e4.o (wr.heap.size+1) ot ?_;intro g A w6 a1 C e3 f5)
      have e9:Hd (w6.ownsRow w1.heap.size 3 1 (O (N ⟨g,0,F⟩) (r.length+1) A) (l++List.replicate (i+1) sj).length ((l++List.replicate (i+1) sj).map (J Z))):=by
       show World.ownsRow _ _ _ _ _ _ _;rw[HE.o,List.length_append,List.map_append];exact a1
      have f1:Hd (Below w1.heap.size w1 w6):=(a9.o.alloc b3 _).grown C ow (λk K=>(z.o.lt k K).1);clear a1 C e3;go_roundw
      case rel=>exact⟨i+1,ol,by have:=HK.o;rw[show wj-(i+1)=k-1 from by omega];go_num,e9,f1⟩
      case measure=>simp[intOf];omega
     ·have d9:i=wj:=(by omega);subst d9;rw[Nat.sub_self];have a8:Hd (slT D n S W (j+1)=r):=(by show _=_;rw[HQ.o,if_pos rfl,e8.o]);clear HQ;go_wp2_with fail;go_roundw
      case rel=>exact⟨j+1,r,ol,by go_num,a8,z,a9⟩
      case measure=>simp[intOf];omega
  ·have d7:j=m:=(by omega);subst d7;have b9:Hd (Below w.heap.size w wr):=Y.o.trans (HB.o.mono Y.o.size);have f:=(HB.o.block w.heap.size (by rw[HS.o];omega)).trans b4.o;have r2:wr.cell? ⟨w.heap.size,2,F⟩=N (J Z d):=(by simp[World.cell?,f]);clear f;by_cases I:l=[]
   ·subst I;obtain⟨ko,kc,a4⟩:∃ko kc,u5=O ko 0 kc:=by
     rcases HR.o.2 with⟨h1,h2⟩|⟨g,A,cur,h1,_⟩
     ·exact⟨F,0,h1⟩
     ·exact⟨_,A,h1⟩
    subst a4;go_wp2_with fail;go_ret;exact⟨b9.o,by rw[HU.o];rfl⟩
   ·have f9:0<l.length:=List.length_pos_iff.2 I;rcases HR.o.2 with⟨h1,h2⟩|⟨g,A,cur,h1,h2,h3,_⟩
    ·omega
    ·subst h1;obtain⟨k,K⟩:∃k:Nat,d%(l.length:Int)=(k:Int):=⟨(d%(l.length:Int)).toNat,by rw[Int.toNat_of_nonneg (Int.emod_nonneg _ ol)]⟩;have b2:k<l.length:=(by have:=Int.emod_lt_of_pos d (show(0:Int)<(l.length:Int) by omega);omega);have ck:wr.cell? ⟨g,k,F⟩=N (J Z l[k]):=by
      rw[World.ownsRow.cellAt HR.o k ol];simp[b2]
     have HP:Hd (Js l d=l[k]):=(by show _=_;unfold Js;rw[if_neg I,K,Int.toNat_natCast,List.getElem?_eq_getElem b2];rfl);have f4:d.tmod (l.length:Int)=(k:Int):=(by rw[Int.tmod_eq_emod_of_nonneg e2];exact K);have d6:l.length<=j*1000:=(by rw[<-HU.o];exact za4 D n S W hW j);generalize l[k]=lk at *;generalize hln:l.length=ln at *;have e0:((ln:Int)==0)=false:=ow;have f7:(k:Int)<(ln:Int):=ol;clear K I h2 h3 HR hln;go_wp2_with fail;go_ret;exact⟨b9.o,by rw[HU.o,HP.o];rfl⟩
end Go.Proofs.YtaebngpoagjafabGreat
