import Derived.Test.YtaebngpoagjafabGreatQ03
import Derived.Deep.AppendLies
import Derived.Deep.DrawnRows
import Derived.Deep.LoopGhost
import Derived.Deep.RegionHeld3
import Derived.Deep.RegionLaw
import Derived.Deep.WholeRow
import Derived.Laws.BytesArg
import Derived.Laws.Concat
import Derived.Laws.NewBlocks
import Derived.RangeFuncBox
import Derived.WalkSmall
set_option maxRecDepth 100000
namespace Go.Proofs.YtaebngpoagjafabGreat
open Proofs.Tryz renaming prog → N
open Option renaming some → S,none → T
open Proofs.Tryz
open Value renaming int → J
open Go.RowKit
structure IS (w:World) (o:Option Addr) (b off n:Nat) (D:Nat->Int):Prop where
 at_:0<n->o=S ⟨b,off,T⟩
 lt:0<n->b<w.heap.size
 val:∀i,i<n->w.cell? ⟨b,off+i,T⟩=S (J .i64 (D i))
theorem IS.below{w w':World}{o:Option Addr}{b a n:Nat}{D:Nat->Int}(h:IS w o b a n D){B:Nat}(c:Below B w w')(d:0<n->b<B):IS w' o b a n D:=⟨h.at_,λhn=>Nat.lt_of_lt_of_le (h.lt hn) c.size,λi hi=>by
 rw[c.cell (p:=⟨b,a+i,T⟩) (d ol)];exact h.val i hi⟩
structure AS (w:World) (base:Nat) (ao:Option Addr) (ab aoff:Nat) (al:List (List Int)):Prop where
 at_:0<al.length->ao=S ⟨ab,aoff,T⟩
 lt:0<al.length->ab<base
 val:∀k l,al[k]?=S l->∃lo lc,w.cell? ⟨ab,aoff+k,T⟩=S (.slice lo l.length lc)/\(0<l.length->∃lb loff,lo=S ⟨lb,loff,T⟩/\lb<base/\∀i x,l[i]?=S x->w.cell? ⟨lb,loff+i,T⟩=S (J .i64 x))
 len:∀l∈al,l.length*8<=140737488351232
theorem AS.of_kept{w w':World}{base:Nat}{j:Option Addr}{d a:Nat}{al:List (List Int)}(h:AS w base j d a al)(f:∀b,b<base->w'.heap[b]?=w.heap[b]?):AS w' base j d a al :=
 ⟨h.at_,h.lt,λk l hl=>by
  obtain⟨m,n,s,r⟩:=h.val k l hl;have o:0<al.length:=by have:=(List.getElem?_eq_some_iff.1 hl).1;omega
  refine⟨m,n,by rw[World.cell?_of_block (f d (h.lt o))];exact s,λh0=>?_⟩;obtain⟨e,c,q,g,p⟩:=r h0;exact⟨e,c,q,g,λi x hx=>by rw[World.cell?_of_block (f e g)];exact p i x hx⟩,h.len⟩
theorem infoInt:(Tryz.prog.info? 3).map (λi=>(i.zero,i.size,i.bytes))=S (S (J .i64 0),1,8):=kr
theorem infoByte:(Tryz.prog.info? 5).map (λi=>(i.zero,i.size,i.bytes))=S (S (J .u8 0),1,1):=kr
theorem infoIs:(Tryz.prog.info? 25).map (λi=>(i.zero,i.size,i.bytes))=S (S (.slice T 0 0),1,24):=kr
structure WD where
 a:Int
 b:Int
 d:Int
 do_:Option Addr
 db:Nat
 doff:Nat
 dl:Nat
 dc:Nat
 Dn:Nat->Int
 ao:Option Addr
 ab:Nat
 aoff:Nat
 ac:Nat
 al:List (List Int)
 po:Option Addr
 pb:Nat
 poff:Nat
 pl:Nat
 pcp:Nat
 V:Nat->Int
 L:Nat->Int
 R:Nat->Int
def WD.val(x:WD):Value:=.agg #[J .i64 x.a,J .i64 x.b,J .i64 x.d,.slice x.do_ x.dl x.dc,.slice x.ao x.al.length x.ac,.slice x.po x.pl x.pcp]
structure WD.In (x:WD) (w:World):Prop where
 ts:TS w x.po x.pb x.poff x.pl x.V x.L x.R
 is_:IS w x.do_ x.db x.doff x.dl x.Dn
 as_:AS w w.heap.size x.ao x.ab x.aoff x.al
 ndl:x.dl<=9223372036854775806
 nal:x.al.length<=9223372036854775807
theorem AS.wide{w:World}{base base':Nat}{c:Option Addr}{d a:Nat}{al:List (List Int)}(h:AS w base c d a al)(o:base<=base'):AS w base' c d a al :=
 ⟨h.at_,λh0=>by have:=h.lt h0;omega,λk l hl=>by
  obtain⟨e,f,n,m⟩:=h.val k l hl;refine⟨e,f,n,λh0=>?_⟩;obtain⟨g,b,j,p,i⟩:=m h0;exact⟨g,b,j,ol,i⟩,h.len⟩
theorem WD.In.below{x:WD}{w w':World}(h:x.In w)(a:Below w.heap.size w w'):x.In w' :=
 ⟨h.ts.below a,h.is_.below a h.is_.lt,(h.as_.of_kept (λb hl=>a.block b hl)).wide a.size,h.ndl,h.nal⟩
section
open Go.ChangeShapes Go.WideShapes Go.ChangeAt Go.RowKit
theorem zek:Tryz.prog.bytesOf 3=8:=kr
theorem zcM:Tryz.prog.bytesOf 25=24:=kr
section
variable {H:Type} {enc:TypeId×Value->H} {w:World} {base:Nat} {spare:Nat->Bool} {held:Bool}
theorem jg{j:Nat}{cs:List Value}{x:DataW H×List MemPlace}(h:DataW.trod enc N w base spare held j 25 cs=S x):
 ∃o len cap b off D,cs=[.slice o len cap]/\IS w o b off len D/\((∀k∈x.1.weights N 25,k<=reachBytes)->len*8<=140737488351232)/\∀i,i<len->-9223372036854775808<=D i/\D i<=9223372036854775807:=by
 rcases Deep.open_slice1 underlying25 xA h with⟨hcs,_⟩|⟨a,l,c,m,n,V,D,Pl,hcs,_,hl,_,hmm,hx,hel⟩
 ·exact⟨T,0,0,0,0,λ_=>0,hcs,⟨λh=>ol,λh=>ol,λi hi=>ol⟩,λ_=>ol,λi hi=>ol⟩
 ·have z:l<=m:=by rw[hmm];split<;>omega
  obtain⟨F,s⟩:=Deep.choose_lt (α:=Int) (n:=l) (p:=λi y=>w.cell? (a.add i)=S (J .i64 y)/\-9223372036854775808<=y/\y<=9223372036854775807) (λi hi=>by
   obtain⟨B,A⟩:=hel i ol;obtain⟨y,u,_,v⟩:=DataW.trod_int underlying3 A;simp at u;have t:=bounds_i64 v;exact⟨y,by rw[B,u],t.1,t.2⟩)
  obtain⟨b,off,d⟩:=a;refine⟨S ⟨b,off,d⟩,l,c,b,off,F,hcs,?_,λhw=>?_,λi hi=>(s i hi).2⟩
  ·by_cases r:l=0
   ·subst r;exact⟨λh=>ol,λh=>ol,λi hi=>ol⟩
   ·have g:=(s 0 ol).1;have e:d=T:=(by simpa[Addr.add]using World.cell?_spot g);subst e;have q:b<w.heap.size:=by
     have:=g
     simp[Addr.add]at this;exact yH this
    refine⟨λ_=>rfl,λ_=>q,λi hi=>?_⟩;have:=(s i hi).1
    rw[add_plain]at this;exact this
  ·have f:(l+(m-l))*8∈x.1.weights N 25:=by
    rw[hx];simp only[DataW.weights,underlying25,zek];simp
   have:=hw _ f
   simp only[reachBytes]at this;omega
theorem zat{C:Nat}{cs:List Value}{x:DataW H×List MemPlace}(h:DataW.trod enc N w base spare held C 28 cs=S x):
 ∃o cap ab aoff al,cs=[.slice o al.length cap]/\((∀k∈x.1.weights N 28,k<=reachBytes)->AS w w.heap.size o ab aoff al/\al.length*24<=140737488351232)/\∀l∈al,∀z∈l,-9223372036854775808<=z/\z<=9223372036854775807:=by
 rcases Deep.open_slice1 underlying28 jo h with⟨hcs,_⟩|⟨a,l,c,m,n,V,D,Pl,hcs,_,hl,_,hmm,hx,hel⟩
 ·exact⟨T,0,0,0,[],hcs,λ_=>⟨⟨λh=>by simp at h,λh=>by simp at h,λk l hl=>by simp at hl,λl hl=>by simp at hl⟩,ot⟩,λl hl=>by cases hl⟩
 ·have W:l<=m:=by rw[hmm];split<;>omega
  obtain⟨F,E⟩:=Deep.choose_lt (α:=Option Addr×Nat×Nat×Nat×Nat×(Nat->Int)) (n:=l) (p:=λi y=>w.cell? (a.add i)=S (.slice y.1 y.2.1 y.2.2.1)/\IS w y.1 y.2.2.2.1 y.2.2.2.2.1 y.2.1 y.2.2.2.2.2/\((∀k∈(D i).weights N 25,k<=reachBytes)->y.2.1*8<=140737488351232)/\∀j,j<y.2.1->-9223372036854775808<=y.2.2.2.2.2 j/\y.2.2.2.2.2 j<=9223372036854775807) (λi r=>by
   obtain⟨G,B⟩:=hel i ol;obtain⟨o,I,cap,b,e,Y,U,R,L,v⟩:=jg B;simp at U;exact⟨(o,I,cap,b,e,Y),by rw[G,U],R,L,v⟩)
  obtain⟨b,e,f⟩:=a;refine⟨S ⟨b,e,f⟩,c,b,e,(List.range l).map (λi=>(List.range (F i).2.1).map (F i).2.2.2.2.2),by simpa using hcs,λhw=>?_,λq hq z hz=>?_⟩;rotate_left
  ·obtain⟨i,r,rfl⟩:=List.mem_map.1 hq;obtain⟨j,X,rfl⟩:=List.mem_map.1 hz;exact(E i (List.mem_range.1 r)).2.2.2 j (List.mem_range.1 X)
  have J:l*24<=140737488351232:=by
   have t:(l+(m-l))*24∈x.1.weights N 28:=by
    rw[hx];simp only[DataW.weights,underlying28,zcM];simp
   have:=hw _ t
   simp only[reachBytes]at this;omega
  have K:∀i,i<l->(F i).2.1*8<=140737488351232:=λi r=>(E i r).2.2.1 (λk g=>hw k (by
   rw[hx];simp only[DataW.weights,underlying28];refine List.mem_cons_of_mem _ (List.mem_append_left _ (ZF (d:=D i) ?_ g));exact List.mem_map.2 ⟨i,List.mem_range.2 r,rfl⟩))
  have A:∀(k:Nat) (q:List Int),((List.range l).map (λi=>(List.range (F i).2.1).map (F i).2.2.2.2.2))[k]?=S q->k<l/\q=(List.range (F k).2.1).map (F k).2.2.2.2.2:=λk q hq=>by
   rw[List.getElem?_map]at hq;by_cases g:k<l
   ·rw[List.getElem?_range g]at hq;simp only[Option.map_some,Option.some.injEq]at hq;exact⟨g,hq.symm⟩
   ·rw[List.getElem?_eq_none ow]at hq;cases hq
  refine⟨?_,by simpa using J⟩;by_cases P:l=0
  ·subst P;exact⟨λh=>by simp at h,λh=>by simp at h,λk q hq=>by simp at hq,λq hq=>by simp at hq⟩
  ·have u:=(E 0 ol).1;have s:f=T:=(by simpa[Addr.add]using World.cell?_spot u);subst s;have O:b<w.heap.size:=by
    have:=u
    simp[Addr.add]at this;exact yH this
   refine⟨λ_=>rfl,λ_=>O,λk q hq=>?_,λq hq=>?_⟩
   ·obtain⟨g,rfl⟩:=A k q hq;obtain⟨G,B,_⟩:=E k g;rw[add_plain]at G;refine⟨(F k).1,(F k).2.2.1,by rw[G];simp,λh0=>?_⟩;simp only[List.length_map,List.length_range]at h0;refine⟨(F k).2.2.2.1,(F k).2.2.2.2.1,B.at_ h0,B.lt h0,λi y hy=>?_⟩;rw[List.getElem?_map]at hy;by_cases r:i<(F k).2.1
    ·rw[List.getElem?_range r]at hy;simp only[Option.map_some,Option.some.injEq]at hy;subst hy;exact B.val i r
    ·rw[List.getElem?_eq_none ow]at hy;cases hy
   ·obtain⟨k,g⟩:=List.getElem?_of_mem hq;obtain⟨Q,rfl⟩:=A k q g;have:=K k Q
    simp only[List.length_map,List.length_range];omega
theorem zdC{n:Nat}{cs:List Value}{x:DataW H×List MemPlace}(h:DataW.trod enc N w base spare held n 31 cs=S x)(Q:∀k∈x.1.weights N 31,k<=reachBytes):
 ∃y:WD,cs=[J .i64 y.a,J .i64 y.b,J .i64 y.d,.slice y.do_ y.dl y.dc,.slice y.ao y.al.length y.ac,.slice y.po y.pl y.pcp]/\y.In w/\y.pl*24<=140737488351232/\y.dl*8<=140737488351232/\y.al.length*24<=140737488351232/\∀l∈y.al,∀z∈l,-9223372036854775808<=z/\z<=9223372036854775807:=by
 obtain⟨P,m,_,rfl,e,r,g⟩:=DataW.trod_struct underlying31 h;rw[Y4]at e;match cs,e,P,r with
 | [c0,c1,c2,c3,c4,c5],_,[x0,x1,x2,x3,x4,x5],_ =>
  have f0:=g 0 _ rfl;have f1:=g 1 _ rfl;have f2:=g 2 _ rfl;have f3:=g 3 _ rfl;have f4:=g 4 _ rfl;have Z:=g 5 _ rfl;obtain⟨a,G,_,_⟩:=DataW.trod_int underlying3 f0;obtain⟨bi,F,_,_⟩:=DataW.trod_int underlying3 f1;obtain⟨dr,E,_,_⟩:=DataW.trod_int underlying3 f2;obtain⟨do_,dl,dc,db,p,Dn,O,v,u,_⟩:=jg f3;obtain⟨ao,ac,ab,q,al,K,B,A⟩:=zat f4;obtain⟨po,f,C,b,j,V,L,R,I,t,U⟩:=qK Z;simp[xA,jo,zaN,qQ]at G F E O K I;have c:∀k,k∈x3.1.weights N 25\/k∈x4.1.weights N 28\/k∈x5.1.weights N 29->k<=reachBytes:=λk hk=>Q k (by
   simp only[DataW.weights,underlying31,DataW.weightsEach,List.map_cons,List.map_nil,List.mem_append];rcases hk with hk|hk|hk
   ·right;right;right;left;exact hk
   ·right;right;right;right;left;exact hk
   ·right;right;right;right;right;left;exact hk)
  have D:=u (λk hk=>c k (.inl hk));obtain⟨Y,X⟩:=B (λk hk=>c k (.inr (.inl hk)));have W:f*24<=140737488351232:=by
   rcases U with⟨_,rfl⟩|⟨el,sp,he,hl⟩
   ·omega
   ·have o:(el.length+sp.length)*24∈x5.1.weights N 29:=by
     simp only[DataW.weights,he,underlying29,QT];simp
    have:=c _ (.inr (.inr o))
    simp only[reachBytes]at this;omega
  have s:TS w po b j f V L R:=by
   rcases t with⟨h1,h2,D⟩|⟨ad,h1,h2⟩
   ·subst h2;exact⟨λh=>ol,λh=>ol,λi hi=>ol,λi hi=>ol,λi hi=>ol⟩
   ·rw[h1];exact h2
  refine⟨⟨a,bi,dr,do_,db,p,dl,dc,Dn,ao,ab,q,ac,al,po,b,j,f,C,V,L,R⟩,by rw[G,F,E,O,K,I],⟨s,v,Y,ox,ox⟩,W,D,X,A⟩
theorem zfm{n:Nat}{cs:List Value}{x:DataW H×List MemPlace}(h:DataW.trod enc N w base spare held n 31 cs=S x)(c:∀k∈x.1.weights N 31,k<=reachBytes):
 ∃y:WD,cs=[J .i64 y.a,J .i64 y.b,J .i64 y.d,.slice y.do_ y.dl y.dc,.slice y.ao y.al.length y.ac,.slice y.po y.pl y.pcp]/\y.In w/\y.pl*24<=140737488351232/\y.dl*8<=140737488351232/\y.al.length*24<=140737488351232:=by
 obtain⟨y,j,i,g,f,e,_⟩:=zdC h c;exact⟨y,j,i,g,f,e⟩
end
end
end Go.Proofs.YtaebngpoagjafabGreat
