import Derived.Test.YtaebngpoagjafabGreatU02
import Derived.Deep.AppendLies
import Derived.Deep.DrawnRows
import Derived.Deep.LoopGhost
import Derived.Deep.RegionHeld3
import Derived.Deep.RegionLaw
import Derived.Deep.WholeRow
import Derived.Laws.BytesArg
import Derived.Laws.Concat
import Derived.Laws.NewBlocks
import Derived.RangeFuncBox
import Derived.WalkSmall
set_option maxRecDepth 100000
namespace Go.Proofs.YtaebngpoagjafabGreat
open Value renaming int → J
open Go.RowKit
structure IS (w:World) (o:Option Addr) (b off n:Nat) (D:Nat->Int):Prop where
 at_:0<n->o=some ⟨b,off,none⟩
 lt:0<n->b<w.heap.size
 val:∀ i,i<n->w.cell? ⟨b,off+i,none⟩=some (J .i64 (D i))
theorem IS.below {w w':World} {o:Option Addr} {b off n:Nat} {D:Nat->Int} (h:IS w o b off n D) {B:Nat} (hb:Below B w w') (hB:0<n->b<B):IS w' o b off n D:=⟨h.at_,fun hn=>Nat.lt_of_lt_of_le (h.lt hn) hb.size,fun i hi=>by
 rw [hb.cell (p:=⟨b,off+i,none⟩) (hB (by omega))];exact h.val i hi⟩
structure AS (w:World) (base:Nat) (ao:Option Addr) (ab aoff:Nat) (al:List (List Int)):Prop where
 at_:0<al.length->ao=some ⟨ab,aoff,none⟩
 lt:0<al.length->ab<base
 val:∀ k l,al[k]?=some l->∃ lo lc,w.cell? ⟨ab,aoff+k,none⟩=some (.slice lo l.length lc)/\(0<l.length->∃ lb loff,lo=some ⟨lb,loff,none⟩/\lb<base/\∀ i x,l[i]?=some x->w.cell? ⟨lb,loff+i,none⟩=some (J .i64 x))
 len:∀ l∈al,l.length*8<=140737488351232
theorem AS.of_kept {w w':World} {base:Nat} {ao:Option Addr} {ab aoff:Nat} {al:List (List Int)} (h:AS w base ao ab aoff al) (hk:∀ b,b<base->w'.heap[b]?=w.heap[b]?):AS w' base ao ab aoff al :=
 ⟨h.at_,h.lt,fun k l hl=>by
  obtain ⟨f,g,p,o⟩:=h.val k l hl
  have j:0<al.length:=by have:=(List.getElem?_eq_some_iff.1 hl).1;omega
  refine ⟨f,g,by rw [World.cell?_of_block (hk ab (h.lt j))];exact p,fun h0=>?_⟩
  obtain ⟨d,a,n,e,m⟩:=o h0
  exact ⟨d,a,n,e,fun i x hx=>by rw [World.cell?_of_block (hk d e)];exact m i x hx⟩,h.len⟩
theorem Tryz.infoInt:(Tryz.prog.info? 3).map (fun i=>(i.zero,i.size,i.bytes))=some (some (J .i64 0),1,8):=by kernel_rfl
theorem Tryz.infoByte:(Tryz.prog.info? 5).map (fun i=>(i.zero,i.size,i.bytes))=some (some (J .u8 0),1,1):=by kernel_rfl
theorem Tryz.infoIs:(Tryz.prog.info? 25).map (fun i=>(i.zero,i.size,i.bytes))=some (some (.slice none 0 0),1,24):=by kernel_rfl
structure WD where
 a:Int
 b:Int
 d:Int
 do_:Option Addr
 db:Nat
 doff:Nat
 dl:Nat
 dc:Nat
 Dn:Nat->Int
 ao:Option Addr
 ab:Nat
 aoff:Nat
 ac:Nat
 al:List (List Int)
 po:Option Addr
 pb:Nat
 poff:Nat
 pl:Nat
 pcp:Nat
 V:Nat->Int
 L:Nat->Int
 R:Nat->Int
def WD.val (x:WD):Value:=.agg #[J .i64 x.a,J .i64 x.b,J .i64 x.d,.slice x.do_ x.dl x.dc,.slice x.ao x.al.length x.ac,.slice x.po x.pl x.pcp]
structure WD.In (x:WD) (w:World):Prop where
 ts:TS w x.po x.pb x.poff x.pl x.V x.L x.R
 is_:IS w x.do_ x.db x.doff x.dl x.Dn
 as_:AS w w.heap.size x.ao x.ab x.aoff x.al
 ndl:x.dl<=9223372036854775806
 nal:x.al.length<=9223372036854775807
theorem AS.wide {w:World} {base base':Nat} {ao:Option Addr} {ab aoff:Nat} {al:List (List Int)} (h:AS w base ao ab aoff al) (hb:base<=base'):AS w base' ao ab aoff al :=
 ⟨h.at_,fun h0=>by have:=h.lt h0;omega,fun k l hl=>by
  obtain ⟨b,d,j,i⟩:=h.val k l hl
  refine ⟨b,d,j,fun h0=>?_⟩
  obtain ⟨e,a,g,m,f⟩:=i h0
  exact ⟨e,a,g,by omega,f⟩,h.len⟩
theorem WD.In.below {x:WD} {w w':World} (h:x.In w) (hb:Below w.heap.size w w'):x.In w' :=
 ⟨h.ts.below hb,h.is_.below hb h.is_.lt,(h.as_.of_kept (fun b hl=>hb.block b hl)).wide hb.size,h.ndl,h.nal⟩
section
open Go.ChangeShapes Go.WideShapes Go.ChangeAt Go.RowKit
theorem zdk:Tryz.prog.bytesOf 3=8:=by kernel_rfl
theorem zbP:Tryz.prog.bytesOf 25=24:=by kernel_rfl
section
variable {H:Type} {enc:TypeId×Value->H} {w:World} {base:Nat} {spare:Nat->Bool} {held:Bool}
theorem Qx {fuel:Nat} {cs:List Value} {x:DataW H×List MemPlace} (h:DataW.trod enc Tryz.prog w base spare held fuel 25 cs=some x) :
 ∃ o len cap b off D,cs=[.slice o len cap]/\IS w o b off len D/\((∀ k∈x.1.weights Tryz.prog 25,k<=reachBytes)->len*8<=140737488351232)/\∀ i,i<len->-9223372036854775808<=D i/\D i<=9223372036854775807:=by
 rcases Deep.open_slice1 Tryz.underlying25 Y5 h with ⟨hcs,_⟩ | ⟨a,l,c,m,n,V,D,Pl,hcs,_,hl,_,hmm,hx,hel⟩
 ·exact ⟨none,0,0,0,0,fun _=>0,hcs,⟨fun h=>by omega,fun h=>by omega,fun i hi=>by omega⟩,fun _=>by omega,fun i hi=>by omega⟩
 ·have z:l<=m:=by rw [hmm];split<;>omega
  obtain ⟨F,r⟩:=Deep.choose_lt (α:=Int) (n:=l) (p:=fun i y=>w.cell? (a.add i)=some (J .i64 y)/\-9223372036854775808<=y/\y<=9223372036854775807) (fun i hi=>by
   obtain ⟨B,A⟩:=hel i (by omega)
   obtain ⟨y,u,_,v⟩:=DataW.trod_int Tryz.underlying3 A
   simp at u
   have s:=bounds_i64 v
   exact ⟨y,by rw [B,u],s.1,s.2⟩)
  obtain ⟨b,off,d⟩:=a
  refine ⟨some ⟨b,off,d⟩,l,c,b,off,F,hcs,?_,fun hw=>?_,fun i hi=>(r i hi).2⟩
  ·by_cases q:l=0
   ·subst q
    exact ⟨fun h=>by omega,fun h=>by omega,fun i hi=>by omega⟩
   ·have g:=(r 0 (by omega)).1
    have e:d=none:=by simpa [Addr.add] using World.cell?_spot g
    subst e
    have j:b<w.heap.size:=by
     have:=g
     simp [Addr.add] at this
     exact yw this
    refine ⟨fun _=>rfl,fun _=>j,fun i hi=>?_⟩
    have:=(r i hi).1
    rw [add_plain] at this
    exact this
  ·have f:(l+(m-l))*8∈x.1.weights Tryz.prog 25:=by
    rw [hx]
    simp only [DataW.weights,Tryz.underlying25,zdk]
    simp
   have:=hw _ f
   simp only [reachBytes] at this
   omega
theorem JG {fuel:Nat} {cs:List Value} {x:DataW H×List MemPlace} (h:DataW.trod enc Tryz.prog w base spare held fuel 28 cs=some x) :
 ∃ o cap ab aoff al,cs=[.slice o al.length cap]/\((∀ k∈x.1.weights Tryz.prog 28,k<=reachBytes)->AS w w.heap.size o ab aoff al/\al.length*24<=140737488351232)/\∀ l∈al,∀ z∈l,-9223372036854775808<=z/\z<=9223372036854775807:=by
 rcases Deep.open_slice1 Tryz.underlying28 QG h with ⟨hcs,_⟩ | ⟨a,l,c,m,n,V,D,Pl,hcs,_,hl,_,hmm,hx,hel⟩
 ·exact ⟨none,0,0,0,[],hcs,fun _=>⟨⟨fun h=>by simp at h,fun h=>by simp at h,fun k l hl=>by simp at hl,fun l hl=>by simp at hl⟩,by simp⟩,fun l hl=>by cases hl⟩
 ·have S:l<=m:=by rw [hmm];split<;>omega
  obtain ⟨F,E⟩:=Deep.choose_lt (α:=Option Addr×Nat×Nat×Nat×Nat×(Nat->Int)) (n:=l) (p:=fun i y=>w.cell? (a.add i)=some (.slice y.1 y.2.1 y.2.2.1)/\IS w y.1 y.2.2.2.1 y.2.2.2.2.1 y.2.1 y.2.2.2.2.2/\((∀ k∈(D i).weights Tryz.prog 25,k<=reachBytes)->y.2.1*8<=140737488351232)/\∀ j,j<y.2.1->-9223372036854775808<=y.2.2.2.2.2 j/\y.2.2.2.2.2 j<=9223372036854775807) (fun i r=>by
   obtain ⟨G,C⟩:=hel i (by omega)
   obtain ⟨o,I,cap,b,e,W,R,Q,L,A⟩:=Qx C
   simp at R
   exact ⟨(o,I,cap,b,e,W),by rw [G,R],Q,L,A⟩)
  obtain ⟨b,e,f⟩:=a
  refine ⟨some ⟨b,e,f⟩,c,b,e,(List.range l).map (fun i=>(List.range (F i).2.1).map (F i).2.2.2.2.2),by simpa using hcs,fun hw=>?_,fun q hq z hz=>?_⟩
  rotate_left
  ·obtain ⟨i,r,rfl⟩:=List.mem_map.1 hq
   obtain ⟨j,U,rfl⟩:=List.mem_map.1 hz
   exact (E i (List.mem_range.1 r)).2.2.2 j (List.mem_range.1 U)
  have J:l*24<=140737488351232:=by
   have u:(l+(m-l))*24∈x.1.weights Tryz.prog 28:=by
    rw [hx]
    simp only [DataW.weights,Tryz.underlying28,zbP]
    simp
   have:=hw _ u
   simp only [reachBytes] at this
   omega
  have K:∀ i,i<l->(F i).2.1*8<=140737488351232:=fun i r=>(E i r).2.2.1 (fun k g=>hw k (by
   rw [hx]
   simp only [DataW.weights,Tryz.underlying28]
   refine List.mem_cons_of_mem _ (List.mem_append_left _ (Z2 (d:=D i) ?_ g))
   exact List.mem_map.2 ⟨i,List.mem_range.2 r,rfl⟩))
  have B:∀ (k:Nat) (q:List Int),((List.range l).map (fun i=>(List.range (F i).2.1).map (F i).2.2.2.2.2))[k]?=some q->k<l/\q=(List.range (F k).2.1).map (F k).2.2.2.2.2:=fun k q hq=>by
   rw [List.getElem?_map] at hq
   by_cases g:k<l
   ·rw [List.getElem?_range g] at hq
    simp only [Option.map_some,Option.some.injEq] at hq
    exact ⟨g,hq.symm⟩
   ·rw [List.getElem?_eq_none (by simp;omega)] at hq
    cases hq
  refine ⟨?_,by simpa using J⟩
  by_cases O:l=0
  ·subst O
   exact ⟨fun h=>by simp at h,fun h=>by simp at h,fun k q hq=>by simp at hq,fun q hq=>by simp at hq⟩
  ·have v:=(E 0 (by omega)).1
   have s:f=none:=by simpa [Addr.add] using World.cell?_spot v
   subst s
   have N:b<w.heap.size:=by
    have:=v
    simp [Addr.add] at this
    exact yw this
   refine ⟨fun _=>rfl,fun _=>N,fun k q hq=>?_,fun q hq=>?_⟩
   ·obtain ⟨g,rfl⟩:=B k q hq
    obtain ⟨G,C,_⟩:=E k g
    rw [add_plain] at G
    refine ⟨(F k).1,(F k).2.2.1,by rw [G];simp,fun h0=>?_⟩
    simp only [List.length_map,List.length_range] at h0
    refine ⟨(F k).2.2.2.1,(F k).2.2.2.2.1,C.at_ h0,C.lt h0,fun i y hy=>?_⟩
    rw [List.getElem?_map] at hy
    by_cases r:i<(F k).2.1
    ·rw [List.getElem?_range r] at hy
     simp only [Option.map_some,Option.some.injEq] at hy
     subst hy
     exact C.val i r
    ·rw [List.getElem?_eq_none (by simp;omega)] at hy
     cases hy
   ·obtain ⟨k,g⟩:=List.getElem?_of_mem hq
    obtain ⟨P,rfl⟩:=B k q g
    have:=K k P
    simp only [List.length_map,List.length_range]
    omega
theorem zcD {n:Nat} {cs:List Value} {x:DataW H×List MemPlace} (h:DataW.trod enc Tryz.prog w base spare held n 31 cs=some x) (hw:∀ k∈x.1.weights Tryz.prog 31,k<=reachBytes) :
 ∃ y:WD,cs=[J .i64 y.a,J .i64 y.b,J .i64 y.d,.slice y.do_ y.dl y.dc,.slice y.ao y.al.length y.ac,.slice y.po y.pl y.pcp]/\y.In w/\y.pl*24<=140737488351232/\y.dl*8<=140737488351232/\y.al.length*24<=140737488351232/\∀ l∈y.al,∀ z∈l,-9223372036854775808<=z/\z<=9223372036854775807:=by
 obtain ⟨Q,m,_,rfl,f,s,j⟩:=DataW.trod_struct Tryz.underlying31 h
 rw [YN] at f
 match cs,f,Q,s with
 | [c0,c1,c2,c3,c4,c5],_,[x0,x1,x2,x3,x4,x5],_ =>
  have f0:=j 0 _ rfl
  have f1:=j 1 _ rfl
  have f2:=j 2 _ rfl
  have f3:=j 3 _ rfl
  have Z:=j 4 _ rfl
  have Y:=j 5 _ rfl
  obtain ⟨a,K,_,_⟩:=DataW.trod_int Tryz.underlying3 f0
  obtain ⟨bi,I,_,_⟩:=DataW.trod_int Tryz.underlying3 f1
  obtain ⟨dr,G,_,_⟩:=DataW.trod_int Tryz.underlying3 f2
  obtain ⟨do_,dl,dc,db,q,Dn,P,B,A,_⟩:=Qx f3
  obtain ⟨ao,ac,ab,r,al,O,D,C⟩:=JG Z
  obtain ⟨po,g,E,b,o,V,L,R,N,v,S⟩:=XV Y
  simp [Y5,QG,J0,X1] at K I G P O N
  have e:∀ k,k∈x3.1.weights Tryz.prog 25\/k∈x4.1.weights Tryz.prog 28\/k∈x5.1.weights Tryz.prog 29->k<=reachBytes:=fun k hk=>hw k (by
   simp only [DataW.weights,Tryz.underlying31,DataW.weightsEach,List.map_cons,List.map_nil,List.mem_append]
   rcases hk with hk | hk | hk
   ·right;right;right;left;exact hk
   ·right;right;right;right;left;exact hk
   ·right;right;right;right;right;left;exact hk)
  have F:=A (fun k hk=>e k (.inl hk))
  obtain ⟨X,W⟩:=D (fun k hk=>e k (.inr (.inl hk)))
  have U:g*24<=140737488351232:=by
   rcases S with ⟨_,rfl⟩ | ⟨el,sp,he,hl⟩
   ·omega
   ·have p:(el.length+sp.length)*24∈x5.1.weights Tryz.prog 29:=by
     simp only [DataW.weights,he,Tryz.underlying29,Qa]
     simp
    have:=e _ (.inr (.inr p))
    simp only [reachBytes] at this
    omega
  have u:TS w po b o g V L R:=by
   rcases v with ⟨h1,h2,F⟩ | ⟨ad,h1,h2⟩
   ·subst h2
    exact ⟨fun h=>by omega,fun h=>by omega,fun i hi=>by omega,fun i hi=>by omega,fun i hi=>by omega⟩
   ·rw [h1];exact h2
  refine ⟨⟨a,bi,dr,do_,db,q,dl,dc,Dn,ao,ab,r,ac,al,po,b,o,g,E,V,L,R⟩,by rw [K,I,G,P,O,N],⟨u,B,X,by simp only;omega,by simp only;omega⟩,U,F,W,C⟩
theorem zei {n:Nat} {cs:List Value} {x:DataW H×List MemPlace} (h:DataW.trod enc Tryz.prog w base spare held n 31 cs=some x) (hw:∀ k∈x.1.weights Tryz.prog 31,k<=reachBytes) :
 ∃ y:WD,cs=[J .i64 y.a,J .i64 y.b,J .i64 y.d,.slice y.do_ y.dl y.dc,.slice y.ao y.al.length y.ac,.slice y.po y.pl y.pcp]/\y.In w/\y.pl*24<=140737488351232/\y.dl*8<=140737488351232/\y.al.length*24<=140737488351232:=by
 obtain ⟨y,j,i,g,f,e,_⟩:=zcD h hw
 exact ⟨y,j,i,g,f,e⟩
end
end
end Go.Proofs.YtaebngpoagjafabGreat
