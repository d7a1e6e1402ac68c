import Derived.Test.YtaebngpoagjafabGreatV02
import Derived.Deep.AppendLies
import Derived.Deep.DrawnRows
import Derived.Deep.LoopGhost
import Derived.Deep.RegionHeld3
import Derived.Deep.RegionLaw
import Derived.Deep.WholeRow
import Derived.Laws.BytesArg
import Derived.Laws.Concat
import Derived.Laws.NewBlocks
import Derived.RangeFuncBox
import Derived.WalkSmall
set_option maxRecDepth 100000
namespace Go.Proofs.YtaebngpoagjafabGreat
open Go.RowKit
structure IS (w:World) (o:Option Addr) (b off n:Nat) (D:Nat->Int):Prop where
 at_:0<n->o=some ⟨b,off,none⟩
 lt:0<n->b<w.heap.size
 val:∀ i,i<n->w.cell? ⟨b,off+i,none⟩=some (.int .i64 (D i))
theorem IS.below {w w':World} {o:Option Addr} {b off n:Nat} {D:Nat->Int} (h:IS w o b off n D) {B:Nat} (hb:Below B w w') (hB:0<n->b<B):IS w' o b off n D:=⟨h.at_,fun hn=>Nat.lt_of_lt_of_le (h.lt hn) hb.size,fun i hi=>by
 rw [hb.cell (p:=⟨b,off+i,none⟩) (hB (by omega))];exact h.val i hi⟩
structure AS (w:World) (base:Nat) (ao:Option Addr) (ab aoff:Nat) (al:List (List Int)):Prop where
 at_:0<al.length->ao=some ⟨ab,aoff,none⟩
 lt:0<al.length->ab<base
 val:∀ k l,al[k]?=some l->∃ lo lc,w.cell? ⟨ab,aoff+k,none⟩=some (.slice lo l.length lc)/\(0<l.length->∃ lb loff,lo=some ⟨lb,loff,none⟩/\lb<base/\∀ i x,l[i]?=some x->w.cell? ⟨lb,loff+i,none⟩=some (.int .i64 x))
 len:∀ l∈al,l.length*8<=140737488351232
theorem AS.of_kept {w w':World} {base:Nat} {ao:Option Addr} {ab aoff:Nat} {al:List (List Int)} (h:AS w base ao ab aoff al) (hk:∀ b,b<base->w'.heap[b]?=w.heap[b]?):AS w' base ao ab aoff al :=
 ⟨h.at_,h.lt,fun k l hl=>by
  obtain ⟨lo,lc,h1,h2⟩:=h.val k l hl
  have hp:0<al.length:=by have:=(List.getElem?_eq_some_iff.1 hl).1;omega
  refine ⟨lo,lc,by rw [World.cell?_of_block (hk ab (h.lt hp))];exact h1,fun h0=>?_⟩
  obtain ⟨lb,loff,h3,h4,h5⟩:=h2 h0
  exact ⟨lb,loff,h3,h4,fun i x hx=>by rw [World.cell?_of_block (hk lb h4)];exact h5 i x hx⟩,h.len⟩
theorem Tryz.infoInt:(Tryz.prog.info? 3).map (fun i=>(i.zero,i.size,i.bytes))=some (some (.int .i64 0),1,8):=by kernel_rfl
theorem Tryz.infoByte:(Tryz.prog.info? 5).map (fun i=>(i.zero,i.size,i.bytes))=some (some (.int .u8 0),1,1):=by kernel_rfl
theorem Tryz.infoIs:(Tryz.prog.info? 25).map (fun i=>(i.zero,i.size,i.bytes))=some (some (.slice none 0 0),1,24):=by kernel_rfl
structure WD where
 a:Int
 b:Int
 d:Int
 do_:Option Addr
 db:Nat
 doff:Nat
 dl:Nat
 dc:Nat
 Dn:Nat->Int
 ao:Option Addr
 ab:Nat
 aoff:Nat
 ac:Nat
 al:List (List Int)
 po:Option Addr
 pb:Nat
 poff:Nat
 pl:Nat
 pcp:Nat
 V:Nat->Int
 L:Nat->Int
 R:Nat->Int
def WD.val (x:WD):Value:=.agg #[.int .i64 x.a,.int .i64 x.b,.int .i64 x.d,.slice x.do_ x.dl x.dc,.slice x.ao x.al.length x.ac,.slice x.po x.pl x.pcp]
structure WD.In (x:WD) (w:World):Prop where
 ts:TS w x.po x.pb x.poff x.pl x.V x.L x.R
 is_:IS w x.do_ x.db x.doff x.dl x.Dn
 as_:AS w w.heap.size x.ao x.ab x.aoff x.al
 ndl:x.dl<=9223372036854775806
 nal:x.al.length<=9223372036854775807
theorem AS.wide {w:World} {base base':Nat} {ao:Option Addr} {ab aoff:Nat} {al:List (List Int)} (h:AS w base ao ab aoff al) (hb:base<=base'):AS w base' ao ab aoff al :=
 ⟨h.at_,fun h0=>by have:=h.lt h0;omega,fun k l hl=>by
  obtain ⟨lo,lc,h2,h3⟩:=h.val k l hl
  refine ⟨lo,lc,h2,fun h0=>?_⟩
  obtain ⟨lb,loff,h4,h5,h6⟩:=h3 h0
  exact ⟨lb,loff,h4,by omega,h6⟩,h.len⟩
theorem WD.In.below {x:WD} {w w':World} (h:x.In w) (hb:Below w.heap.size w w'):x.In w' :=
 ⟨h.ts.below hb,h.is_.below hb h.is_.lt,(h.as_.of_kept (fun b hl=>hb.block b hl)).wide hb.size,h.ndl,h.nal⟩
section
open Go.ChangeShapes Go.WideShapes Go.ChangeAt Go.RowKit
theorem zbH:Tryz.prog.bytesOf 3=8:=by kernel_rfl
theorem zan:Tryz.prog.bytesOf 25=24:=by kernel_rfl
section
variable {H:Type} {enc:TypeId×Value->H} {w:World} {base:Nat} {spare:Nat->Bool} {held:Bool}
theorem qo {fuel:Nat} {cs:List Value} {x:DataW H×List MemPlace} (h:DataW.trod enc Tryz.prog w base spare held fuel 25 cs=some x) :
 ∃ o len cap b off D,cs=[.slice o len cap]/\IS w o b off len D/\((∀ k∈x.1.weights Tryz.prog 25,k<=reachBytes)->len*8<=140737488351232)/\∀ i,i<len->-9223372036854775808<=D i/\D i<=9223372036854775807:=by
 rcases Deep.open_slice1 Tryz.underlying25 XZ h with ⟨hcs,_⟩ | ⟨a,l,c,m,n,V,D,Pl,hcs,_,hl,_,hmm,hx,hel⟩
 ·exact ⟨none,0,0,0,0,fun _=>0,hcs,⟨fun h=>by omega,fun h=>by omega,fun i hi=>by omega⟩,fun _=>by omega,fun i hi=>by omega⟩
 ·have hlm:l<=m:=by rw [hmm];split<;>omega
  obtain ⟨F,hF⟩:=Deep.choose_lt (α:=Int) (n:=l) (p:=fun i y=>w.cell? (a.add i)=some (.int .i64 y)/\-9223372036854775808<=y/\y<=9223372036854775807) (fun i hi=>by
   obtain ⟨h1,h2⟩:=hel i (by omega)
   obtain ⟨y,ey,_,wy⟩:=DataW.trod_int Tryz.underlying3 h2
   simp at ey
   have hb:=bounds_i64 wy
   exact ⟨y,by rw [h1,ey],hb.1,hb.2⟩)
  obtain ⟨b,off,spot⟩:=a
  refine ⟨some ⟨b,off,spot⟩,l,c,b,off,F,hcs,?_,fun hw=>?_,fun i hi=>(hF i hi).2⟩
  ·by_cases hl0:l=0
   ·subst hl0
    exact ⟨fun h=>by omega,fun h=>by omega,fun i hi=>by omega⟩
   ·have hc0:=(hF 0 (by omega)).1
    have hspot:spot=none:=by simpa [Addr.add] using World.cell?_spot hc0
    subst hspot
    have hlt:b<w.heap.size:=by
     have:=hc0
     simp [Addr.add] at this
     exact Zv this
    refine ⟨fun _=>rfl,fun _=>hlt,fun i hi=>?_⟩
    have:=(hF i hi).1
    rw [add_plain] at this
    exact this
  ·have hmem:(l+(m-l))*8∈x.1.weights Tryz.prog 25:=by
    rw [hx]
    simp only [DataW.weights,Tryz.underlying25,zbH]
    simp
   have:=hw _ hmem
   simp only [reachBytes] at this
   omega
theorem jq {fuel:Nat} {cs:List Value} {x:DataW H×List MemPlace} (h:DataW.trod enc Tryz.prog w base spare held fuel 28 cs=some x) :
 ∃ o cap ab aoff al,cs=[.slice o al.length cap]/\((∀ k∈x.1.weights Tryz.prog 28,k<=reachBytes)->AS w w.heap.size o ab aoff al/\al.length*24<=140737488351232)/\∀ l∈al,∀ z∈l,-9223372036854775808<=z/\z<=9223372036854775807:=by
 rcases Deep.open_slice1 Tryz.underlying28 qx h with ⟨hcs,_⟩ | ⟨a,l,c,m,n,V,D,Pl,hcs,_,hl,_,hmm,hx,hel⟩
 ·exact ⟨none,0,0,0,[],hcs,fun _=>⟨⟨fun h=>by simp at h,fun h=>by simp at h,fun k l hl=>by simp at hl,fun l hl=>by simp at hl⟩,by simp⟩,fun l hl=>by cases hl⟩
 ·have hlm:l<=m:=by rw [hmm];split<;>omega
  obtain ⟨F,hF⟩:=Deep.choose_lt (α:=Option Addr×Nat×Nat×Nat×Nat×(Nat->Int)) (n:=l) (p:=fun i y=>w.cell? (a.add i)=some (.slice y.1 y.2.1 y.2.2.1)/\IS w y.1 y.2.2.2.1 y.2.2.2.2.1 y.2.1 y.2.2.2.2.2/\((∀ k∈(D i).weights Tryz.prog 25,k<=reachBytes)->y.2.1*8<=140737488351232)/\∀ j,j<y.2.1->-9223372036854775808<=y.2.2.2.2.2 j/\y.2.2.2.2.2 j<=9223372036854775807) (fun i hi=>by
   obtain ⟨h1,h2⟩:=hel i (by omega)
   obtain ⟨o,len,cap,b,off,Dn,e1,hi1,hw1,hbd1⟩:=qo h2
   simp at e1
   exact ⟨(o,len,cap,b,off,Dn),by rw [h1,e1],hi1,hw1,hbd1⟩)
  obtain ⟨b,off,spot⟩:=a
  refine ⟨some ⟨b,off,spot⟩,c,b,off,(List.range l).map (fun i=>(List.range (F i).2.1).map (F i).2.2.2.2.2),by simpa using hcs,fun hw=>?_,fun q hq z hz=>?_⟩
  rotate_left
  ·obtain ⟨i,hi,rfl⟩:=List.mem_map.1 hq
   obtain ⟨j,hj,rfl⟩:=List.mem_map.1 hz
   exact (hF i (List.mem_range.1 hi)).2.2.2 j (List.mem_range.1 hj)
  have hwl:l*24<=140737488351232:=by
   have hmem:(l+(m-l))*24∈x.1.weights Tryz.prog 28:=by
    rw [hx]
    simp only [DataW.weights,Tryz.underlying28,zan]
    simp
   have:=hw _ hmem
   simp only [reachBytes] at this
   omega
  have hwi:∀ i,i<l->(F i).2.1*8<=140737488351232:=fun i hi=>(hF i hi).2.2.1 (fun k hk=>hw k (by
   rw [hx]
   simp only [DataW.weights,Tryz.underlying28]
   refine List.mem_cons_of_mem _ (List.mem_append_left _ (Xx (d:=D i) ?_ hk))
   exact List.mem_map.2 ⟨i,List.mem_range.2 hi,rfl⟩))
  have hat:∀ (k:Nat) (q:List Int),((List.range l).map (fun i=>(List.range (F i).2.1).map (F i).2.2.2.2.2))[k]?=some q->k<l/\q=(List.range (F k).2.1).map (F k).2.2.2.2.2:=fun k q hq=>by
   rw [List.getElem?_map] at hq
   by_cases hk:k<l
   ·rw [List.getElem?_range hk] at hq
    simp only [Option.map_some,Option.some.injEq] at hq
    exact ⟨hk,hq.symm⟩
   ·rw [List.getElem?_eq_none (by simp;omega)] at hq
    cases hq
  refine ⟨?_,by simpa using hwl⟩
  by_cases hl0:l=0
  ·subst hl0
   exact ⟨fun h=>by simp at h,fun h=>by simp at h,fun k q hq=>by simp at hq,fun q hq=>by simp at hq⟩
  ·have hc0:=(hF 0 (by omega)).1
   have hspot:spot=none:=by simpa [Addr.add] using World.cell?_spot hc0
   subst hspot
   have hlt:b<w.heap.size:=by
    have:=hc0
    simp [Addr.add] at this
    exact Zv this
   refine ⟨fun _=>rfl,fun _=>hlt,fun k q hq=>?_,fun q hq=>?_⟩
   ·obtain ⟨hk,rfl⟩:=hat k q hq
    obtain ⟨h1,h2,_⟩:=hF k hk
    rw [add_plain] at h1
    refine ⟨(F k).1,(F k).2.2.1,by rw [h1];simp,fun h0=>?_⟩
    simp only [List.length_map,List.length_range] at h0
    refine ⟨(F k).2.2.2.1,(F k).2.2.2.2.1,h2.at_ h0,h2.lt h0,fun i y hy=>?_⟩
    rw [List.getElem?_map] at hy
    by_cases hi:i<(F k).2.1
    ·rw [List.getElem?_range hi] at hy
     simp only [Option.map_some,Option.some.injEq] at hy
     subst hy
     exact h2.val i hi
    ·rw [List.getElem?_eq_none (by simp;omega)] at hy
     cases hy
   ·obtain ⟨k,hk⟩:=List.getElem?_of_mem hq
    obtain ⟨hkl,rfl⟩:=hat k q hk
    have:=hwi k hkl
    simp only [List.length_map,List.length_range]
    omega
theorem za8 {n:Nat} {cs:List Value} {x:DataW H×List MemPlace} (h:DataW.trod enc Tryz.prog w base spare held n 31 cs=some x) (hw:∀ k∈x.1.weights Tryz.prog 31,k<=reachBytes) :
 ∃ y:WD,cs=[.int .i64 y.a,.int .i64 y.b,.int .i64 y.d,.slice y.do_ y.dl y.dc,.slice y.ao y.al.length y.ac,.slice y.po y.pl y.pcp]/\y.In w/\y.pl*24<=140737488351232/\y.dl*8<=140737488351232/\y.al.length*24<=140737488351232/\∀ l∈y.al,∀ z∈l,-9223372036854775808<=z/\z<=9223372036854775807:=by
 obtain ⟨xs,m,_,rfl,hlen,hxs,hf⟩:=DataW.trod_struct Tryz.underlying31 h
 rw [jK] at hlen
 match cs,hlen,xs,hxs with
 | [c0,c1,c2,c3,c4,c5],_,[x0,x1,x2,x3,x4,x5],_ =>
  have f0:=hf 0 _ rfl
  have f1:=hf 1 _ rfl
  have f2:=hf 2 _ rfl
  have f3:=hf 3 _ rfl
  have f4:=hf 4 _ rfl
  have f5:=hf 5 _ rfl
  obtain ⟨a,ea,_,_⟩:=DataW.trod_int Tryz.underlying3 f0
  obtain ⟨bi,eb,_,_⟩:=DataW.trod_int Tryz.underlying3 f1
  obtain ⟨dr,ec,_,_⟩:=DataW.trod_int Tryz.underlying3 f2
  obtain ⟨do_,dl,dc,db,doff,Dn,e3,hdn,hdw,_⟩:=qo f3
  obtain ⟨ao,ac,ab,aoff,al,e4,haw,hbd⟩:=jq f4
  obtain ⟨po,len,cap,b,off,V,L,R,e5,hpt,hd⟩:=QD f5
  simp [XZ,qx,jL,QU] at ea eb ec e3 e4 e5
  have hall:∀ k,k∈x3.1.weights Tryz.prog 25\/k∈x4.1.weights Tryz.prog 28\/k∈x5.1.weights Tryz.prog 29->k<=reachBytes:=fun k hk=>hw k (by
   simp only [DataW.weights,Tryz.underlying31,DataW.weightsEach,List.map_cons,List.map_nil,List.mem_append]
   rcases hk with hk | hk | hk
   ·right;right;right;left;exact hk
   ·right;right;right;right;left;exact hk
   ·right;right;right;right;right;left;exact hk)
  have h3:=hdw (fun k hk=>hall k (.inl hk))
  obtain ⟨h4,h5⟩:=haw (fun k hk=>hall k (.inr (.inl hk)))
  have h6:len*24<=140737488351232:=by
   rcases hd with ⟨_,rfl⟩ | ⟨el,sp,he,hl⟩
   ·omega
   ·have hmem:(el.length+sp.length)*24∈x5.1.weights Tryz.prog 29:=by
     simp only [DataW.weights,he,Tryz.underlying29,jM]
     simp
    have:=hall _ (.inr (.inr hmem))
    simp only [reachBytes] at this
    omega
  have hts:TS w po b off len V L R:=by
   rcases hpt with ⟨h1,h2,h3⟩ | ⟨ad,h1,h2⟩
   ·subst h2
    exact ⟨fun h=>by omega,fun h=>by omega,fun i hi=>by omega,fun i hi=>by omega,fun i hi=>by omega⟩
   ·rw [h1];exact h2
  refine ⟨⟨a,bi,dr,do_,db,doff,dl,dc,Dn,ao,ab,aoff,ac,al,po,b,off,len,cap,V,L,R⟩,by rw [ea,eb,ec,e3,e4,e5],⟨hts,hdn,h4,by simp only;omega,by simp only;omega⟩,h6,h3,h5,hbd⟩
end
end
end Go.Proofs.YtaebngpoagjafabGreat
