import Derived.Test.YtaebngpoagjafaaGreatR45
import Derived.Test.YtaebngpoagjafaaGreatR44
import Derived.Test.YtaebngpoagjafaaGreatR41
import Derived.Test.YtaebngpoagjafaaGreatR34
import Derived.Test.YtaebngpoagjafaaGreatR22
import Derived.Test.YtaebngpoagjafaaGreatR33
import Derived.Deep.DeepCutAuto
import Derived.Deep.RegionHeld3
set_option maxRecDepth 100000
set_option maxHeartbeats 1600000
namespace Go.Proofs.YtaebngpoagjafaaGreat
open Obj renaming cells → X
open Value renaming int → Z, slice → Q
open IntKind renaming i64 → O
open Go.RowKit
attribute [local go_sem ↓] Go.wp_at_zero Go.wp_at_succ
theorem zeC {c:Int} {t:List Int}:∀ (Y:List (Int×List Int)),ruX c Y=some t->∃ (k:Nat) (y:Int×List Int),Y[k]?=some y/\y.1=c/\y.2=t/\∀ (i:Nat) (z:Int×List Int),i<k->Y[i]?=some z->z.1≠c:=by
 intro Y
 induction Y with
 | nil=>intro h;cases h
 | cons y l ih =>
  intro h
  simp only [ruX] at h
  split at h
  ·next hh=>exact ⟨0,y,rfl,hh,by simpa using h,fun i z hi=>by omega⟩
  ·next hh =>
   obtain ⟨k,z,h1,h2,h3,h4⟩:=ih h
   refine ⟨k+1,z,by simpa using h1,h2,h3,fun i z' hi hz=>?_⟩
   cases i with
   | zero=>simp at hz;subst hz;exact hh
   | succ i=>exact h4 i z' (by omega) (by simpa using hz)
structure MQ (x:WD) (B0 PB tg tc:Nat) (nm:ByteArray) (Y:List (Int×List Int)) (w:World):Prop where
 b0:B0<=w.heap.size
 ts:TS w x.po x.pb x.poff x.pl x.V x.L x.R
 is_:IS w x.do_ x.db x.doff x.dl x.Dn
 as_:AS w B0 x.ao x.ab x.aoff x.al
 pl:PB<w.heap.size
 tl:tg<w.heap.size
 c0:w.cell? ⟨PB,0,none⟩=some (.string nm)
 c1:w.cell? ⟨PB,1,none⟩=some (Q (some ⟨tg,0,none⟩) Y.length tc)
 tx:∀ i y,Y[i]?=some y->w.cell? ⟨tg,i,none⟩=some (.string (strOfNums y.2))
theorem MQ.below {x:WD} {B0 PB tg tc:Nat} {nm:ByteArray} {Y:List (Int×List Int)} {w w':World} (h:MQ x B0 PB tg tc nm Y w) (hb:Below w.heap.size w w'):MQ x B0 PB tg tc nm Y w' :=
 ⟨Nat.le_trans h.b0 hb.size,h.ts.below hb,h.is_.below hb h.is_.lt,h.as_.of_kept (fun b hl=>hb.block b (Nat.lt_of_lt_of_le hl h.b0)),Nat.lt_of_lt_of_le h.pl hb.size,Nat.lt_of_lt_of_le h.tl hb.size,(hb.cell h.pl).trans h.c0,(hb.cell h.pl).trans h.c1,fun i y hy=>(hb.cell h.tl).trans (h.tx i y hy)⟩
theorem zaM {x:WD} (h:x.right=true):M.isA x.a=true/\0<=x.b/\x.b<=32/\0<=x.d/\x.pl<=64/\∀ i,i<x.pl->M.isP (x.V i) (x.L i)=true:=by
 unfold WD.right ZA at h
 simp only [Bool.and_eq_true,ZX,decide_eq_true_eq] at h
 obtain ⟨⟨h1,h2,h3,h4,_⟩,h5⟩:=h
 obtain ⟨p1,_,p3⟩:=QX h5
 refine ⟨h1,h2,h3,h4,p1,fun i hi=>?_⟩
 have:x.pl<=64/\M.okTo x.V x.L x.pl=true:=by simpa [M.isMap] using p3
 exact (M.okTo_iff.1 this.2 i hi).1
theorem XP {W:RW} {E:List EX} {j:Nat} {e:EX} (h:E[j]?=some e):mnN W E (j+1)=mnE W (mnK W E j) e:=by simp [mnN,h]
def itN (e:EX) (i:Nat):Int:=match e.items[i]? with | some x=>x.num | none=>0
def itW (e:EX) (i:Nat):Nat:=match e.items[i]? with | some x=>x.wv.toNat | none=>0
theorem XQ {e:EX} {i:Nat} {x:IM} (h:e.items[i]?=some x):itN e i=x.num:=by unfold itN;rw [h]
theorem zcp {e:EX} {i:Nat} {x:IM} (h:e.items[i]?=some x):itW e i=x.wv.toNat:=by unfold itW;rw [h]
theorem zch {x:WD} {B0 PB tg tc:Nat} {nm:ByteArray} {Y:List (Int×List Int)} {E:List EX} (hr:x.right=true) (hdl:x.dl<=9223372036854775806) (hal:x.al.length<=9223372036854775807) (hns:nm.size<=2001) (hnm:nm.size=Y.length) (hch:∀ i y,Y[i]?=some y->T.ch nm i=y.1) (hY:∀ y∈Y,y.2.length<=2000) (hb:Zo E) (hn:∀ e∈E,NF e) {t:List Int} {j:Nat} (h:TX E Y t j) :
 t.length<=2000->∀ w,MQ x B0 PB tg tc nm Y w->Calls Tryz.prog 128 #[.pointer (some ⟨PB,0,none⟩),.string (strOfNums t),x.val] w (ZY B0 w (mnN x.rw E (j+1))):=by
 obtain ⟨rA,r0,r1,rd,rp,rP⟩:=zaM hr
 have hQ:∀ w w',MQ x B0 PB tg tc nm Y w->Below w.heap.size w w'->MQ x B0 PB tg tc nm Y w':=fun w w' h hb=>h.below hb
 induction h with
 | @servers j e l h1 h2 h3 h4 h5 =>
  intro hs w hq
  have hpl:=qg h4 h5
  have hbj:Byt (joi 44 l):=Byt.joi (by decide) _ (fun x h=>(hpl x h).byt)
  have hbt:Byt ([123]++joi 44 l++[125]):=((Byt.one (by decide)).app hbj).app (Byt.one (by decide))
  have hm:(strOfNums ([123]++joi 44 l++[125])).extract 1 ((strOfNums ([123]++joi 44 l++[125])).size-1)=strOfNums (joi 44 l):=YD [123] (joi 44 l) [125]
  have hsp:spl (strOfNums (joi 44 l)) 44=l.map strOfNums:=YZ (c:=44) (.inl rfl) h3 (fun x h=>Nsp.pln (hpl x h)) hbj
  have:=Q1 B0 (.pointer (some ⟨PB,0,none⟩)) (strOfNums ([123]++joi 44 l++[125])) x (itN e) w hq.b0 (by rw [strOfNums_size];exact hs) (by rw [yt hbt];simp) (by rw [strOfNums_size];simp) (fun i y hy=>by
   rw [hm,hsp,List.getElem?_map] at hy
   obtain ⟨z,hz,rfl⟩:=Option.map_eq_some_iff.1 hy
   have hi:=(List.getElem?_eq_some_iff.1 hz).1
   have hg:e.items[i]?=some e.items[i]:=List.getElem?_eq_getElem (by omega)
   have ht:=(h5 i z _ hz hg).2
   rw [if_neg (by decide)] at ht
   rw [XQ hg]
   exact ht.digs)
  rw [hm,hsp,List.length_map,h4,zaT (l:=e.items) (fun i it h=>XQ h)] at this
  rw [XP h1]
  simp only [mnE,h2,if_true]
  exact this
 | @alias j e y h1 h2 h3 =>
  intro hs w hq
  have hbt:Byt (64::y):=Byt.app (a:=[64]) (Byt.one (by decide)) h3.pln.byt
  have hm:(strOfNums (64::y)).extract 1 (strOfNums (64::y)).size=strOfNums y:=xl [64] y
  have nv:=((hb e (List.mem_of_getElem? h1)).nv).1
  have hd:=h3.digs
  have:=Jt B0 (.pointer (some ⟨PB,0,none⟩)) (strOfNums (64::y)) x e.nv.toNat w (by rw [strOfNums_size];exact hs) (by rw [yt hbt];simp) (by rw [hm];exact hd.1) (by rw [hm];exact hd.2.1) (by rw [hm,hd.2.2];omega) hq.b0 hq.as_ hal
  rw [XP h1]
  simp only [mnE,h2]
  exact this
 | @name j i e c t h1 h2 h3 h4 h5 h6 h7 _ ih =>
  intro hs w hq
  have hbt:Byt [61,c]:=Byt.app (a:=[61]) (b:=[c]) (Byt.one (by decide)) (Byt.one (by omega))
  obtain ⟨k,y,q1,q2,q3,q4⟩:=zeC Y h5
  have hk:=(List.getElem?_eq_some_iff.1 q1).1
  have hty:=hY y (List.mem_of_getElem? q1)
  rw [q3] at hty
  have:=zaR B0 (MQ x B0 PB tg tc nm Y) hQ (.pointer (some ⟨PB,0,none⟩)) (strOfNums [61,c]) (strOfNums t) c x (mnN x.rw E (i+1)) w hq.b0 (by rw [yt hbt];simp) (by rw [yt hbt];simp) (by omega) (by rw [strOfNums_size];simp) hq (fun wz hz=>Jl PB tg Y.length tc nm (strOfNums t) c k wz hns hz.c0 hz.c1 (by omega) hk (by rw [hch k y q1,q2]) (fun i' hi'=>by
   have hg:Y[i']?=some Y[i']:=List.getElem?_eq_getElem (by omega)
   rw [hch i' _ hg]
   exact q4 i' _ hi' hg) (by rw [<- q3];exact hz.tx k y q1)) (fun wz hz=>ih hty wz hz)
  rw [XP h1]
  simp only [mnE,h2]
  rw [h6,yy _ _ h7]
  exact this
 | @ttl j i e y o h1 h2 h3 h4 h5 ho ih =>
  intro hs w hq
  have hbo:=ho.byt
  have hJ:=xi (c:=44) (by decide) h3.pln.byt hbo
  obtain ⟨hc,hz3,hcut⟩:=Q7 (c:=116) (by decide) hJ
  have hsp:=zbh h3.pln ho.nsp hbo
  have hol:o.length<=2000:=by
   have:=Yh (c:=44) [y,o] o (by simp)
   simp only [List.length_append,List.length_singleton] at hs
   omega
  have hd:=h3.digs
  have:=zcg B0 (MQ x B0 PB tg tc nm Y) hQ (.pointer (some ⟨PB,0,none⟩)) (strOfNums ([116]++([40]++joi 44 [y,o]++[41]))) (strOfNums y) (strOfNums o) e.nv x (mnN x.rw E (i+1)) w hq.b0 (by rw [strOfNums_size];exact hs) hc hz3 (by rw [hcut,hsp];rfl) (by rw [hcut,hsp];rfl) hd.1 hd.2.1 hd.2.2 hq (fun wz hz=>ih hol wz hz)
  rw [XP h1]
  simp only [mnE,h2]
  rw [h4,yy _ _ h5]
  exact this
 | @list j i e c l o h1 h2 h3 h4 h5 h6 h7 h8 ho ih =>
  intro hs w hq
  have n:=hn e (List.mem_of_getElem? h1)
  have hpl:=qg h5 h6
  have hbo:=ho.byt
  have hbl:Byt (joi 44 l):=Byt.joi (by decide) _ (fun x h=>(hpl x h).byt)
  have hJ:=xi (c:=124) (by decide) hbl hbo
  obtain ⟨hc,hz3,hcut⟩:=Q7 (c:=c) (by omega) hJ
  have hsp:=zaj (qN l hpl) hbl ho.nsp hbo
  have hsl:spl (strOfNums (joi 44 l)) 44=l.map strOfNums:=YZ (c:=44) (.inl rfl) h4 (fun x h=>Nsp.pln (hpl x h)) hbl
  simp only [List.length_append,List.length_singleton] at hs
  have hol:o.length<=2000:=by have:=Yh (c:=124) [joi 44 l,o] o (by simp);omega
  have hjl:(joi 44 l).length<=2000:=by have:=Yh (c:=124) [joi 44 l,o] (joi 44 l) (by simp);omega
  have hll:l.length<=16:=by have:=n.len;omega
  have hin:∀ w,MQ x B0 PB tg tc nm Y w->Calls Tryz.prog 128 #[.pointer (some ⟨PB,0,none⟩),.string (strOfNums o),x.val] w (ZY B0 w (mnN x.rw E (i+1))):=fun w hq=>ih hol w hq
  have hnum:∀ it∈e.items,0<=it.num/\it.num<=63:=n.num (by omega)
  have hts:(strOfNums ([c]++([40]++joi 124 [joi 44 l,o]++[41]))).size<=2000:=by rw [strOfNums_size];simp only [List.length_append,List.length_singleton];omega
  rw [XP h1]
  rcases h3 with rfl | rfl
  ·have hW:∀ i,itW e i<=1000:=fun i=>by
    cases hg:e.items[i]? with
    | none=>simp [itW,hg]
    | some it=>have:=n.wgt h2 it (List.mem_of_getElem? hg);rw [zcp hg];omega
   have hS:∀ (i:Nat) (it:IM),e.items[i]?=some it->itN e i=it.num/\(itW e i:Int)=it.wv:=fun i it hg=>by
    have:=n.wgt h2 it (List.mem_of_getElem? hg)
    rw [XQ hg,zcp hg]
    exact ⟨rfl,by omega⟩
   obtain ⟨hp1,hp2⟩:=zdA x (S:=itN e) (W:=itW e) (l:=e.items) (fun it hi=>⟨(hnum it hi).1,(hnum it hi).2,(n.wgt h2 it hi).1⟩) hS
   refine zaQ B0 (MQ x B0 PB tg tc nm Y) hQ (.pointer (some ⟨PB,0,none⟩)) _ (strOfNums (joi 44 l)) (strOfNums o) x ((Yq x.rw e.items).getD (-1)) _ w hq.b0 hts hc hz3 (by rw [hcut,hsp];rfl) (by rw [hcut,hsp];rfl) hq (fun wz io ic hcell hio hz=>?_) (fun hK wz hz=>?_) (fun hK=>?_)
   ·have:=zbY x.a x.b x.d x.ao x.po x.al.length x.ac x.pl x.pcp x.do_ x.db x.doff x.dl x.dc x.Dn io (l.map strOfNums) ic (itN e) (itW e) wz (by omega) rd hz.is_ (by simpa using hll) hW (fun i z hzz=>?_) hio
    ·rw [hsl,List.length_map,h5]
     rw [List.length_map,h5,hp1] at this
     exact this
    ·refine ⟨hcell i z (by rw [hsl];exact hzz),?_⟩
     rw [List.getElem?_map] at hzz
     obtain ⟨y,hy,rfl⟩:=Option.map_eq_some_iff.1 hzz
     have hi:=(List.getElem?_eq_some_iff.1 hy).1
     have hg:e.items[i]?=some e.items[i]:=List.getElem?_eq_getElem (by omega)
     have ht:=(h6 i y _ hy hg).2
     rw [if_pos rfl] at ht
     obtain ⟨a,b,rfl,ta,tb⟩:=ht
     have hyl:=Yh (c:=44) l _ (List.mem_of_getElem? hy)
     have hw:=(hS i _ hg).2
     rw [XQ hg]
     have da:=ta.digs
     have db:=tb.digs
     exact ⟨by rw [strOfNums_size];omega,_,_,Jf ta tb,da.1,da.2.1,da.2.2,db.1,db.2.1,by rw [db.2.2];exact hw.symm⟩
   ·cases hq2:Yq x.rw e.items with
    | some k=>rw [hq2] at hK;have:=hp2 k hq2;simp at hK;omega
    | none =>
     simp only [mnE,h2,hq2]
     rw [h7,yy _ _ h8]
     exact hin wz hz
   ·cases hq2:Yq x.rw e.items with
    | none=>rw [hq2] at hK;simp at hK
    | some k=>simp [mnE,h2,hq2]
  ·have hp1:=zcF x (V:=itN e) (l:=e.items) hnum (fun i it hg=>XQ hg)
   refine Js B0 (MQ x B0 PB tg tc nm Y) hQ (.pointer (some ⟨PB,0,none⟩)) _ (strOfNums (joi 44 l)) (strOfNums o) x ((Zl x.rw e.items).getD (-1)) _ w hq.b0 hts hc hz3 (by rw [hcut,hsp];rfl) (by rw [hcut,hsp];rfl) hq (fun wz io ic hcell hio hz=>?_) (fun hK wz hz=>?_) (fun hK=>?_)
   ·have:=zbl x.a x.b x.d x.ao x.po x.al.length x.ac x.pl x.pcp x.do_ x.db x.doff x.dl x.dc x.Dn io (l.map strOfNums) ic (itN e) wz (by omega) hz.is_ (by simp;omega) (fun i z hzz=>?_) hio
    ·rw [hsl,List.length_map,h5]
     rw [List.length_map,h5,hp1] at this
     exact this
    ·refine ⟨hcell i z (by rw [hsl];exact hzz),?_⟩
     rw [List.getElem?_map] at hzz
     obtain ⟨y,hy,rfl⟩:=Option.map_eq_some_iff.1 hzz
     have hi:=(List.getElem?_eq_some_iff.1 hy).1
     have hg:e.items[i]?=some e.items[i]:=List.getElem?_eq_getElem (by omega)
     have ht:=(h6 i y _ hy hg).2
     rw [if_neg (by decide)] at ht
     have hn0:=(hnum _ (List.mem_of_getElem? hg)).1
     rw [XQ hg]
     exact ⟨ht.digs.1,ht.digs.2.1,ht.digs.2.2,hn0⟩
   ·cases hq2:Zl x.rw e.items with
    | some k=>rw [hq2] at hK;have:=zbm (fun it hi=>(hnum it hi).1) hq2;simp at hK;omega
    | none =>
     simp only [mnE,h2,hq2]
     rw [h7,yy _ _ h8]
     exact hin wz hz
   ·cases hq2:Zl x.rw e.items with
    | none=>rw [hq2] at hK;simp at hK
    | some k=>simp [mnE,h2,hq2]
 | @maps j i e c m ks ar an o h1 h2 h3 h4 h5 h6 har h8 h9 ho iha iho =>
  intro hs w hq
  have n:=hn e (List.mem_of_getElem? h1)
  have b:=hb e (List.mem_of_getElem? h1)
  have hm16:m<=16:=by have:=n.len;omega
  have hit:∀ i,i<m->∃ it,e.items[i]?=some it:=fun i hi=>⟨e.items[i]'(by omega),List.getElem?_eq_getElem (by omega)⟩
  have hk:∀ i,i<m->Pln (ks i):=fun i hi=>by obtain ⟨it,hg⟩:=hit i hi;exact (h6 i it hg).1.pln
  have hbo:=ho.byt
  obtain ⟨hbl,hnj,hsl⟩:=zcZ h4 hk (fun i hi=>(har i hi).nsp) (fun i hi=>(har i hi).byt)
  have hjm:∀ i,i<m->(ks i++[58]++ar i).length<=(joi 44 ((List.range m).map (fun i=>ks i++[58]++ar i))).length:=fun i hi=>Yh _ _ (List.mem_map.2 ⟨i,List.mem_range.2 hi,rfl⟩)
  generalize hJe:joi 44 ((List.range m).map (fun i=>ks i++[58]++ar i))=J at *
  have hJ:=xi (c:=124) (by decide) hbl hbo
  obtain ⟨hc,hz3,hcut⟩:=Q7 (c:=c) (by omega) hJ
  have hsp:=zaj hnj hbl ho.nsp hbo
  simp only [List.length_append,List.length_singleton] at hs
  have hol:o.length<=2000:=by have:=Yh (c:=124) [J,o] o (by simp);omega
  have hjl:J.length<=2000:=by have:=Yh (c:=124) [J,o] J (by simp);omega
  have hts:(strOfNums ([c]++([40]++joi 124 [J,o]++[41]))).size<=2000:=by rw [strOfNums_size];simp only [List.length_append,List.length_singleton];omega
  have hal2:∀ i,i<m->(ar i).length<=2000:=fun i hi=>by have:=hjm i hi;simp only [List.length_append] at this;omega
  have hlen:(spl (strOfNums J) 44).length=m:=by rw [hsl];simp
  have hiA:∀ i z,(spl (strOfNums J) 44)[i]?=some z->(spl z 58)[0]?=some (strOfNums (ks i))/\(strOfNums (ks i)).size+1<=z.size/\z.size<=2000:=fun i z hz=>by
   have hi:i<m:=by have:=(List.getElem?_eq_some_iff.1 hz).1;omega
   rw [hsl,List.getElem?_map,List.getElem?_range hi] at hz
   simp at hz
   subst hz
   have h1:=hjm i hi
   have h2:=zbi (hk i hi) (har i hi).nsp (har i hi).byt
   simp only [List.append_assoc,List.singleton_append] at h1 h2
   refine ⟨h2,?_,?_⟩
   ·simp only [strOfNums_size,List.length_append,List.length_cons];omega
   ·rw [strOfNums_size];omega
  rw [XP h1]
  rcases h3 with rfl | rfl
  ·have hbp:∀ i,i<m->bpV (fun i=>strOfNums (ks i)) i=itV e i/\bpL (fun i=>strOfNums (ks i)) i=itL e i:=fun i hi=>by
    obtain ⟨it,hg⟩:=hit i hi
    have ht:=(h6 i it hg).1
    unfold qc at ht
    rw [if_pos rfl] at ht
    have hpf:=ht.pf
    unfold bpV bpL itV itL
    rw [hg]
    exact hpf
   obtain ⟨e1,_,e3⟩:=XA (a:=zV x.a x.b) m hbp
   obtain ⟨hb1,hb2⟩:=M.best_lo (V:=itV e) (L:=itL e) (a:=zV x.a x.b) (n:=m)
   have hbest:∃ k y,j4 (spl (strOfNums J) 44) (fun i=>strOfNums (ks i)) (M.bestTo (itV e) (itL e) (zV x.a x.b) m) (strOfNums o)=strOfNums y/\ZU x.rw e=((k:Nat):Int)/\k<j/\∀ wz,MQ x B0 PB tg tc nm Y wz->Calls Tryz.prog 128 #[.pointer (some ⟨PB,0,none⟩),.string (strOfNums y),x.val] wz (ZY B0 wz (mnN x.rw E (k+1))):=by
    unfold j4 ZU
    have hra:x.rw.addr=zV x.a x.b:=rfl
    rw [hra,h5]
    by_cases hneg:M.bestTo (itV e) (itL e) (zV x.a x.b) m<0
    ·rw [if_pos hneg,if_pos hneg]
     exact ⟨i,o,rfl,h8,h9,fun wz hz=>iho hol wz hz⟩
    ·rw [if_neg hneg,if_neg hneg]
     obtain ⟨k,hk2⟩:∃ k,(M.bestTo (itV e) (itL e) (zV x.a x.b) m).toNat=k:=⟨_,rfl⟩
     have hkm:k<m:=by omega
     obtain ⟨it,hg⟩:=hit k hkm
     obtain ⟨_,ha1,ha2⟩:=h6 k it hg
     rw [hk2,hg,hsl,List.getElem?_map,List.getElem?_range hkm]
     refine ⟨an k,ar k,?_,ha1,ha2,fun wz hz=>iha k hkm (hal2 k hkm) wz hz⟩
     have he:=xl (ks k++[58]) (ar k)
     simp only [Option.map_some]
     rw [show (strOfNums (ks k)).size+1=(ks k++[58]).length from by rw [strOfNums_size];simp,he]
   obtain ⟨k,y,b1,b2,b3,b4⟩:=hbest
   have:=jI B0 (MQ x B0 PB tg tc nm Y) hQ (.pointer (some ⟨PB,0,none⟩)) (strOfNums ([109]++([40]++joi 124 [J,o]++[41]))) (strOfNums J) (strOfNums o) x (fun i=>strOfNums (ks i)) (strOfNums y) (mnN x.rw E (k+1)) w hq.b0 hts hc hz3 (by rw [hcut,hsp];rfl) (by rw [hcut,hsp];rfl) (by omega) hiA (fun i hi=>by
    have hi':i<m:=by omega
    obtain ⟨it,hg⟩:=hit i hi'
    have ht:=(h6 i it hg).1
    unfold qc at ht
    rw [if_pos rfl] at ht
    have hv:=(b.it it (List.mem_of_getElem? hg)).pv
    rw [(hbp i hi').1,(hbp i hi').2]
    unfold itV itL
    rw [hg]
    exact ht.isP hv.1 hv.2) rA r0 r1 hq (by rw [hlen,e1,b1]) b4
   rw [hlen,e3] at this
   simp only [mnE,h2]
   rw [b2,yy _ _ b3,h5]
   exact this
  ·have hbest:∃ k y,brE (spl (strOfNums J) 44) (fun i=>strOfNums (ks i)) x.R (M.bestTo x.V x.L (zV x.a x.b) x.pl) (strOfNums o)=strOfNums y/\xI x.rw e=((k:Nat):Int)/\k<j/\∀ wz,MQ x B0 PB tg tc nm Y wz->Calls Tryz.prog 128 #[.pointer (some ⟨PB,0,none⟩),.string (strOfNums y),x.val] wz (ZY B0 wz (mnN x.rw E (k+1))):=by
    unfold brE xI
    have hra:x.rw.reg=if M.bestTo x.V x.L (zV x.a x.b) x.pl<0 then -1 else x.R (M.bestTo x.V x.L (zV x.a x.b) x.pl).toNat:=rfl
    rw [hra]
    by_cases hneg:M.bestTo x.V x.L (zV x.a x.b) x.pl<0
    ·rw [if_pos hneg,if_pos hneg]
     have hf:e.items.find? (fun x=>x.num==-1)=none:=by
      rw [List.find?_eq_none]
      intro it hi
      have:=n.reg h2 it hi
      simp;omega
     rw [hf]
     exact ⟨i,o,rfl,h8,h9,fun wz hz=>iho hol wz hz⟩
    ·rw [if_neg hneg,if_neg hneg,hsl]
     have hkey:∀ i it,e.items[i]?=some it->Y9 (ks i) it.num:=fun i it hg=>by
      have ht:=(h6 i it hg).1
      unfold qc at ht
      rw [if_neg (by decide)] at ht
      exact ht
     have:=zdv (ks:=ks) (ar:=ar) (o:=o) (r:=x.R (M.bestTo x.V x.L (zV x.a x.b) x.pl).toNat) hkey m 0 (by omega)
     simp only [List.drop_zero,Nat.zero_add] at this
     rcases this with ⟨f1,f2⟩ | ⟨k,it,f1,f2,f3⟩
     ·rw [f1,f2]
      exact ⟨i,o,rfl,h8,h9,fun wz hz=>iho hol wz hz⟩
     ·rw [f2,f3]
      have hkm:k<m:=by have:=(List.getElem?_eq_some_iff.1 f1).1;omega
      obtain ⟨_,ha1,ha2⟩:=h6 k it f1
      exact ⟨an k,ar k,rfl,ha1,ha2,fun wz hz=>iha k hkm (hal2 k hkm) wz hz⟩
   obtain ⟨k,y,b1,b2,b3,b4⟩:=hbest
   have:=jH B0 (MQ x B0 PB tg tc nm Y) hQ (.pointer (some ⟨PB,0,none⟩)) (strOfNums ([103]++([40]++joi 124 [J,o]++[41]))) (strOfNums J) (strOfNums o) x (fun i=>strOfNums (ks i)) (strOfNums y) (mnN x.rw E (k+1)) w hq.b0 hts hc hz3 (by rw [hcut,hsp];rfl) (by rw [hcut,hsp];rfl) (by omega) hiA (fun i hi=>by
    obtain ⟨it,hg⟩:=hit i (by omega)
    have ht:=(h6 i it hg).1
    unfold qc at ht
    rw [if_neg (by decide)] at ht
    exact ⟨ht.digs.1,ht.digs.2.1⟩) (fun w h=>h.ts) rp rP rA r0 r1 hq b1 b4
   simp only [mnE,h2]
   rw [b2,yy _ _ b3]
   exact this
theorem zaO {s:ByteArray} {Y:List (Int×List Int)} (h:Pol s Y):(∀ t∈spl (bare s) 59,2<=t.size)/\ZB (spl (bare s) 59)=Y.map (fun y=>strOfNums y.2)/\Yr (spl (bare s) 59) (spl (bare s) 59).length=strOfNums (Y.map Prod.fst):=by
 refine ⟨fun t ht=>?_,?_,?_⟩
 ·rw [h.sp] at ht
  simp only [List.mem_map] at ht
  obtain ⟨x,⟨y,_,rfl⟩,rfl⟩:=ht
  rw [strOfNums_size];simp [ruT]
 ·rw [h.sp]
  unfold ZB
  rw [List.map_map,List.map_map]
  apply List.map_congr_left
  intro y _
  exact xl [y.1,58] y.2
 ·have hNj:∀ j,j<=Y.length->Yr (spl (bare s) 59) j=strOfNums ((Y.take j).map Prod.fst):=by
   intro j
   induction j with
   | zero=>intro _;rfl
   | succ j ih =>
    intro hj
    have hy:Y[j]?=some Y[j]:=List.getElem?_eq_getElem (by omega)
    have hl:(spl (bare s) 59)[j]?=some (strOfNums (ruT Y[j])):=by rw [h.sp,List.getElem?_map,List.getElem?_map,hy];rfl
    simp only [Yr,hl]
    rw [ih (by omega),Xd,J0,show (Y.take (j+1))=Y.take j++[Y[j]] from by rw [List.take_add_one,hy];rfl,List.map_append]
    rfl
  have hl:(spl (bare s) 59).length=Y.length:=by rw [h.sp];simp
  rw [hl,hNj Y.length (Nat.le_refl _),List.take_length]
theorem zck (PB tg n tc:Nat) (t:ByteArray) (w:World) (hn:0<n) (hn2:n<=2001) (h1:w.cell? ⟨PB,1,none⟩=some (Q (some ⟨tg,0,none⟩) n tc)) (ht:w.cell? ⟨tg,n-1,none⟩=some (.string t)) :
 Calls Tryz.prog 129 #[.pointer (some ⟨PB,0,none⟩)] w fun e w'=>Below w.heap.size w w'/\e=.returned (.string t):=by
 have hn':(1:Int)<=(n:Int):=by omega
 have hn2':(n:Int)<=2001:=by omega
 have ht':w.cell? ⟨tg,((n:Int)-1).toNat,none⟩=some (.string t):=by rw [show ((n:Int)-1).toNat=n-1 from by omega];exact ht
 go_enter Tryz.func129,Tryz.ntmps129
 go_wp2_with fail
 go_quiet (fail)
 go_wp2_with fail
 go_ret
 exact ⟨zB (Below.refl _ _) _,rfl⟩
theorem j5 (s:ByteArray) (x:WD) (w:World) (hc0:(ZG s).1=0) (hx:x.In w) (hr:x.right=true) :
 Calls Tryz.prog 76 #[.string s,x.val] w (ZY w.heap.size w (mnN x.rw (zy s).es (zy s).es.length)):=by
 obtain ⟨Y,hP⟩:=zbZ hc0
 obtain ⟨hs,_⟩:=qL hc0
 obtain ⟨h2,hT,hN⟩:=zaO hP
 have hYl:0<Y.length:=List.length_pos_iff.2 hP.ne
 have hbl:(bare s).size<=2000:=by unfold Go.Proofs.YtaebngpoagjafaaGreat.bare;rw [strOfNums_size];exact Nat.le_trans (qp s s.size) hs
 have hYs:Y.length<=2001/\∀ y∈Y,y.2.length<=2000:=by
  have h1:(spl (bare s) 59).length=Y.length:=by rw [hP.sp];simp
  have h3:=(XJ (bare s) 59 (bare s).size).2.1
  refine ⟨by rw [<- h1];simp only [spl,List.length_append,List.length_cons,List.length_nil];omega,fun y hy=>?_⟩
  have h4:=Yh (c:=59) (Y.map ruT) (ruT y) (List.mem_map.2 ⟨y,hy,rfl⟩)
  have h5:(bare s).size=(joi 59 (Y.map ruT)).length:=by rw [hP.br,strOfNums_size]
  simp only [ruT,List.length_append,List.length_cons,List.length_nil] at h4
  omega
 -- the last rule
 obtain ⟨r,hrl,hrx⟩:=hP.last
 have hri:(zy s).rs[(zy s).rs.length-1]?=some r:=by rw [List.getLast?_eq_getElem?] at hrl;exact hrl
 have hlen:=hP.rx.len
 obtain ⟨y,hy⟩:∃ y,Y[Y.length-1]?=some y:=⟨Y[Y.length-1]'(by omega),List.getElem?_eq_getElem _⟩
 obtain ⟨_,j,hj,_,htx⟩:=hP.rx.at_ _ r y hri (by rw [<- hlen];exact hy)
 have hjj:j+1=(zy s).es.length:=by rw [hrx] at hj;have:=hP.pos;omega
 have hb:Byt (Y.map Prod.fst):=fun c hc=>by
  simp only [List.mem_map] at hc
  obtain ⟨z,hz,rfl⟩:=hc
  have:=hP.let_ z hz
  omega
 have HPOL:=qH s
 have HX:Hid _:=hx
 have hAB:=jc s
 have hNF:=zep hc0
 have HME:Hid (∀ (PB tg tc:Nat) (wz:World),MQ x w.heap.size PB tg tc (strOfNums (Y.map Prod.fst)) Y wz->Calls Tryz.prog 128 #[.pointer (some ⟨PB,0,none⟩),.string (strOfNums y.2),x.val] wz (ZY w.heap.size wz (mnN x.rw (zy s).es (zy s).es.length))):=fun PB tg tc wz hq=>by
  have:=zch hr hx.ndl hx.nal (by rw [strOfNums_size,List.length_map];exact hYs.1) (by rw [strOfNums_size,List.length_map]) (fun i z hz=>by rw [yt hb,List.getElem?_map,hz];rfl) hYs.2 hAB hNF htx (hYs.2 y (List.mem_of_getElem? hy)) wz hq
  rw [hjj] at this
  exact this
 have HLA:Hid (∀ (PB tg tc:Nat) (wz:World),MQ x w.heap.size PB tg tc (strOfNums (Y.map Prod.fst)) Y wz->Calls Tryz.prog 129 #[.pointer (some ⟨PB,0,none⟩)] wz fun e w'=>Below wz.heap.size wz w'/\e=.returned (.string (strOfNums y.2))):=fun PB tg tc wz hq=>zck PB tg Y.length tc (strOfNums y.2) wz hYl hYs.1 hq.c1 (hq.tx _ y hy)
 have HPL:Hid (∀ wz,Below w.heap.size w wz->Calls Tryz.prog 54 #[.string s] wz fun e w'=>Below wz.heap.size wz w'/\∃ PB tg tc,e=.returned (.pointer (some ⟨PB,0,none⟩))/\MQ x w.heap.size PB tg tc (strOfNums (Y.map Prod.fst)) Y w'):=fun wz hbz=>(HPOL wz hs h2).mono (fun e w' ⟨hb1,PB,tv,he,hpp⟩=>by
  have hbw:=hbz.trans (hb1.mono hbz.size)
  have hrow:=hpp.row
  rw [hT] at hrow
  obtain ⟨tg,tc,htv,_,hlt⟩:=hrow.form (by simpa using hYl)
  refine ⟨hb1,PB,tg,tc,he,⟨hbw.size,hx.ts.below hbw,hx.is_.below hbw hx.is_.lt,hx.as_.of_kept (fun b hl=>hbw.block b hl),hpp.lt,hlt,by rw [hpp.c0,hN],by rw [hpp.c1,htv];simp,fun i z hz=>?_⟩⟩
  have hil:=(List.getElem?_eq_some_iff.1 hz).1
  rw [htv] at hrow
  rw [World.ownsRow.cellAt hrow i (by simpa using hil)]
  simp [hz])
 obtain ⟨m,HM⟩:∃ m,Hid (mnN x.rw (zy s).es (zy s).es.length=m):=⟨_,rfl⟩
 rw [HM.out] at HME ⊢
 clear hx hr hc0 hP h2 hT hN hYl hbl hYs hrl hrx hri hlen htx hjj hb HPOL hAB hNF hj hs
 unfold WD.val at HME ⊢
 have HB0:Hid (Below w.heap.size w ((w.alloc (X #[Z O x.a,Z O x.b,Z O x.d,Q x.do_ x.dl x.dc,Q x.ao x.al.length x.ac,Q x.po x.pl x.pcp] 30)).alloc (X #[Q none 0 0,Z O 0,Z O 0] 35))):=((Below.refl _ _).alloc (Nat.le_refl _) _).alloc (by simp) _
 have HW0:Hid (((w.alloc (X #[Z O x.a,Z O x.b,Z O x.d,Q x.do_ x.dl x.dc,Q x.ao x.al.length x.ac,Q x.po x.pl x.pcp] 30)).alloc (X #[Q none 0 0,Z O 0,Z O 0] 35)).heap[w.heap.size]?=some (X #[Z O x.a,Z O x.b,Z O x.d,Q x.do_ x.dl x.dc,Q x.ao x.al.length x.ac,Q x.po x.pl x.pcp] 30 (0,0))):=by show _=_;rw [Below.heap_alloc _ _ _ (by simp)];exact heap_alloc_new w _
 have HR0:Hid (((w.alloc (X #[Z O x.a,Z O x.b,Z O x.d,Q x.do_ x.dl x.dc,Q x.ao x.al.length x.ac,Q x.po x.pl x.pcp] 30)).alloc (X #[Q none 0 0,Z O 0,Z O 0] 35)).heap[w.heap.size+1]?=some (X #[Q none 0 0,Z O 0,Z O 0] 35 (0,0))):=zt _ (by simp)
 go_enter Tryz.func76,Tryz.ntmps76
 go_wp2_with fail
 refine (HPL.out _ HB0.out).mono ?_
 rintro e w1 ⟨hb1,PB,tg,tc,rfl,hmq⟩
 have HB1:Hid _:=HB0.out.trans (hb1.mono HB0.out.size)
 have HW1:Hid _:=(hb1.block _ (lt_of_block HW0.out)).trans HW0.out
 have HR1:Hid _:=(hb1.block _ (lt_of_block HR0.out)).trans HR0.out
 have HMQ:Hid _:=hmq
 have hl1:=lt_of_block HR1.out
 obtain ⟨q0,q1,q2,q3,q4,q5⟩:=ld6 HW1.out rfl
 have HL1:Hid (∀ wz,Below w1.heap.size w1 wz->Calls Tryz.prog 129 #[.pointer (some ⟨PB,0,none⟩)] wz fun e w'=>Below wz.heap.size wz w'/\e=.returned (.string (strOfNums y.2))):=fun wz hb=>HLA.out PB tg tc wz (HMQ.out.below hb)
 have HM1:Hid (∀ wz,Below w1.heap.size w1 wz->Calls Tryz.prog 128 #[.pointer (some ⟨PB,0,none⟩),.string (strOfNums y.2),.agg #[Z O x.a,Z O x.b,Z O x.d,Q x.do_ x.dl x.dc,Q x.ao x.al.length x.ac,Q x.po x.pl x.pcp]] wz (ZY w.heap.size wz m)):=fun wz hb=>HME.out PB tg tc wz (HMQ.out.below hb)
 clear hb1 hmq HB0 HW0 HR0 HPL HLA HME
 go_upto_region 2 with fail
 go_region_held3 (fun w'=>w'.cell? ⟨w.heap.size,0,none⟩=some (Z O x.a)/\w'.cell? ⟨w.heap.size,1,none⟩=some (Z O x.b)/\w'.cell? ⟨w.heap.size,2,none⟩=some (Z O x.d)/\w'.cell? ⟨w.heap.size,3,none⟩=some (Q x.do_ x.dl x.dc)/\w'.cell? ⟨w.heap.size,4,none⟩=some (Q x.ao x.al.length x.ac)/\w'.cell? ⟨w.heap.size,5,none⟩=some (Q x.po x.pl x.pcp)) (first | (exact hS3) | (exact hS2) | (exact ⟨q0,q1,q2,q3,q4,q5⟩) | (exact ⟨zA hneB (zA hneB (zA hneB hS3.1 _ _) _ _) _ _,zA hneB (zA hneB (zA hneB hS3.2.1 _ _) _ _) _ _,zA hneB (zA hneB (zA hneB hS3.2.2.1 _ _) _ _) _ _,zA hneB (zA hneB (zA hneB hS3.2.2.2.1 _ _) _ _) _ _,zA hneB (zA hneB (zA hneB hS3.2.2.2.2.1 _ _) _ _) _ _,zA hneB (zA hneB (zA hneB hS3.2.2.2.2.2 _ _) _ _) _ _⟩) | go_keep) (first | (go_at_call 129;refine (HL1.out _ (by first | exact (Below.refl _ _).drew | exact Below.refl _ _)).mono ?_;rintro e w2 ⟨hb2,rfl⟩;have hd2:Below w1.heap.size w1 w2:=(by first | exact (Below.refl _ _).drew.trans (hb2.mono (Nat.le_refl _)) | exact hb2);have hS2:=ld6 HW1.out (hd2.block _ (lt_of_block HW1.out))) | (go_at_call 128;refine (HM1.out _ (by first | exact hd2 | exact hd2.drew)).mono ?_;rintro e w3 ⟨hb3,o,k,gi,gf,rfl,his,hgg⟩;have hd3:Below w1.heap.size w1 w3:=(by first | exact hd2.trans (hb3.mono hd2.size) | exact hd2.drew.trans (hb3.mono hd2.size));have hS3:=ld6 HW1.out (hd3.block _ (lt_of_block HW1.out));have hneB:w.heap.size+1≠w.heap.size:=(by omega);have hZ3:w3.heap[w.heap.size+1]?=some (X #[Q none 0 0,Z O 0,Z O 0] 35 (0,0)):=(hd3.block _ hl1).trans HR1.out;have HZ3:Hid (w3.heap[w.heap.size+1]?=some (X #[Q none 0 0,Z O 0,Z O 0] 35 (0,0))):=hZ3;obtain ⟨y0,y1,y2,z0,z1,z2⟩:=ld3 hZ3;clear hZ3))
 all_goals
  go_wp2_with fail
  have HBE:=yG (x':=Q o m.sv.length k) (y':=Z O m.ttl) (z':=Z O m.sc) HZ3.out
  have hlw:=HB1.out.size
  refine bodyPost_ret (v:=.agg #[Q o m.sv.length k,Z O m.ttl,Z O m.sc]) (YG Tryz.results76 _ _ _ ⟨w.heap.size+1,0,none⟩ _ rfl (run_loadVar_row _ _ _ _ _ _ _ HBE Tryz.underlying35 rfl (by kernel_rfl))) rfl ⟨(((HB1.out.trans (hd3.mono hlw)).setCell (by simp only;omega) _).setCell (by simp only;omega) _).setCell (by simp only;omega) _,o,k,gi,gf,rfl,⟨his.at_,fun h=>by have:=his.lt h;simpa using this,fun i hi=>?_⟩,fun h=>by omega⟩
  have hgn:gi≠w.heap.size+1:=by
   have h1:=hgg (by omega)
   have h2:=hd2.size
   omega
  rw [World.cell?_of_block (w:=w3) (by rw [za hgn,za hgn,za hgn])]
  exact his.val i hi
end Go.Proofs.YtaebngpoagjafaaGreat
