import Derived.Test.YtaebngpoagjafabGreatU49
set_option maxRecDepth 100000
set_option maxHeartbeats 1600000
namespace Go.Proofs.YtaebngpoagjafabGreat
open Obj renaming cells → X
open Value renaming int → Z, slice → Q
open IntKind renaming i64 → O
open Go.RowKit
attribute [local go_sem ↓] Go.wp_at_zero Go.wp_at_succ
theorem zfl {c:Int} {t:List Int}:∀ (Y:List (Int×List Int)),ruX c Y=some t->∃ (k:Nat) (y:Int×List Int),Y[k]?=some y/\y.1=c/\y.2=t/\∀ (i:Nat) (z:Int×List Int),i<k->Y[i]?=some z->z.1≠c:=by
 intro Y
 induction Y with
 | nil=>intro h;cases h
 | cons y l ih =>
  intro h
  simp only [ruX] at h
  split at h
  ·next hh=>exact ⟨0,y,rfl,hh,by simpa using h,fun i z hi=>by omega⟩
  ·next hh =>
   obtain ⟨k,z,e,d,b,a⟩:=ih h
   refine ⟨k+1,z,by simpa using e,d,b,fun i z' hi hz=>?_⟩
   cases i with
   | zero=>simp at hz;subst hz;exact hh
   | succ i=>exact a i z' (by omega) (by simpa using hz)
structure MQ (x:WD) (B0 PB tg tc:Nat) (nm:ByteArray) (Y:List (Int×List Int)) (w:World):Prop where
 b0:B0<=w.heap.size
 ts:TS w x.po x.pb x.poff x.pl x.V x.L x.R
 is_:IS w x.do_ x.db x.doff x.dl x.Dn
 as_:AS w B0 x.ao x.ab x.aoff x.al
 pl:PB<w.heap.size
 tl:tg<w.heap.size
 c0:w.cell? ⟨PB,0,none⟩=some (.string nm)
 c1:w.cell? ⟨PB,1,none⟩=some (Q (some ⟨tg,0,none⟩) Y.length tc)
 tx:∀ i y,Y[i]?=some y->w.cell? ⟨tg,i,none⟩=some (.string (strOfNums y.2))
theorem MQ.below {x:WD} {B0 PB tg tc:Nat} {nm:ByteArray} {Y:List (Int×List Int)} {w w':World} (h:MQ x B0 PB tg tc nm Y w) (hb:Below w.heap.size w w'):MQ x B0 PB tg tc nm Y w' :=
 ⟨Nat.le_trans h.b0 hb.size,h.ts.below hb,h.is_.below hb h.is_.lt,h.as_.of_kept (fun b hl=>hb.block b (Nat.lt_of_lt_of_le hl h.b0)),Nat.lt_of_lt_of_le h.pl hb.size,Nat.lt_of_lt_of_le h.tl hb.size,(hb.cell h.pl).trans h.c0,(hb.cell h.pl).trans h.c1,fun i y hy=>(hb.cell h.tl).trans (h.tx i y hy)⟩
theorem za2 {x:WD} (h:x.right=true):M.isA x.a=true/\0<=x.b/\x.b<=32/\0<=x.d/\x.pl<=64/\∀ i,i<x.pl->M.isP (x.V i) (x.L i)=true:=by
 unfold WD.right ZU at h
 simp only [Bool.and_eq_true,Zt,decide_eq_true_eq] at h
 obtain ⟨⟨m,l,k,j,_⟩,g⟩:=h
 obtain ⟨f,_,e⟩:=Xh g
 refine ⟨m,l,k,j,f,fun i hi=>?_⟩
 have:x.pl<=64/\M.okTo x.V x.L x.pl=true:=by simpa [M.isMap] using e
 exact (M.okTo_iff.1 this.2 i hi).1
theorem XG {W:RW} {E:List EX} {j:Nat} {e:EX} (h:E[j]?=some e):mnN W E (j+1)=mnE W (mnK W E j) e:=by simp [mnN,h]
def itN (e:EX) (i:Nat):Int:=match e.items[i]? with | some x=>x.num | none=>0
def itW (e:EX) (i:Nat):Nat:=match e.items[i]? with | some x=>x.wv.toNat | none=>0
theorem XI {e:EX} {i:Nat} {x:IM} (h:e.items[i]?=some x):itN e i=x.num:=by unfold itN;rw [h]
theorem zcY {e:EX} {i:Nat} {x:IM} (h:e.items[i]?=some x):itW e i=x.wv.toNat:=by unfold itW;rw [h]
theorem zcP {x:WD} {B0 PB tg tc:Nat} {nm:ByteArray} {Y:List (Int×List Int)} {E:List EX} (hr:x.right=true) (hdl:x.dl<=9223372036854775806) (hal:x.al.length<=9223372036854775807) (hns:nm.size<=2001) (hnm:nm.size=Y.length) (hch:∀ i y,Y[i]?=some y->T.ch nm i=y.1) (hY:∀ y∈Y,y.2.length<=2000) (hb:Zl E) (hn:∀ e∈E,NF e) {t:List Int} {j:Nat} (h:TX E Y t j) :
 t.length<=2000->∀ w,MQ x B0 PB tg tc nm Y w->Calls Tryz.prog 117 #[.pointer (some ⟨PB,0,none⟩),.string (strOfNums t),x.val] w (ZW B0 w (mnN x.rw E (j+1))):=by
 obtain ⟨rA,r0,r1,rd,rp,rP⟩:=za2 hr
 have hQ:∀ w w',MQ x B0 PB tg tc nm Y w->Below w.heap.size w w'->MQ x B0 PB tg tc nm Y w':=fun w w' h hb=>h.below hb
 induction h with
 | @servers j e l G B h3 h4 h5 =>
  intro X w A
  have O:=X9 h4 h5
  have b8:Byt (joi 44 l):=Byt.joi (by decide) _ (fun x h=>(O x h).byt)
  have P:Byt ([123]++joi 44 l++[125]):=((Byt.one (by decide)).app b8).app (Byt.one (by decide))
  have hm:(strOfNums ([123]++joi 44 l++[125])).extract 1 ((strOfNums ([123]++joi 44 l++[125])).size-1)=strOfNums (joi 44 l):=YC [123] (joi 44 l) [125]
  have q:spl (strOfNums (joi 44 l)) 44=l.map strOfNums:=YY (c:=44) (.inl rfl) h3 (fun x h=>Nsp.pln (O x h)) b8
  have:=Q5 B0 (.pointer (some ⟨PB,0,none⟩)) (strOfNums ([123]++joi 44 l++[125])) x (itN e) w A.b0 (by rw [strOfNums_size];exact X) (by rw [yx P];simp) (by rw [strOfNums_size];simp) (fun i y hy=>by
   rw [hm,q,List.getElem?_map] at hy
   obtain ⟨z,p,rfl⟩:=Option.map_eq_some_iff.1 hy
   have s:=(List.getElem?_eq_some_iff.1 p).1
   have g:e.items[i]?=some e.items[i]:=List.getElem?_eq_getElem (by omega)
   have v:=(h5 i z _ p g).2
   rw [if_neg (by decide)] at v
   rw [XI g]
   exact v.digs)
  rw [hm,q,List.length_map,h4,zbj (l:=e.items) (fun i f h=>XI h)] at this
  rw [XG G]
  simp only [mnE,B,if_true]
  exact this
 | @alias j e y G B h3 =>
  intro X w A
  have P:Byt (64::y):=Byt.app (a:=[64]) (Byt.one (by decide)) h3.pln.byt
  have hm:(strOfNums (64::y)).extract 1 (strOfNums (64::y)).size=strOfNums y:=xg [64] y
  have nv:=((hb e (List.mem_of_getElem? G)).nv).1
  have hd:=h3.digs
  have:=JK B0 (.pointer (some ⟨PB,0,none⟩)) (strOfNums (64::y)) x e.nv.toNat w (by rw [strOfNums_size];exact X) (by rw [yx P];simp) (by rw [hm];exact hd.1) (by rw [hm];exact hd.2.1) (by rw [hm,hd.2.2];omega) A.b0 A.as_ hal
  rw [XG G]
  simp only [mnE,B]
  exact this
 | @name j i e c t G B h3 h4 h5 h6 h7 _ ih =>
  intro X w A
  have P:Byt [61,c]:=Byt.app (a:=[61]) (b:=[c]) (Byt.one (by decide)) (Byt.one (by omega))
  obtain ⟨k,y,q1,q2,q3,q4⟩:=zfl Y h5
  have hk:=(List.getElem?_eq_some_iff.1 q1).1
  have a8:=hY y (List.mem_of_getElem? q1)
  rw [q3] at a8
  have:=zbf B0 (MQ x B0 PB tg tc nm Y) hQ (.pointer (some ⟨PB,0,none⟩)) (strOfNums [61,c]) (strOfNums t) c x (mnN x.rw E (i+1)) w A.b0 (by rw [yx P];simp) (by rw [yx P];simp) (by omega) (by rw [strOfNums_size];simp) A (fun wz p=>Jz PB tg Y.length tc nm (strOfNums t) c k wz hns p.c0 p.c1 (by omega) hk (by rw [hch k y q1,q2]) (fun i' a0=>by
   have g:Y[i']?=some Y[i']:=List.getElem?_eq_getElem (by omega)
   rw [hch i' _ g]
   exact q4 i' _ a0 g) (by rw [<- q3];exact p.tx k y q1)) (fun wz p=>ih a8 wz p)
  rw [XG G]
  simp only [mnE,B]
  rw [h6,yu _ _ h7]
  exact this
 | @ttl j i e y o G B h3 h4 h5 ho ih =>
  intro X w A
  have F:=ho.byt
  have hJ:=xd (c:=44) (by decide) h3.pln.byt F
  obtain ⟨hc,H,hcut⟩:=jd (c:=116) (by decide) hJ
  have q:=zbH h3.pln ho.nsp F
  have I:o.length<=2000:=by
   have:=Yh (c:=44) [y,o] o (by simp)
   simp only [List.length_append,List.length_singleton] at X
   omega
  have hd:=h3.digs
  have:=zcO B0 (MQ x B0 PB tg tc nm Y) hQ (.pointer (some ⟨PB,0,none⟩)) (strOfNums ([116]++([40]++joi 44 [y,o]++[41]))) (strOfNums y) (strOfNums o) e.nv x (mnN x.rw E (i+1)) w A.b0 (by rw [strOfNums_size];exact X) hc H (by rw [hcut,q];rfl) (by rw [hcut,q];rfl) hd.1 hd.2.1 hd.2.2 A (fun wz p=>ih I wz p)
  rw [XG G]
  simp only [mnE,B]
  rw [h4,yu _ _ h5]
  exact this
 | @list j i e c l o G B h3 h4 h5 h6 h7 h8 ho ih =>
  intro X w A
  have n:=hn e (List.mem_of_getElem? G)
  have O:=X9 h5 h6
  have F:=ho.byt
  have Q:Byt (joi 44 l):=Byt.joi (by decide) _ (fun x h=>(O x h).byt)
  have hJ:=xd (c:=124) (by decide) Q F
  obtain ⟨hc,H,hcut⟩:=jd (c:=c) (by omega) hJ
  have q:=zaw (qN l O) Q ho.nsp F
  have C:spl (strOfNums (joi 44 l)) 44=l.map strOfNums:=YY (c:=44) (.inl rfl) h4 (fun x h=>Nsp.pln (O x h)) Q
  simp only [List.length_append,List.length_singleton] at X
  have I:o.length<=2000:=by have:=Yh (c:=124) [joi 44 l,o] o (by simp);omega
  have d0:(joi 44 l).length<=2000:=by have:=Yh (c:=124) [joi 44 l,o] (joi 44 l) (by simp);omega
  have c8:l.length<=16:=by have:=n.len;omega
  have b6:∀ w,MQ x B0 PB tg tc nm Y w->Calls Tryz.prog 117 #[.pointer (some ⟨PB,0,none⟩),.string (strOfNums o),x.val] w (ZW B0 w (mnN x.rw E (i+1))):=fun w A=>ih I w A
  have D:∀ f∈e.items,0<=f.num/\f.num<=63:=n.num (by omega)
  have U:(strOfNums ([c]++([40]++joi 124 [joi 44 l,o]++[41]))).size<=2000:=by rw [strOfNums_size];simp only [List.length_append,List.length_singleton];omega
  rw [XG G]
  rcases h3 with rfl | rfl
  ·have hW:∀ i,itW e i<=1000:=fun i=>by
    cases g:e.items[i]? with
    | none=>simp [itW,g]
    | some f=>have:=n.wgt B f (List.mem_of_getElem? g);rw [zcY g];omega
   have hS:∀ (i:Nat) (f:IM),e.items[i]?=some f->itN e i=f.num/\(itW e i:Int)=f.wv:=fun i f g=>by
    have:=n.wgt B f (List.mem_of_getElem? g)
    rw [XI g,zcY g]
    exact ⟨rfl,by omega⟩
   obtain ⟨a4,c5⟩:=zed x (S:=itN e) (W:=itW e) (l:=e.items) (fun f s=>⟨(D f s).1,(D f s).2,(n.wgt B f s).1⟩) hS
   refine zbe B0 (MQ x B0 PB tg tc nm Y) hQ (.pointer (some ⟨PB,0,none⟩)) _ (strOfNums (joi 44 l)) (strOfNums o) x ((Z5 x.rw e.items).getD (-1)) _ w A.b0 U hc H (by rw [hcut,q];rfl) (by rw [hcut,q];rfl) A (fun wz io ic hcell hio p=>?_) (fun hK wz p=>?_) (fun hK=>?_)
   ·have:=zcr x.a x.b x.d x.ao x.po x.al.length x.ac x.pl x.pcp x.do_ x.db x.doff x.dl x.dc x.Dn io (l.map strOfNums) ic (itN e) (itW e) wz (by omega) rd p.is_ (by simpa using c8) hW (fun i z hzz=>?_) hio
    ·rw [C,List.length_map,h5]
     rw [List.length_map,h5,a4] at this
     exact this
    ·refine ⟨hcell i z (by rw [C];exact hzz),?_⟩
     rw [List.getElem?_map] at hzz
     obtain ⟨y,hy,rfl⟩:=Option.map_eq_some_iff.1 hzz
     have s:=(List.getElem?_eq_some_iff.1 hy).1
     have g:e.items[i]?=some e.items[i]:=List.getElem?_eq_getElem (by omega)
     have v:=(h6 i y _ hy g).2
     rw [if_pos rfl] at v
     obtain ⟨a,b,rfl,ta,tb⟩:=v
     have d2:=Yh (c:=44) l _ (List.mem_of_getElem? hy)
     have hw:=(hS i _ g).2
     rw [XI g]
     have da:=ta.digs
     have db:=tb.digs
     exact ⟨by rw [strOfNums_size];omega,_,_,Jt ta tb,da.1,da.2.1,da.2.2,db.1,db.2.1,by rw [db.2.2];exact hw.symm⟩
   ·cases hq2:Z5 x.rw e.items with
    | some k=>rw [hq2] at hK;have:=c5 k hq2;simp at hK;omega
    | none =>
     simp only [mnE,B,hq2]
     rw [h7,yu _ _ h8]
     exact b6 wz p
   ·cases hq2:Z5 x.rw e.items with
    | none=>rw [hq2] at hK;simp at hK
    | some k=>simp [mnE,B,hq2]
  ·have a4:=zdg x (V:=itN e) (l:=e.items) D (fun i f g=>XI g)
   refine JJ B0 (MQ x B0 PB tg tc nm Y) hQ (.pointer (some ⟨PB,0,none⟩)) _ (strOfNums (joi 44 l)) (strOfNums o) x ((yP x.rw e.items).getD (-1)) _ w A.b0 U hc H (by rw [hcut,q];rfl) (by rw [hcut,q];rfl) A (fun wz io ic hcell hio p=>?_) (fun hK wz p=>?_) (fun hK=>?_)
   ·have:=zbL x.a x.b x.d x.ao x.po x.al.length x.ac x.pl x.pcp x.do_ x.db x.doff x.dl x.dc x.Dn io (l.map strOfNums) ic (itN e) wz (by omega) p.is_ (by simp;omega) (fun i z hzz=>?_) hio
    ·rw [C,List.length_map,h5]
     rw [List.length_map,h5,a4] at this
     exact this
    ·refine ⟨hcell i z (by rw [C];exact hzz),?_⟩
     rw [List.getElem?_map] at hzz
     obtain ⟨y,hy,rfl⟩:=Option.map_eq_some_iff.1 hzz
     have s:=(List.getElem?_eq_some_iff.1 hy).1
     have g:e.items[i]?=some e.items[i]:=List.getElem?_eq_getElem (by omega)
     have v:=(h6 i y _ hy g).2
     rw [if_neg (by decide)] at v
     have c7:=(D _ (List.mem_of_getElem? g)).1
     rw [XI g]
     exact ⟨v.digs.1,v.digs.2.1,v.digs.2.2,c7⟩
   ·cases hq2:yP x.rw e.items with
    | some k=>rw [hq2] at hK;have:=zbM (fun f s=>(D f s).1) hq2;simp at hK;omega
    | none =>
     simp only [mnE,B,hq2]
     rw [h7,yu _ _ h8]
     exact b6 wz p
   ·cases hq2:yP x.rw e.items with
    | none=>rw [hq2] at hK;simp at hK
    | some k=>simp [mnE,B,hq2]
 | @maps j i e c m ks ar an o G B h3 h4 h5 h6 har h8 h9 ho iha iho =>
  intro X w A
  have n:=hn e (List.mem_of_getElem? G)
  have b:=hb e (List.mem_of_getElem? G)
  have d1:m<=16:=by have:=n.len;omega
  have Z:∀ i,i<m->∃ f,e.items[i]?=some f:=fun i s=>⟨e.items[i]'(by omega),List.getElem?_eq_getElem (by omega)⟩
  have hk:∀ i,i<m->Pln (ks i):=fun i s=>by obtain ⟨f,g⟩:=Z i s;exact (h6 i f g).1.pln
  have F:=ho.byt
  obtain ⟨Q,c6,C⟩:=zdz h4 hk (fun i s=>(har i s).nsp) (fun i s=>(har i s).byt)
  have b5:∀ i,i<m->(ks i++[58]++ar i).length<=(joi 44 ((List.range m).map (fun i=>ks i++[58]++ar i))).length:=fun i s=>Yh _ _ (List.mem_map.2 ⟨i,List.mem_range.2 s,rfl⟩)
  generalize hJe:joi 44 ((List.range m).map (fun i=>ks i++[58]++ar i))=J at *
  have hJ:=xd (c:=124) (by decide) Q F
  obtain ⟨hc,H,hcut⟩:=jd (c:=c) (by omega) hJ
  have q:=zaw c6 Q ho.nsp F
  simp only [List.length_append,List.length_singleton] at X
  have I:o.length<=2000:=by have:=Yh (c:=124) [J,o] o (by simp);omega
  have d0:J.length<=2000:=by have:=Yh (c:=124) [J,o] J (by simp);omega
  have U:(strOfNums ([c]++([40]++joi 124 [J,o]++[41]))).size<=2000:=by rw [strOfNums_size];simp only [List.length_append,List.length_singleton];omega
  have a2:∀ i,i<m->(ar i).length<=2000:=fun i s=>by have:=b5 i s;simp only [List.length_append] at this;omega
  have a1:(spl (strOfNums J) 44).length=m:=by rw [C];simp
  have b7:∀ i z,(spl (strOfNums J) 44)[i]?=some z->(spl z 58)[0]?=some (strOfNums (ks i))/\(strOfNums (ks i)).size+1<=z.size/\z.size<=2000:=fun i z p=>by
   have s:i<m:=by have:=(List.getElem?_eq_some_iff.1 p).1;omega
   rw [C,List.getElem?_map,List.getElem?_range s] at p
   simp at p
   subst p
   have G:=b5 i s
   have B:=zbI (hk i s) (har i s).nsp (har i s).byt
   simp only [List.append_assoc,List.singleton_append] at G B
   refine ⟨B,?_,?_⟩
   ·simp only [strOfNums_size,List.length_append,List.length_cons];omega
   ·rw [strOfNums_size];omega
  rw [XG G]
  rcases h3 with rfl | rfl
  ·have a5:∀ i,i<m->bpV (fun i=>strOfNums (ks i)) i=itV e i/\bpL (fun i=>strOfNums (ks i)) i=itL e i:=fun i s=>by
    obtain ⟨f,g⟩:=Z i s
    have v:=(h6 i f g).1
    unfold X7 at v
    rw [if_pos rfl] at v
    have b9:=v.pf
    unfold bpV bpL itV itL
    rw [g]
    exact b9
   obtain ⟨e1,_,e3⟩:=Xw (a:=zW x.a x.b) m a5
   obtain ⟨d4,d3⟩:=M.best_lo (V:=itV e) (L:=itL e) (a:=zW x.a x.b) (n:=m)
   have N:∃ k y,Jh (spl (strOfNums J) 44) (fun i=>strOfNums (ks i)) (M.bestTo (itV e) (itL e) (zW x.a x.b) m) (strOfNums o)=strOfNums y/\ZB x.rw e=((k:Nat):Int)/\k<j/\∀ wz,MQ x B0 PB tg tc nm Y wz->Calls Tryz.prog 117 #[.pointer (some ⟨PB,0,none⟩),.string (strOfNums y),x.val] wz (ZW B0 wz (mnN x.rw E (k+1))):=by
    unfold Jh ZB
    have a3:x.rw.addr=zW x.a x.b:=rfl
    rw [a3,h5]
    by_cases u:M.bestTo (itV e) (itL e) (zW x.a x.b) m<0
    ·rw [if_pos u,if_pos u]
     exact ⟨i,o,rfl,h8,h9,fun wz p=>iho I wz p⟩
    ·rw [if_neg u,if_neg u]
     obtain ⟨k,c9⟩:∃ k,(M.bestTo (itV e) (itL e) (zW x.a x.b) m).toNat=k:=⟨_,rfl⟩
     have K:k<m:=by omega
     obtain ⟨f,g⟩:=Z k K
     obtain ⟨_,a7,a6⟩:=h6 k f g
     rw [c9,g,C,List.getElem?_map,List.getElem?_range K]
     refine ⟨an k,ar k,?_,a7,a6,fun wz p=>iha k K (a2 k K) wz p⟩
     have he:=xg (ks k++[58]) (ar k)
     simp only [Option.map_some]
     rw [show (strOfNums (ks k)).size+1=(ks k++[58]).length from by rw [strOfNums_size];simp,he]
   obtain ⟨k,y,b1,b2,b3,b4⟩:=N
   have:=jS B0 (MQ x B0 PB tg tc nm Y) hQ (.pointer (some ⟨PB,0,none⟩)) (strOfNums ([109]++([40]++joi 124 [J,o]++[41]))) (strOfNums J) (strOfNums o) x (fun i=>strOfNums (ks i)) (strOfNums y) (mnN x.rw E (k+1)) w A.b0 U hc H (by rw [hcut,q];rfl) (by rw [hcut,q];rfl) (by omega) b7 (fun i s=>by
    have a0:i<m:=by omega
    obtain ⟨f,g⟩:=Z i a0
    have v:=(h6 i f g).1
    unfold X7 at v
    rw [if_pos rfl] at v
    have hv:=(b.it f (List.mem_of_getElem? g)).pv
    rw [(a5 i a0).1,(a5 i a0).2]
    unfold itV itL
    rw [g]
    exact v.isP hv.1 hv.2) rA r0 r1 A (by rw [a1,e1,b1]) b4
   rw [a1,e3] at this
   simp only [mnE,B]
   rw [b2,yu _ _ b3,h5]
   exact this
  ·have N:∃ k y,brE (spl (strOfNums J) 44) (fun i=>strOfNums (ks i)) x.R (M.bestTo x.V x.L (zW x.a x.b) x.pl) (strOfNums o)=strOfNums y/\YV x.rw e=((k:Nat):Int)/\k<j/\∀ wz,MQ x B0 PB tg tc nm Y wz->Calls Tryz.prog 117 #[.pointer (some ⟨PB,0,none⟩),.string (strOfNums y),x.val] wz (ZW B0 wz (mnN x.rw E (k+1))):=by
    unfold brE YV
    have a3:x.rw.reg=if M.bestTo x.V x.L (zW x.a x.b) x.pl<0 then -1 else x.R (M.bestTo x.V x.L (zW x.a x.b) x.pl).toNat:=rfl
    rw [a3]
    by_cases u:M.bestTo x.V x.L (zW x.a x.b) x.pl<0
    ·rw [if_pos u,if_pos u]
     have hf:e.items.find? (fun x=>x.num==-1)=none:=by
      rw [List.find?_eq_none]
      intro f s
      have:=n.reg B f s
      simp;omega
     rw [hf]
     exact ⟨i,o,rfl,h8,h9,fun wz p=>iho I wz p⟩
    ·rw [if_neg u,if_neg u,C]
     have a9:∀ i f,e.items[i]?=some f->Y7 (ks i) f.num:=fun i f g=>by
      have v:=(h6 i f g).1
      unfold X7 at v
      rw [if_neg (by decide)] at v
      exact v
     have:=zd8 (ks:=ks) (ar:=ar) (o:=o) (r:=x.R (M.bestTo x.V x.L (zW x.a x.b) x.pl).toNat) a9 m 0 (by omega)
     simp only [List.drop_zero,Nat.zero_add] at this
     rcases this with ⟨f1,f2⟩ | ⟨k,f,f1,f2,f3⟩
     ·rw [f1,f2]
      exact ⟨i,o,rfl,h8,h9,fun wz p=>iho I wz p⟩
     ·rw [f2,f3]
      have K:k<m:=by have:=(List.getElem?_eq_some_iff.1 f1).1;omega
      obtain ⟨_,a7,a6⟩:=h6 k f f1
      exact ⟨an k,ar k,rfl,a7,a6,fun wz p=>iha k K (a2 k K) wz p⟩
   obtain ⟨k,y,b1,b2,b3,b4⟩:=N
   have:=jR B0 (MQ x B0 PB tg tc nm Y) hQ (.pointer (some ⟨PB,0,none⟩)) (strOfNums ([103]++([40]++joi 124 [J,o]++[41]))) (strOfNums J) (strOfNums o) x (fun i=>strOfNums (ks i)) (strOfNums y) (mnN x.rw E (k+1)) w A.b0 U hc H (by rw [hcut,q];rfl) (by rw [hcut,q];rfl) (by omega) b7 (fun i s=>by
    obtain ⟨f,g⟩:=Z i (by omega)
    have v:=(h6 i f g).1
    unfold X7 at v
    rw [if_neg (by decide)] at v
    exact ⟨v.digs.1,v.digs.2.1⟩) (fun w h=>h.ts) rp rP rA r0 r1 A b1 b4
   simp only [mnE,B]
   rw [b2,yu _ _ b3]
   exact this
theorem zbb {s:ByteArray} {Y:List (Int×List Int)} (h:Pol s Y):(∀ t∈spl (bare s) 59,2<=t.size)/\ZD (spl (bare s) 59)=Y.map (fun y=>strOfNums y.2)/\Yp (spl (bare s) 59) (spl (bare s) 59).length=strOfNums (Y.map Prod.fst):=by
 refine ⟨fun t ht=>?_,?_,?_⟩
 ·rw [h.sp] at ht
  simp only [List.mem_map] at ht
  obtain ⟨x,⟨y,_,rfl⟩,rfl⟩:=ht
  rw [strOfNums_size];simp [ruT]
 ·rw [h.sp]
  unfold ZD
  rw [List.map_map,List.map_map]
  apply List.map_congr_left
  intro y _
  exact xg [y.1,58] y.2
 ·have b:∀ j,j<=Y.length->Yp (spl (bare s) 59) j=strOfNums ((Y.take j).map Prod.fst):=by
   intro j
   induction j with
   | zero=>intro _;rfl
   | succ j ih =>
    intro e
    have d:Y[j]?=some Y[j]:=List.getElem?_eq_getElem (by omega)
    have a:(spl (bare s) 59)[j]?=some (strOfNums (ruT Y[j])):=by rw [h.sp,List.getElem?_map,List.getElem?_map,d];rfl
    simp only [Yp,a]
    rw [ih (by omega),x8,zac,show (Y.take (j+1))=Y.take j++[Y[j]] from by rw [List.take_add_one,d];rfl,List.map_append]
    rfl
  have a:(spl (bare s) 59).length=Y.length:=by rw [h.sp];simp
  rw [a,b Y.length (Nat.le_refl _),List.take_length]
theorem zcT (PB tg n tc:Nat) (t:ByteArray) (w:World) (hn:0<n) (hn2:n<=2001) (h1:w.cell? ⟨PB,1,none⟩=some (Q (some ⟨tg,0,none⟩) n tc)) (ht:w.cell? ⟨tg,n-1,none⟩=some (.string t)) :
 Calls Tryz.prog 118 #[.pointer (some ⟨PB,0,none⟩)] w fun e w'=>Below w.heap.size w w'/\e=.returned (.string t):=by
 have d:(1:Int)<=(n:Int):=by omega
 have a:(n:Int)<=2001:=by omega
 have b:w.cell? ⟨tg,((n:Int)-1).toNat,none⟩=some (.string t):=by rw [show ((n:Int)-1).toNat=n-1 from by omega];exact ht
 go_enter Tryz.func118,Tryz.ntmps118
 go_wp2_with fail
 go_quiet (fail)
 go_wp2_with fail
 go_ret
 exact ⟨zL (Below.refl _ _) _,rfl⟩
theorem Ji (s:ByteArray) (x:WD) (w0 w:World) (hc0:(yQ s).1=0) (hx:x.In w0) (hw0:Below w0.heap.size w0 w) (hr:x.right=true) :
 Calls Tryz.prog 72 #[.string s,x.val] w (ZW w0.heap.size w (mnN x.rw (zA s).es (zA s).es.length)):=by
 have b5:=hw0.size
 obtain ⟨Y,C⟩:=zcs hc0
 obtain ⟨hs,_⟩:=qL hc0
 obtain ⟨h2,hT,hN⟩:=zbb C
 have S:0<Y.length:=List.length_pos_iff.2 C.ne
 have c5:(bare s).size<=2000:=by unfold Go.Proofs.YtaebngpoagjafabGreat.bare;rw [strOfNums_size];exact Nat.le_trans (qk s s.size) hs
 have A:Y.length<=2001/\∀ y∈Y,y.2.length<=2000:=by
  have I:(spl (bare s) 59).length=Y.length:=by rw [C.sp];simp
  have h3:=(XC (bare s) 59 (bare s).size).2.1
  refine ⟨by rw [<- I];simp only [spl,List.length_append,List.length_cons,List.length_nil];omega,fun y hy=>?_⟩
  have h4:=Yh (c:=59) (Y.map ruT) (ruT y) (List.mem_map.2 ⟨y,hy,rfl⟩)
  have h5:(bare s).size=(joi 59 (Y.map ruT)).length:=by rw [C.br,strOfNums_size]
  simp only [ruT,List.length_append,List.length_cons,List.length_nil] at h4
  omega
 -- the last rule
 obtain ⟨r,K,a2⟩:=C.last
 have a3:(zA s).rs[(zA s).rs.length-1]?=some r:=by rw [List.getLast?_eq_getElem?] at K;exact K
 have H:=C.rx.len
 obtain ⟨y,hy⟩:∃ y,Y[Y.length-1]?=some y:=⟨Y[Y.length-1]'(by omega),List.getElem?_eq_getElem _⟩
 obtain ⟨_,j,hj,_,a0⟩:=C.rx.at_ _ r y a3 (by rw [<- H];exact hy)
 have a5:j+1=(zA s).es.length:=by rw [a2] at hj;have:=C.pos;omega
 have hb:Byt (Y.map Prod.fst):=fun c hc=>by
  simp only [List.mem_map] at hc
  obtain ⟨z,hz,rfl⟩:=hc
  have:=C.let_ z hz
  omega
 have J:=qH s
 have HX:Hid _:=hx
 have b0:=jj s
 have a9:=ze7 hc0
 have E:Hid (∀ (l u tc:Nat) (wz:World),MQ x w0.heap.size l u tc (strOfNums (Y.map Prod.fst)) Y wz->Calls Tryz.prog 117 #[.pointer (some ⟨l,0,none⟩),.string (strOfNums y.2),x.val] wz (ZW w0.heap.size wz (mnN x.rw (zA s).es (zA s).es.length))):=fun l u tc wz hq=>by
  have:=zcP hr hx.ndl hx.nal (by rw [strOfNums_size,List.length_map];exact A.1) (by rw [strOfNums_size,List.length_map]) (fun i z hz=>by rw [yx hb,List.getElem?_map,hz];rfl) A.2 b0 a9 a0 (A.2 y (List.mem_of_getElem? hy)) wz hq
  rw [a5] at this
  exact this
 have b4:Hid (∀ (l u tc:Nat) (wz:World),MQ x w0.heap.size l u tc (strOfNums (Y.map Prod.fst)) Y wz->Calls Tryz.prog 118 #[.pointer (some ⟨l,0,none⟩)] wz fun e w'=>Below wz.heap.size wz w'/\e=.returned (.string (strOfNums y.2))):=fun l u tc wz hq=>zcT l u Y.length tc (strOfNums y.2) wz S A.1 hq.c1 (hq.tx _ y hy)
 have b2:Hid (∀ wz,Below w.heap.size w wz->Calls Tryz.prog 53 #[.string s] wz fun e w'=>Below wz.heap.size wz w'/\∃ l u tc,e=.returned (.pointer (some ⟨l,0,none⟩))/\MQ x w0.heap.size l u tc (strOfNums (Y.map Prod.fst)) Y w'):=fun wz hbz=>(J wz hs h2).mono (fun e w' ⟨n,l,tv,he,hpp⟩=>by
  have D:=hw0.trans ((hbz.trans (n.mono hbz.size)).mono b5)
  have q:=hpp.row
  rw [hT] at q
  obtain ⟨u,tc,a1,_,b7⟩:=q.form (by simpa using S)
  refine ⟨n,l,u,tc,he,⟨D.size,hx.ts.below D,hx.is_.below D hx.is_.lt,hx.as_.of_kept (fun b hl=>D.block b hl),hpp.lt,b7,by rw [hpp.c0,hN],by rw [hpp.c1,a1];simp,fun i z hz=>?_⟩⟩
  have b9:=(List.getElem?_eq_some_iff.1 hz).1
  rw [a1] at q
  rw [World.ownsRow.cellAt q i (by simpa using b9)]
  simp [hz])
 obtain ⟨m,HM⟩:∃ m,Hid (mnN x.rw (zA s).es (zA s).es.length=m):=⟨_,rfl⟩
 rw [HM.out] at E ⊢
 clear hx hr hc0 C h2 hT hN S c5 A K a2 a3 H a0 a5 hb J b0 a9 hj hs
 unfold WD.val at E ⊢
 have F:Hid (Below w.heap.size w ((w.alloc (X #[Z O x.a,Z O x.b,Z O x.d,Q x.do_ x.dl x.dc,Q x.ao x.al.length x.ac,Q x.po x.pl x.pcp] 31)).alloc (X #[Q none 0 0,Z O 0,Z O 0] 42))):=((Below.refl _ _).alloc (Nat.le_refl _) _).alloc (by simp) _
 have U:Hid (((w.alloc (X #[Z O x.a,Z O x.b,Z O x.d,Q x.do_ x.dl x.dc,Q x.ao x.al.length x.ac,Q x.po x.pl x.pcp] 31)).alloc (X #[Q none 0 0,Z O 0,Z O 0] 42)).heap[w.heap.size]?=some (X #[Z O x.a,Z O x.b,Z O x.d,Q x.do_ x.dl x.dc,Q x.ao x.al.length x.ac,Q x.po x.pl x.pcp] 31 (0,0))):=by show _=_;rw [Below.heap_alloc _ _ _ (by simp)];exact heap_alloc_new w _
 have V:Hid (((w.alloc (X #[Z O x.a,Z O x.b,Z O x.d,Q x.do_ x.dl x.dc,Q x.ao x.al.length x.ac,Q x.po x.pl x.pcp] 31)).alloc (X #[Q none 0 0,Z O 0,Z O 0] 42)).heap[w.heap.size+1]?=some (X #[Q none 0 0,Z O 0,Z O 0] 42 (0,0))):=zu _ (by simp)
 go_enter Tryz.func72,Tryz.ntmps72
 go_wp2_with fail
 refine (b2.out _ F.out).mono ?_
 rintro e G ⟨n,l,u,tc,rfl,a4⟩
 have W:Hid _:=F.out.trans (n.mono F.out.size)
 have B:Hid _:=(n.block _ (lt_of_block U.out)).trans U.out
 have b1:Hid _:=(n.block _ (lt_of_block V.out)).trans V.out
 have b3:Hid _:=a4
 have b8:=lt_of_block b1.out
 obtain ⟨q0,q1,q2,q3,q4,q5⟩:=ld6 B.out rfl
 have c9:Hid (∀ wz,Below G.heap.size G wz->Calls Tryz.prog 118 #[.pointer (some ⟨l,0,none⟩)] wz fun e w'=>Below wz.heap.size wz w'/\e=.returned (.string (strOfNums y.2))):=fun wz hb=>b4.out l u tc wz (b3.out.below hb)
 have c8:Hid (∀ wz,Below G.heap.size G wz->Calls Tryz.prog 117 #[.pointer (some ⟨l,0,none⟩),.string (strOfNums y.2),.agg #[Z O x.a,Z O x.b,Z O x.d,Q x.do_ x.dl x.dc,Q x.ao x.al.length x.ac,Q x.po x.pl x.pcp]] wz (ZW w0.heap.size wz m)):=fun wz hb=>E.out l u tc wz (b3.out.below hb)
 clear n a4 F U V b2 b4 E
 go_upto_region 2 with fail
 go_region_held3 (fun w'=>w'.cell? ⟨w.heap.size,0,none⟩=some (Z O x.a)/\w'.cell? ⟨w.heap.size,1,none⟩=some (Z O x.b)/\w'.cell? ⟨w.heap.size,2,none⟩=some (Z O x.d)/\w'.cell? ⟨w.heap.size,3,none⟩=some (Q x.do_ x.dl x.dc)/\w'.cell? ⟨w.heap.size,4,none⟩=some (Q x.ao x.al.length x.ac)/\w'.cell? ⟨w.heap.size,5,none⟩=some (Q x.po x.pl x.pcp)) (first | (exact p) | (exact c6) | (exact ⟨q0,q1,q2,q3,q4,q5⟩) | (exact ⟨zt f (zt f (zt f p.1 _ _) _ _) _ _,zt f (zt f (zt f p.2.1 _ _) _ _) _ _,zt f (zt f (zt f p.2.2.1 _ _) _ _) _ _,zt f (zt f (zt f p.2.2.2.1 _ _) _ _) _ _,zt f (zt f (zt f p.2.2.2.2.1 _ _) _ _) _ _,zt f (zt f (zt f p.2.2.2.2.2 _ _) _ _) _ _⟩) | go_keep) (first | (go_at_call 118;refine (c9.out _ (by first | exact (Below.refl _ _).drew | exact Below.refl _ _)).mono ?_;rintro e w2 ⟨a8,rfl⟩;have g:Below G.heap.size G w2:=(by first | exact (Below.refl _ _).drew.trans (a8.mono (Nat.le_refl _)) | exact a8);have c6:=ld6 B.out (g.block _ (lt_of_block B.out))) | (go_at_call 117;refine (c8.out _ (by first | exact g | exact g.drew)).mono ?_;rintro e w3 ⟨a7,o,k,gi,gf,rfl,L,a6⟩;have P:Below G.heap.size G w3:=(by first | exact g.trans (a7.mono g.size) | exact g.drew.trans (a7.mono g.size));have p:=ld6 B.out (P.block _ (lt_of_block B.out));have f:w.heap.size+1≠w.heap.size:=(by omega);have R:w3.heap[w.heap.size+1]?=some (X #[Q none 0 0,Z O 0,Z O 0] 42 (0,0)):=(P.block _ b8).trans b1.out;have c7:Hid (w3.heap[w.heap.size+1]?=some (X #[Q none 0 0,Z O 0,Z O 0] 42 (0,0))):=R;obtain ⟨y0,y1,y2,z0,z1,z2⟩:=ld3 R;clear R))
 all_goals
  go_wp2_with fail
  have d0:=yE (x':=Q o m.sv.length k) (y':=Z O m.ttl) (z':=Z O m.sc) c7.out
  have b6:=W.out.size
  refine bodyPost_ret (v:=.agg #[Q o m.sv.length k,Z O m.ttl,Z O m.sc]) (YE Tryz.results72 _ _ _ ⟨w.heap.size+1,0,none⟩ _ rfl (run_loadVar_row _ _ _ _ _ _ _ d0 Tryz.underlying42 rfl (by kernel_rfl))) rfl ⟨(((W.out.trans (P.mono b6)).setCell (by simp only;omega) _).setCell (by simp only;omega) _).setCell (by simp only;omega) _,o,k,gi,gf,rfl,⟨L.at_,fun h=>by have:=L.lt h;simpa using this,fun i hi=>?_⟩,fun h=>by have I:=a6 h;have h2:=g.size;have h4:=W.out.size;first | omega | (rcases I with I | I;exact .inl I;exact .inr (Nat.le_trans (Nat.le_trans h4 h2) I))⟩
  have N:gi≠w.heap.size+1:=by
   have I:=a6 (by omega)
   have h2:=g.size
   omega
  rw [World.cell?_of_block (w:=w3) (by rw [za N,za N,za N])]
  exact L.val i hi
end Go.Proofs.YtaebngpoagjafabGreat
