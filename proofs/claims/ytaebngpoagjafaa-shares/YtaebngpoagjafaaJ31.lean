import Derived.Test.YtaebngpoagjafaaJ24
import Derived.Test.YtaebngpoagjafaaJ30
set_option maxRecDepth 100000
set_option maxHeartbeats 2400000
namespace Go.Proofs.Ytaebngpoagjafaa
open Value renaming int → J, slice → O
open IntKind renaming i64 → Z
open Go.RowKit
attribute [local go_sem ↓] Go.wp_at_zero Go.wp_at_succ
def dwL (l:List MB):List Int:=(l.filter MB.dn).map (fun m=>(m.s:Int))
theorem zab:∀ {l:List MB},(l.map MB.s).Nodup->∀ {y m:MB},y∈l->m∈l->y.s=m.s->y=m:=by
 intro l
 induction l with
 | nil=>intro _ y m h;cases h
 | cons z l ih =>
  intro h y m hy hm e
  rw [List.map_cons,List.nodup_cons] at h
  rcases List.mem_cons.1 hy with rfl | hy1
  ·rcases List.mem_cons.1 hm with rfl | hm
   ·rfl
   ·exact absurd (by rw [e];exact List.mem_map_of_mem hm) h.1
  ·have hy':=hy1
   rcases List.mem_cons.1 hm with rfl | hm
   ·exact absurd (by rw [<- e];exact List.mem_map_of_mem hy') h.1
   ·exact ih h.2 hy' hm e
theorem Qz {D:Nat->Int} {s:Int}:∀ {n:Nat},YK D s n=true↔∀ i,i<n->D i≠s:=by
 intro n
 induction n with
 | zero=>simp [YK]
 | succ n ih =>
  simp only [YK,Bool.and_eq_true,ih,Bool.not_eq_true',beq_eq_false_iff_ne]
  constructor
  ·intro h i hi
   by_cases e:i=n
   ·subst e;exact h.2
   ·exact h.1 i (by omega)
  ·exact fun h=>⟨fun i hi=>h i (by omega),h n (by omega)⟩
structure PfW (x:WD) (l:List MB) (d:Int):Prop where
 a:x.a=0
 b:x.b=0
 d:x.d=d
 pl:x.pl=0
 dl:x.dl=(dwL l).length
 dn:∀ i,i<(dwL l).length->x.Dn i=((dwL l)[i]?).getD 0
theorem PfW.right {x:WD} {l:List MB} {d:Int} (h:PfW x l d) (d0:0<=d) (d1:d<4294967296):x.right=true:=by
 unfold WD.right Zn Yx Z1
 rw [h.a,h.b,h.d,h.pl]
 simp [M.isA,Zx,M.isMap,M.okTo,d0,d1]
theorem PfW.up {x:WD} {l:List MB} {d:Int} (h:PfW x l d) (hl:Xf l) {m:MB} (hm:m∈l):upW x.rw (m.s:Int)=!m.dn:=by
 have hs:=hl.sv m hm
 have key:YK x.Dn (m.s:Int) x.dl=!m.dn:=by
  have e1:YK x.Dn (m.s:Int) x.dl=true↔∀ i,i<x.dl->x.Dn i≠(m.s:Int):=Qz
  have e2:(∀ i,i<x.dl->x.Dn i≠(m.s:Int))↔m.dn=false:=by
   rw [h.dl]
   constructor
   ·intro hh
    cases hd:m.dn with
    | false=>rfl
    | true =>
     exfalso
     have:(m.s:Int)∈dwL l:=List.mem_map_of_mem (List.mem_filter.2 ⟨hm,hd⟩)
     obtain ⟨i,hi⟩:=List.getElem?_of_mem this
     have hil:=(List.getElem?_eq_some_iff.1 hi).1
     exact hh i hil (by rw [h.dn i hil,hi];rfl)
   ·intro hd i hi e
    rw [h.dn i hi,List.getElem?_eq_getElem hi] at e
    simp only [Option.getD_some] at e
    have hmem:(dwL l)[i]∈dwL l:=List.getElem_mem hi
    rw [e] at hmem
    obtain ⟨y,hy,hys⟩:=List.mem_map.1 hmem
    obtain ⟨hy1,hy2⟩:=List.mem_filter.1 hy
    have:y=m:=zab hl.one hy1 hm (by omega)
    rw [this] at hy2
    rw [hd] at hy2
    cases hy2
  cases hd:m.dn with
  | false=>exact e1.2 (e2.2 hd)
  | true =>
   cases hu:YK x.Dn (m.s:Int) x.dl with
   | false=>rfl
   | true=>rw [e2.1 (e1.1 hu)] at hd;cases hd
 unfold upW WD.rw QH XL
 simp only
 rw [Int.toNat_natCast,key,decide_eq_true (by omega),decide_eq_true (by omega)]
 simp
def fsV (l:List MB):Int:=match l.find? (fun m=>!m.dn) with | some m=>(m.s:Int) | none=>63
theorem IMl.find {W:RW} {c:Int}:∀ {l:List MB} {ims:List IM},IMl c l ims->(∀ m∈l,upW W (m.s:Int)=!m.dn)->ZE W ims=(l.find? (fun m=>!m.dn)).map (fun m=>(m.s:Int)):=by
 intro l
 induction l with
 | nil =>
  intro ims h _
  have:ims=[]:=List.eq_nil_of_length_eq_zero (by simpa using h.1)
  subst this;rfl
 | cons y l ih =>
  intro ims h hu
  cases ims with
  | nil=>have:=h.1;simp at this
  | cons x ims =>
   have hx:=h.2 0 x y rfl rfl
   have ht:IMl c l ims:=⟨by have:=h.1;simpa using this,fun i a b ha hb=>h.2 (i+1) a b (by simpa using ha) (by simpa using hb)⟩
   have h1:=ih ht (fun m hm=>hu m (by simp [hm]))
   unfold ZE at h1 ⊢
   simp only [List.find?_cons]
   rw [hx.1,hu y (by simp)]
   cases y.dn with
   | false=>simp [hx.1]
   | true=>simpa using h1
def upL (l:List MB):List (Int×Int):=(l.filter (fun m=>!m.dn)).map (fun m=>((m.s:Int),(m.v:Int)))
theorem IMl.mbl {W:RW}:∀ {l:List MB} {ims:List IM},IMl 119 l ims->(∀ m∈l,upW W (m.s:Int)=!m.dn)->mbL W ims=upL l:=by
 intro l
 induction l with
 | nil =>
  intro ims h _
  have:ims=[]:=List.eq_nil_of_length_eq_zero (by simpa using h.1)
  subst this;rfl
 | cons y l ih =>
  intro ims h hu
  cases ims with
  | nil=>have:=h.1;simp at this
  | cons x ims =>
   have hx:=h.2 0 x y rfl rfl
   have ht:IMl 119 l ims:=⟨by have:=h.1;simpa using this,fun i a b ha hb=>h.2 (i+1) a b (by simpa using ha) (by simpa using hb)⟩
   have h1:=ih ht (fun m hm=>hu m (by simp [hm]))
   unfold mbL upL at h1 ⊢
   simp only [List.filter_cons]
   rw [hx.1,hu y (by simp)]
   cases y.dn with
   | false =>
    simp only [Bool.not_false,if_true,List.map_cons]
    rw [h1,hx.1,hx.2.2.2.2 rfl]
   | true =>
    simp only [Bool.not_true,Bool.false_eq_true,if_false]
    exact h1
def plV (l:List MB) (d:Int):Int:=if suL (upL l)<=0 then 63 else (pkL (upL l) (d%suL (upL l))).getD 63
theorem PfA.mn {W:RW} {c:Int} {l:List MB} {E:List EX} {ims i0:List IM} {e0 e1:EX} (P:PfA c l E ims i0 e0 e1):mnN W E E.length=mnE W [⟨[63],86400,0⟩] e1:=by
 have h0:mnE W [] e0=⟨[63],86400,0⟩:=by
  unfold mnE
  rw [if_pos P.k0,P.t0]
  have h6:=P.i6.1
  simp only [List.length_cons,List.length_nil] at h6
  obtain ⟨x0,hx0⟩:=List.length_eq_one_iff.1 h6
  have:=(P.i6.2 0 x0 ⟨63,1,false⟩ (by rw [hx0];rfl) rfl).1
  rw [hx0]
  simp [this]
 rw [P.es]
 simp only [List.length_cons,List.length_nil,Nat.zero_add,mnN,mnK,List.getElem?_cons_succ,List.getElem?_cons_zero,List.nil_append]
 rw [h0]
theorem zaC {x:WD} {l:List MB} {d:Int} (hl:Xf l) (h:PfW x l d):x.an (pfT 102 l)=([fsV l],86400,0):=by
 obtain ⟨E,ims,i0,e0,e1,r,hA,P⟩:=X7 (c:=102) (.inr rfl) hl.ne (fun m hm=>by have:=hl.sv m hm;have:=hl.wt m hm;omega)
 have hm:x.mn (pfT 102 l)=⟨[fsV l],86400,0⟩:=by
  unfold WD.mn
  rw [hA]
  simp only
  rw [P.mn]
  unfold mnE
  rw [P.k1,P.t1,P.n1]
  simp only [show ¬ ((102:Int)=123) by decide,show ¬ ((102:Int)=64) by decide,show ¬ ((102:Int)=61) by decide,show ¬ ((102:Int)=116) by decide,show ¬ ((102:Int)=119) by decide,if_false,if_true]
  rw [P.il.find (fun m hm=>h.up hl hm)]
  unfold fsV
  cases l.find? (fun m=>!m.dn) with
  | none=>rfl
  | some m=>rfl
 unfold WD.an
 rw [hm]
 rfl
theorem j4 {x:WD} {l:List MB} {d:Int} (hl:Xf l) (h:PfW x l d):x.an (pfT 119 l)=([plV l d],86400,0):=by
 obtain ⟨E,ims,i0,e0,e1,r,hA,P⟩:=X7 (c:=119) (.inl rfl) hl.ne (fun m hm=>by have:=hl.sv m hm;have:=hl.wt m hm;omega)
 have hm:x.mn (pfT 119 l)=⟨[plV l d],86400,0⟩:=by
  unfold WD.mn
  rw [hA]
  simp only
  rw [P.mn]
  unfold mnE
  rw [P.k1,P.t1,P.n1]
  simp only [show ¬ ((119:Int)=123) by decide,show ¬ ((119:Int)=64) by decide,show ¬ ((119:Int)=61) by decide,show ¬ ((119:Int)=116) by decide,if_false,if_true]
  unfold xt
  have hdr:x.rw.draw=d:=h.d
  rw [P.il.mbl (fun m hm=>h.up hl hm),hdr]
  unfold plV
  by_cases hz:suL (upL l)<=0
  ·rw [if_pos hz,if_pos hz];rfl
  ·rw [if_neg hz,if_neg hz]
   cases pkL (upL l) (d%suL (upL l)) with
   | none=>rfl
   | some v=>rfl
 unfold WD.an
 rw [hm]
 rfl
structure MR (w:World) (g:Nat) (l:List MB):Prop where
 lt:g<w.heap.size
 val:∀ i m,l[i]?=some m->w.cell? ⟨g,i*3,none⟩=some (J Z m.s)/\w.cell? ⟨g,i*3+1,none⟩=some (J Z m.v)/\w.cell? ⟨g,i*3+2,none⟩=some (.bool m.dn)
theorem MR.below {w w':World} {g:Nat} {l:List MB} (h:MR w g l) (hb:Below w.heap.size w w'):MR w' g l :=
 ⟨Nat.lt_of_lt_of_le h.lt hb.size,fun i m hm=>by
  rw [hb.cell (p:=⟨g,i*3,none⟩) h.lt,hb.cell (p:=⟨g,i*3+1,none⟩) h.lt,hb.cell (p:=⟨g,i*3+2,none⟩) h.lt]
  exact h.val i m hm⟩
theorem zaA {w:World} {base g k:Nat} {l:List MB} (hl:l≠[]) (h:w.ownsRow base 41 3 (O (some ⟨g,0,none⟩) l.length k) l.length (mmC l)):MR w g l:=by
 have h0:0<l.length:=List.length_pos_iff.2 hl
 refine ⟨?_,fun i m hm=>?_⟩
 ·exact (h.lt g rfl).2
 ·have hi:=(List.getElem?_eq_some_iff.1 hm).1
  obtain ⟨e1,e2,e3⟩:=Q0 hm
  exact ⟨by rw [World.ownsRow.cellAt h (i*3) (by omega),e1],by rw [World.ownsRow.cellAt h (i*3+1) (by omega),e2],by rw [World.ownsRow.cellAt h (i*3+2) (by omega),e3]⟩
theorem jf {l:List MB} {j:Nat} {m:MB} (h:l[j]?=some m):dwL (l.take (j+1))=dwL (l.take j)++(if m.dn=true then [(m.s:Int)] else []):=by
 unfold dwL
 rw [List.take_add_one,h]
 simp only [Option.toList,List.filter_append,List.map_append]
 congr 1
 cases hd:m.dn<;>simp [hd]
theorem qB (l:List MB):(dwL l).length<=l.length:=by unfold dwL;rw [List.length_map];exact List.length_filter_le ..
def zaH (l:List MB) (w:World) (e:Ending) (w':World):Prop:=Below w.heap.size w w'/\∃ o k,e=.returned (O o (dwL l).length k)/\w'.ownsRow w.heap.size 3 1 (O o (dwL l).length k) (dwL l).length ((dwL l).map (J Z))
theorem Qh (g k:Nat) (l:List MB) (w:World) (hl:l.length<=16) (h:MR w g l) :
 Calls Try.prog 14 #[O (some ⟨g,0,none⟩) l.length k] w (zaH l w):=by
 obtain ⟨i1,hi1,hy0,hy1,hy2⟩:=info_parts Try.infoInt
 have HI:Hid (MR w g l):=h
 clear h
 go_enter Try.func14,Try.ntmps14
 go_wp2_with fail
 go_loopg [3,4] l.length (fun q x3 y wr=>∃ (j:Nat),q+j=l.length/\y=J Z j/\(∃ o3 k3,x3=O o3 (dwL (l.take j)).length k3)/\wr.ownsRow w.heap.size 3 1 x3 (dwL (l.take j)).length ((dwL (l.take j)).map (J Z))/\Below w.heap.size w wr)
 case atStart=>exact ⟨0,by omega,rfl,⟨none,0,rfl⟩,⟨rfl,.inl ⟨rfl,rfl⟩⟩,Below.refl _ _⟩
 case round =>
  obtain ⟨j,hq,rfl,⟨o3,k3,rfl⟩,hrow,hb⟩:=hrel
  have HR:Hid (wr.ownsRow w.heap.size 3 1 (O o3 (dwL (l.take j)).length k3) (dwL (l.take j)).length ((dwL (l.take j)).map (J Z))):=hrow
  have HB:Hid (Below w.heap.size w wr):=hb
  have hbs:=hb.size
  clear hrow hb
  have hdl:(dwL (l.take j)).length<=16:=by have:=qB (l.take j);rw [List.length_take] at this;omega
  by_cases hj:j<l.length
  ·have hj':(j:Int)<(l.length:Int):=by omega
   have hj0:(0:Int)<=(j:Int):=by omega
   have hx:l[j]?=some l[j]:=List.getElem?_eq_getElem hj
   obtain ⟨c0,c1,c2⟩:=(HI.out.below HB.out).val j _ hx
   have HE:Hid _:=jf hx
   generalize l[j]=m at *
   obtain ⟨s,v,d⟩:=m
   simp only at c0 c1 c2 HE
   generalize dwL (l.take j)=L at *
   clear hx
   cases d with
   | false =>
    simp only [Bool.false_eq_true,if_false,List.append_nil] at HE
    go_wp2_with fail
    go_roundg (l.length-(j+1))
    case measure=>omega
    case rel=>exact ⟨j+1,by omega,by go_num,⟨o3,k3,by rw [HE.out]⟩,by rw [HE.out];exact HR.out,HB.out⟩
   | true =>
    simp only [if_true] at HE
    have hone:∀ u∈[J Z (s:Int)],u.oneCell'=true:=fun u hu=>by simp at hu;subst hu;rfl
    go_wp2_with (at_builtin;refine wpList_append_lies _ rfl _ _ 42 rfl w.heap.size 3 i1 _ 1 8 Try.underlying42 hi1 hy0 hy1 hy2 rfl (by decide) (O o3 L.length k3) _ _ rfl (HR.out.alloc _) ⟨wr.heap.size,0,none⟩ 1 1 [J Z s] rfl rfl (World.news_of_block (cs:=#[J Z s]) (t:=3) (fr:=(0,0)) (heap_alloc_new wr _)) hone (Nat.lt_succ_self 0) (by unfold maxLen;omega) (by omega) (by simp;omega) (wr.heap.size+1) (by simp) ?_;intro g4 cap4 w4 hown4 hgrow4 hat4 hlt4)
    have HR4:Hid (w4.ownsRow w.heap.size 3 1 (O (some ⟨g4,0,none⟩) (L.length+1) cap4) (L++[(s:Int)]).length ((L++[(s:Int)]).map (J Z))):=by
     show World.ownsRow _ _ _ _ _ _ _
     rw [List.length_append,List.map_append]
     exact hown4
    have HB4:Hid (Below w.heap.size w w4):=(HB.out.alloc hbs _).grown hgrow4 (by simp;omega) (fun k hk=>(HR.out.lt k hk).1)
    clear hown4 hgrow4 hat4
    go_roundg (l.length-(j+1))
    case measure=>omega
    case rel=>exact ⟨j+1,by omega,by go_num,⟨some ⟨g4,0,none⟩,cap4,by rw [HE.out];simp⟩,by rw [HE.out];exact HR4.out,HB4.out⟩
  ·have hj':¬ (j:Int)<(l.length:Int):=by omega
   have hje:j=l.length:=by omega
   subst hje
   rw [List.take_length] at HR ⊢
   go_wp2_with fail
   go_ret
   exact ⟨HB.out,o3,k3,rfl,HR.out⟩
def pfH (c:Int) (l:List MB):List Int:=[97,58,c,40]++pfJ c l
theorem Q3 (x:List Int):∀ (L:List (List Int)),L≠[]->joi 44 (L++[x])=joi 44 L++[44]++x:=by
 intro L
 induction L with
 | nil=>intro h;exact absurd rfl h
 | cons y L ih =>
  intro _
  by_cases hL:L=[]
  ·subst hL;rfl
  ·rw [List.cons_append,Zc 44 _ (by simp),Zc 44 _ hL,ih hL];simp
theorem QO {c:Int} {l:List MB} {j:Nat} {m:MB} (h:l[j]?=some m):pfH c (l.take (j+1))=pfH c (l.take j)++(if 0<j then [44] else [])++itT c m:=by
 have e:l.take (j+1)=l.take j++[m]:=by rw [List.take_add_one,h];rfl
 have hj:=(List.getElem?_eq_some_iff.1 h).1
 unfold pfH pfJ
 rw [e,List.map_append]
 by_cases h0:0<j
 ·rw [if_pos h0]
  have:(l.take j).map (itT c)≠[]:=fun hh=>by have h3:(l.take j).length=0:=(by rw [List.map_eq_nil_iff.1 hh];rfl);rw [List.length_take] at h3;omega
  simp only [List.map_cons,List.map_nil]
  rw [Q3 _ _ this]
  simp
 ·have:j=0:=by omega
  subst this
  simp [joi]
theorem qw (c:Int) (l:List MB):(pfH c l).length<=4+6*l.length:=by
 unfold pfH
 have:=(xU c l).2
 simp only [List.length_append,List.length_cons,List.length_nil]
 omega
theorem s44:(⟨#[44]⟩:ByteArray)=strOfNums [44]:=rfl
theorem zaK:(⟨#[124,123,54,51,125,41]⟩:ByteArray)=strOfNums [124,123,54,51,125,41]:=rfl
theorem zaL (c:Int) (l:List MB):pfT c l=strOfNums (pfH c l)++strOfNums [124,123,54,51,125,41]:=by
 rw [ZJ];unfold pfT pfL pfH;simp
def wdP (l:List MB) (d:Int) (o:Option Addr) (g k:Nat):WD:=⟨0,0,d,o,g,0,(dwL l).length,k,fun i=>((dwL l)[i]?).getD 0,none,0,0,0,[],none,0,0,0,0,fun _=>0,fun _=>0,fun _=>0⟩
theorem JK (l:List MB) (d:Int) (o:Option Addr) (g k:Nat):PfW (wdP l d o g k) l d:=⟨rfl,rfl,rfl,rfl,rfl,fun _ _=>rfl⟩
theorem JU {w:World} {l:List MB} (d:Int) {o:Option Addr} {g:Nat} (k:Nat) (hl:l.length<=16) (h:IS w o g 0 (dwL l).length (fun i=>((dwL l)[i]?).getD 0)):(wdP l d o g k).In w:=by
 have h1:=qB l
 refine ⟨⟨fun h=>?_,fun h=>?_,fun i hi=>?_,fun i hi=>?_,fun i hi=>?_⟩,h,⟨fun h=>?_,fun h=>?_,fun k l h=>?_,fun l h=>?_⟩,?_,?_⟩
 all_goals first | (exact absurd h (by simp [wdP])) | (exact absurd hi (by simp [wdP])) | (simp [wdP] at h) | (simp [wdP];omega) | (simp [wdP])
theorem qW {w:World} {l:List MB} {c v:Int} (hc:c=119\/c=102) (hok:Xf l) {d:Int} (d0:0<=d) (d1:d<4294967296) {o:Option Addr} {k g:Nat} (h:IS w o g 0 (dwL l).length (fun i=>((dwL l)[i]?).getD 0)) (hv:(wdP l d o g k).an (pfT c l)=([v],86400,0)) :
 Calls Try.prog 15 #[.string (pfT c l),.agg #[J Z 0,J Z 0,J Z d,O o (dwL l).length k,O none 0 0,O none 0 0]] w (zar w [v] 86400 0):=by
 have hf:=zax hc hok
 have hr:=(JK l d o g k).right d0 d1
 have:=Qt (pfT c l) (wdP l d o g k) [v] 86400 0 w (JU d k hok.le h) hf (by rw [J1 (by simp [ja,hf]) hr,hv]) (by decide) (by decide) (by decide) (by decide)
 exact this
def cnD (L:List (Int×Int)):Nat->Int->Nat
 | 0,_=>0
 | d+1,v=>cnD L d v+(if pkL L (d:Int)=some v then 1 else 0)
def wsV (v:Int):List (Int×Int)->Nat
 | []=>0
 | x::L=>(if x.1=v then x.2.toNat else 0)+wsV v L
theorem jk {x:Int×Int} {L:List (Int×Int)} {v:Int}:∀ n:Nat,(n:Int)<=x.2->cnD (x::L) n v=if x.1=v then n else 0:=by
 intro n
 induction n with
 | zero=>intro _;simp [cnD]
 | succ n ih =>
  intro h
  have hp:pkL (x::L) (n:Int)=some x.1:=by simp only [pkL];rw [if_pos (by omega)]
  simp only [cnD]
  rw [ih (by omega),hp]
  simp only [Option.some.injEq]
  split<;>rfl
theorem jj {x:Int×Int} {L:List (Int×Int)} {v:Int} (h0:0<=x.2):∀ n:Nat,cnD (x::L) (x.2.toNat+n) v=(if x.1=v then x.2.toNat else 0)+cnD L n v:=by
 intro n
 induction n with
 | zero=>rw [Nat.add_zero,jk _ (by omega)];simp [cnD]
 | succ n ih =>
  have hp:pkL (x::L) ((x.2.toNat+n:Nat):Int)=pkL L (n:Int):=by simp only [pkL];rw [if_neg (by omega)];congr 1;omega
  rw [<- Nat.add_assoc]
  simp only [cnD]
  rw [ih,hp]
  omega
theorem X0:∀ {L:List (Int×Int)},(∀ x∈L,0<=x.2)->0<=suL L:=by
 intro L
 induction L with
 | nil=>intro _;simp [suL]
 | cons x L ih=>intro h;have:=h x (by simp);have:=ih (fun y hy=>h y (by simp [hy]));simp only [suL];omega
theorem Jr {v:Int}:∀ {L:List (Int×Int)},(∀ x∈L,0<=x.2)->cnD L (suL L).toNat v=wsV v L:=by
 intro L
 induction L with
 | nil=>intro _;rfl
 | cons x L ih =>
  intro h
  have h1:=h x (by simp)
  have h2:=X0 (L:=L) (fun y hy=>h y (by simp [hy]))
  simp only [suL,wsV]
  rw [show (x.2+suL L).toNat=x.2.toNat+(suL L).toNat by omega,jj h1,ih (fun y hy=>h y (by simp [hy]))]
theorem J3:∀ {L:List (Int×Int)},(∀ x∈L,0<=x.2)->∀ {d:Int},0<=d->d<suL L->∃ x∈L,pkL L d=some x.1:=by
 intro L
 induction L with
 | nil=>intro _ d h0 h1;simp [suL] at h1;omega
 | cons x L ih =>
  intro h d h0 h1
  simp only [suL] at h1
  simp only [pkL]
  by_cases hd:d<x.2
  ·rw [if_pos hd];exact ⟨x,by simp,rfl⟩
  ·rw [if_neg hd]
   obtain ⟨y,hy,he⟩:=ih (fun y hy=>h y (by simp [hy])) (d:=d-x.2) (by omega) (by omega)
   exact ⟨y,by simp [hy],he⟩
theorem xJ (l:List MB):∀ x∈upL l,0<=x.2:=fun x hx=>by
 obtain ⟨m,_,rfl⟩:=List.mem_map.1 hx
 simp only;omega
theorem zat {v:Int}:∀ {L:List (Int×Int)},(∀ x∈L,x.1≠v)->wsV v L=0:=by
 intro L
 induction L with
 | nil=>intro _;rfl
 | cons x L ih=>intro h;simp only [wsV];rw [if_neg (h x (by simp)),ih (fun y hy=>h y (by simp [hy]))]
theorem JT:∀ {l:List MB},(l.map MB.s).Nodup->∀ {m:MB},m∈l->wsV (m.s:Int) (upL l)=if m.dn=true then 0 else m.v:=by
 intro l
 induction l with
 | nil=>intro _ m h;cases h
 | cons y l ih =>
  intro h m hm
  rw [List.map_cons,List.nodup_cons] at h
  have e:upL (y::l)=(if y.dn=true then [] else [((y.s:Int),(y.v:Int))])++upL l:=by
   unfold upL
   cases hd:y.dn<;>simp [hd]
  rw [e]
  have hno:∀ s:Nat,s ∉ l.map MB.s->wsV (s:Int) (upL l)=0:=fun s hs=>zat (fun x hx he=>by
   obtain ⟨z,hz,rfl⟩:=List.mem_map.1 hx
   simp only at he
   exact hs (by rw [show s=z.s by omega];exact List.mem_map_of_mem (List.mem_filter.1 hz).1))
  rcases List.mem_cons.1 hm with hmy | hm
  ·subst hmy
   have h0:=hno m.s h.1
   cases hd:m.dn with
   | true=>simp [h0]
   | false=>simp [wsV,h0]
  ·have hne:m.s≠y.s:=fun he=>h.1 (by rw [<- he];exact List.mem_map_of_mem hm)
   have h0:=ih h.2 hm
   have hne':¬ (y.s:Int)=(m.s:Int):=by omega
   cases hd:y.dn with
   | true=>simpa [hd] using h0
   | false=>simp only [Bool.false_eq_true,if_false,List.cons_append,List.nil_append,wsV];rw [if_neg hne',Nat.zero_add];exact h0
theorem JL:∀ {l:List MB},(∀ m∈l,m.v<=9)->suL (upL l)<=9*l.length:=by
 intro l
 induction l with
 | nil=>intro _;simp [upL,suL]
 | cons y l ih =>
  intro h
  have hy:=h y (by simp)
  have hi:=ih (fun m hm=>h m (by simp [hm]))
  have e:upL (y::l)=(if y.dn=true then [] else [((y.s:Int),(y.v:Int))])++upL l:=by
   unfold upL
   cases hd:y.dn<;>simp [hd]
  rw [e]
  cases hd:y.dn with
  | true=>simp only [if_true,List.nil_append,List.length_cons];omega
  | false=>simp only [Bool.false_eq_true,if_false,List.cons_append,List.nil_append,suL,List.length_cons];omega
theorem jU {l:List MB} {j:Nat} {m:MB} (h:l[j]?=some m):suL (upL (l.take (j+1)))=suL (upL (l.take j))+(if m.dn=true then 0 else (m.v:Int)):=by
 have key:∀ a b,suL (a++b)=suL a+suL b:=by
  intro a
  induction a with
  | nil=>intro b;simp [suL]
  | cons x a ih=>intro b;simp only [List.cons_append,suL,ih];omega
 have e:l.take (j+1)=l.take j++[m]:=by rw [List.take_add_one,h];rfl
 rw [e]
 have e2:upL (l.take j++[m])=upL (l.take j)++upL [m]:=by unfold upL;rw [List.filter_append,List.map_append]
 rw [e2,key]
 congr 1
 cases hd:m.dn<;>simp [upL,hd,suL]
theorem zaw {l:List MB} {d:Int} {k:Nat} (hs:0<suL (upL l)) (h0:0<=d) (h1:d<suL (upL l)):plV l ((k:Int)*suL (upL l)+d)=(pkL (upL l) d).getD 63:=by
 unfold plV
 rw [if_neg (by omega),Int.add_comm,Int.add_mul_emod_self_right,Int.emod_eq_of_lt h0 h1]
section
theorem s42:(⟨#[42]⟩:ByteArray)=strOfNums [42]:=rfl
theorem zaB (m:MB):itT 119 m=dgL m.s++42::dgL m.v:=by unfold itT;rw [if_pos rfl]
theorem jr (o:Option Addr) (n k:Nat) (w:World):(Instr.build 46 #[(3,O o n k)]).run Try.prog w=.ok (.agg #[J Z 0,J Z 0,J Z 0,O o n k,O none 0 0,O none 0 0]) w:=run_build w 46 _ _ (by kernel_rfl)
theorem zag (L:List (Int×Int)) (v:Int):∀ n,cnD L n v<=n:=by
 intro n
 induction n with
 | zero=>exact Nat.le_refl _
 | succ n ih=>simp only [cnD];split<;>omega
theorem j6 {l:List MB} (hok:Xf l) {k:Nat} {e:Nat} (he:(e:Int)<suL (upL l)):∃ v:Nat,v<63/\plV l ((k:Int)*suL (upL l)+e)=(v:Int)/\pkL (upL l) (e:Int)=some (v:Int):=by
 obtain ⟨x,hx,hp⟩:=J3 (xJ l) (d:=(e:Int)) (by omega) he
 obtain ⟨m,hm,rfl⟩:=List.mem_map.1 hx
 refine ⟨m.s,hok.sv m (List.mem_filter.1 hm).1,?_,hp⟩
 rw [zaw (by omega) (by omega) he,hp]
 rfl
theorem zaf {l:List MB} (hok:Xf l) {m:MB} (hm:m∈l):cnD (upL l) (suL (upL l)).toNat (m.s:Int)=if m.dn=true then 0 else m.v:=by
 rw [Jr (xJ l)]
 exact JT hok.one hm
theorem Qq {w:World} {B:Nat} {a0 a1 a2 a3 a4 a5 u:Value} {t:TypeId} (h:w.heap[B]?=some (.cells #[a0,a1,a2,a3,a4,a5] t (0,0))):(w.setCell ⟨B,2,none⟩ u).heap[B]?=some (.cells #[a0,a1,u,a3,a4,a5] t (0,0)):=by
 simp [World.setCell,Array.getElem?_modify,h]
theorem Jd {i:Nat} (hi:i<64):(madeCells (J Z 0).cells (64*1)).toList[i]?=some (J Z 0):=by
 simp [madeCells,Value.cells,Nat.mod_one,hi]
abbrev bP (d:Int) (o:Option Addr) (n k:Nat):Obj:=.cells #[J Z 0,J Z 0,J Z d,O o n k,O none 0 0,O none 0 0] 46 (0,0)
abbrev bN (v:Value):Obj:=.cells #[v,J Z 86400,J Z 0] 48 (0,0)
attribute [local go_sem] zC zu
theorem Xo (o:Option Addr) (b off n c:Nat) (S W:Nat->Int) (D:Nat->Bool) (rd:Int) (w:World) (hn:n*24<=140737488351232) (h:MI w o b off n S W D) (d0:-9223372036854775808<=rd) (d1:rd<=9223372036854775807) :
 Calls Try.prog 4 #[O o n c,J Z rd] w fun e w'=>e=.returned (.bool true)/\Below w.heap.size w w':=by
 have HS:Hid (Calls Try.prog 12 #[O o n c] w (zaF w)):=QF o b off n c S W D w hn h
 have HPK:Hid _:=fun wz=>Yo rd 1000 wz d0 d1 (by decide) (by decide)
 clear h hn d0 d1
 have hpk:=X6 (c:=rd) (n:=1000) (by decide)
 generalize pkF rd 1000=d at *
 go_enter Try.func4,Try.ntmps4
 go_wp2_with fail
 refine HS.out.mono ?_
 rintro e w1 ⟨hb,l,g,k,hok,rfl,hrow⟩
 have HB1:Hid (Below w.heap.size w w1):=hb
 have HOK:Hid (Xf l):=hok
 have HM1:Hid (MR w1 g l):=zaA hok.ne hrow
 have hl16:=hok.le
 clear hb hok hrow HS
 go_wp2_with fail
 go_loopg [6,7,8] l.length (fun q x6 x7 y wr=>∃ (j:Nat),q+j=l.length/\y=J Z j/\x6=.string (strOfNums (pfH 119 (l.take j)))/\x7=J Z (suL (upL (l.take j)))/\Below w1.heap.size w1 wr)
 case atStart=>exact ⟨0,by omega,rfl,rfl,rfl,Below.refl _ _⟩
 case round =>
  obtain ⟨j,hq,rfl,rfl,rfl,hb⟩:=hrel
  have HB:Hid (Below w1.heap.size w1 wr):=hb
  clear hb
  by_cases hj:j<l.length
  ·have hj':(j:Int)<(l.length:Int):=by omega
   have hj0:(0:Int)<=(j:Int):=by omega
   have hx:l[j]?=some l[j]:=List.getElem?_eq_getElem hj
   have hsv:=HOK.out.sv _ (List.mem_of_getElem? hx)
   have hwt:=HOK.out.wt _ (List.mem_of_getElem? hx)
   have HE1:Hid _:=QO (c:=119) hx
   have HE2:Hid _:=jU hx
   have hs0:=X0 (xJ (l.take j))
   have hs1:=JL (l:=l.take j) (fun m hm=>(HOK.out.wt m (List.mem_of_mem_take hm)).2)
   have HCC:Hid (∀ wz,Below w1.heap.size w1 wz->_):=fun wz hz=>(HM1.out.below hz).val j _ hx
   have hln:=qw 119 (l.take j)
   have hlt:(l.take j).length<=16:=by rw [List.length_take];omega
   rw [zaB] at HE1
   generalize l[j]=m at *
   obtain ⟨s,v,dn⟩:=m
   simp only at HE1 HE2 HCC hsv hwt
   have hdg:=YH s
   have hdv:=YH v
   have HDG:Hid (∀ (a:Nat) (wz:World),a=s\/a=v->Calls Try.prog 13 #[J Z a] wz fun e w'=>e=.returned (.string (strOfNums (dgL a)))/\Below wz.heap.size wz w'):=fun a wz ha=>Jn a wz (by omega)
   generalize pfH 119 (l.take j)=P at *
   generalize suL (upL (l.take j))=F at *
   obtain ⟨P1,HP1⟩:∃ P1,Hid (P++(if 0<j then [44] else [])=P1):=⟨P++(if 0<j then [44] else []),(rfl:_=_)⟩
   rw [HP1.out] at HE1
   have hps:(strOfNums P).size=P.length:=strOfNums_size _
   have hps1:(strOfNums P1).size<=200:=by rw [strOfNums_size,<- HP1.out,List.length_append];split<;>simp<;>omega
   have hds:(strOfNums (dgL s)).size<=2:=by rw [strOfNums_size];omega
   have hdw:(strOfNums (dgL v)).size<=2:=by rw [strOfNums_size];omega
   go_upto_if 28 with fail
   go_cut [6] (fun s6 wx=>s6=.string (strOfNums P1)/\wx=wr)
   case first =>
    by_cases h0:0<j
    ·have h0':(0:Int)<(j:Int):=by omega
     rw [if_pos h0] at HP1
     go_wp2_with fail
     go_meet
     exact ⟨by rw [s44,ZJ,HP1.out],rfl⟩
    ·have h0':¬ (0:Int)<(j:Int):=by omega
     rw [if_neg h0,List.append_nil] at HP1
     go_wp2_with fail
     go_meet
     exact ⟨by rw [HP1.out],rfl⟩
   case rest =>
   obtain ⟨rfl,hw0⟩:=hcut
   subst wc
   clear HP1
   obtain ⟨c0,c1,c2⟩:=HCC.out wr HB.out
   have hz1:(strOfNums P1++strOfNums (dgL s)).size<=202:=by rw [ByteArray.size_append];omega
   have hz2:(strOfNums P1++strOfNums (dgL s)++(⟨#[42]⟩:ByteArray)).size<=203:=by rw [ByteArray.size_append,s42,strOfNums_size [42]];simp only [List.length_singleton];omega
   have n1:¬ 9223372036854775807<(strOfNums P1).size+(strOfNums (dgL s)).size:=by omega
   have n2:¬ 9223372036854775807<(strOfNums P1++strOfNums (dgL s)).size+1:=by omega
   have n3:¬ 9223372036854775807<(strOfNums P1++strOfNums (dgL s)++(⟨#[42]⟩:ByteArray)).size+(strOfNums (dgL v)).size:=by omega
   have m2:¬ 9223372036854775807<(strOfNums P1).size+(strOfNums (dgL s)).size+1:=by omega
   have m3:¬ 9223372036854775807<(strOfNums P1).size+(strOfNums (dgL s)).size+1+(strOfNums (dgL v)).size:=by omega
   have HBc:Hid (Below w1.heap.size w1 wr):=HB.out
   go_upto_region 9 with fail
   go_cut [6] (fun s6 wx=>s6=.string (strOfNums (P1++(dgL s++42::dgL v)))/\Below w1.heap.size w1 wx)
   case first =>
    go_region_held3 (fun w'=>w'.cell? ⟨g,j*3,none⟩=some (J Z s)/\w'.cell? ⟨g,j*3+1,none⟩=some (J Z v)) (first | (exact ⟨c0,c1⟩) | (exact ⟨hS2.1,hS2.2.1⟩) | go_keep) (first | (go_at_call 13;refine (HDG.out _ _ (by first | exact .inl rfl | exact .inr rfl)).mono ?_;rintro e w3 ⟨rfl,hbb⟩;have HBc:Hid (Below w1.heap.size w1 w3):=(by first | exact HBc.out.drew.trans (hbb.mono HBc.out.size) | exact HBc.out.trans (hbb.mono HBc.out.size));have hS2:=HCC.out w3 HBc.out))
    all_goals
     go_wp2_with fail
     go_meet
     exact ⟨by rw [s42,ZJ,ZJ,ZJ];simp,by first | exact HBc.out | exact HBc.out.drew⟩
   case rest =>
   obtain ⟨rfl,hb⟩:=hcut
   obtain ⟨w2,hw2⟩:∃ w2,w2=wc:=⟨_,rfl⟩
   subst hw2
   have HB2:Hid (Below w1.heap.size w1 w2):=hb
   obtain ⟨e0,e1,e2⟩:=HCC.out w2 HB2.out
   clear hb c0 c1 c2 HBc
   rw [<- HE1.out]
   cases dn with
   | false =>
    simp only [Bool.false_eq_true,if_false] at HE2
    have hwf:IntKind.i64.wrap (F+(v:Int))=F+(v:Int):=Zk (by omega) (by omega)
    go_wp2_with fail
    go_roundg (l.length-(j+1))
    case measure=>omega
    case rel=>exact ⟨j+1,by omega,by go_num,rfl,by rw [HE2.out],HB2.out⟩
   | true =>
    simp only [if_true,Int.add_zero] at HE2
    go_wp2_with fail
    go_roundg (l.length-(j+1))
    case measure=>omega
    case rel=>exact ⟨j+1,by omega,by go_num,rfl,by rw [HE2.out],HB2.out⟩
  ·have hj':¬ (j:Int)<(l.length:Int):=by omega
   have hje:j=l.length:=by omega
   subst hje
   rw [List.take_length]
   have HTX:Hid (strOfNums (pfH 119 l)++(⟨#[124,123,54,51,125,41]⟩:ByteArray)=pfT 119 l):=by show _=_;rw [zaK];exact (zaL 119 l).symm
   have hln:=qw 119 l
   have hps:(strOfNums (pfH 119 l)).size=(pfH 119 l).length:=strOfNums_size _
   have HDW:Hid (Calls Try.prog 14 #[O (some ⟨g,0,none⟩) l.length k] wr (zaH l wr)):=Qh g k l wr hl16 (HM1.out.below HB.out)
   have HBW:Hid (Below w.heap.size w wr):=HB1.out.trans (HB.out.mono HB1.out.size)
   have HMW:Hid (MR wr g l):=HM1.out.below HB.out
   have f0:=X0 (xJ l)
   have f1:=JL (l:=l) (fun m hm=>(HOK.out.wt m hm).2)
   have hbw:=fun o n k w=>jr o n k w
   clear HB HB1 HM1 hj'
   go_wp2_with fail
   refine HDW.out.mono ?_
   rintro e w3 ⟨hb,o3,k3,rfl,hrow⟩
   have HB3:Hid (Below w.heap.size w w3):=HBW.out.trans (hb.mono HBW.out.size)
   have HM3:Hid (MR w3 g l):=HMW.out.below hb
   obtain ⟨g3,his⟩:=Qb hrow
   have HI3:Hid (IS w3 o3 g3 0 (dwL l).length (fun i=>((dwL l)[i]?).getD 0)):=his
   have HAN:Hid (∀ (wz:World) (e:Int),Below w3.heap.size w3 wz->0<=e->e<4294967296->Calls Try.prog 15 #[.string (pfT 119 l),.agg #[J Z 0,J Z 0,J Z e,O o3 (dwL l).length k3,O none 0 0,O none 0 0]] wz (zar wz [plV l e] 86400 0)):=fun wz e hz e0 e1 =>
    qW (.inl rfl) HOK.out e0 e1 (HI3.out.below hz HI3.out.lt) (j4 HOK.out (JK l e o3 g3 k3))
   clear hb hrow his HDW HBW HMW
   rw [HTX.out]
   have HB4:Hid (Below w3.heap.size w3 (w3.alloc (bP 0 o3 (dwL l).length k3))):=(Below.refl _ _).alloc (Nat.le_refl _) _
   have HX4:Hid ((w3.alloc (bP 0 o3 (dwL l).length k3)).heap[w3.heap.size]?=some (bP 0 o3 (dwL l).length k3)):=heap_alloc_new _ _
   by_cases hF:suL (upL l)=0
   ·have hF':(suL (upL l)==0)=true:=by simp [hF]
    have hpl:plV l 0=63:=by unfold plV;rw [if_pos (by omega)]
    have HC:=HAN.out _ 0 HB4.out (by decide) (by decide)
    rw [hpl] at HC
    obtain ⟨q0,q1,q2,q3,q4,q5⟩:=ld6 HX4.out rfl
    clear HAN
    generalize suL (upL l)=F at *
    go_wp2_with fail
    generalize w3.alloc (bP 0 o3 (dwL l).length k3)=w4 at *
    refine HC.mono ?_
    rintro e w5 ⟨hb,o5,k5,rfl,hrow⟩
    have HB5:Hid (Below w.heap.size w w5):=HB3.out.trans ((HB4.out.trans (hb.mono HB4.out.size)).mono HB3.out.size)
    have HB6:Hid (Below w.heap.size w (w5.alloc (bN (O o5 1 k5)))):=HB5.out.alloc HB5.out.size _
    have hrow5:=hrow.alloc (bN (O o5 1 k5))
    rcases hrow5.2 with ⟨_,h2⟩ | ⟨g5,cap,cur,h1,-⟩
    ·cases h2
    cases h1
    have hc0:=World.ownsRow.cellAt hrow5 0 (by simp)
    simp only [List.map_cons,List.map_nil,List.getElem?_cons_zero] at hc0
    obtain ⟨a0,a1,a2,-,-,-⟩:=ld3 (heap_alloc_new w5 (bN (O (some ⟨g5,0,none⟩) 1 k5)))
    clear hb hrow hrow5 HC q0 q1 q2 q3 q4 q5
    go_wp2_with fail
    go_ret
    exact ⟨rfl,HB6.out⟩
   ·have hF':(suL (upL l)==0)=false:=by simp [hF]
    obtain ⟨i1,hi1,hz0,hz1,hz2⟩:=info_parts Try.infoInt
    obtain ⟨dn,hdn⟩:∃ dn:Nat,d=dn:=⟨d.toNat,by omega⟩
    subst hdn
    have HDR:Hid _:=fun (e:Nat) he=>j6 (k:=dn) (e:=e) HOK.out he
    have HEN:Hid _:=fun (m:MB) hm=>zaf (m:=m) HOK.out hm
    obtain ⟨Fn,hFn⟩:∃ Fn:Nat,suL (upL l)=Fn:=⟨(suL (upL l)).toNat,by omega⟩
    rw [hFn] at HDR HEN hF' f1 ⊢
    rw [Int.toNat_natCast] at HEN
    have hFb:Fn<=144:=by omega
    have hFp:0<Fn:=by omega
    have hm0:(dn:Int)*(Fn:Int)<=999*144:=Int.mul_le_mul (by omega) (by omega) (by omega) (by omega)
    have hm1:0<=(dn:Int)*(Fn:Int):=Int.mul_nonneg (by omega) (by omega)
    have hwm:IntKind.i64.wrap ((dn:Int)*(Fn:Int))=(dn:Int)*(Fn:Int):=Zk (by omega) (by omega)
    generalize upL l=U at *
    clear hF hFn f0 HTX
    go_upto_region 17 with fail
    generalize w3.alloc (bP 0 o3 (dwL l).length k3)=w4 at *
    have hs4:w3.heap.size<w4.heap.size:=lt_of_block HX4.out
    go_wp2_with (at_make;refine wpList_make_full _ rfl _ _ 42 rfl w4.heap.size 3 i1 (J Z 0) 1 Try.underlying42 hi1 hz0 hz1 .i64 .i64 _ _ 64 rfl rfl (by omega) (by omega) (by rw [hz2];omega) (by unfold maxLen;omega) (Nat.le_refl _) ?_;intro w0 hown0 hgrow0)
    obtain ⟨f,hrow0⟩:=Xs hown0 rfl
    have HR0:Hid (w0.rowIs w4.heap.size 3 64 (fun v=>J Z (cnD U 0 (v:Int)))):=hrow0.congr (fun i hi=>by
     have h1:=hrow0.cell (i:=i) hi
     have h2:=World.ownsRow.cellAt hown0 i (by omega)
     rw [Jd (by omega),h1] at h2
     simpa [cnD] using h2)
    have HB0:Hid (Below w3.heap.size w3 w0):=HB4.out.trans ((YA hgrow0).mono HB4.out.size)
    have HX0:Hid (w0.heap[w3.heap.size]?=some (bP 0 o3 (dwL l).length k3)):=((YA hgrow0).block _ hs4).trans HX4.out
    obtain ⟨gg,hgg⟩:∃ gg,gg=w4.heap.size:=⟨_,rfl⟩
    rw [<- hgg] at HR0 hs4 ⊢
    clear hown0 hgrow0 hrow0 HB4 HX4 hgg
    refine (HPK.out _).mono ?_
    rintro e w' ⟨rfl,hw'⟩
    subst w'
    clear HPK
    go_wp2_with fail
    go_loopg [14] Fn (fun q x wr=>∃ (e:Nat) (dd:Int),q+e=Fn/\x=J Z e/\Below w3.heap.size w3 wr/\wr.heap[w3.heap.size]?=some (bP dd o3 (dwL l).length k3)/\wr.rowIs gg 3 64 (fun v=>J Z (cnD U e (v:Int))))
    case atStart=>exact ⟨0,0,by omega,rfl,HB0.out,HX0.out,HR0.out⟩
    case round =>
     clear HB0 HX0 HR0
     obtain ⟨e,dd,hq,rfl,hb,hx,hr⟩:=hrel
     have HB:Hid (Below w3.heap.size w3 wr):=hb
     have HX:Hid (wr.heap[w3.heap.size]?=some (bP dd o3 (dwL l).length k3)):=hx
     have HR:Hid (wr.rowIs gg 3 64 (fun v=>J Z (cnD U e (v:Int)))):=hr
     clear hb hx hr
     by_cases he:e<Fn
     ·have he':(e:Int)<(Fn:Int):=by omega
      obtain ⟨v,hv,hp,hk⟩:=HDR.out e he'
      obtain ⟨D0,hD0⟩:∃ D0,(dn:Int)*(Fn:Int)+(e:Int)=D0:=⟨_,rfl⟩
      have hwe:IntKind.i64.wrap ((dn:Int)*(Fn:Int)+(e:Int))=D0:=(Zk (by omega) (by omega)).trans hD0
      rw [hD0] at hp
      have HC:Hid _:=fun wz hz=>HAN.out wz D0 hz (by omega) (by omega)
      rw [hp] at HC
      have hcn:=zag U (v:Int) e
      have HCN:Hid (∀ j:Nat,cnD U (e+1) (j:Int)=if j=v then cnD U e (v:Int)+1 else cnD U e (j:Int)):=fun j=>by
       simp only [cnD]
       rw [hk]
       by_cases hjv:j=v
       ·subst hjv;simp
       ·rw [if_neg hjv,if_neg (by simp;omega)];rfl
      obtain ⟨cn,hcne⟩:∃ cn,Hid (cnD U e (v:Int)=cn):=⟨_,rfl⟩
      rw [hcne.out] at hcn HCN
      obtain ⟨q0,q1,q2,q3,q4,q5⟩:=ld6 HX.out rfl
      have z2:wr.frozen? ⟨w3.heap.size,2,none⟩=false:=by simp [World.frozen?,HX.out]
      have HB2:Hid (Below w3.heap.size w3 (wr.setCell ⟨w3.heap.size,2,none⟩ (J Z D0))):=HB.out.setCell (Nat.le_refl _) _
      have HX2:Hid ((wr.setCell ⟨w3.heap.size,2,none⟩ (J Z D0)).heap[w3.heap.size]?=some (bP D0 o3 (dwL l).length k3)):=Qq HX.out
      have HR2:Hid ((wr.setCell ⟨w3.heap.size,2,none⟩ (J Z D0)).rowIs gg 3 64 (fun v=>J Z (cnD U e (v:Int)))):=HR.out.setOther (by simp only;omega) _
      obtain ⟨y0,y1,y2,y3,y4,y5⟩:=ld6 HX2.out rfl
      have HC2:=HC.out _ HB2.out
      clear hp hk HC
      go_wp2_with fail
      clear q0 q1 q2 q3 q4 q5 z2
      generalize wr.setCell ⟨w3.heap.size,2,none⟩ (J Z D0)=w5 at *
      refine HC2.mono ?_
      rintro e2 w6 ⟨hb,o6,k6,rfl,hrow⟩
      have HB6:Hid (Below w3.heap.size w3 (w6.alloc (bN (O o6 1 k6)))):=(HB2.out.trans (hb.mono HB2.out.size)).alloc (by have:=HB2.out.size;have:=hb.size;omega) _
      have HX6:Hid ((w6.alloc (bN (O o6 1 k6))).heap[w3.heap.size]?=some (bP D0 o3 (dwL l).length k3)):=(Below.heap_alloc _ _ _ (by have:=lt_of_block HX2.out;have:=hb.size;omega)).trans ((hb.block _ (lt_of_block HX2.out)).trans HX2.out)
      have HR6:Hid ((w6.alloc (bN (O o6 1 k6))).rowIs gg 3 64 (fun v=>J Z (cnD U e (v:Int)))):=(HR2.out.of_block (hb.block _ HR2.out.lt)).alloc _
      have hrow6:=hrow.alloc (bN (O o6 1 k6))
      rcases hrow6.2 with ⟨_,h2⟩ | ⟨g6,cap,cur,h1,-⟩
      ·cases h2
      cases h1
      have hc0:=World.ownsRow.cellAt hrow6 0 (by simp)
      simp only [List.map_cons,List.map_nil,List.getElem?_cons_zero] at hc0
      obtain ⟨a0,a1,a2,-,-,-⟩:=ld3 (heap_alloc_new w6 (bN (O (some ⟨g6,0,none⟩) 1 k6)))
      have g0:=HR6.out.cell (i:=v) (by omega)
      have g1:=HR6.out.frozen v
      rw [hcne.out] at g0
      have hv0:(0:Int)<=(v:Int):=by omega
      have hv1:(v:Int)<64:=by omega
      have hwc:IntKind.i64.wrap ((cn:Int)+1)=(cn:Int)+1:=Zk (by omega) (by omega)
      clear hb hrow hrow6 HC2 y0 y1 y2 y3 y4 y5
      go_wp2_with fail
      have HB7:Hid (Below w3.heap.size w3 ((w6.alloc (bN (O (some ⟨g6,0,none⟩) 1 k6))).setCell ⟨gg,v,none⟩ (J Z ((cn:Int)+1)))):=HB6.out.setCell (by simp only;omega) _
      have HX7:Hid (((w6.alloc (bN (O (some ⟨g6,0,none⟩) 1 k6))).setCell ⟨gg,v,none⟩ (J Z ((cn:Int)+1))).heap[w3.heap.size]?=some (bP D0 o3 (dwL l).length k3)):=(zc (by omega)).trans HX6.out
      have HR7:Hid (((w6.alloc (bN (O (some ⟨g6,0,none⟩) 1 k6))).setCell ⟨gg,v,none⟩ (J Z ((cn:Int)+1))).rowIs gg 3 64 (fun v=>J Z (cnD U (e+1) (v:Int)))):=(HR6.out.set v _).congr (fun i hi=>by
       rw [HCN.out i]
       by_cases hiv:i=v
       ·simp [hiv]
       ·simp [hiv])
      go_roundg (Fn-(e+1))
      case measure=>omega
      case rel=>exact ⟨e+1,D0,by omega,by go_num,HB7.out,HX7.out,HR7.out⟩
     ·have he':¬ (e:Int)<(Fn:Int):=by omega
      have hee:e=Fn:=by omega
      subst hee
      have HBW:Hid (Below w.heap.size w wr):=HB3.out.trans (HB.out.mono HB3.out.size)
      have HMW:Hid (MR wr g l):=HM3.out.below HB.out
      clear HB HX HDR HAN HB3 HM3 HI3
      go_wp2_with fail
      go_loopg [17] l.length (fun q x wq=>∃ i:Nat,q+i=l.length/\x=J Z i/\wq=wr)
      case atStart=>exact ⟨0,by omega,rfl,rfl⟩
      case round =>
       obtain ⟨i,hi,rfl,hwq⟩:=hrel
       subst hwq
       by_cases hil:i<l.length
       ·have hil':(i:Int)<(l.length:Int):=by omega
        have hi0:(0:Int)<=(i:Int):=by omega
        have hx:l[i]?=some l[i]:=List.getElem?_eq_getElem hil
        have hm:=List.mem_of_getElem? hx
        have hsv:=HOK.out.sv _ hm
        have hen:=HEN.out _ hm
        obtain ⟨c0,c1,c2⟩:=HMW.out.val i _ hx
        have g0:=HR.out.cell (i:=l[i].s) (by omega)
        rw [hen] at g0
        clear hx hm hen
        generalize l[i]=m at *
        obtain ⟨s,v,dd⟩:=m
        simp only at c0 c1 c2 g0 hsv
        have hs0:(0:Int)<=(s:Int):=by omega
        have hs1:(s:Int)<64:=by omega
        cases dd with
        | true =>
         simp only [if_true] at g0
         go_wp2_with fail
         go_roundg (l.length-(i+1))
         case measure=>omega
         case rel=>exact ⟨i+1,by omega,by go_num,rfl⟩
        | false =>
         simp only [Bool.false_eq_true,if_false] at g0
         have hvv:((v:Int) != (v:Int))=false:=by simp
         go_wp2_with fail
         go_roundg (l.length-(i+1))
         case measure=>omega
         case rel=>exact ⟨i+1,by omega,by go_num,rfl⟩
       ·have hil':¬ (i:Int)<(l.length:Int):=by omega
        go_wp2_with fail
        go_ret
        exact ⟨rfl,HBW.out⟩
end
end Go.Proofs.Ytaebngpoagjafaa
