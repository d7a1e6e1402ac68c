import Derived.Test.YtaebngpoagjafaaI31
import Derived.Deep.Strs
set_option maxRecDepth 100000
set_option maxHeartbeats 3200000
namespace Go.Proofs.Ytaebngpoagjafaa
open Value renaming int → J
open IntKind renaming i64 → Z
open Go.RowKit
attribute [local go_sem ↓] Go.wp_at_zero Go.wp_at_succ
structure MR (w:World) (g:Nat) (l:List MB):Prop where
 lt:g<w.heap.size
 val:∀ i m,l[i]?=some m->w.cell? ⟨g,i*3,none⟩=some (J Z m.s)/\w.cell? ⟨g,i*3+1,none⟩=some (J Z m.v)/\w.cell? ⟨g,i*3+2,none⟩=some (.bool m.dn)
theorem MR.below {w w':World} {g:Nat} {l:List MB} (h:MR w g l) (hb:Below w.heap.size w w'):MR w' g l :=
 ⟨Nat.lt_of_lt_of_le h.lt hb.size,fun i m hm=>by
  rw [hb.cell (p:=⟨g,i*3,none⟩) h.lt,hb.cell (p:=⟨g,i*3+1,none⟩) h.lt,hb.cell (p:=⟨g,i*3+2,none⟩) h.lt]
  exact h.val i m hm⟩
theorem zal {w:World} {base g k:Nat} {l:List MB} (hl:l≠[]) (h:w.ownsRow base 41 3 (.slice (some ⟨g,0,none⟩) l.length k) l.length (mmC l)):MR w g l:=by
 have h0:0<l.length:=List.length_pos_iff.2 hl
 refine ⟨?_,fun i m hm=>?_⟩
 ·exact (h.lt g rfl).2
 ·have hi:=(List.getElem?_eq_some_iff.1 hm).1
  obtain ⟨e1,e2,e3⟩:=QW hm
  exact ⟨by rw [World.ownsRow.cellAt h (i*3) (by omega),e1],by rw [World.ownsRow.cellAt h (i*3+1) (by omega),e2],by rw [World.ownsRow.cellAt h (i*3+2) (by omega),e3]⟩
theorem jd {l:List MB} {j:Nat} {m:MB} (h:l[j]?=some m):dwL (l.take (j+1))=dwL (l.take j)++(if m.dn=true then [(m.s:Int)] else []):=by
 unfold dwL
 rw [List.take_add_one,h]
 simp only [Option.toList,List.filter_append,List.map_append]
 congr 1
 cases hd:m.dn<;>simp [hd]
theorem qw (l:List MB):(dwL l).length<=l.length:=by unfold dwL;rw [List.length_map];exact List.length_filter_le ..
def zaq (l:List MB) (w:World) (e:Ending) (w':World):Prop:=Below w.heap.size w w'/\∃ o k,e=.returned (.slice o (dwL l).length k)/\w'.ownsRow w.heap.size 3 1 (.slice o (dwL l).length k) (dwL l).length ((dwL l).map (J Z))
theorem Qc (g k:Nat) (l:List MB) (w:World) (hl:l.length<=16) (h:MR w g l) :
 Calls Try.prog 14 #[.slice (some ⟨g,0,none⟩) l.length k] w (zaq l w):=by
 obtain ⟨i1,hi1,hy0,hy1,hy2⟩:=info_parts Try.infoInt
 have HI:Hid (MR w g l):=h
 clear h
 go_enter Try.func14,Try.ntmps14
 go_wp2_with fail
 go_loopg [3,4] l.length (fun q x3 y wr=>∃ (j:Nat),q+j=l.length/\y=J Z j/\(∃ o3 k3,x3=.slice o3 (dwL (l.take j)).length k3)/\wr.ownsRow w.heap.size 3 1 x3 (dwL (l.take j)).length ((dwL (l.take j)).map (J Z))/\Below w.heap.size w wr)
 case atStart=>exact ⟨0,by omega,rfl,⟨none,0,rfl⟩,⟨rfl,.inl ⟨rfl,rfl⟩⟩,Below.refl _ _⟩
 case round =>
  obtain ⟨j,hq,rfl,⟨o3,k3,rfl⟩,hrow,hb⟩:=hrel
  have HR:Hid (wr.ownsRow w.heap.size 3 1 (.slice o3 (dwL (l.take j)).length k3) (dwL (l.take j)).length ((dwL (l.take j)).map (J Z))):=hrow
  have HB:Hid (Below w.heap.size w wr):=hb
  have hbs:=hb.size
  clear hrow hb
  have hdl:(dwL (l.take j)).length<=16:=by have:=qw (l.take j);rw [List.length_take] at this;omega
  by_cases hj:j<l.length
  ·have hj':(j:Int)<(l.length:Int):=by omega
   have hj0:(0:Int)<=(j:Int):=by omega
   have hx:l[j]?=some l[j]:=List.getElem?_eq_getElem hj
   obtain ⟨c0,c1,c2⟩:=(HI.out.below HB.out).val j _ hx
   have HE:Hid _:=jd hx
   generalize l[j]=m at *
   obtain ⟨s,v,d⟩:=m
   simp only at c0 c1 c2 HE
   generalize dwL (l.take j)=L at *
   clear hx
   cases d with
   | false =>
    simp only [Bool.false_eq_true,if_false,List.append_nil] at HE
    go_wp2_with fail
    go_roundg (l.length-(j+1))
    case measure=>omega
    case rel=>exact ⟨j+1,by omega,by go_num,⟨o3,k3,by rw [HE.out]⟩,by rw [HE.out];exact HR.out,HB.out⟩
   | true =>
    simp only [if_true] at HE
    have hone:∀ u∈[J Z (s:Int)],u.oneCell'=true:=fun u hu=>by simp at hu;subst hu;rfl
    go_wp2_with (at_builtin;refine wpList_append_lies _ rfl _ _ 42 rfl w.heap.size 3 i1 _ 1 8 Try.underlying42 hi1 hy0 hy1 hy2 rfl (by decide) (.slice o3 L.length k3) _ _ rfl (HR.out.alloc _) ⟨wr.heap.size,0,none⟩ 1 1 [J Z s] rfl rfl (World.news_of_block (cs:=#[J Z s]) (t:=3) (fr:=(0,0)) (heap_alloc_new wr _)) hone (Nat.lt_succ_self 0) (by unfold maxLen;omega) (by omega) (by simp;omega) (wr.heap.size+1) (by simp) ?_;intro g4 cap4 w4 hown4 hgrow4 hat4 hlt4)
    have HR4:Hid (w4.ownsRow w.heap.size 3 1 (.slice (some ⟨g4,0,none⟩) (L.length+1) cap4) (L++[(s:Int)]).length ((L++[(s:Int)]).map (J Z))):=by
     show World.ownsRow _ _ _ _ _ _ _
     rw [List.length_append,List.map_append]
     exact hown4
    have HB4:Hid (Below w.heap.size w w4):=(HB.out.alloc hbs _).grown hgrow4 (by simp;omega) (fun k hk=>(HR.out.lt k hk).1)
    clear hown4 hgrow4 hat4
    go_roundg (l.length-(j+1))
    case measure=>omega
    case rel=>exact ⟨j+1,by omega,by go_num,⟨some ⟨g4,0,none⟩,cap4,by rw [HE.out];simp⟩,by rw [HE.out];exact HR4.out,HB4.out⟩
  ·have hj':¬ (j:Int)<(l.length:Int):=by omega
   have hje:j=l.length:=by omega
   subst hje
   rw [List.take_length] at HR ⊢
   go_wp2_with fail
   go_ret
   exact ⟨HB.out,o3,k3,rfl,HR.out⟩
def pfH (c:Int) (l:List MB):List Int:=[97,58,c,40]++pfJ c l
theorem QZ (x:List Int):∀ (L:List (List Int)),L≠[]->joi 44 (L++[x])=joi 44 L++[44]++x:=by
 intro L
 induction L with
 | nil=>intro h;exact absurd rfl h
 | cons y L ih =>
  intro _
  by_cases hL:L=[]
  ·subst hL;rfl
  ·rw [List.cons_append,Zc 44 _ (by simp),Zc 44 _ hL,ih hL];simp
theorem QK {c:Int} {l:List MB} {j:Nat} {m:MB} (h:l[j]?=some m):pfH c (l.take (j+1))=pfH c (l.take j)++(if 0<j then [44] else [])++itT c m:=by
 have e:l.take (j+1)=l.take j++[m]:=by rw [List.take_add_one,h];rfl
 have hj:=(List.getElem?_eq_some_iff.1 h).1
 unfold pfH pfJ
 rw [e,List.map_append]
 by_cases h0:0<j
 ·rw [if_pos h0]
  have:(l.take j).map (itT c)≠[]:=fun hh=>by have h3:(l.take j).length=0:=(by rw [List.map_eq_nil_iff.1 hh];rfl);rw [List.length_take] at h3;omega
  simp only [List.map_cons,List.map_nil]
  rw [QZ _ _ this]
  simp
 ·have:j=0:=by omega
  subst this
  simp [joi]
theorem qr (c:Int) (l:List MB):(pfH c l).length<=4+6*l.length:=by
 unfold pfH
 have:=(xO c l).2
 simp only [List.length_append,List.length_cons,List.length_nil]
 omega
def fsW (l:List MB):Int:=match l.find? (fun m=>!m.dn) with | some m=>(m.s:Int) | none=>-1
theorem Q5 {l:List MB} {j:Nat} {m:MB} (h:l[j]?=some m):fsW (l.take (j+1))=if (!m.dn && decide (fsW (l.take j)<0))=true then (m.s:Int) else fsW (l.take j):=by
 have e:l.take (j+1)=l.take j++[m]:=by rw [List.take_add_one,h];rfl
 unfold fsW
 rw [e,List.find?_append]
 cases (l.take j).find? (fun m=>!m.dn) with
 | none=>cases hd:m.dn<;>simp [hd]
 | some y =>
  have:¬ (y.s:Int)<0:=by omega
  simp [this]
theorem J0 (l:List MB):fsV l=if fsW l<0 then 63 else fsW l:=by
 unfold fsV fsW
 cases l.find? (fun m=>!m.dn) with
 | none=>rfl
 | some y=>simp only;rw [if_neg (by omega)]
theorem s44:(⟨#[44]⟩:ByteArray)=strOfNums [44]:=rfl
theorem zat:(⟨#[124,123,54,51,125,41]⟩:ByteArray)=strOfNums [124,123,54,51,125,41]:=rfl
theorem zau (c:Int) (l:List MB):pfT c l=strOfNums (pfH c l)++strOfNums [124,123,54,51,125,41]:=by
 rw [Yz];unfold pfT pfL pfH;simp
def wdP (l:List MB) (d:Int) (o:Option Addr) (g k:Nat):WD:=⟨0,0,d,o,g,0,(dwL l).length,k,fun i=>((dwL l)[i]?).getD 0,none,0,0,0,[],none,0,0,0,0,fun _=>0,fun _=>0,fun _=>0⟩
theorem JB (l:List MB) (d:Int) (o:Option Addr) (g k:Nat):PfW (wdP l d o g k) l d:=⟨rfl,rfl,rfl,rfl,rfl,fun _ _=>rfl⟩
theorem JJ {w:World} {l:List MB} (d:Int) {o:Option Addr} {g:Nat} (k:Nat) (hl:l.length<=16) (h:IS w o g 0 (dwL l).length (fun i=>((dwL l)[i]?).getD 0)):(wdP l d o g k).In w:=by
 have h1:=qw l
 refine ⟨⟨fun h=>?_,fun h=>?_,fun i hi=>?_,fun i hi=>?_,fun i hi=>?_⟩,h,⟨fun h=>?_,fun h=>?_,fun k l h=>?_,fun l h=>?_⟩,?_,?_⟩
 all_goals first | (exact absurd h (by simp [wdP])) | (exact absurd hi (by simp [wdP])) | (simp [wdP] at h) | (simp [wdP];omega) | (simp [wdP])
theorem Jm (o:Option Addr) (n k:Nat) (d:Int) (w:World):(Instr.build 46 #[(3,.slice o n k),(2,J Z d)]).run Try.prog w=.ok (.agg #[J Z 0,J Z 0,J Z d,.slice o n k,.slice none 0 0,.slice none 0 0]) w:=run_build w 46 _ _ (by kernel_rfl)
theorem qR {w:World} {l:List MB} {c v:Int} (hc:c=119\/c=102) (hok:Qr l) {d:Int} (d0:0<=d) (d1:d<4294967296) {o:Option Addr} {k g:Nat} (h:IS w o g 0 (dwL l).length (fun i=>((dwL l)[i]?).getD 0)) (hv:(wdP l d o g k).an (pfT c l)=([v],86400,0)) :
 Calls Try.prog 15 #[.string (pfT c l),.agg #[J Z 0,J Z 0,J Z d,.slice o (dwL l).length k,.slice none 0 0,.slice none 0 0]] w (zae w [v] 86400 0):=by
 have hf:=zai hc hok
 have hr:=(JB l d o g k).right d0 d1
 have:=Qn (pfT c l) (wdP l d o g k) [v] 86400 0 w (JJ d k hok.le h) hf (by rw [JQ (by simp [Q7,hf]) hr,hv]) (by decide) (by decide) (by decide) (by decide)
 exact this
theorem qa (o:Option Addr) (b off n c:Nat) (S W:Nat->Int) (D:Nat->Bool) (dr:Int) (w:World) (hn:n*24<=140737488351232) (h:MI w o b off n S W D) (d0:-9223372036854775808<=dr) (d1:dr<=9223372036854775807) :
 Calls Try.prog 5 #[.slice o n c,J Z dr] w fun e w'=>e=.returned (.bool true)/\Below w.heap.size w w':=by
 have HS:Hid (Calls Try.prog 12 #[.slice o n c] w (zao w)):=QA o b off n c S W D w hn h
 have HAD:Hid _:=fun wz=>Xc dr wz d0 d1
 clear h hn d0 d1
 have hpk:=X0 (c:=dr) (n:=4294967296) (by decide)
 generalize pkF dr 4294967296=d at *
 go_enter Try.func5,Try.ntmps5
 go_wp2_with fail
 refine HS.out.mono ?_
 rintro e w1 ⟨hb,l,g,k,hok,rfl,hrow⟩
 have HB1:Hid (Below w.heap.size w w1):=hb
 have HOK:Hid (Qr l):=hok
 have HM1:Hid (MR w1 g l):=zal hok.ne hrow
 have hl16:=hok.le
 clear hb hok hrow HS
 go_wp2_with fail
 go_loopg [6,7,8] l.length (fun q x6 x7 y wr=>∃ (j:Nat),q+j=l.length/\y=J Z j/\x6=.string (strOfNums (pfH 102 (l.take j)))/\x7=J Z (fsW (l.take j))/\Below w1.heap.size w1 wr)
 case atStart=>exact ⟨0,by omega,rfl,rfl,rfl,Below.refl _ _⟩
 case round =>
  obtain ⟨j,hq,rfl,rfl,rfl,hb⟩:=hrel
  have HB:Hid (Below w1.heap.size w1 wr):=hb
  clear hb
  by_cases hj:j<l.length
  ·have hj':(j:Int)<(l.length:Int):=by omega
   have hj0:(0:Int)<=(j:Int):=by omega
   have hx:l[j]?=some l[j]:=List.getElem?_eq_getElem hj
   have hsv:=HOK.out.sv _ (List.mem_of_getElem? hx)
   have HE1:Hid _:=QK (c:=102) hx
   have HE2:Hid _:=Q5 hx
   have HCC:Hid (∀ wz,Below w1.heap.size w1 wz->_):=fun wz hz=>(HM1.out.below hz).val j _ hx
   have hln:=qr 102 (l.take j)
   have hlt:(l.take j).length<=16:=by rw [List.length_take];omega
   generalize l[j]=m at *
   obtain ⟨s,v,dn⟩:=m
   simp only [itT,show ¬ ((102:Int)=119) by decide,if_false] at HE1 HE2 HCC hsv
   have hdg:=xY s
   have HDG:Hid _:=fun wz=>Je s wz (by omega)
   generalize pfH 102 (l.take j)=P at *
   generalize fsW (l.take j)=F at *
   obtain ⟨P1,HP1⟩:∃ P1,Hid (P++(if 0<j then [44] else [])=P1):=⟨P++(if 0<j then [44] else []),(rfl:_=_)⟩
   rw [HP1.out] at HE1
   have hps:(strOfNums P).size=P.length:=strOfNums_size _
   have hps1:(strOfNums P1).size<=200:=by rw [strOfNums_size,<- HP1.out,List.length_append];split<;>simp<;>omega
   have hds:(strOfNums (dgL s)).size<=2:=by rw [strOfNums_size];omega
   go_upto_if 20 with fail
   go_cut [6] (fun s6 wx=>s6=.string (strOfNums P1)/\wx=wr)
   case first =>
    by_cases h0:0<j
    ·have h0':(0:Int)<(j:Int):=by omega
     rw [if_pos h0] at HP1
     go_wp2_with fail
     go_meet
     exact ⟨by rw [s44,Yz,HP1.out],rfl⟩
    ·have h0':¬ (0:Int)<(j:Int):=by omega
     rw [if_neg h0,List.append_nil] at HP1
     go_wp2_with fail
     go_meet
     exact ⟨by rw [HP1.out],rfl⟩
   case rest =>
   obtain ⟨rfl,hw0⟩:=hcut
   subst wc
   clear HP1
   obtain ⟨c0,c1,c2⟩:=HCC.out wr HB.out
   go_wp2_with fail
   refine (HDG.out _).mono ?_
   rintro e w2 ⟨rfl,hb⟩
   have HB2:Hid (Below w1.heap.size w1 w2):=HB.out.trans (hb.mono HB.out.size)
   obtain ⟨e0,e1,e2⟩:=HCC.out w2 HB2.out
   clear hb c0 c1 c2
   go_upto_region 10 with fail
   rw [Yz,<- HE1.out]
   go_cut [40] (fun s40 wx=>s40=.bool (!dn && decide (F<0))/\wx=w2)
   case first =>
    cases dn with
    | false =>
     go_wp2_with fail
     go_meet
     exact ⟨rfl,rfl⟩
    | true =>
     go_wp2_with fail
     go_meet
     exact ⟨rfl,rfl⟩
   case rest =>
   obtain ⟨rfl,hw0⟩:=hcut
   subst wc
   generalize (!dn && decide (F<0))=q at *
   cases q with
   | true =>
    rw [if_pos rfl] at HE2
    go_wp2_with fail
    go_roundg (l.length-(j+1))
    case measure=>omega
    case rel=>exact ⟨j+1,by omega,by go_num,rfl,by rw [HE2.out],HB2.out⟩
   | false =>
    rw [if_neg (by simp)] at HE2
    go_wp2_with fail
    go_roundg (l.length-(j+1))
    case measure=>omega
    case rel=>exact ⟨j+1,by omega,by go_num,rfl,by rw [HE2.out],HB2.out⟩
  ·have hj':¬ (j:Int)<(l.length:Int):=by omega
   have hje:j=l.length:=by omega
   subst hje
   rw [List.take_length]
   have HFS:Hid _:=J0 l
   have HTX:Hid _:=zau 102 l
   have hln:=qr 102 l
   have hps:(strOfNums (pfH 102 l)).size=(pfH 102 l).length:=strOfNums_size _
   have HDW:Hid (Calls Try.prog 14 #[.slice (some ⟨g,0,none⟩) l.length k] wr (zaq l wr)):=Qc g k l wr hl16 (HM1.out.below HB.out)
   have HBW:Hid (Below w.heap.size w wr):=HB1.out.trans (HB.out.mono HB1.out.size)
   generalize pfH 102 l=P at *
   generalize fsW l=F at *
   go_upto_if 47 with fail
   go_cut [7] (fun s7 wx=>s7=J Z (fsV l)/\wx=wr)
   case first =>
    by_cases hF:F<0
    ·rw [if_pos hF] at HFS
     go_wp2_with fail
     go_meet
     exact ⟨by rw [HFS.out],rfl⟩
    ·rw [if_neg hF] at HFS
     go_wp2_with fail
     go_meet
     exact ⟨by rw [HFS.out],rfl⟩
   case rest =>
   obtain ⟨rfl,hw0⟩:=hcut
   subst wc
   have hbw:=fun o n k d w=>Jm o n k d w
   have HAN:Hid (∀ (wz:World) (o3:Option Addr) (k3:Nat),wz.ownsRow wr.heap.size 3 1 (.slice o3 (dwL l).length k3) (dwL l).length ((dwL l).map (J Z))->Calls Try.prog 15 #[.string (strOfNums P++⟨#[124,123,54,51,125,41]⟩),.agg #[J Z 0,J Z 0,J Z d,.slice o3 (dwL l).length k3,.slice none 0 0,.slice none 0 0]] wz (zae wz [fsV l] 86400 0)):=fun wz o3 k3 hz=>by
    rw [zat,<- HTX.out]
    obtain ⟨g3,his⟩:=qY hz
    exact qR (.inr rfl) HOK.out hpk.1 hpk.2 his (Q8 HOK.out (JB l d o3 g3 k3))
   clear HTX HFS hj'
   go_wp2_with fail
   refine HDW.out.mono ?_
   rintro e w3 ⟨hb,o3,k3,rfl,hrow⟩
   have HB3:Hid (Below w.heap.size w w3):=HBW.out.trans (hb.mono HBW.out.size)
   have HC:=HAN.out w3 o3 k3 hrow
   clear hb hrow HDW HAN
   go_wp2_with fail
   refine (HAD.out _).mono ?_
   rintro e w' ⟨rfl,hw'⟩
   subst w'
   go_wp2_with fail
   refine HC.mono ?_
   rintro e w4 ⟨hb,o4,k4,rfl,hrow⟩
   have HB4:Hid (Below w.heap.size w w4):=HB3.out.trans (hb.mono HB3.out.size)
   have HB5:Hid (Below w.heap.size w (w4.alloc (.cells #[.slice o4 1 k4,J Z 86400,J Z 0] 48))):=HB4.out.alloc HB4.out.size _
   have hrow5:=hrow.alloc (.cells #[.slice o4 1 k4,J Z 86400,J Z 0] 48)
   rcases hrow5.2 with ⟨_,h2⟩ | ⟨g4,cap,cur,h1,-⟩
   ·cases h2
   cases h1
   have hc0:=World.ownsRow.cellAt hrow5 0 (by simp)
   simp only [List.map_cons,List.map_nil,List.getElem?_cons_zero] at hc0
   obtain ⟨a0,a1,a2,-,-,-⟩:=ld3 (heap_alloc_new w4 (.cells #[.slice (some ⟨g4,0,none⟩) 1 k4,J Z 86400,J Z 0] 48))
   clear hb hrow hrow5 HC
   generalize fsV l=V at *
   have hV:(V==V)=true:=by simp
   go_wp2_with fail
   go_ret
   exact ⟨rfl,HB5.out⟩
section
open Go.ChangeShapes Go.WideShapes Go.ChangeAt Go.RowKit
theorem XJ:Try.prog.cellsOf 41=3:=by kernel_rfl
theorem jl:Try.prog.bytesOf 41=24:=by kernel_rfl
theorem Qg:Try.prog.cellsOf 4=1:=by kernel_rfl
section
variable {H:Type} {enc:TypeId×Value->H} {w:World} {base:Nat} {spare:Nat->Bool} {held:Bool}
theorem Xs {n:Nat} {cs:List Value} {x:DataW H×List MemPlace} (h:DataW.trod enc Try.prog w base spare held n 41 cs=some x) :
 ∃ (a b:Int) (c:Bool),cs=[J Z a,J Z b,.bool c]/\(Lit.int .i64 a).wf=true/\(Lit.int .i64 b).wf=true:=by
 obtain ⟨y0,y1,y2,m,_,hlen,h0,h1,h2⟩:=Deep.trod_struct3 Try.underlying41 h
 rw [XJ] at hlen
 match cs,hlen with
 | [c0,c1,c2],_ =>
  obtain ⟨a,ea,_,wa⟩:=DataW.trod_int Try.underlying3 h0
  obtain ⟨b,eb,_,wb⟩:=DataW.trod_int Try.underlying3 h1
  obtain ⟨c,ec,_⟩:=DataW.trod_bool Try.underlying4 h2
  simp [jh,Qg] at ea eb ec
  exact ⟨a,b,c,by rw [ea,eb,ec],wa,wb⟩
theorem xP {fuel:Nat} {ao:Option Addr} {len cap:Nat} {d:DataW H} {p:List MemPlace} (h:DataW.trod enc Try.prog w base spare held fuel 37 [.slice ao len cap]=some (d,p)) :
 (∃ b off S W D,MI w ao b off len S W D)/\(d=.nil/\len=0\/∃ el sp,d=.slice el sp/\el.length=len):=by
 have hnil:∀ ao,MI w ao 0 0 0 (fun _=>0) (fun _=>0) (fun _=>false):=fun ao=>⟨fun h=>by omega,fun h=>by omega,fun i hi=>by omega,fun i hi=>by omega⟩
 rcases Deep.open_slice Try.underlying37 h with ⟨hcs,hx⟩ | ⟨a,l,c,m,n,D,Pl,hcs,hb,hl,hm,hmm,hx,hel⟩
 ·simp at hcs hx
  obtain ⟨rfl,rfl,rfl⟩:=hcs
  exact ⟨⟨0,0,_,_,_,hnil _⟩,.inl ⟨hx.1,rfl⟩⟩
 ·simp at hcs hx
  obtain ⟨rfl,rfl,rfl⟩:=hcs
  refine ⟨?_,.inr ⟨_,_,hx.1,by simp⟩⟩
  have hlm:len<=m:=by rw [hmm];split<;>omega
  rw [XJ] at hel
  obtain ⟨F,hF⟩:=Deep.choose_lt (α:=Int×Int×Bool) (n:=len) (p:=fun i y=>(∀ j,j<3->w.cell? ((a.add (i*3)).add j)=[J Z y.1,J Z y.2.1,.bool y.2.2][j]?)/\-9223372036854775808<=y.1/\y.1<=9223372036854775807/\-9223372036854775808<=y.2.1/\y.2.1<=9223372036854775807) (fun i hi=>by
   obtain ⟨cs',h1,h2⟩:=hel i (by omega)
   obtain ⟨x,y,z,rfl,w1,w2⟩:=Xs h2
   obtain ⟨_,_,hc⟩:=World.cells?_some h1
   have b1:=bounds_i64 w1
   have b2:=bounds_i64 w2
   exact ⟨(x,y,z),hc,b1.1,b1.2,b2.1,b2.2⟩)
  by_cases hl0:len=0
  ·subst hl0
   exact ⟨0,0,_,_,_,hnil _⟩
  ·obtain ⟨b,off,spot⟩:=a
   have hc0:=(hF 0 (by omega)).1 0 (by omega)
   have hspot:spot=none:=by simpa [Addr.add] using World.cell?_spot hc0
   subst hspot
   have hlt:b<w.heap.size:=by
    have:=hc0
    simp [Addr.add] at this
    exact Xx this
   refine ⟨b,off,fun i=>(F i).1,fun i=>(F i).2.1,fun i=>(F i).2.2,⟨fun _=>rfl,fun _=>hlt,fun i hi=>?_,fun i hi=>(hF i hi).2⟩⟩
   have h0:=(hF i hi).1 0 (by omega)
   have h1:=(hF i hi).1 1 (by omega)
   have h2:=(hF i hi).1 2 (by omega)
   rw [add_plain,add_plain] at h0 h1 h2
   exact ⟨h0,h1,h2⟩
end
end
end Go.Proofs.Ytaebngpoagjafaa
