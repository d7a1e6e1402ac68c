import Derived.Test.YtaebngpoagjafabGreatV09
import Derived.Test.YtaebngpoagjafabGreatV21
set_option maxRecDepth 100000
set_option maxHeartbeats 800000
namespace Go.Proofs.YtaebngpoagjafabGreat
open Obj renaming cells → Q
open Value renaming int → J, slice → O
open IntKind renaming i64 → Z
open Go.RowKit
attribute [local go_sem ↓] Go.wp_at_zero Go.wp_at_succ
def atF (K:List Int) (i:Int):Int:=if i<0 then 0 else (K[i.toNat]?).getD 0
def NV (w:World) (ko:Option Addr) (K:List Int):Prop:=∀ i v,K[i]?=some v->∃ g,ko=some ⟨g,0,none⟩/\g<w.heap.size/\w.cell? ⟨g,i,none⟩=some (J Z v)
theorem NV.below {w w':World} {ko:Option Addr} {K:List Int} (h:NV w ko K) (hb:Below w.heap.size w w'):NV w' ko K:=fun i v hv=>by
 obtain ⟨g,h1,h2,h3⟩:=h i v hv
 exact ⟨g,h1,Nat.lt_of_lt_of_le h2 hb.size,by rw [hb.cell (p:=⟨g,i,none⟩) h2];exact h3⟩
theorem zdH (ko:Option Addr) (kc:Nat) (K:List Int) (i:Int) (w:World) (h:NV w ko K) :
 Calls Tryz.prog 131 #[O ko K.length kc,J Z i] w fun e w'=>w'=w/\e=.returned (J Z (atF K i)):=by
 by_cases h0:i<0
 ·have HE:Hid (atF K i=0):=by show _=_;unfold atF;rw [if_pos h0]
  go_enter Tryz.func131,Tryz.ntmps131
  go_wp2_with fail
  go_ret
  exact ⟨rfl,by rw [HE.out];rfl⟩
 ·obtain ⟨j,rfl⟩:∃ j:Nat,i=j:=⟨i.toNat,by omega⟩
  have h0':¬ (j:Int)<0:=h0
  have h00:(0:Int)<=(j:Int):=by omega
  by_cases h1:j<K.length
  ·have hv:K[j]?=some K[j]:=List.getElem?_eq_getElem h1
   obtain ⟨g,rfl,hg,hc⟩:=h j _ hv
   have HE:Hid (atF K j=K[j]):=by show _=_;unfold atF;rw [if_neg h0,Int.toNat_natCast,hv];rfl
   have h1':(j:Int)<(K.length:Int):=by omega
   have h2':¬ (K.length:Int)<=(j:Int):=by omega
   generalize K[j]=v at *
   clear h hv
   go_enter Tryz.func131,Tryz.ntmps131
   go_wp2_with fail
   go_ret
   exact ⟨rfl,by rw [HE.out];rfl⟩
  ·have HE:Hid (atF K j=0):=by show _=_;unfold atF;rw [if_neg h0,Int.toNat_natCast,List.getElem?_eq_none (by omega)];rfl
   have h1':(K.length:Int)<=(j:Int):=by omega
   clear h
   go_enter Tryz.func131,Tryz.ntmps131
   go_wp2_with fail
   go_ret
   exact ⟨rfl,by rw [HE.out];rfl⟩
theorem xc {K:List Int} (h:∀ k∈K,0<=k/\k<=1001) (i:Int):0<=atF K i/\atF K i<=1001:=by
 unfold atF
 split
 ·omega
 ·cases hk:K[i.toNat]? with
  | none=>simp
  | some k=>simpa using h k (List.mem_of_getElem? hk)
def yC (K:List Int) (l:List IM):Nat->Int
 | 0=>0
 | j+1=>yC K l j+(match l[j]? with | some x=>atF K x.arm | none=>0)
theorem xS {K:List Int} (h:∀ k∈K,0<=k/\k<=1001) (l:List IM):∀ j,0<=yC K l j/\yC K l j<=1001*j:=by
 intro j
 induction j with
 | zero=>simp [yC]
 | succ j ih =>
  simp only [yC]
  cases hx:l[j]? with
  | none=>simp only;omega
  | some x=>have:=xc h x.arm;simp only;omega
def szE (e:EX) (K:List Int):Int:=Ze (atF K e.inner+(if e.kind=61 then 0 else 1+(e.items.length:Int))+yC K e.items e.items.length)
theorem jh (e:EX) (vo:Option Addr) (vm vc:Nat) (ko:Option Addr) (kc:Nat) (K:List Int) (w:World) (h:NV w ko K) (hb:∀ k∈K,0<=k/\k<=1001) (hl:e.items.length<=100000) (hv:IV w (O vo vm vc) e.items) (hvg:∀ g,(O vo vm vc).ownBlock=some g->g<w.heap.size) :
 Calls Tryz.prog 92 #[.agg #[J .u8 e.kind,J Z e.at_,J Z e.depth,J Z e.nv,J Z e.na,O vo vm vc,J Z e.inner],O ko K.length kc] w fun r w'=>Below w.heap.size w w'/\r=.returned (J Z (szE e K)):=by
 have HA:Hid (Below w.heap.size w (w.alloc (Q #[J .u8 e.kind,J Z e.at_,J Z e.depth,J Z e.nv,J Z e.na,O vo vm vc,J Z e.inner] 148))):=(Below.refl _ _).alloc (Nat.le_refl _) _
 have HX:Hid ((w.alloc (Q #[J .u8 e.kind,J Z e.at_,J Z e.depth,J Z e.nv,J Z e.na,O vo vm vc,J Z e.inner] 148)).heap[w.heap.size]?=some (Q #[J .u8 e.kind,J Z e.at_,J Z e.depth,J Z e.nv,J Z e.na,O vo vm vc,J Z e.inner] 148 (0,0))):=heap_alloc_new w _
 have hat:=fun wz hz i=>zdH ko kc K i wz hz
 have HAT:Hid _:=hat
 have HN0:Hid _:=h.below HA.out
 have hin:=xc hb e.inner
 have HSB:Hid (∀ j,0<=yC K e.items j/\yC K e.items j<=1001*j):=xS hb e.items
 have HBD:Hid (∀ i,0<=atF K i/\atF K i<=1001):=xc hb
 have HV:Hid _:=hv
 have HS:Hid (szE e K=Ze (atF K e.inner+(if e.kind=61 then 0 else 1+(e.items.length:Int))+yC K e.items e.items.length)):=rfl
 have hvm:vm=e.items.length:=by
  rcases hv with ⟨h1,h2⟩ | ⟨g,cap,h1,_⟩
  ·cases h1;rw [h2];rfl
  ·cases h1;rfl
 subst hvm
 obtain ⟨z0,hz0⟩:∃ z0,atF K e.inner=z0:=⟨_,rfl⟩
 obtain ⟨z1,hz1⟩:∃ z1,z0+(if e.kind=61 then 0 else 1+(e.items.length:Int))=z1:=⟨_,rfl⟩
 rw [hz0,hz1] at HS
 have HAI:Hid (∀ wz,NV wz ko K->Calls Tryz.prog 131 #[O ko K.length kc,J Z e.inner] wz fun e w'=>w'=wz/\e=.returned (J Z z0)):=fun wz hz=>by have:=hat wz hz e.inner;rw [hz0] at this;exact this
 rw [hz0] at hin
 clear hat hz0 hb hv
 go_enter Tryz.func92,Tryz.ntmps92
 go_wp2_with fail
 refine (HAI.out _ HN0.out).mono ?_
 rintro r w1 ⟨hw1,rfl⟩
 subst w1
 have hz1b:0<=z1/\z1<=102002:=by rw [<- hz1];split<;>omega
 cases ek:(e.kind==61) with
 | true =>
  have ek2:(e.kind != 61)=false:=by simp [bne,ek]
  have hz2:z1=z0:=by rw [<- hz1,if_pos (by simpa using ek)];omega
  clear hz1
  subst hz2
  go_wp2_with fail
  go_loopg [5,24] e.items.length (fun q a y wr=>∃ j:Nat,q+j=e.items.length/\a=J Z (z1+yC K e.items j)/\y=J Z j/\Below w.heap.size w wr)
  case atStart=>exact ⟨0,by omega,by simp [yC],rfl,HA.out⟩
  case round =>
   obtain ⟨j,hn,rfl,rfl,hbr⟩:=hrel
   have HBR:Hid _:=hbr
   have hsj:=HSB.out j
   clear hbr
   by_cases hlt:j<e.items.length
   ·obtain ⟨x,hx⟩:∃ x,e.items[j]?=some x:=⟨e.items[j],List.getElem?_eq_getElem hlt⟩
    have hj0:(0:Int)<=(j:Int):=by omega
    have hj1:(j:Int)<(e.items.length:Int):=by omega
    rcases HV.out with ⟨_,h2⟩ | ⟨g,cap,h1,h2,h3⟩
    ·rw [h2] at hlt;simp at hlt
    ·cases h1
     have hgl:g<w.heap.size:=hvg g rfl
     obtain ⟨r0,r1,r2,r3,r4,r5,r6⟩:=h3 j x hx
     have hcg:∀ q,wr.cell? ⟨g,q,none⟩=w.cell? ⟨g,q,none⟩:=fun q=>HBR.out.cell (p:=⟨g,q,none⟩) hgl
     rw [<- hcg] at r0 r1 r2 r3 r4 r5 r6
     have HJ:Hid (yC K e.items (j+1)=yC K e.items j+atF K x.arm):=by show _=_;simp only [yC,hx]
     have HBA:Hid (Below w.heap.size w (wr.alloc (Q #[J Z x.at_,J Z x.num,J Z x.pv,J Z x.pl,J Z x.wv,J Z x.wa,J Z x.arm] 155))):=HBR.out.alloc HBR.out.size _
     have HNA:Hid _:=h.below HBA.out
     have hab:=HBD.out x.arm
     have HAX:Hid (∀ wz,NV wz ko K->Calls Tryz.prog 131 #[O ko K.length kc,J Z x.arm] wz fun e w'=>w'=wz/\e=.returned (J Z (atF K x.arm))):=fun wz hz=>HAT.out wz hz x.arm
     generalize hsm:yC K e.items j=sm at *
     generalize hax:atF K x.arm=ax at *
     clear hsm hax h3 hcg hx
     go_wp2_with fail
     refine (HAX.out _ HNA.out).mono ?_
     rintro r w3 ⟨hw3,rfl⟩
     subst w3
     go_wp2_with fail
     go_roundg (gk-1)
     case measure=>omega
     case rel=>exact ⟨j+1,by omega,by rw [HJ.out];go_num,by go_num,HBA.out⟩
   ·have hd:¬ ((j:Int)<(e.items.length:Int)):=by omega
    have hje:j=e.items.length:=by omega
    rw [hje] at hsj hd ⊢
    clear hje hn hlt
    generalize hsm:yC K e.items e.items.length=sm at *
    clear hsm
    by_cases hc:1000<z1+sm
    ·have HE:Hid (szE e K=1001):=by show _=_;rw [HS.out];unfold Ze;rw [if_pos hc]
     go_wp2_with fail
     go_ret
     exact ⟨HBR.out,by rw [HE.out];rfl⟩
    ·have HE:Hid (szE e K=z1+sm):=by show _=_;rw [HS.out];unfold Ze;rw [if_neg hc]
     have hc':z1+sm<=1000:=by omega
     clear hc
     go_wp2_with fail
     go_ret
     exact ⟨HBR.out,by rw [HE.out];rfl⟩
 | false =>
  have ek2:(e.kind != 61)=true:=by simp [bne,ek]
  have hz2:z1=z0+1+(e.items.length:Int):=by rw [<- hz1,if_neg (by simpa using ek)];omega
  clear hz1
  subst hz2
  go_wp2_with fail
  go_loopg [5,24] e.items.length (fun q a y wr=>∃ j:Nat,q+j=e.items.length/\a=J Z ((z0+1+(e.items.length:Int))+yC K e.items j)/\y=J Z j/\Below w.heap.size w wr)
  case atStart=>exact ⟨0,by omega,by simp [yC],rfl,HA.out⟩
  case round =>
   obtain ⟨j,hn,rfl,rfl,hbr⟩:=hrel
   have HBR:Hid _:=hbr
   have hsj:=HSB.out j
   clear hbr
   by_cases hlt:j<e.items.length
   ·obtain ⟨x,hx⟩:∃ x,e.items[j]?=some x:=⟨e.items[j],List.getElem?_eq_getElem hlt⟩
    have hj0:(0:Int)<=(j:Int):=by omega
    have hj1:(j:Int)<(e.items.length:Int):=by omega
    rcases HV.out with ⟨_,h2⟩ | ⟨g,cap,h1,h2,h3⟩
    ·rw [h2] at hlt;simp at hlt
    ·cases h1
     have hgl:g<w.heap.size:=hvg g rfl
     obtain ⟨r0,r1,r2,r3,r4,r5,r6⟩:=h3 j x hx
     have hcg:∀ q,wr.cell? ⟨g,q,none⟩=w.cell? ⟨g,q,none⟩:=fun q=>HBR.out.cell (p:=⟨g,q,none⟩) hgl
     rw [<- hcg] at r0 r1 r2 r3 r4 r5 r6
     have HJ:Hid (yC K e.items (j+1)=yC K e.items j+atF K x.arm):=by show _=_;simp only [yC,hx]
     have HBA:Hid (Below w.heap.size w (wr.alloc (Q #[J Z x.at_,J Z x.num,J Z x.pv,J Z x.pl,J Z x.wv,J Z x.wa,J Z x.arm] 155))):=HBR.out.alloc HBR.out.size _
     have HNA:Hid _:=h.below HBA.out
     have hab:=HBD.out x.arm
     have HAX:Hid (∀ wz,NV wz ko K->Calls Tryz.prog 131 #[O ko K.length kc,J Z x.arm] wz fun e w'=>w'=wz/\e=.returned (J Z (atF K x.arm))):=fun wz hz=>HAT.out wz hz x.arm
     generalize hsm:yC K e.items j=sm at *
     generalize hax:atF K x.arm=ax at *
     clear hsm hax h3 hcg hx
     go_wp2_with fail
     refine (HAX.out _ HNA.out).mono ?_
     rintro r w3 ⟨hw3,rfl⟩
     subst w3
     go_wp2_with fail
     go_roundg (gk-1)
     case measure=>omega
     case rel=>exact ⟨j+1,by omega,by rw [HJ.out];go_num,by go_num,HBA.out⟩
   ·have hd:¬ ((j:Int)<(e.items.length:Int)):=by omega
    have hje:j=e.items.length:=by omega
    rw [hje] at hsj hd ⊢
    clear hje hn hlt
    generalize hsm:yC K e.items e.items.length=sm at *
    clear hsm
    by_cases hc:1000<(z0+1+(e.items.length:Int))+sm
    ·have HE:Hid (szE e K=1001):=by show _=_;rw [HS.out];unfold Ze;rw [if_pos hc]
     go_wp2_with fail
     go_ret
     exact ⟨HBR.out,by rw [HE.out];rfl⟩
    ·have HE:Hid (szE e K=(z0+1+(e.items.length:Int))+sm):=by show _=_;rw [HS.out];unfold Ze;rw [if_neg hc]
     have hc':(z0+1+(e.items.length:Int))+sm<=1000:=by omega
     clear hc
     go_wp2_with fail
     go_ret
     exact ⟨HBR.out,by rw [HE.out];rfl⟩
def szK (es:List EX):Nat->List Int
 | 0=>[]
 | j+1=>szK es j++[match es[j]? with | some e=>szE e (szK es j) | none=>0]
def szR (es:List EX):Nat->Int
 | 0=>0
 | j+1=>match es[j]? with | some e=>szE e (szK es j) | none=>0
theorem ZQ (es:List EX):∀ j,(szK es j).length=j:=by
 intro j
 induction j with
 | zero=>rfl
 | succ j ih=>simp [szK,ih]
theorem zaH {e:EX} {K:List Int} (h:∀ k∈K,0<=k/\k<=1001):0<=szE e K/\szE e K<=1001:=by
 unfold szE
 have h1:=xc h e.inner
 have h2:=xS h e.items e.items.length
 refine Xq ?_
 split<;>omega
theorem XB (es:List EX):∀ j,∀ k∈szK es j,0<=k/\k<=1001:=by
 intro j
 induction j with
 | zero=>intro k hk;simp [szK] at hk
 | succ j ih =>
  intro k hk
  simp only [szK,List.mem_append,List.mem_singleton] at hk
  rcases hk with hk | hk
  ·exact ih k hk
  ·subst hk
   cases hx:es[j]? with
   | none=>simp
   | some e=>exact zaH ih
theorem Jf {w:World} {base:Nat} {ev:Value} {es:List (EX×Value)} (hex:w.ownsRow base 148 7 ev es.length (exC es)) (hit:∀ p∈es,w.ownsRow base 155 7 p.2 p.1.items.length (imC p.1.items)) :
 ∃ eo ec,ev=O eo es.length ec/\∀ i x,es[i]?=some x->∃ g vo vm vc,eo=some ⟨g,0,none⟩/\g<w.heap.size/\w.cell? ⟨g,i*7,none⟩=some (J .u8 x.1.kind)/\w.cell? ⟨g,i*7+1,none⟩=some (J Z x.1.at_)/\w.cell? ⟨g,i*7+2,none⟩=some (J Z x.1.depth)/\w.cell? ⟨g,i*7+3,none⟩=some (J Z x.1.nv)/\w.cell? ⟨g,i*7+4,none⟩=some (J Z x.1.na)/\w.cell? ⟨g,i*7+5,none⟩=some (O vo vm vc)/\w.cell? ⟨g,i*7+6,none⟩=some (J Z x.1.inner)/\IV w (O vo vm vc) x.1.items/\(∀ q,(O vo vm vc).ownBlock=some q->q<w.heap.size):=by
 have h0:=hex
 rcases hex.2 with ⟨h1,h2⟩ | ⟨g,cap,cur,rfl,h1,h2,_⟩
 ·have:es=[]:=List.eq_nil_of_length_eq_zero h2
  subst this
  exact ⟨none,0,h1,fun i x hx=>by simp at hx⟩
 ·refine ⟨_,cap,rfl,fun i x hx=>?_⟩
  have hx2:=hit x (List.mem_of_getElem? hx)
  have hc:=fun j hj=>z6 exV (fun _=>rfl) h0 hx j hj
  have hiv:∃ vo vm vc,x.2=O vo vm vc/\IV w (O vo vm vc) x.1.items:=by
   have h3:=hx2
   rcases hx2.2 with ⟨q1,q2⟩ | ⟨g',cap',cur',q1,q2,q3,q4,_⟩
   ·exact ⟨none,0,0,q1,.inl ⟨rfl,List.eq_nil_of_length_eq_zero q2⟩⟩
   ·rw [q1] at h3
    have hd:=fun i y hy j hj=>z6 imV (fun _=>rfl) h3 (i:=i) (x:=y) hy j hj
    exact ⟨_,_,_,q1,.inr ⟨g',cap',rfl,q4,fun i y hy=>⟨hd i y hy 0 (by decide),hd i y hy 1 (by decide),hd i y hy 2 (by decide),hd i y hy 3 (by decide),hd i y hy 4 (by decide),hd i y hy 5 (by decide),hd i y hy 6 (by decide)⟩⟩⟩
  obtain ⟨vo,vm,vc,hv,hiv⟩:=hiv
  have h5:w.cell? ⟨g,i*7+5,none⟩=some (O vo vm vc):=by rw [<- hv];exact hc 5 (by decide)
  exact ⟨g,vo,vm,vc,rfl,lt_of_block h2,hc 0 (by decide),hc 1 (by decide),hc 2 (by decide),hc 3 (by decide),hc 4 (by decide),h5,hc 6 (by decide),hiv,fun q hq=>(hx2.lt q (by rw [hv];exact hq)).2⟩
theorem Zb (s:ByteArray):∀ (n:Nat) (rs:List RL) (m k:Nat) (b:Bool),k<=s.size->(zw s n rs m k b).es.length+k<=(zw s n rs m k b).k/\(zw s n rs m k b).k<=s.size:=by
 intro n
 induction n with
 | zero=>intro rs m k b hk;simp [zw];exact hk
 | succ n ih =>
  intro rs m k b hk
  have h1:=ZM s rs m k b hk
  simp only [zw]
  generalize zB s rs m k b=r at *
  have h2:=zi s 59 r.k r.b
  have h3:zc s 59 r.k r.b<=s.size:=zq (by decide) h1.2.1
  split
  ·have h4:=ih (rs++[r.rl]) (m+r.es.length) (zc s 59 r.k r.b) r.b h3
   simp only [List.length_append]
   omega
  ·simp only
   omega
theorem zaw (eo:Option Addr) (ec:Nat) (rv:Value) (base:Nat) (es:List (EX×Value)) (w:World) (hr:∃ ro rm rc,rv=O ro rm rc) (hex:w.ownsRow base 148 7 (O eo es.length ec) es.length (exC es)) (hit:∀ p∈es,w.ownsRow base 155 7 p.2 p.1.items.length (imC p.1.items)) (hl:es.length<=100000) (hi:∀ p∈es,p.1.items.length<=100000) :
 Calls Tryz.prog 50 #[.agg #[O eo es.length ec,rv]] w fun e w'=>Below w.heap.size w w'/\e=.returned (J Z (szR (es.map Prod.fst) es.length)):=by
 obtain ⟨ro,rm,rc,rfl⟩:=hr
 obtain ⟨eo',ec',he,hview⟩:=Jf hex hit
 cases he
 obtain ⟨i0,hi0,hz0,hz1,hz2⟩:=info_parts Tryz.infoInt
 have HI:Hid (∀ p∈es,p.1.items.length<=100000):=hi
 clear hex hit hi
 go_enter Tryz.func50,Tryz.ntmps50
 go_wp2_with fail
 have HA0:Hid (Below w.heap.size w ((w.alloc (Q #[O eo es.length ec,O ro rm rc] 74)).alloc (Q #[] 3))):=((Below.refl _ _).alloc (Nat.le_refl _) _).alloc (by simp) _
 have HR0:Hid (((w.alloc (Q #[O eo es.length ec,O ro rm rc] 74)).alloc (Q #[] 3)).ownsRow w.heap.size 3 1 (O (some ⟨w.heap.size+1,0,none⟩) 0 0) 0 []):=⟨rfl,.inr ⟨w.heap.size+1,0,#[],rfl,by omega,zy _ (by simp),Nat.le_refl _,by decide,rfl,rfl⟩⟩
 have HVW:Hid (∀ i x,es[i]?=some x->∃ g vo vm vc,eo=some ⟨g,0,none⟩/\g<w.heap.size/\w.cell? ⟨g,i*7,none⟩=some (J .u8 x.1.kind)/\w.cell? ⟨g,i*7+1,none⟩=some (J Z x.1.at_)/\w.cell? ⟨g,i*7+2,none⟩=some (J Z x.1.depth)/\w.cell? ⟨g,i*7+3,none⟩=some (J Z x.1.nv)/\w.cell? ⟨g,i*7+4,none⟩=some (J Z x.1.na)/\w.cell? ⟨g,i*7+5,none⟩=some (O vo vm vc)/\w.cell? ⟨g,i*7+6,none⟩=some (J Z x.1.inner)/\IV w (O vo vm vc) x.1.items/\(∀ q,(O vo vm vc).ownBlock=some q->q<w.heap.size)):=hview
 clear hview
 go_loopg [3,4,11] es.length (fun n a b y wr=>∃ (j:Nat),n+j=es.length/\b=J Z (szR (es.map Prod.fst) j)/\y=J Z j/\wr.ownsRow w.heap.size 3 1 a (szK (es.map Prod.fst) j).length ((szK (es.map Prod.fst) j).map (J Z))/\Below w.heap.size w wr)
 case atStart=>exact ⟨0,by omega,rfl,rfl,HR0.out,HA0.out⟩
 case round =>
  obtain ⟨j,hn,rfl,rfl,hrow,hb⟩:=hrel
  have HR:Hid (wr.ownsRow w.heap.size 3 1 u3 (szK (es.map Prod.fst) j).length ((szK (es.map Prod.fst) j).map (J Z))):=hrow
  have HB:Hid (Below w.heap.size w wr):=hb
  have hbs:=hb.size
  clear hrow hb
  by_cases hlt:j<es.length
  ·obtain ⟨xv,hxv⟩:∃ r,es[j]?=some r:=⟨es[j],List.getElem?_eq_getElem hlt⟩
   have hj0:(0:Int)<=(j:Int):=by omega
   have hj1:(j:Int)<(es.length:Int):=by omega
   obtain ⟨g,vo,vm,vc,rfl,hgw,r0,r1,r2,r3,r4,r5,r6,hiv,hivg⟩:=HVW.out j xv hxv
   have hil:=HI.out xv (List.mem_of_getElem? hxv)
   have hmx:(es.map Prod.fst)[j]?=some xv.1:=by rw [List.getElem?_map,hxv];rfl
   obtain ⟨x,xq⟩:=xv
   simp only at r0 r1 r2 r3 r4 r6 hiv hil hmx
   have hcg:∀ q,wr.cell? ⟨g,q,none⟩=w.cell? ⟨g,q,none⟩:=fun q=>HB.out.cell (p:=⟨g,q,none⟩) hgw
   rw [<- hcg] at r0 r1 r2 r3 r4 r5 r6
   have HSR:Hid (szR (es.map Prod.fst) (j+1)=szE x (szK (es.map Prod.fst) j)):=by show _=_;simp only [szR,hmx]
   have HSK:Hid (szK (es.map Prod.fst) (j+1)=szK (es.map Prod.fst) j++[szE x (szK (es.map Prod.fst) j)]):=by show _=_;simp only [szK,hmx]
   obtain ⟨ko,kc,hu3⟩:∃ ko kc,u3=O ko (szK (es.map Prod.fst) j).length kc:=by
    rcases HR.out.2 with ⟨h1,h2⟩ | ⟨g,cap,cur,h1,_⟩
    ·exact ⟨none,0,by rw [h1,h2]⟩
    ·exact ⟨_,cap,h1⟩
   subst hu3
   have HKL:Hid ((szK (es.map Prod.fst) j).length=j):=ZQ _ j
   have HKB:Hid (∀ k∈szK (es.map Prod.fst) j,0<=k/\k<=1001):=XB _ j
   generalize szK (es.map Prod.fst) j=K at *
   have HBA:Hid (Below w.heap.size w (wr.alloc (Q #[J .u8 x.kind,J Z x.at_,J Z x.depth,J Z x.nv,J Z x.na,O vo vm vc,J Z x.inner] 148))):=HB.out.alloc hbs _
   have HRA:Hid ((wr.alloc (Q #[J .u8 x.kind,J Z x.at_,J Z x.depth,J Z x.nv,J Z x.na,O vo vm vc,J Z x.inner] 148)).ownsRow w.heap.size 3 1 (O ko K.length kc) K.length (K.map (J Z))):=HR.out.alloc _
   have HNV:Hid (NV (wr.alloc (Q #[J .u8 x.kind,J Z x.at_,J Z x.depth,J Z x.nv,J Z x.na,O vo vm vc,J Z x.inner] 148)) ko K):=fun i v hv=>by
    rcases HRA.out.2 with ⟨h1,h2⟩ | ⟨g,cap,cur,h1,h2,h3,_⟩
    ·have:=(List.getElem?_eq_some_iff.1 hv).1;omega
    ·cases h1
     have hil:i<K.length:=(List.getElem?_eq_some_iff.1 hv).1
     refine ⟨g,rfl,lt_of_block h3,?_⟩
     rw [World.ownsRow.cellAt HRA.out i (by omega)]
     simp [hv]
   have HIV:Hid (IV (wr.alloc (Q #[J .u8 x.kind,J Z x.at_,J Z x.depth,J Z x.nv,J Z x.na,O vo vm vc,J Z x.inner] 148)) (O vo vm vc) x.items):=hiv.of_kept (fun q hq=>HBA.out.block q (hivg q hq))
   have HIG:Hid (∀ q,(O vo vm vc).ownBlock=some q->q<(wr.alloc (Q #[J .u8 x.kind,J Z x.at_,J Z x.depth,J Z x.nv,J Z x.na,O vo vm vc,J Z x.inner] 148)).heap.size):=fun q hq=>Nat.lt_of_lt_of_le (hivg q hq) HBA.out.size
   have hbsA:w.heap.size<=(wr.alloc (Q #[J .u8 x.kind,J Z x.at_,J Z x.depth,J Z x.nv,J Z x.na,O vo vm vc,J Z x.inner] 148)).heap.size:=HBA.out.size
   clear hxv hcg hiv hivg hmx
   go_wp2_with fail
   clear r0 r1 r2 r3 r4 r5 r6
   refine (jh x vo vm vc ko kc K _ HNV.out HKB.out hil HIV.out HIG.out).mono ?_
   rintro e w4 ⟨hb4,rfl⟩
   have HB4:Hid (Below w.heap.size w w4):=HBA.out.trans (hb4.mono hbsA)
   have HR4:Hid (w4.ownsRow w.heap.size 3 1 (O ko K.length kc) K.length (K.map (J Z))):=zh HRA.out (fun g hg=>hb4.block g (HRA.out.lt g hg).2)
   have hbs4:w.heap.size<=w4.heap.size:=HB4.out.size
   clear hb4
   generalize szE x K=nj at *
   have hA1:Hid (K.length+1<=maxLen):=by show _<=_;have:=HKL.out;unfold maxLen;omega
   have hA2:Hid ((K.length+1)*8<=140737488355328):=by show _<=_;have:=HKL.out;omega
   have hA3:Hid (w.heap.size<=(w4.alloc (Q #[J Z nj] 3)).heap.size):=by show _<=_;simp;omega
   have hone:Hid (∀ u∈[J Z nj],u.oneCell'=true):=fun u hu=>by simp at hu;subst hu;rfl
   go_wp2_with (at_builtin;refine wpList_append_lies _ rfl _ _ 25 rfl w.heap.size 3 i0 _ 1 8 Tryz.underlying25 hi0 hz0 hz1 hz2 rfl (by decide) (O ko K.length kc) _ _ rfl (HR4.out.alloc _) ⟨w4.heap.size,0,none⟩ 1 1 [J Z nj] rfl rfl (World.news_of_block (cs:=#[J Z nj]) (t:=3) (fr:=(0,0)) (heap_alloc_new w4 _)) hone.out (Nat.lt_succ_self 0) hA1.out hA2.out hA3.out (w4.heap.size+1) (by simp) ?_;intro g cap w5 hown hgrow hat hlt5)
   have HR5:Hid (w5.ownsRow w.heap.size 3 1 (O (some ⟨g,0,none⟩) (K.length+1) cap) (szK (es.map Prod.fst) (j+1)).length ((szK (es.map Prod.fst) (j+1)).map (J Z))):=by
    show World.ownsRow _ _ _ _ _ _ _
    rw [HSK.out,List.length_append,List.map_append]
    exact hown
   have HB5:Hid (Below w.heap.size w w5):=(HB4.out.alloc hbs4 _).grown hgrow (by simp;omega) (fun k hk=>(HR4.out.lt k hk).1)
   clear hown hgrow hat
   go_roundg (gk-1)
   case measure=>omega
   case rel=>exact ⟨j+1,by omega,by rw [HSR.out],by go_num,HR5.out,HB5.out⟩
  ·have hd:¬ ((j:Int)<(es.length:Int)):=by omega
   have hje:j=es.length:=by omega
   have HE:Hid (szR (es.map Prod.fst) es.length=szR (es.map Prod.fst) j):=by show _=_;rw [hje]
   clear hje
   go_wp2_with fail
   go_ret
   exact ⟨HB.out,by rw [HE.out];rfl⟩
def cSz (s:ByteArray):Int×Int:=if (Zj s).1=0 then (szR (zA s).es (zA s).es.length,0) else (0,(Zj s).1)
end Go.Proofs.YtaebngpoagjafabGreat
