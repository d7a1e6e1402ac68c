import Derived.Test.YtaebngpoagjafabGreatU20
import Derived.Test.YtaebngpoagjafabGreatU21
set_option maxRecDepth 100000
set_option maxHeartbeats 800000
namespace Go.Proofs.YtaebngpoagjafabGreat
open Obj renaming cells → Q
open Value renaming int → J, slice → O
open IntKind renaming i64 → Z
open Go.RowKit
attribute [local go_sem ↓] Go.wp_at_zero Go.wp_at_succ
def atF (K:List Int) (i:Int):Int:=if i<0 then 0 else (K[i.toNat]?).getD 0
def NV (w:World) (ko:Option Addr) (K:List Int):Prop:=∀ i v,K[i]?=some v->∃ g,ko=some ⟨g,0,none⟩/\g<w.heap.size/\w.cell? ⟨g,i,none⟩=some (J Z v)
theorem NV.below {w w':World} {ko:Option Addr} {K:List Int} (h:NV w ko K) (hb:Below w.heap.size w w'):NV w' ko K:=fun i v hv=>by
 obtain ⟨g,d,a,b⟩:=h i v hv
 exact ⟨g,d,Nat.lt_of_lt_of_le a hb.size,by rw [hb.cell (p:=⟨g,i,none⟩) a];exact b⟩
theorem zfN (ko:Option Addr) (kc:Nat) (K:List Int) (i:Int) (w:World) (h:NV w ko K) :
 Calls Tryz.prog 131 #[O ko K.length kc,J Z i] w fun e w'=>w'=w/\e=.returned (J Z (atF K i)):=by
 by_cases b:i<0
 ·have a:Hid (atF K i=0):=by show _=_;unfold atF;rw [if_pos b]
  go_enter Tryz.func131,Tryz.ntmps131
  go_wp2_with fail
  go_ret
  exact ⟨rfl,by rw [a.out];rfl⟩
 ·obtain ⟨j,rfl⟩:∃ j:Nat,i=j:=⟨i.toNat,by omega⟩
  have n:¬ (j:Int)<0:=b
  have m:(0:Int)<=(j:Int):=by omega
  by_cases l:j<K.length
  ·have d:K[j]?=some K[j]:=List.getElem?_eq_getElem l
   obtain ⟨g,rfl,o,p⟩:=h j _ d
   have a:Hid (atF K j=K[j]):=by show _=_;unfold atF;rw [if_neg b,Int.toNat_natCast,d];rfl
   have f:(j:Int)<(K.length:Int):=by omega
   have k:¬ (K.length:Int)<=(j:Int):=by omega
   generalize K[j]=v at *
   clear h d
   go_enter Tryz.func131,Tryz.ntmps131
   go_wp2_with fail
   go_ret
   exact ⟨rfl,by rw [a.out];rfl⟩
  ·have a:Hid (atF K j=0):=by show _=_;unfold atF;rw [if_neg b,Int.toNat_natCast,List.getElem?_eq_none (by omega)];rfl
   have f:(K.length:Int)<=(j:Int):=by omega
   clear h
   go_enter Tryz.func131,Tryz.ntmps131
   go_wp2_with fail
   go_ret
   exact ⟨rfl,by rw [a.out];rfl⟩
theorem xV {K:List Int} (h:∀ k∈K,0<=k/\k<=1001) (i:Int):0<=atF K i/\atF K i<=1001:=by
 unfold atF
 split
 ·omega
 ·cases hk:K[i.toNat]? with
  | none=>simp
  | some k=>simpa using h k (List.mem_of_getElem? hk)
def yL (K:List Int) (l:List IM):Nat->Int
 | 0=>0
 | j+1=>yL K l j+(match l[j]? with | some x=>atF K x.arm | none=>0)
theorem Xy {K:List Int} (h:∀ k∈K,0<=k/\k<=1001) (l:List IM):∀ j,0<=yL K l j/\yL K l j<=1001*j:=by
 intro j
 induction j with
 | zero=>simp [yL]
 | succ j ih =>
  simp only [yL]
  cases hx:l[j]? with
  | none=>simp only;omega
  | some x=>have:=xV h x.arm;simp only;omega
def szE (e:EX) (K:List Int):Int:=Za (atF K e.inner+(if e.kind=61 then 0 else 1+(e.items.length:Int))+yL K e.items e.items.length)
theorem Jv (e:EX) (vo:Option Addr) (vm vc:Nat) (ko:Option Addr) (kc:Nat) (K:List Int) (w:World) (h:NV w ko K) (hb:∀ k∈K,0<=k/\k<=1001) (hl:e.items.length<=100000) (hv:IV w (O vo vm vc) e.items) (hvg:∀ g,(O vo vm vc).ownBlock=some g->g<w.heap.size) :
 Calls Tryz.prog 92 #[.agg #[J .u8 e.kind,J Z e.at_,J Z e.depth,J Z e.nv,J Z e.na,O vo vm vc,J Z e.inner],O ko K.length kc] w fun r w'=>Below w.heap.size w w'/\r=.returned (J Z (szE e K)):=by
 have HA:Hid (Below w.heap.size w (w.alloc (Q #[J .u8 e.kind,J Z e.at_,J Z e.depth,J Z e.nv,J Z e.na,O vo vm vc,J Z e.inner] 148))):=(Below.refl _ _).alloc (Nat.le_refl _) _
 have HX:Hid ((w.alloc (Q #[J .u8 e.kind,J Z e.at_,J Z e.depth,J Z e.nv,J Z e.na,O vo vm vc,J Z e.inner] 148)).heap[w.heap.size]?=some (Q #[J .u8 e.kind,J Z e.at_,J Z e.depth,J Z e.nv,J Z e.na,O vo vm vc,J Z e.inner] 148 (0,0))):=heap_alloc_new w _
 have E:=fun wz hz i=>zfN ko kc K i wz hz
 have P:Hid _:=E
 have a8:Hid _:=h.below HA.out
 have a4:=xV hb e.inner
 have I:Hid (∀ j,0<=yL K e.items j/\yL K e.items j<=1001*j):=Xy hb e.items
 have N:Hid (∀ i,0<=atF K i/\atF K i<=1001):=xV hb
 have HV:Hid _:=hv
 have L:Hid (szE e K=Za (atF K e.inner+(if e.kind=61 then 0 else 1+(e.items.length:Int))+yL K e.items e.items.length)):=rfl
 have a1:vm=e.items.length:=by
  rcases hv with ⟨h1,h2⟩ | ⟨g,cap,h1,_⟩
  ·cases h1;rw [h2];rfl
  ·cases h1;rfl
 subst a1
 obtain ⟨u,v⟩:∃ u,atF K e.inner=u:=⟨_,rfl⟩
 obtain ⟨s,f⟩:∃ s,u+(if e.kind=61 then 0 else 1+(e.items.length:Int))=s:=⟨_,rfl⟩
 rw [v,f] at L
 have a9:Hid (∀ wz,NV wz ko K->Calls Tryz.prog 131 #[O ko K.length kc,J Z e.inner] wz fun e w'=>w'=wz/\e=.returned (J Z u)):=fun wz hz=>by have:=E wz hz e.inner;rw [v] at this;exact this
 rw [v] at a4
 clear E v hb hv
 go_enter Tryz.func92,Tryz.ntmps92
 go_wp2_with fail
 refine (a9.out _ a8.out).mono ?_
 rintro r w1 ⟨b1,rfl⟩
 subst w1
 have b0:0<=s/\s<=102002:=by rw [<- f];split<;>omega
 cases ek:(e.kind==61) with
 | true =>
  have a7:(e.kind != 61)=false:=by simp [bne,ek]
  have z:s=u:=by rw [<- f,if_pos (by simpa using ek)];omega
  clear f
  subst z
  go_wp2_with fail
  go_loopg [5,24] e.items.length (fun q a y wr=>∃ j:Nat,q+j=e.items.length/\a=J Z (s+yL K e.items j)/\y=J Z j/\Below w.heap.size w wr)
  case atStart=>exact ⟨0,by omega,by simp [yL],rfl,HA.out⟩
  case round =>
   obtain ⟨j,hn,rfl,rfl,n⟩:=hrel
   have b:Hid _:=n
   have B:=I.out j
   clear n
   by_cases d:j<e.items.length
   ·obtain ⟨x,A⟩:∃ x,e.items[j]?=some x:=⟨e.items[j],List.getElem?_eq_getElem d⟩
    have a3:(0:Int)<=(j:Int):=by omega
    have a2:(j:Int)<(e.items.length:Int):=by omega
    rcases HV.out with ⟨_,h2⟩ | ⟨g,cap,h1,h2,h3⟩
    ·rw [h2] at d;simp at d
    ·cases h1
     have C:g<w.heap.size:=hvg g rfl
     obtain ⟨r0,Y,X,W,V,U,S⟩:=h3 j x A
     have m:∀ q,wr.cell? ⟨g,q,none⟩=w.cell? ⟨g,q,none⟩:=fun q=>b.out.cell (p:=⟨g,q,none⟩) C
     rw [<- m] at r0 Y X W V U S
     have HJ:Hid (yL K e.items (j+1)=yL K e.items j+atF K x.arm):=by show _=_;simp only [yL,A]
     have o:Hid (Below w.heap.size w (wr.alloc (Q #[J Z x.at_,J Z x.num,J Z x.pv,J Z x.pl,J Z x.wv,J Z x.wa,J Z x.arm] 155))):=b.out.alloc b.out.size _
     have F:Hid _:=h.below o.out
     have a6:=N.out x.arm
     have H:Hid (∀ wz,NV wz ko K->Calls Tryz.prog 131 #[O ko K.length kc,J Z x.arm] wz fun e w'=>w'=wz/\e=.returned (J Z (atF K x.arm))):=fun wz hz=>P.out wz hz x.arm
     generalize hsm:yL K e.items j=sm at *
     generalize hax:atF K x.arm=ax at *
     clear hsm hax h3 m A
     go_wp2_with fail
     refine (H.out _ F.out).mono ?_
     rintro r R ⟨a0,rfl⟩
     subst R
     go_wp2_with fail
     go_roundg (gk-1)
     case measure=>omega
     case rel=>exact ⟨j+1,by omega,by rw [HJ.out];go_num,by go_num,o.out⟩
   ·have hd:¬ ((j:Int)<(e.items.length:Int)):=by omega
    have l:j=e.items.length:=by omega
    rw [l] at B hd ⊢
    clear l hn d
    generalize hsm:yL K e.items e.items.length=sm at *
    clear hsm
    by_cases D:1000<s+sm
    ·have G:Hid (szE e K=1001):=by show _=_;rw [L.out];unfold Za;rw [if_pos D]
     go_wp2_with fail
     go_ret
     exact ⟨b.out,by rw [G.out];rfl⟩
    ·have G:Hid (szE e K=s+sm):=by show _=_;rw [L.out];unfold Za;rw [if_neg D]
     have a5:s+sm<=1000:=by omega
     clear D
     go_wp2_with fail
     go_ret
     exact ⟨b.out,by rw [G.out];rfl⟩
 | false =>
  have a7:(e.kind != 61)=true:=by simp [bne,ek]
  have z:s=u+1+(e.items.length:Int):=by rw [<- f,if_neg (by simpa using ek)];omega
  clear f
  subst z
  go_wp2_with fail
  go_loopg [5,24] e.items.length (fun q a y wr=>∃ j:Nat,q+j=e.items.length/\a=J Z ((u+1+(e.items.length:Int))+yL K e.items j)/\y=J Z j/\Below w.heap.size w wr)
  case atStart=>exact ⟨0,by omega,by simp [yL],rfl,HA.out⟩
  case round =>
   obtain ⟨j,hn,rfl,rfl,n⟩:=hrel
   have b:Hid _:=n
   have B:=I.out j
   clear n
   by_cases d:j<e.items.length
   ·obtain ⟨x,A⟩:∃ x,e.items[j]?=some x:=⟨e.items[j],List.getElem?_eq_getElem d⟩
    have a3:(0:Int)<=(j:Int):=by omega
    have a2:(j:Int)<(e.items.length:Int):=by omega
    rcases HV.out with ⟨_,h2⟩ | ⟨g,cap,h1,h2,h3⟩
    ·rw [h2] at d;simp at d
    ·cases h1
     have C:g<w.heap.size:=hvg g rfl
     obtain ⟨r0,Y,X,W,V,U,S⟩:=h3 j x A
     have m:∀ q,wr.cell? ⟨g,q,none⟩=w.cell? ⟨g,q,none⟩:=fun q=>b.out.cell (p:=⟨g,q,none⟩) C
     rw [<- m] at r0 Y X W V U S
     have HJ:Hid (yL K e.items (j+1)=yL K e.items j+atF K x.arm):=by show _=_;simp only [yL,A]
     have o:Hid (Below w.heap.size w (wr.alloc (Q #[J Z x.at_,J Z x.num,J Z x.pv,J Z x.pl,J Z x.wv,J Z x.wa,J Z x.arm] 155))):=b.out.alloc b.out.size _
     have F:Hid _:=h.below o.out
     have a6:=N.out x.arm
     have H:Hid (∀ wz,NV wz ko K->Calls Tryz.prog 131 #[O ko K.length kc,J Z x.arm] wz fun e w'=>w'=wz/\e=.returned (J Z (atF K x.arm))):=fun wz hz=>P.out wz hz x.arm
     generalize hsm:yL K e.items j=sm at *
     generalize hax:atF K x.arm=ax at *
     clear hsm hax h3 m A
     go_wp2_with fail
     refine (H.out _ F.out).mono ?_
     rintro r R ⟨a0,rfl⟩
     subst R
     go_wp2_with fail
     go_roundg (gk-1)
     case measure=>omega
     case rel=>exact ⟨j+1,by omega,by rw [HJ.out];go_num,by go_num,o.out⟩
   ·have hd:¬ ((j:Int)<(e.items.length:Int)):=by omega
    have l:j=e.items.length:=by omega
    rw [l] at B hd ⊢
    clear l hn d
    generalize hsm:yL K e.items e.items.length=sm at *
    clear hsm
    by_cases D:1000<(u+1+(e.items.length:Int))+sm
    ·have G:Hid (szE e K=1001):=by show _=_;rw [L.out];unfold Za;rw [if_pos D]
     go_wp2_with fail
     go_ret
     exact ⟨b.out,by rw [G.out];rfl⟩
    ·have G:Hid (szE e K=(u+1+(e.items.length:Int))+sm):=by show _=_;rw [L.out];unfold Za;rw [if_neg D]
     have a5:(u+1+(e.items.length:Int))+sm<=1000:=by omega
     clear D
     go_wp2_with fail
     go_ret
     exact ⟨b.out,by rw [G.out];rfl⟩
def szK (es:List EX):Nat->List Int
 | 0=>[]
 | j+1=>szK es j++[match es[j]? with | some e=>szE e (szK es j) | none=>0]
def szR (es:List EX):Nat->Int
 | 0=>0
 | j+1=>match es[j]? with | some e=>szE e (szK es j) | none=>0
theorem Ye (es:List EX):∀ j,(szK es j).length=j:=by
 intro j
 induction j with
 | zero=>rfl
 | succ j ih=>simp [szK,ih]
theorem zb6 {e:EX} {K:List Int} (h:∀ k∈K,0<=k/\k<=1001):0<=szE e K/\szE e K<=1001:=by
 unfold szE
 have b:=xV h e.inner
 have a:=Xy h e.items e.items.length
 refine qh ?_
 split<;>omega
theorem qy (es:List EX):∀ j,∀ k∈szK es j,0<=k/\k<=1001:=by
 intro j
 induction j with
 | zero=>intro k a;simp [szK] at a
 | succ j ih =>
  intro k a
  simp only [szK,List.mem_append,List.mem_singleton] at a
  rcases a with a | a
  ·exact ih k a
  ·subst a
   cases hx:es[j]? with
   | none=>simp
   | some e=>exact zb6 ih
theorem zao {w:World} {base:Nat} {ev:Value} {es:List (EX×Value)} (hex:w.ownsRow base 148 7 ev es.length (exC es)) (hit:∀ p∈es,w.ownsRow base 155 7 p.2 p.1.items.length (imC p.1.items)) :
 ∃ eo ec,ev=O eo es.length ec/\∀ i x,es[i]?=some x->∃ g vo vm vc,eo=some ⟨g,0,none⟩/\g<w.heap.size/\w.cell? ⟨g,i*7,none⟩=some (J .u8 x.1.kind)/\w.cell? ⟨g,i*7+1,none⟩=some (J Z x.1.at_)/\w.cell? ⟨g,i*7+2,none⟩=some (J Z x.1.depth)/\w.cell? ⟨g,i*7+3,none⟩=some (J Z x.1.nv)/\w.cell? ⟨g,i*7+4,none⟩=some (J Z x.1.na)/\w.cell? ⟨g,i*7+5,none⟩=some (O vo vm vc)/\w.cell? ⟨g,i*7+6,none⟩=some (J Z x.1.inner)/\IV w (O vo vm vc) x.1.items/\(∀ q,(O vo vm vc).ownBlock=some q->q<w.heap.size):=by
 have l:=hex
 rcases hex.2 with ⟨h1,h2⟩ | ⟨g,cap,cur,rfl,h1,h2,_⟩
 ·have:es=[]:=List.eq_nil_of_length_eq_zero h2
  subst this
  exact ⟨none,0,h1,fun i x hx=>by simp at hx⟩
 ·refine ⟨_,cap,rfl,fun i x hx=>?_⟩
  have a:=hit x (List.mem_of_getElem? hx)
  have e:=fun j hj=>ye exV (fun _=>rfl) l hx j hj
  have b:∃ vo vm vc,x.2=O vo vm vc/\IV w (O vo vm vc) x.1.items:=by
   have h:=a
   rcases a.2 with ⟨q1,q2⟩ | ⟨g',cap',cur',q1,q2,q3,q4,_⟩
   ·exact ⟨none,0,0,q1,.inl ⟨rfl,List.eq_nil_of_length_eq_zero q2⟩⟩
   ·rw [q1] at h
    have d:=fun i y hy j hj=>ye imV (fun _=>rfl) h (i:=i) (x:=y) hy j hj
    exact ⟨_,_,_,q1,.inr ⟨g',cap',rfl,q4,fun i y hy=>⟨d i y hy 0 (by decide),d i y hy 1 (by decide),d i y hy 2 (by decide),d i y hy 3 (by decide),d i y hy 4 (by decide),d i y hy 5 (by decide),d i y hy 6 (by decide)⟩⟩⟩
  obtain ⟨vo,vm,vc,f,b⟩:=b
  have k:w.cell? ⟨g,i*7+5,none⟩=some (O vo vm vc):=by rw [<- f];exact e 5 (by decide)
  exact ⟨g,vo,vm,vc,rfl,lt_of_block h2,e 0 (by decide),e 1 (by decide),e 2 (by decide),e 3 (by decide),e 4 (by decide),k,e 6 (by decide),b,fun q hq=>(a.lt q (by rw [f];exact hq)).2⟩
theorem ZP (s:ByteArray):∀ (n:Nat) (rs:List RL) (m k:Nat) (b:Bool),k<=s.size->(zx s n rs m k b).es.length+k<=(zx s n rs m k b).k/\(zx s n rs m k b).k<=s.size:=by
 intro n
 induction n with
 | zero=>intro rs m k b a;simp [zx];exact a
 | succ n ih =>
  intro rs m k b a
  have e:=Ya s rs m k b a
  simp only [zx]
  generalize zC s rs m k b=r at *
  have g:=zi s 59 r.k r.b
  have d:zc s 59 r.k r.b<=s.size:=zs (by decide) e.2.1
  split
  ·have f:=ih (rs++[r.rl]) (m+r.es.length) (zc s 59 r.k r.b) r.b d
   simp only [List.length_append]
   omega
  ·simp only
   omega
theorem zbX (eo:Option Addr) (ec:Nat) (rv:Value) (base:Nat) (es:List (EX×Value)) (w:World) (hr:∃ ro rm rc,rv=O ro rm rc) (hex:w.ownsRow base 148 7 (O eo es.length ec) es.length (exC es)) (hit:∀ p∈es,w.ownsRow base 155 7 p.2 p.1.items.length (imC p.1.items)) (hl:es.length<=100000) (hi:∀ p∈es,p.1.items.length<=100000) :
 Calls Tryz.prog 50 #[.agg #[O eo es.length ec,rv]] w fun e w'=>Below w.heap.size w w'/\e=.returned (J Z (szR (es.map Prod.fst) es.length)):=by
 obtain ⟨ro,rm,rc,rfl⟩:=hr
 obtain ⟨d1,d2,he,l⟩:=zao hex hit
 cases he
 obtain ⟨i0,a5,a2,a1,a0⟩:=info_parts Tryz.infoInt
 have HI:Hid (∀ p∈es,p.1.items.length<=100000):=hi
 clear hex hit hi
 go_enter Tryz.func50,Tryz.ntmps50
 go_wp2_with fail
 have c7:Hid (Below w.heap.size w ((w.alloc (Q #[O eo es.length ec,O ro rm rc] 74)).alloc (Q #[] 3))):=((Below.refl _ _).alloc (Nat.le_refl _) _).alloc (by simp) _
 have b6:Hid (((w.alloc (Q #[O eo es.length ec,O ro rm rc] 74)).alloc (Q #[] 3)).ownsRow w.heap.size 3 1 (O (some ⟨w.heap.size+1,0,none⟩) 0 0) 0 []):=⟨rfl,.inr ⟨w.heap.size+1,0,#[],rfl,by omega,zu _ (by simp),Nat.le_refl _,by decide,rfl,rfl⟩⟩
 have b2:Hid (∀ i x,es[i]?=some x->∃ g d f h,eo=some ⟨g,0,none⟩/\g<w.heap.size/\w.cell? ⟨g,i*7,none⟩=some (J .u8 x.1.kind)/\w.cell? ⟨g,i*7+1,none⟩=some (J Z x.1.at_)/\w.cell? ⟨g,i*7+2,none⟩=some (J Z x.1.depth)/\w.cell? ⟨g,i*7+3,none⟩=some (J Z x.1.nv)/\w.cell? ⟨g,i*7+4,none⟩=some (J Z x.1.na)/\w.cell? ⟨g,i*7+5,none⟩=some (O d f h)/\w.cell? ⟨g,i*7+6,none⟩=some (J Z x.1.inner)/\IV w (O d f h) x.1.items/\(∀ q,(O d f h).ownBlock=some q->q<w.heap.size)):=l
 clear l
 go_loopg [3,4,11] es.length (fun n a b y wr=>∃ (j:Nat),n+j=es.length/\b=J Z (szR (es.map Prod.fst) j)/\y=J Z j/\wr.ownsRow w.heap.size 3 1 a (szK (es.map Prod.fst) j).length ((szK (es.map Prod.fst) j).map (J Z))/\Below w.heap.size w wr)
 case atStart=>exact ⟨0,by omega,rfl,rfl,b6.out,c7.out⟩
 case round =>
  obtain ⟨j,hn,rfl,rfl,D,hb⟩:=hrel
  have HR:Hid (wr.ownsRow w.heap.size 3 1 u3 (szK (es.map Prod.fst) j).length ((szK (es.map Prod.fst) j).map (J Z))):=D
  have HB:Hid (Below w.heap.size w wr):=hb
  have a7:=hb.size
  clear D hb
  by_cases a4:j<es.length
  ·obtain ⟨xv,s⟩:∃ r,es[j]?=some r:=⟨es[j],List.getElem?_eq_getElem a4⟩
   have d0:(0:Int)<=(j:Int):=by omega
   have c9:(j:Int)<(es.length:Int):=by omega
   obtain ⟨g,d,f,h,rfl,a6,r0,r1,r2,r3,r4,r5,r6,H,m⟩:=b2.out j xv s
   have I:=HI.out xv (List.mem_of_getElem? s)
   have z:(es.map Prod.fst)[j]?=some xv.1:=by rw [List.getElem?_map,s];rfl
   obtain ⟨x,xq⟩:=xv
   simp only at r0 r1 r2 r3 r4 r6 H I z
   have S:∀ q,wr.cell? ⟨g,q,none⟩=w.cell? ⟨g,q,none⟩:=fun q=>HB.out.cell (p:=⟨g,q,none⟩) a6
   rw [<- S] at r0 r1 r2 r3 r4 r5 r6
   have b3:Hid (szR (es.map Prod.fst) (j+1)=szE x (szK (es.map Prod.fst) j)):=by show _=_;simp only [szR,z]
   have b4:Hid (szK (es.map Prod.fst) (j+1)=szK (es.map Prod.fst) j++[szE x (szK (es.map Prod.fst) j)]):=by show _=_;simp only [szK,z]
   obtain ⟨G,N,a3⟩:∃ G N,u3=O G (szK (es.map Prod.fst) j).length N:=by
    rcases HR.out.2 with ⟨h1,h2⟩ | ⟨g,A,cur,h1,_⟩
    ·exact ⟨none,0,by rw [h1,h2]⟩
    ·exact ⟨_,A,h1⟩
   subst a3
   have X:Hid ((szK (es.map Prod.fst) j).length=j):=Ye _ j
   have b8:Hid (∀ k∈szK (es.map Prod.fst) j,0<=k/\k<=1001):=qy _ j
   generalize szK (es.map Prod.fst) j=K at *
   have C:Hid (Below w.heap.size w (wr.alloc (Q #[J .u8 x.kind,J Z x.at_,J Z x.depth,J Z x.nv,J Z x.na,O d f h,J Z x.inner] 148))):=HB.out.alloc a7 _
   have B:Hid ((wr.alloc (Q #[J .u8 x.kind,J Z x.at_,J Z x.depth,J Z x.nv,J Z x.na,O d f h,J Z x.inner] 148)).ownsRow w.heap.size 3 1 (O G K.length N) K.length (K.map (J Z))):=HR.out.alloc _
   have b7:Hid (NV (wr.alloc (Q #[J .u8 x.kind,J Z x.at_,J Z x.depth,J Z x.nv,J Z x.na,O d f h,J Z x.inner] 148)) G K):=fun i v hv=>by
    rcases B.out.2 with ⟨h1,h2⟩ | ⟨g,A,cur,h1,h2,h3,_⟩
    ·have:=(List.getElem?_eq_some_iff.1 hv).1;omega
    ·cases h1
     have I:i<K.length:=(List.getElem?_eq_some_iff.1 hv).1
     refine ⟨g,rfl,lt_of_block h3,?_⟩
     rw [World.ownsRow.cellAt B.out i (by omega)]
     simp [hv]
   have b9:Hid (IV (wr.alloc (Q #[J .u8 x.kind,J Z x.at_,J Z x.depth,J Z x.nv,J Z x.na,O d f h,J Z x.inner] 148)) (O d f h) x.items):=H.of_kept (fun q hq=>C.out.block q (m q hq))
   have c5:Hid (∀ q,(O d f h).ownBlock=some q->q<(wr.alloc (Q #[J .u8 x.kind,J Z x.at_,J Z x.depth,J Z x.nv,J Z x.na,O d f h,J Z x.inner] 148)).heap.size):=fun q hq=>Nat.lt_of_lt_of_le (m q hq) C.out.size
   have U:w.heap.size<=(wr.alloc (Q #[J .u8 x.kind,J Z x.at_,J Z x.depth,J Z x.nv,J Z x.na,O d f h,J Z x.inner] 148)).heap.size:=C.out.size
   clear s S H m z
   go_wp2_with fail
   clear r0 r1 r2 r3 r4 r5 r6
   refine (Jv x d f h G N K _ b7.out b8.out I b9.out c5.out).mono ?_
   rintro e F ⟨L,rfl⟩
   have Y:Hid (Below w.heap.size w F):=C.out.trans (L.mono U)
   have W:Hid (F.ownsRow w.heap.size 3 1 (O G K.length N) K.length (K.map (J Z))):=zh B.out (fun g hg=>L.block g (B.out.lt g hg).2)
   have V:w.heap.size<=F.heap.size:=Y.out.size
   clear L
   generalize szE x K=nj at *
   have b1:Hid (K.length+1<=maxLen):=by show _<=_;have:=X.out;unfold maxLen;omega
   have b0:Hid ((K.length+1)*8<=140737488355328):=by show _<=_;have:=X.out;omega
   have a9:Hid (w.heap.size<=(F.alloc (Q #[J Z nj] 3)).heap.size):=by show _<=_;simp;omega
   have P:Hid (∀ u∈[J Z nj],u.oneCell'=true):=fun u hu=>by simp at hu;subst hu;rfl
   go_wp2_with (at_builtin;refine wpList_append_lies _ rfl _ _ 25 rfl w.heap.size 3 i0 _ 1 8 Tryz.underlying25 a5 a2 a1 a0 rfl (by decide) (O G K.length N) _ _ rfl (W.out.alloc _) ⟨F.heap.size,0,none⟩ 1 1 [J Z nj] rfl rfl (World.news_of_block (cs:=#[J Z nj]) (t:=3) (fr:=(0,0)) (heap_alloc_new F _)) P.out (Nat.lt_succ_self 0) b1.out b0.out a9.out (F.heap.size+1) (by simp) ?_;intro g A w5 E o a8 c8)
   have b5:Hid (w5.ownsRow w.heap.size 3 1 (O (some ⟨g,0,none⟩) (K.length+1) A) (szK (es.map Prod.fst) (j+1)).length ((szK (es.map Prod.fst) (j+1)).map (J Z))):=by
    show World.ownsRow _ _ _ _ _ _ _
    rw [b4.out,List.length_append,List.map_append]
    exact E
   have c6:Hid (Below w.heap.size w w5):=(Y.out.alloc V _).grown o (by simp;omega) (fun k hk=>(W.out.lt k hk).1)
   clear E o a8
   go_roundg (gk-1)
   case measure=>omega
   case rel=>exact ⟨j+1,by omega,by rw [b3.out],by go_num,b5.out,c6.out⟩
  ·have hd:¬ ((j:Int)<(es.length:Int)):=by omega
   have R:j=es.length:=by omega
   have HE:Hid (szR (es.map Prod.fst) es.length=szR (es.map Prod.fst) j):=by show _=_;rw [R]
   clear R
   go_wp2_with fail
   go_ret
   exact ⟨HB.out,by rw [HE.out];rfl⟩
def cSz (s:ByteArray):Int×Int:=if (yQ s).1=0 then (szR (zA s).es (zA s).es.length,0) else (0,(yQ s).1)
end Go.Proofs.YtaebngpoagjafabGreat
