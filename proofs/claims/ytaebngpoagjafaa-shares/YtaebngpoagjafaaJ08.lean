import Derived.Test.YtaebngpoagjafaaJ07
set_option maxRecDepth 100000
set_option maxHeartbeats 800000
namespace Go.Proofs.Ytaebngpoagjafaa
open Obj renaming cells → X
open Value renaming int → J, slice → Q
open IntKind renaming i64 → Z, u8 → O
open Go.RowKit
attribute [local go_sem ↓] Go.wp_at_zero Go.wp_at_succ
section
def FM (w:World) (F:Nat) (f:Int×Int):Prop:=w.heap[F]?=some (X #[J Z f.1,J Z f.2] 75 (0,0))
structure FK (F:Nat) (w w':World):Prop where
 bel:Below F w w'
 kept:∀ b,b<w.heap.size->b≠F->w'.heap[b]?=w.heap[b]?
theorem FK.refl (F:Nat) (w:World):FK F w w:=⟨Below.refl _ _,fun _ _ _=>rfl⟩
theorem FK.trans {F:Nat} {w w1 w2:World} (h:FK F w w1) (k:FK F w1 w2):FK F w w2:=⟨h.bel.trans k.bel,fun b hb hne=>(k.kept b (Nat.lt_of_lt_of_le hb h.bel.size) hne).trans (h.kept b hb hne)⟩
theorem FK.drewN {F:Nat} {w w1:World} (h:FK F w w1) (n:Nat):FK F w (w1.drewN n):=⟨XQ h.bel n,h.kept⟩
theorem FK.drew {F:Nat} {w w1:World} (h:FK F w w1):FK F w w1.drew:=⟨h.bel.drew,h.kept⟩
theorem FK.alloc {F:Nat} {w w1:World} (h:FK F w w1) (hF:F<=w1.heap.size) (o:Obj):FK F w (w1.alloc o):=⟨h.bel.alloc hF o,fun b hb hne=>(Below.heap_alloc _ _ _ (Nat.lt_of_lt_of_le hb h.bel.size)).trans (h.kept b hb hne)⟩
theorem FK.set {F:Nat} {w w1:World} (h:FK F w w1) (j:Nat) (u:Value):FK F w (w1.setCell ⟨F,j,none⟩ u):=⟨h.bel.setCell (Nat.le_refl _) u,fun b hb hne=>(zc hne).trans (h.kept b hb hne)⟩
theorem FK.below {F:Nat} {w w1:World} (h:Below w.heap.size w w1) (hF:F<=w.heap.size):FK F w w1:=⟨h.mono hF,fun b hb _=>h.block b hb⟩
theorem FM.lt {w:World} {F:Nat} {f:Int×Int} (h:FM w F f):F<w.heap.size:=lt_of_block h
theorem FM.alloc {w:World} {F:Nat} {f:Int×Int} (h:FM w F f) (o:Obj):FM (w.alloc o) F f:=(Below.heap_alloc _ _ _ h.lt).trans h
theorem FM.c0 {w:World} {F:Nat} {f:Int×Int} (h:FM w F f):w.cell? ⟨F,0,none⟩=some (J Z f.1):=by unfold FM at h;simp [World.cell?,h]
theorem FM.c1 {w:World} {F:Nat} {f:Int×Int} (h:FM w F f):w.cell? ⟨F,1,none⟩=some (J Z f.2):=by unfold FM at h;simp [World.cell?,h]
theorem FM.fz {w:World} {F:Nat} {f:Int×Int} (h:FM w F f) (j:Nat):w.frozen? ⟨F,j,none⟩=false:=by unfold FM at h;simp [World.frozen?,h]
def fnd (f:Int×Int) (e a:Int):Int×Int:=if f.1=0\/a<f.2\/(a=f.2/\e<f.1) then (e,a) else f
def Zp (f:Int×Int) (v a lo hi:Int):Int×Int:=if v<lo\/hi<v then fnd f 6 a else f
attribute [local go_sem] zC zu
theorem yk (F:Nat) (f:Int×Int) (e a:Int) (w:World) (h:FM w F f) (f':Int×Int) (hf:Hid (fnd f e a=f')) :
 Calls Try.prog 44 #[.pointer (some ⟨F,0,none⟩),J Z e,J Z a] w fun x w'=>x=.returned (.tuple #[])/\FM w' F f'/\FK F w w':=by
 have c0:=h.c0
 have c1:=h.c1
 have z0:=h.fz 0
 have z1:=h.fz 1
 have H:Hid _:=h
 clear h
 obtain ⟨fe,fa⟩:=f
 simp only at c0 c1
 have HS0:Hid (FM ((w.setCell ⟨F,0,none⟩ (J Z e)).setCell ⟨F,1,none⟩ (J Z a)) F (e,a)):=by
  have h0:=H.out
  unfold FM at h0
  show _=_
  simp [World.setCell,Array.getElem?_modify,h0]
 by_cases h1:fe=0
 ·have h1':(fe==0)=true:=by simp [h1]
  have HF:Hid (f'=(e,a)):=by show _=_;rw [<- hf.out];unfold fnd;rw [if_pos (.inl h1)]
  clear h1
  go_enter Try.func44,Try.ntmps44
  go_wp2_with fail
  go_end0
  exact ⟨rfl,by rw [HF.out];exact HS0.out,((FK.refl _ _).set _ _).set _ _⟩
 have h1':(fe==0)=false:=by simp [h1]
 by_cases h2:a<fa
 ·have HF:Hid (f'=(e,a)):=by show _=_;rw [<- hf.out];unfold fnd;rw [if_pos (.inr (.inl h2))]
  clear h1
  go_enter Try.func44,Try.ntmps44
  go_wp2_with fail
  go_end0
  exact ⟨rfl,by rw [HF.out];exact HS0.out,((FK.refl _ _).set _ _).set _ _⟩
 by_cases h3:a=fa
 ·have h3':(a==fa)=true:=by simp [h3]
  by_cases h4:e<fe
  ·have HF:Hid (f'=(e,a)):=by show _=_;rw [<- hf.out];unfold fnd;rw [if_pos (.inr (.inr ⟨h3,h4⟩))]
   clear h1 h3
   go_enter Try.func44,Try.ntmps44
   go_wp2_with fail
   go_end0
   exact ⟨rfl,by rw [HF.out];exact HS0.out,((FK.refl _ _).set _ _).set _ _⟩
  ·have HF:Hid (f'=(fe,fa)):=by show _=_;rw [<- hf.out];unfold fnd;rw [if_neg (fun h=>h.elim h1 (fun h=>h.elim h2 (fun h=>h4 h.2)))]
   clear h1 h3
   go_enter Try.func44,Try.ntmps44
   go_wp2_with fail
   go_end0
   exact ⟨rfl,by rw [HF.out];exact H.out,FK.refl _ _⟩
 ·have h3':(a==fa)=false:=by simp [h3]
  have HF:Hid (f'=(fe,fa)):=by show _=_;rw [<- hf.out];unfold fnd;rw [if_neg (fun h=>h.elim h1 (fun h=>h.elim h2 (fun h=>h3 h.1)))]
  clear h1 h3
  go_enter Try.func44,Try.ntmps44
  go_wp2_with fail
  go_end0
  exact ⟨rfl,by rw [HF.out];exact H.out,FK.refl _ _⟩
theorem zR (F:Nat) (f:Int×Int) (v a lo hi:Int) (w:World) (h:FM w F f) (f':Int×Int) (hf:Hid (Zp f v a lo hi=f')) :
 Calls Try.prog 68 #[.pointer (some ⟨F,0,none⟩),.agg #[J Z v,J Z a],J Z lo,J Z hi] w fun x w'=>x=.returned (.tuple #[])/\FM w' F f'/\FK F w w':=by
 have H:Hid (FM (w.alloc (X #[J Z v,J Z a] 90)) F f):=h.alloc _
 have HK:Hid (FK F w (w.alloc (X #[J Z v,J Z a] 90))):=(FK.refl _ _).alloc (Nat.le_of_lt h.lt) _
 clear h
 by_cases h1:v<lo
 ·have HF:Hid (fnd f 6 a=f'):=by show _=_;rw [<- hf.out];unfold Zp;rw [if_pos (.inl h1)]
  go_enter Try.func68,Try.ntmps68
  go_wp2_with fail
  refine (yk F f 6 a _ H.out f' HF).mono ?_
  rintro x w2 ⟨rfl,h2,k2⟩
  go_wp2_with fail
  go_end0
  exact ⟨rfl,h2,HK.out.trans k2⟩
 by_cases h2:hi<v
 ·have HF:Hid (fnd f 6 a=f'):=by show _=_;rw [<- hf.out];unfold Zp;rw [if_pos (.inr h2)]
  go_enter Try.func68,Try.ntmps68
  go_wp2_with fail
  refine (yk F f 6 a _ H.out f' HF).mono ?_
  rintro x w2 ⟨rfl,h2,k2⟩
  go_wp2_with fail
  go_end0
  exact ⟨rfl,h2,HK.out.trans k2⟩
 have HF:Hid (f=f'):=by show _=_;rw [<- hf.out];unfold Zp;rw [if_neg (fun h=>h.elim h1 h2)]
 go_enter Try.func68,Try.ntmps68
 go_wp2_with fail
 go_end0
 exact ⟨rfl,by rw [<- HF.out];exact H.out,HK.out⟩
def IV (w:World) (v:Value) (l:List IM):Prop:=(v=Q none 0 0/\l=[])\/∃ g cap,v=Q (some ⟨g,0,none⟩) l.length cap/\l.length<=cap/\∀ i x,l[i]?=some x->w.cell? ⟨g,i*7,none⟩=some (J Z x.at_)/\w.cell? ⟨g,i*7+1,none⟩=some (J Z x.num)/\w.cell? ⟨g,i*7+2,none⟩=some (J Z x.pv)/\w.cell? ⟨g,i*7+3,none⟩=some (J Z x.pl)/\w.cell? ⟨g,i*7+4,none⟩=some (J Z x.wv)/\w.cell? ⟨g,i*7+5,none⟩=some (J Z x.wa)/\w.cell? ⟨g,i*7+6,none⟩=some (J Z x.arm)
def zW (y x:IM):Bool:=(y.num==x.num) && (y.pv==x.pv) && (y.pl==x.pl)
theorem XI (v:Value) (x:IM) (l:List IM) (w:World) (hl:l.length<=100000) (h:IV w v l) :
 Calls Try.prog 69 #[v,.agg #[J Z x.at_,J Z x.num,J Z x.pv,J Z x.pl,J Z x.wv,J Z x.wa,J Z x.arm]] w fun e w'=>Below w.heap.size w w'/\e=.returned (.bool (l.any (fun y=>zW y x))):=by
 have hloop:∀ (i:Nat),i<l.length->∃ r,l[i]?=some r:=fun i hi=>⟨l[i],List.getElem?_eq_getElem hi⟩
 have HB0:Hid (Below w.heap.size w (w.alloc (X #[J Z x.at_,J Z x.num,J Z x.pv,J Z x.pl,J Z x.wv,J Z x.wa,J Z x.arm] 104))):=(Below.refl _ _).alloc (Nat.le_refl _) _
 have HX0:Hid ((w.alloc (X #[J Z x.at_,J Z x.num,J Z x.pv,J Z x.pl,J Z x.wv,J Z x.wa,J Z x.arm] 104)).heap[w.heap.size]?=some (X #[J Z x.at_,J Z x.num,J Z x.pv,J Z x.pl,J Z x.wv,J Z x.wa,J Z x.arm] 104 (0,0))):=heap_alloc_new w _
 rcases h with ⟨rfl,rfl⟩ | ⟨g,cap,rfl,hcl,hc⟩
 ·go_enter Try.func69,Try.ntmps69
  go_wp2_with fail
  go_loopg [9] 1 (fun n y wr=>y=J Z 0/\wr=w.alloc (X #[J Z x.at_,J Z x.num,J Z x.pv,J Z x.pl,J Z x.wv,J Z x.wa,J Z x.arm] 104))
  case atStart=>exact ⟨rfl,rfl⟩
  case round =>
   obtain ⟨rfl,rfl⟩:=hrel
   go_wp2_with fail
   go_ret
   exact ⟨HB0.out,rfl⟩
 ·have hgl:∀ i y,l[i]?=some y->g<w.heap.size:=fun i y hy=>World.block_lt_of_cell? w ⟨g,i*7,none⟩ (hc i y hy).1
  go_enter Try.func69,Try.ntmps69
  go_wp2_with fail
  go_loopg [9] l.length (fun n y wr=>∃ (j:Nat),n+j=l.length/\y=J Z j/\Hid ((l.take j).any (fun y=>zW y x)=false)/\Below w.heap.size w wr/\wr.heap[w.heap.size]?=some (X #[J Z x.at_,J Z x.num,J Z x.pv,J Z x.pl,J Z x.wv,J Z x.wa,J Z x.arm] 104 (0,0)))
  case atStart=>exact ⟨0,by omega,rfl,by show _=_;simp,HB0.out,HX0.out⟩
  case round =>
   obtain ⟨j,hn,rfl,HN,hb,hx⟩:=hrel
   have HB:Hid _:=hb
   have HX:Hid _:=hx
   have hws:w.heap.size<wr.heap.size:=lt_of_block hx
   clear hb hx
   by_cases hlt:j<l.length
   ·obtain ⟨y,hy⟩:=hloop j hlt
    have hj0:(0:Int)<=(j:Int):=by omega
    have hj1:(j:Int)<(l.length:Int):=by omega
    obtain ⟨r0,r1,r2,r3,r4,r5,r6⟩:=hc j y hy
    have g0:=zV HB.out r0
    have g1:=zV HB.out r1
    have g2:=zV HB.out r2
    have g3:=zV HB.out r3
    have g4:=zV HB.out r4
    have g5:=zV HB.out r5
    have g6:=zV HB.out r6
    have hgw:=hgl j y hy
    have x1:wr.cell? ⟨w.heap.size,1,none⟩=some (J Z x.num):=by simp [World.cell?,HX.out]
    have x2:wr.cell? ⟨w.heap.size,2,none⟩=some (J Z x.pv):=by simp [World.cell?,HX.out]
    have x3:wr.cell? ⟨w.heap.size,3,none⟩=some (J Z x.pl):=by simp [World.cell?,HX.out]
    have HD:Hid ((l.take (j+1)).any (fun y=>zW y x)=zW y x):=by
     show _=_
     rw [List.take_add_one,hy,List.any_append,HN.out]
     simp
    have HA:Hid (zW y x=true->l.any (fun y=>zW y x)=true):=fun h=>List.any_eq_true.2 ⟨y,List.mem_of_getElem? hy,h⟩
    have HB2:Hid (∀ o,Below w.heap.size w (wr.alloc o)):=fun o=>HB.out.alloc (Nat.le_of_lt hws) o
    have HX2:Hid (∀ o,(wr.alloc o).heap[w.heap.size]?=some (X #[J Z x.at_,J Z x.num,J Z x.pv,J Z x.pl,J Z x.wv,J Z x.wa,J Z x.arm] 104 (0,0))):=fun o=>(Below.heap_alloc _ _ _ hws).trans HX.out
    have HS:Hid (zW y x=((y.num==x.num) && (y.pv==x.pv) && (y.pl==x.pl))):=rfl
    clear r0 r1 r2 r3 r4 r5 r6 hy hc hloop hgl
    cases e1:(y.num==x.num) with
    | false =>
     have HZ:Hid (zW y x=false):=by show _=_;rw [HS.out,e1];rfl
     go_wp2_with fail
     go_roundg (gk-1)
     case measure=>omega
     case rel=>exact ⟨j+1,by omega,by go_num,by show _=_;rw [HD.out,HZ.out],HB2.out _,HX2.out _⟩
    | true =>
     cases e2:(y.pv==x.pv) with
     | false =>
      have HZ:Hid (zW y x=false):=by show _=_;rw [HS.out,e1,e2];rfl
      go_wp2_with fail
      go_roundg (gk-1)
      case measure=>omega
      case rel=>exact ⟨j+1,by omega,by go_num,by show _=_;rw [HD.out,HZ.out],HB2.out _,HX2.out _⟩
     | true =>
      cases e3:(y.pl==x.pl) with
      | false =>
       have HZ:Hid (zW y x=false):=by show _=_;rw [HS.out,e1,e2,e3];rfl
       go_wp2_with fail
       go_roundg (gk-1)
       case measure=>omega
       case rel=>exact ⟨j+1,by omega,by go_num,by show _=_;rw [HD.out,HZ.out],HB2.out _,HX2.out _⟩
      | true =>
       have HZ:Hid (l.any (fun y=>zW y x)=true):=HA.out (by rw [HS.out,e1,e2,e3];rfl)
       go_wp2_with fail
       go_ret
       exact ⟨HB2.out _,by rw [HZ.out];rfl⟩
   ·have hd:¬ ((j:Int)<(l.length:Int)):=by omega
    have hd2:((l.length:Int))<=(j:Int):=by omega
    have HD:Hid (l.any (fun y=>zW y x)=false):=by show _=_;have:=HN.out;rwa [List.take_of_length_le (by omega)] at this
    go_wp2_with fail
    go_ret
    exact ⟨HB.out,by rw [HD.out];rfl⟩
end
section
def ZD (c:Int) (x:IM) (f:Int×Int):Int×Int :=
 if c=123\/c=102 then Zp f x.num x.at_ 0 63
 else if c=119 then Zp (Zp f x.num x.at_ 0 63) x.wv x.wa 1 1000
 else if c=103 then Zp f x.num x.at_ 0 99
 else f
def Yz (e:EX) (f:Int×Int):Int×Int :=
 let f1:=if 12<=e.depth then fnd f 3 e.at_ else f
 if e.kind=116 then Zp f1 e.nv e.na 1 86400
 else if e.kind=64 then Zp f1 e.nv e.na 0 15
 else if e.kind=61 then (if e.inner=-1 then fnd f1 5 e.na else f1)
 else f1
attribute [local go_sem] zC zu
theorem ZN (F:Nat) (f:Int×Int) (c:Int) (x:IM) (w:World) (h:FM w F f) (f':Int×Int) (hf:Hid (ZD c x f=f')) :
 Calls Try.prog 70 #[.pointer (some ⟨F,0,none⟩),J O c,.agg #[J Z x.at_,J Z x.num,J Z x.pv,J Z x.pl,J Z x.wv,J Z x.wa,J Z x.arm]] w fun e w'=>e=.returned (.tuple #[])/\FM w' F f'/\FK F w w':=by
 have H:Hid (FM ((w.alloc (X #[J Z x.at_,J Z x.num,J Z x.pv,J Z x.pl,J Z x.wv,J Z x.wa,J Z x.arm] 104)).alloc (X #[J Z x.num,J Z x.at_] 90)) F f):=(h.alloc _).alloc _
 have HK:Hid (FK F w ((w.alloc (X #[J Z x.at_,J Z x.num,J Z x.pv,J Z x.pl,J Z x.wv,J Z x.wa,J Z x.arm] 104)).alloc (X #[J Z x.num,J Z x.at_] 90))):=((FK.refl _ _).alloc (Nat.le_of_lt h.lt) _).alloc (by have:=h.lt;simp;omega) _
 have hbn:=fun w=>xF x.num x.at_ w
 have hFl:=h.lt
 have hFn:w.heap.size≠F:=by omega
 have HX:Hid (((w.alloc (X #[J Z x.at_,J Z x.num,J Z x.pv,J Z x.pl,J Z x.wv,J Z x.wa,J Z x.arm] 104)).alloc (X #[J Z x.num,J Z x.at_] 90)).heap[w.heap.size]?=some (X #[J Z x.at_,J Z x.num,J Z x.pv,J Z x.pl,J Z x.wv,J Z x.wa,J Z x.arm] 104 (0,0))):=(Below.heap_alloc _ _ _ (by simp)).trans (heap_alloc_new w _)
 clear h
 by_cases h1:c=123
 ·subst h1
  have HF:Hid _:=hf
  go_enter Try.func70,Try.ntmps70
  go_wp2_with fail
  refine (zR F f x.num x.at_ 0 63 _ H.out f' HF).mono ?_
  rintro e w2 ⟨rfl,h2,k2⟩
  go_wp2_with fail
  go_end0
  exact ⟨rfl,h2,HK.out.trans k2⟩
 by_cases h2:c=102
 ·subst h2
  have HF:Hid _:=hf
  go_enter Try.func70,Try.ntmps70
  go_wp2_with fail
  refine (zR F f x.num x.at_ 0 63 _ H.out f' HF).mono ?_
  rintro e w2 ⟨rfl,h2,k2⟩
  go_wp2_with fail
  go_end0
  exact ⟨rfl,h2,HK.out.trans k2⟩
 by_cases h3:c=103
 ·subst h3
  have HF:Hid _:=hf
  go_enter Try.func70,Try.ntmps70
  go_wp2_with fail
  refine (zR F f x.num x.at_ 0 99 _ H.out f' HF).mono ?_
  rintro e w2 ⟨rfl,h2,k2⟩
  go_wp2_with fail
  go_end0
  exact ⟨rfl,h2,HK.out.trans k2⟩
 by_cases h4:c=119
 ·subst h4
  have HF:Hid _:=hf
  go_enter Try.func70,Try.ntmps70
  go_wp2_with fail
  refine (zR F f x.num x.at_ 0 63 _ H.out _ rfl).mono ?_
  rintro e w2 ⟨rfl,h2,k2⟩
  have H2:Hid _:=h2
  have K2:Hid _:=HK.out.trans k2
  have hx2:=(k2.kept w.heap.size (by simp;omega) hFn).trans HX.out
  have x4:w2.cell? ⟨w.heap.size,4,none⟩=some (J Z x.wv):=by simp [World.cell?,hx2]
  have x5:w2.cell? ⟨w.heap.size,5,none⟩=some (J Z x.wa):=by simp [World.cell?,hx2]
  clear h2 k2 hx2
  go_wp2_with fail
  refine (zR F _ x.wv x.wa 1 1000 _ H2.out f' HF).mono ?_
  rintro e w3 ⟨rfl,h3,k3⟩
  go_wp2_with fail
  go_end0
  exact ⟨rfl,h3,K2.out.trans k3⟩
 have e1:(c==123)=false:=by simp [h1]
 have e2:(c==102)=false:=by simp [h2]
 have e3:(c==103)=false:=by simp [h3]
 have e4:(c==119)=false:=by simp [h4]
 have HF:Hid (f=f'):=by show _=_;rw [<- hf.out];simp [ZD,h1,h2,h3,h4]
 clear h1 h2 h3 h4
 go_enter Try.func70,Try.ntmps70
 go_wp2_with fail
 go_end0
 exact ⟨rfl,by rw [<- HF.out];exact H.out,HK.out⟩
theorem Qf (F:Nat) (f:Int×Int) (e:EX) (vo:Option Addr) (vm vc:Nat) (w:World) (h:FM w F f) (f':Int×Int) (hf:Hid (Yz e f=f')) :
 Calls Try.prog 45 #[.pointer (some ⟨F,0,none⟩),.agg #[J O e.kind,J Z e.at_,J Z e.depth,J Z e.nv,J Z e.na,Q vo vm vc,J Z e.inner]] w fun r w'=>r=.returned (.tuple #[])/\FM w' F f'/\FK F w w':=by
 have H:Hid (FM (w.alloc (X #[J O e.kind,J Z e.at_,J Z e.depth,J Z e.nv,J Z e.na,Q vo vm vc,J Z e.inner] 97)) F f):=h.alloc _
 have HK:Hid (FK F w (w.alloc (X #[J O e.kind,J Z e.at_,J Z e.depth,J Z e.nv,J Z e.na,Q vo vm vc,J Z e.inner] 97))):=(FK.refl _ _).alloc (Nat.le_of_lt h.lt) _
 have HX:Hid ((w.alloc (X #[J O e.kind,J Z e.at_,J Z e.depth,J Z e.nv,J Z e.na,Q vo vm vc,J Z e.inner] 97)).heap[w.heap.size]?=some (X #[J O e.kind,J Z e.at_,J Z e.depth,J Z e.nv,J Z e.na,Q vo vm vc,J Z e.inner] 97 (0,0))):=heap_alloc_new w _
 have hFl:=h.lt
 have hFn:w.heap.size≠F:=by omega
 clear h
 by_cases hd:12<=e.depth
 ·obtain ⟨f1,hf0⟩:∃ f1,fnd f 3 e.at_=f1:=⟨_,rfl⟩
  have hf1:Hid ((if e.kind=116 then Zp f1 e.nv e.na 1 86400 else if e.kind=64 then Zp f1 e.nv e.na 0 15 else if e.kind=61 then (if e.inner=-1 then fnd f1 5 e.na else f1) else f1)=f'):=by show _=_;rw [<- hf.out,<- hf0];simp [Yz,hd]
  have HF0:Hid _:=hf0
  clear hf0
  go_enter Try.func45,Try.ntmps45
  go_wp2_with fail
  refine (yk F f 3 e.at_ _ H.out f1 HF0).mono ?_
  rintro r w2 ⟨rfl,h2,k2⟩
  have H2:Hid _:=h2
  have K2:Hid _:=HK.out.trans k2
  have hx2:=(k2.kept w.heap.size (by simp) hFn).trans HX.out
  clear h2 k2
  have x0:w2.cell? ⟨w.heap.size,0,none⟩=some (J O e.kind):=by simp [World.cell?,hx2]
  have x3:w2.cell? ⟨w.heap.size,3,none⟩=some (J Z e.nv):=by simp [World.cell?,hx2]
  have x4:w2.cell? ⟨w.heap.size,4,none⟩=some (J Z e.na):=by simp [World.cell?,hx2]
  have x6:w2.cell? ⟨w.heap.size,6,none⟩=some (J Z e.inner):=by simp [World.cell?,hx2]
  clear hx2
  by_cases k116:e.kind=116
  ·have HF:Hid (Zp f1 e.nv e.na 1 86400=f'):=by show _=_;rw [<- hf1.out];simp [k116]
   have e1:(e.kind==116)=true:=by simp [k116]
   have e2:(e.kind==64)=false:=by simp [k116]
   clear k116
   go_wp2_with fail
   refine (zR F f1 e.nv e.na 1 86400 _ H2.out f' HF).mono ?_
   rintro r w3 ⟨rfl,h3,k3⟩
   go_wp2_with fail
   go_end0
   exact ⟨rfl,h3,K2.out.trans k3⟩
  by_cases k64:e.kind=64
  ·have HF:Hid (Zp f1 e.nv e.na 0 15=f'):=by show _=_;rw [<- hf1.out];simp [k64]
   have e1:(e.kind==116)=false:=by simp [k64]
   have e2:(e.kind==64)=true:=by simp [k64]
   clear k64
   go_wp2_with fail
   refine (zR F f1 e.nv e.na 0 15 _ H2.out f' HF).mono ?_
   rintro r w3 ⟨rfl,h3,k3⟩
   go_wp2_with fail
   go_end0
   exact ⟨rfl,h3,K2.out.trans k3⟩
  by_cases k61:e.kind=61
  ·have e1:(e.kind==116)=false:=by simp [k61]
   have e2:(e.kind==64)=false:=by simp [k61]
   have e3:(e.kind==61)=true:=by simp [k61]
   by_cases hi:e.inner=-1
   ·have HF:Hid (fnd f1 5 e.na=f'):=by show _=_;rw [<- hf1.out];simp [k61,hi]
    have e4:(e.inner==-1)=true:=by simp [hi]
    clear hi k61
    go_wp2_with fail
    refine (yk F f1 5 e.na _ H2.out f' HF).mono ?_
    rintro r w3 ⟨rfl,h3,k3⟩
    go_wp2_with fail
    go_end0
    exact ⟨rfl,h3,K2.out.trans k3⟩
   ·have HF:Hid (f1=f'):=by show _=_;rw [<- hf1.out];simp [k61,hi]
    have e4:(e.inner==-1)=false:=by simp [hi]
    clear hi k61
    go_wp2_with fail
    go_end0
    exact ⟨rfl,by rw [<- HF.out];exact H2.out,K2.out⟩
  have e1:(e.kind==116)=false:=by simp [k116]
  have e2:(e.kind==64)=false:=by simp [k64]
  have e3:(e.kind==61)=false:=by simp [k61]
  have HF:Hid (f1=f'):=by show _=_;rw [<- hf1.out];simp [k61,k64,k116]
  clear k61 k64 k116
  go_wp2_with fail
  go_end0
  exact ⟨rfl,by rw [<- HF.out];exact H2.out,K2.out⟩
 ·have hd2:e.depth<12:=by omega
  have hf1:Hid ((if e.kind=116 then Zp f e.nv e.na 1 86400 else if e.kind=64 then Zp f e.nv e.na 0 15 else if e.kind=61 then (if e.inner=-1 then fnd f 5 e.na else f) else f)=f'):=by show _=_;rw [<- hf.out];simp [Yz,hd]
  by_cases k116:e.kind=116
  ·have HF:Hid (Zp f e.nv e.na 1 86400=f'):=by show _=_;rw [<- hf1.out];simp [k116]
   have e1:(e.kind==116)=true:=by simp [k116]
   have e2:(e.kind==64)=false:=by simp [k116]
   clear k116
   go_enter Try.func45,Try.ntmps45
   go_wp2_with fail
   refine (zR F f e.nv e.na 1 86400 _ H.out f' HF).mono ?_
   rintro r w3 ⟨rfl,h3,k3⟩
   go_wp2_with fail
   go_end0
   exact ⟨rfl,h3,HK.out.trans k3⟩
  by_cases k64:e.kind=64
  ·have HF:Hid (Zp f e.nv e.na 0 15=f'):=by show _=_;rw [<- hf1.out];simp [k64]
   have e1:(e.kind==116)=false:=by simp [k64]
   have e2:(e.kind==64)=true:=by simp [k64]
   clear k64
   go_enter Try.func45,Try.ntmps45
   go_wp2_with fail
   refine (zR F f e.nv e.na 0 15 _ H.out f' HF).mono ?_
   rintro r w3 ⟨rfl,h3,k3⟩
   go_wp2_with fail
   go_end0
   exact ⟨rfl,h3,HK.out.trans k3⟩
  by_cases k61:e.kind=61
  ·have e1:(e.kind==116)=false:=by simp [k61]
   have e2:(e.kind==64)=false:=by simp [k61]
   have e3:(e.kind==61)=true:=by simp [k61]
   by_cases hi:e.inner=-1
   ·have HF:Hid (fnd f 5 e.na=f'):=by show _=_;rw [<- hf1.out];simp [k61,hi]
    have e4:(e.inner==-1)=true:=by simp [hi]
    clear hi k61
    go_enter Try.func45,Try.ntmps45
    go_wp2_with fail
    refine (yk F f 5 e.na _ H.out f' HF).mono ?_
    rintro r w3 ⟨rfl,h3,k3⟩
    go_wp2_with fail
    go_end0
    exact ⟨rfl,h3,HK.out.trans k3⟩
   ·have HF:Hid (f=f'):=by show _=_;rw [<- hf1.out];simp [k61,hi]
    have e4:(e.inner==-1)=false:=by simp [hi]
    clear hi k61
    go_enter Try.func45,Try.ntmps45
    go_wp2_with fail
    go_end0
    exact ⟨rfl,by rw [<- HF.out];exact H.out,HK.out⟩
  have e1:(e.kind==116)=false:=by simp [k116]
  have e2:(e.kind==64)=false:=by simp [k64]
  have e3:(e.kind==61)=false:=by simp [k61]
  have HF:Hid (f=f'):=by show _=_;rw [<- hf1.out];simp [k61,k64,k116]
  clear k61 k64 k116
  go_enter Try.func45,Try.ntmps45
  go_wp2_with fail
  go_end0
  exact ⟨rfl,by rw [<- HF.out];exact H.out,HK.out⟩
end
section
def fIt (c:Int) (l:List IM) (j:Nat) (x:IM) (f:Int×Int):Int×Int :=
 let f1:=if 16<=j then fnd f 4 x.at_ else f
 let f2:=if (l.take j).any (fun y=>zW y x)=true then fnd f1 7 x.at_ else f1
 ZD c x f2
def yR (c:Int) (l:List IM) (f:Int×Int):Nat->Int×Int
 | 0=>f
 | j+1=>match l[j]? with
  | some x=>fIt c l j x (yR c l f j)
  | none=>yR c l f j
theorem IV.of_kept {w w':World} {v:Value} {l:List IM} (h:IV w v l) (hk:∀ g,v.ownBlock=some g->w'.heap[g]?=w.heap[g]?):IV w' v l:=by
 rcases h with h | ⟨g,cap,rfl,h1,h2⟩
 ·exact .inl h
 ·refine .inr ⟨g,cap,rfl,h1,fun i x hx=>?_⟩
  have e:∀ j,w'.cell? ⟨g,j,none⟩=w.cell? ⟨g,j,none⟩:=fun j=>World.cell?_of_block (w:=w) (hk g rfl)
  simp only [e]
  exact h2 i x hx
attribute [local go_sem] zC zu
theorem qb (F:Nat) (f:Int×Int) (e:EX) (vo:Option Addr) (vm vc:Nat) (w:World) (hl:e.items.length<=100000) (h:FM w F f) (hv:IV w (Q vo vm vc) e.items) (hvg:∀ g,(Q vo vm vc).ownBlock=some g->g≠F/\g<w.heap.size) (f':Int×Int) (hf:Hid (yR e.kind e.items f e.items.length=f')) :
 Calls Try.prog 46 #[.pointer (some ⟨F,0,none⟩),.agg #[J O e.kind,J Z e.at_,J Z e.depth,J Z e.nv,J Z e.na,Q vo vm vc,J Z e.inner]] w fun r w'=>r=.returned (.tuple #[])/\FM w' F f'/\FK F w w':=by
 have H:Hid (FM (w.alloc (X #[J O e.kind,J Z e.at_,J Z e.depth,J Z e.nv,J Z e.na,Q vo vm vc,J Z e.inner] 97)) F f):=h.alloc _
 have HK:Hid (FK F w (w.alloc (X #[J O e.kind,J Z e.at_,J Z e.depth,J Z e.nv,J Z e.na,Q vo vm vc,J Z e.inner] 97))):=(FK.refl _ _).alloc (Nat.le_of_lt h.lt) _
 have HX:Hid ((w.alloc (X #[J O e.kind,J Z e.at_,J Z e.depth,J Z e.nv,J Z e.na,Q vo vm vc,J Z e.inner] 97)).heap[w.heap.size]?=some (X #[J O e.kind,J Z e.at_,J Z e.depth,J Z e.nv,J Z e.na,Q vo vm vc,J Z e.inner] 97 (0,0))):=heap_alloc_new w _
 have hFl:=h.lt
 have hFn:w.heap.size≠F:=by omega
 clear h
 have hloop:∀ (i:Nat),i<e.items.length->∃ r,e.items[i]?=some r:=fun i hi=>⟨e.items[i],List.getElem?_eq_getElem hi⟩
 rcases hv with ⟨hv0,hv1⟩ | ⟨g,cp,hv0,hcl,hc⟩
 ·cases hv0
  have HF:Hid (f=f'):=by show _=_;rw [<- hf.out,hv1];rfl
  go_enter Try.func46,Try.ntmps46
  go_wp2_with fail
  go_loopg [9] 1 (fun n y wr=>y=J Z 0/\wr=w.alloc (X #[J O e.kind,J Z e.at_,J Z e.depth,J Z e.nv,J Z e.na,Q none 0 0,J Z e.inner] 97))
  case atStart=>exact ⟨rfl,rfl⟩
  case round =>
   obtain ⟨rfl,rfl⟩:=hrel
   go_wp2_with fail
   go_end0
   exact ⟨rfl,by rw [<- HF.out];exact H.out,HK.out⟩
 ·cases hv0
  have hgF:g≠F:=(hvg g rfl).1
  have hgl:g<w.heap.size:=(hvg g rfl).2
  go_enter Try.func46,Try.ntmps46
  go_wp2_with fail
  go_loopg [9] e.items.length (fun n y wr=>∃ (j:Nat),n+j=e.items.length/\y=J Z j/\FM wr F (yR e.kind e.items f j)/\FK F w wr/\wr.heap[w.heap.size]?=some (X #[J O e.kind,J Z e.at_,J Z e.depth,J Z e.nv,J Z e.na,Q (some ⟨g,0,none⟩) e.items.length vc,J Z e.inner] 97 (0,0)))
  case atStart=>exact ⟨0,by omega,rfl,H.out,HK.out,HX.out⟩
  case round =>
   obtain ⟨j,hn,rfl,hfm,hfk,hxe⟩:=hrel
   have HF1:Hid (FM wr F (yR e.kind e.items f j)):=hfm
   have HK1:Hid _:=hfk
   have HE1:Hid _:=hxe
   have hfl:=hfm.lt
   have hFx:wr.heap.size≠F:=by omega
   have hEX:w.heap.size<wr.heap.size:=lt_of_block hxe
   have hgw:g<wr.heap.size:=Nat.lt_of_lt_of_le hgl hfk.bel.size
   have hblk:wr.heap[g]?=w.heap[g]?:=hfk.kept g hgl hgF
   clear hfm hfk hxe
   by_cases hlt:j<e.items.length
   ·obtain ⟨x,hx⟩:=hloop j hlt
    have hj0:(0:Int)<=(j:Int):=by omega
    have hj1:(j:Int)<(e.items.length:Int):=by omega
    have hj2:(j:Int)<=(vc:Int):=by omega
    have hcj:∀ q,wr.cell? ⟨g,q,none⟩=w.cell? ⟨g,q,none⟩:=fun q=>World.cell?_of_block (w:=w) hblk
    obtain ⟨r0,r1,r2,r3,r4,r5,r6⟩:=hc j x hx
    rw [<- hcj] at r0 r1 r2 r3 r4 r5 r6
    have hl2:(e.items.take j).length=j:=by rw [List.length_take];omega
    have hlt2:(e.items.take j).length<=100000:=by omega
    have HV1:Hid (IV (wr.alloc (X #[J Z x.at_,J Z x.num,J Z x.pv,J Z x.pl,J Z x.wv,J Z x.wa,J Z x.arm] 104)) (Q (some ⟨g,0,none⟩) (e.items.take j).length vc) (e.items.take j)):=.inr ⟨g,vc,rfl,by omega,fun i y hy=>by
     have hcg:∀ q,(wr.alloc (X #[J Z x.at_,J Z x.num,J Z x.pv,J Z x.pl,J Z x.wv,J Z x.wa,J Z x.arm] 104)).cell? ⟨g,q,none⟩=w.cell? ⟨g,q,none⟩:=fun q=>World.cell?_of_block (w:=w) ((Below.heap_alloc _ _ _ hgw).trans hblk)
     simp only [hcg]
     have hi:i<j:=by have:=(List.getElem?_eq_some_iff.1 hy).1;omega
     exact hc i y (by rw [List.getElem?_take_of_lt hi] at hy;exact hy)⟩
    have HF2:Hid (FM (wr.alloc (X #[J Z x.at_,J Z x.num,J Z x.pv,J Z x.pl,J Z x.wv,J Z x.wa,J Z x.arm] 104)) F (yR e.kind e.items f j)):=HF1.out.alloc _
    have HK2:Hid (FK F w (wr.alloc (X #[J Z x.at_,J Z x.num,J Z x.pv,J Z x.pl,J Z x.wv,J Z x.wa,J Z x.arm] 104))):=HK1.out.alloc (Nat.le_of_lt hfl) _
    have HE2:Hid ((wr.alloc (X #[J Z x.at_,J Z x.num,J Z x.pv,J Z x.pl,J Z x.wv,J Z x.wa,J Z x.arm] 104)).heap[w.heap.size]?=some (X #[J O e.kind,J Z e.at_,J Z e.depth,J Z e.nv,J Z e.na,Q (some ⟨g,0,none⟩) e.items.length vc,J Z e.inner] 97 (0,0))):=(Below.heap_alloc _ _ _ hEX).trans HE1.out
    have HX2:Hid ((wr.alloc (X #[J Z x.at_,J Z x.num,J Z x.pv,J Z x.pl,J Z x.wv,J Z x.wa,J Z x.arm] 104)).heap[wr.heap.size]?=some (X #[J Z x.at_,J Z x.num,J Z x.pv,J Z x.pl,J Z x.wv,J Z x.wa,J Z x.arm] 104 (0,0))):=heap_alloc_new wr _
    have HV2:Hid _:=HV1
    have HJ1:Hid (yR e.kind e.items f (j+1)=fIt e.kind e.items j x (yR e.kind e.items f j)):=by show _=_;simp only [yR,hx]
    rw [hl2] at HV2
    generalize hfj:yR e.kind e.items f j=fj at *
    clear hx hc hcj hblk hfj HF1 HK1 HV1
    by_cases h16:16<=j
    ·have h16':(16:Int)<=(j:Int):=by omega
     have HJ0:Hid (yR e.kind e.items f (j+1)=ZD e.kind x (if (e.items.take j).any (fun y=>zW y x)=true then fnd (fnd fj 4 x.at_) 7 x.at_ else fnd fj 4 x.at_)):=by show _=_;rw [HJ1.out];simp only [fIt,if_pos h16]
     go_wp2_with fail
     clear r0 r1 r2 r3 r4 r5 r6
     refine (yk F fj 4 x.at_ _ HF2.out _ rfl).mono ?_
     rintro r w3 ⟨rfl,h,k⟩
     have HF3:Hid (FM w3 F (fnd fj 4 x.at_)):=h
     have HK3:Hid _:=HK2.out.trans k
     have HE3:Hid _:=(k.kept _ (lt_of_block HE2.out) hFn).trans HE2.out
     have HX3:Hid _:=(k.kept _ (lt_of_block HX2.out) hFx).trans HX2.out
     have HV3:Hid (IV w3 (Q (some ⟨g,0,none⟩) j vc) (e.items.take j)):=HV2.out.of_kept (fun g' hg'=>by cases hg';exact k.kept _ (Nat.lt_of_lt_of_le hgl HK2.out.bel.size) hgF)
     clear h k
     have e0:w3.cell? ⟨w.heap.size,0,none⟩=some (J O e.kind):=by simp [World.cell?,HE3.out]
     have e5:w3.cell? ⟨w.heap.size,5,none⟩=some (Q (some ⟨g,0,none⟩) e.items.length vc):=by simp [World.cell?,HE3.out]
     have x0:w3.cell? ⟨wr.heap.size,0,none⟩=some (J Z x.at_):=by simp [World.cell?,HX3.out]
     have x1:w3.cell? ⟨wr.heap.size,1,none⟩=some (J Z x.num):=by simp [World.cell?,HX3.out]
     have x2:w3.cell? ⟨wr.heap.size,2,none⟩=some (J Z x.pv):=by simp [World.cell?,HX3.out]
     have x3:w3.cell? ⟨wr.heap.size,3,none⟩=some (J Z x.pl):=by simp [World.cell?,HX3.out]
     have x4:w3.cell? ⟨wr.heap.size,4,none⟩=some (J Z x.wv):=by simp [World.cell?,HX3.out]
     have x5:w3.cell? ⟨wr.heap.size,5,none⟩=some (J Z x.wa):=by simp [World.cell?,HX3.out]
     have x6:w3.cell? ⟨wr.heap.size,6,none⟩=some (J Z x.arm):=by simp [World.cell?,HX3.out]
     go_wp2_with fail
     go_region_with (go_at_call 69;refine (XI _ x (e.items.take j) _ hlt2 ?_).mono ?_;exact HV3.out.of_kept (fun _ _=>rfl);rintro r w4 ⟨hb4,rfl⟩)
     all_goals
      have k:FK F w3 w4:=(FK.refl _ _).drew.trans (FK.below hb4 (Nat.le_of_lt HF3.out.lt))
      have h:FM w4 F (fnd fj 4 x.at_):=(hb4.block F HF3.out.lt).trans HF3.out
      clear hb4 e0 e5 x0 x1 x2 x3 x4 x5 x6
      have HF4:Hid _:=h
      have HK4:Hid _:=HK3.out.trans k
      have HE4:Hid _:=(k.kept _ (lt_of_block HE3.out) hFn).trans HE3.out
      have HX4:Hid _:=(k.kept _ (lt_of_block HX3.out) hFx).trans HX3.out
      have HV4:Hid (IV w4 (Q (some ⟨g,0,none⟩) j vc) (e.items.take j)):=HV3.out.of_kept (fun g' hg'=>by cases hg';exact k.kept _ (Nat.lt_of_lt_of_le hgl HK3.out.bel.size) hgF)
      clear h k
      have e0:w4.cell? ⟨w.heap.size,0,none⟩=some (J O e.kind):=by simp [World.cell?,HE4.out]
      have e5:w4.cell? ⟨w.heap.size,5,none⟩=some (Q (some ⟨g,0,none⟩) e.items.length vc):=by simp [World.cell?,HE4.out]
      have x0:w4.cell? ⟨wr.heap.size,0,none⟩=some (J Z x.at_):=by simp [World.cell?,HX4.out]
      have x1:w4.cell? ⟨wr.heap.size,1,none⟩=some (J Z x.num):=by simp [World.cell?,HX4.out]
      have x2:w4.cell? ⟨wr.heap.size,2,none⟩=some (J Z x.pv):=by simp [World.cell?,HX4.out]
      have x3:w4.cell? ⟨wr.heap.size,3,none⟩=some (J Z x.pl):=by simp [World.cell?,HX4.out]
      have x4:w4.cell? ⟨wr.heap.size,4,none⟩=some (J Z x.wv):=by simp [World.cell?,HX4.out]
      have x5:w4.cell? ⟨wr.heap.size,5,none⟩=some (J Z x.wa):=by simp [World.cell?,HX4.out]
      have x6:w4.cell? ⟨wr.heap.size,6,none⟩=some (J Z x.arm):=by simp [World.cell?,HX4.out]
      cases hin:(e.items.take j).any (fun y=>zW y x) with
      | true =>
       have HJ:Hid (yR e.kind e.items f (j+1)=ZD e.kind x (fnd (fnd fj 4 x.at_) 7 x.at_)):=by show _=_;rw [HJ0.out,hin];rfl
       clear hin HJ0
       go_wp2_with fail
       refine (yk F (fnd fj 4 x.at_) 7 x.at_ _ HF4.out _ rfl).mono ?_
       rintro r w5 ⟨rfl,h,k⟩
       have HF5:Hid _:=h
       have HK5:Hid _:=HK4.out.trans k
       have HE5:Hid _:=(k.kept _ (lt_of_block HE4.out) hFn).trans HE4.out
       have HX5:Hid _:=(k.kept _ (lt_of_block HX4.out) hFx).trans HX4.out
       have HV5:Hid (IV w5 (Q (some ⟨g,0,none⟩) j vc) (e.items.take j)):=HV4.out.of_kept (fun g' hg'=>by cases hg';exact k.kept _ (Nat.lt_of_lt_of_le hgl HK4.out.bel.size) hgF)
       clear h k
       clear e0 e5 x0 x1 x2 x3 x4 x5 x6
       have e0:w5.cell? ⟨w.heap.size,0,none⟩=some (J O e.kind):=by simp [World.cell?,HE5.out]
       have e5:w5.cell? ⟨w.heap.size,5,none⟩=some (Q (some ⟨g,0,none⟩) e.items.length vc):=by simp [World.cell?,HE5.out]
       have x0:w5.cell? ⟨wr.heap.size,0,none⟩=some (J Z x.at_):=by simp [World.cell?,HX5.out]
       have x1:w5.cell? ⟨wr.heap.size,1,none⟩=some (J Z x.num):=by simp [World.cell?,HX5.out]
       have x2:w5.cell? ⟨wr.heap.size,2,none⟩=some (J Z x.pv):=by simp [World.cell?,HX5.out]
       have x3:w5.cell? ⟨wr.heap.size,3,none⟩=some (J Z x.pl):=by simp [World.cell?,HX5.out]
       have x4:w5.cell? ⟨wr.heap.size,4,none⟩=some (J Z x.wv):=by simp [World.cell?,HX5.out]
       have x5:w5.cell? ⟨wr.heap.size,5,none⟩=some (J Z x.wa):=by simp [World.cell?,HX5.out]
       have x6:w5.cell? ⟨wr.heap.size,6,none⟩=some (J Z x.arm):=by simp [World.cell?,HX5.out]
       go_wp2_with fail
       refine (ZN F (fnd (fnd fj 4 x.at_) 7 x.at_) e.kind x _ HF5.out _ rfl).mono ?_
       rintro r w9 ⟨rfl,h,k⟩
       have HF9:Hid (FM w9 F (yR e.kind e.items f (j+1))):=by show FM _ _ _;rw [HJ.out];exact h
       have HK9:Hid _:=HK5.out.trans k
       have HE9:Hid _:=(k.kept _ (lt_of_block HE5.out) hFn).trans HE5.out
       clear h k
       clear e0 e5 x0 x1 x2 x3 x4 x5 x6
       go_wp2_with fail
       go_roundg (gk-1)
       case measure=>omega
       case rel=>exact ⟨j+1,by omega,by go_num,HF9.out,HK9.out,HE9.out⟩
      | false =>
       have HJ:Hid (yR e.kind e.items f (j+1)=ZD e.kind x (fnd fj 4 x.at_)):=by show _=_;rw [HJ0.out,hin];rfl
       clear hin HJ0
       go_wp2_with fail
       refine (ZN F (fnd fj 4 x.at_) e.kind x _ HF4.out _ rfl).mono ?_
       rintro r w9 ⟨rfl,h,k⟩
       have HF9:Hid (FM w9 F (yR e.kind e.items f (j+1))):=by show FM _ _ _;rw [HJ.out];exact h
       have HK9:Hid _:=HK4.out.trans k
       have HE9:Hid _:=(k.kept _ (lt_of_block HE4.out) hFn).trans HE4.out
       clear h k
       clear e0 e5 x0 x1 x2 x3 x4 x5 x6
       go_wp2_with fail
       go_roundg (gk-1)
       case measure=>omega
       case rel=>exact ⟨j+1,by omega,by go_num,HF9.out,HK9.out,HE9.out⟩
    ·have h16':¬ (16:Int)<=(j:Int):=by omega
     have HJ0:Hid (yR e.kind e.items f (j+1)=ZD e.kind x (if (e.items.take j).any (fun y=>zW y x)=true then fnd fj 7 x.at_ else fj)):=by show _=_;rw [HJ1.out];simp only [fIt,if_neg h16]
     have e0':wr.cell? ⟨w.heap.size,5,none⟩=some (Q (some ⟨g,0,none⟩) e.items.length vc):=by simp [World.cell?,HE1.out]
     go_wp2_with fail
     clear r0 r1 r2 r3 r4 r5 r6 e0'
     generalize wr.alloc (X #[J Z x.at_,J Z x.num,J Z x.pv,J Z x.pl,J Z x.wv,J Z x.wa,J Z x.arm] 104)=w3 at *
     have HF3:=HF2
     have HK3:=HK2
     have HE3:=HE2
     have HX3:=HX2
     have HV3:=HV2
     have e0:w3.cell? ⟨w.heap.size,0,none⟩=some (J O e.kind):=by simp [World.cell?,HE3.out]
     have e5:w3.cell? ⟨w.heap.size,5,none⟩=some (Q (some ⟨g,0,none⟩) e.items.length vc):=by simp [World.cell?,HE3.out]
     have x0:w3.cell? ⟨wr.heap.size,0,none⟩=some (J Z x.at_):=by simp [World.cell?,HX3.out]
     have x1:w3.cell? ⟨wr.heap.size,1,none⟩=some (J Z x.num):=by simp [World.cell?,HX3.out]
     have x2:w3.cell? ⟨wr.heap.size,2,none⟩=some (J Z x.pv):=by simp [World.cell?,HX3.out]
     have x3:w3.cell? ⟨wr.heap.size,3,none⟩=some (J Z x.pl):=by simp [World.cell?,HX3.out]
     have x4:w3.cell? ⟨wr.heap.size,4,none⟩=some (J Z x.wv):=by simp [World.cell?,HX3.out]
     have x5:w3.cell? ⟨wr.heap.size,5,none⟩=some (J Z x.wa):=by simp [World.cell?,HX3.out]
     have x6:w3.cell? ⟨wr.heap.size,6,none⟩=some (J Z x.arm):=by simp [World.cell?,HX3.out]
     go_region_with (go_at_call 69;refine (XI _ x (e.items.take j) _ hlt2 ?_).mono ?_;exact HV3.out.of_kept (fun _ _=>rfl);rintro r w4 ⟨hb4,rfl⟩)
     all_goals
      have k:FK F w3 w4:=(FK.refl _ _).drew.trans (FK.below hb4 (Nat.le_of_lt HF3.out.lt))
      have h:FM w4 F fj:=(hb4.block F HF3.out.lt).trans HF3.out
      clear hb4 e0 e5 x0 x1 x2 x3 x4 x5 x6
      have HF4:Hid _:=h
      have HK4:Hid _:=HK3.out.trans k
      have HE4:Hid _:=(k.kept _ (lt_of_block HE3.out) hFn).trans HE3.out
      have HX4:Hid _:=(k.kept _ (lt_of_block HX3.out) hFx).trans HX3.out
      have HV4:Hid (IV w4 (Q (some ⟨g,0,none⟩) j vc) (e.items.take j)):=HV3.out.of_kept (fun g' hg'=>by cases hg';exact k.kept _ (Nat.lt_of_lt_of_le hgl HK3.out.bel.size) hgF)
      clear h k
      have e0:w4.cell? ⟨w.heap.size,0,none⟩=some (J O e.kind):=by simp [World.cell?,HE4.out]
      have e5:w4.cell? ⟨w.heap.size,5,none⟩=some (Q (some ⟨g,0,none⟩) e.items.length vc):=by simp [World.cell?,HE4.out]
      have x0:w4.cell? ⟨wr.heap.size,0,none⟩=some (J Z x.at_):=by simp [World.cell?,HX4.out]
      have x1:w4.cell? ⟨wr.heap.size,1,none⟩=some (J Z x.num):=by simp [World.cell?,HX4.out]
      have x2:w4.cell? ⟨wr.heap.size,2,none⟩=some (J Z x.pv):=by simp [World.cell?,HX4.out]
      have x3:w4.cell? ⟨wr.heap.size,3,none⟩=some (J Z x.pl):=by simp [World.cell?,HX4.out]
      have x4:w4.cell? ⟨wr.heap.size,4,none⟩=some (J Z x.wv):=by simp [World.cell?,HX4.out]
      have x5:w4.cell? ⟨wr.heap.size,5,none⟩=some (J Z x.wa):=by simp [World.cell?,HX4.out]
      have x6:w4.cell? ⟨wr.heap.size,6,none⟩=some (J Z x.arm):=by simp [World.cell?,HX4.out]
      cases hin:(e.items.take j).any (fun y=>zW y x) with
      | true =>
       have HJ:Hid (yR e.kind e.items f (j+1)=ZD e.kind x (fnd fj 7 x.at_)):=by show _=_;rw [HJ0.out,hin];rfl
       clear hin HJ0
       go_wp2_with fail
       refine (yk F fj 7 x.at_ _ HF4.out _ rfl).mono ?_
       rintro r w5 ⟨rfl,h,k⟩
       have HF5:Hid _:=h
       have HK5:Hid _:=HK4.out.trans k
       have HE5:Hid _:=(k.kept _ (lt_of_block HE4.out) hFn).trans HE4.out
       have HX5:Hid _:=(k.kept _ (lt_of_block HX4.out) hFx).trans HX4.out
       have HV5:Hid (IV w5 (Q (some ⟨g,0,none⟩) j vc) (e.items.take j)):=HV4.out.of_kept (fun g' hg'=>by cases hg';exact k.kept _ (Nat.lt_of_lt_of_le hgl HK4.out.bel.size) hgF)
       clear h k
       clear e0 e5 x0 x1 x2 x3 x4 x5 x6
       have e0:w5.cell? ⟨w.heap.size,0,none⟩=some (J O e.kind):=by simp [World.cell?,HE5.out]
       have e5:w5.cell? ⟨w.heap.size,5,none⟩=some (Q (some ⟨g,0,none⟩) e.items.length vc):=by simp [World.cell?,HE5.out]
       have x0:w5.cell? ⟨wr.heap.size,0,none⟩=some (J Z x.at_):=by simp [World.cell?,HX5.out]
       have x1:w5.cell? ⟨wr.heap.size,1,none⟩=some (J Z x.num):=by simp [World.cell?,HX5.out]
       have x2:w5.cell? ⟨wr.heap.size,2,none⟩=some (J Z x.pv):=by simp [World.cell?,HX5.out]
       have x3:w5.cell? ⟨wr.heap.size,3,none⟩=some (J Z x.pl):=by simp [World.cell?,HX5.out]
       have x4:w5.cell? ⟨wr.heap.size,4,none⟩=some (J Z x.wv):=by simp [World.cell?,HX5.out]
       have x5:w5.cell? ⟨wr.heap.size,5,none⟩=some (J Z x.wa):=by simp [World.cell?,HX5.out]
       have x6:w5.cell? ⟨wr.heap.size,6,none⟩=some (J Z x.arm):=by simp [World.cell?,HX5.out]
       go_wp2_with fail
       refine (ZN F (fnd fj 7 x.at_) e.kind x _ HF5.out _ rfl).mono ?_
       rintro r w9 ⟨rfl,h,k⟩
       have HF9:Hid (FM w9 F (yR e.kind e.items f (j+1))):=by show FM _ _ _;rw [HJ.out];exact h
       have HK9:Hid _:=HK5.out.trans k
       have HE9:Hid _:=(k.kept _ (lt_of_block HE5.out) hFn).trans HE5.out
       clear h k
       clear e0 e5 x0 x1 x2 x3 x4 x5 x6
       go_wp2_with fail
       go_roundg (gk-1)
       case measure=>omega
       case rel=>exact ⟨j+1,by omega,by go_num,HF9.out,HK9.out,HE9.out⟩
      | false =>
       have HJ:Hid (yR e.kind e.items f (j+1)=ZD e.kind x fj):=by show _=_;rw [HJ0.out,hin];rfl
       clear hin HJ0
       go_wp2_with fail
       refine (ZN F fj e.kind x _ HF4.out _ rfl).mono ?_
       rintro r w9 ⟨rfl,h,k⟩
       have HF9:Hid (FM w9 F (yR e.kind e.items f (j+1))):=by show FM _ _ _;rw [HJ.out];exact h
       have HK9:Hid _:=HK4.out.trans k
       have HE9:Hid _:=(k.kept _ (lt_of_block HE4.out) hFn).trans HE4.out
       clear h k
       clear e0 e5 x0 x1 x2 x3 x4 x5 x6
       go_wp2_with fail
       go_roundg (gk-1)
       case measure=>omega
       case rel=>exact ⟨j+1,by omega,by go_num,HF9.out,HK9.out,HE9.out⟩
   ·have hd:¬ ((j:Int)<(e.items.length:Int)):=by omega
    have hje:j=e.items.length:=by omega
    have HF9:Hid (FM wr F f'):=by show FM _ _ _;rw [<- hf.out,<- hje];exact HF1.out
    clear hje
    go_wp2_with fail
    go_end0
    exact ⟨rfl,HF9.out,HK1.out⟩
end
end Go.Proofs.Ytaebngpoagjafaa
