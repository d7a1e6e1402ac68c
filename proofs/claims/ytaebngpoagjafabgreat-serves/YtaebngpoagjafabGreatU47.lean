import Derived.Test.YtaebngpoagjafabGreatU46
set_option maxRecDepth 100000
namespace Go.Proofs.YtaebngpoagjafabGreat
open Obj renaming cells → Q
open Value renaming int → J, slice → O
open IntKind renaming i64 → Z
open Go.RowKit
attribute [local go_sem ↓] Go.wp_at_zero Go.wp_at_succ
section
structure Kp (B:Nat) (w w':World):Prop where
 size:w.heap.size<=w'.heap.size
 block:∀ b,b≠B->b<w.heap.size->w'.heap[b]?=w.heap[b]?
theorem Kp.of_below {B:Nat} {w w':World} (h:Below w.heap.size w w'):Kp B w w':=⟨h.size,fun b _ hb=>h.block b hb⟩
theorem Kp.set {B:Nat} {w w':World} (h:Kp B w w') (i:Nat) (v:Value):Kp B w (w'.setCell ⟨B,i,none⟩ v) :=
 ⟨by rw [World.size_setCell];exact h.size,fun b hb hl=>by rw [za hb];exact h.block b hb hl⟩
def Qh (w:World) (G:Nat->Prop) (v:Value) (C:List Int):Prop:=∃ o c b off,v=O o C.length c/\CS w w.heap.size o b off C/\(0<C.length->G b/\∃ cs fr,w.heap[b]?=some (Q cs 5 fr))
def Zb (w:World) (G:Nat->Prop) (v:Value) (l:List Int):Prop:=∃ o c,v=O o l.length c/\(0<l.length->∃ b off,o=some ⟨b,off,none⟩/\G b/\(∃ cs fr,w.heap[b]?=some (Q cs 3 fr))/\∀ i x,l[i]?=some x->w.cell? ⟨b,off+i,none⟩=some (J Z x))
def Qe (w:World) (G:Nat->Prop) (v:Value) (V L R:Nat->Int) (n:Nat):Prop:=∃ o c b off,v=O o n c/\TS w o b off n V L R/\(0<n->G b/\∃ cs fr,w.heap[b]?=some (Q cs 96 fr))
section
variable {w w':World} {G G':Nat->Prop} {v:Value}
theorem Qh.of {C:List Int} (h:Qh w G v C) (hs:w.heap.size<=w'.heap.size) (hG:∀ b,G b->b<w.heap.size->G' b) (hk:∀ b cs fr,G b->w.heap[b]?=some (Q cs 5 fr)->w'.heap[b]?=w.heap[b]?):Qh w' G' v C:=by
 obtain ⟨o,c,b,g,k,e,j⟩:=h
 refine ⟨o,c,b,g,k,⟨e.at_,fun d=>Nat.lt_of_lt_of_le (e.lt d) hs,fun i x hx=>?_,e.byt⟩,fun d=>?_⟩
 ·have d:0<C.length:=by have:=(List.getElem?_eq_some_iff.1 hx).1;omega
  obtain ⟨f,cs,fr,a⟩:=j d
  rw [World.cell?_of_block (hk b cs fr f a)]
  exact e.val i x hx
 ·obtain ⟨f,cs,fr,a⟩:=j d
  exact ⟨hG b f (lt_of_block a),cs,fr,(hk b cs fr f a).trans a⟩
theorem Zb.of {l:List Int} (h:Zb w G v l) (hG:∀ b,G b->b<w.heap.size->G' b) (hk:∀ b cs fr,G b->w.heap[b]?=some (Q cs 3 fr)->w'.heap[b]?=w.heap[b]?):Zb w' G' v l:=by
 obtain ⟨o,c,g,j⟩:=h
 refine ⟨o,c,g,fun h0=>?_⟩
 obtain ⟨b,a,m,f,⟨cs,fr,d⟩,k⟩:=j h0
 have e:=hk b cs fr f d
 exact ⟨b,a,m,hG b f (lt_of_block d),⟨cs,fr,e.trans d⟩,fun i x hx=>by rw [World.cell?_of_block e];exact k i x hx⟩
theorem Qe.of {V L R:Nat->Int} {n:Nat} (h:Qe w G v V L R n) (hs:w.heap.size<=w'.heap.size) (hG:∀ b,G b->b<w.heap.size->G' b) (hk:∀ b cs fr,G b->w.heap[b]?=some (Q cs 96 fr)->w'.heap[b]?=w.heap[b]?):Qe w' G' v V L R n:=by
 obtain ⟨o,c,b,f,k,d,j⟩:=h
 have a:0<n->w'.heap[b]?=w.heap[b]?:=fun h0=>by
  obtain ⟨g,cs,fr,e⟩:=j h0
  exact hk b cs fr g e
 refine ⟨o,c,b,f,k,⟨d.at_,fun h0=>Nat.lt_of_lt_of_le (d.lt h0) hs,fun i hi=>?_,fun i hi=>?_,fun i hi=>?_⟩,fun h0=>?_⟩
 ·rw [World.cell?_of_block (a (by omega))];exact d.val i hi
 ·rw [World.cell?_of_block (a (by omega))];exact d.len i hi
 ·rw [World.cell?_of_block (a (by omega))];exact d.reg i hi
 ·obtain ⟨g,cs,fr,e⟩:=j h0
  exact ⟨hG b g (lt_of_block e),cs,fr,(a h0).trans e⟩
theorem Xi {base e size:Nat} {n:Nat} {xs:List Value} {g:Nat} {c:Nat} (ho:w.ownsRow base e size (O (some ⟨g,0,none⟩) n c) n xs):∃ cs fr,w.heap[g]?=some (Q cs e fr):=by
 rcases ho.2 with ⟨h,_⟩ | ⟨g',_,cur,hv,_,hg,_⟩
 ·cases h
 ·cases hv;exact ⟨cur,_,hg⟩
theorem Zb.own {base:Nat} {oo:Option Addr} {cap:Nat} {l:List Int} (ho:w.ownsRow base 3 1 (O oo l.length cap) l.length (l.map (J Z))) (hG:∀ b,base<=b->G b):Zb w G (O oo l.length cap) l:=by
 refine ⟨oo,cap,rfl,fun h0=>?_⟩
 obtain ⟨g,c,a,d,f⟩:=ho.form h0
 cases a
 refine ⟨g,0,rfl,hG g d,Xi ho,fun i x hx=>?_⟩
 have e:=(List.getElem?_eq_some_iff.1 hx).1
 rw [Nat.zero_add,ho.cellAt i (by omega),List.getElem?_map,hx]
 rfl
end
theorem Zb.is_ {w:World} {G:Nat->Prop} {v:Value} {l:List Int} (h:Zb w G v l):∃ o c b off,v=O o l.length c/\IS w o b off l.length (fun i=>(l[i]?).getD 0):=by
 obtain ⟨o,c,a,d⟩:=h
 rcases Nat.eq_zero_or_pos l.length with h0 | h0
 ·exact ⟨o,c,0,0,a,⟨fun h=>by omega,fun h=>by omega,fun i hi=>by omega⟩⟩
 ·obtain ⟨b,off,g,_,⟨k,j,f⟩,e⟩:=d h0
  refine ⟨o,c,b,off,a,⟨fun _=>g,fun _=>lt_of_block f,fun i hi=>?_⟩⟩
  rw [e i _ (List.getElem?_eq_getElem hi),List.getElem?_eq_getElem hi]
  rfl
structure SV (w:World) (G:Nat->Prop) (B:Nat) (C:List Int) (dn:Nat->Bool) (al:Nat->List Int) (V L R:Nat->Int) (pl:Nat):Prop where
 ex:∃ cv av pv,w.rowIs B 61 82 (svF cv dn av pv)/\Qh w G cv C/\(∀ k,k<16->Zb w G (av k) (al k))/\Qe w G pv V L R pl
 cl:C.length<=7000
 ll:∀ k,k<16->(al k).length<=16
theorem qF {w:World} {B b n:Nat} {t t':TypeId} {f:Nat->Value} {cs:Array Value} {fr:Nat×Nat} (h:w.rowIs B t n f) (hb:w.heap[b]?=some (Q cs t' fr)) (ht:t≠t'):b≠B:=fun e=>by
 obtain ⟨c,a,_⟩:=h
 rw [e,a] at hb
 simp at hb
 exact ht hb.2.1
section
variable {w w':World} {G G':Nat->Prop} {B:Nat} {C:List Int} {dn:Nat->Bool} {al:Nat->List Int} {V L R:Nat->Int} {pl:Nat}
theorem SV.lt (h:SV w G B C dn al V L R pl):B<w.heap.size:=by
 obtain ⟨_,_,_,a,_⟩:=h.ex
 exact a.lt
theorem SV.of (h:SV w G B C dn al V L R pl) (hs:w.heap.size<=w'.heap.size) (hG:∀ b,G b->b<w.heap.size->G' b) (hB:w'.heap[B]?=w.heap[B]?) (hk:∀ b cs t fr,G b->t=3\/t=5\/t=96->w.heap[b]?=some (Q cs t fr)->w'.heap[b]?=w.heap[b]?):SV w' G' B C dn al V L R pl:=by
 obtain ⟨g,i,pv,f,e,d,a⟩:=h.ex
 exact ⟨⟨g,i,pv,f.of_block hB,e.of hs hG (fun b cs fr hb=>hk b cs _ fr hb (.inr (.inl rfl))),fun k hk'=>(d k hk').of hG (fun b cs fr hb=>hk b cs _ fr hb (.inl rfl)),a.of hs hG (fun b cs fr hb=>hk b cs _ fr hb (.inr (.inr rfl)))⟩,h.cl,h.ll⟩
theorem SV.below (h:SV w G B C dn al V L R pl) (hb:Below w.heap.size w w'):SV w' G B C dn al V L R pl :=
 h.of hb.size (fun _ h _=>h) (hb.block B h.lt) (fun b _ _ _ _ _ h=>hb.block b (lt_of_block h))
theorem SV.wk (h:SV w G B C dn al V L R pl) (hG:∀ b,G b->b<w.heap.size->G' b):SV w G' B C dn al V L R pl:=h.of (Nat.le_refl _) hG rfl (fun _ _ _ _ _ _ _=>rfl)
theorem SV.data (h:SV w G B C dn al V L R pl) (hk:Kp B w w'):∃ cv av pv,w.rowIs B 61 82 (svF cv dn av pv)/\Qh w' G cv C/\(∀ k,k<16->Zb w' G (av k) (al k))/\Qe w' G pv V L R pl:=by
 obtain ⟨cv,av,pv,a,f,e,d⟩:=h.ex
 exact ⟨cv,av,pv,a,f.of hk.size (fun _ h _=>h) (fun b _ _ _ hb=>hk.block b (qF a hb (by decide)) (lt_of_block hb)),fun k hk'=>(e k hk').of (fun _ h _=>h) (fun b _ _ _ hb=>hk.block b (qF a hb (by decide)) (lt_of_block hb)),d.of hk.size (fun _ h _=>h) (fun b _ _ _ hb=>hk.block b (qF a hb (by decide)) (lt_of_block hb))⟩
theorem zb7 (w:World) (G:Nat->Prop):SV (w.alloc (Q sv0 61)) G w.heap.size [] (fun _=>false) (fun _=>[]) (fun _=>0) (fun _=>0) (fun _=>0) 0 :=
 ⟨⟨_,_,_,zaL w,⟨none,0,0,0,rfl,⟨fun h=>absurd h (Nat.lt_irrefl _),fun h=>absurd h (Nat.lt_irrefl _),fun i x h=>by simp at h,fun x h=>by cases h⟩,fun h=>absurd h (Nat.lt_irrefl _)⟩,fun _ _=>⟨none,0,rfl,fun h=>absurd h (Nat.lt_irrefl _)⟩,⟨none,0,0,0,rfl,⟨fun h=>absurd h (Nat.lt_irrefl _),fun h=>absurd h (Nat.lt_irrefl _),fun i h=>absurd h (Nat.not_lt_zero _),fun i h=>absurd h (Nat.not_lt_zero _),fun i h=>absurd h (Nat.not_lt_zero _)⟩,fun h=>absurd h (Nat.lt_irrefl _)⟩⟩,by simp,fun _ _=>by simp⟩
theorem SV.mark (h:SV w G B C dn al V L R pl) {n:Nat} (hn:n<64) (x:Bool):SV (w.setCell ⟨B,1+n,none⟩ (.bool x)) G B C (fun i=>if i=n then x else dn i) al V L R pl:=by
 have d:Kp B w (w.setCell ⟨B,1+n,none⟩ (.bool x)):=Kp.set ⟨Nat.le_refl _,fun _ _ _=>rfl⟩ _ _
 obtain ⟨l,m,pv,k,j,g,f⟩:=h.data d
 refine ⟨⟨l,m,pv,(k.set (1+n) (.bool x)).congr (fun i _=>?_),j,g,f⟩,h.cl,h.ll⟩
 unfold svF
 dsimp only
 by_cases e:i=1+n
 ·rw [if_pos e,if_neg (by omega),if_pos (by omega),if_pos (by omega)]
 ·rw [if_neg e]
  by_cases b:i=0
  ·rw [if_pos b,if_pos b]
  ·rw [if_neg b,if_neg b]
   by_cases a:i<65
   ·rw [if_pos a,if_pos a,if_neg (by omega)]
   ·rw [if_neg a,if_neg a]
theorem SV.alias (h:SV w G B C dn al V L R pl) {k n:Nat} (hk:k<16) {w1:World} {D:Nat->Int} {oo:Option Addr} {cap:Nat} (hn:n<=16) (hb:Below w.heap.size w w1) (ho:w1.ownsRow w.heap.size 3 1 (O oo n cap) n (isC D n)) (hG:∀ b,w.heap.size<=b->G b) :
 SV (w1.setCell ⟨B,65+k,none⟩ (O oo n cap)) G B C dn (fun i=>if i=k then (List.range n).map D else al i) V L R pl:=by
 have q:=h.lt
 have p:Kp B w (w1.setCell ⟨B,65+k,none⟩ (O oo n cap)):=(Kp.of_below hb).set _ _
 obtain ⟨v,x,pv,g,u,s,r⟩:=h.data p
 refine ⟨⟨v,fun i=>if i=k then O oo n cap else x i,pv,((g.of_block (hb.block B q)).set (65+k) (O oo n cap)).congr (fun i hi=>?_),u,fun j hj=>?_,r⟩,h.cl,fun j hj=>?_⟩
 ·unfold svF
  dsimp only
  by_cases e:i=65+k
  ·rw [if_pos e,if_neg (by omega),if_neg (by omega),if_pos (by omega),if_pos (by omega)]
  ·rw [if_neg e]
   by_cases f:i=0
   ·rw [if_pos f,if_pos f]
   ·rw [if_neg f,if_neg f]
    by_cases d:i<65
    ·rw [if_pos d,if_pos d]
    ·rw [if_neg d,if_neg d]
     by_cases a:i<81
     ·rw [if_pos a,if_pos a,if_neg (by omega)]
     ·rw [if_neg a,if_neg a]
 ·by_cases e:j=k
  ·simp only [if_pos e]
   have o:isC D n=((List.range n).map D).map (J Z):=by simp [isC,List.map_map,Function.comp_def]
   have l:((List.range n).map D).length=n:=by simp
   rw [o] at ho
   have m:Zb w1 (fun b=>G b/\b≠B) (O oo ((List.range n).map D).length cap) ((List.range n).map D):=Zb.own (by rw [l];exact ho) (fun b hb=>⟨hG b hb,by omega⟩)
   rw [l] at m
   exact m.of (fun _ h _=>h.1) fun b _ _ g _=>za g.2
  ·simp only [if_neg e]
   exact s j hj
 ·by_cases e:j=k
  ·simp only [if_pos e];simpa using hn
  ·simp only [if_neg e];exact h.ll j hj
theorem SV.locate (h:SV w G B C dn al V L R pl) {w1:World} {n:Nat} {V' L' R':Nat->Int} {oo:Option Addr} {cap:Nat} (hb:Below w.heap.size w w1) (ho:w1.ownsRow w.heap.size 96 3 (O oo n cap) n (plC V' L' R' n)) (hG:∀ b,w.heap.size<=b->G b) :
 SV (w1.setCell ⟨B,81,none⟩ (O oo n cap)) G B C dn al V' L' R' n:=by
 have m:=h.lt
 have l:Kp B w (w1.setCell ⟨B,81,none⟩ (O oo n cap)):=(Kp.of_below hb).set _ _
 obtain ⟨r,s,pv,q,p,o,u⟩:=h.data l
 refine ⟨⟨r,s,O oo n cap,((q.of_block (hb.block B m)).set 81 (O oo n cap)).congr (fun i hi=>?_),p,o,?_⟩,h.cl,h.ll⟩
 ·unfold svF
  by_cases e:i=81
  ·rw [if_pos e,if_neg (by omega),if_neg (by omega),if_neg (by omega)]
  ·rw [if_neg e]
   by_cases j:i=0
   ·rw [if_pos j,if_pos j]
   ·rw [if_neg j,if_neg j]
    by_cases f:i<65
    ·rw [if_pos f,if_pos f]
    ·rw [if_neg f,if_neg f,if_pos (by omega),if_pos (by omega)]
 ·obtain ⟨g,d,k⟩:=qu ho
  have a:0<n->(w1.setCell ⟨B,81,none⟩ (O oo n cap)).heap[g]?=w1.heap[g]?:=fun h0=>za (by have:=k h0;omega)
  refine ⟨oo,cap,g,0,rfl,⟨d.at_,fun h0=>by rw [World.size_setCell];exact d.lt h0,fun i hi=>?_,fun i hi=>?_,fun i hi=>?_⟩,fun h0=>⟨hG g (k h0),?_⟩⟩
  ·rw [World.cell?_of_block (a (by omega))];exact d.val i hi
  ·rw [World.cell?_of_block (a (by omega))];exact d.len i hi
  ·rw [World.cell?_of_block (a (by omega))];exact d.reg i hi
  ·rw [a h0]
   have:=d.at_ h0
   subst this
   exact Xi ho
theorem SV.load (h:SV w G B C dn al V L R pl) {w1:World} {X:List Int} {oo:Option Addr} {cap:Nat} (hX:X.length<=7000) (hby:∀ y∈X,0<=y/\y<256) (hb:Below w.heap.size w w1) (ho:w1.ownsRow w.heap.size 5 1 (O oo X.length cap) X.length (X.map (Value.int .u8))) (hG:∀ b,w.heap.size<=b->G b) :
 SV (w1.setCell ⟨B,0,none⟩ (O oo X.length cap)) G B X dn al V L R pl:=by
 have j:=h.lt
 have d:Kp B w (w1.setCell ⟨B,0,none⟩ (O oo X.length cap)):=(Kp.of_below hb).set _ _
 obtain ⟨r,p,pv,m,q,l,k⟩:=h.data d
 refine ⟨⟨O oo X.length cap,p,pv,((m.of_block (hb.block B j)).set 0 (O oo X.length cap)).congr (fun i f=>?_),?_,l,k⟩,hX,h.ll⟩
 ·unfold svF
  by_cases e:i=0
  ·rw [if_pos e,if_pos e]
  ·rw [if_neg e,if_neg e,if_neg e]
 ·rcases Nat.eq_zero_or_pos X.length with h0 | h0
  ·exact ⟨oo,cap,0,0,rfl,⟨fun h=>by omega,fun h=>by omega,fun i x hx=>by have:=(List.getElem?_eq_some_iff.1 hx).1;omega,hby⟩,fun h=>by omega⟩
  ·obtain ⟨g,c,a,o,n⟩:=ho.form h0
   cases a
   refine ⟨_,cap,g,0,rfl,⟨fun _=>rfl,fun _=>by rw [World.size_setCell];exact n,fun i x hx=>?_,hby⟩,fun _=>⟨hG g o,by rw [za (show g≠B by omega)];exact Xi ho⟩⟩
   have f:=(List.getElem?_eq_some_iff.1 hx).1
   rw [Nat.zero_add,World.cell?_of_block (za (show g≠B by omega)),ho.cellAt i (by omega),List.getElem?_map,hx]
   rfl
end
end
section
section
variable {w:World} {G:Nat->Prop} {B:Nat} {C:List Int} {dn:Nat->Bool} {al:Nat->List Int} {V L R:Nat->Int} {pl:Nat}
theorem SV.markC (h:SV w G B C dn al V L R pl) {n:Nat} (hn:n<64) (up:Bool) :
 Calls Tryz.prog 16 #[.pointer (some ⟨B,0,none⟩),J Z n,.bool up] w fun e w'=>e=.returned (J Z 0)/\Below B w w'/\Kp B w w'/\SV w' G B C (fun i=>if i=n then !up else dn i) al V L R pl:=by
 obtain ⟨b,d,pv,a,_⟩:=h.ex
 refine (zeo B n up _ w hn a).mono ?_
 rintro e w' ⟨rfl,rfl⟩
 exact ⟨rfl,((Below.refl _ _).mono (Nat.le_of_lt h.lt)).setCell (Nat.le_refl _) _,Kp.set ⟨Nat.le_refl _,fun _ _ _=>rfl⟩ _ _,h.mark hn _⟩
theorem SV.aliasC (h:SV w G B C dn al V L R pl) {k:Nat} (hk:k<16) {o:Option Addr} {b off n c:Nat} {D:Nat->Int} (hi:IS w o b off n D) (hn:n<=16) (hD:∀ i,i<n->0<=D i/\D i<64) (hG:∀ b,w.heap.size<=b->G b) :
 Calls Tryz.prog 18 #[.pointer (some ⟨B,0,none⟩),J Z k,O o n c] w fun e w'=>e=.returned (J Z 0)/\Below B w w'/\Kp B w w'/\SV w' G B C dn (fun i=>if i=k then (List.range n).map D else al i) V L R pl:=by
 obtain ⟨m,p,pv,f,_⟩:=h.ex
 refine (zdE B k o b off n c D _ w hk f hi hn hD).mono ?_
 rintro e w' ⟨rfl,j,l,g,a,d,rfl⟩
 exact ⟨rfl,(a.mono (Nat.le_of_lt h.lt)).setCell (Nat.le_refl _) _,(Kp.of_below a).set _ _,h.alias hk hn a d hG⟩
theorem SV.locateC (h:SV w G B C dn al V L R pl) {o:Option Addr} {b off n c:Nat} {V' L' R':Nat->Int} (hs:TS w o b off n V' L' R') (hp:yO V' L' R' n=true) (hG:∀ b,w.heap.size<=b->G b) :
 Calls Tryz.prog 20 #[.pointer (some ⟨B,0,none⟩),O o n c] w fun e w'=>e=.returned (J Z 0)/\Below B w w'/\Kp B w w'/\SV w' G B C dn al V' L' R' n:=by
 obtain ⟨k,l,pv,f,_⟩:=h.ex
 refine (zbh B o b off n c V' L' R' _ w f hs hp).mono ?_
 rintro e w' ⟨rfl,i,j,g,a,d,rfl⟩
 exact ⟨rfl,(a.mono (Nat.le_of_lt h.lt)).setCell (Nat.le_refl _) _,(Kp.of_below a).set _ _,h.locate a d hG⟩
theorem SV.loadC (h:SV w G B C dn al V L R pl) (s:ByteArray) (hG:∀ b,w.heap.size<=b->G b) :
 Calls Tryz.prog 10 #[.pointer (some ⟨B,0,none⟩),.string s] w fun e w'=>e=.returned (.tuple #[J Z (cpE s),J Z (ldA s)])/\Below B w w'/\Kp B w w'/\SV w' G B (if cpE s=0 then cpX s else C) dn al V L R pl:=by
 obtain ⟨n,o,pv,j,_⟩:=h.ex
 refine (zcR B _ s w j).mono ?_
 rintro e w' ⟨rfl,d,g⟩
 by_cases a:cpE s=0
 ·obtain ⟨l,m,k,f,i,rfl⟩:=g a
  rw [if_pos a]
  exact ⟨rfl,(f.mono (Nat.le_of_lt h.lt)).setCell (Nat.le_refl _) _,(Kp.of_below f).set _ _,h.load (qW a).2.2.2 (zeJ _ _) f i hG⟩
 ·rw [if_neg a]
  exact ⟨rfl,(d a).mono (Nat.le_of_lt h.lt),Kp.of_below (d a),h.below (d a)⟩
theorem SV.queryC (h:SV w G B C dn al V L R pl) (a b d:Int) :
 Calls Tryz.prog 12 #[.pointer (some ⟨B,0,none⟩),J Z a,J Z b,J Z d] w (Qn w (quF a b d dn ((List.range 16).map al) V L R pl C)):=by
 obtain ⟨N,I,pv,r,⟨E,F,H,f,rfl,p,_⟩,y,⟨s,j,u,e,rfl,n,_⟩⟩:=h.ex
 have K:=h.cl
 refine zba B a b d E H f F C dn I _ s u e pl j V L R w r (by omega) (by simp) n ⟨fun _=>rfl,fun _=>r.lt,fun k l hkl=>?_,fun l hl'=>?_⟩ p
 ·have g:k<16:=by have:=(List.getElem?_eq_some_iff.1 hkl).1;simpa using this
  have q:al k=l:=by simpa [g] using hkl
  subst q
  obtain ⟨o,c,v,x⟩:=y k g
  refine ⟨o,c,?_,fun h0=>?_⟩
  ·rw [r.cell (i:=65+k) (by omega)]
   unfold svF
   rw [if_neg (by omega),if_neg (by omega),if_pos (by omega),show 65+k-65=k by omega,v]
  ·obtain ⟨b,m,D,_,⟨_,_,A⟩,z⟩:=x h0
   exact ⟨b,m,D,lt_of_block A,z⟩
 ·simp only [List.mem_map,List.mem_range] at hl'
  obtain ⟨k,g,rfl⟩:=hl'
  have:=h.ll k g
  omega
end
end
theorem JZ {s:ByteArray} (h:s.size=0):s=⟨#[]⟩:=by
 cases s with
 | mk d =>
  have:d=#[]:=Array.eq_empty_of_size_eq_zero h
  rw [this]
theorem jf:(⟨#[]⟩:ByteArray).toList=[]:=by
 unfold ByteArray.toList;unfold ByteArray.toList.loop;simp [ByteArray.size]
theorem zbc {s:ByteArray} (h:s≠⟨#[]⟩):(s.toList==(⟨#[]⟩:ByteArray).toList)=false:=by
 cases hq:(s.toList==(⟨#[]⟩:ByteArray).toList) with
 | false=>rfl
 | true=>exact absurd (JZ ((xe _ _).1 hq).1) h
section
def WD.dnTo (x:WD) (k i:Nat):Bool:=(List.range i).any fun j=>x.Dn j==(k:Int)
def WD.cells (x:WD):Array Value:=#[J Z x.a,J Z x.b,J Z x.d,O x.do_ x.dl x.dc,O x.ao x.al.length x.ac,O x.po x.pl x.pcp]
theorem SV.bareL {w w':World} {G:Nat->Prop} {B:Nat} {dn:Nat->Bool} {al:Nat->List Int} {V L R:Nat->Int} (h:SV w G B [] dn al V L R 0) (hB:w'.heap[B]?=w.heap[B]?) (hk:∀ b cs fr,G b->w.heap[b]?=some (Q cs 3 fr)->w'.heap[b]?=w.heap[b]?):SV w' G B [] dn al V L R 0:=by
 obtain ⟨m,l,pv,f,⟨g,j,_,_,rfl,_,_⟩,e,⟨d,a,_,_,rfl,_,_⟩⟩:=h.ex
 exact ⟨⟨_,l,_,f.of_block hB,⟨g,j,0,0,rfl,⟨fun h=>absurd h (Nat.lt_irrefl _),fun h=>absurd h (Nat.lt_irrefl _),fun i x h=>by simp at h,fun x h=>by cases h⟩,fun h=>absurd h (Nat.lt_irrefl _)⟩,fun k hk'=>(e k hk').of (fun _ h _=>h) hk,⟨d,a,0,0,rfl,⟨fun h=>absurd h (Nat.lt_irrefl _),fun h=>absurd h (Nat.lt_irrefl _),fun i h=>absurd h (Nat.not_lt_zero _),fun i h=>absurd h (Nat.not_lt_zero _),fun i h=>absurd h (Nat.not_lt_zero _)⟩,fun h=>absurd h (Nat.lt_irrefl _)⟩⟩,h.cl,h.ll⟩
theorem SV.bare {w w':World} {G:Nat->Prop} {B:Nat} {dn:Nat->Bool} {V L R:Nat->Int} (h:SV w G B [] dn (fun _=>[]) V L R 0) (hB:w'.heap[B]?=w.heap[B]?):SV w' G B [] dn (fun _=>[]) V L R 0:=by
 obtain ⟨q,p,pv,l,j,g,f⟩:=h.ex
 have e:SV w (fun _=>False) B [] dn (fun _=>[]) V L R 0:=by
  obtain ⟨m,n,_,_,rfl,_,_⟩:=j
  obtain ⟨b,a,_,_,rfl,_,_⟩:=f
  exact ⟨⟨_,p,_,l,⟨m,n,0,0,rfl,⟨fun h=>absurd h (Nat.lt_irrefl _),fun h=>absurd h (Nat.lt_irrefl _),fun i x h=>by simp at h,fun x h=>by cases h⟩,fun h=>absurd h (Nat.lt_irrefl _)⟩,fun k hk=>by
   obtain ⟨o,c,d,_⟩:=g k hk
   exact ⟨o,c,d,fun h0=>absurd h0 (Nat.lt_irrefl _)⟩,⟨b,a,0,0,rfl,⟨fun h=>absurd h (Nat.lt_irrefl _),fun h=>absurd h (Nat.lt_irrefl _),fun i h=>absurd h (Nat.not_lt_zero _),fun i h=>absurd h (Nat.not_lt_zero _),fun i h=>absurd h (Nat.not_lt_zero _)⟩,fun h=>absurd h (Nat.lt_irrefl _)⟩⟩,h.cl,h.ll⟩
 exact (e.bareL hB (fun _ _ _ h=>h.elim)).wk (fun _ h=>h.elim)
theorem SV.blk {w:World} {G:Nat->Prop} {B:Nat} {C:List Int} {dn:Nat->Bool} {al:Nat->List Int} {V L R:Nat->Int} {pl:Nat} (h:SV w G B C dn al V L R pl):∃ cs fr,w.heap[B]?=some (Q cs 61 fr):=by
 obtain ⟨_,_,_,⟨c,a,_⟩,_⟩:=h.ex
 exact ⟨c,_,a⟩
section
variable {w0 w wr w':World} {x:WD} {B:Nat} {V L R:Nat->Int} {dn dn':Nat->Bool} {al al':Nat->List Int} {LL:List Int} {dv av:Value} {avs:List Value}
end
theorem zct (V L R:Nat->Int):yO V L R 0=true:=by simp [yO,Zw,M.isMap,M.okTo]
end
end Go.Proofs.YtaebngpoagjafabGreat
