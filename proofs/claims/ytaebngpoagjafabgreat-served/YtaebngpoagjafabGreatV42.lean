import Derived.Test.YtaebngpoagjafabGreatV41
set_option maxRecDepth 100000
set_option maxHeartbeats 400000
namespace Go.Proofs.YtaebngpoagjafabGreat
open Obj renaming cells → Q
open Value renaming int → J, slice → O
open IntKind renaming i64 → Z
open Go.RowKit
section
structure Kp (B:Nat) (w w':World):Prop where
 size:w.heap.size<=w'.heap.size
 block:∀ b,b≠B->b<w.heap.size->w'.heap[b]?=w.heap[b]?
theorem Kp.of_below {B:Nat} {w w':World} (h:Below w.heap.size w w'):Kp B w w':=⟨h.size,fun b _ hb=>h.block b hb⟩
theorem Kp.set {B:Nat} {w w':World} (h:Kp B w w') (i:Nat) (v:Value):Kp B w (w'.setCell ⟨B,i,none⟩ v) :=
 ⟨by rw [World.size_setCell];exact h.size,fun b hb hl=>by rw [za hb];exact h.block b hb hl⟩
def X9 (w:World) (G:Nat->Prop) (v:Value) (C:List Int):Prop:=∃ o c b off,v=O o C.length c/\CS w w.heap.size o b off C/\(0<C.length->G b/\∃ cs fr,w.heap[b]?=some (Q cs 5 fr))
def yF (w:World) (G:Nat->Prop) (v:Value) (l:List Int):Prop:=∃ o c,v=O o l.length c/\(0<l.length->∃ b off,o=some ⟨b,off,none⟩/\G b/\(∃ cs fr,w.heap[b]?=some (Q cs 3 fr))/\∀ i x,l[i]?=some x->w.cell? ⟨b,off+i,none⟩=some (J Z x))
def Q4 (w:World) (G:Nat->Prop) (v:Value) (V L R:Nat->Int) (n:Nat):Prop:=∃ o c b off,v=O o n c/\TS w o b off n V L R/\(0<n->G b/\∃ cs fr,w.heap[b]?=some (Q cs 96 fr))
section
variable {w w':World} {G G':Nat->Prop} {v:Value}
theorem X9.of {C:List Int} (h:X9 w G v C) (hs:w.heap.size<=w'.heap.size) (hG:∀ b,G b->b<w.heap.size->G' b) (hk:∀ b cs fr,G b->w.heap[b]?=some (Q cs 5 fr)->w'.heap[b]?=w.heap[b]?):X9 w' G' v C:=by
 obtain ⟨o,c,b,off,hv,hc,hb⟩:=h
 refine ⟨o,c,b,off,hv,⟨hc.at_,fun h0=>Nat.lt_of_lt_of_le (hc.lt h0) hs,fun i x hx=>?_,hc.byt⟩,fun h0=>?_⟩
 ·have h0:0<C.length:=by have:=(List.getElem?_eq_some_iff.1 hx).1;omega
  obtain ⟨h1,cs,fr,h2⟩:=hb h0
  rw [World.cell?_of_block (hk b cs fr h1 h2)]
  exact hc.val i x hx
 ·obtain ⟨h1,cs,fr,h2⟩:=hb h0
  exact ⟨hG b h1 (lt_of_block h2),cs,fr,(hk b cs fr h1 h2).trans h2⟩
theorem yF.of {l:List Int} (h:yF w G v l) (hG:∀ b,G b->b<w.heap.size->G' b) (hk:∀ b cs fr,G b->w.heap[b]?=some (Q cs 3 fr)->w'.heap[b]?=w.heap[b]?):yF w' G' v l:=by
 obtain ⟨o,c,hv,hl⟩:=h
 refine ⟨o,c,hv,fun h0=>?_⟩
 obtain ⟨b,off,h1,h3,⟨cs,fr,h5⟩,h4⟩:=hl h0
 have hb:=hk b cs fr h3 h5
 exact ⟨b,off,h1,hG b h3 (lt_of_block h5),⟨cs,fr,hb.trans h5⟩,fun i x hx=>by rw [World.cell?_of_block hb];exact h4 i x hx⟩
theorem Q4.of {V L R:Nat->Int} {n:Nat} (h:Q4 w G v V L R n) (hs:w.heap.size<=w'.heap.size) (hG:∀ b,G b->b<w.heap.size->G' b) (hk:∀ b cs fr,G b->w.heap[b]?=some (Q cs 96 fr)->w'.heap[b]?=w.heap[b]?):Q4 w' G' v V L R n:=by
 obtain ⟨o,c,b,off,hv,hp,hb⟩:=h
 have key:0<n->w'.heap[b]?=w.heap[b]?:=fun h0=>by
  obtain ⟨h1,cs,fr,h2⟩:=hb h0
  exact hk b cs fr h1 h2
 refine ⟨o,c,b,off,hv,⟨hp.at_,fun h0=>Nat.lt_of_lt_of_le (hp.lt h0) hs,fun i hi=>?_,fun i hi=>?_,fun i hi=>?_⟩,fun h0=>?_⟩
 ·rw [World.cell?_of_block (key (by omega))];exact hp.val i hi
 ·rw [World.cell?_of_block (key (by omega))];exact hp.len i hi
 ·rw [World.cell?_of_block (key (by omega))];exact hp.reg i hi
 ·obtain ⟨h1,cs,fr,h2⟩:=hb h0
  exact ⟨hG b h1 (lt_of_block h2),cs,fr,(key h0).trans h2⟩
theorem XM {base e size:Nat} {n:Nat} {xs:List Value} {g:Nat} {c:Nat} (ho:w.ownsRow base e size (O (some ⟨g,0,none⟩) n c) n xs):∃ cs fr,w.heap[g]?=some (Q cs e fr):=by
 rcases ho.2 with ⟨h,_⟩ | ⟨g',_,cur,hv,_,hg,_⟩
 ·cases h
 ·cases hv;exact ⟨cur,_,hg⟩
theorem yF.own {base:Nat} {oo:Option Addr} {cap:Nat} {l:List Int} (ho:w.ownsRow base 3 1 (O oo l.length cap) l.length (l.map (J Z))) (hG:∀ b,base<=b->G b):yF w G (O oo l.length cap) l:=by
 refine ⟨oo,cap,rfl,fun h0=>?_⟩
 obtain ⟨g,c,hv,g1,g2⟩:=ho.form h0
 cases hv
 refine ⟨g,0,rfl,hG g g1,XM ho,fun i x hx=>?_⟩
 have hi:=(List.getElem?_eq_some_iff.1 hx).1
 rw [Nat.zero_add,ho.cellAt i (by omega),List.getElem?_map,hx]
 rfl
end
theorem yF.is_ {w:World} {G:Nat->Prop} {v:Value} {l:List Int} (h:yF w G v l):∃ o c b off,v=O o l.length c/\IS w o b off l.length (fun i=>(l[i]?).getD 0):=by
 obtain ⟨o,c,hv,hl⟩:=h
 rcases Nat.eq_zero_or_pos l.length with h0 | h0
 ·exact ⟨o,c,0,0,hv,⟨fun h=>by omega,fun h=>by omega,fun i hi=>by omega⟩⟩
 ·obtain ⟨b,off,h1,_,⟨cs,fr,h2⟩,h3⟩:=hl h0
  refine ⟨o,c,b,off,hv,⟨fun _=>h1,fun _=>lt_of_block h2,fun i hi=>?_⟩⟩
  rw [h3 i _ (List.getElem?_eq_getElem hi),List.getElem?_eq_getElem hi]
  rfl
theorem jl (l:List Int):(List.range l.length).map (fun i=>(l[i]?).getD 0)=l:=by
 apply List.ext_getElem?
 intro i
 rw [List.getElem?_map]
 rcases Nat.lt_or_ge i l.length with h | h
 ·rw [List.getElem?_range h];simp [h]
 ·rw [List.getElem?_eq_none (by simp;omega),List.getElem?_eq_none h];rfl
structure SV (w:World) (G:Nat->Prop) (B:Nat) (C:List Int) (dn:Nat->Bool) (al:Nat->List Int) (V L R:Nat->Int) (pl:Nat):Prop where
 ex:∃ cv av pv,w.rowIs B 61 82 (svF cv dn av pv)/\X9 w G cv C/\(∀ k,k<16->yF w G (av k) (al k))/\Q4 w G pv V L R pl
 cl:C.length<=7000
 ll:∀ k,k<16->(al k).length<=16
theorem XG {w:World} {B b n:Nat} {t t':TypeId} {f:Nat->Value} {cs:Array Value} {fr:Nat×Nat} (h:w.rowIs B t n f) (hb:w.heap[b]?=some (Q cs t' fr)) (ht:t≠t'):b≠B:=fun e=>by
 obtain ⟨c,hc,_⟩:=h
 rw [e,hc] at hb
 simp at hb
 exact ht hb.2.1
section
variable {w w':World} {G G':Nat->Prop} {B:Nat} {C:List Int} {dn:Nat->Bool} {al:Nat->List Int} {V L R:Nat->Int} {pl:Nat}
theorem SV.lt (h:SV w G B C dn al V L R pl):B<w.heap.size:=by
 obtain ⟨_,_,_,h1,_⟩:=h.ex
 exact h1.lt
theorem SV.of (h:SV w G B C dn al V L R pl) (hs:w.heap.size<=w'.heap.size) (hG:∀ b,G b->b<w.heap.size->G' b) (hB:w'.heap[B]?=w.heap[B]?) (hk:∀ b cs t fr,G b->t=3\/t=5\/t=96->w.heap[b]?=some (Q cs t fr)->w'.heap[b]?=w.heap[b]?):SV w' G' B C dn al V L R pl:=by
 obtain ⟨cv,av,pv,h1,h2,h3,h4⟩:=h.ex
 exact ⟨⟨cv,av,pv,h1.of_block hB,h2.of hs hG (fun b cs fr hb=>hk b cs _ fr hb (.inr (.inl rfl))),fun k hk'=>(h3 k hk').of hG (fun b cs fr hb=>hk b cs _ fr hb (.inl rfl)),h4.of hs hG (fun b cs fr hb=>hk b cs _ fr hb (.inr (.inr rfl)))⟩,h.cl,h.ll⟩
theorem SV.below (h:SV w G B C dn al V L R pl) (hb:Below w.heap.size w w'):SV w' G B C dn al V L R pl :=
 h.of hb.size (fun _ h _=>h) (hb.block B h.lt) (fun b _ _ _ _ _ h=>hb.block b (lt_of_block h))
theorem SV.wk (h:SV w G B C dn al V L R pl) (hG:∀ b,G b->b<w.heap.size->G' b):SV w G' B C dn al V L R pl:=h.of (Nat.le_refl _) hG rfl (fun _ _ _ _ _ _ _=>rfl)
theorem SV.data (h:SV w G B C dn al V L R pl) (hk:Kp B w w'):∃ cv av pv,w.rowIs B 61 82 (svF cv dn av pv)/\X9 w' G cv C/\(∀ k,k<16->yF w' G (av k) (al k))/\Q4 w' G pv V L R pl:=by
 obtain ⟨cv,av,pv,h1,h2,h3,h4⟩:=h.ex
 exact ⟨cv,av,pv,h1,h2.of hk.size (fun _ h _=>h) (fun b _ _ _ hb=>hk.block b (XG h1 hb (by decide)) (lt_of_block hb)),fun k hk'=>(h3 k hk').of (fun _ h _=>h) (fun b _ _ _ hb=>hk.block b (XG h1 hb (by decide)) (lt_of_block hb)),h4.of hk.size (fun _ h _=>h) (fun b _ _ _ hb=>hk.block b (XG h1 hb (by decide)) (lt_of_block hb))⟩
theorem zaI (w:World) (G:Nat->Prop):SV (w.alloc (Q sv0 61)) G w.heap.size [] (fun _=>false) (fun _=>[]) (fun _=>0) (fun _=>0) (fun _=>0) 0 :=
 ⟨⟨_,_,_,Jy w,⟨none,0,0,0,rfl,⟨fun h=>absurd h (Nat.lt_irrefl _),fun h=>absurd h (Nat.lt_irrefl _),fun i x h=>by simp at h,fun x h=>by cases h⟩,fun h=>absurd h (Nat.lt_irrefl _)⟩,fun _ _=>⟨none,0,rfl,fun h=>absurd h (Nat.lt_irrefl _)⟩,⟨none,0,0,0,rfl,⟨fun h=>absurd h (Nat.lt_irrefl _),fun h=>absurd h (Nat.lt_irrefl _),fun i h=>absurd h (Nat.not_lt_zero _),fun i h=>absurd h (Nat.not_lt_zero _),fun i h=>absurd h (Nat.not_lt_zero _)⟩,fun h=>absurd h (Nat.lt_irrefl _)⟩⟩,by simp,fun _ _=>by simp⟩
theorem SV.mark (h:SV w G B C dn al V L R pl) {n:Nat} (hn:n<64) (x:Bool):SV (w.setCell ⟨B,1+n,none⟩ (.bool x)) G B C (fun i=>if i=n then x else dn i) al V L R pl:=by
 have hk:Kp B w (w.setCell ⟨B,1+n,none⟩ (.bool x)):=Kp.set ⟨Nat.le_refl _,fun _ _ _=>rfl⟩ _ _
 obtain ⟨cv,av,pv,h1,h2,h3,h4⟩:=h.data hk
 refine ⟨⟨cv,av,pv,(h1.set (1+n) (.bool x)).congr (fun i _=>?_),h2,h3,h4⟩,h.cl,h.ll⟩
 unfold svF
 dsimp only
 by_cases e:i=1+n
 ·rw [if_pos e,if_neg (by omega),if_pos (by omega),if_pos (by omega)]
 ·rw [if_neg e]
  by_cases e0:i=0
  ·rw [if_pos e0,if_pos e0]
  ·rw [if_neg e0,if_neg e0]
   by_cases e1:i<65
   ·rw [if_pos e1,if_pos e1,if_neg (by omega)]
   ·rw [if_neg e1,if_neg e1]
theorem SV.alias (h:SV w G B C dn al V L R pl) {k n:Nat} (hk:k<16) {w1:World} {D:Nat->Int} {oo:Option Addr} {cap:Nat} (hn:n<=16) (hb:Below w.heap.size w w1) (ho:w1.ownsRow w.heap.size 3 1 (O oo n cap) n (isC D n)) (hG:∀ b,w.heap.size<=b->G b) :
 SV (w1.setCell ⟨B,65+k,none⟩ (O oo n cap)) G B C dn (fun i=>if i=k then (List.range n).map D else al i) V L R pl:=by
 have hB:=h.lt
 have hp:Kp B w (w1.setCell ⟨B,65+k,none⟩ (O oo n cap)):=(Kp.of_below hb).set _ _
 obtain ⟨cv,av,pv,h1,h2,h3,h4⟩:=h.data hp
 refine ⟨⟨cv,fun i=>if i=k then O oo n cap else av i,pv,((h1.of_block (hb.block B hB)).set (65+k) (O oo n cap)).congr (fun i hi=>?_),h2,fun j hj=>?_,h4⟩,h.cl,fun j hj=>?_⟩
 ·unfold svF
  dsimp only
  by_cases e:i=65+k
  ·rw [if_pos e,if_neg (by omega),if_neg (by omega),if_pos (by omega),if_pos (by omega)]
  ·rw [if_neg e]
   by_cases e0:i=0
   ·rw [if_pos e0,if_pos e0]
   ·rw [if_neg e0,if_neg e0]
    by_cases e1:i<65
    ·rw [if_pos e1,if_pos e1]
    ·rw [if_neg e1,if_neg e1]
     by_cases e2:i<81
     ·rw [if_pos e2,if_pos e2,if_neg (by omega)]
     ·rw [if_neg e2,if_neg e2]
 ·by_cases e:j=k
  ·simp only [if_pos e]
   have hq:isC D n=((List.range n).map D).map (J Z):=by simp [isC,List.map_map,Function.comp_def]
   have hl:((List.range n).map D).length=n:=by simp
   rw [hq] at ho
   have h9:yF w1 (fun b=>G b/\b≠B) (O oo ((List.range n).map D).length cap) ((List.range n).map D):=yF.own (by rw [hl];exact ho) (fun b hb=>⟨hG b hb,by omega⟩)
   rw [hl] at h9
   exact h9.of (fun _ h _=>h.1) fun b _ _ h1 _=>za h1.2
  ·simp only [if_neg e]
   exact h3 j hj
 ·by_cases e:j=k
  ·simp only [if_pos e];simpa using hn
  ·simp only [if_neg e];exact h.ll j hj
theorem SV.locate (h:SV w G B C dn al V L R pl) {w1:World} {n:Nat} {V' L' R':Nat->Int} {oo:Option Addr} {cap:Nat} (hb:Below w.heap.size w w1) (ho:w1.ownsRow w.heap.size 96 3 (O oo n cap) n (plC V' L' R' n)) (hG:∀ b,w.heap.size<=b->G b) :
 SV (w1.setCell ⟨B,81,none⟩ (O oo n cap)) G B C dn al V' L' R' n:=by
 have hB:=h.lt
 have hp:Kp B w (w1.setCell ⟨B,81,none⟩ (O oo n cap)):=(Kp.of_below hb).set _ _
 obtain ⟨cv,av,pv,h1,h2,h3,h4⟩:=h.data hp
 refine ⟨⟨cv,av,O oo n cap,((h1.of_block (hb.block B hB)).set 81 (O oo n cap)).congr (fun i hi=>?_),h2,h3,?_⟩,h.cl,h.ll⟩
 ·unfold svF
  by_cases e:i=81
  ·rw [if_pos e,if_neg (by omega),if_neg (by omega),if_neg (by omega)]
  ·rw [if_neg e]
   by_cases e0:i=0
   ·rw [if_pos e0,if_pos e0]
   ·rw [if_neg e0,if_neg e0]
    by_cases e1:i<65
    ·rw [if_pos e1,if_pos e1]
    ·rw [if_neg e1,if_neg e1,if_pos (by omega),if_pos (by omega)]
 ·obtain ⟨g,ht,hg⟩:=jb ho
  have key:0<n->(w1.setCell ⟨B,81,none⟩ (O oo n cap)).heap[g]?=w1.heap[g]?:=fun h0=>za (by have:=hg h0;omega)
  refine ⟨oo,cap,g,0,rfl,⟨ht.at_,fun h0=>by rw [World.size_setCell];exact ht.lt h0,fun i hi=>?_,fun i hi=>?_,fun i hi=>?_⟩,fun h0=>⟨hG g (hg h0),?_⟩⟩
  ·rw [World.cell?_of_block (key (by omega))];exact ht.val i hi
  ·rw [World.cell?_of_block (key (by omega))];exact ht.len i hi
  ·rw [World.cell?_of_block (key (by omega))];exact ht.reg i hi
  ·rw [key h0]
   have:=ht.at_ h0
   subst this
   exact XM ho
theorem SV.load (h:SV w G B C dn al V L R pl) {w1:World} {X:List Int} {oo:Option Addr} {cap:Nat} (hX:X.length<=7000) (hby:∀ y∈X,0<=y/\y<256) (hb:Below w.heap.size w w1) (ho:w1.ownsRow w.heap.size 5 1 (O oo X.length cap) X.length (X.map (Value.int .u8))) (hG:∀ b,w.heap.size<=b->G b) :
 SV (w1.setCell ⟨B,0,none⟩ (O oo X.length cap)) G B X dn al V L R pl:=by
 have hB:=h.lt
 have hp:Kp B w (w1.setCell ⟨B,0,none⟩ (O oo X.length cap)):=(Kp.of_below hb).set _ _
 obtain ⟨cv,av,pv,h1,h2,h3,h4⟩:=h.data hp
 refine ⟨⟨O oo X.length cap,av,pv,((h1.of_block (hb.block B hB)).set 0 (O oo X.length cap)).congr (fun i hi=>?_),?_,h3,h4⟩,hX,h.ll⟩
 ·unfold svF
  by_cases e:i=0
  ·rw [if_pos e,if_pos e]
  ·rw [if_neg e,if_neg e,if_neg e]
 ·rcases Nat.eq_zero_or_pos X.length with h0 | h0
  ·exact ⟨oo,cap,0,0,rfl,⟨fun h=>by omega,fun h=>by omega,fun i x hx=>by have:=(List.getElem?_eq_some_iff.1 hx).1;omega,hby⟩,fun h=>by omega⟩
  ·obtain ⟨g,c,hv,g1,g2⟩:=ho.form h0
   cases hv
   refine ⟨_,cap,g,0,rfl,⟨fun _=>rfl,fun _=>by rw [World.size_setCell];exact g2,fun i x hx=>?_,hby⟩,fun _=>⟨hG g g1,by rw [za (show g≠B by omega)];exact XM ho⟩⟩
   have hi:=(List.getElem?_eq_some_iff.1 hx).1
   rw [Nat.zero_add,World.cell?_of_block (za (show g≠B by omega)),ho.cellAt i (by omega),List.getElem?_map,hx]
   rfl
end
end
section
section
variable {w:World} {G:Nat->Prop} {B:Nat} {C:List Int} {dn:Nat->Bool} {al:Nat->List Int} {V L R:Nat->Int} {pl:Nat}
theorem SV.markC (h:SV w G B C dn al V L R pl) {n:Nat} (hn:n<64) (up:Bool) :
 Calls Tryz.prog 16 #[.pointer (some ⟨B,0,none⟩),J Z n,.bool up] w fun e w'=>e=.returned (J Z 0)/\Below B w w'/\Kp B w w'/\SV w' G B C (fun i=>if i=n then !up else dn i) al V L R pl:=by
 obtain ⟨cv,av,pv,h1,_⟩:=h.ex
 refine (zcA B n up _ w hn h1).mono ?_
 rintro e w' ⟨rfl,rfl⟩
 exact ⟨rfl,((Below.refl _ _).mono (Nat.le_of_lt h.lt)).setCell (Nat.le_refl _) _,Kp.set ⟨Nat.le_refl _,fun _ _ _=>rfl⟩ _ _,h.mark hn _⟩
theorem SV.aliasC (h:SV w G B C dn al V L R pl) {k:Nat} (hk:k<16) {o:Option Addr} {b off n c:Nat} {D:Nat->Int} (hi:IS w o b off n D) (hn:n<=16) (hD:∀ i,i<n->0<=D i/\D i<64) (hG:∀ b,w.heap.size<=b->G b) :
 Calls Tryz.prog 18 #[.pointer (some ⟨B,0,none⟩),J Z k,O o n c] w fun e w'=>e=.returned (J Z 0)/\Below B w w'/\Kp B w w'/\SV w' G B C dn (fun i=>if i=k then (List.range n).map D else al i) V L R pl:=by
 obtain ⟨cv,av,pv,h1,_⟩:=h.ex
 refine (zbW B k o b off n c D _ w hk h1 hi hn hD).mono ?_
 rintro e w' ⟨rfl,w1,oo,cap,hb,ho,rfl⟩
 exact ⟨rfl,(hb.mono (Nat.le_of_lt h.lt)).setCell (Nat.le_refl _) _,(Kp.of_below hb).set _ _,h.alias hk hn hb ho hG⟩
theorem SV.locateC (h:SV w G B C dn al V L R pl) {o:Option Addr} {b off n c:Nat} {V' L' R':Nat->Int} (hs:TS w o b off n V' L' R') (hp:Zd V' L' R' n=true) (hG:∀ b,w.heap.size<=b->G b) :
 Calls Tryz.prog 20 #[.pointer (some ⟨B,0,none⟩),O o n c] w fun e w'=>e=.returned (J Z 0)/\Below B w w'/\Kp B w w'/\SV w' G B C dn al V' L' R' n:=by
 obtain ⟨cv,av,pv,h1,_⟩:=h.ex
 refine (JS B o b off n c V' L' R' _ w h1 hs hp).mono ?_
 rintro e w' ⟨rfl,w1,oo,cap,hb,ho,rfl⟩
 exact ⟨rfl,(hb.mono (Nat.le_of_lt h.lt)).setCell (Nat.le_refl _) _,(Kp.of_below hb).set _ _,h.locate hb ho hG⟩
theorem SV.loadC (h:SV w G B C dn al V L R pl) (s:ByteArray) (hG:∀ b,w.heap.size<=b->G b) :
 Calls Tryz.prog 10 #[.pointer (some ⟨B,0,none⟩),.string s] w fun e w'=>e=.returned (.tuple #[J Z (cpE s),J Z (ldA s)])/\Below B w w'/\Kp B w w'/\SV w' G B (if cpE s=0 then cpX s else C) dn al V L R pl:=by
 obtain ⟨cv,av,pv,h1,_⟩:=h.ex
 refine (zbf B _ s w h1).mono ?_
 rintro e w' ⟨rfl,hn,hz⟩
 by_cases hE:cpE s=0
 ·obtain ⟨w1,oo,cap,hb,ho,rfl⟩:=hz hE
  rw [if_pos hE]
  exact ⟨rfl,(hb.mono (Nat.le_of_lt h.lt)).setCell (Nat.le_refl _) _,(Kp.of_below hb).set _ _,h.load (XX hE).2.2.2 (Ji _ _) hb ho hG⟩
 ·rw [if_neg hE]
  exact ⟨rfl,(hn hE).mono (Nat.le_of_lt h.lt),Kp.of_below (hn hE),h.below (hn hE)⟩
theorem SV.queryC (h:SV w G B C dn al V L R pl) (a b d:Int) :
 Calls Tryz.prog 12 #[.pointer (some ⟨B,0,none⟩),J Z a,J Z b,J Z d] w (xT w (quF a b d dn ((List.range 16).map al) V L R pl C)):=by
 obtain ⟨cv,av,pv,h1,⟨co,cc,cb,coff,rfl,hcs,_⟩,h3,⟨po,pcp,pb,poff,rfl,hts,_⟩⟩:=h.ex
 have hl:=h.cl
 refine JO B a b d co cb coff cc C dn av _ po pb poff pl pcp V L R w h1 (by omega) (by simp) hts ⟨fun _=>rfl,fun _=>h1.lt,fun k l hkl=>?_,fun l hl'=>?_⟩ hcs
 ·have hk:k<16:=by have:=(List.getElem?_eq_some_iff.1 hkl).1;simpa using this
  have hal:al k=l:=by simpa [hk] using hkl
  subst hal
  obtain ⟨o,c,hv,hs⟩:=h3 k hk
  refine ⟨o,c,?_,fun h0=>?_⟩
  ·rw [h1.cell (i:=65+k) (by omega)]
   unfold svF
   rw [if_neg (by omega),if_neg (by omega),if_pos (by omega),show 65+k-65=k by omega,hv]
  ·obtain ⟨b,off,g1,_,⟨_,_,g2⟩,g4⟩:=hs h0
   exact ⟨b,off,g1,lt_of_block g2,g4⟩
 ·simp only [List.mem_map,List.mem_range] at hl'
  obtain ⟨k,hk,rfl⟩:=hl'
  have:=h.ll k hk
  omega
end
end
def pkF (c n:Int):Int:=if c<0 then (-(c+1))%n else c%n
theorem zdl {c n:Int} (h:0<n):0<=pkF c n/\pkF c n<n:=by
 unfold pkF
 split
 ·exact ⟨Int.emod_nonneg _ (by omega),Int.emod_lt_of_pos _ h⟩
 ·exact ⟨Int.emod_nonneg _ (by omega),Int.emod_lt_of_pos _ h⟩
theorem JP (c n:Int) (w:World) (c0:-9223372036854775808<=c) (c1:c<=9223372036854775807) (n0:0<n) (n1:n<=9223372036854775807) :
 Calls Tryz.prog 17 #[J Z c,J Z n] w fun e w'=>e=.returned (J Z (pkF c n))/\w'=w:=by
 have hn:¬ n=0:=by omega
 by_cases h:c<0
 ·have HP:Hid (pkF c n=(-(c+1))%n):=by show _=_;unfold pkF;rw [if_pos h]
  have hm:0<=(-(c+1))%n/\(-(c+1))%n<n:=⟨Int.emod_nonneg _ (by omega),Int.emod_lt_of_pos _ (by omega)⟩
  have he:-(c+1).tmod n=(-(c+1))%n:=by rw [<- Int.neg_tmod,Int.tmod_eq_emod_of_nonneg (by omega)]
  rw [<- he] at HP hm
  have HE:Hid (0<=-(c+1).tmod n/\-(c+1).tmod n<n):=hm
  clear he hm
  go_enter Tryz.func17,Tryz.ntmps17
  go_wp2
  go_ret
  exact ⟨xt (by rw [HP.out]),rfl⟩
 ·have HP:Hid (pkF c n=c%n):=by show _=_;unfold pkF;rw [if_neg h]
  have hm:0<=c%n/\c%n<n:=⟨Int.emod_nonneg _ (by omega),Int.emod_lt_of_pos _ (by omega)⟩
  have HE:Hid (0<=c%n/\c%n<n):=hm
  clear hm
  go_enter Tryz.func17,Tryz.ntmps17
  go_wp2
  go_ret
  exact ⟨xt (by rw [HP.out]),rfl⟩
structure WD.Av (x:WD) (w:World) (B:Nat):Prop where
 ts:TS w x.po x.pb x.poff x.pl x.V x.L x.R
 tb:0<x.pl->x.pb≠B
 is_:IS w x.do_ x.db x.doff x.dl x.Dn
 ib:0<x.dl->x.db≠B
 at_:0<x.al.length->x.ao=some ⟨x.ab,x.aoff,none⟩
 lt:0<x.al.length->x.ab<w.heap.size
 ab:0<x.al.length->x.ab≠B
 val:∀ (k:Nat) (l:List Int),x.al[k]?=some l->∃ v,w.cell? ⟨x.ab,x.aoff+k,none⟩=some v/\yF w (fun b=>b≠B) v l
 len:∀ l∈x.al,l.length*8<=140737488351232
 ndl:x.dl<=9223372036854775806
 nal:x.al.length<=9223372036854775807
theorem WD.Av.in_ {x:WD} {w:World} {B:Nat} (h:x.Av w B):x.In w :=
 ⟨h.ts,h.is_,⟨h.at_,h.lt,fun k l hl=>by
  obtain ⟨v,hv,o,c,rfl,h2⟩:=h.val k l hl
  refine ⟨o,c,hv,fun h0=>?_⟩
  obtain ⟨b,off,h3,_,⟨_,_,h4⟩,h5⟩:=h2 h0
  exact ⟨b,off,h3,lt_of_block h4,h5⟩,h.len⟩,h.ndl,h.nal⟩
theorem WD.Av.kp {x:WD} {w w':World} {B:Nat} (h:x.Av w B) (hk:Kp B w w'):x.Av w' B:=by
 refine ⟨⟨h.ts.at_,fun h0=>Nat.lt_of_lt_of_le (h.ts.lt h0) hk.size,fun i hi=>?_,fun i hi=>?_,fun i hi=>?_⟩,h.tb,⟨h.is_.at_,fun h0=>Nat.lt_of_lt_of_le (h.is_.lt h0) hk.size,fun i hi=>?_⟩,h.ib,h.at_,fun h0=>Nat.lt_of_lt_of_le (h.lt h0) hk.size,h.ab,fun k l hl=>?_,h.len,h.ndl,h.nal⟩
 ·rw [World.cell?_of_block (hk.block _ (h.tb (by omega)) (h.ts.lt (by omega)))];exact h.ts.val i hi
 ·rw [World.cell?_of_block (hk.block _ (h.tb (by omega)) (h.ts.lt (by omega)))];exact h.ts.len i hi
 ·rw [World.cell?_of_block (hk.block _ (h.tb (by omega)) (h.ts.lt (by omega)))];exact h.ts.reg i hi
 ·rw [World.cell?_of_block (hk.block _ (h.ib (by omega)) (h.is_.lt (by omega)))];exact h.is_.val i hi
 ·obtain ⟨v,hv,hl2⟩:=h.val k l hl
  have h0:0<x.al.length:=by have:=(List.getElem?_eq_some_iff.1 hl).1;omega
  exact ⟨v,by rw [World.cell?_of_block (hk.block _ (h.ab h0) (h.lt h0))];exact hv,hl2.of (fun _ h _=>h) (fun b _ _ h1 h2=>hk.block b h1 (lt_of_block h2))⟩
section
def WD.dnTo (x:WD) (k i:Nat):Bool:=(List.range i).any fun j=>x.Dn j==(k:Int)
def WD.dnB (x:WD) (k:Nat):Bool:=x.dnTo k x.dl
theorem zaf (x:WD) (k i:Nat):x.dnTo k (i+1)=(x.dnTo k i || x.Dn i==(k:Int)):=by simp [WD.dnTo,List.range_succ]
theorem zag {f g:Nat->Bool}:∀ {n:Nat},(∀ i,i<n->f i=g i)->dnL f n=dnL g n:=by
 intro n
 induction n with
 | zero=>intro _;rfl
 | succ n ih=>intro h;simp only [dnL];rw [ih (fun i hi=>h i (by omega)),h n (by omega)]
def WD.AL (x:WD) (k:Nat):List Int:=(((x.al[k]?).getD []).take 16).map (fun c=>pkF c 64)
def WD.cells (x:WD):Array Value:=#[J Z x.a,J Z x.b,J Z x.d,O x.do_ x.dl x.dc,O x.ao x.al.length x.ac,O x.po x.pl x.pcp]
def vC (dv av pv:Value):Array Value:=#[J Z 0,J Z 0,J Z 0,dv,av,pv]
structure TT (w0 w:World) (x:WD) (B:Nat) (V L R:Nat->Int) (dn:Nat->Bool) (al:Nat->List Int) (LL:List Int) (dv av:Value) (avs:List Value) (wr:World):Prop where
 bel:Below w0.heap.size w0 wr
 sv:SV wr (fun _=>True) B [] dn al V L R 0
 bx:wr.heap[w.heap.size]?=some (Q x.cells 31 (0,0))
 rs:wr.heap[w.heap.size+1]?=some (Q (vC (O none 0 0) (O none 0 0) (O none 0 0)) 31 (0,0))
 vv:wr.heap[w.heap.size+1+1]?=some (Q (vC dv av (O none 0 0)) 31 (0,0))
 row:wr.ownsRow (w.heap.size+1+1+1) 3 1 dv LL.length (LL.map (J Z))
 arow:wr.ownsRow (w.heap.size+1+1+1) 25 1 av avs.length avs
 avl:∀ i v,avs[i]?=some v->yF wr (fun b=>b≠B) v (x.AL i)
theorem SV.bareL {w w':World} {G:Nat->Prop} {B:Nat} {dn:Nat->Bool} {al:Nat->List Int} {V L R:Nat->Int} (h:SV w G B [] dn al V L R 0) (hB:w'.heap[B]?=w.heap[B]?) (hk:∀ b cs fr,G b->w.heap[b]?=some (Q cs 3 fr)->w'.heap[b]?=w.heap[b]?):SV w' G B [] dn al V L R 0:=by
 obtain ⟨cv,av,pv,h1,⟨co,cc,_,_,rfl,_,_⟩,h3,⟨po,pcp,_,_,rfl,_,_⟩⟩:=h.ex
 exact ⟨⟨_,av,_,h1.of_block hB,⟨co,cc,0,0,rfl,⟨fun h=>absurd h (Nat.lt_irrefl _),fun h=>absurd h (Nat.lt_irrefl _),fun i x h=>by simp at h,fun x h=>by cases h⟩,fun h=>absurd h (Nat.lt_irrefl _)⟩,fun k hk'=>(h3 k hk').of (fun _ h _=>h) hk,⟨po,pcp,0,0,rfl,⟨fun h=>absurd h (Nat.lt_irrefl _),fun h=>absurd h (Nat.lt_irrefl _),fun i h=>absurd h (Nat.not_lt_zero _),fun i h=>absurd h (Nat.not_lt_zero _),fun i h=>absurd h (Nat.not_lt_zero _)⟩,fun h=>absurd h (Nat.lt_irrefl _)⟩⟩,h.cl,h.ll⟩
theorem SV.bare {w w':World} {G:Nat->Prop} {B:Nat} {dn:Nat->Bool} {V L R:Nat->Int} (h:SV w G B [] dn (fun _=>[]) V L R 0) (hB:w'.heap[B]?=w.heap[B]?):SV w' G B [] dn (fun _=>[]) V L R 0:=by
 obtain ⟨cv,av,pv,h1,h2,h3,h4⟩:=h.ex
 have h5:SV w (fun _=>False) B [] dn (fun _=>[]) V L R 0:=by
  obtain ⟨co,cc,_,_,rfl,_,_⟩:=h2
  obtain ⟨po,pcp,_,_,rfl,_,_⟩:=h4
  exact ⟨⟨_,av,_,h1,⟨co,cc,0,0,rfl,⟨fun h=>absurd h (Nat.lt_irrefl _),fun h=>absurd h (Nat.lt_irrefl _),fun i x h=>by simp at h,fun x h=>by cases h⟩,fun h=>absurd h (Nat.lt_irrefl _)⟩,fun k hk=>by
   obtain ⟨o,c,hv,_⟩:=h3 k hk
   exact ⟨o,c,hv,fun h0=>absurd h0 (Nat.lt_irrefl _)⟩,⟨po,pcp,0,0,rfl,⟨fun h=>absurd h (Nat.lt_irrefl _),fun h=>absurd h (Nat.lt_irrefl _),fun i h=>absurd h (Nat.not_lt_zero _),fun i h=>absurd h (Nat.not_lt_zero _),fun i h=>absurd h (Nat.not_lt_zero _)⟩,fun h=>absurd h (Nat.lt_irrefl _)⟩⟩,h.cl,h.ll⟩
 exact (h5.bareL hB (fun _ _ _ h=>h.elim)).wk (fun _ h=>h.elim)
theorem SV.blk {w:World} {G:Nat->Prop} {B:Nat} {C:List Int} {dn:Nat->Bool} {al:Nat->List Int} {V L R:Nat->Int} {pl:Nat} (h:SV w G B C dn al V L R pl):∃ cs fr,w.heap[B]?=some (Q cs 61 fr):=by
 obtain ⟨_,_,_,⟨c,hc,_⟩,_⟩:=h.ex
 exact ⟨c,_,hc⟩
theorem zbX (x:WD) (k:Nat):(fun i=>if i=k then (List.range (x.AL k).length).map (fun i=>((x.AL k)[i]?).getD 0) else if i<k then x.AL i else [])=(fun i=>if i<k+1 then x.AL i else []):=by
 funext i
 rw [jl]
 by_cases e:i=k
 ·subst e;rw [if_pos rfl,if_pos (by omega)]
 ·rw [if_neg e]
  by_cases e1:i<k
  ·rw [if_pos e1,if_pos (by omega)]
  ·rw [if_neg e1,if_neg (by omega)]
theorem jV (x:WD) (k:Nat):(x.AL k).length<=16:=by unfold WD.AL;simp;omega
theorem zd7 (x:WD) (k:Nat):∀ i,i<(x.AL k).length->0<=((x.AL k)[i]?).getD 0/\((x.AL k)[i]?).getD 0<64:=fun i hi=>by
 rw [List.getElem?_eq_getElem hi,Option.getD_some]
 have hm:(x.AL k)[i]∈x.AL k:=List.getElem_mem hi
 unfold WD.AL at hm ⊢
 obtain ⟨c,_,hc⟩:=List.mem_map.1 hm
 rw [<- hc]
 exact zdl (by decide)
theorem zd8 {x:WD} {j i:Nat} (hi:i<(x.AL j).length):∃ l,x.al[j]?=some l/\i<l.length/\i<16/\∃ z,l[i]?=some z/\(x.AL j)[i]?=some (pkF z 64):=by
 unfold WD.AL at hi ⊢
 cases hl:x.al[j]? with
 | none=>rw [hl] at hi;simp at hi
 | some l =>
  rw [hl] at hi
  simp only [Option.getD_some,List.length_map,List.length_take] at hi
  have h1:i<l.length:=by omega
  refine ⟨l,rfl,h1,by omega,l[i],List.getElem?_eq_getElem h1,?_⟩
  simp only [Option.getD_some]
  rw [List.getElem?_map,List.getElem?_take,if_pos (by omega),List.getElem?_eq_getElem h1]
  rfl
theorem X5 {w:World} {B:Nat} {a b c d e f a' b' c' d' e' f':Value} {t:TypeId} (h:w.heap[B]?=some (Q #[a,b,c,d,e,f] t (0,0))) :
 ((((((w.setCell ⟨B,0,none⟩ a').setCell ⟨B,1,none⟩ b').setCell ⟨B,2,none⟩ c').setCell ⟨B,3,none⟩ d').setCell ⟨B,4,none⟩ e').setCell ⟨B,5,none⟩ f').heap[B]?=some (Q #[a',b',c',d',e',f'] t (0,0)) :=
 by
 rw [zM (zM (zM (zM (zM (zM h)))))];rfl
section
variable {w0 w wr w':World} {x:WD} {B:Nat} {V L R:Nat->Int} {dn dn':Nat->Bool} {al al':Nat->List Int} {LL:List Int} {dv av:Value} {avs:List Value}
theorem TT.kp (h:TT w0 w x B V L R dn al LL dv av avs wr) (hB:B=w0.heap.size) (hBl:B<w.heap.size) (hb:Below B wr w') (hk:Kp B wr w') (hs:SV w' (fun _=>True) B [] dn' al' V L R 0):TT w0 w x B V L R dn' al' LL dv av avs w' :=
 ⟨h.bel.trans (by rw [<- hB];exact hb),hs,(hk.block _ (by omega) (lt_of_block h.bx)).trans h.bx,(hk.block _ (by omega) (lt_of_block h.rs)).trans h.rs,(hk.block _ (by omega) (lt_of_block h.vv)).trans h.vv,
  zh h.row (fun g hg=>hk.block g (by have:=(h.row.lt g hg).1;omega) (h.row.lt g hg).2),zh h.arow (fun g hg=>hk.block g (by have:=(h.arow.lt g hg).1;omega) (h.arow.lt g hg).2),fun i v hv=>(h.avl i v hv).of (fun _ h _=>h) (fun b _ _ h1 h2=>hk.block b h1 (lt_of_block h2))⟩
theorem TT.below (h:TT w0 w x B V L R dn al LL dv av avs wr) (hb:Below wr.heap.size wr w'):TT w0 w x B V L R dn al LL dv av avs w' :=
 ⟨h.bel.trans (hb.mono h.bel.size),h.sv.below hb,(hb.block _ (lt_of_block h.bx)).trans h.bx,(hb.block _ (lt_of_block h.rs)).trans h.rs,(hb.block _ (lt_of_block h.vv)).trans h.vv,
  zh h.row (fun g hg=>hb.block g (h.row.lt g hg).2),zh h.arow (fun g hg=>hb.block g (h.arow.lt g hg).2),fun i v hv=>(h.avl i v hv).of (fun _ h _=>h) (fun b _ _ _ h2=>hb.block b (lt_of_block h2))⟩
theorem TT.appD (h:TT w0 w x B V L R dn (fun _=>[]) LL dv av [] wr) (hB:B=w0.heap.size) (hBl:B<w.heap.size) {ob:Obj} {w4:World} {v':Value} {k:Int} (hg:(wr.alloc ob).grownBy w4 dv.ownBlock) (ho:w4.ownsRow (w.heap.size+1+1+1) 3 1 v' (LL.length+1) (LL.map (J Z)++[J Z k])) (hav:av=O none 0 0) :
 TT w0 w x B V L R dn (fun _=>[]) (LL++[k]) v' av [] (w4.setCell ⟨w.heap.size+1+1,3,none⟩ v'):=by
 have hsz:=h.bel.size
 have key:∀ (b:Nat) (cs:Array Value) (t:TypeId) (fr:Nat×Nat),wr.heap[b]?=some (Q cs t fr)->t≠3->w4.heap[b]?=wr.heap[b]?:=fun b cs t fr hb ht=>by
  have hl:=lt_of_block hb
  rw [hg.block b (by simp;omega) (fun e=>zs h.row hb ht e.symm),Below.heap_alloc _ _ _ hl]
 have hlv:=lt_of_block h.vv
 obtain ⟨cs,fr,hblk⟩:=h.sv.blk
 refine ⟨((h.bel.alloc h.bel.size _).grown hg (by simp;omega) (fun k hk=>?_)).setCell (by simp only;omega) _,h.sv.bare ?_,?_,?_,?_,?_,⟨rfl,.inl ⟨hav,rfl⟩⟩,fun i v hv=>by simp at hv⟩
 ·have:=(h.row.lt k hk).1;omega
 ·rw [za (by omega)];exact key B _ _ _ hblk (by decide)
 ·rw [za (by omega)];exact (key _ _ _ _ h.bx (by decide)).trans h.bx
 ·rw [za (by omega)];exact (key _ _ _ _ h.rs (by decide)).trans h.rs
 ·rw [zM ((key _ _ _ _ h.vv (by decide)).trans h.vv)];rfl
 ·rw [List.length_append,List.map_append]
  exact zh ho (fun g hg'=>za (by have:=(ho.lt g hg').1;omega))
theorem TT.appA (h:TT w0 w x B V L R dn al LL dv av avs wr) (hB:B=w0.heap.size) (hBl:B<w.heap.size) {ob:Obj} {w4:World} {v' lv:Value} (hg:(wr.alloc ob).grownBy w4 av.ownBlock) (ho:w4.ownsRow (w.heap.size+1+1+1) 25 1 v' (avs.length+1) (avs++[lv])) (hl:yF wr (fun b=>b≠B) lv (x.AL avs.length)) :
 TT w0 w x B V L R dn al LL dv v' (avs++[lv]) (w4.setCell ⟨w.heap.size+1+1,4,none⟩ v'):=by
 have hsz:=h.bel.size
 have key:∀ (b:Nat) (cs:Array Value) (t:TypeId) (fr:Nat×Nat),wr.heap[b]?=some (Q cs t fr)->t≠25->w4.heap[b]?=wr.heap[b]?:=fun b cs t fr hb ht=>by
  have hl:=lt_of_block hb
  rw [hg.block b (by simp;omega) (fun e=>zs h.arow hb ht e.symm),Below.heap_alloc _ _ _ hl]
 have hlv:=lt_of_block h.vv
 obtain ⟨cs,fr,hblk⟩:=h.sv.blk
 have keyI:∀ (b:Nat) (cs:Array Value) (fr:Nat×Nat),wr.heap[b]?=some (Q cs 3 fr)->(w4.setCell ⟨w.heap.size+1+1,4,none⟩ v').heap[b]?=wr.heap[b]?:=fun b cs fr hb=>by
  rw [za (fun e=>by rw [e,h.vv] at hb;simp at hb)]
  exact key b _ _ _ hb (by decide)
 refine ⟨((h.bel.alloc h.bel.size _).grown hg (by simp;omega) (fun k hk=>?_)).setCell (by simp only;omega) _,h.sv.bareL ?_ (fun b cs fr _ hb=>keyI b cs fr hb),?_,?_,?_,?_,?_,fun i v hv=>?_⟩
 ·have:=(h.arow.lt k hk).1;omega
 ·rw [za (by omega)];exact key B _ _ _ hblk (by decide)
 ·rw [za (by omega)];exact (key _ _ _ _ h.bx (by decide)).trans h.bx
 ·rw [za (by omega)];exact (key _ _ _ _ h.rs (by decide)).trans h.rs
 ·rw [zM ((key _ _ _ _ h.vv (by decide)).trans h.vv)];rfl
 ·refine zh h.row (fun g hg'=>?_)
  rcases h.row.2 with ⟨hv,_⟩ | ⟨g',_,cur,rfl,_,hb,_⟩
  ·rw [hv] at hg';cases hg'
  ·cases hg'
   exact keyI _ cur _ hb
 ·rw [List.length_append]
  exact zh ho (fun g hg'=>za (by have:=(ho.lt g hg').1;omega))
 ·rcases Nat.lt_or_ge i avs.length with hi | hi
  ·rw [List.getElem?_append_left hi] at hv
   exact (h.avl i v hv).of (fun _ h _=>h) (fun b cs fr _ hb=>keyI b cs fr hb)
  ·rw [List.getElem?_append_right hi] at hv
   have h0:i=avs.length:=by have:=(List.getElem?_eq_some_iff.1 hv).1;simp at this;omega
   subst h0
   simp at hv
   subst hv
   exact hl.of (fun _ h _=>h) (fun b cs fr _ hb=>keyI b cs fr hb)
theorem TT.known (h:TT w0 w x B V L R dn al LL dv av avs wr) (hlen:avs.length=16) (hLL:LL.length<=64) (hB:B=w0.heap.size) (hBl:B<w.heap.size) {w3 wf:World} (hk:Kp B wr w3) (hf:∀ b,b≠w.heap.size+1->b≠w.heap.size+1+1->wf.heap[b]?=w3.heap[b]?) (hs:w3.heap.size<=wf.heap.size) (po:Option Addr) (pb poff pl pcp:Nat) (V' L' R':Nat->Int) (ts:TS w0 po pb poff pl V' L' R') :
 ∃ v:WD,v.val=.agg (vC dv av (O po pl pcp))/\v.Av wf B/\v.dl=LL.length/\(v.Dn=fun i=>(LL[i]?).getD 0)/\v.al=(List.range 16).map x.AL/\v.V=V'/\v.L=L'/\v.R=R'/\v.pl=pl:=by
 have key:∀ b,b≠B->b≠w.heap.size+1->b≠w.heap.size+1+1->b<wr.heap.size->wf.heap[b]?=wr.heap[b]?:=fun b h1 h2 h3 h4=>(hf b h2 h3).trans (hk.block b h1 h4)
 have hsz:=h.bel.size
 have hsz2:=hk.size
 obtain ⟨do_,dc,rfl,hdc⟩:=zY h.row
 obtain ⟨ao,ac,rfl,hac⟩:=zY h.arow
 obtain ⟨dg,hdi⟩:=YM h.row
 have hdg:0<LL.length->w.heap.size+1+1+1<=dg/\dg<wr.heap.size:=fun h0=>h.row.lt dg (by rw [hdi.at_ h0];rfl)
 obtain ⟨ag,ac',hag,hag1,hag2⟩:=h.arow.form (by omega)
 cases hag
 refine ⟨⟨0,0,0,do_,dg,0,LL.length,dc,fun i=>(LL[i]?).getD 0,some ⟨ag,0,none⟩,ag,0,ac,(List.range 16).map x.AL,po,pb,poff,pl,pcp,V',L',R'⟩,?_,?_,rfl,rfl,rfl,rfl,rfl,rfl,rfl⟩
 ·simp only [WD.val,vC,hlen,List.length_map,List.length_range]
 ·have kp:0<pl->wf.heap[pb]?=w0.heap[pb]?:=fun h0=>by
   have:=ts.lt h0
   rw [key pb (by omega) (by omega) (by omega) (by omega)]
   exact h.bel.block pb this
  have kd:0<LL.length->wf.heap[dg]?=wr.heap[dg]?:=fun h0=>by
   have:=hdg h0
   exact key dg (by omega) (by omega) (by omega) this.2
  have ka:wf.heap[ag]?=wr.heap[ag]?:=key ag (by omega) (by omega) (by omega) hag2
  refine ⟨⟨ts.at_,fun h0=>by have:=ts.lt h0;simp only;omega,fun i hi=>?_,fun i hi=>?_,fun i hi=>?_⟩,fun h0=>by have:=ts.lt h0;simp only;omega,⟨hdi.at_,fun h0=>by have:=hdg h0;simp only;omega,fun i hi=>?_⟩,fun h0=>by have:=hdg h0;simp only;omega,fun _=>rfl,fun _=>by simp only;omega,fun _=>by simp only;omega,fun k l hl=>?_,fun l hl=>?_,?_,by simp⟩
  ·simp only at hi ⊢;rw [World.cell?_of_block (kp (by omega))];exact ts.val i hi
  ·simp only at hi ⊢;rw [World.cell?_of_block (kp (by omega))];exact ts.len i hi
  ·simp only at hi ⊢;rw [World.cell?_of_block (kp (by omega))];exact ts.reg i hi
  ·simp only at hi ⊢;rw [World.cell?_of_block (kd (by omega))];exact hdi.val i hi
  ·simp only at hl ⊢
   have hk':k<16:=by have:=(List.getElem?_eq_some_iff.1 hl).1;simpa using this
   have hal:x.AL k=l:=by simpa [hk'] using hl
   subst hal
   obtain ⟨v,hv⟩:∃ v,avs[k]?=some v:=⟨_,List.getElem?_eq_getElem (by omega)⟩
   refine ⟨v,?_,(h.avl k v hv).of (fun _ h _=>h) (fun b cs fr h1 h2=>key b h1 (fun e=>?_) (fun e=>?_) (lt_of_block h2))⟩
   ·rw [Nat.zero_add,World.cell?_of_block ka,h.arow.cellAt k (by omega)];exact hv
   ·rw [e,h.rs] at h2;simp at h2
   ·rw [e,h.vv] at h2;simp at h2
  ·simp only [List.mem_map,List.mem_range] at hl
   obtain ⟨k,_,rfl⟩:=hl
   have:=jV x k
   omega
  ·simp only;omega
end
def Qj (w0:World) (B:Nat) (e:Ending) (w':World):Prop :=
 ∃ (v:WD) (dn:Nat->Bool) (al:Nat->List Int),e=.returned (.tuple #[v.val,.bool true])/\Below w0.heap.size w0 w'/\v.Av w' B/\SV w' (fun _=>True) B [] dn al v.V v.L v.R v.pl/\v.dl=(dnL dn 64).length/\(v.Dn=fun i=>((dnL dn 64)[i]?).getD 0)/\v.al=(List.range 16).map al/\Zd v.V v.L v.R v.pl=true
theorem za1 (V L R:Nat->Int):Zd V L R 0=true:=by simp [Zd,yZ,M.isMap,M.okTo]
theorem Qn {w0 w w3 w4 wf:World} {x:WD} {B:Nat} {V L R:Nat->Int} {dn:Nat->Bool} {al:Nat->List Int} {LL:List Int} {dv av:Value} {avs:List Value} (h:TT w0 w x B V L R dn al LL dv av avs w3) (hlen:avs.length=16) (hLL:LL.length<=64) (hB:B=w0.heap.size) (hBl:B<w.heap.size) (hb4:Below B w3 w4) (hk4:Kp B w3 w4) (hf:∀ b,b≠w.heap.size+1->b≠w.heap.size+1+1->wf.heap[b]?=w4.heap[b]?) (hbf:Below w0.heap.size w4 wf)
 (po:Option Addr) (pb poff pl pcp:Nat) (V' L' R':Nat->Int) (ts:TS w0 po pb poff pl V' L' R') (hsv:SV w4 (fun _=>True) B [] dn al V' L' R' pl) (hp:Zd V' L' R' pl=true) (hdn:dnL dn 64=LL) (hal:∀ i,i<16->al i=x.AL i) :
 Qj w0 B (.returned (.tuple #[.agg (vC dv av (O po pl pcp)),.bool true])) wf:=by
 obtain ⟨v,h1,h2,h3,h4,h5,rfl,rfl,rfl,rfl⟩:=h.known hlen hLL hB hBl hk4 hf hbf.size po pb poff pl pcp V' L' R' ts
 have hr4:=(hk4.block _ (by omega) (lt_of_block h.rs)).trans h.rs
 have hv4:=(hk4.block _ (by omega) (lt_of_block h.vv)).trans h.vv
 refine ⟨v,dn,al,by rw [h1],(h.bel.trans (by rw [<- hB];exact hb4)).trans hbf,h2,hsv.of hbf.size (fun _ h _=>h) (hf B (by omega) (by omega)) (fun b cs t fr _ ht hb=>hf b (fun e=>?_) (fun e=>?_)),by rw [h3,hdn],by rw [h4,hdn],?_,hp⟩
 ·rw [e,hr4] at hb
  simp at hb
  rcases ht with rfl | rfl | rfl<;>exact absurd hb.2.1 (by decide)
 ·rw [e,hv4] at hb
  simp at hb
  rcases ht with rfl | rfl | rfl<;>exact absurd hb.2.1 (by decide)
 ·rw [h5]
  exact List.map_congr_left (fun i hi=>(hal i (List.mem_range.1 hi)).symm)
end
end Go.Proofs.YtaebngpoagjafabGreat
