import Derived.Test.YtaebngpoagjafabGreatV04
import Derived.Laws.NewBlocks
import Derived.RangeFuncBox
import Derived.WalkSmall
set_option maxRecDepth 100000
set_option maxHeartbeats 400000
namespace Go.Proofs.YtaebngpoagjafabGreat
open Value renaming int → J
open IntKind renaming i64 → Z
open Go.RowKit
attribute [local go_sem ↓] Go.wp_at_zero Go.wp_at_succ
structure IM where
 at_:Int
 num:Int
 pv:Int
 pl:Int
 wv:Int
 wa:Int
 arm:Int
structure EX where
 kind:Int
 at_:Int
 depth:Int
 nv:Int
 na:Int
 items:List IM
 inner:Int
structure RL where
 nv:Int
 na:Int
 ex:Int
def imV (x:IM):List Value:=[J Z x.at_,J Z x.num,J Z x.pv,J Z x.pl,J Z x.wv,J Z x.wa,J Z x.arm]
def exV (e:EX×Value):List Value:=[J .u8 e.1.kind,J Z e.1.at_,J Z e.1.depth,J Z e.1.nv,J Z e.1.na,e.2,J Z e.1.inner]
def rlV (r:RL):List Value:=[J Z r.nv,J Z r.na,J Z r.ex]
def imC (l:List IM):List Value:=l.flatMap imV
def exC (l:List (EX×Value)):List Value:=l.flatMap exV
def rlC (l:List RL):List Value:=l.flatMap rlV
structure PM (w:World) (base B:Nat) (s:ByteArray) (k:Nat) (b:Bool) (ev rv:Value) (es:List (EX×Value)) (rs:List RL):Prop where
 blk:w.heap[B]?=some (.cells #[.string s,J Z k,.bool b,ev,rv] 104 (0,0))
 ex:w.ownsRow base 148 7 ev es.length (exC es)
 rl:w.ownsRow base 143 3 rv rs.length (rlC rs)
 it:∀ p∈es,w.ownsRow base 155 7 p.2 p.1.items.length (imC p.1.items)
 hB:base<=B
theorem PM.lt {w:World} {base B s k b ev rv es rs} (h:PM w base B s k b ev rv es rs):B<w.heap.size:=lt_of_block h.blk
theorem PM.bs {w:World} {base B s k b ev rv es rs} (h:PM w base B s k b ev rv es rs):base<=w.heap.size:=Nat.le_trans h.hB (Nat.le_of_lt h.lt)
theorem PM.c0 {w:World} {base B s k b ev rv es rs} (h:PM w base B s k b ev rv es rs):w.cell? ⟨B,0,none⟩=some (.string s):=by simp [World.cell?,h.blk]
theorem PM.c1 {w:World} {base B s k b ev rv es rs} (h:PM w base B s k b ev rv es rs):w.cell? ⟨B,1,none⟩=some (J Z k):=by simp [World.cell?,h.blk]
theorem PM.c2 {w:World} {base B s k b ev rv es rs} (h:PM w base B s k b ev rv es rs):w.cell? ⟨B,2,none⟩=some (.bool b):=by simp [World.cell?,h.blk]
theorem PM.c3 {w:World} {base B s k b ev rv es rs} (h:PM w base B s k b ev rv es rs):w.cell? ⟨B,3,none⟩=some ev:=by simp [World.cell?,h.blk]
theorem PM.c4 {w:World} {base B s k b ev rv es rs} (h:PM w base B s k b ev rv es rs):w.cell? ⟨B,4,none⟩=some rv:=by simp [World.cell?,h.blk]
theorem PM.fz {w:World} {base B s k b ev rv es rs} (h:PM w base B s k b ev rv es rs) (j:Nat):w.frozen? ⟨B,j,none⟩=false:=by simp [World.frozen?,h.blk]
theorem PM.neE {w:World} {base B s k b ev rv es rs} (h:PM w base B s k b ev rv es rs):ev.ownBlock≠some B:=zs h.ex h.blk (by decide)
theorem PM.neR {w:World} {base B s k b ev rv es rs} (h:PM w base B s k b ev rv es rs):rv.ownBlock≠some B:=zs h.rl h.blk (by decide)
theorem PM.neI {w:World} {base B s k b ev rv es rs} (h:PM w base B s k b ev rv es rs) {p:EX×Value} (hp:p∈es):p.2.ownBlock≠some B:=zs (h.it p hp) h.blk (by decide)
theorem xO {w:World} {B j:Nat} {a b c d e u:Value} {t:TypeId} (h:w.heap[B]?=some (.cells #[a,b,c,d,e] t (0,0))):(w.setCell ⟨B,j,none⟩ u).heap[B]?=some (.cells (#[a,b,c,d,e].setIfInBounds j u) t (0,0)):=by
 simp [World.setCell,Array.getElem?_modify,h]
theorem PM.at {w:World} {base B s k b ev rv es rs} (h:PM w base B s k b ev rv es rs) (k':Nat) (x:Int) (hx:x=k'):PM (w.setCell ⟨B,1,none⟩ (J Z x)) base B s k' b ev rv es rs :=
 ⟨by rw [hx];exact xO h.blk,ownsRow_setCell_other h.ex h.neE _,ownsRow_setCell_other h.rl h.neR _,fun p hp=>ownsRow_setCell_other (h.it p hp) (h.neI hp) _,h.hB⟩
theorem PM.bad {w:World} {base B s k b ev rv es rs} (h:PM w base B s k b ev rv es rs) (b':Bool):PM (w.setCell ⟨B,2,none⟩ (.bool b')) base B s k b' ev rv es rs :=
 ⟨xO h.blk,ownsRow_setCell_other h.ex h.neE _,ownsRow_setCell_other h.rl h.neR _,fun p hp=>ownsRow_setCell_other (h.it p hp) (h.neI hp) _,h.hB⟩
theorem PM.setMv {w:World} {base B s k b ev rv es rs} (h:PM w base B s k b ev rv es rs) (j:Nat) (x:Value):Mv base B ev rv ev rv w (w.setCell ⟨B,j,none⟩ x) :=
 ⟨(Below.refl _ _).setCell h.hB _,fun _ _ ho=>⟨za ho.1,ho⟩⟩
theorem PM.alloc {w:World} {base B s k b ev rv es rs} (h:PM w base B s k b ev rv es rs) (o:Obj):PM (w.alloc o) base B s k b ev rv es rs :=
 ⟨by rw [Below.heap_alloc _ _ _ h.lt];exact h.blk,h.ex.alloc o,h.rl.alloc o,fun p hp=>(h.it p hp).alloc o,h.hB⟩
theorem PM.drewN {w:World} {base B s k b ev rv es rs} (h:PM w base B s k b ev rv es rs) (n:Nat):PM (w.drewN n) base B s k b ev rv es rs:=⟨h.blk,h.ex,h.rl,h.it,h.hB⟩
theorem PM.drew {w:World} {base B s k b ev rv es rs} (h:PM w base B s k b ev rv es rs):PM w.drew base B s k b ev rv es rs:=⟨h.blk,h.ex,h.rl,h.it,h.hB⟩
theorem PM.outNew {w:World} {base B s k b ev rv es rs} (h:PM w base B s k b ev rv es rs):Out B ev rv w.heap.size :=
 ⟨fun e=>by have:=h.lt;omega,fun e=>by have:=(h.ex.lt _ e).2;omega,fun e=>by have:=(h.rl.lt _ e).2;omega⟩
def ze (s:ByteArray) (k:Nat) (b:Bool):Int:=if b=true then 0 else if k<s.size then T.ch s k else 0
def zb (s:ByteArray) (k:Nat) (b:Bool):Nat:=if b=true then k else T.sk s k
theorem zK {s:ByteArray} {k:Nat} {b:Bool} (h:k<=s.size):zb s k b<=s.size:=by
 unfold zb;split
 ·exact h
 ·exact T.sk_le h
theorem Z6 (s:ByteArray) (k:Nat) (b:Bool):0<=ze s k b/\ze s k b<256:=by
 unfold ze;split
 ·omega
 ·split
  ·next h=>exact T.ch_bd h
  ·omega
theorem Zi (base B:Nat) (s:ByteArray) (k:Nat) (b:Bool) (ev rv:Value) (es:List (EX×Value)) (rs:List RL) (w:World) (hk:k<=s.size) (h:PM w base B s k b ev rv es rs) :
 Calls Tryz.prog 127 #[.pointer (some ⟨B,0,none⟩)] w fun e w'=>e=.returned (J .u8 (ze s k b))/\PM w' base B s k b ev rv es rs/\Mv base B ev rv ev rv w w':=by
 have H:Hid _:=h
 have c0:=h.c0
 have c1:=h.c1
 have c2:=h.c2
 clear h
 cases b with
 | true =>
  go_enter Tryz.func127,Tryz.ntmps127
  go_wp2_with fail
  go_quiet (fail)
  go_wp2_with fail
  go_ret
  exact ⟨rfl,H.out.drewN _,(Mv.refl _ _ _ _ _).drewN _⟩
 | false =>
  by_cases hlt:k<s.size
  ·have HH:Hid (ze s k false=T.ch s k):=by show _=_;unfold ze;rw [if_neg (by decide),if_pos hlt]
   have hlt':(k:Int)<(s.size:Int):=by omega
   have hge:decide ((s.size:Int)<=(k:Int))=false:=decide_eq_false (by omega)
   have hch:((s[k]).toNat:Int)=T.ch s k:=(T.ch_lt hlt).symm
   go_enter Tryz.func127,Tryz.ntmps127
   go_wp2_with fail
   go_quiet (fail)
   go_wp2_with fail
   go_quiet (fail)
   go_wp2_with fail
   go_ret
   exact ⟨by rw [HH.out];rfl,(H.out.drewN _).drewN _,((Mv.refl _ _ _ _ _).drewN _).drewN _⟩
  ·have HH:Hid (ze s k false=0):=by show _=_;unfold ze;rw [if_neg (by decide),if_neg hlt]
   have hge:decide ((s.size:Int)<=(k:Int))=true:=decide_eq_true (by omega)
   go_enter Tryz.func127,Tryz.ntmps127
   go_wp2_with fail
   go_quiet (fail)
   go_wp2_with fail
   go_ret
   exact ⟨by rw [HH.out];rfl,H.out.drewN _,(Mv.refl _ _ _ _ _).drewN _⟩
theorem ya (base B:Nat) (s:ByteArray) (k:Nat) (b:Bool) (ev rv:Value) (es:List (EX×Value)) (rs:List RL) (w:World) (hs:s.size<=2000) (hk:k<=s.size) (h:PM w base B s k b ev rv es rs) :
 Calls Tryz.prog 126 #[.pointer (some ⟨B,0,none⟩)] w fun e w'=>e=.returned (.tuple #[])/\PM w' base B s (zb s k b) b ev rv es rs/\Mv base B ev rv ev rv w w':=by
 have H:Hid _:=h
 clear h
 go_enter Tryz.func126,Tryz.ntmps126
 go_wp2_with fail
 refine (Zi base B s k b ev rv es rs _ hk H.out).mono ?_
 rintro e w1 ⟨rfl,hp,hm⟩
 have HP:Hid _:=hp
 have HM:Hid _:=hm
 clear hp hm
 go_wp2_with fail
 go_loopg [2] (s.size-k) (fun n x wr=>∃ j:Nat,k<=j/\j<=s.size/\n=s.size-j/\x=J .u8 (ze s j b)/\Hid (zb s j b=zb s k b)/\PM wr base B s j b ev rv es rs/\Mv base B ev rv ev rv w wr)
 case atStart=>exact ⟨k,Nat.le_refl _,hk,rfl,rfl,rfl,HP.out,HM.out⟩
 case round =>
  obtain ⟨j,hkj,hjs,hn,rfl,HS,hp,hm⟩:=hrel
  have HP2:Hid _:=hp
  have HM2:Hid _:=hm
  have c1:=hp.c1
  have z1:=hp.fz 1
  have HN:Hid _:=hn
  clear hp hm hn
  by_cases hb:T.bl (ze s j b)=true
  ·have hbl:b=false/\j<s.size/\ze s j b=T.ch s j:=by
    cases b with
    | true=>simp [ze,T.bl] at hb
    | false =>
     by_cases hlt:j<s.size
     ·exact ⟨rfl,hlt,by simp [ze,hlt]⟩
     ·simp [ze,hlt,T.bl] at hb
   obtain ⟨rfl,hlt,he⟩:=hbl
   have HS2:Hid (zb s (j+1) false=zb s k false):=by
    show _=_
    rw [<- HS.out]
    unfold zb
    rw [if_neg (by decide),if_neg (by decide)]
    exact T.sk_next (by rw [<- he];exact hb)
   clear he
   have HBD:=Z6 s j false
   generalize ze s j false=c at *
   have hjl:(j:Int)<2000:=by omega
   cases h32:(c==32) with
   | true =>
    go_wp2_with fail
    refine (Zi base B s (j+1) false ev rv es rs _ (by omega) (HP2.out.at (j+1) _ (by omega))).mono ?_
    rintro e w3 ⟨rfl,hp3,hm3⟩
    have HP3:Hid _:=hp3
    have HM3:Hid (Mv base B ev rv ev rv w w3):=(HM2.out.trans (HP2.out.setMv 1 _)).trans hm3
    clear hp3 hm3
    go_wp2_with fail
    go_roundg (s.size-(j+1))
    case measure=>rw [HN.out];omega
    case rel=>exact ⟨j+1,by omega,by omega,rfl,rfl,HS2,HP3.out,HM3.out⟩
   | false =>
    have h10:(c==10)=true:=by simpa [T.bl,h32] using hb
    go_wp2_with fail
    refine (Zi base B s (j+1) false ev rv es rs _ (by omega) (HP2.out.at (j+1) _ (by omega))).mono ?_
    rintro e w3 ⟨rfl,hp3,hm3⟩
    have HP3:Hid _:=hp3
    have HM3:Hid (Mv base B ev rv ev rv w w3):=(HM2.out.trans (HP2.out.setMv 1 _)).trans hm3
    clear hp3 hm3
    go_wp2_with fail
    go_roundg (s.size-(j+1))
    case measure=>rw [HN.out];omega
    case rel=>exact ⟨j+1,by omega,by omega,rfl,rfl,HS2,HP3.out,HM3.out⟩
  ·have HE:Hid (zb s k b=j):=by
    show _=_
    rw [<- HS.out]
    cases b with
    | true=>rfl
    | false =>
     unfold zb
     rw [if_neg (by decide)]
     by_cases hlt:j<s.size
     ·have e:ze s j false=T.ch s j:=by simp [ze,hlt]
      exact T.sk_here (by rw [e] at hb;simpa using hb)
     ·exact T.sk_here (by rw [T.ch_ge hlt];rfl)
   have hno:(ze s j b==32)=false/\(ze s j b==10)=false:=by
    have:T.bl (ze s j b)=false:=by simpa using hb
    simpa [T.bl] using this
   obtain ⟨h32,h10⟩:=hno
   clear hb
   generalize ze s j b=c at *
   go_wp2_with fail
   go_end0
   exact ⟨rfl,by rw [HE.out];exact HP2.out,HM2.out⟩
def zU (s:ByteArray) (c:Int) (k:Nat) (b:Bool):Bool:=ze s (zb s k b) b==c
def zc (s:ByteArray) (c:Int) (k:Nat) (b:Bool):Nat:=if zU s c k b=true then zb s k b+1 else zb s k b
def zj (s:ByteArray) (c:Int) (k:Nat) (b:Bool):Bool:=if zU s c k b=true then b else true
theorem Yt {s:ByteArray} {c:Int} {k:Nat} {b:Bool} (hc:c≠0) (h:zU s c k b=true):b=false/\zb s k b<s.size/\T.ch s (T.sk s k)=c:=by
 unfold zU ze at h
 cases b with
 | true=>simp at h;exact absurd h.symm hc
 | false =>
  by_cases hlt:zb s k false<s.size
  ·simp [hlt] at h
   exact ⟨rfl,hlt,by simpa [zb] using h⟩
  ·simp [hlt] at h;exact absurd h.symm hc
theorem zq {s:ByteArray} {c:Int} {k:Nat} {b:Bool} (hc:c≠0) (hk:k<=s.size):zc s c k b<=s.size:=by
 unfold zc
 split
 ·next h=>have:=(Yt hc h).2.1;omega
 ·exact zK hk
theorem Xz (base B:Nat) (s:ByteArray) (c:Int) (k:Nat) (b:Bool) (ev rv:Value) (es:List (EX×Value)) (rs:List RL) (w:World) (hs:s.size<=2000) (hk:k<=s.size) (hc:c≠0) (h:PM w base B s k b ev rv es rs) :
 Calls Tryz.prog 87 #[.pointer (some ⟨B,0,none⟩),J .u8 c] w fun e w'=>e=.returned (.bool (zU s c k b))/\PM w' base B s (zc s c k b) b ev rv es rs/\Mv base B ev rv ev rv w w':=by
 have H:Hid _:=h
 clear h
 go_enter Tryz.func87,Tryz.ntmps87
 go_wp2_with fail
 refine (ya base B s k b ev rv es rs _ hs hk H.out).mono ?_
 rintro e w1 ⟨rfl,hp,hm⟩
 have HP:Hid _:=hp
 have HM:Hid _:=hm
 clear hp hm
 go_wp2_with fail
 refine (Zi base B s (zb s k b) b ev rv es rs _ (zK hk) HP.out).mono ?_
 rintro e w2 ⟨rfl,hp,hm⟩
 have HP2:Hid _:=hp
 have HM2:Hid _:=HM.out.trans hm
 have c1:=hp.c1
 have z1:=hp.fz 1
 clear hp hm
 cases ht:zU s c k b with
 | true =>
  have hlt:=(Yt hc ht).2.1
  have HK:Hid (zc s c k b=zb s k b+1):=by show _=_;unfold zc;rw [if_pos ht]
  have he:(ze s (zb s k b) b==c)=true:=ht
  have HT:Hid _:=ht
  have he2:(ze s (zb s k b) b != c)=false:=by simp [bne,he]
  generalize ze s (zb s k b) b=x at *
  clear ht
  generalize zb s k b=p at *
  have hpl:(p:Int)<2000:=by omega
  go_wp2_with fail
  go_ret
  exact ⟨by rw [HT.out];rfl,by rw [HK.out];exact HP2.out.at (p+1) _ (by omega),HM2.out.trans (HP2.out.setMv 1 _)⟩
 | false =>
  have HK:Hid (zc s c k b=zb s k b):=by show _=_;unfold zc;rw [if_neg (by rw [ht];decide)]
  have he:(ze s (zb s k b) b==c)=false:=ht
  have HT:Hid _:=ht
  have he2:(ze s (zb s k b) b != c)=true:=by simp [bne,he]
  generalize ze s (zb s k b) b=x at *
  clear ht
  go_wp2_with fail
  go_ret
  exact ⟨by rw [HT.out];rfl,by rw [HK.out];exact HP2.out,HM2.out⟩
theorem yD (base B:Nat) (s:ByteArray) (c:Int) (k:Nat) (b:Bool) (ev rv:Value) (es:List (EX×Value)) (rs:List RL) (w:World) (hs:s.size<=2000) (hk:k<=s.size) (hc:c≠0) (h:PM w base B s k b ev rv es rs) :
 Calls Tryz.prog 124 #[.pointer (some ⟨B,0,none⟩),J .u8 c] w fun e w'=>e=.returned (.tuple #[])/\PM w' base B s (zc s c k b) (zj s c k b) ev rv es rs/\Mv base B ev rv ev rv w w':=by
 have H:Hid _:=h
 clear h
 go_enter Tryz.func124,Tryz.ntmps124
 go_wp2_with fail
 refine (Xz base B s c k b ev rv es rs _ hs hk hc H.out).mono ?_
 rintro e w1 ⟨rfl,hp,hm⟩
 have HP:Hid _:=hp
 have HM:Hid _:=hm
 have c2:=hp.c2
 have z2:=hp.fz 2
 clear hp hm
 cases ht:zU s c k b with
 | true =>
  have HB:Hid (zj s c k b=b):=by show _=_;unfold zj;rw [if_pos ht]
  clear ht
  go_wp2_with fail
  go_end0
  exact ⟨rfl,by rw [HB.out];exact HP.out,HM.out⟩
 | false =>
  have HB:Hid (zj s c k b=true):=by show _=_;unfold zj;rw [if_neg (by rw [ht];decide)]
  clear ht
  go_wp2_with fail
  go_end0
  exact ⟨rfl,by rw [HB.out];exact HP.out.bad true,HM.out.trans (HP.out.setMv 2 _)⟩
def zH (w:World) (c:Nat) (t:TypeId):Prop:=∃ cs fr,w.heap[c]?=some (.cells cs t fr)
theorem zH.set {w:World} {c:Nat} {t:TypeId} (h:zH w c t) (d j:Nat) (u:Value):zH (w.setCell ⟨d,j,none⟩ u) c t:=by
 obtain ⟨cs,fr,h⟩:=h
 by_cases e:c=d
 ·subst e
  exact ⟨cs.setIfInBounds j u,fr,by simp [World.setCell,Array.getElem?_modify,h]⟩
 ·exact ⟨cs,fr,by rw [za e];exact h⟩
theorem zH.alloc {w:World} {c:Nat} {t:TypeId} (h:zH w c t) (o:Obj):zH (w.alloc o) c t:=by
 obtain ⟨cs,fr,h⟩:=h
 exact ⟨cs,fr,by rw [Below.heap_alloc _ _ _ (lt_of_block h)];exact h⟩
theorem zH.new (w:World) (cs:Array Value) (t:TypeId):zH (w.alloc (.cells cs t)) w.heap.size t:=⟨cs,(0,0),heap_alloc_new w _⟩
theorem zH.of_block {w w':World} {c:Nat} {t:TypeId} (h:zH w c t) (e:w'.heap[c]?=w.heap[c]?):zH w' c t:=by
 obtain ⟨cs,fr,h⟩:=h
 exact ⟨cs,fr,e.trans h⟩
theorem PM.setT {w:World} {base B s k b ev rv es rs} (h:PM w base B s k b ev rv es rs) {c j:Nat} {u:Value} {t:TypeId} (hT:zH w c t)
 (h1:t≠104) (h2:t≠148) (h3:t≠143) (h4:t≠155):PM (w.setCell ⟨c,j,none⟩ u) base B s k b ev rv es rs:=by
 obtain ⟨cs,fr,hc⟩:=hT
 refine ⟨?_,ownsRow_setCell_other h.ex (zs h.ex hc h2) _,ownsRow_setCell_other h.rl (zs h.rl hc h3) _,fun p hp=>ownsRow_setCell_other (h.it p hp) (zs (h.it p hp) hc h4) _,h.hB⟩
 rw [za (fun e=>by subst e;have:=h.blk;rw [hc] at this;simp at this;exact h1 this.2.1)]
 exact h.blk
theorem PM.setN {w:World} {base B s k b ev rv es rs} (h:PM w base B s k b ev rv es rs) {c j:Nat} {u:Value} (hT:zH w c 141):PM (w.setCell ⟨c,j,none⟩ u) base B s k b ev rv es rs:=h.setT hT (by decide) (by decide) (by decide) (by decide)
theorem Mv.setNew {base B:Nat} {a b c d:Value} {w w1:World} (h:Mv base B a b c d w w1) {k j:Nat} (hk:w.heap.size<=k) (hb:base<=k) (u:Value):Mv base B a b c d w (w1.setCell ⟨k,j,none⟩ u) :=
 ⟨h.bel.setCell hb _,fun x hx ho=>⟨(za (by omega)).trans (h.kept x hx ho).1,(h.kept x hx ho).2⟩⟩
def Yg (s:ByteArray) (k:Nat) (b:Bool):Bool:=decide (97<=ze s (zb s k b) b) && decide (ze s (zb s k b) b<=122)
def zO (s:ByteArray) (k:Nat) (b:Bool):Nat:=if Yg s k b=true then zb s k b+1 else zb s k b
def zT (s:ByteArray) (k:Nat) (b:Bool):Bool:=if Yg s k b=true then b else true
theorem Xo {s:ByteArray} {k:Nat} {b:Bool} (h:Yg s k b=true):b=false/\zb s k b<s.size:=by
 unfold Yg ze at h
 cases b with
 | true=>simp at h
 | false =>
  by_cases hlt:zb s k false<s.size
  ·exact ⟨rfl,hlt⟩
  ·simp [hlt] at h
theorem YJ {s:ByteArray} {k:Nat} {b:Bool} (hk:k<=s.size):zO s k b<=s.size:=by
 unfold zO
 split
 ·next h=>have:=(Xo h).2;omega
 ·exact zK hk
theorem qB (a b:Int) (w:World):(Instr.build 141 #[(0,J Z a),(1,J Z b)]).run Tryz.prog w=.ok (.agg #[J Z a,J Z b]) w:=run_build w 141 _ _ (by kernel_rfl)
theorem zap (b:Int) (w:World):(Instr.build 141 #[(1,J Z b)]).run Tryz.prog w=.ok (.agg #[J Z 0,J Z b]) w:=run_build w 141 _ _ (by kernel_rfl)
theorem XT (base B:Nat) (s:ByteArray) (k:Nat) (b:Bool) (ev rv:Value) (es:List (EX×Value)) (rs:List RL) (w:World) (hs:s.size<=2000) (hk:k<=s.size) (h:PM w base B s k b ev rv es rs) :
 Calls Tryz.prog 123 #[.pointer (some ⟨B,0,none⟩)] w fun e w'=>e=.returned (.agg #[J Z (ze s (zb s k b) b),J Z (zb s k b)])/\PM w' base B s (zO s k b) (zT s k b) ev rv es rs/\Mv base B ev rv ev rv w w':=by
 have H:Hid (PM (w.alloc (.cells #[J Z 0,J Z 0] 141)) base B s k b ev rv es rs):=h.alloc _
 have HM0:Hid (Mv base B ev rv ev rv w (w.alloc (.cells #[J Z 0,J Z 0] 141))):=Mv.alloc h.bs _
 have hou:=h.outNew
 have hbs:=h.bs
 clear h
 go_enter Tryz.func123,Tryz.ntmps123
 go_wp2_with fail
 refine (ya base B s k b ev rv es rs _ hs hk H.out).mono ?_
 rintro e w1 ⟨rfl,hp,hm⟩
 have HP:Hid _:=hp
 have HM:Hid _:=hm
 clear hp hm
 go_wp2_with fail
 refine (Zi base B s (zb s k b) b ev rv es rs _ (zK hk) HP.out).mono ?_
 rintro e w2 ⟨rfl,hp,hm⟩
 have HP2:Hid _:=hp
 have HM2:Hid (Mv base B ev rv ev rv w w2):=HM0.out.trans (HM.out.trans hm)
 have hr:w2.heap[w.heap.size]?=some (.cells #[J Z 0,J Z 0] 141 (0,0)):=((HM.out.trans hm).kept _ (by simp) hou).1.trans (heap_alloc_new w _)
 have c1:=hp.c1
 have c2:=hp.c2
 have z1:=hp.fz 1
 have z2:=hp.fz 2
 have r0:w2.cell? ⟨w.heap.size,0,none⟩=some (J Z 0):=by simp [World.cell?,hr]
 have r1:w2.cell? ⟨w.heap.size,1,none⟩=some (J Z 0):=by simp [World.cell?,hr]
 have rz:∀ j,w2.frozen? ⟨w.heap.size,j,none⟩=false:=fun j=>by simp [World.frozen?,hr]
 have HR:Hid _:=hr
 have hlt2:=hp.lt
 have hne:w.heap.size≠B:=hou.1
 have hne':B≠w.heap.size:=fun e=>hou.1 e.symm
 have hn3:w2.heap.size≠B:=by omega
 have hn4:B≠w2.heap.size:=by omega
 have hwl:w.heap.size<w2.heap.size:=lt_of_block hr
 have hn5:w.heap.size≠w2.heap.size:=by omega
 clear hp hm hr
 have hb:=Z6 s (zb s k b) b
 have HK:Hid (zO s k b=if Yg s k b=true then zb s k b+1 else zb s k b):=rfl
 have HX:Hid (zT s k b=if Yg s k b=true then b else true):=rfl
 have hLB:Yg s k b=(decide (97<=ze s (zb s k b) b) && decide (ze s (zb s k b) b<=122)):=rfl
 have hLT:Yg s k b=true->zb s k b<s.size:=fun h=>(Xo h).2
 generalize hxe:ze s (zb s k b) b=x at *
 generalize hpe:zb s k b=p at *
 have HXE:Hid _:=hxe
 have HPE:Hid _:=hpe
 clear hxe hpe
 have hbn:=fun w=>qB x p w
 by_cases h1:x<97
 ·have e1:Yg s k b=false:=by rw [hLB];simp;omega
  rw [e1] at HK HX
  have HK2:Hid _:=HK.out
  have HX2:Hid _:=HX.out
  clear hLB hLT e1 HK HX
  go_wp2_with fail
  exact bodyPost_ret (v:=.agg #[J Z x,J Z p]) (by simp [results,Tryz.results123,go_sem,r0,r1,hwl]) rfl ⟨by rw [HPE.out,HXE.out],by rw [HK2.out,HX2.out];exact ((((HP2.out.bad true).setN (zH.set ⟨_,_,HR.out⟩ _ _ _)).setN (zH.set (zH.set ⟨_,_,HR.out⟩ _ _ _) _ _ _)).alloc _),(((HM2.out.trans (HP2.out.setMv 2 _)).setNew (Nat.le_refl _) hbs _).setNew (Nat.le_refl _) hbs _).trans (Mv.alloc (((HP2.out.bad true).setN (zH.set ⟨_,_,HR.out⟩ _ _ _)).setN (zH.set (zH.set ⟨_,_,HR.out⟩ _ _ _) _ _ _)).bs _)⟩
 ·by_cases h2:122<x
  ·have e1:Yg s k b=false:=by rw [hLB];simp;omega
   rw [e1] at HK HX
   have HK2:Hid _:=HK.out
   have HX2:Hid _:=HX.out
   clear hLB hLT e1 HK HX
   go_wp2_with fail
   exact bodyPost_ret (v:=.agg #[J Z x,J Z p]) (by simp [results,Tryz.results123,go_sem,r0,r1,hwl]) rfl ⟨by rw [HPE.out,HXE.out],by rw [HK2.out,HX2.out];exact ((((HP2.out.bad true).setN (zH.set ⟨_,_,HR.out⟩ _ _ _)).setN (zH.set (zH.set ⟨_,_,HR.out⟩ _ _ _) _ _ _)).alloc _),(((HM2.out.trans (HP2.out.setMv 2 _)).setNew (Nat.le_refl _) hbs _).setNew (Nat.le_refl _) hbs _).trans (Mv.alloc (((HP2.out.bad true).setN (zH.set ⟨_,_,HR.out⟩ _ _ _)).setN (zH.set (zH.set ⟨_,_,HR.out⟩ _ _ _) _ _ _)).bs _)⟩
  ·have e1:Yg s k b=true:=by rw [hLB];simp;omega
   have hpl:p<s.size:=hLT e1
   rw [e1] at HK HX
   have HK2:Hid _:=HK.out
   have HX2:Hid _:=HX.out
   clear hLB hLT e1 HK HX
   have hpi:(p:Int)<2000:=by omega
   go_wp2_with fail
   exact bodyPost_ret (v:=.agg #[J Z x,J Z p]) (by simp [results,Tryz.results123,go_sem,r0,r1,hwl]) rfl ⟨by rw [HPE.out,HXE.out],by rw [HK2.out,HX2.out];exact ((((HP2.out.at (p+1) _ (by omega)).setN (zH.set ⟨_,_,HR.out⟩ _ _ _)).setN (zH.set (zH.set ⟨_,_,HR.out⟩ _ _ _) _ _ _)).alloc _),(((HM2.out.trans (HP2.out.setMv 1 _)).setNew (Nat.le_refl _) hbs _).setNew (Nat.le_refl _) hbs _).trans (Mv.alloc (((HP2.out.at (p+1) _ (by omega)).setN (zH.set ⟨_,_,HR.out⟩ _ _ _)).setN (zH.set (zH.set ⟨_,_,HR.out⟩ _ _ _) _ _ _)).bs _)⟩
end Go.Proofs.YtaebngpoagjafabGreat
