import Derived.Test.YtaebngpoagjafaaJ02
import Derived.Laws.NewBlocks
set_option maxRecDepth 100000
set_option maxHeartbeats 400000
namespace Go.Proofs.Ytaebngpoagjafaa
open Value renaming int → J
open IntKind renaming i64 → Z
open Go.RowKit
attribute [local go_sem ↓] Go.wp_at_zero Go.wp_at_succ
structure IM where
 at_:Int
 num:Int
 pv:Int
 pl:Int
 wv:Int
 wa:Int
 arm:Int
structure EX where
 kind:Int
 at_:Int
 depth:Int
 nv:Int
 na:Int
 items:List IM
 inner:Int
structure RL where
 nv:Int
 na:Int
 ex:Int
def imV (x:IM):List Value:=[J Z x.at_,J Z x.num,J Z x.pv,J Z x.pl,J Z x.wv,J Z x.wa,J Z x.arm]
def exV (e:EX×Value):List Value:=[J .u8 e.1.kind,J Z e.1.at_,J Z e.1.depth,J Z e.1.nv,J Z e.1.na,e.2,J Z e.1.inner]
def rlV (r:RL):List Value:=[J Z r.nv,J Z r.na,J Z r.ex]
def imC (l:List IM):List Value:=l.flatMap imV
def exC (l:List (EX×Value)):List Value:=l.flatMap exV
def rlC (l:List RL):List Value:=l.flatMap rlV
structure PM (w:World) (base B:Nat) (s:ByteArray) (k:Nat) (b:Bool) (ev rv:Value) (es:List (EX×Value)) (rs:List RL):Prop where
 blk:w.heap[B]?=some (.cells #[.string s,J Z k,.bool b,ev,rv] 73 (0,0))
 ex:w.ownsRow base 97 7 ev es.length (exC es)
 rl:w.ownsRow base 92 3 rv rs.length (rlC rs)
 it:∀ p∈es,w.ownsRow base 104 7 p.2 p.1.items.length (imC p.1.items)
 hB:base<=B
theorem PM.lt {w:World} {base B s k b ev rv es rs} (h:PM w base B s k b ev rv es rs):B<w.heap.size:=lt_of_block h.blk
theorem PM.bs {w:World} {base B s k b ev rv es rs} (h:PM w base B s k b ev rv es rs):base<=w.heap.size:=Nat.le_trans h.hB (Nat.le_of_lt h.lt)
theorem PM.c0 {w:World} {base B s k b ev rv es rs} (h:PM w base B s k b ev rv es rs):w.cell? ⟨B,0,none⟩=some (.string s):=by simp [World.cell?,h.blk]
theorem PM.c1 {w:World} {base B s k b ev rv es rs} (h:PM w base B s k b ev rv es rs):w.cell? ⟨B,1,none⟩=some (J Z k):=by simp [World.cell?,h.blk]
theorem PM.c2 {w:World} {base B s k b ev rv es rs} (h:PM w base B s k b ev rv es rs):w.cell? ⟨B,2,none⟩=some (.bool b):=by simp [World.cell?,h.blk]
theorem PM.c3 {w:World} {base B s k b ev rv es rs} (h:PM w base B s k b ev rv es rs):w.cell? ⟨B,3,none⟩=some ev:=by simp [World.cell?,h.blk]
theorem PM.c4 {w:World} {base B s k b ev rv es rs} (h:PM w base B s k b ev rv es rs):w.cell? ⟨B,4,none⟩=some rv:=by simp [World.cell?,h.blk]
theorem PM.fz {w:World} {base B s k b ev rv es rs} (h:PM w base B s k b ev rv es rs) (j:Nat):w.frozen? ⟨B,j,none⟩=false:=by simp [World.frozen?,h.blk]
theorem PM.neE {w:World} {base B s k b ev rv es rs} (h:PM w base B s k b ev rv es rs):ev.ownBlock≠some B:=zs h.ex h.blk (by decide)
theorem PM.neR {w:World} {base B s k b ev rv es rs} (h:PM w base B s k b ev rv es rs):rv.ownBlock≠some B:=zs h.rl h.blk (by decide)
theorem PM.neI {w:World} {base B s k b ev rv es rs} (h:PM w base B s k b ev rv es rs) {p:EX×Value} (hp:p∈es):p.2.ownBlock≠some B:=zs (h.it p hp) h.blk (by decide)
theorem Yi {w:World} {B j:Nat} {a b c d e u:Value} {t:TypeId} (h:w.heap[B]?=some (.cells #[a,b,c,d,e] t (0,0))):(w.setCell ⟨B,j,none⟩ u).heap[B]?=some (.cells (#[a,b,c,d,e].setIfInBounds j u) t (0,0)):=by
 simp [World.setCell,Array.getElem?_modify,h]
theorem PM.at {w:World} {base B s k b ev rv es rs} (h:PM w base B s k b ev rv es rs) (k':Nat) (x:Int) (hx:x=k'):PM (w.setCell ⟨B,1,none⟩ (J Z x)) base B s k' b ev rv es rs :=
 ⟨by rw [hx];exact Yi h.blk,ownsRow_setCell_other h.ex h.neE _,ownsRow_setCell_other h.rl h.neR _,fun p hp=>ownsRow_setCell_other (h.it p hp) (h.neI hp) _,h.hB⟩
theorem PM.bad {w:World} {base B s k b ev rv es rs} (h:PM w base B s k b ev rv es rs) (b':Bool):PM (w.setCell ⟨B,2,none⟩ (.bool b')) base B s k b' ev rv es rs :=
 ⟨Yi h.blk,ownsRow_setCell_other h.ex h.neE _,ownsRow_setCell_other h.rl h.neR _,fun p hp=>ownsRow_setCell_other (h.it p hp) (h.neI hp) _,h.hB⟩
theorem PM.setMv {w:World} {base B s k b ev rv es rs} (h:PM w base B s k b ev rv es rs) (j:Nat) (x:Value):Mv base B ev rv ev rv w (w.setCell ⟨B,j,none⟩ x) :=
 ⟨(Below.refl _ _).setCell h.hB _,fun _ _ ho=>⟨zc ho.1,ho⟩⟩
theorem PM.alloc {w:World} {base B s k b ev rv es rs} (h:PM w base B s k b ev rv es rs) (o:Obj):PM (w.alloc o) base B s k b ev rv es rs :=
 ⟨by rw [Below.heap_alloc _ _ _ h.lt];exact h.blk,h.ex.alloc o,h.rl.alloc o,fun p hp=>(h.it p hp).alloc o,h.hB⟩
theorem PM.drewN {w:World} {base B s k b ev rv es rs} (h:PM w base B s k b ev rv es rs) (n:Nat):PM (w.drewN n) base B s k b ev rv es rs:=⟨h.blk,h.ex,h.rl,h.it,h.hB⟩
theorem PM.drew {w:World} {base B s k b ev rv es rs} (h:PM w base B s k b ev rv es rs):PM w.drew base B s k b ev rv es rs:=⟨h.blk,h.ex,h.rl,h.it,h.hB⟩
theorem PM.outNew {w:World} {base B s k b ev rv es rs} (h:PM w base B s k b ev rv es rs):Out B ev rv w.heap.size :=
 ⟨fun e=>by have:=h.lt;omega,fun e=>by have:=(h.ex.lt _ e).2;omega,fun e=>by have:=(h.rl.lt _ e).2;omega⟩
def zd (s:ByteArray) (k:Nat) (b:Bool):Int:=if b=true then 0 else if k<s.size then T.ch s k else 0
def za (s:ByteArray) (k:Nat) (b:Bool):Nat:=if b=true then k else T.sk s k
theorem zB {s:ByteArray} {k:Nat} {b:Bool} (h:k<=s.size):za s k b<=s.size:=by
 unfold za;split
 ·exact h
 ·exact T.sk_le h
theorem ZB (s:ByteArray) (k:Nat) (b:Bool):0<=zd s k b/\zd s k b<256:=by
 unfold zd;split
 ·omega
 ·split
  ·next h=>exact T.ch_bd h
  ·omega
theorem yE (base B:Nat) (s:ByteArray) (k:Nat) (b:Bool) (ev rv:Value) (es:List (EX×Value)) (rs:List RL) (w:World) (hk:k<=s.size) (h:PM w base B s k b ev rv es rs) :
 Calls Try.prog 67 #[.pointer (some ⟨B,0,none⟩)] w fun e w'=>e=.returned (J .u8 (zd s k b))/\PM w' base B s k b ev rv es rs/\Mv base B ev rv ev rv w w':=by
 have H:Hid _:=h
 have c0:=h.c0
 have c1:=h.c1
 have c2:=h.c2
 clear h
 cases b with
 | true =>
  go_enter Try.func67,Try.ntmps67
  go_wp2_with fail
  go_quiet (fail)
  go_wp2_with fail
  go_ret
  exact ⟨rfl,H.out.drewN _,(Mv.refl _ _ _ _ _).drewN _⟩
 | false =>
  by_cases hlt:k<s.size
  ·have HH:Hid (zd s k false=T.ch s k):=by show _=_;unfold zd;rw [if_neg (by decide),if_pos hlt]
   have hlt':(k:Int)<(s.size:Int):=by omega
   have hge:decide ((s.size:Int)<=(k:Int))=false:=decide_eq_false (by omega)
   have hch:((s[k]).toNat:Int)=T.ch s k:=(T.ch_lt hlt).symm
   go_enter Try.func67,Try.ntmps67
   go_wp2_with fail
   go_quiet (fail)
   go_wp2_with fail
   go_quiet (fail)
   go_wp2_with fail
   go_ret
   exact ⟨by rw [HH.out];rfl,(H.out.drewN _).drewN _,((Mv.refl _ _ _ _ _).drewN _).drewN _⟩
  ·have HH:Hid (zd s k false=0):=by show _=_;unfold zd;rw [if_neg (by decide),if_neg hlt]
   have hge:decide ((s.size:Int)<=(k:Int))=true:=decide_eq_true (by omega)
   go_enter Try.func67,Try.ntmps67
   go_wp2_with fail
   go_quiet (fail)
   go_wp2_with fail
   go_ret
   exact ⟨by rw [HH.out];rfl,H.out.drewN _,(Mv.refl _ _ _ _ _).drewN _⟩
theorem zO (base B:Nat) (s:ByteArray) (k:Nat) (b:Bool) (ev rv:Value) (es:List (EX×Value)) (rs:List RL) (w:World) (hs:s.size<=2000) (hk:k<=s.size) (h:PM w base B s k b ev rv es rs) :
 Calls Try.prog 66 #[.pointer (some ⟨B,0,none⟩)] w fun e w'=>e=.returned (.tuple #[])/\PM w' base B s (za s k b) b ev rv es rs/\Mv base B ev rv ev rv w w':=by
 have H:Hid _:=h
 clear h
 go_enter Try.func66,Try.ntmps66
 go_wp2_with fail
 refine (yE base B s k b ev rv es rs _ hk H.out).mono ?_
 rintro e w1 ⟨rfl,hp,hm⟩
 have HP:Hid _:=hp
 have HM:Hid _:=hm
 clear hp hm
 go_wp2_with fail
 go_loopg [2] (s.size-k) (fun n x wr=>∃ j:Nat,k<=j/\j<=s.size/\n=s.size-j/\x=J .u8 (zd s j b)/\Hid (za s j b=za s k b)/\PM wr base B s j b ev rv es rs/\Mv base B ev rv ev rv w wr)
 case atStart=>exact ⟨k,Nat.le_refl _,hk,rfl,rfl,rfl,HP.out,HM.out⟩
 case round =>
  obtain ⟨j,hkj,hjs,hn,rfl,HS,hp,hm⟩:=hrel
  have HP2:Hid _:=hp
  have HM2:Hid _:=hm
  have c1:=hp.c1
  have z1:=hp.fz 1
  have HN:Hid _:=hn
  clear hp hm hn
  by_cases hb:T.bl (zd s j b)=true
  ·have hbl:b=false/\j<s.size/\zd s j b=T.ch s j:=by
    cases b with
    | true=>simp [zd,T.bl] at hb
    | false =>
     by_cases hlt:j<s.size
     ·exact ⟨rfl,hlt,by simp [zd,hlt]⟩
     ·simp [zd,hlt,T.bl] at hb
   obtain ⟨rfl,hlt,he⟩:=hbl
   have HS2:Hid (za s (j+1) false=za s k false):=by
    show _=_
    rw [<- HS.out]
    unfold za
    rw [if_neg (by decide),if_neg (by decide)]
    exact T.sk_next (by rw [<- he];exact hb)
   clear he
   have HBD:=ZB s j false
   generalize zd s j false=c at *
   have hjl:(j:Int)<2000:=by omega
   cases h32:(c==32) with
   | true =>
    go_wp2_with fail
    refine (yE base B s (j+1) false ev rv es rs _ (by omega) (HP2.out.at (j+1) _ (by omega))).mono ?_
    rintro e w3 ⟨rfl,hp3,hm3⟩
    have HP3:Hid _:=hp3
    have HM3:Hid (Mv base B ev rv ev rv w w3):=(HM2.out.trans (HP2.out.setMv 1 _)).trans hm3
    clear hp3 hm3
    go_wp2_with fail
    go_roundg (s.size-(j+1))
    case measure=>rw [HN.out];omega
    case rel=>exact ⟨j+1,by omega,by omega,rfl,rfl,HS2,HP3.out,HM3.out⟩
   | false =>
    have h10:(c==10)=true:=by simpa [T.bl,h32] using hb
    go_wp2_with fail
    refine (yE base B s (j+1) false ev rv es rs _ (by omega) (HP2.out.at (j+1) _ (by omega))).mono ?_
    rintro e w3 ⟨rfl,hp3,hm3⟩
    have HP3:Hid _:=hp3
    have HM3:Hid (Mv base B ev rv ev rv w w3):=(HM2.out.trans (HP2.out.setMv 1 _)).trans hm3
    clear hp3 hm3
    go_wp2_with fail
    go_roundg (s.size-(j+1))
    case measure=>rw [HN.out];omega
    case rel=>exact ⟨j+1,by omega,by omega,rfl,rfl,HS2,HP3.out,HM3.out⟩
  ·have HE:Hid (za s k b=j):=by
    show _=_
    rw [<- HS.out]
    cases b with
    | true=>rfl
    | false =>
     unfold za
     rw [if_neg (by decide)]
     by_cases hlt:j<s.size
     ·have e:zd s j false=T.ch s j:=by simp [zd,hlt]
      exact T.sk_here (by rw [e] at hb;simpa using hb)
     ·exact T.sk_here (by rw [T.ch_ge hlt];rfl)
   have hno:(zd s j b==32)=false/\(zd s j b==10)=false:=by
    have:T.bl (zd s j b)=false:=by simpa using hb
    simpa [T.bl] using this
   obtain ⟨h32,h10⟩:=hno
   clear hb
   generalize zd s j b=c at *
   go_wp2_with fail
   go_end0
   exact ⟨rfl,by rw [HE.out];exact HP2.out,HM2.out⟩
def zI (s:ByteArray) (c:Int) (k:Nat) (b:Bool):Bool:=zd s (za s k b) b==c
def zb (s:ByteArray) (c:Int) (k:Nat) (b:Bool):Nat:=if zI s c k b=true then za s k b+1 else za s k b
def zi (s:ByteArray) (c:Int) (k:Nat) (b:Bool):Bool:=if zI s c k b=true then b else true
theorem ZA {s:ByteArray} {c:Int} {k:Nat} {b:Bool} (hc:c≠0) (h:zI s c k b=true):b=false/\za s k b<s.size/\T.ch s (T.sk s k)=c:=by
 unfold zI zd at h
 cases b with
 | true=>simp at h;exact absurd h.symm hc
 | false =>
  by_cases hlt:za s k false<s.size
  ·simp [hlt] at h
   exact ⟨rfl,hlt,by simpa [za] using h⟩
  ·simp [hlt] at h;exact absurd h.symm hc
theorem zm {s:ByteArray} {c:Int} {k:Nat} {b:Bool} (hc:c≠0) (hk:k<=s.size):zb s c k b<=s.size:=by
 unfold zb
 split
 ·next h=>have:=(ZA hc h).2.1;omega
 ·exact zB hk
theorem YN (base B:Nat) (s:ByteArray) (c:Int) (k:Nat) (b:Bool) (ev rv:Value) (es:List (EX×Value)) (rs:List RL) (w:World) (hs:s.size<=2000) (hk:k<=s.size) (hc:c≠0) (h:PM w base B s k b ev rv es rs) :
 Calls Try.prog 42 #[.pointer (some ⟨B,0,none⟩),J .u8 c] w fun e w'=>e=.returned (.bool (zI s c k b))/\PM w' base B s (zb s c k b) b ev rv es rs/\Mv base B ev rv ev rv w w':=by
 have H:Hid _:=h
 clear h
 go_enter Try.func42,Try.ntmps42
 go_wp2_with fail
 refine (zO base B s k b ev rv es rs _ hs hk H.out).mono ?_
 rintro e w1 ⟨rfl,hp,hm⟩
 have HP:Hid _:=hp
 have HM:Hid _:=hm
 clear hp hm
 go_wp2_with fail
 refine (yE base B s (za s k b) b ev rv es rs _ (zB hk) HP.out).mono ?_
 rintro e w2 ⟨rfl,hp,hm⟩
 have HP2:Hid _:=hp
 have HM2:Hid _:=HM.out.trans hm
 have c1:=hp.c1
 have z1:=hp.fz 1
 clear hp hm
 cases ht:zI s c k b with
 | true =>
  have hlt:=(ZA hc ht).2.1
  have HK:Hid (zb s c k b=za s k b+1):=by show _=_;unfold zb;rw [if_pos ht]
  have he:(zd s (za s k b) b==c)=true:=ht
  have HT:Hid _:=ht
  have he2:(zd s (za s k b) b != c)=false:=by simp [bne,he]
  generalize zd s (za s k b) b=x at *
  clear ht
  generalize za s k b=p at *
  have hpl:(p:Int)<2000:=by omega
  go_wp2_with fail
  go_ret
  exact ⟨by rw [HT.out];rfl,by rw [HK.out];exact HP2.out.at (p+1) _ (by omega),HM2.out.trans (HP2.out.setMv 1 _)⟩
 | false =>
  have HK:Hid (zb s c k b=za s k b):=by show _=_;unfold zb;rw [if_neg (by rw [ht];decide)]
  have he:(zd s (za s k b) b==c)=false:=ht
  have HT:Hid _:=ht
  have he2:(zd s (za s k b) b != c)=true:=by simp [bne,he]
  generalize zd s (za s k b) b=x at *
  clear ht
  go_wp2_with fail
  go_ret
  exact ⟨by rw [HT.out];rfl,by rw [HK.out];exact HP2.out,HM2.out⟩
theorem yf (base B:Nat) (s:ByteArray) (c:Int) (k:Nat) (b:Bool) (ev rv:Value) (es:List (EX×Value)) (rs:List RL) (w:World) (hs:s.size<=2000) (hk:k<=s.size) (hc:c≠0) (h:PM w base B s k b ev rv es rs) :
 Calls Try.prog 64 #[.pointer (some ⟨B,0,none⟩),J .u8 c] w fun e w'=>e=.returned (.tuple #[])/\PM w' base B s (zb s c k b) (zi s c k b) ev rv es rs/\Mv base B ev rv ev rv w w':=by
 have H:Hid _:=h
 clear h
 go_enter Try.func64,Try.ntmps64
 go_wp2_with fail
 refine (YN base B s c k b ev rv es rs _ hs hk hc H.out).mono ?_
 rintro e w1 ⟨rfl,hp,hm⟩
 have HP:Hid _:=hp
 have HM:Hid _:=hm
 have c2:=hp.c2
 have z2:=hp.fz 2
 clear hp hm
 cases ht:zI s c k b with
 | true =>
  have HB:Hid (zi s c k b=b):=by show _=_;unfold zi;rw [if_pos ht]
  clear ht
  go_wp2_with fail
  go_end0
  exact ⟨rfl,by rw [HB.out];exact HP.out,HM.out⟩
 | false =>
  have HB:Hid (zi s c k b=true):=by show _=_;unfold zi;rw [if_neg (by rw [ht];decide)]
  clear ht
  go_wp2_with fail
  go_end0
  exact ⟨rfl,by rw [HB.out];exact HP.out.bad true,HM.out.trans (HP.out.setMv 2 _)⟩
def zy (w:World) (c:Nat) (t:TypeId):Prop:=∃ cs fr,w.heap[c]?=some (.cells cs t fr)
theorem zy.set {w:World} {c:Nat} {t:TypeId} (h:zy w c t) (d j:Nat) (u:Value):zy (w.setCell ⟨d,j,none⟩ u) c t:=by
 obtain ⟨cs,fr,h⟩:=h
 by_cases e:c=d
 ·subst e
  exact ⟨cs.setIfInBounds j u,fr,by simp [World.setCell,Array.getElem?_modify,h]⟩
 ·exact ⟨cs,fr,by rw [zc e];exact h⟩
theorem zy.alloc {w:World} {c:Nat} {t:TypeId} (h:zy w c t) (o:Obj):zy (w.alloc o) c t:=by
 obtain ⟨cs,fr,h⟩:=h
 exact ⟨cs,fr,by rw [Below.heap_alloc _ _ _ (lt_of_block h)];exact h⟩
theorem zy.new (w:World) (cs:Array Value) (t:TypeId):zy (w.alloc (.cells cs t)) w.heap.size t:=⟨cs,(0,0),heap_alloc_new w _⟩
theorem zy.of_block {w w':World} {c:Nat} {t:TypeId} (h:zy w c t) (e:w'.heap[c]?=w.heap[c]?):zy w' c t:=by
 obtain ⟨cs,fr,h⟩:=h
 exact ⟨cs,fr,e.trans h⟩
theorem PM.setT {w:World} {base B s k b ev rv es rs} (h:PM w base B s k b ev rv es rs) {c j:Nat} {u:Value} {t:TypeId} (hT:zy w c t)
 (h1:t≠73) (h2:t≠97) (h3:t≠92) (h4:t≠104):PM (w.setCell ⟨c,j,none⟩ u) base B s k b ev rv es rs:=by
 obtain ⟨cs,fr,hc⟩:=hT
 refine ⟨?_,ownsRow_setCell_other h.ex (zs h.ex hc h2) _,ownsRow_setCell_other h.rl (zs h.rl hc h3) _,fun p hp=>ownsRow_setCell_other (h.it p hp) (zs (h.it p hp) hc h4) _,h.hB⟩
 rw [zc (fun e=>by subst e;have:=h.blk;rw [hc] at this;simp at this;exact h1 this.2.1)]
 exact h.blk
theorem PM.setN {w:World} {base B s k b ev rv es rs} (h:PM w base B s k b ev rv es rs) {c j:Nat} {u:Value} (hT:zy w c 90):PM (w.setCell ⟨c,j,none⟩ u) base B s k b ev rv es rs:=h.setT hT (by decide) (by decide) (by decide) (by decide)
theorem Mv.setNew {base B:Nat} {a b c d:Value} {w w1:World} (h:Mv base B a b c d w w1) {k j:Nat} (hk:w.heap.size<=k) (hb:base<=k) (u:Value):Mv base B a b c d w (w1.setCell ⟨k,j,none⟩ u) :=
 ⟨h.bel.setCell hb _,fun x hx ho=>⟨(zc (by omega)).trans (h.kept x hx ho).1,(h.kept x hx ho).2⟩⟩
def Zo (s:ByteArray) (k:Nat) (b:Bool):Bool:=decide (97<=zd s (za s k b) b) && decide (zd s (za s k b) b<=122)
def zM (s:ByteArray) (k:Nat) (b:Bool):Nat:=if Zo s k b=true then za s k b+1 else za s k b
def z9 (s:ByteArray) (k:Nat) (b:Bool):Bool:=if Zo s k b=true then b else true
theorem YG {s:ByteArray} {k:Nat} {b:Bool} (h:Zo s k b=true):b=false/\za s k b<s.size:=by
 unfold Zo zd at h
 cases b with
 | true=>simp at h
 | false =>
  by_cases hlt:za s k false<s.size
  ·exact ⟨rfl,hlt⟩
  ·simp [hlt] at h
theorem YF {s:ByteArray} {k:Nat} {b:Bool} (hk:k<=s.size):zM s k b<=s.size:=by
 unfold zM
 split
 ·next h=>have:=(YG h).2;omega
 ·exact zB hk
theorem xF (a b:Int) (w:World):(Instr.build 90 #[(0,J Z a),(1,J Z b)]).run Try.prog w=.ok (.agg #[J Z a,J Z b]) w:=run_build w 90 _ _ (by kernel_rfl)
theorem Qo (b:Int) (w:World):(Instr.build 90 #[(1,J Z b)]).run Try.prog w=.ok (.agg #[J Z 0,J Z b]) w:=run_build w 90 _ _ (by kernel_rfl)
theorem YW (base B:Nat) (s:ByteArray) (k:Nat) (b:Bool) (ev rv:Value) (es:List (EX×Value)) (rs:List RL) (w:World) (hs:s.size<=2000) (hk:k<=s.size) (h:PM w base B s k b ev rv es rs) :
 Calls Try.prog 63 #[.pointer (some ⟨B,0,none⟩)] w fun e w'=>e=.returned (.agg #[J Z (zd s (za s k b) b),J Z (za s k b)])/\PM w' base B s (zM s k b) (z9 s k b) ev rv es rs/\Mv base B ev rv ev rv w w':=by
 have H:Hid (PM (w.alloc (.cells #[J Z 0,J Z 0] 90)) base B s k b ev rv es rs):=h.alloc _
 have HM0:Hid (Mv base B ev rv ev rv w (w.alloc (.cells #[J Z 0,J Z 0] 90))):=Mv.alloc h.bs _
 have hou:=h.outNew
 have hbs:=h.bs
 clear h
 go_enter Try.func63,Try.ntmps63
 go_wp2_with fail
 refine (zO base B s k b ev rv es rs _ hs hk H.out).mono ?_
 rintro e w1 ⟨rfl,hp,hm⟩
 have HP:Hid _:=hp
 have HM:Hid _:=hm
 clear hp hm
 go_wp2_with fail
 refine (yE base B s (za s k b) b ev rv es rs _ (zB hk) HP.out).mono ?_
 rintro e w2 ⟨rfl,hp,hm⟩
 have HP2:Hid _:=hp
 have HM2:Hid (Mv base B ev rv ev rv w w2):=HM0.out.trans (HM.out.trans hm)
 have hr:w2.heap[w.heap.size]?=some (.cells #[J Z 0,J Z 0] 90 (0,0)):=((HM.out.trans hm).kept _ (by simp) hou).1.trans (heap_alloc_new w _)
 have c1:=hp.c1
 have c2:=hp.c2
 have z1:=hp.fz 1
 have z2:=hp.fz 2
 have r0:w2.cell? ⟨w.heap.size,0,none⟩=some (J Z 0):=by simp [World.cell?,hr]
 have r1:w2.cell? ⟨w.heap.size,1,none⟩=some (J Z 0):=by simp [World.cell?,hr]
 have rz:∀ j,w2.frozen? ⟨w.heap.size,j,none⟩=false:=fun j=>by simp [World.frozen?,hr]
 have HR:Hid _:=hr
 have hlt2:=hp.lt
 have hne:w.heap.size≠B:=hou.1
 have hne':B≠w.heap.size:=fun e=>hou.1 e.symm
 have hn3:w2.heap.size≠B:=by omega
 have hn4:B≠w2.heap.size:=by omega
 have hwl:w.heap.size<w2.heap.size:=lt_of_block hr
 have hn5:w.heap.size≠w2.heap.size:=by omega
 clear hp hm hr
 have hb:=ZB s (za s k b) b
 have HK:Hid (zM s k b=if Zo s k b=true then za s k b+1 else za s k b):=rfl
 have HX:Hid (z9 s k b=if Zo s k b=true then b else true):=rfl
 have hLB:Zo s k b=(decide (97<=zd s (za s k b) b) && decide (zd s (za s k b) b<=122)):=rfl
 have hLT:Zo s k b=true->za s k b<s.size:=fun h=>(YG h).2
 generalize hxe:zd s (za s k b) b=x at *
 generalize hpe:za s k b=p at *
 have HXE:Hid _:=hxe
 have HPE:Hid _:=hpe
 clear hxe hpe
 have hbn:=fun w=>xF x p w
 by_cases h1:x<97
 ·have e1:Zo s k b=false:=by rw [hLB];simp;omega
  rw [e1] at HK HX
  have HK2:Hid _:=HK.out
  have HX2:Hid _:=HX.out
  clear hLB hLT e1 HK HX
  go_wp2_with fail
  exact bodyPost_ret (v:=.agg #[J Z x,J Z p]) (by simp [results,Try.results63,go_sem,r0,r1,hwl]) rfl ⟨by rw [HPE.out,HXE.out],by rw [HK2.out,HX2.out];exact ((((HP2.out.bad true).setN (zy.set ⟨_,_,HR.out⟩ _ _ _)).setN (zy.set (zy.set ⟨_,_,HR.out⟩ _ _ _) _ _ _)).alloc _),(((HM2.out.trans (HP2.out.setMv 2 _)).setNew (Nat.le_refl _) hbs _).setNew (Nat.le_refl _) hbs _).trans (Mv.alloc (((HP2.out.bad true).setN (zy.set ⟨_,_,HR.out⟩ _ _ _)).setN (zy.set (zy.set ⟨_,_,HR.out⟩ _ _ _) _ _ _)).bs _)⟩
 ·by_cases h2:122<x
  ·have e1:Zo s k b=false:=by rw [hLB];simp;omega
   rw [e1] at HK HX
   have HK2:Hid _:=HK.out
   have HX2:Hid _:=HX.out
   clear hLB hLT e1 HK HX
   go_wp2_with fail
   exact bodyPost_ret (v:=.agg #[J Z x,J Z p]) (by simp [results,Try.results63,go_sem,r0,r1,hwl]) rfl ⟨by rw [HPE.out,HXE.out],by rw [HK2.out,HX2.out];exact ((((HP2.out.bad true).setN (zy.set ⟨_,_,HR.out⟩ _ _ _)).setN (zy.set (zy.set ⟨_,_,HR.out⟩ _ _ _) _ _ _)).alloc _),(((HM2.out.trans (HP2.out.setMv 2 _)).setNew (Nat.le_refl _) hbs _).setNew (Nat.le_refl _) hbs _).trans (Mv.alloc (((HP2.out.bad true).setN (zy.set ⟨_,_,HR.out⟩ _ _ _)).setN (zy.set (zy.set ⟨_,_,HR.out⟩ _ _ _) _ _ _)).bs _)⟩
  ·have e1:Zo s k b=true:=by rw [hLB];simp;omega
   have hpl:p<s.size:=hLT e1
   rw [e1] at HK HX
   have HK2:Hid _:=HK.out
   have HX2:Hid _:=HX.out
   clear hLB hLT e1 HK HX
   have hpi:(p:Int)<2000:=by omega
   go_wp2_with fail
   exact bodyPost_ret (v:=.agg #[J Z x,J Z p]) (by simp [results,Try.results63,go_sem,r0,r1,hwl]) rfl ⟨by rw [HPE.out,HXE.out],by rw [HK2.out,HX2.out];exact ((((HP2.out.at (p+1) _ (by omega)).setN (zy.set ⟨_,_,HR.out⟩ _ _ _)).setN (zy.set (zy.set ⟨_,_,HR.out⟩ _ _ _) _ _ _)).alloc _),(((HM2.out.trans (HP2.out.setMv 1 _)).setNew (Nat.le_refl _) hbs _).setNew (Nat.le_refl _) hbs _).trans (Mv.alloc (((HP2.out.at (p+1) _ (by omega)).setN (zy.set ⟨_,_,HR.out⟩ _ _ _)).setN (zy.set (zy.set ⟨_,_,HR.out⟩ _ _ _) _ _ _)).bs _)⟩
end Go.Proofs.Ytaebngpoagjafaa
