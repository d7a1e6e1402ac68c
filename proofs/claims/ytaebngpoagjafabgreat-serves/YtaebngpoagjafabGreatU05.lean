import Derived.Test.YtaebngpoagjafabGreatU04
import Derived.Laws.NewBlocks
import Derived.RangeFuncBox
import Derived.WalkSmall
set_option maxRecDepth 100000
set_option maxHeartbeats 400000
namespace Go.Proofs.YtaebngpoagjafabGreat
open Value renaming int → J
open IntKind renaming i64 → Z
open Go.RowKit
attribute [local go_sem ↓] Go.wp_at_zero Go.wp_at_succ
structure IM where
 at_:Int
 num:Int
 pv:Int
 pl:Int
 wv:Int
 wa:Int
 arm:Int
structure EX where
 kind:Int
 at_:Int
 depth:Int
 nv:Int
 na:Int
 items:List IM
 inner:Int
structure RL where
 nv:Int
 na:Int
 ex:Int
def imV (x:IM):List Value:=[J Z x.at_,J Z x.num,J Z x.pv,J Z x.pl,J Z x.wv,J Z x.wa,J Z x.arm]
def exV (e:EX×Value):List Value:=[J .u8 e.1.kind,J Z e.1.at_,J Z e.1.depth,J Z e.1.nv,J Z e.1.na,e.2,J Z e.1.inner]
def rlV (r:RL):List Value:=[J Z r.nv,J Z r.na,J Z r.ex]
def imC (l:List IM):List Value:=l.flatMap imV
def exC (l:List (EX×Value)):List Value:=l.flatMap exV
def rlC (l:List RL):List Value:=l.flatMap rlV
structure PM (w:World) (base B:Nat) (s:ByteArray) (k:Nat) (b:Bool) (ev rv:Value) (es:List (EX×Value)) (rs:List RL):Prop where
 blk:w.heap[B]?=some (.cells #[.string s,J Z k,.bool b,ev,rv] 104 (0,0))
 ex:w.ownsRow base 148 7 ev es.length (exC es)
 rl:w.ownsRow base 143 3 rv rs.length (rlC rs)
 it:∀ p∈es,w.ownsRow base 155 7 p.2 p.1.items.length (imC p.1.items)
 hB:base<=B
theorem PM.lt {w:World} {base B s k b ev rv es rs} (h:PM w base B s k b ev rv es rs):B<w.heap.size:=lt_of_block h.blk
theorem PM.bs {w:World} {base B s k b ev rv es rs} (h:PM w base B s k b ev rv es rs):base<=w.heap.size:=Nat.le_trans h.hB (Nat.le_of_lt h.lt)
theorem PM.c0 {w:World} {base B s k b ev rv es rs} (h:PM w base B s k b ev rv es rs):w.cell? ⟨B,0,none⟩=some (.string s):=by simp [World.cell?,h.blk]
theorem PM.c1 {w:World} {base B s k b ev rv es rs} (h:PM w base B s k b ev rv es rs):w.cell? ⟨B,1,none⟩=some (J Z k):=by simp [World.cell?,h.blk]
theorem PM.c2 {w:World} {base B s k b ev rv es rs} (h:PM w base B s k b ev rv es rs):w.cell? ⟨B,2,none⟩=some (.bool b):=by simp [World.cell?,h.blk]
theorem PM.c3 {w:World} {base B s k b ev rv es rs} (h:PM w base B s k b ev rv es rs):w.cell? ⟨B,3,none⟩=some ev:=by simp [World.cell?,h.blk]
theorem PM.c4 {w:World} {base B s k b ev rv es rs} (h:PM w base B s k b ev rv es rs):w.cell? ⟨B,4,none⟩=some rv:=by simp [World.cell?,h.blk]
theorem PM.fz {w:World} {base B s k b ev rv es rs} (h:PM w base B s k b ev rv es rs) (j:Nat):w.frozen? ⟨B,j,none⟩=false:=by simp [World.frozen?,h.blk]
theorem PM.neE {w:World} {base B s k b ev rv es rs} (h:PM w base B s k b ev rv es rs):ev.ownBlock≠some B:=zk h.ex h.blk (by decide)
theorem PM.neR {w:World} {base B s k b ev rv es rs} (h:PM w base B s k b ev rv es rs):rv.ownBlock≠some B:=zk h.rl h.blk (by decide)
theorem PM.neI {w:World} {base B s k b ev rv es rs} (h:PM w base B s k b ev rv es rs) {p:EX×Value} (hp:p∈es):p.2.ownBlock≠some B:=zk (h.it p hp) h.blk (by decide)
theorem Yz {w:World} {B j:Nat} {a b c d e u:Value} {t:TypeId} (h:w.heap[B]?=some (.cells #[a,b,c,d,e] t (0,0))):(w.setCell ⟨B,j,none⟩ u).heap[B]?=some (.cells (#[a,b,c,d,e].setIfInBounds j u) t (0,0)):=by
 simp [World.setCell,Array.getElem?_modify,h]
theorem PM.at {w:World} {base B s k b ev rv es rs} (h:PM w base B s k b ev rv es rs) (k':Nat) (x:Int) (hx:x=k'):PM (w.setCell ⟨B,1,none⟩ (J Z x)) base B s k' b ev rv es rs :=
 ⟨by rw [hx];exact Yz h.blk,ownsRow_setCell_other h.ex h.neE _,ownsRow_setCell_other h.rl h.neR _,fun p hp=>ownsRow_setCell_other (h.it p hp) (h.neI hp) _,h.hB⟩
theorem PM.bad {w:World} {base B s k b ev rv es rs} (h:PM w base B s k b ev rv es rs) (b':Bool):PM (w.setCell ⟨B,2,none⟩ (.bool b')) base B s k b' ev rv es rs :=
 ⟨Yz h.blk,ownsRow_setCell_other h.ex h.neE _,ownsRow_setCell_other h.rl h.neR _,fun p hp=>ownsRow_setCell_other (h.it p hp) (h.neI hp) _,h.hB⟩
theorem PM.setMv {w:World} {base B s k b ev rv es rs} (h:PM w base B s k b ev rv es rs) (j:Nat) (x:Value):Mv base B ev rv ev rv w (w.setCell ⟨B,j,none⟩ x) :=
 ⟨(Below.refl _ _).setCell h.hB _,fun _ _ ho=>⟨za ho.1,ho⟩⟩
theorem PM.alloc {w:World} {base B s k b ev rv es rs} (h:PM w base B s k b ev rv es rs) (o:Obj):PM (w.alloc o) base B s k b ev rv es rs :=
 ⟨by rw [Below.heap_alloc _ _ _ h.lt];exact h.blk,h.ex.alloc o,h.rl.alloc o,fun p hp=>(h.it p hp).alloc o,h.hB⟩
theorem PM.drewN {w:World} {base B s k b ev rv es rs} (h:PM w base B s k b ev rv es rs) (n:Nat):PM (w.drewN n) base B s k b ev rv es rs:=⟨h.blk,h.ex,h.rl,h.it,h.hB⟩
theorem PM.drew {w:World} {base B s k b ev rv es rs} (h:PM w base B s k b ev rv es rs):PM w.drew base B s k b ev rv es rs:=⟨h.blk,h.ex,h.rl,h.it,h.hB⟩
theorem PM.outNew {w:World} {base B s k b ev rv es rs} (h:PM w base B s k b ev rv es rs):Out B ev rv w.heap.size :=
 ⟨fun e=>by have:=h.lt;omega,fun e=>by have:=(h.ex.lt _ e).2;omega,fun e=>by have:=(h.rl.lt _ e).2;omega⟩
def ze (s:ByteArray) (k:Nat) (b:Bool):Int:=if b=true then 0 else if k<s.size then T.ch s k else 0
def zb (s:ByteArray) (k:Nat) (b:Bool):Nat:=if b=true then k else T.sk s k
theorem zM {s:ByteArray} {k:Nat} {b:Bool} (h:k<=s.size):zb s k b<=s.size:=by
 unfold zb;split
 ·exact h
 ·exact T.sk_le h
theorem Yu (s:ByteArray) (k:Nat) (b:Bool):0<=ze s k b/\ze s k b<256:=by
 unfold ze;split
 ·omega
 ·split
  ·next h=>exact T.ch_bd h
  ·omega
theorem Zz (base B:Nat) (s:ByteArray) (k:Nat) (b:Bool) (ev rv:Value) (es:List (EX×Value)) (rs:List RL) (w:World) (hk:k<=s.size) (h:PM w base B s k b ev rv es rs) :
 Calls Tryz.prog 127 #[.pointer (some ⟨B,0,none⟩)] w fun e w'=>e=.returned (J .u8 (ze s k b))/\PM w' base B s k b ev rv es rs/\Mv base B ev rv ev rv w w':=by
 have H:Hid _:=h
 have c0:=h.c0
 have c1:=h.c1
 have c2:=h.c2
 clear h
 cases b with
 | true =>
  go_enter Tryz.func127,Tryz.ntmps127
  go_wp2_with fail
  go_quiet (fail)
  go_wp2_with fail
  go_ret
  exact ⟨rfl,H.out.drewN _,(Mv.refl _ _ _ _ _).drewN _⟩
 | false =>
  by_cases a:k<s.size
  ·have f:Hid (ze s k false=T.ch s k):=by show _=_;unfold ze;rw [if_neg (by decide),if_pos a]
   have g:(k:Int)<(s.size:Int):=by omega
   have d:decide ((s.size:Int)<=(k:Int))=false:=decide_eq_false (by omega)
   have i:((s[k]).toNat:Int)=T.ch s k:=(T.ch_lt a).symm
   go_enter Tryz.func127,Tryz.ntmps127
   go_wp2_with fail
   go_quiet (fail)
   go_wp2_with fail
   go_quiet (fail)
   go_wp2_with fail
   go_ret
   exact ⟨by rw [f.out];rfl,(H.out.drewN _).drewN _,((Mv.refl _ _ _ _ _).drewN _).drewN _⟩
  ·have f:Hid (ze s k false=0):=by show _=_;unfold ze;rw [if_neg (by decide),if_neg a]
   have d:decide ((s.size:Int)<=(k:Int))=true:=decide_eq_true (by omega)
   go_enter Tryz.func127,Tryz.ntmps127
   go_wp2_with fail
   go_quiet (fail)
   go_wp2_with fail
   go_ret
   exact ⟨by rw [f.out];rfl,H.out.drewN _,(Mv.refl _ _ _ _ _).drewN _⟩
theorem yj (base B:Nat) (s:ByteArray) (k:Nat) (b:Bool) (ev rv:Value) (es:List (EX×Value)) (rs:List RL) (w:World) (hs:s.size<=2000) (hk:k<=s.size) (h:PM w base B s k b ev rv es rs) :
 Calls Tryz.prog 126 #[.pointer (some ⟨B,0,none⟩)] w fun e w'=>e=.returned (.tuple #[])/\PM w' base B s (zb s k b) b ev rv es rs/\Mv base B ev rv ev rv w w':=by
 have H:Hid _:=h
 clear h
 go_enter Tryz.func126,Tryz.ntmps126
 go_wp2_with fail
 refine (Zz base B s k b ev rv es rs _ hk H.out).mono ?_
 rintro e R ⟨rfl,l,q⟩
 have L:Hid _:=l
 have N:Hid _:=q
 clear l q
 go_wp2_with fail
 go_loopg [2] (s.size-k) (fun n x wr=>∃ j:Nat,k<=j/\j<=s.size/\n=s.size-j/\x=J .u8 (ze s j b)/\Hid (zb s j b=zb s k b)/\PM wr base B s j b ev rv es rs/\Mv base B ev rv ev rv w wr)
 case atStart=>exact ⟨k,Nat.le_refl _,hk,rfl,rfl,rfl,L.out,N.out⟩
 case round =>
  obtain ⟨j,G,I,C,rfl,E,l,q⟩:=hrel
  have g:Hid _:=l
  have p:Hid _:=q
  have c1:=l.c1
  have Q:=l.fz 1
  have F:Hid _:=C
  clear l q C
  by_cases i:T.bl (ze s j b)=true
  ·have z:b=false/\j<s.size/\ze s j b=T.ch s j:=by
    cases b with
    | true=>simp [ze,T.bl] at i
    | false =>
     by_cases a:j<s.size
     ·exact ⟨rfl,a,by simp [ze,a]⟩
     ·simp [ze,a,T.bl] at i
   obtain ⟨rfl,a,D⟩:=z
   have u:Hid (zb s (j+1) false=zb s k false):=by
    show _=_
    rw [<- E.out]
    unfold zb
    rw [if_neg (by decide),if_neg (by decide)]
    exact T.sk_next (by rw [<- D];exact i)
   clear D
   have P:=Yu s j false
   generalize ze s j false=c at *
   have K:(j:Int)<2000:=by omega
   cases r:(c==32) with
   | true =>
    go_wp2_with fail
    refine (Zz base B s (j+1) false ev rv es rs _ (by omega) (g.out.at (j+1) _ (by omega))).mono ?_
    rintro e v ⟨rfl,d,f⟩
    have m:Hid _:=d
    have o:Hid (Mv base B ev rv ev rv w v):=(p.out.trans (g.out.setMv 1 _)).trans f
    clear d f
    go_wp2_with fail
    go_roundg (s.size-(j+1))
    case measure=>rw [F.out];omega
    case rel=>exact ⟨j+1,by omega,by omega,rfl,rfl,u,m.out,o.out⟩
   | false =>
    have A:(c==10)=true:=by simpa [T.bl,r] using i
    go_wp2_with fail
    refine (Zz base B s (j+1) false ev rv es rs _ (by omega) (g.out.at (j+1) _ (by omega))).mono ?_
    rintro e v ⟨rfl,d,f⟩
    have m:Hid _:=d
    have o:Hid (Mv base B ev rv ev rv w v):=(p.out.trans (g.out.setMv 1 _)).trans f
    clear d f
    go_wp2_with fail
    go_roundg (s.size-(j+1))
    case measure=>rw [F.out];omega
    case rel=>exact ⟨j+1,by omega,by omega,rfl,rfl,u,m.out,o.out⟩
  ·have O:Hid (zb s k b=j):=by
    show _=_
    rw [<- E.out]
    cases b with
    | true=>rfl
    | false =>
     unfold zb
     rw [if_neg (by decide)]
     by_cases a:j<s.size
     ·have e:ze s j false=T.ch s j:=by simp [ze,a]
      exact T.sk_here (by rw [e] at i;simpa using i)
     ·exact T.sk_here (by rw [T.ch_ge a];rfl)
   have y:(ze s j b==32)=false/\(ze s j b==10)=false:=by
    have:T.bl (ze s j b)=false:=by simpa using i
    simpa [T.bl] using this
   obtain ⟨r,A⟩:=y
   clear i
   generalize ze s j b=c at *
   go_wp2_with fail
   go_end0
   exact ⟨rfl,by rw [O.out];exact g.out,p.out⟩
def zZ (s:ByteArray) (c:Int) (k:Nat) (b:Bool):Bool:=ze s (zb s k b) b==c
def zc (s:ByteArray) (c:Int) (k:Nat) (b:Bool):Nat:=if zZ s c k b=true then zb s k b+1 else zb s k b
def zj (s:ByteArray) (c:Int) (k:Nat) (b:Bool):Bool:=if zZ s c k b=true then b else true
theorem YX {s:ByteArray} {c:Int} {k:Nat} {b:Bool} (hc:c≠0) (h:zZ s c k b=true):b=false/\zb s k b<s.size/\T.ch s (T.sk s k)=c:=by
 unfold zZ ze at h
 cases b with
 | true=>simp at h;exact absurd h.symm hc
 | false =>
  by_cases a:zb s k false<s.size
  ·simp [a] at h
   exact ⟨rfl,a,by simpa [zb] using h⟩
  ·simp [a] at h;exact absurd h.symm hc
theorem zs {s:ByteArray} {c:Int} {k:Nat} {b:Bool} (hc:c≠0) (hk:k<=s.size):zc s c k b<=s.size:=by
 unfold zc
 split
 ·next h=>have:=(YX hc h).2.1;omega
 ·exact zM hk
theorem qw (base B:Nat) (s:ByteArray) (c:Int) (k:Nat) (b:Bool) (ev rv:Value) (es:List (EX×Value)) (rs:List RL) (w:World) (hs:s.size<=2000) (hk:k<=s.size) (hc:c≠0) (h:PM w base B s k b ev rv es rs) :
 Calls Tryz.prog 87 #[.pointer (some ⟨B,0,none⟩),J .u8 c] w fun e w'=>e=.returned (.bool (zZ s c k b))/\PM w' base B s (zc s c k b) b ev rv es rs/\Mv base B ev rv ev rv w w':=by
 have H:Hid _:=h
 clear h
 go_enter Tryz.func87,Tryz.ntmps87
 go_wp2_with fail
 refine (yj base B s k b ev rv es rs _ hs hk H.out).mono ?_
 rintro e y ⟨rfl,a,f⟩
 have q:Hid _:=a
 have r:Hid _:=f
 clear a f
 go_wp2_with fail
 refine (Zz base B s (zb s k b) b ev rv es rs _ (zM hk) q.out).mono ?_
 rintro e v ⟨rfl,a,f⟩
 have d:Hid _:=a
 have g:Hid _:=r.out.trans f
 have c1:=a.c1
 have u:=a.fz 1
 clear a f
 cases ht:zZ s c k b with
 | true =>
  have o:=(YX hc ht).2.1
  have m:Hid (zc s c k b=zb s k b+1):=by show _=_;unfold zc;rw [if_pos ht]
  have j:(ze s (zb s k b) b==c)=true:=ht
  have l:Hid _:=ht
  have i:(ze s (zb s k b) b != c)=false:=by simp [bne,j]
  generalize ze s (zb s k b) b=x at *
  clear ht
  generalize zb s k b=p at *
  have n:(p:Int)<2000:=by omega
  go_wp2_with fail
  go_ret
  exact ⟨by rw [l.out];rfl,by rw [m.out];exact d.out.at (p+1) _ (by omega),g.out.trans (d.out.setMv 1 _)⟩
 | false =>
  have m:Hid (zc s c k b=zb s k b):=by show _=_;unfold zc;rw [if_neg (by rw [ht];decide)]
  have j:(ze s (zb s k b) b==c)=false:=ht
  have l:Hid _:=ht
  have i:(ze s (zb s k b) b != c)=true:=by simp [bne,j]
  generalize ze s (zb s k b) b=x at *
  clear ht
  go_wp2_with fail
  go_ret
  exact ⟨by rw [l.out];rfl,by rw [m.out];exact d.out,g.out⟩
theorem yM (base B:Nat) (s:ByteArray) (c:Int) (k:Nat) (b:Bool) (ev rv:Value) (es:List (EX×Value)) (rs:List RL) (w:World) (hs:s.size<=2000) (hk:k<=s.size) (hc:c≠0) (h:PM w base B s k b ev rv es rs) :
 Calls Tryz.prog 124 #[.pointer (some ⟨B,0,none⟩),J .u8 c] w fun e w'=>e=.returned (.tuple #[])/\PM w' base B s (zc s c k b) (zj s c k b) ev rv es rs/\Mv base B ev rv ev rv w w':=by
 have H:Hid _:=h
 clear h
 go_enter Tryz.func124,Tryz.ntmps124
 go_wp2_with fail
 refine (qw base B s c k b ev rv es rs _ hs hk hc H.out).mono ?_
 rintro e l ⟨rfl,a,g⟩
 have d:Hid _:=a
 have i:Hid _:=g
 have c2:=a.c2
 have j:=a.fz 2
 clear a g
 cases ht:zZ s c k b with
 | true =>
  have f:Hid (zj s c k b=b):=by show _=_;unfold zj;rw [if_pos ht]
  clear ht
  go_wp2_with fail
  go_end0
  exact ⟨rfl,by rw [f.out];exact d.out,i.out⟩
 | false =>
  have f:Hid (zj s c k b=true):=by show _=_;unfold zj;rw [if_neg (by rw [ht];decide)]
  clear ht
  go_wp2_with fail
  go_end0
  exact ⟨rfl,by rw [f.out];exact d.out.bad true,i.out.trans (d.out.setMv 2 _)⟩
def zI (w:World) (c:Nat) (t:TypeId):Prop:=∃ cs fr,w.heap[c]?=some (.cells cs t fr)
theorem zI.set {w:World} {c:Nat} {t:TypeId} (h:zI w c t) (d j:Nat) (u:Value):zI (w.setCell ⟨d,j,none⟩ u) c t:=by
 obtain ⟨b,a,h⟩:=h
 by_cases e:c=d
 ·subst e
  exact ⟨b.setIfInBounds j u,a,by simp [World.setCell,Array.getElem?_modify,h]⟩
 ·exact ⟨b,a,by rw [za e];exact h⟩
theorem zI.alloc {w:World} {c:Nat} {t:TypeId} (h:zI w c t) (o:Obj):zI (w.alloc o) c t:=by
 obtain ⟨b,a,h⟩:=h
 exact ⟨b,a,by rw [Below.heap_alloc _ _ _ (lt_of_block h)];exact h⟩
theorem zI.new (w:World) (cs:Array Value) (t:TypeId):zI (w.alloc (.cells cs t)) w.heap.size t:=⟨cs,(0,0),heap_alloc_new w _⟩
theorem zI.of_block {w w':World} {c:Nat} {t:TypeId} (h:zI w c t) (e:w'.heap[c]?=w.heap[c]?):zI w' c t:=by
 obtain ⟨b,a,h⟩:=h
 exact ⟨b,a,e.trans h⟩
theorem PM.setT {w:World} {base B s k b ev rv es rs} (h:PM w base B s k b ev rv es rs) {c j:Nat} {u:Value} {t:TypeId} (hT:zI w c t)
 (h1:t≠104) (h2:t≠148) (h3:t≠143) (h4:t≠155):PM (w.setCell ⟨c,j,none⟩ u) base B s k b ev rv es rs:=by
 obtain ⟨f,d,a⟩:=hT
 refine ⟨?_,ownsRow_setCell_other h.ex (zk h.ex a h2) _,ownsRow_setCell_other h.rl (zk h.rl a h3) _,fun p hp=>ownsRow_setCell_other (h.it p hp) (zk (h.it p hp) a h4) _,h.hB⟩
 rw [za (fun e=>by subst e;have:=h.blk;rw [a] at this;simp at this;exact h1 this.2.1)]
 exact h.blk
theorem PM.setN {w:World} {base B s k b ev rv es rs} (h:PM w base B s k b ev rv es rs) {c j:Nat} {u:Value} (hT:zI w c 141):PM (w.setCell ⟨c,j,none⟩ u) base B s k b ev rv es rs:=h.setT hT (by decide) (by decide) (by decide) (by decide)
theorem Mv.setNew {base B:Nat} {a b c d:Value} {w w1:World} (h:Mv base B a b c d w w1) {k j:Nat} (hk:w.heap.size<=k) (hb:base<=k) (u:Value):Mv base B a b c d w (w1.setCell ⟨k,j,none⟩ u) :=
 ⟨h.bel.setCell hb _,fun x hx ho=>⟨(za (by omega)).trans (h.kept x hx ho).1,(h.kept x hx ho).2⟩⟩
def YH (s:ByteArray) (k:Nat) (b:Bool):Bool:=decide (97<=ze s (zb s k b) b) && decide (ze s (zb s k b) b<=122)
def zQ (s:ByteArray) (k:Nat) (b:Bool):Nat:=if YH s k b=true then zb s k b+1 else zb s k b
def zX (s:ByteArray) (k:Nat) (b:Bool):Bool:=if YH s k b=true then b else true
theorem qb {s:ByteArray} {k:Nat} {b:Bool} (h:YH s k b=true):b=false/\zb s k b<s.size:=by
 unfold YH ze at h
 cases b with
 | true=>simp at h
 | false =>
  by_cases a:zb s k false<s.size
  ·exact ⟨rfl,a⟩
  ·simp [a] at h
theorem xr {s:ByteArray} {k:Nat} {b:Bool} (hk:k<=s.size):zQ s k b<=s.size:=by
 unfold zQ
 split
 ·next h=>have:=(qb h).2;omega
 ·exact zM hk
theorem QK (a b:Int) (w:World):(Instr.build 141 #[(0,J Z a),(1,J Z b)]).run Tryz.prog w=.ok (.agg #[J Z a,J Z b]) w:=run_build w 141 _ _ (by kernel_rfl)
theorem zbR (b:Int) (w:World):(Instr.build 141 #[(1,J Z b)]).run Tryz.prog w=.ok (.agg #[J Z 0,J Z b]) w:=run_build w 141 _ _ (by kernel_rfl)
theorem qR (base B:Nat) (s:ByteArray) (k:Nat) (b:Bool) (ev rv:Value) (es:List (EX×Value)) (rs:List RL) (w:World) (hs:s.size<=2000) (hk:k<=s.size) (h:PM w base B s k b ev rv es rs) :
 Calls Tryz.prog 123 #[.pointer (some ⟨B,0,none⟩)] w fun e w'=>e=.returned (.agg #[J Z (ze s (zb s k b) b),J Z (zb s k b)])/\PM w' base B s (zQ s k b) (zX s k b) ev rv es rs/\Mv base B ev rv ev rv w w':=by
 have H:Hid (PM (w.alloc (.cells #[J Z 0,J Z 0] 141)) base B s k b ev rv es rs):=h.alloc _
 have K:Hid (Mv base B ev rv ev rv w (w.alloc (.cells #[J Z 0,J Z 0] 141))):=Mv.alloc h.bs _
 have z:=h.outNew
 have d:=h.bs
 clear h
 go_enter Tryz.func123,Tryz.ntmps123
 go_wp2_with fail
 refine (yj base B s k b ev rv es rs _ hs hk H.out).mono ?_
 rintro e w1 ⟨rfl,m,F⟩
 have X:Hid _:=m
 have O:Hid _:=F
 clear m F
 go_wp2_with fail
 refine (Zz base B s (zb s k b) b ev rv es rs _ (zM hk) X.out).mono ?_
 rintro e n ⟨rfl,m,F⟩
 have a:Hid _:=m
 have D:Hid (Mv base B ev rv ev rv w n):=K.out.trans (O.out.trans F)
 have E:n.heap[w.heap.size]?=some (.cells #[J Z 0,J Z 0] 141 (0,0)):=((O.out.trans F).kept _ (by simp) z).1.trans (heap_alloc_new w _)
 have c1:=m.c1
 have c2:=m.c2
 have z1:=m.fz 1
 have Y:=m.fz 2
 have I:n.cell? ⟨w.heap.size,0,none⟩=some (J Z 0):=by simp [World.cell?,E]
 have G:n.cell? ⟨w.heap.size,1,none⟩=some (J Z 0):=by simp [World.cell?,E]
 have rz:∀ j,n.frozen? ⟨w.heap.size,j,none⟩=false:=fun j=>by simp [World.frozen?,E]
 have g:Hid _:=E
 have N:=m.lt
 have R:w.heap.size≠B:=z.1
 have L:B≠w.heap.size:=fun e=>z.1 e.symm
 have V:n.heap.size≠B:=by omega
 have U:B≠n.heap.size:=by omega
 have y:w.heap.size<n.heap.size:=lt_of_block E
 have S:w.heap.size≠n.heap.size:=by omega
 clear m F E
 have hb:=Yu s (zb s k b) b
 have u:Hid (zQ s k b=if YH s k b=true then zb s k b+1 else zb s k b):=rfl
 have r:Hid (zX s k b=if YH s k b=true then b else true):=rfl
 have f:YH s k b=(decide (97<=ze s (zb s k b) b) && decide (ze s (zb s k b) b<=122)):=rfl
 have o:YH s k b=true->zb s k b<s.size:=fun h=>(qb h).2
 generalize hxe:ze s (zb s k b) b=x at *
 generalize hpe:zb s k b=p at *
 have A:Hid _:=hxe
 have C:Hid _:=hpe
 clear hxe hpe
 have W:=fun w=>QK x p w
 by_cases h1:x<97
 ·have q:YH s k b=false:=by rw [f];simp;omega
  rw [q] at u r
  have l:Hid _:=u.out
  have i:Hid _:=r.out
  clear f o q u r
  go_wp2_with fail
  exact bodyPost_ret (v:=.agg #[J Z x,J Z p]) (by simp [results,Tryz.results123,go_sem,I,G,y]) rfl ⟨by rw [C.out,A.out],by rw [l.out,i.out];exact ((((a.out.bad true).setN (zI.set ⟨_,_,g.out⟩ _ _ _)).setN (zI.set (zI.set ⟨_,_,g.out⟩ _ _ _) _ _ _)).alloc _),(((D.out.trans (a.out.setMv 2 _)).setNew (Nat.le_refl _) d _).setNew (Nat.le_refl _) d _).trans (Mv.alloc (((a.out.bad true).setN (zI.set ⟨_,_,g.out⟩ _ _ _)).setN (zI.set (zI.set ⟨_,_,g.out⟩ _ _ _) _ _ _)).bs _)⟩
 ·by_cases h2:122<x
  ·have q:YH s k b=false:=by rw [f];simp;omega
   rw [q] at u r
   have l:Hid _:=u.out
   have i:Hid _:=r.out
   clear f o q u r
   go_wp2_with fail
   exact bodyPost_ret (v:=.agg #[J Z x,J Z p]) (by simp [results,Tryz.results123,go_sem,I,G,y]) rfl ⟨by rw [C.out,A.out],by rw [l.out,i.out];exact ((((a.out.bad true).setN (zI.set ⟨_,_,g.out⟩ _ _ _)).setN (zI.set (zI.set ⟨_,_,g.out⟩ _ _ _) _ _ _)).alloc _),(((D.out.trans (a.out.setMv 2 _)).setNew (Nat.le_refl _) d _).setNew (Nat.le_refl _) d _).trans (Mv.alloc (((a.out.bad true).setN (zI.set ⟨_,_,g.out⟩ _ _ _)).setN (zI.set (zI.set ⟨_,_,g.out⟩ _ _ _) _ _ _)).bs _)⟩
  ·have q:YH s k b=true:=by rw [f];simp;omega
   have P:p<s.size:=o q
   rw [q] at u r
   have l:Hid _:=u.out
   have i:Hid _:=r.out
   clear f o q u r
   have Q:(p:Int)<2000:=by omega
   go_wp2_with fail
   exact bodyPost_ret (v:=.agg #[J Z x,J Z p]) (by simp [results,Tryz.results123,go_sem,I,G,y]) rfl ⟨by rw [C.out,A.out],by rw [l.out,i.out];exact ((((a.out.at (p+1) _ (by omega)).setN (zI.set ⟨_,_,g.out⟩ _ _ _)).setN (zI.set (zI.set ⟨_,_,g.out⟩ _ _ _) _ _ _)).alloc _),(((D.out.trans (a.out.setMv 1 _)).setNew (Nat.le_refl _) d _).setNew (Nat.le_refl _) d _).trans (Mv.alloc (((a.out.at (p+1) _ (by omega)).setN (zI.set ⟨_,_,g.out⟩ _ _ _)).setN (zI.set (zI.set ⟨_,_,g.out⟩ _ _ _) _ _ _)).bs _)⟩
end Go.Proofs.YtaebngpoagjafabGreat
