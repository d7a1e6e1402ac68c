import Derived.BigQuiet
import Derived.Deep.AppendLies
import Derived.Deep.DrawnRows
import Derived.Deep.LoopGhost
import Derived.Deep.QuietTactic
import Derived.Deep.RegionHeld3
import Derived.Deep.RegionLaw
import Derived.Deep.RegionWith
import Derived.Laws.ResultCell
import Derived.Laws.Tables
import Derived.Test.YtaebngpoagjafabGreatRows
import Derived.WalkKit
import Derived.WalkLawsBesides
import Derived.WalkSpells
set_option maxRecDepth 100000
set_option maxHeartbeats 3200000
namespace Go.Proofs.YtaebngpoagjafabGreat
open Obj renaming cells → Q
open Value renaming int → J, slice → O
open IntKind renaming i64 → Z
open Go.RowKit
attribute [local go_sem ↓] Go.wp_at_zero Go.wp_at_succ
namespace T
def ch (s:ByteArray) (k:Nat):Int:=if h:k<s.size then ((s[k]).toNat:Int) else -1
theorem ch_lt {s:ByteArray} {k:Nat} (h:k<s.size):ch s k=((s[k]).toNat:Int):=by unfold ch;rw [dif_pos h]
theorem ch_ge {s:ByteArray} {k:Nat} (h:¬ k<s.size):ch s k=-1:=by unfold ch;rw [dif_neg h]
theorem ch_bd {s:ByteArray} {k:Nat} (h:k<s.size):0<=ch s k/\ch s k<256:=by
 rw [ch_lt h];have:=(s[k]).toNat_lt;omega
theorem ch_lo (s:ByteArray) (k:Nat):-1<=ch s k/\ch s k<256:=by
 by_cases h:k<s.size
 ·have:=ch_bd h;omega
 ·rw [ch_ge h];omega
def bl (c:Int):Bool:=c==32 || c==10
def skF (s:ByteArray):Nat->Nat->Nat
 | 0,k=>k
 | n+1,k=>if bl (ch s k)=true then skF s n (k+1) else k
def sk (s:ByteArray) (k:Nat):Nat:=skF s (s.size-k) k
theorem bl_lt {s:ByteArray} {k:Nat} (h:bl (ch s k)=true):k<s.size:=by
 by_cases a:k<s.size
 ·exact a
 ·rw [ch_ge a] at h;simp [bl] at h
theorem sk_next {s:ByteArray} {k:Nat} (h:bl (ch s k)=true):sk s (k+1)=sk s k:=by
 have a:=bl_lt h
 unfold sk
 have e:s.size-k=(s.size-(k+1))+1:=by omega
 rw [e];simp only [skF];rw [if_pos h]
theorem sk_here {s:ByteArray} {k:Nat} (h:bl (ch s k)=false):sk s k=k:=by
 unfold sk
 cases e:s.size-k with
 | zero=>rfl
 | succ n=>simp only [skF];rw [if_neg (by rw [h];decide)]
theorem skF_ge (s:ByteArray) (n:Nat):∀ k,k<=skF s n k:=by
 induction n with
 | zero=>intro k;exact Nat.le_refl _
 | succ n ih =>
  intro k;simp only [skF];split
  ·have:=ih (k+1);omega
  ·exact Nat.le_refl _
theorem sk_ge (s:ByteArray) (k:Nat):k<=sk s k:=skF_ge s _ k
theorem skF_le (s:ByteArray) (n:Nat):∀ k,k<=s.size->skF s n k<=s.size:=by
 induction n with
 | zero=>intro k h;exact h
 | succ n ih =>
  intro k h;simp only [skF];split
  ·next hb=>exact ih (k+1) (by have:=bl_lt hb;omega)
  ·exact h
theorem sk_le {s:ByteArray} {k:Nat} (h:k<=s.size):sk s k<=s.size:=skF_le s _ k h
theorem skF_bl (s:ByteArray) (n:Nat):∀ k,s.size-k<=n->bl (ch s (skF s n k))=false:=by
 induction n with
 | zero =>
  intro k h
  cases hb:bl (ch s k) with
  | false=>exact hb
  | true=>have:=bl_lt hb;omega
 | succ n ih =>
  intro k h
  simp only [skF]
  split
  ·exact ih (k+1) (by omega)
  ·next hb=>simpa using hb
theorem sk_bl (s:ByteArray) (k:Nat):bl (ch s (sk s k))=false:=skF_bl s _ k (Nat.le_refl _)
end T
structure FR where
 sym:Int
 kind:Int
 depth:Int
 list:Int
structure SG where
 kind:Int
 place:Int
 depth:Int
 list:Int
 text:ByteArray
def frV (f:FR):List Value:=[J Z f.sym,J Z f.kind,J Z f.depth,J Z f.list]
def sgV (g:SG):List Value:=[J Z g.kind,J Z g.place,J Z g.depth,J Z g.list,.string g.text]
def frA (f:FR):Value:=.agg #[J Z f.sym,J Z f.kind,J Z f.depth,J Z f.list]
def frC:List FR->List Value
 | []=>[]
 | f::r=>frC r++frV f
def sgC:List SG->List Value
 | []=>[]
 | g::r=>sgC r++sgV g
theorem zam (l:List FR):(frC l).length=l.length*4:=by
 induction l with
 | nil=>rfl
 | cons f r ih=>simp [frC,frV,ih];omega
def Out (B:Nat) (sv gv:Value) (b:Nat):Prop:=b≠B/\sv.ownBlock≠some b/\gv.ownBlock≠some b
structure RS (w:World) (base B:Nat) (s:ByteArray) (k:Nat) (sv gv:Value) (fs:List FR) (gs:List SG):Prop where
 blk:w.heap[B]?=some (Q #[.string s,J Z k,sv,gv] 190 (0,0))
 st:w.ownsRow base 193 4 sv fs.length (frC fs)
 sg:w.ownsRow base 162 5 gv gs.length (sgC gs)
 hB:base<=B
structure Mv (base B:Nat) (sv gv sv' gv':Value) (w w':World):Prop where
 bel:Below base w w'
 kept:∀ b,b<w.heap.size->Out B sv gv b->w'.heap[b]?=w.heap[b]?/\Out B sv' gv' b
theorem Mv.refl (base B:Nat) (sv gv:Value) (w:World):Mv base B sv gv sv gv w w:=⟨Below.refl _ _,fun _ _ h=>⟨rfl,h⟩⟩
theorem Mv.trans {base B:Nat} {a b c d e f:Value} {w w1 w2:World} (h:Mv base B a b c d w w1) (k:Mv base B c d e f w1 w2):Mv base B a b e f w w2 :=
 ⟨h.bel.trans k.bel,fun x hx ho=>by
  obtain ⟨l,j⟩:=h.kept x hx ho
  obtain ⟨i,g⟩:=k.kept x (Nat.lt_of_lt_of_le hx h.bel.size) j
  exact ⟨i.trans l,g⟩⟩
theorem Mv.drewN {base B:Nat} {a b c d:Value} {w w1:World} (h:Mv base B a b c d w w1) (n:Nat):Mv base B a b c d w (w1.drewN n):=⟨⟨h.bel.os,h.bel.tape,h.bel.output,h.bel.size,h.bel.block⟩,h.kept⟩
theorem RS.drewN {w:World} {base B s k sv gv fs gs} (h:RS w base B s k sv gv fs gs) (n:Nat):RS (w.drewN n) base B s k sv gv fs gs:=⟨h.blk,h.st,h.sg,h.hB⟩
theorem RS.lt {w:World} {base B s k sv gv fs gs} (h:RS w base B s k sv gv fs gs):B<w.heap.size:=lt_of_block h.blk
theorem RS.c0 {w:World} {base B s k sv gv fs gs} (h:RS w base B s k sv gv fs gs):w.cell? ⟨B,0,none⟩=some (.string s):=by simp [World.cell?,h.blk]
theorem RS.c1 {w:World} {base B s k sv gv fs gs} (h:RS w base B s k sv gv fs gs):w.cell? ⟨B,1,none⟩=some (J Z k):=by simp [World.cell?,h.blk]
theorem RS.c2 {w:World} {base B s k sv gv fs gs} (h:RS w base B s k sv gv fs gs):w.cell? ⟨B,2,none⟩=some sv:=by simp [World.cell?,h.blk]
theorem RS.c3 {w:World} {base B s k sv gv fs gs} (h:RS w base B s k sv gv fs gs):w.cell? ⟨B,3,none⟩=some gv:=by simp [World.cell?,h.blk]
theorem RS.fz {w:World} {base B s k sv gv fs gs} (h:RS w base B s k sv gv fs gs) (j:Nat):w.frozen? ⟨B,j,none⟩=false:=by simp [World.frozen?,h.blk]
theorem zk {w:World} {base e size B:Nat} {v:Value} {n:Nat} {xs:List Value} {cs:Array Value} {t:TypeId} {fr:Nat×Nat} (h:w.ownsRow base e size v n xs) (hb:w.heap[B]?=some (Q cs t fr)) (hne:t≠e):v.ownBlock≠some B:=by
 rcases h.2 with ⟨rfl,_⟩ | ⟨g,cap,cur,rfl,_,hg,_⟩
 ·simp [Value.ownBlock]
 ·intro a
  simp [Value.ownBlock] at a
  subst a
  rw [hg] at hb
  simp at hb
  exact hne hb.2.1.symm
theorem RS.neS {w:World} {base B s k sv gv fs gs} (h:RS w base B s k sv gv fs gs):sv.ownBlock≠some B:=zk h.st h.blk (by decide)
theorem RS.neG {w:World} {base B s k sv gv fs gs} (h:RS w base B s k sv gv fs gs):gv.ownBlock≠some B:=zk h.sg h.blk (by decide)
theorem Xv {w:World} {B j:Nat} {a b c d u:Value} {t:TypeId} (h:w.heap[B]?=some (Q #[a,b,c,d] t (0,0))):(w.setCell ⟨B,j,none⟩ u).heap[B]?=some (Q (#[a,b,c,d].setIfInBounds j u) t (0,0)):=by
 simp [World.setCell,Array.getElem?_modify,h]
theorem za {w:World} {B j b:Nat} {u:Value} (h:b≠B):(w.setCell ⟨B,j,none⟩ u).heap[b]?=w.heap[b]?:=Below.heap_setCell w _ u b h
theorem RS.at {w:World} {base B s k sv gv fs gs} (h:RS w base B s k sv gv fs gs) (k':Nat) (x:Int) (hx:x=k'):RS (w.setCell ⟨B,1,none⟩ (J Z x)) base B s k' sv gv fs gs :=
 ⟨by rw [hx];exact Xv h.blk,ownsRow_setCell_other h.st h.neS _,ownsRow_setCell_other h.sg h.neG _,h.hB⟩
theorem RS.atMv {w:World} {base B s k sv gv fs gs} (h:RS w base B s k sv gv fs gs) (x:Value):Mv base B sv gv sv gv w (w.setCell ⟨B,1,none⟩ x) :=
 ⟨(Below.refl _ _).setCell h.hB _,fun _ _ ho=>⟨za ho.1,ho⟩⟩
theorem RS.alloc {w:World} {base B s k sv gv fs gs} (h:RS w base B s k sv gv fs gs) (o:Obj):RS (w.alloc o) base B s k sv gv fs gs :=
 ⟨by rw [Below.heap_alloc _ _ _ h.lt];exact h.blk,h.st.alloc o,h.sg.alloc o,h.hB⟩
theorem Mv.alloc {base B:Nat} {sv gv:Value} {w:World} (hb:base<=w.heap.size) (o:Obj):Mv base B sv gv sv gv w (w.alloc o) :=
 ⟨(Below.refl _ _).alloc hb o,fun _ hlt ho=>⟨Below.heap_alloc _ _ _ hlt,ho⟩⟩
theorem RS.outNew {w:World} {base B s k sv gv fs gs} (h:RS w base B s k sv gv fs gs):Out B sv gv w.heap.size :=
 ⟨fun e=>by have:=h.lt;omega,fun e=>by have:=(h.st.lt _ e).2;omega,fun e=>by have:=(h.sg.lt _ e).2;omega⟩
theorem RS.bs {w:World} {base B s k sv gv fs gs} (h:RS w base B s k sv gv fs gs):base<=w.heap.size:=Nat.le_trans h.hB (Nat.le_of_lt h.lt)
theorem ze4 {k:IntKind} {a b:Int} (h:a=b):Ending.returned (.int k a)=.returned (.int k b):=by rw [h]
theorem QM (c:Int) (w:World) :
 Calls Tryz.prog 139 #[J .u8 c] w fun e w'=>e=.returned (.bool (T.bl c))/\w'=w:=by
 cases h1:(c==32) with
 | true =>
  have a:T.bl c=true:=by simp [T.bl,h1]
  rw [a]
  go_enter Tryz.func139,Tryz.ntmps139
  go_wp2
  go_ret
  exact ⟨rfl,rfl⟩
 | false =>
  have a:T.bl c=(c==10):=by simp [T.bl,h1]
  rw [a]
  go_enter Tryz.func139,Tryz.ntmps139
  go_wp2
  go_ret
  exact ⟨rfl,rfl⟩
theorem Jc (b:Bool) (c:Int) (w:World) (h:T.bl c=b) :
 Calls Tryz.prog 139 #[J .u8 c] w fun e w'=>e=.returned (.bool b)/\w'=w:=by rw [<- h];exact QM c w
theorem zG (base B:Nat) (s:ByteArray) (k:Nat) (sv gv:Value) (fs:List FR) (gs:List SG) (w:World) (hs:s.size<=2000) (hk:k<=s.size) (h:RS w base B s k sv gv fs gs) :
 Calls Tryz.prog 135 #[.pointer (some ⟨B,0,none⟩)] w fun e w'=>e=.returned (J Z (T.ch s (T.sk s k)))/\RS w' base B s (T.sk s k) sv gv fs gs/\Mv base B sv gv sv gv w w':=by
 go_enter Tryz.func135,Tryz.ntmps135
 go_wp2
 go_loopg [24] (s.size-k) (fun n _ wr=>∃ j:Nat,k<=j/\j<=s.size/\n=s.size-j/\Hid (T.sk s j=T.sk s k)/\RS wr base B s j sv gv fs gs/\Mv base B sv gv sv gv w wr)
 case atStart=>exact ⟨k,Nat.le_refl _,hk,rfl,rfl,h,Mv.refl _ _ _ _ _⟩
 case round =>
  obtain ⟨j,v,x,p,d,g,q⟩:=hrel
  have c0:=g.c0
  have c1:=g.c1
  have E:=g.fz 1
  have i:Hid (RS wr base B s j sv gv fs gs):=g
  have o:Hid (Mv base B sv gv sv gv w wr):=q
  have C:Hid (gk=s.size-j):=p
  clear g q h p
  by_cases b:j<s.size
  ·have r:(j:Int)<(s.size:Int):=by omega
   have y:((s[j]).toNat:Int)=T.ch s j:=(T.ch_lt b).symm
   have m:=T.ch_bd b
   obtain ⟨A,z⟩:=m
   cases f:T.bl (T.ch s j) with
   | true =>
    have a:Hid (T.sk s (j+1)=T.sk s k):=(T.sk_next f).trans d.out
    go_wp2_with fail
    go_quiet ((go_at_call 139;exact Calls.quiet_of_same (Jc _ _ _ f)))
    go_wp2_with fail
    go_roundg (s.size-(j+1))
    case measure=>rw [C.out];omega
    case rel=>exact ⟨j+1,by omega,by omega,rfl,a,(i.out.drewN _).at (j+1) _ (by omega),(o.out.drewN _).trans ((i.out.drewN _).atMv _)⟩
   | false =>
    have a:Hid (T.sk s k=j):=d.out.symm.trans (T.sk_here f)
    have u:((j:Int)==(s.size:Int))=false:=by rw [beq_eq_false_iff_ne];omega
    go_wp2_with fail
    go_quiet ((go_at_call 139;exact Calls.quiet_of_same (Jc _ _ _ f)))
    go_wp2_with fail
    go_quiet (fail)
    go_wp2_with fail
    go_quiet (fail)
    go_wp2_with fail
    go_ret
    exact ⟨ze4 (by rw [a.out]),by rw [a.out];exact ((i.out.drewN _).drewN _).drewN _,((o.out.drewN _).drewN _).drewN _⟩
  ·have l:j=s.size:=by omega
   have f:T.bl (T.ch s j)=false:=by rw [T.ch_ge b];rfl
   have a:Hid (T.sk s k=j):=d.out.symm.trans (T.sk_here f)
   have D:Hid (T.ch s j=-1):=T.ch_ge b
   have G:decide ((j:Int)<(s.size:Int))=false:=decide_eq_false (by omega)
   have F:((j:Int)==(s.size:Int))=true:=by rw [beq_iff_eq];omega
   clear l f
   go_wp2_with fail
   go_quiet (fail)
   go_wp2_with fail
   go_quiet (fail)
   go_wp2_with fail
   go_ret
   exact ⟨ze4 (by rw [a.out,D.out]),by rw [a.out];exact (i.out.drewN _).drewN _,(o.out.drewN _).drewN _⟩
theorem Tryz.infoFrame:(Tryz.prog.info? 193).map (fun i=>(i.zero,i.size,i.bytes))=some (some (.agg #[J Z 0,J Z 0,J Z 0,J Z 0]),4,32):=by kernel_rfl
theorem Tryz.infoSign:(Tryz.prog.info? 162).map (fun i=>(i.zero,i.size,i.bytes))=some (some (.agg #[J Z 0,J Z 0,J Z 0,J Z 0,.string ByteArray.empty]),5,48):=by kernel_rfl
def LS (w:World) (b:Nat) (ls:List FR):Prop:=∀ i f,ls[i]?=some f->w.cell? ⟨b,i*4,none⟩=some (J Z f.sym)/\w.cell? ⟨b,i*4+1,none⟩=some (J Z f.kind)/\w.cell? ⟨b,i*4+2,none⟩=some (J Z f.depth)/\w.cell? ⟨b,i*4+3,none⟩=some (J Z f.list)
theorem LS.of_block {w w':World} {b:Nat} {ls:List FR} (h:LS w b ls) (e:w'.heap[b]?=w.heap[b]?):LS w' b ls:=fun i f hf=>by
 obtain ⟨j,g,d,a⟩:=h i f hf
 exact ⟨by rw [World.cell?_of_block (w:=w) e];exact j,by rw [World.cell?_of_block (w:=w) e];exact g,by rw [World.cell?_of_block (w:=w) e];exact d,by rw [World.cell?_of_block (w:=w) e];exact a⟩
theorem RS.pushed {w w1:World} {base B s k sv gv fs gs} (h:RS w base B s k sv gv fs gs) {o:Obj} {f:FR} {g cap m:Nat} (hm:m=fs.length+1)
 (hown:w1.ownsRow base 193 4 (O (some ⟨g,0,none⟩) m cap) m (frC fs++frV f)) (hg':(w.alloc o).drew.grownBy w1 sv.ownBlock) (hat:sv.ownBlock=some g\/g=w.heap.size+1) :
 RS (w1.setCell ⟨B,2,none⟩ (O (some ⟨g,0,none⟩) m cap)) base B s k (O (some ⟨g,0,none⟩) m cap) gv (f::fs) gs/\Mv base B sv gv (O (some ⟨g,0,none⟩) m cap) gv w (w1.setCell ⟨B,2,none⟩ (O (some ⟨g,0,none⟩) m cap)):=by
 have j:(w.alloc o).grownBy w1 sv.ownBlock:=⟨hg'.os,hg'.tape,hg'.output,hg'.size,hg'.block⟩
 have d:=h.alloc o
 have p:w1.heap[B]?=(w.alloc o).heap[B]?:=j.block B d.lt (fun e=>d.neS e.symm)
 have a:=p.trans d.blk
 have n:(O (some ⟨g,0,none⟩) m cap).ownBlock≠some B:=zk hown a (by decide)
 have i:w1.ownsRow base 162 5 gv gs.length (sgC gs):=d.sg.kept j (by
  rcases d.sg.2 with ⟨rfl,_⟩ | ⟨x,c,cur,rfl,_,hx,_⟩
  ·exact .inl rfl
  ·right
   intro e
   have:=zk d.st hx (by decide)
   exact this e.symm)
 refine ⟨⟨Xv a,?_,ownsRow_setCell_other i h.neG _,h.hB⟩,⟨?_,fun b hlt ho=>⟨?_,ho.1,?_,ho.2.2⟩⟩⟩
 ·subst hm;exact ownsRow_setCell_other hown n _
 ·have r:=j.size
  refine Below.setCell ?_ h.hB _
  exact ((Below.refl base w).alloc h.bs o).grown j (by have:=h.bs;simp;omega) (fun q hq=>(h.st.lt q hq).1)
 ·rw [za ho.1]
  have l:some b≠sv.ownBlock:=fun e=>ho.2.1 e.symm
  rw [j.block b (by simp;omega) l,Below.heap_alloc _ _ _ hlt]
 ·intro e
  simp [Value.ownBlock] at e
  rcases hat with h1 | h1
  ·exact ho.2.1 (by rw [h1,e])
  ·omega
theorem RS.grown2 {w w1:World} {base B s k sv gv fs gs} (h:RS w base B s k sv gv fs gs) {o:Obj} (hg':(w.alloc o).drew.grownBy w1 sv.ownBlock):w1.cell? ⟨B,2,none⟩=some sv/\w1.frozen? ⟨B,2,none⟩=false:=by
 have b:(w.alloc o).grownBy w1 sv.ownBlock:=⟨hg'.os,hg'.tape,hg'.output,hg'.size,hg'.block⟩
 have a:=h.alloc o
 have e:w1.heap[B]?=(w.alloc o).heap[B]?:=b.block B a.lt (fun e=>a.neS e.symm)
 exact ⟨by rw [World.cell?_of_block (w:=w.alloc o) e];exact a.c2,by rw [World.frozen?_of_block (w:=w.alloc o) e];exact a.fz 2⟩
theorem jJ (base B lb c:Nat) (s:ByteArray) (k:Nat) (sv gv:Value) (fs ls:List FR) (gs:List SG) (w:World) (h:RS w base B s k sv gv fs gs) (hl:LS w lb ls) (hlo:Out B sv gv lb) (hlt:lb<w.heap.size) (hlen:fs.length+ls.length<=1099511627776) :
 Calls Tryz.prog 133 #[.pointer (some ⟨B,0,none⟩),O (some ⟨lb,0,none⟩) ls.length c] w fun e w'=>e=.returned (.tuple #[])/\∃ sv',RS w' base B s k sv' gv (ls++fs) gs/\Mv base B sv gv sv' gv w w':=by
 obtain ⟨X,D,z,y,v⟩:=info_parts Tryz.infoFrame
 go_enter Tryz.func133,Tryz.ntmps133
 go_wp2
 go_loopg [4] ls.length (fun n x wr=>∃ sv',n<=ls.length/\x=J Z ((n:Int)-1)/\RS wr base B s k sv' gv (ls.drop n++fs) gs/\Mv base B sv gv sv' gv w wr)
 case atStart=>exact ⟨sv,Nat.le_refl _,rfl,by simpa using h,Mv.refl _ _ _ _ _⟩
 case round =>
  obtain ⟨sv',hn,rfl,j,q⟩:=hrel
  have i:Hid _:=j
  have S:Hid _:=q
  have c2:=j.c2
  have z2:=j.fz 2
  have C:=q.kept lb hlt hlo
  have N:Hid (LS wr lb ls):=hl.of_block C.1
  have P:Hid _:=C.2
  have R:lb<wr.heap.size:=Nat.lt_of_lt_of_le hlt q.bel.size
  have a0:B<wr.heap.size:=j.lt
  clear j q C hl h
  cases gk with
  | zero =>
   go_wp2_with fail
   go_end0
   exact ⟨rfl,sv',by simpa using i.out,S.out⟩
  | succ n =>
   have A:n<ls.length:=by omega
   obtain ⟨f,r⟩:∃ f,ls[n]?=some f:=⟨ls[n],List.getElem?_eq_getElem A⟩
   obtain ⟨U,q1,q2,q3⟩:=N.out n f r
   have HF:Hid _:=r
   have g:Hid (ls.drop n=f::ls.drop (n+1)):=by
    show _=_
    have:=List.getElem?_eq_some_iff.1 r
    obtain ⟨h1,h2⟩:=this
    rw [List.drop_eq_getElem_cons h1,h2]
   have e1:(((n+1:Nat):Int)-1)=(n:Int):=by omega
   have W:(0:Int)<=(n:Int):=by omega
   have V:(n:Int)<(ls.length:Int):=by omega
   have ag:sv'.ownBlock≠some B:=i.out.neS
   have al:sv'.ownBlock≠some lb:=P.out.2.1
   have e2:=World.new_ne wr _ c2
   have e3:=World.new_ne wr _ U
   have zf:∀ o,(wr.alloc o).frozen? ⟨B,2,none⟩=false:=fun o=>(i.out.alloc o).fz 2
   have Y:base<=wr.heap.size:=i.out.bs
   have d:(ls.drop (n+1)++fs).length+1<=1099511627776:=by simp;omega
   have H:Hid ((ls.drop (n+1)++fs).length+1<=maxLen):=by show _<=_;unfold maxLen;omega
   have G:Hid (((ls.drop (n+1)++fs).length+1)*32<=140737488355328):=by show _<=_;omega
   have l:Hid (∀ u∈frV f,u.oneCell'=true):=fun u hu=>by simp [frV] at hu;rcases hu with rfl | rfl | rfl | rfl<;>rfl
   have F:Hid (∀ o:Obj,base<=(wr.alloc o).drew.heap.size):=fun o=>by show base<=(wr.alloc o).heap.size;simp;omega
   clear d
   have L:Hid ((ls.drop (n+1)++fs).length+1=ls.length-(n+1)+fs.length+1):=by show _=_;simp
   clear r
   rw [e1]
   go_wp2_with fail
   go_region_law ((refine step_append_lies _ (by rfl) _ _ _ (by rfl) base 193 X _ 4 32 Tryz.underlying188 D z y v rfl (by omega) sv' _ _ (by rfl) ((i.out.st.alloc _).drew) ⟨wr.heap.size,0,none⟩ 1 1 (frV f) (by rfl) (by rfl) (World.news_of_block (cs:=#[J Z f.sym,J Z f.kind,J Z f.depth,J Z f.list]) (t:=193) (fr:=(0,0)) (heap_alloc_new wr _)) l.out (Nat.lt_succ_self 0) H.out G.out (F.out _) (wr.heap.size+1) (by simp) ?_;intro gg a1 w1 a b p Q;obtain ⟨y2,y3⟩:=i.out.grown2 b))
   all_goals
    rw [L.out] at a
    have E:=i.out.pushed (m:=ls.length-(n+1)+fs.length+1) (by simp) a b p
    have K:Hid _:=E.1
    have I:Hid _:=E.2
    clear E a b p
    go_wp2_with fail
    go_roundg n
    case measure=>omega
    case rel=>exact ⟨_,by omega,by go_num,by rw [g.out];exact K.out,S.out.trans I.out⟩
theorem zbQ (a b c d:Int) (s:ByteArray) (w:World):(Instr.build 162 #[(0,J Z a),(1,J Z b),(2,J Z c),(3,J Z d),(4,.string s)]).run Tryz.prog w=.ok (.agg #[J Z a,J Z b,J Z c,J Z d,.string s]) w:=run_build w 162 _ _ (by kernel_rfl)
theorem RS.signed {w w1:World} {base B s k sv gv fs gs} (h:RS w base B s k sv gv fs gs) {o:Obj} {x:SG} {g cap m:Nat} (hm:m=gs.length+1)
 (hown:w1.ownsRow base 162 5 (O (some ⟨g,0,none⟩) m cap) m (sgC gs++sgV x)) (hg':(w.alloc o).drew.grownBy w1 gv.ownBlock) (hat:gv.ownBlock=some g\/g=w.heap.size+1) :
 RS (w1.setCell ⟨B,3,none⟩ (O (some ⟨g,0,none⟩) m cap)) base B s k sv (O (some ⟨g,0,none⟩) m cap) fs (x::gs)/\Mv base B sv gv sv (O (some ⟨g,0,none⟩) m cap) w (w1.setCell ⟨B,3,none⟩ (O (some ⟨g,0,none⟩) m cap)):=by
 have i:(w.alloc o).grownBy w1 gv.ownBlock:=⟨hg'.os,hg'.tape,hg'.output,hg'.size,hg'.block⟩
 have d:=h.alloc o
 have n:w1.heap[B]?=(w.alloc o).heap[B]?:=i.block B d.lt (fun e=>d.neG e.symm)
 have a:=n.trans d.blk
 have l:(O (some ⟨g,0,none⟩) m cap).ownBlock≠some B:=zk hown a (by decide)
 have f:w1.ownsRow base 193 4 sv fs.length (frC fs):=d.st.kept i (by
  rcases d.st.2 with ⟨rfl,_⟩ | ⟨x,c,cur,rfl,_,hx,_⟩
  ·exact .inl rfl
  ·right
   intro e
   have:=zk d.sg hx (by decide)
   exact this e.symm)
 refine ⟨⟨Xv a,ownsRow_setCell_other f h.neS _,?_,h.hB⟩,⟨?_,fun b hlt ho=>⟨?_,ho.1,ho.2.1,?_⟩⟩⟩
 ·subst hm;exact ownsRow_setCell_other hown l _
 ·refine Below.setCell ?_ h.hB _
  exact ((Below.refl base w).alloc h.bs o).grown i (by have:=h.bs;simp;omega) (fun q hq=>(h.sg.lt q hq).1)
 ·rw [za ho.1]
  have j:some b≠gv.ownBlock:=fun e=>ho.2.2 e.symm
  rw [i.block b (by simp;omega) j,Below.heap_alloc _ _ _ hlt]
 ·intro e
  simp [Value.ownBlock] at e
  rcases hat with h1 | h1
  ·exact ho.2.2 (by rw [h1,e])
  ·omega
theorem RS.grown3 {w w1:World} {base B s k sv gv fs gs} (h:RS w base B s k sv gv fs gs) {o:Obj} (hg':(w.alloc o).drew.grownBy w1 gv.ownBlock):w1.cell? ⟨B,0,none⟩=some (.string s)/\w1.cell? ⟨B,1,none⟩=some (J Z k)/\w1.cell? ⟨B,3,none⟩=some gv/\w1.frozen? ⟨B,3,none⟩=false /\
 ∀ b j,b<w.heap.size->Out B sv gv b->w1.cell? ⟨b,j,none⟩=w.cell? ⟨b,j,none⟩:=by
 have d:(w.alloc o).grownBy w1 gv.ownBlock:=⟨hg'.os,hg'.tape,hg'.output,hg'.size,hg'.block⟩
 have a:=h.alloc o
 have e:w1.heap[B]?=(w.alloc o).heap[B]?:=d.block B a.lt (fun e=>a.neG e.symm)
 refine ⟨by rw [World.cell?_of_block (w:=w.alloc o) e];exact a.c0,by rw [World.cell?_of_block (w:=w.alloc o) e];exact a.c1,by rw [World.cell?_of_block (w:=w.alloc o) e];exact a.c3,by rw [World.frozen?_of_block (w:=w.alloc o) e];exact a.fz 3,fun b j hlt ho=>?_⟩
 have f:w1.heap[b]?=w.heap[b]?:=by rw [d.block b (by simp;omega) (fun e=>ho.2.2 e.symm),Below.heap_alloc _ _ _ hlt]
 exact World.cell?_of_block (w:=w) f
set_option linter.unusedSimpArgs false in
theorem Xb (base B:Nat) (s:ByteArray) (k p:Nat) (f:FR) (sv gv:Value) (fs:List FR) (gs:List SG) (w:World) (h:RS w base B s k sv gv fs gs) (hp:p<=k) (hk:k<=s.size) (hlen:gs.length+1<=1099511627776) :
 Calls Tryz.prog 166 #[.pointer (some ⟨B,0,none⟩),frA f,J Z p] w fun e w'=>e=.returned (.tuple #[])/\∃ gv',RS w' base B s k sv gv' fs ({ kind:=f.kind,place:=p,depth:=f.depth,list:=f.list,text:=s.extract p k }::gs)/\Mv base B sv gv sv gv' w w':=by
 obtain ⟨i0,P,L,I,H⟩:=info_parts Tryz.infoSign
 have a4:=fun w=>zbQ f.kind p f.depth f.list (s.extract p k) w
 have a2:(p:Int)<=(k:Int):=by omega
 have a3:(k:Int)<=(s.size:Int):=by omega
 unfold frA
 go_enter Tryz.func166,Tryz.ntmps166
 go_wp2_with fail
 have Y:=h.alloc (Q #[J Z f.sym,J Z f.kind,J Z f.depth,J Z f.list] 193)
 have b1:(w.alloc (Q #[J Z f.sym,J Z f.kind,J Z f.depth,J Z f.list] 193)).cell? ⟨w.heap.size,1,none⟩=some (J Z f.kind):=by simp
 have b2:(w.alloc (Q #[J Z f.sym,J Z f.kind,J Z f.depth,J Z f.list] 193)).cell? ⟨w.heap.size,2,none⟩=some (J Z f.depth):=by simp
 have b3:(w.alloc (Q #[J Z f.sym,J Z f.kind,J Z f.depth,J Z f.list] 193)).cell? ⟨w.heap.size,3,none⟩=some (J Z f.list):=by simp
 have N:=h.outNew
 have n:w.heap.size<(w.alloc (Q #[J Z f.sym,J Z f.kind,J Z f.depth,J Z f.list] 193)).heap.size:=by simp
 have O:Mv base B sv gv sv gv w (w.alloc (Q #[J Z f.sym,J Z f.kind,J Z f.depth,J Z f.list] 193)):=Mv.alloc h.bs _
 generalize w.alloc (Q #[J Z f.sym,J Z f.kind,J Z f.depth,J Z f.list] 193)=w1 at *
 have z:Hid _:=Y
 have HM:Hid _:=O
 have c0:=Y.c0
 have c1:=Y.c1
 have c3:=Y.c3
 clear h Y O
 refine wp_region_held_drew (S:=(fun w'=>w'.cell? ⟨B,0,none⟩=some (.string s)/\w'.cell? ⟨B,1,none⟩=some (J Z k)/\w'.cell? ⟨w.heap.size,1,none⟩=some (J Z f.kind)/\w'.cell? ⟨w.heap.size,2,none⟩=some (J Z f.depth)/\w'.cell? ⟨w.heap.size,3,none⟩=some (J Z f.list))) (by kernel_rfl) ⟨c0,c1,b1,b2,b3⟩ (fun hHeld=>?_)
 refine wpAnyH_take (i:=0) (v:=?v0) rfl (by kernel_rfl) (by kernel_rfl) (by kernel_rfl) (fun _ _ _ h=>h) (Or.inl ⟨by rfl,?y0⟩) (by assumption) ?r0
 case y0=>(intro g a;(try dsimp only at a);first | (go_simp;done) | (go_simp;with_reducible rfl))
 try simp only [Act.put,List.setIfInBounds_toArray,List.set_cons_zero,List.set_cons_succ]
 refine wpAnyH_take (i:=1) (v:=?v1) rfl (by kernel_rfl) (by kernel_rfl) (by kernel_rfl) (fun _ _ _ h=>h) (Or.inl ⟨by rfl,?y1⟩) (by assumption) ?r1
 case y1=>(intro g a;(try dsimp only at a);first | (go_simp;done) | (go_simp;with_reducible rfl))
 try simp only [Act.put,List.setIfInBounds_toArray,List.set_cons_zero,List.set_cons_succ]
 refine wpAnyH_take (i:=2) (v:=?v2) rfl (by kernel_rfl) (by kernel_rfl) (by kernel_rfl) (fun _ _ _ h=>h) (Or.inl ⟨by rfl,?y2⟩) (by assumption) ?r2
 case y2=>(intro g a;(try dsimp only at a);first | (go_simp;done) | (go_simp;with_reducible rfl))
 try simp only [Act.put,List.setIfInBounds_toArray,List.set_cons_zero,List.set_cons_succ]
 refine wpAnyH_take (i:=3) (v:=?v3) rfl (by kernel_rfl) (by kernel_rfl) (by kernel_rfl) (fun _ _ _ h=>h) (Or.inl ⟨by rfl,?y3⟩) (by assumption) ?r3
 case y3=>(intro g a;(try dsimp only at a);first | (go_simp;done) | (go_simp;with_reducible rfl))
 try simp only [Act.put,List.setIfInBounds_toArray,List.set_cons_zero,List.set_cons_succ]
 refine wpAnyH_take (i:=5) (v:=?v5) rfl (by kernel_rfl) (by kernel_rfl) (by kernel_rfl) (fun _ _ _ h=>h) (Or.inl ⟨by rfl,?y5⟩) (by assumption) ?r5
 case y5=>(intro g a;(try dsimp only at a);first | (go_simp;done) | (go_simp;with_reducible rfl))
 try simp only [Act.put,List.setIfInBounds_toArray,List.set_cons_zero,List.set_cons_succ]
 refine wpAnyH_take (i:=6) (v:=?v6) rfl (by kernel_rfl) (by kernel_rfl) (by kernel_rfl) (fun _ _ _ h=>h) (Or.inl ⟨by rfl,?y6⟩) (by assumption) ?r6
 case y6=>(intro g a;(try dsimp only at a);first | (go_simp;done) | (go_simp;with_reducible rfl))
 try simp only [Act.put,List.setIfInBounds_toArray,List.set_cons_zero,List.set_cons_succ]
 refine wpAnyH_take (i:=7) (v:=?v7) rfl (by kernel_rfl) (by kernel_rfl) (by kernel_rfl) (fun _ _ _ h=>h) (Or.inl ⟨by rfl,?y7⟩) (by assumption) ?r7
 case y7=>(intro g a;(try dsimp only at a);first | (go_simp;done) | (go_simp;with_reducible rfl))
 try simp only [Act.put,List.setIfInBounds_toArray,List.set_cons_zero,List.set_cons_succ]
 refine wpAnyH_take (i:=8) (v:=?v8) rfl (by kernel_rfl) (by kernel_rfl) (by kernel_rfl) (fun _ _ _ h=>h) (Or.inl ⟨by rfl,?y8⟩) (by assumption) ?r8
 case y8=>(intro g a;(try dsimp only at a);first | (go_simp;done) | (go_simp;with_reducible rfl))
 try simp only [Act.put,List.setIfInBounds_toArray,List.set_cons_zero,List.set_cons_succ]
 refine wpAnyH_take (i:=9) (v:=?v9) rfl (by kernel_rfl) (by kernel_rfl) (by kernel_rfl) (fun _ _ _ h=>h) (Or.inl ⟨by rfl,?y9⟩) (by assumption) ?r9
 case y9=>(intro g a;(try dsimp only at a);first | (go_simp;done) | (go_simp;with_reducible rfl))
 try simp only [Act.put,List.setIfInBounds_toArray,List.set_cons_zero,List.set_cons_succ]
 refine wpAnyH_take (i:=10) (v:=?v10) rfl (by kernel_rfl) (by kernel_rfl) (by kernel_rfl) (fun _ _ _ h=>h) (Or.inl ⟨by rfl,?y10⟩) (by assumption) ?r10
 case y10=>(intro g a;(try dsimp only at a);first | (go_simp;done) | (go_simp;with_reducible rfl))
 try simp only [Act.put,List.setIfInBounds_toArray,List.set_cons_zero,List.set_cons_succ]
 refine wpAnyH_take (i:=11) (v:=?v11) rfl (by kernel_rfl) (by kernel_rfl) (by kernel_rfl) (fun _ _ _ h=>h) (Or.inl ⟨by rfl,?y11⟩) (by assumption) ?r11
 case y11=>(intro g a;(try dsimp only at a);first | (go_simp;done) | (go_simp;with_reducible rfl))
 try simp only [Act.put,List.setIfInBounds_toArray,List.set_cons_zero,List.set_cons_succ]
 refine wpAnyH_take (i:=12) (v:=?v12) rfl (by kernel_rfl) (by kernel_rfl) (by kernel_rfl) (fun _ _ _ h=>h) (Or.inl ⟨by rfl,?y12⟩) (by assumption) ?r12
 case y12=>(intro g a;(try dsimp only at a);first | (go_simp;done) | (go_simp;with_reducible rfl))
 try simp only [Act.put,List.setIfInBounds_toArray,List.set_cons_zero,List.set_cons_succ]
 refine wpAnyH_take (i:=13) (v:=?v13) rfl (by kernel_rfl) (by kernel_rfl) (by kernel_rfl) (fun _ _ _ h=>h) (Or.inl ⟨by rfl,?y13⟩) (by assumption) ?r13
 case y13=>(intro g a;(try dsimp only at a);first | (go_simp;done) | (go_simp;with_reducible rfl))
 try simp only [Act.put,List.setIfInBounds_toArray,List.set_cons_zero,List.set_cons_succ]
 refine wpAnyH_take (i:=14) (v:=?v14) rfl (by kernel_rfl) (by kernel_rfl) (by kernel_rfl) (fun _ _ _ h=>h) (Or.inl ⟨by rfl,?y14⟩) (by assumption) ?r14
 case y14=>(intro g a;(try dsimp only at a);first | (go_simp;done) | (go_simp;with_reducible rfl))
 try simp only [Act.put,List.setIfInBounds_toArray,List.set_cons_zero,List.set_cons_succ]
 refine wpAnyH_take (i:=15) (v:=?v15) rfl (by kernel_rfl) (by kernel_rfl) (by kernel_rfl) (fun _ _ _ h=>h) (Or.inl ⟨by rfl,?y15⟩) (by assumption) ?r15
 case y15=>(intro g a;(try dsimp only at a);first | (go_simp;done) | (go_simp;with_reducible rfl))
 try simp only [Act.put,List.setIfInBounds_toArray,List.set_cons_zero,List.set_cons_succ]
 refine wpAnyH_take (i:=16) (v:=?v16) rfl (by kernel_rfl) (by kernel_rfl) (by kernel_rfl) (fun _ _ _ h=>h) (Or.inl ⟨by rfl,?y16⟩) (by assumption) ?r16
 case y16=>(intro g a;(try dsimp only at a);first | (go_simp;done) | (go_simp;with_reducible rfl))
 try simp only [Act.put,List.setIfInBounds_toArray,List.set_cons_zero,List.set_cons_succ]
 refine wpAnyH_take (i:=17) (v:=?v17) rfl (by kernel_rfl) (by kernel_rfl) (by kernel_rfl) (fun _ _ _ h=>h) (Or.inl ⟨by rfl,?y17⟩) (by assumption) ?r17
 case y17=>(intro g a;(try dsimp only at a);first | (go_simp;done) | (go_simp;with_reducible rfl))
 try simp only [Act.put,List.setIfInBounds_toArray,List.set_cons_zero,List.set_cons_succ]
 refine wpAnyH_take (i:=18) (v:=?v18) rfl (by kernel_rfl) (by kernel_rfl) (by kernel_rfl) (fun _ _ _ h=>h) (Or.inl ⟨by rfl,?y18⟩) (by assumption) ?r18
 case y18=>(intro g a;(try dsimp only at a);first | (go_simp;done) | (go_simp;with_reducible rfl))
 try simp only [Act.put,List.setIfInBounds_toArray,List.set_cons_zero,List.set_cons_succ]
 refine wpAnyH_take (i:=19) (v:=?v19) rfl (by kernel_rfl) (by kernel_rfl) (by kernel_rfl) (fun _ _ _ h=>h) (Or.inl ⟨by rfl,?y19⟩) (by assumption) ?r19
 case y19=>(intro g a;(try dsimp only at a);first | (go_simp;done) | (go_simp;with_reducible rfl))
 try simp only [Act.put,List.setIfInBounds_toArray,List.set_cons_zero,List.set_cons_succ]
 refine wpAnyH_take (i:=20) (v:=?v20) rfl (by kernel_rfl) (by kernel_rfl) (by kernel_rfl) (fun _ _ _ h=>h) (Or.inl ⟨by rfl,?y20⟩) (by assumption) ?r20
 case y20=>(intro g a;(try dsimp only at a);first | (go_simp;done) | (go_simp;with_reducible rfl))
 try simp only [Act.put,List.setIfInBounds_toArray,List.set_cons_zero,List.set_cons_succ]
 refine wpAnyH_take (i:=21) (v:=?v21) rfl (by kernel_rfl) (by kernel_rfl) (by kernel_rfl) (fun _ _ _ h=>h) (Or.inl ⟨by rfl,?y21⟩) (by assumption) ?r21
 case y21=>(intro g a;(try dsimp only at a);first | (go_simp;done) | (go_simp;with_reducible rfl))
 try simp only [Act.put,List.setIfInBounds_toArray,List.set_cons_zero,List.set_cons_succ]
 refine wpAnyH_take (i:=22) (v:=?v22) rfl (by kernel_rfl) (by kernel_rfl) (by kernel_rfl) (fun _ _ _ h=>h) (Or.inl ⟨by rfl,?y22⟩) (by assumption) ?r22
 case y22=>(intro g a;(try dsimp only at a);first | (go_simp;done) | (go_simp;with_reducible rfl))
 try simp only [Act.put,List.setIfInBounds_toArray,List.set_cons_zero,List.set_cons_succ]
 have l:Out B sv gv w.heap.size:=N
 have m:(⟨B,3,none⟩:Addr).block≠w.heap.size:=fun e=>N.1 e.symm
 have F:∀ o:Obj,(w1.alloc o).drew.cell? ⟨B,0,none⟩=some (.string s)/\(w1.alloc o).drew.cell? ⟨B,1,none⟩=some (J Z k)/\(w1.alloc o).drew.cell? ⟨w.heap.size,1,none⟩=some (J Z f.kind)/\(w1.alloc o).drew.cell? ⟨w.heap.size,2,none⟩=some (J Z f.depth)/\(w1.alloc o).drew.cell? ⟨w.heap.size,3,none⟩=some (J Z f.list):=fun o=>by
  have hb:Below w1.heap.size w1 (w1.alloc o):=(Below.refl _ _).alloc (Nat.le_refl _) o
  exact ⟨(z.out.alloc o).c0,(z.out.alloc o).c1,(hb.cell (p:=⟨w.heap.size,1,none⟩) n).trans b1,(hb.cell (p:=⟨w.heap.size,2,none⟩) n).trans b2,(hb.cell (p:=⟨w.heap.size,3,none⟩) n).trans b3⟩
 have V:Hid (gs.length+1<=maxLen):=by show _<=_;unfold maxLen;omega
 have U:Hid ((gs.length+1)*48<=140737488355328):=by show _<=_;omega
 have A:Hid (∀ u∈sgV ⟨f.kind,p,f.depth,f.list,s.extract p k⟩,u.oneCell'=true):=fun u hu=>by simp [sgV] at hu;rcases hu with rfl | rfl | rfl | rfl | rfl<;>rfl
 have R:Hid (∀ o:Obj,base<=(w1.alloc o).drew.heap.size):=fun o=>by have:=z.out.bs;show base<=(w1.alloc o).heap.size;simp;omega
 refine wpAnyH_ready (rs:=[4,23]) (by kernel_rfl) (by simp) ?_
 refine AllReadyH.cons rfl (fun K hK=>?_) ?_
 ·go_simp
  refine hK.out _ _ hHeld (fun hHeld=>?_)
  clear hK K
  refine wpAnyH_ready (rs:=[23]) (by kernel_rfl) (by simp) ?_
  refine AllReadyH.cons rfl (fun K hK=>?_) (fun j hj=>by cases hj)
  go_simp
  refine hK.out _ _ (F _) (fun hHeld=>?_)
  clear hK K
  refine wpAnyH_ready (rs:=[24]) (by kernel_rfl) (by simp) ?_
  refine AllReadyH.cons rfl (fun K hK=>?_) (fun j hj=>by cases hj)
  refine step_append_lies _ (by rfl) (.tmp 10) (.tmp 29) 157 (by rfl) base 162 i0 _ 5 48 Tryz.underlying157 P L I H rfl (by decide) gv _ _ (by rfl) ((z.out.sg.alloc _).drew) ⟨w1.heap.size,0,none⟩ 1 1 (sgV ⟨f.kind,p,f.depth,f.list,s.extract p k⟩) (by rfl) (by rfl) (World.news_of_block (cs:=#[J Z f.kind,J Z p,J Z f.depth,J Z f.list,.string (s.extract p k)]) (t:=162) (fr:=(0,0)) (heap_alloc_new w1 _)) A.out (Nat.lt_succ_self 0) V.out U.out (R.out _) (w1.heap.size+1) (by simp) ?_
  intro gg a1 w2 q b y a0
  obtain ⟨X,W,g3,gz,d⟩:=z.out.grown3 b
  have r:=z.out.signed rfl q b y
  have x:Hid _:=r.1
  have G:Hid _:=r.2
  have E:=(d w.heap.size 1 n l).trans b1
  have D:=(d w.heap.size 2 n l).trans b2
  have C:=(d w.heap.size 3 n l).trans b3
  clear r q b y d
  refine hK.out _ _ ⟨X,W,E,D,C⟩ (fun hHeld=>?_)
  clear hK K
  refine wpAnyH_take (i:=25) (v:=?v25) rfl (by kernel_rfl) (by kernel_rfl) (by kernel_rfl) (fun _ _ _ h=>h) (Or.inl ⟨by rfl,?y25⟩) (by assumption) ?r25
  case y25=>(intro g a;(try dsimp only at a);first | (go_simp;done) | (go_simp;with_reducible rfl))
  refine wpAnyH_take (i:=26) (v:=?v26) rfl (by kernel_rfl) (by kernel_rfl) (by kernel_rfl) (fun _ _ _ h=>h) (Or.inl ⟨by rfl,?y26⟩) (by assumption) ?r26
  case y26=>(intro g a;(try dsimp only at a);first | (go_simp;done) | (go_simp;with_reducible rfl))
  refine wpAnyH_ready (rs:=[27]) (by kernel_rfl) (by simp) ?_
  refine AllReadyH.cons rfl (fun K hK=>?_) (fun j hj=>by cases hj)
  go_simp
  refine hK.out _ _ ⟨by rw [x.out.c0],by rw [x.out.c1],?_,?_,?_⟩ (fun hHeld=>?_)
  ·rw [World.cell?_setCell_far _ _ _ _ m];exact E
  ·rw [World.cell?_setCell_far _ _ _ _ m];exact D
  ·rw [World.cell?_setCell_far _ _ _ _ m];exact C
  clear hK K
  refine wpAnyH_done (by kernel_rfl) ?_ _
  clear hHeld E D C X W g3 gz
  go_wp2_with fail
  go_end0
  exact ⟨rfl,_,x.out,HM.out.trans G.out⟩
 ·refine AllReadyH.cons rfl (fun K hK=>?_) (fun j hj=>by cases hj)
  go_simp
  refine hK.out _ _ (F _) (fun hHeld=>?_)
  clear hK K
  have a5:∀ o:Obj,(w1.alloc o).cell? ⟨B,3,none⟩=some gv:=fun o=>(z.out.alloc o).c3
  refine wpAnyH_ready (rs:=[4]) (by kernel_rfl) (by simp) ?_
  refine AllReadyH.cons rfl (fun K hK=>?_) (fun j hj=>by cases hj)
  go_simp
  refine hK.out _ _ (F _) (fun hHeld=>?_)
  clear hK K
  refine wpAnyH_ready (rs:=[24]) (by kernel_rfl) (by simp) ?_
  refine AllReadyH.cons rfl (fun K hK=>?_) (fun j hj=>by cases hj)
  refine step_append_lies _ (by rfl) (.tmp 10) (.tmp 29) 157 (by rfl) base 162 i0 _ 5 48 Tryz.underlying157 P L I H rfl (by decide) gv _ _ (by rfl) ((z.out.sg.alloc _).drew) ⟨w1.heap.size,0,none⟩ 1 1 (sgV ⟨f.kind,p,f.depth,f.list,s.extract p k⟩) (by rfl) (by rfl) (World.news_of_block (cs:=#[J Z f.kind,J Z p,J Z f.depth,J Z f.list,.string (s.extract p k)]) (t:=162) (fr:=(0,0)) (heap_alloc_new w1 _)) A.out (Nat.lt_succ_self 0) V.out U.out (R.out _) (w1.heap.size+1) (by simp) ?_
  intro gg a1 w2 q b y a0
  obtain ⟨X,W,g3,gz,d⟩:=z.out.grown3 b
  have r:=z.out.signed rfl q b y
  have x:Hid _:=r.1
  have G:Hid _:=r.2
  have E:=(d w.heap.size 1 n l).trans b1
  have D:=(d w.heap.size 2 n l).trans b2
  have C:=(d w.heap.size 3 n l).trans b3
  clear r q b y d
  refine hK.out _ _ ⟨X,W,E,D,C⟩ (fun hHeld=>?_)
  clear hK K
  refine wpAnyH_take (i:=25) (v:=?vb25) rfl (by kernel_rfl) (by kernel_rfl) (by kernel_rfl) (fun _ _ _ h=>h) (Or.inl ⟨by rfl,?yb25⟩) (by assumption) ?rb25
  case yb25=>(intro g a;(try dsimp only at a);first | (go_simp;done) | (go_simp;with_reducible rfl))
  refine wpAnyH_take (i:=26) (v:=?vb26) rfl (by kernel_rfl) (by kernel_rfl) (by kernel_rfl) (fun _ _ _ h=>h) (Or.inl ⟨by rfl,?yb26⟩) (by assumption) ?rb26
  case yb26=>(intro g a;(try dsimp only at a);first | (go_simp;done) | (go_simp;with_reducible rfl))
  refine wpAnyH_ready (rs:=[27]) (by kernel_rfl) (by simp) ?_
  refine AllReadyH.cons rfl (fun K hK=>?_) (fun j hj=>by cases hj)
  go_simp
  refine hK.out _ _ ⟨by rw [x.out.c0],by rw [x.out.c1],?_,?_,?_⟩ (fun hHeld=>?_)
  ·rw [World.cell?_setCell_far _ _ _ _ m];exact E
  ·rw [World.cell?_setCell_far _ _ _ _ m];exact D
  ·rw [World.cell?_setCell_far _ _ _ _ m];exact C
  clear hK K
  refine wpAnyH_done (by kernel_rfl) ?_ _
  clear hHeld E D C X W g3 gz
  go_wp2_with fail
  go_end0
  exact ⟨rfl,_,x.out,HM.out.trans G.out⟩
theorem xC (a:Int) (w:World):(Instr.build 193 #[(0,J Z a)]).run Tryz.prog w=.ok (.agg #[J Z a,J Z 0,J Z 0,J Z 0]) w:=run_build w 193 _ _ (by kernel_rfl)
theorem ZA (a b d:Int) (w:World):(Instr.build 193 #[(0,J Z a),(1,J Z b),(3,J Z d)]).run Tryz.prog w=.ok (.agg #[J Z a,J Z b,J Z 0,J Z d]) w:=run_build w 193 _ _ (by kernel_rfl)
theorem ZO (a c:Int) (w:World):(Instr.build 193 #[(0,J Z a),(2,J Z c)]).run Tryz.prog w=.ok (.agg #[J Z a,J Z 0,J Z c,J Z 0]) w:=run_build w 193 _ _ (by kernel_rfl)
theorem zas (a b c d:Int) (w:World):(Instr.build 193 #[(0,J Z a),(1,J Z b),(2,J Z c),(3,J Z d)]).run Tryz.prog w=.ok (.agg #[J Z a,J Z b,J Z c,J Z d]) w:=run_build w 193 _ _ (by kernel_rfl)
def byF (c:Int):FR:=⟨c,0,0,0⟩
theorem zD (c:Int) (w:World) (c0:0<=c) (c1:c<256) :
 Calls Tryz.prog 162 #[J .u8 c] w fun e w'=>e=.returned (.agg #[J Z c,J Z 0,J Z 0,J Z 0])/\w'=w.alloc (Q #[J Z c,J Z 0,J Z 0,J Z 0] 193):=by
 have a:=fun w=>xC c w
 go_enter Tryz.func162,Tryz.ntmps162
 go_wp2
 exact bodyPost_ret (v:=.agg #[J Z c,J Z 0,J Z 0,J Z 0]) (by simp [results,Tryz.results162,go_sem]) rfl ⟨rfl,by simp⟩
theorem yC (k d l:Int) (w:World) :
 Calls Tryz.prog 171 #[J Z k,J Z d,J Z l] w fun e w'=>e=.returned (O (some ⟨w.heap.size,0,none⟩) 2 2)/\w'=w.alloc (Q #[J Z 259,J Z k,J Z d,J Z l,J Z 260,J Z k,J Z d,J Z l] 193):=by
 have b:=fun w=>zas 259 k d l w
 have a:=fun w=>zas 260 k d l w
 go_enter Tryz.func171,Tryz.ntmps171
 go_wp2
 go_ret
 exact ⟨rfl,rfl⟩
def frL (ls:List FR):List Value:=ls.flatMap frV
theorem zew (ls:List FR):∀ (i:Nat) (f:FR) (j:Nat),ls[i]?=some f->j<4->(frL ls)[i*4+j]?=(frV f)[j]?:=by
 induction ls with
 | nil=>intro i f j h;simp at h
 | cons g r ih =>
  intro i f j h a
  simp only [frL,List.flatMap_cons]
  cases i with
  | zero =>
   simp at h
   subst h
   rw [Nat.zero_mul,Nat.zero_add,List.getElem?_append_left (by simp [frV];omega)]
  | succ i =>
   simp at h
   have:=ih i f j h a
   rw [List.getElem?_append_right (by simp [frV];omega)]
   have e:(i+1)*4+j-(frV g).length=i*4+j:=by simp [frV];omega
   rw [e];exact this
theorem LS.new (w:World) (C:Array Value) (ls:List FR) (h:C.toList=frL ls):LS (w.alloc (Q C 193)) w.heap.size ls:=by
 intro i f b
 have a:∀ j,j<4->(w.alloc (Q C 193)).cell? ⟨w.heap.size,i*4+j,none⟩=(frV f)[j]?:=fun j hj=>by
  rw [<- zew ls i f j b hj,<- h]
  rw [World.cell?_alloc_mark];simp
 exact ⟨a 0 (by omega),a 1 (by omega),a 2 (by omega),a 3 (by omega)⟩
theorem zcp (base B c:Nat) (s:ByteArray) (k:Nat) (sv gv:Value) (fs ls:List FR) (gs:List SG) (C:Array Value) (w:World) (h:RS w base B s k sv gv fs gs) (hC:C.toList=frL ls) (hlen:fs.length+ls.length<=1099511627776) (n:Nat) (hn:n=ls.length) :
 Calls Tryz.prog 133 #[.pointer (some ⟨B,0,none⟩),O (some ⟨w.heap.size,0,none⟩) n c] (w.alloc (Q C 193)) fun e w'=>e=.returned (.tuple #[])/\∃ sv',RS w' base B s k sv' gv (ls++fs) gs/\Mv base B sv gv sv' gv w w':=by
 subst hn
 refine (jJ base B w.heap.size c s k sv gv fs ls gs _ (h.alloc _) (LS.new w C ls hC) h.outNew (by simp) hlen).mono ?_
 rintro e w' ⟨d,sv',a,b⟩
 exact ⟨d,sv',a,(Mv.alloc h.bs _).trans b⟩
theorem RS.drew {w:World} {base B s k sv gv fs gs} (h:RS w base B s k sv gv fs gs):RS w.drew base B s k sv gv fs gs:=⟨h.blk,h.st,h.sg,h.hB⟩
theorem Mv.drew {base B:Nat} {a b c d:Value} {w w1:World} (h:Mv base B a b c d w w1):Mv base B a b c d w w1.drew:=⟨h.bel.drew,h.kept⟩
theorem yJ (base B lb c:Nat) (s:ByteArray) (k:Nat) (sv gv:Value) (fs ls:List FR) (gs:List SG) (C:Array Value) (w:World) (h:RS w base B s k sv gv fs gs) (hlb:lb=w.heap.size) (hC:C.toList=frL ls) (hlen:fs.length+ls.length<=1099511627776) (n:Nat) (hn:n=ls.length) :
 Calls Tryz.prog 133 #[.pointer (some ⟨B,0,none⟩),O (some ⟨lb,0,none⟩) n c] (w.alloc (Q C 193)).drew fun e w'=>e=.returned (.tuple #[])/\∃ sv',RS w' base B s k sv' gv (ls++fs) gs/\Mv base B sv gv sv' gv w w':=by
 subst hlb
 subst hn
 have d:LS (w.alloc (Q C 193)).drew w.heap.size ls:=LS.new w C ls hC
 refine (jJ base B w.heap.size c s k sv gv fs ls gs _ (h.alloc _).drew d h.outNew (by simp) hlen).mono ?_
 rintro e w' ⟨f,sv',a,b⟩
 exact ⟨f,sv',a,((Mv.alloc h.bs _).drew).trans b⟩
theorem Z0 (base B lb c:Nat) (s:ByteArray) (k:Nat) (sv gv:Value) (fs ls:List FR) (gs:List SG) (C:Array Value) (w:World) (h:RS w base B s k sv gv fs gs) (hlb:lb=w.heap.size) (hC:C.toList=frL ls) (hlen:fs.length+ls.length<=1099511627776) (n:Nat) (hn:n=ls.length) :
 Calls Tryz.prog 133 #[.pointer (some ⟨B,0,none⟩),O (some ⟨lb,0,none⟩) n c] (w.alloc (Q C 193)) fun e w'=>e=.returned (.tuple #[])/\∃ sv',RS w' base B s k sv' gv (ls++fs) gs/\Mv base B sv gv sv' gv w w':=by
 subst hlb
 exact zcp base B c s k sv gv fs ls gs C w h hC hlen n hn
def Zy (f:FR):List FR :=
 if f.kind=10 then [⟨261,4,0,f.list⟩,byF 42,⟨261,5,0,-1⟩]
 else if f.kind=9 then [⟨262,9,0,f.list⟩,byF 58,⟨258,0,f.depth+1,0⟩]
 else if f.kind=7 then [⟨261,7,0,f.list⟩,byF 58,⟨258,0,f.depth+1,0⟩]
 else [⟨261,4,0,f.list⟩]
end Go.Proofs.YtaebngpoagjafabGreat
