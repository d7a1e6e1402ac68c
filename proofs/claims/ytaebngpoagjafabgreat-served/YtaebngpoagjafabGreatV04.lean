import Derived.BigQuiet
import Derived.Deep.AppendLies
import Derived.Deep.DrawnRows
import Derived.Deep.LoopGhost
import Derived.Deep.QuietTactic
import Derived.Deep.RegionHeld3
import Derived.Deep.RegionLaw
import Derived.Deep.RegionWith
import Derived.Laws.ResultCell
import Derived.Laws.Tables
import Derived.Test.YtaebngpoagjafabGreatRows
import Derived.WalkKit
import Derived.WalkLawsBesides
import Derived.WalkSpells
set_option maxRecDepth 100000
set_option maxHeartbeats 3200000
namespace Go.Proofs.YtaebngpoagjafabGreat
open Obj renaming cells → Q
open Value renaming int → J, slice → O
open IntKind renaming i64 → Z
open Go.RowKit
attribute [local go_sem ↓] Go.wp_at_zero Go.wp_at_succ
namespace T
def ch (s:ByteArray) (k:Nat):Int:=if h:k<s.size then ((s[k]).toNat:Int) else -1
theorem ch_lt {s:ByteArray} {k:Nat} (h:k<s.size):ch s k=((s[k]).toNat:Int):=by unfold ch;rw [dif_pos h]
theorem ch_ge {s:ByteArray} {k:Nat} (h:¬ k<s.size):ch s k=-1:=by unfold ch;rw [dif_neg h]
theorem ch_bd {s:ByteArray} {k:Nat} (h:k<s.size):0<=ch s k/\ch s k<256:=by
 rw [ch_lt h];have:=(s[k]).toNat_lt;omega
theorem ch_lo (s:ByteArray) (k:Nat):-1<=ch s k/\ch s k<256:=by
 by_cases h:k<s.size
 ·have:=ch_bd h;omega
 ·rw [ch_ge h];omega
def bl (c:Int):Bool:=c==32 || c==10
def skF (s:ByteArray):Nat->Nat->Nat
 | 0,k=>k
 | n+1,k=>if bl (ch s k)=true then skF s n (k+1) else k
def sk (s:ByteArray) (k:Nat):Nat:=skF s (s.size-k) k
theorem bl_lt {s:ByteArray} {k:Nat} (h:bl (ch s k)=true):k<s.size:=by
 by_cases hk:k<s.size
 ·exact hk
 ·rw [ch_ge hk] at h;simp [bl] at h
theorem sk_next {s:ByteArray} {k:Nat} (h:bl (ch s k)=true):sk s (k+1)=sk s k:=by
 have hk:=bl_lt h
 unfold sk
 have e:s.size-k=(s.size-(k+1))+1:=by omega
 rw [e];simp only [skF];rw [if_pos h]
theorem sk_here {s:ByteArray} {k:Nat} (h:bl (ch s k)=false):sk s k=k:=by
 unfold sk
 cases e:s.size-k with
 | zero=>rfl
 | succ n=>simp only [skF];rw [if_neg (by rw [h];decide)]
theorem skF_ge (s:ByteArray) (n:Nat):∀ k,k<=skF s n k:=by
 induction n with
 | zero=>intro k;exact Nat.le_refl _
 | succ n ih =>
  intro k;simp only [skF];split
  ·have:=ih (k+1);omega
  ·exact Nat.le_refl _
theorem sk_ge (s:ByteArray) (k:Nat):k<=sk s k:=skF_ge s _ k
theorem skF_le (s:ByteArray) (n:Nat):∀ k,k<=s.size->skF s n k<=s.size:=by
 induction n with
 | zero=>intro k h;exact h
 | succ n ih =>
  intro k h;simp only [skF];split
  ·next hb=>exact ih (k+1) (by have:=bl_lt hb;omega)
  ·exact h
theorem sk_le {s:ByteArray} {k:Nat} (h:k<=s.size):sk s k<=s.size:=skF_le s _ k h
theorem skF_bl (s:ByteArray) (n:Nat):∀ k,s.size-k<=n->bl (ch s (skF s n k))=false:=by
 induction n with
 | zero =>
  intro k h
  cases hb:bl (ch s k) with
  | false=>exact hb
  | true=>have:=bl_lt hb;omega
 | succ n ih =>
  intro k h
  simp only [skF]
  split
  ·exact ih (k+1) (by omega)
  ·next hb=>simpa using hb
theorem sk_bl (s:ByteArray) (k:Nat):bl (ch s (sk s k))=false:=skF_bl s _ k (Nat.le_refl _)
end T
structure FR where
 sym:Int
 kind:Int
 depth:Int
 list:Int
structure SG where
 kind:Int
 place:Int
 depth:Int
 list:Int
 text:ByteArray
def frV (f:FR):List Value:=[J Z f.sym,J Z f.kind,J Z f.depth,J Z f.list]
def sgV (g:SG):List Value:=[J Z g.kind,J Z g.place,J Z g.depth,J Z g.list,.string g.text]
def frA (f:FR):Value:=.agg #[J Z f.sym,J Z f.kind,J Z f.depth,J Z f.list]
def frC:List FR->List Value
 | []=>[]
 | f::r=>frC r++frV f
def sgC:List SG->List Value
 | []=>[]
 | g::r=>sgC r++sgV g
theorem Je (l:List FR):(frC l).length=l.length*4:=by
 induction l with
 | nil=>rfl
 | cons f r ih=>simp [frC,frV,ih];omega
def Out (B:Nat) (sv gv:Value) (b:Nat):Prop:=b≠B/\sv.ownBlock≠some b/\gv.ownBlock≠some b
structure RS (w:World) (base B:Nat) (s:ByteArray) (k:Nat) (sv gv:Value) (fs:List FR) (gs:List SG):Prop where
 blk:w.heap[B]?=some (Q #[.string s,J Z k,sv,gv] 190 (0,0))
 st:w.ownsRow base 193 4 sv fs.length (frC fs)
 sg:w.ownsRow base 162 5 gv gs.length (sgC gs)
 hB:base<=B
structure Mv (base B:Nat) (sv gv sv' gv':Value) (w w':World):Prop where
 bel:Below base w w'
 kept:∀ b,b<w.heap.size->Out B sv gv b->w'.heap[b]?=w.heap[b]?/\Out B sv' gv' b
theorem Mv.refl (base B:Nat) (sv gv:Value) (w:World):Mv base B sv gv sv gv w w:=⟨Below.refl _ _,fun _ _ h=>⟨rfl,h⟩⟩
theorem Mv.trans {base B:Nat} {a b c d e f:Value} {w w1 w2:World} (h:Mv base B a b c d w w1) (k:Mv base B c d e f w1 w2):Mv base B a b e f w w2 :=
 ⟨h.bel.trans k.bel,fun x hx ho=>by
  obtain ⟨h1,h2⟩:=h.kept x hx ho
  obtain ⟨k1,k2⟩:=k.kept x (Nat.lt_of_lt_of_le hx h.bel.size) h2
  exact ⟨k1.trans h1,k2⟩⟩
theorem Mv.drewN {base B:Nat} {a b c d:Value} {w w1:World} (h:Mv base B a b c d w w1) (n:Nat):Mv base B a b c d w (w1.drewN n):=⟨⟨h.bel.os,h.bel.tape,h.bel.output,h.bel.size,h.bel.block⟩,h.kept⟩
theorem RS.drewN {w:World} {base B s k sv gv fs gs} (h:RS w base B s k sv gv fs gs) (n:Nat):RS (w.drewN n) base B s k sv gv fs gs:=⟨h.blk,h.st,h.sg,h.hB⟩
theorem RS.lt {w:World} {base B s k sv gv fs gs} (h:RS w base B s k sv gv fs gs):B<w.heap.size:=lt_of_block h.blk
theorem RS.c0 {w:World} {base B s k sv gv fs gs} (h:RS w base B s k sv gv fs gs):w.cell? ⟨B,0,none⟩=some (.string s):=by simp [World.cell?,h.blk]
theorem RS.c1 {w:World} {base B s k sv gv fs gs} (h:RS w base B s k sv gv fs gs):w.cell? ⟨B,1,none⟩=some (J Z k):=by simp [World.cell?,h.blk]
theorem RS.c2 {w:World} {base B s k sv gv fs gs} (h:RS w base B s k sv gv fs gs):w.cell? ⟨B,2,none⟩=some sv:=by simp [World.cell?,h.blk]
theorem RS.c3 {w:World} {base B s k sv gv fs gs} (h:RS w base B s k sv gv fs gs):w.cell? ⟨B,3,none⟩=some gv:=by simp [World.cell?,h.blk]
theorem RS.fz {w:World} {base B s k sv gv fs gs} (h:RS w base B s k sv gv fs gs) (j:Nat):w.frozen? ⟨B,j,none⟩=false:=by simp [World.frozen?,h.blk]
theorem zs {w:World} {base e size B:Nat} {v:Value} {n:Nat} {xs:List Value} {cs:Array Value} {t:TypeId} {fr:Nat×Nat} (h:w.ownsRow base e size v n xs) (hb:w.heap[B]?=some (Q cs t fr)) (hne:t≠e):v.ownBlock≠some B:=by
 rcases h.2 with ⟨rfl,_⟩ | ⟨g,cap,cur,rfl,_,hg,_⟩
 ·simp [Value.ownBlock]
 ·intro he
  simp [Value.ownBlock] at he
  subst he
  rw [hg] at hb
  simp at hb
  exact hne hb.2.1.symm
theorem RS.neS {w:World} {base B s k sv gv fs gs} (h:RS w base B s k sv gv fs gs):sv.ownBlock≠some B:=zs h.st h.blk (by decide)
theorem RS.neG {w:World} {base B s k sv gv fs gs} (h:RS w base B s k sv gv fs gs):gv.ownBlock≠some B:=zs h.sg h.blk (by decide)
theorem xP {w:World} {B j:Nat} {a b c d u:Value} {t:TypeId} (h:w.heap[B]?=some (Q #[a,b,c,d] t (0,0))):(w.setCell ⟨B,j,none⟩ u).heap[B]?=some (Q (#[a,b,c,d].setIfInBounds j u) t (0,0)):=by
 simp [World.setCell,Array.getElem?_modify,h]
theorem za {w:World} {B j b:Nat} {u:Value} (h:b≠B):(w.setCell ⟨B,j,none⟩ u).heap[b]?=w.heap[b]?:=Below.heap_setCell w _ u b h
theorem RS.at {w:World} {base B s k sv gv fs gs} (h:RS w base B s k sv gv fs gs) (k':Nat) (x:Int) (hx:x=k'):RS (w.setCell ⟨B,1,none⟩ (J Z x)) base B s k' sv gv fs gs :=
 ⟨by rw [hx];exact xP h.blk,ownsRow_setCell_other h.st h.neS _,ownsRow_setCell_other h.sg h.neG _,h.hB⟩
theorem RS.atMv {w:World} {base B s k sv gv fs gs} (h:RS w base B s k sv gv fs gs) (x:Value):Mv base B sv gv sv gv w (w.setCell ⟨B,1,none⟩ x) :=
 ⟨(Below.refl _ _).setCell h.hB _,fun _ _ ho=>⟨za ho.1,ho⟩⟩
theorem RS.alloc {w:World} {base B s k sv gv fs gs} (h:RS w base B s k sv gv fs gs) (o:Obj):RS (w.alloc o) base B s k sv gv fs gs :=
 ⟨by rw [Below.heap_alloc _ _ _ h.lt];exact h.blk,h.st.alloc o,h.sg.alloc o,h.hB⟩
theorem Mv.alloc {base B:Nat} {sv gv:Value} {w:World} (hb:base<=w.heap.size) (o:Obj):Mv base B sv gv sv gv w (w.alloc o) :=
 ⟨(Below.refl _ _).alloc hb o,fun _ hlt ho=>⟨Below.heap_alloc _ _ _ hlt,ho⟩⟩
theorem RS.outNew {w:World} {base B s k sv gv fs gs} (h:RS w base B s k sv gv fs gs):Out B sv gv w.heap.size :=
 ⟨fun e=>by have:=h.lt;omega,fun e=>by have:=(h.st.lt _ e).2;omega,fun e=>by have:=(h.sg.lt _ e).2;omega⟩
theorem RS.bs {w:World} {base B s k sv gv fs gs} (h:RS w base B s k sv gv fs gs):base<=w.heap.size:=Nat.le_trans h.hB (Nat.le_of_lt h.lt)
theorem zc9 {k:IntKind} {a b:Int} (h:a=b):Ending.returned (.int k a)=.returned (.int k b):=by rw [h]
theorem qD (c:Int) (w:World) :
 Calls Tryz.prog 139 #[J .u8 c] w fun e w'=>e=.returned (.bool (T.bl c))/\w'=w:=by
 cases h1:(c==32) with
 | true =>
  have hr:T.bl c=true:=by simp [T.bl,h1]
  rw [hr]
  go_enter Tryz.func139,Tryz.ntmps139
  go_wp2
  go_ret
  exact ⟨rfl,rfl⟩
 | false =>
  have hr:T.bl c=(c==10):=by simp [T.bl,h1]
  rw [hr]
  go_enter Tryz.func139,Tryz.ntmps139
  go_wp2
  go_ret
  exact ⟨rfl,rfl⟩
theorem QX (b:Bool) (c:Int) (w:World) (h:T.bl c=b) :
 Calls Tryz.prog 139 #[J .u8 c] w fun e w'=>e=.returned (.bool b)/\w'=w:=by rw [<- h];exact qD c w
theorem zF (base B:Nat) (s:ByteArray) (k:Nat) (sv gv:Value) (fs:List FR) (gs:List SG) (w:World) (hs:s.size<=2000) (hk:k<=s.size) (h:RS w base B s k sv gv fs gs) :
 Calls Tryz.prog 135 #[.pointer (some ⟨B,0,none⟩)] w fun e w'=>e=.returned (J Z (T.ch s (T.sk s k)))/\RS w' base B s (T.sk s k) sv gv fs gs/\Mv base B sv gv sv gv w w':=by
 go_enter Tryz.func135,Tryz.ntmps135
 go_wp2
 go_loopg [24] (s.size-k) (fun n _ wr=>∃ j:Nat,k<=j/\j<=s.size/\n=s.size-j/\Hid (T.sk s j=T.sk s k)/\RS wr base B s j sv gv fs gs/\Mv base B sv gv sv gv w wr)
 case atStart=>exact ⟨k,Nat.le_refl _,hk,rfl,rfl,h,Mv.refl _ _ _ _ _⟩
 case round =>
  obtain ⟨j,hkj,hjs,hn,hsk,hr,hm⟩:=hrel
  have c0:=hr.c0
  have c1:=hr.c1
  have z1:=hr.fz 1
  have HR:Hid (RS wr base B s j sv gv fs gs):=hr
  have HM:Hid (Mv base B sv gv sv gv w wr):=hm
  have HN:Hid (gk=s.size-j):=hn
  clear hr hm h hn
  by_cases hlt:j<s.size
  ·have hlt':(j:Int)<(s.size:Int):=by omega
   have hch:((s[j]).toNat:Int)=T.ch s j:=(T.ch_lt hlt).symm
   have hcb:=T.ch_bd hlt
   obtain ⟨cb0,cb1⟩:=hcb
   cases hb:T.bl (T.ch s j) with
   | true =>
    have HSK:Hid (T.sk s (j+1)=T.sk s k):=(T.sk_next hb).trans hsk.out
    go_wp2_with fail
    go_quiet ((go_at_call 139;exact Calls.quiet_of_same (QX _ _ _ hb)))
    go_wp2_with fail
    go_roundg (s.size-(j+1))
    case measure=>rw [HN.out];omega
    case rel=>exact ⟨j+1,by omega,by omega,rfl,HSK,(HR.out.drewN _).at (j+1) _ (by omega),(HM.out.drewN _).trans ((HR.out.drewN _).atMv _)⟩
   | false =>
    have HSK:Hid (T.sk s k=j):=hsk.out.symm.trans (T.sk_here hb)
    have hne:((j:Int)==(s.size:Int))=false:=by rw [beq_eq_false_iff_ne];omega
    go_wp2_with fail
    go_quiet ((go_at_call 139;exact Calls.quiet_of_same (QX _ _ _ hb)))
    go_wp2_with fail
    go_quiet (fail)
    go_wp2_with fail
    go_quiet (fail)
    go_wp2_with fail
    go_ret
    exact ⟨zc9 (by rw [HSK.out]),by rw [HSK.out];exact ((HR.out.drewN _).drewN _).drewN _,((HM.out.drewN _).drewN _).drewN _⟩
  ·have hje:j=s.size:=by omega
   have hb:T.bl (T.ch s j)=false:=by rw [T.ch_ge hlt];rfl
   have HSK:Hid (T.sk s k=j):=hsk.out.symm.trans (T.sk_here hb)
   have HC:Hid (T.ch s j=-1):=T.ch_ge hlt
   have hd:decide ((j:Int)<(s.size:Int))=false:=decide_eq_false (by omega)
   have he:((j:Int)==(s.size:Int))=true:=by rw [beq_iff_eq];omega
   clear hje hb
   go_wp2_with fail
   go_quiet (fail)
   go_wp2_with fail
   go_quiet (fail)
   go_wp2_with fail
   go_ret
   exact ⟨zc9 (by rw [HSK.out,HC.out]),by rw [HSK.out];exact (HR.out.drewN _).drewN _,(HM.out.drewN _).drewN _⟩
theorem Tryz.infoFrame:(Tryz.prog.info? 193).map (fun i=>(i.zero,i.size,i.bytes))=some (some (.agg #[J Z 0,J Z 0,J Z 0,J Z 0]),4,32):=by kernel_rfl
theorem Tryz.infoSign:(Tryz.prog.info? 162).map (fun i=>(i.zero,i.size,i.bytes))=some (some (.agg #[J Z 0,J Z 0,J Z 0,J Z 0,.string ByteArray.empty]),5,48):=by kernel_rfl
def LS (w:World) (b:Nat) (ls:List FR):Prop:=∀ i f,ls[i]?=some f->w.cell? ⟨b,i*4,none⟩=some (J Z f.sym)/\w.cell? ⟨b,i*4+1,none⟩=some (J Z f.kind)/\w.cell? ⟨b,i*4+2,none⟩=some (J Z f.depth)/\w.cell? ⟨b,i*4+3,none⟩=some (J Z f.list)
theorem LS.of_block {w w':World} {b:Nat} {ls:List FR} (h:LS w b ls) (e:w'.heap[b]?=w.heap[b]?):LS w' b ls:=fun i f hf=>by
 obtain ⟨h0,h1,h2,h3⟩:=h i f hf
 exact ⟨by rw [World.cell?_of_block (w:=w) e];exact h0,by rw [World.cell?_of_block (w:=w) e];exact h1,by rw [World.cell?_of_block (w:=w) e];exact h2,by rw [World.cell?_of_block (w:=w) e];exact h3⟩
theorem RS.pushed {w w1:World} {base B s k sv gv fs gs} (h:RS w base B s k sv gv fs gs) {o:Obj} {f:FR} {g cap m:Nat} (hm:m=fs.length+1)
 (hown:w1.ownsRow base 193 4 (O (some ⟨g,0,none⟩) m cap) m (frC fs++frV f)) (hg':(w.alloc o).drew.grownBy w1 sv.ownBlock) (hat:sv.ownBlock=some g\/g=w.heap.size+1) :
 RS (w1.setCell ⟨B,2,none⟩ (O (some ⟨g,0,none⟩) m cap)) base B s k (O (some ⟨g,0,none⟩) m cap) gv (f::fs) gs/\Mv base B sv gv (O (some ⟨g,0,none⟩) m cap) gv w (w1.setCell ⟨B,2,none⟩ (O (some ⟨g,0,none⟩) m cap)):=by
 have hg:(w.alloc o).grownBy w1 sv.ownBlock:=⟨hg'.os,hg'.tape,hg'.output,hg'.size,hg'.block⟩
 have hA:=h.alloc o
 have hb:w1.heap[B]?=(w.alloc o).heap[B]?:=hg.block B hA.lt (fun e=>hA.neS e.symm)
 have hblk:=hb.trans hA.blk
 have hgB:(O (some ⟨g,0,none⟩) m cap).ownBlock≠some B:=zs hown hblk (by decide)
 have hsg1:w1.ownsRow base 162 5 gv gs.length (sgC gs):=hA.sg.kept hg (by
  rcases hA.sg.2 with ⟨rfl,_⟩ | ⟨x,c,cur,rfl,_,hx,_⟩
  ·exact .inl rfl
  ·right
   intro e
   have:=zs hA.st hx (by decide)
   exact this e.symm)
 refine ⟨⟨xP hblk,?_,ownsRow_setCell_other hsg1 h.neG _,h.hB⟩,⟨?_,fun b hlt ho=>⟨?_,ho.1,?_,ho.2.2⟩⟩⟩
 ·subst hm;exact ownsRow_setCell_other hown hgB _
 ·have hz:=hg.size
  refine Below.setCell ?_ h.hB _
  exact ((Below.refl base w).alloc h.bs o).grown hg (by have:=h.bs;simp;omega) (fun q hq=>(h.st.lt q hq).1)
 ·rw [za ho.1]
  have hne:some b≠sv.ownBlock:=fun e=>ho.2.1 e.symm
  rw [hg.block b (by simp;omega) hne,Below.heap_alloc _ _ _ hlt]
 ·intro e
  simp [Value.ownBlock] at e
  rcases hat with h1 | h1
  ·exact ho.2.1 (by rw [h1,e])
  ·omega
theorem RS.grown2 {w w1:World} {base B s k sv gv fs gs} (h:RS w base B s k sv gv fs gs) {o:Obj} (hg':(w.alloc o).drew.grownBy w1 sv.ownBlock):w1.cell? ⟨B,2,none⟩=some sv/\w1.frozen? ⟨B,2,none⟩=false:=by
 have hg:(w.alloc o).grownBy w1 sv.ownBlock:=⟨hg'.os,hg'.tape,hg'.output,hg'.size,hg'.block⟩
 have hA:=h.alloc o
 have e:w1.heap[B]?=(w.alloc o).heap[B]?:=hg.block B hA.lt (fun e=>hA.neS e.symm)
 exact ⟨by rw [World.cell?_of_block (w:=w.alloc o) e];exact hA.c2,by rw [World.frozen?_of_block (w:=w.alloc o) e];exact hA.fz 2⟩
theorem Qz (base B lb c:Nat) (s:ByteArray) (k:Nat) (sv gv:Value) (fs ls:List FR) (gs:List SG) (w:World) (h:RS w base B s k sv gv fs gs) (hl:LS w lb ls) (hlo:Out B sv gv lb) (hlt:lb<w.heap.size) (hlen:fs.length+ls.length<=1099511627776) :
 Calls Tryz.prog 133 #[.pointer (some ⟨B,0,none⟩),O (some ⟨lb,0,none⟩) ls.length c] w fun e w'=>e=.returned (.tuple #[])/\∃ sv',RS w' base B s k sv' gv (ls++fs) gs/\Mv base B sv gv sv' gv w w':=by
 obtain ⟨i0,hi0,hz0,hz1,hz2⟩:=info_parts Tryz.infoFrame
 go_enter Tryz.func133,Tryz.ntmps133
 go_wp2
 go_loopg [4] ls.length (fun n x wr=>∃ sv',n<=ls.length/\x=J Z ((n:Int)-1)/\RS wr base B s k sv' gv (ls.drop n++fs) gs/\Mv base B sv gv sv' gv w wr)
 case atStart=>exact ⟨sv,Nat.le_refl _,rfl,by simpa using h,Mv.refl _ _ _ _ _⟩
 case round =>
  obtain ⟨sv',hn,rfl,hr,hm⟩:=hrel
  have HR:Hid _:=hr
  have HM:Hid _:=hm
  have c2:=hr.c2
  have z2:=hr.fz 2
  have hk:=hm.kept lb hlt hlo
  have HLS:Hid (LS wr lb ls):=hl.of_block hk.1
  have HLO:Hid _:=hk.2
  have hlbw:lb<wr.heap.size:=Nat.lt_of_lt_of_le hlt hm.bel.size
  have hBw:B<wr.heap.size:=hr.lt
  clear hr hm hk hl h
  cases gk with
  | zero =>
   go_wp2_with fail
   go_end0
   exact ⟨rfl,sv',by simpa using HR.out,HM.out⟩
  | succ n =>
   have hnl:n<ls.length:=by omega
   obtain ⟨f,hf⟩:∃ f,ls[n]?=some f:=⟨ls[n],List.getElem?_eq_getElem hnl⟩
   obtain ⟨q0,q1,q2,q3⟩:=HLS.out n f hf
   have HF:Hid _:=hf
   have hdrop:Hid (ls.drop n=f::ls.drop (n+1)):=by
    show _=_
    have:=List.getElem?_eq_some_iff.1 hf
    obtain ⟨h1,h2⟩:=this
    rw [List.drop_eq_getElem_cons h1,h2]
   have e1:(((n+1:Nat):Int)-1)=(n:Int):=by omega
   have i0':(0:Int)<=(n:Int):=by omega
   have i1':(n:Int)<(ls.length:Int):=by omega
   have ag:sv'.ownBlock≠some B:=HR.out.neS
   have al:sv'.ownBlock≠some lb:=HLO.out.2.1
   have e2:=World.new_ne wr _ c2
   have e3:=World.new_ne wr _ q0
   have zf:∀ o,(wr.alloc o).frozen? ⟨B,2,none⟩=false:=fun o=>(HR.out.alloc o).fz 2
   have hbs:base<=wr.heap.size:=HR.out.bs
   have hlen2:(ls.drop (n+1)++fs).length+1<=1099511627776:=by simp;omega
   have hA1:Hid ((ls.drop (n+1)++fs).length+1<=maxLen):=by show _<=_;unfold maxLen;omega
   have hA2:Hid (((ls.drop (n+1)++fs).length+1)*32<=140737488355328):=by show _<=_;omega
   have hone:Hid (∀ u∈frV f,u.oneCell'=true):=fun u hu=>by simp [frV] at hu;rcases hu with rfl | rfl | rfl | rfl<;>rfl
   have hA3:Hid (∀ o:Obj,base<=(wr.alloc o).drew.heap.size):=fun o=>by show base<=(wr.alloc o).heap.size;simp;omega
   clear hlen2
   have HML:Hid ((ls.drop (n+1)++fs).length+1=ls.length-(n+1)+fs.length+1):=by show _=_;simp
   clear hf
   rw [e1]
   go_wp2_with fail
   go_region_law ((refine step_append_lies _ (by rfl) _ _ _ (by rfl) base 193 i0 _ 4 32 Tryz.underlying188 hi0 hz0 hz1 hz2 rfl (by omega) sv' _ _ (by rfl) ((HR.out.st.alloc _).drew) ⟨wr.heap.size,0,none⟩ 1 1 (frV f) (by rfl) (by rfl) (World.news_of_block (cs:=#[J Z f.sym,J Z f.kind,J Z f.depth,J Z f.list]) (t:=193) (fr:=(0,0)) (heap_alloc_new wr _)) hone.out (Nat.lt_succ_self 0) hA1.out hA2.out (hA3.out _) (wr.heap.size+1) (by simp) ?_;intro gg cap w1 hown1 hgrow hat hlt1;obtain ⟨y2,y3⟩:=HR.out.grown2 hgrow))
   all_goals
    rw [HML.out] at hown1
    have hP:=HR.out.pushed (m:=ls.length-(n+1)+fs.length+1) (by simp) hown1 hgrow hat
    have HP1:Hid _:=hP.1
    have HP2:Hid _:=hP.2
    clear hP hown1 hgrow hat
    go_wp2_with fail
    go_roundg n
    case measure=>omega
    case rel=>exact ⟨_,by omega,by go_num,by rw [hdrop.out];exact HP1.out,HM.out.trans HP2.out⟩
theorem zao (a b c d:Int) (s:ByteArray) (w:World):(Instr.build 162 #[(0,J Z a),(1,J Z b),(2,J Z c),(3,J Z d),(4,.string s)]).run Tryz.prog w=.ok (.agg #[J Z a,J Z b,J Z c,J Z d,.string s]) w:=run_build w 162 _ _ (by kernel_rfl)
theorem RS.signed {w w1:World} {base B s k sv gv fs gs} (h:RS w base B s k sv gv fs gs) {o:Obj} {x:SG} {g cap m:Nat} (hm:m=gs.length+1)
 (hown:w1.ownsRow base 162 5 (O (some ⟨g,0,none⟩) m cap) m (sgC gs++sgV x)) (hg':(w.alloc o).drew.grownBy w1 gv.ownBlock) (hat:gv.ownBlock=some g\/g=w.heap.size+1) :
 RS (w1.setCell ⟨B,3,none⟩ (O (some ⟨g,0,none⟩) m cap)) base B s k sv (O (some ⟨g,0,none⟩) m cap) fs (x::gs)/\Mv base B sv gv sv (O (some ⟨g,0,none⟩) m cap) w (w1.setCell ⟨B,3,none⟩ (O (some ⟨g,0,none⟩) m cap)):=by
 have hg:(w.alloc o).grownBy w1 gv.ownBlock:=⟨hg'.os,hg'.tape,hg'.output,hg'.size,hg'.block⟩
 have hA:=h.alloc o
 have hb:w1.heap[B]?=(w.alloc o).heap[B]?:=hg.block B hA.lt (fun e=>hA.neG e.symm)
 have hblk:=hb.trans hA.blk
 have hgB:(O (some ⟨g,0,none⟩) m cap).ownBlock≠some B:=zs hown hblk (by decide)
 have hst1:w1.ownsRow base 193 4 sv fs.length (frC fs):=hA.st.kept hg (by
  rcases hA.st.2 with ⟨rfl,_⟩ | ⟨x,c,cur,rfl,_,hx,_⟩
  ·exact .inl rfl
  ·right
   intro e
   have:=zs hA.sg hx (by decide)
   exact this e.symm)
 refine ⟨⟨xP hblk,ownsRow_setCell_other hst1 h.neS _,?_,h.hB⟩,⟨?_,fun b hlt ho=>⟨?_,ho.1,ho.2.1,?_⟩⟩⟩
 ·subst hm;exact ownsRow_setCell_other hown hgB _
 ·refine Below.setCell ?_ h.hB _
  exact ((Below.refl base w).alloc h.bs o).grown hg (by have:=h.bs;simp;omega) (fun q hq=>(h.sg.lt q hq).1)
 ·rw [za ho.1]
  have hne:some b≠gv.ownBlock:=fun e=>ho.2.2 e.symm
  rw [hg.block b (by simp;omega) hne,Below.heap_alloc _ _ _ hlt]
 ·intro e
  simp [Value.ownBlock] at e
  rcases hat with h1 | h1
  ·exact ho.2.2 (by rw [h1,e])
  ·omega
theorem RS.grown3 {w w1:World} {base B s k sv gv fs gs} (h:RS w base B s k sv gv fs gs) {o:Obj} (hg':(w.alloc o).drew.grownBy w1 gv.ownBlock):w1.cell? ⟨B,0,none⟩=some (.string s)/\w1.cell? ⟨B,1,none⟩=some (J Z k)/\w1.cell? ⟨B,3,none⟩=some gv/\w1.frozen? ⟨B,3,none⟩=false /\
 ∀ b j,b<w.heap.size->Out B sv gv b->w1.cell? ⟨b,j,none⟩=w.cell? ⟨b,j,none⟩:=by
 have hg:(w.alloc o).grownBy w1 gv.ownBlock:=⟨hg'.os,hg'.tape,hg'.output,hg'.size,hg'.block⟩
 have hA:=h.alloc o
 have e:w1.heap[B]?=(w.alloc o).heap[B]?:=hg.block B hA.lt (fun e=>hA.neG e.symm)
 refine ⟨by rw [World.cell?_of_block (w:=w.alloc o) e];exact hA.c0,by rw [World.cell?_of_block (w:=w.alloc o) e];exact hA.c1,by rw [World.cell?_of_block (w:=w.alloc o) e];exact hA.c3,by rw [World.frozen?_of_block (w:=w.alloc o) e];exact hA.fz 3,fun b j hlt ho=>?_⟩
 have e2:w1.heap[b]?=w.heap[b]?:=by rw [hg.block b (by simp;omega) (fun e=>ho.2.2 e.symm),Below.heap_alloc _ _ _ hlt]
 exact World.cell?_of_block (w:=w) e2
set_option linter.unusedSimpArgs false in
theorem xp (base B:Nat) (s:ByteArray) (k p:Nat) (f:FR) (sv gv:Value) (fs:List FR) (gs:List SG) (w:World) (h:RS w base B s k sv gv fs gs) (hp:p<=k) (hk:k<=s.size) (hlen:gs.length+1<=1099511627776) :
 Calls Tryz.prog 166 #[.pointer (some ⟨B,0,none⟩),frA f,J Z p] w fun e w'=>e=.returned (.tuple #[])/\∃ gv',RS w' base B s k sv gv' fs ({ kind:=f.kind,place:=p,depth:=f.depth,list:=f.list,text:=s.extract p k }::gs)/\Mv base B sv gv sv gv' w w':=by
 obtain ⟨i0,hi0,hz0,hz1,hz2⟩:=info_parts Tryz.infoSign
 have hbd:=fun w=>zao f.kind p f.depth f.list (s.extract p k) w
 have hpk:(p:Int)<=(k:Int):=by omega
 have hks:(k:Int)<=(s.size:Int):=by omega
 unfold frA
 go_enter Tryz.func166,Tryz.ntmps166
 go_wp2_with fail
 have HA:=h.alloc (Q #[J Z f.sym,J Z f.kind,J Z f.depth,J Z f.list] 193)
 have b1:(w.alloc (Q #[J Z f.sym,J Z f.kind,J Z f.depth,J Z f.list] 193)).cell? ⟨w.heap.size,1,none⟩=some (J Z f.kind):=by simp
 have b2:(w.alloc (Q #[J Z f.sym,J Z f.kind,J Z f.depth,J Z f.list] 193)).cell? ⟨w.heap.size,2,none⟩=some (J Z f.depth):=by simp
 have b3:(w.alloc (Q #[J Z f.sym,J Z f.kind,J Z f.depth,J Z f.list] 193)).cell? ⟨w.heap.size,3,none⟩=some (J Z f.list):=by simp
 have hou:=h.outNew
 have hwl:w.heap.size<(w.alloc (Q #[J Z f.sym,J Z f.kind,J Z f.depth,J Z f.list] 193)).heap.size:=by simp
 have hmv:Mv base B sv gv sv gv w (w.alloc (Q #[J Z f.sym,J Z f.kind,J Z f.depth,J Z f.list] 193)):=Mv.alloc h.bs _
 generalize w.alloc (Q #[J Z f.sym,J Z f.kind,J Z f.depth,J Z f.list] 193)=w1 at *
 have HR:Hid _:=HA
 have HM:Hid _:=hmv
 have c0:=HA.c0
 have c1:=HA.c1
 have c3:=HA.c3
 clear h HA hmv
 refine wp_region_held_drew (S:=(fun w'=>w'.cell? ⟨B,0,none⟩=some (.string s)/\w'.cell? ⟨B,1,none⟩=some (J Z k)/\w'.cell? ⟨w.heap.size,1,none⟩=some (J Z f.kind)/\w'.cell? ⟨w.heap.size,2,none⟩=some (J Z f.depth)/\w'.cell? ⟨w.heap.size,3,none⟩=some (J Z f.list))) (by kernel_rfl) ⟨c0,c1,b1,b2,b3⟩ (fun hHeld=>?_)
 refine wpAnyH_take (i:=0) (v:=?v0) rfl (by kernel_rfl) (by kernel_rfl) (by kernel_rfl) (fun _ _ _ h=>h) (Or.inl ⟨by rfl,?y0⟩) (by assumption) ?r0
 case y0=>(intro wz hSw;(try dsimp only at hSw);first | (go_simp;done) | (go_simp;with_reducible rfl))
 try simp only [Act.put,List.setIfInBounds_toArray,List.set_cons_zero,List.set_cons_succ]
 refine wpAnyH_take (i:=1) (v:=?v1) rfl (by kernel_rfl) (by kernel_rfl) (by kernel_rfl) (fun _ _ _ h=>h) (Or.inl ⟨by rfl,?y1⟩) (by assumption) ?r1
 case y1=>(intro wz hSw;(try dsimp only at hSw);first | (go_simp;done) | (go_simp;with_reducible rfl))
 try simp only [Act.put,List.setIfInBounds_toArray,List.set_cons_zero,List.set_cons_succ]
 refine wpAnyH_take (i:=2) (v:=?v2) rfl (by kernel_rfl) (by kernel_rfl) (by kernel_rfl) (fun _ _ _ h=>h) (Or.inl ⟨by rfl,?y2⟩) (by assumption) ?r2
 case y2=>(intro wz hSw;(try dsimp only at hSw);first | (go_simp;done) | (go_simp;with_reducible rfl))
 try simp only [Act.put,List.setIfInBounds_toArray,List.set_cons_zero,List.set_cons_succ]
 refine wpAnyH_take (i:=3) (v:=?v3) rfl (by kernel_rfl) (by kernel_rfl) (by kernel_rfl) (fun _ _ _ h=>h) (Or.inl ⟨by rfl,?y3⟩) (by assumption) ?r3
 case y3=>(intro wz hSw;(try dsimp only at hSw);first | (go_simp;done) | (go_simp;with_reducible rfl))
 try simp only [Act.put,List.setIfInBounds_toArray,List.set_cons_zero,List.set_cons_succ]
 refine wpAnyH_take (i:=5) (v:=?v5) rfl (by kernel_rfl) (by kernel_rfl) (by kernel_rfl) (fun _ _ _ h=>h) (Or.inl ⟨by rfl,?y5⟩) (by assumption) ?r5
 case y5=>(intro wz hSw;(try dsimp only at hSw);first | (go_simp;done) | (go_simp;with_reducible rfl))
 try simp only [Act.put,List.setIfInBounds_toArray,List.set_cons_zero,List.set_cons_succ]
 refine wpAnyH_take (i:=6) (v:=?v6) rfl (by kernel_rfl) (by kernel_rfl) (by kernel_rfl) (fun _ _ _ h=>h) (Or.inl ⟨by rfl,?y6⟩) (by assumption) ?r6
 case y6=>(intro wz hSw;(try dsimp only at hSw);first | (go_simp;done) | (go_simp;with_reducible rfl))
 try simp only [Act.put,List.setIfInBounds_toArray,List.set_cons_zero,List.set_cons_succ]
 refine wpAnyH_take (i:=7) (v:=?v7) rfl (by kernel_rfl) (by kernel_rfl) (by kernel_rfl) (fun _ _ _ h=>h) (Or.inl ⟨by rfl,?y7⟩) (by assumption) ?r7
 case y7=>(intro wz hSw;(try dsimp only at hSw);first | (go_simp;done) | (go_simp;with_reducible rfl))
 try simp only [Act.put,List.setIfInBounds_toArray,List.set_cons_zero,List.set_cons_succ]
 refine wpAnyH_take (i:=8) (v:=?v8) rfl (by kernel_rfl) (by kernel_rfl) (by kernel_rfl) (fun _ _ _ h=>h) (Or.inl ⟨by rfl,?y8⟩) (by assumption) ?r8
 case y8=>(intro wz hSw;(try dsimp only at hSw);first | (go_simp;done) | (go_simp;with_reducible rfl))
 try simp only [Act.put,List.setIfInBounds_toArray,List.set_cons_zero,List.set_cons_succ]
 refine wpAnyH_take (i:=9) (v:=?v9) rfl (by kernel_rfl) (by kernel_rfl) (by kernel_rfl) (fun _ _ _ h=>h) (Or.inl ⟨by rfl,?y9⟩) (by assumption) ?r9
 case y9=>(intro wz hSw;(try dsimp only at hSw);first | (go_simp;done) | (go_simp;with_reducible rfl))
 try simp only [Act.put,List.setIfInBounds_toArray,List.set_cons_zero,List.set_cons_succ]
 refine wpAnyH_take (i:=10) (v:=?v10) rfl (by kernel_rfl) (by kernel_rfl) (by kernel_rfl) (fun _ _ _ h=>h) (Or.inl ⟨by rfl,?y10⟩) (by assumption) ?r10
 case y10=>(intro wz hSw;(try dsimp only at hSw);first | (go_simp;done) | (go_simp;with_reducible rfl))
 try simp only [Act.put,List.setIfInBounds_toArray,List.set_cons_zero,List.set_cons_succ]
 refine wpAnyH_take (i:=11) (v:=?v11) rfl (by kernel_rfl) (by kernel_rfl) (by kernel_rfl) (fun _ _ _ h=>h) (Or.inl ⟨by rfl,?y11⟩) (by assumption) ?r11
 case y11=>(intro wz hSw;(try dsimp only at hSw);first | (go_simp;done) | (go_simp;with_reducible rfl))
 try simp only [Act.put,List.setIfInBounds_toArray,List.set_cons_zero,List.set_cons_succ]
 refine wpAnyH_take (i:=12) (v:=?v12) rfl (by kernel_rfl) (by kernel_rfl) (by kernel_rfl) (fun _ _ _ h=>h) (Or.inl ⟨by rfl,?y12⟩) (by assumption) ?r12
 case y12=>(intro wz hSw;(try dsimp only at hSw);first | (go_simp;done) | (go_simp;with_reducible rfl))
 try simp only [Act.put,List.setIfInBounds_toArray,List.set_cons_zero,List.set_cons_succ]
 refine wpAnyH_take (i:=13) (v:=?v13) rfl (by kernel_rfl) (by kernel_rfl) (by kernel_rfl) (fun _ _ _ h=>h) (Or.inl ⟨by rfl,?y13⟩) (by assumption) ?r13
 case y13=>(intro wz hSw;(try dsimp only at hSw);first | (go_simp;done) | (go_simp;with_reducible rfl))
 try simp only [Act.put,List.setIfInBounds_toArray,List.set_cons_zero,List.set_cons_succ]
 refine wpAnyH_take (i:=14) (v:=?v14) rfl (by kernel_rfl) (by kernel_rfl) (by kernel_rfl) (fun _ _ _ h=>h) (Or.inl ⟨by rfl,?y14⟩) (by assumption) ?r14
 case y14=>(intro wz hSw;(try dsimp only at hSw);first | (go_simp;done) | (go_simp;with_reducible rfl))
 try simp only [Act.put,List.setIfInBounds_toArray,List.set_cons_zero,List.set_cons_succ]
 refine wpAnyH_take (i:=15) (v:=?v15) rfl (by kernel_rfl) (by kernel_rfl) (by kernel_rfl) (fun _ _ _ h=>h) (Or.inl ⟨by rfl,?y15⟩) (by assumption) ?r15
 case y15=>(intro wz hSw;(try dsimp only at hSw);first | (go_simp;done) | (go_simp;with_reducible rfl))
 try simp only [Act.put,List.setIfInBounds_toArray,List.set_cons_zero,List.set_cons_succ]
 refine wpAnyH_take (i:=16) (v:=?v16) rfl (by kernel_rfl) (by kernel_rfl) (by kernel_rfl) (fun _ _ _ h=>h) (Or.inl ⟨by rfl,?y16⟩) (by assumption) ?r16
 case y16=>(intro wz hSw;(try dsimp only at hSw);first | (go_simp;done) | (go_simp;with_reducible rfl))
 try simp only [Act.put,List.setIfInBounds_toArray,List.set_cons_zero,List.set_cons_succ]
 refine wpAnyH_take (i:=17) (v:=?v17) rfl (by kernel_rfl) (by kernel_rfl) (by kernel_rfl) (fun _ _ _ h=>h) (Or.inl ⟨by rfl,?y17⟩) (by assumption) ?r17
 case y17=>(intro wz hSw;(try dsimp only at hSw);first | (go_simp;done) | (go_simp;with_reducible rfl))
 try simp only [Act.put,List.setIfInBounds_toArray,List.set_cons_zero,List.set_cons_succ]
 refine wpAnyH_take (i:=18) (v:=?v18) rfl (by kernel_rfl) (by kernel_rfl) (by kernel_rfl) (fun _ _ _ h=>h) (Or.inl ⟨by rfl,?y18⟩) (by assumption) ?r18
 case y18=>(intro wz hSw;(try dsimp only at hSw);first | (go_simp;done) | (go_simp;with_reducible rfl))
 try simp only [Act.put,List.setIfInBounds_toArray,List.set_cons_zero,List.set_cons_succ]
 refine wpAnyH_take (i:=19) (v:=?v19) rfl (by kernel_rfl) (by kernel_rfl) (by kernel_rfl) (fun _ _ _ h=>h) (Or.inl ⟨by rfl,?y19⟩) (by assumption) ?r19
 case y19=>(intro wz hSw;(try dsimp only at hSw);first | (go_simp;done) | (go_simp;with_reducible rfl))
 try simp only [Act.put,List.setIfInBounds_toArray,List.set_cons_zero,List.set_cons_succ]
 refine wpAnyH_take (i:=20) (v:=?v20) rfl (by kernel_rfl) (by kernel_rfl) (by kernel_rfl) (fun _ _ _ h=>h) (Or.inl ⟨by rfl,?y20⟩) (by assumption) ?r20
 case y20=>(intro wz hSw;(try dsimp only at hSw);first | (go_simp;done) | (go_simp;with_reducible rfl))
 try simp only [Act.put,List.setIfInBounds_toArray,List.set_cons_zero,List.set_cons_succ]
 refine wpAnyH_take (i:=21) (v:=?v21) rfl (by kernel_rfl) (by kernel_rfl) (by kernel_rfl) (fun _ _ _ h=>h) (Or.inl ⟨by rfl,?y21⟩) (by assumption) ?r21
 case y21=>(intro wz hSw;(try dsimp only at hSw);first | (go_simp;done) | (go_simp;with_reducible rfl))
 try simp only [Act.put,List.setIfInBounds_toArray,List.set_cons_zero,List.set_cons_succ]
 refine wpAnyH_take (i:=22) (v:=?v22) rfl (by kernel_rfl) (by kernel_rfl) (by kernel_rfl) (fun _ _ _ h=>h) (Or.inl ⟨by rfl,?y22⟩) (by assumption) ?r22
 case y22=>(intro wz hSw;(try dsimp only at hSw);first | (go_simp;done) | (go_simp;with_reducible rfl))
 try simp only [Act.put,List.setIfInBounds_toArray,List.set_cons_zero,List.set_cons_succ]
 have hou1:Out B sv gv w.heap.size:=hou
 have hBne:(⟨B,3,none⟩:Addr).block≠w.heap.size:=fun e=>hou.1 e.symm
 have hS2:∀ o:Obj,(w1.alloc o).drew.cell? ⟨B,0,none⟩=some (.string s)/\(w1.alloc o).drew.cell? ⟨B,1,none⟩=some (J Z k)/\(w1.alloc o).drew.cell? ⟨w.heap.size,1,none⟩=some (J Z f.kind)/\(w1.alloc o).drew.cell? ⟨w.heap.size,2,none⟩=some (J Z f.depth)/\(w1.alloc o).drew.cell? ⟨w.heap.size,3,none⟩=some (J Z f.list):=fun o=>by
  have hb:Below w1.heap.size w1 (w1.alloc o):=(Below.refl _ _).alloc (Nat.le_refl _) o
  exact ⟨(HR.out.alloc o).c0,(HR.out.alloc o).c1,(hb.cell (p:=⟨w.heap.size,1,none⟩) hwl).trans b1,(hb.cell (p:=⟨w.heap.size,2,none⟩) hwl).trans b2,(hb.cell (p:=⟨w.heap.size,3,none⟩) hwl).trans b3⟩
 have hA1:Hid (gs.length+1<=maxLen):=by show _<=_;unfold maxLen;omega
 have hA2:Hid ((gs.length+1)*48<=140737488355328):=by show _<=_;omega
 have hone:Hid (∀ u∈sgV ⟨f.kind,p,f.depth,f.list,s.extract p k⟩,u.oneCell'=true):=fun u hu=>by simp [sgV] at hu;rcases hu with rfl | rfl | rfl | rfl | rfl<;>rfl
 have hA3:Hid (∀ o:Obj,base<=(w1.alloc o).drew.heap.size):=fun o=>by have:=HR.out.bs;show base<=(w1.alloc o).heap.size;simp;omega
 refine wpAnyH_ready (rs:=[4,23]) (by kernel_rfl) (by simp) ?_
 refine AllReadyH.cons rfl (fun K hK=>?_) ?_
 ·go_simp
  refine hK.out _ _ hHeld (fun hHeld=>?_)
  clear hK K
  refine wpAnyH_ready (rs:=[23]) (by kernel_rfl) (by simp) ?_
  refine AllReadyH.cons rfl (fun K hK=>?_) (fun j hj=>by cases hj)
  go_simp
  refine hK.out _ _ (hS2 _) (fun hHeld=>?_)
  clear hK K
  refine wpAnyH_ready (rs:=[24]) (by kernel_rfl) (by simp) ?_
  refine AllReadyH.cons rfl (fun K hK=>?_) (fun j hj=>by cases hj)
  refine step_append_lies _ (by rfl) (.tmp 10) (.tmp 29) 157 (by rfl) base 162 i0 _ 5 48 Tryz.underlying157 hi0 hz0 hz1 hz2 rfl (by decide) gv _ _ (by rfl) ((HR.out.sg.alloc _).drew) ⟨w1.heap.size,0,none⟩ 1 1 (sgV ⟨f.kind,p,f.depth,f.list,s.extract p k⟩) (by rfl) (by rfl) (World.news_of_block (cs:=#[J Z f.kind,J Z p,J Z f.depth,J Z f.list,.string (s.extract p k)]) (t:=162) (fr:=(0,0)) (heap_alloc_new w1 _)) hone.out (Nat.lt_succ_self 0) hA1.out hA2.out (hA3.out _) (w1.heap.size+1) (by simp) ?_
  intro gg cap w2 hown hgrow hat hlt
  obtain ⟨g0,g1,g3,gz,gfar⟩:=HR.out.grown3 hgrow
  have hSg:=HR.out.signed rfl hown hgrow hat
  have HS1:Hid _:=hSg.1
  have HS2:Hid _:=hSg.2
  have x1:=(gfar w.heap.size 1 hwl hou1).trans b1
  have x2:=(gfar w.heap.size 2 hwl hou1).trans b2
  have x3:=(gfar w.heap.size 3 hwl hou1).trans b3
  clear hSg hown hgrow hat gfar
  refine hK.out _ _ ⟨g0,g1,x1,x2,x3⟩ (fun hHeld=>?_)
  clear hK K
  refine wpAnyH_take (i:=25) (v:=?v25) rfl (by kernel_rfl) (by kernel_rfl) (by kernel_rfl) (fun _ _ _ h=>h) (Or.inl ⟨by rfl,?y25⟩) (by assumption) ?r25
  case y25=>(intro wz hSw;(try dsimp only at hSw);first | (go_simp;done) | (go_simp;with_reducible rfl))
  refine wpAnyH_take (i:=26) (v:=?v26) rfl (by kernel_rfl) (by kernel_rfl) (by kernel_rfl) (fun _ _ _ h=>h) (Or.inl ⟨by rfl,?y26⟩) (by assumption) ?r26
  case y26=>(intro wz hSw;(try dsimp only at hSw);first | (go_simp;done) | (go_simp;with_reducible rfl))
  refine wpAnyH_ready (rs:=[27]) (by kernel_rfl) (by simp) ?_
  refine AllReadyH.cons rfl (fun K hK=>?_) (fun j hj=>by cases hj)
  go_simp
  refine hK.out _ _ ⟨by rw [HS1.out.c0],by rw [HS1.out.c1],?_,?_,?_⟩ (fun hHeld=>?_)
  ·rw [World.cell?_setCell_far _ _ _ _ hBne];exact x1
  ·rw [World.cell?_setCell_far _ _ _ _ hBne];exact x2
  ·rw [World.cell?_setCell_far _ _ _ _ hBne];exact x3
  clear hK K
  refine wpAnyH_done (by kernel_rfl) ?_ _
  clear hHeld x1 x2 x3 g0 g1 g3 gz
  go_wp2_with fail
  go_end0
  exact ⟨rfl,_,HS1.out,HM.out.trans HS2.out⟩
 ·refine AllReadyH.cons rfl (fun K hK=>?_) (fun j hj=>by cases hj)
  go_simp
  refine hK.out _ _ (hS2 _) (fun hHeld=>?_)
  clear hK K
  have c3':∀ o:Obj,(w1.alloc o).cell? ⟨B,3,none⟩=some gv:=fun o=>(HR.out.alloc o).c3
  refine wpAnyH_ready (rs:=[4]) (by kernel_rfl) (by simp) ?_
  refine AllReadyH.cons rfl (fun K hK=>?_) (fun j hj=>by cases hj)
  go_simp
  refine hK.out _ _ (hS2 _) (fun hHeld=>?_)
  clear hK K
  refine wpAnyH_ready (rs:=[24]) (by kernel_rfl) (by simp) ?_
  refine AllReadyH.cons rfl (fun K hK=>?_) (fun j hj=>by cases hj)
  refine step_append_lies _ (by rfl) (.tmp 10) (.tmp 29) 157 (by rfl) base 162 i0 _ 5 48 Tryz.underlying157 hi0 hz0 hz1 hz2 rfl (by decide) gv _ _ (by rfl) ((HR.out.sg.alloc _).drew) ⟨w1.heap.size,0,none⟩ 1 1 (sgV ⟨f.kind,p,f.depth,f.list,s.extract p k⟩) (by rfl) (by rfl) (World.news_of_block (cs:=#[J Z f.kind,J Z p,J Z f.depth,J Z f.list,.string (s.extract p k)]) (t:=162) (fr:=(0,0)) (heap_alloc_new w1 _)) hone.out (Nat.lt_succ_self 0) hA1.out hA2.out (hA3.out _) (w1.heap.size+1) (by simp) ?_
  intro gg cap w2 hown hgrow hat hlt
  obtain ⟨g0,g1,g3,gz,gfar⟩:=HR.out.grown3 hgrow
  have hSg:=HR.out.signed rfl hown hgrow hat
  have HS1:Hid _:=hSg.1
  have HS2:Hid _:=hSg.2
  have x1:=(gfar w.heap.size 1 hwl hou1).trans b1
  have x2:=(gfar w.heap.size 2 hwl hou1).trans b2
  have x3:=(gfar w.heap.size 3 hwl hou1).trans b3
  clear hSg hown hgrow hat gfar
  refine hK.out _ _ ⟨g0,g1,x1,x2,x3⟩ (fun hHeld=>?_)
  clear hK K
  refine wpAnyH_take (i:=25) (v:=?vb25) rfl (by kernel_rfl) (by kernel_rfl) (by kernel_rfl) (fun _ _ _ h=>h) (Or.inl ⟨by rfl,?yb25⟩) (by assumption) ?rb25
  case yb25=>(intro wz hSw;(try dsimp only at hSw);first | (go_simp;done) | (go_simp;with_reducible rfl))
  refine wpAnyH_take (i:=26) (v:=?vb26) rfl (by kernel_rfl) (by kernel_rfl) (by kernel_rfl) (fun _ _ _ h=>h) (Or.inl ⟨by rfl,?yb26⟩) (by assumption) ?rb26
  case yb26=>(intro wz hSw;(try dsimp only at hSw);first | (go_simp;done) | (go_simp;with_reducible rfl))
  refine wpAnyH_ready (rs:=[27]) (by kernel_rfl) (by simp) ?_
  refine AllReadyH.cons rfl (fun K hK=>?_) (fun j hj=>by cases hj)
  go_simp
  refine hK.out _ _ ⟨by rw [HS1.out.c0],by rw [HS1.out.c1],?_,?_,?_⟩ (fun hHeld=>?_)
  ·rw [World.cell?_setCell_far _ _ _ _ hBne];exact x1
  ·rw [World.cell?_setCell_far _ _ _ _ hBne];exact x2
  ·rw [World.cell?_setCell_far _ _ _ _ hBne];exact x3
  clear hK K
  refine wpAnyH_done (by kernel_rfl) ?_ _
  clear hHeld x1 x2 x3 g0 g1 g3 gz
  go_wp2_with fail
  go_end0
  exact ⟨rfl,_,HS1.out,HM.out.trans HS2.out⟩
theorem YR (a:Int) (w:World):(Instr.build 193 #[(0,J Z a)]).run Tryz.prog w=.ok (.agg #[J Z a,J Z 0,J Z 0,J Z 0]) w:=run_build w 193 _ _ (by kernel_rfl)
theorem Zk (a b d:Int) (w:World):(Instr.build 193 #[(0,J Z a),(1,J Z b),(3,J Z d)]).run Tryz.prog w=.ok (.agg #[J Z a,J Z b,J Z 0,J Z d]) w:=run_build w 193 _ _ (by kernel_rfl)
theorem Zu (a c:Int) (w:World):(Instr.build 193 #[(0,J Z a),(2,J Z c)]).run Tryz.prog w=.ok (.agg #[J Z a,J Z 0,J Z c,J Z 0]) w:=run_build w 193 _ _ (by kernel_rfl)
theorem Jj (a b c d:Int) (w:World):(Instr.build 193 #[(0,J Z a),(1,J Z b),(2,J Z c),(3,J Z d)]).run Tryz.prog w=.ok (.agg #[J Z a,J Z b,J Z c,J Z d]) w:=run_build w 193 _ _ (by kernel_rfl)
def byF (c:Int):FR:=⟨c,0,0,0⟩
theorem zC (c:Int) (w:World) (c0:0<=c) (c1:c<256) :
 Calls Tryz.prog 162 #[J .u8 c] w fun e w'=>e=.returned (.agg #[J Z c,J Z 0,J Z 0,J Z 0])/\w'=w.alloc (Q #[J Z c,J Z 0,J Z 0,J Z 0] 193):=by
 have h1:=fun w=>YR c w
 go_enter Tryz.func162,Tryz.ntmps162
 go_wp2
 exact bodyPost_ret (v:=.agg #[J Z c,J Z 0,J Z 0,J Z 0]) (by simp [results,Tryz.results162,go_sem]) rfl ⟨rfl,by simp⟩
theorem yt (k d l:Int) (w:World) :
 Calls Tryz.prog 171 #[J Z k,J Z d,J Z l] w fun e w'=>e=.returned (O (some ⟨w.heap.size,0,none⟩) 2 2)/\w'=w.alloc (Q #[J Z 259,J Z k,J Z d,J Z l,J Z 260,J Z k,J Z d,J Z l] 193):=by
 have h1:=fun w=>Jj 259 k d l w
 have h2:=fun w=>Jj 260 k d l w
 go_enter Tryz.func171,Tryz.ntmps171
 go_wp2
 go_ret
 exact ⟨rfl,rfl⟩
def frL (ls:List FR):List Value:=ls.flatMap frV
theorem zcH (ls:List FR):∀ (i:Nat) (f:FR) (j:Nat),ls[i]?=some f->j<4->(frL ls)[i*4+j]?=(frV f)[j]?:=by
 induction ls with
 | nil=>intro i f j h;simp at h
 | cons g r ih =>
  intro i f j h hj
  simp only [frL,List.flatMap_cons]
  cases i with
  | zero =>
   simp at h
   subst h
   rw [Nat.zero_mul,Nat.zero_add,List.getElem?_append_left (by simp [frV];omega)]
  | succ i =>
   simp at h
   have:=ih i f j h hj
   rw [List.getElem?_append_right (by simp [frV];omega)]
   have e:(i+1)*4+j-(frV g).length=i*4+j:=by simp [frV];omega
   rw [e];exact this
theorem LS.new (w:World) (C:Array Value) (ls:List FR) (h:C.toList=frL ls):LS (w.alloc (Q C 193)) w.heap.size ls:=by
 intro i f hf
 have hc:∀ j,j<4->(w.alloc (Q C 193)).cell? ⟨w.heap.size,i*4+j,none⟩=(frV f)[j]?:=fun j hj=>by
  rw [<- zcH ls i f j hf hj,<- h]
  rw [World.cell?_alloc_mark];simp
 exact ⟨hc 0 (by omega),hc 1 (by omega),hc 2 (by omega),hc 3 (by omega)⟩
theorem zaZ (base B c:Nat) (s:ByteArray) (k:Nat) (sv gv:Value) (fs ls:List FR) (gs:List SG) (C:Array Value) (w:World) (h:RS w base B s k sv gv fs gs) (hC:C.toList=frL ls) (hlen:fs.length+ls.length<=1099511627776) (n:Nat) (hn:n=ls.length) :
 Calls Tryz.prog 133 #[.pointer (some ⟨B,0,none⟩),O (some ⟨w.heap.size,0,none⟩) n c] (w.alloc (Q C 193)) fun e w'=>e=.returned (.tuple #[])/\∃ sv',RS w' base B s k sv' gv (ls++fs) gs/\Mv base B sv gv sv' gv w w':=by
 subst hn
 refine (Qz base B w.heap.size c s k sv gv fs ls gs _ (h.alloc _) (LS.new w C ls hC) h.outNew (by simp) hlen).mono ?_
 rintro e w' ⟨he,sv',hr,hm⟩
 exact ⟨he,sv',hr,(Mv.alloc h.bs _).trans hm⟩
theorem RS.drew {w:World} {base B s k sv gv fs gs} (h:RS w base B s k sv gv fs gs):RS w.drew base B s k sv gv fs gs:=⟨h.blk,h.st,h.sg,h.hB⟩
theorem Mv.drew {base B:Nat} {a b c d:Value} {w w1:World} (h:Mv base B a b c d w w1):Mv base B a b c d w w1.drew:=⟨h.bel.drew,h.kept⟩
theorem yA (base B lb c:Nat) (s:ByteArray) (k:Nat) (sv gv:Value) (fs ls:List FR) (gs:List SG) (C:Array Value) (w:World) (h:RS w base B s k sv gv fs gs) (hlb:lb=w.heap.size) (hC:C.toList=frL ls) (hlen:fs.length+ls.length<=1099511627776) (n:Nat) (hn:n=ls.length) :
 Calls Tryz.prog 133 #[.pointer (some ⟨B,0,none⟩),O (some ⟨lb,0,none⟩) n c] (w.alloc (Q C 193)).drew fun e w'=>e=.returned (.tuple #[])/\∃ sv',RS w' base B s k sv' gv (ls++fs) gs/\Mv base B sv gv sv' gv w w':=by
 subst hlb
 subst hn
 have hl:LS (w.alloc (Q C 193)).drew w.heap.size ls:=LS.new w C ls hC
 refine (Qz base B w.heap.size c s k sv gv fs ls gs _ (h.alloc _).drew hl h.outNew (by simp) hlen).mono ?_
 rintro e w' ⟨he,sv',hr,hm⟩
 exact ⟨he,sv',hr,((Mv.alloc h.bs _).drew).trans hm⟩
theorem ZF (base B lb c:Nat) (s:ByteArray) (k:Nat) (sv gv:Value) (fs ls:List FR) (gs:List SG) (C:Array Value) (w:World) (h:RS w base B s k sv gv fs gs) (hlb:lb=w.heap.size) (hC:C.toList=frL ls) (hlen:fs.length+ls.length<=1099511627776) (n:Nat) (hn:n=ls.length) :
 Calls Tryz.prog 133 #[.pointer (some ⟨B,0,none⟩),O (some ⟨lb,0,none⟩) n c] (w.alloc (Q C 193)) fun e w'=>e=.returned (.tuple #[])/\∃ sv',RS w' base B s k sv' gv (ls++fs) gs/\Mv base B sv gv sv' gv w w':=by
 subst hlb
 exact zaZ base B c s k sv gv fs ls gs C w h hC hlen n hn
def Zh (f:FR):List FR :=
 if f.kind=10 then [⟨261,4,0,f.list⟩,byF 42,⟨261,5,0,-1⟩]
 else if f.kind=9 then [⟨262,9,0,f.list⟩,byF 58,⟨258,0,f.depth+1,0⟩]
 else if f.kind=7 then [⟨261,7,0,f.list⟩,byF 58,⟨258,0,f.depth+1,0⟩]
 else [⟨261,4,0,f.list⟩]
end Go.Proofs.YtaebngpoagjafabGreat
