import Derived.Test.YtaebngpoagjafaaJ23
import Derived.Test.YtaebngpoagjafaaJ29
import Derived.BigRegion
import Derived.Laws.Cover3
set_option maxRecDepth 100000
set_option maxHeartbeats 1600000
namespace Go.Proofs.Ytaebngpoagjafaa
open Obj renaming cells → Q
open Value renaming int → J, slice → O
open IntKind renaming i64 → Z
open Go.RowKit
attribute [local go_sem ↓] Go.wp_at_zero Go.wp_at_succ
theorem ZS (n:Int) (k:Nat):∀ x∈zJ n k,0<=x/\x<256:=by
 induction k generalizing n with
 | zero=>intro x hx;simp [zJ] at hx
 | succ k ih =>
  intro x hx
  simp only [zJ,List.mem_cons] at hx
  rcases hx with rfl | hx
  ·omega
  ·exact ih _ x hx
theorem Jv (es:List EX):∀ n,∀ x∈zN es n,0<=x/\x<256:=by
 intro n
 induction n using Nat.strongRecOn with
 | ind n ih =>
  cases n with
  | zero=>intro x hx;simp [zN] at hx
  | succ j =>
   cases he:es[j]? with
   | none=>intro x hx;simp [zN,he] at hx
   | some e =>
    have hat:∀ i,∀ x∈atL (zF es j) i,0<=x/\x<256:=by
     intro i x hx
     rw [Yj] at hx
     split at hx
     ·simp at hx
     ·split at hx
      ·exact ih _ (by omega) x hx
      ·simp at hx
    have hw:∀ k,∀ x∈ze (zF es j) e k,0<=x/\x<256:=by
     intro k
     induction k with
     | zero=>exact hat _
     | succ k ihk =>
      intro x hx
      simp only [ze,List.mem_append] at hx
      rcases hx with hx | hx
      ·exact ihk x hx
      ·cases hi:e.items[k]? with
       | none=>rw [hi] at hx;simp at hx
       | some y=>rw [hi] at hx;exact hat _ x hx
    have hh:∀ k,∀ x∈zg (zF es j) e k,0<=x/\x<256:=by
     intro k
     induction k with
     | zero =>
      intro x hx
      simp only [zg,zT,List.mem_append] at hx
      rcases hx with hx | hx
      ·exact ZS _ _ x hx
      ·repeat' split at hx
       all_goals exact ZS _ _ x hx
     | succ k ihk =>
      intro x hx
      simp only [zg,List.mem_append] at hx
      rcases hx with hx | hx
      ·exact ihk x hx
      ·cases hi:e.items[k]? with
       | none=>rw [hi] at hx;simp at hx
       | some y =>
        rw [hi] at hx
        simp only [zX] at hx
        repeat' split at hx
        all_goals (try simp only [List.mem_append] at hx)
        ·rcases hx with (hx | hx) | hx<;>exact ZS _ _ x hx
        ·rcases hx with hx | hx<;>exact ZS _ _ x hx
        ·rcases hx with hx | hx<;>exact ZS _ _ x hx
        ·exact ZS _ _ x hx
    intro x hx
    simp only [zN,he,Zq] at hx
    split at hx
    ·exact hat _ x hx
    ·rcases List.mem_append.1 hx with hx | hx
     ·exact hh _ x hx
     ·exact hw _ x hx
theorem Qi {w:World} {base:Nat} {o:Option Addr} {k:Nat} {X:List Int} (h:w.ownsRow base 5 1 (O o X.length k) X.length (X.map (Value.int .u8))) (hb:∀ x∈X,0<=x/\x<256):∃ g,CS w w.heap.size o g 0 X:=by
 rcases Nat.eq_zero_or_pos X.length with h0 | h0
 ·exact ⟨0,⟨fun h=>by omega,fun h=>by omega,fun i x hx=>by have:=(List.getElem?_eq_some_iff.1 hx).1;omega,hb⟩⟩
 ·obtain ⟨g,kk,hg,_,hl⟩:=h.form h0
  obtain ⟨ho,_⟩:o=some ⟨g,0,none⟩/\k=kk:=by cases hg;exact ⟨rfl,rfl⟩
  subst ho
  refine ⟨g,⟨fun _=>rfl,fun _=>hl,fun i x hx=>?_,hb⟩⟩
  have hi:=(List.getElem?_eq_some_iff.1 hx).1
  rw [Nat.zero_add,World.ownsRow.cellAt h i (by omega),List.getElem?_map,hx];rfl
theorem Qb {w:World} {base:Nat} {o:Option Addr} {k:Nat} {l:List Int} (h:w.ownsRow base 3 1 (O o l.length k) l.length (l.map (J Z))):∃ g,IS w o g 0 l.length (fun i=>(l[i]?).getD 0):=by
 rcases Nat.eq_zero_or_pos l.length with h0 | h0
 ·exact ⟨0,⟨fun h=>by omega,fun h=>by omega,fun i hi=>by omega⟩⟩
 ·obtain ⟨g,kk,hg,_,hl⟩:=h.form h0
  obtain ⟨ho,_⟩:o=some ⟨g,0,none⟩/\k=kk:=by cases hg;exact ⟨rfl,rfl⟩
  subst ho
  refine ⟨g,⟨fun _=>rfl,fun _=>hl,fun i hi=>?_⟩⟩
  rw [Nat.zero_add,World.ownsRow.cellAt h i (by omega),List.getElem?_map,List.getElem?_eq_getElem hi];rfl
def zar (w:World) (sv:List Int) (t c:Int) (r:Ending) (w':World):Prop:=Below w.heap.size w w'/\∃ o k,r=.returned (.tuple #[.agg #[O o sv.length k,J Z t,J Z c],.bool true])/\w'.ownsRow w.heap.size 3 1 (O o sv.length k) sv.length (sv.map (J Z))
theorem Qt (s:ByteArray) (x:WD) (sv:List Int) (t c:Int) (w:World) (hx:x.In w) (hE:cpE s=0) (hR:x.ru (cpX s) (cpX s).length=(0,sv,t,c)) (t0:1<=t) (t1:t<=86400) (c0:0<=c) (c1:c<=32) :
 Calls Try.prog 15 #[.string s,x.val] w (zar w sv t c):=by
 have HX:Hid _:=hx
 have HLN:Hid ((cpX s).length<=7000):=(ji hE).2.2.2
 have HBY:Hid (∀ y∈cpX s,0<=y/\y<256):=Jv _ _
 have HCP:Hid (∀ wz,Calls Try.prog 23 #[.string s] wz (zaq wz 0 (cpX s))):=fun wz=>by have:=XX s wz;rw [hE] at this;exact this
 have HRUN:Hid (∀ (wz:World) (o:Option Addr) (cb coff k:Nat),x.In wz->CS wz wz.heap.size o cb coff (cpX s)->Calls Try.prog 24 #[O o (cpX s).length k,x.val,J Z (cpX s).length] wz (Qv wz (0,sv,t,c))):=fun wz o cb coff k h3 h4=>by
  have:=JF x o cb coff k (cpX s) (cpX s).length wz (by have:=HLN.out;omega) (by have:=HLN.out;omega) h3 h4
  rw [hR] at this;exact this
 clear hx hR hE
 obtain ⟨X,HXX⟩:∃ X,Hid (cpX s=X):=⟨_,rfl⟩
 rw [HXX.out] at HLN HBY HCP HRUN
 unfold WD.val at HRUN ⊢
 obtain ⟨xa,xb,xd,xdo,xdb,xdoff,xdl,xdc,xDn,xao,xab,xaoff,xac,xal,xpo,xpb,xpoff,xpl,xpcp,xV,xL,xR⟩:=x
 simp only at HRUN ⊢
 have HB0:Hid (Below w.heap.size w ((w.alloc (Q #[J Z xa,J Z xb,J Z xd,O xdo xdl xdc,O xao xal.length xac,O xpo xpl xpcp] 46)).alloc (Q #[O none 0 0,J Z 0,J Z 0] 48))):=((Below.refl _ _).alloc (Nat.le_refl _) _).alloc (by simp) _
 have HW0:Hid (((w.alloc (Q #[J Z xa,J Z xb,J Z xd,O xdo xdl xdc,O xao xal.length xac,O xpo xpl xpcp] 46)).alloc (Q #[O none 0 0,J Z 0,J Z 0] 48)).heap[w.heap.size]?=some (Q #[J Z xa,J Z xb,J Z xd,O xdo xdl xdc,O xao xal.length xac,O xpo xpl xpcp] 46 (0,0))):=by show _=_;rw [Below.heap_alloc _ _ _ (by simp)];exact heap_alloc_new w _
 have HR0:Hid (((w.alloc (Q #[J Z xa,J Z xb,J Z xd,O xdo xdl xdc,O xao xal.length xac,O xpo xpl xpcp] 46)).alloc (Q #[O none 0 0,J Z 0,J Z 0] 48)).heap[w.heap.size+1]?=some (Q #[O none 0 0,J Z 0,J Z 0] 48 (0,0))):=zt _ (by simp)
 go_enter Try.func15,Try.ntmps15
 go_wp2_with fail
 refine (HCP.out _).mono ?_
 rintro e w1 ⟨hb1,o,m,k,rfl,_,heq⟩
 obtain ⟨hm,hrow⟩:=heq rfl
 subst hm
 have HB1:Hid _:=HB0.out.trans (hb1.mono HB0.out.size)
 have hW1:=(hb1.block _ (lt_of_block HW0.out)).trans HW0.out
 have HR1:Hid _:=(hb1.block _ (lt_of_block HR0.out)).trans HR0.out
 obtain ⟨cg,hcs⟩:=Qi hrow HBY.out
 have HCALL:=HRUN.out w1 o cg 0 k (HX.out.below HB1.out) hcs
 have q0:w1.cell? ⟨w.heap.size,0,none⟩=some (J Z xa):=by rw [cell_of_row _ _ _ _ _ _ hW1];rfl
 have q1:w1.cell? ⟨w.heap.size,1,none⟩=some (J Z xb):=by rw [cell_of_row _ _ _ _ _ _ hW1];rfl
 have q2:w1.cell? ⟨w.heap.size,2,none⟩=some (J Z xd):=by rw [cell_of_row _ _ _ _ _ _ hW1];rfl
 have q3:w1.cell? ⟨w.heap.size,3,none⟩=some (O xdo xdl xdc):=by rw [cell_of_row _ _ _ _ _ _ hW1];rfl
 have q4:w1.cell? ⟨w.heap.size,4,none⟩=some (O xao xal.length xac):=by rw [cell_of_row _ _ _ _ _ _ hW1];rfl
 have q5:w1.cell? ⟨w.heap.size,5,none⟩=some (O xpo xpl xpcp):=by rw [cell_of_row _ _ _ _ _ _ hW1];rfl
 have hxl:(X.length:Int)<=32000:=by have:=HLN.out;omega
 have hxd:decide ((32000:Int)<(X.length:Int))=false:=decide_eq_false (by omega)
 clear hb1 heq hW1 hrow hcs
 go_wp2_with fail
 refine HCALL.mono ?_
 rintro e w2 ⟨hb2,o2,m2,k2,rfl,_,heq2⟩
 obtain ⟨hm2,hrow2⟩:=heq2 rfl
 simp only at hm2 hrow2
 subst hm2
 have HB2:Hid _:=HB1.out.trans (hb2.mono HB1.out.size)
 have HR2:Hid _:=(hb2.block _ (lt_of_block HR1.out)).trans HR1.out
 have HROW:Hid (w2.ownsRow w.heap.size 3 1 (O o2 sv.length k2) sv.length (sv.map (J Z))):=yT hrow2 HB1.out.size
 have hlt2:w.heap.size+1<w2.heap.size:=lt_of_block HR2.out
 have HA3:Hid ((w2.alloc (Q #[O o2 sv.length k2,J Z t,J Z c] 48)).heap[w2.heap.size]?=some (Q #[O o2 sv.length k2,J Z t,J Z c] 48 (0,0))):=heap_alloc_new _ _
 have HR3:Hid ((w2.alloc (Q #[O o2 sv.length k2,J Z t,J Z c] 48)).heap[w.heap.size+1]?=some (Q #[O none 0 0,J Z 0,J Z 0] 48 (0,0))):=by show _=_;rw [Below.heap_alloc _ _ _ hlt2];exact HR2.out
 have HB3:Hid (Below w.heap.size w (w2.alloc (Q #[O o2 sv.length k2,J Z t,J Z c] 48))):=HB2.out.alloc HB2.out.size _
 have HROW3:Hid ((w2.alloc (Q #[O o2 sv.length k2,J Z t,J Z c] 48)).ownsRow w.heap.size 3 1 (O o2 sv.length k2) sv.length (sv.map (J Z))):=HROW.out.alloc _
 clear hb2 heq2 hrow2
 simp only
 go_wp2_with fail
 generalize w2.alloc (Q #[O o2 sv.length k2,J Z t,J Z c] 48)=w3 at *
 have a0:w3.cell? ⟨w2.heap.size,0,none⟩=some (O o2 sv.length k2):=by rw [cell_of_row _ _ _ _ _ _ HA3.out];rfl
 have a1:w3.cell? ⟨w2.heap.size,1,none⟩=some (J Z t):=by rw [cell_of_row _ _ _ _ _ _ HA3.out];rfl
 have a2:w3.cell? ⟨w2.heap.size,2,none⟩=some (J Z c):=by rw [cell_of_row _ _ _ _ _ _ HA3.out];rfl
 have y0:w3.cell? ⟨w.heap.size+1,0,none⟩=some (O none 0 0):=by rw [cell_of_row _ _ _ _ _ _ HR3.out];rfl
 have y1:w3.cell? ⟨w.heap.size+1,1,none⟩=some (J Z 0):=by rw [cell_of_row _ _ _ _ _ _ HR3.out];rfl
 have y2:w3.cell? ⟨w.heap.size+1,2,none⟩=some (J Z 0):=by rw [cell_of_row _ _ _ _ _ _ HR3.out];rfl
 have z0:w3.frozen? ⟨w.heap.size+1,0,none⟩=false:=by simp [World.frozen?,HR3.out]
 have z1:w3.frozen? ⟨w.heap.size+1,1,none⟩=false:=by simp [World.frozen?,HR3.out]
 have z2:w3.frozen? ⟨w.heap.size+1,2,none⟩=false:=by simp [World.frozen?,HR3.out]
 have hne:w2.heap.size≠w.heap.size+1:=by omega
 clear q0 q1 q2 q3 q4 q5 hxl hxd HCALL
 go_region
 all_goals
  go_wp2_with fail
  have HBE:=yK (x':=O o2 sv.length k2) (y':=J Z t) (z':=J Z c) (w:=w3) HR3.out
  refine bodyPost_ret (v:=.tuple #[.agg #[O o2 sv.length k2,J Z t,J Z c],.bool true]) ?_ rfl ⟨(((HB3.out.setCell (by simp only;omega) _).setCell (by simp only;omega) _).setCell (by simp only;omega) _).drew,o2,k2,rfl,?_⟩
  ·rw [results_cell_tmp Try.results15]
   have h5:∀ we:World,(asAddr (.pointer (some ⟨w.heap.size+1,0,none⟩))).run Try.prog we=.ok ⟨w.heap.size+1,0,none⟩ we:=fun _=>rfl
   have h6:=run_loadVar_row (P:=Try.prog) (((w3.setCell ⟨w.heap.size+1,0,none⟩ (O o2 sv.length k2)).setCell ⟨w.heap.size+1,1,none⟩ (J Z t)).setCell ⟨w.heap.size+1,2,none⟩ (J Z c)).drew (w.heap.size+1) 48 48 #[O o2 sv.length k2,J Z t,J Z c] (0,0) _ HBE Try.underlying48 rfl (by kernel_rfl)
   show ((asAddr (.pointer (some ⟨w.heap.size+1,0,none⟩))).run Try.prog _).andThen _=_
   rw [h5,Result.andThen_ok,h6,Result.andThen_ok]
   rfl
  ·have hne:(O o2 sv.length k2).ownBlock≠some (w.heap.size+1):=zs HROW3.out HR3.out (by decide)
   refine zj HROW3.out (fun g hg=>?_)
   have hgn:g≠w.heap.size+1:=fun e=>hne (by rw [<- e];exact hg)
   show (((w3.setCell ⟨w.heap.size+1,0,none⟩ (O o2 sv.length k2)).setCell ⟨w.heap.size+1,1,none⟩ (J Z t)).setCell ⟨w.heap.size+1,2,none⟩ (J Z c)).heap[g]?=_
   rw [zc hgn,zc hgn,zc hgn]
def ja (s:ByteArray):Bool:=cpE s==0
def WD.mn (x:WD) (s:ByteArray):MN:=mnN x.rw (zx s).es (zx s).es.length
def WD.an (x:WD) (s:ByteArray):List Int×Int×Int:=((x.mn s).sv,y9 (x.mn s).ttl 86400,nar (x.mn s).sc 0)
theorem zac {s:ByteArray} (h:ja s=true):cpE s=0:=by simpa [ja] using h
theorem QJ {x:WD} {s:ByteArray} (hf:ja s=true) (hr:x.right=true):∃ k:Nat,1<=k/\k<=(cpX s).length/\(∀ f:Int,0<=f->f<k->x.ru (cpX s) f=(11,[],0,0))/\(∀ f:Int,(k:Int)<=f->x.ru (cpX s) f=(0,x.an s)):=by
 obtain ⟨h1,h2,_,_⟩:=ji (zac hf)
 obtain ⟨k,hk,r1,r2,r3⟩:=J0 (W:=x.rw) h1 h2
 have e:∀ f:Int,0<=f->x.ru (cpX s) f=ZV x.rw (cpX s) f.toNat rt0:=fun f h0=>by
  unfold WD.ru ruF
  rw [if_neg (by omega),if_pos (show Zn x.a x.b x.d x.V x.L x.R x.pl=true from hr)];rfl
 refine ⟨k,r1,hk,fun f h0 hfk=>?_,fun f hfk=>?_⟩
 ·rw [e f h0];exact r2 f.toNat (by omega)
 ·rw [e f (by omega)];exact r3 f.toNat (by omega)
theorem J1 {x:WD} {s:ByteArray} (hf:ja s=true) (hr:x.right=true):x.ru (cpX s) (cpX s).length=(0,x.an s):=by
 obtain ⟨k,_,hk,_,h⟩:=QJ hf hr
 exact h _ (by omega)
end Go.Proofs.Ytaebngpoagjafaa
