import Derived.Test.YtaebngpoagjafabGreatV36
import Derived.Test.YtaebngpoagjafabGreatV39
import Derived.BigRegion
import Derived.Laws.Cover3
set_option maxRecDepth 100000
set_option maxHeartbeats 1600000
namespace Go.Proofs.YtaebngpoagjafabGreat
open Obj renaming cells → Q
open Value renaming int → J, slice → O
open IntKind renaming i64 → Z
open Go.RowKit
attribute [local go_sem ↓] Go.wp_at_zero Go.wp_at_succ
theorem YQ (n:Int) (k:Nat):∀ x∈zW n k,0<=x/\x<256:=by
 induction k generalizing n with
 | zero=>intro x hx;simp [zW] at hx
 | succ k ih =>
  intro x hx
  simp only [zW,List.mem_cons] at hx
  rcases hx with rfl | hx
  ·omega
  ·exact ih _ x hx
theorem Ji (es:List EX):∀ n,∀ x∈z8 es n,0<=x/\x<256:=by
 intro n
 induction n using Nat.strongRecOn with
 | ind n ih =>
  cases n with
  | zero=>intro x hx;simp [z8] at hx
  | succ j =>
   cases he:es[j]? with
   | none=>intro x hx;simp [z8,he] at hx
   | some e =>
    have hat:∀ i,∀ x∈atL (zR es j) i,0<=x/\x<256:=by
     intro i x hx
     rw [xQ] at hx
     split at hx
     ·simp at hx
     ·split at hx
      ·exact ih _ (by omega) x hx
      ·simp at hx
    have hw:∀ k,∀ x∈zg (zR es j) e k,0<=x/\x<256:=by
     intro k
     induction k with
     | zero=>exact hat _
     | succ k ihk =>
      intro x hx
      simp only [zg,List.mem_append] at hx
      rcases hx with hx | hx
      ·exact ihk x hx
      ·cases hi:e.items[k]? with
       | none=>rw [hi] at hx;simp at hx
       | some y=>rw [hi] at hx;exact hat _ x hx
    have hh:∀ k,∀ x∈zo (zR es j) e k,0<=x/\x<256:=by
     intro k
     induction k with
     | zero =>
      intro x hx
      simp only [zo,yh,List.mem_append] at hx
      rcases hx with hx | hx
      ·exact YQ _ _ x hx
      ·repeat' split at hx
       all_goals exact YQ _ _ x hx
     | succ k ihk =>
      intro x hx
      simp only [zo,List.mem_append] at hx
      rcases hx with hx | hx
      ·exact ihk x hx
      ·cases hi:e.items[k]? with
       | none=>rw [hi] at hx;simp at hx
       | some y =>
        rw [hi] at hx
        simp only [ym] at hx
        repeat' split at hx
        all_goals (try simp only [List.mem_append] at hx)
        ·rcases hx with (hx | hx) | hx<;>exact YQ _ _ x hx
        ·rcases hx with hx | hx<;>exact YQ _ _ x hx
        ·rcases hx with hx | hx<;>exact YQ _ _ x hx
        ·exact YQ _ _ x hx
    intro x hx
    simp only [z8,he,Yj] at hx
    split at hx
    ·exact hat _ x hx
    ·rcases List.mem_append.1 hx with hx | hx
     ·exact hh _ x hx
     ·exact hw _ x hx
theorem zah {w:World} {base:Nat} {o:Option Addr} {k:Nat} {X:List Int} (h:w.ownsRow base 5 1 (O o X.length k) X.length (X.map (Value.int .u8))) (hb:∀ x∈X,0<=x/\x<256):∃ g,CS w w.heap.size o g 0 X:=by
 rcases Nat.eq_zero_or_pos X.length with h0 | h0
 ·exact ⟨0,⟨fun h=>by omega,fun h=>by omega,fun i x hx=>by have:=(List.getElem?_eq_some_iff.1 hx).1;omega,hb⟩⟩
 ·obtain ⟨g,kk,hg,_,hl⟩:=h.form h0
  obtain ⟨ho,_⟩:o=some ⟨g,0,none⟩/\k=kk:=by cases hg;exact ⟨rfl,rfl⟩
  subst ho
  refine ⟨g,⟨fun _=>rfl,fun _=>hl,fun i x hx=>?_,hb⟩⟩
  have hi:=(List.getElem?_eq_some_iff.1 hx).1
  rw [Nat.zero_add,World.ownsRow.cellAt h i (by omega),List.getElem?_map,hx];rfl
theorem YM {w:World} {base:Nat} {o:Option Addr} {k:Nat} {l:List Int} (h:w.ownsRow base 3 1 (O o l.length k) l.length (l.map (J Z))):∃ g,IS w o g 0 l.length (fun i=>(l[i]?).getD 0):=by
 rcases Nat.eq_zero_or_pos l.length with h0 | h0
 ·exact ⟨0,⟨fun h=>by omega,fun h=>by omega,fun i hi=>by omega⟩⟩
 ·obtain ⟨g,kk,hg,_,hl⟩:=h.form h0
  obtain ⟨ho,_⟩:o=some ⟨g,0,none⟩/\k=kk:=by cases hg;exact ⟨rfl,rfl⟩
  subst ho
  refine ⟨g,⟨fun _=>rfl,fun _=>hl,fun i hi=>?_⟩⟩
  rw [Nat.zero_add,World.ownsRow.cellAt h i (by omega),List.getElem?_map,List.getElem?_eq_getElem hi];rfl
def zd6 (w:World) (sv:List Int) (t c:Int) (r:Ending) (w':World):Prop:=Below w.heap.size w w'/\∃ o k,r=.returned (.tuple #[.agg #[O o sv.length k,J Z t,J Z c],.bool true])/\w'.ownsRow w.heap.size 3 1 (O o sv.length k) sv.length (sv.map (J Z))
theorem zat (s:ByteArray) (x:WD) (sv:List Int) (t c:Int) (w:World) (hx:x.In w) (hE:cpE s=0) (hR:x.ru (cpX s) (cpX s).length=(0,sv,t,c)) (t0:1<=t) (t1:t<=86400) (c0:0<=c) (c1:c<=32) :
 Calls Tryz.prog 22 #[.string s,x.val] w (zd6 w sv t c):=by
 have HX:Hid _:=hx
 have HLN:Hid ((cpX s).length<=7000):=(XX hE).2.2.2
 have HBY:Hid (∀ y∈cpX s,0<=y/\y<256):=Ji _ _
 have HCP:Hid (∀ wz,Calls Tryz.prog 45 #[.string s] wz (zdL wz 0 (cpX s))):=fun wz=>by have:=ja s wz;rw [hE] at this;exact this
 have HRUN:Hid (∀ (wz:World) (o:Option Addr) (cb coff k:Nat),x.In wz->CS wz wz.heap.size o cb coff (cpX s)->Calls Tryz.prog 46 #[O o (cpX s).length k,x.val,J Z (cpX s).length] wz (xT wz (0,sv,t,c))):=fun wz o cb coff k h3 h4=>by
  have:=zc3 x o cb coff k (cpX s) (cpX s).length wz (by have:=HLN.out;omega) (by have:=HLN.out;omega) h3 h4
  rw [hR] at this;exact this
 clear hx hR hE
 obtain ⟨X,HXX⟩:∃ X,Hid (cpX s=X):=⟨_,rfl⟩
 rw [HXX.out] at HLN HBY HCP HRUN
 unfold WD.val at HRUN ⊢
 obtain ⟨xa,xb,xd,xdo,xdb,xdoff,xdl,xdc,xDn,xao,xab,xaoff,xac,xal,xpo,xpb,xpoff,xpl,xpcp,xV,xL,xR⟩:=x
 simp only at HRUN ⊢
 have HB0:Hid (Below w.heap.size w ((w.alloc (Q #[J Z xa,J Z xb,J Z xd,O xdo xdl xdc,O xao xal.length xac,O xpo xpl xpcp] 31)).alloc (Q #[O none 0 0,J Z 0,J Z 0] 42))):=((Below.refl _ _).alloc (Nat.le_refl _) _).alloc (by simp) _
 have HW0:Hid (((w.alloc (Q #[J Z xa,J Z xb,J Z xd,O xdo xdl xdc,O xao xal.length xac,O xpo xpl xpcp] 31)).alloc (Q #[O none 0 0,J Z 0,J Z 0] 42)).heap[w.heap.size]?=some (Q #[J Z xa,J Z xb,J Z xd,O xdo xdl xdc,O xao xal.length xac,O xpo xpl xpcp] 31 (0,0))):=by show _=_;rw [Below.heap_alloc _ _ _ (by simp)];exact heap_alloc_new w _
 have HR0:Hid (((w.alloc (Q #[J Z xa,J Z xb,J Z xd,O xdo xdl xdc,O xao xal.length xac,O xpo xpl xpcp] 31)).alloc (Q #[O none 0 0,J Z 0,J Z 0] 42)).heap[w.heap.size+1]?=some (Q #[O none 0 0,J Z 0,J Z 0] 42 (0,0))):=zy _ (by simp)
 go_enter Tryz.func22,Tryz.ntmps22
 go_wp2_with fail
 refine (HCP.out _).mono ?_
 rintro e w1 ⟨hb1,o,m,k,rfl,_,heq⟩
 obtain ⟨hm,hrow⟩:=heq rfl
 subst hm
 have HB1:Hid _:=HB0.out.trans (hb1.mono HB0.out.size)
 have hW1:=(hb1.block _ (lt_of_block HW0.out)).trans HW0.out
 have HR1:Hid _:=(hb1.block _ (lt_of_block HR0.out)).trans HR0.out
 obtain ⟨cg,hcs⟩:=zah hrow HBY.out
 have HCALL:=HRUN.out w1 o cg 0 k (HX.out.below HB1.out) hcs
 have q0:w1.cell? ⟨w.heap.size,0,none⟩=some (J Z xa):=by rw [cell_of_row _ _ _ _ _ _ hW1];rfl
 have q1:w1.cell? ⟨w.heap.size,1,none⟩=some (J Z xb):=by rw [cell_of_row _ _ _ _ _ _ hW1];rfl
 have q2:w1.cell? ⟨w.heap.size,2,none⟩=some (J Z xd):=by rw [cell_of_row _ _ _ _ _ _ hW1];rfl
 have q3:w1.cell? ⟨w.heap.size,3,none⟩=some (O xdo xdl xdc):=by rw [cell_of_row _ _ _ _ _ _ hW1];rfl
 have q4:w1.cell? ⟨w.heap.size,4,none⟩=some (O xao xal.length xac):=by rw [cell_of_row _ _ _ _ _ _ hW1];rfl
 have q5:w1.cell? ⟨w.heap.size,5,none⟩=some (O xpo xpl xpcp):=by rw [cell_of_row _ _ _ _ _ _ hW1];rfl
 have hxl:(X.length:Int)<=32000:=by have:=HLN.out;omega
 have hxd:decide ((32000:Int)<(X.length:Int))=false:=decide_eq_false (by omega)
 clear hb1 heq hW1 hrow hcs
 go_wp2_with fail
 refine HCALL.mono ?_
 rintro e w2 ⟨hb2,o2,m2,k2,rfl,_,heq2⟩
 obtain ⟨hm2,hrow2⟩:=heq2 rfl
 simp only at hm2 hrow2
 subst hm2
 have HB2:Hid _:=HB1.out.trans (hb2.mono HB1.out.size)
 have HR2:Hid _:=(hb2.block _ (lt_of_block HR1.out)).trans HR1.out
 have HROW:Hid (w2.ownsRow w.heap.size 3 1 (O o2 sv.length k2) sv.length (sv.map (J Z))):=yk hrow2 HB1.out.size
 have hlt2:w.heap.size+1<w2.heap.size:=lt_of_block HR2.out
 have HA3:Hid ((w2.alloc (Q #[O o2 sv.length k2,J Z t,J Z c] 42)).heap[w2.heap.size]?=some (Q #[O o2 sv.length k2,J Z t,J Z c] 42 (0,0))):=heap_alloc_new _ _
 have HR3:Hid ((w2.alloc (Q #[O o2 sv.length k2,J Z t,J Z c] 42)).heap[w.heap.size+1]?=some (Q #[O none 0 0,J Z 0,J Z 0] 42 (0,0))):=by show _=_;rw [Below.heap_alloc _ _ _ hlt2];exact HR2.out
 have HB3:Hid (Below w.heap.size w (w2.alloc (Q #[O o2 sv.length k2,J Z t,J Z c] 42))):=HB2.out.alloc HB2.out.size _
 have HROW3:Hid ((w2.alloc (Q #[O o2 sv.length k2,J Z t,J Z c] 42)).ownsRow w.heap.size 3 1 (O o2 sv.length k2) sv.length (sv.map (J Z))):=HROW.out.alloc _
 clear hb2 heq2 hrow2
 simp only
 go_wp2_with fail
 generalize w2.alloc (Q #[O o2 sv.length k2,J Z t,J Z c] 42)=w3 at *
 have a0:w3.cell? ⟨w2.heap.size,0,none⟩=some (O o2 sv.length k2):=by rw [cell_of_row _ _ _ _ _ _ HA3.out];rfl
 have a1:w3.cell? ⟨w2.heap.size,1,none⟩=some (J Z t):=by rw [cell_of_row _ _ _ _ _ _ HA3.out];rfl
 have a2:w3.cell? ⟨w2.heap.size,2,none⟩=some (J Z c):=by rw [cell_of_row _ _ _ _ _ _ HA3.out];rfl
 have y0:w3.cell? ⟨w.heap.size+1,0,none⟩=some (O none 0 0):=by rw [cell_of_row _ _ _ _ _ _ HR3.out];rfl
 have y1:w3.cell? ⟨w.heap.size+1,1,none⟩=some (J Z 0):=by rw [cell_of_row _ _ _ _ _ _ HR3.out];rfl
 have y2:w3.cell? ⟨w.heap.size+1,2,none⟩=some (J Z 0):=by rw [cell_of_row _ _ _ _ _ _ HR3.out];rfl
 have z0:w3.frozen? ⟨w.heap.size+1,0,none⟩=false:=by simp [World.frozen?,HR3.out]
 have z1:w3.frozen? ⟨w.heap.size+1,1,none⟩=false:=by simp [World.frozen?,HR3.out]
 have z2:w3.frozen? ⟨w.heap.size+1,2,none⟩=false:=by simp [World.frozen?,HR3.out]
 have hne:w2.heap.size≠w.heap.size+1:=by omega
 clear q0 q1 q2 q3 q4 q5 hxl hxd HCALL
 go_region
 all_goals
  go_wp2_with fail
  have HBE:=yU (x':=O o2 sv.length k2) (y':=J Z t) (z':=J Z c) (w:=w3) HR3.out
  refine bodyPost_ret (v:=.tuple #[.agg #[O o2 sv.length k2,J Z t,J Z c],.bool true]) ?_ rfl ⟨(((HB3.out.setCell (by simp only;omega) _).setCell (by simp only;omega) _).setCell (by simp only;omega) _).drew,o2,k2,rfl,?_⟩
  ·rw [results_cell_tmp Tryz.results22]
   have h5:∀ we:World,(asAddr (.pointer (some ⟨w.heap.size+1,0,none⟩))).run Tryz.prog we=.ok ⟨w.heap.size+1,0,none⟩ we:=fun _=>rfl
   have h6:=run_loadVar_row (P:=Tryz.prog) (((w3.setCell ⟨w.heap.size+1,0,none⟩ (O o2 sv.length k2)).setCell ⟨w.heap.size+1,1,none⟩ (J Z t)).setCell ⟨w.heap.size+1,2,none⟩ (J Z c)).drew (w.heap.size+1) 42 42 #[O o2 sv.length k2,J Z t,J Z c] (0,0) _ HBE Tryz.underlying42 rfl (by kernel_rfl)
   show ((asAddr (.pointer (some ⟨w.heap.size+1,0,none⟩))).run Tryz.prog _).andThen _=_
   rw [h5,Result.andThen_ok,h6,Result.andThen_ok]
   rfl
  ·have hne:(O o2 sv.length k2).ownBlock≠some (w.heap.size+1):=zs HROW3.out HR3.out (by decide)
   refine zh HROW3.out (fun g hg=>?_)
   have hgn:g≠w.heap.size+1:=fun e=>hne (by rw [<- e];exact hg)
   show (((w3.setCell ⟨w.heap.size+1,0,none⟩ (O o2 sv.length k2)).setCell ⟨w.heap.size+1,1,none⟩ (J Z t)).setCell ⟨w.heap.size+1,2,none⟩ (J Z c)).heap[g]?=_
   rw [za hgn,za hgn,za hgn]
def Yi (s:ByteArray):Bool:=cpE s==0
theorem zdx (s:ByteArray):Yi s=((cSz s).2==0 && decide ((cSz s).1<=1000)):=by
 unfold Yi
 rw [zdB]
 by_cases h:(cSz s).2=0
 ·by_cases h2:1000<(cSz s).1
  ·rw [if_pos ⟨h,h2⟩,h];simp;omega
  ·rw [if_neg (by omega),h];simp;omega
 ·rw [if_neg (by omega)];simp [h]
theorem zbo (s:ByteArray) (w:World):Calls Tryz.prog 11 #[.string s] w fun e w'=>e=.returned (.bool (Yi s))/\Below w.heap.size w w':=by
 have hd:=fun wz=>zav s wz
 have HF:Hid (Yi s=((cSz s).2==0 && decide ((cSz s).1<=1000))):=zdx s
 obtain ⟨z,hz⟩:∃ z,cSz s=z:=⟨_,rfl⟩
 rw [hz] at hd HF
 clear hz
 obtain ⟨z1,z2⟩:=z
 simp only at HF hd
 go_enter Tryz.func11,Tryz.ntmps11
 go_wp2_with fail
 refine (hd _).mono ?_
 rintro e w2 ⟨hb2,rfl⟩
 have HB2:Hid _:=hb2
 clear hb2 hd
 cases h2:(z2==0) with
 | true =>
  have HF2:Hid (Yi s=decide (z1<=1000)):=by show _=_;rw [HF.out,h2];rfl
  go_wp2_with fail
  go_ret
  exact ⟨by rw [HF2.out];rfl,HB2.out⟩
 | false =>
  have HF2:Hid (Yi s=false):=by show _=_;rw [HF.out,h2];rfl
  go_wp2_with fail
  go_ret
  exact ⟨by rw [HF2.out];rfl,HB2.out⟩
theorem zdI (a b d:Int):Zm a b d=(M.isA a && (M.isA d && (decide (0<=b) && decide (b<=32)))):=by
 unfold Zm M.isA
 by_cases h1:0<=a<;>by_cases h2:a<4294967296<;>by_cases h3:0<=b<;>by_cases h4:b<=32<;>by_cases h5:0<=d<;>by_cases h6:d<4294967296<;>simp [h1,h2,h3,h4,h5,h6]
theorem zaz (a b d:Int) (w:World):Calls Tryz.prog 21 #[J Z a,J Z b,J Z d] w fun e w'=>e=.returned (.bool (Zm a b d))/\w'=w:=by
 have HE:Hid (Zm a b d=(M.isA a && (M.isA d && (decide (0<=b) && decide (b<=32))))):=zdI a b d
 go_enter Tryz.func21,Tryz.ntmps21
 go_wp2_with fail
 refine (Y4 a _).mono ?_
 rintro e w' ⟨rfl,hw'⟩
 subst w'
 generalize M.isA a=q at *
 cases q with
 | false =>
  go_wp2_with fail
  go_ret
  exact ⟨by rw [HE.out];rfl,rfl⟩
 | true =>
  go_wp2_with fail
  refine (Y4 d _).mono ?_
  rintro e w' ⟨rfl,hw'⟩
  subst w'
  generalize M.isA d=q2 at *
  cases q2 with
  | false =>
   go_wp2_with fail
   go_ret
   exact ⟨by rw [HE.out];rfl,rfl⟩
  | true =>
   by_cases h1:0<=b
   ·by_cases h2:b<=32
    ·have HE2:Hid (Zm a b d=true):=by show _=_;rw [HE.out];simp [h1,h2]
     go_wp2_with fail
     go_ret
     exact ⟨by rw [HE2.out];rfl,rfl⟩
    ·have HE2:Hid (Zm a b d=false):=by show _=_;rw [HE.out];simp [h2]
     have h2':decide (b<=32)=false:=decide_eq_false h2
     go_wp2_with fail
     go_ret
     exact ⟨by rw [HE2.out];rfl,rfl⟩
   ·have HE2:Hid (Zm a b d=false):=by show _=_;rw [HE.out];simp [h1]
    have h1':decide (0<=b)=false:=decide_eq_false h1
    go_wp2_with fail
    go_ret
    exact ⟨by rw [HE2.out];rfl,rfl⟩
theorem qg (o1 o2:Option Addr) (c1 c2 n:Nat) (D:Nat->Int) (b1 f1 b2 f2:Nat) (w:World) (hn:n<=9223372036854775807) (h1:IS w o1 b1 f1 n D) (h2:IS w o2 b2 f2 n D) :
 Calls Tryz.prog 47 #[O o1 n c1,O o2 n c2] w fun e w'=>e=.returned (.bool true)/\Below w.heap.size w w':=by
 have H1:Hid _:=h1
 have H2:Hid _:=h2
 clear h1 h2
 go_enter Tryz.func47,Tryz.ntmps47
 go_wp2_with fail
 go_loopg [5] n (fun q y wr=>∃ k:Nat,q+k=n/\y=J Z k/\Below w.heap.size w wr)
 case atStart=>exact ⟨0,by omega,rfl,Below.refl _ _⟩
 case round =>
  obtain ⟨k,hq,rfl,hb⟩:=hrel
  have HB:Hid _:=hb
  clear hb
  by_cases hlt:k<n
  ·have hlt':(k:Int)<(n:Int):=by omega
   have hk0:(0:Int)<=(k:Int):=by omega
   obtain rfl:=H1.out.at_ (by omega)
   obtain rfl:=H2.out.at_ (by omega)
   have v1:=(H1.out.below HB.out H1.out.lt).val k hlt
   have v2:=(H2.out.below HB.out H2.out.lt).val k hlt
   generalize D k=x at *
   go_wp2_with fail
   go_quiet (fail)
   go_wp2_with fail
   go_roundg (gk-1)
   case measure=>omega
   case rel=>exact ⟨k+1,by omega,by go_num,yn HB.out _⟩
  ·have hlt':¬ (k:Int)<(n:Int):=by omega
   go_wp2_with fail
   go_ret
   exact ⟨rfl,HB.out⟩
theorem JF (o1 o2:Option Addr) (c1 c2 n:Nat) (t s:Int) (D:Nat->Int) (b1 f1 b2 f2:Nat) (w:World) (hn:n<=9223372036854775807) (h1:IS w o1 b1 f1 n D) (h2:IS w o2 b2 f2 n D) :
 Calls Tryz.prog 23 #[.agg #[O o1 n c1,J Z t,J Z s],.agg #[O o2 n c2,J Z t,J Z s]] w fun e w'=>e=.returned (.bool true)/\Below w.heap.size w w':=by
 have HB0:Hid (Below w.heap.size w ((w.alloc (Q #[O o1 n c1,J Z t,J Z s] 42)).alloc (Q #[O o2 n c2,J Z t,J Z s] 42))):=((Below.refl _ _).alloc (Nat.le_refl _) _).alloc (by simp) _
 have HX1:Hid (((w.alloc (Q #[O o1 n c1,J Z t,J Z s] 42)).alloc (Q #[O o2 n c2,J Z t,J Z s] 42)).heap[w.heap.size]?=some (Q #[O o1 n c1,J Z t,J Z s] 42 (0,0))):=by show _=_;rw [Below.heap_alloc _ _ _ (by simp)];exact heap_alloc_new w _
 have HX2:Hid (((w.alloc (Q #[O o1 n c1,J Z t,J Z s] 42)).alloc (Q #[O o2 n c2,J Z t,J Z s] 42)).heap[w.heap.size+1]?=some (Q #[O o2 n c2,J Z t,J Z s] 42 (0,0))):=zy _ (by simp)
 have H1:Hid _:=h1
 have H2:Hid _:=h2
 clear h1 h2
 go_enter Tryz.func23,Tryz.ntmps23
 go_wp2_with fail
 refine (qg o1 o2 c1 c2 n D b1 f1 b2 f2 _ hn (H1.out.below HB0.out H1.out.lt) (H2.out.below HB0.out H2.out.lt)).mono ?_
 rintro e w1 ⟨rfl,hb1⟩
 have HB1:Hid _:=HB0.out.trans (hb1.mono HB0.out.size)
 have hx1:=(hb1.block _ (lt_of_block HX1.out)).trans HX1.out
 have hx2:=(hb1.block _ (lt_of_block HX2.out)).trans HX2.out
 have p1:w1.cell? ⟨w.heap.size,1,none⟩=some (J Z t):=by rw [cell_of_row _ _ _ _ _ _ hx1];rfl
 have p2:w1.cell? ⟨w.heap.size,2,none⟩=some (J Z s):=by rw [cell_of_row _ _ _ _ _ _ hx1];rfl
 have q1:w1.cell? ⟨w.heap.size+1,1,none⟩=some (J Z t):=by rw [cell_of_row _ _ _ _ _ _ hx2];rfl
 have q2:w1.cell? ⟨w.heap.size+1,2,none⟩=some (J Z s):=by rw [cell_of_row _ _ _ _ _ _ hx2];rfl
 clear hb1 hx1 hx2
 go_wp2_with fail
 go_ret
 exact ⟨rfl,HB1.out⟩
def WD.mn (x:WD) (s:ByteArray):MN:=mnN x.rw (zA s).es (zA s).es.length
def WD.an (x:WD) (s:ByteArray):List Int×Int×Int:=((x.mn s).sv,ZK (x.mn s).ttl 86400,nar (x.mn s).sc 0)
theorem Qw {x:WD} (h:x.right=true):M.isA x.a=true/\0<=x.b/\x.b<=32/\0<=x.d/\x.d<4294967296/\Zd x.V x.L x.R x.pl=true:=by
 have h1:Zm x.a x.b x.d=true/\Zd x.V x.L x.R x.pl=true:=by simpa [WD.right,ZV] using h
 have h2:M.isA x.a=true/\0<=x.b/\x.b<=32/\0<=x.d/\x.d<4294967296:=by simpa [Zm] using h1.1
 exact ⟨h2.1,h2.2.1,h2.2.2.1,h2.2.2.2.1,h2.2.2.2.2,h1.2⟩
theorem zcs {V L R:Nat->Int} {n:Nat} (h:Zd V L R n=true):∀ i,i<n->M.isP (V i) (L i)=true:=fun i hi=>by
 obtain ⟨_,_,hm⟩:=qV h
 have:n<=64/\M.okTo V L n=true:=by simpa [M.isMap] using hm
 exact (M.okTo_iff.1 this.2 i hi).1
theorem zdA {x:WD} (h:x.right=true):0<=x.rw.dep/\x.rw.dep<=32:=by
 obtain ⟨_,_,_,_,_,hp⟩:=Qw h
 exact ⟨M.depTo_pos,M.depTo_le (fun i hi=>(M.isP_iff.1 (zcs hp i hi)).2.1)⟩
theorem zbp {s:ByteArray} (h:Yi s=true):cpE s=0:=by simpa [Yi] using h
theorem zaS {x:WD} {s:ByteArray} (hf:Yi s=true) (hr:x.right=true):∃ k:Nat,1<=k/\k<=(cpX s).length/\(∀ f:Int,0<=f->f<k->x.ru (cpX s) f=(11,[],0,0))/\(∀ f:Int,(k:Int)<=f->x.ru (cpX s) f=(0,x.an s)):=by
 obtain ⟨h1,h2,_,_⟩:=XX (zbp hf)
 obtain ⟨k,hk,r1,r2,r3⟩:=zdj (W:=x.rw) h1 h2
 have e:∀ f:Int,0<=f->x.ru (cpX s) f=YU x.rw (cpX s) f.toNat rt0:=fun f h0=>by
  unfold WD.ru ruF
  rw [if_neg (by omega),if_pos (show ZV x.a x.b x.d x.V x.L x.R x.pl=true from hr)];rfl
 refine ⟨k,r1,hk,fun f h0 hfk=>?_,fun f hfk=>?_⟩
 ·rw [e f h0];exact r2 f.toNat (by omega)
 ·rw [e f (by omega)];exact r3 f.toNat (by omega)
theorem zd2 {x:WD} {s:ByteArray} (hf:Yi s=true) (hr:x.right=true):1<=(x.an s).2.1/\(x.an s).2.1<=86400/\0<=(x.an s).2.2/\(x.an s).2.2<=32/\(x.an s).2.1=(x.mn s).ttl/\(x.an s).2.2=(x.mn s).sc:=by
 obtain ⟨h1,_,_,_⟩:=XX (zbp hf)
 obtain ⟨hp,hg⟩:=Qb h1
 obtain ⟨d0,d1⟩:=zdA hr
 have hb:=zdW d0 d1 hg
 rw [Nat.sub_add_cancel hp] at hb
 have hb2:1<=(x.mn s).ttl/\(x.mn s).ttl<=86400/\0<=(x.mn s).sc/\(x.mn s).sc<=32:=hb
 unfold WD.an ZK nar
 simp only
 refine ⟨?_,?_,?_,?_,?_,?_⟩
 all_goals (split<;>omega)
theorem zaT {x:WD} {s:ByteArray} (hf:Yi s=true) (hr:x.right=true):x.ru (cpX s) (cpX s).length=(0,x.an s):=by
 obtain ⟨k,_,hk,_,h⟩:=zaS hf hr
 exact h _ (by omega)
end Go.Proofs.YtaebngpoagjafabGreat
