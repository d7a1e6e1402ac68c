/-
  OUR OWN.
-/
import Derived.Test.YtaebngpoagjafaaGreatU42
import Derived.BigRegion
import Derived.Test.YtaebngpoagjafaaGreatU01
import Derived.Test.YtaebngpoagjafaaGreatU15
set_option maxRecDepth 100000
namespace Go.Proofs.YtaebngpoagjafaaGreat
open Go.RowKit
theorem byt_num (n:Int) (k:Nat):∀ x∈numB n k,0<=x/\x<256:=by
 induction k generalizing n with
 | zero=>intro x hx;simp [numB] at hx
 | succ k ih =>
   intro x hx
   simp only [numB,List.mem_cons] at hx
   rcases hx with rfl | hx
   · omega
   · exact ih _ x hx
theorem byt_enc (es:List EX):∀ n,∀ x∈encN es n,0<=x/\x<256:=by
 intro n
 induction n using Nat.strongRecOn with
 | ind n ih =>
   cases n with
   | zero=>intro x hx;simp [encN] at hx
   | succ j =>
     cases he:es[j]? with
     | none=>intro x hx;simp [encN,he] at hx
     | some e =>
       have hat:∀ i,∀ x∈atL (encK es j) i,0<=x/\x<256:=by
         intro i x hx
         rw [atL_enc] at hx
         split at hx
         · simp at hx
         · split at hx
           · exact ih _ (by omega) x hx
           · simp at hx
       have hw:∀ k,∀ x∈withinL (encK es j) e k,0<=x/\x<256:=by
         intro k
         induction k with
         | zero=>exact hat _
         | succ k ihk =>
           intro x hx
           simp only [withinL,List.mem_append] at hx
           rcases hx with hx | hx
           · exact ihk x hx
           · cases hi:e.items[k]? with
             | none=>rw [hi] at hx;simp at hx
             | some y=>rw [hi] at hx;exact hat _ x hx
       have hh:∀ k,∀ x∈headL (encK es j) e k,0<=x/\x<256:=by
         intro k
         induction k with
         | zero =>
           intro x hx
           simp only [headL,exprB,List.mem_append] at hx
           rcases hx with hx | hx
           · exact byt_num _ _ x hx
           · repeat' split at hx
             all_goals exact byt_num _ _ x hx
         | succ k ihk =>
           intro x hx
           simp only [headL,List.mem_append] at hx
           rcases hx with hx | hx
           · exact ihk x hx
           · cases hi:e.items[k]? with
             | none=>rw [hi] at hx;simp at hx
             | some y =>
               rw [hi] at hx
               simp only [itemB] at hx
               repeat' split at hx
               all_goals (try simp only [List.mem_append] at hx)
               · rcases hx with (hx | hx) | hx<;>exact byt_num _ _ x hx
               · rcases hx with hx | hx<;>exact byt_num _ _ x hx
               · rcases hx with hx | hx<;>exact byt_num _ _ x hx
               · exact byt_num _ _ x hx
       intro x hx
       simp only [encN,he,encE] at hx
       split at hx
       · exact hat _ x hx
       · rcases List.mem_append.1 hx with hx | hx
         · exact hh _ x hx
         · exact hw _ x hx
theorem cs_of_row {w:World} {base:Nat} {o:Option Addr} {k:Nat} {X:List Int} (h:w.ownsRow base 5 1 (.slice o X.length k) X.length (X.map (Value.int .u8))) (hb:∀ x∈X,0<=x/\x<256):∃ g,CS w w.heap.size o g 0 X:=by
 rcases Nat.eq_zero_or_pos X.length with h0 | h0
 · exact ⟨0,⟨fun h=>by omega,fun h=>by omega,fun i x hx=>by have:=(List.getElem?_eq_some_iff.1 hx).1;omega,hb⟩⟩
 · obtain ⟨g,kk,hg,_,hl⟩:=h.form h0
   obtain ⟨ho,_⟩:o=some ⟨g,0,none⟩/\k=kk:=by cases hg;exact ⟨rfl,rfl⟩
   subst ho
   refine ⟨g,⟨fun _=>rfl,fun _=>hl,fun i x hx=>?_,hb⟩⟩
   have hi:=(List.getElem?_eq_some_iff.1 hx).1
   rw [Nat.zero_add,World.ownsRow.cellAt h i (by omega),List.getElem?_map,hx];rfl
theorem is_of_row {w:World} {base:Nat} {o:Option Addr} {k:Nat} {l:List Int} (h:w.ownsRow base 3 1 (.slice o l.length k) l.length (l.map (Value.int .i64))):∃ g,IS w o g 0 l.length (fun i=>(l[i]?).getD 0):=by
 rcases Nat.eq_zero_or_pos l.length with h0 | h0
 · exact ⟨0,⟨fun h=>by omega,fun h=>by omega,fun i hi=>by omega⟩⟩
 · obtain ⟨g,kk,hg,_,hl⟩:=h.form h0
   obtain ⟨ho,_⟩:o=some ⟨g,0,none⟩/\k=kk:=by cases hg;exact ⟨rfl,rfl⟩
   subst ho
   refine ⟨g,⟨fun _=>rfl,fun _=>hl,fun i hi=>?_⟩⟩
   rw [Nat.zero_add,World.ownsRow.cellAt h i (by omega),List.getElem?_map,List.getElem?_eq_getElem hi];rfl
attribute [local go_sem ↓] Go.wp_at_zero Go.wp_at_succ
set_option maxHeartbeats 800000 in
theorem refused_any (s:ByteArray) (x:WD) (w:World) (hx:x.In w) (h:fitB s=false\/x.right=false) :
   Calls Tryz.prog 15 #[.string s,x.val,.bool (fitB s)] w fun e w'=>e=.returned (.bool true)/\Below w.heap.size w w':=by
 have HX:Hid (x.In w):=hx
 have HF:Hid (fitB s=(cpE s==0)):=rfl
 have HRT:Hid (fitB s=false\/x.right=false):=h
 have HLN:Hid (cpE s=0->(cChk s).1=0/\szR (cAll s).es (cAll s).es.length<=1000/\1<=(cpX s).length/\(cpX s).length<=7000):=cp_len
 have HBY:Hid (∀ y∈cpX s,0<=y/\y<256):=byt_enc _ _
 have HCP:Hid (∀ wz,Calls Tryz.prog 25 #[.string s] wz (CpTo wz (cpE s) (cpX s))):=fun wz=>Compile_any s wz
 have HRUN:Hid (∀ (wz:World) (o:Option Addr) (cb coff k:Nat) (f:Int),(cpX s).length<=7000->f<=7000->x.In wz->CS wz wz.heap.size o cb coff (cpX s)->Calls Tryz.prog 26 #[.slice o (cpX s).length k,x.val,.int .i64 f] wz (RuTo wz (x.ru (cpX s) f))):=fun wz o cb coff k f h1 h2 h3 h4=>Run_any x o cb coff k (cpX s) f wz (by omega) (by omega) h3 h4
 have HRU:Hid (∀ f:Int,x.right=false->x.ru (cpX s) f=(9,[],0,0)):=fun f hr=>by unfold WD.ru ruF;rw [show rightB x.a x.b x.d x.V x.L x.R x.pl=false from hr];simp
 clear h hx
 obtain ⟨X,HXX⟩:∃ X,Hid (cpX s=X):=⟨_,rfl⟩
 rw [HXX.out] at HLN HBY HCP HRUN HRU
 obtain ⟨E,HE⟩:∃ E,Hid (cpE s=E):=⟨_,rfl⟩
 rw [HE.out] at HF HLN HCP
 obtain ⟨F,HFF⟩:∃ F,Hid (fitB s=F):=⟨_,rfl⟩
 rw [HFF.out] at HF HRT ⊢
 unfold WD.val at HRUN ⊢
 obtain ⟨xa,xb,xd,xdo,xdb,xdoff,xdl,xdc,xDn,xao,xab,xaoff,xac,xal,xpo,xpb,xpoff,xpl,xpcp,xV,xL,xR⟩:=x
 simp only at HRUN ⊢
 have HB0:Hid (Below w.heap.size w (w.alloc (.cells #[.int .i64 xa,.int .i64 xb,.int .i64 xd,.slice xdo xdl xdc,.slice xao xal.length xac,.slice xpo xpl xpcp] 30))):=(Below.refl _ _).alloc (Nat.le_refl _) _
 have HW0:Hid ((w.alloc (.cells #[.int .i64 xa,.int .i64 xb,.int .i64 xd,.slice xdo xdl xdc,.slice xao xal.length xac,.slice xpo xpl xpcp] 30)).heap[w.heap.size]?=some (.cells #[.int .i64 xa,.int .i64 xb,.int .i64 xd,.slice xdo xdl xdc,.slice xao xal.length xac,.slice xpo xpl xpcp] 30 (0,0))):=heap_alloc_new w _
 go_enter Tryz.func15,Tryz.ntmps15
 go_wp2_with fail
 refine (HCP.out _).mono ?_
 rintro e w1 ⟨hb1,o,m,k,rfl,hne,heq⟩
 have HB1:Hid (Below w.heap.size w w1):=HB0.out.trans (hb1.mono HB0.out.size)
 have hW1:=(hb1.block _ (lt_of_block HW0.out)).trans HW0.out
 have HNE:Hid (E≠0->o=none/\m=0/\k=0):=hne
 have HEQ:Hid (E=0->m=X.length/\w1.ownsRow (w.heap.size+1) 5 1 (.slice o m k) X.length (X.map (Value.int .u8))):=by
   have h9:(w.alloc (.cells #[.int .i64 xa,.int .i64 xb,.int .i64 xd,.slice xdo xdl xdc,.slice xao xal.length xac,.slice xpo xpl xpcp] 30)).heap.size=w.heap.size+1:=by simp
   rw [h9] at heq;exact heq
 have q0:w1.cell? ⟨w.heap.size,0,none⟩=some (.int .i64 xa):=by rw [cell_of_row _ _ _ _ _ _ hW1];rfl
 have q1:w1.cell? ⟨w.heap.size,1,none⟩=some (.int .i64 xb):=by rw [cell_of_row _ _ _ _ _ _ hW1];rfl
 have q2:w1.cell? ⟨w.heap.size,2,none⟩=some (.int .i64 xd):=by rw [cell_of_row _ _ _ _ _ _ hW1];rfl
 have q3:w1.cell? ⟨w.heap.size,3,none⟩=some (.slice xdo xdl xdc):=by rw [cell_of_row _ _ _ _ _ _ hW1];rfl
 have q4:w1.cell? ⟨w.heap.size,4,none⟩=some (.slice xao xal.length xac):=by rw [cell_of_row _ _ _ _ _ _ hW1];rfl
 have q5:w1.cell? ⟨w.heap.size,5,none⟩=some (.slice xpo xpl xpcp):=by rw [cell_of_row _ _ _ _ _ _ hW1];rfl
 clear hb1 hne heq hW1
 have hnil:=fun wz=>nil_eql 48 5 Tryz.underlying48 wz
 have hnil2:=fun wz=>nil_eql 25 3 Tryz.underlying25 wz
 cases F with
 | false =>
   have hE:(E==0)=false:=HF.out.symm
   have hE':(E != 0)=true:=by simp [bne,hE]
   obtain ⟨rfl,rfl,rfl⟩:=HNE.out (by simpa using hE)
   go_wp2_with fail
   go_ret
   exact ⟨rfl,HB1.out⟩
 | true =>
   have hE0:E=0:=by have:=HF.out;simpa using this.symm
   subst hE0
   obtain ⟨hm,hrow⟩:=HEQ.out rfl
   subst hm
   obtain ⟨_,_,_,hl2⟩:=HLN.out rfl
   obtain ⟨cg,hcs⟩:=cs_of_row hrow HBY.out
   have HCS:Hid (CS w1 w1.heap.size o cg 0 X):=hcs
   have hr:WD.right ⟨xa,xb,xd,xdo,xdb,xdoff,xdl,xdc,xDn,xao,xab,xaoff,xac,xal,xpo,xpb,xpoff,xpl,xpcp,xV,xL,xR⟩=false:=by
     rcases HRT.out with h | h
     · cases h
     · exact h
   have hru:=HRU.out (X.length:Int) hr
   have HCALL:=HRUN.out w1 o cg 0 k (X.length:Int) hl2 (by omega) (HX.out.below HB1.out) HCS.out
   rw [hru] at HCALL
   clear hrow hcs hr hru
   go_wp2_with fail
   refine HCALL.mono ?_
   rintro e w2 ⟨hb2,o2,m2,k2,rfl,hne2,_⟩
   obtain ⟨rfl,rfl,rfl⟩:=hne2 (by decide)
   have HB2:Hid (Below w.heap.size w w2):=HB1.out.trans (hb2.mono HB1.out.size)
   have HB3:Hid (Below w.heap.size w (w2.alloc (.cells #[.slice none 0 0,.int .i64 0,.int .i64 0] 35))):=HB2.out.alloc HB2.out.size _
   clear hb2 hne2
   simp only
   go_wp2_with fail
   go_ret
   exact ⟨rfl,HB3.out⟩
end Go.Proofs.YtaebngpoagjafaaGreat
namespace Go.Proofs.YtaebngpoagjafaaGreat
open Go.RowKit
def AnTo (w:World) (sv:List Int) (t c:Int) (r:Ending) (w':World):Prop:=Below w.heap.size w w'/\∃ o k,r=.returned (.tuple #[.agg #[.slice o sv.length k,.int .i64 t,.int .i64 c],.bool true])/\w'.ownsRow w.heap.size 3 1 (.slice o sv.length k) sv.length (sv.map (Value.int .i64))
attribute [local go_sem ↓] Go.wp_at_zero Go.wp_at_succ
set_option maxHeartbeats 1600000 in
theorem answer_ok (s:ByteArray) (x:WD) (sv:List Int) (t c:Int) (w:World) (hx:x.In w) (hE:cpE s=0) (hR:x.ru (cpX s) (cpX s).length=(0,sv,t,c)) (t0:1<=t) (t1:t<=86400) (c0:0<=c) (c1:c<=32) :
   Calls Tryz.prog 16 #[.string s,x.val] w (AnTo w sv t c):=by
 have HX:Hid (x.In w):=hx
 have HLN:Hid ((cpX s).length<=7000):=(cp_len hE).2.2.2
 have HBY:Hid (∀ y∈cpX s,0<=y/\y<256):=byt_enc _ _
 have HCP:Hid (∀ wz,Calls Tryz.prog 25 #[.string s] wz (CpTo wz 0 (cpX s))):=fun wz=>by have:=Compile_any s wz;rw [hE] at this;exact this
 have HRUN:Hid (∀ (wz:World) (o:Option Addr) (cb coff k:Nat),x.In wz->CS wz wz.heap.size o cb coff (cpX s)->Calls Tryz.prog 26 #[.slice o (cpX s).length k,x.val,.int .i64 (cpX s).length] wz (RuTo wz (0,sv,t,c))):=fun wz o cb coff k h3 h4=>by
   have:=Run_any x o cb coff k (cpX s) (cpX s).length wz (by have:=HLN.out;omega) (by have:=HLN.out;omega) h3 h4
   rw [hR] at this;exact this
 clear hx hR hE
 obtain ⟨X,HXX⟩:∃ X,Hid (cpX s=X):=⟨_,rfl⟩
 rw [HXX.out] at HLN HBY HCP HRUN
 unfold WD.val at HRUN ⊢
 obtain ⟨xa,xb,xd,xdo,xdb,xdoff,xdl,xdc,xDn,xao,xab,xaoff,xac,xal,xpo,xpb,xpoff,xpl,xpcp,xV,xL,xR⟩:=x
 simp only at HRUN ⊢
 have HB0:Hid (Below w.heap.size w ((w.alloc (.cells #[.int .i64 xa,.int .i64 xb,.int .i64 xd,.slice xdo xdl xdc,.slice xao xal.length xac,.slice xpo xpl xpcp] 30)).alloc (.cells #[.slice none 0 0,.int .i64 0,.int .i64 0] 35))):=((Below.refl _ _).alloc (Nat.le_refl _) _).alloc (by simp) _
 have HW0:Hid (((w.alloc (.cells #[.int .i64 xa,.int .i64 xb,.int .i64 xd,.slice xdo xdl xdc,.slice xao xal.length xac,.slice xpo xpl xpcp] 30)).alloc (.cells #[.slice none 0 0,.int .i64 0,.int .i64 0] 35)).heap[w.heap.size]?=some (.cells #[.int .i64 xa,.int .i64 xb,.int .i64 xd,.slice xdo xdl xdc,.slice xao xal.length xac,.slice xpo xpl xpcp] 30 (0,0))):=by show _=_;rw [Below.heap_alloc _ _ _ (by simp)];exact heap_alloc_new w _
 have HR0:Hid (((w.alloc (.cells #[.int .i64 xa,.int .i64 xb,.int .i64 xd,.slice xdo xdl xdc,.slice xao xal.length xac,.slice xpo xpl xpcp] 30)).alloc (.cells #[.slice none 0 0,.int .i64 0,.int .i64 0] 35)).heap[w.heap.size+1]?=some (.cells #[.slice none 0 0,.int .i64 0,.int .i64 0] 35 (0,0))):=heap_alloc_at _ (by simp)
 go_enter Tryz.func16,Tryz.ntmps16
 go_wp2_with fail
 refine (HCP.out _).mono ?_
 rintro e w1 ⟨hb1,o,m,k,rfl,_,heq⟩
 obtain ⟨hm,hrow⟩:=heq rfl
 subst hm
 have HB1:Hid (Below w.heap.size w w1):=HB0.out.trans (hb1.mono HB0.out.size)
 have hW1:=(hb1.block _ (lt_of_block HW0.out)).trans HW0.out
 have HR1:Hid (w1.heap[w.heap.size+1]?=some (.cells #[.slice none 0 0,.int .i64 0,.int .i64 0] 35 (0,0))):=(hb1.block _ (lt_of_block HR0.out)).trans HR0.out
 obtain ⟨cg,hcs⟩:=cs_of_row hrow HBY.out
 have HCALL:=HRUN.out w1 o cg 0 k (HX.out.below HB1.out) hcs
 have q0:w1.cell? ⟨w.heap.size,0,none⟩=some (.int .i64 xa):=by rw [cell_of_row _ _ _ _ _ _ hW1];rfl
 have q1:w1.cell? ⟨w.heap.size,1,none⟩=some (.int .i64 xb):=by rw [cell_of_row _ _ _ _ _ _ hW1];rfl
 have q2:w1.cell? ⟨w.heap.size,2,none⟩=some (.int .i64 xd):=by rw [cell_of_row _ _ _ _ _ _ hW1];rfl
 have q3:w1.cell? ⟨w.heap.size,3,none⟩=some (.slice xdo xdl xdc):=by rw [cell_of_row _ _ _ _ _ _ hW1];rfl
 have q4:w1.cell? ⟨w.heap.size,4,none⟩=some (.slice xao xal.length xac):=by rw [cell_of_row _ _ _ _ _ _ hW1];rfl
 have q5:w1.cell? ⟨w.heap.size,5,none⟩=some (.slice xpo xpl xpcp):=by rw [cell_of_row _ _ _ _ _ _ hW1];rfl
 have hxl:(X.length:Int)<=32000:=by have:=HLN.out;omega
 have hxd:decide ((32000:Int)<(X.length:Int))=false:=decide_eq_false (by omega)
 clear hb1 heq hW1 hrow hcs
 go_wp2_with fail
 refine HCALL.mono ?_
 rintro e w2 ⟨hb2,o2,m2,k2,rfl,_,heq2⟩
 obtain ⟨hm2,hrow2⟩:=heq2 rfl
 simp only at hm2 hrow2
 subst hm2
 have HB2:Hid (Below w.heap.size w w2):=HB1.out.trans (hb2.mono HB1.out.size)
 have HR2:Hid (w2.heap[w.heap.size+1]?=some (.cells #[.slice none 0 0,.int .i64 0,.int .i64 0] 35 (0,0))):=(hb2.block _ (lt_of_block HR1.out)).trans HR1.out
 have HROW:Hid (w2.ownsRow w.heap.size 3 1 (.slice o2 sv.length k2) sv.length (sv.map (Value.int .i64))):=owns_mono hrow2 HB1.out.size
 have hlt2:w.heap.size+1<w2.heap.size:=lt_of_block HR2.out
 have HA3:Hid ((w2.alloc (.cells #[.slice o2 sv.length k2,.int .i64 t,.int .i64 c] 35)).heap[w2.heap.size]?=some (.cells #[.slice o2 sv.length k2,.int .i64 t,.int .i64 c] 35 (0,0))):=heap_alloc_new _ _
 have HR3:Hid ((w2.alloc (.cells #[.slice o2 sv.length k2,.int .i64 t,.int .i64 c] 35)).heap[w.heap.size+1]?=some (.cells #[.slice none 0 0,.int .i64 0,.int .i64 0] 35 (0,0))):=by show _=_;rw [Below.heap_alloc _ _ _ hlt2];exact HR2.out
 have HB3:Hid (Below w.heap.size w (w2.alloc (.cells #[.slice o2 sv.length k2,.int .i64 t,.int .i64 c] 35))):=HB2.out.alloc HB2.out.size _
 have HROW3:Hid ((w2.alloc (.cells #[.slice o2 sv.length k2,.int .i64 t,.int .i64 c] 35)).ownsRow w.heap.size 3 1 (.slice o2 sv.length k2) sv.length (sv.map (Value.int .i64))):=HROW.out.alloc _
 clear hb2 heq2 hrow2
 simp only
 go_wp2_with fail
 generalize w2.alloc (.cells #[.slice o2 sv.length k2,.int .i64 t,.int .i64 c] 35)=w3 at *
 have a0:w3.cell? ⟨w2.heap.size,0,none⟩=some (.slice o2 sv.length k2):=by rw [cell_of_row _ _ _ _ _ _ HA3.out];rfl
 have a1:w3.cell? ⟨w2.heap.size,1,none⟩=some (.int .i64 t):=by rw [cell_of_row _ _ _ _ _ _ HA3.out];rfl
 have a2:w3.cell? ⟨w2.heap.size,2,none⟩=some (.int .i64 c):=by rw [cell_of_row _ _ _ _ _ _ HA3.out];rfl
 have y0:w3.cell? ⟨w.heap.size+1,0,none⟩=some (.slice none 0 0):=by rw [cell_of_row _ _ _ _ _ _ HR3.out];rfl
 have y1:w3.cell? ⟨w.heap.size+1,1,none⟩=some (.int .i64 0):=by rw [cell_of_row _ _ _ _ _ _ HR3.out];rfl
 have y2:w3.cell? ⟨w.heap.size+1,2,none⟩=some (.int .i64 0):=by rw [cell_of_row _ _ _ _ _ _ HR3.out];rfl
 have z0:w3.frozen? ⟨w.heap.size+1,0,none⟩=false:=by simp [World.frozen?,HR3.out]
 have z1:w3.frozen? ⟨w.heap.size+1,1,none⟩=false:=by simp [World.frozen?,HR3.out]
 have z2:w3.frozen? ⟨w.heap.size+1,2,none⟩=false:=by simp [World.frozen?,HR3.out]
 have hne:w2.heap.size≠w.heap.size+1:=by omega
 clear q0 q1 q2 q3 q4 q5 hxl hxd HCALL
 go_region
 all_goals
   go_wp2_with fail
   have HBE:=blk3_store (x':=.slice o2 sv.length k2) (y':=.int .i64 t) (z':=.int .i64 c) (w:=w3) HR3.out
   refine bodyPost_ret (v:=.tuple #[.agg #[.slice o2 sv.length k2,.int .i64 t,.int .i64 c],.bool true]) ?_ rfl ⟨(((HB3.out.setCell (by simp only;omega) _).setCell (by simp only;omega) _).setCell (by simp only;omega) _).drew,o2,k2,rfl,?_⟩
   · rw [results_cell_tmp Tryz.results16]
     have h5:∀ we:World,(asAddr (.pointer (some ⟨w.heap.size+1,0,none⟩))).run Tryz.prog we=.ok ⟨w.heap.size+1,0,none⟩ we:=fun _=>rfl
     have h6:=run_loadVar_row (P:=Tryz.prog) (((w3.setCell ⟨w.heap.size+1,0,none⟩ (.slice o2 sv.length k2)).setCell ⟨w.heap.size+1,1,none⟩ (.int .i64 t)).setCell ⟨w.heap.size+1,2,none⟩ (.int .i64 c)).drew (w.heap.size+1) 35 35 #[.slice o2 sv.length k2,.int .i64 t,.int .i64 c] (0,0) _ HBE Tryz.underlying35 rfl (by kernel_rfl)
     show ((asAddr (.pointer (some ⟨w.heap.size+1,0,none⟩))).run Tryz.prog _).andThen _=_
     rw [h5,Result.andThen_ok,h6,Result.andThen_ok]
     rfl
   · have hne:(Value.slice o2 sv.length k2).ownBlock≠some (w.heap.size+1):=owns_ne HROW3.out HR3.out (by decide)
     refine owns_of_block HROW3.out (fun g hg=>?_)
     have hgn:g≠w.heap.size+1:=fun e=>hne (by rw [<- e];exact hg)
     show (((w3.setCell ⟨w.heap.size+1,0,none⟩ (.slice o2 sv.length k2)).setCell ⟨w.heap.size+1,1,none⟩ (.int .i64 t)).setCell ⟨w.heap.size+1,2,none⟩ (.int .i64 c)).heap[g]?=_
     rw [heap_set_ne hgn,heap_set_ne hgn,heap_set_ne hgn]
end Go.Proofs.YtaebngpoagjafaaGreat
namespace Go.Proofs.YtaebngpoagjafaaGreat
namespace M
end M
end Go.Proofs.YtaebngpoagjafaaGreat
namespace Go.Proofs.YtaebngpoagjafaaGreat
open Go.RowKit
def pkF (c n:Int):Int:=if c<0 then (-(c+1))%n else c%n
theorem pkF_bd {c n:Int} (h:0<n):0<=pkF c n/\pkF c n<n:=by
 unfold pkF
 split
 · exact ⟨Int.emod_nonneg _ (by omega),Int.emod_lt_of_pos _ h⟩
 · exact ⟨Int.emod_nonneg _ (by omega),Int.emod_lt_of_pos _ h⟩
set_option maxHeartbeats 400000 in
theorem pick_keep (c n:Int) (w:World) (c0:-9223372036854775808<=c) (c1:c<=9223372036854775807) (n0:0<n) (n1:n<=9223372036854775807) :
   Calls Tryz.prog 27 #[.int .i64 c,.int .i64 n] w fun e w'=>e=.returned (.int .i64 (pkF c n))/\w'=w:=by
 have hn:¬ n=0:=by omega
 by_cases h:c<0
 · have HP:Hid (pkF c n=(-(c+1))%n):=by show _=_;unfold pkF;rw [if_pos h]
   have hm:0<=(-(c+1))%n/\(-(c+1))%n<n:=⟨Int.emod_nonneg _ (by omega),Int.emod_lt_of_pos _ (by omega)⟩
   have he:-(c+1).tmod n=(-(c+1))%n:=by rw [<- Int.neg_tmod,Int.tmod_eq_emod_of_nonneg (by omega)]
   rw [<- he] at HP hm
   have HE:Hid (0<=-(c+1).tmod n/\-(c+1).tmod n<n):=hm
   clear he hm
   go_enter Tryz.func27,Tryz.ntmps27
   go_wp2
   go_ret
   exact ⟨ret_int (by rw [HP.out]),rfl⟩
 · have HP:Hid (pkF c n=c%n):=by show _=_;unfold pkF;rw [if_neg h]
   have hm:0<=c%n/\c%n<n:=⟨Int.emod_nonneg _ (by omega),Int.emod_lt_of_pos _ (by omega)⟩
   have HE:Hid (0<=c%n/\c%n<n):=hm
   clear hm
   go_enter Tryz.func27,Tryz.ntmps27
   go_wp2
   go_ret
   exact ⟨ret_int (by rw [HP.out]),rfl⟩
end Go.Proofs.YtaebngpoagjafaaGreat
namespace Go.Proofs.YtaebngpoagjafaaGreat
open Go.RowKit
def WD.mn (x:WD) (s:ByteArray):MN:=mnN x.rw (cAll s).es (cAll s).es.length
def WD.an (x:WD) (s:ByteArray):List Int×Int×Int:=((x.mn s).sv,least (x.mn s).ttl 86400,nar (x.mn s).sc 0)
theorem right_parts {x:WD} (h:x.right=true):M.isA x.a=true/\0<=x.b/\x.b<=32/\0<=x.d/\x.d<4294967296/\plcB x.V x.L x.R x.pl=true:=by
 have h1:askB x.a x.b x.d=true/\plcB x.V x.L x.R x.pl=true:=by simpa [WD.right,rightB] using h
 have h2:M.isA x.a=true/\0<=x.b/\x.b<=32/\0<=x.d/\x.d<4294967296:=by simpa [askB] using h1.1
 exact ⟨h2.1,h2.2.1,h2.2.2.1,h2.2.2.2.1,h2.2.2.2.2,h1.2⟩
theorem plc_isP {V L R:Nat->Int} {n:Nat} (h:plcB V L R n=true):∀ i,i<n->M.isP (V i) (L i)=true:=fun i hi=>by
 obtain ⟨_,_,hm⟩:=plcB_le h
 have:n<=64/\M.okTo V L n=true:=by simpa [M.isMap] using hm
 exact (M.okTo_iff.1 this.2 i hi).1
theorem dep_bd {x:WD} (h:x.right=true):0<=x.rw.dep/\x.rw.dep<=32:=by
 obtain ⟨_,_,_,_,_,hp⟩:=right_parts h
 exact ⟨M.depTo_pos,M.depTo_le (fun i hi=>(M.isP_iff.1 (plc_isP hp i hi)).2.1)⟩
theorem fit_cp {s:ByteArray} (h:fitB s=true):cpE s=0:=by simpa [fitB] using h
theorem ru_steps {x:WD} {s:ByteArray} (hf:fitB s=true) (hr:x.right=true):∃ k:Nat,1<=k/\k<=(cpX s).length/\(∀ f:Int,0<=f->f<k->x.ru (cpX s) f=(11,[],0,0))/\(∀ f:Int,(k:Int)<=f->x.ru (cpX s) f=(0,x.an s)):=by
 obtain ⟨h1,h2,_,_⟩:=cp_len (fit_cp hf)
 obtain ⟨k,hk,r1,r2,r3⟩:=run_ok (W:=x.rw) h1 h2
 have e:∀ f:Int,0<=f->x.ru (cpX s) f=runF x.rw (cpX s) f.toNat rt0:=fun f h0=>by
   unfold WD.ru ruF
   rw [if_neg (by omega),if_pos (show rightB x.a x.b x.d x.V x.L x.R x.pl=true from hr)];rfl
 refine ⟨k,r1,hk,fun f h0 hfk=>?_,fun f hfk=>?_⟩
 · rw [e f h0];exact r2 f.toNat (by omega)
 · rw [e f (by omega)];exact r3 f.toNat (by omega)
theorem an_bd {x:WD} {s:ByteArray} (hf:fitB s=true) (hr:x.right=true):1<=(x.an s).2.1/\(x.an s).2.1<=86400/\0<=(x.an s).2.2/\(x.an s).2.2<=32/\(x.an s).2.1=(x.mn s).ttl/\(x.an s).2.2=(x.mn s).sc:=by
 obtain ⟨h1,_,_,_⟩:=cp_len (fit_cp hf)
 obtain ⟨hp,hg⟩:=good_ok h1
 obtain ⟨d0,d1⟩:=dep_bd hr
 have hb:=mn_bd d0 d1 hg
 rw [Nat.sub_add_cancel hp] at hb
 have hb2:1<=(x.mn s).ttl/\(x.mn s).ttl<=86400/\0<=(x.mn s).sc/\(x.mn s).sc<=32:=hb
 unfold WD.an least nar
 simp only
 refine ⟨?_,?_,?_,?_,?_,?_⟩
 all_goals (split<;>omega)
theorem ru_len {x:WD} {s:ByteArray} (hf:fitB s=true) (hr:x.right=true):x.ru (cpX s) (cpX s).length=(0,x.an s):=by
 obtain ⟨k,_,hk,_,h⟩:=ru_steps hf hr
 exact h _ (by omega)
end Go.Proofs.YtaebngpoagjafaaGreat
namespace Go.Proofs.YtaebngpoagjafaaGreat
open Go.RowKit
attribute [local go_sem ↓] Go.wp_at_zero Go.wp_at_succ
set_option maxHeartbeats 1600000 in
theorem sameInts_nil (o1:Option Addr) (c1 n:Nat) (w:World) (hn:n<=9223372036854775807) :
   Calls Tryz.prog 36 #[.slice o1 n c1,.slice none 0 0] w fun e w'=>e=.returned (.bool (n==0))/\Below w.heap.size w w':=by
 rcases Nat.eq_zero_or_pos n with h0 | h0
 · subst h0
   exact sameInts_keep o1 none c1 0 0 (fun _=>0) 0 0 0 0 w (by omega) ⟨fun h=>by omega,fun h=>by omega,fun i hi=>by omega⟩ ⟨fun h=>by omega,fun h=>by omega,fun i hi=>by omega⟩
 · have hne:((n:Int) != 0)=true:=by simp;omega
   have he:(n==0)=false:=by simp;omega
   rw [he]
   go_enter Tryz.func36,Tryz.ntmps36
   go_wp2_with fail
   go_ret
   exact ⟨rfl,Below.refl _ _⟩
set_option maxHeartbeats 1600000 in
theorem same_zero (o1:Option Addr) (c1 n:Nat) (t s:Int) (w:World) (hn:n<=9223372036854775807) (ht:1<=t) :
   Calls Tryz.prog 19 #[.agg #[.slice o1 n c1,.int .i64 t,.int .i64 s],.agg #[.slice none 0 0,.int .i64 0,.int .i64 0]] w fun e w'=>e=.returned (.bool false)/\Below w.heap.size w w':=by
 have HB0:Hid (Below w.heap.size w ((w.alloc (.cells #[.slice o1 n c1,.int .i64 t,.int .i64 s] 35)).alloc (.cells #[.slice none 0 0,.int .i64 0,.int .i64 0] 35))):=((Below.refl _ _).alloc (Nat.le_refl _) _).alloc (by simp) _
 have HX1:Hid (((w.alloc (.cells #[.slice o1 n c1,.int .i64 t,.int .i64 s] 35)).alloc (.cells #[.slice none 0 0,.int .i64 0,.int .i64 0] 35)).heap[w.heap.size]?=some (.cells #[.slice o1 n c1,.int .i64 t,.int .i64 s] 35 (0,0))):=by show _=_;rw [Below.heap_alloc _ _ _ (by simp)];exact heap_alloc_new w _
 have HX2:Hid (((w.alloc (.cells #[.slice o1 n c1,.int .i64 t,.int .i64 s] 35)).alloc (.cells #[.slice none 0 0,.int .i64 0,.int .i64 0] 35)).heap[w.heap.size+1]?=some (.cells #[.slice none 0 0,.int .i64 0,.int .i64 0] 35 (0,0))):=heap_alloc_at _ (by simp)
 have ht0:(t==0)=false:=by simp;omega
 go_enter Tryz.func19,Tryz.ntmps19
 go_wp2_with fail
 refine (sameInts_nil o1 c1 n _ hn).mono ?_
 rintro e w1 ⟨rfl,hb1⟩
 have HB1:Hid (Below w.heap.size w w1):=HB0.out.trans (hb1.mono HB0.out.size)
 have hx1:=(hb1.block _ (lt_of_block HX1.out)).trans HX1.out
 have hx2:=(hb1.block _ (lt_of_block HX2.out)).trans HX2.out
 have p1:w1.cell? ⟨w.heap.size,1,none⟩=some (.int .i64 t):=by rw [cell_of_row _ _ _ _ _ _ hx1];rfl
 have p2:w1.cell? ⟨w.heap.size,2,none⟩=some (.int .i64 s):=by rw [cell_of_row _ _ _ _ _ _ hx1];rfl
 have q1:w1.cell? ⟨w.heap.size+1,1,none⟩=some (.int .i64 0):=by rw [cell_of_row _ _ _ _ _ _ hx2];rfl
 have q2:w1.cell? ⟨w.heap.size+1,2,none⟩=some (.int .i64 0):=by rw [cell_of_row _ _ _ _ _ _ hx2];rfl
 clear hb1 hx1 hx2 ht
 cases (n==0) <;>
 · go_wp2_with fail
   go_ret
   exact ⟨rfl,HB1.out⟩
end Go.Proofs.YtaebngpoagjafaaGreat
namespace Go.Proofs.YtaebngpoagjafaaGreat
open Go.RowKit
theorem CS.keep {w w':World} {co:Option Addr} {cb coff:Nat} {C:List Int} (h:CS w w.heap.size co cb coff C) (hb:Below w.heap.size w w'):CS w' w'.heap.size co cb coff C :=
 (h.of_kept (fun b hl=>hb.block b hl)).wide hb.size
def spF (r:Int×(List Int×Int×Int)):Int:=if r.1=0 then 1 else 0
attribute [local go_sem ↓] Go.wp_at_zero Go.wp_at_succ
set_option maxHeartbeats 1600000 in
theorem spent_any (x:WD) (co:Option Addr) (cb coff cc:Nat) (C:List Int) (n:Int) (o1:Option Addr) (g1 f1 k1:Nat) (sv:List Int) (t c:Int) (w:World) (hC:C.length<=140737488355328) (hn:n<=9223372036854775807) (hsl:sv.length<=9223372036854775807) (ht:1<=t) (hx:x.In w) (hcs:CS w w.heap.size co cb coff C)
   (his:IS w o1 g1 f1 sv.length (fun i=>(sv[i]?).getD 0)) (hru:x.ru C n=(0,sv,t,c)\/x.ru C n=(11,[],0,0)) :
   Calls Tryz.prog 28 #[.slice co C.length cc,x.val,.int .i64 n,.agg #[.slice o1 sv.length k1,.int .i64 t,.int .i64 c]] w fun e w'=>e=.returned (.int .i64 (spF (x.ru C n)))/\Below w.heap.size w w':=by
 have HX:Hid (x.In w):=hx
 have HCS:Hid (CS w w.heap.size co cb coff C):=hcs
 have HIS:Hid (IS w o1 g1 f1 sv.length (fun i=>(sv[i]?).getD 0)):=his
 have HRUN:Hid (∀ wz,x.In wz->CS wz wz.heap.size co cb coff C->Calls Tryz.prog 26 #[.slice co C.length cc,x.val,.int .i64 n] wz (RuTo wz (x.ru C n))):=fun wz h1 h2=>Run_any x co cb coff cc C n wz hC hn h1 h2
 have HRU:Hid (x.ru C n=(0,sv,t,c)\/x.ru C n=(11,[],0,0)):=hru
 clear hx hcs his hru
 generalize x.ru C n=R at *
 unfold WD.val at HRUN ⊢
 obtain ⟨xa,xb,xd,xdo,xdb,xdoff,xdl,xdc,xDn,xao,xab,xaoff,xac,xal,xpo,xpb,xpoff,xpl,xpcp,xV,xL,xR⟩:=x
 simp only at HRUN ⊢
 have HB0:Hid (Below w.heap.size w ((w.alloc (.cells #[.int .i64 xa,.int .i64 xb,.int .i64 xd,.slice xdo xdl xdc,.slice xao xal.length xac,.slice xpo xpl xpcp] 30)).alloc (.cells #[.slice o1 sv.length k1,.int .i64 t,.int .i64 c] 35))):=((Below.refl _ _).alloc (Nat.le_refl _) _).alloc (by simp) _
 have HW0:Hid (((w.alloc (.cells #[.int .i64 xa,.int .i64 xb,.int .i64 xd,.slice xdo xdl xdc,.slice xao xal.length xac,.slice xpo xpl xpcp] 30)).alloc (.cells #[.slice o1 sv.length k1,.int .i64 t,.int .i64 c] 35)).heap[w.heap.size]?=some (.cells #[.int .i64 xa,.int .i64 xb,.int .i64 xd,.slice xdo xdl xdc,.slice xao xal.length xac,.slice xpo xpl xpcp] 30 (0,0))):=by show _=_;rw [Below.heap_alloc _ _ _ (by simp)];exact heap_alloc_new w _
 have HA0:Hid (((w.alloc (.cells #[.int .i64 xa,.int .i64 xb,.int .i64 xd,.slice xdo xdl xdc,.slice xao xal.length xac,.slice xpo xpl xpcp] 30)).alloc (.cells #[.slice o1 sv.length k1,.int .i64 t,.int .i64 c] 35)).heap[w.heap.size+1]?=some (.cells #[.slice o1 sv.length k1,.int .i64 t,.int .i64 c] 35 (0,0))):=heap_alloc_at _ (by simp)
 have hnil2:=fun wz=>nil_eql 25 3 Tryz.underlying25 wz
 go_enter Tryz.func28,Tryz.ntmps28
 go_wp2_with fail
 have hCS0:=HCS.out.keep HB0.out
 refine (HRUN.out _ (HX.out.below HB0.out) hCS0).mono ?_
 rintro e w1 ⟨hb1,o2,m2,k2,rfl,hne2,heq2⟩
 have HB1:Hid (Below w.heap.size w w1):=HB0.out.trans (hb1.mono HB0.out.size)
 have HA1:Hid (w1.heap[w.heap.size+1]?=some (.cells #[.slice o1 sv.length k1,.int .i64 t,.int .i64 c] 35 (0,0))):=(hb1.block _ (lt_of_block HA0.out)).trans HA0.out
 have hlt1:w.heap.size+1<w1.heap.size:=lt_of_block HA1.out
 clear hb1 hCS0
 rcases HRU.out with rfl | rfl
 · obtain ⟨hm,hrow⟩:=heq2 rfl
   simp only at hm hrow
   subst hm
   have HB2:Hid (Below w.heap.size w (w1.alloc (.cells #[.slice o2 sv.length k2,.int .i64 t,.int .i64 c] 35))):=HB1.out.alloc HB1.out.size _
   have hA2:(w1.alloc (.cells #[.slice o2 sv.length k2,.int .i64 t,.int .i64 c] 35)).heap[w.heap.size+1]?=some (.cells #[.slice o1 sv.length k1,.int .i64 t,.int .i64 c] 35 (0,0)):=by rw [Below.heap_alloc _ _ _ hlt1];exact HA1.out
   have a0:(w1.alloc (.cells #[.slice o2 sv.length k2,.int .i64 t,.int .i64 c] 35)).cell? ⟨w.heap.size+1,0,none⟩=some (.slice o1 sv.length k1):=by rw [cell_of_row _ _ _ _ _ _ hA2];rfl
   have a1:(w1.alloc (.cells #[.slice o2 sv.length k2,.int .i64 t,.int .i64 c] 35)).cell? ⟨w.heap.size+1,1,none⟩=some (.int .i64 t):=by rw [cell_of_row _ _ _ _ _ _ hA2];rfl
   have a2:(w1.alloc (.cells #[.slice o2 sv.length k2,.int .i64 t,.int .i64 c] 35)).cell? ⟨w.heap.size+1,2,none⟩=some (.int .i64 c):=by rw [cell_of_row _ _ _ _ _ _ hA2];rfl
   obtain ⟨g2,hisb⟩:=is_of_row (hrow.alloc (.cells #[.slice o2 sv.length k2,.int .i64 t,.int .i64 c] 35))
   have HSM:=same_keep o1 o2 k1 k2 sv.length t c _ g1 f1 g2 0 _ hsl (HIS.out.below HB2.out HIS.out.lt) hisb
   clear hne2 heq2 hrow hisb hA2 HRUN HRU
   simp only
   go_wp2_with fail
   refine HSM.mono ?_
   rintro e w3 ⟨rfl,hb3⟩
   have HB3:Hid (Below w.heap.size w w3):=HB2.out.trans (hb3.mono HB2.out.size)
   clear hb3 HSM a0 a1 a2
   go_wp2_with fail
   go_ret
   exact ⟨rfl,HB3.out⟩
 · obtain ⟨rfl,rfl,rfl⟩:=hne2 (by decide)
   simp only
   have HB2:Hid (Below w.heap.size w (w1.alloc (.cells #[.slice none 0 0,.int .i64 0,.int .i64 0] 35))):=HB1.out.alloc HB1.out.size _
   have hA2:(w1.alloc (.cells #[.slice none 0 0,.int .i64 0,.int .i64 0] 35)).heap[w.heap.size+1]?=some (.cells #[.slice o1 sv.length k1,.int .i64 t,.int .i64 c] 35 (0,0)):=by rw [Below.heap_alloc _ _ _ hlt1];exact HA1.out
   have HN2:Hid ((w1.alloc (.cells #[.slice none 0 0,.int .i64 0,.int .i64 0] 35)).heap[w1.heap.size]?=some (.cells #[.slice none 0 0,.int .i64 0,.int .i64 0] 35 (0,0))):=heap_alloc_new _ _
   have a0:(w1.alloc (.cells #[.slice none 0 0,.int .i64 0,.int .i64 0] 35)).cell? ⟨w.heap.size+1,0,none⟩=some (.slice o1 sv.length k1):=by rw [cell_of_row _ _ _ _ _ _ hA2];rfl
   have a1:(w1.alloc (.cells #[.slice none 0 0,.int .i64 0,.int .i64 0] 35)).cell? ⟨w.heap.size+1,1,none⟩=some (.int .i64 t):=by rw [cell_of_row _ _ _ _ _ _ hA2];rfl
   have a2:(w1.alloc (.cells #[.slice none 0 0,.int .i64 0,.int .i64 0] 35)).cell? ⟨w.heap.size+1,2,none⟩=some (.int .i64 c):=by rw [cell_of_row _ _ _ _ _ _ hA2];rfl
   have HSM:=same_zero o1 k1 sv.length t c (w1.alloc (.cells #[.slice none 0 0,.int .i64 0,.int .i64 0] 35)) hsl ht
   clear hne2 heq2 hA2 HRUN HRU
   go_wp2_with fail
   refine HSM.mono ?_
   rintro e w3 ⟨rfl,hb3⟩
   have HB3:Hid (Below w.heap.size w w3):=HB2.out.trans (hb3.mono HB2.out.size)
   have hN3:w3.heap[w1.heap.size]?=some (.cells #[.slice none 0 0,.int .i64 0,.int .i64 0] 35 (0,0)):=(hb3.block _ (lt_of_block HN2.out)).trans HN2.out
   have y0:w3.cell? ⟨w1.heap.size,0,none⟩=some (.slice none 0 0):=by rw [cell_of_row _ _ _ _ _ _ hN3];rfl
   have y1:w3.cell? ⟨w1.heap.size,1,none⟩=some (.int .i64 0):=by rw [cell_of_row _ _ _ _ _ _ hN3];rfl
   have y2:w3.cell? ⟨w1.heap.size,2,none⟩=some (.int .i64 0):=by rw [cell_of_row _ _ _ _ _ _ hN3];rfl
   clear hb3 HSM a0 a1 a2 hN3
   go_wp2_with fail
   go_ret
   exact ⟨rfl,HB3.out⟩
end Go.Proofs.YtaebngpoagjafaaGreat
namespace Go.Proofs.YtaebngpoagjafaaGreat
open Go.RowKit
theorem wrap_in {n:Int} (h0:-9223372036854775808<=n) (h1:n<=9223372036854775807):IntKind.i64.wrap n=n:=by
 rw [IntKind.wrap_i64];omega
theorem ld6 {w w':World} {B:Nat} {a b c d e f:Value} {t:TypeId} {fr:Nat×Nat} (h:w.heap[B]?=some (.cells #[a,b,c,d,e,f] t fr)) (hk:w'.heap[B]?=w.heap[B]?):w'.cell? ⟨B,0,none⟩=some a/\w'.cell? ⟨B,1,none⟩=some b/\w'.cell? ⟨B,2,none⟩=some c/\w'.cell? ⟨B,3,none⟩=some d/\w'.cell? ⟨B,4,none⟩=some e/\w'.cell? ⟨B,5,none⟩=some f:=by
 have h':=hk.trans h
 refine ⟨?_,?_,?_,?_,?_,?_⟩<;>(rw [cell_of_row _ _ _ _ _ _ h'];rfl)
theorem ld3 {w:World} {B:Nat} {a b c:Value} {t:TypeId} (h:w.heap[B]?=some (.cells #[a,b,c] t (0,0))):w.cell? ⟨B,0,none⟩=some a/\w.cell? ⟨B,1,none⟩=some b/\w.cell? ⟨B,2,none⟩=some c/\w.frozen? ⟨B,0,none⟩=false/\w.frozen? ⟨B,1,none⟩=false/\w.frozen? ⟨B,2,none⟩=false:=by
 refine ⟨?_,?_,?_,?_,?_,?_⟩
 all_goals first | (rw [cell_of_row _ _ _ _ _ _ h];rfl) | simp [World.frozen?,h]
theorem set3_row {w:World} {base e size:Nat} {v:Value} {n:Nat} {xs:List Value} {B:Nat} (h:w.ownsRow base e size v n xs) (hne:v.ownBlock≠some B) (x y z:Value):(((w.setCell ⟨B,0,none⟩ x).setCell ⟨B,1,none⟩ y).setCell ⟨B,2,none⟩ z).ownsRow base e size v n xs :=
 owns_of_block h (fun g hg=>by
   have hgn:g≠B:=fun e=>hne (by rw [<- e];exact hg)
   rw [heap_set_ne hgn,heap_set_ne hgn,heap_set_ne hgn])
end Go.Proofs.YtaebngpoagjafaaGreat
