import Derived.Test.YtaebngpoagjafaaGreatR17
import Derived.Deep.OwnRows
import Derived.Laws.ResultCell
import Derived.ProofKit
import Derived.OpenShut
import Derived.ChangeOld
import Derived.Below
import Derived.SizedLaws
import Derived.Deep.Slices
set_option maxRecDepth 100000
set_option maxHeartbeats 400000
namespace Go.Proofs.YtaebngpoagjafaaGreat
open Value renaming int → J
open IntKind renaming i64 → Z
open Go.RowKit
theorem Tryz.infoPrefix:(Tryz.prog.info? 99).map (fun i=>(i.zero,i.size,i.bytes))=some (some (.agg #[J Z 0,J Z 0]),2,16):=by kernel_rfl
theorem Tryz.infoPlace:(Tryz.prog.info? 101).map (fun i=>(i.zero,i.size,i.bytes))=some (some (.agg #[J Z 0,J Z 0,J Z 0]),3,24):=by kernel_rfl
def pc (V L:Nat->Int):Nat->List Value
 | 0=>[]
 | n+1=>pc V L n++[J Z (V n),J Z (L n)]
def tc (V L R:Nat->Int):Nat->List Value
 | 0=>[]
 | n+1=>tc V L R n++[J Z (V n),J Z (L n),J Z (R n)]
theorem qJ (V L:Nat->Int) (n:Nat):(pc V L n).length=n*2:=by
 induction n with
 | zero=>rfl
 | succ n ih=>simp [pc,ih];omega
theorem zb2 (V L:Nat->Int) {n i:Nat} (h:i<n):(pc V L n)[i*2]?=some (J Z (V i))/\(pc V L n)[i*2+1]?=some (J Z (L i)):=by
 induction n with
 | zero=>omega
 | succ n ih =>
  simp only [pc]
  by_cases hi:i=n
  ·subst hi
   rw [List.getElem?_append_right (by rw [qJ];omega),List.getElem?_append_right (by rw [qJ];omega),qJ]
   simp
  ·have:=ih (by omega)
   rw [List.getElem?_append_left (by rw [qJ];omega),List.getElem?_append_left (by rw [qJ];omega)]
   exact this
structure TS (w:World) (ao:Option Addr) (b off n:Nat) (V L R:Nat->Int):Prop where
 at_:0<n->ao=some ⟨b,off,none⟩
 lt:0<n->b<w.heap.size
 val:∀ i,i<n->w.cell? ⟨b,off+i*3,none⟩=some (J Z (V i))
 len:∀ i,i<n->w.cell? ⟨b,off+i*3+1,none⟩=some (J Z (L i))
 reg:∀ i,i<n->w.cell? ⟨b,off+i*3+2,none⟩=some (J Z (R i))
theorem TS.below {w w':World} {ao b off n V L R} (h:TS w ao b off n V L R) (hb:Below w.heap.size w w'):TS w' ao b off n V L R :=
 ⟨h.at_,fun hn=>Nat.lt_of_lt_of_le (h.lt hn) hb.size,fun i hi=>by rw [hb.cell (h.lt (by omega))];exact h.val i hi,fun i hi=>by rw [hb.cell (h.lt (by omega))];exact h.len i hi,fun i hi=>by rw [hb.cell (h.lt (by omega))];exact h.reg i hi⟩
theorem Z2 {w:World} {base:Nat} {v:Value} {n:Nat} {V L:Nat->Int} (h:w.ownsRow base 99 2 v n (pc V L n)) :
 ∃ ao b c,v=.slice ao n c/\n<=c/\(n=0\/base<=b)/\PS w ao b n V L:=by
 have hh:=h
 rcases h.2 with ⟨rfl,rfl⟩ | ⟨g,cap,cur,rfl,hb,hg,hnc,_,_,_⟩
 ·exact ⟨none,0,0,rfl,Nat.le_refl _,.inl rfl,⟨fun h=>by omega,fun h=>by omega,fun i hi=>by omega,fun i hi=>by omega⟩⟩
 ·refine ⟨some ⟨g,0,none⟩,g,cap,rfl,hnc,.inr hb,⟨fun _=>rfl,fun _=>?_,fun i hi=>?_,fun i hi=>?_⟩⟩
  ·exact (hh.lt g rfl).2
  ·rw [hh.cellAt (i*2) (by omega)];exact (zb2 V L hi).1
  ·rw [hh.cellAt (i*2+1) (by omega)];exact (zb2 V L hi).2
theorem zeq (w:World) (x y:Value) (t:TypeId):∀ j u,([x,y]:List Value)[j]?=some u->(w.alloc (.cells #[x,y] t)).cell? ((⟨w.heap.size,0,none⟩:Addr).add j)=some u:=by
 intro j u hj
 match j,hj with
 | 0,hj=>simp at hj;subst hj;simp [Addr.add]
 | 1,hj=>simp at hj;subst hj;simp [Addr.add]
theorem Xk (ao:Option Addr) (b off n c:Nat) (V L R:Nat->Int) (w:World) (hn:n*24<=140737488351232) (hs:TS w ao b off n V L R) :
 Calls Tryz.prog 58 #[.slice ao n c] w fun e w'=>(∃ v,e=.returned v/\w'.ownsRow w.heap.size 99 2 v n (pc V L n))/\Below w.heap.size w w':=by
 obtain ⟨i0,hi,hz0,hz1,hz2⟩:=info_parts Tryz.infoPrefix
 go_enter Tryz.func58,Tryz.ntmps58
 go_wp2
 go_loopw [3,4] (fun v i wr=>∃ k:Nat,k<=n/\i=J Z k/\wr.ownsRow w.heap.size 99 2 v k (pc V L k)/\Below w.heap.size w wr) (fun _ i _=>n-(intOf i).toNat)
 case atStart=>exact ⟨0,by omega,rfl,World.ownsRow_nil _ _ _ _,Below.refl _ _⟩
 case round =>
  obtain ⟨k,hk,rfl,hown,hb⟩:=hrel
  by_cases hlt:k<n
  ·obtain rfl:=hs.at_ (by omega)
   have hps:=hs.below hb
   have hv:=hps.val k hlt
   have hl:=hps.len k hlt
   have hbb:b<wr.heap.size:=hps.lt (by omega)
   have hsize:=hb.size
   clear hs hps
   go_wp2_with (at_builtin;refine wpList_append_own _ rfl _ _ 103 rfl w.heap.size 99 i0 (.agg #[J Z 0,J Z 0]) 2 16 Tryz.underlying103 hi hz0 hz1 hz2 rfl (by decide) _ _ _ rfl (hown.alloc _) ⟨wr.heap.size,0,none⟩ 1 1 [J Z (V k),J Z (L k)] rfl rfl (zeq _ _ _ _) (fun x hx=>by simp at hx;rcases hx with rfl | rfl<;>rfl) (by unfold maxLen;omega) (by omega) (by simp;omega) ?_;intro v' w1 hown1 hgrow1 _)
   have hx:Hid (Below w.heap.size w w1):=(hb.alloc hb.size _).grown hgrow1 (by simp;omega) (fun q hq=>(hown.lt q hq).1)
   go_roundw
   case rel=>exact ⟨k+1,by omega,by go_num,hown1,hx⟩
   case measure=>simp [intOf];omega
  ·have hkn:k=n:=by omega
   subst hkn
   go_wp2
   go_ret
   exact ⟨⟨_,rfl,hown⟩,hb⟩
theorem zcN (a b:Int) (w:World):(Instr.build 99 #[(0,J Z a),(1,J Z b)]).run Tryz.prog w=.ok (.agg #[J Z a,J Z b]) w:=run_build w 99 _ _ (by kernel_rfl)
theorem zcM (a b c:Int) (w:World):(Instr.build 101 #[(0,.agg #[J Z a,J Z b]),(1,J Z c)]).run Tryz.prog w=.ok (.agg #[J Z a,J Z b,J Z c]) w:=run_build w 101 _ _ (by kernel_rfl)
theorem zab (w:World) :
 Calls Tryz.prog 122 #[] w fun e w'=>e=.returned (.agg #[J Z 77,J Z 77,J Z 77])/\Below w.heap.size w w':=by
 have h1:=fun w=>zcN 77 77 w
 have h2:=fun w=>zcM 77 77 77 w
 go_enter Tryz.func122,Tryz.ntmps122
 go_wp2
 exact bodyPost_ret (v:=.agg #[J Z 77,J Z 77,J Z 77]) (by simp [results,Tryz.results122,go_sem]) rfl ⟨rfl,(by repeat (first | exact Below.refl _ _ | refine Below.alloc ?_ (by simp) _ | refine Below.setCell ?_ (by simp) _))⟩
def ext (n:Nat) (V:Nat->Int) (i:Nat):Int:=if i<n then V i else 77
theorem yQ {w:World} {base e size g N cap:Nat} {xs:List Value} (h:w.ownsRow base e size (.slice (some ⟨g,0,none⟩) N cap) N xs) (hcap:cap=N):∃ f,w.rowIs g e (N*size) f:=by
 subst hcap
 rcases h.2 with ⟨h',_⟩ | ⟨g',cap',cur,h',_,hg,_,_,hsz,_⟩
 ·simp at h'
 ·simp only [Value.slice.injEq,Option.some.injEq,Addr.mk.injEq,and_true,true_and] at h'
  obtain ⟨rfl,rfl⟩:=h'
  exact ⟨fun j=>cur.getD j (J Z 0),cur,hg,hsz,fun i hi=>by simp [Array.getD,hsz,hi]⟩
theorem Y8 {w w':World} (h:w.grownBy w' none):Below w.heap.size w w':=(Below.refl _ _).grown h (Nat.le_refl _) (fun k hk=>by simp at hk)
theorem yV {w w':World} {g t N:Nat} {f:Nat->Value} (h:w.rowIs g t N f) (hb:Below w.heap.size w w'):w'.rowIs g t N f:=h.of_block (hb.block g h.lt)
theorem PS.congr {w:World} {ao b n V L V' L'} (h:PS w ao b n V L) (hv:∀ i,i<n->V i=V' i/\L i=L' i):PS w ao b n V' L' :=
 ⟨h.at_,h.lt,fun i hi=>by rw [<- (hv i hi).1];exact h.val i hi,fun i hi=>by rw [<- (hv i hi).2];exact h.len i hi⟩
structure IS (w:World) (o:Option Addr) (b off n:Nat) (D:Nat->Int):Prop where
 at_:0<n->o=some ⟨b,off,none⟩
 lt:0<n->b<w.heap.size
 val:∀ i,i<n->w.cell? ⟨b,off+i,none⟩=some (J Z (D i))
theorem IS.below {w w':World} {o:Option Addr} {b off n:Nat} {D:Nat->Int} (h:IS w o b off n D) {B:Nat} (hb:Below B w w') (hB:0<n->b<B):IS w' o b off n D:=⟨h.at_,fun hn=>Nat.lt_of_lt_of_le (h.lt hn) hb.size,fun i hi=>by
 rw [hb.cell (p:=⟨b,off+i,none⟩) (hB (by omega))];exact h.val i hi⟩
structure AS (w:World) (base:Nat) (ao:Option Addr) (ab aoff:Nat) (al:List (List Int)):Prop where
 at_:0<al.length->ao=some ⟨ab,aoff,none⟩
 lt:0<al.length->ab<base
 val:∀ k l,al[k]?=some l->∃ lo lc,w.cell? ⟨ab,aoff+k,none⟩=some (.slice lo l.length lc)/\(0<l.length->∃ lb loff,lo=some ⟨lb,loff,none⟩/\lb<base/\∀ i x,l[i]?=some x->w.cell? ⟨lb,loff+i,none⟩=some (J Z x))
 len:∀ l∈al,l.length*8<=140737488351232
theorem AS.of_kept {w w':World} {base:Nat} {ao:Option Addr} {ab aoff:Nat} {al:List (List Int)} (h:AS w base ao ab aoff al) (hk:∀ b,b<base->w'.heap[b]?=w.heap[b]?):AS w' base ao ab aoff al :=
 ⟨h.at_,h.lt,fun k l hl=>by
  obtain ⟨lo,lc,h1,h2⟩:=h.val k l hl
  have hp:0<al.length:=by have:=(List.getElem?_eq_some_iff.1 hl).1;omega
  refine ⟨lo,lc,by rw [World.cell?_of_block (hk ab (h.lt hp))];exact h1,fun h0=>?_⟩
  obtain ⟨lb,loff,h3,h4,h5⟩:=h2 h0
  exact ⟨lb,loff,h3,h4,fun i x hx=>by rw [World.cell?_of_block (hk lb h4)];exact h5 i x hx⟩,h.len⟩
theorem Tryz.infoInt:(Tryz.prog.info? 3).map (fun i=>(i.zero,i.size,i.bytes))=some (some (J Z 0),1,8):=by kernel_rfl
theorem Tryz.infoByte:(Tryz.prog.info? 5).map (fun i=>(i.zero,i.size,i.bytes))=some (some (J .u8 0),1,1):=by kernel_rfl
theorem Tryz.infoIs:(Tryz.prog.info? 25).map (fun i=>(i.zero,i.size,i.bytes))=some (some (.slice none 0 0),1,24):=by kernel_rfl
def PT (w:World) (po:Option Addr) (b off n c:Nat) (V L R:Nat->Int):Prop:=(po=none/\n=0/\c=0)\/∃ ad,po=some ad/\TS w (some ad) b off n V L R
theorem PT.below {w w':World} {po b off n c V L R} (h:PT w po b off n c V L R) (hb:Below w.heap.size w w'):PT w' po b off n c V L R:=by
 rcases h with h | ⟨ad,h1,h2⟩
 ·exact .inl h
 ·exact .inr ⟨ad,h1,h2.below hb⟩
theorem jA (c:Int) (n:Nat) (w:World) (c0:-9223372036854775808<=c) (c1:c<=9223372036854775807) (n0:0<n) (n1:n<=9223372036854775807) :
 Calls Tryz.prog 43 #[J Z c,J Z n] w fun e w'=>(∃ k:Nat,k<n/\e=.returned (J Z k))/\w'=w:=by
 have hn:¬ (n:Int)=0:=by omega
 have hn0:(0:Int)<n:=by omega
 by_cases h:c<0
 ·have hm:0<=(-(c+1))%(n:Int)/\(-(c+1))%(n:Int)<n:=⟨Int.emod_nonneg _ (by omega),Int.emod_lt_of_pos _ (by omega)⟩
  have he:-(c+1).tmod (n:Int)=(-(c+1))%(n:Int):=by rw [<- Int.neg_tmod,Int.tmod_eq_emod_of_nonneg (by omega)]
  rw [<- he] at hm
  have HE:Hid _:=hm
  clear he hm
  go_enter Tryz.func43,Tryz.ntmps43
  go_wp2
  go_ret
  refine ⟨⟨(-(c+1).tmod (n:Int)).toNat,by have:=HE.out;omega,YF ?_⟩,rfl⟩
  have:=HE.out;omega
 ·have hm:0<=c%(n:Int)/\c%(n:Int)<n:=⟨Int.emod_nonneg _ (by omega),Int.emod_lt_of_pos _ (by omega)⟩
  have HE:Hid _:=hm
  clear hm
  go_enter Tryz.func43,Tryz.ntmps43
  go_wp2
  go_ret
  refine ⟨⟨(c%(n:Int)).toNat,by have:=HE.out;omega,YF ?_⟩,rfl⟩
  have:=HE.out;omega
def qb (P:Nat->Int) (k:Int):Nat->Bool
 | 0=>false
 | n+1=>qb P k n || (P n==k)
theorem zc2 {P:Nat->Int} {k:Int} {n m:Nat} (h:m<n) (e:P m=k):qb P k n=true:=by
 induction n with
 | zero=>omega
 | succ n ih =>
  simp only [qb,Bool.or_eq_true,beq_iff_eq]
  by_cases hm:m=n
  ·subst hm;exact .inr e
  ·exact .inl (ih (by omega))
theorem zbu (b n c:Nat) (P:Nat->Int) (k:Int) (w:World) (hn:n<=64) (hp:∀ i,i<n->w.cell? ⟨b,i,none⟩=some (J Z (P i))) :
 Calls Tryz.prog 29 #[.slice (some ⟨b,0,none⟩) n c,J Z k] w fun e w'=>e=.returned (.bool (qb P k n))/\w'=w:=by
 have HP:Hid _:=hp
 clear hp
 go_enter Tryz.func29,Tryz.ntmps29
 go_wp2
 go_loop [5] (fun x=>∃ m:Nat,m<=n/\x=J Z m/\qb P k m=false) (fun x=>n-(intOf x).toNat)
 case atStart=>exact ⟨0,by omega,rfl,rfl⟩
 case round =>
  obtain ⟨m,hm,rfl,hf⟩:=hrel
  by_cases hlt:m<n
  ·have hc:=HP.out m hlt
   cases e1:(P m==k) with
   | true =>
    have ht:Hid (qb P k n=true):=zc2 hlt (by simpa using e1)
    go_wp2
    go_ret
    exact ⟨ya ht.out.symm,rfl⟩
   | false =>
    have HF:Hid (qb P k (m+1)=false):=by show _=_;simp [qb,hf,e1]
    go_wp2
    go_round
    case rel=>exact ⟨m+1,by omega,by go_num,HF⟩
    case measure=>simp [intOf];omega
  ·have hmn:m=n:=by omega
   subst hmn
   go_wp2
   go_ret
   exact ⟨rfl,rfl⟩
structure OS (w:World) (ao:Option Addr) (b off n:Nat) (K A B C D:Nat->Int) (S:Nat->ByteArray):Prop where
 at_:0<n->ao=some ⟨b,off,none⟩
 lt:0<n->b<w.heap.size
 k:∀ i,i<n->w.cell? ⟨b,off+i*6,none⟩=some (J Z (K i))
 a:∀ i,i<n->w.cell? ⟨b,off+i*6+1,none⟩=some (J Z (A i))
 b_:∀ i,i<n->w.cell? ⟨b,off+i*6+2,none⟩=some (J Z (B i))
 c:∀ i,i<n->w.cell? ⟨b,off+i*6+3,none⟩=some (J Z (C i))
 d:∀ i,i<n->w.cell? ⟨b,off+i*6+4,none⟩=some (J Z (D i))
 s:∀ i,i<n->w.cell? ⟨b,off+i*6+5,none⟩=some (.string (S i))
theorem OS.below {w w':World} {ao b off n K A B C D S} (h:OS w ao b off n K A B C D S) (hb:Below w.heap.size w w'):OS w' ao b off n K A B C D S :=
 ⟨h.at_,fun hn=>Nat.lt_of_lt_of_le (h.lt hn) hb.size,fun i hi=>by rw [hb.cell (h.lt (by omega))];exact h.k i hi,fun i hi=>by rw [hb.cell (h.lt (by omega))];exact h.a i hi,
  fun i hi=>by rw [hb.cell (h.lt (by omega))];exact h.b_ i hi,fun i hi=>by rw [hb.cell (h.lt (by omega))];exact h.c i hi,fun i hi=>by rw [hb.cell (h.lt (by omega))];exact h.d i hi,fun i hi=>by rw [hb.cell (h.lt (by omega))];exact h.s i hi⟩
theorem JM (ao:Option Addr) (n c:Nat) (w:World):(Instr.build 64 #[(0,.slice ao n c)]).run Tryz.prog w=.ok (.agg #[.slice ao n c,.slice none 0 0,.slice none 0 0,.slice none 0 0,.slice none 0 0]) w:=run_build w 64 _ _ (by kernel_rfl)
def st0 (wo:Option Addr) (m wc:Nat):Obj:=.cells #[.slice wo m wc,.slice none 0 0,.slice none 0 0,.slice none 0 0,.slice none 0 0] 64
structure WS (w:World) (wo:Option Addr) (b off m:Nat) (A Bi Dr:Nat->Int) (Dn Al:Nat->Value) (po:Nat->Option Addr) (n c pb poff:Nat->Nat) (V L R:Nat->Nat->Int):Prop where
 at_:0<m->wo=some ⟨b,off,none⟩
 lt:0<m->b<w.heap.size
 c0:∀ i,i<m->w.cell? ⟨b,off+i*6,none⟩=some (J Z (A i))
 c1:∀ i,i<m->w.cell? ⟨b,off+i*6+1,none⟩=some (J Z (Bi i))
 c2:∀ i,i<m->w.cell? ⟨b,off+i*6+2,none⟩=some (J Z (Dr i))
 c3:∀ i,i<m->w.cell? ⟨b,off+i*6+3,none⟩=some (Dn i)
 c4:∀ i,i<m->w.cell? ⟨b,off+i*6+4,none⟩=some (Al i)
 c5:∀ i,i<m->w.cell? ⟨b,off+i*6+5,none⟩=some (.slice (po i) (n i) (c i))
 pt:∀ i,i<m->PT w (po i) (pb i) (poff i) (n i) (c i) (V i) (L i) (R i)
 sz:∀ i,i<m->n i*24<=140737488351232
theorem WS.below {w w':World} {wo b off m A Bi Dr Dn Al po n c pb poff V L R} (h:WS w wo b off m A Bi Dr Dn Al po n c pb poff V L R) (hb:Below w.heap.size w w'):WS w' wo b off m A Bi Dr Dn Al po n c pb poff V L R :=
 ⟨h.at_,fun hn=>Nat.lt_of_lt_of_le (h.lt hn) hb.size,fun i hi=>by rw [hb.cell (h.lt (by omega))];exact h.c0 i hi,fun i hi=>by rw [hb.cell (h.lt (by omega))];exact h.c1 i hi,
  fun i hi=>by rw [hb.cell (h.lt (by omega))];exact h.c2 i hi,fun i hi=>by rw [hb.cell (h.lt (by omega))];exact h.c3 i hi,fun i hi=>by rw [hb.cell (h.lt (by omega))];exact h.c4 i hi,
  fun i hi=>by rw [hb.cell (h.lt (by omega))];exact h.c5 i hi,fun i hi=>(h.pt i hi).below hb,h.sz⟩
section
open Go.ChangeShapes Go.WideShapes Go.ChangeAt Go.RowKit
theorem own:ownKnob Tryz.prog.godebug=none:=by kernel_rfl
theorem J8:laidOutB Tryz.prog=true:=by kernel_rfl
theorem qW:Tryz.prog.cellsOf 101=3:=by kernel_rfl
theorem jU:Tryz.prog.cellsOf 99=2:=by kernel_rfl
theorem Y6:Tryz.prog.cellsOf 3=1:=by kernel_rfl
theorem X5:Tryz.prog.cellsOf 9=1:=by kernel_rfl
theorem YM:Tryz.prog.cellsOf 30=6:=by kernel_rfl
theorem qk:Tryz.prog.cellsOf 66=6:=by kernel_rfl
theorem Qz:Tryz.prog.cellsOf 25=1:=by kernel_rfl
theorem JK:Tryz.prog.cellsOf 27=1:=by kernel_rfl
theorem X6:Tryz.prog.cellsOf 28=1:=by kernel_rfl
theorem q9:Tryz.prog.bytesOf 101=24:=by kernel_rfl
theorem q8:Tryz.prog.bytesOf 30=96:=by kernel_rfl
theorem zd1:Tryz.prog.bytesOf 66=56:=by kernel_rfl
theorem yB {w:World} {a:Addr} {v:Value} (h:w.cell? a=some v):a.block<w.heap.size:=by
 by_cases hb:a.block<w.heap.size
 ·exact hb
 ·have:w.heap[a.block]?=none:=by simp;omega
  simp [World.cell?,this] at h
theorem Zt {H:Type} {P:Program} {e:TypeId} {l:List (DataW H)} {d:DataW H} (hd:d∈l) {n:Nat} (hn:n∈d.weights P e):n∈DataW.weightsAll P e l:=by
 induction l with
 | nil=>cases hd
 | cons x r ih =>
  simp only [DataW.weightsAll,List.mem_append]
  rcases List.mem_cons.1 hd with rfl | h
  ·exact .inl hn
  ·exact .inr (ih h)
section
variable {H:Type} {enc:TypeId×Value->H} {w:World} {base:Nat} {spare:Nat->Bool} {held:Bool}
theorem Jo {n:Nat} {cs:List Value} {x:DataW H×List MemPlace} (h:DataW.trod enc Tryz.prog w base spare held n 101 cs=some x) :
 ∃ a b c:Int,cs=[J Z a,J Z b,J Z c]:=by
 obtain ⟨y0,y1,m,_,hlen,h0,h1⟩:=trod_struct2 Tryz.underlying101 h
 rw [qW] at hlen
 match cs,hlen with
 | [c0,c1,c2],_ =>
  obtain ⟨z0,z1,m',_,_,g0,g1⟩:=trod_struct2 Tryz.underlying99 h0
  obtain ⟨a,ea,_,_⟩:=DataW.trod_int Tryz.underlying3 g0
  obtain ⟨b,eb,_,_⟩:=DataW.trod_int Tryz.underlying3 g1
  obtain ⟨c,ec,_,_⟩:=DataW.trod_int Tryz.underlying3 h1
  simp [Y6,jU] at ea eb ec
  exact ⟨a,b,c,by rw [ea,eb,ec]⟩
theorem XZ {fuel:Nat} {cs:List Value} {x:DataW H×List MemPlace} (h:DataW.trod enc Tryz.prog w base spare held fuel 28 cs=some x) :
 ∃ po len cap b off V L R,cs=[.slice po len cap]/\PT w po b off len cap V L R/\(x.1=.nil/\len=0\/∃ el sp,x.1=.slice el sp/\el.length=len):=by
 rcases Deep.open_slice Tryz.underlying28 h with ⟨hcs,hx⟩ | ⟨a,l,c,m,n,D,Pl,hcs,hb,hl,hm,hmm,hx,hel⟩
 ·exact ⟨none,0,0,0,0,fun _=>0,fun _=>0,fun _=>0,hcs,.inl ⟨rfl,rfl,rfl⟩,.inl ⟨by rw [hx],rfl⟩⟩
 ·have hlm:l<=m:=by rw [hmm];split<;>omega
  rw [qW] at hel
  obtain ⟨F,hF⟩:=Deep.choose_lt (α:=Int×Int×Int) (n:=l) (p:=fun i y=>∀ j,j<3->w.cell? ((a.add (i*3)).add j)=some (J Z (if j=0 then y.1 else if j=1 then y.2.1 else y.2.2))) (fun i hi=>by
   obtain ⟨cs',h1,h2⟩:=hel i (by omega)
   obtain ⟨x,y,z,rfl⟩:=Jo h2
   obtain ⟨_,_,hc⟩:=World.cells?_some h1
   refine ⟨(x,y,z),fun j hj=>?_⟩
   rw [hc j hj]
   match j,hj with
   | 0,_=>rfl
   | 1,_=>rfl
   | 2,_=>rfl)
  obtain ⟨b,off,spot⟩:=a
  refine ⟨some ⟨b,off,spot⟩,l,c,b,off,fun i=>(F i).1,fun i=>(F i).2.1,fun i=>(F i).2.2,hcs,.inr ⟨_,rfl,?_⟩,.inr ⟨_,_,by rw [hx],by simp⟩⟩
  by_cases hl0:l=0
  ·subst hl0
   exact ⟨fun h=>by omega,fun h=>by omega,fun i hi=>by omega,fun i hi=>by omega,fun i hi=>by omega⟩
  ·have hc0:=hF 0 (by omega) 0 (by omega)
   have hspot:spot=none:=by simpa [Addr.add] using World.cell?_spot hc0
   subst hspot
   have hlt:b<w.heap.size:=by
    have:=hc0
    simp [Addr.add] at this
    exact yB this
   refine ⟨fun _=>rfl,fun _=>hlt,fun i hi=>?_,fun i hi=>?_,fun i hi=>?_⟩
   ·have:=hF i hi 0 (by omega)
    rw [add_plain,add_plain] at this
    exact this
   ·have:=hF i hi 1 (by omega)
    rw [add_plain,add_plain] at this
    exact this
   ·have:=hF i hi 2 (by omega)
    rw [add_plain,add_plain] at this
    exact this
theorem Jn {n:Nat} {cs:List Value} {x:DataW H×List MemPlace} (h:DataW.trod enc Tryz.prog w base spare held n 30 cs=some x) :
 ∃ (a bi dr:Int) (dn al:Value) (po:Option Addr) (len cap b off:Nat) (V L R:Nat->Int),cs=[J Z a,J Z bi,J Z dr,dn,al,.slice po len cap]/\PT w po b off len cap V L R /\
  ((∀ k∈x.1.weights Tryz.prog 30,k<=reachBytes)->len*24<=140737488351232):=by
 obtain ⟨xs,m,_,rfl,hlen,hxs,hf⟩:=DataW.trod_struct Tryz.underlying30 h
 rw [YM] at hlen
 match cs,hlen,xs,hxs with
 | [c0,c1,c2,c3,c4,c5],_,[x0,x1,x2,x3,x4,x5],_ =>
  have f0:=hf 0 _ rfl
  have f1:=hf 1 _ rfl
  have f2:=hf 2 _ rfl
  have f3:=hf 3 _ rfl
  have f4:=hf 4 _ rfl
  have f5:=hf 5 _ rfl
  obtain ⟨a,ea,_,_⟩:=DataW.trod_int Tryz.underlying3 f0
  obtain ⟨bi,eb,_,_⟩:=DataW.trod_int Tryz.underlying3 f1
  obtain ⟨dr,ec,_,_⟩:=DataW.trod_int Tryz.underlying3 f2
  obtain ⟨po,len,cap,b,off,V,L,R,e5,hpt,hd⟩:=XZ f5
  simp [Y6,X6] at ea eb ec e5
  refine ⟨a,bi,dr,c3,c4,po,len,cap,b,off,V,L,R,by rw [ea,eb,ec,e5],hpt,fun hw=>?_⟩
  rcases hd with ⟨_,rfl⟩ | ⟨el,sp,he,hl⟩
  ·omega
  ·have hmem:(el.length+sp.length)*24∈(DataW.agg [x0.1,x1.1,x2.1,x3.1,x4.1,x5.1]:DataW H).weights Tryz.prog 30:=by
    simp only [DataW.weights,Tryz.underlying30,DataW.weightsEach,List.map_cons,List.map_nil,he,Tryz.underlying28,q9,List.mem_append,List.mem_cons]
    simp
   have:=hw _ hmem
   simp only [reachBytes] at this
   omega
theorem zdG {n:Nat} {cs:List Value} {x:DataW H×List MemPlace} (h:DataW.trod enc Tryz.prog w base spare held n 66 cs=some x) :
 ∃ (k a b c d:Int) (s:ByteArray),cs=[J Z k,J Z a,J Z b,J Z c,J Z d,.string s]/\(Lit.int .i64 a).wf=true/\(Lit.int .i64 b).wf=true/\(Lit.int .i64 c).wf=true/\(Lit.int .i64 d).wf=true/\s.size<=maxLen:=by
 obtain ⟨xs,m,_,rfl,hlen,hxs,hf⟩:=DataW.trod_struct Tryz.underlying66 h
 rw [qk] at hlen
 match cs,hlen,xs,hxs with
 | [c0,c1,c2,c3,c4,c5],_,[x0,x1,x2,x3,x4,x5],_ =>
  have f0:=hf 0 _ rfl
  have f1:=hf 1 _ rfl
  have f2:=hf 2 _ rfl
  have f3:=hf 3 _ rfl
  have f4:=hf 4 _ rfl
  have f5:=hf 5 _ rfl
  obtain ⟨k,e0,_,_⟩:=DataW.trod_int Tryz.underlying3 f0
  obtain ⟨a,e1,_,w1⟩:=DataW.trod_int Tryz.underlying3 f1
  obtain ⟨b,e2,_,w2⟩:=DataW.trod_int Tryz.underlying3 f2
  obtain ⟨c,e3,_,w3⟩:=DataW.trod_int Tryz.underlying3 f3
  obtain ⟨d,e4,_,w4⟩:=DataW.trod_int Tryz.underlying3 f4
  obtain ⟨s,e5,_,hs⟩:=DataW.trod_string Tryz.underlying9 f5
  simp [Y6,X5] at e0 e1 e2 e3 e4 e5
  exact ⟨k,a,b,c,d,s,by rw [e0,e1,e2,e3,e4,e5],w1,w2,w3,w4,hs⟩
end
end
section
open Go.ChangeShapes Go.WideShapes Go.ChangeAt Go.RowKit
section
variable {H:Type} {enc:TypeId×Value->H} {w:World} {base:Nat} {spare:Nat->Bool} {held:Bool}
theorem zeo {fuel:Nat} {wo:Option Addr} {m cap:Nat} {d:DataW H} {p:List MemPlace} (h:DataW.trod enc Tryz.prog w base spare held fuel 22 [.slice wo m cap]=some (d,p))
 (hz:∀ k∈d.weights Tryz.prog 22,k<=reachBytes) :
 m*96<=140737488351232/\∃ b off A Bi Dr Dn Al po n c pb poff V L R,WS w wo b off m A Bi Dr Dn Al po n c pb poff V L R:=by
 rcases Deep.open_slice Tryz.underlying22 h with ⟨hcs,hx⟩ | ⟨a,l,c,q,n,D,Pl,hcs,hb,hl,hm,hmm,hx,hel⟩
 ·simp at hcs
  obtain ⟨rfl,rfl,rfl⟩:=hcs
  refine ⟨by omega,0,0,fun _=>0,fun _=>0,fun _=>0,fun _=>J Z 0,fun _=>J Z 0,fun _=>none,fun _=>0,fun _=>0,fun _=>0,fun _=>0,fun _ _=>0,fun _ _=>0,fun _ _=>0,?_⟩
  exact ⟨fun h=>by omega,fun h=>by omega,fun i hi=>by omega,fun i hi=>by omega,fun i hi=>by omega,fun i hi=>by omega,fun i hi=>by omega,fun i hi=>by omega,fun i hi=>by omega,fun i hi=>by omega⟩
 ·simp at hcs hx
  obtain ⟨rfl,rfl,rfl⟩:=hcs
  obtain ⟨rfl,_⟩:=hx
  have hlm:m<=q:=by rw [hmm];split<;>omega
  rw [YM] at hel
  have hwd:∀ k,k∈(m+(q-m))*96::(DataW.weightsAll Tryz.prog 30 ((List.range m).map D)++DataW.weightsAll Tryz.prog 30 ((List.range (q-m)).map fun j=>D (m+j)))->k<=reachBytes:=by
   intro k hk
   refine hz k ?_
   simp only [DataW.weights,Tryz.underlying22,q8,List.length_map,List.length_range]
   exact hk
  refine ⟨by have:=hwd _ (List.mem_cons_self ..);simp only [reachBytes] at this;omega,?_⟩
  obtain ⟨F,hF⟩:=Deep.choose_lt (α:=(Int×Int×Int)×(Value×Value)×(Option Addr×Nat×Nat)×(Nat×Nat)×((Nat->Int)×(Nat->Int)×(Nat->Int))) (n:=m)
   (p:=fun i y=>(∀ j,j<6->w.cell? ((a.add (i*6)).add j)=[J Z y.1.1,J Z y.1.2.1,J Z y.1.2.2,y.2.1.1,y.2.1.2,.slice y.2.2.1.1 y.2.2.1.2.1 y.2.2.1.2.2][j]?) /\
    PT w y.2.2.1.1 y.2.2.2.1.1 y.2.2.2.1.2 y.2.2.1.2.1 y.2.2.1.2.2 y.2.2.2.2.1 y.2.2.2.2.2.1 y.2.2.2.2.2.2/\y.2.2.1.2.1*24<=140737488351232) (fun i hi=>by
   obtain ⟨cs',h1,h2⟩:=hel i (by omega)
   obtain ⟨ia,ib,ic,dn,al,po,len,cp,pb,poff,V,L,R,rfl,hpt,hsz⟩:=Jn h2
   obtain ⟨_,_,hc⟩:=World.cells?_some h1
   refine ⟨((ia,ib,ic),(dn,al),(po,len,cp),(pb,poff),(V,L,R)),hc,hpt,hsz fun k hk=>hwd k ?_⟩
   refine List.mem_cons_of_mem _ (List.mem_append_left _ (Zt (d:=D i) ?_ hk))
   exact List.mem_map.2 ⟨i,List.mem_range.2 hi,rfl⟩)
  obtain ⟨b,off,spot⟩:=a
  refine ⟨b,off,fun i=>(F i).1.1,fun i=>(F i).1.2.1,fun i=>(F i).1.2.2,fun i=>(F i).2.1.1,fun i=>(F i).2.1.2,fun i=>(F i).2.2.1.1,fun i=>(F i).2.2.1.2.1,fun i=>(F i).2.2.1.2.2,
   fun i=>(F i).2.2.2.1.1,fun i=>(F i).2.2.2.1.2,fun i=>(F i).2.2.2.2.1,fun i=>(F i).2.2.2.2.2.1,fun i=>(F i).2.2.2.2.2.2,?_⟩
  by_cases hl0:m=0
  ·subst hl0
   exact ⟨fun h=>by omega,fun h=>by omega,fun i hi=>by omega,fun i hi=>by omega,fun i hi=>by omega,fun i hi=>by omega,fun i hi=>by omega,fun i hi=>by omega,fun i hi=>by omega,fun i hi=>by omega⟩
  ·have hc0:=(hF 0 (by omega)).1 0 (by omega)
   have hspot:spot=none:=by simpa [Addr.add] using World.cell?_spot hc0
   subst hspot
   have hlt:b<w.heap.size:=by
    have:=hc0
    simp [Addr.add] at this
    exact yB this
   have hcell:∀ i,i<m->∀ j,j<6->w.cell? ⟨b,off+i*6+j,none⟩=[J Z (F i).1.1,J Z (F i).1.2.1,J Z (F i).1.2.2,(F i).2.1.1,(F i).2.1.2,.slice (F i).2.2.1.1 (F i).2.2.1.2.1 (F i).2.2.1.2.2][j]?:=fun i hi j hj=>by
    have:=(hF i hi).1 j hj
    rw [add_plain,add_plain] at this
    exact this
   exact ⟨fun _=>rfl,fun _=>hlt,fun i hi=>hcell i hi 0 (by omega),fun i hi=>hcell i hi 1 (by omega),fun i hi=>hcell i hi 2 (by omega),fun i hi=>hcell i hi 3 (by omega),fun i hi=>hcell i hi 4 (by omega),fun i hi=>hcell i hi 5 (by omega),
    fun i hi=>(hF i hi).2.1,fun i hi=>(hF i hi).2.2⟩
theorem zb9 {fuel:Nat} {so:Option Addr} {m cap:Nat} {d:DataW H} {p:List MemPlace} (h:DataW.trod enc Tryz.prog w base spare held fuel 23 [.slice so m cap]=some (d,p))
 (hz:∀ k∈d.weights Tryz.prog 23,k<=reachBytes) :
 m*56<=140737488351232/\∃ b off K A B C D S,OS w so b off m K A B C D S/\∀ i,i<m->(-9223372036854775808<=A i/\A i<=9223372036854775807)/\(-9223372036854775808<=B i/\B i<=9223372036854775807)/\(-9223372036854775808<=C i/\C i<=9223372036854775807)/\(-9223372036854775808<=D i/\D i<=9223372036854775807)/\(S i).size<=maxLen:=by
 rcases Deep.open_slice Tryz.underlying23 h with ⟨hcs,hx⟩ | ⟨a,l,c,q,n,D,Pl,hcs,hb,hl,hm,hmm,hx,hel⟩
 ·simp at hcs
  obtain ⟨rfl,rfl,rfl⟩:=hcs
  refine ⟨by omega,0,0,fun _=>0,fun _=>0,fun _=>0,fun _=>0,fun _=>0,fun _=>ByteArray.empty,?_,fun i hi=>by omega⟩
  exact ⟨fun h=>by omega,fun h=>by omega,fun i hi=>by omega,fun i hi=>by omega,fun i hi=>by omega,fun i hi=>by omega,fun i hi=>by omega,fun i hi=>by omega⟩
 ·simp at hcs hx
  obtain ⟨rfl,rfl,rfl⟩:=hcs
  obtain ⟨rfl,_⟩:=hx
  have hlm:m<=q:=by rw [hmm];split<;>omega
  rw [qk] at hel
  have hwd:(m+(q-m))*56<=reachBytes:=by
   refine hz _ ?_
   simp only [DataW.weights,Tryz.underlying23,zd1,List.length_map,List.length_range]
   exact List.mem_cons_self ..
  refine ⟨by simp only [reachBytes] at hwd;omega,?_⟩
  obtain ⟨F,hF⟩:=Deep.choose_lt (α:=(Int×Int×Int×Int×Int)×ByteArray) (n:=m)
   (p:=fun i y=>(∀ j,j<6->w.cell? ((a.add (i*6)).add j)=[J Z y.1.1,J Z y.1.2.1,J Z y.1.2.2.1,J Z y.1.2.2.2.1,J Z y.1.2.2.2.2,.string y.2][j]?) /\
    ((-9223372036854775808<=y.1.2.1/\y.1.2.1<=9223372036854775807)/\(-9223372036854775808<=y.1.2.2.1/\y.1.2.2.1<=9223372036854775807)/\(-9223372036854775808<=y.1.2.2.2.1/\y.1.2.2.2.1<=9223372036854775807)/\(-9223372036854775808<=y.1.2.2.2.2/\y.1.2.2.2.2<=9223372036854775807)/\y.2.size<=maxLen)) (fun i hi=>by
   obtain ⟨cs',h1,h2⟩:=hel i (by omega)
   obtain ⟨k,ia,ib,ic,id,s,rfl,w1,w2,w3,w4,hs⟩:=zdG h2
   obtain ⟨_,_,hc⟩:=World.cells?_some h1
   exact ⟨((k,ia,ib,ic,id),s),hc,bounds_i64 w1,bounds_i64 w2,bounds_i64 w3,bounds_i64 w4,hs⟩)
  obtain ⟨b,off,spot⟩:=a
  refine ⟨b,off,fun i=>(F i).1.1,fun i=>(F i).1.2.1,fun i=>(F i).1.2.2.1,fun i=>(F i).1.2.2.2.1,fun i=>(F i).1.2.2.2.2,fun i=>(F i).2,?_,fun i hi=>(hF i hi).2⟩
  by_cases hl0:m=0
  ·subst hl0
   exact ⟨fun h=>by omega,fun h=>by omega,fun i hi=>by omega,fun i hi=>by omega,fun i hi=>by omega,fun i hi=>by omega,fun i hi=>by omega,fun i hi=>by omega⟩
  ·have hc0:=(hF 0 (by omega)).1 0 (by omega)
   have hspot:spot=none:=by simpa [Addr.add] using World.cell?_spot hc0
   subst hspot
   have hlt:b<w.heap.size:=by
    have:=hc0
    simp [Addr.add] at this
    exact yB this
   have hcell:∀ i,i<m->∀ j,j<6->w.cell? ⟨b,off+i*6+j,none⟩=[J Z (F i).1.1,J Z (F i).1.2.1,J Z (F i).1.2.2.1,J Z (F i).1.2.2.2.1,J Z (F i).1.2.2.2.2,.string (F i).2][j]?:=fun i hi j hj=>by
    have:=(hF i hi).1 j hj
    rw [add_plain,add_plain] at this
    exact this
   exact ⟨fun _=>rfl,fun _=>hlt,fun i hi=>hcell i hi 0 (by omega),fun i hi=>hcell i hi 1 (by omega),fun i hi=>hcell i hi 2 (by omega),fun i hi=>hcell i hi 3 (by omega),fun i hi=>hcell i hi 4 (by omega),fun i hi=>hcell i hi 5 (by omega)⟩
end
end
structure WD where
 a:Int
 b:Int
 d:Int
 do_:Option Addr
 db:Nat
 doff:Nat
 dl:Nat
 dc:Nat
 Dn:Nat->Int
 ao:Option Addr
 ab:Nat
 aoff:Nat
 ac:Nat
 al:List (List Int)
 po:Option Addr
 pb:Nat
 poff:Nat
 pl:Nat
 pcp:Nat
 V:Nat->Int
 L:Nat->Int
 R:Nat->Int
def WD.val (x:WD):Value:=.agg #[J Z x.a,J Z x.b,J Z x.d,.slice x.do_ x.dl x.dc,.slice x.ao x.al.length x.ac,.slice x.po x.pl x.pcp]
structure WD.In (x:WD) (w:World):Prop where
 ts:TS w x.po x.pb x.poff x.pl x.V x.L x.R
 is_:IS w x.do_ x.db x.doff x.dl x.Dn
 as_:AS w w.heap.size x.ao x.ab x.aoff x.al
 ndl:x.dl<=9223372036854775806
 nal:x.al.length<=9223372036854775807
theorem AS.wide {w:World} {base base':Nat} {ao:Option Addr} {ab aoff:Nat} {al:List (List Int)} (h:AS w base ao ab aoff al) (hb:base<=base'):AS w base' ao ab aoff al :=
 ⟨h.at_,fun h0=>by have:=h.lt h0;omega,fun k l hl=>by
  obtain ⟨lo,lc,h2,h3⟩:=h.val k l hl
  refine ⟨lo,lc,h2,fun h0=>?_⟩
  obtain ⟨lb,loff,h4,h5,h6⟩:=h3 h0
  exact ⟨lb,loff,h4,by omega,h6⟩,h.len⟩
theorem WD.In.below {x:WD} {w w':World} (h:x.In w) (hb:Below w.heap.size w w'):x.In w' :=
 ⟨h.ts.below hb,h.is_.below hb h.is_.lt,(h.as_.of_kept (fun b hl=>hb.block b hl)).wide hb.size,h.ndl,h.nal⟩
def Zz (R:Nat->Int):Nat->Bool
 | 0=>true
 | n+1=>Zz R n && (decide (0<=R n) && decide (R n<=99))
theorem zaN {R:Nat->Int} {n:Nat}:Zz R n=true↔∀ k,k<n->0<=R k/\R k<=99:=by
 induction n with
 | zero=>simp [Zz]
 | succ n ih =>
  simp only [Zz,Bool.and_eq_true,ih,decide_eq_true_eq]
  constructor
  ·rintro ⟨h,h1⟩ k hk
   by_cases hi:k=n
   ·subst hi;exact h1
   ·exact h k (by omega)
  ·intro h
   exact ⟨fun k hk=>h k (by omega),h n (by omega)⟩
theorem XM {R:Nat->Int} {n k:Nat} (hk:k<n) (h:¬ (0<=R k/\R k<=99)):Zz R n=false:=by
 rw [Bool.eq_false_iff]
 intro hm
 exact h (zaN.1 hm k hk)
theorem JU (ao:Option Addr) (b off n c:Nat) (V L R:Nat->Int) (w:World) (hn:n*24<=140737488351232) (hs:TS w ao b off n V L R) :
 Calls Tryz.prog 34 #[.slice ao n c] w fun e w'=>e=.returned (.bool (Zz R n && M.isMap V L n))/\Below w.heap.size w w':=by
 go_enter Tryz.func34,Tryz.ntmps34
 go_wp2
 go_loop [3] (fun i=>∃ k:Nat,k<=n/\i=J Z k/\Zz R k=true) (fun i=>n-(intOf i).toNat)
 case atStart=>exact ⟨0,by omega,rfl,rfl⟩
 case round =>
  obtain ⟨k,hk,rfl,hf⟩:=hrel
  by_cases hlt:k<n
  ·obtain rfl:=hs.at_ (by omega)
   have hv:=hs.reg k hlt
   have hbb:b<w.heap.size:=hs.lt (by omega)
   clear hs
   by_cases h1:R k<0
   ·have ht:Hid ((Zz R n && M.isMap V L n)=false):=by show _=_;rw [XM hlt (by omega)];rfl
    go_wp2
    go_ret
    exact ⟨ya ht.out.symm,Below.refl _ _⟩
   ·by_cases h2:99<R k
    ·have ht:Hid ((Zz R n && M.isMap V L n)=false):=by show _=_;rw [XM hlt (by omega)];rfl
     go_wp2
     go_ret
     exact ⟨ya ht.out.symm,Below.refl _ _⟩
    ·have HF:Hid (Zz R (k+1)=true):=by
      have g1:0<=R k:=by omega
      have g2:R k<=99:=by omega
      show _=_;simp [Zz,hf,g1,g2]
     go_wp2
     go_round
     case rel=>exact ⟨k+1,by omega,by go_num,HF⟩
     case measure=>simp [intOf];omega
  ·have hkn:k=n:=by omega
   subst hkn
   have ht:Hid ((Zz R k && M.isMap V L k)=M.isMap V L k):=by show _=_;rw [hf];rfl
   go_wp2_with fail
   refine (Xk _ b off _ _ V L R _ hn hs).mono ?_
   rintro e w1 ⟨⟨v,rfl,hown⟩,hb1⟩
   obtain ⟨ao',b',c',rfl,hc',_,hps⟩:=Z2 hown
   clear hown
   go_wp2_with fail
   refine (JR _ b' _ _ V L _ (by omega) hps).mono ?_
   rintro e w2 ⟨rfl,hb2⟩
   go_wp2_with fail
   go_ret
   exact ⟨ya ht.out.symm,hb1.trans (hb2.mono hb1.size)⟩
end Go.Proofs.YtaebngpoagjafaaGreat
