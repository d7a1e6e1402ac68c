import Derived.Test.YtaebngpoagjafabGreatU01
import Derived.Below
import Derived.BigQuiet
import Derived.ChangeOld
import Derived.Deep.OwnRows
import Derived.Deep.QuietTactic
import Derived.Deep.RegionWith
import Derived.Deep.Slices
import Derived.Laws.ResultCell
import Derived.Laws.StructEq
import Derived.Laws.Tables
import Derived.OpenShut
import Derived.ProofKit
import Derived.SizedLaws
import Derived.Test.YtaebngpoagjafabGreatRows
import Derived.WalkKit
import Derived.WalkLawsBesides
import Derived.WalkSpells
set_option maxRecDepth 100000
set_option maxHeartbeats 400000
namespace Go.Proofs.YtaebngpoagjafabGreat
open Value renaming int → J
open IntKind renaming i64 → Z
open Go.RowKit
theorem Xd {k:IntKind} {a b:Int} (h:a=b):Ending.returned (.int k a)=.returned (.int k b):=by rw [h]
theorem jv (n:Int) (w:World) (h0:0<=n) (h1:n<=32) :
 Calls Tryz.prog 120 #[J Z n] w fun e w'=>e=.returned (J Z (M.p2 (32-n).toNat))/\w'=w:=by
 go_enter Tryz.func120,Tryz.ntmps120
 go_wp2
 go_loop [3,4] (fun k i=>∃ j:Nat,n+j<=32/\i=J Z (n+j)/\k=J Z (M.p2 j)) (fun _ i=>32-(intOf i).toNat)
 case atStart=>exact ⟨0,by omega,by simp,rfl⟩
 case round =>
  obtain ⟨j,d,rfl,rfl⟩:=hrel
  have f:=M.p2_le (j:=j) (by omega)
  have b:=M.p2_pos j
  by_cases a:n+j<32
  ·go_wp2
   go_round
   case rel=>exact ⟨j+1,by omega,by go_num,rfl⟩
   case measure=>simp [intOf];omega
  ·go_wp2
   go_ret
   exact ⟨Xd (by congr 1;omega),rfl⟩
theorem xQ (n:Int) (w:World) :
 Calls Tryz.prog 44 #[J Z n] w fun e w'=>e=.returned (.bool (M.isA n))/\w'=w:=by
 by_cases d:0<=n
 ·by_cases b:n<4294967296
  ·have a:M.isA n=true:=by simp [M.isA,d,b]
   rw [a];clear a
   go_enter Tryz.func44,Tryz.ntmps44
   go_wp2
   go_ret
   exact ⟨rfl,rfl⟩
  ·have a:M.isA n=false:=by simp [M.isA,b]
   rw [a];clear a
   go_enter Tryz.func44,Tryz.ntmps44
   go_wp2
   go_ret
   exact ⟨rfl,rfl⟩
 ·have a:M.isA n=false:=by simp [M.isA,d]
  rw [a];clear a
  go_enter Tryz.func44,Tryz.ntmps44
  go_wp2
  go_ret
  exact ⟨rfl,rfl⟩
theorem xM (n:Int) (w:World) :
 Calls Tryz.prog 55 #[J Z n] w fun e w'=>e=.returned (.bool (M.isA n))/\w'=w:=by
 by_cases d:0<=n
 ·by_cases b:n<4294967296
  ·have a:M.isA n=true:=by simp [M.isA,d,b]
   rw [a];clear a
   go_enter Tryz.func55,Tryz.ntmps55
   go_wp2
   go_ret
   exact ⟨rfl,rfl⟩
  ·have a:M.isA n=false:=by simp [M.isA,b]
   rw [a];clear a
   go_enter Tryz.func55,Tryz.ntmps55
   go_wp2
   go_ret
   exact ⟨rfl,rfl⟩
 ·have a:M.isA n=false:=by simp [M.isA,d]
  rw [a];clear a
  go_enter Tryz.func55,Tryz.ntmps55
  go_wp2
  go_ret
  exact ⟨rfl,rfl⟩
theorem YD (a b:Int) (w:World) (a0:0<=a) (a1:a<4294967296) (b0:0<=b) (b1:b<4294967296) :
 Calls Tryz.prog 146 #[J Z a,J Z b] w fun e w'=>e=.returned (J Z (M.sh a b))/\w'=w:=by
 go_enter Tryz.func146,Tryz.ntmps146
 go_wp2
 go_loop [0,1,5] (fun x y i=>∃ (p q:Int) (k:Nat),k<=32/\0<=p/\p<4294967296/\0<=q/\q<4294967296/\x=J Z p/\y=J Z q/\i=J Z k/\Hid (M.shN k p q=M.sh a b)) (fun _ _ i=>(intOf i).toNat)
 case atStart=>exact ⟨a,b,32,by omega,a0,a1,b0,b1,rfl,rfl,rfl,rfl⟩
 case round =>
  obtain ⟨p,q,k,r,o,n,m,l,rfl,rfl,rfl,f⟩:=hrel
  cases k with
  | zero =>
   go_wp2
   go_ret
   exact ⟨Xd (by rw [<- f.out];rfl),rfl⟩
  | succ k =>
   by_cases d:p=q
   ·subst d
    go_wp2
    go_ret
    exact ⟨Xd (by rw [<- f.out];simp [M.shN]),rfl⟩
   ·have g:(p != q)=true:=by simpa using d
    have j:Hid (M.shN k (p / 2) (q / 2)=M.sh a b):=by have h:=f.out;simp only [M.shN,if_neg d] at h;exact h
    clear f
    go_wp2
    go_round
    case rel=>exact ⟨p / 2,q / 2,k,by omega,by omega,by omega,by omega,by omega,rfl,rfl,by go_num,j⟩
    case measure=>simp [intOf]
theorem M.wrap64_in (n:Int) (h:-9223372036854775808<=n/\n<=9223372036854775807):wrap64 n=n:=by unfold wrap64;omega
theorem zL {B:Nat} {a w:World} (h:Below B a w) (n:Nat):Below B a (w.drewN n):=⟨h.os,h.tape,h.output,h.size,h.block⟩
theorem QB (b:Bool) (v:Int) (w:World) (h:M.isA v=b):Calls Tryz.prog 44 #[J Z v] w fun e w'=>e=.returned (.bool b)/\w'=w:=by
 rw [<- h];exact xQ v w
theorem Xz (b:Bool) (v:Int) (w:World) (h:M.isA v=b):Calls Tryz.prog 55 #[J Z v] w fun e w'=>e=.returned (.bool b)/\w'=w:=by
 rw [<- h];exact xM v w
theorem xE (w:World) (o:Obj) (m:Nat):Below w.heap.size w ((w.alloc o).drewN m):=zL ((Below.refl _ _).alloc (Nat.le_refl _) _) m
theorem Xn (v n:Int) (w:World) :
 Calls Tryz.prog 83 #[.agg #[J Z v,J Z n]] w fun e w'=>e=.returned (.bool (M.isP v n))/\Below w.heap.size w w':=by
 by_cases d:0<=n
 ·by_cases b:n<=32
  ·have k:=M.p2_pos (32-n).toNat
   have i:=M.p2_le (j:=(32-n).toNat) (by omega)
   cases hA:M.isA v with
   | true =>
    have a:M.isP v n=(v%M.p2 (32-n).toNat==0):=by simp [M.isP,d,b,hA,BEq.beq]
    rw [a];clear a
    obtain ⟨h,g⟩:=M.isA_iff.1 hA
    go_enter Tryz.func83,Tryz.ntmps83
    go_wp2
    go_quiet ((first | (go_at_call 44;exact Calls.quiet_of_same (QB _ _ _ hA)) | (go_at_call 120;exact Calls.quiet_of_same (jv _ _ d b))))
    go_wp2
    go_ret
    exact ⟨rfl,xE _ _ _⟩
   | false =>
    have a:M.isP v n=false:=by simp [M.isP,hA]
    rw [a];clear a
    go_enter Tryz.func83,Tryz.ntmps83
    go_wp2
    go_quiet ((go_at_call 44;exact Calls.quiet_of_same (QB _ _ _ hA)))
    go_wp2
    go_ret
    exact ⟨rfl,xE _ _ _⟩
  ·have a:M.isP v n=false:=by simp [M.isP,b]
   rw [a];clear a
   have f:decide (n<=32)=false:=decide_eq_false b
   go_enter Tryz.func83,Tryz.ntmps83
   go_wp2
   go_quiet (fail)
   go_wp2
   go_ret
   exact ⟨rfl,xE _ _ _⟩
 ·have a:M.isP v n=false:=by simp [M.isP,d]
  rw [a];clear a
  have f:decide (0<=n)=false:=decide_eq_false d
  go_enter Tryz.func83,Tryz.ntmps83
  go_wp2
  go_quiet (fail)
  go_wp2
  go_ret
  exact ⟨rfl,xE _ _ _⟩
theorem M.shifts (v n:Int) (h0:0<=n) (h1:n<=32) (hA:M.isA v=true):M.isP v n=(wrap64 (v / 2 ^ (32-n).toNat*2 ^ (32-n).toNat)==v):=by
 obtain ⟨a,g⟩:=M.isA_iff.1 hA
 rw [<- M.p2_eq]
 have h:=M.p2_pos (32-n).toNat
 generalize hm:M.p2 (32-n).toNat=m at *
 have e:=Int.emod_add_mul_ediv v m
 have i:=Int.mul_comm (v / m) m
 have k:=Int.emod_nonneg v (b:=m) (by omega)
 have f:0<=v / m:=Int.ediv_nonneg a (by omega)
 have j:0<=m*(v / m):=Int.mul_nonneg (by omega) f
 rw [M.wrap64_in _ (by omega)]
 have d:(v%m=0)↔v / m*m=v:=by omega
 simp only [M.isP,hm,hA,h0,h1,decide_true,Bool.true_and]
 rw [Bool.eq_iff_iff];simp [d]
theorem YS (v n:Int) (w:World) :
 Calls Tryz.prog 121 #[.agg #[J Z v,J Z n]] w fun e w'=>e=.returned (.bool (M.isP v n))/\Below w.heap.size w w':=by
 by_cases d:0<=n
 ·by_cases b:n<=32
  ·have i:=M.p2_pos (32-n).toNat
   have h:=M.p2_le (j:=(32-n).toNat) (by omega)
   cases hA:M.isA v with
   | true =>
    obtain ⟨g,f⟩:=M.isA_iff.1 hA
    have a:M.isP v n=(wrap64 (v / 2 ^ (32-n).toNat*2 ^ (32-n).toNat)==v):=M.shifts v n d b hA
    rw [a];clear a
    go_enter Tryz.func121,Tryz.ntmps121
    go_wp2
    go_quiet ((go_at_call 55;exact Calls.quiet_of_same (Xz _ _ _ hA)))
    go_wp2
    go_ret
    exact ⟨rfl,xE _ _ _⟩
   | false =>
    have a:M.isP v n=false:=by simp [M.isP,hA]
    rw [a];clear a
    go_enter Tryz.func121,Tryz.ntmps121
    go_wp2
    go_quiet ((go_at_call 55;exact Calls.quiet_of_same (Xz _ _ _ hA)))
    go_wp2
    go_ret
    exact ⟨rfl,xE _ _ _⟩
  ·have a:M.isP v n=false:=by simp [M.isP,b]
   rw [a];clear a
   go_enter Tryz.func121,Tryz.ntmps121
   go_wp2
   go_ret
   exact ⟨rfl,(Below.refl _ _).alloc (Nat.le_refl _) _⟩
 ·have a:M.isP v n=false:=by simp [M.isP,d]
  rw [a];clear a
  go_enter Tryz.func121,Tryz.ntmps121
  go_wp2
  go_ret
  exact ⟨rfl,(Below.refl _ _).alloc (Nat.le_refl _) _⟩
structure PS (w:World) (ao:Option Addr) (b n:Nat) (V L:Nat->Int):Prop where
 at_:0<n->ao=some ⟨b,0,none⟩
 lt:0<n->b<w.heap.size
 val:∀ i,i<n->w.cell? ⟨b,i*2,none⟩=some (J Z (V i))
 len:∀ i,i<n->w.cell? ⟨b,i*2+1,none⟩=some (J Z (L i))
theorem PS.below {w w':World} {ao b n V L} (h:PS w ao b n V L) (hb:Below w.heap.size w w'):PS w' ao b n V L :=
 ⟨h.at_,fun hn=>Nat.lt_of_lt_of_le (h.lt hn) hb.size,fun i hi=>by rw [hb.cell (h.lt (by omega))];exact h.val i hi,fun i hi=>by rw [hb.cell (h.lt (by omega))];exact h.len i hi⟩
theorem PS.take {w:World} {ao b n V L} (h:PS w ao b n V L) {m:Nat} (hm:m<=n):PS w ao b m V L :=
 ⟨fun h0=>h.at_ (by omega),fun h0=>h.lt (by omega),fun i hi=>h.val i (by omega),fun i hi=>h.len i (by omega)⟩
theorem yc {a b:Bool} (h:a=b):Ending.returned (.bool a)=.returned (.bool b):=by rw [h]
theorem Jb {w wr wx:World} {v m:Value} (hx:Below wr.heap.size wr wx) (hsz:w.heap.size<wr.heap.size) (hb:Below w.heap.size w wr)
 (c0:wr.cell? ⟨w.heap.size,0,none⟩=some v) (c1:wr.cell? ⟨w.heap.size,1,none⟩=some m) :
 wx.cell? ⟨w.heap.size,0,none⟩=some v/\wx.cell? ⟨w.heap.size,1,none⟩=some m/\w.heap.size<wx.heap.size/\Below w.heap.size w wx :=
 ⟨by rw [hx.cell hsz];exact c0,by rw [hx.cell hsz];exact c1,Nat.lt_of_lt_of_le hsz hx.size,hb.trans (hx.mono (Nat.le_of_lt hsz))⟩
theorem QC (ao:Option Addr) (b n c:Nat) (V L:Nat->Int) (v m:Int) (w:World) (hn:n<=64) (hs:PS w ao b n V L) :
 Calls Tryz.prog 122 #[.slice ao n c,.agg #[J Z v,J Z m]] w fun e w'=>e=.returned (.bool (M.inTo V L v m n))/\Below w.heap.size w w':=by
 go_enter Tryz.func122,Tryz.ntmps122
 go_wp2
 go_loopw [9] (fun i wr=>∃ k:Nat,k<=n/\i=J Z k/\M.inTo V L v m k=false/\wr.cell? ⟨w.heap.size,0,none⟩=some (J Z v)/\wr.cell? ⟨w.heap.size,1,none⟩=some (J Z m)/\w.heap.size<wr.heap.size/\Below w.heap.size w wr) (fun i _=>n-(intOf i).toNat)
 case atStart=>exact ⟨0,by omega,rfl,rfl,by simp,by simp,by simp,(Below.refl _ _).alloc (Nat.le_refl _) _⟩
 case round =>
  obtain ⟨k,s,rfl,h,c0,c1,a,f⟩:=hrel
  by_cases d:k<n
  ·obtain rfl:=hs.at_ (by omega)
   have q:=(hs.below f).val k d
   have r:=(hs.below f).len k d
   have p:b<wr.heap.size:=(hs.below f).lt (by omega)
   have j:Hid (Below w.heap.size w wr):=f
   clear hs f
   cases e1:(V k==v) with
   | true =>
    cases e2:(L k==m) with
    | true =>
     have o:Hid (M.inTo V L v m n=true):=M.inTo_hit d (by simpa using e1) (by simpa using e2)
     go_wp2
     go_ret
     exact ⟨yc o.out.symm,j.out.trans (Below.mono (B:=wr.heap.size) (by repeat (first | exact Below.refl _ _ | refine zL ?_ _ | refine Below.drew ?_ | refine Below.alloc ?_ (by simp) _ | refine Below.setCell ?_ (by simp) _)) (Nat.le_of_lt a))⟩
    | false =>
     have l:Hid (M.inTo V L v m (k+1)=false):=by show _=_;simp [M.inTo,h,e2]
     go_wp2
     go_roundw
     case rel=>exact ⟨k+1,by omega,by go_num,l,Jb (by repeat (first | exact Below.refl _ _ | refine zL ?_ _ | refine Below.drew ?_ | refine Below.alloc ?_ (by simp) _ | refine Below.setCell ?_ (by simp) _)) a j.out c0 c1⟩
     case measure=>simp [intOf];omega
   | false =>
    have l:Hid (M.inTo V L v m (k+1)=false):=by show _=_;simp [M.inTo,h,e1]
    go_wp2
    go_roundw
    case rel=>exact ⟨k+1,by omega,by go_num,l,Jb (by repeat (first | exact Below.refl _ _ | refine zL ?_ _ | refine Below.drew ?_ | refine Below.alloc ?_ (by simp) _ | refine Below.setCell ?_ (by simp) _)) a j.out c0 c1⟩
    case measure=>simp [intOf];omega
  ·have g:k=n:=by omega
   subst g
   go_wp2
   go_ret
   exact ⟨yc h.symm,f⟩
def X6 (P:Nat->Int) (k:Int):Nat->Bool
 | 0=>false
 | n+1=>X6 P k n || (P n==k)
theorem zdC {P:Nat->Int} {k:Int} {n m:Nat} (h:m<n) (e:P m=k):X6 P k n=true:=by
 induction n with
 | zero=>omega
 | succ n ih =>
  simp only [X6,Bool.or_eq_true,beq_iff_eq]
  by_cases a:m=n
  ·subst a;exact .inr e
  ·exact .inl (ih (by omega))
theorem zbU (b n c:Nat) (P:Nat->Int) (k:Int) (w:World) (hn:n<=64) (hp:∀ i,i<n->w.cell? ⟨b,i,none⟩=some (J Z (P i))) :
 Calls Tryz.prog 13 #[.slice (some ⟨b,0,none⟩) n c,J Z k] w fun e w'=>e=.returned (.bool (X6 P k n))/\w'=w:=by
 have h:Hid _:=hp
 clear hp
 go_enter Tryz.func13,Tryz.ntmps13
 go_wp2
 go_loop [5] (fun x=>∃ m:Nat,m<=n/\x=J Z m/\X6 P k m=false) (fun x=>n-(intOf x).toNat)
 case atStart=>exact ⟨0,by omega,rfl,rfl⟩
 case round =>
  obtain ⟨m,l,rfl,g⟩:=hrel
  by_cases a:m<n
  ·have o:=h.out m a
   cases e1:(P m==k) with
   | true =>
    have f:Hid (X6 P k n=true):=zdC a (by simpa using e1)
    go_wp2
    go_ret
    exact ⟨yc f.out.symm,rfl⟩
   | false =>
    have j:Hid (X6 P k (m+1)=false):=by show _=_;simp [X6,g,e1]
    go_wp2
    go_round
    case rel=>exact ⟨m+1,by omega,by go_num,j⟩
    case measure=>simp [intOf];omega
  ·have d:m=n:=by omega
   subst d
   go_wp2
   go_ret
   exact ⟨rfl,rfl⟩
structure OS (w:World) (ao:Option Addr) (b off n:Nat) (K A B C D:Nat->Int) (S:Nat->ByteArray):Prop where
 at_:0<n->ao=some ⟨b,off,none⟩
 lt:0<n->b<w.heap.size
 k:∀ i,i<n->w.cell? ⟨b,off+i*6,none⟩=some (J Z (K i))
 a:∀ i,i<n->w.cell? ⟨b,off+i*6+1,none⟩=some (J Z (A i))
 b_:∀ i,i<n->w.cell? ⟨b,off+i*6+2,none⟩=some (J Z (B i))
 c:∀ i,i<n->w.cell? ⟨b,off+i*6+3,none⟩=some (J Z (C i))
 d:∀ i,i<n->w.cell? ⟨b,off+i*6+4,none⟩=some (J Z (D i))
 s:∀ i,i<n->w.cell? ⟨b,off+i*6+5,none⟩=some (.string (S i))
theorem OS.below {w w':World} {ao b off n K A B C D S} (h:OS w ao b off n K A B C D S) (hb:Below w.heap.size w w'):OS w' ao b off n K A B C D S :=
 ⟨h.at_,fun hn=>Nat.lt_of_lt_of_le (h.lt hn) hb.size,fun i hi=>by rw [hb.cell (h.lt (by omega))];exact h.k i hi,fun i hi=>by rw [hb.cell (h.lt (by omega))];exact h.a i hi,
  fun i hi=>by rw [hb.cell (h.lt (by omega))];exact h.b_ i hi,fun i hi=>by rw [hb.cell (h.lt (by omega))];exact h.c i hi,fun i hi=>by rw [hb.cell (h.lt (by omega))];exact h.d i hi,fun i hi=>by rw [hb.cell (h.lt (by omega))];exact h.s i hi⟩
theorem J2 (ao:Option Addr) (n c:Nat) (w:World):(Instr.build 51 #[(0,.slice ao n c)]).run Tryz.prog w=.ok (.agg #[.slice ao n c,.slice none 0 0,.slice none 0 0,.slice none 0 0,.slice none 0 0]) w:=run_build w 51 _ _ (by kernel_rfl)
def st0 (wo:Option Addr) (m wc:Nat):Obj:=.cells #[.slice wo m wc,.slice none 0 0,.slice none 0 0,.slice none 0 0,.slice none 0 0] 51
theorem Tryz.infoPrefix:(Tryz.prog.info? 94).map (fun i=>(i.zero,i.size,i.bytes))=some (some (.agg #[J Z 0,J Z 0]),2,16):=by kernel_rfl
theorem Tryz.infoPlace:(Tryz.prog.info? 96).map (fun i=>(i.zero,i.size,i.bytes))=some (some (.agg #[J Z 0,J Z 0,J Z 0]),3,24):=by kernel_rfl
def pc (V L:Nat->Int):Nat->List Value
 | 0=>[]
 | n+1=>pc V L n++[J Z (V n),J Z (L n)]
def tc (V L R:Nat->Int):Nat->List Value
 | 0=>[]
 | n+1=>tc V L R n++[J Z (V n),J Z (L n),J Z (R n)]
theorem qJ (V L:Nat->Int) (n:Nat):(pc V L n).length=n*2:=by
 induction n with
 | zero=>rfl
 | succ n ih=>simp [pc,ih];omega
theorem zcw (V L:Nat->Int) {n i:Nat} (h:i<n):(pc V L n)[i*2]?=some (J Z (V i))/\(pc V L n)[i*2+1]?=some (J Z (L i)):=by
 induction n with
 | zero=>omega
 | succ n ih =>
  simp only [pc]
  by_cases a:i=n
  ·subst a
   rw [List.getElem?_append_right (by rw [qJ];omega),List.getElem?_append_right (by rw [qJ];omega),qJ]
   simp
  ·have:=ih (by omega)
   rw [List.getElem?_append_left (by rw [qJ];omega),List.getElem?_append_left (by rw [qJ];omega)]
   exact this
structure TS (w:World) (ao:Option Addr) (b off n:Nat) (V L R:Nat->Int):Prop where
 at_:0<n->ao=some ⟨b,off,none⟩
 lt:0<n->b<w.heap.size
 val:∀ i,i<n->w.cell? ⟨b,off+i*3,none⟩=some (J Z (V i))
 len:∀ i,i<n->w.cell? ⟨b,off+i*3+1,none⟩=some (J Z (L i))
 reg:∀ i,i<n->w.cell? ⟨b,off+i*3+2,none⟩=some (J Z (R i))
theorem TS.below {w w':World} {ao b off n V L R} (h:TS w ao b off n V L R) (hb:Below w.heap.size w w'):TS w' ao b off n V L R :=
 ⟨h.at_,fun hn=>Nat.lt_of_lt_of_le (h.lt hn) hb.size,fun i hi=>by rw [hb.cell (h.lt (by omega))];exact h.val i hi,fun i hi=>by rw [hb.cell (h.lt (by omega))];exact h.len i hi,fun i hi=>by rw [hb.cell (h.lt (by omega))];exact h.reg i hi⟩
theorem Z4 {w:World} {base:Nat} {v:Value} {n:Nat} {V L:Nat->Int} (h:w.ownsRow base 94 2 v n (pc V L n)) :
 ∃ ao b c,v=.slice ao n c/\n<=c/\(n=0\/base<=b)/\PS w ao b n V L:=by
 have a:=h
 rcases h.2 with ⟨rfl,rfl⟩ | ⟨g,cap,cur,rfl,hb,hg,hnc,_,_,_⟩
 ·exact ⟨none,0,0,rfl,Nat.le_refl _,.inl rfl,⟨fun h=>by omega,fun h=>by omega,fun i hi=>by omega,fun i hi=>by omega⟩⟩
 ·refine ⟨some ⟨g,0,none⟩,g,cap,rfl,hnc,.inr hb,⟨fun _=>rfl,fun _=>?_,fun i hi=>?_,fun i hi=>?_⟩⟩
  ·exact (a.lt g rfl).2
  ·rw [a.cellAt (i*2) (by omega)];exact (zcw V L hi).1
  ·rw [a.cellAt (i*2+1) (by omega)];exact (zcw V L hi).2
theorem ze8 (w:World) (x y:Value) (t:TypeId):∀ j u,([x,y]:List Value)[j]?=some u->(w.alloc (.cells #[x,y] t)).cell? ((⟨w.heap.size,0,none⟩:Addr).add j)=some u:=by
 intro j u a
 match j,a with
 | 0,a=>simp at a;subst a;simp [Addr.add]
 | 1,a=>simp at a;subst a;simp [Addr.add]
theorem Xg (ao:Option Addr) (b off n c:Nat) (V L R:Nat->Int) (w:World) (hn:n*24<=140737488351232) (hs:TS w ao b off n V L R) :
 Calls Tryz.prog 42 #[.slice ao n c] w fun e w'=>(∃ v,e=.returned v/\w'.ownsRow w.heap.size 94 2 v n (pc V L n))/\Below w.heap.size w w':=by
 obtain ⟨y,z,p,o,m⟩:=info_parts Tryz.infoPrefix
 go_enter Tryz.func42,Tryz.ntmps42
 go_wp2
 go_loopw [3,4] (fun v i wr=>∃ k:Nat,k<=n/\i=J Z k/\wr.ownsRow w.heap.size 94 2 v k (pc V L k)/\Below w.heap.size w wr) (fun _ i _=>n-(intOf i).toNat)
 case atStart=>exact ⟨0,by omega,rfl,World.ownsRow_nil _ _ _ _,Below.refl _ _⟩
 case round =>
  obtain ⟨k,E,rfl,a,j⟩:=hrel
  by_cases h:k<n
  ·obtain rfl:=hs.at_ (by omega)
   have d:=hs.below j
   have C:=d.val k h
   have D:=d.len k h
   have A:b<wr.heap.size:=d.lt (by omega)
   have r:=j.size
   clear hs d
   go_wp2_with (at_builtin;refine wpList_append_own _ rfl _ _ 98 rfl w.heap.size 94 y (.agg #[J Z 0,J Z 0]) 2 16 Tryz.underlying98 z p o m rfl (by decide) _ _ _ rfl (a.alloc _) ⟨wr.heap.size,0,none⟩ 1 1 [J Z (V k),J Z (L k)] rfl rfl (ze8 _ _ _ _) (fun x l=>by simp at l;rcases l with rfl | rfl<;>rfl) (by unfold maxLen;omega) (by omega) (by simp;omega) ?_;intro B u g f _)
   have l:Hid (Below w.heap.size w u):=(j.alloc j.size _).grown f (by simp;omega) (fun q hq=>(a.lt q hq).1)
   go_roundw
   case rel=>exact ⟨k+1,by omega,by go_num,g,l⟩
   case measure=>simp [intOf];omega
  ·have s:k=n:=by omega
   subst s
   go_wp2
   go_ret
   exact ⟨⟨_,rfl,a⟩,j⟩
def PT (w:World) (po:Option Addr) (b off n c:Nat) (V L R:Nat->Int):Prop:=(po=none/\n=0/\c=0)\/∃ ad,po=some ad/\TS w (some ad) b off n V L R
theorem PT.below {w w':World} {po b off n c V L R} (h:PT w po b off n c V L R) (hb:Below w.heap.size w w'):PT w' po b off n c V L R:=by
 rcases h with h | ⟨ad,h1,h2⟩
 ·exact .inl h
 ·exact .inr ⟨ad,h1,h2.below hb⟩
structure WS (w:World) (wo:Option Addr) (b off m:Nat) (A Bi Dr:Nat->Int) (Dn Al:Nat->Value) (po:Nat->Option Addr) (n c pb poff:Nat->Nat) (V L R:Nat->Nat->Int):Prop where
 at_:0<m->wo=some ⟨b,off,none⟩
 lt:0<m->b<w.heap.size
 c0:∀ i,i<m->w.cell? ⟨b,off+i*6,none⟩=some (J Z (A i))
 c1:∀ i,i<m->w.cell? ⟨b,off+i*6+1,none⟩=some (J Z (Bi i))
 c2:∀ i,i<m->w.cell? ⟨b,off+i*6+2,none⟩=some (J Z (Dr i))
 c3:∀ i,i<m->w.cell? ⟨b,off+i*6+3,none⟩=some (Dn i)
 c4:∀ i,i<m->w.cell? ⟨b,off+i*6+4,none⟩=some (Al i)
 c5:∀ i,i<m->w.cell? ⟨b,off+i*6+5,none⟩=some (.slice (po i) (n i) (c i))
 pt:∀ i,i<m->PT w (po i) (pb i) (poff i) (n i) (c i) (V i) (L i) (R i)
 sz:∀ i,i<m->n i*24<=140737488351232
theorem WS.below {w w':World} {wo b off m A Bi Dr Dn Al po n c pb poff V L R} (h:WS w wo b off m A Bi Dr Dn Al po n c pb poff V L R) (hb:Below w.heap.size w w'):WS w' wo b off m A Bi Dr Dn Al po n c pb poff V L R :=
 ⟨h.at_,fun hn=>Nat.lt_of_lt_of_le (h.lt hn) hb.size,fun i hi=>by rw [hb.cell (h.lt (by omega))];exact h.c0 i hi,fun i hi=>by rw [hb.cell (h.lt (by omega))];exact h.c1 i hi,
  fun i hi=>by rw [hb.cell (h.lt (by omega))];exact h.c2 i hi,fun i hi=>by rw [hb.cell (h.lt (by omega))];exact h.c3 i hi,fun i hi=>by rw [hb.cell (h.lt (by omega))];exact h.c4 i hi,
  fun i hi=>by rw [hb.cell (h.lt (by omega))];exact h.c5 i hi,fun i hi=>(h.pt i hi).below hb,h.sz⟩
section
open Go.ChangeShapes Go.WideShapes Go.ChangeAt Go.RowKit
theorem own:ownKnob Tryz.prog.godebug=none:=by kernel_rfl
theorem zaj:laidOutB Tryz.prog=true:=by kernel_rfl
theorem qX:Tryz.prog.cellsOf 96=3:=by kernel_rfl
theorem j9:Tryz.prog.cellsOf 94=2:=by kernel_rfl
theorem Y5:Tryz.prog.cellsOf 3=1:=by kernel_rfl
theorem j8:Tryz.prog.cellsOf 9=1:=by kernel_rfl
theorem YN:Tryz.prog.cellsOf 31=6:=by kernel_rfl
theorem zar:Tryz.prog.cellsOf 53=6:=by kernel_rfl
theorem QG:Tryz.prog.cellsOf 25=1:=by kernel_rfl
theorem J0:Tryz.prog.cellsOf 28=1:=by kernel_rfl
theorem X1:Tryz.prog.cellsOf 29=1:=by kernel_rfl
theorem Qa:Tryz.prog.bytesOf 96=24:=by kernel_rfl
theorem q9:Tryz.prog.bytesOf 31=96:=by kernel_rfl
theorem zeI:Tryz.prog.bytesOf 53=56:=by kernel_rfl
theorem yw {w:World} {a:Addr} {v:Value} (h:w.cell? a=some v):a.block<w.heap.size:=by
 by_cases b:a.block<w.heap.size
 ·exact b
 ·have:w.heap[a.block]?=none:=by simp;omega
  simp [World.cell?,this] at h
theorem Z2 {H:Type} {P:Program} {e:TypeId} {l:List (DataW H)} {d:DataW H} (hd:d∈l) {n:Nat} (hn:n∈d.weights P e):n∈DataW.weightsAll P e l:=by
 induction l with
 | nil=>cases hd
 | cons x r ih =>
  simp only [DataW.weightsAll,List.mem_append]
  rcases List.mem_cons.1 hd with rfl | h
  ·exact .inl hn
  ·exact .inr (ih h)
section
variable {H:Type} {enc:TypeId×Value->H} {w:World} {base:Nat} {spare:Nat->Bool} {held:Bool}
theorem JF {n:Nat} {cs:List Value} {x:DataW H×List MemPlace} (h:DataW.trod enc Tryz.prog w base spare held n 96 cs=some x) :
 ∃ a b c:Int,cs=[J Z a,J Z b,J Z c]:=by
 obtain ⟨r,q,m,_,d,j,i⟩:=trod_struct2 Tryz.underlying96 h
 rw [qX] at d
 match cs,d with
 | [c0,c1,c2],_ =>
  obtain ⟨p,o,s,_,_,l,k⟩:=trod_struct2 Tryz.underlying94 j
  obtain ⟨a,g,_,_⟩:=DataW.trod_int Tryz.underlying3 l
  obtain ⟨b,f,_,_⟩:=DataW.trod_int Tryz.underlying3 k
  obtain ⟨c,e,_,_⟩:=DataW.trod_int Tryz.underlying3 i
  simp [Y5,j9] at g f e
  exact ⟨a,b,c,by rw [g,f,e]⟩
theorem XV {fuel:Nat} {cs:List Value} {x:DataW H×List MemPlace} (h:DataW.trod enc Tryz.prog w base spare held fuel 29 cs=some x) :
 ∃ po len cap b off V L R,cs=[.slice po len cap]/\PT w po b off len cap V L R/\(x.1=.nil/\len=0\/∃ el sp,x.1=.slice el sp/\el.length=len):=by
 rcases Deep.open_slice Tryz.underlying29 h with ⟨hcs,hx⟩ | ⟨a,l,c,m,n,D,Pl,hcs,hb,hl,hm,hmm,hx,hel⟩
 ·exact ⟨none,0,0,0,0,fun _=>0,fun _=>0,fun _=>0,hcs,.inl ⟨rfl,rfl,rfl⟩,.inl ⟨by rw [hx],rfl⟩⟩
 ·have q:l<=m:=by rw [hmm];split<;>omega
  rw [qX] at hel
  obtain ⟨F,g⟩:=Deep.choose_lt (α:=Int×Int×Int) (n:=l) (p:=fun i y=>∀ j,j<3->w.cell? ((a.add (i*3)).add j)=some (J Z (if j=0 then y.1 else if j=1 then y.2.1 else y.2.2))) (fun i hi=>by
   obtain ⟨v,u,s⟩:=hel i (by omega)
   obtain ⟨x,y,z,rfl⟩:=JF s
   obtain ⟨_,_,r⟩:=World.cells?_some u
   refine ⟨(x,y,z),fun j hj=>?_⟩
   rw [r j hj]
   match j,hj with
   | 0,_=>rfl
   | 1,_=>rfl
   | 2,_=>rfl)
  obtain ⟨b,off,d⟩:=a
  refine ⟨some ⟨b,off,d⟩,l,c,b,off,fun i=>(F i).1,fun i=>(F i).2.1,fun i=>(F i).2.2,hcs,.inr ⟨_,rfl,?_⟩,.inr ⟨_,_,by rw [hx],by simp⟩⟩
  by_cases o:l=0
  ·subst o
   exact ⟨fun h=>by omega,fun h=>by omega,fun i hi=>by omega,fun i hi=>by omega,fun i hi=>by omega⟩
  ·have f:=g 0 (by omega) 0 (by omega)
   have e:d=none:=by simpa [Addr.add] using World.cell?_spot f
   subst e
   have k:b<w.heap.size:=by
    have:=f
    simp [Addr.add] at this
    exact yw this
   refine ⟨fun _=>rfl,fun _=>k,fun i hi=>?_,fun i hi=>?_,fun i hi=>?_⟩
   ·have:=g i hi 0 (by omega)
    rw [add_plain,add_plain] at this
    exact this
   ·have:=g i hi 1 (by omega)
    rw [add_plain,add_plain] at this
    exact this
   ·have:=g i hi 2 (by omega)
    rw [add_plain,add_plain] at this
    exact this
theorem JE {n:Nat} {cs:List Value} {x:DataW H×List MemPlace} (h:DataW.trod enc Tryz.prog w base spare held n 31 cs=some x) :
 ∃ (a bi dr:Int) (dn al:Value) (po:Option Addr) (len cap b off:Nat) (V L R:Nat->Int),cs=[J Z a,J Z bi,J Z dr,dn,al,.slice po len cap]/\PT w po b off len cap V L R /\
  ((∀ k∈x.1.weights Tryz.prog 31,k<=reachBytes)->len*24<=140737488351232):=by
 obtain ⟨q,m,_,rfl,d,g,e⟩:=DataW.trod_struct Tryz.underlying31 h
 rw [YN] at d
 match cs,d,q,g with
 | [c0,c1,c2,c3,c4,c5],_,[x0,x1,x2,x3,x4,x5],_ =>
  have y:=e 0 _ rfl
  have v:=e 1 _ rfl
  have u:=e 2 _ rfl
  have A:=e 3 _ rfl
  have z:=e 4 _ rfl
  have s:=e 5 _ rfl
  obtain ⟨a,o,_,_⟩:=DataW.trod_int Tryz.underlying3 y
  obtain ⟨bi,l,_,_⟩:=DataW.trod_int Tryz.underlying3 v
  obtain ⟨dr,j,_,_⟩:=DataW.trod_int Tryz.underlying3 u
  obtain ⟨po,len,cap,b,off,V,L,R,p,i,r⟩:=XV s
  simp [Y5,X1] at o l j p
  refine ⟨a,bi,dr,c3,c4,po,len,cap,b,off,V,L,R,by rw [o,l,j,p],i,fun hw=>?_⟩
  rcases r with ⟨_,rfl⟩ | ⟨el,sp,he,hl⟩
  ·omega
  ·have f:(el.length+sp.length)*24∈(DataW.agg [x0.1,x1.1,x2.1,x3.1,x4.1,x5.1]:DataW H).weights Tryz.prog 31:=by
    simp only [DataW.weights,Tryz.underlying31,DataW.weightsEach,List.map_cons,List.map_nil,he,Tryz.underlying29,Qa,List.mem_append,List.mem_cons]
    simp
   have:=hw _ f
   simp only [reachBytes] at this
   omega
theorem zej {n:Nat} {cs:List Value} {x:DataW H×List MemPlace} (h:DataW.trod enc Tryz.prog w base spare held n 53 cs=some x) :
 ∃ (k a b c d:Int) (s:ByteArray),cs=[J Z k,J Z a,J Z b,J Z c,J Z d,.string s]/\(Lit.int .i64 a).wf=true/\(Lit.int .i64 b).wf=true/\(Lit.int .i64 c).wf=true/\(Lit.int .i64 d).wf=true/\s.size<=maxLen:=by
 obtain ⟨r,m,_,rfl,e,g,f⟩:=DataW.trod_struct Tryz.underlying53 h
 rw [zar] at e
 match cs,e,r,g with
 | [c0,c1,c2,c3,c4,c5],_,[x0,x1,x2,x3,x4,x5],_ =>
  have G:=f 0 _ rfl
  have F:=f 1 _ rfl
  have E:=f 2 _ rfl
  have D:=f 3 _ rfl
  have C:=f 4 _ rfl
  have B:=f 5 _ rfl
  obtain ⟨k,q,_,_⟩:=DataW.trod_int Tryz.underlying3 G
  obtain ⟨a,p,_,z⟩:=DataW.trod_int Tryz.underlying3 F
  obtain ⟨b,o,_,y⟩:=DataW.trod_int Tryz.underlying3 E
  obtain ⟨c,l,_,v⟩:=DataW.trod_int Tryz.underlying3 D
  obtain ⟨d,j,_,u⟩:=DataW.trod_int Tryz.underlying3 C
  obtain ⟨s,i,_,A⟩:=DataW.trod_string Tryz.underlying9 B
  simp [Y5,j8] at q p o l j i
  exact ⟨k,a,b,c,d,s,by rw [q,p,o,l,j,i],z,y,v,u,A⟩
end
end
section
open Go.ChangeShapes Go.WideShapes Go.ChangeAt Go.RowKit
section
variable {H:Type} {enc:TypeId×Value->H} {w:World} {base:Nat} {spare:Nat->Bool} {held:Bool}
theorem ze6 {fuel:Nat} {wo:Option Addr} {m cap:Nat} {d:DataW H} {p:List MemPlace} (h:DataW.trod enc Tryz.prog w base spare held fuel 22 [.slice wo m cap]=some (d,p))
 (hz:∀ k∈d.weights Tryz.prog 22,k<=reachBytes) :
 m*96<=140737488351232/\∃ b off A Bi Dr Dn Al po n c pb poff V L R,WS w wo b off m A Bi Dr Dn Al po n c pb poff V L R:=by
 rcases Deep.open_slice Tryz.underlying22 h with ⟨hcs,hx⟩ | ⟨a,l,c,q,n,D,Pl,hcs,hb,hl,hm,hmm,hx,hel⟩
 ·simp at hcs
  obtain ⟨rfl,rfl,rfl⟩:=hcs
  refine ⟨by omega,0,0,fun _=>0,fun _=>0,fun _=>0,fun _=>J Z 0,fun _=>J Z 0,fun _=>none,fun _=>0,fun _=>0,fun _=>0,fun _=>0,fun _ _=>0,fun _ _=>0,fun _ _=>0,?_⟩
  exact ⟨fun h=>by omega,fun h=>by omega,fun i hi=>by omega,fun i hi=>by omega,fun i hi=>by omega,fun i hi=>by omega,fun i hi=>by omega,fun i hi=>by omega,fun i hi=>by omega,fun i hi=>by omega⟩
 ·simp at hcs hx
  obtain ⟨rfl,rfl,rfl⟩:=hcs
  obtain ⟨rfl,_⟩:=hx
  have K:m<=q:=by rw [hmm];split<;>omega
  rw [YN] at hel
  have o:∀ k,k∈(m+(q-m))*96::(DataW.weightsAll Tryz.prog 31 ((List.range m).map D)++DataW.weightsAll Tryz.prog 31 ((List.range (q-m)).map fun j=>D (m+j)))->k<=reachBytes:=by
   intro k C
   refine hz k ?_
   simp only [DataW.weights,Tryz.underlying22,q9,List.length_map,List.length_range]
   exact C
  refine ⟨by have:=o _ (List.mem_cons_self ..);simp only [reachBytes] at this;omega,?_⟩
  obtain ⟨F,s⟩:=Deep.choose_lt (α:=(Int×Int×Int)×(Value×Value)×(Option Addr×Nat×Nat)×(Nat×Nat)×((Nat->Int)×(Nat->Int)×(Nat->Int))) (n:=m)
   (p:=fun i y=>(∀ j,j<6->w.cell? ((a.add (i*6)).add j)=[J Z y.1.1,J Z y.1.2.1,J Z y.1.2.2,y.2.1.1,y.2.1.2,.slice y.2.2.1.1 y.2.2.1.2.1 y.2.2.1.2.2][j]?) /\
    PT w y.2.2.1.1 y.2.2.2.1.1 y.2.2.2.1.2 y.2.2.1.2.1 y.2.2.1.2.2 y.2.2.2.2.1 y.2.2.2.2.2.1 y.2.2.2.2.2.2/\y.2.2.1.2.1*24<=140737488351232) (fun i hi=>by
   obtain ⟨S,P,O⟩:=hel i (by omega)
   obtain ⟨I,G,E,Q,W,po,u,U,pb,poff,V,L,R,rfl,x,v⟩:=JE O
   obtain ⟨_,_,N⟩:=World.cells?_some P
   refine ⟨((I,G,E),(Q,W),(po,u,U),(pb,poff),(V,L,R)),N,x,v fun k C=>o k ?_⟩
   refine List.mem_cons_of_mem _ (List.mem_append_left _ (Z2 (d:=D i) ?_ C))
   exact List.mem_map.2 ⟨i,List.mem_range.2 hi,rfl⟩)
  obtain ⟨b,off,g⟩:=a
  refine ⟨b,off,fun i=>(F i).1.1,fun i=>(F i).1.2.1,fun i=>(F i).1.2.2,fun i=>(F i).2.1.1,fun i=>(F i).2.1.2,fun i=>(F i).2.2.1.1,fun i=>(F i).2.2.1.2.1,fun i=>(F i).2.2.1.2.2,
   fun i=>(F i).2.2.2.1.1,fun i=>(F i).2.2.2.1.2,fun i=>(F i).2.2.2.2.1,fun i=>(F i).2.2.2.2.2.1,fun i=>(F i).2.2.2.2.2.2,?_⟩
  by_cases B:m=0
  ·subst B
   exact ⟨fun h=>by omega,fun h=>by omega,fun i hi=>by omega,fun i hi=>by omega,fun i hi=>by omega,fun i hi=>by omega,fun i hi=>by omega,fun i hi=>by omega,fun i hi=>by omega,fun i hi=>by omega⟩
  ·have r:=(s 0 (by omega)).1 0 (by omega)
   have f:g=none:=by simpa [Addr.add] using World.cell?_spot r
   subst f
   have z:b<w.heap.size:=by
    have:=r
    simp [Addr.add] at this
    exact yw this
   have e:∀ i,i<m->∀ j,j<6->w.cell? ⟨b,off+i*6+j,none⟩=[J Z (F i).1.1,J Z (F i).1.2.1,J Z (F i).1.2.2,(F i).2.1.1,(F i).2.1.2,.slice (F i).2.2.1.1 (F i).2.2.1.2.1 (F i).2.2.1.2.2][j]?:=fun i hi j hj=>by
    have:=(s i hi).1 j hj
    rw [add_plain,add_plain] at this
    exact this
   exact ⟨fun _=>rfl,fun _=>z,fun i hi=>e i hi 0 (by omega),fun i hi=>e i hi 1 (by omega),fun i hi=>e i hi 2 (by omega),fun i hi=>e i hi 3 (by omega),fun i hi=>e i hi 4 (by omega),fun i hi=>e i hi 5 (by omega),
    fun i hi=>(s i hi).2.1,fun i hi=>(s i hi).2.2⟩
theorem zcE {fuel:Nat} {so:Option Addr} {m cap:Nat} {d:DataW H} {p:List MemPlace} (h:DataW.trod enc Tryz.prog w base spare held fuel 23 [.slice so m cap]=some (d,p))
 (hz:∀ k∈d.weights Tryz.prog 23,k<=reachBytes) :
 m*56<=140737488351232/\∃ b off K A B C D S,OS w so b off m K A B C D S/\∀ i,i<m->(-9223372036854775808<=A i/\A i<=9223372036854775807)/\(-9223372036854775808<=B i/\B i<=9223372036854775807)/\(-9223372036854775808<=C i/\C i<=9223372036854775807)/\(-9223372036854775808<=D i/\D i<=9223372036854775807)/\(S i).size<=maxLen:=by
 rcases Deep.open_slice Tryz.underlying23 h with ⟨hcs,hx⟩ | ⟨a,l,c,q,n,D,Pl,hcs,hb,hl,hm,hmm,hx,hel⟩
 ·simp at hcs
  obtain ⟨rfl,rfl,rfl⟩:=hcs
  refine ⟨by omega,0,0,fun _=>0,fun _=>0,fun _=>0,fun _=>0,fun _=>0,fun _=>ByteArray.empty,?_,fun i hi=>by omega⟩
  exact ⟨fun h=>by omega,fun h=>by omega,fun i hi=>by omega,fun i hi=>by omega,fun i hi=>by omega,fun i hi=>by omega,fun i hi=>by omega,fun i hi=>by omega⟩
 ·simp at hcs hx
  obtain ⟨rfl,rfl,rfl⟩:=hcs
  obtain ⟨rfl,_⟩:=hx
  have R:m<=q:=by rw [hmm];split<;>omega
  rw [zar] at hel
  have r:(m+(q-m))*56<=reachBytes:=by
   refine hz _ ?_
   simp only [DataW.weights,Tryz.underlying23,zeI,List.length_map,List.length_range]
   exact List.mem_cons_self ..
  refine ⟨by simp only [reachBytes] at r;omega,?_⟩
  obtain ⟨F,x⟩:=Deep.choose_lt (α:=(Int×Int×Int×Int×Int)×ByteArray) (n:=m)
   (p:=fun i y=>(∀ j,j<6->w.cell? ((a.add (i*6)).add j)=[J Z y.1.1,J Z y.1.2.1,J Z y.1.2.2.1,J Z y.1.2.2.2.1,J Z y.1.2.2.2.2,.string y.2][j]?) /\
    ((-9223372036854775808<=y.1.2.1/\y.1.2.1<=9223372036854775807)/\(-9223372036854775808<=y.1.2.2.1/\y.1.2.2.1<=9223372036854775807)/\(-9223372036854775808<=y.1.2.2.2.1/\y.1.2.2.2.1<=9223372036854775807)/\(-9223372036854775808<=y.1.2.2.2.2/\y.1.2.2.2.2<=9223372036854775807)/\y.2.size<=maxLen)) (fun i hi=>by
   obtain ⟨X,W,V⟩:=hel i (by omega)
   obtain ⟨k,P,O,N,L,s,rfl,I,G,E,z,Q⟩:=zej V
   obtain ⟨_,_,U⟩:=World.cells?_some W
   exact ⟨((k,P,O,N,L),s),U,bounds_i64 I,bounds_i64 G,bounds_i64 E,bounds_i64 z,Q⟩)
  obtain ⟨b,off,g⟩:=a
  refine ⟨b,off,fun i=>(F i).1.1,fun i=>(F i).1.2.1,fun i=>(F i).1.2.2.1,fun i=>(F i).1.2.2.2.1,fun i=>(F i).1.2.2.2.2,fun i=>(F i).2,?_,fun i hi=>(x i hi).2⟩
  by_cases v:m=0
  ·subst v
   exact ⟨fun h=>by omega,fun h=>by omega,fun i hi=>by omega,fun i hi=>by omega,fun i hi=>by omega,fun i hi=>by omega,fun i hi=>by omega,fun i hi=>by omega⟩
  ·have o:=(x 0 (by omega)).1 0 (by omega)
   have f:g=none:=by simpa [Addr.add] using World.cell?_spot o
   subst f
   have u:b<w.heap.size:=by
    have:=o
    simp [Addr.add] at this
    exact yw this
   have e:∀ i,i<m->∀ j,j<6->w.cell? ⟨b,off+i*6+j,none⟩=[J Z (F i).1.1,J Z (F i).1.2.1,J Z (F i).1.2.2.1,J Z (F i).1.2.2.2.1,J Z (F i).1.2.2.2.2,.string (F i).2][j]?:=fun i hi j hj=>by
    have:=(x i hi).1 j hj
    rw [add_plain,add_plain] at this
    exact this
   exact ⟨fun _=>rfl,fun _=>u,fun i hi=>e i hi 0 (by omega),fun i hi=>e i hi 1 (by omega),fun i hi=>e i hi 2 (by omega),fun i hi=>e i hi 3 (by omega),fun i hi=>e i hi 4 (by omega),fun i hi=>e i hi 5 (by omega)⟩
end
end
theorem zdo (a b:Int) (w:World):(Instr.build 94 #[(0,J Z a),(1,J Z b)]).run Tryz.prog w=.ok (.agg #[J Z a,J Z b]) w:=run_build w 94 _ _ (by kernel_rfl)
theorem zdn (a b c:Int) (w:World):(Instr.build 96 #[(0,.agg #[J Z a,J Z b]),(1,J Z c)]).run Tryz.prog w=.ok (.agg #[J Z a,J Z b,J Z c]) w:=run_build w 96 _ _ (by kernel_rfl)
theorem zan (w:World) :
 Calls Tryz.prog 113 #[] w fun e w'=>e=.returned (.agg #[J Z 77,J Z 77,J Z 77])/\Below w.heap.size w w':=by
 have b:=fun w=>zdo 77 77 w
 have a:=fun w=>zdn 77 77 77 w
 go_enter Tryz.func113,Tryz.ntmps113
 go_wp2
 exact bodyPost_ret (v:=.agg #[J Z 77,J Z 77,J Z 77]) (by simp [results,Tryz.results113,go_sem]) rfl ⟨rfl,(by repeat (first | exact Below.refl _ _ | refine Below.alloc ?_ (by simp) _ | refine Below.setCell ?_ (by simp) _))⟩
def ext (n:Nat) (V:Nat->Int) (i:Nat):Int:=if i<n then V i else 77
theorem Yf {w:World} {base e size g N cap:Nat} {xs:List Value} (h:w.ownsRow base e size (.slice (some ⟨g,0,none⟩) N cap) N xs) (hcap:cap=N):∃ f,w.rowIs g e (N*size) f:=by
 subst hcap
 rcases h.2 with ⟨h',_⟩ | ⟨g',cap',cur,h',_,hg,_,_,hsz,_⟩
 ·simp at h'
 ·simp only [Value.slice.injEq,Option.some.injEq,Addr.mk.injEq,and_true,true_and] at h'
  obtain ⟨rfl,rfl⟩:=h'
  exact ⟨fun j=>cur.getD j (J Z 0),cur,hg,hsz,fun i hi=>by simp [Array.getD,hsz,hi]⟩
theorem ZR {w w':World} (h:w.grownBy w' none):Below w.heap.size w w':=(Below.refl _ _).grown h (Nat.le_refl _) (fun k hk=>by simp at hk)
theorem xm {w w':World} {g t N:Nat} {f:Nat->Value} (h:w.rowIs g t N f) (hb:Below w.heap.size w w'):w'.rowIs g t N f:=h.of_block (hb.block g h.lt)
theorem PS.congr {w:World} {ao b n V L V' L'} (h:PS w ao b n V L) (hv:∀ i,i<n->V i=V' i/\L i=L' i):PS w ao b n V' L' :=
 ⟨h.at_,h.lt,fun i hi=>by rw [<- (hv i hi).1];exact h.val i hi,fun i hi=>by rw [<- (hv i hi).2];exact h.len i hi⟩
end Go.Proofs.YtaebngpoagjafabGreat
