import Derived.Test.YtaebngpoagjafabGreatU24
set_option maxRecDepth 100000
set_option maxHeartbeats 800000
namespace Go.Proofs.YtaebngpoagjafabGreat
open Value renaming int → J, slice → O
open IntKind renaming i64 → Z
open Go.RowKit
attribute [local go_sem ↓] Go.wp_at_zero Go.wp_at_succ
section
def yG (a b c d e:Value) (D:Array Value) (f g h i j k:Value):Array Value:=#[a,b,c,d,e]++D++#[f,g,h,i,j,k]
theorem zaf {a b c d e:Value} {D:Array Value} {f g h i j k:Value} {n:Nat} (hD:D.size=64) (hn:n<64):(yG a b c d e D f g h i j k)[5+n]?=D[n]?:=by
 unfold yG
 rw [Array.getElem?_append_left (by simp;omega),Array.getElem?_append_right (by simp)]
 simp
theorem zae {a b c d e:Value} {D:Array Value} {f g h i j k:Value} (hD:D.size=64) (n:Nat):(yG a b c d e D f g h i j k)[69+n]?=#[f,g,h,i,j,k][n]?:=by
 unfold yG
 rw [Array.getElem?_append_right (by simp;omega)]
 congr 1
 simp;omega
theorem xl {a b c d e:Value} {D:Array Value} {f g h i j k:Value} {n:Nat} (hn:n<5):(yG a b c d e D f g h i j k)[n]?=#[a,b,c,d,e][n]?:=by
 unfold yG
 rw [Array.getElem?_append_left (by simp;omega),Array.getElem?_append_left (by simpa using hn)]
theorem xj {a b c d e:Value} {D:Array Value} {f g h i j k:Value} (hD:D.size=64):(yG a b c d e D f g h i j k).size=75:=by simp [yG,hD]
theorem yA {X Y:Array Value} {n:Nat} {u:Value} (h:n<X.size):(X++Y).setIfInBounds n u=X.setIfInBounds n u++Y:=by
 apply Array.ext'
 simp only [Array.toList_setIfInBounds,Array.toList_append]
 rw [List.set_append_left _ _ (by simpa using h)]
theorem ZL {X Y:Array Value} {n:Nat} {u:Value} (h:X.size<=n):(X++Y).setIfInBounds n u=X++Y.setIfInBounds (n-X.size) u:=by
 apply Array.ext'
 simp only [Array.toList_setIfInBounds,Array.toList_append]
 rw [List.set_append_right _ _ (by simpa using h)]
 simp
theorem zaW {a b c d e:Value} {D:Array Value} {f g h i j k u:Value}:(yG a b c d e D f g h i j k).setIfInBounds 1 u=yG a u c d e D f g h i j k:=by
 unfold yG
 rw [yA (by simp;omega),yA (by simp)];rfl
theorem zaV {a b c d e:Value} {D:Array Value} {f g h i j k u:Value}:(yG a b c d e D f g h i j k).setIfInBounds 2 u=yG a b u d e D f g h i j k:=by
 unfold yG
 rw [yA (by simp;omega),yA (by simp)];rfl
theorem Jx {a b c d e:Value} {D:Array Value} {f g h i j k u:Value} (hD:D.size=64):(yG a b c d e D f g h i j k).setIfInBounds 72 u=yG a b c d e D f g h u j k:=by
 unfold yG
 rw [ZL (by simp;omega)]
 simp [hD]
theorem qE {a b c d e:Value} {D:Array Value} {f g h i j k u:Value} (hD:D.size=64):(yG a b c d e D f g h i j k).setIfInBounds 73 u=yG a b c d e D f g h i u k:=by
 unfold yG
 rw [ZL (by simp;omega)]
 simp [hD]
theorem Jw {a b c d e:Value} {D:Array Value} {f g h i j k u:Value} (hD:D.size=64):(yG a b c d e D f g h i j k).setIfInBounds 74 u=yG a b c d e D f g h i j u:=by
 unfold yG
 rw [ZL (by simp;omega)]
 simp [hD]
structure CS (w:World) (base:Nat) (co:Option Addr) (cb coff:Nat) (C:List Int):Prop where
 at_:0<C.length->co=some ⟨cb,coff,none⟩
 lt:0<C.length->cb<base
 val:∀ i x,C[i]?=some x->w.cell? ⟨cb,coff+i,none⟩=some (J .u8 x)
 byt:∀ x∈C,0<=x/\x<256
structure RM (w:World) (base B:Nat) (co:Option Addr) (cb coff cc:Nat) (C:List Int) (W:RW) (D:Array Value) (av sv:Value) (s:RT):Prop where
 blk:w.heap[B]?=some (.cells (yG (O co C.length cc) (J Z s.r.p) (.bool s.r.b) (J Z W.addr) (J Z W.draw) D av (J Z W.reg) (J Z W.dep) sv (J Z s.ttl) (J Z s.sc)) 118 (0,0))
 dsz:D.size=64
 dn:∀ i,i<64->D[i]?=some (.bool (W.dn i))
 row:w.ownsRow base 3 1 sv s.sv.length (s.sv.map (J Z))
 hB:base<=B
 code:CS w base co cb coff C
structure RQ (B:Nat) (w w':World):Prop where
 bel:Below 0 w w'
 kept:∀ b,b<w.heap.size->b≠B->w'.heap[b]?=w.heap[b]?
theorem RQ.refl (B:Nat) (w:World):RQ B w w:=⟨Below.refl _ _,fun _ _ _=>rfl⟩
theorem RQ.trans {B:Nat} {a b c:World} (h:RQ B a b) (k:RQ B b c):RQ B a c:=⟨h.bel.trans k.bel,fun x hx hn=>(k.kept x (Nat.lt_of_lt_of_le hx h.bel.size) hn).trans (h.kept x hx hn)⟩
theorem RQ.drewN {B:Nat} {a b:World} (h:RQ B a b) (n:Nat):RQ B a (b.drewN n):=⟨⟨h.bel.os,h.bel.tape,h.bel.output,h.bel.size,h.bel.block⟩,h.kept⟩
theorem RQ.setCell {B:Nat} {a b:World} (h:RQ B a b) (j:Nat) (u:Value):RQ B a (b.setCell ⟨B,j,none⟩ u):=⟨h.bel.setCell (Nat.zero_le _) u,fun x hx hn=>by rw [za hn];exact h.kept x hx hn⟩
theorem RQ.alloc {B:Nat} {a b:World} (h:RQ B a b) (o:Obj):RQ B a (b.alloc o):=⟨h.bel.alloc (Nat.zero_le _) o,fun x hx hn=>by rw [Below.heap_alloc _ _ _ (Nat.lt_of_lt_of_le hx h.bel.size)];exact h.kept x hx hn⟩
theorem RQ.below {B:Nat} {a b:World} (h:RQ B a b) {base:Nat} (hB:base<=B) (hs:base<=a.heap.size):Below base a b:=⟨h.bel.os,h.bel.tape,h.bel.output,h.bel.size,fun k hk=>h.kept k (by omega) (by omega)⟩
section
variable {w:World} {base B:Nat} {co:Option Addr} {cb coff cc:Nat} {C:List Int} {W:RW} {D:Array Value} {av sv:Value} {s:RT}
theorem RM.lt (h:RM w base B co cb coff cc C W D av sv s):B<w.heap.size:=lt_of_block h.blk
theorem RM.c0 (h:RM w base B co cb coff cc C W D av sv s):w.cell? ⟨B,0,none⟩=some (O co C.length cc):=by rw [cell_of_row w B 0 _ _ _ h.blk,xl (by decide)];rfl
theorem RM.c1 (h:RM w base B co cb coff cc C W D av sv s):w.cell? ⟨B,1,none⟩=some (J Z s.r.p):=by rw [cell_of_row w B 1 _ _ _ h.blk,xl (by decide)];rfl
theorem RM.c2 (h:RM w base B co cb coff cc C W D av sv s):w.cell? ⟨B,2,none⟩=some (.bool s.r.b):=by rw [cell_of_row w B 2 _ _ _ h.blk,xl (by decide)];rfl
theorem RM.c3 (h:RM w base B co cb coff cc C W D av sv s):w.cell? ⟨B,3,none⟩=some (J Z W.addr):=by rw [cell_of_row w B 3 _ _ _ h.blk,xl (by decide)];rfl
theorem RM.c4 (h:RM w base B co cb coff cc C W D av sv s):w.cell? ⟨B,4,none⟩=some (J Z W.draw):=by rw [cell_of_row w B 4 _ _ _ h.blk,xl (by decide)];rfl
theorem RM.cd (h:RM w base B co cb coff cc C W D av sv s) {i:Nat} (hi:i<64):w.cell? ⟨B,5+i,none⟩=some (.bool (W.dn i)):=by
 rw [cell_of_row w B (5+i) _ _ _ h.blk,zaf h.dsz hi];exact h.dn i hi
theorem RM.ch (h:RM w base B co cb coff cc C W D av sv s) (i:Nat):w.cell? ⟨B,69+i,none⟩=#[av,J Z W.reg,J Z W.dep,sv,J Z s.ttl,J Z s.sc][i]?:=by
 rw [cell_of_row w B (69+i) _ _ _ h.blk,zae h.dsz]
theorem RM.fz (h:RM w base B co cb coff cc C W D av sv s) (j:Nat):w.frozen? ⟨B,j,none⟩=false:=by simp [World.frozen?,h.blk]
theorem RM.ne (h:RM w base B co cb coff cc C W D av sv s):sv.ownBlock≠some B:=zk h.row h.blk (by decide)
theorem zU {w:World} {B j:Nat} {cs:Array Value} {u:Value} {t:TypeId} (h:w.heap[B]?=some (.cells cs t (0,0))):(w.setCell ⟨B,j,none⟩ u).heap[B]?=some (.cells (cs.setIfInBounds j u) t (0,0)):=by
 simp [World.setCell,Array.getElem?_modify,h]
theorem CS.set (h:CS w base co cb coff C) (hB:base<=B) (j:Nat) (u:Value):CS (w.setCell ⟨B,j,none⟩ u) base co cb coff C:=⟨h.at_,h.lt,fun i x hx=>by
 have a:0<C.length:=by have:=(List.getElem?_eq_some_iff.1 hx).1;omega
 rw [World.cell?_of_block (za (by have:=h.lt a;simp only;omega))]
 exact h.val i x hx,h.byt⟩
theorem CS.of_kept {w':World} (h:CS w base co cb coff C) (hk:∀ b,b<base->w'.heap[b]?=w.heap[b]?):CS w' base co cb coff C:=⟨h.at_,h.lt,fun i x hx=>by
 have a:0<C.length:=by have:=(List.getElem?_eq_some_iff.1 hx).1;omega
 rw [World.cell?_of_block (hk cb (h.lt a))]
 exact h.val i x hx,h.byt⟩
theorem RM.at (h:RM w base B co cb coff cc C W D av sv s) (p:Nat) (x:Int) (hx:x=p):RM (w.setCell ⟨B,1,none⟩ (J Z x)) base B co cb coff cc C W D av sv ⟨⟨p,s.r.b⟩,s.sv,s.ttl,s.sc⟩ :=
 ⟨by rw [hx,zU h.blk,zaW],h.dsz,h.dn,ownsRow_setCell_other h.row h.ne _,h.hB,h.code.set h.hB _ _⟩
theorem RM.bad (h:RM w base B co cb coff cc C W D av sv s) (b:Bool):RM (w.setCell ⟨B,2,none⟩ (.bool b)) base B co cb coff cc C W D av sv ⟨⟨s.r.p,b⟩,s.sv,s.ttl,s.sc⟩ :=
 ⟨by rw [zU h.blk,zaV],h.dsz,h.dn,ownsRow_setCell_other h.row h.ne _,h.hB,h.code.set h.hB _ _⟩
theorem RM.ttlS (h:RM w base B co cb coff cc C W D av sv s) (n:Int):RM (w.setCell ⟨B,73,none⟩ (J Z n)) base B co cb coff cc C W D av sv ⟨s.r,s.sv,n,s.sc⟩ :=
 ⟨by rw [zU h.blk,qE h.dsz],h.dsz,h.dn,ownsRow_setCell_other h.row h.ne _,h.hB,h.code.set h.hB _ _⟩
theorem RM.scS (h:RM w base B co cb coff cc C W D av sv s) (n:Int):RM (w.setCell ⟨B,74,none⟩ (J Z n)) base B co cb coff cc C W D av sv ⟨s.r,s.sv,s.ttl,n⟩ :=
 ⟨by rw [zU h.blk,Jw h.dsz],h.dsz,h.dn,ownsRow_setCell_other h.row h.ne _,h.hB,h.code.set h.hB _ _⟩
theorem RM.drewN (h:RM w base B co cb coff cc C W D av sv s) (n:Nat):RM (w.drewN n) base B co cb coff cc C W D av sv s:=⟨h.blk,h.dsz,h.dn,h.row,h.hB,⟨h.code.at_,h.code.lt,h.code.val,h.code.byt⟩⟩
theorem RM.alloc (h:RM w base B co cb coff cc C W D av sv s) (o:Obj):RM (w.alloc o) base B co cb coff cc C W D av sv s :=
 ⟨by rw [Below.heap_alloc _ _ _ h.lt];exact h.blk,h.dsz,h.dn,h.row.alloc o,h.hB,h.code.of_kept (fun b hb=>Below.heap_alloc _ _ _ (by have:=h.lt;have:=h.hB;omega))⟩
end
theorem jQ (base B:Nat) (co:Option Addr) (cb coff cc:Nat) (C:List Int) (W:RW) (D:Array Value) (av sv:Value) (s:RT) (w:World) (hp:s.r.p<=1000000000000000000) (h:RM w base B co cb coff cc C W D av sv s) :
 Calls Tryz.prog 105 #[.pointer (some ⟨B,0,none⟩)] w fun e w'=>e=.returned (J Z (nxV C s.r))/\RM w' base B co cb coff cc C W D av sv ⟨nx C s.r,s.sv,s.ttl,s.sc⟩/\RQ B w w':=by
 have H:Hid (RM w base B co cb coff cc C W D av sv s):=h
 have c0:=h.c0
 have c1:=h.c1
 have c2:=h.c2
 have u:=h.fz 1
 have q:=h.fz 2
 have a:=h.code
 clear h
 obtain ⟨⟨p,b⟩,v,ttl,sc⟩:=s
 simp only at c1 c2 hp
 have n:(0:Int)<=(p:Int):=by omega
 by_cases d:p<C.length
 ·obtain ⟨x,f⟩:∃ x,C[p]?=some x:=⟨C[p],List.getElem?_eq_getElem d⟩
  have m:=a.val p x f
  have o:=a.byt x (List.mem_of_getElem? f)
  obtain rfl:=a.at_ (by omega)
  have k:Hid (nxV C ⟨p,b⟩=x):=by show _=_;simp [nxV,f]
  have j:Hid (nx C ⟨p,b⟩=⟨p+1,b⟩):=by show _=_;simp [nx,d]
  have l:(p:Int)<(C.length:Int):=by omega
  have i:decide ((C.length:Int)<=(p:Int))=false:=decide_eq_false (by omega)
  have g:decide ((p:Int)<0)=false:=decide_eq_false (by omega)
  clear a f
  go_enter Tryz.func105,Tryz.ntmps105
  go_wp2_with fail
  go_quiet (fail)
  go_wp2_with fail
  go_quiet (fail)
  go_wp2_with fail
  go_ret
  exact ⟨by rw [k.out];rfl,by rw [j.out];exact (H.out.drewN _).at (p+1) ((p:Int)+1) (by omega),((RQ.refl _ _).drewN _).setCell _ _⟩
 ·have k:Hid (nxV C ⟨p,b⟩=0):=by show _=_;simp [nxV,List.getElem?_eq_none (Nat.le_of_not_lt d)]
  have j:Hid (nx C ⟨p,b⟩=⟨p,true⟩):=by show _=_;simp [nx,d]
  have i:decide ((C.length:Int)<=(p:Int))=true:=decide_eq_true (by omega)
  have g:decide ((p:Int)<0)=false:=decide_eq_false (by omega)
  clear a
  go_enter Tryz.func105,Tryz.ntmps105
  go_wp2_with fail
  go_quiet (fail)
  go_wp2_with fail
  go_ret
  exact ⟨by rw [k.out];rfl,by rw [j.out];exact (H.out.drewN _).bad true,((RQ.refl _ _).drewN _).setCell _ _⟩
end
theorem zcG {C:List Int} (h:∀ x∈C,0<=x/\x<256) (r:RD):0<=nxV C r/\nxV C r<=255:=by
 unfold nxV
 cases hx:C[r.p]? with
 | none=>simp
 | some x=>have:=h x (List.mem_of_getElem? hx);simp;omega
theorem zfr (C:List Int) (r:RD):r.p<=(nx C r).p/\(nx C r).p<=r.p+1:=by unfold nx;split<;>simp
theorem zcl (C:List Int) (r:RD):∀ i,r.p<=(Zs C r i).p/\(Zs C r i).p<=r.p+i:=by
 intro i
 induction i with
 | zero=>simp [Zs]
 | succ i ih=>have:=zfr C (Zs C r i);simp only [Zs];omega
theorem qG {C:List Int} (h:∀ x∈C,0<=x/\x<256) (r:RD):∀ i,0<=rdN C r i/\rdN C r i<yV i:=by
 intro i
 induction i with
 | zero=>simp [rdN,yV]
 | succ i ih =>
  have a:=zcG h (Zs C r i)
  have e:=jM i
  have d:nxV C (Zs C r i)*yV i<=255*yV i:=Int.mul_le_mul_of_nonneg_right a.2 (by omega)
  have b:0<=nxV C (Zs C r i)*yV i:=Int.mul_nonneg a.1 (by omega)
  simp only [rdN,yV]
  omega
theorem zeh {i:Nat} (h:i<=4):yV i<=4294967296:=by
 have:i=0\/i=1\/i=2\/i=3\/i=4:=by omega
 rcases this with rfl | rfl | rfl | rfl | rfl<;>decide
theorem Zp (C:List Int) (r:RD) (k:Nat) (lo hi:Int):r.p<=(num C r k lo hi).p/\(num C r k lo hi).p<=r.p+k:=zcl C r k
theorem yU (base B:Nat) (co:Option Addr) (cb coff cc:Nat) (C:List Int) (W:RW) (D:Array Value) (av sv:Value) (s:RT) (kI lo hi:Int) (k:Nat) (w:World) (hk:kI=k) (hk4:k<=4) (hp:s.r.p<=900000000000000000) (h:RM w base B co cb coff cc C W D av sv s) :
 Calls Tryz.prog 142 #[.pointer (some ⟨B,0,none⟩),J Z kI,J Z lo,J Z hi] w fun e w'=>e=.returned (J Z (rdN C s.r k))/\RM w' base B co cb coff cc C W D av sv ⟨num C s.r k lo hi,s.sv,s.ttl,s.sc⟩/\RQ B w w':=by
 subst hk
 have H:Hid _:=h
 have A:Hid (∀ x∈C,0<=x/\x<256):=h.code.byt
 clear h
 obtain ⟨r,F,ttl,sc⟩:=s
 simp only at hp
 go_enter Tryz.func142,Tryz.ntmps142
 go_wp2_with fail
 go_loopg [9,10,11] k (fun q a b y wr=>∃ i:Nat,q+i=k/\a=J Z (rdN C r i)/\b=J Z (yV i)/\y=J Z i/\RM wr base B co cb coff cc C W D av sv ⟨Zs C r i,F,ttl,sc⟩/\RQ B w wr)
 case atStart=>exact ⟨0,by omega,rfl,rfl,rfl,H.out,RQ.refl _ _⟩
 case round =>
  obtain ⟨i,hq,rfl,rfl,rfl,R,Q⟩:=hrel
  have z:Hid _:=R
  have E:Hid _:=Q
  clear R Q
  have Y:=zcl C r i
  have a0:=qG A.out r i
  have V:=zeh (i:=i) (by omega)
  have X:=jM i
  by_cases a3:i<k
  ·have m:(i:Int)<(k:Int):=by omega
   have j:=zcG A.out (Zs C r i)
   have N:Hid (rdN C r (i+1)=rdN C r i+nxV C (Zs C r i)*yV i):=rfl
   have L:Hid (yV (i+1)=yV i*256):=rfl
   have P:Hid (Zs C r (i+1)=nx C (Zs C r i)):=rfl
   have a2:0<=nxV C (Zs C r i)*yV i:=Int.mul_nonneg j.1 (by omega)
   have a1:nxV C (Zs C r i)*yV i<=255*yV i:=Int.mul_le_mul_of_nonneg_right j.2 (by omega)
   go_wp2_with fail
   refine (jQ base B co cb coff cc C W D av sv _ _ (by simp only;omega) z.out).mono ?_
   rintro e U ⟨rfl,f,l⟩
   have O:Hid (RM U base B co cb coff cc C W D av sv ⟨Zs C r (i+1),F,ttl,sc⟩):=by show RM _ _ _ _ _ _ _ _ _ _ _ _ _;rw [P.out];exact f
   have K:Hid _:=E.out.trans l
   clear f l
   generalize nxV C (Zs C r i)=c at *
   generalize yV i=pw at *
   generalize rdN C r i=n at *
   go_wp2_with fail
   go_roundg (gk-1)
   case measure=>omega
   case rel=>exact ⟨i+1,by omega,by rw [N.out],by rw [L.out],by go_num,O.out,K.out⟩
  ·have G:i=k:=by omega
   subst G
   have m:¬ (i:Int)<(i:Int):=by omega
   have c2:=z.out.c2
   have z2:=z.out.fz 2
   by_cases d:rdN C r i<lo\/hi<rdN C r i
   ·have g:Hid (num C r i lo hi=⟨(Zs C r i).p,true⟩):=by show _=_;unfold num;rw [if_pos d]
    have v:Hid (RM (wr.setCell ⟨B,2,none⟩ (.bool true)) base B co cb coff cc C W D av sv ⟨num C r i lo hi,F,ttl,sc⟩):=by show RM _ _ _ _ _ _ _ _ _ _ _ _ _;rw [g.out];exact z.out.bad true
    by_cases o:rdN C r i<lo
    ·clear d
     generalize hnn:rdN C r i=n at *
     have u:Hid _:=hnn
     clear hnn
     go_wp2_with fail
     go_ret
     exact ⟨by rw [u.out];rfl,v.out,E.out.setCell _ _⟩
    ·have I:hi<rdN C r i:=by omega
     have S:lo<=rdN C r i:=by omega
     clear d o
     generalize hnn:rdN C r i=n at *
     have u:Hid _:=hnn
     clear hnn
     go_wp2_with fail
     go_ret
     exact ⟨by rw [u.out];rfl,v.out,E.out.setCell _ _⟩
   ·have g:Hid (num C r i lo hi=Zs C r i):=by show _=_;unfold num;rw [if_neg d]
    have o:lo<=rdN C r i:=by omega
    have I:rdN C r i<=hi:=by omega
    clear d
    generalize hnn:rdN C r i=n at *
    have u:Hid _:=hnn
    clear hnn
    go_wp2_with fail
    go_ret
    exact ⟨by rw [u.out];rfl,by show RM _ _ _ _ _ _ _ _ _ _ _ _ _;rw [g.out];exact z.out,E.out⟩
section
section
variable {w:World} {base B:Nat} {co:Option Addr} {cb coff cc:Nat} {C:List Int} {W:RW} {D:Array Value} {av sv:Value} {s:RT}
theorem RM.c69 (h:RM w base B co cb coff cc C W D av sv s):w.cell? ⟨B,69,none⟩=some av:=h.ch 0
theorem RM.c70 (h:RM w base B co cb coff cc C W D av sv s):w.cell? ⟨B,70,none⟩=some (J Z W.reg):=h.ch 1
theorem RM.c71 (h:RM w base B co cb coff cc C W D av sv s):w.cell? ⟨B,71,none⟩=some (J Z W.dep):=h.ch 2
theorem RM.c72 (h:RM w base B co cb coff cc C W D av sv s):w.cell? ⟨B,72,none⟩=some sv:=h.ch 3
theorem RM.c73 (h:RM w base B co cb coff cc C W D av sv s):w.cell? ⟨B,73,none⟩=some (J Z s.ttl):=h.ch 4
theorem RM.c74 (h:RM w base B co cb coff cc C W D av sv s):w.cell? ⟨B,74,none⟩=some (J Z s.sc):=h.ch 5
theorem RM.bs (h:RM w base B co cb coff cc C W D av sv s):base<=w.heap.size:=Nat.le_trans h.hB (Nat.le_of_lt h.lt)
theorem RM.push {w4:World} {ys:List Int} {oo:Option Addr} {n cap:Nat} (h:RM w base B co cb coff cc C W D av sv s) (hn:n=(s.sv++ys).length) (hg:w.grownBy w4 sv.ownBlock) (hown:w4.ownsRow base 3 1 (O oo n cap) n ((s.sv++ys).map (J Z))) :
 RM (w4.setCell ⟨B,72,none⟩ (O oo n cap)) base B co cb coff cc C W D av (O oo n cap) ⟨s.r,s.sv++ys,s.ttl,s.sc⟩:=by
 have a:=(hg.block B h.lt (fun e=>h.ne e.symm)).trans h.blk
 have d:CS w4 base co cb coff C:=h.code.of_kept (fun b hb=>hg.block b (by have:=h.bs;omega) (fun e=>by have:=(h.row.lt b e.symm).1;omega))
 subst hn
 exact ⟨by rw [zU a,Jx h.dsz],h.dsz,h.dn,ownsRow_setCell_other hown (zk hown a (by decide)) _,h.hB,d.set h.hB _ _⟩
theorem RM.pushB {w0 w4:World} {u:Value} (h:RM w base B co cb coff cc C W D av sv s) (hb:Below base w0 w) (hg:w.grownBy w4 sv.ownBlock):Below base w0 (w4.setCell ⟨B,72,none⟩ u) :=
 (hb.grown hg h.bs (fun k hk=>(h.row.lt k hk).1)).setCell h.hB _
end
theorem Yy (base B:Nat) (co:Option Addr) (cb coff cc:Nat) (C:List Int) (W:RW) (D:Array Value) (av sv:Value) (s:RT) (w:World) (hp:s.r.p<=900000000000000000) (h:RM w base B co cb coff cc C W D av sv s) :
 Calls Tryz.prog 140 #[.pointer (some ⟨B,0,none⟩)] w fun e w'=>e=.returned (J Z (rdN C s.r 1))/\RM w' base B co cb coff cc C W D av sv ⟨cnR C s.r,s.sv,s.ttl,s.sc⟩/\RQ B w w':=by
 have H:Hid _:=h
 clear h
 go_enter Tryz.func140,Tryz.ntmps140
 go_wp2_with fail
 refine (yU base B co cb coff cc C W D av sv s 1 1 16 1 _ rfl (by decide) hp H.out).mono ?_
 rintro e g ⟨rfl,b,a⟩
 have f:Hid _:=b
 have d:Hid _:=a
 clear b a
 go_wp2_with fail
 go_ret
 exact ⟨rfl,f.out,d.out⟩
theorem xN (base B:Nat) (co:Option Addr) (cb coff cc:Nat) (C:List Int) (W:RW) (D:Array Value) (av sv:Value) (s:RT) (w:World) (hp:s.r.p<=900000000000000000) (h:RM w base B co cb coff cc C W D av sv s) :
 Calls Tryz.prog 141 #[.pointer (some ⟨B,0,none⟩)] w fun e w'=>e=.returned (J Z (rdN C s.r 1))/\RM w' base B co cb coff cc C W D av sv ⟨num C s.r 1 0 63,s.sv,s.ttl,s.sc⟩/\RQ B w w':=by
 have H:Hid _:=h
 clear h
 go_enter Tryz.func141,Tryz.ntmps141
 go_wp2_with fail
 refine (yU base B co cb coff cc C W D av sv s 1 0 63 1 _ rfl (by decide) hp H.out).mono ?_
 rintro e g ⟨rfl,b,a⟩
 have f:Hid _:=b
 have d:Hid _:=a
 clear b a
 go_wp2_with fail
 go_ret
 exact ⟨rfl,f.out,d.out⟩
theorem QQ (base B:Nat) (co:Option Addr) (cb coff cc:Nat) (C:List Int) (W:RW) (D:Array Value) (av sv:Value) (s:RT) (w:World) (hp:s.r.p<=900000000000000000) (h:RM w base B co cb coff cc C W D av sv s) :
 Calls Tryz.prog 144 #[.pointer (some ⟨B,0,none⟩)] w fun e w'=>e=.returned (J Z (rdN C s.r 2))/\RM w' base B co cb coff cc C W D av sv ⟨num C s.r 2 0 32000,s.sv,s.ttl,s.sc⟩/\RQ B w w':=by
 have H:Hid _:=h
 clear h
 go_enter Tryz.func144,Tryz.ntmps144
 go_wp2_with fail
 refine (yU base B co cb coff cc C W D av sv s 2 0 32000 2 _ rfl (by decide) hp H.out).mono ?_
 rintro e g ⟨rfl,b,a⟩
 have f:Hid _:=b
 have d:Hid _:=a
 clear b a
 go_wp2_with fail
 go_ret
 exact ⟨rfl,f.out,d.out⟩
theorem jY (base B:Nat) (co:Option Addr) (cb coff cc:Nat) (C:List Int) (W:RW) (D:Array Value) (av sv:Value) (s:RT) (n:Int) (w:World) (h:RM w base B co cb coff cc C W D av sv s) :
 Calls Tryz.prog 143 #[.pointer (some ⟨B,0,none⟩),J Z n] w fun e w'=>e=.returned (.bool (upW W n))/\w'=w:=by
 by_cases d:0<=n
 ·by_cases b:n<64
  ·obtain ⟨k,rfl⟩:∃ k:Nat,n=k:=⟨n.toNat,by omega⟩
   have j:=h.cd (i:=k) (by omega)
   have a:Hid (upW W (k:Int)=!W.dn k):=by show _=_;unfold upW;simp [b]
   clear h
   generalize W.dn k=q at *
   go_enter Tryz.func143,Tryz.ntmps143
   go_wp2_with fail
   go_ret
   exact ⟨by rw [a.out];rfl,rfl⟩
  ·have a:Hid (upW W n=false):=by show _=_;unfold upW;simp [b]
   have f:decide (n<64)=false:=decide_eq_false b
   clear h
   go_enter Tryz.func143,Tryz.ntmps143
   go_wp2_with fail
   go_ret
   exact ⟨by rw [a.out];rfl,rfl⟩
 ·have a:Hid (upW W n=false):=by show _=_;unfold upW;simp [d]
  have g:decide (0<=n)=false:=decide_eq_false d
  clear h
  go_enter Tryz.func143,Tryz.ntmps143
  go_wp2_with fail
  go_ret
  exact ⟨by rw [a.out];rfl,rfl⟩
theorem qO (base B:Nat) (co:Option Addr) (cb coff cc:Nat) (C:List Int) (W:RW) (D:Array Value) (av sv:Value) (s:RT) (n:Int) (w:World) (h:RM w base B co cb coff cc C W D av sv s) :
 Calls Tryz.prog 145 #[.pointer (some ⟨B,0,none⟩),J Z n] w fun e w'=>e=.returned (.tuple #[])/\RM w' base B co cb coff cc C W D av sv ⟨s.r,s.sv,s.ttl,nar n s.sc⟩/\RQ B w w':=by
 have H:Hid _:=h
 have c74:=h.c74
 have d:=h.fz 74
 clear h
 by_cases a:s.sc<n
 ·have b:Hid (nar n s.sc=n):=by show _=_;unfold nar;rw [if_pos a]
  go_enter Tryz.func145,Tryz.ntmps145
  go_wp2_with fail
  go_end0
  exact ⟨rfl,by rw [b.out];exact H.out.scS n,(RQ.refl _ _).setCell _ _⟩
 ·have b:Hid (nar n s.sc=s.sc):=by show _=_;unfold nar;rw [if_neg a]
  have f:n<=s.sc:=by omega
  clear a
  go_enter Tryz.func145,Tryz.ntmps145
  go_wp2_with fail
  go_end0
  exact ⟨rfl,by rw [b.out];exact H.out,RQ.refl _ _⟩
theorem jD (base B:Nat) (co:Option Addr) (cb coff cc:Nat) (C:List Int) (W:RW) (D:Array Value) (av sv:Value) (s:RT) (w:World) (hp:s.r.p<=900000000000000000) (h:RM w base B co cb coff cc C W D av sv s) :
 Calls Tryz.prog 111 #[.pointer (some ⟨B,0,none⟩)] w fun e w'=>e=.returned (.tuple #[])/\RM w' base B co cb coff cc C W D av sv (yI C s)/\RQ B w w':=by
 have H:Hid _:=h
 clear h
 go_enter Tryz.func111,Tryz.ntmps111
 go_wp2_with fail
 refine (yU base B co cb coff cc C W D av sv s 3 1 86400 3 _ rfl (by decide) hp H.out).mono ?_
 rintro e l ⟨rfl,a,f⟩
 have i:Hid _:=a
 have g:Hid _:=f
 have c73:=a.c73
 have j:=a.fz 73
 simp only at c73
 clear a f
 by_cases b:rdN C s.r 3<s.ttl
 ·have d:Hid (yI C s=⟨num C s.r 3 1 86400,s.sv,rdN C s.r 3,s.sc⟩):=by show _=_;unfold yI;rw [if_pos b]
  generalize rdN C s.r 3=n at *
  go_wp2_with fail
  go_end0
  exact ⟨rfl,by rw [d.out];exact i.out.ttlS n,g.out.setCell _ _⟩
 ·have d:Hid (yI C s=⟨num C s.r 3 1 86400,s.sv,s.ttl,s.sc⟩):=by show _=_;unfold yI;rw [if_neg b]
  have k:s.ttl<=rdN C s.r 3:=by omega
  clear b
  generalize rdN C s.r 3=n at *
  go_wp2_with fail
  go_end0
  exact ⟨rfl,by rw [d.out];exact i.out,g.out⟩
end
theorem jw (C:List Int) (r:RD):∀ i,r.p<=(svR C r i).p/\(svR C r i).p<=r.p+i:=by
 intro i
 induction i with
 | zero=>simp [svR]
 | succ i ih=>have:=Zp C (svR C r i) 1 0 63;simp only [svR];omega
theorem zdX (C:List Int) (r:RD):∀ i,(svL C r i).length=i:=by
 intro i
 induction i with
 | zero=>rfl
 | succ i ih=>simp [svL,ih]
theorem XN {C:List Int} (h:∀ x∈C,0<=x/\x<256) (r:RD):rdN C r 1=(cnN C r:Int)/\cnN C r<=255:=by
 have b:=qG h r 1
 have a:yV 1=256:=by decide
 rw [a] at b
 unfold cnN
 omega
theorem RQ.owns {B:Nat} {w w':World} (h:RQ B w w') {base e size:Nat} {v:Value} {n:Nat} {xs:List Value} (ho:w.ownsRow base e size v n xs) (hne:v.ownBlock≠some B):w'.ownsRow base e size v n xs:=zh ho (fun g hg=>h.kept g (ho.lt g hg).2 (fun e=>hne (by rw [<- e];exact hg)))
theorem jC (base B:Nat) (co:Option Addr) (cb coff cc:Nat) (C:List Int) (W:RW) (D:Array Value) (av sv:Value) (s:RT) (w:World) (hp:s.r.p<=900000000000000000-1000) (hl:s.sv.length<=100000) (h:RM w base B co cb coff cc C W D av sv s) :
 Calls Tryz.prog 106 #[.pointer (some ⟨B,0,none⟩)] w fun e w'=>e=.returned (.tuple #[])/\(∃ sv',RM w' base B co cb coff cc C W D av sv' (ZC C s))/\Below base w w':=by
 obtain ⟨i0,P,K,I,G⟩:=info_parts Tryz.infoInt
 have H:Hid _:=h
 have a1:Hid (∀ x∈C,0<=x/\x<256):=h.code.byt
 have a2:Hid _:=h.bs
 have F:Hid (base<=B):=h.hB
 clear h
 go_enter Tryz.func106,Tryz.ntmps106
 go_wp2_with fail
 refine (Yy base B co cb coff cc C W D av sv s _ (by omega) H.out).mono ?_
 rintro e w1 ⟨rfl,o,hv⟩
 have a0:Hid _:=o
 have a5:Hid (Below base w w1):=hv.below F.out a2.out
 clear o hv
 obtain ⟨A,Q⟩:=XN a1.out s.r
 rw [A]
 have z:=Zp C s.r 1 1 16
 have Y:Hid (ZC C s=⟨svR C (cnR C s.r) (cnN C s.r),s.sv++svL C (cnR C s.r) (cnN C s.r),s.ttl,s.sc⟩):=rfl
 have a7:(cnR C s.r).p<=s.r.p+1:=z.2
 generalize cnN C s.r=n at *
 generalize cnR C s.r=r at *
 clear A z
 go_wp2_with fail
 go_loopg [3] n (fun q y wr=>∃ (i:Nat) (sv':Value),q+i=n/\y=J Z i/\RM wr base B co cb coff cc C W D av sv' ⟨svR C r i,s.sv++svL C r i,s.ttl,s.sc⟩/\Below base w wr)
 case atStart=>exact ⟨0,sv,by omega,rfl,by simpa [svR,svL] using a0.out,a5.out⟩
 case round =>
  obtain ⟨i,sv',hq,rfl,o,hb⟩:=hrel
  have HM:Hid _:=o
  have HB:Hid _:=hb
  clear o hb
  have a8:=jw C r i
  by_cases a9:i<n
  ·have v:(i:Int)<(n:Int):=by omega
   go_wp2_with fail
   refine (xN base B co cb coff cc C W D av sv' _ _ (by simp only;omega) HM.out).mono ?_
   rintro e k ⟨rfl,d,l⟩
   have b:Hid _:=d
   have a4:Hid (Below base w k):=HB.out.trans (l.below F.out HM.out.bs)
   have c72:=d.c72
   have HL:Hid (s.sv++svL C r (i+1)=(s.sv++svL C r i)++[rdN C (svR C r i) 1]):=by show _=_;simp [svL]
   have E:base<=k.heap.size:=d.bs
   have b0:(s.sv++svL C r i).length<=200000:=by rw [List.length_append,zdX];omega
   clear d l
   simp only
   generalize rdN C (svR C r i) 1=x at *
   generalize s.sv++svL C r i=L at *
   have V:Hid (L.length+1<=maxLen):=by show _<=_;unfold maxLen;omega
   have U:Hid ((L.length+1)*8<=140737488355328):=by show _<=_;omega
   have S:Hid (base<=(k.alloc (.cells #[J Z x] 3)).heap.size):=by show _<=_;simp;omega
   have m:Hid (∀ u∈[J Z x],u.oneCell'=true):=fun u hu=>by simp at hu;subst hu;rfl
   go_wp2_with (at_builtin;refine wpList_append_lies _ rfl _ _ 25 rfl base 3 i0 _ 1 8 Tryz.underlying25 P K I G rfl (by decide) sv' _ _ rfl (b.out.row.alloc _) ⟨k.heap.size,0,none⟩ 1 1 [J Z x] rfl rfl (World.news_of_block (cs:=#[J Z x]) (t:=3) (fr:=(0,0)) (heap_alloc_new k _)) m.out (Nat.lt_succ_self 0) V.out U.out S.out (k.heap.size+1) (by simp) ?_;intro g X w4 f a R a6;have zz:w4.frozen? ⟨B,72,none⟩=false:=(a.frozen_far ⟨B,72,none⟩ (by have:=b.out.lt;simp;omega) (fun e=>b.out.ne e.symm)).trans ((b.out.alloc _).fz 72);have b1:w4.cell? ⟨B,72,none⟩=some sv':=(a.cell_far ⟨B,72,none⟩ (by have:=b.out.lt;simp;omega) (fun e=>b.out.ne e.symm)).trans (b.out.alloc _).c72)
   have j:=(b.out.alloc (.cells #[J Z x] 3)).push (ys:=[x]) (n:=L.length+1) (by simp) a (by simpa using f)
   have a3:=(b.out.alloc (.cells #[J Z x] 3)).pushB (u:=O (some ⟨g,0,none⟩) (L.length+1) X) (a4.out.alloc E _) a
   simp only at j
   rw [<- HL.out] at j
   clear f a R
   go_roundg (gk-1)
   case measure=>omega
   case rel=>exact ⟨i+1,_,by omega,by go_num,j,a3⟩
  ·have N:i=n:=by omega
   subst N
   have v:¬ (i:Int)<(i:Int):=by omega
   go_wp2_with fail
   go_end0
   exact ⟨rfl,⟨sv',by rw [Y.out];exact HM.out⟩,HB.out⟩
theorem zbK (base B:Nat) (co:Option Addr) (cb coff cc:Nat) (C:List Int) (W:RW) (D:Array Value) (av sv:Value) (s:RT) (w:World) (hp:s.r.p<=900000000000000000-1000) (hl:s.sv.length<=100000) (h:RM w base B co cb coff cc C W D av sv s) :
 Calls Tryz.prog 108 #[.pointer (some ⟨B,0,none⟩)] w fun e w'=>e=.returned (.bool (yS W C s).2)/\(∃ sv',RM w' base B co cb coff cc C W D av sv' (yS W C s).1)/\Below base w w':=by
 obtain ⟨i0,R,P,N,L⟩:=info_parts Tryz.infoInt
 have H:Hid _:=h
 have a5:Hid (∀ x∈C,0<=x/\x<256):=h.code.byt
 have a6:Hid _:=h.bs
 have F:Hid (base<=B):=h.hB
 clear h
 go_enter Tryz.func108,Tryz.ntmps108
 go_wp2_with fail
 refine (Yy base B co cb coff cc C W D av sv s _ (by omega) H.out).mono ?_
 rintro e w1 ⟨rfl,m,hv⟩
 have a3:Hid _:=m
 have a8:Hid (Below base w w1):=hv.below F.out a6.out
 clear m hv
 obtain ⟨z,U⟩:=XN a5.out s.r
 rw [z]
 have v:=Zp C s.r 1 1 16
 have E:Hid (yS W C s=match chG W C (cnR C s.r) 0 (cnN C s.r) with
  | some i=>(⟨svR C (cnR C s.r) (i+1),s.sv++[rdN C (svR C (cnR C s.r) i) 1],s.ttl,s.sc⟩,true)
  | none=>(⟨svR C (cnR C s.r) (cnN C s.r),s.sv,s.ttl,s.sc⟩,false)):=rfl
 have b0:(cnR C s.r).p<=s.r.p+1:=v.2
 generalize cnN C s.r=n at *
 generalize cnR C s.r=r at *
 clear z v
 go_wp2_with fail
 go_loopg [4] n (fun q y wr=>∃ i:Nat,q+i=n/\y=J Z i/\Hid (chG W C r 0 n=chG W C r i q)/\RM wr base B co cb coff cc C W D av sv ⟨svR C r i,s.sv,s.ttl,s.sc⟩/\Below base w wr)
 case atStart=>exact ⟨0,by omega,rfl,rfl,a3.out,a8.out⟩
 case round =>
  obtain ⟨i,hq,rfl,HC,m,hb⟩:=hrel
  have HM:Hid _:=m
  have HB:Hid _:=hb
  clear m hb
  have b2:=jw C r i
  by_cases b3:i<n
  ·have o:(i:Int)<(n:Int):=by omega
   obtain ⟨K,rfl⟩:∃ K,gk=K+1:=⟨gk-1,by omega⟩
   go_wp2_with fail
   refine (xN base B co cb coff cc C W D av sv _ _ (by simp only;omega) HM.out).mono ?_
   rintro e f ⟨rfl,l,j⟩
   have a:Hid _:=l
   have I:Hid (Below base w f):=HB.out.trans (j.below F.out HM.out.bs)
   clear l j
   simp only
   go_wp2_with fail
   refine (jY base B co cb coff cc C W D av sv _ _ _ a.out).mono ?_
   rintro e w' ⟨rfl,b1⟩
   subst w'
   have c72:=a.out.c72
   have A:base<=f.heap.size:=a.out.bs
   cases hu:upW W (rdN C (svR C r i) 1) with
   | true =>
    have G:Hid (yS W C s=(⟨svR C r (i+1),s.sv++[rdN C (svR C r i) 1],s.ttl,s.sc⟩,true)):=by show _=_;rw [E.out,HC.out];simp only [chG];rw [if_pos hu]
    clear hu
    generalize rdN C (svR C r i) 1=x at *
    have a0:Hid (s.sv.length+1<=maxLen):=by show _<=_;unfold maxLen;omega
    have Y:Hid ((s.sv.length+1)*8<=140737488355328):=by show _<=_;omega
    have X:Hid (base<=(f.alloc (.cells #[J Z x] 3)).heap.size):=by show _<=_;simp;omega
    have k:Hid (∀ u∈[J Z x],u.oneCell'=true):=fun u hu=>by simp at hu;subst hu;rfl
    go_wp2_with (at_builtin;refine wpList_append_lies _ rfl _ _ 25 rfl base 3 i0 _ 1 8 Tryz.underlying25 R P N L rfl (by decide) sv _ _ rfl (a.out.row.alloc _) ⟨f.heap.size,0,none⟩ 1 1 [J Z x] rfl rfl (World.news_of_block (cs:=#[J Z x]) (t:=3) (fr:=(0,0)) (heap_alloc_new f _)) k.out (Nat.lt_succ_self 0) a0.out Y.out X.out (f.heap.size+1) (by simp) ?_;intro g a1 w4 d b V a9;have zz:w4.frozen? ⟨B,72,none⟩=false:=(b.frozen_far ⟨B,72,none⟩ (by have:=a.out.lt;simp;omega) (fun e=>a.out.ne e.symm)).trans ((a.out.alloc _).fz 72);have b4:w4.cell? ⟨B,72,none⟩=some sv:=(b.cell_far ⟨B,72,none⟩ (by have:=a.out.lt;simp;omega) (fun e=>a.out.ne e.symm)).trans (a.out.alloc _).c72)
    have a2:=(a.out.alloc (.cells #[J Z x] 3)).push (ys:=[x]) (n:=s.sv.length+1) (by simp) b (by simpa using d)
    have a7:=(a.out.alloc (.cells #[J Z x] 3)).pushB (u:=O (some ⟨g,0,none⟩) (s.sv.length+1) a1) (I.out.alloc A _) b
    clear d b V
    go_ret
    exact ⟨by rw [G.out];rfl,⟨_,by rw [G.out];exact a2⟩,a7⟩
   | false =>
    have a4:Hid (chG W C r 0 n=chG W C r (i+1) K):=by show _=_;rw [HC.out];simp only [chG];rw [if_neg (by rw [hu];decide)]
    clear hu
    go_wp2_with fail
    go_roundg K
    case measure=>omega
    case rel=>exact ⟨i+1,by omega,by go_num,a4,a.out,I.out⟩
  ·have Q:i=n:=by omega
   subst Q
   have S:gk=0:=by omega
   subst S
   have o:¬ (i:Int)<(i:Int):=by omega
   have G:Hid (yS W C s=(⟨svR C r i,s.sv,s.ttl,s.sc⟩,false)):=by show _=_;rw [E.out,HC.out];rfl
   go_wp2_with fail
   go_ret
   exact ⟨by rw [G.out];rfl,⟨sv,by rw [G.out];exact HM.out⟩,HB.out⟩
theorem ze3 (C:List Int) (r:RD):∀ i,r.p<=(rgR C r i).p/\(rgR C r i).p<=r.p+3*i:=by
 intro i
 induction i with
 | zero=>simp [rgR]
 | succ i ih=>have b:=Zp C (rgR C r i) 1 0 99;have a:=Zp C (num C (rgR C r i) 1 0 99) 2 0 32000;simp only [rgR];omega
theorem Xf {C:List Int} (h:∀ x∈C,0<=x/\x<256) (r:RD):0<=rdN C r 2/\rdN C r 2<=65535:=by
 have b:=qG h r 2
 have a:yV 2=65536:=by decide
 rw [a] at b
 omega
theorem zci {W:RW} {C:List Int} (h:∀ x∈C,0<=x/\x<256) (r:RD):∀ i,0<=rgT W C r i/\rgT W C r i<=65535:=by
 intro i
 induction i with
 | zero=>simp [rgT]
 | succ i ih =>
  simp only [rgT]
  split
  ·exact Xf h _
  ·exact ih
theorem jF (base B:Nat) (co:Option Addr) (cb coff cc:Nat) (C:List Int) (W:RW) (D:Array Value) (av sv:Value) (s:RT) (w:World) (hp:s.r.p<=900000000000000000-10000) (h:RM w base B co cb coff cc C W D av sv s) :
 Calls Tryz.prog 110 #[.pointer (some ⟨B,0,none⟩)] w fun e w'=>e=.returned (.tuple #[])/\RM w' base B co cb coff cc C W D av sv (Zo W C s)/\Below base w w':=by
 have H:Hid _:=h
 have F:Hid (∀ x∈C,0<=x/\x<256):=h.code.byt
 have Q:Hid _:=h.bs
 have f:Hid (base<=B):=h.hB
 clear h
 go_enter Tryz.func110,Tryz.ntmps110
 go_wp2_with fail
 refine (Yy base B co cb coff cc C W D av sv s _ (by omega) H.out).mono ?_
 rintro e w1 ⟨rfl,o,S⟩
 have P:Hid _:=o
 have R:Hid (Below base w w1):=S.below f.out Q.out
 clear o S
 obtain ⟨z,L⟩:=XN F.out s.r
 rw [z]
 have v:=Zp C s.r 1 1 16
 have O:Hid (Zo W C s=⟨⟨(rgR C (cnR C s.r) (cnN C s.r)).p+(rgT W C (cnR C s.r) (cnN C s.r)).toNat,(rgR C (cnR C s.r) (cnN C s.r)).b⟩,s.sv,s.ttl,nar W.dep s.sc⟩):=rfl
 have U:(cnR C s.r).p<=s.r.p+1:=v.2
 generalize cnN C s.r=n at *
 generalize cnR C s.r=r at *
 clear z v
 go_wp2_with fail
 go_loopg [3,4] n (fun q t y wr=>∃ i:Nat,q+i=n/\t=J Z (rgT W C r i)/\y=J Z i/\RM wr base B co cb coff cc C W D av sv ⟨rgR C r i,s.sv,s.ttl,s.sc⟩/\Below base w wr)
 case atStart=>exact ⟨0,by omega,rfl,rfl,P.out,R.out⟩
 case round =>
  obtain ⟨i,hq,rfl,rfl,o,V⟩:=hrel
  have E:Hid _:=o
  have X:Hid _:=V
  clear o V
  have a0:=ze3 C r i
  by_cases a2:i<n
  ·have u:(i:Int)<(n:Int):=by omega
   have a1:=Zp C (rgR C r i) 1 0 99
   go_wp2_with fail
   refine (yU base B co cb coff cc C W D av sv _ 1 0 99 1 _ rfl (by decide) (by simp only;omega) E.out).mono ?_
   rintro e I ⟨rfl,a,d⟩
   have g:Hid _:=a
   have l:Hid (Below base w I):=X.out.trans (d.below f.out E.out.bs)
   clear a d
   simp only
   go_wp2_with fail
   refine (QQ base B co cb coff cc C W D av sv _ _ (by simp only;omega) g.out).mono ?_
   rintro e Y ⟨rfl,j,m⟩
   have A:Hid _:=j
   have G:Hid (Below base w Y):=l.out.trans (m.below f.out g.out.bs)
   have c70:=j.c70
   clear j m
   simp only
   have N:Hid (rgT W C r (i+1)=if rdN C (rgR C r i) 1=W.reg then rdN C (num C (rgR C r i) 1 0 99) 2 else rgT W C r i):=rfl
   generalize rdN C (rgR C r i) 1=x at *
   generalize rdN C (num C (rgR C r i) 1 0 99) 2=y at *
   cases hx:(x==W.reg) with
   | true =>
    have k:Hid (rgT W C r (i+1)=y):=by show _=_;rw [N.out,if_pos (by simpa using hx)]
    go_wp2_with fail
    go_roundg (gk-1)
    case measure=>omega
    case rel=>exact ⟨i+1,by omega,by rw [k.out],by go_num,A.out,G.out⟩
   | false =>
    have k:Hid (rgT W C r (i+1)=rgT W C r i):=by show _=_;rw [N.out,if_neg (by simpa using hx)]
    go_wp2_with fail
    go_roundg (gk-1)
    case measure=>omega
    case rel=>exact ⟨i+1,by omega,by rw [k.out],by go_num,A.out,G.out⟩
  ·have K:i=n:=by omega
   subst K
   have u:¬ (i:Int)<(i:Int):=by omega
   have a3:=zci (W:=W) F.out r i
   have c71:=E.out.c71
   generalize hT:rgT W C r i=t at *
   have N:Hid _:=hT
   clear hT
   go_wp2_with fail
   refine (qO base B co cb coff cc C W D av sv _ _ _ E.out).mono ?_
   rintro e I ⟨rfl,a,d⟩
   have g:Hid _:=a
   have l:Hid (Below base w I):=X.out.trans (d.below f.out E.out.bs)
   have c1:=a.c1
   have z1:=a.fz 1
   simp only at c1
   clear a d
   have HE:Hid (Zo W C s=⟨⟨(rgR C r i).p+t.toNat,(rgR C r i).b⟩,s.sv,s.ttl,nar W.dep s.sc⟩):=by show _=_;rw [O.out]
   generalize rgR C r i=p at *
   go_wp2_with fail
   go_end0
   exact ⟨rfl,by rw [HE.out];exact g.out.at (p.p+t.toNat) ((p.p:Int)+t) (by omega),l.out.setCell f.out _⟩
end Go.Proofs.YtaebngpoagjafabGreat
