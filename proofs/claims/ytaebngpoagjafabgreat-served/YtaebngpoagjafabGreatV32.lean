import Derived.Test.YtaebngpoagjafabGreatV30
set_option maxRecDepth 100000
set_option maxHeartbeats 800000
namespace Go.Proofs.YtaebngpoagjafabGreat
open Value renaming int → J, slice → O
open IntKind renaming i64 → Z
open Go.RowKit
attribute [local go_sem ↓] Go.wp_at_zero Go.wp_at_succ
section
def yx (a b c d e:Value) (D:Array Value) (f g h i j k:Value):Array Value:=#[a,b,c,d,e]++D++#[f,g,h,i,j,k]
theorem j4 {a b c d e:Value} {D:Array Value} {f g h i j k:Value} {n:Nat} (hD:D.size=64) (hn:n<64):(yx a b c d e D f g h i j k)[5+n]?=D[n]?:=by
 unfold yx
 rw [Array.getElem?_append_left (by simp;omega),Array.getElem?_append_right (by simp)]
 simp
theorem j3 {a b c d e:Value} {D:Array Value} {f g h i j k:Value} (hD:D.size=64) (n:Nat):(yx a b c d e D f g h i j k)[69+n]?=#[f,g,h,i,j,k][n]?:=by
 unfold yx
 rw [Array.getElem?_append_right (by simp;omega)]
 congr 1
 simp;omega
theorem YG {a b c d e:Value} {D:Array Value} {f g h i j k:Value} {n:Nat} (hn:n<5):(yx a b c d e D f g h i j k)[n]?=#[a,b,c,d,e][n]?:=by
 unfold yx
 rw [Array.getElem?_append_left (by simp;omega),Array.getElem?_append_left (by simpa using hn)]
theorem YF {a b c d e:Value} {D:Array Value} {f g h i j k:Value} (hD:D.size=64):(yx a b c d e D f g h i j k).size=75:=by simp [yx,hD]
theorem yq {X Y:Array Value} {n:Nat} {u:Value} (h:n<X.size):(X++Y).setIfInBounds n u=X.setIfInBounds n u++Y:=by
 apply Array.ext'
 simp only [Array.toList_setIfInBounds,Array.toList_append]
 rw [List.set_append_left _ _ (by simpa using h)]
theorem Zt {X Y:Array Value} {n:Nat} {u:Value} (h:X.size<=n):(X++Y).setIfInBounds n u=X++Y.setIfInBounds (n-X.size) u:=by
 apply Array.ext'
 simp only [Array.toList_setIfInBounds,Array.toList_append]
 rw [List.set_append_right _ _ (by simpa using h)]
 simp
theorem JI {a b c d e:Value} {D:Array Value} {f g h i j k u:Value}:(yx a b c d e D f g h i j k).setIfInBounds 1 u=yx a u c d e D f g h i j k:=by
 unfold yx
 rw [yq (by simp;omega),yq (by simp)];rfl
theorem JH {a b c d e:Value} {D:Array Value} {f g h i j k u:Value}:(yx a b c d e D f g h i j k).setIfInBounds 2 u=yx a b u d e D f g h i j k:=by
 unfold yx
 rw [yq (by simp;omega),yq (by simp)];rfl
theorem jj {a b c d e:Value} {D:Array Value} {f g h i j k u:Value} (hD:D.size=64):(yx a b c d e D f g h i j k).setIfInBounds 72 u=yx a b c d e D f g h u j k:=by
 unfold yx
 rw [Zt (by simp;omega)]
 simp [hD]
theorem XF {a b c d e:Value} {D:Array Value} {f g h i j k u:Value} (hD:D.size=64):(yx a b c d e D f g h i j k).setIfInBounds 73 u=yx a b c d e D f g h i u k:=by
 unfold yx
 rw [Zt (by simp;omega)]
 simp [hD]
theorem ji {a b c d e:Value} {D:Array Value} {f g h i j k u:Value} (hD:D.size=64):(yx a b c d e D f g h i j k).setIfInBounds 74 u=yx a b c d e D f g h i j u:=by
 unfold yx
 rw [Zt (by simp;omega)]
 simp [hD]
structure CS (w:World) (base:Nat) (co:Option Addr) (cb coff:Nat) (C:List Int):Prop where
 at_:0<C.length->co=some ⟨cb,coff,none⟩
 lt:0<C.length->cb<base
 val:∀ i x,C[i]?=some x->w.cell? ⟨cb,coff+i,none⟩=some (J .u8 x)
 byt:∀ x∈C,0<=x/\x<256
structure RM (w:World) (base B:Nat) (co:Option Addr) (cb coff cc:Nat) (C:List Int) (W:RW) (D:Array Value) (av sv:Value) (s:RT):Prop where
 blk:w.heap[B]?=some (.cells (yx (O co C.length cc) (J Z s.r.p) (.bool s.r.b) (J Z W.addr) (J Z W.draw) D av (J Z W.reg) (J Z W.dep) sv (J Z s.ttl) (J Z s.sc)) 118 (0,0))
 dsz:D.size=64
 dn:∀ i,i<64->D[i]?=some (.bool (W.dn i))
 row:w.ownsRow base 3 1 sv s.sv.length (s.sv.map (J Z))
 hB:base<=B
 code:CS w base co cb coff C
structure RQ (B:Nat) (w w':World):Prop where
 bel:Below 0 w w'
 kept:∀ b,b<w.heap.size->b≠B->w'.heap[b]?=w.heap[b]?
theorem RQ.refl (B:Nat) (w:World):RQ B w w:=⟨Below.refl _ _,fun _ _ _=>rfl⟩
theorem RQ.trans {B:Nat} {a b c:World} (h:RQ B a b) (k:RQ B b c):RQ B a c:=⟨h.bel.trans k.bel,fun x hx hn=>(k.kept x (Nat.lt_of_lt_of_le hx h.bel.size) hn).trans (h.kept x hx hn)⟩
theorem RQ.drewN {B:Nat} {a b:World} (h:RQ B a b) (n:Nat):RQ B a (b.drewN n):=⟨⟨h.bel.os,h.bel.tape,h.bel.output,h.bel.size,h.bel.block⟩,h.kept⟩
theorem RQ.setCell {B:Nat} {a b:World} (h:RQ B a b) (j:Nat) (u:Value):RQ B a (b.setCell ⟨B,j,none⟩ u):=⟨h.bel.setCell (Nat.zero_le _) u,fun x hx hn=>by rw [za hn];exact h.kept x hx hn⟩
theorem RQ.alloc {B:Nat} {a b:World} (h:RQ B a b) (o:Obj):RQ B a (b.alloc o):=⟨h.bel.alloc (Nat.zero_le _) o,fun x hx hn=>by rw [Below.heap_alloc _ _ _ (Nat.lt_of_lt_of_le hx h.bel.size)];exact h.kept x hx hn⟩
theorem RQ.below {B:Nat} {a b:World} (h:RQ B a b) {base:Nat} (hB:base<=B) (hs:base<=a.heap.size):Below base a b:=⟨h.bel.os,h.bel.tape,h.bel.output,h.bel.size,fun k hk=>h.kept k (by omega) (by omega)⟩
section
variable {w:World} {base B:Nat} {co:Option Addr} {cb coff cc:Nat} {C:List Int} {W:RW} {D:Array Value} {av sv:Value} {s:RT}
theorem RM.lt (h:RM w base B co cb coff cc C W D av sv s):B<w.heap.size:=lt_of_block h.blk
theorem RM.c0 (h:RM w base B co cb coff cc C W D av sv s):w.cell? ⟨B,0,none⟩=some (O co C.length cc):=by rw [cell_of_row w B 0 _ _ _ h.blk,YG (by decide)];rfl
theorem RM.c1 (h:RM w base B co cb coff cc C W D av sv s):w.cell? ⟨B,1,none⟩=some (J Z s.r.p):=by rw [cell_of_row w B 1 _ _ _ h.blk,YG (by decide)];rfl
theorem RM.c2 (h:RM w base B co cb coff cc C W D av sv s):w.cell? ⟨B,2,none⟩=some (.bool s.r.b):=by rw [cell_of_row w B 2 _ _ _ h.blk,YG (by decide)];rfl
theorem RM.c3 (h:RM w base B co cb coff cc C W D av sv s):w.cell? ⟨B,3,none⟩=some (J Z W.addr):=by rw [cell_of_row w B 3 _ _ _ h.blk,YG (by decide)];rfl
theorem RM.c4 (h:RM w base B co cb coff cc C W D av sv s):w.cell? ⟨B,4,none⟩=some (J Z W.draw):=by rw [cell_of_row w B 4 _ _ _ h.blk,YG (by decide)];rfl
theorem RM.cd (h:RM w base B co cb coff cc C W D av sv s) {i:Nat} (hi:i<64):w.cell? ⟨B,5+i,none⟩=some (.bool (W.dn i)):=by
 rw [cell_of_row w B (5+i) _ _ _ h.blk,j4 h.dsz hi];exact h.dn i hi
theorem RM.ch (h:RM w base B co cb coff cc C W D av sv s) (i:Nat):w.cell? ⟨B,69+i,none⟩=#[av,J Z W.reg,J Z W.dep,sv,J Z s.ttl,J Z s.sc][i]?:=by
 rw [cell_of_row w B (69+i) _ _ _ h.blk,j3 h.dsz]
theorem RM.fz (h:RM w base B co cb coff cc C W D av sv s) (j:Nat):w.frozen? ⟨B,j,none⟩=false:=by simp [World.frozen?,h.blk]
theorem RM.ne (h:RM w base B co cb coff cc C W D av sv s):sv.ownBlock≠some B:=zs h.row h.blk (by decide)
theorem zM {w:World} {B j:Nat} {cs:Array Value} {u:Value} {t:TypeId} (h:w.heap[B]?=some (.cells cs t (0,0))):(w.setCell ⟨B,j,none⟩ u).heap[B]?=some (.cells (cs.setIfInBounds j u) t (0,0)):=by
 simp [World.setCell,Array.getElem?_modify,h]
theorem CS.set (h:CS w base co cb coff C) (hB:base<=B) (j:Nat) (u:Value):CS (w.setCell ⟨B,j,none⟩ u) base co cb coff C:=⟨h.at_,h.lt,fun i x hx=>by
 have hl:0<C.length:=by have:=(List.getElem?_eq_some_iff.1 hx).1;omega
 rw [World.cell?_of_block (za (by have:=h.lt hl;simp only;omega))]
 exact h.val i x hx,h.byt⟩
theorem CS.of_kept {w':World} (h:CS w base co cb coff C) (hk:∀ b,b<base->w'.heap[b]?=w.heap[b]?):CS w' base co cb coff C:=⟨h.at_,h.lt,fun i x hx=>by
 have hl:0<C.length:=by have:=(List.getElem?_eq_some_iff.1 hx).1;omega
 rw [World.cell?_of_block (hk cb (h.lt hl))]
 exact h.val i x hx,h.byt⟩
theorem RM.at (h:RM w base B co cb coff cc C W D av sv s) (p:Nat) (x:Int) (hx:x=p):RM (w.setCell ⟨B,1,none⟩ (J Z x)) base B co cb coff cc C W D av sv ⟨⟨p,s.r.b⟩,s.sv,s.ttl,s.sc⟩ :=
 ⟨by rw [hx,zM h.blk,JI],h.dsz,h.dn,ownsRow_setCell_other h.row h.ne _,h.hB,h.code.set h.hB _ _⟩
theorem RM.bad (h:RM w base B co cb coff cc C W D av sv s) (b:Bool):RM (w.setCell ⟨B,2,none⟩ (.bool b)) base B co cb coff cc C W D av sv ⟨⟨s.r.p,b⟩,s.sv,s.ttl,s.sc⟩ :=
 ⟨by rw [zM h.blk,JH],h.dsz,h.dn,ownsRow_setCell_other h.row h.ne _,h.hB,h.code.set h.hB _ _⟩
theorem RM.ttlS (h:RM w base B co cb coff cc C W D av sv s) (n:Int):RM (w.setCell ⟨B,73,none⟩ (J Z n)) base B co cb coff cc C W D av sv ⟨s.r,s.sv,n,s.sc⟩ :=
 ⟨by rw [zM h.blk,XF h.dsz],h.dsz,h.dn,ownsRow_setCell_other h.row h.ne _,h.hB,h.code.set h.hB _ _⟩
theorem RM.scS (h:RM w base B co cb coff cc C W D av sv s) (n:Int):RM (w.setCell ⟨B,74,none⟩ (J Z n)) base B co cb coff cc C W D av sv ⟨s.r,s.sv,s.ttl,n⟩ :=
 ⟨by rw [zM h.blk,ji h.dsz],h.dsz,h.dn,ownsRow_setCell_other h.row h.ne _,h.hB,h.code.set h.hB _ _⟩
theorem RM.drewN (h:RM w base B co cb coff cc C W D av sv s) (n:Nat):RM (w.drewN n) base B co cb coff cc C W D av sv s:=⟨h.blk,h.dsz,h.dn,h.row,h.hB,⟨h.code.at_,h.code.lt,h.code.val,h.code.byt⟩⟩
theorem RM.alloc (h:RM w base B co cb coff cc C W D av sv s) (o:Obj):RM (w.alloc o) base B co cb coff cc C W D av sv s :=
 ⟨by rw [Below.heap_alloc _ _ _ h.lt];exact h.blk,h.dsz,h.dn,h.row.alloc o,h.hB,h.code.of_kept (fun b hb=>Below.heap_alloc _ _ _ (by have:=h.lt;have:=h.hB;omega))⟩
end
theorem QH (base B:Nat) (co:Option Addr) (cb coff cc:Nat) (C:List Int) (W:RW) (D:Array Value) (av sv:Value) (s:RT) (w:World) (hp:s.r.p<=1000000000000000000) (h:RM w base B co cb coff cc C W D av sv s) :
 Calls Tryz.prog 105 #[.pointer (some ⟨B,0,none⟩)] w fun e w'=>e=.returned (J Z (nxV C s.r))/\RM w' base B co cb coff cc C W D av sv ⟨nx C s.r,s.sv,s.ttl,s.sc⟩/\RQ B w w':=by
 have H:Hid (RM w base B co cb coff cc C W D av sv s):=h
 have c0:=h.c0
 have c1:=h.c1
 have c2:=h.c2
 have z1:=h.fz 1
 have z2:=h.fz 2
 have hcode:=h.code
 clear h
 obtain ⟨⟨p,b⟩,sl,ttl,sc⟩:=s
 simp only at c1 c2 hp
 have hp0:(0:Int)<=(p:Int):=by omega
 by_cases hlt:p<C.length
 ·obtain ⟨x,hx⟩:∃ x,C[p]?=some x:=⟨C[p],List.getElem?_eq_getElem hlt⟩
  have hx2:=hcode.val p x hx
  have hbt:=hcode.byt x (List.mem_of_getElem? hx)
  obtain rfl:=hcode.at_ (by omega)
  have HV:Hid (nxV C ⟨p,b⟩=x):=by show _=_;simp [nxV,hx]
  have HX:Hid (nx C ⟨p,b⟩=⟨p+1,b⟩):=by show _=_;simp [nx,hlt]
  have hlt':(p:Int)<(C.length:Int):=by omega
  have hge:decide ((C.length:Int)<=(p:Int))=false:=decide_eq_false (by omega)
  have hlz:decide ((p:Int)<0)=false:=decide_eq_false (by omega)
  clear hcode hx
  go_enter Tryz.func105,Tryz.ntmps105
  go_wp2_with fail
  go_quiet (fail)
  go_wp2_with fail
  go_quiet (fail)
  go_wp2_with fail
  go_ret
  exact ⟨by rw [HV.out];rfl,by rw [HX.out];exact (H.out.drewN _).at (p+1) ((p:Int)+1) (by omega),((RQ.refl _ _).drewN _).setCell _ _⟩
 ·have HV:Hid (nxV C ⟨p,b⟩=0):=by show _=_;simp [nxV,List.getElem?_eq_none (Nat.le_of_not_lt hlt)]
  have HX:Hid (nx C ⟨p,b⟩=⟨p,true⟩):=by show _=_;simp [nx,hlt]
  have hge:decide ((C.length:Int)<=(p:Int))=true:=decide_eq_true (by omega)
  have hlz:decide ((p:Int)<0)=false:=decide_eq_false (by omega)
  clear hcode
  go_enter Tryz.func105,Tryz.ntmps105
  go_wp2_with fail
  go_quiet (fail)
  go_wp2_with fail
  go_ret
  exact ⟨by rw [HV.out];rfl,by rw [HX.out];exact (H.out.drewN _).bad true,((RQ.refl _ _).drewN _).setCell _ _⟩
end
theorem zba {C:List Int} (h:∀ x∈C,0<=x/\x<256) (r:RD):0<=nxV C r/\nxV C r<=255:=by
 unfold nxV
 cases hx:C[r.p]? with
 | none=>simp
 | some x=>have:=h x (List.mem_of_getElem? hx);simp;omega
theorem zdn (C:List Int) (r:RD):r.p<=(nx C r).p/\(nx C r).p<=r.p+1:=by unfold nx;split<;>simp
theorem zaW (C:List Int) (r:RD):∀ i,r.p<=(Zc C r i).p/\(Zc C r i).p<=r.p+i:=by
 intro i
 induction i with
 | zero=>simp [Zc]
 | succ i ih=>have:=zdn C (Zc C r i);simp only [Zc];omega
theorem XI {C:List Int} (h:∀ x∈C,0<=x/\x<256) (r:RD):∀ i,0<=rdN C r i/\rdN C r i<yI i:=by
 intro i
 induction i with
 | zero=>simp [rdN,yI]
 | succ i ih =>
  have h1:=zba h (Zc C r i)
  have h2:=QB i
  have h3:nxV C (Zc C r i)*yI i<=255*yI i:=Int.mul_le_mul_of_nonneg_right h1.2 (by omega)
  have h4:0<=nxV C (Zc C r i)*yI i:=Int.mul_nonneg h1.1 (by omega)
  simp only [rdN,yI]
  omega
theorem zcv {i:Nat} (h:i<=4):yI i<=4294967296:=by
 have:i=0\/i=1\/i=2\/i=3\/i=4:=by omega
 rcases this with rfl | rfl | rfl | rfl | rfl<;>decide
theorem Za (C:List Int) (r:RD) (k:Nat) (lo hi:Int):r.p<=(num C r k lo hi).p/\(num C r k lo hi).p<=r.p+k:=zaW C r k
theorem yH (base B:Nat) (co:Option Addr) (cb coff cc:Nat) (C:List Int) (W:RW) (D:Array Value) (av sv:Value) (s:RT) (kI lo hi:Int) (k:Nat) (w:World) (hk:kI=k) (hk4:k<=4) (hp:s.r.p<=900000000000000000) (h:RM w base B co cb coff cc C W D av sv s) :
 Calls Tryz.prog 142 #[.pointer (some ⟨B,0,none⟩),J Z kI,J Z lo,J Z hi] w fun e w'=>e=.returned (J Z (rdN C s.r k))/\RM w' base B co cb coff cc C W D av sv ⟨num C s.r k lo hi,s.sv,s.ttl,s.sc⟩/\RQ B w w':=by
 subst hk
 have H:Hid _:=h
 have HBT:Hid (∀ x∈C,0<=x/\x<256):=h.code.byt
 clear h
 obtain ⟨r,sl,ttl,sc⟩:=s
 simp only at hp
 go_enter Tryz.func142,Tryz.ntmps142
 go_wp2_with fail
 go_loopg [9,10,11] k (fun q a b y wr=>∃ i:Nat,q+i=k/\a=J Z (rdN C r i)/\b=J Z (yI i)/\y=J Z i/\RM wr base B co cb coff cc C W D av sv ⟨Zc C r i,sl,ttl,sc⟩/\RQ B w wr)
 case atStart=>exact ⟨0,by omega,rfl,rfl,rfl,H.out,RQ.refl _ _⟩
 case round =>
  obtain ⟨i,hq,rfl,rfl,rfl,hm,hv⟩:=hrel
  have HM:Hid _:=hm
  have HV:Hid _:=hv
  clear hm hv
  have hpi:=zaW C r i
  have hnb:=XI HBT.out r i
  have hpw:=zcv (i:=i) (by omega)
  have hpp:=QB i
  by_cases hlt:i<k
  ·have hlt':(i:Int)<(k:Int):=by omega
   have hvb:=zba HBT.out (Zc C r i)
   have HNX:Hid (rdN C r (i+1)=rdN C r i+nxV C (Zc C r i)*yI i):=rfl
   have HPX:Hid (yI (i+1)=yI i*256):=rfl
   have HAX:Hid (Zc C r (i+1)=nx C (Zc C r i)):=rfl
   have hm0:0<=nxV C (Zc C r i)*yI i:=Int.mul_nonneg hvb.1 (by omega)
   have hm1:nxV C (Zc C r i)*yI i<=255*yI i:=Int.mul_le_mul_of_nonneg_right hvb.2 (by omega)
   go_wp2_with fail
   refine (QH base B co cb coff cc C W D av sv _ _ (by simp only;omega) HM.out).mono ?_
   rintro e w1 ⟨rfl,hm1',hv1⟩
   have HM1:Hid (RM w1 base B co cb coff cc C W D av sv ⟨Zc C r (i+1),sl,ttl,sc⟩):=by show RM _ _ _ _ _ _ _ _ _ _ _ _ _;rw [HAX.out];exact hm1'
   have HV1:Hid _:=HV.out.trans hv1
   clear hm1' hv1
   generalize nxV C (Zc C r i)=c at *
   generalize yI i=pw at *
   generalize rdN C r i=n at *
   go_wp2_with fail
   go_roundg (gk-1)
   case measure=>omega
   case rel=>exact ⟨i+1,by omega,by rw [HNX.out],by rw [HPX.out],by go_num,HM1.out,HV1.out⟩
  ·have hik:i=k:=by omega
   subst hik
   have hlt':¬ (i:Int)<(i:Int):=by omega
   have c2:=HM.out.c2
   have z2:=HM.out.fz 2
   by_cases hbad:rdN C r i<lo\/hi<rdN C r i
   ·have HNM:Hid (num C r i lo hi=⟨(Zc C r i).p,true⟩):=by show _=_;unfold num;rw [if_pos hbad]
    have HM2:Hid (RM (wr.setCell ⟨B,2,none⟩ (.bool true)) base B co cb coff cc C W D av sv ⟨num C r i lo hi,sl,ttl,sc⟩):=by show RM _ _ _ _ _ _ _ _ _ _ _ _ _;rw [HNM.out];exact HM.out.bad true
    by_cases hlo:rdN C r i<lo
    ·clear hbad
     generalize hnn:rdN C r i=n at *
     have HN:Hid _:=hnn
     clear hnn
     go_wp2_with fail
     go_ret
     exact ⟨by rw [HN.out];rfl,HM2.out,HV.out.setCell _ _⟩
    ·have hhi:hi<rdN C r i:=by omega
     have hlo':lo<=rdN C r i:=by omega
     clear hbad hlo
     generalize hnn:rdN C r i=n at *
     have HN:Hid _:=hnn
     clear hnn
     go_wp2_with fail
     go_ret
     exact ⟨by rw [HN.out];rfl,HM2.out,HV.out.setCell _ _⟩
   ·have HNM:Hid (num C r i lo hi=Zc C r i):=by show _=_;unfold num;rw [if_neg hbad]
    have hlo:lo<=rdN C r i:=by omega
    have hhi:rdN C r i<=hi:=by omega
    clear hbad
    generalize hnn:rdN C r i=n at *
    have HN:Hid _:=hnn
    clear hnn
    go_wp2_with fail
    go_ret
    exact ⟨by rw [HN.out];rfl,by show RM _ _ _ _ _ _ _ _ _ _ _ _ _;rw [HNM.out];exact HM.out,HV.out⟩
section
section
variable {w:World} {base B:Nat} {co:Option Addr} {cb coff cc:Nat} {C:List Int} {W:RW} {D:Array Value} {av sv:Value} {s:RT}
theorem RM.c69 (h:RM w base B co cb coff cc C W D av sv s):w.cell? ⟨B,69,none⟩=some av:=h.ch 0
theorem RM.c70 (h:RM w base B co cb coff cc C W D av sv s):w.cell? ⟨B,70,none⟩=some (J Z W.reg):=h.ch 1
theorem RM.c71 (h:RM w base B co cb coff cc C W D av sv s):w.cell? ⟨B,71,none⟩=some (J Z W.dep):=h.ch 2
theorem RM.c72 (h:RM w base B co cb coff cc C W D av sv s):w.cell? ⟨B,72,none⟩=some sv:=h.ch 3
theorem RM.c73 (h:RM w base B co cb coff cc C W D av sv s):w.cell? ⟨B,73,none⟩=some (J Z s.ttl):=h.ch 4
theorem RM.c74 (h:RM w base B co cb coff cc C W D av sv s):w.cell? ⟨B,74,none⟩=some (J Z s.sc):=h.ch 5
theorem RM.bs (h:RM w base B co cb coff cc C W D av sv s):base<=w.heap.size:=Nat.le_trans h.hB (Nat.le_of_lt h.lt)
theorem RM.push {w4:World} {ys:List Int} {oo:Option Addr} {n cap:Nat} (h:RM w base B co cb coff cc C W D av sv s) (hn:n=(s.sv++ys).length) (hg:w.grownBy w4 sv.ownBlock) (hown:w4.ownsRow base 3 1 (O oo n cap) n ((s.sv++ys).map (J Z))) :
 RM (w4.setCell ⟨B,72,none⟩ (O oo n cap)) base B co cb coff cc C W D av (O oo n cap) ⟨s.r,s.sv++ys,s.ttl,s.sc⟩:=by
 have hb4:=(hg.block B h.lt (fun e=>h.ne e.symm)).trans h.blk
 have hc4:CS w4 base co cb coff C:=h.code.of_kept (fun b hb=>hg.block b (by have:=h.bs;omega) (fun e=>by have:=(h.row.lt b e.symm).1;omega))
 subst hn
 exact ⟨by rw [zM hb4,jj h.dsz],h.dsz,h.dn,ownsRow_setCell_other hown (zs hown hb4 (by decide)) _,h.hB,hc4.set h.hB _ _⟩
theorem RM.pushB {w0 w4:World} {u:Value} (h:RM w base B co cb coff cc C W D av sv s) (hb:Below base w0 w) (hg:w.grownBy w4 sv.ownBlock):Below base w0 (w4.setCell ⟨B,72,none⟩ u) :=
 (hb.grown hg h.bs (fun k hk=>(h.row.lt k hk).1)).setCell h.hB _
end
theorem Ya (base B:Nat) (co:Option Addr) (cb coff cc:Nat) (C:List Int) (W:RW) (D:Array Value) (av sv:Value) (s:RT) (w:World) (hp:s.r.p<=900000000000000000) (h:RM w base B co cb coff cc C W D av sv s) :
 Calls Tryz.prog 140 #[.pointer (some ⟨B,0,none⟩)] w fun e w'=>e=.returned (J Z (rdN C s.r 1))/\RM w' base B co cb coff cc C W D av sv ⟨cnR C s.r,s.sv,s.ttl,s.sc⟩/\RQ B w w':=by
 have H:Hid _:=h
 clear h
 go_enter Tryz.func140,Tryz.ntmps140
 go_wp2_with fail
 refine (yH base B co cb coff cc C W D av sv s 1 1 16 1 _ rfl (by decide) hp H.out).mono ?_
 rintro e w1 ⟨rfl,hm,hv⟩
 have HM:Hid _:=hm
 have HV:Hid _:=hv
 clear hm hv
 go_wp2_with fail
 go_ret
 exact ⟨rfl,HM.out,HV.out⟩
theorem YZ (base B:Nat) (co:Option Addr) (cb coff cc:Nat) (C:List Int) (W:RW) (D:Array Value) (av sv:Value) (s:RT) (w:World) (hp:s.r.p<=900000000000000000) (h:RM w base B co cb coff cc C W D av sv s) :
 Calls Tryz.prog 141 #[.pointer (some ⟨B,0,none⟩)] w fun e w'=>e=.returned (J Z (rdN C s.r 1))/\RM w' base B co cb coff cc C W D av sv ⟨num C s.r 1 0 63,s.sv,s.ttl,s.sc⟩/\RQ B w w':=by
 have H:Hid _:=h
 clear h
 go_enter Tryz.func141,Tryz.ntmps141
 go_wp2_with fail
 refine (yH base B co cb coff cc C W D av sv s 1 0 63 1 _ rfl (by decide) hp H.out).mono ?_
 rintro e w1 ⟨rfl,hm,hv⟩
 have HM:Hid _:=hm
 have HV:Hid _:=hv
 clear hm hv
 go_wp2_with fail
 go_ret
 exact ⟨rfl,HM.out,HV.out⟩
theorem qH (base B:Nat) (co:Option Addr) (cb coff cc:Nat) (C:List Int) (W:RW) (D:Array Value) (av sv:Value) (s:RT) (w:World) (hp:s.r.p<=900000000000000000) (h:RM w base B co cb coff cc C W D av sv s) :
 Calls Tryz.prog 144 #[.pointer (some ⟨B,0,none⟩)] w fun e w'=>e=.returned (J Z (rdN C s.r 2))/\RM w' base B co cb coff cc C W D av sv ⟨num C s.r 2 0 32000,s.sv,s.ttl,s.sc⟩/\RQ B w w':=by
 have H:Hid _:=h
 clear h
 go_enter Tryz.func144,Tryz.ntmps144
 go_wp2_with fail
 refine (yH base B co cb coff cc C W D av sv s 2 0 32000 2 _ rfl (by decide) hp H.out).mono ?_
 rintro e w1 ⟨rfl,hm,hv⟩
 have HM:Hid _:=hm
 have HV:Hid _:=hv
 clear hm hv
 go_wp2_with fail
 go_ret
 exact ⟨rfl,HM.out,HV.out⟩
theorem QN (base B:Nat) (co:Option Addr) (cb coff cc:Nat) (C:List Int) (W:RW) (D:Array Value) (av sv:Value) (s:RT) (n:Int) (w:World) (h:RM w base B co cb coff cc C W D av sv s) :
 Calls Tryz.prog 143 #[.pointer (some ⟨B,0,none⟩),J Z n] w fun e w'=>e=.returned (.bool (upW W n))/\w'=w:=by
 by_cases h0:0<=n
 ·by_cases h1:n<64
  ·obtain ⟨k,rfl⟩:∃ k:Nat,n=k:=⟨n.toNat,by omega⟩
   have hc:=h.cd (i:=k) (by omega)
   have HE:Hid (upW W (k:Int)=!W.dn k):=by show _=_;unfold upW;simp [h1]
   clear h
   generalize W.dn k=q at *
   go_enter Tryz.func143,Tryz.ntmps143
   go_wp2_with fail
   go_ret
   exact ⟨by rw [HE.out];rfl,rfl⟩
  ·have HE:Hid (upW W n=false):=by show _=_;unfold upW;simp [h1]
   have h1':decide (n<64)=false:=decide_eq_false h1
   clear h
   go_enter Tryz.func143,Tryz.ntmps143
   go_wp2_with fail
   go_ret
   exact ⟨by rw [HE.out];rfl,rfl⟩
 ·have HE:Hid (upW W n=false):=by show _=_;unfold upW;simp [h0]
  have h0':decide (0<=n)=false:=decide_eq_false h0
  clear h
  go_enter Tryz.func143,Tryz.ntmps143
  go_wp2_with fail
  go_ret
  exact ⟨by rw [HE.out];rfl,rfl⟩
theorem XQ (base B:Nat) (co:Option Addr) (cb coff cc:Nat) (C:List Int) (W:RW) (D:Array Value) (av sv:Value) (s:RT) (n:Int) (w:World) (h:RM w base B co cb coff cc C W D av sv s) :
 Calls Tryz.prog 145 #[.pointer (some ⟨B,0,none⟩),J Z n] w fun e w'=>e=.returned (.tuple #[])/\RM w' base B co cb coff cc C W D av sv ⟨s.r,s.sv,s.ttl,nar n s.sc⟩/\RQ B w w':=by
 have H:Hid _:=h
 have c74:=h.c74
 have z74:=h.fz 74
 clear h
 by_cases hn:s.sc<n
 ·have HE:Hid (nar n s.sc=n):=by show _=_;unfold nar;rw [if_pos hn]
  go_enter Tryz.func145,Tryz.ntmps145
  go_wp2_with fail
  go_end0
  exact ⟨rfl,by rw [HE.out];exact H.out.scS n,(RQ.refl _ _).setCell _ _⟩
 ·have HE:Hid (nar n s.sc=s.sc):=by show _=_;unfold nar;rw [if_neg hn]
  have hn':n<=s.sc:=by omega
  clear hn
  go_enter Tryz.func145,Tryz.ntmps145
  go_wp2_with fail
  go_end0
  exact ⟨rfl,by rw [HE.out];exact H.out,RQ.refl _ _⟩
theorem Qv (base B:Nat) (co:Option Addr) (cb coff cc:Nat) (C:List Int) (W:RW) (D:Array Value) (av sv:Value) (s:RT) (w:World) (hp:s.r.p<=900000000000000000) (h:RM w base B co cb coff cc C W D av sv s) :
 Calls Tryz.prog 111 #[.pointer (some ⟨B,0,none⟩)] w fun e w'=>e=.returned (.tuple #[])/\RM w' base B co cb coff cc C W D av sv (yy C s)/\RQ B w w':=by
 have H:Hid _:=h
 clear h
 go_enter Tryz.func111,Tryz.ntmps111
 go_wp2_with fail
 refine (yH base B co cb coff cc C W D av sv s 3 1 86400 3 _ rfl (by decide) hp H.out).mono ?_
 rintro e w1 ⟨rfl,hm,hv⟩
 have HM:Hid _:=hm
 have HV:Hid _:=hv
 have c73:=hm.c73
 have z73:=hm.fz 73
 simp only at c73
 clear hm hv
 by_cases hn:rdN C s.r 3<s.ttl
 ·have HE:Hid (yy C s=⟨num C s.r 3 1 86400,s.sv,rdN C s.r 3,s.sc⟩):=by show _=_;unfold yy;rw [if_pos hn]
  generalize rdN C s.r 3=n at *
  go_wp2_with fail
  go_end0
  exact ⟨rfl,by rw [HE.out];exact HM.out.ttlS n,HV.out.setCell _ _⟩
 ·have HE:Hid (yy C s=⟨num C s.r 3 1 86400,s.sv,s.ttl,s.sc⟩):=by show _=_;unfold yy;rw [if_neg hn]
  have hn':s.ttl<=rdN C s.r 3:=by omega
  clear hn
  generalize rdN C s.r 3=n at *
  go_wp2_with fail
  go_end0
  exact ⟨rfl,by rw [HE.out];exact HM.out,HV.out⟩
end
theorem Qp (C:List Int) (r:RD):∀ i,r.p<=(svR C r i).p/\(svR C r i).p<=r.p+i:=by
 intro i
 induction i with
 | zero=>simp [svR]
 | succ i ih=>have:=Za C (svR C r i) 1 0 63;simp only [svR];omega
theorem zce (C:List Int) (r:RD):∀ i,(svL C r i).length=i:=by
 intro i
 induction i with
 | zero=>rfl
 | succ i ih=>simp [svL,ih]
theorem Xa {C:List Int} (h:∀ x∈C,0<=x/\x<256) (r:RD):rdN C r 1=(cnN C r:Int)/\cnN C r<=255:=by
 have h1:=XI h r 1
 have h2:yI 1=256:=by decide
 rw [h2] at h1
 unfold cnN
 omega
theorem RQ.owns {B:Nat} {w w':World} (h:RQ B w w') {base e size:Nat} {v:Value} {n:Nat} {xs:List Value} (ho:w.ownsRow base e size v n xs) (hne:v.ownBlock≠some B):w'.ownsRow base e size v n xs:=zh ho (fun g hg=>h.kept g (ho.lt g hg).2 (fun e=>hne (by rw [<- e];exact hg)))
theorem Qt (base B:Nat) (co:Option Addr) (cb coff cc:Nat) (C:List Int) (W:RW) (D:Array Value) (av sv:Value) (s:RT) (w:World) (hp:s.r.p<=900000000000000000-1000) (hl:s.sv.length<=100000) (h:RM w base B co cb coff cc C W D av sv s) :
 Calls Tryz.prog 106 #[.pointer (some ⟨B,0,none⟩)] w fun e w'=>e=.returned (.tuple #[])/\(∃ sv',RM w' base B co cb coff cc C W D av sv' (Zn C s))/\Below base w w':=by
 obtain ⟨i0,hi0,hz0,hz1,hz2⟩:=info_parts Tryz.infoInt
 have H:Hid _:=h
 have HBT:Hid (∀ x∈C,0<=x/\x<256):=h.code.byt
 have HBS:Hid _:=h.bs
 have HHB:Hid (base<=B):=h.hB
 clear h
 go_enter Tryz.func106,Tryz.ntmps106
 go_wp2_with fail
 refine (Ya base B co cb coff cc C W D av sv s _ (by omega) H.out).mono ?_
 rintro e w1 ⟨rfl,hm,hv⟩
 have HM1:Hid _:=hm
 have HB1:Hid (Below base w w1):=hv.below HHB.out HBS.out
 clear hm hv
 obtain ⟨hcn,hc255⟩:=Xa HBT.out s.r
 rw [hcn]
 have hcp:=Za C s.r 1 1 16
 have HST:Hid (Zn C s=⟨svR C (cnR C s.r) (cnN C s.r),s.sv++svL C (cnR C s.r) (cnN C s.r),s.ttl,s.sc⟩):=rfl
 have hcp2:(cnR C s.r).p<=s.r.p+1:=hcp.2
 generalize cnN C s.r=n at *
 generalize cnR C s.r=r at *
 clear hcn hcp
 go_wp2_with fail
 go_loopg [3] n (fun q y wr=>∃ (i:Nat) (sv':Value),q+i=n/\y=J Z i/\RM wr base B co cb coff cc C W D av sv' ⟨svR C r i,s.sv++svL C r i,s.ttl,s.sc⟩/\Below base w wr)
 case atStart=>exact ⟨0,sv,by omega,rfl,by simpa [svR,svL] using HM1.out,HB1.out⟩
 case round =>
  obtain ⟨i,sv',hq,rfl,hm,hb⟩:=hrel
  have HM:Hid _:=hm
  have HB:Hid _:=hb
  clear hm hb
  have hpi:=Qp C r i
  by_cases hlt:i<n
  ·have hlt':(i:Int)<(n:Int):=by omega
   go_wp2_with fail
   refine (YZ base B co cb coff cc C W D av sv' _ _ (by simp only;omega) HM.out).mono ?_
   rintro e w2 ⟨rfl,hm2,hv2⟩
   have HM2:Hid _:=hm2
   have HB2:Hid (Below base w w2):=HB.out.trans (hv2.below HHB.out HM.out.bs)
   have c72:=hm2.c72
   have HL:Hid (s.sv++svL C r (i+1)=(s.sv++svL C r i)++[rdN C (svR C r i) 1]):=by show _=_;simp [svL]
   have hbs2:base<=w2.heap.size:=hm2.bs
   have hll:(s.sv++svL C r i).length<=200000:=by rw [List.length_append,zce];omega
   clear hm2 hv2
   simp only
   generalize rdN C (svR C r i) 1=x at *
   generalize s.sv++svL C r i=L at *
   have hA1:Hid (L.length+1<=maxLen):=by show _<=_;unfold maxLen;omega
   have hA2:Hid ((L.length+1)*8<=140737488355328):=by show _<=_;omega
   have hA3:Hid (base<=(w2.alloc (.cells #[J Z x] 3)).heap.size):=by show _<=_;simp;omega
   have hone:Hid (∀ u∈[J Z x],u.oneCell'=true):=fun u hu=>by simp at hu;subst hu;rfl
   go_wp2_with (at_builtin;refine wpList_append_lies _ rfl _ _ 25 rfl base 3 i0 _ 1 8 Tryz.underlying25 hi0 hz0 hz1 hz2 rfl (by decide) sv' _ _ rfl (HM2.out.row.alloc _) ⟨w2.heap.size,0,none⟩ 1 1 [J Z x] rfl rfl (World.news_of_block (cs:=#[J Z x]) (t:=3) (fr:=(0,0)) (heap_alloc_new w2 _)) hone.out (Nat.lt_succ_self 0) hA1.out hA2.out hA3.out (w2.heap.size+1) (by simp) ?_;intro g cap w4 hown hgrow hat hlt4;have zz:w4.frozen? ⟨B,72,none⟩=false:=(hgrow.frozen_far ⟨B,72,none⟩ (by have:=HM2.out.lt;simp;omega) (fun e=>HM2.out.ne e.symm)).trans ((HM2.out.alloc _).fz 72);have ccx:w4.cell? ⟨B,72,none⟩=some sv':=(hgrow.cell_far ⟨B,72,none⟩ (by have:=HM2.out.lt;simp;omega) (fun e=>HM2.out.ne e.symm)).trans (HM2.out.alloc _).c72)
   have HM4:=(HM2.out.alloc (.cells #[J Z x] 3)).push (ys:=[x]) (n:=L.length+1) (by simp) hgrow (by simpa using hown)
   have HB4:=(HM2.out.alloc (.cells #[J Z x] 3)).pushB (u:=O (some ⟨g,0,none⟩) (L.length+1) cap) (HB2.out.alloc hbs2 _) hgrow
   simp only at HM4
   rw [<- HL.out] at HM4
   clear hown hgrow hat
   go_roundg (gk-1)
   case measure=>omega
   case rel=>exact ⟨i+1,_,by omega,by go_num,HM4,HB4⟩
  ·have hin:i=n:=by omega
   subst hin
   have hlt':¬ (i:Int)<(i:Int):=by omega
   go_wp2_with fail
   go_end0
   exact ⟨rfl,⟨sv',by rw [HST.out];exact HM.out⟩,HB.out⟩
theorem zaj (base B:Nat) (co:Option Addr) (cb coff cc:Nat) (C:List Int) (W:RW) (D:Array Value) (av sv:Value) (s:RT) (w:World) (hp:s.r.p<=900000000000000000-1000) (hl:s.sv.length<=100000) (h:RM w base B co cb coff cc C W D av sv s) :
 Calls Tryz.prog 108 #[.pointer (some ⟨B,0,none⟩)] w fun e w'=>e=.returned (.bool (yG W C s).2)/\(∃ sv',RM w' base B co cb coff cc C W D av sv' (yG W C s).1)/\Below base w w':=by
 obtain ⟨i0,hi0,hz0,hz1,hz2⟩:=info_parts Tryz.infoInt
 have H:Hid _:=h
 have HBT:Hid (∀ x∈C,0<=x/\x<256):=h.code.byt
 have HBS:Hid _:=h.bs
 have HHB:Hid (base<=B):=h.hB
 clear h
 go_enter Tryz.func108,Tryz.ntmps108
 go_wp2_with fail
 refine (Ya base B co cb coff cc C W D av sv s _ (by omega) H.out).mono ?_
 rintro e w1 ⟨rfl,hm,hv⟩
 have HM1:Hid _:=hm
 have HB1:Hid (Below base w w1):=hv.below HHB.out HBS.out
 clear hm hv
 obtain ⟨hcn,hc255⟩:=Xa HBT.out s.r
 rw [hcn]
 have hcp:=Za C s.r 1 1 16
 have HST:Hid (yG W C s=match chG W C (cnR C s.r) 0 (cnN C s.r) with
  | some i=>(⟨svR C (cnR C s.r) (i+1),s.sv++[rdN C (svR C (cnR C s.r) i) 1],s.ttl,s.sc⟩,true)
  | none=>(⟨svR C (cnR C s.r) (cnN C s.r),s.sv,s.ttl,s.sc⟩,false)):=rfl
 have hcp2:(cnR C s.r).p<=s.r.p+1:=hcp.2
 generalize cnN C s.r=n at *
 generalize cnR C s.r=r at *
 clear hcn hcp
 go_wp2_with fail
 go_loopg [4] n (fun q y wr=>∃ i:Nat,q+i=n/\y=J Z i/\Hid (chG W C r 0 n=chG W C r i q)/\RM wr base B co cb coff cc C W D av sv ⟨svR C r i,s.sv,s.ttl,s.sc⟩/\Below base w wr)
 case atStart=>exact ⟨0,by omega,rfl,rfl,HM1.out,HB1.out⟩
 case round =>
  obtain ⟨i,hq,rfl,HC,hm,hb⟩:=hrel
  have HM:Hid _:=hm
  have HB:Hid _:=hb
  clear hm hb
  have hpi:=Qp C r i
  by_cases hlt:i<n
  ·have hlt':(i:Int)<(n:Int):=by omega
   obtain ⟨q',rfl⟩:∃ q',gk=q'+1:=⟨gk-1,by omega⟩
   go_wp2_with fail
   refine (YZ base B co cb coff cc C W D av sv _ _ (by simp only;omega) HM.out).mono ?_
   rintro e w2 ⟨rfl,hm2,hv2⟩
   have HM2:Hid _:=hm2
   have HB2:Hid (Below base w w2):=HB.out.trans (hv2.below HHB.out HM.out.bs)
   clear hm2 hv2
   simp only
   go_wp2_with fail
   refine (QN base B co cb coff cc C W D av sv _ _ _ HM2.out).mono ?_
   rintro e w' ⟨rfl,hw'⟩
   subst w'
   have c72:=HM2.out.c72
   have hbs2:base<=w2.heap.size:=HM2.out.bs
   cases hu:upW W (rdN C (svR C r i) 1) with
   | true =>
    have HE:Hid (yG W C s=(⟨svR C r (i+1),s.sv++[rdN C (svR C r i) 1],s.ttl,s.sc⟩,true)):=by show _=_;rw [HST.out,HC.out];simp only [chG];rw [if_pos hu]
    clear hu
    generalize rdN C (svR C r i) 1=x at *
    have hA1:Hid (s.sv.length+1<=maxLen):=by show _<=_;unfold maxLen;omega
    have hA2:Hid ((s.sv.length+1)*8<=140737488355328):=by show _<=_;omega
    have hA3:Hid (base<=(w2.alloc (.cells #[J Z x] 3)).heap.size):=by show _<=_;simp;omega
    have hone:Hid (∀ u∈[J Z x],u.oneCell'=true):=fun u hu=>by simp at hu;subst hu;rfl
    go_wp2_with (at_builtin;refine wpList_append_lies _ rfl _ _ 25 rfl base 3 i0 _ 1 8 Tryz.underlying25 hi0 hz0 hz1 hz2 rfl (by decide) sv _ _ rfl (HM2.out.row.alloc _) ⟨w2.heap.size,0,none⟩ 1 1 [J Z x] rfl rfl (World.news_of_block (cs:=#[J Z x]) (t:=3) (fr:=(0,0)) (heap_alloc_new w2 _)) hone.out (Nat.lt_succ_self 0) hA1.out hA2.out hA3.out (w2.heap.size+1) (by simp) ?_;intro g cap w4 hown hgrow hat hlt4;have zz:w4.frozen? ⟨B,72,none⟩=false:=(hgrow.frozen_far ⟨B,72,none⟩ (by have:=HM2.out.lt;simp;omega) (fun e=>HM2.out.ne e.symm)).trans ((HM2.out.alloc _).fz 72);have ccx:w4.cell? ⟨B,72,none⟩=some sv:=(hgrow.cell_far ⟨B,72,none⟩ (by have:=HM2.out.lt;simp;omega) (fun e=>HM2.out.ne e.symm)).trans (HM2.out.alloc _).c72)
    have HM4:=(HM2.out.alloc (.cells #[J Z x] 3)).push (ys:=[x]) (n:=s.sv.length+1) (by simp) hgrow (by simpa using hown)
    have HB4:=(HM2.out.alloc (.cells #[J Z x] 3)).pushB (u:=O (some ⟨g,0,none⟩) (s.sv.length+1) cap) (HB2.out.alloc hbs2 _) hgrow
    clear hown hgrow hat
    go_ret
    exact ⟨by rw [HE.out];rfl,⟨_,by rw [HE.out];exact HM4⟩,HB4⟩
   | false =>
    have HC2:Hid (chG W C r 0 n=chG W C r (i+1) q'):=by show _=_;rw [HC.out];simp only [chG];rw [if_neg (by rw [hu];decide)]
    clear hu
    go_wp2_with fail
    go_roundg q'
    case measure=>omega
    case rel=>exact ⟨i+1,by omega,by go_num,HC2,HM2.out,HB2.out⟩
  ·have hin:i=n:=by omega
   subst hin
   have hg0:gk=0:=by omega
   subst hg0
   have hlt':¬ (i:Int)<(i:Int):=by omega
   have HE:Hid (yG W C s=(⟨svR C r i,s.sv,s.ttl,s.sc⟩,false)):=by show _=_;rw [HST.out,HC.out];rfl
   go_wp2_with fail
   go_ret
   exact ⟨by rw [HE.out];rfl,⟨sv,by rw [HE.out];exact HM.out⟩,HB.out⟩
theorem zc8 (C:List Int) (r:RD):∀ i,r.p<=(rgR C r i).p/\(rgR C r i).p<=r.p+3*i:=by
 intro i
 induction i with
 | zero=>simp [rgR]
 | succ i ih=>have h1:=Za C (rgR C r i) 1 0 99;have h2:=Za C (num C (rgR C r i) 1 0 99) 2 0 32000;simp only [rgR];omega
theorem xw {C:List Int} (h:∀ x∈C,0<=x/\x<256) (r:RD):0<=rdN C r 2/\rdN C r 2<=65535:=by
 have h1:=XI h r 2
 have h2:yI 2=65536:=by decide
 rw [h2] at h1
 omega
theorem zaU {W:RW} {C:List Int} (h:∀ x∈C,0<=x/\x<256) (r:RD):∀ i,0<=rgT W C r i/\rgT W C r i<=65535:=by
 intro i
 induction i with
 | zero=>simp [rgT]
 | succ i ih =>
  simp only [rgT]
  split
  ·exact xw h _
  ·exact ih
theorem Qx (base B:Nat) (co:Option Addr) (cb coff cc:Nat) (C:List Int) (W:RW) (D:Array Value) (av sv:Value) (s:RT) (w:World) (hp:s.r.p<=900000000000000000-10000) (h:RM w base B co cb coff cc C W D av sv s) :
 Calls Tryz.prog 110 #[.pointer (some ⟨B,0,none⟩)] w fun e w'=>e=.returned (.tuple #[])/\RM w' base B co cb coff cc C W D av sv (yY W C s)/\Below base w w':=by
 have H:Hid _:=h
 have HBT:Hid (∀ x∈C,0<=x/\x<256):=h.code.byt
 have HBS:Hid _:=h.bs
 have HHB:Hid (base<=B):=h.hB
 clear h
 go_enter Tryz.func110,Tryz.ntmps110
 go_wp2_with fail
 refine (Ya base B co cb coff cc C W D av sv s _ (by omega) H.out).mono ?_
 rintro e w1 ⟨rfl,hm,hv⟩
 have HM1:Hid _:=hm
 have HB1:Hid (Below base w w1):=hv.below HHB.out HBS.out
 clear hm hv
 obtain ⟨hcn,hc255⟩:=Xa HBT.out s.r
 rw [hcn]
 have hcp:=Za C s.r 1 1 16
 have HST:Hid (yY W C s=⟨⟨(rgR C (cnR C s.r) (cnN C s.r)).p+(rgT W C (cnR C s.r) (cnN C s.r)).toNat,(rgR C (cnR C s.r) (cnN C s.r)).b⟩,s.sv,s.ttl,nar W.dep s.sc⟩):=rfl
 have hcp2:(cnR C s.r).p<=s.r.p+1:=hcp.2
 generalize cnN C s.r=n at *
 generalize cnR C s.r=r at *
 clear hcn hcp
 go_wp2_with fail
 go_loopg [3,4] n (fun q t y wr=>∃ i:Nat,q+i=n/\t=J Z (rgT W C r i)/\y=J Z i/\RM wr base B co cb coff cc C W D av sv ⟨rgR C r i,s.sv,s.ttl,s.sc⟩/\Below base w wr)
 case atStart=>exact ⟨0,by omega,rfl,rfl,HM1.out,HB1.out⟩
 case round =>
  obtain ⟨i,hq,rfl,rfl,hm,hb⟩:=hrel
  have HM:Hid _:=hm
  have HB:Hid _:=hb
  clear hm hb
  have hpi:=zc8 C r i
  by_cases hlt:i<n
  ·have hlt':(i:Int)<(n:Int):=by omega
   have hnp:=Za C (rgR C r i) 1 0 99
   go_wp2_with fail
   refine (yH base B co cb coff cc C W D av sv _ 1 0 99 1 _ rfl (by decide) (by simp only;omega) HM.out).mono ?_
   rintro e w2 ⟨rfl,hm2,hv2⟩
   have HM2:Hid _:=hm2
   have HB2:Hid (Below base w w2):=HB.out.trans (hv2.below HHB.out HM.out.bs)
   clear hm2 hv2
   simp only
   go_wp2_with fail
   refine (qH base B co cb coff cc C W D av sv _ _ (by simp only;omega) HM2.out).mono ?_
   rintro e w3 ⟨rfl,hm3,hv3⟩
   have HM3:Hid _:=hm3
   have HB3:Hid (Below base w w3):=HB2.out.trans (hv3.below HHB.out HM2.out.bs)
   have c70:=hm3.c70
   clear hm3 hv3
   simp only
   have HT:Hid (rgT W C r (i+1)=if rdN C (rgR C r i) 1=W.reg then rdN C (num C (rgR C r i) 1 0 99) 2 else rgT W C r i):=rfl
   generalize rdN C (rgR C r i) 1=x at *
   generalize rdN C (num C (rgR C r i) 1 0 99) 2=y at *
   cases hx:(x==W.reg) with
   | true =>
    have HT2:Hid (rgT W C r (i+1)=y):=by show _=_;rw [HT.out,if_pos (by simpa using hx)]
    go_wp2_with fail
    go_roundg (gk-1)
    case measure=>omega
    case rel=>exact ⟨i+1,by omega,by rw [HT2.out],by go_num,HM3.out,HB3.out⟩
   | false =>
    have HT2:Hid (rgT W C r (i+1)=rgT W C r i):=by show _=_;rw [HT.out,if_neg (by simpa using hx)]
    go_wp2_with fail
    go_roundg (gk-1)
    case measure=>omega
    case rel=>exact ⟨i+1,by omega,by rw [HT2.out],by go_num,HM3.out,HB3.out⟩
  ·have hin:i=n:=by omega
   subst hin
   have hlt':¬ (i:Int)<(i:Int):=by omega
   have hTb:=zaU (W:=W) HBT.out r i
   have c71:=HM.out.c71
   generalize hT:rgT W C r i=t at *
   have HT:Hid _:=hT
   clear hT
   go_wp2_with fail
   refine (XQ base B co cb coff cc C W D av sv _ _ _ HM.out).mono ?_
   rintro e w2 ⟨rfl,hm2,hv2⟩
   have HM2:Hid _:=hm2
   have HB2:Hid (Below base w w2):=HB.out.trans (hv2.below HHB.out HM.out.bs)
   have c1:=hm2.c1
   have z1:=hm2.fz 1
   simp only at c1
   clear hm2 hv2
   have HE:Hid (yY W C s=⟨⟨(rgR C r i).p+t.toNat,(rgR C r i).b⟩,s.sv,s.ttl,nar W.dep s.sc⟩):=by show _=_;rw [HST.out]
   generalize rgR C r i=p at *
   go_wp2_with fail
   go_end0
   exact ⟨rfl,by rw [HE.out];exact HM2.out.at (p.p+t.toNat) ((p.p:Int)+t) (by omega),HB2.out.setCell HHB.out _⟩
end Go.Proofs.YtaebngpoagjafabGreat
