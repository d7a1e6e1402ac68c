import Derived.Test.YtaebngpoagjafaaGreatR41
import Derived.Test.YtaebngpoagjafaaGreatR21
import Derived.Test.YtaebngpoagjafaaGreatR43
import Derived.Test.YtaebngpoagjafaaGreatR10
import Derived.Test.YtaebngpoagjafaaGreatR17
import Derived.Test.YtaebngpoagjafaaGreatR18
import Derived.Test.YtaebngpoagjafaaGreatR42
import Derived.Deep.DeepCutAuto
import Derived.Deep.RegionHeld3
set_option maxRecDepth 100000
set_option maxHeartbeats 1600000
namespace Go.Proofs.YtaebngpoagjafaaGreat
open Obj renaming cells → X
open Value renaming int → J, slice → O
open IntKind renaming i64 → Z
open Go.RowKit
attribute [local go_sem ↓] Go.wp_at_zero Go.wp_at_succ
def ZY (B0:Nat) (w:World) (m:MN) (r:Ending) (w':World):Prop:=Below w.heap.size w w'/\∃ o k g f,r=.returned (.agg #[O o m.sv.length k,J Z m.ttl,J Z m.sc])/\IS w' o g f m.sv.length (fun i=>(m.sv[i]?).getD 0)/\(0<m.sv.length->g<B0\/w.heap.size<=g)
theorem zaL {w:World} {base e size:Nat} {v:Value} {n:Nat} {xs:List Value} (h:w.ownsRow base e size v n xs):∃ o k,v=O o n k:=by
 rcases h.2 with ⟨h0,h1⟩ | ⟨g',cap',cur,h0,_⟩
 ·exact ⟨none,0,by rw [h0,h1]⟩
 ·exact ⟨_,_,h0⟩
theorem zaf (o:Option Addr) (n k:Nat) (w:World):(Instr.build 35 #[(0,O o n k),(1,J Z 86400)]).run Tryz.prog w=.ok (.agg #[O o n k,J Z 86400,J Z 0]) w:=run_build w 35 _ _ (by kernel_rfl)
theorem yJ {B0:Nat} {w w3:World} {tm:Array Value} {m:MN} {o:Option Addr} {k g f:Nat} (hB:Below w.heap.size w w3) (hR:w3.heap[w.heap.size+1]?=some (X #[O none 0 0,J Z 0,J Z 0] 35 (0,0))) (hI:IS w3 o g f m.sv.length (fun i=>(m.sv[i]?).getD 0)) (hB0:B0<=w.heap.size) (hg:0<m.sv.length->g<B0\/w.heap.size+2<=g) (ht:tm.getD 6 undef=.pointer (some ⟨w.heap.size+1,0,none⟩)) :
 bodyPost Tryz.prog Tryz.f128 (ZY B0 w m) .ret ⟨tm,[]⟩ (((w3.setCell ⟨w.heap.size+1,0,none⟩ (O o m.sv.length k)).setCell ⟨w.heap.size+1,1,none⟩ (J Z m.ttl)).setCell ⟨w.heap.size+1,2,none⟩ (J Z m.sc)):=by
 have HBE:=yG (x':=O o m.sv.length k) (y':=J Z m.ttl) (z':=J Z m.sc) hR
 refine bodyPost_ret (v:=.agg #[O o m.sv.length k,J Z m.ttl,J Z m.sc]) (YG Tryz.results128 _ _ _ ⟨w.heap.size+1,0,none⟩ _ ht (run_loadVar_row _ _ _ _ _ _ _ HBE Tryz.underlying35 rfl (by kernel_rfl))) rfl ⟨((hB.setCell (by simp only;omega) _).setCell (by simp only;omega) _).setCell (by simp only;omega) _,o,k,g,f,rfl,?_,fun h=>by have:=hg h;omega⟩
 refine ⟨hI.at_,fun h=>by have:=hI.lt h;simpa using this,fun i hi=>?_⟩
 have hgn:g≠w.heap.size+1:=by have:=hg (by omega);omega
 rw [World.cell?_of_block (w:=w3) (by rw [za hgn,za hgn,za hgn])]
 exact hI.val i hi
theorem Q1 (B0:Nat) (P:Value) (t:ByteArray) (x:WD) (V:Nat->Int) (w:World) (hB0:B0<=w.heap.size) (hs:t.size<=2000) (h:T.ch t 0=123) (h2:2<=t.size) (hi:∀ i y,(spl (t.extract 1 (t.size-1)) 44)[i]?=some y->T.digs y/\y.size<=9/\T.val y y.size=V i) :
 Calls Tryz.prog 128 #[P,.string t,x.val] w (ZY B0 w ⟨knK V (spl (t.extract 1 (t.size-1)) 44).length,86400,0⟩):=by
 obtain ⟨h0,hc⟩:=Zm h (by decide)
 have h0':(2:Int)<=(t.size:Int):=by omega
 have h1':(t.size:Int)<=2000:=by omega
 have hsz:(t.extract 1 (t.size-1)).size<=2000:=by rw [yb t _ _ (by omega)];omega
 have hln:(spl (t.extract 1 (t.size-1)) 44).length<=2001:=by
  have:=(XJ (t.extract 1 (t.size-1)) 44 (t.extract 1 (t.size-1)).size).2.1
  simp only [spl,List.length_append,List.length_cons,List.length_nil];omega
 have HI0:Hid _:=hi
 clear hi
 unfold WD.val
 have HB0:Hid (Below w.heap.size w ((w.alloc (X #[J Z x.a,J Z x.b,J Z x.d,O x.do_ x.dl x.dc,O x.ao x.al.length x.ac,O x.po x.pl x.pcp] 30)).alloc (X #[O none 0 0,J Z 0,J Z 0] 35))):=((Below.refl _ _).alloc (Nat.le_refl _) _).alloc (by simp) _
 have HR0:Hid (((w.alloc (X #[J Z x.a,J Z x.b,J Z x.d,O x.do_ x.dl x.dc,O x.ao x.al.length x.ac,O x.po x.pl x.pcp] 30)).alloc (X #[O none 0 0,J Z 0,J Z 0] 35)).heap[w.heap.size+1]?=some (X #[O none 0 0,J Z 0,J Z 0] 35 (0,0))):=zt _ (by simp)
 go_enter Tryz.func128,Tryz.ntmps128
 go_wp2_with fail
 refine (yU _ 44 _ hsz).mono ?_
 rintro e w1 ⟨hb,v,rfl,hrow⟩
 have HB1:Hid _:=HB0.out.trans (hb.mono HB0.out.size)
 have HR1:Hid _:=(hb.block _ (lt_of_block HR0.out)).trans HR0.out
 obtain ⟨g,cap,rfl,_,hgl⟩:=z7 hrow (Ze _ _)
 have HN:=jD g (spl (t.extract 1 (t.size-1)) 44) cap V w1 hln (fun i y hy=>⟨ye hrow hy,HI0.out i y hy⟩) hgl
 clear hb hrow
 have HLQ:Hid _:=hln
 clear hln
 generalize (spl (t.extract 1 (t.size-1)) 44).length=n at *
 go_wp2_with fail
 refine HN.mono ?_
 rintro e w2 ⟨hb2,v,rfl,hrow2⟩
 obtain ⟨o,k,rfl⟩:=zaL hrow2
 have HB2:Hid _:=HB1.out.trans (hb2.mono HB1.out.size)
 have HR2:Hid _:=(hb2.block _ (lt_of_block HR1.out)).trans HR1.out
 obtain ⟨y0,y1,y2,z0,z1,z2⟩:=ld3 HR2.out
 obtain ⟨gi,hgi⟩:=Qu hrow2
 have HIS:Hid _:=hgi
 have HGN:Hid (0<(knK V n).length->gi<B0\/w.heap.size+2<=gi):=fun h0=>.inr (by
  have h1:=(hrow2.lt gi (by rw [HIS.out.at_ h0];rfl)).1
  have h2:=lt_of_block HR1.out
  omega)
 have hbn:=fun wz=>zaf o (knK V n).length k wz
 clear hb2 hrow2 hgi HN
 go_wp2_with fail
 exact yJ (k:=k) (m:=⟨knK V n,86400,0⟩) HB2.out HR2.out HIS.out hB0 HGN.out rfl
theorem zd5 (w:World):(Instr.build 35 #[(1,J Z 86400)]).run Tryz.prog w=.ok (.agg #[O none 0 0,J Z 86400,J Z 0]) w:=run_build w 35 _ _ (by kernel_rfl)
theorem Jt (B0:Nat) (P:Value) (t:ByteArray) (x:WD) (nv:Nat) (w:World) (hs:t.size<=2000) (h:T.ch t 0=64) (hd:T.digs (t.extract 1 t.size)) (hd9:(t.extract 1 t.size).size<=9) (hv:T.val (t.extract 1 t.size) (t.extract 1 t.size).size=(nv:Int)) (hB0:B0<=w.heap.size) (has:AS w B0 x.ao x.ab x.aoff x.al) (hna:x.al.length<=9223372036854775807) :
 Calls Tryz.prog 128 #[P,.string t,x.val] w (ZY B0 w ⟨(x.al[nv]?).getD [],86400,0⟩):=by
 obtain ⟨h0,hc⟩:=Zm h (by decide)
 have h0':(1:Int)<=(t.size:Int):=by omega
 have h1':(t.size:Int)<=2000:=by omega
 have HVAL:Hid (∀ wz,Calls Tryz.prog 164 #[.string (t.extract 1 t.size)] wz fun e w'=>Below wz.heap.size wz w'/\e=.returned (J Z (nv:Int))):=fun wz=>(Zq _ wz (by omega)).mono (by rintro e w' ⟨hb,v,rfl,hvv⟩;exact ⟨hb,by rw [hvv hd hd9,hv]⟩)
 have HX:Hid _:=has
 clear hd hd9 hv has
 obtain ⟨l,HL⟩:∃ l,Hid ((x.al[nv]?).getD []=l):=⟨_,rfl⟩
 rw [HL.out]
 unfold WD.val
 have HB0:Hid (Below w.heap.size w ((w.alloc (X #[J Z x.a,J Z x.b,J Z x.d,O x.do_ x.dl x.dc,O x.ao x.al.length x.ac,O x.po x.pl x.pcp] 30)).alloc (X #[O none 0 0,J Z 0,J Z 0] 35))):=((Below.refl _ _).alloc (Nat.le_refl _) _).alloc (by simp) _
 have HW0:Hid (((w.alloc (X #[J Z x.a,J Z x.b,J Z x.d,O x.do_ x.dl x.dc,O x.ao x.al.length x.ac,O x.po x.pl x.pcp] 30)).alloc (X #[O none 0 0,J Z 0,J Z 0] 35)).heap[w.heap.size]?=some (X #[J Z x.a,J Z x.b,J Z x.d,O x.do_ x.dl x.dc,O x.ao x.al.length x.ac,O x.po x.pl x.pcp] 30 (0,0))):=by show _=_;rw [Below.heap_alloc _ _ _ (by simp)];exact heap_alloc_new w _
 have HR0:Hid (((w.alloc (X #[J Z x.a,J Z x.b,J Z x.d,O x.do_ x.dl x.dc,O x.ao x.al.length x.ac,O x.po x.pl x.pcp] 30)).alloc (X #[O none 0 0,J Z 0,J Z 0] 35)).heap[w.heap.size+1]?=some (X #[O none 0 0,J Z 0,J Z 0] 35 (0,0))):=zt _ (by simp)
 go_enter Tryz.func128,Tryz.ntmps128
 go_wp2_with fail
 refine (HVAL.out _).mono ?_
 rintro e w1 ⟨hb,rfl⟩
 have HB1:Hid _:=HB0.out.trans (hb.mono HB0.out.size)
 have HR1:Hid _:=(hb.block _ (lt_of_block HR0.out)).trans HR0.out
 obtain ⟨-,-,-,-,q4,-⟩:=ld6 HW0.out (hb.block _ (lt_of_block HW0.out))
 obtain ⟨y0,y1,y2,z0,z1,z2⟩:=ld3 HR1.out
 clear hb
 by_cases hlt:nv<x.al.length
 ·have hl:x.al[nv]?=some l:=by rw [<- HL.out,List.getElem?_eq_getElem hlt];rfl
  obtain ⟨lo,lc,hcell,hval⟩:=HX.out.val nv l hl
  have hlt':(nv:Int)<(x.al.length:Int):=by omega
  have hge:¬ (x.al.length:Int)<=(nv:Int):=by omega
  have hao:=HX.out.at_ (by omega)
  have hab:=HX.out.lt (by omega)
  have hc1:w1.cell? ⟨x.ab,x.aoff+nv,none⟩=some (O lo l.length lc):=(HB1.out.cell (p:=⟨x.ab,x.aoff+nv,none⟩) (by simp only;omega)).trans hcell
  rw [hao] at q4
  have hbn:=fun wz=>zaf lo l.length lc wz
  obtain ⟨gb,gf,HIS,HGN⟩:∃ gb gf,Hid (IS w1 lo gb gf l.length (fun i=>(l[i]?).getD 0))/\Hid (0<l.length->gb<B0\/w.heap.size+2<=gb):=by
   rcases Nat.eq_zero_or_pos l.length with h0 | h0
   ·exact ⟨0,0,⟨fun h=>by omega,fun h=>by omega,fun i hi=>by omega⟩,fun h=>by omega⟩
   ·obtain ⟨gb,gf,e1,e2,e3⟩:=hval h0
    refine ⟨gb,gf,⟨fun _=>e1,fun _=>by have:=HB1.out.size;omega,fun i hi=>?_⟩,fun _=>.inl e2⟩
    obtain ⟨y,hy⟩:∃ y,l[i]?=some y:=⟨_,List.getElem?_eq_getElem hi⟩
    rw [HB1.out.cell (p:=⟨gb,gf+i,none⟩) (by simp only;omega),e3 i y hy,hy];rfl
  clear hval hcell hl
  go_wp2_with fail
  exact yJ (k:=lc) (m:=⟨l,86400,0⟩) HB1.out HR1.out HIS.out hB0 HGN.out rfl
 ·have hge:(x.al.length:Int)<=(nv:Int):=by omega
  obtain rfl:l=[]:=by rw [<- HL.out,List.getElem?_eq_none (by omega)];rfl
  have hbn:=fun wz=>zd5 wz
  go_wp2_with fail
  exact yJ (o:=none) (k:=0) (g:=0) (f:=0) (m:=⟨[],86400,0⟩) HB1.out HR1.out ⟨fun h=>by simp at h,fun h=>by simp at h,fun i hi=>by simp at hi⟩ hB0 (fun h=>by simp at h) rfl
def zei (w:World) (io:Nat) (L:List ByteArray) (A:Nat->ByteArray):Prop:=∀ i x,L[i]?=some x->w.cell? ⟨io,i,none⟩=some (.string x)/\(spl x 58)[0]?=some (A i)/\(A i).size+1<=x.size/\x.size<=2000
def j4 (L:List ByteArray) (A:Nat->ByteArray) (k:Int) (other:ByteArray):ByteArray:=if k<0 then other else match L[k.toNat]? with | some x=>x.extract ((A k.toNat).size+1) x.size | none=>other
def bpV (A:Nat->ByteArray) (i:Nat):Int:=pfV (A i) 32
def bpL (A:Nat->ByteArray) (i:Nat):Int:=((A i).size:Int)
theorem je (a b d:Int) (o:Option Addr) (n c:Nat) (ao po:Option Addr) (al ac pl pcp:Nat) (io:Nat) (L:List ByteArray) (ic:Nat) (A:Nat->ByteArray) (other:ByteArray) (w:World) (hA:M.isA a=true) (b0:0<=b) (b1:b<=32) (hL:L.length<=64) (hi:zei w io L A) (hio:io<w.heap.size) (hp:∀ i,i<L.length->M.isP (bpV A i) (bpL A i)=true) :
 Calls Tryz.prog 168 #[.agg #[J Z a,J Z b,J Z d,O o n c,O ao al ac,O po pl pcp],O (some ⟨io,0,none⟩) L.length ic,.string other] w fun e w'=>Below w.heap.size w w'/\e=.returned (.tuple #[.string (j4 L A (M.bestTo (bpV A) (bpL A) (zV a b) L.length) other),J Z (M.depTo (bpV A) (bpL A) (zV a b) L.length)]):=by
 obtain ⟨i0,hi0,hz0,hz1,hz2⟩:=info_parts Tryz.infoPrefix
 obtain ⟨m,hm⟩:∃ m,L.length=m:=⟨_,rfl⟩
 have HM:Hid _:=hm
 rw [hm] at hL hp ⊢
 clear hm
 have HP:Hid _:=hp
 have HI0:Hid _:=hi
 obtain ⟨a0,a1⟩:=M.isA_iff.1 hA
 obtain ⟨k0,k1⟩:=qj (n:=b) a0 a1
 have hAc:M.isA (zV a b)=true:=M.isA_iff.2 ⟨k0,k1⟩
 have HCUT:Hid (∀ wz,Calls Tryz.prog 180 #[J Z a,J Z b] wz fun e w'=>e=.returned (J Z (zV a b))/\w'=wz):=fun wz=>ZM a b wz a0 a1 b0 b1
 clear hi hp
 have HB0:Hid (Below w.heap.size w (w.alloc (X #[J Z a,J Z b,J Z d,O o n c,O ao al ac,O po pl pcp] 30))):=(Below.refl _ _).alloc (Nat.le_refl _) _
 have HX0:Hid ((w.alloc (X #[J Z a,J Z b,J Z d,O o n c,O ao al ac,O po pl pcp] 30)).heap[w.heap.size]?=some (X #[J Z a,J Z b,J Z d,O o n c,O ao al ac,O po pl pcp] 30 (0,0))):=heap_alloc_new w _
 go_enter Tryz.func168,Tryz.ntmps168
 go_wp2_with fail
 have HS:Hid ((w.alloc (X #[J Z a,J Z b,J Z d,O o n c,O ao al ac,O po pl pcp] 30)).heap.size=w.heap.size+1):=by show _=_;simp
 generalize w.alloc (X #[J Z a,J Z b,J Z d,O o n c,O ao al ac,O po pl pcp] 30)=w1 at *
 go_loopg [8,9] m (fun q v x wr=>∃ j:Nat,q+j=m/\x=J Z j/\Hid (wr.ownsRow w1.heap.size 99 2 v j (pc (bpV A) (bpL A) j))/\Hid (Below w1.heap.size w1 wr))
 case atStart=>exact ⟨0,by omega,rfl,World.ownsRow_nil _ _ _ _,Below.refl _ _⟩
 case round =>
  obtain ⟨j,hj,rfl,HO,HB⟩:=hrel
  by_cases hlt:j<m
  ·have hlt':(j:Int)<(m:Int):=by omega
   obtain ⟨x,hx⟩:∃ x,L[j]?=some x:=⟨L[j]'(by rw [HM.out];exact hlt),List.getElem?_eq_getElem _⟩
   obtain ⟨c1,c2,c3,c4⟩:=HI0.out j x hx
   have hv:wr.cell? ⟨io,j,none⟩=some (.string x):=by
    rw [HB.out.cell (p:=⟨io,j,none⟩) (by rw [HS.out];simp only;omega),HB0.out.cell (p:=⟨io,j,none⟩) hio];exact c1
   have HARM:=fun wz=>qt x (A j) wz c4 c2 c3
   clear c1 c2 hx
   go_wp2_with fail
   refine (HARM _).mono ?_
   rintro e w2 ⟨hb2,rfl⟩
   have HB2:Hid _:=HB.out.trans (hb2.mono HB.out.size)
   have HO2:Hid (w2.ownsRow w1.heap.size 99 2 u8 j (pc (bpV A) (bpL A) j)):=zh HO.out (fun g hg=>hb2.block g (HO.out.lt g hg).2)
   have HPF:=fun wz=>QW (A j) wz (by omega)
   clear hb2 hv HARM
   go_wp2_with fail
   refine (HPF _).mono ?_
   rintro e w3 ⟨hb3,rfl⟩
   have HB3:Hid (Below w1.heap.size w1 w3):=HB2.out.trans (hb3.mono HB2.out.size)
   have HO3:Hid (w3.ownsRow w1.heap.size 99 2 u8 j (pc (bpV A) (bpL A) j)):=zh HO2.out (fun g hg=>hb3.block g (HO2.out.lt g hg).2)
   clear hb3 HPF
   have hs3:=HB3.out.size
   go_wp2_with (at_builtin;refine wpList_append_own _ rfl _ _ 103 rfl w1.heap.size 99 i0 (.agg #[J Z 0,J Z 0]) 2 16 Tryz.underlying103 hi0 hz0 hz1 hz2 rfl (by decide) _ _ _ rfl (HO3.out.alloc _) ⟨w3.heap.size,0,none⟩ 1 1 [J Z (pfV (A j) 32),J Z ((A j).size:Int)] rfl rfl (zeq _ _ _ _) (fun x hx=>by simp at hx;rcases hx with rfl | rfl<;>rfl) (by unfold maxLen;omega) (by omega) (by simp;omega) ?_;intro v' w4 hown4 hgrow4 _)
   have hx4:Hid (Below w1.heap.size w1 w4):=(HB3.out.alloc HB3.out.size _).grown hgrow4 (by simp;omega) (fun q hq=>(HO3.out.lt q hq).1)
   go_roundg (gk-1)
   case measure=>omega
   case rel=>exact ⟨j+1,by omega,by go_num,hown4,hx4⟩
  ·have hjm:j=m:=by omega
   subst hjm
   have hlt':¬ (j:Int)<(j:Int):=by omega
   obtain ⟨lo,lb,lc,rfl,_,_,hps⟩:=Z2 HO.out
   have hx1:=(HB.out.block w.heap.size (by rw [HS.out];omega)).trans HX0.out
   have r0:wr.cell? ⟨w.heap.size,0,none⟩=some (J Z a):=by simp [World.cell?,hx1]
   have r1:wr.cell? ⟨w.heap.size,1,none⟩=some (J Z b):=by simp [World.cell?,hx1]
   have HMT:=Qr lo lb j lc (bpV A) (bpL A) (zV a b) wr hAc hL hps HP.out
   have HBL:=M.best_lo (V:=bpV A) (L:=bpL A) (a:=zV a b) (n:=j)
   obtain ⟨K,HK⟩:∃ K,Hid (M.bestTo (bpV A) (bpL A) (zV a b) j=K):=⟨_,rfl⟩
   obtain ⟨dp,HD⟩:∃ dp,Hid (M.depTo (bpV A) (bpL A) (zV a b) j=dp):=⟨_,rfl⟩
   rw [HK.out,HD.out] at HMT
   rw [HK.out] at HBL
   clear hx1 hps
   go_wp2_with fail
   refine (HCUT.out _).mono ?_
   rintro e w' ⟨rfl,hw'⟩
   subst w'
   go_wp2_with fail
   refine HMT.mono ?_
   rintro e w5 ⟨rfl,q,rfl⟩
   have HB5:Hid (Below w1.heap.size w1 (wr.drewN q)):=zB HB.out q
   have HBW:Hid (Below w.heap.size w (wr.drewN q)):=HB0.out.trans (HB5.out.mono (by rw [HS.out];omega))
   clear HMT r0 r1
   by_cases hk:K<0
   ·have he:j4 L A K other=other:=by unfold j4;rw [if_pos hk]
    have HE:Hid _:=he
    clear he
    generalize wr.drewN q=w5 at *
    go_wp2_with fail
    go_ret2
    exact ⟨HBW.out,by rw [HK.out,HD.out,HE.out];rfl⟩
   ·obtain ⟨kn,rfl⟩:∃ kn:Nat,K=kn:=⟨K.toNat,by omega⟩
    have hkn:kn<j:=by omega
    obtain ⟨x,hx⟩:∃ x,L[kn]?=some x:=⟨L[kn]'(by rw [HM.out];exact hkn),List.getElem?_eq_getElem _⟩
    obtain ⟨c1,c2,c3,c4⟩:=HI0.out kn x hx
    have he:j4 L A (kn:Int) other=x.extract ((A kn).size+1) x.size:=by unfold j4;rw [if_neg hk];simp only [Int.toNat_natCast];rw [hx]
    have HE:Hid _:=he
    have hv:(wr.drewN q).cell? ⟨io,kn,none⟩=some (.string x):=by
     rw [HB5.out.cell (p:=⟨io,kn,none⟩) (by rw [HS.out];simp only;omega),HB0.out.cell (p:=⟨io,kn,none⟩) hio];exact c1
    have HARM:=fun wz=>qt x (A kn) wz c4 c2 c3
    have hk0:(0:Int)<=(kn:Int):=by omega
    have hkj:(kn:Int)<(j:Int):=by omega
    clear c1 c2 hx he HBL
    generalize wr.drewN q=w5 at *
    go_wp2_with fail
    refine (HARM _).mono ?_
    rintro e w6 ⟨hb6,rfl⟩
    have HB6:Hid _:=HBW.out.trans (hb6.mono HBW.out.size)
    clear hb6 hv HARM
    go_wp2_with fail
    go_ret2
    exact ⟨HB6.out,by rw [HK.out,HD.out,HE.out];rfl⟩
def Xi (A:Nat->ByteArray) (r:Int) (other:ByteArray):Nat->List ByteArray->ByteArray
 | _,[]=>other
 | i,x::xs=>if T.val (A i) (A i).size=r then x.extract ((A i).size+1) x.size else Xi A r other (i+1) xs
def brE (L:List ByteArray) (A:Nat->ByteArray) (R:Nat->Int) (k:Int) (other:ByteArray):ByteArray:=if k<0 then other else Xi A (R k.toNat) other 0 L
theorem jd (a b d:Int) (o:Option Addr) (n c:Nat) (ao po:Option Addr) (al ac pb poff pl pcp:Nat) (V Lp R:Nat->Int) (io:Nat) (L:List ByteArray) (ic:Nat) (A:Nat->ByteArray) (other:ByteArray) (w:World) (hA:M.isA a=true) (b0:0<=b) (b1:b<=32) (hL:L.length<=2001) (hi:zei w io L A) (hd:∀ i,i<L.length->T.digs (A i)/\(A i).size<=9) (hio:io<w.heap.size) (hts:TS w po pb poff pl V Lp R) (hpl:pl<=64) (hp:∀ i,i<pl->M.isP (V i) (Lp i)=true) :
 Calls Tryz.prog 170 #[.agg #[J Z a,J Z b,J Z d,O o n c,O ao al ac,O po pl pcp],O (some ⟨io,0,none⟩) L.length ic,.string other] w fun e w'=>Below w.heap.size w w'/\e=.returned (.tuple #[.string (brE L A R (M.bestTo V Lp (zV a b) pl) other),J Z (M.depTo V Lp (zV a b) pl)]):=by
 obtain ⟨m,hm⟩:∃ m,L.length=m:=⟨_,rfl⟩
 have HM:Hid _:=hm
 rw [hm] at hL hd ⊢
 clear hm
 have HD0:Hid _:=hd
 have HI0:Hid _:=hi
 have HT0:Hid _:=hts
 obtain ⟨a0,a1⟩:=M.isA_iff.1 hA
 obtain ⟨k0,k1⟩:=qj (n:=b) a0 a1
 have hAc:M.isA (zV a b)=true:=M.isA_iff.2 ⟨k0,k1⟩
 have HCUT:Hid (∀ wz,Calls Tryz.prog 180 #[J Z a,J Z b] wz fun e w'=>e=.returned (J Z (zV a b))/\w'=wz):=fun wz=>ZM a b wz a0 a1 b0 b1
 have HPX:Hid (∀ wz,TS wz po pb poff pl V Lp R->Calls Tryz.prog 58 #[O po pl pcp] wz fun e w'=>(∃ v,e=.returned v/\w'.ownsRow wz.heap.size 99 2 v pl (pc V Lp pl))/\Below wz.heap.size wz w'):=fun wz h=>Xk po pb poff pl pcp V Lp R wz (by omega) h
 have HBL:=M.best_lo (V:=V) (L:=Lp) (a:=zV a b) (n:=pl)
 obtain ⟨K,HK⟩:∃ K,Hid (M.bestTo V Lp (zV a b) pl=K):=⟨_,rfl⟩
 obtain ⟨dp,HD⟩:∃ dp,Hid (M.depTo V Lp (zV a b) pl=dp):=⟨_,rfl⟩
 have HMT:Hid (∀ lo lb lc wz,PS wz lo lb pl V Lp->Calls Tryz.prog 126 #[O lo pl lc,J Z (zV a b)] wz fun e w'=>e=.returned (.tuple #[J Z K,J Z dp])/\∃ m,w'=wz.drewN m):=fun lo lb lc wz h=>by
  rw [<- HK.out,<- HD.out];exact Qr lo lb pl lc V Lp (zV a b) wz hAc hpl h hp
 rw [HK.out] at HBL
 clear hi hd hts hp hA hAc k0 k1
 generalize zV a b=ca at *
 have HB0:Hid (Below w.heap.size w (w.alloc (X #[J Z a,J Z b,J Z d,O o n c,O ao al ac,O po pl pcp] 30))):=(Below.refl _ _).alloc (Nat.le_refl _) _
 have HX0:Hid ((w.alloc (X #[J Z a,J Z b,J Z d,O o n c,O ao al ac,O po pl pcp] 30)).heap[w.heap.size]?=some (X #[J Z a,J Z b,J Z d,O o n c,O ao al ac,O po pl pcp] 30 (0,0))):=heap_alloc_new w _
 have HS:Hid ((w.alloc (X #[J Z a,J Z b,J Z d,O o n c,O ao al ac,O po pl pcp] 30)).heap.size=w.heap.size+1):=by show _=_;simp
 go_enter Tryz.func170,Tryz.ntmps170
 go_upto_region 1 with fail
 generalize w.alloc (X #[J Z a,J Z b,J Z d,O o n c,O ao al ac,O po pl pcp] 30)=w1 at *
 have HT1:Hid _:=HT0.out.below HB0.out
 have hlt1:w.heap.size<w1.heap.size:=lt_of_block HX0.out
 obtain ⟨q0,q1,-,-,-,q5⟩:=ld6 HX0.out rfl
 go_cut [8,9] (fun s8 s9 wx=>s8=J Z K/\s9=J Z dp/\Below w1.heap.size w1 wx)
 case first =>
  go_region_held3 (fun w'=>w'.cell? ⟨w.heap.size,0,none⟩=some (J Z a)/\w'.cell? ⟨w.heap.size,1,none⟩=some (J Z b)/\w'.cell? ⟨w.heap.size,5,none⟩=some (O po pl pcp)) (first | (exact ⟨q0,q1,q5⟩) | (exact ⟨hS2.1,hS2.2.1,hS2.2.2.2.2.2⟩) | go_keep) (first | (go_at_call 58;refine (HPX.out _ (HT1.out.below (by first | exact (Below.refl _ _).drew | exact Below.refl _ _))).mono ?_;rintro e w2 ⟨⟨v,rfl,ho⟩,hb2⟩;obtain ⟨lo,lb,lc,rfl,-,-,hps⟩:=Z2 ho;have HPS:Hid (PS w2 lo lb pl V Lp):=hps;have HB2:Hid (Below w1.heap.size w1 w2):=(Below.refl _ _).drew.trans (hb2.mono (Nat.le_refl _));have hS2:=ld6 HX0.out (HB2.out.block _ hlt1);clear hps ho hb2) | (go_at_call 180;refine (HCUT.out _).mono ?_;rintro e w' ⟨rfl,hw'⟩;subst w') | (go_at_call 126;refine (HMT.out _ _ _ _ HPS.out).mono ?_;rintro e w3 ⟨rfl,q,rfl⟩))
  all_goals
   go_wp2_with fail
   go_meet
   exact ⟨rfl,rfl,zB HB2.out q⟩
 case rest =>
 obtain ⟨rfl,rfl,hb2⟩:=hcut
 obtain ⟨w2,hw2⟩:∃ w2,w2=wc:=⟨_,rfl⟩
 subst hw2
 have HB2:Hid _:=hb2
 clear hb2 q0 q1 q5 HPX HCUT HMT
 by_cases hk:K<0
 ·have HE:Hid (brE L A R K other=other):=by show _=_;unfold brE;rw [if_pos hk]
  have HBW:Hid (Below w.heap.size w w2):=HB0.out.trans (HB2.out.mono (by rw [HS.out];omega))
  have hk':¬ 0<=K:=by omega
  go_wp2_with fail
  go_loopg [10] 1 (fun q x wr=>x=J Z 0/\wr=w2)
  case atStart=>exact ⟨rfl,rfl⟩
  case round =>
   obtain ⟨rfl,rfl⟩:=hrel
   by_cases hm0:(0:Int)<(m:Int)
   ·go_wp2_with fail
    go_ret2
    exact ⟨HBW.out,by rw [HK.out,HD.out,HE.out];rfl⟩
   ·go_wp2_with fail
    go_ret2
    exact ⟨HBW.out,by rw [HK.out,HD.out,HE.out];rfl⟩
 ·obtain ⟨kn,rfl⟩:∃ kn:Nat,K=kn:=⟨K.toNat,by omega⟩
  have hkn:kn<pl:=by omega
  have hk0:(0:Int)<=(kn:Int):=by omega
  have hkl:(kn:Int)<(pl:Int):=by omega
  obtain rfl:=HT0.out.at_ (by omega)
  have HE:Hid (brE L A R (kn:Int) other=Xi A (R kn) other 0 L):=by show _=_;unfold brE;rw [if_neg hk];simp only [Int.toNat_natCast]
  have HRG:Hid (∀ wz,Below w1.heap.size w1 wz->wz.cell? ⟨pb,poff+kn*3+2,none⟩=some (J Z (R kn))):=fun wz h=>((HT1.out.below h).reg kn hkn)
  generalize R kn=r at *
  go_wp2_with fail
  go_loopg [10] m (fun q x wr=>∃ j:Nat,q+j=m/\x=J Z j/\Hid (Xi A r other j (L.drop j)=Xi A r other 0 L)/\Hid (Below w1.heap.size w1 wr))
  case atStart=>exact ⟨0,by omega,rfl,by rw [List.drop_zero];exact (rfl:_=_),HB2.out⟩
  case round =>
   obtain ⟨j,hj,rfl,HG,HB⟩:=hrel
   by_cases hlt:j<m
   ·have hlt':(j:Int)<(m:Int):=by omega
    obtain ⟨x,hx⟩:∃ x,L[j]?=some x:=⟨L[j]'(by rw [HM.out];exact hlt),List.getElem?_eq_getElem _⟩
    obtain ⟨c1,c2,c3,c4⟩:=HI0.out j x hx
    obtain ⟨d1,d2⟩:=HD0.out j hlt
    have HDR:Hid (L.drop j=x::L.drop (j+1)):=by
     show _=_
     obtain ⟨hjl,hxe⟩:=List.getElem?_eq_some_iff.1 hx
     rw [List.drop_eq_getElem_cons hjl,hxe]
    have hv:wr.cell? ⟨io,j,none⟩=some (.string x):=by
     rw [HB.out.cell (p:=⟨io,j,none⟩) (by rw [HS.out];simp only;omega),HB0.out.cell (p:=⟨io,j,none⟩) hio];exact c1
    have HARM:=fun wz=>qt x (A j) wz c4 c2 c3
    have HVAL:Hid (∀ wz,Calls Tryz.prog 164 #[.string (A j)] wz fun e w'=>Below wz.heap.size wz w'/\e=.returned (J Z (T.val (A j) (A j).size))):=fun wz=>(Zq (A j) wz (by omega)).mono (by rintro e w' ⟨hb,v,rfl,hv⟩;exact ⟨hb,by rw [hv d1 d2]⟩)
    have HST:Hid (Xi A r other j (L.drop j)=if T.val (A j) (A j).size=r then x.extract ((A j).size+1) x.size else Xi A r other (j+1) (L.drop (j+1))):=by show _=_;rw [HDR.out];rfl
    generalize T.val (A j) (A j).size=v at *
    clear c1 c2 d1 hx
    go_wp2_with fail
    refine (HARM _).mono ?_
    rintro e w3 ⟨hb3,rfl⟩
    have HB3:Hid _:=HB.out.trans (hb3.mono HB.out.size)
    clear hb3 hv HARM
    obtain ⟨-,-,-,-,-,q5⟩:=ld6 HX0.out (HB3.out.block _ hlt1)
    have qr:=HRG.out w3 HB3.out
    go_wp2_with fail
    go_region_held3 (fun w'=>w'.cell? ⟨w.heap.size,5,none⟩=some (O (some ⟨pb,poff,none⟩) pl pcp)/\w'.cell? ⟨pb,poff+kn*3+2,none⟩=some (J Z r)) (first | (exact ⟨q5,qr⟩) | (exact hS4) | go_keep) (first | (go_at_call 164;refine (HVAL.out _).mono ?_;rintro e w4 ⟨hb4,rfl⟩;have HB4:Hid (Below w1.heap.size w1 w4):=HB3.out.drew.trans (hb4.mono HB3.out.size);have hS4:=And.intro (ld6 HX0.out (HB4.out.block _ hlt1)).2.2.2.2.2 (HRG.out _ HB4.out)))
    all_goals
     clear q5 qr hS4
     by_cases hvr:v=r
     ·subst hvr
      have HBW:Hid (Below w.heap.size w w4):=HB0.out.trans (HB4.out.mono (by rw [HS.out];omega))
      have HEE:Hid (Xi A v other 0 L=x.extract ((A j).size+1) x.size):=by show _=_;rw [<- HG.out,HST.out,if_pos rfl]
      go_wp2_with fail
      go_ret2
      exact ⟨HBW.out,by rw [HK.out,HD.out,HE.out,HEE.out];rfl⟩
     ·have hvr':(v==r)=false:=by simp [hvr]
      have HGG:Hid (Xi A r other (j+1) (L.drop (j+1))=Xi A r other 0 L):=by show _=_;rw [<- HG.out,HST.out,if_neg hvr]
      go_wp2_with fail
      go_roundg (gk-1)
      case measure=>omega
      case rel=>exact ⟨j+1,by omega,by go_num,HGG,HB4⟩
   ·have hjm:j=m:=by omega
    subst hjm
    have hlt':¬ (j:Int)<(j:Int):=by omega
    have HBW:Hid (Below w.heap.size w wr):=HB0.out.trans (HB.out.mono (by rw [HS.out];omega))
    have HEE:Hid (Xi A r other 0 L=other):=by show _=_;rw [<- HG.out,List.drop_eq_nil_of_le (by rw [HM.out];omega)];rfl
    go_wp2_with fail
    go_ret2
    exact ⟨HBW.out,by rw [HK.out,HD.out,HE.out,HEE.out];rfl⟩
theorem jI (B0:Nat) (Q:World->Prop) (hQ:∀ w w',Q w->Below w.heap.size w w'->Q w') (P:Value) (t a b:ByteArray) (x:WD) (A:Nat->ByteArray) (y:ByteArray) (m:MN) (w:World) (hB0:B0<=w.heap.size) (hs:t.size<=2000) (h:T.ch t 0=109) (h3:3<=t.size) (ha:(spl (t.extract 2 (t.size-1)) 124)[0]?=some a) (hb:(spl (t.extract 2 (t.size-1)) 124)[1]?=some b) (hL:(spl a 44).length<=64)
 (hi:∀ i z,(spl a 44)[i]?=some z->(spl z 58)[0]?=some (A i)/\(A i).size+1<=z.size/\z.size<=2000) (hp:∀ i,i<(spl a 44).length->M.isP (bpV A i) (bpL A i)=true) (hA:M.isA x.a=true) (b0:0<=x.b) (b1:x.b<=32) (hx:Q w) (hy:j4 (spl a 44) A (M.bestTo (bpV A) (bpL A) (zV x.a x.b) (spl a 44).length) b=y)
 (ih:∀ wz,Q wz->Calls Tryz.prog 128 #[P,.string y,x.val] wz (ZY B0 wz m)) :
 Calls Tryz.prog 128 #[P,.string t,x.val] w (ZY B0 w ⟨m.sv,m.ttl,if m.sc<M.depTo (bpV A) (bpL A) (zV x.a x.b) (spl a 44).length then M.depTo (bpV A) (bpL A) (zV x.a x.b) (spl a 44).length else m.sc⟩):=by
 obtain ⟨h0,hc⟩:=Zm h (by decide)
 have h0':(3:Int)<=(t.size:Int):=by omega
 have h1':(t.size:Int)<=2000:=by omega
 have HPT:Hid (∀ wz,Calls Tryz.prog 97 #[.string t] wz fun e w'=>Below wz.heap.size wz w'/\∃ v,e=.returned (.tuple #[v,.string b])/\w'.ownsRow wz.heap.size 9 1 v (spl a 44).length ((spl a 44).map Value.string)):=fun wz=>Z0 t a b wz hs h3 ha hb
 have IH:Hid _:=ih
 have HQ:Hid _:=hQ
 have HQ0:Hid _:=hx
 obtain ⟨d,HD⟩:∃ d,Hid (M.depTo (bpV A) (bpL A) (zV x.a x.b) (spl a 44).length=d):=⟨_,rfl⟩
 have HBP:Hid (∀ wz io ic,zei wz io (spl a 44) A->io<wz.heap.size->Calls Tryz.prog 168 #[.agg #[J Z x.a,J Z x.b,J Z x.d,O x.do_ x.dl x.dc,O x.ao x.al.length x.ac,O x.po x.pl x.pcp],O (some ⟨io,0,none⟩) (spl a 44).length ic,.string b] wz fun e w'=>Below wz.heap.size wz w'/\e=.returned (.tuple #[.string y,J Z d])):=fun wz io ic h1 h2=>by
  have:=je x.a x.b x.d x.do_ x.dl x.dc x.ao x.po x.al.length x.ac x.pl x.pcp io (spl a 44) ic A b wz hA b0 b1 hL h1 h2 hp
  rw [hy,HD.out] at this
  exact this
 have HAI:Hid _:=hi
 have HLL:Hid (0<(spl a 44).length):=Ze _ _
 have HLM:Hid _:=hL
 rw [HD.out]
 obtain ⟨sc,HSC⟩:∃ sc,Hid ((if m.sc<d then d else m.sc)=sc):=⟨_,rfl⟩
 rw [HSC.out]
 have HWD:Hid (∀ o n k wz,Calls Tryz.prog 169 #[.agg #[O o n k,J Z m.ttl,J Z m.sc],J Z d] wz fun e w'=>Below wz.heap.size wz w'/\e=.returned (.agg #[O o n k,J Z m.ttl,J Z sc])):=fun o n k wz=>by rw [<- HSC.out];exact Qi o n k m.ttl m.sc d wz
 clear hi hp hA b0 b1 hL hy ih ha hb hx hQ
 generalize spl a 44=L at *
 unfold WD.val at IH ⊢
 have HB0:Hid (Below w.heap.size w ((w.alloc (X #[J Z x.a,J Z x.b,J Z x.d,O x.do_ x.dl x.dc,O x.ao x.al.length x.ac,O x.po x.pl x.pcp] 30)).alloc (X #[O none 0 0,J Z 0,J Z 0] 35))):=((Below.refl _ _).alloc (Nat.le_refl _) _).alloc (by simp) _
 have HW0:Hid (((w.alloc (X #[J Z x.a,J Z x.b,J Z x.d,O x.do_ x.dl x.dc,O x.ao x.al.length x.ac,O x.po x.pl x.pcp] 30)).alloc (X #[O none 0 0,J Z 0,J Z 0] 35)).heap[w.heap.size]?=some (X #[J Z x.a,J Z x.b,J Z x.d,O x.do_ x.dl x.dc,O x.ao x.al.length x.ac,O x.po x.pl x.pcp] 30 (0,0))):=by show _=_;rw [Below.heap_alloc _ _ _ (by simp)];exact heap_alloc_new w _
 have HR0:Hid (((w.alloc (X #[J Z x.a,J Z x.b,J Z x.d,O x.do_ x.dl x.dc,O x.ao x.al.length x.ac,O x.po x.pl x.pcp] 30)).alloc (X #[O none 0 0,J Z 0,J Z 0] 35)).heap[w.heap.size+1]?=some (X #[O none 0 0,J Z 0,J Z 0] 35 (0,0))):=zt _ (by simp)
 go_enter Tryz.func128,Tryz.ntmps128
 go_wp2_with fail
 refine (HPT.out _).mono ?_
 rintro e w1 ⟨hb1,v,rfl,hrow⟩
 have HB1:Hid _:=HB0.out.trans (hb1.mono HB0.out.size)
 have HW1:Hid _:=(hb1.block _ (lt_of_block HW0.out)).trans HW0.out
 have HR1:Hid _:=(hb1.block _ (lt_of_block HR0.out)).trans HR0.out
 obtain ⟨g,cap,rfl,_,hgl⟩:=z7 hrow HLL.out
 have HCB:=HBP.out w1 g cap (fun i z hz=>⟨ye hrow hz,HAI.out i z hz⟩) hgl
 obtain ⟨q0,q1,q2,q3,q4,q5⟩:=ld6 HW1.out rfl
 clear hb1 hrow
 generalize L.length=n at *
 go_wp2_with fail
 refine HCB.mono ?_
 rintro e w2 ⟨hb2,rfl⟩
 have HB2:Hid _:=HB1.out.trans (hb2.mono HB1.out.size)
 have HW2:Hid _:=(hb2.block _ (lt_of_block HW1.out)).trans HW1.out
 have HR2:Hid _:=(hb2.block _ (lt_of_block HR1.out)).trans HR1.out
 clear hb2 HCB q0 q1 q2 q3 q4 q5
 obtain ⟨q0,q1,q2,q3,q4,q5⟩:=ld6 HW2.out rfl
 go_wp2_with fail
 refine (IH.out _ (HQ.out _ _ HQ0.out HB2.out)).mono ?_
 rintro e w3 ⟨hb3,o,k,gi,gf,rfl,his,hgg⟩
 have HB3:Hid _:=HB2.out.trans (hb3.mono HB2.out.size)
 have HR3:Hid _:=(hb3.block _ (lt_of_block HR2.out)).trans HR2.out
 have HIS:Hid _:=his
 have HGN:Hid (0<m.sv.length->gi<B0\/w.heap.size+2<=gi):=fun h0=>by
  have h1:=hgg h0
  have h2:=lt_of_block HR2.out
  omega
 clear hb3 his hgg q0 q1 q2 q3 q4 q5
 go_wp2_with fail
 refine (HWD.out o m.sv.length k _).mono ?_
 rintro e w4 ⟨hb4,rfl⟩
 have HB4:Hid _:=HB3.out.trans (hb4.mono HB3.out.size)
 have HR4:Hid _:=(hb4.block _ (lt_of_block HR3.out)).trans HR3.out
 have HIS4:Hid _:=HIS.out.below hb4 HIS.out.lt
 obtain ⟨y0,y1,y2,z0,z1,z2⟩:=ld3 HR4.out
 clear hb4
 go_wp2_with fail
 exact yJ (k:=k) (m:=⟨m.sv,m.ttl,sc⟩) HB4.out HR4.out HIS4.out hB0 HGN.out rfl
theorem jH (B0:Nat) (Q:World->Prop) (hQ:∀ w w',Q w->Below w.heap.size w w'->Q w') (P:Value) (t a b:ByteArray) (x:WD) (A:Nat->ByteArray) (y:ByteArray) (m:MN) (w:World) (hB0:B0<=w.heap.size) (hs:t.size<=2000) (h:T.ch t 0=103) (h3:3<=t.size) (ha:(spl (t.extract 2 (t.size-1)) 124)[0]?=some a) (hb:(spl (t.extract 2 (t.size-1)) 124)[1]?=some b) (hL:(spl a 44).length<=2001)
 (hi:∀ i z,(spl a 44)[i]?=some z->(spl z 58)[0]?=some (A i)/\(A i).size+1<=z.size/\z.size<=2000) (hd:∀ i,i<(spl a 44).length->T.digs (A i)/\(A i).size<=9) (hQx:∀ w,Q w->TS w x.po x.pb x.poff x.pl x.V x.L x.R) (hpl:x.pl<=64) (hp:∀ i,i<x.pl->M.isP (x.V i) (x.L i)=true) (hA:M.isA x.a=true) (b0:0<=x.b) (b1:x.b<=32) (hx:Q w) (hy:brE (spl a 44) A x.R (M.bestTo x.V x.L (zV x.a x.b) x.pl) b=y)
 (ih:∀ wz,Q wz->Calls Tryz.prog 128 #[P,.string y,x.val] wz (ZY B0 wz m)) :
 Calls Tryz.prog 128 #[P,.string t,x.val] w (ZY B0 w ⟨m.sv,m.ttl,if m.sc<M.depTo x.V x.L (zV x.a x.b) x.pl then M.depTo x.V x.L (zV x.a x.b) x.pl else m.sc⟩):=by
 obtain ⟨h0,hc⟩:=Zm h (by decide)
 have h0':(3:Int)<=(t.size:Int):=by omega
 have h1':(t.size:Int)<=2000:=by omega
 have HPT:Hid (∀ wz,Calls Tryz.prog 97 #[.string t] wz fun e w'=>Below wz.heap.size wz w'/\∃ v,e=.returned (.tuple #[v,.string b])/\w'.ownsRow wz.heap.size 9 1 v (spl a 44).length ((spl a 44).map Value.string)):=fun wz=>Z0 t a b wz hs h3 ha hb
 have IH:Hid _:=ih
 have HQ:Hid _:=hQ
 have HQ0:Hid _:=hx
 obtain ⟨d,HD⟩:∃ d,Hid (M.depTo x.V x.L (zV x.a x.b) x.pl=d):=⟨_,rfl⟩
 have HBP:Hid (∀ wz io ic,zei wz io (spl a 44) A->io<wz.heap.size->Q wz->Calls Tryz.prog 170 #[.agg #[J Z x.a,J Z x.b,J Z x.d,O x.do_ x.dl x.dc,O x.ao x.al.length x.ac,O x.po x.pl x.pcp],O (some ⟨io,0,none⟩) (spl a 44).length ic,.string b] wz fun e w'=>Below wz.heap.size wz w'/\e=.returned (.tuple #[.string y,J Z d])):=fun wz io ic h1 h2 h4=>by
  have:=jd x.a x.b x.d x.do_ x.dl x.dc x.ao x.po x.al.length x.ac x.pb x.poff x.pl x.pcp x.V x.L x.R io (spl a 44) ic A b wz hA b0 b1 hL h1 hd h2 (hQx wz h4) hpl hp
  rw [hy,HD.out] at this
  exact this
 have HAI:Hid _:=hi
 have HLL:Hid (0<(spl a 44).length):=Ze _ _
 have HLM:Hid _:=hL
 rw [HD.out]
 obtain ⟨sc,HSC⟩:∃ sc,Hid ((if m.sc<d then d else m.sc)=sc):=⟨_,rfl⟩
 rw [HSC.out]
 have HWD:Hid (∀ o n k wz,Calls Tryz.prog 169 #[.agg #[O o n k,J Z m.ttl,J Z m.sc],J Z d] wz fun e w'=>Below wz.heap.size wz w'/\e=.returned (.agg #[O o n k,J Z m.ttl,J Z sc])):=fun o n k wz=>by rw [<- HSC.out];exact Qi o n k m.ttl m.sc d wz
 clear hi hp hA b0 b1 hL hy ih ha hb hx hQ hd hQx hpl
 generalize spl a 44=L at *
 unfold WD.val at IH ⊢
 have HB0:Hid (Below w.heap.size w ((w.alloc (X #[J Z x.a,J Z x.b,J Z x.d,O x.do_ x.dl x.dc,O x.ao x.al.length x.ac,O x.po x.pl x.pcp] 30)).alloc (X #[O none 0 0,J Z 0,J Z 0] 35))):=((Below.refl _ _).alloc (Nat.le_refl _) _).alloc (by simp) _
 have HW0:Hid (((w.alloc (X #[J Z x.a,J Z x.b,J Z x.d,O x.do_ x.dl x.dc,O x.ao x.al.length x.ac,O x.po x.pl x.pcp] 30)).alloc (X #[O none 0 0,J Z 0,J Z 0] 35)).heap[w.heap.size]?=some (X #[J Z x.a,J Z x.b,J Z x.d,O x.do_ x.dl x.dc,O x.ao x.al.length x.ac,O x.po x.pl x.pcp] 30 (0,0))):=by show _=_;rw [Below.heap_alloc _ _ _ (by simp)];exact heap_alloc_new w _
 have HR0:Hid (((w.alloc (X #[J Z x.a,J Z x.b,J Z x.d,O x.do_ x.dl x.dc,O x.ao x.al.length x.ac,O x.po x.pl x.pcp] 30)).alloc (X #[O none 0 0,J Z 0,J Z 0] 35)).heap[w.heap.size+1]?=some (X #[O none 0 0,J Z 0,J Z 0] 35 (0,0))):=zt _ (by simp)
 go_enter Tryz.func128,Tryz.ntmps128
 go_wp2_with fail
 refine (HPT.out _).mono ?_
 rintro e w1 ⟨hb1,v,rfl,hrow⟩
 have HB1:Hid _:=HB0.out.trans (hb1.mono HB0.out.size)
 have HW1:Hid _:=(hb1.block _ (lt_of_block HW0.out)).trans HW0.out
 have HR1:Hid _:=(hb1.block _ (lt_of_block HR0.out)).trans HR0.out
 obtain ⟨g,cap,rfl,_,hgl⟩:=z7 hrow HLL.out
 have HCB:=HBP.out w1 g cap (fun i z hz=>⟨ye hrow hz,HAI.out i z hz⟩) hgl (HQ.out _ _ HQ0.out HB1.out)
 obtain ⟨q0,q1,q2,q3,q4,q5⟩:=ld6 HW1.out rfl
 clear hb1 hrow
 generalize L.length=n at *
 go_wp2_with fail
 refine HCB.mono ?_
 rintro e w2 ⟨hb2,rfl⟩
 have HB2:Hid _:=HB1.out.trans (hb2.mono HB1.out.size)
 have HW2:Hid _:=(hb2.block _ (lt_of_block HW1.out)).trans HW1.out
 have HR2:Hid _:=(hb2.block _ (lt_of_block HR1.out)).trans HR1.out
 clear hb2 HCB q0 q1 q2 q3 q4 q5
 obtain ⟨q0,q1,q2,q3,q4,q5⟩:=ld6 HW2.out rfl
 go_wp2_with fail
 refine (IH.out _ (HQ.out _ _ HQ0.out HB2.out)).mono ?_
 rintro e w3 ⟨hb3,o,k,gi,gf,rfl,his,hgg⟩
 have HB3:Hid _:=HB2.out.trans (hb3.mono HB2.out.size)
 have HR3:Hid _:=(hb3.block _ (lt_of_block HR2.out)).trans HR2.out
 have HIS:Hid _:=his
 have HGN:Hid (0<m.sv.length->gi<B0\/w.heap.size+2<=gi):=fun h0=>by
  have h1:=hgg h0
  have h2:=lt_of_block HR2.out
  omega
 clear hb3 his hgg q0 q1 q2 q3 q4 q5
 go_wp2_with fail
 refine (HWD.out o m.sv.length k _).mono ?_
 rintro e w4 ⟨hb4,rfl⟩
 have HB4:Hid _:=HB3.out.trans (hb4.mono HB3.out.size)
 have HR4:Hid _:=(hb4.block _ (lt_of_block HR3.out)).trans HR3.out
 have HIS4:Hid _:=HIS.out.below hb4 HIS.out.lt
 obtain ⟨y0,y1,y2,z0,z1,z2⟩:=ld3 HR4.out
 clear hb4
 go_wp2_with fail
 exact yJ (k:=k) (m:=⟨m.sv,m.ttl,sc⟩) HB4.out HR4.out HIS4.out hB0 HGN.out rfl
theorem zaR (B0:Nat) (Q:World->Prop) (hQ:∀ w w',Q w->Below w.heap.size w w'->Q w') (P:Value) (t y:ByteArray) (c:Int) (x:WD) (m:MN) (w:World) (hB0:B0<=w.heap.size) (h:T.ch t 0=61) (h1:T.ch t 1=c) (hc0:0<=c) (hs:t.size<=2000) (hx:Q w)
 (hp:∀ wz,Q wz->Calls Tryz.prog 165 #[P,J .u8 c] wz fun e w'=>w'=wz/\e=.returned (.string y))
 (ih:∀ wz,Q wz->Calls Tryz.prog 128 #[P,.string y,x.val] wz (ZY B0 wz m)) :
 Calls Tryz.prog 128 #[P,.string t,x.val] w (ZY B0 w m):=by
 obtain ⟨h0,hc⟩:=Zm h (by decide)
 obtain ⟨h2,hcc⟩:=Zm h1 hc0
 have h2':(1:Int)<(t.size:Int):=by omega
 have h1':(t.size:Int)<=2000:=by omega
 have IH:Hid _:=ih
 have HQ:Hid _:=hQ
 have HQ0:Hid _:=hx
 have HRL:Hid _:=hp
 clear hp ih hx hQ
 unfold WD.val at IH ⊢
 have HB0:Hid (Below w.heap.size w ((w.alloc (X #[J Z x.a,J Z x.b,J Z x.d,O x.do_ x.dl x.dc,O x.ao x.al.length x.ac,O x.po x.pl x.pcp] 30)).alloc (X #[O none 0 0,J Z 0,J Z 0] 35))):=((Below.refl _ _).alloc (Nat.le_refl _) _).alloc (by simp) _
 have HW0:Hid (((w.alloc (X #[J Z x.a,J Z x.b,J Z x.d,O x.do_ x.dl x.dc,O x.ao x.al.length x.ac,O x.po x.pl x.pcp] 30)).alloc (X #[O none 0 0,J Z 0,J Z 0] 35)).heap[w.heap.size]?=some (X #[J Z x.a,J Z x.b,J Z x.d,O x.do_ x.dl x.dc,O x.ao x.al.length x.ac,O x.po x.pl x.pcp] 30 (0,0))):=by show _=_;rw [Below.heap_alloc _ _ _ (by simp)];exact heap_alloc_new w _
 have HR0:Hid (((w.alloc (X #[J Z x.a,J Z x.b,J Z x.d,O x.do_ x.dl x.dc,O x.ao x.al.length x.ac,O x.po x.pl x.pcp] 30)).alloc (X #[O none 0 0,J Z 0,J Z 0] 35)).heap[w.heap.size+1]?=some (X #[O none 0 0,J Z 0,J Z 0] 35 (0,0))):=zt _ (by simp)
 go_enter Tryz.func128,Tryz.ntmps128
 go_wp2_with fail
 generalize (w.alloc (X #[J Z x.a,J Z x.b,J Z x.d,O x.do_ x.dl x.dc,O x.ao x.al.length x.ac,O x.po x.pl x.pcp] 30)).alloc (X #[O none 0 0,J Z 0,J Z 0] 35)=w1 at *
 obtain ⟨q0,q1,q2,q3,q4,q5⟩:=ld6 HW0.out rfl
 have hneB:w.heap.size+1≠w.heap.size:=by omega
 have hl1:=lt_of_block HR0.out
 have HQ1:Hid (∀ wz,Below w1.heap.size w1 wz->Q wz):=fun wz hz=>HQ.out _ _ HQ0.out (HB0.out.trans (hz.mono HB0.out.size))
 go_region_held3 (fun w'=>w'.cell? ⟨w.heap.size,0,none⟩=some (J Z x.a)/\w'.cell? ⟨w.heap.size,1,none⟩=some (J Z x.b)/\w'.cell? ⟨w.heap.size,2,none⟩=some (J Z x.d)/\w'.cell? ⟨w.heap.size,3,none⟩=some (O x.do_ x.dl x.dc)/\w'.cell? ⟨w.heap.size,4,none⟩=some (O x.ao x.al.length x.ac)/\w'.cell? ⟨w.heap.size,5,none⟩=some (O x.po x.pl x.pcp)) (first | (exact ⟨q0,q1,q2,q3,q4,q5⟩) | (exact hS3) | (exact ⟨zA hneB (zA hneB (zA hneB hS3.1 _ _) _ _) _ _,zA hneB (zA hneB (zA hneB hS3.2.1 _ _) _ _) _ _,zA hneB (zA hneB (zA hneB hS3.2.2.1 _ _) _ _) _ _,zA hneB (zA hneB (zA hneB hS3.2.2.2.1 _ _) _ _) _ _,zA hneB (zA hneB (zA hneB hS3.2.2.2.2.1 _ _) _ _) _ _,zA hneB (zA hneB (zA hneB hS3.2.2.2.2.2 _ _) _ _) _ _⟩) | go_keep) (first | (go_at_call 165;refine (HRL.out _ (HQ1.out _ (by first | exact (Below.refl _ _).drew | exact Below.refl _ _))).mono ?_;rintro e w' ⟨hw',rfl⟩;subst w') | (go_at_call 128;refine (IH.out _ (HQ1.out _ (by first | exact (Below.refl _ _).drew | exact Below.refl _ _))).mono ?_;rintro e w3 ⟨hb3,o,k,gi,gf,rfl,his,hgg⟩;have HB3:Hid (Below w1.heap.size w1 w3):=(Below.refl _ _).drew.trans (hb3.mono (Nat.le_refl _));have hS3:=ld6 HW0.out (HB3.out.block _ (lt_of_block HW0.out));have HR3:Hid (w3.heap[w.heap.size+1]?=some (X #[O none 0 0,J Z 0,J Z 0] 35 (0,0))):=(HB3.out.block _ hl1).trans HR0.out;obtain ⟨y0,y1,y2,z0,z1,z2⟩:=ld3 HR3.out))
 all_goals
  have HIS:Hid _:=his
  have HGN:Hid (0<m.sv.length->gi<B0\/w.heap.size+2<=gi):=fun h0=>by
   have h1:=hgg h0
   have h5:w1.drew.heap.size=w1.heap.size:=rfl
   omega
  have HBW:Hid (Below w.heap.size w w3):=HB0.out.trans (HB3.out.mono HB0.out.size)
  clear his hgg hb3 y0 y1 y2 z0 z1 z2 hS3 q0 q1 q2 q3 q4 q5
  go_wp2_with fail
  exact yJ (k:=k) (m:=m) HBW.out HR3.out HIS.out hB0 HGN.out rfl
end Go.Proofs.YtaebngpoagjafaaGreat
