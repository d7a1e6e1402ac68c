import Derived.Test.YtaebngpoagjafabGreatU43
import Derived.Test.YtaebngpoagjafabGreatU45
set_option maxRecDepth 100000
set_option maxHeartbeats 1600000
namespace Go.Proofs.YtaebngpoagjafabGreat
open Obj renaming cells → X
open Value renaming int → J, slice → O
open IntKind renaming i64 → Z
open Go.RowKit
attribute [local go_sem ↓] Go.wp_at_zero Go.wp_at_succ
def ZW (B0:Nat) (w:World) (m:MN) (r:Ending) (w':World):Prop:=Below w.heap.size w w'/\∃ o k g f,r=.returned (.agg #[O o m.sv.length k,J Z m.ttl,J Z m.sc])/\IS w' o g f m.sv.length (fun i=>(m.sv[i]?).getD 0)/\(0<m.sv.length->g<B0\/w.heap.size<=g)
theorem za1 {w:World} {base e size:Nat} {v:Value} {n:Nat} {xs:List Value} (h:w.ownsRow base e size v n xs):∃ o k,v=O o n k:=by
 rcases h.2 with ⟨h0,h1⟩ | ⟨g',cap',cur,h0,_⟩
 ·exact ⟨none,0,by rw [h0,h1]⟩
 ·exact ⟨_,_,h0⟩
theorem zat (o:Option Addr) (n k:Nat) (w:World):(Instr.build 42 #[(0,O o n k),(1,J Z 86400)]).run Tryz.prog w=.ok (.agg #[O o n k,J Z 86400,J Z 0]) w:=run_build w 42 _ _ (by kernel_rfl)
theorem yH {B0:Nat} {w w3:World} {tm:Array Value} {m:MN} {o:Option Addr} {k g f:Nat} (hB:Below w.heap.size w w3) (hR:w3.heap[w.heap.size+1]?=some (X #[O none 0 0,J Z 0,J Z 0] 42 (0,0))) (hI:IS w3 o g f m.sv.length (fun i=>(m.sv[i]?).getD 0)) (hB0:B0<=w.heap.size) (hg:0<m.sv.length->g<B0\/w.heap.size+2<=g) (ht:tm.getD 6 undef=.pointer (some ⟨w.heap.size+1,0,none⟩)) :
 bodyPost Tryz.prog Tryz.f117 (ZW B0 w m) .ret ⟨tm,[]⟩ (((w3.setCell ⟨w.heap.size+1,0,none⟩ (O o m.sv.length k)).setCell ⟨w.heap.size+1,1,none⟩ (J Z m.ttl)).setCell ⟨w.heap.size+1,2,none⟩ (J Z m.sc)):=by
 have b:=yE (x':=O o m.sv.length k) (y':=J Z m.ttl) (z':=J Z m.sc) hR
 refine bodyPost_ret (v:=.agg #[O o m.sv.length k,J Z m.ttl,J Z m.sc]) (YE Tryz.results117 _ _ _ ⟨w.heap.size+1,0,none⟩ _ ht (run_loadVar_row _ _ _ _ _ _ _ b Tryz.underlying42 rfl (by kernel_rfl))) rfl ⟨((hB.setCell (by simp only;omega) _).setCell (by simp only;omega) _).setCell (by simp only;omega) _,o,k,g,f,rfl,?_,fun h=>by have:=hg h;omega⟩
 refine ⟨hI.at_,fun h=>by have:=hI.lt h;simpa using this,fun i hi=>?_⟩
 have a:g≠w.heap.size+1:=by have:=hg (by omega);omega
 rw [World.cell?_of_block (w:=w3) (by rw [za a,za a,za a])]
 exact hI.val i hi
theorem Q5 (B0:Nat) (P:Value) (t:ByteArray) (x:WD) (V:Nat->Int) (w:World) (hB0:B0<=w.heap.size) (hs:t.size<=2000) (h:T.ch t 0=123) (h2:2<=t.size) (hi:∀ i y,(spl (t.extract 1 (t.size-1)) 44)[i]?=some y->T.digs y/\y.size<=9/\T.val y y.size=V i) :
 Calls Tryz.prog 117 #[P,.string t,x.val] w (ZW B0 w ⟨knK V (spl (t.extract 1 (t.size-1)) 44).length,86400,0⟩):=by
 obtain ⟨K,hc⟩:=Zj h (by decide)
 have S:(2:Int)<=(t.size:Int):=by omega
 have R:(t.size:Int)<=2000:=by omega
 have C:(t.extract 1 (t.size-1)).size<=2000:=by rw [yd t _ _ (by omega)];omega
 have l:(spl (t.extract 1 (t.size-1)) 44).length<=2001:=by
  have:=(XC (t.extract 1 (t.size-1)) 44 (t.extract 1 (t.size-1)).size).2.1
  simp only [spl,List.length_append,List.length_cons,List.length_nil];omega
 have G:Hid _:=hi
 clear hi
 unfold WD.val
 have B:Hid (Below w.heap.size w ((w.alloc (X #[J Z x.a,J Z x.b,J Z x.d,O x.do_ x.dl x.dc,O x.ao x.al.length x.ac,O x.po x.pl x.pcp] 31)).alloc (X #[O none 0 0,J Z 0,J Z 0] 42))):=((Below.refl _ _).alloc (Nat.le_refl _) _).alloc (by simp) _
 have u:Hid (((w.alloc (X #[J Z x.a,J Z x.b,J Z x.d,O x.do_ x.dl x.dc,O x.ao x.al.length x.ac,O x.po x.pl x.pcp] 31)).alloc (X #[O none 0 0,J Z 0,J Z 0] 42)).heap[w.heap.size+1]?=some (X #[O none 0 0,J Z 0,J Z 0] 42 (0,0))):=zu _ (by simp)
 go_enter Tryz.func117,Tryz.ntmps117
 go_wp2_with fail
 refine (yT _ 44 _ C).mono ?_
 rintro e N ⟨E,v,rfl,j⟩
 have A:Hid _:=B.out.trans (E.mono B.out.size)
 have q:Hid _:=(E.block _ (lt_of_block u.out)).trans u.out
 obtain ⟨g,F,rfl,_,D⟩:=z8 j (Zd _ _)
 have L:=jN g (spl (t.extract 1 (t.size-1)) 44) F V N l (fun i y hy=>⟨yf j hy,G.out i y hy⟩) D
 clear E j
 have U:Hid _:=l
 clear l
 generalize (spl (t.extract 1 (t.size-1)) 44).length=n at *
 go_wp2_with fail
 refine L.mono ?_
 rintro e w2 ⟨p,v,rfl,f⟩
 obtain ⟨o,k,rfl⟩:=za1 f
 have I:Hid _:=A.out.trans (p.mono A.out.size)
 have s:Hid _:=(p.block _ (lt_of_block q.out)).trans q.out
 obtain ⟨y0,y1,y2,z0,Y,W⟩:=ld3 s.out
 obtain ⟨gi,r⟩:=XJ f
 have z:Hid _:=r
 have H:Hid (0<(knK V n).length->gi<B0\/w.heap.size+2<=gi):=fun K=>.inr (by
  have h1:=(f.lt gi (by rw [z.out.at_ K];rfl)).1
  have h2:=lt_of_block q.out
  omega)
 have Q:=fun wz=>zat o (knK V n).length k wz
 clear p f r L
 go_wp2_with fail
 exact yH (k:=k) (m:=⟨knK V n,86400,0⟩) I.out s.out z.out hB0 H.out rfl
theorem zeN (w:World):(Instr.build 42 #[(1,J Z 86400)]).run Tryz.prog w=.ok (.agg #[O none 0 0,J Z 86400,J Z 0]) w:=run_build w 42 _ _ (by kernel_rfl)
theorem JK (B0:Nat) (P:Value) (t:ByteArray) (x:WD) (nv:Nat) (w:World) (hs:t.size<=2000) (h:T.ch t 0=64) (hd:T.digs (t.extract 1 t.size)) (hd9:(t.extract 1 t.size).size<=9) (hv:T.val (t.extract 1 t.size) (t.extract 1 t.size).size=(nv:Int)) (hB0:B0<=w.heap.size) (has:AS w B0 x.ao x.ab x.aoff x.al) (hna:x.al.length<=9223372036854775807) :
 Calls Tryz.prog 117 #[P,.string t,x.val] w (ZW B0 w ⟨(x.al[nv]?).getD [],86400,0⟩):=by
 obtain ⟨N,hc⟩:=Zj h (by decide)
 have a4:(1:Int)<=(t.size:Int):=by omega
 have a3:(t.size:Int)<=2000:=by omega
 have B:Hid (∀ wz,Calls Tryz.prog 151 #[.string (t.extract 1 t.size)] wz fun e W=>Below wz.heap.size wz W/\e=.returned (J Z (nv:Int))):=fun wz=>(Zn _ wz (by omega)).mono (by rintro e W ⟨u,v,rfl,G⟩;exact ⟨u,by rw [G hd hd9,hv]⟩)
 have Q:Hid _:=has
 clear hd hd9 hv has
 obtain ⟨l,R⟩:∃ l,Hid ((x.al[nv]?).getD []=l):=⟨_,rfl⟩
 rw [R.out]
 unfold WD.val
 have D:Hid (Below w.heap.size w ((w.alloc (X #[J Z x.a,J Z x.b,J Z x.d,O x.do_ x.dl x.dc,O x.ao x.al.length x.ac,O x.po x.pl x.pcp] 31)).alloc (X #[O none 0 0,J Z 0,J Z 0] 42))):=((Below.refl _ _).alloc (Nat.le_refl _) _).alloc (by simp) _
 have A:Hid (((w.alloc (X #[J Z x.a,J Z x.b,J Z x.d,O x.do_ x.dl x.dc,O x.ao x.al.length x.ac,O x.po x.pl x.pcp] 31)).alloc (X #[O none 0 0,J Z 0,J Z 0] 42)).heap[w.heap.size]?=some (X #[J Z x.a,J Z x.b,J Z x.d,O x.do_ x.dl x.dc,O x.ao x.al.length x.ac,O x.po x.pl x.pcp] 31 (0,0))):=by show _=_;rw [Below.heap_alloc _ _ _ (by simp)];exact heap_alloc_new w _
 have C:Hid (((w.alloc (X #[J Z x.a,J Z x.b,J Z x.d,O x.do_ x.dl x.dc,O x.ao x.al.length x.ac,O x.po x.pl x.pcp] 31)).alloc (X #[O none 0 0,J Z 0,J Z 0] 42)).heap[w.heap.size+1]?=some (X #[O none 0 0,J Z 0,J Z 0] 42 (0,0))):=zu _ (by simp)
 go_enter Tryz.func117,Tryz.ntmps117
 go_wp2_with fail
 refine (B.out _).mono ?_
 rintro e V ⟨u,rfl⟩
 have n:Hid _:=D.out.trans (u.mono D.out.size)
 have s:Hid _:=(u.block _ (lt_of_block C.out)).trans C.out
 obtain ⟨-,-,-,-,q4,-⟩:=ld6 A.out (u.block _ (lt_of_block A.out))
 obtain ⟨y0,y1,y2,z0,z1,z2⟩:=ld3 s.out
 clear u
 by_cases H:nv<x.al.length
 ·have hl:x.al[nv]?=some l:=by rw [<- R.out,List.getElem?_eq_getElem H];rfl
  obtain ⟨E,F,j,q⟩:=Q.out.val nv l hl
  have a0:(nv:Int)<(x.al.length:Int):=by omega
  have I:¬ (x.al.length:Int)<=(nv:Int):=by omega
  have L:=Q.out.at_ (by omega)
  have a2:=Q.out.lt (by omega)
  have a1:V.cell? ⟨x.ab,x.aoff+nv,none⟩=some (O E l.length F):=(n.out.cell (p:=⟨x.ab,x.aoff+nv,none⟩) (by simp only;omega)).trans j
  rw [L] at q4
  have K:=fun wz=>zat E l.length F wz
  obtain ⟨r,z,S,U⟩:∃ r z,Hid (IS V E r z l.length (fun i=>(l[i]?).getD 0))/\Hid (0<l.length->r<B0\/w.heap.size+2<=r):=by
   rcases Nat.eq_zero_or_pos l.length with N | N
   ·exact ⟨0,0,⟨fun h=>by omega,fun h=>by omega,fun i hi=>by omega⟩,fun h=>by omega⟩
   ·obtain ⟨r,z,e1,e2,e3⟩:=q N
    refine ⟨r,z,⟨fun _=>e1,fun _=>by have:=n.out.size;omega,fun i hi=>?_⟩,fun _=>.inl e2⟩
    obtain ⟨y,Y⟩:∃ y,l[i]?=some y:=⟨_,List.getElem?_eq_getElem hi⟩
    rw [n.out.cell (p:=⟨r,z+i,none⟩) (by simp only;omega),e3 i y Y,Y];rfl
  clear q j hl
  go_wp2_with fail
  exact yH (k:=F) (m:=⟨l,86400,0⟩) n.out s.out S.out hB0 U.out rfl
 ·have I:(x.al.length:Int)<=(nv:Int):=by omega
  obtain rfl:l=[]:=by rw [<- R.out,List.getElem?_eq_none (by omega)];rfl
  have K:=fun wz=>zeN wz
  go_wp2_with fail
  exact yH (o:=none) (k:=0) (g:=0) (f:=0) (m:=⟨[],86400,0⟩) n.out s.out ⟨fun h=>by simp at h,fun h=>by simp at h,fun i hi=>by simp at hi⟩ hB0 (fun h=>by simp at h) rfl
def pfV (s:ByteArray):Nat->Int
 | 0=>0
 | n+1=>pfV s n*2+(if n<s.size/\T.ch s n=49 then 1 else 0)
theorem zfp (s:ByteArray):∀ n,0<=pfV s n/\pfV s n<2 ^ n:=by
 intro n
 induction n with
 | zero=>exact ⟨Int.le_refl _,by simp [pfV]⟩
 | succ n ih =>
  simp only [pfV]
  rw [Int.pow_succ]
  split<;>omega
theorem Q0 (s:ByteArray) (w:World) (hs:s.size<=2000) :
 Calls Tryz.prog 169 #[.string s] w fun e w'=>Below w.heap.size w w'/\e=.returned (.agg #[J Z (pfV s 32),J Z (s.size:Int)]):=by
 go_enter Tryz.func169,Tryz.ntmps169
 go_wp2_with fail
 have u:(s.size:Int)<=2000:=by omega
 go_loopg [3,4] 32 (fun q x y wr=>∃ (j:Nat) (v:Int),q+j=32/\x=J Z v/\y=J Z j/\Hid (pfV s j=v)/\wr=w.alloc (X #[J Z 0,J Z 0] 94))
 case atStart=>exact ⟨0,0,by omega,rfl,rfl,rfl,rfl⟩
 case round =>
  obtain ⟨j,v,B,rfl,rfl,f,rfl⟩:=hrel
  by_cases p:j<32
  ·have k:(j:Int)<32:=by omega
   have b:=zfp s j
   rw [f.out] at b
   have o:(2:Int) ^ j<=2 ^ 32:=by
    have z:(2:Nat) ^ j<=2 ^ 32:=Nat.pow_le_pow_right (by omega) (by omega)
    exact_mod_cast z
   have n:0<=v:=b.1
   have m:v<4294967296:=by
    have C:(2:Int) ^ 32=4294967296:=by decide
    omega
   clear b o
   by_cases l:j<s.size
   ·have h:(j:Int)<(s.size:Int):=by omega
    obtain ⟨ch,a⟩:∃ c,T.ch s j=c:=⟨_,rfl⟩
    have r:((s[j]).toNat:Int)=ch:=by rw [<- a];exact (T.ch_lt l).symm
    by_cases d:ch=49
    ·subst d
     have g:Hid (pfV s (j+1)=v*2+1):=by show _=_;simp only [pfV];rw [f.out,if_pos ⟨l,a⟩]
     clear a
     go_wp2_with fail
     go_roundg (gk-1)
     case measure=>omega
     case rel=>exact ⟨j+1,v*2+1,by omega,by go_num,by go_num,g.out,rfl⟩
    ·have A:(ch==49)=false:=by simpa using d
     have g:Hid (pfV s (j+1)=v*2):=by show _=_;simp only [pfV];rw [f.out,if_neg (by rw [a];omega)];omega
     clear a
     go_wp2_with fail
     go_roundg (gk-1)
     case measure=>omega
     case rel=>exact ⟨j+1,v*2,by omega,by go_num,by go_num,g.out,rfl⟩
   ·have h:decide ((j:Int)<(s.size:Int))=false:=decide_eq_false (by omega)
    have g:Hid (pfV s (j+1)=v*2):=by show _=_;simp only [pfV];rw [f.out,if_neg (by omega)];omega
    go_wp2_with fail
    go_roundg (gk-1)
    case measure=>omega
    case rel=>exact ⟨j+1,v*2,by omega,by go_num,by go_num,g.out,rfl⟩
  ·have i:j=32:=by omega
   subst i
   go_wp2_with fail
   exact bodyPost_ret (v:=.agg #[J Z v,J Z (s.size:Int)]) (by simp [results,Tryz.results169,go_sem]) rfl ⟨(Below.refl _ _).alloc (Nat.le_refl _) _,by rw [f.out]⟩
def zeZ (w:World) (io:Nat) (L:List ByteArray) (A:Nat->ByteArray):Prop:=∀ i x,L[i]?=some x->w.cell? ⟨io,i,none⟩=some (.string x)/\(spl x 58)[0]?=some (A i)/\(A i).size+1<=x.size/\x.size<=2000
def Jh (L:List ByteArray) (A:Nat->ByteArray) (k:Int) (other:ByteArray):ByteArray:=if k<0 then other else match L[k.toNat]? with | some x=>x.extract ((A k.toNat).size+1) x.size | none=>other
def bpV (A:Nat->ByteArray) (i:Nat):Int:=pfV (A i) 32
def bpL (A:Nat->ByteArray) (i:Nat):Int:=((A i).size:Int)
theorem jl (a b d:Int) (o:Option Addr) (n c:Nat) (ao po:Option Addr) (al ac pl pcp:Nat) (io:Nat) (L:List ByteArray) (ic:Nat) (A:Nat->ByteArray) (other:ByteArray) (w:World) (hA:M.isA a=true) (b0:0<=b) (b1:b<=32) (hL:L.length<=64) (hi:zeZ w io L A) (hio:io<w.heap.size) (hp:∀ i,i<L.length->M.isP (bpV A i) (bpL A i)=true) :
 Calls Tryz.prog 155 #[.agg #[J Z a,J Z b,J Z d,O o n c,O ao al ac,O po pl pcp],O (some ⟨io,0,none⟩) L.length ic,.string other] w fun e w'=>Below w.heap.size w w'/\e=.returned (.tuple #[.string (Jh L A (M.bestTo (bpV A) (bpL A) (zW a b) L.length) other),J Z (M.depTo (bpV A) (bpL A) (zW a b) L.length)]):=by
 obtain ⟨i0,a9,a4,a3,a2⟩:=info_parts Tryz.infoPrefix
 obtain ⟨m,hm⟩:∃ m,L.length=m:=⟨_,rfl⟩
 have HM:Hid _:=hm
 rw [hm] at hL hp ⊢
 clear hm
 have HP:Hid _:=hp
 have Q:Hid _:=hi
 obtain ⟨a0,a1⟩:=M.isA_iff.1 hA
 obtain ⟨k0,k1⟩:=qg (n:=b) a0 a1
 have b2:M.isA (zW a b)=true:=M.isA_iff.2 ⟨k0,k1⟩
 have R:Hid (∀ wz,Calls Tryz.prog 167 #[J Z a,J Z b] wz fun e w'=>e=.returned (J Z (zW a b))/\w'=wz):=fun wz=>ZN a b wz a0 a1 b0 b1
 clear hi hp
 have D:Hid (Below w.heap.size w (w.alloc (X #[J Z a,J Z b,J Z d,O o n c,O ao al ac,O po pl pcp] 31))):=(Below.refl _ _).alloc (Nat.le_refl _) _
 have b3:Hid ((w.alloc (X #[J Z a,J Z b,J Z d,O o n c,O ao al ac,O po pl pcp] 31)).heap[w.heap.size]?=some (X #[J Z a,J Z b,J Z d,O o n c,O ao al ac,O po pl pcp] 31 (0,0))):=heap_alloc_new w _
 go_enter Tryz.func155,Tryz.ntmps155
 go_wp2_with fail
 have HS:Hid ((w.alloc (X #[J Z a,J Z b,J Z d,O o n c,O ao al ac,O po pl pcp] 31)).heap.size=w.heap.size+1):=by show _=_;simp
 generalize w.alloc (X #[J Z a,J Z b,J Z d,O o n c,O ao al ac,O po pl pcp] 31)=w1 at *
 go_loopg [8,9] m (fun q v x wr=>∃ j:Nat,q+j=m/\x=J Z j/\Hid (wr.ownsRow w1.heap.size 94 2 v j (pc (bpV A) (bpL A) j))/\Hid (Below w1.heap.size w1 wr))
 case atStart=>exact ⟨0,by omega,rfl,World.ownsRow_nil _ _ _ _,Below.refl _ _⟩
 case round =>
  obtain ⟨j,hj,rfl,HO,Y⟩:=hrel
  by_cases a6:j<m
  ·have F:(j:Int)<(m:Int):=by omega
   obtain ⟨x,k⟩:∃ x,L[j]?=some x:=⟨L[j]'(by rw [HM.out];exact a6),List.getElem?_eq_getElem _⟩
   obtain ⟨c1,c2,c3,c4⟩:=Q.out j x k
   have hv:wr.cell? ⟨io,j,none⟩=some (.string x):=by
    rw [Y.out.cell (p:=⟨io,j,none⟩) (by rw [HS.out];simp only;omega),D.out.cell (p:=⟨io,j,none⟩) hio];exact c1
   have f:=fun wz=>qo x (A j) wz c4 c2 c3
   clear c1 c2 k
   go_wp2_with fail
   refine (f _).mono ?_
   rintro e w2 ⟨y,rfl⟩
   have W:Hid _:=Y.out.trans (y.mono Y.out.size)
   have P:Hid (w2.ownsRow w1.heap.size 94 2 u8 j (pc (bpV A) (bpL A) j)):=zh HO.out (fun g hg=>y.block g (HO.out.lt g hg).2)
   have I:=fun wz=>Q0 (A j) wz (by omega)
   clear y hv f
   go_wp2_with fail
   refine (I _).mono ?_
   rintro e w3 ⟨u,rfl⟩
   have C:Hid (Below w1.heap.size w1 w3):=W.out.trans (u.mono W.out.size)
   have N:Hid (w3.ownsRow w1.heap.size 94 2 u8 j (pc (bpV A) (bpL A) j)):=zh P.out (fun g hg=>u.block g (P.out.lt g hg).2)
   clear u I
   have b6:=C.out.size
   go_wp2_with (at_builtin;refine wpList_append_own _ rfl _ _ 98 rfl w1.heap.size 94 i0 (.agg #[J Z 0,J Z 0]) 2 16 Tryz.underlying98 a9 a4 a3 a2 rfl (by decide) _ _ _ rfl (N.out.alloc _) ⟨w3.heap.size,0,none⟩ 1 1 [J Z (pfV (A j) 32),J Z ((A j).size:Int)] rfl rfl (ze8 _ _ _ _) (fun x k=>by simp at k;rcases k with rfl | rfl<;>rfl) (by unfold maxLen;omega) (by omega) (by simp;omega) ?_;intro v' w4 s l _)
   have a5:Hid (Below w1.heap.size w1 w4):=(C.out.alloc C.out.size _).grown l (by simp;omega) (fun q hq=>(N.out.lt q hq).1)
   go_roundg (gk-1)
   case measure=>omega
   case rel=>exact ⟨j+1,by omega,by go_num,s,a5⟩
  ·have a8:j=m:=by omega
   subst a8
   have F:¬ (j:Int)<(j:Int):=by omega
   obtain ⟨lo,lb,lc,rfl,_,_,E⟩:=Z4 HO.out
   have r:=(Y.out.block w.heap.size (by rw [HS.out];omega)).trans b3.out
   have r0:wr.cell? ⟨w.heap.size,0,none⟩=some (J Z a):=by simp [World.cell?,r]
   have r1:wr.cell? ⟨w.heap.size,1,none⟩=some (J Z b):=by simp [World.cell?,r]
   have z:=Qz lo lb j lc (bpV A) (bpL A) (zW a b) wr b2 hL E HP.out
   have S:=M.best_lo (V:=bpV A) (L:=bpL A) (a:=zW a b) (n:=j)
   obtain ⟨K,HK⟩:∃ K,Hid (M.bestTo (bpV A) (bpL A) (zW a b) j=K):=⟨_,rfl⟩
   obtain ⟨dp,HD⟩:∃ dp,Hid (M.depTo (bpV A) (bpL A) (zW a b) j=dp):=⟨_,rfl⟩
   rw [HK.out,HD.out] at z
   rw [HK.out] at S
   clear r E
   go_wp2_with fail
   refine (R.out _).mono ?_
   rintro e w' ⟨rfl,b5⟩
   subst w'
   go_wp2_with fail
   refine z.mono ?_
   rintro e w5 ⟨rfl,q,rfl⟩
   have U:Hid (Below w1.heap.size w1 (wr.drewN q)):=zL Y.out q
   have B:Hid (Below w.heap.size w (wr.drewN q)):=D.out.trans (U.out.mono (by rw [HS.out];omega))
   clear z r0 r1
   by_cases hk:K<0
   ·have G:Jh L A K other=other:=by unfold Jh;rw [if_pos hk]
    have HE:Hid _:=G
    clear G
    generalize wr.drewN q=w5 at *
    go_wp2_with fail
    go_ret2
    exact ⟨B.out,by rw [HK.out,HD.out,HE.out];rfl⟩
   ·obtain ⟨h,rfl⟩:∃ h:Nat,K=h:=⟨K.toNat,by omega⟩
    have a7:h<j:=by omega
    obtain ⟨x,k⟩:∃ x,L[h]?=some x:=⟨L[h]'(by rw [HM.out];exact a7),List.getElem?_eq_getElem _⟩
    obtain ⟨c1,c2,c3,c4⟩:=Q.out h x k
    have G:Jh L A (h:Int) other=x.extract ((A h).size+1) x.size:=by unfold Jh;rw [if_neg hk];simp only [Int.toNat_natCast];rw [k]
    have HE:Hid _:=G
    have hv:(wr.drewN q).cell? ⟨io,h,none⟩=some (.string x):=by
     rw [U.out.cell (p:=⟨io,h,none⟩) (by rw [HS.out];simp only;omega),D.out.cell (p:=⟨io,h,none⟩) hio];exact c1
    have f:=fun wz=>qo x (A h) wz c4 c2 c3
    have b8:(0:Int)<=(h:Int):=by omega
    have b7:(h:Int)<(j:Int):=by omega
    clear c1 c2 k G S
    generalize wr.drewN q=w5 at *
    go_wp2_with fail
    refine (f _).mono ?_
    rintro e w6 ⟨H,rfl⟩
    have b4:Hid _:=B.out.trans (H.mono B.out.size)
    clear H hv f
    go_wp2_with fail
    go_ret2
    exact ⟨b4.out,by rw [HK.out,HD.out,HE.out];rfl⟩
theorem jS (B0:Nat) (Q:World->Prop) (hQ:∀ w w',Q w->Below w.heap.size w w'->Q w') (P:Value) (t a b:ByteArray) (x:WD) (A:Nat->ByteArray) (y:ByteArray) (m:MN) (w:World) (hB0:B0<=w.heap.size) (hs:t.size<=2000) (h:T.ch t 0=109) (h3:3<=t.size) (ha:(spl (t.extract 2 (t.size-1)) 124)[0]?=some a) (hb:(spl (t.extract 2 (t.size-1)) 124)[1]?=some b) (hL:(spl a 44).length<=64)
 (hi:∀ i z,(spl a 44)[i]?=some z->(spl z 58)[0]?=some (A i)/\(A i).size+1<=z.size/\z.size<=2000) (hp:∀ i,i<(spl a 44).length->M.isP (bpV A i) (bpL A i)=true) (hA:M.isA x.a=true) (b0:0<=x.b) (b1:x.b<=32) (hx:Q w) (hy:Jh (spl a 44) A (M.bestTo (bpV A) (bpL A) (zW x.a x.b) (spl a 44).length) b=y)
 (ih:∀ wz,Q wz->Calls Tryz.prog 117 #[P,.string y,x.val] wz (ZW B0 wz m)) :
 Calls Tryz.prog 117 #[P,.string t,x.val] w (ZW B0 w ⟨m.sv,m.ttl,if m.sc<M.depTo (bpV A) (bpL A) (zW x.a x.b) (spl a 44).length then M.depTo (bpV A) (bpL A) (zW x.a x.b) (spl a 44).length else m.sc⟩):=by
 obtain ⟨h0,hc⟩:=Zj h (by decide)
 have b4:(3:Int)<=(t.size:Int):=by omega
 have b3:(t.size:Int)<=2000:=by omega
 have a5:Hid (∀ wz,Calls Tryz.prog 101 #[.string t] wz fun e w'=>Below wz.heap.size wz w'/\∃ v,e=.returned (.tuple #[v,.string b])/\w'.ownsRow wz.heap.size 9 1 v (spl a 44).length ((spl a 44).map Value.string)):=fun wz=>Z1 t a b wz hs h3 ha hb
 have IH:Hid _:=ih
 have HQ:Hid _:=hQ
 have a4:Hid _:=hx
 obtain ⟨d,HD⟩:∃ d,Hid (M.depTo (bpV A) (bpL A) (zW x.a x.b) (spl a 44).length=d):=⟨_,rfl⟩
 have a8:Hid (∀ wz io ic,zeZ wz io (spl a 44) A->io<wz.heap.size->Calls Tryz.prog 155 #[.agg #[J Z x.a,J Z x.b,J Z x.d,O x.do_ x.dl x.dc,O x.ao x.al.length x.ac,O x.po x.pl x.pcp],O (some ⟨io,0,none⟩) (spl a 44).length ic,.string b] wz fun e w'=>Below wz.heap.size wz w'/\e=.returned (.tuple #[.string y,J Z d])):=fun wz io ic h1 h2=>by
  have:=jl x.a x.b x.d x.do_ x.dl x.dc x.ao x.po x.al.length x.ac x.pl x.pcp io (spl a 44) ic A b wz hA b0 b1 hL h1 h2 hp
  rw [hy,HD.out] at this
  exact this
 have b2:Hid _:=hi
 have a6:Hid (0<(spl a 44).length):=Zd _ _
 have b5:Hid _:=hL
 rw [HD.out]
 obtain ⟨sc,E⟩:∃ sc,Hid ((if m.sc<d then d else m.sc)=sc):=⟨_,rfl⟩
 rw [E.out]
 have a2:Hid (∀ o n k wz,Calls Tryz.prog 156 #[.agg #[O o n k,J Z m.ttl,J Z m.sc],J Z d] wz fun e w'=>Below wz.heap.size wz w'/\e=.returned (.agg #[O o n k,J Z m.ttl,J Z sc])):=fun o n k wz=>by rw [<- E.out];exact Qo o n k m.ttl m.sc d wz
 clear hi hp hA b0 b1 hL hy ih ha hb hx hQ
 generalize spl a 44=L at *
 unfold WD.val at IH ⊢
 have V:Hid (Below w.heap.size w ((w.alloc (X #[J Z x.a,J Z x.b,J Z x.d,O x.do_ x.dl x.dc,O x.ao x.al.length x.ac,O x.po x.pl x.pcp] 31)).alloc (X #[O none 0 0,J Z 0,J Z 0] 42))):=((Below.refl _ _).alloc (Nat.le_refl _) _).alloc (by simp) _
 have D:Hid (((w.alloc (X #[J Z x.a,J Z x.b,J Z x.d,O x.do_ x.dl x.dc,O x.ao x.al.length x.ac,O x.po x.pl x.pcp] 31)).alloc (X #[O none 0 0,J Z 0,J Z 0] 42)).heap[w.heap.size]?=some (X #[J Z x.a,J Z x.b,J Z x.d,O x.do_ x.dl x.dc,O x.ao x.al.length x.ac,O x.po x.pl x.pcp] 31 (0,0))):=by show _=_;rw [Below.heap_alloc _ _ _ (by simp)];exact heap_alloc_new w _
 have I:Hid (((w.alloc (X #[J Z x.a,J Z x.b,J Z x.d,O x.do_ x.dl x.dc,O x.ao x.al.length x.ac,O x.po x.pl x.pcp] 31)).alloc (X #[O none 0 0,J Z 0,J Z 0] 42)).heap[w.heap.size+1]?=some (X #[O none 0 0,J Z 0,J Z 0] 42 (0,0))):=zu _ (by simp)
 go_enter Tryz.func117,Tryz.ntmps117
 go_wp2_with fail
 refine (a5.out _).mono ?_
 rintro e w1 ⟨p,v,rfl,f⟩
 have U:Hid _:=V.out.trans (p.mono V.out.size)
 have r:Hid _:=(p.block _ (lt_of_block D.out)).trans D.out
 have H:Hid _:=(p.block _ (lt_of_block I.out)).trans I.out
 obtain ⟨g,a1,rfl,_,a0⟩:=z8 f a6.out
 have R:=a8.out w1 g a1 (fun i z hz=>⟨yf f hz,b2.out i z hz⟩) a0
 obtain ⟨q0,q1,q2,q3,Y,W⟩:=ld6 r.out rfl
 clear p f
 generalize L.length=n at *
 go_wp2_with fail
 refine R.mono ?_
 rintro e w2 ⟨l,rfl⟩
 have u:Hid _:=U.out.trans (l.mono U.out.size)
 have a3:Hid _:=(l.block _ (lt_of_block r.out)).trans r.out
 have s:Hid _:=(l.block _ (lt_of_block H.out)).trans H.out
 clear l R q0 q1 q2 q3 Y W
 obtain ⟨q0,q1,q2,q3,Y,W⟩:=ld6 a3.out rfl
 go_wp2_with fail
 refine (IH.out _ (HQ.out _ _ a4.out u.out)).mono ?_
 rintro e w3 ⟨q,o,k,gi,gf,rfl,B,C⟩
 have S:Hid _:=u.out.trans (q.mono u.out.size)
 have G:Hid _:=(q.block _ (lt_of_block s.out)).trans s.out
 have N:Hid _:=B
 have a7:Hid (0<m.sv.length->gi<B0\/w.heap.size+2<=gi):=fun h0=>by
  have h1:=C h0
  have h2:=lt_of_block s.out
  omega
 clear q B C q0 q1 q2 q3 Y W
 go_wp2_with fail
 refine (a2.out o m.sv.length k _).mono ?_
 rintro e w4 ⟨j,rfl⟩
 have a9:Hid _:=S.out.trans (j.mono S.out.size)
 have F:Hid _:=(j.block _ (lt_of_block G.out)).trans G.out
 have K:Hid _:=N.out.below j N.out.lt
 obtain ⟨y0,y1,y2,z0,z1,z2⟩:=ld3 F.out
 clear j
 go_wp2_with fail
 exact yH (k:=k) (m:=⟨m.sv,m.ttl,sc⟩) a9.out F.out K.out hB0 a7.out rfl
def Xe (A:Nat->ByteArray) (r:Int) (other:ByteArray):Nat->List ByteArray->ByteArray
 | _,[]=>other
 | i,x::xs=>if T.val (A i) (A i).size=r then x.extract ((A i).size+1) x.size else Xe A r other (i+1) xs
def brE (L:List ByteArray) (A:Nat->ByteArray) (R:Nat->Int) (k:Int) (other:ByteArray):ByteArray:=if k<0 then other else Xe A (R k.toNat) other 0 L
theorem jk (a b d:Int) (o:Option Addr) (n c:Nat) (ao po:Option Addr) (al ac pb poff pl pcp:Nat) (V Lp R:Nat->Int) (io:Nat) (L:List ByteArray) (ic:Nat) (A:Nat->ByteArray) (other:ByteArray) (w:World) (hA:M.isA a=true) (b0:0<=b) (b1:b<=32) (hL:L.length<=2001) (hi:zeZ w io L A) (hd:∀ i,i<L.length->T.digs (A i)/\(A i).size<=9) (hio:io<w.heap.size) (hts:TS w po pb poff pl V Lp R) (hpl:pl<=64) (hp:∀ i,i<pl->M.isP (V i) (Lp i)=true) :
 Calls Tryz.prog 157 #[.agg #[J Z a,J Z b,J Z d,O o n c,O ao al ac,O po pl pcp],O (some ⟨io,0,none⟩) L.length ic,.string other] w fun e w'=>Below w.heap.size w w'/\e=.returned (.tuple #[.string (brE L A R (M.bestTo V Lp (zW a b) pl) other),J Z (M.depTo V Lp (zW a b) pl)]):=by
 obtain ⟨m,hm⟩:∃ m,L.length=m:=⟨_,rfl⟩
 have HM:Hid _:=hm
 rw [hm] at hL hd ⊢
 clear hm
 have c8:Hid _:=hd
 have c5:Hid _:=hi
 have a6:Hid _:=hts
 obtain ⟨a0,a1⟩:=M.isA_iff.1 hA
 obtain ⟨k0,k1⟩:=qg (n:=b) a0 a1
 have a3:M.isA (zW a b)=true:=M.isA_iff.2 ⟨k0,k1⟩
 have C:Hid (∀ wz,Calls Tryz.prog 167 #[J Z a,J Z b] wz fun e w'=>e=.returned (J Z (zW a b))/\w'=wz):=fun wz=>ZN a b wz a0 a1 b0 b1
 have a9:Hid (∀ wz,TS wz po pb poff pl V Lp R->Calls Tryz.prog 42 #[O po pl pcp] wz fun e w'=>(∃ v,e=.returned v/\w'.ownsRow wz.heap.size 94 2 v pl (pc V Lp pl))/\Below wz.heap.size wz w'):=fun wz h=>Xg po pb poff pl pcp V Lp R wz (by omega) h
 have c9:=M.best_lo (V:=V) (L:=Lp) (a:=zW a b) (n:=pl)
 obtain ⟨K,N⟩:∃ K,Hid (M.bestTo V Lp (zW a b) pl=K):=⟨_,rfl⟩
 obtain ⟨dp,HD⟩:∃ dp,Hid (M.depTo V Lp (zW a b) pl=dp):=⟨_,rfl⟩
 have b2:Hid (∀ I Q lc wz,PS wz I Q pl V Lp->Calls Tryz.prog 115 #[O I pl lc,J Z (zW a b)] wz fun e w'=>e=.returned (.tuple #[J Z K,J Z dp])/\∃ m,w'=wz.drewN m):=fun I Q lc wz h=>by
  rw [<- N.out,<- HD.out];exact Qz I Q pl lc V Lp (zW a b) wz a3 hpl h hp
 rw [N.out] at c9
 clear hi hd hts hp hA a3 k0 k1
 generalize zW a b=ca at *
 have y:Hid (Below w.heap.size w (w.alloc (X #[J Z a,J Z b,J Z d,O o n c,O ao al ac,O po pl pcp] 31))):=(Below.refl _ _).alloc (Nat.le_refl _) _
 have s:Hid ((w.alloc (X #[J Z a,J Z b,J Z d,O o n c,O ao al ac,O po pl pcp] 31)).heap[w.heap.size]?=some (X #[J Z a,J Z b,J Z d,O o n c,O ao al ac,O po pl pcp] 31 (0,0))):=heap_alloc_new w _
 have HS:Hid ((w.alloc (X #[J Z a,J Z b,J Z d,O o n c,O ao al ac,O po pl pcp] 31)).heap.size=w.heap.size+1):=by show _=_;simp
 go_enter Tryz.func157,Tryz.ntmps157
 go_upto_region 1 with fail
 generalize w.alloc (X #[J Z a,J Z b,J Z d,O o n c,O ao al ac,O po pl pcp] 31)=w1 at *
 have a5:Hid _:=a6.out.below y.out
 have k:w.heap.size<w1.heap.size:=lt_of_block s.out
 obtain ⟨q0,q1,-,-,-,P⟩:=ld6 s.out rfl
 go_cut [8,9] (fun s8 s9 wx=>s8=J Z K/\s9=J Z dp/\Below w1.heap.size w1 wx)
 case first =>
  go_region_held3 (fun w'=>w'.cell? ⟨w.heap.size,0,none⟩=some (J Z a)/\w'.cell? ⟨w.heap.size,1,none⟩=some (J Z b)/\w'.cell? ⟨w.heap.size,5,none⟩=some (O po pl pcp)) (first | (exact ⟨q0,q1,P⟩) | (exact ⟨G.1,G.2.1,G.2.2.2.2.2⟩) | go_keep) (first | (go_at_call 42;refine (a9.out _ (a5.out.below (by first | exact (Below.refl _ _).drew | exact Below.refl _ _))).mono ?_;rintro e E ⟨⟨v,rfl,ho⟩,l⟩;obtain ⟨I,Q,lc,rfl,-,-,S⟩:=Z4 ho;have b9:Hid (PS E I Q pl V Lp):=S;have u:Hid (Below w1.heap.size w1 E):=(Below.refl _ _).drew.trans (l.mono (Nat.le_refl _));have G:=ld6 s.out (u.out.block _ k);clear S ho l) | (go_at_call 167;refine (C.out _).mono ?_;rintro e w' ⟨rfl,d3⟩;subst w') | (go_at_call 115;refine (b2.out _ _ _ _ b9.out).mono ?_;rintro e w3 ⟨rfl,q,rfl⟩))
  all_goals
   go_wp2_with fail
   go_meet
   exact ⟨rfl,rfl,zL u.out q⟩
 case rest =>
 obtain ⟨rfl,rfl,l⟩:=hcut
 obtain ⟨E,b4⟩:∃ E,E=wc:=⟨_,rfl⟩
 subst b4
 have u:Hid _:=l
 clear l q0 q1 P a9 C b2
 by_cases hk:K<0
 ·have HE:Hid (brE L A R K other=other):=by show _=_;unfold brE;rw [if_pos hk]
  have f:Hid (Below w.heap.size w E):=y.out.trans (u.out.mono (by rw [HS.out];omega))
  have d7:¬ 0<=K:=by omega
  go_wp2_with fail
  go_loopg [10] 1 (fun q x wr=>x=J Z 0/\wr=E)
  case atStart=>exact ⟨rfl,rfl⟩
  case round =>
   obtain ⟨rfl,rfl⟩:=hrel
   by_cases d4:(0:Int)<(m:Int)
   ·go_wp2_with fail
    go_ret2
    exact ⟨f.out,by rw [N.out,HD.out,HE.out];rfl⟩
   ·go_wp2_with fail
    go_ret2
    exact ⟨f.out,by rw [N.out,HD.out,HE.out];rfl⟩
 ·obtain ⟨g,rfl⟩:∃ g:Nat,K=g:=⟨K.toNat,by omega⟩
  have b5:g<pl:=by omega
  have d6:(0:Int)<=(g:Int):=by omega
  have d5:(g:Int)<(pl:Int):=by omega
  obtain rfl:=a6.out.at_ (by omega)
  have HE:Hid (brE L A R (g:Int) other=Xe A (R g) other 0 L):=by show _=_;unfold brE;rw [if_neg hk];simp only [Int.toNat_natCast]
  have a8:Hid (∀ wz,Below w1.heap.size w1 wz->wz.cell? ⟨pb,poff+g*3+2,none⟩=some (J Z (R g))):=fun wz h=>((a5.out.below h).reg g b5)
  generalize R g=r at *
  go_wp2_with fail
  go_loopg [10] m (fun q x wr=>∃ j:Nat,q+j=m/\x=J Z j/\Hid (Xe A r other j (L.drop j)=Xe A r other 0 L)/\Hid (Below w1.heap.size w1 wr))
  case atStart=>exact ⟨0,by omega,rfl,by rw [List.drop_zero];exact (rfl:_=_),u.out⟩
  case round =>
   obtain ⟨j,hj,rfl,HG,HB⟩:=hrel
   by_cases W:j<m
   ·have U:(j:Int)<(m:Int):=by omega
    obtain ⟨x,hx⟩:∃ x,L[j]?=some x:=⟨L[j]'(by rw [HM.out];exact W),List.getElem?_eq_getElem _⟩
    obtain ⟨c1,c2,c3,c4⟩:=c5.out j x hx
    obtain ⟨d1,d2⟩:=c8.out j W
    have c7:Hid (L.drop j=x::L.drop (j+1)):=by
     show _=_
     obtain ⟨b7,b3⟩:=List.getElem?_eq_some_iff.1 hx
     rw [List.drop_eq_getElem_cons b7,b3]
    have hv:wr.cell? ⟨io,j,none⟩=some (.string x):=by
     rw [HB.out.cell (p:=⟨io,j,none⟩) (by rw [HS.out];simp only;omega),y.out.cell (p:=⟨io,j,none⟩) hio];exact c1
    have D:=fun wz=>qo x (A j) wz c4 c2 c3
    have a4:Hid (∀ wz,Calls Tryz.prog 151 #[.string (A j)] wz fun e w'=>Below wz.heap.size wz w'/\e=.returned (J Z (T.val (A j) (A j).size))):=fun wz=>(Zn (A j) wz (by omega)).mono (by rintro e w' ⟨hb,v,rfl,hv⟩;exact ⟨hb,by rw [hv d1 d2]⟩)
    have a7:Hid (Xe A r other j (L.drop j)=if T.val (A j) (A j).size=r then x.extract ((A j).size+1) x.size else Xe A r other (j+1) (L.drop (j+1))):=by show _=_;rw [c7.out];rfl
    generalize T.val (A j) (A j).size=v at *
    clear c1 c2 d1 hx
    go_wp2_with fail
    refine (D _).mono ?_
    rintro e w3 ⟨Y,rfl⟩
    have B:Hid _:=HB.out.trans (Y.mono HB.out.size)
    clear Y hv D
    obtain ⟨-,-,-,-,-,P⟩:=ld6 s.out (B.out.block _ k)
    have qr:=a8.out w3 B.out
    go_wp2_with fail
    go_region_held3 (fun w'=>w'.cell? ⟨w.heap.size,5,none⟩=some (O (some ⟨pb,poff,none⟩) pl pcp)/\w'.cell? ⟨pb,poff+g*3+2,none⟩=some (J Z r)) (first | (exact ⟨P,qr⟩) | (exact a2) | go_keep) (first | (go_at_call 151;refine (a4.out _).mono ?_;rintro e w4 ⟨b8,rfl⟩;have z:Hid (Below w1.heap.size w1 w4):=B.out.drew.trans (b8.mono B.out.size);have a2:=And.intro (ld6 s.out (z.out.block _ k)).2.2.2.2.2 (a8.out _ z.out)))
    all_goals
     clear P qr a2
     by_cases F:v=r
     ·subst F
      have f:Hid (Below w.heap.size w w4):=y.out.trans (z.out.mono (by rw [HS.out];omega))
      have H:Hid (Xe A v other 0 L=x.extract ((A j).size+1) x.size):=by show _=_;rw [<- HG.out,a7.out,if_pos rfl]
      go_wp2_with fail
      go_ret2
      exact ⟨f.out,by rw [N.out,HD.out,HE.out,H.out];rfl⟩
     ·have d0:(v==r)=false:=by simp [F]
      have c6:Hid (Xe A r other (j+1) (L.drop (j+1))=Xe A r other 0 L):=by show _=_;rw [<- HG.out,a7.out,if_neg F]
      go_wp2_with fail
      go_roundg (gk-1)
      case measure=>omega
      case rel=>exact ⟨j+1,by omega,by go_num,c6,z⟩
   ·have b6:j=m:=by omega
    subst b6
    have U:¬ (j:Int)<(j:Int):=by omega
    have f:Hid (Below w.heap.size w wr):=y.out.trans (HB.out.mono (by rw [HS.out];omega))
    have H:Hid (Xe A r other 0 L=other):=by show _=_;rw [<- HG.out,List.drop_eq_nil_of_le (by rw [HM.out];omega)];rfl
    go_wp2_with fail
    go_ret2
    exact ⟨f.out,by rw [N.out,HD.out,HE.out,H.out];rfl⟩
theorem jR (B0:Nat) (Q:World->Prop) (hQ:∀ w w',Q w->Below w.heap.size w w'->Q w') (P:Value) (t a b:ByteArray) (x:WD) (A:Nat->ByteArray) (y:ByteArray) (m:MN) (w:World) (hB0:B0<=w.heap.size) (hs:t.size<=2000) (h:T.ch t 0=103) (h3:3<=t.size) (ha:(spl (t.extract 2 (t.size-1)) 124)[0]?=some a) (hb:(spl (t.extract 2 (t.size-1)) 124)[1]?=some b) (hL:(spl a 44).length<=2001)
 (hi:∀ i z,(spl a 44)[i]?=some z->(spl z 58)[0]?=some (A i)/\(A i).size+1<=z.size/\z.size<=2000) (hd:∀ i,i<(spl a 44).length->T.digs (A i)/\(A i).size<=9) (hQx:∀ w,Q w->TS w x.po x.pb x.poff x.pl x.V x.L x.R) (hpl:x.pl<=64) (hp:∀ i,i<x.pl->M.isP (x.V i) (x.L i)=true) (hA:M.isA x.a=true) (b0:0<=x.b) (b1:x.b<=32) (hx:Q w) (hy:brE (spl a 44) A x.R (M.bestTo x.V x.L (zW x.a x.b) x.pl) b=y)
 (ih:∀ wz,Q wz->Calls Tryz.prog 117 #[P,.string y,x.val] wz (ZW B0 wz m)) :
 Calls Tryz.prog 117 #[P,.string t,x.val] w (ZW B0 w ⟨m.sv,m.ttl,if m.sc<M.depTo x.V x.L (zW x.a x.b) x.pl then M.depTo x.V x.L (zW x.a x.b) x.pl else m.sc⟩):=by
 obtain ⟨h0,hc⟩:=Zj h (by decide)
 have b4:(3:Int)<=(t.size:Int):=by omega
 have b3:(t.size:Int)<=2000:=by omega
 have a5:Hid (∀ wz,Calls Tryz.prog 101 #[.string t] wz fun e w'=>Below wz.heap.size wz w'/\∃ v,e=.returned (.tuple #[v,.string b])/\w'.ownsRow wz.heap.size 9 1 v (spl a 44).length ((spl a 44).map Value.string)):=fun wz=>Z1 t a b wz hs h3 ha hb
 have IH:Hid _:=ih
 have HQ:Hid _:=hQ
 have N:Hid _:=hx
 obtain ⟨d,HD⟩:∃ d,Hid (M.depTo x.V x.L (zW x.a x.b) x.pl=d):=⟨_,rfl⟩
 have a8:Hid (∀ wz io ic,zeZ wz io (spl a 44) A->io<wz.heap.size->Q wz->Calls Tryz.prog 157 #[.agg #[J Z x.a,J Z x.b,J Z x.d,O x.do_ x.dl x.dc,O x.ao x.al.length x.ac,O x.po x.pl x.pcp],O (some ⟨io,0,none⟩) (spl a 44).length ic,.string b] wz fun e w'=>Below wz.heap.size wz w'/\e=.returned (.tuple #[.string y,J Z d])):=fun wz io ic h1 h2 h4=>by
  have:=jk x.a x.b x.d x.do_ x.dl x.dc x.ao x.po x.al.length x.ac x.pb x.poff x.pl x.pcp x.V x.L x.R io (spl a 44) ic A b wz hA b0 b1 hL h1 hd h2 (hQx wz h4) hpl hp
  rw [hy,HD.out] at this
  exact this
 have b2:Hid _:=hi
 have a6:Hid (0<(spl a 44).length):=Zd _ _
 have b5:Hid _:=hL
 rw [HD.out]
 obtain ⟨sc,F⟩:∃ sc,Hid ((if m.sc<d then d else m.sc)=sc):=⟨_,rfl⟩
 rw [F.out]
 have a3:Hid (∀ o n k wz,Calls Tryz.prog 156 #[.agg #[O o n k,J Z m.ttl,J Z m.sc],J Z d] wz fun e w'=>Below wz.heap.size wz w'/\e=.returned (.agg #[O o n k,J Z m.ttl,J Z sc])):=fun o n k wz=>by rw [<- F.out];exact Qo o n k m.ttl m.sc d wz
 clear hi hp hA b0 b1 hL hy ih ha hb hx hQ hd hQx hpl
 generalize spl a 44=L at *
 unfold WD.val at IH ⊢
 have a0:Hid (Below w.heap.size w ((w.alloc (X #[J Z x.a,J Z x.b,J Z x.d,O x.do_ x.dl x.dc,O x.ao x.al.length x.ac,O x.po x.pl x.pcp] 31)).alloc (X #[O none 0 0,J Z 0,J Z 0] 42))):=((Below.refl _ _).alloc (Nat.le_refl _) _).alloc (by simp) _
 have E:Hid (((w.alloc (X #[J Z x.a,J Z x.b,J Z x.d,O x.do_ x.dl x.dc,O x.ao x.al.length x.ac,O x.po x.pl x.pcp] 31)).alloc (X #[O none 0 0,J Z 0,J Z 0] 42)).heap[w.heap.size]?=some (X #[J Z x.a,J Z x.b,J Z x.d,O x.do_ x.dl x.dc,O x.ao x.al.length x.ac,O x.po x.pl x.pcp] 31 (0,0))):=by show _=_;rw [Below.heap_alloc _ _ _ (by simp)];exact heap_alloc_new w _
 have K:Hid (((w.alloc (X #[J Z x.a,J Z x.b,J Z x.d,O x.do_ x.dl x.dc,O x.ao x.al.length x.ac,O x.po x.pl x.pcp] 31)).alloc (X #[O none 0 0,J Z 0,J Z 0] 42)).heap[w.heap.size+1]?=some (X #[O none 0 0,J Z 0,J Z 0] 42 (0,0))):=zu _ (by simp)
 go_enter Tryz.func117,Tryz.ntmps117
 go_wp2_with fail
 refine (a5.out _).mono ?_
 rintro e w1 ⟨p,v,rfl,f⟩
 have B:Hid _:=a0.out.trans (p.mono a0.out.size)
 have r:Hid _:=(p.block _ (lt_of_block E.out)).trans E.out
 have I:Hid _:=(p.block _ (lt_of_block K.out)).trans K.out
 obtain ⟨g,a2,rfl,_,a1⟩:=z8 f a6.out
 have W:=a8.out w1 g a2 (fun i z hz=>⟨yf f hz,b2.out i z hz⟩) a1 (HQ.out _ _ N.out B.out)
 obtain ⟨q0,q1,q2,q3,q4,q5⟩:=ld6 r.out rfl
 clear p f
 generalize L.length=n at *
 go_wp2_with fail
 refine W.mono ?_
 rintro e w2 ⟨l,rfl⟩
 have u:Hid _:=B.out.trans (l.mono B.out.size)
 have a4:Hid _:=(l.block _ (lt_of_block r.out)).trans r.out
 have s:Hid _:=(l.block _ (lt_of_block I.out)).trans I.out
 clear l W q0 q1 q2 q3 q4 q5
 obtain ⟨q0,q1,q2,q3,q4,q5⟩:=ld6 a4.out rfl
 go_wp2_with fail
 refine (IH.out _ (HQ.out _ _ N.out u.out)).mono ?_
 rintro e w3 ⟨q,o,k,gi,gf,rfl,C,D⟩
 have Y:Hid _:=u.out.trans (q.mono u.out.size)
 have H:Hid _:=(q.block _ (lt_of_block s.out)).trans s.out
 have U:Hid _:=C
 have a7:Hid (0<m.sv.length->gi<B0\/w.heap.size+2<=gi):=fun h0=>by
  have h1:=D h0
  have h2:=lt_of_block s.out
  omega
 clear q C D q0 q1 q2 q3 q4 q5
 go_wp2_with fail
 refine (a3.out o m.sv.length k _).mono ?_
 rintro e w4 ⟨j,rfl⟩
 have a9:Hid _:=Y.out.trans (j.mono Y.out.size)
 have G:Hid _:=(j.block _ (lt_of_block H.out)).trans H.out
 have S:Hid _:=U.out.below j U.out.lt
 obtain ⟨y0,y1,y2,z0,z1,z2⟩:=ld3 G.out
 clear j
 go_wp2_with fail
 exact yH (k:=k) (m:=⟨m.sv,m.ttl,sc⟩) a9.out G.out S.out hB0 a7.out rfl
theorem QO (s:Int) (w:World) :
 Calls Tryz.prog 158 #[J Z s] w fun e w'=>Below w.heap.size w w'/\∃ g,e=.returned (.agg #[O (some ⟨g,0,none⟩) 1 1,J Z 86400,J Z 0])/\w.heap.size<=g/\w'.cell? ⟨g,0,none⟩=some (J Z s):=by
 go_enter Tryz.func158,Tryz.ntmps158
 go_wp2_with fail
 exact bodyPost_ret (v:=.agg #[O (some ⟨w.heap.size+1,0,none⟩) 1 1,J Z 86400,J Z 0]) (by simp [results,Tryz.results158,go_sem]) rfl ⟨((Below.refl _ _).alloc (Nat.le_refl _) _).alloc (by simp) _,_,rfl,by omega,by have h:=heap_alloc_new (w.alloc (X #[O (some ⟨w.heap.size+1,0,none⟩) 1 1,J Z 86400,J Z 0] 42)) (X #[J Z s] 3 (0,0));rw [show (w.alloc (X #[O (some ⟨w.heap.size+1,0,none⟩) 1 1,J Z 86400,J Z 0] 42)).heap.size=w.heap.size+1 from by simp] at h;simp only [World.cell?,h];rfl⟩
end Go.Proofs.YtaebngpoagjafabGreat
