import Derived.Test.YtaebngpoagjafaaGreatR18
import Derived.Test.YtaebngpoagjafaaGreatR01
import Derived.Laws.CopyOwn
set_option maxRecDepth 100000
set_option maxHeartbeats 1000000
namespace Go.Proofs.YtaebngpoagjafaaGreat
open Value renaming int → J, slice → O
open IntKind renaming i64 → Z
open Go.RowKit
attribute [local go_sem ↓] Go.wp_at_zero Go.wp_at_succ
theorem xN (F f:Nat->Value) (m N:Nat) (cur:Array Value) (hc:∀ i,i<N->cur[i]?=some (f i)) (i:Nat) (hi:i<N):((List.range m).map F++cur.toList.drop m)[i]?=some (if i<m then F i else f i):=by
 by_cases h:i<m
 ·rw [List.getElem?_append_left (by simpa using h),if_pos h]
  simp [h]
 ·rw [List.getElem?_append_right (by simp;omega),if_neg h]
  simp only [List.length_map,List.length_range,List.getElem?_drop]
  rw [show m+(i-m)=i from by omega]
  simpa using hc i hi
theorem Yl {P:Program} (w:World) (dT sT ty elem:TypeId) (sz g dLen dCap:Nat) (sp:Option Addr) (sLen sCap:Nat) (t:TypeId) (N:Nat) (f F:Nat->Value)
 (hu:P.underlying dT=some (.slice elem)) (hs:(P.info? elem).map (·.size)=some sz) (hg:w.rowIs g t N f) (hle:sLen<=dLen)
 (hpos:0<sLen->∃ ad,sp=some ad/\∀ j,j<sLen*sz->w.cell? (ad.add j)=some (F j)) (hone:∀ j,j<sLen*sz->(F j).oneCell'=true) (hfit:sLen*sz<=N) :
 ∃ w',(Builtin.copy_ #[dT,sT] ty #[O (some ⟨g,0,none⟩) dLen dCap,O sp sLen sCap]).run P w=.ok (goInt sLen) w'/\w'.rowIs g t N (fun j=>if j<sLen*sz then F j else f j)/\(∀ B w0,Below B w0 w->B<=g->Below B w0 w')/\∀ b,b≠g->w'.heap[b]?=w.heap[b]?:=by
 obtain ⟨cur,hb,hN,hc⟩:=hg
 have hmin:Nat.min sLen dLen=sLen:=Nat.min_eq_left hle
 cases hq:P.info? elem with
 | none=>simp [hq] at hs
 | some i =>
  have hi:i.size=sz:=by simpa [hq] using hs
  by_cases h0:sLen=0
  ·subst h0
   have hl:∀ (x:Addr),(loadCells x 0).run P w=.ok #[] w:=fun x=>by simpa using run_loadCells_list (P:=P) w x [] (by simp)
   refine ⟨w,?_,⟨cur,hb,hN,fun j hj=>by simpa using hc j hj⟩,fun _ _ h _=>h,fun _ _=>rfl⟩
   cases sp<;>simp [Builtin.copy_,run_underlying hu,Builtin.lenOf,Builtin.firstCells,sizeOf,typeInfo,hq,storeCells,hl]
  ·obtain ⟨ad,rfl,hsrc⟩:=hpos (by omega)
   have hln:((List.range (sLen*sz)).map F).length=sLen*sz:=by simp
   have hl:=run_loadCells_list (P:=P) w ad ((List.range (sLen*sz)).map F) (fun j v hv=>by
    have hj:j<sLen*sz:=by have:=(List.getElem?_eq_some_iff.1 hv).1;simpa using this
    simp [hj] at hv
    rw [hsrc j hj,hv])
   have hst:=run_storeCells_at P g 0 t ((List.range (sLen*sz)).map F) 0 cur w hb (by simpa [hN] using hfit) (fun v hv=>by
    simp only [List.mem_map,List.mem_range] at hv
    obtain ⟨j,hj,rfl⟩:=hv
    exact hone j hj)
   rw [hln] at hl hst
   simp only [Nat.add_zero,Nat.zero_add,List.take_zero,List.nil_append] at hst
   refine ⟨w.setRow g ((List.range (sLen*sz)).map F++cur.toList.drop (sLen*sz)).toArray,?_,⟨_,setRow_heap w g cur _ t _ hb,?_,fun j hj=>?_⟩,fun B w0 h hB=>below_setRow h hB _,fun b hb'=>setRow_other w g b _ hb'⟩
   ·simp [Builtin.copy_,run_underlying hu,Builtin.lenOf,Builtin.firstCells,sizeOf,typeInfo,hq,hi,hmin,hl,hst]
   ·simp [hN];omega
   ·rw [List.getElem?_toArray]
    exact xN F f _ N cur hc j hj
def LnI (B:Nat) (w:World) (o:Option Addr) (v:Value) (n:Nat) (D:Nat->Int):Prop:=(o=none/\v=O none 0 0/\n=0)\/∃ ad g f,o=some ad/\v=O (some ⟨g,0,none⟩) n (n+8)/\B<=g/\w.rowIs g 3 (n+8) f/\∀ i,i<n+8->f i=J Z (ext n D i)
theorem LnI.keep {B:Nat} {w w':World} {o:Option Addr} {v:Value} {n:Nat} {D:Nat->Int} (h:LnI B w o v n D) (hk:∀ g,v.ownBlock=some g->w'.heap[g]?=w.heap[g]?):LnI B w' o v n D:=by
 rcases h with h | ⟨ad,g,f,h1,h2,h3,h4,h5⟩
 ·exact .inl h
 ·exact .inr ⟨ad,g,f,h1,h2,h3,h4.of_block (hk g (by rw [h2];rfl)),h5⟩
theorem LnI.lt {B:Nat} {w:World} {o:Option Addr} {v:Value} {n:Nat} {D:Nat->Int} (h:LnI B w o v n D) {g:Nat} (hg:v.ownBlock=some g):B<=g/\g<w.heap.size:=by
 rcases h with ⟨_,rfl,_⟩ | ⟨ad,g',f,_,rfl,h3,h4,_⟩
 ·cases hg
 ·cases hg;exact ⟨h3,h4.lt⟩
theorem LnI.below {B:Nat} {w w':World} {o:Option Addr} {v:Value} {n:Nat} {D:Nat->Int} (h:LnI B w o v n D) (hb:Below w.heap.size w w'):LnI B w' o v n D:=h.keep (fun g hg=>hb.block g (h.lt hg).2)
theorem LnI.is_ {B:Nat} {w:World} {o:Option Addr} {v:Value} {n:Nat} {D:Nat->Int} (h:LnI B w o v n D):∃ o' c g,v=O o' n c/\IS w o' g 0 n D/\(0<n->B<=g/\g<w.heap.size):=by
 rcases h with ⟨_,rfl,rfl⟩ | ⟨ad,g,f,_,rfl,h3,h4,h5⟩
 ·exact ⟨none,0,0,rfl,⟨fun h=>by omega,fun h=>by omega,fun i hi=>by omega⟩,fun h=>by omega⟩
 ·refine ⟨_,_,g,rfl,⟨fun _=>rfl,fun _=>h4.lt,fun i hi=>?_⟩,fun _=>⟨h3,h4.lt⟩⟩
  rw [Nat.zero_add,h4.cell (by omega),h5 i (by omega)]
  simp [ext,hi]
theorem Xp (o:Option Addr) (b off n c:Nat) (D:Nat->Int) (w:World) (hn:n*8<=140737488351232) (hs:IS w o b off n D) :
 Calls Tryz.prog 84 #[O o n c] w fun e w'=>(∃ v,e=.returned v/\LnI w.heap.size w' o v n D)/\Below w.heap.size w w':=by
 cases o with
 | none =>
  have h0:n=0:=by rcases Nat.eq_zero_or_pos n with h | h;exact h;cases hs.at_ h
  subst h0
  have hnil:=fun w=>Lib.run_eql_slice_nil (P:=Tryz.prog) w 25 3 none 0 c 0 0 Tryz.underlying25
  simp only [Option.isNone] at hnil
  go_enter Tryz.func84,Tryz.ntmps84
  go_wp2_with fail
  go_ret
  exact ⟨⟨_,rfl,.inl ⟨rfl,rfl,rfl⟩⟩,Below.refl _ _⟩
 | some ad =>
  obtain ⟨i0,hi,hz0,hz1,hz2⟩:=info_parts Tryz.infoInt
  have hnil:=fun w=>Lib.run_eql_slice_nil (P:=Tryz.prog) w 25 3 (some ad) n c 0 0 Tryz.underlying25
  simp only [Option.isNone] at hnil
  have HS:Hid (IS w (some ad) b off n D):=hs
  have HC:Hid (∀ w0,Below w.heap.size w w0->0<n->∃ ad',some ad=some ad'/\∀ j,j<n*1->w0.cell? (ad'.add j)=some (J Z (D j))):=fun w0 hb h0=>⟨ad,rfl,fun j hj=>by
   have:=hs.at_ h0
   cases this
   rw [show (⟨b,off,none⟩:Addr).add j=⟨b,off+j,none⟩ from by unfold Addr.add;split<;>simp_all]
   exact (hb.cell (p:=⟨b,off+j,none⟩) (hs.lt h0)).trans (hs.val j (by omega))⟩
  have hszz:(Tryz.prog.info? 3).map (·.size)=some 1:=by rw [hi];simp [hz1]
  clear hs
  go_enter Tryz.func84,Tryz.ntmps84
  go_wp2_with (at_make;refine wpList_make_full _ rfl _ _ 25 rfl w.heap.size 3 i0 (J Z 0) 1 Tryz.underlying25 hi hz0 hz1 .i64 .i64 _ _ (n+8) rfl rfl (by omega) (by omega) (by rw [hz2];omega) (by unfold maxLen;omega) (Nat.le_refl _) ?_;intro w0 hown0 hgrow0;obtain ⟨f0,hrow0⟩:=yQ hown0 rfl;have hb0:Below w.heap.size w w0:=Y8 hgrow0;obtain ⟨w1,hcp,hr1,hbl,_⟩:=Yl (P:=Tryz.prog) w0 25 25 3 3 1 w.heap.size (n+8) (n+8) (some ad) n c 3 ((n+8)*1) f0 (fun i=>J Z (D i)) Tryz.underlying25 hszz hrow0 (by omega) (HC.out w0 hb0) (fun j hj=>rfl) (by omega);have HR1:Hid (w1.rowIs w.heap.size 3 ((n+8)*1) (fun j=>if j<n*1 then J Z (D j) else f0 j)):=hr1;have HB1:Hid (Below w.heap.size w w1):=hbl _ _ hb0 (Nat.le_refl _);clear hown0 hgrow0 hrow0 hb0 hr1 hbl)
  have hrow1:w1.rowIs w.heap.size 3 (n+8) (fun j=>if j<n*1 then J Z (D j) else f0 j):=by have:=HR1.out;rw [Nat.mul_one] at this;exact this
  clear hnil HC HR1 hcp
  go_loopw [5] (fun x wr=>∃ (k:Nat) (f:Nat->Value),n<=k/\k<=n+8/\x=J Z k/\wr.rowIs w.heap.size 3 (n+8) f/\Hid (∀ i,i<k->f i=J Z (ext n D i))/\Below w.heap.size w wr) (fun x _=>n+8-(intOf x).toNat)
  case atStart=>exact ⟨n,_,Nat.le_refl _,by omega,rfl,hrow1,fun i hi=>by simp [ext,hi],HB1.out⟩
  case round =>
   obtain ⟨k,f,hk0,hk,rfl,hrow,hf,hb⟩:=hrel
   clear hrow1 HB1
   by_cases hlt:k<n+8
   ·have c0:=hrow.cell (i:=k) hlt
    have z0:=hrow.frozen k
    have HR:Hid (wr.rowIs w.heap.size 3 (n+8) f):=hrow
    have HB:Hid (Below w.heap.size w wr):=hb
    have hlt':(k:Int)<(n:Int)+8:=by omega
    clear hrow hb
    go_wp2_with fail
    go_roundw
    case rel=>exact ⟨k+1,_,by omega,by omega,by go_num,HR.out.set k _,fun i hi=>by
     by_cases e:i=k
     ·simp only [e,if_true];rw [ext,if_neg (by omega)]
     ·simp only [e,if_false];exact hf.out i (by omega),HB.out.setCell (Nat.le_refl _) _⟩
    case measure=>simp [intOf];omega
   ·have hkn:k=n+8:=by omega
    subst hkn
    have HB:Hid (Below w.heap.size w wr):=hb
    clear hb
    go_wp2_with fail
    go_ret
    exact ⟨⟨_,rfl,.inr ⟨ad,_,f,rfl,rfl,Nat.le_refl _,hrow,hf.out⟩⟩,HB.out⟩
theorem Z6 (w:World) (r:Option Nat):w.grownBy w r:=⟨rfl,rfl,rfl,Nat.le_refl _,fun _ _ _=>rfl⟩
theorem yw {w w':World} {g:Nat} (h:w.grownBy w' (some g)) (i:Nat) (v:Value):w.grownBy (w'.setCell ⟨g,i,none⟩ v) (some g) :=
 ⟨h.os,h.tape,h.output,by have:=h.size;simpa [World.setCell] using this,fun k hk hne=>(za (fun e=>hne (by rw [e]))).trans (h.block k hk hne)⟩
theorem xK (B:Nat) (v:Value) (o:Option Addr) (b off n c:Nat) (D:Nat->Int) (u:Int) (w:World) (hn:n*8<=140737488351232) (hs:IS w o b off n D) (hbB:0<n->b<B) (hl:LnI B w o v n D) :
 Calls Tryz.prog 87 #[v,O o n c,J Z u] w fun e w'=>e=.returned (.bool true)/\w.grownBy w' v.ownBlock/\∀ g,v.ownBlock=some g->w'.rowIs g 3 (n+8) (fun _=>J Z u):=by
 rcases hl with ⟨rfl,rfl,rfl⟩ | ⟨ad,g,f0,rfl,rfl,hBg,hrow0,hf0⟩
 ·have hnil:=fun w=>Lib.run_eql_slice_nil (P:=Tryz.prog) w 25 3 none 0 c 0 0 Tryz.underlying25
  simp only [Option.isNone] at hnil
  go_enter Tryz.func87,Tryz.ntmps87
  go_wp2_with fail
  go_ret
  exact ⟨rfl,Z6 _ _,fun g hg=>by cases hg⟩
 ·have hnil:=fun w=>Lib.run_eql_slice_nil (P:=Tryz.prog) w 25 3 (some ad) n c 0 0 Tryz.underlying25
  simp only [Option.isNone] at hnil
  have HS:Hid (IS w (some ad) b off n D):=hs
  have HR0:Hid _:=hrow0
  have HF0:Hid _:=hf0
  have HBB:Hid _:=hbB
  clear hs hrow0 hf0 hbB
  show Calls _ _ _ _ fun e w'=>e=.returned (.bool true)/\w.grownBy w' (some g)/\∀ g',some g=some g'->w'.rowIs g' 3 (n+8) (fun _=>J Z u)
  go_enter Tryz.func87,Tryz.ntmps87
  go_wp2_with fail
  clear hnil
  go_loopw [9,10] (fun y x wr=>∃ (k:Nat) (f:Nat->Value),k<=n+8/\x=J Z k/\y=.bool true/\wr.rowIs g 3 (n+8) f/\Hid (∀ i,i<k->f i=J Z u)/\Hid (∀ i,k<=i->i<n+8->f i=J Z (ext n D i))/\w.grownBy wr (some g)) (fun _ x _=>n+8-(intOf x).toNat)
  case atStart=>exact ⟨0,f0,by omega,rfl,rfl,HR0.out,fun i hi=>by omega,fun i _ hi=>HF0.out i hi,Z6 _ _⟩
  case round =>
   obtain ⟨k,f,hk,rfl,rfl,hrow,hf1,hf2,hgr⟩:=hrel
   have HR:Hid (wr.rowIs g 3 (n+8) f):=hrow
   have HG:Hid (w.grownBy wr (some g)):=hgr
   clear hrow hgr
   by_cases hlt:k<n+8
   ·have c0:=HR.out.cell (i:=k) hlt
    have z0:=HR.out.frozen k
    have hfk:=hf2.out k (Nat.le_refl _) hlt
    rw [hfk] at c0
    have hlt':(k:Int)<(n:Int)+8:=by omega
    have HS1:Hid (∀ i,i<k+1->(if i=k then J Z u else f i)=J Z u):=fun i hi=>by
     by_cases e:i=k
     ·rw [if_pos e]
     ·rw [if_neg e];exact hf1.out i (by omega)
    have HS2:Hid (∀ i,k+1<=i->i<n+8->(if i=k then J Z u else f i)=J Z (ext n D i)):=fun i h1 h2=>by rw [if_neg (by omega)];exact hf2.out i (by omega) h2
    by_cases hkn:k<n
    ·have hat:=HS.out.at_ (by omega)
     cases hat
     have hb0:=HS.out.lt (by omega)
     have hbB:=HBB.out (by omega)
     have cv:=(HG.out.cell_far ⟨b,off+k,none⟩ hb0 (by simp;omega)).trans (HS.out.val k hkn)
     rw [ext,if_pos hkn] at c0
     have hkn':(k:Int)<(n:Int):=by omega
     go_wp2_with fail
     go_roundw
     case rel=>exact ⟨k+1,_,by omega,by go_num,rfl,HR.out.set k _,HS1,HS2,yw HG.out _ _⟩
     case measure=>simp [intOf];omega
    ·rw [ext,if_neg hkn] at c0
     have hkn':¬ (k:Int)<(n:Int):=by omega
     go_wp2_with fail
     go_roundw
     case rel=>exact ⟨k+1,_,by omega,by go_num,rfl,HR.out.set k _,HS1,HS2,yw HG.out _ _⟩
     case measure=>simp [intOf];omega
   ·have hkn:k=n+8:=by omega
    subst hkn
    go_wp2_with fail
    go_ret
    exact ⟨rfl,HG.out,fun g' e=>by cases e;exact HR.out.congr (fun i hi=>hf1.out i hi)⟩
def plF (V L R:Nat->Int) (j:Nat):Value:=if j%3=0 then J Z (V (j / 3)) else if j%3=1 then J Z (L (j / 3)) else J Z (R (j / 3))
theorem zb1 (V L R:Nat->Int) (i:Nat):plF V L R (i*3)=J Z (V i)/\plF V L R (i*3+1)=J Z (L i)/\plF V L R (i*3+2)=J Z (R i):=by
 unfold plF
 rw [show i*3%3=0 from by omega,show i*3 / 3=i from by omega,show (i*3+1)%3=1 from by omega,show (i*3+1) / 3=i from by omega,show (i*3+2)%3=2 from by omega,show (i*3+2) / 3=i from by omega]
 simp
def P3 (f:Nat->Value) (i:Nat) (a b c:Int):Prop:=f (i*3)=J Z a/\f (i*3+1)=J Z b/\f (i*3+2)=J Z c
def Qj (f:Nat->Value) (k:Nat) (x y z:Value) (j:Nat):Value:=if j=k*3+2 then z else if j=k*3+1 then y else if j=k*3 then x else f j
theorem QT {w:World} {g t N:Nat} {f:Nat->Value} (h:w.rowIs g t N f) (k:Nat) (x y z:Value):(((w.setCell ⟨g,k*3,none⟩ x).setCell ⟨g,k*3+1,none⟩ y).setCell ⟨g,k*3+2,none⟩ z).rowIs g t N (Qj f k x y z):=((h.set _ _).set _ _).set _ _
theorem zbD {f:Nat->Value} {k:Nat} {x y z:Value} {i:Nat} (h:i≠k) {a b c:Int} (hp:P3 f i a b c):P3 (Qj f k x y z) i a b c:=by
 unfold P3 Qj
 rw [if_neg (by omega),if_neg (by omega),if_neg (by omega),if_neg (by omega),if_neg (by omega),if_neg (by omega),if_neg (by omega),if_neg (by omega),if_neg (by omega)]
 exact hp
theorem zew (f:Nat->Value) (k:Nat) (a b c:Int):P3 (Qj f k (J Z a) (J Z b) (J Z c)) k a b c:=by
 unfold P3 Qj
 simp
def LnP (B:Nat) (w:World) (o:Option Addr) (v:Value) (n:Nat) (V L R:Nat->Int):Prop:=(o=none/\v=O none 0 0/\n=0)\/∃ ad g f,o=some ad/\v=O (some ⟨g,0,none⟩) n (n+8)/\B<=g/\w.rowIs g 101 ((n+8)*3) f/\∀ i,i<n+8->P3 f i (ext n V i) (ext n L i) (ext n R i)
theorem LnP.keep {B:Nat} {w w':World} {o:Option Addr} {v:Value} {n:Nat} {V L R:Nat->Int} (h:LnP B w o v n V L R) (hk:∀ g,v.ownBlock=some g->w'.heap[g]?=w.heap[g]?):LnP B w' o v n V L R:=by
 rcases h with h | ⟨ad,g,f,h1,h2,h3,h4,h5⟩
 ·exact .inl h
 ·exact .inr ⟨ad,g,f,h1,h2,h3,h4.of_block (hk g (by rw [h2];rfl)),h5⟩
theorem LnP.lt {B:Nat} {w:World} {o:Option Addr} {v:Value} {n:Nat} {V L R:Nat->Int} (h:LnP B w o v n V L R) {g:Nat} (hg:v.ownBlock=some g):B<=g/\g<w.heap.size:=by
 rcases h with ⟨_,rfl,_⟩ | ⟨ad,g',f,_,rfl,h3,h4,_⟩
 ·cases hg
 ·cases hg;exact ⟨h3,h4.lt⟩
theorem LnP.below {B:Nat} {w w':World} {o:Option Addr} {v:Value} {n:Nat} {V L R:Nat->Int} (h:LnP B w o v n V L R) (hb:Below w.heap.size w w'):LnP B w' o v n V L R:=h.keep (fun g hg=>hb.block g (h.lt hg).2)
theorem LnP.ts {B:Nat} {w:World} {o:Option Addr} {v:Value} {n:Nat} {V L R:Nat->Int} (h:LnP B w o v n V L R):∃ o' c g,v=O o' n c/\TS w o' g 0 n V L R:=by
 rcases h with ⟨_,rfl,rfl⟩ | ⟨ad,g,f,_,rfl,h3,h4,h5⟩
 ·exact ⟨none,0,0,rfl,⟨fun h=>by omega,fun h=>by omega,fun i hi=>by omega,fun i hi=>by omega,fun i hi=>by omega⟩⟩
 ·refine ⟨_,_,g,rfl,⟨fun _=>rfl,fun _=>h4.lt,fun i hi=>?_,fun i hi=>?_,fun i hi=>?_⟩⟩
  ·rw [Nat.zero_add,h4.cell (by omega),(h5 i (by omega)).1];simp [ext,hi]
  ·rw [Nat.zero_add,h4.cell (by omega),(h5 i (by omega)).2.1];simp [ext,hi]
  ·rw [Nat.zero_add,h4.cell (by omega),(h5 i (by omega)).2.2];simp [ext,hi]
theorem qS (o:Option Addr) (b off n c:Nat) (V L R:Nat->Int) (w:World) (hn:n*24<=140737488351232) (hs:TS w o b off n V L R) :
 Calls Tryz.prog 88 #[O o n c] w fun e w'=>(∃ v,e=.returned v/\LnP w.heap.size w' o v n V L R)/\Below w.heap.size w w':=by
 cases o with
 | none =>
  have h0:n=0:=by rcases Nat.eq_zero_or_pos n with h | h;exact h;cases hs.at_ h
  subst h0
  have hnil:=fun w=>Lib.run_eql_slice_nil (P:=Tryz.prog) w 28 101 none 0 c 0 0 Tryz.underlying28
  simp only [Option.isNone] at hnil
  go_enter Tryz.func88,Tryz.ntmps88
  go_wp2_with fail
  go_ret
  exact ⟨⟨_,rfl,.inl ⟨rfl,rfl,rfl⟩⟩,Below.refl _ _⟩
 | some ad =>
  obtain ⟨i0,hi,hz0,hz1,hz2⟩:=info_parts Tryz.infoPlace
  have hnil:=fun w=>Lib.run_eql_slice_nil (P:=Tryz.prog) w 28 101 (some ad) n c 0 0 Tryz.underlying28
  simp only [Option.isNone] at hnil
  have HC:Hid (∀ w0,Below w.heap.size w w0->0<n->∃ ad',some ad=some ad'/\∀ j,j<n*3->w0.cell? (ad'.add j)=some (plF V L R j)):=fun w0 hb h0=>⟨ad,rfl,fun j hj=>by
   have:=hs.at_ h0
   cases this
   rw [show (⟨b,off,none⟩:Addr).add j=⟨b,off+j,none⟩ from by unfold Addr.add;split<;>simp_all,hb.cell (p:=⟨b,off+j,none⟩) (hs.lt h0)]
   obtain ⟨i,r,rfl,hr⟩:∃ i r,j=i*3+r/\r<3:=⟨j / 3,j%3,by omega,by omega⟩
   obtain ⟨p0,p1,p2⟩:=zb1 V L R i
   rcases r with _ | _ | _ | r
   ·rw [Nat.add_zero,p0];exact hs.val i (by omega)
   ·rw [p1];exact hs.len i (by omega)
   ·rw [p2];exact hs.reg i (by omega)
   ·omega⟩
  have hszz:(Tryz.prog.info? 101).map (·.size)=some 3:=by rw [hi];simp [hz1]
  clear hs
  go_enter Tryz.func88,Tryz.ntmps88
  go_wp2_with (at_make;refine wpList_make_full _ rfl _ _ 28 rfl w.heap.size 101 i0 (.agg #[J Z 0,J Z 0,J Z 0]) 3 Tryz.underlying28 hi hz0 hz1 .i64 .i64 _ _ (n+8) rfl rfl (by omega) (by omega) (by rw [hz2];omega) (by unfold maxLen;omega) (Nat.le_refl _) ?_;intro w0 hown0 hgrow0;obtain ⟨f0,hrow0⟩:=yQ hown0 rfl;have hb0:Below w.heap.size w w0:=Y8 hgrow0;obtain ⟨w1,hcp,hr1,hbl,_⟩:=Yl (P:=Tryz.prog) w0 28 28 3 101 3 w.heap.size (n+8) (n+8) (some ad) n c 101 ((n+8)*3) f0 (plF V L R) Tryz.underlying28 hszz hrow0 (by omega) (HC.out w0 hb0) (fun j hj=>by unfold plF;split<;>(try split)<;>rfl) (by omega);have HR1:Hid (w1.rowIs w.heap.size 101 ((n+8)*3) (fun j=>if j<n*3 then plF V L R j else f0 j)):=hr1;have HB1:Hid (Below w.heap.size w w1):=hbl _ _ hb0 (Nat.le_refl _);clear hown0 hgrow0 hrow0 hb0 hr1 hbl)
  clear hnil HC hcp
  go_loopw [5] (fun x wr=>∃ (k:Nat) (f:Nat->Value),n<=k/\k<=n+8/\x=J Z k/\wr.rowIs w.heap.size 101 ((n+8)*3) f/\Hid (∀ i,i<k->P3 f i (ext n V i) (ext n L i) (ext n R i))/\Below w.heap.size w wr) (fun x _=>n+8-(intOf x).toNat)
  case atStart =>
   refine ⟨n,_,Nat.le_refl _,by omega,rfl,HR1.out,fun i hi=>?_,HB1.out⟩
   obtain ⟨p0,p1,p2⟩:=zb1 V L R i
   unfold P3
   dsimp only
   rw [if_pos (by omega),if_pos (by omega),if_pos (by omega),p0,p1,p2]
   simp [ext,hi]
  case round =>
   obtain ⟨k,f,hk0,hk,rfl,hrow,hf,hb⟩:=hrel
   clear HR1 HB1
   by_cases hlt:k<n+8
   ·have HR:Hid _:=hrow
    have HB:Hid _:=hb
    have hlt':(k:Int)<(n:Int)+8:=by omega
    clear hrow hb
    go_wp2_with fail
    refine (zab _).mono ?_
    rintro e w1' ⟨rfl,hb1⟩
    have hrow1:=yV HR.out hb1
    have HR1:Hid _:=hrow1
    have HB1:Hid _:=HB.out.trans (hb1.mono HB.out.size)
    have c0:=hrow1.cell (i:=k*3) (by omega)
    have c1:=hrow1.cell (i:=k*3+1) (by omega)
    have c2:=hrow1.cell (i:=k*3+2) (by omega)
    have z0:=hrow1.frozen (k*3)
    have z1:=hrow1.frozen (k*3+1)
    have z2:=hrow1.frozen (k*3+2)
    clear hb1 hrow1
    go_wp2_with fail
    go_roundw
    case rel=>exact ⟨k+1,_,by omega,by omega,by go_num,QT HR1.out k _ _ _,fun i hi=>by
     by_cases e:i=k
     ·subst e
      rw [ext,if_neg (by omega),ext,if_neg (by omega),ext,if_neg (by omega)]
      exact zew f i 77 77 77
     ·exact zbD e (hf.out i (by omega)),((HB1.out.setCell (Nat.le_refl _) _).setCell (Nat.le_refl _) _).setCell (Nat.le_refl _) _⟩
    case measure=>simp [intOf];omega
   ·have hkn:k=n+8:=by omega
    subst hkn
    have HB:Hid _:=hb
    clear hb
    go_wp2_with fail
    go_ret
    exact ⟨⟨_,rfl,.inr ⟨ad,_,f,rfl,rfl,Nat.le_refl _,hrow,hf.out⟩⟩,HB.out⟩
theorem zcD (d:Nat) (a b c:Int) (w:World):(Op.equalIn (d+3) 101 (.agg #[J Z a,J Z b,J Z c]) (.agg #[J Z a,J Z b,J Z c])).run Tryz.prog w=.ok true w:=by
 have u3:=Tryz.underlying3
 have hS:Tryz.prog.underlying 101=some (.struct (Tryz.prog.fieldsOf 101)):=by kernel_rfl
 have hp:Tryz.prog.stoodInHeld 101=false:=by kernel_rfl
 have hS':Tryz.prog.underlying 99=some (.struct (Tryz.prog.fieldsOf 99)):=by kernel_rfl
 have hp':Tryz.prog.stoodInHeld 99=false:=by kernel_rfl
 have hQ:∀ e,(Op.equalIn (e+2) 99 (.agg #[J Z a,J Z b]) (.agg #[J Z a,J Z b])).run Tryz.prog w=.ok true w:=fun e=>by
  rw [run_equalIn_agg w (e+1) 99 _ _ hS' hp']
  simp only [Program.fieldsOf,Tryz.underlying99]
  go_simp
 rw [run_equalIn_agg w (d+2) 101 _ _ hS hp]
 simp only [Program.fieldsOf,Tryz.underlying101]
 have q0:∀ w,(part 99 #[J Z a,J Z b,J Z c] 0).run Tryz.prog w=.ok (.agg #[J Z a,J Z b]) w:=fun w=>by kernel_rfl
 have q1:∀ w,(part 3 #[J Z a,J Z b,J Z c] 2).run Tryz.prog w=.ok (J Z c) w:=fun w=>by kernel_rfl
 simp [Op.eqFields,q0,q1,hQ]
 go_simp
theorem zad (a b c:Int) (w:World):(Op.equalIn 10000 101 (.agg #[J Z a,J Z b,J Z c]) (.agg #[J Z a,J Z b,J Z c])).run Tryz.prog w=.ok true w:=zcD 9997 a b c w
theorem zcL (w:World):(Instr.build 101 #[]).run Tryz.prog w=.ok (.agg #[J Z 0,J Z 0,J Z 0]) w:=run_build w 101 _ _ (by kernel_rfl)
theorem Yi {w w1 w2:World} {r:Option Nat} (h:w.grownBy w1 r) (hb:Below w1.heap.size w1 w2):w.grownBy w2 r :=
 ⟨hb.os.trans h.os,hb.tape.trans h.tape,hb.output.trans h.output,Nat.le_trans h.size hb.size,fun k hk hne=>(hb.block k (Nat.lt_of_lt_of_le hk h.size)).trans (h.block k hk hne)⟩
theorem qa (B:Nat) (v:Value) (o:Option Addr) (b off n c:Nat) (V L R:Nat->Int) (w:World) (hn:n*24<=140737488351232) (hs:TS w o b off n V L R) (hbB:0<n->b<B) (hl:LnP B w o v n V L R) :
 Calls Tryz.prog 91 #[v,O o n c] w fun e w'=>e=.returned (.bool true)/\w.grownBy w' v.ownBlock:=by
 rcases hl with ⟨rfl,rfl,rfl⟩ | ⟨ad,g,f0,rfl,rfl,hBg,hrow0,hf0⟩
 ·have hnil:=fun w=>Lib.run_eql_slice_nil (P:=Tryz.prog) w 28 101 none 0 c 0 0 Tryz.underlying28
  simp only [Option.isNone] at hnil
  go_enter Tryz.func91,Tryz.ntmps91
  go_wp2_with fail
  go_ret
  exact ⟨rfl,Z6 _ _⟩
 ·have hnil:=fun w=>Lib.run_eql_slice_nil (P:=Tryz.prog) w 28 101 (some ad) n c 0 0 Tryz.underlying28
  simp only [Option.isNone] at hnil
  have HS:Hid _:=hs
  have HR0:Hid _:=hrow0
  have HF0:Hid _:=hf0
  have HBB:Hid _:=hbB
  have hbz:=fun w=>zcL w
  clear hs hrow0 hf0 hbB
  show Calls _ _ _ _ fun e w'=>e=.returned (.bool true)/\w.grownBy w' (some g)
  go_enter Tryz.func91,Tryz.ntmps91
  go_wp2_with fail
  clear hnil
  go_loopw [7,8] (fun y x wr=>∃ (k:Nat) (f:Nat->Value),k<=n+8/\x=J Z k/\y=.bool true/\wr.rowIs g 101 ((n+8)*3) f/\Hid (∀ i,k<=i->i<n+8->P3 f i (ext n V i) (ext n L i) (ext n R i))/\w.grownBy wr (some g)) (fun _ x _=>n+8-(intOf x).toNat)
  case atStart=>exact ⟨0,f0,by omega,rfl,rfl,HR0.out,fun i _ hi=>HF0.out i hi,Z6 _ _⟩
  case round =>
   obtain ⟨k,f,hk,rfl,rfl,hrow,hf2,hgr⟩:=hrel
   have HR:Hid _:=hrow
   have HG:Hid _:=hgr
   clear hrow hgr
   by_cases hlt:k<n+8
   ·have hlt':(k:Int)<(n:Int)+8:=by omega
    have HS2:Hid (∀ i,k+1<=i->i<n+8->P3 (Qj f k (J Z 0) (J Z 0) (J Z 0)) i (ext n V i) (ext n L i) (ext n R i)):=fun i h1 h2=>zbD (by omega) (hf2.out i (by omega) h2)
    go_wp2_with fail
    refine (zab _).mono ?_
    rintro e w1 ⟨rfl,hb1⟩
    have hrow1:=yV HR.out hb1
    have HR1:Hid _:=hrow1
    have HG1:Hid (w.grownBy w1 (some g)):=Yi HG.out hb1
    have c0:=hrow1.cell (i:=k*3) (by omega)
    have c1:=hrow1.cell (i:=k*3+1) (by omega)
    have c2:=hrow1.cell (i:=k*3+2) (by omega)
    have z0:=hrow1.frozen (k*3)
    have z1:=hrow1.frozen (k*3+1)
    have z2:=hrow1.frozen (k*3+2)
    have hg1:g<w1.heap.size:=hrow1.lt
    have hpk:=hf2.out k (Nat.le_refl _) hlt
    rw [hpk.1] at c0
    rw [hpk.2.1] at c1
    rw [hpk.2.2] at c2
    clear hb1 hrow1 hpk
    by_cases hkn:k<n
    ·have hat:=HS.out.at_ (by omega)
     cases hat
     have hb0:=HS.out.lt (by omega)
     have hbB:=HBB.out (by omega)
     have cv:=(HG1.out.cell_far ⟨b,off+k*3,none⟩ hb0 (by simp;omega)).trans (HS.out.val k hkn)
     have cl:=(HG1.out.cell_far ⟨b,off+k*3+1,none⟩ hb0 (by simp;omega)).trans (HS.out.len k hkn)
     have cr:=(HG1.out.cell_far ⟨b,off+k*3+2,none⟩ hb0 (by simp;omega)).trans (HS.out.reg k hkn)
     rw [ext,if_pos hkn] at c0 c1 c2
     have hkn':(k:Int)<(n:Int):=by omega
     have hq:=fun w=>zad (V k) (L k) (R k) w
     have hb1':b<w1.heap.size:=Nat.lt_of_lt_of_le hb0 HG1.out.size
     go_wp2_with fail
     go_quiet (fail)
     go_wp2_with fail
     go_roundw
     case rel=>exact ⟨k+1,_,by omega,by go_num,rfl,QT (yV HR1.out (zB ((Below.refl _ _).alloc (Nat.le_refl _) _) _)) k _ _ _,HS2,yw (yw (yw (Yi HG1.out (zB ((Below.refl _ _).alloc (Nat.le_refl _) _) _)) _ _) _ _) _ _⟩
     case measure=>simp [intOf];omega
    ·rw [ext,if_neg hkn] at c0 c1 c2
     have hkn':¬ (k:Int)<(n:Int):=by omega
     have hq:=fun w=>zad 77 77 77 w
     go_wp2_with fail
     go_quiet (fail)
     go_wp2_with fail
     go_roundw
     case rel=>exact ⟨k+1,_,by omega,by go_num,rfl,QT (yV HR1.out (zB ((Below.refl _ _).alloc (Nat.le_refl _) _) _)) k _ _ _,HS2,yw (yw (yw (Yi HG1.out (zB ((Below.refl _ _).alloc (Nat.le_refl _) _) _)) _ _) _ _) _ _⟩
     case measure=>simp [intOf];omega
   ·have hkn:k=n+8:=by omega
    subst hkn
    go_wp2_with fail
    go_ret
    exact ⟨rfl,HG.out⟩
def liF (l:List Int) (i:Nat):Int:=(l[i]?).getD 0
theorem AS.is_ {w:World} {base:Nat} {ao:Option Addr} {ab aoff:Nat} {al:List (List Int)} (h:AS w base ao ab aoff al) (hbs:base<=w.heap.size) {k:Nat} {l:List Int} (hl:al[k]?=some l):∃ lo lc lb loff,w.cell? ⟨ab,aoff+k,none⟩=some (O lo l.length lc)/\IS w lo lb loff l.length (liF l)/\(0<l.length->lb<base):=by
 obtain ⟨lo,lc,h1,h2⟩:=h.val k l hl
 rcases Nat.eq_zero_or_pos l.length with h0 | h0
 ·exact ⟨lo,lc,0,0,h1,⟨fun h=>by omega,fun h=>by omega,fun i hi=>by omega⟩,fun h=>by omega⟩
 ·obtain ⟨lb,loff,h3,h4,h5⟩:=h2 h0
  refine ⟨lo,lc,lb,loff,h1,⟨fun _=>h3,fun _=>by omega,fun i hi=>?_⟩,fun _=>h4⟩
  have hg:l[i]?=some l[i]:=List.getElem?_eq_getElem hi
  rw [h5 i _ hg,liF,hg]
  rfl
structure LnA (w:World) (ab aoff:Nat) (al:List (List Int)) (ga gm:Nat) (fa fm:Nat->Value) (S:Nat->Nat) (k0 k:Nat):Prop where
 mono:∀ i,i<k->S i<=S (i+1)
 top:S k<=w.heap.size
 lo:ga<S 0/\gm<S 0
 own:∀ i l,k0<=i->i<k->al[i]?=some l->fa i=fm i/\(∃ lo lc,w.cell? ⟨ab,aoff+i,none⟩=some (O lo l.length lc)/\LnI (S i) w lo (fm i) l.length (liF l))/\∀ g,(fm i).ownBlock=some g->g<S (i+1)
 far:∀ i,k0<=i->i<k->al.length<=i->∃ h,fa i=O (some ⟨h,0,none⟩) 1 1/\S i<=h/\h<S (i+1)/\w.rowIs h 3 1 (fun _=>J Z 77)
theorem LnA.ge {w:World} {ab aoff:Nat} {al:List (List Int)} {ga gm:Nat} {fa fm:Nat->Value} {S:Nat->Nat} {k0 k:Nat} (h:LnA w ab aoff al ga gm fa fm S k0 k):∀ i j,i<=j->j<=k->S i<=S j:=by
 intro i j
 induction j with
 | zero=>intro h1 _;rw [show i=0 from by omega];exact Nat.le_refl _
 | succ j ih =>
  intro h1 h2
  by_cases e:i=j+1
  ·rw [e];exact Nat.le_refl _
  ·exact Nat.le_trans (ih (by omega) (by omega)) (h.mono j (by omega))
theorem LnA.keep {w w':World} {ab aoff:Nat} {al:List (List Int)} {ga gm:Nat} {fa fm:Nat->Value} {S:Nat->Nat} {k0 k1 k:Nat} (h:LnA w ab aoff al ga gm fa fm S k0 k) (h01:k0<=k1) (hz:w.heap.size<=w'.heap.size) (hab:0<al.length->w'.heap[ab]?=w.heap[ab]?) (hk:∀ b,S k1<=b->b<S k->w'.heap[b]?=w.heap[b]?):LnA w' ab aoff al ga gm fa fm S k1 k :=
 ⟨h.mono,Nat.le_trans h.top hz,h.lo,fun i l h0 hi hl=>by
  obtain ⟨h1,⟨lo,lc,h2,h3⟩,h4⟩:=h.own i l (by omega) hi hl
  refine ⟨h1,⟨lo,lc,by rw [World.cell?_of_block (hab (by have:=(List.getElem?_eq_some_iff.1 hl).1;omega))];exact h2,h3.keep (fun g hg=>hk g ?_ ?_)⟩,h4⟩
  ·have:=(h3.lt hg).1;have:=h.ge k1 i (by omega) (by omega);omega
  ·have:=h4 g hg;have:=h.ge (i+1) k (by omega) (by omega);omega,fun i h0 hi hl=>by
  obtain ⟨q,h1,h2,h3,h4⟩:=h.far i (by omega) hi hl
  refine ⟨q,h1,h2,h3,h4.of_block (hk q ?_ ?_)⟩
  ·have:=h.ge k1 i (by omega) (by omega);omega
  ·have:=h.ge (i+1) k (by omega) (by omega);omega⟩
theorem LnA.more {w w':World} {ab aoff:Nat} {al:List (List Int)} {ga gm:Nat} {fa fm fa' fm':Nat->Value} {S:Nat->Nat} {k:Nat} (h:LnA w ab aoff al ga gm fa fm S 0 k) (hab:0<al.length->w'.heap[ab]?=w.heap[ab]?) (hz:w.heap.size<=w'.heap.size) (hk:∀ b,S 0<=b->b<S k->w'.heap[b]?=w.heap[b]?) (hfa:∀ i,i<k->fa' i=fa i) (hfm:∀ i,i<k->fm' i=fm i)
 (hown:∀ l,al[k]?=some l->fa' k=fm' k/\(∃ lo lc,w'.cell? ⟨ab,aoff+k,none⟩=some (O lo l.length lc)/\LnI (S k) w' lo (fm' k) l.length (liF l))/\∀ g,(fm' k).ownBlock=some g->g<w'.heap.size)
 (hfar:al.length<=k->∃ h,fa' k=O (some ⟨h,0,none⟩) 1 1/\S k<=h/\h<w'.heap.size/\w'.rowIs h 3 1 (fun _=>J Z 77)) :
 ∃ S',LnA w' ab aoff al ga gm fa' fm' S' 0 (k+1):=by
 have h':=h.keep (k1:=0) (Nat.le_refl _) hz hab hk
 obtain ⟨S',e1,e2⟩:∃ S':Nat->Nat,(∀ i,i<=k->S' i=S i)/\S' (k+1)=w'.heap.size:=⟨fun i=>if i<=k then S i else w'.heap.size,fun i hi=>if_pos hi,if_neg (by omega)⟩
 refine ⟨S',fun i hi=>?_,?_,?_,fun i l _ hi hl=>?_,fun i _ hi hl=>?_⟩
 ·rw [e1 i (by omega)]
  by_cases e:i=k
  ·rw [e,e2];exact h'.top
  ·rw [e1 (i+1) (by omega)];exact h.mono i (by omega)
 ·rw [e2];exact Nat.le_refl _
 ·rw [e1 0 (by omega)];exact h.lo
 ·rw [e1 i (by omega)]
  by_cases e:i=k
  ·subst e;rw [e2];exact hown l hl
  ·rw [e1 (i+1) (by omega),hfa i (by omega),hfm i (by omega)];exact h'.own i l (Nat.zero_le _) (by omega) hl
 ·rw [e1 i (by omega)]
  by_cases e:i=k
  ·subst e;rw [e2];exact hfar hl
  ·rw [e1 (i+1) (by omega),hfa i (by omega)];exact h'.far i (Nat.zero_le _) (by omega) hl
def xe (B T:Nat) (w:World) (ao:Option Addr) (ab aoff:Nat) (al:List (List Int)) (va vm:Value):Prop:=(ao=none/\(∃ c,va=O none 0 c)/\vm=O none 0 0/\al=[])\/∃ ad ga gm fa fm S,ao=some ad/\va=O (some ⟨ga,0,none⟩) al.length (al.length+8)/\vm=O (some ⟨gm,0,none⟩) al.length al.length/\B<=ga/\B<=gm/\ga≠gm/\w.rowIs ga 25 (al.length+8) fa/\w.rowIs gm 25 al.length fm/\LnA w ab aoff al ga gm fa fm S 0 (al.length+8)/\S (al.length+8)<=T
theorem xe.below {B T:Nat} {w w':World} {ao:Option Addr} {ab aoff:Nat} {al:List (List Int)} {va vm:Value} (h:xe B T w ao ab aoff al va vm) (hab:0<al.length->ab<w.heap.size) (hb:Below w.heap.size w w'):xe B T w' ao ab aoff al va vm:=by
 rcases h with h | ⟨ad,ga,gm,fa,fm,S,h1,h2,h3,h4,h5,h6,h7,h8,h9,h10⟩
 ·exact .inl h
 ·exact .inr ⟨ad,ga,gm,fa,fm,S,h1,h2,h3,h4,h5,h6,h7.of_block (hb.block _ h7.lt),h8.of_block (hb.block _ h8.lt),h9.keep (Nat.le_refl _) hb.size (fun h0=>hb.block _ (hab h0)) (fun b _ hb2=>hb.block b (by have:=h9.top;omega)),h10⟩
def bsL (s:ByteArray):List Int:=(List.range s.size).map (T.ch s)
theorem xG (s:ByteArray):(bsL s).length=s.size:=by simp [bsL]
theorem JN (s:ByteArray) {i:Nat} (h:i<s.size):(bsL s)[i]?=some (T.ch s i):=by simp [bsL,h]
theorem zah (s:ByteArray):∀ x∈bsL s,0<=x/\x<256:=fun x hx=>by
 simp only [bsL,List.mem_map,List.mem_range] at hx
 obtain ⟨i,hi,rfl⟩:=hx
 unfold T.ch
 rw [dif_pos hi]
 have:=(s[i]).toNat_lt
 omega
theorem zd8 (s:ByteArray):strOfNums (bsL s)=s:=by
 apply ByteArray.ext
 apply Array.ext
 ·simp [strOfNums,bsL]
 ·intro i h1 h2
  have hi:i<s.size:=h2
  have e:s[i]=s.data[i]:=rfl
  simp [strOfNums,bsL,T.ch,hi,e]
theorem QS {P:Program} (w:World) (dT sT ty elem:TypeId) (g dLen dCap:Nat) (s:ByteArray) (t:TypeId) (N:Nat) (f:Nat->Value)
 (hu:P.underlying dT=some (.slice elem)) (hs:(P.info? elem).map (·.size)=some 1) (hg:w.rowIs g t N f) (hle:s.size<=dLen) (hfit:s.size<=N) :
 ∃ w',(Builtin.copy_ #[dT,sT] ty #[O (some ⟨g,0,none⟩) dLen dCap,.string s]).run P w=.ok (goInt s.size) w'/\w'.rowIs g t N (fun j=>if j<s.size then J .u8 (T.ch s j) else f j)/\∀ B w0,Below B w0 w->B<=g->Below B w0 w':=by
 obtain ⟨cur,hb,hN,hc⟩:=hg
 have hmin:Nat.min s.size dLen=s.size:=Nat.min_eq_left hle
 have htk:List.take s.size (List.map (fun b:UInt8=>Value.int IntKind.u8 (b.toNat:Int)) s.data.toList)=(List.range s.size).map (fun j=>J .u8 (T.ch s j)):=by
  apply List.ext_getElem?
  intro i
  by_cases hi:i<s.size
  ·have e:s[i]=s.data[i]:=rfl
   simp [hi,T.ch,e]
  ·rw [List.getElem?_eq_none (by simp;omega),List.getElem?_eq_none (by simp;omega)]
 cases hq:P.info? elem with
 | none=>simp [hq] at hs
 | some i =>
  have hst:=run_storeCells_at P g 0 t ((List.range s.size).map (fun j=>J .u8 (T.ch s j))) 0 cur w hb (by simpa [hN] using hfit) (fun v hv=>by
   simp only [List.mem_map,List.mem_range] at hv
   obtain ⟨j,hj,rfl⟩:=hv
   rfl)
  simp only [List.length_map,List.length_range,Nat.add_zero,Nat.zero_add,List.take_zero,List.nil_append] at hst
  refine ⟨w.setRow g ((List.range s.size).map (fun j=>Value.int .u8 (T.ch s j))++cur.toList.drop s.size).toArray,?_,⟨_,setRow_heap w g cur _ t _ hb,?_,fun j hj=>?_⟩,fun B w0 h hB=>below_setRow h hB _⟩
  ·simp [Builtin.copy_,run_underlying hu,Builtin.lenOf,Builtin.firstCells,sizeOf,typeInfo,hq,hmin]
   rw [htk,hst]
   simp [Result.andThen]
  ·simp [hN];omega
  ·rw [List.getElem?_toArray]
   exact xN (fun j=>J .u8 (T.ch s j)) f _ N cur hc j hj
def LnB (B:Nat) (w:World) (v:Value) (s:ByteArray):Prop:=∃ g f,v=O (some ⟨g,0,none⟩) s.size (s.size+8)/\B<=g/\w.rowIs g 5 (s.size+8) f/\∀ i,i<s.size+8->f i=J .u8 (ext s.size (T.ch s) i)
theorem xP (s:ByteArray) (w:World) (hn:s.size<=140737488351232) :
 Calls Tryz.prog 71 #[.string s] w fun e w'=>(∃ v,e=.returned v/\LnB w.heap.size w' v s)/\Below w.heap.size w w':=by
 obtain ⟨i0,hi,hz0,hz1,hz2⟩:=info_parts Tryz.infoByte
 have hszz:(Tryz.prog.info? 5).map (·.size)=some 1:=by rw [hi];simp [hz1]
 go_enter Tryz.func71,Tryz.ntmps71
 go_wp2_with (at_make;refine wpList_make_full _ rfl _ _ 48 rfl w.heap.size 5 i0 (J .u8 0) 1 Tryz.underlying48 hi hz0 hz1 .i64 .i64 _ _ (s.size+8) rfl rfl (by omega) (by omega) (by rw [hz2];omega) (by unfold maxLen;omega) (Nat.le_refl _) ?_;intro w0 hown0 hgrow0;obtain ⟨f0,hrow0⟩:=yQ hown0 rfl;have hb0:Below w.heap.size w w0:=Y8 hgrow0;obtain ⟨w1,hcp,hr1,hbl⟩:=QS (P:=Tryz.prog) w0 48 9 3 5 w.heap.size (s.size+8) (s.size+8) s 5 ((s.size+8)*1) f0 Tryz.underlying48 hszz hrow0 (by omega) (by omega);have HR1:Hid (w1.rowIs w.heap.size 5 ((s.size+8)*1) (fun j=>if j<s.size then J .u8 (T.ch s j) else f0 j)):=hr1;have HB1:Hid (Below w.heap.size w w1):=hbl _ _ hb0 (Nat.le_refl _);clear hown0 hgrow0 hrow0 hb0 hr1 hbl)
 have hrow1:w1.rowIs w.heap.size 5 (s.size+8) (fun j=>if j<s.size then J .u8 (T.ch s j) else f0 j):=by have:=HR1.out;rw [Nat.mul_one] at this;exact this
 clear HR1 hcp
 go_loopw [5] (fun x wr=>∃ (k:Nat) (f:Nat->Value),s.size<=k/\k<=s.size+8/\x=J Z k/\wr.rowIs w.heap.size 5 (s.size+8) f/\Hid (∀ i,i<k->f i=J .u8 (ext s.size (T.ch s) i))/\Below w.heap.size w wr) (fun x _=>s.size+8-(intOf x).toNat)
 case atStart=>exact ⟨s.size,_,Nat.le_refl _,by omega,rfl,hrow1,fun i hi=>by simp [ext,hi],HB1.out⟩
 case round =>
  obtain ⟨k,f,hk0,hk,rfl,hrow,hf,hb⟩:=hrel
  clear hrow1 HB1
  by_cases hlt:k<s.size+8
  ·have c0:=hrow.cell (i:=k) hlt
   have z0:=hrow.frozen k
   have HR:Hid (wr.rowIs w.heap.size 5 (s.size+8) f):=hrow
   have HB:Hid (Below w.heap.size w wr):=hb
   have hlt':(k:Int)<(s.size:Int)+8:=by omega
   clear hrow hb
   go_wp2_with fail
   go_roundw
   case rel=>exact ⟨k+1,_,by omega,by omega,by go_num,HR.out.set k _,fun i hi=>by
    by_cases e:i=k
    ·simp only [e,if_true];rw [ext,if_neg (by omega)]
    ·simp only [e,if_false];exact hf.out i (by omega),HB.out.setCell (Nat.le_refl _) _⟩
   case measure=>simp [intOf];omega
  ·have hkn:k=s.size+8:=by omega
   subst hkn
   have HB:Hid (Below w.heap.size w wr):=hb
   clear hb
   go_wp2_with fail
   go_ret
   exact ⟨⟨_,rfl,_,f,rfl,Nat.le_refl _,hrow,hf.out⟩,HB.out⟩
theorem YX (B:Nat) (v:Value) (s:ByteArray) (w:World) (hn:s.size<=140737488351232) (hl:LnB B w v s) :
 Calls Tryz.prog 73 #[v,.string s] w fun e w'=>e=.returned (.bool true)/\w.grownBy w' v.ownBlock:=by
 obtain ⟨g,f0,rfl,hBg,hrow0,hf0⟩:=hl
 have hcv:=run_convert_bytes_arg (P:=Tryz.prog) w 48 5 Tryz.underlying48 Tryz.underlying5 g 0 s.size (s.size+8) (bsL s) (xG s) (fun i hi=>by
  rw [Nat.zero_add,hrow0.cell (by omega),hf0 i (by omega)]
  simp [ext,hi,JN s hi]) 9 Tryz.underlying9
 rw [zd8] at hcv
 have HR0:Hid _:=hrow0
 have HF0:Hid _:=hf0
 clear hrow0 hf0
 show Calls _ _ _ _ fun e w'=>e=.returned (.bool true)/\w.grownBy w' (some g)
 go_enter Tryz.func73,Tryz.ntmps73
 go_wp2_with fail
 clear hcv
 go_loopw [7,8] (fun y x wr=>∃ (k:Nat) (f:Nat->Value),k<=s.size+8/\x=J Z k/\y=.bool true/\wr.rowIs g 5 (s.size+8) f/\Hid (∀ i,k<=i->i<s.size+8->f i=J .u8 (ext s.size (T.ch s) i))/\w.grownBy wr (some g)) (fun _ x _=>s.size+8-(intOf x).toNat)
 case atStart=>exact ⟨0,f0,by omega,rfl,rfl,HR0.out,fun i _ hi=>HF0.out i hi,Z6 _ _⟩
 case round =>
  obtain ⟨k,f,hk,rfl,rfl,hrow,hf2,hgr⟩:=hrel
  have HR:Hid (wr.rowIs g 5 (s.size+8) f):=hrow
  have HG:Hid _:=hgr
  clear hrow hgr
  by_cases hlt:k<s.size+8
  ·have c0:=HR.out.cell (i:=k) hlt
   have z0:=HR.out.frozen k
   have hfk:=hf2.out k (Nat.le_refl _) hlt
   rw [hfk] at c0
   have hlt':(k:Int)<(s.size:Int)+8:=by omega
   have HS2:Hid (∀ i,k+1<=i->i<s.size+8->(if i=k then Value.int .u8 0 else f i)=J .u8 (ext s.size (T.ch s) i)):=fun i h1 h2=>by rw [if_neg (by omega)];exact hf2.out i (by omega) h2
   by_cases hkn:k<s.size
   ·rw [ext,if_pos hkn] at c0
    have hkn':(k:Int)<(s.size:Int):=by omega
    go_wp2_with fail
    go_roundw
    case rel=>exact ⟨k+1,_,by omega,by go_num,rfl,HR.out.set k _,HS2,yw HG.out _ _⟩
    case measure=>simp [intOf];omega
   ·rw [ext,if_neg hkn] at c0
    have hkn':¬ (k:Int)<(s.size:Int):=by omega
    go_wp2_with fail
    go_roundw
    case rel=>exact ⟨k+1,_,by omega,by go_num,rfl,HR.out.set k _,HS2,yw HG.out _ _⟩
    case measure=>simp [intOf];omega
  ·have hkn:k=s.size+8:=by omega
   subst hkn
   go_wp2_with fail
   go_ret
   exact ⟨rfl,HG.out⟩
end Go.Proofs.YtaebngpoagjafaaGreat
