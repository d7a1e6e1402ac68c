import Derived.Test.YtaebngpoagjafabGreatU03
import Derived.Test.YtaebngpoagjafabGreatU04
import Derived.Laws.CopyOwn
set_option maxRecDepth 100000
set_option maxHeartbeats 1000000
namespace Go.Proofs.YtaebngpoagjafabGreat
open Value renaming int → J, slice → O
open IntKind renaming i64 → Z
open Go.RowKit
attribute [local go_sem ↓] Go.wp_at_zero Go.wp_at_succ
theorem Qk (F f:Nat->Value) (m N:Nat) (cur:Array Value) (hc:∀ i,i<N->cur[i]?=some (f i)) (i:Nat) (hi:i<N):((List.range m).map F++cur.toList.drop m)[i]?=some (if i<m then F i else f i):=by
 by_cases h:i<m
 ·rw [List.getElem?_append_left (by simpa using h),if_pos h]
  simp [h]
 ·rw [List.getElem?_append_right (by simp;omega),if_neg h]
  simp only [List.length_map,List.length_range,List.getElem?_drop]
  rw [show m+(i-m)=i from by omega]
  simpa using hc i hi
theorem ZM {P:Program} (w:World) (dT sT ty elem:TypeId) (sz g dLen dCap:Nat) (sp:Option Addr) (sLen sCap:Nat) (t:TypeId) (N:Nat) (f F:Nat->Value)
 (hu:P.underlying dT=some (.slice elem)) (hs:(P.info? elem).map (·.size)=some sz) (hg:w.rowIs g t N f) (hle:sLen<=dLen)
 (hpos:0<sLen->∃ ad,sp=some ad/\∀ j,j<sLen*sz->w.cell? (ad.add j)=some (F j)) (hone:∀ j,j<sLen*sz->(F j).oneCell'=true) (hfit:sLen*sz<=N) :
 ∃ w',(Builtin.copy_ #[dT,sT] ty #[O (some ⟨g,0,none⟩) dLen dCap,O sp sLen sCap]).run P w=.ok (goInt sLen) w'/\w'.rowIs g t N (fun j=>if j<sLen*sz then F j else f j)/\(∀ B w0,Below B w0 w->B<=g->Below B w0 w')/\∀ b,b≠g->w'.heap[b]?=w.heap[b]?:=by
 obtain ⟨a,o,p,q⟩:=hg
 have l:Nat.min sLen dLen=sLen:=Nat.min_eq_left hle
 cases hq:P.info? elem with
 | none=>simp [hq] at hs
 | some i =>
  have r:i.size=sz:=by simpa [hq] using hs
  by_cases s:sLen=0
  ·subst s
   have m:∀ (x:Addr),(loadCells x 0).run P w=.ok #[] w:=fun x=>by simpa using run_loadCells_list (P:=P) w x [] (by simp)
   refine ⟨w,?_,⟨a,o,p,fun j d=>by simpa using q j d⟩,fun _ _ h _=>h,fun _ _=>rfl⟩
   cases sp<;>simp [Builtin.copy_,run_underlying hu,Builtin.lenOf,Builtin.firstCells,sizeOf,typeInfo,hq,storeCells,m]
  ·obtain ⟨ad,rfl,k⟩:=hpos (by omega)
   have n:((List.range (sLen*sz)).map F).length=sLen*sz:=by simp
   have m:=run_loadCells_list (P:=P) w ad ((List.range (sLen*sz)).map F) (fun j v hv=>by
    have d:j<sLen*sz:=by have:=(List.getElem?_eq_some_iff.1 hv).1;simpa using this
    simp [d] at hv
    rw [k j d,hv])
   have e:=run_storeCells_at P g 0 t ((List.range (sLen*sz)).map F) 0 a w o (by simpa [p] using hfit) (fun v hv=>by
    simp only [List.mem_map,List.mem_range] at hv
    obtain ⟨j,d,rfl⟩:=hv
    exact hone j d)
   rw [n] at m e
   simp only [Nat.add_zero,Nat.zero_add,List.take_zero,List.nil_append] at e
   refine ⟨w.setRow g ((List.range (sLen*sz)).map F++a.toList.drop (sLen*sz)).toArray,?_,⟨_,setRow_heap w g a _ t _ o,?_,fun j d=>?_⟩,fun B w0 h hB=>below_setRow h hB _,fun b hb'=>setRow_other w g b _ hb'⟩
   ·simp [Builtin.copy_,run_underlying hu,Builtin.lenOf,Builtin.firstCells,sizeOf,typeInfo,hq,r,l,m,e]
   ·simp [p];omega
   ·rw [List.getElem?_toArray]
    exact Qk F f _ N a q j d
def LnI (B:Nat) (w:World) (o:Option Addr) (v:Value) (n:Nat) (D:Nat->Int):Prop:=(o=none/\v=O none 0 0/\n=0)\/∃ ad g f,o=some ad/\v=O (some ⟨g,0,none⟩) n (n+8)/\B<=g/\w.rowIs g 3 (n+8) f/\∀ i,i<n+8->f i=J Z (ext n D i)
theorem LnI.keep {B:Nat} {w w':World} {o:Option Addr} {v:Value} {n:Nat} {D:Nat->Int} (h:LnI B w o v n D) (hk:∀ g,v.ownBlock=some g->w'.heap[g]?=w.heap[g]?):LnI B w' o v n D:=by
 rcases h with h | ⟨ad,g,f,h1,h2,h3,h4,h5⟩
 ·exact .inl h
 ·exact .inr ⟨ad,g,f,h1,h2,h3,h4.of_block (hk g (by rw [h2];rfl)),h5⟩
theorem LnI.lt {B:Nat} {w:World} {o:Option Addr} {v:Value} {n:Nat} {D:Nat->Int} (h:LnI B w o v n D) {g:Nat} (hg:v.ownBlock=some g):B<=g/\g<w.heap.size:=by
 rcases h with ⟨_,rfl,_⟩ | ⟨ad,g',f,_,rfl,h3,h4,_⟩
 ·cases hg
 ·cases hg;exact ⟨h3,h4.lt⟩
theorem LnI.below {B:Nat} {w w':World} {o:Option Addr} {v:Value} {n:Nat} {D:Nat->Int} (h:LnI B w o v n D) (hb:Below w.heap.size w w'):LnI B w' o v n D:=h.keep (fun g hg=>hb.block g (h.lt hg).2)
theorem LnI.is_ {B:Nat} {w:World} {o:Option Addr} {v:Value} {n:Nat} {D:Nat->Int} (h:LnI B w o v n D):∃ o' c g,v=O o' n c/\IS w o' g 0 n D/\(0<n->B<=g/\g<w.heap.size):=by
 rcases h with ⟨_,rfl,rfl⟩ | ⟨ad,g,f,_,rfl,h3,h4,h5⟩
 ·exact ⟨none,0,0,rfl,⟨fun h=>by omega,fun h=>by omega,fun i hi=>by omega⟩,fun h=>by omega⟩
 ·refine ⟨_,_,g,rfl,⟨fun _=>rfl,fun _=>h4.lt,fun i hi=>?_⟩,fun _=>⟨h3,h4.lt⟩⟩
  rw [Nat.zero_add,h4.cell (by omega),h5 i (by omega)]
  simp [ext,hi]
theorem Q9 (o:Option Addr) (b off n c:Nat) (D:Nat->Int) (w:World) (hn:n*8<=140737488351232) (hs:IS w o b off n D) :
 Calls Tryz.prog 77 #[O o n c] w fun e w'=>(∃ v,e=.returned v/\LnI w.heap.size w' o v n D)/\Below w.heap.size w w':=by
 cases o with
 | none =>
  have G:n=0:=by rcases Nat.eq_zero_or_pos n with h | h;exact h;cases hs.at_ h
  subst G
  have d:=fun w=>Lib.run_eql_slice_nil (P:=Tryz.prog) w 25 3 none 0 c 0 0 Tryz.underlying25
  simp only [Option.isNone] at d
  go_enter Tryz.func77,Tryz.ntmps77
  go_wp2_with fail
  go_ret
  exact ⟨⟨_,rfl,.inl ⟨rfl,rfl,rfl⟩⟩,Below.refl _ _⟩
 | some ad =>
  obtain ⟨X,B,K,y,I⟩:=info_parts Tryz.infoInt
  have d:=fun w=>Lib.run_eql_slice_nil (P:=Tryz.prog) w 25 3 (some ad) n c 0 0 Tryz.underlying25
  simp only [Option.isNone] at d
  have HS:Hid (IS w (some ad) b off n D):=hs
  have W:Hid (∀ r,Below w.heap.size w r->0<n->∃ ad',some ad=some ad'/\∀ j,j<n*1->r.cell? (ad'.add j)=some (J Z (D j))):=fun r u G=>⟨ad,rfl,fun j hj=>by
   have:=hs.at_ G
   cases this
   rw [show (⟨b,off,none⟩:Addr).add j=⟨b,off+j,none⟩ from by unfold Addr.add;split<;>simp_all]
   exact (u.cell (p:=⟨b,off+j,none⟩) (hs.lt G)).trans (hs.val j (by omega))⟩
  have z:(Tryz.prog.info? 3).map (·.size)=some 1:=by rw [B];simp [y]
  clear hs
  go_enter Tryz.func77,Tryz.ntmps77
  go_wp2_with (at_make;refine wpList_make_full _ rfl _ _ 25 rfl w.heap.size 3 X (J Z 0) 1 Tryz.underlying25 B K y .i64 .i64 _ _ (n+8) rfl rfl (by omega) (by omega) (by rw [I];omega) (by unfold maxLen;omega) (Nat.le_refl _) ?_;intro r q g;obtain ⟨R,m⟩:=Yf q rfl;have s:Below w.heap.size w r:=ZR g;obtain ⟨H,Q,A,C,_⟩:=ZM (P:=Tryz.prog) r 25 25 3 3 1 w.heap.size (n+8) (n+8) (some ad) n c 3 ((n+8)*1) R (fun i=>J Z (D i)) Tryz.underlying25 z m (by omega) (W.out r s) (fun j hj=>rfl) (by omega);have E:Hid (H.rowIs w.heap.size 3 ((n+8)*1) (fun j=>if j<n*1 then J Z (D j) else R j)):=A;have F:Hid (Below w.heap.size w H):=C _ _ s (Nat.le_refl _);clear q g m s A C)
  have l:H.rowIs w.heap.size 3 (n+8) (fun j=>if j<n*1 then J Z (D j) else R j):=by have:=E.out;rw [Nat.mul_one] at this;exact this
  clear d W E Q
  go_loopw [5] (fun x wr=>∃ (k:Nat) (f:Nat->Value),n<=k/\k<=n+8/\x=J Z k/\wr.rowIs w.heap.size 3 (n+8) f/\Hid (∀ i,i<k->f i=J Z (ext n D i))/\Below w.heap.size w wr) (fun x _=>n+8-(intOf x).toNat)
  case atStart=>exact ⟨n,_,Nat.le_refl _,by omega,rfl,l,fun i B=>by simp [ext,B],F.out⟩
  case round =>
   obtain ⟨k,f,Y,hk,rfl,a,V,u⟩:=hrel
   clear l F
   by_cases L:k<n+8
   ·have c0:=a.cell (i:=k) L
    have z0:=a.frozen k
    have HR:Hid (wr.rowIs w.heap.size 3 (n+8) f):=a
    have S:Hid (Below w.heap.size w wr):=u
    have U:(k:Int)<(n:Int)+8:=by omega
    clear a u
    go_wp2_with fail
    go_roundw
    case rel=>exact ⟨k+1,_,by omega,by omega,by go_num,HR.out.set k _,fun i B=>by
     by_cases e:i=k
     ·simp only [e,if_true];rw [ext,if_neg (by omega)]
     ·simp only [e,if_false];exact V.out i (by omega),S.out.setCell (Nat.le_refl _) _⟩
    case measure=>simp [intOf];omega
   ·have N:k=n+8:=by omega
    subst N
    have S:Hid (Below w.heap.size w wr):=u
    clear u
    go_wp2_with fail
    go_ret
    exact ⟨⟨_,rfl,.inr ⟨ad,_,f,rfl,rfl,Nat.le_refl _,a,V.out⟩⟩,S.out⟩
theorem YJ (w:World) (r:Option Nat):w.grownBy w r:=⟨rfl,rfl,rfl,Nat.le_refl _,fun _ _ _=>rfl⟩
theorem Zq {w w':World} {g:Nat} (h:w.grownBy w' (some g)) (i:Nat) (v:Value):w.grownBy (w'.setCell ⟨g,i,none⟩ v) (some g) :=
 ⟨h.os,h.tape,h.output,by have:=h.size;simpa [World.setCell] using this,fun k hk hne=>(za (fun e=>hne (by rw [e]))).trans (h.block k hk hne)⟩
theorem xJ (B:Nat) (v:Value) (o:Option Addr) (b off n c:Nat) (D:Nat->Int) (u:Int) (w:World) (hn:n*8<=140737488351232) (hs:IS w o b off n D) (hbB:0<n->b<B) (hl:LnI B w o v n D) :
 Calls Tryz.prog 79 #[v,O o n c,J Z u] w fun e w'=>e=.returned (.bool true)/\w.grownBy w' v.ownBlock/\∀ g,v.ownBlock=some g->w'.rowIs g 3 (n+8) (fun _=>J Z u):=by
 rcases hl with ⟨rfl,rfl,rfl⟩ | ⟨ad,g,f0,rfl,rfl,hBg,hrow0,hf0⟩
 ·have a:=fun w=>Lib.run_eql_slice_nil (P:=Tryz.prog) w 25 3 none 0 c 0 0 Tryz.underlying25
  simp only [Option.isNone] at a
  go_enter Tryz.func79,Tryz.ntmps79
  go_wp2_with fail
  go_ret
  exact ⟨rfl,YJ _ _,fun g hg=>by cases hg⟩
 ·have a:=fun w=>Lib.run_eql_slice_nil (P:=Tryz.prog) w 25 3 (some ad) n c 0 0 Tryz.underlying25
  simp only [Option.isNone] at a
  have G:Hid (IS w (some ad) b off n D):=hs
  have H:Hid _:=hrow0
  have I:Hid _:=hf0
  have K:Hid _:=hbB
  clear hs hrow0 hf0 hbB
  show Calls _ _ _ _ fun e w'=>e=.returned (.bool true)/\w.grownBy w' (some g)/\∀ g',some g=some g'->w'.rowIs g' 3 (n+8) (fun _=>J Z u)
  go_enter Tryz.func79,Tryz.ntmps79
  go_wp2_with fail
  clear a
  go_loopw [9,10] (fun y x wr=>∃ (k:Nat) (f:Nat->Value),k<=n+8/\x=J Z k/\y=.bool true/\wr.rowIs g 3 (n+8) f/\Hid (∀ i,i<k->f i=J Z u)/\Hid (∀ i,k<=i->i<n+8->f i=J Z (ext n D i))/\w.grownBy wr (some g)) (fun _ x _=>n+8-(intOf x).toNat)
  case atStart=>exact ⟨0,f0,by omega,rfl,rfl,H.out,fun i hi=>by omega,fun i _ hi=>I.out i hi,YJ _ _⟩
  case round =>
   obtain ⟨k,f,Q,rfl,rfl,h,q,p,m⟩:=hrel
   have z:Hid (wr.rowIs g 3 (n+8) f):=h
   have A:Hid (w.grownBy wr (some g)):=m
   clear h m
   by_cases j:k<n+8
   ·have c0:=z.out.cell (i:=k) j
    have N:=z.out.frozen k
    have C:=p.out k (Nat.le_refl _) j
    rw [C] at c0
    have L:(k:Int)<(n:Int)+8:=by omega
    have s:Hid (∀ i,i<k+1->(if i=k then J Z u else f i)=J Z u):=fun i hi=>by
     by_cases e:i=k
     ·rw [if_pos e]
     ·rw [if_neg e];exact q.out i (by omega)
    have r:Hid (∀ i,k+1<=i->i<n+8->(if i=k then J Z u else f i)=J Z (ext n D i)):=fun i h1 h2=>by rw [if_neg (by omega)];exact p.out i (by omega) h2
    by_cases d:k<n
    ·have F:=G.out.at_ (by omega)
     cases F
     have E:=G.out.lt (by omega)
     have hbB:=K.out (by omega)
     have R:=(A.out.cell_far ⟨b,off+k,none⟩ E (by simp;omega)).trans (G.out.val k d)
     rw [ext,if_pos d] at c0
     have l:(k:Int)<(n:Int):=by omega
     go_wp2_with fail
     go_roundw
     case rel=>exact ⟨k+1,_,by omega,by go_num,rfl,z.out.set k _,s,r,Zq A.out _ _⟩
     case measure=>simp [intOf];omega
    ·rw [ext,if_neg d] at c0
     have l:¬ (k:Int)<(n:Int):=by omega
     go_wp2_with fail
     go_roundw
     case rel=>exact ⟨k+1,_,by omega,by go_num,rfl,z.out.set k _,s,r,Zq A.out _ _⟩
     case measure=>simp [intOf];omega
   ·have d:k=n+8:=by omega
    subst d
    go_wp2_with fail
    go_ret
    exact ⟨rfl,A.out,fun g' e=>by cases e;exact z.out.congr (fun i hi=>q.out i hi)⟩
def plF (V L R:Nat->Int) (j:Nat):Value:=if j%3=0 then J Z (V (j / 3)) else if j%3=1 then J Z (L (j / 3)) else J Z (R (j / 3))
theorem zcv (V L R:Nat->Int) (i:Nat):plF V L R (i*3)=J Z (V i)/\plF V L R (i*3+1)=J Z (L i)/\plF V L R (i*3+2)=J Z (R i):=by
 unfold plF
 rw [show i*3%3=0 from by omega,show i*3 / 3=i from by omega,show (i*3+1)%3=1 from by omega,show (i*3+1) / 3=i from by omega,show (i*3+2)%3=2 from by omega,show (i*3+2) / 3=i from by omega]
 simp
def P3 (f:Nat->Value) (i:Nat) (a b c:Int):Prop:=f (i*3)=J Z a/\f (i*3+1)=J Z b/\f (i*3+2)=J Z c
def Qp (f:Nat->Value) (k:Nat) (x y z:Value) (j:Nat):Value:=if j=k*3+2 then z else if j=k*3+1 then y else if j=k*3 then x else f j
theorem QX {w:World} {g t N:Nat} {f:Nat->Value} (h:w.rowIs g t N f) (k:Nat) (x y z:Value):(((w.setCell ⟨g,k*3,none⟩ x).setCell ⟨g,k*3+1,none⟩ y).setCell ⟨g,k*3+2,none⟩ z).rowIs g t N (Qp f k x y z):=((h.set _ _).set _ _).set _ _
theorem zb3 {f:Nat->Value} {k:Nat} {x y z:Value} {i:Nat} (h:i≠k) {a b c:Int} (hp:P3 f i a b c):P3 (Qp f k x y z) i a b c:=by
 unfold P3 Qp
 rw [if_neg (by omega),if_neg (by omega),if_neg (by omega),if_neg (by omega),if_neg (by omega),if_neg (by omega),if_neg (by omega),if_neg (by omega),if_neg (by omega)]
 exact hp
theorem zfe (f:Nat->Value) (k:Nat) (a b c:Int):P3 (Qp f k (J Z a) (J Z b) (J Z c)) k a b c:=by
 unfold P3 Qp
 simp
def LnP (B:Nat) (w:World) (o:Option Addr) (v:Value) (n:Nat) (V L R:Nat->Int):Prop:=(o=none/\v=O none 0 0/\n=0)\/∃ ad g f,o=some ad/\v=O (some ⟨g,0,none⟩) n (n+8)/\B<=g/\w.rowIs g 96 ((n+8)*3) f/\∀ i,i<n+8->P3 f i (ext n V i) (ext n L i) (ext n R i)
theorem LnP.keep {B:Nat} {w w':World} {o:Option Addr} {v:Value} {n:Nat} {V L R:Nat->Int} (h:LnP B w o v n V L R) (hk:∀ g,v.ownBlock=some g->w'.heap[g]?=w.heap[g]?):LnP B w' o v n V L R:=by
 rcases h with h | ⟨ad,g,f,h1,h2,h3,h4,h5⟩
 ·exact .inl h
 ·exact .inr ⟨ad,g,f,h1,h2,h3,h4.of_block (hk g (by rw [h2];rfl)),h5⟩
theorem LnP.lt {B:Nat} {w:World} {o:Option Addr} {v:Value} {n:Nat} {V L R:Nat->Int} (h:LnP B w o v n V L R) {g:Nat} (hg:v.ownBlock=some g):B<=g/\g<w.heap.size:=by
 rcases h with ⟨_,rfl,_⟩ | ⟨ad,g',f,_,rfl,h3,h4,_⟩
 ·cases hg
 ·cases hg;exact ⟨h3,h4.lt⟩
theorem LnP.below {B:Nat} {w w':World} {o:Option Addr} {v:Value} {n:Nat} {V L R:Nat->Int} (h:LnP B w o v n V L R) (hb:Below w.heap.size w w'):LnP B w' o v n V L R:=h.keep (fun g hg=>hb.block g (h.lt hg).2)
theorem LnP.ts {B:Nat} {w:World} {o:Option Addr} {v:Value} {n:Nat} {V L R:Nat->Int} (h:LnP B w o v n V L R):∃ o' c g,v=O o' n c/\TS w o' g 0 n V L R:=by
 rcases h with ⟨_,rfl,rfl⟩ | ⟨ad,g,f,_,rfl,h3,h4,h5⟩
 ·exact ⟨none,0,0,rfl,⟨fun h=>by omega,fun h=>by omega,fun i hi=>by omega,fun i hi=>by omega,fun i hi=>by omega⟩⟩
 ·refine ⟨_,_,g,rfl,⟨fun _=>rfl,fun _=>h4.lt,fun i hi=>?_,fun i hi=>?_,fun i hi=>?_⟩⟩
  ·rw [Nat.zero_add,h4.cell (by omega),(h5 i (by omega)).1];simp [ext,hi]
  ·rw [Nat.zero_add,h4.cell (by omega),(h5 i (by omega)).2.1];simp [ext,hi]
  ·rw [Nat.zero_add,h4.cell (by omega),(h5 i (by omega)).2.2];simp [ext,hi]
theorem qS (o:Option Addr) (b off n c:Nat) (V L R:Nat->Int) (w:World) (hn:n*24<=140737488351232) (hs:TS w o b off n V L R) :
 Calls Tryz.prog 80 #[O o n c] w fun e w'=>(∃ v,e=.returned v/\LnP w.heap.size w' o v n V L R)/\Below w.heap.size w w':=by
 cases o with
 | none =>
  have H:n=0:=by rcases Nat.eq_zero_or_pos n with h | h;exact h;cases hs.at_ h
  subst H
  have d:=fun w=>Lib.run_eql_slice_nil (P:=Tryz.prog) w 29 96 none 0 c 0 0 Tryz.underlying29
  simp only [Option.isNone] at d
  go_enter Tryz.func80,Tryz.ntmps80
  go_wp2_with fail
  go_ret
  exact ⟨⟨_,rfl,.inl ⟨rfl,rfl,rfl⟩⟩,Below.refl _ _⟩
 | some ad =>
  obtain ⟨i0,F,S,C,Q⟩:=info_parts Tryz.infoPlace
  have d:=fun w=>Lib.run_eql_slice_nil (P:=Tryz.prog) w 29 96 (some ad) n c 0 0 Tryz.underlying29
  simp only [Option.isNone] at d
  have HC:Hid (∀ y,Below w.heap.size w y->0<n->∃ ad',some ad=some ad'/\∀ j,j<n*3->y.cell? (ad'.add j)=some (plF V L R j)):=fun y B H=>⟨ad,rfl,fun j hj=>by
   have:=hs.at_ H
   cases this
   rw [show (⟨b,off,none⟩:Addr).add j=⟨b,off+j,none⟩ from by unfold Addr.add;split<;>simp_all,B.cell (p:=⟨b,off+j,none⟩) (hs.lt H)]
   obtain ⟨i,r,rfl,hr⟩:∃ i r,j=i*3+r/\r<3:=⟨j / 3,j%3,by omega,by omega⟩
   obtain ⟨N,K,p2⟩:=zcv V L R i
   rcases r with _ | _ | _ | r
   ·rw [Nat.add_zero,N];exact hs.val i (by omega)
   ·rw [K];exact hs.len i (by omega)
   ·rw [p2];exact hs.reg i (by omega)
   ·omega⟩
  have D:(Tryz.prog.info? 96).map (·.size)=some 3:=by rw [F];simp [C]
  clear hs
  go_enter Tryz.func80,Tryz.ntmps80
  go_wp2_with (at_make;refine wpList_make_full _ rfl _ _ 29 rfl w.heap.size 96 i0 (.agg #[J Z 0,J Z 0,J Z 0]) 3 Tryz.underlying29 F S C .i64 .i64 _ _ (n+8) rfl rfl (by omega) (by omega) (by rw [Q];omega) (by unfold maxLen;omega) (Nat.le_refl _) ?_;intro y q g;obtain ⟨f0,l⟩:=Yf q rfl;have A:Below w.heap.size w y:=ZR g;obtain ⟨X,W,E,G,_⟩:=ZM (P:=Tryz.prog) y 29 29 3 96 3 w.heap.size (n+8) (n+8) (some ad) n c 96 ((n+8)*3) f0 (plF V L R) Tryz.underlying29 D l (by omega) (HC.out y A) (fun j hj=>by unfold plF;split<;>(try split)<;>rfl) (by omega);have s:Hid (X.rowIs w.heap.size 96 ((n+8)*3) (fun j=>if j<n*3 then plF V L R j else f0 j)):=E;have u:Hid (Below w.heap.size w X):=G _ _ A (Nat.le_refl _);clear q g l A E G)
  clear d HC W
  go_loopw [5] (fun x wr=>∃ (k:Nat) (f:Nat->Value),n<=k/\k<=n+8/\x=J Z k/\wr.rowIs w.heap.size 96 ((n+8)*3) f/\Hid (∀ i,i<k->P3 f i (ext n V i) (ext n L i) (ext n R i))/\Below w.heap.size w wr) (fun x _=>n+8-(intOf x).toNat)
  case atStart =>
   refine ⟨n,_,Nat.le_refl _,by omega,rfl,s.out,fun i F=>?_,u.out⟩
   obtain ⟨N,K,p2⟩:=zcv V L R i
   unfold P3
   dsimp only
   rw [if_pos (by omega),if_pos (by omega),if_pos (by omega),N,K,p2]
   simp [ext,F]
  case round =>
   obtain ⟨k,f,a2,hk,rfl,m,hf,B⟩:=hrel
   clear s u
   by_cases a1:k<n+8
   ·have HR:Hid _:=m
    have I:Hid _:=B
    have Y:(k:Int)<(n:Int)+8:=by omega
    clear m B
    go_wp2_with fail
    refine (zan _).mono ?_
    rintro e a0 ⟨rfl,z⟩
    have a:=xm HR.out z
    have s:Hid _:=a
    have u:Hid _:=I.out.trans (z.mono I.out.size)
    have c0:=a.cell (i:=k*3) (by omega)
    have c1:=a.cell (i:=k*3+1) (by omega)
    have c2:=a.cell (i:=k*3+2) (by omega)
    have z0:=a.frozen (k*3)
    have z1:=a.frozen (k*3+1)
    have z2:=a.frozen (k*3+2)
    clear z a
    go_wp2_with fail
    go_roundw
    case rel=>exact ⟨k+1,_,by omega,by omega,by go_num,QX s.out k _ _ _,fun i F=>by
     by_cases e:i=k
     ·subst e
      rw [ext,if_neg (by omega),ext,if_neg (by omega),ext,if_neg (by omega)]
      exact zfe f i 77 77 77
     ·exact zb3 e (hf.out i (by omega)),((u.out.setCell (Nat.le_refl _) _).setCell (Nat.le_refl _) _).setCell (Nat.le_refl _) _⟩
    case measure=>simp [intOf];omega
   ·have U:k=n+8:=by omega
    subst U
    have I:Hid _:=B
    clear B
    go_wp2_with fail
    go_ret
    exact ⟨⟨_,rfl,.inr ⟨ad,_,f,rfl,rfl,Nat.le_refl _,m,hf.out⟩⟩,I.out⟩
theorem zdb (d:Nat) (a b c:Int) (w:World):(Op.equalIn (d+3) 96 (.agg #[J Z a,J Z b,J Z c]) (.agg #[J Z a,J Z b,J Z c])).run Tryz.prog w=.ok true w:=by
 have m:=Tryz.underlying3
 have k:Tryz.prog.underlying 96=some (.struct (Tryz.prog.fieldsOf 96)):=by kernel_rfl
 have j:Tryz.prog.stoodInHeld 96=false:=by kernel_rfl
 have g:Tryz.prog.underlying 94=some (.struct (Tryz.prog.fieldsOf 94)):=by kernel_rfl
 have f:Tryz.prog.stoodInHeld 94=false:=by kernel_rfl
 have l:∀ e,(Op.equalIn (e+2) 94 (.agg #[J Z a,J Z b]) (.agg #[J Z a,J Z b])).run Tryz.prog w=.ok true w:=fun e=>by
  rw [run_equalIn_agg w (e+1) 94 _ _ g f]
  simp only [Program.fieldsOf,Tryz.underlying94]
  go_simp
 rw [run_equalIn_agg w (d+2) 96 _ _ k j]
 simp only [Program.fieldsOf,Tryz.underlying96]
 have i:∀ w,(part 94 #[J Z a,J Z b,J Z c] 0).run Tryz.prog w=.ok (.agg #[J Z a,J Z b]) w:=fun w=>by kernel_rfl
 have h:∀ w,(part 3 #[J Z a,J Z b,J Z c] 2).run Tryz.prog w=.ok (J Z c) w:=fun w=>by kernel_rfl
 simp [Op.eqFields,i,h,l]
 go_simp
theorem zap (a b c:Int) (w:World):(Op.equalIn 10000 96 (.agg #[J Z a,J Z b,J Z c]) (.agg #[J Z a,J Z b,J Z c])).run Tryz.prog w=.ok true w:=zdb 9997 a b c w
theorem zdm (w:World):(Instr.build 96 #[]).run Tryz.prog w=.ok (.agg #[J Z 0,J Z 0,J Z 0]) w:=run_build w 96 _ _ (by kernel_rfl)
theorem Y2 {w w1 w2:World} {r:Option Nat} (h:w.grownBy w1 r) (hb:Below w1.heap.size w1 w2):w.grownBy w2 r :=
 ⟨hb.os.trans h.os,hb.tape.trans h.tape,hb.output.trans h.output,Nat.le_trans h.size hb.size,fun k hk hne=>(hb.block k (Nat.lt_of_lt_of_le hk h.size)).trans (h.block k hk hne)⟩
theorem YT (B:Nat) (v:Value) (o:Option Addr) (b off n c:Nat) (V L R:Nat->Int) (w:World) (hn:n*24<=140737488351232) (hs:TS w o b off n V L R) (hbB:0<n->b<B) (hl:LnP B w o v n V L R) :
 Calls Tryz.prog 82 #[v,O o n c] w fun e w'=>e=.returned (.bool true)/\w.grownBy w' v.ownBlock:=by
 rcases hl with ⟨rfl,rfl,rfl⟩ | ⟨ad,g,f0,rfl,rfl,hBg,hrow0,hf0⟩
 ·have h:=fun w=>Lib.run_eql_slice_nil (P:=Tryz.prog) w 29 96 none 0 c 0 0 Tryz.underlying29
  simp only [Option.isNone] at h
  go_enter Tryz.func82,Tryz.ntmps82
  go_wp2_with fail
  go_ret
  exact ⟨rfl,YJ _ _⟩
 ·have h:=fun w=>Lib.run_eql_slice_nil (P:=Tryz.prog) w 29 96 (some ad) n c 0 0 Tryz.underlying29
  simp only [Option.isNone] at h
  have A:Hid _:=hs
  have G:Hid _:=hrow0
  have H:Hid _:=hf0
  have I:Hid _:=hbB
  have W:=fun w=>zdm w
  clear hs hrow0 hf0 hbB
  show Calls _ _ _ _ fun e w'=>e=.returned (.bool true)/\w.grownBy w' (some g)
  go_enter Tryz.func82,Tryz.ntmps82
  go_wp2_with fail
  clear h
  go_loopw [7,8] (fun y x wr=>∃ (k:Nat) (f:Nat->Value),k<=n+8/\x=J Z k/\y=.bool true/\wr.rowIs g 96 ((n+8)*3) f/\Hid (∀ i,k<=i->i<n+8->P3 f i (ext n V i) (ext n L i) (ext n R i))/\w.grownBy wr (some g)) (fun _ x _=>n+8-(intOf x).toNat)
  case atStart=>exact ⟨0,f0,by omega,rfl,rfl,G.out,fun i _ hi=>H.out i hi,YJ _ _⟩
  case round =>
   obtain ⟨k,f,hk,rfl,rfl,p,u,s⟩:=hrel
   have X:Hid _:=p
   have Q:Hid _:=s
   clear p s
   by_cases E:k<n+8
   ·have K:(k:Int)<(n:Int)+8:=by omega
    have z:Hid (∀ i,k+1<=i->i<n+8->P3 (Qp f k (J Z 0) (J Z 0) (J Z 0)) i (ext n V i) (ext n L i) (ext n R i)):=fun i h1 h2=>zb3 (by omega) (u.out i (by omega) h2)
    go_wp2_with fail
    refine (zan _).mono ?_
    rintro e D ⟨rfl,q⟩
    have a:=xm X.out q
    have C:Hid _:=a
    have j:Hid (w.grownBy D (some g)):=Y2 Q.out q
    have c0:=a.cell (i:=k*3) (by omega)
    have c1:=a.cell (i:=k*3+1) (by omega)
    have c2:=a.cell (i:=k*3+2) (by omega)
    have z0:=a.frozen (k*3)
    have z1:=a.frozen (k*3+1)
    have Y:=a.frozen (k*3+2)
    have U:g<D.heap.size:=a.lt
    have l:=u.out k (Nat.le_refl _) E
    rw [l.1] at c0
    rw [l.2.1] at c1
    rw [l.2.2] at c2
    clear q a l
    by_cases d:k<n
    ·have F:=A.out.at_ (by omega)
     cases F
     have m:=A.out.lt (by omega)
     have hbB:=I.out (by omega)
     have cv:=(j.out.cell_far ⟨b,off+k*3,none⟩ m (by simp;omega)).trans (A.out.val k d)
     have cl:=(j.out.cell_far ⟨b,off+k*3+1,none⟩ m (by simp;omega)).trans (A.out.len k d)
     have cr:=(j.out.cell_far ⟨b,off+k*3+2,none⟩ m (by simp;omega)).trans (A.out.reg k d)
     rw [ext,if_pos d] at c0 c1 c2
     have r:(k:Int)<(n:Int):=by omega
     have S:=fun w=>zap (V k) (L k) (R k) w
     have N:b<D.heap.size:=Nat.lt_of_lt_of_le m j.out.size
     go_wp2_with fail
     go_quiet (fail)
     go_wp2_with fail
     go_roundw
     case rel=>exact ⟨k+1,_,by omega,by go_num,rfl,QX (xm C.out (zL ((Below.refl _ _).alloc (Nat.le_refl _) _) _)) k _ _ _,z,Zq (Zq (Zq (Y2 j.out (zL ((Below.refl _ _).alloc (Nat.le_refl _) _) _)) _ _) _ _) _ _⟩
     case measure=>simp [intOf];omega
    ·rw [ext,if_neg d] at c0 c1 c2
     have r:¬ (k:Int)<(n:Int):=by omega
     have S:=fun w=>zap 77 77 77 w
     go_wp2_with fail
     go_quiet (fail)
     go_wp2_with fail
     go_roundw
     case rel=>exact ⟨k+1,_,by omega,by go_num,rfl,QX (xm C.out (zL ((Below.refl _ _).alloc (Nat.le_refl _) _) _)) k _ _ _,z,Zq (Zq (Zq (Y2 j.out (zL ((Below.refl _ _).alloc (Nat.le_refl _) _) _)) _ _) _ _) _ _⟩
     case measure=>simp [intOf];omega
   ·have d:k=n+8:=by omega
    subst d
    go_wp2_with fail
    go_ret
    exact ⟨rfl,Q.out⟩
theorem zeQ {w:World} {B j:Nat} {cs:Array Value} {t:TypeId} {fr:Nat×Nat} {u:Value} (h:w.heap[B]?=some (.cells cs t fr)):(w.setCell ⟨B,j,none⟩ u).heap[B]?=some (.cells (cs.setIfInBounds j u) t fr):=by
 simp [World.setCell,Array.getElem?_modify,h]
theorem LnI.put {B q j:Nat} {u:Value} {w:World} {o:Option Addr} {v:Value} {n:Nat} {D:Nat->Int} (h:LnI B w o v n D) (hq:q<B):LnI B (w.setCell ⟨q,j,none⟩ u) o v n D:=h.keep (fun g hg=>za (by have:=(h.lt hg).1;omega))
theorem LnP.put {B q j:Nat} {u:Value} {w:World} {o:Option Addr} {v:Value} {n:Nat} {V L R:Nat->Int} (h:LnP B w o v n V L R) (hq:q<B):LnP B (w.setCell ⟨q,j,none⟩ u) o v n V L R:=h.keep (fun g hg=>za (by have:=(h.lt hg).1;omega))
theorem LnI.mono {B B':Nat} {w:World} {o:Option Addr} {v:Value} {n:Nat} {D:Nat->Int} (h:LnI B w o v n D) (hB:B'<=B):LnI B' w o v n D:=by
 rcases h with h | ⟨ad,g,f,h1,h2,h3,h4,h5⟩
 ·exact .inl h
 ·exact .inr ⟨ad,g,f,h1,h2,by omega,h4,h5⟩
end Go.Proofs.YtaebngpoagjafabGreat
