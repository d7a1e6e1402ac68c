import Derived.Test.YtaebngpoagjafabGreatU51
set_option maxRecDepth 100000
set_option maxHeartbeats 3200000
namespace Go.Proofs.YtaebngpoagjafabGreat
open Obj renaming cells → X
open Value renaming int → J, slice → O
open IntKind renaming i64 → Z
open Go.RowKit
attribute [local go_sem ↓] Go.wp_at_zero Go.wp_at_succ
section
section
variable {w w':World} {G G':Nat->Prop} {B:Nat} {A:Option Nat} {s:ByteArray} {D:List Int} {al:Nat->List Int} {V L R:Nat->Int} {pl:Nat}
theorem RfV.row (h:RfV w G B none s D al V L R pl) {w1:World} {g c:Nat} (hb:Below w.heap.size w w1) (hg:w1.rowIs g 25 16 (fun _=>O none 0 0)) (hgl:w.heap.size<=g) :
 RfV (w1.setCell ⟨B,2,none⟩ (O (some ⟨g,0,none⟩) 16 c)) G B (some g) s D al V L R pl:=by
 have b:=h.lt
 have a:Kp B w (w1.setCell ⟨B,2,none⟩ (O (some ⟨g,0,none⟩) 16 c)):=(Kp.of_below hb).set _ _
 obtain ⟨l,m,pv,j,i,f,d⟩:=h.data a
 refine ⟨⟨l,_,pv,by rw [zU ((hb.block B b).trans j)];rfl,i,.inr ⟨g,c,_,rfl,rfl,hg.of_block (za (by omega)),fun k a=>?_⟩,d⟩,h.dl,h.ll⟩
 rcases f with ⟨_,_,h⟩ | ⟨g',_,_,e,_⟩
 ·rw [h k a];exact ⟨none,0,rfl,fun h=>absurd h (Nat.lt_irrefl _)⟩
 ·cases e
theorem RfV.alias {g:Nat} (h:RfV w G B (some g) s D al V L R pl) {k n:Nat} {w1:World} {F:Nat->Int} {g2 cap:Nat} (hn:n<=16) (hb:Below w.heap.size w w1) (hg2:w.heap.size<=g2) (hr:w1.rowIs g2 3 n (fun i=>J Z (F i))) (hG:∀ b,w.heap.size<=b->G b) :
 RfV (w1.setCell ⟨g,k,none⟩ (O (some ⟨g2,0,none⟩) n cap)) G B (some g) s D (fun i=>if i=k then (List.range n).map F else al i) V L R pl:=by
 have H:=h.lt
 have l:=h.alt rfl
 obtain ⟨C,I,pv,p,A,z,y⟩:=h.ex
 rcases z with ⟨e,_⟩ | ⟨g',c,vs,e,rfl,h5,h6⟩
 ·cases e
 cases e
 obtain ⟨q,o,m⟩:=h5
 have u:B≠g:=zO p o (by decide)
 have a:∀ (b:Nat) (cs:Array Value) (t:TypeId) (fr:Nat×Nat),w.heap[b]?=some (X cs t fr)->t≠25->(w1.setCell ⟨g,k,none⟩ (O (some ⟨g2,0,none⟩) n cap)).heap[b]?=w.heap[b]?:=fun b cs t fr hb' ht=>by
  rw [za (zO hb' o ht)]
  exact hb.block b (lt_of_block hb')
 have f:=hb.size
 refine ⟨⟨C,_,pv,(a B _ _ _ p (by decide)).trans p,A.of (fun _ h _=>h) (fun b cs fr _ hb'=>a b cs _ fr hb' (by decide)),.inr ⟨g,c,fun i=>if i=k then O (some ⟨g2,0,none⟩) n cap else vs i,rfl,rfl,(World.rowIs.of_block ⟨q,o,m⟩ (hb.block g l)).set k _,fun i hi=>?_⟩,y.of (by rw [World.size_setCell];exact f) (fun _ h _=>h) (fun b cs fr _ hb'=>a b cs _ fr hb' (by decide))⟩,h.dl,fun i hi=>?_⟩
 ·by_cases e:i=k
  ·simp only [if_pos e]
   have d:g2≠g:=by omega
   refine ⟨some ⟨g2,0,none⟩,cap,by simp,fun h0=>⟨g2,0,rfl,hG g2 hg2,?_,fun j x hx=>?_⟩⟩
   ·rw [za d]
    obtain ⟨E,v,_⟩:=hr
    exact ⟨E,_,v⟩
   ·have r:j<n:=by have:=(List.getElem?_eq_some_iff.1 hx).1;simpa using this
    rw [Nat.zero_add,World.cell?_of_block (za d),hr.cell r]
    simp [r] at hx
    rw [hx]
  ·simp only [if_neg e]
   exact (h6 i hi).of (fun _ h _=>h) (fun b cs fr _ hb'=>a b cs _ fr hb' (by decide))
 ·by_cases e:i=k
  ·simp only [if_pos e];simpa using hn
  ·simp only [if_neg e];exact h.ll i hi
theorem ze2 {base g:Nat} (h:w.ownsRow base 25 1 (O (some ⟨g,0,none⟩) 16 16) 16 (madeCells (O none 0 0).cells (16*1)).toList):w.rowIs g 25 16 (fun _=>O none 0 0):=by
 rcases h.2 with ⟨h',_⟩ | ⟨g',cap',cur,h',_,hg,_,_,hsz,htk⟩
 ·cases h'
 ·cases h'
  have a:(madeCells (O none 0 0).cells (16*1)).toList=List.replicate 16 (O none 0 0)  := toList_madeCells_one _ 16
  rw [a,List.take_of_length_le (by simp [hsz])] at htk
  refine ⟨cur,hg,hsz,fun i hi=>?_⟩
  rw [<- Array.getElem?_toList,htk,List.getElem?_replicate,if_pos hi]
theorem Qv {base g k n b off H:Nat} {o:Option Addr} {F:Nat->Int} {w6:World} {xs:List Value} (h:RfV w G B (some g) s D al V L R pl) (hk:k<16) (his:IS w o b off n F) (hH:w.heap.size=H) (ho:w6.ownsRow base 3 1 (O (some ⟨H,0,none⟩) n n) n xs) (hg:w.grownBy w6 none) (c:Nat) :
 ∃ w7 cA vv,(Builtin.copy_ #[25,25] 3 #[O (some ⟨H,0,none⟩) n n,O o n c]).run Tryz.prog w6=.ok (goInt n) w7/\w7.cell? ⟨B,2,none⟩=some (O (some ⟨g,0,none⟩) 16 cA)/\w7.cell? ⟨g,k,none⟩=some vv/\w7.frozen? ⟨g,k,none⟩=false/\Below w.heap.size w w7/\w7.rowIs H 3 n (fun i=>J Z (F i)):=by
 subst hH
 obtain ⟨I,x,A,r,z⟩:=info_parts Tryz.infoInt
 have f:(Tryz.prog.info? 3).map (·.size)=some 1:=by rw [x];simp [r]
 have m:Below w.heap.size w w6:=ZR hg
 obtain ⟨E,a⟩:=Yf ho rfl
 obtain ⟨w7,u,l,v,_⟩:=ZM (P:=Tryz.prog) w6 25 25 3 3 1 w.heap.size n n o n c 3 (n*1) E (fun i=>J Z (F i)) Tryz.underlying25 f a (Nat.le_refl _) (fun h0=>⟨_,his.at_ h0,fun j hj=>by
  rw [show (⟨b,off,none⟩:Addr).add j=⟨b,off+j,none⟩ from by unfold Addr.add;split<;>simp_all]
  exact (m.cell (p:=⟨b,off+j,none⟩) (his.lt h0)).trans (his.val j (by omega))⟩) (fun j hj=>rfl) (Nat.le_refl _)
 have d:Below w.heap.size w w7:=v _ _ m (Nat.le_refl _)
 obtain ⟨K,N,pv,y,_,C,_⟩:=h.ex
 rcases C with ⟨e,_⟩ | ⟨g',cA,vs,e,rfl,h5,_⟩
 ·cases e
 cases e
 have q:w7.rowIs g 25 16 vs:=h5.of_block (d.block g h5.lt)
 refine ⟨w7,cA,vs k,u,?_,q.cell hk,q.frozen k,d,?_⟩
 ·rw [d.cell (p:=⟨B,2,none⟩) (lt_of_block y),cell_of_row _ _ _ _ _ _ y];rfl
 ·rw [Nat.mul_one] at l
  exact l.congr (fun i x=>by rw [if_pos (by omega)])
end
structure Kq (B:Nat) (A:Option Nat) (w w':World):Prop where
 size:w.heap.size<=w'.heap.size
 block:∀ b,b≠B->A≠some b->b<w.heap.size->w'.heap[b]?=w.heap[b]?
 bel:∀ base,base<=B->base<=w.heap.size->(∀ g,A=some g->base<=g)->Below base w w'
def AlT (w:World) (G:Nat->Prop) (B:Nat) (A:Option Nat) (s:ByteArray) (D:List Int) (al:Nat->List Int) (V L R:Nat->Int) (pl k n:Nat) (F:Nat->Int) (e:Ending) (w':World):Prop :=
 e=.returned (J Z 0)/\Kq B A w w'/\∃ A',(A'=A\/∃ g,A'=some g/\w.heap.size<=g)/\RfV w' G B A' s D (fun i=>if i=k then (List.range n).map F else al i) V L R pl
theorem za9 (B:Nat) (k:Int) (o:Option Addr) (b off n c:Nat) (D:Nat->Int) (w:World) (h:IS w o b off n D) (hk:k<0\/15<k\/¬ (n<=16/\∀ i,i<n->0<=D i/\D i<64)) :
 Calls Tryz.prog 78 #[.pointer (some ⟨B,0,none⟩),J Z k,O o n c] w fun e w'=>e=.returned (J Z 9)/\w'=w:=by
 by_cases C:k<0
 ·go_enter Tryz.func78,Tryz.ntmps78
  go_wp2_with fail
  go_ret
  exact ⟨rfl,rfl⟩
 by_cases A:16<=k
 ·go_enter Tryz.func78,Tryz.ntmps78
  go_wp2_with fail
  go_ret
  exact ⟨rfl,rfl⟩
 by_cases z:16<n
 ·have f:(16:Int)<(n:Int):=by omega
  go_enter Tryz.func78,Tryz.ntmps78
  go_wp2_with fail
  go_ret
  exact ⟨rfl,rfl⟩
 have f:¬ (16:Int)<(n:Int):=by omega
 have v:Hid (¬ ∀ i,i<n->0<=D i/\D i<64):=fun hh=>by
  rcases hk with h | h | h
  ·omega
  ·omega
  ·exact h ⟨by omega,hh⟩
 have l:Hid _:=h
 clear h hk
 go_enter Tryz.func78,Tryz.ntmps78
 go_wp2_with fail
 go_loopg [7] n (fun q y wq=>∃ i,q+i=n/\y=J Z (i:Nat)/\(∀ j,j<i->0<=D j/\D j<64)/\wq=w)
 case atStart=>exact ⟨0,by omega,rfl,fun j hj=>by omega,rfl⟩
 case round =>
  obtain ⟨i,x,rfl,a,rfl⟩:=hrel
  have m:Hid _:=a
  clear a
  have p:(0:Int)<=(i:Int):=by omega
  by_cases s:i<n
  ·have r:(i:Int)<(n:Int):=by omega
   have u:=l.out.val i s
   obtain rfl:=l.out.at_ (by omega)
   by_cases F:D i<0
   ·generalize D i=d at *
    go_wp2_with fail
    go_ret
    exact ⟨rfl,rfl⟩
   ·by_cases E:64<=D i
    ·generalize D i=d at *
     go_wp2_with fail
     go_ret
     exact ⟨rfl,rfl⟩
    ·have g:Hid (∀ j,j<i+1->0<=D j/\D j<64):=fun j hj=>by
      by_cases e:j=i
      ·subst e;omega
      ·exact m.out j (by omega)
     generalize hd:D i=d at *
     clear hd
     go_wp2_with fail
     go_roundg (n-(i+1))
     case measure=>omega
     case rel=>exact ⟨i+1,by omega,by go_num,g.out,rfl⟩
  ·exact absurd (fun j hj=>m.out j (by omega)) v.out
theorem za8 {w:World} {G:Nat->Prop} {B:Nat} {A:Option Nat} {s:ByteArray} {D:List Int} {al:Nat->List Int} {V L R:Nat->Int} {pl:Nat} (h:RfV w G B A s D al V L R pl) {k:Nat} (hk:k<16) (o:Option Addr) (b off n c:Nat) (F:Nat->Int) (hi:IS w o b off n F) (hn:n<=16) (hF:∀ i,i<n->0<=F i/\F i<64) (hbB:0<n->b≠B) (hG:∀ b,w.heap.size<=b->G b) :
 Calls Tryz.prog 78 #[.pointer (some ⟨B,0,none⟩),J Z k,O o n c] w (AlT w G B A s D al V L R pl k n F):=by
 have HR:Hid _:=h
 have HG:Hid _:=hG
 have N:Hid _:=hi
 have HF:Hid _:=hF
 have b1:Hid (0<n->b≠B):=hbB
 have a0:=h.lt
 obtain ⟨dv,av,pv,r,_,Y,_⟩:=h.ex
 have b0:Hid _:=r
 have b2:Hid _:=Y
 have c2:w.cell? ⟨B,2,none⟩=some av:=by rw [cell_of_row _ _ _ _ _ _ r];rfl
 have z2:w.frozen? ⟨B,2,none⟩=false:=by simp [World.frozen?,r]
 clear h hG hi hF r Y hbB
 have k0:(0:Int)<=(k:Int):=by omega
 have k1:¬ (k:Int)<0:=by omega
 have k2:¬ 16<=(k:Int):=by omega
 have k3:(k:Int)<16:=by omega
 have n2:¬ (16:Int)<(n:Int):=by omega
 go_enter Tryz.func78,Tryz.ntmps78
 go_wp2_with fail
 go_loopg [7] n (fun q y wq=>∃ i,q+i=n/\y=J Z (i:Nat)/\wq=w)
 case atStart=>exact ⟨0,by omega,rfl,rfl⟩
 case round =>
  obtain ⟨i,hq,rfl,rfl⟩:=hrel
  have b5:(0:Int)<=(i:Int):=by omega
  by_cases hi:i<n
  ·have a6:(i:Int)<(n:Int):=by omega
   have b6:=N.out.val i hi
   obtain ⟨f0,f1⟩:=HF.out i hi
   have f2:¬ F i<0:=by omega
   have f3:¬ 64<=F i:=by omega
   obtain rfl:=N.out.at_ (by omega)
   generalize F i=d at *
   go_wp2_with fail
   go_roundg (n-(i+1))
   case measure=>omega
   case rel=>exact ⟨i+1,by omega,by go_num,rfl⟩
  ·have a6:¬ (i:Int)<(n:Int):=by omega
   obtain ⟨i0,E,X,W,U⟩:=info_parts Tryz.infoInt
   obtain ⟨i2,a5,a4,a3,a2⟩:=info_parts Tryz.infoIs
   rcases b2.out with ⟨hA,hav,_⟩ | ⟨g,cA,vs,hA,hav,hrowA,_⟩
   ·subst hA hav
    go_wp2_with (at_make;first | (refine wpList_make_full _ rfl _ _ 28 rfl 0 25 i2 (O none 0 0) 1 Tryz.underlying28 a5 a4 a3 .i64 .i64 _ _ 16 rfl rfl (by omega) (by omega) (by rw [a2];omega) (by unfold maxLen;omega) (Nat.zero_le _) ?_;intro z j m;have l:Below wr.heap.size wr z:=ZR m;have b9:z.cell? ⟨B,2,none⟩=some (O none 0 0):=(l.cell (p:=⟨B,2,none⟩) a0).trans c2;have b3:z.frozen? ⟨B,2,none⟩=false:=(l.frozen (p:=⟨B,2,none⟩) a0).trans z2;have Q:Hid (Below wr.heap.size wr z):=l;have a8:Hid (wr.heap.size<z.heap.size):=(ze2 j).lt;have a1:Hid (RfV (z.setCell ⟨B,2,none⟩ (O (some ⟨wr.heap.size,0,none⟩) 16 16)) G B (some wr.heap.size) s D al V L R pl):=HR.out.row l (ze2 j) (Nat.le_refl _);have a9:Hid (IS (z.setCell ⟨B,2,none⟩ (O (some ⟨wr.heap.size,0,none⟩) 16 16)) o b off n F):=⟨N.out.at_,(fun h0=>by rw [World.size_setCell];exact Nat.lt_of_lt_of_le (N.out.lt h0) l.size),(fun i hi=>by rw [World.cell?_of_block (za (b1.out (by omega)))];exact (l.cell (p:=⟨b,off+i,none⟩) (N.out.lt (by omega))).trans (N.out.val i hi))⟩;clear l j m) | (refine wpList_make_full _ rfl _ _ 25 rfl 0 3 i0 (J Z 0) 1 Tryz.underlying25 E X W .i64 .i64 _ _ n rfl rfl (by omega) (by omega) (by rw [U];omega) (by unfold maxLen;omega) (Nat.zero_le _) ?_;intro H f a;obtain ⟨x,cB,vv,a7,e1,e2,e3,v,u⟩:=Qv a1.out hk a9.out (World.size_setCell _ _ _) (by rw [World.size_setCell] at f;exact f) a c;rw [World.size_setCell];have P:Hid _:=v;have K:Hid _:=u;clear v u f a))
    go_ret
    have S:(z.setCell ⟨B,2,none⟩ (O (some ⟨wr.heap.size,0,none⟩) 16 16)).heap.size=z.heap.size:=World.size_setCell _ _ _
    have C:=P.out
    have I:=C.size
    rw [S] at I
    have b7:=Q.out.size
    have b4:=a8.out
    refine ⟨rfl,⟨by rw [World.size_setCell];omega,fun b h1 _ h3=>?_,fun base h1 h2 _=>?_⟩,some wr.heap.size,.inr ⟨_,rfl,Nat.le_refl _⟩,a1.out.alias hn C (by rw [S];exact Nat.le_refl _) K.out (fun b hb=>HG.out b (by rw [S] at hb;omega))⟩
    ·rw [za (by omega),C.block b (by rw [S];omega),za h1,Q.out.block b h3]
    ·have h9:Below base wr (z.setCell ⟨B,2,none⟩ (O (some ⟨wr.heap.size,0,none⟩) 16 16)):=(Q.out.mono h2).setCell h1 _
     exact (h9.trans (C.mono (by rw [S];omega))).setCell h2 _
   ·subst hA hav
    have HP:Hid (∀ (H:World) (xs:List Value),H.ownsRow 0 3 1 (O (some ⟨wr.heap.size,0,none⟩) n n) n xs->wr.grownBy H none->∃ x cA vv,(Builtin.copy_ #[25,25] 3 #[O (some ⟨wr.heap.size,0,none⟩) n n,O o n c]).run Tryz.prog H=.ok (goInt n) x/\x.cell? ⟨B,2,none⟩=some (O (some ⟨g,0,none⟩) 16 cA)/\x.cell? ⟨g,k,none⟩=some vv/\x.frozen? ⟨g,k,none⟩=false/\Below wr.heap.size wr x/\x.rowIs wr.heap.size 3 n (fun i=>J Z (F i))):=fun H xs h1 h2=>Qv HR.out hk N.out rfl h1 h2 c
    have c5:Hid (g<wr.heap.size/\g≠B):=⟨HR.out.alt rfl,by
     obtain ⟨b8,hc,_⟩:=hrowA
     exact zO hc b0.out (by decide)⟩
    clear hrowA
    go_wp2_with (at_make;refine wpList_make_full _ rfl _ _ 25 rfl 0 3 i0 (J Z 0) 1 Tryz.underlying25 E X W .i64 .i64 _ _ n rfl rfl (by omega) (by omega) (by rw [U];omega) (by unfold maxLen;omega) (Nat.zero_le _) ?_;intro H f a;obtain ⟨x,cB,vv,a7,e1,e2,e3,v,u⟩:=HP.out H _ f a;have P:Hid (Below wr.heap.size wr x):=v;have K:Hid (x.rowIs wr.heap.size 3 n (fun i=>J Z (F i))):=u;clear v u f a)
    go_ret
    have C:=P.out
    have I:=C.size
    refine ⟨rfl,⟨by rw [World.size_setCell];exact I,fun b h1 h2 h3=>?_,fun base h1 h2 h3=>?_⟩,some g,.inl rfl,HR.out.alias hn C (Nat.le_refl _) K.out HG.out⟩
    ·rw [za (fun e=>h2 (by rw [e])),C.block b h3]
    ·exact (C.mono h2).setCell (h3 g rfl) _
end
section
structure PrS where
 B:Nat
 R:Nat
 A:Option Nat
 s:ByteArray
 C:List Int
 dn:Nat->Bool
 D:List Int
 al:Nat->List Int
 V:Nat->Int
 L:Nat->Int
 Rg:Nat->Int
 pl:Nat
structure yR (w:World) (G:Nat->Prop) (p:PrS):Prop where
 sv:SV w G p.B p.C p.dn p.al p.V p.L p.Rg p.pl
 rf:RfV w G p.R p.A p.s p.D p.al p.V p.L p.Rg p.pl
 st:p.s=⟨#[]⟩/\p.C=[]\/p.s≠⟨#[]⟩/\cpE p.s=0/\p.C=cpX p.s
 dd:p.D.Perm (dnL p.dn 64)
 pp:yO p.V p.L p.Rg p.pl=true
structure ChS (B R:Nat) (A:Option Nat) (w w':World):Prop where
 size:w.heap.size<=w'.heap.size
 block:∀ b,b<w.heap.size->b≠B->b≠R->A≠some b->w'.heap[b]?=w.heap[b]?
 bel:∀ base,base<=B->base<=R->base<=w.heap.size->(∀ g,A=some g->base<=g)->Below base w w'
section
variable {w w1 w2:World} {B R:Nat} {A:Option Nat} {G G':Nat->Prop}
theorem ChS.below (h:Below w.heap.size w w1):ChS B R A w w1:=⟨h.size,fun b hb _ _ _=>h.block b hb,fun _ _ _ h3 _=>h.mono h3⟩
theorem ChS.trans (h:ChS B R A w w1) (h2:ChS B R A w1 w2):ChS B R A w w2 :=
 ⟨Nat.le_trans h.size h2.size,fun b hb e1 e2 e3=>(h2.block b (Nat.lt_of_lt_of_le hb h.size) e1 e2 e3).trans (h.block b hb e1 e2 e3),fun base e1 e2 e3 e4=>(h.bel base e1 e2 e3 e4).trans (h2.bel base e1 e2 (Nat.le_trans e3 h.size) e4)⟩
theorem ChS.kpB (hb:Below B w w1) (hk:Kp B w w1):ChS B R A w w1:=⟨hk.size,fun b hl e _ _=>hk.block b e hl,fun _ e _ _ _=>hb.mono e⟩
theorem ChS.kpR (hb:Below R w w1) (hk:Kp R w w1):ChS B R A w w1:=⟨hk.size,fun b hl _ e _=>hk.block b e hl,fun _ _ e _ _=>hb.mono e⟩
theorem ChS.kq (hk:Kq R A w w1):ChS B R A w w1:=⟨hk.size,fun b hl _ e e2=>hk.block b e e2 hl,fun base _ e2 e3 e4=>hk.bel base e2 e3 e4⟩
theorem RfV.blk {s:ByteArray} {D:List Int} {al:Nat->List Int} {V L Rg:Nat->Int} {pl:Nat} (h:RfV w G R A s D al V L Rg pl):∃ cs fr,w.heap[R]?=some (X cs 86 fr):=by
 obtain ⟨_,_,_,a,_⟩:=h.ex
 exact ⟨_,_,a⟩
theorem RfV.ablk {s:ByteArray} {D:List Int} {al:Nat->List Int} {V L Rg:Nat->Int} {pl:Nat} (h:RfV w G R A s D al V L Rg pl) {g:Nat} (hg:A=some g):∃ cs fr,w.heap[g]?=some (X cs 25 fr):=by
 obtain ⟨_,_,_,_,_,a,_⟩:=h.ex
 rcases a with ⟨h,_⟩ | ⟨g',_,_,h1,_,⟨c,hc,_⟩,_⟩
 ·rw [h] at hg;cases hg
 ·rw [h1] at hg;cases hg;exact ⟨c,_,hc⟩
theorem RfV.other {s:ByteArray} {D:List Int} {al:Nat->List Int} {V L Rg:Nat->Int} {pl:Nat} (h:RfV w G R A s D al V L Rg pl) {cs:Array Value} {fr:Nat×Nat} (hB:w.heap[B]?=some (X cs 61 fr)) (hk:Kp B w w1):RfV w1 G R A s D al V L Rg pl:=by
 obtain ⟨j,e,a⟩:=h.blk
 refine h.of hk.size (fun _ h _=>h) (hk.block R (zO a hB (by decide)) (lt_of_block a)) (fun g hg=>?_) (fun b c t f _ ht hb=>hk.block b (zO hb hB ?_) (lt_of_block hb))
 ·obtain ⟨k,i,d⟩:=h.ablk hg
  exact hk.block g (zO d hB (by decide)) (lt_of_block d)
 ·rcases ht with rfl | rfl<;>decide
theorem SV.other {C:List Int} {dn:Nat->Bool} {al:Nat->List Int} {V L Rg:Nat->Int} {pl:Nat} (h:SV w G B C dn al V L Rg pl) {cs:Array Value} {fr:Nat×Nat} (hR:w.heap[R]?=some (X cs 86 fr)) (hA:∀ g,A=some g->∃ (cs:Array Value) (fr:Nat×Nat),w.heap[g]?=some (X cs 25 fr)) (hs:w.heap.size<=w1.heap.size) (hk:∀ b,b≠R->A≠some b->b<w.heap.size->w1.heap[b]?=w.heap[b]?):SV w1 G B C dn al V L Rg pl:=by
 obtain ⟨l,j,a⟩:=h.blk
 have d:∀ (b:Nat) (c:Array Value) (t:TypeId) (f:Nat×Nat),w.heap[b]?=some (X c t f)->t≠25->A≠some b:=fun b c t f a ht e=>by
  obtain ⟨m,k,i⟩:=hA b e
  exact zO a i ht rfl
 refine h.of hs (fun _ h _=>h) (hk B (zO a hR (by decide)) (d B _ _ _ a (by decide)) (lt_of_block a)) (fun b c t f _ ht a=>hk b (zO a hR ?_) (d b _ _ _ a ?_) (lt_of_block a))
 ·rcases ht with rfl | rfl | rfl<;>decide
 ·rcases ht with rfl | rfl | rfl<;>decide
theorem yR.below {p:PrS} (h:yR w G p) (hb:Below w.heap.size w w1):yR w1 G p:=⟨h.sv.below hb,h.rf.below hb,h.st,h.dd,h.pp⟩
theorem yR.wk {p:PrS} (h:yR w G p) (hG:∀ b,G b->b<w.heap.size->G' b):yR w G' p:=⟨h.sv.wk hG,h.rf.wk hG,h.st,h.dd,h.pp⟩
theorem yR.grown {p:PrS} {r:Option Nat} {t:TypeId} (h:yR w (fun b=>r≠some b) p) (hg:w.grownBy w1 r) (ht:t=3\/t=96) (hr:∀ g,r=some g->∃ cs fr,w.heap[g]?=some (X cs t fr)):yR w1 (fun _=>True) p:=by
 have d:∀ (b:Nat) (c:Array Value) (u:TypeId) (f:Nat×Nat),w.heap[b]?=some (X c u f)->u≠t->w1.heap[b]?=w.heap[b]?:=fun b c u f a hu=>hg.block b (lt_of_block a) (fun e=>by
  obtain ⟨x,o,k⟩:=hr b e.symm
  exact zO a k hu rfl)
 obtain ⟨s,m,a⟩:=h.sv.blk
 obtain ⟨q,l,i⟩:=h.rf.blk
 refine ⟨h.sv.of hg.size (fun _ _ _=>trivial) (d _ _ _ _ a ?_) (fun b _ _ _ hG _ a=>hg.block b (lt_of_block a) (fun e=>hG e.symm)),h.rf.of hg.size (fun _ _ _=>trivial) (d _ _ _ _ i ?_) (fun g hgg=>?_) (fun b _ _ _ hG _ a=>hg.block b (lt_of_block a) (fun e=>hG e.symm)),h.st,h.dd,h.pp⟩
 ·rcases ht with rfl | rfl<;>decide
 ·rcases ht with rfl | rfl<;>decide
 ·obtain ⟨v,n,j⟩:=h.rf.ablk hgg
  exact d _ _ _ _ j (by rcases ht with rfl | rfl<;>decide)
theorem yR.ch {p:PrS} (h:yR w (fun _=>True) p) (hc:ChS B R A w w1) {cb cr:Array Value} {fb fr:Nat×Nat} (hB:w.heap[B]?=some (X cb 61 fb)) (hR:w.heap[R]?=some (X cr 86 fr)) (hA:∀ g,A=some g->∃ (cs:Array Value) (fr:Nat×Nat),w.heap[g]?=some (X cs 25 fr)) (e1:p.B≠B) (e2:p.R≠R) (e3:∀ g,p.A=some g->A≠some g):yR w1 (fun _=>True) p:=by
 have a:∀ (b:Nat) (c:Array Value) (u:TypeId) (f:Nat×Nat),w.heap[b]?=some (X c u f)->b≠B->b≠R->u≠25->w1.heap[b]?=w.heap[b]?:=fun b c u f hb h1 h2 h3=>hc.block b (lt_of_block hb) h1 h2 (fun e=>by
  obtain ⟨v,r,k⟩:=hA b e
  exact zO hb k h3 rfl)
 obtain ⟨o,m,i⟩:=h.sv.blk
 obtain ⟨n,l,d⟩:=h.rf.blk
 refine ⟨h.sv.of hc.size (fun _ h _=>h) (a _ _ _ _ i e1 (zO i hR (by decide)) (by decide)) (fun b _ t _ _ ht hb=>a b _ t _ hb (zO hb hB ?_) (zO hb hR ?_) ?_),h.rf.of hc.size (fun _ h _=>h) (a _ _ _ _ d (zO d hB (by decide)) e2 (by decide)) (fun g hg=>?_) (fun b _ t _ _ ht hb=>a b _ t _ hb (zO hb hB ?_) (zO hb hR ?_) ?_),h.st,h.dd,h.pp⟩
 ·rcases ht with rfl | rfl | rfl<;>decide
 ·rcases ht with rfl | rfl | rfl<;>decide
 ·rcases ht with rfl | rfl | rfl<;>decide
 ·obtain ⟨s,q,j⟩:=h.rf.ablk hg
  exact hc.block g (lt_of_block j) (zO j hB (by decide)) (zO j hR (by decide)) (e3 g hg)
 ·rcases ht with rfl | rfl<;>decide
 ·rcases ht with rfl | rfl<;>decide
 ·rcases ht with rfl | rfl<;>decide
end
def TlT (p:PrS) (w:World) (e:Ending) (w':World):Prop:=e=.returned (.bool true)/\ChS p.B p.R p.A w w'/\∃ p',yR w' (fun _=>True) p'/\p'.B=p.B/\p'.R=p.R/\(p'.A=p.A\/∃ g,p'.A=some g/\w.heap.size<=g)
end
def opC (kk oa ob oc od:Int) (os:ByteArray):Array Value:=#[J Z kk,J Z oa,J Z ob,J Z oc,J Z od,.string os]
def prC (B R:Nat):Array Value:=#[.pointer (some ⟨B,0,none⟩),.pointer (some ⟨R,0,none⟩)]
structure BxS (w w1:World) (B R:Nat) (op:Array Value):Prop where
 pb:w1.heap[w.heap.size]?=some (X (prC B R) 88 (0,0))
 ob:w1.heap[w.heap.size+1]?=some (X op 53 (0,0))
theorem xB (w:World) (B R:Nat) (op:Array Value):BxS w ((w.alloc (X (prC B R) 88)).alloc (X op 53)) B R op/\Below w.heap.size w ((w.alloc (X (prC B R) 88)).alloc (X op 53)) :=
 ⟨⟨by rw [Below.heap_alloc _ _ _ (by simp)];exact heap_alloc_new w _,zu _ (by simp)⟩,((Below.refl _ _).alloc (Nat.le_refl _) _).alloc (by simp) _⟩
theorem BxS.keep {w w1 w2:World} {B R:Nat} {op:Array Value} (h:BxS w w1 B R op) (hk:∀ b,w.heap.size<=b->b<w1.heap.size->w2.heap[b]?=w1.heap[b]?):BxS w w2 B R op :=
 ⟨(hk _ (Nat.le_refl _) (lt_of_block h.pb)).trans h.pb,(hk _ (by omega) (lt_of_block h.ob)).trans h.ob⟩
theorem zaD (SB:Nat) (p:PrS) (oa ob oc od:Int) (os:ByteArray) (w:World) (h:yR w (fun _=>True) p) :
 Calls Tryz.prog 37 #[.pointer (some ⟨SB,0,none⟩),.agg #[.pointer (some ⟨p.B,0,none⟩),.pointer (some ⟨p.R,0,none⟩)],.agg #[J Z 8,J Z oa,J Z ob,J Z oc,J Z od,.string os]] w (TlT p w):=by
 have H:Hid _:=h
 have Q:=h.sv.lt
 have P:=h.rf.lt
 obtain ⟨q,j⟩:=xB w p.B p.R (opC 8 oa ob oc od os)
 have E:Hid (BxS w ((w.alloc (X #[.pointer (some ⟨p.B,0,none⟩),.pointer (some ⟨p.R,0,none⟩)] 88)).alloc (X #[J Z 8,J Z oa,J Z ob,J Z oc,J Z od,.string os] 53)) p.B p.R (opC 8 oa ob oc od os)):=q
 have K:Hid (Below w.heap.size w ((w.alloc (X #[.pointer (some ⟨p.B,0,none⟩),.pointer (some ⟨p.R,0,none⟩)] 88)).alloc (X #[J Z 8,J Z oa,J Z ob,J Z oc,J Z od,.string os] 53))):=j
 have l:Hid (yR ((w.alloc (X #[.pointer (some ⟨p.B,0,none⟩),.pointer (some ⟨p.R,0,none⟩)] 88)).alloc (X #[J Z 8,J Z oa,J Z ob,J Z oc,J Z od,.string os] 53)) (fun _=>True) p):=h.below j
 clear h q j
 go_enter Tryz.func37,Tryz.ntmps37
 go_wp2_with fail
 generalize ((w.alloc (X #[.pointer (some ⟨p.B,0,none⟩),.pointer (some ⟨p.R,0,none⟩)] 88)).alloc (X #[J Z 8,J Z oa,J Z ob,J Z oc,J Z od,.string os] 53))=w0 at *
 refine (l.out.sv.loadC os (fun _ _=>trivial)).mono ?_
 rintro e m ⟨rfl,u,i,n⟩
 have x:Hid (BxS w m p.B p.R (opC 8 oa ob oc od os)):=E.out.keep (fun b h1 h2=>i.block b (by omega) h2)
 obtain ⟨Y,U,d⟩:=l.out.sv.blk
 have a:=l.out.rf.other d i
 have z:Hid (Calls Tryz.prog 75 #[.pointer (some ⟨p.R,0,none⟩),.string os] m (LdR m (fun _=>True) p.R p.A p.s os p.D p.al p.V p.L p.Rg p.pl)):=za7 a os
 have y:Hid _:=n
 have I:Hid (ChS p.B p.R p.A w m):=(ChS.below K.out).trans (ChS.kpB u i)
 have k:Hid _:=a
 clear u i n d a
 have a1:m.cell? ⟨w.heap.size,1,none⟩=some (.pointer (some ⟨p.R,0,none⟩)):=by rw [cell_of_row _ _ _ _ _ _ x.out.pb];rfl
 have b5:m.cell? ⟨w.heap.size+1,5,none⟩=some (.string os):=by rw [cell_of_row _ _ _ _ _ _ x.out.ob];rfl
 go_wp2_with fail
 refine z.out.mono ?_
 rintro e N ⟨rfl,r,f,o⟩
 have F:Hid (yR N (fun _=>True) { p with s:=if cpE os=0 then os else p.s,C:=if cpE os=0 then cpX os else p.C }):=by
  obtain ⟨W,S,O⟩:=k.out.blk
  refine ⟨y.out.other O (fun g hg=>k.out.ablk hg) f.size (fun b e1 _ hl=>f.block b e1 hl),o,?_,H.out.dd,H.out.pp⟩
  by_cases v:cpE os=0
  ·simp only [if_pos v]
   exact .inr ⟨fun e=>by rw [e] at v;exact zfY v,v,by first | rfl | trivial⟩
  ·simp only [if_neg v]
   exact H.out.st
 have G:Hid (ChS p.B p.R p.A w N):=I.out.trans (ChS.kpR r f)
 clear r f o z y k
 generalize cpE os=ce at *
 generalize ldA os=la at *
 go_wp2_with fail
 go_ret
 exact ⟨rfl,G.out,_,F.out,rfl,rfl,.inl rfl⟩
theorem zaC (SB:Nat) (p:PrS) (oa ob oc od:Int) (os:ByteArray) (w:World) (h:yR w (fun _=>True) p) :
 Calls Tryz.prog 37 #[.pointer (some ⟨SB,0,none⟩),.agg #[.pointer (some ⟨p.B,0,none⟩),.pointer (some ⟨p.R,0,none⟩)],.agg #[J Z 9,J Z oa,J Z ob,J Z oc,J Z od,.string os]] w (TlT p w):=by
 have H:Hid _:=h
 have a7:=h.sv.lt
 have a6:=h.rf.lt
 obtain ⟨F,v⟩:=xB w p.B p.R (opC 9 oa ob oc od os)
 have l:Hid (BxS w ((w.alloc (X #[.pointer (some ⟨p.B,0,none⟩),.pointer (some ⟨p.R,0,none⟩)] 88)).alloc (X #[J Z 9,J Z oa,J Z ob,J Z oc,J Z od,.string os] 53)) p.B p.R (opC 9 oa ob oc od os)):=F
 have P:Hid (Below w.heap.size w ((w.alloc (X #[.pointer (some ⟨p.B,0,none⟩),.pointer (some ⟨p.R,0,none⟩)] 88)).alloc (X #[J Z 9,J Z oa,J Z ob,J Z oc,J Z od,.string os] 53))):=v
 have m:Hid (yR ((w.alloc (X #[.pointer (some ⟨p.B,0,none⟩),.pointer (some ⟨p.R,0,none⟩)] 88)).alloc (X #[J Z 9,J Z oa,J Z ob,J Z oc,J Z od,.string os] 53)) (fun _=>True) p):=h.below v
 clear h F v
 have U:-2<oc.tmod 2/\oc.tmod 2<2:=⟨Int.lt_tmod_of_pos oc (by decide),Int.tmod_lt_of_pos oc (by decide)⟩
 obtain ⟨a5,a4⟩:=U
 go_enter Tryz.func37,Tryz.ntmps37
 go_wp2_with fail
 generalize ((w.alloc (X #[.pointer (some ⟨p.B,0,none⟩),.pointer (some ⟨p.R,0,none⟩)] 88)).alloc (X #[J Z 9,J Z oa,J Z ob,J Z oc,J Z od,.string os] 53))=w0 at *
 by_cases u:0<=ob/\ob<64
 ·obtain ⟨n,S⟩:=Int.eq_ofNat_of_zero_le u.1
  have q:n<64:=by omega
  have HN:Hid (ob=(n:Int)):=S
  have O:Hid (Calls Tryz.prog 16 #[.pointer (some ⟨p.B,0,none⟩),J Z ob,.bool (oc.tmod 2==0)] w0 fun e a=>e=.returned (J Z 0)/\Below p.B w0 a/\Kp p.B w0 a/\SV a (fun _=>True) p.B p.C (fun i=>if i=n then !(oc.tmod 2==0) else p.dn i) p.al p.V p.L p.Rg p.pl):=by
   show Calls _ _ _ _ _
   rw [S]
   exact m.out.sv.markC q _
  clear S u
  refine O.out.mono ?_
  rintro e o ⟨rfl,I,k,z⟩
  have x:Hid (BxS w o p.B p.R (opC 9 oa ob oc od os)):=l.out.keep (fun b h1 h2=>k.block b (by omega) h2)
  obtain ⟨cb,fb,f⟩:=m.out.sv.blk
  have d:=m.out.rf.other f k
  have r:(mkD p.D n (oc.tmod 2==0)).Perm (dnL (fun i=>if i=n then !(oc.tmod 2==0) else p.dn i) 64):=zcN H.out.dd q
  have W:Hid _:=r
  have N:Hid (Calls Tryz.prog 76 #[.pointer (some ⟨p.R,0,none⟩),J Z ob,.bool (oc.tmod 2==0)] o fun e a=>e=.returned (J Z 0)/\Below p.R o a/\Kp p.R o a/\RfV a (fun _=>True) p.R p.A p.s (mkD p.D n (oc.tmod 2==0)) p.al p.V p.L p.Rg p.pl):=by
   show Calls _ _ _ _ _
   rw [HN.out]
   exact zcn d n _ (by omega) (by omega) (by rw [r.length_eq];exact jg _ _) (fun _ _=>trivial)
  have K:Hid _:=z
  have a3:Hid (ChS p.B p.R p.A w o):=(ChS.below P.out).trans (ChS.kpB I k)
  have y:Hid _:=d
  clear I k z f d r
  have a1:o.cell? ⟨w.heap.size,1,none⟩=some (.pointer (some ⟨p.R,0,none⟩)):=by rw [cell_of_row _ _ _ _ _ _ x.out.pb];rfl
  have b2:o.cell? ⟨w.heap.size+1,2,none⟩=some (J Z ob):=by rw [cell_of_row _ _ _ _ _ _ x.out.ob];rfl
  have b3:o.cell? ⟨w.heap.size+1,3,none⟩=some (J Z oc):=by rw [cell_of_row _ _ _ _ _ _ x.out.ob];rfl
  go_wp2_with fail
  refine N.out.mono ?_
  rintro e w2 ⟨rfl,G,j,E⟩
  have Y:Hid (yR w2 (fun _=>True) { p with D:=mkD p.D n (oc.tmod 2==0),dn:=fun i=>if i=n then !(oc.tmod 2==0) else p.dn i }):=by
   obtain ⟨cr,fr,hr⟩:=y.out.blk
   exact ⟨K.out.other hr (fun g hg=>y.out.ablk hg) j.size (fun b e1 _ hl=>j.block b e1 hl),E,H.out.st,W.out,H.out.pp⟩
  have a2:Hid (ChS p.B p.R p.A w w2):=a3.out.trans (ChS.kpR G j)
  clear G j E N K y O
  go_wp2_with fail
  go_ret
  exact ⟨rfl,a2.out,_,Y.out,rfl,rfl,.inl rfl⟩
 ·refine (zep p.B ob _ w0 (by omega)).mono ?_
  rintro e a ⟨rfl,Q⟩
  subst a
  have a1:w0.cell? ⟨w.heap.size,1,none⟩=some (.pointer (some ⟨p.R,0,none⟩)):=by rw [cell_of_row _ _ _ _ _ _ l.out.pb];rfl
  have b2:w0.cell? ⟨w.heap.size+1,2,none⟩=some (J Z ob):=by rw [cell_of_row _ _ _ _ _ _ l.out.ob];rfl
  have b3:w0.cell? ⟨w.heap.size+1,3,none⟩=some (J Z oc):=by rw [cell_of_row _ _ _ _ _ _ l.out.ob];rfl
  have a0:Hid (ob<0\/63<ob):=by show _\/_;omega
  clear u
  go_wp2_with fail
  refine (zco p.R ob _ w0 a0.out).mono ?_
  rintro e a ⟨rfl,Q⟩
  subst a
  go_wp2_with fail
  go_ret
  exact ⟨rfl,ChS.below P.out,_,m.out,rfl,rfl,.inl rfl⟩
def QyT (base SB n:Nat) (wv cv sv iv bv:Value) (cs:List (ByteArray×ByteArray)) (bs:List Value) (w:World) (e:Ending) (w':World):Prop:=e=.returned (.bool true)/\Below base w w'/\∃ iv' is',ST w' base SB (n+1) wv cv sv iv' bv cs is' bs/\(∀ b,b<w.heap.size->b≠SB->iv.ownBlock≠some b->w'.heap[b]?=w.heap[b]?)/\(∀ g,iv'.ownBlock=some g->iv.ownBlock=some g\/w.heap.size<=g)/\w.heap.size<=w'.heap.size
theorem QyT.below {base SB n:Nat} {wv cv sv iv bv:Value} {cs:List (ByteArray×ByteArray)} {is bs:List Value} {w w':World} (h:ST w base SB n wv cv sv iv bv cs is bs) (hb:Below w.heap.size w w'):QyT base SB n wv cv sv iv bv cs bs w (.returned (.bool true)) w' :=
 ⟨rfl,hb.mono (Nat.le_trans h.hB (Nat.le_of_lt h.lt)),iv,is,(h.below hb).mono,fun b hl _ _=>hb.block b hl,fun _ hg=>.inl hg,hb.size⟩
theorem jI (base SB n:Nat) (wv cv sv iv bv:Value) (cs:List (ByteArray×ByteArray)) (is bs:List Value) (p:PrS) (kk oa ob oc od:Int) (os:ByteArray) (w:World) (hn:(n+1)*56<=140737488355328) (hst:ST w base SB n wv cv sv iv bv cs is bs) (h:yR w (fun _=>True) p) :
 Calls Tryz.prog 36 #[.pointer (some ⟨SB,0,none⟩),.agg #[.pointer (some ⟨p.B,0,none⟩),.pointer (some ⟨p.R,0,none⟩)],.agg #[J Z kk,J Z oa,J Z ob,J Z oc,J Z od,.string os]] w (QyT base SB n wv cv sv iv bv cs bs w):=by
 have H:Hid _:=h
 have E:Hid _:=hst
 obtain ⟨b7,b8⟩:=xB w p.B p.R (opC kk oa ob oc od os)
 have c6:Hid (BxS w ((w.alloc (X #[.pointer (some ⟨p.B,0,none⟩),.pointer (some ⟨p.R,0,none⟩)] 88)).alloc (X #[J Z kk,J Z oa,J Z ob,J Z oc,J Z od,.string os] 53)) p.B p.R (opC kk oa ob oc od os)):=b7
 have G:Hid (Below w.heap.size w ((w.alloc (X #[.pointer (some ⟨p.B,0,none⟩),.pointer (some ⟨p.R,0,none⟩)] 88)).alloc (X #[J Z kk,J Z oa,J Z ob,J Z oc,J Z od,.string os] 53))):=b8
 obtain ⟨Q,a5⟩:∃ Q,Hid (quF ob oc od p.dn ((List.range 16).map p.al) p.V p.L p.Rg p.pl p.C=Q):=⟨_,rfl⟩
 have HQ:Hid (∀ wz,Below w.heap.size w wz->Calls Tryz.prog 12 #[.pointer (some ⟨p.B,0,none⟩),J Z ob,J Z oc,J Z od] wz (Qn wz Q)):=fun wz hb=>by
  have:=(H.out.sv.below hb).queryC ob oc od
  rw [a5.out] at this
  exact this
 clear h hst b7 b8
 go_enter Tryz.func36,Tryz.ntmps36
 go_wp2_with fail
 refine (HQ.out _ G.out).mono ?_
 rintro e j ⟨Y,o,m,k,rfl,b0,W⟩
 have c8:Hid (Below w.heap.size w j):=G.out.trans (Y.mono G.out.size)
 have z:Hid (BxS w j p.B p.R (opC kk oa ob oc od os)):=c6.out.keep (fun b _ h2=>Y.block b h2)
 have I:Hid _:=b0
 have a7:Hid (Q.1=0->m=Q.2.1.length/\j.ownsRow w.heap.size 3 1 (O o m k) Q.2.1.length (Q.2.1.map (J Z))):=fun h=>⟨(W h).1,ZE (W h).2 G.out.size⟩
 clear Y b0 W c6 G
 have a1:j.cell? ⟨w.heap.size,1,none⟩=some (.pointer (some ⟨p.R,0,none⟩)):=by rw [cell_of_row _ _ _ _ _ _ z.out.pb];rfl
 have b2:j.cell? ⟨w.heap.size+1,2,none⟩=some (J Z ob):=by rw [cell_of_row _ _ _ _ _ _ z.out.ob];rfl
 have b3:j.cell? ⟨w.heap.size+1,3,none⟩=some (J Z oc):=by rw [cell_of_row _ _ _ _ _ _ z.out.ob];rfl
 have b4:j.cell? ⟨w.heap.size+1,4,none⟩=some (J Z od):=by rw [cell_of_row _ _ _ _ _ _ z.out.ob];rfl
 have d3:=lt_of_block z.out.ob
 have d2:w.heap.size<j.heap.size:=by omega
 have q:Hid (Below w.heap.size w (j.alloc (X #[O o m k,J Z Q.2.2.1,J Z Q.2.2.2] 42))):=c8.out.alloc c8.out.size _
 have N:Hid ((j.alloc (X #[O o m k,J Z Q.2.2.1,J Z Q.2.2.2] 42)).heap[j.heap.size]?=some (X #[O o m k,J Z Q.2.2.1,J Z Q.2.2.2] 42 (0,0))):=heap_alloc_new _ _
 have a6:Hid (Q.1=0->m=Q.2.1.length/\(j.alloc (X #[O o m k,J Z Q.2.2.1,J Z Q.2.2.2] 42)).ownsRow w.heap.size 3 1 (O o m k) Q.2.1.length (Q.2.1.map (J Z))):=fun h=>⟨(a7.out h).1,(a7.out h).2.alloc _⟩
 have r:j.heap.size<(j.alloc (X #[O o m k,J Z Q.2.2.1,J Z Q.2.2.2] 42)).heap.size:=by simp
 have a4:Hid (RfV (j.alloc (X #[O o m k,J Z Q.2.2.1,J Z Q.2.2.2] 42)) (fun _=>True) p.R p.A p.s p.D p.al p.V p.L p.Rg p.pl):=H.out.rf.below q.out
 clear a7 HQ
 have f:=a5.out
 clear a5
 obtain ⟨qe,qs,qt,qc⟩:=Q
 simp only at N a6 q r a4 I ⊢
 cases hk:Zt ob oc od with
 | false =>
  have U:((qe,qs,qt,qc):Int×(List Int×Int×Int))=(9,[],0,0):=by rw [<- f];unfold quF;rw [if_neg (by rw [hk];decide)]
  simp only [Prod.mk.injEq] at U
  obtain ⟨rfl,rfl,rfl,rfl⟩:=U
  clear f
  obtain ⟨rfl,rfl,rfl⟩:=I.out (by decide)
  have a3:Hid _:=za6 p.R ob oc od (j.alloc (X #[O none 0 0,J Z 0,J Z 0] 42)) hk
  clear hk
  go_wp2_with fail
  refine Calls.mono a3.out ?_
  rintro e u ⟨rfl,a⟩
  have l:Hid (Below w.heap.size w u):=q.out.trans (a.mono q.out.size)
  have d:=(a.block _ r).trans N.out
  obtain ⟨y0,y1,y2,_,_,_⟩:=ld3 d
  have b1:=lt_of_block d
  clear a d
  go_wp2_with fail
  refine (XW _).mono ?_
  rintro e w5 ⟨rfl,i⟩
  have a9:Hid (Below w.heap.size w w5):=by
   have h9:Below w.heap.size w (u.alloc (X #[O none 0 0,J Z 0,J Z 0] 42)):=l.out.alloc l.out.size _
   exact h9.trans (i.mono h9.size)
  clear i
  go_wp2_with fail
  go_ret
  exact QyT.below E.out a9.out
 | true =>
  by_cases hs:p.s=⟨#[]⟩
  ·have hC:p.C=[]:=by
    rcases H.out.st with ⟨_,h⟩ | ⟨h,_⟩
    ·exact h
    ·exact absurd hs h
   have U:((qe,qs,qt,qc):Int×(List Int×Int×Int))=(12,[],0,0):=by rw [<- f];unfold quF;rw [if_pos hk,hC];rfl
   simp only [Prod.mk.injEq] at U
   obtain ⟨rfl,rfl,rfl,rfl⟩:=U
   clear f
   obtain ⟨rfl,rfl,rfl⟩:=I.out (by decide)
   have a0:=a4.out
   rw [hs] at a0
   have a3:Hid _:=jH a0 ob oc od hk
   clear hk hs hC a0
   go_wp2_with fail
   refine Calls.mono a3.out ?_
   rintro e u ⟨rfl,a⟩
   have l:Hid (Below w.heap.size w u):=q.out.trans (a.mono q.out.size)
   have d:=(a.block _ r).trans N.out
   obtain ⟨y0,y1,y2,_,_,_⟩:=ld3 d
   have b1:=lt_of_block d
   clear a d
   go_wp2_with fail
   refine (XW _).mono ?_
   rintro e w5 ⟨rfl,i⟩
   have a9:Hid (Below w.heap.size w w5):=by
    have h9:Below w.heap.size w (u.alloc (X #[O none 0 0,J Z 0,J Z 0] 42)):=l.out.alloc l.out.size _
    exact h9.trans (i.mono h9.size)
   clear i
   go_wp2_with fail
   go_ret
   exact QyT.below E.out a9.out
  ·obtain ⟨hE,hC⟩:cpE p.s=0/\p.C=cpX p.s:=by
    rcases H.out.st with ⟨h,_⟩ | ⟨_,h⟩
    ·exact absurd h hs
    ·exact h
   obtain ⟨x,e1,e2,e3,e4,e5,e6,e7,e8,e9,a2,y⟩:=za5 a4.out ob oc od hk hs (qW hE).1 H.out.pp
   have c5:p.A=none->∀ k,k<16->p.al k=[]:=fun hA=>by
    obtain ⟨_,_,_,_,_,h3,_⟩:=H.out.rf.ex
    rcases h3 with ⟨_,_,h⟩ | ⟨g,_,_,h,_⟩
    ·exact h
    ·rw [hA] at h;cases h
   have U:((qe,qs,qt,qc):Int×(List Int×Int×Int))=(0,(x.mn p.s).sv,(x.mn p.s).ttl,(x.mn p.s).sc):=by
    rw [<- f,hC,<- e1,<- e2,<- e3,<- e7,<- e8,<- e9,<- a2]
    exact zeb e4 e5 e6 c5 H.out.dd (by rw [e7,e8,e9,a2];exact H.out.pp) hE (by rw [e1,e2,e3];exact hk)
   have a8:Hid _:=y
   clear f y e1 e2 e3 e4 e5 e6 e7 e8 e9 a2 c5 hE hC hs hk
   generalize x.mn p.s=mm at *
   simp only [Prod.mk.injEq] at U
   obtain ⟨rfl,rfl,rfl,rfl⟩:=U
   obtain ⟨hm,S⟩:=a6.out rfl
   subst hm
   have F:Hid ((j.alloc (X #[O o mm.sv.length k,J Z mm.ttl,J Z mm.sc] 42)).ownsRow w.heap.size 3 1 (O o mm.sv.length k) mm.sv.length (mm.sv.map (J Z))):=S
   clear S a6 I
   go_wp2_with fail
   refine Calls.mono a8.out ?_
   rintro e u ⟨a,o3,k3,g3,f3,rfl,v⟩
   have l:Hid (Below w.heap.size w u):=q.out.trans (a.mono q.out.size)
   have d:=(a.block _ r).trans N.out
   obtain ⟨y0,y1,y2,_,_,_⟩:=ld3 d
   have b1:=lt_of_block d
   have b9:Below u.heap.size u (u.alloc (X #[O o3 mm.sv.length k3,J Z mm.ttl,J Z mm.sc] 42)):=(Below.refl _ _).alloc (Nat.le_refl _) _
   have K:Hid (Below w.heap.size w (u.alloc (X #[O o3 mm.sv.length k3,J Z mm.ttl,J Z mm.sc] 42))):=l.out.alloc l.out.size _
   have c9:Hid (Calls Tryz.prog 73 #[.pointer (some ⟨SB,0,none⟩),.agg #[O o mm.sv.length k,J Z mm.ttl,J Z mm.sc],.agg #[O o3 mm.sv.length k3,J Z mm.ttl,J Z mm.sc]] (u.alloc (X #[O o3 mm.sv.length k3,J Z mm.ttl,J Z mm.sc] 42)) (AnK base SB n wv cv sv iv bv cs bs w (u.alloc (X #[O o3 mm.sv.length k3,J Z mm.ttl,J Z mm.sc] 42)))):=jo base SB n wv cv sv iv bv cs is bs o o3 k k3 g3 f3 mm.sv mm.ttl mm.sc w _ hn E.out K.out ((zh F.out (fun g hg=>a.block g (F.out.lt g hg).2)).alloc _) (v.below b9 v.lt)
   clear a d v b9 F
   go_wp2_with fail
   refine c9.out.mono ?_
   rintro e w5 ⟨rfl,i,d0,d1,P,b5,b6⟩
   have c7:Hid (QyT base SB n wv cv sv iv bv cs bs w (.returned (.bool true)) w5):=⟨rfl,(K.out.mono (Nat.le_trans E.out.hB (Nat.le_of_lt E.out.lt))).trans i,d0,d1,P,fun b h1 h2 h3=>(b5 b h1 h2 h3).trans (K.out.block b h1),b6,Nat.le_trans K.out.size i.size⟩
   clear i P b5 b6 c9
   go_wp2_with fail
   go_ret
   exact c7.out
end Go.Proofs.YtaebngpoagjafabGreat
