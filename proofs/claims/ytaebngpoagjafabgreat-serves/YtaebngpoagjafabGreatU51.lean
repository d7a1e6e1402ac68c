import Derived.Test.YtaebngpoagjafabGreatU47
import Derived.Test.YtaebngpoagjafabGreatU50
set_option maxRecDepth 100000
set_option maxHeartbeats 1600000
namespace Go.Proofs.YtaebngpoagjafabGreat
open Obj renaming cells → Q
open Value renaming int → J, slice → O
open IntKind renaming i64 → Z
open Go.RowKit
attribute [local go_sem ↓] Go.wp_at_zero Go.wp_at_succ
section
def J8 (w:World) (G:Nat->Prop) (A:Option Nat) (av:Value) (al:Nat->List Int):Prop :=
 (A=none/\av=O none 0 0/\∀ k,k<16->al k=[])\/∃ g c vs,A=some g/\av=O (some ⟨g,0,none⟩) 16 c/\w.rowIs g 25 16 vs/\∀ k,k<16->Zb w G (vs k) (al k)
structure RfV (w:World) (G:Nat->Prop) (B:Nat) (A:Option Nat) (s:ByteArray) (D:List Int) (al:Nat->List Int) (V L R:Nat->Int) (pl:Nat):Prop where
 ex:∃ dv av pv,w.heap[B]?=some (Q #[.string s,dv,av,pv] 86 (0,0))/\Zb w G dv D/\J8 w G A av al/\Qe w G pv V L R pl
 dl:D.length<=64
 ll:∀ k,k<16->(al k).length<=16
section
variable {w w':World} {G G':Nat->Prop} {B:Nat} {A:Option Nat} {s:ByteArray} {D:List Int} {al:Nat->List Int} {V L R:Nat->Int} {pl:Nat}
theorem RfV.lt (h:RfV w G B A s D al V L R pl):B<w.heap.size:=by
 obtain ⟨_,_,_,a,_⟩:=h.ex
 exact lt_of_block a
theorem J8.of {av:Value} (h:J8 w G A av al) (hG:∀ b,G b->b<w.heap.size->G' b) (hA:∀ g,A=some g->w'.heap[g]?=w.heap[g]?) (hk:∀ b cs fr,G b->w.heap[b]?=some (Q cs 3 fr)->w'.heap[b]?=w.heap[b]?):J8 w' G' A av al:=by
 rcases h with h | ⟨g,c,vs,h1,h2,h3,h4⟩
 ·exact .inl h
 ·exact .inr ⟨g,c,vs,h1,h2,h3.of_block (hA g h1),fun k hk'=>(h4 k hk').of hG hk⟩
theorem J8.lt {av:Value} (h:J8 w G A av al) {g:Nat} (hg:A=some g):g<w.heap.size:=by
 rcases h with ⟨h,_⟩ | ⟨g',c,vs,h1,_,h3,_⟩
 ·rw [h] at hg;cases hg
 ·rw [h1] at hg;cases hg;exact h3.lt
theorem RfV.of (h:RfV w G B A s D al V L R pl) (hs:w.heap.size<=w'.heap.size) (hG:∀ b,G b->b<w.heap.size->G' b) (hB:w'.heap[B]?=w.heap[B]?) (hA:∀ g,A=some g->w'.heap[g]?=w.heap[g]?) (hk:∀ b cs t fr,G b->t=3\/t=96->w.heap[b]?=some (Q cs t fr)->w'.heap[b]?=w.heap[b]?):RfV w' G' B A s D al V L R pl:=by
 obtain ⟨i,j,pv,f,e,d,a⟩:=h.ex
 exact ⟨⟨i,j,pv,hB.trans f,e.of hG (fun b cs fr hb=>hk b cs _ fr hb (.inl rfl)),d.of hG hA (fun b cs fr hb=>hk b cs _ fr hb (.inl rfl)),a.of hs hG (fun b cs fr hb=>hk b cs _ fr hb (.inr rfl))⟩,h.dl,h.ll⟩
theorem RfV.alt (h:RfV w G B A s D al V L R pl) {g:Nat} (hg:A=some g):g<w.heap.size:=by
 obtain ⟨_,_,_,_,_,a,_⟩:=h.ex
 exact a.lt hg
theorem RfV.below (h:RfV w G B A s D al V L R pl) (hb:Below w.heap.size w w'):RfV w' G B A s D al V L R pl :=
 h.of hb.size (fun _ h _=>h) (hb.block B h.lt) (fun g hg=>hb.block g (h.alt hg)) (fun b _ _ _ _ _ h=>hb.block b (lt_of_block h))
theorem RfV.wk (h:RfV w G B A s D al V L R pl) (hG:∀ b,G b->b<w.heap.size->G' b):RfV w G' B A s D al V L R pl:=h.of (Nat.le_refl _) hG rfl (fun _ _=>rfl) (fun _ _ _ _ _ _ _=>rfl)
theorem zO {b b':Nat} {cs cs':Array Value} {t t':TypeId} {fr fr':Nat×Nat} (h:w.heap[b]?=some (Q cs t fr)) (h':w.heap[b']?=some (Q cs' t' fr')) (ht:t≠t'):b≠b':=fun e=>by
 rw [e,h'] at h
 simp at h
 exact ht h.2.1.symm
theorem RfV.data (h:RfV w G B A s D al V L R pl) (hk:Kp B w w'):∃ dv av pv,w.heap[B]?=some (Q #[.string s,dv,av,pv] 86 (0,0))/\Zb w' G dv D/\J8 w' G A av al/\Qe w' G pv V L R pl:=by
 obtain ⟨dv,av,pv,a,f,d,e⟩:=h.ex
 refine ⟨dv,av,pv,a,f.of (fun _ h _=>h) (fun b _ _ _ hb=>hk.block b (zO hb a (by decide)) (lt_of_block hb)),d.of (fun _ h _=>h) (fun g hg=>hk.block g ?_ (d.lt hg)) (fun b _ _ _ hb=>hk.block b (zO hb a (by decide)) (lt_of_block hb)),e.of hk.size (fun _ h _=>h) (fun b _ _ _ hb=>hk.block b (zO hb a (by decide)) (lt_of_block hb))⟩
 rcases d with ⟨h,_⟩ | ⟨g',c,vs,e1,_,⟨cur,e3,_⟩,_⟩
 ·rw [h] at hg;cases hg
 ·rw [e1] at hg;cases hg;exact zO e3 a (by decide)
theorem RfV.load (h:RfV w G B A s D al V L R pl) (s':ByteArray):RfV (w.setCell ⟨B,0,none⟩ (.string s')) G B A s' D al V L R pl:=by
 have a:Kp B w (w.setCell ⟨B,0,none⟩ (.string s')):=Kp.set ⟨Nat.le_refl _,fun _ _ _=>rfl⟩ _ _
 obtain ⟨g,i,pv,f,e,d,b⟩:=h.data a
 exact ⟨⟨g,i,pv,by rw [zU f];rfl,e,d,b⟩,h.dl,h.ll⟩
theorem RfV.mark (h:RfV w G B A s D al V L R pl) {w1:World} {oo:Option Addr} {cap:Nat} {D':List Int} (hD:D'.length<=64) (hb:Below w.heap.size w w1) (ho:w1.ownsRow w.heap.size 3 1 (O oo D'.length cap) D'.length (D'.map (J Z))) (hG:∀ b,w.heap.size<=b->G b) :
 RfV (w1.setCell ⟨B,1,none⟩ (O oo D'.length cap)) G B A s D' al V L R pl:=by
 have e:=h.lt
 have d:Kp B w (w1.setCell ⟨B,1,none⟩ (O oo D'.length cap)):=(Kp.of_below hb).set _ _
 obtain ⟨k,j,pv,a,_,i,g⟩:=h.data d
 refine ⟨⟨_,j,pv,by rw [zU ((hb.block B e).trans a)];rfl,?_,i,g⟩,hD,h.ll⟩
 have f:Zb w1 (fun b=>G b/\b≠B) (O oo D'.length cap) D':=Zb.own ho (fun b hb=>⟨hG b hb,by omega⟩)
 exact f.of (fun _ h _=>h.1) fun b _ _ a _=>za a.2
theorem RfV.locate (h:RfV w G B A s D al V L R pl) {w1:World} {n:Nat} {V' L' R':Nat->Int} {oo:Option Addr} {cap:Nat} (hb:Below w.heap.size w w1) (ho:w1.ownsRow w.heap.size 96 3 (O oo n cap) n (plC V' L' R' n)) (hG:∀ b,w.heap.size<=b->G b) :
 RfV (w1.setCell ⟨B,3,none⟩ (O oo n cap)) G B A s D al V' L' R' n:=by
 have j:=h.lt
 have f:Kp B w (w1.setCell ⟨B,3,none⟩ (O oo n cap)):=(Kp.of_below hb).set _ _
 obtain ⟨o,p,pv,m,l,k,_⟩:=h.data f
 refine ⟨⟨o,p,_,by rw [zU ((hb.block B j).trans m)];rfl,l,k,?_⟩,h.dl,h.ll⟩
 obtain ⟨g,d,e⟩:=qu ho
 have a:0<n->(w1.setCell ⟨B,3,none⟩ (O oo n cap)).heap[g]?=w1.heap[g]?:=fun h0=>za (by have:=e h0;omega)
 refine ⟨oo,cap,g,0,rfl,⟨d.at_,fun h0=>by rw [World.size_setCell];exact d.lt h0,fun i hi=>?_,fun i hi=>?_,fun i hi=>?_⟩,fun h0=>⟨hG g (e h0),?_⟩⟩
 ·rw [World.cell?_of_block (a (by omega))];exact d.val i hi
 ·rw [World.cell?_of_block (a (by omega))];exact d.len i hi
 ·rw [World.cell?_of_block (a (by omega))];exact d.reg i hi
 ·rw [a h0]
  have:=d.at_ h0
  subst this
  exact Xi ho
end
end
theorem JC (B:Nat) (o:Option Addr) (b off n c:Nat) (V L R:Nat->Int) (w:World) (hn:n*24<=140737488351232) (h:TS w o b off n V L R) (hp:yO V L R n=false) :
 Calls Tryz.prog 81 #[.pointer (some ⟨B,0,none⟩),O o n c] w fun e w'=>e=.returned (J Z 9)/\Below w.heap.size w w':=by
 have d:Hid (Calls Tryz.prog 19 #[O o n c] w fun e w'=>e=.returned (.bool false)/\Below w.heap.size w w'):=by
  have g:=Qf o b off n c V L R w hn h
  unfold yO at hp
  rw [hp] at g
  exact g
 clear h hp
 go_enter Tryz.func81,Tryz.ntmps81
 go_wp2_with fail
 refine d.out.mono ?_
 rintro e i ⟨rfl,a⟩
 have f:Hid _:=a
 clear a
 go_wp2_with fail
 go_ret
 exact ⟨rfl,f.out⟩
theorem Ql {w:World} {base g t n sz:Nat} {f:Nat->Value} (h:w.rowIs g t (n*sz) f) (hg:base<=g) (hn:n<=maxLen):w.ownsRow base t sz (O (some ⟨g,0,none⟩) n n) n ((List.range (n*sz)).map f):=by
 obtain ⟨a,e,b,d⟩:=h
 refine ⟨by simp,.inr ⟨g,n,a,rfl,hg,e,Nat.le_refl _,hn,b,?_⟩⟩
 rw [List.take_of_length_le (by simp [b])]
 apply List.ext_getElem?
 intro i
 rw [Array.getElem?_toList,List.getElem?_map]
 rcases Nat.lt_or_ge i (n*sz) with h | h
 ·rw [d i h,List.getElem?_range h];rfl
 ·rw [Array.getElem?_eq_none (by omega),List.getElem?_eq_none (by simp;omega)];rfl
theorem JB {w:World} {G:Nat->Prop} {B:Nat} {A:Option Nat} {s:ByteArray} {D:List Int} {al:Nat->List Int} {V L R:Nat->Int} {pl:Nat} (h:RfV w G B A s D al V L R pl) (o:Option Addr) (b off n c:Nat) (V' L' R':Nat->Int) (hs:TS w o b off n V' L' R') (hp:yO V' L' R' n=true) (hG:∀ b,w.heap.size<=b->G b) :
 Calls Tryz.prog 81 #[.pointer (some ⟨B,0,none⟩),O o n c] w fun e w'=>e=.returned (J Z 0)/\Below B w w'/\Kp B w w'/\RfV w' G B A s D al V' L' R' n:=by
 have Y:=(Xh hp).1
 have U:Hid (Calls Tryz.prog 19 #[O o n c] w fun e w'=>e=.returned (.bool true)/\Below w.heap.size w w'):=by
  have H:=Qf o b off n c V' L' R' w (by omega) hs
  unfold yO at hp
  rw [hp] at H
  exact H
 have HR:Hid _:=h
 have HG:Hid _:=hG
 have HS:Hid _:=hs
 have E:=h.lt
 obtain ⟨dv,av,pv,q,_⟩:=h.ex
 have W:Hid _:=q
 clear h hG hs hp q
 obtain ⟨i0,hi,K,v,I⟩:=info_parts Tryz.infoPlace
 have x:(Tryz.prog.info? 96).map (·.size)=some 3:=by rw [hi];simp [v]
 go_enter Tryz.func81,Tryz.ntmps81
 go_wp2_with fail
 refine U.out.mono ?_
 rintro e g ⟨rfl,d⟩
 have a0:Hid (Below w.heap.size w g):=d
 have HP:Hid (∀ (l:World) (xs:List Value),l.ownsRow 0 96 3 (O (some ⟨g.heap.size,0,none⟩) n n) n xs->g.grownBy l none->∃ f X,(Builtin.copy_ #[29,29] 3 #[O (some ⟨g.heap.size,0,none⟩) n n,O o n c]).run Tryz.prog l=.ok (goInt n) f/\f.cell? ⟨B,3,none⟩=some X/\f.frozen? ⟨B,3,none⟩=false/\Below w.heap.size w f/\f.ownsRow w.heap.size 96 3 (O (some ⟨g.heap.size,0,none⟩) n n) n (plC V' L' R' n)):=fun l xs ho hg=>by
  have C:Below g.heap.size g l:=ZR hg
  obtain ⟨f0,r⟩:=Yf ho rfl
  have N:TS l o b off n V' L' R':=(HS.out.below d).below C
  obtain ⟨f,y,m,Q,_⟩:=ZM (P:=Tryz.prog) l 29 29 3 96 3 g.heap.size n n o n c 96 (n*3) f0 (fun j=>((plC V' L' R' n)[j]?).getD (J Z 0)) Tryz.underlying29 x r (Nat.le_refl _) (fun h0=>by
   obtain ⟨ad,e1,e2⟩:=N.src (w':=l) (fun _ _=>rfl) h0
   exact ⟨ad,e1,fun j hj=>by
    rw [YF _ _ _ hj]
    exact e2 j _ (YF _ _ _ hj)⟩) (fun j hj=>by rw [YF _ _ _ hj];rfl) (Nat.le_refl _)
  have p:Below g.heap.size g f:=Q _ _ C (Nat.le_refl _)
  have z:Below w.heap.size w f:=d.trans (p.mono d.size)
  have F:=(z.block B E).trans W.out
  refine ⟨f,pv,y,by rw [cell_of_row _ _ _ _ _ _ F];rfl,by simp [World.frozen?,F],z,?_⟩
  have H:=Ql (base:=w.heap.size) (n:=n) (sz:=3) m d.size (by unfold maxLen;omega)
  have h8:(List.range (n*3)).map (fun j=>if j<n*3 then ((plC V' L' R' n)[j]?).getD (J Z 0) else f0 j)=plC V' L' R' n:=by
   apply List.ext_getElem?
   intro i
   rw [List.getElem?_map]
   rcases Nat.lt_or_ge i (n*3) with h | h
   ·rw [List.getElem?_range h,YF _ _ _ h];simp [h,YF _ _ _ h]
   ·rw [List.getElem?_eq_none (by simp;omega),List.getElem?_eq_none (by rw [Q1];omega)];rfl
  rw [h8] at H
  exact H
 clear d
 go_wp2_with (at_make;refine wpList_make_full _ rfl _ _ 29 rfl 0 96 i0 _ 3 Tryz.underlying29 hi K v .i64 .i64 _ _ n rfl rfl (by omega) (by omega) (by rw [I];omega) (by unfold maxLen;omega) (Nat.zero_le _) ?_;intro l k a;obtain ⟨f,X,y,e1,e2,p,m⟩:=HP.out l _ k a;have u:Hid (Below w.heap.size w f):=p;have S:Hid (f.ownsRow w.heap.size 96 3 (O (some ⟨g.heap.size,0,none⟩) n n) n (plC V' L' R' n)):=m;clear p m k a)
 go_ret
 exact ⟨rfl,(u.out.mono (Nat.le_of_lt E)).setCell (Nat.le_refl _) _,(Kp.of_below u.out).set _ _,HR.out.locate u.out S.out HG.out⟩
def LdR (w:World) (G:Nat->Prop) (B:Nat) (A:Option Nat) (s t:ByteArray) (D:List Int) (al:Nat->List Int) (V L R:Nat->Int) (pl:Nat) (e:Ending) (w':World):Prop :=
 e=.returned (.tuple #[J Z (cpE t),J Z (ldA t)])/\Below B w w'/\Kp B w w'/\RfV w' G B A (if cpE t=0 then t else s) D al V L R pl
theorem za7 {w:World} {G:Nat->Prop} {B:Nat} {A:Option Nat} {s:ByteArray} {D:List Int} {al:Nat->List Int} {V L R:Nat->Int} {pl:Nat} (h:RfV w G B A s D al V L R pl) (t:ByteArray) :
 Calls Tryz.prog 75 #[.pointer (some ⟨B,0,none⟩),.string t] w (LdR w G B A s t D al V L R pl):=by
 have E:Hid _:=h
 have i:=h.lt
 obtain ⟨U,W,pv,m,_⟩:=h.ex
 have F:Hid _:=m
 have l:Hid (Calls Tryz.prog 52 #[.string t] w fun e w'=>Below w.heap.size w w'/\e=.returned (.tuple #[J Z (yQ t).1,J Z (yQ t).2])):=by
  have I:=XR t w
  rw [jh] at I
  exact I
 have o:Hid (∀ wz,Calls Tryz.prog 26 #[.string t] wz fun e w'=>Below wz.heap.size wz w'/\e=.returned (.tuple #[J Z (cSz t).1,J Z (cSz t).2])):=fun wz=>zbW t wz
 have f:Hid (cpE t=if (cSz t).2=0/\1000<(cSz t).1 then 8 else (cSz t).2):=zfH
 have j:Hid (ldA t=if (yQ t).1=0 then 0 else (yQ t).2):=rfl
 have g:Hid ((cSz t).2=(yQ t).1):=by show _=_;unfold cSz;split<;>simp_all
 clear h m
 obtain ⟨C,p⟩:∃ C,yQ t=C:=⟨_,rfl⟩
 obtain ⟨z,H⟩:∃ z,cSz t=z:=⟨_,rfl⟩
 rw [p] at l j g
 rw [H] at o f g
 clear p H
 obtain ⟨c1,c2⟩:=C
 obtain ⟨K,P⟩:=z
 simp only at l j g o f
 by_cases u:c1=0
 ·subst u
  have y:=g.out
  subst y
  have k:Hid (ldA t=0):=by show _=_;rw [j.out];rfl
  go_enter Tryz.func75,Tryz.ntmps75
  go_wp2_with fail
  refine l.out.mono ?_
  rintro e x ⟨d,rfl⟩
  have b:Hid (Below w.heap.size w x):=d
  clear d
  go_wp2_with fail
  refine (o.out _).mono ?_
  rintro e v ⟨q,rfl⟩
  have a:Hid (Below w.heap.size w v):=b.out.trans (q.mono b.out.size)
  clear q
  by_cases N:1000<K
  ·have r:Hid (cpE t=8):=by show _=_;rw [f.out,if_pos ⟨by first | rfl | trivial,N⟩]
   go_wp2_with fail
   go_ret2
   unfold LdR
   rw [r.out,k.out]
   exact ⟨rfl,a.out.mono (Nat.le_of_lt i),Kp.of_below a.out,E.out.below a.out⟩
  ·have r:Hid (cpE t=0):=by show _=_;rw [f.out,if_neg (by omega)]
   have n:=(a.out.block B i).trans F.out
   have S:v.cell? ⟨B,0,none⟩=some (.string s):=by rw [cell_of_row _ _ _ _ _ _ n];rfl
   have Q:v.frozen? ⟨B,0,none⟩=false:=by simp [World.frozen?,n]
   clear n
   go_wp2_with fail
   go_ret2
   unfold LdR
   rw [r.out,k.out,if_pos rfl]
   exact ⟨rfl,(a.out.mono (Nat.le_of_lt i)).setCell (Nat.le_refl _) _,(Kp.of_below a.out).set _ _,(E.out.below a.out).load t⟩
 ·have r:Hid (cpE t=c1):=by
   show _=_
   have:=g.out
   rw [f.out,if_neg (by omega),this]
  have k:Hid (ldA t=c2):=by show _=_;rw [j.out,if_neg u]
  have O:(c1 != 0)=true:=by simpa using u
  go_enter Tryz.func75,Tryz.ntmps75
  go_wp2_with fail
  refine l.out.mono ?_
  rintro e x ⟨d,rfl⟩
  have b:Hid (Below w.heap.size w x):=d
  clear d
  go_wp2_with fail
  go_ret2
  unfold LdR
  rw [r.out,k.out,if_neg u]
  exact ⟨rfl,b.out.mono (Nat.le_of_lt i),Kp.of_below b.out,E.out.below b.out⟩
def mkD (D:List Int) (n:Int) (up:Bool):List Int:=D.filter (fun d=>decide (d≠n))++(if up=true then [] else [n])
theorem zfy (D:List Int) (n:Int) (i:Nat):((D.take i).filter (fun d=>decide (d≠n))).length<=i:=Nat.le_trans (List.length_filter_le _ _) (by simp;omega)
theorem zcM {D:List Int} {i:Nat} {d:Int} (n:Int) (h:D[i]?=some d):(D.take (i+1)).filter (fun d=>decide (d≠n))=(D.take i).filter (fun d=>decide (d≠n))++(if d≠n then [d] else []):=by
 rw [List.take_add_one,h,List.filter_append]
 congr 1
 simp only [Option.toList_some,List.filter_cons,List.filter_nil,decide_eq_true_eq]
theorem zco (B:Nat) (n:Int) (up:Bool) (w:World) (h:n<0\/63<n):Calls Tryz.prog 76 #[.pointer (some ⟨B,0,none⟩),J Z n,.bool up] w fun e w'=>e=.returned (J Z 9)/\w'=w:=by
 by_cases b:n<0
 ·go_enter Tryz.func76,Tryz.ntmps76
  go_wp2_with fail
  go_ret
  exact ⟨rfl,rfl⟩
 ·have a:64<=n:=by omega
  go_enter Tryz.func76,Tryz.ntmps76
  go_wp2_with fail
  go_ret
  exact ⟨rfl,rfl⟩
theorem zcn {w:World} {G:Nat->Prop} {B:Nat} {A:Option Nat} {s:ByteArray} {D:List Int} {al:Nat->List Int} {V L R:Nat->Int} {pl:Nat} (h:RfV w G B A s D al V L R pl) (n:Int) (up:Bool) (n0:0<=n) (n1:n<64) (hd:(mkD D n up).length<=64) (hG:∀ b,w.heap.size<=b->G b) :
 Calls Tryz.prog 76 #[.pointer (some ⟨B,0,none⟩),J Z n,.bool up] w fun e w'=>e=.returned (J Z 0)/\Below B w w'/\Kp B w w'/\RfV w' G B A s (mkD D n up) al V L R pl:=by
 have HR:Hid _:=h
 have HG:Hid _:=hG
 have a9:Hid ((mkD D n up).length<=64):=hd
 have a1:=h.lt
 have b5:=h.dl
 obtain ⟨dv,av,pv,j,hD,_⟩:=h.ex
 obtain ⟨o,c,b,C,hv,Y⟩:=hD.is_
 subst hv
 have HI:Hid (IS w o b C D.length (fun i=>(D[i]?).getD 0)):=Y
 have b0:Hid _:=j
 clear h hG hd hD Y j
 have n2:¬ n<0:=by omega
 have n3:¬ 64<=n:=by omega
 have l:Hid (∀ (w1:World) (oo:Option Addr) (cap:Nat),Below w.heap.size w w1->w1.ownsRow w.heap.size 3 1 (O oo (mkD D n up).length cap) (mkD D n up).length ((mkD D n up).map (J Z))->Below B w (w1.setCell ⟨B,1,none⟩ (O oo (mkD D n up).length cap))/\Kp B w (w1.setCell ⟨B,1,none⟩ (O oo (mkD D n up).length cap))/\RfV (w1.setCell ⟨B,1,none⟩ (O oo (mkD D n up).length cap)) G B A s (mkD D n up) al V L R pl):=fun w1 oo cap h1 h2 =>
  ⟨(h1.mono (Nat.le_of_lt a1)).setCell (Nat.le_refl _) _,(Kp.of_below h1).set _ _,HR.out.mark a9.out h1 h2 HG.out⟩
 go_enter Tryz.func76,Tryz.ntmps76
 go_wp2_with fail
 go_loopg [7,8] D.length (fun q y7 y8 wq=>∃ i,q+i=D.length/\y8=J Z (i:Nat)/\Below w.heap.size w wq/\wq.ownsRow w.heap.size 3 1 y7 ((D.take i).filter (fun d=>decide (d≠n))).length (((D.take i).filter (fun d=>decide (d≠n))).map (J Z)))
 case atStart=>exact ⟨0,by omega,rfl,Below.refl _ _,⟨rfl,.inl ⟨rfl,rfl⟩⟩⟩
 case round =>
  obtain ⟨i,hq,rfl,v,ho⟩:=hrel
  obtain ⟨P,S,a4,_⟩:=z9 ho
  subst a4
  have K:Hid (Below w.heap.size w wr):=v
  have z:Hid (wr.ownsRow w.heap.size 3 1 (O P ((D.take i).filter (fun d=>decide (d≠n))).length S) ((D.take i).filter (fun d=>decide (d≠n))).length (((D.take i).filter (fun d=>decide (d≠n))).map (J Z))):=ho
  have j:wr.heap[B]?=some (Q #[.string s,O o D.length c,av,pv] 86 (0,0)):=(v.block B a1).trans b0.out
  have c1:wr.cell? ⟨B,1,none⟩=some (O o D.length c):=by rw [cell_of_row _ _ _ _ _ _ j];rfl
  have z1:wr.frozen? ⟨B,1,none⟩=false:=by simp [World.frozen?,j]
  have a3:Hid _:=j
  have b3:=v.size
  have a5:=zfy D n i
  obtain ⟨i1,a0,X,W,U⟩:=info_parts Tryz.infoInt
  clear v ho j
  have b4:(0:Int)<=(i:Int):=by omega
  by_cases hi:i<D.length
  ·have a6:(i:Int)<(D.length:Int):=by omega
   have H:D[i]?=some D[i]:=List.getElem?_eq_getElem hi
   have y:Hid _:=zcM n H
   have E:=HI.out.val i hi
   rw [H,Option.getD_some] at E
   have b6:wr.cell? ⟨b,C+i,none⟩=some (J Z D[i]):=(K.out.cell (p:=⟨b,C+i,none⟩) (HI.out.lt (by omega))).trans E
   obtain rfl:=HI.out.at_ (by omega)
   clear E H
   generalize D[i]=d at *
   generalize (D.take i).filter (fun d=>decide (d≠n))=LL at *
   by_cases F:d=n
   ·have HE:Hid ((D.take (i+1)).filter (fun d=>decide (d≠n))=LL):=by show _=_;rw [y.out,if_neg (by simpa using F)];simp
    have b2:(d != n)=false:=by simpa using F
    clear y
    go_wp2_with fail
    go_roundg (D.length-(i+1))
    case measure=>omega
    case rel=>exact ⟨i+1,by omega,by go_num,K.out,by rw [HE.out];exact z.out⟩
   ·have HE:Hid ((D.take (i+1)).filter (fun d=>decide (d≠n))=LL++[d]):=by show _=_;rw [y.out,if_pos F]
    clear y
    have m:∀ u∈[J Z d],u.oneCell'=true:=fun u hu=>by simp at hu;subst hu;rfl
    go_wp2_with (at_builtin;refine wpList_append_lies _ rfl _ _ 25 rfl w.heap.size 3 i1 _ 1 8 Tryz.underlying25 a0 X W U rfl (by decide) (O P LL.length S) _ _ rfl (z.out.alloc _) ⟨wr.heap.size,0,none⟩ 1 1 [J Z d] rfl rfl (World.news_of_block (cs:=#[J Z d]) (t:=3) (fr:=(0,0)) (heap_alloc_new wr _)) m (Nat.lt_succ_self 0) (by unfold maxLen;omega) (by omega) (by simp;omega) (wr.heap.size+1) (by simp) ?_;intro g4 k N g f x r)
    have a8:Hid _:=f
    have I:Hid (N.ownsRow w.heap.size 3 1 (O (some ⟨g4,0,none⟩) (LL.length+1) k) (LL.length+1) (LL.map (J Z)++[J Z d])):=g
    clear g f x r
    go_wp2_with fail
    go_roundg (D.length-(i+1))
    case measure=>omega
    case rel =>
     refine ⟨i+1,by omega,by go_num,(K.out.alloc K.out.size _).grown a8.out (by simp;omega) (fun b v=>(z.out.lt b v).1),?_⟩
     rw [HE.out,List.map_append,List.length_append]
     exact I.out
  ·have a6:¬ (i:Int)<(D.length:Int):=by omega
   have a2:Hid ((D.take i).filter (fun d=>decide (d≠n))=D.filter (fun d=>decide (d≠n))):=by show _=_;rw [List.take_of_length_le (by omega)]
   simp only [a2.out] at z a5 ⊢
   clear a2
   cases up with
   | true =>
    have HM:Hid (mkD D n true=D.filter (fun d=>decide (d≠n))):=by show _=_;unfold mkD;simp
    rw [HM.out] at l
    generalize D.filter (fun d=>decide (d≠n))=LL at *
    go_wp2_with fail
    go_ret
    rw [HM.out]
    exact ⟨rfl,l.out wr P S K.out z.out⟩
   | false =>
    have HM:Hid (mkD D n false=D.filter (fun d=>decide (d≠n))++[n]):=by show _=_;unfold mkD;simp
    rw [HM.out] at l
    generalize D.filter (fun d=>decide (d≠n))=LL at *
    have m:∀ u∈[J Z n],u.oneCell'=true:=fun u hu=>by simp at hu;subst hu;rfl
    have a7:Hid (∀ (w9:World) (ob:Obj),(wr.alloc ob).grownBy w9 (O P LL.length S).ownBlock->w9.cell? ⟨B,1,none⟩=some (O o D.length c)/\w9.frozen? ⟨B,1,none⟩=false):=fun w9 ob hg=>by
     have v:w9.heap[B]?=wr.heap[B]?:=by
      rw [hg.block _ (by simp;omega) (fun e=>zk z.out a3.out (by decide) e.symm),Below.heap_alloc _ _ _ (by omega)]
     exact ⟨(World.cell?_of_block (a:=⟨B,1,none⟩) v).trans c1,(World.frozen?_of_block (a:=⟨B,1,none⟩) v).trans z1⟩
    go_wp2_with (at_builtin;refine wpList_append_lies _ rfl _ _ 25 rfl w.heap.size 3 i1 _ 1 8 Tryz.underlying25 a0 X W U rfl (by decide) (O P LL.length S) _ _ rfl (z.out.alloc _) ⟨wr.heap.size,0,none⟩ 1 1 [J Z n] rfl rfl (World.news_of_block (cs:=#[J Z n]) (t:=3) (fr:=(0,0)) (heap_alloc_new wr _)) m (Nat.lt_succ_self 0) (by unfold maxLen;omega) (by omega) (by simp;omega) (wr.heap.size+1) (by simp) ?_;intro g4 k N g f x r;obtain ⟨y3,yz⟩:=a7.out N _ f)
    have b1:Hid (Below w.heap.size w N):=(K.out.alloc K.out.size _).grown f (by simp;omega) (fun b v=>(z.out.lt b v).1)
    have I:Hid (N.ownsRow w.heap.size 3 1 (O (some ⟨g4,0,none⟩) (LL++[n]).length k) (LL++[n]).length ((LL++[n]).map (J Z))):=by rw [List.map_append,List.length_append];exact g
    clear g f x r
    go_wp2_with fail
    go_ret
    have:=l.out N (some ⟨g4,0,none⟩) k b1.out I.out
    rw [List.length_append] at this
    rw [HM.out]
    exact ⟨rfl,this⟩
def za3 (A:Option Nat) (al:Nat->List Int):List (List Int):=if A=none then [] else (List.range 16).map al
theorem RfV.world {w:World} {G:Nat->Prop} {B:Nat} {A:Option Nat} {s:ByteArray} {D:List Int} {al:Nat->List Int} {V L R:Nat->Int} {pl:Nat} (h:RfV w G B A s D al V L R pl) (a b d:Int) :
 ∃ x:WD,x.In w/\x.a=a/\x.b=b/\x.d=d/\x.dl=D.length/\(x.Dn=fun i=>(D[i]?).getD 0)/\x.al=za3 A al/\x.V=V/\x.L=L/\x.R=R/\x.pl=pl/\w.heap[B]?=some (Q #[.string s,O x.do_ x.dl x.dc,O x.ao x.al.length x.ac,O x.po x.pl x.pcp] 86 (0,0)):=by
 obtain ⟨U,X,pv,v,H,F,⟨po,pcp,u,e,rfl,m,_⟩⟩:=h.ex
 obtain ⟨do_,dc,y,f,rfl,p⟩:=H.is_
 have C:=h.dl
 have r:=h.ll
 rcases F with ⟨rfl,rfl,q⟩ | ⟨g,c,vs,rfl,rfl,hrow,hls⟩
 ·exact ⟨⟨a,b,d,do_,y,f,D.length,dc,_,none,0,0,0,[],po,u,e,pl,pcp,V,L,R⟩,⟨m,p,⟨fun h=>absurd h (Nat.lt_irrefl _),fun h=>absurd h (Nat.lt_irrefl _),fun k l hl=>by simp at hl,fun l hl=>by cases hl⟩,by simp only;omega,by simp⟩,rfl,rfl,rfl,rfl,rfl,rfl,rfl,rfl,rfl,rfl,v⟩
 ·refine ⟨⟨a,b,d,do_,y,f,D.length,dc,_,some ⟨g,0,none⟩,g,0,c,(List.range 16).map al,po,u,e,pl,pcp,V,L,R⟩,⟨m,p,⟨fun _=>rfl,fun _=>hrow.lt,fun k l hl=>?_,fun l hl=>?_⟩,by simp only;omega,by simp⟩,rfl,rfl,rfl,rfl,rfl,rfl,rfl,rfl,rfl,rfl,by simpa using v⟩
  ·have n:k<16:=by have:=(List.getElem?_eq_some_iff.1 hl).1;simpa using this
   have q:al k=l:=by simpa [n] using hl
   subst q
   obtain ⟨o,N,z,E⟩:=hls k n
   refine ⟨o,N,by simp only [Nat.zero_add];rw [hrow.cell n,z],fun h0=>?_⟩
   obtain ⟨P,j,K,_,⟨W,S,J⟩,I⟩:=E h0
   exact ⟨P,j,K,lt_of_block J,I⟩
  ·simp only [List.mem_map,List.mem_range] at hl
   obtain ⟨k,n,rfl⟩:=hl
   have:=r k n
   omega
theorem JA {Post:Ending->World->Prop} {H:Nat} (we:World) (tm:Array Value) (x:Value) (t c n:Int) (h1:we.heap[H]?=some (Q #[x,J Z t,J Z c] 42 (0,0))) (h2:tm.getD 8 undef=.pointer (some ⟨H,0,none⟩)) (h3:tm.getD 9 undef=J Z n) (h4:Post (.returned (.tuple #[.agg #[x,J Z t,J Z c],J Z n])) we):bodyPost Tryz.prog Tryz.f74 Post .ret ⟨tm,[]⟩ we:=by
 refine bodyPost_ret (v:=.tuple #[.agg #[x,J Z t,J Z c],J Z n]) ?_ rfl h4
 rw [results_cell_tmp Tryz.results74,h2,h3]
 have b:(asAddr (.pointer (some ⟨H,0,none⟩))).run Tryz.prog we=.ok ⟨H,0,none⟩ we:=rfl
 have a:=run_loadVar_row (P:=Tryz.prog) we H 42 42 #[x,J Z t,J Z c] (0,0) _ h1 Tryz.underlying42 rfl (by kernel_rfl)
 rw [b,Result.andThen_ok,a,Result.andThen_ok]
theorem za6 (B:Nat) (a b d:Int) (w:World) (h:Zt a b d=false) :
 Calls Tryz.prog 74 #[.pointer (some ⟨B,0,none⟩),J Z a,J Z b,J Z d] w fun e w'=>e=.returned (.tuple #[.agg #[O none 0 0,J Z 0,J Z 0],J Z 9])/\Below w.heap.size w w':=by
 have g:Hid (∀ wz,Calls Tryz.prog 21 #[J Z a,J Z b,J Z d] wz fun e w'=>e=.returned (.bool false)/\w'=wz):=fun wz=>by
  have i:=XT a b d wz
  rw [h] at i
  exact i
 clear h
 have f:Hid ((w.alloc (Q #[O none 0 0,J Z 0,J Z 0] 42)).heap[w.heap.size]?=some (Q #[O none 0 0,J Z 0,J Z 0] 42 (0,0))):=heap_alloc_new w _
 go_enter Tryz.func74,Tryz.ntmps74
 go_wp2_with fail
 refine (g.out _).mono ?_
 rintro e w' ⟨rfl,j⟩
 subst w'
 go_wp2_with fail
 exact JA _ _ _ _ _ _ f.out rfl rfl ⟨rfl,(Below.refl _ _).alloc (Nat.le_refl _) _⟩
theorem jH {w:World} {G:Nat->Prop} {B:Nat} {A:Option Nat} {D:List Int} {al:Nat->List Int} {V L R:Nat->Int} {pl:Nat} (hv:RfV w G B A ⟨#[]⟩ D al V L R pl) (a b d:Int) (h:Zt a b d=true) :
 Calls Tryz.prog 74 #[.pointer (some ⟨B,0,none⟩),J Z a,J Z b,J Z d] w fun e w'=>e=.returned (.tuple #[.agg #[O none 0 0,J Z 0,J Z 0],J Z 12])/\Below w.heap.size w w':=by
 have i:Hid (∀ wz,Calls Tryz.prog 21 #[J Z a,J Z b,J Z d] wz fun e w'=>e=.returned (.bool true)/\w'=wz):=fun wz=>by
  have j:=XT a b d wz
  rw [h] at j
  exact j
 obtain ⟨_,_,_,f,_⟩:=hv.ex
 have l:=hv.lt
 have c0:w.cell? ⟨B,0,none⟩=some (.string ⟨#[]⟩):=by rw [cell_of_row _ _ _ _ _ _ f];rfl
 clear h f
 have g:Hid ((w.alloc (Q #[O none 0 0,J Z 0,J Z 0] 42)).heap[w.heap.size]?=some (Q #[O none 0 0,J Z 0,J Z 0] 42 (0,0))):=heap_alloc_new w _
 go_enter Tryz.func74,Tryz.ntmps74
 go_wp2_with fail
 refine (i.out _).mono ?_
 rintro e w' ⟨rfl,k⟩
 subst w'
 go_wp2_with fail
 exact JA _ _ _ _ _ _ g.out rfl rfl ⟨rfl,(Below.refl _ _).alloc (Nat.le_refl _) _⟩
theorem za5 {w:World} {G:Nat->Prop} {B:Nat} {A:Option Nat} {s:ByteArray} {D:List Int} {al:Nat->List Int} {V L R:Nat->Int} {pl:Nat} (hv:RfV w G B A s D al V L R pl) (a b d:Int) (h:Zt a b d=true) (hs:s≠⟨#[]⟩) (hc:(yQ s).1=0) (hp:yO V L R pl=true) :
 ∃ x:WD,x.a=a/\x.b=b/\x.d=d/\x.dl=D.length/\(x.Dn=fun i=>(D[i]?).getD 0)/\x.al=za3 A al/\x.V=V/\x.L=L/\x.R=R/\x.pl=pl/\Calls Tryz.prog 74 #[.pointer (some ⟨B,0,none⟩),J Z a,J Z b,J Z d] w fun e w'=>Below w.heap.size w w'/\∃ o k g f,e=.returned (.tuple #[.agg #[O o (x.mn s).sv.length k,J Z (x.mn s).ttl,J Z (x.mn s).sc],J Z 0])/\IS w' o g f (x.mn s).sv.length (fun i=>((x.mn s).sv[i]?).getD 0):=by
 have N:Hid (∀ wz,Calls Tryz.prog 21 #[J Z a,J Z b,J Z d] wz fun e w'=>e=.returned (.bool true)/\w'=wz):=fun wz=>by
  have E:=XT a b d wz
  rw [h] at E
  exact E
 obtain ⟨x,H,W,U,S,e4,e5,e6,e7,e8,e9,y,l⟩:=hv.world a b d
 refine ⟨x,W,U,S,e4,e5,e6,e7,e8,e9,y,?_⟩
 have hr:x.right=true:=by unfold WD.right ZU;rw [W,U,S,e7,e8,e9,y,h,hp];rfl
 have K:Hid (∀ wz,Below w.heap.size w wz->Calls Tryz.prog 72 #[.string s,.agg #[J Z a,J Z b,J Z d,O x.do_ x.dl x.dc,O x.ao x.al.length x.ac,O x.po x.pl x.pcp]] wz (ZW w.heap.size wz (x.mn s))):=fun wz hb=>by
  have E:=Ji s x w wz hc H hb hr
  unfold WD.val at E
  rw [W,U,S] at E
  exact E
 have Y:=hv.lt
 have c0:w.cell? ⟨B,0,none⟩=some (.string s):=by rw [cell_of_row _ _ _ _ _ _ l];rfl
 have c1:w.cell? ⟨B,1,none⟩=some (O x.do_ x.dl x.dc):=by rw [cell_of_row _ _ _ _ _ _ l];rfl
 have c2:w.cell? ⟨B,2,none⟩=some (O x.ao x.al.length x.ac):=by rw [cell_of_row _ _ _ _ _ _ l];rfl
 have c3:w.cell? ⟨B,3,none⟩=some (O x.po x.pl x.pcp):=by rw [cell_of_row _ _ _ _ _ _ l];rfl
 have a5:(s.toList==[])=false:=by rw [<- jf];exact zbc hs
 clear h l W U S e4 e5 e6 e7 e8 e9 y H hr hv hc hp
 generalize x.mn s=mm at *
 have a0:Hid ((w.alloc (Q #[O none 0 0,J Z 0,J Z 0] 42)).heap[w.heap.size]?=some (Q #[O none 0 0,J Z 0,J Z 0] 42 (0,0))):=heap_alloc_new w _
 have C:Hid (Below w.heap.size w (w.alloc (Q #[O none 0 0,J Z 0,J Z 0] 42))):=(Below.refl _ _).alloc (Nat.le_refl _) _
 go_enter Tryz.func74,Tryz.ntmps74
 go_wp2_with fail
 refine (N.out _).mono ?_
 rintro e w' ⟨rfl,a4⟩
 subst w'
 go_wp2_with fail
 have F:w.heap.size<(w.alloc (Q #[O none 0 0,J Z 0,J Z 0] 42)).heap.size:=by simp
 have k0:=zB c0 (Q #[O none 0 0,J Z 0,J Z 0] 42)
 have k1:=zB c1 (Q #[O none 0 0,J Z 0,J Z 0] 42)
 have k2:=zB c2 (Q #[O none 0 0,J Z 0,J Z 0] 42)
 have k3:=zB c3 (Q #[O none 0 0,J Z 0,J Z 0] 42)
 clear c0 c1 c2 c3
 generalize w.alloc (Q #[O none 0 0,J Z 0,J Z 0] 42)=w1 at *
 have z:Hid (∀ wz,Below w1.heap.size w1 wz->Calls Tryz.prog 72 #[.string s,.agg #[J Z a,J Z b,J Z d,O x.do_ x.dl x.dc,O x.ao x.al.length x.ac,O x.po x.pl x.pcp]] wz fun e u=>Below w.heap.size w u/\Below w1.heap.size w1 u/\ZW w.heap.size wz mm e u/\w1.heap.size<=wz.heap.size):=fun wz hz=>by
  have hB:Below w.heap.size w wz:=C.out.trans (hz.mono C.out.size)
  refine (K.out wz hB).mono ?_
  intro e u h8
  exact ⟨hB.trans (h8.1.mono hB.size),hz.trans (h8.1.mono hz.size),h8,hz.size⟩
 have m:B<w1.heap.size:=Nat.lt_of_lt_of_le Y C.out.size
 have j:w.heap.size≠B:=by omega
 clear K N
 go_region_held3 (fun w'=>w'.cell? ⟨B,0,none⟩=some (.string s)/\w'.cell? ⟨B,1,none⟩=some (O x.do_ x.dl x.dc)/\w'.cell? ⟨B,2,none⟩=some (O x.ao x.al.length x.ac)/\w'.cell? ⟨B,3,none⟩=some (O x.po x.pl x.pcp)) (first | (exact ⟨k0,k1,k2,k3⟩) | (exact p) | (exact ⟨zt j (zt j (zt j p.1 _ _) _ _) _ _,zt j (zt j (zt j p.2.1 _ _) _ _) _ _,zt j (zt j (zt j p.2.2.1 _ _) _ _) _ _,zt j (zt j (zt j p.2.2.2 _ _) _ _) _ _⟩) | go_keep) (first | (go_at_call 72;refine (z.out _ (by first | exact (Below.refl _ _).drew | exact Below.refl _ _)).mono ?_;rintro e u ⟨I,n,⟨_,o8,k8,g8,f8,rfl,r,X⟩,a3⟩;have a1:Hid (0<mm.sv.length->g8≠w.heap.size):=(fun h0=>by have:=X h0;omega);have a2:Hid _:=I;have q:Hid (IS u o8 g8 f8 mm.sv.length (fun i=>(mm.sv[i]?).getD 0)):=r;have p:_/\_/\_/\_:=⟨(World.cell?_of_block (n.block _ m)).trans k0,(World.cell?_of_block (n.block _ m)).trans k1,(World.cell?_of_block (n.block _ m)).trans k2,(World.cell?_of_block (n.block _ m)).trans k3⟩;have P:Hid _:=(n.block _ F).trans a0.out;obtain ⟨y0,y1,y2,z0,z1,z2⟩:=ld3 P.out;clear I n r))
 all_goals
  go_wp2_with fail
  refine JA _ _ _ _ _ _ (yE P.out) rfl rfl ⟨((a2.out.setCell (Nat.le_refl _) _).setCell (Nat.le_refl _) _).setCell (Nat.le_refl _) _,o8,k8,g8,f8,rfl,?_⟩
  refine ⟨q.out.at_,fun h=>by have:=q.out.lt h;simpa using this,fun i hi=>?_⟩
  have v:=a1.out (by omega)
  rw [World.cell?_of_block (w:=u) (by rw [za v,za v,za v])]
  exact q.out.val i hi
theorem QE (dn:Nat->Bool) (a:Int):∀ N:Nat,(dnL dn N).count a=if 0<=a/\a<N/\dn a.toNat=true then 1 else 0:=by
 intro N
 induction N with
 | zero=>rw [if_neg (by omega)];rfl
 | succ N ih =>
  rw [dnL,List.count_append,ih]
  by_cases d:a=N
  ·subst d
   rw [if_neg (by omega)]
   by_cases b:dn N=true
   ·rw [if_pos b,if_pos ⟨by omega,by omega,by simpa using b⟩];simp
   ·rw [if_neg b,if_neg (fun h=>b (by simpa using h.2.2))];rfl
  ·have e:(if dn N=true then [(N:Int)] else []).count a=0:=by
    split
    ·exact List.count_eq_zero.2 (by simpa using d)
    ·rfl
   rw [e,Nat.add_zero]
   by_cases h:0<=a/\a<N/\dn a.toNat=true
   ·rw [if_pos h,if_pos ⟨h.1,by omega,h.2.2⟩]
   ·rw [if_neg h,if_neg (fun g=>h ⟨g.1,by omega,g.2.2⟩)]
theorem zcN {D:List Int} {dn:Nat->Bool} {n:Nat} {up:Bool} (h:D.Perm (dnL dn 64)) (hn:n<64):(mkD D n up).Perm (dnL (fun i=>if i=n then !up else dn i) 64):=by
 rw [List.perm_iff_count] at h ⊢
 intro a
 rw [QE]
 unfold mkD
 rw [List.count_append]
 by_cases e:a=n
 ·subst e
  have f:(D.filter (fun d=>decide (d≠(n:Int)))).count (n:Int)=0:=List.count_eq_zero.2 (by simp)
  rw [f]
  cases up with
  | true=>rw [if_pos rfl,if_neg (by simp)];rfl
  | false=>rw [if_neg (by simp),if_pos ⟨by omega,by omega,by simp⟩];simp
 ·have f:(if up=true then [] else [(n:Int)]).count a=0:=by
   split
   ·rfl
   ·exact List.count_eq_zero.2 (by simpa using e)
  rw [f,Nat.add_zero,List.count_filter (by simpa using e),h a,QE]
  by_cases b:0<=a/\a<((64:Nat):Int)/\dn a.toNat=true
  ·rw [if_pos b,if_pos ⟨b.1,b.2.1,by rw [if_neg (by omega)];exact b.2.2⟩]
  ·rw [if_neg b,if_neg (fun g=>b ⟨g.1,g.2.1,by have:=g.2.2;rw [if_neg (by omega)] at this;exact this⟩)]
theorem zb2 {D:Nat->Int} {s:Int}:∀ {n:Nat},Zr D s n=true↔∀ i,i<n->D i≠s:=by
 intro n
 induction n with
 | zero=>simp [Zr]
 | succ n ih =>
  simp only [Zr,Bool.and_eq_true,ih,Bool.not_eq_true',beq_eq_false_iff_ne]
  constructor
  ·intro h i a
   by_cases e:i=n
   ·subst e;exact h.2
   ·exact h.1 i (by omega)
  ·exact fun h=>⟨fun i a=>h i (by omega),h n (by omega)⟩
theorem j6 (D:List Int) (i:Nat):dnTo (fun j=>(D[j]?).getD 0) D.length i=decide ((i:Int)∈D):=by
 unfold dnTo
 have b:Zr (fun j=>(D[j]?).getD 0) (i:Int) D.length=true↔(i:Int) ∉ D:=by
  rw [zb2]
  constructor
  ·intro h a
   obtain ⟨j,d⟩:=List.getElem?_of_mem a
   have f:=(List.getElem?_eq_some_iff.1 d).1
   exact h j f (by rw [d];rfl)
  ·intro h j d e
   rw [List.getElem?_eq_getElem d,Option.getD_some] at e
   exact h (by rw [<- e];exact List.getElem_mem d)
 by_cases a:(i:Int)∈D
 ·rw [decide_eq_true a]
  cases hq:Zr (fun j=>(D[j]?).getD 0) (i:Int) D.length with
  | false=>rfl
  | true=>exact absurd a (b.1 hq)
 ·rw [decide_eq_false a,b.2 a];rfl
theorem zcK (W:RW) {a b:List (List Int)} (h:∀ k:Nat,(a[k]?).getD []=(b[k]?).getD []) (K:List MN) (e:EX):mnE { W with al:=a } K e=mnE { W with al:=b } K e:=by
 have i:∀ l,Z5 { W with al:=a } l=Z5 { W with al:=b } l:=fun _=>rfl
 have g:∀ l,yP { W with al:=a } l=yP { W with al:=b } l:=fun _=>rfl
 have f:∀ l,ZB { W with al:=a } l=ZB { W with al:=b } l:=fun _=>rfl
 have d:∀ l,YV { W with al:=a } l=YV { W with al:=b } l:=fun _=>rfl
 unfold mnE
 simp only [h,i,g,f,d]
theorem zfw (W:RW) {a b:List (List Int)} (h:∀ k:Nat,(a[k]?).getD []=(b[k]?).getD []) (es:List EX) (n:Nat):mnN { W with al:=a } es n=mnN { W with al:=b } es n:=by
 have d:∀ j,mnK { W with al:=a } es j=mnK { W with al:=b } es j:=by
  intro j
  induction j with
  | zero=>rfl
  | succ j ih =>
   simp only [mnK]
   rw [ih]
   cases es[j]? with
   | none=>rfl
   | some e=>simp only;rw [zcK W h]
 cases n with
 | zero=>rfl
 | succ j =>
  simp only [mnN]
  rw [d]
  cases es[j]? with
  | none=>rfl
  | some e=>exact zcK W h _ e
theorem zeb {x:WD} {dn:Nat->Bool} {D:List Int} {A:Option Nat} {al:Nat->List Int} {s:ByteArray} (h1:x.dl=D.length) (h2:x.Dn=fun i=>(D[i]?).getD 0) (h3:x.al=za3 A al) (hA:A=none->∀ k,k<16->al k=[]) (hD:D.Perm (dnL dn 64)) (hp:yO x.V x.L x.R x.pl=true) (hs:cpE s=0) (hk:Zt x.a x.b x.d=true) :
 quF x.a x.b x.d dn ((List.range 16).map al) x.V x.L x.R x.pl (cpX s)=(0,(x.mn s).sv,(x.mn s).ttl,(x.mn s).sc):=by
 generalize hLL:dnL dn 64=LL at hD
 obtain ⟨v,q,p,o,w,u,r,n,m,l,e⟩:∃ v:WD,v.a=x.a/\v.b=x.b/\v.d=x.d/\v.dl=LL.length/\(v.Dn=fun i=>(LL[i]?).getD 0)/\v.al=(List.range 16).map al/\v.V=x.V/\v.L=x.L/\v.R=x.R/\v.pl=x.pl:=⟨{ x with dl:=LL.length,Dn:=fun i=>(LL[i]?).getD 0,al:=(List.range 16).map al },rfl,rfl,rfl,rfl,rfl,rfl,rfl,rfl,rfl,rfl⟩
 have y:({ v with a:=x.a,b:=x.b,d:=x.d }:WD)=v:=by
  cases v
  simp only at q p o
  rw [q,p,o]
 have F:=zfn (v:=v) (dn:=dn) (al:=al) (s:=s) x.a x.b x.d (by rw [w,hLL]) (by rw [u,hLL]) r (by rw [n,m,l,e];exact hp) hs hk
 rw [y,n,m,l,e] at F
 obtain ⟨E,C⟩:=F
 have G:j2 s=true:=by unfold j2;rw [hs];rfl
 have g:=zf2 G C
 have f:v.mn s=x.mn s:=by
  have z:x.rw={ v.rw with al:=za3 A al }:=by
   unfold WD.rw zaT
   simp only
   rw [h1,h2,h3,q,p,o,w,u,n,m,l,e]
   have:dnTo (fun i=>(D[i]?).getD 0) D.length=dnTo (fun i=>(LL[i]?).getD 0) LL.length:=by
    funext i
    rw [j6,j6]
    by_cases f:(i:Int)∈D
    ·rw [decide_eq_true f,decide_eq_true (hD.mem_iff.1 f)]
    ·rw [decide_eq_false f,decide_eq_false (fun h=>f (hD.mem_iff.2 h))]
   rw [this]
  have B:v.rw={ v.rw with al:=(List.range 16).map al }:=by
   unfold WD.rw zaT
   simp only
   rw [r]
  unfold WD.mn
  rw [z,B]
  refine (zfw v.rw (a:=(List.range 16).map al) (b:=za3 A al) (fun k=>?_) _ _)
  unfold za3
  by_cases j:A=none
  ·rw [if_pos j]
   rcases Nat.lt_or_ge k 16 with h | h
   ·simp [h,hA j k h]
   ·rw [List.getElem?_eq_none (by simpa using h)];rfl
  ·rw [if_neg j]
 rw [f] at g
 rw [E]
 have I:=g.2.2.2.2.1
 have H:=g.2.2.2.2.2
 simp only [Prod.mk.injEq,true_and]
 refine Prod.ext ?_ (Prod.ext I H)
 show (v.mn s).sv=_
 rw [f]
end Go.Proofs.YtaebngpoagjafabGreat
