import Derived.Test.YtaebngpoagjafabGreatV08
import Derived.Test.YtaebngpoagjafabGreatV16
set_option maxRecDepth 100000
set_option maxHeartbeats 1600000
namespace Go.Proofs.YtaebngpoagjafabGreat
open Obj renaming cells → Q
open Value renaming int → J, slice → O
open IntKind renaming i64 → Z
open Go.RowKit
attribute [local go_sem ↓] Go.wp_at_zero Go.wp_at_succ
section
structure CP where
 es:List EX
 rs:List RL
 k:Nat
 b:Bool
def zw (s:ByteArray):Nat->List RL->Nat->Nat->Bool->CP
 | 0,rs,_,k,b=>⟨[],rs,k,b⟩
 | n+1,rs,m,k,b =>
  let r:=zB s rs m k b
  if zU s 59 r.k r.b=true then
   let q:=zw s n (rs++[r.rl]) (m+r.es.length) (zc s 59 r.k r.b) r.b
   ⟨r.es++q.es,q.rs,q.k,q.b⟩
  else ⟨r.es,rs++[r.rl],zc s 59 r.k r.b,r.b⟩
def zA (s:ByteArray):CP:=zw s (s.size+1) [] 0 0 false
attribute [local go_sem] zS zG
theorem JM (base B:Nat) (s:ByteArray) (ev rv:Value) (w:World) (hs:s.size<=2000) (h:PM w base B s 0 false ev rv [] []) (R:CP) (hR:Hid (zA s=R)) :
 Calls Tryz.prog 48 #[.pointer (some ⟨B,0,none⟩)] w fun e w' =>
  e=.returned (.tuple #[])/\R.k<=s.size/\R.es.length<=s.size/\R.rs.length<=s.size+1/\∃ ev' rv' es,es.map Prod.fst=R.es/\PM w' base B s R.k (R.b || decide (R.k<s.size)) ev' rv' es R.rs/\Mv base B ev rv ev' rv' w w':=by
 have H:Hid _:=h
 clear h
 go_enter Tryz.func48,Tryz.ntmps48
 go_wp2_with fail
 go_loopg [2] (s.size+2) (fun n mv wr=>∃ (f:Nat) (kj:Nat) (bj:Bool) (ev' rv':Value) (es:List (EX×Value)) (rs:List RL),kj<=s.size/\es.length<=kj/\rs.length<=kj+1 /\
  ((mv=.bool true/\n=f+1/\s.size+1<=f+kj/\rs.length<=kj/\Hid (R=⟨es.map Prod.fst++(zw s f rs es.length kj bj).es,(zw s f rs es.length kj bj).rs,(zw s f rs es.length kj bj).k,(zw s f rs es.length kj bj).b⟩))\/(mv=.bool false/\n=0/\Hid (R=⟨es.map Prod.fst,rs,kj,bj⟩))) /\
  PM wr base B s kj bj ev' rv' es rs/\Mv base B ev rv ev' rv' w wr)
 case atStart =>
  refine ⟨s.size+1,0,false,ev,rv,[],[],Nat.zero_le _,by simp,by simp,.inl ⟨rfl,rfl,by omega,by simp,?_⟩,H.out,Mv.refl _ _ _ _ _⟩
  show _=_
  rw [<- hR.out]
  rfl
 case round =>
  obtain ⟨f,kj,bj,ev',rv',es,rs,hkj,hel,hrl,hmode,hp,hm⟩:=hrel
  have HP:Hid _:=hp
  have HM:Hid _:=hm
  clear hp hm
  rcases hmode with ⟨rfl,hgk,hfk,hrk,HE⟩ | ⟨rfl,hgk,HE⟩
  ·obtain ⟨f,rfl⟩:∃ f',f=f'+1:=⟨f-1,by omega⟩
   have hmo:=ZM s rs es.length kj bj hkj
   generalize hr:zB s rs es.length kj bj=r at *
   have HE2:Hid (R=if zU s 59 r.k r.b=true then ⟨es.map Prod.fst++(r.es++(zw s f (rs++[r.rl]) (es.length+r.es.length) (zc s 59 r.k r.b) r.b).es),(zw s f (rs++[r.rl]) (es.length+r.es.length) (zc s 59 r.k r.b) r.b).rs,(zw s f (rs++[r.rl]) (es.length+r.es.length) (zc s 59 r.k r.b) r.b).k,(zw s f (rs++[r.rl]) (es.length+r.es.length) (zc s 59 r.k r.b) r.b).b⟩ else ⟨es.map Prod.fst++r.es,rs++[r.rl],zc s 59 r.k r.b,r.b⟩):=by
    show _=_
    rw [HE.out]
    simp only [zw,hr]
    split<;>rfl
   have HRR:Hid _:=hr
   clear HE hr
   go_wp2_with fail
   refine (zaR base B s kj bj ev' rv' es rs _ hs hkj hel (by omega) HP.out r HRR).mono ?_
   rintro e w2 ⟨rfl,ev2,rv2,new,hnew,hp2,hm2⟩
   have HP2:Hid _:=hp2
   have HM2:Hid _:=HM.out.trans hm2
   have HNW:Hid ((es++new).map Prod.fst=es.map Prod.fst++r.es):=by show _=_;rw [List.map_append,hnew]
   have hlen2:Hid (new.length=r.es.length):=by show _=_;rw [<- hnew,List.length_map]
   clear hp2 hm2 hnew
   go_wp2_with fail
   refine (Xz base B s 59 r.k r.b ev2 rv2 _ _ _ hs hmo.2.1 (by decide) HP2.out).mono ?_
   rintro e w5 ⟨rfl,hp5,hm5⟩
   have HP5:Hid _:=hp5
   have HM5:Hid _:=HM2.out.trans hm5
   have hl2:=hlen2.out
   have htg:=zi s 59 r.k r.b
   have htl:zc s 59 r.k r.b<=s.size:=zq (by decide) hmo.2.1
   clear hp5 hm5
   cases ht:zU s 59 r.k r.b with
   | true =>
    have htk:r.k+1<=zc s 59 r.k r.b:=by
     unfold zc;rw [if_pos ht];have:=z7 s r.k r.b;omega
    have HE3:Hid (R=⟨(es++new).map Prod.fst++(zw s f (rs++[r.rl]) (es++new).length (zc s 59 r.k r.b) r.b).es,(zw s f (rs++[r.rl]) (es++new).length (zc s 59 r.k r.b) r.b).rs,(zw s f (rs++[r.rl]) (es++new).length (zc s 59 r.k r.b) r.b).k,(zw s f (rs++[r.rl]) (es++new).length (zc s 59 r.k r.b) r.b).b⟩):=by
     show _=_
     have e3:(es++new).length=es.length+r.es.length:=by simp only [List.length_append];omega
     rw [HE2.out,if_pos ht,e3,HNW.out,List.append_assoc]
    clear HE2 ht
    go_wp2_with fail
    go_roundg (f+1)
    case measure=>omega
    case rel=>exact ⟨f,zc s 59 r.k r.b,r.b,ev2,rv2,es++new,rs++[r.rl],htl,by simp only [List.length_append];omega,by simp;omega,.inl ⟨rfl,rfl,by omega,by simp;omega,HE3⟩,HP5.out,HM5.out⟩
   | false =>
    have HE3:Hid (R=⟨(es++new).map Prod.fst,rs++[r.rl],zc s 59 r.k r.b,r.b⟩):=by
     show _=_
     rw [HE2.out,if_neg (by rw [ht];decide),HNW.out]
    clear HE2 ht
    go_wp2_with fail
    go_roundg 0
    case measure=>omega
    case rel=>exact ⟨0,zc s 59 r.k r.b,r.b,ev2,rv2,es++new,rs++[r.rl],htl,by simp only [List.length_append];omega,by simp;omega,.inr ⟨rfl,rfl,HE3⟩,HP5.out,HM5.out⟩
  ·have c0:=HP.out.c0
   have c1:=HP.out.c1
   have c2:=HP.out.c2
   have z2:=HP.out.fz 2
   by_cases hlt:kj<s.size
   ·have hlt':(kj:Int)<(s.size:Int):=by omega
    have HB:Hid ((bj || decide (kj<s.size))=true):=by show _=_;rw [decide_eq_true hlt,Bool.or_true]
    go_wp2_with fail
    go_quiet (fail)
    go_wp2_with fail
    go_end0
    refine ⟨rfl,by rw [HE.out];exact hkj,by rw [HE.out];simp;omega,by rw [HE.out];show rs.length<=_;omega,ev',rv',es,by rw [HE.out],?_,(HM.out.drewN _).trans ((HP.out.drewN _).setMv 2 _)⟩
    rw [HE.out]
    simp only [HB.out]
    exact (HP.out.drewN _).bad true
   ·have hlt':¬ (kj:Int)<(s.size:Int):=by omega
    have HB:Hid ((bj || decide (kj<s.size))=bj):=by show _=_;rw [decide_eq_false hlt,Bool.or_false]
    go_wp2_with fail
    go_quiet (fail)
    go_wp2_with fail
    go_end0
    refine ⟨rfl,by rw [HE.out];exact hkj,by rw [HE.out];simp;omega,by rw [HE.out];show rs.length<=_;omega,ev',rv',es,by rw [HE.out],?_,HM.out.drewN _⟩
    rw [HE.out]
    simp only [HB.out]
    exact HP.out.drewN _
end
section
def FM (w:World) (F:Nat) (f:Int×Int):Prop:=w.heap[F]?=some (Q #[J Z f.1,J Z f.2] 106 (0,0))
structure FK (F:Nat) (w w':World):Prop where
 bel:Below F w w'
 kept:∀ b,b<w.heap.size->b≠F->w'.heap[b]?=w.heap[b]?
theorem FK.refl (F:Nat) (w:World):FK F w w:=⟨Below.refl _ _,fun _ _ _=>rfl⟩
theorem FK.trans {F:Nat} {w w1 w2:World} (h:FK F w w1) (k:FK F w1 w2):FK F w w2:=⟨h.bel.trans k.bel,fun b hb hne=>(k.kept b (Nat.lt_of_lt_of_le hb h.bel.size) hne).trans (h.kept b hb hne)⟩
theorem FK.drewN {F:Nat} {w w1:World} (h:FK F w w1) (n:Nat):FK F w (w1.drewN n):=⟨zQ h.bel n,h.kept⟩
theorem FK.drew {F:Nat} {w w1:World} (h:FK F w w1):FK F w w1.drew:=⟨h.bel.drew,h.kept⟩
theorem FK.alloc {F:Nat} {w w1:World} (h:FK F w w1) (hF:F<=w1.heap.size) (o:Obj):FK F w (w1.alloc o):=⟨h.bel.alloc hF o,fun b hb hne=>(Below.heap_alloc _ _ _ (Nat.lt_of_lt_of_le hb h.bel.size)).trans (h.kept b hb hne)⟩
theorem FK.set {F:Nat} {w w1:World} (h:FK F w w1) (j:Nat) (u:Value):FK F w (w1.setCell ⟨F,j,none⟩ u):=⟨h.bel.setCell (Nat.le_refl _) u,fun b hb hne=>(za hne).trans (h.kept b hb hne)⟩
theorem FK.below {F:Nat} {w w1:World} (h:Below w.heap.size w w1) (hF:F<=w.heap.size):FK F w w1:=⟨h.mono hF,fun b hb _=>h.block b hb⟩
theorem FM.lt {w:World} {F:Nat} {f:Int×Int} (h:FM w F f):F<w.heap.size:=lt_of_block h
theorem FM.alloc {w:World} {F:Nat} {f:Int×Int} (h:FM w F f) (o:Obj):FM (w.alloc o) F f:=(Below.heap_alloc _ _ _ h.lt).trans h
theorem FM.c0 {w:World} {F:Nat} {f:Int×Int} (h:FM w F f):w.cell? ⟨F,0,none⟩=some (J Z f.1):=by unfold FM at h;simp [World.cell?,h]
theorem FM.c1 {w:World} {F:Nat} {f:Int×Int} (h:FM w F f):w.cell? ⟨F,1,none⟩=some (J Z f.2):=by unfold FM at h;simp [World.cell?,h]
theorem FM.fz {w:World} {F:Nat} {f:Int×Int} (h:FM w F f) (j:Nat):w.frozen? ⟨F,j,none⟩=false:=by unfold FM at h;simp [World.frozen?,h]
def fnd (f:Int×Int) (e a:Int):Int×Int:=if f.1=0\/a<f.2\/(a=f.2/\e<f.1) then (e,a) else f
def Yh (f:Int×Int) (v a lo hi:Int):Int×Int:=if v<lo\/hi<v then fnd f 6 a else f
attribute [local go_sem] zS zG
theorem yK (F:Nat) (f:Int×Int) (e a:Int) (w:World) (h:FM w F f) (f':Int×Int) (hf:Hid (fnd f e a=f')) :
 Calls Tryz.prog 89 #[.pointer (some ⟨F,0,none⟩),J Z e,J Z a] w fun x w'=>x=.returned (.tuple #[])/\FM w' F f'/\FK F w w':=by
 have c0:=h.c0
 have c1:=h.c1
 have z0:=h.fz 0
 have z1:=h.fz 1
 have H:Hid _:=h
 clear h
 obtain ⟨fe,fa⟩:=f
 simp only at c0 c1
 have HS0:Hid (FM ((w.setCell ⟨F,0,none⟩ (J Z e)).setCell ⟨F,1,none⟩ (J Z a)) F (e,a)):=by
  have h0:=H.out
  unfold FM at h0
  show _=_
  simp [World.setCell,Array.getElem?_modify,h0]
 by_cases h1:fe=0
 ·have h1':(fe==0)=true:=by simp [h1]
  have HF:Hid (f'=(e,a)):=by show _=_;rw [<- hf.out];unfold fnd;rw [if_pos (.inl h1)]
  clear h1
  go_enter Tryz.func89,Tryz.ntmps89
  go_wp2_with fail
  go_end0
  exact ⟨rfl,by rw [HF.out];exact HS0.out,((FK.refl _ _).set _ _).set _ _⟩
 have h1':(fe==0)=false:=by simp [h1]
 by_cases h2:a<fa
 ·have HF:Hid (f'=(e,a)):=by show _=_;rw [<- hf.out];unfold fnd;rw [if_pos (.inr (.inl h2))]
  clear h1
  go_enter Tryz.func89,Tryz.ntmps89
  go_wp2_with fail
  go_end0
  exact ⟨rfl,by rw [HF.out];exact HS0.out,((FK.refl _ _).set _ _).set _ _⟩
 by_cases h3:a=fa
 ·have h3':(a==fa)=true:=by simp [h3]
  by_cases h4:e<fe
  ·have HF:Hid (f'=(e,a)):=by show _=_;rw [<- hf.out];unfold fnd;rw [if_pos (.inr (.inr ⟨h3,h4⟩))]
   clear h1 h3
   go_enter Tryz.func89,Tryz.ntmps89
   go_wp2_with fail
   go_end0
   exact ⟨rfl,by rw [HF.out];exact HS0.out,((FK.refl _ _).set _ _).set _ _⟩
  ·have HF:Hid (f'=(fe,fa)):=by show _=_;rw [<- hf.out];unfold fnd;rw [if_neg (fun h=>h.elim h1 (fun h=>h.elim h2 (fun h=>h4 h.2)))]
   clear h1 h3
   go_enter Tryz.func89,Tryz.ntmps89
   go_wp2_with fail
   go_end0
   exact ⟨rfl,by rw [HF.out];exact H.out,FK.refl _ _⟩
 ·have h3':(a==fa)=false:=by simp [h3]
  have HF:Hid (f'=(fe,fa)):=by show _=_;rw [<- hf.out];unfold fnd;rw [if_neg (fun h=>h.elim h1 (fun h=>h.elim h2 (fun h=>h3 h.1)))]
  clear h1 h3
  go_enter Tryz.func89,Tryz.ntmps89
  go_wp2_with fail
  go_end0
  exact ⟨rfl,by rw [HF.out];exact H.out,FK.refl _ _⟩
theorem ye (F:Nat) (f:Int×Int) (v a lo hi:Int) (w:World) (h:FM w F f) (f':Int×Int) (hf:Hid (Yh f v a lo hi=f')) :
 Calls Tryz.prog 128 #[.pointer (some ⟨F,0,none⟩),.agg #[J Z v,J Z a],J Z lo,J Z hi] w fun x w'=>x=.returned (.tuple #[])/\FM w' F f'/\FK F w w':=by
 have H:Hid (FM (w.alloc (Q #[J Z v,J Z a] 141)) F f):=h.alloc _
 have HK:Hid (FK F w (w.alloc (Q #[J Z v,J Z a] 141))):=(FK.refl _ _).alloc (Nat.le_of_lt h.lt) _
 clear h
 by_cases h1:v<lo
 ·have HF:Hid (fnd f 6 a=f'):=by show _=_;rw [<- hf.out];unfold Yh;rw [if_pos (.inl h1)]
  go_enter Tryz.func128,Tryz.ntmps128
  go_wp2_with fail
  refine (yK F f 6 a _ H.out f' HF).mono ?_
  rintro x w2 ⟨rfl,h2,k2⟩
  go_wp2_with fail
  go_end0
  exact ⟨rfl,h2,HK.out.trans k2⟩
 by_cases h2:hi<v
 ·have HF:Hid (fnd f 6 a=f'):=by show _=_;rw [<- hf.out];unfold Yh;rw [if_pos (.inr h2)]
  go_enter Tryz.func128,Tryz.ntmps128
  go_wp2_with fail
  refine (yK F f 6 a _ H.out f' HF).mono ?_
  rintro x w2 ⟨rfl,h2,k2⟩
  go_wp2_with fail
  go_end0
  exact ⟨rfl,h2,HK.out.trans k2⟩
 have HF:Hid (f=f'):=by show _=_;rw [<- hf.out];unfold Yh;rw [if_neg (fun h=>h.elim h1 h2)]
 go_enter Tryz.func128,Tryz.ntmps128
 go_wp2_with fail
 go_end0
 exact ⟨rfl,by rw [<- HF.out];exact H.out,HK.out⟩
def IV (w:World) (v:Value) (l:List IM):Prop:=(v=O none 0 0/\l=[])\/∃ g cap,v=O (some ⟨g,0,none⟩) l.length cap/\l.length<=cap/\∀ i x,l[i]?=some x->w.cell? ⟨g,i*7,none⟩=some (J Z x.at_)/\w.cell? ⟨g,i*7+1,none⟩=some (J Z x.num)/\w.cell? ⟨g,i*7+2,none⟩=some (J Z x.pv)/\w.cell? ⟨g,i*7+3,none⟩=some (J Z x.pl)/\w.cell? ⟨g,i*7+4,none⟩=some (J Z x.wv)/\w.cell? ⟨g,i*7+5,none⟩=some (J Z x.wa)/\w.cell? ⟨g,i*7+6,none⟩=some (J Z x.arm)
def yo (y x:IM):Bool:=(y.num==x.num) && (y.pv==x.pv) && (y.pl==x.pl)
theorem QO (v:Value) (x:IM) (l:List IM) (w:World) (hl:l.length<=100000) (h:IV w v l) :
 Calls Tryz.prog 129 #[v,.agg #[J Z x.at_,J Z x.num,J Z x.pv,J Z x.pl,J Z x.wv,J Z x.wa,J Z x.arm]] w fun e w'=>Below w.heap.size w w'/\e=.returned (.bool (l.any (fun y=>yo y x))):=by
 have hloop:∀ (i:Nat),i<l.length->∃ r,l[i]?=some r:=fun i hi=>⟨l[i],List.getElem?_eq_getElem hi⟩
 have HB0:Hid (Below w.heap.size w (w.alloc (Q #[J Z x.at_,J Z x.num,J Z x.pv,J Z x.pl,J Z x.wv,J Z x.wa,J Z x.arm] 155))):=(Below.refl _ _).alloc (Nat.le_refl _) _
 have HX0:Hid ((w.alloc (Q #[J Z x.at_,J Z x.num,J Z x.pv,J Z x.pl,J Z x.wv,J Z x.wa,J Z x.arm] 155)).heap[w.heap.size]?=some (Q #[J Z x.at_,J Z x.num,J Z x.pv,J Z x.pl,J Z x.wv,J Z x.wa,J Z x.arm] 155 (0,0))):=heap_alloc_new w _
 rcases h with ⟨rfl,rfl⟩ | ⟨g,cap,rfl,hcl,hc⟩
 ·go_enter Tryz.func129,Tryz.ntmps129
  go_wp2_with fail
  go_loopg [9] 1 (fun n y wr=>y=J Z 0/\wr=w.alloc (Q #[J Z x.at_,J Z x.num,J Z x.pv,J Z x.pl,J Z x.wv,J Z x.wa,J Z x.arm] 155))
  case atStart=>exact ⟨rfl,rfl⟩
  case round =>
   obtain ⟨rfl,rfl⟩:=hrel
   go_wp2_with fail
   go_ret
   exact ⟨HB0.out,rfl⟩
 ·have hgl:∀ i y,l[i]?=some y->g<w.heap.size:=fun i y hy=>World.block_lt_of_cell? w ⟨g,i*7,none⟩ (hc i y hy).1
  go_enter Tryz.func129,Tryz.ntmps129
  go_wp2_with fail
  go_loopg [9] l.length (fun n y wr=>∃ (j:Nat),n+j=l.length/\y=J Z j/\Hid ((l.take j).any (fun y=>yo y x)=false)/\Below w.heap.size w wr/\wr.heap[w.heap.size]?=some (Q #[J Z x.at_,J Z x.num,J Z x.pv,J Z x.pl,J Z x.wv,J Z x.wa,J Z x.arm] 155 (0,0)))
  case atStart=>exact ⟨0,by omega,rfl,by show _=_;simp,HB0.out,HX0.out⟩
  case round =>
   obtain ⟨j,hn,rfl,HN,hb,hx⟩:=hrel
   have HB:Hid _:=hb
   have HX:Hid _:=hx
   have hws:w.heap.size<wr.heap.size:=lt_of_block hx
   clear hb hx
   by_cases hlt:j<l.length
   ·obtain ⟨y,hy⟩:=hloop j hlt
    have hj0:(0:Int)<=(j:Int):=by omega
    have hj1:(j:Int)<(l.length:Int):=by omega
    obtain ⟨r0,r1,r2,r3,r4,r5,r6⟩:=hc j y hy
    have g0:=yi HB.out r0
    have g1:=yi HB.out r1
    have g2:=yi HB.out r2
    have g3:=yi HB.out r3
    have g4:=yi HB.out r4
    have g5:=yi HB.out r5
    have g6:=yi HB.out r6
    have hgw:=hgl j y hy
    have x1:wr.cell? ⟨w.heap.size,1,none⟩=some (J Z x.num):=by simp [World.cell?,HX.out]
    have x2:wr.cell? ⟨w.heap.size,2,none⟩=some (J Z x.pv):=by simp [World.cell?,HX.out]
    have x3:wr.cell? ⟨w.heap.size,3,none⟩=some (J Z x.pl):=by simp [World.cell?,HX.out]
    have HD:Hid ((l.take (j+1)).any (fun y=>yo y x)=yo y x):=by
     show _=_
     rw [List.take_add_one,hy,List.any_append,HN.out]
     simp
    have HA:Hid (yo y x=true->l.any (fun y=>yo y x)=true):=fun h=>List.any_eq_true.2 ⟨y,List.mem_of_getElem? hy,h⟩
    have HB2:Hid (∀ o,Below w.heap.size w (wr.alloc o)):=fun o=>HB.out.alloc (Nat.le_of_lt hws) o
    have HX2:Hid (∀ o,(wr.alloc o).heap[w.heap.size]?=some (Q #[J Z x.at_,J Z x.num,J Z x.pv,J Z x.pl,J Z x.wv,J Z x.wa,J Z x.arm] 155 (0,0))):=fun o=>(Below.heap_alloc _ _ _ hws).trans HX.out
    have HS:Hid (yo y x=((y.num==x.num) && (y.pv==x.pv) && (y.pl==x.pl))):=rfl
    clear r0 r1 r2 r3 r4 r5 r6 hy hc hloop hgl
    cases e1:(y.num==x.num) with
    | false =>
     have HZ:Hid (yo y x=false):=by show _=_;rw [HS.out,e1];rfl
     go_wp2_with fail
     go_roundg (gk-1)
     case measure=>omega
     case rel=>exact ⟨j+1,by omega,by go_num,by show _=_;rw [HD.out,HZ.out],HB2.out _,HX2.out _⟩
    | true =>
     cases e2:(y.pv==x.pv) with
     | false =>
      have HZ:Hid (yo y x=false):=by show _=_;rw [HS.out,e1,e2];rfl
      go_wp2_with fail
      go_roundg (gk-1)
      case measure=>omega
      case rel=>exact ⟨j+1,by omega,by go_num,by show _=_;rw [HD.out,HZ.out],HB2.out _,HX2.out _⟩
     | true =>
      cases e3:(y.pl==x.pl) with
      | false =>
       have HZ:Hid (yo y x=false):=by show _=_;rw [HS.out,e1,e2,e3];rfl
       go_wp2_with fail
       go_roundg (gk-1)
       case measure=>omega
       case rel=>exact ⟨j+1,by omega,by go_num,by show _=_;rw [HD.out,HZ.out],HB2.out _,HX2.out _⟩
      | true =>
       have HZ:Hid (l.any (fun y=>yo y x)=true):=HA.out (by rw [HS.out,e1,e2,e3];rfl)
       go_wp2_with fail
       go_ret
       exact ⟨HB2.out _,by rw [HZ.out];rfl⟩
   ·have hd:¬ ((j:Int)<(l.length:Int)):=by omega
    have hd2:((l.length:Int))<=(j:Int):=by omega
    have HD:Hid (l.any (fun y=>yo y x)=false):=by show _=_;have:=HN.out;rwa [List.take_of_length_le (by omega)] at this
    go_wp2_with fail
    go_ret
    exact ⟨HB.out,by rw [HD.out];rfl⟩
end
section
def Yw (c:Int) (x:IM) (f:Int×Int):Int×Int :=
 if c=123\/c=102 then Yh f x.num x.at_ 0 63
 else if c=119 then Yh (Yh f x.num x.at_ 0 63) x.wv x.wa 1 1000
 else if c=103 then Yh f x.num x.at_ 0 99
 else f
def Xh (e:EX) (f:Int×Int):Int×Int :=
 let f1:=if 12<=e.depth then fnd f 3 e.at_ else f
 if e.kind=116 then Yh f1 e.nv e.na 1 86400
 else if e.kind=64 then Yh f1 e.nv e.na 0 15
 else if e.kind=61 then (if e.inner=-1 then fnd f1 5 e.na else f1)
 else f1
attribute [local go_sem] zS zG
theorem YL (F:Nat) (f:Int×Int) (c:Int) (x:IM) (w:World) (h:FM w F f) (f':Int×Int) (hf:Hid (Yw c x f=f')) :
 Calls Tryz.prog 130 #[.pointer (some ⟨F,0,none⟩),J .u8 c,.agg #[J Z x.at_,J Z x.num,J Z x.pv,J Z x.pl,J Z x.wv,J Z x.wa,J Z x.arm]] w fun e w'=>e=.returned (.tuple #[])/\FM w' F f'/\FK F w w':=by
 have H:Hid (FM ((w.alloc (Q #[J Z x.at_,J Z x.num,J Z x.pv,J Z x.pl,J Z x.wv,J Z x.wa,J Z x.arm] 155)).alloc (Q #[J Z x.num,J Z x.at_] 141)) F f):=(h.alloc _).alloc _
 have HK:Hid (FK F w ((w.alloc (Q #[J Z x.at_,J Z x.num,J Z x.pv,J Z x.pl,J Z x.wv,J Z x.wa,J Z x.arm] 155)).alloc (Q #[J Z x.num,J Z x.at_] 141))):=((FK.refl _ _).alloc (Nat.le_of_lt h.lt) _).alloc (by have:=h.lt;simp;omega) _
 have hbn:=fun w=>qB x.num x.at_ w
 have hFl:=h.lt
 have hFn:w.heap.size≠F:=by omega
 have HX:Hid (((w.alloc (Q #[J Z x.at_,J Z x.num,J Z x.pv,J Z x.pl,J Z x.wv,J Z x.wa,J Z x.arm] 155)).alloc (Q #[J Z x.num,J Z x.at_] 141)).heap[w.heap.size]?=some (Q #[J Z x.at_,J Z x.num,J Z x.pv,J Z x.pl,J Z x.wv,J Z x.wa,J Z x.arm] 155 (0,0))):=(Below.heap_alloc _ _ _ (by simp)).trans (heap_alloc_new w _)
 clear h
 by_cases h1:c=123
 ·subst h1
  have HF:Hid _:=hf
  go_enter Tryz.func130,Tryz.ntmps130
  go_wp2_with fail
  refine (ye F f x.num x.at_ 0 63 _ H.out f' HF).mono ?_
  rintro e w2 ⟨rfl,h2,k2⟩
  go_wp2_with fail
  go_end0
  exact ⟨rfl,h2,HK.out.trans k2⟩
 by_cases h2:c=102
 ·subst h2
  have HF:Hid _:=hf
  go_enter Tryz.func130,Tryz.ntmps130
  go_wp2_with fail
  refine (ye F f x.num x.at_ 0 63 _ H.out f' HF).mono ?_
  rintro e w2 ⟨rfl,h2,k2⟩
  go_wp2_with fail
  go_end0
  exact ⟨rfl,h2,HK.out.trans k2⟩
 by_cases h3:c=103
 ·subst h3
  have HF:Hid _:=hf
  go_enter Tryz.func130,Tryz.ntmps130
  go_wp2_with fail
  refine (ye F f x.num x.at_ 0 99 _ H.out f' HF).mono ?_
  rintro e w2 ⟨rfl,h2,k2⟩
  go_wp2_with fail
  go_end0
  exact ⟨rfl,h2,HK.out.trans k2⟩
 by_cases h4:c=119
 ·subst h4
  have HF:Hid _:=hf
  go_enter Tryz.func130,Tryz.ntmps130
  go_wp2_with fail
  refine (ye F f x.num x.at_ 0 63 _ H.out _ rfl).mono ?_
  rintro e w2 ⟨rfl,h2,k2⟩
  have H2:Hid _:=h2
  have K2:Hid _:=HK.out.trans k2
  have hx2:=(k2.kept w.heap.size (by simp;omega) hFn).trans HX.out
  have x4:w2.cell? ⟨w.heap.size,4,none⟩=some (J Z x.wv):=by simp [World.cell?,hx2]
  have x5:w2.cell? ⟨w.heap.size,5,none⟩=some (J Z x.wa):=by simp [World.cell?,hx2]
  clear h2 k2 hx2
  go_wp2_with fail
  refine (ye F _ x.wv x.wa 1 1000 _ H2.out f' HF).mono ?_
  rintro e w3 ⟨rfl,h3,k3⟩
  go_wp2_with fail
  go_end0
  exact ⟨rfl,h3,K2.out.trans k3⟩
 have e1:(c==123)=false:=by simp [h1]
 have e2:(c==102)=false:=by simp [h2]
 have e3:(c==103)=false:=by simp [h3]
 have e4:(c==119)=false:=by simp [h4]
 have HF:Hid (f=f'):=by show _=_;rw [<- hf.out];simp [Yw,h1,h2,h3,h4]
 clear h1 h2 h3 h4
 go_enter Tryz.func130,Tryz.ntmps130
 go_wp2_with fail
 go_end0
 exact ⟨rfl,by rw [<- HF.out];exact H.out,HK.out⟩
theorem zad (F:Nat) (f:Int×Int) (e:EX) (vo:Option Addr) (vm vc:Nat) (w:World) (h:FM w F f) (f':Int×Int) (hf:Hid (Xh e f=f')) :
 Calls Tryz.prog 90 #[.pointer (some ⟨F,0,none⟩),.agg #[J .u8 e.kind,J Z e.at_,J Z e.depth,J Z e.nv,J Z e.na,O vo vm vc,J Z e.inner]] w fun r w'=>r=.returned (.tuple #[])/\FM w' F f'/\FK F w w':=by
 have H:Hid (FM (w.alloc (Q #[J .u8 e.kind,J Z e.at_,J Z e.depth,J Z e.nv,J Z e.na,O vo vm vc,J Z e.inner] 148)) F f):=h.alloc _
 have HK:Hid (FK F w (w.alloc (Q #[J .u8 e.kind,J Z e.at_,J Z e.depth,J Z e.nv,J Z e.na,O vo vm vc,J Z e.inner] 148))):=(FK.refl _ _).alloc (Nat.le_of_lt h.lt) _
 have HX:Hid ((w.alloc (Q #[J .u8 e.kind,J Z e.at_,J Z e.depth,J Z e.nv,J Z e.na,O vo vm vc,J Z e.inner] 148)).heap[w.heap.size]?=some (Q #[J .u8 e.kind,J Z e.at_,J Z e.depth,J Z e.nv,J Z e.na,O vo vm vc,J Z e.inner] 148 (0,0))):=heap_alloc_new w _
 have hFl:=h.lt
 have hFn:w.heap.size≠F:=by omega
 clear h
 by_cases hd:12<=e.depth
 ·obtain ⟨f1,hf0⟩:∃ f1,fnd f 3 e.at_=f1:=⟨_,rfl⟩
  have hf1:Hid ((if e.kind=116 then Yh f1 e.nv e.na 1 86400 else if e.kind=64 then Yh f1 e.nv e.na 0 15 else if e.kind=61 then (if e.inner=-1 then fnd f1 5 e.na else f1) else f1)=f'):=by show _=_;rw [<- hf.out,<- hf0];simp [Xh,hd]
  have HF0:Hid _:=hf0
  clear hf0
  go_enter Tryz.func90,Tryz.ntmps90
  go_wp2_with fail
  refine (yK F f 3 e.at_ _ H.out f1 HF0).mono ?_
  rintro r w2 ⟨rfl,h2,k2⟩
  have H2:Hid _:=h2
  have K2:Hid _:=HK.out.trans k2
  have hx2:=(k2.kept w.heap.size (by simp) hFn).trans HX.out
  clear h2 k2
  have x0:w2.cell? ⟨w.heap.size,0,none⟩=some (J .u8 e.kind):=by simp [World.cell?,hx2]
  have x3:w2.cell? ⟨w.heap.size,3,none⟩=some (J Z e.nv):=by simp [World.cell?,hx2]
  have x4:w2.cell? ⟨w.heap.size,4,none⟩=some (J Z e.na):=by simp [World.cell?,hx2]
  have x6:w2.cell? ⟨w.heap.size,6,none⟩=some (J Z e.inner):=by simp [World.cell?,hx2]
  clear hx2
  by_cases k116:e.kind=116
  ·have HF:Hid (Yh f1 e.nv e.na 1 86400=f'):=by show _=_;rw [<- hf1.out];simp [k116]
   have e1:(e.kind==116)=true:=by simp [k116]
   have e2:(e.kind==64)=false:=by simp [k116]
   clear k116
   go_wp2_with fail
   refine (ye F f1 e.nv e.na 1 86400 _ H2.out f' HF).mono ?_
   rintro r w3 ⟨rfl,h3,k3⟩
   go_wp2_with fail
   go_end0
   exact ⟨rfl,h3,K2.out.trans k3⟩
  by_cases k64:e.kind=64
  ·have HF:Hid (Yh f1 e.nv e.na 0 15=f'):=by show _=_;rw [<- hf1.out];simp [k64]
   have e1:(e.kind==116)=false:=by simp [k64]
   have e2:(e.kind==64)=true:=by simp [k64]
   clear k64
   go_wp2_with fail
   refine (ye F f1 e.nv e.na 0 15 _ H2.out f' HF).mono ?_
   rintro r w3 ⟨rfl,h3,k3⟩
   go_wp2_with fail
   go_end0
   exact ⟨rfl,h3,K2.out.trans k3⟩
  by_cases k61:e.kind=61
  ·have e1:(e.kind==116)=false:=by simp [k61]
   have e2:(e.kind==64)=false:=by simp [k61]
   have e3:(e.kind==61)=true:=by simp [k61]
   by_cases hi:e.inner=-1
   ·have HF:Hid (fnd f1 5 e.na=f'):=by show _=_;rw [<- hf1.out];simp [k61,hi]
    have e4:(e.inner==-1)=true:=by simp [hi]
    clear hi k61
    go_wp2_with fail
    refine (yK F f1 5 e.na _ H2.out f' HF).mono ?_
    rintro r w3 ⟨rfl,h3,k3⟩
    go_wp2_with fail
    go_end0
    exact ⟨rfl,h3,K2.out.trans k3⟩
   ·have HF:Hid (f1=f'):=by show _=_;rw [<- hf1.out];simp [k61,hi]
    have e4:(e.inner==-1)=false:=by simp [hi]
    clear hi k61
    go_wp2_with fail
    go_end0
    exact ⟨rfl,by rw [<- HF.out];exact H2.out,K2.out⟩
  have e1:(e.kind==116)=false:=by simp [k116]
  have e2:(e.kind==64)=false:=by simp [k64]
  have e3:(e.kind==61)=false:=by simp [k61]
  have HF:Hid (f1=f'):=by show _=_;rw [<- hf1.out];simp [k61,k64,k116]
  clear k61 k64 k116
  go_wp2_with fail
  go_end0
  exact ⟨rfl,by rw [<- HF.out];exact H2.out,K2.out⟩
 ·have hd2:e.depth<12:=by omega
  have hf1:Hid ((if e.kind=116 then Yh f e.nv e.na 1 86400 else if e.kind=64 then Yh f e.nv e.na 0 15 else if e.kind=61 then (if e.inner=-1 then fnd f 5 e.na else f) else f)=f'):=by show _=_;rw [<- hf.out];simp [Xh,hd]
  by_cases k116:e.kind=116
  ·have HF:Hid (Yh f e.nv e.na 1 86400=f'):=by show _=_;rw [<- hf1.out];simp [k116]
   have e1:(e.kind==116)=true:=by simp [k116]
   have e2:(e.kind==64)=false:=by simp [k116]
   clear k116
   go_enter Tryz.func90,Tryz.ntmps90
   go_wp2_with fail
   refine (ye F f e.nv e.na 1 86400 _ H.out f' HF).mono ?_
   rintro r w3 ⟨rfl,h3,k3⟩
   go_wp2_with fail
   go_end0
   exact ⟨rfl,h3,HK.out.trans k3⟩
  by_cases k64:e.kind=64
  ·have HF:Hid (Yh f e.nv e.na 0 15=f'):=by show _=_;rw [<- hf1.out];simp [k64]
   have e1:(e.kind==116)=false:=by simp [k64]
   have e2:(e.kind==64)=true:=by simp [k64]
   clear k64
   go_enter Tryz.func90,Tryz.ntmps90
   go_wp2_with fail
   refine (ye F f e.nv e.na 0 15 _ H.out f' HF).mono ?_
   rintro r w3 ⟨rfl,h3,k3⟩
   go_wp2_with fail
   go_end0
   exact ⟨rfl,h3,HK.out.trans k3⟩
  by_cases k61:e.kind=61
  ·have e1:(e.kind==116)=false:=by simp [k61]
   have e2:(e.kind==64)=false:=by simp [k61]
   have e3:(e.kind==61)=true:=by simp [k61]
   by_cases hi:e.inner=-1
   ·have HF:Hid (fnd f 5 e.na=f'):=by show _=_;rw [<- hf1.out];simp [k61,hi]
    have e4:(e.inner==-1)=true:=by simp [hi]
    clear hi k61
    go_enter Tryz.func90,Tryz.ntmps90
    go_wp2_with fail
    refine (yK F f 5 e.na _ H.out f' HF).mono ?_
    rintro r w3 ⟨rfl,h3,k3⟩
    go_wp2_with fail
    go_end0
    exact ⟨rfl,h3,HK.out.trans k3⟩
   ·have HF:Hid (f=f'):=by show _=_;rw [<- hf1.out];simp [k61,hi]
    have e4:(e.inner==-1)=false:=by simp [hi]
    clear hi k61
    go_enter Tryz.func90,Tryz.ntmps90
    go_wp2_with fail
    go_end0
    exact ⟨rfl,by rw [<- HF.out];exact H.out,HK.out⟩
  have e1:(e.kind==116)=false:=by simp [k116]
  have e2:(e.kind==64)=false:=by simp [k64]
  have e3:(e.kind==61)=false:=by simp [k61]
  have HF:Hid (f=f'):=by show _=_;rw [<- hf1.out];simp [k61,k64,k116]
  clear k61 k64 k116
  go_enter Tryz.func90,Tryz.ntmps90
  go_wp2_with fail
  go_end0
  exact ⟨rfl,by rw [<- HF.out];exact H.out,HK.out⟩
end
end Go.Proofs.YtaebngpoagjafabGreat
