import Derived.Test.YtaebngpoagjafabGreatU12
import Derived.Test.YtaebngpoagjafabGreatU15
set_option maxRecDepth 100000
set_option maxHeartbeats 1600000
namespace Go.Proofs.YtaebngpoagjafabGreat
open Obj renaming cells → Q
open Value renaming int → J, slice → O
open IntKind renaming i64 → Z
open Go.RowKit
attribute [local go_sem ↓] Go.wp_at_zero Go.wp_at_succ
section
structure CP where
 es:List EX
 rs:List RL
 k:Nat
 b:Bool
def zx (s:ByteArray):Nat->List RL->Nat->Nat->Bool->CP
 | 0,rs,_,k,b=>⟨[],rs,k,b⟩
 | n+1,rs,m,k,b =>
  let r:=zC s rs m k b
  if zZ s 59 r.k r.b=true then
   let q:=zx s n (rs++[r.rl]) (m+r.es.length) (zc s 59 r.k r.b) r.b
   ⟨r.es++q.es,q.rs,q.k,q.b⟩
  else ⟨r.es,rs++[r.rl],zc s 59 r.k r.b,r.b⟩
def zA (s:ByteArray):CP:=zx s (s.size+1) [] 0 0 false
attribute [local go_sem] zV zH
theorem za0 (base B:Nat) (s:ByteArray) (ev rv:Value) (w:World) (hs:s.size<=2000) (h:PM w base B s 0 false ev rv [] []) (R:CP) (hR:Hid (zA s=R)) :
 Calls Tryz.prog 48 #[.pointer (some ⟨B,0,none⟩)] w fun e w' =>
  e=.returned (.tuple #[])/\R.k<=s.size/\R.es.length<=s.size/\R.rs.length<=s.size+1/\∃ ev' rv' es,es.map Prod.fst=R.es/\PM w' base B s R.k (R.b || decide (R.k<s.size)) ev' rv' es R.rs/\Mv base B ev rv ev' rv' w w':=by
 have H:Hid _:=h
 clear h
 go_enter Tryz.func48,Tryz.ntmps48
 go_wp2_with fail
 go_loopg [2] (s.size+2) (fun n mv wr=>∃ (f:Nat) (a:Nat) (d:Bool) (ev' rv':Value) (es:List (EX×Value)) (rs:List RL),a<=s.size/\es.length<=a/\rs.length<=a+1 /\
  ((mv=.bool true/\n=f+1/\s.size+1<=f+a/\rs.length<=a/\Hid (R=⟨es.map Prod.fst++(zx s f rs es.length a d).es,(zx s f rs es.length a d).rs,(zx s f rs es.length a d).k,(zx s f rs es.length a d).b⟩))\/(mv=.bool false/\n=0/\Hid (R=⟨es.map Prod.fst,rs,a,d⟩))) /\
  PM wr base B s a d ev' rv' es rs/\Mv base B ev rv ev' rv' w wr)
 case atStart =>
  refine ⟨s.size+1,0,false,ev,rv,[],[],Nat.zero_le _,by simp,by simp,.inl ⟨rfl,rfl,by omega,by simp,?_⟩,H.out,Mv.refl _ _ _ _ _⟩
  show _=_
  rw [<- hR.out]
  rfl
 case round =>
  obtain ⟨f,a,d,ev',rv',es,rs,i,J,W,o,Q,S⟩:=hrel
  have l:Hid _:=Q
  have O:Hid _:=S
  clear Q S
  rcases o with ⟨rfl,hgk,hfk,hrk,HE⟩ | ⟨rfl,hgk,HE⟩
  ·obtain ⟨f,rfl⟩:∃ f',f=f'+1:=⟨f-1,by omega⟩
   have z:=Ya s rs es.length a d i
   generalize hr:zC s rs es.length a d=r at *
   have j:Hid (R=if zZ s 59 r.k r.b=true then ⟨es.map Prod.fst++(r.es++(zx s f (rs++[r.rl]) (es.length+r.es.length) (zc s 59 r.k r.b) r.b).es),(zx s f (rs++[r.rl]) (es.length+r.es.length) (zc s 59 r.k r.b) r.b).rs,(zx s f (rs++[r.rl]) (es.length+r.es.length) (zc s 59 r.k r.b) r.b).k,(zx s f (rs++[r.rl]) (es.length+r.es.length) (zc s 59 r.k r.b) r.b).b⟩ else ⟨es.map Prod.fst++r.es,rs++[r.rl],zc s 59 r.k r.b,r.b⟩):=by
    show _=_
    rw [HE.out]
    simp only [zx,hr]
    split<;>rfl
   have K:Hid _:=hr
   clear HE hr
   go_wp2_with fail
   refine (zcg base B s a d ev' rv' es rs _ hs i J (by omega) l.out r K).mono ?_
   rintro e w2 ⟨rfl,q,m,new,g,y,C⟩
   have L:Hid _:=y
   have N:Hid _:=O.out.trans C
   have G:Hid ((es++new).map Prod.fst=es.map Prod.fst++r.es):=by show _=_;rw [List.map_append,g]
   have p:Hid (new.length=r.es.length):=by show _=_;rw [<- g,List.length_map]
   clear y C g
   go_wp2_with fail
   refine (qw base B s 59 r.k r.b q m _ _ _ hs z.2.1 (by decide) L.out).mono ?_
   rintro e w5 ⟨rfl,x,A⟩
   have F:Hid _:=x
   have I:Hid _:=N.out.trans A
   have X:=p.out
   have V:=zi s 59 r.k r.b
   have v:zc s 59 r.k r.b<=s.size:=zs (by decide) z.2.1
   clear x A
   cases ht:zZ s 59 r.k r.b with
   | true =>
    have U:r.k+1<=zc s 59 r.k r.b:=by
     unfold zc;rw [if_pos ht];have:=yg s r.k r.b;omega
    have u:Hid (R=⟨(es++new).map Prod.fst++(zx s f (rs++[r.rl]) (es++new).length (zc s 59 r.k r.b) r.b).es,(zx s f (rs++[r.rl]) (es++new).length (zc s 59 r.k r.b) r.b).rs,(zx s f (rs++[r.rl]) (es++new).length (zc s 59 r.k r.b) r.b).k,(zx s f (rs++[r.rl]) (es++new).length (zc s 59 r.k r.b) r.b).b⟩):=by
     show _=_
     have Y:(es++new).length=es.length+r.es.length:=by simp only [List.length_append];omega
     rw [j.out,if_pos ht,Y,G.out,List.append_assoc]
    clear j ht
    go_wp2_with fail
    go_roundg (f+1)
    case measure=>omega
    case rel=>exact ⟨f,zc s 59 r.k r.b,r.b,q,m,es++new,rs++[r.rl],v,by simp only [List.length_append];omega,by simp;omega,.inl ⟨rfl,rfl,by omega,by simp;omega,u⟩,F.out,I.out⟩
   | false =>
    have u:Hid (R=⟨(es++new).map Prod.fst,rs++[r.rl],zc s 59 r.k r.b,r.b⟩):=by
     show _=_
     rw [j.out,if_neg (by rw [ht];decide),G.out]
    clear j ht
    go_wp2_with fail
    go_roundg 0
    case measure=>omega
    case rel=>exact ⟨0,zc s 59 r.k r.b,r.b,q,m,es++new,rs++[r.rl],v,by simp only [List.length_append];omega,by simp;omega,.inr ⟨rfl,rfl,u⟩,F.out,I.out⟩
  ·have c0:=l.out.c0
   have c1:=l.out.c1
   have c2:=l.out.c2
   have Z:=l.out.fz 2
   by_cases E:a<s.size
   ·have D:(a:Int)<(s.size:Int):=by omega
    have P:Hid ((d || decide (a<s.size))=true):=by show _=_;rw [decide_eq_true E,Bool.or_true]
    go_wp2_with fail
    go_quiet (fail)
    go_wp2_with fail
    go_end0
    refine ⟨rfl,by rw [HE.out];exact i,by rw [HE.out];simp;omega,by rw [HE.out];show rs.length<=_;omega,ev',rv',es,by rw [HE.out],?_,(O.out.drewN _).trans ((l.out.drewN _).setMv 2 _)⟩
    rw [HE.out]
    simp only [P.out]
    exact (l.out.drewN _).bad true
   ·have D:¬ (a:Int)<(s.size:Int):=by omega
    have P:Hid ((d || decide (a<s.size))=d):=by show _=_;rw [decide_eq_false E,Bool.or_false]
    go_wp2_with fail
    go_quiet (fail)
    go_wp2_with fail
    go_end0
    refine ⟨rfl,by rw [HE.out];exact i,by rw [HE.out];simp;omega,by rw [HE.out];show rs.length<=_;omega,ev',rv',es,by rw [HE.out],?_,O.out.drewN _⟩
    rw [HE.out]
    simp only [P.out]
    exact l.out.drewN _
end
section
def FM (w:World) (F:Nat) (f:Int×Int):Prop:=w.heap[F]?=some (Q #[J Z f.1,J Z f.2] 106 (0,0))
structure FK (F:Nat) (w w':World):Prop where
 bel:Below F w w'
 kept:∀ b,b<w.heap.size->b≠F->w'.heap[b]?=w.heap[b]?
theorem FK.refl (F:Nat) (w:World):FK F w w:=⟨Below.refl _ _,fun _ _ _=>rfl⟩
theorem FK.trans {F:Nat} {w w1 w2:World} (h:FK F w w1) (k:FK F w1 w2):FK F w w2:=⟨h.bel.trans k.bel,fun b hb hne=>(k.kept b (Nat.lt_of_lt_of_le hb h.bel.size) hne).trans (h.kept b hb hne)⟩
theorem FK.drewN {F:Nat} {w w1:World} (h:FK F w w1) (n:Nat):FK F w (w1.drewN n):=⟨zS h.bel n,h.kept⟩
theorem FK.drew {F:Nat} {w w1:World} (h:FK F w w1):FK F w w1.drew:=⟨h.bel.drew,h.kept⟩
theorem FK.alloc {F:Nat} {w w1:World} (h:FK F w w1) (hF:F<=w1.heap.size) (o:Obj):FK F w (w1.alloc o):=⟨h.bel.alloc hF o,fun b hb hne=>(Below.heap_alloc _ _ _ (Nat.lt_of_lt_of_le hb h.bel.size)).trans (h.kept b hb hne)⟩
theorem FK.set {F:Nat} {w w1:World} (h:FK F w w1) (j:Nat) (u:Value):FK F w (w1.setCell ⟨F,j,none⟩ u):=⟨h.bel.setCell (Nat.le_refl _) u,fun b hb hne=>(za hne).trans (h.kept b hb hne)⟩
theorem FK.below {F:Nat} {w w1:World} (h:Below w.heap.size w w1) (hF:F<=w.heap.size):FK F w w1:=⟨h.mono hF,fun b hb _=>h.block b hb⟩
theorem FM.lt {w:World} {F:Nat} {f:Int×Int} (h:FM w F f):F<w.heap.size:=lt_of_block h
theorem FM.alloc {w:World} {F:Nat} {f:Int×Int} (h:FM w F f) (o:Obj):FM (w.alloc o) F f:=(Below.heap_alloc _ _ _ h.lt).trans h
theorem FM.c0 {w:World} {F:Nat} {f:Int×Int} (h:FM w F f):w.cell? ⟨F,0,none⟩=some (J Z f.1):=by unfold FM at h;simp [World.cell?,h]
theorem FM.c1 {w:World} {F:Nat} {f:Int×Int} (h:FM w F f):w.cell? ⟨F,1,none⟩=some (J Z f.2):=by unfold FM at h;simp [World.cell?,h]
theorem FM.fz {w:World} {F:Nat} {f:Int×Int} (h:FM w F f) (j:Nat):w.frozen? ⟨F,j,none⟩=false:=by unfold FM at h;simp [World.frozen?,h]
def fnd (f:Int×Int) (e a:Int):Int×Int:=if f.1=0\/a<f.2\/(a=f.2/\e<f.1) then (e,a) else f
def YK (f:Int×Int) (v a lo hi:Int):Int×Int:=if v<lo\/hi<v then fnd f 6 a else f
attribute [local go_sem] zV zH
theorem yX (F:Nat) (f:Int×Int) (e a:Int) (w:World) (h:FM w F f) (f':Int×Int) (hf:Hid (fnd f e a=f')) :
 Calls Tryz.prog 89 #[.pointer (some ⟨F,0,none⟩),J Z e,J Z a] w fun x w'=>x=.returned (.tuple #[])/\FM w' F f'/\FK F w w':=by
 have c0:=h.c0
 have c1:=h.c1
 have r:=h.fz 0
 have q:=h.fz 1
 have H:Hid _:=h
 clear h
 obtain ⟨j,k⟩:=f
 simp only at c0 c1
 have i:Hid (FM ((w.setCell ⟨F,0,none⟩ (J Z e)).setCell ⟨F,1,none⟩ (J Z a)) F (e,a)):=by
  have p:=H.out
  unfold FM at p
  show _=_
  simp [World.setCell,Array.getElem?_modify,p]
 by_cases b:j=0
 ·have n:(j==0)=true:=by simp [b]
  have d:Hid (f'=(e,a)):=by show _=_;rw [<- hf.out];unfold fnd;rw [if_pos (.inl b)]
  clear b
  go_enter Tryz.func89,Tryz.ntmps89
  go_wp2_with fail
  go_end0
  exact ⟨rfl,by rw [d.out];exact i.out,((FK.refl _ _).set _ _).set _ _⟩
 have n:(j==0)=false:=by simp [b]
 by_cases m:a<k
 ·have d:Hid (f'=(e,a)):=by show _=_;rw [<- hf.out];unfold fnd;rw [if_pos (.inr (.inl m))]
  clear b
  go_enter Tryz.func89,Tryz.ntmps89
  go_wp2_with fail
  go_end0
  exact ⟨rfl,by rw [d.out];exact i.out,((FK.refl _ _).set _ _).set _ _⟩
 by_cases g:a=k
 ·have l:(a==k)=true:=by simp [g]
  by_cases o:e<j
  ·have d:Hid (f'=(e,a)):=by show _=_;rw [<- hf.out];unfold fnd;rw [if_pos (.inr (.inr ⟨g,o⟩))]
   clear b g
   go_enter Tryz.func89,Tryz.ntmps89
   go_wp2_with fail
   go_end0
   exact ⟨rfl,by rw [d.out];exact i.out,((FK.refl _ _).set _ _).set _ _⟩
  ·have d:Hid (f'=(j,k)):=by show _=_;rw [<- hf.out];unfold fnd;rw [if_neg (fun h=>h.elim b (fun h=>h.elim m (fun h=>o h.2)))]
   clear b g
   go_enter Tryz.func89,Tryz.ntmps89
   go_wp2_with fail
   go_end0
   exact ⟨rfl,by rw [d.out];exact H.out,FK.refl _ _⟩
 ·have l:(a==k)=false:=by simp [g]
  have d:Hid (f'=(j,k)):=by show _=_;rw [<- hf.out];unfold fnd;rw [if_neg (fun h=>h.elim b (fun h=>h.elim m (fun h=>g h.1)))]
  clear b g
  go_enter Tryz.func89,Tryz.ntmps89
  go_wp2_with fail
  go_end0
  exact ⟨rfl,by rw [d.out];exact H.out,FK.refl _ _⟩
theorem ym (F:Nat) (f:Int×Int) (v a lo hi:Int) (w:World) (h:FM w F f) (f':Int×Int) (hf:Hid (YK f v a lo hi=f')) :
 Calls Tryz.prog 128 #[.pointer (some ⟨F,0,none⟩),.agg #[J Z v,J Z a],J Z lo,J Z hi] w fun x w'=>x=.returned (.tuple #[])/\FM w' F f'/\FK F w w':=by
 have H:Hid (FM (w.alloc (Q #[J Z v,J Z a] 141)) F f):=h.alloc _
 have g:Hid (FK F w (w.alloc (Q #[J Z v,J Z a] 141))):=(FK.refl _ _).alloc (Nat.le_of_lt h.lt) _
 clear h
 by_cases i:v<lo
 ·have d:Hid (fnd f 6 a=f'):=by show _=_;rw [<- hf.out];unfold YK;rw [if_pos (.inl i)]
  go_enter Tryz.func128,Tryz.ntmps128
  go_wp2_with fail
  refine (yX F f 6 a _ H.out f' d).mono ?_
  rintro x j ⟨rfl,b,e⟩
  go_wp2_with fail
  go_end0
  exact ⟨rfl,b,g.out.trans e⟩
 by_cases b:hi<v
 ·have d:Hid (fnd f 6 a=f'):=by show _=_;rw [<- hf.out];unfold YK;rw [if_pos (.inr b)]
  go_enter Tryz.func128,Tryz.ntmps128
  go_wp2_with fail
  refine (yX F f 6 a _ H.out f' d).mono ?_
  rintro x j ⟨rfl,b,e⟩
  go_wp2_with fail
  go_end0
  exact ⟨rfl,b,g.out.trans e⟩
 have d:Hid (f=f'):=by show _=_;rw [<- hf.out];unfold YK;rw [if_neg (fun h=>h.elim i b)]
 go_enter Tryz.func128,Tryz.ntmps128
 go_wp2_with fail
 go_end0
 exact ⟨rfl,by rw [<- d.out];exact H.out,g.out⟩
def IV (w:World) (v:Value) (l:List IM):Prop:=(v=O none 0 0/\l=[])\/∃ g cap,v=O (some ⟨g,0,none⟩) l.length cap/\l.length<=cap/\∀ i x,l[i]?=some x->w.cell? ⟨g,i*7,none⟩=some (J Z x.at_)/\w.cell? ⟨g,i*7+1,none⟩=some (J Z x.num)/\w.cell? ⟨g,i*7+2,none⟩=some (J Z x.pv)/\w.cell? ⟨g,i*7+3,none⟩=some (J Z x.pl)/\w.cell? ⟨g,i*7+4,none⟩=some (J Z x.wv)/\w.cell? ⟨g,i*7+5,none⟩=some (J Z x.wa)/\w.cell? ⟨g,i*7+6,none⟩=some (J Z x.arm)
def yv (y x:IM):Bool:=(y.num==x.num) && (y.pv==x.pv) && (y.pl==x.pl)
theorem jZ (v:Value) (x:IM) (l:List IM) (w:World) (hl:l.length<=100000) (h:IV w v l) :
 Calls Tryz.prog 129 #[v,.agg #[J Z x.at_,J Z x.num,J Z x.pv,J Z x.pl,J Z x.wv,J Z x.wa,J Z x.arm]] w fun e w'=>Below w.heap.size w w'/\e=.returned (.bool (l.any (fun y=>yv y x))):=by
 have a:∀ (i:Nat),i<l.length->∃ r,l[i]?=some r:=fun i hi=>⟨l[i],List.getElem?_eq_getElem hi⟩
 have u:Hid (Below w.heap.size w (w.alloc (Q #[J Z x.at_,J Z x.num,J Z x.pv,J Z x.pl,J Z x.wv,J Z x.wa,J Z x.arm] 155))):=(Below.refl _ _).alloc (Nat.le_refl _) _
 have D:Hid ((w.alloc (Q #[J Z x.at_,J Z x.num,J Z x.pv,J Z x.pl,J Z x.wv,J Z x.wa,J Z x.arm] 155)).heap[w.heap.size]?=some (Q #[J Z x.at_,J Z x.num,J Z x.pv,J Z x.pl,J Z x.wv,J Z x.wa,J Z x.arm] 155 (0,0))):=heap_alloc_new w _
 rcases h with ⟨rfl,rfl⟩ | ⟨g,cap,rfl,hcl,hc⟩
 ·go_enter Tryz.func129,Tryz.ntmps129
  go_wp2_with fail
  go_loopg [9] 1 (fun n y wr=>y=J Z 0/\wr=w.alloc (Q #[J Z x.at_,J Z x.num,J Z x.pv,J Z x.pl,J Z x.wv,J Z x.wa,J Z x.arm] 155))
  case atStart=>exact ⟨rfl,rfl⟩
  case round =>
   obtain ⟨rfl,rfl⟩:=hrel
   go_wp2_with fail
   go_ret
   exact ⟨u.out,rfl⟩
 ·have q:∀ i y,l[i]?=some y->g<w.heap.size:=fun i y f=>World.block_lt_of_cell? w ⟨g,i*7,none⟩ (hc i y f).1
  go_enter Tryz.func129,Tryz.ntmps129
  go_wp2_with fail
  go_loopg [9] l.length (fun n y wr=>∃ (j:Nat),n+j=l.length/\y=J Z j/\Hid ((l.take j).any (fun y=>yv y x)=false)/\Below w.heap.size w wr/\wr.heap[w.heap.size]?=some (Q #[J Z x.at_,J Z x.num,J Z x.pv,J Z x.pl,J Z x.wv,J Z x.wa,J Z x.arm] 155 (0,0)))
  case atStart=>exact ⟨0,by omega,rfl,by show _=_;simp,u.out,D.out⟩
  case round =>
   obtain ⟨j,hn,rfl,O,N,B⟩:=hrel
   have d:Hid _:=N
   have z:Hid _:=B
   have p:w.heap.size<wr.heap.size:=lt_of_block B
   clear N B
   by_cases C:j<l.length
   ·obtain ⟨y,f⟩:=a j C
    have R:(0:Int)<=(j:Int):=by omega
    have P:(j:Int)<(l.length:Int):=by omega
    obtain ⟨L,K,I,H,G,F,E⟩:=hc j y f
    have g0:=yq d.out L
    have g1:=yq d.out K
    have g2:=yq d.out I
    have g3:=yq d.out H
    have g4:=yq d.out G
    have g5:=yq d.out F
    have g6:=yq d.out E
    have S:=q j y f
    have Y:wr.cell? ⟨w.heap.size,1,none⟩=some (J Z x.num):=by simp [World.cell?,z.out]
    have X:wr.cell? ⟨w.heap.size,2,none⟩=some (J Z x.pv):=by simp [World.cell?,z.out]
    have W:wr.cell? ⟨w.heap.size,3,none⟩=some (J Z x.pl):=by simp [World.cell?,z.out]
    have s:Hid ((l.take (j+1)).any (fun y=>yv y x)=yv y x):=by
     show _=_
     rw [List.take_add_one,f,List.any_append,O.out]
     simp
    have V:Hid (yv y x=true->l.any (fun y=>yv y x)=true):=fun h=>List.any_eq_true.2 ⟨y,List.mem_of_getElem? f,h⟩
    have b:Hid (∀ o,Below w.heap.size w (wr.alloc o)):=fun o=>d.out.alloc (Nat.le_of_lt p) o
    have m:Hid (∀ o,(wr.alloc o).heap[w.heap.size]?=some (Q #[J Z x.at_,J Z x.num,J Z x.pv,J Z x.pl,J Z x.wv,J Z x.wa,J Z x.arm] 155 (0,0))):=fun o=>(Below.heap_alloc _ _ _ p).trans z.out
    have A:Hid (yv y x=((y.num==x.num) && (y.pv==x.pv) && (y.pl==x.pl))):=rfl
    clear L K I H G F E f hc a q
    cases e1:(y.num==x.num) with
    | false =>
     have k:Hid (yv y x=false):=by show _=_;rw [A.out,e1];rfl
     go_wp2_with fail
     go_roundg (gk-1)
     case measure=>omega
     case rel=>exact ⟨j+1,by omega,by go_num,by show _=_;rw [s.out,k.out],b.out _,m.out _⟩
    | true =>
     cases e2:(y.pv==x.pv) with
     | false =>
      have k:Hid (yv y x=false):=by show _=_;rw [A.out,e1,e2];rfl
      go_wp2_with fail
      go_roundg (gk-1)
      case measure=>omega
      case rel=>exact ⟨j+1,by omega,by go_num,by show _=_;rw [s.out,k.out],b.out _,m.out _⟩
     | true =>
      cases e3:(y.pl==x.pl) with
      | false =>
       have k:Hid (yv y x=false):=by show _=_;rw [A.out,e1,e2,e3];rfl
       go_wp2_with fail
       go_roundg (gk-1)
       case measure=>omega
       case rel=>exact ⟨j+1,by omega,by go_num,by show _=_;rw [s.out,k.out],b.out _,m.out _⟩
      | true =>
       have k:Hid (l.any (fun y=>yv y x)=true):=V.out (by rw [A.out,e1,e2,e3];rfl)
       go_wp2_with fail
       go_ret
       exact ⟨b.out _,by rw [k.out];rfl⟩
   ·have hd:¬ ((j:Int)<(l.length:Int)):=by omega
    have U:((l.length:Int))<=(j:Int):=by omega
    have s:Hid (l.any (fun y=>yv y x)=false):=by show _=_;have:=O.out;rwa [List.take_of_length_le (by omega)] at this
    go_wp2_with fail
    go_ret
    exact ⟨d.out,by rw [s.out];rfl⟩
end
section
def Y4 (c:Int) (x:IM) (f:Int×Int):Int×Int :=
 if c=123\/c=102 then YK f x.num x.at_ 0 63
 else if c=119 then YK (YK f x.num x.at_ 0 63) x.wv x.wa 1 1000
 else if c=103 then YK f x.num x.at_ 0 99
 else f
def X0 (e:EX) (f:Int×Int):Int×Int :=
 let f1:=if 12<=e.depth then fnd f 3 e.at_ else f
 if e.kind=116 then YK f1 e.nv e.na 1 86400
 else if e.kind=64 then YK f1 e.nv e.na 0 15
 else if e.kind=61 then (if e.inner=-1 then fnd f1 5 e.na else f1)
 else f1
attribute [local go_sem] zV zH
theorem xu (F:Nat) (f:Int×Int) (c:Int) (x:IM) (w:World) (h:FM w F f) (f':Int×Int) (hf:Hid (Y4 c x f=f')) :
 Calls Tryz.prog 130 #[.pointer (some ⟨F,0,none⟩),J .u8 c,.agg #[J Z x.at_,J Z x.num,J Z x.pv,J Z x.pl,J Z x.wv,J Z x.wa,J Z x.arm]] w fun e w'=>e=.returned (.tuple #[])/\FM w' F f'/\FK F w w':=by
 have H:Hid (FM ((w.alloc (Q #[J Z x.at_,J Z x.num,J Z x.pv,J Z x.pl,J Z x.wv,J Z x.wa,J Z x.arm] 155)).alloc (Q #[J Z x.num,J Z x.at_] 141)) F f):=(h.alloc _).alloc _
 have k:Hid (FK F w ((w.alloc (Q #[J Z x.at_,J Z x.num,J Z x.pv,J Z x.pl,J Z x.wv,J Z x.wa,J Z x.arm] 155)).alloc (Q #[J Z x.num,J Z x.at_] 141))):=((FK.refl _ _).alloc (Nat.le_of_lt h.lt) _).alloc (by have:=h.lt;simp;omega) _
 have p:=fun w=>QK x.num x.at_ w
 have q:=h.lt
 have n:w.heap.size≠F:=by omega
 have s:Hid (((w.alloc (Q #[J Z x.at_,J Z x.num,J Z x.pv,J Z x.pl,J Z x.wv,J Z x.wa,J Z x.arm] 155)).alloc (Q #[J Z x.num,J Z x.at_] 141)).heap[w.heap.size]?=some (Q #[J Z x.at_,J Z x.num,J Z x.pv,J Z x.pl,J Z x.wv,J Z x.wa,J Z x.arm] 155 (0,0))):=(Below.heap_alloc _ _ _ (by simp)).trans (heap_alloc_new w _)
 clear h
 by_cases m:c=123
 ·subst m
  have d:Hid _:=hf
  go_enter Tryz.func130,Tryz.ntmps130
  go_wp2_with fail
  refine (ym F f x.num x.at_ 0 63 _ H.out f' d).mono ?_
  rintro e j ⟨rfl,a,b⟩
  go_wp2_with fail
  go_end0
  exact ⟨rfl,a,k.out.trans b⟩
 by_cases a:c=102
 ·subst a
  have d:Hid _:=hf
  go_enter Tryz.func130,Tryz.ntmps130
  go_wp2_with fail
  refine (ym F f x.num x.at_ 0 63 _ H.out f' d).mono ?_
  rintro e j ⟨rfl,a,b⟩
  go_wp2_with fail
  go_end0
  exact ⟨rfl,a,k.out.trans b⟩
 by_cases i:c=103
 ·subst i
  have d:Hid _:=hf
  go_enter Tryz.func130,Tryz.ntmps130
  go_wp2_with fail
  refine (ym F f x.num x.at_ 0 99 _ H.out f' d).mono ?_
  rintro e j ⟨rfl,a,b⟩
  go_wp2_with fail
  go_end0
  exact ⟨rfl,a,k.out.trans b⟩
 by_cases l:c=119
 ·subst l
  have d:Hid _:=hf
  go_enter Tryz.func130,Tryz.ntmps130
  go_wp2_with fail
  refine (ym F f x.num x.at_ 0 63 _ H.out _ rfl).mono ?_
  rintro e j ⟨rfl,a,b⟩
  have u:Hid _:=a
  have r:Hid _:=k.out.trans b
  have g:=(b.kept w.heap.size (by simp;omega) n).trans s.out
  have y:j.cell? ⟨w.heap.size,4,none⟩=some (J Z x.wv):=by simp [World.cell?,g]
  have v:j.cell? ⟨w.heap.size,5,none⟩=some (J Z x.wa):=by simp [World.cell?,g]
  clear a b g
  go_wp2_with fail
  refine (ym F _ x.wv x.wa 1 1000 _ u.out f' d).mono ?_
  rintro e z ⟨rfl,i,o⟩
  go_wp2_with fail
  go_end0
  exact ⟨rfl,i,r.out.trans o⟩
 have D:(c==123)=false:=by simp [m]
 have C:(c==102)=false:=by simp [a]
 have B:(c==103)=false:=by simp [i]
 have A:(c==119)=false:=by simp [l]
 have d:Hid (f=f'):=by show _=_;rw [<- hf.out];simp [Y4,m,a,i,l]
 clear m a i l
 go_enter Tryz.func130,Tryz.ntmps130
 go_wp2_with fail
 go_end0
 exact ⟨rfl,by rw [<- d.out];exact H.out,k.out⟩
theorem zbE (F:Nat) (f:Int×Int) (e:EX) (vo:Option Addr) (vm vc:Nat) (w:World) (h:FM w F f) (f':Int×Int) (hf:Hid (X0 e f=f')) :
 Calls Tryz.prog 90 #[.pointer (some ⟨F,0,none⟩),.agg #[J .u8 e.kind,J Z e.at_,J Z e.depth,J Z e.nv,J Z e.na,O vo vm vc,J Z e.inner]] w fun r w'=>r=.returned (.tuple #[])/\FM w' F f'/\FK F w w':=by
 have H:Hid (FM (w.alloc (Q #[J .u8 e.kind,J Z e.at_,J Z e.depth,J Z e.nv,J Z e.na,O vo vm vc,J Z e.inner] 148)) F f):=h.alloc _
 have s:Hid (FK F w (w.alloc (Q #[J .u8 e.kind,J Z e.at_,J Z e.depth,J Z e.nv,J Z e.na,O vo vm vc,J Z e.inner] 148))):=(FK.refl _ _).alloc (Nat.le_of_lt h.lt) _
 have L:Hid ((w.alloc (Q #[J .u8 e.kind,J Z e.at_,J Z e.depth,J Z e.nv,J Z e.na,O vo vm vc,J Z e.inner] 148)).heap[w.heap.size]?=some (Q #[J .u8 e.kind,J Z e.at_,J Z e.depth,J Z e.nv,J Z e.na,O vo vm vc,J Z e.inner] 148 (0,0))):=heap_alloc_new w _
 have K:=h.lt
 have A:w.heap.size≠F:=by omega
 clear h
 by_cases E:12<=e.depth
 ·obtain ⟨j,o⟩:∃ j,fnd f 3 e.at_=j:=⟨_,rfl⟩
  have g:Hid ((if e.kind=116 then YK j e.nv e.na 1 86400 else if e.kind=64 then YK j e.nv e.na 0 15 else if e.kind=61 then (if e.inner=-1 then fnd j 5 e.na else j) else j)=f'):=by show _=_;rw [<- hf.out,<- o];simp [X0,E]
  have D:Hid _:=o
  clear o
  go_enter Tryz.func90,Tryz.ntmps90
  go_wp2_with fail
  refine (yX F f 3 e.at_ _ H.out j D).mono ?_
  rintro r y ⟨rfl,G,z⟩
  have x:Hid _:=G
  have v:Hid _:=s.out.trans z
  have m:=(z.kept w.heap.size (by simp) A).trans L.out
  clear G z
  have S:y.cell? ⟨w.heap.size,0,none⟩=some (J .u8 e.kind):=by simp [World.cell?,m]
  have R:y.cell? ⟨w.heap.size,3,none⟩=some (J Z e.nv):=by simp [World.cell?,m]
  have P:y.cell? ⟨w.heap.size,4,none⟩=some (J Z e.na):=by simp [World.cell?,m]
  have N:y.cell? ⟨w.heap.size,6,none⟩=some (J Z e.inner):=by simp [World.cell?,m]
  clear m
  by_cases a:e.kind=116
  ·have i:Hid (YK j e.nv e.na 1 86400=f'):=by show _=_;rw [<- g.out];simp [a]
   have q:(e.kind==116)=true:=by simp [a]
   have p:(e.kind==64)=false:=by simp [a]
   clear a
   go_wp2_with fail
   refine (ym F j e.nv e.na 1 86400 _ x.out f' i).mono ?_
   rintro r u ⟨rfl,n,l⟩
   go_wp2_with fail
   go_end0
   exact ⟨rfl,n,v.out.trans l⟩
  by_cases d:e.kind=64
  ·have i:Hid (YK j e.nv e.na 0 15=f'):=by show _=_;rw [<- g.out];simp [d]
   have q:(e.kind==116)=false:=by simp [d]
   have p:(e.kind==64)=true:=by simp [d]
   clear d
   go_wp2_with fail
   refine (ym F j e.nv e.na 0 15 _ x.out f' i).mono ?_
   rintro r u ⟨rfl,n,l⟩
   go_wp2_with fail
   go_end0
   exact ⟨rfl,n,v.out.trans l⟩
  by_cases b:e.kind=61
  ·have q:(e.kind==116)=false:=by simp [b]
   have p:(e.kind==64)=false:=by simp [b]
   have C:(e.kind==61)=true:=by simp [b]
   by_cases k:e.inner=-1
   ·have i:Hid (fnd j 5 e.na=f'):=by show _=_;rw [<- g.out];simp [b,k]
    have B:(e.inner==-1)=true:=by simp [k]
    clear k b
    go_wp2_with fail
    refine (yX F j 5 e.na _ x.out f' i).mono ?_
    rintro r u ⟨rfl,n,l⟩
    go_wp2_with fail
    go_end0
    exact ⟨rfl,n,v.out.trans l⟩
   ·have i:Hid (j=f'):=by show _=_;rw [<- g.out];simp [b,k]
    have B:(e.inner==-1)=false:=by simp [k]
    clear k b
    go_wp2_with fail
    go_end0
    exact ⟨rfl,by rw [<- i.out];exact x.out,v.out⟩
  have q:(e.kind==116)=false:=by simp [a]
  have p:(e.kind==64)=false:=by simp [d]
  have C:(e.kind==61)=false:=by simp [b]
  have i:Hid (j=f'):=by show _=_;rw [<- g.out];simp [b,d,a]
  clear b d a
  go_wp2_with fail
  go_end0
  exact ⟨rfl,by rw [<- i.out];exact x.out,v.out⟩
 ·have I:e.depth<12:=by omega
  have g:Hid ((if e.kind=116 then YK f e.nv e.na 1 86400 else if e.kind=64 then YK f e.nv e.na 0 15 else if e.kind=61 then (if e.inner=-1 then fnd f 5 e.na else f) else f)=f'):=by show _=_;rw [<- hf.out];simp [X0,E]
  by_cases a:e.kind=116
  ·have i:Hid (YK f e.nv e.na 1 86400=f'):=by show _=_;rw [<- g.out];simp [a]
   have q:(e.kind==116)=true:=by simp [a]
   have p:(e.kind==64)=false:=by simp [a]
   clear a
   go_enter Tryz.func90,Tryz.ntmps90
   go_wp2_with fail
   refine (ym F f e.nv e.na 1 86400 _ H.out f' i).mono ?_
   rintro r u ⟨rfl,n,l⟩
   go_wp2_with fail
   go_end0
   exact ⟨rfl,n,s.out.trans l⟩
  by_cases d:e.kind=64
  ·have i:Hid (YK f e.nv e.na 0 15=f'):=by show _=_;rw [<- g.out];simp [d]
   have q:(e.kind==116)=false:=by simp [d]
   have p:(e.kind==64)=true:=by simp [d]
   clear d
   go_enter Tryz.func90,Tryz.ntmps90
   go_wp2_with fail
   refine (ym F f e.nv e.na 0 15 _ H.out f' i).mono ?_
   rintro r u ⟨rfl,n,l⟩
   go_wp2_with fail
   go_end0
   exact ⟨rfl,n,s.out.trans l⟩
  by_cases b:e.kind=61
  ·have q:(e.kind==116)=false:=by simp [b]
   have p:(e.kind==64)=false:=by simp [b]
   have C:(e.kind==61)=true:=by simp [b]
   by_cases k:e.inner=-1
   ·have i:Hid (fnd f 5 e.na=f'):=by show _=_;rw [<- g.out];simp [b,k]
    have B:(e.inner==-1)=true:=by simp [k]
    clear k b
    go_enter Tryz.func90,Tryz.ntmps90
    go_wp2_with fail
    refine (yX F f 5 e.na _ H.out f' i).mono ?_
    rintro r u ⟨rfl,n,l⟩
    go_wp2_with fail
    go_end0
    exact ⟨rfl,n,s.out.trans l⟩
   ·have i:Hid (f=f'):=by show _=_;rw [<- g.out];simp [b,k]
    have B:(e.inner==-1)=false:=by simp [k]
    clear k b
    go_enter Tryz.func90,Tryz.ntmps90
    go_wp2_with fail
    go_end0
    exact ⟨rfl,by rw [<- i.out];exact H.out,s.out⟩
  have q:(e.kind==116)=false:=by simp [a]
  have p:(e.kind==64)=false:=by simp [d]
  have C:(e.kind==61)=false:=by simp [b]
  have i:Hid (f=f'):=by show _=_;rw [<- g.out];simp [b,d,a]
  clear b d a
  go_enter Tryz.func90,Tryz.ntmps90
  go_wp2_with fail
  go_end0
  exact ⟨rfl,by rw [<- i.out];exact H.out,s.out⟩
end
end Go.Proofs.YtaebngpoagjafabGreat
