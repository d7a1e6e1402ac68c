import Derived.Test.YtaebngpoagjafaaJ23
import Derived.BigRegion
import Derived.Deep.DeepCutAuto
import Derived.Deep.Strs
import Derived.Deep.WholeRow
import Derived.Laws.Cover3
set_option maxRecDepth 100000
set_option maxHeartbeats 6400000
namespace Go.Proofs.Ytaebngpoagjafaa
open Value renaming int → J
open IntKind renaming i64 → Z
open Go.RowKit
attribute [local go_sem ↓] Go.wp_at_zero Go.wp_at_succ
theorem Zk {n:Int} (h0:-9223372036854775808<=n) (h1:n<=9223372036854775807):IntKind.i64.wrap n=n:=by
 rw [IntKind.wrap_i64];omega
theorem ld6 {w w':World} {B:Nat} {a b c d e f:Value} {t:TypeId} {fr:Nat×Nat} (h:w.heap[B]?=some (.cells #[a,b,c,d,e,f] t fr)) (hk:w'.heap[B]?=w.heap[B]?):w'.cell? ⟨B,0,none⟩=some a/\w'.cell? ⟨B,1,none⟩=some b/\w'.cell? ⟨B,2,none⟩=some c/\w'.cell? ⟨B,3,none⟩=some d/\w'.cell? ⟨B,4,none⟩=some e/\w'.cell? ⟨B,5,none⟩=some f:=by
 have h':=hk.trans h
 refine ⟨?_,?_,?_,?_,?_,?_⟩<;>(rw [cell_of_row _ _ _ _ _ _ h'];rfl)
theorem ld3 {w:World} {B:Nat} {a b c:Value} {t:TypeId} (h:w.heap[B]?=some (.cells #[a,b,c] t (0,0))):w.cell? ⟨B,0,none⟩=some a/\w.cell? ⟨B,1,none⟩=some b/\w.cell? ⟨B,2,none⟩=some c/\w.frozen? ⟨B,0,none⟩=false/\w.frozen? ⟨B,1,none⟩=false/\w.frozen? ⟨B,2,none⟩=false:=by
 refine ⟨?_,?_,?_,?_,?_,?_⟩
 all_goals first | (rw [cell_of_row _ _ _ _ _ _ h];rfl) | simp [World.frozen?,h]
section
def dgL (n:Nat):List Int:=if n<10 then [48+(n:Int)] else [48+((n / 10:Nat):Int),48+((n%10:Nat):Int)]
structure MB where
 s:Nat
 v:Nat
 dn:Bool
def itT (c:Int) (m:MB):List Int:=if c=119 then dgL m.s++42::dgL m.v else dgL m.s
def TxA (t:ByteArray) (k:Nat) (x:List Int):Prop:=∀ i,i<x.length->T.ch t (k+i)=(x[i]?).getD (-1)
theorem Zc (c:Int) (x:List Int) {l:List (List Int)} (h:l≠[]):joi c (x::l)=x++[c]++joi c l:=by
 cases l with
 | nil=>exact absurd rfl h
 | cons y r=>rfl
section
variable {t:ByteArray} {k:Nat}
theorem TxA.left {x y:List Int} (h:TxA t k (x++y)):TxA t k x:=fun i hi=>by
 rw [h i (by simp;omega),List.getElem?_append_left hi]
theorem TxA.right {x y:List Int} (h:TxA t k (x++y)):TxA t (k+x.length) y:=fun i hi=>by
 have:=h (x.length+i) (by simp;omega)
 rw [List.getElem?_append_right (by omega),Nat.add_sub_cancel_left] at this
 rw [Nat.add_assoc];exact this
theorem TxA.head {c:Int} {x:List Int} (h:TxA t k (c::x)):T.ch t k=c/\TxA t (k+1) x:=by
 refine ⟨by have:=h 0 (by simp);simpa using this,fun i hi=>?_⟩
 have:=h (i+1) (by simp;omega)
 rw [List.getElem?_cons_succ] at this
 rw [Nat.add_assoc,Nat.add_comm 1 i];exact this
theorem jS {L:List Int} (h:Byt L):TxA (strOfNums L) 0 L:=fun i _=>by rw [Nat.zero_add,xO h]
theorem yq {c:Int} (h:T.ch t k=c) (h0:0<=c):k<t.size/\zd t k false=c:=by
 have hk:k<t.size:=by
  cases Nat.lt_or_ge k t.size with
  | inl h=>exact h
  | inr hk=>rw [T.ch_ge (by omega)] at h;omega
 exact ⟨hk,by simp [zd,hk,h]⟩
theorem yp {c:Int} (h:T.ch t k=c) (hb:T.bl c=false):za t k false=k:=by
 simp only [za,Bool.false_eq_true,if_false]
 exact T.sk_here (by rw [h];exact hb)
theorem Zl {c:Int} (h:T.ch t k=c) (h0:0<=c) (hb:T.bl c=false):zI t c k false=true/\zb t c k false=k+1/\zi t c k false=false:=by
 have e:zI t c k false=true:=by unfold zI;rw [yp h hb,(yq h h0).2];simp
 unfold zb zi
 rw [e,yp h hb]
 exact ⟨rfl,rfl,rfl⟩
theorem QB {c c':Int} (h:T.ch t k=c') (h0:0<=c') (hb:T.bl c'=false) (hc:c'≠c):zI t c k false=false/\zb t c k false=k:=by
 have e:zI t c k false=false:=by unfold zI;rw [yp h hb,(yq h h0).2];simp [hc]
 unfold zb
 rw [e,yp h hb]
 exact ⟨rfl,rfl⟩
theorem jh {c:Int} (h:48<=c/\c<=57):T.dig c=true/\T.bl c=false:=by
 simp only [T.dig,T.bl,Bool.and_eq_true,decide_eq_true_eq,Bool.or_eq_false_iff,beq_eq_false_iff_ne]
 omega
theorem X9 {n:Nat} (hn:n<100) (h:TxA t k (dgL n)) (hd:T.dig (zd t (k+(dgL n).length) false)=false):za t k false=k/\zh t k false=k+(dgL n).length/\zo t k false=false/\zD t k false=n:=by
 unfold dgL at h hd ⊢
 by_cases h10:n<10
 ·rw [if_pos h10] at h hd ⊢
  obtain ⟨h1,_⟩:=h.head
  obtain ⟨d1,b1⟩:=jh (c:=48+(n:Int)) (by omega)
  have hs:=yp h1 b1
  have hh:=(yq h1 (by omega)).2
  simp only [List.length_singleton] at hd ⊢
  have hk:zh t k false=k+1:=by
   unfold zh nmE nmL
   rw [hs,hh]
   split
   ·simp only [nmF];rw [hh,d1];rfl
   ·simp only [nmF];rw [hh,d1,hd];rfl
  refine ⟨hs,hk,by unfold zo;rw [hk,hs,if_neg (by omega)],?_⟩
  unfold zD
  rw [hk,hs,Nat.add_sub_cancel_left]
  simp only [vl,Nat.add_zero]
  rw [h1]
  omega
 ·rw [if_neg h10] at h hd ⊢
  obtain ⟨h1,h2⟩:=h.head
  obtain ⟨h2,_⟩:=h2.head
  obtain ⟨d1,b1⟩:=jh (c:=48+((n / 10:Nat):Int)) (by omega)
  obtain ⟨d2,b2⟩:=jh (c:=48+((n%10:Nat):Int)) (by omega)
  have hs:=yp h1 b1
  have hh:=(yq h1 (by omega)).2
  have hh2:=(yq h2 (by omega)).2
  simp only [List.length_cons,List.length_nil,Nat.zero_add] at hd ⊢
  have hk:zh t k false=k+(1+1):=by
   unfold zh nmE nmL
   rw [hs,hh,if_neg (by omega)]
   simp only [nmF]
   rw [hh,d1,hh2,d2,show k+1+1=k+(1+1) by omega,hd]
   rfl
  refine ⟨hs,hk,by unfold zo;rw [hk,hs,if_neg (by omega)],?_⟩
  unfold zD
  rw [hk,hs,Nat.add_sub_cancel_left]
  simp only [vl,Nat.add_zero]
  rw [h1,h2]
  omega
def IMs (c:Int) (y:MB) (x:IM):Prop:=x.num=y.s/\x.pv=0/\x.pl=0/\x.arm=-1/\(c=119->x.wv=y.v)
theorem QG {e:Int} (h:e=44\/e=124\/e=125\/e=42):T.dig e=false/\T.bl e=false/\0<=e:=by
 rcases h with rfl | rfl | rfl | rfl<;>exact ⟨rfl,rfl,by decide⟩
theorem qy {ex:Int->Nat->Nat->Bool->CR} {c d:Int} {m:Nat} {y:MB} {e:Int} (hc:c=119\/c=102\/c=123) (hs:y.s<100) (hv:y.v<100) (h:TxA t k (itT c y)) (he:T.ch t (k+(itT c y).length)=e) (hE:e=44\/e=124\/e=125\/e=42) :
 ∃ x,zq ex t c d m k false=⟨x,[],k+(itT c y).length,false⟩/\IMs c y x:=by
 obtain ⟨e1,e2,e3⟩:=QG hE
 by_cases h119:c=119
 ·have hit:itT c y=dgL y.s++42::dgL y.v:=by unfold itT;rw [if_pos h119]
  rw [hit] at h he ⊢
  obtain ⟨h42,hB⟩:=h.right.head
  have ha:=X9 hs h.left (by rw [(yq h42 (by decide)).2];rfl)
  have hlen:k+(dgL y.s++42::dgL y.v).length=k+(dgL y.s).length+1+(dgL y.v).length:=by simp;omega
  rw [hlen] at he ⊢
  have hb:=X9 hv hB (by rw [(yq he e3).2];exact e1)
  obtain ⟨t1,t2,t3⟩:=Zl h42 (by decide) rfl
  unfold zq
  simp only
  rw [if_neg (by omega),if_neg (by omega),if_pos h119,ha.1,ha.2.1,ha.2.2.1,t2,t3,hb.2.1,hb.2.2.1,ha.2.2.2,hb.2.2.2]
  exact ⟨_,rfl,rfl,rfl,rfl,rfl,fun _=>rfl⟩
 ·have hit:itT c y=dgL y.s:=by unfold itT;rw [if_neg h119]
  rw [hit] at h he ⊢
  have ha:=X9 hs h (by rw [(yq he e3).2];exact e1)
  unfold zq
  simp only
  rw [if_neg (by omega),if_neg (by omega),if_neg h119,ha.1,ha.2.1,ha.2.2.1,ha.2.2.2]
  exact ⟨_,rfl,rfl,rfl,rfl,rfl,fun h=>absurd h h119⟩
def IMl (c:Int) (l:List MB) (ims:List IM):Prop:=ims.length=l.length/\∀ (i:Nat) (x:IM) (y:MB),ims[i]?=some x->l[i]?=some y->IMs c y x
theorem IMl.cons {c:Int} {l:List MB} {ims:List IM} {x:IM} {y:MB} (h:IMl c l ims) (hx:IMs c y x):IMl c (y::l) (x::ims):=by
 refine ⟨by simp [h.1],fun i a b ha hb=>?_⟩
 cases i with
 | zero=>simp at ha hb;subst ha hb;exact hx
 | succ i=>simp at ha hb;exact h.2 i a b ha hb
theorem XD {ex:Int->Nat->Nat->Bool->CR} {c d:Int} (hc:c=119\/c=102\/c=123) {e:Int} (hE:e=124\/e=125):∀ (l:List MB) (N m k:Nat),l≠[]->l.length<=N->(∀ y∈l,y.s<100/\y.v<100)->TxA t k (joi 44 (l.map (itT c)))->T.ch t (k+(joi 44 (l.map (itT c))).length)=e ->
 ∃ ims,zf ex t c d N m k false=⟨ims,[],k+(joi 44 (l.map (itT c))).length,false⟩/\IMl c l ims:=by
 intro l
 induction l with
 | nil=>intro N m k h;exact absurd rfl h
 | cons y l ih =>
  intro N m k _ hN hy hT he
  obtain ⟨N,rfl⟩:∃ n,N=n+1:=⟨N-1,by simp at hN;omega⟩
  have hy0:=hy y (by simp)
  by_cases hl:l=[]
  ·subst hl
   simp only [List.map_cons,List.map_nil,joi] at hT he ⊢
   obtain ⟨x,hx,hs⟩:=qy (ex:=ex) (d:=d) (m:=m) hc hy0.1 hy0.2 hT he (by omega)
   obtain ⟨e1,e2,e3⟩:=QG (e:=e) (by omega)
   obtain ⟨t1,t2⟩:=QB (c:=44) he e3 e2 (by omega)
   simp only [zf]
   rw [hx]
   simp only
   rw [t1,t2]
   exact ⟨[x],rfl,rfl,fun i a b ha hb=>by
    cases i with
    | zero=>simp at ha hb;subst ha hb;exact hs
    | succ i=>simp at ha⟩
  ·have hj:joi 44 ((y::l).map (itT c))=itT c y++44::joi 44 (l.map (itT c)):=by
    rw [List.map_cons,Zc 44 _ (by simpa using hl)]
    simp
   rw [hj] at hT he ⊢
   obtain ⟨h44,hR⟩:=hT.right.head
   obtain ⟨x,hx,hs⟩:=qy (ex:=ex) (d:=d) (m:=m) hc hy0.1 hy0.2 hT.left h44 (by omega)
   obtain ⟨t1,t2,_⟩:=Zl h44 (by decide) rfl
   have hlen:k+(itT c y++44::joi 44 (l.map (itT c))).length=k+(itT c y).length+1+(joi 44 (l.map (itT c))).length:=by simp;omega
   rw [hlen] at he ⊢
   obtain ⟨ims,hi,hS⟩:=ih N m (k+(itT c y).length+1) hl (by simp at hN;omega) (fun z hz=>hy z (by simp [hz])) hR he
   simp only [zf]
   rw [hx]
   simp only
   rw [t1,t2]
   simp only [if_true,List.length_nil,Nat.add_zero,List.nil_append]
   rw [hi]
   exact ⟨x::ims,rfl,hS.cons hs⟩
end
end
def pfJ (c:Int) (l:List MB):List Int:=joi 44 (l.map (itT c))
def pfL (c:Int) (l:List MB):List Int:=[97,58,c,40]++(pfJ c l++[124,123,54,51,125,41])
def pfT (c:Int) (l:List MB):ByteArray:=strOfNums (pfL c l)
structure Xf (l:List MB):Prop where
 ne:l≠[]
 le:l.length<=16
 sv:∀ m∈l,m.s<63
 wt:∀ m∈l,1<=m.v/\m.v<=9
 one:(l.map MB.s).Nodup
theorem Jo {n:Nat} (h:n<100):∀ x∈dgL n,48<=x/\x<=57:=by
 unfold dgL
 intro x hx
 split at hx
 ·simp at hx;omega
 ·simp at hx;omega
theorem YH (n:Nat):1<=(dgL n).length/\(dgL n).length<=2:=by unfold dgL;split<;>simp
theorem Ji (c:Int) (m:MB):1<=(itT c m).length/\(itT c m).length<=5:=by
 have h1:=YH m.s
 have h2:=YH m.v
 unfold itT
 split
 ·simp;omega
 ·omega
theorem Q4:∀ (l:List (List Int)),(∀ x∈l,1<=x.length/\x.length<=5)->l.length<=(joi 44 l).length/\(joi 44 l).length<=6*l.length:=by
 intro l
 induction l with
 | nil=>intro _;simp [joi]
 | cons x l ih =>
  intro h
  have hx:=h x (by simp)
  by_cases hl:l=[]
  ·subst hl;simp only [joi,List.length_cons,List.length_nil];omega
  ·rw [Zc 44 _ hl]
   have:=ih (fun y hy=>h y (by simp [hy]))
   simp only [List.length_append,List.length_cons,List.length_nil]
   omega
theorem xU (c:Int) (l:List MB):l.length<=(pfJ c l).length/\(pfJ c l).length<=6*l.length:=by
 have:=Q4 (l.map (itT c)) (fun x hx=>by obtain ⟨m,_,rfl⟩:=List.mem_map.1 hx;exact Ji c m)
 rw [List.length_map] at this
 exact this
theorem Q5:∀ (l:List (List Int)),(∀ x∈l,Byt x)->Byt (joi 44 l):=by
 intro l
 induction l with
 | nil=>intro _ x hx;simp [joi] at hx
 | cons x l ih =>
  intro h
  by_cases hl:l=[]
  ·subst hl;simp only [joi];exact h x (by simp)
  ·rw [Zc 44 _ hl]
   exact ((h x (by simp)).app (fun y hy=>by simp at hy;omega)).app (ih (fun y hy=>h y (by simp [hy])))
theorem j7 {c:Int} {l:List MB} (hc:c=119\/c=102) (h:∀ m∈l,m.s<100/\m.v<100):Byt (pfL c l):=by
 have hd:∀ n,n<100->Byt (dgL n):=fun n hn x hx=>by have:=Jo hn x hx;omega
 refine Byt.app (fun x hx=>by simp at hx;omega) (Byt.app (Q5 _ (fun x hx=>?_)) (fun x hx=>by simp at hx;omega))
 obtain ⟨m,hm,rfl⟩:=List.mem_map.1 hx
 obtain ⟨h1,h2⟩:=h m hm
 unfold itT
 split
 ·exact (hd _ h1).app (fun y hy=>by
   rcases List.mem_cons.1 hy with rfl | hy
   ·omega
   ·exact hd _ h2 y hy)
 ·exact hd _ h1
theorem Xu (c:Int) (l:List MB):(pfT c l).size=(pfJ c l).length+10:=by
 unfold pfT pfL
 rw [strOfNums_size]
 simp only [List.length_append,List.length_cons,List.length_nil]
 omega
structure PfA (c:Int) (l:List MB) (E:List EX) (ims i0:List IM) (e0 e1:EX):Prop where
 es:E=[e0,e1]
 k0:e0.kind=123
 d0:e0.depth=1
 t0:e0.items=i0
 n0:e0.inner=-1
 k1:e1.kind=c
 d1:e1.depth=0
 t1:e1.items=ims
 n1:e1.inner=0
 il:IMl c l ims
 i6:IMl 123 [⟨63,1,false⟩] i0
theorem X7 {c:Int} {l:List MB} (hc:c=119\/c=102) (hl:l≠[]) (hm:∀ m∈l,m.s<100/\m.v<100):∃ E ims i0 e0 e1 r,zx (pfT c l)=⟨E,[r],(pfT c l).size,false⟩/\PfA c l E ims i0 e0 e1:=by
 have hT:TxA (pfT c l) 0 (pfL c l):=jS (j7 hc hm)
 have hsz:=Xu c l
 have hjl:=(xU c l).1
 unfold pfL at hT
 generalize pfT c l=t at *
 have hT4:=hT.left
 obtain ⟨c0,hT4⟩:=hT4.head
 obtain ⟨c1,hT4⟩:=hT4.head
 obtain ⟨c2,hT4⟩:=hT4.head
 obtain ⟨c3,_⟩:=hT4.head
 have hTJ:=hT.right.left
 have hTE:=hT.right.right
 simp only [List.length_cons,List.length_nil,Nat.zero_add,show 0+(1+1+1+1)=4 from rfl] at hTJ hTE
 obtain ⟨p0,hTE⟩:=hTE.head
 obtain ⟨p1,hTE⟩:=hTE.head
 have hT6:TxA t (4+(pfJ c l).length+1+1) ([54,51]++[125,41]):=hTE
 have h63:=hT6.left
 obtain ⟨p4,hTE⟩:=hT6.right.head
 obtain ⟨p5,_⟩:=hTE.head
 simp only [List.length_cons,List.length_nil,Nat.zero_add] at p4 p5
 have hbc:T.bl c=false/\0<=c:=by rcases hc with rfl | rfl<;>exact ⟨rfl,by decide⟩
 have hend:4+(pfJ c l).length+1+1+(1+1)+1+1=t.size:=by omega
 -- the expression behind the bar
 have hin:∀ n,∃ i0,cE t [] (n+1) 1 0 (4+(pfJ c l).length+1) false=⟨(0:Nat),[⟨123,(4+(pfJ c l).length+1:Nat),1,0,0,i0,-1⟩],4+(pfJ c l).length+1+1+(1+1)+1,false⟩/\IMl 123 [⟨63,1,false⟩] i0:=fun n=>by
  have hs:=yp p1 rfl
  have hh:=(yq p1 (by decide)).2
  obtain ⟨i0,hi,hI⟩:=XD (t:=t) (ex:=cE t [] n) (c:=123) (d:=1) (.inr (.inr rfl)) (e:=125) (.inr rfl) [⟨63,1,false⟩] (t.size+1-(4+(pfJ c l).length+1+1)) 0 (4+(pfJ c l).length+1+1) (by simp) (by simp;omega) (fun y hy=>by simp at hy;subst hy;exact ⟨by decide,by decide⟩) h63 p4
  have hj2:(joi 44 (([⟨63,1,false⟩]:List MB).map (itT 123))).length=1+1:=rfl
  rw [hj2] at hi
  obtain ⟨t1,t2,t3⟩:=Zl p4 (by decide) rfl
  refine ⟨i0,?_,hI⟩
  rw [Z3 n 1 0 _ false (by rw [hs,hh]),hs,hi]
  simp only
  rw [t2,t3]
  rfl
 obtain ⟨ims,hi,hI⟩:=XD (t:=t) (ex:=cE t [] t.size) (c:=c) (d:=0) (by omega) (e:=124) (.inl rfl) l (t.size+1-4) 0 4 hl (by omega) hm hTJ p0
 obtain ⟨N,hN⟩:∃ N,t.size=N+1:=⟨t.size-1,by omega⟩
 obtain ⟨i0,h0,hI0⟩:=hin N
 rw [<- hN] at h0
 obtain ⟨u1,u2,u3⟩:=Zl c3 (by decide) rfl
 obtain ⟨v1,v2,v3⟩:=Zl p0 (by decide) rfl
 obtain ⟨w1,w2,w3⟩:=Zl p5 (by decide) rfl
 have hout:cE t [] (t.size+1) 0 0 2 false=⟨(1:Nat),[⟨123,(4+(pfJ c l).length+1:Nat),1,0,0,i0,-1⟩,⟨c,(2:Nat),0,0,0,ims,(0:Nat)⟩],t.size,false⟩:=by
  have hs:=yp c2 hbc.1
  have hh:=(yq c2 hbc.2).2
  rw [Xa t.size 0 0 2 false (c:=c) (by rw [hs];exact hh) (by omega) (by rw [hs];exact u2) (by rw [hs];exact u3) hi (r:=⟨(0:Nat),[⟨123,(4+(pfJ c l).length+1:Nat),1,0,0,i0,-1⟩],4+(pfJ c l).length+1+1+(1+1)+1,false⟩) (by
   simp only [List.length_nil,Nat.add_zero]
   show cE t [] t.size (0+1) 0 (zb t 124 (4+(pfJ c l).length) false) (zi t 124 (4+(pfJ c l).length) false)=_
   rw [v2,v3];exact h0),hs]
  simp only
  rw [w2,w3,hend]
  rfl
 have l1:Zo t 0 false=true:=by unfold Zo;rw [yp c0 rfl,(yq c0 (by decide)).2];rfl
 have l2:zM t 0 false=1/\z9 t 0 false=false:=by unfold zM z9;rw [l1,yp c0 rfl];exact ⟨rfl,rfl⟩
 obtain ⟨x1,x2,x3⟩:=Zl c1 (by decide) rfl
 have l7:za t t.size false=t.size:=yp (T.ch_ge (by omega)) rfl
 have l8:zI t 59 t.size false=false:=by unfold zI;rw [l7];simp [zd]
 have hR:ye t [] 0 0 false=⟨⟨97,(0:Nat),(1:Nat)⟩,[⟨123,(4+(pfJ c l).length+1:Nat),1,0,0,i0,-1⟩,⟨c,(2:Nat),0,0,0,ims,(0:Nat)⟩],t.size,false⟩:=by
  unfold ye
  simp only
  rw [l2.1,l2.2,x2,x3,hout,yp c0 rfl,(yq c0 (by decide)).2]
 refine ⟨[⟨123,(4+(pfJ c l).length+1:Nat),1,0,0,i0,-1⟩,⟨c,(2:Nat),0,0,0,ims,(0:Nat)⟩],ims,i0,_,_,⟨97,(0:Nat),(1:Nat)⟩,?_,⟨rfl,rfl,rfl,rfl,rfl,rfl,rfl,rfl,rfl,hI,hI0⟩⟩
 unfold zx
 simp only [zA]
 rw [hR]
 simp only
 rw [l8]
 simp only [Bool.false_eq_true,if_false,List.nil_append]
 unfold zb
 rw [l8,l7]
 rfl
theorem IMl.mem {c:Int} {l:List MB} {ims:List IM} (h:IMl c l ims) {x:IM} (hx:x∈ims):∃ y∈l,IMs c y x:=by
 obtain ⟨i,hi⟩:=List.getElem?_of_mem hx
 have hil:=(List.getElem?_eq_some_iff.1 hi).1
 have hll:i<l.length:=by rw [<- h.1];exact hil
 have hy:l[i]?=some l[i]:=List.getElem?_eq_getElem hll
 exact ⟨_,List.mem_of_getElem? hy,h.2 i x _ hi hy⟩
theorem jG {c:Int} {ims:List IM} (hn:ims.length<=16) (hnd:(ims.map IM.num).Nodup) (h1:∀ x∈ims,0<=x.num/\x.num<=63) (h2:c=119->∀ x∈ims,1<=x.wv/\x.wv<=1000) (err a:Int):¬ FIs c [] ims err a:=by
 have key:∀ (l pre:List IM),pre++l=ims->¬ FIs c pre l err a:=by
  intro l
  induction l with
  | nil=>intro pre _ h;exact h
  | cons x l ih =>
   intro pre he h
   have hx:x∈ims:=by rw [<- he];simp
   rcases h with h | h
   ·have hb:=h1 x hx
    have hl:pre.length<16:=by have:=congrArg List.length he;simp at this;omega
    rcases h with h | h | h | h | h
    ·omega
    ·have ha:=List.any_eq_true.1 h.1
     obtain ⟨y,hy,hs⟩:=ha
     simp only [zW,Bool.and_eq_true,beq_iff_eq] at hs
     rw [<- he,List.map_append,List.nodup_append] at hnd
     exact hnd.2.2 _ (List.mem_map_of_mem hy) _ (List.mem_map_of_mem (List.mem_cons_self ..)) hs.1.1
    ·omega
    ·have:=h2 h.1 x hx;omega
    ·omega
   ·exact ih (pre++[x]) (by rw [<- he];simp) h
 exact key ims [] rfl
theorem jH {e:EX} (hd:e.depth<12) (hk:e.kind=123\/e.kind=119\/e.kind=102) (err a:Int):¬ FEx e err a:=by
 intro h
 rcases h with ⟨h,_⟩ | ⟨h,_⟩ | ⟨h,_⟩ | ⟨h,_⟩<;>omega
theorem zax {c:Int} {l:List MB} (hc:c=119\/c=102) (h:Xf l):cpE (pfT c l)=0:=by
 have hm:∀ m∈l,m.s<100/\m.v<100:=fun m hm=>by have:=h.sv m hm;have:=h.wt m hm;omega
 obtain ⟨E,ims,i0,e0,e1,r,hA,P⟩:=X7 hc h.ne hm
 have hsz:=Xu c l
 have hjl:=(xU c l).2
 have hle:=h.le
 have hnum:ims.map IM.num=(l.map MB.s).map (fun n:Nat=>(n:Int)):=by
  apply List.ext_getElem?
  intro i
  rw [List.getElem?_map,List.getElem?_map,List.getElem?_map]
  cases hi:ims[i]? with
  | none =>
   have:=List.getElem?_eq_none_iff.1 hi
   rw [List.getElem?_eq_none_iff.2 (by rw [<- P.il.1];exact this)]
   rfl
  | some x =>
   have hil:=(List.getElem?_eq_some_iff.1 hi).1
   have hll:i<l.length:=by rw [<- P.il.1];exact hil
   have hy:l[i]?=some l[i]:=List.getElem?_eq_getElem hll
   rw [hy]
   have:=(P.il.2 i x _ hi hy).1
   simp [this]
 have hnd:(ims.map IM.num).Nodup:=by
  rw [hnum]
  show List.Pairwise _ _
  rw [List.pairwise_map]
  exact h.one.imp (fun hab e=>hab (by omega))
 have hF:(Yq (zx (pfT c l)).es (zx (pfT c l)).rs).1=0:=by
  rw [hA]
  simp only
  rcases Y2 E [r] with ⟨h0,_⟩ | ⟨_,hS,_⟩
  ·rw [h0]
  ·exfalso
   rcases hS with ⟨e,he,hf⟩ | hr
   ·rw [P.es] at he
    simp only [List.mem_cons,List.not_mem_nil,or_false] at he
    rcases he with rfl | rfl
    ·rcases hf with hf | hf
     ·exact jH (by rw [P.d0];decide) (.inl P.k0) _ _ hf
     ·rw [P.k0,P.t0] at hf
      have h6:=P.i6.1
      simp only [List.length_cons,List.length_nil] at h6
      refine jG (by omega) ?_ (fun x hx=>?_) (fun h=>by omega) _ _ hf
      ·obtain ⟨x0,hx0⟩:=List.length_eq_one_iff.1 h6
       rw [hx0];simp
      ·obtain ⟨y,hy,hs⟩:=P.i6.mem hx
       simp only [List.mem_cons,List.not_mem_nil,or_false] at hy
       subst hy
       rw [hs.1];decide
    ·rcases hf with hf | hf
     ·exact jH (by rw [P.d1];decide) (by rw [P.k1];omega) _ _ hf
     ·rw [P.k1,P.t1] at hf
      refine jG (by rw [P.il.1];exact hle) hnd (fun x hx=>?_) (fun h9 x hx=>?_) _ _ hf
      ·obtain ⟨y,hy,hs⟩:=P.il.mem hx
       have:=h.sv y hy
       rw [hs.1];omega
      ·obtain ⟨y,hy,hs⟩:=P.il.mem hx
       have:=h.wt y hy
       rw [hs.2.2.2.2 h9];omega
   ·simp [FRs,yA] at hr
 have hck:(Zy (pfT c l)).1=0:=by
  unfold Zy
  rw [if_neg (by omega)]
  rw [hA] at hF ⊢
  simp only [Bool.false_or,Nat.lt_irrefl,decide_false,Bool.false_eq_true,if_false] at hF ⊢
  rw [hF]
  rfl
 unfold cpE
 rw [if_pos hck,hA,P.es]
 simp only [List.length_cons,List.length_nil,Nat.zero_add,szR,szK,List.getElem?_cons_succ,List.getElem?_cons_zero,List.nil_append]
 rw [if_neg]
 have hb:=XZ (e:=e0) (K:=[]) (by simp)
 have h6:=P.i6.1
 simp only [List.length_cons,List.length_nil] at h6
 have hz:szE e0 []<=2:=by
  unfold szE Zi
  rw [P.k0,P.t0,P.n0,h6]
  simp only [ym]
  have:∀ i,atF ([]:List Int) i=0:=fun i=>by unfold atF;split<;>simp
  simp only [this]
  cases i0[0]?<;>simp
 have hz2:∀ z0,0<=z0->z0<=2->szE e1 [z0]<=20:=fun z0 h0 h2=>by
  unfold szE
  rw [P.n1,P.t1,P.k1]
  have ha:∀ j,ym [z0] ims j=0:=by
   intro j
   induction j with
   | zero=>rfl
   | succ j ih =>
    simp only [ym]
    rw [ih]
    cases hj:ims[j]? with
    | none=>rfl
    | some x =>
     obtain ⟨y,_,hs⟩:=P.il.mem (List.mem_of_getElem? hj)
     simp only [hs.2.2.2.1]
     rfl
  rw [ha,P.il.1]
  have hat:atF [z0] 0=z0:=rfl
  rw [hat]
  unfold Zi
  split<;>split<;>omega
 have:=hz2 _ hb.1 hz
 omega
section
theorem Try.infoMem:(Try.prog.info? 41).map (fun i=>(i.zero,i.size,i.bytes))=some (some (.agg #[J Z 0,J Z 0,.bool false]),3,24):=by kernel_rfl
theorem js (a b:Int) (d:Bool) (w:World):(Instr.build 41 #[(0,J Z a),(1,J Z b),(2,.bool d)]).run Try.prog w=.ok (.agg #[J Z a,J Z b,.bool d]) w:=run_build w 41 _ _ (by kernel_rfl)
theorem Qp (a b:Int) (w:World):(Instr.build 41 #[(0,J Z a),(1,J Z b)]).run Try.prog w=.ok (.agg #[J Z a,J Z b,.bool false]) w:=run_build w 41 _ _ (by kernel_rfl)
def mbV (m:MB):List Value:=[J Z m.s,J Z m.v,.bool m.dn]
def mmC (l:List MB):List Value:=l.flatMap mbV
structure MI (w:World) (o:Option Addr) (b off n:Nat) (S W:Nat->Int) (D:Nat->Bool):Prop where
 at_:0<n->o=some ⟨b,off,none⟩
 lt:0<n->b<w.heap.size
 val:∀ i,i<n->w.cell? ⟨b,off+i*3,none⟩=some (J Z (S i))/\w.cell? ⟨b,off+i*3+1,none⟩=some (J Z (W i))/\w.cell? ⟨b,off+i*3+2,none⟩=some (.bool (D i))
 bd:∀ i,i<n->-9223372036854775808<=S i/\S i<=9223372036854775807/\-9223372036854775808<=W i/\W i<=9223372036854775807
theorem MI.below {w w':World} {o:Option Addr} {b off n:Nat} {S W:Nat->Int} {D:Nat->Bool} (h:MI w o b off n S W D) (hb:Below w.heap.size w w'):MI w' o b off n S W D :=
 ⟨h.at_,fun hn=>Nat.lt_of_lt_of_le (h.lt hn) hb.size,fun i hi=>by
  have hl:=h.lt (by omega)
  rw [hb.cell (p:=⟨b,off+i*3,none⟩) hl,hb.cell (p:=⟨b,off+i*3+1,none⟩) hl,hb.cell (p:=⟨b,off+i*3+2,none⟩) hl]
  exact h.val i hi,h.bd⟩
structure MBp (l:List MB):Prop where
 le:l.length<=16
 sv:∀ m∈l,m.s<63
 wt:∀ m∈l,1<=m.v/\m.v<=9
 one:(l.map MB.s).Nodup
theorem Q0 {l:List MB} {i:Nat} {m:MB} (h:l[i]?=some m):(mmC l)[i*3]?=some (J Z m.s)/\(mmC l)[i*3+1]?=some (J Z m.v)/\(mmC l)[i*3+2]?=some (.bool m.dn):=by
 induction l generalizing i with
 | nil=>simp at h
 | cons y l ih =>
  have e:mmC (y::l)=mbV y++mmC l:=by simp [mmC]
  rw [e]
  cases i with
  | zero=>simp at h;subst h;exact ⟨rfl,rfl,rfl⟩
  | succ i =>
   have:=ih (by simpa using h)
   have hv:(mbV y).length=3:=rfl
   refine ⟨?_,?_,?_⟩<;>(rw [List.getElem?_append_right (by rw [hv];omega),hv])
   ·rw [show (i+1)*3-3=i*3 by omega];exact this.1
   ·rw [show (i+1)*3+1-3=i*3+1 by omega];exact this.2.1
   ·rw [show (i+1)*3+2-3=i*3+2 by omega];exact this.2.2
def zaF (w:World) (e:Ending) (w':World):Prop:=Below w.heap.size w w'/\∃ l g k,Xf l/\e=.returned (.slice (some ⟨g,0,none⟩) l.length k)/\w'.ownsRow w.heap.size 41 3 (.slice (some ⟨g,0,none⟩) l.length k) l.length (mmC l)
attribute [local go_sem] zC zu
theorem QF (o:Option Addr) (b off n c:Nat) (S W:Nat->Int) (D:Nat->Bool) (w:World) (hn:n*24<=140737488351232) (h:MI w o b off n S W D) :
 Calls Try.prog 12 #[.slice o n c] w (zaF w):=by
 obtain ⟨i1,hi1,hy0,hy1,hy2⟩:=info_parts Try.infoMem
 have HI:Hid (MI w o b off n S W D):=h
 have hbm:=fun a b d w=>js a b d w
 have hbm2:=fun a b w=>Qp a b w
 clear h
 go_enter Try.func12,Try.ntmps12
 go_wp2_with fail
 go_loopg [3,4] n (fun q x3 y wr=>∃ (j:Nat) (l:List MB),q+j=n/\y=J Z j/\(∃ o3 k3,x3=.slice o3 l.length k3)/\MBp l/\wr.ownsRow w.heap.size 41 3 x3 l.length (mmC l)/\Below w.heap.size w wr)
 case atStart=>exact ⟨0,[],by omega,rfl,⟨none,0,rfl⟩,⟨by simp,by simp,by simp,by simp⟩,⟨rfl,.inl ⟨rfl,rfl⟩⟩,Below.refl _ _⟩
 case round =>
  obtain ⟨j,l,hq,rfl,⟨o3,k3,rfl⟩,hmb,hrow,hb⟩:=hrel
  have HR:Hid (wr.ownsRow w.heap.size 41 3 (.slice o3 l.length k3) l.length (mmC l)):=hrow
  have HB:Hid (Below w.heap.size w wr):=hb
  have HM:Hid (MBp l):=hmb
  have hbs:=hb.size
  have hl16:=hmb.le
  clear hrow hb hmb
  by_cases hj:j<n
  ·by_cases hl:l.length<16
   ·have hj':(j:Int)<(n:Int):=by omega
    have hl':(l.length:Int)<16:=by omega
    have hj0:(0:Int)<=(j:Int):=by omega
    have HIW:=HI.out.below (w':=wr) HB.out
    have hat:=HIW.at_ (by omega)
    have hblt:=HIW.lt (by omega)
    obtain ⟨c0,c1,c2⟩:=HIW.val j hj
    obtain ⟨s0,s1,v0,v1⟩:=HIW.bd j hj
    have HPK:Hid (∀ (a k:Int) (wz:World),(a=S j/\k=63)\/(a=W j/\k=9)->Calls Try.prog 16 #[J Z a,J Z k] wz fun e w'=>e=.returned (J Z (pkF a k))/\w'=wz):=fun a k wz hak=>by
     rcases hak with ⟨rfl,rfl⟩ | ⟨rfl,rfl⟩
     ·exact Yo _ _ _ s0 s1 (by decide) (by decide)
     ·exact Yo _ _ _ v0 v1 (by decide) (by decide)
    have p1:=X6 (c:=S j) (n:=63) (by decide)
    have p2:=X6 (c:=W j) (n:=9) (by decide)
    generalize S j=sj at *
    generalize W j=vj at *
    generalize D j=dj at *
    obtain ⟨sn,hsn⟩:∃ sn:Nat,pkF sj 63=sn:=⟨(pkF sj 63).toNat,by omega⟩
    obtain ⟨vn,hvn⟩:∃ vn:Nat,pkF vj 9=vn:=⟨(pkF vj 9).toNat,by omega⟩
    rw [hsn] at p1
    rw [hvn] at p2
    have hw9:IntKind.i64.wrap (1+(vn:Int))=1+(vn:Int):=Zk (by omega) (by omega)
    have hB:b≠wr.heap.size:=by omega
    subst hat
    clear s0 s1 v0 v1 HIW
    go_upto_region 5 with fail
    go_cut [5] (fun s5 wx=>s5=.pointer (some ⟨wr.heap.size,0,none⟩)/\wx.heap[wr.heap.size]?=some (.cells #[J Z sn,J Z (1+vn),.bool dj] 41 (0,0))/\Below wr.heap.size wr wx)
    case first =>
     go_region_held3 (fun w'=>w'.cell? ⟨b,off+j*3,none⟩=some (J Z sj)/\w'.cell? ⟨b,off+j*3+1,none⟩=some (J Z vj)/\w'.cell? ⟨b,off+j*3+2,none⟩=some (.bool dj)) (first | (exact ⟨c0,c1,c2⟩) | (exact ⟨yW c0 _,yW c1 _,yW c2 _⟩) | go_keep) (first | (go_at_call 16;refine (HPK.out _ _ _ (by first | exact .inl ⟨rfl,rfl⟩ | exact .inr ⟨rfl,rfl⟩)).mono ?_;rintro e w' ⟨rfl,hww⟩;subst w'))
     all_goals
      go_wp2_with fail
      go_meet
      exact ⟨rfl,heap_alloc_new wr _,((Below.refl _ _).alloc (Nat.le_refl _) _).drew⟩
    case rest =>
    obtain ⟨rfl,hbx,hb2⟩:=hcut
    obtain ⟨w2,hw2⟩:∃ w2,w2=wc:=⟨_,rfl⟩
    subst hw2
    have HX2:Hid (w2.heap[wr.heap.size]?=some (.cells #[J Z sn,J Z (1+vn),.bool dj] 41 (0,0))):=hbx
    have HB2:Hid (Below w.heap.size w w2):=HB.out.trans (hb2.mono hbs)
    have HR2:Hid (w2.ownsRow w.heap.size 41 3 (.slice o3 l.length k3) l.length (mmC l)):=zj HR.out (fun g hg=>hb2.block g (HR.out.lt g hg).2)
    have HO:Hid (∀ k m,l[k]?=some m->∃ g,o3=some ⟨g,0,none⟩/\w2.cell? ⟨g,k*3,none⟩=some (J Z m.s)):=fun k m hk=>by
     have hkl:=(List.getElem?_eq_some_iff.1 hk).1
     rcases HR2.out.2 with ⟨_,h2⟩ | ⟨g,cap,cur,h1,h2,h3,h4,h5,h6,h7⟩
     ·omega
     ·cases h1
      exact ⟨g,rfl,by rw [World.ownsRow.cellAt HR2.out (k*3) (by omega),(Q0 hk).1]⟩
    obtain ⟨x0,x1,x2,-,-,-⟩:=ld3 hbx
    clear hbx hb2 c0 c1 c2 HPK HB HR
    go_wp2_with fail
    go_loopg [6,7] l.length (fun q y6 y7 wq=>∃ (k m:Nat),q+k=l.length/\y7=J Z k/\y6=.bool ((l.take k).any (fun y=>y.s==sn))/\wq=w2.drewN m)
    case atStart=>exact ⟨0,0,by omega,rfl,rfl,rfl⟩
    case round =>
     obtain ⟨k,m,hk,rfl,rfl,hwq⟩:=hrel
     subst hwq
     by_cases hkl:k<l.length
     ·have hkl':(k:Int)<(l.length:Int):=by omega
      have hk0:(0:Int)<=(k:Int):=by omega
      have hx:l[k]?=some l[k]:=List.getElem?_eq_getElem hkl
      obtain ⟨g,ho,hcg⟩:=HO.out k _ hx
      subst ho
      have HE:Hid ((l.take (k+1)).any (fun y=>y.s==sn)=((l.take k).any (fun y=>y.s==sn) || (l[k].s:Int)==(sn:Int))):=by
       show _=_
       rw [List.take_add_one,hx]
       simp only [List.any_append,Option.toList,List.any_cons,List.any_nil,Bool.or_false]
       congr 1
       rw [Bool.eq_iff_iff,beq_iff_eq,beq_iff_eq]
       omega
      generalize l[k]=y at *
      generalize (l.take k).any (fun y=>y.s==sn)=q at *
      have hcg':(w2.drewN m).cell? ⟨g,k*3,none⟩=some (J Z y.s):=hcg
      have x0':(w2.drewN m).cell? ⟨wr.heap.size,0,none⟩=some (J Z sn):=x0
      cases q with
      | true =>
       go_wp2_with fail
       go_quiet (fail)
       go_wp2_with fail
       go_roundg (l.length-(k+1))
       case measure=>omega
       case rel=>exact ⟨k+1,m+nq,by omega,by go_num,by rw [HE.out];rfl,rfl⟩
      | false =>
       go_wp2_with fail
       go_quiet (fail)
       go_wp2_with fail
       go_roundg (l.length-(k+1))
       case measure=>omega
       case rel=>exact ⟨k+1,m+nq,by omega,by go_num,by rw [HE.out];rfl,rfl⟩
     ·have hkl':¬ (k:Int)<(l.length:Int):=by omega
      have hke:k=l.length:=by omega
      subst hke
      rw [List.take_length]
      have HX5:Hid ((w2.drewN m).heap[wr.heap.size]?=some (.cells #[J Z sn,J Z (1+vn),.bool dj] 41 (0,0))):=HX2.out
      have HR5:Hid ((w2.drewN m).ownsRow w.heap.size 41 3 (.slice o3 l.length k3) l.length (mmC l)):=zj HR2.out (fun g hg=>rfl)
      have HB5:Hid (Below w.heap.size w (w2.drewN m)):=yl HB2.out m
      have HAN:Hid (l.any (fun y=>y.s==sn)=false->sn ∉ l.map MB.s):=fun hh hm=>by
       obtain ⟨y,hy,hys⟩:=List.mem_map.1 hm
       have:=List.any_eq_false.1 hh y hy
       simp [hys] at this
      generalize w2.drewN m=w5 at *
      have hbs5:=HB5.out.size
      have hlt5:wr.heap.size<w5.heap.size:=lt_of_block HX5.out
      obtain ⟨z0,z1,z2,-,-,-⟩:=ld3 HX5.out
      clear x0 x1 x2
      generalize l.any (fun y=>y.s==sn)=q at *
      cases q with
      | true =>
       go_wp2_with fail
       go_roundg (n-(j+1))
       case measure=>omega
       case rel=>exact ⟨j+1,l,by omega,by go_num,⟨o3,k3,rfl⟩,HM.out,HR5.out,HB5.out⟩
      | false =>
       have hni:=HAN.out rfl
       have hone:∀ u∈[J Z (sn:Int),J Z (1+(vn:Int)),.bool dj],u.oneCell'=true:=fun u hu=>by
        simp at hu
        rcases hu with rfl | rfl | rfl<;>rfl
       have HN:Hid (MBp (l++[⟨sn,1+vn,dj⟩])):=⟨by simp;omega,fun m hm=>by
        rcases List.mem_append.1 hm with hm | hm
        ·exact HM.out.sv m hm
        ·simp at hm;subst hm;simp only;omega,fun m hm=>by
        rcases List.mem_append.1 hm with hm | hm
        ·exact HM.out.wt m hm
        ·simp at hm;subst hm;simp only;omega,by
        rw [List.map_append,List.nodup_append]
        refine ⟨HM.out.one,by simp,fun a ha b hb e=>?_⟩
        simp at hb
        subst hb
        exact hni (by rw [<- e];exact ha)⟩
       go_wp2_with (at_builtin;refine wpList_append_lies _ rfl _ _ 37 rfl w.heap.size 41 i1 _ 3 24 Try.underlying37 hi1 hy0 hy1 hy2 rfl (by decide) (.slice o3 l.length k3) _ _ rfl (HR5.out.alloc _) ⟨w5.heap.size,0,none⟩ 1 1 [J Z sn,J Z (1+vn),.bool dj] rfl rfl (World.news_of_block (cs:=#[J Z sn,J Z (1+vn),.bool dj]) (t:=41) (fr:=(0,0)) (heap_alloc_new w5 _)) hone (Nat.lt_succ_self 0) (by unfold maxLen;omega) (by omega) (by simp;omega) (w5.heap.size+1) (by simp) ?_;intro g4 cap4 w4 hown4 hgrow4 hat4 hlt4)
       have HR4:Hid (w4.ownsRow w.heap.size 41 3 (.slice (some ⟨g4,0,none⟩) (l.length+1) cap4) (l++[(⟨sn,1+vn,dj⟩:MB)]).length (mmC (l++[⟨sn,1+vn,dj⟩]))):=by
        show World.ownsRow _ _ _ _ _ _ _
        have e1:mmC (l++[⟨sn,1+vn,dj⟩])=mmC l++[J Z sn,J Z (1+vn),.bool dj]:=by simp [mmC,mbV]
        rw [e1,List.length_append]
        exact hown4
       have HB4:Hid (Below w.heap.size w w4):=(HB5.out.alloc hbs5 _).grown hgrow4 (by simp;omega) (fun k hk=>(HR5.out.lt k hk).1)
       clear hown4 hgrow4 hat4
       go_roundg (n-(j+1))
       case measure=>omega
       case rel=>exact ⟨j+1,l++[⟨sn,1+vn,dj⟩],by omega,by go_num,⟨some ⟨g4,0,none⟩,cap4,by simp⟩,HN.out,by simpa using HR4.out,HB4.out⟩
   ·have hj':(j:Int)<(n:Int):=by omega
    have hl':¬ (l.length:Int)<16:=by omega
    have hl0:((l.length:Int)==0)=false:=beq_eq_false_iff_ne.2 (by omega)
    rcases HR.out.2 with ⟨_,h2⟩ | ⟨g,cap,cur,h1,-⟩
    ·omega
    ·cases h1
     go_wp2_with fail
     go_ret
     exact ⟨HB.out,l,g,k3,⟨fun e=>by rw [e] at hl;simp at hl,HM.out.le,HM.out.sv,HM.out.wt,HM.out.one⟩,rfl,HR.out⟩
  ·have hj':¬ (j:Int)<(n:Int):=by omega
   by_cases hz:l.length=0
   ·have hnil:l=[]:=List.eq_nil_of_length_eq_zero hz
    subst hnil
    have hone:∀ u∈[J Z (0:Int),J Z (1:Int),.bool false],u.oneCell'=true:=fun u hu=>by
     simp at hu
     rcases hu with rfl | rfl | rfl<;>rfl
    simp only [List.length_nil] at HR ⊢
    go_wp2_with (at_builtin;refine wpList_append_lies _ rfl _ _ 37 rfl w.heap.size 41 i1 _ 3 24 Try.underlying37 hi1 hy0 hy1 hy2 rfl (by decide) (.slice o3 0 k3) _ _ rfl (HR.out.alloc _) ⟨wr.heap.size,0,none⟩ 1 1 [J Z 0,J Z 1,.bool false] rfl rfl (World.news_of_block (cs:=#[J Z 0,J Z 1,.bool false]) (t:=41) (fr:=(0,0)) (heap_alloc_new wr _)) hone (Nat.lt_succ_self 0) (by unfold maxLen;omega) (by omega) (by simp;omega) (wr.heap.size+1) (by simp) ?_;intro g4 cap4 w4 hown4 hgrow4 hat4 hlt4)
    have HB4:Hid (Below w.heap.size w w4):=(HB.out.alloc hbs _).grown hgrow4 (by simp;omega) (fun k hk=>(HR.out.lt k hk).1)
    go_ret
    exact ⟨HB4.out,[⟨0,1,false⟩],g4,cap4,⟨by simp,by simp,by simp,by simp,by simp⟩,rfl,hown4⟩
   ·have hl0:((l.length:Int)==0)=false:=beq_eq_false_iff_ne.2 (by omega)
    rcases HR.out.2 with ⟨_,h2⟩ | ⟨g,cap,cur,h1,-⟩
    ·omega
    ·cases h1
     go_wp2_with fail
     go_ret
     exact ⟨HB.out,l,g,k3,⟨fun e=>hz (by rw [e];rfl),HM.out.le,HM.out.sv,HM.out.wt,HM.out.one⟩,rfl,HR.out⟩
end
section
open Go.ChangeShapes Go.WideShapes Go.ChangeAt Go.RowKit
theorem XN:Try.prog.cellsOf 41=3:=by kernel_rfl
theorem jp:Try.prog.bytesOf 41=24:=by kernel_rfl
theorem Ql:Try.prog.cellsOf 4=1:=by kernel_rfl
section
variable {H:Type} {enc:TypeId×Value->H} {w:World} {base:Nat} {spare:Nat->Bool} {held:Bool}
theorem Xw {n:Nat} {cs:List Value} {x:DataW H×List MemPlace} (h:DataW.trod enc Try.prog w base spare held n 41 cs=some x) :
 ∃ (a b:Int) (c:Bool),cs=[J Z a,J Z b,.bool c]/\(Lit.int .i64 a).wf=true/\(Lit.int .i64 b).wf=true:=by
 obtain ⟨y0,y1,y2,m,_,hlen,h0,h1,h2⟩:=Deep.trod_struct3 Try.underlying41 h
 rw [XN] at hlen
 match cs,hlen with
 | [c0,c1,c2],_ =>
  obtain ⟨a,ea,_,wa⟩:=DataW.trod_int Try.underlying3 h0
  obtain ⟨b,eb,_,wb⟩:=DataW.trod_int Try.underlying3 h1
  obtain ⟨c,ec,_⟩:=DataW.trod_bool Try.underlying4 h2
  simp [jl,Ql] at ea eb ec
  exact ⟨a,b,c,by rw [ea,eb,ec],wa,wb⟩
theorem xW {fuel:Nat} {ao:Option Addr} {len cap:Nat} {d:DataW H} {p:List MemPlace} (h:DataW.trod enc Try.prog w base spare held fuel 37 [.slice ao len cap]=some (d,p)) :
 (∃ b off S W D,MI w ao b off len S W D)/\(d=.nil/\len=0\/∃ el sp,d=.slice el sp/\el.length=len):=by
 have hnil:∀ ao,MI w ao 0 0 0 (fun _=>0) (fun _=>0) (fun _=>false):=fun ao=>⟨fun h=>by omega,fun h=>by omega,fun i hi=>by omega,fun i hi=>by omega⟩
 rcases Deep.open_slice Try.underlying37 h with ⟨hcs,hx⟩ | ⟨a,l,c,m,n,D,Pl,hcs,hb,hl,hm,hmm,hx,hel⟩
 ·simp at hcs hx
  obtain ⟨rfl,rfl,rfl⟩:=hcs
  exact ⟨⟨0,0,_,_,_,hnil _⟩,.inl ⟨hx.1,rfl⟩⟩
 ·simp at hcs hx
  obtain ⟨rfl,rfl,rfl⟩:=hcs
  refine ⟨?_,.inr ⟨_,_,hx.1,by simp⟩⟩
  have hlm:len<=m:=by rw [hmm];split<;>omega
  rw [XN] at hel
  obtain ⟨F,hF⟩:=Deep.choose_lt (α:=Int×Int×Bool) (n:=len) (p:=fun i y=>(∀ j,j<3->w.cell? ((a.add (i*3)).add j)=[J Z y.1,J Z y.2.1,.bool y.2.2][j]?)/\-9223372036854775808<=y.1/\y.1<=9223372036854775807/\-9223372036854775808<=y.2.1/\y.2.1<=9223372036854775807) (fun i hi=>by
   obtain ⟨cs',h1,h2⟩:=hel i (by omega)
   obtain ⟨x,y,z,rfl,w1,w2⟩:=Xw h2
   obtain ⟨_,_,hc⟩:=World.cells?_some h1
   have b1:=bounds_i64 w1
   have b2:=bounds_i64 w2
   exact ⟨(x,y,z),hc,b1.1,b1.2,b2.1,b2.2⟩)
  by_cases hl0:len=0
  ·subst hl0
   exact ⟨0,0,_,_,_,hnil _⟩
  ·obtain ⟨b,off,spot⟩:=a
   have hc0:=(hF 0 (by omega)).1 0 (by omega)
   have hspot:spot=none:=by simpa [Addr.add] using World.cell?_spot hc0
   subst hspot
   have hlt:b<w.heap.size:=by
    have:=hc0
    simp [Addr.add] at this
    exact XB this
   refine ⟨b,off,fun i=>(F i).1,fun i=>(F i).2.1,fun i=>(F i).2.2,⟨fun _=>rfl,fun _=>hlt,fun i hi=>?_,fun i hi=>(hF i hi).2⟩⟩
   have h0:=(hF i hi).1 0 (by omega)
   have h1:=(hF i hi).1 1 (by omega)
   have h2:=(hF i hi).1 2 (by omega)
   rw [add_plain,add_plain] at h0 h1 h2
   exact ⟨h0,h1,h2⟩
end
end
abbrev bU (c:Int):Obj:=.cells #[J .u8 c] 5
theorem cvU (w:World) (g:Nat) (c:Int) (h:w.cell? ⟨g,0,none⟩=some (J .u8 c)):Sem.run Try.prog (convert 58 9 (.slice (some ⟨g,0,none⟩) 1 1)) w=.ok (.string (strOfNums [c])) w :=
 run_convert_bytes_arg (P:=Try.prog) w 58 5 Try.underlying58 Try.underlying5 g 0 1 1 [c] rfl (fun i hi=>by obtain rfl:i=0:=(by omega);exact h) 9 Try.underlying9
theorem xB (n:Int) (w:World) (h0:0<=n) (h1:n<10) :
 Calls Try.prog 13 #[J Z n] w fun e w'=>e=.returned (.string (strOfNums [48+n]))/\w'=w.alloc (bU (48+n)):=by
 have hc:=cvU (w.alloc (bU (48+n))) w.heap.size (48+n) (cell_of_row _ _ _ _ _ _ (heap_alloc_new w _))
 have hw:IntKind.u8.wrap (48+n)=48+n:=by rw [IntKind.wrap_u8];omega
 go_enter Try.func13,Try.ntmps13
 go_wp2_with fail
 go_ret
 exact ⟨rfl,rfl⟩
theorem Jn (n:Nat) (w:World) (h:n<100) :
 Calls Try.prog 13 #[J Z n] w fun e w'=>e=.returned (.string (strOfNums (dgL n)))/\Below w.heap.size w w':=by
 by_cases h10:n<10
 ·refine (xB n w (by omega) (by omega)).mono ?_
  rintro e w' ⟨rfl,rfl⟩
  exact ⟨by unfold dgL;rw [if_pos h10],(Below.refl _ _).alloc (Nat.le_refl _) _⟩
 ·have HE:Hid (strOfNums (dgL n)=strOfNums [48+((n / 10:Nat):Int)]++strOfNums [48+((n%10:Nat):Int)]):=by
   show _=_
   rw [ZJ];unfold dgL;rw [if_neg h10];rfl
  have HD:Hid _:=fun wz=>xB ((n / 10:Nat):Int) wz (by omega) (by omega)
  have hq:(n:Int) / 10=((n / 10:Nat):Int):=by omega
  have hr:(n:Int)%10=((n%10:Nat):Int):=by omega
  have hn0:¬ (n:Int)<10:=by omega
  have hn1:(0:Int)<=(n:Int):=by omega
  obtain ⟨q,hq2⟩:∃ q,q=((n / 10:Nat):Int):=⟨_,rfl⟩
  obtain ⟨r,hr2⟩:∃ r,r=((n%10:Nat):Int):=⟨_,rfl⟩
  rw [<- hq2] at HE HD hq
  rw [<- hr2] at HE hr
  have hb:0<=q/\q<10/\0<=r/\r<10:=by omega
  have hw:IntKind.u8.wrap (48+r)=48+r:=by rw [IntKind.wrap_u8];omega
  have y0:(strOfNums [48+q]).size=1:=by rw [strOfNums_size];rfl
  have y1:(strOfNums [48+r]).size=1:=by rw [strOfNums_size];rfl
  have hwq:IntKind.i64.wrap q=q:=Zk (by omega) (by omega)
  have hr3:(n:Int).tmod 10=r:=by rw [Int.tmod_eq_emod_of_nonneg hn1];exact hr
  have hwr:IntKind.i64.wrap (48+r)=48+r:=Zk (by omega) (by omega)
  clear hq2 hr2
  go_enter Try.func13,Try.ntmps13
  go_wp2_with fail
  have c1:=cvU ((w.alloc (bU (48+q))).alloc (bU (48+r))).drew (w.heap.size+1) (48+r) (cell_of_row (w:=((w.alloc (bU (48+q))).alloc (bU (48+r))).drew) _ _ _ _ _ (zt (w:=w.alloc (bU (48+q))) _ (by simp)))
  have c2:=cvU ((w.alloc (bU (48+r))).alloc (bU (48+q))).drew w.heap.size (48+r) (cell_of_row (w:=((w.alloc (bU (48+r))).alloc (bU (48+q))).drew) _ _ _ _ _ ((Below.heap_alloc _ _ _ (by simp)).trans (heap_alloc_new w _)))
  have c3:=cvU (w.alloc (bU (48+r))).drew w.heap.size (48+r) (cell_of_row (w:=(w.alloc (bU (48+r))).drew) _ _ _ _ _ (heap_alloc_new w _))
  go_region_with (first | (go_at_call 13;refine (HD.out _).mono ?_;rintro e w' ⟨rfl,hw'⟩;subst w'))
  all_goals
   go_wp2_with fail
   go_ret
   exact ⟨by rw [HE.out];rfl,by first | exact (((Below.refl _ _).alloc (Nat.le_refl _) _).alloc (by simp) _).drew | exact (((Below.refl _ _).drew.alloc (Nat.le_refl _) _).alloc (by simp) _)⟩
end Go.Proofs.Ytaebngpoagjafaa
