import Derived.Test.YtaebngpoagjafabGreatQ05
import Derived.Laws.NewBlocks
set_option maxRecDepth 100000
set_option maxHeartbeats 800000
namespace Go.Proofs.YtaebngpoagjafabGreat
open Bool renaming false → F,true → N
open Option renaming some → S,none → P
open Proofs.Tryz renaming prog → E
open Proofs.Tryz
open Obj renaming cells → O
open Value renaming int → J
open IntKind renaming i64 → Z
open Go.RowKit
attribute [local go_sem ↓] Go.wp_at_zero Go.wp_at_succ
structure IM where
 at_:Int
 num:Int
 pv:Int
 pl:Int
 wv:Int
 wa:Int
 arm:Int
structure EX where
 kind:Int
 at_:Int
 depth:Int
 nv:Int
 na:Int
 items:List IM
 inner:Int
structure RL where
 nv:Int
 na:Int
 ex:Int
def imV(x:IM):List Value:=[J Z x.at_,J Z x.num,J Z x.pv,J Z x.pl,J Z x.wv,J Z x.wa,J Z x.arm]
def exV(e:EX×Value):List Value:=[J .u8 e.1.kind,J Z e.1.at_,J Z e.1.depth,J Z e.1.nv,J Z e.1.na,e.2,J Z e.1.inner]
def rlV(r:RL):List Value:=[J Z r.nv,J Z r.na,J Z r.ex]
def imC(l:List IM):List Value:=l.flatMap imV
def exC(l:List (EX×Value)):List Value:=l.flatMap exV
def rlC(l:List RL):List Value:=l.flatMap rlV
structure PM (w:World) (base B:Nat) (s:ByteArray) (k:Nat) (b:Bool) (ev rv:Value) (es:List (EX×Value)) (rs:List RL):Prop where
 blk:w.heap[B]?=S (O #[.string s,J Z k,.bool b,ev,rv] 104 (0,0))
 ex:w.ownsRow base 148 7 ev es.length (exC es)
 rl:w.ownsRow base 143 3 rv rs.length (rlC rs)
 it:∀p∈es,w.ownsRow base 155 7 p.2 p.1.items.length (imC p.1.items)
 hB:base<=B
theorem PM.lt{w:World}{base B s k b ev rv es rs}(h:PM w base B s k b ev rv es rs):B<w.heap.size:=lt_of_block h.blk
theorem PM.bs{w:World}{base B s k b ev rv es rs}(h:PM w base B s k b ev rv es rs):base<=w.heap.size:=Nat.le_trans h.hB (Nat.le_of_lt h.lt)
theorem PM.c0{w:World}{base B s k b ev rv es rs}(h:PM w base B s k b ev rv es rs):w.cell? ⟨B,0,P⟩=S (.string s):=by simp[World.cell?,h.blk]
theorem PM.c1{w:World}{base B s k b ev rv es rs}(h:PM w base B s k b ev rv es rs):w.cell? ⟨B,1,P⟩=S (J Z k):=by simp[World.cell?,h.blk]
theorem PM.c2{w:World}{base B s k b ev rv es rs}(h:PM w base B s k b ev rv es rs):w.cell? ⟨B,2,P⟩=S (.bool b):=by simp[World.cell?,h.blk]
theorem PM.c3{w:World}{base B s k b ev rv es rs}(h:PM w base B s k b ev rv es rs):w.cell? ⟨B,3,P⟩=S ev:=by simp[World.cell?,h.blk]
theorem PM.c4{w:World}{base B s k b ev rv es rs}(h:PM w base B s k b ev rv es rs):w.cell? ⟨B,4,P⟩=S rv:=by simp[World.cell?,h.blk]
theorem PM.fz{w:World}{base B s k b ev rv es rs}(h:PM w base B s k b ev rv es rs)(j:Nat):w.frozen? ⟨B,j,P⟩=F:=by simp[World.frozen?,h.blk]
theorem PM.neE{w:World}{base B s k b ev rv es rs}(h:PM w base B s k b ev rv es rs):ev.ownBlock≠S B:=zi h.ex h.blk oq
theorem PM.neR{w:World}{base B s k b ev rv es rs}(h:PM w base B s k b ev rv es rs):rv.ownBlock≠S B:=zi h.rl h.blk oq
theorem PM.neI{w:World}{base B s k b ev rv es rs}(h:PM w base B s k b ev rv es rs){p:EX×Value}(a:p∈es):p.2.ownBlock≠S B:=zi (h.it p a) h.blk oq
theorem Yo{w:World}{B j:Nat}{a b c d e u:Value}{t:TypeId}(h:w.heap[B]?=S (O #[a,b,c,d,e] t (0,0))):(w.setCell ⟨B,j,P⟩ u).heap[B]?=S (O (#[a,b,c,d,e].setIfInBounds j u) t (0,0)):=by
 simp[World.setCell,Array.getElem?_modify,h]
theorem PM.at{w:World}{base B s k b ev rv es rs}(h:PM w base B s k b ev rv es rs)(a:Nat)(x:Int)(c:x=a):PM (w.setCell ⟨B,1,P⟩ (J Z x)) base B s a b ev rv es rs :=
 ⟨by rw[c];exact Yo h.blk,ownsRow_setCell_other h.ex h.neE _,ownsRow_setCell_other h.rl h.neR _,λp hp=>ownsRow_setCell_other (h.it p hp) (h.neI hp) _,h.hB⟩
theorem PM.bad{w:World}{base B s k b ev rv es rs}(h:PM w base B s k b ev rv es rs)(b':Bool):PM (w.setCell ⟨B,2,P⟩ (.bool b')) base B s k b' ev rv es rs :=
 ⟨Yo h.blk,ownsRow_setCell_other h.ex h.neE _,ownsRow_setCell_other h.rl h.neR _,λp hp=>ownsRow_setCell_other (h.it p hp) (h.neI hp) _,h.hB⟩
theorem PM.setMv{w:World}{base B s k b ev rv es rs}(h:PM w base B s k b ev rv es rs)(j:Nat)(x:Value):Mv base B ev rv ev rv w (w.setCell ⟨B,j,P⟩ x) :=
 ⟨(Below.refl _ _).setCell h.hB _,λ_ _ ho=>⟨za ho.1,ho⟩⟩
theorem PM.alloc{w:World}{base B s k b ev rv es rs}(h:PM w base B s k b ev rv es rs)(o:Obj):PM (w.alloc o) base B s k b ev rv es rs :=
 ⟨by rw[Below.heap_alloc _ _ _ h.lt];exact h.blk,h.ex.alloc o,h.rl.alloc o,λp hp=>(h.it p hp).alloc o,h.hB⟩
theorem PM.drewN{w:World}{base B s k b ev rv es rs}(h:PM w base B s k b ev rv es rs)(n:Nat):PM (w.drewN n) base B s k b ev rv es rs:=⟨h.blk,h.ex,h.rl,h.it,h.hB⟩
theorem PM.drew{w:World}{base B s k b ev rv es rs}(h:PM w base B s k b ev rv es rs):PM w.drew base B s k b ev rv es rs:=⟨h.blk,h.ex,h.rl,h.it,h.hB⟩
theorem PM.outNew{w:World}{base B s k b ev rv es rs}(h:PM w base B s k b ev rv es rs):Out B ev rv w.heap.size :=
 ⟨λe=>by have:=h.lt;omega,λe=>by have:=(h.ex.lt _ e).2;omega,λe=>by have:=(h.rl.lt _ e).2;omega⟩
def zg(s:ByteArray)(k:Nat)(b:Bool):Int:=if b=N then 0 else if k<s.size then T.ch s k else 0
def zb(s:ByteArray)(k:Nat)(b:Bool):Nat:=if b=N then k else T.sk s k
theorem zO{s:ByteArray}{k:Nat}{b:Bool}(h:k<=s.size):zb s k b<=s.size:=by
 unfold zb;split
 ·exact h
 ·exact T.sk_le h
theorem YK(s:ByteArray)(k:Nat)(b:Bool):0<=zg s k b/\zg s k b<256:=by
 unfold zg;split
 ·omega
 ·split
  ·next h=>exact T.ch_bd h
  ·omega
theorem ZK(base B:Nat)(s:ByteArray)(k:Nat)(b:Bool)(d c:Value)(j:List (EX×Value))(rs:List RL)(w:World)(m:k<=s.size)(h:PM w base B s k b d c j rs):
 Calls E 127 #[.pointer (S ⟨B,0,P⟩)] w λe w'=>e=.returned (J .u8 (zg s k b))/\PM w' base B s k b d c j rs/\Mv base B d c d c w w':=by
 have H:Hd _:=h;have q:=h.c0;have p:=h.c1;have n:=h.c2;clear h;cases b with
 | true =>
  go_enter func127,ntmps127;go_wp2_with fail;go_quiet (fail)
  go_wp2_with fail;go_ret;exact⟨rfl,H.o.drewN _,(Mv.refl _ _ _ _ _).drewN _⟩
 | false =>
  by_cases a:k<s.size
  ·have g:Hd (zg s k F=T.ch s k):=(by show _=_;unfold zg;rw[if_neg oq,if_pos a]);have i:(k:Int)<(s.size:Int):=ol;have f:decide ((s.size:Int)<=(k:Int))=F:=decide_eq_false ol;have l:((s[k]).toNat:Int)=T.ch s k:=(T.ch_lt a).symm;go_enter func127,ntmps127;go_wp2_with fail;go_quiet (fail)
   go_wp2_with fail;go_quiet (fail)
   go_wp2_with fail;go_ret;exact⟨by rw[g.o];rfl,(H.o.drewN _).drewN _,((Mv.refl _ _ _ _ _).drewN _).drewN _⟩
  ·have g:Hd (zg s k F=0):=(by show _=_;unfold zg;rw[if_neg oq,if_neg a]);have f:decide ((s.size:Int)<=(k:Int))=N:=decide_eq_true ol;go_enter func127,ntmps127;go_wp2_with fail;go_quiet (fail)
   go_wp2_with fail;go_ret;exact⟨by rw[g.o];rfl,H.o.drewN _,(Mv.refl _ _ _ _ _).drewN _⟩
theorem yl(base B:Nat)(s:ByteArray)(k:Nat)(b:Bool)(f d:Value)(u:List (EX×Value))(rs:List RL)(w:World)(hs:s.size<=2000)(K:k<=s.size)(h:PM w base B s k b f d u rs):
 Calls E 126 #[.pointer (S ⟨B,0,P⟩)] w λe w'=>e=.returned (.tuple #[])/\PM w' base B s (zb s k b) b f d u rs/\Mv base B f d f d w w':=by
 have H:Hd _:=h;clear h;go_enter func126,ntmps126;go_wp2_with fail;refine(ZK base B s k b f d u rs _ K H.o).mono ?_;rintro e w1 ⟨rfl,p,v⟩;have W:Hd _:=p;have X:Hd _:=v;clear p v;go_wp2_with fail;go_loopg [2] (s.size-k) (λn x wr=>∃j:Nat,k<=j/\j<=s.size/\n=s.size-j/\x=J .u8 (zg s j b)/\Hd (zb s j b=zb s k b)/\PM wr base B s j b f d u rs/\Mv base B f d f d w wr)
 case atStart=>exact⟨k,Nat.le_refl _,K,rfl,rfl,rfl,W.o,X.o⟩
 case round =>
  obtain⟨j,R,U,I,rfl,O,p,v⟩:=hrel;have l:Hd _:=p;have t:Hd _:=v;have c1:=p.c1;have z1:=p.fz 1;have Q:Hd _:=I;clear p v I;by_cases m:T.bl (zg s j b)=N
  ·have D:b=F/\j<s.size/\zg s j b=T.ch s j:=by
    cases b with
    |true=>simp[zg,T.bl]at m
    | false =>
     by_cases a:j<s.size
     ·exact⟨rfl,a,by simp[zg,a]⟩
     ·simp[zg,a,T.bl]at m
   obtain⟨rfl,a,L⟩:=D;have z:Hd (zb s (j+1) F=zb s k F):=by
    show _=_;rw[<-O.o];unfold zb;rw[if_neg oq,if_neg oq];exact T.sk_next (by rw[<-L];exact m)
   clear L;have Z:=YK s j F;generalize zg s j F=c at *;have V:(j:Int)<2000:=ol;cases y:(c==32)with
   | true =>
    go_wp2_with fail;refine(ZK base B s (j+1) F f d u rs _ ol (l.o.at (j+1) _ ol)).mono ?_;rintro e A ⟨rfl,g,i⟩;have q:Hd _:=g;have r:Hd (Mv base B f d f d w A):=(t.o.trans (l.o.setMv 1 _)).trans i;clear g i;go_wp2_with fail;go_roundg (s.size-(j+1))
    case measure=>rw[Q.o];omega
    case rel=>exact⟨j+1,ol,ol,rfl,rfl,z,q.o,r.o⟩
   | false =>
    have G:(c==10)=N:=(by simpa[T.bl,y]using m);go_wp2_with fail;refine(ZK base B s (j+1) F f d u rs _ ol (l.o.at (j+1) _ ol)).mono ?_;rintro e A ⟨rfl,g,i⟩;have q:Hd _:=g;have r:Hd (Mv base B f d f d w A):=(t.o.trans (l.o.setMv 1 _)).trans i;clear g i;go_wp2_with fail;go_roundg (s.size-(j+1))
    case measure=>rw[Q.o];omega
    case rel=>exact⟨j+1,ol,ol,rfl,rfl,z,q.o,r.o⟩
  ·have Y:Hd (zb s k b=j):=by
    show _=_;rw[<-O.o];cases b with
    |true=>rfl
    | false =>
     unfold zb;rw[if_neg oq];by_cases a:j<s.size
     ·have e:zg s j F=T.ch s j:=(by simp[zg,a]);exact T.sk_here (by rw[e]at m;simpa using m)
     ·exact T.sk_here (by rw[T.ch_ge a];rfl)
   have C:(zg s j b==32)=F/\(zg s j b==10)=F:=by
    have:T.bl (zg s j b)=F:=by simpa using m
    simpa[T.bl]using this
   obtain⟨y,G⟩:=C;clear m;generalize zg s j b=c at *;go_wp2_with fail;go_end0
   exact⟨rfl,by rw[Y.o];exact l.o,t.o⟩
def z6(s:ByteArray)(c:Int)(k:Nat)(b:Bool):Bool:=zg s (zb s k b) b==c
def zc(s:ByteArray)(c:Int)(k:Nat)(b:Bool):Nat:=if z6 s c k b=N then zb s k b+1 else zb s k b
def zk(s:ByteArray)(c:Int)(k:Nat)(b:Bool):Bool:=if z6 s c k b=N then b else N
theorem xp{s:ByteArray}{c:Int}{k:Nat}{b:Bool}(d:c≠0)(h:z6 s c k b=N):b=F/\zb s k b<s.size/\T.ch s (T.sk s k)=c:=by
 unfold z6 zg at h;cases b with
 |true=>simp at h;exact absurd h.symm d
 | false =>
  by_cases a:zb s k F<s.size
  ·simp[a]at h;exact⟨rfl,a,by simpa[zb]using h⟩
  ·simp[a]at h;exact absurd h.symm d
theorem zu{s:ByteArray}{c:Int}{k:Nat}{b:Bool}(d:c≠0)(a:k<=s.size):zc s c k b<=s.size:=by
 unfold zc;split
 ·next h=>have:=(xp d h).2.1;omega
 ·exact zO a
theorem Qp(base B:Nat)(s:ByteArray)(c:Int)(k:Nat)(b:Bool)(g f:Value)(l:List (EX×Value))(rs:List RL)(w:World)(u:s.size<=2000)(t:k<=s.size)(z:c≠0)(h:PM w base B s k b g f l rs):
 Calls E 87 #[.pointer (S ⟨B,0,P⟩),J .u8 c] w λe w'=>e=.returned (.bool (z6 s c k b))/\PM w' base B s (zc s c k b) b g f l rs/\Mv base B g f g f w w':=by
 have H:Hd _:=h;clear h;go_enter func87,ntmps87;go_wp2_with fail;refine(yl base B s k b g f l rs _ u t H.o).mono ?_;rintro e I ⟨rfl,a,i⟩;have A:Hd _:=a;have C:Hd _:=i;clear a i;go_wp2_with fail;refine(ZK base B s (zb s k b) b g f l rs _ (zO t) A.o).mono ?_;rintro e G ⟨rfl,a,i⟩;have d:Hd _:=a;have j:Hd _:=C.o.trans i;have K:=a.c1;have D:=a.fz 1;clear a i;cases ht:z6 s c k b with
 | true =>
  have y:=(xp z ht).2.1;have r:Hd (zc s c k b=zb s k b+1):=by show _=_;unfold zc;rw[if_pos ht]
  have n:(zg s (zb s k b) b==c)=N:=ht;have q:Hd _:=ht;have m:(zg s (zb s k b) b != c)=F:=by simp[bne,n]
  generalize zg s (zb s k b) b=x at *;clear ht;generalize zb s k b=p at *;have v:(p:Int)<2000:=ol;go_wp2_with fail;go_ret;exact⟨by rw[q.o];rfl,by rw[r.o];exact d.o.at (p+1) _ ol,j.o.trans (d.o.setMv 1 _)⟩
 | false =>
  have r:Hd (zc s c k b=zb s k b):=by show _=_;unfold zc;rw[if_neg (by rw[ht];decide)]
  have n:(zg s (zb s k b) b==c)=F:=ht;have q:Hd _:=ht;have m:(zg s (zb s k b) b != c)=N:=by simp[bne,n]
  generalize zg s (zb s k b) b=x at *;clear ht;go_wp2_with fail;go_ret;exact⟨by rw[q.o];rfl,by rw[r.o];exact d.o,j.o⟩
theorem yW(base B:Nat)(s:ByteArray)(c:Int)(k:Nat)(b:Bool)(d a:Value)(g:List (EX×Value))(rs:List RL)(w:World)(n:s.size<=2000)(p:k<=s.size)(q:c≠0)(h:PM w base B s k b d a g rs):
 Calls E 124 #[.pointer (S ⟨B,0,P⟩),J .u8 c] w λe w'=>e=.returned (.tuple #[])/\PM w' base B s (zc s c k b) (zk s c k b) d a g rs/\Mv base B d a d a w w':=by
 have H:Hd _:=h;clear h;go_enter func124,ntmps124;go_wp2_with fail;refine(Qp base B s c k b d a g rs _ n p q H.o).mono ?_;rintro e t ⟨rfl,f,l⟩;have i:Hd _:=f;have m:Hd _:=l;have u:=f.c2;have r:=f.fz 2;clear f l;cases ht:z6 s c k b with
 | true =>
  have j:Hd (zk s c k b=b):=by show _=_;unfold zk;rw[if_pos ht]
  clear ht;go_wp2_with fail;go_end0
  exact⟨rfl,by rw[j.o];exact i.o,m.o⟩
 | false =>
  have j:Hd (zk s c k b=N):=by show _=_;unfold zk;rw[if_neg (by rw[ht];decide)]
  clear ht;go_wp2_with fail;go_end0
  exact⟨rfl,by rw[j.o];exact i.o.bad N,m.o.trans (i.o.setMv 2 _)⟩
def zL(w:World)(c:Nat)(t:TypeId):Prop:=∃cs fr,w.heap[c]?=S (O cs t fr)
theorem zL.set{w:World}{c:Nat}{t:TypeId}(h:zL w c t)(d j:Nat)(u:Value):zL (w.setCell ⟨d,j,P⟩ u) c t:=by
 obtain⟨b,a,h⟩:=h;by_cases e:c=d
 ·subst e;exact⟨b.setIfInBounds j u,a,by simp[World.setCell,Array.getElem?_modify,h]⟩
 ·exact⟨b,a,by rw[za e];exact h⟩
theorem zL.alloc{w:World}{c:Nat}{t:TypeId}(h:zL w c t)(o:Obj):zL (w.alloc o) c t:=by
 obtain⟨b,a,h⟩:=h;exact⟨b,a,by rw[Below.heap_alloc _ _ _ (lt_of_block h)];exact h⟩
theorem zL.new(w:World)(cs:Array Value)(t:TypeId):zL (w.alloc (O cs t)) w.heap.size t:=⟨cs,(0,0),heap_alloc_new w _⟩
theorem zL.of_block{w w':World}{c:Nat}{t:TypeId}(h:zL w c t)(e:w'.heap[c]?=w.heap[c]?):zL w' c t:=by
 obtain⟨b,a,h⟩:=h;exact⟨b,a,e.trans h⟩
theorem PM.setT{w:World}{base B s k b ev rv es rs}(h:PM w base B s k b ev rv es rs){c j:Nat}{u:Value}{t:TypeId}(d:zL w c t)(l:t≠104)(i:t≠148)(g:t≠143)(f:t≠155):PM (w.setCell ⟨c,j,P⟩ u) base B s k b ev rv es rs:=by
 obtain⟨n,m,a⟩:=d;refine⟨?_,ownsRow_setCell_other h.ex (zi h.ex a i) _,ownsRow_setCell_other h.rl (zi h.rl a g) _,λp hp=>ownsRow_setCell_other (h.it p hp) (zi (h.it p hp) a f) _,h.hB⟩;rw[za (λe=>by subst e;have:=h.blk;rw[a]at this;simp at this;exact l this.2.1)];exact h.blk
theorem PM.setN{w:World}{base B s k b ev rv es rs}(h:PM w base B s k b ev rv es rs){c j:Nat}{u:Value}(a:zL w c 141):PM (w.setCell ⟨c,j,P⟩ u) base B s k b ev rv es rs:=h.setT a oq oq oq oq
theorem Mv.setNew{base B:Nat}{a b c d:Value}{w e:World}(h:Mv base B a b c d w e){k j:Nat}(g:w.heap.size<=k)(f:base<=k)(u:Value):Mv base B a b c d w (e.setCell ⟨k,j,P⟩ u) :=
 ⟨h.bel.setCell f _,λx hx ho=>⟨(za ol).trans (h.kept x hx ho).1,(h.kept x hx ho).2⟩⟩
def YW(s:ByteArray)(k:Nat)(b:Bool):Bool:=decide (97<=zg s (zb s k b) b) && decide (zg s (zb s k b) b<=122)
def zR(s:ByteArray)(k:Nat)(b:Bool):Nat:=if YW s k b=N then zb s k b+1 else zb s k b
def zZ(s:ByteArray)(k:Nat)(b:Bool):Bool:=if YW s k b=N then b else N
theorem q9{s:ByteArray}{k:Nat}{b:Bool}(h:YW s k b=N):b=F/\zb s k b<s.size:=by
 unfold YW zg at h;cases b with
 |true=>simp at h
 | false =>
  by_cases a:zb s k F<s.size
  ·exact⟨rfl,a⟩
  ·simp[a]at h
theorem xT{s:ByteArray}{k:Nat}{b:Bool}(a:k<=s.size):zR s k b<=s.size:=by
 unfold zR;split
 ·next h=>have:=(q9 h).2;omega
 ·exact zO a
theorem js(a b:Int)(w:World):(Instr.build 141 #[(0,J Z a),(1,J Z b)]).run E w=.ok (.agg #[J Z a,J Z b]) w:=run_build w 141 _ _ kr
theorem zcO(b:Int)(w:World):(Instr.build 141 #[(1,J Z b)]).run E w=.ok (.agg #[J Z 0,J Z b]) w:=run_build w 141 _ _ kr
theorem QJ(base B:Nat)(s:ByteArray)(k:Nat)(b:Bool)(i g:Value)(L:List (EX×Value))(rs:List RL)(w:World)(hs:s.size<=2000)(X:k<=s.size)(h:PM w base B s k b i g L rs):
 Calls E 123 #[.pointer (S ⟨B,0,P⟩)] w λe w'=>e=.returned (.agg #[J Z (zg s (zb s k b) b),J Z (zb s k b)])/\PM w' base B s (zR s k b) (zZ s k b) i g L rs/\Mv base B i g i g w w':=by
 have H:Hd (PM (w.alloc (O #[J Z 0,J Z 0] 141)) base B s k b i g L rs):=h.alloc _;have U:Hd (Mv base B i g i g w (w.alloc (O #[J Z 0,J Z 0] 141))):=Mv.alloc h.bs _;have A:=h.outNew;have c:=h.bs;clear h;go_enter func123,ntmps123;go_wp2_with fail;refine(yl base B s k b i g L rs _ hs X H.o).mono ?_;rintro e w1 ⟨rfl,n,K⟩;have HP:Hd _:=n;have Y:Hd _:=K;clear n K;go_wp2_with fail;refine(ZK base B s (zb s k b) b i g L rs _ (zO X) HP.o).mono ?_;rintro e q ⟨rfl,n,K⟩;have a:Hd _:=n;have G:Hd (Mv base B i g i g w q):=U.o.trans (Y.o.trans K);have I:q.heap[w.heap.size]?=S (O #[J Z 0,J Z 0] 141 (0,0)):=((Y.o.trans K).kept _ ot A).1.trans (heap_alloc_new w _);have c1:=n.c1;have c2:=n.c2;have z1:=n.fz 1;have z2:=n.fz 2;have R:q.cell? ⟨w.heap.size,0,P⟩=S (J Z 0):=by simp[World.cell?,I]
 have Q:q.cell? ⟨w.heap.size,1,P⟩=S (J Z 0):=by simp[World.cell?,I]
 have rz:∀j,q.frozen? ⟨w.heap.size,j,P⟩=F:=λj=>by simp[World.frozen?,I]
 have f:Hd _:=I;have W:=n.lt;have a2:w.heap.size≠B:=A.1;have V:B≠w.heap.size:=λe=>A.1 e.symm
 have a5:q.heap.size≠B:=ol;have a4:B≠q.heap.size:=ol;have z:w.heap.size<q.heap.size:=lt_of_block I;have a3:w.heap.size≠q.heap.size:=ol;clear n K I;have hb:=YK s (zb s k b) b;have y:Hd (zR s k b=if YW s k b=N then zb s k b+1 else zb s k b):=rfl;have u:Hd (zZ s k b=if YW s k b=N then b else N):=rfl;have d:YW s k b=(decide (97<=zg s (zb s k b) b) && decide (zg s (zb s k b) b<=122)):=rfl;have r:YW s k b=N->zb s k b<s.size:=λh=>(q9 h).2
 generalize hxe:zg s (zb s k b) b=x at *;generalize hpe:zb s k b=p at *;have C:Hd _:=hxe;have D:Hd _:=hpe;clear hxe hpe;have a6:=λw=>js x p w
 by_cases h1:x<97
 ·have t:YW s k b=F:=by rw[d];simp;omega
  rw[t]at y u;have m:Hd _:=y.o;have l:Hd _:=u.o;clear d r t y u;go_wp2_with fail;exact bodyPost_ret (v:=.agg #[J Z x,J Z p]) (by simp[results,results123,go_sem,R,Q,z]) rfl ⟨by rw[D.o,C.o],by rw[m.o,l.o];exact((((a.o.bad N).setN (zL.set ⟨_,_,f.o⟩ _ _ _)).setN (zL.set (zL.set ⟨_,_,f.o⟩ _ _ _) _ _ _)).alloc _),(((G.o.trans (a.o.setMv 2 _)).setNew (Nat.le_refl _) c _).setNew (Nat.le_refl _) c _).trans (Mv.alloc (((a.o.bad N).setN (zL.set ⟨_,_,f.o⟩ _ _ _)).setN (zL.set (zL.set ⟨_,_,f.o⟩ _ _ _) _ _ _)).bs _)⟩
 ·by_cases h2:122<x
  ·have t:YW s k b=F:=(by rw[d];simp;omega);rw[t]at y u;have m:Hd _:=y.o;have l:Hd _:=u.o;clear d r t y u;go_wp2_with fail;exact bodyPost_ret (v:=.agg #[J Z x,J Z p]) (by simp[results,results123,go_sem,R,Q,z]) rfl ⟨by rw[D.o,C.o],by rw[m.o,l.o];exact((((a.o.bad N).setN (zL.set ⟨_,_,f.o⟩ _ _ _)).setN (zL.set (zL.set ⟨_,_,f.o⟩ _ _ _) _ _ _)).alloc _),(((G.o.trans (a.o.setMv 2 _)).setNew (Nat.le_refl _) c _).setNew (Nat.le_refl _) c _).trans (Mv.alloc (((a.o.bad N).setN (zL.set ⟨_,_,f.o⟩ _ _ _)).setN (zL.set (zL.set ⟨_,_,f.o⟩ _ _ _) _ _ _)).bs _)⟩
  ·have t:YW s k b=N:=(by rw[d];simp;omega);have a0:p<s.size:=r t;rw[t]at y u;have m:Hd _:=y.o;have l:Hd _:=u.o;clear d r t y u;have a1:(p:Int)<2000:=ol;go_wp2_with fail;exact bodyPost_ret (v:=.agg #[J Z x,J Z p]) (by simp[results,results123,go_sem,R,Q,z]) rfl ⟨by rw[D.o,C.o],by rw[m.o,l.o];exact((((a.o.at (p+1) _ ol).setN (zL.set ⟨_,_,f.o⟩ _ _ _)).setN (zL.set (zL.set ⟨_,_,f.o⟩ _ _ _) _ _ _)).alloc _),(((G.o.trans (a.o.setMv 1 _)).setNew (Nat.le_refl _) c _).setNew (Nat.le_refl _) c _).trans (Mv.alloc (((a.o.at (p+1) _ ol).setN (zL.set ⟨_,_,f.o⟩ _ _ _)).setN (zL.set (zL.set ⟨_,_,f.o⟩ _ _ _) _ _ _)).bs _)⟩
theorem YP{w:World}{B:Nat}{a b u:Value}{t:TypeId}(h:w.heap[B]?=S (O #[a,b] t (0,0))):(w.setCell ⟨B,0,P⟩ u).heap[B]?=S (O #[u,b] t (0,0)):=by
 simp[World.setCell,Array.getElem?_modify,h]
def nmF(s:ByteArray)(b:Bool):Nat->Nat->Nat
 |0,j=>j
 |n+1,j=>if T.dig (zg s j b)=N then nmF s b n (j+1)else j
def nmL(s:ByteArray)(p:Nat)(b:Bool):Nat:=if zg s p b=48 then 1 else 9
def nmE(s:ByteArray)(p:Nat)(b:Bool):Nat:=nmF s b (nmL s p b) p
def vl(s:ByteArray)(p:Nat):Nat->Int
 |0=>0
 |i+1=>vl s p i*10+(T.ch s (p+i)-48)
def zs(s:ByteArray)(k:Nat)(b:Bool):Nat:=nmE s (zb s k b) b
def zw(s:ByteArray)(k:Nat)(b:Bool):Bool:=if zs s k b=zb s k b then N else b
def zM(s:ByteArray)(k:Nat)(b:Bool):Int:=vl s (zb s k b) (zs s k b-zb s k b)
theorem X6{s:ByteArray}{j:Nat}{b:Bool}(h:T.dig (zg s j b)=N):b=F/\j<s.size/\zg s j b=T.ch s j:=by
 unfold zg at h⊢;cases b with
 |true=>simp[T.dig]at h
 | false =>
  by_cases a:j<s.size
  ·exact⟨rfl,a,by simp[a]⟩
  ·simp[a,T.dig]at h
theorem jO(s:ByteArray)(b:Bool):∀n j,j<=s.size->j<=nmF s b n j/\nmF s b n j<=s.size:=by
 intro n;induction n with
 |zero=>intro j h;exact⟨Nat.le_refl _,h⟩
 | succ n ih =>
  intro j h;simp only[nmF];split
  ·next hd=>have:=ih (j+1) (X6 hd).2.1;omega
  ·omega
theorem yb{s:ByteArray}{k:Nat}{b:Bool}(a:k<=s.size):zs s k b<=s.size:=(jO s b _ _ (zO a)).2
theorem Zv(base B:Nat)(s:ByteArray)(k:Nat)(b:Bool)(y u:Value)(es:List (EX×Value))(rs:List RL)(w:World)(hs:s.size<=2000)(hk:k<=s.size)(h:PM w base B s k b y u es rs):
 Calls E 161 #[.pointer (S ⟨B,0,P⟩)] w λe w'=>e=.returned (.agg #[J Z (zM s k b),J Z (zb s k b)])/\PM w' base B s (zs s k b) (zw s k b) y u es rs/\Mv base B y u y u w w':=by
 have H:Hd (PM (w.alloc (O #[J Z 0,J Z 0] 141)) base B s k b y u es rs):=h.alloc _;have e2:Hd (Mv base B y u y u w (w.alloc (O #[J Z 0,J Z 0] 141))):=Mv.alloc h.bs _;have K:=h.outNew;have d:=h.bs;clear h;go_enter func161,ntmps161;go_wp2_with fail;refine(yl base B s k b y u es rs _ hs hk H.o).mono ?_;rintro e q ⟨rfl,z,U⟩;have c4:Hd (q.heap[w.heap.size]?=S (O #[J Z 0,J Z 0] 141 (0,0))):=(U.kept _ ot K).1.trans (heap_alloc_new w _);have a4:zb s k b<=s.size:=zO hk;have Y:Hd (zs s k b=nmE s (zb s k b) b):=rfl;have t:Hd (zw s k b=if zs s k b=zb s k b then N else b):=rfl;have X:Hd (zM s k b=vl s (zb s k b) (zs s k b-zb s k b)):=rfl;generalize hpe:zb s k b=p at *;have r:Hd _:=hpe;clear hpe;have HP:Hd (PM (q.alloc (O #[J Z 0,J Z p] 141)) base B s p b y u es rs):=z.alloc _;have HM:Hd (Mv base B y u y u w (q.alloc (O #[J Z 0,J Z p] 141))):=(e2.o.trans U).trans (Mv.alloc z.bs _);have A:=z.outNew;have b8:w.heap.size<q.heap.size:=lt_of_block c4.o;have e0:Hd ((q.alloc (O #[J Z 0,J Z p] 141)).heap[w.heap.size]?=S (O #[J Z 0,J Z 0] 141 (0,0))):=(Below.heap_alloc _ _ _ b8).trans c4.o;have e1:Hd ((q.alloc (O #[J Z 0,J Z p] 141)).heap[q.heap.size]?=S (O #[J Z 0,J Z p] 141 (0,0))):=heap_alloc_new q _;have c1:=z.c1;have d9:=z.lt;clear z U;have e3:=λw=>zcO p w
 go_wp2_with fail;refine(ZK base B s p b y u es rs _ a4 HP.o).mono ?_;rintro e w2 ⟨rfl,z,U⟩;have c5:Hd _:=z;have c7:Hd _:=HM.o.trans U;have c3:Hd (w2.heap[w.heap.size]?=S (O #[J Z 0,J Z 0] 141 (0,0))):=(U.kept _ ow K).1.trans e0.o;have c6:Hd (w2.heap[q.heap.size]?=S (O #[J Z 0,J Z p] 141 (0,0))):=(U.kept _ ot A).1.trans e1.o;clear z U c1 d9;cases h48:(zg s p b==48)with
 | true =>
  have HL:Hd (nmL s p b=1):=by show _=_;unfold nmL;rw[if_pos (by simpa using h48)]
  go_wp2_with fail;go_loopg [4] 1 (λn x wr=>∃(j:Nat) (v:Int),p<=j/\j<=s.size/\n+(j-p)=1/\x=J .u8 (zg s j b)/\Hd (nmF s b n j=nmE s p b)/\Hd (v=vl s p (j-p))/\Hd (0<=v/\v+1<=10 ^ (j-p))/\PM wr base B s j b y u es rs/\Mv base B y u y u w wr /\
   wr.heap[w.heap.size]?=S (O #[J Z 0,J Z 0] 141 (0,0))/\wr.heap[q.heap.size]?=S (O #[J Z v,J Z p] 141 (0,0)))
  case atStart=>exact⟨p,0,Nat.le_refl _,a4,ol,rfl,by show _=_;unfold nmE;rw[HL.o],by show _=_;rw[Nat.sub_self];rfl,⟨Int.le_refl _,by rw[Nat.sub_self];decide⟩,c5.o,c7.o,c3.o,c6.o⟩
  case round =>
   obtain⟨j,v,d0,d5,hn,rfl,HF,HV,G,z,U,hr,C⟩:=hrel;have g:Hd _:=z;have l:Hd _:=U;have c:Hd _:=hr;have I:Hd _:=C;have c1:=z.c1;have c2:=z.c2;have z1:=z.fz 1;have z2:=z.fz 2;have n0:wr.cell? ⟨q.heap.size,0,P⟩=S (J Z v):=(by simp[World.cell?,C]);have n1:wr.cell? ⟨q.heap.size,1,P⟩=S (J Z p):=(by simp[World.cell?,C]);have nz:∀j,wr.frozen? ⟨q.heap.size,j,P⟩=F:=λj=>by simp[World.frozen?,C]
   have Q:wr.cell? ⟨w.heap.size,0,P⟩=S (J Z 0):=(by simp[World.cell?,hr]);have L:wr.cell? ⟨w.heap.size,1,P⟩=S (J Z 0):=(by simp[World.cell?,hr]);have rz:∀j,wr.frozen? ⟨w.heap.size,j,P⟩=F:=λj=>by simp[World.frozen?,hr]
   have a6:w.heap.size≠B:=K.1;have b9:B≠w.heap.size:=λe=>K.1 e.symm
   have a8:q.heap.size≠B:=A.1;have d3:B≠q.heap.size:=λe=>A.1 e.symm
   have a7:w.heap.size≠q.heap.size:=ol;clear z U hr C;have d6:(j:Int)<=2000:=ol;cases gk with
   | zero =>
    have a1:decide ((j:Int)-(p:Int)<1)=F:=decide_eq_false ol;have a:Hd (zs s k b=j):=by
     show _=_;rw[Y.o,<-HF.o];rfl
    have i:Hd (zM s k b=v):=by
     show _=_;rw[X.o,a.o];exact HV.o.symm
    cases hjp:((j:Int)==(p:Int))with
    | true =>
     have f:Hd (zw s k b=N):=by
      show _=_;rw[t.o,a.o,if_pos (by simp at hjp;omega)]
     go_wp2_with fail;go_quiet (fail)
     go_wp2_with fail;go_quiet (fail)
     go_wp2_with fail;exact bodyPost_ret (v:=.agg #[J Z v,J Z p]) (by simp[results,results161,go_sem,Q,L]) rfl ⟨by rw[r.o,i.o],by rw[a.o,f.o];exact(((g.o.drewN _).bad N).setN (zL.set ⟨_,_,c.o⟩ _ _ _)).setN (zL.set (zL.set ⟨_,_,c.o⟩ _ _ _) _ _ _),(((l.o.drewN _).trans ((g.o.drewN _).setMv 2 _)).setNew (Nat.le_refl _) d _).setNew (Nat.le_refl _) d _⟩
    | false =>
     have f:Hd (zw s k b=b):=by
      show _=_;rw[t.o,a.o,if_neg (by have:=beq_eq_false_iff_ne.1 hjp;omega)]
     go_wp2_with fail;go_quiet (fail)
     go_wp2_with fail;go_quiet (fail)
     go_wp2_with fail;exact bodyPost_ret (v:=.agg #[J Z v,J Z p]) (by simp[results,results161,go_sem,Q,L]) rfl ⟨by rw[r.o,i.o],by rw[a.o,f.o];exact((g.o.drewN _).setN ⟨_,_,c.o⟩).setN (zL.set ⟨_,_,c.o⟩ _ _ _),((l.o.drewN _).setNew (Nat.le_refl _) d _).setNew (Nat.le_refl _) d _⟩
   | succ m =>
    have a1:decide ((j:Int)-(p:Int)<1)=N:=decide_eq_true ol;have b1:(j:Int)-(p:Int)<1:=ol;cases hd:T.dig (zg s j b)with
    | true =>
     obtain⟨rfl,d4,a2⟩:=X6 hd;have b2:48<=zg s j F/\zg s j F<=57:=(by simpa[T.dig]using hd);obtain⟨d8,d7⟩:=b2;have b7:Hd (nmF s F m (j+1)=nmE s p F):=by
      show _=_;rw[<-HF.o,nmF,if_pos hd]
     have R:j+1-p=(j-p)+1:=ol;have a5:(10:Int) ^ (j-p)<=1000000000:=by
      have W:(10:Nat) ^ (j-p)<=10 ^ 9:=Nat.pow_le_pow_right ol ol;have V:((10 ^ (j-p):Nat):Int)<=((10 ^ 9:Nat):Int):=Int.ofNat_le.2 W;rw[Int.natCast_pow]at V;exact V
     have c9:0<=v:=G.o.1;have c8:v<1000000000:=(by have:=G.o.2;omega);have i:Hd (v*10+(zg s j F-48)=vl s p (j+1-p)):=by
      show _=_;rw[R];simp only[vl];rw[<-HV.o,a2,show p+(j-p)=j from by omega]
     have a3:Hd (0<=v*10+(zg s j F-48)/\v*10+(zg s j F-48)+1<=10 ^ (j+1-p)):=by
      have W:=G.o;show _/\_;rw[R,Int.pow_succ];omega
     clear hd a2 HF HV G a5 R;generalize zg s j F=x at *;have c0:(x-48)%256=x-48:=ol;go_wp2_with fail;go_quiet (fail)
     go_wp2_with fail;have a9:w.heap.size<wr.heap.size:=lt_of_block c.o;have b0:q.heap.size<wr.heap.size:=lt_of_block I.o;refine(ZK base B s (j+1) F y u es rs _ ol (((g.o.drewN _).setN ⟨_,_,I.o⟩).at (j+1) _ ol)).mono ?_;rintro e w5 ⟨rfl,a0,D⟩;have b4:Hd _:=a0;have b6:Hd (Mv base B y u y u w w5):=(((l.o.drewN _).setNew ol ol _).trans (((g.o.drewN _).setN ⟨_,_,I.o⟩).setMv 1 _)).trans D;have b3:Hd (w5.heap[w.heap.size]?=S (O #[J Z 0,J Z 0] 141 (0,0))):=(D.kept _ (by simp[World.size_setCell];exact a9) K).1.trans (by rw[za a6,za a7];exact c.o);have b5:Hd (w5.heap[q.heap.size]?=S (O #[J Z (v*10+(x-48)),J Z p] 141 (0,0))):=(D.kept _ (by simp[World.size_setCell];exact b0) A).1.trans (by rw[za a8];exact YP I.o);clear a0 D c1 c2 z1 z2 n0 n1 nz Q L rz;go_wp2_with fail;go_roundg m
     case measure=>omega
     case rel=>exact⟨j+1,_,ol,ol,ol,rfl,b7,i,a3,b4.o,b6.o,b3.o,b5.o⟩
    | false =>
     by_cases W:48<=zg s j b
     ·have V:¬zg s j b<=57:=λV=>by simp[T.dig,W,V]at hd
      have d1:decide (48<=zg s j b)=N:=decide_eq_true W;have d2:decide (zg s j b<=57)=F:=decide_eq_false V;have a:Hd (zs s k b=j):=by
       show _=_;rw[Y.o,<-HF.o];rw[nmF,if_neg (by rw[hd];decide)]
      have i:Hd (zM s k b=v):=by
       show _=_;rw[X.o,a.o];exact HV.o.symm
      cases hjp:((j:Int)==(p:Int))with
      | true =>
       have f:Hd (zw s k b=N):=by
        show _=_;rw[t.o,a.o,if_pos (by simp at hjp;omega)]
       go_wp2_with fail;go_quiet (fail)
       go_wp2_with fail;go_quiet (fail)
       go_wp2_with fail;exact bodyPost_ret (v:=.agg #[J Z v,J Z p]) (by simp[results,results161,go_sem,Q,L]) rfl ⟨by rw[r.o,i.o],by rw[a.o,f.o];exact(((g.o.drewN _).bad N).setN (zL.set ⟨_,_,c.o⟩ _ _ _)).setN (zL.set (zL.set ⟨_,_,c.o⟩ _ _ _) _ _ _),(((l.o.drewN _).trans ((g.o.drewN _).setMv 2 _)).setNew (Nat.le_refl _) d _).setNew (Nat.le_refl _) d _⟩
      | false =>
       have f:Hd (zw s k b=b):=by
        show _=_;rw[t.o,a.o,if_neg (by have:=beq_eq_false_iff_ne.1 hjp;omega)]
       go_wp2_with fail;go_quiet (fail)
       go_wp2_with fail;go_quiet (fail)
       go_wp2_with fail;exact bodyPost_ret (v:=.agg #[J Z v,J Z p]) (by simp[results,results161,go_sem,Q,L]) rfl ⟨by rw[r.o,i.o],by rw[a.o,f.o];exact((g.o.drewN _).setN ⟨_,_,c.o⟩).setN (zL.set ⟨_,_,c.o⟩ _ _ _),((l.o.drewN _).setNew (Nat.le_refl _) d _).setNew (Nat.le_refl _) d _⟩
     ·have d1:decide (48<=zg s j b)=F:=decide_eq_false W;have a:Hd (zs s k b=j):=by
       show _=_;rw[Y.o,<-HF.o];rw[nmF,if_neg (by rw[hd];decide)]
      have i:Hd (zM s k b=v):=by
       show _=_;rw[X.o,a.o];exact HV.o.symm
      cases hjp:((j:Int)==(p:Int))with
      | true =>
       have f:Hd (zw s k b=N):=by
        show _=_;rw[t.o,a.o,if_pos (by simp at hjp;omega)]
       go_wp2_with fail;go_quiet (fail)
       go_wp2_with fail;go_quiet (fail)
       go_wp2_with fail;exact bodyPost_ret (v:=.agg #[J Z v,J Z p]) (by simp[results,results161,go_sem,Q,L]) rfl ⟨by rw[r.o,i.o],by rw[a.o,f.o];exact(((g.o.drewN _).bad N).setN (zL.set ⟨_,_,c.o⟩ _ _ _)).setN (zL.set (zL.set ⟨_,_,c.o⟩ _ _ _) _ _ _),(((l.o.drewN _).trans ((g.o.drewN _).setMv 2 _)).setNew (Nat.le_refl _) d _).setNew (Nat.le_refl _) d _⟩
      | false =>
       have f:Hd (zw s k b=b):=by
        show _=_;rw[t.o,a.o,if_neg (by have:=beq_eq_false_iff_ne.1 hjp;omega)]
       go_wp2_with fail;go_quiet (fail)
       go_wp2_with fail;go_quiet (fail)
       go_wp2_with fail;exact bodyPost_ret (v:=.agg #[J Z v,J Z p]) (by simp[results,results161,go_sem,Q,L]) rfl ⟨by rw[r.o,i.o],by rw[a.o,f.o];exact((g.o.drewN _).setN ⟨_,_,c.o⟩).setN (zL.set ⟨_,_,c.o⟩ _ _ _),((l.o.drewN _).setNew (Nat.le_refl _) d _).setNew (Nat.le_refl _) d _⟩
 | false =>
  have HL:Hd (nmL s p b=9):=by show _=_;unfold nmL;rw[if_neg (by simpa using h48)]
  go_wp2_with fail;go_loopg [4] 9 (λn x wr=>∃(j:Nat) (v:Int),p<=j/\j<=s.size/\n+(j-p)=9/\x=J .u8 (zg s j b)/\Hd (nmF s b n j=nmE s p b)/\Hd (v=vl s p (j-p))/\Hd (0<=v/\v+1<=10 ^ (j-p))/\PM wr base B s j b y u es rs/\Mv base B y u y u w wr /\
   wr.heap[w.heap.size]?=S (O #[J Z 0,J Z 0] 141 (0,0))/\wr.heap[q.heap.size]?=S (O #[J Z v,J Z p] 141 (0,0)))
  case atStart=>exact⟨p,0,Nat.le_refl _,a4,ol,rfl,by show _=_;unfold nmE;rw[HL.o],by show _=_;rw[Nat.sub_self];rfl,⟨Int.le_refl _,by rw[Nat.sub_self];decide⟩,c5.o,c7.o,c3.o,c6.o⟩
  case round =>
   obtain⟨j,v,d0,d5,hn,rfl,HF,HV,G,z,U,hr,C⟩:=hrel;have g:Hd _:=z;have l:Hd _:=U;have c:Hd _:=hr;have I:Hd _:=C;have c1:=z.c1;have c2:=z.c2;have z1:=z.fz 1;have z2:=z.fz 2;have n0:wr.cell? ⟨q.heap.size,0,P⟩=S (J Z v):=(by simp[World.cell?,C]);have n1:wr.cell? ⟨q.heap.size,1,P⟩=S (J Z p):=(by simp[World.cell?,C]);have nz:∀j,wr.frozen? ⟨q.heap.size,j,P⟩=F:=λj=>by simp[World.frozen?,C]
   have Q:wr.cell? ⟨w.heap.size,0,P⟩=S (J Z 0):=(by simp[World.cell?,hr]);have L:wr.cell? ⟨w.heap.size,1,P⟩=S (J Z 0):=(by simp[World.cell?,hr]);have rz:∀j,wr.frozen? ⟨w.heap.size,j,P⟩=F:=λj=>by simp[World.frozen?,hr]
   have a6:w.heap.size≠B:=K.1;have b9:B≠w.heap.size:=λe=>K.1 e.symm
   have a8:q.heap.size≠B:=A.1;have d3:B≠q.heap.size:=λe=>A.1 e.symm
   have a7:w.heap.size≠q.heap.size:=ol;clear z U hr C;have d6:(j:Int)<=2000:=ol;cases gk with
   | zero =>
    have a1:decide ((j:Int)-(p:Int)<9)=F:=decide_eq_false ol;have a:Hd (zs s k b=j):=by
     show _=_;rw[Y.o,<-HF.o];rfl
    have i:Hd (zM s k b=v):=by
     show _=_;rw[X.o,a.o];exact HV.o.symm
    cases hjp:((j:Int)==(p:Int))with
    | true =>
     have f:Hd (zw s k b=N):=by
      show _=_;rw[t.o,a.o,if_pos (by simp at hjp;omega)]
     go_wp2_with fail;go_quiet (fail)
     go_wp2_with fail;go_quiet (fail)
     go_wp2_with fail;exact bodyPost_ret (v:=.agg #[J Z v,J Z p]) (by simp[results,results161,go_sem,Q,L]) rfl ⟨by rw[r.o,i.o],by rw[a.o,f.o];exact(((g.o.drewN _).bad N).setN (zL.set ⟨_,_,c.o⟩ _ _ _)).setN (zL.set (zL.set ⟨_,_,c.o⟩ _ _ _) _ _ _),(((l.o.drewN _).trans ((g.o.drewN _).setMv 2 _)).setNew (Nat.le_refl _) d _).setNew (Nat.le_refl _) d _⟩
    | false =>
     have f:Hd (zw s k b=b):=by
      show _=_;rw[t.o,a.o,if_neg (by have:=beq_eq_false_iff_ne.1 hjp;omega)]
     go_wp2_with fail;go_quiet (fail)
     go_wp2_with fail;go_quiet (fail)
     go_wp2_with fail;exact bodyPost_ret (v:=.agg #[J Z v,J Z p]) (by simp[results,results161,go_sem,Q,L]) rfl ⟨by rw[r.o,i.o],by rw[a.o,f.o];exact((g.o.drewN _).setN ⟨_,_,c.o⟩).setN (zL.set ⟨_,_,c.o⟩ _ _ _),((l.o.drewN _).setNew (Nat.le_refl _) d _).setNew (Nat.le_refl _) d _⟩
   | succ m =>
    have a1:decide ((j:Int)-(p:Int)<9)=N:=decide_eq_true ol;have b1:(j:Int)-(p:Int)<9:=ol;cases hd:T.dig (zg s j b)with
    | true =>
     obtain⟨rfl,d4,a2⟩:=X6 hd;have b2:48<=zg s j F/\zg s j F<=57:=(by simpa[T.dig]using hd);obtain⟨d8,d7⟩:=b2;have b7:Hd (nmF s F m (j+1)=nmE s p F):=by
      show _=_;rw[<-HF.o,nmF,if_pos hd]
     have R:j+1-p=(j-p)+1:=ol;have a5:(10:Int) ^ (j-p)<=1000000000:=by
      have W:(10:Nat) ^ (j-p)<=10 ^ 9:=Nat.pow_le_pow_right ol ol;have V:((10 ^ (j-p):Nat):Int)<=((10 ^ 9:Nat):Int):=Int.ofNat_le.2 W;rw[Int.natCast_pow]at V;exact V
     have c9:0<=v:=G.o.1;have c8:v<1000000000:=(by have:=G.o.2;omega);have i:Hd (v*10+(zg s j F-48)=vl s p (j+1-p)):=by
      show _=_;rw[R];simp only[vl];rw[<-HV.o,a2,show p+(j-p)=j from by omega]
     have a3:Hd (0<=v*10+(zg s j F-48)/\v*10+(zg s j F-48)+1<=10 ^ (j+1-p)):=by
      have W:=G.o;show _/\_;rw[R,Int.pow_succ];omega
     clear hd a2 HF HV G a5 R;generalize zg s j F=x at *;have c0:(x-48)%256=x-48:=ol;go_wp2_with fail;go_quiet (fail)
     go_wp2_with fail;have a9:w.heap.size<wr.heap.size:=lt_of_block c.o;have b0:q.heap.size<wr.heap.size:=lt_of_block I.o;refine(ZK base B s (j+1) F y u es rs _ ol (((g.o.drewN _).setN ⟨_,_,I.o⟩).at (j+1) _ ol)).mono ?_;rintro e w5 ⟨rfl,a0,D⟩;have b4:Hd _:=a0;have b6:Hd (Mv base B y u y u w w5):=(((l.o.drewN _).setNew ol ol _).trans (((g.o.drewN _).setN ⟨_,_,I.o⟩).setMv 1 _)).trans D;have b3:Hd (w5.heap[w.heap.size]?=S (O #[J Z 0,J Z 0] 141 (0,0))):=(D.kept _ (by simp[World.size_setCell];exact a9) K).1.trans (by rw[za a6,za a7];exact c.o);have b5:Hd (w5.heap[q.heap.size]?=S (O #[J Z (v*10+(x-48)),J Z p] 141 (0,0))):=(D.kept _ (by simp[World.size_setCell];exact b0) A).1.trans (by rw[za a8];exact YP I.o);clear a0 D c1 c2 z1 z2 n0 n1 nz Q L rz;go_wp2_with fail;go_roundg m
     case measure=>omega
     case rel=>exact⟨j+1,_,ol,ol,ol,rfl,b7,i,a3,b4.o,b6.o,b3.o,b5.o⟩
    | false =>
     by_cases W:48<=zg s j b
     ·have V:¬zg s j b<=57:=λV=>by simp[T.dig,W,V]at hd
      have d1:decide (48<=zg s j b)=N:=decide_eq_true W;have d2:decide (zg s j b<=57)=F:=decide_eq_false V;have a:Hd (zs s k b=j):=by
       show _=_;rw[Y.o,<-HF.o];rw[nmF,if_neg (by rw[hd];decide)]
      have i:Hd (zM s k b=v):=by
       show _=_;rw[X.o,a.o];exact HV.o.symm
      cases hjp:((j:Int)==(p:Int))with
      | true =>
       have f:Hd (zw s k b=N):=by
        show _=_;rw[t.o,a.o,if_pos (by simp at hjp;omega)]
       go_wp2_with fail;go_quiet (fail)
       go_wp2_with fail;go_quiet (fail)
       go_wp2_with fail;exact bodyPost_ret (v:=.agg #[J Z v,J Z p]) (by simp[results,results161,go_sem,Q,L]) rfl ⟨by rw[r.o,i.o],by rw[a.o,f.o];exact(((g.o.drewN _).bad N).setN (zL.set ⟨_,_,c.o⟩ _ _ _)).setN (zL.set (zL.set ⟨_,_,c.o⟩ _ _ _) _ _ _),(((l.o.drewN _).trans ((g.o.drewN _).setMv 2 _)).setNew (Nat.le_refl _) d _).setNew (Nat.le_refl _) d _⟩
      | false =>
       have f:Hd (zw s k b=b):=by
        show _=_;rw[t.o,a.o,if_neg (by have:=beq_eq_false_iff_ne.1 hjp;omega)]
       go_wp2_with fail;go_quiet (fail)
       go_wp2_with fail;go_quiet (fail)
       go_wp2_with fail;exact bodyPost_ret (v:=.agg #[J Z v,J Z p]) (by simp[results,results161,go_sem,Q,L]) rfl ⟨by rw[r.o,i.o],by rw[a.o,f.o];exact((g.o.drewN _).setN ⟨_,_,c.o⟩).setN (zL.set ⟨_,_,c.o⟩ _ _ _),((l.o.drewN _).setNew (Nat.le_refl _) d _).setNew (Nat.le_refl _) d _⟩
     ·have d1:decide (48<=zg s j b)=F:=decide_eq_false W;have a:Hd (zs s k b=j):=by
       show _=_;rw[Y.o,<-HF.o];rw[nmF,if_neg (by rw[hd];decide)]
      have i:Hd (zM s k b=v):=by
       show _=_;rw[X.o,a.o];exact HV.o.symm
      cases hjp:((j:Int)==(p:Int))with
      | true =>
       have f:Hd (zw s k b=N):=by
        show _=_;rw[t.o,a.o,if_pos (by simp at hjp;omega)]
       go_wp2_with fail;go_quiet (fail)
       go_wp2_with fail;go_quiet (fail)
       go_wp2_with fail;exact bodyPost_ret (v:=.agg #[J Z v,J Z p]) (by simp[results,results161,go_sem,Q,L]) rfl ⟨by rw[r.o,i.o],by rw[a.o,f.o];exact(((g.o.drewN _).bad N).setN (zL.set ⟨_,_,c.o⟩ _ _ _)).setN (zL.set (zL.set ⟨_,_,c.o⟩ _ _ _) _ _ _),(((l.o.drewN _).trans ((g.o.drewN _).setMv 2 _)).setNew (Nat.le_refl _) d _).setNew (Nat.le_refl _) d _⟩
      | false =>
       have f:Hd (zw s k b=b):=by
        show _=_;rw[t.o,a.o,if_neg (by have:=beq_eq_false_iff_ne.1 hjp;omega)]
       go_wp2_with fail;go_quiet (fail)
       go_wp2_with fail;go_quiet (fail)
       go_wp2_with fail;exact bodyPost_ret (v:=.agg #[J Z v,J Z p]) (by simp[results,results161,go_sem,Q,L]) rfl ⟨by rw[r.o,i.o],by rw[a.o,f.o];exact((g.o.drewN _).setN ⟨_,_,c.o⟩).setN (zL.set ⟨_,_,c.o⟩ _ _ _),((l.o.drewN _).setNew (Nat.le_refl _) d _).setNew (Nat.le_refl _) d _⟩
end Go.Proofs.YtaebngpoagjafabGreat
