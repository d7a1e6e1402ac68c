import Derived.Test.YtaebngpoagjafabGreatQ47
import Derived.Test.YtaebngpoagjafabGreatQ48
set_option maxRecDepth 100000
set_option maxHeartbeats 1600000
namespace Go.Proofs.YtaebngpoagjafabGreat
open Proofs.Tryz renaming prog → F
open Option renaming none → N,some → S
open Proofs.Tryz
open Obj renaming cells → Q
open Value renaming int → J, slice → O
open IntKind renaming i64 → Z
open Go.RowKit
attribute [local go_sem ↓] Go.wp_at_zero Go.wp_at_succ
theorem zbx(l k j i:Int)(s:ByteArray)(w:World):
 Calls F 32 #[.agg #[J Z 3,J Z l,J Z k,J Z j,J Z i,.string s]] w λe w'=>e=.returned (.bool true)/\Below w.heap.size w w':=by
 obtain⟨c,r⟩:∃c,cSz s=c:=⟨_,rfl⟩;have p:=λwz=>zcT s wz
 have q:=λwz=>qH s wz
 rw[r]at p q;obtain⟨x,v⟩:=c;clear r;have h:Hd (Below w.heap.size w (w.alloc (Q #[J Z 3,J Z l,J Z k,J Z j,J Z i,.string s] 53))):=(Below.refl _ _).alloc (Nat.le_refl _) _;have f:Hd ((w.alloc (Q #[J Z 3,J Z l,J Z k,J Z j,J Z i,.string s] 53)).heap[w.heap.size]?=S (Q #[J Z 3,J Z l,J Z k,J Z j,J Z i,.string s] 53 (0,0))):=heap_alloc_new w _;go_enter func32,ntmps32;go_wp2_with fail;refine(p _).mono ?_;rintro e n ⟨a,rfl⟩;have g:Hd (Below w.heap.size w n):=h.o.trans (a.mono h.o.size);have b:=(a.block _ (lt_of_block f.o)).trans f.o;have u:n.cell? ⟨w.heap.size,5,N⟩=S (.string s):=by simp[World.cell?,b]
 clear a b;go_wp2_with fail;refine(q _).mono ?_;rintro e t ⟨d,rfl⟩;have m:Hd (Below w.heap.size w t):=g.o.trans (d.mono g.o.size);clear d;go_wp2_with fail;go_ret;exact⟨rfl,m.o⟩
theorem zbz(j:Nat)(h g f d:Int)(c:ByteArray)(w:World):
 Calls F 14 #[.pointer (S ⟨j,0,N⟩),.agg #[J Z 3,J Z h,J Z g,J Z f,J Z d,.string c]] w λe w'=>e=.returned (.bool true)/\Below w.heap.size w w':=by
 have b:Hd (Below w.heap.size w (w.alloc (Q #[J Z 3,J Z h,J Z g,J Z f,J Z d,.string c] 53))):=(Below.refl _ _).alloc (Nat.le_refl _) _;go_enter func14,ntmps14;go_wp2_with fail;refine(zbx h g f d c _).mono ?_;rintro e k ⟨rfl,a⟩;have i:Hd _:=b.o.trans (a.mono b.o.size);clear a;go_wp2_with fail;go_ret;exact⟨rfl,i.o⟩
section
def StA(base SB n:Nat)(wv:Value)(w:World)(e:Ending)(w':World):Prop:=e=.returned (.bool true)/\Below base w w'/\∃cv sv iv bv cs is bs ps,ST w' base SB (n+1) wv cv sv iv bv cs is bs/\SRV w' base sv iv ps/\ps.length<=n+1
section
variable {w w':World} {base SB n:Nat} {wv cv sv iv bv:Value} {cs:List (ByteArray×ByteArray)} {is bs:List Value} {ps:List PrS} {e:Ending}
theorem StA.of_s(h:StS base SB n wv cv bv cs bs w e w'):StA base SB n wv w e w':=by
 obtain⟨k,j,a,c,d,b,i,g,f⟩:=h;exact⟨k,j,cv,a,c,bv,cs,d,bs,b,i,g,f⟩
theorem StA.of_q(a:ST w base SB n wv cv sv iv bv cs is bs)(b:SRV w base sv iv ps)(c:ps.length<=n)(h:QyT base SB n wv cv sv iv bv cs bs w e w'):StA base SB n wv w e w':=StA.of_s (StS.queried a b c h)
theorem StA.of_b(a:ST w base SB n wv cv sv iv bv cs is bs)(b:SRV w base sv iv ps)(d:ps.length<=n)(c:Below w.heap.size w w'):StA base SB n wv w (.returned (.bool true)) w' :=
 ⟨rfl,c.mono (Nat.le_trans a.hB (Nat.le_of_lt a.lt)),cv,sv,iv,bv,cs,is,bs,ps,(a.below c).mono,b.below c,ol⟩
theorem StA.of_c(d:ST w base SB n wv cv sv iv bv cs is bs)(i:SRV w base sv iv ps)(E:ps.length<=n)(h:CpK base SB n wv cv sv iv bv is w e w'):StA base SB n wv w e w':=by
 obtain⟨D,u,m,q,o,r,C,y⟩:=h;have z:base<=w.heap.size:=Nat.le_trans d.hB (Nat.le_of_lt d.lt);have s:w.heap.size<=w'.heap.size:=u.size;have a:∀(b:Nat) (c:Array Value) (t:TypeId) (f:Nat×Nat),w.heap[b]?=S (Q c t f)->t≠51->t≠57->t≠124->w'.heap[b]?=w.heap[b]?:=λb c t f hb e1 e2 e3=>y b (lt_of_block hb) (zJ hb d.blk e1) (λe=>by
  obtain⟨x,v,k⟩:=Z0 d.br e;exact zJ hb k e2 rfl) (λe=>by
  obtain⟨x,v,k⟩:=Z0 d.cr e;exact zJ hb k e3 rfl)
 refine⟨D,u,m,sv,iv,q,o,is,r,ps,C,⟨zd i.row (λg hg=>?_),λp hp=>⟨?_,(i.ok p hp).2⟩,i.dis⟩,ol⟩
 ·obtain⟨c,f,l⟩:=Z0 i.row hg;exact a g _ _ _ l oq oq oq
 ·have j:=(i.ok p hp).1;obtain⟨I,G,B⟩:=j.sv.blk;obtain⟨H,F,A⟩:=j.rf.blk;refine⟨j.sv.of s (λ_ h _=>h) (a _ _ _ _ B oq oq oq) (λb _ t _ _ ht hb=>a b _ t _ hb ?_ ?_ ?_),j.rf.of s (λ_ h _=>h) (a _ _ _ _ A oq oq oq) (λg hg=>?_) (λb _ t _ _ ht hb=>a b _ t _ hb ?_ ?_ ?_),j.st,j.dd,j.pp⟩
  ·rcases ht with rfl|rfl|rfl<;>decide
  ·rcases ht with rfl|rfl|rfl<;>decide
  ·rcases ht with rfl|rfl|rfl<;>decide
  ·obtain⟨x,v,k⟩:=j.rf.ablk hg;exact a g _ _ _ k oq oq oq
  ·rcases ht with rfl|rfl<;>decide
  ·rcases ht with rfl|rfl<;>decide
  ·rcases ht with rfl|rfl<;>decide
theorem StA.trans{a:World}(c:Below a.heap.size a w)(b:base<=a.heap.size)(h:StA base SB n wv w e w'):StA base SB n wv a e w':=⟨h.1,(c.mono b).trans h.2.1,h.2.2⟩
end
theorem zbE(base d n:Nat)(j:Option Addr)(D i m b:Nat)(X:Nat->WD)(B x y bv:Value)(cs:List (ByteArray×ByteArray))(is C:List Value)(I:List PrS)(g q p l k:Int)(f:ByteArray)(w:World)(G:(n+1)*56<=140737488355328)(K:m*96<=140737488351232)(E:f.size<=140737488351232)(H:XS w j D i m X)(c:ST w base d n (O j m b) B x y bv cs is C)(r:SRV w base x y I)(t:I.length<=n)(a0:-9223372036854775808<=q)(a1:q<=9223372036854775807)(R:-9223372036854775808<=p)(P:p<=9223372036854775807)(Y:-9223372036854775808<=l)(L:l<=9223372036854775807)(W:-9223372036854775808<=k)(V:k<=9223372036854775807)(U:g=4\/g=5\/g=6):
 Calls F 14 #[.pointer (S ⟨d,0,N⟩),.agg #[J Z g,J Z q,J Z p,J Z l,J Z k,.string f]] w (StA base d n (O j m b) w):=by
 have a:Hd (Below w.heap.size w (w.alloc (Q #[J Z g,J Z q,J Z p,J Z l,J Z k,.string f] 53))):=(Below.refl _ _).alloc (Nat.le_refl _) _;have u:Hd (base<=w.heap.size):=Nat.le_trans c.hB (Nat.le_of_lt c.lt);have HC:Hd (Calls F 33 #[.pointer (S ⟨d,0,N⟩),.string f] (w.alloc (Q #[J Z g,J Z q,J Z p,J Z l,J Z k,.string f] 53)) (StA base d n (O j m b) w)):=(Q4 base d n _ B x y bv cs is C f _ G (c.below a.o)).mono λ_ _ h=>(StA.of_c (c.below a.o) (r.below a.o) t h).trans a.o u.o
 have HR:Hd (Calls F 34 #[.pointer (S ⟨d,0,N⟩),.agg #[J Z g,J Z q,J Z p,J Z l,J Z k,.string f]] (w.alloc (Q #[J Z g,J Z q,J Z p,J Z l,J Z k,.string f] 53)) (StA base d n (O j m b) w)):=(zdl base d n j D i m b X B x y bv cs is C g q p l k f _ G K (H.below a.o) (c.below a.o) a0 a1 R P Y L W V).mono λ_ _ h=>(StA.of_q (c.below a.o) (r.below a.o) t h).trans a.o u.o
 have HW:Hd (Calls F 35 #[.pointer (S ⟨d,0,N⟩),.agg #[J Z g,J Z q,J Z p,J Z l,J Z k,.string f]] (w.alloc (Q #[J Z g,J Z q,J Z p,J Z l,J Z k,.string f] 53)) (StA base d n (O j m b) w)):=(zdk base d n j D i m b X B x y bv cs is C g q p l k f _ G K E (H.below a.o) (c.below a.o) R P L).mono λ_ _ h=>(StA.of_q (c.below a.o) (r.below a.o) t h).trans a.o u.o
 clear c r H;rcases U with rfl|rfl|rfl
 ·go_enter func14,ntmps14;go_wp2_with fail;refine HC.o.mono ?_;rintro e v z;obtain⟨rfl,s⟩:=z;have A:Hd (StA base d n (O j m b) w (.returned (.bool true)) v):=⟨rfl,s⟩;clear s;go_wp2_with fail;go_ret;exact A.o
 ·go_enter func14,ntmps14;go_wp2_with fail;refine HR.o.mono ?_;rintro e v z;obtain⟨rfl,s⟩:=z;have A:Hd (StA base d n (O j m b) w (.returned (.bool true)) v):=⟨rfl,s⟩;clear s;go_wp2_with fail;go_ret;exact A.o
 ·go_enter func14,ntmps14;go_wp2_with fail;refine HW.o.mono ?_;rintro e v z;obtain⟨rfl,s⟩:=z;have A:Hd (StA base d n (O j m b) w (.returned (.bool true)) v):=⟨rfl,s⟩;clear s;go_wp2_with fail;go_ret;exact A.o
end
theorem zeF(z so:Option Addr)(wb s m f sb C H sc:Nat)(X:Nat->WD)(G r:Nat)(A Bi Dr:Nat->Int)(Dn Al:Nat->Value)(po:Nat->Option Addr)(pn pc pb D:Nat->Nat)(V L R:Nat->Nat->Int)(l OA OB OC OD:Nat->Int)(y:Nat->ByteArray)(w:World)(hm:m*96<=140737488351232)(hX:XS w z wb s m X)(hW:WS w z G r m A Bi Dr Dn Al po pn pc pb D V L R)(hn:H*56<=140737488351232)(hs:OS w so sb C H l OA OB OC OD y)(U:∀i,i<H->(-9223372036854775808<=OA i/\OA i<=9223372036854775807)/\(-9223372036854775808<=OB i/\OB i<=9223372036854775807)/\(-9223372036854775808<=OC i/\OC i<=9223372036854775807)/\(-9223372036854775808<=OD i/\OD i<=9223372036854775807)/\(y i).size<=140737488351232):
 Calls F 5 #[O z m f,O so H sc] w λe w'=>e=.returned (.bool true)/\Below w.heap.size w w':=by
 have a6:Hd _:=U;clear U;go_enter func5,ntmps5;go_wp2_with fail;have t:Below w.heap.size w (w.alloc (Q #[J Z 1,J Z 2,J Z 3,J Z 4,J Z 5,J Z 6,J Z 7,J Z 8,J Z 9,J Z 10,J Z 11,J Z 12] 3)):=(Below.refl _ _).alloc (Nat.le_refl _) _;have HO:Hd _:=hs.below t;have HX:Hd _:=hX.below t;have a5:Hd _:=hW.below t;have P:(w.alloc (Q #[J Z 1,J Z 2,J Z 3,J Z 4,J Z 5,J Z 6,J Z 7,J Z 8,J Z 9,J Z 10,J Z 11,J Z 12] 3)).heap[w.heap.size]?=S (Q #[J Z 1,J Z 2,J Z 3,J Z 4,J Z 5,J Z 6,J Z 7,J Z 8,J Z 9,J Z 10,J Z 11,J Z 12] 3 (0,0)):=heap_alloc_new w _;have a3:w.heap.size<(w.alloc (Q #[J Z 1,J Z 2,J Z 3,J Z 4,J Z 5,J Z 6,J Z 7,J Z 8,J Z 9,J Z 10,J Z 11,J Z 12] 3)).heap.size:=ot;have Y:Hd _:=t;generalize w.alloc (Q #[J Z 1,J Z 2,J Z 3,J Z 4,J Z 5,J Z 6,J Z 7,J Z 8,J Z 9,J Z 10,J Z 11,J Z 12] 3)=w1 at *;clear hs t hX hW;have I:∀i,i<12->w1.cell? ⟨w.heap.size,i,N⟩=S (J Z (1+(i:Int))):=λi hi=>by
  rw[cell_of_row _ _ _ _ _ _ P];match i,hi with
  |0,_=>rfl
  |1,_=>rfl
  |2,_=>rfl
  |3,_=>rfl
  |4,_=>rfl
  |5,_=>rfl
  |6,_=>rfl
  |7,_=>rfl
  |8,_=>rfl
  |9,_=>rfl
  |10,_=>rfl
  |11,_=>rfl
 refine(zdt (λi wq=>Below w1.heap.size w1 wq/\∃n g j bv p is q k,ST wq w1.heap.size w1.heap.size i (O z m f) n g j bv p is q/\SRV wq w1.heap.size g j k/\k.length<=i)
  z so m f sb C H sc w.heap.size 12 12 l OA OB OC OD y (λi=>1+(i:Int)) w1 hn ol HO.o a3 I
  ⟨(Below.refl _ _).alloc (Nat.le_refl _) _,O N 0 0,O N 0 0,O N 0 0,O N 0 0,[],[],[],[],⟨heap_alloc_new _ _,World.ownsRow_nil _ _ _ _,World.ownsRow_nil _ _ _ _,World.ownsRow_nil _ _ _ _,λx hx=>by simp at hx,λi v hv=>by simp at hv,λi v hv=>by simp at hv,Nat.le_refl _,Nat.le_refl _,Nat.le_refl _,Nat.le_refl _⟩,ze3 _ _ _,Nat.le_refl _⟩ ?_ ?_ ?_).mono ?_
 ·rintro i wq wr ⟨a,n,g,j,bv,p,is,q,k,h,u,B⟩ hz E;exact⟨⟨a.trans (E.mono (Nat.le_of_lt hz)),n,g,j,bv,p,is,q,k,h.below E,u.below E,B⟩,⟨a.trans (E.mono (Nat.le_of_lt hz)),n,g,j,bv,p,is,q,k,(h.below E).mono,u.below E,ol⟩⟩
 ·rintro i wq hi ⟨a,n,g,j,bv,p,is,q,k,h,u,B⟩;refine(zcd w1.heap.size w1.heap.size i _ n g j bv p is q wq ol h).mono ?_;rintro e w' ⟨rfl,b⟩;exact⟨rfl,⟨a.trans (b.mono a.size),n,g,j,bv,p,is,q,k,h.below b,u.below b,B⟩,b.mono (Nat.le_of_lt h.lt)⟩
 ·rintro i wq hi ⟨a,n,g,j,bv,p,is,q,k,h,u,B⟩ E a7 hk;obtain⟨⟨a0,a1⟩,⟨b0,b1⟩,⟨c0,c1⟩,⟨d0,d1⟩,a2⟩:=a6.o i hi;have d:∀e w',StA w1.heap.size w1.heap.size i (O z m f) wq e w'->e=.returned (.bool true)/\(Below w1.heap.size w1 w'/\∃n g j bv p is q k,ST w' w1.heap.size w1.heap.size (i+1) (O z m f) n g j bv p is q/\SRV w' w1.heap.size g j k/\k.length<=i+1)/\Below w1.heap.size wq w':=λe w' hh=>⟨hh.1,⟨a.trans hh.2.1,hh.2.2⟩,hh.2.1⟩
  have a4:l i=1\/l i=2\/l i=3\/(l i=4\/l i=5\/l i=6)\/l i=7\/(l i=8\/l i=9\/l i=10\/l i=11\/l i=12):=by
   simp only[qW,Bool.or_eq_true,Bool.false_or,beq_iff_eq]at hk;omega
  rcases a4 with hk1|hk1|hk1|hk1|hk1|hk1
  ·rw[hk1];refine(zad w1.heap.size z G r m f A Bi Dr Dn Al po pn pc pb D V L R _ _ _ _ _ wq hm (a5.o.below a) (by have:=h.c 0;simpa using this) h.lt a0 a1).mono ?_;rintro e w' ⟨rfl,b⟩;exact d _ _ (StA.of_b h u B b)
  ·rw[hk1];refine(zaf w1.heap.size _ _ _ _ _ wq).mono ?_;rintro e w' ⟨rfl,b⟩;exact d _ _ (StA.of_b h u B b)
  ·rw[hk1];refine(zbz w1.heap.size _ _ _ _ _ wq).mono ?_;rintro e w' ⟨rfl,b⟩;exact d _ _ (StA.of_b h u B b)
  ·exact(zbE w1.heap.size w1.heap.size i z wb s m f X n g j bv p is q k _ _ _ _ _ _ wq ol hm a2 (HX.o.below a) h u B a0 a1 b0 b1 c0 c1 d0 d1 hk1).mono (λe w' hh=>d e w' hh)
  ·rw[hk1];exact(zac w1.heap.size w1.heap.size i _ n g j bv p is q k _ _ _ _ _ wq ol h u B).mono (λe w' hh=>d e w' (StA.of_s hh))
  ·exact(zbF w1.heap.size w1.heap.size i w1 z wb s m f X n g j bv p is q k _ _ _ _ _ _ wq ol h u B HX.o a (Nat.le_refl _) hm a0 a1 b0 b1 c0 c1 hk1).mono (λe w' hh=>d e w' (StA.of_s hh))
 ·rintro e w2 ⟨rfl,W⟩;have K:Hd _:=Y.o.trans (W.mono Y.o.size);clear W;go_wp2_with fail;go_ret;exact⟨rfl,K.o⟩
end Go.Proofs.YtaebngpoagjafabGreat
