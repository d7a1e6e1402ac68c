import Derived.Test.YtaebngpoagjafabGreatQ14
import Derived.Test.YtaebngpoagjafabGreatQ20
set_option maxRecDepth 100000
set_option maxHeartbeats 800000
namespace Go.Proofs.YtaebngpoagjafabGreat
open Option renaming none → F,some → N
open Proofs.Tryz renaming prog → S
open Proofs.Tryz
open Obj renaming cells → Q
open Value renaming int → J, slice → O
open IntKind renaming i64 → Z
open Go.RowKit
attribute [local go_sem ↓] Go.wp_at_zero Go.wp_at_succ
def atF(K:List Int)(i:Int):Int:=if i<0 then 0 else(K[i.toNat]?).getD 0
def NV(w:World)(ko:Option Addr)(K:List Int):Prop:=∀i v,K[i]?=N v->∃g,ko=N ⟨g,0,F⟩/\g<w.heap.size/\w.cell? ⟨g,i,F⟩=N (J Z v)
theorem NV.below{w w':World}{a:Option Addr}{K:List Int}(h:NV w a K)(b:Below w.heap.size w w'):NV w' a K:=λi v hv=>by
 obtain⟨g,e,c,d⟩:=h i v hv;exact⟨g,e,Nat.lt_of_lt_of_le c b.size,by rw[b.cell (p:=⟨g,i,F⟩) c];exact d⟩
theorem zgT(f:Option Addr)(k:Nat)(K:List Int)(i:Int)(w:World)(h:NV w f K):
 Calls S 131 #[O f K.length k,J Z i] w λe w'=>w'=w/\e=.returned (J Z (atF K i)):=by
 by_cases b:i<0
 ·have a:Hd (atF K i=0):=by show _=_;unfold atF;rw[if_pos b]
  go_enter func131,ntmps131;go_wp2_with fail;go_ret;exact⟨rfl,by rw[a.o];rfl⟩
 ·obtain⟨j,rfl⟩:∃j:Nat,i=j:=⟨i.toNat,ol⟩;have p:¬(j:Int)<0:=b;have n:(0:Int)<=(j:Int):=ol;by_cases m:j<K.length
  ·have c:K[j]?=N K[j]:=List.getElem?_eq_getElem m;obtain⟨g,rfl,q,r⟩:=h j _ c;have a:Hd (atF K j=K[j]):=(by show _=_;unfold atF;rw[if_neg b,Int.toNat_natCast,c];rfl);have d:(j:Int)<(K.length:Int):=ol;have l:¬(K.length:Int)<=(j:Int):=ol;generalize K[j]=v at *;clear h c;go_enter func131,ntmps131;go_wp2_with fail;go_ret;exact⟨rfl,by rw[a.o];rfl⟩
  ·have a:Hd (atF K j=0):=(by show _=_;unfold atF;rw[if_neg b,Int.toNat_natCast,List.getElem?_eq_none ol];rfl);have d:(K.length:Int)<=(j:Int):=ol;clear h;go_enter func131,ntmps131;go_wp2_with fail;go_ret;exact⟨rfl,by rw[a.o];rfl⟩
theorem Xw{K:List Int}(h:∀k∈K,0<=k/\k<=1001)(i:Int):0<=atF K i/\atF K i<=1001:=by
 unfold atF;split
 ·omega
 ·cases hk:K[i.toNat]? with
  |none=>simp
  |some k=>simpa using h k (List.mem_of_getElem? hk)
def yV(K:List Int)(l:List IM):Nat->Int
 |0=>0
 |j+1=>yV K l j+(match l[j]? with|some x=>atF K x.arm|none=>0)
theorem qg{K:List Int}(h:∀k∈K,0<=k/\k<=1001)(l:List IM):∀j,0<=yV K l j/\yV K l j<=1001*j:=by
 intro j;induction j with
 |zero=>simp[yV]
 | succ j ih =>
  simp only[yV];cases hx:l[j]? with
  |none=>simp only;omega
  |some x=>have:=Xw h x.arm;simp only;omega
def szE(e:EX)(K:List Int):Int:=Zj (atF K e.inner+(if e.kind=61 then 0 else 1+(e.items.length:Int))+yV K e.items e.items.length)
theorem zai(e:EX)(L:Option Addr)(vm P:Nat)(u:Option Addr)(R:Nat)(K:List Int)(w:World)(h:NV w u K)(hb:∀k∈K,0<=k/\k<=1001)(hl:e.items.length<=100000)(hv:IV w (O L vm P) e.items)(U:∀g,(O L vm P).ownBlock=N g->g<w.heap.size):
 Calls S 92 #[.agg #[J .u8 e.kind,J Z e.at_,J Z e.depth,J Z e.nv,J Z e.na,O L vm P,J Z e.inner],O u K.length R] w λr w'=>Below w.heap.size w w'/\r=.returned (J Z (szE e K)):=by
 have HA:Hd (Below w.heap.size w (w.alloc (Q #[J .u8 e.kind,J Z e.at_,J Z e.depth,J Z e.nv,J Z e.na,O L vm P,J Z e.inner] 148))):=(Below.refl _ _).alloc (Nat.le_refl _) _;have HX:Hd ((w.alloc (Q #[J .u8 e.kind,J Z e.at_,J Z e.depth,J Z e.nv,J Z e.na,O L vm P,J Z e.inner] 148)).heap[w.heap.size]?=N (Q #[J .u8 e.kind,J Z e.at_,J Z e.depth,J Z e.nv,J Z e.na,O L vm P,J Z e.inner] 148 (0,0))):=heap_alloc_new w _;have E:=λwz hz i=>zgT u R K i wz hz
 have Y:Hd _:=E;have a8:Hd _:=h.below HA.o;have a4:=Xw hb e.inner;have V:Hd (∀j,0<=yV K e.items j/\yV K e.items j<=1001*j):=qg hb e.items;have X:Hd (∀i,0<=atF K i/\atF K i<=1001):=Xw hb;have HV:Hd _:=hv;have W:Hd (szE e K=Zj (atF K e.inner+(if e.kind=61 then 0 else 1+(e.items.length:Int))+yV K e.items e.items.length)):=rfl;have a1:vm=e.items.length:=by
  rcases hv with⟨h1,h2⟩|⟨g,cap,h1,_⟩
  ·cases h1;rw[h2];rfl
  ·cases h1;rfl
 subst a1;obtain⟨t,v⟩:∃t,atF K e.inner=t:=⟨_,rfl⟩;obtain⟨s,d⟩:∃s,t+(if e.kind=61 then 0 else 1+(e.items.length:Int))=s:=⟨_,rfl⟩;rw[v,d]at W;have a9:Hd (∀wz,NV wz u K->Calls S 131 #[O u K.length R,J Z e.inner] wz λe w'=>w'=wz/\e=.returned (J Z t)):=λwz hz=>by have:=E wz hz e.inner;rw[v]at this;exact this
 rw[v]at a4;clear E v hb hv;go_enter func92,ntmps92;go_wp2_with fail;refine(a9.o _ a8.o).mono ?_;rintro r w1 ⟨b1,rfl⟩;subst w1;have b0:0<=s/\s<=102002:=by rw[<-d];split<;>omega
 cases ek:(e.kind==61)with
 | true =>
  have a7:(e.kind != 61)=false:=by simp[bne,ek]
  have z:s=t:=by rw[<-d,if_pos (by simpa using ek)];omega
  clear d;subst z;go_wp2_with fail;go_loopg [5,24] e.items.length (λq a y wr=>∃j:Nat,q+j=e.items.length/\a=J Z (s+yV K e.items j)/\y=J Z j/\Below w.heap.size w wr)
  case atStart=>exact⟨0,ol,by simp[yV],rfl,HA.o⟩
  case round =>
   obtain⟨j,hn,rfl,rfl,m⟩:=hrel;have b:Hd _:=m;have B:=V.o j;clear m;by_cases c:j<e.items.length
   ·obtain⟨x,A⟩:∃x,e.items[j]?=N x:=⟨e.items[j],List.getElem?_eq_getElem c⟩;have a3:(0:Int)<=(j:Int):=ol;have a2:(j:Int)<(e.items.length:Int):=ol;rcases HV.o with⟨_,h2⟩|⟨g,cap,h1,h2,h3⟩
    ·rw[h2]at c;simp at c
    ·cases h1
     have C:g<w.heap.size:=U g rfl;obtain⟨r0,r1,r2,r3,r4,r5,r6⟩:=h3 j x A;have l:∀q,wr.cell? ⟨g,q,F⟩=w.cell? ⟨g,q,F⟩:=λq=>b.o.cell (p:=⟨g,q,F⟩) C
     rw[<-l]at r0 r1 r2 r3 r4 r5 r6;have HJ:Hd (yV K e.items (j+1)=yV K e.items j+atF K x.arm):=(by show _=_;simp only[yV,A]);have n:Hd (Below w.heap.size w (wr.alloc (Q #[J Z x.at_,J Z x.num,J Z x.pv,J Z x.pl,J Z x.wv,J Z x.wa,J Z x.arm] 155))):=b.o.alloc b.o.size _;have G:Hd _:=h.below n.o;have a6:=X.o x.arm;have I:Hd (∀wz,NV wz u K->Calls S 131 #[O u K.length R,J Z x.arm] wz λe w'=>w'=wz/\e=.returned (J Z (atF K x.arm))):=λwz hz=>Y.o wz hz x.arm
     generalize hsm:yV K e.items j=sm at *;generalize hax:atF K x.arm=ax at *;clear hsm hax h3 l A;go_wp2_with fail;refine(I.o _ G.o).mono ?_;rintro r w3 ⟨a0,rfl⟩;subst w3;go_wp2_with fail;go_roundg (gk-1)
     case measure=>omega
     case rel=>exact⟨j+1,ol,by rw[HJ.o];go_num,by go_num,n.o⟩
   ·have hd:¬((j:Int)<(e.items.length:Int)):=(by omega);have f:j=e.items.length:=ol;rw[f]at B hd⊢;clear f hn c;generalize hsm:yV K e.items e.items.length=sm at *;clear hsm;by_cases D:1000<s+sm
    ·have H:Hd (szE e K=1001):=(by show _=_;rw[W.o];unfold Zj;rw[if_pos D]);go_wp2_with fail;go_ret;exact⟨b.o,by rw[H.o];rfl⟩
    ·have H:Hd (szE e K=s+sm):=(by show _=_;rw[W.o];unfold Zj;rw[if_neg D]);have a5:s+sm<=1000:=ol;clear D;go_wp2_with fail;go_ret;exact⟨b.o,by rw[H.o];rfl⟩
 | false =>
  have a7:(e.kind != 61)=true:=by simp[bne,ek]
  have z:s=t+1+(e.items.length:Int):=by rw[<-d,if_neg (by simpa using ek)];omega
  clear d;subst z;go_wp2_with fail;go_loopg [5,24] e.items.length (λq a y wr=>∃j:Nat,q+j=e.items.length/\a=J Z ((t+1+(e.items.length:Int))+yV K e.items j)/\y=J Z j/\Below w.heap.size w wr)
  case atStart=>exact⟨0,ol,by simp[yV],rfl,HA.o⟩
  case round =>
   obtain⟨j,hn,rfl,rfl,m⟩:=hrel;have b:Hd _:=m;have B:=V.o j;clear m;by_cases c:j<e.items.length
   ·obtain⟨x,A⟩:∃x,e.items[j]?=N x:=⟨e.items[j],List.getElem?_eq_getElem c⟩;have a3:(0:Int)<=(j:Int):=ol;have a2:(j:Int)<(e.items.length:Int):=ol;rcases HV.o with⟨_,h2⟩|⟨g,cap,h1,h2,h3⟩
    ·rw[h2]at c;simp at c
    ·cases h1
     have C:g<w.heap.size:=U g rfl;obtain⟨r0,r1,r2,r3,r4,r5,r6⟩:=h3 j x A;have l:∀q,wr.cell? ⟨g,q,F⟩=w.cell? ⟨g,q,F⟩:=λq=>b.o.cell (p:=⟨g,q,F⟩) C
     rw[<-l]at r0 r1 r2 r3 r4 r5 r6;have HJ:Hd (yV K e.items (j+1)=yV K e.items j+atF K x.arm):=(by show _=_;simp only[yV,A]);have n:Hd (Below w.heap.size w (wr.alloc (Q #[J Z x.at_,J Z x.num,J Z x.pv,J Z x.pl,J Z x.wv,J Z x.wa,J Z x.arm] 155))):=b.o.alloc b.o.size _;have G:Hd _:=h.below n.o;have a6:=X.o x.arm;have I:Hd (∀wz,NV wz u K->Calls S 131 #[O u K.length R,J Z x.arm] wz λe w'=>w'=wz/\e=.returned (J Z (atF K x.arm))):=λwz hz=>Y.o wz hz x.arm
     generalize hsm:yV K e.items j=sm at *;generalize hax:atF K x.arm=ax at *;clear hsm hax h3 l A;go_wp2_with fail;refine(I.o _ G.o).mono ?_;rintro r w3 ⟨a0,rfl⟩;subst w3;go_wp2_with fail;go_roundg (gk-1)
     case measure=>omega
     case rel=>exact⟨j+1,ol,by rw[HJ.o];go_num,by go_num,n.o⟩
   ·have hd:¬((j:Int)<(e.items.length:Int)):=(by omega);have f:j=e.items.length:=ol;rw[f]at B hd⊢;clear f hn c;generalize hsm:yV K e.items e.items.length=sm at *;clear hsm;by_cases D:1000<(t+1+(e.items.length:Int))+sm
    ·have H:Hd (szE e K=1001):=(by show _=_;rw[W.o];unfold Zj;rw[if_pos D]);go_wp2_with fail;go_ret;exact⟨b.o,by rw[H.o];rfl⟩
    ·have H:Hd (szE e K=(t+1+(e.items.length:Int))+sm):=(by show _=_;rw[W.o];unfold Zj;rw[if_neg D]);have a5:(t+1+(e.items.length:Int))+sm<=1000:=ol;clear D;go_wp2_with fail;go_ret;exact⟨b.o,by rw[H.o];rfl⟩
def szK(es:List EX):Nat->List Int
 |0=>[]
 |j+1=>szK es j++[match es[j]? with|some e=>szE e (szK es j)|none=>0]
def szR(es:List EX):Nat->Int
 |0=>0
 |j+1=>match es[j]? with|some e=>szE e (szK es j)|none=>0
theorem Yt(a:List EX):∀j,(szK a j).length=j:=by
 intro j;induction j with
 |zero=>rfl
 |succ j ih=>simp[szK,ih]
theorem zc2{e:EX}{K:List Int}(h:∀k∈K,0<=k/\k<=1001):0<=szE e K/\szE e K<=1001:=by
 unfold szE;have b:=Xw h e.inner;have a:=qg h e.items e.items.length;refine Qd ?_;split<;>omega
theorem Qr(a:List EX):∀j,∀k∈szK a j,0<=k/\k<=1001:=by
 intro j;induction j with
 |zero=>intro k hk;simp[szK]at hk
 | succ j ih =>
  intro k hk;simp only[szK,List.mem_append,List.mem_singleton]at hk;rcases hk with hk|hk
  ·exact ih k hk
  ·subst hk;cases hx:a[j]? with
   |none=>simp
   |some e=>exact zc2 ih
theorem jX{w:World}{base:Nat}{m:Value}{e:List (EX×Value)}(f:w.ownsRow base 148 7 m e.length (exC e))(h:∀p∈e,w.ownsRow base 155 7 p.2 p.1.items.length (imC p.1.items)):
 ∃eo ec,m=O eo e.length ec/\∀i x,e[i]?=N x->∃g vo vm vc,eo=N ⟨g,0,F⟩/\g<w.heap.size/\w.cell? ⟨g,i*7,F⟩=N (J .u8 x.1.kind)/\w.cell? ⟨g,i*7+1,F⟩=N (J Z x.1.at_)/\w.cell? ⟨g,i*7+2,F⟩=N (J Z x.1.depth)/\w.cell? ⟨g,i*7+3,F⟩=N (J Z x.1.nv)/\w.cell? ⟨g,i*7+4,F⟩=N (J Z x.1.na)/\w.cell? ⟨g,i*7+5,F⟩=N (O vo vm vc)/\w.cell? ⟨g,i*7+6,F⟩=N (J Z x.1.inner)/\IV w (O vo vm vc) x.1.items/\(∀q,(O vo vm vc).ownBlock=N q->q<w.heap.size):=by
 have o:=f;rcases f.2 with⟨h1,h2⟩|⟨g,cap,cur,rfl,h1,h2,_⟩
 ·have:e=[]:=List.eq_nil_of_length_eq_zero h2
  subst this;exact⟨F,0,h1,λi x hx=>by simp at hx⟩
 ·refine⟨_,cap,rfl,λi x hx=>?_⟩;have a:=h x (List.mem_of_getElem? hx);have d:=λj hj=>yg exV (λ_=>rfl) o hx j hj
  have b:∃vo vm vc,x.2=O vo vm vc/\IV w (O vo vm vc) x.1.items:=by
   have l:=a;rcases a.2 with⟨q1,q2⟩|⟨g',cap',cur',q1,q2,q3,q4,_⟩
   ·exact⟨F,0,0,q1,.inl ⟨rfl,List.eq_nil_of_length_eq_zero q2⟩⟩
   ·rw[q1]at l;have c:=λi y hy j hj=>yg imV (λ_=>rfl) l (i:=i) (x:=y) hy j hj
    exact⟨_,_,_,q1,.inr ⟨g',cap',rfl,q4,λi y hy=>⟨c i y hy 0 oq,c i y hy 1 oq,c i y hy 2 oq,c i y hy 3 oq,c i y hy 4 oq,c i y hy 5 oq,c i y hy 6 oq⟩⟩⟩
  obtain⟨vo,vm,vc,k,b⟩:=b;have n:w.cell? ⟨g,i*7+5,F⟩=N (O vo vm vc):=by rw[<-k];exact d 5 oq
  exact⟨g,vo,vm,vc,rfl,lt_of_block h2,d 0 oq,d 1 oq,d 2 oq,d 3 oq,d 4 oq,n,d 6 oq,b,λq hq=>(a.lt q (by rw[k];exact hq)).2⟩
theorem Za(s:ByteArray):∀(n:Nat) (rs:List RL) (m k:Nat) (b:Bool),k<=s.size->(zA s n rs m k b).es.length+k<=(zA s n rs m k b).k/\(zA s n rs m k b).k<=s.size:=by
 intro n;induction n with
 |zero=>intro rs m k b a;simp[zA];exact a
 | succ n ih =>
  intro rs m k b a;have d:=Yn s rs m k b a;simp only[zA];generalize zE s rs m k b=r at *;have f:=zj s 59 r.k r.b;have c:zc s 59 r.k r.b<=s.size:=zu oq d.2.1;split
  ·have e:=ih (rs++[r.rl]) (m+r.es.length) (zc s 59 r.k r.b) r.b c;simp only[List.length_append];omega
  ·simp only;omega
theorem jy(eo:Option Addr)(ec:Nat)(rv:Value)(base:Nat)(c:List (EX×Value))(w:World)(hr:∃ro rm rc,rv=O ro rm rc)(Y:w.ownsRow base 148 7 (O eo c.length ec) c.length (exC c))(X:∀p∈c,w.ownsRow base 155 7 p.2 p.1.items.length (imC p.1.items))(hl:c.length<=100000)(hi:∀p∈c,p.1.items.length<=100000):
 Calls S 50 #[.agg #[O eo c.length ec,rv]] w λe w'=>Below w.heap.size w w'/\e=.returned (J Z (szR (c.map Prod.fst) c.length)):=by
 obtain⟨ro,rm,rc,rfl⟩:=hr;obtain⟨d2,d3,he,l⟩:=jX Y X;cases he
 obtain⟨i0,b1,a8,a7,a6⟩:=info_parts infoInt;have HI:Hd (∀p∈c,p.1.items.length<=100000):=hi;clear Y X hi;go_enter func50,ntmps50;go_wp2_with fail;have c8:Hd (Below w.heap.size w ((w.alloc (Q #[O eo c.length ec,O ro rm rc] 74)).alloc (Q #[] 3))):=((Below.refl _ _).alloc (Nat.le_refl _) _).alloc ot _;have c2:Hd (((w.alloc (Q #[O eo c.length ec,O ro rm rc] 74)).alloc (Q #[] 3)).ownsRow w.heap.size 3 1 (O (N ⟨w.heap.size+1,0,F⟩) 0 0) 0 []):=⟨rfl,.inr ⟨w.heap.size+1,0,#[],rfl,ol,zl _ ot,Nat.le_refl _,oq,rfl,rfl⟩⟩;have b8:Hd (∀i x,c[i]?=N x->∃g d f h,eo=N ⟨g,0,F⟩/\g<w.heap.size/\w.cell? ⟨g,i*7,F⟩=N (J .u8 x.1.kind)/\w.cell? ⟨g,i*7+1,F⟩=N (J Z x.1.at_)/\w.cell? ⟨g,i*7+2,F⟩=N (J Z x.1.depth)/\w.cell? ⟨g,i*7+3,F⟩=N (J Z x.1.nv)/\w.cell? ⟨g,i*7+4,F⟩=N (J Z x.1.na)/\w.cell? ⟨g,i*7+5,F⟩=N (O d f h)/\w.cell? ⟨g,i*7+6,F⟩=N (J Z x.1.inner)/\IV w (O d f h) x.1.items/\(∀q,(O d f h).ownBlock=N q->q<w.heap.size)):=l;clear l;go_loopg [3,4,11] c.length (λn a b y wr=>∃(j:Nat),n+j=c.length/\b=J Z (szR (c.map Prod.fst) j)/\y=J Z j/\wr.ownsRow w.heap.size 3 1 a (szK (c.map Prod.fst) j).length ((szK (c.map Prod.fst) j).map (J Z))/\Below w.heap.size w wr)
 case atStart=>exact⟨0,ol,rfl,rfl,c2.o,c8.o⟩
 case round =>
  obtain⟨j,hn,rfl,rfl,E,hb⟩:=hrel;have HR:Hd (wr.ownsRow w.heap.size 3 1 u3 (szK (c.map Prod.fst) j).length ((szK (c.map Prod.fst) j).map (J Z))):=E;have HB:Hd (Below w.heap.size w wr):=hb;have b3:=hb.size;clear E hb;by_cases b0:j<c.length
  ·obtain⟨xv,z⟩:∃r,c[j]?=N r:=⟨c[j],List.getElem?_eq_getElem b0⟩;have d1:(0:Int)<=(j:Int):=ol;have d0:(j:Int)<(c.length:Int):=ol;obtain⟨g,d,f,h,rfl,b2,r0,r1,r2,r3,r4,r5,r6,L,m⟩:=b8.o j xv z;have P:=HI.o xv (List.mem_of_getElem? z);have A:(c.map Prod.fst)[j]?=N xv.1:=(by rw[List.getElem?_map,z];rfl);obtain⟨x,xq⟩:=xv;simp only at r0 r1 r2 r3 r4 r6 L P A;have a0:∀q,wr.cell? ⟨g,q,F⟩=w.cell? ⟨g,q,F⟩:=λq=>HB.o.cell (p:=⟨g,q,F⟩) b2
   rw[<-a0]at r0 r1 r2 r3 r4 r5 r6;have b9:Hd (szR (c.map Prod.fst) (j+1)=szE x (szK (c.map Prod.fst) j)):=(by show _=_;simp only[szR,A]);have c0:Hd (szK (c.map Prod.fst) (j+1)=szK (c.map Prod.fst) j++[szE x (szK (c.map Prod.fst) j)]):=(by show _=_;simp only[szK,A]);obtain⟨I,U,a9⟩:∃I U,u3=O I (szK (c.map Prod.fst) j).length U:=by
    rcases HR.o.2 with⟨h1,h2⟩|⟨g,B,cur,h1,_⟩
    ·exact⟨F,0,by rw[h1,h2]⟩
    ·exact⟨_,B,h1⟩
   subst a9;have a4:Hd ((szK (c.map Prod.fst) j).length=j):=Yt _ j;have c4:Hd (∀k∈szK (c.map Prod.fst) j,0<=k/\k<=1001):=Qr _ j;generalize szK (c.map Prod.fst) j=K at *;have D:Hd (Below w.heap.size w (wr.alloc (Q #[J .u8 x.kind,J Z x.at_,J Z x.depth,J Z x.nv,J Z x.na,O d f h,J Z x.inner] 148))):=HB.o.alloc b3 _;have C:Hd ((wr.alloc (Q #[J .u8 x.kind,J Z x.at_,J Z x.depth,J Z x.nv,J Z x.na,O d f h,J Z x.inner] 148)).ownsRow w.heap.size 3 1 (O I K.length U) K.length (K.map (J Z))):=HR.o.alloc _;have c3:Hd (NV (wr.alloc (Q #[J .u8 x.kind,J Z x.at_,J Z x.depth,J Z x.nv,J Z x.na,O d f h,J Z x.inner] 148)) I K):=λi v hv=>by
    rcases C.o.2 with⟨h1,h2⟩|⟨g,B,cur,h1,h2,h3,_⟩
    ·have:=(List.getElem?_eq_some_iff.1 hv).1;omega
    ·cases h1
     have P:i<K.length:=(List.getElem?_eq_some_iff.1 hv).1;refine⟨g,rfl,lt_of_block h3,?_⟩;rw[World.ownsRow.cellAt C.o i ol];simp[hv]
   have c5:Hd (IV (wr.alloc (Q #[J .u8 x.kind,J Z x.at_,J Z x.depth,J Z x.nv,J Z x.na,O d f h,J Z x.inner] 148)) (O d f h) x.items):=L.of_kept (λq hq=>D.o.block q (m q hq));have c6:Hd (∀q,(O d f h).ownBlock=N q->q<(wr.alloc (Q #[J .u8 x.kind,J Z x.at_,J Z x.depth,J Z x.nv,J Z x.na,O d f h,J Z x.inner] 148)).heap.size):=λq hq=>Nat.lt_of_lt_of_le (m q hq) D.o.size
   have a1:w.heap.size<=(wr.alloc (Q #[J .u8 x.kind,J Z x.at_,J Z x.depth,J Z x.nv,J Z x.na,O d f h,J Z x.inner] 148)).heap.size:=D.o.size;clear z a0 L m A;go_wp2_with fail;clear r0 r1 r2 r3 r4 r5 r6;refine(zai x d f h I U K _ c3.o c4.o P c5.o c6.o).mono ?_;rintro e H ⟨R,rfl⟩;have a5:Hd (Below w.heap.size w H):=D.o.trans (R.mono a1);have a3:Hd (H.ownsRow w.heap.size 3 1 (O I K.length U) K.length (K.map (J Z))):=zd C.o (λg hg=>R.block g (C.o.lt g hg).2);have a2:w.heap.size<=H.heap.size:=a5.o.size;clear R;generalize szE x K=nj at *;have b7:Hd (K.length+1<=maxLen):=(by show _<=_;have:=a4.o;unfold maxLen;omega);have b6:Hd ((K.length+1)*8<=140737488355328):=(by show _<=_;have:=a4.o;omega);have b5:Hd (w.heap.size<=(H.alloc (Q #[J Z nj] 3)).heap.size):=mc;have V:Hd (∀u∈[J Z nj],u.oneCell'=true):=λu hu=>by simp at hu;subst hu;rfl
   go_wp2_with (at_builtin;refine wpList_append_lies _ rfl _ _ 25 rfl w.heap.size 3 i0 _ 1 8 underlying25 b1 a8 a7 a6 rfl oq (O I K.length U) _ _ rfl (a3.o.alloc _) ⟨H.heap.size,0,F⟩ 1 1 [J Z nj] rfl rfl (World.news_of_block (cs:=#[J Z nj]) (t:=3) (fr:=(0,0)) (heap_alloc_new H _)) V.o (Nat.lt_succ_self 0) b7.o b6.o b5.o (H.heap.size+1) ot ?_;intro g B w5 G s b4 c9)
   have c1:Hd (w5.ownsRow w.heap.size 3 1 (O (N ⟨g,0,F⟩) (K.length+1) B) (szK (c.map Prod.fst) (j+1)).length ((szK (c.map Prod.fst) (j+1)).map (J Z))):=by
    show World.ownsRow _ _ _ _ _ _ _;rw[c0.o,List.length_append,List.map_append];exact G
   have c7:Hd (Below w.heap.size w w5):=(a5.o.alloc a2 _).grown s ow (λk hk=>(a3.o.lt k hk).1);clear G s b4;go_roundg (gk-1)
   case measure=>omega
   case rel=>exact⟨j+1,ol,by rw[b9.o],by go_num,c1.o,c7.o⟩
  ·have hd:¬((j:Int)<(c.length:Int)):=(by omega);have W:j=c.length:=ol;have HE:Hd (szR (c.map Prod.fst) c.length=szR (c.map Prod.fst) j):=(by show _=_;rw[W]);clear W;go_wp2_with fail;go_ret;exact⟨HB.o,by rw[HE.o];rfl⟩
def cSz(s:ByteArray):Int×Int:=if(yv s).1=0 then(szR (zy s).es (zy s).es.length,0)else(0,(yv s).1)
theorem zcT(s:ByteArray)(w:World):
 Calls S 64 #[.string s] w λe w'=>Below w.heap.size w w'/\e=.returned (.tuple #[J Z (cSz s).1,J Z (cSz s).2]):=by
 obtain⟨c,x⟩:∃c,yv s=c:=⟨_,rfl⟩;have N:Hd _:=x;have A:Hd (cSz s=if c.1=0 then(szR (zy s).es (zy s).es.length,0)else(0,c.1)):=by show _=_;unfold cSz;rw[x]
 have g:Hd (c.1=0->(zy s).es.length<=100000/\∀e∈(zy s).es,e.items.length<=100000):=by
  intro n;have R:¬2000<s.size:=λh=>by rw[<-x]at n;unfold yv at n;rw[if_pos h]at n;cases n
  have F:=Y6 s (s.size+1) [] 0 0 false;refine⟨?_,λe he=>by have:=F e he;omega⟩;have U:=Za s (s.size+1) [] 0 0 false (Nat.zero_le _);show(zA s (s.size+1) [] 0 0 false).es.length<=100000;omega
 clear x;obtain⟨u,K⟩:=c;simp only at A g;go_enter func64,ntmps64;go_wp2_with fail;refine(qi s _ (u,K) N).mono ?_;rintro e q ⟨E,l,H,m,i,j,k,rfl,D⟩;have y:Hd _:=E;have L:Hd _:=D;clear E D;cases e1:(u==0)with
 | false =>
  have V:(u != 0)=true:=by simp[bne,e1]
  have v:Hd (cSz s=(0,u)):=by show _=_;rw[A.o,if_neg (by simpa using e1)]
  have d:Hd (Below w.heap.size w (q.alloc (Q #[O l H m,O i j k] 74))):=y.o.alloc y.o.size _;go_wp2_with fail;go_ret2;exact⟨d.o,by rw[v.o];rfl⟩
 | true =>
  have n:u=0:=by simpa using e1
  subst n;have v:Hd (cSz s=(szR (zy s).es (zy s).es.length,0)):=by show _=_;rw[A.o,if_pos rfl]
  obtain⟨f,r,a⟩:=L.o rfl;have b:=g.o rfl;rw[<-r]at b v;obtain⟨G,I,z,_⟩:=jX a.ex a.it;cases z
  have d:Hd (Below w.heap.size w (q.alloc (Q #[O l f.length m,O i j k] 74))):=y.o.alloc y.o.size _;have B:Hd (∀rv,(∃i j k,rv=O i j k)->Calls S 50 #[.agg #[O l f.length m,rv]] (q.alloc (Q #[O l f.length m,O i j k] 74)) λe w'=>Below (q.alloc (Q #[O l f.length m,O i j k] 74)).heap.size (q.alloc (Q #[O l f.length m,O i j k] 74)) w'/\e=.returned (J Z (szR (f.map Prod.fst) f.length))):=λrv hrv=>jy l m rv w.heap.size f _ hrv (a.ex.alloc _) (λp hp=>(a.it p hp).alloc _) (by simpa using b.1) (λp hp=>b.2 p.1 (List.mem_map_of_mem hp))
  rw[List.length_map]at v;clear a r b;go_wp2_with fail;refine(B.o _ ⟨_,_,_,rfl⟩).mono ?_;rintro e P ⟨t,rfl⟩;have C:Hd _:=d.o.trans (t.mono d.o.size);clear t;go_wp2_with fail;go_ret2;exact⟨C.o,by rw[v.o];rfl⟩
end Go.Proofs.YtaebngpoagjafabGreat
