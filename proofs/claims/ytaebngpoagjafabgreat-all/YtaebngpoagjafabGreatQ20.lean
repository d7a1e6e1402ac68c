import Derived.Test.YtaebngpoagjafabGreatQ18
import Derived.Test.YtaebngpoagjafabGreatQ19
set_option maxRecDepth 100000
set_option maxHeartbeats 800000
namespace Go.Proofs.YtaebngpoagjafabGreat
open Option renaming none → F,some → S
open Bool renaming false → T
open Proofs.Tryz
open Value renaming int → J, slice → O
open IntKind renaming i64 → Z
open Go.RowKit
attribute [local go_sem ↓] Go.wp_at_zero Go.wp_at_succ
section
def yv(s:ByteArray):Int×Int :=
 if 2000<s.size then(1,0)
 else if((zy s).b || decide ((zy s).k<s.size))=true then(2,(zy s).k)
 else if(Xr (zy s).es (zy s).rs).1=0 then(0,0)else Xr (zy s).es (zy s).rs
structure PQ (w:World) (base:Nat) (ev rv:Value) (es:List (EX×Value)) (rs:List RL):Prop where
 ex:w.ownsRow base 148 7 ev es.length (exC es)
 rl:w.ownsRow base 143 3 rv rs.length (rlC rs)
 it:∀p∈es,w.ownsRow base 155 7 p.2 p.1.items.length (imC p.1.items)
theorem zfP(s:ByteArray)(w:World):(Instr.build 104 #[(0,.string s)]).run prog w=.ok (.agg #[.string s,J Z 0,.bool T,O F 0 0,O F 0 0]) w:=run_build w 104 _ _ kr
def Z9(n:Nat)(l:List EX):Prop:=∀e∈l,e.items.length<=n
theorem Z9.app{n:Nat}{a b:List EX}(h:Z9 n a)(k:Z9 n b):Z9 n (a++b):=λe he=>(List.mem_append.1 he).elim (h e) (k e)
theorem Z9.one{n:Nat}{e:EX}(h:e.items.length<=n):Z9 n [e]:=λx hx=>by simp at hx;subst hx;exact h
theorem Z9.nil(n:Nat):Z9 n []:=λ_ h=>by simp at h
theorem zcL{ex:Int->Nat->Nat->Bool->CR}{s:ByteArray}{N:Nat}(a:∀d m k b,Z9 N (ex d m k b).es)(kind d:Int)(m k:Nat)(b:Bool):Z9 N (zv ex s kind d m k b).es:=by
 unfold zv;simp only;split
 ·exact a _ _ _ _
 ·split
  ·exact a _ _ _ _
  ·split<;>exact Z9.nil _
theorem QR{ex:Int->Nat->Nat->Bool->CR}{s:ByteArray}{N:Nat}(c:∀d m k b,Z9 N (ex d m k b).es)(kind d:Int):∀(n m k:Nat) (b:Bool),Z9 N (ze ex s kind d n m k b).es/\(ze ex s kind d n m k b).ims.length<=n:=by
 intro n;induction n with
 |zero=>intro m k b;exact⟨Z9.nil _,by simp[ze]⟩
 | succ n ih =>
  intro m k b;have a:=zcL (s:=s) c kind d m k b;simp only[ze];split
  ·have e:=ih (m+(zv ex s kind d m k b).es.length) (zc s 44 (zv ex s kind d m k b).k (zv ex s kind d m k b).b) (zv ex s kind d m k b).b;exact⟨a.app e.1,by simp only[List.length_cons];omega⟩
  ·exact⟨a,ot⟩
theorem zej(s:ByteArray)(rs:List RL)(n:Nat):∀d m k b,Z9 (s.size+1) (cE s rs n d m k b).es:=by
 induction n with
 |zero=>intro d m k b;exact Z9.nil _
 | succ n ih =>
  intro d m k b;simp only[cE];split
  ·exact Z9.nil _
  ·split
   ·have h:=QR (s:=s) ih 123 d (s.size+1-(zb s k b+1)) m (zb s k b+1) b;exact h.1.app (Z9.one ox)
   ·split
    ·exact(ih _ _ _ _).app (Z9.one ot)
    ·split
     ·exact Z9.one ot
     ·split
      ·exact Z9.one ot
      ·have h:=QR (s:=s) ih (zg s (zb s k b) b) d (s.size+1-zc s 40 (zb s k b+1) b) m (zc s 40 (zb s k b+1) b) (zk s 40 (zb s k b+1) b);exact(h.1.app (ih _ _ _ _)).app (Z9.one ox)
theorem Y6(s:ByteArray):∀(n:Nat) (rs:List RL) (m k:Nat) (b:Bool),Z9 (s.size+1) (zA s n rs m k b).es:=by
 intro n;induction n with
 |zero=>intro rs m k b;exact Z9.nil _
 | succ n ih =>
  intro rs m k b;simp only[zA];split
  ·exact Z9.app (zej s rs _ _ _ _ _) (ih _ _ _ _)
  ·exact zej s rs _ _ _ _ _
theorem PM.pv{w:World}{base B s k b ev rv es rs}(h:PM w base B s k b ev rv es rs)(D:es.length<=100000)(t:rs.length<=100000)(hi:∀p∈es,p.1.items.length<=100000):∃eo ec ro rc,ev=O eo es.length ec/\rv=O ro rs.length rc/\PV w eo ro ec rc es rs:=by
 have o:∃eo ec,ev=O eo es.length ec/\∀i x,es[i]?=S x->∃g a c d,eo=S ⟨g,0,F⟩/\g<w.heap.size/\w.cell? ⟨g,i*7,F⟩=S (J .u8 x.1.kind)/\w.cell? ⟨g,i*7+1,F⟩=S (J Z x.1.at_)/\w.cell? ⟨g,i*7+2,F⟩=S (J Z x.1.depth)/\w.cell? ⟨g,i*7+3,F⟩=S (J Z x.1.nv)/\w.cell? ⟨g,i*7+4,F⟩=S (J Z x.1.na)/\w.cell? ⟨g,i*7+5,F⟩=S (O a c d)/\w.cell? ⟨g,i*7+6,F⟩=S (J Z x.1.inner)/\x.2=O a c d/\IV w (O a c d) x.1.items/\(∀q,(O a c d).ownBlock=S q->q<w.heap.size)/\x.1.items.length<=100000:=by
  have u:=h.ex;rcases h.ex.2 with⟨o,e⟩|⟨g,cap,cur,rfl,o,e,_⟩
  ·have:es=[]:=List.eq_nil_of_length_eq_zero e
   subst this;exact⟨F,0,o,λi x hx=>by simp at hx⟩
  ·refine⟨_,cap,rfl,λi x hx=>?_⟩;have f:=h.it x (List.mem_of_getElem? hx);have n:=λj hj=>yg exV (λ_=>rfl) u hx j hj
   have l:∃a c d,x.2=O a c d/\IV w (O a c d) x.1.items:=by
    have v:=f;rcases f.2 with⟨q1,q2⟩|⟨g',cap',cur',q1,q2,q3,q4,_⟩
    ·exact⟨F,0,0,q1,.inl ⟨rfl,List.eq_nil_of_length_eq_zero q2⟩⟩
    ·rw[q1]at v;have m:=λi y hy j hj=>yg imV (λ_=>rfl) v (i:=i) (x:=y) hy j hj
     exact⟨_,_,_,q1,.inr ⟨g',cap',rfl,q4,λi y hy=>⟨m i y hy 0 oq,m i y hy 1 oq,m i y hy 2 oq,m i y hy 3 oq,m i y hy 4 oq,m i y hy 5 oq,m i y hy 6 oq⟩⟩⟩
   obtain⟨a,c,d,z,l⟩:=l;have E:w.cell? ⟨g,i*7+5,F⟩=S (O a c d):=(by rw[<-z];exact n 5 oq);exact⟨g,a,c,d,rfl,lt_of_block e,n 0 oq,n 1 oq,n 2 oq,n 3 oq,n 4 oq,E,n 6 oq,z,l,λq hq=>(f.lt q (by rw[z];exact hq)).2,hi x (List.mem_of_getElem? hx)⟩
 have e:∃ro rc,rv=O ro rs.length rc/\rs.length<=rc/\∀i r,rs[i]?=S r->∃g,ro=S ⟨g,0,F⟩/\g<w.heap.size/\w.cell? ⟨g,i*3,F⟩=S (J Z r.nv)/\w.cell? ⟨g,i*3+1,F⟩=S (J Z r.na)/\w.cell? ⟨g,i*3+2,F⟩=S (J Z r.ex):=by
  have u:=h.rl;rcases h.rl.2 with⟨o,e⟩|⟨g,cap,cur,rfl,o,e,v,_⟩
  ·have:rs=[]:=List.eq_nil_of_length_eq_zero e
   subst this;exact⟨F,0,o,Nat.le_refl _,λi x hx=>by simp at hx⟩
  ·exact⟨_,cap,rfl,v,λi r t=>⟨g,rfl,lt_of_block e,yg rlV (λ_=>rfl) u t 0 oq,yg rlV (λ_=>rfl) u t 1 oq,yg rlV (λ_=>rfl) u t 2 oq⟩⟩
 obtain⟨eo,ec,rfl,G⟩:=o;obtain⟨ro,rc,rfl,C,A⟩:=e;exact⟨eo,ec,ro,rc,rfl,rfl,C,t,D,A,G⟩
attribute [local go_sem] zX zK
theorem qi(s:ByteArray)(w:World)(c:Int×Int)(hc:Hd (yv s=c)):
 Calls prog 24 #[.string s] w λe w'=>Below w.heap.size w w'/\∃eo em ec ro rm rc,e=.returned (.tuple #[.agg #[O eo em ec,O ro rm rc],J Z c.1,J Z c.2])/\(c.1=0->∃es,es.map Prod.fst=(zy s).es/\PQ w' w.heap.size (O eo em ec) (O ro rm rc) es (zy s).rs):=by
 by_cases U:2000<s.size
 ·have y:Hd (c=(1,0)):=by show _=_;rw[<-hc.o];unfold yv;rw[if_pos U]
  have Q:(2000:Int)<(s.size:Int):=ol;go_enter func24,ntmps24;go_wp2_with fail;exact bodyPost_ret (v:=.tuple #[.agg #[O F 0 0,O F 0 0],J Z 1,J Z 0]) (by simp[results,results24,go_sem]) rfl ⟨(Below.refl _ _).alloc (Nat.le_refl _) _,_,_,_,_,_,_,by rw[y.o],by rw[y.o];intro h;cases h⟩
 have Q:¬(2000:Int)<(s.size:Int):=ol;have P:s.size<=2000:=ol;have b0:=λw=>zfP s w
 obtain⟨R,N⟩:∃R,zy s=R:=⟨_,rfl⟩;have Y:Hd _:=N;have HI:Hd (∀e∈R.es,e.items.length<=100000):=λe he=>by
  have:=Y6 s (s.size+1) [] 0 0 T e (by rw[<-N]at he;exact he)
  omega
 have y:Hd (c=if(R.b || decide (R.k<s.size))=true then(2,(R.k:Int))else if(Xr R.es R.rs).1=0 then(0,0)else Xr R.es R.rs):=by show _=_;rw[<-hc.o];unfold yv;rw[if_neg U,N]
 clear N U;have a1:Hd (PM ((w.alloc (.cells #[O F 0 0,O F 0 0] 74)).alloc (.cells #[.string s,J Z 0,.bool T,O F 0 0,O F 0 0] 104)) w.heap.size (w.heap.size+1) s 0 T (O F 0 0) (O F 0 0) [] []) :=
  ⟨zl _ ot,⟨rfl,.inl ⟨rfl,rfl⟩⟩,⟨rfl,.inl ⟨rfl,rfl⟩⟩,λp m=>by simp at m,ol⟩
 have a6:Hd (Below w.heap.size w ((w.alloc (.cells #[O F 0 0,O F 0 0] 74)).alloc (.cells #[.string s,J Z 0,.bool T,O F 0 0,O F 0 0] 104))):=((Below.refl _ _).alloc (Nat.le_refl _) _).alloc ot _;have I:Hd (((w.alloc (.cells #[O F 0 0,O F 0 0] 74)).alloc (.cells #[.string s,J Z 0,.bool T,O F 0 0,O F 0 0] 104)).heap[w.heap.size]?=S (.cells #[O F 0 0,O F 0 0] 74 (0,0))):=(Below.heap_alloc _ _ _ ot).trans (heap_alloc_new w _);have b1:w.heap.size≠w.heap.size+1:=ol;have b2:w.heap.size+1≠w.heap.size:=ol;go_enter func24,ntmps24;go_wp2_with fail;refine(zbW w.heap.size (w.heap.size+1) s _ _ _ P a1.o R Y).mono ?_;rintro e A ⟨rfl,hk,a9,a7,ev,rv,es,t,m,V⟩;have l:Hd (A.heap[w.heap.size]?=S (.cells #[O F 0 0,O F 0 0] 74 (0,0))):=(V.kept _ (lt_of_block I.o) ⟨ol,by simp[Value.ownBlock],by simp[Value.ownBlock]⟩).1.trans I.o;have z:Hd (Below w.heap.size w A):=a6.o.trans V.bel;have g:Hd _:=m;have x:Hd _:=t;have a4:Hd (es.length<=s.size):=by show _<=_;rw[show es.length=R.es.length by rw[<-t,List.length_map]];omega
 clear V m t;have c1:=g.o.c1;have c2:=g.o.c2;have C:A.cell? ⟨w.heap.size,0,F⟩=S (O F 0 0):=by simp[World.cell?,l.o]
 have B:A.cell? ⟨w.heap.size,1,F⟩=S (O F 0 0):=by simp[World.cell?,l.o]
 have xz:∀j,A.frozen? ⟨w.heap.size,j,F⟩=T:=λj=>by simp[World.frozen?,l.o]
 generalize hbd:(R.b || decide (R.k<s.size))=bd at *;clear hbd;cases bd with
 | true =>
  have a:Hd (c=(2,(R.k:Int))):=y.o;clear y;go_wp2_with fail;go_region_with (fail)
  all_goals
   go_wp2_with fail;exact bodyPost_ret (v:=.tuple #[.agg #[O F 0 0,O F 0 0],J Z 2,J Z R.k]) (by simp[results,results24,go_sem,C,B]) rfl ⟨(z.o.drew.setCell ot _).setCell ot _,_,_,_,_,_,_,by rw[a.o],by rw[a.o];intro h;cases h⟩
 | false =>
  have a:Hd (c=if(Xr R.es R.rs).1=0 then(0,0)else Xr R.es R.rs):=y.o;clear y;obtain⟨eo,ec,ro,rc,rfl,rfl,E⟩:=g.o.pv (by have:=a4.o;omega) ol (λp m=>HI.o p.1 (by rw[<-x.o];exact List.mem_map_of_mem m));have a0:Hd _:=E;have c3:=g.o.c3;have c4:=g.o.c4;have b4:=g.o.lt;have W:=lt_of_block l.o;clear E;rw[<-x.o]at a;generalize hff:Xr (es.map Prod.fst) R.rs=f at *;have a2:Hd _:=hff;clear hff;go_wp2_with fail;refine(zcG eo ro ec rc es R.rs A a0.o f a2).mono ?_;rintro e D ⟨rfl,n⟩;have a5:Hd _:=n;have i:=(n.block _ W).trans l.o;have q:Hd _:=g.o.below n;clear n C B xz c1 c2 c3 c4;have C:D.cell? ⟨w.heap.size,0,F⟩=S (O F 0 0):=by simp[World.cell?,i]
  have B:D.cell? ⟨w.heap.size,1,F⟩=S (O F 0 0):=by simp[World.cell?,i]
  have xz:∀j,D.frozen? ⟨w.heap.size,j,F⟩=T:=λj=>by simp[World.frozen?,i]
  have c3:=q.o.c3;have c4:=q.o.c4;have G:=lt_of_block i;have b3:=q.o.lt;have L:Hd (Below w.heap.size w D):=z.o.trans (a5.o.mono z.o.size);have K:Hd (zL D w.heap.size 74):=⟨_,_,i⟩;clear i;obtain⟨H,X⟩:=f;by_cases d:H=0
  ·have r:Hd (c=(0,0)):=(by show _=_;rw[a.o,if_pos d]);subst d;clear a;go_wp2_with fail;exact bodyPost_ret (v:=.tuple #[.agg #[O eo es.length ec,O ro R.rs.length rc],J Z 0,J Z 0]) (by simp[results,results24,go_sem,C,B,G]) rfl ⟨((L.o.setCell ot _).setCell ot _).alloc (by simp[World.size_setCell];omega) _,_,_,_,_,_,_,by rw[r.o],λ_=>⟨es,by rw[Y.o];exact x.o,by
    rw[Y.o];have m:=((q.o.setT (j:=0) (u:=O eo es.length ec) K.o oq oq oq oq).setT (j:=1) (u:=O ro R.rs.length rc) (K.o.set _ _ _) oq oq oq oq).alloc (.cells #[J Z 0,J Z X] 106);exact⟨m.ex,m.rl,m.it⟩⟩⟩
  ·have r:Hd (c=(H,X)):=(by show _=_;rw[a.o,if_neg d]);have hq:(H==0)=T:=(by simp[d]);have a8:(H != 0)=true:=(by simp[d]);have a3:Hd _:=d;clear a d;go_wp2_with fail;go_region_with (fail)
   all_goals
    go_wp2_with fail;exact bodyPost_ret (v:=.tuple #[.agg #[O F 0 0,O F 0 0],J Z H,J Z X]) (by simp[results,results24,go_sem,C,B,G]) rfl ⟨(((L.o.setCell ot _).setCell ot _).alloc (by simp[World.size_setCell];omega) _).drew,_,_,_,_,_,_,by rw[r.o],λh=>absurd (by rw[r.o]at h;exact h) a3.o⟩
end
end Go.Proofs.YtaebngpoagjafabGreat
