import Derived.Test.YtaebngpoagjafabGreatQ39
set_option maxRecDepth 100000
set_option maxHeartbeats 1600000
namespace Go.Proofs.YtaebngpoagjafabGreat
open Option renaming some → F,none → N
open Proofs.Tryz renaming prog → A
open Obj renaming cells → U
open Value renaming int → Z, slice → X
open IntKind renaming i64 → O
open Go.RowKit
attribute [local go_sem ↓] Go.wp_at_zero Go.wp_at_succ
theorem zcc(v:Nat)(Q:World->Prop)(hQ:∀w w',Q w->Below w.heap.size w w'->Q w')(P:Value)(t y:ByteArray)(c:Int)(x:WD)(m:MN)(w:World)(D:v<=w.heap.size)(h:T.ch t 0=61)(h1:T.ch t 1=c)(C:0<=c)(hs:t.size<=2000)(hx:Q w)(hp:∀wz,Q wz->Calls A 152 #[P,Z .u8 c] wz λe w'=>w'=wz/\e=.returned (.string y))(Y:∀wz,Q wz->Calls A 117 #[P,.string y,x.val] wz (ZV v wz m)):
 Calls A 117 #[P,.string t,x.val] w (ZV v w m):=by
 obtain⟨h0,hc⟩:=Zy h oq;obtain⟨h2,a1⟩:=Zy h1 C;have a2:(1:Int)<(t.size:Int):=ol;have a3:(t.size:Int)<=2000:=ol;have IH:Hd _:=Y;have HQ:Hd _:=hQ;have G:Hd _:=hx;have E:Hd _:=hp;clear hp Y hx hQ;unfold WD.val at IH⊢;have i:Hd (Below w.heap.size w ((w.alloc (U #[Z O x.a,Z O x.b,Z O x.d,X x.do_ x.dl x.dc,X x.ao x.al.length x.ac,X x.po x.pl x.pcp] 31)).alloc (U #[X N 0 0,Z O 0,Z O 0] 42))):=((Below.refl _ _).alloc (Nat.le_refl _) _).alloc ot _;have j:Hd (((w.alloc (U #[Z O x.a,Z O x.b,Z O x.d,X x.do_ x.dl x.dc,X x.ao x.al.length x.ac,X x.po x.pl x.pcp] 31)).alloc (U #[X N 0 0,Z O 0,Z O 0] 42)).heap[w.heap.size]?=F (U #[Z O x.a,Z O x.b,Z O x.d,X x.do_ x.dl x.dc,X x.ao x.al.length x.ac,X x.po x.pl x.pcp] 31 (0,0))):=by show _=_;rw[Below.heap_alloc _ _ _ ot];exact heap_alloc_new w _
 have s:Hd (((w.alloc (U #[Z O x.a,Z O x.b,Z O x.d,X x.do_ x.dl x.dc,X x.ao x.al.length x.ac,X x.po x.pl x.pcp] 31)).alloc (U #[X N 0 0,Z O 0,Z O 0] 42)).heap[w.heap.size+1]?=F (U #[X N 0 0,Z O 0,Z O 0] 42 (0,0))):=zl _ ot;go_enter Tryz.func117,Tryz.ntmps117;go_wp2_with fail;generalize(w.alloc (U #[Z O x.a,Z O x.b,Z O x.d,X x.do_ x.dl x.dc,X x.ao x.al.length x.ac,X x.po x.pl x.pcp] 31)).alloc (U #[X N 0 0,Z O 0,Z O 0] 42)=w1 at *;obtain⟨W,V,S,R,L,K⟩:=ld6 j.o rfl;have f:w.heap.size+1≠w.heap.size:=ol;have B:=lt_of_block s.o;have u:Hd (∀wz,Below w1.heap.size w1 wz->Q wz):=λwz hz=>HQ.o _ _ G.o (i.o.trans (hz.mono i.o.size))
 go_region_held3 (λw'=>w'.cell? ⟨w.heap.size,0,N⟩=F (Z O x.a)/\w'.cell? ⟨w.heap.size,1,N⟩=F (Z O x.b)/\w'.cell? ⟨w.heap.size,2,N⟩=F (Z O x.d)/\w'.cell? ⟨w.heap.size,3,N⟩=F (X x.do_ x.dl x.dc)/\w'.cell? ⟨w.heap.size,4,N⟩=F (X x.ao x.al.length x.ac)/\w'.cell? ⟨w.heap.size,5,N⟩=F (X x.po x.pl x.pcp)) (first|(exact⟨W,V,S,R,L,K⟩)|(exact g)|(exact⟨zo f (zo f (zo f g.1 _ _) _ _) _ _,zo f (zo f (zo f g.2.1 _ _) _ _) _ _,zo f (zo f (zo f g.2.2.1 _ _) _ _) _ _,zo f (zo f (zo f g.2.2.2.1 _ _) _ _) _ _,zo f (zo f (zo f g.2.2.2.2.1 _ _) _ _) _ _,zo f (zo f (zo f g.2.2.2.2.2 _ _) _ _) _ _⟩)|go_keep) (first|(go_at_call 152;refine(E.o _ (u.o _ (by first|exact(Below.refl _ _).drew|exact Below.refl _ _))).mono ?_;rintro e w' ⟨a0,rfl⟩;subst w')|(go_at_call 117;refine(IH.o _ (u.o _ (by first|exact(Below.refl _ _).drew|exact Below.refl _ _))).mono ?_;rintro e z ⟨q,o,k,gi,gf,rfl,n,p⟩;have l:Hd (Below w1.heap.size w1 z):=(Below.refl _ _).drew.trans (q.mono (Nat.le_refl _));have g:=ld6 j.o (l.o.block _ (lt_of_block j.o));have r:Hd (z.heap[w.heap.size+1]?=F (U #[X N 0 0,Z O 0,Z O 0] 42 (0,0))):=(l.o.block _ B).trans s.o;obtain⟨y0,y1,y2,z0,z1,z2⟩:=ld3 r.o))
 all_goals
  have H:Hd _:=n;have I:Hd (0<m.sv.length->gi<v\/w.heap.size+2<=gi):=λh0=>by
   have h1:=p h0;have h5:w1.drew.heap.size=w1.heap.size:=rfl;omega
  have J:Hd (Below w.heap.size w z):=i.o.trans (l.o.mono i.o.size);clear n p q y0 y1 y2 z0 z1 z2 g W V S R L K;go_wp2_with fail;exact yP (k:=k) (m:=m) J.o r.o H.o D I.o rfl
theorem zdN(B0:Nat)(Q:World->Prop)(hQ:∀w w',Q w->Below w.heap.size w w'->Q w')(P:Value)(t a b:ByteArray)(I:Int)(x:WD)(m:MN)(w:World)(a8:B0<=w.heap.size)(hs:t.size<=2000)(h:T.ch t 0=116)(h3:3<=t.size)(a6:(spl (t.extract 2 (t.size-1)) 44)[0]?=F a)(L:(spl (t.extract 2 (t.size-1)) 44)[1]?=F b)(hd:T.digs a)(a4:a.size<=9)(hv:T.val a a.size=I)(hx:Q w)(ih:∀wz,Q wz->Calls A 117 #[P,.string b,x.val] wz (ZV B0 wz m)):
 Calls A 117 #[P,.string t,x.val] w (ZV B0 w ⟨m.sv,if I<m.ttl then I else m.ttl,m.sc⟩):=by
 obtain⟨h0,hc⟩:=Zy h oq;have d5:(3:Int)<=(t.size:Int):=ol;have d4:(t.size:Int)<=2000:=ol;have c2:(t.extract 2 (t.size-1)).size<=2000:=by rw[yf t _ _ ol];omega
 have IH:Hd _:=ih;have HQ:Hd _:=hQ;have c6:Hd _:=hx;have b0:Hd (∀wz,Calls A 151 #[.string a] wz λe w'=>Below wz.heap.size wz w'/\e=.returned (Z O I)):=λwz=>(ZB _ wz ol).mono (by rintro e w' ⟨hb,v,rfl,b9⟩;exact⟨hb,by rw[b9 hd a4,hv]⟩)
 obtain⟨tl,W⟩:∃tl,Hd ((if I<m.ttl then I else m.ttl)=tl):=⟨_,rfl⟩;rw[W.o];clear ih hx hQ hd a4 hv;unfold WD.val at IH⊢;have b7:Hd (Below w.heap.size w ((w.alloc (U #[Z O x.a,Z O x.b,Z O x.d,X x.do_ x.dl x.dc,X x.ao x.al.length x.ac,X x.po x.pl x.pcp] 31)).alloc (U #[X N 0 0,Z O 0,Z O 0] 42))):=((Below.refl _ _).alloc (Nat.le_refl _) _).alloc ot _;have a9:Hd (((w.alloc (U #[Z O x.a,Z O x.b,Z O x.d,X x.do_ x.dl x.dc,X x.ao x.al.length x.ac,X x.po x.pl x.pcp] 31)).alloc (U #[X N 0 0,Z O 0,Z O 0] 42)).heap[w.heap.size]?=F (U #[Z O x.a,Z O x.b,Z O x.d,X x.do_ x.dl x.dc,X x.ao x.al.length x.ac,X x.po x.pl x.pcp] 31 (0,0))):=by show _=_;rw[Below.heap_alloc _ _ _ ot];exact heap_alloc_new w _
 have b2:Hd (((w.alloc (U #[Z O x.a,Z O x.b,Z O x.d,X x.do_ x.dl x.dc,X x.ao x.al.length x.ac,X x.po x.pl x.pcp] 31)).alloc (U #[X N 0 0,Z O 0,Z O 0] 42)).heap[w.heap.size+1]?=F (U #[X N 0 0,Z O 0,Z O 0] 42 (0,0))):=zl _ ot;go_enter Tryz.func117,Tryz.ntmps117;go_wp2_with fail;refine(Zd _ 44 _ c2).mono ?_;rintro e q ⟨E,v,rfl,r⟩;have H:Hd _:=b7.o.trans (E.mono b7.o.size);have V:Hd _:=(E.block _ (lt_of_block a9.o)).trans a9.o;have b1:Hd _:=(E.block _ (lt_of_block b2.o)).trans b2.o;obtain⟨g,d6,rfl,_,a3⟩:=ya r (Zq _ _);have c0:=yh r a6;have c1:=yh r L;have d1:1<(spl (t.extract 2 (t.size-1)) 44).length:=(List.getElem?_eq_some_iff.1 L).1;have c7:Hd _:=c0;clear E r a6 L c0;generalize(spl (t.extract 2 (t.size-1)) 44).length=n at *;have d2:(1:Int)<(n:Int):=ol;have d0:(0:Int)<(n:Int):=ol;obtain⟨q0,q1,q2,q3,q4,q5⟩:=ld6 V.o rfl;have c3:=lt_of_block b1.o;have c:q.heap.size≠w.heap.size:=ol;have y:q.heap.size≠g:=ol;have HM:Hd (∀wz,Below q.heap.size q wz->Calls A 117 #[P,.string b,.agg #[Z O x.a,Z O x.b,Z O x.d,X x.do_ x.dl x.dc,X x.ao x.al.length x.ac,X x.po x.pl x.pcp]] wz (ZV B0 wz m)):=λwz hz=>IH.o wz (HQ.o _ _ c6.o (H.o.trans (hz.mono H.o.size)))
 go_upto_region 13 with fail
 go_cut [9] (λs9 wx=>∃B o k C gf,s9=.pointer (F ⟨B,0,N⟩)/\q.heap.size<=B/\Below q.heap.size q wx/\wx.heap[B]?=F (U #[X o m.sv.length k,Z O m.ttl,Z O m.sc] 42 (0,0))/\IS wx o C gf m.sv.length (λi=>(m.sv[i]?).getD 0)/\(0<m.sv.length->C<B0\/q.heap.size<=C/\C≠B))
 case first =>
  go_region_held3 (λw'=>w'.cell? ⟨w.heap.size,0,N⟩=F (Z O x.a)/\w'.cell? ⟨w.heap.size,1,N⟩=F (Z O x.b)/\w'.cell? ⟨w.heap.size,2,N⟩=F (Z O x.d)/\w'.cell? ⟨w.heap.size,3,N⟩=F (X x.do_ x.dl x.dc)/\w'.cell? ⟨w.heap.size,4,N⟩=F (X x.ao x.al.length x.ac)/\w'.cell? ⟨w.heap.size,5,N⟩=F (X x.po x.pl x.pcp)/\w'.cell? ⟨g,1,N⟩=F (.string b)) (first|(exact⟨q0,q1,q2,q3,q4,q5,c1⟩)|(exact⟨j.1,j.2.1,j.2.2.1,j.2.2.2.1,j.2.2.2.2.1,j.2.2.2.2.2,K⟩)|(exact⟨zx q0 _,zx q1 _,zx q2 _,zx q3 _,zx q4 _,zx q5 _,zx c1 _⟩)|(exact⟨zx j.1 _,zx j.2.1 _,zx j.2.2.1 _,zx j.2.2.2.1 _,zx j.2.2.2.2.1 _,zx j.2.2.2.2.2 _,zx K _⟩)|(exact⟨zo c (zo c (zo c j.1 _ _) _ _) _ _,zo c (zo c (zo c j.2.1 _ _) _ _) _ _,zo c (zo c (zo c j.2.2.1 _ _) _ _) _ _,zo c (zo c (zo c j.2.2.2.1 _ _) _ _) _ _,zo c (zo c (zo c j.2.2.2.2.1 _ _) _ _) _ _,zo c (zo c (zo c j.2.2.2.2.2 _ _) _ _) _ _,zo y (zo y (zo y K _ _) _ _) _ _⟩)|go_keep) (first|(go_at_call 117;refine(HM.o _ (by first|exact(Below.refl _ _).drew|exact Below.refl _ _|exact((Below.refl _ _).alloc (Nat.le_refl _) _).drew|exact(Below.refl _ _).alloc (Nat.le_refl _) _)).mono ?_;rintro e w3 ⟨R,o,k,C,gf,rfl,l,s⟩;have u:Below q.heap.size q w3:=(by first|exact(Below.refl _ _).drew.trans (R.mono (Nat.le_refl _))|exact((Below.refl _ _).alloc (Nat.le_refl _) _).drew.trans (R.mono ot));have j:=ld6 V.o (u.block _ (lt_of_block V.o));have K:=(u.cell (p:=⟨g,1,N⟩) a3).trans c1;first|(have S:w3.heap[q.heap.size]?=F (U #[X N 0 0,Z O 0,Z O 0] 42 (0,0)):=(R.block q.heap.size ot).trans (heap_alloc_new q _);have c4:Hd (w3.heap[q.heap.size]?=F (U #[X N 0 0,Z O 0,Z O 0] 42 (0,0))):=S;obtain⟨y0,y1,y2,z0,z1,z2⟩:=ld3 S;clear S)|skip))
  all_goals
   go_wp2_with fail;go_meet
   first
    | exact ⟨w3.heap.size,o,k,C,gf,rfl,u.size,u.alloc u.size _,heap_alloc_new _ _,⟨l.at_,fun h=>by have:=l.lt h;simp;omega,fun i hi=>zx (l.val i hi) _⟩,fun h=>by
     rcases s h with h1|h1
     ·exact .inl h1
     ·exact .inr ⟨h1,by have:=l.lt h;omega⟩⟩
    | exact ⟨q.heap.size,o,k,C,gf,rfl,Nat.le_refl _,((u.setCell (Nat.le_refl _) _).setCell (Nat.le_refl _) _).setCell (Nat.le_refl _) _,ym c4.o,⟨l.at_,fun h=>by have:=l.lt h;simpa using this,fun i hi=>by
     have z:C≠q.heap.size:=by
      have h1:=s ol;simp at h1;omega
     rw[World.cell?_of_block (w:=w3) (by rw[za z,za z,za z])];exact l.val i hi⟩,λh=>by
     have h1:=s h;simp at h1;omega⟩
 case rest =>
 obtain⟨B,o,k,C,gf,rfl,d3,a5,a7,l,s⟩:=hcut;obtain⟨w2,b8⟩:∃w2,w2=wc:=⟨_,rfl⟩;subst b8;have a1:Hd _:=a5;have b5:Hd _:=a7;have b3:Hd _:=l;have a0:Hd _:=s;have c0:=(a1.o.cell (p:=⟨g,0,N⟩) a3).trans c7.o;clear a5 a7 l s q0 q1 q2 q3 q4 q5 c1 HM IH;go_wp2_with fail;refine(b0.o _).mono ?_;rintro e w4 ⟨D,rfl⟩;have c5:Hd _:=(D.block _ (lt_of_block b5.o)).trans b5.o;have b4:Hd _:=a1.o.trans (D.mono a1.o.size);have b6:Hd (Below w.heap.size w w4):=H.o.trans (b4.o.mono H.o.size);have Y:Hd (w4.heap[w.heap.size+1]?=F (U #[X N 0 0,Z O 0,Z O 0] 42 (0,0))):=(b4.o.block _ c3).trans b1.o;have G:Hd _:=b3.o.below D b3.o.lt;obtain⟨y0,y1,y2,z0,z1,z2⟩:=ld3 c5.o;obtain⟨r0,r1,r2,s0,s1,s2⟩:=ld3 Y.o;have c9:¬B=w.heap.size+1:=ol;have c8:¬w.heap.size+1=B:=ol;clear D c0;by_cases a2:I<m.ttl
 ·have J:tl=I:=by rw[<-W.o,if_pos a2]
  subst J;go_wp2_with fail;refine yP (m:=⟨m.sv,tl,m.sc⟩) (g:=C) (f:=gf) (b6.o.setCell ox _) (by rw[za ol];exact Y.o) ⟨G.o.at_,λh=>by have:=G.o.lt h;simpa[World.setCell]using this,λi hi=>?_⟩ a8 (λh=>?_) rfl
  ·have z:C≠B:=(by have:=a0.o (Nat.lt_of_le_of_lt (Nat.zero_le _) hi);omega);rw[World.cell?_of_block (w:=w4) (za z)];exact G.o.val i hi
  ·have:=a0.o h;omega
 ·have J:tl=m.ttl:=by rw[<-W.o,if_neg a2]
  subst J;go_wp2_with fail;exact yP (m:=⟨m.sv,m.ttl,m.sc⟩) b6.o Y.o G.o a8 (λh=>by have:=a0.o h;omega) rfl
theorem Q9{x:List Int}(h:∀c∈x,48<=c/\c<=57):∀(a rest:List Int),yn 42 0 a (x++rest)=yn 42 0 (a++x) rest:=by
 induction x with
 |nil=>intro a rest;simp
 | cons y r ih =>
  intro a rest;have b:=h y ot;simp only[List.cons_append,yn];rw[if_neg ol,if_neg ol,if_neg ol,ih (λc hc=>h c (by simp[hc]))];simp
theorem zag{a b:List Int}{u v:Int}(e:xC a u)(d:xC b v):spl (strOfNums (a++[42]++b)) 42=[strOfNums a,strOfNums b]:=by
 have c:Byt (a++[42]++b):=(e.pln.byt.app (Byt.one oq)).app d.pln.byt;rw[ZG c,List.append_assoc,Q9 e.dig,List.singleton_append];simp only[yn,List.nil_append];rw[if_neg oq,if_neg oq,if_pos ⟨trivial,trivial⟩];have:=Q9 d.dig [] []
 rw[List.append_nil,List.nil_append]at this;rw[this];simp[yn]
theorem xC.digs{x:List Int}{v:Int}(h:xC x v):T.digs (strOfNums x)/\(strOfNums x).size<=9/\T.val (strOfNums x) (strOfNums x).size=v:=by
 refine⟨λi hi=>?_,by rw[strOfNums_size];exact h.le,by rw[strOfNums_size];exact h.val⟩;rw[strOfNums_size]at hi;rw[yA h.pln.byt,List.getElem?_eq_getElem hi];exact h.dig _ (List.getElem_mem _)
theorem j7.pf{x:List Int}{v l:Int}(h:j7 x v l):pfV (strOfNums x) 32=v/\((strOfNums x).size:Int)=l:=by
 refine⟨?_,by rw[strOfNums_size];exact h.len.symm⟩;have c:=h.pln.byt;have a:∀j,j<=x.length->pfV (strOfNums x) j=bv (strOfNums x) 0 j:=by
  intro j;induction j with
  |zero=>intro _;rfl
  | succ j ih =>
   intro d;simp only[pfV,bv];rw[ih ol,Nat.zero_add];have hc:T.ch (strOfNums x) j=48\/T.ch (strOfNums x) j=49:=by
    rw[yA c,List.getElem?_eq_getElem (show j<x.length by omega)];exact h.dig _ (List.getElem_mem _)
   rcases hc with hc|hc
   ·rw[hc,if_neg ol];omega
   ·rw[hc,if_pos ⟨by rw[strOfNums_size];omega,rfl⟩];omega
 have b:∀i,pfV (strOfNums x) (x.length+i)=bv (strOfNums x) 0 x.length*2 ^ i:=by
  intro i;induction i with
  |zero=>rw[Nat.add_zero,a _ (Nat.le_refl _)];simp
  | succ i ih =>
   rw[<-Nat.add_assoc];simp only[pfV];rw[ih,if_neg (by rw[strOfNums_size];omega),Int.add_zero,Int.pow_succ,Int.mul_assoc]
 have:=b (32-x.length)
 rw[show x.length+(32-x.length)=32 from by have:=h.le;omega]at this;rw[this,h.val]
theorem zf4(x:WD){s:Int}(a:0<=s)(c:s<=63):upW x.rw s=ZE x.Dn s x.dl:=by
 have e:(s.toNat:Int)=s:=Int.toNat_of_nonneg a;have b:x.rw.dn s.toNat=!ZE x.Dn s x.dl:=by
  show(!ZE x.Dn (s.toNat:Int) x.dl)=_;rw[e]
 unfold upW;rw[b,decide_eq_true a,decide_eq_true (show s<64 from by omega)];simp
theorem zfK{D:Nat->Int}{dn:Nat}{V:Nat->Int}{l:List IM}(c:∀i it,l[i]?=F it->V i=it.num/\0<=it.num):∀n,n<=l.length->qF D dn V n=(((l.take n).find? (λit=>ZE D it.num dn)).map IM.num).getD (-1):=by
 intro n;induction n with
 |zero=>intro _;simp[qF]
 | succ n ih =>
  intro g;have b:l[n]?=F l[n]:=List.getElem?_eq_getElem ol;obtain⟨e,h⟩:=c n _ b;rw[List.take_add_one,b,List.find?_append];simp only[qF,ih ol];cases hf:(l.take n).find? (λit=>ZE D it.num dn)with
  | some y =>
   have d:y∈l:=List.mem_of_mem_take (List.mem_of_find?_eq_some hf);obtain⟨i,f⟩:=List.getElem?_of_mem d;have:=(c i y f).2
   simp[this]
  | none =>
   simp only[Option.map_none,Option.getD_none,Option.none_or,Option.toList_some];rw[if_neg oq,e];by_cases a:ZE D l[n].num dn=true
   ·simp[List.find?,a]
   ·simp[List.find?,a]
theorem zcq{p q:IM->Bool}:∀(l:List IM),(∀x∈l,p x=q x)->l.find? p=l.find? q:=by
 intro l;induction l with
 |nil=>intro _;rfl
 |cons x l ih=>intro h;rw[List.find?_cons,List.find?_cons,h x ot,ih (λy hy=>h y (by simp[hy]))]
theorem zeg(x:WD){V:Nat->Int}{l:List IM}(a:∀it∈l,0<=it.num/\it.num<=63)(b:∀i it,l[i]?=F it->V i=it.num):qF x.Dn x.dl V l.length=(yZ x.rw l).getD (-1):=by
 rw[zfK (l:=l) (λi it h=>⟨b i it h,(a it (List.mem_of_getElem? h)).1⟩) _ (Nat.le_refl _),List.take_length];unfold yZ;rw[zcq l (λit h=>zf4 x (a it h).1 (a it h).2)]
theorem zcJ{W:RW}{l:List IM}(a:∀it∈l,0<=it.num){k:Int}(h:yZ W l=F k):0<=k:=by
 unfold yZ at h;cases hf:l.find? (λx=>upW W x.num)with
 |none=>rw[hf]at h;cases h
 |some y=>rw[hf]at h;simp at h;subst h;exact a y (List.mem_of_find?_eq_some hf)
def flW(mb:List (Int×Int)):List Int:=mb.flatMap (λp=>List.replicate p.2.toNat p.1)
theorem zgH:∀(a:List (Int×Int)),(∀p∈a,1<=p.2)->((flW a).length:Int)=suL a/\∀r,0<=r->pkL a r=(flW a)[r.toNat]?:=by
 intro a;induction a with
 |nil=>intro _;exact⟨rfl,λr _=>by simp[pkL,flW]⟩
 | cons x l ih =>
  intro h;have c:=h x ot;obtain⟨d,b⟩:=ih (λp hp=>h p (by simp[hp]));have e:flW (x::l)=List.replicate x.2.toNat x.1++flW l:=by simp[flW]
  rw[e];refine⟨by simp only[suL,List.length_append,List.length_replicate];omega,λr hr=>?_⟩;simp only[pkL];split
  ·rw[List.getElem?_append_left ow,List.getElem?_replicate,if_pos ol]
  ·rw[b _ ol,List.getElem?_append_right ow,List.length_replicate];congr 1
   omega
theorem zgm{D:Nat->Int}{dn:Nat}{S:Nat->Int}{W:Nat->Nat}{l:List IM}(e:∀i it,l[i]?=F it->S i=it.num/\(W i:Int)=it.wv):∀n,n<=l.length->slT D dn S W n=flW (((l.take n).filter (λit=>ZE D it.num dn)).map (λit=>(it.num,it.wv))):=by
 intro n;induction n with
 |zero=>intro _;simp[slT,flW]
 | succ n ih =>
  intro g;have d:l[n]?=F l[n]:=List.getElem?_eq_getElem ol;obtain⟨c,f⟩:=e n _ d;have a:W n=l[n].wv.toNat:=ol;rw[List.take_add_one,d];simp only[slT,ih ol,List.filter_append,List.map_append,Option.toList_some,flW,List.flatMap_append];by_cases b:ZE D l[n].num dn=true
  ·simp[c,b,a]
  ·simp[c,b]
theorem zfg(x:WD){S:Nat->Int}{W:Nat->Nat}{l:List IM}(e:∀it∈l,0<=it.num/\it.num<=63/\1<=it.wv)(o:∀i it,l[i]?=F it->S i=it.num/\(W i:Int)=it.wv):Js (slT x.Dn x.dl S W l.length) x.d=(Yg x.rw l).getD (-1)/\∀k,Yg x.rw l=F k->0<=k:=by
 have q:slT x.Dn x.dl S W l.length=flW (mbL x.rw l):=by
  rw[zgm o _ (Nat.le_refl _),List.take_length];unfold mbL;rw[List.filter_congr (λit h=>zf4 x (e it h).1 (e it h).2.1)]
 have j:∀p∈mbL x.rw l,1<=p.2/\0<=p.1:=λp a=>by
  simp only[mbL,List.mem_map,List.mem_filter]at a;obtain⟨it,⟨b,_⟩,rfl⟩:=a;exact⟨(e it b).2.2,(e it b).1⟩
 obtain⟨b,r⟩:=zgH (mbL x.rw l) (λp a=>(j p a).1);have f:∀k∈flW (mbL x.rw l),0<=k:=λk hk=>by
  simp only[flW,List.mem_flatMap,List.mem_replicate]at hk;obtain⟨p,a,_,rfl⟩:=hk;exact(j p a).2
 rw[q];unfold Yg Js;have n:x.rw.draw=x.d:=rfl;rw[n];by_cases m:suL (mbL x.rw l)<=0
 ·rw[if_pos m,if_pos (List.eq_nil_of_length_eq_zero ol)];exact⟨rfl,λk h=>by cases h⟩
 ·have g:flW (mbL x.rw l)≠[]:=λh=>by rw[h]at b;simp at b;omega
  rw[if_neg m,if_neg g,r _ (Int.emod_nonneg _ ol),b];have c:(x.d%suL (mbL x.rw l)).toNat<(flW (mbL x.rw l)).length:=by
   have:=Int.emod_lt_of_pos x.d (show 0<suL (mbL x.rw l)from by omega)
   have:=Int.emod_nonneg x.d (show suL (mbL x.rw l)≠0 from by omega)
   omega
  rw[List.getElem?_eq_getElem c];exact⟨rfl,λk h=>by simp at h;subst h;exact f _ (List.getElem_mem c)⟩
theorem zcg{V:Nat->Int}{l:List IM}(c:∀i it,l[i]?=F it->V i=it.num):knK V l.length=l.map IM.num:=by
 apply List.ext_getElem?
 intro i;by_cases a:i<l.length
 ·have b:l[i]?=F l[i]:=List.getElem?_eq_getElem a;rw[jT V a,List.getElem?_map,b,c i _ b];rfl
 ·rw[List.getElem?_eq_none (by rw[YY];omega),List.getElem?_eq_none ow]
theorem zfb{ks ar:Nat->List Int}{a:List IM}{r:Int}{o:List Int}(f:∀i it,a[i]?=F it->xC (ks i) it.num):∀(n i:Nat),i+n=a.length ->
 ((a.drop i).find? (λx=>x.num==r)=N/\XO (λi=>strOfNums (ks i)) r (strOfNums o) i ((List.range n).map (λk=>strOfNums (ks (i+k)++[58]++ar (i+k))))=strOfNums o)\/∃k it,a[k]?=F it/\(a.drop i).find? (λx=>x.num==r)=F it/\XO (λi=>strOfNums (ks i)) r (strOfNums o) i ((List.range n).map (λk=>strOfNums (ks (i+k)++[58]++ar (i+k))))=strOfNums (ar k):=by
 intro n;induction n with
 |zero=>intro i h;rw[List.drop_eq_nil_of_le ol];exact .inl ⟨rfl,rfl⟩
 | succ n ih =>
  intro i h;have d:a[i]?=F a[i]:=List.getElem?_eq_getElem ol;have e:=(f i _ d).digs;rw[List.range_succ_eq_map,List.map_cons,List.map_map,List.drop_eq_getElem_cons ol,List.find?_cons];simp only[XO];rw[e.2.2];by_cases b:a[i].num=r
  ·refine .inr ⟨i,a[i],d,by simp[b],?_⟩;rw[if_pos b];have g:=xM (ks i++[58]) (ar i);rw[Nat.add_zero,show(strOfNums (ks i)).size+1=(ks i++[58]).length from by rw[strOfNums_size];simp,g]
  ·have c:(a[i].num==r)=false:=(by simpa using b);rw[if_neg b,c,show((λk=>strOfNums (ks (i+k)++[58]++ar (i+k))) ∘ Nat.succ)=λk=>strOfNums (ks (i+1+k)++[58]++ar (i+1+k))from by
    funext k;simp only[Function.comp];rw[show i+Nat.succ k=i+1+k from by omega]]
   exact ih (i+1) ol
theorem Yv{c:Int}:∀(l:List (List Int)) (x:List Int),x∈l->x.length<=(joi c l).length:=by
 intro l;induction l with
 |nil=>intro x h;simp at h
 | cons y r ih =>
  intro x h;cases r with
  |nil=>simp at h;subst h;simp[joi]
  | cons z r =>
   simp only[joi,List.length_append];rcases List.mem_cons.1 h with rfl|h
   ·omega
   ·have:=ih x h;omega
theorem xI{c:Int}(d:0<=c/\c<256){a b:List Int}(f:Byt a)(e:Byt b):Byt (joi c [a,b]):=Byt.joi d _ (λz hz=>by
 simp at hz;rcases hz with rfl|rfl
 ·exact f
 ·exact e)
theorem jV{c:Int}(a:0<=c/\c<256){J:List Int}(d:Byt J):T.ch (strOfNums ([c]++([40]++J++[41]))) 0=c/\3<=(strOfNums ([c]++([40]++J++[41]))).size/\(strOfNums ([c]++([40]++J++[41]))).extract 2 ((strOfNums ([c]++([40]++J++[41]))).size-1)=strOfNums J:=by
 have b:Byt ([c]++([40]++J++[41])):=(Byt.one a).app (((Byt.one oq).app d).app (Byt.one oq));have e:[c]++([40]++J++[41])=[c,40]++J++[(41:Int)]:=ot;refine⟨by rw[yA b];simp,by rw[strOfNums_size];simp,?_⟩;rw[e];exact YR [c,40] J [41]
theorem zbn{J o:List Int}(d:Z8 J)(b:Byt J)(c:Nsp 0 o)(a:Byt o):spl (strOfNums (joi 124 [J,o])) 124=[strOfNums J,strOfNums o]:=by
 rw[ZG (xI oq b a)];simp only[joi];rw[List.append_assoc,d [] _];simp only[List.nil_append,List.singleton_append,yn];rw[if_neg oq,if_neg oq,if_pos ⟨trivial,trivial⟩];have:=c 124 (.inr (.inl rfl)) 0 (Int.le_refl _) [] []
 rw[List.append_nil]at this;rw[this];simp[yn]
theorem zcE{x o:List Int}(b:Pln x)(d:Nsp 0 o)(a:Byt o):spl (strOfNums (joi 44 [x,o])) 44=[strOfNums x,strOfNums o]:=by
 rw[xr (c:=44) (.inl rfl) (l:=[x,o]) ot (λz hz=>by
  simp at hz;rcases hz with rfl|rfl
  ·exact Nsp.pln b
  ·exact d) (xI oq b.byt a)]
 rfl
theorem zcF{x o:List Int}(b:Pln x)(d:Nsp 0 o)(a:Byt o):(spl (strOfNums (x++[58]++o)) 58)[0]?=F (strOfNums x):=by
 have:=xr (c:=58) (.inr (.inr (.inl rfl))) (l:=[x,o]) ot (λz hz=>by
  simp at hz;rcases hz with rfl|rfl
  ·exact Nsp.pln b
  ·exact d) (xI oq b.byt a)
 simp only[joi]at this;rw[this];rfl
theorem zeA{m:Nat}(j:0<m){ks ar:Nat->List Int}(e:∀i,i<m->Pln (ks i))(g:∀i,i<m->Nsp 0 (ar i))(f:∀i,i<m->Byt (ar i)):Byt (joi 44 ((List.range m).map (λi=>ks i++[58]++ar i)))/\Z8 (joi 44 ((List.range m).map (λi=>ks i++[58]++ar i)))/\spl (strOfNums (joi 44 ((List.range m).map (λi=>ks i++[58]++ar i)))) 44=(List.range m).map (λi=>strOfNums (ks i++[58]++ar i)):=by
 have d:List.range m≠[]:=by intro h;have:=congrArg List.length h;simp at this;omega
 have b:Byt (joi 44 ((List.range m).map (λi=>ks i++[58]++ar i))):=Byt.joi oq _ (λx h=>by
  simp only[List.mem_map,List.mem_range]at h;obtain⟨i,a,rfl⟩:=h;exact((e i a).byt.app (Byt.one (c:=58) oq)).app (f i a))
 refine⟨b,xt _ (λx h=>?_),?_⟩
 ·simp only[List.mem_map,List.mem_range]at h;obtain⟨i,a,rfl⟩:=h;exact ZQ (ZQ (YH (Nsp.pln (e i a))) (Xp oq)) (YH (g i a))
 ·rw[ZG b,Qu e g (List.range m) d (λi a=>List.mem_range.1 a),List.map_map];rfl
theorem zgp{c:Int}{t:List Int}:∀(Y:List (Int×List Int)),ruX c Y=F t->∃(k:Nat) (y:Int×List Int),Y[k]?=F y/\y.1=c/\y.2=t/\∀(i:Nat) (z:Int×List Int),i<k->Y[i]?=F z->z.1≠c:=by
 intro Y;induction Y with
 |nil=>intro h;cases h
 | cons y l ih =>
  intro h;simp only[ruX]at h;split at h
  ·next hh=>exact⟨0,y,rfl,hh,by simpa using h,λi z hi=>ol⟩
  ·next hh =>
   obtain⟨k,z,e,d,b,a⟩:=ih h;refine⟨k+1,z,by simpa using e,d,b,λi z' hi hz=>?_⟩;cases i with
   |zero=>simp at hz;subst hz;exact hh
   |succ i=>exact a i z' ol (by simpa using hz)
structure MQ (x:WD) (B0 PB tg tc:Nat) (nm:ByteArray) (Y:List (Int×List Int)) (w:World):Prop where
 b0:B0<=w.heap.size
 ts:TS w x.po x.pb x.poff x.pl x.V x.L x.R
 is_:IS w x.do_ x.db x.doff x.dl x.Dn
 as_:AS w B0 x.ao x.ab x.aoff x.al
 pl:PB<w.heap.size
 tl:tg<w.heap.size
 c0:w.cell? ⟨PB,0,N⟩=F (.string nm)
 c1:w.cell? ⟨PB,1,N⟩=F (X (F ⟨tg,0,N⟩) Y.length tc)
 tx:∀i y,Y[i]?=F y->w.cell? ⟨tg,i,N⟩=F (.string (strOfNums y.2))
theorem MQ.below{x:WD}{e d c tc:Nat}{nm:ByteArray}{Y:List (Int×List Int)}{w w':World}(h:MQ x e d c tc nm Y w)(a:Below w.heap.size w w'):MQ x e d c tc nm Y w' :=
 ⟨Nat.le_trans h.b0 a.size,h.ts.below a,h.is_.below a h.is_.lt,h.as_.of_kept (λb hl=>a.block b (Nat.lt_of_lt_of_le hl h.b0)),Nat.lt_of_lt_of_le h.pl a.size,Nat.lt_of_lt_of_le h.tl a.size,(a.cell h.pl).trans h.c0,(a.cell h.pl).trans h.c1,λi y hy=>(a.cell h.tl).trans (h.tx i y hy)⟩
theorem zbY{x:WD}(h:x.right=true):M.isA x.a=true/\0<=x.b/\x.b<=32/\0<=x.d/\x.pl<=64/\∀i,i<x.pl->M.isP (x.V i) (x.L i)=true:=by
 unfold WD.right Zr at h;simp only[Bool.and_eq_true,Zm,decide_eq_true_eq]at h;obtain⟨⟨l,k,j,g,_⟩,f⟩:=h;obtain⟨e,_,c⟩:=XR f;refine⟨l,k,j,g,e,λi hi=>?_⟩;have:x.pl<=64/\M.okTo x.V x.L x.pl=true:=by simpa[M.isMap]using c
 exact(M.okTo_iff.1 this.2 i hi).1
theorem qv{W:RW}{E:List EX}{j:Nat}{e:EX}(h:E[j]?=F e):mnN W E (j+1)=mnE W (mnK W E j) e:=by simp[mnN,h]
def itN(e:EX)(i:Nat):Int:=match e.items[i]? with|some x=>x.num|none=>0
def itW(e:EX)(i:Nat):Nat:=match e.items[i]? with|some x=>x.wv.toNat|none=>0
theorem qA{e:EX}{i:Nat}{x:IM}(h:e.items[i]?=F x):itN e i=x.num:=by unfold itN;rw[h]
theorem zdX{e:EX}{i:Nat}{x:IM}(h:e.items[i]?=F x):itW e i=x.wv.toNat:=by unfold itW;rw[h]
theorem zdO{x:WD}{C B Z tc:Nat}{nm:ByteArray}{Y:List (Int×List Int)}{E:List EX}(hr:x.right=true)(d9:x.dl<=9223372036854775806)(d5:x.al.length<=9223372036854775807)(c9:nm.size<=2001)(d8:nm.size=Y.length)(c5:∀i y,Y[i]?=F y->T.ch nm i=y.1)(hY:∀y∈Y,y.2.length<=2000)(hb:Zn E)(hn:∀e∈E,NF e){t:List Int}{j:Nat}(h:TX E Y t j):
 t.length<=2000->∀w,MQ x C B Z tc nm Y w->Calls A 117 #[.pointer (F ⟨B,0,N⟩),.string (strOfNums t),x.val] w (ZV C w (mnN x.rw E (j+1))):=by
 obtain⟨rA,r0,r1,rd,rp,rP⟩:=zbY hr;have hQ:∀w w',MQ x C B Z tc nm Y w->Below w.heap.size w w'->MQ x C B Z tc nm Y w':=λw w' h hb=>h.below hb
 induction h with
 | @servers j e l O G h3 h4 h5 =>
  intro hs w D;have a0:=qZ h4 h5;have c6:Byt (joi 44 l):=Byt.joi oq _ (λx h=>(a0 x h).byt);have a1:Byt ([123]++joi 44 l++[125]):=((Byt.one oq).app c6).app (Byt.one oq);have hm:(strOfNums ([123]++joi 44 l++[125])).extract 1 ((strOfNums ([123]++joi 44 l++[125])).size-1)=strOfNums (joi 44 l):=YR [123] (joi 44 l) [125];have q:spl (strOfNums (joi 44 l)) 44=l.map strOfNums:=xr (c:=44) (.inl rfl) h3 (λx h=>Nsp.pln (a0 x h)) c6;have:=jQ C (.pointer (F ⟨B,0,N⟩)) (strOfNums ([123]++joi 44 l++[125])) x (itN e) w D.b0 (by rw[strOfNums_size];exact hs) (by rw[yA a1];simp) (by rw[strOfNums_size];simp) (λi y hy=>by
   rw[hm,q,List.getElem?_map]at hy;obtain⟨z,p,rfl⟩:=Option.map_eq_some_iff.1 hy;have s:=(List.getElem?_eq_some_iff.1 p).1;have g:e.items[i]?=F e.items[i]:=List.getElem?_eq_getElem ol;have v:=(h5 i z _ p g).2;rw[if_neg oq]at v;rw[qA g];exact v.digs)
  rw[hm,q,List.length_map,h4,zcg (l:=e.items) (λi f h=>qA h)]at this;rw[qv O];simp only[mnE,G,if_true];exact this
 | @alias j e y O G h3 =>
  intro hs w D;have a1:Byt (64::y):=Byt.app (a:=[64]) (Byt.one oq) h3.pln.byt;have hm:(strOfNums (64::y)).extract 1 (strOfNums (64::y)).size=strOfNums y:=xM [64] y;have nv:=((hb e (List.mem_of_getElem? O)).nv).1;have hd:=h3.digs;have:=zax C (.pointer (F ⟨B,0,N⟩)) (strOfNums (64::y)) x e.nv.toNat w (by rw[strOfNums_size];exact hs) (by rw[yA a1];simp) (by rw[hm];exact hd.1) (by rw[hm];exact hd.2.1) (by rw[hm,hd.2.2];omega) D.b0 D.as_ d5
  rw[qv O];simp only[mnE,G];exact this
 | @name j i e c t O G h3 h4 h5 h6 h7 _ ih =>
  intro hs w D;have a1:Byt [61,c]:=Byt.app (a:=[61]) (b:=[c]) (Byt.one oq) (Byt.one ol);obtain⟨k,y,q1,q2,q3,q4⟩:=zgp Y h5;have hk:=(List.getElem?_eq_some_iff.1 q1).1;have b8:=hY y (List.mem_of_getElem? q1);rw[q3]at b8;have:=zcc C (MQ x C B Z tc nm Y) hQ (.pointer (F ⟨B,0,N⟩)) (strOfNums [61,c]) (strOfNums t) c x (mnN x.rw E (i+1)) w D.b0 (by rw[yA a1];simp) (by rw[yA a1];simp) ol (by rw[strOfNums_size];simp) D (λwz p=>zam B Z Y.length tc nm (strOfNums t) c k wz c9 p.c0 p.c1 ol hk (by rw[c5 k y q1,q2]) (λi' a5=>by
   have g:Y[i']?=F Y[i']:=List.getElem?_eq_getElem ol;rw[c5 i' _ g];exact q4 i' _ a5 g) (by rw[<-q3];exact p.tx k y q1)) (λwz p=>ih b8 wz p)
  rw[qv O];simp only[mnE,G];rw[h6,yF _ _ h7];exact this
 | @ttl j i e y o O G h3 h4 h5 ho ih =>
  intro hs w D;have K:=ho.byt;have hJ:=xI (c:=44) oq h3.pln.byt K;obtain⟨hc,P,hcut⟩:=jV (c:=116) oq hJ;have q:=zcE h3.pln ho.nsp K;have Q:o.length<=2000:=by
   have:=Yv (c:=44) [y,o] o ot
   simp only[List.length_append,List.length_singleton]at hs;omega
  have hd:=h3.digs;have:=zdN C (MQ x C B Z tc nm Y) hQ (.pointer (F ⟨B,0,N⟩)) (strOfNums ([116]++([40]++joi 44 [y,o]++[41]))) (strOfNums y) (strOfNums o) e.nv x (mnN x.rw E (i+1)) w D.b0 (by rw[strOfNums_size];exact hs) hc P (by rw[hcut,q];rfl) (by rw[hcut,q];rfl) hd.1 hd.2.1 hd.2.2 D (λwz p=>ih Q wz p)
  rw[qv O];simp only[mnE,G];rw[h4,yF _ _ h5];exact this
 | @list j i e c l o O G h3 h4 h5 h6 h7 h8 ho ih =>
  intro hs w D;have n:=hn e (List.mem_of_getElem? O);have a0:=qZ h5 h6;have K:=ho.byt;have a2:Byt (joi 44 l):=Byt.joi oq _ (λx h=>(a0 x h).byt);have hJ:=xI (c:=124) oq a2 K;obtain⟨hc,P,hcut⟩:=jV (c:=c) ol hJ;have q:=zbn (QF l a0) a2 ho.nsp K;have H:spl (strOfNums (joi 44 l)) 44=l.map strOfNums:=xr (c:=44) (.inl rfl) h4 (λx h=>Nsp.pln (a0 x h)) a2;simp only[List.length_append,List.length_singleton]at hs;have Q:o.length<=2000:=by have:=Yv (c:=124) [joi 44 l,o] o ot;omega
  have d4:(joi 44 l).length<=2000:=by have:=Yv (c:=124) [joi 44 l,o] (joi 44 l) ot;omega
  have d2:l.length<=16:=by have:=n.len;omega
  have c3:∀w,MQ x C B Z tc nm Y w->Calls A 117 #[.pointer (F ⟨B,0,N⟩),.string (strOfNums o),x.val] w (ZV C w (mnN x.rw E (i+1))):=λw D=>ih Q w D
  have I:∀f∈e.items,0<=f.num/\f.num<=63:=n.num ol;have a3:(strOfNums ([c]++([40]++joi 124 [joi 44 l,o]++[41]))).size<=2000:=by rw[strOfNums_size];simp only[List.length_append,List.length_singleton];omega
  rw[qv O];rcases h3 with rfl|rfl
  ·have hW:∀i,itW e i<=1000:=λi=>by
    cases g:e.items[i]? with
    |none=>simp[itW,g]
    |some f=>have:=n.wgt G f (List.mem_of_getElem? g);rw[zdX g];omega
   have hS:∀(i:Nat) (f:IM),e.items[i]?=F f->itN e i=f.num/\(itW e i:Int)=f.wv:=λi f g=>by
    have:=n.wgt G f (List.mem_of_getElem? g)
    rw[qA g,zdX g];exact⟨rfl,ol⟩
   obtain⟨a9,c8⟩:=zfg x (S:=itN e) (W:=itW e) (l:=e.items) (λf s=>⟨(I f s).1,(I f s).2,(n.wgt G f s).1⟩) hS;refine zcb C (MQ x C B Z tc nm Y) hQ (.pointer (F ⟨B,0,N⟩)) _ (strOfNums (joi 44 l)) (strOfNums o) x ((Yg x.rw e.items).getD (-1)) _ w D.b0 a3 hc P (by rw[hcut,q];rfl) (by rw[hcut,q];rfl) D (λwz io ic hcell hio p=>?_) (λhK wz p=>?_) (λhK=>?_)
   ·have:=zdq x.a x.b x.d x.ao x.po x.al.length x.ac x.pl x.pcp x.do_ x.db x.doff x.dl x.dc x.Dn io (l.map strOfNums) ic (itN e) (itW e) wz ol rd p.is_ (by simpa using d2) hW (λi z hzz=>?_) hio
    ·rw[H,List.length_map,h5];rw[List.length_map,h5,a9]at this;exact this
    ·refine⟨hcell i z (by rw[H];exact hzz),?_⟩;rw[List.getElem?_map]at hzz;obtain⟨y,hy,rfl⟩:=Option.map_eq_some_iff.1 hzz;have s:=(List.getElem?_eq_some_iff.1 hy).1;have g:e.items[i]?=F e.items[i]:=List.getElem?_eq_getElem ol;have v:=(h6 i y _ hy g).2;rw[if_pos rfl]at v;obtain⟨a,b,rfl,ta,tb⟩:=v;have d7:=Yv (c:=44) l _ (List.mem_of_getElem? hy);have hw:=(hS i _ g).2;rw[qA g];have da:=ta.digs;have db:=tb.digs;exact⟨by rw[strOfNums_size];omega,_,_,zag ta tb,da.1,da.2.1,da.2.2,db.1,db.2.1,by rw[db.2.2];exact hw.symm⟩
   ·cases hq2:Yg x.rw e.items with
    |some k=>rw[hq2]at hK;have:=c8 k hq2;simp at hK;omega
    | none =>
     simp only[mnE,G,hq2];rw[h7,yF _ _ h8];exact c3 wz p
   ·cases hq2:Yg x.rw e.items with
    |none=>rw[hq2]at hK;simp at hK
    |some k=>simp[mnE,G,hq2]
  ·have a9:=zeg x (V:=itN e) (l:=e.items) I (λi f g=>qA g);refine zaw C (MQ x C B Z tc nm Y) hQ (.pointer (F ⟨B,0,N⟩)) _ (strOfNums (joi 44 l)) (strOfNums o) x ((yZ x.rw e.items).getD (-1)) _ w D.b0 a3 hc P (by rw[hcut,q];rfl) (by rw[hcut,q];rfl) D (λwz io ic hcell hio p=>?_) (λhK wz p=>?_) (λhK=>?_)
   ·have:=zcI x.a x.b x.d x.ao x.po x.al.length x.ac x.pl x.pcp x.do_ x.db x.doff x.dl x.dc x.Dn io (l.map strOfNums) ic (itN e) wz ol p.is_ ow (λi z hzz=>?_) hio
    ·rw[H,List.length_map,h5];rw[List.length_map,h5,a9]at this;exact this
    ·refine⟨hcell i z (by rw[H];exact hzz),?_⟩;rw[List.getElem?_map]at hzz;obtain⟨y,hy,rfl⟩:=Option.map_eq_some_iff.1 hzz;have s:=(List.getElem?_eq_some_iff.1 hy).1;have g:e.items[i]?=F e.items[i]:=List.getElem?_eq_getElem ol;have v:=(h6 i y _ hy g).2;rw[if_neg oq]at v;have d1:=(I _ (List.mem_of_getElem? g)).1;rw[qA g];exact⟨v.digs.1,v.digs.2.1,v.digs.2.2,d1⟩
   ·cases hq2:yZ x.rw e.items with
    |some k=>rw[hq2]at hK;have:=zcJ (λf s=>(I f s).1) hq2;simp at hK;omega
    | none =>
     simp only[mnE,G,hq2];rw[h7,yF _ _ h8];exact c3 wz p
   ·cases hq2:yZ x.rw e.items with
    |none=>rw[hq2]at hK;simp at hK
    |some k=>simp[mnE,G,hq2]
 | @maps j i e c m ks ar an o O G h3 h4 h5 h6 har h8 h9 ho iha iho =>
  intro hs w D;have n:=hn e (List.mem_of_getElem? O);have b:=hb e (List.mem_of_getElem? O);have d6:m<=16:=by have:=n.len;omega
  have a4:∀i,i<m->∃f,e.items[i]?=F f:=λi s=>⟨e.items[i]'(by omega),List.getElem?_eq_getElem ol⟩
  have hk:∀i,i<m->Pln (ks i):=λi s=>by obtain⟨f,g⟩:=a4 i s;exact(h6 i f g).1.pln
  have K:=ho.byt;obtain⟨a2,d0,H⟩:=zeA h4 hk (λi s=>(har i s).nsp) (λi s=>(har i s).byt);have c2:∀i,i<m->(ks i++[58]++ar i).length<=(joi 44 ((List.range m).map (λi=>ks i++[58]++ar i))).length:=λi s=>Yv _ _ (List.mem_map.2 ⟨i,List.mem_range.2 s,rfl⟩)
  generalize hJe:joi 44 ((List.range m).map (λi=>ks i++[58]++ar i))=J at *;have hJ:=xI (c:=124) oq a2 K;obtain⟨hc,P,hcut⟩:=jV (c:=c) ol hJ;have q:=zbn d0 a2 ho.nsp K;simp only[List.length_append,List.length_singleton]at hs;have Q:o.length<=2000:=by have:=Yv (c:=124) [J,o] o ot;omega
  have d4:J.length<=2000:=by have:=Yv (c:=124) [J,o] J ot;omega
  have a3:(strOfNums ([c]++([40]++joi 124 [J,o]++[41]))).size<=2000:=by rw[strOfNums_size];simp only[List.length_append,List.length_singleton];omega
  have a7:∀i,i<m->(ar i).length<=2000:=λi s=>by have:=c2 i s;simp only[List.length_append]at this;omega
  have a6:(spl (strOfNums J) 44).length=m:=by rw[H];simp
  have c4:∀i z,(spl (strOfNums J) 44)[i]?=F z->(spl z 58)[0]?=F (strOfNums (ks i))/\(strOfNums (ks i)).size+1<=z.size/\z.size<=2000:=λi z p=>by
   have s:i<m:=(by have:=(List.getElem?_eq_some_iff.1 p).1;omega);rw[H,List.getElem?_map,List.getElem?_range s]at p;simp at p;subst p;have O:=c2 i s;have G:=zcF (hk i s) (har i s).nsp (har i s).byt;simp only[List.append_assoc,List.singleton_append]at O G;refine⟨G,?_,?_⟩
   ·simp only[strOfNums_size,List.length_append,List.length_cons];omega
   ·rw[strOfNums_size];omega
  rw[qv O];rcases h3 with rfl|rfl
  ·have b5:∀i,i<m->bpV (λi=>strOfNums (ks i)) i=itV e i/\bpL (λi=>strOfNums (ks i)) i=itL e i:=λi s=>by
    obtain⟨f,g⟩:=a4 i s;have v:=(h6 i f g).1;unfold qX at v;rw[if_pos rfl]at v;have c7:=v.pf;unfold bpV bpL itV itL;rw[g];exact c7
   obtain⟨e1,_,e3⟩:=qa (a:=zY x.a x.b) m b5;obtain⟨e2,e0⟩:=M.best_lo (V:=itV e) (L:=itL e) (a:=zY x.a x.b) (n:=m);have X:∃k y,JZ (spl (strOfNums J) 44) (λi=>strOfNums (ks i)) (M.bestTo (itV e) (itL e) (zY x.a x.b) m) (strOfNums o)=strOfNums y/\ZN x.rw e=((k:Nat):Int)/\k<j/\∀wz,MQ x C B Z tc nm Y wz->Calls A 117 #[.pointer (F ⟨B,0,N⟩),.string (strOfNums y),x.val] wz (ZV C wz (mnN x.rw E (k+1))):=by
    unfold JZ ZN;have a8:x.rw.addr=zY x.a x.b:=rfl;rw[a8,h5];by_cases u:M.bestTo (itV e) (itL e) (zY x.a x.b) m<0
    ·rw[if_pos u,if_pos u];exact⟨i,o,rfl,h8,h9,λwz p=>iho Q wz p⟩
    ·rw[if_neg u,if_neg u];obtain⟨k,d3⟩:∃k,(M.bestTo (itV e) (itL e) (zY x.a x.b) m).toNat=k:=⟨_,rfl⟩;have U:k<m:=ol;obtain⟨f,g⟩:=a4 k U;obtain⟨_,b7,b6⟩:=h6 k f g;rw[d3,g,H,List.getElem?_map,List.getElem?_range U];refine⟨an k,ar k,?_,b7,b6,λwz p=>iha k U (a7 k U) wz p⟩;have he:=xM (ks k++[58]) (ar k);simp only[Option.map_some];rw[show(strOfNums (ks k)).size+1=(ks k++[58]).length from by rw[strOfNums_size];simp,he]
   obtain⟨k,y,b1,b2,b3,b4⟩:=X;have:=JB C (MQ x C B Z tc nm Y) hQ (.pointer (F ⟨B,0,N⟩)) (strOfNums ([109]++([40]++joi 124 [J,o]++[41]))) (strOfNums J) (strOfNums o) x (λi=>strOfNums (ks i)) (strOfNums y) (mnN x.rw E (k+1)) w D.b0 a3 hc P (by rw[hcut,q];rfl) (by rw[hcut,q];rfl) ol c4 (λi s=>by
    have a5:i<m:=ol;obtain⟨f,g⟩:=a4 i a5;have v:=(h6 i f g).1;unfold qX at v;rw[if_pos rfl]at v;have hv:=(b.it f (List.mem_of_getElem? g)).pv;rw[(b5 i a5).1,(b5 i a5).2];unfold itV itL;rw[g];exact v.isP hv.1 hv.2) rA r0 r1 D (by rw[a6,e1,b1]) b4
   rw[a6,e3]at this;simp only[mnE,G];rw[b2,yF _ _ b3,h5];exact this
  ·have X:∃k y,brE (spl (strOfNums J) 44) (λi=>strOfNums (ks i)) x.R (M.bestTo x.V x.L (zY x.a x.b) x.pl) (strOfNums o)=strOfNums y/\xj x.rw e=((k:Nat):Int)/\k<j/\∀wz,MQ x C B Z tc nm Y wz->Calls A 117 #[.pointer (F ⟨B,0,N⟩),.string (strOfNums y),x.val] wz (ZV C wz (mnN x.rw E (k+1))):=by
    unfold brE xj;have a8:x.rw.reg=if M.bestTo x.V x.L (zY x.a x.b) x.pl<0 then -1 else x.R (M.bestTo x.V x.L (zY x.a x.b) x.pl).toNat:=rfl
    rw[a8];by_cases u:M.bestTo x.V x.L (zY x.a x.b) x.pl<0
    ·rw[if_pos u,if_pos u];have hf:e.items.find? (λx=>x.num==-1)=N:=by
      rw[List.find?_eq_none];intro f s;have:=n.reg G f s
      simp;omega
     rw[hf];exact⟨i,o,rfl,h8,h9,λwz p=>iho Q wz p⟩
    ·rw[if_neg u,if_neg u,H];have b9:∀i f,e.items[i]?=F f->xC (ks i) f.num:=λi f g=>by
      have v:=(h6 i f g).1;unfold qX at v;rw[if_neg oq]at v;exact v
     have:=zfb (ks:=ks) (ar:=ar) (o:=o) (r:=x.R (M.bestTo x.V x.L (zY x.a x.b) x.pl).toNat) b9 m 0 ol
     simp only[List.drop_zero,Nat.zero_add]at this;rcases this with⟨f1,f2⟩|⟨k,f,f1,f2,f3⟩
     ·rw[f1,f2];exact⟨i,o,rfl,h8,h9,λwz p=>iho Q wz p⟩
     ·rw[f2,f3];have U:k<m:=(by have:=(List.getElem?_eq_some_iff.1 f1).1;omega);obtain⟨_,b7,b6⟩:=h6 k f f1;exact⟨an k,ar k,rfl,b7,b6,λwz p=>iha k U (a7 k U) wz p⟩
   obtain⟨k,y,b1,b2,b3,b4⟩:=X;have:=JA C (MQ x C B Z tc nm Y) hQ (.pointer (F ⟨B,0,N⟩)) (strOfNums ([103]++([40]++joi 124 [J,o]++[41]))) (strOfNums J) (strOfNums o) x (λi=>strOfNums (ks i)) (strOfNums y) (mnN x.rw E (k+1)) w D.b0 a3 hc P (by rw[hcut,q];rfl) (by rw[hcut,q];rfl) ol c4 (λi s=>by
    obtain⟨f,g⟩:=a4 i ol;have v:=(h6 i f g).1;unfold qX at v;rw[if_neg oq]at v;exact⟨v.digs.1,v.digs.2.1⟩) (λw h=>h.ts) rp rP rA r0 r1 D b1 b4
   simp only[mnE,G];rw[b2,yF _ _ b3];exact this
end Go.Proofs.YtaebngpoagjafabGreat
