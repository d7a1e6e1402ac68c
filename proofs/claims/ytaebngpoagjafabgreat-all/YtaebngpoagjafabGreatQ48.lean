import Derived.Test.YtaebngpoagjafabGreatQ42
set_option maxRecDepth 100000
set_option maxHeartbeats 6400000
namespace Go.Proofs.YtaebngpoagjafabGreat
open Option renaming some → F,none → N
open Proofs.Tryz renaming prog → S
open Proofs.Tryz
open Obj renaming cells → Q
open Value renaming int → J, slice → O
open IntKind renaming i64 → Z
open Go.RowKit
attribute [local go_sem ↓] Go.wp_at_zero Go.wp_at_succ
theorem zep(o:Option Addr)(n k:Nat)(t c:Int)(w:World):(Instr.build 42 #[(0,O o n k),(1,J Z t),(2,J Z c)]).run S w=.ok (.agg #[O o n k,J Z t,J Z c]) w:=run_build w 42 _ _ kr
theorem zgL{C:List Int}(a:∀x∈C,0<=x/\x<256)(r:RD):cnN C r<=255:=by
 unfold cnN;have:rdN C r 1<=255:=by
  simp only[rdN,Zt,yY,nxV];cases h:C[r.p]? with
  |none=>simp
  |some y=>have:=a y (List.mem_of_getElem? h);simp;omega
 omega
theorem zc6{W:RW}{C:List Int}(c:∀x∈C,0<=x/\x<256)(d:∀l∈W.al,l.length*8<=140737488351232)(s:RT)(h:s.sv=[]):((zD W C s).2=false->(zD W C s).1.sv=[])/\(zD W C s).1.sv.length*8<=140737488351232:=by
 have a:∀i:Nat,((W.al[i]?).getD []).length*8<=140737488351232:=λi=>by
  cases hq:W.al[i]? with
  |none=>simp
  |some l=>exact d l (List.mem_of_getElem? hq)
 have b:=zgL c (nx C s.r);unfold zD;simp only;split
 ·exact⟨λh=>by simp at h,by simp only[ZC,h,List.nil_append,za0];omega⟩
 split
 ·unfold Zp;simp only;split
  ·exact⟨λ_=>h,by simp[h]⟩
  ·split
   ·exact⟨λh=>by simp at h,by simp[h]⟩
   ·exact⟨λ_=>h,by simp[h]⟩
 split
 ·unfold yS;simp only;split
  ·exact⟨λh=>by simp at h,by simp[h]⟩
  ·exact⟨λ_=>h,by simp[h]⟩
 split
 ·exact⟨λ_=>h,by simp[yw,h]⟩
 split
 ·exact⟨λ_=>h,by simp[Zc,h]⟩
 split
 ·exact⟨λ_=>h,by simp[yB,h]⟩
 split
 ·exact⟨λh=>by simp at h,by simp only[ZY,h,List.nil_append];exact a _⟩
 ·exact⟨λ_=>h,by simp[h]⟩
theorem zdc{W:RW}{C:List Int}(a:∀x∈C,0<=x/\x<256)(b:∀l∈W.al,l.length*8<=140737488351232):∀(f:Nat) (s:RT),s.sv=[]->(Yp W C f s).2.1.length*8<=140737488351232/\((Yp W C f s).1≠0->Yp W C f s=(10,[],0,0)\/Yp W C f s=(11,[],0,0)):=by
 intro f;induction f with
 |zero=>intro s _;exact⟨by simp[Yp],λ_=>.inr rfl⟩
 | succ f ih =>
  intro s h;obtain⟨d,c⟩:=zc6 (W:=W) a b s h;simp only[Yp];split
  ·exact⟨ot,λ_=>.inl rfl⟩
  split
  ·exact⟨c,λh=>absurd rfl h⟩
  ·next hq=>exact ih _ (d (by simpa using hq))
theorem zdk(base SB n:Nat)(wo:Option Addr)(wb u m c8:Nat)(X:Nat->WD)(cv sv iv bv:Value)(cs:List (ByteArray×ByteArray))(is bs:List Value)(kk oa ob U od:Int)(D:ByteArray)(w:World)(hn:(n+1)*56<=140737488355328)(hm:m*96<=140737488351232)(o5:D.size<=140737488351232)(hX:XS w wo wb u m X)(h:ST w base SB n (O wo m c8) cv sv iv bv cs is bs)(b0:-9223372036854775808<=ob)(b1:ob<=9223372036854775807)(c1:U<=9223372036854775807):
 Calls S 35 #[.pointer (F ⟨SB,0,N⟩),.agg #[J Z kk,J Z oa,J Z ob,J Z U,J Z od,.string D]] w (QyT base SB n (O wo m c8) cv sv iv bv cs bs w):=by
 have H:Hd _:=h;have HX:Hd _:=hX;have A5:Hd (base<=w.heap.size):=Nat.le_trans h.hB (Nat.le_of_lt h.lt);have g1:Hd (Below w.heap.size w (w.alloc (Q #[J Z kk,J Z oa,J Z ob,J Z U,J Z od,.string D] 53))):=(Below.refl _ _).alloc (Nat.le_refl _) _;have s0:=h.c 0;simp only[List.getElem?_toArray,List.getElem?_cons_zero]at s0;have z0:=h.lt;clear h hX;by_cases y3:m=0
 ·subst y3;go_enter func35,ntmps35;go_wp2_with fail;go_ret;exact QyT.below H.o g1.o
 have o7:((m:Int)==0)=false:=by rw[beq_eq_false_iff_ne];omega
 obtain rfl:=HX.o.at_ ol;have n8:wb<w.heap.size:=HX.o.lt ol;go_enter func35,ntmps35;go_upto_region 3 with fail
 have n2:Hd ((w.alloc (Q #[J Z kk,J Z oa,J Z ob,J Z U,J Z od,.string D] 53)).heap[w.heap.size]?=F (Q #[J Z kk,J Z oa,J Z ob,J Z U,J Z od,.string D] 53 (0,0))):=heap_alloc_new w _;have d1:=(g1.o.cell (p:=⟨SB,0,N⟩) z0).trans s0;have f9:Hd _:=g1.o;have B8:w.heap.size<(w.alloc (Q #[J Z kk,J Z oa,J Z ob,J Z U,J Z od,.string D] 53)).heap.size:=ot;generalize w.alloc (Q #[J Z kk,J Z oa,J Z ob,J Z U,J Z od,.string D] 53)=w2 at *;clear g1 s0;have k6:(0:Int)<(m:Int):=ol;obtain⟨kw,o9⟩:∃kw:Nat,pkF ob m=(kw:Int):=⟨(pkF ob m).toNat,by have:=(Z7 (c:=ob) k6).1;omega⟩;have d6:kw<m:=by have:=(Z7 (c:=ob) k6).2;omega
 have y7:(kw:Int)<(m:Int):=ol;have s2:Hd (∀wz,Calls S 31 #[J Z ob,J Z m] wz λe w'=>e=.returned (J Z kw)/\w'=wz):=λwz=>by have:=YF ob m wz b0 b1 k6 ol;rw[o9]at this;exact this
 clear o9;obtain⟨x,f4⟩:∃x,X kw=x:=⟨_,rfl⟩;have a1:Hd (x.In w):=by rw[<-f4];exact HX.o.in_ kw d6
 have b3:Hd (x.pl*24<=140737488351232/\x.dl*8<=140737488351232/\x.al.length*24<=140737488351232):=by rw[<-f4];exact HX.o.sz kw d6
 have b5:Hd (∀j,j<6->w2.cell? ⟨wb,u+kw*6+j,N⟩=[J Z x.a,J Z x.b,J Z x.d,O x.do_ x.dl x.dc,O x.ao x.al.length x.ac,O x.po x.pl x.pcp][j]?):=λj hj=>by rw[f9.o.cell (p:=⟨wb,u+kw*6+j,N⟩) n8,<-f4];exact HX.o.c kw d6 j hj
 have e0:=b5.o 0 ol;have e1:=b5.o 1 ol;have e2:=b5.o 2 ol;have e3:=b5.o 3 ol;have e4:=b5.o 4 ol;have e5:=b5.o 5 ol;simp only[List.getElem?_cons_succ,List.getElem?_cons_zero,Nat.add_zero]at e0 e1 e2 e3 e4 e5;obtain⟨_,_,q2,_,_,_⟩:=ld6 n2.o rfl;clear f4 b5;have A9:wb<w2.heap.size:=ol;have C1:SB<w2.heap.size:=ol;have z2:w.heap.size<w2.heap.size:=ol;go_cut [5] (λs6 wx=>s6=.pointer (F ⟨w2.heap.size,0,N⟩)/\Below w2.heap.size w2 wx/\wx.heap[w2.heap.size]?=F (Q #[J Z x.a,J Z x.b,J Z x.d,O x.do_ x.dl x.dc,O x.ao x.al.length x.ac,O x.po x.pl x.pcp] 31 (0,0)))
 case first =>
  go_region_held3 (λw'=>w'.cell? ⟨SB,0,N⟩=F (O (F ⟨wb,u,N⟩) m c8)/\w'.cell? ⟨w.heap.size,2,N⟩=F (J Z ob)/\w'.cell? ⟨wb,u+kw*6,N⟩=F (J Z x.a)/\w'.cell? ⟨wb,u+kw*6+1,N⟩=F (J Z x.b)/\w'.cell? ⟨wb,u+kw*6+2,N⟩=F (J Z x.d)/\w'.cell? ⟨wb,u+kw*6+3,N⟩=F (O x.do_ x.dl x.dc)/\w'.cell? ⟨wb,u+kw*6+4,N⟩=F (O x.ao x.al.length x.ac)/\w'.cell? ⟨wb,u+kw*6+5,N⟩=F (O x.po x.pl x.pcp)) (first|(exact⟨d1,q2,e0,e1,e2,e3,e4,e5⟩)|(exact⟨zx d1 _,zx q2 _,zx e0 _,zx e1 _,zx e2 _,zx e3 _,zx e4 _,zx e5 _⟩)|go_keep) (first|(go_at_call 31;refine(s2.o _).mono ?_;rintro e w' ⟨rfl,B9⟩;subst w'))
  all_goals
   go_wp2_with fail;go_meet
   exact⟨rfl,((Below.refl _ _).alloc (Nat.le_refl _) _).drew,heap_alloc_new w2 _⟩
 case rest =>
 obtain⟨rfl,m1,p5⟩:=hcut;obtain⟨w3,x1⟩:∃w3,w3=wc:=⟨_,rfl⟩;subst x1;have f2:Hd _:=f9.o.trans (m1.mono f9.o.size);have f7:Hd _:=(m1.block _ z2).trans n2.o;have m6:Hd _:=p5;have w0:=lt_of_block m6.o;clear m1 p5 e0 e1 e2 e3 e4 e5 q2 d1 s2 n2 f9 HX o7;obtain⟨_,_,_,_,_,g5⟩:=ld6 f7.o rfl;have s4:Hd (Calls S 66 #[.string D] w3 λe w'=>(∃v,e=.returned v/\LnB w3.heap.size w' v D)/\Below w3.heap.size w3 w'):=Xl D w3 o5;go_wp2_with fail;refine s4.o.mono ?_;rintro e w5 ⟨⟨vb,rfl,k3⟩,d8⟩;obtain⟨bo,bc,bg,o0,_⟩:=k3.cs;have f6:Hd (LnB w3.heap.size w5 vb D):=k3;have c4:Hd _:=f2.o.trans (d8.mono f2.o.size);have n1:Hd _:=(d8.block _ (lt_of_block f7.o)).trans f7.o;have f5:Hd _:=(d8.block _ w0).trans m6.o;have v9:=lt_of_block f5.o;have A8:=d8.size;subst o0;clear d8 k3 f2 f7 m6 s4 g5;have s3:Hd (Calls S 67 #[.agg #[J Z x.a,J Z x.b,J Z x.d,O x.do_ x.dl x.dc,O x.ao x.al.length x.ac,O x.po x.pl x.pcp]] w5 (zfZ x w5)):=Xk x w5 (a1.o.below c4.o) b3.o.1 b3.o.2.1 b3.o.2.2;obtain⟨q0,q1,q2,q3,q4,q5⟩:=ld6 f5.o rfl;go_wp2_with fail;refine s3.o.mono ?_;rintro e K ⟨⟨vd,va,vp,vm,t1,t2,rfl,d5⟩,c7⟩;obtain⟨c5,cd,_,x4,_⟩:=d5.d.is_;obtain⟨op,cp,_,x2,_⟩:=d5.p.ts;obtain⟨c6,ca,om,cm,x5,x3⟩:=d5.a.form;subst x4 x2 x5 x3;have n3:Hd _:=d5;have f1:Hd _:=c4.o.trans (c7.mono c4.o.size);have b4:Hd _:=(c7.block _ (lt_of_block n1.o)).trans n1.o;have r7:Hd _:=(c7.block _ v9).trans f5.o;have a7:Hd (LnB w3.heap.size K (O bo (bsL D).length bc) D):=f6.o.keep (λg hg=>c7.block g (f6.o.lt hg).2);have r8:Hd (∀g,(O bo (bsL D).length bc).ownBlock=F g->w3.heap.size<=g/\g<w5.heap.size):=λg hg=>f6.o.lt hg
 have A7:=c7.size;clear c7 d5 c4 n1 f5 f6 s3 q0 q1 q2 q3 q4 q5;obtain⟨w7,d3⟩:∃w7,K.alloc (Q #[J Z x.a,J Z x.b,J Z x.d,O c5 x.dl cd,O c6 x.al.length ca,O op x.pl cp] 31)=w7:=⟨_,rfl⟩;have A4:Hd _:=d3;have n5:w7.heap.size=K.heap.size+1:=by rw[<-d3];simp
 have A2:Hd _:=n5;have c3:Hd (Below K.heap.size K w7):=by rw[<-d3];exact(Below.refl _ _).alloc (Nat.le_refl _) _
 have m7:Hd (w7.heap[K.heap.size]?=F (Q #[J Z x.a,J Z x.b,J Z x.d,O c5 x.dl cd,O c6 x.al.length ca,O op x.pl cp] 31 (0,0))):=by rw[<-d3];exact heap_alloc_new K _
 clear d3 n5;have B0:w.heap.size<=w5.heap.size:=ol;have k0:Hd (0<x.al.length->x.ab<w.heap.size):=a1.o.as_.lt;obtain⟨R,HR⟩:∃R,Hd (x.ru (bsL D) U=R):=⟨_,rfl⟩;have h9:Hd (Calls S 46 #[O bo (bsL D).length bc,.agg #[J Z x.a,J Z x.b,J Z x.d,O c5 x.dl cd,O c6 x.al.length ca,O op x.pl cp],J Z U] w7 (qh w7 R)):=by
  have y4:=n3.o.below (λh=>by have:=k0.o h;omega) c3.o;have p1:x.In w7:=a1.o.below (f1.o.trans (c3.o.mono f1.o.size));obtain⟨y,x0,w4,w1⟩:=y4.wd p1;obtain⟨C7,C8,A1,e1,e2⟩:=(a7.o.keep (w':=w7) (λg hg=>c3.o.block g (a7.o.lt hg).2)).cs;injection e1 with i1 i2 i3
  subst i1 i3;have:=zbp y bo A1 0 bc (bsL D) U w7 (by rw[Xc];omega) c1 w4 e2
  rw[x0,w1,HR.o]at this;exact this
 have g3:K.cell? ⟨w.heap.size,3,N⟩=F (J Z U):=(ld6 b4.o rfl).2.2.2.1;have C2:w.heap.size<K.heap.size:=lt_of_block b4.o;go_wp2_with fail;rw[A4.o];obtain⟨q0,q1,q2,q3,q4,q5⟩:=ld6 m7.o rfl;go_wp2_with fail;refine h9.o.mono ?_;rintro e w8 ⟨m0,o,s,k8,rfl,g4,h4⟩;have i9:Hd _:=m0;have a8:Hd (R.1≠0->o=N/\s=0/\k8=0):=g4;have C:Hd (R.1=0->s=R.2.1.length/\w8.ownsRow w7.heap.size 3 1 (O o s k8) R.2.1.length (R.2.1.map (J Z))):=h4;have C4:=m0.size;have C5:=A2.o;clear m0 g4 h4 q0 q1 q2 q3 q4 q5 h9 g3;have e6:Hd (R.2.1.length*8<=140737488351232/\(R=(9,[],0,0)/\(x.right=false\/U<0)\/x.right=true/\0<=U/\(R.1≠0->R=(10,[],0,0)\/R=(11,[],0,0)))):=by
  rw[<-HR.o];unfold WD.ru ruF;have o3:=zdc (W:=x.rw) (zbl D) a1.o.as_.len U.toNat rt0 rfl;by_cases hf:U<0
  ·rw[if_pos hf];exact⟨ot,.inl ⟨rfl,.inr hf⟩⟩
  ·rw[if_neg hf];cases hq:x.right with
   | true =>
    have k5:Zr x.a x.b x.d x.V x.L x.R x.pl=true:=hq;rw[if_pos k5];exact⟨o3.1,.inr ⟨rfl,ol,o3.2⟩⟩
   | false =>
    have k5:Zr x.a x.b x.d x.V x.L x.R x.pl=false:=hq;rw[k5];exact⟨ot,.inl ⟨rfl,.inl rfl⟩⟩
 have B2:s*8<=140737488351232:=by
  by_cases h0:R.1=0
  ·rw[(C.o h0).1];exact e6.o.1
  ·rw[(a8.o h0).2.1];omega
 obtain⟨z,d2⟩:∃z,w8.alloc (Q #[O o s k8,J Z R.2.2.1,J Z R.2.2.2] 42)=z:=⟨_,rfl⟩;have A3:Hd (w8.alloc (Q #[O o s k8,J Z R.2.2.1,J Z R.2.2.2] 42)=z):=d2;have C9:Hd (z.heap.size=w8.heap.size+1):=by show _=_;rw[<-d2];simp
 have f0:Hd (Below w8.heap.size w8 z):=by rw[<-d2];exact(Below.refl _ _).alloc (Nat.le_refl _) _
 have b2:Hd (z.heap[w8.heap.size]?=F (Q #[O o s k8,J Z R.2.2.1,J Z R.2.2.2] 42 (0,0))):=by rw[<-d2];exact heap_alloc_new w8 _
 clear d2;obtain⟨i0,k7,n7,k2,n6⟩:=info_parts infoInt;obtain⟨wM,z3,q6,p9⟩:=run_make_full (P:=S) z.drew 0 25 3 i0 (J Z 0) 1 underlying25 k7 n7 k2 .i64 .i64 s (by rw[n6];omega) mr (Nat.zero_le _);obtain⟨wN,p8,p7,p6⟩:=run_make_full (P:=S) (z.alloc (Q #[O N 0 0,J Z 0,J Z 0] 42)).drew 0 25 3 i0 (J Z 0) 1 underlying25 k7 n7 k2 .i64 .i64 s (by rw[n6];omega) mr (Nat.zero_le _);go_wp2_with fail;rw[A3.o];obtain⟨y0,y1,y2,_,_,_⟩:=ld3 b2.o;have y9:=λo n k t c wz=>zep o n k t c wz
 obtain⟨fM,o4⟩:=yd q6 rfl;obtain⟨fN,k4⟩:=yd p7 rfl;have n0:Hd (wM.rowIs z.heap.size 3 (s*1) fM):=o4;have n4:Hd (z.drew.grownBy wM N):=p9;have f8:Hd ((z.alloc (Q #[O N 0 0,J Z 0,J Z 0] 42)).drew.grownBy wN N):=p6;have a3:(z.alloc (Q #[O N 0 0,J Z 0,J Z 0] 42)).drew.heap.size=z.heap.size+1:=by show(z.alloc _).heap.size=_;simp
 have r9:Hd (wN.rowIs (z.heap.size+1) 3 (s*1) fN):=by rw[a3]at k4;exact k4
 rw[a3]at p8;have g6:=lt_of_block b2.o;have m5:wM.heap[w8.heap.size]?=F (Q #[O o s k8,J Z R.2.2.1,J Z R.2.2.2] 42 (0,0)):=(n4.o.block _ g6 ot).trans b2.o;have m4:wN.heap[w8.heap.size]?=F (Q #[O o s k8,J Z R.2.2.1,J Z R.2.2.2] 42 (0,0)):=(f8.o.block _ (by rw[a3];omega) ot).trans ((Below.heap_alloc _ _ _ g6).trans b2.o);have m2:wN.heap[z.heap.size]?=F (Q #[O N 0 0,J Z 0,J Z 0] 42 (0,0)):=(f8.o.block _ (by rw[a3];omega) ot).trans (heap_alloc_new z _);have t3:Hd (wN.heap[z.heap.size]?=F (Q #[O N 0 0,J Z 0,J Z 0] 42 (0,0))):=m2;obtain⟨v6,v5,v4,_,_,_⟩:=ld3 m5;obtain⟨v3,u9,u8,_,_,_⟩:=ld3 m4;obtain⟨t7,t6,t5,u0,t9,t8⟩:=ld3 m2;have y6:=lt_of_block m5;have y5:=lt_of_block m4;have o6:¬w8.heap.size=z.heap.size:=ol;clear q6 p9 p7 p6 o4 k4 a3 m5 m4 m2;have g0:Hd (Below z.heap.size z wM):=((Below.refl _ z).drew).grown n4.o (Nat.le_refl _) (λk hk=>by cases hk);have j1:Hd (Below z.heap.size z wN):=(((Below.refl _ z).alloc (Nat.le_refl _) _).drew).grown f8.o (by show _<=(z.alloc _).heap.size;simp) (λk hk=>by cases hk);go_cut [11] (λs11 wx=>∃b8 gF f,s11=.pointer (F ⟨b8,0,N⟩)/\z.heap.size<=b8/\z.heap.size<=gF/\gF≠b8/\Below z.heap.size z wx/\wx.heap[b8]?=F (Q #[O (F ⟨gF,0,N⟩) s s,J Z R.2.2.1,J Z R.2.2.2] 42 (0,0))/\wx.rowIs gF 3 s f)
 case first =>
  go_region
  all_goals
   go_wp2_with fail;go_meet
   first
    |exact⟨wM.heap.size,z.heap.size,fM,rfl,g0.o.size,Nat.le_refl _,by have:=n0.o.lt;omega,g0.o.alloc g0.o.size _,heap_alloc_new _ _,by have:=n0.o;rw[Nat.mul_one]at this;exact this.alloc _⟩
    |exact⟨z.heap.size,z.heap.size+1,fN,rfl,Nat.le_refl _,ol,ol,((j1.o.setCell (Nat.le_refl _) _).setCell (Nat.le_refl _) _).setCell (Nat.le_refl _) _,ym t3.o,by have:=r9.o;rw[Nat.mul_one]at this;exact((this.setOther ox _).setOther ox _).setOther ox _⟩
 case rest =>
 obtain⟨b8,gF,f,rfl,B3,p4,x6,a6,h5,g2⟩:=hcut;obtain⟨d0,n9⟩:∃d0,d0=wc:=⟨_,rfl⟩;subst n9;have t0:Hd _:=a6;have e9:Hd _:=h5;have f3:Hd _:=(a6.block _ (lt_of_block b2.o)).trans b2.o;have C3:=lt_of_block b2.o;have o1:(Tryz.prog.info? 3).map (·.size)=F 1:=by rw[k7];simp[k2]
 have m9:Hd (0<s->R.1=0):=λh=>by
  by_cases h0:R.1=0
  ·exact h0
  ·have:=(a8.o h0).2.1;omega
 have a0:Hd (R.1=0->s=R.2.1.length/\d0.ownsRow w7.heap.size 3 1 (O o s k8) R.2.1.length (R.2.1.map (J Z))):=λh=>⟨(C.o h).1,zd (C.o h).2 (λg hg=>(a6.block g (by have:=((C.o h).2.lt g hg).2;omega)).trans (f0.o.block g ((C.o h).2.lt g hg).2))⟩
 obtain⟨r,y8,b9,k9,d7⟩:=Zl (P:=S) d0 25 25 3 3 1 gF s s o s k8 3 s f (λi=>J Z ((R.2.1[i]?).getD 0)) underlying25 o1 g2 (Nat.le_refl _) (λh0=>by
  obtain⟨e1,e2⟩:=a0.o (m9.o h0);obtain⟨g,B7,e3,_,_⟩:=e2.form ol;have e4:o=F ⟨g,0,N⟩:=by injection e3
  subst e4;rw[<-e1]at e2;refine⟨_,rfl,λj hj=>?_⟩;rw[show(⟨g,0,N⟩:Addr).add j=⟨g,0+j,N⟩from by unfold Addr.add;split<;>simp_all,Nat.zero_add,e2.cellAt j ol];simp only[List.getElem?_map,List.getElem?_eq_getElem (show j<R.2.1.length by omega)];rfl) (λj hj=>rfl) ol
 have i4:Hd (r.rowIs gF 3 s (λj=>if j<s*1 then J Z ((R.2.1[j]?).getD 0)else f j)):=b9;have j0:Hd (Below z.heap.size z r):=k9 _ _ a6 p4;have B6:Hd _:=d7;have k1:Hd (r.heap[w8.heap.size]?=F (Q #[O o s k8,J Z R.2.2.1,J Z R.2.2.2] 42 (0,0))):=(d7 _ ol).trans f3.o;have e8:Hd (r.heap[b8]?=F (Q #[O (F ⟨gF,0,N⟩) s s,J Z R.2.2.1,J Z R.2.2.2] 42 (0,0))):=(d7 _ (λe=>x6 e.symm)).trans e9.o;have i8:Hd (IS r (F ⟨gF,0,N⟩) gF 0 s (λi=>(R.2.1[i]?).getD 0)):=⟨λ_=>rfl,λ_=>b9.lt,λi hi=>by rw[Nat.zero_add,b9.cell hi,if_pos ol]⟩;have s9:Hd (Below K.heap.size K z):=c3.o.trans ((i9.o.mono ol).trans (f0.o.mono ol));have A:Hd (Below K.heap.size K r):=s9.o.trans (j0.o.mono ol);have h8:Hd (r.heap[K.heap.size]?=F (Q #[J Z x.a,J Z x.b,J Z x.d,O c5 x.dl cd,O c6 x.al.length ca,O op x.pl cp] 31 (0,0))):=(j0.o.block _ ol).trans ((f0.o.block _ ol).trans ((i9.o.block _ ol).trans m7.o));have B:Hd (R.1=0->s=R.2.1.length/\r.ownsRow w7.heap.size 3 1 (O o s k8) R.2.1.length (R.2.1.map (J Z))/\∀g,(O o s k8).ownBlock=F g->g<w8.heap.size):=λh=>⟨(C.o h).1,zd (a0.o h).2 (λg hg=>d7 g (by have:=((C.o h).2.lt g hg).2;omega)),λg hg=>((C.o h).2.lt g hg).2⟩
 obtain⟨p0,_,_,_,_,_⟩:=ld3 e9.o;obtain⟨r0,_,_,_,_,_⟩:=ld3 f3.o;have A0:=(k9 _ _ (Below.refl z.heap.size d0) p4).size;have B4:=t0.o.size;have g5:r.cell? ⟨w.heap.size,5,N⟩=F (.string D):=(ld6 b4.o (A.o.block _ (lt_of_block b4.o))).2.2.2.2.2;clear a6 h5 g2 b9 k9 d7 a0 e9 f3 C y0 y1 y2 v6 v5 v4 v3 u9 u8 t7 t6 t5 u0 t9 t8 z3 p8 n0 n4 f8 r9 g0 j1 t3 y6 y5 o6 y9 b2 m7;have r6:Hd (Calls S 68 #[O bo (bsL D).length bc,.string D] r λe w'=>e=.returned (.bool true)/\r.grownBy w' (O bo (bsL D).length bc).ownBlock):=xn w3.heap.size _ D r o5 (a7.o.keep (λg hg=>A.o.block g (a7.o.lt hg).2));go_wp2_with fail;refine r6.o.mono ?_;rintro e E ⟨rfl,c0⟩;have z5:=c0.size;have z1:=lt_of_block b4.o;have B5:=A.o.size;have G:Hd (∀b,b<r.heap.size->b<w3.heap.size\/w5.heap.size<=b->E.heap[b]?=r.heap[b]?):=λb hb h=>c0.block b hb (λe=>by have:=r8.o _ e.symm;omega)
 have b7:Hd (Below w.heap.size w E):=(f1.o.trans (A.o.mono ol)).grown c0 ol (λg hg=>by have:=r8.o g hg;omega);have d9:Hd (E.heap[w2.heap.size]?=F (Q #[J Z x.a,J Z x.b,J Z x.d,O x.do_ x.dl x.dc,O x.ao x.al.length x.ac,O x.po x.pl x.pcp] 31 (0,0))):=(G.o _ ol ol).trans ((A.o.block _ ol).trans r7.o);have i5:Hd (E.heap[w.heap.size]?=F (Q #[J Z kk,J Z oa,J Z ob,J Z U,J Z od,.string D] 53 (0,0))):=(G.o _ ol ol).trans ((A.o.block _ z1).trans b4.o);have h7:Hd (E.heap[K.heap.size]?=F (Q #[J Z x.a,J Z x.b,J Z x.d,O c5 x.dl cd,O c6 x.al.length ca,O op x.pl cp] 31 (0,0))):=(G.o _ ol ol).trans h8.o;have q7:Hd (Calls S 69 #[.agg #[J Z x.a,J Z x.b,J Z x.d,O c5 x.dl cd,O c6 x.al.length ca,O op x.pl cp],O om x.al.length cm,.agg #[J Z x.a,J Z x.b,J Z x.d,O x.do_ x.dl x.dc,O x.ao x.al.length x.ac,O x.po x.pl x.pcp]] E λe w'=>e=.returned (.bool true)/\Below w5.heap.size E w'/\∀b,K.heap.size<=b->b<E.heap.size->w'.heap[b]?=E.heap[b]?):=xm w5.heap.size K.heap.size x _ _ _ _ t1 t2 E (a1.o.below b7.o) (λh=>by have:=a1.o.is_.lt h;omega) (λh=>by have:=a1.o.ts.lt h;omega) ((a1.o.as_.of_kept (λb hb=>b7.o.block b hb)).wide ol) ol b3.o.1 b3.o.2.1 b3.o.2.2 (n3.o.keep ol (λh=>by have:=k0.o h;rw[G.o _ ol ol];exact A.o.block _ ol) (λb h1 h2=>by rw[G.o _ ol ol];exact A.o.block _ h2));have s5:Hd (∀b,K.heap.size<=b->b<r.heap.size->E.heap[b]?=r.heap[b]?):=λb h1 h2=>G.o b h2 (.inr ol)
 obtain⟨q0,q1,q2,q3,q4,q5⟩:=ld6 d9.o rfl;obtain⟨u1,r1,r2,r3,r4,r5⟩:=ld6 h7.o rfl;clear c0 g5 a7 b4 r7 h8 n3 r6 p0 r0 y8;go_wp2_with fail;refine q7.o.mono ?_;rintro e a2 ⟨rfl,a5,g8⟩;have z4:=a5.size;have b6:Hd (Below w.heap.size w a2):=b7.o.trans (a5.mono ol);have i6:Hd (∀b,K.heap.size<=b->b<r.heap.size->a2.heap[b]?=r.heap[b]?):=λb h1 h2=>(g8 b h1 ol).trans (s5.o b h1 h2)
 have h6:Hd (a2.heap[w2.heap.size]?=F (Q #[J Z x.a,J Z x.b,J Z x.d,O x.do_ x.dl x.dc,O x.ao x.al.length x.ac,O x.po x.pl x.pcp] 31 (0,0))):=(a5.block _ ol).trans d9.o;have e7:Hd (a2.heap[w.heap.size]?=F (Q #[J Z kk,J Z oa,J Z ob,J Z U,J Z od,.string D] 53 (0,0))):=(a5.block _ ol).trans i5.o;obtain⟨u7,u6,u5,u4,u3,u2⟩:=ld6 h6.o rfl;clear a5 g8 d9 i5 h7 q7 s5 G q0 q1 q2 q3 q4 q5 u1 r1 r2 r3 r4 r5;have s1:Hd (Calls S 70 #[.agg #[J Z x.a,J Z x.b,J Z x.d,O x.do_ x.dl x.dc,O x.ao x.al.length x.ac,O x.po x.pl x.pcp]] a2 λe w'=>e=.returned (.bool x.right)/\Below a2.heap.size a2 w'):=jx x a2 (a1.o.below b6.o) b3.o.1;go_wp2_with fail;refine s1.o.mono ?_;rintro e Y ⟨rfl,a4⟩;have m3:=lt_of_block e8.o;have p3:=i4.o.lt;have l:Hd _:=b6.o.trans (a4.mono b6.o.size);have a9:Hd (∀b,K.heap.size<=b->b<r.heap.size->Y.heap[b]?=r.heap[b]?):=λb h1 h2=>(a4.block b ol).trans (i6.o b h1 h2)
 have t4:Hd (Y.heap[w8.heap.size]?=F (Q #[O o s k8,J Z R.2.2.1,J Z R.2.2.2] 42 (0,0))):=(a9.o _ ol ol).trans k1.o;have s7:Hd (Y.heap[b8]?=F (Q #[O (F ⟨gF,0,N⟩) s s,J Z R.2.2.1,J Z R.2.2.2] 42 (0,0))):=(a9.o _ ol m3).trans e8.o;have i7:Hd (IS Y (F ⟨gF,0,N⟩) gF 0 s (λi=>(R.2.1[i]?).getD 0)):=⟨λ_=>rfl,λ_=>by have:=a4.size;omega,λi hi=>by rw[World.cell?_of_block (w:=r) (a9.o gF ol p3)];exact i8.o.val i hi⟩;have c2:Hd (R.1=0->s=R.2.1.length/\Y.ownsRow w.heap.size 3 1 (O o s k8) R.2.1.length (R.2.1.map (J Z))):=λh=>⟨(B.o h).1,yC (zd (B.o h).2.1 (λg hg=>a9.o g (by have:=((B.o h).2.1.lt g hg).1;omega) ((B.o h).2.1.lt g hg).2)) ol⟩
 have g3:Y.cell? ⟨w.heap.size,3,N⟩=F (J Z U):=(ld6 e7.o (a4.block _ (lt_of_block e7.o))).2.2.2.1;clear a4 s1 u7 u6 u5 u4 u3 u2 e7 h6 i6 a9 B i8 e8 k1 i4;obtain⟨y0,y1,y2,_,_,_⟩:=ld3 t4.o;obtain⟨v0,v1,v2,_,_,_⟩:=ld3 s7.o;rcases e6.o.2 with⟨hR,hor⟩|⟨hrt,hoc,hR⟩
 ·subst hR;obtain⟨rfl,rfl,rfl⟩:=a8.o oq;clear HR e6;cases hq:x.right with
  | false =>
   go_wp2_with fail;refine(yq _).mono ?_;rintro e c9 ⟨rfl,q⟩;have I:Hd _:=l.o.trans (q.mono l.o.size);clear q;go_wp2_with fail;go_ret;exact QyT.below H.o I.o
  | true =>
   have C0:U<0:=(by rcases hor with h|h;rw[hq]at h;cases h;exact h);go_wp2_with fail;refine(yq _).mono ?_;rintro e c9 ⟨rfl,q⟩;have I:Hd _:=l.o.trans (q.mono l.o.size);clear q;go_wp2_with fail;go_ret;exact QyT.below H.o I.o
 ·have B1:¬U<0:=by omega
  by_cases h0:R.1=0
  ·obtain⟨o8,d4⟩:=c2.o h0;have C6:(R.1 != 0)=false:=(by simp[h0]);have A6:Hd (Calls S 73 #[.pointer (F ⟨SB,0,N⟩),.agg #[O o s k8,J Z R.2.2.1,J Z R.2.2.2],.agg #[O (F ⟨gF,0,N⟩) s s,J Z R.2.2.1,J Z R.2.2.2]] Y (AnK base SB n (O (F ⟨wb,u,N⟩) m c8) cv sv iv bv cs bs w Y)):=by
    have hi:=i7.o;rw[o8]at d4 hi⊢;exact xf base SB n _ _ sv iv bv cs is bs o (F ⟨gF,0,N⟩) k8 R.2.1.length gF 0 R.2.1 R.2.2.1 R.2.2.2 w Y hn H.o l.o d4 hi
   clear d4 hR c2 i7 o8;go_wp2_with fail;refine A6.o.mono ?_;rintro e c9 ⟨rfl,q,v7,v8,o2,g7,g9⟩;have s8:Hd (QyT base SB n (O (F ⟨wb,u,N⟩) m c8) cv sv iv bv cs bs w (.returned (.bool true)) c9):=⟨rfl,(l.o.mono A5.o).trans q,v7,v8,o2,λb h1 h2 h3=>(g7 b h1 h2 h3).trans (l.o.block b h1),g9,Nat.le_trans l.o.size q.size⟩;clear q o2 g7 g9;go_wp2_with fail;go_ret;exact s8.o
  ·rcases hR h0 with hR|hR
   ·subst hR;obtain⟨rfl,rfl,rfl⟩:=a8.o oq;clear HR e6 h0;go_wp2_with fail;refine(yq _).mono ?_;rintro e c9 ⟨rfl,q⟩;have I:Hd _:=l.o.trans (q.mono l.o.size);clear q;go_wp2_with fail;go_ret;exact QyT.below H.o I.o
   ·subst hR;obtain⟨rfl,rfl,rfl⟩:=a8.o oq;clear HR e6 h0;go_wp2_with fail;refine(yq _).mono ?_;rintro e c9 ⟨rfl,q⟩;have I:Hd _:=l.o.trans (q.mono l.o.size);clear q;go_wp2_with fail;go_ret;exact QyT.below H.o I.o
end Go.Proofs.YtaebngpoagjafabGreat
