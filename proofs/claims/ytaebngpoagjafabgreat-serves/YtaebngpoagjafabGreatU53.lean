import Derived.Test.YtaebngpoagjafabGreatU52
set_option maxRecDepth 100000
set_option maxHeartbeats 1600000
namespace Go.Proofs.YtaebngpoagjafabGreat
open Obj renaming cells → Q
open Value renaming int → J, slice → O
open IntKind renaming i64 → Z
open Go.RowKit
attribute [local go_sem ↓] Go.wp_at_zero Go.wp_at_succ
theorem ChS.grown {B R:Nat} {A:Option Nat} {w w1 w2:World} {r:Option Nat} (h:ChS B R A w w1) (hg:w1.grownBy w2 r) (hr:∀ g,r=some g->w.heap.size<=g):ChS B R A w w2 :=
 ⟨Nat.le_trans h.size hg.size,fun b hb e1 e2 e3=>(hg.block b (Nat.lt_of_lt_of_le hb h.size) (fun e=>by have:=hr b e.symm;omega)).trans (h.block b hb e1 e2 e3),fun base e1 e2 e3 e4=>(h.bel base e1 e2 e3 e4).grown hg (Nat.le_trans e3 h.size) (fun g hg'=>Nat.le_trans e3 (hr g hg'))⟩
theorem LnI.typ {B:Nat} {w:World} {o:Option Addr} {v:Value} {n:Nat} {D:Nat->Int} (h:LnI B w o v n D) {g:Nat} (hg:v.ownBlock=some g):∃ cs fr,w.heap[g]?=some (Q cs 3 fr):=by
 rcases h with ⟨_,rfl,_⟩ | ⟨ad,g',f,_,rfl,_,⟨c,hc,_⟩,_⟩
 ·cases hg
 ·cases hg;exact ⟨c,_,hc⟩
structure WsS (wI w:World) (SB:Nat) (wo:Option Addr) (wb woff m wcp:Nat) (X:Nat->WD):Prop where
 xs:XS wI wo wb woff m X
 bel:Below wI.heap.size wI w
 s0:w.cell? ⟨SB,0,none⟩=some (O wo m wcp)
 sl:SB<w.heap.size
 sz:m*96<=140737488351232
theorem Qq (SB:Nat) (p:PrS) (wI:World) (wo:Option Addr) (wb woff wcp:Nat) (X:Nat->WD) (kk oa ob oc od:Int) (os:ByteArray) (w:World) (hk:kk=10\/kk=11) (h:yR w (fun _=>True) p) (hw:WsS wI w SB wo wb woff 0 wcp X) :
 Calls Tryz.prog 37 #[.pointer (some ⟨SB,0,none⟩),.agg #[.pointer (some ⟨p.B,0,none⟩),.pointer (some ⟨p.R,0,none⟩)],.agg #[J Z kk,J Z oa,J Z ob,J Z oc,J Z od,.string os]] w (TlT p w):=by
 obtain ⟨_,a⟩:=xB w p.B p.R (opC kk oa ob oc od os)
 have b:Hid (Below w.heap.size w ((w.alloc (Q #[.pointer (some ⟨p.B,0,none⟩),.pointer (some ⟨p.R,0,none⟩)] 88)).alloc (Q #[J Z kk,J Z oa,J Z ob,J Z oc,J Z od,.string os] 53))):=a
 have H:Hid _:=h
 have e:=hw.s0
 have d:=hw.sl
 clear h hw a
 rcases hk with rfl | rfl
 all_goals
  go_enter Tryz.func37,Tryz.ntmps37
  go_wp2_with fail
  go_ret
  exact ⟨rfl,ChS.below b.out,_,H.out.below b.out,rfl,rfl,.inl rfl⟩
theorem Jo (SB:Nat) (p:PrS) (wI:World) (wo:Option Addr) (wb woff m wcp:Nat) (X:Nat->WD) (oa ob oc od:Int) (os:ByteArray) (w:World) (h:yR w (fun _=>True) p) (hw:WsS wI w SB wo wb woff m wcp X) (hm:0<m) (hIB:wI.heap.size<=p.B) (hIR:wI.heap.size<=p.R) (hIA:∀ g,p.A=some g->wI.heap.size<=g) (c0:-9223372036854775808<=oc) (c1:oc<=9223372036854775807) :
 Calls Tryz.prog 37 #[.pointer (some ⟨SB,0,none⟩),.agg #[.pointer (some ⟨p.B,0,none⟩),.pointer (some ⟨p.R,0,none⟩)],.agg #[J Z 10,J Z oa,J Z ob,J Z oc,J Z od,.string os]] w (TlT p w):=by
 obtain ⟨e9,f0⟩:=xB w p.B p.R (opC 10 oa ob oc od os)
 have c5:Hid (BxS w ((w.alloc (Q #[.pointer (some ⟨p.B,0,none⟩),.pointer (some ⟨p.R,0,none⟩)] 88)).alloc (Q #[J Z 10,J Z oa,J Z ob,J Z oc,J Z od,.string os] 53)) p.B p.R (opC 10 oa ob oc od os)):=e9
 have b1:Hid (Below w.heap.size w ((w.alloc (Q #[.pointer (some ⟨p.B,0,none⟩),.pointer (some ⟨p.R,0,none⟩)] 88)).alloc (Q #[J Z 10,J Z oa,J Z ob,J Z oc,J Z od,.string os] 53))):=f0
 have H:Hid _:=h
 have HW:Hid _:=hw
 have j0:=h.sv.lt
 have i8:=h.rf.lt
 have s0:=hw.s0
 have g9:=hw.sl
 obtain rfl:=hw.xs.at_ hm
 have b3:wb<wI.heap.size:=hw.xs.lt hm
 have i3:wb<w.heap.size:=Nat.lt_of_lt_of_le b3 hw.bel.size
 have i6:=hw.sz
 have e7:((m:Int)==0)=false:=by rw [beq_eq_false_iff_ne];omega
 have h7:Hid _:=hIA
 clear h hw e9 f0 hIA
 go_enter Tryz.func37,Tryz.ntmps37
 go_upto_region 13 with fail
 have N:=(b1.out.cell (p:=⟨SB,0,none⟩) g9).trans s0
 have b8:Hid (((w.alloc (Q #[.pointer (some ⟨p.B,0,none⟩),.pointer (some ⟨p.R,0,none⟩)] 88)).alloc (Q #[J Z 10,J Z oa,J Z ob,J Z oc,J Z od,.string os] 53)).heap.size=w.heap.size+2):=by show _=_;simp
 generalize ((w.alloc (Q #[.pointer (some ⟨p.B,0,none⟩),.pointer (some ⟨p.R,0,none⟩)] 88)).alloc (Q #[J Z 10,J Z oa,J Z ob,J Z oc,J Z od,.string os] 53))=w2 at *
 clear s0
 have b6:(0:Int)<(m:Int):=by omega
 obtain ⟨q,e8⟩:∃ q:Nat,pkF oc m=(q:Int):=⟨(pkF oc m).toNat,by have:=(XE (c:=oc) b6).1;omega⟩
 have U:q<m:=by have:=(XE (c:=oc) b6).2;omega
 have g8:(q:Int)<(m:Int):=by omega
 have g0:Hid (∀ wz,Calls Tryz.prog 31 #[J Z oc,J Z m] wz fun e w'=>e=.returned (J Z q)/\w'=wz):=fun wz=>by have:=qI oc m wz c0 c1 b6 (by omega);rw [e8] at this;exact this
 clear e8
 obtain ⟨x,a3⟩:∃ x,X q=x:=⟨_,rfl⟩
 have f:Hid (x.In wI):=by rw [<- a3];exact HW.out.xs.in_ q U
 have d0:Hid (x.pl*24<=140737488351232/\x.dl*8<=140737488351232/\x.al.length*24<=140737488351232):=by rw [<- a3];exact HW.out.xs.sz q U
 have b0:Hid (Below wI.heap.size wI w2):=HW.out.bel.trans (b1.out.mono HW.out.bel.size)
 have I:Hid (∀ j,j<6->w2.cell? ⟨wb,woff+q*6+j,none⟩=[J Z x.a,J Z x.b,J Z x.d,O x.do_ x.dl x.dc,O x.ao x.al.length x.ac,O x.po x.pl x.pcp][j]?):=fun j hj=>by rw [b0.out.cell (p:=⟨wb,woff+q*6+j,none⟩) b3,<- a3];exact HW.out.xs.c q U j hj
 have e0:=I.out 0 (by omega)
 have e1:=I.out 1 (by omega)
 have e2:=I.out 2 (by omega)
 have e3:=I.out 3 (by omega)
 have e4:=I.out 4 (by omega)
 have e5:=I.out 5 (by omega)
 simp only [List.getElem?_cons_succ,List.getElem?_cons_zero,Nat.add_zero] at e0 e1 e2 e3 e4 e5
 have q3:w2.cell? ⟨w.heap.size+1,3,none⟩=some (J Z oc):=by rw [cell_of_row _ _ _ _ _ _ c5.out.ob];rfl
 clear a3 I
 have i4:wb<w2.heap.size:=by have:=b8.out;omega
 have i7:SB<w2.heap.size:=by have:=b8.out;omega
 have i9:w.heap.size+1<w2.heap.size:=by have:=b8.out;omega
 go_cut [13] (fun s6 wx=>s6=.pointer (some ⟨w2.heap.size,0,none⟩)/\Below w2.heap.size w2 wx/\wx.heap[w2.heap.size]?=some (Q #[J Z x.a,J Z x.b,J Z x.d,O x.do_ x.dl x.dc,O x.ao x.al.length x.ac,O x.po x.pl x.pcp] 31 (0,0)))
 case first =>
  go_region_held3 (fun w'=>w'.cell? ⟨SB,0,none⟩=some (O (some ⟨wb,woff,none⟩) m wcp)/\w'.cell? ⟨w.heap.size+1,3,none⟩=some (J Z oc)/\w'.cell? ⟨wb,woff+q*6,none⟩=some (J Z x.a)/\w'.cell? ⟨wb,woff+q*6+1,none⟩=some (J Z x.b)/\w'.cell? ⟨wb,woff+q*6+2,none⟩=some (J Z x.d)/\w'.cell? ⟨wb,woff+q*6+3,none⟩=some (O x.do_ x.dl x.dc)/\w'.cell? ⟨wb,woff+q*6+4,none⟩=some (O x.ao x.al.length x.ac)/\w'.cell? ⟨wb,woff+q*6+5,none⟩=some (O x.po x.pl x.pcp)) (first | (exact ⟨N,q3,e0,e1,e2,e3,e4,e5⟩) | (exact ⟨zB N _,zB q3 _,zB e0 _,zB e1 _,zB e2 _,zB e3 _,zB e4 _,zB e5 _⟩) | go_keep) (first | (go_at_call 31;refine (g0.out _).mono ?_;rintro e w' ⟨rfl,i5⟩;subst w'))
  all_goals
   go_wp2_with fail
   go_meet
   exact ⟨rfl,((Below.refl _ _).alloc (Nat.le_refl _) _).drew,heap_alloc_new w2 _⟩
 case rest =>
 obtain ⟨rfl,W,a4⟩:=hcut
 obtain ⟨n,g5⟩:∃ n,n=wc:=⟨_,rfl⟩
 subst g5
 have o:Hid (Below w.heap.size w n):=b1.out.trans (W.mono b1.out.size)
 have f2:Hid (BxS w n p.B p.R (opC 10 oa ob oc od os)):=c5.out.keep (fun b _ h2=>W.block b h2)
 have f3:Hid _:=a4
 have a9:Hid (Below wI.heap.size wI n):=b0.out.trans (W.mono b0.out.size)
 have i2:=W.size
 have h4:w2.heap.size<n.heap.size:=lt_of_block a4
 have d3:n.cell? ⟨w2.heap.size,3,none⟩=some (O x.do_ x.dl x.dc):=by rw [cell_of_row _ _ _ _ _ _ a4];rfl
 have g2:Hid (Calls Tryz.prog 77 #[O x.do_ x.dl x.dc] n fun e w'=>(∃ v,e=.returned v/\LnI n.heap.size w' x.do_ v x.dl x.Dn)/\Below n.heap.size n w'):=Q9 x.do_ x.db x.doff x.dl x.dc x.Dn n d0.out.2.1 (f.out.is_.below a9.out f.out.is_.lt)
 clear W a4 e0 e1 e2 e3 e4 e5 q3 N g0 c5 b0 e7
 go_wp2_with fail
 refine g2.out.mono ?_
 rintro e l ⟨⟨v,rfl,hv⟩,F⟩
 obtain ⟨y,G,g,g7,b5,_⟩:=hv.is_
 have a2:Hid (LnI n.heap.size l x.do_ v x.dl x.Dn):=hv
 have f7:Hid (IS l y g 0 x.dl x.Dn):=b5
 have a6:Hid (yR l (fun b=>v.ownBlock≠some b) p):=by
  have hb:Below w.heap.size w l:=o.out.trans (F.mono o.out.size)
  exact (H.out.wk (fun b _ hl e=>by have:=(hv.lt e).1;have:=o.out.size;omega)).below hb
 have d6:Hid (Below w.heap.size w l):=o.out.trans (F.mono o.out.size)
 have a5:Hid (BxS w l p.B p.R (opC 10 oa ob oc od os)):=f2.out.keep (fun b _ h2=>F.block b h2)
 have c7:Hid _:=(F.block _ h4).trans f3.out
 have g3:Hid (Below wI.heap.size wI l):=a9.out.trans (F.mono a9.out.size)
 have f4:Hid (∀ b,l.heap.size<=b->v.ownBlock≠some b):=fun b hb e=>by have:=(hv.lt e).2;omega
 have k0:=F.size
 subst g7
 clear hv b5 F g2 d3 f2 a9 f3
 have a0:l.cell? ⟨w.heap.size,0,none⟩=some (.pointer (some ⟨p.B,0,none⟩)):=by rw [cell_of_row _ _ _ _ _ _ a5.out.pb];rfl
 have b2:l.cell? ⟨w.heap.size+1,2,none⟩=some (J Z ob):=by rw [cell_of_row _ _ _ _ _ _ a5.out.ob];rfl
 go_wp2_with fail
 by_cases S:0<=ob/\ob<16/\x.dl<=16/\∀ i,i<x.dl->0<=x.Dn i/\x.Dn i<64
 ·obtain ⟨k,hk⟩:=Int.eq_ofNat_of_zero_le S.1
  have HK:Hid (ob=(k:Int)):=hk
  have b4:k<16:=by omega
  have a7:Hid (x.dl<=16/\∀ i,i<x.dl->0<=x.Dn i/\x.Dn i<64):=S.2.2
  have g4:Hid (Calls Tryz.prog 18 #[.pointer (some ⟨p.B,0,none⟩),J Z ob,O y x.dl G] l fun e w'=>e=.returned (J Z 0)/\Below p.B l w'/\Kp p.B l w'/\SV w' (fun b=>(O y x.dl G).ownBlock≠some b) p.B p.C p.dn (fun i=>if i=k then (List.range x.dl).map x.Dn else p.al i) p.V p.L p.Rg p.pl):=by
   show Calls _ _ _ _ _
   rw [HK.out]
   exact a6.out.sv.aliasC b4 f7.out a7.out.1 a7.out.2 f4.out
  clear S hk
  refine g4.out.mono ?_
  rintro e w5 ⟨rfl,b7,u,d9⟩
  have b9:Hid (BxS w w5 p.B p.R (opC 10 oa ob oc od os)):=a5.out.keep (fun b h1 h2=>u.block b (by omega) h2)
  have c6:Hid _:=(u.block _ (by omega) (lt_of_block c7.out)).trans c7.out
  have d4:Hid (Below wI.heap.size wI w5):=g3.out.trans (b7.mono hIB)
  obtain ⟨cb,fb,E⟩:=a6.out.sv.blk
  have P:=a6.out.rf.other E u
  have f5:Hid (LnI n.heap.size w5 x.do_ (O y x.dl G) x.dl x.Dn):=a2.out.keep (fun g hg=>by
   obtain ⟨c9,f9,h9⟩:=a2.out.typ hg
   exact u.block g (zO h9 E (by decide)) (lt_of_block h9))
  have i0:Hid (ChS p.B p.R p.A w w5):=(ChS.below d6.out).trans (ChS.kpB b7 u)
  have f6:Hid _:=d9
  have d1:Hid _:=P
  have f8:Hid (Calls Tryz.prog 78 #[.pointer (some ⟨p.R,0,none⟩),J Z ob,O x.do_ x.dl x.dc] w5 (AlT w5 (fun b=>(O y x.dl G).ownBlock≠some b) p.R p.A p.s p.D p.al p.V p.L p.Rg p.pl k x.dl x.Dn)):=by
   show Calls _ _ _ _ _
   rw [HK.out]
   exact za8 P b4 x.do_ x.db x.doff x.dl x.dc x.Dn (f.out.is_.below d4.out f.out.is_.lt) a7.out.1 a7.out.2 (fun h0=>by have:=f.out.is_.lt h0;omega) (fun b hb=>f4.out b (Nat.le_trans u.size hb))
  have j1:=u.size
  clear b7 u d9 E P g4
  have a1:w5.cell? ⟨w.heap.size,1,none⟩=some (.pointer (some ⟨p.R,0,none⟩)):=by rw [cell_of_row _ _ _ _ _ _ b9.out.pb];rfl
  have k1:w5.cell? ⟨w.heap.size+1,2,none⟩=some (J Z ob):=by rw [cell_of_row _ _ _ _ _ _ b9.out.ob];rfl
  have d3:w5.cell? ⟨w2.heap.size,3,none⟩=some (O x.do_ x.dl x.dc):=by rw [cell_of_row _ _ _ _ _ _ c6.out];rfl
  go_wp2_with fail
  refine f8.out.mono ?_
  rintro e w6 ⟨rfl,r,A',f1,e6⟩
  have K:∀ g,p.A=some g->g<w.heap.size:=fun g hg=>H.out.rf.alt hg
  have k2:Hid (BxS w w6 p.B p.R (opC 10 oa ob oc od os)):=b9.out.keep (fun b h1 h2=>r.block b (by omega) (fun e=>by have:=K b e;omega) h2)
  have h5:Hid _:=(r.block _ (by omega) (fun e=>by have:=K _ e;omega) (lt_of_block c6.out)).trans c6.out
  have c8:Hid (LnI n.heap.size w6 x.do_ (O y x.dl G) x.dl x.Dn):=f5.out.keep (fun g hg=>by
   have h9:=f5.out.lt hg
   exact r.block g (by omega) (fun e=>by have:=K g e;omega) h9.2)
  have h8:Hid (ChS p.B p.R p.A w w6):=i0.out.trans (ChS.kq r)
  have d7:wI.heap.size<=w5.heap.size:=d4.out.size
  have a8:Hid (IS w6 x.do_ x.db x.doff x.dl x.Dn):=f.out.is_.below (d4.out.trans (r.bel _ hIR d7 h7.out)) f.out.is_.lt
  have h6:Hid (yR w6 (fun b=>(O y x.dl G).ownBlock≠some b) { p with A:=A',al:=fun i=>if i=k then (List.range x.dl).map x.Dn else p.al i }):=by
   obtain ⟨cr,fr,hr⟩:=d1.out.blk
   exact ⟨f6.out.other hr (fun g hg=>d1.out.ablk hg) r.size r.block,e6,H.out.st,H.out.dd,H.out.pp⟩
  have d8:wI.heap.size<=n.heap.size:=by have:=HW.out.bel.size;have:=o.out.size;omega
  have Y:Hid (Calls Tryz.prog 79 #[O y x.dl G,O x.do_ x.dl x.dc,J Z 1] w6 fun e w'=>e=.returned (.bool true)/\w6.grownBy w' (O y x.dl G).ownBlock/\∀ g,(O y x.dl G).ownBlock=some g->w'.rowIs g 3 (x.dl+8) (fun _=>J Z 1)):=xJ n.heap.size (O y x.dl G) x.do_ x.db x.doff x.dl x.dc x.Dn 1 w6 d0.out.2.1 a8.out (fun h0=>by have:=f.out.is_.lt h0;omega) c8.out
  have i1:Hid (A'=p.A\/∃ g,A'=some g/\w.heap.size<=g):=f1.imp id (fun ⟨g,e,h⟩=>⟨g,e,by have:=d6.out.size;omega⟩)
  clear r f1 e6 f8 d1 f6 K d3
  have d3:w6.cell? ⟨w2.heap.size,3,none⟩=some (O x.do_ x.dl x.dc):=by rw [cell_of_row _ _ _ _ _ _ h5.out];rfl
  go_wp2_with fail
  refine Y.out.mono ?_
  rintro e w7 ⟨rfl,z,_⟩
  have d2:Hid _:=h6.out.grown z (.inl rfl) (fun g hg=>c8.out.typ hg)
  have d5:Hid (ChS p.B p.R p.A w w7):=h8.out.grown z (fun g hg=>by have:=(c8.out.lt hg).1;have:=o.out.size;omega)
  clear z Y
  go_wp2_with fail
  go_ret
  exact ⟨rfl,d5.out,_,d2.out,rfl,rfl,i1.out⟩
 ·have g1:Hid (ob<0\/15<ob\/¬ (x.dl<=16/\∀ i,i<x.dl->0<=x.Dn i/\x.Dn i<64)):=by
   show _\/_\/_
   by_cases h1:ob<0
   ·exact .inl h1
   ·by_cases h2:15<ob
    ·exact .inr (.inl h2)
    ·exact .inr (.inr (fun h3=>S ⟨by omega,by omega,h3.1,h3.2⟩))
  clear S
  refine (zdF p.B ob y g 0 x.dl G x.Dn l f7.out g1.out).mono ?_
  rintro e w' ⟨rfl,g6⟩
  subst w'
  have a1:l.cell? ⟨w.heap.size,1,none⟩=some (.pointer (some ⟨p.R,0,none⟩)):=by rw [cell_of_row _ _ _ _ _ _ a5.out.pb];rfl
  have d3:l.cell? ⟨w2.heap.size,3,none⟩=some (O x.do_ x.dl x.dc):=by rw [cell_of_row _ _ _ _ _ _ c7.out];rfl
  have a8:Hid (IS l x.do_ x.db x.doff x.dl x.Dn):=f.out.is_.below g3.out f.out.is_.lt
  go_wp2_with fail
  refine (za9 p.R ob x.do_ x.db x.doff x.dl x.dc x.Dn l a8.out g1.out).mono ?_
  rintro e w' ⟨rfl,g6⟩
  subst w'
  have d8:wI.heap.size<=n.heap.size:=by have:=HW.out.bel.size;have:=o.out.size;omega
  have Y:Hid (Calls Tryz.prog 79 #[O y x.dl G,O x.do_ x.dl x.dc,J Z 1] l fun e w'=>e=.returned (.bool true)/\l.grownBy w' (O y x.dl G).ownBlock/\∀ g,(O y x.dl G).ownBlock=some g->w'.rowIs g 3 (x.dl+8) (fun _=>J Z 1)):=xJ n.heap.size (O y x.dl G) x.do_ x.db x.doff x.dl x.dc x.Dn 1 l d0.out.2.1 a8.out (fun h0=>by have:=f.out.is_.lt h0;omega) a2.out
  go_wp2_with fail
  refine Y.out.mono ?_
  rintro e w7 ⟨rfl,z,_⟩
  have d2:Hid _:=a6.out.grown z (.inl rfl) (fun g hg=>a2.out.typ hg)
  have d5:Hid (ChS p.B p.R p.A w w7):=(ChS.below d6.out).grown z (fun g hg=>by have:=(a2.out.lt hg).1;have:=o.out.size;omega)
  clear z Y
  go_wp2_with fail
  go_ret
  exact ⟨rfl,d5.out,_,d2.out,rfl,rfl,.inl rfl⟩
theorem LnP.typ {B:Nat} {w:World} {o:Option Addr} {v:Value} {n:Nat} {V L R:Nat->Int} (h:LnP B w o v n V L R) {g:Nat} (hg:v.ownBlock=some g):∃ cs fr,w.heap[g]?=some (Q cs 96 fr):=by
 rcases h with ⟨_,rfl,_⟩ | ⟨ad,g',f,_,rfl,_,⟨c,hc,_⟩,_⟩
 ·cases hg
 ·cases hg;exact ⟨c,_,hc⟩
theorem jt (SB:Nat) (p:PrS) (wI:World) (wo:Option Addr) (wb woff m wcp:Nat) (X:Nat->WD) (oa ob oc od:Int) (os:ByteArray) (w:World) (h:yR w (fun _=>True) p) (hw:WsS wI w SB wo wb woff m wcp X) (hm:0<m) (hIB:wI.heap.size<=p.B) (hIR:wI.heap.size<=p.R) (c0:-9223372036854775808<=ob) (c1:ob<=9223372036854775807) :
 Calls Tryz.prog 37 #[.pointer (some ⟨SB,0,none⟩),.agg #[.pointer (some ⟨p.B,0,none⟩),.pointer (some ⟨p.R,0,none⟩)],.agg #[J Z 11,J Z oa,J Z ob,J Z oc,J Z od,.string os]] w (TlT p w):=by
 obtain ⟨e9,f0⟩:=xB w p.B p.R (opC 11 oa ob oc od os)
 have c5:Hid (BxS w ((w.alloc (Q #[.pointer (some ⟨p.B,0,none⟩),.pointer (some ⟨p.R,0,none⟩)] 88)).alloc (Q #[J Z 11,J Z oa,J Z ob,J Z oc,J Z od,.string os] 53)) p.B p.R (opC 11 oa ob oc od os)):=e9
 have b3:Hid (Below w.heap.size w ((w.alloc (Q #[.pointer (some ⟨p.B,0,none⟩),.pointer (some ⟨p.R,0,none⟩)] 88)).alloc (Q #[J Z 11,J Z oa,J Z ob,J Z oc,J Z od,.string os] 53))):=f0
 have H:Hid _:=h
 have HW:Hid _:=hw
 have i4:=h.sv.lt
 have i2:=h.rf.lt
 have s0:=hw.s0
 have g6:=hw.sl
 obtain rfl:=hw.xs.at_ hm
 have b4:wb<wI.heap.size:=hw.xs.lt hm
 have h6:wb<w.heap.size:=Nat.lt_of_lt_of_le b4 hw.bel.size
 have i0:=hw.sz
 have e7:((m:Int)==0)=false:=by rw [beq_eq_false_iff_ne];omega
 clear h hw e9 f0
 go_enter Tryz.func37,Tryz.ntmps37
 go_upto_region 19 with fail
 have W:=(b3.out.cell (p:=⟨SB,0,none⟩) g6).trans s0
 have b7:Hid (((w.alloc (Q #[.pointer (some ⟨p.B,0,none⟩),.pointer (some ⟨p.R,0,none⟩)] 88)).alloc (Q #[J Z 11,J Z oa,J Z ob,J Z oc,J Z od,.string os] 53)).heap.size=w.heap.size+2):=by show _=_;simp
 generalize ((w.alloc (Q #[.pointer (some ⟨p.B,0,none⟩),.pointer (some ⟨p.R,0,none⟩)] 88)).alloc (Q #[J Z 11,J Z oa,J Z ob,J Z oc,J Z od,.string os] 53))=w2 at *
 clear s0
 have b6:(0:Int)<(m:Int):=by omega
 obtain ⟨o,e8⟩:∃ o:Nat,pkF ob m=(o:Int):=⟨(pkF ob m).toNat,by have:=(XE (c:=ob) b6).1;omega⟩
 have a2:o<m:=by have:=(XE (c:=ob) b6).2;omega
 have g5:(o:Int)<(m:Int):=by omega
 have f7:Hid (∀ wz,Calls Tryz.prog 31 #[J Z ob,J Z m] wz fun e w'=>e=.returned (J Z o)/\w'=wz):=fun wz=>by have:=qI ob m wz c0 c1 b6 (by omega);rw [e8] at this;exact this
 clear e8
 obtain ⟨x,a5⟩:∃ x,X o=x:=⟨_,rfl⟩
 have K:Hid (x.In wI):=by rw [<- a5];exact HW.out.xs.in_ o a2
 have a9:Hid (x.pl*24<=140737488351232/\x.dl*8<=140737488351232/\x.al.length*24<=140737488351232):=by rw [<- a5];exact HW.out.xs.sz o a2
 have b2:Hid (Below wI.heap.size wI w2):=HW.out.bel.trans (b3.out.mono HW.out.bel.size)
 have N:Hid (∀ j,j<6->w2.cell? ⟨wb,woff+o*6+j,none⟩=[J Z x.a,J Z x.b,J Z x.d,O x.do_ x.dl x.dc,O x.ao x.al.length x.ac,O x.po x.pl x.pcp][j]?):=fun j hj=>by rw [b2.out.cell (p:=⟨wb,woff+o*6+j,none⟩) b4,<- a5];exact HW.out.xs.c o a2 j hj
 have e0:=N.out 0 (by omega)
 have e1:=N.out 1 (by omega)
 have e2:=N.out 2 (by omega)
 have e3:=N.out 3 (by omega)
 have e4:=N.out 4 (by omega)
 have e5:=N.out 5 (by omega)
 simp only [List.getElem?_cons_succ,List.getElem?_cons_zero,Nat.add_zero] at e0 e1 e2 e3 e4 e5
 have q3:w2.cell? ⟨w.heap.size+1,2,none⟩=some (J Z ob):=by rw [cell_of_row _ _ _ _ _ _ c5.out.ob];rfl
 clear a5 N
 have h7:wb<w2.heap.size:=by have:=b7.out;omega
 have i1:SB<w2.heap.size:=by have:=b7.out;omega
 have i3:w.heap.size+1<w2.heap.size:=by have:=b7.out;omega
 go_cut [18] (fun s6 wx=>s6=.pointer (some ⟨w2.heap.size,0,none⟩)/\Below w2.heap.size w2 wx/\wx.heap[w2.heap.size]?=some (Q #[J Z x.a,J Z x.b,J Z x.d,O x.do_ x.dl x.dc,O x.ao x.al.length x.ac,O x.po x.pl x.pcp] 31 (0,0)))
 case first =>
  go_region_held3 (fun w'=>w'.cell? ⟨SB,0,none⟩=some (O (some ⟨wb,woff,none⟩) m wcp)/\w'.cell? ⟨w.heap.size+1,2,none⟩=some (J Z ob)/\w'.cell? ⟨wb,woff+o*6,none⟩=some (J Z x.a)/\w'.cell? ⟨wb,woff+o*6+1,none⟩=some (J Z x.b)/\w'.cell? ⟨wb,woff+o*6+2,none⟩=some (J Z x.d)/\w'.cell? ⟨wb,woff+o*6+3,none⟩=some (O x.do_ x.dl x.dc)/\w'.cell? ⟨wb,woff+o*6+4,none⟩=some (O x.ao x.al.length x.ac)/\w'.cell? ⟨wb,woff+o*6+5,none⟩=some (O x.po x.pl x.pcp)) (first | (exact ⟨W,q3,e0,e1,e2,e3,e4,e5⟩) | (exact ⟨zB W _,zB q3 _,zB e0 _,zB e1 _,zB e2 _,zB e3 _,zB e4 _,zB e5 _⟩) | go_keep) (first | (go_at_call 31;refine (f7.out _).mono ?_;rintro e w' ⟨rfl,h8⟩;subst w'))
  all_goals
   go_wp2_with fail
   go_meet
   exact ⟨rfl,((Below.refl _ _).alloc (Nat.le_refl _) _).drew,heap_alloc_new w2 _⟩
 case rest =>
 obtain ⟨rfl,a3,a6⟩:=hcut
 obtain ⟨i,g3⟩:∃ i,i=wc:=⟨_,rfl⟩
 subst g3
 have l:Hid (Below w.heap.size w i):=b3.out.trans (a3.mono b3.out.size)
 have f1:Hid (BxS w i p.B p.R (opC 11 oa ob oc od os)):=c5.out.keep (fun b _ h2=>a3.block b h2)
 have f2:Hid _:=a6
 have b1:Hid (Below wI.heap.size wI i):=b2.out.trans (a3.mono b2.out.size)
 have h5:=a3.size
 have g7:w2.heap.size<i.heap.size:=lt_of_block a6
 have d3:i.cell? ⟨w2.heap.size,5,none⟩=some (O x.po x.pl x.pcp):=by rw [cell_of_row _ _ _ _ _ _ a6];rfl
 have g0:Hid (Calls Tryz.prog 80 #[O x.po x.pl x.pcp] i fun e w'=>(∃ v,e=.returned v/\LnP i.heap.size w' x.po v x.pl x.V x.L x.R)/\Below i.heap.size i w'):=qS x.po x.pb x.poff x.pl x.pcp x.V x.L x.R i a9.out.1 (K.out.ts.below b1.out)
 clear a3 a6 e0 e1 e2 e3 e4 e5 q3 W f7 c5 b2 e7
 go_wp2_with fail
 refine g0.out.mono ?_
 rintro e P ⟨⟨v,rfl,hv⟩,E⟩
 obtain ⟨u,F,g,g4,b5⟩:=hv.ts
 have c7:Hid (LnP i.heap.size P x.po v x.pl x.V x.L x.R):=hv
 have f5:Hid (TS P u g 0 x.pl x.V x.L x.R):=b5
 have b0:Hid (yR P (fun b=>v.ownBlock≠some b) p):=by
  have hb:Below w.heap.size w P:=l.out.trans (E.mono l.out.size)
  exact (H.out.wk (fun b _ hl e=>by have:=(hv.lt e).1;have:=l.out.size;omega)).below hb
 have d7:Hid (Below w.heap.size w P):=l.out.trans (E.mono l.out.size)
 have b9:Hid (BxS w P p.B p.R (opC 11 oa ob oc od os)):=f1.out.keep (fun b _ h2=>E.block b h2)
 have a7:Hid _:=(E.block _ g7).trans f2.out
 have d5:Hid (Below wI.heap.size wI P):=b1.out.trans (E.mono b1.out.size)
 have f3:Hid (∀ b,P.heap.size<=b->v.ownBlock≠some b):=fun b hb e=>by have:=(hv.lt e).2;omega
 have i6:=E.size
 subst g4
 clear hv b5 E g0 d3 f1 b1 f2
 have a0:P.cell? ⟨w.heap.size,0,none⟩=some (.pointer (some ⟨p.B,0,none⟩)):=by rw [cell_of_row _ _ _ _ _ _ b9.out.pb];rfl
 go_wp2_with fail
 cases hok:yO x.V x.L x.R x.pl with
 | true =>
  have d2:Hid (yO x.V x.L x.R x.pl=true):=hok
  have g2:Hid (Calls Tryz.prog 20 #[.pointer (some ⟨p.B,0,none⟩),O u x.pl F] P fun e w'=>e=.returned (J Z 0)/\Below p.B P w'/\Kp p.B P w'/\SV w' (fun b=>(O u x.pl F).ownBlock≠some b) p.B p.C p.dn p.al x.V x.L x.R x.pl):=b0.out.sv.locateC f5.out d2.out f3.out
  clear hok
  refine g2.out.mono ?_
  rintro e n ⟨rfl,f,q,d9⟩
  have b8:Hid (BxS w n p.B p.R (opC 11 oa ob oc od os)):=b9.out.keep (fun b h1 h2=>q.block b (by omega) h2)
  have G:Hid _:=(q.block _ (by omega) (lt_of_block a7.out)).trans a7.out
  have U:Hid (Below wI.heap.size wI n):=d5.out.trans (f.mono hIB)
  obtain ⟨cb,fb,z⟩:=b0.out.sv.blk
  have Y:=b0.out.rf.other z q
  have a8:Hid (LnP i.heap.size n x.po (O u x.pl F) x.pl x.V x.L x.R):=c7.out.keep (fun g hg=>by
   obtain ⟨c9,f9,h9⟩:=c7.out.typ hg
   exact q.block g (zO h9 z (by decide)) (lt_of_block h9))
  have h3:Hid (ChS p.B p.R p.A w n):=(ChS.below d7.out).trans (ChS.kpB f q)
  have f4:Hid _:=d9
  have c8:Hid _:=Y
  have f6:Hid (Calls Tryz.prog 81 #[.pointer (some ⟨p.R,0,none⟩),O x.po x.pl x.pcp] n fun e w'=>e=.returned (J Z 0)/\Below p.R n w'/\Kp p.R n w'/\RfV w' (fun b=>(O u x.pl F).ownBlock≠some b) p.R p.A p.s p.D p.al x.V x.L x.R x.pl):=JB Y x.po x.pb x.poff x.pl x.pcp x.V x.L x.R (K.out.ts.below U.out) d2.out (fun b hb=>f3.out b (Nat.le_trans q.size hb))
  have i5:=q.size
  clear f q d9 z Y g2
  have a1:n.cell? ⟨w.heap.size,1,none⟩=some (.pointer (some ⟨p.R,0,none⟩)):=by rw [cell_of_row _ _ _ _ _ _ b8.out.pb];rfl
  have d3:n.cell? ⟨w2.heap.size,5,none⟩=some (O x.po x.pl x.pcp):=by rw [cell_of_row _ _ _ _ _ _ G.out];rfl
  go_wp2_with fail
  refine f6.out.mono ?_
  rintro e r ⟨rfl,k,S,e6⟩
  have c6:Hid _:=(S.block _ (by omega) (lt_of_block G.out)).trans G.out
  have I:Hid (LnP i.heap.size r x.po (O u x.pl F) x.pl x.V x.L x.R):=a8.out.keep (fun g hg=>by
   have h9:=a8.out.lt hg
   exact S.block g (by omega) h9.2)
  have g9:Hid (ChS p.B p.R p.A w r):=h3.out.trans (ChS.kpR k S)
  have d4:Hid (TS r x.po x.pb x.poff x.pl x.V x.L x.R):=K.out.ts.below (U.out.trans (k.mono hIR))
  have d1:Hid (yR r (fun b=>(O u x.pl F).ownBlock≠some b) { p with V:=x.V,L:=x.L,Rg:=x.R,pl:=x.pl }):=by
   obtain ⟨cr,fr,hr⟩:=c8.out.blk
   exact ⟨f4.out.other hr (fun g hg=>c8.out.ablk hg) S.size (fun b e1 _ hl=>S.block b e1 hl),e6,H.out.st,H.out.dd,d2.out⟩
  have d8:wI.heap.size<=i.heap.size:=by have:=HW.out.bel.size;have:=l.out.size;omega
  have a4:Hid (Calls Tryz.prog 82 #[O u x.pl F,O x.po x.pl x.pcp] r fun e w'=>e=.returned (.bool true)/\r.grownBy w' (O u x.pl F).ownBlock):=YT i.heap.size (O u x.pl F) x.po x.pb x.poff x.pl x.pcp x.V x.L x.R r a9.out.1 d4.out (fun h0=>by have:=K.out.ts.lt h0;omega) I.out
  clear k S e6 f6 c8 f4 d3
  have d3:r.cell? ⟨w2.heap.size,5,none⟩=some (O x.po x.pl x.pcp):=by rw [cell_of_row _ _ _ _ _ _ c6.out];rfl
  go_wp2_with fail
  refine a4.out.mono ?_
  rintro e w7 ⟨rfl,y⟩
  have d0:Hid _:=d1.out.grown y (.inr rfl) (fun g hg=>I.out.typ hg)
  have d6:Hid (ChS p.B p.R p.A w w7):=g9.out.grown y (fun g hg=>by have:=(I.out.lt hg).1;have:=l.out.size;omega)
  clear y a4
  go_wp2_with fail
  go_ret
  exact ⟨rfl,d6.out,_,d0.out,rfl,rfl,.inl rfl⟩
 | false =>
  have f8:Hid (yO x.V x.L x.R x.pl=false):=hok
  clear hok
  refine (zbi p.B u g 0 x.pl F x.V x.L x.R P f5.out f8.out).mono ?_
  rintro e n ⟨rfl,f⟩
  have b8:Hid (BxS w n p.B p.R (opC 11 oa ob oc od os)):=b9.out.keep (fun b _ h2=>f.block b h2)
  have G:Hid _:=(f.block _ (lt_of_block a7.out)).trans a7.out
  have U:Hid (Below wI.heap.size wI n):=d5.out.trans (f.mono d5.out.size)
  have g8:Hid _:=b0.out.below f
  have a8:Hid (LnP i.heap.size n x.po (O u x.pl F) x.pl x.V x.L x.R):=c7.out.below f
  have g1:Hid (Below w.heap.size w n):=d7.out.trans (f.mono d7.out.size)
  clear f
  have a1:n.cell? ⟨w.heap.size,1,none⟩=some (.pointer (some ⟨p.R,0,none⟩)):=by rw [cell_of_row _ _ _ _ _ _ b8.out.pb];rfl
  have d3:n.cell? ⟨w2.heap.size,5,none⟩=some (O x.po x.pl x.pcp):=by rw [cell_of_row _ _ _ _ _ _ G.out];rfl
  go_wp2_with fail
  refine (JC p.R x.po x.pb x.poff x.pl x.pcp x.V x.L x.R n a9.out.1 (K.out.ts.below U.out) f8.out).mono ?_
  rintro e r ⟨rfl,k⟩
  have c6:Hid _:=(k.block _ (lt_of_block G.out)).trans G.out
  have d4:Hid (TS r x.po x.pb x.poff x.pl x.V x.L x.R):=K.out.ts.below (U.out.trans (k.mono U.out.size))
  have d1:Hid _:=g8.out.below k
  have I:Hid (LnP i.heap.size r x.po (O u x.pl F) x.pl x.V x.L x.R):=a8.out.below k
  have h4:Hid (Below w.heap.size w r):=g1.out.trans (k.mono g1.out.size)
  clear k d3
  have d3:r.cell? ⟨w2.heap.size,5,none⟩=some (O x.po x.pl x.pcp):=by rw [cell_of_row _ _ _ _ _ _ c6.out];rfl
  have d8:wI.heap.size<=i.heap.size:=by have:=HW.out.bel.size;have:=l.out.size;omega
  have a4:Hid (Calls Tryz.prog 82 #[O u x.pl F,O x.po x.pl x.pcp] r fun e w'=>e=.returned (.bool true)/\r.grownBy w' (O u x.pl F).ownBlock):=YT i.heap.size (O u x.pl F) x.po x.pb x.poff x.pl x.pcp x.V x.L x.R r a9.out.1 d4.out (fun h0=>by have:=K.out.ts.lt h0;omega) I.out
  go_wp2_with fail
  refine a4.out.mono ?_
  rintro e w7 ⟨rfl,y⟩
  have d0:Hid _:=d1.out.grown y (.inr rfl) (fun g hg=>I.out.typ hg)
  have d6:Hid (ChS p.B p.R p.A w w7):=(ChS.below h4.out).grown y (fun g hg=>by have:=(I.out.lt hg).1;have:=l.out.size;omega)
  clear y a4
  go_wp2_with fail
  go_ret
  exact ⟨rfl,d6.out,_,d0.out,rfl,rfl,.inl rfl⟩
section
def prL (ps:List PrS):List Value:=ps.flatMap (fun p=>[.pointer (some ⟨p.B,0,none⟩),.pointer (some ⟨p.R,0,none⟩)])
structure SRV (w:World) (base:Nat) (sv iv:Value) (ps:List PrS):Prop where
 row:w.ownsRow base 88 2 sv ps.length (prL ps)
 ok:∀ p∈ps,yR w (fun _=>True) p/\base<=p.B/\base<=p.R/\∀ g,p.A=some g->base<=g/\iv.ownBlock≠some g
 dis:∀ (i j:Nat) (p q:PrS),ps[i]?=some p->ps[j]?=some q->i≠j->p.B≠q.B/\p.R≠q.R/\∀ g,p.A=some g->q.A≠some g
section
variable {w w':World} {base SB n:Nat} {wv cv sv sv' iv bv:Value} {cs:List (ByteArray×ByteArray)} {is bs:List Value} {ps:List PrS}
theorem YG {e size:Nat} {v:Value} {m:Nat} {xs:List Value} (h:w.ownsRow base e size v m xs) {g:Nat} (hg:v.ownBlock=some g):∃ cs fr,w.heap[g]?=some (Q cs e fr):=by
 rcases h.2 with ⟨rfl,_⟩ | ⟨g',_,cur,rfl,_,hb,_⟩
 ·cases hg
 ·cases hg;exact ⟨cur,_,hb⟩
theorem ST.of (h:ST w base SB n wv cv sv iv bv cs is bs) (hB:w'.heap[SB]?=some (Q #[wv,cv,sv',iv,bv] 51 (0,0))) (hk:∀ (b:Nat) (c:Array Value) (t:TypeId) (fr:Nat×Nat),w.heap[b]?=some (Q c t fr)->(t=124\/t=57\/t=3\/t=5\/(t=25/\iv.ownBlock=some b))->w'.heap[b]?=w.heap[b]?):ST w' base SB n wv cv sv' iv bv cs is bs :=
 ⟨hB,zh h.cr (fun g hg=>by obtain ⟨c,f,a⟩:=YG h.cr hg;exact hk g c _ f a (.inl rfl)),zh h.ir (fun g hg=>by obtain ⟨c,f,a⟩:=YG h.ir hg;exact hk g c _ f a (.inr (.inr (.inr (.inr ⟨rfl,hg⟩))))),zh h.br (fun g hg=>by obtain ⟨c,f,a⟩:=YG h.br hg;exact hk g c _ f a (.inr (.inl rfl))),h.ok,fun i v hv=>(h.im i v hv).of_kept (fun g c a=>hk g c _ _ a (.inr (.inr (.inl rfl)))),fun i v hv=>(h.bm i v hv).of_kept (fun g c a=>hk g c _ _ a (.inr (.inr (.inr (.inl rfl))))),h.hB,h.nc,h.ni,h.nb⟩
theorem SRV.below (h:SRV w base sv iv ps) (hb:Below w.heap.size w w'):SRV w' base sv iv ps :=
 ⟨zh h.row (fun g hg=>hb.block g (h.row.lt g hg).2),fun p hp=>⟨(h.ok p hp).1.below hb,(h.ok p hp).2⟩,h.dis⟩
theorem ST.ch (h:ST w base SB n wv cv sv iv bv cs is bs) {p:PrS} (hp:yR w (fun _=>True) p) (hA:∀ g,p.A=some g->iv.ownBlock≠some g) (hc:ChS p.B p.R p.A w w'):ST w' base SB n wv cv sv iv bv cs is bs:=by
 obtain ⟨r,m,k⟩:=hp.sv.blk
 obtain ⟨q,l,j⟩:=hp.rf.blk
 have a:∀ (b:Nat) (c:Array Value) (t:TypeId) (f:Nat×Nat),w.heap[b]?=some (Q c t f)->t≠61->t≠86->p.A≠some b->w'.heap[b]?=w.heap[b]?:=fun b c t f hb h1 h2 h3=>hc.block b (lt_of_block hb) (zO hb k h1) (zO hb j h2) h3
 have d:∀ (b:Nat) (c:Array Value) (t:TypeId) (f:Nat×Nat),w.heap[b]?=some (Q c t f)->t≠25->p.A≠some b:=fun b c t f hb ht e=>by
  obtain ⟨s,o,i⟩:=hp.rf.ablk e
  exact zO hb i ht rfl
 refine h.of ((a SB _ _ _ h.blk (by decide) (by decide) (d SB _ _ _ h.blk (by decide))).trans h.blk) (fun b c t f hb ht=>?_)
 rcases ht with rfl | rfl | rfl | rfl | ⟨rfl,hi⟩
 ·exact a b _ _ _ hb (by decide) (by decide) (d b _ _ _ hb (by decide))
 ·exact a b _ _ _ hb (by decide) (by decide) (d b _ _ _ hb (by decide))
 ·exact a b _ _ _ hb (by decide) (by decide) (d b _ _ _ hb (by decide))
 ·exact a b _ _ _ hb (by decide) (by decide) (d b _ _ _ hb (by decide))
 ·exact a b _ _ _ hb (by decide) (by decide) (fun e=>hA b e hi)
theorem zec {i:Nat} {p p':PrS} (h:ps[i]?=some p) (h1:p'.B=p.B) (h2:p'.R=p.R):prL (ps.set i p')=prL ps:=by
 induction ps generalizing i with
 | nil=>rfl
 | cons q ps ih =>
  cases i with
  | zero =>
   simp at h
   subst h
   simp [prL,h1,h2]
  | succ i =>
   simp only [List.getElem?_cons_succ] at h
   have:=ih h
   simp only [prL,List.set_cons_succ,List.flatMap_cons] at this ⊢
   rw [this]
theorem SRV.told (h:SRV w base sv iv ps) (hst:ST w base SB n wv cv sv iv bv cs is bs) {i:Nat} {p p':PrS} (hi:ps[i]?=some p) (hc:ChS p.B p.R p.A w w') (hp':yR w' (fun _=>True) p') (e1:p'.B=p.B) (e2:p'.R=p.R) (e3:p'.A=p.A\/∃ g,p'.A=some g/\w.heap.size<=g):SRV w' base sv iv (ps.set i p'):=by
 have G:=List.mem_of_getElem? hi
 obtain ⟨r,J,I,H⟩:=h.ok p G
 obtain ⟨U,P,L⟩:=r.sv.blk
 obtain ⟨S,O,K⟩:=r.rf.blk
 have N:base<=w.heap.size:=by have:=r.sv.lt;omega
 have m:=(List.getElem?_eq_some_iff.1 hi).1
 have o:∀ g,p'.A=some g->(p.A=some g\/w.heap.size<=g):=fun g hg=>by
  rcases e3 with e | ⟨g',e,h'⟩
  ·rw [e] at hg;exact .inl hg
  ·rw [e] at hg;cases hg;exact .inr h'
 refine ⟨?_,fun q hq=>?_,fun a b x y k hb hab=>?_⟩
 ·rw [List.length_set,zec hi e1 e2]
  refine zh h.row (fun g hg=>?_)
  obtain ⟨c,f,d⟩:=YG h.row hg
  exact hc.block g (lt_of_block d) (zO d L (by decide)) (zO d K (by decide)) (fun e=>by
   obtain ⟨V,Q,k⟩:=r.rf.ablk e
   exact zO d k (by decide) rfl)
 ·obtain ⟨j,s⟩:=List.getElem?_of_mem hq
  by_cases l:i=j
  ·subst l
   rw [List.getElem?_set_self m] at s
   cases s
   refine ⟨hp',by rw [e1];exact J,by rw [e2];exact I,fun g hg=>?_⟩
   rcases o g hg with h' | h'
   ·exact H g h'
   ·exact ⟨by omega,fun e=>by have:=(hst.ir.lt g e).2;omega⟩
  ·rw [List.getElem?_set_ne l] at s
   obtain ⟨F,E⟩:=h.ok q (List.mem_of_getElem? s)
   obtain ⟨D,C,z⟩:=h.dis j i q p s hi (fun e=>l e.symm)
   exact ⟨F.ch hc L K (fun g hg=>r.rf.ablk hg) D C z,E⟩
 ·by_cases v:i=a
  ·subst v
   rw [List.getElem?_set_self m] at k
   cases k
   rw [List.getElem?_set_ne hab] at hb
   obtain ⟨D,C,z⟩:=h.dis i b p y hi hb hab
   refine ⟨by rw [e1];exact D,by rw [e2];exact C,fun g hg hy=>?_⟩
   rcases o g hg with h' | h'
   ·exact z g h' hy
   ·have:=(h.ok y (List.mem_of_getElem? hb)).1.rf.alt hy
    omega
  ·rw [List.getElem?_set_ne v] at k
   by_cases u:i=b
   ·subst u
    rw [List.getElem?_set_self m] at hb
    cases hb
    obtain ⟨D,C,z⟩:=h.dis a i x p k hi hab
    refine ⟨by rw [e1];exact D,by rw [e2];exact C,fun g hg hy=>?_⟩
    rcases o g hy with h' | h'
    ·exact z g hg h'
    ·have:=(h.ok x (List.mem_of_getElem? k)).1.rf.alt hg
     omega
   ·rw [List.getElem?_set_ne u] at hb
    exact h.dis a b x y k hb hab
theorem SRV.queried {iv':Value} (h:SRV w base sv iv ps) (hst:ST w base SB n wv cv sv iv bv cs is bs) (hs:w.heap.size<=w'.heap.size) (hk:∀ b,b<w.heap.size->b≠SB->iv.ownBlock≠some b->w'.heap[b]?=w.heap[b]?) (hi:∀ g,iv'.ownBlock=some g->iv.ownBlock=some g\/w.heap.size<=g):SRV w' base sv iv' ps:=by
 have a:∀ (b:Nat) (c:Array Value) (t:TypeId) (f:Nat×Nat),w.heap[b]?=some (Q c t f)->t≠51->t≠25->w'.heap[b]?=w.heap[b]?:=fun b c t f hb d l=>hk b (lt_of_block hb) (zO hb hst.blk d) (fun e=>by
  obtain ⟨s,r,i⟩:=YG hst.ir e
  exact zO hb i l rfl)
 refine ⟨zh h.row (fun g hg=>?_),fun p hp=>?_,h.dis⟩
 ·obtain ⟨c,f,j⟩:=YG h.row hg
  exact a g _ _ _ j (by decide) (by decide)
 ·obtain ⟨d,l,q,k⟩:=h.ok p hp
  obtain ⟨y,v,o⟩:=d.sv.blk
  obtain ⟨x,u,m⟩:=d.rf.blk
  refine ⟨⟨d.sv.of hs (fun _ h _=>h) (a _ _ _ _ o (by decide) (by decide)) (fun b _ t _ _ ht hb=>a b _ t _ hb ?_ ?_),d.rf.of hs (fun _ h _=>h) (a _ _ _ _ m (by decide) (by decide)) (fun g hg=>?_) (fun b _ t _ _ ht hb=>a b _ t _ hb ?_ ?_),d.st,d.dd,d.pp⟩,l,q,fun g hg=>⟨(k g hg).1,fun e=>?_⟩⟩
  ·rcases ht with rfl | rfl | rfl<;>decide
  ·rcases ht with rfl | rfl | rfl<;>decide
  ·obtain ⟨s,r,i⟩:=d.rf.ablk hg
   exact hk g (lt_of_block i) (zO i hst.blk (by decide)) (k g hg).2
  ·rcases ht with rfl | rfl<;>decide
  ·rcases ht with rfl | rfl<;>decide
  ·rcases hi g e with h' | h'
   ·exact (k g hg).2 h'
   ·have:=d.rf.alt hg
    omega
end
end
end Go.Proofs.YtaebngpoagjafabGreat
