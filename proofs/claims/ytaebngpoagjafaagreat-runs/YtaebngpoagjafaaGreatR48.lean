import Derived.Test.YtaebngpoagjafaaGreatR47
import Derived.Test.YtaebngpoagjafaaGreatR43
import Derived.Deep.DeepCutAuto
import Derived.Deep.RegionHeld3
set_option maxRecDepth 100000
set_option maxHeartbeats 6400000
namespace Go.Proofs.YtaebngpoagjafaaGreat
open Obj renaming cells → Q
open Value renaming int → J, slice → O
open IntKind renaming i64 → Z
open Go.RowKit
attribute [local go_sem ↓] Go.wp_at_zero Go.wp_at_succ
theorem zeW {cs:List (ByteArray×ByteArray)} {i:Nat} {x:ByteArray×ByteArray} (h:cs[i]?=some x):(cdC cs)[i*2]?=some (.string x.1)/\(cdC cs)[i*2+1]?=some (.string x.2):=by
 induction cs generalizing i with
 | nil=>simp at h
 | cons y l ih =>
  have e:cdC (y::l)=.string y.1::.string y.2::cdC l:=by simp [cdC]
  rw [e]
  cases i with
  | zero=>simp at h;subst h;simp
  | succ i =>
   have:=ih (i:=i) (by simpa using h)
   rw [show (i+1)*2=i*2+1+1 from by omega]
   simpa using this
theorem zdz (base SB n:Nat) (wo:Option Addr) (wb woff m wcp:Nat) (X:Nat->WD) (cv sv iv bv:Value) (cs:List (ByteArray×ByteArray)) (is bs:List Value) (kk oa ob oc od:Int) (os:ByteArray) (w:World) (hn:(n+1)*56<=140737488355328) (hm:m*96<=140737488351232) (hX:XS w wo wb woff m X) (h:ST w base SB n (O wo m wcp) cv sv iv bv cs is bs)
 (a0:-9223372036854775808<=oa) (a1:oa<=9223372036854775807) (b0:-9223372036854775808<=ob) (b1:ob<=9223372036854775807) (c0:-9223372036854775808<=oc) (c1:oc<=9223372036854775807) (d0:-9223372036854775808<=od) (d1:od<=9223372036854775807) :
 Calls Tryz.prog 46 #[.pointer (some ⟨SB,0,none⟩),.agg #[J Z kk,J Z oa,J Z ob,J Z oc,J Z od,.string os]] w fun e w'=>e=.returned (.bool true)/\Below base w w'/\∃ iv' is',ST w' base SB (n+1) (O wo m wcp) cv sv iv' bv cs is' bs:=by
 have H:Hid (ST w base SB n (O wo m wcp) cv sv iv bv cs is bs):=h
 have HX:Hid _:=hX
 have HBS:Hid (base<=w.heap.size):=Nat.le_trans h.hB (Nat.le_of_lt h.lt)
 have HB0:Hid (Below w.heap.size w (w.alloc (Q #[J Z kk,J Z oa,J Z ob,J Z oc,J Z od,.string os] 66))):=(Below.refl _ _).alloc (Nat.le_refl _) _
 obtain ⟨co,cc,hcv,_⟩:=yd h.cr
 subst hcv
 have s0:=h.c 0
 have s1:=h.c 1
 simp only [List.getElem?_toArray,List.getElem?_cons_succ,List.getElem?_cons_zero] at s0 s1
 have hSB:=h.lt
 have hnc:=h.nc
 clear h hX
 by_cases hm0:m=0
 ·subst hm0
  go_enter Tryz.func46,Tryz.ntmps46
  go_wp2_with fail
  go_ret
  exact ⟨rfl,HB0.out.mono HBS.out,_,_,(H.out.below HB0.out).mono⟩
 by_cases hc0:cs.length=0
 ·have hne:((m:Int)==0)=false:=by rw [beq_eq_false_iff_ne];omega
  rw [hc0] at s1
  go_enter Tryz.func46,Tryz.ntmps46
  go_wp2_with fail
  go_ret
  exact ⟨rfl,HB0.out.mono HBS.out,_,_,(H.out.below HB0.out).mono⟩
 have hne1:((m:Int)==0)=false:=by rw [beq_eq_false_iff_ne];omega
 have hne2:((cs.length:Int)==0)=false:=by rw [beq_eq_false_iff_ne];omega
 obtain rfl:=HX.out.at_ (by omega)
 obtain ⟨cg,ck,hck,hcb,hcl⟩:=H.out.cr.form (by omega)
 have hco:co=some ⟨cg,0,none⟩:=by injection hck
 subst hco
 have HCC:Hid (∀ i x,cs[i]?=some x->w.cell? ⟨cg,i*2,none⟩=some (.string x.1)/\w.cell? ⟨cg,i*2+1,none⟩=some (.string x.2)):=fun i x hx=>by
  have hi:=(List.getElem?_eq_some_iff.1 hx).1
  obtain ⟨e1,e2⟩:=zeW hx
  exact ⟨by rw [H.out.cr.cellAt (i*2) (by omega)];exact e1,by rw [H.out.cr.cellAt (i*2+1) (by omega)];exact e2⟩
 have hcl':cg<w.heap.size:=hcl
 have hwl':wb<w.heap.size:=HX.out.lt (by omega)
 clear hck hcb hcl
 go_enter Tryz.func46,Tryz.ntmps46
 go_upto_region 3 with fail
 have HO1:Hid ((w.alloc (Q #[J Z kk,J Z oa,J Z ob,J Z oc,J Z od,.string os] 66)).heap[w.heap.size]?=some (Q #[J Z kk,J Z oa,J Z ob,J Z oc,J Z od,.string os] 66 (0,0))):=heap_alloc_new w _
 have HH1:Hid _:=H.out.below HB0.out
 have s0':=(HB0.out.cell (p:=⟨SB,0,none⟩) hSB).trans s0
 have s1':=(HB0.out.cell (p:=⟨SB,1,none⟩) hSB).trans s1
 have HCC1:Hid (∀ i x,cs[i]?=some x->(w.alloc (Q #[J Z kk,J Z oa,J Z ob,J Z oc,J Z od,.string os] 66)).cell? ⟨cg,i*2,none⟩=some (.string x.1)/\(w.alloc (Q #[J Z kk,J Z oa,J Z ob,J Z oc,J Z od,.string os] 66)).cell? ⟨cg,i*2+1,none⟩=some (.string x.2)):=fun i x hx=>⟨(HB0.out.cell (p:=⟨cg,i*2,none⟩) hcl').trans (HCC.out i x hx).1,(HB0.out.cell (p:=⟨cg,i*2+1,none⟩) hcl').trans (HCC.out i x hx).2⟩
 have HB1:Hid _:=HB0.out
 have hzz:w.heap.size<(w.alloc (Q #[J Z kk,J Z oa,J Z ob,J Z oc,J Z od,.string os] 66)).heap.size:=by simp
 generalize w.alloc (Q #[J Z kk,J Z oa,J Z ob,J Z oc,J Z od,.string os] 66)=w1 at *
 clear HB0 HCC s0 s1
 obtain ⟨q0,q1,q2,q3,q4,q5⟩:=ld6 HO1.out rfl
 have hS1:SB<w1.heap.size:=by omega
 have hcg1:cg<w1.heap.size:=by omega
 have hO1:w.heap.size<w1.heap.size:=by omega
 have hcn:(0:Int)<(cs.length:Int):=by omega
 obtain ⟨kc,hkc⟩:∃ kc:Nat,pkF oa cs.length=(kc:Int):=⟨(pkF oa cs.length).toNat,by have:=(XN (c:=oa) hcn).1;omega⟩
 have hkb:kc<cs.length:=by have:=(XN (c:=oa) hcn).2;omega
 have hkb':(kc:Int)<(cs.length:Int):=by omega
 have HPK:Hid (∀ wz,Calls Tryz.prog 43 #[J Z oa,J Z cs.length] wz fun e w'=>e=.returned (J Z kc)/\w'=wz):=fun wz=>by have:=qI oa cs.length wz a0 a1 hcn (by omega);rw [hkc] at this;exact this
 obtain ⟨xc,hxc⟩:∃ xc,cs[kc]?=some xc:=⟨cs[kc],List.getElem?_eq_getElem hkb⟩
 obtain ⟨f0,f1⟩:=HCC1.out kc xc hxc
 have HXC:Hid (xc∈cs):=List.mem_of_getElem? hxc
 have hneS:w1.heap.size≠SB:=by omega
 have hneO:w1.heap.size≠w.heap.size:=by omega
 have hneC:w1.heap.size≠cg:=by omega
 clear hkc hxc
 go_cut [5] (fun s5 wx=>s5=.pointer (some ⟨w1.heap.size,0,none⟩)/\Below w1.heap.size w1 wx/\wx.heap[w1.heap.size]?=some (Q #[.string xc.1,.string xc.2] 127 (0,0)))
 case first =>
  go_region_held3 (fun w'=>w'.cell? ⟨SB,1,none⟩=some (O (some ⟨cg,0,none⟩) cs.length cc)/\w'.cell? ⟨w.heap.size,1,none⟩=some (J Z oa)/\w'.cell? ⟨cg,kc*2,none⟩=some (.string xc.1)/\w'.cell? ⟨cg,kc*2+1,none⟩=some (.string xc.2)) (first | (exact ⟨s1',q1,f0,f1⟩) | (exact ⟨zD s1' _,zD q1 _,zD f0 _,zD f1 _⟩) | (exact ⟨zA hneS (zA hneS (zD s1' _) _ _) _ _,zA hneO (zA hneO (zD q1 _) _ _) _ _,zA hneC (zA hneC (zD f0 _) _ _) _ _,zA hneC (zA hneC (zD f1 _) _ _) _ _⟩) | go_keep) (first | (go_at_call 43;refine (HPK.out _).mono ?_;rintro e w' ⟨rfl,hww⟩;subst w'))
  all_goals
   go_wp2_with fail
   go_meet
   exact ⟨rfl,((Below.refl _ _).alloc (Nat.le_refl _) _).drew,heap_alloc_new w1 _⟩
 case rest =>
 obtain ⟨rfl,hb2,hc2⟩:=hcut
 obtain ⟨w2,hw2⟩:∃ w2,w2=wc:=⟨_,rfl⟩
 subst hw2
 have HB2:Hid _:=hb2
 have HC2:Hid _:=hc2
 have s0'':=(HB2.out.cell (p:=⟨SB,0,none⟩) hS1).trans s0'
 have hO2:=(HB2.out.block _ hO1).trans HO1.out
 have HO2:Hid _:=hO2
 have hc2l:=lt_of_block HC2.out
 clear hb2 hc2 hO2 q0 q1 q2 q3 q4 q5 f0 f1 s1' HPK HCC1 hneS hneO hneC HO1
 have hmn:(0:Int)<(m:Int):=by omega
 obtain ⟨kw,hkw⟩:∃ kw:Nat,pkF ob m=(kw:Int):=⟨(pkF ob m).toNat,by have:=(XN (c:=ob) hmn).1;omega⟩
 have hkwb:kw<m:=by have:=(XN (c:=ob) hmn).2;omega
 have hkwb':(kw:Int)<(m:Int):=by omega
 have HPW:Hid (∀ wz,Calls Tryz.prog 43 #[J Z ob,J Z m] wz fun e w'=>e=.returned (J Z kw)/\w'=wz):=fun wz=>by have:=qI ob m wz b0 b1 hmn (by omega);rw [hkw] at this;exact this
 clear hkw
 obtain ⟨x,hxX⟩:∃ x,X kw=x:=⟨_,rfl⟩
 have HIN:Hid (x.In w):=by rw [<- hxX];exact HX.out.in_ kw hkwb
 have HSZ:Hid (x.pl*24<=140737488351232/\x.dl*8<=140737488351232/\x.al.length*24<=140737488351232):=by rw [<- hxX];exact HX.out.sz kw hkwb
 have HBW:Hid (Below w.heap.size w w2):=HB1.out.trans (HB2.out.mono HB1.out.size)
 have HCE:Hid (∀ j,j<6->w2.cell? ⟨wb,woff+kw*6+j,none⟩=[J Z x.a,J Z x.b,J Z x.d,O x.do_ x.dl x.dc,O x.ao x.al.length x.ac,O x.po x.pl x.pcp][j]?):=fun j hj=>by rw [HBW.out.cell (p:=⟨wb,woff+kw*6+j,none⟩) hwl',<- hxX];exact HX.out.c kw hkwb j hj
 have e0:=HCE.out 0 (by omega)
 have e1:=HCE.out 1 (by omega)
 have e2:=HCE.out 2 (by omega)
 have e3:=HCE.out 3 (by omega)
 have e4:=HCE.out 4 (by omega)
 have e5:=HCE.out 5 (by omega)
 simp only [List.getElem?_cons_succ,List.getElem?_cons_zero,Nat.add_zero] at e0 e1 e2 e3 e4 e5
 obtain ⟨_,_,q2,_,_,_⟩:=ld6 HO2.out rfl
 clear hxX HCE
 have hwb2:wb<w2.heap.size:=by omega
 have hS2:SB<w2.heap.size:=by omega
 have hO2:w.heap.size<w2.heap.size:=by omega
 go_upto_region 4 with fail
 go_cut [6] (fun s6 wx=>s6=.pointer (some ⟨w2.heap.size,0,none⟩)/\Below w2.heap.size w2 wx/\wx.heap[w2.heap.size]?=some (Q #[J Z x.a,J Z x.b,J Z x.d,O x.do_ x.dl x.dc,O x.ao x.al.length x.ac,O x.po x.pl x.pcp] 30 (0,0)))
 case first =>
  go_region_held3 (fun w'=>w'.cell? ⟨SB,0,none⟩=some (O (some ⟨wb,woff,none⟩) m wcp)/\w'.cell? ⟨w.heap.size,2,none⟩=some (J Z ob)/\w'.cell? ⟨wb,woff+kw*6,none⟩=some (J Z x.a)/\w'.cell? ⟨wb,woff+kw*6+1,none⟩=some (J Z x.b)/\w'.cell? ⟨wb,woff+kw*6+2,none⟩=some (J Z x.d)/\w'.cell? ⟨wb,woff+kw*6+3,none⟩=some (O x.do_ x.dl x.dc)/\w'.cell? ⟨wb,woff+kw*6+4,none⟩=some (O x.ao x.al.length x.ac)/\w'.cell? ⟨wb,woff+kw*6+5,none⟩=some (O x.po x.pl x.pcp)) (first | (exact ⟨s0'',q2,e0,e1,e2,e3,e4,e5⟩) | (exact ⟨zD s0'' _,zD q2 _,zD e0 _,zD e1 _,zD e2 _,zD e3 _,zD e4 _,zD e5 _⟩) | go_keep) (first | (go_at_call 43;refine (HPW.out _).mono ?_;rintro e w' ⟨rfl,hww⟩;subst w'))
  all_goals
   go_wp2_with fail
   go_meet
   exact ⟨rfl,((Below.refl _ _).alloc (Nat.le_refl _) _).drew,heap_alloc_new w2 _⟩
 case rest =>
 obtain ⟨rfl,hb3,hc3⟩:=hcut
 obtain ⟨w3,hw3⟩:∃ w3,w3=wc:=⟨_,rfl⟩
 subst hw3
 have HBW3:Hid _:=HBW.out.trans (hb3.mono HBW.out.size)
 have HO3:Hid _:=(hb3.block _ hO2).trans HO2.out
 have HC3:Hid _:=(hb3.block _ hc2l).trans HC2.out
 have HW3:Hid _:=hc3
 have hz3:=lt_of_block HW3.out
 have HOK:=H.out.ok xc HXC.out
 obtain ⟨hE,hB2⟩:=HOK
 obtain ⟨hchk,hszR,hcl1,hcl7⟩:=Q9 hE
 have hxs:xc.2.size=(cpX xc.1).length:=by rw [hB2,strOfNums_size]
 have hxs':xc.2.size<=7000:=by omega
 have HFIT:Hid (za3 xc.1=true):=by show _=_;simp [za3,hE]
 have HCHK:Hid _:=hchk
 have HCB:Hid (bsL xc.2=cpX xc.1):=by
  show _=_
  rw [hB2]
  exact ze0 (zd2 _ _)
 have HCL:Hid _:=hxs
 clear hb3 hc3 e0 e1 e2 e3 e4 e5 q2 s0' s0'' HPW HC2 HO2 hE hB2 hchk hszR hcl1 hcl7 hxs HBW HB1 HB2 HX HH1 hne1 hne2
 have HF:=fun wz=>zcr kk oa ob oc od os xc.2.size wz c0 c1 d0 d1 (by omega)
 obtain ⟨q0,q1,q2,q3,q4,q5⟩:=ld6 HO3.out rfl
 have g1:w3.cell? ⟨w1.heap.size,1,none⟩=some (.string xc.2):=by rw [cell_of_row _ _ _ _ _ _ HC3.out];rfl
 go_wp2_with fail
 refine (HF _).mono ?_
 rintro e w4 ⟨⟨fl,rfl,hfl0,hfl1⟩,hb4⟩
 have HBW4:Hid _:=HBW3.out.trans (hb4.mono HBW3.out.size)
 have HC4:Hid _:=(hb4.block _ (lt_of_block HC3.out)).trans HC3.out
 have HW4:Hid _:=(hb4.block _ hz3).trans HW3.out
 have hz4:=lt_of_block HW4.out
 clear hb4 HF q0 q1 q2 q3 q4 q5 g1 HO3 HC3 HW3 HBW3
 have g1:w4.cell? ⟨w1.heap.size,1,none⟩=some (.string xc.2):=by rw [cell_of_row _ _ _ _ _ _ HC4.out];rfl
 go_wp2_with fail
 refine (xP xc.2 _ (by omega)).mono ?_
 rintro e w5 ⟨⟨vb,rfl,hvb⟩,hb5⟩
 obtain ⟨bo,bc,bg,hvbe,_⟩:=hvb.cs
 have HVB:Hid (LnB w4.heap.size w5 vb xc.2):=hvb
 have HBW5:Hid _:=HBW4.out.trans (hb5.mono HBW4.out.size)
 have HC5:Hid _:=(hb5.block _ (lt_of_block HC4.out)).trans HC4.out
 have HW5:Hid _:=(hb5.block _ hz4).trans HW4.out
 have hz5:=lt_of_block HW5.out
 have hz45:=hb5.size
 subst hvbe
 clear hb5 hvb HBW4 HC4 HW4 g1
 have HLW:Hid (Calls Tryz.prog 72 #[.agg #[J Z x.a,J Z x.b,J Z x.d,O x.do_ x.dl x.dc,O x.ao x.al.length x.ac,O x.po x.pl x.pcp]] w5 (zee x w5)):=xO x w5 (HIN.out.below HBW5.out) HSZ.out.1 HSZ.out.2.1 HSZ.out.2.2
 obtain ⟨q0,q1,q2,q3,q4,q5⟩:=ld6 HW5.out rfl
 go_wp2_with fail
 refine HLW.out.mono ?_
 rintro e w6 ⟨⟨vd,va,vp,vm,t1,t2,rfl,hlw⟩,hb6⟩
 obtain ⟨od',cd,_,hvd,_⟩:=hlw.d.is_
 obtain ⟨op,cp,_,hvp,_⟩:=hlw.p.ts
 obtain ⟨oa',ca,om,cm,hva,hvm⟩:=hlw.a.form
 subst hvd hvp hva hvm
 have HLN:Hid _:=hlw
 have HBW6:Hid _:=HBW5.out.trans (hb6.mono HBW5.out.size)
 have HC6:Hid _:=(hb6.block _ (lt_of_block HC5.out)).trans HC5.out
 have HW6:Hid _:=(hb6.block _ hz5).trans HW5.out
 have HVB6:Hid (LnB w4.heap.size w6 (O bo (bsL xc.2).length bc) xc.2):=HVB.out.keep (fun g hg=>hb6.block g (HVB.out.lt hg).2)
 have HVG:Hid (∀ g,(O bo (bsL xc.2).length bc).ownBlock=some g->w4.heap.size<=g/\g<w5.heap.size):=fun g hg=>HVB.out.lt hg
 have hz56:=hb6.size
 clear hb6 hlw HBW5 HC5 HW5 HVB HLW q0 q1 q2 q3 q4 q5
 obtain ⟨w7,hw7⟩:∃ w7,w6.alloc (Q #[J Z x.a,J Z x.b,J Z x.d,O od' x.dl cd,O oa' x.al.length ca,O op x.pl cp] 30)=w7:=⟨_,rfl⟩
 have HW7:Hid _:=hw7
 have hz7:w7.heap.size=w6.heap.size+1:=by rw [<- hw7];simp
 have HZ7:Hid _:=hz7
 have HD67:Hid (Below w6.heap.size w6 w7):=by rw [<- hw7];exact (Below.refl _ _).alloc (Nat.le_refl _) _
 have HV7:Hid (w7.heap[w6.heap.size]?=some (Q #[J Z x.a,J Z x.b,J Z x.d,O od' x.dl cd,O oa' x.al.length ca,O op x.pl cp] 30 (0,0))):=by rw [<- hw7];exact heap_alloc_new w6 _
 clear hw7 hz7
 have hw56:w.heap.size<=w5.heap.size:=by omega
 have HABL:Hid (0<x.al.length->x.ab<w.heap.size):=HIN.out.as_.lt
 obtain ⟨R,HR⟩:∃ R,Hid (x.ru (cpX xc.1) fl=R):=⟨_,rfl⟩
 have HRUN:Hid (Calls Tryz.prog 26 #[O bo (bsL xc.2).length bc,.agg #[J Z x.a,J Z x.b,J Z x.d,O od' x.dl cd,O oa' x.al.length ca,O op x.pl cp],J Z fl] w7 (JS w7 R)):=by
  have hln:=HLN.out.below (fun h=>by have:=HABL.out h;omega) HD67.out
  have hin7:x.In w7:=HIN.out.below (HBW6.out.trans (HD67.out.mono HBW6.out.size))
  obtain ⟨y,hy1,hy2,hy3⟩:=hln.wd hin7
  obtain ⟨bo',bc',bg',e1,e2⟩:=(HVB6.out.keep (w':=w7) (fun g hg=>HD67.out.block g (HVB6.out.lt hg).2)).cs
  injection e1 with i1 i2 i3
  subst i1 i3
  have:=zal y bo bg' 0 bc (bsL xc.2) fl w7 (by rw [xG];omega) hfl1 hy2 e2
  rw [hy1,hy3,HCB.out,HR.out] at this
  rw [HCB.out]
  exact this
 go_wp2_with fail
 rw [HW7.out]
 have v0:=ld6 HV7.out rfl
 obtain ⟨q0,q1,q2,q3,q4,q5⟩:=v0
 go_wp2_with fail
 refine HRUN.out.mono ?_
 rintro e w8 ⟨hb8,o,m8,k8,rfl,hne8,heq8⟩
 have HD78:Hid _:=hb8
 have HNE8:Hid _:=hne8
 have HEQ8:Hid _:=heq8
 have h78:=hb8.size
 have h67:=HZ7.out
 have g1:w8.cell? ⟨w1.heap.size,1,none⟩=some (.string xc.2):=by
  rw [cell_of_row _ _ _ _ _ _ ((HD78.out.block _ (by omega)).trans ((HD67.out.block _ (by omega)).trans HC6.out))];rfl
 have hl1:w1.heap.size<w8.heap.size:=by omega
 obtain ⟨w9,hw9⟩:∃ w9,w8.alloc (Q #[O o m8 k8,J Z R.2.2.1,J Z R.2.2.2] 35)=w9:=⟨_,rfl⟩
 have HW9:Hid _:=hw9
 have HZ9:Hid (w9.heap.size=w8.heap.size+1):=by show _=_;rw [<- hw9];simp
 have HD89:Hid (Below w8.heap.size w8 w9):=by rw [<- hw9];exact (Below.refl _ _).alloc (Nat.le_refl _) _
 have HA9:Hid (w9.heap[w8.heap.size]?=some (Q #[O o m8 k8,J Z R.2.2.1,J Z R.2.2.2] 35 (0,0))):=by rw [<- hw9];exact heap_alloc_new w8 _
 have HD69:Hid (Below w6.heap.size w6 w9):=HD67.out.trans ((HD78.out.mono (by omega)).trans (HD89.out.mono (by omega)))
 have HV9:Hid (w9.heap[w6.heap.size]?=some (Q #[J Z x.a,J Z x.b,J Z x.d,O od' x.dl cd,O oa' x.al.length ca,O op x.pl cp] 30 (0,0))):=(HD89.out.block _ (by omega)).trans ((HD78.out.block _ (by omega)).trans HV7.out)
 clear hb8 hne8 heq8 hw9 q0 q1 q2 q3 q4 q5 HRUN
 have HWB:Hid (Calls Tryz.prog 73 #[O bo (bsL xc.2).length bc,.string xc.2] w9 fun e w'=>e=.returned (.bool true)/\w9.grownBy w' (O bo (bsL xc.2).length bc).ownBlock):=YX w4.heap.size _ xc.2 w9 (by omega) (HVB6.out.keep (fun g hg=>HD69.out.block g (HVB6.out.lt hg).2))
 go_wp2_with fail
 rw [HW9.out]
 refine HWB.out.mono ?_
 rintro e w10 ⟨rfl,hg10⟩
 have hz9:=HZ9.out
 have h910:=hg10.size
 have HK10:Hid (∀ b,b<w9.heap.size->b<w4.heap.size\/w5.heap.size<=b->w10.heap[b]?=w9.heap[b]?):=fun b hb h=>hg10.block b hb (fun e=>by have:=HVG.out _ e.symm;omega)
 have HBW10:Hid (Below w.heap.size w w10):=(HBW6.out.trans (HD69.out.mono (by omega))).grown hg10 (by omega) (fun g hg=>by have:=HVG.out g hg;omega)
 have HW10:Hid (w10.heap[w2.heap.size]?=some (Q #[J Z x.a,J Z x.b,J Z x.d,O x.do_ x.dl x.dc,O x.ao x.al.length x.ac,O x.po x.pl x.pcp] 30 (0,0))):=(HK10.out _ (by omega) (by omega)).trans ((HD69.out.block _ (by omega)).trans HW6.out)
 have HV10:Hid (w10.heap[w6.heap.size]?=some (Q #[J Z x.a,J Z x.b,J Z x.d,O od' x.dl cd,O oa' x.al.length ca,O op x.pl cp] 30 (0,0))):=(HK10.out _ (by omega) (by omega)).trans HV9.out
 have HA10:Hid (w10.heap[w8.heap.size]?=some (Q #[O o m8 k8,J Z R.2.2.1,J Z R.2.2.2] 35 (0,0))):=(HK10.out _ (by omega) (by omega)).trans HA9.out
 have HC10:Hid (w10.heap[w1.heap.size]?=some (Q #[.string xc.1,.string xc.2] 127 (0,0))):=(HK10.out _ (by omega) (by omega)).trans ((HD69.out.block _ (by omega)).trans HC6.out)
 have HWW:Hid (Calls Tryz.prog 74 #[.agg #[J Z x.a,J Z x.b,J Z x.d,O od' x.dl cd,O oa' x.al.length ca,O op x.pl cp],O om x.al.length cm,.agg #[J Z x.a,J Z x.b,J Z x.d,O x.do_ x.dl x.dc,O x.ao x.al.length x.ac,O x.po x.pl x.pcp]] w10 fun e w'=>e=.returned (.bool true)/\Below w5.heap.size w10 w'/\∀ b,w6.heap.size<=b->b<w10.heap.size->w'.heap[b]?=w10.heap[b]?):=YW w5.heap.size w6.heap.size x _ _ _ _ t1 t2 w10 (HIN.out.below HBW10.out) (fun h=>by have:=HIN.out.is_.lt h;omega) (fun h=>by have:=HIN.out.ts.lt h;omega) ((HIN.out.as_.of_kept (fun b hb=>HBW10.out.block b hb)).wide (by omega)) (by omega) HSZ.out.1 HSZ.out.2.1 HSZ.out.2.2 (HLN.out.keep (by omega) (fun h=>by have:=HABL.out h;rw [HK10.out _ (by omega) (by omega)];exact HD69.out.block _ (by omega)) (fun b h1 h2=>by rw [HK10.out _ (by omega) (by omega)];exact HD69.out.block _ h2))
 obtain ⟨q0,q1,q2,q3,q4,q5⟩:=ld6 HW10.out rfl
 obtain ⟨r0,r1,r2,r3,r4,r5⟩:=ld6 HV10.out rfl
 clear hg10 g1 HVB6 HC6 HW6 HV9 HV7 HA9 HLN HWB
 go_wp2_with fail
 refine HWW.out.mono ?_
 rintro e w11 ⟨rfl,hb11,hk11⟩
 have h1011:=hb11.size
 have HD11:Hid _:=hb11
 have HBW11:Hid (Below w.heap.size w w11):=HBW10.out.trans (hb11.mono (by omega))
 have HW11:Hid (w11.heap[w2.heap.size]?=some (Q #[J Z x.a,J Z x.b,J Z x.d,O x.do_ x.dl x.dc,O x.ao x.al.length x.ac,O x.po x.pl x.pcp] 30 (0,0))):=(hb11.block _ (by omega)).trans HW10.out
 have HA11:Hid (w11.heap[w8.heap.size]?=some (Q #[O o m8 k8,J Z R.2.2.1,J Z R.2.2.2] 35 (0,0))):=(hk11 _ (by omega) (by omega)).trans HA10.out
 have HC11:Hid (w11.heap[w1.heap.size]?=some (Q #[.string xc.1,.string xc.2] 127 (0,0))):=(hb11.block _ (by omega)).trans HC10.out
 have HEQ11:Hid (R.1=0->m8=R.2.1.length/\w11.ownsRow w.heap.size 3 1 (O o m8 k8) R.2.1.length (R.2.1.map (J Z))):=fun h=>⟨(HEQ8.out h).1,ZC (zh (HEQ8.out h).2 (fun g hg=>by
  have hg2:=(HEQ8.out h).2.lt g hg
  rw [hk11 g (by omega) (by omega),HK10.out g (by omega) (by omega),HD89.out.block g (by omega)])) (by omega)⟩
 obtain ⟨q0',q1',q2',q3',q4',q5'⟩:=ld6 HW11.out rfl
 clear hb11 hk11 HW10 HV10 HA10 HC10 HWW HEQ8 q0 q1 q2 q3 q4 q5 r0 r1 r2 r3 r4 r5 HK10 HD69 HD89 HD78 HD67
 have HRI:Hid (Calls Tryz.prog 14 #[.agg #[J Z x.a,J Z x.b,J Z x.d,O x.do_ x.dl x.dc,O x.ao x.al.length x.ac,O x.po x.pl x.pcp]] w11 fun e w'=>e=.returned (.bool x.right)/\Below w11.heap.size w11 w'):=QH x w11 (HIN.out.below HBW11.out) HSZ.out.1
 go_wp2_with fail
 refine HRI.out.mono ?_
 rintro e w12 ⟨rfl,hb12⟩
 have HBW12:Hid _:=HBW11.out.trans (hb12.mono HBW11.out.size)
 have HW12:Hid _:=(hb12.block _ (lt_of_block HW11.out)).trans HW11.out
 have HA12:Hid _:=(hb12.block _ (lt_of_block HA11.out)).trans HA11.out
 have HC12:Hid _:=(hb12.block _ (lt_of_block HC11.out)).trans HC11.out
 have HEQ12:Hid (R.1=0->m8=R.2.1.length/\w12.ownsRow w.heap.size 3 1 (O o m8 k8) R.2.1.length (R.2.1.map (J Z))):=fun h=>⟨(HEQ11.out h).1,zh (HEQ11.out h).2 (fun g hg=>hb12.block g ((HEQ11.out h).2.lt g hg).2)⟩
 clear hb12 HW11 HA11 HC11 HEQ11 HRI q0' q1' q2' q3' q4' q5'
 obtain ⟨y0,y1,y2,_,_,_⟩:=ld3 HA12.out
 have g0:w12.cell? ⟨w1.heap.size,0,none⟩=some (.string xc.1):=by rw [cell_of_row _ _ _ _ _ _ HC12.out];rfl
 have g1:w12.cell? ⟨w1.heap.size,1,none⟩=some (.string xc.2):=by rw [cell_of_row _ _ _ _ _ _ HC12.out];rfl
 have HNO:Hid (R=(9,[],0,0)\/x.right=true/\0<=fl):=by
  rw [<- HR.out]
  unfold WD.ru ruF
  by_cases hf:fl<0
  ·exact .inl (if_pos hf)
  ·cases hq:x.right with
   | true=>exact .inr ⟨rfl,by omega⟩
   | false =>
    have hq':ZA x.a x.b x.d x.V x.L x.R x.pl=false:=hq
    exact .inl (by rw [if_neg hf,hq'];rfl)
 by_cases hgo:x.right=true/\0<=fl
 ·obtain ⟨hrt,hf0⟩:=hgo
  have hf0':¬ fl<0:=by omega
  obtain ⟨k,hk1,hk2,hk3,hk4⟩:=zbR (x:=x) HFIT.out hrt
  have hcl:=HCL.out
  by_cases hfk:fl<k
  ·have hR:R=(11,[],0,0):=HR.out.symm.trans (hk3 fl hf0 hfk)
   have hlt:fl<(xc.2.size:Int):=by omega
   subst hR
   obtain ⟨rfl,rfl,rfl⟩:=HNE8.out (by decide)
   clear hk3 hk4 HR
   go_wp2_with fail
   refine (yS _).mono ?_
   rintro e w13 ⟨rfl,hb13⟩
   have HB13:Hid _:=HBW12.out.trans (hb13.mono HBW12.out.size)
   clear hb13
   go_wp2_with fail
   go_ret
   exact ⟨rfl,HB13.out.mono HBS.out,_,_,(H.out.below HB13.out).mono⟩
  ·have hR:R=(0,x.an xc.1):=HR.out.symm.trans (hk4 fl (by omega))
   obtain ⟨_,_,_,_,hat,has⟩:=zfh (x:=x) HFIT.out hrt
   subst hR
   obtain ⟨hm8,hrow⟩:=HEQ12.out rfl
   have hsv:(x.an xc.1).1=(x.mn xc.1).sv:=rfl
   have HMN:Hid (Calls Tryz.prog 76 #[.string xc.1,.agg #[J Z x.a,J Z x.b,J Z x.d,O x.do_ x.dl x.dc,O x.ao x.al.length x.ac,O x.po x.pl x.pcp]] w12 (ZY w12.heap.size w12 (x.mn xc.1))):=j5 xc.1 x w12 HCHK.out (HIN.out.below HBW12.out) hrt
   simp only at y1 y2
   rw [hat] at y1
   rw [has] at y2
   simp only [hsv] at hm8 hrow
   subst hm8
   generalize x.mn xc.1=mm at *
   have HROW:Hid (w12.ownsRow w.heap.size 3 1 (O o mm.sv.length k8) mm.sv.length (mm.sv.map (J Z))):=hrow
   obtain ⟨q0,q1,q2,q3,q4,q5⟩:=ld6 HW12.out rfl
   have hlw2:=lt_of_block HW12.out
   have hlA:=lt_of_block HA12.out
   clear hk3 hk4 HR hat has hsv hrow HEQ12 HNE8
   rcases Decidable.em (fl<(xc.2.size:Int)) with hfs | hfs
   all_goals
    go_wp2_with fail
    refine HMN.out.mono ?_
    rintro e w13 ⟨hb13,o2,k2,g2,f2,rfl,his2,_⟩
    have HBW13:Hid (Below w.heap.size w w13):=HBW12.out.trans (hb13.mono HBW12.out.size)
    have p0:=(hb13.cell (p:=⟨w8.heap.size,0,none⟩) hlA).trans y0
    have p1:=(hb13.cell (p:=⟨w8.heap.size,1,none⟩) hlA).trans y1
    have p2:=(hb13.cell (p:=⟨w8.heap.size,2,none⟩) hlA).trans y2
    have hlA':w8.heap.size<w13.heap.size:=Nat.lt_of_lt_of_le hlA hb13.size
    have hal:Below w13.heap.size w13 (w13.alloc (Q #[O o2 mm.sv.length k2,J Z mm.ttl,J Z mm.sc] 35)):=(Below.refl _ _).alloc (Nat.le_refl _) _
    have HAN:Hid (Calls Tryz.prog 77 #[.pointer (some ⟨SB,0,none⟩),.agg #[O o mm.sv.length k8,J Z mm.ttl,J Z mm.sc],.agg #[O o2 mm.sv.length k2,J Z mm.ttl,J Z mm.sc]] (w13.alloc (Q #[O o2 mm.sv.length k2,J Z mm.ttl,J Z mm.sc] 35)) fun e w'=>e=.returned (.bool true)/\Below base (w13.alloc (Q #[O o2 mm.sv.length k2,J Z mm.ttl,J Z mm.sc] 35)) w'/\∃ iv' is',ST w' base SB (n+1) (O (some ⟨wb,woff,none⟩) m wcp) (O (some ⟨cg,0,none⟩) cs.length cc) sv iv' bv cs is' bs):=X7 base SB n _ _ sv iv bv cs is bs o o2 k8 k2 g2 f2 mm.sv mm.ttl mm.sc w _ hn H.out (HBW13.out.trans (hal.mono HBW13.out.size)) (zh HROW.out (fun g hg=>(hal.block g (Nat.lt_of_lt_of_le (HROW.out.lt g hg).2 hb13.size)).trans (hb13.block g (HROW.out.lt g hg).2))) (his2.below hal his2.lt)
    have HB14:Hid (Below base w (w13.alloc (Q #[O o2 mm.sv.length k2,J Z mm.ttl,J Z mm.sc] 35))):=(HBW13.out.trans (hal.mono HBW13.out.size)).mono HBS.out
    clear hb13 his2 hal
    go_wp2_with fail
    refine HAN.out.mono ?_
    rintro e w15 ⟨rfl,hb15,iv',is',hst⟩
    have HB15:Hid _:=HB14.out.trans hb15
    have HST:Hid _:=hst
    clear hb15 hst
    go_wp2_with fail
    go_ret
    exact ⟨rfl,HB15.out,_,_,HST.out⟩
 ·have hR:R=(9,[],0,0):=by rcases HNO.out with h | h;exact h;exact absurd h hgo
  subst hR
  obtain ⟨rfl,rfl,rfl⟩:=HNE8.out (by decide)
  clear HR HNO
  cases hq:x.right with
  | false =>
   go_wp2_with fail
   refine (yS _).mono ?_
   rintro e w13 ⟨rfl,hb13⟩
   have HB13:Hid _:=HBW12.out.trans (hb13.mono HBW12.out.size)
   clear hb13
   go_wp2_with fail
   go_ret
   exact ⟨rfl,HB13.out.mono HBS.out,_,_,(H.out.below HB13.out).mono⟩
  | true =>
   have hf0:fl<0:=by rcases Int.lt_or_le fl 0 with h | h;exact h;exact absurd ⟨hq,h⟩ hgo
   go_wp2_with fail
   refine (yS _).mono ?_
   rintro e w13 ⟨rfl,hb13⟩
   have HB13:Hid _:=HBW12.out.trans (hb13.mono HBW12.out.size)
   clear hb13
   go_wp2_with fail
   go_ret
   exact ⟨rfl,HB13.out.mono HBS.out,_,_,(H.out.below HB13.out).mono⟩
end Go.Proofs.YtaebngpoagjafaaGreat
