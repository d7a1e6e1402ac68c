import Derived.Test.YtaebngpoagjafaaGreatR48
import Derived.Test.YtaebngpoagjafaaGreatR47
import Derived.Test.YtaebngpoagjafaaGreatR35
set_option maxRecDepth 100000
set_option maxHeartbeats 6400000
namespace Go.Proofs.YtaebngpoagjafaaGreat
open Obj renaming cells → Q
open Value renaming int → J, slice → O
open IntKind renaming i64 → Z
open Go.RowKit
attribute [local go_sem ↓] Go.wp_at_zero Go.wp_at_succ
theorem zcO (o:Option Addr) (n k:Nat) (t c:Int) (w:World):(Instr.build 35 #[(0,O o n k),(1,J Z t),(2,J Z c)]).run Tryz.prog w=.ok (.agg #[O o n k,J Z t,J Z c]) w:=run_build w 35 _ _ (by kernel_rfl)
theorem zeU {C:List Int} (hC:∀ x∈C,0<=x/\x<256) (r:RD):cnN C r<=255:=by
 unfold cnN
 have:rdN C r 1<=255:=by
  simp only [rdN,Zg,yR,nxV]
  cases h:C[r.p]? with
  | none=>simp
  | some y=>have:=hC y (List.mem_of_getElem? h);simp;omega
 omega
theorem zbJ {W:RW} {C:List Int} (hC:∀ x∈C,0<=x/\x<256) (hA:∀ l∈W.al,l.length*8<=140737488351232) (s:RT) (h:s.sv=[]):((zC W C s).2=false->(zC W C s).1.sv=[])/\(zC W C s).1.sv.length*8<=140737488351232:=by
 have hal:∀ i:Nat,((W.al[i]?).getD []).length*8<=140737488351232:=fun i=>by
  cases hq:W.al[i]? with
  | none=>simp
  | some l=>exact hA l (List.mem_of_getElem? hq)
 have hcn:=zeU hC (nx C s.r)
 unfold zC
 simp only
 split
 ·exact ⟨fun h=>by simp at h,by simp only [Zr,h,List.nil_append,JX];omega⟩
 split
 ·unfold Zd
  simp only
  split
  ·exact ⟨fun _=>h,by simp [h]⟩
  ·split
   ·exact ⟨fun h=>by simp at h,by simp [h]⟩
   ·exact ⟨fun _=>h,by simp [h]⟩
 split
 ·unfold yL
  simp only
  split
  ·exact ⟨fun h=>by simp at h,by simp [h]⟩
  ·exact ⟨fun _=>h,by simp [h]⟩
 split
 ·exact ⟨fun _=>h,by simp [yp,h]⟩
 split
 ·exact ⟨fun _=>h,by simp [yT,h]⟩
 split
 ·exact ⟨fun _=>h,by simp [yu,h]⟩
 split
 ·exact ⟨fun h=>by simp at h,by simp only [ZK,h,List.nil_append];exact hal _⟩
 ·exact ⟨fun _=>h,by simp [h]⟩
theorem zbO {W:RW} {C:List Int} (hC:∀ x∈C,0<=x/\x<256) (hA:∀ l∈W.al,l.length*8<=140737488351232):∀ (f:Nat) (s:RT),s.sv=[]->(Yb W C f s).2.1.length*8<=140737488351232/\((Yb W C f s).1≠0->Yb W C f s=(10,[],0,0)\/Yb W C f s=(11,[],0,0)):=by
 intro f
 induction f with
 | zero=>intro s _;exact ⟨by simp [Yb],fun _=>.inr rfl⟩
 | succ f ih =>
  intro s h
  obtain ⟨h1,h2⟩:=zbJ (W:=W) hC hA s h
  simp only [Yb]
  split
  ·exact ⟨by simp,fun _=>.inl rfl⟩
  split
  ·exact ⟨h2,fun h=>absurd rfl h⟩
  ·next hq=>exact ih _ (h1 (by simpa using hq))
theorem zdy (base SB n:Nat) (wo:Option Addr) (wb woff m wcp:Nat) (X:Nat->WD) (cv sv iv bv:Value) (cs:List (ByteArray×ByteArray)) (is bs:List Value) (kk oa ob oc od:Int) (os:ByteArray) (w:World) (hn:(n+1)*56<=140737488355328) (hm:m*96<=140737488351232) (hos:os.size<=140737488351232) (hX:XS w wo wb woff m X) (h:ST w base SB n (O wo m wcp) cv sv iv bv cs is bs)
 (b0:-9223372036854775808<=ob) (b1:ob<=9223372036854775807) (c1:oc<=9223372036854775807) :
 Calls Tryz.prog 47 #[.pointer (some ⟨SB,0,none⟩),.agg #[J Z kk,J Z oa,J Z ob,J Z oc,J Z od,.string os]] w fun e w'=>e=.returned (.bool true)/\Below base w w'/\∃ iv' is',ST w' base SB (n+1) (O wo m wcp) cv sv iv' bv cs is' bs:=by
 have H:Hid _:=h
 have HX:Hid _:=hX
 have HBS:Hid (base<=w.heap.size):=Nat.le_trans h.hB (Nat.le_of_lt h.lt)
 have HB0:Hid (Below w.heap.size w (w.alloc (Q #[J Z kk,J Z oa,J Z ob,J Z oc,J Z od,.string os] 66))):=(Below.refl _ _).alloc (Nat.le_refl _) _
 have s0:=h.c 0
 simp only [List.getElem?_toArray,List.getElem?_cons_zero] at s0
 have hSB:=h.lt
 clear h hX
 by_cases hm0:m=0
 ·subst hm0
  go_enter Tryz.func47,Tryz.ntmps47
  go_wp2_with fail
  go_ret
  exact ⟨rfl,HB0.out.mono HBS.out,_,_,(H.out.below HB0.out).mono⟩
 have hne1:((m:Int)==0)=false:=by rw [beq_eq_false_iff_ne];omega
 obtain rfl:=HX.out.at_ (by omega)
 have hwl':wb<w.heap.size:=HX.out.lt (by omega)
 go_enter Tryz.func47,Tryz.ntmps47
 go_upto_region 3 with fail
 have HO2:Hid ((w.alloc (Q #[J Z kk,J Z oa,J Z ob,J Z oc,J Z od,.string os] 66)).heap[w.heap.size]?=some (Q #[J Z kk,J Z oa,J Z ob,J Z oc,J Z od,.string os] 66 (0,0))):=heap_alloc_new w _
 have s0'':=(HB0.out.cell (p:=⟨SB,0,none⟩) hSB).trans s0
 have HBW:Hid _:=HB0.out
 have hzz:w.heap.size<(w.alloc (Q #[J Z kk,J Z oa,J Z ob,J Z oc,J Z od,.string os] 66)).heap.size:=by simp
 generalize w.alloc (Q #[J Z kk,J Z oa,J Z ob,J Z oc,J Z od,.string os] 66)=w2 at *
 clear HB0 s0
 have hmn:(0:Int)<(m:Int):=by omega
 obtain ⟨kw,hkw⟩:∃ kw:Nat,pkF ob m=(kw:Int):=⟨(pkF ob m).toNat,by have:=(XN (c:=ob) hmn).1;omega⟩
 have hkwb:kw<m:=by have:=(XN (c:=ob) hmn).2;omega
 have hkwb':(kw:Int)<(m:Int):=by omega
 have HPW:Hid (∀ wz,Calls Tryz.prog 43 #[J Z ob,J Z m] wz fun e w'=>e=.returned (J Z kw)/\w'=wz):=fun wz=>by have:=qI ob m wz b0 b1 hmn (by omega);rw [hkw] at this;exact this
 clear hkw
 obtain ⟨x,hxX⟩:∃ x,X kw=x:=⟨_,rfl⟩
 have HIN:Hid (x.In w):=by rw [<- hxX];exact HX.out.in_ kw hkwb
 have HSZ:Hid (x.pl*24<=140737488351232/\x.dl*8<=140737488351232/\x.al.length*24<=140737488351232):=by rw [<- hxX];exact HX.out.sz kw hkwb
 have HCE:Hid (∀ j,j<6->w2.cell? ⟨wb,woff+kw*6+j,none⟩=[J Z x.a,J Z x.b,J Z x.d,O x.do_ x.dl x.dc,O x.ao x.al.length x.ac,O x.po x.pl x.pcp][j]?):=fun j hj=>by rw [HBW.out.cell (p:=⟨wb,woff+kw*6+j,none⟩) hwl',<- hxX];exact HX.out.c kw hkwb j hj
 have e0:=HCE.out 0 (by omega)
 have e1:=HCE.out 1 (by omega)
 have e2:=HCE.out 2 (by omega)
 have e3:=HCE.out 3 (by omega)
 have e4:=HCE.out 4 (by omega)
 have e5:=HCE.out 5 (by omega)
 simp only [List.getElem?_cons_succ,List.getElem?_cons_zero,Nat.add_zero] at e0 e1 e2 e3 e4 e5
 obtain ⟨_,_,q2,_,_,_⟩:=ld6 HO2.out rfl
 clear hxX HCE
 have hwb2:wb<w2.heap.size:=by omega
 have hS2:SB<w2.heap.size:=by omega
 have hO2:w.heap.size<w2.heap.size:=by omega
 go_cut [5] (fun s6 wx=>s6=.pointer (some ⟨w2.heap.size,0,none⟩)/\Below w2.heap.size w2 wx/\wx.heap[w2.heap.size]?=some (Q #[J Z x.a,J Z x.b,J Z x.d,O x.do_ x.dl x.dc,O x.ao x.al.length x.ac,O x.po x.pl x.pcp] 30 (0,0)))
 case first =>
  go_region_held3 (fun w'=>w'.cell? ⟨SB,0,none⟩=some (O (some ⟨wb,woff,none⟩) m wcp)/\w'.cell? ⟨w.heap.size,2,none⟩=some (J Z ob)/\w'.cell? ⟨wb,woff+kw*6,none⟩=some (J Z x.a)/\w'.cell? ⟨wb,woff+kw*6+1,none⟩=some (J Z x.b)/\w'.cell? ⟨wb,woff+kw*6+2,none⟩=some (J Z x.d)/\w'.cell? ⟨wb,woff+kw*6+3,none⟩=some (O x.do_ x.dl x.dc)/\w'.cell? ⟨wb,woff+kw*6+4,none⟩=some (O x.ao x.al.length x.ac)/\w'.cell? ⟨wb,woff+kw*6+5,none⟩=some (O x.po x.pl x.pcp)) (first | (exact ⟨s0'',q2,e0,e1,e2,e3,e4,e5⟩) | (exact ⟨zD s0'' _,zD q2 _,zD e0 _,zD e1 _,zD e2 _,zD e3 _,zD e4 _,zD e5 _⟩) | go_keep) (first | (go_at_call 43;refine (HPW.out _).mono ?_;rintro e w' ⟨rfl,hww⟩;subst w'))
  all_goals
   go_wp2_with fail
   go_meet
   exact ⟨rfl,((Below.refl _ _).alloc (Nat.le_refl _) _).drew,heap_alloc_new w2 _⟩
 case rest =>
 obtain ⟨rfl,hb3,hc3⟩:=hcut
 obtain ⟨w3,hw3⟩:∃ w3,w3=wc:=⟨_,rfl⟩
 subst hw3
 have HBW3:Hid _:=HBW.out.trans (hb3.mono HBW.out.size)
 have HO3:Hid _:=(hb3.block _ hO2).trans HO2.out
 have HW3:Hid _:=hc3
 have hz3:=lt_of_block HW3.out
 clear hb3 hc3 e0 e1 e2 e3 e4 e5 q2 s0'' HPW HO2 HBW HX hne1
 obtain ⟨_,_,_,_,_,g5⟩:=ld6 HO3.out rfl
 have HLB:Hid (Calls Tryz.prog 71 #[.string os] w3 fun e w'=>(∃ v,e=.returned v/\LnB w3.heap.size w' v os)/\Below w3.heap.size w3 w'):=xP os w3 hos
 go_wp2_with fail
 refine HLB.out.mono ?_
 rintro e w5 ⟨⟨vb,rfl,hvb⟩,hb5⟩
 obtain ⟨bo,bc,bg,hvbe,_⟩:=hvb.cs
 have HVB:Hid (LnB w3.heap.size w5 vb os):=hvb
 have HBW5:Hid _:=HBW3.out.trans (hb5.mono HBW3.out.size)
 have HO5:Hid _:=(hb5.block _ (lt_of_block HO3.out)).trans HO3.out
 have HW5:Hid _:=(hb5.block _ hz3).trans HW3.out
 have hz5:=lt_of_block HW5.out
 have hz45:=hb5.size
 subst hvbe
 clear hb5 hvb HBW3 HO3 HW3 HLB g5
 have HLW:Hid (Calls Tryz.prog 72 #[.agg #[J Z x.a,J Z x.b,J Z x.d,O x.do_ x.dl x.dc,O x.ao x.al.length x.ac,O x.po x.pl x.pcp]] w5 (zee x w5)):=xO x w5 (HIN.out.below HBW5.out) HSZ.out.1 HSZ.out.2.1 HSZ.out.2.2
 obtain ⟨q0,q1,q2,q3,q4,q5⟩:=ld6 HW5.out rfl
 go_wp2_with fail
 refine HLW.out.mono ?_
 rintro e w6 ⟨⟨vd,va,vp,vm,t1,t2,rfl,hlw⟩,hb6⟩
 obtain ⟨od',cd,_,hvd,_⟩:=hlw.d.is_
 obtain ⟨op,cp,_,hvp,_⟩:=hlw.p.ts
 obtain ⟨oa',ca,om,cm,hva,hvm⟩:=hlw.a.form
 subst hvd hvp hva hvm
 have HLN:Hid _:=hlw
 have HBW6:Hid _:=HBW5.out.trans (hb6.mono HBW5.out.size)
 have HO6:Hid _:=(hb6.block _ (lt_of_block HO5.out)).trans HO5.out
 have HW6:Hid _:=(hb6.block _ hz5).trans HW5.out
 have HVB6:Hid (LnB w3.heap.size w6 (O bo (bsL os).length bc) os):=HVB.out.keep (fun g hg=>hb6.block g (HVB.out.lt hg).2)
 have HVG:Hid (∀ g,(O bo (bsL os).length bc).ownBlock=some g->w3.heap.size<=g/\g<w5.heap.size):=fun g hg=>HVB.out.lt hg
 have hz56:=hb6.size
 clear hb6 hlw HBW5 HO5 HW5 HVB HLW q0 q1 q2 q3 q4 q5
 obtain ⟨w7,hw7⟩:∃ w7,w6.alloc (Q #[J Z x.a,J Z x.b,J Z x.d,O od' x.dl cd,O oa' x.al.length ca,O op x.pl cp] 30)=w7:=⟨_,rfl⟩
 have HW7:Hid _:=hw7
 have hz7:w7.heap.size=w6.heap.size+1:=by rw [<- hw7];simp
 have HZ7:Hid _:=hz7
 have HD67:Hid (Below w6.heap.size w6 w7):=by rw [<- hw7];exact (Below.refl _ _).alloc (Nat.le_refl _) _
 have HV7:Hid (w7.heap[w6.heap.size]?=some (Q #[J Z x.a,J Z x.b,J Z x.d,O od' x.dl cd,O oa' x.al.length ca,O op x.pl cp] 30 (0,0))):=by rw [<- hw7];exact heap_alloc_new w6 _
 clear hw7 hz7
 have hw56:w.heap.size<=w5.heap.size:=by omega
 have HABL:Hid (0<x.al.length->x.ab<w.heap.size):=HIN.out.as_.lt
 obtain ⟨R,HR⟩:∃ R,Hid (x.ru (bsL os) oc=R):=⟨_,rfl⟩
 have HRUN:Hid (Calls Tryz.prog 26 #[O bo (bsL os).length bc,.agg #[J Z x.a,J Z x.b,J Z x.d,O od' x.dl cd,O oa' x.al.length ca,O op x.pl cp],J Z oc] w7 (JS w7 R)):=by
  have hln:=HLN.out.below (fun h=>by have:=HABL.out h;omega) HD67.out
  have hin7:x.In w7:=HIN.out.below (HBW6.out.trans (HD67.out.mono HBW6.out.size))
  obtain ⟨y,hy1,hy2,hy3⟩:=hln.wd hin7
  obtain ⟨bo',bc',bg',e1,e2⟩:=(HVB6.out.keep (w':=w7) (fun g hg=>HD67.out.block g (HVB6.out.lt hg).2)).cs
  injection e1 with i1 i2 i3
  subst i1 i3
  have:=zal y bo bg' 0 bc (bsL os) oc w7 (by rw [xG];omega) c1 hy2 e2
  rw [hy1,hy3,HR.out] at this
  exact this
 have g3:w6.cell? ⟨w.heap.size,3,none⟩=some (J Z oc):=(ld6 HO6.out rfl).2.2.2.1
 have hO7:w.heap.size<w6.heap.size:=lt_of_block HO6.out
 go_wp2_with fail
 rw [HW7.out]
 obtain ⟨q0,q1,q2,q3,q4,q5⟩:=ld6 HV7.out rfl
 go_wp2_with fail
 refine HRUN.out.mono ?_
 rintro e w8 ⟨hb8,o,m8,k8,rfl,hne8,heq8⟩
 have HD78:Hid _:=hb8
 have HNE8:Hid (R.1≠0->o=none/\m8=0/\k8=0):=hne8
 have HEQ8:Hid (R.1=0->m8=R.2.1.length/\w8.ownsRow w7.heap.size 3 1 (O o m8 k8) R.2.1.length (R.2.1.map (J Z))):=heq8
 have h78:=hb8.size
 have h67:=HZ7.out
 clear hb8 hne8 heq8 q0 q1 q2 q3 q4 q5 HRUN g3
 have HRL:Hid (R.2.1.length*8<=140737488351232/\(R=(9,[],0,0)/\(x.right=false\/oc<0)\/x.right=true/\0<=oc/\(R.1≠0->R=(10,[],0,0)\/R=(11,[],0,0)))):=by
  rw [<- HR.out]
  unfold WD.ru ruF
  have hrl:=zbO (W:=x.rw) (zah os) HIN.out.as_.len oc.toNat rt0 rfl
  by_cases hf:oc<0
  ·rw [if_pos hf];exact ⟨by simp,.inl ⟨rfl,.inr hf⟩⟩
  ·rw [if_neg hf]
   cases hq:x.right with
   | true =>
    have hq':ZA x.a x.b x.d x.V x.L x.R x.pl=true:=hq
    rw [if_pos hq']
    exact ⟨hrl.1,.inr ⟨rfl,by omega,hrl.2⟩⟩
   | false =>
    have hq':ZA x.a x.b x.d x.V x.L x.R x.pl=false:=hq
    rw [hq']
    exact ⟨by simp,.inl ⟨rfl,.inl rfl⟩⟩
 have hm8b:m8*8<=140737488351232:=by
  by_cases h0:R.1=0
  ·rw [(HEQ8.out h0).1];exact HRL.out.1
  ·rw [(HNE8.out h0).2.1];omega
 obtain ⟨w9,hw9⟩:∃ w9,w8.alloc (Q #[O o m8 k8,J Z R.2.2.1,J Z R.2.2.2] 35)=w9:=⟨_,rfl⟩
 have HW9:Hid (w8.alloc (Q #[O o m8 k8,J Z R.2.2.1,J Z R.2.2.2] 35)=w9):=hw9
 have HZ9:Hid (w9.heap.size=w8.heap.size+1):=by show _=_;rw [<- hw9];simp
 have HD89:Hid (Below w8.heap.size w8 w9):=by rw [<- hw9];exact (Below.refl _ _).alloc (Nat.le_refl _) _
 have HA9:Hid (w9.heap[w8.heap.size]?=some (Q #[O o m8 k8,J Z R.2.2.1,J Z R.2.2.2] 35 (0,0))):=by rw [<- hw9];exact heap_alloc_new w8 _
 clear hw9
 obtain ⟨i0,hi0,hz0,hz1,hz2⟩:=info_parts Tryz.infoInt
 obtain ⟨wM,hM1,hM2,hM3⟩:=run_make_full (P:=Tryz.prog) w9.drew 0 25 3 i0 (J Z 0) 1 Tryz.underlying25 hi0 hz0 hz1 .i64 .i64 m8 (by rw [hz2];omega) (by unfold maxLen;omega) (Nat.zero_le _)
 obtain ⟨wN,hN1,hN2,hN3⟩:=run_make_full (P:=Tryz.prog) (w9.alloc (Q #[O none 0 0,J Z 0,J Z 0] 35)).drew 0 25 3 i0 (J Z 0) 1 Tryz.underlying25 hi0 hz0 hz1 .i64 .i64 m8 (by rw [hz2];omega) (by unfold maxLen;omega) (Nat.zero_le _)
 go_wp2_with fail
 rw [HW9.out]
 obtain ⟨y0,y1,y2,_,_,_⟩:=ld3 HA9.out
 have hbn:=fun o n k t c wz=>zcO o n k t c wz
 obtain ⟨fM,hrM⟩:=yQ hM2 rfl
 obtain ⟨fN,hrN⟩:=yQ hN2 rfl
 have HRM:Hid (wM.rowIs w9.heap.size 3 (m8*1) fM):=hrM
 have HGM:Hid (w9.drew.grownBy wM none):=hM3
 have HGN:Hid ((w9.alloc (Q #[O none 0 0,J Z 0,J Z 0] 35)).drew.grownBy wN none):=hN3
 have hszN:(w9.alloc (Q #[O none 0 0,J Z 0,J Z 0] 35)).drew.heap.size=w9.heap.size+1:=by show (w9.alloc _).heap.size=_;simp
 have HRN:Hid (wN.rowIs (w9.heap.size+1) 3 (m8*1) fN):=by rw [hszN] at hrN;exact hrN
 rw [hszN] at hN1
 have hl89:=lt_of_block HA9.out
 have hAM:wM.heap[w8.heap.size]?=some (Q #[O o m8 k8,J Z R.2.2.1,J Z R.2.2.2] 35 (0,0)):=(HGM.out.block _ hl89 (by simp)).trans HA9.out
 have hAN:wN.heap[w8.heap.size]?=some (Q #[O o m8 k8,J Z R.2.2.1,J Z R.2.2.2] 35 (0,0)):=(HGN.out.block _ (by rw [hszN];omega) (by simp)).trans ((Below.heap_alloc _ _ _ hl89).trans HA9.out)
 have hBN:wN.heap[w9.heap.size]?=some (Q #[O none 0 0,J Z 0,J Z 0] 35 (0,0)):=(HGN.out.block _ (by rw [hszN];omega) (by simp)).trans (heap_alloc_new w9 _)
 have HBN:Hid (wN.heap[w9.heap.size]?=some (Q #[O none 0 0,J Z 0,J Z 0] 35 (0,0))):=hBN
 obtain ⟨m0',m1',m2',_,_,_⟩:=ld3 hAM
 obtain ⟨n0',n1',n2',_,_,_⟩:=ld3 hAN
 obtain ⟨x0',x1',x2',v0',v1',v2'⟩:=ld3 hBN
 have hlM:=lt_of_block hAM
 have hlN:=lt_of_block hAN
 have hneN:¬ w8.heap.size=w9.heap.size:=by omega
 clear hM2 hM3 hN2 hN3 hrM hrN hszN hAM hAN hBN
 have HBM:Hid (Below w9.heap.size w9 wM):=((Below.refl _ w9).drew).grown HGM.out (Nat.le_refl _) (fun k hk=>by cases hk)
 have HBNB:Hid (Below w9.heap.size w9 wN):=(((Below.refl _ w9).alloc (Nat.le_refl _) _).drew).grown HGN.out (by show _<=(w9.alloc _).heap.size;simp) (fun k hk=>by cases hk)
 go_cut [11] (fun s11 wx=>∃ B11 gF f,s11=.pointer (some ⟨B11,0,none⟩)/\w9.heap.size<=B11/\w9.heap.size<=gF/\gF≠B11/\Below w9.heap.size w9 wx/\wx.heap[B11]?=some (Q #[O (some ⟨gF,0,none⟩) m8 m8,J Z R.2.2.1,J Z R.2.2.2] 35 (0,0))/\wx.rowIs gF 3 m8 f)
 case first =>
  go_region
  all_goals
   go_wp2_with fail
   go_meet
   first
    | exact ⟨wM.heap.size,w9.heap.size,fM,rfl,HBM.out.size,Nat.le_refl _,by have:=HRM.out.lt;omega,HBM.out.alloc HBM.out.size _,heap_alloc_new _ _,by have:=HRM.out;rw [Nat.mul_one] at this;exact this.alloc _⟩
    | exact ⟨w9.heap.size,w9.heap.size+1,fN,rfl,Nat.le_refl _,by omega,by omega,((HBNB.out.setCell (Nat.le_refl _) _).setCell (Nat.le_refl _) _).setCell (Nat.le_refl _) _,yG HBN.out,by have:=HRN.out;rw [Nat.mul_one] at this;exact ((this.setOther (by simp only;omega) _).setOther (by simp only;omega) _).setOther (by simp only;omega) _⟩
 case rest =>
 obtain ⟨B11,gF,f,rfl,hB11,hgF,hne,hb10,hc10,hr10⟩:=hcut
 obtain ⟨w10,hw10⟩:∃ w10,w10=wc:=⟨_,rfl⟩
 subst hw10
 have HD10:Hid _:=hb10
 have HF10:Hid _:=hc10
 have HA10:Hid _:=(hb10.block _ (lt_of_block HA9.out)).trans HA9.out
 have h89:=lt_of_block HA9.out
 have hszz:(Tryz.prog.info? 3).map (·.size)=some 1:=by rw [hi0];simp [hz1]
 have HROW9:Hid (0<m8->R.1=0):=fun h=>by
  by_cases h0:R.1=0
  ·exact h0
  ·have:=(HNE8.out h0).2.1;omega
 have HROW10:Hid (R.1=0->m8=R.2.1.length/\w10.ownsRow w7.heap.size 3 1 (O o m8 k8) R.2.1.length (R.2.1.map (J Z))):=fun h=>⟨(HEQ8.out h).1,zh (HEQ8.out h).2 (fun g hg=>(hb10.block g (by have:=((HEQ8.out h).2.lt g hg).2;omega)).trans (HD89.out.block g ((HEQ8.out h).2.lt g hg).2))⟩
 obtain ⟨w11,hcp,hr11,hbl,hkp⟩:=Yl (P:=Tryz.prog) w10 25 25 3 3 1 gF m8 m8 o m8 k8 3 m8 f (fun i=>J Z ((R.2.1[i]?).getD 0)) Tryz.underlying25 hszz hr10 (Nat.le_refl _) (fun h0=>by
  obtain ⟨e1,e2⟩:=HROW10.out (HROW9.out h0)
  obtain ⟨g,kk',e3,_,_⟩:=e2.form (by omega)
  have e4:o=some ⟨g,0,none⟩:=by injection e3
  subst e4
  rw [<- e1] at e2
  refine ⟨_,rfl,fun j hj=>?_⟩
  rw [show (⟨g,0,none⟩:Addr).add j=⟨g,0+j,none⟩ from by unfold Addr.add;split<;>simp_all,Nat.zero_add,e2.cellAt j (by omega)]
  simp only [List.getElem?_map,List.getElem?_eq_getElem (show j<R.2.1.length by omega)]
  rfl) (fun j hj=>rfl) (by omega)
 have HR11:Hid (w11.rowIs gF 3 m8 (fun j=>if j<m8*1 then J Z ((R.2.1[j]?).getD 0) else f j)):=hr11
 have HD11:Hid (Below w9.heap.size w9 w11):=hbl _ _ hb10 hgF
 have HK11:Hid _:=hkp
 have HA11:Hid (w11.heap[w8.heap.size]?=some (Q #[O o m8 k8,J Z R.2.2.1,J Z R.2.2.2] 35 (0,0))):=(hkp _ (by omega)).trans HA10.out
 have HF11:Hid (w11.heap[B11]?=some (Q #[O (some ⟨gF,0,none⟩) m8 m8,J Z R.2.2.1,J Z R.2.2.2] 35 (0,0))):=(hkp _ (fun e=>hne e.symm)).trans HF10.out
 have HI11:Hid (IS w11 (some ⟨gF,0,none⟩) gF 0 m8 (fun i=>(R.2.1[i]?).getD 0)):=⟨fun _=>rfl,fun _=>hr11.lt,fun i hi=>by rw [Nat.zero_add,hr11.cell hi,if_pos (by omega)]⟩
 have HD69:Hid (Below w6.heap.size w6 w9):=HD67.out.trans ((HD78.out.mono (by omega)).trans (HD89.out.mono (by omega)))
 have HD611:Hid (Below w6.heap.size w6 w11):=HD69.out.trans (HD11.out.mono (by omega))
 have HV11:Hid (w11.heap[w6.heap.size]?=some (Q #[J Z x.a,J Z x.b,J Z x.d,O od' x.dl cd,O oa' x.al.length ca,O op x.pl cp] 30 (0,0))):=(HD11.out.block _ (by omega)).trans ((HD89.out.block _ (by omega)).trans ((HD78.out.block _ (by omega)).trans HV7.out))
 have HROW11:Hid (R.1=0->m8=R.2.1.length/\w11.ownsRow w7.heap.size 3 1 (O o m8 k8) R.2.1.length (R.2.1.map (J Z))/\∀ g,(O o m8 k8).ownBlock=some g->g<w8.heap.size):=fun h=>⟨(HEQ8.out h).1,zh (HROW10.out h).2 (fun g hg=>hkp g (by have:=((HEQ8.out h).2.lt g hg).2;omega)),fun g hg=>((HEQ8.out h).2.lt g hg).2⟩
 obtain ⟨p0,_,_,_,_,_⟩:=ld3 HF10.out
 obtain ⟨r0,_,_,_,_,_⟩:=ld3 HA10.out
 have h1011:=(hbl _ _ (Below.refl w9.heap.size w10) hgF).size
 have h910:=HD10.out.size
 have g5:w11.cell? ⟨w.heap.size,5,none⟩=some (.string os):=(ld6 HO6.out (HD611.out.block _ (lt_of_block HO6.out))).2.2.2.2.2
 clear hb10 hc10 hr10 hr11 hbl hkp HROW10 HF10 HA10 HEQ8 y0 y1 y2 m0' m1' m2' n0' n1' n2' x0' x1' x2' v0' v1' v2' hM1 hN1 HRM HGM HGN HRN HBM HBNB HBN hlM hlN hneN hbn HA9 HV7
 have HWB:Hid (Calls Tryz.prog 73 #[O bo (bsL os).length bc,.string os] w11 fun e w'=>e=.returned (.bool true)/\w11.grownBy w' (O bo (bsL os).length bc).ownBlock):=YX w3.heap.size _ os w11 hos (HVB6.out.keep (fun g hg=>HD611.out.block g (HVB6.out.lt hg).2))
 go_wp2_with fail
 refine HWB.out.mono ?_
 rintro e w12 ⟨rfl,hg12⟩
 have h1112:=hg12.size
 have hO6:=lt_of_block HO6.out
 have h610:=HD611.out.size
 have HK12:Hid (∀ b,b<w11.heap.size->b<w3.heap.size\/w5.heap.size<=b->w12.heap[b]?=w11.heap[b]?):=fun b hb h=>hg12.block b hb (fun e=>by have:=HVG.out _ e.symm;omega)
 have HBW12:Hid (Below w.heap.size w w12):=(HBW6.out.trans (HD611.out.mono (by omega))).grown hg12 (by omega) (fun g hg=>by have:=HVG.out g hg;omega)
 have HW12:Hid (w12.heap[w2.heap.size]?=some (Q #[J Z x.a,J Z x.b,J Z x.d,O x.do_ x.dl x.dc,O x.ao x.al.length x.ac,O x.po x.pl x.pcp] 30 (0,0))):=(HK12.out _ (by omega) (by omega)).trans ((HD611.out.block _ (by omega)).trans HW6.out)
 have HO12:Hid (w12.heap[w.heap.size]?=some (Q #[J Z kk,J Z oa,J Z ob,J Z oc,J Z od,.string os] 66 (0,0))):=(HK12.out _ (by omega) (by omega)).trans ((HD611.out.block _ hO6).trans HO6.out)
 have HV12:Hid (w12.heap[w6.heap.size]?=some (Q #[J Z x.a,J Z x.b,J Z x.d,O od' x.dl cd,O oa' x.al.length ca,O op x.pl cp] 30 (0,0))):=(HK12.out _ (by omega) (by omega)).trans HV11.out
 have HWW:Hid (Calls Tryz.prog 74 #[.agg #[J Z x.a,J Z x.b,J Z x.d,O od' x.dl cd,O oa' x.al.length ca,O op x.pl cp],O om x.al.length cm,.agg #[J Z x.a,J Z x.b,J Z x.d,O x.do_ x.dl x.dc,O x.ao x.al.length x.ac,O x.po x.pl x.pcp]] w12 fun e w'=>e=.returned (.bool true)/\Below w5.heap.size w12 w'/\∀ b,w6.heap.size<=b->b<w12.heap.size->w'.heap[b]?=w12.heap[b]?):=YW w5.heap.size w6.heap.size x _ _ _ _ t1 t2 w12 (HIN.out.below HBW12.out) (fun h=>by have:=HIN.out.is_.lt h;omega) (fun h=>by have:=HIN.out.ts.lt h;omega) ((HIN.out.as_.of_kept (fun b hb=>HBW12.out.block b hb)).wide (by omega)) (by omega) HSZ.out.1 HSZ.out.2.1 HSZ.out.2.2 (HLN.out.keep (by omega) (fun h=>by have:=HABL.out h;rw [HK12.out _ (by omega) (by omega)];exact HD611.out.block _ (by omega)) (fun b h1 h2=>by rw [HK12.out _ (by omega) (by omega)];exact HD611.out.block _ h2))
 have HKA:Hid (∀ b,w6.heap.size<=b->b<w11.heap.size->w12.heap[b]?=w11.heap[b]?):=fun b h1 h2=>HK12.out b h2 (.inr (by omega))
 obtain ⟨q0,q1,q2,q3,q4,q5⟩:=ld6 HW12.out rfl
 obtain ⟨r0',r1,r2,r3,r4,r5⟩:=ld6 HV12.out rfl
 clear hg12 g5 HVB6 HO6 HW6 HV11 HLN HWB p0 r0 hcp
 go_wp2_with fail
 refine HWW.out.mono ?_
 rintro e w13 ⟨rfl,hb13,hk13⟩
 have h1213:=hb13.size
 have HBW13:Hid (Below w.heap.size w w13):=HBW12.out.trans (hb13.mono (by omega))
 have HK13:Hid (∀ b,w6.heap.size<=b->b<w11.heap.size->w13.heap[b]?=w11.heap[b]?):=fun b h1 h2=>(hk13 b h1 (by omega)).trans (HKA.out b h1 h2)
 have HW13:Hid (w13.heap[w2.heap.size]?=some (Q #[J Z x.a,J Z x.b,J Z x.d,O x.do_ x.dl x.dc,O x.ao x.al.length x.ac,O x.po x.pl x.pcp] 30 (0,0))):=(hb13.block _ (by omega)).trans HW12.out
 have HO13:Hid (w13.heap[w.heap.size]?=some (Q #[J Z kk,J Z oa,J Z ob,J Z oc,J Z od,.string os] 66 (0,0))):=(hb13.block _ (by omega)).trans HO12.out
 obtain ⟨q0',q1',q2',q3',q4',q5'⟩:=ld6 HW13.out rfl
 clear hb13 hk13 HW12 HO12 HV12 HWW HKA HK12 q0 q1 q2 q3 q4 q5 r0' r1 r2 r3 r4 r5
 have HRI:Hid (Calls Tryz.prog 14 #[.agg #[J Z x.a,J Z x.b,J Z x.d,O x.do_ x.dl x.dc,O x.ao x.al.length x.ac,O x.po x.pl x.pcp]] w13 fun e w'=>e=.returned (.bool x.right)/\Below w13.heap.size w13 w'):=QH x w13 (HIN.out.below HBW13.out) HSZ.out.1
 go_wp2_with fail
 refine HRI.out.mono ?_
 rintro e w14 ⟨rfl,hb14⟩
 have hB11l:=lt_of_block HF11.out
 have hgFl:=HR11.out.lt
 have HBW14:Hid _:=HBW13.out.trans (hb14.mono HBW13.out.size)
 have HK14:Hid (∀ b,w6.heap.size<=b->b<w11.heap.size->w14.heap[b]?=w11.heap[b]?):=fun b h1 h2=>(hb14.block b (by omega)).trans (HK13.out b h1 h2)
 have HA14:Hid (w14.heap[w8.heap.size]?=some (Q #[O o m8 k8,J Z R.2.2.1,J Z R.2.2.2] 35 (0,0))):=(HK14.out _ (by omega) (by omega)).trans HA11.out
 have HF14:Hid (w14.heap[B11]?=some (Q #[O (some ⟨gF,0,none⟩) m8 m8,J Z R.2.2.1,J Z R.2.2.2] 35 (0,0))):=(HK14.out _ (by omega) hB11l).trans HF11.out
 have HI14:Hid (IS w14 (some ⟨gF,0,none⟩) gF 0 m8 (fun i=>(R.2.1[i]?).getD 0)):=⟨fun _=>rfl,fun _=>by have:=hb14.size;omega,fun i hi=>by rw [World.cell?_of_block (w:=w11) (HK14.out gF (by omega) hgFl)];exact HI11.out.val i hi⟩
 have HROW14:Hid (R.1=0->m8=R.2.1.length/\w14.ownsRow w.heap.size 3 1 (O o m8 k8) R.2.1.length (R.2.1.map (J Z))):=fun h=>⟨(HROW11.out h).1,ZC (zh (HROW11.out h).2.1 (fun g hg=>HK14.out g (by have:=((HROW11.out h).2.1.lt g hg).1;omega) ((HROW11.out h).2.1.lt g hg).2)) (by omega)⟩
 have g3:w14.cell? ⟨w.heap.size,3,none⟩=some (J Z oc):=(ld6 HO13.out (hb14.block _ (lt_of_block HO13.out))).2.2.2.1
 clear hb14 HRI q0' q1' q2' q3' q4' q5' HO13 HW13 HK13 HK14 HROW11 HI11 HF11 HA11 HR11
 obtain ⟨y0,y1,y2,_,_,_⟩:=ld3 HA14.out
 obtain ⟨v0,v1,v2,_,_,_⟩:=ld3 HF14.out
 rcases HRL.out.2 with ⟨hR,hor⟩ | ⟨hrt,hoc,hR⟩
 ·subst hR
  obtain ⟨rfl,rfl,rfl⟩:=HNE8.out (by decide)
  clear HR HRL
  cases hq:x.right with
  | false =>
   go_wp2_with fail
   refine (yS _).mono ?_
   rintro e w15 ⟨rfl,hb15⟩
   have HB15:Hid _:=HBW14.out.trans (hb15.mono HBW14.out.size)
   clear hb15
   go_wp2_with fail
   go_ret
   exact ⟨rfl,HB15.out.mono HBS.out,_,_,(H.out.below HB15.out).mono⟩
  | true =>
   have hf0:oc<0:=by rcases hor with h | h;rw [hq] at h;cases h;exact h
   go_wp2_with fail
   refine (yS _).mono ?_
   rintro e w15 ⟨rfl,hb15⟩
   have HB15:Hid _:=HBW14.out.trans (hb15.mono HBW14.out.size)
   clear hb15
   go_wp2_with fail
   go_ret
   exact ⟨rfl,HB15.out.mono HBS.out,_,_,(H.out.below HB15.out).mono⟩
 ·have hoc':¬ oc<0:=by omega
  by_cases h0:R.1=0
  ·obtain ⟨hm8,hrow⟩:=HROW14.out h0
   have h0':(R.1 != 0)=false:=by simp [h0]
   have HAN:Hid (Calls Tryz.prog 77 #[.pointer (some ⟨SB,0,none⟩),.agg #[O o m8 k8,J Z R.2.2.1,J Z R.2.2.2],.agg #[O (some ⟨gF,0,none⟩) m8 m8,J Z R.2.2.1,J Z R.2.2.2]] w14 fun e w'=>e=.returned (.bool true)/\Below base w14 w'/\∃ iv' is',ST w' base SB (n+1) (O (some ⟨wb,woff,none⟩) m wcp) cv sv iv' bv cs is' bs):=by
    have hi:=HI14.out
    rw [hm8] at hrow hi ⊢
    exact X7 base SB n _ _ sv iv bv cs is bs o (some ⟨gF,0,none⟩) k8 R.2.1.length gF 0 R.2.1 R.2.2.1 R.2.2.2 w w14 hn H.out HBW14.out hrow hi
   clear hrow hR HROW14 HI14 hm8
   go_wp2_with fail
   refine HAN.out.mono ?_
   rintro e w15 ⟨rfl,hb15,iv',is',hst⟩
   have HB15:Hid (Below base w w15):=(HBW14.out.mono HBS.out).trans hb15
   have HST:Hid _:=hst
   clear hb15 hst
   go_wp2_with fail
   go_ret
   exact ⟨rfl,HB15.out,_,_,HST.out⟩
  ·rcases hR h0 with hR | hR
   ·subst hR
    obtain ⟨rfl,rfl,rfl⟩:=HNE8.out (by decide)
    clear HR HRL h0
    go_wp2_with fail
    refine (yS _).mono ?_
    rintro e w15 ⟨rfl,hb15⟩
    have HB15:Hid _:=HBW14.out.trans (hb15.mono HBW14.out.size)
    clear hb15
    go_wp2_with fail
    go_ret
    exact ⟨rfl,HB15.out.mono HBS.out,_,_,(H.out.below HB15.out).mono⟩
   ·subst hR
    obtain ⟨rfl,rfl,rfl⟩:=HNE8.out (by decide)
    clear HR HRL h0
    go_wp2_with fail
    refine (yS _).mono ?_
    rintro e w15 ⟨rfl,hb15⟩
    have HB15:Hid _:=HBW14.out.trans (hb15.mono HBW14.out.size)
    clear hb15
    go_wp2_with fail
    go_ret
    exact ⟨rfl,HB15.out.mono HBS.out,_,_,(H.out.below HB15.out).mono⟩
theorem zar (base SB n:Nat) (wo:Option Addr) (wb woff m wcp:Nat) (X:Nat->WD) (cv sv iv bv:Value) (cs:List (ByteArray×ByteArray)) (is bs:List Value) (kk oa ob oc od:Int) (os:ByteArray) (w:World) (hn:(n+1)*56<=140737488355328) (hm:m*96<=140737488351232) (hos:os.size<=140737488351232) (hX:XS w wo wb woff m X) (h:ST w base SB n (O wo m wcp) cv sv iv bv cs is bs)
 (a0:-9223372036854775808<=oa) (a1:oa<=9223372036854775807) (b0:-9223372036854775808<=ob) (b1:ob<=9223372036854775807) (c0:-9223372036854775808<=oc) (c1:oc<=9223372036854775807) (d0:-9223372036854775808<=od) (d1:od<=9223372036854775807) (hk:kk=5\/kk=6) :
 Calls Tryz.prog 30 #[.pointer (some ⟨SB,0,none⟩),.agg #[J Z kk,J Z oa,J Z ob,J Z oc,J Z od,.string os]] w fun e w'=>e=.returned (.bool true)/\Below base w w'/\∃ iv' is',ST w' base SB (n+1) (O wo m wcp) cv sv iv' bv cs is' bs:=by
 have HB0:Hid (Below w.heap.size w (w.alloc (Q #[J Z kk,J Z oa,J Z ob,J Z oc,J Z od,.string os] 66))):=(Below.refl _ _).alloc (Nat.le_refl _) _
 have HBS:Hid (base<=w.heap.size):=Nat.le_trans h.hB (Nat.le_of_lt h.lt)
 have HR:Hid (Calls Tryz.prog 46 #[.pointer (some ⟨SB,0,none⟩),.agg #[J Z kk,J Z oa,J Z ob,J Z oc,J Z od,.string os]] (w.alloc (Q #[J Z kk,J Z oa,J Z ob,J Z oc,J Z od,.string os] 66)) fun e w'=>e=.returned (.bool true)/\Below base (w.alloc (Q #[J Z kk,J Z oa,J Z ob,J Z oc,J Z od,.string os] 66)) w'/\∃ iv' is',ST w' base SB (n+1) (O wo m wcp) cv sv iv' bv cs is' bs):=zdz base SB n wo wb woff m wcp X cv sv iv bv cs is bs kk oa ob oc od os _ hn hm (hX.below HB0.out) (h.below HB0.out) a0 a1 b0 b1 c0 c1 d0 d1
 have HW:Hid (Calls Tryz.prog 47 #[.pointer (some ⟨SB,0,none⟩),.agg #[J Z kk,J Z oa,J Z ob,J Z oc,J Z od,.string os]] (w.alloc (Q #[J Z kk,J Z oa,J Z ob,J Z oc,J Z od,.string os] 66)) fun e w'=>e=.returned (.bool true)/\Below base (w.alloc (Q #[J Z kk,J Z oa,J Z ob,J Z oc,J Z od,.string os] 66)) w'/\∃ iv' is',ST w' base SB (n+1) (O wo m wcp) cv sv iv' bv cs is' bs):=zdy base SB n wo wb woff m wcp X cv sv iv bv cs is bs kk oa ob oc od os _ hn hm hos (hX.below HB0.out) (h.below HB0.out) b0 b1 c1
 clear h hX
 rcases hk with rfl | rfl
 ·go_enter Tryz.func30,Tryz.ntmps30
  go_wp2_with fail
  refine HR.out.mono ?_
  rintro e w2 ⟨rfl,hb2,hst⟩
  have HB2:Hid (Below base w w2):=(HB0.out.mono HBS.out).trans hb2
  have HST:Hid _:=hst
  clear hb2 hst
  go_wp2_with fail
  go_ret
  exact ⟨rfl,HB2.out,HST.out⟩
 ·go_enter Tryz.func30,Tryz.ntmps30
  go_wp2_with fail
  refine HW.out.mono ?_
  rintro e w2 ⟨rfl,hb2,hst⟩
  have HB2:Hid (Below base w w2):=(HB0.out.mono HBS.out).trans hb2
  have HST:Hid _:=hst
  clear hb2 hst
  go_wp2_with fail
  go_ret
  exact ⟨rfl,HB2.out,HST.out⟩
theorem zaD (wo so:Option Addr) (wb woff m wcp sb soff sn sc:Nat) (X:Nat->WD) (OK OA OB OC OD:Nat->Int) (OStr:Nat->ByteArray) (w:World) (hm:m*96<=140737488351232) (hX:XS w wo wb woff m X)
 (hn:sn*56<=140737488351232) (hs:OS w so sb soff sn OK OA OB OC OD OStr) (hbd:∀ i,i<sn->(-9223372036854775808<=OA i/\OA i<=9223372036854775807)/\(-9223372036854775808<=OB i/\OB i<=9223372036854775807)/\(-9223372036854775808<=OC i/\OC i<=9223372036854775807)/\(-9223372036854775808<=OD i/\OD i<=9223372036854775807)/\(OStr i).size<=140737488351232) :
 Calls Tryz.prog 7 #[O wo m wcp,O so sn sc] w fun e w'=>e=.returned (.bool true)/\Below w.heap.size w w':=by
 have HBD:Hid _:=hbd
 clear hbd
 go_enter Tryz.func7,Tryz.ntmps7
 go_wp2_with fail
 have hal:Below w.heap.size w (w.alloc (Q #[J Z 4,J Z 5,J Z 6] 3)):=(Below.refl _ _).alloc (Nat.le_refl _) _
 have HO:Hid _:=hs.below hal
 have HX:Hid _:=hX.below hal
 have hblk:(w.alloc (Q #[J Z 4,J Z 5,J Z 6] 3)).heap[w.heap.size]?=some (Q #[J Z 4,J Z 5,J Z 6] 3 (0,0)):=heap_alloc_new w _
 have hlt:w.heap.size<(w.alloc (Q #[J Z 4,J Z 5,J Z 6] 3)).heap.size:=by simp
 have HAL:Hid _:=hal
 generalize w.alloc (Q #[J Z 4,J Z 5,J Z 6] 3)=w1 at *
 clear hs hal hX
 have hone:∀ i,i<3->w1.cell? ⟨w.heap.size,i,none⟩=some (J Z (4+(i:Int))):=fun i hi=>by
  rw [cell_of_row _ _ _ _ _ _ hblk]
  match i,hi with
  | 0,_=>rfl
  | 1,_=>rfl
  | 2,_=>rfl
 refine (zb0 (fun i wq=>Below w1.heap.size w1 wq/\∃ cv iv bv cs is bs,ST wq w1.heap.size w1.heap.size i (O wo m wcp) cv (O none 0 0) iv bv cs is bs)
  wo so m wcp sb soff sn sc w.heap.size 3 3 OK OA OB OC OD OStr (fun i=>4+(i:Int)) w1 hn (by omega) HO.out hlt hone
  ⟨(Below.refl _ _).alloc (Nat.le_refl _) _,O none 0 0,O none 0 0,O none 0 0,[],[],[],⟨heap_alloc_new _ _,World.ownsRow_nil _ _ _ _,World.ownsRow_nil _ _ _ _,World.ownsRow_nil _ _ _ _,fun x hx=>by simp at hx,fun i v hv=>by simp at hv,fun i v hv=>by simp at hv,Nat.le_refl _,Nat.le_refl _,Nat.le_refl _,Nat.le_refl _⟩⟩ ?_ ?_ ?_).mono ?_
 ·rintro i wq wr ⟨hb0,cv,iv,bv,cs,is,bs,h⟩ hz hb
  exact ⟨⟨hb0.trans (hb.mono (Nat.le_of_lt hz)),cv,iv,bv,cs,is,bs,h.below hb⟩,⟨hb0.trans (hb.mono (Nat.le_of_lt hz)),cv,iv,bv,cs,is,bs,(h.below hb).mono⟩⟩
 ·rintro i wq hi ⟨hb0,cv,iv,bv,cs,is,bs,h⟩
  refine (zaS w1.heap.size w1.heap.size i _ cv _ iv bv cs is bs wq (by omega) h).mono ?_
  rintro e w' ⟨rfl,hb'⟩
  exact ⟨rfl,⟨hb0.trans (hb'.mono hb0.size),cv,iv,bv,cs,is,bs,h.below hb'⟩,hb'.mono (Nat.le_of_lt h.lt)⟩
 ·rintro i wq hi ⟨hb0,cv,iv,bv,cs,is,bs,h⟩ hb hlt' hk
  obtain ⟨⟨a0,a1⟩,⟨b0,b1⟩,⟨c0,c1⟩,⟨d0,d1⟩,hsz⟩:=HBD.out i hi
  have hk3:OK i=4\/OK i=5\/OK i=6:=by
   simp only [qb,Bool.or_eq_true,Bool.false_or,beq_iff_eq] at hk
   omega
  rcases hk3 with hk1 | hk1
  ·rw [hk1]
   refine (QO w1.heap.size w1.heap.size i _ cv _ iv bv cs is bs _ _ _ _ _ wq (by omega) h).mono ?_
   rintro e w' ⟨rfl,hb',cv',bv',cs',bs',h'⟩
   exact ⟨rfl,⟨hb0.trans hb',cv',iv,bv',cs',is,bs',h'⟩,hb'⟩
  ·refine (zar w1.heap.size w1.heap.size i wo wb woff m wcp X cv _ iv bv cs is bs _ _ _ _ _ _ wq (by omega) hm hsz (HX.out.below hb0) h a0 a1 b0 b1 c0 c1 d0 d1 hk1).mono ?_
   rintro e w' ⟨rfl,hb',iv',is',h'⟩
   exact ⟨rfl,⟨hb0.trans hb',cv,iv',bv,cs,is',bs,h'⟩,hb'⟩
 ·rintro e w2 ⟨rfl,hb2⟩
  have hfin:Hid _:=HAL.out.trans (hb2.mono HAL.out.size)
  clear hb2
  go_wp2_with fail
  go_ret
  exact ⟨rfl,hfin.out⟩
end Go.Proofs.YtaebngpoagjafaaGreat
