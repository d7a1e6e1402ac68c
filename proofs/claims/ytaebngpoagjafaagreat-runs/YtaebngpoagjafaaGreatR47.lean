import Derived.Test.YtaebngpoagjafaaGreatR37
import Derived.Test.YtaebngpoagjafaaGreatR35
import Derived.Test.YtaebngpoagjafaaGreatR43
import Derived.Test.YtaebngpoagjafaaGreatR36
import Derived.Test.YtaebngpoagjafaaGreatR46
import Derived.Test.YtaebngpoagjafaaGreatR18
set_option maxRecDepth 100000
set_option maxHeartbeats 3200000
namespace Go.Proofs.YtaebngpoagjafaaGreat
open Value renaming int → J
open IntKind renaming i64 → Z
open Go.RowKit
attribute [local go_sem ↓] Go.wp_at_zero Go.wp_at_succ
theorem xe.form {B T:Nat} {w:World} {ao:Option Addr} {ab aoff:Nat} {al:List (List Int)} {va vm:Value} (h:xe B T w ao ab aoff al va vm):∃ o c o' c',va=.slice o al.length c/\vm=.slice o' al.length c':=by
 rcases h with ⟨_,⟨c,rfl⟩,rfl,rfl⟩ | ⟨_,_,_,_,_,_,_,rfl,rfl,_⟩
 ·exact ⟨_,_,_,_,rfl,rfl⟩
 ·exact ⟨_,_,_,_,rfl,rfl⟩
theorem xe.keep {B T:Nat} {w w':World} {ao:Option Addr} {ab aoff:Nat} {al:List (List Int)} {va vm:Value} (h:xe B T w ao ab aoff al va vm) (hz:w.heap.size<=w'.heap.size) (hab:0<al.length->w'.heap[ab]?=w.heap[ab]?) (hk:∀ b,B<=b->b<w.heap.size->w'.heap[b]?=w.heap[b]?):xe B T w' ao ab aoff al va vm:=by
 rcases h with h | ⟨ad,ga,gm,fa,fm,S,h1,h2,h3,h4,h5,h6,h7,h8,h9,h10⟩
 ·exact .inl h
 ·have h0:=h9.lo.1
  exact .inr ⟨ad,ga,gm,fa,fm,S,h1,h2,h3,h4,h5,h6,h7.of_block (hk _ h4 h7.lt),h8.of_block (hk _ h5 h8.lt),h9.keep (Nat.le_refl _) hz hab (fun b h1 h2=>hk b (by omega) (by have:=h9.top;omega)),h10⟩
theorem YW (B T:Nat) (x:WD) (vd va vp vm:Value) (s1 s2:Nat) (w:World) (hx:x.In w) (hdb:0<x.dl->x.db<B) (hpb:0<x.pl->x.pb<B) (has:AS w B x.ao x.ab x.aoff x.al) (hBw:B<=w.heap.size) (hp:x.pl*24<=140737488351232) (hd:x.dl*8<=140737488351232) (ha:x.al.length*24<=140737488351232) (hL:LnW B T w x vd va vp vm s1 s2) :
 Calls Tryz.prog 74 #[.agg #[J Z x.a,J Z x.b,J Z x.d,vd,va,vp],vm,x.val] w fun e w'=>e=.returned (.bool true)/\Below B w w'/\∀ b,T<=b->b<w.heap.size->w'.heap[b]?=w.heap[b]?:=by
 obtain ⟨od,cd,_,hvd,_⟩:=hL.d.is_
 obtain ⟨op,cp,_,hvp,_⟩:=hL.p.ts
 obtain ⟨oa,ca,om,cm,hva,hvm⟩:=hL.a.form
 have hb1:=hL.b1
 have hb2:=hL.b2
 have hb3:=hL.b3
 subst hvd hvp hva hvm
 have HD:Hid (LnI B w x.do_ (.slice od x.dl cd) x.dl x.Dn):=hL.d
 have HP:Hid (LnP s1 w x.po (.slice op x.pl cp) x.pl x.V x.L x.R):=hL.p
 have HA:Hid (xe s2 T w x.ao x.ab x.aoff x.al (.slice oa x.al.length ca) (.slice om x.al.length cm)):=hL.a
 have HDL:Hid (∀ g,(Value.slice od x.dl cd).ownBlock=some g->B<=g/\g<s1):=fun g hg=>⟨(hL.d.lt hg).1,hL.dl g hg⟩
 have HPL:Hid (∀ g,(Value.slice op x.pl cp).ownBlock=some g->s1<=g/\g<s2):=fun g hg=>⟨(hL.p.lt hg).1,hL.pl g hg⟩
 have HIS:Hid (IS w x.do_ x.db x.doff x.dl x.Dn):=hx.is_
 have HTS:Hid (TS w x.po x.pb x.poff x.pl x.V x.L x.R):=hx.ts
 have HAS:Hid (∀ wz,Below B w wz->AS wz B x.ao x.ab x.aoff x.al):=fun wz hb=>has.of_kept (fun b hl=>hb.block b hl)
 have HALT:Hid (0<x.al.length->x.ab<B):=has.lt
 have HWD:Hid (∀ wz,Below w.heap.size w wz->Calls Tryz.prog 87 #[.slice od x.dl cd,.slice x.do_ x.dl x.dc,J Z 1] wz fun e w'=>e=.returned (.bool true)/\wz.grownBy w' (Value.slice od x.dl cd).ownBlock):=fun wz hb=>(xK B (.slice od x.dl cd) x.do_ x.db x.doff x.dl x.dc x.Dn 1 wz hd (HIS.out.below hb HIS.out.lt) hdb (HD.out.below hb)).mono (fun e w' ⟨h1,h2,_⟩=>⟨h1,h2⟩)
 have HWP:Hid (∀ wz,w.grownBy wz (Value.slice od x.dl cd).ownBlock->Calls Tryz.prog 91 #[.slice op x.pl cp,.slice x.po x.pl x.pcp] wz fun e w'=>e=.returned (.bool true)/\wz.grownBy w' (Value.slice op x.pl cp).ownBlock):=fun wz hg=>qa s1 (.slice op x.pl cp) x.po x.pb x.poff x.pl x.pcp x.V x.L x.R wz hp ⟨HTS.out.at_,fun h=>Nat.lt_of_lt_of_le (HTS.out.lt h) hg.size,fun i hi=>(hg.cell_far _ (HTS.out.lt (by omega)) (fun e=>by have h1:=(HDL.out _ e.symm).1;have h2:=hpb (by omega);exact absurd h2 (Nat.not_lt.2 h1))).trans (HTS.out.val i hi),fun i hi=>(hg.cell_far _ (HTS.out.lt (by omega)) (fun e=>by have h1:=(HDL.out _ e.symm).1;have h2:=hpb (by omega);exact absurd h2 (Nat.not_lt.2 h1))).trans (HTS.out.len i hi),fun i hi=>(hg.cell_far _ (HTS.out.lt (by omega)) (fun e=>by have h1:=(HDL.out _ e.symm).1;have h2:=hpb (by omega);exact absurd h2 (Nat.not_lt.2 h1))).trans (HTS.out.reg i hi)⟩ (fun h=>by have:=hpb h;omega) (HP.out.keep (fun g hgg=>hg.block g (HP.out.lt hgg).2 (fun e=>by have:=HDL.out _ e.symm;have:=HPL.out _ hgg;omega)))
 clear hx has hL hdb hpb
 unfold WD.val
 have HB0:Hid (Below w.heap.size w ((w.alloc (.cells #[J Z x.a,J Z x.b,J Z x.d,.slice od x.dl cd,.slice oa x.al.length ca,.slice op x.pl cp] 30)).alloc (.cells #[J Z x.a,J Z x.b,J Z x.d,.slice x.do_ x.dl x.dc,.slice x.ao x.al.length x.ac,.slice x.po x.pl x.pcp] 30))):=((Below.refl _ _).alloc (Nat.le_refl _) _).alloc (by simp) _
 have HU0:Hid (((w.alloc (.cells #[J Z x.a,J Z x.b,J Z x.d,.slice od x.dl cd,.slice oa x.al.length ca,.slice op x.pl cp] 30)).alloc (.cells #[J Z x.a,J Z x.b,J Z x.d,.slice x.do_ x.dl x.dc,.slice x.ao x.al.length x.ac,.slice x.po x.pl x.pcp] 30)).heap[w.heap.size]?=some (.cells #[J Z x.a,J Z x.b,J Z x.d,.slice od x.dl cd,.slice oa x.al.length ca,.slice op x.pl cp] 30 (0,0))):=by show _=_;rw [Below.heap_alloc _ _ _ (by simp)];exact heap_alloc_new w _
 have HV0:Hid (((w.alloc (.cells #[J Z x.a,J Z x.b,J Z x.d,.slice od x.dl cd,.slice oa x.al.length ca,.slice op x.pl cp] 30)).alloc (.cells #[J Z x.a,J Z x.b,J Z x.d,.slice x.do_ x.dl x.dc,.slice x.ao x.al.length x.ac,.slice x.po x.pl x.pcp] 30)).heap[w.heap.size+1]?=some (.cells #[J Z x.a,J Z x.b,J Z x.d,.slice x.do_ x.dl x.dc,.slice x.ao x.al.length x.ac,.slice x.po x.pl x.pcp] 30 (0,0))):=zt _ (by simp)
 have HDG:Hid (∀ g,(Value.slice od x.dl cd).ownBlock=some g->g<w.heap.size):=fun g hg=>(HD.out.lt hg).2
 have HPG:Hid (∀ g,(Value.slice op x.pl cp).ownBlock=some g->g<w.heap.size):=fun g hg=>(HP.out.lt hg).2
 go_enter Tryz.func74,Tryz.ntmps74
 go_wp2_with fail
 refine (HWD.out _ HB0.out).mono ?_
 rintro e w2 ⟨rfl,hg2⟩
 have HG2:Hid (w.grownBy w2 (Value.slice od x.dl cd).ownBlock):=Y3 HB0.out hg2
 have HU2:Hid (w2.heap[w.heap.size]?=some (.cells #[J Z x.a,J Z x.b,J Z x.d,.slice od x.dl cd,.slice oa x.al.length ca,.slice op x.pl cp] 30 (0,0))):=(hg2.block _ (lt_of_block HU0.out) (fun e=>by have:=HDG.out _ e.symm;omega)).trans HU0.out
 have HV2:Hid (w2.heap[w.heap.size+1]?=some (.cells #[J Z x.a,J Z x.b,J Z x.d,.slice x.do_ x.dl x.dc,.slice x.ao x.al.length x.ac,.slice x.po x.pl x.pcp] 30 (0,0))):=(hg2.block _ (lt_of_block HV0.out) (fun e=>by have:=HDG.out _ e.symm;omega)).trans HV0.out
 clear hg2 HU0 HV0 HB0 HWD
 obtain ⟨_,_,_,u3,u4,u5⟩:=ld6 HU2.out rfl
 obtain ⟨_,_,_,v3,v4,v5⟩:=ld6 HV2.out rfl
 go_wp2_with fail
 refine (HWP.out _ HG2.out).mono ?_
 rintro e w3 ⟨rfl,hg3⟩
 have HG3:Hid _:=hg3
 have HU3:Hid (w3.heap[w.heap.size]?=some (.cells #[J Z x.a,J Z x.b,J Z x.d,.slice od x.dl cd,.slice oa x.al.length ca,.slice op x.pl cp] 30 (0,0))):=(hg3.block _ (lt_of_block HU2.out) (fun e=>by have:=HPG.out _ e.symm;omega)).trans HU2.out
 have HV3:Hid (w3.heap[w.heap.size+1]?=some (.cells #[J Z x.a,J Z x.b,J Z x.d,.slice x.do_ x.dl x.dc,.slice x.ao x.al.length x.ac,.slice x.po x.pl x.pcp] 30 (0,0))):=(hg3.block _ (lt_of_block HV2.out) (fun e=>by have:=HPG.out _ e.symm;omega)).trans HV2.out
 clear hg3 HU2 HV2 HWP u3 u4 u5 v3 v4 v5
 obtain ⟨_,_,_,u3,u4,u5⟩:=ld6 HU3.out rfl
 obtain ⟨_,_,_,v3,v4,v5⟩:=ld6 HV3.out rfl
 have hz2:=HG2.out.size
 have HB3:Hid (Below B w w3):=((Below.refl B w).grown HG2.out hBw (fun g hg=>(HDL.out g hg).1)).grown HG3.out (by omega) (fun g hg=>by have:=HPL.out g hg;omega)
 have HK3:Hid (∀ b,b<w.heap.size->b<B\/s2<=b->w3.heap[b]?=w.heap[b]?):=fun b hb h=>(HG3.out.block b (by omega) (fun e=>by have:=HPL.out _ e.symm;omega)).trans (HG2.out.block b hb (fun e=>by have:=HDL.out _ e.symm;omega))
 have HA3:Hid (xe s2 T w3 x.ao x.ab x.aoff x.al (.slice oa x.al.length ca) (.slice om x.al.length cm)):=HA.out.keep HB3.out.size (fun h=>HK3.out _ (by have:=HALT.out h;omega) (.inl (HALT.out h))) (fun b h1 h2=>HK3.out b h2 (.inr h1))
 go_wp2_with fail
 refine (XE B s2 T x.ao x.ab x.aoff x.ac x.al _ _ _ ha (HAS.out _ HB3.out) (by have:=HB3.out.size;omega) (by omega) HA3.out).mono ?_
 rintro e w4 ⟨rfl,hb4,hk4⟩
 have HB4:Hid (Below B w w4):=HB3.out.trans (hb4.mono (by omega))
 have HK4:Hid (∀ b,T<=b->b<w.heap.size->w4.heap[b]?=w.heap[b]?):=fun b h1 h2=>(hk4 b h1 (by have:=HB3.out.size;omega)).trans (HK3.out b h2 (.inr (by omega)))
 clear hb4 hk4
 go_wp2_with fail
 go_ret
 exact ⟨rfl,HB4.out,HK4.out⟩
theorem LnW.keep {B T:Nat} {w w':World} {x:WD} {vd va vp vm:Value} {s1 s2:Nat} (h:LnW B T w x vd va vp vm s1 s2) (hz:w.heap.size<=w'.heap.size) (hab:0<x.al.length->w'.heap[x.ab]?=w.heap[x.ab]?) (hk:∀ b,B<=b->b<w.heap.size->w'.heap[b]?=w.heap[b]?):LnW B T w' x vd va vp vm s1 s2:=⟨h.b1,h.b2,h.b3,h.d.keep (fun g hg=>hk g (h.d.lt hg).1 (h.d.lt hg).2),h.dl,h.p.keep (fun g hg=>hk g (Nat.le_trans h.b1 (h.p.lt hg).1) (h.p.lt hg).2),h.pl,h.a.keep hz hab (fun b h1 h2=>hk b (Nat.le_trans h.b1 (Nat.le_trans h.b2 h1)) h2)⟩
theorem ST.pushI {w w4:World} {base SB n wv cv sv iv bv cs is bs} {nv v:Value} (h:ST w base SB n wv cv sv iv bv cs is bs) (hg:w.grownBy w4 iv.ownBlock) (hown:w4.ownsRow base 25 1 nv (is.length+1) (is++[v])) (hm:MkL w 3 (J Z (-1000-(is.length:Int))) v) (hn:is.length+1<=n) :
 ST (w4.setCell ⟨SB,3,none⟩ nv) base SB n wv cv sv nv bv cs (is++[v]) bs:=by
 have hne:iv.ownBlock≠some SB:=zj h.ir h.blk (by decide)
 have hb4:=(hg.block SB h.lt (fun e=>hne e.symm)).trans h.blk
 have hkI:∀ (g:Nat) (cur:Array Value),w.heap[g]?=some (.cells cur 3 (0,0))->(w4.setCell ⟨SB,3,none⟩ nv).heap[g]?=w.heap[g]?:=fun g cur hc=>by
  rw [za (fun e=>by subst e;rw [h.blk] at hc;cases hc)]
  exact hg.block g (lt_of_block hc) (fun e=>zj h.ir hc (by decide) e.symm)
 have hkB:∀ (g:Nat) (cur:Array Value),w.heap[g]?=some (.cells cur 5 (0,0))->(w4.setCell ⟨SB,3,none⟩ nv).heap[g]?=w.heap[g]?:=fun g cur hc=>by
  rw [za (fun e=>by subst e;rw [h.blk] at hc;cases hc)]
  exact hg.block g (lt_of_block hc) (fun e=>zj h.ir hc (by decide) e.symm)
 have hc4:=h.cr.kept hg (zS h.cr h.ir (by decide))
 have hb5:=h.br.kept hg (zS h.br h.ir (by decide))
 refine ⟨?_,ownsRow_setCell_other hc4 (zj hc4 hb4 (by decide)) _,?_,ownsRow_setCell_other hb5 (zj hb5 hb4 (by decide)) _,h.ok,fun i v' hv=>?_,fun i v' hv=>(h.bm i v' hv).of_kept hkB,h.hB,h.nc,by simp;exact hn,h.nb⟩
 ·rw [Ya hb4];rfl
 ·rw [List.length_append];exact ownsRow_setCell_other hown (zj hown hb4 (by decide)) _
 ·by_cases hi:i<is.length
  ·rw [List.getElem?_append_left hi] at hv
   exact (h.im i v' hv).of_kept hkI
  ·rw [List.getElem?_append_right (by omega)] at hv
   have hi2:i=is.length:=by
    have:=(List.getElem?_eq_some_iff.1 hv).1
    simp at this;omega
   subst hi2
   simp at hv
   subst hv
   exact hm.of_kept hkI
theorem zaC (o1 o2:Option Addr) (c1 c2 n:Nat) (D:Nat->Int) (b1 f1 b2 f2:Nat) (w:World) (hn:n<=9223372036854775807) (h1:IS w o1 b1 f1 n D) (h2:IS w o2 b2 f2 n D) :
 Calls Tryz.prog 130 #[.slice o1 n c1,.slice o2 n c2] w fun e w'=>e=.returned (.bool true)/\Below w.heap.size w w':=by
 go_enter Tryz.func130,Tryz.ntmps130
 go_wp2_with fail
 go_loopw [5] (fun x wr=>∃ k:Nat,k<=n/\x=J Z k/\Below w.heap.size w wr) (fun x _=>n-(intOf x).toNat)
 case atStart=>exact ⟨0,by omega,rfl,Below.refl _ _⟩
 case round =>
  obtain ⟨k,hk,rfl,hb⟩:=hrel
  by_cases hlt:k<n
  ·obtain rfl:=h1.at_ (by omega)
   obtain rfl:=h2.at_ (by omega)
   have HB:Hid (Below w.heap.size w wr):=hb
   have l1:=h1.lt (by omega)
   have l2:=h2.lt (by omega)
   have hz:=hb.size
   have l1':b1<wr.heap.size:=by omega
   have l2':b2<wr.heap.size:=by omega
   have d1:=(hb.cell (p:=⟨b1,f1+k,none⟩) l1).trans (h1.val k hlt)
   have d2:=(hb.cell (p:=⟨b2,f2+k,none⟩) l2).trans (h2.val k hlt)
   have hlt':(k:Int)<(n:Int):=by omega
   clear hb
   go_wp2_with fail
   go_quiet (fail)
   go_wp2_with fail
   go_roundw
   case rel=>exact ⟨k+1,by omega,by go_num,zB HB.out _⟩
   case measure=>simp [intOf];omega
  ·have hkn:k=n:=by omega
   subst hkn
   go_wp2_with fail
   go_ret
   exact ⟨rfl,hb⟩
theorem yS (w:World):Calls Tryz.prog 75 #[.agg #[.slice none 0 0,J Z 0,J Z 0]] w fun e w'=>e=.returned (.bool true)/\Below w.heap.size w w':=by
 have hnil:=fun w=>Lib.run_eql_slice_nil (P:=Tryz.prog) w 25 3 none 0 0 0 0 Tryz.underlying25
 simp only [Option.isNone] at hnil
 have hal:Hid (Below w.heap.size w (w.alloc (.cells #[.slice none 0 0,J Z 0,J Z 0] 35))):=(Below.refl _ _).alloc (Nat.le_refl _) _
 go_enter Tryz.func75,Tryz.ntmps75
 go_wp2_with fail
 go_ret
 exact ⟨rfl,hal.out⟩
theorem zcr (k oa ob oc od:Int) (s:ByteArray) (n:Nat) (w:World) (c0:-9223372036854775808<=oc) (c1:oc<=9223372036854775807) (d0:-9223372036854775808<=od) (d1:od<=9223372036854775807) (hn:n<=1000000) :
 Calls Tryz.prog 70 #[.agg #[J Z k,J Z oa,J Z ob,J Z oc,J Z od,.string s],J Z n] w fun e w'=>(∃ v:Int,e=.returned (J Z v)/\-9223372036854775808<=v/\v<=9223372036854775807)/\Below w.heap.size w w':=by
 have HP3:=fun wz=>jA od 3 wz d0 d1 (by decide) (by decide)
 have HP5:=fun wz=>jA oc 5 wz c0 c1 (by decide) (by decide)
 have hal:Hid (Below w.heap.size w (w.alloc (.cells #[J Z k,J Z oa,J Z ob,J Z oc,J Z od,.string s] 66))):=(Below.refl _ _).alloc (Nat.le_refl _) _
 go_enter Tryz.func70,Tryz.ntmps70
 go_wp2_with fail
 refine (HP3 _).mono ?_
 rintro e w' ⟨⟨j,hj,rfl⟩,hww⟩
 subst w'
 clear HP3
 rcases (show j=0\/j=1\/j=2 by omega) with rfl | rfl | rfl
 ·go_wp2_with fail
  go_ret
  exact ⟨⟨_,rfl,by omega,by omega⟩,hal.out⟩
 ·go_wp2_with fail
  go_ret
  exact ⟨⟨_,rfl,c0,c1⟩,hal.out⟩
 ·go_wp2_with fail
  refine (HP5 _).mono ?_
  rintro e w' ⟨⟨i,hi,rfl⟩,hww⟩
  subst w'
  have hi5:(i:Int)<5:=by omega
  have hn5:(n:Int)<=1000000:=by omega
  go_wp2_with fail
  go_ret
  exact ⟨⟨_,rfl,by omega,by omega⟩,hal.out⟩
theorem X7 (base SB n:Nat) (wv cv sv iv bv:Value) (cs:List (ByteArray×ByteArray)) (is bs:List Value) (o1 o2:Option Addr) (k1 k2 b2 f2:Nat) (L:List Int) (t c:Int) (w0 w:World) (hn:(n+1)*56<=140737488355328) (h:ST w0 base SB n wv cv sv iv bv cs is bs) (hbw:Below w0.heap.size w0 w) (hrow:w.ownsRow w0.heap.size 3 1 (.slice o1 L.length k1) L.length (L.map (J Z))) (hi2:IS w o2 b2 f2 L.length (fun i=>(L[i]?).getD 0)) :
 Calls Tryz.prog 77 #[.pointer (some ⟨SB,0,none⟩),.agg #[.slice o1 L.length k1,J Z t,J Z c],.agg #[.slice o2 L.length k2,J Z t,J Z c]] w fun e w'=>e=.returned (.bool true)/\Below base w w'/\∃ iv' is',ST w' base SB (n+1) wv cv sv iv' bv cs is' bs:=by
 obtain ⟨i0,hi0,hz0,hz1,hz2⟩:=info_parts Tryz.infoIs
 have H0:Hid (∀ wz,Below w0.heap.size w wz->ST wz base SB (n+1) wv cv sv iv bv cs is bs):=fun wz hb=>(h.below (hbw.trans hb)).mono
 have hni:=h.ni
 have HBS:Hid (base<=w0.heap.size):=Nat.le_trans h.hB (Nat.le_of_lt h.lt)
 have HSB:Hid _:=h.lt
 have HIB:Hid (∀ g,iv.ownBlock=some g->g<w0.heap.size):=fun g hg=>(h.ir.lt g hg).2
 have hzw:=hbw.size
 obtain ⟨io,ic,hiv,_⟩:=yd h.ir
 subst hiv
 have hLm:L.length<=9223372036854775807:=by
  rcases hrow.2 with ⟨_,h1⟩ | ⟨_,cap,_,_,_,_,h1,h2,_⟩
  ·omega
  ·have:maxLen=9223372036854775807:=rfl;omega
 obtain ⟨g1,hi1⟩:=Qu hrow
 have HSI:Hid (∀ wz,Below w.heap.size w wz->Calls Tryz.prog 130 #[.slice o1 L.length k1,.slice o2 L.length k2] wz fun e w'=>e=.returned (.bool true)/\Below wz.heap.size wz w'):=fun wz hb=>zaC o1 o2 k1 k2 L.length _ g1 0 b2 f2 wz hLm (hi1.below hb hi1.lt) (hi2.below hb hi2.lt)
 have HROW:Hid (w.ownsRow w0.heap.size 3 1 (.slice o1 L.length k1) L.length (L.map (J Z))):=hrow
 clear h hbw hi1 hi2 hrow
 have HB0:Hid (Below w.heap.size w ((w.alloc (.cells #[.slice o1 L.length k1,J Z t,J Z c] 35)).alloc (.cells #[.slice o2 L.length k2,J Z t,J Z c] 35))):=((Below.refl _ _).alloc (Nat.le_refl _) _).alloc (by simp) _
 have HU0:Hid (((w.alloc (.cells #[.slice o1 L.length k1,J Z t,J Z c] 35)).alloc (.cells #[.slice o2 L.length k2,J Z t,J Z c] 35)).heap[w.heap.size]?=some (.cells #[.slice o1 L.length k1,J Z t,J Z c] 35 (0,0))):=by show _=_;rw [Below.heap_alloc _ _ _ (by simp)];exact heap_alloc_new w _
 have HV0:Hid (((w.alloc (.cells #[.slice o1 L.length k1,J Z t,J Z c] 35)).alloc (.cells #[.slice o2 L.length k2,J Z t,J Z c] 35)).heap[w.heap.size+1]?=some (.cells #[.slice o2 L.length k2,J Z t,J Z c] 35 (0,0))):=zt _ (by simp)
 go_enter Tryz.func77,Tryz.ntmps77
 go_wp2_with fail
 refine (HSI.out _ HB0.out).mono ?_
 rintro e w1 ⟨rfl,hb1⟩
 have HB1:Hid (Below w.heap.size w w1):=HB0.out.trans (hb1.mono HB0.out.size)
 have HU1:Hid _:=(hb1.block _ (lt_of_block HU0.out)).trans HU0.out
 have HV1:Hid _:=(hb1.block _ (lt_of_block HV0.out)).trans HV0.out
 have hz1w:=lt_of_block HV1.out
 obtain ⟨u0,u1,u2,_,_,_⟩:=ld3 HU1.out
 clear hb1 HB0 HU0 HV0 HSI
 have HROW1:Hid (w1.ownsRow w0.heap.size 3 1 (.slice o1 L.length k1) L.length (L.map (J Z))):=zh HROW.out (fun g hg=>HB1.out.block g (HROW.out.lt g hg).2)
 -- its room: nil,or a row
 obtain ⟨cur0,hcase⟩:∃ cur0:Array Value,(o1=none/\k1=0)\/∃ g,o1=some ⟨g,0,none⟩/\w0.heap.size<=g/\g<w.heap.size/\w1.heap[g]?=some (.cells cur0 3 (0,0))/\cur0.size=k1/\k1<=9223372036854775807:=by
  rcases HROW1.out.2 with ⟨h1,_⟩ | ⟨g',cap,cur,h1,h2,h4,_,h6,h7,_⟩
  ·injection h1 with e1 e2 e3;exact ⟨#[],.inl ⟨e1,e3⟩⟩
  ·injection h1 with e1 e2 e3;subst e1 e3;exact ⟨cur,.inr ⟨g',rfl,h2,(HROW.out.lt g' rfl).2,h4,by omega,h6⟩⟩
 have hk1:L.length<=k1:=by obtain ⟨_,_,h1,h2⟩:=yd HROW.out;injection h1 with e1 e2 e3;omega
 clear HROW HROW1
 go_wp2_with fail
 obtain ⟨mk,hmk⟩:∃ mk:Int,-1000-(is.length:Int)=mk:=⟨_,rfl⟩
 have HMK:Hid _:=hmk
 have HMI:Hid (∀ wz,Calls Tryz.prog 51 #[J Z is.length] wz fun e w'=>e=.returned (J Z mk)/\w'=wz):=fun wz=>by have:=X0 is.length wz (by omega);rw [hmk] at this;exact this
 clear hmk
 have HB1':Hid (Below w0.heap.size w w1):=HB1.out.mono hzw
 go_loopg [9] k1 (fun q y wr=>∃ (i:Nat) (cur:Array Value),q+i=k1/\y=J Z i/\Hid (∀ g,o1=some ⟨g,0,none⟩->wr.heap[g]?=some (.cells cur 3 (0,0))/\cur.size=k1/\∀ j,j<i->cur[j]?=some (J Z mk))/\Hid (∀ b,b<w1.heap.size->(∀ g,o1=some ⟨g,0,none⟩->b≠g)->wr.heap[b]?=w1.heap[b]?)/\Hid (Below w0.heap.size w wr)/\w1.heap.size<=wr.heap.size)
 case atStart =>
  refine ⟨0,cur0,by omega,rfl,fun g hg=>?_,fun b _ _=>rfl,HB1',Nat.le_refl _⟩
  rcases hcase with ⟨h1,_⟩ | ⟨g',h1,_,_,h2,h3,_⟩
  ·rw [h1] at hg;cases hg
  ·rw [h1] at hg;cases hg;exact ⟨h2,h3,fun j hj=>by omega⟩
 case round =>
  obtain ⟨i,cur,hq,rfl,HCU,HKB,HB,hzr⟩:=hrel
  have HST:Hid (ST wr base SB (n+1) wv cv sv (.slice io is.length ic) bv cs is bs):=H0.out wr HB.out
  have c3:=HST.out.c 3
  simp only [List.getElem?_toArray,List.getElem?_cons_succ,List.getElem?_cons_zero] at c3
  by_cases hlt:i<k1
  ·obtain ⟨g,rfl,hg0,hgw,_,_,hk9⟩:∃ g,o1=some ⟨g,0,none⟩/\w0.heap.size<=g/\g<w.heap.size/\w1.heap[g]?=some (.cells cur0 3 (0,0))/\cur0.size=k1/\k1<=9223372036854775807:=by
    rcases hcase with ⟨_,h1⟩ | h1
    ·omega
    ·exact h1
   obtain ⟨hcu,hcs,hcm⟩:=HCU.out g rfl
   have HC:Hid _:=hcu
   have HCM:Hid _:=hcm
   obtain ⟨cv0,hcv0⟩:∃ v,wr.cell? ⟨g,i,none⟩=some v:=⟨cur[i]'(by omega),by rw [cell_of_row _ _ _ _ _ _ hcu];exact Array.getElem?_eq_getElem (by omega)⟩
   have hfz:wr.frozen? ⟨g,i,none⟩=false:=by simp [World.frozen?,hcu]
   have hlt':(i:Int)<(k1:Int):=by omega
   clear hcu hcm
   go_wp2_with fail
   refine (HMI.out _).mono ?_
   rintro e w' ⟨rfl,hw'⟩
   subst w'
   go_wp2_with fail
   go_roundg (gk-1)
   case measure=>omega
   case rel =>
    refine ⟨i+1,cur.setIfInBounds i (J Z mk),by omega,by go_num,fun g' hg'=>?_,fun b hb hne=>?_,HB.out.setCell hg0 _,by simpa [World.setCell] using hzr⟩
    ·cases hg'
     refine ⟨ZW HC.out,by simp [hcs],fun j hj=>?_⟩
     rw [Array.getElem?_setIfInBounds]
     by_cases hji:i=j
     ·rw [if_pos hji,if_pos (by omega)]
     ·rw [if_neg hji];exact HCM.out j (by omega)
    ·rw [za (hne g rfl)];exact HKB.out b hb hne
  ·have hik:i=k1:=by omega
   subst hik
   have hgl:∀ g,o1=some ⟨g,0,none⟩->g<w.heap.size/\i<=9223372036854775807:=fun g hg=>by
    rcases hcase with ⟨h1,_⟩ | ⟨g',h1,_,h2,_,_,h3⟩
    ·rw [h1] at hg;cases hg
    ·rw [h1] at hg;cases hg;exact ⟨h2,h3⟩
   have hMK:Hid (MkL wr 3 (J Z (-1000-(is.length:Int))) (.slice o1 i i)):=by
    rw [HMK.out]
    refine ⟨o1,i,rfl,?_,fun h0=>?_⟩
    ·rcases hcase with ⟨_,h1⟩ | ⟨g',h1,_⟩
     ·omega
     ·exact (hgl g' h1).2
    ·rcases hcase with ⟨_,h1⟩ | ⟨g',h1,_⟩
     ·omega
     ·obtain ⟨h2,h3,h4⟩:=HCU.out g' h1
      exact ⟨g',cur,h1,h2,h3,h4⟩
   have hUr:=(HKB.out w.heap.size (lt_of_block HU1.out) (fun g hg=>by have:=(hgl g hg).1;omega)).trans HU1.out
   have hVr:=(HKB.out (w.heap.size+1) hz1w (fun g hg=>by have:=(hgl g hg).1;omega)).trans HV1.out
   obtain ⟨p0,p1,p2,_,_,_⟩:=ld3 hUr
   obtain ⟨r0,r1,r2,_,_,_⟩:=ld3 hVr
   have hbsr:base<=wr.heap.size:=by have:=HBS.out;omega
   have hSB:=HSB.out
   have hlt':¬ (i:Int)<(i:Int):=by omega
   have hA1:Hid (is.length+1<=maxLen):=by show _<=_;unfold maxLen;omega
   have hA2:Hid ((is.length+1)*24<=140737488355328):=by show _<=_;omega
   have hA3:Hid (base<=(wr.alloc (.cells #[.slice o1 i i] 25)).heap.size):=by show _<=_;simp;omega
   have hone:Hid (∀ u∈[Value.slice o1 i i],u.oneCell'=true):=fun u hu=>by simp at hu;subst hu;rfl
   have HSA:Hid (ST (wr.alloc (.cells #[.slice o1 i i] 25)) base SB (n+1) wv cv sv (.slice io is.length ic) bv cs is bs):=HST.out.below ((Below.refl _ _).alloc (Nat.le_refl _) _)
   have HMA:Hid (MkL (wr.alloc (.cells #[.slice o1 i i] 25)) 3 (J Z (-1000-(is.length:Int))) (.slice o1 i i)):=hMK.out.of_kept (fun q _ hq=>Below.heap_alloc _ _ _ (lt_of_block hq))
   have HFAR:Hid (∀ b,w.heap.size<=b->some b≠(Value.slice io is.length ic).ownBlock):=fun b hb e=>by have:=HIB.out b e.symm;omega
   have HNB:Hid (some SB≠(Value.slice io is.length ic).ownBlock):=fun e=>zj HST.out.ir HST.out.blk (by decide) e.symm
   have hzw2:w.heap.size+1<wr.heap.size:=by omega
   go_wp2_with (at_builtin;refine wpList_append_lies _ rfl (.tmp 40) (.tmp 42) 27 rfl base 25 i0 _ 1 24 Tryz.underlying27 hi0 hz0 hz1 hz2 rfl (by decide) (.slice io is.length ic) _ _ rfl HSA.out.ir ⟨wr.heap.size,0,none⟩ 1 1 [.slice o1 i i] rfl rfl (World.news_of_block (cs:=#[.slice o1 i i]) (t:=25) (fr:=(0,0)) (heap_alloc_new wr _)) hone.out (Nat.lt_succ_self 0) hA1.out hA2.out hA3.out (wr.heap.size+1) (by simp) ?_;intro g4 cap4 w4 hown hgrow hat hlt4;have zz:w4.frozen? ⟨SB,3,none⟩=false:=(hgrow.frozen_far ⟨SB,3,none⟩ (by simp;omega) HNB.out).trans (HSA.out.fz 3);have ccx:w4.cell? ⟨SB,3,none⟩=some (.slice io is.length ic):=(hgrow.cell_far ⟨SB,3,none⟩ (by simp;omega) HNB.out).trans (HSA.out.c 3);have d1:w4.cell? ⟨w.heap.size,1,none⟩=some (J Z t):=(hgrow.cell_far ⟨w.heap.size,1,none⟩ (by simp;omega) (HFAR.out _ (Nat.le_refl _))).trans (zD p1 _);have d2:w4.cell? ⟨w.heap.size,2,none⟩=some (J Z c):=(hgrow.cell_far ⟨w.heap.size,2,none⟩ (by simp;omega) (HFAR.out _ (Nat.le_refl _))).trans (zD p2 _);have d3:w4.cell? ⟨w.heap.size+1,1,none⟩=some (J Z t):=(hgrow.cell_far ⟨w.heap.size+1,1,none⟩ (by simp;omega) (HFAR.out _ (by simp only;omega))).trans (zD r1 _);have d4:w4.cell? ⟨w.heap.size+1,2,none⟩=some (J Z c):=(hgrow.cell_far ⟨w.heap.size+1,2,none⟩ (by simp;omega) (HFAR.out _ (by simp only;omega))).trans (zD r2 _);have hst4:Hid (ST (w4.setCell ⟨SB,3,none⟩ (.slice (some ⟨g4,0,none⟩) (is.length+1) cap4)) base SB (n+1) wv cv sv (.slice (some ⟨g4,0,none⟩) (is.length+1) cap4) bv cs (is++[.slice o1 i i]) bs):=HSA.out.pushI hgrow hown HMA.out (by omega);have hbb4:Hid (Below base w (w4.setCell ⟨SB,3,none⟩ (.slice (some ⟨g4,0,none⟩) (is.length+1) cap4))):=(((HB.out.mono HBS.out).alloc hbsr _).grown hgrow hA3.out (fun q hq=>(HST.out.ir.lt q hq).1)).setCell HST.out.hB _;clear hown hgrow hat hlt4)
   go_ret
   exact ⟨rfl,hbb4.out,_,_,hst4.out⟩
theorem ze0 {X:List Int} (h:∀ x∈X,0<=x/\x<256):bsL (strOfNums X)=X:=by
 apply List.ext_getElem?
 intro i
 by_cases hi:i<X.length
 ·rw [JN _ (by rw [strOfNums_size];exact hi),yt h,List.getElem?_eq_getElem hi]
  rfl
 ·rw [List.getElem?_eq_none (by rw [xG,strOfNums_size];omega),List.getElem?_eq_none (by omega)]
structure XS (w:World) (wo:Option Addr) (b off m:Nat) (X:Nat->WD):Prop where
 at_:0<m->wo=some ⟨b,off,none⟩
 lt:0<m->b<w.heap.size
 c:∀ i,i<m->∀ j,j<6->w.cell? ⟨b,off+i*6+j,none⟩=[J Z (X i).a,J Z (X i).b,J Z (X i).d,.slice (X i).do_ (X i).dl (X i).dc,.slice (X i).ao (X i).al.length (X i).ac,.slice (X i).po (X i).pl (X i).pcp][j]?
 in_:∀ i,i<m->(X i).In w
 sz:∀ i,i<m->(X i).pl*24<=140737488351232/\(X i).dl*8<=140737488351232/\(X i).al.length*24<=140737488351232
theorem XS.below {w w':World} {wo:Option Addr} {b off m:Nat} {X:Nat->WD} (h:XS w wo b off m X) (hb:Below w.heap.size w w'):XS w' wo b off m X :=
 ⟨h.at_,fun h0=>Nat.lt_of_lt_of_le (h.lt h0) hb.size,fun i hi j hj=>(hb.cell (h.lt (by omega))).trans (h.c i hi j hj),fun i hi=>(h.in_ i hi).below hb,h.sz⟩
theorem xe.as_ {B T:Nat} {w:World} {ao:Option Addr} {ab aoff:Nat} {al:List (List Int)} {va vm:Value} (h:xe B T w ao ab aoff al va vm) (hl:∀ l∈al,l.length*8<=140737488351232):∃ o c g,va=.slice o al.length c/\AS w w.heap.size o g 0 al:=by
 rcases h with ⟨_,⟨c,rfl⟩,rfl,rfl⟩ | ⟨ad,ga,gm,fa,fm,S,h1,rfl,h3,h4,h5,h6,h7,h8,h9,_⟩
 ·exact ⟨none,c,0,rfl,fun h=>by simp at h,fun h=>by simp at h,fun k l hl=>by simp at hl,fun l hl=>by simp at hl⟩
 ·refine ⟨_,_,ga,rfl,fun _=>rfl,fun _=>h7.lt,fun k l hk=>?_,hl⟩
  have hkl:=(List.getElem?_eq_some_iff.1 hk).1
  obtain ⟨e1,⟨lo,lc,_,e2⟩,e3⟩:=h9.own k l (Nat.zero_le _) (by omega) hk
  obtain ⟨o',c',g,e4,e5,e6⟩:=e2.is_
  refine ⟨o',c',by rw [Nat.zero_add,h7.cell (by omega),e1,e4],fun h0=>⟨g,0,e5.at_ h0,(e6 h0).2,fun i x hx=>?_⟩⟩
  have:=e5.val i (List.getElem?_eq_some_iff.1 hx).1
  rw [this,liF,hx]
  rfl
theorem LnW.wd {B T:Nat} {w:World} {x:WD} {vd va vp vm:Value} {s1 s2:Nat} (h:LnW B T w x vd va vp vm s1 s2) (hx:x.In w):∃ y:WD,y.val=.agg #[J Z x.a,J Z x.b,J Z x.d,vd,va,vp]/\y.In w/\∀ C f,y.ru C f=x.ru C f:=by
 obtain ⟨od,cd,gd,rfl,e1,_⟩:=h.d.is_
 obtain ⟨op,cp,gp,rfl,e2⟩:=h.p.ts
 obtain ⟨oa,ca,ga,rfl,e3⟩:=h.a.as_ hx.as_.len
 exact ⟨⟨x.a,x.b,x.d,od,gd,0,x.dl,cd,x.Dn,oa,ga,0,ca,x.al,op,gp,0,x.pl,cp,x.V,x.L,x.R⟩,rfl,⟨e2,e1,e3,hx.ndl,hx.nal⟩,fun _ _=>rfl⟩
theorem LnB.cs {B:Nat} {w:World} {v:Value} {s:ByteArray} (h:LnB B w v s):∃ o c g,v=.slice o (bsL s).length c/\CS w w.heap.size o g 0 (bsL s):=by
 obtain ⟨g,f,rfl,h1,h2,h3⟩:=h
 refine ⟨_,_,g,by rw [xG],fun _=>rfl,fun _=>h2.lt,fun i x hx=>?_,zah s⟩
 have hi:i<s.size:=by have:=(List.getElem?_eq_some_iff.1 hx).1;rw [xG] at this;exact this
 rw [Nat.zero_add,h2.cell (by omega),h3 i (by omega),ext,if_pos hi]
 rw [JN s hi] at hx
 cases hx
 rfl
theorem LnB.keep {B:Nat} {w w':World} {v:Value} {s:ByteArray} (h:LnB B w v s) (hk:∀ g,v.ownBlock=some g->w'.heap[g]?=w.heap[g]?):LnB B w' v s:=by
 obtain ⟨g,f,h0,h1,h2,h3⟩:=h
 exact ⟨g,f,h0,h1,h2.of_block (hk g (by rw [h0];rfl)),h3⟩
theorem LnB.lt {B:Nat} {w:World} {v:Value} {s:ByteArray} (h:LnB B w v s) {g:Nat} (hg:v.ownBlock=some g):B<=g/\g<w.heap.size:=by
 obtain ⟨g',f,rfl,h1,h2,h3⟩:=h
 cases hg
 exact ⟨h1,h2.lt⟩
theorem qI (c n:Int) (w:World) (c0:-9223372036854775808<=c) (c1:c<=9223372036854775807) (n0:0<n) (n1:n<=9223372036854775807) :
 Calls Tryz.prog 43 #[J Z c,J Z n] w fun e w'=>e=.returned (J Z (pkF c n))/\w'=w:=by
 have hn:¬ n=0:=by omega
 by_cases h:c<0
 ·have HP:Hid (pkF c n=(-(c+1))%n):=by show _=_;unfold pkF;rw [if_pos h]
  have hm:0<=(-(c+1))%n/\(-(c+1))%n<n:=⟨Int.emod_nonneg _ (by omega),Int.emod_lt_of_pos _ (by omega)⟩
  have he:-(c+1).tmod n=(-(c+1))%n:=by rw [<- Int.neg_tmod,Int.tmod_eq_emod_of_nonneg (by omega)]
  rw [<- he] at HP hm
  have HE:Hid (0<=-(c+1).tmod n/\-(c+1).tmod n<n):=hm
  clear he hm
  go_enter Tryz.func43,Tryz.ntmps43
  go_wp2
  go_ret
  exact ⟨YF (by rw [HP.out]),rfl⟩
 ·have HP:Hid (pkF c n=c%n):=by show _=_;unfold pkF;rw [if_neg h]
  have hm:0<=c%n/\c%n<n:=⟨Int.emod_nonneg _ (by omega),Int.emod_lt_of_pos _ (by omega)⟩
  have HE:Hid (0<=c%n/\c%n<n):=hm
  clear hm
  go_enter Tryz.func43,Tryz.ntmps43
  go_wp2
  go_ret
  exact ⟨YF (by rw [HP.out]),rfl⟩
section
open Go.ChangeShapes Go.WideShapes Go.ChangeAt Go.RowKit
section
variable {H:Type} {enc:TypeId×Value->H} {w:World} {base:Nat} {spare:Nat->Bool} {held:Bool}
theorem zb8 {fuel:Nat} {wo:Option Addr} {m cap:Nat} {d:DataW H} {p:List MemPlace} (h:DataW.trod enc Tryz.prog w base spare held fuel 22 [.slice wo m cap]=some (d,p))
 (hz:∀ k∈d.weights Tryz.prog 22,k<=reachBytes):m*96<=140737488351232/\∃ b off X,XS w wo b off m X:=by
 have x0:WD:=⟨0,0,0,none,0,0,0,0,fun _=>0,none,0,0,0,[],none,0,0,0,0,fun _=>0,fun _=>0,fun _=>0⟩
 rcases Deep.open_slice Tryz.underlying22 h with ⟨hcs,hx⟩ | ⟨a,l,c,q,n,D,Pl,hcs,hb,hl,hm,hmm,hx,hel⟩
 ·simp at hcs
  obtain ⟨rfl,rfl,rfl⟩:=hcs
  exact ⟨by omega,0,0,fun _=>x0,fun h=>by omega,fun h=>by omega,fun i hi=>by omega,fun i hi=>by omega,fun i hi=>by omega⟩
 ·simp at hcs hx
  obtain ⟨rfl,rfl,rfl⟩:=hcs
  obtain ⟨rfl,_⟩:=hx
  have hlm:m<=q:=by rw [hmm];split<;>omega
  rw [YM] at hel
  have hwd:∀ k,k∈(m+(q-m))*96::(DataW.weightsAll Tryz.prog 30 ((List.range m).map D)++DataW.weightsAll Tryz.prog 30 ((List.range (q-m)).map fun j=>D (m+j)))->k<=reachBytes:=by
   intro k hk
   refine hz k ?_
   simp only [DataW.weights,Tryz.underlying22,q8,List.length_map,List.length_range]
   exact hk
  refine ⟨by have:=hwd _ (List.mem_cons_self ..);simp only [reachBytes] at this;omega,?_⟩
  haveI:Inhabited WD:=⟨x0⟩
  obtain ⟨F,hF⟩:=Deep.choose_lt (α:=WD) (n:=m)
   (p:=fun i y=>(∀ j,j<6->w.cell? ((a.add (i*6)).add j)=[J Z y.a,J Z y.b,J Z y.d,.slice y.do_ y.dl y.dc,.slice y.ao y.al.length y.ac,.slice y.po y.pl y.pcp][j]?)/\y.In w/\y.pl*24<=140737488351232/\y.dl*8<=140737488351232/\y.al.length*24<=140737488351232) (fun i hi=>by
   obtain ⟨cs',h1,h2⟩:=hel i (by omega)
   obtain ⟨y,rfl,hin,hs⟩:=zdF h2 (fun k hk=>hwd k (List.mem_cons_of_mem _ (List.mem_append_left _ (Zt (d:=D i) (List.mem_map.2 ⟨i,List.mem_range.2 hi,rfl⟩) hk))))
   obtain ⟨_,_,hc⟩:=World.cells?_some h1
   exact ⟨y,hc,hin,hs⟩)
  obtain ⟨b,off,spot⟩:=a
  refine ⟨b,off,F,?_⟩
  by_cases hl0:m=0
  ·subst hl0
   exact ⟨fun h=>by omega,fun h=>by omega,fun i hi=>by omega,fun i hi=>by omega,fun i hi=>by omega⟩
  ·have hc0:=(hF 0 (by omega)).1 0 (by omega)
   have hspot:spot=none:=by simpa [Addr.add] using World.cell?_spot hc0
   subst hspot
   have hlt:b<w.heap.size:=by
    have:=hc0
    simp [Addr.add] at this
    exact yB this
   exact ⟨fun _=>rfl,fun _=>hlt,fun i hi j hj=>by
    have:=(hF i hi).1 j hj
    rw [add_plain,add_plain] at this
    exact this,fun i hi=>(hF i hi).2.1,fun i hi=>(hF i hi).2.2⟩
theorem zdE {fuel:Nat} {so:Option Addr} {m cap:Nat} {d:DataW H} {p:List MemPlace} (h:DataW.trod enc Tryz.prog w base spare held fuel 23 [.slice so m cap]=some (d,p))
 (hz:∀ k∈d.weights Tryz.prog 23,k<=reachBytes) {b off:Nat} {K A B C E:Nat->Int} {S:Nat->ByteArray} (hs:OS w so b off m K A B C E S):∀ i,i<m->(S i).size<=140737488351232:=by
 rcases Deep.open_slice Tryz.underlying23 h with ⟨hcs,hx⟩ | ⟨a,l,c,q,n,D,Pl,hcs,hb,hl,hm,hmm,hx,hel⟩
 ·simp at hcs
  obtain ⟨rfl,rfl,rfl⟩:=hcs
  intro i hi
  omega
 ·simp at hcs hx
  obtain ⟨rfl,rfl,rfl⟩:=hcs
  obtain ⟨rfl,_⟩:=hx
  have hlm:m<=q:=by rw [hmm];split<;>omega
  rw [qk] at hel
  intro i hi
  obtain ⟨cs',h1,h2⟩:=hel i (by omega)
  have hwi:∀ k∈(D i).weights Tryz.prog 66,k<=reachBytes:=fun k hk=>hz k (by
   simp only [DataW.weights,Tryz.underlying23]
   exact List.mem_cons_of_mem _ (List.mem_append_left _ (Zt (d:=D i) (List.mem_map.2 ⟨i,List.mem_range.2 hi,rfl⟩) hk)))
  obtain ⟨_,_,hc⟩:=World.cells?_some h1
  have h5:=hc 5 (by omega)
  have had:=hs.at_ (by omega)
  cases had
  rw [add_plain,add_plain,hs.s i hi] at h5
  obtain ⟨xs,mm,_,hDi,hlen,hxs,hf⟩:=DataW.trod_struct Tryz.underlying66 h2
  rw [qk] at hlen
  match cs',hlen,xs,hxs with
  | [c0,c1,c2,c3,c4,c5],_,[x0,x1,x2,x3,x4,x5],_ =>
   have f5:=hf 5 _ rfl
   obtain ⟨s,e5,e6,_⟩:=DataW.trod_string Tryz.underlying9 f5
   simp [X5] at e5 h5
   rw [e5] at h5
   injection h5 with h5
   have hD:D i=DataW.agg [x0.1,x1.1,x2.1,x3.1,x4.1,x5.1]:=(Prod.mk.inj hDi).1
   rw [hD] at hwi
   have:=hwi s.data.toList.length (by
    simp only [DataW.weights,Tryz.underlying66,DataW.weightsEach,List.map_cons,List.map_nil,List.mem_append]
    right;right;right;right;right;left
    rw [e6]
    simp [DataW.weights])
   simp only [reachBytes] at this
   rw [h5]
   have hsz:s.data.toList.length=s.size:=Array.length_toList
   omega
end
end
end Go.Proofs.YtaebngpoagjafaaGreat
