/-
  OUR OWN.
-/
import Derived.Test.YtaebngpoagjafaaGreatU27
set_option maxRecDepth 100000
namespace Go.Proofs.YtaebngpoagjafaaGreat
open Go.RowKit
theorem nxV_bd {C:List Int} (h:∀ x∈C,0<=x/\x<256) (r:RD):0<=nxV C r/\nxV C r<=255:=by
 unfold nxV
 cases hx:C[r.p]? with
 | none=>simp
 | some x=>have:=h x (List.mem_of_getElem? hx);simp;omega
theorem nx_p (C:List Int) (r:RD):r.p<=(nx C r).p/\(nx C r).p<=r.p+1:=by unfold nx;split<;>simp
theorem rdAt_p (C:List Int) (r:RD):∀ i,r.p<=(rdAt C r i).p/\(rdAt C r i).p<=r.p+i:=by
 intro i
 induction i with
 | zero=>simp [rdAt]
 | succ i ih=>have:=nx_p C (rdAt C r i);simp only [rdAt];omega
theorem rdN_bd {C:List Int} (h:∀ x∈C,0<=x/\x<256) (r:RD):∀ i,0<=rdN C r i/\rdN C r i<p256 i:=by
 intro i
 induction i with
 | zero=>simp [rdN,p256]
 | succ i ih =>
   have h1:=nxV_bd h (rdAt C r i)
   have h2:=p256_pos i
   have h3:nxV C (rdAt C r i)*p256 i<=255*p256 i:=Int.mul_le_mul_of_nonneg_right h1.2 (by omega)
   have h4:0<=nxV C (rdAt C r i)*p256 i:=Int.mul_nonneg h1.1 (by omega)
   simp only [rdN,p256]
   omega
theorem p256_le {i:Nat} (h:i<=4):p256 i<=4294967296:=by
 have:i=0\/i=1\/i=2\/i=3\/i=4:=by omega
 rcases this with rfl | rfl | rfl | rfl | rfl<;>decide
theorem num_p (C:List Int) (r:RD) (k:Nat) (lo hi:Int):r.p<=(num C r k lo hi).p/\(num C r k lo hi).p<=r.p+k:=rdAt_p C r k
attribute [local go_sem ↓] Go.wp_at_zero Go.wp_at_succ
set_option maxHeartbeats 800000 in
theorem readN_any (base B:Nat) (co:Option Addr) (cb coff cc:Nat) (C:List Int) (W:RW) (D:Array Value) (av sv:Value) (s:RT) (kI lo hi:Int) (k:Nat) (w:World) (hk:kI=k) (hk4:k<=4) (hp:s.r.p<=900000000000000000) (h:RM w base B co cb coff cc C W D av sv s) :
   Calls Tryz.prog 153 #[.pointer (some ⟨B,0,none⟩),.int .i64 kI,.int .i64 lo,.int .i64 hi] w fun e w'=>e=.returned (.int .i64 (rdN C s.r k))/\RM w' base B co cb coff cc C W D av sv ⟨num C s.r k lo hi,s.sv,s.ttl,s.sc⟩/\RQ B w w':=by
 subst hk
 have H:Hid (RM w base B co cb coff cc C W D av sv s):=h
 have HBT:Hid (∀ x∈C,0<=x/\x<256):=h.code.byt
 clear h
 obtain ⟨r,sl,ttl,sc⟩:=s
 simp only at hp
 go_enter Tryz.func153,Tryz.ntmps153
 go_wp2_with fail
 go_loopg [9,10,11] k (fun q a b y wr=>∃ i:Nat,q+i=k/\a=.int .i64 (rdN C r i)/\b=.int .i64 (p256 i)/\y=.int .i64 i/\RM wr base B co cb coff cc C W D av sv ⟨rdAt C r i,sl,ttl,sc⟩/\RQ B w wr)
 case atStart=>exact ⟨0,by omega,rfl,rfl,rfl,H.out,RQ.refl _ _⟩
 case round =>
   obtain ⟨i,hq,rfl,rfl,rfl,hm,hv⟩:=hrel
   have HM:Hid (RM wr base B co cb coff cc C W D av sv ⟨rdAt C r i,sl,ttl,sc⟩):=hm
   have HV:Hid (RQ B w wr):=hv
   clear hm hv
   have hpi:=rdAt_p C r i
   have hnb:=rdN_bd HBT.out r i
   have hpw:=p256_le (i:=i) (by omega)
   have hpp:=p256_pos i
   by_cases hlt:i<k
   · have hlt':(i:Int)<(k:Int):=by omega
     have hvb:=nxV_bd HBT.out (rdAt C r i)
     have HNX:Hid (rdN C r (i+1)=rdN C r i+nxV C (rdAt C r i)*p256 i):=rfl
     have HPX:Hid (p256 (i+1)=p256 i*256):=rfl
     have HAX:Hid (rdAt C r (i+1)=nx C (rdAt C r i)):=rfl
     have hm0:0<=nxV C (rdAt C r i)*p256 i:=Int.mul_nonneg hvb.1 (by omega)
     have hm1:nxV C (rdAt C r i)*p256 i<=255*p256 i:=Int.mul_le_mul_of_nonneg_right hvb.2 (by omega)
     go_wp2_with fail
     refine (next_any base B co cb coff cc C W D av sv _ _ (by simp only;omega) HM.out).mono ?_
     rintro e w1 ⟨rfl,hm1',hv1⟩
     have HM1:Hid (RM w1 base B co cb coff cc C W D av sv ⟨rdAt C r (i+1),sl,ttl,sc⟩):=by show RM _ _ _ _ _ _ _ _ _ _ _ _ _;rw [HAX.out];exact hm1'
     have HV1:Hid (RQ B w w1):=HV.out.trans hv1
     clear hm1' hv1
     generalize nxV C (rdAt C r i)=c at *
     generalize p256 i=pw at *
     generalize rdN C r i=n at *
     go_wp2_with fail
     go_roundg (gk-1)
     case measure=>omega
     case rel=>exact ⟨i+1,by omega,by rw [HNX.out],by rw [HPX.out],by go_num,HM1.out,HV1.out⟩
   · have hik:i=k:=by omega
     subst hik
     have hlt':¬ (i:Int)<(i:Int):=by omega
     have c2:=HM.out.c2
     have z2:=HM.out.fz 2
     by_cases hbad:rdN C r i<lo\/hi<rdN C r i
     · have HNM:Hid (num C r i lo hi=⟨(rdAt C r i).p,true⟩):=by show _=_;unfold num;rw [if_pos hbad]
       have HM2:Hid (RM (wr.setCell ⟨B,2,none⟩ (.bool true)) base B co cb coff cc C W D av sv ⟨num C r i lo hi,sl,ttl,sc⟩):=by show RM _ _ _ _ _ _ _ _ _ _ _ _ _;rw [HNM.out];exact HM.out.bad true
       by_cases hlo:rdN C r i<lo
       · clear hbad
         generalize hnn:rdN C r i=n at *
         have HN:Hid (rdN C r i=n):=hnn
         clear hnn
         go_wp2_with fail
         go_ret
         exact ⟨by rw [HN.out];rfl,HM2.out,HV.out.setCell _ _⟩
       · have hhi:hi<rdN C r i:=by omega
         have hlo':lo<=rdN C r i:=by omega
         clear hbad hlo
         generalize hnn:rdN C r i=n at *
         have HN:Hid (rdN C r i=n):=hnn
         clear hnn
         go_wp2_with fail
         go_ret
         exact ⟨by rw [HN.out];rfl,HM2.out,HV.out.setCell _ _⟩
     · have HNM:Hid (num C r i lo hi=rdAt C r i):=by show _=_;unfold num;rw [if_neg hbad]
       have hlo:lo<=rdN C r i:=by omega
       have hhi:rdN C r i<=hi:=by omega
       clear hbad
       generalize hnn:rdN C r i=n at *
       have HN:Hid (rdN C r i=n):=hnn
       clear hnn
       go_wp2_with fail
       go_ret
       exact ⟨by rw [HN.out];rfl,by show RM _ _ _ _ _ _ _ _ _ _ _ _ _;rw [HNM.out];exact HM.out,HV.out⟩
end Go.Proofs.YtaebngpoagjafaaGreat
namespace Go.Proofs.YtaebngpoagjafaaGreat
open Go.RowKit
section
variable {w:World} {base B:Nat} {co:Option Addr} {cb coff cc:Nat} {C:List Int} {W:RW} {D:Array Value} {av sv:Value} {s:RT}
theorem RM.c69 (h:RM w base B co cb coff cc C W D av sv s):w.cell? ⟨B,69,none⟩=some av:=h.ch 0
theorem RM.c70 (h:RM w base B co cb coff cc C W D av sv s):w.cell? ⟨B,70,none⟩=some (.int .i64 W.reg):=h.ch 1
theorem RM.c71 (h:RM w base B co cb coff cc C W D av sv s):w.cell? ⟨B,71,none⟩=some (.int .i64 W.dep):=h.ch 2
theorem RM.c72 (h:RM w base B co cb coff cc C W D av sv s):w.cell? ⟨B,72,none⟩=some sv:=h.ch 3
theorem RM.c73 (h:RM w base B co cb coff cc C W D av sv s):w.cell? ⟨B,73,none⟩=some (.int .i64 s.ttl):=h.ch 4
theorem RM.c74 (h:RM w base B co cb coff cc C W D av sv s):w.cell? ⟨B,74,none⟩=some (.int .i64 s.sc):=h.ch 5
theorem RM.bs (h:RM w base B co cb coff cc C W D av sv s):base<=w.heap.size:=Nat.le_trans h.hB (Nat.le_of_lt h.lt)
theorem RM.push {w4:World} {ys:List Int} {oo:Option Addr} {n cap:Nat} (h:RM w base B co cb coff cc C W D av sv s) (hn:n=(s.sv++ys).length) (hg:w.grownBy w4 sv.ownBlock) (hown:w4.ownsRow base 3 1 (.slice oo n cap) n ((s.sv++ys).map (Value.int .i64))) :
   RM (w4.setCell ⟨B,72,none⟩ (.slice oo n cap)) base B co cb coff cc C W D av (.slice oo n cap) ⟨s.r,s.sv++ys,s.ttl,s.sc⟩:=by
 have hb4:=(hg.block B h.lt (fun e=>h.ne e.symm)).trans h.blk
 have hc4:CS w4 base co cb coff C:=h.code.of_kept (fun b hb=>hg.block b (by have:=h.bs;omega) (fun e=>by have:=(h.row.lt b e.symm).1;omega))
 subst hn
 exact ⟨by rw [blkN_set hb4,runC_set72 h.dsz],h.dsz,h.dn,ownsRow_setCell_other hown (owns_ne hown hb4 (by decide)) _,h.hB,hc4.set h.hB _ _⟩
theorem RM.pushB {w0 w4:World} {u:Value} (h:RM w base B co cb coff cc C W D av sv s) (hb:Below base w0 w) (hg:w.grownBy w4 sv.ownBlock):Below base w0 (w4.setCell ⟨B,72,none⟩ u) :=
 (hb.grown hg h.bs (fun k hk=>(h.row.lt k hk).1)).setCell h.hB _
end
attribute [local go_sem ↓] Go.wp_at_zero Go.wp_at_succ
set_option maxHeartbeats 400000 in
theorem count_any (base B:Nat) (co:Option Addr) (cb coff cc:Nat) (C:List Int) (W:RW) (D:Array Value) (av sv:Value) (s:RT) (w:World) (hp:s.r.p<=900000000000000000) (h:RM w base B co cb coff cc C W D av sv s) :
   Calls Tryz.prog 151 #[.pointer (some ⟨B,0,none⟩)] w fun e w'=>e=.returned (.int .i64 (rdN C s.r 1))/\RM w' base B co cb coff cc C W D av sv ⟨cnR C s.r,s.sv,s.ttl,s.sc⟩/\RQ B w w':=by
 have H:Hid (RM w base B co cb coff cc C W D av sv s):=h
 clear h
 go_enter Tryz.func151,Tryz.ntmps151
 go_wp2_with fail
 refine (readN_any base B co cb coff cc C W D av sv s 1 1 16 1 _ rfl (by decide) hp H.out).mono ?_
 rintro e w1 ⟨rfl,hm,hv⟩
 have HM:Hid (RM w1 base B co cb coff cc C W D av sv ⟨cnR C s.r,s.sv,s.ttl,s.sc⟩):=hm
 have HV:Hid (RQ B w w1):=hv
 clear hm hv
 go_wp2_with fail
 go_ret
 exact ⟨rfl,HM.out,HV.out⟩
set_option maxHeartbeats 400000 in
theorem server_any (base B:Nat) (co:Option Addr) (cb coff cc:Nat) (C:List Int) (W:RW) (D:Array Value) (av sv:Value) (s:RT) (w:World) (hp:s.r.p<=900000000000000000) (h:RM w base B co cb coff cc C W D av sv s) :
   Calls Tryz.prog 152 #[.pointer (some ⟨B,0,none⟩)] w fun e w'=>e=.returned (.int .i64 (rdN C s.r 1))/\RM w' base B co cb coff cc C W D av sv ⟨num C s.r 1 0 63,s.sv,s.ttl,s.sc⟩/\RQ B w w':=by
 have H:Hid (RM w base B co cb coff cc C W D av sv s):=h
 clear h
 go_enter Tryz.func152,Tryz.ntmps152
 go_wp2_with fail
 refine (readN_any base B co cb coff cc C W D av sv s 1 0 63 1 _ rfl (by decide) hp H.out).mono ?_
 rintro e w1 ⟨rfl,hm,hv⟩
 have HM:Hid (RM w1 base B co cb coff cc C W D av sv ⟨num C s.r 1 0 63,s.sv,s.ttl,s.sc⟩):=hm
 have HV:Hid (RQ B w w1):=hv
 clear hm hv
 go_wp2_with fail
 go_ret
 exact ⟨rfl,HM.out,HV.out⟩
set_option maxHeartbeats 400000 in
theorem way_any (base B:Nat) (co:Option Addr) (cb coff cc:Nat) (C:List Int) (W:RW) (D:Array Value) (av sv:Value) (s:RT) (w:World) (hp:s.r.p<=900000000000000000) (h:RM w base B co cb coff cc C W D av sv s) :
   Calls Tryz.prog 156 #[.pointer (some ⟨B,0,none⟩)] w fun e w'=>e=.returned (.int .i64 (rdN C s.r 2))/\RM w' base B co cb coff cc C W D av sv ⟨num C s.r 2 0 32000,s.sv,s.ttl,s.sc⟩/\RQ B w w':=by
 have H:Hid (RM w base B co cb coff cc C W D av sv s):=h
 clear h
 go_enter Tryz.func156,Tryz.ntmps156
 go_wp2_with fail
 refine (readN_any base B co cb coff cc C W D av sv s 2 0 32000 2 _ rfl (by decide) hp H.out).mono ?_
 rintro e w1 ⟨rfl,hm,hv⟩
 have HM:Hid (RM w1 base B co cb coff cc C W D av sv ⟨num C s.r 2 0 32000,s.sv,s.ttl,s.sc⟩):=hm
 have HV:Hid (RQ B w w1):=hv
 clear hm hv
 go_wp2_with fail
 go_ret
 exact ⟨rfl,HM.out,HV.out⟩
set_option maxHeartbeats 400000 in
theorem isUp_any (base B:Nat) (co:Option Addr) (cb coff cc:Nat) (C:List Int) (W:RW) (D:Array Value) (av sv:Value) (s:RT) (n:Int) (w:World) (h:RM w base B co cb coff cc C W D av sv s) :
   Calls Tryz.prog 154 #[.pointer (some ⟨B,0,none⟩),.int .i64 n] w fun e w'=>e=.returned (.bool (upW W n))/\w'=w:=by
 by_cases h0:0<=n
 · by_cases h1:n<64
   · obtain ⟨k,rfl⟩:∃ k:Nat,n=k:=⟨n.toNat,by omega⟩
     have hc:=h.cd (i:=k) (by omega)
     have HE:Hid (upW W (k:Int)=!W.dn k):=by show _=_;unfold upW;simp [h1]
     clear h
     generalize W.dn k=q at *
     go_enter Tryz.func154,Tryz.ntmps154
     go_wp2_with fail
     go_ret
     exact ⟨by rw [HE.out];rfl,rfl⟩
   · have HE:Hid (upW W n=false):=by show _=_;unfold upW;simp [h1]
     have h1':decide (n<64)=false:=decide_eq_false h1
     clear h
     go_enter Tryz.func154,Tryz.ntmps154
     go_wp2_with fail
     go_ret
     exact ⟨by rw [HE.out];rfl,rfl⟩
 · have HE:Hid (upW W n=false):=by show _=_;unfold upW;simp [h0]
   have h0':decide (0<=n)=false:=decide_eq_false h0
   clear h
   go_enter Tryz.func154,Tryz.ntmps154
   go_wp2_with fail
   go_ret
   exact ⟨by rw [HE.out];rfl,rfl⟩
set_option maxHeartbeats 400000 in
theorem narrow_any (base B:Nat) (co:Option Addr) (cb coff cc:Nat) (C:List Int) (W:RW) (D:Array Value) (av sv:Value) (s:RT) (n:Int) (w:World) (h:RM w base B co cb coff cc C W D av sv s) :
   Calls Tryz.prog 157 #[.pointer (some ⟨B,0,none⟩),.int .i64 n] w fun e w'=>e=.returned (.tuple #[])/\RM w' base B co cb coff cc C W D av sv ⟨s.r,s.sv,s.ttl,nar n s.sc⟩/\RQ B w w':=by
 have H:Hid (RM w base B co cb coff cc C W D av sv s):=h
 have c74:=h.c74
 have z74:=h.fz 74
 clear h
 by_cases hn:s.sc<n
 · have HE:Hid (nar n s.sc=n):=by show _=_;unfold nar;rw [if_pos hn]
   go_enter Tryz.func157,Tryz.ntmps157
   go_wp2_with fail
   go_end0
   exact ⟨rfl,by rw [HE.out];exact H.out.scS n,(RQ.refl _ _).setCell _ _⟩
 · have HE:Hid (nar n s.sc=s.sc):=by show _=_;unfold nar;rw [if_neg hn]
   have hn':n<=s.sc:=by omega
   clear hn
   go_enter Tryz.func157,Tryz.ntmps157
   go_wp2_with fail
   go_end0
   exact ⟨rfl,by rw [HE.out];exact H.out,RQ.refl _ _⟩
set_option maxHeartbeats 400000 in
theorem seconds_any (base B:Nat) (co:Option Addr) (cb coff cc:Nat) (C:List Int) (W:RW) (D:Array Value) (av sv:Value) (s:RT) (w:World) (hp:s.r.p<=900000000000000000) (h:RM w base B co cb coff cc C W D av sv s) :
   Calls Tryz.prog 120 #[.pointer (some ⟨B,0,none⟩)] w fun e w'=>e=.returned (.tuple #[])/\RM w' base B co cb coff cc C W D av sv (stSeconds C s)/\RQ B w w':=by
 have H:Hid (RM w base B co cb coff cc C W D av sv s):=h
 clear h
 go_enter Tryz.func120,Tryz.ntmps120
 go_wp2_with fail
 refine (readN_any base B co cb coff cc C W D av sv s 3 1 86400 3 _ rfl (by decide) hp H.out).mono ?_
 rintro e w1 ⟨rfl,hm,hv⟩
 have HM:Hid (RM w1 base B co cb coff cc C W D av sv ⟨num C s.r 3 1 86400,s.sv,s.ttl,s.sc⟩):=hm
 have HV:Hid (RQ B w w1):=hv
 have c73:=hm.c73
 have z73:=hm.fz 73
 simp only at c73
 clear hm hv
 by_cases hn:rdN C s.r 3<s.ttl
 · have HE:Hid (stSeconds C s=⟨num C s.r 3 1 86400,s.sv,rdN C s.r 3,s.sc⟩):=by show _=_;unfold stSeconds;rw [if_pos hn]
   generalize rdN C s.r 3=n at *
   go_wp2_with fail
   go_end0
   exact ⟨rfl,by rw [HE.out];exact HM.out.ttlS n,HV.out.setCell _ _⟩
 · have HE:Hid (stSeconds C s=⟨num C s.r 3 1 86400,s.sv,s.ttl,s.sc⟩):=by show _=_;unfold stSeconds;rw [if_neg hn]
   have hn':s.ttl<=rdN C s.r 3:=by omega
   clear hn
   generalize rdN C s.r 3=n at *
   go_wp2_with fail
   go_end0
   exact ⟨rfl,by rw [HE.out];exact HM.out,HV.out⟩
end Go.Proofs.YtaebngpoagjafaaGreat
namespace Go.Proofs.YtaebngpoagjafaaGreat
open Go.RowKit
attribute [local go_sem ↓] Go.wp_at_zero Go.wp_at_succ
set_option maxHeartbeats 800000 in
theorem wexpr_any (base B:Nat) (e:EX) (vo:Option Addr) (vc:Nat) (v:Value) (xs:List Int) (w:World) (k0:0<=e.kind) (k1:e.kind<256) (n0:0<=e.nv) (n1:e.nv<=4294967296) (hl:e.items.length<=100000) (hx:xs.length<=999990) (h:WM w base B v xs) :
   Calls Tryz.prog 108 #[.pointer (some ⟨B,0,none⟩),.agg #[.int .u8 e.kind,.int .i64 e.at_,.int .i64 e.depth,.int .i64 e.nv,.int .i64 e.na,.slice vo e.items.length vc,.int .i64 e.inner]] w fun r w'=>r=.returned (.tuple #[])/\∃ v',WM w' base B v' (xs++exprB e)/\WV B v v' w w':=by
 have H:Hid (WM w base B v xs):=h
 clear h
 have HA:Hid ((w.alloc (.cells #[.int .u8 e.kind,.int .i64 e.at_,.int .i64 e.depth,.int .i64 e.nv,.int .i64 e.na,.slice vo e.items.length vc,.int .i64 e.inner] 114)).heap[w.heap.size]?=some (.cells #[.int .u8 e.kind,.int .i64 e.at_,.int .i64 e.depth,.int .i64 e.nv,.int .i64 e.na,.slice vo e.items.length vc,.int .i64 e.inner] 114 (0,0))):=heap_alloc_new w _
 go_enter Tryz.func108,Tryz.ntmps108
 go_wp2_with fail
 refine (wnum_any base B e.kind 1 1 v xs _ rfl (by decide) k0 (by omega) (by omega) (H.out.alloc _)).mono ?_
 rintro r w1 ⟨rfl,v1,hm1,hv1⟩
 have HM1:Hid (WM w1 base B v1 (xs++numB e.kind 1)):=hm1
 have HV1:Hid (WV B v v1 w w1):=((WV.refl _ _ _).alloc _).trans hv1
 have hblk:w1.heap[w.heap.size]?=some (.cells #[.int .u8 e.kind,.int .i64 e.at_,.int .i64 e.depth,.int .i64 e.nv,.int .i64 e.na,.slice vo e.items.length vc,.int .i64 e.inner] 114 (0,0)):=by
   rw [(hv1.kept w.heap.size (by simp) (fun e'=>by have:=H.out.lt;omega) (fun e'=>by have:=(H.out.row.lt _ e').2;omega)).1]
   exact HA.out
 have q0:w1.cell? ⟨w.heap.size,0,none⟩=some (.int .u8 e.kind):=by simp [World.cell?,hblk]
 have q3:w1.cell? ⟨w.heap.size,3,none⟩=some (.int .i64 e.nv):=by simp [World.cell?,hblk]
 have q5:w1.cell? ⟨w.heap.size,5,none⟩=some (.slice vo e.items.length vc):=by simp [World.cell?,hblk]
 have hxl:(xs++numB e.kind 1).length<=1000000:=by rw [List.length_append,numB_len];omega
 clear hm1 hv1 hblk
 cases e116:(e.kind==116) with
 | true =>
   have HE:Hid (exprB e=numB e.kind 1++numB e.nv 3):=by show _=_;unfold exprB;rw [if_pos (by simpa using e116)]
   go_wp2_with fail
   refine (wnum_any base B e.nv 3 3 v1 _ _ rfl (by decide) n0 n1 hxl HM1.out).mono ?_
   rintro r w2 ⟨rfl,v2,hm2,hv2⟩
   have HM2:Hid (WM w2 base B v2 (xs++exprB e)):=by show WM _ _ _ _ _;rw [HE.out,<- List.append_assoc];exact hm2
   have HV2:Hid (WV B v v2 w w2):=HV1.out.trans hv2
   clear hm2 hv2
   go_wp2_with fail
   go_end0
   exact ⟨rfl,v2,HM2.out,HV2.out⟩
 | false =>
   cases e64:(e.kind==64) with
   | true =>
     have HE:Hid (exprB e=numB e.kind 1++numB e.nv 1):=by show _=_;unfold exprB;rw [if_neg (by simpa using e116),if_pos (by simpa using e64)]
     go_wp2_with fail
     refine (wnum_any base B e.nv 1 1 v1 _ _ rfl (by decide) n0 n1 hxl HM1.out).mono ?_
     rintro r w2 ⟨rfl,v2,hm2,hv2⟩
     have HM2:Hid (WM w2 base B v2 (xs++exprB e)):=by show WM _ _ _ _ _;rw [HE.out,<- List.append_assoc];exact hm2
     have HV2:Hid (WV B v v2 w w2):=HV1.out.trans hv2
     clear hm2 hv2
     go_wp2_with fail
     go_end0
     exact ⟨rfl,v2,HM2.out,HV2.out⟩
   | false =>
     have HE:Hid (exprB e=numB e.kind 1++numB e.items.length 1):=by show _=_;unfold exprB;rw [if_neg (by simpa using e116),if_neg (by simpa using e64)]
     go_wp2_with fail
     refine (wnum_any base B e.items.length 1 1 v1 _ _ rfl (by decide) (by omega) (by omega) hxl HM1.out).mono ?_
     rintro r w2 ⟨rfl,v2,hm2,hv2⟩
     have HM2:Hid (WM w2 base B v2 (xs++exprB e)):=by show WM _ _ _ _ _;rw [HE.out,<- List.append_assoc];exact hm2
     have HV2:Hid (WV B v v2 w w2):=HV1.out.trans hv2
     clear hm2 hv2
     go_wp2_with fail
     go_end0
     exact ⟨rfl,v2,HM2.out,HV2.out⟩
set_option maxHeartbeats 1600000 in
theorem witem_any (base B:Nat) (kind:Int) (x:IM) (way:Int) (v:Value) (xs:List Int) (w:World) (a0:0<=x.num) (a1:x.num<=4294967296) (b0:0<=x.pv) (b1:x.pv<=4294967296) (c0:0<=x.pl) (c1:x.pl<=4294967296) (d0:0<=x.wv) (d1:x.wv<=4294967296) (y0:0<=way) (y1:way<=4294967296) (hx:xs.length<=999990) (h:WM w base B v xs) :
   Calls Tryz.prog 109 #[.pointer (some ⟨B,0,none⟩),.int .u8 kind,.agg #[.int .i64 x.at_,.int .i64 x.num,.int .i64 x.pv,.int .i64 x.pl,.int .i64 x.wv,.int .i64 x.wa,.int .i64 x.arm],.int .i64 way] w fun r w'=>r=.returned (.tuple #[])/\∃ v',WM w' base B v' (xs++itemB kind x way)/\WV B v v' w w':=by
 have H:Hid (WM w base B v xs):=h
 clear h
 have HA:Hid ((w.alloc (.cells #[.int .i64 x.at_,.int .i64 x.num,.int .i64 x.pv,.int .i64 x.pl,.int .i64 x.wv,.int .i64 x.wa,.int .i64 x.arm] 167)).heap[w.heap.size]?=some (.cells #[.int .i64 x.at_,.int .i64 x.num,.int .i64 x.pv,.int .i64 x.pl,.int .i64 x.wv,.int .i64 x.wa,.int .i64 x.arm] 167 (0,0))):=heap_alloc_new w _
 have HC:Hid (∀ w1 v1,WV B v v1 (w.alloc (.cells #[.int .i64 x.at_,.int .i64 x.num,.int .i64 x.pv,.int .i64 x.pl,.int .i64 x.wv,.int .i64 x.wa,.int .i64 x.arm] 167)) w1->w1.heap[w.heap.size]?=some (.cells #[.int .i64 x.at_,.int .i64 x.num,.int .i64 x.pv,.int .i64 x.pl,.int .i64 x.wv,.int .i64 x.wa,.int .i64 x.arm] 167 (0,0))):=fun w1 v1 hv1=>by
   rw [(hv1.kept w.heap.size (by simp) (fun e'=>by have:=H.out.lt;omega) (fun e'=>by have:=(H.out.row.lt _ e').2;omega)).1]
   exact HA.out
 clear HA
 cases e109:(kind==109) with
 | true =>
   have HE:Hid (itemB kind x way=numB x.pv 4++numB x.pl 1++numB way 2):=by show _=_;unfold itemB;rw [if_pos (by simpa using e109)]
   go_enter Tryz.func109,Tryz.ntmps109
   go_wp2_with fail
   refine (wnum_any base B x.pv 4 4 v xs _ rfl (by decide) b0 b1 (by omega) (H.out.alloc _)).mono ?_
   rintro r w1 ⟨rfl,v1,hm1,hv1⟩
   have HM1:Hid (WM w1 base B v1 (xs++numB x.pv 4)):=hm1
   have HV1:Hid (WV B v v1 (w.alloc (.cells #[.int .i64 x.at_,.int .i64 x.num,.int .i64 x.pv,.int .i64 x.pl,.int .i64 x.wv,.int .i64 x.wa,.int .i64 x.arm] 167)) w1):=hv1
   have hblk:=HC.out w1 v1 hv1
   have q3:w1.cell? ⟨w.heap.size,3,none⟩=some (.int .i64 x.pl):=by simp [World.cell?,hblk]
   clear hm1 hv1 hblk
   go_wp2_with fail
   refine (wnum_any base B x.pl 1 1 v1 _ _ rfl (by decide) c0 c1 (by rw [List.length_append,numB_len];omega) HM1.out).mono ?_
   rintro r w2 ⟨rfl,v2,hm2,hv2⟩
   have HM2:Hid (WM w2 base B v2 ((xs++numB x.pv 4)++numB x.pl 1)):=hm2
   have HV2:Hid (WV B v v2 w w2):=((WV.refl _ _ _).alloc _).trans (HV1.out.trans hv2)
   clear hm2 hv2 q3
   go_wp2_with fail
   refine (wnum_any base B way 2 2 v2 _ _ rfl (by decide) y0 y1 (by rw [List.length_append,List.length_append,numB_len,numB_len];omega) HM2.out).mono ?_
   rintro r w3 ⟨rfl,v3,hm3,hv3⟩
   have HM3:Hid (WM w3 base B v3 (xs++itemB kind x way)):=by show WM _ _ _ _ _;rw [HE.out,<- List.append_assoc,<- List.append_assoc];exact hm3
   have HV3:Hid (WV B v v3 w w3):=HV2.out.trans hv3
   clear hm3 hv3
   go_wp2_with fail
   go_end0
   exact ⟨rfl,v3,HM3.out,HV3.out⟩
 | false =>
   cases e103:(kind==103) with
   | true =>
     have HE:Hid (itemB kind x way=numB x.num 1++numB way 2):=by show _=_;unfold itemB;rw [if_neg (by simpa using e109),if_pos (by simpa using e103)]
     go_enter Tryz.func109,Tryz.ntmps109
     go_wp2_with fail
     refine (wnum_any base B x.num 1 1 v xs _ rfl (by decide) a0 a1 (by omega) (H.out.alloc _)).mono ?_
     rintro r w1 ⟨rfl,v1,hm1,hv1⟩
     have HM1:Hid (WM w1 base B v1 (xs++numB x.num 1)):=hm1
     have HV1:Hid (WV B v v1 w w1):=((WV.refl _ _ _).alloc _).trans hv1
     clear hm1 hv1
     go_wp2_with fail
     refine (wnum_any base B way 2 2 v1 _ _ rfl (by decide) y0 y1 (by rw [List.length_append,numB_len];omega) HM1.out).mono ?_
     rintro r w3 ⟨rfl,v3,hm3,hv3⟩
     have HM3:Hid (WM w3 base B v3 (xs++itemB kind x way)):=by show WM _ _ _ _ _;rw [HE.out,<- List.append_assoc];exact hm3
     have HV3:Hid (WV B v v3 w w3):=HV1.out.trans hv3
     clear hm3 hv3
     go_wp2_with fail
     go_end0
     exact ⟨rfl,v3,HM3.out,HV3.out⟩
   | false =>
     cases e119:(kind==119) with
     | true =>
       have HE:Hid (itemB kind x way=numB x.num 1++numB x.wv 2):=by show _=_;unfold itemB;rw [if_neg (by simpa using e109),if_neg (by simpa using e103),if_pos (by simpa using e119)]
       go_enter Tryz.func109,Tryz.ntmps109
       go_wp2_with fail
       refine (wnum_any base B x.num 1 1 v xs _ rfl (by decide) a0 a1 (by omega) (H.out.alloc _)).mono ?_
       rintro r w1 ⟨rfl,v1,hm1,hv1⟩
       have HM1:Hid (WM w1 base B v1 (xs++numB x.num 1)):=hm1
       have HV1:Hid (WV B v v1 w w1):=((WV.refl _ _ _).alloc _).trans hv1
       have hblk:=HC.out w1 v1 hv1
       have q4:w1.cell? ⟨w.heap.size,4,none⟩=some (.int .i64 x.wv):=by simp [World.cell?,hblk]
       clear hm1 hv1 hblk
       go_wp2_with fail
       refine (wnum_any base B x.wv 2 2 v1 _ _ rfl (by decide) d0 d1 (by rw [List.length_append,numB_len];omega) HM1.out).mono ?_
       rintro r w3 ⟨rfl,v3,hm3,hv3⟩
       have HM3:Hid (WM w3 base B v3 (xs++itemB kind x way)):=by show WM _ _ _ _ _;rw [HE.out,<- List.append_assoc];exact hm3
       have HV3:Hid (WV B v v3 w w3):=HV1.out.trans hv3
       clear hm3 hv3
       go_wp2_with fail
       go_end0
       exact ⟨rfl,v3,HM3.out,HV3.out⟩
     | false =>
       have HE:Hid (itemB kind x way=numB x.num 1):=by show _=_;unfold itemB;rw [if_neg (by simpa using e109),if_neg (by simpa using e103),if_neg (by simpa using e119)]
       go_enter Tryz.func109,Tryz.ntmps109
       go_wp2_with fail
       refine (wnum_any base B x.num 1 1 v xs _ rfl (by decide) a0 a1 (by omega) (H.out.alloc _)).mono ?_
       rintro r w1 ⟨rfl,v1,hm1,hv1⟩
       have HM1:Hid (WM w1 base B v1 (xs++itemB kind x way)):=by show WM _ _ _ _ _;rw [HE.out];exact hm1
       have HV1:Hid (WV B v v1 w w1):=((WV.refl _ _ _).alloc _).trans hv1
       clear hm1 hv1
       go_wp2_with fail
       go_end0
       exact ⟨rfl,v1,HM1.out,HV1.out⟩
end Go.Proofs.YtaebngpoagjafaaGreat
namespace Go.Proofs.YtaebngpoagjafaaGreat
open Go.RowKit
theorem run_append_zero {P:Program} (w:World) (t ty e:TypeId) (i:TypeInfo) (ht:P.underlying t=some (.slice e)) (hi:P.info? e=some i) (so:Option Addr) (n cap:Nat) (xo:Option Addr) (c:Nat) (hn:n<=cap) :
   (Builtin.append_ #[t,t] ty #[.slice so n cap,.slice xo 0 c]).run P w=.ok (.slice so n cap) w:=by
 have hfc:Sem.run P (Builtin.firstCells i.size 0 (.slice xo 0 c)) w=.ok #[] w:=by
   cases xo with
   | none=>simp [Builtin.firstCells]
   | some a=>exact run_firstCells_some (P:=P) w i.size 0 a 0 c [] (by simp) (fun j u hu=>by simp at hu)
 cases so with
 | none=>simp [Builtin.append_,run_underlying ht,sizeOf,typeInfo,hi,Builtin.lenOf,hn,hfc]
 | some a =>
   have hst:Sem.run P (storeCells (a.add (n*i.size)) []) w=.ok () w:=by simp [storeCells]
   simp [Builtin.append_,run_underlying ht,sizeOf,typeInfo,hi,Builtin.lenOf,hn,hfc,hst]
theorem owns_form {w:World} {base e size:Nat} {v:Value} {n:Nat} {xs:List Value} (h:w.ownsRow base e size v n xs):∃ o c,v=.slice o n c/\n<=c:=by
 rcases h.2 with ⟨rfl,rfl⟩ | ⟨g,cap,cur,rfl,_,_,hc,_⟩
 · exact ⟨none,0,rfl,Nat.le_refl _⟩
 · exact ⟨some ⟨g,0,none⟩,cap,rfl,hc⟩
theorem wpList_append_row {P:Program} (w:World) {ops:Array Oper} {rest:List Oper} {o:Oper} {a:Act} {Q:Exit->Act->World->Prop} (hgd:o.guard=none) (s x:Operand) (t:TypeId)
   (ho:o.op=.call { callee:=.builtin .append,args:=#[s,x],argTypes:=#[t,t] })
   (base:Nat) (e:TypeId) (i:TypeInfo) (z:Value) (size bytes:Nat) (ht:P.underlying t=some (.slice e)) (hi:P.info? e=some i) (hz:i.zero=some z)
   (hsize:i.size=size) (hby:i.bytes=bytes) (hzs:z.cells.size=size) (hsz:0<size)
   (v:Value) (n:Nat) (xs:List Value) (hs:a.eval s=v) (hown:w.ownsRow base e size v n xs)
   (base2:Nat) (v2:Value) (m:Nat) (news:List Value) (hx:a.eval x=v2) (hsrc:w.ownsRow base2 e size v2 m news) (h1:∀ u∈news,u.oneCell'=true)
   (h63:n+m<=maxLen) (hbytes:(n+m)*bytes<=140737488355328) (hbase:base<=w.heap.size) (H:Nat) (hH:w.heap.size=H)
   (h:∀ oo cap w',w'.ownsRow base e size (.slice oo (n+m) cap) (n+m) (xs++news)->w.grownBy w' v.ownBlock->((Value.slice oo (n+m) cap).ownBlock=v.ownBlock\/(Value.slice oo (n+m) cap).ownBlock=some H)->wpList P ops Q rest (a.put o.dst (.slice oo (n+m) cap)) w'):wpList P ops Q (o::rest) a w:=by
 rcases Nat.eq_zero_or_pos m with hm | hm
 · subst hm
   have hne:news=[]:=List.eq_nil_of_length_eq_zero (by have:=hsrc.1;simpa using this)
   subst hne
   obtain ⟨so,cap,rfl,hn⟩:=owns_form hown
   obtain ⟨xo,c,rfl,_⟩:=owns_form hsrc
   refine wpList_plain hgd fun K hK'=>?_
   have hrun:=run_append_zero (P:=P) w t o.type e i ht hi so n cap xo c hn
   unfold Oper.wp
   simp [execOp,ho,resolve,invoke,builtin,hs,hx,hrun,Result.andThen]
   refine hK' _ _ ?_
   have:=h so cap w (by simpa using hown) ⟨rfl,rfl,rfl,Nat.le_refl _,fun _ _ _=>rfl⟩ (.inl rfl)
   simpa using this
 · obtain ⟨g,c,hv2,_,_⟩:=hsrc.form hm
   subst hv2
   refine wpList_append_lies w hgd s x t ho base e i z size bytes ht hi hz hsize hby hzs hsz v n xs hs hown ⟨g,0,none⟩ m c news hx hsrc.1 (hsrc.cells rfl) h1 hm h63 hbytes hbase H hH (fun g' cap w' q1 q2 q3 _=>h _ _ _ q1 q2 ?_)
   rcases q3 with q3 | q3
   · exact .inl q3.symm
   · exact .inr (by rw [q3];rfl)
attribute [local go_sem ↓] Go.wp_at_zero Go.wp_at_succ
set_option maxHeartbeats 400000 in
theorem upTo_any (eo:Option Addr) (m c:Nat) (i:Int) (w:World) (hmc:m<=c) (hm:m<=100000) (h:0<m->∃ g,eo=some ⟨g,0,none⟩) :
   Calls Tryz.prog 107 #[.slice eo m c,.int .i64 i] w fun e w'=>w'=w/\((i<0\/(m:Int)<=i)/\e=.returned (.slice none 0 0)\/∃ k:Nat,i=k/\k<m/\e=.returned (.slice eo (k+1) c)):=by
 by_cases h0:i<0
 · go_enter Tryz.func107,Tryz.ntmps107
   go_wp2_with fail
   go_ret
   exact ⟨rfl,.inl ⟨.inl h0,rfl⟩⟩
 · obtain ⟨k,rfl⟩:∃ k:Nat,i=k:=⟨i.toNat,by omega⟩
   have h00:(0:Int)<=(k:Int):=by omega
   by_cases h1:k<m
   · obtain ⟨g,rfl⟩:=h (by omega)
     have h1':(k:Int)<(m:Int):=by omega
     have h2':¬ (m:Int)<=(k:Int):=by omega
     have h3':(k:Int)+1<=(c:Int):=by omega
     clear h h0
     go_enter Tryz.func107,Tryz.ntmps107
     go_wp2_with fail
     go_ret
     exact ⟨rfl,.inr ⟨k,rfl,h1,rfl⟩⟩
   · have h1':(m:Int)<=(k:Int):=by omega
     clear h h0
     go_enter Tryz.func107,Tryz.ntmps107
     go_wp2_with fail
     go_ret
     exact ⟨rfl,.inl ⟨.inr h1',rfl⟩⟩
end Go.Proofs.YtaebngpoagjafaaGreat
namespace Go.Proofs.YtaebngpoagjafaaGreat
open Go.RowKit
theorem svR_p (C:List Int) (r:RD):∀ i,r.p<=(svR C r i).p/\(svR C r i).p<=r.p+i:=by
 intro i
 induction i with
 | zero=>simp [svR]
 | succ i ih=>have:=num_p C (svR C r i) 1 0 63;simp only [svR];omega
theorem svL_len (C:List Int) (r:RD):∀ i,(svL C r i).length=i:=by
 intro i
 induction i with
 | zero=>rfl
 | succ i ih=>simp [svL,ih]
theorem cnN_bd {C:List Int} (h:∀ x∈C,0<=x/\x<256) (r:RD):rdN C r 1=(cnN C r:Int)/\cnN C r<=255:=by
 have h1:=rdN_bd h r 1
 have h2:p256 1=256:=by decide
 rw [h2] at h1
 unfold cnN
 omega
theorem RQ.owns {B:Nat} {w w':World} (h:RQ B w w') {base e size:Nat} {v:Value} {n:Nat} {xs:List Value} (ho:w.ownsRow base e size v n xs) (hne:v.ownBlock≠some B):w'.ownsRow base e size v n xs:=owns_of_block ho (fun g hg=>h.kept g (ho.lt g hg).2 (fun e=>hne (by rw [<- e];exact hg)))
attribute [local go_sem ↓] Go.wp_at_zero Go.wp_at_succ
set_option maxHeartbeats 800000 in
theorem servers_any (base B:Nat) (co:Option Addr) (cb coff cc:Nat) (C:List Int) (W:RW) (D:Array Value) (av sv:Value) (s:RT) (w:World) (hp:s.r.p<=900000000000000000-1000) (hl:s.sv.length<=100000) (h:RM w base B co cb coff cc C W D av sv s) :
   Calls Tryz.prog 115 #[.pointer (some ⟨B,0,none⟩)] w fun e w'=>e=.returned (.tuple #[])/\(∃ sv',RM w' base B co cb coff cc C W D av sv' (stServers C s))/\Below base w w':=by
 obtain ⟨i0,hi0,hz0,hz1,hz2⟩:=info_parts Tryz.infoInt
 have H:Hid (RM w base B co cb coff cc C W D av sv s):=h
 have HBT:Hid (∀ x∈C,0<=x/\x<256):=h.code.byt
 have HBS:Hid (base<=w.heap.size):=h.bs
 have HHB:Hid (base<=B):=h.hB
 clear h
 go_enter Tryz.func115,Tryz.ntmps115
 go_wp2_with fail
 refine (count_any base B co cb coff cc C W D av sv s _ (by omega) H.out).mono ?_
 rintro e w1 ⟨rfl,hm,hv⟩
 have HM1:Hid (RM w1 base B co cb coff cc C W D av sv ⟨cnR C s.r,s.sv,s.ttl,s.sc⟩):=hm
 have HB1:Hid (Below base w w1):=hv.below HHB.out HBS.out
 clear hm hv
 obtain ⟨hcn,hc255⟩:=cnN_bd HBT.out s.r
 rw [hcn]
 have hcp:=num_p C s.r 1 1 16
 have HST:Hid (stServers C s=⟨svR C (cnR C s.r) (cnN C s.r),s.sv++svL C (cnR C s.r) (cnN C s.r),s.ttl,s.sc⟩):=rfl
 have hcp2:(cnR C s.r).p<=s.r.p+1:=hcp.2
 generalize cnN C s.r=n at *
 generalize cnR C s.r=r at *
 clear hcn hcp
 go_wp2_with fail
 go_loopg [3] n (fun q y wr=>∃ (i:Nat) (sv':Value),q+i=n/\y=.int .i64 i/\RM wr base B co cb coff cc C W D av sv' ⟨svR C r i,s.sv++svL C r i,s.ttl,s.sc⟩/\Below base w wr)
 case atStart=>exact ⟨0,sv,by omega,rfl,by simpa [svR,svL] using HM1.out,HB1.out⟩
 case round =>
   obtain ⟨i,sv',hq,rfl,hm,hb⟩:=hrel
   have HM:Hid (RM wr base B co cb coff cc C W D av sv' ⟨svR C r i,s.sv++svL C r i,s.ttl,s.sc⟩):=hm
   have HB:Hid (Below base w wr):=hb
   clear hm hb
   have hpi:=svR_p C r i
   by_cases hlt:i<n
   · have hlt':(i:Int)<(n:Int):=by omega
     go_wp2_with fail
     refine (server_any base B co cb coff cc C W D av sv' _ _ (by simp only;omega) HM.out).mono ?_
     rintro e w2 ⟨rfl,hm2,hv2⟩
     have HM2:Hid (RM w2 base B co cb coff cc C W D av sv' ⟨svR C r (i+1),s.sv++svL C r i,s.ttl,s.sc⟩):=hm2
     have HB2:Hid (Below base w w2):=HB.out.trans (hv2.below HHB.out HM.out.bs)
     have c72:=hm2.c72
     have HL:Hid (s.sv++svL C r (i+1)=(s.sv++svL C r i)++[rdN C (svR C r i) 1]):=by show _=_;simp [svL]
     have hbs2:base<=w2.heap.size:=hm2.bs
     have hll:(s.sv++svL C r i).length<=200000:=by rw [List.length_append,svL_len];omega
     clear hm2 hv2
     simp only
     generalize rdN C (svR C r i) 1=x at *
     generalize s.sv++svL C r i=L at *
     have hA1:Hid (L.length+1<=maxLen):=by show _<=_;unfold maxLen;omega
     have hA2:Hid ((L.length+1)*8<=140737488355328):=by show _<=_;omega
     have hA3:Hid (base<=(w2.alloc (.cells #[.int .i64 x] 3)).heap.size):=by show _<=_;simp;omega
     have hone:Hid (∀ u∈[Value.int .i64 x],u.oneCell'=true):=fun u hu=>by simp at hu;subst hu;rfl
     go_wp2_with (at_builtin;refine wpList_append_lies _ rfl _ _ 25 rfl base 3 i0 _ 1 8 Tryz.underlying25 hi0 hz0 hz1 hz2 rfl (by decide) sv' _ _ rfl (HM2.out.row.alloc _) ⟨w2.heap.size,0,none⟩ 1 1 [.int .i64 x] rfl rfl (World.news_of_block (cs:=#[.int .i64 x]) (t:=3) (fr:=(0,0)) (heap_alloc_new w2 _)) hone.out (Nat.lt_succ_self 0) hA1.out hA2.out hA3.out (w2.heap.size+1) (by simp) ?_;intro g cap w4 hown hgrow hat hlt4;have zz:w4.frozen? ⟨B,72,none⟩=false:=(hgrow.frozen_far ⟨B,72,none⟩ (by have:=HM2.out.lt;simp;omega) (fun e=>HM2.out.ne e.symm)).trans ((HM2.out.alloc _).fz 72);have ccx:w4.cell? ⟨B,72,none⟩=some sv':=(hgrow.cell_far ⟨B,72,none⟩ (by have:=HM2.out.lt;simp;omega) (fun e=>HM2.out.ne e.symm)).trans (HM2.out.alloc _).c72)
     have HM4:=(HM2.out.alloc (.cells #[.int .i64 x] 3)).push (ys:=[x]) (n:=L.length+1) (by simp) hgrow (by simpa using hown)
     have HB4:=(HM2.out.alloc (.cells #[.int .i64 x] 3)).pushB (u:=.slice (some ⟨g,0,none⟩) (L.length+1) cap) (HB2.out.alloc hbs2 _) hgrow
     simp only at HM4
     rw [<- HL.out] at HM4
     clear hown hgrow hat
     go_roundg (gk-1)
     case measure=>omega
     case rel=>exact ⟨i+1,_,by omega,by go_num,HM4,HB4⟩
   · have hin:i=n:=by omega
     subst hin
     have hlt':¬ (i:Int)<(i:Int):=by omega
     go_wp2_with fail
     go_end0
     exact ⟨rfl,⟨sv',by rw [HST.out];exact HM.out⟩,HB.out⟩
end Go.Proofs.YtaebngpoagjafaaGreat
