import Derived.Test.YtaebngpoagjafaaGreatR44
import Derived.Test.YtaebngpoagjafaaGreatR41
import Derived.Test.YtaebngpoagjafaaGreatR43
import Derived.Test.YtaebngpoagjafaaGreatR29
import Derived.Test.YtaebngpoagjafaaGreatR31
import Derived.Test.YtaebngpoagjafaaGreatR33
set_option maxRecDepth 100000
set_option maxHeartbeats 1600000
namespace Go.Proofs.YtaebngpoagjafaaGreat
open Obj renaming cells → U
open Value renaming int → Z, slice → X
open IntKind renaming i64 → O
open Go.RowKit
attribute [local go_sem ↓] Go.wp_at_zero Go.wp_at_succ
theorem zcg (B0:Nat) (Q:World->Prop) (hQ:∀ w w',Q w->Below w.heap.size w w'->Q w') (P:Value) (t a b:ByteArray) (nv:Int) (x:WD) (m:MN) (w:World) (hB0:B0<=w.heap.size) (hs:t.size<=2000) (h:T.ch t 0=116) (h3:3<=t.size) (haa:(spl (t.extract 2 (t.size-1)) 44)[0]?=some a) (hbb:(spl (t.extract 2 (t.size-1)) 44)[1]?=some b) (hd:T.digs a) (hd9:a.size<=9) (hv:T.val a a.size=nv) (hx:Q w)
 (ih:∀ wz,Q wz->Calls Tryz.prog 128 #[P,.string b,x.val] wz (ZY B0 wz m)) :
 Calls Tryz.prog 128 #[P,.string t,x.val] w (ZY B0 w ⟨m.sv,if nv<m.ttl then nv else m.ttl,m.sc⟩):=by
 obtain ⟨h0,hc⟩:=Zm h (by decide)
 have h0':(3:Int)<=(t.size:Int):=by omega
 have h1':(t.size:Int)<=2000:=by omega
 have hsz:(t.extract 2 (t.size-1)).size<=2000:=by rw [yb t _ _ (by omega)];omega
 have IH:Hid _:=ih
 have HQ:Hid _:=hQ
 have HQ0:Hid _:=hx
 have HVAL:Hid (∀ wz,Calls Tryz.prog 164 #[.string a] wz fun e w'=>Below wz.heap.size wz w'/\e=.returned (Z O nv)):=fun wz=>(Zq _ wz (by omega)).mono (by rintro e w' ⟨hb,v,rfl,hvv⟩;exact ⟨hb,by rw [hvv hd hd9,hv]⟩)
 obtain ⟨tl,HTL⟩:∃ tl,Hid ((if nv<m.ttl then nv else m.ttl)=tl):=⟨_,rfl⟩
 rw [HTL.out]
 clear ih hx hQ hd hd9 hv
 unfold WD.val at IH ⊢
 have HB0:Hid (Below w.heap.size w ((w.alloc (U #[Z O x.a,Z O x.b,Z O x.d,X x.do_ x.dl x.dc,X x.ao x.al.length x.ac,X x.po x.pl x.pcp] 30)).alloc (U #[X none 0 0,Z O 0,Z O 0] 35))):=((Below.refl _ _).alloc (Nat.le_refl _) _).alloc (by simp) _
 have HW0:Hid (((w.alloc (U #[Z O x.a,Z O x.b,Z O x.d,X x.do_ x.dl x.dc,X x.ao x.al.length x.ac,X x.po x.pl x.pcp] 30)).alloc (U #[X none 0 0,Z O 0,Z O 0] 35)).heap[w.heap.size]?=some (U #[Z O x.a,Z O x.b,Z O x.d,X x.do_ x.dl x.dc,X x.ao x.al.length x.ac,X x.po x.pl x.pcp] 30 (0,0))):=by show _=_;rw [Below.heap_alloc _ _ _ (by simp)];exact heap_alloc_new w _
 have HR0:Hid (((w.alloc (U #[Z O x.a,Z O x.b,Z O x.d,X x.do_ x.dl x.dc,X x.ao x.al.length x.ac,X x.po x.pl x.pcp] 30)).alloc (U #[X none 0 0,Z O 0,Z O 0] 35)).heap[w.heap.size+1]?=some (U #[X none 0 0,Z O 0,Z O 0] 35 (0,0))):=zt _ (by simp)
 go_enter Tryz.func128,Tryz.ntmps128
 go_wp2_with fail
 refine (yU _ 44 _ hsz).mono ?_
 rintro e w1 ⟨hb1,v,rfl,hrow⟩
 have HB1:Hid _:=HB0.out.trans (hb1.mono HB0.out.size)
 have HW1:Hid _:=(hb1.block _ (lt_of_block HW0.out)).trans HW0.out
 have HR1:Hid _:=(hb1.block _ (lt_of_block HR0.out)).trans HR0.out
 obtain ⟨g,cap,rfl,_,hgl⟩:=z7 hrow (Ze _ _)
 have c0:=ye hrow haa
 have c1:=ye hrow hbb
 have hm1:1<(spl (t.extract 2 (t.size-1)) 44).length:=(List.getElem?_eq_some_iff.1 hbb).1
 have HC0:Hid _:=c0
 clear hb1 hrow haa hbb c0
 generalize (spl (t.extract 2 (t.size-1)) 44).length=n at *
 have hm0:(1:Int)<(n:Int):=by omega
 have hmz:(0:Int)<(n:Int):=by omega
 obtain ⟨q0,q1,q2,q3,q4,q5⟩:=ld6 HW1.out rfl
 have hl1:=lt_of_block HR1.out
 have hneB:w1.heap.size≠w.heap.size:=by omega
 have hneG:w1.heap.size≠g:=by omega
 have HM:Hid (∀ wz,Below w1.heap.size w1 wz->Calls Tryz.prog 128 #[P,.string b,.agg #[Z O x.a,Z O x.b,Z O x.d,X x.do_ x.dl x.dc,X x.ao x.al.length x.ac,X x.po x.pl x.pcp]] wz (ZY B0 wz m)):=fun wz hz=>IH.out wz (HQ.out _ _ HQ0.out (HB1.out.trans (hz.mono HB1.out.size)))
 go_upto_region 13 with fail
 go_cut [9] (fun s9 wx=>∃ B o k gi gf,s9=.pointer (some ⟨B,0,none⟩)/\w1.heap.size<=B/\Below w1.heap.size w1 wx/\wx.heap[B]?=some (U #[X o m.sv.length k,Z O m.ttl,Z O m.sc] 35 (0,0))/\IS wx o gi gf m.sv.length (fun i=>(m.sv[i]?).getD 0)/\(0<m.sv.length->gi<B0\/w1.heap.size<=gi/\gi≠B))
 case first =>
  go_region_held3 (fun w'=>w'.cell? ⟨w.heap.size,0,none⟩=some (Z O x.a)/\w'.cell? ⟨w.heap.size,1,none⟩=some (Z O x.b)/\w'.cell? ⟨w.heap.size,2,none⟩=some (Z O x.d)/\w'.cell? ⟨w.heap.size,3,none⟩=some (X x.do_ x.dl x.dc)/\w'.cell? ⟨w.heap.size,4,none⟩=some (X x.ao x.al.length x.ac)/\w'.cell? ⟨w.heap.size,5,none⟩=some (X x.po x.pl x.pcp)/\w'.cell? ⟨g,1,none⟩=some (.string b)) (first | (exact ⟨q0,q1,q2,q3,q4,q5,c1⟩) | (exact ⟨hS3.1,hS3.2.1,hS3.2.2.1,hS3.2.2.2.1,hS3.2.2.2.2.1,hS3.2.2.2.2.2,hc3⟩) | (exact ⟨zD q0 _,zD q1 _,zD q2 _,zD q3 _,zD q4 _,zD q5 _,zD c1 _⟩) | (exact ⟨zD hS3.1 _,zD hS3.2.1 _,zD hS3.2.2.1 _,zD hS3.2.2.2.1 _,zD hS3.2.2.2.2.1 _,zD hS3.2.2.2.2.2 _,zD hc3 _⟩) | (exact ⟨zA hneB (zA hneB (zA hneB hS3.1 _ _) _ _) _ _,zA hneB (zA hneB (zA hneB hS3.2.1 _ _) _ _) _ _,zA hneB (zA hneB (zA hneB hS3.2.2.1 _ _) _ _) _ _,zA hneB (zA hneB (zA hneB hS3.2.2.2.1 _ _) _ _) _ _,zA hneB (zA hneB (zA hneB hS3.2.2.2.2.1 _ _) _ _) _ _,zA hneB (zA hneB (zA hneB hS3.2.2.2.2.2 _ _) _ _) _ _,zA hneG (zA hneG (zA hneG hc3 _ _) _ _) _ _⟩) | go_keep) (first | (go_at_call 128;refine (HM.out _ (by first | exact (Below.refl _ _).drew | exact Below.refl _ _ | exact ((Below.refl _ _).alloc (Nat.le_refl _) _).drew | exact (Below.refl _ _).alloc (Nat.le_refl _) _)).mono ?_;rintro e w3 ⟨hb3,o,k,gi,gf,rfl,his,hgg⟩;have hd3:Below w1.heap.size w1 w3:=(by first | exact (Below.refl _ _).drew.trans (hb3.mono (Nat.le_refl _)) | exact ((Below.refl _ _).alloc (Nat.le_refl _) _).drew.trans (hb3.mono (by simp)));have hS3:=ld6 HW1.out (hd3.block _ (lt_of_block HW1.out));have hc3:=(hd3.cell (p:=⟨g,1,none⟩) hgl).trans c1;first | (have hZ5:w3.heap[w1.heap.size]?=some (U #[X none 0 0,Z O 0,Z O 0] 35 (0,0)):=(hb3.block w1.heap.size (by simp)).trans (heap_alloc_new w1 _);have HZ5:Hid (w3.heap[w1.heap.size]?=some (U #[X none 0 0,Z O 0,Z O 0] 35 (0,0))):=hZ5;obtain ⟨y0,y1,y2,z0,z1,z2⟩:=ld3 hZ5;clear hZ5) | skip))
  all_goals
   go_wp2_with fail
   go_meet
   first
    | exact ⟨w3.heap.size,o,k,gi,gf,rfl,hd3.size,hd3.alloc hd3.size _,heap_alloc_new _ _,⟨his.at_,fun h=>by have:=his.lt h;simp;omega,fun i hi=>zD (his.val i hi) _⟩,fun h=>by
     rcases hgg h with h1 | h1
     ·exact .inl h1
     ·exact .inr ⟨h1,by have:=his.lt h;omega⟩⟩
    | exact ⟨w1.heap.size,o,k,gi,gf,rfl,Nat.le_refl _,((hd3.setCell (Nat.le_refl _) _).setCell (Nat.le_refl _) _).setCell (Nat.le_refl _) _,yG HZ5.out,⟨his.at_,fun h=>by have:=his.lt h;simpa using this,fun i hi=>by
     have hgn:gi≠w1.heap.size:=by
      have h1:=hgg (by omega)
      simp at h1
      omega
     rw [World.cell?_of_block (w:=w3) (by rw [za hgn,za hgn,za hgn])]
     exact his.val i hi⟩,fun h=>by
     have h1:=hgg h
     simp at h1
     omega⟩
 case rest =>
 obtain ⟨B,o,k,gi,gf,rfl,hBg,hb2,hBX,his,hgg⟩:=hcut
 obtain ⟨w2,hw2⟩:∃ w2,w2=wc:=⟨_,rfl⟩
 subst hw2
 have HB2:Hid _:=hb2
 have HBX:Hid _:=hBX
 have HIS:Hid _:=his
 have HGG:Hid _:=hgg
 have c0:=(HB2.out.cell (p:=⟨g,0,none⟩) hgl).trans HC0.out
 clear hb2 hBX his hgg q0 q1 q2 q3 q4 q5 c1 HM IH
 go_wp2_with fail
 refine (HVAL.out _).mono ?_
 rintro e w4 ⟨hb4,rfl⟩
 have HX4:Hid _:=(hb4.block _ (lt_of_block HBX.out)).trans HBX.out
 have HD4:Hid _:=HB2.out.trans (hb4.mono HB2.out.size)
 have HB4:Hid (Below w.heap.size w w4):=HB1.out.trans (HD4.out.mono HB1.out.size)
 have HR4:Hid (w4.heap[w.heap.size+1]?=some (U #[X none 0 0,Z O 0,Z O 0] 35 (0,0))):=(HD4.out.block _ hl1).trans HR1.out
 have HI4:Hid _:=HIS.out.below hb4 HIS.out.lt
 obtain ⟨y0,y1,y2,z0,z1,z2⟩:=ld3 HX4.out
 obtain ⟨r0,r1,r2,s0,s1,s2⟩:=ld3 HR4.out
 have hne1:¬ B=w.heap.size+1:=by omega
 have hne2:¬ w.heap.size+1=B:=by omega
 clear hb4 c0
 by_cases hnv:nv<m.ttl
 ·have htl:tl=nv:=by rw [<- HTL.out,if_pos hnv]
  subst htl
  go_wp2_with fail
  refine yJ (m:=⟨m.sv,tl,m.sc⟩) (g:=gi) (f:=gf) (HB4.out.setCell (by simp only;omega) _) (by rw [za (by omega)];exact HR4.out) ⟨HI4.out.at_,fun h=>by have:=HI4.out.lt h;simpa [World.setCell] using this,fun i hi=>?_⟩ hB0 (fun h=>?_) rfl
  ·have hgn:gi≠B:=by have:=HGG.out (Nat.lt_of_le_of_lt (Nat.zero_le _) hi);omega
   rw [World.cell?_of_block (w:=w4) (za hgn)]
   exact HI4.out.val i hi
  ·have:=HGG.out h;omega
 ·have htl:tl=m.ttl:=by rw [<- HTL.out,if_neg hnv]
  subst htl
  go_wp2_with fail
  exact yJ (m:=⟨m.sv,m.ttl,m.sc⟩) HB4.out HR4.out HI4.out hB0 (fun h=>by have:=HGG.out h;omega) rfl
theorem zaQ (B0:Nat) (Q:World->Prop) (hQ:∀ w w',Q w->Below w.heap.size w w'->Q w') (P:Value) (t a b:ByteArray) (x:WD) (K:Int) (m:MN) (w:World) (hB0:B0<=w.heap.size) (hs:t.size<=2000) (h:T.ch t 0=119) (h3:3<=t.size) (ha:(spl (t.extract 2 (t.size-1)) 124)[0]?=some a) (hb:(spl (t.extract 2 (t.size-1)) 124)[1]?=some b) (hx:Q w)
 (hp:∀ wz io ic,(∀ i z,(spl a 44)[i]?=some z->wz.cell? ⟨io,i,none⟩=some (.string z))->io<wz.heap.size->Q wz->Calls Tryz.prog 166 #[.agg #[Z O x.a,Z O x.b,Z O x.d,X x.do_ x.dl x.dc,X x.ao x.al.length x.ac,X x.po x.pl x.pcp],X (some ⟨io,0,none⟩) (spl a 44).length ic] wz fun e w'=>Below wz.heap.size wz w'/\e=.returned (Z O K))
 (ih:K<0->∀ wz,Q wz->Calls Tryz.prog 128 #[P,.string b,x.val] wz (ZY B0 wz m)) (hm:0<=K->m=⟨[K],86400,0⟩) :
 Calls Tryz.prog 128 #[P,.string t,x.val] w (ZY B0 w m):=by
 obtain ⟨h0,hc⟩:=Zm h (by decide)
 have h0':(3:Int)<=(t.size:Int):=by omega
 have h1':(t.size:Int)<=2000:=by omega
 have HPT:Hid (∀ wz,Calls Tryz.prog 97 #[.string t] wz fun e w'=>Below wz.heap.size wz w'/\∃ v,e=.returned (.tuple #[v,.string b])/\w'.ownsRow wz.heap.size 9 1 v (spl a 44).length ((spl a 44).map Value.string)):=fun wz=>Z0 t a b wz hs h3 ha hb
 have IH:Hid _:=ih
 have HQ:Hid _:=hQ
 have HQ0:Hid _:=hx
 have HPL:Hid _:=hp
 have HM:Hid _:=hm
 have HLL:Hid (0<(spl a 44).length):=Ze _ _
 clear hp ih ha hb hx hQ hm
 generalize spl a 44=L at *
 unfold WD.val at IH ⊢
 have HB0:Hid (Below w.heap.size w ((w.alloc (U #[Z O x.a,Z O x.b,Z O x.d,X x.do_ x.dl x.dc,X x.ao x.al.length x.ac,X x.po x.pl x.pcp] 30)).alloc (U #[X none 0 0,Z O 0,Z O 0] 35))):=((Below.refl _ _).alloc (Nat.le_refl _) _).alloc (by simp) _
 have HW0:Hid (((w.alloc (U #[Z O x.a,Z O x.b,Z O x.d,X x.do_ x.dl x.dc,X x.ao x.al.length x.ac,X x.po x.pl x.pcp] 30)).alloc (U #[X none 0 0,Z O 0,Z O 0] 35)).heap[w.heap.size]?=some (U #[Z O x.a,Z O x.b,Z O x.d,X x.do_ x.dl x.dc,X x.ao x.al.length x.ac,X x.po x.pl x.pcp] 30 (0,0))):=by show _=_;rw [Below.heap_alloc _ _ _ (by simp)];exact heap_alloc_new w _
 have HR0:Hid (((w.alloc (U #[Z O x.a,Z O x.b,Z O x.d,X x.do_ x.dl x.dc,X x.ao x.al.length x.ac,X x.po x.pl x.pcp] 30)).alloc (U #[X none 0 0,Z O 0,Z O 0] 35)).heap[w.heap.size+1]?=some (U #[X none 0 0,Z O 0,Z O 0] 35 (0,0))):=zt _ (by simp)
 go_enter Tryz.func128,Tryz.ntmps128
 go_wp2_with fail
 refine (HPT.out _).mono ?_
 rintro e w1 ⟨hb1,v,rfl,hrow⟩
 have HB1:Hid _:=HB0.out.trans (hb1.mono HB0.out.size)
 have HW1:Hid _:=(hb1.block _ (lt_of_block HW0.out)).trans HW0.out
 have HR1:Hid _:=(hb1.block _ (lt_of_block HR0.out)).trans HR0.out
 obtain ⟨g,cap,rfl,_,hgl⟩:=z7 hrow HLL.out
 have HCB:=HPL.out w1 g cap (fun i z hz=>ye hrow hz) hgl (HQ.out _ _ HQ0.out HB1.out)
 obtain ⟨q0,q1,q2,q3,q4,q5⟩:=ld6 HW1.out rfl
 clear hb1 hrow
 generalize L.length=n at *
 go_wp2_with fail
 refine HCB.mono ?_
 rintro e w2 ⟨hb2,rfl⟩
 have HB2:Hid _:=HB1.out.trans (hb2.mono HB1.out.size)
 have HW2:Hid _:=(hb2.block _ (lt_of_block HW1.out)).trans HW1.out
 have HR2:Hid _:=(hb2.block _ (lt_of_block HR1.out)).trans HR1.out
 clear hb2 HCB q0 q1 q2 q3 q4 q5
 by_cases hk:K<0
 ·obtain ⟨q0,q1,q2,q3,q4,q5⟩:=ld6 HW2.out rfl
  go_wp2_with fail
  refine (IH.out hk _ (HQ.out _ _ HQ0.out HB2.out)).mono ?_
  rintro e w3 ⟨hb3,o,k,gi,gf,rfl,his,hgg⟩
  have HB3:Hid _:=HB2.out.trans (hb3.mono HB2.out.size)
  have HR3:Hid _:=(hb3.block _ (lt_of_block HR2.out)).trans HR2.out
  have HIS:Hid _:=his
  have HGN:Hid (0<m.sv.length->gi<B0\/w.heap.size+2<=gi):=fun h0=>by
   have h1:=hgg h0
   have h2:=lt_of_block HR2.out
   omega
  clear hb3 his hgg q0 q1 q2 q3 q4 q5
  obtain ⟨y0,y1,y2,z0,z1,z2⟩:=ld3 HR3.out
  go_wp2_with fail
  exact yJ (k:=k) (m:=m) HB3.out HR3.out HIS.out hB0 HGN.out rfl
 ·obtain rfl:=HM.out (by omega)
  go_wp2_with fail
  refine (QG K _).mono ?_
  rintro e w3 ⟨hb3,gi,rfl,hgi,hcell⟩
  have HB3:Hid _:=HB2.out.trans (hb3.mono HB2.out.size)
  have HR3:Hid _:=(hb3.block _ (lt_of_block HR2.out)).trans HR2.out
  have HIS:Hid (IS w3 (some ⟨gi,0,none⟩) gi 0 ([K]:List Int).length (fun i=>(([K]:List Int)[i]?).getD 0)):=⟨fun _=>rfl,fun _=>yB hcell,fun i hi=>by
   obtain rfl:i=0:=by simp at hi;omega
   simpa using hcell⟩
  have HGN:Hid (0<([K]:List Int).length->gi<B0\/w.heap.size+2<=gi):=fun _=>.inr (by
   have h2:=lt_of_block HR2.out
   omega)
  clear hb3 hgi hcell
  obtain ⟨y0,y1,y2,z0,z1,z2⟩:=ld3 HR3.out
  go_wp2_with fail
  exact yJ (o:=some ⟨gi,0,none⟩) (k:=1) (m:=⟨[K],86400,0⟩) HB3.out HR3.out HIS.out hB0 HGN.out rfl
theorem Js (B0:Nat) (Q:World->Prop) (hQ:∀ w w',Q w->Below w.heap.size w w'->Q w') (P:Value) (t a b:ByteArray) (x:WD) (K:Int) (m:MN) (w:World) (hB0:B0<=w.heap.size) (hs:t.size<=2000) (h:T.ch t 0=102) (h3:3<=t.size) (ha:(spl (t.extract 2 (t.size-1)) 124)[0]?=some a) (hb:(spl (t.extract 2 (t.size-1)) 124)[1]?=some b) (hx:Q w)
 (hp:∀ wz io ic,(∀ i z,(spl a 44)[i]?=some z->wz.cell? ⟨io,i,none⟩=some (.string z))->io<wz.heap.size->Q wz->Calls Tryz.prog 167 #[.agg #[Z O x.a,Z O x.b,Z O x.d,X x.do_ x.dl x.dc,X x.ao x.al.length x.ac,X x.po x.pl x.pcp],X (some ⟨io,0,none⟩) (spl a 44).length ic] wz fun e w'=>Below wz.heap.size wz w'/\e=.returned (Z O K))
 (ih:K<0->∀ wz,Q wz->Calls Tryz.prog 128 #[P,.string b,x.val] wz (ZY B0 wz m)) (hm:0<=K->m=⟨[K],86400,0⟩) :
 Calls Tryz.prog 128 #[P,.string t,x.val] w (ZY B0 w m):=by
 obtain ⟨h0,hc⟩:=Zm h (by decide)
 have h0':(3:Int)<=(t.size:Int):=by omega
 have h1':(t.size:Int)<=2000:=by omega
 have HPT:Hid (∀ wz,Calls Tryz.prog 97 #[.string t] wz fun e w'=>Below wz.heap.size wz w'/\∃ v,e=.returned (.tuple #[v,.string b])/\w'.ownsRow wz.heap.size 9 1 v (spl a 44).length ((spl a 44).map Value.string)):=fun wz=>Z0 t a b wz hs h3 ha hb
 have IH:Hid _:=ih
 have HQ:Hid _:=hQ
 have HQ0:Hid _:=hx
 have HPL:Hid _:=hp
 have HM:Hid _:=hm
 have HLL:Hid (0<(spl a 44).length):=Ze _ _
 clear hp ih ha hb hx hQ hm
 generalize spl a 44=L at *
 unfold WD.val at IH ⊢
 have HB0:Hid (Below w.heap.size w ((w.alloc (U #[Z O x.a,Z O x.b,Z O x.d,X x.do_ x.dl x.dc,X x.ao x.al.length x.ac,X x.po x.pl x.pcp] 30)).alloc (U #[X none 0 0,Z O 0,Z O 0] 35))):=((Below.refl _ _).alloc (Nat.le_refl _) _).alloc (by simp) _
 have HW0:Hid (((w.alloc (U #[Z O x.a,Z O x.b,Z O x.d,X x.do_ x.dl x.dc,X x.ao x.al.length x.ac,X x.po x.pl x.pcp] 30)).alloc (U #[X none 0 0,Z O 0,Z O 0] 35)).heap[w.heap.size]?=some (U #[Z O x.a,Z O x.b,Z O x.d,X x.do_ x.dl x.dc,X x.ao x.al.length x.ac,X x.po x.pl x.pcp] 30 (0,0))):=by show _=_;rw [Below.heap_alloc _ _ _ (by simp)];exact heap_alloc_new w _
 have HR0:Hid (((w.alloc (U #[Z O x.a,Z O x.b,Z O x.d,X x.do_ x.dl x.dc,X x.ao x.al.length x.ac,X x.po x.pl x.pcp] 30)).alloc (U #[X none 0 0,Z O 0,Z O 0] 35)).heap[w.heap.size+1]?=some (U #[X none 0 0,Z O 0,Z O 0] 35 (0,0))):=zt _ (by simp)
 go_enter Tryz.func128,Tryz.ntmps128
 go_wp2_with fail
 refine (HPT.out _).mono ?_
 rintro e w1 ⟨hb1,v,rfl,hrow⟩
 have HB1:Hid _:=HB0.out.trans (hb1.mono HB0.out.size)
 have HW1:Hid _:=(hb1.block _ (lt_of_block HW0.out)).trans HW0.out
 have HR1:Hid _:=(hb1.block _ (lt_of_block HR0.out)).trans HR0.out
 obtain ⟨g,cap,rfl,_,hgl⟩:=z7 hrow HLL.out
 have HCB:=HPL.out w1 g cap (fun i z hz=>ye hrow hz) hgl (HQ.out _ _ HQ0.out HB1.out)
 obtain ⟨q0,q1,q2,q3,q4,q5⟩:=ld6 HW1.out rfl
 clear hb1 hrow
 generalize L.length=n at *
 go_wp2_with fail
 refine HCB.mono ?_
 rintro e w2 ⟨hb2,rfl⟩
 have HB2:Hid _:=HB1.out.trans (hb2.mono HB1.out.size)
 have HW2:Hid _:=(hb2.block _ (lt_of_block HW1.out)).trans HW1.out
 have HR2:Hid _:=(hb2.block _ (lt_of_block HR1.out)).trans HR1.out
 clear hb2 HCB q0 q1 q2 q3 q4 q5
 by_cases hk:K<0
 ·obtain ⟨q0,q1,q2,q3,q4,q5⟩:=ld6 HW2.out rfl
  go_wp2_with fail
  refine (IH.out hk _ (HQ.out _ _ HQ0.out HB2.out)).mono ?_
  rintro e w3 ⟨hb3,o,k,gi,gf,rfl,his,hgg⟩
  have HB3:Hid _:=HB2.out.trans (hb3.mono HB2.out.size)
  have HR3:Hid _:=(hb3.block _ (lt_of_block HR2.out)).trans HR2.out
  have HIS:Hid _:=his
  have HGN:Hid (0<m.sv.length->gi<B0\/w.heap.size+2<=gi):=fun h0=>by
   have h1:=hgg h0
   have h2:=lt_of_block HR2.out
   omega
  clear hb3 his hgg q0 q1 q2 q3 q4 q5
  obtain ⟨y0,y1,y2,z0,z1,z2⟩:=ld3 HR3.out
  go_wp2_with fail
  exact yJ (k:=k) (m:=m) HB3.out HR3.out HIS.out hB0 HGN.out rfl
 ·obtain rfl:=HM.out (by omega)
  go_wp2_with fail
  refine (QG K _).mono ?_
  rintro e w3 ⟨hb3,gi,rfl,hgi,hcell⟩
  have HB3:Hid _:=HB2.out.trans (hb3.mono HB2.out.size)
  have HR3:Hid _:=(hb3.block _ (lt_of_block HR2.out)).trans HR2.out
  have HIS:Hid (IS w3 (some ⟨gi,0,none⟩) gi 0 ([K]:List Int).length (fun i=>(([K]:List Int)[i]?).getD 0)):=⟨fun _=>rfl,fun _=>yB hcell,fun i hi=>by
   obtain rfl:i=0:=by simp at hi;omega
   simpa using hcell⟩
  have HGN:Hid (0<([K]:List Int).length->gi<B0\/w.heap.size+2<=gi):=fun _=>.inr (by
   have h2:=lt_of_block HR2.out
   omega)
  clear hb3 hgi hcell
  obtain ⟨y0,y1,y2,z0,z1,z2⟩:=ld3 HR3.out
  go_wp2_with fail
  exact yJ (o:=some ⟨gi,0,none⟩) (k:=1) (m:=⟨[K],86400,0⟩) HB3.out HR3.out HIS.out hB0 HGN.out rfl
theorem zej (x:WD) {s:Int} (h0:0<=s) (h1:s<=63):upW x.rw s=ZR x.Dn s x.dl:=by
 have e:(s.toNat:Int)=s:=Int.toNat_of_nonneg h0
 have e1:x.rw.dn s.toNat=!ZR x.Dn s x.dl:=by
  show (!ZR x.Dn (s.toNat:Int) x.dl)=_
  rw [e]
 unfold upW
 rw [e1,decide_eq_true h0,decide_eq_true (show s<64 from by omega)]
 simp
theorem zdZ {D:Nat->Int} {dn:Nat} {V:Nat->Int} {l:List IM} (hV:∀ i it,l[i]?=some it->V i=it.num/\0<=it.num):∀ n,n<=l.length->XV D dn V n=(((l.take n).find? (fun it=>ZR D it.num dn)).map IM.num).getD (-1):=by
 intro n
 induction n with
 | zero=>intro _;simp [XV]
 | succ n ih =>
  intro hn
  have hg:l[n]?=some l[n]:=List.getElem?_eq_getElem (by omega)
  obtain ⟨hv,h0⟩:=hV n _ hg
  rw [List.take_add_one,hg,List.find?_append]
  simp only [XV,ih (by omega)]
  cases hf:(l.take n).find? (fun it=>ZR D it.num dn) with
  | some y =>
   have hy:y∈l:=List.mem_of_mem_take (List.mem_of_find?_eq_some hf)
   obtain ⟨i,hi⟩:=List.getElem?_of_mem hy
   have:=(hV i y hi).2
   simp [this]
  | none =>
   simp only [Option.map_none,Option.getD_none,Option.none_or,Option.toList_some]
   rw [if_neg (by decide),hv]
   by_cases hu:ZR D l[n].num dn=true
   ·simp [List.find?,hu]
   ·simp [List.find?,hu]
theorem za4 {p q:IM->Bool}:∀ (l:List IM),(∀ x∈l,p x=q x)->l.find? p=l.find? q:=by
 intro l
 induction l with
 | nil=>intro _;rfl
 | cons x l ih=>intro h;rw [List.find?_cons,List.find?_cons,h x (by simp),ih (fun y hy=>h y (by simp [hy]))]
theorem zcF (x:WD) {V:Nat->Int} {l:List IM} (hl:∀ it∈l,0<=it.num/\it.num<=63) (hV:∀ i it,l[i]?=some it->V i=it.num):XV x.Dn x.dl V l.length=(Zl x.rw l).getD (-1):=by
 rw [zdZ (l:=l) (fun i it h=>⟨hV i it h,(hl it (List.mem_of_getElem? h)).1⟩) _ (Nat.le_refl _),List.take_length]
 unfold Zl
 rw [za4 l (fun it h=>zej x (hl it h).1 (hl it h).2)]
theorem zbm {W:RW} {l:List IM} (hl:∀ it∈l,0<=it.num) {k:Int} (h:Zl W l=some k):0<=k:=by
 unfold Zl at h
 cases hf:l.find? (fun x=>upW W x.num) with
 | none=>rw [hf] at h;cases h
 | some y=>rw [hf] at h;simp at h;subst h;exact hl y (List.mem_of_find?_eq_some hf)
def flW (mb:List (Int×Int)):List Int:=mb.flatMap (fun p=>List.replicate p.2.toNat p.1)
theorem zeP:∀ (mb:List (Int×Int)),(∀ p∈mb,1<=p.2)->((flW mb).length:Int)=suL mb/\∀ r,0<=r->pkL mb r=(flW mb)[r.toNat]?:=by
 intro mb
 induction mb with
 | nil=>intro _;exact ⟨rfl,fun r _=>by simp [pkL,flW]⟩
 | cons x l ih =>
  intro h
  have hx:=h x (by simp)
  obtain ⟨h1,h2⟩:=ih (fun p hp=>h p (by simp [hp]))
  have e:flW (x::l)=List.replicate x.2.toNat x.1++flW l:=by simp [flW]
  rw [e]
  refine ⟨by simp only [suL,List.length_append,List.length_replicate];omega,fun r hr=>?_⟩
  simp only [pkL]
  split
  ·rw [List.getElem?_append_left (by simp;omega),List.getElem?_replicate,if_pos (by omega)]
  ·rw [h2 _ (by omega),List.getElem?_append_right (by simp;omega),List.length_replicate]
   congr 1
   omega
theorem zeA {D:Nat->Int} {dn:Nat} {S:Nat->Int} {W:Nat->Nat} {l:List IM} (hS:∀ i it,l[i]?=some it->S i=it.num/\(W i:Int)=it.wv):∀ n,n<=l.length->slT D dn S W n=flW (((l.take n).filter (fun it=>ZR D it.num dn)).map (fun it=>(it.num,it.wv))):=by
 intro n
 induction n with
 | zero=>intro _;simp [slT,flW]
 | succ n ih =>
  intro hn
  have hg:l[n]?=some l[n]:=List.getElem?_eq_getElem (by omega)
  obtain ⟨hs,hw⟩:=hS n _ hg
  have hw':W n=l[n].wv.toNat:=by omega
  rw [List.take_add_one,hg]
  simp only [slT,ih (by omega),List.filter_append,List.map_append,Option.toList_some,flW,List.flatMap_append]
  by_cases hu:ZR D l[n].num dn=true
  ·simp [hs,hu,hw']
  ·simp [hs,hu]
theorem zdA (x:WD) {S:Nat->Int} {W:Nat->Nat} {l:List IM} (hl:∀ it∈l,0<=it.num/\it.num<=63/\1<=it.wv) (hS:∀ i it,l[i]?=some it->S i=it.num/\(W i:Int)=it.wv):jz (slT x.Dn x.dl S W l.length) x.d=(Yq x.rw l).getD (-1)/\∀ k,Yq x.rw l=some k->0<=k:=by
 have hF:slT x.Dn x.dl S W l.length=flW (mbL x.rw l):=by
  rw [zeA hS _ (Nat.le_refl _),List.take_length]
  unfold mbL
  rw [List.filter_congr (fun it h=>zej x (hl it h).1 (hl it h).2.1)]
 have hw:∀ p∈mbL x.rw l,1<=p.2/\0<=p.1:=fun p hp=>by
  simp only [mbL,List.mem_map,List.mem_filter] at hp
  obtain ⟨it,⟨h1,_⟩,rfl⟩:=hp
  exact ⟨(hl it h1).2.2,(hl it h1).1⟩
 obtain ⟨h1,h2⟩:=zeP (mbL x.rw l) (fun p hp=>(hw p hp).1)
 have hnn:∀ k∈flW (mbL x.rw l),0<=k:=fun k hk=>by
  simp only [flW,List.mem_flatMap,List.mem_replicate] at hk
  obtain ⟨p,hp,_,rfl⟩:=hk
  exact (hw p hp).2
 rw [hF]
 unfold Yq jz
 have hd:x.rw.draw=x.d:=rfl
 rw [hd]
 by_cases h0:suL (mbL x.rw l)<=0
 ·rw [if_pos h0,if_pos (List.eq_nil_of_length_eq_zero (by omega))]
  exact ⟨rfl,fun k h=>by cases h⟩
 ·have hne:flW (mbL x.rw l)≠[]:=fun h=>by rw [h] at h1;simp at h1;omega
  rw [if_neg h0,if_neg hne,h2 _ (Int.emod_nonneg _ (by omega)),h1]
  have hlt:(x.d%suL (mbL x.rw l)).toNat<(flW (mbL x.rw l)).length:=by
   have:=Int.emod_lt_of_pos x.d (show 0<suL (mbL x.rw l) from by omega)
   have:=Int.emod_nonneg x.d (show suL (mbL x.rw l)≠0 from by omega)
   omega
  rw [List.getElem?_eq_getElem hlt]
  exact ⟨rfl,fun k h=>by simp at h;subst h;exact hnn _ (List.getElem_mem hlt)⟩
theorem zaT {V:Nat->Int} {l:List IM} (hV:∀ i it,l[i]?=some it->V i=it.num):knK V l.length=l.map IM.num:=by
 apply List.ext_getElem?
 intro i
 by_cases hi:i<l.length
 ·have hg:l[i]?=some l[i]:=List.getElem?_eq_getElem hi
  rw [Q5 V hi,List.getElem?_map,hg,hV i _ hg]
  rfl
 ·rw [List.getElem?_eq_none (by rw [YI];omega),List.getElem?_eq_none (by simp;omega)]
theorem zdv {ks ar:Nat->List Int} {its:List IM} {r:Int} {o:List Int} (hk:∀ i it,its[i]?=some it->Y9 (ks i) it.num):∀ (n i:Nat),i+n=its.length ->
 ((its.drop i).find? (fun x=>x.num==r)=none/\Xi (fun i=>strOfNums (ks i)) r (strOfNums o) i ((List.range n).map (fun k=>strOfNums (ks (i+k)++[58]++ar (i+k))))=strOfNums o)\/∃ k it,its[k]?=some it/\(its.drop i).find? (fun x=>x.num==r)=some it/\Xi (fun i=>strOfNums (ks i)) r (strOfNums o) i ((List.range n).map (fun k=>strOfNums (ks (i+k)++[58]++ar (i+k))))=strOfNums (ar k):=by
 intro n
 induction n with
 | zero=>intro i h;rw [List.drop_eq_nil_of_le (by omega)];exact .inl ⟨rfl,rfl⟩
 | succ n ih =>
  intro i h
  have hg:its[i]?=some its[i]:=List.getElem?_eq_getElem (by omega)
  have ht:=(hk i _ hg).digs
  rw [List.range_succ_eq_map,List.map_cons,List.map_map,List.drop_eq_getElem_cons (by omega),List.find?_cons]
  simp only [Xi]
  rw [ht.2.2]
  by_cases hr:its[i].num=r
  ·refine .inr ⟨i,its[i],hg,by simp [hr],?_⟩
   rw [if_pos hr]
   have he:=xl (ks i++[58]) (ar i)
   rw [Nat.add_zero,show (strOfNums (ks i)).size+1=(ks i++[58]).length from by rw [strOfNums_size];simp,he]
  ·have hr':(its[i].num==r)=false:=by simpa using hr
   rw [if_neg hr,hr',show ((fun k=>strOfNums (ks (i+k)++[58]++ar (i+k))) ∘ Nat.succ)=fun k=>strOfNums (ks (i+1+k)++[58]++ar (i+1+k)) from by
    funext k;simp only [Function.comp];rw [show i+Nat.succ k=i+1+k from by omega]]
   exact ih (i+1) (by omega)
theorem Yh {c:Int}:∀ (l:List (List Int)) (x:List Int),x∈l->x.length<=(joi c l).length:=by
 intro l
 induction l with
 | nil=>intro x h;simp at h
 | cons y r ih =>
  intro x h
  cases r with
  | nil=>simp at h;subst h;simp [joi]
  | cons z r =>
   simp only [joi,List.length_append]
   rcases List.mem_cons.1 h with rfl | h
   ·omega
   ·have:=ih x h;omega
theorem xi {c:Int} (hc:0<=c/\c<256) {a b:List Int} (ha:Byt a) (hb:Byt b):Byt (joi c [a,b]):=Byt.joi hc _ (fun z hz=>by
 simp at hz;rcases hz with rfl | rfl
 ·exact ha
 ·exact hb)
theorem Q7 {c:Int} (hc:0<=c/\c<256) {J:List Int} (hJ:Byt J):T.ch (strOfNums ([c]++([40]++J++[41]))) 0=c/\3<=(strOfNums ([c]++([40]++J++[41]))).size/\(strOfNums ([c]++([40]++J++[41]))).extract 2 ((strOfNums ([c]++([40]++J++[41]))).size-1)=strOfNums J:=by
 have hb:Byt ([c]++([40]++J++[41])):=(Byt.one hc).app (((Byt.one (by decide)).app hJ).app (Byt.one (by decide)))
 have e0:[c]++([40]++J++[41])=[c,40]++J++[(41:Int)]:=by simp
 refine ⟨by rw [yt hb];simp,by rw [strOfNums_size];simp,?_⟩
 rw [e0]
 exact YD [c,40] J [41]
theorem zaj {J o:List Int} (hJ:ZS J) (hJb:Byt J) (ho:Nsp 0 o) (hob:Byt o):spl (strOfNums (joi 124 [J,o])) 124=[strOfNums J,strOfNums o]:=by
 rw [Zu (xi (by decide) hJb hob)]
 simp only [joi]
 rw [List.append_assoc,hJ [] _]
 simp only [List.nil_append,List.singleton_append,yj]
 rw [if_neg (by decide),if_neg (by decide),if_pos ⟨trivial,trivial⟩]
 have:=ho 124 (.inr (.inl rfl)) 0 (Int.le_refl _) [] []
 rw [List.append_nil] at this
 rw [this]
 simp [yj]
theorem zbh {x o:List Int} (hx:Pln x) (ho:Nsp 0 o) (hob:Byt o):spl (strOfNums (joi 44 [x,o])) 44=[strOfNums x,strOfNums o]:=by
 rw [YZ (c:=44) (.inl rfl) (l:=[x,o]) (by simp) (fun z hz=>by
  simp at hz;rcases hz with rfl | rfl
  ·exact Nsp.pln hx
  ·exact ho) (xi (by decide) hx.byt hob)]
 rfl
theorem zbi {x o:List Int} (hx:Pln x) (ho:Nsp 0 o) (hob:Byt o):(spl (strOfNums (x++[58]++o)) 58)[0]?=some (strOfNums x):=by
 have:=YZ (c:=58) (.inr (.inr (.inl rfl))) (l:=[x,o]) (by simp) (fun z hz=>by
  simp at hz;rcases hz with rfl | rfl
  ·exact Nsp.pln hx
  ·exact ho) (xi (by decide) hx.byt hob)
 simp only [joi] at this
 rw [this]
 rfl
theorem zcZ {m:Nat} (hm:0<m) {ks ar:Nat->List Int} (hk:∀ i,i<m->Pln (ks i)) (ha:∀ i,i<m->Nsp 0 (ar i)) (hab:∀ i,i<m->Byt (ar i)):Byt (joi 44 ((List.range m).map (fun i=>ks i++[58]++ar i)))/\ZS (joi 44 ((List.range m).map (fun i=>ks i++[58]++ar i)))/\spl (strOfNums (joi 44 ((List.range m).map (fun i=>ks i++[58]++ar i)))) 44=(List.range m).map (fun i=>strOfNums (ks i++[58]++ar i)):=by
 have hne:List.range m≠[]:=by intro h;have:=congrArg List.length h;simp at this;omega
 have hbl:Byt (joi 44 ((List.range m).map (fun i=>ks i++[58]++ar i))):=Byt.joi (by decide) _ (fun x h=>by
  simp only [List.mem_map,List.mem_range] at h
  obtain ⟨i,hi,rfl⟩:=h
  exact ((hk i hi).byt.app (Byt.one (c:=58) (by decide))).app (hab i hi))
 refine ⟨hbl,Y2 _ (fun x h=>?_),?_⟩
 ·simp only [List.mem_map,List.mem_range] at h
  obtain ⟨i,hi,rfl⟩:=h
  exact ZD (ZD (Yt (Nsp.pln (hk i hi))) (xU (by decide))) (Yt (ha i hi))
 ·rw [Zu hbl,qD hk ha (List.range m) hne (fun i hi=>List.mem_range.1 hi),List.map_map]
  rfl
end Go.Proofs.YtaebngpoagjafaaGreat
