import Derived.Test.YtaebngpoagjafaaGreatR36
import Derived.Test.YtaebngpoagjafaaGreatR10
import Derived.Test.YtaebngpoagjafaaGreatR18
import Derived.Deep.DeepCutAuto
import Derived.Deep.RegionHeld3
set_option maxRecDepth 100000
set_option maxHeartbeats 3200000
namespace Go.Proofs.YtaebngpoagjafaaGreat
open Obj renaming cells → Q
open Value renaming int → J, slice → O
open IntKind renaming i64 → Z
open Go.RowKit
attribute [local go_sem ↓] Go.wp_at_zero Go.wp_at_succ
theorem ZW {w:World} {B j:Nat} {cs:Array Value} {t:TypeId} {fr:Nat×Nat} {u:Value} (h:w.heap[B]?=some (Q cs t fr)):(w.setCell ⟨B,j,none⟩ u).heap[B]?=some (Q (cs.setIfInBounds j u) t fr):=by
 simp [World.setCell,Array.getElem?_modify,h]
theorem JP {w:World} {g:Nat} {a b c d e f a' b' c' d' e' f':Value} {t:TypeId} (h:w.heap[g]?=some (Q #[a,b,c,d,e,f] t (0,0))):((((((w.setCell ⟨g,0,none⟩ a').setCell ⟨g,1,none⟩ b').setCell ⟨g,2,none⟩ c').setCell ⟨g,3,none⟩ d').setCell ⟨g,4,none⟩ e').setCell ⟨g,5,none⟩ f').heap[g]?=some (Q #[a',b',c',d',e',f'] t (0,0)) :=
 ZW (ZW (ZW (ZW (ZW (ZW h)))))
theorem Z7 {w:World} {B:Nat} {cs:Array Value} {t:TypeId} (h:w.heap[B]?=some (Q cs t (0,0))) (j:Nat):w.frozen? ⟨B,j,none⟩=false:=by simp [World.frozen?,h]
structure LnW (B T:Nat) (w:World) (x:WD) (vd va vp vm:Value) (s1 s2:Nat):Prop where
 b1:B<=s1
 b2:s1<=s2
 b3:s2<=T
 d:LnI B w x.do_ vd x.dl x.Dn
 dl:∀ g,vd.ownBlock=some g->g<s1
 p:LnP s1 w x.po vp x.pl x.V x.L x.R
 pl:∀ g,vp.ownBlock=some g->g<s2
 a:xe s2 T w x.ao x.ab x.aoff x.al va vm
theorem LnW.below {B T:Nat} {w w':World} {x:WD} {vd va vp vm:Value} {s1 s2:Nat} (h:LnW B T w x vd va vp vm s1 s2) (hab:0<x.al.length->x.ab<w.heap.size) (hb:Below w.heap.size w w'):LnW B T w' x vd va vp vm s1 s2:=⟨h.b1,h.b2,h.b3,h.d.below hb,h.dl,h.p.below hb,h.pl,h.a.below hab hb⟩
theorem LnI.put {B q j:Nat} {u:Value} {w:World} {o:Option Addr} {v:Value} {n:Nat} {D:Nat->Int} (h:LnI B w o v n D) (hq:q<B):LnI B (w.setCell ⟨q,j,none⟩ u) o v n D:=h.keep (fun g hg=>za (by have:=(h.lt hg).1;omega))
theorem LnP.put {B q j:Nat} {u:Value} {w:World} {o:Option Addr} {v:Value} {n:Nat} {V L R:Nat->Int} (h:LnP B w o v n V L R) (hq:q<B):LnP B (w.setCell ⟨q,j,none⟩ u) o v n V L R:=h.keep (fun g hg=>za (by have:=(h.lt hg).1;omega))
theorem xe.put {B T q j:Nat} {u:Value} {w:World} {ao:Option Addr} {ab aoff:Nat} {al:List (List Int)} {va vm:Value} (h:xe B T w ao ab aoff al va vm) (hq:q<B) (hab:0<al.length->ab≠q):xe B T (w.setCell ⟨q,j,none⟩ u) ao ab aoff al va vm:=by
 rcases h with h | ⟨ad,ga,gm,fa,fm,S,h1,h2,h3,h4,h5,h6,h7,h8,h9,h10⟩
 ·exact .inl h
 ·have:=h9.lo.1
  exact .inr ⟨ad,ga,gm,fa,fm,S,h1,h2,h3,h4,h5,h6,h7.of_block (za (by omega)),h8.of_block (za (by omega)),h9.keep (Nat.le_refl _) (by simp [World.setCell]) (fun h0=>za (hab h0)) (fun b hb _=>za (by omega)),h10⟩
theorem LnI.mono {B B':Nat} {w:World} {o:Option Addr} {v:Value} {n:Nat} {D:Nat->Int} (h:LnI B w o v n D) (hB:B'<=B):LnI B' w o v n D:=by
 rcases h with h | ⟨ad,g,f,h1,h2,h3,h4,h5⟩
 ·exact .inl h
 ·exact .inr ⟨ad,g,f,h1,h2,by omega,h4,h5⟩
def zee (x:WD) (w:World) (e:Ending) (w':World):Prop:=(∃ vd va vp vm s1 s2,e=.returned (.tuple #[.agg #[J Z x.a,J Z x.b,J Z x.d,vd,va,vp],vm])/\LnW w.heap.size w'.heap.size w' x vd va vp vm s1 s2)/\Below w.heap.size w w'
theorem Qs {x:WD} {w w4:World} {tm:Array Value} {od op:Option Addr} {cd cp:Nat} {va vm:Value} {s1 s2:Nat} (hab:0<x.al.length->x.ab<w.heap.size) (hB:Below w.heap.size w w4) (hR:w4.heap[w.heap.size+1]?=some (Q #[J Z 0,J Z 0,J Z 0,O none 0 0,O none 0 0,O none 0 0] 30 (0,0))) (hL:LnW (w.heap.size+2) w4.heap.size w4 x (O od x.dl cd) va (O op x.pl cp) vm s1 s2) (h2:tm.getD 2 undef=.pointer (some ⟨w.heap.size+1,0,none⟩)) (h3:tm.getD 3 undef=vm) :
 bodyPost Tryz.prog Tryz.f72 (zee x w) .ret ⟨tm,[]⟩ ((((((w4.setCell ⟨w.heap.size+1,0,none⟩ (J Z x.a)).setCell ⟨w.heap.size+1,1,none⟩ (J Z x.b)).setCell ⟨w.heap.size+1,2,none⟩ (J Z x.d)).setCell ⟨w.heap.size+1,3,none⟩ (O od x.dl cd)).setCell ⟨w.heap.size+1,4,none⟩ va).setCell ⟨w.heap.size+1,5,none⟩ (O op x.pl cp)):=by
 have HBE:=JP (a':=J Z x.a) (b':=J Z x.b) (c':=J Z x.d) (d':=O od x.dl cd) (e':=va) (f':=O op x.pl cp) hR
 have hb1:=hL.b1
 have hb2:=hL.b2
 have hne:0<x.al.length->x.ab≠w.heap.size+1:=fun h=>by have:=hab h;omega
 have hzz:((((((w4.setCell ⟨w.heap.size+1,0,none⟩ (J Z x.a)).setCell ⟨w.heap.size+1,1,none⟩ (J Z x.b)).setCell ⟨w.heap.size+1,2,none⟩ (J Z x.d)).setCell ⟨w.heap.size+1,3,none⟩ (O od x.dl cd)).setCell ⟨w.heap.size+1,4,none⟩ va).setCell ⟨w.heap.size+1,5,none⟩ (O op x.pl cp)).heap.size=w4.heap.size:=by simp [World.setCell]
 refine bodyPost_ret (v:=.tuple #[.agg #[J Z x.a,J Z x.b,J Z x.d,O od x.dl cd,va,O op x.pl cp],vm]) ?_ rfl ⟨⟨_,_,_,_,s1,s2,rfl,by rw [hzz];exact ⟨by omega,hb2,hL.b3,((((((hL.d.put (by omega)).put (by omega)).put (by omega)).put (by omega)).put (by omega)).put (by omega)).mono (by omega),hL.dl,(((((hL.p.put (by omega)).put (by omega)).put (by omega)).put (by omega)).put (by omega)).put (by omega),hL.pl,(((((hL.a.put (by omega) hne).put (by omega) hne).put (by omega) hne).put (by omega) hne).put (by omega) hne).put (by omega) hne⟩⟩,(((((hB.setCell (by simp only;omega) _).setCell (by simp only;omega) _).setCell (by simp only;omega) _).setCell (by simp only;omega) _).setCell (by simp only;omega) _).setCell (by simp only;omega) _⟩
 rw [results_cell_tmp Tryz.results72]
 have h5:∀ we:World,(asAddr (.pointer (some ⟨w.heap.size+1,0,none⟩))).run Tryz.prog we=.ok ⟨w.heap.size+1,0,none⟩ we:=fun _=>rfl
 have h6:=run_loadVar_row (P:=Tryz.prog) _ (w.heap.size+1) 30 30 _ (0,0) _ HBE Tryz.underlying30 rfl (by kernel_rfl)
 rw [h2,h5,Result.andThen_ok,h6,Result.andThen_ok,h3]
theorem xO (x:WD) (w:World) (hx:x.In w) (hp:x.pl*24<=140737488351232) (hd:x.dl*8<=140737488351232) (ha:x.al.length*24<=140737488351232) :
 Calls Tryz.prog 72 #[x.val] w (zee x w):=by
 have HX:Hid _:=hx
 have HLI:=fun wz (hb:Below w.heap.size w wz)=>Xp x.do_ x.db x.doff x.dl x.dc x.Dn wz hd (hx.is_.below hb hx.is_.lt)
 have HLIh:Hid _:=HLI
 have HLPh:Hid (∀ wz,Below w.heap.size w wz->Calls Tryz.prog 88 #[O x.po x.pl x.pcp] wz fun e w'=>(∃ v,e=.returned v/\LnP wz.heap.size w' x.po v x.pl x.V x.L x.R)/\Below wz.heap.size wz w'):=fun wz hb=>qS x.po x.pb x.poff x.pl x.pcp x.V x.L x.R wz hp (hx.ts.below hb)
 have HAS:Hid (∀ wz,Below w.heap.size w wz->AS wz w.heap.size x.ao x.ab x.aoff x.al):=fun wz hb=>hx.as_.of_kept (fun b hl=>hb.block b hl)
 clear hx HLI
 unfold WD.val
 have HB0:Hid (Below w.heap.size w ((w.alloc (Q #[J Z x.a,J Z x.b,J Z x.d,O x.do_ x.dl x.dc,O x.ao x.al.length x.ac,O x.po x.pl x.pcp] 30)).alloc (Q #[J Z 0,J Z 0,J Z 0,O none 0 0,O none 0 0,O none 0 0] 30))):=((Below.refl _ _).alloc (Nat.le_refl _) _).alloc (by simp) _
 have HW0:Hid (((w.alloc (Q #[J Z x.a,J Z x.b,J Z x.d,O x.do_ x.dl x.dc,O x.ao x.al.length x.ac,O x.po x.pl x.pcp] 30)).alloc (Q #[J Z 0,J Z 0,J Z 0,O none 0 0,O none 0 0,O none 0 0] 30)).heap[w.heap.size]?=some (Q #[J Z x.a,J Z x.b,J Z x.d,O x.do_ x.dl x.dc,O x.ao x.al.length x.ac,O x.po x.pl x.pcp] 30 (0,0))):=by show _=_;rw [Below.heap_alloc _ _ _ (by simp)];exact heap_alloc_new w _
 have HR0:Hid (((w.alloc (Q #[J Z x.a,J Z x.b,J Z x.d,O x.do_ x.dl x.dc,O x.ao x.al.length x.ac,O x.po x.pl x.pcp] 30)).alloc (Q #[J Z 0,J Z 0,J Z 0,O none 0 0,O none 0 0,O none 0 0] 30)).heap[w.heap.size+1]?=some (Q #[J Z 0,J Z 0,J Z 0,O none 0 0,O none 0 0,O none 0 0] 30 (0,0))):=zt _ (by simp)
 go_enter Tryz.func72,Tryz.ntmps72
 go_wp2_with fail
 refine (HLIh.out _ HB0.out).mono ?_
 rintro e w1 ⟨⟨vd,rfl,hvd⟩,hb1⟩
 obtain ⟨od,cd,gd,rfl,_⟩:=hvd.is_
 have HB1:Hid _:=HB0.out.trans (hb1.mono HB0.out.size)
 have hz1:w.heap.size+2<=w1.heap.size:=by have:=hb1.size;simp at this;omega
 have HD1:Hid (LnI (w.heap.size+2) w1 x.do_ (O od x.dl cd) x.dl x.Dn):=by simp at hvd;exact hvd
 have HW1:Hid _:=(hb1.block _ (lt_of_block HW0.out)).trans HW0.out
 have HR1:Hid _:=(hb1.block _ (lt_of_block HR0.out)).trans HR0.out
 clear hb1 hvd HB0 HW0 HR0
 obtain ⟨q0,q1,q2,q3,q4,q5⟩:=ld6 HW1.out rfl
 have f3:=Z7 HW1.out 3
 have HW2:Hid ((w1.setCell ⟨w.heap.size,3,none⟩ (O od x.dl cd)).heap[w.heap.size]?=some (Q #[J Z x.a,J Z x.b,J Z x.d,O od x.dl cd,O x.ao x.al.length x.ac,O x.po x.pl x.pcp] 30 (0,0))):=ZW HW1.out
 have HB2:Hid (Below w.heap.size w (w1.setCell ⟨w.heap.size,3,none⟩ (O od x.dl cd))):=HB1.out.setCell (Nat.le_refl _) _
 go_wp2_with fail
 refine (HLPh.out _ HB2.out).mono ?_
 rintro e w3 ⟨⟨vp,rfl,hvp⟩,hb3⟩
 obtain ⟨op,cp,gp,rfl,_⟩:=hvp.ts
 have hz3:w1.heap.size<=w3.heap.size:=by have:=hb3.size;simpa [World.setCell] using this
 have HB3:Hid _:=HB2.out.trans (hb3.mono HB2.out.size)
 have HP3:Hid (LnP w1.heap.size w3 x.po (O op x.pl cp) x.pl x.V x.L x.R):=by rw [show (w1.setCell ⟨w.heap.size,3,none⟩ (O od x.dl cd)).heap.size=w1.heap.size from by simp [World.setCell]] at hvp;exact hvp
 have HD3:Hid (LnI (w.heap.size+2) w3 x.do_ (O od x.dl cd) x.dl x.Dn):=HD1.out.keep (fun g hg=>by
  have hg2:=HD1.out.lt hg
  rw [hb3.block g (by simpa [World.setCell] using hg2.2),za (by omega)])
 have HDL:Hid (∀ g,(O od x.dl cd).ownBlock=some g->g<w1.heap.size):=fun g hg=>(HD1.out.lt hg).2
 have HW3:Hid _:=(hb3.block _ (lt_of_block HW2.out)).trans HW2.out
 have HR3:Hid (w3.heap[w.heap.size+1]?=some (Q #[J Z 0,J Z 0,J Z 0,O none 0 0,O none 0 0,O none 0 0] 30 (0,0))):=by
  show _=_
  rw [hb3.block _ (by have:=lt_of_block HR1.out;simpa [World.setCell] using this),za (by omega)]
  exact HR1.out
 clear hb3 hvp HB2 HW2 HR1 HW1 HB1 HD1 q0 q1 q2 q3 q4 q5 f3
 obtain ⟨q0,q1,q2,q3,q4,q5⟩:=ld6 HW3.out rfl
 have f5:=Z7 HW3.out 5
 have HW4:Hid ((w3.setCell ⟨w.heap.size,5,none⟩ (O op x.pl cp)).heap[w.heap.size]?=some (Q #[J Z x.a,J Z x.b,J Z x.d,O od x.dl cd,O x.ao x.al.length x.ac,O op x.pl cp] 30 (0,0))):=ZW HW3.out
 have HB4:Hid (Below w.heap.size w (w3.setCell ⟨w.heap.size,5,none⟩ (O op x.pl cp))):=HB3.out.setCell (Nat.le_refl _) _
 have HR4:Hid ((w3.setCell ⟨w.heap.size,5,none⟩ (O op x.pl cp)).heap[w.heap.size+1]?=some (Q #[J Z 0,J Z 0,J Z 0,O none 0 0,O none 0 0,O none 0 0] 30 (0,0))):=by show _=_;rw [za (by omega)];exact HR3.out
 have HP4:Hid (LnP w1.heap.size (w3.setCell ⟨w.heap.size,5,none⟩ (O op x.pl cp)) x.po (O op x.pl cp) x.pl x.V x.L x.R):=HP3.out.keep (fun g hg=>za (by have:=(HP3.out.lt hg).1;omega))
 have HD4:Hid (LnI (w.heap.size+2) (w3.setCell ⟨w.heap.size,5,none⟩ (O op x.pl cp)) x.do_ (O od x.dl cd) x.dl x.Dn):=HD3.out.keep (fun g hg=>za (by have:=(HD3.out.lt hg).1;omega))
 have HPL:Hid (∀ g,(O op x.pl cp).ownBlock=some g->g<w3.heap.size):=fun g hg=>(HP3.out.lt hg).2
 have hz4:(w3.setCell ⟨w.heap.size,5,none⟩ (O op x.pl cp)).heap.size=w3.heap.size:=by simp [World.setCell]
 have HZ4:Hid _:=hz4
 clear hz4
 cases hao:x.ao with
 | none =>
  have hal:x.al=[]:=by
   rcases Nat.eq_zero_or_pos x.al.length with h | h
   ·exact List.eq_nil_of_length_eq_zero h
   ·have:=HX.out.as_.at_ h;rw [hao] at this;cases this
  have hnil:=fun w=>Lib.run_eql_slice_nil (P:=Tryz.prog) w 27 25 none 0 x.ac 0 0 Tryz.underlying27
  simp only [Option.isNone] at hnil
  rw [hao,hal] at q4
  have HAO:Hid (x.ao=none/\x.al=[]):=⟨hao,hal⟩
  have hR4:=HR4.out
  obtain ⟨p0,p1,p2,p3,p4,p5⟩:=ld6 hR4 rfl
  have z0:=Z7 hR4 0
  have z1:=Z7 hR4 1
  have z2:=Z7 hR4 2
  have z3:=Z7 hR4 3
  have z4:=Z7 hR4 4
  have z5:=Z7 hR4 5
  clear hR4
  go_wp2_with fail
  have hL:LnW (w.heap.size+2) (w3.setCell ⟨w.heap.size,5,none⟩ (O op x.pl cp)).heap.size (w3.setCell ⟨w.heap.size,5,none⟩ (O op x.pl cp)) x (O od x.dl cd) (O none 0 x.ac) (O op x.pl cp) (O none 0 0) w1.heap.size w3.heap.size:=⟨hz1,hz3,by rw [HZ4.out];exact Nat.le_refl _,HD4.out,HDL.out,HP4.out,HPL.out,.inl ⟨HAO.out.1,⟨_,rfl⟩,rfl,HAO.out.2⟩⟩
  exact Qs (fun h=>by rw [HAO.out.2] at h;simp at h) HB4.out HR4.out hL rfl rfl
 | some ad =>
  obtain ⟨i0,hi,hy0,hy1,hy2⟩:=info_parts Tryz.infoIs
  have hnil:=fun w=>Lib.run_eql_slice_nil (P:=Tryz.prog) w 27 25 (some ad) x.al.length x.ac 0 0 Tryz.underlying27
  simp only [Option.isNone] at hnil
  rw [hao] at q4
  have HAO:Hid _:=hao
  clear hao
  obtain ⟨n,hn⟩:∃ n,x.al.length=n:=⟨_,rfl⟩
  have HN:Hid _:=hn
  rw [hn] at q4 hnil ha
  clear hn
  have hz3':w.heap.size+2<=w3.heap.size:=by omega
  go_wp2_with (at_make;first | (refine wpList_make_full _ rfl _ _ 27 rfl 0 25 i0 (O none 0 0) 1 Tryz.underlying27 hi hy0 hy1 .i64 .i64 _ _ (n+8) rfl rfl (by omega) (by omega) (by rw [hy2];omega) (by unfold maxLen;omega) (Nat.zero_le _) ?_;intro w5 hown5 hgrow5;rw [HZ4.out] at hown5;rw [HZ4.out];obtain ⟨fA,hrow5⟩:=yQ hown5 rfl;have HR5:Hid (w5.rowIs w3.heap.size 25 (n+8) fA):=(by rw [Nat.mul_one] at hrow5;exact hrow5);have HG5:Hid ((w3.setCell ⟨w.heap.size,5,none⟩ (O op x.pl cp)).grownBy w5 none):=hgrow5;clear hown5 hgrow5 hrow5) | (refine wpList_make_full _ rfl _ _ 27 rfl 0 25 i0 (O none 0 0) 1 Tryz.underlying27 hi hy0 hy1 .i64 .i64 _ _ n rfl rfl (by omega) (by omega) (by rw [hy2];omega) (by unfold maxLen;omega) (Nat.zero_le _) ?_;intro w6 hown6 hgrow6;obtain ⟨f6,hrow6⟩:=yQ hown6 rfl;have HR6:Hid (w6.rowIs w5.heap.size 25 n f6):=(by rw [Nat.mul_one] at hrow6;exact hrow6);have HG6:Hid (w5.grownBy w6 none):=hgrow6;clear hown6 hgrow6 hrow6))
  have h35:w3.heap.size<w5.heap.size:=HR5.out.lt
  have h56:w5.heap.size<w6.heap.size:=HR6.out.lt
  have HK6:Hid (∀ b,b<w3.heap.size->w6.heap[b]?=(w3.setCell ⟨w.heap.size,5,none⟩ (O op x.pl cp)).heap[b]?):=fun b hb=>(HG6.out.block b (by omega) (by simp)).trans (HG5.out.block b (by rw [HZ4.out];exact hb) (by simp))
  have HB6:Hid (Below w.heap.size w w6):=(HB4.out.grown HG5.out (by rw [HZ4.out];omega) (fun k hk=>by cases hk)).grown HG6.out (by omega) (fun k hk=>by cases hk)
  have HA6:Hid (w6.rowIs w3.heap.size 25 (n+8) fA):=HR5.out.of_block (HG6.out.block _ h35 (by simp))
  have HW6:Hid (w6.heap[w.heap.size]?=some (Q #[J Z x.a,J Z x.b,J Z x.d,O od x.dl cd,O (some ad) n x.ac,O op x.pl cp] 30 (0,0))):=by show _=_;rw [HK6.out _ (by omega),HW4.out,HAO.out,HN.out]
  have HR6':Hid (w6.heap[w.heap.size+1]?=some (Q #[J Z 0,J Z 0,J Z 0,O none 0 0,O none 0 0,O none 0 0] 30 (0,0))):=by show _=_;rw [HK6.out _ (by omega),HR4.out]
  have HP6:Hid (LnP w1.heap.size w6 x.po (O op x.pl cp) x.pl x.V x.L x.R):=HP4.out.keep (fun g hg=>HK6.out g (HPL.out g hg))
  have HD6:Hid (LnI (w.heap.size+2) w6 x.do_ (O od x.dl cd) x.dl x.Dn):=HD4.out.keep (fun g hg=>HK6.out g (by have:=HDL.out g hg;omega))
  clear HK6 HB4 HG5 HG6 HZ4 HW4 HR4 HP4 HD4 HR5 HW3 HR3 HP3 HD3 HB3 q0 q1 q2 q3 q4 q5 f5 hnil HLIh HLPh
  go_loopw [7] (fun y wr=>∃ (k:Nat) (fa fm:Nat->Value) (S:Nat->Nat),k<=n+8/\y=J Z k/\Hid (wr.rowIs w3.heap.size 25 (n+8) fa)/\Hid (wr.rowIs w5.heap.size 25 n fm)/\Hid (LnA wr x.ab x.aoff x.al w3.heap.size w5.heap.size fa fm S 0 k)/\Hid (∀ b,b<w6.heap.size->b≠w3.heap.size->b≠w5.heap.size->wr.heap[b]?=w6.heap[b]?)/\Hid (Below w.heap.size w wr)/\w6.heap.size<=wr.heap.size) (fun y _=>n+8-(intOf y).toNat)
  case atStart=>exact ⟨0,_,_,fun _=>w6.heap.size,by omega,rfl,HA6,HR6,⟨fun i hi=>by omega,Nat.le_refl _,⟨by omega,h56⟩,fun i l _ hi=>by omega,fun i _ hi=>by omega⟩,fun b _ _ _=>rfl,HB6,Nat.le_refl _⟩
  case round =>
   obtain ⟨k,fa,fm,S,hk,rfl,HFA,HFM,HLA,HKB,HB,hzr⟩:=hrel
   clear HA6 HR6 HB6
   have HW:Hid (wr.heap[w.heap.size]?=some (Q #[J Z x.a,J Z x.b,J Z x.d,O od x.dl cd,O (some ad) n x.ac,O op x.pl cp] 30 (0,0))):=(HKB.out _ (by omega) (by omega) (by omega)).trans HW6.out
   by_cases hlt:k<n+8
   ·have c0:=HFA.out.cell (i:=k) hlt
    have z0:=HFA.out.frozen k
    have hlt':(k:Int)<(n:Int)+8:=by omega
    have hgl:w3.heap.size<wr.heap.size:=by omega
    obtain ⟨wA,hwA⟩:∃ wA,(wr.setCell ⟨w3.heap.size,k,none⟩ (O (some ⟨wr.heap.size,0,none⟩) 1 1)).alloc (Q #[J Z 77] 3)=wA:=⟨_,rfl⟩
    have HWA:Hid _:=hwA
    have hzs:(wr.setCell ⟨w3.heap.size,k,none⟩ (O (some ⟨wr.heap.size,0,none⟩) 1 1)).heap.size=wr.heap.size:=by simp [World.setCell]
    have HZA:Hid (wA.heap.size=wr.heap.size+1):=by show _=_;rw [<- hwA];simp [World.setCell]
    have HBA:Hid (Below w.heap.size w wA):=by rw [<- hwA];exact (HB.out.setCell (by simp only;omega) _).alloc (by rw [hzs];omega) _
    have HRA:Hid (wA.rowIs w3.heap.size 25 (n+8) (fun j=>if j=k then O (some ⟨wr.heap.size,0,none⟩) 1 1 else fa j)):=by rw [<- hwA];exact (HFA.out.set k _).alloc _
    have HKA:Hid (∀ b,b<wr.heap.size->b≠w3.heap.size->wA.heap[b]?=wr.heap[b]?):=fun b hb hne=>by rw [<- hwA,Below.heap_alloc _ _ _ (by rw [hzs];exact hb),za hne]
    have HMA:Hid (wA.rowIs w5.heap.size 25 n fm):=HFM.out.of_block (HKA.out _ (by omega) (by omega))
    have HNA:Hid (wA.rowIs wr.heap.size 3 1 (fun _=>J Z 77)):=by
     rw [<- hwA]
     have:=World.rowIs_alloc (wr.setCell ⟨w3.heap.size,k,none⟩ (O (some ⟨wr.heap.size,0,none⟩) 1 1)) #[J Z 77] 3 (fun _=>J Z 77) (fun i hi=>by simp at hi;subst hi;rfl)
     rw [hzs] at this
     exact this
    clear hwA hzs
    have HLO:=HLA.out.lo
    have HTOP:=HLA.out.top
    by_cases hkn:k<n
    ·have hkn':(k:Int)<(n:Int):=by omega
     obtain ⟨l,hl⟩:∃ l,x.al[k]?=some l:=⟨x.al[k]'(by rw [HN.out];exact hkn),List.getElem?_eq_getElem _⟩
     obtain ⟨lo,lc,lb,loff,hcl,hil,hlb⟩:=HX.out.as_.is_ (Nat.le_refl _) hl
     have had:=HX.out.as_.at_ (by rw [HN.out];omega)
     rw [HAO.out] at had
     cases had
     have habl:=HX.out.as_.lt (by rw [HN.out];omega)
     have hln:=HX.out.as_.len l (List.mem_of_getElem? hl)
     have HCL:Hid (∀ wz,Below w.heap.size w wz->Calls Tryz.prog 84 #[O lo l.length lc] wz fun e w'=>(∃ v,e=.returned v/\LnI wz.heap.size w' lo v l.length (liF l))/\Below wz.heap.size wz w'):=fun wz hb=>Xp lo lb loff l.length lc (liF l) wz hln (hil.below hb hlb)
     have cal:=(HB.out.cell (p:=⟨x.ab,x.aoff+k,none⟩) habl).trans hcl
     have hwl1:w.heap.size<wr.heap.size:=by omega
     have hwl2:x.ab<wr.heap.size:=by omega
     have HCA:Hid (∀ wz,Below w.heap.size w wz->wz.cell? ⟨x.ab,x.aoff+k,none⟩=some (O lo l.length lc)):=fun wz hb=>(hb.cell (p:=⟨x.ab,x.aoff+k,none⟩) habl).trans hcl
     have HL:Hid _:=hl
     obtain ⟨_,_,_,_,q4,_⟩:=ld6 HW.out rfl
     have hne1:¬ w.heap.size=w3.heap.size:=by omega
     have hne2:¬ x.ab=w3.heap.size:=by omega
     clear hcl hil hlb hl
     go_wp2_with fail
     rw [HWA.out]
     refine (HCL.out _ HBA.out).mono ?_
     rintro e w2 ⟨⟨v,rfl,hv⟩,hb2⟩
     obtain ⟨ov,cv,gv,rfl,_⟩:=hv.is_
     have HV:Hid (LnI (wr.heap.size+1) w2 lo (O ov l.length cv) l.length (liF l)):=by rw [HZA.out] at hv;exact hv
     have hz2:wr.heap.size+1<=w2.heap.size:=by have:=hb2.size;rw [HZA.out] at this;exact this
     have HB2:Hid _:=HBA.out.trans (hb2.mono HBA.out.size)
     have HM2:Hid (w2.rowIs w5.heap.size 25 n fm):=yV HMA.out hb2
     have HA2:Hid (w2.rowIs w3.heap.size 25 (n+8) (fun j=>if j=k then O (some ⟨wr.heap.size,0,none⟩) 1 1 else fa j)):=yV HRA.out hb2
     have HK2:Hid (∀ b,b<wr.heap.size->b≠w3.heap.size->w2.heap[b]?=wr.heap[b]?):=fun b hb hne=>(hb2.block b (by rw [HZA.out];omega)).trans (HKA.out b hb hne)
     have m0:=HM2.out.cell (i:=k) hkn
     have y0:=HM2.out.frozen k
     have a0:=HA2.out.cell (i:=k) hlt
     have x0:=HA2.out.frozen k
     have hne3:¬ w3.heap.size=w5.heap.size:=by omega
     have hne4:¬ w5.heap.size=w3.heap.size:=by omega
     clear hb2 hv c0 z0 q4 cal
     go_wp2_with fail
     obtain ⟨w4,hw4⟩:∃ w4,(w2.setCell ⟨w5.heap.size,k,none⟩ (O ov l.length cv)).setCell ⟨w3.heap.size,k,none⟩ (O ov l.length cv)=w4:=⟨_,rfl⟩
     have hz4:w4.heap.size=w2.heap.size:=by rw [<- hw4];simp [World.setCell]
     have HK4:∀ b,b≠w3.heap.size->b≠w5.heap.size->w4.heap[b]?=w2.heap[b]?:=fun b h1 h2=>by rw [<- hw4,za h1,za h2]
     have HB4:Below w.heap.size w w4:=by rw [<- hw4];exact (HB2.out.setCell (by simp only;omega) _).setCell (by simp only;omega) _
     have HA4:=(HA2.out.setOther (a:=⟨w5.heap.size,k,none⟩) (by simp only;omega) (O ov l.length cv)).set k (O ov l.length cv)
     have HM4:=(HM2.out.set k (O ov l.length cv)).setOther (a:=⟨w3.heap.size,k,none⟩) (by simp only;omega) (O ov l.length cv)
     rw [hw4] at HA4 HM4
     have hv4:LnI (wr.heap.size+1) w4 lo (O ov l.length cv) l.length (liF l):=HV.out.keep (fun g hg=>HK4 g (by have:=(HV.out.lt hg).1;omega) (by have:=(HV.out.lt hg).1;omega))
     obtain ⟨S',hS'⟩:=HLA.out.more (w':=w4) (fa':=fun j=>if j=k then O ov l.length cv else (fun j=>if j=k then O (some ⟨wr.heap.size,0,none⟩) 1 1 else fa j) j) (fm':=fun j=>if j=k then O ov l.length cv else fm j) (fun _=>by rw [HK4 _ (by omega) (by omega),HK2.out _ (by omega) (by omega)]) (by omega) (fun b h1 h2=>by rw [HK4 _ (by omega) (by omega),HK2.out _ (by omega) (by omega)]) (fun i hi=>(if_neg (by omega)).trans (if_neg (by omega))) (fun i hi=>if_neg (by omega))
      (fun l' hl'=>by
       have e:l'=l:=by have:=HL.out;rw [hl'] at this;simpa using this
       subst e
       refine ⟨by simp,⟨lo,lc,HCA.out _ HB4,?_⟩,fun g hg=>?_⟩
       ·simp only [if_true];exact hv4.mono (by omega)
       ·simp only [if_true] at hg;exact (hv4.lt hg).2) (fun h=>by have:=HN.out;omega)
     rw [hw4]
     go_roundw
     case rel=>exact ⟨k+1,_,_,S',by omega,by go_num,HA4,HM4,hS',fun b h1 h2 h3=>by rw [HK4 _ h2 h3,HK2.out _ (by omega) h2,HKB.out b h1 h2 h3],HB4,by omega⟩
     case measure=>simp [intOf];omega
    ·have hkn':¬ (k:Int)<(n:Int):=by omega
     go_wp2_with fail
     rw [HWA.out]
     obtain ⟨S',hS'⟩:=HLA.out.more (w':=wA) (fa':=fun j=>if j=k then O (some ⟨wr.heap.size,0,none⟩) 1 1 else fa j) (fm':=fm) (fun h=>HKA.out _ (by have:=HX.out.as_.lt h;omega) (by have:=HX.out.as_.lt h;omega)) (by have:=HZA.out;omega) (fun b h1 h2=>HKA.out b (by omega) (by omega)) (fun i hi=>if_neg (by omega)) (fun i hi=>rfl)
      (fun l' hl'=>by have:=(List.getElem?_eq_some_iff.1 hl').1;have:=HN.out;omega) (fun _=>⟨wr.heap.size,by simp,HTOP,by have:=HZA.out;omega,HNA.out⟩)
     go_roundw
     case rel=>exact ⟨k+1,_,_,S',by omega,by go_num,HRA,HMA,hS',fun b h1 h2 h3=>by rw [HKA.out _ (by omega) h2,HKB.out b h1 h2 h3],HBA,by have:=HZA.out;omega⟩
     case measure=>simp [intOf];omega
   ·have hke:k=n+8:=by omega
    subst hke
    have hlt':¬ ((n:Int)+8<(n:Int)+8):=by omega
    obtain ⟨q0,q1,q2,q3,q4,q5⟩:=ld6 HW.out rfl
    have f4:=Z7 HW.out 4
    have HRR:Hid (wr.heap[w.heap.size+1]?=some (Q #[J Z 0,J Z 0,J Z 0,O none 0 0,O none 0 0,O none 0 0] 30 (0,0))):=(HKB.out _ (by omega) (by omega) (by omega)).trans HR6'.out
    obtain ⟨p0,p1,p2,p3,p4,p5⟩:=ld6 HRR.out rfl
    have z0:=Z7 HRR.out 0
    have z1:=Z7 HRR.out 1
    have z2:=Z7 HRR.out 2
    have z3:=Z7 HRR.out 3
    have z4:=Z7 HRR.out 4
    have z5:=Z7 HRR.out 5
    have hne:¬ w.heap.size=w.heap.size+1:=by omega
    have hne':¬ w.heap.size+1=w.heap.size:=by omega
    have HKC:Hid (∀ b,b≠w.heap.size->(wr.setCell ⟨w.heap.size,4,none⟩ (O (some ⟨w3.heap.size,0,none⟩) n (n+8))).heap[b]?=wr.heap[b]?):=fun b hb=>za hb
    go_wp2_with fail
    have h0:=HLA.out.lo
    have hab:0<x.al.length->x.ab<w.heap.size:=HX.out.as_.lt
    have hKW:∀ g,g<w6.heap.size->g≠w3.heap.size->g≠w5.heap.size->g≠w.heap.size->(wr.setCell ⟨w.heap.size,4,none⟩ (O (some ⟨w3.heap.size,0,none⟩) n (n+8))).heap[g]?=w6.heap[g]?:=fun g h1 h2 h3 h4=>(HKC.out g h4).trans (HKB.out g h1 h2 h3)
    refine Qs (va:=O (some ⟨w3.heap.size,0,none⟩) n (n+8)) (vm:=O (some ⟨w5.heap.size,0,none⟩) n n) (s1:=w1.heap.size) (s2:=w3.heap.size) hab (HB.out.setCell (Nat.le_refl _) _) ((HKC.out _ (by omega)).trans HRR.out) ⟨hz1,hz3,by simp [World.setCell];omega,HD6.out.keep (fun g hg=>?_),HDL.out,HP6.out.keep (fun g hg=>?_),HPL.out,.inr ⟨ad,w3.heap.size,w5.heap.size,fa,fm,S,HAO.out,by rw [HN.out],by rw [HN.out],Nat.le_refl _,by omega,by omega,by rw [HN.out];exact HFA.out.of_block (HKC.out _ (by omega)),by rw [HN.out];exact HFM.out.of_block (HKC.out _ (by omega)),?_,by rw [HN.out];have:=HLA.out.top;simpa [World.setCell] using this⟩⟩ rfl rfl
    ·have h1:=(HD6.out.lt hg).1
     have h2:=HDL.out g hg
     exact hKW g (by omega) (by omega) (by omega) (by omega)
    ·have h1:=(HP6.out.lt hg).1
     have h2:=HPL.out g hg
     exact hKW g (by omega) (by omega) (by omega) (by omega)
    ·rw [HN.out]
     exact HLA.out.keep (Nat.le_refl _) (by simp [World.setCell]) (fun h=>HKC.out _ (by have:=hab h;omega)) (fun b h1 h2=>HKC.out b (by omega))
theorem XL (o:Option Addr) (b off n c:Nat) (u:Int) (w:World) (hn:n<=9223372036854775807) (h:IS w o b off n (fun _=>u)) :
 Calls Tryz.prog 162 #[O o n c,J Z n,J Z u] w fun e w'=>e=.returned (.bool true)/\w'=w:=by
 go_enter Tryz.func162,Tryz.ntmps162
 go_wp2_with fail
 go_loopw [7] (fun x wr=>∃ k:Nat,k<=n/\x=J Z k/\wr=w) (fun x _=>n-(intOf x).toNat)
 case atStart=>exact ⟨0,by omega,rfl,rfl⟩
 case round =>
  obtain ⟨k,hk,rfl,rfl⟩:=hrel
  by_cases hlt:k<n
  ·obtain rfl:=h.at_ (by omega)
   have c0:=h.val k hlt
   have hlt':(k:Int)<(n:Int):=by omega
   go_wp2_with fail
   go_roundw
   case rel=>exact ⟨k+1,by omega,by go_num,trivial⟩
   case measure=>simp [intOf];omega
  ·have hkn:k=n:=by omega
   subst hkn
   go_wp2_with fail
   go_ret
   exact ⟨rfl,rfl⟩
theorem Y3 {w w1 w2:World} {r:Option Nat} (hb:Below w.heap.size w w1) (h:w1.grownBy w2 r):w.grownBy w2 r :=
 ⟨h.os.trans hb.os,h.tape.trans hb.tape,h.output.trans hb.output,Nat.le_trans hb.size h.size,fun k hk hne=>(h.block k (Nat.lt_of_lt_of_le hk hb.size) hne).trans (hb.block k hk)⟩
theorem XE (B s2 T:Nat) (ao:Option Addr) (ab aoff ac:Nat) (al:List (List Int)) (va vm:Value) (w:World) (ha:al.length*24<=140737488351232) (has:AS w B ao ab aoff al) (hBw:B<=w.heap.size) (hBs:B<=s2) (hl:xe s2 T w ao ab aoff al va vm) :
 Calls Tryz.prog 127 #[va,vm,O ao al.length ac] w fun e w'=>e=.returned (.bool true)/\Below s2 w w'/\∀ b,T<=b->b<w.heap.size->w'.heap[b]?=w.heap[b]?:=by
 rcases hl with ⟨rfl,⟨c,rfl⟩,rfl,rfl⟩ | ⟨ad,ga,gm,fa,fm,S,rfl,rfl,rfl,hga,hgm,hne,hra,hrm,hla,hTT⟩
 ·have hnil:=fun w=>Lib.run_eql_slice_nil (P:=Tryz.prog) w 27 25 none 0 ac 0 0 Tryz.underlying27
  simp only [Option.isNone] at hnil
  go_enter Tryz.func127,Tryz.ntmps127
  go_wp2_with fail
  go_ret
  exact ⟨rfl,Below.refl _ _,fun _ _ _=>rfl⟩
 ·have hnil:=fun w=>Lib.run_eql_slice_nil (P:=Tryz.prog) w 27 25 (some ad) al.length ac 0 0 Tryz.underlying27
  simp only [Option.isNone] at hnil
  have HAS:Hid (∀ wz,Below s2 w wz->AS wz B (some ad) ab aoff al):=fun wz hb=>has.of_kept (fun b hl=>hb.block b (by omega))
  have HRA:Hid _:=hra
  have HRM:Hid _:=hrm
  have HLA0:Hid _:=hla
  have hs2:s2<=w.heap.size:=by have:=hra.lt;omega
  have HAT:Hid _:=has.at_
  have HALT:Hid _:=has.lt
  have HLEN:Hid _:=has.len
  clear has hra hrm hla
  obtain ⟨n,hn⟩:∃ n,al.length=n:=⟨_,rfl⟩
  have HN:Hid _:=hn
  rw [hn] at ha hnil HRA HRM HLA0 HAT HALT hTT ⊢
  clear hn
  go_enter Tryz.func127,Tryz.ntmps127
  go_wp2_with fail
  clear hnil
  go_loopw [9,10] (fun y x wr=>∃ (k:Nat) (f:Nat->Value),k<=n+8/\x=J Z k/\y=.bool true/\Hid (wr.rowIs ga 25 (n+8) f)/\Hid (∀ i,k<=i->f i=fa i)/\Hid (wr.rowIs gm 25 n fm)/\Hid (LnA wr ab aoff al ga gm fa fm S k (n+8))/\Hid (Below s2 w wr)/\Hid (∀ b,T<=b->b<w.heap.size->wr.heap[b]?=w.heap[b]?)) (fun _ x _=>n+8-(intOf x).toNat)
  case atStart=>exact ⟨0,fa,by omega,rfl,rfl,HRA,fun i _=>rfl,HRM,HLA0,Below.refl _ _,fun _ _ _=>rfl⟩
  case round =>
   obtain ⟨wq,hwq⟩:∃ wq,wq=wr:=⟨_,rfl⟩
   subst hwq
   obtain ⟨k,f,hk,rfl,rfl,HFA,HFE,HFM,HLA,HB,HKT⟩:=hrel
   clear HRA HRM HLA0
   by_cases hlt:k<n+8
   ·have c0:=HFA.out.cell (i:=k) hlt
    have z0:=HFA.out.frozen k
    rw [HFE.out k (Nat.le_refl _)] at c0
    have hlt':(k:Int)<(n:Int)+8:=by omega
    have hlo:=HLA.out.lo
    have hS0:=HLA.out.ge 0 k (by omega) (by omega)
    have hS1:=HLA.out.mono k hlt
    have hST:=HLA.out.ge (k+1) (n+8) (by omega) (by omega)
    have hTOP:=HLA.out.top
    by_cases hkn:k<n
    ·have hkn':¬ (n:Int)<=(k:Int):=by omega
     have hkn2:(k:Int)<(n:Int):=by omega
     obtain ⟨l,hl⟩:∃ l,al[k]?=some l:=⟨al[k]'(by rw [HN.out];exact hkn),List.getElem?_eq_getElem _⟩
     obtain ⟨hfk,⟨lo,lc,hcl,hli⟩,hlt1⟩:=HLA.out.own k l (Nat.le_refl _) hlt hl
     obtain ⟨lo',lc',lb,loff,hcl',hil,hlb⟩:=(HAS.out wq HB.out).is_ (by have:=HB.out.size;omega) hl
     rw [hcl] at hcl'
     have e1:lo'=lo/\lc'=lc:=by cases hcl';exact ⟨rfl,rfl⟩
     obtain ⟨rfl,rfl⟩:=e1
     clear hcl'
     obtain ⟨ov,cv,gv,hv,_,hgv⟩:=hli.is_
     rw [hv] at hli hlt1 hfk
     rw [hfk] at c0
     have m0:=HFM.out.cell (i:=k) hkn
     rw [hv] at m0
     have hln:=HLEN.out l (List.mem_of_getElem? hl)
     obtain rfl:ad=⟨ab,aoff,none⟩:=by have:=HAT.out (by omega);cases this;rfl
     have habl:=HALT.out (by omega)
     have habz:ab<wq.heap.size:=by have:=HB.out.size;omega
     have HIL:Hid _:=hil
     have HLI:Hid _:=hli
     have HLT:Hid (∀ g,(O ov l.length cv).ownBlock=some g->S k<=g/\g<S (k+1)):=fun g hg=>⟨(hli.lt hg).1,hlt1 g hg⟩
     have HWI:Hid (∀ wz,Below wq.heap.size wq wz->Calls Tryz.prog 87 #[O ov l.length cv,O lo' l.length lc',J Z 1] wz fun e w'=>e=.returned (.bool true)/\wq.grownBy w' (O ov l.length cv).ownBlock/\∀ g,(O ov l.length cv).ownBlock=some g->w'.rowIs g 3 (l.length+8) (fun _=>J Z 1)):=fun wz hb=>(xK (S k) (O ov l.length cv) lo' lb loff l.length lc' (liF l) 1 wz hln (hil.below hb hil.lt) (fun h=>by have:=hlb h;omega) (hli.below hb)).mono (fun e w' ⟨h1,h2,h3⟩=>⟨h1,Y3 hb h2,h3⟩)
     have HOB:Hid (0<l.length->∃ g,ov=some ⟨g,0,none⟩):=fun h0=>by
      rcases hli with ⟨_,_,h⟩ | ⟨_,g,_,_,h,_⟩
      ·omega
      ·cases h;exact ⟨g,rfl⟩
     have HL:Hid (al[k]?=some l):=hl
     have a0:=hcl
     clear hil hli hlt1 hcl hl hlb hgv hv hfk
     go_upto_region 13 with fail
     go_cut [12] (fun s12 wx=>s12=.bool true/\wq.grownBy wx (O ov l.length cv).ownBlock/\∀ g,(O ov l.length cv).ownBlock=some g->wx.rowIs g 3 (l.length+8) (fun _=>J Z 1))
     case first =>
      go_region_held3 (fun w'=>w'.cell? ⟨gm,k,none⟩=some (O ov l.length cv)/\w'.cell? ⟨ab,aoff+k,none⟩=some (O lo' l.length lc')) (first | (exact ⟨m0,a0⟩) | (exact ⟨hm1,ha1⟩) | go_keep) (first | (go_at_call 87;refine (HWI.out _ (by first | exact (Below.refl _ _).drew | exact Below.refl _ _)).mono ?_;rintro e w1 ⟨rfl,hg1,hr1⟩;have hm1:=(hg1.cell_far ⟨gm,k,none⟩ HFM.out.lt (fun e=>by have:=HLT.out _ e.symm;simp only at this;omega)).trans m0;have ha1:=(hg1.cell_far ⟨ab,aoff+k,none⟩ habz (fun e=>by have:=HLT.out _ e.symm;simp only at this;omega)).trans a0))
      all_goals
       go_wp2_with fail
       go_meet
       exact ⟨rfl,hg1,hr1⟩
     case rest =>
      obtain ⟨rfl,hg1,hr1⟩:=hcut
      obtain ⟨w1,hw1⟩:∃ w1,w1=wc:=⟨_,rfl⟩
      subst hw1
      have HG1:Hid (wq.grownBy w1 (O ov l.length cv).ownBlock):=hg1
      have HR1:Hid (∀ g,(O ov l.length cv).ownBlock=some g->w1.rowIs g 3 (l.length+8) (fun _=>J Z 1)):=hr1
      have HNE:Hid (∀ b,b<S k\/S (k+1)<=b->some b≠(O ov l.length cv).ownBlock):=fun b hb e=>by have:=HLT.out _ e.symm;omega
      have HIS:Hid (∀ (wz:World) (u:Int),(∀ g,(O ov l.length cv).ownBlock=some g->∃ f2,wz.rowIs g 3 (l.length+8) f2/\∀ i,i<l.length->f2 i=J Z u)->∃ b,IS wz ov b 0 l.length (fun _=>u)):=fun wz u h=>by
       rcases Nat.eq_zero_or_pos l.length with h0 | h0
       ·exact ⟨0,fun h=>by omega,fun h=>by omega,fun i hi=>by omega⟩
       ·obtain ⟨g,rfl⟩:=HOB.out h0
        obtain ⟨f2,h1,h2⟩:=h g rfl
        exact ⟨g,fun _=>rfl,fun _=>h1.lt,fun i hi=>by rw [Nat.zero_add,h1.cell (by omega),h2 i hi]⟩
      have HCG:Hid (∀ wz,wq.grownBy wz (O ov l.length cv).ownBlock->wz.cell? ⟨ga,k,none⟩=some (O ov l.length cv)/\wz.cell? ⟨ab,aoff+k,none⟩=some (O lo' l.length lc')/\wz.cell? ⟨gm,k,none⟩=some (O ov l.length cv)):=fun wz h=>⟨(h.cell_far ⟨ga,k,none⟩ HFA.out.lt (HNE.out _ (by simp only;omega))).trans c0,(h.cell_far ⟨ab,aoff+k,none⟩ habz (HNE.out _ (by simp only;omega))).trans a0,(h.cell_far ⟨gm,k,none⟩ HFM.out.lt (HNE.out _ (by simp only;omega))).trans m0⟩
      clear hg1 hr1 c0 m0 a0 z0
      obtain ⟨b1,i1⟩:=HIS.out w1 1 (fun g hg=>⟨_,HR1.out g hg,fun i _=>rfl⟩)
      have I1:Hid (IS w1 ov b1 0 l.length (fun _=>1)):=i1
      obtain ⟨x0,x1,x2⟩:=HCG.out w1 HG1.out
      clear i1
      have hll:l.length<=9223372036854775807:=by omega
      go_wp2_with fail
      go_quiet ((go_at_call 162;exact Calls.quiet_of_same (XL ov b1 0 l.length cv 1 _ hll ⟨I1.out.at_,I1.out.lt,I1.out.val⟩)))
      go_wp2_with fail
      clear x0 x1 x2 I1
      go_loopw [14] (fun x wx=>∃ j:Nat,j<=l.length/\x=J Z j/\Hid (∀ g,(O ov l.length cv).ownBlock=some g->∃ f2,wx.rowIs g 3 (l.length+8) f2/\∀ i,i<j->f2 i=J Z 2)/\Hid (wq.grownBy wx (O ov l.length cv).ownBlock)) (fun x _=>l.length-(intOf x).toNat)
      case atStart=>exact ⟨0,by omega,rfl,fun g hg=>⟨_,yV (HR1.out g hg) (zB (Below.refl _ _) _),fun i hi=>by omega⟩,Yi HG1.out (zB (Below.refl _ _) _)⟩
      case round =>
       obtain ⟨j,hj,rfl,HF2,HG2⟩:=hrel
       obtain ⟨x0,x1,x2⟩:=HCG.out wr HG2.out
       clear HR1 HG1
       by_cases hjl:j<l.length
       ·obtain ⟨g,rfl⟩:=HOB.out (by omega)
        obtain ⟨f2,hr2,hf2⟩:=HF2.out g rfl
        have HR2:Hid (wr.rowIs g 3 (l.length+8) f2):=hr2
        have HE2:Hid (∀ i,i<j->f2 i=J Z 2):=hf2
        have y0:=hr2.cell (i:=j) (by omega)
        have y1:=hr2.frozen j
        have hjl':(j:Int)<(l.length:Int):=by omega
        clear hr2 hf2
        go_wp2_with fail
        go_roundw
        case rel=>exact ⟨j+1,by omega,by go_num,fun g' hg'=>by
         cases hg'
         exact ⟨_,HR2.out.set j _,fun i hi=>by
          by_cases e:i=j
          ·rw [if_pos e]
          ·rw [if_neg e];exact HE2.out i (by omega)⟩,yw HG2.out _ _⟩
        case measure=>simp [intOf];omega
       ·have hje:j=l.length:=by omega
        subst hje
        obtain ⟨b2,i2⟩:=HIS.out wr 2 HF2.out
        have I2:Hid _:=i2
        have HA2:Hid (wr.rowIs ga 25 (n+8) f):=HFA.out.of_block (HG2.out.block _ HFA.out.lt (HNE.out _ (by omega)))
        have HM2:Hid (wr.rowIs gm 25 n fm):=HFM.out.of_block (HG2.out.block _ HFM.out.lt (HNE.out _ (by omega)))
        have y0:=HA2.out.cell (i:=k) hlt
        have y1:=HA2.out.frozen k
        clear i2
        go_wp2_with fail
        go_quiet ((go_at_call 162;exact Calls.quiet_of_same (XL ov b2 0 l.length cv 2 _ hll ⟨I2.out.at_,I2.out.lt,I2.out.val⟩)))
        go_wp2_with fail
        have hBz:=HB.out.size
        go_roundw
        case rel=>exact ⟨k+1,_,by omega,by go_num,rfl,(yV HA2.out (zB (Below.refl _ _) _)).set k _,fun i hi=>by rw [if_neg (by omega)];exact HFE.out i (by omega),(yV HM2.out (zB (Below.refl _ _) _)).setOther (by simp only;omega) _,HLA.out.keep (by omega) (by have:=HG2.out.size;simpa [World.setCell] using this) (fun _=>(za (by omega)).trans (HG2.out.block _ habz (HNE.out _ (by omega)))) (fun b h1 h2=>(za (by omega)).trans (HG2.out.block b (by omega) (HNE.out b (.inr h1)))),(zB (HB.out.grown HG2.out (by omega) (fun g hg=>by have:=HLT.out g hg;omega)) _).setCell hga _,fun b h1 h2=>(za (by omega)).trans ((HG2.out.block b (by omega) (HNE.out b (.inr (by omega)))).trans (HKT.out b h1 h2))⟩
        case measure=>simp [intOf];omega
    ·have hkn':(n:Int)<=(k:Int):=by omega
     obtain ⟨q,hq1,hq2,hq3,hq4⟩:=HLA.out.far k (Nat.le_refl _) hlt (by rw [HN.out];omega)
     rw [hq1] at c0
     have HQ:Hid (IS wq (some ⟨q,0,none⟩) q 0 1 (fun _=>77)):=⟨fun _=>rfl,fun _=>hq4.lt,fun i hi=>by rw [Nat.zero_add,hq4.cell hi]⟩
     clear hq1 hq4
     go_wp2_with fail
     refine (XL (some ⟨q,0,none⟩) q 0 1 1 77 _ (by decide) HQ.out).mono ?_
     rintro e w' ⟨rfl,hww⟩
     subst w'
     go_wp2_with fail
     go_roundw
     case rel=>exact ⟨k+1,_,by omega,by go_num,rfl,HFA.out.set k _,fun i hi=>by rw [if_neg (by omega)];exact HFE.out i (by omega),HFM.out.setOther (by simp only;omega) _,HLA.out.keep (by omega) (by simp [World.setCell]) (fun h=>za (by have:=HALT.out (by rw [<- HN.out];exact h);omega)) (fun b h1 _=>za (by omega)),HB.out.setCell hga _,fun b h1 h2=>(za (by omega)).trans (HKT.out b h1 h2)⟩
     case measure=>simp [intOf];omega
   ·have hkn:k=n+8:=by omega
    subst hkn
    go_wp2_with fail
    go_ret
    exact ⟨rfl,HB.out,HKT.out⟩
end Go.Proofs.YtaebngpoagjafaaGreat
