import Derived.Test.YtaebngpoagjafabGreatV40
import Derived.Deep.DeepCutAuto
import Derived.Deep.MidRow
set_option maxRecDepth 100000
set_option maxHeartbeats 3200000
namespace Go.Proofs.YtaebngpoagjafabGreat
open Obj renaming cells → X
open Value renaming int → J, slice → O
open IntKind renaming i64 → Z
open Go.RowKit
attribute [local go_sem ↓] Go.wp_at_zero Go.wp_at_succ
def ldA (s:ByteArray):Int:=if (Zj s).1=0 then 0 else (Zj s).2
def zd9 (B:Nat) (s:ByteArray) (w:World) (r:Ending) (w':World):Prop :=
 r=.returned (.tuple #[J Z (cpE s),J Z (ldA s)])/\(cpE s≠0->Below w.heap.size w w')/\(cpE s=0->∃ w1 o k,Below w.heap.size w w1/\w1.ownsRow w.heap.size 5 1 (O o (cpX s).length k) (cpX s).length ((cpX s).map (Value.int .u8))/\w'=w1.setCell ⟨B,0,none⟩ (O o (cpX s).length k))
theorem zbf (B:Nat) (f:Nat->Value) (s:ByteArray) (w:World) (hR:w.rowIs B 61 82 f) :
 Calls Tryz.prog 10 #[.pointer (some ⟨B,0,none⟩),.string s] w (zd9 B s w):=by
 have HROW:Hid (w.rowIs B 61 82 f):=hR
 clear hR
 obtain ⟨c,hc⟩:∃ c,Zj s=c:=⟨_,rfl⟩
 have HC:Hid _:=hc
 have HS:Hid (cpE s=if c.1=0 then (if 1000<szR (zA s).es (zA s).es.length then 8 else 0) else c.1):=by show _=_;unfold cpE;rw [hc]
 have HBDS:Hid (c.1=0->(zA s).es.length<=100000/\∀ e∈(zA s).es,e.items.length<=100000):=by
  intro h0
  have hs:¬ 2000<s.size:=fun h=>by rw [<- hc] at h0;unfold Zj at h0;rw [if_pos h] at h0;cases h0
  have h1:=Y6 s (s.size+1) [] 0 0 false
  refine ⟨?_,fun e he=>by have:=h1 e he;omega⟩
  have h2:=Zb s (s.size+1) [] 0 0 false (Nat.zero_le _)
  show (zw s (s.size+1) [] 0 0 false).es.length<=100000
  omega
 have HAT:Hid (ldA s=if c.1=0 then 0 else c.2):=by show _=_;unfold ldA;rw [hc]
 clear hc
 obtain ⟨c1,c2⟩:=c
 simp only at HS HBDS HAT
 go_enter Tryz.func10,Tryz.ntmps10
 go_wp2_with fail
 refine (Q3 s _ (c1,c2) HC).mono ?_
 rintro e w1 ⟨hb,eo,em,ec,ro,rm,rc,rfl,hq⟩
 have HB:Hid _:=hb
 have HQ:Hid _:=hq
 clear hb hq
 cases e1:(c1==0) with
 | false =>
  have e2:(c1 != 0)=true:=by simp [bne,e1]
  have HE:Hid (cpE s=c1):=by show _=_;rw [HS.out,if_neg (by simpa using e1)]
  have HB1:Hid (Below w.heap.size w (w1.alloc (X #[O eo em ec,O ro rm rc] 74))):=HB.out.alloc HB.out.size _
  have HNZ:Hid (c1≠0):=by show ¬ _;simpa using e1
  go_wp2_with fail
  go_ret2
  exact ⟨by rw [HE.out,HAT.out,if_neg HNZ.out];rfl,fun _=>HB1.out,fun h=>by rw [HE.out] at h;exact absurd h HNZ.out⟩
 | true =>
  have h0:c1=0:=by simpa using e1
  subst h0
  obtain ⟨es,hes,hpq⟩:=HQ.out rfl
  have hbd:=HBDS.out rfl
  have HE:Hid ((if 1000<szR (es.map Prod.fst) es.length then (8:Int) else 0)=cpE s):=by
   show _=_
   rw [HS.out,if_pos rfl,<- hes,List.length_map]
  have HXX:Hid (z8 (es.map Prod.fst) es.length=cpX s):=by show _=_;unfold cpX;rw [<- hes,List.length_map]
  obtain ⟨rfl,_,_⟩:=EVw.of_pq hpq
  have hab:yV (es.map Prod.fst):=by rw [hes];exact Qe s
  rw [<- hes] at hbd
  have HB1:Hid (Below w.heap.size w (w1.alloc (X #[O eo es.length ec,O ro rm rc] 74))):=HB.out.alloc HB.out.size _
  have HCP:=xA eo ec ro rm rc w.heap.size es (zA s).rs (w1.alloc (X #[O eo es.length ec,O ro rm rc] 74)) (by simpa using hbd.1) (fun p hp=>hbd.2 p.1 (List.mem_map_of_mem hp)) hab ⟨hpq.ex.alloc _,hpq.rl.alloc _,fun p hp=>(hpq.it p hp).alloc _⟩ (cpE s) HE
  rw [HXX.out] at HCP
  clear hpq hes hbd hab
  go_wp2_with fail
  refine HCP.mono ?_
  rintro e w2 ⟨hb2,o,m,k,rfl,hn,hz⟩
  have HB2:Hid _:=HB1.out.trans (hb2.mono HB1.out.size)
  have HN2:Hid _:=hn
  have HZ2:Hid (cpE s=0->m=(cpX s).length/\w2.ownsRow w.heap.size 5 1 (O o m k) (cpX s).length ((cpX s).map (Value.int .u8))):=fun h=>⟨(hz h).1,yk (hz h).2 HB1.out.size⟩
  have hrow2:=HROW.out.of_block (HB2.out.block B HROW.out.lt)
  have c0:=hrow2.cell (i:=0) (by omega)
  have z0:=hrow2.frozen 0
  have HA0:Hid (ldA s=0):=by show _=_;rw [HAT.out];simp
  clear hb2 hn hz hrow2
  obtain ⟨v,HV⟩:∃ v,Hid (cpE s=v):=⟨_,rfl⟩
  rw [HV.out]
  cases e3:(v==0) with
  | false =>
   have e4:(v != 0)=true:=by simp [bne,e3]
   have HNZ:Hid (cpE s≠0):=by show ¬ _;rw [HV.out];simpa using e3
   go_wp2_with fail
   go_ret2
   exact ⟨by rw [HA0.out,HV.out];rfl,fun _=>HB2.out,fun h=>absurd h HNZ.out⟩
  | true =>
   have h0:v=0:=by simpa using e3
   subst h0
   obtain ⟨rfl,hown⟩:=HZ2.out HV.out
   have HOW:Hid _:=hown
   clear hown
   go_wp2_with fail
   go_ret2
   exact ⟨by rw [HA0.out,HV.out];rfl,fun h=>absurd HV.out h,fun _=>⟨w2,o,k,HB2.out,HOW.out,rfl⟩⟩
def sv0:Array Value:=#[O none 0 0]++Array.replicate 64 (.bool false)++Array.replicate 16 (O none 0 0)++#[O none 0 0]
theorem zcS (w:World):(Instr.build 61 #[]).run Tryz.prog w=.ok (.agg sv0) w:=run_build w 61 _ _ (by kernel_rfl)
theorem Jz (w:World):Calls Tryz.prog 7 #[] w fun e w'=>e=.returned (.pointer (some ⟨w.heap.size,0,none⟩))/\w'=w.alloc (X sv0 61):=by
 have hb:=fun w=>zcS w
 go_enter Tryz.func7,Tryz.ntmps7
 go_wp2_with fail
 go_ret
 exact ⟨rfl,rfl⟩
theorem zcA (B n:Nat) (up:Bool) (f:Nat->Value) (w:World) (hn:n<64) (h:w.rowIs B 61 82 f) :
 Calls Tryz.prog 16 #[.pointer (some ⟨B,0,none⟩),J Z n,.bool up] w fun e w'=>e=.returned (J Z 0)/\w'=w.setCell ⟨B,1+n,none⟩ (.bool !up):=by
 have c0:=h.cell (i:=1+n) (by omega)
 have z0:=h.frozen (1+n)
 have hn0:(0:Int)<=(n:Int):=by omega
 have hn1:(n:Int)<64:=by omega
 clear h
 go_enter Tryz.func16,Tryz.ntmps16
 go_wp2_with fail
 go_ret
 exact ⟨rfl,rfl⟩
def svF (cv:Value) (dn:Nat->Bool) (av:Nat->Value) (pv:Value) (i:Nat):Value:=if i=0 then cv else if i<65 then .bool (dn (i-1)) else if i<81 then av (i-65) else pv
theorem Jy (w:World):(w.alloc (X sv0 61)).rowIs w.heap.size 61 82 (svF (O none 0 0) (fun _=>false) (fun _=>O none 0 0) (O none 0 0)):=by
 have hs:sv0.size=82:=by simp [sv0]
 have:=World.rowIs_alloc w sv0 61 (svF (O none 0 0) (fun _=>false) (fun _=>O none 0 0) (O none 0 0)) (fun i hi=>by
  rw [hs] at hi
  unfold sv0 svF
  simp only [Array.getElem?_append,Array.getElem?_replicate,Array.size_append,Array.size_replicate,List.size_toArray,List.length_cons,List.length_nil,Nat.zero_add]
  by_cases h0:i=0
  ·subst h0;rfl
  ·by_cases h1:i<65
   ·simp only [if_neg h0,if_pos h1,if_pos (show i<1+64+16 by omega),if_neg (show ¬ i<1 by omega),if_pos (show i-1<64 by omega)]
   ·by_cases h2:i<81
    ·simp only [if_neg h0,if_neg h1,if_pos h2,if_pos (show i-(1+64)<16 by omega)]
    ·simp only [if_neg h0,if_neg h1,if_neg h2,show i-(1+64+16)=0 by omega]
     rfl)
 rw [hs] at this
 exact this
def dnL (dn:Nat->Bool):Nat->List Int
 | 0=>[]
 | n+1=>dnL dn n++(if dn n=true then [(n:Int)] else [])
theorem Xp (dn:Nat->Bool):∀ n,(dnL dn n).length<=n:=by
 intro n
 induction n with
 | zero=>exact Nat.le_refl _
 | succ n ih=>simp only [dnL,List.length_append];split<;>simp<;>omega
def dnC (dn:Nat->Bool):List Value:=(List.range 64).map fun i=>.bool (dn i)
theorem Jg (dn:Nat->Bool):(dnC dn).length=64:=by simp [dnC]
theorem zbB (dn:Nat->Bool) {i:Nat} (h:i<64):(dnC dn)[i]?=some (.bool (dn i)):=by simp [dnC,h]
theorem zbA {w:World} {B:Nat} {cv pv:Value} {dn:Nat->Bool} {av:Nat->Value} (h:w.rowIs B 61 82 (svF cv dn av pv)):w.rangeAt B 1 (dnC dn):=by
 intro j v hv
 have hj:=(List.getElem?_eq_some_iff.1 hv).1
 rw [Jg] at hj
 rw [zbB dn hj] at hv
 rw [h.cell (i:=1+j) (by omega),<- hv]
 unfold svF
 rw [if_neg (by omega),if_pos (by omega),show 1+j-1=j by omega]
theorem zcC (dn:Nat->Bool) {i:Nat} (h:i<64) (w:World):(Instr.index 58 (.agg (dnC dn).toArray) (J Z (i:Int))).run Tryz.prog w=.ok (.bool (dn i)) w:=by
 have hu:Tryz.prog.underlying 58=some (.array 64 4):=by kernel_rfl
 have h0:(0:Int)<=(i:Int)/\(i:Int)<((64:Nat):Int):=by omega
 have h2:(dnC dn).toArray[i]?=some (.bool (dn i)):=by rw [List.getElem?_toArray];exact zbB dn h
 generalize (dnC dn).toArray=C at h2
 simp [Instr.index,run_underlying hu,asIntOf,h,go_sem,h2]
theorem zbz (B:Nat) (dn:Nat->Bool) (w:World) (h:w.rangeAt B 1 (dnC dn)) :
 Calls Tryz.prog 28 #[.pointer (some ⟨B,0,none⟩)] w fun e w'=>Below w.heap.size w w'/\∃ o k,e=.returned (O o (dnL dn 64).length k)/\w'.ownsRow w.heap.size 3 1 (O o (dnL dn 64).length k) (dnL dn 64).length ((dnL dn 64).map (J Z)):=by
 obtain ⟨i1,hi1,hy0,hy1,hy2⟩:=info_parts Tryz.infoInt
 have hrg:Hid ((w.alloc (X #[] 3)).rangeAt B 1 (dnC dn)):=World.rangeAt_alloc h _
 have hsz:(Tryz.prog.info? 58).map (·.size)=some (dnC dn).length:=by rw [Jg];kernel_rfl
 clear h
 have hix:=fun (i:Nat) (h:i<64) (w:World)=>zcC dn h w
 have HX:Hid (∀ (i:Nat),i<64->∀ w,(Instr.index 58 (.agg (dnC dn).toArray) (J Z (i:Int))).run Tryz.prog w=.ok (.bool (dn i)) w):=hix
 clear hix
 go_enter Tryz.func28,Tryz.ntmps28
 go_wp2_with (refine wpList_load_mid rfl _ _ rfl B 1 rfl (dnC dn) (.array 64 4) hrg.out (by kernel_rfl) rfl hsz ?_)
 generalize (dnC dn).toArray=C at HX ⊢
 clear hrg hsz
 go_loopg [3,11] 64 (fun q x3 y wr=>∃ (j:Nat),q+j=64/\y=J Z j/\(∃ o3 k3,x3=O o3 (dnL dn j).length k3)/\wr.ownsRow w.heap.size 3 1 x3 (dnL dn j).length ((dnL dn j).map (J Z))/\Below w.heap.size w wr)
 case atStart=>exact ⟨0,by omega,rfl,⟨_,_,rfl⟩,World.ownsRow_made w #[] 0 (Nat.le_refl _) (Nat.zero_le _) rfl,(Below.refl _ _).alloc (Nat.le_refl _) _⟩
 case round =>
  obtain ⟨j,hq,rfl,⟨o3,k3,rfl⟩,hrow,hb⟩:=hrel
  have HR:Hid (wr.ownsRow w.heap.size 3 1 (O o3 (dnL dn j).length k3) (dnL dn j).length ((dnL dn j).map (J Z))):=hrow
  have HB:Hid (Below w.heap.size w wr):=hb
  have hbs:=hb.size
  clear hrow hb
  have hdl:=Xp dn j
  by_cases hj:j<64
  ·have hj':(j:Int)<64:=by omega
   have hj0:(0:Int)<=(j:Int):=by omega
   have hix:=HX.out j hj
   have HE:Hid (dnL dn (j+1)=dnL dn j++(if dn j=true then [(j:Int)] else [])):=(rfl:dnL dn (j+1)=_)
   generalize dn j=d at hix HE
   generalize dnL dn j=L at *
   cases d with
   | false =>
    simp only [Bool.false_eq_true,if_false,List.append_nil] at HE
    go_wp2_with fail
    go_roundg (64-(j+1))
    case measure=>omega
    case rel=>exact ⟨j+1,by omega,by go_num,⟨o3,k3,by rw [HE.out]⟩,by rw [HE.out];exact HR.out,HB.out⟩
   | true =>
    simp only [if_true] at HE
    have hone:∀ u∈[J Z (j:Int)],u.oneCell'=true:=fun u hu=>by simp at hu;subst hu;rfl
    go_wp2_with (at_builtin;refine wpList_append_lies _ rfl _ _ 25 rfl w.heap.size 3 i1 _ 1 8 Tryz.underlying25 hi1 hy0 hy1 hy2 rfl (by decide) (O o3 L.length k3) _ _ rfl (HR.out.alloc _) ⟨wr.heap.size,0,none⟩ 1 1 [J Z j] rfl rfl (World.news_of_block (cs:=#[J Z j]) (t:=3) (fr:=(0,0)) (heap_alloc_new wr _)) hone (Nat.lt_succ_self 0) (by unfold maxLen;omega) (by omega) (by simp;omega) (wr.heap.size+1) (by simp) ?_;intro g4 cap4 w4 hown4 hgrow4 hat4 hlt4)
    have HR4:Hid (w4.ownsRow w.heap.size 3 1 (O (some ⟨g4,0,none⟩) (L.length+1) cap4) (L++[(j:Int)]).length ((L++[(j:Int)]).map (J Z))):=by
     show World.ownsRow _ _ _ _ _ _ _
     rw [List.length_append,List.map_append]
     exact hown4
    have HB4:Hid (Below w.heap.size w w4):=(HB.out.alloc hbs _).grown hgrow4 (by simp;omega) (fun k hk=>(HR.out.lt k hk).1)
    clear hown4 hgrow4 hat4
    go_roundg (64-(j+1))
    case measure=>omega
    case rel=>exact ⟨j+1,by omega,by go_num,⟨some ⟨g4,0,none⟩,cap4,by rw [HE.out];simp⟩,by rw [HE.out];exact HR4.out,HB4.out⟩
  ·have hj':¬ (j:Int)<64:=by omega
   have hje:j=64:=by omega
   subst hje
   go_wp2_with fail
   go_ret
   exact ⟨HB.out,o3,k3,rfl,HR.out⟩
def quF (a b d:Int) (dn:Nat->Bool) (al:List (List Int)) (V L R:Nat->Int) (pl:Nat) (C:List Int):Int×(List Int×Int×Int) :=
 if Zm a b d=true then (if C.length=0 then (12,[],0,0) else ruF a b d (fun i=>((dnL dn 64)[i]?).getD 0) (dnL dn 64).length al V L R pl C C.length) else (9,[],0,0)
theorem JO (B:Nat) (a b d:Int) (co:Option Addr) (cb coff cc:Nat) (C:List Int) (dn:Nat->Bool) (av:Nat->Value) (al:List (List Int)) (po:Option Addr) (pb poff pl pcp:Nat) (V L R:Nat->Int) (w:World) (hrow:w.rowIs B 61 82 (svF (O co C.length cc) dn av (O po pl pcp))) (hC:C.length<=140737488355328) (hl:al.length=16) (hs:TS w po pb poff pl V L R) (hal:AS w w.heap.size (some ⟨B,65,none⟩) B 65 al) (hcs:CS w w.heap.size co cb coff C) :
 Calls Tryz.prog 12 #[.pointer (some ⟨B,0,none⟩),J Z a,J Z b,J Z d] w (xT w (quF a b d dn al V L R pl C)):=by
 have HS:Hid _:=hs
 have HAS:Hid _:=hal
 have HCS:Hid _:=hcs
 have HROW:Hid (w.rowIs B 61 82 (svF (O co C.length cc) dn av (O po pl pcp))):=hrow
 have hBl:=hrow.lt
 have k0:w.cell? ⟨B,0,none⟩=some (O co C.length cc):=hrow.cell (i:=0) (by omega)
 have k81:w.cell? ⟨B,81,none⟩=some (O po pl pcp):=hrow.cell (i:=81) (by omega)
 obtain ⟨Q,HQ⟩:∃ Q,Hid (quF a b d dn al V L R pl C=Q):=⟨_,rfl⟩
 rw [HQ.out]
 have HB0:Hid (Below w.heap.size w (w.alloc (X #[O none 0 0,J Z 0,J Z 0] 42))):=(Below.refl _ _).alloc (Nat.le_refl _) _
 have HR0:Hid ((w.alloc (X #[O none 0 0,J Z 0,J Z 0] 42)).heap[w.heap.size]?=some (X #[O none 0 0,J Z 0,J Z 0] 42 (0,0))):=heap_alloc_new w _
 have HEND:Hid (∀ (we:World) (tm:Array Value) (x:Value) (t c n:Int),we.heap[w.heap.size]?=some (X #[x,J Z t,J Z c] 42 (0,0))->tm.getD 8 undef=.pointer (some ⟨w.heap.size,0,none⟩)->tm.getD 9 undef=J Z n->xT w Q (.returned (.tuple #[.agg #[x,J Z t,J Z c],J Z n])) we->bodyPost Tryz.prog Tryz.f12 (xT w Q) .ret ⟨tm,[]⟩ we):=fun we tm x t c n h1 h2 h3 h4=>by
  refine bodyPost_ret (v:=.tuple #[.agg #[x,J Z t,J Z c],J Z n]) ?_ rfl h4
  rw [results_cell_tmp Tryz.results12,h2,h3]
  have h5:(asAddr (.pointer (some ⟨w.heap.size,0,none⟩))).run Tryz.prog we=.ok ⟨w.heap.size,0,none⟩ we:=rfl
  have h6:=run_loadVar_row (P:=Tryz.prog) we w.heap.size 42 42 #[x,J Z t,J Z c] (0,0) _ h1 Tryz.underlying42 rfl (by kernel_rfl)
  rw [h5,Result.andThen_ok,h6,Result.andThen_ok]
 clear hs hal hcs hrow
 go_enter Tryz.func12,Tryz.ntmps12
 go_wp2_with fail
 refine (Yz a b d _).mono ?_
 rintro e w1 ⟨rfl,hw1⟩
 subst w1
 cases hr:Zm a b d with
 | false =>
  have HE:Hid (Q=(9,[],0,0)):=by show _=_;rw [<- HQ.out];unfold quF;rw [hr];rfl
  clear hr
  go_wp2_with fail
  exact HEND.out _ _ _ _ _ _ HR0.out rfl rfl ⟨HB0.out,none,0,0,by rw [HE.out],fun _=>⟨rfl,rfl,rfl⟩,fun h=>by rw [HE.out] at h;cases h⟩
 | true =>
  have HE:Hid (Q=if C.length=0 then (12,[],0,0) else ruF a b d (fun i=>((dnL dn 64)[i]?).getD 0) (dnL dn 64).length al V L R pl C C.length):=by show _=_;rw [<- HQ.out];unfold quF;rw [if_pos hr]
  clear hr
  by_cases hc0:C.length=0
  ·have HE2:Hid (Q=(12,[],0,0)):=by show _=_;rw [HE.out,if_pos hc0]
   rw [hc0] at k0
   clear hc0
   go_wp2_with fail
   exact HEND.out _ _ _ _ _ _ HR0.out rfl rfl ⟨HB0.out,none,0,0,by rw [HE2.out],fun _=>⟨rfl,rfl,rfl⟩,fun h=>by rw [HE2.out] at h;cases h⟩
  ·have HE2:Hid (ruF a b d (fun i=>((dnL dn 64)[i]?).getD 0) (dnL dn 64).length al V L R pl C C.length=Q):=by show _=_;rw [HE.out,if_neg hc0]
   have hcp:(C.length:Int)≠0:=by omega
   have hcd:decide ((C.length:Int)=0)=false:=decide_eq_false hcp
   have HDL:Hid ((dnL dn 64).length<=64):=Xp dn 64
   have HMR:Hid (∀ (wz:World) (o:Option Addr) (g k:Nat),TS wz po pb poff pl V L R->IS wz o g 0 (dnL dn 64).length (fun i=>((dnL dn 64)[i]?).getD 0)->AS wz wz.heap.size (some ⟨B,65,none⟩) B 65 al->CS wz wz.heap.size co cb coff C->Calls Tryz.prog 29 #[O co C.length cc,.agg #[J Z a,J Z b,J Z d,O o (dnL dn 64).length k,O (some ⟨B,65,none⟩) 16 16,O po pl pcp],J Z C.length] wz (xT wz Q)):=fun wz o g k h1 h2 h3 h4=>by
    have:=QI a b d o (some ⟨B,65,none⟩) po (dnL dn 64).length k 16 pl pcp pb poff g 0 B 65 al (fun i=>((dnL dn 64)[i]?).getD 0) V L R co cb coff cc C C.length wz hC (by omega) (by have:=HDL.out;omega) (by omega) h1 h2 h3 h4
    rw [hl,HE2.out] at this
    exact this
   have HDN:Hid (∀ wz:World,wz.rowIs B 61 82 (svF (O co C.length cc) dn av (O po pl pcp))->Calls Tryz.prog 28 #[.pointer (some ⟨B,0,none⟩)] wz fun e w'=>Below wz.heap.size wz w'/\∃ o k,e=.returned (O o (dnL dn 64).length k)/\w'.ownsRow wz.heap.size 3 1 (O o (dnL dn 64).length k) (dnL dn 64).length ((dnL dn 64).map (J Z))):=fun wz h=>zbz B dn wz (zbA h)
   clear hc0 HE HE2
   generalize dnL dn 64=dl at *
   have HB5:Hid (Below w.heap.size w ((w.alloc (X #[O none 0 0,J Z 0,J Z 0] 42)).alloc (X #[J Z a,J Z b,J Z d,O none 0 0,O none 0 0,O po pl pcp] 31))):=HB0.out.alloc (by simp) _
   have HW5:Hid (((w.alloc (X #[O none 0 0,J Z 0,J Z 0] 42)).alloc (X #[J Z a,J Z b,J Z d,O none 0 0,O none 0 0,O po pl pcp] 31)).heap[w.heap.size+1]?=some (X #[J Z a,J Z b,J Z d,O none 0 0,O none 0 0,O po pl pcp] 31 (0,0))):=zy _ (by simp)
   have HA5:Hid (((w.alloc (X #[O none 0 0,J Z 0,J Z 0] 42)).alloc (X #[J Z a,J Z b,J Z d,O none 0 0,O none 0 0,O po pl pcp] 31)).heap[w.heap.size]?=some (X #[O none 0 0,J Z 0,J Z 0] 42 (0,0))):=by show _=_;rw [Below.heap_alloc _ _ _ (by simp)];exact heap_alloc_new w _
   go_wp2_with fail
   refine (HDN.out _ (HROW.out.of_block (HB5.out.block B hBl))).mono ?_
   rintro e w6 ⟨hb6,o6,k6,rfl,hown6⟩
   have HB6:Hid _:=HB5.out.trans (hb6.mono HB5.out.size)
   have hW6:=(hb6.block _ (lt_of_block HW5.out)).trans HW5.out
   have HA6:Hid _:=(hb6.block _ (lt_of_block HA5.out)).trans HA5.out
   have HO6:Hid (w6.ownsRow w.heap.size 3 1 (O o6 dl.length k6) dl.length (dl.map (J Z))):=yk hown6 HB5.out.size
   have hlW:=lt_of_block hW6
   obtain ⟨q0,q1,q2,q3,q4,q5⟩:=ld6 hW6 rfl
   have f3:w6.frozen? ⟨w.heap.size+1,3,none⟩=false:=by simp [World.frozen?,hW6]
   have f4:w6.frozen? ⟨w.heap.size+1,4,none⟩=false:=by simp [World.frozen?,hW6]
   have HW6:Hid _:=hW6
   clear hb6 hown6 hW6 HB5 HW5 HA5
   go_wp2_with fail
   have HW7:Hid (((w6.setCell ⟨w.heap.size+1,3,none⟩ (O o6 dl.length k6)).setCell ⟨w.heap.size+1,4,none⟩ (O (some ⟨B,65,none⟩) 16 16)).heap[w.heap.size+1]?=some (X #[J Z a,J Z b,J Z d,O o6 dl.length k6,O (some ⟨B,65,none⟩) 16 16,O po pl pcp] 31 (0,0))):=by show _=_;rw [zM (zM HW6.out)];rfl
   have HB7:Hid (Below w.heap.size w ((w6.setCell ⟨w.heap.size+1,3,none⟩ (O o6 dl.length k6)).setCell ⟨w.heap.size+1,4,none⟩ (O (some ⟨B,65,none⟩) 16 16))):=(HB6.out.setCell (by simp only;omega) _).setCell (by simp only;omega) _
   have HA7:Hid (((w6.setCell ⟨w.heap.size+1,3,none⟩ (O o6 dl.length k6)).setCell ⟨w.heap.size+1,4,none⟩ (O (some ⟨B,65,none⟩) 16 16)).heap[w.heap.size]?=some (X #[O none 0 0,J Z 0,J Z 0] 42 (0,0))):=by show _=_;rw [za (by omega),za (by omega)];exact HA6.out
   have HO7:Hid (((w6.setCell ⟨w.heap.size+1,3,none⟩ (O o6 dl.length k6)).setCell ⟨w.heap.size+1,4,none⟩ (O (some ⟨B,65,none⟩) 16 16)).ownsRow w.heap.size 3 1 (O o6 dl.length k6) dl.length (dl.map (J Z))):=zh HO6.out (fun g hg=>by
    have hne:g≠w.heap.size+1:=fun e=>zs HO6.out HW6.out (by decide) (by rw [<- e];exact hg)
    rw [za hne,za hne])
   generalize (w6.setCell ⟨w.heap.size+1,3,none⟩ (O o6 dl.length k6)).setCell ⟨w.heap.size+1,4,none⟩ (O (some ⟨B,65,none⟩) 16 16)=w7 at *
   obtain ⟨g7,his7⟩:=YM HO7.out
   have HCALL:Hid (∀ wz,Below w7.heap.size w7 wz->Calls Tryz.prog 29 #[O co C.length cc,.agg #[J Z a,J Z b,J Z d,O o6 dl.length k6,O (some ⟨B,65,none⟩) 16 16,O po pl pcp],J Z C.length] wz fun e w8=>Below w.heap.size w w8/\Below w7.heap.size w7 w8/\xT wz Q e w8/\w7.heap.size<=wz.heap.size):=fun wz hz=>by
    have hB:Below w.heap.size w wz:=HB7.out.trans (hz.mono HB7.out.size)
    refine (HMR.out wz o6 g7 k6 (HS.out.below hB) (his7.below hz his7.lt) ((HAS.out.of_kept (fun b hb=>hB.block b hb)).wide hB.size) ((HCS.out.of_kept (fun b hb=>hB.block b hb)).wide hB.size)).mono ?_
    intro e w8 h8
    exact ⟨hB.trans (h8.1.mono hB.size),hz.trans (h8.1.mono hz.size),h8,hz.size⟩
   have k7:w7.cell? ⟨B,0,none⟩=some (O co C.length cc):=by rw [World.cell?_of_block (HB7.out.block B hBl)];exact k0
   clear q0 q1 q2 q3 q4 q5 f3 f4 k0 k81 his7
   obtain ⟨q0,q1,q2,q3,q4,q5⟩:=ld6 HW7.out rfl
   have hlA:=lt_of_block HA7.out
   have hlW7:=lt_of_block HW7.out
   have hB7l:B<w7.heap.size:=Nat.lt_of_lt_of_le hBl HB7.out.size
   have hneB:w.heap.size≠B:=by omega
   have hneW:w.heap.size≠w.heap.size+1:=by omega
   go_region_held3 (fun w'=>w'.cell? ⟨B,0,none⟩=some (O co C.length cc)/\w'.cell? ⟨w.heap.size+1,0,none⟩=some (J Z a)/\w'.cell? ⟨w.heap.size+1,1,none⟩=some (J Z b)/\w'.cell? ⟨w.heap.size+1,2,none⟩=some (J Z d)/\w'.cell? ⟨w.heap.size+1,3,none⟩=some (O o6 dl.length k6)/\w'.cell? ⟨w.heap.size+1,4,none⟩=some (O (some ⟨B,65,none⟩) 16 16)/\w'.cell? ⟨w.heap.size+1,5,none⟩=some (O po pl pcp)) (first | (exact ⟨k7,q0,q1,q2,q3,q4,q5⟩) | (exact hS8) | (exact ⟨yl hneB (yl hneB (yl hneB hS8.1 _ _) _ _) _ _,yl hneW (yl hneW (yl hneW hS8.2.1 _ _) _ _) _ _,yl hneW (yl hneW (yl hneW hS8.2.2.1 _ _) _ _) _ _,yl hneW (yl hneW (yl hneW hS8.2.2.2.1 _ _) _ _) _ _,yl hneW (yl hneW (yl hneW hS8.2.2.2.2.1 _ _) _ _) _ _,yl hneW (yl hneW (yl hneW hS8.2.2.2.2.2.1 _ _) _ _) _ _,yl hneW (yl hneW (yl hneW hS8.2.2.2.2.2.2 _ _) _ _) _ _⟩) | go_keep) (first | (go_at_call 29;refine (HCALL.out _ (by first | exact (Below.refl _ _).drew | exact Below.refl _ _)).mono ?_;rintro e w8 ⟨hb8,hc8,⟨_,o8,m8,k8,rfl,hne8,heq8⟩,hsz8⟩;have HB8:Hid _:=hb8;have HNE8:Hid _:=hne8;have HEQ8:Hid _:=heq8;have hS8:_/\_:=⟨(World.cell?_of_block (hc8.block _ hB7l)).trans k7,ld6 HW7.out (hc8.block _ hlW7)⟩;have HA8:Hid _:=(hc8.block _ hlA).trans HA7.out;obtain ⟨y0,y1,y2,z0,z1,z2⟩:=ld3 HA8.out;clear hb8 hne8 heq8 hc8))
   all_goals
    go_wp2_with fail
    refine HEND.out _ _ _ _ _ _ (yU HA8.out) rfl rfl ⟨((HB8.out.setCell (Nat.le_refl _) _).setCell (Nat.le_refl _) _).setCell (Nat.le_refl _) _,o8,m8,k8,rfl,HNE8.out,fun h=>⟨(HEQ8.out h).1,?_⟩⟩
    have hr8:w8.ownsRow w.heap.size 3 1 (O o8 m8 k8) Q.2.1.length (Q.2.1.map (J Z)):=yk (HEQ8.out h).2 (Nat.le_trans HB7.out.size hsz8)
    exact zaP hr8 (zs hr8 HA8.out (by decide)) _ _ _
def zeb (n:Nat) (D:Nat->Int) (w:World) (e:Ending) (w':World):Prop:=w'=w/\∃ r,e=.returned (.bool r)/\(r=true↔n<=16/\∀ i,i<n->0<=D i/\D i<64)
theorem zak (o:Option Addr) (b off n c:Nat) (D:Nat->Int) (w:World) (h:IS w o b off n D) :
 Calls Tryz.prog 40 #[O o n c] w (zeb n D w):=by
 by_cases hn:16<n
 ·have hn':(16:Int)<(n:Int):=by omega
  go_enter Tryz.func40,Tryz.ntmps40
  go_wp2_with fail
  go_ret
  exact ⟨rfl,false,rfl,by simp;omega⟩
 have hn':¬ (16:Int)<(n:Int):=by omega
 have HI:Hid (IS w o b off n D):=h
 clear h
 go_enter Tryz.func40,Tryz.ntmps40
 go_wp2_with fail
 go_loopg [10] n (fun q y wr=>∃ (j:Nat),q+j=n/\y=J Z j/\wr=w/\∀ i,i<j->0<=D i/\D i<64)
 case atStart=>exact ⟨0,by omega,rfl,rfl,fun i hi=>absurd hi (Nat.not_lt_zero _)⟩
 case round =>
  obtain ⟨j,hq,rfl,rfl,hd⟩:=hrel
  have HD:Hid (∀ i,i<j->0<=D i/\D i<64):=hd
  clear hd
  by_cases hj:j<n
  ·have hj':(j:Int)<(n:Int):=by omega
   have hj0:(0:Int)<=(j:Int):=by omega
   have ho:=HI.out.at_ (by omega)
   have hc:=HI.out.val j hj
   subst ho
   have HE:Hid (∀ v,D j=v->0<=v->v<64->∀ i,i<j+1->0<=D i/\D i<64):=fun v hv h0 h1 i hi=>by
    rcases Nat.lt_succ_iff_lt_or_eq.1 hi with hi | rfl
    ·exact HD.out i hi
    ·rw [hv];exact ⟨h0,h1⟩
   obtain ⟨v,hv⟩:∃ v,D j=v:=⟨_,rfl⟩
   rw [hv] at hc
   have HV:Hid (D j=v):=hv
   clear hv
   by_cases h0:v<0
   ·go_wp2_with fail
    go_ret
    exact ⟨rfl,false,rfl,by simp;intro _;exact ⟨j,hj,by rw [HV.out];omega⟩⟩
   ·by_cases h1:64<=v
    ·go_wp2_with fail
     go_ret
     exact ⟨rfl,false,rfl,by simp;intro _;exact ⟨j,hj,by rw [HV.out];omega⟩⟩
    ·go_wp2_with fail
     go_roundg (n-(j+1))
     case measure=>omega
     case rel=>exact ⟨j+1,by omega,by go_num,rfl,HE.out v HV.out (by omega) (by omega)⟩
  ·have hj':¬ (j:Int)<(n:Int):=by omega
   have hje:j=n:=by omega
   subst hje
   go_wp2_with fail
   go_ret
   exact ⟨rfl,true,rfl,by simp;exact ⟨by omega,HD.out⟩⟩
def isC (D:Nat->Int) (n:Nat):List Value:=(List.range n).map fun i=>J Z (D i)
theorem Jd (D:Nat->Int) (n:Nat):(isC D n).length=n:=by simp [isC]
theorem zdv (D:Nat->Int) {n i:Nat} (h:i<n):(isC D n)[i]?=some (J Z (D i)):=by simp [isC,h]
theorem zcF (D:Nat->Int) (n:Nat):∀ u∈isC D n,u.oneCell'=true:=fun u hu=>by
 simp only [isC,List.mem_map] at hu
 obtain ⟨i,_,rfl⟩:=hu
 rfl
theorem IS.src {w:World} {o:Option Addr} {b off n:Nat} {D:Nat->Int} (h:IS w o b off n D) {w':World} (hw:∀ i,i<n->w'.cell? ⟨b,off+i,none⟩=w.cell? ⟨b,off+i,none⟩) :
 0<n->∃ ad,o=some ad/\∀ j u,(isC D n)[j]?=some u->w'.cell? (ad.add j)=some u:=fun hn =>
 ⟨_,h.at_ hn,fun j u hu=>by
  have hj:=(List.getElem?_eq_some_iff.1 hu).1
  rw [Jd] at hj
  rw [zdv D hj] at hu
  rw [Addr.add_mid,hw j hj,h.val j hj,hu]⟩
def zec (B k n:Nat) (D:Nat->Int) (w:World) (e:Ending) (w':World):Prop :=
 e=.returned (J Z 0)/\∃ w1 oo cap,Below w.heap.size w w1/\w1.ownsRow w.heap.size 3 1 (O oo n cap) n (isC D n)/\w'=w1.setCell ⟨B,65+k,none⟩ (O oo n cap)
theorem zbW (B k:Nat) (o:Option Addr) (b off n c:Nat) (D:Nat->Int) (f:Nat->Value) (w:World) (hk:k<16) (hB:w.rowIs B 61 82 f) (h:IS w o b off n D) (hn:n<=16) (hD:∀ i,i<n->0<=D i/\D i<64) :
 Calls Tryz.prog 18 #[.pointer (some ⟨B,0,none⟩),J Z k,O o n c] w (zec B k n D w):=by
 obtain ⟨i1,hi1,hy0,hy1,hy2⟩:=info_parts Tryz.infoInt
 have HI:Hid (IS w o b off n D):=h
 have HB:Hid (w.rowIs B 61 82 f):=hB
 have HD:Hid (n<=16/\∀ i,i<n->0<=D i/\D i<64):=⟨hn,hD⟩
 have hk0:(0:Int)<=(k:Int):=by omega
 have hk1:(k:Int)<16:=by omega
 clear h hB hD
 go_enter Tryz.func18,Tryz.ntmps18
 go_wp2_with fail
 refine (zak o b off n c D w HI.out).mono ?_
 rintro e w' ⟨rfl,r,rfl,hr⟩
 have hrf:r=true:=hr.2 HD.out
 subst hrf
 clear hr
 have hBl:=HB.out.lt
 have hO:Hid ((w'.alloc (X #[] 3)).drew.ownsRow w'.heap.size 3 1 (O (some ⟨w'.heap.size,0,none⟩) 0 0) 0 []):=(World.ownsRow_made w' #[] 0 (Nat.le_refl _) (Nat.zero_le _) rfl).drew
 have hS:Hid (0<n->∃ ad,o=some ad/\∀ j u,(isC D n)[j]?=some u->(w'.alloc (X #[] 3)).drew.cell? (ad.add j)=some u):=HI.out.src (fun i hi=>by
  show (w'.alloc _).cell? _=_
  rw [World.cell?_alloc_lt _ _ _ (HI.out.lt (by omega))])
 have hG:Hid (∀ w9,(w'.alloc (X #[] 3)).drew.grownBy w9 (some w'.heap.size)->w9.cell? ⟨B,65+k,none⟩=some (f (65+k))/\w9.frozen? ⟨B,65+k,none⟩=false):=fun w9 hg=>by
  have hne:some (⟨B,65+k,none⟩:Addr).block≠some w'.heap.size:=by simp;omega
  have hlt:(⟨B,65+k,none⟩:Addr).block<(w'.alloc (X #[] 3)).drew.heap.size:=by show B<(w'.alloc _).heap.size;simp;omega
  refine ⟨?_,?_⟩
  ·rw [hg.cell_far _ hlt hne]
   show (w'.alloc _).cell? _=_
   rw [World.cell?_alloc_lt _ _ _ hBl]
   exact HB.out.cell (by omega)
  ·rw [hg.frozen_far _ hlt hne]
   show (w'.alloc _).frozen? _=_
   rw [World.frozen?_alloc_past _ _ _ hBl]
   exact HB.out.frozen _
 have hA1:Hid (0+n<=maxLen):=by show _<=_;unfold maxLen;omega
 have hA2:Hid ((0+n)*8<=140737488355328):=by show _<=_;omega
 have hA3:Hid (w'.heap.size<=(w'.alloc (X #[] 3)).drew.heap.size):=by show w'.heap.size<=(w'.alloc _).heap.size;simp
 go_wp2_with fail
 go_region_law ((refine Xk _ _ _ _ (by rfl) w'.heap.size 3 i1 _ 1 8 Tryz.underlying25 hi1 hy0 hy1 hy2 rfl (by decide) (O (some ⟨w'.heap.size,0,none⟩) 0 0) _ _ (by rfl) hO.out o n c (isC D n) (by rfl) (by rw [Jd,Nat.mul_one]) hS.out (zcF D n) hA1.out hA2.out hA3.out (w'.heap.size+1) (by simp) (by rfl) ?_;intro oo cap w9 hown hgrow hat;obtain ⟨y3,yz⟩:=hG.out w9 hgrow))
 all_goals
  have HR9:Hid (w9.ownsRow w'.heap.size 3 1 (O oo n cap) n (isC D n)):=by
   have:=hown
   rw [Nat.zero_add,List.nil_append] at this
   exact this
  have HB9:Hid (Below w'.heap.size w' w9):=((Below.refl _ _).alloc (Nat.le_refl _) _).drew.grown hgrow hA3.out (fun k hk=>by cases hk;exact Nat.le_refl _)
  clear hown hgrow hat
  go_wp2_with fail
  go_ret
  exact ⟨rfl,w9,oo,cap,HB9.out,HR9.out,rfl⟩
def plC (V L R:Nat->Int) (n:Nat):List Value:=(List.range (n*3)).map fun j=>J Z (if j%3=0 then V (j / 3) else if j%3=1 then L (j / 3) else R (j / 3))
theorem j6 (V L R:Nat->Int) (n:Nat):(plC V L R n).length=n*3:=by simp [plC]
theorem qW (V L R:Nat->Int) {n j:Nat} (h:j<n*3):(plC V L R n)[j]?=some (J Z (if j%3=0 then V (j / 3) else if j%3=1 then L (j / 3) else R (j / 3))):=by simp [plC,h]
theorem zct (V L R:Nat->Int) (n:Nat):∀ u∈plC V L R n,u.oneCell'=true:=fun u hu=>by
 simp only [plC,List.mem_map] at hu
 obtain ⟨i,_,rfl⟩:=hu
 rfl
theorem TS.src {w:World} {o:Option Addr} {b off n:Nat} {V L R:Nat->Int} (h:TS w o b off n V L R) {w':World} (hw:∀ i,0<n->w'.cell? ⟨b,i,none⟩=w.cell? ⟨b,i,none⟩) :
 0<n->∃ ad,o=some ad/\∀ j u,(plC V L R n)[j]?=some u->w'.cell? (ad.add j)=some u:=fun hn =>
 ⟨_,h.at_ hn,fun j u hu=>by
  have hj:=(List.getElem?_eq_some_iff.1 hu).1
  rw [j6] at hj
  rw [qW V L R hj] at hu
  rw [Addr.add_mid,hw _ hn,<- hu]
  have hi:j / 3<n:=by omega
  by_cases h0:j%3=0
  ·rw [if_pos h0,show off+j=off+j / 3*3 by omega];exact h.val _ hi
  ·by_cases h1:j%3=1
   ·rw [if_neg h0,if_pos h1,show off+j=off+j / 3*3+1 by omega];exact h.len _ hi
   ·rw [if_neg h0,if_neg h1,show off+j=off+j / 3*3+2 by omega];exact h.reg _ hi⟩
theorem jb {w:World} {base:Nat} {oo:Option Addr} {cap n:Nat} {V L R:Nat->Int} (h:w.ownsRow base 96 3 (O oo n cap) n (plC V L R n)):∃ b,TS w oo b 0 n V L R/\(0<n->base<=b):=by
 rcases Nat.eq_zero_or_pos n with hn | hn
 ·subst hn
  exact ⟨0,⟨fun h=>absurd h (Nat.lt_irrefl _),fun h=>absurd h (Nat.lt_irrefl _),fun i h=>absurd h (Nat.not_lt_zero _),fun i h=>absurd h (Nat.not_lt_zero _),fun i h=>absurd h (Nat.not_lt_zero _)⟩,fun h=>absurd h (Nat.lt_irrefl _)⟩
 ·obtain ⟨g,c,hv,h1,h2⟩:=h.form hn
  cases hv
  refine ⟨g,⟨fun _=>rfl,fun _=>h2,fun i hi=>?_,fun i hi=>?_,fun i hi=>?_⟩,fun _=>h1⟩
  ·rw [Nat.zero_add,h.cellAt (i*3) (by omega),qW V L R (by omega),if_pos (by omega),show i*3 / 3=i by omega]
  ·rw [Nat.zero_add,h.cellAt (i*3+1) (by omega),qW V L R (by omega),if_neg (by omega),if_pos (by omega),show (i*3+1) / 3=i by omega]
  ·rw [Nat.zero_add,h.cellAt (i*3+2) (by omega),qW V L R (by omega),if_neg (by omega),if_neg (by omega),show (i*3+2) / 3=i by omega]
theorem Tryz.infoPlc:(Tryz.prog.info? 96).map (fun i=>(i.zero,i.size,i.bytes))=some (some (.agg #[J Z 0,J Z 0,J Z 0]),3,24):=by kernel_rfl
def zea (B n:Nat) (V L R:Nat->Int) (w:World) (e:Ending) (w':World):Prop :=
 e=.returned (J Z 0)/\∃ w1 oo cap,Below w.heap.size w w1/\w1.ownsRow w.heap.size 96 3 (O oo n cap) n (plC V L R n)/\w'=w1.setCell ⟨B,81,none⟩ (O oo n cap)
theorem JT (B:Nat) (o:Option Addr) (b off n c:Nat) (V L R:Nat->Int) (w:World) (h:TS w o b off n V L R) (hp:Zd V L R n=false) :
 Calls Tryz.prog 20 #[.pointer (some ⟨B,0,none⟩),O o n c] w fun e w'=>e=.returned (J Z 9)/\Below w.heap.size w w':=by
 have HP:Hid (Zd V L R n=false):=hp
 have HI:Hid (TS w o b off n V L R):=h
 clear h hp
 go_enter Tryz.func20,Tryz.ntmps20
 go_wp2_with fail
 refine (ZY o b off n c V L R w HI.out).mono ?_
 rintro e w2 ⟨rfl,hb⟩
 have HB:Hid (Below w.heap.size w w2):=hb
 clear hb
 rw [HP.out]
 go_wp2_with fail
 go_ret
 exact ⟨rfl,HB.out⟩
theorem JS (B:Nat) (o:Option Addr) (b off n c:Nat) (V L R:Nat->Int) (f:Nat->Value) (w:World) (hB:w.rowIs B 61 82 f) (h:TS w o b off n V L R) (hp:Zd V L R n=true) :
 Calls Tryz.prog 20 #[.pointer (some ⟨B,0,none⟩),O o n c] w (zea B n V L R w):=by
 obtain ⟨i1,hi1,hy0,hy1,hy2⟩:=info_parts Tryz.infoPlc
 have hn:=(qV hp).1
 have HP:Hid (Zd V L R n=true):=hp
 have HI:Hid (TS w o b off n V L R):=h
 have HB:Hid (w.rowIs B 61 82 f):=hB
 clear h hp hB
 go_enter Tryz.func20,Tryz.ntmps20
 go_wp2_with fail
 refine (ZY o b off n c V L R w HI.out).mono ?_
 rintro e w2 ⟨rfl,hb⟩
 have HB2:Hid (Below w.heap.size w w2):=hb
 have HI2:Hid (TS w2 o b off n V L R):=HI.out.below hb
 have hBr:=HB.out.of_block (hb.block B HB.out.lt)
 have hBl:=hBr.lt
 have hsz:=hb.size
 have HC:Hid (w2.cell? ⟨B,81,none⟩=some (f 81)/\w2.frozen? ⟨B,81,none⟩=false):=⟨hBr.cell (by omega),hBr.frozen 81⟩
 clear hb hBr
 rw [HP.out]
 have hO:Hid ((w2.alloc (X #[] 96)).ownsRow w2.heap.size 96 3 (O (some ⟨w2.heap.size,0,none⟩) 0 0) 0 []):=World.ownsRow_made w2 #[] 0 (Nat.le_refl _) (Nat.zero_le _) rfl
 have hS:Hid (0<n->∃ ad,o=some ad/\∀ j u,(plC V L R n)[j]?=some u->(w2.alloc (X #[] 96)).cell? (ad.add j)=some u):=HI2.out.src (fun i hi=>World.cell?_alloc_lt _ _ _ (HI2.out.lt hi))
 have hG:Hid (∀ w9,(w2.alloc (X #[] 96)).grownBy w9 (some w2.heap.size)->w9.cell? ⟨B,81,none⟩=some (f 81)/\w9.frozen? ⟨B,81,none⟩=false):=fun w9 hg=>by
  have hne:some (⟨B,81,none⟩:Addr).block≠some w2.heap.size:=by simp;omega
  have hlt:(⟨B,81,none⟩:Addr).block<(w2.alloc (X #[] 96)).heap.size:=by simp;omega
  refine ⟨?_,?_⟩
  ·rw [hg.cell_far _ hlt hne,World.cell?_alloc_lt _ _ _ hBl]
   exact HC.out.1
  ·rw [hg.frozen_far _ hlt hne,World.frozen?_alloc_past _ _ _ hBl]
   exact HC.out.2
 have hA1:Hid (0+n<=maxLen):=by show _<=_;unfold maxLen;omega
 have hA2:Hid ((0+n)*24<=140737488355328):=by show _<=_;omega
 have hA3:Hid (w2.heap.size<=(w2.alloc (X #[] 96)).heap.size):=by show w2.heap.size<=(w2.alloc _).heap.size;simp
 go_wp2_with (at_builtin;refine xi _ _ _ _ rfl w2.heap.size 96 i1 _ 3 24 Tryz.underlying29 hi1 hy0 hy1 hy2 rfl (by decide) (O (some ⟨w2.heap.size,0,none⟩) 0 0) _ _ rfl hO.out o n c (plC V L R n) rfl (j6 V L R n) hS.out (zct V L R n) hA1.out hA2.out hA3.out (w2.heap.size+1) (by simp) rfl ?_;intro oo cap w9 hown hgrow hat;obtain ⟨y3,yz⟩:=hG.out w9 hgrow)
 have HR9:Hid (w9.ownsRow w.heap.size 96 3 (O oo n cap) n (plC V L R n)):=by
  have:=hown
  rw [Nat.zero_add,List.nil_append] at this
  exact ⟨this.1,this.2.imp id fun ⟨g,cap,cur,h1,h2,h3⟩=>⟨g,cap,cur,h1,Nat.le_trans hsz h2,h3⟩⟩
 have HB9:Hid (Below w.heap.size w w9):=(HB2.out.alloc hsz _).grown hgrow (by simp;omega) (fun k hk=>by cases hk;exact hsz)
 clear hown hgrow hat
 go_wp2_with fail
 go_ret
 exact ⟨rfl,w9,oo,cap,HB9.out,HR9.out,rfl⟩
def t7:ByteArray:=⟨#[97,58,123,55,125]⟩
theorem zdQ:∃ im,(zA t7).es=[⟨123,2,0,0,0,[im],-1⟩]/\im.num=7:=⟨((((zA t7).es[0]?).map EX.items).getD [])[0]?.getD ⟨0,0,0,0,0,0,0⟩,by kernel_rfl,by kernel_rfl⟩
theorem zaF:cpE t7=0:=by kernel_rfl
theorem zdP:ldA t7=0:=by kernel_rfl
theorem zdY:cpE ⟨#[]⟩≠0:=by decide +kernel
theorem zdR (x:WD):x.an t7=([7],86400,0):=by
 obtain ⟨im,h1,h2⟩:=zdQ
 have hm:x.mn t7=⟨[7],86400,0⟩:=by
  unfold WD.mn
  rw [h1]
  simp only [List.length_cons,List.length_nil,Nat.zero_add,mnN,mnK,List.getElem?_cons_zero]
  unfold mnE
  simp [h2]
 unfold WD.an
 rw [hm]
 rfl
theorem zaY {v:WD} {dn:Nat->Bool} {al:Nat->List Int} {s:ByteArray} (a b d:Int) (h1:v.dl=(dnL dn 64).length) (h2:v.Dn=fun i=>((dnL dn 64)[i]?).getD 0) (h3:v.al=(List.range 16).map al) (hp:Zd v.V v.L v.R v.pl=true) (hs:cpE s=0) (hk:Zm a b d=true) :
 quF a b d dn ((List.range 16).map al) v.V v.L v.R v.pl (cpX s)=(0,({ v with a:=a,b:=b,d:=d }:WD).an s)/\({ v with a:=a,b:=b,d:=d }:WD).right=true:=by
 have hr:({ v with a:=a,b:=b,d:=d }:WD).right=true:=by
  unfold WD.right ZV
  simp [hk,hp]
 have hl:=(XX hs).2.2.1
 refine ⟨?_,hr⟩
 rw [<- zaT (by unfold Yi;rw [hs];rfl) hr]
 unfold quF WD.ru
 rw [if_pos hk,if_neg (by omega)]
 simp only
 rw [h1,h2,h3]
end Go.Proofs.YtaebngpoagjafabGreat
