import Derived.Test.YtaebngpoagjafabGreatU43
import Derived.Test.YtaebngpoagjafabGreatU45
import Derived.Deep.MidRow
set_option maxRecDepth 100000
set_option maxHeartbeats 3200000
namespace Go.Proofs.YtaebngpoagjafabGreat
open Obj renaming cells → X
open Value renaming int → J, slice → O
open IntKind renaming i64 → Z
open Go.RowKit
attribute [local go_sem ↓] Go.wp_at_zero Go.wp_at_succ
def ldA (s:ByteArray):Int:=if (yQ s).1=0 then 0 else (yQ s).2
def zf6 (B:Nat) (s:ByteArray) (w:World) (r:Ending) (w':World):Prop :=
 r=.returned (.tuple #[J Z (cpE s),J Z (ldA s)])/\(cpE s≠0->Below w.heap.size w w')/\(cpE s=0->∃ w1 o k,Below w.heap.size w w1/\w1.ownsRow w.heap.size 5 1 (O o (cpX s).length k) (cpX s).length ((cpX s).map (Value.int .u8))/\w'=w1.setCell ⟨B,0,none⟩ (O o (cpX s).length k))
theorem zcR (B:Nat) (f:Nat->Value) (s:ByteArray) (w:World) (hR:w.rowIs B 61 82 f) :
 Calls Tryz.prog 10 #[.pointer (some ⟨B,0,none⟩),.string s] w (zf6 B s w):=by
 have u:Hid (w.rowIs B 61 82 f):=hR
 clear hR
 obtain ⟨c,C⟩:∃ c,yQ s=c:=⟨_,rfl⟩
 have HC:Hid _:=C
 have V:Hid (cpE s=if c.1=0 then (if 1000<szR (zA s).es (zA s).es.length then 8 else 0) else c.1):=by show _=_;unfold cpE;rw [C]
 have x:Hid (c.1=0->(zA s).es.length<=100000/\∀ e∈(zA s).es,e.items.length<=100000):=by
  intro q
  have hs:¬ 2000<s.size:=fun h=>by rw [<- C] at q;unfold yQ at q;rw [if_pos h] at q;cases q
  have h1:=qY s (s.size+1) [] 0 0 false
  refine ⟨?_,fun e he=>by have:=h1 e he;omega⟩
  have h2:=ZP s (s.size+1) [] 0 0 false (Nat.zero_le _)
  show (zx s (s.size+1) [] 0 0 false).es.length<=100000
  omega
 have z:Hid (ldA s=if c.1=0 then 0 else c.2):=by show _=_;unfold ldA;rw [C]
 clear C
 obtain ⟨c1,c2⟩:=c
 simp only at V x z
 go_enter Tryz.func10,Tryz.ntmps10
 go_wp2_with fail
 refine (zdI s _ (c1,c2) HC).mono ?_
 rintro e Q ⟨hb,K,em,L,H,I,J,rfl,Z⟩
 have P:Hid _:=hb
 have HQ:Hid _:=Z
 clear hb Z
 cases e1:(c1==0) with
 | false =>
  have e2:(c1 != 0)=true:=by simp [bne,e1]
  have N:Hid (cpE s=c1):=by show _=_;rw [V.out,if_neg (by simpa using e1)]
  have g:Hid (Below w.heap.size w (Q.alloc (X #[O K em L,O H I J] 74))):=P.out.alloc P.out.size _
  have l:Hid (c1≠0):=by show ¬ _;simpa using e1
  go_wp2_with fail
  go_ret2
  exact ⟨by rw [N.out,z.out,if_neg l.out];rfl,fun _=>g.out,fun h=>by rw [N.out] at h;exact absurd h l.out⟩
 | true =>
  have q:c1=0:=by simpa using e1
  subst q
  obtain ⟨r,d,b⟩:=HQ.out rfl
  have j:=x.out rfl
  have N:Hid ((if 1000<szR (r.map Prod.fst) r.length then (8:Int) else 0)=cpE s):=by
   show _=_
   rw [V.out,if_pos rfl,<- d,List.length_map]
  have U:Hid (yh (r.map Prod.fst) r.length=cpX s):=by show _=_;unfold cpX;rw [<- d,List.length_map]
  obtain ⟨rfl,_,_⟩:=EVw.of_pq b
  have E:Zl (r.map Prod.fst):=by rw [d];exact jj s
  rw [<- d] at j
  have g:Hid (Below w.heap.size w (Q.alloc (X #[O K r.length L,O H I J] 74))):=P.out.alloc P.out.size _
  have F:=Q8 K L H I J w.heap.size r (zA s).rs (Q.alloc (X #[O K r.length L,O H I J] 74)) (by simpa using j.1) (fun p hp=>j.2 p.1 (List.mem_map_of_mem hp)) E ⟨b.ex.alloc _,b.rl.alloc _,fun p hp=>(b.it p hp).alloc _⟩ (cpE s) N
  rw [U.out] at F
  clear b d j E
  go_wp2_with fail
  refine F.mono ?_
  rintro e Y ⟨D,o,m,k,rfl,hn,R⟩
  have y:Hid _:=g.out.trans (D.mono g.out.size)
  have a0:Hid _:=hn
  have S:Hid (cpE s=0->m=(cpX s).length/\Y.ownsRow w.heap.size 5 1 (O o m k) (cpX s).length ((cpX s).map (Value.int .u8))):=fun h=>⟨(R h).1,ZE (R h).2 g.out.size⟩
  have a:=u.out.of_block (y.out.block B u.out.lt)
  have c0:=a.cell (i:=0) (by omega)
  have z0:=a.frozen 0
  have G:Hid (ldA s=0):=by show _=_;rw [z.out];simp
  clear D hn R a
  obtain ⟨v,A⟩:∃ v,Hid (cpE s=v):=⟨_,rfl⟩
  rw [A.out]
  cases e3:(v==0) with
  | false =>
   have e4:(v != 0)=true:=by simp [bne,e3]
   have l:Hid (cpE s≠0):=by show ¬ _;rw [A.out];simpa using e3
   go_wp2_with fail
   go_ret2
   exact ⟨by rw [G.out,A.out];rfl,fun _=>y.out,fun h=>absurd h l.out⟩
  | true =>
   have q:v=0:=by simpa using e3
   subst q
   obtain ⟨rfl,n⟩:=S.out A.out
   have W:Hid _:=n
   clear n
   go_wp2_with fail
   go_ret2
   exact ⟨by rw [G.out,A.out];rfl,fun h=>absurd A.out h,fun _=>⟨Y,o,k,y.out,W.out,rfl⟩⟩
def sv0:Array Value:=#[O none 0 0]++Array.replicate 64 (.bool false)++Array.replicate 16 (O none 0 0)++#[O none 0 0]
theorem zeK (w:World):(Instr.build 61 #[]).run Tryz.prog w=.ok (.agg sv0) w:=run_build w 61 _ _ (by kernel_rfl)
theorem zaM (w:World):Calls Tryz.prog 7 #[] w fun e w'=>e=.returned (.pointer (some ⟨w.heap.size,0,none⟩))/\w'=w.alloc (X sv0 61):=by
 have a:=fun w=>zeK w
 go_enter Tryz.func7,Tryz.ntmps7
 go_wp2_with fail
 go_ret
 exact ⟨rfl,rfl⟩
theorem zep (B:Nat) (k:Int) (up:Bool) (w:World) (h:k<0\/63<k) :
 Calls Tryz.prog 16 #[.pointer (some ⟨B,0,none⟩),J Z k,.bool up] w fun e w'=>e=.returned (J Z 9)/\w'=w:=by
 by_cases b:k<0
 ·go_enter Tryz.func16,Tryz.ntmps16
  go_wp2_with fail
  go_ret
  exact ⟨rfl,rfl⟩
 ·have a:64<=k:=by omega
  go_enter Tryz.func16,Tryz.ntmps16
  go_wp2_with fail
  go_ret
  exact ⟨rfl,rfl⟩
theorem zeo (B n:Nat) (up:Bool) (f:Nat->Value) (w:World) (hn:n<64) (h:w.rowIs B 61 82 f) :
 Calls Tryz.prog 16 #[.pointer (some ⟨B,0,none⟩),J Z n,.bool up] w fun e w'=>e=.returned (J Z 0)/\w'=w.setCell ⟨B,1+n,none⟩ (.bool !up):=by
 have c0:=h.cell (i:=1+n) (by omega)
 have d:=h.frozen (1+n)
 have b:(0:Int)<=(n:Int):=by omega
 have a:(n:Int)<64:=by omega
 clear h
 go_enter Tryz.func16,Tryz.ntmps16
 go_wp2_with fail
 go_ret
 exact ⟨rfl,rfl⟩
def svF (cv:Value) (dn:Nat->Bool) (av:Nat->Value) (pv:Value) (i:Nat):Value:=if i=0 then cv else if i<65 then .bool (dn (i-1)) else if i<81 then av (i-65) else pv
theorem zaL (w:World):(w.alloc (X sv0 61)).rowIs w.heap.size 61 82 (svF (O none 0 0) (fun _=>false) (fun _=>O none 0 0) (O none 0 0)):=by
 have d:sv0.size=82:=by simp [sv0]
 have:=World.rowIs_alloc w sv0 61 (svF (O none 0 0) (fun _=>false) (fun _=>O none 0 0) (O none 0 0)) (fun i hi=>by
  rw [d] at hi
  unfold sv0 svF
  simp only [Array.getElem?_append,Array.getElem?_replicate,Array.size_append,Array.size_replicate,List.size_toArray,List.length_cons,List.length_nil,Nat.zero_add]
  by_cases a:i=0
  ·subst a;rfl
  ·by_cases b:i<65
   ·simp only [if_neg a,if_pos b,if_pos (show i<1+64+16 by omega),if_neg (show ¬ i<1 by omega),if_pos (show i-1<64 by omega)]
   ·by_cases e:i<81
    ·simp only [if_neg a,if_neg b,if_pos e,if_pos (show i-(1+64)<16 by omega)]
    ·simp only [if_neg a,if_neg b,if_neg e,show i-(1+64+16)=0 by omega]
     rfl)
 rw [d] at this
 exact this
def dnL (dn:Nat->Bool):Nat->List Int
 | 0=>[]
 | n+1=>dnL dn n++(if dn n=true then [(n:Int)] else [])
theorem jg (dn:Nat->Bool):∀ n,(dnL dn n).length<=n:=by
 intro n
 induction n with
 | zero=>exact Nat.le_refl _
 | succ n ih=>simp only [dnL,List.length_append];split<;>simp<;>omega
def dnC (dn:Nat->Bool):List Value:=(List.range 64).map fun i=>.bool (dn i)
theorem zaq (dn:Nat->Bool):(dnC dn).length=64:=by simp [dnC]
theorem zde (dn:Nat->Bool) {i:Nat} (h:i<64):(dnC dn)[i]?=some (.bool (dn i)):=by simp [dnC,h]
theorem zdd {w:World} {B:Nat} {cv pv:Value} {dn:Nat->Bool} {av:Nat->Value} (h:w.rowIs B 61 82 (svF cv dn av pv)):w.rangeAt B 1 (dnC dn):=by
 intro j v a
 have b:=(List.getElem?_eq_some_iff.1 a).1
 rw [zaq] at b
 rw [zde dn b] at a
 rw [h.cell (i:=1+j) (by omega),<- a]
 unfold svF
 rw [if_neg (by omega),if_pos (by omega),show 1+j-1=j by omega]
theorem zer (dn:Nat->Bool) {i:Nat} (h:i<64) (w:World):(Instr.index 58 (.agg (dnC dn).toArray) (J Z (i:Int))).run Tryz.prog w=.ok (.bool (dn i)) w:=by
 have b:Tryz.prog.underlying 58=some (.array 64 4):=by kernel_rfl
 have d:(0:Int)<=(i:Int)/\(i:Int)<((64:Nat):Int):=by omega
 have a:(dnC dn).toArray[i]?=some (.bool (dn i)):=by rw [List.getElem?_toArray];exact zde dn h
 generalize (dnC dn).toArray=C at a
 simp [Instr.index,run_underlying b,asIntOf,h,go_sem,a]
theorem zdc (B:Nat) (dn:Nat->Bool) (w:World) (h:w.rangeAt B 1 (dnC dn)) :
 Calls Tryz.prog 28 #[.pointer (some ⟨B,0,none⟩)] w fun e w'=>Below w.heap.size w w'/\∃ o k,e=.returned (O o (dnL dn 64).length k)/\w'.ownsRow w.heap.size 3 1 (O o (dnL dn 64).length k) (dnL dn 64).length ((dnL dn 64).map (J Z)):=by
 obtain ⟨W,H,E,D,A⟩:=info_parts Tryz.infoInt
 have s:Hid ((w.alloc (X #[] 3)).rangeAt B 1 (dnC dn)):=World.rangeAt_alloc h _
 have r:(Tryz.prog.info? 58).map (·.size)=some (dnC dn).length:=by rw [zaq];kernel_rfl
 clear h
 have f:=fun (i:Nat) (h:i<64) (w:World)=>zer dn h w
 have V:Hid (∀ (i:Nat),i<64->∀ w,(Instr.index 58 (.agg (dnC dn).toArray) (J Z (i:Int))).run Tryz.prog w=.ok (.bool (dn i)) w):=f
 clear f
 go_enter Tryz.func28,Tryz.ntmps28
 go_wp2_with (refine wpList_load_mid rfl _ _ rfl B 1 rfl (dnC dn) (.array 64 4) s.out (by kernel_rfl) rfl r ?_)
 generalize (dnC dn).toArray=C at V ⊢
 clear s r
 go_loopg [3,11] 64 (fun q x3 y wr=>∃ (j:Nat),q+j=64/\y=J Z j/\(∃ n p,x3=O n (dnL dn j).length p)/\wr.ownsRow w.heap.size 3 1 x3 (dnL dn j).length ((dnL dn j).map (J Z))/\Below w.heap.size w wr)
 case atStart=>exact ⟨0,by omega,rfl,⟨_,_,rfl⟩,World.ownsRow_made w #[] 0 (Nat.le_refl _) (Nat.zero_le _) rfl,(Below.refl _ _).alloc (Nat.le_refl _) _⟩
 case round =>
  obtain ⟨j,hq,rfl,⟨n,p,rfl⟩,g,K⟩:=hrel
  have z:Hid (wr.ownsRow w.heap.size 3 1 (O n (dnL dn j).length p) (dnL dn j).length ((dnL dn j).map (J Z))):=g
  have Q:Hid (Below w.heap.size w wr):=K
  have I:=K.size
  clear g K
  have a0:=jg dn j
  by_cases hj:j<64
  ·have G:(j:Int)<64:=by omega
   have Y:(0:Int)<=(j:Int):=by omega
   have f:=V.out j hj
   have m:Hid (dnL dn (j+1)=dnL dn j++(if dn j=true then [(j:Int)] else [])):=(rfl:dnL dn (j+1)=_)
   generalize dn j=d at f m
   generalize dnL dn j=L at *
   cases d with
   | false =>
    simp only [Bool.false_eq_true,if_false,List.append_nil] at m
    go_wp2_with fail
    go_roundg (64-(j+1))
    case measure=>omega
    case rel=>exact ⟨j+1,by omega,by go_num,⟨n,p,by rw [m.out]⟩,by rw [m.out];exact z.out,Q.out⟩
   | true =>
    simp only [if_true] at m
    have v:∀ u∈[J Z (j:Int)],u.oneCell'=true:=fun u hu=>by simp at hu;subst hu;rfl
    go_wp2_with (at_builtin;refine wpList_append_lies _ rfl _ _ 25 rfl w.heap.size 3 W _ 1 8 Tryz.underlying25 H E D A rfl (by decide) (O n L.length p) _ _ rfl (z.out.alloc _) ⟨wr.heap.size,0,none⟩ 1 1 [J Z j] rfl rfl (World.news_of_block (cs:=#[J Z j]) (t:=3) (fr:=(0,0)) (heap_alloc_new wr _)) v (Nat.lt_succ_self 0) (by unfold maxLen;omega) (by omega) (by simp;omega) (wr.heap.size+1) (by simp) ?_;intro U l R b a x S)
    have N:Hid (R.ownsRow w.heap.size 3 1 (O (some ⟨U,0,none⟩) (L.length+1) l) (L++[(j:Int)]).length ((L++[(j:Int)]).map (J Z))):=by
     show World.ownsRow _ _ _ _ _ _ _
     rw [List.length_append,List.map_append]
     exact b
    have P:Hid (Below w.heap.size w R):=(Q.out.alloc I _).grown a (by simp;omega) (fun k hk=>(z.out.lt k hk).1)
    clear b a x
    go_roundg (64-(j+1))
    case measure=>omega
    case rel=>exact ⟨j+1,by omega,by go_num,⟨some ⟨U,0,none⟩,l,by rw [m.out];simp⟩,by rw [m.out];exact N.out,P.out⟩
  ·have G:¬ (j:Int)<64:=by omega
   have F:j=64:=by omega
   subst F
   go_wp2_with fail
   go_ret
   exact ⟨Q.out,n,p,rfl,z.out⟩
def quF (a b d:Int) (dn:Nat->Bool) (al:List (List Int)) (V L R:Nat->Int) (pl:Nat) (C:List Int):Int×(List Int×Int×Int) :=
 if Zt a b d=true then (if C.length=0 then (12,[],0,0) else ruF a b d (fun i=>((dnL dn 64)[i]?).getD 0) (dnL dn 64).length al V L R pl C C.length) else (9,[],0,0)
theorem zba (B:Nat) (a b d:Int) (co:Option Addr) (cb coff cc:Nat) (C:List Int) (dn:Nat->Bool) (av:Nat->Value) (al:List (List Int)) (po:Option Addr) (pb poff pl pcp:Nat) (V L R:Nat->Int) (w:World) (hrow:w.rowIs B 61 82 (svF (O co C.length cc) dn av (O po pl pcp))) (hC:C.length<=140737488355328) (hl:al.length=16) (hs:TS w po pb poff pl V L R) (hal:AS w w.heap.size (some ⟨B,65,none⟩) B 65 al) (hcs:CS w w.heap.size co cb coff C) :
 Calls Tryz.prog 12 #[.pointer (some ⟨B,0,none⟩),J Z a,J Z b,J Z d] w (Qn w (quF a b d dn al V L R pl C)):=by
 have HS:Hid _:=hs
 have d0:Hid _:=hal
 have c7:Hid _:=hcs
 have b0:Hid (w.rowIs B 61 82 (svF (O co C.length cc) dn av (O po pl pcp))):=hrow
 have N:=hrow.lt
 have k0:w.cell? ⟨B,0,none⟩=some (O co C.length cc):=hrow.cell (i:=0) (by omega)
 have b5:w.cell? ⟨B,81,none⟩=some (O po pl pcp):=hrow.cell (i:=81) (by omega)
 obtain ⟨Q,HQ⟩:∃ Q,Hid (quF a b d dn al V L R pl C=Q):=⟨_,rfl⟩
 rw [HQ.out]
 have a0:Hid (Below w.heap.size w (w.alloc (X #[O none 0 0,J Z 0,J Z 0] 42))):=(Below.refl _ _).alloc (Nat.le_refl _) _
 have b1:Hid ((w.alloc (X #[O none 0 0,J Z 0,J Z 0] 42)).heap[w.heap.size]?=some (X #[O none 0 0,J Z 0,J Z 0] 42 (0,0))):=heap_alloc_new w _
 have y:Hid (∀ (we:World) (tm:Array Value) (x:Value) (t c n:Int),we.heap[w.heap.size]?=some (X #[x,J Z t,J Z c] 42 (0,0))->tm.getD 8 undef=.pointer (some ⟨w.heap.size,0,none⟩)->tm.getD 9 undef=J Z n->Qn w Q (.returned (.tuple #[.agg #[x,J Z t,J Z c],J Z n])) we->bodyPost Tryz.prog Tryz.f12 (Qn w Q) .ret ⟨tm,[]⟩ we):=fun we tm x t c n h1 h2 h3 h4=>by
  refine bodyPost_ret (v:=.tuple #[.agg #[x,J Z t,J Z c],J Z n]) ?_ rfl h4
  rw [results_cell_tmp Tryz.results12,h2,h3]
  have h5:(asAddr (.pointer (some ⟨w.heap.size,0,none⟩))).run Tryz.prog we=.ok ⟨w.heap.size,0,none⟩ we:=rfl
  have h6:=run_loadVar_row (P:=Tryz.prog) we w.heap.size 42 42 #[x,J Z t,J Z c] (0,0) _ h1 Tryz.underlying42 rfl (by kernel_rfl)
  rw [h5,Result.andThen_ok,h6,Result.andThen_ok]
 clear hs hal hcs hrow
 go_enter Tryz.func12,Tryz.ntmps12
 go_wp2_with fail
 refine (Y8 a b d _).mono ?_
 rintro e w1 ⟨rfl,d2⟩
 subst w1
 cases hr:Zt a b d with
 | false =>
  have HE:Hid (Q=(9,[],0,0)):=by show _=_;rw [<- HQ.out];unfold quF;rw [hr];rfl
  clear hr
  go_wp2_with fail
  exact y.out _ _ _ _ _ _ b1.out rfl rfl ⟨a0.out,none,0,0,by rw [HE.out],fun _=>⟨rfl,rfl,rfl⟩,fun h=>by rw [HE.out] at h;cases h⟩
 | true =>
  have HE:Hid (Q=if C.length=0 then (12,[],0,0) else ruF a b d (fun i=>((dnL dn 64)[i]?).getD 0) (dnL dn 64).length al V L R pl C C.length):=by show _=_;rw [<- HQ.out];unfold quF;rw [if_pos hr]
  clear hr
  by_cases u:C.length=0
  ·have z:Hid (Q=(12,[],0,0)):=by show _=_;rw [HE.out,if_pos u]
   rw [u] at k0
   clear u
   go_wp2_with fail
   exact y.out _ _ _ _ _ _ b1.out rfl rfl ⟨a0.out,none,0,0,by rw [z.out],fun _=>⟨rfl,rfl,rfl⟩,fun h=>by rw [z.out] at h;cases h⟩
  ·have z:Hid (ruF a b d (fun i=>((dnL dn 64)[i]?).getD 0) (dnL dn 64).length al V L R pl C C.length=Q):=by show _=_;rw [HE.out,if_neg u]
   have b7:(C.length:Int)≠0:=by omega
   have d4:decide ((C.length:Int)=0)=false:=decide_eq_false b7
   have c6:Hid ((dnL dn 64).length<=64):=jg dn 64
   have b9:Hid (∀ (wz:World) (o:Option Addr) (g k:Nat),TS wz po pb poff pl V L R->IS wz o g 0 (dnL dn 64).length (fun i=>((dnL dn 64)[i]?).getD 0)->AS wz wz.heap.size (some ⟨B,65,none⟩) B 65 al->CS wz wz.heap.size co cb coff C->Calls Tryz.prog 29 #[O co C.length cc,.agg #[J Z a,J Z b,J Z d,O o (dnL dn 64).length k,O (some ⟨B,65,none⟩) 16 16,O po pl pcp],J Z C.length] wz (Qn wz Q)):=fun wz o g k h1 h2 h3 h4=>by
    have:=zcQ a b d o (some ⟨B,65,none⟩) po (dnL dn 64).length k 16 pl pcp pb poff g 0 B 65 al (fun i=>((dnL dn 64)[i]?).getD 0) V L R co cb coff cc C C.length wz hC (by omega) (by have:=c6.out;omega) (by omega) h1 h2 h3 h4
    rw [hl,z.out] at this
    exact this
   have c5:Hid (∀ wz:World,wz.rowIs B 61 82 (svF (O co C.length cc) dn av (O po pl pcp))->Calls Tryz.prog 28 #[.pointer (some ⟨B,0,none⟩)] wz fun e w'=>Below wz.heap.size wz w'/\∃ o k,e=.returned (O o (dnL dn 64).length k)/\w'.ownsRow wz.heap.size 3 1 (O o (dnL dn 64).length k) (dnL dn 64).length ((dnL dn 64).map (J Z))):=fun wz h=>zdc B dn wz (zdd h)
   clear u HE z
   generalize dnL dn 64=dl at *
   have D:Hid (Below w.heap.size w ((w.alloc (X #[O none 0 0,J Z 0,J Z 0] 42)).alloc (X #[J Z a,J Z b,J Z d,O none 0 0,O none 0 0,O po pl pcp] 31))):=a0.out.alloc (by simp) _
   have W:Hid (((w.alloc (X #[O none 0 0,J Z 0,J Z 0] 42)).alloc (X #[J Z a,J Z b,J Z d,O none 0 0,O none 0 0,O po pl pcp] 31)).heap[w.heap.size+1]?=some (X #[J Z a,J Z b,J Z d,O none 0 0,O none 0 0,O po pl pcp] 31 (0,0))):=zu _ (by simp)
   have a2:Hid (((w.alloc (X #[O none 0 0,J Z 0,J Z 0] 42)).alloc (X #[J Z a,J Z b,J Z d,O none 0 0,O none 0 0,O po pl pcp] 31)).heap[w.heap.size]?=some (X #[O none 0 0,J Z 0,J Z 0] 42 (0,0))):=by show _=_;rw [Below.heap_alloc _ _ _ (by simp)];exact heap_alloc_new w _
   go_wp2_with fail
   refine (c5.out _ (b0.out.of_block (D.out.block B N))).mono ?_
   rintro e G ⟨F,m,p,rfl,q⟩
   have c9:Hid _:=D.out.trans (F.mono D.out.size)
   have l:=(F.block _ (lt_of_block W.out)).trans W.out
   have d1:Hid _:=(F.block _ (lt_of_block a2.out)).trans a2.out
   have b2:Hid (G.ownsRow w.heap.size 3 1 (O m dl.length p) dl.length (dl.map (J Z))):=ZE q D.out.size
   have d3:=lt_of_block l
   obtain ⟨q0,q1,q2,q3,q4,q5⟩:=ld6 l rfl
   have f3:G.frozen? ⟨w.heap.size+1,3,none⟩=false:=by simp [World.frozen?,l]
   have f4:G.frozen? ⟨w.heap.size+1,4,none⟩=false:=by simp [World.frozen?,l]
   have a9:Hid _:=l
   clear F q l D W a2
   go_wp2_with fail
   have U:Hid (((G.setCell ⟨w.heap.size+1,3,none⟩ (O m dl.length p)).setCell ⟨w.heap.size+1,4,none⟩ (O (some ⟨B,65,none⟩) 16 16)).heap[w.heap.size+1]?=some (X #[J Z a,J Z b,J Z d,O m dl.length p,O (some ⟨B,65,none⟩) 16 16,O po pl pcp] 31 (0,0))):=by show _=_;rw [zU (zU a9.out)];rfl
   have A:Hid (Below w.heap.size w ((G.setCell ⟨w.heap.size+1,3,none⟩ (O m dl.length p)).setCell ⟨w.heap.size+1,4,none⟩ (O (some ⟨B,65,none⟩) 16 16))):=(c9.out.setCell (by simp only;omega) _).setCell (by simp only;omega) _
   have b4:Hid (((G.setCell ⟨w.heap.size+1,3,none⟩ (O m dl.length p)).setCell ⟨w.heap.size+1,4,none⟩ (O (some ⟨B,65,none⟩) 16 16)).heap[w.heap.size]?=some (X #[O none 0 0,J Z 0,J Z 0] 42 (0,0))):=by show _=_;rw [za (by omega),za (by omega)];exact d1.out
   have b8:Hid (((G.setCell ⟨w.heap.size+1,3,none⟩ (O m dl.length p)).setCell ⟨w.heap.size+1,4,none⟩ (O (some ⟨B,65,none⟩) 16 16)).ownsRow w.heap.size 3 1 (O m dl.length p) dl.length (dl.map (J Z))):=zh b2.out (fun g hg=>by
    have a5:g≠w.heap.size+1:=fun e=>zk b2.out a9.out (by decide) (by rw [<- e];exact hg)
    rw [za a5,za a5])
   generalize (G.setCell ⟨w.heap.size+1,3,none⟩ (O m dl.length p)).setCell ⟨w.heap.size+1,4,none⟩ (O (some ⟨B,65,none⟩) 16 16)=w7 at *
   obtain ⟨g7,s⟩:=XJ b8.out
   have Y:Hid (∀ wz,Below w7.heap.size w7 wz->Calls Tryz.prog 29 #[O co C.length cc,.agg #[J Z a,J Z b,J Z d,O m dl.length p,O (some ⟨B,65,none⟩) 16 16,O po pl pcp],J Z C.length] wz fun e w8=>Below w.heap.size w w8/\Below w7.heap.size w7 w8/\Qn wz Q e w8/\w7.heap.size<=wz.heap.size):=fun wz hz=>by
    have S:Below w.heap.size w wz:=A.out.trans (hz.mono A.out.size)
    refine (b9.out wz m g7 p (HS.out.below S) (s.below hz s.lt) ((d0.out.of_kept (fun b hb=>S.block b hb)).wide S.size) ((c7.out.of_kept (fun b hb=>S.block b hb)).wide S.size)).mono ?_
    intro e w8 h8
    exact ⟨S.trans (h8.1.mono S.size),hz.trans (h8.1.mono hz.size),h8,hz.size⟩
   have k7:w7.cell? ⟨B,0,none⟩=some (O co C.length cc):=by rw [World.cell?_of_block (A.out.block B N)];exact k0
   clear q0 q1 q2 q3 q4 q5 f3 f4 k0 b5 s
   obtain ⟨q0,q1,q2,q3,q4,q5⟩:=ld6 U.out rfl
   have b6:=lt_of_block b4.out
   have a6:=lt_of_block U.out
   have a8:B<w7.heap.size:=Nat.lt_of_lt_of_le N A.out.size
   have r:w.heap.size≠B:=by omega
   have f:w.heap.size≠w.heap.size+1:=by omega
   go_region_held3 (fun w'=>w'.cell? ⟨B,0,none⟩=some (O co C.length cc)/\w'.cell? ⟨w.heap.size+1,0,none⟩=some (J Z a)/\w'.cell? ⟨w.heap.size+1,1,none⟩=some (J Z b)/\w'.cell? ⟨w.heap.size+1,2,none⟩=some (J Z d)/\w'.cell? ⟨w.heap.size+1,3,none⟩=some (O m dl.length p)/\w'.cell? ⟨w.heap.size+1,4,none⟩=some (O (some ⟨B,65,none⟩) 16 16)/\w'.cell? ⟨w.heap.size+1,5,none⟩=some (O po pl pcp)) (first | (exact ⟨k7,q0,q1,q2,q3,q4,q5⟩) | (exact j) | (exact ⟨zt r (zt r (zt r j.1 _ _) _ _) _ _,zt f (zt f (zt f j.2.1 _ _) _ _) _ _,zt f (zt f (zt f j.2.2.1 _ _) _ _) _ _,zt f (zt f (zt f j.2.2.2.1 _ _) _ _) _ _,zt f (zt f (zt f j.2.2.2.2.1 _ _) _ _) _ _,zt f (zt f (zt f j.2.2.2.2.2.1 _ _) _ _) _ _,zt f (zt f (zt f j.2.2.2.2.2.2 _ _) _ _) _ _⟩) | go_keep) (first | (go_at_call 29;refine (Y.out _ (by first | exact (Below.refl _ _).drew | exact Below.refl _ _)).mono ?_;rintro e w8 ⟨a7,E,⟨_,o8,m8,k8,rfl,H,I⟩,a3⟩;have c8:Hid _:=a7;have b3:Hid _:=H;have K:Hid _:=I;have j:_/\_:=⟨(World.cell?_of_block (E.block _ a8)).trans k7,ld6 U.out (E.block _ a6)⟩;have a1:Hid _:=(E.block _ b6).trans b4.out;obtain ⟨y0,y1,y2,z0,z1,z2⟩:=ld3 a1.out;clear a7 H I E))
   all_goals
    go_wp2_with fail
    refine y.out _ _ _ _ _ _ (yE a1.out) rfl rfl ⟨((c8.out.setCell (Nat.le_refl _) _).setCell (Nat.le_refl _) _).setCell (Nat.le_refl _) _,o8,m8,k8,rfl,b3.out,fun h=>⟨(K.out h).1,?_⟩⟩
    have a4:w8.ownsRow w.heap.size 3 1 (O o8 m8 k8) Q.2.1.length (Q.2.1.map (J Z)):=ZE (K.out h).2 (Nat.le_trans A.out.size a3)
    exact zce a4 (zk a4 a1.out (by decide)) _ _ _
def zf9 (n:Nat) (D:Nat->Int) (w:World) (e:Ending) (w':World):Prop:=w'=w/\∃ r,e=.returned (.bool r)/\(r=true↔n<=16/\∀ i,i<n->0<=D i/\D i<64)
theorem QH (o:Option Addr) (b off n c:Nat) (D:Nat->Int) (w:World) (h:IS w o b off n D) :
 Calls Tryz.prog 40 #[O o n c] w (zf9 n D w):=by
 by_cases C:16<n
 ·have d:(16:Int)<(n:Int):=by omega
  go_enter Tryz.func40,Tryz.ntmps40
  go_wp2_with fail
  go_ret
  exact ⟨rfl,false,rfl,by simp;omega⟩
 have d:¬ (16:Int)<(n:Int):=by omega
 have r:Hid (IS w o b off n D):=h
 clear h
 go_enter Tryz.func40,Tryz.ntmps40
 go_wp2_with fail
 go_loopg [10] n (fun q y wr=>∃ (j:Nat),q+j=n/\y=J Z j/\wr=w/\∀ i,i<j->0<=D i/\D i<64)
 case atStart=>exact ⟨0,by omega,rfl,rfl,fun i hi=>absurd hi (Nat.not_lt_zero _)⟩
 case round =>
  obtain ⟨j,B,rfl,rfl,l⟩:=hrel
  have s:Hid (∀ i,i<j->0<=D i/\D i<64):=l
  clear l
  by_cases g:j<n
  ·have f:(j:Int)<(n:Int):=by omega
   have x:(0:Int)<=(j:Int):=by omega
   have u:=r.out.at_ (by omega)
   have z:=r.out.val j g
   subst u
   have A:Hid (∀ v,D j=v->0<=v->v<64->∀ i,i<j+1->0<=D i/\D i<64):=fun v a p m i hi=>by
    rcases Nat.lt_succ_iff_lt_or_eq.1 hi with hi | rfl
    ·exact s.out i hi
    ·rw [a];exact ⟨p,m⟩
   obtain ⟨v,a⟩:∃ v,D j=v:=⟨_,rfl⟩
   rw [a] at z
   have k:Hid (D j=v):=a
   clear a
   by_cases p:v<0
   ·go_wp2_with fail
    go_ret
    exact ⟨rfl,false,rfl,by simp;intro _;exact ⟨j,g,by rw [k.out];omega⟩⟩
   ·by_cases m:64<=v
    ·go_wp2_with fail
     go_ret
     exact ⟨rfl,false,rfl,by simp;intro _;exact ⟨j,g,by rw [k.out];omega⟩⟩
    ·go_wp2_with fail
     go_roundg (n-(j+1))
     case measure=>omega
     case rel=>exact ⟨j+1,by omega,by go_num,rfl,A.out v k.out (by omega) (by omega)⟩
  ·have f:¬ (j:Int)<(n:Int):=by omega
   have e:j=n:=by omega
   subst e
   go_wp2_with fail
   go_ret
   exact ⟨rfl,true,rfl,by simp;exact ⟨by omega,s.out⟩⟩
def isC (D:Nat->Int) (n:Nat):List Value:=(List.range n).map fun i=>J Z (D i)
theorem zal (D:Nat->Int) (n:Nat):(isC D n).length=n:=by simp [isC]
theorem zfB (D:Nat->Int) {n i:Nat} (h:i<n):(isC D n)[i]?=some (J Z (D i)):=by simp [isC,h]
theorem zeu (D:Nat->Int) (n:Nat):∀ u∈isC D n,u.oneCell'=true:=fun u hu=>by
 simp only [isC,List.mem_map] at hu
 obtain ⟨i,_,rfl⟩:=hu
 rfl
theorem IS.src {w:World} {o:Option Addr} {b off n:Nat} {D:Nat->Int} (h:IS w o b off n D) {w':World} (hw:∀ i,i<n->w'.cell? ⟨b,off+i,none⟩=w.cell? ⟨b,off+i,none⟩) :
 0<n->∃ ad,o=some ad/\∀ j u,(isC D n)[j]?=some u->w'.cell? (ad.add j)=some u:=fun hn =>
 ⟨_,h.at_ hn,fun j u hu=>by
  have a:=(List.getElem?_eq_some_iff.1 hu).1
  rw [zal] at a
  rw [zfB D a] at hu
  rw [Addr.add_mid,hw j a,h.val j a,hu]⟩
def zga (B k n:Nat) (D:Nat->Int) (w:World) (e:Ending) (w':World):Prop :=
 e=.returned (J Z 0)/\∃ w1 oo cap,Below w.heap.size w w1/\w1.ownsRow w.heap.size 3 1 (O oo n cap) n (isC D n)/\w'=w1.setCell ⟨B,65+k,none⟩ (O oo n cap)
theorem zdF (B:Nat) (k:Int) (o:Option Addr) (b off n c:Nat) (D:Nat->Int) (w:World) (h:IS w o b off n D) (hk:k<0\/15<k\/¬ (n<=16/\∀ i,i<n->0<=D i/\D i<64)) :
 Calls Tryz.prog 18 #[.pointer (some ⟨B,0,none⟩),J Z k,O o n c] w fun e w'=>e=.returned (J Z 9)/\w'=w:=by
 have j:Hid (IS w o b off n D):=h
 clear h
 have g:Hid (¬ (k<0\/15<k)->¬ (n<=16/\∀ i,i<n->0<=D i/\D i<64)):=fun d=>by
  rcases hk with h | h | h
  ·exact absurd (.inl h) d
  ·exact absurd (.inr h) d
  ·exact h
 clear hk
 by_cases l:k<0
 ·go_enter Tryz.func18,Tryz.ntmps18
  go_wp2_with fail
  go_ret
  exact ⟨rfl,rfl⟩
 ·by_cases d:16<=k
  ·go_enter Tryz.func18,Tryz.ntmps18
   go_wp2_with fail
   go_ret
   exact ⟨rfl,rfl⟩
  ·go_enter Tryz.func18,Tryz.ntmps18
   go_wp2_with fail
   refine (QH o b off n c D w j.out).mono ?_
   rintro e w' ⟨rfl,r,rfl,f⟩
   have a:r=false:=by
    cases r with
    | false=>rfl
    | true=>exact absurd (f.1 rfl) (g.out (by omega))
   subst a
   clear f
   go_wp2_with fail
   go_ret
   exact ⟨rfl,rfl⟩
theorem zdE (B k:Nat) (o:Option Addr) (b off n c:Nat) (D:Nat->Int) (f:Nat->Value) (w:World) (hk:k<16) (hB:w.rowIs B 61 82 f) (h:IS w o b off n D) (hn:n<=16) (hD:∀ i,i<n->0<=D i/\D i<64) :
 Calls Tryz.prog 18 #[.pointer (some ⟨B,0,none⟩),J Z k,O o n c] w (zga B k n D w):=by
 obtain ⟨Q,C,z,y,x⟩:=info_parts Tryz.infoInt
 have I:Hid (IS w o b off n D):=h
 have L:Hid (w.rowIs B 61 82 f):=hB
 have Y:Hid (n<=16/\∀ i,i<n->0<=D i/\D i<64):=⟨hn,hD⟩
 have S:(0:Int)<=(k:Int):=by omega
 have R:(k:Int)<16:=by omega
 clear h hB hD
 go_enter Tryz.func18,Tryz.ntmps18
 go_wp2_with fail
 refine (QH o b off n c D w I.out).mono ?_
 rintro e a ⟨rfl,r,rfl,P⟩
 have A:r=true:=P.2 Y.out
 subst A
 clear P
 have q:=L.out.lt
 have V:Hid ((a.alloc (X #[] 3)).drew.ownsRow a.heap.size 3 1 (O (some ⟨a.heap.size,0,none⟩) 0 0) 0 []):=(World.ownsRow_made a #[] 0 (Nat.le_refl _) (Nat.zero_le _) rfl).drew
 have U:Hid (0<n->∃ ad,o=some ad/\∀ j u,(isC D n)[j]?=some u->(a.alloc (X #[] 3)).drew.cell? (ad.add j)=some u):=I.out.src (fun i hi=>by
  show (a.alloc _).cell? _=_
  rw [World.cell?_alloc_lt _ _ _ (I.out.lt (by omega))])
 have W:Hid (∀ g,(a.alloc (X #[] 3)).drew.grownBy g (some a.heap.size)->g.cell? ⟨B,65+k,none⟩=some (f (65+k))/\g.frozen? ⟨B,65+k,none⟩=false):=fun g hg=>by
  have m:some (⟨B,65+k,none⟩:Addr).block≠some a.heap.size:=by simp;omega
  have p:(⟨B,65+k,none⟩:Addr).block<(a.alloc (X #[] 3)).drew.heap.size:=by show B<(a.alloc _).heap.size;simp;omega
  refine ⟨?_,?_⟩
  ·rw [hg.cell_far _ p m]
   show (a.alloc _).cell? _=_
   rw [World.cell?_alloc_lt _ _ _ q]
   exact L.out.cell (by omega)
  ·rw [hg.frozen_far _ p m]
   show (a.alloc _).frozen? _=_
   rw [World.frozen?_alloc_past _ _ _ q]
   exact L.out.frozen _
 have G:Hid (0+n<=maxLen):=by show _<=_;unfold maxLen;omega
 have F:Hid ((0+n)*8<=140737488355328):=by show _<=_;omega
 have s:Hid (a.heap.size<=(a.alloc (X #[] 3)).drew.heap.size):=by show a.heap.size<=(a.alloc _).heap.size;simp
 go_wp2_with fail
 go_region_law ((refine X5 _ _ _ _ (by rfl) a.heap.size 3 Q _ 1 8 Tryz.underlying25 C z y x rfl (by decide) (O (some ⟨a.heap.size,0,none⟩) 0 0) _ _ (by rfl) V.out o n c (isC D n) (by rfl) (by rw [zal,Nat.mul_one]) U.out (zeu D n) G.out F.out s.out (a.heap.size+1) (by simp) (by rfl) ?_;intro N v g l d E;obtain ⟨y3,yz⟩:=W.out g d))
 all_goals
  have H:Hid (g.ownsRow a.heap.size 3 1 (O N n v) n (isC D n)):=by
   have:=l
   rw [Nat.zero_add,List.nil_append] at this
   exact this
  have K:Hid (Below a.heap.size a g):=((Below.refl _ _).alloc (Nat.le_refl _) _).drew.grown d s.out (fun k hk=>by cases hk;exact Nat.le_refl _)
  clear l d E
  go_wp2_with fail
  go_ret
  exact ⟨rfl,g,N,v,K.out,H.out,rfl⟩
def plC (V L R:Nat->Int) (n:Nat):List Value:=(List.range (n*3)).map fun j=>J Z (if j%3=0 then V (j / 3) else if j%3=1 then L (j / 3) else R (j / 3))
theorem Q1 (V L R:Nat->Int) (n:Nat):(plC V L R n).length=n*3:=by simp [plC]
theorem YF (V L R:Nat->Int) {n j:Nat} (h:j<n*3):(plC V L R n)[j]?=some (J Z (if j%3=0 then V (j / 3) else if j%3=1 then L (j / 3) else R (j / 3))):=by simp [plC,h]
theorem zef (V L R:Nat->Int) (n:Nat):∀ u∈plC V L R n,u.oneCell'=true:=fun u hu=>by
 simp only [plC,List.mem_map] at hu
 obtain ⟨i,_,rfl⟩:=hu
 rfl
theorem TS.src {w:World} {o:Option Addr} {b off n:Nat} {V L R:Nat->Int} (h:TS w o b off n V L R) {w':World} (hw:∀ i,0<n->w'.cell? ⟨b,i,none⟩=w.cell? ⟨b,i,none⟩) :
 0<n->∃ ad,o=some ad/\∀ j u,(plC V L R n)[j]?=some u->w'.cell? (ad.add j)=some u:=fun hn =>
 ⟨_,h.at_ hn,fun j u hu=>by
  have e:=(List.getElem?_eq_some_iff.1 hu).1
  rw [Q1] at e
  rw [YF V L R e] at hu
  rw [Addr.add_mid,hw _ hn,<- hu]
  have a:j / 3<n:=by omega
  by_cases d:j%3=0
  ·rw [if_pos d,show off+j=off+j / 3*3 by omega];exact h.val _ a
  ·by_cases f:j%3=1
   ·rw [if_neg d,if_pos f,show off+j=off+j / 3*3+1 by omega];exact h.len _ a
   ·rw [if_neg d,if_neg f,show off+j=off+j / 3*3+2 by omega];exact h.reg _ a⟩
theorem qu {w:World} {base:Nat} {oo:Option Addr} {cap n:Nat} {V L R:Nat->Int} (h:w.ownsRow base 96 3 (O oo n cap) n (plC V L R n)):∃ b,TS w oo b 0 n V L R/\(0<n->base<=b):=by
 rcases Nat.eq_zero_or_pos n with hn | hn
 ·subst hn
  exact ⟨0,⟨fun h=>absurd h (Nat.lt_irrefl _),fun h=>absurd h (Nat.lt_irrefl _),fun i h=>absurd h (Nat.not_lt_zero _),fun i h=>absurd h (Nat.not_lt_zero _),fun i h=>absurd h (Nat.not_lt_zero _)⟩,fun h=>absurd h (Nat.lt_irrefl _)⟩
 ·obtain ⟨g,c,a,e,d⟩:=h.form hn
  cases a
  refine ⟨g,⟨fun _=>rfl,fun _=>d,fun i hi=>?_,fun i hi=>?_,fun i hi=>?_⟩,fun _=>e⟩
  ·rw [Nat.zero_add,h.cellAt (i*3) (by omega),YF V L R (by omega),if_pos (by omega),show i*3 / 3=i by omega]
  ·rw [Nat.zero_add,h.cellAt (i*3+1) (by omega),YF V L R (by omega),if_neg (by omega),if_pos (by omega),show (i*3+1) / 3=i by omega]
  ·rw [Nat.zero_add,h.cellAt (i*3+2) (by omega),YF V L R (by omega),if_neg (by omega),if_neg (by omega),show (i*3+2) / 3=i by omega]
theorem Tryz.infoPlc:(Tryz.prog.info? 96).map (fun i=>(i.zero,i.size,i.bytes))=some (some (.agg #[J Z 0,J Z 0,J Z 0]),3,24):=by kernel_rfl
def zf7 (B n:Nat) (V L R:Nat->Int) (w:World) (e:Ending) (w':World):Prop :=
 e=.returned (J Z 0)/\∃ w1 oo cap,Below w.heap.size w w1/\w1.ownsRow w.heap.size 96 3 (O oo n cap) n (plC V L R n)/\w'=w1.setCell ⟨B,81,none⟩ (O oo n cap)
theorem zbi (B:Nat) (o:Option Addr) (b off n c:Nat) (V L R:Nat->Int) (w:World) (h:TS w o b off n V L R) (hp:yO V L R n=false) :
 Calls Tryz.prog 20 #[.pointer (some ⟨B,0,none⟩),O o n c] w fun e w'=>e=.returned (J Z 9)/\Below w.heap.size w w':=by
 have f:Hid (yO V L R n=false):=hp
 have g:Hid (TS w o b off n V L R):=h
 clear h hp
 go_enter Tryz.func20,Tryz.ntmps20
 go_wp2_with fail
 refine (Yl o b off n c V L R w g.out).mono ?_
 rintro e d ⟨rfl,a⟩
 have i:Hid (Below w.heap.size w d):=a
 clear a
 rw [f.out]
 go_wp2_with fail
 go_ret
 exact ⟨rfl,i.out⟩
theorem zbh (B:Nat) (o:Option Addr) (b off n c:Nat) (V L R:Nat->Int) (f:Nat->Value) (w:World) (hB:w.rowIs B 61 82 f) (h:TS w o b off n V L R) (hp:yO V L R n=true) :
 Calls Tryz.prog 20 #[.pointer (some ⟨B,0,none⟩),O o n c] w (zf7 B n V L R w):=by
 obtain ⟨W,E,D,C,A⟩:=info_parts Tryz.infoPlc
 have hn:=(Xh hp).1
 have HP:Hid (yO V L R n=true):=hp
 have Q:Hid (TS w o b off n V L R):=h
 have U:Hid (w.rowIs B 61 82 f):=hB
 clear h hp hB
 go_enter Tryz.func20,Tryz.ntmps20
 go_wp2_with fail
 refine (Yl o b off n c V L R w Q.out).mono ?_
 rintro e a ⟨rfl,x⟩
 have N:Hid (Below w.heap.size w a):=x
 have z:Hid (TS a o b off n V L R):=Q.out.below x
 have m:=U.out.of_block (x.block B U.out.lt)
 have y:=m.lt
 have r:=x.size
 have S:Hid (a.cell? ⟨B,81,none⟩=some (f 81)/\a.frozen? ⟨B,81,none⟩=false):=⟨m.cell (by omega),m.frozen 81⟩
 clear x m
 rw [HP.out]
 have Z:Hid ((a.alloc (X #[] 96)).ownsRow a.heap.size 96 3 (O (some ⟨a.heap.size,0,none⟩) 0 0) 0 []):=World.ownsRow_made a #[] 0 (Nat.le_refl _) (Nat.zero_le _) rfl
 have Y:Hid (0<n->∃ ad,o=some ad/\∀ j u,(plC V L R n)[j]?=some u->(a.alloc (X #[] 96)).cell? (ad.add j)=some u):=z.out.src (fun i hi=>World.cell?_alloc_lt _ _ _ (z.out.lt hi))
 have hG:Hid (∀ l,(a.alloc (X #[] 96)).grownBy l (some a.heap.size)->l.cell? ⟨B,81,none⟩=some (f 81)/\l.frozen? ⟨B,81,none⟩=false):=fun l hg=>by
  have s:some (⟨B,81,none⟩:Addr).block≠some a.heap.size:=by simp;omega
  have v:(⟨B,81,none⟩:Addr).block<(a.alloc (X #[] 96)).heap.size:=by simp;omega
  refine ⟨?_,?_⟩
  ·rw [hg.cell_far _ v s,World.cell?_alloc_lt _ _ _ y]
   exact S.out.1
  ·rw [hg.frozen_far _ v s,World.frozen?_alloc_past _ _ _ y]
   exact S.out.2
 have I:Hid (0+n<=maxLen):=by show _<=_;unfold maxLen;omega
 have H:Hid ((0+n)*24<=140737488355328):=by show _<=_;omega
 have G:Hid (a.heap.size<=(a.alloc (X #[] 96)).heap.size):=by show a.heap.size<=(a.alloc _).heap.size;simp
 go_wp2_with (at_builtin;refine xZ _ _ _ _ rfl a.heap.size 96 W _ 3 24 Tryz.underlying29 E D C A rfl (by decide) (O (some ⟨a.heap.size,0,none⟩) 0 0) _ _ rfl Z.out o n c (plC V L R n) rfl (Q1 V L R n) Y.out (zef V L R n) I.out H.out G.out (a.heap.size+1) (by simp) rfl ?_;intro P p l q d F;obtain ⟨y3,yz⟩:=hG.out l d)
 have J:Hid (l.ownsRow w.heap.size 96 3 (O P n p) n (plC V L R n)):=by
  have:=q
  rw [Nat.zero_add,List.nil_append] at this
  exact ⟨this.1,this.2.imp id fun ⟨g,p,cur,h1,h2,h3⟩=>⟨g,p,cur,h1,Nat.le_trans r h2,h3⟩⟩
 have K:Hid (Below w.heap.size w l):=(N.out.alloc r _).grown d (by simp;omega) (fun k hk=>by cases hk;exact r)
 clear q d F
 go_wp2_with fail
 go_ret
 exact ⟨rfl,l,P,p,K.out,J.out,rfl⟩
theorem zfY:cpE ⟨#[]⟩≠0:=by decide +kernel
theorem zfn {v:WD} {dn:Nat->Bool} {al:Nat->List Int} {s:ByteArray} (a b d:Int) (h1:v.dl=(dnL dn 64).length) (h2:v.Dn=fun i=>((dnL dn 64)[i]?).getD 0) (h3:v.al=(List.range 16).map al) (hp:yO v.V v.L v.R v.pl=true) (hs:cpE s=0) (hk:Zt a b d=true) :
 quF a b d dn ((List.range 16).map al) v.V v.L v.R v.pl (cpX s)=(0,({ v with a:=a,b:=b,d:=d }:WD).an s)/\({ v with a:=a,b:=b,d:=d }:WD).right=true:=by
 have e:({ v with a:=a,b:=b,d:=d }:WD).right=true:=by
  unfold WD.right ZU
  simp [hk,hp]
 have f:=(qW hs).2.2.1
 refine ⟨?_,e⟩
 rw [<- zfk (by unfold j2;rw [hs];rfl) e]
 unfold quF WD.ru
 rw [if_pos hk,if_neg (by omega)]
 simp only
 rw [h1,h2,h3]
end Go.Proofs.YtaebngpoagjafabGreat
