import Derived.Test.YtaebngpoagjafabGreatU28
import Derived.Test.YtaebngpoagjafabGreatU41
import Derived.Test.YtaebngpoagjafabGreatU44
set_option maxRecDepth 100000
set_option maxHeartbeats 3200000
namespace Go.Proofs.YtaebngpoagjafabGreat
open Obj renaming cells → Q
open Value renaming int → J, slice → O
open IntKind renaming i64 → Z
open Go.RowKit
attribute [local go_sem ↓] Go.wp_at_zero Go.wp_at_succ
theorem yE {w:World} {g:Nat} {x y z x' y' z':Value} {t:TypeId} (h:w.heap[g]?=some (Q #[x,y,z] t (0,0))):(((w.setCell ⟨g,0,none⟩ x').setCell ⟨g,1,none⟩ y').setCell ⟨g,2,none⟩ z').heap[g]?=some (Q #[x',y',z'] t (0,0)):=by
 rw [zU (zU (zU h))];rfl
theorem zcQ (a b d:Int) (do_ ao po:Option Addr) (dl dc ac pl pcp pb poff db doff ab aoff:Nat) (al:List (List Int)) (Dn:Nat->Int) (V L R:Nat->Int) (co:Option Addr) (cb coff cc:Nat) (C:List Int) (fuel:Int) (w:World) (hC:C.length<=140737488355328) (hf:fuel<=9223372036854775807) (hdl:dl<=9223372036854775806) (hln:al.length<=9223372036854775807) (hs:TS w po pb poff pl V L R) (hd:IS w do_ db doff dl Dn) (hal:AS w w.heap.size ao ab aoff al) (hcs:CS w w.heap.size co cb coff C) :
 Calls Tryz.prog 29 #[O co C.length cc,.agg #[J Z a,J Z b,J Z d,O do_ dl dc,O ao al.length ac,O po pl pcp],J Z fuel] w (Qn w (ruF a b d Dn dl al V L R pl C fuel)):=by
 have HS:Hid _:=hs
 have HD:Hid _:=hd
 have g1:Hid _:=hal
 have f8:Hid _:=hcs
 have g0:Hid _:=hcs.byt
 have a1:Hid (Below w.heap.size w ((w.alloc (Q #[J Z a,J Z b,J Z d,O do_ dl dc,O ao al.length ac,O po pl pcp] 31)).alloc (Q #[O none 0 0,J Z 0,J Z 0] 42))):=((Below.refl _ _).alloc (Nat.le_refl _) _).alloc (by simp) _
 have d5:Hid (((w.alloc (Q #[J Z a,J Z b,J Z d,O do_ dl dc,O ao al.length ac,O po pl pcp] 31)).alloc (Q #[O none 0 0,J Z 0,J Z 0] 42)).heap[w.heap.size]?=some (Q #[J Z a,J Z b,J Z d,O do_ dl dc,O ao al.length ac,O po pl pcp] 31 (0,0))):=by show _=_;rw [Below.heap_alloc _ _ _ (by simp)];exact heap_alloc_new w _
 have b7:Hid (((w.alloc (Q #[J Z a,J Z b,J Z d,O do_ dl dc,O ao al.length ac,O po pl pcp] 31)).alloc (Q #[O none 0 0,J Z 0,J Z 0] 42)).heap[w.heap.size+1]?=some (Q #[O none 0 0,J Z 0,J Z 0] 42 (0,0))):=zu _ (by simp)
 have b5:Hid (ruF a b d Dn dl al V L R pl C fuel=if fuel<0 then (9,[],0,0) else if ZU a b d V L R pl=true then xG (zaT a b d Dn dl al V L R pl) C fuel.toNat rt0 else (9,[],0,0)):=rfl
 -- the end,out of the result's block
 have u:Hid (∀ (we:World) (tm:Array Value) (x:Value) (t c n:Int),we.heap[w.heap.size+1]?=some (Q #[x,J Z t,J Z c] 42 (0,0))->tm.getD 6 undef=.pointer (some ⟨w.heap.size+1,0,none⟩)->tm.getD 7 undef=J Z n->Qn w (ruF a b d Dn dl al V L R pl C fuel) (.returned (.tuple #[.agg #[x,J Z t,J Z c],J Z n])) we->bodyPost Tryz.prog Tryz.f29 (Qn w (ruF a b d Dn dl al V L R pl C fuel)) .ret ⟨tm,[]⟩ we):=fun we tm x t c n H h2 h3 h4=>by
  refine bodyPost_ret (v:=.tuple #[.agg #[x,J Z t,J Z c],J Z n]) ?_ rfl h4
  rw [results_cell_tmp Tryz.results29,h2,h3]
  have h5:(asAddr (.pointer (some ⟨w.heap.size+1,0,none⟩))).run Tryz.prog we=.ok ⟨w.heap.size+1,0,none⟩ we:=rfl
  have h6:=run_loadVar_row (P:=Tryz.prog) we (w.heap.size+1) 42 42 #[x,J Z t,J Z c] (0,0) _ H Tryz.underlying42 rfl (by kernel_rfl)
  rw [h5,Result.andThen_ok,h6,Result.andThen_ok]
 clear hs hd hal hcs
 go_enter Tryz.func29,Tryz.ntmps29
 by_cases f0:fuel<0
 ·have Y:Hid (ruF a b d Dn dl al V L R pl C fuel=(9,[],0,0)):=by show _=_;rw [b5.out,if_pos f0]
  go_wp2_with fail
  exact u.out _ _ _ _ _ _ b7.out rfl rfl ⟨a1.out,none,0,0,by rw [Y.out],fun _=>⟨rfl,rfl,rfl⟩,fun h=>by rw [Y.out] at h;cases h⟩
 ·have g4:0<=fuel:=by omega
  obtain ⟨F,rfl⟩:∃ F:Nat,fuel=F:=⟨fuel.toNat,by omega⟩
  go_wp2_with fail
  refine (Jm a b d do_ ao po dl dc al.length ac pl pcp pb poff V L R _ (HS.out.below a1.out)).mono ?_
  rintro e B ⟨rfl,N⟩
  have I:Hid _:=a1.out.trans (N.mono a1.out.size)
  have D:Hid _:=(N.block _ (lt_of_block d5.out)).trans d5.out
  have m:Hid _:=(N.block _ (lt_of_block b7.out)).trans b7.out
  have d2:w.heap.size+1<B.heap.size:=lt_of_block m.out
  clear N
  cases hr:ZU a b d V L R pl with
  | false =>
   have Y:Hid (ruF a b d Dn dl al V L R pl C F=(9,[],0,0)):=by show _=_;rw [b5.out,if_neg (by omega),if_neg (by rw [hr];decide)]
   have y0:B.cell? ⟨w.heap.size+1,0,none⟩=some (O none 0 0):=by rw [cell_of_row _ _ _ _ _ _ m.out];rfl
   have y1:B.cell? ⟨w.heap.size+1,1,none⟩=some (J Z 0):=by rw [cell_of_row _ _ _ _ _ _ m.out];rfl
   have y2:B.cell? ⟨w.heap.size+1,2,none⟩=some (J Z 0):=by rw [cell_of_row _ _ _ _ _ _ m.out];rfl
   have z0:B.frozen? ⟨w.heap.size+1,0,none⟩=false:=by simp [World.frozen?,m.out]
   have z1:B.frozen? ⟨w.heap.size+1,1,none⟩=false:=by simp [World.frozen?,m.out]
   have z2:B.frozen? ⟨w.heap.size+1,2,none⟩=false:=by simp [World.frozen?,m.out]
   clear hr
   go_wp2_with fail
   exact u.out _ _ _ _ _ _ (yE m.out) rfl rfl ⟨((I.out.setCell (by simp only;omega) _).setCell (by simp only;omega) _).setCell (by simp only;omega) _,none,0,0,by rw [Y.out],fun _=>⟨rfl,rfl,rfl⟩,fun h=>by rw [Y.out] at h;cases h⟩
  | true =>
   have a5:Zt a b d=true/\yO V L R pl=true:=by simpa [ZU] using hr
   have d4:M.isA a=true/\0<=b/\b<=32/\0<=d/\d<4294967296:=by simpa [Zt] using a5.1
   obtain ⟨hA,b0,b1,d0,d1⟩:=d4
   have f5:Hid _:=a5.2
   obtain ⟨W,HW⟩:∃ W,Hid (W=zaT a b d Dn dl al V L R pl):=⟨_,rfl⟩
   have Y:Hid (ruF a b d Dn dl al V L R pl C F=xG W C F rt0):=by show _=_;rw [b5.out,if_neg (by omega),if_pos hr,Int.toNat_natCast,HW.out]
   have q0:B.cell? ⟨w.heap.size,0,none⟩=some (J Z a):=by rw [cell_of_row _ _ _ _ _ _ D.out];rfl
   have q1:B.cell? ⟨w.heap.size,1,none⟩=some (J Z b):=by rw [cell_of_row _ _ _ _ _ _ D.out];rfl
   have q2:B.cell? ⟨w.heap.size,2,none⟩=some (J Z d):=by rw [cell_of_row _ _ _ _ _ _ D.out];rfl
   have q3:B.cell? ⟨w.heap.size,3,none⟩=some (O do_ dl dc):=by rw [cell_of_row _ _ _ _ _ _ D.out];rfl
   have q4:B.cell? ⟨w.heap.size,4,none⟩=some (O ao al.length ac):=by rw [cell_of_row _ _ _ _ _ _ D.out];rfl
   have q5:B.cell? ⟨w.heap.size,5,none⟩=some (O po pl pcp):=by rw [cell_of_row _ _ _ _ _ _ D.out];rfl
   clear hr a5
   go_wp2_with fail
   refine (zbS a b d do_ ao po dl dc al.length ac pl pcp pb poff db doff Dn V L R co C.length cc _ hA b0 b1 hdl f5.out (HS.out.below I.out) (HD.out.below I.out HD.out.lt)).mono ?_
   rintro e G ⟨rfl,a9⟩
   have c5:Hid _:=I.out.trans (a9.mono I.out.size)
   have b6:Hid _:=(a9.block _ d2).trans m.out
   have g3:w.heap.size+1<G.heap.size:=lt_of_block b6.out
   clear a9 q0 q1 q2 q3 q4 q5
   -- the run's own block
   have a0:Hid (YQ co C.length cc a b d Dn dl ao al.length ac V L R pl=yG (O co C.length cc) (J Z 0) (.bool false) (J Z W.addr) (J Z W.draw) (DA Dn dl) (O ao al.length ac) (J Z W.reg) (J Z W.dep) (O none 0 0) (J Z 86400) (J Z 0)):=by show _=_;rw [HW.out];rfl
   have b4:Hid ((YQ co C.length cc a b d Dn dl ao al.length ac V L R pl).size=75):=by show _=_;rw [a0.out];exact xj (yY _ _)
   have e1:Hid (∀ v∈(YQ co C.length cc a b d Dn dl ao al.length ac V L R pl).toList,v.oneCell'=true):=by show ∀ v∈_,_;rw [a0.out];exact qK rfl rfl rfl rfl rfl (JH _ _) rfl rfl rfl rfl rfl rfl
   generalize YQ co C.length cc a b d Dn dl ao al.length ac V L R pl=c at *
   obtain ⟨X,b3⟩:∃ X,Hid (X=G.alloc (Q c 118)):=⟨_,rfl⟩
   have g5:(storeCells ⟨G.heap.size,0,none⟩ c.toList).run Tryz.prog (G.alloc (Q Tryz.zeroCells118 118))=.ok () X:=by
    rw [b3.out]
    exact run_storeCells_new (P:=Tryz.prog) G 118 Tryz.zeroCells118 c (by rw [b4.out];kernel_rfl) (by rw [b4.out];rfl) (by
     rw [Array.all_eq_true_iff_forall_mem]
     intro v hv
     exact e1.out v (by simpa using hv))
   have f1:c.size=75:=b4.out
   have f3:Hid (X.heap[G.heap.size]?=some (Q c 118 (0,0))):=by show _=_;rw [b3.out];exact heap_alloc_new _ _
   have b2:Hid (Below (w.heap.size+2) G X):=by show Below _ _ _;rw [b3.out];exact (Below.refl _ _).alloc (by omega) _
   have e2:Hid (∀ k,k<w.heap.size->X.heap[k]?=w.heap[k]?):=fun k hk=>(b2.out.block k (by omega)).trans (c5.out.block k hk)
   have f6:Hid (RM X (w.heap.size+2) G.heap.size co cb coff cc C W (DA Dn dl) (O ao al.length ac) (O none 0 0) rt0):=by
    refine ⟨?_,yY _ _,fun i hi=>?_,World.ownsRow_nil _ _ _ _,by omega,?_⟩
    ·rw [f3.out,a0.out];rfl
    ·rw [Jn _ _ _ hi,HW.out];rfl
    ·have H:=f8.out.of_kept e2.out
     exact ⟨H.at_,fun h=>by have:=H.lt h;omega,H.val,H.byt⟩
   have a2:Hid (W.al=al):=by show _=_;rw [HW.out];rfl
   have g2:Hid (AS X (w.heap.size+2) ao ab aoff W.al):=by
    show AS _ _ _ _ _ _
    rw [a2.out]
    have H:=g1.out.of_kept e2.out
    exact ⟨H.at_,fun h=>by have:=H.lt h;omega,fun k l hl=>by
     obtain ⟨lo,lc,h2,h3⟩:=H.val k l hl
     refine ⟨lo,lc,h2,fun h0=>?_⟩
     obtain ⟨lb,c7,h4,h5,h6⟩:=h3 h0
     exact ⟨lb,c7,h4,by omega,h6⟩,H.len⟩
   have f7:Hid (0<=W.draw):=by show _<=_;rw [HW.out];exact d0
   have e5:Hid (0<=W.addr/\W.addr<4294967296):=by show _/\_;rw [HW.out];exact qg (M.isA_iff.1 hA).1 (M.isA_iff.1 hA).2
   clear a0 e1
   go_wp2_with fail
   go_loopg [2] F (fun q y wr=>∃ (s:RT) (sv:Value),y=J Z q/\Hid (xG W C F rt0=xG W C q s)/\RM wr (w.heap.size+2) G.heap.size co cb coff cc C W (DA Dn dl) (O ao al.length ac) sv s/\s.sv=[]/\s.r.p<=C.length+70000/\q<=F/\Below (w.heap.size+2) G wr)
   case atStart=>exact ⟨rt0,O none 0 0,rfl,rfl,f6.out,rfl,by simp [rt0],Nat.le_refl _,b2.out⟩
   case round =>
    obtain ⟨s,sv,rfl,U,hm,c8,g6,g7,a8⟩:=hrel
    have HM:Hid _:=hm
    have d6:Hid _:=c8
    have b8:Hid _:=a8
    have e3:Hid (AS wr (w.heap.size+2) ao ab aoff W.al):=g2.out.of_kept (fun k hk=>(a8.block k hk).trans (b2.out.block k hk).symm)
    clear hm c8 a8
    have f9:Hid (Below w.heap.size w wr):=c5.out.trans (b8.out.mono (by omega))
    have A:Hid (wr.heap[w.heap.size+1]?=some (Q #[O none 0 0,J Z 0,J Z 0] 42 (0,0))):=(b8.out.block _ (by omega)).trans b6.out
    cases gk with
    | zero =>
     have o:Hid (ruF a b d Dn dl al V L R pl C F=(11,[],0,0)):=by show _=_;rw [Y.out,U.out];rfl
     have y0:wr.cell? ⟨w.heap.size+1,0,none⟩=some (O none 0 0):=by rw [cell_of_row _ _ _ _ _ _ A.out];rfl
     have y1:wr.cell? ⟨w.heap.size+1,1,none⟩=some (J Z 0):=by rw [cell_of_row _ _ _ _ _ _ A.out];rfl
     have y2:wr.cell? ⟨w.heap.size+1,2,none⟩=some (J Z 0):=by rw [cell_of_row _ _ _ _ _ _ A.out];rfl
     have z0:wr.frozen? ⟨w.heap.size+1,0,none⟩=false:=by simp [World.frozen?,A.out]
     have z1:wr.frozen? ⟨w.heap.size+1,1,none⟩=false:=by simp [World.frozen?,A.out]
     have z2:wr.frozen? ⟨w.heap.size+1,2,none⟩=false:=by simp [World.frozen?,A.out]
     go_wp2_with fail
     exact u.out _ _ _ _ _ _ (yE A.out) rfl rfl ⟨((f9.out.setCell (by simp only;omega) _).setCell (by simp only;omega) _).setCell (by simp only;omega) _,none,0,0,by rw [o.out],fun _=>⟨rfl,rfl,rfl⟩,fun h=>by rw [o.out] at h;cases h⟩
    | succ f =>
     have g9:(0:Int)<((f+1:Nat):Int):=by omega
     have g8:((f+1:Nat):Int)-1=(f:Int):=by omega
     have e4:Hid (RM wr (w.heap.size+2) G.heap.size co cb coff cc C W (DA Dn dl) (O ao W.al.length ac) sv s):=by show RM _ _ _ _ _ _ _ _ _ _ _ _ _;rw [a2.out];exact HM.out
     have f2:W.al.length<=9223372036854775807:=by rw [a2.out];exact hln
     have z:=zb8 (w.heap.size+2) G.heap.size co cb coff cc C W (DA Dn dl) ao ab aoff ac sv s wr (by omega) d6.out f7.out e5.out.1 e5.out.2 e3.out f2 e4.out
     rw [a2.out] at z
     have d7:Hid _:=z
     clear z
     have e0:Hid ((zE W C s).1.r.b=false->(zE W C s).1.r.p<=C.length+70000):=fun h=>by have H:=zdZ h;have h2:=zfh (W:=W) (s:=s) g0.out;omega
     have d8:Hid ((zE W C s).2=false->(zE W C s).1.sv=[]):=fun h=>(zdY h).trans d6.out
     have S:Hid (xG W C (f+1) s=if (zE W C s).1.r.b=true then (10,[],0,0) else if (zE W C s).2=true then (0,(zE W C s).1.sv,(zE W C s).1.ttl,(zE W C s).1.sc) else xG W C f (zE W C s).1):=rfl
     generalize hST:zE W C s=st at *
     clear hST
     obtain ⟨t,c6⟩:=st
     simp only at e0 d8 S
     go_wp2_with fail
     refine (Calls.mono d7.out) ?_
     rintro e K ⟨rfl,⟨e6,a6⟩,d3⟩
     have E:Hid _:=a6
     have b9:Hid _:=b8.out.trans d3
     have a4:Hid (Below w.heap.size w K):=c5.out.trans (b9.out.mono (by omega))
     have j:Hid (K.heap[w.heap.size+1]?=some (Q #[O none 0 0,J Z 0,J Z 0] 42 (0,0))):=(b9.out.block _ (by omega)).trans b6.out
     have c2:=a6.c2
     have y0:K.cell? ⟨w.heap.size+1,0,none⟩=some (O none 0 0):=by rw [cell_of_row _ _ _ _ _ _ j.out];rfl
     have y1:K.cell? ⟨w.heap.size+1,1,none⟩=some (J Z 0):=by rw [cell_of_row _ _ _ _ _ _ j.out];rfl
     have y2:K.cell? ⟨w.heap.size+1,2,none⟩=some (J Z 0):=by rw [cell_of_row _ _ _ _ _ _ j.out];rfl
     have z0:K.frozen? ⟨w.heap.size+1,0,none⟩=false:=by simp [World.frozen?,j.out]
     have z1:K.frozen? ⟨w.heap.size+1,1,none⟩=false:=by simp [World.frozen?,j.out]
     have z2:K.frozen? ⟨w.heap.size+1,2,none⟩=false:=by simp [World.frozen?,j.out]
     clear a6 d3
     cases hbad:t.r.b with
     | true =>
      have o:Hid (ruF a b d Dn dl al V L R pl C F=(10,[],0,0)):=by show _=_;rw [Y.out,U.out,S.out,if_pos hbad]
      rw [hbad] at c2
      clear hbad
      go_wp2_with fail
      exact u.out _ _ _ _ _ _ (yE j.out) rfl rfl ⟨((a4.out.setCell (by simp only;omega) _).setCell (by simp only;omega) _).setCell (by simp only;omega) _,none,0,0,by rw [o.out],fun _=>⟨rfl,rfl,rfl⟩,fun h=>by rw [o.out] at h;cases h⟩
     | false =>
      rw [hbad] at c2
      cases c6 with
      | true =>
       have o:Hid (ruF a b d Dn dl al V L R pl C F=(0,t.sv,t.ttl,t.sc)):=by show _=_;rw [Y.out,U.out,S.out,if_neg (by rw [hbad];decide),if_pos rfl]
       have c72:=E.out.c72
       have c73:=E.out.c73
       have c74:=E.out.c74
       obtain ⟨so,sk,e7,_⟩:=z9 E.out.row
       subst e7
       clear hbad
       go_wp2_with fail
       refine u.out _ _ _ _ _ _ (yE j.out) rfl rfl ⟨((a4.out.setCell (by simp only;omega) _).setCell (by simp only;omega) _).setCell (by simp only;omega) _,so,t.sv.length,sk,by rw [o.out],fun h=>by rw [o.out] at h;exact absurd rfl h,fun _=>?_⟩
       rw [o.out]
       refine ⟨rfl,?_⟩
       have a3:K.ownsRow w.heap.size 3 1 (O so t.sv.length sk) t.sv.length (t.sv.map (J Z)):=ZE E.out.row (by omega)
       have e9:(O so t.sv.length sk).ownBlock≠some (w.heap.size+1):=zk a3 j.out (by decide)
       refine zh a3 (fun g hg=>?_)
       have a7:g≠w.heap.size+1:=fun e=>e9 (by rw [<- e];exact hg)
       rw [za a7,za a7,za a7]
      | false =>
       have d9:Hid (xG W C F rt0=xG W C f t):=by show _=_;rw [U.out,S.out,if_neg (by rw [hbad];decide),if_neg (by decide)]
       have e8:=e0.out hbad
       have c9:=d8.out rfl
       have f4:Hid _:=c9
       clear hbad c9
       go_wp2_with fail
       go_roundg f
       case measure=>omega
       case rel=>exact ⟨t,e6,by go_num,d9,E.out,f4.out,e8,by omega,b9.out⟩
end Go.Proofs.YtaebngpoagjafabGreat
