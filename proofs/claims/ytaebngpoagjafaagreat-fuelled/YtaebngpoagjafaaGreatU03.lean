/-
  OUR OWN.
-/
import Derived.Test.YtaebngpoagjafaaGreatU02
set_option maxRecDepth 100000
namespace Go.Proofs.YtaebngpoagjafaaGreat
open Go.RowKit
theorem buildSign (a b c d:Int) (s:ByteArray) (w:World):(Instr.build 151 #[(0,.int .i64 a),(1,.int .i64 b),(2,.int .i64 c),(3,.int .i64 d),(4,.string s)]).run Tryz.prog w=.ok (.agg #[.int .i64 a,.int .i64 b,.int .i64 c,.int .i64 d,.string s]) w:=run_build w 151 _ _ (by kernel_rfl)
theorem RS.signed {w w1:World} {base B s k sv gv fs gs} (h:RS w base B s k sv gv fs gs) {o:Obj} {x:SG} {g cap m:Nat} (hm:m=gs.length+1)
   (hown:w1.ownsRow base 151 5 (.slice (some ⟨g,0,none⟩) m cap) m (sgC gs++sgV x)) (hg':(w.alloc o).drew.grownBy w1 gv.ownBlock) (hat:gv.ownBlock=some g\/g=w.heap.size+1) :
   RS (w1.setCell ⟨B,3,none⟩ (.slice (some ⟨g,0,none⟩) m cap)) base B s k sv (.slice (some ⟨g,0,none⟩) m cap) fs (x::gs)/\Mv base B sv gv sv (.slice (some ⟨g,0,none⟩) m cap) w (w1.setCell ⟨B,3,none⟩ (.slice (some ⟨g,0,none⟩) m cap)):=by
 have hg:(w.alloc o).grownBy w1 gv.ownBlock:=⟨hg'.os,hg'.tape,hg'.output,hg'.size,hg'.block⟩
 have hA:=h.alloc o
 have hb:w1.heap[B]?=(w.alloc o).heap[B]?:=hg.block B hA.lt (fun e=>hA.neG e.symm)
 have hblk:=hb.trans hA.blk
 have hgB:(Value.slice (some ⟨g,0,none⟩) m cap).ownBlock≠some B:=owns_ne hown hblk (by decide)
 have hst1:w1.ownsRow base 187 4 sv fs.length (frC fs):=hA.st.kept hg (by
   rcases hA.st.2 with ⟨rfl,_⟩ | ⟨x,c,cur,rfl,_,hx,_⟩
   · exact .inl rfl
   · right
     intro e
     have:=owns_ne hA.sg hx (by decide)
     exact this e.symm)
 refine ⟨⟨blk4_set hblk,ownsRow_setCell_other hst1 h.neS _,?_,h.hB⟩,⟨?_,fun b hlt ho=>⟨?_,ho.1,ho.2.1,?_⟩⟩⟩
 · subst hm;exact ownsRow_setCell_other hown hgB _
 · refine Below.setCell ?_ h.hB _
   exact ((Below.refl base w).alloc h.bs o).grown hg (by have:=h.bs;simp;omega) (fun q hq=>(h.sg.lt q hq).1)
 · rw [heap_set_ne ho.1]
   have hne:some b≠gv.ownBlock:=fun e=>ho.2.2 e.symm
   rw [hg.block b (by simp;omega) hne,Below.heap_alloc _ _ _ hlt]
 · intro e
   simp [Value.ownBlock] at e
   rcases hat with h1 | h1
   · exact ho.2.2 (by rw [h1,e])
   · omega
theorem RS.grown3 {w w1:World} {base B s k sv gv fs gs} (h:RS w base B s k sv gv fs gs) {o:Obj} (hg':(w.alloc o).drew.grownBy w1 gv.ownBlock):w1.cell? ⟨B,0,none⟩=some (.string s)/\w1.cell? ⟨B,1,none⟩=some (.int .i64 k)/\w1.cell? ⟨B,3,none⟩=some gv/\w1.frozen? ⟨B,3,none⟩=false /\
   ∀ b j,b<w.heap.size->Out B sv gv b->w1.cell? ⟨b,j,none⟩=w.cell? ⟨b,j,none⟩:=by
 have hg:(w.alloc o).grownBy w1 gv.ownBlock:=⟨hg'.os,hg'.tape,hg'.output,hg'.size,hg'.block⟩
 have hA:=h.alloc o
 have e:w1.heap[B]?=(w.alloc o).heap[B]?:=hg.block B hA.lt (fun e=>hA.neG e.symm)
 refine ⟨by rw [World.cell?_of_block (w:=w.alloc o) e];exact hA.c0,by rw [World.cell?_of_block (w:=w.alloc o) e];exact hA.c1,by rw [World.cell?_of_block (w:=w.alloc o) e];exact hA.c3,by rw [World.frozen?_of_block (w:=w.alloc o) e];exact hA.fz 3,fun b j hlt ho=>?_⟩
 have e2:w1.heap[b]?=w.heap[b]?:=by rw [hg.block b (by simp;omega) (fun e=>ho.2.2 e.symm),Below.heap_alloc _ _ _ hlt]
 exact World.cell?_of_block (w:=w) e2
attribute [local go_sem ↓] Go.wp_at_zero Go.wp_at_succ
set_option linter.unusedSimpArgs false in
set_option maxHeartbeats 3200000 in
theorem sign_any (base B:Nat) (s:ByteArray) (k p:Nat) (f:FR) (sv gv:Value) (fs:List FR) (gs:List SG) (w:World) (h:RS w base B s k sv gv fs gs) (hp:p<=k) (hk:k<=s.size) (hlen:gs.length+1<=1099511627776) :
   Calls Tryz.prog 176 #[.pointer (some ⟨B,0,none⟩),frA f,.int .i64 p] w fun e w'=>e=.returned (.tuple #[])/\∃ gv',RS w' base B s k sv gv' fs ({ kind:=f.kind,place:=p,depth:=f.depth,list:=f.list,text:=s.extract p k }::gs)/\Mv base B sv gv sv gv' w w':=by
 obtain ⟨i0,hi0,hz0,hz1,hz2⟩:=info_parts Tryz.infoSign
 have hbd:=fun w=>buildSign f.kind p f.depth f.list (s.extract p k) w
 have hpk:(p:Int)<=(k:Int):=by omega
 have hks:(k:Int)<=(s.size:Int):=by omega
 unfold frA
 go_enter Tryz.func176,Tryz.ntmps176
 go_wp2_with fail
 have HA:=h.alloc (.cells #[.int .i64 f.sym,.int .i64 f.kind,.int .i64 f.depth,.int .i64 f.list] 187)
 have b1:(w.alloc (.cells #[.int .i64 f.sym,.int .i64 f.kind,.int .i64 f.depth,.int .i64 f.list] 187)).cell? ⟨w.heap.size,1,none⟩=some (.int .i64 f.kind):=by simp
 have b2:(w.alloc (.cells #[.int .i64 f.sym,.int .i64 f.kind,.int .i64 f.depth,.int .i64 f.list] 187)).cell? ⟨w.heap.size,2,none⟩=some (.int .i64 f.depth):=by simp
 have b3:(w.alloc (.cells #[.int .i64 f.sym,.int .i64 f.kind,.int .i64 f.depth,.int .i64 f.list] 187)).cell? ⟨w.heap.size,3,none⟩=some (.int .i64 f.list):=by simp
 have hou:=h.outNew
 have hwl:w.heap.size<(w.alloc (.cells #[.int .i64 f.sym,.int .i64 f.kind,.int .i64 f.depth,.int .i64 f.list] 187)).heap.size:=by simp
 have hmv:Mv base B sv gv sv gv w (w.alloc (.cells #[.int .i64 f.sym,.int .i64 f.kind,.int .i64 f.depth,.int .i64 f.list] 187)):=Mv.alloc h.bs _
 generalize w.alloc (.cells #[.int .i64 f.sym,.int .i64 f.kind,.int .i64 f.depth,.int .i64 f.list] 187)=w1 at *
 have HR:Hid (RS w1 base B s k sv gv fs gs):=HA
 have HM:Hid (Mv base B sv gv sv gv w w1):=hmv
 have c0:=HA.c0
 have c1:=HA.c1
 have c3:=HA.c3
 clear h HA hmv
 refine wp_region_held_drew (S:=(fun w'=>w'.cell? ⟨B,0,none⟩=some (.string s)/\w'.cell? ⟨B,1,none⟩=some (.int .i64 k)/\w'.cell? ⟨w.heap.size,1,none⟩=some (.int .i64 f.kind)/\w'.cell? ⟨w.heap.size,2,none⟩=some (.int .i64 f.depth)/\w'.cell? ⟨w.heap.size,3,none⟩=some (.int .i64 f.list))) (by kernel_rfl) ⟨c0,c1,b1,b2,b3⟩ (fun hHeld=>?_)
 refine wpAnyH_take (i:=0) (v:=?v0) rfl (by kernel_rfl) (by kernel_rfl) (by kernel_rfl) (fun _ _ _ h=>h) (Or.inl ⟨by rfl,?y0⟩) (by assumption) ?r0
 case y0=>(intro wz hSw;(try dsimp only at hSw);first | (go_simp;done) | (go_simp;with_reducible rfl))
 try simp only [Act.put,List.setIfInBounds_toArray,List.set_cons_zero,List.set_cons_succ]
 refine wpAnyH_take (i:=1) (v:=?v1) rfl (by kernel_rfl) (by kernel_rfl) (by kernel_rfl) (fun _ _ _ h=>h) (Or.inl ⟨by rfl,?y1⟩) (by assumption) ?r1
 case y1=>(intro wz hSw;(try dsimp only at hSw);first | (go_simp;done) | (go_simp;with_reducible rfl))
 try simp only [Act.put,List.setIfInBounds_toArray,List.set_cons_zero,List.set_cons_succ]
 refine wpAnyH_take (i:=2) (v:=?v2) rfl (by kernel_rfl) (by kernel_rfl) (by kernel_rfl) (fun _ _ _ h=>h) (Or.inl ⟨by rfl,?y2⟩) (by assumption) ?r2
 case y2=>(intro wz hSw;(try dsimp only at hSw);first | (go_simp;done) | (go_simp;with_reducible rfl))
 try simp only [Act.put,List.setIfInBounds_toArray,List.set_cons_zero,List.set_cons_succ]
 refine wpAnyH_take (i:=3) (v:=?v3) rfl (by kernel_rfl) (by kernel_rfl) (by kernel_rfl) (fun _ _ _ h=>h) (Or.inl ⟨by rfl,?y3⟩) (by assumption) ?r3
 case y3=>(intro wz hSw;(try dsimp only at hSw);first | (go_simp;done) | (go_simp;with_reducible rfl))
 try simp only [Act.put,List.setIfInBounds_toArray,List.set_cons_zero,List.set_cons_succ]
 refine wpAnyH_take (i:=5) (v:=?v5) rfl (by kernel_rfl) (by kernel_rfl) (by kernel_rfl) (fun _ _ _ h=>h) (Or.inl ⟨by rfl,?y5⟩) (by assumption) ?r5
 case y5=>(intro wz hSw;(try dsimp only at hSw);first | (go_simp;done) | (go_simp;with_reducible rfl))
 try simp only [Act.put,List.setIfInBounds_toArray,List.set_cons_zero,List.set_cons_succ]
 refine wpAnyH_take (i:=6) (v:=?v6) rfl (by kernel_rfl) (by kernel_rfl) (by kernel_rfl) (fun _ _ _ h=>h) (Or.inl ⟨by rfl,?y6⟩) (by assumption) ?r6
 case y6=>(intro wz hSw;(try dsimp only at hSw);first | (go_simp;done) | (go_simp;with_reducible rfl))
 try simp only [Act.put,List.setIfInBounds_toArray,List.set_cons_zero,List.set_cons_succ]
 refine wpAnyH_take (i:=7) (v:=?v7) rfl (by kernel_rfl) (by kernel_rfl) (by kernel_rfl) (fun _ _ _ h=>h) (Or.inl ⟨by rfl,?y7⟩) (by assumption) ?r7
 case y7=>(intro wz hSw;(try dsimp only at hSw);first | (go_simp;done) | (go_simp;with_reducible rfl))
 try simp only [Act.put,List.setIfInBounds_toArray,List.set_cons_zero,List.set_cons_succ]
 refine wpAnyH_take (i:=8) (v:=?v8) rfl (by kernel_rfl) (by kernel_rfl) (by kernel_rfl) (fun _ _ _ h=>h) (Or.inl ⟨by rfl,?y8⟩) (by assumption) ?r8
 case y8=>(intro wz hSw;(try dsimp only at hSw);first | (go_simp;done) | (go_simp;with_reducible rfl))
 try simp only [Act.put,List.setIfInBounds_toArray,List.set_cons_zero,List.set_cons_succ]
 refine wpAnyH_take (i:=9) (v:=?v9) rfl (by kernel_rfl) (by kernel_rfl) (by kernel_rfl) (fun _ _ _ h=>h) (Or.inl ⟨by rfl,?y9⟩) (by assumption) ?r9
 case y9=>(intro wz hSw;(try dsimp only at hSw);first | (go_simp;done) | (go_simp;with_reducible rfl))
 try simp only [Act.put,List.setIfInBounds_toArray,List.set_cons_zero,List.set_cons_succ]
 refine wpAnyH_take (i:=10) (v:=?v10) rfl (by kernel_rfl) (by kernel_rfl) (by kernel_rfl) (fun _ _ _ h=>h) (Or.inl ⟨by rfl,?y10⟩) (by assumption) ?r10
 case y10=>(intro wz hSw;(try dsimp only at hSw);first | (go_simp;done) | (go_simp;with_reducible rfl))
 try simp only [Act.put,List.setIfInBounds_toArray,List.set_cons_zero,List.set_cons_succ]
 refine wpAnyH_take (i:=11) (v:=?v11) rfl (by kernel_rfl) (by kernel_rfl) (by kernel_rfl) (fun _ _ _ h=>h) (Or.inl ⟨by rfl,?y11⟩) (by assumption) ?r11
 case y11=>(intro wz hSw;(try dsimp only at hSw);first | (go_simp;done) | (go_simp;with_reducible rfl))
 try simp only [Act.put,List.setIfInBounds_toArray,List.set_cons_zero,List.set_cons_succ]
 refine wpAnyH_take (i:=12) (v:=?v12) rfl (by kernel_rfl) (by kernel_rfl) (by kernel_rfl) (fun _ _ _ h=>h) (Or.inl ⟨by rfl,?y12⟩) (by assumption) ?r12
 case y12=>(intro wz hSw;(try dsimp only at hSw);first | (go_simp;done) | (go_simp;with_reducible rfl))
 try simp only [Act.put,List.setIfInBounds_toArray,List.set_cons_zero,List.set_cons_succ]
 refine wpAnyH_take (i:=13) (v:=?v13) rfl (by kernel_rfl) (by kernel_rfl) (by kernel_rfl) (fun _ _ _ h=>h) (Or.inl ⟨by rfl,?y13⟩) (by assumption) ?r13
 case y13=>(intro wz hSw;(try dsimp only at hSw);first | (go_simp;done) | (go_simp;with_reducible rfl))
 try simp only [Act.put,List.setIfInBounds_toArray,List.set_cons_zero,List.set_cons_succ]
 refine wpAnyH_take (i:=14) (v:=?v14) rfl (by kernel_rfl) (by kernel_rfl) (by kernel_rfl) (fun _ _ _ h=>h) (Or.inl ⟨by rfl,?y14⟩) (by assumption) ?r14
 case y14=>(intro wz hSw;(try dsimp only at hSw);first | (go_simp;done) | (go_simp;with_reducible rfl))
 try simp only [Act.put,List.setIfInBounds_toArray,List.set_cons_zero,List.set_cons_succ]
 refine wpAnyH_take (i:=15) (v:=?v15) rfl (by kernel_rfl) (by kernel_rfl) (by kernel_rfl) (fun _ _ _ h=>h) (Or.inl ⟨by rfl,?y15⟩) (by assumption) ?r15
 case y15=>(intro wz hSw;(try dsimp only at hSw);first | (go_simp;done) | (go_simp;with_reducible rfl))
 try simp only [Act.put,List.setIfInBounds_toArray,List.set_cons_zero,List.set_cons_succ]
 refine wpAnyH_take (i:=16) (v:=?v16) rfl (by kernel_rfl) (by kernel_rfl) (by kernel_rfl) (fun _ _ _ h=>h) (Or.inl ⟨by rfl,?y16⟩) (by assumption) ?r16
 case y16=>(intro wz hSw;(try dsimp only at hSw);first | (go_simp;done) | (go_simp;with_reducible rfl))
 try simp only [Act.put,List.setIfInBounds_toArray,List.set_cons_zero,List.set_cons_succ]
 refine wpAnyH_take (i:=17) (v:=?v17) rfl (by kernel_rfl) (by kernel_rfl) (by kernel_rfl) (fun _ _ _ h=>h) (Or.inl ⟨by rfl,?y17⟩) (by assumption) ?r17
 case y17=>(intro wz hSw;(try dsimp only at hSw);first | (go_simp;done) | (go_simp;with_reducible rfl))
 try simp only [Act.put,List.setIfInBounds_toArray,List.set_cons_zero,List.set_cons_succ]
 refine wpAnyH_take (i:=18) (v:=?v18) rfl (by kernel_rfl) (by kernel_rfl) (by kernel_rfl) (fun _ _ _ h=>h) (Or.inl ⟨by rfl,?y18⟩) (by assumption) ?r18
 case y18=>(intro wz hSw;(try dsimp only at hSw);first | (go_simp;done) | (go_simp;with_reducible rfl))
 try simp only [Act.put,List.setIfInBounds_toArray,List.set_cons_zero,List.set_cons_succ]
 refine wpAnyH_take (i:=19) (v:=?v19) rfl (by kernel_rfl) (by kernel_rfl) (by kernel_rfl) (fun _ _ _ h=>h) (Or.inl ⟨by rfl,?y19⟩) (by assumption) ?r19
 case y19=>(intro wz hSw;(try dsimp only at hSw);first | (go_simp;done) | (go_simp;with_reducible rfl))
 try simp only [Act.put,List.setIfInBounds_toArray,List.set_cons_zero,List.set_cons_succ]
 refine wpAnyH_take (i:=20) (v:=?v20) rfl (by kernel_rfl) (by kernel_rfl) (by kernel_rfl) (fun _ _ _ h=>h) (Or.inl ⟨by rfl,?y20⟩) (by assumption) ?r20
 case y20=>(intro wz hSw;(try dsimp only at hSw);first | (go_simp;done) | (go_simp;with_reducible rfl))
 try simp only [Act.put,List.setIfInBounds_toArray,List.set_cons_zero,List.set_cons_succ]
 refine wpAnyH_take (i:=21) (v:=?v21) rfl (by kernel_rfl) (by kernel_rfl) (by kernel_rfl) (fun _ _ _ h=>h) (Or.inl ⟨by rfl,?y21⟩) (by assumption) ?r21
 case y21=>(intro wz hSw;(try dsimp only at hSw);first | (go_simp;done) | (go_simp;with_reducible rfl))
 try simp only [Act.put,List.setIfInBounds_toArray,List.set_cons_zero,List.set_cons_succ]
 refine wpAnyH_take (i:=22) (v:=?v22) rfl (by kernel_rfl) (by kernel_rfl) (by kernel_rfl) (fun _ _ _ h=>h) (Or.inl ⟨by rfl,?y22⟩) (by assumption) ?r22
 case y22=>(intro wz hSw;(try dsimp only at hSw);first | (go_simp;done) | (go_simp;with_reducible rfl))
 try simp only [Act.put,List.setIfInBounds_toArray,List.set_cons_zero,List.set_cons_succ]
 have hou1:Out B sv gv w.heap.size:=hou
 have hBne:(⟨B,3,none⟩:Addr).block≠w.heap.size:=fun e=>hou.1 e.symm
 have hS2:∀ o:Obj,(w1.alloc o).drew.cell? ⟨B,0,none⟩=some (.string s)/\(w1.alloc o).drew.cell? ⟨B,1,none⟩=some (.int .i64 k)/\(w1.alloc o).drew.cell? ⟨w.heap.size,1,none⟩=some (.int .i64 f.kind)/\(w1.alloc o).drew.cell? ⟨w.heap.size,2,none⟩=some (.int .i64 f.depth)/\(w1.alloc o).drew.cell? ⟨w.heap.size,3,none⟩=some (.int .i64 f.list):=fun o=>by
   have hb:Below w1.heap.size w1 (w1.alloc o):=(Below.refl _ _).alloc (Nat.le_refl _) o
   exact ⟨(HR.out.alloc o).c0,(HR.out.alloc o).c1,(hb.cell (p:=⟨w.heap.size,1,none⟩) hwl).trans b1,(hb.cell (p:=⟨w.heap.size,2,none⟩) hwl).trans b2,(hb.cell (p:=⟨w.heap.size,3,none⟩) hwl).trans b3⟩
 have hA1:Hid (gs.length+1<=maxLen):=by show _<=_;unfold maxLen;omega
 have hA2:Hid ((gs.length+1)*48<=140737488355328):=by show _<=_;omega
 have hone:Hid (∀ u∈sgV ⟨f.kind,p,f.depth,f.list,s.extract p k⟩,u.oneCell'=true):=fun u hu=>by simp [sgV] at hu;rcases hu with rfl | rfl | rfl | rfl | rfl<;>rfl
 have hA3:Hid (∀ o:Obj,base<=(w1.alloc o).drew.heap.size):=fun o=>by have:=HR.out.bs;show base<=(w1.alloc o).heap.size;simp;omega
 refine wpAnyH_ready (rs:=[4,23]) (by kernel_rfl) (by simp) ?_
 refine AllReadyH.cons rfl (fun K hK=>?_) ?_
 · go_simp
   refine hK.out _ _ hHeld (fun hHeld=>?_)
   clear hK K
   refine wpAnyH_ready (rs:=[23]) (by kernel_rfl) (by simp) ?_
   refine AllReadyH.cons rfl (fun K hK=>?_) (fun j hj=>by cases hj)
   go_simp
   refine hK.out _ _ (hS2 _) (fun hHeld=>?_)
   clear hK K
   refine wpAnyH_ready (rs:=[24]) (by kernel_rfl) (by simp) ?_
   refine AllReadyH.cons rfl (fun K hK=>?_) (fun j hj=>by cases hj)
   refine step_append_lies _ (by rfl) (.tmp 10) (.tmp 29) 146 (by rfl) base 151 i0 _ 5 48 Tryz.underlying146 hi0 hz0 hz1 hz2 rfl (by decide) gv _ _ (by rfl) ((HR.out.sg.alloc _).drew) ⟨w1.heap.size,0,none⟩ 1 1 (sgV ⟨f.kind,p,f.depth,f.list,s.extract p k⟩) (by rfl) (by rfl) (World.news_of_block (cs:=#[.int .i64 f.kind,.int .i64 p,.int .i64 f.depth,.int .i64 f.list,.string (s.extract p k)]) (t:=151) (fr:=(0,0)) (heap_alloc_new w1 _)) hone.out (Nat.lt_succ_self 0) hA1.out hA2.out (hA3.out _) (w1.heap.size+1) (by simp) ?_
   intro gg cap w2 hown hgrow hat hlt
   obtain ⟨g0,g1,g3,gz,gfar⟩:=HR.out.grown3 hgrow
   have hSg:=HR.out.signed rfl hown hgrow hat
   have HS1:Hid (RS (w2.setCell ⟨B,3,none⟩ (.slice (some ⟨gg,0,none⟩) (gs.length+1) cap)) base B s k sv (.slice (some ⟨gg,0,none⟩) (gs.length+1) cap) fs (⟨f.kind,p,f.depth,f.list,s.extract p k⟩::gs)):=hSg.1
   have HS2:Hid (Mv base B sv gv sv (.slice (some ⟨gg,0,none⟩) (gs.length+1) cap) w1 (w2.setCell ⟨B,3,none⟩ (.slice (some ⟨gg,0,none⟩) (gs.length+1) cap))):=hSg.2
   have x1:=(gfar w.heap.size 1 hwl hou1).trans b1
   have x2:=(gfar w.heap.size 2 hwl hou1).trans b2
   have x3:=(gfar w.heap.size 3 hwl hou1).trans b3
   clear hSg hown hgrow hat gfar
   refine hK.out _ _ ⟨g0,g1,x1,x2,x3⟩ (fun hHeld=>?_)
   clear hK K
   refine wpAnyH_take (i:=25) (v:=?v25) rfl (by kernel_rfl) (by kernel_rfl) (by kernel_rfl) (fun _ _ _ h=>h) (Or.inl ⟨by rfl,?y25⟩) (by assumption) ?r25
   case y25=>(intro wz hSw;(try dsimp only at hSw);first | (go_simp;done) | (go_simp;with_reducible rfl))
   refine wpAnyH_take (i:=26) (v:=?v26) rfl (by kernel_rfl) (by kernel_rfl) (by kernel_rfl) (fun _ _ _ h=>h) (Or.inl ⟨by rfl,?y26⟩) (by assumption) ?r26
   case y26=>(intro wz hSw;(try dsimp only at hSw);first | (go_simp;done) | (go_simp;with_reducible rfl))
   refine wpAnyH_ready (rs:=[27]) (by kernel_rfl) (by simp) ?_
   refine AllReadyH.cons rfl (fun K hK=>?_) (fun j hj=>by cases hj)
   go_simp
   refine hK.out _ _ ⟨by rw [HS1.out.c0],by rw [HS1.out.c1],?_,?_,?_⟩ (fun hHeld=>?_)
   · rw [World.cell?_setCell_far _ _ _ _ hBne];exact x1
   · rw [World.cell?_setCell_far _ _ _ _ hBne];exact x2
   · rw [World.cell?_setCell_far _ _ _ _ hBne];exact x3
   clear hK K
   refine wpAnyH_done (by kernel_rfl) ?_ _
   clear hHeld x1 x2 x3 g0 g1 g3 gz
   go_wp2_with fail
   go_end0
   exact ⟨rfl,_,HS1.out,HM.out.trans HS2.out⟩
 · refine AllReadyH.cons rfl (fun K hK=>?_) (fun j hj=>by cases hj)
   go_simp
   refine hK.out _ _ (hS2 _) (fun hHeld=>?_)
   clear hK K
   have c3':∀ o:Obj,(w1.alloc o).cell? ⟨B,3,none⟩=some gv:=fun o=>(HR.out.alloc o).c3
   refine wpAnyH_ready (rs:=[4]) (by kernel_rfl) (by simp) ?_
   refine AllReadyH.cons rfl (fun K hK=>?_) (fun j hj=>by cases hj)
   go_simp
   refine hK.out _ _ (hS2 _) (fun hHeld=>?_)
   clear hK K
   refine wpAnyH_ready (rs:=[24]) (by kernel_rfl) (by simp) ?_
   refine AllReadyH.cons rfl (fun K hK=>?_) (fun j hj=>by cases hj)
   refine step_append_lies _ (by rfl) (.tmp 10) (.tmp 29) 146 (by rfl) base 151 i0 _ 5 48 Tryz.underlying146 hi0 hz0 hz1 hz2 rfl (by decide) gv _ _ (by rfl) ((HR.out.sg.alloc _).drew) ⟨w1.heap.size,0,none⟩ 1 1 (sgV ⟨f.kind,p,f.depth,f.list,s.extract p k⟩) (by rfl) (by rfl) (World.news_of_block (cs:=#[.int .i64 f.kind,.int .i64 p,.int .i64 f.depth,.int .i64 f.list,.string (s.extract p k)]) (t:=151) (fr:=(0,0)) (heap_alloc_new w1 _)) hone.out (Nat.lt_succ_self 0) hA1.out hA2.out (hA3.out _) (w1.heap.size+1) (by simp) ?_
   intro gg cap w2 hown hgrow hat hlt
   obtain ⟨g0,g1,g3,gz,gfar⟩:=HR.out.grown3 hgrow
   have hSg:=HR.out.signed rfl hown hgrow hat
   have HS1:Hid (RS (w2.setCell ⟨B,3,none⟩ (.slice (some ⟨gg,0,none⟩) (gs.length+1) cap)) base B s k sv (.slice (some ⟨gg,0,none⟩) (gs.length+1) cap) fs (⟨f.kind,p,f.depth,f.list,s.extract p k⟩::gs)):=hSg.1
   have HS2:Hid (Mv base B sv gv sv (.slice (some ⟨gg,0,none⟩) (gs.length+1) cap) w1 (w2.setCell ⟨B,3,none⟩ (.slice (some ⟨gg,0,none⟩) (gs.length+1) cap))):=hSg.2
   have x1:=(gfar w.heap.size 1 hwl hou1).trans b1
   have x2:=(gfar w.heap.size 2 hwl hou1).trans b2
   have x3:=(gfar w.heap.size 3 hwl hou1).trans b3
   clear hSg hown hgrow hat gfar
   refine hK.out _ _ ⟨g0,g1,x1,x2,x3⟩ (fun hHeld=>?_)
   clear hK K
   refine wpAnyH_take (i:=25) (v:=?vb25) rfl (by kernel_rfl) (by kernel_rfl) (by kernel_rfl) (fun _ _ _ h=>h) (Or.inl ⟨by rfl,?yb25⟩) (by assumption) ?rb25
   case yb25=>(intro wz hSw;(try dsimp only at hSw);first | (go_simp;done) | (go_simp;with_reducible rfl))
   refine wpAnyH_take (i:=26) (v:=?vb26) rfl (by kernel_rfl) (by kernel_rfl) (by kernel_rfl) (fun _ _ _ h=>h) (Or.inl ⟨by rfl,?yb26⟩) (by assumption) ?rb26
   case yb26=>(intro wz hSw;(try dsimp only at hSw);first | (go_simp;done) | (go_simp;with_reducible rfl))
   refine wpAnyH_ready (rs:=[27]) (by kernel_rfl) (by simp) ?_
   refine AllReadyH.cons rfl (fun K hK=>?_) (fun j hj=>by cases hj)
   go_simp
   refine hK.out _ _ ⟨by rw [HS1.out.c0],by rw [HS1.out.c1],?_,?_,?_⟩ (fun hHeld=>?_)
   · rw [World.cell?_setCell_far _ _ _ _ hBne];exact x1
   · rw [World.cell?_setCell_far _ _ _ _ hBne];exact x2
   · rw [World.cell?_setCell_far _ _ _ _ hBne];exact x3
   clear hK K
   refine wpAnyH_done (by kernel_rfl) ?_ _
   clear hHeld x1 x2 x3 g0 g1 g3 gz
   go_wp2_with fail
   go_end0
   exact ⟨rfl,_,HS1.out,HM.out.trans HS2.out⟩
end Go.Proofs.YtaebngpoagjafaaGreat
namespace Go.Proofs.YtaebngpoagjafaaGreat
open Go.RowKit
namespace T
def dig (c:Int):Bool:=decide (48<=c) && decide (c<=57)
def stp (most lim:Int) (plain:Bool) (c n c0:Int):Bool:=decide (lim<=c) || (n==most || (plain && (n==1 && c0==48)))
def dgF (s:ByteArray) (most lim:Int) (plain:Bool) (p:Nat):Nat->Nat->Bool×Nat
 | 0,j=>(true,j)
 | n+1,j=>if dig (ch s j)=true then (if stp most lim plain (ch s j) ((j:Int)-p) (ch s p)=true then (false,j) else dgF s most lim plain p n (j+1)) else (true,j)
def dg (s:ByteArray) (most lim:Int) (plain:Bool) (p:Nat):Bool×Nat:=dgF s most lim plain p (s.size-p+1) p
theorem dgF_end {s:ByteArray} {most lim:Int} {plain:Bool} {p n j:Nat} (h:dig (ch s j)=false):dgF s most lim plain p (n+1) j=(true,j):=by
 simp only [dgF];rw [if_neg (by rw [h];decide)]
theorem dgF_stop {s:ByteArray} {most lim:Int} {plain:Bool} {p n j:Nat} (h:dig (ch s j)=true) (h2:stp most lim plain (ch s j) ((j:Int)-p) (ch s p)=true):dgF s most lim plain p (n+1) j=(false,j):=by
 simp only [dgF];rw [if_pos h,if_pos h2]
theorem dgF_next {s:ByteArray} {most lim:Int} {plain:Bool} {p n j:Nat} (h:dig (ch s j)=true) (h2:stp most lim plain (ch s j) ((j:Int)-p) (ch s p)=false):dgF s most lim plain p (n+1) j=dgF s most lim plain p n (j+1):=by
 simp only [dgF];rw [if_pos h,if_neg (by rw [h2];decide)]
end T
structure FB (w:World) (b:Nat) (f:FR):Prop where
 c0:w.cell? ⟨b,0,none⟩=some (.int .i64 f.sym)
 c1:w.cell? ⟨b,1,none⟩=some (.int .i64 f.kind)
 c2:w.cell? ⟨b,2,none⟩=some (.int .i64 f.depth)
 c3:w.cell? ⟨b,3,none⟩=some (.int .i64 f.list)
theorem FB.of_block {w w':World} {b:Nat} {f:FR} (h:FB w b f) (e:w'.heap[b]?=w.heap[b]?):FB w' b f :=
 ⟨by rw [World.cell?_of_block (w:=w) e];exact h.c0,by rw [World.cell?_of_block (w:=w) e];exact h.c1,by rw [World.cell?_of_block (w:=w) e];exact h.c2,by rw [World.cell?_of_block (w:=w) e];exact h.c3⟩
set_option maxHeartbeats 3200000 in
theorem digits_any (base B:Nat) (s:ByteArray) (k:Nat) (f:FR) (most lim:Int) (plain:Bool) (sv gv:Value) (fs:List FR) (gs:List SG) (w:World) (h:RS w base B s k sv gv fs gs) (hs:s.size<=2000) (hk:k<=s.size) (hlen:gs.length+1<=1099511627776) :
   Calls Tryz.prog 175 #[.pointer (some ⟨B,0,none⟩),frA f,.int .i64 most,.int .u8 lim,.bool plain] w fun e w' =>
     (((T.dg s most lim plain (T.sk s k)).1 && decide (T.sk s k<(T.dg s most lim plain (T.sk s k)).2))=false/\e=.returned (.bool false)/\RS w' base B s (T.dg s most lim plain (T.sk s k)).2 sv gv fs gs/\Mv base B sv gv sv gv w w') \/
     (((T.dg s most lim plain (T.sk s k)).1 && decide (T.sk s k<(T.dg s most lim plain (T.sk s k)).2))=true/\e=.returned (.bool true)/\∃ gv',RS w' base B s (T.dg s most lim plain (T.sk s k)).2 sv gv' fs
       ({ kind:=f.kind,place:=T.sk s k,depth:=f.depth,list:=f.list,text:=s.extract (T.sk s k) (T.dg s most lim plain (T.sk s k)).2 }::gs)/\Mv base B sv gv sv gv' w w'):=by
 have hpk:T.sk s k<=s.size:=T.sk_le hk
 have hpee:=fun (wz:World) (hz:RS wz base B s k sv gv fs gs)=>peek_any base B s k sv gv fs gs wz hs hk hz
 generalize hpe:T.sk s k=p at *
 have HPE:Hid (∀ (wz:World),RS wz base B s k sv gv fs gs->Calls Tryz.prog 135 #[.pointer (some ⟨B,0,none⟩)] wz fun e w'=>e=.returned (.int .i64 (T.ch s p))/\RS w' base B s p sv gv fs gs/\Mv base B sv gv sv gv wz w'):=hpee
 clear hpe hpee hk
 unfold frA
 go_enter Tryz.func175,Tryz.ntmps175
 go_wp2_with fail
 have hA:=h.alloc (.cells #[.int .i64 f.sym,.int .i64 f.kind,.int .i64 f.depth,.int .i64 f.list] 187)
 have hF:FB (w.alloc (.cells #[.int .i64 f.sym,.int .i64 f.kind,.int .i64 f.depth,.int .i64 f.list] 187)) w.heap.size f:=⟨by simp,by simp,by simp,by simp⟩
 have hou:=h.outNew
 have hwl:w.heap.size<(w.alloc (.cells #[.int .i64 f.sym,.int .i64 f.kind,.int .i64 f.depth,.int .i64 f.list] 187)).heap.size:=by simp
 have hmv:Mv base B sv gv sv gv w (w.alloc (.cells #[.int .i64 f.sym,.int .i64 f.kind,.int .i64 f.depth,.int .i64 f.list] 187)):=Mv.alloc h.bs _
 refine (HPE.out _ hA).mono ?_
 rintro e w1 ⟨rfl,hr1,hm1⟩
 have hk1:=hm1.kept w.heap.size hwl hou
 have hF1:=hF.of_block hk1.1
 have hwl1:w.heap.size<w1.heap.size:=Nat.lt_of_lt_of_le hwl hm1.bel.size
 have HM1:Hid (Mv base B sv gv sv gv w w1):=hmv.trans hm1
 have HR1:Hid (RS w1 base B s p sv gv fs gs):=hr1
 have c1:=hr1.c1
 clear hmv hm1 hA hF hwl hr1 hk1 h
 go_wp2_with fail
 go_loopg [12] (s.size-p) (fun n _ wr=>∃ j:Nat,p<=j/\j<=s.size/\n=s.size-j/\T.dgF s most lim plain p (s.size-j+1) j=T.dg s most lim plain p/\RS wr base B s j sv gv fs gs/\Mv base B sv gv sv gv w wr/\FB wr w.heap.size f)
 case atStart=>exact ⟨p,Nat.le_refl _,hpk,rfl,rfl,HR1.out,HM1.out,hF1⟩
 case round =>
   obtain ⟨j,hpj,hjs,hn,hD,hr,hm,hfb⟩:=hrel
   have c0:=hr.c0
   have c1:=hr.c1
   have z1:=hr.fz 1
   have b0:=hfb.c0
   have b1:=hfb.c1
   have b2:=hfb.c2
   have b3:=hfb.c3
   have HR:Hid (RS wr base B s j sv gv fs gs):=hr
   have HM:Hid (Mv base B sv gv sv gv w wr):=hm
   have HFB:Hid (FB wr w.heap.size f):=hfb
   have HN:Hid (gk=s.size-j):=hn
   have HD0:Hid (T.dgF s most lim plain p (s.size-j+1) j=T.dg s most lim plain p):=hD
   clear hr hm hn hD hfb HR1 HM1 hF1
   by_cases hlt:j<s.size
   · have hlt':(j:Int)<(s.size:Int):=by omega
     have hplt':(p:Int)<(s.size:Int):=by omega
     have hplt:p<s.size:=by omega
     have hch:((s[j]).toNat:Int)=T.ch s j:=(T.ch_lt hlt).symm
     have hcp:((s[p]).toNat:Int)=T.ch s p:=(T.ch_lt hplt).symm
     obtain ⟨cb0,cb1⟩:=T.ch_bd hlt
     by_cases h48:48<=T.ch s j
     · by_cases h57:T.ch s j<=57
       · have hdig:T.dig (T.ch s j)=true:=by simp [T.dig,h48,h57]
         have d48:decide (48<=T.ch s j)=true:=decide_eq_true h48
         have d57:decide (T.ch s j<=57)=true:=decide_eq_true h57
         by_cases hlim:lim<=T.ch s j
         · have hst:T.stp most lim plain (T.ch s j) ((j:Int)-p) (T.ch s p)=true:=by simp [T.stp,hlim]
           have HD:Hid (T.dg s most lim plain p=(false,j)):=HD0.out.symm.trans (T.dgF_stop hdig hst)
           have dl:decide (lim<=T.ch s j)=true:=decide_eq_true hlim
           clear hst hdig
           go_wp2_with fail
           go_quiet (fail)
           go_wp2_with fail
           go_quiet (fail)
           go_wp2_with fail
           go_ret
           exact .inl ⟨by rw [HD.out];rfl,rfl,by rw [HD.out];exact (HR.out.drewN _).drewN _,(HM.out.drewN _).drewN _⟩
         · have dl:decide (lim<=T.ch s j)=false:=decide_eq_false hlim
           cases hmost:((j:Int)-p==most) with
           | true =>
             have hst:T.stp most lim plain (T.ch s j) ((j:Int)-p) (T.ch s p)=true:=by simp [T.stp,hmost]
             have HD:Hid (T.dg s most lim plain p=(false,j)):=HD0.out.symm.trans (T.dgF_stop hdig hst)
             clear hst hdig
             go_wp2_with fail
             go_quiet (fail)
             go_wp2_with fail
             go_quiet (fail)
             go_wp2_with fail
             go_ret
             exact .inl ⟨by rw [HD.out];rfl,rfl,by rw [HD.out];exact (HR.out.drewN _).drewN _,(HM.out.drewN _).drewN _⟩
           | false =>
             cases plain with
             | false =>
               have hst:T.stp most lim false (T.ch s j) ((j:Int)-p) (T.ch s p)=false:=by simp only [T.stp,dl,hmost];rfl
               have e1:s.size-j+1=(s.size-(j+1)+1)+1:=by omega
               have HD:Hid (T.dgF s most lim false p (s.size-(j+1)+1) (j+1)=T.dg s most lim false p):=by
                 have:=HD0.out;rw [e1,T.dgF_next hdig hst] at this;exact this
               clear hst hdig e1
               go_wp2_with fail
               go_quiet (fail)
               go_wp2_with fail
               go_quiet (fail)
               go_wp2_with fail
               go_roundg (s.size-(j+1))
               case measure=>rw [HN.out];omega
               case rel=>exact ⟨j+1,by omega,by omega,rfl,HD.out,(HR.out.drewN _).at (j+1) _ (by omega),(HM.out.drewN _).trans ((HR.out.drewN _).atMv _),HFB.out.of_block (heap_set_ne hou.1)⟩
             | true =>
               cases hone:((j:Int)-p==1) with
               | false =>
                 have hst:T.stp most lim true (T.ch s j) ((j:Int)-p) (T.ch s p)=false:=by simp only [T.stp,dl,hmost,hone];rfl
                 have e1:s.size-j+1=(s.size-(j+1)+1)+1:=by omega
                 have HD:Hid (T.dgF s most lim true p (s.size-(j+1)+1) (j+1)=T.dg s most lim true p):=by
                   have:=HD0.out;rw [e1,T.dgF_next hdig hst] at this;exact this
                 clear hst hdig e1
                 go_wp2_with fail
                 go_quiet (fail)
                 go_wp2_with fail
                 go_quiet (fail)
                 go_wp2_with fail
                 go_roundg (s.size-(j+1))
                 case measure=>rw [HN.out];omega
                 case rel=>exact ⟨j+1,by omega,by omega,rfl,HD.out,(HR.out.drewN _).at (j+1) _ (by omega),(HM.out.drewN _).trans ((HR.out.drewN _).atMv _),HFB.out.of_block (heap_set_ne hou.1)⟩
               | true =>
                 cases hz:(T.ch s p==48) with
                 | false =>
                   have hst:T.stp most lim true (T.ch s j) ((j:Int)-p) (T.ch s p)=false:=by simp only [T.stp,dl,hmost,hone,hz];rfl
                   have e1:s.size-j+1=(s.size-(j+1)+1)+1:=by omega
                   have HD:Hid (T.dgF s most lim true p (s.size-(j+1)+1) (j+1)=T.dg s most lim true p):=by
                     have:=HD0.out;rw [e1,T.dgF_next hdig hst] at this;exact this
                   clear hst hdig e1
                   go_wp2_with fail
                   go_quiet (fail)
                   go_wp2_with fail
                   go_quiet (fail)
                   go_wp2_with fail
                   go_roundg (s.size-(j+1))
                   case measure=>rw [HN.out];omega
                   case rel=>exact ⟨j+1,by omega,by omega,rfl,HD.out,(HR.out.drewN _).at (j+1) _ (by omega),(HM.out.drewN _).trans ((HR.out.drewN _).atMv _),HFB.out.of_block (heap_set_ne hou.1)⟩
                 | true =>
                   have hst:T.stp most lim true (T.ch s j) ((j:Int)-p) (T.ch s p)=true:=by simp only [T.stp,dl,hmost,hone,hz];rfl
                   have HD:Hid (T.dg s most lim true p=(false,j)):=HD0.out.symm.trans (T.dgF_stop hdig hst)
                   clear hst hdig
                   go_wp2_with fail
                   go_quiet (fail)
                   go_wp2_with fail
                   go_quiet (fail)
                   go_wp2_with fail
                   go_ret
                   exact .inl ⟨by rw [HD.out];rfl,rfl,by rw [HD.out];exact (HR.out.drewN _).drewN _,(HM.out.drewN _).drewN _⟩
       · have hdig:T.dig (T.ch s j)=false:=by simp [T.dig,h57]
         have HD:Hid (T.dg s most lim plain p=(true,j)):=HD0.out.symm.trans (T.dgF_end hdig)
         have d48:decide (48<=T.ch s j)=true:=decide_eq_true h48
         have d57:decide (T.ch s j<=57)=false:=decide_eq_false h57
         clear hdig
         cases he:((j:Int)==(p:Int)) with
         | true =>
           have hej:Hid (j=p):=by show _=_;simp at he;omega
           go_wp2_with fail
           go_quiet (fail)
           go_wp2_with fail
           go_ret
           exact .inl ⟨by rw [HD.out,hej.out];simp,rfl,by rw [HD.out];exact HR.out.drewN _,HM.out.drewN _⟩
         | false =>
           have hej:Hid (p<j):=by show _<_;simp at he;omega
           have hou2:Out B sv gv w.heap.size:=hou
           go_wp2_with fail
           go_quiet (fail)
           go_wp2_with fail
           refine (sign_any base B s j p f sv gv fs gs _ (HR.out.drewN _) hpj hjs hlen).mono ?_
           rintro e w5 ⟨rfl,gv',hr5,hm5⟩
           have HR5:Hid (RS w5 base B s j sv gv' fs (⟨f.kind,p,f.depth,f.list,s.extract p j⟩::gs)):=hr5
           have HM5:Hid (Mv base B sv gv sv gv' w w5):=(HM.out.drewN _).trans hm5
           clear hr5 hm5
           go_wp2_with fail
           go_ret
           exact .inr ⟨by rw [HD.out];simp [hej.out],rfl,gv',by rw [HD.out];exact HR5.out,HM5.out⟩
     · have hdig:T.dig (T.ch s j)=false:=by simp [T.dig,h48]
       have HD:Hid (T.dg s most lim plain p=(true,j)):=HD0.out.symm.trans (T.dgF_end hdig)
       have d48:decide (48<=T.ch s j)=false:=decide_eq_false h48
       clear hdig
       cases he:((j:Int)==(p:Int)) with
       | true =>
         have hej:Hid (j=p):=by show _=_;simp at he;omega
         go_wp2_with fail
         go_quiet (fail)
         go_wp2_with fail
         go_ret
         exact .inl ⟨by rw [HD.out,hej.out];simp,rfl,by rw [HD.out];exact HR.out.drewN _,HM.out.drewN _⟩
       | false =>
         have hej:Hid (p<j):=by show _<_;simp at he;omega
         have hou2:Out B sv gv w.heap.size:=hou
         go_wp2_with fail
         go_quiet (fail)
         go_wp2_with fail
         refine (sign_any base B s j p f sv gv fs gs _ (HR.out.drewN _) hpj hjs hlen).mono ?_
         rintro e w5 ⟨rfl,gv',hr5,hm5⟩
         have HR5:Hid (RS w5 base B s j sv gv' fs (⟨f.kind,p,f.depth,f.list,s.extract p j⟩::gs)):=hr5
         have HM5:Hid (Mv base B sv gv sv gv' w w5):=(HM.out.drewN _).trans hm5
         clear hr5 hm5
         go_wp2_with fail
         go_ret
         exact .inr ⟨by rw [HD.out];simp [hej.out],rfl,gv',by rw [HD.out];exact HR5.out,HM5.out⟩
   · have hdig:T.dig (T.ch s j)=false:=by rw [T.ch_ge hlt];rfl
     have HD:Hid (T.dg s most lim plain p=(true,j)):=HD0.out.symm.trans (T.dgF_end hdig)
     have hd:decide ((j:Int)<(s.size:Int))=false:=decide_eq_false (by omega)
     clear hdig
     cases he:((j:Int)==(p:Int)) with
     | true =>
       have hej:Hid (j=p):=by show _=_;simp at he;omega
       go_wp2_with fail
       go_quiet (fail)
       go_wp2_with fail
       go_ret
       exact .inl ⟨by rw [HD.out,hej.out];simp,rfl,by rw [HD.out];exact HR.out.drewN _,HM.out.drewN _⟩
     | false =>
       have hej:Hid (p<j):=by show _<_;simp at he;omega
       have hou2:Out B sv gv w.heap.size:=hou
       go_wp2_with fail
       go_quiet (fail)
       go_wp2_with fail
       refine (sign_any base B s j p f sv gv fs gs _ (HR.out.drewN _) hpj hjs hlen).mono ?_
       rintro e w5 ⟨rfl,gv',hr5,hm5⟩
       have HR5:Hid (RS w5 base B s j sv gv' fs (⟨f.kind,p,f.depth,f.list,s.extract p j⟩::gs)):=hr5
       have HM5:Hid (Mv base B sv gv sv gv' w w5):=(HM.out.drewN _).trans hm5
       clear hr5 hm5
       go_wp2_with fail
       go_ret
       exact .inr ⟨by rw [HD.out];simp [hej.out],rfl,gv',by rw [HD.out];exact HR5.out,HM5.out⟩
end Go.Proofs.YtaebngpoagjafaaGreat
