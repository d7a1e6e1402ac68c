import Derived.Test.YtaebngpoagjafabGreatU10
set_option maxRecDepth 100000
set_option maxHeartbeats 1600000
namespace Go.Proofs.YtaebngpoagjafabGreat
open Obj renaming cells → X
open Value renaming int → J, slice → Q
open IntKind renaming i64 → Z, u8 → O
open Go.RowKit
attribute [local go_sem ↓] Go.wp_at_zero Go.wp_at_succ
section
attribute [local go_sem] zV zH
theorem j5 (n base B:Nat) (s:ByteArray) (d:Int) (k:Nat) (b:Bool) (ev rv:Value) (es:List (EX×Value)) (rs:List RL) (w:World) (hs:s.size<=2000) (hk:k<=s.size) (_h0:0<=d) (_h1:d<=k) (hl:es.length<=k) (_hrl:rs.length<=2000) (hc:ze s (zb s k b) b=64) (h:PM w base B s k b ev rv es rs) (R:CR) (hR:Hid (cE s rs (n+1) d es.length k b=R)) :
 Calls Tryz.prog 125 #[.pointer (some ⟨B,0,none⟩),J Z d] w fun e w' =>
  e=.returned (J Z R.idx)/\∃ ev' new,new.map Prod.fst=R.es/\PM w' base B s R.k R.b ev' rv (es++new) rs/\Mv base B ev rv ev' rv w w'/\∀ p∈new,∀ g,p.2.ownBlock=some g->w.heap.size<=g:=by
 obtain ⟨i0,a4,a3,a2,a1⟩:=info_parts Tryz.infoExpr
 have H:Hid _:=h
 clear h
 go_enter Tryz.func125,Tryz.ntmps125
 go_wp2_with fail
 refine (yj base B s k b ev rv es rs _ hs hk H.out).mono ?_
 rintro e a ⟨rfl,A,G⟩
 have I:isK (ze s (zb s k b) b)=true:=by rw [hc];rfl
 have c9:zb s k b<s.size:=(Zh I).2
 have d1:k<=zb s k b:=yg s k b
 have a6:b=false:=(Zh I).1
 subst a6
 rw [Xt n d es.length k false hc] at hR
 clear I
 have S:ze s (zb s k false) false=64:=hc
 have L:=fun (wz:World) (hz:PM wz base B s (zb s k false) false ev rv es rs)=>xw base B s (zb s k false) false ev rv es rs wz hz
 rw [S] at L
 clear S hc
 generalize zb s k false=p at *
 have y:Hid _:=A
 have b9:Hid _:=G
 have c1:=A.c1
 have m:=A.outNew
 have x:=A.bs
 have K:w.heap.size<=a.heap.size:=G.bel.size
 have V:a.heap.size≠B:=m.1
 have d4:B≠a.heap.size:=fun e=>m.1 e.symm
 have d3:=A.lt
 clear A G
 have a5:=fun w=>xD 64 p d w
 go_wp2_with fail
 go_region_held3 (fun w'=>w'.cell? ⟨B,1,none⟩=some (J Z p)) (first | (exact c1) | (exact zB c1 _) | (exact zt V (zB c1 _) _ _) | go_keep) (first | (go_at_call 127;refine (L _ (by first | exact y.out.drew | exact y.out.drew.alloc _ | exact y.out.alloc _ | exact y.out)).mono ?_;rintro e w' ⟨rfl,q,rfl⟩))
 all_goals
  have E:Hid (PM ((a.alloc (X #[J O 64,J Z p,J Z d,J Z 0,J Z 0,Q none 0 0,J Z (-1)] 148)).drewN (1+q)) base B s p false ev rv es rs):=(y.out.alloc _).drewN _
  have b8:Hid (Mv base B ev rv ev rv w ((a.alloc (X #[J O 64,J Z p,J Z d,J Z 0,J Z 0,Q none 0 0,J Z (-1)] 148)).drewN (1+q))):=(b9.out.trans (Mv.alloc x _)).drewN _
  have Y:Hid (((a.alloc (X #[J O 64,J Z p,J Z d,J Z 0,J Z 0,Q none 0 0,J Z (-1)] 148)).drewN (1+q)).heap[a.heap.size]?=some (X #[J O 64,J Z p,J Z d,J Z 0,J Z 0,Q none 0 0,J Z (-1)] 148 (0,0))):=heap_alloc_new a _
  generalize (a.alloc (X #[J O 64,J Z p,J Z d,J Z 0,J Z 0,Q none 0 0,J Z (-1)] 148)).drewN (1+q)=w2 at *
  clear c1 a5
  have c1:=E.out.c1
  have z1:=E.out.fz 1
  have x0:w2.cell? ⟨a.heap.size,0,none⟩=some (J O 64):=by simp [World.cell?,Y.out]
  have P:=fun w=>ZG 64 w
  rw [show isK 64=true from rfl] at P
  go_wp2_with fail
  refine (P _).mono ?_
  rintro e w3 ⟨c7,rfl⟩
  subst w3
  have b4:Hid (PM (w2.setCell ⟨B,1,none⟩ (J Z ((p:Int)+1))) base B s (p+1) false ev rv es rs):=E.out.at (p+1) _ (by omega)
  have b7:Hid (Mv base B ev rv ev rv w (w2.setCell ⟨B,1,none⟩ (J Z ((p:Int)+1)))):=b8.out.trans (E.out.setMv 1 _)
  have W:Hid ((w2.setCell ⟨B,1,none⟩ (J Z ((p:Int)+1))).heap[a.heap.size]?=some (X #[J O 64,J Z p,J Z d,J Z 0,J Z 0,Q none 0 0,J Z (-1)] 148 (0,0))):=(za V).trans Y.out
  have c8:(p:Int)<2000:=by omega
  go_wp2_with fail
  clear c1 z1 x0
  refine (Zg base B s (p+1) false ev rv es rs _ hs (by omega) b4.out).mono ?_
  rintro e v ⟨rfl,A,G⟩
  have b0:Hid _:=A
  have b1:Hid (Mv base B ev rv ev rv w v):=(b7.out).trans G
  have f:Hid _:=(G.kept _ (lt_of_block (W.out)) m).1.trans (W.out)
  clear A G
  have x0:v.cell? ⟨a.heap.size,0,none⟩=some (J O 64):=by simp [World.cell?,f.out]
  have x1:v.cell? ⟨a.heap.size,1,none⟩=some (J Z p):=by simp [World.cell?,f.out]
  have x2:v.cell? ⟨a.heap.size,2,none⟩=some (J Z d):=by simp [World.cell?,f.out]
  have x3:v.cell? ⟨a.heap.size,3,none⟩=some (J Z 0):=by simp [World.cell?,f.out]
  have x4:v.cell? ⟨a.heap.size,4,none⟩=some (J Z 0):=by simp [World.cell?,f.out]
  have x5:v.cell? ⟨a.heap.size,5,none⟩=some (Q none 0 0):=by simp [World.cell?,f.out]
  have x6:v.cell? ⟨a.heap.size,6,none⟩=some (J Z (-1)):=by simp [World.cell?,f.out]
  have xz:∀ j,v.frozen? ⟨a.heap.size,j,none⟩=false:=fun j=>by simp [World.frozen?,f.out]
  have l:Hid (PM (((v).setCell ⟨a.heap.size,3,none⟩ (J Z (zJ s (p+1) false))).setCell ⟨a.heap.size,4,none⟩ (J Z (zb s (p+1) false))) base B s (zo s (p+1) false) (zw s (p+1) false) ev rv (es) rs):=((b0.out).setE (j:=3) (u:=J Z (zJ s (p+1) false)) ⟨_,_,f.out⟩ m.2.1).setE (j:=4) (u:=J Z (zb s (p+1) false)) ⟨_,_,(z7 (j:=3) (u:=J Z (zJ s (p+1) false)) (f.out))⟩ m.2.1
  have b6:Hid (Mv base B ev rv ev rv w (((v).setCell ⟨a.heap.size,3,none⟩ (J Z (zJ s (p+1) false))).setCell ⟨a.heap.size,4,none⟩ (J Z (zb s (p+1) false)))):=((b1.out).setNew (j:=3) K x (J Z (zJ s (p+1) false))).setNew (j:=4) K x (J Z (zb s (p+1) false))
  have r:Hid ((((v).setCell ⟨a.heap.size,3,none⟩ (J Z (zJ s (p+1) false))).setCell ⟨a.heap.size,4,none⟩ (J Z (zb s (p+1) false))).heap[a.heap.size]?=some (X #[J O 64,J Z p,J Z d,J Z (zJ s (p+1) false),J Z (zb s (p+1) false),Q none 0 0,J Z (-1)] 148 (0,0))):=(z7 (j:=4) (u:=J Z (zb s (p+1) false)) ((z7 (j:=3) (u:=J Z (zJ s (p+1) false)) (f.out))))
  have b2:Hid ((((v).setCell ⟨a.heap.size,3,none⟩ (J Z (zJ s (p+1) false))).setCell ⟨a.heap.size,4,none⟩ (J Z (zb s (p+1) false))).ownsRow base 155 7 (Q none 0 0) ((⟨64,p,d,zJ s (p+1) false,zb s (p+1) false,[],-1⟩:EX)).items.length (imC ((⟨64,p,d,zJ s (p+1) false,zb s (p+1) false,[],-1⟩:EX)).items)):=⟨rfl,.inl ⟨rfl,rfl⟩⟩
  go_wp2_with fail
  generalize ((v).setCell ⟨a.heap.size,3,none⟩ (J Z (zJ s (p+1) false))).setCell ⟨a.heap.size,4,none⟩ (J Z (zb s (p+1) false))=w5 at *
  clear x0 x1 x2 x3 x4 x5 x6 xz
  have x0:w5.cell? ⟨a.heap.size,0,none⟩=some (J O 64):=by simp [World.cell?,r.out]
  have x1:w5.cell? ⟨a.heap.size,1,none⟩=some (J Z p):=by simp [World.cell?,r.out]
  have x2:w5.cell? ⟨a.heap.size,2,none⟩=some (J Z d):=by simp [World.cell?,r.out]
  have x3:w5.cell? ⟨a.heap.size,3,none⟩=some (J Z (zJ s (p+1) false)):=by simp [World.cell?,r.out]
  have x4:w5.cell? ⟨a.heap.size,4,none⟩=some (J Z (zb s (p+1) false)):=by simp [World.cell?,r.out]
  have x5:w5.cell? ⟨a.heap.size,5,none⟩=some (Q none 0 0):=by simp [World.cell?,r.out]
  have x6:w5.cell? ⟨a.heap.size,6,none⟩=some (J Z (-1)):=by simp [World.cell?,r.out]
  have c3:=l.out.c3
  have d5:=l.out.lt
  have d2:a.heap.size<w5.heap.size:=lt_of_block r.out
  have z3:=l.out.fz 3
  obtain ⟨z,C⟩:∃ z,z=(es).length:=⟨_,rfl⟩
  have a0:Hid _:=C
  have c5:Hid (w5.ownsRow base 148 7 ev z (exC (es))):=by show World.ownsRow _ _ _ _ _ _ _;rw [C];exact l.out.ex
  have d0:(z:Int)<5000:=by rw [C];omega
  clear C
  have a9:Hid (z+1<=maxLen):=by show _<=_;unfold maxLen;omega
  have a8:Hid ((z+1)*72<=140737488355328):=by show _<=_;omega
  have a7:Hid (∀ o:Obj,base<=(w5.alloc o).drew.heap.size):=fun o=>by have:=l.out.bs;show base<=(w5.alloc o).heap.size;simp;omega
  have N:Hid (∀ u∈exV ((⟨64,p,d,zJ s (p+1) false,zb s (p+1) false,[],-1⟩:EX),Q none 0 0),u.oneCell'=true):=fun u hu=>by simp [exV] at hu;rcases hu with rfl | rfl | rfl | rfl | rfl | rfl | rfl<;>first | rfl | exact HV1.out
  go_region_law ((refine step_append_lies _ (by rfl) _ _ _ (by rfl) base 148 i0 _ 7 72 Tryz.underlying71 a4 a3 a2 a1 rfl (by decide) ev _ _ (by rfl) ((c5.out.alloc _).drew) ⟨w5.heap.size,0,none⟩ 1 1 (exV ((⟨64,p,d,zJ s (p+1) false,zb s (p+1) false,[],-1⟩:EX),Q none 0 0)) (by rfl) (by rfl) (World.news_of_block (cs:=#[J O 64,J Z p,J Z d,J Z (zJ s (p+1) false),J Z (zb s (p+1) false),Q none 0 0,J Z (-1)]) (t:=148) (fr:=(0,0)) (heap_alloc_new w5 _)) N.out (Nat.lt_succ_self 0) a9.out a8.out (a7.out _) (w5.heap.size+1) (by simp) ?_;intro g D w9 F i U c6;obtain ⟨y3,yz⟩:=l.out.grown3 i))
  all_goals
   have b3:Hid (PM (w9.setCell ⟨B,3,none⟩ (Q (some ⟨g,0,none⟩) (z+1) D)) base B s (zo s (p+1) false) (zw s (p+1) false) (Q (some ⟨g,0,none⟩) (z+1) D) rv (es++[((⟨64,p,d,zJ s (p+1) false,zb s (p+1) false,[],-1⟩:EX),Q none 0 0)]) rs):=((l.out.alloc _).drew).pushE a0.out i F ((b2.out.alloc _).drew)
   have b5:Hid (Mv base B ev rv (Q (some ⟨g,0,none⟩) (z+1) D) rv w (w9.setCell ⟨B,3,none⟩ (Q (some ⟨g,0,none⟩) (z+1) D))):=(b6.out.trans (Mv.alloc l.out.bs _)).drew.trans (((l.out.alloc _).drew).pushMv i U (by show (w5.alloc _).heap.size<=_;simp))
   clear F i U
   go_wp2_with fail
   go_ret
   exact ⟨by rw [<- hR.out];rw [<- a0.out];rfl,_,[((⟨64,p,d,zJ s (p+1) false,zb s (p+1) false,[],-1⟩:EX),Q none 0 0)],by rw [<- hR.out];rfl,by rw [<- hR.out];exact b3.out,b5.out,fun q hq g hg=>by simp at hq;subst hq;simp [Value.ownBlock] at hg⟩
end
section
attribute [local go_sem] zV zH
theorem JV (n base B:Nat) (s:ByteArray) (d:Int) (k:Nat) (b:Bool) (ev rv:Value) (es:List (EX×Value)) (rs:List RL) (w:World) (hs:s.size<=2000) (hk:k<=s.size) (_h0:0<=d) (_h1:d<=k) (hl:es.length<=k) (hrl:rs.length<=2000) (hc:ze s (zb s k b) b=61) (h:PM w base B s k b ev rv es rs) (R:CR) (hR:Hid (cE s rs (n+1) d es.length k b=R)) :
 Calls Tryz.prog 125 #[.pointer (some ⟨B,0,none⟩),J Z d] w fun e w' =>
  e=.returned (J Z R.idx)/\∃ ev' new,new.map Prod.fst=R.es/\PM w' base B s R.k R.b ev' rv (es++new) rs/\Mv base B ev rv ev' rv w w'/\∀ p∈new,∀ g,p.2.ownBlock=some g->w.heap.size<=g:=by
 obtain ⟨i0,b3,b1,b0,a9⟩:=info_parts Tryz.infoExpr
 have H:Hid _:=h
 clear h
 go_enter Tryz.func125,Tryz.ntmps125
 go_wp2_with fail
 refine (yj base B s k b ev rv es rs _ hs hk H.out).mono ?_
 rintro e a ⟨rfl,F,V⟩
 have Y:isK (ze s (zb s k b) b)=true:=by rw [hc];rfl
 have e1:zb s k b<s.size:=(Zh Y).2
 have e3:k<=zb s k b:=yg s k b
 have b5:b=false:=(Zh Y).1
 subst b5
 rw [qi n d es.length k false hc] at hR
 clear Y
 have a3:ze s (zb s k false) false=61:=hc
 have a0:=fun (wz:World) (hz:PM wz base B s (zb s k false) false ev rv es rs)=>xw base B s (zb s k false) false ev rv es rs wz hz
 rw [a3] at a0
 clear a3 hc
 generalize zb s k false=p at *
 have D:Hid _:=F
 have d6:Hid _:=V
 have c1:=F.c1
 have m:=F.outNew
 have z:=F.bs
 have U:w.heap.size<=a.heap.size:=V.bel.size
 have a5:a.heap.size≠B:=m.1
 have e6:B≠a.heap.size:=fun e=>m.1 e.symm
 have e5:=F.lt
 clear F V
 have b4:=fun w=>xD 61 p d w
 go_wp2_with fail
 go_region_held3 (fun w'=>w'.cell? ⟨B,1,none⟩=some (J Z p)) (first | (exact c1) | (exact zB c1 _) | (exact zt a5 (zB c1 _) _ _) | go_keep) (first | (go_at_call 127;refine (a0 _ (by first | exact D.out.drew | exact D.out.drew.alloc _ | exact D.out.alloc _ | exact D.out)).mono ?_;rintro e w' ⟨rfl,q,rfl⟩))
 all_goals
  have L:Hid (PM ((a.alloc (X #[J O 61,J Z p,J Z d,J Z 0,J Z 0,Q none 0 0,J Z (-1)] 148)).drewN (1+q)) base B s p false ev rv es rs):=(D.out.alloc _).drewN _
  have d5:Hid (Mv base B ev rv ev rv w ((a.alloc (X #[J O 61,J Z p,J Z d,J Z 0,J Z 0,Q none 0 0,J Z (-1)] 148)).drewN (1+q))):=(d6.out.trans (Mv.alloc z _)).drewN _
  have a7:Hid (((a.alloc (X #[J O 61,J Z p,J Z d,J Z 0,J Z 0,Q none 0 0,J Z (-1)] 148)).drewN (1+q)).heap[a.heap.size]?=some (X #[J O 61,J Z p,J Z d,J Z 0,J Z 0,Q none 0 0,J Z (-1)] 148 (0,0))):=heap_alloc_new a _
  generalize (a.alloc (X #[J O 61,J Z p,J Z d,J Z 0,J Z 0,Q none 0 0,J Z (-1)] 148)).drewN (1+q)=w2 at *
  clear c1 b4
  have c1:=L.out.c1
  have z1:=L.out.fz 1
  have N:w2.cell? ⟨a.heap.size,0,none⟩=some (J O 61):=by simp [World.cell?,a7.out]
  have a2:=fun w=>ZG 61 w
  rw [show isK 61=true from rfl] at a2
  go_wp2_with fail
  refine (a2 _).mono ?_
  rintro e w3 ⟨d9,rfl⟩
  subst w3
  have c9:Hid (PM (w2.setCell ⟨B,1,none⟩ (J Z ((p:Int)+1))) base B s (p+1) false ev rv es rs):=L.out.at (p+1) _ (by omega)
  have d4:Hid (Mv base B ev rv ev rv w (w2.setCell ⟨B,1,none⟩ (J Z ((p:Int)+1)))):=d5.out.trans (L.out.setMv 1 _)
  have a6:Hid ((w2.setCell ⟨B,1,none⟩ (J Z ((p:Int)+1))).heap[a.heap.size]?=some (X #[J O 61,J Z p,J Z d,J Z 0,J Z 0,Q none 0 0,J Z (-1)] 148 (0,0))):=(za a5).trans a7.out
  have e0:(p:Int)<2000:=by omega
  go_wp2_with fail
  clear c1 z1 N
  refine (qR base B s (p+1) false ev rv es rs _ hs (by omega) c9.out).mono ?_
  rintro e A ⟨rfl,F,V⟩
  have b9:Hid _:=F
  have c5:Hid (Mv base B ev rv ev rv w A):=(d4.out).trans V
  have f:Hid _:=(V.kept _ (lt_of_block (a6.out)) m).1.trans (a6.out)
  clear F V
  generalize hqe:zb s (p+1) false=q1 at *
  generalize hve:ze s q1 false=v1 at *
  clear hqe hve
  have N:A.cell? ⟨a.heap.size,0,none⟩=some (J O 61):=by simp [World.cell?,f.out]
  have x1:A.cell? ⟨a.heap.size,1,none⟩=some (J Z p):=by simp [World.cell?,f.out]
  have x2:A.cell? ⟨a.heap.size,2,none⟩=some (J Z d):=by simp [World.cell?,f.out]
  have x3:A.cell? ⟨a.heap.size,3,none⟩=some (J Z 0):=by simp [World.cell?,f.out]
  have x4:A.cell? ⟨a.heap.size,4,none⟩=some (J Z 0):=by simp [World.cell?,f.out]
  have x5:A.cell? ⟨a.heap.size,5,none⟩=some (Q none 0 0):=by simp [World.cell?,f.out]
  have S:A.cell? ⟨a.heap.size,6,none⟩=some (J Z (-1)):=by simp [World.cell?,f.out]
  have xz:∀ j,A.frozen? ⟨a.heap.size,j,none⟩=false:=fun j=>by simp [World.frozen?,f.out]
  have K:Hid (PM (((A).setCell ⟨a.heap.size,3,none⟩ (J Z v1)).setCell ⟨a.heap.size,4,none⟩ (J Z q1)) base B s (zQ s (p+1) false) (zX s (p+1) false) ev rv (es) rs):=((b9.out).setE (j:=3) (u:=J Z v1) ⟨_,_,f.out⟩ m.2.1).setE (j:=4) (u:=J Z q1) ⟨_,_,(z7 (j:=3) (u:=J Z v1) (f.out))⟩ m.2.1
  have d3:Hid (Mv base B ev rv ev rv w (((A).setCell ⟨a.heap.size,3,none⟩ (J Z v1)).setCell ⟨a.heap.size,4,none⟩ (J Z q1))):=((c5.out).setNew (j:=3) U z (J Z v1)).setNew (j:=4) U z (J Z q1)
  have l:Hid ((((A).setCell ⟨a.heap.size,3,none⟩ (J Z v1)).setCell ⟨a.heap.size,4,none⟩ (J Z q1)).heap[a.heap.size]?=some (X #[J O 61,J Z p,J Z d,J Z v1,J Z q1,Q none 0 0,J Z (-1)] 148 (0,0))):=(z7 (j:=4) (u:=J Z q1) ((z7 (j:=3) (u:=J Z v1) (f.out))))
  go_wp2_with fail
  generalize ((A).setCell ⟨a.heap.size,3,none⟩ (J Z v1)).setCell ⟨a.heap.size,4,none⟩ (J Z q1)=wq at *
  clear N x1 x2 x3 x4 x5 S xz
  have N:wq.cell? ⟨a.heap.size,0,none⟩=some (J O 61):=by simp [World.cell?,l.out]
  have x1:wq.cell? ⟨a.heap.size,1,none⟩=some (J Z p):=by simp [World.cell?,l.out]
  have x2:wq.cell? ⟨a.heap.size,2,none⟩=some (J Z d):=by simp [World.cell?,l.out]
  have x3:wq.cell? ⟨a.heap.size,3,none⟩=some (J Z v1):=by simp [World.cell?,l.out]
  have x4:wq.cell? ⟨a.heap.size,4,none⟩=some (J Z q1):=by simp [World.cell?,l.out]
  have x5:wq.cell? ⟨a.heap.size,5,none⟩=some (Q none 0 0):=by simp [World.cell?,l.out]
  have S:wq.cell? ⟨a.heap.size,6,none⟩=some (J Z (-1)):=by simp [World.cell?,l.out]
  have xz:∀ j,wq.frozen? ⟨a.heap.size,j,none⟩=false:=fun j=>by simp [World.frozen?,l.out]
  have c4:=K.out.c4
  have W:a.heap.size<wq.heap.size:=lt_of_block l.out
  have b2:∀ wz:World,Below wq.heap.size wq wz->Calls Tryz.prog 88 #[rv,J Z v1] wz fun e w'=>Below wz.heap.size wz w'/\e=.returned (J Z (yn v1 rs)):=fun wz hz=>qP rv v1 rs wz (by omega) (K.out.below hz).rvs
  go_region_with (go_at_call 88;refine (b2 _ ?_).mono ?_;exact (Below.refl _ _).drew;rintro e y ⟨C,rfl⟩;have f6:=(C.cell (p:=⟨a.heap.size,6,none⟩) W).trans S;have f7:=(C.frozen (p:=⟨a.heap.size,6,none⟩) W).trans (xz 6))
  all_goals
   have c8:Hid (PM y base B s (zQ s (p+1) false) (zX s (p+1) false) ev rv es rs):=K.out.drew.below C
   have d1:Hid (Mv base B ev rv ev rv w y):=d3.out.drew.trans (Mv.of_below C K.out.drew.bs)
   have i:Hid _:=(C.block _ W).trans l.out
   clear C f6 f7
   generalize hnr:yn v1 rs=nr at *
   clear hnr
   clear N x1 x2 x3 x4 x5 S xz
   have N:y.cell? ⟨a.heap.size,0,none⟩=some (J O 61):=by simp [World.cell?,i.out]
   have x1:y.cell? ⟨a.heap.size,1,none⟩=some (J Z p):=by simp [World.cell?,i.out]
   have x2:y.cell? ⟨a.heap.size,2,none⟩=some (J Z d):=by simp [World.cell?,i.out]
   have x3:y.cell? ⟨a.heap.size,3,none⟩=some (J Z v1):=by simp [World.cell?,i.out]
   have x4:y.cell? ⟨a.heap.size,4,none⟩=some (J Z q1):=by simp [World.cell?,i.out]
   have x5:y.cell? ⟨a.heap.size,5,none⟩=some (Q none 0 0):=by simp [World.cell?,i.out]
   have S:y.cell? ⟨a.heap.size,6,none⟩=some (J Z (-1)):=by simp [World.cell?,i.out]
   have xz:∀ j,y.frozen? ⟨a.heap.size,j,none⟩=false:=fun j=>by simp [World.frozen?,i.out]
   have v:Hid (PM ((y).setCell ⟨a.heap.size,6,none⟩ (J Z nr)) base B s (zQ s (p+1) false) (zX s (p+1) false) ev rv (es) rs):=(c8.out).setE (j:=6) (u:=J Z nr) ⟨_,_,i.out⟩ m.2.1
   have d2:Hid (Mv base B ev rv ev rv w ((y).setCell ⟨a.heap.size,6,none⟩ (J Z nr))):=(d1.out).setNew (j:=6) U z (J Z nr)
   have x:Hid (((y).setCell ⟨a.heap.size,6,none⟩ (J Z nr)).heap[a.heap.size]?=some (X #[J O 61,J Z p,J Z d,J Z v1,J Z q1,Q none 0 0,J Z nr] 148 (0,0))):=(z7 (j:=6) (u:=J Z nr) (i.out))
   have c6:Hid (((y).setCell ⟨a.heap.size,6,none⟩ (J Z nr)).ownsRow base 155 7 (Q none 0 0) ((⟨61,p,d,v1,q1,[],nr⟩:EX)).items.length (imC ((⟨61,p,d,v1,q1,[],nr⟩:EX)).items)):=⟨rfl,.inl ⟨rfl,rfl⟩⟩
   go_wp2_with fail
   generalize (y).setCell ⟨a.heap.size,6,none⟩ (J Z nr)=w5 at *
   clear N x1 x2 x3 x4 x5 S xz
   have N:w5.cell? ⟨a.heap.size,0,none⟩=some (J O 61):=by simp [World.cell?,x.out]
   have x1:w5.cell? ⟨a.heap.size,1,none⟩=some (J Z p):=by simp [World.cell?,x.out]
   have x2:w5.cell? ⟨a.heap.size,2,none⟩=some (J Z d):=by simp [World.cell?,x.out]
   have x3:w5.cell? ⟨a.heap.size,3,none⟩=some (J Z v1):=by simp [World.cell?,x.out]
   have x4:w5.cell? ⟨a.heap.size,4,none⟩=some (J Z q1):=by simp [World.cell?,x.out]
   have x5:w5.cell? ⟨a.heap.size,5,none⟩=some (Q none 0 0):=by simp [World.cell?,x.out]
   have S:w5.cell? ⟨a.heap.size,6,none⟩=some (J Z nr):=by simp [World.cell?,x.out]
   have c3:=v.out.c3
   have e7:=v.out.lt
   have e4:a.heap.size<w5.heap.size:=lt_of_block x.out
   have z3:=v.out.fz 3
   obtain ⟨E,G⟩:∃ E,E=(es).length:=⟨_,rfl⟩
   have a8:Hid _:=G
   have d7:Hid (w5.ownsRow base 148 7 ev E (exC (es))):=by show World.ownsRow _ _ _ _ _ _ _;rw [G];exact v.out.ex
   have e2:(E:Int)<5000:=by rw [G];omega
   clear G
   have b8:Hid (E+1<=maxLen):=by show _<=_;unfold maxLen;omega
   have b7:Hid ((E+1)*72<=140737488355328):=by show _<=_;omega
   have b6:Hid (∀ o:Obj,base<=(w5.alloc o).drew.heap.size):=fun o=>by have:=v.out.bs;show base<=(w5.alloc o).heap.size;simp;omega
   have a1:Hid (∀ u∈exV ((⟨61,p,d,v1,q1,[],nr⟩:EX),Q none 0 0),u.oneCell'=true):=fun u hu=>by simp [exV] at hu;rcases hu with rfl | rfl | rfl | rfl | rfl | rfl | rfl<;>first | rfl | exact HV1.out
   go_region_law ((refine step_append_lies _ (by rfl) _ _ _ (by rfl) base 148 i0 _ 7 72 Tryz.underlying71 b3 b1 b0 a9 rfl (by decide) ev _ _ (by rfl) ((d7.out.alloc _).drew) ⟨w5.heap.size,0,none⟩ 1 1 (exV ((⟨61,p,d,v1,q1,[],nr⟩:EX),Q none 0 0)) (by rfl) (by rfl) (World.news_of_block (cs:=#[J O 61,J Z p,J Z d,J Z v1,J Z q1,Q none 0 0,J Z nr]) (t:=148) (fr:=(0,0)) (heap_alloc_new w5 _)) a1.out (Nat.lt_succ_self 0) b8.out b7.out (b6.out _) (w5.heap.size+1) (by simp) ?_;intro g I w9 P r a4 d8;obtain ⟨y3,yz⟩:=v.out.grown3 r))
   all_goals
    have c7:Hid (PM (w9.setCell ⟨B,3,none⟩ (Q (some ⟨g,0,none⟩) (E+1) I)) base B s (zQ s (p+1) false) (zX s (p+1) false) (Q (some ⟨g,0,none⟩) (E+1) I) rv (es++[((⟨61,p,d,v1,q1,[],nr⟩:EX),Q none 0 0)]) rs):=((v.out.alloc _).drew).pushE a8.out r P ((c6.out.alloc _).drew)
    have d0:Hid (Mv base B ev rv (Q (some ⟨g,0,none⟩) (E+1) I) rv w (w9.setCell ⟨B,3,none⟩ (Q (some ⟨g,0,none⟩) (E+1) I))):=(d2.out.trans (Mv.alloc v.out.bs _)).drew.trans (((v.out.alloc _).drew).pushMv r a4 (by show (w5.alloc _).heap.size<=_;simp))
    clear P r a4
    go_wp2_with fail
    go_ret
    exact ⟨by rw [<- hR.out];rw [<- a8.out];rfl,_,[((⟨61,p,d,v1,q1,[],nr⟩:EX),Q none 0 0)],by rw [<- hR.out];rfl,by rw [<- hR.out];exact c7.out,d0.out,fun q hq g hg=>by simp at hq;subst hq;simp [Value.ownBlock] at hg⟩
end
section
attribute [local go_sem] zV zH
theorem zbC (n base B:Nat) (s:ByteArray) (d:Int) (k:Nat) (b:Bool) (ev rv:Value) (es:List (EX×Value)) (rs:List RL) (w:World) (hX:Y9 (cE s rs n) s base B rs n) (hn:s.size-k<n+1) (hs:s.size<=2000) (hk:k<=s.size) (h0:0<=d) (h1:d<=k) (hl:es.length<=k) (_hrl:rs.length<=2000) (hc:ze s (zb s k b) b=116) (h:PM w base B s k b ev rv es rs) (R:CR) (hR:Hid (cE s rs (n+1) d es.length k b=R)) :
 Calls Tryz.prog 125 #[.pointer (some ⟨B,0,none⟩),J Z d] w fun e w' =>
  e=.returned (J Z R.idx)/\∃ ev' new,new.map Prod.fst=R.es/\PM w' base B s R.k R.b ev' rv (es++new) rs/\Mv base B ev rv ev' rv w w'/\∀ p∈new,∀ g,p.2.ownBlock=some g->w.heap.size<=g:=by
 obtain ⟨i0,d4,d2,d1,d0⟩:=info_parts Tryz.infoExpr
 have H:Hid _:=h
 clear h
 go_enter Tryz.func125,Tryz.ntmps125
 go_wp2_with fail
 refine (yj base B s k b ev rv es rs _ hs hk H.out).mono ?_
 rintro e a ⟨rfl,l,m⟩
 have a0:isK (ze s (zb s k b) b)=true:=by rw [hc];rfl
 have g6:zb s k b<s.size:=(Zh a0).2
 have g9:k<=zb s k b:=yg s k b
 have d6:b=false:=(Zh a0).1
 subst d6
 rw [ji n d es.length k false hc rfl rfl rfl] at hR
 clear a0
 have a7:ze s (zb s k false) false=116:=hc
 have a2:=fun (wz:World) (hz:PM wz base B s (zb s k false) false ev rv es rs)=>xw base B s (zb s k false) false ev rv es rs wz hz
 rw [a7] at a2
 clear a7 hc
 generalize zb s k false=p at *
 have K:Hid _:=l
 have g0:Hid _:=m
 have c1:=l.c1
 have f:=l.outNew
 have E:=l.bs
 have W:w.heap.size<=a.heap.size:=m.bel.size
 have b4:a.heap.size≠B:=f.1
 have h8:B≠a.heap.size:=fun e=>f.1 e.symm
 have h7:=l.lt
 clear l m
 have d5:=fun w=>xD 116 p d w
 go_wp2_with fail
 go_region_held3 (fun w'=>w'.cell? ⟨B,1,none⟩=some (J Z p)) (first | (exact c1) | (exact zB c1 _) | (exact zt b4 (zB c1 _) _ _) | go_keep) (first | (go_at_call 127;refine (a2 _ (by first | exact K.out.drew | exact K.out.drew.alloc _ | exact K.out.alloc _ | exact K.out)).mono ?_;rintro e w' ⟨rfl,q,rfl⟩))
 all_goals
  have S:Hid (PM ((a.alloc (X #[J O 116,J Z p,J Z d,J Z 0,J Z 0,Q none 0 0,J Z (-1)] 148)).drewN (1+q)) base B s p false ev rv es rs):=(K.out.alloc _).drewN _
  have f9:Hid (Mv base B ev rv ev rv w ((a.alloc (X #[J O 116,J Z p,J Z d,J Z 0,J Z 0,Q none 0 0,J Z (-1)] 148)).drewN (1+q))):=(g0.out.trans (Mv.alloc E _)).drewN _
  have b7:Hid (((a.alloc (X #[J O 116,J Z p,J Z d,J Z 0,J Z 0,Q none 0 0,J Z (-1)] 148)).drewN (1+q)).heap[a.heap.size]?=some (X #[J O 116,J Z p,J Z d,J Z 0,J Z 0,Q none 0 0,J Z (-1)] 148 (0,0))):=heap_alloc_new a _
  generalize (a.alloc (X #[J O 116,J Z p,J Z d,J Z 0,J Z 0,Q none 0 0,J Z (-1)] 148)).drewN (1+q)=w2 at *
  clear c1 d5
  have c1:=S.out.c1
  have z1:=S.out.fz 1
  have U:w2.cell? ⟨a.heap.size,0,none⟩=some (J O 116):=by simp [World.cell?,b7.out]
  have a5:=fun w=>ZG 116 w
  rw [show isK 116=true from rfl] at a5
  go_wp2_with fail
  refine (a5 _).mono ?_
  rintro e w3 ⟨g4,rfl⟩
  subst w3
  have f2:Hid (PM (w2.setCell ⟨B,1,none⟩ (J Z ((p:Int)+1))) base B s (p+1) false ev rv es rs):=S.out.at (p+1) _ (by omega)
  have f8:Hid (Mv base B ev rv ev rv w (w2.setCell ⟨B,1,none⟩ (J Z ((p:Int)+1)))):=f9.out.trans (S.out.setMv 1 _)
  have b6:Hid ((w2.setCell ⟨B,1,none⟩ (J Z ((p:Int)+1))).heap[a.heap.size]?=some (X #[J O 116,J Z p,J Z d,J Z 0,J Z 0,Q none 0 0,J Z (-1)] 148 (0,0))):=(za b4).trans b7.out
  have g5:(p:Int)<2000:=by omega
  go_wp2_with fail
  clear c1 z1 U
  have h5:=zi s 40 (p+1) false
  have Y:zc s 40 (p+1) false<=s.size:=zs (by decide) (by omega)
  generalize hk1:zc s 40 (p+1) false=k1 at *
  generalize hq1:zj s 40 (p+1) false=b1 at *
  have h4:=z5 (b:=b1) Y
  have a9:=ya (b:=b1) Y
  generalize hkn:zo s k1 b1=kn at *
  generalize hqn:zw s k1 b1=bn at *
  have h3:=zi s 44 kn bn
  have a8:zc s 44 kn bn<=s.size:=zs (by decide) a9
  generalize hk2:zc s 44 kn bn=k2 at *
  generalize hq2:zj s 44 kn bn=b2 at *
  have d3:=yK s rs n (d+1) es.length k2 b2 a8
  have d7:=hX (d+1) k2 b2 ev rv es
  generalize hr:cE s rs n (d+1) es.length k2 b2=r at *
  generalize hk3:zc s 41 r.k r.b=k3 at *
  generalize hq3:zj s 41 r.k r.b=b3 at *
  generalize hnv:zJ s k1 b1=nv at *
  generalize hna:zb s k1 b1=na at *
  have h2:d<2000:=by omega
  refine (yM base B s 40 (p+1) (false) ev rv (es) rs _ hs (by omega) (by decide) f2.out).mono ?_
  rintro e w4 ⟨rfl,l,m⟩
  rw [hk1,hq1] at l
  have e4:Hid _:=l
  have e7:Hid (Mv base B ev rv ev rv w w4):=(f8.out).trans m
  have b5:Hid _:=(m.kept _ (lt_of_block (b6.out)) f).1.trans (b6.out)
  clear l m
  go_wp2_with fail
  refine (Zg base B s k1 b1 ev rv es rs _ hs Y e4.out).mono ?_
  rintro e G ⟨rfl,l,m⟩
  rw [hkn,hqn] at l
  have e3:Hid _:=l
  have e6:Hid (Mv base B ev rv ev rv w G):=(e7.out).trans m
  have x:Hid _:=(m.kept _ (lt_of_block (b5.out)) f).1.trans (b5.out)
  clear l m
  have U:G.cell? ⟨a.heap.size,0,none⟩=some (J O 116):=by simp [World.cell?,x.out]
  have x1:G.cell? ⟨a.heap.size,1,none⟩=some (J Z p):=by simp [World.cell?,x.out]
  have x2:G.cell? ⟨a.heap.size,2,none⟩=some (J Z d):=by simp [World.cell?,x.out]
  have x3:G.cell? ⟨a.heap.size,3,none⟩=some (J Z 0):=by simp [World.cell?,x.out]
  have x4:G.cell? ⟨a.heap.size,4,none⟩=some (J Z 0):=by simp [World.cell?,x.out]
  have x5:G.cell? ⟨a.heap.size,5,none⟩=some (Q none 0 0):=by simp [World.cell?,x.out]
  have x6:G.cell? ⟨a.heap.size,6,none⟩=some (J Z (-1)):=by simp [World.cell?,x.out]
  have xz:∀ j,G.frozen? ⟨a.heap.size,j,none⟩=false:=fun j=>by simp [World.frozen?,x.out]
  rw [hnv,hna]
  have f1:Hid (PM (((G).setCell ⟨a.heap.size,3,none⟩ (J Z nv)).setCell ⟨a.heap.size,4,none⟩ (J Z na)) base B s (kn) (bn) ev rv (es) rs):=((e3.out).setE (j:=3) (u:=J Z nv) ⟨_,_,x.out⟩ f.2.1).setE (j:=4) (u:=J Z na) ⟨_,_,(z7 (j:=3) (u:=J Z nv) (x.out))⟩ f.2.1
  have f6:Hid (Mv base B ev rv ev rv w (((G).setCell ⟨a.heap.size,3,none⟩ (J Z nv)).setCell ⟨a.heap.size,4,none⟩ (J Z na))):=((e6.out).setNew (j:=3) W E (J Z nv)).setNew (j:=4) W E (J Z na)
  have c8:Hid ((((G).setCell ⟨a.heap.size,3,none⟩ (J Z nv)).setCell ⟨a.heap.size,4,none⟩ (J Z na)).heap[a.heap.size]?=some (X #[J O 116,J Z p,J Z d,J Z nv,J Z na,Q none 0 0,J Z (-1)] 148 (0,0))):=(z7 (j:=4) (u:=J Z na) ((z7 (j:=3) (u:=J Z nv) (x.out))))
  go_wp2_with fail
  refine (yM base B s 44 (kn) (bn) ev rv (es) rs _ hs a9 (by decide) f1.out).mono ?_
  rintro e w7 ⟨rfl,l,m⟩
  rw [hk2,hq2] at l
  have e2:Hid _:=l
  have c5:Hid (Mv base B ev rv ev rv w w7):=(f6.out).trans m
  have a1:Hid _:=(m.kept _ (lt_of_block (c8.out)) f).1.trans (c8.out)
  clear l m
  clear U x1 x2 x3 x4 x5 x6 xz
  go_wp2_with fail
  refine (d7 _ a8 (by omega) (by omega) (by omega) (.inr (by omega)) e2.out).mono ?_
  rintro e F ⟨rfl,C,new,I,l,m,a6⟩
  have a4:Hid (new.length=r.es.length):=by show _=_;rw [<- I,List.length_map]
  have g1:Hid (∀ p∈new,∀ g,p.2.ownBlock=some g->w.heap.size<=g):=fun p l g hg=>Nat.le_trans c5.out.bel.size (a6 p l g hg)
  have f3:Hid _:=I
  clear a6 I
  have e1:Hid _:=l
  have e5:Hid (Mv base B ev rv C rv w F):=(c5.out).trans m
  have y:Hid _:=(m.kept _ (lt_of_block (a1.out)) f).1.trans (a1.out)
  have b9:Hid (Out B C rv a.heap.size):=(m.kept _ (lt_of_block (a1.out)) f).2
  clear l m
  have U:F.cell? ⟨a.heap.size,0,none⟩=some (J O 116):=by simp [World.cell?,y.out]
  have x1:F.cell? ⟨a.heap.size,1,none⟩=some (J Z p):=by simp [World.cell?,y.out]
  have x2:F.cell? ⟨a.heap.size,2,none⟩=some (J Z d):=by simp [World.cell?,y.out]
  have x3:F.cell? ⟨a.heap.size,3,none⟩=some (J Z nv):=by simp [World.cell?,y.out]
  have x4:F.cell? ⟨a.heap.size,4,none⟩=some (J Z na):=by simp [World.cell?,y.out]
  have x5:F.cell? ⟨a.heap.size,5,none⟩=some (Q none 0 0):=by simp [World.cell?,y.out]
  have x6:F.cell? ⟨a.heap.size,6,none⟩=some (J Z (-1)):=by simp [World.cell?,y.out]
  have xz:∀ j,F.frozen? ⟨a.heap.size,j,none⟩=false:=fun j=>by simp [World.frozen?,y.out]
  have f0:Hid (PM ((F).setCell ⟨a.heap.size,6,none⟩ (J Z r.idx)) base B s (r.k) (r.b) C rv (es++new) rs):=(e1.out).setE (j:=6) (u:=J Z r.idx) ⟨_,_,y.out⟩ b9.out.2.1
  have f5:Hid (Mv base B ev rv C rv w ((F).setCell ⟨a.heap.size,6,none⟩ (J Z r.idx))):=(e5.out).setNew (j:=6) W E (J Z r.idx)
  have c7:Hid (((F).setCell ⟨a.heap.size,6,none⟩ (J Z r.idx)).heap[a.heap.size]?=some (X #[J O 116,J Z p,J Z d,J Z nv,J Z na,Q none 0 0,J Z r.idx] 148 (0,0))):=(z7 (j:=6) (u:=J Z r.idx) (y.out))
  go_wp2_with fail
  refine (yM base B s 41 (r.k) (r.b) C rv (es++new) rs _ hs d3.2.1 (by decide) f0.out).mono ?_
  rintro e v ⟨rfl,l,m⟩
  rw [hk3,hq3] at l
  have b8:Hid _:=l
  have c6:Hid (Mv base B ev rv C rv w v):=(f5.out).trans m
  have i:Hid _:=(m.kept _ (lt_of_block (c7.out)) b9.out).1.trans (c7.out)
  clear l m
  clear U x1 x2 x3 x4 x5 x6 xz
  have U:v.cell? ⟨a.heap.size,0,none⟩=some (J O 116):=by simp [World.cell?,i.out]
  have x1:v.cell? ⟨a.heap.size,1,none⟩=some (J Z p):=by simp [World.cell?,i.out]
  have x2:v.cell? ⟨a.heap.size,2,none⟩=some (J Z d):=by simp [World.cell?,i.out]
  have x3:v.cell? ⟨a.heap.size,3,none⟩=some (J Z nv):=by simp [World.cell?,i.out]
  have x4:v.cell? ⟨a.heap.size,4,none⟩=some (J Z na):=by simp [World.cell?,i.out]
  have x5:v.cell? ⟨a.heap.size,5,none⟩=some (Q none 0 0):=by simp [World.cell?,i.out]
  have x6:v.cell? ⟨a.heap.size,6,none⟩=some (J Z r.idx):=by simp [World.cell?,i.out]
  have xz:∀ j,v.frozen? ⟨a.heap.size,j,none⟩=false:=fun j=>by simp [World.frozen?,i.out]
  have g8:=a4.out
  have A:Hid _:=b8.out
  have f7:Hid _:=c6.out
  have D:Hid _:=i.out
  have e8:Hid ((v).ownsRow base 155 7 (Q none 0 0) ((⟨116,p,d,nv,na,[],r.idx⟩:EX)).items.length (imC ((⟨116,p,d,nv,na,[],r.idx⟩:EX)).items)):=⟨rfl,.inl ⟨rfl,rfl⟩⟩
  go_wp2_with fail
  generalize v=w5 at *
  clear U x1 x2 x3 x4 x5 x6 xz
  have U:w5.cell? ⟨a.heap.size,0,none⟩=some (J O 116):=by simp [World.cell?,D.out]
  have x1:w5.cell? ⟨a.heap.size,1,none⟩=some (J Z p):=by simp [World.cell?,D.out]
  have x2:w5.cell? ⟨a.heap.size,2,none⟩=some (J Z d):=by simp [World.cell?,D.out]
  have x3:w5.cell? ⟨a.heap.size,3,none⟩=some (J Z nv):=by simp [World.cell?,D.out]
  have x4:w5.cell? ⟨a.heap.size,4,none⟩=some (J Z na):=by simp [World.cell?,D.out]
  have x5:w5.cell? ⟨a.heap.size,5,none⟩=some (Q none 0 0):=by simp [World.cell?,D.out]
  have x6:w5.cell? ⟨a.heap.size,6,none⟩=some (J Z r.idx):=by simp [World.cell?,D.out]
  have c3:=A.out.c3
  have h9:=A.out.lt
  have h6:a.heap.size<w5.heap.size:=lt_of_block D.out
  have z3:=A.out.fz 3
  obtain ⟨L,N⟩:∃ L,L=(es++new).length:=⟨_,rfl⟩
  have c9:Hid _:=N
  have g2:Hid (w5.ownsRow base 148 7 C L (exC (es++new))):=by show World.ownsRow _ _ _ _ _ _ _;rw [N];exact A.out.ex
  have g7:(L:Int)<5000:=by rw [N];simp only [List.length_append];omega
  clear N
  have e0:Hid (L+1<=maxLen):=by show _<=_;unfold maxLen;omega
  have d9:Hid ((L+1)*72<=140737488355328):=by show _<=_;omega
  have d8:Hid (∀ o:Obj,base<=(w5.alloc o).drew.heap.size):=fun o=>by have:=A.out.bs;show base<=(w5.alloc o).heap.size;simp;omega
  have a3:Hid (∀ u∈exV ((⟨116,p,d,nv,na,[],r.idx⟩:EX),Q none 0 0),u.oneCell'=true):=fun u hu=>by simp [exV] at hu;rcases hu with rfl | rfl | rfl | rfl | rfl | rfl | rfl<;>first | rfl | exact HV1.out
  go_region_law ((refine step_append_lies _ (by rfl) _ _ _ (by rfl) base 148 i0 _ 7 72 Tryz.underlying71 d4 d2 d1 d0 rfl (by decide) C _ _ (by rfl) ((g2.out.alloc _).drew) ⟨w5.heap.size,0,none⟩ 1 1 (exV ((⟨116,p,d,nv,na,[],r.idx⟩:EX),Q none 0 0)) (by rfl) (by rfl) (World.news_of_block (cs:=#[J O 116,J Z p,J Z d,J Z nv,J Z na,Q none 0 0,J Z r.idx]) (t:=148) (fr:=(0,0)) (heap_alloc_new w5 _)) a3.out (Nat.lt_succ_self 0) e0.out d9.out (d8.out _) (w5.heap.size+1) (by simp) ?_;intro g P w9 V z b0 g3;obtain ⟨y3,yz⟩:=A.out.grown3 z))
  all_goals
   have e9:Hid (PM (w9.setCell ⟨B,3,none⟩ (Q (some ⟨g,0,none⟩) (L+1) P)) base B s (k3) (b3) (Q (some ⟨g,0,none⟩) (L+1) P) rv (es++new++[((⟨116,p,d,nv,na,[],r.idx⟩:EX),Q none 0 0)]) rs):=((A.out.alloc _).drew).pushE c9.out z V ((e8.out.alloc _).drew)
   have f4:Hid (Mv base B ev rv (Q (some ⟨g,0,none⟩) (L+1) P) rv w (w9.setCell ⟨B,3,none⟩ (Q (some ⟨g,0,none⟩) (L+1) P))):=(f7.out.trans (Mv.alloc A.out.bs _)).drew.trans (((A.out.alloc _).drew).pushMv z b0 (by show (w5.alloc _).heap.size<=_;simp))
   clear V z b0
   go_wp2_with fail
   go_ret
   exact ⟨by rw [<- hR.out];show _=Ending.returned (J Z ((es.length+r.es.length:Nat):Int));rw [<- a4.out,<- List.length_append,<- c9.out];rfl,_,new++[((⟨116,p,d,nv,na,[],r.idx⟩:EX),Q none 0 0)],by rw [<- hR.out];rw [List.map_append,f3.out];rfl,by rw [<- hR.out,<- List.append_assoc];exact e9.out,f4.out,fun q hq g hg=>by
    rcases List.mem_append.1 hq with hq | hq
    ·exact g1.out q hq g hg
    ·simp at hq;subst hq;simp [Value.ownBlock] at hg⟩
end
end Go.Proofs.YtaebngpoagjafabGreat
