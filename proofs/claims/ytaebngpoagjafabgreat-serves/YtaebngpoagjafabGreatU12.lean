import Derived.Test.YtaebngpoagjafabGreatU11
set_option maxRecDepth 100000
set_option maxHeartbeats 1600000
namespace Go.Proofs.YtaebngpoagjafabGreat
open Obj renaming cells → X
open Value renaming int → J, slice → Q
open IntKind renaming i64 → Z, u8 → O
open Go.RowKit
attribute [local go_sem ↓] Go.wp_at_zero Go.wp_at_succ
section
attribute [local go_sem] zV zH
theorem Qm (n base B:Nat) (s:ByteArray) (d:Int) (k:Nat) (b:Bool) (ev rv:Value) (es:List (EX×Value)) (rs:List RL) (w:World) (hX:Y9 (cE s rs n) s base B rs n) (hn:s.size-k<n+1) (hs:s.size<=2000) (hk:k<=s.size) (h0:0<=d) (h1:d<=k) (hl:es.length<=k) (_hrl:rs.length<=2000) (hc:ze s (zb s k b) b=123) (h:PM w base B s k b ev rv es rs) (R:CR) (hR:Hid (cE s rs (n+1) d es.length k b=R)) :
 Calls Tryz.prog 125 #[.pointer (some ⟨B,0,none⟩),J Z d] w fun e w' =>
  e=.returned (J Z R.idx)/\∃ ev' new,new.map Prod.fst=R.es/\PM w' base B s R.k R.b ev' rv (es++new) rs/\Mv base B ev rv ev' rv w w'/\∀ p∈new,∀ g,p.2.ownBlock=some g->w.heap.size<=g:=by
 obtain ⟨i0,d3,d0,c9,c8⟩:=info_parts Tryz.infoExpr
 have H:Hid _:=h
 clear h
 go_enter Tryz.func125,Tryz.ntmps125
 go_wp2_with fail
 refine (yj base B s k b ev rv es rs _ hs hk H.out).mono ?_
 rintro e a ⟨rfl,E,L⟩
 have a2:isK (ze s (zb s k b) b)=true:=by rw [hc];rfl
 have f8:zb s k b<s.size:=(Zh a2).2
 have g1:k<=zb s k b:=yg s k b
 have d5:b=false:=(Zh a2).1
 subst d5
 rw [YP n d es.length k false hc] at hR
 clear a2
 have b1:ze s (zb s k false) false=123:=hc
 have a6:=fun (wz:World) (hz:PM wz base B s (zb s k false) false ev rv es rs)=>xw base B s (zb s k false) false ev rv es rs wz hz
 rw [b1] at a6
 clear b1 hc
 generalize zb s k false=p at *
 have V:Hid _:=E
 have f2:Hid _:=L
 have c1:=E.c1
 have G:=E.outNew
 have a1:=E.bs
 have d1:w.heap.size<=a.heap.size:=L.bel.size
 have b4:a.heap.size≠B:=G.1
 have g4:B≠a.heap.size:=fun e=>G.1 e.symm
 have g3:=E.lt
 clear E L
 have d4:=fun w=>xD 123 p d w
 go_wp2_with fail
 go_region_held3 (fun w'=>w'.cell? ⟨B,1,none⟩=some (J Z p)) (first | (exact c1) | (exact zB c1 _) | (exact zt b4 (zB c1 _) _ _) | go_keep) (first | (go_at_call 127;refine (a6 _ (by first | exact V.out.drew | exact V.out.drew.alloc _ | exact V.out.alloc _ | exact V.out)).mono ?_;rintro e w' ⟨rfl,q,rfl⟩))
 all_goals
  have Y:Hid (PM ((a.alloc (X #[J O 123,J Z p,J Z d,J Z 0,J Z 0,Q none 0 0,J Z (-1)] 148)).drewN (1+q)) base B s p false ev rv es rs):=(V.out.alloc _).drewN _
  have f1:Hid (Mv base B ev rv ev rv w ((a.alloc (X #[J O 123,J Z p,J Z d,J Z 0,J Z 0,Q none 0 0,J Z (-1)] 148)).drewN (1+q))):=(f2.out.trans (Mv.alloc a1 _)).drewN _
  have b5:Hid (((a.alloc (X #[J O 123,J Z p,J Z d,J Z 0,J Z 0,Q none 0 0,J Z (-1)] 148)).drewN (1+q)).heap[a.heap.size]?=some (X #[J O 123,J Z p,J Z d,J Z 0,J Z 0,Q none 0 0,J Z (-1)] 148 (0,0))):=heap_alloc_new a _
  generalize (a.alloc (X #[J O 123,J Z p,J Z d,J Z 0,J Z 0,Q none 0 0,J Z (-1)] 148)).drewN (1+q)=w2 at *
  clear c1 d4
  have c1:=Y.out.c1
  have z1:=Y.out.fz 1
  have x0:w2.cell? ⟨a.heap.size,0,none⟩=some (J O 123):=by simp [World.cell?,b5.out]
  have a9:=fun w=>ZG 123 w
  rw [show isK 123=true from rfl] at a9
  go_wp2_with fail
  refine (a9 _).mono ?_
  rintro e w3 ⟨f6,rfl⟩
  subst w3
  have e6:Hid (PM (w2.setCell ⟨B,1,none⟩ (J Z ((p:Int)+1))) base B s (p+1) false ev rv es rs):=Y.out.at (p+1) _ (by omega)
  have a4:Hid (Mv base B ev rv ev rv w (w2.setCell ⟨B,1,none⟩ (J Z ((p:Int)+1)))):=f1.out.trans (Y.out.setMv 1 _)
  have a3:Hid ((w2.setCell ⟨B,1,none⟩ (J Z ((p:Int)+1))).heap[a.heap.size]?=some (X #[J O 123,J Z p,J Z d,J Z 0,J Z 0,Q none 0 0,J Z (-1)] 148 (0,0))):=(za b4).trans b5.out
  have f7:(p:Int)<2000:=by omega
  go_wp2_with fail
  clear c1 z1 x0
  have d2:=zN (yK s rs n) 123 d (s.size+1-(p+1)) es.length (p+1) false (by omega)
  generalize hl0:zd (cE s rs n) s 123 d (s.size+1-(p+1)) es.length (p+1) false=l at *
  generalize hk3:zc s 125 l.k l.b=k3 at *
  generalize hq3:zj s 125 l.k l.b=b3 at *
  refine (QA (cE s rs n) base B s 123 d (p+1) (false) ev rv es rs _ n hX (yK s rs n) (Y6 s rs n) h0 (by omega) (by omega) (.inr (by omega)) hs (by omega) (.inl rfl) e6.out l hl0).mono ?_
  rintro e K ⟨v,A,new,rfl,S,E,L,b0,P,a5⟩
  obtain ⟨m,r,x,rfl⟩:∃ m r x,v=Q m r x:=by
   rcases P.2 with ⟨rfl,_⟩ | ⟨g,U,cur,rfl,_⟩
   ·exact ⟨none,0,0,rfl⟩
   ·exact ⟨_,_,_,rfl⟩
  have a8:Hid (new.length=l.es.length):=by show _=_;rw [<- S,List.length_map]
  have f3:Hid (∀ p∈new,∀ g,p.2.ownBlock=some g->w.heap.size<=g):=fun p E g hg=>Nat.le_trans a4.out.bel.size (b0 p E g hg)
  have e1:Hid (∀ g,(Q m r x).ownBlock=some g->w.heap.size<=g):=fun g hg=>Nat.le_trans a4.out.bel.size (a5 g hg).1
  have e7:Hid _:=S
  have e3:Hid ((Q m r x).oneCell'=true):=rfl
  have c5:Hid _:=P
  clear b0 S a5 P
  have d9:Hid _:=E
  have e0:Hid (Mv base B ev rv A rv w K):=(a4.out).trans L
  have y:Hid _:=(L.kept _ (lt_of_block (a3.out)) G).1.trans (a3.out)
  have b7:Hid (Out B A rv a.heap.size):=(L.kept _ (lt_of_block (a3.out)) G).2
  clear E L
  have x0:K.cell? ⟨a.heap.size,0,none⟩=some (J O 123):=by simp [World.cell?,y.out]
  have x1:K.cell? ⟨a.heap.size,1,none⟩=some (J Z p):=by simp [World.cell?,y.out]
  have x2:K.cell? ⟨a.heap.size,2,none⟩=some (J Z d):=by simp [World.cell?,y.out]
  have x3:K.cell? ⟨a.heap.size,3,none⟩=some (J Z 0):=by simp [World.cell?,y.out]
  have x4:K.cell? ⟨a.heap.size,4,none⟩=some (J Z 0):=by simp [World.cell?,y.out]
  have x5:K.cell? ⟨a.heap.size,5,none⟩=some (Q none 0 0):=by simp [World.cell?,y.out]
  have x6:K.cell? ⟨a.heap.size,6,none⟩=some (J Z (-1)):=by simp [World.cell?,y.out]
  have xz:∀ j,K.frozen? ⟨a.heap.size,j,none⟩=false:=fun j=>by simp [World.frozen?,y.out]
  have c6:Hid (PM ((K).setCell ⟨a.heap.size,5,none⟩ (Q m r x)) base B s (l.k) (l.b) A rv (es++new) rs):=(d9.out).setE (j:=5) (u:=Q m r x) ⟨_,_,y.out⟩ b7.out.2.1
  have e9:Hid (Mv base B ev rv A rv w ((K).setCell ⟨a.heap.size,5,none⟩ (Q m r x))):=(e0.out).setNew (j:=5) d1 a1 (Q m r x)
  have b9:Hid (((K).setCell ⟨a.heap.size,5,none⟩ (Q m r x)).heap[a.heap.size]?=some (X #[J O 123,J Z p,J Z d,J Z 0,J Z 0,Q m r x,J Z (-1)] 148 (0,0))):=(z7 (j:=5) (u:=Q m r x) (y.out))
  have F:Hid (((K).setCell ⟨a.heap.size,5,none⟩ (Q m r x)).ownsRow base 155 7 (Q m r x) l.ims.length (imC l.ims)):=ownsRow_setCell_other (c5.out) (zk (c5.out) (y.out) (by decide)) (Q m r x)
  go_wp2_with fail
  refine (yM base B s 125 (l.k) (l.b) A rv (es++new) rs _ hs d2.2.1 (by decide) c6.out).mono ?_
  rintro e i ⟨rfl,E,L⟩
  rw [hk3,hq3] at E
  have b6:Hid _:=E
  have b8:Hid (Mv base B ev rv A rv w i):=(e9.out).trans L
  have f:Hid _:=(L.kept _ (lt_of_block (b9.out)) b7.out).1.trans (b9.out)
  have I:Hid (i.ownsRow base 155 7 (Q m r x) l.ims.length (imC l.ims)):=zh (F.out) (fun g hg=>(L.kept g ((F.out).lt g hg).2 ((c6.out).outI (F.out) hg)).1)
  clear E L
  clear x0 x1 x2 x3 x4 x5 x6 xz
  have x0:i.cell? ⟨a.heap.size,0,none⟩=some (J O 123):=by simp [World.cell?,f.out]
  have x1:i.cell? ⟨a.heap.size,1,none⟩=some (J Z p):=by simp [World.cell?,f.out]
  have x2:i.cell? ⟨a.heap.size,2,none⟩=some (J Z d):=by simp [World.cell?,f.out]
  have x3:i.cell? ⟨a.heap.size,3,none⟩=some (J Z 0):=by simp [World.cell?,f.out]
  have x4:i.cell? ⟨a.heap.size,4,none⟩=some (J Z 0):=by simp [World.cell?,f.out]
  have x5:i.cell? ⟨a.heap.size,5,none⟩=some (Q m r x):=by simp [World.cell?,f.out]
  have x6:i.cell? ⟨a.heap.size,6,none⟩=some (J Z (-1)):=by simp [World.cell?,f.out]
  have xz:∀ j,i.frozen? ⟨a.heap.size,j,none⟩=false:=fun j=>by simp [World.frozen?,f.out]
  have g0:=a8.out
  have C:Hid (PM (i) base B s (k3) (b3) A rv (es++new) rs):=b6.out
  have f0:Hid _:=b8.out
  have D:Hid _:=f.out
  have e4:Hid _:=I.out
  have e2:Hid ((i).ownsRow base 155 7 (Q m r x) ((⟨123,p,d,0,0,l.ims,-1⟩:EX)).items.length (imC ((⟨123,p,d,0,0,l.ims,-1⟩:EX)).items)):=I.out
  go_wp2_with fail
  generalize i=w5 at *
  clear x0 x1 x2 x3 x4 x5 x6 xz
  have x0:w5.cell? ⟨a.heap.size,0,none⟩=some (J O 123):=by simp [World.cell?,D.out]
  have x1:w5.cell? ⟨a.heap.size,1,none⟩=some (J Z p):=by simp [World.cell?,D.out]
  have x2:w5.cell? ⟨a.heap.size,2,none⟩=some (J Z d):=by simp [World.cell?,D.out]
  have x3:w5.cell? ⟨a.heap.size,3,none⟩=some (J Z 0):=by simp [World.cell?,D.out]
  have x4:w5.cell? ⟨a.heap.size,4,none⟩=some (J Z 0):=by simp [World.cell?,D.out]
  have x5:w5.cell? ⟨a.heap.size,5,none⟩=some (Q m r x):=by simp [World.cell?,D.out]
  have x6:w5.cell? ⟨a.heap.size,6,none⟩=some (J Z (-1)):=by simp [World.cell?,D.out]
  have c3:=C.out.c3
  have g5:=C.out.lt
  have g2:a.heap.size<w5.heap.size:=lt_of_block D.out
  have z3:=C.out.fz 3
  obtain ⟨N,W⟩:∃ N,N=(es++new).length:=⟨_,rfl⟩
  have c7:Hid (N=(es++new).length):=W
  have f4:Hid (w5.ownsRow base 148 7 A N (exC (es++new))):=by show World.ownsRow _ _ _ _ _ _ _;rw [W];exact C.out.ex
  have f9:(N:Int)<5000:=by rw [W];simp only [List.length_append];omega
  clear W
  have d8:Hid (N+1<=maxLen):=by show _<=_;unfold maxLen;omega
  have d7:Hid ((N+1)*72<=140737488355328):=by show _<=_;omega
  have d6:Hid (∀ o:Obj,base<=(w5.alloc o).drew.heap.size):=fun o=>by have:=C.out.bs;show base<=(w5.alloc o).heap.size;simp;omega
  have a7:Hid (∀ u∈exV ((⟨123,p,d,0,0,l.ims,-1⟩:EX),Q m r x),u.oneCell'=true):=fun u hu=>by simp [exV] at hu;rcases hu with rfl | rfl | rfl | rfl | rfl | rfl | rfl<;>first | rfl | exact e3.out
  go_region_law ((refine step_append_lies _ (by rfl) _ _ _ (by rfl) base 148 i0 _ 7 72 Tryz.underlying71 d3 d0 c9 c8 rfl (by decide) A _ _ (by rfl) ((f4.out.alloc _).drew) ⟨w5.heap.size,0,none⟩ 1 1 (exV ((⟨123,p,d,0,0,l.ims,-1⟩:EX),Q m r x)) (by rfl) (by rfl) (World.news_of_block (cs:=#[J O 123,J Z p,J Z d,J Z 0,J Z 0,Q m r x,J Z (-1)]) (t:=148) (fr:=(0,0)) (heap_alloc_new w5 _)) a7.out (Nat.lt_succ_self 0) d8.out d7.out (d6.out _) (w5.heap.size+1) (by simp) ?_;intro g U w9 a0 z b2 f5;obtain ⟨y3,yz⟩:=C.out.grown3 z))
  all_goals
   have e5:Hid (PM (w9.setCell ⟨B,3,none⟩ (Q (some ⟨g,0,none⟩) (N+1) U)) base B s (k3) (b3) (Q (some ⟨g,0,none⟩) (N+1) U) rv (es++new++[((⟨123,p,d,0,0,l.ims,-1⟩:EX),Q m r x)]) rs):=((C.out.alloc _).drew).pushE c7.out z a0 ((e2.out.alloc _).drew)
   have e8:Hid (Mv base B ev rv (Q (some ⟨g,0,none⟩) (N+1) U) rv w (w9.setCell ⟨B,3,none⟩ (Q (some ⟨g,0,none⟩) (N+1) U))):=(f0.out.trans (Mv.alloc C.out.bs _)).drew.trans (((C.out.alloc _).drew).pushMv z b2 (by show (w5.alloc _).heap.size<=_;simp))
   clear a0 z b2
   go_wp2_with fail
   go_ret
   exact ⟨by rw [<- hR.out];show _=Ending.returned (J Z ((es.length+l.es.length:Nat):Int));rw [<- a8.out,<- List.length_append,<- c7.out];rfl,_,new++[((⟨123,p,d,0,0,l.ims,-1⟩:EX),Q m r x)],by rw [<- hR.out];rw [List.map_append,e7.out];rfl,by rw [<- hR.out,<- List.append_assoc];exact e5.out,e8.out,fun q hq g hg=>by
    rcases List.mem_append.1 hq with hq | hq
    ·exact f3.out q hq g hg
    ·simp at hq;subst hq;exact e1.out g hg⟩
end
section
attribute [local go_sem] zV zH
theorem JW (c:Int) (n base B:Nat) (s:ByteArray) (d:Int) (k:Nat) (b:Bool) (ev rv:Value) (es:List (EX×Value)) (rs:List RL) (w:World) (hX:Y9 (cE s rs n) s base B rs n) (hn:s.size-k<n+1) (hs:s.size<=2000) (hk:k<=s.size) (h0:0<=d) (h1:d<=k) (hl:es.length<=k) (_hrl:rs.length<=2000) (hc:ze s (zb s k b) b=c) (hcc:c=119\/c=102\/c=109\/c=103) (h:PM w base B s k b ev rv es rs) (R:CR) (hR:Hid (cE s rs (n+1) d es.length k b=R)) :
 Calls Tryz.prog 125 #[.pointer (some ⟨B,0,none⟩),J Z d] w fun e w' =>
  e=.returned (J Z R.idx)/\∃ ev' new,new.map Prod.fst=R.es/\PM w' base B s R.k R.b ev' rv (es++new) rs/\Mv base B ev rv ev' rv w w'/\∀ p∈new,∀ g,p.2.ownBlock=some g->w.heap.size<=g:=by
 obtain ⟨i0,g2,g0,f9,f8⟩:=info_parts Tryz.infoExpr
 have H:Hid _:=h
 clear h
 go_enter Tryz.func125,Tryz.ntmps125
 go_wp2_with fail
 refine (yj base B s k b ev rv es rs _ hs hk H.out).mono ?_
 rintro e a ⟨rfl,i,A⟩
 have b7:isK (ze s (zb s k b) b)=true:=by rw [hc];rcases hcc with rfl | rfl | rfl | rfl<;>rfl
 have k6:zb s k b<s.size:=(Zh b7).2
 have m0:k<=zb s k b:=yg s k b
 have g4:b=false:=(Zh b7).1
 subst g4
 rw [qj n d es.length k false hc hcc rfl rfl rfl rfl] at hR
 clear b7
 have d2:ze s (zb s k false) false=c:=hc
 have c7:=fun (wz:World) (hz:PM wz base B s (zb s k false) false ev rv es rs)=>xw base B s (zb s k false) false ev rv es rs wz hz
 rw [d2] at c7
 clear d2 hc
 have e1:(c==123)=false:=by rcases hcc with rfl | rfl | rfl | rfl<;>rfl
 have e2:(c==116)=false:=by rcases hcc with rfl | rfl | rfl | rfl<;>rfl
 have e3:(c==64)=false:=by rcases hcc with rfl | rfl | rfl | rfl<;>rfl
 have e4:(c==61)=false:=by rcases hcc with rfl | rfl | rfl | rfl<;>rfl
 have e5:0<=c/\c<256:=by rcases hcc with rfl | rfl | rfl | rfl<;>decide
 generalize zb s k false=p at *
 have a6:Hid _:=i
 have i9:Hid _:=A
 have c1:=i.c1
 have N:=i.outNew
 have a3:=i.bs
 have c5:w.heap.size<=a.heap.size:=A.bel.size
 have d7:a.heap.size≠B:=N.1
 have m6:B≠a.heap.size:=fun e=>N.1 e.symm
 have m5:=i.lt
 clear i A
 have g3:=fun w=>xD c p d w
 go_wp2_with fail
 go_region_held3 (fun w'=>w'.cell? ⟨B,1,none⟩=some (J Z p)) (first | (exact c1) | (exact zB c1 _) | (exact zt d7 (zB c1 _) _ _) | go_keep) (first | (go_at_call 127;refine (c7 _ (by first | exact a6.out.drew | exact a6.out.drew.alloc _ | exact a6.out.alloc _ | exact a6.out)).mono ?_;rintro e w' ⟨rfl,q,rfl⟩))
 all_goals
  have a9:Hid (PM ((a.alloc (X #[J O c,J Z p,J Z d,J Z 0,J Z 0,Q none 0 0,J Z (-1)] 148)).drewN (1+q)) base B s p false ev rv es rs):=(a6.out.alloc _).drewN _
  have i8:Hid (Mv base B ev rv ev rv w ((a.alloc (X #[J O c,J Z p,J Z d,J Z 0,J Z 0,Q none 0 0,J Z (-1)] 148)).drewN (1+q))):=(i9.out.trans (Mv.alloc a3 _)).drewN _
  have d9:Hid (((a.alloc (X #[J O c,J Z p,J Z d,J Z 0,J Z 0,Q none 0 0,J Z (-1)] 148)).drewN (1+q)).heap[a.heap.size]?=some (X #[J O c,J Z p,J Z d,J Z 0,J Z 0,Q none 0 0,J Z (-1)] 148 (0,0))):=heap_alloc_new a _
  generalize (a.alloc (X #[J O c,J Z p,J Z d,J Z 0,J Z 0,Q none 0 0,J Z (-1)] 148)).drewN (1+q)=w2 at *
  clear c1 g3
  have c1:=a9.out.c1
  have z1:=a9.out.fz 1
  have x0:w2.cell? ⟨a.heap.size,0,none⟩=some (J O c):=by simp [World.cell?,d9.out]
  have d1:=fun w=>ZG c w
  rw [show isK c=true from by rcases hcc with rfl | rfl | rfl | rfl<;>rfl] at d1
  go_wp2_with fail
  refine (d1 _).mono ?_
  rintro e w3 ⟨k4,rfl⟩
  subst w3
  have i1:Hid (PM (w2.setCell ⟨B,1,none⟩ (J Z ((p:Int)+1))) base B s (p+1) false ev rv es rs):=a9.out.at (p+1) _ (by omega)
  have i7:Hid (Mv base B ev rv ev rv w (w2.setCell ⟨B,1,none⟩ (J Z ((p:Int)+1)))):=i8.out.trans (a9.out.setMv 1 _)
  have d8:Hid ((w2.setCell ⟨B,1,none⟩ (J Z ((p:Int)+1))).heap[a.heap.size]?=some (X #[J O c,J Z p,J Z d,J Z 0,J Z 0,Q none 0 0,J Z (-1)] 148 (0,0))):=(za d7).trans d9.out
  have k5:(p:Int)<2000:=by omega
  go_wp2_with fail
  clear c1 z1 x0
  have m3:=zi s 40 (p+1) false
  have d4:zc s 40 (p+1) false<=s.size:=zs (by decide) (by omega)
  generalize hk1:zc s 40 (p+1) false=k1 at *
  generalize hq1:zj s 40 (p+1) false=b1 at *
  have c9:=zN (yK s rs n) c d (s.size+1-k1) es.length k1 b1 d4
  generalize hl0:zd (cE s rs n) s c d (s.size+1-k1) es.length k1 b1=l at *
  have m2:=zi s 124 l.k l.b
  have d3:zc s 124 l.k l.b<=s.size:=zs (by decide) c9.2.1
  generalize hk2:zc s 124 l.k l.b=k2 at *
  generalize hq2:zj s 124 l.k l.b=b2 at *
  have g1:=yK s rs n (d+1) (es.length+l.es.length) k2 b2 d3
  generalize hr:cE s rs n (d+1) (es.length+l.es.length) k2 b2=r at *
  generalize hk3:zc s 41 r.k r.b=k3 at *
  generalize hq3:zj s 41 r.k r.b=b3 at *
  have m1:d<2000:=by omega
  have d0:yo c:=by rcases hcc with rfl | rfl | rfl | rfl<;>simp [yo]
  refine (yM base B s 40 (p+1) (false) ev rv (es) rs _ hs (by omega) (by decide) i1.out).mono ?_
  rintro e w4 ⟨rfl,i,A⟩
  rw [hk1,hq1] at i
  have h2:Hid _:=i
  have b9:Hid (Mv base B ev rv ev rv w w4):=(i7.out).trans A
  have G:Hid _:=(A.kept _ (lt_of_block (d8.out)) N).1.trans (d8.out)
  clear i A
  have x0:w4.cell? ⟨a.heap.size,0,none⟩=some (J O c):=by simp [World.cell?,G.out]
  have x1:w4.cell? ⟨a.heap.size,1,none⟩=some (J Z p):=by simp [World.cell?,G.out]
  have x2:w4.cell? ⟨a.heap.size,2,none⟩=some (J Z d):=by simp [World.cell?,G.out]
  have x3:w4.cell? ⟨a.heap.size,3,none⟩=some (J Z 0):=by simp [World.cell?,G.out]
  have x4:w4.cell? ⟨a.heap.size,4,none⟩=some (J Z 0):=by simp [World.cell?,G.out]
  have x5:w4.cell? ⟨a.heap.size,5,none⟩=some (Q none 0 0):=by simp [World.cell?,G.out]
  have x6:w4.cell? ⟨a.heap.size,6,none⟩=some (J Z (-1)):=by simp [World.cell?,G.out]
  have xz:∀ j,w4.frozen? ⟨a.heap.size,j,none⟩=false:=fun j=>by simp [World.frozen?,G.out]
  go_wp2_with fail
  clear x0 x1 x2 x3 x4 x5 x6 xz
  refine (QA (cE s rs n) base B s c d (k1) (b1) ev rv es rs _ n hX (yK s rs n) (Y6 s rs n) h0 (by omega) (by omega) (.inr (by omega)) hs d4 d0 h2.out l hl0).mono ?_
  rintro e w6 ⟨v,S,new,rfl,D,i,A,a2,a1,c6⟩
  obtain ⟨x,y,z,rfl⟩:∃ x y z,v=Q x y z:=by
   rcases a1.2 with ⟨rfl,_⟩ | ⟨g,a4,cur,rfl,_⟩
   ·exact ⟨none,0,0,rfl⟩
   ·exact ⟨_,_,_,rfl⟩
  have b6:Hid (new.length=l.es.length):=by show _=_;rw [<- D,List.length_map]
  have j0:Hid (∀ p∈new,∀ g,p.2.ownBlock=some g->w.heap.size<=g):=fun p i g hg=>Nat.le_trans b9.out.bel.size (a2 p i g hg)
  have h5:Hid (∀ g,(Q x y z).ownBlock=some g->w.heap.size<=g):=fun g hg=>Nat.le_trans b9.out.bel.size (c6 g hg).1
  have i2:Hid _:=D
  have h7:Hid ((Q x y z).oneCell'=true):=rfl
  have f2:Hid _:=a1
  clear a2 D c6 a1
  have g9:Hid _:=i
  have h4:Hid (Mv base B ev rv S rv w w6):=(b9.out).trans A
  have F:Hid _:=(A.kept _ (lt_of_block (G.out)) N).1.trans (G.out)
  have a8:Hid (Out B S rv a.heap.size):=(A.kept _ (lt_of_block (G.out)) N).2
  clear i A
  have x0:w6.cell? ⟨a.heap.size,0,none⟩=some (J O c):=by simp [World.cell?,F.out]
  have x1:w6.cell? ⟨a.heap.size,1,none⟩=some (J Z p):=by simp [World.cell?,F.out]
  have x2:w6.cell? ⟨a.heap.size,2,none⟩=some (J Z d):=by simp [World.cell?,F.out]
  have x3:w6.cell? ⟨a.heap.size,3,none⟩=some (J Z 0):=by simp [World.cell?,F.out]
  have x4:w6.cell? ⟨a.heap.size,4,none⟩=some (J Z 0):=by simp [World.cell?,F.out]
  have x5:w6.cell? ⟨a.heap.size,5,none⟩=some (Q none 0 0):=by simp [World.cell?,F.out]
  have x6:w6.cell? ⟨a.heap.size,6,none⟩=some (J Z (-1)):=by simp [World.cell?,F.out]
  have xz:∀ j,w6.frozen? ⟨a.heap.size,j,none⟩=false:=fun j=>by simp [World.frozen?,F.out]
  have f4:Hid (PM ((w6).setCell ⟨a.heap.size,5,none⟩ (Q x y z)) base B s (l.k) (l.b) S rv (es++new) rs):=(g9.out).setE (j:=5) (u:=Q x y z) ⟨_,_,F.out⟩ a8.out.2.1
  have i5:Hid (Mv base B ev rv S rv w ((w6).setCell ⟨a.heap.size,5,none⟩ (Q x y z))):=(h4.out).setNew (j:=5) c5 a3 (Q x y z)
  have f1:Hid (((w6).setCell ⟨a.heap.size,5,none⟩ (Q x y z)).heap[a.heap.size]?=some (X #[J O c,J Z p,J Z d,J Z 0,J Z 0,Q x y z,J Z (-1)] 148 (0,0))):=(z7 (j:=5) (u:=Q x y z) (F.out))
  have W:Hid (((w6).setCell ⟨a.heap.size,5,none⟩ (Q x y z)).ownsRow base 155 7 (Q x y z) l.ims.length (imC l.ims)):=ownsRow_setCell_other (f2.out) (zk (f2.out) (F.out) (by decide)) (Q x y z)
  go_wp2_with fail
  refine (yM base B s 124 (l.k) (l.b) S rv (es++new) rs _ hs c9.2.1 (by decide) f4.out).mono ?_
  rintro e w7 ⟨rfl,i,A⟩
  rw [hk2,hq2] at i
  have e0:Hid _:=i
  have e8:Hid (Mv base B ev rv S rv w w7):=(i5.out).trans A
  have b8:Hid _:=(A.kept _ (lt_of_block (f1.out)) a8.out).1.trans (f1.out)
  have U:Hid (w7.ownsRow base 155 7 (Q x y z) l.ims.length (imC l.ims)):=zh (W.out) (fun g hg=>(A.kept g ((W.out).lt g hg).2 ((f4.out).outI (W.out) hg)).1)
  clear i A
  clear x0 x1 x2 x3 x4 x5 x6 xz
  go_wp2_with fail
  have b5:=b6.out
  have d6:=hX (d+1) k2 b2 S rv (es++new) w7 d3 (by omega) (by omega) (by simp only [List.length_append];omega) (.inr (by omega)) e0.out
  rw [show (es++new).length=es.length+l.es.length from by rw [List.length_append,b5],hr] at d6
  refine (d6).mono ?_
  rintro e Y ⟨rfl,K,f,D,i,A,a2⟩
  have b4:Hid (f.length=r.es.length):=by show _=_;rw [<- D,List.length_map]
  have f7:Hid (∀ p∈new++f,∀ g,p.2.ownBlock=some g->w.heap.size<=g):=fun p i g hg=>by
   rcases List.mem_append.1 i with i | i
   ·exact j0.out p i g hg
   ·exact Nat.le_trans e8.out.bel.size (a2 p i g hg)
  have f5:Hid ((new++f).map Prod.fst=l.es++r.es):=by show _=_;rw [List.map_append,i2.out,D]
  rw [List.append_assoc] at i
  clear a2 D b5
  have g8:Hid _:=i
  have h3:Hid (Mv base B ev rv K rv w Y):=(e8.out).trans A
  have E:Hid _:=(A.kept _ (lt_of_block (b8.out)) a8.out).1.trans (b8.out)
  have e7:Hid (Out B K rv a.heap.size):=(A.kept _ (lt_of_block (b8.out)) a8.out).2
  have a5:Hid (Y.ownsRow base 155 7 (Q x y z) l.ims.length (imC l.ims)):=zh (U.out) (fun g hg=>(A.kept g ((U.out).lt g hg).2 ((e0.out).outI (U.out) hg)).1)
  clear i A
  have x0:Y.cell? ⟨a.heap.size,0,none⟩=some (J O c):=by simp [World.cell?,E.out]
  have x1:Y.cell? ⟨a.heap.size,1,none⟩=some (J Z p):=by simp [World.cell?,E.out]
  have x2:Y.cell? ⟨a.heap.size,2,none⟩=some (J Z d):=by simp [World.cell?,E.out]
  have x3:Y.cell? ⟨a.heap.size,3,none⟩=some (J Z 0):=by simp [World.cell?,E.out]
  have x4:Y.cell? ⟨a.heap.size,4,none⟩=some (J Z 0):=by simp [World.cell?,E.out]
  have x5:Y.cell? ⟨a.heap.size,5,none⟩=some (Q x y z):=by simp [World.cell?,E.out]
  have x6:Y.cell? ⟨a.heap.size,6,none⟩=some (J Z (-1)):=by simp [World.cell?,E.out]
  have xz:∀ j,Y.frozen? ⟨a.heap.size,j,none⟩=false:=fun j=>by simp [World.frozen?,E.out]
  have f3:Hid (PM ((Y).setCell ⟨a.heap.size,6,none⟩ (J Z r.idx)) base B s (r.k) (r.b) K rv (es++(new++f)) rs):=(g8.out).setE (j:=6) (u:=J Z r.idx) ⟨_,_,E.out⟩ e7.out.2.1
  have i4:Hid (Mv base B ev rv K rv w ((Y).setCell ⟨a.heap.size,6,none⟩ (J Z r.idx))):=(h3.out).setNew (j:=6) c5 a3 (J Z r.idx)
  have f0:Hid (((Y).setCell ⟨a.heap.size,6,none⟩ (J Z r.idx)).heap[a.heap.size]?=some (X #[J O c,J Z p,J Z d,J Z 0,J Z 0,Q x y z,J Z r.idx] 148 (0,0))):=(z7 (j:=6) (u:=J Z r.idx) (E.out))
  have V:Hid (((Y).setCell ⟨a.heap.size,6,none⟩ (J Z r.idx)).ownsRow base 155 7 (Q x y z) l.ims.length (imC l.ims)):=ownsRow_setCell_other (a5.out) (zk (a5.out) (E.out) (by decide)) (J Z r.idx)
  go_wp2_with fail
  refine (yM base B s 41 (r.k) (r.b) K rv (es++(new++f)) rs _ hs g1.2.1 (by decide) f3.out).mono ?_
  rintro e C ⟨rfl,i,A⟩
  rw [hk3,hq3] at i
  have e6:Hid _:=i
  have e9:Hid (Mv base B ev rv K rv w C):=(i4.out).trans A
  have m:Hid _:=(A.kept _ (lt_of_block (f0.out)) e7.out).1.trans (f0.out)
  have a0:Hid (C.ownsRow base 155 7 (Q x y z) l.ims.length (imC l.ims)):=zh (V.out) (fun g hg=>(A.kept g ((V.out).lt g hg).2 ((f3.out).outI (V.out) hg)).1)
  clear i A
  clear x0 x1 x2 x3 x4 x5 x6 xz
  have x0:C.cell? ⟨a.heap.size,0,none⟩=some (J O c):=by simp [World.cell?,m.out]
  have x1:C.cell? ⟨a.heap.size,1,none⟩=some (J Z p):=by simp [World.cell?,m.out]
  have x2:C.cell? ⟨a.heap.size,2,none⟩=some (J Z d):=by simp [World.cell?,m.out]
  have x3:C.cell? ⟨a.heap.size,3,none⟩=some (J Z 0):=by simp [World.cell?,m.out]
  have x4:C.cell? ⟨a.heap.size,4,none⟩=some (J Z 0):=by simp [World.cell?,m.out]
  have x5:C.cell? ⟨a.heap.size,5,none⟩=some (Q x y z):=by simp [World.cell?,m.out]
  have x6:C.cell? ⟨a.heap.size,6,none⟩=some (J Z r.idx):=by simp [World.cell?,m.out]
  have xz:∀ j,C.frozen? ⟨a.heap.size,j,none⟩=false:=fun j=>by simp [World.frozen?,m.out]
  have k8:=b6.out
  have k9:=b4.out
  have L:Hid (PM (C) base B s (k3) (b3) K rv (es++(new++f)) rs):=e6.out
  have i6:Hid _:=e9.out
  have P:Hid _:=m.out
  have h8:Hid _:=a0.out
  have h6:Hid ((C).ownsRow base 155 7 (Q x y z) ((⟨c,p,d,0,0,l.ims,r.idx⟩:EX)).items.length (imC ((⟨c,p,d,0,0,l.ims,r.idx⟩:EX)).items)):=a0.out
  go_wp2_with fail
  generalize C=w5 at *
  clear x0 x1 x2 x3 x4 x5 x6 xz
  have x0:w5.cell? ⟨a.heap.size,0,none⟩=some (J O c):=by simp [World.cell?,P.out]
  have x1:w5.cell? ⟨a.heap.size,1,none⟩=some (J Z p):=by simp [World.cell?,P.out]
  have x2:w5.cell? ⟨a.heap.size,2,none⟩=some (J Z d):=by simp [World.cell?,P.out]
  have x3:w5.cell? ⟨a.heap.size,3,none⟩=some (J Z 0):=by simp [World.cell?,P.out]
  have x4:w5.cell? ⟨a.heap.size,4,none⟩=some (J Z 0):=by simp [World.cell?,P.out]
  have x5:w5.cell? ⟨a.heap.size,5,none⟩=some (Q x y z):=by simp [World.cell?,P.out]
  have x6:w5.cell? ⟨a.heap.size,6,none⟩=some (J Z r.idx):=by simp [World.cell?,P.out]
  have c3:=L.out.c3
  have m7:=L.out.lt
  have m4:a.heap.size<w5.heap.size:=lt_of_block P.out
  have z3:=L.out.fz 3
  obtain ⟨n9,a7⟩:∃ n9,n9=(es++(new++f)).length:=⟨_,rfl⟩
  have f6:Hid (n9=(es++(new++f)).length):=a7
  have j1:Hid (w5.ownsRow base 148 7 K n9 (exC (es++(new++f)))):=by show World.ownsRow _ _ _ _ _ _ _;rw [a7];exact L.out.ex
  have k7:(n9:Int)<5000:=by rw [a7];simp only [List.length_append];omega
  clear a7
  have g7:Hid (n9+1<=maxLen):=by show _<=_;unfold maxLen;omega
  have g6:Hid ((n9+1)*72<=140737488355328):=by show _<=_;omega
  have g5:Hid (∀ o:Obj,base<=(w5.alloc o).drew.heap.size):=fun o=>by have:=L.out.bs;show base<=(w5.alloc o).heap.size;simp;omega
  have c8:Hid (∀ u∈exV ((⟨c,p,d,0,0,l.ims,r.idx⟩:EX),Q x y z),u.oneCell'=true):=fun u hu=>by simp [exV] at hu;rcases hu with rfl | rfl | rfl | rfl | rfl | rfl | rfl<;>first | rfl | exact h7.out
  go_region_law ((refine step_append_lies _ (by rfl) _ _ _ (by rfl) base 148 i0 _ 7 72 Tryz.underlying71 g2 g0 f9 f8 rfl (by decide) K _ _ (by rfl) ((j1.out.alloc _).drew) ⟨w5.heap.size,0,none⟩ 1 1 (exV ((⟨c,p,d,0,0,l.ims,r.idx⟩:EX),Q x y z)) (by rfl) (by rfl) (World.news_of_block (cs:=#[J O c,J Z p,J Z d,J Z 0,J Z 0,Q x y z,J Z r.idx]) (t:=148) (fr:=(0,0)) (heap_alloc_new w5 _)) c8.out (Nat.lt_succ_self 0) g7.out g6.out (g5.out _) (w5.heap.size+1) (by simp) ?_;intro g a4 w9 b0 I d5 k0;obtain ⟨y3,yz⟩:=L.out.grown3 I))
  all_goals
   have h9:Hid (PM (w9.setCell ⟨B,3,none⟩ (Q (some ⟨g,0,none⟩) (n9+1) a4)) base B s (k3) (b3) (Q (some ⟨g,0,none⟩) (n9+1) a4) rv (es++(new++f)++[((⟨c,p,d,0,0,l.ims,r.idx⟩:EX),Q x y z)]) rs):=((L.out.alloc _).drew).pushE f6.out I b0 ((h6.out.alloc _).drew)
   have i3:Hid (Mv base B ev rv (Q (some ⟨g,0,none⟩) (n9+1) a4) rv w (w9.setCell ⟨B,3,none⟩ (Q (some ⟨g,0,none⟩) (n9+1) a4))):=(i6.out.trans (Mv.alloc L.out.bs _)).drew.trans (((L.out.alloc _).drew).pushMv I d5 (by show (w5.alloc _).heap.size<=_;simp))
   clear b0 I d5
   go_wp2_with fail
   go_ret
   exact ⟨by rw [<- hR.out];show _=Ending.returned (J Z ((es.length+l.es.length+r.es.length:Nat):Int));rw [<- b6.out,<- b4.out,Nat.add_assoc,<- List.length_append,<- List.length_append,<- f6.out];rfl,_,(new++f)++[((⟨c,p,d,0,0,l.ims,r.idx⟩:EX),Q x y z)],by rw [<- hR.out];rw [List.map_append,f5.out];rfl,by rw [<- hR.out,<- List.append_assoc];exact h9.out,i3.out,fun q hq g hg=>by
    rcases List.mem_append.1 hq with hq | hq
    ·exact f7.out q hq g hg
    ·simp at hq;subst hq;exact h5.out g hg⟩
end
section
attribute [local go_sem] zV zH
theorem j4 (c:Int) (base B:Nat) (s:ByteArray) (d:Int) (k:Nat) (b:Bool) (ev rv:Value) (es:List (EX×Value)) (rs:List RL) (w:World) (hs:s.size<=2000) (hk:k<=s.size) (hc:ze s (zb s k b) b=c) (hcc:isK c=false) (h:PM w base B s k b ev rv es rs) :
 Calls Tryz.prog 125 #[.pointer (some ⟨B,0,none⟩),J Z d] w fun e w' =>
  e=.returned (J Z (-1))/\PM w' base B s (zb s k b) true ev rv es rs/\Mv base B ev rv ev rv w w':=by
 have H:Hid (PM w base B s k b ev rv es rs):=h
 clear h
 go_enter Tryz.func125,Tryz.ntmps125
 go_wp2_with fail
 refine (yj base B s k b ev rv es rs _ hs hk H.out).mono ?_
 rintro e a ⟨rfl,j,A⟩
 have l:=fun (wz:World) (hz:PM wz base B s (zb s k b) b ev rv es rs)=>xw base B s (zb s k b) b ev rv es rs wz hz
 rw [hc] at l
 have r:=Yu s (zb s k b) b
 rw [hc] at r
 clear hc
 generalize hpe:zb s k b=p at *
 have x:Hid (zb s k b=p):=hpe
 clear hpe
 have f:Hid (PM a base B s p b ev rv es rs):=j
 have z:Hid (Mv base B ev rv ev rv w a):=A
 have c1:=j.c1
 have i:=j.outNew
 have n:=j.bs
 have u:a.heap.size≠B:=i.1
 have F:B≠a.heap.size:=fun e=>i.1 e.symm
 have E:=j.lt
 clear j A
 have o:=fun w=>xD c p d w
 go_wp2_with fail
 go_region_held3 (fun w'=>w'.cell? ⟨B,1,none⟩=some (J Z p)) (first | (exact c1) | (exact zB c1 _) | (exact zt u (zB c1 _) _ _) | go_keep) (first | (go_at_call 127;refine (l _ (by first | exact f.out.drew | exact f.out.drew.alloc _ | exact f.out.alloc _ | exact f.out)).mono ?_;rintro e w' ⟨rfl,q,rfl⟩))
 all_goals
  have g:Hid (PM ((a.alloc (X #[J O c,J Z p,J Z d,J Z 0,J Z 0,Q none 0 0,J Z (-1)] 148)).drewN (1+q)) base B s p b ev rv es rs):=(f.out.alloc _).drewN _
  have y:Hid (Mv base B ev rv ev rv w ((a.alloc (X #[J O c,J Z p,J Z d,J Z 0,J Z 0,Q none 0 0,J Z (-1)] 148)).drewN (1+q))):=(z.out.trans (Mv.alloc n _)).drewN _
  have v:Hid (((a.alloc (X #[J O c,J Z p,J Z d,J Z 0,J Z 0,Q none 0 0,J Z (-1)] 148)).drewN (1+q)).heap[a.heap.size]?=some (X #[J O c,J Z p,J Z d,J Z 0,J Z 0,Q none 0 0,J Z (-1)] 148 (0,0))):=heap_alloc_new a _
  generalize (a.alloc (X #[J O c,J Z p,J Z d,J Z 0,J Z 0,Q none 0 0,J Z (-1)] 148)).drewN (1+q)=w2 at *
  clear c1 o
  have c2:=g.out.c2
  have G:=g.out.fz 2
  have I:w2.cell? ⟨a.heap.size,0,none⟩=some (J O c):=by simp [World.cell?,v.out]
  have m:=fun w=>ZG c w
  rw [hcc] at m
  go_wp2_with fail
  refine (m _).mono ?_
  rintro e C ⟨D,rfl⟩
  subst C
  go_wp2_with fail
  go_ret
  exact ⟨rfl,by rw [x.out];exact g.out.bad true,y.out.trans (g.out.setMv 2 _)⟩
theorem zez (s:ByteArray) (rs:List RL) (base B:Nat) (hs:s.size<=2000) (hrl:rs.length<=2000) (n:Nat):Y9 (cE s rs n) s base B rs n:=by
 induction n with
 | zero =>
  intro d k b a g f w i p o l r h
  have v:b=true:=by
   rcases r with h | h
   ·exact h
   ·omega
  subst v
  refine (j4 0 base B s d k true a g f rs w hs i (Yv _ _) rfl h).mono ?_
  rintro e y ⟨rfl,q,u⟩
  exact ⟨rfl,a,[],rfl,by rw [List.append_nil];exact q,u,by simp⟩
 | succ n ih =>
  intro d k b a g f w i p o l r h
  cases hcc:isK (ze s (zb s k b) b) with
  | false =>
   refine (j4 _ base B s d k b a g f rs w hs i rfl hcc h).mono ?_
   rintro e y ⟨rfl,q,u⟩
   rw [Ja n d f.length k b hcc]
   exact ⟨rfl,a,[],rfl,by rw [List.append_nil];exact q,u,by simp⟩
  | true =>
   have v:b=false:=(Zh hcc).1
   have j:s.size-k<n+1:=by
    rcases r with h | h
    ·rw [v] at h;cases h
    ·exact h
   obtain ⟨c,m⟩:∃ c,ze s (zb s k b) b=c:=⟨_,rfl⟩
   rw [m] at hcc
   have x:c=123\/c=116\/c=64\/c=61\/(c=119\/c=102\/c=109\/c=103):=by
    simp [isK] at hcc
    omega
   rcases x with rfl | rfl | rfl | rfl | x
   ·exact Qm n base B s d k b a g f rs w ih j hs i p o l hrl m h _ rfl
   ·exact zbC n base B s d k b a g f rs w ih j hs i p o l hrl m h _ rfl
   ·exact j5 n base B s d k b a g f rs w hs i p o l hrl m h _ rfl
   ·exact JV n base B s d k b a g f rs w hs i p o l hrl m h _ rfl
   ·exact JW c n base B s d k b a g f rs w ih j hs i p o l hrl m x h _ rfl
end
section
theorem Tryz.infoRule:(Tryz.prog.info? 143).map (fun i=>(i.zero,i.size,i.bytes))=some (some (.agg #[J Z 0,J Z 0,J Z 0]),3,24):=by kernel_rfl
theorem zeL (a b e:Int) (w:World):(Instr.build 143 #[(0,.agg #[J Z a,J Z b]),(1,J Z e)]).run Tryz.prog w=.ok (.agg #[J Z a,J Z b,J Z e]) w:=run_build w 143 _ _ (by kernel_rfl)
structure CU where
 rl:RL
 es:List EX
 k:Nat
 b:Bool
def zC (s:ByteArray) (rs:List RL) (m k:Nat) (b:Bool):CU :=
 let r:=cE s rs (s.size+1) 0 m (zc s 58 (zQ s k b) (zX s k b)) (zj s 58 (zQ s k b) (zX s k b))
 ⟨⟨ze s (zb s k b) b,zb s k b,r.idx⟩,r.es,r.k,r.b⟩
theorem Ya (s:ByteArray) (rs:List RL) (m k:Nat) (b:Bool) (hk:k<=s.size):k<=(zC s rs m k b).k/\(zC s rs m k b).k<=s.size/\(zC s rs m k b).es.length+k<=(zC s rs m k b).k:=by
 have e:=Yg s k b
 have d:=zi s 58 (zQ s k b) (zX s k b)
 have a:=yK s rs (s.size+1) 0 m (zc s 58 (zQ s k b) (zX s k b)) (zj s 58 (zQ s k b) (zX s k b)) (zs (by decide) (xr hk))
 simp only [zC]
 omega
theorem PM.pushR {w w4:World} {base B s k b ev rv es rs} (h:PM w base B s k b ev rv es rs) {r:RL} {n g cap:Nat} (hn:n=rs.length) (hg:w.grownBy w4 rv.ownBlock) (hown:w4.ownsRow base 143 3 (Q (some ⟨g,0,none⟩) (n+1) cap) (n+1) (rlC rs++rlV r)) :
 PM (w4.setCell ⟨B,4,none⟩ (Q (some ⟨g,0,none⟩) (n+1) cap)) base B s k b ev (Q (some ⟨g,0,none⟩) (n+1) cap) es (rs++[r]):=by
 subst hn
 have a:w4.heap[B]?=some (X #[.string s,J Z k,.bool b,ev,rv] 104 (0,0)):=(hg.block B h.lt (fun e=>zk h.rl h.blk (by decide) e.symm)).trans h.blk
 have d:w4.ownsRow base 148 7 ev es.length (exC es):=h.ex.kept hg (zY h.ex h.rl (by decide))
 have f:∀ (q:Value) (n:Nat) (xs:List Value),w.ownsRow base 155 7 q n xs->w4.ownsRow base 155 7 q n xs:=fun q n xs hq=>hq.kept hg (zY hq h.rl (by decide))
 have j:rlC (rs++[r])=rlC rs++rlV r:=by simp [rlC]
 have i:(rs++[r]).length=rs.length+1:=by simp
 refine ⟨Yz a,ownsRow_setCell_other d (zk d a (by decide)) _,?_,fun p hp=>?_,h.hB⟩
 ·rw [j,i];exact ownsRow_setCell_other hown (zk hown a (by decide)) _
 ·have:=f _ _ _ (h.it p hp)
  exact ownsRow_setCell_other this (zk this a (by decide)) _
theorem PM.pushRMv {w w4:World} {base B s k b ev rv es rs} (h:PM w base B s k b ev rv es rs) {g n cap H:Nat} (hg:w.grownBy w4 rv.ownBlock) (hat:rv.ownBlock=some g\/g=H) (hH:w.heap.size<=H) :
 Mv base B ev rv ev (Q (some ⟨g,0,none⟩) n cap) w (w4.setCell ⟨B,4,none⟩ (Q (some ⟨g,0,none⟩) n cap)):=by
 refine ⟨((Below.refl _ _).grown hg h.bs (fun q hq=>(h.rl.lt q hq).1)).setCell h.hB _,fun x hx ho=>⟨?_,ho.1,ho.2.1,?_⟩⟩
 ·rw [za ho.1]
  exact hg.block x hx (fun e=>ho.2.2 e.symm)
 ·intro e
  simp [Value.ownBlock] at e
  subst e
  rcases hat with e | e
  ·exact ho.2.2 e
  ·omega
theorem PM.grown4 {w w9:World} {base B s k b ev rv es rs} (h:PM w base B s k b ev rv es rs) {o:Obj} (hg:((w.alloc o).drew).grownBy w9 rv.ownBlock):w9.cell? ⟨B,4,none⟩=some rv/\w9.frozen? ⟨B,4,none⟩=false:=by
 have a:=(h.alloc o).drew
 have d:=(hg.block B a.lt (fun e=>zk a.rl a.blk (by decide) e.symm)).trans a.blk
 exact ⟨by simp [World.cell?,d],by simp [World.frozen?,d]⟩
attribute [local go_sem] zV zH
theorem zcg (base B:Nat) (s:ByteArray) (k:Nat) (b:Bool) (ev rv:Value) (es:List (EX×Value)) (rs:List RL) (w:World) (hs:s.size<=2000) (hk:k<=s.size) (hl:es.length<=k) (hrl:rs.length<=2000) (h:PM w base B s k b ev rv es rs) (R:CU) (hR:Hid (zC s rs es.length k b=R)) :
 Calls Tryz.prog 86 #[.pointer (some ⟨B,0,none⟩)] w fun e w' =>
  e=.returned (.tuple #[])/\∃ ev' rv' new,new.map Prod.fst=R.es/\PM w' base B s R.k R.b ev' rv' (es++new) (rs++[R.rl])/\Mv base B ev rv ev' rv' w w':=by
 obtain ⟨i0,P,O,N,L⟩:=info_parts Tryz.infoRule
 have H:Hid _:=h
 clear h
 unfold zC at hR
 go_enter Tryz.func86,Tryz.ntmps86
 go_wp2_with fail
 refine (qR base B s k b ev rv es rs _ hs hk H.out).mono ?_
 rintro e p ⟨rfl,l,j⟩
 have A:Hid _:=l
 have a9:Hid _:=j
 have b8:=Yg s k b
 have F:=xr (b:=b) hk
 clear l j
 generalize hk1:zQ s k b=k1 at *
 generalize hq1:zX s k b=b1 at *
 generalize hna:zb s k b=na at *
 generalize hnv:ze s na b=nv at *
 have b7:=zi s 58 k1 b1
 have E:zc s 58 k1 b1<=s.size:=zs (by decide) F
 generalize hk2:zc s 58 k1 b1=k2 at *
 generalize hq2:zj s 58 k1 b1=b2 at *
 have b4:=yK s rs (s.size+1) 0 es.length k2 b2 E
 have U:=zez s rs base B hs hrl (s.size+1) 0 k2 b2 ev rv es
 generalize hr:cE s rs (s.size+1) 0 es.length k2 b2=r at *
 have q:=A.out.outNew
 have D:=A.out.bs
 have a2:Hid (PM (p.alloc (X #[J Z nv,J Z na] 141)) base B s k1 b1 ev rv es rs):=A.out.alloc _
 have a8:Hid (Mv base B ev rv ev rv w (p.alloc (X #[J Z nv,J Z na] 141))):=a9.out.trans (Mv.alloc D _)
 have K:Hid ((p.alloc (X #[J Z nv,J Z na] 141)).heap[p.heap.size]?=some (X #[J Z nv,J Z na] 141 (0,0))):=heap_alloc_new p _
 go_wp2_with fail
 refine (yM base B s 58 k1 b1 ev rv es rs _ hs F (by decide) a2.out).mono ?_
 rintro e w3 ⟨rfl,l,j⟩
 rw [hk2,hq2] at l
 have a1:Hid _:=l
 have a7:Hid _:=a8.out.trans j
 have I:Hid _:=(j.kept _ (lt_of_block K.out) q).1.trans K.out
 clear l j
 go_wp2_with fail
 refine (U w3 E (by omega) (by omega) (by omega) (.inr (by omega)) a1.out).mono ?_
 rintro e f ⟨rfl,y,new,x,l,j,S⟩
 have d:Hid _:=l
 have a6:Hid _:=a7.out.trans j
 have z:Hid _:=(j.kept _ (lt_of_block I.out) q).1.trans I.out
 have a3:Hid _:=x
 clear l j S x
 have x0:f.cell? ⟨p.heap.size,0,none⟩=some (J Z nv):=by simp [World.cell?,z.out]
 have x1:f.cell? ⟨p.heap.size,1,none⟩=some (J Z na):=by simp [World.cell?,z.out]
 have c4:=d.out.c4
 have c5:=d.out.lt
 have b9:p.heap.size<f.heap.size:=lt_of_block z.out
 have z4:=d.out.fz 4
 have b6:=fun w=>zeL nv na r.idx w
 obtain ⟨i,m⟩:∃ i,i=rs.length:=⟨_,rfl⟩
 have a4:Hid _:=m
 have b0:Hid (f.ownsRow base 143 3 rv i (rlC rs)):=by show World.ownsRow _ _ _ _ _ _ _;rw [m];exact d.out.rl
 have b5:(i:Int)<5000:=by rw [m];omega
 clear m
 have Y:Hid (i+1<=maxLen):=by show _<=_;unfold maxLen;omega
 have W:Hid ((i+1)*24<=140737488355328):=by show _<=_;omega
 have V:Hid (∀ o:Obj,base<=(f.alloc o).drew.heap.size):=fun o=>by have:=d.out.bs;show base<=(f.alloc o).heap.size;simp;omega
 have C:Hid (∀ u∈rlV ⟨nv,na,r.idx⟩,u.oneCell'=true):=fun u hu=>by simp [rlV] at hu;rcases hu with rfl | rfl | rfl<;>rfl
 go_wp2_with fail
 go_region_law ((refine step_append_lies _ (by rfl) _ _ _ (by rfl) base 143 i0 _ 3 24 Tryz.underlying72 P O N L rfl (by decide) rv _ _ (by rfl) ((b0.out.alloc _).drew) ⟨f.heap.size,0,none⟩ 1 1 (rlV ⟨nv,na,r.idx⟩) (by rfl) (by rfl) (World.news_of_block (cs:=#[J Z nv,J Z na,J Z r.idx]) (t:=143) (fr:=(0,0)) (heap_alloc_new f _)) C.out (Nat.lt_succ_self 0) Y.out W.out (V.out _) (f.heap.size+1) (by simp) ?_;intro g n w9 v a G b3;obtain ⟨y3,yz⟩:=d.out.grown4 a))
 all_goals
  have a0:Hid (PM (w9.setCell ⟨B,4,none⟩ (Q (some ⟨g,0,none⟩) (i+1) n)) base B s r.k r.b y (Q (some ⟨g,0,none⟩) (i+1) n) (es++new) (rs++[⟨nv,na,r.idx⟩])):=((d.out.alloc _).drew).pushR a4.out a v
  have a5:Hid (Mv base B ev rv y (Q (some ⟨g,0,none⟩) (i+1) n) w (w9.setCell ⟨B,4,none⟩ (Q (some ⟨g,0,none⟩) (i+1) n))):=(a6.out.trans (Mv.alloc d.out.bs _)).drew.trans (((d.out.alloc _).drew).pushRMv a G (by show (f.alloc _).heap.size<=_;simp))
  clear v a G
  go_wp2_with fail
  go_end0
  exact ⟨rfl,y,_,new,by rw [<- hR.out];exact a3.out,by rw [<- hR.out];exact a0.out,a5.out⟩
end
end Go.Proofs.YtaebngpoagjafabGreat
