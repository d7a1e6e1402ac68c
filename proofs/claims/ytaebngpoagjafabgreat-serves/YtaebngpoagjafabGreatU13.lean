import Derived.Test.YtaebngpoagjafabGreatU06
set_option maxRecDepth 100000
set_option maxHeartbeats 6400000
namespace Go.Proofs.YtaebngpoagjafabGreat
open Obj renaming cells → Q
open Value renaming int → J, slice → O
open IntKind renaming i64 → Z
open Go.RowKit
attribute [local go_sem ↓] Go.wp_at_zero Go.wp_at_succ
theorem zby (base B:Nat) (s:ByteArray) (k p:Nat) (f:FR) (sv gv:Value) (fs:List FR) (gs:List SG) (w:World) (h:RS w base B s k sv gv fs gs) (hs:s.size<=2000) (hk:k<=s.size) (hpe:T.sk s k=p) (hc:T.ch s p=119)
 (hlen:fs.length+7<=1099511627776) (hlen2:gs.length+1<=1099511627776) (d0:0<=f.depth) (d1:f.depth<=1000000) :
 Calls Tryz.prog 163 #[.pointer (some ⟨B,0,none⟩),frA f] w fun e w'=>e=.returned (.bool true)/\∃ sv' gv',RS w' base B s p sv' gv' ([byF 119,byF 40,⟨259,10,f.depth,p⟩,⟨260,10,f.depth,p⟩,byF 124,⟨258,0,f.depth+1,0⟩,byF 41]++fs) (⟨3,p,f.depth,-1,ByteArray.empty⟩::gs)/\Mv base B sv gv sv' gv' w w':=by
 have l:=fun (b:World) (hz:RS b base B s k sv gv fs gs)=>zG base B s k sv gv fs gs b hs hk hz
 rw [hpe,hc] at l
 have b7:Hid (∀ (b:World),RS b base B s k sv gv fs gs->Calls Tryz.prog 135 #[.pointer (some ⟨B,0,none⟩)] b fun e w'=>e=.returned (J Z (119))/\RS w' base B s p sv gv fs gs/\Mv base B sv gv sv gv b w'):=l
 clear hpe l hk hc
 obtain ⟨i0,b0,a9,a8,a7⟩:=info_parts Tryz.infoSign
 have c8:=fun w=>ZO 258 (f.depth+1) w
 have c7:=fun w=>ZQ f.depth p w
 unfold frA
 go_enter Tryz.func163,Tryz.ntmps163
 go_wp2_with fail
 have hA:=h.alloc (Q #[J Z f.sym,J Z f.kind,J Z f.depth,J Z f.list] 193)
 have hF:FB (w.alloc (Q #[J Z f.sym,J Z f.kind,J Z f.depth,J Z f.list] 193)) w.heap.size f:=⟨by simp,by simp,by simp,by simp⟩
 have K:=h.outNew
 have z:w.heap.size<(w.alloc (Q #[J Z f.sym,J Z f.kind,J Z f.depth,J Z f.list] 193)).heap.size:=by simp
 have U:Mv base B sv gv sv gv w (w.alloc (Q #[J Z f.sym,J Z f.kind,J Z f.depth,J Z f.list] 193)):=Mv.alloc h.bs _
 refine (b7.out _ hA).mono ?_
 rintro e a ⟨rfl,A,r⟩
 have V:=r.kept w.heap.size z K
 have E:=hF.of_block V.1
 have I:w.heap.size<a.heap.size:=Nat.lt_of_lt_of_le z r.bel.size
 have a0:Hid (Mv base B sv gv sv gv w a):=U.trans r
 have i:Hid (RS a base B s p sv gv fs gs):=A
 have a2:Hid (FB a w.heap.size f):=E
 have c1:=A.c1
 have b2:=E.c2
 clear U r hA hF z A V h E
 go_wp2_with fail
 refine (yC _ _ _ _).mono ?_
 rintro e w' ⟨rfl,c6⟩
 subst w'
 have G:Hid (RS ((a.alloc (xF f.depth)).alloc (xL 10 f.depth p)) base B s p sv gv fs gs):=(i.out.alloc _).alloc _
 have Y:Hid (Mv base B sv gv sv gv w ((a.alloc (xF f.depth)).alloc (xL 10 f.depth p))):=(a0.out.trans (Mv.alloc i.out.bs _)).trans (Mv.alloc (i.out.alloc _).bs _)
 have a1:Hid (FB ((a.alloc (xF f.depth)).alloc (xL 10 f.depth p)) w.heap.size f):=a2.out.of_block (by rw [Below.heap_alloc _ _ _ (by simp;omega),Below.heap_alloc _ _ _ I])
 have F:Hid (XK a.heap.size 10 f.depth p ((a.alloc (xF f.depth)).alloc (xL 10 f.depth p))):=YW a 10 f.depth p
 obtain ⟨l0,l1,l2,l3,l4,l5,l6,l7,a6,a5,a4,a3⟩:=F.out
 have c5:a.heap.size+1<((a.alloc (xF f.depth)).alloc (xL 10 f.depth p)).heap.size:=by simp
 go_wp2_with fail
 generalize (a.alloc (xF f.depth)).alloc (xL 10 f.depth p)=w3 at *
 have N:Out B sv gv (a.heap.size+1):=⟨fun e=>by have:=i.out.lt;omega,fun e=>by have:=(i.out.st.lt _ e).2;omega,fun e=>by have:=(i.out.sg.lt _ e).2;omega⟩
 have P:Out B sv gv a.heap.size:=i.out.outNew
 have m:Hid (∀ (b w':World) (sv' gv':Value),Below w3.heap.size w3 b->Mv base B sv gv sv' gv' b w'->XK a.heap.size 10 f.depth p w'):=by
  intro b w' sv' gv' C H
  have eL:w'.heap[a.heap.size+1]?=w3.heap[a.heap.size+1]?:=by
   have v:a.heap.size+1<b.heap.size:=by have:=C.size;omega
   rw [(H.kept _ v N).1,C.block _ (by omega)]
  have eI:w'.heap[a.heap.size]?=w3.heap[a.heap.size]?:=by
   have v:a.heap.size<b.heap.size:=by have:=C.size;omega
   rw [(H.kept _ v P).1,C.block _ (by omega)]
  exact Yc F.out eL eI
 have j:Hid (∀ (b:World),Below w3.heap.size w3 b->XK a.heap.size 10 f.depth p b):=by
  intro b C
  exact Yc F.out (C.block _ (by omega)) (C.block _ (by omega))
 have S:w3.heap.size≠a.heap.size+1:=by omega
 have R:w3.heap.size≠a.heap.size:=by omega
 clear c1 b2
 go_region_held3 (fun w'=>XK a.heap.size 10 f.depth p w') (first | (refine j.out _ ?_;(repeat (first | exact Below.refl _ _ | refine Below.drew ?_ | refine Below.alloc ?_ (by simp<;>omega) _));done) | (refine m.out _ _ _ _ ?_ H;(repeat (first | exact Below.refl _ _ | refine Below.drew ?_ | refine Below.alloc ?_ (by simp<;>omega) _));done)) (first | (go_at_call 162;refine (zD _ _ (by omega) (by omega)).mono ?_;rintro e w' ⟨rfl,rfl⟩) | (go_at_call 162;rw [show IntKind.u8.wrap 119=119 from by decide];refine (zD _ _ (by omega) (by omega)).mono ?_;rintro e w' ⟨rfl,rfl⟩) | (go_at_call 133;refine (yJ base B _ _ s p sv gv fs [byF 119,byF 40,⟨259,10,f.depth,p⟩,⟨260,10,f.depth,p⟩,byF 124,⟨258,0,f.depth+1,0⟩,byF 41] gs _ _ ((((G.out.alloc _).alloc _).alloc _).alloc _) (by simp) (by rfl) (by simp;omega) _ rfl).mono ?_;rintro e w' ⟨rfl,sv',hr,H⟩))
 have d:Hid (RS w' base B s p sv' gv ([byF 119,byF 40,⟨259,10,f.depth,p⟩,⟨260,10,f.depth,p⟩,byF 124,⟨258,0,f.depth+1,0⟩,byF 41]++fs) gs):=hr
 obtain ⟨b,n,q⟩:∃ b,Below w3.heap.size w3 b/\Mv base B sv gv sv' gv b w':=⟨_,by repeat (first | exact Below.refl _ _ | refine Below.drew ?_ | refine Below.alloc ?_ (by simp<;>omega) _),H⟩
 have b8:Hid (Mv base B sv gv sv' gv w w'):=(Y.out.trans (Mv.of_below n G.out.bs)).trans q
 have b9:w.heap.size<w'.heap.size:=by have h1:=n.size;have h2:=q.bel.size;omega
 have X:FB w' w.heap.size f:=a1.out.of_block (by
  have h1:w.heap.size<w3.heap.size:=by omega
  rw [(q.kept _ (Nat.lt_of_lt_of_le h1 n.size) K).1,n.block _ h1])
 have b2:=X.c2
 have c3:=d.out.c3
 have z3:=d.out.fz 3
 have c9:=d.out.lt
 have zf:∀ o,(w'.alloc o).frozen? ⟨B,3,none⟩=false:=fun o=>(d.out.alloc o).fz 3
 have b4:Hid (gs.length+1<=maxLen):=by show _<=_;unfold maxLen;omega
 have b3:Hid ((gs.length+1)*48<=140737488355328):=by show _<=_;omega
 have L:Hid (∀ u∈sgV ⟨3,p,f.depth,-1,ByteArray.empty⟩,u.oneCell'=true):=fun u hu=>by simp [sgV] at hu;rcases hu with rfl | rfl | rfl | rfl | rfl<;>rfl
 have b1:Hid (∀ o:Obj,base<=(w'.alloc o).drew.heap.size):=fun o=>by have:=d.out.bs;show base<=(w'.alloc o).heap.size;simp;omega
 clear hr H n q X m j S R N P a6 a5 a4 a3 l0 l1 l2 l3 l4 l5 l6 l7 G Y a1 a2 a0
 go_wp2_with fail
 go_region_law ((refine step_append_lies _ (by rfl) _ _ _ (by rfl) base 162 i0 _ 5 48 Tryz.underlying157 b0 a9 a8 a7 rfl (by decide) gv _ _ (by rfl) ((d.out.sg.alloc _).drew) ⟨w'.heap.size,0,none⟩ 1 1 (sgV ⟨3,p,f.depth,-1,ByteArray.empty⟩) (by rfl) (by rfl) (World.news_of_block (cs:=#[J Z 3,J Z p,J Z f.depth,J Z (-1),.string ByteArray.empty]) (t:=162) (fr:=(0,0)) (heap_alloc_new w' _)) L.out (Nat.lt_succ_self 0) b4.out b3.out (b1.out _) (w'.heap.size+1) (by simp) ?_;intro gg x w5 y g W v;obtain ⟨y0,y1,y3,yz,_⟩:=d.out.grown3 g))
 all_goals
  have D:=d.out.signed rfl y g W
  have b6:Hid (RS (w5.setCell ⟨B,3,none⟩ (O (some ⟨gg,0,none⟩) (gs.length+1) x)) base B s p sv' (O (some ⟨gg,0,none⟩) (gs.length+1) x) ([byF 119,byF 40,⟨259,10,f.depth,p⟩,⟨260,10,f.depth,p⟩,byF 124,⟨258,0,f.depth+1,0⟩,byF 41]++fs) (⟨3,p,f.depth,-1,ByteArray.empty⟩::gs)):=D.1
  have b5:Hid (Mv base B sv' gv sv' (O (some ⟨gg,0,none⟩) (gs.length+1) x) w' (w5.setCell ⟨B,3,none⟩ (O (some ⟨gg,0,none⟩) (gs.length+1) x))):=D.2
  clear D y g W y0 y1 y3 yz
  go_wp2_with fail
  go_ret
  exact ⟨rfl,sv',_,b6.out,b8.out.trans b5.out⟩
theorem JS (base B:Nat) (s:ByteArray) (k p:Nat) (f:FR) (sv gv:Value) (fs:List FR) (gs:List SG) (w:World) (h:RS w base B s k sv gv fs gs) (hs:s.size<=2000) (hk:k<=s.size) (hpe:T.sk s k=p) (hc:T.ch s p=102)
 (hlen:fs.length+7<=1099511627776) (hlen2:gs.length+1<=1099511627776) (d0:0<=f.depth) (d1:f.depth<=1000000) :
 Calls Tryz.prog 163 #[.pointer (some ⟨B,0,none⟩),frA f] w fun e w'=>e=.returned (.bool true)/\∃ sv' gv',RS w' base B s p sv' gv' ([byF 102,byF 40,⟨259,4,f.depth,p⟩,⟨260,4,f.depth,p⟩,byF 124,⟨258,0,f.depth+1,0⟩,byF 41]++fs) (⟨3,p,f.depth,-1,ByteArray.empty⟩::gs)/\Mv base B sv gv sv' gv' w w':=by
 have l:=fun (b:World) (hz:RS b base B s k sv gv fs gs)=>zG base B s k sv gv fs gs b hs hk hz
 rw [hpe,hc] at l
 have b7:Hid (∀ (b:World),RS b base B s k sv gv fs gs->Calls Tryz.prog 135 #[.pointer (some ⟨B,0,none⟩)] b fun e w'=>e=.returned (J Z (102))/\RS w' base B s p sv gv fs gs/\Mv base B sv gv sv gv b w'):=l
 clear hpe l hk hc
 obtain ⟨i0,b0,a9,a8,a7⟩:=info_parts Tryz.infoSign
 have c8:=fun w=>ZO 258 (f.depth+1) w
 have c7:=fun w=>ZQ f.depth p w
 unfold frA
 go_enter Tryz.func163,Tryz.ntmps163
 go_wp2_with fail
 have hA:=h.alloc (Q #[J Z f.sym,J Z f.kind,J Z f.depth,J Z f.list] 193)
 have hF:FB (w.alloc (Q #[J Z f.sym,J Z f.kind,J Z f.depth,J Z f.list] 193)) w.heap.size f:=⟨by simp,by simp,by simp,by simp⟩
 have K:=h.outNew
 have z:w.heap.size<(w.alloc (Q #[J Z f.sym,J Z f.kind,J Z f.depth,J Z f.list] 193)).heap.size:=by simp
 have U:Mv base B sv gv sv gv w (w.alloc (Q #[J Z f.sym,J Z f.kind,J Z f.depth,J Z f.list] 193)):=Mv.alloc h.bs _
 refine (b7.out _ hA).mono ?_
 rintro e a ⟨rfl,A,r⟩
 have V:=r.kept w.heap.size z K
 have E:=hF.of_block V.1
 have I:w.heap.size<a.heap.size:=Nat.lt_of_lt_of_le z r.bel.size
 have a0:Hid (Mv base B sv gv sv gv w a):=U.trans r
 have i:Hid (RS a base B s p sv gv fs gs):=A
 have a2:Hid (FB a w.heap.size f):=E
 have c1:=A.c1
 have b2:=E.c2
 clear U r hA hF z A V h E
 go_wp2_with fail
 refine (yC _ _ _ _).mono ?_
 rintro e w' ⟨rfl,c6⟩
 subst w'
 have G:Hid (RS ((a.alloc (xF f.depth)).alloc (xL 4 f.depth p)) base B s p sv gv fs gs):=(i.out.alloc _).alloc _
 have Y:Hid (Mv base B sv gv sv gv w ((a.alloc (xF f.depth)).alloc (xL 4 f.depth p))):=(a0.out.trans (Mv.alloc i.out.bs _)).trans (Mv.alloc (i.out.alloc _).bs _)
 have a1:Hid (FB ((a.alloc (xF f.depth)).alloc (xL 4 f.depth p)) w.heap.size f):=a2.out.of_block (by rw [Below.heap_alloc _ _ _ (by simp;omega),Below.heap_alloc _ _ _ I])
 have F:Hid (XK a.heap.size 4 f.depth p ((a.alloc (xF f.depth)).alloc (xL 4 f.depth p))):=YW a 4 f.depth p
 obtain ⟨l0,l1,l2,l3,l4,l5,l6,l7,a6,a5,a4,a3⟩:=F.out
 have c5:a.heap.size+1<((a.alloc (xF f.depth)).alloc (xL 4 f.depth p)).heap.size:=by simp
 go_wp2_with fail
 generalize (a.alloc (xF f.depth)).alloc (xL 4 f.depth p)=w3 at *
 have N:Out B sv gv (a.heap.size+1):=⟨fun e=>by have:=i.out.lt;omega,fun e=>by have:=(i.out.st.lt _ e).2;omega,fun e=>by have:=(i.out.sg.lt _ e).2;omega⟩
 have P:Out B sv gv a.heap.size:=i.out.outNew
 have m:Hid (∀ (b w':World) (sv' gv':Value),Below w3.heap.size w3 b->Mv base B sv gv sv' gv' b w'->XK a.heap.size 4 f.depth p w'):=by
  intro b w' sv' gv' C H
  have eL:w'.heap[a.heap.size+1]?=w3.heap[a.heap.size+1]?:=by
   have v:a.heap.size+1<b.heap.size:=by have:=C.size;omega
   rw [(H.kept _ v N).1,C.block _ (by omega)]
  have eI:w'.heap[a.heap.size]?=w3.heap[a.heap.size]?:=by
   have v:a.heap.size<b.heap.size:=by have:=C.size;omega
   rw [(H.kept _ v P).1,C.block _ (by omega)]
  exact Yc F.out eL eI
 have j:Hid (∀ (b:World),Below w3.heap.size w3 b->XK a.heap.size 4 f.depth p b):=by
  intro b C
  exact Yc F.out (C.block _ (by omega)) (C.block _ (by omega))
 have S:w3.heap.size≠a.heap.size+1:=by omega
 have R:w3.heap.size≠a.heap.size:=by omega
 clear c1 b2
 go_region_held3 (fun w'=>XK a.heap.size 4 f.depth p w') (first | (refine j.out _ ?_;(repeat (first | exact Below.refl _ _ | refine Below.drew ?_ | refine Below.alloc ?_ (by simp<;>omega) _));done) | (refine m.out _ _ _ _ ?_ H;(repeat (first | exact Below.refl _ _ | refine Below.drew ?_ | refine Below.alloc ?_ (by simp<;>omega) _));done)) (first | (go_at_call 162;refine (zD _ _ (by omega) (by omega)).mono ?_;rintro e w' ⟨rfl,rfl⟩) | (go_at_call 162;rw [show IntKind.u8.wrap 102=102 from by decide];refine (zD _ _ (by omega) (by omega)).mono ?_;rintro e w' ⟨rfl,rfl⟩) | (go_at_call 133;refine (yJ base B _ _ s p sv gv fs [byF 102,byF 40,⟨259,4,f.depth,p⟩,⟨260,4,f.depth,p⟩,byF 124,⟨258,0,f.depth+1,0⟩,byF 41] gs _ _ ((((G.out.alloc _).alloc _).alloc _).alloc _) (by simp) (by rfl) (by simp;omega) _ rfl).mono ?_;rintro e w' ⟨rfl,sv',hr,H⟩))
 have d:Hid (RS w' base B s p sv' gv ([byF 102,byF 40,⟨259,4,f.depth,p⟩,⟨260,4,f.depth,p⟩,byF 124,⟨258,0,f.depth+1,0⟩,byF 41]++fs) gs):=hr
 obtain ⟨b,n,q⟩:∃ b,Below w3.heap.size w3 b/\Mv base B sv gv sv' gv b w':=⟨_,by repeat (first | exact Below.refl _ _ | refine Below.drew ?_ | refine Below.alloc ?_ (by simp<;>omega) _),H⟩
 have b8:Hid (Mv base B sv gv sv' gv w w'):=(Y.out.trans (Mv.of_below n G.out.bs)).trans q
 have b9:w.heap.size<w'.heap.size:=by have h1:=n.size;have h2:=q.bel.size;omega
 have X:FB w' w.heap.size f:=a1.out.of_block (by
  have h1:w.heap.size<w3.heap.size:=by omega
  rw [(q.kept _ (Nat.lt_of_lt_of_le h1 n.size) K).1,n.block _ h1])
 have b2:=X.c2
 have c3:=d.out.c3
 have z3:=d.out.fz 3
 have c9:=d.out.lt
 have zf:∀ o,(w'.alloc o).frozen? ⟨B,3,none⟩=false:=fun o=>(d.out.alloc o).fz 3
 have b4:Hid (gs.length+1<=maxLen):=by show _<=_;unfold maxLen;omega
 have b3:Hid ((gs.length+1)*48<=140737488355328):=by show _<=_;omega
 have L:Hid (∀ u∈sgV ⟨3,p,f.depth,-1,ByteArray.empty⟩,u.oneCell'=true):=fun u hu=>by simp [sgV] at hu;rcases hu with rfl | rfl | rfl | rfl | rfl<;>rfl
 have b1:Hid (∀ o:Obj,base<=(w'.alloc o).drew.heap.size):=fun o=>by have:=d.out.bs;show base<=(w'.alloc o).heap.size;simp;omega
 clear hr H n q X m j S R N P a6 a5 a4 a3 l0 l1 l2 l3 l4 l5 l6 l7 G Y a1 a2 a0
 go_wp2_with fail
 go_region_law ((refine step_append_lies _ (by rfl) _ _ _ (by rfl) base 162 i0 _ 5 48 Tryz.underlying157 b0 a9 a8 a7 rfl (by decide) gv _ _ (by rfl) ((d.out.sg.alloc _).drew) ⟨w'.heap.size,0,none⟩ 1 1 (sgV ⟨3,p,f.depth,-1,ByteArray.empty⟩) (by rfl) (by rfl) (World.news_of_block (cs:=#[J Z 3,J Z p,J Z f.depth,J Z (-1),.string ByteArray.empty]) (t:=162) (fr:=(0,0)) (heap_alloc_new w' _)) L.out (Nat.lt_succ_self 0) b4.out b3.out (b1.out _) (w'.heap.size+1) (by simp) ?_;intro gg x w5 y g W v;obtain ⟨y0,y1,y3,yz,_⟩:=d.out.grown3 g))
 all_goals
  have D:=d.out.signed rfl y g W
  have b6:Hid (RS (w5.setCell ⟨B,3,none⟩ (O (some ⟨gg,0,none⟩) (gs.length+1) x)) base B s p sv' (O (some ⟨gg,0,none⟩) (gs.length+1) x) ([byF 102,byF 40,⟨259,4,f.depth,p⟩,⟨260,4,f.depth,p⟩,byF 124,⟨258,0,f.depth+1,0⟩,byF 41]++fs) (⟨3,p,f.depth,-1,ByteArray.empty⟩::gs)):=D.1
  have b5:Hid (Mv base B sv' gv sv' (O (some ⟨gg,0,none⟩) (gs.length+1) x) w' (w5.setCell ⟨B,3,none⟩ (O (some ⟨gg,0,none⟩) (gs.length+1) x))):=D.2
  clear D y g W y0 y1 y3 yz
  go_wp2_with fail
  go_ret
  exact ⟨rfl,sv',_,b6.out,b8.out.trans b5.out⟩
theorem zbB (base B:Nat) (s:ByteArray) (k p:Nat) (f:FR) (sv gv:Value) (fs:List FR) (gs:List SG) (w:World) (h:RS w base B s k sv gv fs gs) (hs:s.size<=2000) (hk:k<=s.size) (hpe:T.sk s k=p) (hc:T.ch s p=109)
 (hlen:fs.length+7<=1099511627776) (hlen2:gs.length+1<=1099511627776) (d0:0<=f.depth) (d1:f.depth<=1000000) :
 Calls Tryz.prog 163 #[.pointer (some ⟨B,0,none⟩),frA f] w fun e w'=>e=.returned (.bool true)/\∃ sv' gv',RS w' base B s p sv' gv' ([byF 109,byF 40,⟨259,9,f.depth,p⟩,⟨260,9,f.depth,p⟩,byF 124,⟨258,0,f.depth+1,0⟩,byF 41]++fs) (⟨3,p,f.depth,-1,ByteArray.empty⟩::gs)/\Mv base B sv gv sv' gv' w w':=by
 have l:=fun (b:World) (hz:RS b base B s k sv gv fs gs)=>zG base B s k sv gv fs gs b hs hk hz
 rw [hpe,hc] at l
 have b7:Hid (∀ (b:World),RS b base B s k sv gv fs gs->Calls Tryz.prog 135 #[.pointer (some ⟨B,0,none⟩)] b fun e w'=>e=.returned (J Z (109))/\RS w' base B s p sv gv fs gs/\Mv base B sv gv sv gv b w'):=l
 clear hpe l hk hc
 obtain ⟨i0,b0,a9,a8,a7⟩:=info_parts Tryz.infoSign
 have c8:=fun w=>ZO 258 (f.depth+1) w
 have c7:=fun w=>ZQ f.depth p w
 unfold frA
 go_enter Tryz.func163,Tryz.ntmps163
 go_wp2_with fail
 have hA:=h.alloc (Q #[J Z f.sym,J Z f.kind,J Z f.depth,J Z f.list] 193)
 have hF:FB (w.alloc (Q #[J Z f.sym,J Z f.kind,J Z f.depth,J Z f.list] 193)) w.heap.size f:=⟨by simp,by simp,by simp,by simp⟩
 have K:=h.outNew
 have z:w.heap.size<(w.alloc (Q #[J Z f.sym,J Z f.kind,J Z f.depth,J Z f.list] 193)).heap.size:=by simp
 have U:Mv base B sv gv sv gv w (w.alloc (Q #[J Z f.sym,J Z f.kind,J Z f.depth,J Z f.list] 193)):=Mv.alloc h.bs _
 refine (b7.out _ hA).mono ?_
 rintro e a ⟨rfl,A,r⟩
 have V:=r.kept w.heap.size z K
 have E:=hF.of_block V.1
 have I:w.heap.size<a.heap.size:=Nat.lt_of_lt_of_le z r.bel.size
 have a0:Hid (Mv base B sv gv sv gv w a):=U.trans r
 have i:Hid (RS a base B s p sv gv fs gs):=A
 have a2:Hid (FB a w.heap.size f):=E
 have c1:=A.c1
 have b2:=E.c2
 clear U r hA hF z A V h E
 go_wp2_with fail
 refine (yC _ _ _ _).mono ?_
 rintro e w' ⟨rfl,c6⟩
 subst w'
 have G:Hid (RS ((a.alloc (xF f.depth)).alloc (xL 9 f.depth p)) base B s p sv gv fs gs):=(i.out.alloc _).alloc _
 have Y:Hid (Mv base B sv gv sv gv w ((a.alloc (xF f.depth)).alloc (xL 9 f.depth p))):=(a0.out.trans (Mv.alloc i.out.bs _)).trans (Mv.alloc (i.out.alloc _).bs _)
 have a1:Hid (FB ((a.alloc (xF f.depth)).alloc (xL 9 f.depth p)) w.heap.size f):=a2.out.of_block (by rw [Below.heap_alloc _ _ _ (by simp;omega),Below.heap_alloc _ _ _ I])
 have F:Hid (XK a.heap.size 9 f.depth p ((a.alloc (xF f.depth)).alloc (xL 9 f.depth p))):=YW a 9 f.depth p
 obtain ⟨l0,l1,l2,l3,l4,l5,l6,l7,a6,a5,a4,a3⟩:=F.out
 have c5:a.heap.size+1<((a.alloc (xF f.depth)).alloc (xL 9 f.depth p)).heap.size:=by simp
 go_wp2_with fail
 generalize (a.alloc (xF f.depth)).alloc (xL 9 f.depth p)=w3 at *
 have N:Out B sv gv (a.heap.size+1):=⟨fun e=>by have:=i.out.lt;omega,fun e=>by have:=(i.out.st.lt _ e).2;omega,fun e=>by have:=(i.out.sg.lt _ e).2;omega⟩
 have P:Out B sv gv a.heap.size:=i.out.outNew
 have m:Hid (∀ (b w':World) (sv' gv':Value),Below w3.heap.size w3 b->Mv base B sv gv sv' gv' b w'->XK a.heap.size 9 f.depth p w'):=by
  intro b w' sv' gv' C H
  have eL:w'.heap[a.heap.size+1]?=w3.heap[a.heap.size+1]?:=by
   have v:a.heap.size+1<b.heap.size:=by have:=C.size;omega
   rw [(H.kept _ v N).1,C.block _ (by omega)]
  have eI:w'.heap[a.heap.size]?=w3.heap[a.heap.size]?:=by
   have v:a.heap.size<b.heap.size:=by have:=C.size;omega
   rw [(H.kept _ v P).1,C.block _ (by omega)]
  exact Yc F.out eL eI
 have j:Hid (∀ (b:World),Below w3.heap.size w3 b->XK a.heap.size 9 f.depth p b):=by
  intro b C
  exact Yc F.out (C.block _ (by omega)) (C.block _ (by omega))
 have S:w3.heap.size≠a.heap.size+1:=by omega
 have R:w3.heap.size≠a.heap.size:=by omega
 clear c1 b2
 go_region_held3 (fun w'=>XK a.heap.size 9 f.depth p w') (first | (refine j.out _ ?_;(repeat (first | exact Below.refl _ _ | refine Below.drew ?_ | refine Below.alloc ?_ (by simp<;>omega) _));done) | (refine m.out _ _ _ _ ?_ H;(repeat (first | exact Below.refl _ _ | refine Below.drew ?_ | refine Below.alloc ?_ (by simp<;>omega) _));done)) (first | (go_at_call 162;refine (zD _ _ (by omega) (by omega)).mono ?_;rintro e w' ⟨rfl,rfl⟩) | (go_at_call 162;rw [show IntKind.u8.wrap 109=109 from by decide];refine (zD _ _ (by omega) (by omega)).mono ?_;rintro e w' ⟨rfl,rfl⟩) | (go_at_call 133;refine (yJ base B _ _ s p sv gv fs [byF 109,byF 40,⟨259,9,f.depth,p⟩,⟨260,9,f.depth,p⟩,byF 124,⟨258,0,f.depth+1,0⟩,byF 41] gs _ _ ((((G.out.alloc _).alloc _).alloc _).alloc _) (by simp) (by rfl) (by simp;omega) _ rfl).mono ?_;rintro e w' ⟨rfl,sv',hr,H⟩))
 have d:Hid (RS w' base B s p sv' gv ([byF 109,byF 40,⟨259,9,f.depth,p⟩,⟨260,9,f.depth,p⟩,byF 124,⟨258,0,f.depth+1,0⟩,byF 41]++fs) gs):=hr
 obtain ⟨b,n,q⟩:∃ b,Below w3.heap.size w3 b/\Mv base B sv gv sv' gv b w':=⟨_,by repeat (first | exact Below.refl _ _ | refine Below.drew ?_ | refine Below.alloc ?_ (by simp<;>omega) _),H⟩
 have b8:Hid (Mv base B sv gv sv' gv w w'):=(Y.out.trans (Mv.of_below n G.out.bs)).trans q
 have b9:w.heap.size<w'.heap.size:=by have h1:=n.size;have h2:=q.bel.size;omega
 have X:FB w' w.heap.size f:=a1.out.of_block (by
  have h1:w.heap.size<w3.heap.size:=by omega
  rw [(q.kept _ (Nat.lt_of_lt_of_le h1 n.size) K).1,n.block _ h1])
 have b2:=X.c2
 have c3:=d.out.c3
 have z3:=d.out.fz 3
 have c9:=d.out.lt
 have zf:∀ o,(w'.alloc o).frozen? ⟨B,3,none⟩=false:=fun o=>(d.out.alloc o).fz 3
 have b4:Hid (gs.length+1<=maxLen):=by show _<=_;unfold maxLen;omega
 have b3:Hid ((gs.length+1)*48<=140737488355328):=by show _<=_;omega
 have L:Hid (∀ u∈sgV ⟨3,p,f.depth,-1,ByteArray.empty⟩,u.oneCell'=true):=fun u hu=>by simp [sgV] at hu;rcases hu with rfl | rfl | rfl | rfl | rfl<;>rfl
 have b1:Hid (∀ o:Obj,base<=(w'.alloc o).drew.heap.size):=fun o=>by have:=d.out.bs;show base<=(w'.alloc o).heap.size;simp;omega
 clear hr H n q X m j S R N P a6 a5 a4 a3 l0 l1 l2 l3 l4 l5 l6 l7 G Y a1 a2 a0
 go_wp2_with fail
 go_region_law ((refine step_append_lies _ (by rfl) _ _ _ (by rfl) base 162 i0 _ 5 48 Tryz.underlying157 b0 a9 a8 a7 rfl (by decide) gv _ _ (by rfl) ((d.out.sg.alloc _).drew) ⟨w'.heap.size,0,none⟩ 1 1 (sgV ⟨3,p,f.depth,-1,ByteArray.empty⟩) (by rfl) (by rfl) (World.news_of_block (cs:=#[J Z 3,J Z p,J Z f.depth,J Z (-1),.string ByteArray.empty]) (t:=162) (fr:=(0,0)) (heap_alloc_new w' _)) L.out (Nat.lt_succ_self 0) b4.out b3.out (b1.out _) (w'.heap.size+1) (by simp) ?_;intro gg x w5 y g W v;obtain ⟨y0,y1,y3,yz,_⟩:=d.out.grown3 g))
 all_goals
  have D:=d.out.signed rfl y g W
  have b6:Hid (RS (w5.setCell ⟨B,3,none⟩ (O (some ⟨gg,0,none⟩) (gs.length+1) x)) base B s p sv' (O (some ⟨gg,0,none⟩) (gs.length+1) x) ([byF 109,byF 40,⟨259,9,f.depth,p⟩,⟨260,9,f.depth,p⟩,byF 124,⟨258,0,f.depth+1,0⟩,byF 41]++fs) (⟨3,p,f.depth,-1,ByteArray.empty⟩::gs)):=D.1
  have b5:Hid (Mv base B sv' gv sv' (O (some ⟨gg,0,none⟩) (gs.length+1) x) w' (w5.setCell ⟨B,3,none⟩ (O (some ⟨gg,0,none⟩) (gs.length+1) x))):=D.2
  clear D y g W y0 y1 y3 yz
  go_wp2_with fail
  go_ret
  exact ⟨rfl,sv',_,b6.out,b8.out.trans b5.out⟩
theorem j3 (base B:Nat) (s:ByteArray) (k p:Nat) (f:FR) (sv gv:Value) (fs:List FR) (gs:List SG) (w:World) (h:RS w base B s k sv gv fs gs) (hs:s.size<=2000) (hk:k<=s.size) (hpe:T.sk s k=p) (hc:T.ch s p=103)
 (hlen:fs.length+7<=1099511627776) (hlen2:gs.length+1<=1099511627776) (d0:0<=f.depth) (d1:f.depth<=1000000) :
 Calls Tryz.prog 163 #[.pointer (some ⟨B,0,none⟩),frA f] w fun e w'=>e=.returned (.bool true)/\∃ sv' gv',RS w' base B s p sv' gv' ([byF 103,byF 40,⟨259,7,f.depth,p⟩,⟨260,7,f.depth,p⟩,byF 124,⟨258,0,f.depth+1,0⟩,byF 41]++fs) (⟨3,p,f.depth,-1,ByteArray.empty⟩::gs)/\Mv base B sv gv sv' gv' w w':=by
 have l:=fun (b:World) (hz:RS b base B s k sv gv fs gs)=>zG base B s k sv gv fs gs b hs hk hz
 rw [hpe,hc] at l
 have b7:Hid (∀ (b:World),RS b base B s k sv gv fs gs->Calls Tryz.prog 135 #[.pointer (some ⟨B,0,none⟩)] b fun e w'=>e=.returned (J Z (103))/\RS w' base B s p sv gv fs gs/\Mv base B sv gv sv gv b w'):=l
 clear hpe l hk hc
 obtain ⟨i0,b0,a9,a8,a7⟩:=info_parts Tryz.infoSign
 have c8:=fun w=>ZO 258 (f.depth+1) w
 have c7:=fun w=>ZQ f.depth p w
 unfold frA
 go_enter Tryz.func163,Tryz.ntmps163
 go_wp2_with fail
 have hA:=h.alloc (Q #[J Z f.sym,J Z f.kind,J Z f.depth,J Z f.list] 193)
 have hF:FB (w.alloc (Q #[J Z f.sym,J Z f.kind,J Z f.depth,J Z f.list] 193)) w.heap.size f:=⟨by simp,by simp,by simp,by simp⟩
 have K:=h.outNew
 have z:w.heap.size<(w.alloc (Q #[J Z f.sym,J Z f.kind,J Z f.depth,J Z f.list] 193)).heap.size:=by simp
 have U:Mv base B sv gv sv gv w (w.alloc (Q #[J Z f.sym,J Z f.kind,J Z f.depth,J Z f.list] 193)):=Mv.alloc h.bs _
 refine (b7.out _ hA).mono ?_
 rintro e a ⟨rfl,A,r⟩
 have V:=r.kept w.heap.size z K
 have E:=hF.of_block V.1
 have I:w.heap.size<a.heap.size:=Nat.lt_of_lt_of_le z r.bel.size
 have a0:Hid (Mv base B sv gv sv gv w a):=U.trans r
 have i:Hid (RS a base B s p sv gv fs gs):=A
 have a2:Hid (FB a w.heap.size f):=E
 have c1:=A.c1
 have b2:=E.c2
 clear U r hA hF z A V h E
 go_wp2_with fail
 refine (yC _ _ _ _).mono ?_
 rintro e w' ⟨rfl,c6⟩
 subst w'
 have G:Hid (RS ((a.alloc (xF f.depth)).alloc (xL 7 f.depth p)) base B s p sv gv fs gs):=(i.out.alloc _).alloc _
 have Y:Hid (Mv base B sv gv sv gv w ((a.alloc (xF f.depth)).alloc (xL 7 f.depth p))):=(a0.out.trans (Mv.alloc i.out.bs _)).trans (Mv.alloc (i.out.alloc _).bs _)
 have a1:Hid (FB ((a.alloc (xF f.depth)).alloc (xL 7 f.depth p)) w.heap.size f):=a2.out.of_block (by rw [Below.heap_alloc _ _ _ (by simp;omega),Below.heap_alloc _ _ _ I])
 have F:Hid (XK a.heap.size 7 f.depth p ((a.alloc (xF f.depth)).alloc (xL 7 f.depth p))):=YW a 7 f.depth p
 obtain ⟨l0,l1,l2,l3,l4,l5,l6,l7,a6,a5,a4,a3⟩:=F.out
 have c5:a.heap.size+1<((a.alloc (xF f.depth)).alloc (xL 7 f.depth p)).heap.size:=by simp
 go_wp2_with fail
 generalize (a.alloc (xF f.depth)).alloc (xL 7 f.depth p)=w3 at *
 have N:Out B sv gv (a.heap.size+1):=⟨fun e=>by have:=i.out.lt;omega,fun e=>by have:=(i.out.st.lt _ e).2;omega,fun e=>by have:=(i.out.sg.lt _ e).2;omega⟩
 have P:Out B sv gv a.heap.size:=i.out.outNew
 have m:Hid (∀ (b w':World) (sv' gv':Value),Below w3.heap.size w3 b->Mv base B sv gv sv' gv' b w'->XK a.heap.size 7 f.depth p w'):=by
  intro b w' sv' gv' C H
  have eL:w'.heap[a.heap.size+1]?=w3.heap[a.heap.size+1]?:=by
   have v:a.heap.size+1<b.heap.size:=by have:=C.size;omega
   rw [(H.kept _ v N).1,C.block _ (by omega)]
  have eI:w'.heap[a.heap.size]?=w3.heap[a.heap.size]?:=by
   have v:a.heap.size<b.heap.size:=by have:=C.size;omega
   rw [(H.kept _ v P).1,C.block _ (by omega)]
  exact Yc F.out eL eI
 have j:Hid (∀ (b:World),Below w3.heap.size w3 b->XK a.heap.size 7 f.depth p b):=by
  intro b C
  exact Yc F.out (C.block _ (by omega)) (C.block _ (by omega))
 have S:w3.heap.size≠a.heap.size+1:=by omega
 have R:w3.heap.size≠a.heap.size:=by omega
 clear c1 b2
 go_region_held3 (fun w'=>XK a.heap.size 7 f.depth p w') (first | (refine j.out _ ?_;(repeat (first | exact Below.refl _ _ | refine Below.drew ?_ | refine Below.alloc ?_ (by simp<;>omega) _));done) | (refine m.out _ _ _ _ ?_ H;(repeat (first | exact Below.refl _ _ | refine Below.drew ?_ | refine Below.alloc ?_ (by simp<;>omega) _));done)) (first | (go_at_call 162;refine (zD _ _ (by omega) (by omega)).mono ?_;rintro e w' ⟨rfl,rfl⟩) | (go_at_call 162;rw [show IntKind.u8.wrap 103=103 from by decide];refine (zD _ _ (by omega) (by omega)).mono ?_;rintro e w' ⟨rfl,rfl⟩) | (go_at_call 133;refine (yJ base B _ _ s p sv gv fs [byF 103,byF 40,⟨259,7,f.depth,p⟩,⟨260,7,f.depth,p⟩,byF 124,⟨258,0,f.depth+1,0⟩,byF 41] gs _ _ ((((G.out.alloc _).alloc _).alloc _).alloc _) (by simp) (by rfl) (by simp;omega) _ rfl).mono ?_;rintro e w' ⟨rfl,sv',hr,H⟩))
 have d:Hid (RS w' base B s p sv' gv ([byF 103,byF 40,⟨259,7,f.depth,p⟩,⟨260,7,f.depth,p⟩,byF 124,⟨258,0,f.depth+1,0⟩,byF 41]++fs) gs):=hr
 obtain ⟨b,n,q⟩:∃ b,Below w3.heap.size w3 b/\Mv base B sv gv sv' gv b w':=⟨_,by repeat (first | exact Below.refl _ _ | refine Below.drew ?_ | refine Below.alloc ?_ (by simp<;>omega) _),H⟩
 have b8:Hid (Mv base B sv gv sv' gv w w'):=(Y.out.trans (Mv.of_below n G.out.bs)).trans q
 have b9:w.heap.size<w'.heap.size:=by have h1:=n.size;have h2:=q.bel.size;omega
 have X:FB w' w.heap.size f:=a1.out.of_block (by
  have h1:w.heap.size<w3.heap.size:=by omega
  rw [(q.kept _ (Nat.lt_of_lt_of_le h1 n.size) K).1,n.block _ h1])
 have b2:=X.c2
 have c3:=d.out.c3
 have z3:=d.out.fz 3
 have c9:=d.out.lt
 have zf:∀ o,(w'.alloc o).frozen? ⟨B,3,none⟩=false:=fun o=>(d.out.alloc o).fz 3
 have b4:Hid (gs.length+1<=maxLen):=by show _<=_;unfold maxLen;omega
 have b3:Hid ((gs.length+1)*48<=140737488355328):=by show _<=_;omega
 have L:Hid (∀ u∈sgV ⟨3,p,f.depth,-1,ByteArray.empty⟩,u.oneCell'=true):=fun u hu=>by simp [sgV] at hu;rcases hu with rfl | rfl | rfl | rfl | rfl<;>rfl
 have b1:Hid (∀ o:Obj,base<=(w'.alloc o).drew.heap.size):=fun o=>by have:=d.out.bs;show base<=(w'.alloc o).heap.size;simp;omega
 clear hr H n q X m j S R N P a6 a5 a4 a3 l0 l1 l2 l3 l4 l5 l6 l7 G Y a1 a2 a0
 go_wp2_with fail
 go_region_law ((refine step_append_lies _ (by rfl) _ _ _ (by rfl) base 162 i0 _ 5 48 Tryz.underlying157 b0 a9 a8 a7 rfl (by decide) gv _ _ (by rfl) ((d.out.sg.alloc _).drew) ⟨w'.heap.size,0,none⟩ 1 1 (sgV ⟨3,p,f.depth,-1,ByteArray.empty⟩) (by rfl) (by rfl) (World.news_of_block (cs:=#[J Z 3,J Z p,J Z f.depth,J Z (-1),.string ByteArray.empty]) (t:=162) (fr:=(0,0)) (heap_alloc_new w' _)) L.out (Nat.lt_succ_self 0) b4.out b3.out (b1.out _) (w'.heap.size+1) (by simp) ?_;intro gg x w5 y g W v;obtain ⟨y0,y1,y3,yz,_⟩:=d.out.grown3 g))
 all_goals
  have D:=d.out.signed rfl y g W
  have b6:Hid (RS (w5.setCell ⟨B,3,none⟩ (O (some ⟨gg,0,none⟩) (gs.length+1) x)) base B s p sv' (O (some ⟨gg,0,none⟩) (gs.length+1) x) ([byF 103,byF 40,⟨259,7,f.depth,p⟩,⟨260,7,f.depth,p⟩,byF 124,⟨258,0,f.depth+1,0⟩,byF 41]++fs) (⟨3,p,f.depth,-1,ByteArray.empty⟩::gs)):=D.1
  have b5:Hid (Mv base B sv' gv sv' (O (some ⟨gg,0,none⟩) (gs.length+1) x) w' (w5.setCell ⟨B,3,none⟩ (O (some ⟨gg,0,none⟩) (gs.length+1) x))):=D.2
  clear D y g W y0 y1 y3 yz
  go_wp2_with fail
  go_ret
  exact ⟨rfl,sv',_,b6.out,b8.out.trans b5.out⟩
theorem zc6 (base B:Nat) (s:ByteArray) (k p:Nat) (f:FR) (sv gv:Value) (fs:List FR) (gs:List SG) (w:World) (h:RS w base B s k sv gv fs gs) (hs:s.size<=2000) (hk:k<=s.size) (hpe:T.sk s k=p) (hc:T.ch s p=116)
 (hlen:fs.length+7<=1099511627776) (hlen2:gs.length+1<=1099511627776) (d0:0<=f.depth) (d1:f.depth<=1000000) :
 Calls Tryz.prog 163 #[.pointer (some ⟨B,0,none⟩),frA f] w fun e w'=>e=.returned (.bool true)/\∃ sv' gv',RS w' base B s p sv' gv' ([byF 116,byF 40,⟨261,6,0,-1⟩,byF 44,⟨258,0,f.depth+1,0⟩,byF 41]++fs) (⟨3,p,f.depth,-1,ByteArray.empty⟩::gs)/\Mv base B sv gv sv' gv' w w':=by
 have l:=fun (b:World) (hz:RS b base B s k sv gv fs gs)=>zG base B s k sv gv fs gs b hs hk hz
 rw [hpe,hc] at l
 have b6:Hid (∀ (b:World),RS b base B s k sv gv fs gs->Calls Tryz.prog 135 #[.pointer (some ⟨B,0,none⟩)] b fun e w'=>e=.returned (J Z (116))/\RS w' base B s p sv gv fs gs/\Mv base B sv gv sv gv b w'):=l
 clear hpe l hk hc
 obtain ⟨i0,a9,a7,a6,a5⟩:=info_parts Tryz.infoSign
 have c8:=fun w=>ZO 258 (f.depth+1) w
 have c7:=fun w=>ZQ f.depth p w
 unfold frA
 go_enter Tryz.func163,Tryz.ntmps163
 go_wp2_with fail
 have hA:=h.alloc (Q #[J Z f.sym,J Z f.kind,J Z f.depth,J Z f.list] 193)
 have hF:FB (w.alloc (Q #[J Z f.sym,J Z f.kind,J Z f.depth,J Z f.list] 193)) w.heap.size f:=⟨by simp,by simp,by simp,by simp⟩
 have L:=h.outNew
 have D:w.heap.size<(w.alloc (Q #[J Z f.sym,J Z f.kind,J Z f.depth,J Z f.list] 193)).heap.size:=by simp
 have U:Mv base B sv gv sv gv w (w.alloc (Q #[J Z f.sym,J Z f.kind,J Z f.depth,J Z f.list] 193)):=Mv.alloc h.bs _
 refine (b6.out _ hA).mono ?_
 rintro e a ⟨rfl,E,r⟩
 have X:=r.kept w.heap.size D L
 have H:=hF.of_block X.1
 have K:w.heap.size<a.heap.size:=Nat.lt_of_lt_of_le D r.bel.size
 have a2:Hid (Mv base B sv gv sv gv w a):=U.trans r
 have i:Hid (RS a base B s p sv gv fs gs):=E
 have a4:Hid (FB a w.heap.size f):=H
 have c1:=E.c1
 have b2:=H.c2
 clear U r hA hF D E X h H
 go_wp2_with fail
 refine (yC _ _ _ _).mono ?_
 rintro e w' ⟨rfl,c5⟩
 subst w'
 have I:Hid (RS ((a.alloc (xF f.depth)).alloc (xL 4 f.depth p)) base B s p sv gv fs gs):=(i.out.alloc _).alloc _
 have a1:Hid (Mv base B sv gv sv gv w ((a.alloc (xF f.depth)).alloc (xL 4 f.depth p))):=(a2.out.trans (Mv.alloc i.out.bs _)).trans (Mv.alloc (i.out.alloc _).bs _)
 have a3:Hid (FB ((a.alloc (xF f.depth)).alloc (xL 4 f.depth p)) w.heap.size f):=a4.out.of_block (by rw [Below.heap_alloc _ _ _ (by simp;omega),Below.heap_alloc _ _ _ K])
 obtain ⟨l0,l1,l2,l3,l4,l5,l6,l7,C,A,z,y⟩:=YW a 4 f.depth p
 have b9:a.heap.size+1<((a.alloc (xF f.depth)).alloc (xL 4 f.depth p)).heap.size:=by simp
 have c6:=fun w=>ZA 261 6 (-1) w
 go_wp2_with fail
 generalize (a.alloc (xF f.depth)).alloc (xL 4 f.depth p)=w3 at *
 have a8:Out B sv gv (a.heap.size+1):=⟨fun e=>by have:=i.out.lt;omega,fun e=>by have:=(i.out.st.lt _ e).2;omega,fun e=>by have:=(i.out.sg.lt _ e).2;omega⟩
 have P:Out B sv gv a.heap.size:=i.out.outNew
 have m:Hid (∀ (b w':World) (sv' gv':Value),Below w3.heap.size w3 b->Mv base B sv gv sv' gv' b w'->w'.cell? ⟨a.heap.size,0,none⟩=some (J Z 258)/\w'.cell? ⟨a.heap.size,1,none⟩=some (J Z 0)/\w'.cell? ⟨a.heap.size,2,none⟩=some (J Z (f.depth+1))/\w'.cell? ⟨a.heap.size,3,none⟩=some (J Z 0)):=by
  intro b w' sv' gv' F V
  have eI:w'.heap[a.heap.size]?=w3.heap[a.heap.size]?:=by
   have W:a.heap.size<b.heap.size:=by have:=F.size;omega
   rw [(V.kept _ W P).1,F.block _ (by omega)]
  exact ⟨by rw [World.cell?_of_block (w:=w3) eI];exact C,by rw [World.cell?_of_block (w:=w3) eI];exact A,by rw [World.cell?_of_block (w:=w3) eI];exact z,by rw [World.cell?_of_block (w:=w3) eI];exact y⟩
 have j:Hid (∀ (b:World),Below w3.heap.size w3 b->b.cell? ⟨a.heap.size,0,none⟩=some (J Z 258)/\b.cell? ⟨a.heap.size,1,none⟩=some (J Z 0)/\b.cell? ⟨a.heap.size,2,none⟩=some (J Z (f.depth+1))/\b.cell? ⟨a.heap.size,3,none⟩=some (J Z 0)):=by
  intro b F
  exact ⟨(F.cell (p:=⟨a.heap.size,0,none⟩) (show a.heap.size<w3.heap.size by omega)).trans C,(F.cell (p:=⟨a.heap.size,1,none⟩) (show a.heap.size<w3.heap.size by omega)).trans A,(F.cell (p:=⟨a.heap.size,2,none⟩) (show a.heap.size<w3.heap.size by omega)).trans z,(F.cell (p:=⟨a.heap.size,3,none⟩) (show a.heap.size<w3.heap.size by omega)).trans y⟩
 have S:w3.heap.size≠a.heap.size+1:=by omega
 have R:w3.heap.size≠a.heap.size:=by omega
 clear c1 b2
 go_region_held3 (fun w'=>w'.cell? ⟨a.heap.size,0,none⟩=some (J Z 258)/\w'.cell? ⟨a.heap.size,1,none⟩=some (J Z 0)/\w'.cell? ⟨a.heap.size,2,none⟩=some (J Z (f.depth+1))/\w'.cell? ⟨a.heap.size,3,none⟩=some (J Z 0)) (first | (refine j.out _ ?_;(repeat (first | exact Below.refl _ _ | refine Below.drew ?_ | refine Below.alloc ?_ (by simp<;>omega) _));done) | (refine m.out _ _ _ _ ?_ V;(repeat (first | exact Below.refl _ _ | refine Below.drew ?_ | refine Below.alloc ?_ (by simp<;>omega) _));done)) (first | (go_at_call 162;refine (zD _ _ (by omega) (by omega)).mono ?_;rintro e w' ⟨rfl,rfl⟩) | (go_at_call 162;rw [show IntKind.u8.wrap 116=116 from by decide];refine (zD _ _ (by omega) (by omega)).mono ?_;rintro e w' ⟨rfl,rfl⟩) | (go_at_call 133;refine (yJ base B _ _ s p sv gv fs [byF 116,byF 40,⟨261,6,0,-1⟩,byF 44,⟨258,0,f.depth+1,0⟩,byF 41] gs _ _ ((((I.out.alloc _).alloc _).alloc _).alloc _) (by simp) (by rfl) (by simp;omega) _ rfl).mono ?_;rintro e w' ⟨rfl,sv',hr,V⟩))
 have d:Hid (RS w' base B s p sv' gv ([byF 116,byF 40,⟨261,6,0,-1⟩,byF 44,⟨258,0,f.depth+1,0⟩,byF 41]++fs) gs):=hr
 obtain ⟨b,n,q⟩:∃ b,Below w3.heap.size w3 b/\Mv base B sv gv sv' gv b w':=⟨_,by repeat (first | exact Below.refl _ _ | refine Below.drew ?_ | refine Below.alloc ?_ (by simp<;>omega) _),V⟩
 have b7:Hid (Mv base B sv gv sv' gv w w'):=(a1.out.trans (Mv.of_below n I.out.bs)).trans q
 have b8:w.heap.size<w'.heap.size:=by have h1:=n.size;have h2:=q.bel.size;omega
 have a0:FB w' w.heap.size f:=a3.out.of_block (by
  have h1:w.heap.size<w3.heap.size:=by omega
  rw [(q.kept _ (Nat.lt_of_lt_of_le h1 n.size) L).1,n.block _ h1])
 have b2:=a0.c2
 have c3:=d.out.c3
 have z3:=d.out.fz 3
 have c9:=d.out.lt
 have zf:∀ o,(w'.alloc o).frozen? ⟨B,3,none⟩=false:=fun o=>(d.out.alloc o).fz 3
 have b3:Hid (gs.length+1<=maxLen):=by show _<=_;unfold maxLen;omega
 have b1:Hid ((gs.length+1)*48<=140737488355328):=by show _<=_;omega
 have N:Hid (∀ u∈sgV ⟨3,p,f.depth,-1,ByteArray.empty⟩,u.oneCell'=true):=fun u hu=>by simp [sgV] at hu;rcases hu with rfl | rfl | rfl | rfl | rfl<;>rfl
 have b0:Hid (∀ o:Obj,base<=(w'.alloc o).drew.heap.size):=fun o=>by have:=d.out.bs;show base<=(w'.alloc o).heap.size;simp;omega
 clear hr V n q a0 m j S R a8 P C A z y l0 l1 l2 l3 l4 l5 l6 l7 I a1 a3 a4 a2
 go_wp2_with fail
 go_region_law ((refine step_append_lies _ (by rfl) _ _ _ (by rfl) base 162 i0 _ 5 48 Tryz.underlying157 a9 a7 a6 a5 rfl (by decide) gv _ _ (by rfl) ((d.out.sg.alloc _).drew) ⟨w'.heap.size,0,none⟩ 1 1 (sgV ⟨3,p,f.depth,-1,ByteArray.empty⟩) (by rfl) (by rfl) (World.news_of_block (cs:=#[J Z 3,J Z p,J Z f.depth,J Z (-1),.string ByteArray.empty]) (t:=162) (fr:=(0,0)) (heap_alloc_new w' _)) N.out (Nat.lt_succ_self 0) b3.out b1.out (b0.out _) (w'.heap.size+1) (by simp) ?_;intro gg v w5 x g Y W;obtain ⟨y0,y1,y3,yz,_⟩:=d.out.grown3 g))
 all_goals
  have G:=d.out.signed rfl x g Y
  have b5:Hid (RS (w5.setCell ⟨B,3,none⟩ (O (some ⟨gg,0,none⟩) (gs.length+1) v)) base B s p sv' (O (some ⟨gg,0,none⟩) (gs.length+1) v) ([byF 116,byF 40,⟨261,6,0,-1⟩,byF 44,⟨258,0,f.depth+1,0⟩,byF 41]++fs) (⟨3,p,f.depth,-1,ByteArray.empty⟩::gs)):=G.1
  have b4:Hid (Mv base B sv' gv sv' (O (some ⟨gg,0,none⟩) (gs.length+1) v) w' (w5.setCell ⟨B,3,none⟩ (O (some ⟨gg,0,none⟩) (gs.length+1) v))):=G.2
  clear G x g Y y0 y1 y3 yz
  go_wp2_with fail
  go_ret
  exact ⟨rfl,sv',_,b5.out,b7.out.trans b4.out⟩
end Go.Proofs.YtaebngpoagjafabGreat
