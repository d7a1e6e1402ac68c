import Derived.Test.YtaebngpoagjafabGreatU13
set_option maxRecDepth 100000
set_option maxHeartbeats 6400000
namespace Go.Proofs.YtaebngpoagjafabGreat
open Obj renaming cells → Q
open Value renaming int → J, slice → O
open IntKind renaming i64 → Z
open Go.RowKit
attribute [local go_sem ↓] Go.wp_at_zero Go.wp_at_succ
theorem JU (base B:Nat) (s:ByteArray) (k p:Nat) (f:FR) (sv gv:Value) (fs:List FR) (gs:List SG) (w:World) (h:RS w base B s k sv gv fs gs) (hs:s.size<=2000) (hk:k<=s.size) (hpe:T.sk s k=p) (hc:T.ch s p=64)
 (hlen:fs.length+7<=1099511627776) (hlen2:gs.length+1<=1099511627776) (d0:0<=f.depth) (d1:f.depth<=1000000) :
 Calls Tryz.prog 163 #[.pointer (some ⟨B,0,none⟩),frA f] w fun e w'=>e=.returned (.bool true)/\∃ sv' gv',RS w' base B s p sv' gv' ([byF 64,⟨261,8,0,-1⟩]++fs) (⟨3,p,f.depth,-1,ByteArray.empty⟩::gs)/\Mv base B sv gv sv' gv' w w':=by
 have g:=fun (j:World) (hz:RS j base B s k sv gv fs gs)=>zG base B s k sv gv fs gs j hs hk hz
 rw [hpe,hc] at g
 have a8:Hid (∀ (j:World),RS j base B s k sv gv fs gs->Calls Tryz.prog 135 #[.pointer (some ⟨B,0,none⟩)] j fun e w'=>e=.returned (J Z (64))/\RS w' base B s p sv gv fs gs/\Mv base B sv gv sv gv j w'):=g
 clear hpe g hk hc
 obtain ⟨i0,a2,a0,Y,X⟩:=info_parts Tryz.infoSign
 have b6:=fun w=>ZO 258 (f.depth+1) w
 have b5:=fun w=>ZQ f.depth p w
 unfold frA
 go_enter Tryz.func163,Tryz.ntmps163
 go_wp2_with fail
 have hA:=h.alloc (Q #[J Z f.sym,J Z f.kind,J Z f.depth,J Z f.list] 193)
 have hF:FB (w.alloc (Q #[J Z f.sym,J Z f.kind,J Z f.depth,J Z f.list] 193)) w.heap.size f:=⟨by simp,by simp,by simp,by simp⟩
 have D:=h.outNew
 have r:w.heap.size<(w.alloc (Q #[J Z f.sym,J Z f.kind,J Z f.depth,J Z f.list] 193)).heap.size:=by simp
 have F:Mv base B sv gv sv gv w (w.alloc (Q #[J Z f.sym,J Z f.kind,J Z f.depth,J Z f.list] 193)):=Mv.alloc h.bs _
 refine (a8.out _ hA).mono ?_
 rintro e d ⟨rfl,v,m⟩
 have G:=m.kept w.heap.size r D
 have y:=hF.of_block G.1
 have C:w.heap.size<d.heap.size:=Nat.lt_of_lt_of_le r m.bel.size
 have L:Hid (Mv base B sv gv sv gv w d):=F.trans m
 have A:Hid (RS d base B s p sv gv fs gs):=v
 have P:Hid (FB d w.heap.size f):=y
 have c1:=v.c1
 have b2:=y.c2
 clear F m hA hF r v G h y
 go_wp2_with fail
 refine (yC _ _ _ _).mono ?_
 rintro e w' ⟨rfl,a1⟩
 subst w'
 have z:Hid (RS ((d.alloc (xF f.depth)).alloc (xL 4 f.depth p)) base B s p sv gv fs gs):=(A.out.alloc _).alloc _
 have K:Hid (Mv base B sv gv sv gv w ((d.alloc (xF f.depth)).alloc (xL 4 f.depth p))):=(L.out.trans (Mv.alloc A.out.bs _)).trans (Mv.alloc (A.out.alloc _).bs _)
 have N:Hid (FB ((d.alloc (xF f.depth)).alloc (xL 4 f.depth p)) w.heap.size f):=P.out.of_block (by rw [Below.heap_alloc _ _ _ (by simp;omega),Below.heap_alloc _ _ _ C])
 obtain ⟨l0,l1,l2,l3,l4,l5,l6,l7,W,V,U,S⟩:=YW d 4 f.depth p
 have b1:d.heap.size+1<((d.alloc (xF f.depth)).alloc (xL 4 f.depth p)).heap.size:=by simp
 have b4:=fun w=>ZA 261 8 (-1) w
 go_wp2_with fail
 generalize (d.alloc (xF f.depth)).alloc (xL 4 f.depth p)=w3 at *
 clear c1 b2
 refine (zD _ _ (by omega) (by omega)).mono ?_
 rintro e w' ⟨rfl,a1⟩
 subst w'
 go_wp2_with fail
 refine (Z0 base B _ _ s p sv gv fs [byF 64,⟨261,8,0,-1⟩] gs _ _ (z.out.alloc _) (by simp) (by rfl) (by simp;omega) _ rfl).mono ?_
 rintro e w' ⟨rfl,sv',hr,hm⟩
 have a:Hid (RS w' base B s p sv' gv ([byF 64,⟨261,8,0,-1⟩]++fs) gs):=hr
 obtain ⟨j,i,l⟩:∃ j,Below w3.heap.size w3 j/\Mv base B sv gv sv' gv j w':=⟨_,by repeat (first | exact Below.refl _ _ | refine Below.drew ?_ | refine Below.alloc ?_ (by simp<;>omega) _),hm⟩
 have a9:Hid (Mv base B sv gv sv' gv w w'):=(K.out.trans (Mv.of_below i z.out.bs)).trans l
 have b0:w.heap.size<w'.heap.size:=by have h1:=i.size;have h2:=l.bel.size;omega
 have I:FB w' w.heap.size f:=N.out.of_block (by
  have h1:w.heap.size<w3.heap.size:=by omega
  rw [(l.kept _ (Nat.lt_of_lt_of_le h1 i.size) D).1,i.block _ h1])
 have b2:=I.c2
 have c3:=a.out.c3
 have z3:=a.out.fz 3
 have b7:=a.out.lt
 have zf:∀ o,(w'.alloc o).frozen? ⟨B,3,none⟩=false:=fun o=>(a.out.alloc o).fz 3
 have a5:Hid (gs.length+1<=maxLen):=by show _<=_;unfold maxLen;omega
 have a4:Hid ((gs.length+1)*48<=140737488355328):=by show _<=_;omega
 have E:Hid (∀ u∈sgV ⟨3,p,f.depth,-1,ByteArray.empty⟩,u.oneCell'=true):=fun u hu=>by simp [sgV] at hu;rcases hu with rfl | rfl | rfl | rfl | rfl<;>rfl
 have a3:Hid (∀ o:Obj,base<=(w'.alloc o).drew.heap.size):=fun o=>by have:=a.out.bs;show base<=(w'.alloc o).heap.size;simp;omega
 clear hr hm i l I  W V U S l0 l1 l2 l3 l4 l5 l6 l7 z K N P L
 go_wp2_with fail
 go_region_law ((refine step_append_lies _ (by rfl) _ _ _ (by rfl) base 162 i0 _ 5 48 Tryz.underlying157 a2 a0 Y X rfl (by decide) gv _ _ (by rfl) ((a.out.sg.alloc _).drew) ⟨w'.heap.size,0,none⟩ 1 1 (sgV ⟨3,p,f.depth,-1,ByteArray.empty⟩) (by rfl) (by rfl) (World.news_of_block (cs:=#[J Z 3,J Z p,J Z f.depth,J Z (-1),.string ByteArray.empty]) (t:=162) (fr:=(0,0)) (heap_alloc_new w' _)) E.out (Nat.lt_succ_self 0) a5.out a4.out (a3.out _) (w'.heap.size+1) (by simp) ?_;intro R n w5 q b H b3;obtain ⟨y0,y1,y3,yz,_⟩:=a.out.grown3 b))
 all_goals
  have x:=a.out.signed rfl q b H
  have a7:Hid (RS (w5.setCell ⟨B,3,none⟩ (O (some ⟨R,0,none⟩) (gs.length+1) n)) base B s p sv' (O (some ⟨R,0,none⟩) (gs.length+1) n) ([byF 64,⟨261,8,0,-1⟩]++fs) (⟨3,p,f.depth,-1,ByteArray.empty⟩::gs)):=x.1
  have a6:Hid (Mv base B sv' gv sv' (O (some ⟨R,0,none⟩) (gs.length+1) n) w' (w5.setCell ⟨B,3,none⟩ (O (some ⟨R,0,none⟩) (gs.length+1) n))):=x.2
  clear x q b H y0 y1 y3 yz
  go_wp2_with fail
  go_ret
  exact ⟨rfl,sv',_,a7.out,a9.out.trans a6.out⟩
theorem zbz (base B:Nat) (s:ByteArray) (k p:Nat) (f:FR) (sv gv:Value) (fs:List FR) (gs:List SG) (w:World) (h:RS w base B s k sv gv fs gs) (hs:s.size<=2000) (hk:k<=s.size) (hpe:T.sk s k=p) (hc:T.ch s p=61)
 (hlen:fs.length+7<=1099511627776) (hlen2:gs.length+1<=1099511627776) (d0:0<=f.depth) (d1:f.depth<=1000000) :
 Calls Tryz.prog 163 #[.pointer (some ⟨B,0,none⟩),frA f] w fun e w'=>e=.returned (.bool true)/\∃ sv' gv',RS w' base B s p sv' gv' ([byF 61,⟨263,2,0,-1⟩]++fs) (⟨3,p,f.depth,-1,ByteArray.empty⟩::gs)/\Mv base B sv gv sv' gv' w w':=by
 have g:=fun (j:World) (hz:RS j base B s k sv gv fs gs)=>zG base B s k sv gv fs gs j hs hk hz
 rw [hpe,hc] at g
 have a8:Hid (∀ (j:World),RS j base B s k sv gv fs gs->Calls Tryz.prog 135 #[.pointer (some ⟨B,0,none⟩)] j fun e w'=>e=.returned (J Z (61))/\RS w' base B s p sv gv fs gs/\Mv base B sv gv sv gv j w'):=g
 clear hpe g hk hc
 obtain ⟨i0,a2,a0,Y,X⟩:=info_parts Tryz.infoSign
 have b6:=fun w=>ZO 258 (f.depth+1) w
 have b5:=fun w=>ZQ f.depth p w
 unfold frA
 go_enter Tryz.func163,Tryz.ntmps163
 go_wp2_with fail
 have hA:=h.alloc (Q #[J Z f.sym,J Z f.kind,J Z f.depth,J Z f.list] 193)
 have hF:FB (w.alloc (Q #[J Z f.sym,J Z f.kind,J Z f.depth,J Z f.list] 193)) w.heap.size f:=⟨by simp,by simp,by simp,by simp⟩
 have D:=h.outNew
 have r:w.heap.size<(w.alloc (Q #[J Z f.sym,J Z f.kind,J Z f.depth,J Z f.list] 193)).heap.size:=by simp
 have F:Mv base B sv gv sv gv w (w.alloc (Q #[J Z f.sym,J Z f.kind,J Z f.depth,J Z f.list] 193)):=Mv.alloc h.bs _
 refine (a8.out _ hA).mono ?_
 rintro e d ⟨rfl,v,m⟩
 have G:=m.kept w.heap.size r D
 have y:=hF.of_block G.1
 have C:w.heap.size<d.heap.size:=Nat.lt_of_lt_of_le r m.bel.size
 have L:Hid (Mv base B sv gv sv gv w d):=F.trans m
 have A:Hid (RS d base B s p sv gv fs gs):=v
 have P:Hid (FB d w.heap.size f):=y
 have c1:=v.c1
 have b2:=y.c2
 clear F m hA hF r v G h y
 go_wp2_with fail
 refine (yC _ _ _ _).mono ?_
 rintro e w' ⟨rfl,a1⟩
 subst w'
 have z:Hid (RS ((d.alloc (xF f.depth)).alloc (xL 4 f.depth p)) base B s p sv gv fs gs):=(A.out.alloc _).alloc _
 have K:Hid (Mv base B sv gv sv gv w ((d.alloc (xF f.depth)).alloc (xL 4 f.depth p))):=(L.out.trans (Mv.alloc A.out.bs _)).trans (Mv.alloc (A.out.alloc _).bs _)
 have N:Hid (FB ((d.alloc (xF f.depth)).alloc (xL 4 f.depth p)) w.heap.size f):=P.out.of_block (by rw [Below.heap_alloc _ _ _ (by simp;omega),Below.heap_alloc _ _ _ C])
 obtain ⟨l0,l1,l2,l3,l4,l5,l6,l7,W,V,U,S⟩:=YW d 4 f.depth p
 have b1:d.heap.size+1<((d.alloc (xF f.depth)).alloc (xL 4 f.depth p)).heap.size:=by simp
 have b4:=fun w=>ZA 263 2 (-1) w
 go_wp2_with fail
 generalize (d.alloc (xF f.depth)).alloc (xL 4 f.depth p)=w3 at *
 clear c1 b2
 refine (zD _ _ (by omega) (by omega)).mono ?_
 rintro e w' ⟨rfl,a1⟩
 subst w'
 go_wp2_with fail
 refine (Z0 base B _ _ s p sv gv fs [byF 61,⟨263,2,0,-1⟩] gs _ _ (z.out.alloc _) (by simp) (by rfl) (by simp;omega) _ rfl).mono ?_
 rintro e w' ⟨rfl,sv',hr,hm⟩
 have a:Hid (RS w' base B s p sv' gv ([byF 61,⟨263,2,0,-1⟩]++fs) gs):=hr
 obtain ⟨j,i,l⟩:∃ j,Below w3.heap.size w3 j/\Mv base B sv gv sv' gv j w':=⟨_,by repeat (first | exact Below.refl _ _ | refine Below.drew ?_ | refine Below.alloc ?_ (by simp<;>omega) _),hm⟩
 have a9:Hid (Mv base B sv gv sv' gv w w'):=(K.out.trans (Mv.of_below i z.out.bs)).trans l
 have b0:w.heap.size<w'.heap.size:=by have h1:=i.size;have h2:=l.bel.size;omega
 have I:FB w' w.heap.size f:=N.out.of_block (by
  have h1:w.heap.size<w3.heap.size:=by omega
  rw [(l.kept _ (Nat.lt_of_lt_of_le h1 i.size) D).1,i.block _ h1])
 have b2:=I.c2
 have c3:=a.out.c3
 have z3:=a.out.fz 3
 have b7:=a.out.lt
 have zf:∀ o,(w'.alloc o).frozen? ⟨B,3,none⟩=false:=fun o=>(a.out.alloc o).fz 3
 have a5:Hid (gs.length+1<=maxLen):=by show _<=_;unfold maxLen;omega
 have a4:Hid ((gs.length+1)*48<=140737488355328):=by show _<=_;omega
 have E:Hid (∀ u∈sgV ⟨3,p,f.depth,-1,ByteArray.empty⟩,u.oneCell'=true):=fun u hu=>by simp [sgV] at hu;rcases hu with rfl | rfl | rfl | rfl | rfl<;>rfl
 have a3:Hid (∀ o:Obj,base<=(w'.alloc o).drew.heap.size):=fun o=>by have:=a.out.bs;show base<=(w'.alloc o).heap.size;simp;omega
 clear hr hm i l I  W V U S l0 l1 l2 l3 l4 l5 l6 l7 z K N P L
 go_wp2_with fail
 go_region_law ((refine step_append_lies _ (by rfl) _ _ _ (by rfl) base 162 i0 _ 5 48 Tryz.underlying157 a2 a0 Y X rfl (by decide) gv _ _ (by rfl) ((a.out.sg.alloc _).drew) ⟨w'.heap.size,0,none⟩ 1 1 (sgV ⟨3,p,f.depth,-1,ByteArray.empty⟩) (by rfl) (by rfl) (World.news_of_block (cs:=#[J Z 3,J Z p,J Z f.depth,J Z (-1),.string ByteArray.empty]) (t:=162) (fr:=(0,0)) (heap_alloc_new w' _)) E.out (Nat.lt_succ_self 0) a5.out a4.out (a3.out _) (w'.heap.size+1) (by simp) ?_;intro R n w5 q b H b3;obtain ⟨y0,y1,y3,yz,_⟩:=a.out.grown3 b))
 all_goals
  have x:=a.out.signed rfl q b H
  have a7:Hid (RS (w5.setCell ⟨B,3,none⟩ (O (some ⟨R,0,none⟩) (gs.length+1) n)) base B s p sv' (O (some ⟨R,0,none⟩) (gs.length+1) n) ([byF 61,⟨263,2,0,-1⟩]++fs) (⟨3,p,f.depth,-1,ByteArray.empty⟩::gs)):=x.1
  have a6:Hid (Mv base B sv' gv sv' (O (some ⟨R,0,none⟩) (gs.length+1) n) w' (w5.setCell ⟨B,3,none⟩ (O (some ⟨R,0,none⟩) (gs.length+1) n))):=x.2
  clear x q b H y0 y1 y3 yz
  go_wp2_with fail
  go_ret
  exact ⟨rfl,sv',_,a7.out,a9.out.trans a6.out⟩
theorem zeA (base B:Nat) (s:ByteArray) (k p:Nat) (f:FR) (c:Int) (sv gv:Value) (fs:List FR) (gs:List SG) (w:World) (h:RS w base B s k sv gv fs gs) (hs:s.size<=2000) (hk:k<=s.size) (hpe:T.sk s k=p) (hc:T.ch s p=c)
 (d0:0<=f.depth) (d1:f.depth<=1000000) (n119:(c==119)=false) (n109:(c==109)=false) (n103:(c==103)=false) (n123:(c==123)=false) (n102:(c==102)=false) (n116:(c==116)=false) (n64:(c==64)=false) (n61:(c==61)=false) :
 Calls Tryz.prog 163 #[.pointer (some ⟨B,0,none⟩),frA f] w fun e w'=>e=.returned (.bool false)/\RS w' base B s p sv gv fs gs/\Mv base B sv gv sv gv w w':=by
 have a:=fun (wz:World) (hz:RS wz base B s k sv gv fs gs)=>zG base B s k sv gv fs gs wz hs hk hz
 rw [hpe,hc] at a
 have o:Hid _:=a
 clear hpe a hk hc
 have z:=fun w=>ZO 258 (f.depth+1) w
 unfold frA
 go_enter Tryz.func163,Tryz.ntmps163
 go_wp2_with fail
 have x:=h.alloc (Q #[J Z f.sym,J Z f.kind,J Z f.depth,J Z f.list] 193)
 have v:FB (w.alloc (Q #[J Z f.sym,J Z f.kind,J Z f.depth,J Z f.list] 193)) w.heap.size f:=⟨by simp,by simp,by simp,by simp⟩
 have n:=h.outNew
 have d:w.heap.size<(w.alloc (Q #[J Z f.sym,J Z f.kind,J Z f.depth,J Z f.list] 193)).heap.size:=by simp
 have j:Mv base B sv gv sv gv w (w.alloc (Q #[J Z f.sym,J Z f.kind,J Z f.depth,J Z f.list] 193)):=Mv.alloc h.bs _
 refine (o.out _ x).mono ?_
 rintro e r ⟨rfl,g,b⟩
 have l:=b.kept w.heap.size d n
 have m:=v.of_block l.1
 have u:w.heap.size<r.heap.size:=Nat.lt_of_lt_of_le d b.bel.size
 have q:Hid (Mv base B sv gv sv gv w r):=j.trans b
 have i:Hid _:=g
 have c1:=g.c1
 have A:=m.c2
 clear j b x v d g l h m
 go_wp2_with fail
 refine (yC _ _ _ _).mono ?_
 rintro e w' ⟨rfl,y⟩
 subst w'
 go_wp2_with fail
 go_ret
 exact ⟨rfl,(i.out.alloc _).alloc _,(q.out.trans (Mv.alloc i.out.bs _)).trans (Mv.alloc (i.out.alloc _).bs _)⟩
theorem zc8 (base B:Nat) (s:ByteArray) (k:Nat) (f:FR) (sv gv:Value) (fs:List FR) (gs:List SG) (w:World) (h:RS w base B s k sv gv fs gs) (hs:s.size<=2000) (hk:k<=s.size)
 (hlen:fs.length+7<=1099511627776) (hlen2:gs.length+1<=1099511627776) (d0:0<=f.depth) (d1:f.depth<=1000000) :
 Calls Tryz.prog 163 #[.pointer (some ⟨B,0,none⟩),frA f] w fun e w' =>
  (Yi f.depth (T.sk s k) (T.ch s (T.sk s k))=none/\e=.returned (.bool false)/\RS w' base B s (T.sk s k) sv gv fs gs/\Mv base B sv gv sv gv w w') \/
  ∃ l,Yi f.depth (T.sk s k) (T.ch s (T.sk s k))=some l/\e=.returned (.bool true)/\∃ sv' gv',RS w' base B s (T.sk s k) sv' gv' (l++fs) (⟨3,T.sk s k,f.depth,-1,ByteArray.empty⟩::gs)/\Mv base B sv gv sv' gv' w w':=by
 generalize hpe:T.sk s k=p
 generalize hc:T.ch s p=c
 by_cases g:c=123
 ·refine (JT base B s k p f sv gv fs gs w h hs hk hpe (hc.trans g) hlen hlen2 d0 d1).mono ?_
  rintro e w' ⟨d,sv',gv',a,b⟩
  exact .inr ⟨_,by subst g;rfl,d,sv',gv',a,b⟩
 by_cases i:c=119
 ·refine (zby base B s k p f sv gv fs gs w h hs hk hpe (hc.trans i) hlen hlen2 d0 d1).mono ?_
  rintro e w' ⟨d,sv',gv',a,b⟩
  exact .inr ⟨_,by subst i;rfl,d,sv',gv',a,b⟩
 by_cases o:c=102
 ·refine (JS base B s k p f sv gv fs gs w h hs hk hpe (hc.trans o) hlen hlen2 d0 d1).mono ?_
  rintro e w' ⟨d,sv',gv',a,b⟩
  exact .inr ⟨_,by subst o;rfl,d,sv',gv',a,b⟩
 by_cases m:c=109
 ·refine (zbB base B s k p f sv gv fs gs w h hs hk hpe (hc.trans m) hlen hlen2 d0 d1).mono ?_
  rintro e w' ⟨d,sv',gv',a,b⟩
  exact .inr ⟨_,by subst m;rfl,d,sv',gv',a,b⟩
 by_cases n:c=103
 ·refine (j3 base B s k p f sv gv fs gs w h hs hk hpe (hc.trans n) hlen hlen2 d0 d1).mono ?_
  rintro e w' ⟨d,sv',gv',a,b⟩
  exact .inr ⟨_,by subst n;rfl,d,sv',gv',a,b⟩
 by_cases j:c=116
 ·refine (zc6 base B s k p f sv gv fs gs w h hs hk hpe (hc.trans j) hlen hlen2 d0 d1).mono ?_
  rintro e w' ⟨d,sv',gv',a,b⟩
  exact .inr ⟨_,by subst j;rfl,d,sv',gv',a,b⟩
 by_cases q:c=64
 ·refine (JU base B s k p f sv gv fs gs w h hs hk hpe (hc.trans q) hlen hlen2 d0 d1).mono ?_
  rintro e w' ⟨d,sv',gv',a,b⟩
  exact .inr ⟨_,by subst q;rfl,d,sv',gv',a,b⟩
 by_cases r:c=61
 ·refine (zbz base B s k p f sv gv fs gs w h hs hk hpe (hc.trans r) hlen hlen2 d0 d1).mono ?_
  rintro e w' ⟨d,sv',gv',a,b⟩
  exact .inr ⟨_,by subst r;rfl,d,sv',gv',a,b⟩
 have u:Yi f.depth p c=none:=by unfold Yi;rw [if_neg g,if_neg i,if_neg o,if_neg m,if_neg n,if_neg j,if_neg q,if_neg r]
 refine (zeA base B s k p f c sv gv fs gs w h hs hk hpe hc d0 d1 (beq_eq_false_iff_ne.2 i) (beq_eq_false_iff_ne.2 m) (beq_eq_false_iff_ne.2 n) (beq_eq_false_iff_ne.2 g) (beq_eq_false_iff_ne.2 o) (beq_eq_false_iff_ne.2 j) (beq_eq_false_iff_ne.2 q) (beq_eq_false_iff_ne.2 r)).mono ?_
 rintro e w' ⟨d,a,b⟩
 exact .inl ⟨u,d,a,b⟩
theorem zcW (base B:Nat) (s:ByteArray) (k:Nat) (f:FR) (sv gv:Value) (fs:List FR) (gs:List SG) (w:World) (h:RS w base B s k sv gv fs gs) (hlen:fs.length+3<=1099511627776) (d0:0<=f.depth) (d1:f.depth<=1000000) :
 Calls Tryz.prog 164 #[.pointer (some ⟨B,0,none⟩),frA f] w fun e w'=>e=.returned (.tuple #[])/\∃ sv',RS w' base B s k sv' gv (Zy f++fs) gs/\Mv base B sv gv sv' gv w w':=by
 have A:=fun w=>ZO 258 (f.depth+1) w
 have y:=h.alloc (Q #[J Z f.sym,J Z f.kind,J Z f.depth,J Z f.list] 193)
 have x:=y.alloc (Q #[J Z 258,J Z 0,J Z (f.depth+1),J Z 0] 193)
 have d:Hid _:=x
 have j:Hid (Mv base B sv gv sv gv w ((w.alloc (Q #[J Z f.sym,J Z f.kind,J Z f.depth,J Z f.list] 193)).alloc (Q #[J Z 258,J Z 0,J Z (f.depth+1),J Z 0] 193))):=(Mv.alloc h.bs _).trans (Mv.alloc y.bs _)
 clear y x
 have u:Hid (((w.alloc (Q #[J Z f.sym,J Z f.kind,J Z f.depth,J Z f.list] 193)).alloc (Q #[J Z 258,J Z 0,J Z (f.depth+1),J Z 0] 193)).cell? ⟨w.heap.size,3,none⟩=some (J Z f.list)):=by show _=_;simp
 have r:Hid (((w.alloc (Q #[J Z f.sym,J Z f.kind,J Z f.depth,J Z f.list] 193)).alloc (Q #[J Z 258,J Z 0,J Z (f.depth+1),J Z 0] 193)).cell? ⟨w.heap.size+1,0,none⟩=some (J Z 258)):=by show _=_;simp
 have q:Hid (((w.alloc (Q #[J Z f.sym,J Z f.kind,J Z f.depth,J Z f.list] 193)).alloc (Q #[J Z 258,J Z 0,J Z (f.depth+1),J Z 0] 193)).cell? ⟨w.heap.size+1,1,none⟩=some (J Z 0)):=by show _=_;simp
 have p:Hid (((w.alloc (Q #[J Z f.sym,J Z f.kind,J Z f.depth,J Z f.list] 193)).alloc (Q #[J Z 258,J Z 0,J Z (f.depth+1),J Z 0] 193)).cell? ⟨w.heap.size+1,2,none⟩=some (J Z (f.depth+1))):=by show _=_;simp
 have o:Hid (((w.alloc (Q #[J Z f.sym,J Z f.kind,J Z f.depth,J Z f.list] 193)).alloc (Q #[J Z 258,J Z 0,J Z (f.depth+1),J Z 0] 193)).cell? ⟨w.heap.size+1,3,none⟩=some (J Z 0)):=by show _=_;simp
 have n:Hid (w.heap.size+1<((w.alloc (Q #[J Z f.sym,J Z f.kind,J Z f.depth,J Z f.list] 193)).alloc (Q #[J Z 258,J Z 0,J Z (f.depth+1),J Z 0] 193)).heap.size):=by show _<_;simp
 cases k10:(f.kind==10) with
 | true =>
  have m:Hid (Zy f=[⟨261,4,0,f.list⟩,byF 42,⟨261,5,0,-1⟩]):=by show _=_;unfold Zy;rw [if_pos (by simpa using k10)]
  have l:=fun w=>ZA 261 4 f.list w
  have z:=fun w=>ZA 261 5 (-1) w
  unfold frA
  go_enter Tryz.func164,Tryz.ntmps164
  go_wp2_with fail
  have u:=u.out
  have r:=r.out
  have q:=q.out
  have p:=p.out
  have o:=o.out
  have n:=n.out
  generalize ((w.alloc (Q #[J Z f.sym,J Z f.kind,J Z f.depth,J Z f.list] 193)).alloc (Q #[J Z 258,J Z 0,J Z (f.depth+1),J Z 0] 193))=w2 at *
  have v:w.heap.size<w2.heap.size:=by omega
  go_region_with (first | (go_at_call 162;refine (zD _ _ (by omega) (by omega)).mono ?_;rintro e w' ⟨rfl,rfl⟩) | (go_at_call 133;refine (yJ base B _ _ s k sv gv fs [⟨261,4,0,f.list⟩,byF 42,⟨261,5,0,-1⟩] gs _ _ (d.out.alloc _) (by simp) (by rfl) (by simp;omega) _ rfl).mono ?_;rintro e w' ⟨rfl,sv',g,i⟩))
  all_goals
   have a:Hid _:=g
   have b:Hid (Mv base B sv gv sv' gv w w'):=(j.out.trans (Mv.alloc d.out.bs _)).trans i
   clear g i
   go_wp2_with fail
   go_end0
   exact ⟨rfl,sv',by rw [m.out];exact a.out,b.out⟩
 | false =>
  cases k9:(f.kind==9) with
  | true =>
   have m:Hid (Zy f=[⟨262,9,0,f.list⟩,byF 58,⟨258,0,f.depth+1,0⟩]):=by show _=_;unfold Zy;rw [if_neg (by simpa using k10),if_pos (by simpa using k9)]
   have l:=fun w=>ZA 262 9 f.list w
   unfold frA
   go_enter Tryz.func164,Tryz.ntmps164
   go_wp2_with fail
   have u:=u.out
   have r:=r.out
   have q:=q.out
   have p:=p.out
   have o:=o.out
   have n:=n.out
   generalize ((w.alloc (Q #[J Z f.sym,J Z f.kind,J Z f.depth,J Z f.list] 193)).alloc (Q #[J Z 258,J Z 0,J Z (f.depth+1),J Z 0] 193))=w2 at *
   have v:w.heap.size<w2.heap.size:=by omega
   go_region_with (first | (go_at_call 162;refine (zD _ _ (by omega) (by omega)).mono ?_;rintro e w' ⟨rfl,rfl⟩) | (go_at_call 133;refine (yJ base B _ _ s k sv gv fs [⟨262,9,0,f.list⟩,byF 58,⟨258,0,f.depth+1,0⟩] gs _ _ (d.out.alloc _) (by simp) (by rfl) (by simp;omega) _ rfl).mono ?_;rintro e w' ⟨rfl,sv',g,i⟩))
   all_goals
    have a:Hid _:=g
    have b:Hid (Mv base B sv gv sv' gv w w'):=(j.out.trans (Mv.alloc d.out.bs _)).trans i
    clear g i
    go_wp2_with fail
    go_end0
    exact ⟨rfl,sv',by rw [m.out];exact a.out,b.out⟩
  | false =>
   cases k7:(f.kind==7) with
   | true =>
    have m:Hid (Zy f=[⟨261,7,0,f.list⟩,byF 58,⟨258,0,f.depth+1,0⟩]):=by show _=_;unfold Zy;rw [if_neg (by simpa using k10),if_neg (by simpa using k9),if_pos (by simpa using k7)]
    have l:=fun w=>ZA 261 7 f.list w
    unfold frA
    go_enter Tryz.func164,Tryz.ntmps164
    go_wp2_with fail
    have u:=u.out
    have r:=r.out
    have q:=q.out
    have p:=p.out
    have o:=o.out
    have n:=n.out
    generalize ((w.alloc (Q #[J Z f.sym,J Z f.kind,J Z f.depth,J Z f.list] 193)).alloc (Q #[J Z 258,J Z 0,J Z (f.depth+1),J Z 0] 193))=w2 at *
    have v:w.heap.size<w2.heap.size:=by omega
    go_region_with (first | (go_at_call 162;refine (zD _ _ (by omega) (by omega)).mono ?_;rintro e w' ⟨rfl,rfl⟩) | (go_at_call 133;refine (yJ base B _ _ s k sv gv fs [⟨261,7,0,f.list⟩,byF 58,⟨258,0,f.depth+1,0⟩] gs _ _ (d.out.alloc _) (by simp) (by rfl) (by simp;omega) _ rfl).mono ?_;rintro e w' ⟨rfl,sv',g,i⟩))
    all_goals
     have a:Hid _:=g
     have b:Hid (Mv base B sv gv sv' gv w w'):=(j.out.trans (Mv.alloc d.out.bs _)).trans i
     clear g i
     go_wp2_with fail
     go_end0
     exact ⟨rfl,sv',by rw [m.out];exact a.out,b.out⟩
   | false =>
    have m:Hid (Zy f=[⟨261,4,0,f.list⟩]):=by show _=_;unfold Zy;rw [if_neg (by simpa using k10),if_neg (by simpa using k9),if_neg (by simpa using k7)]
    have l:=fun w=>ZA 261 4 f.list w
    unfold frA
    go_enter Tryz.func164,Tryz.ntmps164
    go_wp2_with fail
    refine (Z0 base B _ _ s k sv gv fs [⟨261,4,0,f.list⟩] gs _ _ d.out (by simp) (by rfl) (by simp;omega) _ rfl).mono ?_
    rintro e w' ⟨rfl,sv',g,i⟩
    have a:Hid _:=g
    have b:Hid _:=j.out.trans i
    clear g i
    go_wp2_with fail
    go_end0
    exact ⟨rfl,sv',by rw [m.out];exact a.out,b.out⟩
def SP (base B:Nat) (s:ByteArray) (sv gv:Value) (fs:List FR) (gs:List SG) (w:World) (r:Res) (e:Ending) (w':World):Prop :=
 e=.returned (.bool r.ok)/\∃ sv' gv',RS w' base B s r.at_ sv' gv' (r.push++fs) (r.sg++gs)/\Mv base B sv gv sv' gv' w w'
theorem zaF (base B:Nat) (s:ByteArray) (k p:Nat) (c kd d l:Int) (sv gv:Value) (fs:List FR) (gs:List SG) (w:World) (h:RS w base B s k sv gv fs gs) (hs:s.size<=2000) (hk:k<=s.size) (hpe:T.sk s k=p) (hc:T.ch s p=c)
 (_hlen:fs.length+7<=1099511627776) (_hlen2:gs.length+1<=1099511627776) :
 Calls Tryz.prog 134 #[.pointer (some ⟨B,0,none⟩),frA ⟨256,kd,d,l⟩] w (SP base B s sv gv fs gs w ⟨true,p,[⟨263,1,0,-1⟩,byF 58,⟨258,0,0,0⟩],[]⟩):=by
 show Calls Tryz.prog 134 #[.pointer (some ⟨B,0,none⟩),.agg #[J Z 256,J Z kd,J Z d,J Z l]] w _
 have K:p<=s.size:=by rw [<- hpe];exact T.sk_le hk
 have a:=fun (wz:World) (hz:RS wz base B s k sv gv fs gs)=>zG base B s k sv gv fs gs wz hs hk hz
 rw [hpe,hc] at a
 have x:Hid _:=a
 clear a
 go_enter Tryz.func134,Tryz.ntmps134
 go_wp2_with fail
 have H:=h.alloc (Q #[J Z 256,J Z kd,J Z d,J Z l] 193)
 have G:FB (w.alloc (Q #[J Z 256,J Z kd,J Z d,J Z l] 193)) w.heap.size ⟨256,kd,d,l⟩:=⟨by simp,by simp,by simp,by simp⟩
 have u:=h.outNew
 have f:w.heap.size<(w.alloc (Q #[J Z 256,J Z kd,J Z d,J Z l] 193)).heap.size:=by simp
 have m:Mv base B sv gv sv gv w (w.alloc (Q #[J Z 256,J Z kd,J Z d,J Z l] 193)):=Mv.alloc h.bs _
 refine (x.out _ H).mono ?_
 rintro e q ⟨rfl,j,b⟩
 have n:=b.kept w.heap.size f u
 have g:=G.of_block n.1
 have A:w.heap.size<q.heap.size:=Nat.lt_of_lt_of_le f b.bel.size
 have z:Hid (Mv base B sv gv sv gv w q):=m.trans b
 have o:Hid _:=j
 have L:Hid _:=g
 have N:q.cell? ⟨w.heap.size,0,none⟩=some (J Z 256):=g.c0
 clear m b H G f j n h g
 have F:=fun w=>ZA 263 1 (-1) w
 have E:=fun w=>xC 258 w
 go_wp2_with fail
 refine (zD _ _ (by omega) (by omega)).mono ?_
 rintro e r ⟨rfl,I⟩
 subst r
 go_wp2_with fail
 refine (Z0 base B _ _ s p sv gv fs [⟨263,1,0,-1⟩,byF 58,⟨258,0,0,0⟩] gs _ _ (o.out.alloc _) (by simp) (by rfl) (by simp;omega) _ rfl).mono ?_
 rintro e r ⟨rfl,i,C,D⟩
 have v:Hid _:=C
 have y:Hid (Mv base B sv gv i gv w r):=(z.out.trans (Mv.alloc o.out.bs _)).trans D
 clear C D
 go_wp2_with fail
 go_ret
 exact ⟨rfl,i,gv,v.out,y.out⟩
theorem zaG (base B:Nat) (s:ByteArray) (k p:Nat) (c kd d l:Int) (sv gv:Value) (fs:List FR) (gs:List SG) (w:World) (h:RS w base B s k sv gv fs gs) (hs:s.size<=2000) (hk:k<=s.size) (hpe:T.sk s k=p) (hc:T.ch s p=c)
 (_hlen:fs.length+7<=1099511627776) (_hlen2:gs.length+1<=1099511627776) (hc2:c=59) :
 Calls Tryz.prog 134 #[.pointer (some ⟨B,0,none⟩),frA ⟨257,kd,d,l⟩] w (SP base B s sv gv fs gs w ⟨true,p,[byF 59,⟨256,0,0,0⟩,⟨257,0,0,0⟩],[]⟩):=by
 show Calls Tryz.prog 134 #[.pointer (some ⟨B,0,none⟩),.agg #[J Z 257,J Z kd,J Z d,J Z l]] w _
 have K:p<=s.size:=by rw [<- hpe];exact T.sk_le hk
 have a:=fun (wz:World) (hz:RS wz base B s k sv gv fs gs)=>zG base B s k sv gv fs gs wz hs hk hz
 rw [hpe,hc] at a
 have x:Hid _:=a
 have L:(c==59)=true:=by rw [hc2];decide
 clear a
 go_enter Tryz.func134,Tryz.ntmps134
 go_wp2_with fail
 have H:=h.alloc (Q #[J Z 257,J Z kd,J Z d,J Z l] 193)
 have G:FB (w.alloc (Q #[J Z 257,J Z kd,J Z d,J Z l] 193)) w.heap.size ⟨257,kd,d,l⟩:=⟨by simp,by simp,by simp,by simp⟩
 have u:=h.outNew
 have f:w.heap.size<(w.alloc (Q #[J Z 257,J Z kd,J Z d,J Z l] 193)).heap.size:=by simp
 have m:Mv base B sv gv sv gv w (w.alloc (Q #[J Z 257,J Z kd,J Z d,J Z l] 193)):=Mv.alloc h.bs _
 refine (x.out _ H).mono ?_
 rintro e q ⟨rfl,j,b⟩
 have n:=b.kept w.heap.size f u
 have g:=G.of_block n.1
 have A:w.heap.size<q.heap.size:=Nat.lt_of_lt_of_le f b.bel.size
 have z:Hid (Mv base B sv gv sv gv w q):=m.trans b
 have o:Hid _:=j
 have N:Hid _:=g
 have O:q.cell? ⟨w.heap.size,0,none⟩=some (J Z 257):=g.c0
 clear m b H G f j n h g
 have F:=fun w=>xC 256 w
 have E:=fun w=>xC 257 w
 go_wp2_with fail
 refine (zD _ _ (by omega) (by omega)).mono ?_
 rintro e r ⟨rfl,I⟩
 subst r
 go_wp2_with fail
 refine (Z0 base B _ _ s p sv gv fs [byF 59,⟨256,0,0,0⟩,⟨257,0,0,0⟩] gs _ _ (o.out.alloc _) (by simp) (by rfl) (by simp;omega) _ rfl).mono ?_
 rintro e r ⟨rfl,i,C,D⟩
 have v:Hid _:=C
 have y:Hid (Mv base B sv gv i gv w r):=(z.out.trans (Mv.alloc o.out.bs _)).trans D
 clear C D
 go_wp2_with fail
 go_ret
 exact ⟨rfl,i,gv,v.out,y.out⟩
theorem QT (base B:Nat) (s:ByteArray) (k p:Nat) (c kd d l:Int) (sv gv:Value) (fs:List FR) (gs:List SG) (w:World) (h:RS w base B s k sv gv fs gs) (hs:s.size<=2000) (hk:k<=s.size) (hpe:T.sk s k=p) (hc:T.ch s p=c)
 (_hlen:fs.length+7<=1099511627776) (_hlen2:gs.length+1<=1099511627776) (hc2:c≠59) :
 Calls Tryz.prog 134 #[.pointer (some ⟨B,0,none⟩),frA ⟨257,kd,d,l⟩] w (SP base B s sv gv fs gs w ⟨true,p,[],[]⟩):=by
 show Calls Tryz.prog 134 #[.pointer (some ⟨B,0,none⟩),.agg #[J Z 257,J Z kd,J Z d,J Z l]] w _
 have z:p<=s.size:=by rw [<- hpe];exact T.sk_le hk
 have a:=fun (wz:World) (hz:RS wz base B s k sv gv fs gs)=>zG base B s k sv gv fs gs wz hs hk hz
 rw [hpe,hc] at a
 have r:Hid _:=a
 have A:(c==59)=false:=by rw [beq_eq_false_iff_ne];exact hc2
 clear a
 go_enter Tryz.func134,Tryz.ntmps134
 go_wp2_with fail
 have y:=h.alloc (Q #[J Z 257,J Z kd,J Z d,J Z l] 193)
 have x:FB (w.alloc (Q #[J Z 257,J Z kd,J Z d,J Z l] 193)) w.heap.size ⟨257,kd,d,l⟩:=⟨by simp,by simp,by simp,by simp⟩
 have o:=h.outNew
 have f:w.heap.size<(w.alloc (Q #[J Z 257,J Z kd,J Z d,J Z l] 193)).heap.size:=by simp
 have j:Mv base B sv gv sv gv w (w.alloc (Q #[J Z 257,J Z kd,J Z d,J Z l] 193)):=Mv.alloc h.bs _
 refine (r.out _ y).mono ?_
 rintro e n ⟨rfl,i,b⟩
 have m:=b.kept w.heap.size f o
 have g:=x.of_block m.1
 have v:w.heap.size<n.heap.size:=Nat.lt_of_lt_of_le f b.bel.size
 have u:Hid (Mv base B sv gv sv gv w n):=j.trans b
 have q:Hid _:=i
 have C:Hid _:=g
 have D:n.cell? ⟨w.heap.size,0,none⟩=some (J Z 257):=g.c0
 clear j b y x f i m h g
 go_wp2_with fail
 go_ret
 exact ⟨rfl,sv,gv,q.out,u.out⟩
theorem Qi (base B:Nat) (s:ByteArray) (k p:Nat) (c kd d l:Int) (sv gv:Value) (fs:List FR) (gs:List SG) (w:World) (h:RS w base B s k sv gv fs gs) (hs:s.size<=2000) (hk:k<=s.size) (hpe:T.sk s k=p) (hc:T.ch s p=c)
 (_hlen:fs.length+7<=1099511627776) (_hlen2:gs.length+1<=1099511627776) (hc2:c≠44) :
 Calls Tryz.prog 134 #[.pointer (some ⟨B,0,none⟩),frA ⟨260,kd,d,l⟩] w (SP base B s sv gv fs gs w ⟨true,p,[],[]⟩):=by
 show Calls Tryz.prog 134 #[.pointer (some ⟨B,0,none⟩),.agg #[J Z 260,J Z kd,J Z d,J Z l]] w _
 have z:p<=s.size:=by rw [<- hpe];exact T.sk_le hk
 have a:=fun (wz:World) (hz:RS wz base B s k sv gv fs gs)=>zG base B s k sv gv fs gs wz hs hk hz
 rw [hpe,hc] at a
 have r:Hid _:=a
 have A:(c==44)=false:=by rw [beq_eq_false_iff_ne];exact hc2
 clear a
 go_enter Tryz.func134,Tryz.ntmps134
 go_wp2_with fail
 have y:=h.alloc (Q #[J Z 260,J Z kd,J Z d,J Z l] 193)
 have x:FB (w.alloc (Q #[J Z 260,J Z kd,J Z d,J Z l] 193)) w.heap.size ⟨260,kd,d,l⟩:=⟨by simp,by simp,by simp,by simp⟩
 have o:=h.outNew
 have f:w.heap.size<(w.alloc (Q #[J Z 260,J Z kd,J Z d,J Z l] 193)).heap.size:=by simp
 have j:Mv base B sv gv sv gv w (w.alloc (Q #[J Z 260,J Z kd,J Z d,J Z l] 193)):=Mv.alloc h.bs _
 refine (r.out _ y).mono ?_
 rintro e n ⟨rfl,i,b⟩
 have m:=b.kept w.heap.size f o
 have g:=x.of_block m.1
 have v:w.heap.size<n.heap.size:=Nat.lt_of_lt_of_le f b.bel.size
 have u:Hid (Mv base B sv gv sv gv w n):=j.trans b
 have q:Hid _:=i
 have C:Hid _:=g
 have D:n.cell? ⟨w.heap.size,0,none⟩=some (J Z 260):=g.c0
 clear j b y x f i m h g
 go_wp2_with fail
 go_ret
 exact ⟨rfl,sv,gv,q.out,u.out⟩
theorem zaH (base B:Nat) (s:ByteArray) (k p:Nat) (c kd d l:Int) (sv gv:Value) (fs:List FR) (gs:List SG) (w:World) (h:RS w base B s k sv gv fs gs) (hs:s.size<=2000) (hk:k<=s.size) (hpe:T.sk s k=p) (hc:T.ch s p=c)
 (_hlen:fs.length+7<=1099511627776) (_hlen2:gs.length+1<=1099511627776) (d0:0<=d) (d1:d<=1000000) :
 Calls Tryz.prog 134 #[.pointer (some ⟨B,0,none⟩),frA ⟨259,kd,d,l⟩] w (SP base B s sv gv fs gs w ⟨true,p,Zy ⟨259,kd,d,l⟩,[]⟩):=by
 show Calls Tryz.prog 134 #[.pointer (some ⟨B,0,none⟩),.agg #[J Z 259,J Z kd,J Z d,J Z l]] w _
 have G:p<=s.size:=by rw [<- hpe];exact T.sk_le hk
 have a:=fun (wz:World) (hz:RS wz base B s k sv gv fs gs)=>zG base B s k sv gv fs gs wz hs hk hz
 rw [hpe,hc] at a
 have x:Hid _:=a
 clear a
 go_enter Tryz.func134,Tryz.ntmps134
 go_wp2_with fail
 have F:=h.alloc (Q #[J Z 259,J Z kd,J Z d,J Z l] 193)
 have E:FB (w.alloc (Q #[J Z 259,J Z kd,J Z d,J Z l] 193)) w.heap.size ⟨259,kd,d,l⟩:=⟨by simp,by simp,by simp,by simp⟩
 have r:=h.outNew
 have f:w.heap.size<(w.alloc (Q #[J Z 259,J Z kd,J Z d,J Z l] 193)).heap.size:=by simp
 have n:Mv base B sv gv sv gv w (w.alloc (Q #[J Z 259,J Z kd,J Z d,J Z l] 193)):=Mv.alloc h.bs _
 refine (x.out _ F).mono ?_
 rintro e j ⟨rfl,m,b⟩
 have o:=b.kept w.heap.size f r
 have g:=E.of_block o.1
 have A:w.heap.size<j.heap.size:=Nat.lt_of_lt_of_le f b.bel.size
 have z:Hid (Mv base B sv gv sv gv w j):=n.trans b
 have v:Hid _:=m
 have i:Hid _:=g
 have N:j.cell? ⟨w.heap.size,0,none⟩=some (J Z 259):=g.c0
 clear n b F E f m o h g
 have L:j.cell? ⟨w.heap.size,1,none⟩=some (J Z kd):=i.out.c1
 have K:j.cell? ⟨w.heap.size,2,none⟩=some (J Z d):=i.out.c2
 have I:j.cell? ⟨w.heap.size,3,none⟩=some (J Z l):=i.out.c3
 go_wp2_with fail
 refine (zcW base B s p ⟨259,kd,d,l⟩ sv gv fs gs _ v.out (by omega) d0 d1).mono ?_
 rintro e H ⟨rfl,q,C,D⟩
 have u:Hid _:=C
 have y:Hid _:=z.out.trans D
 clear C D
 go_wp2_with fail
 go_ret
 exact ⟨rfl,q,gv,u.out,y.out⟩
theorem jx (base B:Nat) (s:ByteArray) (k p:Nat) (c kd d l:Int) (sv gv:Value) (fs:List FR) (gs:List SG) (w:World) (h:RS w base B s k sv gv fs gs) (hs:s.size<=2000) (hk:k<=s.size) (hpe:T.sk s k=p) (hc:T.ch s p=c)
 (_hlen:fs.length+7<=1099511627776) (_hlen2:gs.length+1<=1099511627776) (hc2:97<=c) (hc3:c<=122) (hp1:p<s.size) :
 Calls Tryz.prog 134 #[.pointer (some ⟨B,0,none⟩),frA ⟨263,kd,d,l⟩] w (SP base B s sv gv fs gs w ⟨true,p+1,[],[⟨kd,p,d,l,s.extract p (p+1)⟩]⟩):=by
 show Calls Tryz.prog 134 #[.pointer (some ⟨B,0,none⟩),.agg #[J Z 263,J Z kd,J Z d,J Z l]] w _
 have Y:p<=s.size:=by rw [<- hpe];exact T.sk_le hk
 have f:=fun (wz:World) (hz:RS wz base B s k sv gv fs gs)=>zG base B s k sv gv fs gs wz hs hk hz
 rw [hpe,hc] at f
 have K:Hid _:=f
 clear f
 go_enter Tryz.func134,Tryz.ntmps134
 go_wp2_with fail
 have P:=h.alloc (Q #[J Z 263,J Z kd,J Z d,J Z l] 193)
 have O:FB (w.alloc (Q #[J Z 263,J Z kd,J Z d,J Z l] 193)) w.heap.size ⟨263,kd,d,l⟩:=⟨by simp,by simp,by simp,by simp⟩
 have n:=h.outNew
 have m:w.heap.size<(w.alloc (Q #[J Z 263,J Z kd,J Z d,J Z l] 193)).heap.size:=by simp
 have x:Mv base B sv gv sv gv w (w.alloc (Q #[J Z 263,J Z kd,J Z d,J Z l] 193)):=Mv.alloc h.bs _
 refine (K.out _ P).mono ?_
 rintro e b ⟨rfl,u,j⟩
 have z:=j.kept w.heap.size m n
 have q:=O.of_block z.1
 have r:w.heap.size<b.heap.size:=Nat.lt_of_lt_of_le m j.bel.size
 have D:Hid (Mv base B sv gv sv gv w b):=x.trans j
 have g:Hid _:=u
 have E:Hid _:=q
 have G:b.cell? ⟨w.heap.size,0,none⟩=some (J Z 263):=q.c0
 clear x j P O m u z h q
 have a2:¬ c<97:=by omega
 have a1:¬ 122<c:=by omega
 have c1:=g.out.c1
 have V:=g.out.fz 1
 have a0:(p:Int)<2000:=by omega
 go_wp2_with fail
 clear c1 V G
 have C:Hid (RS (b.setCell ⟨B,1,none⟩ (J Z ((p:Int)+1))) base B s (p+1) sv gv fs gs):=g.out.at (p+1) _ (by omega)
 have N:Hid (Mv base B sv gv sv gv w (b.setCell ⟨B,1,none⟩ (J Z ((p:Int)+1)))):=D.out.trans (g.out.atMv _)
 have i:FB (b.setCell ⟨B,1,none⟩ (J Z ((p:Int)+1))) w.heap.size ⟨263,kd,d,l⟩:=E.out.of_block (za n.1)
 have c1:=C.out.c1
 rw [Int.natCast_add,Int.natCast_one] at c1
 have G:(b.setCell ⟨B,1,none⟩ (J Z ((p:Int)+1))).cell? ⟨w.heap.size,0,none⟩=some (J Z 263):=i.c0
 have U:(b.setCell ⟨B,1,none⟩ (J Z ((p:Int)+1))).cell? ⟨w.heap.size,1,none⟩=some (J Z kd):=i.c1
 have S:(b.setCell ⟨B,1,none⟩ (J Z ((p:Int)+1))).cell? ⟨w.heap.size,2,none⟩=some (J Z d):=i.c2
 have R:(b.setCell ⟨B,1,none⟩ (J Z ((p:Int)+1))).cell? ⟨w.heap.size,3,none⟩=some (J Z l):=i.c3
 have H:w.heap.size<(b.setCell ⟨B,1,none⟩ (J Z ((p:Int)+1))).heap.size:=Nat.lt_of_lt_of_le r (g.out.atMv _).bel.size
 clear i E D
 generalize b.setCell ⟨B,1,none⟩ (J Z ((p:Int)+1))=w2 at *
 have X:(p:Int)+1-1=p:=by omega
 have W:IntKind.i64.wrap (p:Int)=p:=by unfold IntKind.wrap;simp [IntKind.signed,IntKind.bits];omega
 have o:Hid (∀ (w':World) (a:Value),RS w' base B s (p+1) sv a fs (⟨kd,p,d,l,s.extract p (p+1)⟩::gs)->Mv base B sv gv sv a w2.drew w'->w'.cell? ⟨B,1,none⟩=some (J Z ((p:Int)+1))/\w'.cell? ⟨w.heap.size,0,none⟩=some (J Z 263)/\w'.cell? ⟨w.heap.size,1,none⟩=some (J Z kd)/\w'.cell? ⟨w.heap.size,2,none⟩=some (J Z d)/\w'.cell? ⟨w.heap.size,3,none⟩=some (J Z l)):=by
  intro w' a v y
  have F:w'.heap[w.heap.size]?=w2.heap[w.heap.size]?:=(y.kept _ H n).1
  have A:=v.c1
  rw [Int.natCast_add,Int.natCast_one] at A
  exact ⟨A,by rw [World.cell?_of_block (w:=w2) F];exact G,by rw [World.cell?_of_block (w:=w2) F];exact U,by rw [World.cell?_of_block (w:=w2) F];exact S,by rw [World.cell?_of_block (w:=w2) F];exact R⟩
 go_region_held3 (fun w'=>w'.cell? ⟨B,1,none⟩=some (J Z ((p:Int)+1))/\w'.cell? ⟨w.heap.size,0,none⟩=some (J Z 263)/\w'.cell? ⟨w.heap.size,1,none⟩=some (J Z kd)/\w'.cell? ⟨w.heap.size,2,none⟩=some (J Z d)/\w'.cell? ⟨w.heap.size,3,none⟩=some (J Z l)) (first | (refine o.out _ _ v y;done) | (exact ⟨c1,G,U,S,R⟩)) (first | (go_at_call 166;refine (Xb base B s (p+1) p ⟨263,kd,d,l⟩ sv gv fs gs _ C.out.drew (by omega) hp1 _hlen2).mono ?_;rintro e w' ⟨rfl,a,v,y⟩))
 all_goals
  have I:Hid _:=v
  have L:Hid (Mv base B sv gv sv a w w'):=N.out.drew.trans y
  clear v y
  go_wp2_with fail
  go_ret
  exact ⟨rfl,sv,a,I.out,L.out⟩
end Go.Proofs.YtaebngpoagjafabGreat
