import Derived.Test.YtaebngpoagjafabGreatV14
set_option maxRecDepth 100000
set_option maxHeartbeats 1600000
namespace Go.Proofs.YtaebngpoagjafabGreat
open Obj renaming cells → X
open Value renaming int → J, slice → Q
open IntKind renaming i64 → Z, u8 → O
open Go.RowKit
attribute [local go_sem ↓] Go.wp_at_zero Go.wp_at_succ
section
attribute [local go_sem] zS zG
theorem QR (n base B:Nat) (s:ByteArray) (d:Int) (k:Nat) (b:Bool) (ev rv:Value) (es:List (EX×Value)) (rs:List RL) (w:World) (hs:s.size<=2000) (hk:k<=s.size) (_h0:0<=d) (_h1:d<=k) (hl:es.length<=k) (_hrl:rs.length<=2000) (hc:ze s (zb s k b) b=64) (h:PM w base B s k b ev rv es rs) (R:CR) (hR:Hid (cE s rs (n+1) d es.length k b=R)) :
 Calls Tryz.prog 125 #[.pointer (some ⟨B,0,none⟩),J Z d] w fun e w' =>
  e=.returned (J Z R.idx)/\∃ ev' new,new.map Prod.fst=R.es/\PM w' base B s R.k R.b ev' rv (es++new) rs/\Mv base B ev rv ev' rv w w'/\∀ p∈new,∀ g,p.2.ownBlock=some g->w.heap.size<=g:=by
 obtain ⟨i0,hi0,hz0,hz1,hz2⟩:=info_parts Tryz.infoExpr
 have H:Hid _:=h
 clear h
 go_enter Tryz.func125,Tryz.ntmps125
 go_wp2_with fail
 refine (ya base B s k b ev rv es rs _ hs hk H.out).mono ?_
 rintro e w1 ⟨rfl,hp,hm⟩
 have hKK:isK (ze s (zb s k b) b)=true:=by rw [hc];rfl
 have hlt:zb s k b<s.size:=(yS hKK).2
 have hkp:k<=zb s k b:=z7 s k b
 have hbf:b=false:=(yS hKK).1
 subst hbf
 rw [xM n d es.length k false hc] at hR
 clear hKK
 have hce:ze s (zb s k false) false=64:=hc
 have hpd:=fun (wz:World) (hz:PM wz base B s (zb s k false) false ev rv es rs)=>YN base B s (zb s k false) false ev rv es rs wz hz
 rw [hce] at hpd
 clear hce hc
 generalize zb s k false=p at *
 have HP1:Hid _:=hp
 have HM1:Hid _:=hm
 have c1:=hp.c1
 have hxou:=hp.outNew
 have hbs1:=hp.bs
 have hws:w.heap.size<=w1.heap.size:=hm.bel.size
 have hXB:w1.heap.size≠B:=hxou.1
 have hBX:B≠w1.heap.size:=fun e=>hxou.1 e.symm
 have hBl:=hp.lt
 clear hp hm
 have hbn:=fun w=>YS 64 p d w
 go_wp2_with fail
 go_region_held3 (fun w'=>w'.cell? ⟨B,1,none⟩=some (J Z p)) (first | (exact c1) | (exact Yr c1 _) | (exact yl hXB (Yr c1 _) _ _) | go_keep) (first | (go_at_call 127;refine (hpd _ (by first | exact HP1.out.drew | exact HP1.out.drew.alloc _ | exact HP1.out.alloc _ | exact HP1.out)).mono ?_;rintro e w' ⟨rfl,q,rfl⟩))
 all_goals
  have HP2:Hid (PM ((w1.alloc (X #[J O 64,J Z p,J Z d,J Z 0,J Z 0,Q none 0 0,J Z (-1)] 148)).drewN (1+q)) base B s p false ev rv es rs):=(HP1.out.alloc _).drewN _
  have HM2:Hid (Mv base B ev rv ev rv w ((w1.alloc (X #[J O 64,J Z p,J Z d,J Z 0,J Z 0,Q none 0 0,J Z (-1)] 148)).drewN (1+q))):=(HM1.out.trans (Mv.alloc hbs1 _)).drewN _
  have XH2:Hid (((w1.alloc (X #[J O 64,J Z p,J Z d,J Z 0,J Z 0,Q none 0 0,J Z (-1)] 148)).drewN (1+q)).heap[w1.heap.size]?=some (X #[J O 64,J Z p,J Z d,J Z 0,J Z 0,Q none 0 0,J Z (-1)] 148 (0,0))):=heap_alloc_new w1 _
  generalize (w1.alloc (X #[J O 64,J Z p,J Z d,J Z 0,J Z 0,Q none 0 0,J Z (-1)] 148)).drewN (1+q)=w2 at *
  clear c1 hbn
  have c1:=HP2.out.c1
  have z1:=HP2.out.fz 1
  have x0:w2.cell? ⟨w1.heap.size,0,none⟩=some (J O 64):=by simp [World.cell?,XH2.out]
  have hik:=fun w=>Zo 64 w
  rw [show isK 64=true from rfl] at hik
  go_wp2_with fail
  refine (hik _).mono ?_
  rintro e w3 ⟨hw3,rfl⟩
  subst w3
  have HP3:Hid (PM (w2.setCell ⟨B,1,none⟩ (J Z ((p:Int)+1))) base B s (p+1) false ev rv es rs):=HP2.out.at (p+1) _ (by omega)
  have HM3:Hid (Mv base B ev rv ev rv w (w2.setCell ⟨B,1,none⟩ (J Z ((p:Int)+1)))):=HM2.out.trans (HP2.out.setMv 1 _)
  have XH3:Hid ((w2.setCell ⟨B,1,none⟩ (J Z ((p:Int)+1))).heap[w1.heap.size]?=some (X #[J O 64,J Z p,J Z d,J Z 0,J Z 0,Q none 0 0,J Z (-1)] 148 (0,0))):=(za hXB).trans XH2.out
  have hp1:(p:Int)<2000:=by omega
  go_wp2_with fail
  clear c1 z1 x0
  refine (yR base B s (p+1) false ev rv es rs _ hs (by omega) HP3.out).mono ?_
  rintro e w4 ⟨rfl,hp,hm⟩
  have Pw4:Hid _:=hp
  have Mw4:Hid (Mv base B ev rv ev rv w w4):=(HM3.out).trans hm
  have Xw4:Hid _:=(hm.kept _ (lt_of_block (XH3.out)) hxou).1.trans (XH3.out)
  clear hp hm
  have x0:w4.cell? ⟨w1.heap.size,0,none⟩=some (J O 64):=by simp [World.cell?,Xw4.out]
  have x1:w4.cell? ⟨w1.heap.size,1,none⟩=some (J Z p):=by simp [World.cell?,Xw4.out]
  have x2:w4.cell? ⟨w1.heap.size,2,none⟩=some (J Z d):=by simp [World.cell?,Xw4.out]
  have x3:w4.cell? ⟨w1.heap.size,3,none⟩=some (J Z 0):=by simp [World.cell?,Xw4.out]
  have x4:w4.cell? ⟨w1.heap.size,4,none⟩=some (J Z 0):=by simp [World.cell?,Xw4.out]
  have x5:w4.cell? ⟨w1.heap.size,5,none⟩=some (Q none 0 0):=by simp [World.cell?,Xw4.out]
  have x6:w4.cell? ⟨w1.heap.size,6,none⟩=some (J Z (-1)):=by simp [World.cell?,Xw4.out]
  have xz:∀ j,w4.frozen? ⟨w1.heap.size,j,none⟩=false:=fun j=>by simp [World.frozen?,Xw4.out]
  have HP5:Hid (PM (((w4).setCell ⟨w1.heap.size,3,none⟩ (J Z (zI s (p+1) false))).setCell ⟨w1.heap.size,4,none⟩ (J Z (zb s (p+1) false))) base B s (zm s (p+1) false) (zu s (p+1) false) ev rv (es) rs):=((Pw4.out).setE (j:=3) (u:=J Z (zI s (p+1) false)) ⟨_,_,Xw4.out⟩ hxou.2.1).setE (j:=4) (u:=J Z (zb s (p+1) false)) ⟨_,_,(zX (j:=3) (u:=J Z (zI s (p+1) false)) (Xw4.out))⟩ hxou.2.1
  have HM5:Hid (Mv base B ev rv ev rv w (((w4).setCell ⟨w1.heap.size,3,none⟩ (J Z (zI s (p+1) false))).setCell ⟨w1.heap.size,4,none⟩ (J Z (zb s (p+1) false)))):=((Mw4.out).setNew (j:=3) hws hbs1 (J Z (zI s (p+1) false))).setNew (j:=4) hws hbs1 (J Z (zb s (p+1) false))
  have HX5:Hid ((((w4).setCell ⟨w1.heap.size,3,none⟩ (J Z (zI s (p+1) false))).setCell ⟨w1.heap.size,4,none⟩ (J Z (zb s (p+1) false))).heap[w1.heap.size]?=some (X #[J O 64,J Z p,J Z d,J Z (zI s (p+1) false),J Z (zb s (p+1) false),Q none 0 0,J Z (-1)] 148 (0,0))):=(zX (j:=4) (u:=J Z (zb s (p+1) false)) ((zX (j:=3) (u:=J Z (zI s (p+1) false)) (Xw4.out))))
  have HV5:Hid ((((w4).setCell ⟨w1.heap.size,3,none⟩ (J Z (zI s (p+1) false))).setCell ⟨w1.heap.size,4,none⟩ (J Z (zb s (p+1) false))).ownsRow base 155 7 (Q none 0 0) ((⟨64,p,d,zI s (p+1) false,zb s (p+1) false,[],-1⟩:EX)).items.length (imC ((⟨64,p,d,zI s (p+1) false,zb s (p+1) false,[],-1⟩:EX)).items)):=⟨rfl,.inl ⟨rfl,rfl⟩⟩
  go_wp2_with fail
  generalize ((w4).setCell ⟨w1.heap.size,3,none⟩ (J Z (zI s (p+1) false))).setCell ⟨w1.heap.size,4,none⟩ (J Z (zb s (p+1) false))=w5 at *
  clear x0 x1 x2 x3 x4 x5 x6 xz
  have x0:w5.cell? ⟨w1.heap.size,0,none⟩=some (J O 64):=by simp [World.cell?,HX5.out]
  have x1:w5.cell? ⟨w1.heap.size,1,none⟩=some (J Z p):=by simp [World.cell?,HX5.out]
  have x2:w5.cell? ⟨w1.heap.size,2,none⟩=some (J Z d):=by simp [World.cell?,HX5.out]
  have x3:w5.cell? ⟨w1.heap.size,3,none⟩=some (J Z (zI s (p+1) false)):=by simp [World.cell?,HX5.out]
  have x4:w5.cell? ⟨w1.heap.size,4,none⟩=some (J Z (zb s (p+1) false)):=by simp [World.cell?,HX5.out]
  have x5:w5.cell? ⟨w1.heap.size,5,none⟩=some (Q none 0 0):=by simp [World.cell?,HX5.out]
  have x6:w5.cell? ⟨w1.heap.size,6,none⟩=some (J Z (-1)):=by simp [World.cell?,HX5.out]
  have c3:=HP5.out.c3
  have hB5:=HP5.out.lt
  have hX5:w1.heap.size<w5.heap.size:=lt_of_block HX5.out
  have z3:=HP5.out.fz 3
  obtain ⟨n9,hn9⟩:∃ n9,n9=(es).length:=⟨_,rfl⟩
  have HN9:Hid _:=hn9
  have HE9:Hid (w5.ownsRow base 148 7 ev n9 (exC (es))):=by show World.ownsRow _ _ _ _ _ _ _;rw [hn9];exact HP5.out.ex
  have hl9:(n9:Int)<5000:=by rw [hn9];omega
  clear hn9
  have hA1:Hid (n9+1<=maxLen):=by show _<=_;unfold maxLen;omega
  have hA2:Hid ((n9+1)*72<=140737488355328):=by show _<=_;omega
  have hA3:Hid (∀ o:Obj,base<=(w5.alloc o).drew.heap.size):=fun o=>by have:=HP5.out.bs;show base<=(w5.alloc o).heap.size;simp;omega
  have hone:Hid (∀ u∈exV ((⟨64,p,d,zI s (p+1) false,zb s (p+1) false,[],-1⟩:EX),Q none 0 0),u.oneCell'=true):=fun u hu=>by simp [exV] at hu;rcases hu with rfl | rfl | rfl | rfl | rfl | rfl | rfl<;>first | rfl | exact HV1.out
  go_region_law ((refine step_append_lies _ (by rfl) _ _ _ (by rfl) base 148 i0 _ 7 72 Tryz.underlying71 hi0 hz0 hz1 hz2 rfl (by decide) ev _ _ (by rfl) ((HE9.out.alloc _).drew) ⟨w5.heap.size,0,none⟩ 1 1 (exV ((⟨64,p,d,zI s (p+1) false,zb s (p+1) false,[],-1⟩:EX),Q none 0 0)) (by rfl) (by rfl) (World.news_of_block (cs:=#[J O 64,J Z p,J Z d,J Z (zI s (p+1) false),J Z (zb s (p+1) false),Q none 0 0,J Z (-1)]) (t:=148) (fr:=(0,0)) (heap_alloc_new w5 _)) hone.out (Nat.lt_succ_self 0) hA1.out hA2.out (hA3.out _) (w5.heap.size+1) (by simp) ?_;intro g cap w9 hown hgrow hat hlt9;obtain ⟨y3,yz⟩:=HP5.out.grown3 hgrow))
  all_goals
   have HP9:Hid (PM (w9.setCell ⟨B,3,none⟩ (Q (some ⟨g,0,none⟩) (n9+1) cap)) base B s (zm s (p+1) false) (zu s (p+1) false) (Q (some ⟨g,0,none⟩) (n9+1) cap) rv (es++[((⟨64,p,d,zI s (p+1) false,zb s (p+1) false,[],-1⟩:EX),Q none 0 0)]) rs):=((HP5.out.alloc _).drew).pushE HN9.out hgrow hown ((HV5.out.alloc _).drew)
   have HM9:Hid (Mv base B ev rv (Q (some ⟨g,0,none⟩) (n9+1) cap) rv w (w9.setCell ⟨B,3,none⟩ (Q (some ⟨g,0,none⟩) (n9+1) cap))):=(HM5.out.trans (Mv.alloc HP5.out.bs _)).drew.trans (((HP5.out.alloc _).drew).pushMv hgrow hat (by show (w5.alloc _).heap.size<=_;simp))
   clear hown hgrow hat
   go_wp2_with fail
   go_ret
   exact ⟨by rw [<- hR.out];rw [<- HN9.out];rfl,_,[((⟨64,p,d,zI s (p+1) false,zb s (p+1) false,[],-1⟩:EX),Q none 0 0)],by rw [<- hR.out];rfl,by rw [<- hR.out];exact HP9.out,HM9.out,fun q hq g hg=>by simp at hq;subst hq;simp [Value.ownBlock] at hg⟩
end
section
attribute [local go_sem] zS zG
theorem jE (n base B:Nat) (s:ByteArray) (d:Int) (k:Nat) (b:Bool) (ev rv:Value) (es:List (EX×Value)) (rs:List RL) (w:World) (hs:s.size<=2000) (hk:k<=s.size) (_h0:0<=d) (_h1:d<=k) (hl:es.length<=k) (hrl:rs.length<=2000) (hc:ze s (zb s k b) b=61) (h:PM w base B s k b ev rv es rs) (R:CR) (hR:Hid (cE s rs (n+1) d es.length k b=R)) :
 Calls Tryz.prog 125 #[.pointer (some ⟨B,0,none⟩),J Z d] w fun e w' =>
  e=.returned (J Z R.idx)/\∃ ev' new,new.map Prod.fst=R.es/\PM w' base B s R.k R.b ev' rv (es++new) rs/\Mv base B ev rv ev' rv w w'/\∀ p∈new,∀ g,p.2.ownBlock=some g->w.heap.size<=g:=by
 obtain ⟨i0,hi0,hz0,hz1,hz2⟩:=info_parts Tryz.infoExpr
 have H:Hid _:=h
 clear h
 go_enter Tryz.func125,Tryz.ntmps125
 go_wp2_with fail
 refine (ya base B s k b ev rv es rs _ hs hk H.out).mono ?_
 rintro e w1 ⟨rfl,hp,hm⟩
 have hKK:isK (ze s (zb s k b) b)=true:=by rw [hc];rfl
 have hlt:zb s k b<s.size:=(yS hKK).2
 have hkp:k<=zb s k b:=z7 s k b
 have hbf:b=false:=(yS hKK).1
 subst hbf
 rw [Xr n d es.length k false hc] at hR
 clear hKK
 have hce:ze s (zb s k false) false=61:=hc
 have hpd:=fun (wz:World) (hz:PM wz base B s (zb s k false) false ev rv es rs)=>YN base B s (zb s k false) false ev rv es rs wz hz
 rw [hce] at hpd
 clear hce hc
 generalize zb s k false=p at *
 have HP1:Hid _:=hp
 have HM1:Hid _:=hm
 have c1:=hp.c1
 have hxou:=hp.outNew
 have hbs1:=hp.bs
 have hws:w.heap.size<=w1.heap.size:=hm.bel.size
 have hXB:w1.heap.size≠B:=hxou.1
 have hBX:B≠w1.heap.size:=fun e=>hxou.1 e.symm
 have hBl:=hp.lt
 clear hp hm
 have hbn:=fun w=>YS 61 p d w
 go_wp2_with fail
 go_region_held3 (fun w'=>w'.cell? ⟨B,1,none⟩=some (J Z p)) (first | (exact c1) | (exact Yr c1 _) | (exact yl hXB (Yr c1 _) _ _) | go_keep) (first | (go_at_call 127;refine (hpd _ (by first | exact HP1.out.drew | exact HP1.out.drew.alloc _ | exact HP1.out.alloc _ | exact HP1.out)).mono ?_;rintro e w' ⟨rfl,q,rfl⟩))
 all_goals
  have HP2:Hid (PM ((w1.alloc (X #[J O 61,J Z p,J Z d,J Z 0,J Z 0,Q none 0 0,J Z (-1)] 148)).drewN (1+q)) base B s p false ev rv es rs):=(HP1.out.alloc _).drewN _
  have HM2:Hid (Mv base B ev rv ev rv w ((w1.alloc (X #[J O 61,J Z p,J Z d,J Z 0,J Z 0,Q none 0 0,J Z (-1)] 148)).drewN (1+q))):=(HM1.out.trans (Mv.alloc hbs1 _)).drewN _
  have XH2:Hid (((w1.alloc (X #[J O 61,J Z p,J Z d,J Z 0,J Z 0,Q none 0 0,J Z (-1)] 148)).drewN (1+q)).heap[w1.heap.size]?=some (X #[J O 61,J Z p,J Z d,J Z 0,J Z 0,Q none 0 0,J Z (-1)] 148 (0,0))):=heap_alloc_new w1 _
  generalize (w1.alloc (X #[J O 61,J Z p,J Z d,J Z 0,J Z 0,Q none 0 0,J Z (-1)] 148)).drewN (1+q)=w2 at *
  clear c1 hbn
  have c1:=HP2.out.c1
  have z1:=HP2.out.fz 1
  have x0:w2.cell? ⟨w1.heap.size,0,none⟩=some (J O 61):=by simp [World.cell?,XH2.out]
  have hik:=fun w=>Zo 61 w
  rw [show isK 61=true from rfl] at hik
  go_wp2_with fail
  refine (hik _).mono ?_
  rintro e w3 ⟨hw3,rfl⟩
  subst w3
  have HP3:Hid (PM (w2.setCell ⟨B,1,none⟩ (J Z ((p:Int)+1))) base B s (p+1) false ev rv es rs):=HP2.out.at (p+1) _ (by omega)
  have HM3:Hid (Mv base B ev rv ev rv w (w2.setCell ⟨B,1,none⟩ (J Z ((p:Int)+1)))):=HM2.out.trans (HP2.out.setMv 1 _)
  have XH3:Hid ((w2.setCell ⟨B,1,none⟩ (J Z ((p:Int)+1))).heap[w1.heap.size]?=some (X #[J O 61,J Z p,J Z d,J Z 0,J Z 0,Q none 0 0,J Z (-1)] 148 (0,0))):=(za hXB).trans XH2.out
  have hp1:(p:Int)<2000:=by omega
  go_wp2_with fail
  clear c1 z1 x0
  refine (XT base B s (p+1) false ev rv es rs _ hs (by omega) HP3.out).mono ?_
  rintro e w4 ⟨rfl,hp,hm⟩
  have Pw4:Hid _:=hp
  have Mw4:Hid (Mv base B ev rv ev rv w w4):=(HM3.out).trans hm
  have Xw4:Hid _:=(hm.kept _ (lt_of_block (XH3.out)) hxou).1.trans (XH3.out)
  clear hp hm
  generalize hqe:zb s (p+1) false=q1 at *
  generalize hve:ze s q1 false=v1 at *
  clear hqe hve
  have x0:w4.cell? ⟨w1.heap.size,0,none⟩=some (J O 61):=by simp [World.cell?,Xw4.out]
  have x1:w4.cell? ⟨w1.heap.size,1,none⟩=some (J Z p):=by simp [World.cell?,Xw4.out]
  have x2:w4.cell? ⟨w1.heap.size,2,none⟩=some (J Z d):=by simp [World.cell?,Xw4.out]
  have x3:w4.cell? ⟨w1.heap.size,3,none⟩=some (J Z 0):=by simp [World.cell?,Xw4.out]
  have x4:w4.cell? ⟨w1.heap.size,4,none⟩=some (J Z 0):=by simp [World.cell?,Xw4.out]
  have x5:w4.cell? ⟨w1.heap.size,5,none⟩=some (Q none 0 0):=by simp [World.cell?,Xw4.out]
  have x6:w4.cell? ⟨w1.heap.size,6,none⟩=some (J Z (-1)):=by simp [World.cell?,Xw4.out]
  have xz:∀ j,w4.frozen? ⟨w1.heap.size,j,none⟩=false:=fun j=>by simp [World.frozen?,Xw4.out]
  have HP4:Hid (PM (((w4).setCell ⟨w1.heap.size,3,none⟩ (J Z v1)).setCell ⟨w1.heap.size,4,none⟩ (J Z q1)) base B s (zO s (p+1) false) (zT s (p+1) false) ev rv (es) rs):=((Pw4.out).setE (j:=3) (u:=J Z v1) ⟨_,_,Xw4.out⟩ hxou.2.1).setE (j:=4) (u:=J Z q1) ⟨_,_,(zX (j:=3) (u:=J Z v1) (Xw4.out))⟩ hxou.2.1
  have HM4:Hid (Mv base B ev rv ev rv w (((w4).setCell ⟨w1.heap.size,3,none⟩ (J Z v1)).setCell ⟨w1.heap.size,4,none⟩ (J Z q1))):=((Mw4.out).setNew (j:=3) hws hbs1 (J Z v1)).setNew (j:=4) hws hbs1 (J Z q1)
  have HX4:Hid ((((w4).setCell ⟨w1.heap.size,3,none⟩ (J Z v1)).setCell ⟨w1.heap.size,4,none⟩ (J Z q1)).heap[w1.heap.size]?=some (X #[J O 61,J Z p,J Z d,J Z v1,J Z q1,Q none 0 0,J Z (-1)] 148 (0,0))):=(zX (j:=4) (u:=J Z q1) ((zX (j:=3) (u:=J Z v1) (Xw4.out))))
  go_wp2_with fail
  generalize ((w4).setCell ⟨w1.heap.size,3,none⟩ (J Z v1)).setCell ⟨w1.heap.size,4,none⟩ (J Z q1)=wq at *
  clear x0 x1 x2 x3 x4 x5 x6 xz
  have x0:wq.cell? ⟨w1.heap.size,0,none⟩=some (J O 61):=by simp [World.cell?,HX4.out]
  have x1:wq.cell? ⟨w1.heap.size,1,none⟩=some (J Z p):=by simp [World.cell?,HX4.out]
  have x2:wq.cell? ⟨w1.heap.size,2,none⟩=some (J Z d):=by simp [World.cell?,HX4.out]
  have x3:wq.cell? ⟨w1.heap.size,3,none⟩=some (J Z v1):=by simp [World.cell?,HX4.out]
  have x4:wq.cell? ⟨w1.heap.size,4,none⟩=some (J Z q1):=by simp [World.cell?,HX4.out]
  have x5:wq.cell? ⟨w1.heap.size,5,none⟩=some (Q none 0 0):=by simp [World.cell?,HX4.out]
  have x6:wq.cell? ⟨w1.heap.size,6,none⟩=some (J Z (-1)):=by simp [World.cell?,HX4.out]
  have xz:∀ j,wq.frozen? ⟨w1.heap.size,j,none⟩=false:=fun j=>by simp [World.frozen?,HX4.out]
  have c4:=HP4.out.c4
  have hX4:w1.heap.size<wq.heap.size:=lt_of_block HX4.out
  have hnm:∀ wz:World,Below wq.heap.size wq wz->Calls Tryz.prog 88 #[rv,J Z v1] wz fun e w'=>Below wz.heap.size wz w'/\e=.returned (J Z (yf v1 rs)):=fun wz hz=>XR rv v1 rs wz (by omega) (HP4.out.below hz).rvs
  go_region_with (go_at_call 88;refine (hnm _ ?_).mono ?_;exact (Below.refl _ _).drew;rintro e w6 ⟨hb6,rfl⟩;have f6:=(hb6.cell (p:=⟨w1.heap.size,6,none⟩) hX4).trans x6;have f7:=(hb6.frozen (p:=⟨w1.heap.size,6,none⟩) hX4).trans (xz 6))
  all_goals
   have HP6:Hid (PM w6 base B s (zO s (p+1) false) (zT s (p+1) false) ev rv es rs):=HP4.out.drew.below hb6
   have HM6:Hid (Mv base B ev rv ev rv w w6):=HM4.out.drew.trans (Mv.of_below hb6 HP4.out.drew.bs)
   have HX6:Hid _:=(hb6.block _ hX4).trans HX4.out
   clear hb6 f6 f7
   generalize hnr:yf v1 rs=nr at *
   clear hnr
   clear x0 x1 x2 x3 x4 x5 x6 xz
   have x0:w6.cell? ⟨w1.heap.size,0,none⟩=some (J O 61):=by simp [World.cell?,HX6.out]
   have x1:w6.cell? ⟨w1.heap.size,1,none⟩=some (J Z p):=by simp [World.cell?,HX6.out]
   have x2:w6.cell? ⟨w1.heap.size,2,none⟩=some (J Z d):=by simp [World.cell?,HX6.out]
   have x3:w6.cell? ⟨w1.heap.size,3,none⟩=some (J Z v1):=by simp [World.cell?,HX6.out]
   have x4:w6.cell? ⟨w1.heap.size,4,none⟩=some (J Z q1):=by simp [World.cell?,HX6.out]
   have x5:w6.cell? ⟨w1.heap.size,5,none⟩=some (Q none 0 0):=by simp [World.cell?,HX6.out]
   have x6:w6.cell? ⟨w1.heap.size,6,none⟩=some (J Z (-1)):=by simp [World.cell?,HX6.out]
   have xz:∀ j,w6.frozen? ⟨w1.heap.size,j,none⟩=false:=fun j=>by simp [World.frozen?,HX6.out]
   have HP5:Hid (PM ((w6).setCell ⟨w1.heap.size,6,none⟩ (J Z nr)) base B s (zO s (p+1) false) (zT s (p+1) false) ev rv (es) rs):=(HP6.out).setE (j:=6) (u:=J Z nr) ⟨_,_,HX6.out⟩ hxou.2.1
   have HM5:Hid (Mv base B ev rv ev rv w ((w6).setCell ⟨w1.heap.size,6,none⟩ (J Z nr))):=(HM6.out).setNew (j:=6) hws hbs1 (J Z nr)
   have HX5:Hid (((w6).setCell ⟨w1.heap.size,6,none⟩ (J Z nr)).heap[w1.heap.size]?=some (X #[J O 61,J Z p,J Z d,J Z v1,J Z q1,Q none 0 0,J Z nr] 148 (0,0))):=(zX (j:=6) (u:=J Z nr) (HX6.out))
   have HV5:Hid (((w6).setCell ⟨w1.heap.size,6,none⟩ (J Z nr)).ownsRow base 155 7 (Q none 0 0) ((⟨61,p,d,v1,q1,[],nr⟩:EX)).items.length (imC ((⟨61,p,d,v1,q1,[],nr⟩:EX)).items)):=⟨rfl,.inl ⟨rfl,rfl⟩⟩
   go_wp2_with fail
   generalize (w6).setCell ⟨w1.heap.size,6,none⟩ (J Z nr)=w5 at *
   clear x0 x1 x2 x3 x4 x5 x6 xz
   have x0:w5.cell? ⟨w1.heap.size,0,none⟩=some (J O 61):=by simp [World.cell?,HX5.out]
   have x1:w5.cell? ⟨w1.heap.size,1,none⟩=some (J Z p):=by simp [World.cell?,HX5.out]
   have x2:w5.cell? ⟨w1.heap.size,2,none⟩=some (J Z d):=by simp [World.cell?,HX5.out]
   have x3:w5.cell? ⟨w1.heap.size,3,none⟩=some (J Z v1):=by simp [World.cell?,HX5.out]
   have x4:w5.cell? ⟨w1.heap.size,4,none⟩=some (J Z q1):=by simp [World.cell?,HX5.out]
   have x5:w5.cell? ⟨w1.heap.size,5,none⟩=some (Q none 0 0):=by simp [World.cell?,HX5.out]
   have x6:w5.cell? ⟨w1.heap.size,6,none⟩=some (J Z nr):=by simp [World.cell?,HX5.out]
   have c3:=HP5.out.c3
   have hB5:=HP5.out.lt
   have hX5:w1.heap.size<w5.heap.size:=lt_of_block HX5.out
   have z3:=HP5.out.fz 3
   obtain ⟨n9,hn9⟩:∃ n9,n9=(es).length:=⟨_,rfl⟩
   have HN9:Hid _:=hn9
   have HE9:Hid (w5.ownsRow base 148 7 ev n9 (exC (es))):=by show World.ownsRow _ _ _ _ _ _ _;rw [hn9];exact HP5.out.ex
   have hl9:(n9:Int)<5000:=by rw [hn9];omega
   clear hn9
   have hA1:Hid (n9+1<=maxLen):=by show _<=_;unfold maxLen;omega
   have hA2:Hid ((n9+1)*72<=140737488355328):=by show _<=_;omega
   have hA3:Hid (∀ o:Obj,base<=(w5.alloc o).drew.heap.size):=fun o=>by have:=HP5.out.bs;show base<=(w5.alloc o).heap.size;simp;omega
   have hone:Hid (∀ u∈exV ((⟨61,p,d,v1,q1,[],nr⟩:EX),Q none 0 0),u.oneCell'=true):=fun u hu=>by simp [exV] at hu;rcases hu with rfl | rfl | rfl | rfl | rfl | rfl | rfl<;>first | rfl | exact HV1.out
   go_region_law ((refine step_append_lies _ (by rfl) _ _ _ (by rfl) base 148 i0 _ 7 72 Tryz.underlying71 hi0 hz0 hz1 hz2 rfl (by decide) ev _ _ (by rfl) ((HE9.out.alloc _).drew) ⟨w5.heap.size,0,none⟩ 1 1 (exV ((⟨61,p,d,v1,q1,[],nr⟩:EX),Q none 0 0)) (by rfl) (by rfl) (World.news_of_block (cs:=#[J O 61,J Z p,J Z d,J Z v1,J Z q1,Q none 0 0,J Z nr]) (t:=148) (fr:=(0,0)) (heap_alloc_new w5 _)) hone.out (Nat.lt_succ_self 0) hA1.out hA2.out (hA3.out _) (w5.heap.size+1) (by simp) ?_;intro g cap w9 hown hgrow hat hlt9;obtain ⟨y3,yz⟩:=HP5.out.grown3 hgrow))
   all_goals
    have HP9:Hid (PM (w9.setCell ⟨B,3,none⟩ (Q (some ⟨g,0,none⟩) (n9+1) cap)) base B s (zO s (p+1) false) (zT s (p+1) false) (Q (some ⟨g,0,none⟩) (n9+1) cap) rv (es++[((⟨61,p,d,v1,q1,[],nr⟩:EX),Q none 0 0)]) rs):=((HP5.out.alloc _).drew).pushE HN9.out hgrow hown ((HV5.out.alloc _).drew)
    have HM9:Hid (Mv base B ev rv (Q (some ⟨g,0,none⟩) (n9+1) cap) rv w (w9.setCell ⟨B,3,none⟩ (Q (some ⟨g,0,none⟩) (n9+1) cap))):=(HM5.out.trans (Mv.alloc HP5.out.bs _)).drew.trans (((HP5.out.alloc _).drew).pushMv hgrow hat (by show (w5.alloc _).heap.size<=_;simp))
    clear hown hgrow hat
    go_wp2_with fail
    go_ret
    exact ⟨by rw [<- hR.out];rw [<- HN9.out];rfl,_,[((⟨61,p,d,v1,q1,[],nr⟩:EX),Q none 0 0)],by rw [<- hR.out];rfl,by rw [<- hR.out];exact HP9.out,HM9.out,fun q hq g hg=>by simp at hq;subst hq;simp [Value.ownBlock] at hg⟩
end
section
attribute [local go_sem] zS zG
theorem zab (n base B:Nat) (s:ByteArray) (d:Int) (k:Nat) (b:Bool) (ev rv:Value) (es:List (EX×Value)) (rs:List RL) (w:World) (hX:YA (cE s rs n) s base B rs n) (hn:s.size-k<n+1) (hs:s.size<=2000) (hk:k<=s.size) (h0:0<=d) (h1:d<=k) (hl:es.length<=k) (_hrl:rs.length<=2000) (hc:ze s (zb s k b) b=116) (h:PM w base B s k b ev rv es rs) (R:CR) (hR:Hid (cE s rs (n+1) d es.length k b=R)) :
 Calls Tryz.prog 125 #[.pointer (some ⟨B,0,none⟩),J Z d] w fun e w' =>
  e=.returned (J Z R.idx)/\∃ ev' new,new.map Prod.fst=R.es/\PM w' base B s R.k R.b ev' rv (es++new) rs/\Mv base B ev rv ev' rv w w'/\∀ p∈new,∀ g,p.2.ownBlock=some g->w.heap.size<=g:=by
 obtain ⟨i0,hi0,hz0,hz1,hz2⟩:=info_parts Tryz.infoExpr
 have H:Hid _:=h
 clear h
 go_enter Tryz.func125,Tryz.ntmps125
 go_wp2_with fail
 refine (ya base B s k b ev rv es rs _ hs hk H.out).mono ?_
 rintro e w1 ⟨rfl,hp,hm⟩
 have hKK:isK (ze s (zb s k b) b)=true:=by rw [hc];rfl
 have hlt:zb s k b<s.size:=(yS hKK).2
 have hkp:k<=zb s k b:=z7 s k b
 have hbf:b=false:=(yS hKK).1
 subst hbf
 rw [Qd n d es.length k false hc rfl rfl rfl] at hR
 clear hKK
 have hce:ze s (zb s k false) false=116:=hc
 have hpd:=fun (wz:World) (hz:PM wz base B s (zb s k false) false ev rv es rs)=>YN base B s (zb s k false) false ev rv es rs wz hz
 rw [hce] at hpd
 clear hce hc
 generalize zb s k false=p at *
 have HP1:Hid _:=hp
 have HM1:Hid _:=hm
 have c1:=hp.c1
 have hxou:=hp.outNew
 have hbs1:=hp.bs
 have hws:w.heap.size<=w1.heap.size:=hm.bel.size
 have hXB:w1.heap.size≠B:=hxou.1
 have hBX:B≠w1.heap.size:=fun e=>hxou.1 e.symm
 have hBl:=hp.lt
 clear hp hm
 have hbn:=fun w=>YS 116 p d w
 go_wp2_with fail
 go_region_held3 (fun w'=>w'.cell? ⟨B,1,none⟩=some (J Z p)) (first | (exact c1) | (exact Yr c1 _) | (exact yl hXB (Yr c1 _) _ _) | go_keep) (first | (go_at_call 127;refine (hpd _ (by first | exact HP1.out.drew | exact HP1.out.drew.alloc _ | exact HP1.out.alloc _ | exact HP1.out)).mono ?_;rintro e w' ⟨rfl,q,rfl⟩))
 all_goals
  have HP2:Hid (PM ((w1.alloc (X #[J O 116,J Z p,J Z d,J Z 0,J Z 0,Q none 0 0,J Z (-1)] 148)).drewN (1+q)) base B s p false ev rv es rs):=(HP1.out.alloc _).drewN _
  have HM2:Hid (Mv base B ev rv ev rv w ((w1.alloc (X #[J O 116,J Z p,J Z d,J Z 0,J Z 0,Q none 0 0,J Z (-1)] 148)).drewN (1+q))):=(HM1.out.trans (Mv.alloc hbs1 _)).drewN _
  have XH2:Hid (((w1.alloc (X #[J O 116,J Z p,J Z d,J Z 0,J Z 0,Q none 0 0,J Z (-1)] 148)).drewN (1+q)).heap[w1.heap.size]?=some (X #[J O 116,J Z p,J Z d,J Z 0,J Z 0,Q none 0 0,J Z (-1)] 148 (0,0))):=heap_alloc_new w1 _
  generalize (w1.alloc (X #[J O 116,J Z p,J Z d,J Z 0,J Z 0,Q none 0 0,J Z (-1)] 148)).drewN (1+q)=w2 at *
  clear c1 hbn
  have c1:=HP2.out.c1
  have z1:=HP2.out.fz 1
  have x0:w2.cell? ⟨w1.heap.size,0,none⟩=some (J O 116):=by simp [World.cell?,XH2.out]
  have hik:=fun w=>Zo 116 w
  rw [show isK 116=true from rfl] at hik
  go_wp2_with fail
  refine (hik _).mono ?_
  rintro e w3 ⟨hw3,rfl⟩
  subst w3
  have HP3:Hid (PM (w2.setCell ⟨B,1,none⟩ (J Z ((p:Int)+1))) base B s (p+1) false ev rv es rs):=HP2.out.at (p+1) _ (by omega)
  have HM3:Hid (Mv base B ev rv ev rv w (w2.setCell ⟨B,1,none⟩ (J Z ((p:Int)+1)))):=HM2.out.trans (HP2.out.setMv 1 _)
  have XH3:Hid ((w2.setCell ⟨B,1,none⟩ (J Z ((p:Int)+1))).heap[w1.heap.size]?=some (X #[J O 116,J Z p,J Z d,J Z 0,J Z 0,Q none 0 0,J Z (-1)] 148 (0,0))):=(za hXB).trans XH2.out
  have hp1:(p:Int)<2000:=by omega
  go_wp2_with fail
  clear c1 z1 x0
  have hb0:=zi s 40 (p+1) false
  have hb1:zc s 40 (p+1) false<=s.size:=zq (by decide) (by omega)
  generalize hk1:zc s 40 (p+1) false=k1 at *
  generalize hq1:zj s 40 (p+1) false=b1 at *
  have hb2:=zV (b:=b1) hb1
  have hb3:=zZ (b:=b1) hb1
  generalize hkn:zm s k1 b1=kn at *
  generalize hqn:zu s k1 b1=bn at *
  have hb4:=zi s 44 kn bn
  have hb5:zc s 44 kn bn<=s.size:=zq (by decide) hb3
  generalize hk2:zc s 44 kn bn=k2 at *
  generalize hq2:zj s 44 kn bn=b2 at *
  have hmo:=yB s rs n (d+1) es.length k2 b2 hb5
  have hXX:=hX (d+1) k2 b2 ev rv es
  generalize hr:cE s rs n (d+1) es.length k2 b2=r at *
  generalize hk3:zc s 41 r.k r.b=k3 at *
  generalize hq3:zj s 41 r.k r.b=b3 at *
  generalize hnv:zI s k1 b1=nv at *
  generalize hna:zb s k1 b1=na at *
  have hd2:d<2000:=by omega
  refine (yD base B s 40 (p+1) (false) ev rv (es) rs _ hs (by omega) (by decide) HP3.out).mono ?_
  rintro e w4 ⟨rfl,hp,hm⟩
  rw [hk1,hq1] at hp
  have Pw4:Hid _:=hp
  have Mw4:Hid (Mv base B ev rv ev rv w w4):=(HM3.out).trans hm
  have Xw4:Hid _:=(hm.kept _ (lt_of_block (XH3.out)) hxou).1.trans (XH3.out)
  clear hp hm
  go_wp2_with fail
  refine (yR base B s k1 b1 ev rv es rs _ hs hb1 Pw4.out).mono ?_
  rintro e w6 ⟨rfl,hp,hm⟩
  rw [hkn,hqn] at hp
  have Pw6:Hid _:=hp
  have Mw6:Hid (Mv base B ev rv ev rv w w6):=(Mw4.out).trans hm
  have Xw6:Hid _:=(hm.kept _ (lt_of_block (Xw4.out)) hxou).1.trans (Xw4.out)
  clear hp hm
  have x0:w6.cell? ⟨w1.heap.size,0,none⟩=some (J O 116):=by simp [World.cell?,Xw6.out]
  have x1:w6.cell? ⟨w1.heap.size,1,none⟩=some (J Z p):=by simp [World.cell?,Xw6.out]
  have x2:w6.cell? ⟨w1.heap.size,2,none⟩=some (J Z d):=by simp [World.cell?,Xw6.out]
  have x3:w6.cell? ⟨w1.heap.size,3,none⟩=some (J Z 0):=by simp [World.cell?,Xw6.out]
  have x4:w6.cell? ⟨w1.heap.size,4,none⟩=some (J Z 0):=by simp [World.cell?,Xw6.out]
  have x5:w6.cell? ⟨w1.heap.size,5,none⟩=some (Q none 0 0):=by simp [World.cell?,Xw6.out]
  have x6:w6.cell? ⟨w1.heap.size,6,none⟩=some (J Z (-1)):=by simp [World.cell?,Xw6.out]
  have xz:∀ j,w6.frozen? ⟨w1.heap.size,j,none⟩=false:=fun j=>by simp [World.frozen?,Xw6.out]
  rw [hnv,hna]
  have HP6:Hid (PM (((w6).setCell ⟨w1.heap.size,3,none⟩ (J Z nv)).setCell ⟨w1.heap.size,4,none⟩ (J Z na)) base B s (kn) (bn) ev rv (es) rs):=((Pw6.out).setE (j:=3) (u:=J Z nv) ⟨_,_,Xw6.out⟩ hxou.2.1).setE (j:=4) (u:=J Z na) ⟨_,_,(zX (j:=3) (u:=J Z nv) (Xw6.out))⟩ hxou.2.1
  have HM6:Hid (Mv base B ev rv ev rv w (((w6).setCell ⟨w1.heap.size,3,none⟩ (J Z nv)).setCell ⟨w1.heap.size,4,none⟩ (J Z na))):=((Mw6.out).setNew (j:=3) hws hbs1 (J Z nv)).setNew (j:=4) hws hbs1 (J Z na)
  have HX6:Hid ((((w6).setCell ⟨w1.heap.size,3,none⟩ (J Z nv)).setCell ⟨w1.heap.size,4,none⟩ (J Z na)).heap[w1.heap.size]?=some (X #[J O 116,J Z p,J Z d,J Z nv,J Z na,Q none 0 0,J Z (-1)] 148 (0,0))):=(zX (j:=4) (u:=J Z na) ((zX (j:=3) (u:=J Z nv) (Xw6.out))))
  go_wp2_with fail
  refine (yD base B s 44 (kn) (bn) ev rv (es) rs _ hs hb3 (by decide) HP6.out).mono ?_
  rintro e w7 ⟨rfl,hp,hm⟩
  rw [hk2,hq2] at hp
  have Pw7:Hid _:=hp
  have Mw7:Hid (Mv base B ev rv ev rv w w7):=(HM6.out).trans hm
  have Xw7:Hid _:=(hm.kept _ (lt_of_block (HX6.out)) hxou).1.trans (HX6.out)
  clear hp hm
  clear x0 x1 x2 x3 x4 x5 x6 xz
  go_wp2_with fail
  refine (hXX _ hb5 (by omega) (by omega) (by omega) (.inr (by omega)) Pw7.out).mono ?_
  rintro e w8 ⟨rfl,ev8,new,hnew,hp,hm,hfr⟩
  have hnl:Hid (new.length=r.es.length):=by show _=_;rw [<- hnew,List.length_map]
  have HFR:Hid (∀ p∈new,∀ g,p.2.ownBlock=some g->w.heap.size<=g):=fun p hp g hg=>Nat.le_trans Mw7.out.bel.size (hfr p hp g hg)
  have HNW:Hid _:=hnew
  clear hfr hnew
  have Pw8:Hid _:=hp
  have Mw8:Hid (Mv base B ev rv ev8 rv w w8):=(Mw7.out).trans hm
  have Xw8:Hid _:=(hm.kept _ (lt_of_block (Xw7.out)) hxou).1.trans (Xw7.out)
  have Ow8:Hid (Out B ev8 rv w1.heap.size):=(hm.kept _ (lt_of_block (Xw7.out)) hxou).2
  clear hp hm
  have x0:w8.cell? ⟨w1.heap.size,0,none⟩=some (J O 116):=by simp [World.cell?,Xw8.out]
  have x1:w8.cell? ⟨w1.heap.size,1,none⟩=some (J Z p):=by simp [World.cell?,Xw8.out]
  have x2:w8.cell? ⟨w1.heap.size,2,none⟩=some (J Z d):=by simp [World.cell?,Xw8.out]
  have x3:w8.cell? ⟨w1.heap.size,3,none⟩=some (J Z nv):=by simp [World.cell?,Xw8.out]
  have x4:w8.cell? ⟨w1.heap.size,4,none⟩=some (J Z na):=by simp [World.cell?,Xw8.out]
  have x5:w8.cell? ⟨w1.heap.size,5,none⟩=some (Q none 0 0):=by simp [World.cell?,Xw8.out]
  have x6:w8.cell? ⟨w1.heap.size,6,none⟩=some (J Z (-1)):=by simp [World.cell?,Xw8.out]
  have xz:∀ j,w8.frozen? ⟨w1.heap.size,j,none⟩=false:=fun j=>by simp [World.frozen?,Xw8.out]
  have HP8:Hid (PM ((w8).setCell ⟨w1.heap.size,6,none⟩ (J Z r.idx)) base B s (r.k) (r.b) ev8 rv (es++new) rs):=(Pw8.out).setE (j:=6) (u:=J Z r.idx) ⟨_,_,Xw8.out⟩ Ow8.out.2.1
  have HM8:Hid (Mv base B ev rv ev8 rv w ((w8).setCell ⟨w1.heap.size,6,none⟩ (J Z r.idx))):=(Mw8.out).setNew (j:=6) hws hbs1 (J Z r.idx)
  have HX8:Hid (((w8).setCell ⟨w1.heap.size,6,none⟩ (J Z r.idx)).heap[w1.heap.size]?=some (X #[J O 116,J Z p,J Z d,J Z nv,J Z na,Q none 0 0,J Z r.idx] 148 (0,0))):=(zX (j:=6) (u:=J Z r.idx) (Xw8.out))
  go_wp2_with fail
  refine (yD base B s 41 (r.k) (r.b) ev8 rv (es++new) rs _ hs hmo.2.1 (by decide) HP8.out).mono ?_
  rintro e w10 ⟨rfl,hp,hm⟩
  rw [hk3,hq3] at hp
  have Pw10:Hid _:=hp
  have Mw10:Hid (Mv base B ev rv ev8 rv w w10):=(HM8.out).trans hm
  have Xw10:Hid _:=(hm.kept _ (lt_of_block (HX8.out)) Ow8.out).1.trans (HX8.out)
  clear hp hm
  clear x0 x1 x2 x3 x4 x5 x6 xz
  have x0:w10.cell? ⟨w1.heap.size,0,none⟩=some (J O 116):=by simp [World.cell?,Xw10.out]
  have x1:w10.cell? ⟨w1.heap.size,1,none⟩=some (J Z p):=by simp [World.cell?,Xw10.out]
  have x2:w10.cell? ⟨w1.heap.size,2,none⟩=some (J Z d):=by simp [World.cell?,Xw10.out]
  have x3:w10.cell? ⟨w1.heap.size,3,none⟩=some (J Z nv):=by simp [World.cell?,Xw10.out]
  have x4:w10.cell? ⟨w1.heap.size,4,none⟩=some (J Z na):=by simp [World.cell?,Xw10.out]
  have x5:w10.cell? ⟨w1.heap.size,5,none⟩=some (Q none 0 0):=by simp [World.cell?,Xw10.out]
  have x6:w10.cell? ⟨w1.heap.size,6,none⟩=some (J Z r.idx):=by simp [World.cell?,Xw10.out]
  have xz:∀ j,w10.frozen? ⟨w1.heap.size,j,none⟩=false:=fun j=>by simp [World.frozen?,Xw10.out]
  have hl8:=hnl.out
  have HP5:Hid _:=Pw10.out
  have HM5:Hid _:=Mw10.out
  have HX5:Hid _:=Xw10.out
  have HV5:Hid ((w10).ownsRow base 155 7 (Q none 0 0) ((⟨116,p,d,nv,na,[],r.idx⟩:EX)).items.length (imC ((⟨116,p,d,nv,na,[],r.idx⟩:EX)).items)):=⟨rfl,.inl ⟨rfl,rfl⟩⟩
  go_wp2_with fail
  generalize w10=w5 at *
  clear x0 x1 x2 x3 x4 x5 x6 xz
  have x0:w5.cell? ⟨w1.heap.size,0,none⟩=some (J O 116):=by simp [World.cell?,HX5.out]
  have x1:w5.cell? ⟨w1.heap.size,1,none⟩=some (J Z p):=by simp [World.cell?,HX5.out]
  have x2:w5.cell? ⟨w1.heap.size,2,none⟩=some (J Z d):=by simp [World.cell?,HX5.out]
  have x3:w5.cell? ⟨w1.heap.size,3,none⟩=some (J Z nv):=by simp [World.cell?,HX5.out]
  have x4:w5.cell? ⟨w1.heap.size,4,none⟩=some (J Z na):=by simp [World.cell?,HX5.out]
  have x5:w5.cell? ⟨w1.heap.size,5,none⟩=some (Q none 0 0):=by simp [World.cell?,HX5.out]
  have x6:w5.cell? ⟨w1.heap.size,6,none⟩=some (J Z r.idx):=by simp [World.cell?,HX5.out]
  have c3:=HP5.out.c3
  have hB5:=HP5.out.lt
  have hX5:w1.heap.size<w5.heap.size:=lt_of_block HX5.out
  have z3:=HP5.out.fz 3
  obtain ⟨n9,hn9⟩:∃ n9,n9=(es++new).length:=⟨_,rfl⟩
  have HN9:Hid _:=hn9
  have HE9:Hid (w5.ownsRow base 148 7 ev8 n9 (exC (es++new))):=by show World.ownsRow _ _ _ _ _ _ _;rw [hn9];exact HP5.out.ex
  have hl9:(n9:Int)<5000:=by rw [hn9];simp only [List.length_append];omega
  clear hn9
  have hA1:Hid (n9+1<=maxLen):=by show _<=_;unfold maxLen;omega
  have hA2:Hid ((n9+1)*72<=140737488355328):=by show _<=_;omega
  have hA3:Hid (∀ o:Obj,base<=(w5.alloc o).drew.heap.size):=fun o=>by have:=HP5.out.bs;show base<=(w5.alloc o).heap.size;simp;omega
  have hone:Hid (∀ u∈exV ((⟨116,p,d,nv,na,[],r.idx⟩:EX),Q none 0 0),u.oneCell'=true):=fun u hu=>by simp [exV] at hu;rcases hu with rfl | rfl | rfl | rfl | rfl | rfl | rfl<;>first | rfl | exact HV1.out
  go_region_law ((refine step_append_lies _ (by rfl) _ _ _ (by rfl) base 148 i0 _ 7 72 Tryz.underlying71 hi0 hz0 hz1 hz2 rfl (by decide) ev8 _ _ (by rfl) ((HE9.out.alloc _).drew) ⟨w5.heap.size,0,none⟩ 1 1 (exV ((⟨116,p,d,nv,na,[],r.idx⟩:EX),Q none 0 0)) (by rfl) (by rfl) (World.news_of_block (cs:=#[J O 116,J Z p,J Z d,J Z nv,J Z na,Q none 0 0,J Z r.idx]) (t:=148) (fr:=(0,0)) (heap_alloc_new w5 _)) hone.out (Nat.lt_succ_self 0) hA1.out hA2.out (hA3.out _) (w5.heap.size+1) (by simp) ?_;intro g cap w9 hown hgrow hat hlt9;obtain ⟨y3,yz⟩:=HP5.out.grown3 hgrow))
  all_goals
   have HP9:Hid (PM (w9.setCell ⟨B,3,none⟩ (Q (some ⟨g,0,none⟩) (n9+1) cap)) base B s (k3) (b3) (Q (some ⟨g,0,none⟩) (n9+1) cap) rv (es++new++[((⟨116,p,d,nv,na,[],r.idx⟩:EX),Q none 0 0)]) rs):=((HP5.out.alloc _).drew).pushE HN9.out hgrow hown ((HV5.out.alloc _).drew)
   have HM9:Hid (Mv base B ev rv (Q (some ⟨g,0,none⟩) (n9+1) cap) rv w (w9.setCell ⟨B,3,none⟩ (Q (some ⟨g,0,none⟩) (n9+1) cap))):=(HM5.out.trans (Mv.alloc HP5.out.bs _)).drew.trans (((HP5.out.alloc _).drew).pushMv hgrow hat (by show (w5.alloc _).heap.size<=_;simp))
   clear hown hgrow hat
   go_wp2_with fail
   go_ret
   exact ⟨by rw [<- hR.out];show _=Ending.returned (J Z ((es.length+r.es.length:Nat):Int));rw [<- hnl.out,<- List.length_append,<- HN9.out];rfl,_,new++[((⟨116,p,d,nv,na,[],r.idx⟩:EX),Q none 0 0)],by rw [<- hR.out];rw [List.map_append,HNW.out];rfl,by rw [<- hR.out,<- List.append_assoc];exact HP9.out,HM9.out,fun q hq g hg=>by
    rcases List.mem_append.1 hq with hq | hq
    ·exact HFR.out q hq g hg
    ·simp at hq;subst hq;simp [Value.ownBlock] at hg⟩
end
end Go.Proofs.YtaebngpoagjafabGreat
