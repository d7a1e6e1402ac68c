import Derived.Test.YtaebngpoagjafabGreatV15
set_option maxRecDepth 100000
set_option maxHeartbeats 1600000
namespace Go.Proofs.YtaebngpoagjafabGreat
open Obj renaming cells → X
open Value renaming int → J, slice → Q
open IntKind renaming i64 → Z, u8 → O
open Go.RowKit
attribute [local go_sem ↓] Go.wp_at_zero Go.wp_at_succ
section
attribute [local go_sem] zS zG
theorem qh (n base B:Nat) (s:ByteArray) (d:Int) (k:Nat) (b:Bool) (ev rv:Value) (es:List (EX×Value)) (rs:List RL) (w:World) (hX:YA (cE s rs n) s base B rs n) (hn:s.size-k<n+1) (hs:s.size<=2000) (hk:k<=s.size) (h0:0<=d) (h1:d<=k) (hl:es.length<=k) (_hrl:rs.length<=2000) (hc:ze s (zb s k b) b=123) (h:PM w base B s k b ev rv es rs) (R:CR) (hR:Hid (cE s rs (n+1) d es.length k b=R)) :
 Calls Tryz.prog 125 #[.pointer (some ⟨B,0,none⟩),J Z d] w fun e w' =>
  e=.returned (J Z R.idx)/\∃ ev' new,new.map Prod.fst=R.es/\PM w' base B s R.k R.b ev' rv (es++new) rs/\Mv base B ev rv ev' rv w w'/\∀ p∈new,∀ g,p.2.ownBlock=some g->w.heap.size<=g:=by
 obtain ⟨i0,hi0,hz0,hz1,hz2⟩:=info_parts Tryz.infoExpr
 have H:Hid _:=h
 clear h
 go_enter Tryz.func125,Tryz.ntmps125
 go_wp2_with fail
 refine (ya base B s k b ev rv es rs _ hs hk H.out).mono ?_
 rintro e w1 ⟨rfl,hp,hm⟩
 have hKK:isK (ze s (zb s k b) b)=true:=by rw [hc];rfl
 have hlt:zb s k b<s.size:=(yS hKK).2
 have hkp:k<=zb s k b:=z7 s k b
 have hbf:b=false:=(yS hKK).1
 subst hbf
 rw [Ym n d es.length k false hc] at hR
 clear hKK
 have hce:ze s (zb s k false) false=123:=hc
 have hpd:=fun (wz:World) (hz:PM wz base B s (zb s k false) false ev rv es rs)=>YN base B s (zb s k false) false ev rv es rs wz hz
 rw [hce] at hpd
 clear hce hc
 generalize zb s k false=p at *
 have HP1:Hid _:=hp
 have HM1:Hid _:=hm
 have c1:=hp.c1
 have hxou:=hp.outNew
 have hbs1:=hp.bs
 have hws:w.heap.size<=w1.heap.size:=hm.bel.size
 have hXB:w1.heap.size≠B:=hxou.1
 have hBX:B≠w1.heap.size:=fun e=>hxou.1 e.symm
 have hBl:=hp.lt
 clear hp hm
 have hbn:=fun w=>YS 123 p d w
 go_wp2_with fail
 go_region_held3 (fun w'=>w'.cell? ⟨B,1,none⟩=some (J Z p)) (first | (exact c1) | (exact Yr c1 _) | (exact yl hXB (Yr c1 _) _ _) | go_keep) (first | (go_at_call 127;refine (hpd _ (by first | exact HP1.out.drew | exact HP1.out.drew.alloc _ | exact HP1.out.alloc _ | exact HP1.out)).mono ?_;rintro e w' ⟨rfl,q,rfl⟩))
 all_goals
  have HP2:Hid (PM ((w1.alloc (X #[J O 123,J Z p,J Z d,J Z 0,J Z 0,Q none 0 0,J Z (-1)] 148)).drewN (1+q)) base B s p false ev rv es rs):=(HP1.out.alloc _).drewN _
  have HM2:Hid (Mv base B ev rv ev rv w ((w1.alloc (X #[J O 123,J Z p,J Z d,J Z 0,J Z 0,Q none 0 0,J Z (-1)] 148)).drewN (1+q))):=(HM1.out.trans (Mv.alloc hbs1 _)).drewN _
  have XH2:Hid (((w1.alloc (X #[J O 123,J Z p,J Z d,J Z 0,J Z 0,Q none 0 0,J Z (-1)] 148)).drewN (1+q)).heap[w1.heap.size]?=some (X #[J O 123,J Z p,J Z d,J Z 0,J Z 0,Q none 0 0,J Z (-1)] 148 (0,0))):=heap_alloc_new w1 _
  generalize (w1.alloc (X #[J O 123,J Z p,J Z d,J Z 0,J Z 0,Q none 0 0,J Z (-1)] 148)).drewN (1+q)=w2 at *
  clear c1 hbn
  have c1:=HP2.out.c1
  have z1:=HP2.out.fz 1
  have x0:w2.cell? ⟨w1.heap.size,0,none⟩=some (J O 123):=by simp [World.cell?,XH2.out]
  have hik:=fun w=>Zo 123 w
  rw [show isK 123=true from rfl] at hik
  go_wp2_with fail
  refine (hik _).mono ?_
  rintro e w3 ⟨hw3,rfl⟩
  subst w3
  have HP3:Hid (PM (w2.setCell ⟨B,1,none⟩ (J Z ((p:Int)+1))) base B s (p+1) false ev rv es rs):=HP2.out.at (p+1) _ (by omega)
  have HM3:Hid (Mv base B ev rv ev rv w (w2.setCell ⟨B,1,none⟩ (J Z ((p:Int)+1)))):=HM2.out.trans (HP2.out.setMv 1 _)
  have XH3:Hid ((w2.setCell ⟨B,1,none⟩ (J Z ((p:Int)+1))).heap[w1.heap.size]?=some (X #[J O 123,J Z p,J Z d,J Z 0,J Z 0,Q none 0 0,J Z (-1)] 148 (0,0))):=(za hXB).trans XH2.out
  have hp1:(p:Int)<2000:=by omega
  go_wp2_with fail
  clear c1 z1 x0
  have hli:=zL (yB s rs n) 123 d (s.size+1-(p+1)) es.length (p+1) false (by omega)
  generalize hl0:zd (cE s rs n) s 123 d (s.size+1-(p+1)) es.length (p+1) false=l at *
  generalize hk3:zc s 125 l.k l.b=k3 at *
  generalize hq3:zj s 125 l.k l.b=b3 at *
  refine (qq (cE s rs n) base B s 123 d (p+1) (false) ev rv es rs _ n hX (yB s rs n) (Yy s rs n) h0 (by omega) (by omega) (.inr (by omega)) hs (by omega) (.inl rfl) HP3.out l hl0).mono ?_
  rintro e w6 ⟨v,ev6,new,rfl,hnew,hp,hm,hfr,hrow,hvf⟩
  obtain ⟨vo,vm,vc,rfl⟩:∃ vo vm vc,v=Q vo vm vc:=by
   rcases hrow.2 with ⟨rfl,_⟩ | ⟨g,cap,cur,rfl,_⟩
   ·exact ⟨none,0,0,rfl⟩
   ·exact ⟨_,_,_,rfl⟩
  have hnl:Hid (new.length=l.es.length):=by show _=_;rw [<- hnew,List.length_map]
  have HFR:Hid (∀ p∈new,∀ g,p.2.ownBlock=some g->w.heap.size<=g):=fun p hp g hg=>Nat.le_trans HM3.out.bel.size (hfr p hp g hg)
  have HVF:Hid (∀ g,(Q vo vm vc).ownBlock=some g->w.heap.size<=g):=fun g hg=>Nat.le_trans HM3.out.bel.size (hvf g hg).1
  have HNW:Hid _:=hnew
  have HV1:Hid ((Q vo vm vc).oneCell'=true):=rfl
  have HV0:Hid _:=hrow
  clear hfr hnew hvf hrow
  have Pw6:Hid _:=hp
  have Mw6:Hid (Mv base B ev rv ev6 rv w w6):=(HM3.out).trans hm
  have Xw6:Hid _:=(hm.kept _ (lt_of_block (XH3.out)) hxou).1.trans (XH3.out)
  have Ow6:Hid (Out B ev6 rv w1.heap.size):=(hm.kept _ (lt_of_block (XH3.out)) hxou).2
  clear hp hm
  have x0:w6.cell? ⟨w1.heap.size,0,none⟩=some (J O 123):=by simp [World.cell?,Xw6.out]
  have x1:w6.cell? ⟨w1.heap.size,1,none⟩=some (J Z p):=by simp [World.cell?,Xw6.out]
  have x2:w6.cell? ⟨w1.heap.size,2,none⟩=some (J Z d):=by simp [World.cell?,Xw6.out]
  have x3:w6.cell? ⟨w1.heap.size,3,none⟩=some (J Z 0):=by simp [World.cell?,Xw6.out]
  have x4:w6.cell? ⟨w1.heap.size,4,none⟩=some (J Z 0):=by simp [World.cell?,Xw6.out]
  have x5:w6.cell? ⟨w1.heap.size,5,none⟩=some (Q none 0 0):=by simp [World.cell?,Xw6.out]
  have x6:w6.cell? ⟨w1.heap.size,6,none⟩=some (J Z (-1)):=by simp [World.cell?,Xw6.out]
  have xz:∀ j,w6.frozen? ⟨w1.heap.size,j,none⟩=false:=fun j=>by simp [World.frozen?,Xw6.out]
  have HP6:Hid (PM ((w6).setCell ⟨w1.heap.size,5,none⟩ (Q vo vm vc)) base B s (l.k) (l.b) ev6 rv (es++new) rs):=(Pw6.out).setE (j:=5) (u:=Q vo vm vc) ⟨_,_,Xw6.out⟩ Ow6.out.2.1
  have HM6:Hid (Mv base B ev rv ev6 rv w ((w6).setCell ⟨w1.heap.size,5,none⟩ (Q vo vm vc))):=(Mw6.out).setNew (j:=5) hws hbs1 (Q vo vm vc)
  have HX6:Hid (((w6).setCell ⟨w1.heap.size,5,none⟩ (Q vo vm vc)).heap[w1.heap.size]?=some (X #[J O 123,J Z p,J Z d,J Z 0,J Z 0,Q vo vm vc,J Z (-1)] 148 (0,0))):=(zX (j:=5) (u:=Q vo vm vc) (Xw6.out))
  have HR6x0:Hid (((w6).setCell ⟨w1.heap.size,5,none⟩ (Q vo vm vc)).ownsRow base 155 7 (Q vo vm vc) l.ims.length (imC l.ims)):=ownsRow_setCell_other (HV0.out) (zs (HV0.out) (Xw6.out) (by decide)) (Q vo vm vc)
  go_wp2_with fail
  refine (yD base B s 125 (l.k) (l.b) ev6 rv (es++new) rs _ hs hli.2.1 (by decide) HP6.out).mono ?_
  rintro e w10 ⟨rfl,hp,hm⟩
  rw [hk3,hq3] at hp
  have Pw10:Hid _:=hp
  have Mw10:Hid (Mv base B ev rv ev6 rv w w10):=(HM6.out).trans hm
  have Xw10:Hid _:=(hm.kept _ (lt_of_block (HX6.out)) Ow6.out).1.trans (HX6.out)
  have Rw10x0:Hid (w10.ownsRow base 155 7 (Q vo vm vc) l.ims.length (imC l.ims)):=zh (HR6x0.out) (fun g hg=>(hm.kept g ((HR6x0.out).lt g hg).2 ((HP6.out).outI (HR6x0.out) hg)).1)
  clear hp hm
  clear x0 x1 x2 x3 x4 x5 x6 xz
  have x0:w10.cell? ⟨w1.heap.size,0,none⟩=some (J O 123):=by simp [World.cell?,Xw10.out]
  have x1:w10.cell? ⟨w1.heap.size,1,none⟩=some (J Z p):=by simp [World.cell?,Xw10.out]
  have x2:w10.cell? ⟨w1.heap.size,2,none⟩=some (J Z d):=by simp [World.cell?,Xw10.out]
  have x3:w10.cell? ⟨w1.heap.size,3,none⟩=some (J Z 0):=by simp [World.cell?,Xw10.out]
  have x4:w10.cell? ⟨w1.heap.size,4,none⟩=some (J Z 0):=by simp [World.cell?,Xw10.out]
  have x5:w10.cell? ⟨w1.heap.size,5,none⟩=some (Q vo vm vc):=by simp [World.cell?,Xw10.out]
  have x6:w10.cell? ⟨w1.heap.size,6,none⟩=some (J Z (-1)):=by simp [World.cell?,Xw10.out]
  have xz:∀ j,w10.frozen? ⟨w1.heap.size,j,none⟩=false:=fun j=>by simp [World.frozen?,Xw10.out]
  have hl8:=hnl.out
  have HP5:Hid (PM (w10) base B s (k3) (b3) ev6 rv (es++new) rs):=Pw10.out
  have HM5:Hid _:=Mw10.out
  have HX5:Hid _:=Xw10.out
  have HR5x0:Hid _:=Rw10x0.out
  have HV5:Hid ((w10).ownsRow base 155 7 (Q vo vm vc) ((⟨123,p,d,0,0,l.ims,-1⟩:EX)).items.length (imC ((⟨123,p,d,0,0,l.ims,-1⟩:EX)).items)):=Rw10x0.out
  go_wp2_with fail
  generalize w10=w5 at *
  clear x0 x1 x2 x3 x4 x5 x6 xz
  have x0:w5.cell? ⟨w1.heap.size,0,none⟩=some (J O 123):=by simp [World.cell?,HX5.out]
  have x1:w5.cell? ⟨w1.heap.size,1,none⟩=some (J Z p):=by simp [World.cell?,HX5.out]
  have x2:w5.cell? ⟨w1.heap.size,2,none⟩=some (J Z d):=by simp [World.cell?,HX5.out]
  have x3:w5.cell? ⟨w1.heap.size,3,none⟩=some (J Z 0):=by simp [World.cell?,HX5.out]
  have x4:w5.cell? ⟨w1.heap.size,4,none⟩=some (J Z 0):=by simp [World.cell?,HX5.out]
  have x5:w5.cell? ⟨w1.heap.size,5,none⟩=some (Q vo vm vc):=by simp [World.cell?,HX5.out]
  have x6:w5.cell? ⟨w1.heap.size,6,none⟩=some (J Z (-1)):=by simp [World.cell?,HX5.out]
  have c3:=HP5.out.c3
  have hB5:=HP5.out.lt
  have hX5:w1.heap.size<w5.heap.size:=lt_of_block HX5.out
  have z3:=HP5.out.fz 3
  obtain ⟨n9,hn9⟩:∃ n9,n9=(es++new).length:=⟨_,rfl⟩
  have HN9:Hid (n9=(es++new).length):=hn9
  have HE9:Hid (w5.ownsRow base 148 7 ev6 n9 (exC (es++new))):=by show World.ownsRow _ _ _ _ _ _ _;rw [hn9];exact HP5.out.ex
  have hl9:(n9:Int)<5000:=by rw [hn9];simp only [List.length_append];omega
  clear hn9
  have hA1:Hid (n9+1<=maxLen):=by show _<=_;unfold maxLen;omega
  have hA2:Hid ((n9+1)*72<=140737488355328):=by show _<=_;omega
  have hA3:Hid (∀ o:Obj,base<=(w5.alloc o).drew.heap.size):=fun o=>by have:=HP5.out.bs;show base<=(w5.alloc o).heap.size;simp;omega
  have hone:Hid (∀ u∈exV ((⟨123,p,d,0,0,l.ims,-1⟩:EX),Q vo vm vc),u.oneCell'=true):=fun u hu=>by simp [exV] at hu;rcases hu with rfl | rfl | rfl | rfl | rfl | rfl | rfl<;>first | rfl | exact HV1.out
  go_region_law ((refine step_append_lies _ (by rfl) _ _ _ (by rfl) base 148 i0 _ 7 72 Tryz.underlying71 hi0 hz0 hz1 hz2 rfl (by decide) ev6 _ _ (by rfl) ((HE9.out.alloc _).drew) ⟨w5.heap.size,0,none⟩ 1 1 (exV ((⟨123,p,d,0,0,l.ims,-1⟩:EX),Q vo vm vc)) (by rfl) (by rfl) (World.news_of_block (cs:=#[J O 123,J Z p,J Z d,J Z 0,J Z 0,Q vo vm vc,J Z (-1)]) (t:=148) (fr:=(0,0)) (heap_alloc_new w5 _)) hone.out (Nat.lt_succ_self 0) hA1.out hA2.out (hA3.out _) (w5.heap.size+1) (by simp) ?_;intro g cap w9 hown hgrow hat hlt9;obtain ⟨y3,yz⟩:=HP5.out.grown3 hgrow))
  all_goals
   have HP9:Hid (PM (w9.setCell ⟨B,3,none⟩ (Q (some ⟨g,0,none⟩) (n9+1) cap)) base B s (k3) (b3) (Q (some ⟨g,0,none⟩) (n9+1) cap) rv (es++new++[((⟨123,p,d,0,0,l.ims,-1⟩:EX),Q vo vm vc)]) rs):=((HP5.out.alloc _).drew).pushE HN9.out hgrow hown ((HV5.out.alloc _).drew)
   have HM9:Hid (Mv base B ev rv (Q (some ⟨g,0,none⟩) (n9+1) cap) rv w (w9.setCell ⟨B,3,none⟩ (Q (some ⟨g,0,none⟩) (n9+1) cap))):=(HM5.out.trans (Mv.alloc HP5.out.bs _)).drew.trans (((HP5.out.alloc _).drew).pushMv hgrow hat (by show (w5.alloc _).heap.size<=_;simp))
   clear hown hgrow hat
   go_wp2_with fail
   go_ret
   exact ⟨by rw [<- hR.out];show _=Ending.returned (J Z ((es.length+l.es.length:Nat):Int));rw [<- hnl.out,<- List.length_append,<- HN9.out];rfl,_,new++[((⟨123,p,d,0,0,l.ims,-1⟩:EX),Q vo vm vc)],by rw [<- hR.out];rw [List.map_append,HNW.out];rfl,by rw [<- hR.out,<- List.append_assoc];exact HP9.out,HM9.out,fun q hq g hg=>by
    rcases List.mem_append.1 hq with hq | hq
    ·exact HFR.out q hq g hg
    ·simp at hq;subst hq;exact HVF.out g hg⟩
end
section
attribute [local go_sem] zS zG
theorem jF (c:Int) (n base B:Nat) (s:ByteArray) (d:Int) (k:Nat) (b:Bool) (ev rv:Value) (es:List (EX×Value)) (rs:List RL) (w:World) (hX:YA (cE s rs n) s base B rs n) (hn:s.size-k<n+1) (hs:s.size<=2000) (hk:k<=s.size) (h0:0<=d) (h1:d<=k) (hl:es.length<=k) (_hrl:rs.length<=2000) (hc:ze s (zb s k b) b=c) (hcc:c=119\/c=102\/c=109\/c=103) (h:PM w base B s k b ev rv es rs) (R:CR) (hR:Hid (cE s rs (n+1) d es.length k b=R)) :
 Calls Tryz.prog 125 #[.pointer (some ⟨B,0,none⟩),J Z d] w fun e w' =>
  e=.returned (J Z R.idx)/\∃ ev' new,new.map Prod.fst=R.es/\PM w' base B s R.k R.b ev' rv (es++new) rs/\Mv base B ev rv ev' rv w w'/\∀ p∈new,∀ g,p.2.ownBlock=some g->w.heap.size<=g:=by
 obtain ⟨i0,hi0,hz0,hz1,hz2⟩:=info_parts Tryz.infoExpr
 have H:Hid _:=h
 clear h
 go_enter Tryz.func125,Tryz.ntmps125
 go_wp2_with fail
 refine (ya base B s k b ev rv es rs _ hs hk H.out).mono ?_
 rintro e w1 ⟨rfl,hp,hm⟩
 have hKK:isK (ze s (zb s k b) b)=true:=by rw [hc];rcases hcc with rfl | rfl | rfl | rfl<;>rfl
 have hlt:zb s k b<s.size:=(yS hKK).2
 have hkp:k<=zb s k b:=z7 s k b
 have hbf:b=false:=(yS hKK).1
 subst hbf
 rw [Xs n d es.length k false hc hcc rfl rfl rfl rfl] at hR
 clear hKK
 have hce:ze s (zb s k false) false=c:=hc
 have hpd:=fun (wz:World) (hz:PM wz base B s (zb s k false) false ev rv es rs)=>YN base B s (zb s k false) false ev rv es rs wz hz
 rw [hce] at hpd
 clear hce hc
 have e1:(c==123)=false:=by rcases hcc with rfl | rfl | rfl | rfl<;>rfl
 have e2:(c==116)=false:=by rcases hcc with rfl | rfl | rfl | rfl<;>rfl
 have e3:(c==64)=false:=by rcases hcc with rfl | rfl | rfl | rfl<;>rfl
 have e4:(c==61)=false:=by rcases hcc with rfl | rfl | rfl | rfl<;>rfl
 have e5:0<=c/\c<256:=by rcases hcc with rfl | rfl | rfl | rfl<;>decide
 generalize zb s k false=p at *
 have HP1:Hid _:=hp
 have HM1:Hid _:=hm
 have c1:=hp.c1
 have hxou:=hp.outNew
 have hbs1:=hp.bs
 have hws:w.heap.size<=w1.heap.size:=hm.bel.size
 have hXB:w1.heap.size≠B:=hxou.1
 have hBX:B≠w1.heap.size:=fun e=>hxou.1 e.symm
 have hBl:=hp.lt
 clear hp hm
 have hbn:=fun w=>YS c p d w
 go_wp2_with fail
 go_region_held3 (fun w'=>w'.cell? ⟨B,1,none⟩=some (J Z p)) (first | (exact c1) | (exact Yr c1 _) | (exact yl hXB (Yr c1 _) _ _) | go_keep) (first | (go_at_call 127;refine (hpd _ (by first | exact HP1.out.drew | exact HP1.out.drew.alloc _ | exact HP1.out.alloc _ | exact HP1.out)).mono ?_;rintro e w' ⟨rfl,q,rfl⟩))
 all_goals
  have HP2:Hid (PM ((w1.alloc (X #[J O c,J Z p,J Z d,J Z 0,J Z 0,Q none 0 0,J Z (-1)] 148)).drewN (1+q)) base B s p false ev rv es rs):=(HP1.out.alloc _).drewN _
  have HM2:Hid (Mv base B ev rv ev rv w ((w1.alloc (X #[J O c,J Z p,J Z d,J Z 0,J Z 0,Q none 0 0,J Z (-1)] 148)).drewN (1+q))):=(HM1.out.trans (Mv.alloc hbs1 _)).drewN _
  have XH2:Hid (((w1.alloc (X #[J O c,J Z p,J Z d,J Z 0,J Z 0,Q none 0 0,J Z (-1)] 148)).drewN (1+q)).heap[w1.heap.size]?=some (X #[J O c,J Z p,J Z d,J Z 0,J Z 0,Q none 0 0,J Z (-1)] 148 (0,0))):=heap_alloc_new w1 _
  generalize (w1.alloc (X #[J O c,J Z p,J Z d,J Z 0,J Z 0,Q none 0 0,J Z (-1)] 148)).drewN (1+q)=w2 at *
  clear c1 hbn
  have c1:=HP2.out.c1
  have z1:=HP2.out.fz 1
  have x0:w2.cell? ⟨w1.heap.size,0,none⟩=some (J O c):=by simp [World.cell?,XH2.out]
  have hik:=fun w=>Zo c w
  rw [show isK c=true from by rcases hcc with rfl | rfl | rfl | rfl<;>rfl] at hik
  go_wp2_with fail
  refine (hik _).mono ?_
  rintro e w3 ⟨hw3,rfl⟩
  subst w3
  have HP3:Hid (PM (w2.setCell ⟨B,1,none⟩ (J Z ((p:Int)+1))) base B s (p+1) false ev rv es rs):=HP2.out.at (p+1) _ (by omega)
  have HM3:Hid (Mv base B ev rv ev rv w (w2.setCell ⟨B,1,none⟩ (J Z ((p:Int)+1)))):=HM2.out.trans (HP2.out.setMv 1 _)
  have XH3:Hid ((w2.setCell ⟨B,1,none⟩ (J Z ((p:Int)+1))).heap[w1.heap.size]?=some (X #[J O c,J Z p,J Z d,J Z 0,J Z 0,Q none 0 0,J Z (-1)] 148 (0,0))):=(za hXB).trans XH2.out
  have hp1:(p:Int)<2000:=by omega
  go_wp2_with fail
  clear c1 z1 x0
  have hb0:=zi s 40 (p+1) false
  have hb1:zc s 40 (p+1) false<=s.size:=zq (by decide) (by omega)
  generalize hk1:zc s 40 (p+1) false=k1 at *
  generalize hq1:zj s 40 (p+1) false=b1 at *
  have hli:=zL (yB s rs n) c d (s.size+1-k1) es.length k1 b1 hb1
  generalize hl0:zd (cE s rs n) s c d (s.size+1-k1) es.length k1 b1=l at *
  have hb4:=zi s 124 l.k l.b
  have hb5:zc s 124 l.k l.b<=s.size:=zq (by decide) hli.2.1
  generalize hk2:zc s 124 l.k l.b=k2 at *
  generalize hq2:zj s 124 l.k l.b=b2 at *
  have hmo:=yB s rs n (d+1) (es.length+l.es.length) k2 b2 hb5
  generalize hr:cE s rs n (d+1) (es.length+l.es.length) k2 b2=r at *
  generalize hk3:zc s 41 r.k r.b=k3 at *
  generalize hq3:zj s 41 r.k r.b=b3 at *
  have hd2:d<2000:=by omega
  have hik0:yg c:=by rcases hcc with rfl | rfl | rfl | rfl<;>simp [yg]
  refine (yD base B s 40 (p+1) (false) ev rv (es) rs _ hs (by omega) (by decide) HP3.out).mono ?_
  rintro e w4 ⟨rfl,hp,hm⟩
  rw [hk1,hq1] at hp
  have Pw4:Hid _:=hp
  have Mw4:Hid (Mv base B ev rv ev rv w w4):=(HM3.out).trans hm
  have Xw4:Hid _:=(hm.kept _ (lt_of_block (XH3.out)) hxou).1.trans (XH3.out)
  clear hp hm
  have x0:w4.cell? ⟨w1.heap.size,0,none⟩=some (J O c):=by simp [World.cell?,Xw4.out]
  have x1:w4.cell? ⟨w1.heap.size,1,none⟩=some (J Z p):=by simp [World.cell?,Xw4.out]
  have x2:w4.cell? ⟨w1.heap.size,2,none⟩=some (J Z d):=by simp [World.cell?,Xw4.out]
  have x3:w4.cell? ⟨w1.heap.size,3,none⟩=some (J Z 0):=by simp [World.cell?,Xw4.out]
  have x4:w4.cell? ⟨w1.heap.size,4,none⟩=some (J Z 0):=by simp [World.cell?,Xw4.out]
  have x5:w4.cell? ⟨w1.heap.size,5,none⟩=some (Q none 0 0):=by simp [World.cell?,Xw4.out]
  have x6:w4.cell? ⟨w1.heap.size,6,none⟩=some (J Z (-1)):=by simp [World.cell?,Xw4.out]
  have xz:∀ j,w4.frozen? ⟨w1.heap.size,j,none⟩=false:=fun j=>by simp [World.frozen?,Xw4.out]
  go_wp2_with fail
  clear x0 x1 x2 x3 x4 x5 x6 xz
  refine (qq (cE s rs n) base B s c d (k1) (b1) ev rv es rs _ n hX (yB s rs n) (Yy s rs n) h0 (by omega) (by omega) (.inr (by omega)) hs hb1 hik0 Pw4.out l hl0).mono ?_
  rintro e w6 ⟨v,ev6,new,rfl,hnew,hp,hm,hfr,hrow,hvf⟩
  obtain ⟨vo,vm,vc,rfl⟩:∃ vo vm vc,v=Q vo vm vc:=by
   rcases hrow.2 with ⟨rfl,_⟩ | ⟨g,cap,cur,rfl,_⟩
   ·exact ⟨none,0,0,rfl⟩
   ·exact ⟨_,_,_,rfl⟩
  have hnl:Hid (new.length=l.es.length):=by show _=_;rw [<- hnew,List.length_map]
  have HFR:Hid (∀ p∈new,∀ g,p.2.ownBlock=some g->w.heap.size<=g):=fun p hp g hg=>Nat.le_trans Mw4.out.bel.size (hfr p hp g hg)
  have HVF:Hid (∀ g,(Q vo vm vc).ownBlock=some g->w.heap.size<=g):=fun g hg=>Nat.le_trans Mw4.out.bel.size (hvf g hg).1
  have HNW:Hid _:=hnew
  have HV1:Hid ((Q vo vm vc).oneCell'=true):=rfl
  have HV0:Hid _:=hrow
  clear hfr hnew hvf hrow
  have Pw6:Hid _:=hp
  have Mw6:Hid (Mv base B ev rv ev6 rv w w6):=(Mw4.out).trans hm
  have Xw6:Hid _:=(hm.kept _ (lt_of_block (Xw4.out)) hxou).1.trans (Xw4.out)
  have Ow6:Hid (Out B ev6 rv w1.heap.size):=(hm.kept _ (lt_of_block (Xw4.out)) hxou).2
  clear hp hm
  have x0:w6.cell? ⟨w1.heap.size,0,none⟩=some (J O c):=by simp [World.cell?,Xw6.out]
  have x1:w6.cell? ⟨w1.heap.size,1,none⟩=some (J Z p):=by simp [World.cell?,Xw6.out]
  have x2:w6.cell? ⟨w1.heap.size,2,none⟩=some (J Z d):=by simp [World.cell?,Xw6.out]
  have x3:w6.cell? ⟨w1.heap.size,3,none⟩=some (J Z 0):=by simp [World.cell?,Xw6.out]
  have x4:w6.cell? ⟨w1.heap.size,4,none⟩=some (J Z 0):=by simp [World.cell?,Xw6.out]
  have x5:w6.cell? ⟨w1.heap.size,5,none⟩=some (Q none 0 0):=by simp [World.cell?,Xw6.out]
  have x6:w6.cell? ⟨w1.heap.size,6,none⟩=some (J Z (-1)):=by simp [World.cell?,Xw6.out]
  have xz:∀ j,w6.frozen? ⟨w1.heap.size,j,none⟩=false:=fun j=>by simp [World.frozen?,Xw6.out]
  have HP6:Hid (PM ((w6).setCell ⟨w1.heap.size,5,none⟩ (Q vo vm vc)) base B s (l.k) (l.b) ev6 rv (es++new) rs):=(Pw6.out).setE (j:=5) (u:=Q vo vm vc) ⟨_,_,Xw6.out⟩ Ow6.out.2.1
  have HM6:Hid (Mv base B ev rv ev6 rv w ((w6).setCell ⟨w1.heap.size,5,none⟩ (Q vo vm vc))):=(Mw6.out).setNew (j:=5) hws hbs1 (Q vo vm vc)
  have HX6:Hid (((w6).setCell ⟨w1.heap.size,5,none⟩ (Q vo vm vc)).heap[w1.heap.size]?=some (X #[J O c,J Z p,J Z d,J Z 0,J Z 0,Q vo vm vc,J Z (-1)] 148 (0,0))):=(zX (j:=5) (u:=Q vo vm vc) (Xw6.out))
  have HR6x0:Hid (((w6).setCell ⟨w1.heap.size,5,none⟩ (Q vo vm vc)).ownsRow base 155 7 (Q vo vm vc) l.ims.length (imC l.ims)):=ownsRow_setCell_other (HV0.out) (zs (HV0.out) (Xw6.out) (by decide)) (Q vo vm vc)
  go_wp2_with fail
  refine (yD base B s 124 (l.k) (l.b) ev6 rv (es++new) rs _ hs hli.2.1 (by decide) HP6.out).mono ?_
  rintro e w7 ⟨rfl,hp,hm⟩
  rw [hk2,hq2] at hp
  have Pw7:Hid _:=hp
  have Mw7:Hid (Mv base B ev rv ev6 rv w w7):=(HM6.out).trans hm
  have Xw7:Hid _:=(hm.kept _ (lt_of_block (HX6.out)) Ow6.out).1.trans (HX6.out)
  have Rw7x0:Hid (w7.ownsRow base 155 7 (Q vo vm vc) l.ims.length (imC l.ims)):=zh (HR6x0.out) (fun g hg=>(hm.kept g ((HR6x0.out).lt g hg).2 ((HP6.out).outI (HR6x0.out) hg)).1)
  clear hp hm
  clear x0 x1 x2 x3 x4 x5 x6 xz
  go_wp2_with fail
  have hnl0:=hnl.out
  have hXX:=hX (d+1) k2 b2 ev6 rv (es++new) w7 hb5 (by omega) (by omega) (by simp only [List.length_append];omega) (.inr (by omega)) Pw7.out
  rw [show (es++new).length=es.length+l.es.length from by rw [List.length_append,hnl0],hr] at hXX
  refine (hXX).mono ?_
  rintro e w8 ⟨rfl,ev8,new2,hnew,hp,hm,hfr⟩
  have hnl2:Hid (new2.length=r.es.length):=by show _=_;rw [<- hnew,List.length_map]
  have HFR2:Hid (∀ p∈new++new2,∀ g,p.2.ownBlock=some g->w.heap.size<=g):=fun p hp g hg=>by
   rcases List.mem_append.1 hp with hp | hp
   ·exact HFR.out p hp g hg
   ·exact Nat.le_trans Mw7.out.bel.size (hfr p hp g hg)
  have HNW2:Hid ((new++new2).map Prod.fst=l.es++r.es):=by show _=_;rw [List.map_append,HNW.out,hnew]
  rw [List.append_assoc] at hp
  clear hfr hnew hnl0
  have Pw8:Hid _:=hp
  have Mw8:Hid (Mv base B ev rv ev8 rv w w8):=(Mw7.out).trans hm
  have Xw8:Hid _:=(hm.kept _ (lt_of_block (Xw7.out)) Ow6.out).1.trans (Xw7.out)
  have Ow8:Hid (Out B ev8 rv w1.heap.size):=(hm.kept _ (lt_of_block (Xw7.out)) Ow6.out).2
  have Rw8x0:Hid (w8.ownsRow base 155 7 (Q vo vm vc) l.ims.length (imC l.ims)):=zh (Rw7x0.out) (fun g hg=>(hm.kept g ((Rw7x0.out).lt g hg).2 ((Pw7.out).outI (Rw7x0.out) hg)).1)
  clear hp hm
  have x0:w8.cell? ⟨w1.heap.size,0,none⟩=some (J O c):=by simp [World.cell?,Xw8.out]
  have x1:w8.cell? ⟨w1.heap.size,1,none⟩=some (J Z p):=by simp [World.cell?,Xw8.out]
  have x2:w8.cell? ⟨w1.heap.size,2,none⟩=some (J Z d):=by simp [World.cell?,Xw8.out]
  have x3:w8.cell? ⟨w1.heap.size,3,none⟩=some (J Z 0):=by simp [World.cell?,Xw8.out]
  have x4:w8.cell? ⟨w1.heap.size,4,none⟩=some (J Z 0):=by simp [World.cell?,Xw8.out]
  have x5:w8.cell? ⟨w1.heap.size,5,none⟩=some (Q vo vm vc):=by simp [World.cell?,Xw8.out]
  have x6:w8.cell? ⟨w1.heap.size,6,none⟩=some (J Z (-1)):=by simp [World.cell?,Xw8.out]
  have xz:∀ j,w8.frozen? ⟨w1.heap.size,j,none⟩=false:=fun j=>by simp [World.frozen?,Xw8.out]
  have HP8:Hid (PM ((w8).setCell ⟨w1.heap.size,6,none⟩ (J Z r.idx)) base B s (r.k) (r.b) ev8 rv (es++(new++new2)) rs):=(Pw8.out).setE (j:=6) (u:=J Z r.idx) ⟨_,_,Xw8.out⟩ Ow8.out.2.1
  have HM8:Hid (Mv base B ev rv ev8 rv w ((w8).setCell ⟨w1.heap.size,6,none⟩ (J Z r.idx))):=(Mw8.out).setNew (j:=6) hws hbs1 (J Z r.idx)
  have HX8:Hid (((w8).setCell ⟨w1.heap.size,6,none⟩ (J Z r.idx)).heap[w1.heap.size]?=some (X #[J O c,J Z p,J Z d,J Z 0,J Z 0,Q vo vm vc,J Z r.idx] 148 (0,0))):=(zX (j:=6) (u:=J Z r.idx) (Xw8.out))
  have HR8x0:Hid (((w8).setCell ⟨w1.heap.size,6,none⟩ (J Z r.idx)).ownsRow base 155 7 (Q vo vm vc) l.ims.length (imC l.ims)):=ownsRow_setCell_other (Rw8x0.out) (zs (Rw8x0.out) (Xw8.out) (by decide)) (J Z r.idx)
  go_wp2_with fail
  refine (yD base B s 41 (r.k) (r.b) ev8 rv (es++(new++new2)) rs _ hs hmo.2.1 (by decide) HP8.out).mono ?_
  rintro e w10 ⟨rfl,hp,hm⟩
  rw [hk3,hq3] at hp
  have Pw10:Hid _:=hp
  have Mw10:Hid (Mv base B ev rv ev8 rv w w10):=(HM8.out).trans hm
  have Xw10:Hid _:=(hm.kept _ (lt_of_block (HX8.out)) Ow8.out).1.trans (HX8.out)
  have Rw10x0:Hid (w10.ownsRow base 155 7 (Q vo vm vc) l.ims.length (imC l.ims)):=zh (HR8x0.out) (fun g hg=>(hm.kept g ((HR8x0.out).lt g hg).2 ((HP8.out).outI (HR8x0.out) hg)).1)
  clear hp hm
  clear x0 x1 x2 x3 x4 x5 x6 xz
  have x0:w10.cell? ⟨w1.heap.size,0,none⟩=some (J O c):=by simp [World.cell?,Xw10.out]
  have x1:w10.cell? ⟨w1.heap.size,1,none⟩=some (J Z p):=by simp [World.cell?,Xw10.out]
  have x2:w10.cell? ⟨w1.heap.size,2,none⟩=some (J Z d):=by simp [World.cell?,Xw10.out]
  have x3:w10.cell? ⟨w1.heap.size,3,none⟩=some (J Z 0):=by simp [World.cell?,Xw10.out]
  have x4:w10.cell? ⟨w1.heap.size,4,none⟩=some (J Z 0):=by simp [World.cell?,Xw10.out]
  have x5:w10.cell? ⟨w1.heap.size,5,none⟩=some (Q vo vm vc):=by simp [World.cell?,Xw10.out]
  have x6:w10.cell? ⟨w1.heap.size,6,none⟩=some (J Z r.idx):=by simp [World.cell?,Xw10.out]
  have xz:∀ j,w10.frozen? ⟨w1.heap.size,j,none⟩=false:=fun j=>by simp [World.frozen?,Xw10.out]
  have hl8:=hnl.out
  have hl7:=hnl2.out
  have HP5:Hid (PM (w10) base B s (k3) (b3) ev8 rv (es++(new++new2)) rs):=Pw10.out
  have HM5:Hid _:=Mw10.out
  have HX5:Hid _:=Xw10.out
  have HR5x0:Hid _:=Rw10x0.out
  have HV5:Hid ((w10).ownsRow base 155 7 (Q vo vm vc) ((⟨c,p,d,0,0,l.ims,r.idx⟩:EX)).items.length (imC ((⟨c,p,d,0,0,l.ims,r.idx⟩:EX)).items)):=Rw10x0.out
  go_wp2_with fail
  generalize w10=w5 at *
  clear x0 x1 x2 x3 x4 x5 x6 xz
  have x0:w5.cell? ⟨w1.heap.size,0,none⟩=some (J O c):=by simp [World.cell?,HX5.out]
  have x1:w5.cell? ⟨w1.heap.size,1,none⟩=some (J Z p):=by simp [World.cell?,HX5.out]
  have x2:w5.cell? ⟨w1.heap.size,2,none⟩=some (J Z d):=by simp [World.cell?,HX5.out]
  have x3:w5.cell? ⟨w1.heap.size,3,none⟩=some (J Z 0):=by simp [World.cell?,HX5.out]
  have x4:w5.cell? ⟨w1.heap.size,4,none⟩=some (J Z 0):=by simp [World.cell?,HX5.out]
  have x5:w5.cell? ⟨w1.heap.size,5,none⟩=some (Q vo vm vc):=by simp [World.cell?,HX5.out]
  have x6:w5.cell? ⟨w1.heap.size,6,none⟩=some (J Z r.idx):=by simp [World.cell?,HX5.out]
  have c3:=HP5.out.c3
  have hB5:=HP5.out.lt
  have hX5:w1.heap.size<w5.heap.size:=lt_of_block HX5.out
  have z3:=HP5.out.fz 3
  obtain ⟨n9,hn9⟩:∃ n9,n9=(es++(new++new2)).length:=⟨_,rfl⟩
  have HN9:Hid (n9=(es++(new++new2)).length):=hn9
  have HE9:Hid (w5.ownsRow base 148 7 ev8 n9 (exC (es++(new++new2)))):=by show World.ownsRow _ _ _ _ _ _ _;rw [hn9];exact HP5.out.ex
  have hl9:(n9:Int)<5000:=by rw [hn9];simp only [List.length_append];omega
  clear hn9
  have hA1:Hid (n9+1<=maxLen):=by show _<=_;unfold maxLen;omega
  have hA2:Hid ((n9+1)*72<=140737488355328):=by show _<=_;omega
  have hA3:Hid (∀ o:Obj,base<=(w5.alloc o).drew.heap.size):=fun o=>by have:=HP5.out.bs;show base<=(w5.alloc o).heap.size;simp;omega
  have hone:Hid (∀ u∈exV ((⟨c,p,d,0,0,l.ims,r.idx⟩:EX),Q vo vm vc),u.oneCell'=true):=fun u hu=>by simp [exV] at hu;rcases hu with rfl | rfl | rfl | rfl | rfl | rfl | rfl<;>first | rfl | exact HV1.out
  go_region_law ((refine step_append_lies _ (by rfl) _ _ _ (by rfl) base 148 i0 _ 7 72 Tryz.underlying71 hi0 hz0 hz1 hz2 rfl (by decide) ev8 _ _ (by rfl) ((HE9.out.alloc _).drew) ⟨w5.heap.size,0,none⟩ 1 1 (exV ((⟨c,p,d,0,0,l.ims,r.idx⟩:EX),Q vo vm vc)) (by rfl) (by rfl) (World.news_of_block (cs:=#[J O c,J Z p,J Z d,J Z 0,J Z 0,Q vo vm vc,J Z r.idx]) (t:=148) (fr:=(0,0)) (heap_alloc_new w5 _)) hone.out (Nat.lt_succ_self 0) hA1.out hA2.out (hA3.out _) (w5.heap.size+1) (by simp) ?_;intro g cap w9 hown hgrow hat hlt9;obtain ⟨y3,yz⟩:=HP5.out.grown3 hgrow))
  all_goals
   have HP9:Hid (PM (w9.setCell ⟨B,3,none⟩ (Q (some ⟨g,0,none⟩) (n9+1) cap)) base B s (k3) (b3) (Q (some ⟨g,0,none⟩) (n9+1) cap) rv (es++(new++new2)++[((⟨c,p,d,0,0,l.ims,r.idx⟩:EX),Q vo vm vc)]) rs):=((HP5.out.alloc _).drew).pushE HN9.out hgrow hown ((HV5.out.alloc _).drew)
   have HM9:Hid (Mv base B ev rv (Q (some ⟨g,0,none⟩) (n9+1) cap) rv w (w9.setCell ⟨B,3,none⟩ (Q (some ⟨g,0,none⟩) (n9+1) cap))):=(HM5.out.trans (Mv.alloc HP5.out.bs _)).drew.trans (((HP5.out.alloc _).drew).pushMv hgrow hat (by show (w5.alloc _).heap.size<=_;simp))
   clear hown hgrow hat
   go_wp2_with fail
   go_ret
   exact ⟨by rw [<- hR.out];show _=Ending.returned (J Z ((es.length+l.es.length+r.es.length:Nat):Int));rw [<- hnl.out,<- hnl2.out,Nat.add_assoc,<- List.length_append,<- List.length_append,<- HN9.out];rfl,_,(new++new2)++[((⟨c,p,d,0,0,l.ims,r.idx⟩:EX),Q vo vm vc)],by rw [<- hR.out];rw [List.map_append,HNW2.out];rfl,by rw [<- hR.out,<- List.append_assoc];exact HP9.out,HM9.out,fun q hq g hg=>by
    rcases List.mem_append.1 hq with hq | hq
    ·exact HFR2.out q hq g hg
    ·simp at hq;subst hq;exact HVF.out g hg⟩
end
section
attribute [local go_sem] zS zG
theorem QQ (c:Int) (base B:Nat) (s:ByteArray) (d:Int) (k:Nat) (b:Bool) (ev rv:Value) (es:List (EX×Value)) (rs:List RL) (w:World) (hs:s.size<=2000) (hk:k<=s.size) (hc:ze s (zb s k b) b=c) (hcc:isK c=false) (h:PM w base B s k b ev rv es rs) :
 Calls Tryz.prog 125 #[.pointer (some ⟨B,0,none⟩),J Z d] w fun e w' =>
  e=.returned (J Z (-1))/\PM w' base B s (zb s k b) true ev rv es rs/\Mv base B ev rv ev rv w w':=by
 have H:Hid (PM w base B s k b ev rv es rs):=h
 clear h
 go_enter Tryz.func125,Tryz.ntmps125
 go_wp2_with fail
 refine (ya base B s k b ev rv es rs _ hs hk H.out).mono ?_
 rintro e w1 ⟨rfl,hp,hm⟩
 have hpd:=fun (wz:World) (hz:PM wz base B s (zb s k b) b ev rv es rs)=>YN base B s (zb s k b) b ev rv es rs wz hz
 rw [hc] at hpd
 have hbd:=Z6 s (zb s k b) b
 rw [hc] at hbd
 clear hc
 generalize hpe:zb s k b=p at *
 have HPE:Hid (zb s k b=p):=hpe
 clear hpe
 have HP1:Hid (PM w1 base B s p b ev rv es rs):=hp
 have HM1:Hid (Mv base B ev rv ev rv w w1):=hm
 have c1:=hp.c1
 have hxou:=hp.outNew
 have hbs1:=hp.bs
 have hXB:w1.heap.size≠B:=hxou.1
 have hBX:B≠w1.heap.size:=fun e=>hxou.1 e.symm
 have hBl:=hp.lt
 clear hp hm
 have hbn:=fun w=>YS c p d w
 go_wp2_with fail
 go_region_held3 (fun w'=>w'.cell? ⟨B,1,none⟩=some (J Z p)) (first | (exact c1) | (exact Yr c1 _) | (exact yl hXB (Yr c1 _) _ _) | go_keep) (first | (go_at_call 127;refine (hpd _ (by first | exact HP1.out.drew | exact HP1.out.drew.alloc _ | exact HP1.out.alloc _ | exact HP1.out)).mono ?_;rintro e w' ⟨rfl,q,rfl⟩))
 all_goals
  have HP2:Hid (PM ((w1.alloc (X #[J O c,J Z p,J Z d,J Z 0,J Z 0,Q none 0 0,J Z (-1)] 148)).drewN (1+q)) base B s p b ev rv es rs):=(HP1.out.alloc _).drewN _
  have HM2:Hid (Mv base B ev rv ev rv w ((w1.alloc (X #[J O c,J Z p,J Z d,J Z 0,J Z 0,Q none 0 0,J Z (-1)] 148)).drewN (1+q))):=(HM1.out.trans (Mv.alloc hbs1 _)).drewN _
  have XH2:Hid (((w1.alloc (X #[J O c,J Z p,J Z d,J Z 0,J Z 0,Q none 0 0,J Z (-1)] 148)).drewN (1+q)).heap[w1.heap.size]?=some (X #[J O c,J Z p,J Z d,J Z 0,J Z 0,Q none 0 0,J Z (-1)] 148 (0,0))):=heap_alloc_new w1 _
  generalize (w1.alloc (X #[J O c,J Z p,J Z d,J Z 0,J Z 0,Q none 0 0,J Z (-1)] 148)).drewN (1+q)=w2 at *
  clear c1 hbn
  have c2:=HP2.out.c2
  have z2:=HP2.out.fz 2
  have x0:w2.cell? ⟨w1.heap.size,0,none⟩=some (J O c):=by simp [World.cell?,XH2.out]
  have hik:=fun w=>Zo c w
  rw [hcc] at hik
  go_wp2_with fail
  refine (hik _).mono ?_
  rintro e w3 ⟨hw3,rfl⟩
  subst w3
  go_wp2_with fail
  go_ret
  exact ⟨rfl,by rw [HPE.out];exact HP2.out.bad true,HM2.out.trans (HP2.out.setMv 2 _)⟩
theorem zcK (s:ByteArray) (rs:List RL) (base B:Nat) (hs:s.size<=2000) (hrl:rs.length<=2000) (n:Nat):YA (cE s rs n) s base B rs n:=by
 induction n with
 | zero =>
  intro d k b ev rv es w hk h0 h1 hl hn h
  have hb:b=true:=by
   rcases hn with h | h
   ·exact h
   ·omega
  subst hb
  refine (QQ 0 base B s d k true ev rv es rs w hs hk (Z7 _ _) rfl h).mono ?_
  rintro e w' ⟨rfl,hp,hm⟩
  exact ⟨rfl,ev,[],rfl,by rw [List.append_nil];exact hp,hm,by simp⟩
 | succ n ih =>
  intro d k b ev rv es w hk h0 h1 hl hn h
  cases hcc:isK (ze s (zb s k b) b) with
  | false =>
   refine (QQ _ base B s d k b ev rv es rs w hs hk rfl hcc h).mono ?_
   rintro e w' ⟨rfl,hp,hm⟩
   rw [QV n d es.length k b hcc]
   exact ⟨rfl,ev,[],rfl,by rw [List.append_nil];exact hp,hm,by simp⟩
  | true =>
   have hb:b=false:=(yS hcc).1
   have hn2:s.size-k<n+1:=by
    rcases hn with h | h
    ·rw [hb] at h;cases h
    ·exact h
   obtain ⟨c,hc⟩:∃ c,ze s (zb s k b) b=c:=⟨_,rfl⟩
   rw [hc] at hcc
   have h8:c=123\/c=116\/c=64\/c=61\/(c=119\/c=102\/c=109\/c=103):=by
    simp [isK] at hcc
    omega
   rcases h8 with rfl | rfl | rfl | rfl | h8
   ·exact qh n base B s d k b ev rv es rs w ih hn2 hs hk h0 h1 hl hrl hc h _ rfl
   ·exact zab n base B s d k b ev rv es rs w ih hn2 hs hk h0 h1 hl hrl hc h _ rfl
   ·exact QR n base B s d k b ev rv es rs w hs hk h0 h1 hl hrl hc h _ rfl
   ·exact jE n base B s d k b ev rv es rs w hs hk h0 h1 hl hrl hc h _ rfl
   ·exact jF c n base B s d k b ev rv es rs w ih hn2 hs hk h0 h1 hl hrl hc h8 h _ rfl
end
section
theorem Tryz.infoRule:(Tryz.prog.info? 143).map (fun i=>(i.zero,i.size,i.bytes))=some (some (.agg #[J Z 0,J Z 0,J Z 0]),3,24):=by kernel_rfl
theorem zcT (a b e:Int) (w:World):(Instr.build 143 #[(0,.agg #[J Z a,J Z b]),(1,J Z e)]).run Tryz.prog w=.ok (.agg #[J Z a,J Z b,J Z e]) w:=run_build w 143 _ _ (by kernel_rfl)
structure CU where
 rl:RL
 es:List EX
 k:Nat
 b:Bool
def zB (s:ByteArray) (rs:List RL) (m k:Nat) (b:Bool):CU :=
 let r:=cE s rs (s.size+1) 0 m (zc s 58 (zO s k b) (zT s k b)) (zj s 58 (zO s k b) (zT s k b))
 ⟨⟨ze s (zb s k b) b,zb s k b,r.idx⟩,r.es,r.k,r.b⟩
theorem ZM (s:ByteArray) (rs:List RL) (m k:Nat) (b:Bool) (hk:k<=s.size):k<=(zB s rs m k b).k/\(zB s rs m k b).k<=s.size/\(zB s rs m k b).es.length+k<=(zB s rs m k b).k:=by
 have h1:=ZS s k b
 have h2:=zi s 58 (zO s k b) (zT s k b)
 have h3:=yB s rs (s.size+1) 0 m (zc s 58 (zO s k b) (zT s k b)) (zj s 58 (zO s k b) (zT s k b)) (zq (by decide) (YJ hk))
 simp only [zB]
 omega
theorem PM.pushR {w w4:World} {base B s k b ev rv es rs} (h:PM w base B s k b ev rv es rs) {r:RL} {n g cap:Nat} (hn:n=rs.length) (hg:w.grownBy w4 rv.ownBlock) (hown:w4.ownsRow base 143 3 (Q (some ⟨g,0,none⟩) (n+1) cap) (n+1) (rlC rs++rlV r)) :
 PM (w4.setCell ⟨B,4,none⟩ (Q (some ⟨g,0,none⟩) (n+1) cap)) base B s k b ev (Q (some ⟨g,0,none⟩) (n+1) cap) es (rs++[r]):=by
 subst hn
 have hb4:w4.heap[B]?=some (X #[.string s,J Z k,.bool b,ev,rv] 104 (0,0)):=(hg.block B h.lt (fun e=>zs h.rl h.blk (by decide) e.symm)).trans h.blk
 have he4:w4.ownsRow base 148 7 ev es.length (exC es):=h.ex.kept hg (yb h.ex h.rl (by decide))
 have hi4:∀ (q:Value) (n:Nat) (xs:List Value),w.ownsRow base 155 7 q n xs->w4.ownsRow base 155 7 q n xs:=fun q n xs hq=>hq.kept hg (yb hq h.rl (by decide))
 have e1:rlC (rs++[r])=rlC rs++rlV r:=by simp [rlC]
 have e2:(rs++[r]).length=rs.length+1:=by simp
 refine ⟨xO hb4,ownsRow_setCell_other he4 (zs he4 hb4 (by decide)) _,?_,fun p hp=>?_,h.hB⟩
 ·rw [e1,e2];exact ownsRow_setCell_other hown (zs hown hb4 (by decide)) _
 ·have:=hi4 _ _ _ (h.it p hp)
  exact ownsRow_setCell_other this (zs this hb4 (by decide)) _
theorem PM.pushRMv {w w4:World} {base B s k b ev rv es rs} (h:PM w base B s k b ev rv es rs) {g n cap H:Nat} (hg:w.grownBy w4 rv.ownBlock) (hat:rv.ownBlock=some g\/g=H) (hH:w.heap.size<=H) :
 Mv base B ev rv ev (Q (some ⟨g,0,none⟩) n cap) w (w4.setCell ⟨B,4,none⟩ (Q (some ⟨g,0,none⟩) n cap)):=by
 refine ⟨((Below.refl _ _).grown hg h.bs (fun q hq=>(h.rl.lt q hq).1)).setCell h.hB _,fun x hx ho=>⟨?_,ho.1,ho.2.1,?_⟩⟩
 ·rw [za ho.1]
  exact hg.block x hx (fun e=>ho.2.2 e.symm)
 ·intro e
  simp [Value.ownBlock] at e
  subst e
  rcases hat with e | e
  ·exact ho.2.2 e
  ·omega
theorem PM.grown4 {w w9:World} {base B s k b ev rv es rs} (h:PM w base B s k b ev rv es rs) {o:Obj} (hg:((w.alloc o).drew).grownBy w9 rv.ownBlock):w9.cell? ⟨B,4,none⟩=some rv/\w9.frozen? ⟨B,4,none⟩=false:=by
 have h2:=(h.alloc o).drew
 have hb:=(hg.block B h2.lt (fun e=>zs h2.rl h2.blk (by decide) e.symm)).trans h2.blk
 exact ⟨by simp [World.cell?,hb],by simp [World.frozen?,hb]⟩
attribute [local go_sem] zS zG
theorem zaR (base B:Nat) (s:ByteArray) (k:Nat) (b:Bool) (ev rv:Value) (es:List (EX×Value)) (rs:List RL) (w:World) (hs:s.size<=2000) (hk:k<=s.size) (hl:es.length<=k) (hrl:rs.length<=2000) (h:PM w base B s k b ev rv es rs) (R:CU) (hR:Hid (zB s rs es.length k b=R)) :
 Calls Tryz.prog 86 #[.pointer (some ⟨B,0,none⟩)] w fun e w' =>
  e=.returned (.tuple #[])/\∃ ev' rv' new,new.map Prod.fst=R.es/\PM w' base B s R.k R.b ev' rv' (es++new) (rs++[R.rl])/\Mv base B ev rv ev' rv' w w':=by
 obtain ⟨i0,hi0,hz0,hz1,hz2⟩:=info_parts Tryz.infoRule
 have H:Hid _:=h
 clear h
 unfold zB at hR
 go_enter Tryz.func86,Tryz.ntmps86
 go_wp2_with fail
 refine (XT base B s k b ev rv es rs _ hs hk H.out).mono ?_
 rintro e w1 ⟨rfl,hp,hm⟩
 have HP1:Hid _:=hp
 have HM1:Hid _:=hm
 have hb0:=ZS s k b
 have hb1:=YJ (b:=b) hk
 clear hp hm
 generalize hk1:zO s k b=k1 at *
 generalize hq1:zT s k b=b1 at *
 generalize hna:zb s k b=na at *
 generalize hnv:ze s na b=nv at *
 have hb2:=zi s 58 k1 b1
 have hb3:zc s 58 k1 b1<=s.size:=zq (by decide) hb1
 generalize hk2:zc s 58 k1 b1=k2 at *
 generalize hq2:zj s 58 k1 b1=b2 at *
 have hmo:=yB s rs (s.size+1) 0 es.length k2 b2 hb3
 have hXX:=zcK s rs base B hs hrl (s.size+1) 0 k2 b2 ev rv es
 generalize hr:cE s rs (s.size+1) 0 es.length k2 b2=r at *
 have hxou:=HP1.out.outNew
 have hbs1:=HP1.out.bs
 have HP2:Hid (PM (w1.alloc (X #[J Z nv,J Z na] 141)) base B s k1 b1 ev rv es rs):=HP1.out.alloc _
 have HM2:Hid (Mv base B ev rv ev rv w (w1.alloc (X #[J Z nv,J Z na] 141))):=HM1.out.trans (Mv.alloc hbs1 _)
 have HX2:Hid ((w1.alloc (X #[J Z nv,J Z na] 141)).heap[w1.heap.size]?=some (X #[J Z nv,J Z na] 141 (0,0))):=heap_alloc_new w1 _
 go_wp2_with fail
 refine (yD base B s 58 k1 b1 ev rv es rs _ hs hb1 (by decide) HP2.out).mono ?_
 rintro e w3 ⟨rfl,hp,hm⟩
 rw [hk2,hq2] at hp
 have HP3:Hid _:=hp
 have HM3:Hid _:=HM2.out.trans hm
 have HX3:Hid _:=(hm.kept _ (lt_of_block HX2.out) hxou).1.trans HX2.out
 clear hp hm
 go_wp2_with fail
 refine (hXX w3 hb3 (by omega) (by omega) (by omega) (.inr (by omega)) HP3.out).mono ?_
 rintro e w4 ⟨rfl,ev4,new,hnew,hp,hm,hfr⟩
 have HP4:Hid _:=hp
 have HM4:Hid _:=HM3.out.trans hm
 have HX4:Hid _:=(hm.kept _ (lt_of_block HX3.out) hxou).1.trans HX3.out
 have HNW:Hid _:=hnew
 clear hp hm hfr hnew
 have x0:w4.cell? ⟨w1.heap.size,0,none⟩=some (J Z nv):=by simp [World.cell?,HX4.out]
 have x1:w4.cell? ⟨w1.heap.size,1,none⟩=some (J Z na):=by simp [World.cell?,HX4.out]
 have c4:=HP4.out.c4
 have hB4:=HP4.out.lt
 have hX4:w1.heap.size<w4.heap.size:=lt_of_block HX4.out
 have z4:=HP4.out.fz 4
 have hbr:=fun w=>zcT nv na r.idx w
 obtain ⟨n9,hn9⟩:∃ n9,n9=rs.length:=⟨_,rfl⟩
 have HN9:Hid _:=hn9
 have HE9:Hid (w4.ownsRow base 143 3 rv n9 (rlC rs)):=by show World.ownsRow _ _ _ _ _ _ _;rw [hn9];exact HP4.out.rl
 have hl9:(n9:Int)<5000:=by rw [hn9];omega
 clear hn9
 have hA1:Hid (n9+1<=maxLen):=by show _<=_;unfold maxLen;omega
 have hA2:Hid ((n9+1)*24<=140737488355328):=by show _<=_;omega
 have hA3:Hid (∀ o:Obj,base<=(w4.alloc o).drew.heap.size):=fun o=>by have:=HP4.out.bs;show base<=(w4.alloc o).heap.size;simp;omega
 have hone:Hid (∀ u∈rlV ⟨nv,na,r.idx⟩,u.oneCell'=true):=fun u hu=>by simp [rlV] at hu;rcases hu with rfl | rfl | rfl<;>rfl
 go_wp2_with fail
 go_region_law ((refine step_append_lies _ (by rfl) _ _ _ (by rfl) base 143 i0 _ 3 24 Tryz.underlying72 hi0 hz0 hz1 hz2 rfl (by decide) rv _ _ (by rfl) ((HE9.out.alloc _).drew) ⟨w4.heap.size,0,none⟩ 1 1 (rlV ⟨nv,na,r.idx⟩) (by rfl) (by rfl) (World.news_of_block (cs:=#[J Z nv,J Z na,J Z r.idx]) (t:=143) (fr:=(0,0)) (heap_alloc_new w4 _)) hone.out (Nat.lt_succ_self 0) hA1.out hA2.out (hA3.out _) (w4.heap.size+1) (by simp) ?_;intro g cap w9 hown hgrow hat hlt9;obtain ⟨y3,yz⟩:=HP4.out.grown4 hgrow))
 all_goals
  have HP9:Hid (PM (w9.setCell ⟨B,4,none⟩ (Q (some ⟨g,0,none⟩) (n9+1) cap)) base B s r.k r.b ev4 (Q (some ⟨g,0,none⟩) (n9+1) cap) (es++new) (rs++[⟨nv,na,r.idx⟩])):=((HP4.out.alloc _).drew).pushR HN9.out hgrow hown
  have HM9:Hid (Mv base B ev rv ev4 (Q (some ⟨g,0,none⟩) (n9+1) cap) w (w9.setCell ⟨B,4,none⟩ (Q (some ⟨g,0,none⟩) (n9+1) cap))):=(HM4.out.trans (Mv.alloc HP4.out.bs _)).drew.trans (((HP4.out.alloc _).drew).pushRMv hgrow hat (by show (w4.alloc _).heap.size<=_;simp))
  clear hown hgrow hat
  go_wp2_with fail
  go_end0
  exact ⟨rfl,ev4,_,new,by rw [<- hR.out];exact HNW.out,by rw [<- hR.out];exact HP9.out,HM9.out⟩
end
end Go.Proofs.YtaebngpoagjafabGreat
