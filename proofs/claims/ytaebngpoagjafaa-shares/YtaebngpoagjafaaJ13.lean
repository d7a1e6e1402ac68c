import Derived.Test.YtaebngpoagjafaaJ07
set_option maxRecDepth 100000
set_option maxHeartbeats 1600000
namespace Go.Proofs.Ytaebngpoagjafaa
open Obj renaming cells → X
open Value renaming int → J, slice → Q
open IntKind renaming i64 → Z, u8 → O
open Go.RowKit
attribute [local go_sem ↓] Go.wp_at_zero Go.wp_at_succ
section
attribute [local go_sem] zC zu
theorem Qe (n base B:Nat) (s:ByteArray) (d:Int) (k:Nat) (b:Bool) (ev rv:Value) (es:List (EX×Value)) (rs:List RL) (w:World) (hX:ZH (cE s rs n) s base B rs n) (hn:s.size-k<n+1) (hs:s.size<=2000) (hk:k<=s.size) (h0:0<=d) (h1:d<=k) (hl:es.length<=k) (_hrl:rs.length<=2000) (hc:zd s (za s k b) b=116) (h:PM w base B s k b ev rv es rs) (R:CR) (hR:Hid (cE s rs (n+1) d es.length k b=R)) :
 Calls Try.prog 65 #[.pointer (some ⟨B,0,none⟩),J Z d] w fun e w' =>
  e=.returned (J Z R.idx)/\∃ ev' new,new.map Prod.fst=R.es/\PM w' base B s R.k R.b ev' rv (es++new) rs/\Mv base B ev rv ev' rv w w'/\∀ p∈new,∀ g,p.2.ownBlock=some g->w.heap.size<=g:=by
 obtain ⟨i0,hi0,hz0,hz1,hz2⟩:=info_parts Try.infoExpr
 have H:Hid _:=h
 clear h
 go_enter Try.func65,Try.ntmps65
 go_wp2_with fail
 refine (zO base B s k b ev rv es rs _ hs hk H.out).mono ?_
 rintro e w1 ⟨rfl,hp,hm⟩
 have hKK:isK (zd s (za s k b) b)=true:=by rw [hc];rfl
 have hlt:za s k b<s.size:=(yJ hKK).2
 have hkp:k<=za s k b:=zP s k b
 have hbf:b=false:=(yJ hKK).1
 subst hbf
 rw [jn n d es.length k false hc rfl rfl rfl] at hR
 clear hKK
 have hce:zd s (za s k false) false=116:=hc
 have hpd:=fun (wz:World) (hz:PM wz base B s (za s k false) false ev rv es rs)=>ZO base B s (za s k false) false ev rv es rs wz hz
 rw [hce] at hpd
 clear hce hc
 generalize za s k false=p at *
 have HP1:Hid _:=hp
 have HM1:Hid _:=hm
 have c1:=hp.c1
 have hxou:=hp.outNew
 have hbs1:=hp.bs
 have hws:w.heap.size<=w1.heap.size:=hm.bel.size
 have hXB:w1.heap.size≠B:=hxou.1
 have hBX:B≠w1.heap.size:=fun e=>hxou.1 e.symm
 have hBl:=hp.lt
 clear hp hm
 have hbn:=fun w=>ZT 116 p d w
 go_wp2_with fail
 go_region_held3 (fun w'=>w'.cell? ⟨B,1,none⟩=some (J Z p)) (first | (exact c1) | (exact yW c1 _) | (exact xu hXB (yW c1 _) _ _) | go_keep) (first | (go_at_call 67;refine (hpd _ (by first | exact HP1.out.drew | exact HP1.out.drew.alloc _ | exact HP1.out.alloc _ | exact HP1.out)).mono ?_;rintro e w' ⟨rfl,q,rfl⟩))
 all_goals
  have HP2:Hid (PM ((w1.alloc (X #[J O 116,J Z p,J Z d,J Z 0,J Z 0,Q none 0 0,J Z (-1)] 97)).drewN (1+q)) base B s p false ev rv es rs):=(HP1.out.alloc _).drewN _
  have HM2:Hid (Mv base B ev rv ev rv w ((w1.alloc (X #[J O 116,J Z p,J Z d,J Z 0,J Z 0,Q none 0 0,J Z (-1)] 97)).drewN (1+q))):=(HM1.out.trans (Mv.alloc hbs1 _)).drewN _
  have XH2:Hid (((w1.alloc (X #[J O 116,J Z p,J Z d,J Z 0,J Z 0,Q none 0 0,J Z (-1)] 97)).drewN (1+q)).heap[w1.heap.size]?=some (X #[J O 116,J Z p,J Z d,J Z 0,J Z 0,Q none 0 0,J Z (-1)] 97 (0,0))):=heap_alloc_new w1 _
  generalize (w1.alloc (X #[J O 116,J Z p,J Z d,J Z 0,J Z 0,Q none 0 0,J Z (-1)] 97)).drewN (1+q)=w2 at *
  clear c1 hbn
  have c1:=HP2.out.c1
  have z1:=HP2.out.fz 1
  have x0:w2.cell? ⟨w1.heap.size,0,none⟩=some (J O 116):=by simp [World.cell?,XH2.out]
  have hik:=fun w=>yI 116 w
  rw [show isK 116=true from rfl] at hik
  go_wp2_with fail
  refine (hik _).mono ?_
  rintro e w3 ⟨hw3,rfl⟩
  subst w3
  have HP3:Hid (PM (w2.setCell ⟨B,1,none⟩ (J Z ((p:Int)+1))) base B s (p+1) false ev rv es rs):=HP2.out.at (p+1) _ (by omega)
  have HM3:Hid (Mv base B ev rv ev rv w (w2.setCell ⟨B,1,none⟩ (J Z ((p:Int)+1)))):=HM2.out.trans (HP2.out.setMv 1 _)
  have XH3:Hid ((w2.setCell ⟨B,1,none⟩ (J Z ((p:Int)+1))).heap[w1.heap.size]?=some (X #[J O 116,J Z p,J Z d,J Z 0,J Z 0,Q none 0 0,J Z (-1)] 97 (0,0))):=(zc hXB).trans XH2.out
  have hp1:(p:Int)<2000:=by omega
  go_wp2_with fail
  clear c1 z1 x0
  have hb0:=zk s 40 (p+1) false
  have hb1:zb s 40 (p+1) false<=s.size:=zm (by decide) (by omega)
  generalize hk1:zb s 40 (p+1) false=k1 at *
  generalize hq1:zi s 40 (p+1) false=b1 at *
  have hb2:=z8 (b:=b1) hb1
  have hb3:=zS (b:=b1) hb1
  generalize hkn:zh s k1 b1=kn at *
  generalize hqn:zo s k1 b1=bn at *
  have hb4:=zk s 44 kn bn
  have hb5:zb s 44 kn bn<=s.size:=zm (by decide) hb3
  generalize hk2:zb s 44 kn bn=k2 at *
  generalize hq2:zi s 44 kn bn=b2 at *
  have hmo:=yN s rs n (d+1) es.length k2 b2 hb5
  have hXX:=hX (d+1) k2 b2 ev rv es
  generalize hr:cE s rs n (d+1) es.length k2 b2=r at *
  generalize hk3:zb s 41 r.k r.b=k3 at *
  generalize hq3:zi s 41 r.k r.b=b3 at *
  generalize hnv:zD s k1 b1=nv at *
  generalize hna:za s k1 b1=na at *
  have hd2:d<2000:=by omega
  refine (yf base B s 40 (p+1) (false) ev rv (es) rs _ hs (by omega) (by decide) HP3.out).mono ?_
  rintro e w4 ⟨rfl,hp,hm⟩
  rw [hk1,hq1] at hp
  have Pw4:Hid _:=hp
  have Mw4:Hid (Mv base B ev rv ev rv w w4):=(HM3.out).trans hm
  have Xw4:Hid _:=(hm.kept _ (lt_of_block (XH3.out)) hxou).1.trans (XH3.out)
  clear hp hm
  go_wp2_with fail
  refine (yv base B s k1 b1 ev rv es rs _ hs hb1 Pw4.out).mono ?_
  rintro e w6 ⟨rfl,hp,hm⟩
  rw [hkn,hqn] at hp
  have Pw6:Hid _:=hp
  have Mw6:Hid (Mv base B ev rv ev rv w w6):=(Mw4.out).trans hm
  have Xw6:Hid _:=(hm.kept _ (lt_of_block (Xw4.out)) hxou).1.trans (Xw4.out)
  clear hp hm
  have x0:w6.cell? ⟨w1.heap.size,0,none⟩=some (J O 116):=by simp [World.cell?,Xw6.out]
  have x1:w6.cell? ⟨w1.heap.size,1,none⟩=some (J Z p):=by simp [World.cell?,Xw6.out]
  have x2:w6.cell? ⟨w1.heap.size,2,none⟩=some (J Z d):=by simp [World.cell?,Xw6.out]
  have x3:w6.cell? ⟨w1.heap.size,3,none⟩=some (J Z 0):=by simp [World.cell?,Xw6.out]
  have x4:w6.cell? ⟨w1.heap.size,4,none⟩=some (J Z 0):=by simp [World.cell?,Xw6.out]
  have x5:w6.cell? ⟨w1.heap.size,5,none⟩=some (Q none 0 0):=by simp [World.cell?,Xw6.out]
  have x6:w6.cell? ⟨w1.heap.size,6,none⟩=some (J Z (-1)):=by simp [World.cell?,Xw6.out]
  have xz:∀ j,w6.frozen? ⟨w1.heap.size,j,none⟩=false:=fun j=>by simp [World.frozen?,Xw6.out]
  rw [hnv,hna]
  have HP6:Hid (PM (((w6).setCell ⟨w1.heap.size,3,none⟩ (J Z nv)).setCell ⟨w1.heap.size,4,none⟩ (J Z na)) base B s (kn) (bn) ev rv (es) rs):=((Pw6.out).setE (j:=3) (u:=J Z nv) ⟨_,_,Xw6.out⟩ hxou.2.1).setE (j:=4) (u:=J Z na) ⟨_,_,(zK (j:=3) (u:=J Z nv) (Xw6.out))⟩ hxou.2.1
  have HM6:Hid (Mv base B ev rv ev rv w (((w6).setCell ⟨w1.heap.size,3,none⟩ (J Z nv)).setCell ⟨w1.heap.size,4,none⟩ (J Z na))):=((Mw6.out).setNew (j:=3) hws hbs1 (J Z nv)).setNew (j:=4) hws hbs1 (J Z na)
  have HX6:Hid ((((w6).setCell ⟨w1.heap.size,3,none⟩ (J Z nv)).setCell ⟨w1.heap.size,4,none⟩ (J Z na)).heap[w1.heap.size]?=some (X #[J O 116,J Z p,J Z d,J Z nv,J Z na,Q none 0 0,J Z (-1)] 97 (0,0))):=(zK (j:=4) (u:=J Z na) ((zK (j:=3) (u:=J Z nv) (Xw6.out))))
  go_wp2_with fail
  refine (yf base B s 44 (kn) (bn) ev rv (es) rs _ hs hb3 (by decide) HP6.out).mono ?_
  rintro e w7 ⟨rfl,hp,hm⟩
  rw [hk2,hq2] at hp
  have Pw7:Hid _:=hp
  have Mw7:Hid (Mv base B ev rv ev rv w w7):=(HM6.out).trans hm
  have Xw7:Hid _:=(hm.kept _ (lt_of_block (HX6.out)) hxou).1.trans (HX6.out)
  clear hp hm
  clear x0 x1 x2 x3 x4 x5 x6 xz
  go_wp2_with fail
  refine (hXX _ hb5 (by omega) (by omega) (by omega) (.inr (by omega)) Pw7.out).mono ?_
  rintro e w8 ⟨rfl,ev8,new,hnew,hp,hm,hfr⟩
  have hnl:Hid (new.length=r.es.length):=by show _=_;rw [<- hnew,List.length_map]
  have HFR:Hid (∀ p∈new,∀ g,p.2.ownBlock=some g->w.heap.size<=g):=fun p hp g hg=>Nat.le_trans Mw7.out.bel.size (hfr p hp g hg)
  have HNW:Hid _:=hnew
  clear hfr hnew
  have Pw8:Hid _:=hp
  have Mw8:Hid (Mv base B ev rv ev8 rv w w8):=(Mw7.out).trans hm
  have Xw8:Hid _:=(hm.kept _ (lt_of_block (Xw7.out)) hxou).1.trans (Xw7.out)
  have Ow8:Hid (Out B ev8 rv w1.heap.size):=(hm.kept _ (lt_of_block (Xw7.out)) hxou).2
  clear hp hm
  have x0:w8.cell? ⟨w1.heap.size,0,none⟩=some (J O 116):=by simp [World.cell?,Xw8.out]
  have x1:w8.cell? ⟨w1.heap.size,1,none⟩=some (J Z p):=by simp [World.cell?,Xw8.out]
  have x2:w8.cell? ⟨w1.heap.size,2,none⟩=some (J Z d):=by simp [World.cell?,Xw8.out]
  have x3:w8.cell? ⟨w1.heap.size,3,none⟩=some (J Z nv):=by simp [World.cell?,Xw8.out]
  have x4:w8.cell? ⟨w1.heap.size,4,none⟩=some (J Z na):=by simp [World.cell?,Xw8.out]
  have x5:w8.cell? ⟨w1.heap.size,5,none⟩=some (Q none 0 0):=by simp [World.cell?,Xw8.out]
  have x6:w8.cell? ⟨w1.heap.size,6,none⟩=some (J Z (-1)):=by simp [World.cell?,Xw8.out]
  have xz:∀ j,w8.frozen? ⟨w1.heap.size,j,none⟩=false:=fun j=>by simp [World.frozen?,Xw8.out]
  have HP8:Hid (PM ((w8).setCell ⟨w1.heap.size,6,none⟩ (J Z r.idx)) base B s (r.k) (r.b) ev8 rv (es++new) rs):=(Pw8.out).setE (j:=6) (u:=J Z r.idx) ⟨_,_,Xw8.out⟩ Ow8.out.2.1
  have HM8:Hid (Mv base B ev rv ev8 rv w ((w8).setCell ⟨w1.heap.size,6,none⟩ (J Z r.idx))):=(Mw8.out).setNew (j:=6) hws hbs1 (J Z r.idx)
  have HX8:Hid (((w8).setCell ⟨w1.heap.size,6,none⟩ (J Z r.idx)).heap[w1.heap.size]?=some (X #[J O 116,J Z p,J Z d,J Z nv,J Z na,Q none 0 0,J Z r.idx] 97 (0,0))):=(zK (j:=6) (u:=J Z r.idx) (Xw8.out))
  go_wp2_with fail
  refine (yf base B s 41 (r.k) (r.b) ev8 rv (es++new) rs _ hs hmo.2.1 (by decide) HP8.out).mono ?_
  rintro e w10 ⟨rfl,hp,hm⟩
  rw [hk3,hq3] at hp
  have Pw10:Hid _:=hp
  have Mw10:Hid (Mv base B ev rv ev8 rv w w10):=(HM8.out).trans hm
  have Xw10:Hid _:=(hm.kept _ (lt_of_block (HX8.out)) Ow8.out).1.trans (HX8.out)
  clear hp hm
  clear x0 x1 x2 x3 x4 x5 x6 xz
  have x0:w10.cell? ⟨w1.heap.size,0,none⟩=some (J O 116):=by simp [World.cell?,Xw10.out]
  have x1:w10.cell? ⟨w1.heap.size,1,none⟩=some (J Z p):=by simp [World.cell?,Xw10.out]
  have x2:w10.cell? ⟨w1.heap.size,2,none⟩=some (J Z d):=by simp [World.cell?,Xw10.out]
  have x3:w10.cell? ⟨w1.heap.size,3,none⟩=some (J Z nv):=by simp [World.cell?,Xw10.out]
  have x4:w10.cell? ⟨w1.heap.size,4,none⟩=some (J Z na):=by simp [World.cell?,Xw10.out]
  have x5:w10.cell? ⟨w1.heap.size,5,none⟩=some (Q none 0 0):=by simp [World.cell?,Xw10.out]
  have x6:w10.cell? ⟨w1.heap.size,6,none⟩=some (J Z r.idx):=by simp [World.cell?,Xw10.out]
  have xz:∀ j,w10.frozen? ⟨w1.heap.size,j,none⟩=false:=fun j=>by simp [World.frozen?,Xw10.out]
  have hl8:=hnl.out
  have HP5:Hid _:=Pw10.out
  have HM5:Hid _:=Mw10.out
  have HX5:Hid _:=Xw10.out
  have HV5:Hid ((w10).ownsRow base 104 7 (Q none 0 0) ((⟨116,p,d,nv,na,[],r.idx⟩:EX)).items.length (imC ((⟨116,p,d,nv,na,[],r.idx⟩:EX)).items)):=⟨rfl,.inl ⟨rfl,rfl⟩⟩
  go_wp2_with fail
  generalize w10=w5 at *
  clear x0 x1 x2 x3 x4 x5 x6 xz
  have x0:w5.cell? ⟨w1.heap.size,0,none⟩=some (J O 116):=by simp [World.cell?,HX5.out]
  have x1:w5.cell? ⟨w1.heap.size,1,none⟩=some (J Z p):=by simp [World.cell?,HX5.out]
  have x2:w5.cell? ⟨w1.heap.size,2,none⟩=some (J Z d):=by simp [World.cell?,HX5.out]
  have x3:w5.cell? ⟨w1.heap.size,3,none⟩=some (J Z nv):=by simp [World.cell?,HX5.out]
  have x4:w5.cell? ⟨w1.heap.size,4,none⟩=some (J Z na):=by simp [World.cell?,HX5.out]
  have x5:w5.cell? ⟨w1.heap.size,5,none⟩=some (Q none 0 0):=by simp [World.cell?,HX5.out]
  have x6:w5.cell? ⟨w1.heap.size,6,none⟩=some (J Z r.idx):=by simp [World.cell?,HX5.out]
  have c3:=HP5.out.c3
  have hB5:=HP5.out.lt
  have hX5:w1.heap.size<w5.heap.size:=lt_of_block HX5.out
  have z3:=HP5.out.fz 3
  obtain ⟨n9,hn9⟩:∃ n9,n9=(es++new).length:=⟨_,rfl⟩
  have HN9:Hid _:=hn9
  have HE9:Hid (w5.ownsRow base 97 7 ev8 n9 (exC (es++new))):=by show World.ownsRow _ _ _ _ _ _ _;rw [hn9];exact HP5.out.ex
  have hl9:(n9:Int)<5000:=by rw [hn9];simp only [List.length_append];omega
  clear hn9
  have hA1:Hid (n9+1<=maxLen):=by show _<=_;unfold maxLen;omega
  have hA2:Hid ((n9+1)*72<=140737488355328):=by show _<=_;omega
  have hA3:Hid (∀ o:Obj,base<=(w5.alloc o).drew.heap.size):=fun o=>by have:=HP5.out.bs;show base<=(w5.alloc o).heap.size;simp;omega
  have hone:Hid (∀ u∈exV ((⟨116,p,d,nv,na,[],r.idx⟩:EX),Q none 0 0),u.oneCell'=true):=fun u hu=>by simp [exV] at hu;rcases hu with rfl | rfl | rfl | rfl | rfl | rfl | rfl<;>first | rfl | exact HV1.out
  go_region_law ((refine step_append_lies _ (by rfl) _ _ _ (by rfl) base 97 i0 _ 7 72 Try.underlying65 hi0 hz0 hz1 hz2 rfl (by decide) ev8 _ _ (by rfl) ((HE9.out.alloc _).drew) ⟨w5.heap.size,0,none⟩ 1 1 (exV ((⟨116,p,d,nv,na,[],r.idx⟩:EX),Q none 0 0)) (by rfl) (by rfl) (World.news_of_block (cs:=#[J O 116,J Z p,J Z d,J Z nv,J Z na,Q none 0 0,J Z r.idx]) (t:=97) (fr:=(0,0)) (heap_alloc_new w5 _)) hone.out (Nat.lt_succ_self 0) hA1.out hA2.out (hA3.out _) (w5.heap.size+1) (by simp) ?_;intro g cap w9 hown hgrow hat hlt9;obtain ⟨y3,yz⟩:=HP5.out.grown3 hgrow))
  all_goals
   have HP9:Hid (PM (w9.setCell ⟨B,3,none⟩ (Q (some ⟨g,0,none⟩) (n9+1) cap)) base B s (k3) (b3) (Q (some ⟨g,0,none⟩) (n9+1) cap) rv (es++new++[((⟨116,p,d,nv,na,[],r.idx⟩:EX),Q none 0 0)]) rs):=((HP5.out.alloc _).drew).pushE HN9.out hgrow hown ((HV5.out.alloc _).drew)
   have HM9:Hid (Mv base B ev rv (Q (some ⟨g,0,none⟩) (n9+1) cap) rv w (w9.setCell ⟨B,3,none⟩ (Q (some ⟨g,0,none⟩) (n9+1) cap))):=(HM5.out.trans (Mv.alloc HP5.out.bs _)).drew.trans (((HP5.out.alloc _).drew).pushMv hgrow hat (by show (w5.alloc _).heap.size<=_;simp))
   clear hown hgrow hat
   go_wp2_with fail
   go_ret
   exact ⟨by rw [<- hR.out];show _=Ending.returned (J Z ((es.length+r.es.length:Nat):Int));rw [<- hnl.out,<- List.length_append,<- HN9.out];rfl,_,new++[((⟨116,p,d,nv,na,[],r.idx⟩:EX),Q none 0 0)],by rw [<- hR.out];rw [List.map_append,HNW.out];rfl,by rw [<- hR.out,<- List.append_assoc];exact HP9.out,HM9.out,fun q hq g hg=>by
    rcases List.mem_append.1 hq with hq | hq
    ·exact HFR.out q hq g hg
    ·simp at hq;subst hq;simp [Value.ownBlock] at hg⟩
end
section
attribute [local go_sem] zC zu
theorem xj (n base B:Nat) (s:ByteArray) (d:Int) (k:Nat) (b:Bool) (ev rv:Value) (es:List (EX×Value)) (rs:List RL) (w:World) (hX:ZH (cE s rs n) s base B rs n) (hn:s.size-k<n+1) (hs:s.size<=2000) (hk:k<=s.size) (h0:0<=d) (h1:d<=k) (hl:es.length<=k) (_hrl:rs.length<=2000) (hc:zd s (za s k b) b=123) (h:PM w base B s k b ev rv es rs) (R:CR) (hR:Hid (cE s rs (n+1) d es.length k b=R)) :
 Calls Try.prog 65 #[.pointer (some ⟨B,0,none⟩),J Z d] w fun e w' =>
  e=.returned (J Z R.idx)/\∃ ev' new,new.map Prod.fst=R.es/\PM w' base B s R.k R.b ev' rv (es++new) rs/\Mv base B ev rv ev' rv w w'/\∀ p∈new,∀ g,p.2.ownBlock=some g->w.heap.size<=g:=by
 obtain ⟨i0,hi0,hz0,hz1,hz2⟩:=info_parts Try.infoExpr
 have H:Hid _:=h
 clear h
 go_enter Try.func65,Try.ntmps65
 go_wp2_with fail
 refine (zO base B s k b ev rv es rs _ hs hk H.out).mono ?_
 rintro e w1 ⟨rfl,hp,hm⟩
 have hKK:isK (zd s (za s k b) b)=true:=by rw [hc];rfl
 have hlt:za s k b<s.size:=(yJ hKK).2
 have hkp:k<=za s k b:=zP s k b
 have hbf:b=false:=(yJ hKK).1
 subst hbf
 rw [Z3 n d es.length k false hc] at hR
 clear hKK
 have hce:zd s (za s k false) false=123:=hc
 have hpd:=fun (wz:World) (hz:PM wz base B s (za s k false) false ev rv es rs)=>ZO base B s (za s k false) false ev rv es rs wz hz
 rw [hce] at hpd
 clear hce hc
 generalize za s k false=p at *
 have HP1:Hid _:=hp
 have HM1:Hid _:=hm
 have c1:=hp.c1
 have hxou:=hp.outNew
 have hbs1:=hp.bs
 have hws:w.heap.size<=w1.heap.size:=hm.bel.size
 have hXB:w1.heap.size≠B:=hxou.1
 have hBX:B≠w1.heap.size:=fun e=>hxou.1 e.symm
 have hBl:=hp.lt
 clear hp hm
 have hbn:=fun w=>ZT 123 p d w
 go_wp2_with fail
 go_region_held3 (fun w'=>w'.cell? ⟨B,1,none⟩=some (J Z p)) (first | (exact c1) | (exact yW c1 _) | (exact xu hXB (yW c1 _) _ _) | go_keep) (first | (go_at_call 67;refine (hpd _ (by first | exact HP1.out.drew | exact HP1.out.drew.alloc _ | exact HP1.out.alloc _ | exact HP1.out)).mono ?_;rintro e w' ⟨rfl,q,rfl⟩))
 all_goals
  have HP2:Hid (PM ((w1.alloc (X #[J O 123,J Z p,J Z d,J Z 0,J Z 0,Q none 0 0,J Z (-1)] 97)).drewN (1+q)) base B s p false ev rv es rs):=(HP1.out.alloc _).drewN _
  have HM2:Hid (Mv base B ev rv ev rv w ((w1.alloc (X #[J O 123,J Z p,J Z d,J Z 0,J Z 0,Q none 0 0,J Z (-1)] 97)).drewN (1+q))):=(HM1.out.trans (Mv.alloc hbs1 _)).drewN _
  have XH2:Hid (((w1.alloc (X #[J O 123,J Z p,J Z d,J Z 0,J Z 0,Q none 0 0,J Z (-1)] 97)).drewN (1+q)).heap[w1.heap.size]?=some (X #[J O 123,J Z p,J Z d,J Z 0,J Z 0,Q none 0 0,J Z (-1)] 97 (0,0))):=heap_alloc_new w1 _
  generalize (w1.alloc (X #[J O 123,J Z p,J Z d,J Z 0,J Z 0,Q none 0 0,J Z (-1)] 97)).drewN (1+q)=w2 at *
  clear c1 hbn
  have c1:=HP2.out.c1
  have z1:=HP2.out.fz 1
  have x0:w2.cell? ⟨w1.heap.size,0,none⟩=some (J O 123):=by simp [World.cell?,XH2.out]
  have hik:=fun w=>yI 123 w
  rw [show isK 123=true from rfl] at hik
  go_wp2_with fail
  refine (hik _).mono ?_
  rintro e w3 ⟨hw3,rfl⟩
  subst w3
  have HP3:Hid (PM (w2.setCell ⟨B,1,none⟩ (J Z ((p:Int)+1))) base B s (p+1) false ev rv es rs):=HP2.out.at (p+1) _ (by omega)
  have HM3:Hid (Mv base B ev rv ev rv w (w2.setCell ⟨B,1,none⟩ (J Z ((p:Int)+1)))):=HM2.out.trans (HP2.out.setMv 1 _)
  have XH3:Hid ((w2.setCell ⟨B,1,none⟩ (J Z ((p:Int)+1))).heap[w1.heap.size]?=some (X #[J O 123,J Z p,J Z d,J Z 0,J Z 0,Q none 0 0,J Z (-1)] 97 (0,0))):=(zc hXB).trans XH2.out
  have hp1:(p:Int)<2000:=by omega
  go_wp2_with fail
  clear c1 z1 x0
  have hli:=zU (yN s rs n) 123 d (s.size+1-(p+1)) es.length (p+1) false (by omega)
  generalize hl0:zf (cE s rs n) s 123 d (s.size+1-(p+1)) es.length (p+1) false=l at *
  generalize hk3:zb s 125 l.k l.b=k3 at *
  generalize hq3:zi s 125 l.k l.b=b3 at *
  refine (xw (cE s rs n) base B s 123 d (p+1) (false) ev rv es rs _ n hX (yN s rs n) (Y5 s rs n) h0 (by omega) (by omega) (.inr (by omega)) hs (by omega) (.inl rfl) HP3.out l hl0).mono ?_
  rintro e w6 ⟨v,ev6,new,rfl,hnew,hp,hm,hfr,hrow,hvf⟩
  obtain ⟨vo,vm,vc,rfl⟩:∃ vo vm vc,v=Q vo vm vc:=by
   rcases hrow.2 with ⟨rfl,_⟩ | ⟨g,cap,cur,rfl,_⟩
   ·exact ⟨none,0,0,rfl⟩
   ·exact ⟨_,_,_,rfl⟩
  have hnl:Hid (new.length=l.es.length):=by show _=_;rw [<- hnew,List.length_map]
  have HFR:Hid (∀ p∈new,∀ g,p.2.ownBlock=some g->w.heap.size<=g):=fun p hp g hg=>Nat.le_trans HM3.out.bel.size (hfr p hp g hg)
  have HVF:Hid (∀ g,(Q vo vm vc).ownBlock=some g->w.heap.size<=g):=fun g hg=>Nat.le_trans HM3.out.bel.size (hvf g hg).1
  have HNW:Hid _:=hnew
  have HV1:Hid ((Q vo vm vc).oneCell'=true):=rfl
  have HV0:Hid _:=hrow
  clear hfr hnew hvf hrow
  have Pw6:Hid _:=hp
  have Mw6:Hid (Mv base B ev rv ev6 rv w w6):=(HM3.out).trans hm
  have Xw6:Hid _:=(hm.kept _ (lt_of_block (XH3.out)) hxou).1.trans (XH3.out)
  have Ow6:Hid (Out B ev6 rv w1.heap.size):=(hm.kept _ (lt_of_block (XH3.out)) hxou).2
  clear hp hm
  have x0:w6.cell? ⟨w1.heap.size,0,none⟩=some (J O 123):=by simp [World.cell?,Xw6.out]
  have x1:w6.cell? ⟨w1.heap.size,1,none⟩=some (J Z p):=by simp [World.cell?,Xw6.out]
  have x2:w6.cell? ⟨w1.heap.size,2,none⟩=some (J Z d):=by simp [World.cell?,Xw6.out]
  have x3:w6.cell? ⟨w1.heap.size,3,none⟩=some (J Z 0):=by simp [World.cell?,Xw6.out]
  have x4:w6.cell? ⟨w1.heap.size,4,none⟩=some (J Z 0):=by simp [World.cell?,Xw6.out]
  have x5:w6.cell? ⟨w1.heap.size,5,none⟩=some (Q none 0 0):=by simp [World.cell?,Xw6.out]
  have x6:w6.cell? ⟨w1.heap.size,6,none⟩=some (J Z (-1)):=by simp [World.cell?,Xw6.out]
  have xz:∀ j,w6.frozen? ⟨w1.heap.size,j,none⟩=false:=fun j=>by simp [World.frozen?,Xw6.out]
  have HP6:Hid (PM ((w6).setCell ⟨w1.heap.size,5,none⟩ (Q vo vm vc)) base B s (l.k) (l.b) ev6 rv (es++new) rs):=(Pw6.out).setE (j:=5) (u:=Q vo vm vc) ⟨_,_,Xw6.out⟩ Ow6.out.2.1
  have HM6:Hid (Mv base B ev rv ev6 rv w ((w6).setCell ⟨w1.heap.size,5,none⟩ (Q vo vm vc))):=(Mw6.out).setNew (j:=5) hws hbs1 (Q vo vm vc)
  have HX6:Hid (((w6).setCell ⟨w1.heap.size,5,none⟩ (Q vo vm vc)).heap[w1.heap.size]?=some (X #[J O 123,J Z p,J Z d,J Z 0,J Z 0,Q vo vm vc,J Z (-1)] 97 (0,0))):=(zK (j:=5) (u:=Q vo vm vc) (Xw6.out))
  have HR6x0:Hid (((w6).setCell ⟨w1.heap.size,5,none⟩ (Q vo vm vc)).ownsRow base 104 7 (Q vo vm vc) l.ims.length (imC l.ims)):=ownsRow_setCell_other (HV0.out) (zs (HV0.out) (Xw6.out) (by decide)) (Q vo vm vc)
  go_wp2_with fail
  refine (yf base B s 125 (l.k) (l.b) ev6 rv (es++new) rs _ hs hli.2.1 (by decide) HP6.out).mono ?_
  rintro e w10 ⟨rfl,hp,hm⟩
  rw [hk3,hq3] at hp
  have Pw10:Hid _:=hp
  have Mw10:Hid (Mv base B ev rv ev6 rv w w10):=(HM6.out).trans hm
  have Xw10:Hid _:=(hm.kept _ (lt_of_block (HX6.out)) Ow6.out).1.trans (HX6.out)
  have Rw10x0:Hid (w10.ownsRow base 104 7 (Q vo vm vc) l.ims.length (imC l.ims)):=zj (HR6x0.out) (fun g hg=>(hm.kept g ((HR6x0.out).lt g hg).2 ((HP6.out).outI (HR6x0.out) hg)).1)
  clear hp hm
  clear x0 x1 x2 x3 x4 x5 x6 xz
  have x0:w10.cell? ⟨w1.heap.size,0,none⟩=some (J O 123):=by simp [World.cell?,Xw10.out]
  have x1:w10.cell? ⟨w1.heap.size,1,none⟩=some (J Z p):=by simp [World.cell?,Xw10.out]
  have x2:w10.cell? ⟨w1.heap.size,2,none⟩=some (J Z d):=by simp [World.cell?,Xw10.out]
  have x3:w10.cell? ⟨w1.heap.size,3,none⟩=some (J Z 0):=by simp [World.cell?,Xw10.out]
  have x4:w10.cell? ⟨w1.heap.size,4,none⟩=some (J Z 0):=by simp [World.cell?,Xw10.out]
  have x5:w10.cell? ⟨w1.heap.size,5,none⟩=some (Q vo vm vc):=by simp [World.cell?,Xw10.out]
  have x6:w10.cell? ⟨w1.heap.size,6,none⟩=some (J Z (-1)):=by simp [World.cell?,Xw10.out]
  have xz:∀ j,w10.frozen? ⟨w1.heap.size,j,none⟩=false:=fun j=>by simp [World.frozen?,Xw10.out]
  have hl8:=hnl.out
  have HP5:Hid (PM (w10) base B s (k3) (b3) ev6 rv (es++new) rs):=Pw10.out
  have HM5:Hid _:=Mw10.out
  have HX5:Hid _:=Xw10.out
  have HR5x0:Hid _:=Rw10x0.out
  have HV5:Hid ((w10).ownsRow base 104 7 (Q vo vm vc) ((⟨123,p,d,0,0,l.ims,-1⟩:EX)).items.length (imC ((⟨123,p,d,0,0,l.ims,-1⟩:EX)).items)):=Rw10x0.out
  go_wp2_with fail
  generalize w10=w5 at *
  clear x0 x1 x2 x3 x4 x5 x6 xz
  have x0:w5.cell? ⟨w1.heap.size,0,none⟩=some (J O 123):=by simp [World.cell?,HX5.out]
  have x1:w5.cell? ⟨w1.heap.size,1,none⟩=some (J Z p):=by simp [World.cell?,HX5.out]
  have x2:w5.cell? ⟨w1.heap.size,2,none⟩=some (J Z d):=by simp [World.cell?,HX5.out]
  have x3:w5.cell? ⟨w1.heap.size,3,none⟩=some (J Z 0):=by simp [World.cell?,HX5.out]
  have x4:w5.cell? ⟨w1.heap.size,4,none⟩=some (J Z 0):=by simp [World.cell?,HX5.out]
  have x5:w5.cell? ⟨w1.heap.size,5,none⟩=some (Q vo vm vc):=by simp [World.cell?,HX5.out]
  have x6:w5.cell? ⟨w1.heap.size,6,none⟩=some (J Z (-1)):=by simp [World.cell?,HX5.out]
  have c3:=HP5.out.c3
  have hB5:=HP5.out.lt
  have hX5:w1.heap.size<w5.heap.size:=lt_of_block HX5.out
  have z3:=HP5.out.fz 3
  obtain ⟨n9,hn9⟩:∃ n9,n9=(es++new).length:=⟨_,rfl⟩
  have HN9:Hid (n9=(es++new).length):=hn9
  have HE9:Hid (w5.ownsRow base 97 7 ev6 n9 (exC (es++new))):=by show World.ownsRow _ _ _ _ _ _ _;rw [hn9];exact HP5.out.ex
  have hl9:(n9:Int)<5000:=by rw [hn9];simp only [List.length_append];omega
  clear hn9
  have hA1:Hid (n9+1<=maxLen):=by show _<=_;unfold maxLen;omega
  have hA2:Hid ((n9+1)*72<=140737488355328):=by show _<=_;omega
  have hA3:Hid (∀ o:Obj,base<=(w5.alloc o).drew.heap.size):=fun o=>by have:=HP5.out.bs;show base<=(w5.alloc o).heap.size;simp;omega
  have hone:Hid (∀ u∈exV ((⟨123,p,d,0,0,l.ims,-1⟩:EX),Q vo vm vc),u.oneCell'=true):=fun u hu=>by simp [exV] at hu;rcases hu with rfl | rfl | rfl | rfl | rfl | rfl | rfl<;>first | rfl | exact HV1.out
  go_region_law ((refine step_append_lies _ (by rfl) _ _ _ (by rfl) base 97 i0 _ 7 72 Try.underlying65 hi0 hz0 hz1 hz2 rfl (by decide) ev6 _ _ (by rfl) ((HE9.out.alloc _).drew) ⟨w5.heap.size,0,none⟩ 1 1 (exV ((⟨123,p,d,0,0,l.ims,-1⟩:EX),Q vo vm vc)) (by rfl) (by rfl) (World.news_of_block (cs:=#[J O 123,J Z p,J Z d,J Z 0,J Z 0,Q vo vm vc,J Z (-1)]) (t:=97) (fr:=(0,0)) (heap_alloc_new w5 _)) hone.out (Nat.lt_succ_self 0) hA1.out hA2.out (hA3.out _) (w5.heap.size+1) (by simp) ?_;intro g cap w9 hown hgrow hat hlt9;obtain ⟨y3,yz⟩:=HP5.out.grown3 hgrow))
  all_goals
   have HP9:Hid (PM (w9.setCell ⟨B,3,none⟩ (Q (some ⟨g,0,none⟩) (n9+1) cap)) base B s (k3) (b3) (Q (some ⟨g,0,none⟩) (n9+1) cap) rv (es++new++[((⟨123,p,d,0,0,l.ims,-1⟩:EX),Q vo vm vc)]) rs):=((HP5.out.alloc _).drew).pushE HN9.out hgrow hown ((HV5.out.alloc _).drew)
   have HM9:Hid (Mv base B ev rv (Q (some ⟨g,0,none⟩) (n9+1) cap) rv w (w9.setCell ⟨B,3,none⟩ (Q (some ⟨g,0,none⟩) (n9+1) cap))):=(HM5.out.trans (Mv.alloc HP5.out.bs _)).drew.trans (((HP5.out.alloc _).drew).pushMv hgrow hat (by show (w5.alloc _).heap.size<=_;simp))
   clear hown hgrow hat
   go_wp2_with fail
   go_ret
   exact ⟨by rw [<- hR.out];show _=Ending.returned (J Z ((es.length+l.es.length:Nat):Int));rw [<- hnl.out,<- List.length_append,<- HN9.out];rfl,_,new++[((⟨123,p,d,0,0,l.ims,-1⟩:EX),Q vo vm vc)],by rw [<- hR.out];rw [List.map_append,HNW.out];rfl,by rw [<- hR.out,<- List.append_assoc];exact HP9.out,HM9.out,fun q hq g hg=>by
    rcases List.mem_append.1 hq with hq | hq
    ·exact HFR.out q hq g hg
    ·simp at hq;subst hq;exact HVF.out g hg⟩
end
end Go.Proofs.Ytaebngpoagjafaa
