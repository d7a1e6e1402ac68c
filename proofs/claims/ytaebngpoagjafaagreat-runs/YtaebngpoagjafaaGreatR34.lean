import Derived.Test.YtaebngpoagjafaaGreatR28
import Derived.Test.YtaebngpoagjafaaGreatR27
import Derived.Test.YtaebngpoagjafaaGreatR30
import Derived.Test.YtaebngpoagjafaaGreatR33
set_option maxRecDepth 100000
set_option maxHeartbeats 800000
namespace Go.Proofs.YtaebngpoagjafaaGreat
open Go.RowKit
attribute [local go_sem ↓] Go.wp_at_zero Go.wp_at_succ
def cpE (s:ByteArray):Int:=if (ZG s).1=0 then (if 1000<szR (zy s).es (zy s).es.length then 8 else 0) else (ZG s).1
def cpX (s:ByteArray):List Int:=yg (zy s).es (zy s).es.length
def ze6 (w:World) (n:Int) (X:List Int) (r:Ending) (w':World):Prop:=Below w.heap.size w w'/\∃ o m k,r=.returned (.tuple #[.slice o m k,.int .i64 n])/\(n≠0->o=none/\m=0/\k=0)/\(n=0->m=X.length/\w'.ownsRow w.heap.size 5 1 (.slice o m k) X.length (X.map (Value.int .u8)))
theorem EB.shp {e:EX} (h:EB e) (hl:e.items.length<=100000):SHP e:=by
 refine ⟨?_,?_,h.nv.1,by have:=h.nv;omega,hl,fun x hx=>?_⟩
 ·have:=h.kind;omega
 ·have:=h.kind;omega
 ·have i:=h.it x hx
  have h1:=i.num
  have h2:=i.pv
  have h3:=i.pl
  have h4:=i.wv
  omega
theorem EVw.of_pq {w:World} {base:Nat} {eo:Option Addr} {em ec:Nat} {rv:Value} {es:List (EX×Value)} {rs:List RL} (h:PQ w base (.slice eo em ec) rv es rs):em=es.length/\es.length<=ec/\EVw w eo es:=by
 obtain ⟨eo',ec',he,hv⟩:=zac h.ex h.it
 cases he
 obtain ⟨o,c,hv2,hc⟩:=yd h.ex
 cases hv2
 exact ⟨rfl,hc,hv⟩
theorem Q3 (eo:Option Addr) (ec:Nat) (ro:Option Addr) (rm rc:Nat) (base:Nat) (es:List (EX×Value)) (rs:List RL) (w:World) (hl:es.length<=100000) (hi:∀ p∈es,p.1.items.length<=100000) (hb:Zo (es.map Prod.fst)) (h:PQ w base (.slice eo es.length ec) (.slice ro rm rc) es rs) (n:Int) (hn:Hid ((if 1000<szR (es.map Prod.fst) es.length then (8:Int) else 0)=n)) :
 Calls Tryz.prog 40 #[.agg #[.slice eo es.length ec,.slice ro rm rc]] w (ze6 w n (yg (es.map Prod.fst) es.length)):=by
 have HB0:Hid (Below w.heap.size w (w.alloc (.cells #[.slice eo es.length ec,.slice ro rm rc] 77))):=(Below.refl _ _).alloc (Nat.le_refl _) _
 have HX0:Hid ((w.alloc (.cells #[.slice eo es.length ec,.slice ro rm rc] 77)).heap[w.heap.size]?=some (.cells #[.slice eo es.length ec,.slice ro rm rc] 77 (0,0))):=heap_alloc_new w _
 have HPZ:Hid (∀ rv,(∃ ro rm rc,rv=Value.slice ro rm rc)->Calls Tryz.prog 39 #[.agg #[.slice eo es.length ec,rv]] (w.alloc (.cells #[.slice eo es.length ec,.slice ro rm rc] 77)) fun e w'=>Below (w.alloc (.cells #[.slice eo es.length ec,.slice ro rm rc] 77)).heap.size (w.alloc (.cells #[.slice eo es.length ec,.slice ro rm rc] 77)) w'/\e=.returned (.int .i64 (szR (es.map Prod.fst) es.length))):=fun rv hrv=>zbx eo ec rv base es _ hrv (h.ex.alloc _) (fun p hp=>(h.it p hp).alloc _) hl hi
 obtain ⟨_,hec,hev⟩:=EVw.of_pq h
 have HEV:Hid (EVw w eo es):=hev
 have HENC:Hid (szR (es.map Prod.fst) es.length<=1000->∀ wz,EVw wz eo es->Calls Tryz.prog 62 #[.slice eo es.length ec] wz (zdb wz (yg (es.map Prod.fst) es.length))):=fun hsz wz hz=>JG es eo ec hec hl (fun p hp=>(hb p.1 (List.mem_map_of_mem hp)).shp (hi p hp)) es.length (Nat.le_refl _) hsz eo ec wz (fun _=>⟨rfl,rfl⟩) hz
 have hzb:=zex (es.map Prod.fst) es.length
 clear h hev hb hi
 generalize yg (es.map Prod.fst) es.length=X at *
 generalize szR (es.map Prod.fst) es.length=z at *
 go_enter Tryz.func40,Tryz.ntmps40
 go_wp2_with fail
 refine (HPZ.out _ ⟨_,_,_,rfl⟩).mono ?_
 rintro e w1 ⟨hb1,rfl⟩
 have HB1:Hid (Below w.heap.size w w1):=HB0.out.trans (hb1.mono HB0.out.size)
 have HX1:Hid (w1.heap[w.heap.size]?=some (.cells #[.slice eo es.length ec,.slice ro rm rc] 77 (0,0))):=by show _=_;rw [hb1.block _ (by simp)];exact HX0.out
 have q0:w1.cell? ⟨w.heap.size,0,none⟩=some (.slice eo es.length ec):=by rw [cell_of_row _ _ _ _ _ _ HX1.out];rfl
 clear hb1
 by_cases hz:1000<z
 ·have HN:Hid (n=8):=by show _=_;rw [<- hn.out,if_pos hz]
  go_wp2_with fail
  go_ret2
  exact ⟨HB1.out,none,0,0,by rw [HN.out];rfl,fun _=>⟨rfl,rfl,rfl⟩,fun h=>by rw [HN.out] at h;cases h⟩
 ·have HN:Hid (n=0):=by show _=_;rw [<- hn.out,if_neg hz]
  have hz':z<=1000:=by omega
  clear hz
  go_wp2_with fail
  refine (HENC.out hz' _ (HEV.out.below HB1.out)).mono ?_
  rintro r w2 ⟨hb2,o,k,rfl,hrow⟩
  have HB2:Hid _:=HB1.out.trans (hb2.mono HB1.out.size)
  have HR2:Hid (w2.ownsRow w.heap.size 5 1 (.slice o X.length k) X.length (X.map (Value.int .u8))):=ZC hrow HB1.out.size
  clear hb2 hrow
  go_wp2_with fail
  go_ret2
  exact ⟨HB2.out,o,X.length,k,by rw [HN.out];rfl,fun h=>absurd HN.out h,fun _=>⟨rfl,HR2.out⟩⟩
theorem Jb (s:ByteArray) (w:World) :
 Calls Tryz.prog 25 #[.string s] w (ze6 w (cpE s) (cpX s)):=by
 obtain ⟨c,hc⟩:∃ c,ZG s=c:=⟨_,rfl⟩
 have HC:Hid _:=hc
 have HS:Hid (cpE s=if c.1=0 then (if 1000<szR (zy s).es (zy s).es.length then 8 else 0) else c.1):=by show _=_;unfold cpE;rw [hc]
 have HBDS:Hid (c.1=0->(zy s).es.length<=100000/\∀ e∈(zy s).es,e.items.length<=100000):=by
  intro h0
  have hs:¬ 2000<s.size:=fun h=>by rw [<- hc] at h0;unfold ZG at h0;rw [if_pos h] at h0;cases h0
  have h1:=qX s (s.size+1) [] 0 0 false
  refine ⟨?_,fun e he=>by have:=h1 e he;omega⟩
  have h2:=ZO s (s.size+1) [] 0 0 false (Nat.zero_le _)
  show (zw s (s.size+1) [] 0 0 false).es.length<=100000
  omega
 clear hc
 obtain ⟨c1,c2⟩:=c
 simp only at HS HBDS
 go_enter Tryz.func25,Tryz.ntmps25
 go_wp2_with fail
 refine (zc6 s _ (c1,c2) HC).mono ?_
 rintro e w1 ⟨hb,eo,em,ec,ro,rm,rc,rfl,hq⟩
 have HB:Hid _:=hb
 have HQ:Hid _:=hq
 clear hb hq
 cases e1:(c1==0) with
 | false =>
  have e2:(c1 != 0)=true:=by simp [bne,e1]
  have HE:Hid (cpE s=c1):=by show _=_;rw [HS.out,if_neg (by simpa using e1)]
  have HB1:Hid (Below w.heap.size w (w1.alloc (.cells #[.slice eo em ec,.slice ro rm rc] 77))):=HB.out.alloc HB.out.size _
  have HNZ:Hid (c1≠0):=by show ¬ _;simpa using e1
  go_wp2_with fail
  go_ret2
  exact ⟨HB1.out,none,0,0,by rw [HE.out];rfl,fun _=>⟨rfl,rfl,rfl⟩,fun h=>by rw [HE.out] at h;exact absurd h HNZ.out⟩
 | true =>
  have h0:c1=0:=by simpa using e1
  subst h0
  obtain ⟨es,hes,hpq⟩:=HQ.out rfl
  have hbd:=HBDS.out rfl
  have HE:Hid ((if 1000<szR (es.map Prod.fst) es.length then (8:Int) else 0)=cpE s):=by
   show _=_
   rw [HS.out,if_pos rfl,<- hes,List.length_map]
  have HXX:Hid (yg (es.map Prod.fst) es.length=cpX s):=by show _=_;unfold cpX;rw [<- hes,List.length_map]
  obtain ⟨rfl,_,_⟩:=EVw.of_pq hpq
  have hab:Zo (es.map Prod.fst):=by rw [hes];exact jc s
  rw [<- hes] at hbd
  have HB1:Hid (Below w.heap.size w (w1.alloc (.cells #[.slice eo es.length ec,.slice ro rm rc] 77))):=HB.out.alloc HB.out.size _
  have HCP:=Q3 eo ec ro rm rc w.heap.size es (zy s).rs (w1.alloc (.cells #[.slice eo es.length ec,.slice ro rm rc] 77)) (by simpa using hbd.1) (fun p hp=>hbd.2 p.1 (List.mem_map_of_mem hp)) hab ⟨hpq.ex.alloc _,hpq.rl.alloc _,fun p hp=>(hpq.it p hp).alloc _⟩ (cpE s) HE
  rw [HXX.out] at HCP
  clear hpq hes hbd hab
  go_wp2_with fail
  refine HCP.mono ?_
  rintro e w2 ⟨hb2,o,m,k,rfl,hn,hz⟩
  have HB2:Hid _:=HB1.out.trans (hb2.mono HB1.out.size)
  have HN2:Hid _:=hn
  have HZ2:Hid (cpE s=0->m=(cpX s).length/\w2.ownsRow w.heap.size 5 1 (.slice o m k) (cpX s).length ((cpX s).map (Value.int .u8))):=fun h=>⟨(hz h).1,ZC (hz h).2 HB1.out.size⟩
  clear hb2 hn hz
  go_wp2_with fail
  go_ret2
  exact ⟨HB2.out,o,m,k,rfl,HN2.out,HZ2.out⟩
theorem zeQ {c:Int}:∀ (l pre:List IM),(∀ err a,¬ FIs c pre l err a)->∀ (i:Nat) (x:IM),l[i]?=some x->∀ err a,¬ FIm c (pre++l.take i) x err a:=by
 intro l
 induction l with
 | nil=>intro pre _ i x hx;simp at hx
 | cons y l ih =>
  intro pre h i x hx err a
  cases i with
  | zero =>
   simp only [List.getElem?_cons_zero,Option.some.injEq] at hx
   subst hx
   simp only [List.take_zero,List.append_nil]
   exact fun hf=>h err a (.inl hf)
  | succ i =>
   rw [List.getElem?_cons_succ] at hx
   have:=ih (pre++[y]) (fun err a hf=>h err a (.inr hf)) i x hx err a
   rwa [List.append_assoc,List.singleton_append,<- List.take_succ_cons] at this
structure NF (e:EX):Prop where
 ttl:e.kind=116->1<=e.nv/\e.nv<=86400
 ali:e.kind=64->0<=e.nv/\e.nv<=15
 len:e.items.length<=16
 num:e.kind=123\/e.kind=102\/e.kind=119->∀ x∈e.items,0<=x.num/\x.num<=63
 wgt:e.kind=119->∀ x∈e.items,1<=x.wv/\x.wv<=1000
 reg:e.kind=103->∀ x∈e.items,0<=x.num/\x.num<=99
 one:∀ (a b:Nat) (x y:IM),e.items[a]?=some x->e.items[b]?=some y->x.num=y.num->x.pv=y.pv->x.pl=y.pl->a=b
theorem zfb {e:EX} (h1:∀ err a,¬ FEx e err a) (h2:∀ err a,¬ FIs e.kind [] e.items err a):NF e:=by
 have h3:=zeQ e.items [] h2
 simp only [List.nil_append] at h3
 have hone:∀ (a b:Nat) (x y:IM),a<b->e.items[a]?=some x->e.items[b]?=some y->x.num=y.num->x.pv=y.pv->x.pl=y.pl->False:=by
  intro a b x y hab hx hy e1 e2 e3
  refine h3 b y hy 7 y.at_ (.inr (.inl ⟨?_,rfl,rfl⟩))
  rw [List.any_eq_true]
  refine ⟨x,?_,by simp [yA,e1,e2,e3]⟩
  exact List.mem_of_getElem? (i:=a) (by rw [List.getElem?_take,if_pos hab];exact hx)
 refine ⟨fun hk=>?_,fun hk=>?_,?_,fun hk x hx=>?_,fun hk x hx=>?_,fun hk x hx=>?_,fun a b x y hx hy e1 e2 e3=>?_⟩
 ·have:=h1 6 e.na
  unfold FEx at this
  simp only [hk,not_or,not_and,true_and,and_true] at this
  have:=this.2.1
  omega
 ·have:=h1 6 e.na
  unfold FEx at this
  simp only [hk,not_or,not_and,true_and,and_true] at this
  have:=this.2.2.1
  omega
 ·by_cases hl:e.items.length<=16
  ·exact hl
  ·obtain ⟨x,hx⟩:∃ x,e.items[16]?=some x:=⟨e.items[16]'(by omega),List.getElem?_eq_getElem (by omega)⟩
   exact absurd (.inl ⟨by rw [List.length_take];omega,rfl,rfl⟩) (h3 16 x hx 4 x.at_)
 ·obtain ⟨i,hi⟩:=List.getElem?_of_mem hx
  have:=h3 i x hi 6 x.at_
  by_cases hb:x.num<0\/63<x.num
  ·exact absurd (.inr (.inr (.inl ⟨hk,hb,rfl,rfl⟩))) this
  ·omega
 ·obtain ⟨i,hi⟩:=List.getElem?_of_mem hx
  have:=h3 i x hi 6 x.wa
  by_cases hb:x.wv<1\/1000<x.wv
  ·exact absurd (.inr (.inr (.inr (.inl ⟨hk,hb,rfl,rfl⟩)))) this
  ·omega
 ·obtain ⟨i,hi⟩:=List.getElem?_of_mem hx
  have:=h3 i x hi 6 x.at_
  by_cases hb:x.num<0\/99<x.num
  ·exact absurd (.inr (.inr (.inr (.inr ⟨hk,hb,rfl,rfl⟩)))) this
  ·omega
 ·rcases Nat.lt_trichotomy a b with h | h | h
  ·exact (hone a b x y h hx hy e1 e2 e3).elim
  ·exact h
  ·exact (hone b a y x h hy hx e1.symm e2.symm e3.symm).elim
theorem zeF (n:Nat):M.p2 n=2 ^ n:=by
 induction n with
 | zero=>rfl
 | succ n ih=>rw [M.p2_succ,ih,Int.pow_succ]
theorem jh.isP {x:List Int} {v l:Int} (h:jh x v l) (h0:0<=v) (h1:v<4294967296):M.isP v l=true:=by
 rw [M.isP_iff]
 have hl:=h.len
 have hle:=h.le
 refine ⟨by omega,by omega,h0,h1,?_⟩
 have e:(32-l).toNat=32-x.length:=by omega
 rw [e,zeF,h.val]
 exact Int.mul_emod_left _ _
theorem TX.good {E:List EX} {Y:List (Int×List Int)} (hb:Zo E) (hn:∀ e∈E,NF e) {t:List Int} {j:Nat} (h:TX E Y t j):GD E j:=by
 induction h with
 | @servers j e l h1 h2 h3 h4 h5 =>
  have me:=List.mem_of_getElem? h1
  have b:=hb e me
  have n:=hn e me
  have hl:0<l.length:=List.length_pos_iff.2 h3
  exact GD.servers h1 h2 (by omega) n.len (fun x hx=>⟨(n.num (.inl h2) x hx).1,(n.num (.inl h2) x hx).2,(b.it x hx).arm (by omega) (by omega)⟩) (b.inn (.inl h2))
 | @alias j e x h1 h2 h3 =>
  have me:=List.mem_of_getElem? h1
  have b:=hb e me
  have n:=hn e me
  exact GD.alias h1 h2 (n.ali h2).1 (n.ali h2).2 (b.emp (.inl h2)) (b.inn (.inr h2))
 | @name j i e c t h1 h2 h3 h4 h5 h6 h7 _ ih =>
  exact GD.name h1 h2 ((hb e (List.mem_of_getElem? h1)).emp (.inr (.inr h2))) h6 h7 ih
 | @ttl j i e x o h1 h2 h3 h4 h5 _ ih =>
  have me:=List.mem_of_getElem? h1
  have n:=hn e me
  exact GD.ttl h1 h2 (n.ttl h2).1 (n.ttl h2).2 ((hb e me).emp (.inr (.inl h2))) h4 h5 ih
 | @list j i e c l o h1 h2 h3 h4 h5 h6 h7 h8 _ ih =>
  have me:=List.mem_of_getElem? h1
  have b:=hb e me
  have n:=hn e me
  have hl:0<l.length:=List.length_pos_iff.2 h4
  have hk:e.kind=119\/e.kind=102:=by omega
  refine GD.list h1 hk (by omega) n.len (fun x hx=>⟨(n.num (by omega) x hx).1,(n.num (by omega) x hx).2,(b.it x hx).arm (by omega) (by omega),fun h=>n.wgt h x hx⟩) h7 h8 ih
 | @maps j i e c m ks ar an o h1 h2 h3 h4 h5 h6 _ h8 h9 _ iha iho =>
  have me:=List.mem_of_getElem? h1
  have b:=hb e me
  have n:=hn e me
  have hk:e.kind=109\/e.kind=103:=by omega
  refine GD.maps (an:=an) h1 hk (by omega) n.len (fun x hx=>⟨fun hk=>?_,fun hk=>n.reg hk x hx⟩) (fun hk a b' x y hx hy e1=>?_) (fun hk a b' x y hx hy e2 e3=>?_) (fun k x hx=>(h6 k x hx).2) (fun k hk=>iha k (by omega)) h8 h9 iho
  ·obtain ⟨k,hk2⟩:=List.getElem?_of_mem hx
   have h10:=(h6 k x hk2).1
   unfold qc at h10
   rw [if_pos (by omega)] at h10
   have:=(b.it x hx).pv
   exact h10.isP this.1 this.2
  ·have p1:=(b.it x (List.mem_of_getElem? hx)).zp (by omega)
   have p2:=(b.it y (List.mem_of_getElem? hy)).zp (by omega)
   exact n.one a b' x y hx hy e1 (by rw [p1.1,p2.1]) (by rw [p1.2,p2.2])
  ·have p1:=(b.it x (List.mem_of_getElem? hx)).zn hk
   have p2:=(b.it y (List.mem_of_getElem? hy)).zn hk
   exact n.one a b' x y hx hy (by rw [p1,p2]) e2 e3
theorem zep {s:ByteArray} (hc0:(ZG s).1=0):∀ e∈(zy s).es,NF e:=by
 obtain ⟨_,_,_,hF⟩:=qL hc0
 intro e he
 rcases Xu (zy s).es (zy s).rs with ⟨_,h2⟩ | ⟨h1,_⟩
 ·exact zfb (fun err a hf=>h2 err a (.inl ⟨e,he,.inl hf⟩)) (fun err a hf=>h2 err a (.inl ⟨e,he,.inr hf⟩))
 ·exact absurd hF h1
theorem Q8 {s:ByteArray} (hc0:(ZG s).1=0):0<(zy s).es.length/\GD (zy s).es ((zy s).es.length-1):=by
 obtain ⟨Y,hp⟩:=zbZ hc0
 refine ⟨hp.pos,?_⟩
 obtain ⟨r,hr,hrx⟩:=hp.last
 have hne:(zy s).rs≠[]:=fun h=>by rw [h] at hr;cases hr
 have hl:0<(zy s).rs.length:=List.length_pos_iff.2 hne
 have hri:(zy s).rs[(zy s).rs.length-1]?=some r:=by rw [List.getLast?_eq_getElem?] at hr;exact hr
 obtain ⟨y,hy⟩:∃ y,Y[(zy s).rs.length-1]?=some y:=⟨Y[(zy s).rs.length-1]'(by have:=hp.rx.len;omega),List.getElem?_eq_getElem _⟩
 obtain ⟨_,j,hj,_,hx⟩:=hp.rx.at_ _ r y hri hy
 have hjj:j=(zy s).es.length-1:=by rw [hrx] at hj;omega
 rw [hjj] at hx
 exact hx.good (jc s) (zep hc0)
theorem GD.enc_pos {E:List EX} {j:Nat} (h:GD E j):1<=(yg E (j+1)).length:=by
 induction h with
 | @servers j e he hk _ _ _ _=>simp only [yg,he,YK];rw [if_neg (by omega),List.length_append];have:=yX (zT E j) e e.items.length;omega
 | @alias j e he hk _ _ _ _=>simp only [yg,he,YK];rw [if_neg (by omega),List.length_append];have:=yX (zT E j) e e.items.length;omega
 | @name j i e he hk _ hin hij _ ih => have hen : yg E (j + 1) = yg E (i + 1) := by simp only [yg, he, YK]; rw [if_pos hk, hin, YQ E hij]; rfl
                                       rw [hen];exact ih
 | @ttl j i e he hk _ _ _ _ _ _ _=>simp only [yg,he,YK];rw [if_neg (by omega),List.length_append];have:=yX (zT E j) e e.items.length;omega
 | @list j i e he hk _ _ _ _ _ _ _=>simp only [yg,he,YK];rw [if_neg (by omega),List.length_append];have:=yX (zT E j) e e.items.length;omega
 | @maps j i e an he hk _ _ _ _ _ _ _ _ _ _ _ _=>simp only [yg,he,YK];rw [if_neg (by omega),List.length_append];have:=yX (zT E j) e e.items.length;omega
theorem zfc {W:RW} {E:List EX} (h0:0<=W.dep) (h1:W.dep<=32) {j:Nat} (h:GD E j):1<=(mnN W E (j+1)).ttl/\(mnN W E (j+1)).ttl<=86400/\0<=(mnN W E (j+1)).sc/\(mnN W E (j+1)).sc<=32:=by
 induction h with
 | @servers j e he hk _ _ _ _=>simp only [mnN,he,mnE];rw [if_pos hk];simp
 | @alias j e he hk _ _ _ _=>simp only [mnN,he,mnE];rw [if_neg (by omega),if_pos hk];simp
 | @name j i e he hk _ hin hij _ ih =>
  have hm:mnN W E (j+1)=mnN W E (i+1):=by simp only [mnN,he,mnE];rw [if_neg (by omega),if_neg (by omega),if_pos hk,hin,yy W E hij];rfl
  rw [hm];exact ih
 | @ttl j i e he hk a1 a2 _ hin hij _ ih =>
  have hm:mnN W E (j+1)=⟨(mnN W E (i+1)).sv,if e.nv<(mnN W E (i+1)).ttl then e.nv else (mnN W E (i+1)).ttl,(mnN W E (i+1)).sc⟩:=by
   rw [<- yy W E hij,<- hin]
   simp only [mnN,he,mnE];rw [if_neg (by omega),if_neg (by omega),if_neg (by omega),if_pos hk]
  rw [hm]
  simp only
  split<;>omega
 | @list j i e he hk _ _ _ hin hij _ ih =>
  rcases hk with hk | hk
  ·have hm:mnN W E (j+1)=(match Yq W e.items with | some x=>⟨[x],86400,0⟩ | none=>mnN W E (i+1)):=by
    rw [<- yy W E hij,<- hin]
    simp only [mnN,he,mnE];rw [if_neg (by omega),if_neg (by omega),if_neg (by omega),if_neg (by omega),if_pos hk];rfl
   rw [hm]
   cases Yq W e.items with
   | some x=>simp
   | none=>exact ih
  ·have hm:mnN W E (j+1)=(match Zl W e.items with | some x=>⟨[x],86400,0⟩ | none=>mnN W E (i+1)):=by
    rw [<- yy W E hij,<- hin]
    simp only [mnN,he,mnE];rw [if_neg (by omega),if_neg (by omega),if_neg (by omega),if_neg (by omega),if_neg (by omega),if_pos hk];rfl
   rw [hm]
   cases Zl W e.items with
   | some x=>simp
   | none=>exact ih
 | @maps j i e an he hk g0 _ hit _ _ harm _ hin hij _ iha ih =>
  have hL:e.kind=109->∀ k,k<e.items.length->itL e k<=32:=fun hk k hkl=>by
   have hx:e.items[k]?=some e.items[k]:=List.getElem?_eq_getElem hkl
   unfold itL
   rw [hx]
   exact (M.isP_iff.1 ((hit _ (List.mem_of_getElem? hx)).1 hk)).2.1
  have key:∀ (q:Int) (d:Int),(q=e.inner\/∃ (k:Nat) (x:IM),e.items[k]?=some x/\q=x.arm)->0<=d->d<=32->1<=(atM (mnK W E j) q).ttl/\(atM (mnK W E j) q).ttl<=86400/\0<=nar d (atM (mnK W E j) q).sc/\nar d (atM (mnK W E j) q).sc<=32:=by
   intro q d hq hd0 hd1
   have h5:1<=(atM (mnK W E j) q).ttl/\(atM (mnK W E j) q).ttl<=86400/\0<=(atM (mnK W E j) q).sc/\(atM (mnK W E j) q).sc<=32:=by
    rcases hq with rfl | ⟨k,x,hx,rfl⟩
    ·rw [hin,yy W E hij];exact ih
    ·rw [(harm k x hx).1,yy W E (harm k x hx).2]
     exact iha k (List.getElem?_eq_some_iff.1 hx).1
   refine ⟨h5.1,h5.2.1,?_,?_⟩<;>(unfold nar;split<;>omega)
  rcases hk with hk | hk
  ·have hm:mnN W E (j+1)=⟨(atM (mnK W E j) (ZU W e)).sv,(atM (mnK W E j) (ZU W e)).ttl,nar (M.depTo (itV e) (itL e) W.addr e.items.length) (atM (mnK W E j) (ZU W e)).sc⟩:=by
    simp only [mnN,he,mnE];rw [if_neg (by omega),if_neg (by omega),if_neg (by omega),if_neg (by omega),if_neg (by omega),if_neg (by omega),if_pos hk]
   rw [hm]
   refine key _ _ ?_ M.depTo_pos (M.depTo_le (hL hk))
   unfold ZU
   split
   ·exact .inl rfl
   ·cases hx:e.items[(M.bestTo (itV e) (itL e) W.addr e.items.length).toNat]? with
    | none=>exact .inl rfl
    | some x=>exact .inr ⟨_,x,hx,rfl⟩
  ·have hm:mnN W E (j+1)=⟨(atM (mnK W E j) (xI W e)).sv,(atM (mnK W E j) (xI W e)).ttl,nar W.dep (atM (mnK W E j) (xI W e)).sc⟩:=by
    simp only [mnN,he,mnE];rw [if_neg (by omega),if_neg (by omega),if_neg (by omega),if_neg (by omega),if_neg (by omega),if_neg (by omega),if_neg (by omega)]
   rw [hm]
   refine key _ _ ?_ h0 h1
   unfold xI
   cases hx:e.items.find? (fun x=>x.num==W.reg) with
   | none=>exact .inl rfl
   | some x =>
    obtain ⟨k,hk2⟩:=List.getElem?_of_mem (List.mem_of_find?_eq_some hx)
    exact .inr ⟨k,x,hk2,rfl⟩
theorem zeB {W:RW} {s:ByteArray} (hc:(ZG s).1=0) (hz:szR (zy s).es (zy s).es.length<=1000):∃ k,k<=(cpX s).length/\x9 W (cpX s) ⟨⟨0,false⟩,[],86400,0⟩ k ((mnN W (zy s).es (zy s).es.length).sv,Z5 (mnN W (zy s).es (zy s).es.length).ttl 86400,nar (mnN W (zy s).es (zy s).es.length).sc 0):=by
 obtain ⟨hp,hg⟩:=Q8 hc
 have he:(zy s).es.length-1+1=(zy s).es.length:=Nat.sub_add_cancel hp
 have:=zdr (W:=W) hg (by rw [he];exact hz) (cpX s) 0 86400 0 (by rw [he];intro i x hx;rw [Nat.zero_add];exact hx) (by omega) (by omega)
 rw [he] at this
 exact this
end Go.Proofs.YtaebngpoagjafaaGreat
