/-
  OUR OWN.
-/
import Derived.Test.YtaebngpoagjafaaGreatU40
import Derived.Test.YtaebngpoagjafaaGreatU41
import Derived.Test.YtaebngpoagjafaaGreatU37
import Derived.Test.YtaebngpoagjafaaGreatU39
import Derived.Test.YtaebngpoagjafaaGreatU36
import Derived.Test.YtaebngpoagjafaaGreatU02
import Derived.Test.YtaebngpoagjafaaGreatU27
import Derived.Laws.Cover3
set_option maxRecDepth 100000
namespace Go.Proofs.YtaebngpoagjafaaGreat
open Go.RowKit
theorem fis_at {c:Int}:∀ (l pre:List IM),(∀ err a,¬ FIs c pre l err a)->∀ (i:Nat) (x:IM),l[i]?=some x->∀ err a,¬ FIm c (pre++l.take i) x err a:=by
 intro l
 induction l with
 | nil=>intro pre _ i x hx;simp at hx
 | cons y l ih =>
   intro pre h i x hx err a
   cases i with
   | zero =>
     simp only [List.getElem?_cons_zero,Option.some.injEq] at hx
     subst hx
     simp only [List.take_zero,List.append_nil]
     exact fun hf=>h err a (.inl hf)
   | succ i =>
     rw [List.getElem?_cons_succ] at hx
     have:=ih (pre++[y]) (fun err a hf=>h err a (.inr hf)) i x hx err a
     rwa [List.append_assoc,List.singleton_append,<- List.take_succ_cons] at this
structure NF (e:EX):Prop where
 ttl:e.kind=116->1<=e.nv/\e.nv<=86400
 ali:e.kind=64->0<=e.nv/\e.nv<=15
 len:e.items.length<=16
 num:e.kind=123\/e.kind=102\/e.kind=119->∀ x∈e.items,0<=x.num/\x.num<=63
 wgt:e.kind=119->∀ x∈e.items,1<=x.wv/\x.wv<=1000
 reg:e.kind=103->∀ x∈e.items,0<=x.num/\x.num<=99
 one:∀ (a b:Nat) (x y:IM),e.items[a]?=some x->e.items[b]?=some y->x.num=y.num->x.pv=y.pv->x.pl=y.pl->a=b
theorem nf_of {e:EX} (h1:∀ err a,¬ FEx e err a) (h2:∀ err a,¬ FIs e.kind [] e.items err a):NF e:=by
 have h3:=fis_at e.items [] h2
 simp only [List.nil_append] at h3
 have hone:∀ (a b:Nat) (x y:IM),a<b->e.items[a]?=some x->e.items[b]?=some y->x.num=y.num->x.pv=y.pv->x.pl=y.pl->False:=by
   intro a b x y hab hx hy e1 e2 e3
   refine h3 b y hy 7 y.at_ (.inr (.inl ⟨?_,rfl,rfl⟩))
   rw [List.any_eq_true]
   refine ⟨x,?_,by simp [sameI,e1,e2,e3]⟩
   exact List.mem_of_getElem? (i:=a) (by rw [List.getElem?_take,if_pos hab];exact hx)
 refine ⟨fun hk=>?_,fun hk=>?_,?_,fun hk x hx=>?_,fun hk x hx=>?_,fun hk x hx=>?_,fun a b x y hx hy e1 e2 e3=>?_⟩
 · have:=h1 6 e.na
   unfold FEx at this
   simp only [hk,not_or,not_and,true_and,and_true] at this
   have:=this.2.1
   omega
 · have:=h1 6 e.na
   unfold FEx at this
   simp only [hk,not_or,not_and,true_and,and_true] at this
   have:=this.2.2.1
   omega
 · by_cases hl:e.items.length<=16
   · exact hl
   · obtain ⟨x,hx⟩:∃ x,e.items[16]?=some x:=⟨e.items[16]'(by omega),List.getElem?_eq_getElem (by omega)⟩
     exact absurd (.inl ⟨by rw [List.length_take];omega,rfl,rfl⟩) (h3 16 x hx 4 x.at_)
 · obtain ⟨i,hi⟩:=List.getElem?_of_mem hx
   have:=h3 i x hi 6 x.at_
   by_cases hb:x.num<0\/63<x.num
   · exact absurd (.inr (.inr (.inl ⟨hk,hb,rfl,rfl⟩))) this
   · omega
 · obtain ⟨i,hi⟩:=List.getElem?_of_mem hx
   have:=h3 i x hi 6 x.wa
   by_cases hb:x.wv<1\/1000<x.wv
   · exact absurd (.inr (.inr (.inr (.inl ⟨hk,hb,rfl,rfl⟩)))) this
   · omega
 · obtain ⟨i,hi⟩:=List.getElem?_of_mem hx
   have:=h3 i x hi 6 x.at_
   by_cases hb:x.num<0\/99<x.num
   · exact absurd (.inr (.inr (.inr (.inr ⟨hk,hb,rfl,rfl⟩)))) this
   · omega
 · rcases Nat.lt_trichotomy a b with h | h | h
   · exact (hone a b x y h hx hy e1 e2 e3).elim
   · exact h
   · exact (hone b a y x h hy hx e1.symm e2.symm e3.symm).elim
theorem p2_pow (n:Nat):M.p2 n=2 ^ n:=by
 induction n with
 | zero=>rfl
 | succ n ih=>rw [M.p2_succ,ih,Int.pow_succ]
theorem TBit.isP {x:List Int} {v l:Int} (h:TBit x v l) (h0:0<=v) (h1:v<4294967296):M.isP v l=true:=by
 rw [M.isP_iff]
 have hl:=h.len
 have hle:=h.le
 refine ⟨by omega,by omega,h0,h1,?_⟩
 have e:(32-l).toNat=32-x.length:=by omega
 rw [e,p2_pow,h.val]
 exact Int.mul_emod_left _ _
theorem TX.good {E:List EX} {Y:List (Int×List Int)} (hb:AllB E) (hn:∀ e∈E,NF e) {t:List Int} {j:Nat} (h:TX E Y t j):GD E j:=by
 induction h with
 | @servers j e l h1 h2 h3 h4 h5 =>
   have me:=List.mem_of_getElem? h1
   have b:=hb e me
   have n:=hn e me
   have hl:0<l.length:=List.length_pos_iff.2 h3
   exact GD.servers h1 h2 (by omega) n.len (fun x hx=>⟨(n.num (.inl h2) x hx).1,(n.num (.inl h2) x hx).2,(b.it x hx).arm (by omega) (by omega)⟩) (b.inn (.inl h2))
 | @alias j e x h1 h2 h3 =>
   have me:=List.mem_of_getElem? h1
   have b:=hb e me
   have n:=hn e me
   exact GD.alias h1 h2 (n.ali h2).1 (n.ali h2).2 (b.emp (.inl h2)) (b.inn (.inr h2))
 | @name j i e c t h1 h2 h3 h4 h5 h6 h7 _ ih =>
   exact GD.name h1 h2 ((hb e (List.mem_of_getElem? h1)).emp (.inr (.inr h2))) h6 h7 ih
 | @ttl j i e x o h1 h2 h3 h4 h5 _ ih =>
   have me:=List.mem_of_getElem? h1
   have n:=hn e me
   exact GD.ttl h1 h2 (n.ttl h2).1 (n.ttl h2).2 ((hb e me).emp (.inr (.inl h2))) h4 h5 ih
 | @list j i e c l o h1 h2 h3 h4 h5 h6 h7 h8 _ ih =>
   have me:=List.mem_of_getElem? h1
   have b:=hb e me
   have n:=hn e me
   have hl:0<l.length:=List.length_pos_iff.2 h4
   have hk:e.kind=119\/e.kind=102:=by omega
   refine GD.list h1 hk (by omega) n.len (fun x hx=>⟨(n.num (by omega) x hx).1,(n.num (by omega) x hx).2,(b.it x hx).arm (by omega) (by omega),fun h=>n.wgt h x hx⟩) h7 h8 ih
 | @maps j i e c m ks ar an o h1 h2 h3 h4 h5 h6 _ h8 h9 _ iha iho =>
   have me:=List.mem_of_getElem? h1
   have b:=hb e me
   have n:=hn e me
   have hk:e.kind=109\/e.kind=103:=by omega
   refine GD.maps (an:=an) h1 hk (by omega) n.len (fun x hx=>⟨fun hk=>?_,fun hk=>n.reg hk x hx⟩) (fun hk a b' x y hx hy e1=>?_) (fun hk a b' x y hx hy e2 e3=>?_) (fun k x hx=>(h6 k x hx).2) (fun k hk=>iha k (by omega)) h8 h9 iho
   · obtain ⟨k,hk2⟩:=List.getElem?_of_mem hx
     have h10:=(h6 k x hk2).1
     unfold TKey at h10
     rw [if_pos (by omega)] at h10
     have:=(b.it x hx).pv
     exact h10.isP this.1 this.2
   · have p1:=(b.it x (List.mem_of_getElem? hx)).zp (by omega)
     have p2:=(b.it y (List.mem_of_getElem? hy)).zp (by omega)
     exact n.one a b' x y hx hy e1 (by rw [p1.1,p2.1]) (by rw [p1.2,p2.2])
   · have p1:=(b.it x (List.mem_of_getElem? hx)).zn hk
     have p2:=(b.it y (List.mem_of_getElem? hy)).zn hk
     exact n.one a b' x y hx hy (by rw [p1,p2]) e2 e3
theorem nf_ok {s:ByteArray} (hc0:(cChk s).1=0):∀ e∈(cAll s).es,NF e:=by
 obtain ⟨_,_,_,hF⟩:=ok_parts hc0
 intro e he
 rcases fAll_min (cAll s).es (cAll s).rs with ⟨_,h2⟩ | ⟨h1,_⟩
 · exact nf_of (fun err a hf=>h2 err a (.inl ⟨e,he,.inl hf⟩)) (fun err a hf=>h2 err a (.inl ⟨e,he,.inr hf⟩))
 · exact absurd hF h1
theorem good_ok {s:ByteArray} (hc0:(cChk s).1=0):0<(cAll s).es.length/\GD (cAll s).es ((cAll s).es.length-1):=by
 obtain ⟨Y,hp⟩:=pol_ok hc0
 refine ⟨hp.pos,?_⟩
 obtain ⟨r,hr,hrx⟩:=hp.last
 have hne:(cAll s).rs≠[]:=fun h=>by rw [h] at hr;cases hr
 have hl:0<(cAll s).rs.length:=List.length_pos_iff.2 hne
 have hri:(cAll s).rs[(cAll s).rs.length-1]?=some r:=by rw [List.getLast?_eq_getElem?] at hr;exact hr
 obtain ⟨y,hy⟩:∃ y,Y[(cAll s).rs.length-1]?=some y:=⟨Y[(cAll s).rs.length-1]'(by have:=hp.rx.len;omega),List.getElem?_eq_getElem _⟩
 obtain ⟨_,j,hj,_,hx⟩:=hp.rx.at_ _ r y hri hy
 have hjj:j=(cAll s).es.length-1:=by rw [hrx] at hj;omega
 rw [hjj] at hx
 exact hx.good (cAll_sh s) (nf_ok hc0)
theorem GD.enc_pos {E:List EX} {j:Nat} (h:GD E j):1<=(encN E (j+1)).length:=by
 induction h with
 | @servers j e he hk _ _ _ _=>simp only [encN,he,encE];rw [if_neg (by omega),List.length_append];have:=headL_len (encK E j) e e.items.length;omega
 | @alias j e he hk _ _ _ _=>simp only [encN,he,encE];rw [if_neg (by omega),List.length_append];have:=headL_len (encK E j) e e.items.length;omega
 | @name j i e he hk _ hin hij _ ih => have hen : encN E (j + 1) = encN E (i + 1) := by simp only [encN, he, encE]; rw [if_pos hk, hin, atL_en E hij]; rfl
                                       rw [hen];exact ih
 | @ttl j i e he hk _ _ _ _ _ _ _=>simp only [encN,he,encE];rw [if_neg (by omega),List.length_append];have:=headL_len (encK E j) e e.items.length;omega
 | @list j i e he hk _ _ _ _ _ _ _=>simp only [encN,he,encE];rw [if_neg (by omega),List.length_append];have:=headL_len (encK E j) e e.items.length;omega
 | @maps j i e an he hk _ _ _ _ _ _ _ _ _ _ _ _=>simp only [encN,he,encE];rw [if_neg (by omega),List.length_append];have:=headL_len (encK E j) e e.items.length;omega
end Go.Proofs.YtaebngpoagjafaaGreat
namespace Go.Proofs.YtaebngpoagjafaaGreat
open Go.RowKit
def cpE (s:ByteArray):Int:=if (cChk s).1=0 then (if 1000<szR (cAll s).es (cAll s).es.length then 8 else 0) else (cChk s).1
def cpX (s:ByteArray):List Int:=encN (cAll s).es (cAll s).es.length
def CpTo (w:World) (n:Int) (X:List Int) (r:Ending) (w':World):Prop:=Below w.heap.size w w'/\∃ o m k,r=.returned (.tuple #[.slice o m k,.int .i64 n])/\(n≠0->o=none/\m=0/\k=0)/\(n=0->m=X.length/\w'.ownsRow w.heap.size 5 1 (.slice o m k) X.length (X.map (Value.int .u8)))
theorem EB.shp {e:EX} (h:EB e) (hl:e.items.length<=100000):SHP e:=by
 refine ⟨?_,?_,h.nv.1,by have:=h.nv;omega,hl,fun x hx=>?_⟩
 · have:=h.kind;omega
 · have:=h.kind;omega
 · have i:=h.it x hx
   have h1:=i.num
   have h2:=i.pv
   have h3:=i.pl
   have h4:=i.wv
   omega
theorem EVw.of_pq {w:World} {base:Nat} {eo:Option Addr} {em ec:Nat} {rv:Value} {es:List (EX×Value)} {rs:List RL} (h:PQ w base (.slice eo em ec) rv es rs):em=es.length/\es.length<=ec/\EVw w eo es:=by
 obtain ⟨eo',ec',he,hv⟩:=ex_view h.ex h.it
 cases he
 obtain ⟨o,c,hv2,hc⟩:=owns_form h.ex
 cases hv2
 exact ⟨rfl,hc,hv⟩
attribute [local go_sem ↓] Go.wp_at_zero Go.wp_at_succ
set_option maxHeartbeats 800000 in
theorem mCompile_any (eo:Option Addr) (ec:Nat) (ro:Option Addr) (rm rc:Nat) (base:Nat) (es:List (EX×Value)) (rs:List RL) (w:World) (hl:es.length<=100000) (hi:∀ p∈es,p.1.items.length<=100000) (hb:AllB (es.map Prod.fst)) (h:PQ w base (.slice eo es.length ec) (.slice ro rm rc) es rs) (n:Int) (hn:Hid ((if 1000<szR (es.map Prod.fst) es.length then (8:Int) else 0)=n)) :
   Calls Tryz.prog 40 #[.agg #[.slice eo es.length ec,.slice ro rm rc]] w (CpTo w n (encN (es.map Prod.fst) es.length)):=by
 have HB0:Hid (Below w.heap.size w (w.alloc (.cells #[.slice eo es.length ec,.slice ro rm rc] 77))):=(Below.refl _ _).alloc (Nat.le_refl _) _
 have HX0:Hid ((w.alloc (.cells #[.slice eo es.length ec,.slice ro rm rc] 77)).heap[w.heap.size]?=some (.cells #[.slice eo es.length ec,.slice ro rm rc] 77 (0,0))):=heap_alloc_new w _
 have HPZ:Hid (∀ rv,(∃ ro rm rc,rv=Value.slice ro rm rc)->Calls Tryz.prog 39 #[.agg #[.slice eo es.length ec,rv]] (w.alloc (.cells #[.slice eo es.length ec,.slice ro rm rc] 77)) fun e w'=>Below (w.alloc (.cells #[.slice eo es.length ec,.slice ro rm rc] 77)).heap.size (w.alloc (.cells #[.slice eo es.length ec,.slice ro rm rc] 77)) w'/\e=.returned (.int .i64 (szR (es.map Prod.fst) es.length))):=fun rv hrv=>PSize_any eo ec rv base es _ hrv (h.ex.alloc _) (fun p hp=>(h.it p hp).alloc _) hl hi
 obtain ⟨_,hec,hev⟩:=EVw.of_pq h
 have HEV:Hid (EVw w eo es):=hev
 have HENC:Hid (szR (es.map Prod.fst) es.length<=1000->∀ wz,EVw wz eo es->Calls Tryz.prog 62 #[.slice eo es.length ec] wz (EncTo wz (encN (es.map Prod.fst) es.length))):=fun hsz wz hz=>encode_any es eo ec hec hl (fun p hp=>(hb p.1 (List.mem_map_of_mem hp)).shp (hi p hp)) es.length (Nat.le_refl _) hsz eo ec wz (fun _=>⟨rfl,rfl⟩) hz
 have hzb:=szR_bd (es.map Prod.fst) es.length
 clear h hev hb hi
 generalize encN (es.map Prod.fst) es.length=X at *
 generalize szR (es.map Prod.fst) es.length=z at *
 go_enter Tryz.func40,Tryz.ntmps40
 go_wp2_with fail
 refine (HPZ.out _ ⟨_,_,_,rfl⟩).mono ?_
 rintro e w1 ⟨hb1,rfl⟩
 have HB1:Hid (Below w.heap.size w w1):=HB0.out.trans (hb1.mono HB0.out.size)
 have HX1:Hid (w1.heap[w.heap.size]?=some (.cells #[.slice eo es.length ec,.slice ro rm rc] 77 (0,0))):=by show _=_;rw [hb1.block _ (by simp)];exact HX0.out
 have q0:w1.cell? ⟨w.heap.size,0,none⟩=some (.slice eo es.length ec):=by rw [cell_of_row _ _ _ _ _ _ HX1.out];rfl
 clear hb1
 by_cases hz:1000<z
 · have HN:Hid (n=8):=by show _=_;rw [<- hn.out,if_pos hz]
   go_wp2_with fail
   go_ret2
   exact ⟨HB1.out,none,0,0,by rw [HN.out];rfl,fun _=>⟨rfl,rfl,rfl⟩,fun h=>by rw [HN.out] at h;cases h⟩
 · have HN:Hid (n=0):=by show _=_;rw [<- hn.out,if_neg hz]
   have hz':z<=1000:=by omega
   clear hz
   go_wp2_with fail
   refine (HENC.out hz' _ (HEV.out.below HB1.out)).mono ?_
   rintro r w2 ⟨hb2,o,k,rfl,hrow⟩
   have HB2:Hid (Below w.heap.size w w2):=HB1.out.trans (hb2.mono HB1.out.size)
   have HR2:Hid (w2.ownsRow w.heap.size 5 1 (.slice o X.length k) X.length (X.map (Value.int .u8))):=owns_mono hrow HB1.out.size
   clear hb2 hrow
   go_wp2_with fail
   go_ret2
   exact ⟨HB2.out,o,X.length,k,by rw [HN.out];rfl,fun h=>absurd HN.out h,fun _=>⟨rfl,HR2.out⟩⟩
set_option maxHeartbeats 800000 in
theorem Compile_any (s:ByteArray) (w:World) :
   Calls Tryz.prog 25 #[.string s] w (CpTo w (cpE s) (cpX s)):=by
 obtain ⟨c,hc⟩:∃ c,cChk s=c:=⟨_,rfl⟩
 have HC:Hid (cChk s=c):=hc
 have HS:Hid (cpE s=if c.1=0 then (if 1000<szR (cAll s).es (cAll s).es.length then 8 else 0) else c.1):=by show _=_;unfold cpE;rw [hc]
 have HBDS:Hid (c.1=0->(cAll s).es.length<=100000/\∀ e∈(cAll s).es,e.items.length<=100000):=by
   intro h0
   have hs:¬ 2000<s.size:=fun h=>by rw [<- hc] at h0;unfold cChk at h0;rw [if_pos h] at h0;cases h0
   have h1:=cRules_all s (s.size+1) [] 0 0 false
   refine ⟨?_,fun e he=>by have:=h1 e he;omega⟩
   have h2:=cRules_mono s (s.size+1) [] 0 0 false (Nat.zero_le _)
   show (cRules s (s.size+1) [] 0 0 false).es.length<=100000
   omega
 clear hc
 obtain ⟨c1,c2⟩:=c
 simp only at HS HBDS
 go_enter Tryz.func25,Tryz.ntmps25
 go_wp2_with fail
 refine (Read_any s _ (c1,c2) HC).mono ?_
 rintro e w1 ⟨hb,eo,em,ec,ro,rm,rc,rfl,hq⟩
 have HB:Hid (Below w.heap.size w w1):=hb
 have HQ:Hid (c1=0->∃ es,es.map Prod.fst=(cAll s).es/\PQ w1 w.heap.size (.slice eo em ec) (.slice ro rm rc) es (cAll s).rs):=hq
 clear hb hq
 cases e1:(c1==0) with
 | false =>
   have e2:(c1 != 0)=true:=by simp [bne,e1]
   have HE:Hid (cpE s=c1):=by show _=_;rw [HS.out,if_neg (by simpa using e1)]
   have HB1:Hid (Below w.heap.size w (w1.alloc (.cells #[.slice eo em ec,.slice ro rm rc] 77))):=HB.out.alloc HB.out.size _
   have HNZ:Hid (c1≠0):=by show ¬ _;simpa using e1
   go_wp2_with fail
   go_ret2
   exact ⟨HB1.out,none,0,0,by rw [HE.out];rfl,fun _=>⟨rfl,rfl,rfl⟩,fun h=>by rw [HE.out] at h;exact absurd h HNZ.out⟩
 | true =>
   have h0:c1=0:=by simpa using e1
   subst h0
   obtain ⟨es,hes,hpq⟩:=HQ.out rfl
   have hbd:=HBDS.out rfl
   have HE:Hid ((if 1000<szR (es.map Prod.fst) es.length then (8:Int) else 0)=cpE s):=by
     show _=_
     rw [HS.out,if_pos rfl,<- hes,List.length_map]
   have HXX:Hid (encN (es.map Prod.fst) es.length=cpX s):=by show _=_;unfold cpX;rw [<- hes,List.length_map]
   obtain ⟨rfl,_,_⟩:=EVw.of_pq hpq
   have hab:AllB (es.map Prod.fst):=by rw [hes];exact cAll_sh s
   rw [<- hes] at hbd
   have HB1:Hid (Below w.heap.size w (w1.alloc (.cells #[.slice eo es.length ec,.slice ro rm rc] 77))):=HB.out.alloc HB.out.size _
   have HCP:=mCompile_any eo ec ro rm rc w.heap.size es (cAll s).rs (w1.alloc (.cells #[.slice eo es.length ec,.slice ro rm rc] 77)) (by simpa using hbd.1) (fun p hp=>hbd.2 p.1 (List.mem_map_of_mem hp)) hab ⟨hpq.ex.alloc _,hpq.rl.alloc _,fun p hp=>(hpq.it p hp).alloc _⟩ (cpE s) HE
   rw [HXX.out] at HCP
   clear hpq hes hbd hab
   go_wp2_with fail
   refine HCP.mono ?_
   rintro e w2 ⟨hb2,o,m,k,rfl,hn,hz⟩
   have HB2:Hid (Below w.heap.size w w2):=HB1.out.trans (hb2.mono HB1.out.size)
   have HN2:Hid (cpE s≠0->o=none/\m=0/\k=0):=hn
   have HZ2:Hid (cpE s=0->m=(cpX s).length/\w2.ownsRow w.heap.size 5 1 (.slice o m k) (cpX s).length ((cpX s).map (Value.int .u8))):=fun h=>⟨(hz h).1,owns_mono (hz h).2 HB1.out.size⟩
   clear hb2 hn hz
   go_wp2_with fail
   go_ret2
   exact ⟨HB2.out,o,m,k,rfl,HN2.out,HZ2.out⟩
end Go.Proofs.YtaebngpoagjafaaGreat
namespace Go.Proofs.YtaebngpoagjafaaGreat
theorem mn_bd {W:RW} {E:List EX} (h0:0<=W.dep) (h1:W.dep<=32) {j:Nat} (h:GD E j):1<=(mnN W E (j+1)).ttl/\(mnN W E (j+1)).ttl<=86400/\0<=(mnN W E (j+1)).sc/\(mnN W E (j+1)).sc<=32:=by
 induction h with
 | @servers j e he hk _ _ _ _=>simp only [mnN,he,mnE];rw [if_pos hk];simp
 | @alias j e he hk _ _ _ _=>simp only [mnN,he,mnE];rw [if_neg (by omega),if_pos hk];simp
 | @name j i e he hk _ hin hij _ ih =>
   have hm:mnN W E (j+1)=mnN W E (i+1):=by simp only [mnN,he,mnE];rw [if_neg (by omega),if_neg (by omega),if_pos hk,hin,atM_mn W E hij];rfl
   rw [hm];exact ih
 | @ttl j i e he hk a1 a2 _ hin hij _ ih =>
   have hm:mnN W E (j+1)=⟨(mnN W E (i+1)).sv,if e.nv<(mnN W E (i+1)).ttl then e.nv else (mnN W E (i+1)).ttl,(mnN W E (i+1)).sc⟩:=by
     rw [<- atM_mn W E hij,<- hin]
     simp only [mnN,he,mnE];rw [if_neg (by omega),if_neg (by omega),if_neg (by omega),if_pos hk]
   rw [hm]
   simp only
   split<;>omega
 | @list j i e he hk _ _ _ hin hij _ ih =>
   rcases hk with hk | hk
   · have hm:mnN W E (j+1)=(match poolM W e.items with | some x=>⟨[x],86400,0⟩ | none=>mnN W E (i+1)):=by
       rw [<- atM_mn W E hij,<- hin]
       simp only [mnN,he,mnE];rw [if_neg (by omega),if_neg (by omega),if_neg (by omega),if_neg (by omega),if_pos hk];rfl
     rw [hm]
     cases poolM W e.items with
     | some x=>simp
     | none=>exact ih
   · have hm:mnN W E (j+1)=(match chainM W e.items with | some x=>⟨[x],86400,0⟩ | none=>mnN W E (i+1)):=by
       rw [<- atM_mn W E hij,<- hin]
       simp only [mnN,he,mnE];rw [if_neg (by omega),if_neg (by omega),if_neg (by omega),if_neg (by omega),if_neg (by omega),if_pos hk];rfl
     rw [hm]
     cases chainM W e.items with
     | some x=>simp
     | none=>exact ih
 | @maps j i e an he hk g0 _ hit _ _ harm _ hin hij _ iha ih =>
   have hL:e.kind=109->∀ k,k<e.items.length->itL e k<=32:=fun hk k hkl=>by
     have hx:e.items[k]?=some e.items[k]:=List.getElem?_eq_getElem hkl
     unfold itL
     rw [hx]
     exact (M.isP_iff.1 ((hit _ (List.mem_of_getElem? hx)).1 hk)).2.1
   have key:∀ (q:Int) (d:Int),(q=e.inner\/∃ (k:Nat) (x:IM),e.items[k]?=some x/\q=x.arm)->0<=d->d<=32->1<=(atM (mnK W E j) q).ttl/\(atM (mnK W E j) q).ttl<=86400/\0<=nar d (atM (mnK W E j) q).sc/\nar d (atM (mnK W E j) q).sc<=32:=by
     intro q d hq hd0 hd1
     have h5:1<=(atM (mnK W E j) q).ttl/\(atM (mnK W E j) q).ttl<=86400/\0<=(atM (mnK W E j) q).sc/\(atM (mnK W E j) q).sc<=32:=by
       rcases hq with rfl | ⟨k,x,hx,rfl⟩
       · rw [hin,atM_mn W E hij];exact ih
       · rw [(harm k x hx).1,atM_mn W E (harm k x hx).2]
         exact iha k (List.getElem?_eq_some_iff.1 hx).1
     refine ⟨h5.1,h5.2.1,?_,?_⟩<;>(unfold nar;split<;>omega)
   rcases hk with hk | hk
   · have hm:mnN W E (j+1)=⟨(atM (mnK W E j) (prefM W e)).sv,(atM (mnK W E j) (prefM W e)).ttl,nar (M.depTo (itV e) (itL e) W.addr e.items.length) (atM (mnK W E j) (prefM W e)).sc⟩:=by
       simp only [mnN,he,mnE];rw [if_neg (by omega),if_neg (by omega),if_neg (by omega),if_neg (by omega),if_neg (by omega),if_neg (by omega),if_pos hk]
     rw [hm]
     refine key _ _ ?_ M.depTo_pos (M.depTo_le (hL hk))
     unfold prefM
     split
     · exact .inl rfl
     · cases hx:e.items[(M.bestTo (itV e) (itL e) W.addr e.items.length).toNat]? with
       | none=>exact .inl rfl
       | some x=>exact .inr ⟨_,x,hx,rfl⟩
   · have hm:mnN W E (j+1)=⟨(atM (mnK W E j) (regM W e)).sv,(atM (mnK W E j) (regM W e)).ttl,nar W.dep (atM (mnK W E j) (regM W e)).sc⟩:=by
       simp only [mnN,he,mnE];rw [if_neg (by omega),if_neg (by omega),if_neg (by omega),if_neg (by omega),if_neg (by omega),if_neg (by omega),if_neg (by omega)]
     rw [hm]
     refine key _ _ ?_ h0 h1
     unfold regM
     cases hx:e.items.find? (fun x=>x.num==W.reg) with
     | none=>exact .inl rfl
     | some x =>
       obtain ⟨k,hk2⟩:=List.getElem?_of_mem (List.mem_of_find?_eq_some hx)
       exact .inr ⟨k,x,hk2,rfl⟩
theorem run_ok {W:RW} {s:ByteArray} (hc:(cChk s).1=0) (hz:szR (cAll s).es (cAll s).es.length<=1000):∃ k,k<=(cpX s).length/\RunsTo W (cpX s) ⟨⟨0,false⟩,[],86400,0⟩ k ((mnN W (cAll s).es (cAll s).es.length).sv,least (mnN W (cAll s).es (cAll s).es.length).ttl 86400,nar (mnN W (cAll s).es (cAll s).es.length).sc 0):=by
 obtain ⟨hp,hg⟩:=good_ok hc
 have he:(cAll s).es.length-1+1=(cAll s).es.length:=Nat.sub_add_cancel hp
 have:=run_enc (W:=W) hg (by rw [he];exact hz) (cpX s) 0 86400 0 (by rw [he];intro i x hx;rw [Nat.zero_add];exact hx) (by omega) (by omega)
 rw [he] at this
 exact this
end Go.Proofs.YtaebngpoagjafaaGreat
namespace Go.Proofs.YtaebngpoagjafaaGreat
open Go.RowKit
attribute [local go_sem ↓] Go.wp_at_zero Go.wp_at_succ
end Go.Proofs.YtaebngpoagjafaaGreat
namespace Go.Proofs.YtaebngpoagjafaaGreat
open Go.RowKit
end Go.Proofs.YtaebngpoagjafaaGreat
namespace Go.Proofs.YtaebngpoagjafaaGreat
open Go.RowKit
attribute [local go_sem ↓] Go.wp_at_zero Go.wp_at_succ
end Go.Proofs.YtaebngpoagjafaaGreat
namespace Go.Proofs.YtaebngpoagjafaaGreat
open Go.RowKit
theorem cp_err {s:ByteArray}:cpE s=if (cSz s).2=0/\1000<(cSz s).1 then 8 else (cSz s).2:=by
 unfold cpE cSz
 by_cases h:(cChk s).1=0
 · simp [h]
 · simp [h]
theorem cp_len {s:ByteArray} (h:cpE s=0):(cChk s).1=0/\szR (cAll s).es (cAll s).es.length<=1000/\1<=(cpX s).length/\(cpX s).length<=7000:=by
 have h1:(cChk s).1=0:=by
   unfold cpE at h
   split at h
   · assumption
   · exact h
 have h2:szR (cAll s).es (cAll s).es.length<=1000:=by
   unfold cpE at h
   rw [if_pos h1] at h
   split at h
   · cases h
   · omega
 obtain ⟨hp,hg⟩:=good_ok h1
 have h3:=hg.enc_pos
 rw [Nat.sub_add_cancel hp] at h3
 have h4:=enc_le (cAll s).es (cAll s).es.length h2
 refine ⟨h1,h2,h3,?_⟩
 unfold cpX
 omega
end Go.Proofs.YtaebngpoagjafaaGreat
namespace Go.Proofs.YtaebngpoagjafaaGreat
open Go.RowKit
def fitB (s:ByteArray):Bool:=cpE s==0
theorem fit_eq (s:ByteArray):fitB s=((cSz s).2==0 && decide ((cSz s).1<=1000)):=by
 unfold fitB
 rw [cp_err]
 by_cases h:(cSz s).2=0
 · by_cases h2:1000<(cSz s).1
   · rw [if_pos ⟨h,h2⟩,h];simp;omega
   · rw [if_neg (by omega),h];simp;omega
 · rw [if_neg (by omega)];simp [h]
attribute [local go_sem ↓] Go.wp_at_zero Go.wp_at_succ
set_option maxHeartbeats 400000 in
theorem fits_any (s:ByteArray) (w:World):Calls Tryz.prog 13 #[.string s] w fun e w'=>e=.returned (.bool (fitB s))/\Below w.heap.size w w':=by
 have hd:=fun wz=>SizeR_any s wz
 have HF:Hid (fitB s=((cSz s).2==0 && decide ((cSz s).1<=1000))):=fit_eq s
 obtain ⟨z,hz⟩:∃ z,cSz s=z:=⟨_,rfl⟩
 rw [hz] at hd HF
 clear hz
 obtain ⟨z1,z2⟩:=z
 simp only at HF hd
 go_enter Tryz.func13,Tryz.ntmps13
 go_wp2_with fail
 refine (hd _).mono ?_
 rintro e w2 ⟨hb2,rfl⟩
 have HB2:Hid (Below w.heap.size w w2):=hb2
 clear hb2 hd
 cases h2:(z2==0) with
 | true =>
   have HF2:Hid (fitB s=decide (z1<=1000)):=by show _=_;rw [HF.out,h2];rfl
   go_wp2_with fail
   go_ret
   exact ⟨by rw [HF2.out];rfl,HB2.out⟩
 | false =>
   have HF2:Hid (fitB s=false):=by show _=_;rw [HF.out,h2];rfl
   go_wp2_with fail
   go_ret
   exact ⟨by rw [HF2.out];rfl,HB2.out⟩
theorem ask_eq (a b d:Int):askB a b d=(M.isA a && (M.isA d && (decide (0<=b) && decide (b<=32)))):=by
 unfold askB M.isA
 by_cases h1:0<=a<;>by_cases h2:a<4294967296<;>by_cases h3:0<=b<;>by_cases h4:b<=32<;>by_cases h5:0<=d<;>by_cases h6:d<4294967296<;>simp [h1,h2,h3,h4,h5,h6]
set_option maxHeartbeats 400000 in
theorem Asked_any (a b d:Int) (w:World):Calls Tryz.prog 33 #[.int .i64 a,.int .i64 b,.int .i64 d] w fun e w'=>e=.returned (.bool (askB a b d))/\w'=w:=by
 have HE:Hid (askB a b d=(M.isA a && (M.isA d && (decide (0<=b) && decide (b<=32))))):=ask_eq a b d
 go_enter Tryz.func33,Tryz.ntmps33
 go_wp2_with fail
 refine (isAddr_any a _).mono ?_
 rintro e w' ⟨rfl,hw'⟩
 subst w'
 generalize M.isA a=q at *
 cases q with
 | false =>
   go_wp2_with fail
   go_ret
   exact ⟨by rw [HE.out];rfl,rfl⟩
 | true =>
   go_wp2_with fail
   refine (isAddr_any d _).mono ?_
   rintro e w' ⟨rfl,hw'⟩
   subst w'
   generalize M.isA d=q2 at *
   cases q2 with
   | false =>
     go_wp2_with fail
     go_ret
     exact ⟨by rw [HE.out];rfl,rfl⟩
   | true =>
     by_cases h1:0<=b
     · by_cases h2:b<=32
       · have HE2:Hid (askB a b d=true):=by show _=_;rw [HE.out];simp [h1,h2]
         go_wp2_with fail
         go_ret
         exact ⟨by rw [HE2.out];rfl,rfl⟩
       · have HE2:Hid (askB a b d=false):=by show _=_;rw [HE.out];simp [h2]
         have h2':decide (b<=32)=false:=decide_eq_false h2
         go_wp2_with fail
         go_ret
         exact ⟨by rw [HE2.out];rfl,rfl⟩
     · have HE2:Hid (askB a b d=false):=by show _=_;rw [HE.out];simp [h1]
       have h1':decide (0<=b)=false:=decide_eq_false h1
       go_wp2_with fail
       go_ret
       exact ⟨by rw [HE2.out];rfl,rfl⟩
set_option maxHeartbeats 800000 in
theorem Right_any (x:WD) (w:World) (hx:x.In w) (hn:x.pl*24<=140737488351232) :
   Calls Tryz.prog 14 #[x.val] w fun e w'=>e=.returned (.bool x.right)/\Below w.heap.size w w':=by
 have HS:Hid (TS w x.po x.pb x.poff x.pl x.V x.L x.R):=hx.ts
 have HE:Hid (x.right=(askB x.a x.b x.d && plcB x.V x.L x.R x.pl)):=rfl
 clear hx
 unfold WD.val
 obtain ⟨xa,xb,xd,xdo,xdb,xdoff,xdl,xdc,xDn,xao,xab,xaoff,xac,xal,xpo,xpb,xpoff,xpl,xpcp,xV,xL,xR⟩:=x
 simp only at HS HE hn ⊢
 have HB0:Hid (Below w.heap.size w (w.alloc (.cells #[.int .i64 xa,.int .i64 xb,.int .i64 xd,.slice xdo xdl xdc,.slice xao xal.length xac,.slice xpo xpl xpcp] 30))):=(Below.refl _ _).alloc (Nat.le_refl _) _
 go_enter Tryz.func14,Tryz.ntmps14
 go_wp2_with fail
 refine (Asked_any xa xb xd _).mono ?_
 rintro e w' ⟨rfl,hw'⟩
 subst w'
 generalize askB xa xb xd=q at *
 cases q with
 | false =>
   go_wp2_with fail
   go_ret
   exact ⟨by rw [HE.out];rfl,HB0.out⟩
 | true =>
   go_wp2_with fail
   refine (Placed_any _ xpb xpoff xpl _ xV xL xR _ hn (HS.out.below HB0.out)).mono ?_
   rintro e w2 ⟨rfl,hb2⟩
   have HB2:Hid (Below w.heap.size w w2):=HB0.out.trans (hb2.mono HB0.out.size)
   clear hb2
   go_wp2_with fail
   go_ret
   exact ⟨by rw [HE.out];rfl,HB2.out⟩
set_option maxHeartbeats 800000 in
theorem sameInts_keep (o1 o2:Option Addr) (c1 c2 n:Nat) (D:Nat->Int) (b1 f1 b2 f2:Nat) (w:World) (hn:n<=9223372036854775807) (h1:IS w o1 b1 f1 n D) (h2:IS w o2 b2 f2 n D) :
   Calls Tryz.prog 36 #[.slice o1 n c1,.slice o2 n c2] w fun e w'=>e=.returned (.bool true)/\Below w.heap.size w w':=by
 have H1:Hid (IS w o1 b1 f1 n D):=h1
 have H2:Hid (IS w o2 b2 f2 n D):=h2
 clear h1 h2
 go_enter Tryz.func36,Tryz.ntmps36
 go_wp2_with fail
 go_loopg [5] n (fun q y wr=>∃ k:Nat,q+k=n/\y=.int .i64 k/\Below w.heap.size w wr)
 case atStart=>exact ⟨0,by omega,rfl,Below.refl _ _⟩
 case round =>
   obtain ⟨k,hq,rfl,hb⟩:=hrel
   have HB:Hid (Below w.heap.size w wr):=hb
   clear hb
   by_cases hlt:k<n
   · have hlt':(k:Int)<(n:Int):=by omega
     have hk0:(0:Int)<=(k:Int):=by omega
     obtain rfl:=H1.out.at_ (by omega)
     obtain rfl:=H2.out.at_ (by omega)
     have v1:=(H1.out.below HB.out H1.out.lt).val k hlt
     have v2:=(H2.out.below HB.out H2.out.lt).val k hlt
     generalize D k=x at *
     go_wp2_with fail
     go_quiet (fail)
     go_wp2_with fail
     go_roundg (gk-1)
     case measure=>omega
     case rel=>exact ⟨k+1,by omega,by go_num,bel_drewN HB.out _⟩
   · have hlt':¬ (k:Int)<(n:Int):=by omega
     go_wp2_with fail
     go_ret
     exact ⟨rfl,HB.out⟩
set_option maxHeartbeats 800000 in
theorem same_keep (o1 o2:Option Addr) (c1 c2 n:Nat) (t s:Int) (D:Nat->Int) (b1 f1 b2 f2:Nat) (w:World) (hn:n<=9223372036854775807) (h1:IS w o1 b1 f1 n D) (h2:IS w o2 b2 f2 n D) :
   Calls Tryz.prog 19 #[.agg #[.slice o1 n c1,.int .i64 t,.int .i64 s],.agg #[.slice o2 n c2,.int .i64 t,.int .i64 s]] w fun e w'=>e=.returned (.bool true)/\Below w.heap.size w w':=by
 have HB0:Hid (Below w.heap.size w ((w.alloc (.cells #[.slice o1 n c1,.int .i64 t,.int .i64 s] 35)).alloc (.cells #[.slice o2 n c2,.int .i64 t,.int .i64 s] 35))):=((Below.refl _ _).alloc (Nat.le_refl _) _).alloc (by simp) _
 have HX1:Hid (((w.alloc (.cells #[.slice o1 n c1,.int .i64 t,.int .i64 s] 35)).alloc (.cells #[.slice o2 n c2,.int .i64 t,.int .i64 s] 35)).heap[w.heap.size]?=some (.cells #[.slice o1 n c1,.int .i64 t,.int .i64 s] 35 (0,0))):=by show _=_;rw [Below.heap_alloc _ _ _ (by simp)];exact heap_alloc_new w _
 have HX2:Hid (((w.alloc (.cells #[.slice o1 n c1,.int .i64 t,.int .i64 s] 35)).alloc (.cells #[.slice o2 n c2,.int .i64 t,.int .i64 s] 35)).heap[w.heap.size+1]?=some (.cells #[.slice o2 n c2,.int .i64 t,.int .i64 s] 35 (0,0))):=heap_alloc_at _ (by simp)
 have H1:Hid (IS w o1 b1 f1 n D):=h1
 have H2:Hid (IS w o2 b2 f2 n D):=h2
 clear h1 h2
 go_enter Tryz.func19,Tryz.ntmps19
 go_wp2_with fail
 refine (sameInts_keep o1 o2 c1 c2 n D b1 f1 b2 f2 _ hn (H1.out.below HB0.out H1.out.lt) (H2.out.below HB0.out H2.out.lt)).mono ?_
 rintro e w1 ⟨rfl,hb1⟩
 have HB1:Hid (Below w.heap.size w w1):=HB0.out.trans (hb1.mono HB0.out.size)
 have hx1:=(hb1.block _ (lt_of_block HX1.out)).trans HX1.out
 have hx2:=(hb1.block _ (lt_of_block HX2.out)).trans HX2.out
 have p1:w1.cell? ⟨w.heap.size,1,none⟩=some (.int .i64 t):=by rw [cell_of_row _ _ _ _ _ _ hx1];rfl
 have p2:w1.cell? ⟨w.heap.size,2,none⟩=some (.int .i64 s):=by rw [cell_of_row _ _ _ _ _ _ hx1];rfl
 have q1:w1.cell? ⟨w.heap.size+1,1,none⟩=some (.int .i64 t):=by rw [cell_of_row _ _ _ _ _ _ hx2];rfl
 have q2:w1.cell? ⟨w.heap.size+1,2,none⟩=some (.int .i64 s):=by rw [cell_of_row _ _ _ _ _ _ hx2];rfl
 clear hb1 hx1 hx2
 go_wp2_with fail
 go_ret
 exact ⟨rfl,HB1.out⟩
end Go.Proofs.YtaebngpoagjafaaGreat
namespace Go.Proofs.YtaebngpoagjafaaGreat
open Go.RowKit
theorem nil_eql (t e:TypeId) (h:Tryz.prog.underlying t=some (.slice e)) (w:World):(binOp .eql t (.slice none 0 0) (.slice none 0 0)).run Tryz.prog w=.ok (.bool true) w:=by
 simp only [binOp]
 simp [run_equal_slice_nil w t e none 0 0 h]
attribute [local go_sem ↓] Go.wp_at_zero Go.wp_at_succ
end Go.Proofs.YtaebngpoagjafaaGreat
