/-
  OUR OWN.
-/
import Derived.Test.YtaebngpoagjafaaGreatU25
import Derived.Test.YtaebngpoagjafaaGreatU01
set_option maxRecDepth 100000
namespace Go.Proofs.YtaebngpoagjafaaGreat
open Go.RowKit
def szK (es:List EX):Nat->List Int
 | 0=>[]
 | j+1=>szK es j++[match es[j]? with | some e=>szE e (szK es j) | none=>0]
def szR (es:List EX):Nat->Int
 | 0=>0
 | j+1=>match es[j]? with | some e=>szE e (szK es j) | none=>0
theorem szK_len (es:List EX):∀ j,(szK es j).length=j:=by
 intro j
 induction j with
 | zero=>rfl
 | succ j ih=>simp [szK,ih]
theorem szE_bd {e:EX} {K:List Int} (h:∀ k∈K,0<=k/\k<=1001):0<=szE e K/\szE e K<=1001:=by
 unfold szE
 have h1:=atF_bd h e.inner
 have h2:=armS_bd h e.items e.items.length
 refine cap1_bd ?_
 split<;>omega
theorem szK_bd (es:List EX):∀ j,∀ k∈szK es j,0<=k/\k<=1001:=by
 intro j
 induction j with
 | zero=>intro k hk;simp [szK] at hk
 | succ j ih =>
   intro k hk
   simp only [szK,List.mem_append,List.mem_singleton] at hk
   rcases hk with hk | hk
   · exact ih k hk
   · subst hk
     cases hx:es[j]? with
     | none=>simp
     | some e=>exact szE_bd ih
theorem ex_view {w:World} {base:Nat} {ev:Value} {es:List (EX×Value)} (hex:w.ownsRow base 114 7 ev es.length (exC es)) (hit:∀ p∈es,w.ownsRow base 167 7 p.2 p.1.items.length (imC p.1.items)) :
   ∃ eo ec,ev=.slice eo es.length ec/\∀ i x,es[i]?=some x->∃ g vo vm vc,eo=some ⟨g,0,none⟩/\g<w.heap.size/\w.cell? ⟨g,i*7,none⟩=some (.int .u8 x.1.kind)/\w.cell? ⟨g,i*7+1,none⟩=some (.int .i64 x.1.at_)/\w.cell? ⟨g,i*7+2,none⟩=some (.int .i64 x.1.depth)/\w.cell? ⟨g,i*7+3,none⟩=some (.int .i64 x.1.nv)/\w.cell? ⟨g,i*7+4,none⟩=some (.int .i64 x.1.na)/\w.cell? ⟨g,i*7+5,none⟩=some (.slice vo vm vc)/\w.cell? ⟨g,i*7+6,none⟩=some (.int .i64 x.1.inner)/\IV w (.slice vo vm vc) x.1.items/\(∀ q,(Value.slice vo vm vc).ownBlock=some q->q<w.heap.size):=by
 have h0:=hex
 rcases hex.2 with ⟨h1,h2⟩ | ⟨g,cap,cur,rfl,h1,h2,_⟩
 · have:es=[]:=List.eq_nil_of_length_eq_zero h2
   subst this
   exact ⟨none,0,h1,fun i x hx=>by simp at hx⟩
 · refine ⟨_,cap,rfl,fun i x hx=>?_⟩
   have hx2:=hit x (List.mem_of_getElem? hx)
   have hc:=fun j hj=>row_cells exV (fun _=>rfl) h0 hx j hj
   have hiv:∃ vo vm vc,x.2=.slice vo vm vc/\IV w (.slice vo vm vc) x.1.items:=by
     have h3:=hx2
     rcases hx2.2 with ⟨q1,q2⟩ | ⟨g',cap',cur',q1,q2,q3,q4,_⟩
     · exact ⟨none,0,0,q1,.inl ⟨rfl,List.eq_nil_of_length_eq_zero q2⟩⟩
     · rw [q1] at h3
       have hd:=fun i y hy j hj=>row_cells imV (fun _=>rfl) h3 (i:=i) (x:=y) hy j hj
       exact ⟨_,_,_,q1,.inr ⟨g',cap',rfl,q4,fun i y hy=>⟨hd i y hy 0 (by decide),hd i y hy 1 (by decide),hd i y hy 2 (by decide),hd i y hy 3 (by decide),hd i y hy 4 (by decide),hd i y hy 5 (by decide),hd i y hy 6 (by decide)⟩⟩⟩
   obtain ⟨vo,vm,vc,hv,hiv⟩:=hiv
   have h5:w.cell? ⟨g,i*7+5,none⟩=some (.slice vo vm vc):=by rw [<- hv];exact hc 5 (by decide)
   exact ⟨g,vo,vm,vc,rfl,lt_of_block h2,hc 0 (by decide),hc 1 (by decide),hc 2 (by decide),hc 3 (by decide),hc 4 (by decide),h5,hc 6 (by decide),hiv,fun q hq=>(hx2.lt q (by rw [hv];exact hq)).2⟩
theorem cRules_mono (s:ByteArray):∀ (n:Nat) (rs:List RL) (m k:Nat) (b:Bool),k<=s.size->(cRules s n rs m k b).es.length+k<=(cRules s n rs m k b).k/\(cRules s n rs m k b).k<=s.size:=by
 intro n
 induction n with
 | zero=>intro rs m k b hk;simp [cRules];exact hk
 | succ n ih =>
   intro rs m k b hk
   have h1:=cRule_mono s rs m k b hk
   simp only [cRules]
   generalize cRule s rs m k b=r at *
   have h2:=takeK_ge s 59 r.k r.b
   have h3:takeK s 59 r.k r.b<=s.size:=takeK_le (by decide) h1.2.1
   split
   · have h4:=ih (rs++[r.rl]) (m+r.es.length) (takeK s 59 r.k r.b) r.b h3
     simp only [List.length_append]
     omega
   · simp only
     omega
attribute [local go_sem ↓] Go.wp_at_zero Go.wp_at_succ
set_option maxHeartbeats 800000 in
theorem PSize_any (eo:Option Addr) (ec:Nat) (rv:Value) (base:Nat) (es:List (EX×Value)) (w:World) (hr:∃ ro rm rc,rv=.slice ro rm rc) (hex:w.ownsRow base 114 7 (.slice eo es.length ec) es.length (exC es)) (hit:∀ p∈es,w.ownsRow base 167 7 p.2 p.1.items.length (imC p.1.items)) (hl:es.length<=100000) (hi:∀ p∈es,p.1.items.length<=100000) :
   Calls Tryz.prog 39 #[.agg #[.slice eo es.length ec,rv]] w fun e w'=>Below w.heap.size w w'/\e=.returned (.int .i64 (szR (es.map Prod.fst) es.length)):=by
 obtain ⟨ro,rm,rc,rfl⟩:=hr
 obtain ⟨eo',ec',he,hview⟩:=ex_view hex hit
 cases he
 obtain ⟨i0,hi0,hz0,hz1,hz2⟩:=info_parts Tryz.infoInt
 have HI:Hid (∀ p∈es,p.1.items.length<=100000):=hi
 clear hex hit hi
 go_enter Tryz.func39,Tryz.ntmps39
 go_wp2_with fail
 have HA0:Hid (Below w.heap.size w ((w.alloc (.cells #[.slice eo es.length ec,.slice ro rm rc] 77)).alloc (.cells #[] 3))):=((Below.refl _ _).alloc (Nat.le_refl _) _).alloc (by simp) _
 have HR0:Hid (((w.alloc (.cells #[.slice eo es.length ec,.slice ro rm rc] 77)).alloc (.cells #[] 3)).ownsRow w.heap.size 3 1 (.slice (some ⟨w.heap.size+1,0,none⟩) 0 0) 0 []):=⟨rfl,.inr ⟨w.heap.size+1,0,#[],rfl,by omega,heap_alloc_at _ (by simp),Nat.le_refl _,by decide,rfl,rfl⟩⟩
 have HVW:Hid (∀ i x,es[i]?=some x->∃ g vo vm vc,eo=some ⟨g,0,none⟩/\g<w.heap.size/\w.cell? ⟨g,i*7,none⟩=some (.int .u8 x.1.kind)/\w.cell? ⟨g,i*7+1,none⟩=some (.int .i64 x.1.at_)/\w.cell? ⟨g,i*7+2,none⟩=some (.int .i64 x.1.depth)/\w.cell? ⟨g,i*7+3,none⟩=some (.int .i64 x.1.nv)/\w.cell? ⟨g,i*7+4,none⟩=some (.int .i64 x.1.na)/\w.cell? ⟨g,i*7+5,none⟩=some (.slice vo vm vc)/\w.cell? ⟨g,i*7+6,none⟩=some (.int .i64 x.1.inner)/\IV w (.slice vo vm vc) x.1.items/\(∀ q,(Value.slice vo vm vc).ownBlock=some q->q<w.heap.size)):=hview
 clear hview
 go_loopg [3,4,11] es.length (fun n a b y wr=>∃ (j:Nat),n+j=es.length/\b=.int .i64 (szR (es.map Prod.fst) j)/\y=.int .i64 j/\wr.ownsRow w.heap.size 3 1 a (szK (es.map Prod.fst) j).length ((szK (es.map Prod.fst) j).map (Value.int .i64))/\Below w.heap.size w wr)
 case atStart=>exact ⟨0,by omega,rfl,rfl,HR0.out,HA0.out⟩
 case round =>
   obtain ⟨j,hn,rfl,rfl,hrow,hb⟩:=hrel
   have HR:Hid (wr.ownsRow w.heap.size 3 1 u3 (szK (es.map Prod.fst) j).length ((szK (es.map Prod.fst) j).map (Value.int .i64))):=hrow
   have HB:Hid (Below w.heap.size w wr):=hb
   have hbs:=hb.size
   clear hrow hb
   by_cases hlt:j<es.length
   · obtain ⟨xv,hxv⟩:∃ r,es[j]?=some r:=⟨es[j],List.getElem?_eq_getElem hlt⟩
     have hj0:(0:Int)<=(j:Int):=by omega
     have hj1:(j:Int)<(es.length:Int):=by omega
     obtain ⟨g,vo,vm,vc,rfl,hgw,r0,r1,r2,r3,r4,r5,r6,hiv,hivg⟩:=HVW.out j xv hxv
     have hil:=HI.out xv (List.mem_of_getElem? hxv)
     have hmx:(es.map Prod.fst)[j]?=some xv.1:=by rw [List.getElem?_map,hxv];rfl
     obtain ⟨x,xq⟩:=xv
     simp only at r0 r1 r2 r3 r4 r6 hiv hil hmx
     have hcg:∀ q,wr.cell? ⟨g,q,none⟩=w.cell? ⟨g,q,none⟩:=fun q=>HB.out.cell (p:=⟨g,q,none⟩) hgw
     rw [<- hcg] at r0 r1 r2 r3 r4 r5 r6
     have HSR:Hid (szR (es.map Prod.fst) (j+1)=szE x (szK (es.map Prod.fst) j)):=by show _=_;simp only [szR,hmx]
     have HSK:Hid (szK (es.map Prod.fst) (j+1)=szK (es.map Prod.fst) j++[szE x (szK (es.map Prod.fst) j)]):=by show _=_;simp only [szK,hmx]
     obtain ⟨ko,kc,hu3⟩:∃ ko kc,u3=.slice ko (szK (es.map Prod.fst) j).length kc:=by
       rcases HR.out.2 with ⟨h1,h2⟩ | ⟨g,cap,cur,h1,_⟩
       · exact ⟨none,0,by rw [h1,h2]⟩
       · exact ⟨_,cap,h1⟩
     subst hu3
     have HKL:Hid ((szK (es.map Prod.fst) j).length=j):=szK_len _ j
     have HKB:Hid (∀ k∈szK (es.map Prod.fst) j,0<=k/\k<=1001):=szK_bd _ j
     generalize szK (es.map Prod.fst) j=K at *
     have HBA:Hid (Below w.heap.size w (wr.alloc (.cells #[.int .u8 x.kind,.int .i64 x.at_,.int .i64 x.depth,.int .i64 x.nv,.int .i64 x.na,.slice vo vm vc,.int .i64 x.inner] 114))):=HB.out.alloc hbs _
     have HRA:Hid ((wr.alloc (.cells #[.int .u8 x.kind,.int .i64 x.at_,.int .i64 x.depth,.int .i64 x.nv,.int .i64 x.na,.slice vo vm vc,.int .i64 x.inner] 114)).ownsRow w.heap.size 3 1 (.slice ko K.length kc) K.length (K.map (Value.int .i64))):=HR.out.alloc _
     have HNV:Hid (NV (wr.alloc (.cells #[.int .u8 x.kind,.int .i64 x.at_,.int .i64 x.depth,.int .i64 x.nv,.int .i64 x.na,.slice vo vm vc,.int .i64 x.inner] 114)) ko K):=fun i v hv=>by
       rcases HRA.out.2 with ⟨h1,h2⟩ | ⟨g,cap,cur,h1,h2,h3,_⟩
       · have:=(List.getElem?_eq_some_iff.1 hv).1;omega
       · cases h1
         have hil:i<K.length:=(List.getElem?_eq_some_iff.1 hv).1
         refine ⟨g,rfl,lt_of_block h3,?_⟩
         rw [World.ownsRow.cellAt HRA.out i (by omega)]
         simp [hv]
     have HIV:Hid (IV (wr.alloc (.cells #[.int .u8 x.kind,.int .i64 x.at_,.int .i64 x.depth,.int .i64 x.nv,.int .i64 x.na,.slice vo vm vc,.int .i64 x.inner] 114)) (.slice vo vm vc) x.items):=hiv.of_kept (fun q hq=>HBA.out.block q (hivg q hq))
     have HIG:Hid (∀ q,(Value.slice vo vm vc).ownBlock=some q->q<(wr.alloc (.cells #[.int .u8 x.kind,.int .i64 x.at_,.int .i64 x.depth,.int .i64 x.nv,.int .i64 x.na,.slice vo vm vc,.int .i64 x.inner] 114)).heap.size):=fun q hq=>Nat.lt_of_lt_of_le (hivg q hq) HBA.out.size
     have hbsA:w.heap.size<=(wr.alloc (.cells #[.int .u8 x.kind,.int .i64 x.at_,.int .i64 x.depth,.int .i64 x.nv,.int .i64 x.na,.slice vo vm vc,.int .i64 x.inner] 114)).heap.size:=HBA.out.size
     clear hxv hcg hiv hivg hmx
     go_wp2_with fail
     clear r0 r1 r2 r3 r4 r5 r6
     refine (sizeOf_any x vo vm vc ko kc K _ HNV.out HKB.out hil HIV.out HIG.out).mono ?_
     rintro e w4 ⟨hb4,rfl⟩
     have HB4:Hid (Below w.heap.size w w4):=HBA.out.trans (hb4.mono hbsA)
     have HR4:Hid (w4.ownsRow w.heap.size 3 1 (.slice ko K.length kc) K.length (K.map (Value.int .i64))):=owns_of_block HRA.out (fun g hg=>hb4.block g (HRA.out.lt g hg).2)
     have hbs4:w.heap.size<=w4.heap.size:=HB4.out.size
     clear hb4
     generalize szE x K=nj at *
     have hA1:Hid (K.length+1<=maxLen):=by show _<=_;have:=HKL.out;unfold maxLen;omega
     have hA2:Hid ((K.length+1)*8<=140737488355328):=by show _<=_;have:=HKL.out;omega
     have hA3:Hid (w.heap.size<=(w4.alloc (.cells #[.int .i64 nj] 3)).heap.size):=by show _<=_;simp;omega
     have hone:Hid (∀ u∈[Value.int .i64 nj],u.oneCell'=true):=fun u hu=>by simp at hu;subst hu;rfl
     go_wp2_with (at_builtin;refine wpList_append_lies _ rfl _ _ 25 rfl w.heap.size 3 i0 _ 1 8 Tryz.underlying25 hi0 hz0 hz1 hz2 rfl (by decide) (.slice ko K.length kc) _ _ rfl (HR4.out.alloc _) ⟨w4.heap.size,0,none⟩ 1 1 [.int .i64 nj] rfl rfl (World.news_of_block (cs:=#[.int .i64 nj]) (t:=3) (fr:=(0,0)) (heap_alloc_new w4 _)) hone.out (Nat.lt_succ_self 0) hA1.out hA2.out hA3.out (w4.heap.size+1) (by simp) ?_;intro g cap w5 hown hgrow hat hlt5)
     have HR5:Hid (w5.ownsRow w.heap.size 3 1 (.slice (some ⟨g,0,none⟩) (K.length+1) cap) (szK (es.map Prod.fst) (j+1)).length ((szK (es.map Prod.fst) (j+1)).map (Value.int .i64))):=by
       show World.ownsRow _ _ _ _ _ _ _
       rw [HSK.out,List.length_append,List.map_append]
       exact hown
     have HB5:Hid (Below w.heap.size w w5):=(HB4.out.alloc hbs4 _).grown hgrow (by simp;omega) (fun k hk=>(HR4.out.lt k hk).1)
     clear hown hgrow hat
     go_roundg (gk-1)
     case measure=>omega
     case rel=>exact ⟨j+1,by omega,by rw [HSR.out],by go_num,HR5.out,HB5.out⟩
   · have hd:¬ ((j:Int)<(es.length:Int)):=by omega
     have hje:j=es.length:=by omega
     have HE:Hid (szR (es.map Prod.fst) es.length=szR (es.map Prod.fst) j):=by show _=_;rw [hje]
     clear hje
     go_wp2_with fail
     go_ret
     exact ⟨HB.out,by rw [HE.out];rfl⟩
def cSz (s:ByteArray):Int×Int:=if (cChk s).1=0 then (szR (cAll s).es (cAll s).es.length,0) else (0,(cChk s).1)
end Go.Proofs.YtaebngpoagjafaaGreat
namespace Go.Proofs.YtaebngpoagjafaaGreat
open Go.RowKit
def numB (n:Int):Nat->List Int
 | 0=>[]
 | k+1=>(n%256)::numB (n / 256) k
def itemB (kind:Int) (x:IM) (way:Int):List Int :=
 if kind=109 then numB x.pv 4++numB x.pl 1++numB way 2
 else if kind=103 then numB x.num 1++numB way 2
 else if kind=119 then numB x.num 1++numB x.wv 2
 else numB x.num 1
def exprB (e:EX):List Int :=
 numB e.kind 1++(if e.kind=116 then numB e.nv 3 else if e.kind=64 then numB e.nv 1 else numB e.items.length 1)
def atL (K:List (List Int)) (i:Int):List Int:=if i<0 then [] else (K[i.toNat]?).getD []
def withinL (K:List (List Int)) (e:EX):Nat->List Int
 | 0=>atL K e.inner
 | j+1=>withinL K e j++(match e.items[j]? with | some x=>atL K x.arm | none=>[])
def headL (K:List (List Int)) (e:EX):Nat->List Int
 | 0=>exprB e
 | j+1=>headL K e j++(match e.items[j]? with | some x=>itemB e.kind x (withinL K e j).length | none=>[])
def encE (K:List (List Int)) (e:EX):List Int :=
 if e.kind=61 then atL K e.inner else headL K e e.items.length++withinL K e e.items.length
def encK (es:List EX):Nat->List (List Int)
 | 0=>[]
 | j+1=>encK es j++[match es[j]? with | some e=>encE (encK es j) e | none=>[]]
def encN (es:List EX):Nat->List Int
 | 0=>[]
 | j+1=>match es[j]? with | some e=>encE (encK es j) e | none=>[]
theorem numB_len (n:Int) (k:Nat):(numB n k).length=k:=by
 induction k generalizing n with
 | zero=>rfl
 | succ k ih=>simp [numB,ih]
theorem encK_len (es:List EX):∀ j,(encK es j).length=j:=by
 intro j
 induction j with
 | zero=>rfl
 | succ j ih=>simp [encK,ih]
theorem encK_at (es:List EX):∀ m i,i<m->(encK es m)[i]?=some (encN es (i+1)):=by
 intro m
 induction m with
 | zero=>intro i h;omega
 | succ m ih =>
   intro i h
   by_cases hi:i<m
   · simp only [encK]
     rw [List.getElem?_append_left (by rw [encK_len];exact hi)]
     exact ih i hi
   · have:i=m:=by omega
     subst this
     simp only [encK]
     rw [List.getElem?_append_right (by rw [encK_len];exact Nat.le_refl _),encK_len]
     simp [encN]
theorem atL_enc (es:List EX) (m:Nat) (i:Int):atL (encK es m) i=if i<0 then [] else if i<m then encN es (i.toNat+1) else []:=by
 unfold atL
 by_cases h0:i<0
 · rw [if_pos h0,if_pos h0]
 · rw [if_neg h0,if_neg h0]
   by_cases h1:i<m
   · rw [if_pos h1,encK_at es m i.toNat (by omega)];rfl
   · rw [if_neg h1,List.getElem?_eq_none (by rw [encK_len];omega)];rfl
theorem szK_at (es:List EX):∀ m i,i<m->(szK es m)[i]?=some (szR es (i+1)):=by
 intro m
 induction m with
 | zero=>intro i h;omega
 | succ m ih =>
   intro i h
   by_cases hi:i<m
   · simp only [szK]
     rw [List.getElem?_append_left (by rw [szK_len];exact hi)]
     exact ih i hi
   · have:i=m:=by omega
     subst this
     simp only [szK]
     rw [List.getElem?_append_right (by rw [szK_len];exact Nat.le_refl _),szK_len]
     simp [szR]
theorem atF_sz (es:List EX) (m:Nat) (i:Int):atF (szK es m) i=if i<0 then 0 else if i<m then szR es (i.toNat+1) else 0:=by
 unfold atF
 by_cases h0:i<0
 · rw [if_pos h0,if_pos h0]
 · rw [if_neg h0,if_neg h0]
   by_cases h1:i<m
   · rw [if_pos h1,szK_at es m i.toNat (by omega)];rfl
   · rw [if_neg h1,List.getElem?_eq_none (by rw [szK_len];omega)];rfl
theorem szR_bd (es:List EX) (n:Nat):0<=szR es n/\szR es n<=1001:=by
 cases n with
 | zero=>simp [szR]
 | succ j =>
   simp only [szR]
   cases h:es[j]? with
   | none=>simp
   | some e=>exact szE_bd (szK_bd es j)
theorem cap1_le {x:Int} (h:cap1 x<=1000):cap1 x=x/\x<=1000:=by
 unfold cap1 at h ⊢
 split at h
 · omega
 · rename_i h1;rw [if_neg h1];exact ⟨rfl,by omega⟩
theorem armS_le {K:List Int} (h:∀ k∈K,0<=k/\k<=1001) (l:List IM):∀ m j,j<=m->armS K l j<=armS K l m:=by
 intro m
 induction m with
 | zero => intro j hj; have : j = 0 := by omega
           subst this;exact Int.le_refl _
 | succ m ih =>
   intro j hj
   by_cases h1:j<=m
   · have h2:=ih j h1
     simp only [armS]
     cases hx:l[m]? with
     | none=>simp only;omega
     | some x=>have:=atF_bd h x.arm;simp only;omega
   · have:j=m+1:=by omega
     subst this;exact Int.le_refl _
theorem sz_parts {es:List EX} {j:Nat} {e:EX} (he:es[j]?=some e) (h:szR es (j+1)<=1000) :
   szR es (j+1)=atF (szK es j) e.inner+(if e.kind=61 then 0 else 1+(e.items.length:Int))+armS (szK es j) e.items e.items.length/\atF (szK es j) e.inner<=1000/\(∀ (i:Nat) (x:IM),e.items[i]?=some x->atF (szK es j) x.arm<=1000)/\(e.kind≠61->e.items.length<=1000):=by
 simp only [szR,he] at h ⊢
 unfold szE at h ⊢
 obtain ⟨h1,h2⟩:=cap1_le h
 rw [h1]
 have hb:=szK_bd es j
 have b1:=atF_bd hb e.inner
 have b2:=armS_bd hb e.items e.items.length
 refine ⟨rfl,?_,?_,?_⟩
 · split at h2<;>omega
 · intro i x hx
   have hi:i<e.items.length:=(List.getElem?_eq_some_iff.1 hx).1
   have c1:=armS_le hb e.items e.items.length (i+1) (by omega)
   have c2:=armS_bd hb e.items i
   simp only [armS,hx] at c1
   split at h2<;>omega
 · intro hk
   rw [if_neg hk] at h2
   omega
theorem withinL_le (K:List (List Int)) (e:EX):∀ m j,j<=m->(withinL K e j).length<=(withinL K e m).length:=by
 intro m
 induction m with
 | zero => intro j hj; have : j = 0 := by omega
           subst this;exact Nat.le_refl _
 | succ m ih =>
   intro j hj
   by_cases h1:j<=m
   · have h2:=ih j h1
     simp only [withinL,List.length_append];omega
   · have:j=m+1:=by omega
     subst this;exact Nat.le_refl _
theorem headL_le (K:List (List Int)) (e:EX):∀ m j,j<=m->(headL K e j).length<=(headL K e m).length:=by
 intro m
 induction m with
 | zero => intro j hj; have : j = 0 := by omega
           subst this;exact Nat.le_refl _
 | succ m ih =>
   intro j hj
   by_cases h1:j<=m
   · have h2:=ih j h1
     simp only [headL,List.length_append];omega
   · have:j=m+1:=by omega
     subst this;exact Nat.le_refl _
theorem itemB_len (kind:Int) (x:IM) (way:Int):(itemB kind x way).length<=7:=by
 unfold itemB
 repeat' split
 all_goals simp [numB_len]
theorem exprB_len (e:EX):2<=(exprB e).length/\(exprB e).length<=4:=by
 unfold exprB
 repeat' split
 all_goals simp [numB_len]
theorem headL_len (K:List (List Int)) (e:EX):∀ j,(headL K e j).length<=4+7*j/\2<=(headL K e j).length:=by
 intro j
 induction j with
 | zero=>have:=exprB_len e;simp only [headL];omega
 | succ j ih =>
   simp only [headL,List.length_append]
   cases hx:e.items[j]? with
   | none=>simp only [List.length_nil];omega
   | some x=>have:=itemB_len e.kind x (withinL K e j).length;simp only;omega
theorem enc_le (es:List EX):∀ n,szR es n<=1000->((encN es n).length:Int)<=7*szR es n:=by
 intro n
 induction n using Nat.strongRecOn with
 | ind n ih =>
   cases n with
   | zero=>intro _;simp [encN,szR]
   | succ j =>
     intro h
     cases he:es[j]? with
     | none=>simp [encN,szR,he]
     | some e =>
       obtain ⟨p1,p2,p3,p4⟩:=sz_parts he h
       have hb:=szK_bd es j
       have hat:∀ i,atF (szK es j) i<=1000->((atL (encK es j) i).length:Int)<=7*atF (szK es j) i:=by
         intro i hi
         rw [atL_enc,atF_sz] at *
         by_cases h0:i<0
         · simp [h0]
         · by_cases h1:i<j
           · rw [if_neg h0,if_pos h1] at hi ⊢
             rw [if_neg h0,if_pos h1]
             exact ih (i.toNat+1) (by omega) hi
           · simp [h0,h1]
       have hw:∀ k,k<=e.items.length->((withinL (encK es j) e k).length:Int)<=7*(atF (szK es j) e.inner+armS (szK es j) e.items k):=by
         intro k
         induction k with
         | zero=>intro _;have:=hat e.inner p2;simp only [withinL,armS];omega
         | succ k ihk =>
           intro hk
           have h2:=ihk (by omega)
           obtain ⟨x,hx⟩:∃ x,e.items[k]?=some x:=⟨e.items[k],List.getElem?_eq_getElem (by omega)⟩
           have h3:=hat x.arm (p3 k x hx)
           simp only [withinL,armS,hx,List.length_append]
           omega
       have hw2:=hw e.items.length (Nat.le_refl _)
       rw [p1]
       simp only [encN,he]
       unfold encE
       have b2:=armS_bd hb e.items e.items.length
       by_cases hk:e.kind=61
       · rw [if_pos hk,if_pos hk]
         have:=hat e.inner p2
         omega
       · rw [if_neg hk,if_neg hk,List.length_append]
         have:=headL_len (encK es j) e e.items.length
         omega
end Go.Proofs.YtaebngpoagjafaaGreat
namespace Go.Proofs.YtaebngpoagjafaaGreat
def p256:Nat->Int
 | 0=>1
 | n+1=>p256 n*256
structure RW where
 addr:Int
 draw:Int
 dn:Nat->Bool
 al:List (List Int)
 reg:Int
 dep:Int
structure RD where
 p:Nat
 b:Bool
def nxV (C:List Int) (r:RD):Int:=(C[r.p]?).getD 0
def nx (C:List Int) (r:RD):RD:=if r.p<C.length then ⟨r.p+1,r.b⟩ else ⟨r.p,true⟩
def rdAt (C:List Int) (r:RD):Nat->RD
 | 0=>r
 | i+1=>nx C (rdAt C r i)
def rdN (C:List Int) (r:RD):Nat->Int
 | 0=>0
 | i+1=>rdN C r i+nxV C (rdAt C r i)*p256 i
def num (C:List Int) (r:RD) (k:Nat) (lo hi:Int):RD:=⟨(rdAt C r k).p,if rdN C r k<lo\/hi<rdN C r k then true else (rdAt C r k).b⟩
def svR (C:List Int) (r:RD):Nat->RD
 | 0=>r
 | i+1=>num C (svR C r i) 1 0 63
def svL (C:List Int) (r:RD):Nat->List Int
 | 0=>[]
 | i+1=>svL C r i++[rdN C (svR C r i) 1]
def upW (W:RW) (s:Int):Bool:=decide (0<=s) && (decide (s<64) && !W.dn s.toNat)
def meR (C:List Int) (r:RD):Nat->RD
 | 0=>r
 | i+1=>num C (num C (meR C r i) 1 0 63) 2 1 1000
def meS (C:List Int) (r:RD) (i:Nat):Int:=rdN C (meR C r i) 1
def meW (C:List Int) (r:RD) (i:Nat):Int:=rdN C (num C (meR C r i) 1 0 63) 2
def meL (W:RW) (C:List Int) (r:RD):Nat->List (Int×Int)
 | 0=>[]
 | i+1=>if upW W (meS C r i)=true then meL W C r i++[(meS C r i,meW C r i)] else meL W C r i
def suL:List (Int×Int)->Int
 | []=>0
 | x::l=>x.2+suL l
def pkL:List (Int×Int)->Int->Option Int
 | [],_=>none
 | x::l,r=>if r<x.2 then some x.1 else pkL l (r-x.2)
def chG (W:RW) (C:List Int) (r:RD):Nat->Nat->Option Nat
 | _,0=>none
 | i,n+1=>if upW W (rdN C (svR C r i) 1)=true then some i else chG W C r (i+1) n
def amV (C:List Int) (r:RD):RD:=num C r 4 0 4294967295
def amL (C:List Int) (r:RD):RD:=⟨(num C (amV C r) 1 0 32).p,if M.isP (rdN C r 4) (rdN C (amV C r) 1)=true then (num C (amV C r) 1 0 32).b else true⟩
def amR (C:List Int) (r:RD):Nat->RD
 | 0=>r
 | i+1=>num C (amL C (amR C r i)) 2 0 32000
def arV (C:List Int) (r:RD) (i:Nat):Int:=rdN C (amR C r i) 4
def arL (C:List Int) (r:RD) (i:Nat):Int:=rdN C (amV C (amR C r i)) 1
def arW (C:List Int) (r:RD) (i:Nat):Int:=rdN C (amL C (amR C r i)) 2
def rgR (C:List Int) (r:RD):Nat->RD
 | 0=>r
 | i+1=>num C (num C (rgR C r i) 1 0 99) 2 0 32000
def rgN (C:List Int) (r:RD) (i:Nat):Int:=rdN C (rgR C r i) 1
def rgW (C:List Int) (r:RD) (i:Nat):Int:=rdN C (num C (rgR C r i) 1 0 99) 2
def rgT (W:RW) (C:List Int) (r:RD):Nat->Int
 | 0=>0
 | i+1=>if rgN C r i=W.reg then rgW C r i else rgT W C r i
structure RT where
 r:RD
 sv:List Int
 ttl:Int
 sc:Int
def cnR (C:List Int) (r:RD):RD:=num C r 1 1 16
def cnN (C:List Int) (r:RD):Nat:=(rdN C r 1).toNat
def nar (d sc:Int):Int:=if sc<d then d else sc
def stServers (C:List Int) (s:RT):RT:=⟨svR C (cnR C s.r) (cnN C s.r),s.sv++svL C (cnR C s.r) (cnN C s.r),s.ttl,s.sc⟩
def stPool (W:RW) (C:List Int) (s:RT):RT×Bool :=
 if suL (meL W C (cnR C s.r) (cnN C s.r))<=0 then (⟨meR C (cnR C s.r) (cnN C s.r),s.sv,s.ttl,s.sc⟩,false)
 else match pkL (meL W C (cnR C s.r) (cnN C s.r)) (W.draw%suL (meL W C (cnR C s.r) (cnN C s.r))) with
   | some x=>(⟨meR C (cnR C s.r) (cnN C s.r),s.sv++[x],s.ttl,s.sc⟩,true)
   | none=>(⟨meR C (cnR C s.r) (cnN C s.r),s.sv,s.ttl,s.sc⟩,false)
def stChain (W:RW) (C:List Int) (s:RT):RT×Bool :=
 match chG W C (cnR C s.r) 0 (cnN C s.r) with
 | some i=>(⟨svR C (cnR C s.r) (i+1),s.sv++[rdN C (svR C (cnR C s.r) i) 1],s.ttl,s.sc⟩,true)
 | none=>(⟨svR C (cnR C s.r) (cnN C s.r),s.sv,s.ttl,s.sc⟩,false)
def stPrefixes (W:RW) (C:List Int) (s:RT):RT :=
 ⟨⟨(amR C (cnR C s.r) (cnN C s.r)).p+(if M.bestTo (arV C (cnR C s.r)) (arL C (cnR C s.r)) W.addr (cnN C s.r)<0 then 0 else (arW C (cnR C s.r) (M.bestTo (arV C (cnR C s.r)) (arL C (cnR C s.r)) W.addr (cnN C s.r)).toNat).toNat),(amR C (cnR C s.r) (cnN C s.r)).b⟩,s.sv,s.ttl,nar (M.depTo (arV C (cnR C s.r)) (arL C (cnR C s.r)) W.addr (cnN C s.r)) s.sc⟩
def stRegions (W:RW) (C:List Int) (s:RT):RT :=
 ⟨⟨(rgR C (cnR C s.r) (cnN C s.r)).p+(rgT W C (cnR C s.r) (cnN C s.r)).toNat,(rgR C (cnR C s.r) (cnN C s.r)).b⟩,s.sv,s.ttl,nar W.dep s.sc⟩
def stSeconds (C:List Int) (s:RT):RT:=⟨num C s.r 3 1 86400,s.sv,if rdN C s.r 3<s.ttl then rdN C s.r 3 else s.ttl,s.sc⟩
def stAlias (W:RW) (C:List Int) (s:RT):RT:=⟨num C s.r 1 0 15,s.sv++(W.al[(rdN C s.r 1).toNat]?).getD [],s.ttl,s.sc⟩
def stepF (W:RW) (C:List Int) (s:RT):RT×Bool :=
 let k:=nxV C s.r
 let t:RT:=⟨nx C s.r,s.sv,s.ttl,s.sc⟩
 if k=123 then (stServers C t,true)
 else if k=119 then stPool W C t
 else if k=102 then stChain W C t
 else if k=109 then (stPrefixes W C t,false)
 else if k=103 then (stRegions W C t,false)
 else if k=116 then (stSeconds C t,false)
 else if k=64 then (stAlias W C t,true)
 else (⟨⟨t.r.p,true⟩,t.sv,t.ttl,t.sc⟩,false)
def runF (W:RW) (C:List Int):Nat->RT->Int×(List Int×Int×Int)
 | 0,_=>(11,[],0,0)
 | f+1,s =>
   if (stepF W C s).1.r.b=true then (10,[],0,0)
   else if (stepF W C s).2=true then (0,(stepF W C s).1.sv,(stepF W C s).1.ttl,(stepF W C s).1.sc)
   else runF W C f (stepF W C s).1
theorem p256_pos (n:Nat):0<p256 n:=by
 induction n with
 | zero=>decide
 | succ n ih=>simp only [p256];omega
end Go.Proofs.YtaebngpoagjafaaGreat
namespace Go.Proofs.YtaebngpoagjafaaGreat
structure MN where
 sv:List Int
 ttl:Int
 sc:Int
def atM (K:List MN) (i:Int):MN:=if i<0 then ⟨[],0,0⟩ else (K[i.toNat]?).getD ⟨[],0,0⟩
def itV (e:EX) (i:Nat):Int:=match e.items[i]? with | some x=>x.pv | none=>0
def itL (e:EX) (i:Nat):Int:=match e.items[i]? with | some x=>x.pl | none=>0
def mbL (W:RW) (l:List IM):List (Int×Int):=(l.filter (fun x=>upW W x.num)).map (fun x=>(x.num,x.wv))
def poolM (W:RW) (l:List IM):Option Int:=if suL (mbL W l)<=0 then none else pkL (mbL W l) (W.draw%suL (mbL W l))
def chainM (W:RW) (l:List IM):Option Int:=(l.find? (fun x=>upW W x.num)).map IM.num
def prefM (W:RW) (e:EX):Int:=if M.bestTo (itV e) (itL e) W.addr e.items.length<0 then e.inner else match e.items[(M.bestTo (itV e) (itL e) W.addr e.items.length).toNat]? with | some x=>x.arm | none=>e.inner
def regM (W:RW) (e:EX):Int:=match e.items.find? (fun x=>x.num==W.reg) with | some x=>x.arm | none=>e.inner
def mnE (W:RW) (K:List MN) (e:EX):MN :=
 if e.kind=123 then ⟨e.items.map IM.num,86400,0⟩
 else if e.kind=64 then ⟨(W.al[e.nv.toNat]?).getD [],86400,0⟩
 else if e.kind=61 then atM K e.inner
 else if e.kind=116 then ⟨(atM K e.inner).sv,if e.nv<(atM K e.inner).ttl then e.nv else (atM K e.inner).ttl,(atM K e.inner).sc⟩
 else if e.kind=119 then (match poolM W e.items with | some x=>⟨[x],86400,0⟩ | none=>atM K e.inner)
 else if e.kind=102 then (match chainM W e.items with | some x=>⟨[x],86400,0⟩ | none=>atM K e.inner)
 else if e.kind=109 then ⟨(atM K (prefM W e)).sv,(atM K (prefM W e)).ttl,nar (M.depTo (itV e) (itL e) W.addr e.items.length) (atM K (prefM W e)).sc⟩
 else ⟨(atM K (regM W e)).sv,(atM K (regM W e)).ttl,nar W.dep (atM K (regM W e)).sc⟩
def mnK (W:RW) (es:List EX):Nat->List MN
 | 0=>[]
 | j+1=>mnK W es j++[match es[j]? with | some e=>mnE W (mnK W es j) e | none=>⟨[],0,0⟩]
def mnN (W:RW) (es:List EX):Nat->MN
 | 0=>⟨[],0,0⟩
 | j+1=>match es[j]? with | some e=>mnE W (mnK W es j) e | none=>⟨[],0,0⟩
theorem mnK_len (W:RW) (es:List EX):∀ j,(mnK W es j).length=j:=by
 intro j
 induction j with
 | zero=>rfl
 | succ j ih=>simp [mnK,ih]
theorem mnK_at (W:RW) (es:List EX):∀ m i,i<m->(mnK W es m)[i]?=some (mnN W es (i+1)):=by
 intro m
 induction m with
 | zero=>intro i h;omega
 | succ m ih =>
   intro i h
   by_cases hi:i<m
   · simp only [mnK]
     rw [List.getElem?_append_left (by rw [mnK_len];exact hi)]
     exact ih i hi
   · have:i=m:=by omega
     subst this
     simp only [mnK]
     rw [List.getElem?_append_right (by rw [mnK_len];exact Nat.le_refl _),mnK_len]
     simp [mnN]
theorem atM_mn (W:RW) (es:List EX) {m i:Nat} (h:i<m):atM (mnK W es m) (i:Int)=mnN W es (i+1):=by
 unfold atM
 rw [if_neg (by omega),Int.toNat_natCast,mnK_at W es m i h];rfl
theorem atL_en (es:List EX) {m i:Nat} (h:i<m):atL (encK es m) (i:Int)=encN es (i+1):=by
 rw [atL_enc,if_neg (by omega),if_pos (by omega),Int.toNat_natCast]
inductive GD (E:List EX):Nat->Prop where
 | servers {j:Nat} {e:EX}:E[j]?=some e->e.kind=123->0<e.items.length->e.items.length<=16->(∀ x∈e.items,0<=x.num/\x.num<=63/\x.arm=-1)->e.inner=-1->GD E j
 | alias {j:Nat} {e:EX}:E[j]?=some e->e.kind=64->0<=e.nv->e.nv<=15->e.items=[]->e.inner=-1->GD E j
 | name {j i:Nat} {e:EX}:E[j]?=some e->e.kind=61->e.items=[]->e.inner=(i:Int)->i<j->GD E i->GD E j
 | ttl {j i:Nat} {e:EX}:E[j]?=some e->e.kind=116->1<=e.nv->e.nv<=86400->e.items=[]->e.inner=(i:Int)->i<j->GD E i->GD E j
 | list {j i:Nat} {e:EX}:E[j]?=some e->(e.kind=119\/e.kind=102)->0<e.items.length->e.items.length<=16->(∀ x∈e.items,0<=x.num/\x.num<=63/\x.arm=-1/\(e.kind=119->1<=x.wv/\x.wv<=1000))->e.inner=(i:Int)->i<j->GD E i->GD E j
 | maps {j i:Nat} {e:EX} {an:Nat->Nat}:E[j]?=some e->(e.kind=109\/e.kind=103)->0<e.items.length->e.items.length<=16->(∀ x∈e.items,(e.kind=109->M.isP x.pv x.pl=true)/\(e.kind=103->0<=x.num/\x.num<=99))->(e.kind=103->∀ (a b:Nat) (x y:IM),e.items[a]?=some x->e.items[b]?=some y->x.num=y.num->a=b)->(e.kind=109->∀ (a b:Nat) (x y:IM),e.items[a]?=some x->e.items[b]?=some y->x.pv=y.pv->x.pl=y.pl->a=b) ->
     (∀ (k:Nat) (x:IM),e.items[k]?=some x->x.arm=(an k:Int)/\an k<j)->(∀ k,k<e.items.length->GD E (an k))->e.inner=(i:Int)->i<j->GD E i->GD E j
/-! Bytes that lie in code. -/
def Sits (C:List Int) (p:Nat) (X:List Int):Prop:=∀ (i:Nat) (x:Int),X[i]?=some x->C[p+i]?=some x
theorem Sits.left {C:List Int} {p:Nat} {X Y:List Int} (h:Sits C p (X++Y)):Sits C p X:=fun i x hx=>h i x (by rw [List.getElem?_append_left (List.getElem?_eq_some_iff.1 hx).1];exact hx)
theorem Sits.right {C:List Int} {p:Nat} {X Y:List Int} (h:Sits C p (X++Y)):Sits C (p+X.length) Y:=fun i x hx=>by
 have:=h (X.length+i) x (by rw [List.getElem?_append_right (by omega),Nat.add_sub_cancel_left];exact hx)
 rw [Nat.add_assoc];exact this
theorem Sits.lt {C:List Int} {p i:Nat} {X:List Int} (h:Sits C p X) (hi:i<X.length):p+i<C.length :=
 (List.getElem?_eq_some_iff.1 (h i X[i] (List.getElem?_eq_getElem hi))).1
def vL (X:List Int):Nat->Int
 | 0=>0
 | i+1=>vL X i+(X[i]?).getD 0*p256 i
theorem rd_list {C:List Int} {p:Nat} {X:List Int} (b:Bool) (h:Sits C p X):∀ i,i<=X.length->rdAt C ⟨p,b⟩ i=⟨p+i,b⟩/\rdN C ⟨p,b⟩ i=vL X i:=by
 intro i
 induction i with
 | zero=>intro _;exact ⟨rfl,rfl⟩
 | succ i ih =>
   intro hi
   obtain ⟨h1,h2⟩:=ih (by omega)
   have hlt:=h.lt (i:=i) (by omega)
   have hv:=h i X[i] (List.getElem?_eq_getElem (by omega))
   constructor
   · simp only [rdAt,h1,nx]
     rw [if_pos hlt];rfl
   · simp only [rdN,vL,h1,h2,nxV,hv]
     rw [List.getElem?_eq_getElem (by omega)]
theorem rd_num {C:List Int} {p k:Nat} {n:Int} (b:Bool) (hk:k<=4) (h:Sits C p (numB n k)) (h0:0<=n) (h1:n<p256 k):rdAt C ⟨p,b⟩ k=⟨p+k,b⟩/\rdN C ⟨p,b⟩ k=n:=by
 have h2:=rd_list b h k (by rw [numB_len];exact Nat.le_refl _)
 refine ⟨h2.1,h2.2.trans ?_⟩
 have hk':k=0\/k=1\/k=2\/k=3\/k=4:=by omega
 rcases hk' with rfl | rfl | rfl | rfl | rfl
 all_goals simp [numB,vL,p256] at h1 ⊢
 all_goals omega
theorem num_ok {C:List Int} {p k:Nat} {n lo hi:Int} (b:Bool) (hk:k<=4) (h:Sits C p (numB n k)) (h0:0<=n) (h1:n<p256 k) (h2:lo<=n) (h3:n<=hi):num C ⟨p,b⟩ k lo hi=⟨p+k,b⟩:=by
 obtain ⟨h4,h5⟩:=rd_num b hk h h0 h1
 unfold num
 rw [h4,h5,if_neg (by omega)]
theorem p256_1:p256 1=256:=by decide
theorem p256_2:p256 2=65536:=by decide
theorem p256_3:p256 3=16777216:=by decide
theorem p256_4:p256 4=4294967296:=by decide
theorem headL_pre (K:List (List Int)) (e:EX):∀ m i,i<=m->∃ T,headL K e m=headL K e i++T:=by
 intro m
 induction m with
 | zero => intro i h; have : i = 0 := by omega
           subst this;exact ⟨[],by simp⟩
 | succ m ih =>
   intro i h
   by_cases h1:i<=m
   · obtain ⟨T,hT⟩:=ih i h1
     simp only [headL]
     exact ⟨_,by rw [hT,List.append_assoc]⟩
   · have:i=m+1:=by omega
     subst this;exact ⟨[],by simp⟩
theorem withinL_pre (K:List (List Int)) (e:EX):∀ m i,i<=m->∃ T,withinL K e m=withinL K e i++T:=by
 intro m
 induction m with
 | zero => intro i h; have : i = 0 := by omega
           subst this;exact ⟨[],by simp⟩
 | succ m ih =>
   intro i h
   by_cases h1:i<=m
   · obtain ⟨T,hT⟩:=ih i h1
     simp only [withinL]
     exact ⟨_,by rw [hT,List.append_assoc]⟩
   · have:i=m+1:=by omega
     subst this;exact ⟨[],by simp⟩
theorem item_sits {C:List Int} {p:Nat} {K:List (List Int)} {e:EX} (h:Sits C p (headL K e e.items.length)) {i:Nat} {x:IM} (hx:e.items[i]?=some x):Sits C (p+(headL K e i).length) (itemB e.kind x (withinL K e i).length):=by
 obtain ⟨T,hT⟩:=headL_pre K e e.items.length (i+1) (List.getElem?_eq_some_iff.1 hx).1
 rw [hT] at h
 have h2:=h.left
 simp only [headL,hx] at h2
 exact h2.right
theorem expr_sits {C:List Int} {p:Nat} {K:List (List Int)} {e:EX} (h:Sits C p (headL K e e.items.length)):Sits C p (exprB e):=by
 obtain ⟨T,hT⟩:=headL_pre K e e.items.length 0 (Nat.zero_le _)
 rw [hT] at h
 exact h.left
theorem arm_sits {C:List Int} {p:Nat} {K:List (List Int)} {e:EX} (h:Sits C p (withinL K e e.items.length)) {i:Nat} {x:IM} (hx:e.items[i]?=some x):Sits C (p+(withinL K e i).length) (atL K x.arm):=by
 obtain ⟨T,hT⟩:=withinL_pre K e e.items.length (i+1) (List.getElem?_eq_some_iff.1 hx).1
 rw [hT] at h
 have h2:=h.left
 simp only [withinL,hx] at h2
 exact h2.right
theorem inner_sits {C:List Int} {p:Nat} {K:List (List Int)} {e:EX} (h:Sits C p (withinL K e e.items.length)):Sits C p (atL K e.inner):=by
 obtain ⟨T,hT⟩:=withinL_pre K e e.items.length 0 (Nat.zero_le _)
 rw [hT] at h
 exact h.left
theorem hd_two {C:List Int} {p:Nat} {e:EX} (hk:e.kind=123\/e.kind=119\/e.kind=102\/e.kind=109\/e.kind=103) (h0:0<e.items.length) (h1:e.items.length<=16) (h:Sits C p (exprB e)) :
   nxV C ⟨p,false⟩=e.kind/\nx C ⟨p,false⟩=⟨p+1,false⟩/\cnR C ⟨p+1,false⟩=⟨p+2,false⟩/\cnN C ⟨p+1,false⟩=e.items.length/\(exprB e).length=2:=by
 have he:exprB e=numB e.kind 1++numB (e.items.length:Int) 1:=by
   unfold exprB
   rw [if_neg (by omega),if_neg (by omega)]
 rw [he] at h ⊢
 have h2:=h.left
 have h3:=h.right
 rw [numB_len] at h3
 have a1:=rd_num (b:=false) (by decide) h2 (by omega) (by rw [p256_1];omega)
 have a2:=rd_num (b:=false) (by decide) h3 (by omega) (by rw [p256_1];omega)
 have a3:=num_ok (b:=false) (lo:=1) (hi:=16) (by decide) h3 (by omega) (by rw [p256_1];omega) (by omega) (by omega)
 refine ⟨?_,?_,a3,?_,by simp [numB_len]⟩
 · have:=a1.2
   simpa [rdN,rdAt,p256] using this
 · exact a1.1
 · unfold cnN
   rw [a2.2];omega
theorem bestTo_congr {V L V' L':Nat->Int} {a:Int}:∀ n,(∀ i,i<n->V i=V' i/\L i=L' i)->M.bestTo V L a n=M.bestTo V' L' a n/\M.bitsTo V L a n=M.bitsTo V' L' a n/\M.depTo V L a n=M.depTo V' L' a n:=by
 intro n
 induction n with
 | zero=>intro _;exact ⟨rfl,rfl,rfl⟩
 | succ n ih =>
   intro h
   obtain ⟨h1,h2,h3⟩:=ih (fun i hi=>h i (by omega))
   obtain ⟨h4,h5⟩:=h n (by omega)
   simp only [M.bestTo,M.bitsTo,M.depTo,M.need,h1,h2,h3,h4,h5]
   exact ⟨trivial,trivial,rfl⟩
theorem best_lt {V L:Nat->Int} {a:Int}:∀ n,M.bestTo V L a n<n:=by
 intro n
 induction n with
 | zero=>simp [M.bestTo]
 | succ n ih=>simp only [M.bestTo];split<;>omega
end Go.Proofs.YtaebngpoagjafaaGreat
