/-
  OUR OWN.
-/
import Derived.Test.YtaebngpoagjafaaGreatU28
set_option maxRecDepth 100000
namespace Go.Proofs.YtaebngpoagjafaaGreat
open Go.RowKit
def EVw (w:World) (eo:Option Addr) (es:List (EX×Value)):Prop:=∀ i x,es[i]?=some x->∃ g vo vm vc,eo=some ⟨g,0,none⟩/\g<w.heap.size/\w.cell? ⟨g,i*7,none⟩=some (.int .u8 x.1.kind)/\w.cell? ⟨g,i*7+1,none⟩=some (.int .i64 x.1.at_)/\w.cell? ⟨g,i*7+2,none⟩=some (.int .i64 x.1.depth)/\w.cell? ⟨g,i*7+3,none⟩=some (.int .i64 x.1.nv)/\w.cell? ⟨g,i*7+4,none⟩=some (.int .i64 x.1.na)/\w.cell? ⟨g,i*7+5,none⟩=some (.slice vo vm vc)/\w.cell? ⟨g,i*7+6,none⟩=some (.int .i64 x.1.inner)/\IV w (.slice vo vm vc) x.1.items/\(∀ q,(Value.slice vo vm vc).ownBlock=some q->q<w.heap.size)
theorem EVw.below {w w':World} {eo:Option Addr} {es:List (EX×Value)} (h:EVw w eo es) (hb:Below w.heap.size w w'):EVw w' eo es:=fun i x hx=>by
 obtain ⟨g,vo,vm,vc,h1,h2,r0,r1,r2,r3,r4,r5,r6,r7,r8⟩:=h i x hx
 have hc:∀ q,w'.cell? ⟨g,q,none⟩=w.cell? ⟨g,q,none⟩:=fun q=>hb.cell (p:=⟨g,q,none⟩) h2
 exact ⟨g,vo,vm,vc,h1,Nat.lt_of_lt_of_le h2 hb.size,by rw [hc];exact r0,by rw [hc];exact r1,by rw [hc];exact r2,by rw [hc];exact r3,by rw [hc];exact r4,by rw [hc];exact r5,by rw [hc];exact r6,r7.of_kept (fun q hq=>hb.block q (r8 q hq)),fun q hq=>Nat.lt_of_lt_of_le (r8 q hq) hb.size⟩
structure SHP (e:EX):Prop where
 k0:0<=e.kind
 k1:e.kind<256
 n0:0<=e.nv
 n1:e.nv<=4294967296
 il:e.items.length<=100000
 it:∀ x∈e.items,0<=x.num/\x.num<=4294967296/\0<=x.pv/\x.pv<=4294967296/\0<=x.pl/\x.pl<=4294967296/\0<=x.wv/\x.wv<=4294967296
def EncTo (w:World) (X:List Int) (r:Ending) (w':World):Prop:=Below w.heap.size w w'/\∃ o k,r=.returned (.slice o X.length k)/\w'.ownsRow w.heap.size 5 1 (.slice o X.length k) X.length (X.map (Value.int .u8))
theorem owns_mono {w:World} {base base' e size:Nat} {v:Value} {n:Nat} {xs:List Value} (h:w.ownsRow base e size v n xs) (hb:base'<=base):w.ownsRow base' e size v n xs:=by
 refine ⟨h.1,?_⟩
 rcases h.2 with h0 | ⟨g,cap,cur,h1,h2,h3⟩
 · exact .inl h0
 · exact .inr ⟨g,cap,cur,h1,by omega,h3⟩
theorem one_u8 (X:List Int):∀ u∈X.map (Value.int .u8),u.oneCell'=true:=fun u hu=>by
 simp only [List.mem_map] at hu
 obtain ⟨x,_,rfl⟩:=hu
 rfl
theorem ev_len {w:World} {v:Value} {l:List IM} {vo:Option Addr} {vm vc:Nat} (h:IV w v l) (hv:v=.slice vo vm vc):vm=l.length:=by
 rcases h with ⟨h1,h2⟩ | ⟨g,cap,h1,_⟩
 · rw [hv] at h1;cases h1;rw [h2];rfl
 · rw [hv] at h1;cases h1;rfl
attribute [local go_sem ↓] Go.wp_at_zero Go.wp_at_succ
set_option maxHeartbeats 3200000 in
theorem encode_any (es:List (EX×Value)) (eo:Option Addr) (ec:Nat) (hec:es.length<=ec) (hel:es.length<=100000) (hsh:∀ p∈es,SHP p.1):∀ n,n<=es.length->szR (es.map Prod.fst) n<=1000->∀ (ao:Option Addr) (c:Nat) (w:World),(0<n->ao=eo/\c=ec)->EVw w eo es ->
   Calls Tryz.prog 62 #[.slice ao n c] w (EncTo w (encN (es.map Prod.fst) n)):=by
 obtain ⟨i0,hi0,hz0,hz1,hz2⟩:=info_parts Tryz.infoByte
 intro n
 induction n using Nat.strongRecOn with
 | ind n ih =>
   intro hn hsz ao c w hao hev
   cases n with
   | zero =>
     clear ih hao
     go_enter Tryz.func62,Tryz.ntmps62
     go_wp2_with fail
     go_ret
     exact ⟨Below.refl _ _,none,0,rfl,World.ownsRow_nil _ _ _ _⟩
   | succ j =>
     obtain ⟨rfl,rfl⟩:=hao (Nat.succ_pos j)
     obtain ⟨xq,hxq⟩:∃ x,es[j]?=some x:=⟨es[j],List.getElem?_eq_getElem (by omega)⟩
     have hex:(es.map Prod.fst)[j]?=some xq.1:=by rw [List.getElem?_map,hxq];rfl
     have hshp:=hsh xq (List.mem_of_getElem? hxq)
     obtain ⟨z1,z2,z3,z4⟩:=sz_parts hex hsz
     have hle:=enc_le _ _ hsz
     -- another expression's code
     have HENC:Hid (∀ i wz,atF (szK (es.map Prod.fst) j) i<=1000->EVw wz ao es->Calls Tryz.prog 107 #[.slice ao j c,.int .i64 i] wz fun r w'=>w'=wz/\∃ bo m d,r=.returned (.slice bo m d)/\Calls Tryz.prog 62 #[.slice bo m d] wz (EncTo wz (atL (encK (es.map Prod.fst) j) i))):=fun i wz hi hz=>by
       refine (upTo_any ao j c i wz (by omega) (by omega) (fun _=>by obtain ⟨g,_,_,_,h1,_⟩:=hz j xq hxq;exact ⟨g,h1⟩)).mono ?_
       rintro r w' ⟨rfl,h1⟩
       refine ⟨rfl,?_⟩
       rcases h1 with ⟨h1,rfl⟩ | ⟨k,rfl,h1,rfl⟩
       · refine ⟨none,0,0,rfl,?_⟩
         have h2:atL (encK (es.map Prod.fst) j) i=encN (es.map Prod.fst) 0:=by
           rw [atL_enc]
           split
           · rfl
           · rw [if_neg (by omega)];rfl
         rw [h2]
         exact ih 0 (by omega) (by omega) (by simp [szR]) none 0 _ (fun h=>by omega) hz
       · refine ⟨ao,k+1,c,rfl,?_⟩
         have h2:atL (encK (es.map Prod.fst) j) (k:Int)=encN (es.map Prod.fst) (k+1):=by
           rw [atL_enc,if_neg (by omega),if_pos (by omega),Int.toNat_natCast]
         rw [h2]
         rw [atF_sz,if_neg (by omega),if_pos (by omega),Int.toNat_natCast] at hi
         exact ih (k+1) (by omega) (by omega) hi ao c _ (fun _=>⟨rfl,rfl⟩) hz
     have HLEN:Hid ((encN (es.map Prod.fst) (j+1)).length<=7000):=by show _<=_;omega
     have HRES:Hid (encN (es.map Prod.fst) (j+1)=encE (encK (es.map Prod.fst) j) xq.1):=by show _=_;simp only [encN,hex]
     generalize encN (es.map Prod.fst) (j+1)=X at *
     have HEV:Hid (EVw w ao es):=hev
     obtain ⟨g,vo,vm,vc,hg,hgw,r0,r1,r2,r3,r4,r5,r6,hiv,hivg⟩:=hev j xq hxq
     obtain ⟨e,xv⟩:=xq
     simp only at r0 r1 r2 r3 r4 r5 r6 hiv hshp HRES z1 z2 z3 z4
     have hvm:=ev_len hiv rfl
     subst hvm
     subst hg
     generalize hKe:encK (es.map Prod.fst) j=K at *
     have HZ3:Hid (∀ (i:Nat) (x:IM),e.items[i]?=some x->atF (szK (es.map Prod.fst) j) x.arm<=1000):=z3
     have hjc:(j:Int)<=(c:Int):=by omega
     have hj0:(0:Int)<=(j:Int):=by omega
     have hjs:(j:Int)+1-1=(j:Int):=by omega
     have HIV:Hid (IV w (.slice vo e.items.length vc) e.items):=hiv
     have HSH:Hid (SHP e):=hshp
     have HB0:Hid (Below w.heap.size w (w.alloc (.cells #[.int .u8 e.kind,.int .i64 e.at_,.int .i64 e.depth,.int .i64 e.nv,.int .i64 e.na,.slice vo e.items.length vc,.int .i64 e.inner] 114))):=(Below.refl _ _).alloc (Nat.le_refl _) _
     have HX0:Hid ((w.alloc (.cells #[.int .u8 e.kind,.int .i64 e.at_,.int .i64 e.depth,.int .i64 e.nv,.int .i64 e.na,.slice vo e.items.length vc,.int .i64 e.inner] 114)).heap[w.heap.size]?=some (.cells #[.int .u8 e.kind,.int .i64 e.at_,.int .i64 e.depth,.int .i64 e.nv,.int .i64 e.na,.slice vo e.items.length vc,.int .i64 e.inner] 114 (0,0))):=heap_alloc_new w _
     clear ih hex hxq hsz z1 z3 hle hiv hshp hKe hsh
     go_enter Tryz.func62,Tryz.ntmps62
     go_wp2_with fail
     refine (HENC.out e.inner _ z2 (HEV.out.below HB0.out)).mono ?_
     rintro r w' ⟨hw',bo,m,d,rfl,hcall⟩
     subst w'
     have HCALL:=hcall
     clear hcall
     go_wp2_with fail
     refine HCALL.mono ?_
     rintro r w1 ⟨hb1,wo,wk,rfl,hrow1⟩
     have HB1:Hid (Below w.heap.size w w1):=HB0.out.trans (hb1.mono (by simp))
     have HX1:Hid (w1.heap[w.heap.size]?=some (.cells #[.int .u8 e.kind,.int .i64 e.at_,.int .i64 e.depth,.int .i64 e.nv,.int .i64 e.na,.slice vo e.items.length vc,.int .i64 e.inner] 114 (0,0))):=by show _=_;rw [hb1.block _ (by simp)];exact HX0.out
     have HR1:Hid (w1.ownsRow w.heap.size 5 1 (.slice wo (atL K e.inner).length wk) (atL K e.inner).length ((atL K e.inner).map (Value.int .u8))):=owns_mono hrow1 (by simp)
     have q0:w1.cell? ⟨w.heap.size,0,none⟩=some (.int .u8 e.kind):=by rw [cell_of_row w1 _ _ _ _ _ HX1.out];rfl
     clear hb1 hrow1 HCALL HB0 HX0 r0 r1 r2 r3 r4 r5 r6 hev
     cases ek:(e.kind==61) with
     | true =>
       have HE:Hid (X=atL K e.inner):=by show _=_;rw [HRES.out];unfold encE;rw [if_pos (by simpa using ek)]
       go_wp2_with fail
       go_ret
       exact ⟨HB1.out,wo,wk,by rw [HE.out];rfl,by rw [HE.out];exact HR1.out⟩
     | false =>
       have HE:Hid (X=headL K e e.items.length++withinL K e e.items.length):=by show _=_;rw [HRES.out];unfold encE;rw [if_neg (by simpa using ek)]
       have HLT:Hid ((headL K e e.items.length).length+(withinL K e e.items.length).length<=7000):=by show _<=_;rw [<- List.length_append,<- HE.out];exact HLEN.out
       have hil:=z4 (by simpa using ek)
       have HWM:Hid (WM (w1.alloc (.cells #[.slice none 0 0] 170)) w.heap.size w1.heap.size (.slice none 0 0) []):=⟨heap_alloc_new _ _,World.ownsRow_nil _ _ _ _,HB1.out.size⟩
       have HX2:Hid ((w1.alloc (.cells #[.slice none 0 0] 170)).heap[w.heap.size]?=some (.cells #[.int .u8 e.kind,.int .i64 e.at_,.int .i64 e.depth,.int .i64 e.nv,.int .i64 e.na,.slice vo e.items.length vc,.int .i64 e.inner] 114 (0,0))):=by show _=_;rw [Below.heap_alloc _ _ _ (lt_of_block HX1.out)];exact HX1.out
       have p0:(w1.alloc (.cells #[.slice none 0 0] 170)).cell? ⟨w.heap.size,0,none⟩=some (.int .u8 e.kind):=by rw [cell_of_row _ _ _ _ _ _ HX2.out];rfl
       have p1:(w1.alloc (.cells #[.slice none 0 0] 170)).cell? ⟨w.heap.size,1,none⟩=some (.int .i64 e.at_):=by rw [cell_of_row _ _ _ _ _ _ HX2.out];rfl
       have p2:(w1.alloc (.cells #[.slice none 0 0] 170)).cell? ⟨w.heap.size,2,none⟩=some (.int .i64 e.depth):=by rw [cell_of_row _ _ _ _ _ _ HX2.out];rfl
       have p3:(w1.alloc (.cells #[.slice none 0 0] 170)).cell? ⟨w.heap.size,3,none⟩=some (.int .i64 e.nv):=by rw [cell_of_row _ _ _ _ _ _ HX2.out];rfl
       have p4:(w1.alloc (.cells #[.slice none 0 0] 170)).cell? ⟨w.heap.size,4,none⟩=some (.int .i64 e.na):=by rw [cell_of_row _ _ _ _ _ _ HX2.out];rfl
       have p5:(w1.alloc (.cells #[.slice none 0 0] 170)).cell? ⟨w.heap.size,5,none⟩=some (.slice vo e.items.length vc):=by rw [cell_of_row _ _ _ _ _ _ HX2.out];rfl
       have p6:(w1.alloc (.cells #[.slice none 0 0] 170)).cell? ⟨w.heap.size,6,none⟩=some (.int .i64 e.inner):=by rw [cell_of_row _ _ _ _ _ _ HX2.out];rfl
       go_wp2_with fail
       refine (wexpr_any w.heap.size w1.heap.size e vo vc _ [] _ HSH.out.k0 HSH.out.k1 HSH.out.n0 HSH.out.n1 HSH.out.il (by simp) HWM.out).mono ?_
       rintro r w3 ⟨rfl,v3,hm3,hv3⟩
       have hlt1:w.heap.size<w1.heap.size:=lt_of_block HX1.out
       have HM3:Hid (WM w3 w.heap.size w1.heap.size v3 (headL K e 0)):=by show WM _ _ _ _ _;simpa [headL] using hm3
       have HK3:Hid (∀ b,b<w1.heap.size->w3.heap[b]?=w1.heap[b]?/\v3.ownBlock≠some b):=fun b hb=>by
         have h1:=hv3.kept b (by simp;omega) (by omega) (by simp [Value.ownBlock])
         exact ⟨h1.1.trans (Below.heap_alloc _ _ _ hb),h1.2⟩
       have HB3:Hid (Below w.heap.size w w3):=(HB1.out.alloc HB1.out.size _).trans (hv3.below HWM.out)
       have HX3:Hid (w3.heap[w.heap.size]?=some (.cells #[.int .u8 e.kind,.int .i64 e.at_,.int .i64 e.depth,.int .i64 e.nv,.int .i64 e.na,.slice vo e.items.length vc,.int .i64 e.inner] 114 (0,0))):=by show _=_;rw [(HK3.out _ hlt1).1];exact HX1.out
       have HR3:Hid (w3.ownsRow w.heap.size 5 1 (.slice wo (atL K e.inner).length wk) (atL K e.inner).length ((atL K e.inner).map (Value.int .u8))):=owns_of_block HR1.out (fun b hb=>(HK3.out b (HR1.out.lt b hb).2).1)
       have HD3:Hid (∀ b,(Value.slice wo (atL K e.inner).length wk).ownBlock=some b->v3.ownBlock≠some b):=fun b hb=>(HK3.out b (HR1.out.lt b hb).2).2
       have s5:w3.cell? ⟨w.heap.size,5,none⟩=some (.slice vo e.items.length vc):=by rw [cell_of_row _ _ _ _ _ _ HX3.out];rfl
       clear hm3 hv3 p0 p1 p2 p3 p4 p5 p6 HX2 HWM q0
       go_wp2_with fail
       go_loopg [5,39] e.items.length (fun q a y wr=>∃ (i:Nat) (ao:Option Addr) (ac:Nat) (v':Value),q+i=e.items.length/\a=.slice ao (withinL K e i).length ac/\y=.int .i64 i/\WM wr w.heap.size w1.heap.size v' (headL K e i)/\wr.ownsRow w.heap.size 5 1 (.slice ao (withinL K e i).length ac) (withinL K e i).length ((withinL K e i).map (Value.int .u8))/\(∀ b,(Value.slice ao (withinL K e i).length ac).ownBlock=some b->v'.ownBlock≠some b)/\Below w.heap.size w wr/\wr.heap[w.heap.size]?=some (.cells #[.int .u8 e.kind,.int .i64 e.at_,.int .i64 e.depth,.int .i64 e.nv,.int .i64 e.na,.slice vo e.items.length vc,.int .i64 e.inner] 114 (0,0)))
       case atStart=>exact ⟨0,wo,wk,v3,by omega,rfl,rfl,HM3.out,HR3.out,HD3.out,HB3.out,HX3.out⟩
       case round =>
         obtain ⟨i,ao,ac,v',hq,rfl,rfl,hm,hrow,hdis,hbel,hxe⟩:=hrel
         have HM:Hid (WM wr w.heap.size w1.heap.size v' (headL K e i)):=hm
         have HR:Hid (wr.ownsRow w.heap.size 5 1 (.slice ao (withinL K e i).length ac) (withinL K e i).length ((withinL K e i).map (Value.int .u8))):=hrow
         have HD:Hid (∀ b,(Value.slice ao (withinL K e i).length ac).ownBlock=some b->v'.ownBlock≠some b):=hdis
         have HB:Hid (Below w.heap.size w wr):=hbel
         have HXE:Hid (wr.heap[w.heap.size]?=some (.cells #[.int .u8 e.kind,.int .i64 e.at_,.int .i64 e.depth,.int .i64 e.nv,.int .i64 e.na,.slice vo e.items.length vc,.int .i64 e.inner] 114 (0,0))):=hxe
         have hlw:(withinL K e i).length<=7000:=by have:=withinL_le K e e.items.length i (by omega);have:=HLT.out;omega
         have hlh:(headL K e i).length<=7000:=by have:=headL_le K e e.items.length i (by omega);have:=HLT.out;omega
         have HNB:Hid ((Value.slice ao (withinL K e i).length ac).ownBlock≠some w1.heap.size):=owns_ne hrow hm.blk (by decide)
         clear hm hrow hdis hbel hxe
         by_cases hlt:i<e.items.length
         · obtain ⟨x,hx⟩:∃ x,e.items[i]?=some x:=⟨e.items[i],List.getElem?_eq_getElem hlt⟩
           have hi0':(0:Int)<=(i:Int):=by omega
           have hi1':(i:Int)<(e.items.length:Int):=by omega
           rcases HIV.out with ⟨_,h2⟩ | ⟨gi,icap,h1,h2,h3⟩
           · rw [h2] at hlt;simp at hlt
           · cases h1
             have hgl:gi<w.heap.size:=hivg gi rfl
             obtain ⟨r0,r1,r2,r3,r4,r5,r6⟩:=h3 i x hx
             have hcg:∀ q,wr.cell? ⟨gi,q,none⟩=w.cell? ⟨gi,q,none⟩:=fun q=>HB.out.cell (p:=⟨gi,q,none⟩) hgl
             rw [<- hcg] at r0 r1 r2 r3 r4 r5 r6
             have hxs:=HSH.out.it x (List.mem_of_getElem? hx)
             obtain ⟨b1,b2,b3,b4,b5,b6,b7,b8⟩:=hxs
             have HZX:Hid (atF (szK (List.map Prod.fst es) j) x.arm<=1000):=HZ3.out i x hx
             have HHD:Hid (headL K e (i+1)=headL K e i++itemB e.kind x (withinL K e i).length):=by show _=_;simp only [headL,hx]
             have HWD:Hid (withinL K e (i+1)=withinL K e i++atL K x.arm):=by show _=_;simp only [withinL,hx]
             have hla:(withinL K e i).length+(atL K x.arm).length<=7000:=by have h9:=withinL_le K e e.items.length (i+1) (by omega);rw [HWD.out,List.length_append] at h9;have:=HLT.out;omega
             have hbx:w.heap.size<wr.heap.size:=lt_of_block HXE.out
             have HXA:Hid ((wr.alloc (.cells #[.int .i64 x.at_,.int .i64 x.num,.int .i64 x.pv,.int .i64 x.pl,.int .i64 x.wv,.int .i64 x.wa,.int .i64 x.arm] 167)).heap[w.heap.size]?=some (.cells #[.int .u8 e.kind,.int .i64 e.at_,.int .i64 e.depth,.int .i64 e.nv,.int .i64 e.na,.slice (some ⟨gi,0,none⟩) e.items.length vc,.int .i64 e.inner] 114 (0,0))):=by show _=_;rw [Below.heap_alloc _ _ _ hbx];exact HXE.out
             have k0:(wr.alloc (.cells #[.int .i64 x.at_,.int .i64 x.num,.int .i64 x.pv,.int .i64 x.pl,.int .i64 x.wv,.int .i64 x.wa,.int .i64 x.arm] 167)).cell? ⟨w.heap.size,0,none⟩=some (.int .u8 e.kind):=by rw [cell_of_row _ _ _ _ _ _ HXA.out];rfl
             have HXX:Hid ((wr.alloc (.cells #[.int .i64 x.at_,.int .i64 x.num,.int .i64 x.pv,.int .i64 x.pl,.int .i64 x.wv,.int .i64 x.wa,.int .i64 x.arm] 167)).heap[wr.heap.size]?=some (.cells #[.int .i64 x.at_,.int .i64 x.num,.int .i64 x.pv,.int .i64 x.pl,.int .i64 x.wv,.int .i64 x.wa,.int .i64 x.arm] 167 (0,0))):=heap_alloc_new wr _
             clear h2 h3 hcg hx
             go_wp2_with fail
             refine (witem_any w.heap.size w1.heap.size e.kind x (withinL K e i).length v' (headL K e i) _ b1 b2 b3 b4 b5 b6 b7 b8 (by omega) (by omega) (by omega) (HM.out.alloc _)).mono ?_
             rintro r w4 ⟨rfl,v4,hm4,hv4⟩
             have HM4:Hid (WM w4 w.heap.size w1.heap.size v4 (headL K e (i+1))):=by show WM _ _ _ _ _;rw [HHD.out];exact hm4
             have HB4:Hid (Below w.heap.size w w4):=(HB.out.alloc HB.out.size _).trans (hv4.below (HM.out.alloc _))
             have HX4:Hid (w4.heap[w.heap.size]?=some (.cells #[.int .u8 e.kind,.int .i64 e.at_,.int .i64 e.depth,.int .i64 e.nv,.int .i64 e.na,.slice (some ⟨gi,0,none⟩) e.items.length vc,.int .i64 e.inner] 114 (0,0))):=by show _=_;rw [(hv4.kept _ (by simp;omega) (by omega) (owns_ne HM.out.row HXE.out (by decide))).1];exact HXA.out
             have HY4:Hid (w4.heap[wr.heap.size]?=some (.cells #[.int .i64 x.at_,.int .i64 x.num,.int .i64 x.pv,.int .i64 x.pl,.int .i64 x.wv,.int .i64 x.wa,.int .i64 x.arm] 167 (0,0))):=by show _=_;rw [(hv4.kept _ (by simp) (by have:=HM.out.lt;omega) (fun e'=>by have:=(HM.out.row.lt _ e').2;omega)).1];exact HXX.out
             have HK4:Hid (∀ b,(Value.slice ao (withinL K e i).length ac).ownBlock=some b->w4.heap[b]?=wr.heap[b]?/\v4.ownBlock≠some b):=fun b hb=>by
               have hbl:=(HR.out.lt b hb).2
               have h1:=hv4.kept b (by simp;omega) (fun e'=>HNB.out (by rw [<- e'];exact hb)) (HD.out b hb)
               exact ⟨h1.1.trans (Below.heap_alloc _ _ _ hbl),h1.2⟩
             have HR4:Hid (w4.ownsRow w.heap.size 5 1 (.slice ao (withinL K e i).length ac) (withinL K e i).length ((withinL K e i).map (Value.int .u8))):=owns_of_block HR.out (fun b hb=>(HK4.out b hb).1)
             have k6:w4.cell? ⟨wr.heap.size,6,none⟩=some (.int .i64 x.arm):=by rw [cell_of_row _ _ _ _ _ _ HY4.out];rfl
             clear hm4 hv4 r0 r1 r2 r3 r4 r5 r6 k0
             go_wp2_with fail
             refine (HENC.out x.arm _ HZX.out (HEV.out.below HB4.out)).mono ?_
             rintro r w' ⟨hw',bo,m,d,rfl,hcall⟩
             subst w'
             have HCALL:=hcall
             clear hcall
             go_wp2_with fail
             refine HCALL.mono ?_
             rintro r w5 ⟨hb5,xo,xk,rfl,hrow5⟩
             have HR5:Hid (w5.ownsRow w4.heap.size 5 1 (.slice xo (atL K x.arm).length xk) (atL K x.arm).length ((atL K x.arm).map (Value.int .u8))):=hrow5
             have HB5:Hid (Below w.heap.size w w5):=HB4.out.trans (hb5.mono HB4.out.size)
             have HX5:Hid (w5.heap[w.heap.size]?=some (.cells #[.int .u8 e.kind,.int .i64 e.at_,.int .i64 e.depth,.int .i64 e.nv,.int .i64 e.na,.slice (some ⟨gi,0,none⟩) e.items.length vc,.int .i64 e.inner] 114 (0,0))):=by show _=_;rw [hb5.block _ (lt_of_block HX4.out)];exact HX4.out
             have HW5:Hid (w5.ownsRow w.heap.size 5 1 (.slice ao (withinL K e i).length ac) (withinL K e i).length ((withinL K e i).map (Value.int .u8))):=owns_of_block HR4.out (fun b hb=>hb5.block b (HR4.out.lt b hb).2)
             have HM5:Hid (WM w5 w.heap.size w1.heap.size v4 (headL K e (i+1))):=⟨by rw [hb5.block _ HM4.out.lt];exact HM4.out.blk,owns_of_block HM4.out.row (fun b hb=>hb5.block b (HM4.out.row.lt b hb).2),HM4.out.hB⟩
             have hs5:w4.heap.size<=w5.heap.size:=hb5.size
             have HV4:Hid (∀ b,v4.ownBlock=some b->b<w4.heap.size):=fun b hb=>(HM4.out.row.lt b hb).2
             clear hb5 hrow5 HCALL
             have hA1:Hid ((withinL K e i).length+(atL K x.arm).length<=maxLen):=by show _<=_;unfold maxLen;omega
             have hA2:Hid (((withinL K e i).length+(atL K x.arm).length)*1<=140737488355328):=by show _<=_;omega
             have hA3:Hid (w.heap.size<=w5.heap.size):=HB5.out.size
             go_wp2_with (at_builtin;refine wpList_append_row _ rfl _ _ 48 rfl w.heap.size 5 i0 _ 1 1 Tryz.underlying48 hi0 hz0 hz1 hz2 rfl (by decide) (.slice ao (withinL K e i).length ac) _ _ rfl HW5.out w4.heap.size (.slice xo (atL K x.arm).length xk) _ _ rfl HR5.out (one_u8 _) hA1.out hA2.out hA3.out w5.heap.size rfl ?_;intro oo cap w6 hown hgrow hat)
             have HM6:Hid (WM w6 w.heap.size w1.heap.size v4 (headL K e (i+1))):=⟨by rw [hgrow.block _ HM5.out.lt (fun e'=>HNB.out e'.symm)];exact HM5.out.blk,owns_of_block HM5.out.row (fun b hb=>hgrow.block b (HM5.out.row.lt b hb).2 (fun e'=>(HK4.out b e'.symm).2 hb)),HM5.out.hB⟩
             have HR6:Hid (w6.ownsRow w.heap.size 5 1 (.slice oo ((withinL K e i).length+(atL K x.arm).length) cap) (withinL K e (i+1)).length ((withinL K e (i+1)).map (Value.int .u8))):=by
               show World.ownsRow _ _ _ _ _ _ _
               rw [HWD.out,List.length_append,List.map_append]
               exact hown
             have HD6:Hid (∀ b,(Value.slice oo ((withinL K e i).length+(atL K x.arm).length) cap).ownBlock=some b->v4.ownBlock≠some b):=fun b hb=>by
               rcases hat with h9 | h9
               · rw [h9] at hb;exact (HK4.out b hb).2
               · rw [h9] at hb
                 intro hb2
                 have:=HV4.out b hb2
                 cases hb
                 omega
             have HB6:Hid (Below w.heap.size w w6):=HB5.out.grown hgrow HB5.out.size (fun b hb=>(HR.out.lt b hb).1)
             have HX6:Hid (w6.heap[w.heap.size]?=some (.cells #[.int .u8 e.kind,.int .i64 e.at_,.int .i64 e.depth,.int .i64 e.nv,.int .i64 e.na,.slice (some ⟨gi,0,none⟩) e.items.length vc,.int .i64 e.inner] 114 (0,0))):=by show _=_;rw [hgrow.block _ (lt_of_block HX5.out) (fun e'=>owns_ne HW5.out HX5.out (by decide) e'.symm)];exact HX5.out
             clear hown hgrow hat
             go_roundg (gk-1)
             case measure=>omega
             case rel =>
               refine ⟨i+1,oo,cap,v4,by omega,by rw [HWD.out,List.length_append],by go_num,HM6.out,?_,?_,HB6.out,HX6.out⟩
               · have h9:=HR6.out;rw [HWD.out,List.length_append] at h9 ⊢;exact h9
               · have h9:=HD6.out;rw [HWD.out,List.length_append];exact h9
         · have hd:¬ ((i:Int)<(e.items.length:Int)):=by omega
           have hie:i=e.items.length:=by omega
           subst hie
           have c0:=HM.out.c0
           have hA1:Hid ((headL K e e.items.length).length+(withinL K e e.items.length).length<=maxLen):=by show _<=_;unfold maxLen;omega
           have hA2:Hid (((headL K e e.items.length).length+(withinL K e e.items.length).length)*1<=140737488355328):=by show _<=_;omega
           have hA3:Hid (w.heap.size<=wr.heap.size):=HB.out.size
           go_wp2_with (at_builtin;refine wpList_append_row _ rfl _ _ 48 rfl w.heap.size 5 i0 _ 1 1 Tryz.underlying48 hi0 hz0 hz1 hz2 rfl (by decide) v' _ _ rfl HM.out.row w.heap.size (.slice ao (withinL K e e.items.length).length ac) _ _ rfl HR.out (one_u8 _) hA1.out hA2.out hA3.out wr.heap.size rfl ?_;intro oo cap w6 hown hgrow hat;have zz:w6.frozen? ⟨w1.heap.size,0,none⟩=false:=(hgrow.frozen_far ⟨w1.heap.size,0,none⟩ HM.out.lt (fun e=>HM.out.ne e.symm)).trans (HM.out.fz 0);have cc:w6.cell? ⟨w1.heap.size,0,none⟩=some v':=(hgrow.cell_far ⟨w1.heap.size,0,none⟩ HM.out.lt (fun e=>HM.out.ne e.symm)).trans HM.out.c0)
           have HM7:=HM.out.push (ys:=withinL K e e.items.length) (n:=(headL K e e.items.length).length+(withinL K e e.items.length).length) (by simp) hgrow (by rw [List.map_append];exact hown)
           have HB7:Below w.heap.size w (w6.setCell ⟨w1.heap.size,0,none⟩ (.slice oo ((headL K e e.items.length).length+(withinL K e e.items.length).length) cap)):=(HB.out.grown hgrow HB.out.size (fun b hb=>(HM.out.row.lt b hb).1)).setCell (by simp only;omega) _
           go_ret
           refine ⟨HB7,oo,cap,by rw [HE.out,List.length_append];rfl,?_⟩
           have h9:=HM7.row
           rw [HE.out]
           rw [List.length_append] at h9 ⊢
           exact h9
end Go.Proofs.YtaebngpoagjafaaGreat
