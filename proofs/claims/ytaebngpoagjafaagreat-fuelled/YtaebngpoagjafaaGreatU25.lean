/-
  OUR OWN.
-/
import Derived.Test.YtaebngpoagjafaaGreatU24
import Derived.Test.YtaebngpoagjafaaGreatU23
import Derived.Test.YtaebngpoagjafaaGreatU21
set_option maxRecDepth 100000
namespace Go.Proofs.YtaebngpoagjafaaGreat
open Go.RowKit
def polN (l:List ByteArray):Nat->ByteArray
 | 0=>ByteArray.empty
 | j+1=>polN l j++(match l[j]? with | some t=>t.extract 0 1 | none=>ByteArray.empty)
def polT (l:List ByteArray):List ByteArray:=l.map (fun t=>t.extract 2 t.size)
theorem polN_size (l:List ByteArray) (h:∀ t∈l,2<=t.size):∀ j,j<=l.length->(polN l j).size=j:=by
 intro j
 induction j with
 | zero=>intro _;rfl
 | succ j ih =>
   intro hj
   have hx:l[j]?=some l[j]:=List.getElem?_eq_getElem (by omega)
   have h2:=h l[j] (List.getElem_mem _)
   simp only [polN,hx]
   rw [ByteArray.size_append,ih (by omega),ext_size _ _ _ (by omega)]
structure PP (w:World) (base PB:Nat) (nm:ByteArray) (tv:Value) (ts:List ByteArray):Prop where
 blk:w.heap[PB]?=some (.cells #[.string nm,tv] 95 (0,0))
 row:w.ownsRow base 9 1 tv ts.length (ts.map Value.string)
 hB:base<=PB
theorem PP.c0 {w:World} {base PB nm tv ts} (h:PP w base PB nm tv ts):w.cell? ⟨PB,0,none⟩=some (.string nm):=by simp [World.cell?,h.blk]
theorem PP.c1 {w:World} {base PB nm tv ts} (h:PP w base PB nm tv ts):w.cell? ⟨PB,1,none⟩=some tv:=by simp [World.cell?,h.blk]
theorem PP.fz {w:World} {base PB nm tv ts} (h:PP w base PB nm tv ts) (j:Nat):w.frozen? ⟨PB,j,none⟩=false:=by simp [World.frozen?,h.blk]
theorem PP.lt {w:World} {base PB nm tv ts} (h:PP w base PB nm tv ts):PB<w.heap.size:=lt_of_block h.blk
theorem blkP0 {w:World} {B:Nat} {a b u:Value} {t:TypeId} (h:w.heap[B]?=some (.cells #[a,b] t (0,0))):(w.setCell ⟨B,0,none⟩ u).heap[B]?=some (.cells #[u,b] t (0,0)):=by
 simp [World.setCell,Array.getElem?_modify,h]
theorem blkP1 {w:World} {B:Nat} {a b u:Value} {t:TypeId} (h:w.heap[B]?=some (.cells #[a,b] t (0,0))):(w.setCell ⟨B,1,none⟩ u).heap[B]?=some (.cells #[a,u] t (0,0)):=by
 simp [World.setCell,Array.getElem?_modify,h]
theorem owns_blk {w w':World} {base e size:Nat} {v:Value} {n:Nat} {xs:List Value} (h:w.ownsRow base e size v n xs) (hk:∀ g,v.ownBlock=some g->w'.heap[g]?=w.heap[g]?):w'.ownsRow base e size v n xs:=by
 refine ⟨h.1,?_⟩
 rcases h.2 with h0 | ⟨g,cap,cur,rfl,h1,h2,h3⟩
 · exact .inl h0
 · exact .inr ⟨g,cap,cur,rfl,h1,(hk g rfl).trans h2,h3⟩
theorem PP.drew {w:World} {base PB nm tv ts} (h:PP w base PB nm tv ts):PP w.drew base PB nm tv ts:=⟨h.blk,h.row,h.hB⟩
theorem PP.setN {w:World} {base PB nm tv ts} (h:PP w base PB nm tv ts) (x:ByteArray):PP (w.setCell ⟨PB,0,none⟩ (.string x)) base PB x tv ts :=
 ⟨blkP0 h.blk,ownsRow_setCell_other h.row (owns_ne h.row h.blk (by decide)) _,h.hB⟩
theorem PP.below {w w':World} {base PB nm tv ts} (h:PP w base PB nm tv ts) (hb:Below w.heap.size w w'):PP w' base PB nm tv ts :=
 ⟨(hb.block PB h.lt).trans h.blk,owns_blk h.row (fun g hg=>hb.block g (h.row.lt g hg).2),h.hB⟩
theorem PP.push {w w4:World} {base PB nm tv ts} {o:Obj} (h:PP w base PB nm tv ts) {n g cap:Nat} {x:ByteArray} (hn:n=ts.length) (hg:((w.alloc o).drew).grownBy w4 tv.ownBlock) (hown:w4.ownsRow base 9 1 (.slice (some ⟨g,0,none⟩) (n+1) cap) (n+1) (ts.map Value.string++[.string x])) :
   PP (w4.setCell ⟨PB,1,none⟩ (.slice (some ⟨g,0,none⟩) (n+1) cap)) base PB nm (.slice (some ⟨g,0,none⟩) (n+1) cap) (ts++[x]):=by
 subst hn
 have hl:PB<(w.alloc o).drew.heap.size:=by have:=h.lt;show PB<(w.alloc o).heap.size;simp;omega
 have hb4:w4.heap[PB]?=some (.cells #[.string nm,tv] 95 (0,0)):=(hg.block PB hl (fun e=>owns_ne h.row h.blk (by decide) e.symm)).trans ((Below.heap_alloc _ _ _ h.lt).trans h.blk)
 refine ⟨blkP1 hb4,?_,h.hB⟩
 rw [List.length_append,List.map_append]
 exact ownsRow_setCell_other hown (owns_ne hown hb4 (by decide)) _
theorem PP.grown {w w9:World} {base PB nm tv ts} (h:PP w base PB nm tv ts) {o:Obj} (hg:((w.alloc o).drew).grownBy w9 tv.ownBlock):w9.cell? ⟨PB,1,none⟩=some tv/\w9.frozen? ⟨PB,1,none⟩=false:=by
 have hl:PB<(w.alloc o).drew.heap.size:=by have:=h.lt;show PB<(w.alloc o).heap.size;simp;omega
 have hb:=(hg.block PB hl (fun e=>owns_ne h.row h.blk (by decide) e.symm)).trans ((Below.heap_alloc _ _ _ h.lt).trans h.blk)
 exact ⟨by simp [World.cell?,hb],by simp [World.frozen?,hb]⟩
attribute [local go_sem ↓] Go.wp_at_zero Go.wp_at_succ
set_option maxHeartbeats 800000 in
theorem policy_any (s:ByteArray) (w:World) (hs:s.size<=2000) (h2:∀ t∈spl (bare s) 59,2<=t.size) :
   Calls Tryz.prog 54 #[.string s] w fun e w'=>Below w.heap.size w w'/\∃ PB tv,e=.returned (.pointer (some ⟨PB,0,none⟩))/\PP w' w.heap.size PB (polN (spl (bare s) 59) (spl (bare s) 59).length) tv (polT (spl (bare s) 59)):=by
 obtain ⟨i0,hi0,hz0,hz1,hz2⟩:=info_parts Tryz.infoStr
 have hbz:(bare s).size<=2000:=by unfold bare;rw [strOfNums_size];exact Nat.le_trans (brL_len s s.size) hs
 go_enter Tryz.func54,Tryz.ntmps54
 go_wp2_with fail
 refine (bare_any s _ hs).mono ?_
 rintro e w1 ⟨hb1,rfl⟩
 have HB1:Hid (Below w.heap.size w w1):=hb1
 clear hb1
 go_wp2_with fail
 refine (split_any (bare s) 59 _ hbz).mono ?_
 rintro e w2 ⟨hb2,v,rfl,hrow⟩
 obtain ⟨g,cap,rfl,hg1,hgl⟩:=str_slice hrow (spl_ne _ _)
 have HB2:Hid (Below w.heap.size w w2):=HB1.out.trans (hb2.mono HB1.out.size)
 have HC:Hid (∀ i x,(spl (bare s) 59)[i]?=some x->w2.cell? ⟨g,i,none⟩=some (.string x)):=fun i x hx=>str_cell hrow hx
 have HZ:Hid (∀ t∈spl (bare s) 59,2<=t.size):=h2
 have HS:Hid (∀ t∈spl (bare s) 59,t.size<=2000):=fun t ht=>Nat.le_trans (spl_size ht) hbz
 have hll:=spl_len (s:=bare s) (c:=59) hbz
 clear hb2 hrow h2
 generalize hle:spl (bare s) 59=l at *
 have HLE:Hid (spl (bare s) 59=l):=hle
 clear hle
 have HNS:Hid (∀ j,j<=l.length->(polN l j).size=j):=polN_size l HZ.out
 have HP0:Hid (PP (w2.alloc (.cells #[.string ByteArray.empty,.slice none 0 0] 95)) w2.heap.size w2.heap.size ByteArray.empty (.slice none 0 0) []):=⟨heap_alloc_new w2 _,⟨rfl,.inl ⟨rfl,rfl⟩⟩,Nat.le_refl _⟩
 have HA0:Hid (Below w2.heap.size w2 (w2.alloc (.cells #[.string ByteArray.empty,.slice none 0 0] 95))):=(Below.refl _ _).alloc (Nat.le_refl _) _
 go_wp2_with fail
 go_loopg [5] l.length (fun n y wr=>∃ (j:Nat) (tv:Value),n+j=l.length/\y=.int .i64 j/\PP wr w2.heap.size w2.heap.size (polN l j) tv (polT (l.take j))/\Below w2.heap.size w2 wr)
 case atStart=>exact ⟨0,.slice none 0 0,by omega,rfl,HP0.out,HA0.out⟩
 case round =>
   obtain ⟨j,tv,hn,rfl,hpp,hbr⟩:=hrel
   have HPP:Hid (PP wr w2.heap.size w2.heap.size (polN l j) tv (polT (l.take j))):=hpp
   have HBR:Hid (Below w2.heap.size w2 wr):=hbr
   clear hpp hbr
   by_cases hlt:j<l.length
   · obtain ⟨x,hx⟩:∃ x,l[j]?=some x:=⟨l[j],List.getElem?_eq_getElem hlt⟩
     have hj0:(0:Int)<=(j:Int):=by omega
     have hj1:(j:Int)<(l.length:Int):=by omega
     have cx:=(HBR.out.cell (p:=⟨g,j,none⟩) hgl).trans (HC.out j x hx)
     have hx2:=HZ.out x (List.mem_of_getElem? hx)
     have hxs:=HS.out x (List.mem_of_getElem? hx)
     have hx2':(2:Int)<=(x.size:Int):=by omega
     have hx3':(x.size:Int)<=2000:=by omega
     have hnz:=HNS.out j (by omega)
     have HN1:Hid (polN l (j+1)=polN l j++x.extract 0 1):=by show _=_;simp only [polN,hx]
     have HT1:Hid (polT (l.take (j+1))=polT (l.take j)++[x.extract 2 x.size]):=by show _=_;rw [List.take_add_one,hx];simp [polT]
     have HTL:Hid (j=(polT (l.take j)).length):=by show _=_;simp [polT];omega
     generalize polN l j=nj at *
     have hez:(x.extract 0 1).size=1:=by rw [ext_size x _ _ (by omega)]
     have q0:=HPP.out.c0
     have q1:=HPP.out.c1
     have qz:=HPP.out.fz
     have hPl:=HPP.out.lt
     have hne:g≠w2.heap.size:=by omega
     have hne2:w2.heap.size≠g:=by omega
     have hcat:=fun w=>run_string_add_sum (P:=Tryz.prog) (w:=w) nj (x.extract 0 1) (by rw [hnz,hez];omega)
     have HX:Hid (l[j]?=some x):=hx
     clear hx
     go_wp2_with fail
     go_region_with (fail)
     all_goals
       have HP5:Hid (PP ((wr.setCell ⟨w2.heap.size,0,none⟩ (.string (nj++x.extract 0 1))).drew) w2.heap.size w2.heap.size (nj++x.extract 0 1) tv (polT (l.take j))):=(HPP.out.setN _).drew
       have HB5:Hid (Below w2.heap.size w2 ((wr.setCell ⟨w2.heap.size,0,none⟩ (.string (nj++x.extract 0 1))).drew)):=(HBR.out.setCell (p:=⟨w2.heap.size,0,none⟩) (Nat.le_refl _) _).drew
       generalize (wr.setCell ⟨w2.heap.size,0,none⟩ (.string (nj++x.extract 0 1))).drew=w5 at *
       clear cx q0 q1 qz hcat hPl
       have cx:=(HB5.out.cell (p:=⟨g,j,none⟩) hgl).trans (HC.out j x HX.out)
       have q1:=HP5.out.c1
       have qz:=HP5.out.fz 1
       have hP5:=HP5.out.lt
       have hg5:g<w5.heap.size:=Nat.lt_of_lt_of_le hgl HB5.out.size
       have HE9:Hid (w5.ownsRow w2.heap.size 9 1 tv j ((polT (l.take j)).map Value.string)):=by show World.ownsRow _ _ _ _ _ _ _;have:=HP5.out.row;rw [<- HTL.out] at this;exact this
       have hA1:Hid (j+1<=maxLen):=by show _<=_;unfold maxLen;omega
       have hA2:Hid ((j+1)*16<=140737488355328):=by show _<=_;omega
       have hA3:Hid (∀ o:Obj,w2.heap.size<=(w5.alloc o).drew.heap.size):=fun o=>by have:=HB5.out.size;show w2.heap.size<=(w5.alloc o).heap.size;simp;omega
       have hone:Hid (∀ u∈[Value.string (x.extract 2 x.size)],u.oneCell'=true):=fun u hu=>by simp at hu;subst hu;rfl
       go_wp2_with fail
       go_region_law ((refine step_append_lies _ (by rfl) _ _ _ (by rfl) w2.heap.size 9 i0 _ 1 16 Tryz.underlying93 hi0 hz0 hz1 hz2 rfl (by decide) tv _ _ (by rfl) ((HE9.out.alloc _).drew) ⟨w5.heap.size,0,none⟩ 1 1 [.string (x.extract 2 x.size)] (by rfl) (by rfl) (World.news_of_block (cs:=#[.string (x.extract 2 x.size)]) (t:=9) (fr:=(0,0)) (heap_alloc_new w5 _)) hone.out (Nat.lt_succ_self 0) hA1.out hA2.out (hA3.out _) (w5.heap.size+1) (by simp) ?_;intro g' cap' w9 hown hgrow hat hlt9;obtain ⟨y1,yz⟩:=HP5.out.grown hgrow))
       all_goals
         have HP9:Hid (PP (w9.setCell ⟨w2.heap.size,1,none⟩ (.slice (some ⟨g',0,none⟩) (j+1) cap')) w2.heap.size w2.heap.size (polN l (j+1)) (.slice (some ⟨g',0,none⟩) (j+1) cap') (polT (l.take (j+1)))):=by
           show PP _ _ _ _ _ _
           rw [HN1.out,HT1.out]
           exact HP5.out.push HTL.out hgrow hown
         have HB9:Hid (Below w2.heap.size w2 (w9.setCell ⟨w2.heap.size,1,none⟩ (.slice (some ⟨g',0,none⟩) (j+1) cap'))):=(((HB5.out.alloc HB5.out.size _).drew).grown hgrow (hA3.out _) (fun k hk=>(HP5.out.row.lt k hk).1)).setCell (p:=⟨w2.heap.size,1,none⟩) (Nat.le_refl _) _
         clear hown hgrow hat
         go_wp2_with fail
         go_roundg (gk-1)
         case measure=>omega
         case rel=>exact ⟨j+1,_,by omega,by go_num,HP9.out,HB9.out⟩
   · have hd:¬ ((j:Int)<(l.length:Int)):=by omega
     have hje:j=l.length:=by omega
     subst hje
     have HBW:Hid (Below w.heap.size w wr):=HB2.out.trans (HBR.out.mono HB2.out.size)
     have HPW:Hid (PP wr w.heap.size w2.heap.size (polN l l.length) tv (polT l)):=by
       have h:=HPP.out
       rw [List.take_length] at h
       exact ⟨h.blk,⟨h.row.1,h.row.2.imp (fun h=>h) (fun ⟨g,cap,cur,a,b,c⟩=>⟨g,cap,cur,a,Nat.le_trans HB2.out.size b,c⟩)⟩,HB2.out.size⟩
     go_wp2_with fail
     go_ret
     exact ⟨HBW.out,_,rfl,tv,by rw [HLE.out];exact HPW.out⟩
end Go.Proofs.YtaebngpoagjafaaGreat
namespace Go.Proofs.YtaebngpoagjafaaGreat
open Go.RowKit
def knK (ns:Nat->Int) (j:Nat):List Int:=(List.range j).map ns
theorem knK_len (ns:Nat->Int) (j:Nat):(knK ns j).length=j:=by simp [knK]
theorem knK_succ (ns:Nat->Int) (j:Nat):knK ns (j+1)=knK ns j++[ns j]:=by simp [knK,List.range_succ]
theorem knK_get (ns:Nat->Int) {i j:Nat} (h:i<j):(knK ns j)[i]?=some (ns i):=by simp [knK,h]
attribute [local go_sem ↓] Go.wp_at_zero Go.wp_at_succ
set_option maxHeartbeats 800000 in
theorem SizeR_no (s:ByteArray) (w:World) (h:(chk s).1≠0) :
   Calls Tryz.prog 32 #[.string s] w fun e w'=>Below w.heap.size w w'/\e=.returned (.tuple #[.int .i64 0,.int .i64 (chk s).1]):=by
 have hd:=fun wz=>Check_any s wz
 generalize chk s=c at *
 obtain ⟨c1,c2⟩:=c
 simp only at h
 have e1:(c1==0)=false:=by simp [h]
 have e2:(c1 != 0)=true:=by simp [h]
 clear h
 go_enter Tryz.func32,Tryz.ntmps32
 go_wp2_with fail
 refine (hd _).mono ?_
 rintro e w1 ⟨hb,rfl⟩
 have HB:Hid (Below w.heap.size w w1):=hb
 clear hb
 go_wp2_with fail
 go_ret2
 exact ⟨HB.out,rfl⟩
set_option maxHeartbeats 800000 in
theorem SizeR_ok (s:ByteArray) (w:World) (ns:Nat->Int) (hs:s.size<=2000) (h:(chk s).1=0) (h2:∀ t∈spl (bare s) 59,2<=t.size)
   (hz:∀ j t,(polT (spl (bare s) 59))[j]?=some t->SZ (polN (spl (bare s) 59) (spl (bare s) 59).length) (knK ns j) t (ns j)) :
   Calls Tryz.prog 32 #[.string s] w fun e w'=>Below w.heap.size w w'/\e=.returned (.tuple #[.int .i64 (ns ((spl (bare s) 59).length-1)),.int .i64 0]):=by
 have hd:=fun wz=>Check_any s wz
 generalize chk s=c at *
 obtain ⟨c1,c2⟩:=c
 simp only at h
 subst h
 have hpl:=fun wz=>policy_any s wz hs h2
 have HPL:Hid (∀ wz:World,Calls Tryz.prog 54 #[.string s] wz fun e w'=>Below wz.heap.size wz w'/\∃ PB tv,e=.returned (.pointer (some ⟨PB,0,none⟩))/\PP w' wz.heap.size PB (polN (spl (bare s) 59) (spl (bare s) 59).length) tv (polT (spl (bare s) 59))):=hpl
 have hbz:(bare s).size<=2000:=by unfold bare;rw [strOfNums_size];exact Nat.le_trans (brL_len s s.size) hs
 have hll:=spl_len (s:=bare s) (c:=59) hbz
 have hne:=spl_ne (bare s) 59
 have hnm:=polN_size (spl (bare s) 59) h2 _ (Nat.le_refl _)
 have HTS:Hid (∀ t∈polT (spl (bare s) 59),t.size<=2000):=fun t ht=>by
   simp only [polT,List.mem_map] at ht
   obtain ⟨x,hx,rfl⟩:=ht
   have:=Nat.le_trans (spl_size hx) hbz
   rw [ext_size x _ _ (Nat.le_refl _)];omega
 have HTL:Hid ((polT (spl (bare s) 59)).length=(spl (bare s) 59).length):=by show _=_;simp [polT]
 have HSZ:Hid (∀ j t,(polT (spl (bare s) 59))[j]?=some t->SZ (polN (spl (bare s) 59) (spl (bare s) 59).length) (knK ns j) t (ns j)):=hz
 clear hpl hz h2
 generalize hle:spl (bare s) 59=l at *
 have HLE:Hid (spl (bare s) 59=l):=hle
 clear hle
 go_enter Tryz.func32,Tryz.ntmps32
 go_wp2_with fail
 refine (hd _).mono ?_
 rintro e w1 ⟨hb,rfl⟩
 have HB:Hid (Below w.heap.size w w1):=hb
 clear hb
 go_wp2_with fail
 refine (HPL.out _).mono ?_
 rintro e w2 ⟨hb2,PB,tv,rfl,hpp⟩
 have HB2:Hid (Below w.heap.size w w2):=HB.out.trans (hb2.mono HB.out.size)
 have HPP:Hid (PP w2 w1.heap.size PB (polN l l.length) tv (polT l)):=hpp
 clear hb2 hpp
 obtain ⟨i0,hi0,hz0,hz1,hz2⟩:=info_parts Tryz.infoInt
 obtain ⟨tg,tc,rfl,htg1,htg2⟩:=str_slice HPP.out.row (by rw [HTL.out];exact hne)
 have HRW:Hid (∀ i t,(polT l)[i]?=some t->w2.cell? ⟨tg,i,none⟩=some (.string t)):=fun i t ht=>str_cell HPP.out.row ht
 have hPBl:=HPP.out.lt
 have hq0:=HPP.out.c0
 have hq1:=HPP.out.c1
 rw [HTL.out] at hq1
 have HBD:Hid (∀ j,j<l.length->0<=ns j/\ns j<=5000):=by
   intro j
   induction j using Nat.strongRecOn with
   | ind j ihj =>
     intro hj
     have hjt:j<(polT l).length:=by rw [HTL.out];exact hj
     have hx:(polT l)[j]?=some (polT l)[j]:=List.getElem?_eq_getElem hjt
     exact (size_any (HSZ.out j _ hx) 0 none 0 (fun k hk=>by
       simp only [knK,List.mem_map,List.mem_range] at hk
       obtain ⟨i,hi,rfl⟩:=hk
       exact ihj i hi (by omega)) (by omega) (by rw [knK_len];omega) (HTS.out _ (List.mem_of_getElem? hx))).2
 clear HPL
 go_wp2_with fail
 go_loopg [7,8] l.length (fun n x y wr=>∃ (j:Nat),n+j=l.length/\y=.int .i64 j/\wr.ownsRow w2.heap.size 3 1 x (knK ns j).length ((knK ns j).map (Value.int .i64))/\Below w2.heap.size w2 wr)
 case atStart=>exact ⟨0,by omega,rfl,⟨rfl,.inl ⟨rfl,rfl⟩⟩,Below.refl _ _⟩
 case round =>
   obtain ⟨j,hn,rfl,hrow,hb⟩:=hrel
   have HR:Hid (wr.ownsRow w2.heap.size 3 1 u7 (knK ns j).length ((knK ns j).map (Value.int .i64))):=hrow
   have HBr:Hid (Below w2.heap.size w2 wr):=hb
   have hbs:=hb.size
   have p1:=(hb.cell (p:=⟨PB,1,none⟩) hPBl).trans hq1
   clear hrow hb
   by_cases hlt:j<l.length
   · have hjt:j<(polT l).length:=by rw [HTL.out];exact hlt
     obtain ⟨t,ht⟩:∃ t,(polT l)[j]?=some t:=⟨(polT l)[j],List.getElem?_eq_getElem hjt⟩
     have hj0:(0:Int)<=(j:Int):=by omega
     have hj1:(j:Int)<(l.length:Int):=by omega
     have ct:=(HBr.out.cell (p:=⟨tg,j,none⟩) htg2).trans (HRW.out j t ht)
     obtain ⟨ko,kc,hu7⟩:∃ ko kc,u7=.slice ko (knK ns j).length kc:=by
       rcases HR.out.2 with ⟨h1,h2⟩ | ⟨g,cap,cur,h1,_⟩
       · exact ⟨none,0,by rw [h1,h2]⟩
       · exact ⟨_,cap,h1⟩
     subst hu7
     have HKV:Hid (KV wr PB (polN l l.length) ko (knK ns j)):=⟨Nat.lt_of_lt_of_le hPBl HBr.out.size,(HBr.out.cell (p:=⟨PB,0,none⟩) hPBl).trans hq0,fun i v hv=>by
       rcases HR.out.2 with ⟨h1,h2⟩ | ⟨g,cap,cur,h1,h2,h3,_⟩
       · have:=(List.getElem?_eq_some_iff.1 hv).1;omega
       · cases h1
         have hil:i<(knK ns j).length:=(List.getElem?_eq_some_iff.1 hv).1
         refine ⟨g,rfl,lt_of_block h3,?_⟩
         rw [World.ownsRow.cellAt HR.out i (by omega)]
         simp [hv]⟩
     have hsz:=size_any (HSZ.out j t ht) PB ko kc (fun k hk=>by
       simp only [knK,List.mem_map,List.mem_range] at hk
       obtain ⟨i,hi,rfl⟩:=hk
       exact HBD.out i (by omega)) (by omega) (by rw [knK_len];omega) (HTS.out _ (List.mem_of_getElem? ht))
     have HCL:Hid (SzC PB (polN l l.length) ko kc (knK ns j) t (ns j)):=hsz.1
     have HE:Hid (knK ns (j+1)=knK ns j++[ns j]):=knK_succ ns j
     have HKL:Hid ((knK ns j).length=j):=knK_len ns j
     clear hsz ht
     go_wp2_with fail
     refine (HCL.out _ HKV.out).mono ?_
     rintro e w4 ⟨hb4,rfl⟩
     have HB4:Hid (Below w2.heap.size w2 w4):=HBr.out.trans (hb4.mono HBr.out.size)
     have HR4:Hid (w4.ownsRow w2.heap.size 3 1 (.slice ko (knK ns j).length kc) (knK ns j).length ((knK ns j).map (Value.int .i64))):=owns_blk HR.out (fun g hg=>hb4.block g (HR.out.lt g hg).2)
     have hbs4:w2.heap.size<=w4.heap.size:=HB4.out.size
     clear hb4
     generalize hnj:ns j=nj at *
     clear hnj
     have hA1:Hid ((knK ns j).length+1<=maxLen):=by show _<=_;have:=HKL.out;unfold maxLen;omega
     have hA2:Hid (((knK ns j).length+1)*8<=140737488355328):=by show _<=_;have:=HKL.out;omega
     have hA3:Hid (w2.heap.size<=(w4.alloc (.cells #[.int .i64 nj] 3)).heap.size):=by show _<=_;simp;omega
     have hone:Hid (∀ u∈[Value.int .i64 nj],u.oneCell'=true):=fun u hu=>by simp at hu;subst hu;rfl
     go_wp2_with (at_builtin;refine wpList_append_lies _ rfl _ _ 25 rfl w2.heap.size 3 i0 _ 1 8 Tryz.underlying25 hi0 hz0 hz1 hz2 rfl (by decide) (.slice ko (knK ns j).length kc) _ _ rfl (HR4.out.alloc _) ⟨w4.heap.size,0,none⟩ 1 1 [.int .i64 nj] rfl rfl (World.news_of_block (cs:=#[.int .i64 nj]) (t:=3) (fr:=(0,0)) (heap_alloc_new w4 _)) hone.out (Nat.lt_succ_self 0) hA1.out hA2.out hA3.out (w4.heap.size+1) (by simp) ?_;intro g cap w5 hown hgrow hat hlt5)
     have HR5:Hid (w5.ownsRow w2.heap.size 3 1 (.slice (some ⟨g,0,none⟩) ((knK ns j).length+1) cap) (knK ns (j+1)).length ((knK ns (j+1)).map (Value.int .i64))):=by
       show World.ownsRow _ _ _ _ _ _ _
       rw [HE.out,List.length_append,List.map_append]
       exact hown
     have HB5:Hid (Below w2.heap.size w2 w5):=(HB4.out.alloc hbs4 _).grown hgrow (by simp;omega) (fun k hk=>(HR4.out.lt k hk).1)
     clear hown hgrow hat
     go_roundg (gk-1)
     case measure=>omega
     case rel=>exact ⟨j+1,by omega,by go_num,HR5.out,HB5.out⟩
   · have hd:¬ ((j:Int)<(l.length:Int)):=by omega
     have hje:j=l.length:=by omega
     subst hje
     have hkl:=knK_len ns l.length
     have HBW:Hid (Below w.heap.size w wr):=HB2.out.trans (HBr.out.mono HB2.out.size)
     rcases HR.out.2 with ⟨h1,h2⟩ | ⟨g,cap,cur,h1,h2,h3,_⟩
     · omega
     · subst h1
       have ck:wr.cell? ⟨g,l.length-1,none⟩=some (.int .i64 (ns (l.length-1))):=by
         rw [World.ownsRow.cellAt HR.out (l.length-1) (by omega)]
         simp [knK_get ns (show l.length-1<l.length by omega)]
       rw [hkl] at *
       have hl1:(1:Int)<=(l.length:Int):=by omega
       have hl2:(l.length:Int)<=2001:=by omega
       generalize hnr:ns (l.length-1)=nr at *
       have HNR:Hid (ns (l.length-1)=nr):=hnr
       clear hnr
       go_wp2_with fail
       go_ret2
       exact ⟨HBW.out,by rw [HNR.out];rfl⟩
end Go.Proofs.YtaebngpoagjafaaGreat
namespace Go.Proofs.YtaebngpoagjafaaGreat
open Go.RowKit
def atF (K:List Int) (i:Int):Int:=if i<0 then 0 else (K[i.toNat]?).getD 0
def NV (w:World) (ko:Option Addr) (K:List Int):Prop:=∀ i v,K[i]?=some v->∃ g,ko=some ⟨g,0,none⟩/\g<w.heap.size/\w.cell? ⟨g,i,none⟩=some (.int .i64 v)
theorem NV.below {w w':World} {ko:Option Addr} {K:List Int} (h:NV w ko K) (hb:Below w.heap.size w w'):NV w' ko K:=fun i v hv=>by
 obtain ⟨g,h1,h2,h3⟩:=h i v hv
 exact ⟨g,h1,Nat.lt_of_lt_of_le h2 hb.size,by rw [hb.cell (p:=⟨g,i,none⟩) h2];exact h3⟩
attribute [local go_sem ↓] Go.wp_at_zero Go.wp_at_succ
set_option maxHeartbeats 400000 in
theorem at_any (ko:Option Addr) (kc:Nat) (K:List Int) (i:Int) (w:World) (h:NV w ko K) :
   Calls Tryz.prog 106 #[.slice ko K.length kc,.int .i64 i] w fun e w'=>w'=w/\e=.returned (.int .i64 (atF K i)):=by
 by_cases h0:i<0
 · have HE:Hid (atF K i=0):=by show _=_;unfold atF;rw [if_pos h0]
   go_enter Tryz.func106,Tryz.ntmps106
   go_wp2_with fail
   go_ret
   exact ⟨rfl,by rw [HE.out];rfl⟩
 · obtain ⟨j,rfl⟩:∃ j:Nat,i=j:=⟨i.toNat,by omega⟩
   have h0':¬ (j:Int)<0:=h0
   have h00:(0:Int)<=(j:Int):=by omega
   by_cases h1:j<K.length
   · have hv:K[j]?=some K[j]:=List.getElem?_eq_getElem h1
     obtain ⟨g,rfl,hg,hc⟩:=h j _ hv
     have HE:Hid (atF K j=K[j]):=by show _=_;unfold atF;rw [if_neg h0,Int.toNat_natCast,hv];rfl
     have h1':(j:Int)<(K.length:Int):=by omega
     have h2':¬ (K.length:Int)<=(j:Int):=by omega
     generalize K[j]=v at *
     clear h hv
     go_enter Tryz.func106,Tryz.ntmps106
     go_wp2_with fail
     go_ret
     exact ⟨rfl,by rw [HE.out];rfl⟩
   · have HE:Hid (atF K j=0):=by show _=_;unfold atF;rw [if_neg h0,Int.toNat_natCast,List.getElem?_eq_none (by omega)];rfl
     have h1':(K.length:Int)<=(j:Int):=by omega
     clear h
     go_enter Tryz.func106,Tryz.ntmps106
     go_wp2_with fail
     go_ret
     exact ⟨rfl,by rw [HE.out];rfl⟩
theorem atF_bd {K:List Int} (h:∀ k∈K,0<=k/\k<=1001) (i:Int):0<=atF K i/\atF K i<=1001:=by
 unfold atF
 split
 · omega
 · cases hk:K[i.toNat]? with
   | none=>simp
   | some k=>simpa using h k (List.mem_of_getElem? hk)
def armS (K:List Int) (l:List IM):Nat->Int
 | 0=>0
 | j+1=>armS K l j+(match l[j]? with | some x=>atF K x.arm | none=>0)
theorem armS_bd {K:List Int} (h:∀ k∈K,0<=k/\k<=1001) (l:List IM):∀ j,0<=armS K l j/\armS K l j<=1001*j:=by
 intro j
 induction j with
 | zero=>simp [armS]
 | succ j ih =>
   simp only [armS]
   cases hx:l[j]? with
   | none=>simp only;omega
   | some x=>have:=atF_bd h x.arm;simp only;omega
def szE (e:EX) (K:List Int):Int:=cap1 (atF K e.inner+(if e.kind=61 then 0 else 1+(e.items.length:Int))+armS K e.items e.items.length)
set_option maxHeartbeats 800000 in
theorem sizeOf_any (e:EX) (vo:Option Addr) (vm vc:Nat) (ko:Option Addr) (kc:Nat) (K:List Int) (w:World) (h:NV w ko K) (hb:∀ k∈K,0<=k/\k<=1001) (hl:e.items.length<=100000) (hv:IV w (.slice vo vm vc) e.items) (hvg:∀ g,(Value.slice vo vm vc).ownBlock=some g->g<w.heap.size) :
   Calls Tryz.prog 61 #[.agg #[.int .u8 e.kind,.int .i64 e.at_,.int .i64 e.depth,.int .i64 e.nv,.int .i64 e.na,.slice vo vm vc,.int .i64 e.inner],.slice ko K.length kc] w fun r w'=>Below w.heap.size w w'/\r=.returned (.int .i64 (szE e K)):=by
 have HA:Hid (Below w.heap.size w (w.alloc (.cells #[.int .u8 e.kind,.int .i64 e.at_,.int .i64 e.depth,.int .i64 e.nv,.int .i64 e.na,.slice vo vm vc,.int .i64 e.inner] 114))):=(Below.refl _ _).alloc (Nat.le_refl _) _
 have HX:Hid ((w.alloc (.cells #[.int .u8 e.kind,.int .i64 e.at_,.int .i64 e.depth,.int .i64 e.nv,.int .i64 e.na,.slice vo vm vc,.int .i64 e.inner] 114)).heap[w.heap.size]?=some (.cells #[.int .u8 e.kind,.int .i64 e.at_,.int .i64 e.depth,.int .i64 e.nv,.int .i64 e.na,.slice vo vm vc,.int .i64 e.inner] 114 (0,0))):=heap_alloc_new w _
 have hat:=fun wz hz i=>at_any ko kc K i wz hz
 have HAT:Hid (∀ wz,NV wz ko K->∀ i,Calls Tryz.prog 106 #[.slice ko K.length kc,.int .i64 i] wz fun e w'=>w'=wz/\e=.returned (.int .i64 (atF K i))):=hat
 have HN0:Hid (NV (w.alloc (.cells #[.int .u8 e.kind,.int .i64 e.at_,.int .i64 e.depth,.int .i64 e.nv,.int .i64 e.na,.slice vo vm vc,.int .i64 e.inner] 114)) ko K):=h.below HA.out
 have hin:=atF_bd hb e.inner
 have HSB:Hid (∀ j,0<=armS K e.items j/\armS K e.items j<=1001*j):=armS_bd hb e.items
 have HBD:Hid (∀ i,0<=atF K i/\atF K i<=1001):=atF_bd hb
 have HV:Hid (IV w (.slice vo vm vc) e.items):=hv
 have HS:Hid (szE e K=cap1 (atF K e.inner+(if e.kind=61 then 0 else 1+(e.items.length:Int))+armS K e.items e.items.length)):=rfl
 have hvm:vm=e.items.length:=by
   rcases hv with ⟨h1,h2⟩ | ⟨g,cap,h1,_⟩
   · cases h1;rw [h2];rfl
   · cases h1;rfl
 subst hvm
 obtain ⟨z0,hz0⟩:∃ z0,atF K e.inner=z0:=⟨_,rfl⟩
 obtain ⟨z1,hz1⟩:∃ z1,z0+(if e.kind=61 then 0 else 1+(e.items.length:Int))=z1:=⟨_,rfl⟩
 rw [hz0,hz1] at HS
 have HAI:Hid (∀ wz,NV wz ko K->Calls Tryz.prog 106 #[.slice ko K.length kc,.int .i64 e.inner] wz fun e w'=>w'=wz/\e=.returned (.int .i64 z0)):=fun wz hz=>by have:=hat wz hz e.inner;rw [hz0] at this;exact this
 rw [hz0] at hin
 clear hat hz0 hb hv
 go_enter Tryz.func61,Tryz.ntmps61
 go_wp2_with fail
 refine (HAI.out _ HN0.out).mono ?_
 rintro r w1 ⟨hw1,rfl⟩
 subst w1
 have hz1b:0<=z1/\z1<=102002:=by rw [<- hz1];split<;>omega
 cases ek:(e.kind==61) with
 | true =>
   have ek2:(e.kind != 61)=false:=by simp [bne,ek]
   have hz2:z1=z0:=by rw [<- hz1,if_pos (by simpa using ek)];omega
   clear hz1
   subst hz2
   go_wp2_with fail
   go_loopg [5,24] e.items.length (fun q a y wr=>∃ j:Nat,q+j=e.items.length/\a=.int .i64 (z1+armS K e.items j)/\y=.int .i64 j/\Below w.heap.size w wr)
   case atStart=>exact ⟨0,by omega,by simp [armS],rfl,HA.out⟩
   case round =>
     obtain ⟨j,hn,rfl,rfl,hbr⟩:=hrel
     have HBR:Hid (Below w.heap.size w wr):=hbr
     have hsj:=HSB.out j
     clear hbr
     by_cases hlt:j<e.items.length
     · obtain ⟨x,hx⟩:∃ x,e.items[j]?=some x:=⟨e.items[j],List.getElem?_eq_getElem hlt⟩
       have hj0:(0:Int)<=(j:Int):=by omega
       have hj1:(j:Int)<(e.items.length:Int):=by omega
       rcases HV.out with ⟨_,h2⟩ | ⟨g,cap,h1,h2,h3⟩
       · rw [h2] at hlt;simp at hlt
       · cases h1
         have hgl:g<w.heap.size:=hvg g rfl
         obtain ⟨r0,r1,r2,r3,r4,r5,r6⟩:=h3 j x hx
         have hcg:∀ q,wr.cell? ⟨g,q,none⟩=w.cell? ⟨g,q,none⟩:=fun q=>HBR.out.cell (p:=⟨g,q,none⟩) hgl
         rw [<- hcg] at r0 r1 r2 r3 r4 r5 r6
         have HJ:Hid (armS K e.items (j+1)=armS K e.items j+atF K x.arm):=by show _=_;simp only [armS,hx]
         have HBA:Hid (Below w.heap.size w (wr.alloc (.cells #[.int .i64 x.at_,.int .i64 x.num,.int .i64 x.pv,.int .i64 x.pl,.int .i64 x.wv,.int .i64 x.wa,.int .i64 x.arm] 167))):=HBR.out.alloc HBR.out.size _
         have HNA:Hid (NV (wr.alloc (.cells #[.int .i64 x.at_,.int .i64 x.num,.int .i64 x.pv,.int .i64 x.pl,.int .i64 x.wv,.int .i64 x.wa,.int .i64 x.arm] 167)) ko K):=h.below HBA.out
         have hab:=HBD.out x.arm
         have HAX:Hid (∀ wz,NV wz ko K->Calls Tryz.prog 106 #[.slice ko K.length kc,.int .i64 x.arm] wz fun e w'=>w'=wz/\e=.returned (.int .i64 (atF K x.arm))):=fun wz hz=>HAT.out wz hz x.arm
         generalize hsm:armS K e.items j=sm at *
         generalize hax:atF K x.arm=ax at *
         clear hsm hax h3 hcg hx
         go_wp2_with fail
         refine (HAX.out _ HNA.out).mono ?_
         rintro r w3 ⟨hw3,rfl⟩
         subst w3
         go_wp2_with fail
         go_roundg (gk-1)
         case measure=>omega
         case rel=>exact ⟨j+1,by omega,by rw [HJ.out];go_num,by go_num,HBA.out⟩
     · have hd:¬ ((j:Int)<(e.items.length:Int)):=by omega
       have hje:j=e.items.length:=by omega
       rw [hje] at hsj hd ⊢
       clear hje hn hlt
       generalize hsm:armS K e.items e.items.length=sm at *
       clear hsm
       by_cases hc:1000<z1+sm
       · have HE:Hid (szE e K=1001):=by show _=_;rw [HS.out];unfold cap1;rw [if_pos hc]
         go_wp2_with fail
         go_ret
         exact ⟨HBR.out,by rw [HE.out];rfl⟩
       · have HE:Hid (szE e K=z1+sm):=by show _=_;rw [HS.out];unfold cap1;rw [if_neg hc]
         have hc':z1+sm<=1000:=by omega
         clear hc
         go_wp2_with fail
         go_ret
         exact ⟨HBR.out,by rw [HE.out];rfl⟩
 | false =>
   have ek2:(e.kind != 61)=true:=by simp [bne,ek]
   have hz2:z1=z0+1+(e.items.length:Int):=by rw [<- hz1,if_neg (by simpa using ek)];omega
   clear hz1
   subst hz2
   go_wp2_with fail
   go_loopg [5,24] e.items.length (fun q a y wr=>∃ j:Nat,q+j=e.items.length/\a=.int .i64 ((z0+1+(e.items.length:Int))+armS K e.items j)/\y=.int .i64 j/\Below w.heap.size w wr)
   case atStart=>exact ⟨0,by omega,by simp [armS],rfl,HA.out⟩
   case round =>
     obtain ⟨j,hn,rfl,rfl,hbr⟩:=hrel
     have HBR:Hid (Below w.heap.size w wr):=hbr
     have hsj:=HSB.out j
     clear hbr
     by_cases hlt:j<e.items.length
     · obtain ⟨x,hx⟩:∃ x,e.items[j]?=some x:=⟨e.items[j],List.getElem?_eq_getElem hlt⟩
       have hj0:(0:Int)<=(j:Int):=by omega
       have hj1:(j:Int)<(e.items.length:Int):=by omega
       rcases HV.out with ⟨_,h2⟩ | ⟨g,cap,h1,h2,h3⟩
       · rw [h2] at hlt;simp at hlt
       · cases h1
         have hgl:g<w.heap.size:=hvg g rfl
         obtain ⟨r0,r1,r2,r3,r4,r5,r6⟩:=h3 j x hx
         have hcg:∀ q,wr.cell? ⟨g,q,none⟩=w.cell? ⟨g,q,none⟩:=fun q=>HBR.out.cell (p:=⟨g,q,none⟩) hgl
         rw [<- hcg] at r0 r1 r2 r3 r4 r5 r6
         have HJ:Hid (armS K e.items (j+1)=armS K e.items j+atF K x.arm):=by show _=_;simp only [armS,hx]
         have HBA:Hid (Below w.heap.size w (wr.alloc (.cells #[.int .i64 x.at_,.int .i64 x.num,.int .i64 x.pv,.int .i64 x.pl,.int .i64 x.wv,.int .i64 x.wa,.int .i64 x.arm] 167))):=HBR.out.alloc HBR.out.size _
         have HNA:Hid (NV (wr.alloc (.cells #[.int .i64 x.at_,.int .i64 x.num,.int .i64 x.pv,.int .i64 x.pl,.int .i64 x.wv,.int .i64 x.wa,.int .i64 x.arm] 167)) ko K):=h.below HBA.out
         have hab:=HBD.out x.arm
         have HAX:Hid (∀ wz,NV wz ko K->Calls Tryz.prog 106 #[.slice ko K.length kc,.int .i64 x.arm] wz fun e w'=>w'=wz/\e=.returned (.int .i64 (atF K x.arm))):=fun wz hz=>HAT.out wz hz x.arm
         generalize hsm:armS K e.items j=sm at *
         generalize hax:atF K x.arm=ax at *
         clear hsm hax h3 hcg hx
         go_wp2_with fail
         refine (HAX.out _ HNA.out).mono ?_
         rintro r w3 ⟨hw3,rfl⟩
         subst w3
         go_wp2_with fail
         go_roundg (gk-1)
         case measure=>omega
         case rel=>exact ⟨j+1,by omega,by rw [HJ.out];go_num,by go_num,HBA.out⟩
     · have hd:¬ ((j:Int)<(e.items.length:Int)):=by omega
       have hje:j=e.items.length:=by omega
       rw [hje] at hsj hd ⊢
       clear hje hn hlt
       generalize hsm:armS K e.items e.items.length=sm at *
       clear hsm
       by_cases hc:1000<(z0+1+(e.items.length:Int))+sm
       · have HE:Hid (szE e K=1001):=by show _=_;rw [HS.out];unfold cap1;rw [if_pos hc]
         go_wp2_with fail
         go_ret
         exact ⟨HBR.out,by rw [HE.out];rfl⟩
       · have HE:Hid (szE e K=(z0+1+(e.items.length:Int))+sm):=by show _=_;rw [HS.out];unfold cap1;rw [if_neg hc]
         have hc':(z0+1+(e.items.length:Int))+sm<=1000:=by omega
         clear hc
         go_wp2_with fail
         go_ret
         exact ⟨HBR.out,by rw [HE.out];rfl⟩
end Go.Proofs.YtaebngpoagjafaaGreat
