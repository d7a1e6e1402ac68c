import Derived.Test.YtaebngpoagjafabGreatU17
import Derived.Test.YtaebngpoagjafabGreatU21
set_option maxRecDepth 100000
set_option maxHeartbeats 800000
namespace Go.Proofs.YtaebngpoagjafabGreat
open Value renaming int → J, slice → O
open IntKind renaming i64 → Z
open Go.RowKit
attribute [local go_sem ↓] Go.wp_at_zero Go.wp_at_succ
def flt (l:List SG) (i:Nat) (g:SG):Int:=zbs l i g (T.val g.text g.text.size)
theorem zfC (l:List SG) (i:Nat) (g:SG) (v:Int) (h:SI g) (hv:T.digs g.text->g.text.size<=9->v=T.val g.text g.text.size):zbs l i g v=flt l i g:=by
 rcases h.2 with h | ⟨h1,h2⟩
 ·have e:∀ v,zR g.kind v=false:=fun v=>by
   rcases h with h | h | h | h<;>simp [zR,h]
  unfold flt zbs
  rw [e,e]
 ·unfold flt;rw [hv h1 h2]
def Xo (l:List SG):Nat->Nat->Int×Int
 | 0,_=>(0,0)
 | n+1,i=>match l[i]? with
  | none=>(0,0)
  | some g=>if flt l i g=0 then Xo l n (i+1) else (flt l i g,g.place)
def chk (s:ByteArray):Int×Int :=
 if 2000<s.size then (1,0) else if (rd s).1=true then Xo (rd s).2.2.reverse (rd s).2.2.length 0 else (2,(rd s).2.1)
theorem XR (s:ByteArray) (w:World) :
 Calls Tryz.prog 52 #[.string s] w fun e w'=>Below w.heap.size w w'/\e=.returned (.tuple #[J Z (chk s).1,J Z (chk s).2]):=by
 by_cases hs:2000<s.size
 ·have p:Hid (chk s=(1,0)):=by show _=_;unfold chk;rw [if_pos hs]
  have a2:(2000:Int)<(s.size:Int):=by omega
  go_enter Tryz.func52,Tryz.ntmps52
  go_wp2_with fail
  go_ret2
  exact ⟨Below.refl _ _,by rw [p.out];rfl⟩
 have a2:¬ (2000:Int)<(s.size:Int):=by omega
 have P:s.size<=2000:=by omega
 obtain ⟨r1,r2,r3,M,R,hM,hR,I⟩:=zea s P
 have A:=fun wz=>zck s wz P M R hM hR
 rw [<- I] at A
 have p:Hid (chk s=if (rd s).1=true then Xo (rd s).2.2.reverse (rd s).2.2.length 0 else (2,(rd s).2.1)):=by show _=_;unfold chk;rw [if_neg hs]
 have W:Hid _:=A
 clear I hR A hs
 generalize rd s=D at *
 obtain ⟨ok,a3,q⟩:=D
 simp only at r1 r2 r3
 have F:Hid _:=p.out
 clear p
 have X:Hid _:=r3
 clear r3
 go_enter Tryz.func52,Tryz.ntmps52
 go_wp2_with fail
 refine (W.out _).mono ?_
 rintro e K ⟨k,v,(⟨i,I,a⟩ | ⟨i,I⟩)⟩
 ·simp only at i a
  subst i
  subst I
  have l:Hid (chk s=Xo q.reverse q.length 0):=by show _=_;rw [F.out];rfl
  clear F W
  have f:Hid _:=k
  rcases Nat.eq_zero_or_pos q.length with V | V
  ·have H:∃ o d,v=O o 0 d:=by
    rcases a.2 with ⟨rfl,_⟩ | ⟨g,d,cur,rfl,_⟩
    ·exact ⟨none,0,rfl⟩
    ·exact ⟨_,d,by rw [V]⟩
   obtain ⟨o,d,rfl⟩:=H
   have p:Hid (chk s=(0,0)):=by show _=_;rw [l.out,V];rfl
   clear l
   clear a k
   go_wp2_with fail
   go_loopg [6] 1 (fun n x wr=>x=J Z 0/\wr=K)
   case atStart=>exact ⟨rfl,rfl⟩
   case round =>
    obtain ⟨rfl,rfl⟩:=hrel
    go_wp2_with fail
    go_ret2
    exact ⟨f.out,by rw [p.out];rfl⟩
  ·have H:∃ b d,v=O (some ⟨b,0,none⟩) q.length d:=by
    rcases a.2 with ⟨_,h1⟩ | ⟨g,d,cur,rfl,_⟩
    ·omega
    ·exact ⟨g,d,rfl⟩
   obtain ⟨b,d,rfl⟩:=H
   have S:b<K.heap.size:=(a.lt b rfl).2
   have a4:Hid (SL K b q.reverse):=SL.of_row a
   have hL:q.reverse.length=q.length:=List.length_reverse
   have a5:Hid (∀ g∈q.reverse,SI g):=fun g B=>X.out g (List.mem_reverse.1 B)
   clear a k X
   generalize q.reverse=L at *
   have u:q.length=L.length:=hL.symm
   clear hL
   rw [u] at r2 l ⊢
   have p:Hid _:=l.out
   clear u l
   go_wp2_with fail
   go_loopg [6] L.length (fun n x wr=>∃ j:Nat,n+j=L.length/\x=J Z j/\Hid (Xo L n j=Xo L L.length 0)/\Below K.heap.size K wr)
   case atStart=>exact ⟨0,by omega,rfl,rfl,Below.refl _ _⟩
   case round =>
    obtain ⟨j,hn,rfl,HF,hb⟩:=hrel
    have G:Hid _:=hb
    have N:SL wr b L:=a4.out.of_block (hb.block _ S)
    have U:b<wr.heap.size:=Nat.lt_of_lt_of_le S hb.size
    have j0:(0:Int)<=(j:Int):=by omega
    clear hb
    by_cases Q:j<L.length
    ·have a6:(j:Int)<(L.length:Int):=by omega
     obtain ⟨g,B⟩:∃ g,L[j]?=some g:=⟨L[j]'Q,List.getElem?_eq_getElem Q⟩
     have E:SI g:=a5.out g (List.mem_iff_getElem?.2 ⟨j,B⟩)
     have hX:=fun (wz:World) (h1:SL wz b L) (h2:b<wz.heap.size)=>zbu b d L j g wz h1 (by omega) B h2 E.1
     obtain ⟨m,rfl⟩:∃ m,gk=m+1:=⟨gk-1,by omega⟩
     have Y:Hid (Xo L (m+1) j=if flt L j g=0 then Xo L m (j+1) else (flt L j g,g.place)):=by
      show _=_
      simp only [Xo,B]
     have HX:Hid _:=hX
     have y:Hid (SL wr b L):=N
     have HG:Hid _:=B
     have HS:Hid _:=E
     clear hX N B E
     go_wp2_with fail
     refine (HX.out _ y.out U).mono ?_
     rintro e w3 ⟨C,v,rfl,H⟩
     rw [zfC L j g v HS.out H]
     have r:SL w3 b L:=y.out.of_block (C.block _ U)
     obtain ⟨g0,g1,g2,g3,g4⟩:=r j g HG.out
     have a0:Hid _:=G.out.trans (C.mono G.out.size)
     clear C H r g0 g2 g3 g4
     generalize flt L j g=z at *
     cases hz:(z==0) with
     | true =>
      have h:z=0:=by simpa using hz
      have HE:Hid (Xo L m (j+1)=Xo L L.length 0):=by
       show _=_
       rw [<- HF.out,Y.out,if_pos h]
      clear h
      have a1:(z != 0)=false:=by simp [bne,hz]
      go_wp2_with fail
      go_roundg m
      case measure=>omega
      case rel=>exact ⟨j+1,by omega,by go_num,HE.out,a0.out⟩
     | false =>
      have h:¬ z=0:=beq_eq_false_iff_ne.1 hz
      have HE:Hid (chk s=(z,g.place)):=by
       show _=_
       rw [p.out,<- HF.out,Y.out,if_neg h]
      clear h
      have a1:(z != 0)=true:=by simp [bne,hz]
      go_wp2_with fail
      go_quiet (fail)
      go_wp2_with fail
      go_ret2
      exact ⟨zS (f.out.trans (a0.out.mono f.out.size)) _,by rw [HE.out];rfl⟩
    ·have hd:decide ((j:Int)<(L.length:Int))=false:=decide_eq_false (by omega)
     have HE:Hid (chk s=(0,0)):=by
      show _=_
      have V:gk=0:=by omega
      rw [p.out,<- HF.out,V];rfl
     go_wp2_with fail
     go_ret2
     exact ⟨f.out.trans (G.out.mono f.out.size),by rw [HE.out];rfl⟩
 ·simp only at i
  subst i
  subst I
  have p:Hid (chk s=(2,(a3:Int))):=by show _=_;rw [F.out];rfl
  have f:Hid _:=k
  clear k
  go_wp2_with fail
  go_ret2
  exact ⟨f.out,by rw [p.out];rfl⟩
def Yp (l:List ByteArray):Nat->ByteArray
 | 0=>ByteArray.empty
 | j+1=>Yp l j++(match l[j]? with | some t=>t.extract 0 1 | none=>ByteArray.empty)
def ZD (l:List ByteArray):List ByteArray:=l.map (fun t=>t.extract 2 t.size)
theorem Qw (l:List ByteArray) (h:∀ t∈l,2<=t.size):∀ j,j<=l.length->(Yp l j).size=j:=by
 intro j
 induction j with
 | zero=>intro _;rfl
 | succ j ih =>
  intro b
  have a:l[j]?=some l[j]:=List.getElem?_eq_getElem (by omega)
  have d:=h l[j] (List.getElem_mem _)
  simp only [Yp,a]
  rw [ByteArray.size_append,ih (by omega),yd _ _ _ (by omega)]
structure PP (w:World) (base PB:Nat) (nm:ByteArray) (tv:Value) (ts:List ByteArray):Prop where
 blk:w.heap[PB]?=some (.cells #[.string nm,tv] 113 (0,0))
 row:w.ownsRow base 9 1 tv ts.length (ts.map Value.string)
 hB:base<=PB
theorem PP.c0 {w:World} {base PB nm tv ts} (h:PP w base PB nm tv ts):w.cell? ⟨PB,0,none⟩=some (.string nm):=by simp [World.cell?,h.blk]
theorem PP.c1 {w:World} {base PB nm tv ts} (h:PP w base PB nm tv ts):w.cell? ⟨PB,1,none⟩=some tv:=by simp [World.cell?,h.blk]
theorem PP.fz {w:World} {base PB nm tv ts} (h:PP w base PB nm tv ts) (j:Nat):w.frozen? ⟨PB,j,none⟩=false:=by simp [World.frozen?,h.blk]
theorem PP.lt {w:World} {base PB nm tv ts} (h:PP w base PB nm tv ts):PB<w.heap.size:=lt_of_block h.blk
theorem zf1 {w:World} {B:Nat} {a b u:Value} {t:TypeId} (h:w.heap[B]?=some (.cells #[a,b] t (0,0))):(w.setCell ⟨B,0,none⟩ u).heap[B]?=some (.cells #[u,b] t (0,0)):=by
 simp [World.setCell,Array.getElem?_modify,h]
theorem zf0 {w:World} {B:Nat} {a b u:Value} {t:TypeId} (h:w.heap[B]?=some (.cells #[a,b] t (0,0))):(w.setCell ⟨B,1,none⟩ u).heap[B]?=some (.cells #[a,u] t (0,0)):=by
 simp [World.setCell,Array.getElem?_modify,h]
theorem Z6 {w w':World} {base e size:Nat} {v:Value} {n:Nat} {xs:List Value} (h:w.ownsRow base e size v n xs) (hk:∀ g,v.ownBlock=some g->w'.heap[g]?=w.heap[g]?):w'.ownsRow base e size v n xs:=by
 refine ⟨h.1,?_⟩
 rcases h.2 with h0 | ⟨g,cap,cur,rfl,h1,h2,h3⟩
 ·exact .inl h0
 ·exact .inr ⟨g,cap,cur,rfl,h1,(hk g rfl).trans h2,h3⟩
theorem PP.drew {w:World} {base PB nm tv ts} (h:PP w base PB nm tv ts):PP w.drew base PB nm tv ts:=⟨h.blk,h.row,h.hB⟩
theorem PP.setN {w:World} {base PB nm tv ts} (h:PP w base PB nm tv ts) (x:ByteArray):PP (w.setCell ⟨PB,0,none⟩ (.string x)) base PB x tv ts :=
 ⟨zf1 h.blk,ownsRow_setCell_other h.row (zk h.row h.blk (by decide)) _,h.hB⟩
theorem PP.below {w w':World} {base PB nm tv ts} (h:PP w base PB nm tv ts) (hb:Below w.heap.size w w'):PP w' base PB nm tv ts :=
 ⟨(hb.block PB h.lt).trans h.blk,Z6 h.row (fun g hg=>hb.block g (h.row.lt g hg).2),h.hB⟩
theorem PP.push {w w4:World} {base PB nm tv ts} {o:Obj} (h:PP w base PB nm tv ts) {n g cap:Nat} {x:ByteArray} (hn:n=ts.length) (hg:((w.alloc o).drew).grownBy w4 tv.ownBlock) (hown:w4.ownsRow base 9 1 (O (some ⟨g,0,none⟩) (n+1) cap) (n+1) (ts.map Value.string++[.string x])) :
 PP (w4.setCell ⟨PB,1,none⟩ (O (some ⟨g,0,none⟩) (n+1) cap)) base PB nm (O (some ⟨g,0,none⟩) (n+1) cap) (ts++[x]):=by
 subst hn
 have b:PB<(w.alloc o).drew.heap.size:=by have:=h.lt;show PB<(w.alloc o).heap.size;simp;omega
 have a:w4.heap[PB]?=some (.cells #[.string nm,tv] 113 (0,0)):=(hg.block PB b (fun e=>zk h.row h.blk (by decide) e.symm)).trans ((Below.heap_alloc _ _ _ h.lt).trans h.blk)
 refine ⟨zf0 a,?_,h.hB⟩
 rw [List.length_append,List.map_append]
 exact ownsRow_setCell_other hown (zk hown a (by decide)) _
theorem PP.grown {w w9:World} {base PB nm tv ts} (h:PP w base PB nm tv ts) {o:Obj} (hg:((w.alloc o).drew).grownBy w9 tv.ownBlock):w9.cell? ⟨PB,1,none⟩=some tv/\w9.frozen? ⟨PB,1,none⟩=false:=by
 have b:PB<(w.alloc o).drew.heap.size:=by have:=h.lt;show PB<(w.alloc o).heap.size;simp;omega
 have a:=(hg.block PB b (fun e=>zk h.row h.blk (by decide) e.symm)).trans ((Below.heap_alloc _ _ _ h.lt).trans h.blk)
 exact ⟨by simp [World.cell?,a],by simp [World.frozen?,a]⟩
theorem qH (s:ByteArray) (w:World) (hs:s.size<=2000) (h2:∀ t∈spl (bare s) 59,2<=t.size) :
 Calls Tryz.prog 53 #[.string s] w fun e w'=>Below w.heap.size w w'/\∃ PB tv,e=.returned (.pointer (some ⟨PB,0,none⟩))/\PP w' w.heap.size PB (Yp (spl (bare s) 59) (spl (bare s) 59).length) tv (ZD (spl (bare s) 59)):=by
 obtain ⟨i0,a3,Y,X,W⟩:=info_parts Tryz.infoStr
 have F:(bare s).size<=2000:=by unfold bare;rw [strOfNums_size];exact Nat.le_trans (qk s s.size) hs
 go_enter Tryz.func53,Tryz.ntmps53
 go_wp2_with fail
 refine (zdx s _ hs).mono ?_
 rintro e w1 ⟨Q,rfl⟩
 have V:Hid _:=Q
 clear Q
 go_wp2_with fail
 refine (yT (bare s) 59 _ F).mono ?_
 rintro e d ⟨N,v,rfl,r⟩
 obtain ⟨g,S,rfl,d6,E⟩:=z8 r (Zd _ _)
 have C:Hid _:=V.out.trans (N.mono V.out.size)
 have HC:Hid (∀ i x,(spl (bare s) 59)[i]?=some x->d.cell? ⟨g,i,none⟩=some (.string x)):=fun i x B=>yf r B
 have HZ:Hid _:=h2
 have HS:Hid (∀ t∈spl (bare s) 59,t.size<=2000):=fun t ht=>Nat.le_trans (yN ht) F
 have d2:=Xa (s:=bare s) (c:=59) F
 clear N r h2
 generalize hle:spl (bare s) 59=l at *
 have b5:Hid _:=hle
 clear hle
 have b3:Hid (∀ j,j<=l.length->(Yp l j).size=j):=Qw l HZ.out
 have b2:Hid (PP (d.alloc (.cells #[.string ByteArray.empty,O none 0 0] 113)) d.heap.size d.heap.size ByteArray.empty (O none 0 0) []):=⟨heap_alloc_new d _,⟨rfl,.inl ⟨rfl,rfl⟩⟩,Nat.le_refl _⟩
 have b9:Hid (Below d.heap.size d (d.alloc (.cells #[.string ByteArray.empty,O none 0 0] 113))):=(Below.refl _ _).alloc (Nat.le_refl _) _
 go_wp2_with fail
 go_loopg [5] l.length (fun n y wr=>∃ (j:Nat) (tv:Value),n+j=l.length/\y=J Z j/\PP wr d.heap.size d.heap.size (Yp l j) tv (ZD (l.take j))/\Below d.heap.size d wr)
 case atStart=>exact ⟨0,O none 0 0,by omega,rfl,b2.out,b9.out⟩
 case round =>
  obtain ⟨j,tv,hn,rfl,H,L⟩:=hrel
  have q:Hid _:=H
  have G:Hid _:=L
  clear H L
  by_cases a1:j<l.length
  ·obtain ⟨x,B⟩:∃ x,l[j]?=some x:=⟨l[j],List.getElem?_eq_getElem a1⟩
   have d4:(0:Int)<=(j:Int):=by omega
   have d3:(j:Int)<(l.length:Int):=by omega
   have cx:=(G.out.cell (p:=⟨g,j,none⟩) E).trans (HC.out j x B)
   have d0:=HZ.out x (List.mem_of_getElem? B)
   have c9:=HS.out x (List.mem_of_getElem? B)
   have c6:(2:Int)<=(x.size:Int):=by omega
   have c5:(x.size:Int)<=2000:=by omega
   have a0:=b3.out j (by omega)
   have b4:Hid (Yp l (j+1)=Yp l j++x.extract 0 1):=by show _=_;simp only [Yp,B]
   have a9:Hid (ZD (l.take (j+1))=ZD (l.take j)++[x.extract 2 x.size]):=by show _=_;rw [List.take_add_one,B];simp [ZD]
   have U:Hid (j=(ZD (l.take j)).length):=by show _=_;simp [ZD];omega
   generalize Yp l j=nj at *
   have a4:(x.extract 0 1).size=1:=by rw [yd x _ _ (by omega)]
   have q0:=q.out.c0
   have q1:=q.out.c1
   have qz:=q.out.fz
   have a6:=q.out.lt
   have d1:g≠d.heap.size:=by omega
   have c7:d.heap.size≠g:=by omega
   have K:=fun w=>run_string_add_sum (P:=Tryz.prog) (w:=w) nj (x.extract 0 1) (by rw [a0,a4];omega)
   have HX:Hid _:=B
   clear B
   go_wp2_with fail
   go_region_with (fail)
   all_goals
    have m:Hid (PP ((wr.setCell ⟨d.heap.size,0,none⟩ (.string (nj++x.extract 0 1))).drew) d.heap.size d.heap.size (nj++x.extract 0 1) tv (ZD (l.take j))):=(q.out.setN _).drew
    have A:Hid (Below d.heap.size d ((wr.setCell ⟨d.heap.size,0,none⟩ (.string (nj++x.extract 0 1))).drew)):=(G.out.setCell (p:=⟨d.heap.size,0,none⟩) (Nat.le_refl _) _).drew
    generalize (wr.setCell ⟨d.heap.size,0,none⟩ (.string (nj++x.extract 0 1))).drew=w5 at *
    clear cx q0 q1 qz K a6
    have cx:=(A.out.cell (p:=⟨g,j,none⟩) E).trans (HC.out j x HX.out)
    have q1:=m.out.c1
    have qz:=m.out.fz 1
    have d7:=m.out.lt
    have d5:g<w5.heap.size:=Nat.lt_of_lt_of_le E A.out.size
    have b6:Hid (w5.ownsRow d.heap.size 9 1 tv j ((ZD (l.take j)).map Value.string)):=by show World.ownsRow _ _ _ _ _ _ _;have:=m.out.row;rw [<- U.out] at this;exact this
    have a8:Hid (j+1<=maxLen):=by show _<=_;unfold maxLen;omega
    have a7:Hid ((j+1)*16<=140737488355328):=by show _<=_;omega
    have R:Hid (∀ o:Obj,d.heap.size<=(w5.alloc o).drew.heap.size):=fun o=>by have:=A.out.size;show d.heap.size<=(w5.alloc o).heap.size;simp;omega
    have I:Hid (∀ u∈[Value.string (x.extract 2 x.size)],u.oneCell'=true):=fun u hu=>by simp at hu;subst hu;rfl
    go_wp2_with fail
    go_region_law ((refine step_append_lies _ (by rfl) _ _ _ (by rfl) d.heap.size 9 i0 _ 1 16 Tryz.underlying27 a3 Y X W rfl (by decide) tv _ _ (by rfl) ((b6.out.alloc _).drew) ⟨w5.heap.size,0,none⟩ 1 1 [.string (x.extract 2 x.size)] (by rfl) (by rfl) (World.news_of_block (cs:=#[.string (x.extract 2 x.size)]) (t:=9) (fr:=(0,0)) (heap_alloc_new w5 _)) I.out (Nat.lt_succ_self 0) a8.out a7.out (R.out _) (w5.heap.size+1) (by simp) ?_;intro g' z w9 D f a5 c8;obtain ⟨y1,yz⟩:=m.out.grown f))
    all_goals
     have b1:Hid (PP (w9.setCell ⟨d.heap.size,1,none⟩ (O (some ⟨g',0,none⟩) (j+1) z)) d.heap.size d.heap.size (Yp l (j+1)) (O (some ⟨g',0,none⟩) (j+1) z) (ZD (l.take (j+1)))):=by
      show PP _ _ _ _ _ _
      rw [b4.out,a9.out]
      exact m.out.push U.out f D
     have b8:Hid (Below d.heap.size d (w9.setCell ⟨d.heap.size,1,none⟩ (O (some ⟨g',0,none⟩) (j+1) z))):=(((A.out.alloc A.out.size _).drew).grown f (R.out _) (fun k hk=>(m.out.row.lt k hk).1)).setCell (p:=⟨d.heap.size,1,none⟩) (Nat.le_refl _) _
     clear D f a5
     go_wp2_with fail
     go_roundg (gk-1)
     case measure=>omega
     case rel=>exact ⟨j+1,_,by omega,by go_num,b1.out,b8.out⟩
  ·have hd:¬ ((j:Int)<(l.length:Int)):=by omega
   have a2:j=l.length:=by omega
   subst a2
   have b7:Hid (Below w.heap.size w wr):=C.out.trans (G.out.mono C.out.size)
   have b0:Hid (PP wr w.heap.size d.heap.size (Yp l l.length) tv (ZD l)):=by
    have h:=q.out
    rw [List.take_length] at h
    exact ⟨h.blk,⟨h.row.1,h.row.2.imp (fun h=>h) (fun ⟨g,S,cur,a,b,c⟩=>⟨g,S,cur,a,Nat.le_trans C.out.size b,c⟩)⟩,C.out.size⟩
   go_wp2_with fail
   go_ret
   exact ⟨b7.out,_,rfl,tv,by rw [b5.out];exact b0.out⟩
def knK (ns:Nat->Int) (j:Nat):List Int:=(List.range j).map ns
theorem YI (ns:Nat->Int) (j:Nat):(knK ns j).length=j:=by simp [knK]
theorem jV (ns:Nat->Int) (j:Nat):knK ns (j+1)=knK ns j++[ns j]:=by simp [knK,List.range_succ]
theorem jb (ns:Nat->Int) {i j:Nat} (h:i<j):(knK ns j)[i]?=some (ns i):=by simp [knK,h]
theorem zdH (s:ByteArray) (w:World) (h:(chk s).1≠0) :
 Calls Tryz.prog 26 #[.string s] w fun e w'=>Below w.heap.size w w'/\e=.returned (.tuple #[J Z 0,J Z (chk s).1]):=by
 have b:=fun wz=>XR s wz
 generalize chk s=c at *
 obtain ⟨c1,c2⟩:=c
 simp only at h
 have i:(c1==0)=false:=by simp [h]
 have g:(c1 != 0)=true:=by simp [h]
 clear h
 go_enter Tryz.func26,Tryz.ntmps26
 go_wp2_with fail
 refine (b _).mono ?_
 rintro e f ⟨a,rfl⟩
 have d:Hid _:=a
 clear a
 go_wp2_with fail
 go_ret2
 exact ⟨d.out,rfl⟩
theorem zdG (s:ByteArray) (w:World) (ns:Nat->Int) (hs:s.size<=2000) (h:(chk s).1=0) (h2:∀ t∈spl (bare s) 59,2<=t.size)
 (hz:∀ j t,(ZD (spl (bare s) 59))[j]?=some t->SZ (Yp (spl (bare s) 59) (spl (bare s) 59).length) (knK ns j) t (ns j)) :
 Calls Tryz.prog 26 #[.string s] w fun e w'=>Below w.heap.size w w'/\e=.returned (.tuple #[J Z (ns ((spl (bare s) 59).length-1)),J Z 0]):=by
 have hd:=fun wz=>XR s wz
 generalize chk s=c at *
 obtain ⟨c1,c2⟩:=c
 simp only at h
 subst h
 have P:=fun wz=>qH s wz hs h2
 have Y:Hid _:=P
 have R:(bare s).size<=2000:=by unfold bare;rw [strOfNums_size];exact Nat.le_trans (qk s s.size) hs
 have d3:=Xa (s:=bare s) (c:=59) R
 have a8:=Zd (bare s) 59
 have d2:=Qw (spl (bare s) 59) h2 _ (Nat.le_refl _)
 have V:Hid (∀ t∈ZD (spl (bare s) 59),t.size<=2000):=fun t q=>by
  simp only [ZD,List.mem_map] at q
  obtain ⟨x,hx,rfl⟩:=q
  have:=Nat.le_trans (yN hx) R
  rw [yd x _ _ (Nat.le_refl _)];omega
 have r:Hid ((ZD (spl (bare s) 59)).length=(spl (bare s) 59).length):=by show _=_;simp [ZD]
 have W:Hid _:=hz
 clear P hz h2
 generalize hle:spl (bare s) 59=l at *
 have e0:Hid _:=hle
 clear hle
 go_enter Tryz.func26,Tryz.ntmps26
 go_wp2_with fail
 refine (hd _).mono ?_
 rintro e w1 ⟨D,rfl⟩
 have HB:Hid _:=D
 clear D
 go_wp2_with fail
 refine (Y.out _).mono ?_
 rintro e b ⟨U,PB,tv,rfl,N⟩
 have a2:Hid _:=HB.out.trans (U.mono HB.out.size)
 have o:Hid _:=N
 clear U N
 obtain ⟨i0,b2,a5,a4,a3⟩:=info_parts Tryz.infoInt
 obtain ⟨tg,tc,rfl,d0,I⟩:=z8 o.out.row (by rw [r.out];exact a8)
 have b7:Hid (∀ i t,(ZD l)[i]?=some t->b.cell? ⟨tg,i,none⟩=some (.string t)):=fun i t q=>yf o.out.row q
 have f:=o.out.lt
 have a7:=o.out.c0
 have L:=o.out.c1
 rw [r.out] at L
 have c8:Hid (∀ j,j<l.length->0<=ns j/\ns j<=5000):=by
  intro j
  induction j using Nat.strongRecOn with
  | ind j ihj =>
   intro hj
   have B:j<(ZD l).length:=by rw [r.out];exact hj
   have hx:(ZD l)[j]?=some (ZD l)[j]:=List.getElem?_eq_getElem B
   exact (jy (W.out j _ hx) 0 none 0 (fun k hk=>by
    simp only [knK,List.mem_map,List.mem_range] at hk
    obtain ⟨i,hi,rfl⟩:=hk
    exact ihj i hi (by omega)) (by omega) (by rw [YI];omega) (V.out _ (List.mem_of_getElem? hx))).2
 clear Y
 go_wp2_with fail
 go_loopg [7,8] l.length (fun n x y wr=>∃ (j:Nat),n+j=l.length/\y=J Z j/\wr.ownsRow b.heap.size 3 1 x (knK ns j).length ((knK ns j).map (J Z))/\Below b.heap.size b wr)
 case atStart=>exact ⟨0,by omega,rfl,⟨rfl,.inl ⟨rfl,rfl⟩⟩,Below.refl _ _⟩
 case round =>
  obtain ⟨j,hn,rfl,z,D⟩:=hrel
  have E:Hid (wr.ownsRow b.heap.size 3 1 u7 (knK ns j).length ((knK ns j).map (J Z))):=z
  have a:Hid _:=D
  have d9:=D.size
  have p1:=(D.cell (p:=⟨PB,1,none⟩) f).trans L
  clear z D
  by_cases a9:j<l.length
  ·have B:j<(ZD l).length:=by rw [r.out];exact a9
   obtain ⟨t,q⟩:∃ t,(ZD l)[j]?=some t:=⟨(ZD l)[j],List.getElem?_eq_getElem B⟩
   have d7:(0:Int)<=(j:Int):=by omega
   have d6:(j:Int)<(l.length:Int):=by omega
   have ct:=(a.out.cell (p:=⟨tg,j,none⟩) I).trans (b7.out j t q)
   obtain ⟨G,H,a6⟩:∃ G H,u7=O G (knK ns j).length H:=by
    rcases E.out.2 with ⟨h1,h2⟩ | ⟨g,m,cur,h1,_⟩
    ·exact ⟨none,0,by rw [h1,h2]⟩
    ·exact ⟨_,m,h1⟩
   subst a6
   have c5:Hid (KV wr PB (Yp l l.length) G (knK ns j)):=⟨Nat.lt_of_lt_of_le f a.out.size,(a.out.cell (p:=⟨PB,0,none⟩) f).trans a7,fun i v hv=>by
    rcases E.out.2 with ⟨h1,h2⟩ | ⟨g,m,cur,h1,h2,h3,_⟩
    ·have:=(List.getElem?_eq_some_iff.1 hv).1;omega
    ·cases h1
     have d8:i<(knK ns j).length:=(List.getElem?_eq_some_iff.1 hv).1
     refine ⟨g,rfl,lt_of_block h3,?_⟩
     rw [World.ownsRow.cellAt E.out i (by omega)]
     simp [hv]⟩
   have K:=jy (W.out j t q) PB G H (fun k hk=>by
    simp only [knK,List.mem_map,List.mem_range] at hk
    obtain ⟨i,hi,rfl⟩:=hk
    exact c8.out i (by omega)) (by omega) (by rw [YI];omega) (V.out _ (List.mem_of_getElem? q))
   have c6:Hid _:=K.1
   have HE:Hid (knK ns (j+1)=knK ns j++[ns j]):=jV ns j
   have a0:Hid ((knK ns j).length=j):=YI ns j
   clear K q
   go_wp2_with fail
   refine (c6.out _ c5.out).mono ?_
   rintro e F ⟨C,rfl⟩
   have a1:Hid _:=a.out.trans (C.mono a.out.size)
   have X:Hid (F.ownsRow b.heap.size 3 1 (O G (knK ns j).length H) (knK ns j).length ((knK ns j).map (J Z))):=Z6 E.out (fun g hg=>C.block g (E.out.lt g hg).2)
   have S:b.heap.size<=F.heap.size:=a1.out.size
   clear C
   generalize hnj:ns j=nj at *
   clear hnj
   have b6:Hid ((knK ns j).length+1<=maxLen):=by show _<=_;have:=a0.out;unfold maxLen;omega
   have b5:Hid (((knK ns j).length+1)*8<=140737488355328):=by show _<=_;have:=a0.out;omega
   have b4:Hid (b.heap.size<=(F.alloc (.cells #[J Z nj] 3)).heap.size):=by show _<=_;simp;omega
   have Q:Hid (∀ u∈[J Z nj],u.oneCell'=true):=fun u hu=>by simp at hu;subst hu;rfl
   go_wp2_with (at_builtin;refine wpList_append_lies _ rfl _ _ 25 rfl b.heap.size 3 i0 _ 1 8 Tryz.underlying25 b2 a5 a4 a3 rfl (by decide) (O G (knK ns j).length H) _ _ rfl (X.out.alloc _) ⟨F.heap.size,0,none⟩ 1 1 [J Z nj] rfl rfl (World.news_of_block (cs:=#[J Z nj]) (t:=3) (fr:=(0,0)) (heap_alloc_new F _)) Q.out (Nat.lt_succ_self 0) b6.out b5.out b4.out (F.heap.size+1) (by simp) ?_;intro g m w5 A d b3 d1)
   have b8:Hid (w5.ownsRow b.heap.size 3 1 (O (some ⟨g,0,none⟩) ((knK ns j).length+1) m) (knK ns (j+1)).length ((knK ns (j+1)).map (J Z))):=by
    show World.ownsRow _ _ _ _ _ _ _
    rw [HE.out,List.length_append,List.map_append]
    exact A
   have c9:Hid (Below b.heap.size b w5):=(a1.out.alloc S _).grown d (by simp;omega) (fun k hk=>(X.out.lt k hk).1)
   clear A d b3
   go_roundg (gk-1)
   case measure=>omega
   case rel=>exact ⟨j+1,by omega,by go_num,b8.out,c9.out⟩
  ·have hd:¬ ((j:Int)<(l.length:Int)):=by omega
   have b1:j=l.length:=by omega
   subst b1
   have b0:=YI ns l.length
   have c7:Hid (Below w.heap.size w wr):=a2.out.trans (a.out.mono a2.out.size)
   rcases E.out.2 with ⟨h1,h2⟩ | ⟨g,m,cur,h1,h2,h3,_⟩
   ·omega
   ·subst h1
    have ck:wr.cell? ⟨g,l.length-1,none⟩=some (J Z (ns (l.length-1))):=by
     rw [World.ownsRow.cellAt E.out (l.length-1) (by omega)]
     simp [jb ns (show l.length-1<l.length by omega)]
    rw [b0] at *
    have d5:(1:Int)<=(l.length:Int):=by omega
    have d4:(l.length:Int)<=2001:=by omega
    generalize hnr:ns (l.length-1)=nr at *
    have b9:Hid _:=hnr
    clear hnr
    go_wp2_with fail
    go_ret2
    exact ⟨c7.out,by rw [b9.out];rfl⟩
end Go.Proofs.YtaebngpoagjafabGreat
