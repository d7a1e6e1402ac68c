import Derived.Test.YtaebngpoagjafabGreatU39
import Derived.Test.YtaebngpoagjafabGreatU42
import Derived.Deep.DeepCutAuto
set_option maxRecDepth 100000
set_option maxHeartbeats 3200000
namespace Go.Proofs.YtaebngpoagjafabGreat
open Value renaming int → J
open IntKind renaming i64 → Z
open Go.RowKit
attribute [local go_sem ↓] Go.wp_at_zero Go.wp_at_succ
def pkF (c n:Int):Int:=if c<0 then (-(c+1))%n else c%n
theorem XE {c n:Int} (h:0<n):0<=pkF c n/\pkF c n<n:=by
 unfold pkF
 split
 ·exact ⟨Int.emod_nonneg _ (by omega),Int.emod_lt_of_pos _ h⟩
 ·exact ⟨Int.emod_nonneg _ (by omega),Int.emod_lt_of_pos _ h⟩
structure XS (w:World) (wo:Option Addr) (b off m:Nat) (X:Nat->WD):Prop where
 at_:0<m->wo=some ⟨b,off,none⟩
 lt:0<m->b<w.heap.size
 c:∀ i,i<m->∀ j,j<6->w.cell? ⟨b,off+i*6+j,none⟩=[J Z (X i).a,J Z (X i).b,J Z (X i).d,.slice (X i).do_ (X i).dl (X i).dc,.slice (X i).ao (X i).al.length (X i).ac,.slice (X i).po (X i).pl (X i).pcp][j]?
 in_:∀ i,i<m->(X i).In w
 sz:∀ i,i<m->(X i).pl*24<=140737488351232/\(X i).dl*8<=140737488351232/\(X i).al.length*24<=140737488351232
theorem XS.below {w w':World} {wo:Option Addr} {b off m:Nat} {X:Nat->WD} (h:XS w wo b off m X) (hb:Below w.heap.size w w'):XS w' wo b off m X :=
 ⟨h.at_,fun h0=>Nat.lt_of_lt_of_le (h.lt h0) hb.size,fun i hi j hj=>(hb.cell (h.lt (by omega))).trans (h.c i hi j hj),fun i hi=>(h.in_ i hi).below hb,h.sz⟩
theorem qI (c n:Int) (w:World) (c0:-9223372036854775808<=c) (c1:c<=9223372036854775807) (n0:0<n) (n1:n<=9223372036854775807) :
 Calls Tryz.prog 31 #[J Z c,J Z n] w fun e w'=>e=.returned (J Z (pkF c n))/\w'=w:=by
 have g:¬ n=0:=by omega
 by_cases h:c<0
 ·have b:Hid (pkF c n=(-(c+1))%n):=by show _=_;unfold pkF;rw [if_pos h]
  have a:0<=(-(c+1))%n/\(-(c+1))%n<n:=⟨Int.emod_nonneg _ (by omega),Int.emod_lt_of_pos _ (by omega)⟩
  have d:-(c+1).tmod n=(-(c+1))%n:=by rw [<- Int.neg_tmod,Int.tmod_eq_emod_of_nonneg (by omega)]
  rw [<- d] at b a
  have f:Hid (0<=-(c+1).tmod n/\-(c+1).tmod n<n):=a
  clear d a
  go_enter Tryz.func31,Tryz.ntmps31
  go_wp2
  go_ret
  exact ⟨Xd (by rw [b.out]),rfl⟩
 ·have b:Hid (pkF c n=c%n):=by show _=_;unfold pkF;rw [if_neg h]
  have a:0<=c%n/\c%n<n:=⟨Int.emod_nonneg _ (by omega),Int.emod_lt_of_pos _ (by omega)⟩
  have f:Hid (0<=c%n/\c%n<n):=a
  clear a
  go_enter Tryz.func31,Tryz.ntmps31
  go_wp2
  go_ret
  exact ⟨Xd (by rw [b.out]),rfl⟩
section
open Go.ChangeShapes Go.WideShapes Go.ChangeAt Go.RowKit
section
variable {H:Type} {enc:TypeId×Value->H} {w:World} {base:Nat} {spare:Nat->Bool} {held:Bool}
theorem zcC {fuel:Nat} {wo:Option Addr} {m cap:Nat} {d:DataW H} {p:List MemPlace} (h:DataW.trod enc Tryz.prog w base spare held fuel 22 [.slice wo m cap]=some (d,p))
 (hz:∀ k∈d.weights Tryz.prog 22,k<=reachBytes):m*96<=140737488351232/\∃ b off X,XS w wo b off m X:=by
 have z:WD:=⟨0,0,0,none,0,0,0,0,fun _=>0,none,0,0,0,[],none,0,0,0,0,fun _=>0,fun _=>0,fun _=>0⟩
 rcases Deep.open_slice Tryz.underlying22 h with ⟨hcs,hx⟩ | ⟨a,l,c,q,n,D,Pl,hcs,hb,hl,hm,hmm,hx,hel⟩
 ·simp at hcs
  obtain ⟨rfl,rfl,rfl⟩:=hcs
  exact ⟨by omega,0,0,fun _=>z,fun h=>by omega,fun h=>by omega,fun i hi=>by omega,fun i hi=>by omega,fun i hi=>by omega⟩
 ·simp at hcs hx
  obtain ⟨rfl,rfl,rfl⟩:=hcs
  obtain ⟨rfl,_⟩:=hx
  have B:m<=q:=by rw [hmm];split<;>omega
  rw [YN] at hel
  have g:∀ k,k∈(m+(q-m))*96::(DataW.weightsAll Tryz.prog 31 ((List.range m).map D)++DataW.weightsAll Tryz.prog 31 ((List.range (q-m)).map fun j=>D (m+j)))->k<=reachBytes:=by
   intro k v
   refine hz k ?_
   simp only [DataW.weights,Tryz.underlying22,q9,List.length_map,List.length_range]
   exact v
  refine ⟨by have:=g _ (List.mem_cons_self ..);simp only [reachBytes] at this;omega,?_⟩
  haveI:Inhabited WD:=⟨z⟩
  obtain ⟨F,r⟩:=Deep.choose_lt (α:=WD) (n:=m)
   (p:=fun i y=>(∀ j,j<6->w.cell? ((a.add (i*6)).add j)=[J Z y.a,J Z y.b,J Z y.d,.slice y.do_ y.dl y.dc,.slice y.ao y.al.length y.ac,.slice y.po y.pl y.pcp][j]?)/\y.In w/\y.pl*24<=140737488351232/\y.dl*8<=140737488351232/\y.al.length*24<=140737488351232) (fun i hi=>by
   obtain ⟨I,G,E⟩:=hel i (by omega)
   obtain ⟨y,rfl,x,A⟩:=zei E (fun k v=>g k (List.mem_cons_of_mem _ (List.mem_append_left _ (Z2 (d:=D i) (List.mem_map.2 ⟨i,List.mem_range.2 hi,rfl⟩) v))))
   obtain ⟨_,_,C⟩:=World.cells?_some G
   exact ⟨y,C,x,A⟩)
  obtain ⟨b,off,f⟩:=a
  refine ⟨b,off,F,?_⟩
  by_cases u:m=0
  ·subst u
   exact ⟨fun h=>by omega,fun h=>by omega,fun i hi=>by omega,fun i hi=>by omega,fun i hi=>by omega⟩
  ·have o:=(r 0 (by omega)).1 0 (by omega)
   have e:f=none:=by simpa [Addr.add] using World.cell?_spot o
   subst e
   have s:b<w.heap.size:=by
    have:=o
    simp [Addr.add] at this
    exact yw this
   exact ⟨fun _=>rfl,fun _=>s,fun i hi j hj=>by
    have:=(r i hi).1 j hj
    rw [add_plain,add_plain] at this
    exact this,fun i hi=>(r i hi).2.1,fun i hi=>(r i hi).2.2⟩
end
end
theorem ld6 {w w':World} {B:Nat} {a b c d e f:Value} {t:TypeId} {fr:Nat×Nat} (h:w.heap[B]?=some (.cells #[a,b,c,d,e,f] t fr)) (hk:w'.heap[B]?=w.heap[B]?):w'.cell? ⟨B,0,none⟩=some a/\w'.cell? ⟨B,1,none⟩=some b/\w'.cell? ⟨B,2,none⟩=some c/\w'.cell? ⟨B,3,none⟩=some d/\w'.cell? ⟨B,4,none⟩=some e/\w'.cell? ⟨B,5,none⟩=some f:=by
 have g:=hk.trans h
 refine ⟨?_,?_,?_,?_,?_,?_⟩<;>(rw [cell_of_row _ _ _ _ _ _ g];rfl)
theorem ld3 {w:World} {B:Nat} {a b c:Value} {t:TypeId} (h:w.heap[B]?=some (.cells #[a,b,c] t (0,0))):w.cell? ⟨B,0,none⟩=some a/\w.cell? ⟨B,1,none⟩=some b/\w.cell? ⟨B,2,none⟩=some c/\w.frozen? ⟨B,0,none⟩=false/\w.frozen? ⟨B,1,none⟩=false/\w.frozen? ⟨B,2,none⟩=false:=by
 refine ⟨?_,?_,?_,?_,?_,?_⟩
 all_goals first | (rw [cell_of_row _ _ _ _ _ _ h];rfl) | simp [World.frozen?,h]
theorem zce {w:World} {base e size:Nat} {v:Value} {n:Nat} {xs:List Value} {B:Nat} (h:w.ownsRow base e size v n xs) (hne:v.ownBlock≠some B) (x y z:Value):(((w.setCell ⟨B,0,none⟩ x).setCell ⟨B,1,none⟩ y).setCell ⟨B,2,none⟩ z).ownsRow base e size v n xs :=
 zh h (fun g hg=>by
  have a:g≠B:=fun e=>hne (by rw [<- e];exact hg)
  rw [za a,za a,za a])
theorem ST.pushI {w w4:World} {base SB n wv cv sv iv bv cs is bs} {nv v:Value} (h:ST w base SB n wv cv sv iv bv cs is bs) (hg:w.grownBy w4 iv.ownBlock) (hown:w4.ownsRow base 25 1 nv (is.length+1) (is++[v])) (hm:MkL w 3 (J Z (-1000-(is.length:Int))) v) (hn:is.length+1<=n) :
 ST (w4.setCell ⟨SB,3,none⟩ nv) base SB n wv cv sv nv bv cs (is++[v]) bs:=by
 have j:iv.ownBlock≠some SB:=zk h.ir h.blk (by decide)
 have a:=(hg.block SB h.lt (fun e=>j e.symm)).trans h.blk
 have b:∀ (g:Nat) (cur:Array Value),w.heap[g]?=some (.cells cur 3 (0,0))->(w4.setCell ⟨SB,3,none⟩ nv).heap[g]?=w.heap[g]?:=fun g cur hc=>by
  rw [za (fun e=>by subst e;rw [h.blk] at hc;cases hc)]
  exact hg.block g (lt_of_block hc) (fun e=>zk h.ir hc (by decide) e.symm)
 have k:∀ (g:Nat) (cur:Array Value),w.heap[g]?=some (.cells cur 5 (0,0))->(w4.setCell ⟨SB,3,none⟩ nv).heap[g]?=w.heap[g]?:=fun g cur hc=>by
  rw [za (fun e=>by subst e;rw [h.blk] at hc;cases hc)]
  exact hg.block g (lt_of_block hc) (fun e=>zk h.ir hc (by decide) e.symm)
 have d:=h.cr.kept hg (zY h.cr h.ir (by decide))
 have f:=h.br.kept hg (zY h.br h.ir (by decide))
 refine ⟨?_,ownsRow_setCell_other d (zk d a (by decide)) _,?_,ownsRow_setCell_other f (zk f a (by decide)) _,h.ok,fun i v' hv=>?_,fun i v' hv=>(h.bm i v' hv).of_kept k,h.hB,h.nc,by simp;exact hn,h.nb⟩
 ·rw [Yz a];rfl
 ·rw [List.length_append];exact ownsRow_setCell_other hown (zk hown a (by decide)) _
 ·by_cases m:i<is.length
  ·rw [List.getElem?_append_left m] at hv
   exact (h.im i v' hv).of_kept b
  ·rw [List.getElem?_append_right (by omega)] at hv
   have l:i=is.length:=by
    have:=(List.getElem?_eq_some_iff.1 hv).1
    simp at this;omega
   subst l
   simp at hv
   subst hv
   exact hm.of_kept b
theorem zaS (o1 o2:Option Addr) (c1 c2 n:Nat) (D:Nat->Int) (b1 f1 b2 f2:Nat) (w:World) (hn:n<=9223372036854775807) (h1:IS w o1 b1 f1 n D) (h2:IS w o2 b2 f2 n D) :
 Calls Tryz.prog 119 #[.slice o1 n c1,.slice o2 n c2] w fun e w'=>e=.returned (.bool true)/\Below w.heap.size w w':=by
 go_enter Tryz.func119,Tryz.ntmps119
 go_wp2_with fail
 go_loopw [5] (fun x wr=>∃ k:Nat,k<=n/\x=J Z k/\Below w.heap.size w wr) (fun x _=>n-(intOf x).toNat)
 case atStart=>exact ⟨0,by omega,rfl,Below.refl _ _⟩
 case round =>
  obtain ⟨k,o,rfl,a⟩:=hrel
  by_cases b:k<n
  ·obtain rfl:=h1.at_ (by omega)
   obtain rfl:=h2.at_ (by omega)
   have l:Hid (Below w.heap.size w wr):=a
   have j:=h1.lt (by omega)
   have h:=h2.lt (by omega)
   have m:=a.size
   have i:b1<wr.heap.size:=by omega
   have g:b2<wr.heap.size:=by omega
   have r:=(a.cell (p:=⟨b1,f1+k,none⟩) j).trans (h1.val k b)
   have q:=(a.cell (p:=⟨b2,f2+k,none⟩) h).trans (h2.val k b)
   have f:(k:Int)<(n:Int):=by omega
   clear a
   go_wp2_with fail
   go_quiet (fail)
   go_wp2_with fail
   go_roundw
   case rel=>exact ⟨k+1,by omega,by go_num,zL l.out _⟩
   case measure=>simp [intOf];omega
  ·have d:k=n:=by omega
   subst d
   go_wp2_with fail
   go_ret
   exact ⟨rfl,a⟩
theorem XW (w:World):Calls Tryz.prog 71 #[.agg #[.slice none 0 0,J Z 0,J Z 0]] w fun e w'=>e=.returned (.bool true)/\Below w.heap.size w w':=by
 have a:=fun w=>Lib.run_eql_slice_nil (P:=Tryz.prog) w 25 3 none 0 0 0 0 Tryz.underlying25
 simp only [Option.isNone] at a
 have b:Hid (Below w.heap.size w (w.alloc (.cells #[.slice none 0 0,J Z 0,J Z 0] 42))):=(Below.refl _ _).alloc (Nat.le_refl _) _
 go_enter Tryz.func71,Tryz.ntmps71
 go_wp2_with fail
 go_ret
 exact ⟨rfl,b.out⟩
def AnK (base SB n:Nat) (wv cv sv iv bv:Value) (cs:List (ByteArray×ByteArray)) (bs:List Value) (w0 w:World) (e:Ending) (w':World):Prop:=e=.returned (.bool true)/\Below base w w'/\∃ iv' is',ST w' base SB (n+1) wv cv sv iv' bv cs is' bs/\(∀ b,b<w0.heap.size->b≠SB->iv.ownBlock≠some b->w'.heap[b]?=w.heap[b]?)/\∀ g,iv'.ownBlock=some g->iv.ownBlock=some g\/w0.heap.size<=g
theorem jo (base SB n:Nat) (wv cv sv iv bv:Value) (cs:List (ByteArray×ByteArray)) (is bs:List Value) (o1 o2:Option Addr) (k1 k2 b2 f2:Nat) (L:List Int) (t c:Int) (w0 w:World) (hn:(n+1)*56<=140737488355328) (h:ST w0 base SB n wv cv sv iv bv cs is bs) (hbw:Below w0.heap.size w0 w) (hrow:w.ownsRow w0.heap.size 3 1 (.slice o1 L.length k1) L.length (L.map (J Z))) (hi2:IS w o2 b2 f2 L.length (fun i=>(L[i]?).getD 0)) :
 Calls Tryz.prog 73 #[.pointer (some ⟨SB,0,none⟩),.agg #[.slice o1 L.length k1,J Z t,J Z c],.agg #[.slice o2 L.length k2,J Z t,J Z c]] w (AnK base SB n wv cv sv iv bv cs bs w0 w):=by
 obtain ⟨i0,d5,c8,c7,c6⟩:=info_parts Tryz.infoIs
 have H0:Hid (∀ wz,Below w0.heap.size w wz->ST wz base SB (n+1) wv cv sv iv bv cs is bs):=fun wz hb=>(h.below (hbw.trans hb)).mono
 have f7:=h.ni
 have b6:Hid (base<=w0.heap.size):=Nat.le_trans h.hB (Nat.le_of_lt h.lt)
 have e7:Hid _:=h.lt
 have f1:Hid (∀ g,iv.ownBlock=some g->g<w0.heap.size):=fun g hg=>(h.ir.lt g hg).2
 have b9:=hbw.size
 obtain ⟨G,H,c9,_⟩:=z9 h.ir
 subst c9
 have e4:L.length<=9223372036854775807:=by
  rcases hrow.2 with ⟨_,f⟩ | ⟨_,cap,_,_,_,_,f,x,_⟩
  ·omega
  ·have:maxLen=9223372036854775807:=rfl;omega
 obtain ⟨g1,N⟩:=XJ hrow
 have b3:Hid (∀ wz,Below w.heap.size w wz->Calls Tryz.prog 119 #[.slice o1 L.length k1,.slice o2 L.length k2] wz fun e W=>e=.returned (.bool true)/\Below wz.heap.size wz W):=fun wz hb=>zaS o1 o2 k1 k2 L.length _ g1 0 b2 f2 wz e4 (N.below hb N.lt) (hi2.below hb hi2.lt)
 have o:Hid (w.ownsRow w0.heap.size 3 1 (.slice o1 L.length k1) L.length (L.map (J Z))):=hrow
 clear h hbw N hi2 hrow
 have E:Hid (Below w.heap.size w ((w.alloc (.cells #[.slice o1 L.length k1,J Z t,J Z c] 42)).alloc (.cells #[.slice o2 L.length k2,J Z t,J Z c] 42))):=((Below.refl _ _).alloc (Nat.le_refl _) _).alloc (by simp) _
 have S:Hid (((w.alloc (.cells #[.slice o1 L.length k1,J Z t,J Z c] 42)).alloc (.cells #[.slice o2 L.length k2,J Z t,J Z c] 42)).heap[w.heap.size]?=some (.cells #[.slice o1 L.length k1,J Z t,J Z c] 42 (0,0))):=by show _=_;rw [Below.heap_alloc _ _ _ (by simp)];exact heap_alloc_new w _
 have Q:Hid (((w.alloc (.cells #[.slice o1 L.length k1,J Z t,J Z c] 42)).alloc (.cells #[.slice o2 L.length k2,J Z t,J Z c] 42)).heap[w.heap.size+1]?=some (.cells #[.slice o2 L.length k2,J Z t,J Z c] 42 (0,0))):=zu _ (by simp)
 go_enter Tryz.func73,Tryz.ntmps73
 go_wp2_with fail
 refine (b3.out _ E.out).mono ?_
 rintro e F ⟨rfl,C⟩
 have b8:Hid (Below w.heap.size w F):=E.out.trans (C.mono E.out.size)
 have R:Hid _:=(C.block _ (lt_of_block S.out)).trans S.out
 have b1:Hid _:=(C.block _ (lt_of_block Q.out)).trans Q.out
 have X:=lt_of_block b1.out
 obtain ⟨u0,u1,u2,_,_,_⟩:=ld3 R.out
 clear C E S Q b3
 have z:Hid (F.ownsRow w0.heap.size 3 1 (.slice o1 L.length k1) L.length (L.map (J Z))):=zh o.out (fun g hg=>b8.out.block g (o.out.lt g hg).2)
 -- its room: nil,or a row
 obtain ⟨l,k⟩:∃ l:Array Value,(o1=none/\k1=0)\/∃ g,o1=some ⟨g,0,none⟩/\w0.heap.size<=g/\g<w.heap.size/\F.heap[g]?=some (.cells l 3 (0,0))/\l.size=k1/\k1<=9223372036854775807:=by
  rcases z.out.2 with ⟨f,_⟩ | ⟨g',cap,m,f,x,h4,_,h6,h7,_⟩
  ·injection f with e1 e2 e3;exact ⟨#[],.inl ⟨e1,e3⟩⟩
  ·injection f with e1 e2 e3;subst e1 e3;exact ⟨m,.inr ⟨g',rfl,x,(o.out.lt g' rfl).2,h4,by omega,h6⟩⟩
 have g0:L.length<=k1:=by obtain ⟨_,_,f,x⟩:=z9 o.out;injection f with e1 e2 e3;omega
 clear o z
 go_wp2_with fail
 obtain ⟨mk,K⟩:∃ mk:Int,-1000-(is.length:Int)=mk:=⟨_,rfl⟩
 have e8:Hid _:=K
 have e9:Hid (∀ wz,Calls Tryz.prog 38 #[J Z is.length] wz fun e W=>e=.returned (J Z mk)/\W=wz):=fun wz=>by have:=XX is.length wz (by omega);rw [K] at this;exact this
 clear K
 have b7:Hid (Below w0.heap.size w F):=b8.out.mono b9
 go_loopg [9] k1 (fun q y wr=>∃ (i:Nat) (m:Array Value),q+i=k1/\y=J Z i/\Hid (∀ g,o1=some ⟨g,0,none⟩->wr.heap[g]?=some (.cells m 3 (0,0))/\m.size=k1/\∀ j,j<i->m[j]?=some (J Z mk))/\Hid (∀ b,b<F.heap.size->(∀ g,o1=some ⟨g,0,none⟩->b≠g)->wr.heap[b]?=F.heap[b]?)/\Hid (Below w0.heap.size w wr)/\F.heap.size<=wr.heap.size)
 case atStart =>
  refine ⟨0,l,by omega,rfl,fun g hg=>?_,fun b _ _=>rfl,b7,Nat.le_refl _⟩
  rcases k with ⟨f,_⟩ | ⟨g',f,_,_,x,P,_⟩
  ·rw [f] at hg;cases hg
  ·rw [f] at hg;cases hg;exact ⟨x,P,fun j hj=>by omega⟩
 case round =>
  obtain ⟨i,m,hq,rfl,b5,U,HB,c5⟩:=hrel
  have s:Hid (ST wr base SB (n+1) wv cv sv (.slice G is.length H) bv cs is bs):=H0.out wr HB.out
  have c3:=s.out.c 3
  simp only [List.getElem?_toArray,List.getElem?_cons_succ,List.getElem?_cons_zero] at c3
  by_cases f8:i<k1
  ·obtain ⟨g,rfl,d6,g2,_,_,f9⟩:∃ g,o1=some ⟨g,0,none⟩/\w0.heap.size<=g/\g<w.heap.size/\F.heap[g]?=some (.cells l 3 (0,0))/\l.size=k1/\k1<=9223372036854775807:=by
    rcases k with ⟨_,f⟩ | f
    ·omega
    ·exact f
   obtain ⟨B,d7,a5⟩:=b5.out g rfl
   have HC:Hid _:=B
   have f3:Hid _:=a5
   obtain ⟨g6,f5⟩:∃ v,wr.cell? ⟨g,i,none⟩=some v:=⟨m[i]'(by omega),by rw [cell_of_row _ _ _ _ _ _ B];exact Array.getElem?_eq_getElem (by omega)⟩
   have g3:wr.frozen? ⟨g,i,none⟩=false:=by simp [World.frozen?,B]
   have a2:(i:Int)<(k1:Int):=by omega
   clear B a5
   go_wp2_with fail
   refine (e9.out _).mono ?_
   rintro e W ⟨rfl,f6⟩
   subst W
   go_wp2_with fail
   go_roundg (gk-1)
   case measure=>omega
   case rel =>
    refine ⟨i+1,m.setIfInBounds i (J Z mk),by omega,by go_num,fun g' hg'=>?_,fun b hb hne=>?_,HB.out.setCell d6 _,by simpa [World.setCell] using c5⟩
    ·cases hg'
     refine ⟨zeQ HC.out,by simp [d7],fun j hj=>?_⟩
     rw [Array.getElem?_setIfInBounds]
     by_cases a4:i=j
     ·rw [if_pos a4,if_pos (by omega)]
     ·rw [if_neg a4];exact f3.out j (by omega)
    ·rw [za (hne g rfl)];exact U.out b hb hne
  ·have d0:i=k1:=by omega
   subst d0
   have O:∀ g,o1=some ⟨g,0,none⟩->g<w.heap.size/\i<=9223372036854775807:=fun g hg=>by
    rcases k with ⟨f,_⟩ | ⟨g',f,_,x,_,_,P⟩
    ·rw [f] at hg;cases hg
    ·rw [f] at hg;cases hg;exact ⟨x,P⟩
   have e0:Hid (MkL wr 3 (J Z (-1000-(is.length:Int))) (.slice o1 i i)):=by
    rw [e8.out]
    refine ⟨o1,i,rfl,?_,fun h0=>?_⟩
    ·rcases k with ⟨_,f⟩ | ⟨g',f,_⟩
     ·omega
     ·exact (O g' f).2
    ·rcases k with ⟨_,f⟩ | ⟨g',f,_⟩
     ·omega
     ·obtain ⟨x,P,h4⟩:=b5.out g' f
      exact ⟨g',m,f,x,P,h4⟩
   have d9:=(U.out w.heap.size (lt_of_block R.out) (fun g hg=>by have:=(O g hg).1;omega)).trans R.out
   have d8:=(U.out (w.heap.size+1) X (fun g hg=>by have:=(O g hg).1;omega)).trans b1.out
   obtain ⟨p0,p1,p2,_,_,_⟩:=ld3 d9
   obtain ⟨r0,r1,r2,_,_,_⟩:=ld3 d8
   have a6:base<=wr.heap.size:=by have:=b6.out;omega
   have g5:=e7.out
   have a2:¬ (i:Int)<(i:Int):=by omega
   have e6:Hid (is.length+1<=maxLen):=by show _<=_;unfold maxLen;omega
   have e5:Hid ((is.length+1)*24<=140737488355328):=by show _<=_;omega
   have b0:Hid (base<=(wr.alloc (.cells #[.slice o1 i i] 25)).heap.size):=by show _<=_;simp;omega
   have a0:Hid (∀ u∈[Value.slice o1 i i],u.oneCell'=true):=fun u hu=>by simp at hu;subst hu;rfl
   have D:Hid (ST (wr.alloc (.cells #[.slice o1 i i] 25)) base SB (n+1) wv cv sv (.slice G is.length H) bv cs is bs):=s.out.below ((Below.refl _ _).alloc (Nat.le_refl _) _)
   have f0:Hid (MkL (wr.alloc (.cells #[.slice o1 i i] 25)) 3 (J Z (-1000-(is.length:Int))) (.slice o1 i i)):=e0.out.of_kept (fun q _ hq=>Below.heap_alloc _ _ _ (lt_of_block hq))
   have r:Hid (∀ b,w.heap.size<=b->some b≠(Value.slice G is.length H).ownBlock):=fun b hb e=>by have:=f1.out b e.symm;omega
   have b4:Hid (some SB≠(Value.slice G is.length H).ownBlock):=fun e=>zk s.out.ir s.out.blk (by decide) e.symm
   have f4:w.heap.size+1<wr.heap.size:=by omega
   go_wp2_with (at_builtin;refine wpList_append_lies _ rfl (.tmp 40) (.tmp 42) 28 rfl base 25 i0 _ 1 24 Tryz.underlying28 d5 c8 c7 c6 rfl (by decide) (.slice G is.length H) _ _ rfl D.out.ir ⟨wr.heap.size,0,none⟩ 1 1 [.slice o1 i i] rfl rfl (World.news_of_block (cs:=#[.slice o1 i i]) (t:=25) (fr:=(0,0)) (heap_alloc_new wr _)) a0.out (Nat.lt_succ_self 0) e6.out e5.out b0.out (wr.heap.size+1) (by simp) ?_;intro V p A I d a9 a1;have zz:A.frozen? ⟨SB,3,none⟩=false:=(d.frozen_far ⟨SB,3,none⟩ (by simp;omega) b4.out).trans (D.out.fz 3);have g7:A.cell? ⟨SB,3,none⟩=some (.slice G is.length H):=(d.cell_far ⟨SB,3,none⟩ (by simp;omega) b4.out).trans (D.out.c 3);have d1:A.cell? ⟨w.heap.size,1,none⟩=some (J Z t):=(d.cell_far ⟨w.heap.size,1,none⟩ (by simp;omega) (r.out _ (Nat.le_refl _))).trans (zB p1 _);have d2:A.cell? ⟨w.heap.size,2,none⟩=some (J Z c):=(d.cell_far ⟨w.heap.size,2,none⟩ (by simp;omega) (r.out _ (Nat.le_refl _))).trans (zB p2 _);have d3:A.cell? ⟨w.heap.size+1,1,none⟩=some (J Z t):=(d.cell_far ⟨w.heap.size+1,1,none⟩ (by simp;omega) (r.out _ (by simp only;omega))).trans (zB r1 _);have d4:A.cell? ⟨w.heap.size+1,2,none⟩=some (J Z c):=(d.cell_far ⟨w.heap.size+1,2,none⟩ (by simp;omega) (r.out _ (by simp only;omega))).trans (zB r2 _);have Y:Hid (ST (A.setCell ⟨SB,3,none⟩ (.slice (some ⟨V,0,none⟩) (is.length+1) p)) base SB (n+1) wv cv sv (.slice (some ⟨V,0,none⟩) (is.length+1) p) bv cs (is++[.slice o1 i i]) bs):=D.out.pushI d I f0.out (by omega);have a7:Hid (Below base w (A.setCell ⟨SB,3,none⟩ (.slice (some ⟨V,0,none⟩) (is.length+1) p))):=(((HB.out.mono b6.out).alloc a6 _).grown d b0.out (fun q hq=>(s.out.ir.lt q hq).1)).setCell s.out.hB _;have a3:Hid (∀ b,b<w0.heap.size->b≠SB->(Value.slice G is.length H).ownBlock≠some b->(A.setCell ⟨SB,3,none⟩ (.slice (some ⟨V,0,none⟩) (is.length+1) p)).heap[b]?=w.heap[b]?):=(fun b f x P=>by rw [za x,d.block b (by simp;omega) (fun e=>P e.symm),Below.heap_alloc _ _ _ (by omega),HB.out.block b f]);have a8:Hid ((Value.slice G is.length H).ownBlock=some V\/w0.heap.size<=V):=(a9.imp id (fun e=>by omega));clear I d a9 a1)
   go_ret
   exact ⟨rfl,a7.out,_,_,Y.out,a3.out,fun g hg=>by cases hg;exact a8.out⟩
end Go.Proofs.YtaebngpoagjafabGreat
