/-
  OUR OWN.
-/
import Derived.Test.YtaebngpoagjafaaGreatU13
import Derived.Test.YtaebngpoagjafaaGreatU14
set_option maxRecDepth 100000
namespace Go.Proofs.YtaebngpoagjafaaGreat
open Go.RowKit
attribute [local go_sem ↓] Go.wp_at_zero Go.wp_at_succ
set_option maxHeartbeats 1600000 in
theorem item_bits (ex:Int->Nat->Nat->Bool->CR) (base B:Nat) (s:ByteArray) (d:Int) (k:Nat) (b:Bool) (ev rv:Value) (es:List (EX×Value)) (rs:List RL) (w:World) (n:Nat) (hX:ExprOK ex s base B rs n) (h0:0<=d) (h1:d+1<=k) (hl:es.length<=k) (hn:b=true\/s.size-k<n) (hs:s.size<=2000) (hk:k<=s.size) (h:PM w base B s k b ev rv es rs) (R:CI) (hR:Hid ((cItem ex s 109 d es.length k b)=R)) :
   Calls Tryz.prog 184 #[.pointer (some ⟨B,0,none⟩),.int .u8 109,.int .i64 d] w fun e w'=>e=.returned (.agg #[.int .i64 R.im.at_,.int .i64 R.im.num,.int .i64 R.im.pv,.int .i64 R.im.pl,.int .i64 R.im.wv,.int .i64 R.im.wa,.int .i64 R.im.arm])/\∃ ev' new,new.map Prod.fst=R.es/\PM w' base B s R.k R.b ev' rv (es++new) rs/\Mv base B ev rv ev' rv w w'/\∀ p∈new,∀ g,p.2.ownBlock=some g->w.heap.size<=g:=by
 have H:Hid (PM (w.alloc (.cells #[.int .i64 0,.int .i64 0,.int .i64 0,.int .i64 0,.int .i64 0,.int .i64 0,.int .i64 0] 167)) base B s k b ev rv es rs):=h.alloc _
 have HM0:Hid (Mv base B ev rv ev rv w (w.alloc (.cells #[.int .i64 0,.int .i64 0,.int .i64 0,.int .i64 0,.int .i64 0,.int .i64 0,.int .i64 0] 167))):=Mv.alloc h.bs _
 have hou:=h.outNew
 have hbs:=h.bs
 have HFr:Hid (Fre w.heap.size es):=h.fre (Nat.le_refl _)
 clear h
 go_enter Tryz.func184,Tryz.ntmps184
 go_wp2_with fail
 refine (skip_any base B s k b ev rv es rs _ hs hk H.out).mono ?_
 rintro e w1 ⟨rfl,hp,hm⟩
 have rh:Hid (w1.heap[w.heap.size]?=some (.cells #[.int .i64 0,.int .i64 0,.int .i64 0,.int .i64 0,.int .i64 0,.int .i64 0,.int .i64 0] 167 (0,0))):=(hm.kept _ (by simp) hou).1.trans (heap_alloc_new w _)
 have hpk:skipF s k b<=s.size:=skipF_le hk
 have hkp:k<=skipF s k b:=by unfold skipF;split<;>first | exact Nat.le_refl _ | exact T.sk_ge s k
 unfold cItem at hR
 generalize skipF s k b=p at *
 have HP:Hid (PM (w1.alloc (.cells #[.int .i64 p,.int .i64 0,.int .i64 0,.int .i64 0,.int .i64 0,.int .i64 0,.int .i64 (-1)] 167)) base B s p b ev rv es rs):=hp.alloc _
 have HM:Hid (Mv base B ev rv ev rv w (w1.alloc (.cells #[.int .i64 p,.int .i64 0,.int .i64 0,.int .i64 0,.int .i64 0,.int .i64 0,.int .i64 (-1)] 167))):=(HM0.out.trans hm).trans (Mv.alloc hp.bs _)
 have hxou:=hp.outNew
 have HFx:Hid (Fre w1.heap.size es):=hp.fre (Nat.le_refl _)
 have hwl1:w.heap.size<w1.heap.size:=lt_of_block rh.out
 have RH:Hid ((w1.alloc (.cells #[.int .i64 p,.int .i64 0,.int .i64 0,.int .i64 0,.int .i64 0,.int .i64 0,.int .i64 (-1)] 167)).heap[w.heap.size]?=some (.cells #[.int .i64 0,.int .i64 0,.int .i64 0,.int .i64 0,.int .i64 0,.int .i64 0,.int .i64 0] 167 (0,0))):=(Below.heap_alloc _ _ _ hwl1).trans rh.out
 have XH:Hid ((w1.alloc (.cells #[.int .i64 p,.int .i64 0,.int .i64 0,.int .i64 0,.int .i64 0,.int .i64 0,.int .i64 (-1)] 167)).heap[w1.heap.size]?=some (.cells #[.int .i64 p,.int .i64 0,.int .i64 0,.int .i64 0,.int .i64 0,.int .i64 0,.int .i64 (-1)] 167 (0,0))):=heap_alloc_new w1 _
 have c1:=hp.c1
 clear hp hm rh
 have hbn:=fun w=>buildIt p (-1) w
 have hfn:=fun a b w=>fieldNum a b w
 have hne:w.heap.size≠B:=hou.1
 have hn5:w.heap.size≠w1.heap.size:=by omega
 have hn3:w1.heap.size≠B:=hxou.1
 go_wp2_with fail
 clear c1
 refine (bits_any base B s p b ev rv es rs _ hs hpk HP.out).mono ?_
 rintro e w2 ⟨rfl,hp,hm⟩
 have Pw2:Hid (PM w2 base B s (btK s p b) (btX s p b) ev rv es rs):=hp
 have Mw2:Hid (Mv base B ev rv ev rv w w2):=(HM.out).trans hm
 have rh:Hid (w2.heap[w.heap.size]?=some (.cells #[.int .i64 0,.int .i64 0,.int .i64 0,.int .i64 0,.int .i64 0,.int .i64 0,.int .i64 0] 167 (0,0))):=(hm.kept _ (by first | (simp;omega) | (simp [World.size_setCell];exact SZR.out)) hou).1.trans (RH.out)
 have xh:Hid (w2.heap[w1.heap.size]?=some (.cells #[.int .i64 p,.int .i64 0,.int .i64 0,.int .i64 0,.int .i64 0,.int .i64 0,.int .i64 (-1)] 167 (0,0))):=(hm.kept _ (by first | (simp;done) | (simp [World.size_setCell];exact SZX.out)) hxou).1.trans (XH.out)
 have SZR:Hid (w.heap.size<w2.heap.size):=lt_of_block rh.out
 have SZX:Hid (w1.heap.size<w2.heap.size):=lt_of_block xh.out
 clear hp hm
 have x0:w2.cell? ⟨w1.heap.size,0,none⟩=some (.int .i64 p):=by simp [World.cell?,xh.out]
 have x1:w2.cell? ⟨w1.heap.size,1,none⟩=some (.int .i64 0):=by simp [World.cell?,xh.out]
 have x2:w2.cell? ⟨w1.heap.size,2,none⟩=some (.int .i64 0):=by simp [World.cell?,xh.out]
 have x3:w2.cell? ⟨w1.heap.size,3,none⟩=some (.int .i64 0):=by simp [World.cell?,xh.out]
 have x4:w2.cell? ⟨w1.heap.size,4,none⟩=some (.int .i64 0):=by simp [World.cell?,xh.out]
 have x5:w2.cell? ⟨w1.heap.size,5,none⟩=some (.int .i64 0):=by simp [World.cell?,xh.out]
 have x6:w2.cell? ⟨w1.heap.size,6,none⟩=some (.int .i64 (-1)):=by simp [World.cell?,xh.out]
 have xz:∀ j,w2.frozen? ⟨w1.heap.size,j,none⟩=false:=fun j=>by simp [World.frozen?,xh.out]
 go_wp2_with fail
 clear x0 x1 x2 x3 x4 x5 x6 xz
 refine (want_any base B s 58 _ _ ev rv es rs _ hs (btK_le hpk) (by decide) ((Pw2.out.setI ⟨_,_,xh.out⟩ HFx.out).setI (HasT.set ⟨_,_,xh.out⟩ _ _ _) HFx.out)).mono ?_
 rintro e w3 ⟨rfl,hp,hm⟩
 have Pw3:Hid (PM w3 base B s (takeK s 58 (btK s p b) (btX s p b)) (wantB s 58 (btK s p b) (btX s p b)) ev rv es rs):=hp
 have Mw3:Hid (Mv base B ev rv ev rv w w3):=((Mw2.out.setNew (by omega) (by omega) _).setNew (by omega) (by omega) _).trans hm
 have rh:Hid (w3.heap[w.heap.size]?=some (.cells #[.int .i64 0,.int .i64 0,.int .i64 0,.int .i64 0,.int .i64 0,.int .i64 0,.int .i64 0] 167 (0,0))):=(hm.kept _ (by first | (simp;omega) | (simp [World.size_setCell];exact SZR.out)) hou).1.trans (by rw [heap_set_ne hn5,heap_set_ne hn5];exact rh.out)
 have xh:Hid (w3.heap[w1.heap.size]?=some (.cells #[.int .i64 p,.int .i64 0,.int .i64 (btV s p b),.int .i64 (btL s p b),.int .i64 0,.int .i64 0,.int .i64 (-1)] 167 (0,0))):=(hm.kept _ (by first | (simp;done) | (simp [World.size_setCell];exact SZX.out)) hxou).1.trans (blk7_set (blk7_set xh.out))
 have SZR:Hid (w.heap.size<w3.heap.size):=lt_of_block rh.out
 have SZX:Hid (w1.heap.size<w3.heap.size):=lt_of_block xh.out
 clear hp hm
 go_wp2_with fail
 have hk3:takeK s 58 (btK s p b) (btX s p b)<=s.size:=takeK_le (by decide) (btK_le hpk)
 have hg3:k<=takeK s 58 (btK s p b) (btX s p b):=Nat.le_trans hkp (Nat.le_trans (btK_ge hpk) (takeK_ge _ _ _ _))
 have hn3':wantB s 58 (btK s p b) (btX s p b)=true\/s.size-takeK s 58 (btK s p b) (btX s p b)<n:=by
   rcases hn with hn | hn
   · exact .inl (wantB_bad (btX_bad hn))
   · exact .inr (by omega)
 refine (hX (d+1) _ _ ev rv es _ hk3 (by omega) (by omega) (by omega) hn3' Pw3.out).mono ?_
 rintro e w4 ⟨rfl,ev',new,hnew,hp,hm,hfr⟩
 generalize ex (d+1) es.length (takeK s 58 (btK s p b) (btX s p b)) (wantB s 58 (btK s p b) (btX s p b))=r at *
 have Pw4:Hid (PM w4 base B s r.k r.b ev' rv (es++new) rs):=hp
 have Mw4:Hid (Mv base B ev rv ev' rv w w4):=Mw3.out.trans hm
 have rh4:Hid (w4.heap[w.heap.size]?=some (.cells #[.int .i64 0,.int .i64 0,.int .i64 0,.int .i64 0,.int .i64 0,.int .i64 0,.int .i64 0] 167 (0,0))):=(hm.kept _ SZR.out hou).1.trans rh.out
 have xh4:Hid (w4.heap[w1.heap.size]?=some (.cells #[.int .i64 p,.int .i64 0,.int .i64 (btV s p b),.int .i64 (btL s p b),.int .i64 0,.int .i64 0,.int .i64 (-1)] 167 (0,0))):=(hm.kept _ SZX.out hxou).1.trans xh.out
 have HFr4:Hid (Fre w.heap.size (es++new)):=HFr.out.app (fun p hp e=>by have:=hfr p hp _ e;have:=SZR.out;omega)
 have HFx4:Hid (Fre w1.heap.size (es++new)):=HFx.out.app (fun p hp e=>by have:=hfr p hp _ e;have:=SZX.out;omega)
 have HNW:Hid (new.map Prod.fst=r.es):=hnew
 have HFF:Hid (∀ p∈new,∀ g,p.2.ownBlock=some g->w.heap.size<=g):=fun p hp g hg=>by have:=hfr p hp g hg;have:=SZR.out;omega
 clear hp hm hfr hnew
 have x0:w4.cell? ⟨w1.heap.size,0,none⟩=some (.int .i64 p):=by simp [World.cell?,xh4.out]
 have x1:w4.cell? ⟨w1.heap.size,1,none⟩=some (.int .i64 0):=by simp [World.cell?,xh4.out]
 have x2:w4.cell? ⟨w1.heap.size,2,none⟩=some (.int .i64 (btV s p b)):=by simp [World.cell?,xh4.out]
 have x3:w4.cell? ⟨w1.heap.size,3,none⟩=some (.int .i64 (btL s p b)):=by simp [World.cell?,xh4.out]
 have x4:w4.cell? ⟨w1.heap.size,4,none⟩=some (.int .i64 0):=by simp [World.cell?,xh4.out]
 have x5:w4.cell? ⟨w1.heap.size,5,none⟩=some (.int .i64 0):=by simp [World.cell?,xh4.out]
 have x6:w4.cell? ⟨w1.heap.size,6,none⟩=some (.int .i64 (-1)):=by simp [World.cell?,xh4.out]
 have xz:∀ j,w4.frozen? ⟨w1.heap.size,j,none⟩=false:=fun j=>by simp [World.frozen?,xh4.out]
 have r0:w4.cell? ⟨w.heap.size,0,none⟩=some (.int .i64 0):=by simp [World.cell?,rh4.out]
 have r1:w4.cell? ⟨w.heap.size,1,none⟩=some (.int .i64 0):=by simp [World.cell?,rh4.out]
 have r2:w4.cell? ⟨w.heap.size,2,none⟩=some (.int .i64 0):=by simp [World.cell?,rh4.out]
 have r3:w4.cell? ⟨w.heap.size,3,none⟩=some (.int .i64 0):=by simp [World.cell?,rh4.out]
 have r4:w4.cell? ⟨w.heap.size,4,none⟩=some (.int .i64 0):=by simp [World.cell?,rh4.out]
 have r5:w4.cell? ⟨w.heap.size,5,none⟩=some (.int .i64 0):=by simp [World.cell?,rh4.out]
 have r6:w4.cell? ⟨w.heap.size,6,none⟩=some (.int .i64 0):=by simp [World.cell?,rh4.out]
 have rz:∀ j,w4.frozen? ⟨w.heap.size,j,none⟩=false:=fun j=>by simp [World.frozen?,rh4.out]
 go_wp2_with fail
 exact bodyPost_ret (v:=.agg #[.int .i64 p,.int .i64 0,.int .i64 (btV s p b),.int .i64 (btL s p b),.int .i64 0,.int .i64 0,.int .i64 r.idx]) (by simp [results,Tryz.results184,go_sem,r0,r1,r2,r3,r4,r5,r6]) rfl ⟨by rw [<- hR.out];rfl,ev',new,by rw [<- hR.out];exact HNW.out,by rw [<- hR.out];exact (Pw4.out.setI ⟨_,_,xh4.out⟩ HFx4.out).setI7 (HasT.set ⟨_,_,rh4.out⟩ _ _ _) HFr4.out,(Mw4.out.setNew (by omega) (by omega) _).setNew7 (Nat.le_refl _) hbs _ _ _ _ _ _ _,HFF.out⟩
end Go.Proofs.YtaebngpoagjafaaGreat
namespace Go.Proofs.YtaebngpoagjafaaGreat
open Go.RowKit
theorem Tryz.infoItem:(Tryz.prog.info? 167).map (fun i=>(i.zero,i.size,i.bytes))=some (some (.agg #[.int .i64 0,.int .i64 0,.int .i64 0,.int .i64 0,.int .i64 0,.int .i64 0,.int .i64 0]),7,56):=by kernel_rfl
def ExMono (ex:Int->Nat->Nat->Bool->CR) (s:ByteArray):Prop:=∀ d m k b,k<=s.size->k<=(ex d m k b).k/\(ex d m k b).k<=s.size/\(ex d m k b).es.length+k<=(ex d m k b).k
theorem cItem_mono {ex:Int->Nat->Nat->Bool->CR} {s:ByteArray} (hX:ExMono ex s) (kind d:Int) (m k:Nat) (b:Bool) (hk:k<=s.size) :
   k<=(cItem ex s kind d m k b).k/\(cItem ex s kind d m k b).k<=s.size/\(cItem ex s kind d m k b).es.length+k<=(cItem ex s kind d m k b).k:=by
 have hp:=skipF_le (b:=b) hk
 have hg:=skipF_ge s k b
 unfold cItem
 generalize skipF s k b=p at *
 simp only
 split
 · have h1:=btK_ge (b:=b) hp
   have h2:=takeK_ge s 58 (btK s p b) (btX s p b)
   have h3:=hX (d+1) m (takeK s 58 (btK s p b) (btX s p b)) (wantB s 58 (btK s p b) (btX s p b)) (takeK_le (by decide) (btK_le hp))
   simp only
   omega
 · split
   · have h1:=numK_ge (b:=b) hp
     have h2:=takeK_ge s 58 (numK s p b) (numX s p b)
     have h3:=hX (d+1) m (takeK s 58 (numK s p b) (numX s p b)) (wantB s 58 (numK s p b) (numX s p b)) (takeK_le (by decide) (numK_le hp))
     simp only
     omega
   · split
     · have h1:=numK_ge (b:=b) hp
       have h2:=takeK_ge s 42 (numK s p b) (numX s p b)
       have h4:=takeK_le (c:=42) (b:=numX s p b) (by decide) (numK_le (b:=b) hp)
       have h3:=numK_ge (b:=wantB s 42 (numK s p b) (numX s p b)) h4
       have h5:=numK_le (b:=wantB s 42 (numK s p b) (numX s p b)) h4
       simp only [List.length_nil]
       omega
     · have h1:=numK_ge (b:=b) hp
       have h2:=numK_le (b:=b) hp
       simp only [List.length_nil]
       omega
def ExBad (ex:Int->Nat->Nat->Bool->CR):Prop:=∀ d m k,(ex d m k true).b=true
theorem cItem_bad {ex:Int->Nat->Nat->Bool->CR} {s:ByteArray} (hX:ExBad ex) (kind d:Int) (m k:Nat) {b:Bool} (hb:b=true):(cItem ex s kind d m k b).b=true:=by
 subst hb
 unfold cItem
 simp only [btX_bad,numX_bad,wantB_bad]
 split
 · exact hX _ _ _
 · split
   · exact hX _ _ _
   · split<;>rfl
structure CL where
 ims:List IM
 es:List EX
 k:Nat
 b:Bool
def cItems (ex:Int->Nat->Nat->Bool->CR) (s:ByteArray) (kind d:Int):Nat->Nat->Nat->Bool->CL
 | 0,_,k,b=>⟨[],[],k,b⟩
 | n+1,m,k,b =>
   let r:=cItem ex s kind d m k b
   if takeB s 44 r.k r.b=true then
     let q:=cItems ex s kind d n (m+r.es.length) (takeK s 44 r.k r.b) r.b
     ⟨r.im::q.ims,r.es++q.es,q.k,q.b⟩
   else ⟨[r.im],r.es,takeK s 44 r.k r.b,r.b⟩
def itemKind (c:Int):Prop:=c=123\/c=102\/c=119\/c=103\/c=109
theorem itemP_any (ex:Int->Nat->Nat->Bool->CR) (base B:Nat) (s:ByteArray) (c d:Int) (k:Nat) (b:Bool) (ev rv:Value) (es:List (EX×Value)) (rs:List RL) (w:World) (n:Nat) (hX:ExprOK ex s base B rs n) (h0:0<=d) (h1:d+1<=k) (hl:es.length<=k) (hn:b=true\/s.size-k<n) (hs:s.size<=2000) (hk:k<=s.size) (hc:itemKind c) (h:PM w base B s k b ev rv es rs) (R:CI) (hR:Hid (cItem ex s c d es.length k b=R)) :
   Calls Tryz.prog 184 #[.pointer (some ⟨B,0,none⟩),.int .u8 c,.int .i64 d] w fun e w'=>e=.returned (.agg #[.int .i64 R.im.at_,.int .i64 R.im.num,.int .i64 R.im.pv,.int .i64 R.im.pl,.int .i64 R.im.wv,.int .i64 R.im.wa,.int .i64 R.im.arm])/\∃ ev' new,new.map Prod.fst=R.es/\PM w' base B s R.k R.b ev' rv (es++new) rs/\Mv base B ev rv ev' rv w w'/\∀ p∈new,∀ g,p.2.ownBlock=some g->w.heap.size<=g:=by
 rcases hc with rfl | rfl | rfl | rfl | rfl
 · exact item_servers ex base B s d k b ev rv es rs w hs hk h R hR
 · exact item_chain ex base B s d k b ev rv es rs w hs hk h R hR
 · exact item_pool ex base B s d k b ev rv es rs w hs hk h R hR
 · exact item_region ex base B s d k b ev rv es rs w n hX h0 h1 hl hn hs hk h R hR
 · exact item_bits ex base B s d k b ev rv es rs w n hX h0 h1 hl hn hs hk h R hR
theorem owns_of_block {w w':World} {base e size:Nat} {v:Value} {n:Nat} {xs:List Value} (h:w.ownsRow base e size v n xs) (hk:∀ g,v.ownBlock=some g->w'.heap[g]?=w.heap[g]?):w'.ownsRow base e size v n xs:=by
 refine ⟨h.1,?_⟩
 rcases h.2 with h0 | ⟨g,cap,cur,rfl,h1,h2,h3⟩
 · exact .inl h0
 · exact .inr ⟨g,cap,cur,rfl,h1,(hk g rfl).trans h2,h3⟩
theorem owns_ne2 {w:World} {base e size e2 size2:Nat} {v v2:Value} {n n2:Nat} {xs xs2:List Value} (h:w.ownsRow base e size v n xs) (h2:w.ownsRow base e2 size2 v2 n2 xs2) (hne:e≠e2):v.ownBlock=none\/v.ownBlock≠v2.ownBlock:=by
 rcases h.2 with ⟨rfl,_⟩ | ⟨g,cap,cur,rfl,_,hg,_⟩
 · exact .inl rfl
 · right
   intro e
   have:=owns_ne h2 hg hne
   exact this e.symm
theorem PM.grown {w w':World} {base B s k b ev rv es rs} (h:PM w base B s k b ev rv es rs) {v:Value} {n:Nat} {xs:List Value} (hrow:w.ownsRow base 167 7 v n xs) (hg:w.grownBy w' v.ownBlock) (hF:∀ g,v.ownBlock=some g->Fre g es):PM w' base B s k b ev rv es rs :=
 ⟨(hg.block B h.lt (fun e=>owns_ne hrow h.blk (by decide) e.symm)).trans h.blk,h.ex.kept hg (owns_ne2 h.ex hrow (by decide)),h.rl.kept hg (owns_ne2 h.rl hrow (by decide)),fun p hp=>(h.it p hp).kept hg (by
   cases hv:v.ownBlock with
   | none=>cases hq:p.2.ownBlock with
     | none=>exact .inl rfl
     | some q=>exact .inr (by simp)
   | some g=>exact .inr (hF g hv p hp)),h.hB⟩
theorem PM.outI {w:World} {base B s k b ev rv es rs} (h:PM w base B s k b ev rv es rs) {v:Value} {n:Nat} {xs:List Value} (hrow:w.ownsRow base 167 7 v n xs) {g:Nat} (hg:v.ownBlock=some g):Out B ev rv g :=
 ⟨fun e=>owns_ne hrow h.blk (by decide) (by rw [hg,e]),fun e=>(by
   rcases owns_ne2 h.ex hrow (by decide) with h | h
   · rw [h] at e;cases e
   · exact h (e.trans hg.symm)),fun e=>(by
   rcases owns_ne2 h.rl hrow (by decide) with h | h
   · rw [h] at e;cases e
   · exact h (e.trans hg.symm))⟩
theorem Mv.grown {base B:Nat} {a b c d:Value} {w w1 w2:World} (h:Mv base B a b c d w w1) {row:Option Nat} (hg:w1.grownBy w2 row) (hb:base<=w1.heap.size) (hr:∀ g,row=some g->w.heap.size<=g/\base<=g):Mv base B a b c d w w2 :=
 ⟨h.bel.grown hg hb (fun q hq=>(hr q hq).2),fun x hx ho=>⟨(hg.block x (Nat.lt_of_lt_of_le hx h.bel.size) (fun e=>by have:=(hr x e.symm).1;omega)).trans (h.kept x hx ho).1,(h.kept x hx ho).2⟩⟩
theorem heap_alloc_at {w:World} {k:Nat} (o:Obj) (h:k=w.heap.size):(w.alloc o).heap[k]?=some o:=by subst h;exact heap_alloc_new w o
attribute [local go_sem ↓] Go.wp_at_zero Go.wp_at_succ
set_option maxHeartbeats 800000 in
theorem items_any (ex:Int->Nat->Nat->Bool->CR) (base B:Nat) (s:ByteArray) (c d:Int) (k:Nat) (b:Bool) (ev rv:Value) (es:List (EX×Value)) (rs:List RL) (w:World) (n:Nat) (hX:ExprOK ex s base B rs n) (hM:ExMono ex s) (hB:ExBad ex) (h0:0<=d) (h1:d+1<=k) (hl:es.length<=k) (hn:b=true\/s.size-k<n) (hs:s.size<=2000) (hk:k<=s.size) (hc:itemKind c) (h:PM w base B s k b ev rv es rs) (R:CL) (hR:Hid (cItems ex s c d (s.size+1-k) es.length k b=R)) :
   Calls Tryz.prog 178 #[.pointer (some ⟨B,0,none⟩),.int .u8 c,.int .i64 d] w fun e w'=>∃ v ev' new,e=.returned v/\new.map Prod.fst=R.es/\PM w' base B s R.k R.b ev' rv (es++new) rs/\Mv base B ev rv ev' rv w w'/\(∀ p∈new,∀ g,p.2.ownBlock=some g->w.heap.size<=g) /\
     w'.ownsRow base 167 7 v R.ims.length (imC R.ims)/\(∀ g,v.ownBlock=some g->w.heap.size<=g/\Fre g (es++new)):=by
 obtain ⟨i0,hi0,hz0,hz1,hz2⟩:=info_parts Tryz.infoItem
 go_enter Tryz.func178,Tryz.ntmps178
 go_wp2_with fail
 have HP0:Hid (PM (w.alloc (.cells #[] 167)) base B s k b ev rv (es++[]) rs):=by show PM _ _ _ _ _ _ _ _ _ _;rw [List.append_nil];exact h.alloc _
 have HM0:Hid (Mv base B ev rv ev rv w (w.alloc (.cells #[] 167))):=Mv.alloc h.bs _
 have HW0:Hid ((w.alloc (.cells #[] 167)).ownsRow base 167 7 (.slice (some ⟨w.heap.size,0,none⟩) 0 0) 0 (imC [])):=⟨rfl,.inr ⟨w.heap.size,0,#[],rfl,h.bs,heap_alloc_new w _,Nat.le_refl _,by decide,rfl,rfl⟩⟩
 have HF0:Hid (Fre w.heap.size (es++[])):=by show Fre _ _;rw [List.append_nil];exact h.fre (Nat.le_refl _)
 have hbs:=h.bs
 clear h
 have hc0:0<=c/\c<256:=by rcases hc with rfl | rfl | rfl | rfl | rfl<;>omega
 go_loopg [7,8] (s.size+2-k) (fun n lv mv wr=>∃ (f:Nat) (kj:Nat) (bj:Bool) (done:List IM) (ev':Value) (new:List (EX×Value)),kj<=s.size/\k<=kj/\new.length+k<=kj/\(b=true->bj=true) /\
   ((mv=.bool true/\n=f+1/\s.size+1<=f+kj/\done.length<=kj/\Hid (R=⟨done++(cItems ex s c d f (es++new).length kj bj).ims,new.map Prod.fst++(cItems ex s c d f (es++new).length kj bj).es,(cItems ex s c d f (es++new).length kj bj).k,(cItems ex s c d f (es++new).length kj bj).b⟩))\/(mv=.bool false/\n=0/\Hid (R=⟨done,new.map Prod.fst,kj,bj⟩))) /\
   PM wr base B s kj bj ev' rv (es++new) rs/\Mv base B ev rv ev' rv w wr/\(∀ p∈new,∀ g,p.2.ownBlock=some g->w.heap.size<=g)/\wr.ownsRow base 167 7 lv done.length (imC done)/\(∀ g,lv.ownBlock=some g->w.heap.size<=g/\Fre g (es++new)))
 case atStart =>
   refine ⟨s.size+1-k,k,b,[],ev,[],hk,Nat.le_refl _,by simp,fun h=>h,.inl ⟨rfl,by omega,by omega,by simp,?_⟩,HP0.out,HM0.out,by simp,HW0.out,fun g hg=>by simp [Value.ownBlock] at hg;subst hg;exact ⟨Nat.le_refl _,HF0.out⟩⟩
   show _=_
   rw [<- hR.out]
   simp
 case round =>
   obtain ⟨f,kj,bj,done,ev',new,hkj,hkk,hnl,hbb,hmode,hp,hm,hfr,hrow,hlb⟩:=hrel
   have HP:Hid (PM wr base B s kj bj ev' rv (es++new) rs):=hp
   have HM:Hid (Mv base B ev rv ev' rv w wr):=hm
   have HFR:Hid (∀ p∈new,∀ g,p.2.ownBlock=some g->w.heap.size<=g):=hfr
   have HRW:Hid (wr.ownsRow base 167 7 u7 done.length (imC done)):=hrow
   have HLB:Hid (∀ g,u7.ownBlock=some g->w.heap.size<=g/\Fre g (es++new)):=hlb
   clear hp hm hfr hrow hlb
   rcases hmode with ⟨rfl,hgk,hfk,hdl,HE⟩ | ⟨rfl,hgk,HE⟩
   · obtain ⟨f,rfl⟩:∃ f',f=f'+1:=⟨f-1,by omega⟩
     have hen:(es++new).length<=kj:=by simp only [List.length_append];omega
     have hnj:bj=true\/s.size-kj<n:=by
       rcases hn with hn | hn
       · exact .inl (hbb hn)
       · exact .inr (by omega)
     have hmo:=cItem_mono hM c d (es++new).length kj bj hkj
     generalize hr:cItem ex s c d (es++new).length kj bj=r at *
     have HE2:Hid (R=if takeB s 44 r.k r.b=true then ⟨done++r.im::(cItems ex s c d f ((es++new).length+r.es.length) (takeK s 44 r.k r.b) r.b).ims,new.map Prod.fst++(r.es++(cItems ex s c d f ((es++new).length+r.es.length) (takeK s 44 r.k r.b) r.b).es),(cItems ex s c d f ((es++new).length+r.es.length) (takeK s 44 r.k r.b) r.b).k,(cItems ex s c d f ((es++new).length+r.es.length) (takeK s 44 r.k r.b) r.b).b⟩ else ⟨done++[r.im],new.map Prod.fst++r.es,takeK s 44 r.k r.b,r.b⟩):=by
       show _=_
       rw [HE.out]
       simp only [cItems,hr]
       split<;>rfl
     have HRR:Hid (cItem ex s c d (es++new).length kj bj=r):=hr
     have hbad:bj=true->r.b=true:=fun h=>by rw [<- hr];exact cItem_bad hB c d _ kj h
     clear HE hr
     go_wp2_with fail
     refine (itemP_any ex base B s c d kj bj ev' rv (es++new) rs _ n hX h0 (by omega) hen hnj hs hkj hc HP.out r HRR).mono ?_
     rintro e w2 ⟨rfl,ev2,new2,hnew2,hp2,hm2,hfr2⟩
     have HRW2:Hid (w2.ownsRow base 167 7 u7 done.length (imC done)):=owns_of_block HRW.out (fun g hg=>(hm2.kept g (HRW.out.lt g hg).2 (HP.out.outI HRW.out hg)).1)
     have HP3:Hid (PM ((w2.alloc (.cells #[.int .i64 r.im.at_,.int .i64 r.im.num,.int .i64 r.im.pv,.int .i64 r.im.pl,.int .i64 r.im.wv,.int .i64 r.im.wa,.int .i64 r.im.arm] 167)).alloc (.cells #[.int .i64 r.im.at_,.int .i64 r.im.num,.int .i64 r.im.pv,.int .i64 r.im.pl,.int .i64 r.im.wv,.int .i64 r.im.wa,.int .i64 r.im.arm] 167)) base B s r.k r.b ev2 rv (es++(new++new2)) rs):=by show PM _ _ _ _ _ _ _ _ _ _;rw [<- List.append_assoc];exact (hp2.alloc _).alloc _
     have HM3:Hid (Mv base B ev rv ev2 rv w ((w2.alloc (.cells #[.int .i64 r.im.at_,.int .i64 r.im.num,.int .i64 r.im.pv,.int .i64 r.im.pl,.int .i64 r.im.wv,.int .i64 r.im.wa,.int .i64 r.im.arm] 167)).alloc (.cells #[.int .i64 r.im.at_,.int .i64 r.im.num,.int .i64 r.im.pv,.int .i64 r.im.pl,.int .i64 r.im.wv,.int .i64 r.im.wa,.int .i64 r.im.arm] 167))):=((HM.out.trans hm2).trans (Mv.alloc hp2.bs _)).trans (Mv.alloc (hp2.alloc _).bs _)
     have HRW3:Hid (((w2.alloc (.cells #[.int .i64 r.im.at_,.int .i64 r.im.num,.int .i64 r.im.pv,.int .i64 r.im.pl,.int .i64 r.im.wv,.int .i64 r.im.wa,.int .i64 r.im.arm] 167)).alloc (.cells #[.int .i64 r.im.at_,.int .i64 r.im.num,.int .i64 r.im.pv,.int .i64 r.im.pl,.int .i64 r.im.wv,.int .i64 r.im.wa,.int .i64 r.im.arm] 167)).ownsRow base 167 7 u7 done.length (imC done)):=(HRW2.out.alloc _).alloc _
     have HFR3:Hid (∀ p∈new++new2,∀ g,p.2.ownBlock=some g->w.heap.size<=g):=fun p hp g hg=>by
       rcases List.mem_append.1 hp with hp | hp
       · exact HFR.out p hp g hg
       · exact Nat.le_trans HM.out.bel.size (hfr2 p hp g hg)
     have HLB3:Hid (∀ g,u7.ownBlock=some g->w.heap.size<=g/\Fre g (es++(new++new2))):=fun g hg=>by
       have h1:=HLB.out g hg
       refine ⟨h1.1,?_⟩
       rw [<- List.append_assoc]
       exact h1.2.app (fun p hp e=>by have h2:=hfr2 p hp g e;have h3:=(HRW.out.lt g hg).2;omega)
     have HNW3:Hid ((new++new2).map Prod.fst=new.map Prod.fst++r.es):=by show _=_;rw [List.map_append,hnew2]
     have hb2:base<=w2.heap.size:=hp2.bs
     have hA1:Hid (done.length+1<=maxLen):=by show _<=_;unfold maxLen;omega
     have hA2:Hid ((done.length+1)*56<=140737488355328):=by show _<=_;omega
     have hA3:Hid (base<=((w2.alloc (.cells #[.int .i64 r.im.at_,.int .i64 r.im.num,.int .i64 r.im.pv,.int .i64 r.im.pl,.int .i64 r.im.wv,.int .i64 r.im.wa,.int .i64 r.im.arm] 167)).alloc (.cells #[.int .i64 r.im.at_,.int .i64 r.im.num,.int .i64 r.im.pv,.int .i64 r.im.pl,.int .i64 r.im.wv,.int .i64 r.im.wa,.int .i64 r.im.arm] 167)).heap.size):=by show _<=_;simp;omega
     have hone:Hid (∀ u∈imV r.im,u.oneCell'=true):=fun u hu=>by simp [imV] at hu;rcases hu with rfl | rfl | rfl | rfl | rfl | rfl | rfl<;>rfl
     have hlen2:Hid (new2.length=r.es.length):=by show _=_;rw [<- hnew2,List.length_map]
     have HSW:Hid (w.heap.size<=w2.heap.size):=Nat.le_trans HM.out.bel.size hm2.bel.size
     clear hp2 hm2 hnew2 hfr2
     go_wp2_with (at_builtin;refine wpList_append_lies _ rfl _ _ 112 rfl base 167 i0 _ 7 56 Tryz.underlying112 hi0 hz0 hz1 hz2 rfl (by decide) u7 _ _ rfl HRW3.out ⟨w2.heap.size+1,0,none⟩ 1 1 (imV r.im) rfl rfl (World.news_of_block (cs:=#[.int .i64 r.im.at_,.int .i64 r.im.num,.int .i64 r.im.pv,.int .i64 r.im.pl,.int .i64 r.im.wv,.int .i64 r.im.wa,.int .i64 r.im.arm]) (t:=167) (fr:=(0,0)) (heap_alloc_at _ (by simp))) hone.out (Nat.lt_succ_self 0) hA1.out hA2.out hA3.out (w2.heap.size+2) (by simp) ?_;intro g cap w4 hown hgrow hat hlt4)
     have e1:imC (done++[r.im])=imC done++imV r.im:=by simp [imC]
     have e2:(done++[r.im]).length=done.length+1:=by simp
     have HRW4:Hid (w4.ownsRow base 167 7 (.slice (some ⟨g,0,none⟩) (done.length+1) cap) (done++[r.im]).length (imC (done++[r.im]))):=by show World.ownsRow _ _ _ _ _ _ _;rw [e1,e2];exact hown
     have HP4:Hid (PM w4 base B s r.k r.b ev2 rv (es++(new++new2)) rs):=HP3.out.grown HRW3.out hgrow (fun g hg=>(HLB3.out g hg).2)
     have HM4:Hid (Mv base B ev rv ev2 rv w w4):=HM3.out.grown hgrow hA3.out (fun g hg=>⟨(HLB3.out g hg).1,(HRW3.out.lt g hg).1⟩)
     have HLB4:Hid (w.heap.size<=g/\Fre g (es++(new++new2))):=by
       rcases hat with h | h
       · exact HLB3.out g h
       · have:=HSW.out
         exact ⟨by omega,HP3.out.fre (by simp;omega)⟩
     clear hown hgrow hat e1 e2
     refine (take_any base B s 44 r.k r.b ev2 rv _ rs _ hs hmo.2.1 (by decide) HP4.out).mono ?_
     rintro e w5 ⟨rfl,hp5,hm5⟩
     have HP5:Hid (PM w5 base B s (takeK s 44 r.k r.b) r.b ev2 rv (es++(new++new2)) rs):=hp5
     have HM5:Hid (Mv base B ev rv ev2 rv w w5):=HM4.out.trans hm5
     have HRW5:Hid (w5.ownsRow base 167 7 (.slice (some ⟨g,0,none⟩) (done.length+1) cap) (done++[r.im]).length (imC (done++[r.im]))):=owns_of_block HRW4.out (fun g' hg=>(hm5.kept g' (HRW4.out.lt g' hg).2 (HP4.out.outI HRW4.out hg)).1)
     have hl2:=hlen2.out
     have htg:=takeK_ge s 44 r.k r.b
     have htl:takeK s 44 r.k r.b<=s.size:=takeK_le (by decide) hmo.2.1
     clear hp5 hm5
     cases ht:takeB s 44 r.k r.b with
     | true =>
       have htk:r.k+1<=takeK s 44 r.k r.b:=by
         unfold takeK;rw [if_pos ht];have:=skipF_ge s r.k r.b;omega
       have HE3:Hid (R=⟨(done++[r.im])++(cItems ex s c d f (es++(new++new2)).length (takeK s 44 r.k r.b) r.b).ims,(new++new2).map Prod.fst++(cItems ex s c d f (es++(new++new2)).length (takeK s 44 r.k r.b) r.b).es,(cItems ex s c d f (es++(new++new2)).length (takeK s 44 r.k r.b) r.b).k,(cItems ex s c d f (es++(new++new2)).length (takeK s 44 r.k r.b) r.b).b⟩):=by
         show _=_
         have e3:(es++(new++new2)).length=(es++new).length+r.es.length:=by simp only [List.length_append];omega
         rw [HE2.out,if_pos ht,e3,HNW3.out]
         simp
       clear HE2 ht
       go_wp2_with fail
       go_roundg (f+1)
       case measure=>omega
       case rel=>exact ⟨f,takeK s 44 r.k r.b,r.b,done++[r.im],ev2,new++new2,htl,by omega,by simp only [List.length_append];omega,fun h=>hbad (hbb h),.inl ⟨rfl,rfl,by omega,by simp;omega,HE3⟩,HP5.out,HM5.out,HFR3.out,HRW5.out,fun g' hg=>by simp [Value.ownBlock] at hg;subst hg;exact HLB4.out⟩
     | false =>
       have HE3:Hid (R=⟨done++[r.im],(new++new2).map Prod.fst,takeK s 44 r.k r.b,r.b⟩):=by
         show _=_
         rw [HE2.out,if_neg (by rw [ht];decide),HNW3.out]
       clear HE2 ht
       go_wp2_with fail
       go_roundg 0
       case measure=>omega
       case rel=>exact ⟨0,takeK s 44 r.k r.b,r.b,done++[r.im],ev2,new++new2,htl,by omega,by simp only [List.length_append];omega,fun h=>hbad (hbb h),.inr ⟨rfl,rfl,HE3⟩,HP5.out,HM5.out,HFR3.out,HRW5.out,fun g' hg=>by simp [Value.ownBlock] at hg;subst hg;exact HLB4.out⟩
   · go_wp2_with fail
     go_ret
     refine ⟨_,ev',new,rfl,?_,?_,HM.out,HFR.out,?_,HLB.out⟩
     · rw [HE.out]
     · rw [HE.out];exact HP.out
     · rw [HE.out];exact HRW.out
end Go.Proofs.YtaebngpoagjafaaGreat
namespace Go.Proofs.YtaebngpoagjafaaGreat
open Go.RowKit
theorem below_some {w w':World} (h:Below w.heap.size w w') {p:Addr} {v:Value} (hc:w.cell? p=some v):w'.cell? p=some v:=by
 rw [h.cell (Nat.lt_of_not_le fun hn=>by
   have:w.heap[p.block]?=none:=Array.getElem?_eq_none_iff.2 hn
   simp [World.cell?,this] at hc)]
 exact hc
def isK (c:Int):Bool:=c==123 || c==119 || c==102 || c==109 || c==103 || c==116 || c==64 || c==61
attribute [local go_sem ↓] Go.wp_at_zero Go.wp_at_succ
set_option maxHeartbeats 400000 in
theorem isKind_any (c:Int) (w:World):Calls Tryz.prog 177 #[.int .u8 c] w fun e w'=>w'=w/\e=.returned (.bool (isK c)):=by
 have HK:Hid (isK c=(c==123 || c==119 || c==102 || c==109 || c==103 || c==116 || c==64 || c==61)):=rfl
 cases h1:(c==123)<;>cases h2:(c==119)<;>cases h3:(c==102)<;>cases h4:(c==109)<;>cases h5:(c==103)<;>cases h6:(c==116)<;>cases h7:(c==64)<;>cases h8:(c==61)<;>first
   | (exfalso;simp only [beq_iff_eq] at *;omega)
   | (go_enter Tryz.func177,Tryz.ntmps177
      go_wp2_with fail
      go_ret
      exact ⟨rfl,by rw [HK.out,h1,h2,h3,h4,h5,h6,h7,h8];rfl⟩)
def nmdR (v:Int):List RL->Int
 | []=>-1
 | r::l=>if r.nv=v then r.ex else nmdR v l
def RV (w:World) (v:Value) (rs:List RL):Prop:=(v=.slice none 0 0/\rs=[])\/∃ g cap,v=.slice (some ⟨g,0,none⟩) rs.length cap/\∀ i r,rs[i]?=some r->w.cell? ⟨g,i*3,none⟩=some (.int .i64 r.nv)/\w.cell? ⟨g,i*3+1,none⟩=some (.int .i64 r.na)/\w.cell? ⟨g,i*3+2,none⟩=some (.int .i64 r.ex)
set_option maxHeartbeats 400000 in
theorem namedP_any (v:Value) (x:Int) (rs:List RL) (w:World) (hl:rs.length<=100000) (h:RV w v rs) :
   Calls Tryz.prog 102 #[v,.int .i64 x] w fun e w'=>Below w.heap.size w w'/\e=.returned (.int .i64 (nmdR x rs)):=by
 have hloop:∀ (i:Nat),i<rs.length->∃ r,rs[i]?=some r:=fun i hi=>⟨rs[i],List.getElem?_eq_getElem hi⟩
 rcases h with ⟨rfl,rfl⟩ | ⟨g,cap,rfl,hc⟩
 · go_enter Tryz.func102,Tryz.ntmps102
   go_wp2_with fail
   go_loopg [9] 1 (fun n y wr=>y=.int .i64 0/\wr=w)
   case atStart=>exact ⟨rfl,rfl⟩
   case round =>
     obtain ⟨rfl,rfl⟩:=hrel
     go_wp2_with fail
     go_ret
     exact ⟨Below.refl _ _,rfl⟩
 · have hdrop:nmdR x (rs.drop 0)=nmdR x rs:=by rw [List.drop_zero]
   go_enter Tryz.func102,Tryz.ntmps102
   go_wp2_with fail
   go_loopg [9] rs.length (fun n y wr=>∃ (j:Nat),n+j=rs.length/\y=.int .i64 j/\Hid (nmdR x (rs.drop j)=nmdR x rs)/\Below w.heap.size w wr)
   case atStart=>exact ⟨0,by omega,rfl,hdrop,Below.refl _ _⟩
   case round =>
     obtain ⟨j,hn,rfl,HN,hb⟩:=hrel
     have HB:Hid (Below w.heap.size w wr):=hb
     by_cases hlt:j<rs.length
     · obtain ⟨r,hr⟩:=hloop j hlt
       have hj0:(0:Int)<=(j:Int):=by omega
       have hj1:(j:Int)<(rs.length:Int):=by omega
       obtain ⟨r0,r1,r2⟩:=hc j r hr
       have x0:=below_some HB.out r0
       have x1:=below_some HB.out r1
       have x2:=below_some HB.out r2
       have HD:Hid (nmdR x rs=if r.nv=x then r.ex else nmdR x (rs.drop (j+1))):=by
         show _=_
         rw [<- HN.out,List.drop_eq_getElem_cons hlt]
         have:rs[j]=r:=by have:=List.getElem?_eq_getElem hlt;rw [hr] at this;simpa using this.symm
         rw [this];rfl
       clear hb hc r0 r1 r2 hr hloop hdrop
       cases he:(r.nv==x) with
       | true =>
         have HD2:Hid (nmdR x rs=r.ex):=by show _=_;rw [HD.out,if_pos (by simpa using he)]
         go_wp2_with fail
         go_ret
         exact ⟨HB.out.alloc HB.out.size _,by rw [HD2.out];rfl⟩
       | false =>
         have HD2:Hid (nmdR x (rs.drop (j+1))=nmdR x rs):=by show _=_;rw [HD.out,if_neg (by simpa using he)]
         go_wp2_with fail
         go_roundg (gk-1)
         case measure=>omega
         case rel=>exact ⟨j+1,by omega,by go_num,HD2,HB.out.alloc HB.out.size _⟩
     · have hd:¬ ((j:Int)<(rs.length:Int)):=by omega
       have hd2:((rs.length:Int))<=(j:Int):=by omega
       have HD:Hid (nmdR x rs=-1):=by show _=_;rw [<- HN.out,List.drop_eq_nil_of_le (by omega)];rfl
       go_wp2_with fail
       go_ret
       exact ⟨HB.out,by rw [HD.out];rfl⟩
theorem buildEx (c a d:Int) (w:World):(Instr.build 114 #[(0,.int .u8 c),(1,.int .i64 a),(2,.int .i64 d),(5,.int .i64 (-1))]).run Tryz.prog w=.ok (.agg #[.int .u8 c,.int .i64 a,.int .i64 d,.int .i64 0,.int .i64 0,.slice none 0 0,.int .i64 (-1)]) w:=run_build w 114 _ _ (by kernel_rfl)
set_option maxHeartbeats 400000 in
theorem here_dr (base B:Nat) (s:ByteArray) (k:Nat) (b:Bool) (ev rv:Value) (es:List (EX×Value)) (rs:List RL) (w:World) (h:PM w base B s k b ev rv es rs) :
   Calls Tryz.prog 145 #[.pointer (some ⟨B,0,none⟩)] w fun e w'=>e=.returned (.int .u8 (hereF s k b))/\∃ n,w'=w.drewN n:=by
 have c0:=h.c0
 have c1:=h.c1
 have c2:=h.c2
 clear h
 cases b with
 | true =>
   go_enter Tryz.func145,Tryz.ntmps145
   go_wp2_with fail
   go_quiet (fail)
   go_wp2_with fail
   go_ret
   exact ⟨rfl,_,rfl⟩
 | false =>
   by_cases hlt:k<s.size
   · have HH:Hid (hereF s k false=T.ch s k):=by show _=_;unfold hereF;rw [if_neg (by decide),if_pos hlt]
     have hlt':(k:Int)<(s.size:Int):=by omega
     have hge:decide ((s.size:Int)<=(k:Int))=false:=decide_eq_false (by omega)
     have hch:((s[k]).toNat:Int)=T.ch s k:=(T.ch_lt hlt).symm
     go_enter Tryz.func145,Tryz.ntmps145
     go_wp2_with fail
     go_quiet (fail)
     go_wp2_with fail
     go_quiet (fail)
     go_wp2_with fail
     go_ret
     exact ⟨by rw [HH.out];rfl,_,World.drewN_drewN _ _ _⟩
   · have HH:Hid (hereF s k false=0):=by show _=_;unfold hereF;rw [if_neg (by decide),if_neg hlt]
     have hge:decide ((s.size:Int)<=(k:Int))=true:=decide_eq_true (by omega)
     go_enter Tryz.func145,Tryz.ntmps145
     go_wp2_with fail
     go_quiet (fail)
     go_wp2_with fail
     go_ret
     exact ⟨by rw [HH.out];rfl,_,rfl⟩
theorem PM.below {w w':World} {base B s k b ev rv es rs} (h:PM w base B s k b ev rv es rs) (hb:Below w.heap.size w w'):PM w' base B s k b ev rv es rs :=
 ⟨(hb.block B h.lt).trans h.blk,owns_of_block h.ex (fun g hg=>hb.block g (h.ex.lt g hg).2),owns_of_block h.rl (fun g hg=>hb.block g (h.rl.lt g hg).2),fun p hp=>owns_of_block (h.it p hp) (fun g hg=>hb.block g ((h.it p hp).lt g hg).2),h.hB⟩
theorem flat_get {α:Type} (f:α->List Value) (n:Nat) (hf:∀ x,(f x).length=n) (ls:List α):∀ (i:Nat) (x:α) (j:Nat),ls[i]?=some x->j<n->(ls.flatMap f)[i*n+j]?=(f x)[j]?:=by
 induction ls with
 | nil=>intro i f j h;simp at h
 | cons g r ih =>
   intro i x j h hj
   simp only [List.flatMap_cons]
   cases i with
   | zero =>
     simp at h
     subst h
     rw [Nat.zero_mul,Nat.zero_add,List.getElem?_append_left (by rw [hf];exact hj)]
   | succ i =>
     simp at h
     have:=ih i x j h hj
     have e0:(i+1)*n=i*n+n:=Nat.succ_mul i n
     rw [List.getElem?_append_right (by rw [hf];omega),hf]
     have e:(i+1)*n+j-n=i*n+j:=by omega
     rw [e];exact this
theorem row_cells {w:World} {base e n g cap:Nat} {α:Type} (f:α->List Value) (hf:∀ x,(f x).length=n) {ls:List α} (h:w.ownsRow base e n (.slice (some ⟨g,0,none⟩) ls.length cap) ls.length (ls.flatMap f)) {i:Nat} {x:α} (hx:ls[i]?=some x) (j:Nat) (hj:j<n):w.cell? ⟨g,i*n+j,none⟩=(f x)[j]?:=by
 have hi:i<ls.length:=(List.getElem?_eq_some_iff.1 hx).1
 have h2:(i+1)*n<=ls.length*n:=Nat.mul_le_mul_right n hi
 have e0:(i+1)*n=i*n+n:=Nat.succ_mul i n
 rw [World.ownsRow.cellAt h (i*n+j) (by omega)]
 exact flat_get f n hf ls i x j hx hj
theorem PM.rvs {w:World} {base B s k b ev rv es rs} (h:PM w base B s k b ev rv es rs):RV w rv rs:=by
 have h0:=h.rl
 rcases h.rl.2 with ⟨h1,h2⟩ | ⟨g,cap,cur,rfl,h1⟩
 · exact .inl ⟨h1,List.eq_nil_of_length_eq_zero h2⟩
 · exact .inr ⟨g,cap,rfl,fun i r hr=>⟨row_cells rlV (fun _=>rfl) h0 hr 0 (by decide),row_cells rlV (fun _=>rfl) h0 hr 1 (by decide),row_cells rlV (fun _=>rfl) h0 hr 2 (by decide)⟩⟩
end Go.Proofs.YtaebngpoagjafaaGreat
