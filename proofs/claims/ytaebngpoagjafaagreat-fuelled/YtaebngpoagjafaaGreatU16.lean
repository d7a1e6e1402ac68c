/-
  OUR OWN.
-/
import Derived.Test.YtaebngpoagjafaaGreatU15
set_option maxRecDepth 100000
namespace Go.Proofs.YtaebngpoagjafaaGreat
open Go.RowKit
def cE (s:ByteArray) (rs:List RL):Nat->Int->Nat->Nat->Bool->CR
 | 0,_,_,k,b=>⟨-1,[],skipF s k b,true⟩
 | n+1,d,m,k,b =>
   let p:=skipF s k b
   let c:=hereF s p b
   if isK c=false then ⟨-1,[],p,true⟩
   else if c=123 then
     let l:=cItems (cE s rs n) s 123 d (s.size+1-(p+1)) m (p+1) b
     ⟨(m+l.es.length:Nat),l.es++[⟨123,p,d,0,0,l.ims,-1⟩],takeK s 125 l.k l.b,wantB s 125 l.k l.b⟩
   else if c=116 then
     let k1:=takeK s 40 (p+1) b
     let b1:=wantB s 40 (p+1) b
     let k2:=takeK s 44 (numK s k1 b1) (numX s k1 b1)
     let b2:=wantB s 44 (numK s k1 b1) (numX s k1 b1)
     let r:=cE s rs n (d+1) m k2 b2
     ⟨(m+r.es.length:Nat),r.es++[⟨116,p,d,numV s k1 b1,skipF s k1 b1,[],r.idx⟩],takeK s 41 r.k r.b,wantB s 41 r.k r.b⟩
   else if c=64 then ⟨m,[⟨64,p,d,numV s (p+1) b,skipF s (p+1) b,[],-1⟩],numK s (p+1) b,numX s (p+1) b⟩
   else if c=61 then
     let q:=skipF s (p+1) b
     ⟨m,[⟨61,p,d,hereF s q b,q,[],nmdR (hereF s q b) rs⟩],letK s (p+1) b,letX s (p+1) b⟩
   else
     let k1:=takeK s 40 (p+1) b
     let b1:=wantB s 40 (p+1) b
     let l:=cItems (cE s rs n) s c d (s.size+1-k1) m k1 b1
     let r:=cE s rs n (d+1) (m+l.es.length) (takeK s 124 l.k l.b) (wantB s 124 l.k l.b)
     ⟨(m+l.es.length+r.es.length:Nat),l.es++r.es++[⟨c,p,d,0,0,l.ims,r.idx⟩],takeK s 41 r.k r.b,wantB s 41 r.k r.b⟩
theorem cItems_mono {ex:Int->Nat->Nat->Bool->CR} {s:ByteArray} (hX:ExMono ex s) (kind d:Int) (n m k:Nat) (b:Bool) (hk:k<=s.size) :
   k<=(cItems ex s kind d n m k b).k/\(cItems ex s kind d n m k b).k<=s.size/\(cItems ex s kind d n m k b).es.length+k<=(cItems ex s kind d n m k b).k:=by
 induction n generalizing m k b with
 | zero=>simp [cItems,hk]
 | succ n ih =>
   have h1:=cItem_mono hX kind d m k b hk
   generalize hr:cItem ex s kind d m k b=r at *
   have h2:=takeK_ge s 44 r.k r.b
   have h3:takeK s 44 r.k r.b<=s.size:=takeK_le (by decide) h1.2.1
   have h4:=ih (m+r.es.length) (takeK s 44 r.k r.b) r.b h3
   simp only [cItems,hr]
   split
   · simp only [List.length_append]
     omega
   · simp only
     omega
theorem cItems_bad {ex:Int->Nat->Nat->Bool->CR} {s:ByteArray} (hX:ExBad ex) (kind d:Int) (n m k:Nat) {b:Bool} (hb:b=true):(cItems ex s kind d n m k b).b=true:=by
 induction n generalizing m k b with
 | zero=>simpa [cItems] using hb
 | succ n ih =>
   have h1:=cItem_bad (s:=s) hX kind d m k hb
   simp only [cItems]
   split
   · exact ih _ _ h1
   · exact h1
theorem hereF_bad (s:ByteArray) (k:Nat):hereF s k true=0:=by simp [hereF]
theorem isK_lt {s:ByteArray} {k:Nat} {b:Bool} (h:isK (hereF s k b)=true):b=false/\k<s.size:=by
 unfold hereF at h
 cases b with
 | true=>simp [isK] at h
 | false =>
   by_cases hlt:k<s.size
   · exact ⟨rfl,hlt⟩
   · simp [hlt,isK] at h
theorem cE_bad (s:ByteArray) (rs:List RL) (n:Nat):ExBad (cE s rs n):=fun d m k=>by
 cases n with
 | zero=>rfl
 | succ n=>simp only [cE,hereF_bad];rfl
theorem letK_ge (s:ByteArray) (k:Nat) (b:Bool):k<=letK s k b:=by
 unfold letK
 have:=skipF_ge s k b
 split<;>omega
theorem cE_mono (s:ByteArray) (rs:List RL) (n:Nat):ExMono (cE s rs n) s:=by
 induction n with
 | zero=>intro d m k b hk;have h1:=skipF_ge s k b;have h2:=skipF_le (b:=b) hk;simp [cE,h2,h1]
 | succ n ih =>
   intro d m k b hk
   have h1:=skipF_ge s k b
   have h2:=skipF_le (b:=b) hk
   simp only [cE]
   generalize skipF s k b=p at *
   split
   · simp;omega
   · next hK =>
     have hK2:isK (hereF s p b)=true:=by simpa using hK
     have hlt:=(isK_lt hK2).2
     split
     · have h3:=cItems_mono ih 123 d (s.size+1-(p+1)) m (p+1) b (by omega)
       generalize cItems (cE s rs n) s 123 d (s.size+1-(p+1)) m (p+1) b=l at *
       have h4:=takeK_ge s 125 l.k l.b
       have h5:=takeK_le (c:=125) (b:=l.b) (by decide) h3.2.1
       simp only [List.length_append,List.length_cons,List.length_nil]
       omega
     · split
       · have a1:=takeK_ge s 40 (p+1) b
         have a2:takeK s 40 (p+1) b<=s.size:=takeK_le (by decide) (by omega)
         generalize takeK s 40 (p+1) b=k1 at *
         generalize wantB s 40 (p+1) b=b1 at *
         have a3:=numK_ge (b:=b1) a2
         have a4:=numK_le (b:=b1) a2
         have a5:=takeK_ge s 44 (numK s k1 b1) (numX s k1 b1)
         have a6:=takeK_le (c:=44) (b:=numX s k1 b1) (by decide) a4
         have a7:=ih (d+1) m (takeK s 44 (numK s k1 b1) (numX s k1 b1)) (wantB s 44 (numK s k1 b1) (numX s k1 b1)) a6
         generalize cE s rs n (d+1) m (takeK s 44 (numK s k1 b1) (numX s k1 b1)) (wantB s 44 (numK s k1 b1) (numX s k1 b1))=r at *
         have h4:=takeK_ge s 41 r.k r.b
         have h5:=takeK_le (c:=41) (b:=r.b) (by decide) a7.2.1
         simp only [List.length_append,List.length_cons,List.length_nil]
         omega
       · split
         · have a1:=numK_ge (s:=s) (k:=p+1) (b:=b) (by omega)
           have a2:=numK_le (s:=s) (k:=p+1) (b:=b) (by omega)
           simp only [List.length_cons,List.length_nil]
           omega
         · split
           · have a1:=letK_ge s (p+1) b
             have a2:=letK_le (s:=s) (k:=p+1) (b:=b) (by omega)
             simp only [List.length_cons,List.length_nil]
             omega
           · have a1:=takeK_ge s 40 (p+1) b
             have a2:takeK s 40 (p+1) b<=s.size:=takeK_le (by decide) (by omega)
             generalize takeK s 40 (p+1) b=k1 at *
             generalize wantB s 40 (p+1) b=b1 at *
             have h3:=cItems_mono ih (hereF s p b) d (s.size+1-k1) m k1 b1 a2
             generalize cItems (cE s rs n) s (hereF s p b) d (s.size+1-k1) m k1 b1=l at *
             have a5:=takeK_ge s 124 l.k l.b
             have a6:=takeK_le (c:=124) (b:=l.b) (by decide) h3.2.1
             have a7:=ih (d+1) (m+l.es.length) (takeK s 124 l.k l.b) (wantB s 124 l.k l.b) a6
             generalize cE s rs n (d+1) (m+l.es.length) (takeK s 124 l.k l.b) (wantB s 124 l.k l.b)=r at *
             have h4:=takeK_ge s 41 r.k r.b
             have h5:=takeK_le (c:=41) (b:=r.b) (by decide) a7.2.1
             simp only [List.length_append,List.length_cons,List.length_nil]
             omega
end Go.Proofs.YtaebngpoagjafaaGreat
namespace Go.Proofs.YtaebngpoagjafaaGreat
open Go.RowKit
theorem Tryz.infoExpr:(Tryz.prog.info? 114).map (fun i=>(i.zero,i.size,i.bytes))=some (some (.agg #[.int .u8 0,.int .i64 0,.int .i64 0,.int .i64 0,.int .i64 0,.slice none 0 0,.int .i64 0]),7,72):=by kernel_rfl
theorem alloc_drewN (w:World) (n:Nat) (o:Obj):(w.drewN n).alloc o=(w.alloc o).drewN n:=rfl
theorem setCell_drewN (w:World) (n:Nat) (a:Addr) (v:Value):(w.drewN n).setCell a v=(w.setCell a v).drewN n:=rfl
theorem keepA {w:World} {a:Addr} {v:Value} (h:w.cell? a=some v) (o:Obj):(w.alloc o).cell? a=some v:=by
 have hlt:a.block<w.heap.size:=Nat.lt_of_not_le fun hn=>by
   have:w.heap[a.block]?=none:=Array.getElem?_eq_none_iff.2 hn
   simp [World.cell?,this] at h
 rw [World.cell?_of_block (w:=w) (Below.heap_alloc w o a.block hlt)]
 exact h
theorem keepS {w:World} {B i X:Nat} {v:Value} (hne:X≠B) (h:w.cell? ⟨B,i,none⟩=some v) (j:Nat) (u:Value):(w.setCell ⟨X,j,none⟩ u).cell? ⟨B,i,none⟩=some v:=by
 rw [World.cell?_of_block (w:=w) (heap_set_ne (fun e=>hne e.symm))]
 exact h
theorem PM.setE {w:World} {base B s k b ev rv es rs} (h:PM w base B s k b ev rv es rs) {c j:Nat} {u:Value} (hT:HasT w c 114) (hF:ev.ownBlock≠some c):PM (w.setCell ⟨c,j,none⟩ u) base B s k b ev rv es rs:=by
 obtain ⟨cs,fr,hc⟩:=hT
 refine ⟨?_,ownsRow_setCell_other h.ex hF _,ownsRow_setCell_other h.rl (owns_ne h.rl hc (by decide)) _,fun p hp=>ownsRow_setCell_other (h.it p hp) (owns_ne (h.it p hp) hc (by decide)) _,h.hB⟩
 rw [heap_set_ne (fun e=>by subst e;have:=h.blk;rw [hc] at this;simp at this)]
 exact h.blk
theorem PM.pushE {w w4:World} {base B s k b ev rv es rs} (h:PM w base B s k b ev rv es rs) {v:Value} {e:EX} {n g cap:Nat} (hn:n=es.length) (hg:w.grownBy w4 ev.ownBlock) (hown:w4.ownsRow base 114 7 (.slice (some ⟨g,0,none⟩) (n+1) cap) (n+1) (exC es++exV (e,v)))
   (hrow:w.ownsRow base 167 7 v e.items.length (imC e.items)):PM (w4.setCell ⟨B,3,none⟩ (.slice (some ⟨g,0,none⟩) (n+1) cap)) base B s k b (.slice (some ⟨g,0,none⟩) (n+1) cap) rv (es++[(e,v)]) rs:=by
 subst hn
 have hb4:w4.heap[B]?=some (.cells #[.string s,.int .i64 k,.bool b,ev,rv] 106 (0,0)):=(hg.block B h.lt (fun e=>owns_ne h.ex h.blk (by decide) e.symm)).trans h.blk
 have hr4:w4.ownsRow base 161 3 rv rs.length (rlC rs):=h.rl.kept hg (owns_ne2 h.rl h.ex (by decide))
 have hi4:∀ (q:Value) (n:Nat) (xs:List Value),w.ownsRow base 167 7 q n xs->w4.ownsRow base 167 7 q n xs:=fun q n xs hq=>hq.kept hg (owns_ne2 hq h.ex (by decide))
 have e1:exC (es++[(e,v)])=exC es++exV (e,v):=by simp [exC]
 have e2:(es++[(e,v)]).length=es.length+1:=by simp
 refine ⟨blk5_set hb4,?_,ownsRow_setCell_other hr4 (owns_ne hr4 hb4 (by decide)) _,fun p hp=>?_,h.hB⟩
 · rw [e1,e2];exact ownsRow_setCell_other hown (owns_ne hown hb4 (by decide)) _
 · rcases List.mem_append.1 hp with hp | hp
   · have:=hi4 _ _ _ (h.it p hp)
     exact ownsRow_setCell_other this (owns_ne this hb4 (by decide)) _
   · simp at hp;subst hp
     have:=hi4 _ _ _ hrow
     exact ownsRow_setCell_other this (owns_ne this hb4 (by decide)) _
theorem PM.pushMv {w w4:World} {base B s k b ev rv es rs} (h:PM w base B s k b ev rv es rs) {g n cap H:Nat} (hg:w.grownBy w4 ev.ownBlock) (hat:ev.ownBlock=some g\/g=H) (hH:w.heap.size<=H) :
   Mv base B ev rv (.slice (some ⟨g,0,none⟩) n cap) rv w (w4.setCell ⟨B,3,none⟩ (.slice (some ⟨g,0,none⟩) n cap)):=by
 refine ⟨((Below.refl _ _).grown hg h.bs (fun q hq=>(h.ex.lt q hq).1)).setCell h.hB _,fun x hx ho=>⟨?_,ho.1,?_,ho.2.2⟩⟩
 · rw [heap_set_ne ho.1]
   exact hg.block x hx (fun e=>ho.2.1 e.symm)
 · intro e
   simp [Value.ownBlock] at e
   subst e
   rcases hat with e | e
   · exact ho.2.1 e
   · omega
theorem PM.grown3 {w w9:World} {base B s k b ev rv es rs} (h:PM w base B s k b ev rv es rs) {o:Obj} (hg:((w.alloc o).drew).grownBy w9 ev.ownBlock):w9.cell? ⟨B,3,none⟩=some ev/\w9.frozen? ⟨B,3,none⟩=false:=by
 have h2:=(h.alloc o).drew
 have hb:=(hg.block B h2.lt (fun e=>owns_ne h2.ex h2.blk (by decide) e.symm)).trans h2.blk
 exact ⟨by simp [World.cell?,hb],by simp [World.frozen?,hb]⟩
variable {s:ByteArray} {rs:List RL}
theorem cE_no (n:Nat) (d:Int) (m k:Nat) (b:Bool) (h:isK (hereF s (skipF s k b) b)=false):cE s rs (n+1) d m k b=⟨-1,[],skipF s k b,true⟩:=by
 simp only [cE,h,if_true]
theorem cE_servers (n:Nat) (d:Int) (m k:Nat) (b:Bool) (h:hereF s (skipF s k b) b=123):cE s rs (n+1) d m k b =
   ⟨(m+(cItems (cE s rs n) s 123 d (s.size+1-(skipF s k b+1)) m (skipF s k b+1) b).es.length:Nat),(cItems (cE s rs n) s 123 d (s.size+1-(skipF s k b+1)) m (skipF s k b+1) b).es++[⟨123,skipF s k b,d,0,0,(cItems (cE s rs n) s 123 d (s.size+1-(skipF s k b+1)) m (skipF s k b+1) b).ims,-1⟩],takeK s 125 (cItems (cE s rs n) s 123 d (s.size+1-(skipF s k b+1)) m (skipF s k b+1) b).k (cItems (cE s rs n) s 123 d (s.size+1-(skipF s k b+1)) m (skipF s k b+1) b).b,wantB s 125 (cItems (cE s rs n) s 123 d (s.size+1-(skipF s k b+1)) m (skipF s k b+1) b).k (cItems (cE s rs n) s 123 d (s.size+1-(skipF s k b+1)) m (skipF s k b+1) b).b⟩:=by
 simp only [cE,h];rfl
theorem cE_alias (n:Nat) (d:Int) (m k:Nat) (b:Bool) (h:hereF s (skipF s k b) b=64):cE s rs (n+1) d m k b =
   ⟨m,[⟨64,skipF s k b,d,numV s (skipF s k b+1) b,skipF s (skipF s k b+1) b,[],-1⟩],numK s (skipF s k b+1) b,numX s (skipF s k b+1) b⟩:=by
 simp only [cE,h];rfl
theorem cE_name (n:Nat) (d:Int) (m k:Nat) (b:Bool) (h:hereF s (skipF s k b) b=61):cE s rs (n+1) d m k b =
   ⟨m,[⟨61,skipF s k b,d,hereF s (skipF s (skipF s k b+1) b) b,skipF s (skipF s k b+1) b,[],nmdR (hereF s (skipF s (skipF s k b+1) b) b) rs⟩],letK s (skipF s k b+1) b,letX s (skipF s k b+1) b⟩:=by
 simp only [cE,h];rfl
theorem cE_ttl (n:Nat) (d:Int) (m k:Nat) (b:Bool) (h:hereF s (skipF s k b) b=116) {k1:Nat} {b1:Bool} (hk1:takeK s 40 (skipF s k b+1) b=k1) (hb1:wantB s 40 (skipF s k b+1) b=b1) {r:CR} (hr:cE s rs n (d+1) m (takeK s 44 (numK s k1 b1) (numX s k1 b1)) (wantB s 44 (numK s k1 b1) (numX s k1 b1))=r):cE s rs (n+1) d m k b =
   ⟨(m+r.es.length:Nat),r.es++[⟨116,skipF s k b,d,numV s k1 b1,skipF s k1 b1,[],r.idx⟩],takeK s 41 r.k r.b,wantB s 41 r.k r.b⟩:=by
 subst hk1 hb1 hr
 simp only [cE,h];rfl
theorem cE_list (n:Nat) (d:Int) (m k:Nat) (b:Bool) {c:Int} (h:hereF s (skipF s k b) b=c) (hc:c=119\/c=102\/c=109\/c=103) {k1:Nat} {b1:Bool} (hk1:takeK s 40 (skipF s k b+1) b=k1) (hb1:wantB s 40 (skipF s k b+1) b=b1) {l:CL} (hl:cItems (cE s rs n) s c d (s.size+1-k1) m k1 b1=l) {r:CR} (hr:cE s rs n (d+1) (m+l.es.length) (takeK s 124 l.k l.b) (wantB s 124 l.k l.b)=r):cE s rs (n+1) d m k b =
   ⟨(m+l.es.length+r.es.length:Nat),l.es++r.es++[⟨c,skipF s k b,d,0,0,l.ims,r.idx⟩],takeK s 41 r.k r.b,wantB s 41 r.k r.b⟩:=by
 subst hk1 hb1 hl hr
 rcases hc with rfl | rfl | rfl | rfl<;>(simp only [cE,h];rfl)
end Go.Proofs.YtaebngpoagjafaaGreat
namespace Go.Proofs.YtaebngpoagjafaaGreat
open Go.RowKit
attribute [local go_sem ↓] Go.wp_at_zero Go.wp_at_succ
attribute [local go_sem] alloc_drewN setCell_drewN
set_option maxHeartbeats 1600000 in
theorem exprP_alias (n base B:Nat) (s:ByteArray) (d:Int) (k:Nat) (b:Bool) (ev rv:Value) (es:List (EX×Value)) (rs:List RL) (w:World) (hs:s.size<=2000) (hk:k<=s.size) (_h0:0<=d) (_h1:d<=k) (hl:es.length<=k) (_hrl:rs.length<=2000) (hc:hereF s (skipF s k b) b=64) (h:PM w base B s k b ev rv es rs) (R:CR) (hR:Hid (cE s rs (n+1) d es.length k b=R)) :
   Calls Tryz.prog 143 #[.pointer (some ⟨B,0,none⟩),.int .i64 d] w fun e w' =>
     e=.returned (.int .i64 R.idx)/\∃ ev' new,new.map Prod.fst=R.es/\PM w' base B s R.k R.b ev' rv (es++new) rs/\Mv base B ev rv ev' rv w w'/\∀ p∈new,∀ g,p.2.ownBlock=some g->w.heap.size<=g:=by
 obtain ⟨i0,hi0,hz0,hz1,hz2⟩:=info_parts Tryz.infoExpr
 have H:Hid (PM w base B s k b ev rv es rs):=h
 clear h
 go_enter Tryz.func143,Tryz.ntmps143
 go_wp2_with fail
 refine (skip_any base B s k b ev rv es rs _ hs hk H.out).mono ?_
 rintro e w1 ⟨rfl,hp,hm⟩
 have hKK:isK (hereF s (skipF s k b) b)=true:=by rw [hc];rfl
 have hlt:skipF s k b<s.size:=(isK_lt hKK).2
 have hkp:k<=skipF s k b:=skipF_ge s k b
 have hbf:b=false:=(isK_lt hKK).1
 subst hbf
 rw [cE_alias n d es.length k false hc] at hR
 clear hKK
 have hce:hereF s (skipF s k false) false=64:=hc
 have hpd:=fun (wz:World) (hz:PM wz base B s (skipF s k false) false ev rv es rs)=>here_dr base B s (skipF s k false) false ev rv es rs wz hz
 rw [hce] at hpd
 clear hce hc
 generalize skipF s k false=p at *
 have HP1:Hid (PM w1 base B s p false ev rv es rs):=hp
 have HM1:Hid (Mv base B ev rv ev rv w w1):=hm
 have c1:=hp.c1
 have hxou:=hp.outNew
 have hbs1:=hp.bs
 have hws:w.heap.size<=w1.heap.size:=hm.bel.size
 have hXB:w1.heap.size≠B:=hxou.1
 have hBX:B≠w1.heap.size:=fun e=>hxou.1 e.symm
 have hBl:=hp.lt
 clear hp hm
 have hbn:=fun w=>buildEx 64 p d w
 go_wp2_with fail
 go_region_held3 (fun w'=>w'.cell? ⟨B,1,none⟩=some (.int .i64 p)) (first | (exact c1) | (exact keepA c1 _) | (exact keepS hXB (keepA c1 _) _ _) | go_keep) (first | (go_at_call 145;refine (hpd _ (by first | exact HP1.out.drew | exact HP1.out.drew.alloc _ | exact HP1.out.alloc _ | exact HP1.out)).mono ?_;rintro e w' ⟨rfl,q,rfl⟩))
 all_goals
   have HP2:Hid (PM ((w1.alloc (.cells #[.int .u8 64,.int .i64 p,.int .i64 d,.int .i64 0,.int .i64 0,.slice none 0 0,.int .i64 (-1)] 114)).drewN (1+q)) base B s p false ev rv es rs):=(HP1.out.alloc _).drewN _
   have HM2:Hid (Mv base B ev rv ev rv w ((w1.alloc (.cells #[.int .u8 64,.int .i64 p,.int .i64 d,.int .i64 0,.int .i64 0,.slice none 0 0,.int .i64 (-1)] 114)).drewN (1+q))):=(HM1.out.trans (Mv.alloc hbs1 _)).drewN _
   have XH2:Hid (((w1.alloc (.cells #[.int .u8 64,.int .i64 p,.int .i64 d,.int .i64 0,.int .i64 0,.slice none 0 0,.int .i64 (-1)] 114)).drewN (1+q)).heap[w1.heap.size]?=some (.cells #[.int .u8 64,.int .i64 p,.int .i64 d,.int .i64 0,.int .i64 0,.slice none 0 0,.int .i64 (-1)] 114 (0,0))):=heap_alloc_new w1 _
   generalize (w1.alloc (.cells #[.int .u8 64,.int .i64 p,.int .i64 d,.int .i64 0,.int .i64 0,.slice none 0 0,.int .i64 (-1)] 114)).drewN (1+q)=w2 at *
   clear c1 hbn
   have c1:=HP2.out.c1
   have z1:=HP2.out.fz 1
   have x0:w2.cell? ⟨w1.heap.size,0,none⟩=some (.int .u8 64):=by simp [World.cell?,XH2.out]
   have hik:=fun w=>isKind_any 64 w
   rw [show isK 64=true from rfl] at hik
   go_wp2_with fail
   refine (hik _).mono ?_
   rintro e w3 ⟨hw3,rfl⟩
   subst w3
   have HP3:Hid (PM (w2.setCell ⟨B,1,none⟩ (.int .i64 ((p:Int)+1))) base B s (p+1) false ev rv es rs):=HP2.out.at (p+1) _ (by omega)
   have HM3:Hid (Mv base B ev rv ev rv w (w2.setCell ⟨B,1,none⟩ (.int .i64 ((p:Int)+1)))):=HM2.out.trans (HP2.out.setMv 1 _)
   have XH3:Hid ((w2.setCell ⟨B,1,none⟩ (.int .i64 ((p:Int)+1))).heap[w1.heap.size]?=some (.cells #[.int .u8 64,.int .i64 p,.int .i64 d,.int .i64 0,.int .i64 0,.slice none 0 0,.int .i64 (-1)] 114 (0,0))):=(heap_set_ne hXB).trans XH2.out
   have hp1:(p:Int)<2000:=by omega
   go_wp2_with fail
   clear c1 z1 x0
   refine (number_any base B s (p+1) false ev rv es rs _ hs (by omega) HP3.out).mono ?_
   rintro e w4 ⟨rfl,hp,hm⟩
   have Pw4:Hid (PM w4 base B s (numK s (p+1) false) (numX s (p+1) false) ev rv (es) rs):=hp
   have Mw4:Hid (Mv base B ev rv ev rv w w4):=(HM3.out).trans hm
   have Xw4:Hid (w4.heap[w1.heap.size]?=some (.cells #[.int .u8 64,.int .i64 p,.int .i64 d,.int .i64 0,.int .i64 0,.slice none 0 0,.int .i64 (-1)] 114 (0,0))):=(hm.kept _ (lt_of_block (XH3.out)) hxou).1.trans (XH3.out)
   clear hp hm
   have x0:w4.cell? ⟨w1.heap.size,0,none⟩=some (.int .u8 64):=by simp [World.cell?,Xw4.out]
   have x1:w4.cell? ⟨w1.heap.size,1,none⟩=some (.int .i64 p):=by simp [World.cell?,Xw4.out]
   have x2:w4.cell? ⟨w1.heap.size,2,none⟩=some (.int .i64 d):=by simp [World.cell?,Xw4.out]
   have x3:w4.cell? ⟨w1.heap.size,3,none⟩=some (.int .i64 0):=by simp [World.cell?,Xw4.out]
   have x4:w4.cell? ⟨w1.heap.size,4,none⟩=some (.int .i64 0):=by simp [World.cell?,Xw4.out]
   have x5:w4.cell? ⟨w1.heap.size,5,none⟩=some (.slice none 0 0):=by simp [World.cell?,Xw4.out]
   have x6:w4.cell? ⟨w1.heap.size,6,none⟩=some (.int .i64 (-1)):=by simp [World.cell?,Xw4.out]
   have xz:∀ j,w4.frozen? ⟨w1.heap.size,j,none⟩=false:=fun j=>by simp [World.frozen?,Xw4.out]
   have HP5:Hid (PM (((w4).setCell ⟨w1.heap.size,3,none⟩ (.int .i64 (numV s (p+1) false))).setCell ⟨w1.heap.size,4,none⟩ (.int .i64 (skipF s (p+1) false))) base B s (numK s (p+1) false) (numX s (p+1) false) ev rv (es) rs):=((Pw4.out).setE (j:=3) (u:=.int .i64 (numV s (p+1) false)) ⟨_,_,Xw4.out⟩ hxou.2.1).setE (j:=4) (u:=.int .i64 (skipF s (p+1) false)) ⟨_,_,(blk7_set (j:=3) (u:=.int .i64 (numV s (p+1) false)) (Xw4.out))⟩ hxou.2.1
   have HM5:Hid (Mv base B ev rv ev rv w (((w4).setCell ⟨w1.heap.size,3,none⟩ (.int .i64 (numV s (p+1) false))).setCell ⟨w1.heap.size,4,none⟩ (.int .i64 (skipF s (p+1) false)))):=((Mw4.out).setNew (j:=3) hws hbs1 (.int .i64 (numV s (p+1) false))).setNew (j:=4) hws hbs1 (.int .i64 (skipF s (p+1) false))
   have HX5:Hid ((((w4).setCell ⟨w1.heap.size,3,none⟩ (.int .i64 (numV s (p+1) false))).setCell ⟨w1.heap.size,4,none⟩ (.int .i64 (skipF s (p+1) false))).heap[w1.heap.size]?=some (.cells #[.int .u8 64,.int .i64 p,.int .i64 d,.int .i64 (numV s (p+1) false),.int .i64 (skipF s (p+1) false),.slice none 0 0,.int .i64 (-1)] 114 (0,0))):=(blk7_set (j:=4) (u:=.int .i64 (skipF s (p+1) false)) ((blk7_set (j:=3) (u:=.int .i64 (numV s (p+1) false)) (Xw4.out))))
   have HV5:Hid ((((w4).setCell ⟨w1.heap.size,3,none⟩ (.int .i64 (numV s (p+1) false))).setCell ⟨w1.heap.size,4,none⟩ (.int .i64 (skipF s (p+1) false))).ownsRow base 167 7 (.slice none 0 0) ((⟨64,p,d,numV s (p+1) false,skipF s (p+1) false,[],-1⟩:EX)).items.length (imC ((⟨64,p,d,numV s (p+1) false,skipF s (p+1) false,[],-1⟩:EX)).items)):=⟨rfl,.inl ⟨rfl,rfl⟩⟩
   go_wp2_with fail
   generalize ((w4).setCell ⟨w1.heap.size,3,none⟩ (.int .i64 (numV s (p+1) false))).setCell ⟨w1.heap.size,4,none⟩ (.int .i64 (skipF s (p+1) false))=w5 at *
   clear x0 x1 x2 x3 x4 x5 x6 xz
   have x0:w5.cell? ⟨w1.heap.size,0,none⟩=some (.int .u8 64):=by simp [World.cell?,HX5.out]
   have x1:w5.cell? ⟨w1.heap.size,1,none⟩=some (.int .i64 p):=by simp [World.cell?,HX5.out]
   have x2:w5.cell? ⟨w1.heap.size,2,none⟩=some (.int .i64 d):=by simp [World.cell?,HX5.out]
   have x3:w5.cell? ⟨w1.heap.size,3,none⟩=some (.int .i64 (numV s (p+1) false)):=by simp [World.cell?,HX5.out]
   have x4:w5.cell? ⟨w1.heap.size,4,none⟩=some (.int .i64 (skipF s (p+1) false)):=by simp [World.cell?,HX5.out]
   have x5:w5.cell? ⟨w1.heap.size,5,none⟩=some (.slice none 0 0):=by simp [World.cell?,HX5.out]
   have x6:w5.cell? ⟨w1.heap.size,6,none⟩=some (.int .i64 (-1)):=by simp [World.cell?,HX5.out]
   have c3:=HP5.out.c3
   have hB5:=HP5.out.lt
   have hX5:w1.heap.size<w5.heap.size:=lt_of_block HX5.out
   have z3:=HP5.out.fz 3
   obtain ⟨n9,hn9⟩:∃ n9,n9=(es).length:=⟨_,rfl⟩
   have HN9:Hid (n9=(es).length):=hn9
   have HE9:Hid (w5.ownsRow base 114 7 ev n9 (exC (es))):=by show World.ownsRow _ _ _ _ _ _ _;rw [hn9];exact HP5.out.ex
   have hl9:(n9:Int)<5000:=by rw [hn9];omega
   clear hn9
   have hA1:Hid (n9+1<=maxLen):=by show _<=_;unfold maxLen;omega
   have hA2:Hid ((n9+1)*72<=140737488355328):=by show _<=_;omega
   have hA3:Hid (∀ o:Obj,base<=(w5.alloc o).drew.heap.size):=fun o=>by have:=HP5.out.bs;show base<=(w5.alloc o).heap.size;simp;omega
   have hone:Hid (∀ u∈exV ((⟨64,p,d,numV s (p+1) false,skipF s (p+1) false,[],-1⟩:EX),.slice none 0 0),u.oneCell'=true):=fun u hu=>by simp [exV] at hu;rcases hu with rfl | rfl | rfl | rfl | rfl | rfl | rfl<;>first | rfl | exact HV1.out
   go_region_law ((refine step_append_lies _ (by rfl) _ _ _ (by rfl) base 114 i0 _ 7 72 Tryz.underlying74 hi0 hz0 hz1 hz2 rfl (by decide) ev _ _ (by rfl) ((HE9.out.alloc _).drew) ⟨w5.heap.size,0,none⟩ 1 1 (exV ((⟨64,p,d,numV s (p+1) false,skipF s (p+1) false,[],-1⟩:EX),.slice none 0 0)) (by rfl) (by rfl) (World.news_of_block (cs:=#[.int .u8 64,.int .i64 p,.int .i64 d,.int .i64 (numV s (p+1) false),.int .i64 (skipF s (p+1) false),.slice none 0 0,.int .i64 (-1)]) (t:=114) (fr:=(0,0)) (heap_alloc_new w5 _)) hone.out (Nat.lt_succ_self 0) hA1.out hA2.out (hA3.out _) (w5.heap.size+1) (by simp) ?_;intro g cap w9 hown hgrow hat hlt9;obtain ⟨y3,yz⟩:=HP5.out.grown3 hgrow))
   all_goals
     have HP9:Hid (PM (w9.setCell ⟨B,3,none⟩ (.slice (some ⟨g,0,none⟩) (n9+1) cap)) base B s (numK s (p+1) false) (numX s (p+1) false) (.slice (some ⟨g,0,none⟩) (n9+1) cap) rv (es++[((⟨64,p,d,numV s (p+1) false,skipF s (p+1) false,[],-1⟩:EX),.slice none 0 0)]) rs):=((HP5.out.alloc _).drew).pushE HN9.out hgrow hown ((HV5.out.alloc _).drew)
     have HM9:Hid (Mv base B ev rv (.slice (some ⟨g,0,none⟩) (n9+1) cap) rv w (w9.setCell ⟨B,3,none⟩ (.slice (some ⟨g,0,none⟩) (n9+1) cap))):=(HM5.out.trans (Mv.alloc HP5.out.bs _)).drew.trans (((HP5.out.alloc _).drew).pushMv hgrow hat (by show (w5.alloc _).heap.size<=_;simp))
     clear hown hgrow hat
     go_wp2_with fail
     go_ret
     exact ⟨by rw [<- hR.out];rw [<- HN9.out];rfl,_,[((⟨64,p,d,numV s (p+1) false,skipF s (p+1) false,[],-1⟩:EX),.slice none 0 0)],by rw [<- hR.out];rfl,by rw [<- hR.out];exact HP9.out,HM9.out,fun q hq g hg=>by simp at hq;subst hq;simp [Value.ownBlock] at hg⟩
end Go.Proofs.YtaebngpoagjafaaGreat
namespace Go.Proofs.YtaebngpoagjafaaGreat
open Go.RowKit
attribute [local go_sem ↓] Go.wp_at_zero Go.wp_at_succ
attribute [local go_sem] alloc_drewN setCell_drewN
set_option maxHeartbeats 1600000 in
theorem exprP_name (n base B:Nat) (s:ByteArray) (d:Int) (k:Nat) (b:Bool) (ev rv:Value) (es:List (EX×Value)) (rs:List RL) (w:World) (hs:s.size<=2000) (hk:k<=s.size) (_h0:0<=d) (_h1:d<=k) (hl:es.length<=k) (hrl:rs.length<=2000) (hc:hereF s (skipF s k b) b=61) (h:PM w base B s k b ev rv es rs) (R:CR) (hR:Hid (cE s rs (n+1) d es.length k b=R)) :
   Calls Tryz.prog 143 #[.pointer (some ⟨B,0,none⟩),.int .i64 d] w fun e w' =>
     e=.returned (.int .i64 R.idx)/\∃ ev' new,new.map Prod.fst=R.es/\PM w' base B s R.k R.b ev' rv (es++new) rs/\Mv base B ev rv ev' rv w w'/\∀ p∈new,∀ g,p.2.ownBlock=some g->w.heap.size<=g:=by
 obtain ⟨i0,hi0,hz0,hz1,hz2⟩:=info_parts Tryz.infoExpr
 have H:Hid (PM w base B s k b ev rv es rs):=h
 clear h
 go_enter Tryz.func143,Tryz.ntmps143
 go_wp2_with fail
 refine (skip_any base B s k b ev rv es rs _ hs hk H.out).mono ?_
 rintro e w1 ⟨rfl,hp,hm⟩
 have hKK:isK (hereF s (skipF s k b) b)=true:=by rw [hc];rfl
 have hlt:skipF s k b<s.size:=(isK_lt hKK).2
 have hkp:k<=skipF s k b:=skipF_ge s k b
 have hbf:b=false:=(isK_lt hKK).1
 subst hbf
 rw [cE_name n d es.length k false hc] at hR
 clear hKK
 have hce:hereF s (skipF s k false) false=61:=hc
 have hpd:=fun (wz:World) (hz:PM wz base B s (skipF s k false) false ev rv es rs)=>here_dr base B s (skipF s k false) false ev rv es rs wz hz
 rw [hce] at hpd
 clear hce hc
 generalize skipF s k false=p at *
 have HP1:Hid (PM w1 base B s p false ev rv es rs):=hp
 have HM1:Hid (Mv base B ev rv ev rv w w1):=hm
 have c1:=hp.c1
 have hxou:=hp.outNew
 have hbs1:=hp.bs
 have hws:w.heap.size<=w1.heap.size:=hm.bel.size
 have hXB:w1.heap.size≠B:=hxou.1
 have hBX:B≠w1.heap.size:=fun e=>hxou.1 e.symm
 have hBl:=hp.lt
 clear hp hm
 have hbn:=fun w=>buildEx 61 p d w
 go_wp2_with fail
 go_region_held3 (fun w'=>w'.cell? ⟨B,1,none⟩=some (.int .i64 p)) (first | (exact c1) | (exact keepA c1 _) | (exact keepS hXB (keepA c1 _) _ _) | go_keep) (first | (go_at_call 145;refine (hpd _ (by first | exact HP1.out.drew | exact HP1.out.drew.alloc _ | exact HP1.out.alloc _ | exact HP1.out)).mono ?_;rintro e w' ⟨rfl,q,rfl⟩))
 all_goals
   have HP2:Hid (PM ((w1.alloc (.cells #[.int .u8 61,.int .i64 p,.int .i64 d,.int .i64 0,.int .i64 0,.slice none 0 0,.int .i64 (-1)] 114)).drewN (1+q)) base B s p false ev rv es rs):=(HP1.out.alloc _).drewN _
   have HM2:Hid (Mv base B ev rv ev rv w ((w1.alloc (.cells #[.int .u8 61,.int .i64 p,.int .i64 d,.int .i64 0,.int .i64 0,.slice none 0 0,.int .i64 (-1)] 114)).drewN (1+q))):=(HM1.out.trans (Mv.alloc hbs1 _)).drewN _
   have XH2:Hid (((w1.alloc (.cells #[.int .u8 61,.int .i64 p,.int .i64 d,.int .i64 0,.int .i64 0,.slice none 0 0,.int .i64 (-1)] 114)).drewN (1+q)).heap[w1.heap.size]?=some (.cells #[.int .u8 61,.int .i64 p,.int .i64 d,.int .i64 0,.int .i64 0,.slice none 0 0,.int .i64 (-1)] 114 (0,0))):=heap_alloc_new w1 _
   generalize (w1.alloc (.cells #[.int .u8 61,.int .i64 p,.int .i64 d,.int .i64 0,.int .i64 0,.slice none 0 0,.int .i64 (-1)] 114)).drewN (1+q)=w2 at *
   clear c1 hbn
   have c1:=HP2.out.c1
   have z1:=HP2.out.fz 1
   have x0:w2.cell? ⟨w1.heap.size,0,none⟩=some (.int .u8 61):=by simp [World.cell?,XH2.out]
   have hik:=fun w=>isKind_any 61 w
   rw [show isK 61=true from rfl] at hik
   go_wp2_with fail
   refine (hik _).mono ?_
   rintro e w3 ⟨hw3,rfl⟩
   subst w3
   have HP3:Hid (PM (w2.setCell ⟨B,1,none⟩ (.int .i64 ((p:Int)+1))) base B s (p+1) false ev rv es rs):=HP2.out.at (p+1) _ (by omega)
   have HM3:Hid (Mv base B ev rv ev rv w (w2.setCell ⟨B,1,none⟩ (.int .i64 ((p:Int)+1)))):=HM2.out.trans (HP2.out.setMv 1 _)
   have XH3:Hid ((w2.setCell ⟨B,1,none⟩ (.int .i64 ((p:Int)+1))).heap[w1.heap.size]?=some (.cells #[.int .u8 61,.int .i64 p,.int .i64 d,.int .i64 0,.int .i64 0,.slice none 0 0,.int .i64 (-1)] 114 (0,0))):=(heap_set_ne hXB).trans XH2.out
   have hp1:(p:Int)<2000:=by omega
   go_wp2_with fail
   clear c1 z1 x0
   refine (letter_any base B s (p+1) false ev rv es rs _ hs (by omega) HP3.out).mono ?_
   rintro e w4 ⟨rfl,hp,hm⟩
   have Pw4:Hid (PM w4 base B s (letK s (p+1) false) (letX s (p+1) false) ev rv (es) rs):=hp
   have Mw4:Hid (Mv base B ev rv ev rv w w4):=(HM3.out).trans hm
   have Xw4:Hid (w4.heap[w1.heap.size]?=some (.cells #[.int .u8 61,.int .i64 p,.int .i64 d,.int .i64 0,.int .i64 0,.slice none 0 0,.int .i64 (-1)] 114 (0,0))):=(hm.kept _ (lt_of_block (XH3.out)) hxou).1.trans (XH3.out)
   clear hp hm
   generalize hqe:skipF s (p+1) false=q1 at *
   generalize hve:hereF s q1 false=v1 at *
   clear hqe hve
   have x0:w4.cell? ⟨w1.heap.size,0,none⟩=some (.int .u8 61):=by simp [World.cell?,Xw4.out]
   have x1:w4.cell? ⟨w1.heap.size,1,none⟩=some (.int .i64 p):=by simp [World.cell?,Xw4.out]
   have x2:w4.cell? ⟨w1.heap.size,2,none⟩=some (.int .i64 d):=by simp [World.cell?,Xw4.out]
   have x3:w4.cell? ⟨w1.heap.size,3,none⟩=some (.int .i64 0):=by simp [World.cell?,Xw4.out]
   have x4:w4.cell? ⟨w1.heap.size,4,none⟩=some (.int .i64 0):=by simp [World.cell?,Xw4.out]
   have x5:w4.cell? ⟨w1.heap.size,5,none⟩=some (.slice none 0 0):=by simp [World.cell?,Xw4.out]
   have x6:w4.cell? ⟨w1.heap.size,6,none⟩=some (.int .i64 (-1)):=by simp [World.cell?,Xw4.out]
   have xz:∀ j,w4.frozen? ⟨w1.heap.size,j,none⟩=false:=fun j=>by simp [World.frozen?,Xw4.out]
   have HP4:Hid (PM (((w4).setCell ⟨w1.heap.size,3,none⟩ (.int .i64 v1)).setCell ⟨w1.heap.size,4,none⟩ (.int .i64 q1)) base B s (letK s (p+1) false) (letX s (p+1) false) ev rv (es) rs):=((Pw4.out).setE (j:=3) (u:=.int .i64 v1) ⟨_,_,Xw4.out⟩ hxou.2.1).setE (j:=4) (u:=.int .i64 q1) ⟨_,_,(blk7_set (j:=3) (u:=.int .i64 v1) (Xw4.out))⟩ hxou.2.1
   have HM4:Hid (Mv base B ev rv ev rv w (((w4).setCell ⟨w1.heap.size,3,none⟩ (.int .i64 v1)).setCell ⟨w1.heap.size,4,none⟩ (.int .i64 q1))):=((Mw4.out).setNew (j:=3) hws hbs1 (.int .i64 v1)).setNew (j:=4) hws hbs1 (.int .i64 q1)
   have HX4:Hid ((((w4).setCell ⟨w1.heap.size,3,none⟩ (.int .i64 v1)).setCell ⟨w1.heap.size,4,none⟩ (.int .i64 q1)).heap[w1.heap.size]?=some (.cells #[.int .u8 61,.int .i64 p,.int .i64 d,.int .i64 v1,.int .i64 q1,.slice none 0 0,.int .i64 (-1)] 114 (0,0))):=(blk7_set (j:=4) (u:=.int .i64 q1) ((blk7_set (j:=3) (u:=.int .i64 v1) (Xw4.out))))
   go_wp2_with fail
   generalize ((w4).setCell ⟨w1.heap.size,3,none⟩ (.int .i64 v1)).setCell ⟨w1.heap.size,4,none⟩ (.int .i64 q1)=wq at *
   clear x0 x1 x2 x3 x4 x5 x6 xz
   have x0:wq.cell? ⟨w1.heap.size,0,none⟩=some (.int .u8 61):=by simp [World.cell?,HX4.out]
   have x1:wq.cell? ⟨w1.heap.size,1,none⟩=some (.int .i64 p):=by simp [World.cell?,HX4.out]
   have x2:wq.cell? ⟨w1.heap.size,2,none⟩=some (.int .i64 d):=by simp [World.cell?,HX4.out]
   have x3:wq.cell? ⟨w1.heap.size,3,none⟩=some (.int .i64 v1):=by simp [World.cell?,HX4.out]
   have x4:wq.cell? ⟨w1.heap.size,4,none⟩=some (.int .i64 q1):=by simp [World.cell?,HX4.out]
   have x5:wq.cell? ⟨w1.heap.size,5,none⟩=some (.slice none 0 0):=by simp [World.cell?,HX4.out]
   have x6:wq.cell? ⟨w1.heap.size,6,none⟩=some (.int .i64 (-1)):=by simp [World.cell?,HX4.out]
   have xz:∀ j,wq.frozen? ⟨w1.heap.size,j,none⟩=false:=fun j=>by simp [World.frozen?,HX4.out]
   have c4:=HP4.out.c4
   have hX4:w1.heap.size<wq.heap.size:=lt_of_block HX4.out
   have hnm:∀ wz:World,Below wq.heap.size wq wz->Calls Tryz.prog 102 #[rv,.int .i64 v1] wz fun e w'=>Below wz.heap.size wz w'/\e=.returned (.int .i64 (nmdR v1 rs)):=fun wz hz=>namedP_any rv v1 rs wz (by omega) (HP4.out.below hz).rvs
   go_region_with (go_at_call 102;refine (hnm _ ?_).mono ?_;exact (Below.refl _ _).drew;rintro e w6 ⟨hb6,rfl⟩;have f6:=(hb6.cell (p:=⟨w1.heap.size,6,none⟩) hX4).trans x6;have f7:=(hb6.frozen (p:=⟨w1.heap.size,6,none⟩) hX4).trans (xz 6))
   all_goals
     have HP6:Hid (PM w6 base B s (letK s (p+1) false) (letX s (p+1) false) ev rv es rs):=HP4.out.drew.below hb6
     have HM6:Hid (Mv base B ev rv ev rv w w6):=HM4.out.drew.trans (Mv.of_below hb6 HP4.out.drew.bs)
     have HX6:Hid (w6.heap[w1.heap.size]?=some (.cells #[.int .u8 61,.int .i64 p,.int .i64 d,.int .i64 v1,.int .i64 q1,.slice none 0 0,.int .i64 (-1)] 114 (0,0))):=(hb6.block _ hX4).trans HX4.out
     clear hb6 f6 f7
     generalize hnr:nmdR v1 rs=nr at *
     clear hnr
     clear x0 x1 x2 x3 x4 x5 x6 xz
     have x0:w6.cell? ⟨w1.heap.size,0,none⟩=some (.int .u8 61):=by simp [World.cell?,HX6.out]
     have x1:w6.cell? ⟨w1.heap.size,1,none⟩=some (.int .i64 p):=by simp [World.cell?,HX6.out]
     have x2:w6.cell? ⟨w1.heap.size,2,none⟩=some (.int .i64 d):=by simp [World.cell?,HX6.out]
     have x3:w6.cell? ⟨w1.heap.size,3,none⟩=some (.int .i64 v1):=by simp [World.cell?,HX6.out]
     have x4:w6.cell? ⟨w1.heap.size,4,none⟩=some (.int .i64 q1):=by simp [World.cell?,HX6.out]
     have x5:w6.cell? ⟨w1.heap.size,5,none⟩=some (.slice none 0 0):=by simp [World.cell?,HX6.out]
     have x6:w6.cell? ⟨w1.heap.size,6,none⟩=some (.int .i64 (-1)):=by simp [World.cell?,HX6.out]
     have xz:∀ j,w6.frozen? ⟨w1.heap.size,j,none⟩=false:=fun j=>by simp [World.frozen?,HX6.out]
     have HP5:Hid (PM ((w6).setCell ⟨w1.heap.size,6,none⟩ (.int .i64 nr)) base B s (letK s (p+1) false) (letX s (p+1) false) ev rv (es) rs):=(HP6.out).setE (j:=6) (u:=.int .i64 nr) ⟨_,_,HX6.out⟩ hxou.2.1
     have HM5:Hid (Mv base B ev rv ev rv w ((w6).setCell ⟨w1.heap.size,6,none⟩ (.int .i64 nr))):=(HM6.out).setNew (j:=6) hws hbs1 (.int .i64 nr)
     have HX5:Hid (((w6).setCell ⟨w1.heap.size,6,none⟩ (.int .i64 nr)).heap[w1.heap.size]?=some (.cells #[.int .u8 61,.int .i64 p,.int .i64 d,.int .i64 v1,.int .i64 q1,.slice none 0 0,.int .i64 nr] 114 (0,0))):=(blk7_set (j:=6) (u:=.int .i64 nr) (HX6.out))
     have HV5:Hid (((w6).setCell ⟨w1.heap.size,6,none⟩ (.int .i64 nr)).ownsRow base 167 7 (.slice none 0 0) ((⟨61,p,d,v1,q1,[],nr⟩:EX)).items.length (imC ((⟨61,p,d,v1,q1,[],nr⟩:EX)).items)):=⟨rfl,.inl ⟨rfl,rfl⟩⟩
     go_wp2_with fail
     generalize (w6).setCell ⟨w1.heap.size,6,none⟩ (.int .i64 nr)=w5 at *
     clear x0 x1 x2 x3 x4 x5 x6 xz
     have x0:w5.cell? ⟨w1.heap.size,0,none⟩=some (.int .u8 61):=by simp [World.cell?,HX5.out]
     have x1:w5.cell? ⟨w1.heap.size,1,none⟩=some (.int .i64 p):=by simp [World.cell?,HX5.out]
     have x2:w5.cell? ⟨w1.heap.size,2,none⟩=some (.int .i64 d):=by simp [World.cell?,HX5.out]
     have x3:w5.cell? ⟨w1.heap.size,3,none⟩=some (.int .i64 v1):=by simp [World.cell?,HX5.out]
     have x4:w5.cell? ⟨w1.heap.size,4,none⟩=some (.int .i64 q1):=by simp [World.cell?,HX5.out]
     have x5:w5.cell? ⟨w1.heap.size,5,none⟩=some (.slice none 0 0):=by simp [World.cell?,HX5.out]
     have x6:w5.cell? ⟨w1.heap.size,6,none⟩=some (.int .i64 nr):=by simp [World.cell?,HX5.out]
     have c3:=HP5.out.c3
     have hB5:=HP5.out.lt
     have hX5:w1.heap.size<w5.heap.size:=lt_of_block HX5.out
     have z3:=HP5.out.fz 3
     obtain ⟨n9,hn9⟩:∃ n9,n9=(es).length:=⟨_,rfl⟩
     have HN9:Hid (n9=(es).length):=hn9
     have HE9:Hid (w5.ownsRow base 114 7 ev n9 (exC (es))):=by show World.ownsRow _ _ _ _ _ _ _;rw [hn9];exact HP5.out.ex
     have hl9:(n9:Int)<5000:=by rw [hn9];omega
     clear hn9
     have hA1:Hid (n9+1<=maxLen):=by show _<=_;unfold maxLen;omega
     have hA2:Hid ((n9+1)*72<=140737488355328):=by show _<=_;omega
     have hA3:Hid (∀ o:Obj,base<=(w5.alloc o).drew.heap.size):=fun o=>by have:=HP5.out.bs;show base<=(w5.alloc o).heap.size;simp;omega
     have hone:Hid (∀ u∈exV ((⟨61,p,d,v1,q1,[],nr⟩:EX),.slice none 0 0),u.oneCell'=true):=fun u hu=>by simp [exV] at hu;rcases hu with rfl | rfl | rfl | rfl | rfl | rfl | rfl<;>first | rfl | exact HV1.out
     go_region_law ((refine step_append_lies _ (by rfl) _ _ _ (by rfl) base 114 i0 _ 7 72 Tryz.underlying74 hi0 hz0 hz1 hz2 rfl (by decide) ev _ _ (by rfl) ((HE9.out.alloc _).drew) ⟨w5.heap.size,0,none⟩ 1 1 (exV ((⟨61,p,d,v1,q1,[],nr⟩:EX),.slice none 0 0)) (by rfl) (by rfl) (World.news_of_block (cs:=#[.int .u8 61,.int .i64 p,.int .i64 d,.int .i64 v1,.int .i64 q1,.slice none 0 0,.int .i64 nr]) (t:=114) (fr:=(0,0)) (heap_alloc_new w5 _)) hone.out (Nat.lt_succ_self 0) hA1.out hA2.out (hA3.out _) (w5.heap.size+1) (by simp) ?_;intro g cap w9 hown hgrow hat hlt9;obtain ⟨y3,yz⟩:=HP5.out.grown3 hgrow))
     all_goals
       have HP9:Hid (PM (w9.setCell ⟨B,3,none⟩ (.slice (some ⟨g,0,none⟩) (n9+1) cap)) base B s (letK s (p+1) false) (letX s (p+1) false) (.slice (some ⟨g,0,none⟩) (n9+1) cap) rv (es++[((⟨61,p,d,v1,q1,[],nr⟩:EX),.slice none 0 0)]) rs):=((HP5.out.alloc _).drew).pushE HN9.out hgrow hown ((HV5.out.alloc _).drew)
       have HM9:Hid (Mv base B ev rv (.slice (some ⟨g,0,none⟩) (n9+1) cap) rv w (w9.setCell ⟨B,3,none⟩ (.slice (some ⟨g,0,none⟩) (n9+1) cap))):=(HM5.out.trans (Mv.alloc HP5.out.bs _)).drew.trans (((HP5.out.alloc _).drew).pushMv hgrow hat (by show (w5.alloc _).heap.size<=_;simp))
       clear hown hgrow hat
       go_wp2_with fail
       go_ret
       exact ⟨by rw [<- hR.out];rw [<- HN9.out];rfl,_,[((⟨61,p,d,v1,q1,[],nr⟩:EX),.slice none 0 0)],by rw [<- hR.out];rfl,by rw [<- hR.out];exact HP9.out,HM9.out,fun q hq g hg=>by simp at hq;subst hq;simp [Value.ownBlock] at hg⟩
end Go.Proofs.YtaebngpoagjafaaGreat
