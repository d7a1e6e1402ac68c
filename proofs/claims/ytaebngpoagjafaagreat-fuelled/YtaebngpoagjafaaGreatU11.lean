/-
  OUR OWN.
-/
import Derived.Test.YtaebngpoagjafaaGreatU10
import Derived.Laws.NewBlocks
set_option maxRecDepth 100000
namespace Go.Proofs.YtaebngpoagjafaaGreat
open Go.RowKit
def takeB (s:ByteArray) (c:Int) (k:Nat) (b:Bool):Bool:=hereF s (skipF s k b) b==c
def takeK (s:ByteArray) (c:Int) (k:Nat) (b:Bool):Nat:=if takeB s c k b=true then skipF s k b+1 else skipF s k b
def wantB (s:ByteArray) (c:Int) (k:Nat) (b:Bool):Bool:=if takeB s c k b=true then b else true
theorem takeB_lt {s:ByteArray} {c:Int} {k:Nat} {b:Bool} (hc:c≠0) (h:takeB s c k b=true):b=false/\skipF s k b<s.size/\T.ch s (T.sk s k)=c:=by
 unfold takeB hereF at h
 cases b with
 | true=>simp at h;exact absurd h.symm hc
 | false =>
   by_cases hlt:skipF s k false<s.size
   · simp [hlt] at h
     exact ⟨rfl,hlt,by simpa [skipF] using h⟩
   · simp [hlt] at h;exact absurd h.symm hc
theorem takeK_le {s:ByteArray} {c:Int} {k:Nat} {b:Bool} (hc:c≠0) (hk:k<=s.size):takeK s c k b<=s.size:=by
 unfold takeK
 split
 · next h=>have:=(takeB_lt hc h).2.1;omega
 · exact skipF_le hk
attribute [local go_sem ↓] Go.wp_at_zero Go.wp_at_succ
set_option maxHeartbeats 400000 in
theorem take_any (base B:Nat) (s:ByteArray) (c:Int) (k:Nat) (b:Bool) (ev rv:Value) (es:List (EX×Value)) (rs:List RL) (w:World) (hs:s.size<=2000) (hk:k<=s.size) (hc:c≠0) (h:PM w base B s k b ev rv es rs) :
   Calls Tryz.prog 101 #[.pointer (some ⟨B,0,none⟩),.int .u8 c] w fun e w'=>e=.returned (.bool (takeB s c k b))/\PM w' base B s (takeK s c k b) b ev rv es rs/\Mv base B ev rv ev rv w w':=by
 have H:Hid (PM w base B s k b ev rv es rs):=h
 clear h
 go_enter Tryz.func101,Tryz.ntmps101
 go_wp2_with fail
 refine (skip_any base B s k b ev rv es rs _ hs hk H.out).mono ?_
 rintro e w1 ⟨rfl,hp,hm⟩
 have HP:Hid (PM w1 base B s (skipF s k b) b ev rv es rs):=hp
 have HM:Hid (Mv base B ev rv ev rv w w1):=hm
 clear hp hm
 go_wp2_with fail
 refine (here_pm base B s (skipF s k b) b ev rv es rs _ (skipF_le hk) HP.out).mono ?_
 rintro e w2 ⟨rfl,hp,hm⟩
 have HP2:Hid (PM w2 base B s (skipF s k b) b ev rv es rs):=hp
 have HM2:Hid (Mv base B ev rv ev rv w w2):=HM.out.trans hm
 have c1:=hp.c1
 have z1:=hp.fz 1
 clear hp hm
 cases ht:takeB s c k b with
 | true =>
   have hlt:=(takeB_lt hc ht).2.1
   have HK:Hid (takeK s c k b=skipF s k b+1):=by show _=_;unfold takeK;rw [if_pos ht]
   have he:(hereF s (skipF s k b) b==c)=true:=ht
   have HT:Hid (takeB s c k b=true):=ht
   have he2:(hereF s (skipF s k b) b != c)=false:=by simp [bne,he]
   generalize hereF s (skipF s k b) b=x at *
   clear ht
   generalize skipF s k b=p at *
   have hpl:(p:Int)<2000:=by omega
   go_wp2_with fail
   go_ret
   exact ⟨by rw [HT.out];rfl,by rw [HK.out];exact HP2.out.at (p+1) _ (by omega),HM2.out.trans (HP2.out.setMv 1 _)⟩
 | false =>
   have HK:Hid (takeK s c k b=skipF s k b):=by show _=_;unfold takeK;rw [if_neg (by rw [ht];decide)]
   have he:(hereF s (skipF s k b) b==c)=false:=ht
   have HT:Hid (takeB s c k b=false):=ht
   have he2:(hereF s (skipF s k b) b != c)=true:=by simp [bne,he]
   generalize hereF s (skipF s k b) b=x at *
   clear ht
   go_wp2_with fail
   go_ret
   exact ⟨by rw [HT.out];rfl,by rw [HK.out];exact HP2.out,HM2.out⟩
set_option maxHeartbeats 400000 in
theorem want_any (base B:Nat) (s:ByteArray) (c:Int) (k:Nat) (b:Bool) (ev rv:Value) (es:List (EX×Value)) (rs:List RL) (w:World) (hs:s.size<=2000) (hk:k<=s.size) (hc:c≠0) (h:PM w base B s k b ev rv es rs) :
   Calls Tryz.prog 142 #[.pointer (some ⟨B,0,none⟩),.int .u8 c] w fun e w'=>e=.returned (.tuple #[])/\PM w' base B s (takeK s c k b) (wantB s c k b) ev rv es rs/\Mv base B ev rv ev rv w w':=by
 have H:Hid (PM w base B s k b ev rv es rs):=h
 clear h
 go_enter Tryz.func142,Tryz.ntmps142
 go_wp2_with fail
 refine (take_any base B s c k b ev rv es rs _ hs hk hc H.out).mono ?_
 rintro e w1 ⟨rfl,hp,hm⟩
 have HP:Hid (PM w1 base B s (takeK s c k b) b ev rv es rs):=hp
 have HM:Hid (Mv base B ev rv ev rv w w1):=hm
 have c2:=hp.c2
 have z2:=hp.fz 2
 clear hp hm
 cases ht:takeB s c k b with
 | true =>
   have HB:Hid (wantB s c k b=b):=by show _=_;unfold wantB;rw [if_pos ht]
   clear ht
   go_wp2_with fail
   go_end0
   exact ⟨rfl,by rw [HB.out];exact HP.out,HM.out⟩
 | false =>
   have HB:Hid (wantB s c k b=true):=by show _=_;unfold wantB;rw [if_neg (by rw [ht];decide)]
   clear ht
   go_wp2_with fail
   go_end0
   exact ⟨rfl,by rw [HB.out];exact HP.out.bad true,HM.out.trans (HP.out.setMv 2 _)⟩
end Go.Proofs.YtaebngpoagjafaaGreat
namespace Go.Proofs.YtaebngpoagjafaaGreat
open Go.RowKit
def HasT (w:World) (c:Nat) (t:TypeId):Prop:=∃ cs fr,w.heap[c]?=some (.cells cs t fr)
theorem HasT.set {w:World} {c:Nat} {t:TypeId} (h:HasT w c t) (d j:Nat) (u:Value):HasT (w.setCell ⟨d,j,none⟩ u) c t:=by
 obtain ⟨cs,fr,h⟩:=h
 by_cases e:c=d
 · subst e
   exact ⟨cs.setIfInBounds j u,fr,by simp [World.setCell,Array.getElem?_modify,h]⟩
 · exact ⟨cs,fr,by rw [heap_set_ne e];exact h⟩
theorem HasT.alloc {w:World} {c:Nat} {t:TypeId} (h:HasT w c t) (o:Obj):HasT (w.alloc o) c t:=by
 obtain ⟨cs,fr,h⟩:=h
 exact ⟨cs,fr,by rw [Below.heap_alloc _ _ _ (lt_of_block h)];exact h⟩
theorem HasT.new (w:World) (cs:Array Value) (t:TypeId):HasT (w.alloc (.cells cs t)) w.heap.size t:=⟨cs,(0,0),heap_alloc_new w _⟩
theorem HasT.of_block {w w':World} {c:Nat} {t:TypeId} (h:HasT w c t) (e:w'.heap[c]?=w.heap[c]?):HasT w' c t:=by
 obtain ⟨cs,fr,h⟩:=h
 exact ⟨cs,fr,e.trans h⟩
theorem PM.setT {w:World} {base B s k b ev rv es rs} (h:PM w base B s k b ev rv es rs) {c j:Nat} {u:Value} {t:TypeId} (hT:HasT w c t)
   (h1:t≠106) (h2:t≠114) (h3:t≠161) (h4:t≠167):PM (w.setCell ⟨c,j,none⟩ u) base B s k b ev rv es rs:=by
 obtain ⟨cs,fr,hc⟩:=hT
 refine ⟨?_,ownsRow_setCell_other h.ex (owns_ne h.ex hc h2) _,ownsRow_setCell_other h.rl (owns_ne h.rl hc h3) _,fun p hp=>ownsRow_setCell_other (h.it p hp) (owns_ne (h.it p hp) hc h4) _,h.hB⟩
 rw [heap_set_ne (fun e=>by subst e;have:=h.blk;rw [hc] at this;simp at this;exact h1 this.2.1)]
 exact h.blk
theorem PM.setN {w:World} {base B s k b ev rv es rs} (h:PM w base B s k b ev rv es rs) {c j:Nat} {u:Value} (hT:HasT w c 111):PM (w.setCell ⟨c,j,none⟩ u) base B s k b ev rv es rs:=h.setT hT (by decide) (by decide) (by decide) (by decide)
theorem Mv.setNew {base B:Nat} {a b c d:Value} {w w1:World} (h:Mv base B a b c d w w1) {k j:Nat} (hk:w.heap.size<=k) (hb:base<=k) (u:Value):Mv base B a b c d w (w1.setCell ⟨k,j,none⟩ u) :=
 ⟨h.bel.setCell hb _,fun x hx ho=>⟨(heap_set_ne (by omega)).trans (h.kept x hx ho).1,(h.kept x hx ho).2⟩⟩
def letB (s:ByteArray) (k:Nat) (b:Bool):Bool:=decide (97<=hereF s (skipF s k b) b) && decide (hereF s (skipF s k b) b<=122)
def letK (s:ByteArray) (k:Nat) (b:Bool):Nat:=if letB s k b=true then skipF s k b+1 else skipF s k b
def letX (s:ByteArray) (k:Nat) (b:Bool):Bool:=if letB s k b=true then b else true
theorem letB_lt {s:ByteArray} {k:Nat} {b:Bool} (h:letB s k b=true):b=false/\skipF s k b<s.size:=by
 unfold letB hereF at h
 cases b with
 | true=>simp at h
 | false =>
   by_cases hlt:skipF s k false<s.size
   · exact ⟨rfl,hlt⟩
   · simp [hlt] at h
theorem letK_le {s:ByteArray} {k:Nat} {b:Bool} (hk:k<=s.size):letK s k b<=s.size:=by
 unfold letK
 split
 · next h=>have:=(letB_lt h).2;omega
 · exact skipF_le hk
theorem buildNum2 (a b:Int) (w:World):(Instr.build 111 #[(0,.int .i64 a),(1,.int .i64 b)]).run Tryz.prog w=.ok (.agg #[.int .i64 a,.int .i64 b]) w:=run_build w 111 _ _ (by kernel_rfl)
theorem buildNum1 (b:Int) (w:World):(Instr.build 111 #[(1,.int .i64 b)]).run Tryz.prog w=.ok (.agg #[.int .i64 0,.int .i64 b]) w:=run_build w 111 _ _ (by kernel_rfl)
attribute [local go_sem ↓] Go.wp_at_zero Go.wp_at_succ
set_option maxHeartbeats 400000 in
theorem letter_any (base B:Nat) (s:ByteArray) (k:Nat) (b:Bool) (ev rv:Value) (es:List (EX×Value)) (rs:List RL) (w:World) (hs:s.size<=2000) (hk:k<=s.size) (h:PM w base B s k b ev rv es rs) :
   Calls Tryz.prog 141 #[.pointer (some ⟨B,0,none⟩)] w fun e w'=>e=.returned (.agg #[.int .i64 (hereF s (skipF s k b) b),.int .i64 (skipF s k b)])/\PM w' base B s (letK s k b) (letX s k b) ev rv es rs/\Mv base B ev rv ev rv w w':=by
 have H:Hid (PM (w.alloc (.cells #[.int .i64 0,.int .i64 0] 111)) base B s k b ev rv es rs):=h.alloc _
 have HM0:Hid (Mv base B ev rv ev rv w (w.alloc (.cells #[.int .i64 0,.int .i64 0] 111))):=Mv.alloc h.bs _
 have hou:=h.outNew
 have hbs:=h.bs
 clear h
 go_enter Tryz.func141,Tryz.ntmps141
 go_wp2_with fail
 refine (skip_any base B s k b ev rv es rs _ hs hk H.out).mono ?_
 rintro e w1 ⟨rfl,hp,hm⟩
 have HP:Hid (PM w1 base B s (skipF s k b) b ev rv es rs):=hp
 have HM:Hid (Mv base B ev rv ev rv (w.alloc (.cells #[.int .i64 0,.int .i64 0] 111)) w1):=hm
 clear hp hm
 go_wp2_with fail
 refine (here_pm base B s (skipF s k b) b ev rv es rs _ (skipF_le hk) HP.out).mono ?_
 rintro e w2 ⟨rfl,hp,hm⟩
 have HP2:Hid (PM w2 base B s (skipF s k b) b ev rv es rs):=hp
 have HM2:Hid (Mv base B ev rv ev rv w w2):=HM0.out.trans (HM.out.trans hm)
 have hr:w2.heap[w.heap.size]?=some (.cells #[.int .i64 0,.int .i64 0] 111 (0,0)):=((HM.out.trans hm).kept _ (by simp) hou).1.trans (heap_alloc_new w _)
 have c1:=hp.c1
 have c2:=hp.c2
 have z1:=hp.fz 1
 have z2:=hp.fz 2
 have r0:w2.cell? ⟨w.heap.size,0,none⟩=some (.int .i64 0):=by simp [World.cell?,hr]
 have r1:w2.cell? ⟨w.heap.size,1,none⟩=some (.int .i64 0):=by simp [World.cell?,hr]
 have rz:∀ j,w2.frozen? ⟨w.heap.size,j,none⟩=false:=fun j=>by simp [World.frozen?,hr]
 have HR:Hid (w2.heap[w.heap.size]?=some (.cells #[.int .i64 0,.int .i64 0] 111 (0,0))):=hr
 have hlt2:=hp.lt
 have hne:w.heap.size≠B:=hou.1
 have hne':B≠w.heap.size:=fun e=>hou.1 e.symm
 have hn3:w2.heap.size≠B:=by omega
 have hn4:B≠w2.heap.size:=by omega
 have hwl:w.heap.size<w2.heap.size:=lt_of_block hr
 have hn5:w.heap.size≠w2.heap.size:=by omega
 clear hp hm hr
 have hb:=hereF_bd s (skipF s k b) b
 have HK:Hid (letK s k b=if letB s k b=true then skipF s k b+1 else skipF s k b):=rfl
 have HX:Hid (letX s k b=if letB s k b=true then b else true):=rfl
 have hLB:letB s k b=(decide (97<=hereF s (skipF s k b) b) && decide (hereF s (skipF s k b) b<=122)):=rfl
 have hLT:letB s k b=true->skipF s k b<s.size:=fun h=>(letB_lt h).2
 generalize hxe:hereF s (skipF s k b) b=x at *
 generalize hpe:skipF s k b=p at *
 have HXE:Hid (hereF s p b=x):=hxe
 have HPE:Hid (skipF s k b=p):=hpe
 clear hxe hpe
 have hbn:=fun w=>buildNum2 x p w
 by_cases h1:x<97
 · have e1:letB s k b=false:=by rw [hLB];simp;omega
   rw [e1] at HK HX
   have HK2:Hid (letK s k b=p):=HK.out
   have HX2:Hid (letX s k b=true):=HX.out
   clear hLB hLT e1 HK HX
   go_wp2_with fail
   exact bodyPost_ret (v:=.agg #[.int .i64 x,.int .i64 p]) (by simp [results,Tryz.results141,go_sem,r0,r1,hwl]) rfl ⟨by rw [HPE.out,HXE.out],by rw [HK2.out,HX2.out];exact ((((HP2.out.bad true).setN (HasT.set ⟨_,_,HR.out⟩ _ _ _)).setN (HasT.set (HasT.set ⟨_,_,HR.out⟩ _ _ _) _ _ _)).alloc _),(((HM2.out.trans (HP2.out.setMv 2 _)).setNew (Nat.le_refl _) hbs _).setNew (Nat.le_refl _) hbs _).trans (Mv.alloc (((HP2.out.bad true).setN (HasT.set ⟨_,_,HR.out⟩ _ _ _)).setN (HasT.set (HasT.set ⟨_,_,HR.out⟩ _ _ _) _ _ _)).bs _)⟩
 · by_cases h2:122<x
   · have e1:letB s k b=false:=by rw [hLB];simp;omega
     rw [e1] at HK HX
     have HK2:Hid (letK s k b=p):=HK.out
     have HX2:Hid (letX s k b=true):=HX.out
     clear hLB hLT e1 HK HX
     go_wp2_with fail
     exact bodyPost_ret (v:=.agg #[.int .i64 x,.int .i64 p]) (by simp [results,Tryz.results141,go_sem,r0,r1,hwl]) rfl ⟨by rw [HPE.out,HXE.out],by rw [HK2.out,HX2.out];exact ((((HP2.out.bad true).setN (HasT.set ⟨_,_,HR.out⟩ _ _ _)).setN (HasT.set (HasT.set ⟨_,_,HR.out⟩ _ _ _) _ _ _)).alloc _),(((HM2.out.trans (HP2.out.setMv 2 _)).setNew (Nat.le_refl _) hbs _).setNew (Nat.le_refl _) hbs _).trans (Mv.alloc (((HP2.out.bad true).setN (HasT.set ⟨_,_,HR.out⟩ _ _ _)).setN (HasT.set (HasT.set ⟨_,_,HR.out⟩ _ _ _) _ _ _)).bs _)⟩
   · have e1:letB s k b=true:=by rw [hLB];simp;omega
     have hpl:p<s.size:=hLT e1
     rw [e1] at HK HX
     have HK2:Hid (letK s k b=p+1):=HK.out
     have HX2:Hid (letX s k b=b):=HX.out
     clear hLB hLT e1 HK HX
     have hpi:(p:Int)<2000:=by omega
     go_wp2_with fail
     exact bodyPost_ret (v:=.agg #[.int .i64 x,.int .i64 p]) (by simp [results,Tryz.results141,go_sem,r0,r1,hwl]) rfl ⟨by rw [HPE.out,HXE.out],by rw [HK2.out,HX2.out];exact ((((HP2.out.at (p+1) _ (by omega)).setN (HasT.set ⟨_,_,HR.out⟩ _ _ _)).setN (HasT.set (HasT.set ⟨_,_,HR.out⟩ _ _ _) _ _ _)).alloc _),(((HM2.out.trans (HP2.out.setMv 1 _)).setNew (Nat.le_refl _) hbs _).setNew (Nat.le_refl _) hbs _).trans (Mv.alloc (((HP2.out.at (p+1) _ (by omega)).setN (HasT.set ⟨_,_,HR.out⟩ _ _ _)).setN (HasT.set (HasT.set ⟨_,_,HR.out⟩ _ _ _) _ _ _)).bs _)⟩
end Go.Proofs.YtaebngpoagjafaaGreat
