import Derived.Test.YtaebngpoagjafabGreatV20
set_option maxRecDepth 100000
set_option maxHeartbeats 800000
namespace Go.Proofs.YtaebngpoagjafabGreat
open Value renaming int → J, slice → O
open IntKind renaming i64 → Z
open Go.RowKit
attribute [local go_sem ↓] Go.wp_at_zero Go.wp_at_succ
section
def Zj (s:ByteArray):Int×Int :=
 if 2000<s.size then (1,0)
 else if ((zA s).b || decide ((zA s).k<s.size))=true then (2,(zA s).k)
 else if (Y5 (zA s).es (zA s).rs).1=0 then (0,0) else Y5 (zA s).es (zA s).rs
structure PQ (w:World) (base:Nat) (ev rv:Value) (es:List (EX×Value)) (rs:List RL):Prop where
 ex:w.ownsRow base 148 7 ev es.length (exC es)
 rl:w.ownsRow base 143 3 rv rs.length (rlC rs)
 it:∀ p∈es,w.ownsRow base 155 7 p.2 p.1.items.length (imC p.1.items)
theorem zcU (s:ByteArray) (w:World):(Instr.build 104 #[(0,.string s)]).run Tryz.prog w=.ok (.agg #[.string s,J Z 0,.bool false,O none 0 0,O none 0 0]) w:=run_build w 104 _ _ (by kernel_rfl)
def ZA (n:Nat) (l:List EX):Prop:=∀ e∈l,e.items.length<=n
theorem ZA.app {n:Nat} {a b:List EX} (h:ZA n a) (k:ZA n b):ZA n (a++b):=fun e he=>(List.mem_append.1 he).elim (h e) (k e)
theorem ZA.one {n:Nat} {e:EX} (h:e.items.length<=n):ZA n [e]:=fun x hx=>by simp at hx;subst hx;exact h
theorem ZA.nil (n:Nat):ZA n []:=fun _ h=>by simp at h
theorem zam {ex:Int->Nat->Nat->Bool->CR} {s:ByteArray} {N:Nat} (hX:∀ d m k b,ZA N (ex d m k b).es) (kind d:Int) (m k:Nat) (b:Bool):ZA N (zt ex s kind d m k b).es:=by
 unfold zt
 simp only
 split
 ·exact hX _ _ _ _
 ·split
  ·exact hX _ _ _ _
  ·split<;>exact ZA.nil _
theorem X1 {ex:Int->Nat->Nat->Bool->CR} {s:ByteArray} {N:Nat} (hX:∀ d m k b,ZA N (ex d m k b).es) (kind d:Int):∀ (n m k:Nat) (b:Bool),ZA N (zd ex s kind d n m k b).es/\(zd ex s kind d n m k b).ims.length<=n:=by
 intro n
 induction n with
 | zero=>intro m k b;exact ⟨ZA.nil _,by simp [zd]⟩
 | succ n ih =>
  intro m k b
  have h1:=zam (s:=s) hX kind d m k b
  simp only [zd]
  split
  ·have h2:=ih (m+(zt ex s kind d m k b).es.length) (zc s 44 (zt ex s kind d m k b).k (zt ex s kind d m k b).b) (zt ex s kind d m k b).b
   exact ⟨h1.app h2.1,by simp only [List.length_cons];omega⟩
  ·exact ⟨h1,by simp⟩
theorem zbG (s:ByteArray) (rs:List RL) (n:Nat):∀ d m k b,ZA (s.size+1) (cE s rs n d m k b).es:=by
 induction n with
 | zero=>intro d m k b;exact ZA.nil _
 | succ n ih =>
  intro d m k b
  simp only [cE]
  split
  ·exact ZA.nil _
  ·split
   ·have h:=X1 (s:=s) ih 123 d (s.size+1-(zb s k b+1)) m (zb s k b+1) b
    exact h.1.app (ZA.one (by simp only;omega))
   ·split
    ·exact (ih _ _ _ _).app (ZA.one (by simp))
    ·split
     ·exact ZA.one (by simp)
     ·split
      ·exact ZA.one (by simp)
      ·have h:=X1 (s:=s) ih (ze s (zb s k b) b) d (s.size+1-zc s 40 (zb s k b+1) b) m (zc s 40 (zb s k b+1) b) (zj s 40 (zb s k b+1) b)
       exact (h.1.app (ih _ _ _ _)).app (ZA.one (by simp only;omega))
theorem Y6 (s:ByteArray):∀ (n:Nat) (rs:List RL) (m k:Nat) (b:Bool),ZA (s.size+1) (zw s n rs m k b).es:=by
 intro n
 induction n with
 | zero=>intro rs m k b;exact ZA.nil _
 | succ n ih =>
  intro rs m k b
  simp only [zw]
  split
  ·exact ZA.app (zbG s rs _ _ _ _ _) (ih _ _ _ _)
  ·exact zbG s rs _ _ _ _ _
theorem PM.pv {w:World} {base B s k b ev rv es rs} (h:PM w base B s k b ev rv es rs) (he:es.length<=100000) (hr:rs.length<=100000) (hi:∀ p∈es,p.1.items.length<=100000):∃ eo ec ro rc,ev=O eo es.length ec/\rv=O ro rs.length rc/\PV w eo ro ec rc es rs:=by
 have h1:∃ eo ec,ev=O eo es.length ec/\∀ i x,es[i]?=some x->∃ g vo vm vc,eo=some ⟨g,0,none⟩/\g<w.heap.size/\w.cell? ⟨g,i*7,none⟩=some (J .u8 x.1.kind)/\w.cell? ⟨g,i*7+1,none⟩=some (J Z x.1.at_)/\w.cell? ⟨g,i*7+2,none⟩=some (J Z x.1.depth)/\w.cell? ⟨g,i*7+3,none⟩=some (J Z x.1.nv)/\w.cell? ⟨g,i*7+4,none⟩=some (J Z x.1.na)/\w.cell? ⟨g,i*7+5,none⟩=some (O vo vm vc)/\w.cell? ⟨g,i*7+6,none⟩=some (J Z x.1.inner)/\x.2=O vo vm vc/\IV w (O vo vm vc) x.1.items/\(∀ q,(O vo vm vc).ownBlock=some q->q<w.heap.size)/\x.1.items.length<=100000:=by
  have h0:=h.ex
  rcases h.ex.2 with ⟨h1,h2⟩ | ⟨g,cap,cur,rfl,h1,h2,_⟩
  ·have:es=[]:=List.eq_nil_of_length_eq_zero h2
   subst this
   exact ⟨none,0,h1,fun i x hx=>by simp at hx⟩
  ·refine ⟨_,cap,rfl,fun i x hx=>?_⟩
   have hx2:=h.it x (List.mem_of_getElem? hx)
   have hc:=fun j hj=>z6 exV (fun _=>rfl) h0 hx j hj
   have hiv:∃ vo vm vc,x.2=O vo vm vc/\IV w (O vo vm vc) x.1.items:=by
    have h3:=hx2
    rcases hx2.2 with ⟨q1,q2⟩ | ⟨g',cap',cur',q1,q2,q3,q4,_⟩
    ·exact ⟨none,0,0,q1,.inl ⟨rfl,List.eq_nil_of_length_eq_zero q2⟩⟩
    ·rw [q1] at h3
     have hd:=fun i y hy j hj=>z6 imV (fun _=>rfl) h3 (i:=i) (x:=y) hy j hj
     exact ⟨_,_,_,q1,.inr ⟨g',cap',rfl,q4,fun i y hy=>⟨hd i y hy 0 (by decide),hd i y hy 1 (by decide),hd i y hy 2 (by decide),hd i y hy 3 (by decide),hd i y hy 4 (by decide),hd i y hy 5 (by decide),hd i y hy 6 (by decide)⟩⟩⟩
   obtain ⟨vo,vm,vc,hv,hiv⟩:=hiv
   have h5:w.cell? ⟨g,i*7+5,none⟩=some (O vo vm vc):=by rw [<- hv];exact hc 5 (by decide)
   exact ⟨g,vo,vm,vc,rfl,lt_of_block h2,hc 0 (by decide),hc 1 (by decide),hc 2 (by decide),hc 3 (by decide),hc 4 (by decide),h5,hc 6 (by decide),hv,hiv,fun q hq=>(hx2.lt q (by rw [hv];exact hq)).2,hi x (List.mem_of_getElem? hx)⟩
 have h2:∃ ro rc,rv=O ro rs.length rc/\rs.length<=rc/\∀ i r,rs[i]?=some r->∃ g,ro=some ⟨g,0,none⟩/\g<w.heap.size/\w.cell? ⟨g,i*3,none⟩=some (J Z r.nv)/\w.cell? ⟨g,i*3+1,none⟩=some (J Z r.na)/\w.cell? ⟨g,i*3+2,none⟩=some (J Z r.ex):=by
  have h0:=h.rl
  rcases h.rl.2 with ⟨h1,h2⟩ | ⟨g,cap,cur,rfl,h1,h2,h3,_⟩
  ·have:rs=[]:=List.eq_nil_of_length_eq_zero h2
   subst this
   exact ⟨none,0,h1,Nat.le_refl _,fun i x hx=>by simp at hx⟩
  ·exact ⟨_,cap,rfl,h3,fun i r hr=>⟨g,rfl,lt_of_block h2,z6 rlV (fun _=>rfl) h0 hr 0 (by decide),z6 rlV (fun _=>rfl) h0 hr 1 (by decide),z6 rlV (fun _=>rfl) h0 hr 2 (by decide)⟩⟩
 obtain ⟨eo,ec,rfl,e1⟩:=h1
 obtain ⟨ro,rc,rfl,r1,r2⟩:=h2
 exact ⟨eo,ec,ro,rc,rfl,rfl,r1,hr,he,r2,e1⟩
attribute [local go_sem] zS zG
theorem Q3 (s:ByteArray) (w:World) (c:Int×Int) (hc:Hid (Zj s=c)) :
 Calls Tryz.prog 24 #[.string s] w fun e w'=>Below w.heap.size w w'/\∃ eo em ec ro rm rc,e=.returned (.tuple #[.agg #[O eo em ec,O ro rm rc],J Z c.1,J Z c.2])/\(c.1=0->∃ es,es.map Prod.fst=(zA s).es/\PQ w' w.heap.size (O eo em ec) (O ro rm rc) es (zA s).rs):=by
 by_cases hs:2000<s.size
 ·have HC:Hid (c=(1,0)):=by show _=_;rw [<- hc.out];unfold Zj;rw [if_pos hs]
  have hs':(2000:Int)<(s.size:Int):=by omega
  go_enter Tryz.func24,Tryz.ntmps24
  go_wp2_with fail
  exact bodyPost_ret (v:=.tuple #[.agg #[O none 0 0,O none 0 0],J Z 1,J Z 0]) (by simp [results,Tryz.results24,go_sem]) rfl ⟨(Below.refl _ _).alloc (Nat.le_refl _) _,_,_,_,_,_,_,by rw [HC.out],by rw [HC.out];intro h;cases h⟩
 have hs':¬ (2000:Int)<(s.size:Int):=by omega
 have hs2:s.size<=2000:=by omega
 have hbp:=fun w=>zcU s w
 obtain ⟨R,hR⟩:∃ R,zA s=R:=⟨_,rfl⟩
 have HR:Hid _:=hR
 have HI:Hid (∀ e∈R.es,e.items.length<=100000):=fun e he=>by
  have:=Y6 s (s.size+1) [] 0 0 false e (by rw [<- hR] at he;exact he)
  omega
 have HC:Hid (c=if (R.b || decide (R.k<s.size))=true then (2,(R.k:Int)) else if (Y5 R.es R.rs).1=0 then (0,0) else Y5 R.es R.rs):=by show _=_;rw [<- hc.out];unfold Zj;rw [if_neg hs,hR]
 clear hR hs
 have HP0:Hid (PM ((w.alloc (.cells #[O none 0 0,O none 0 0] 74)).alloc (.cells #[.string s,J Z 0,.bool false,O none 0 0,O none 0 0] 104)) w.heap.size (w.heap.size+1) s 0 false (O none 0 0) (O none 0 0) [] []) :=
  ⟨zy _ (by simp),⟨rfl,.inl ⟨rfl,rfl⟩⟩,⟨rfl,.inl ⟨rfl,rfl⟩⟩,fun p hp=>by simp at hp,by omega⟩
 have HB0:Hid (Below w.heap.size w ((w.alloc (.cells #[O none 0 0,O none 0 0] 74)).alloc (.cells #[.string s,J Z 0,.bool false,O none 0 0,O none 0 0] 104))):=((Below.refl _ _).alloc (Nat.le_refl _) _).alloc (by simp) _
 have HX0:Hid (((w.alloc (.cells #[O none 0 0,O none 0 0] 74)).alloc (.cells #[.string s,J Z 0,.bool false,O none 0 0,O none 0 0] 104)).heap[w.heap.size]?=some (.cells #[O none 0 0,O none 0 0] 74 (0,0))):=(Below.heap_alloc _ _ _ (by simp)).trans (heap_alloc_new w _)
 have hXB:w.heap.size≠w.heap.size+1:=by omega
 have hBX:w.heap.size+1≠w.heap.size:=by omega
 go_enter Tryz.func24,Tryz.ntmps24
 go_wp2_with fail
 refine (JM w.heap.size (w.heap.size+1) s _ _ _ hs2 HP0.out R HR).mono ?_
 rintro e w2 ⟨rfl,hk,hel,hrl,ev,rv,es,hes,hp,hm⟩
 have HX2:Hid (w2.heap[w.heap.size]?=some (.cells #[O none 0 0,O none 0 0] 74 (0,0))):=(hm.kept _ (lt_of_block HX0.out) ⟨by omega,by simp [Value.ownBlock],by simp [Value.ownBlock]⟩).1.trans HX0.out
 have HB2:Hid (Below w.heap.size w w2):=HB0.out.trans hm.bel
 have HP2:Hid _:=hp
 have HES:Hid _:=hes
 have HEL:Hid (es.length<=s.size):=by show _<=_;rw [show es.length=R.es.length by rw [<- hes,List.length_map]];omega
 clear hm hp hes
 have c1:=HP2.out.c1
 have c2:=HP2.out.c2
 have x0:w2.cell? ⟨w.heap.size,0,none⟩=some (O none 0 0):=by simp [World.cell?,HX2.out]
 have x1:w2.cell? ⟨w.heap.size,1,none⟩=some (O none 0 0):=by simp [World.cell?,HX2.out]
 have xz:∀ j,w2.frozen? ⟨w.heap.size,j,none⟩=false:=fun j=>by simp [World.frozen?,HX2.out]
 generalize hbd:(R.b || decide (R.k<s.size))=bd at *
 clear hbd
 cases bd with
 | true =>
  have HC2:Hid (c=(2,(R.k:Int))):=HC.out
  clear HC
  go_wp2_with fail
  go_region_with (fail)
  all_goals
   go_wp2_with fail
   exact bodyPost_ret (v:=.tuple #[.agg #[O none 0 0,O none 0 0],J Z 2,J Z R.k]) (by simp [results,Tryz.results24,go_sem,x0,x1]) rfl ⟨(HB2.out.drew.setCell (by simp) _).setCell (by simp) _,_,_,_,_,_,_,by rw [HC2.out],by rw [HC2.out];intro h;cases h⟩
 | false =>
  have HC2:Hid (c=if (Y5 R.es R.rs).1=0 then (0,0) else Y5 R.es R.rs):=HC.out
  clear HC
  obtain ⟨eo,ec,ro,rc,rfl,rfl,hpv⟩:=HP2.out.pv (by have:=HEL.out;omega) (by omega) (fun p hp=>HI.out p.1 (by rw [<- HES.out];exact List.mem_map_of_mem hp))
  have HPV:Hid _:=hpv
  have c3:=HP2.out.c3
  have c4:=HP2.out.c4
  have hB2:=HP2.out.lt
  have hX2:=lt_of_block HX2.out
  clear hpv
  rw [<- HES.out] at HC2
  generalize hff:Y5 (es.map Prod.fst) R.rs=f at *
  have HFF:Hid _:=hff
  clear hff
  go_wp2_with fail
  refine (zai eo ro ec rc es R.rs w2 HPV.out f HFF).mono ?_
  rintro e w3 ⟨rfl,hb3⟩
  have HB3:Hid _:=hb3
  have HX3:=(hb3.block _ hX2).trans HX2.out
  have HP3:Hid _:=HP2.out.below hb3
  clear hb3 x0 x1 xz c1 c2 c3 c4
  have x0:w3.cell? ⟨w.heap.size,0,none⟩=some (O none 0 0):=by simp [World.cell?,HX3]
  have x1:w3.cell? ⟨w.heap.size,1,none⟩=some (O none 0 0):=by simp [World.cell?,HX3]
  have xz:∀ j,w3.frozen? ⟨w.heap.size,j,none⟩=false:=fun j=>by simp [World.frozen?,HX3]
  have c3:=HP3.out.c3
  have c4:=HP3.out.c4
  have hX3:=lt_of_block HX3
  have hB3:=HP3.out.lt
  have HBW:Hid (Below w.heap.size w w3):=HB2.out.trans (HB3.out.mono HB2.out.size)
  have HT3:Hid (zH w3 w.heap.size 74):=⟨_,_,HX3⟩
  clear HX3
  obtain ⟨fe,fa⟩:=f
  by_cases hfe:fe=0
  ·have HC3:Hid (c=(0,0)):=by show _=_;rw [HC2.out,if_pos hfe]
   subst hfe
   clear HC2
   go_wp2_with fail
   exact bodyPost_ret (v:=.tuple #[.agg #[O eo es.length ec,O ro R.rs.length rc],J Z 0,J Z 0]) (by simp [results,Tryz.results24,go_sem,x0,x1,hX3]) rfl ⟨((HBW.out.setCell (by simp) _).setCell (by simp) _).alloc (by simp [World.size_setCell];omega) _,_,_,_,_,_,_,by rw [HC3.out],fun _=>⟨es,by rw [HR.out];exact HES.out,by
    rw [HR.out]
    have hp:=((HP3.out.setT (j:=0) (u:=O eo es.length ec) HT3.out (by decide) (by decide) (by decide) (by decide)).setT (j:=1) (u:=O ro R.rs.length rc) (HT3.out.set _ _ _) (by decide) (by decide) (by decide) (by decide)).alloc (.cells #[J Z 0,J Z fa] 106)
    exact ⟨hp.ex,hp.rl,hp.it⟩⟩⟩
  ·have HC3:Hid (c=(fe,fa)):=by show _=_;rw [HC2.out,if_neg hfe]
   have hq:(fe==0)=false:=by simp [hfe]
   have hq2:(fe != 0)=true:=by simp [hfe]
   have HFE:Hid _:=hfe
   clear HC2 hfe
   go_wp2_with fail
   go_region_with (fail)
   all_goals
    go_wp2_with fail
    exact bodyPost_ret (v:=.tuple #[.agg #[O none 0 0,O none 0 0],J Z fe,J Z fa]) (by simp [results,Tryz.results24,go_sem,x0,x1,hX3]) rfl ⟨(((HBW.out.setCell (by simp) _).setCell (by simp) _).alloc (by simp [World.size_setCell];omega) _).drew,_,_,_,_,_,_,by rw [HC3.out],fun h=>absurd (by rw [HC3.out] at h;exact h) HFE.out⟩
end
end Go.Proofs.YtaebngpoagjafabGreat
