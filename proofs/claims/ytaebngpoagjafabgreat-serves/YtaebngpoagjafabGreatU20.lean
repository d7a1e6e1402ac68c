import Derived.Test.YtaebngpoagjafabGreatU19
set_option maxRecDepth 100000
set_option maxHeartbeats 800000
namespace Go.Proofs.YtaebngpoagjafabGreat
open Value renaming int → J, slice → O
open IntKind renaming i64 → Z
open Go.RowKit
attribute [local go_sem ↓] Go.wp_at_zero Go.wp_at_succ
section
def yQ (s:ByteArray):Int×Int :=
 if 2000<s.size then (1,0)
 else if ((zA s).b || decide ((zA s).k<s.size))=true then (2,(zA s).k)
 else if (xR (zA s).es (zA s).rs).1=0 then (0,0) else xR (zA s).es (zA s).rs
structure PQ (w:World) (base:Nat) (ev rv:Value) (es:List (EX×Value)) (rs:List RL):Prop where
 ex:w.ownsRow base 148 7 ev es.length (exC es)
 rl:w.ownsRow base 143 3 rv rs.length (rlC rs)
 it:∀ p∈es,w.ownsRow base 155 7 p.2 p.1.items.length (imC p.1.items)
theorem zeM (s:ByteArray) (w:World):(Instr.build 104 #[(0,.string s)]).run Tryz.prog w=.ok (.agg #[.string s,J Z 0,.bool false,O none 0 0,O none 0 0]) w:=run_build w 104 _ _ (by kernel_rfl)
def ZX (n:Nat) (l:List EX):Prop:=∀ e∈l,e.items.length<=n
theorem ZX.app {n:Nat} {a b:List EX} (h:ZX n a) (k:ZX n b):ZX n (a++b):=fun e he=>(List.mem_append.1 he).elim (h e) (k e)
theorem ZX.one {n:Nat} {e:EX} (h:e.items.length<=n):ZX n [e]:=fun x hx=>by simp at hx;subst hx;exact h
theorem ZX.nil (n:Nat):ZX n []:=fun _ h=>by simp at h
theorem zbO {ex:Int->Nat->Nat->Bool->CR} {s:ByteArray} {N:Nat} (hX:∀ d m k b,ZX N (ex d m k b).es) (kind d:Int) (m k:Nat) (b:Bool):ZX N (zv ex s kind d m k b).es:=by
 unfold zv
 simp only
 split
 ·exact hX _ _ _ _
 ·split
  ·exact hX _ _ _ _
  ·split<;>exact ZX.nil _
theorem q8 {ex:Int->Nat->Nat->Bool->CR} {s:ByteArray} {N:Nat} (hX:∀ d m k b,ZX N (ex d m k b).es) (kind d:Int):∀ (n m k:Nat) (b:Bool),ZX N (zd ex s kind d n m k b).es/\(zd ex s kind d n m k b).ims.length<=n:=by
 intro n
 induction n with
 | zero=>intro m k b;exact ⟨ZX.nil _,by simp [zd]⟩
 | succ n ih =>
  intro m k b
  have a:=zbO (s:=s) hX kind d m k b
  simp only [zd]
  split
  ·have e:=ih (m+(zv ex s kind d m k b).es.length) (zc s 44 (zv ex s kind d m k b).k (zv ex s kind d m k b).b) (zv ex s kind d m k b).b
   exact ⟨a.app e.1,by simp only [List.length_cons];omega⟩
  ·exact ⟨a,by simp⟩
theorem zdj (s:ByteArray) (rs:List RL) (n:Nat):∀ d m k b,ZX (s.size+1) (cE s rs n d m k b).es:=by
 induction n with
 | zero=>intro d m k b;exact ZX.nil _
 | succ n ih =>
  intro d m k b
  simp only [cE]
  split
  ·exact ZX.nil _
  ·split
   ·have h:=q8 (s:=s) ih 123 d (s.size+1-(zb s k b+1)) m (zb s k b+1) b
    exact h.1.app (ZX.one (by simp only;omega))
   ·split
    ·exact (ih _ _ _ _).app (ZX.one (by simp))
    ·split
     ·exact ZX.one (by simp)
     ·split
      ·exact ZX.one (by simp)
      ·have h:=q8 (s:=s) ih (ze s (zb s k b) b) d (s.size+1-zc s 40 (zb s k b+1) b) m (zc s 40 (zb s k b+1) b) (zj s 40 (zb s k b+1) b)
       exact (h.1.app (ih _ _ _ _)).app (ZX.one (by simp only;omega))
theorem qY (s:ByteArray):∀ (n:Nat) (rs:List RL) (m k:Nat) (b:Bool),ZX (s.size+1) (zx s n rs m k b).es:=by
 intro n
 induction n with
 | zero=>intro rs m k b;exact ZX.nil _
 | succ n ih =>
  intro rs m k b
  simp only [zx]
  split
  ·exact ZX.app (zdj s rs _ _ _ _ _) (ih _ _ _ _)
  ·exact zdj s rs _ _ _ _ _
theorem PM.pv {w:World} {base B s k b ev rv es rs} (h:PM w base B s k b ev rv es rs) (he:es.length<=100000) (hr:rs.length<=100000) (hi:∀ p∈es,p.1.items.length<=100000):∃ eo ec ro rc,ev=O eo es.length ec/\rv=O ro rs.length rc/\PV w eo ro ec rc es rs:=by
 have u:∃ eo ec,ev=O eo es.length ec/\∀ i x,es[i]?=some x->∃ g a d e,eo=some ⟨g,0,none⟩/\g<w.heap.size/\w.cell? ⟨g,i*7,none⟩=some (J .u8 x.1.kind)/\w.cell? ⟨g,i*7+1,none⟩=some (J Z x.1.at_)/\w.cell? ⟨g,i*7+2,none⟩=some (J Z x.1.depth)/\w.cell? ⟨g,i*7+3,none⟩=some (J Z x.1.nv)/\w.cell? ⟨g,i*7+4,none⟩=some (J Z x.1.na)/\w.cell? ⟨g,i*7+5,none⟩=some (O a d e)/\w.cell? ⟨g,i*7+6,none⟩=some (J Z x.1.inner)/\x.2=O a d e/\IV w (O a d e) x.1.items/\(∀ q,(O a d e).ownBlock=some q->q<w.heap.size)/\x.1.items.length<=100000:=by
  have v:=h.ex
  rcases h.ex.2 with ⟨u,f⟩ | ⟨g,cap,cur,rfl,u,f,_⟩
  ·have:es=[]:=List.eq_nil_of_length_eq_zero f
   subst this
   exact ⟨none,0,u,fun i x hx=>by simp at hx⟩
  ·refine ⟨_,cap,rfl,fun i x hx=>?_⟩
   have l:=h.it x (List.mem_of_getElem? hx)
   have o:=fun j hj=>ye exV (fun _=>rfl) v hx j hj
   have m:∃ a d e,x.2=O a d e/\IV w (O a d e) x.1.items:=by
    have z:=l
    rcases l.2 with ⟨q1,q2⟩ | ⟨g',cap',cur',q1,q2,q3,q4,_⟩
    ·exact ⟨none,0,0,q1,.inl ⟨rfl,List.eq_nil_of_length_eq_zero q2⟩⟩
    ·rw [q1] at z
     have n:=fun i y hy j hj=>ye imV (fun _=>rfl) z (i:=i) (x:=y) hy j hj
     exact ⟨_,_,_,q1,.inr ⟨g',cap',rfl,q4,fun i y hy=>⟨n i y hy 0 (by decide),n i y hy 1 (by decide),n i y hy 2 (by decide),n i y hy 3 (by decide),n i y hy 4 (by decide),n i y hy 5 (by decide),n i y hy 6 (by decide)⟩⟩⟩
   obtain ⟨a,d,e,A,m⟩:=m
   have E:w.cell? ⟨g,i*7+5,none⟩=some (O a d e):=by rw [<- A];exact o 5 (by decide)
   exact ⟨g,a,d,e,rfl,lt_of_block f,o 0 (by decide),o 1 (by decide),o 2 (by decide),o 3 (by decide),o 4 (by decide),E,o 6 (by decide),A,m,fun q hq=>(l.lt q (by rw [A];exact hq)).2,hi x (List.mem_of_getElem? hx)⟩
 have f:∃ ro rc,rv=O ro rs.length rc/\rs.length<=rc/\∀ i r,rs[i]?=some r->∃ g,ro=some ⟨g,0,none⟩/\g<w.heap.size/\w.cell? ⟨g,i*3,none⟩=some (J Z r.nv)/\w.cell? ⟨g,i*3+1,none⟩=some (J Z r.na)/\w.cell? ⟨g,i*3+2,none⟩=some (J Z r.ex):=by
  have v:=h.rl
  rcases h.rl.2 with ⟨u,f⟩ | ⟨g,cap,cur,rfl,u,f,z,_⟩
  ·have:rs=[]:=List.eq_nil_of_length_eq_zero f
   subst this
   exact ⟨none,0,u,Nat.le_refl _,fun i x hx=>by simp at hx⟩
  ·exact ⟨_,cap,rfl,z,fun i r hr=>⟨g,rfl,lt_of_block f,ye rlV (fun _=>rfl) v hr 0 (by decide),ye rlV (fun _=>rfl) v hr 1 (by decide),ye rlV (fun _=>rfl) v hr 2 (by decide)⟩⟩
 obtain ⟨eo,ec,rfl,F⟩:=u
 obtain ⟨ro,rc,rfl,D,C⟩:=f
 exact ⟨eo,ec,ro,rc,rfl,rfl,D,hr,he,C,F⟩
attribute [local go_sem] zV zH
theorem zdI (s:ByteArray) (w:World) (c:Int×Int) (hc:Hid (yQ s=c)) :
 Calls Tryz.prog 24 #[.string s] w fun e w'=>Below w.heap.size w w'/\∃ eo em ec ro rm rc,e=.returned (.tuple #[.agg #[O eo em ec,O ro rm rc],J Z c.1,J Z c.2])/\(c.1=0->∃ es,es.map Prod.fst=(zA s).es/\PQ w' w.heap.size (O eo em ec) (O ro rm rc) es (zA s).rs):=by
 by_cases Q:2000<s.size
 ·have y:Hid (c=(1,0)):=by show _=_;rw [<- hc.out];unfold yQ;rw [if_pos Q]
  have P:(2000:Int)<(s.size:Int):=by omega
  go_enter Tryz.func24,Tryz.ntmps24
  go_wp2_with fail
  exact bodyPost_ret (v:=.tuple #[.agg #[O none 0 0,O none 0 0],J Z 1,J Z 0]) (by simp [results,Tryz.results24,go_sem]) rfl ⟨(Below.refl _ _).alloc (Nat.le_refl _) _,_,_,_,_,_,_,by rw [y.out],by rw [y.out];intro h;cases h⟩
 have P:¬ (2000:Int)<(s.size:Int):=by omega
 have N:s.size<=2000:=by omega
 have a8:=fun w=>zeM s w
 obtain ⟨R,L⟩:∃ R,zA s=R:=⟨_,rfl⟩
 have W:Hid _:=L
 have HI:Hid (∀ e∈R.es,e.items.length<=100000):=fun e he=>by
  have:=qY s (s.size+1) [] 0 0 false e (by rw [<- L] at he;exact he)
  omega
 have y:Hid (c=if (R.b || decide (R.k<s.size))=true then (2,(R.k:Int)) else if (xR R.es R.rs).1=0 then (0,0) else xR R.es R.rs):=by show _=_;rw [<- hc.out];unfold yQ;rw [if_neg Q,L]
 clear L Q
 have Y:Hid (PM ((w.alloc (.cells #[O none 0 0,O none 0 0] 74)).alloc (.cells #[.string s,J Z 0,.bool false,O none 0 0,O none 0 0] 104)) w.heap.size (w.heap.size+1) s 0 false (O none 0 0) (O none 0 0) [] []) :=
  ⟨zu _ (by simp),⟨rfl,.inl ⟨rfl,rfl⟩⟩,⟨rfl,.inl ⟨rfl,rfl⟩⟩,fun p m=>by simp at m,by omega⟩
 have a4:Hid (Below w.heap.size w ((w.alloc (.cells #[O none 0 0,O none 0 0] 74)).alloc (.cells #[.string s,J Z 0,.bool false,O none 0 0,O none 0 0] 104))):=((Below.refl _ _).alloc (Nat.le_refl _) _).alloc (by simp) _
 have H:Hid (((w.alloc (.cells #[O none 0 0,O none 0 0] 74)).alloc (.cells #[.string s,J Z 0,.bool false,O none 0 0,O none 0 0] 104)).heap[w.heap.size]?=some (.cells #[O none 0 0,O none 0 0] 74 (0,0))):=(Below.heap_alloc _ _ _ (by simp)).trans (heap_alloc_new w _)
 have a9:w.heap.size≠w.heap.size+1:=by omega
 have b0:w.heap.size+1≠w.heap.size:=by omega
 go_enter Tryz.func24,Tryz.ntmps24
 go_wp2_with fail
 refine (za0 w.heap.size (w.heap.size+1) s _ _ _ N Y.out R W).mono ?_
 rintro e A ⟨rfl,hk,a7,a5,ev,rv,es,r,m,S⟩
 have l:Hid (A.heap[w.heap.size]?=some (.cells #[O none 0 0,O none 0 0] 74 (0,0))):=(S.kept _ (lt_of_block H.out) ⟨by omega,by simp [Value.ownBlock],by simp [Value.ownBlock]⟩).1.trans H.out
 have z:Hid (Below w.heap.size w A):=a4.out.trans S.bel
 have g:Hid _:=m
 have x:Hid _:=r
 have a2:Hid (es.length<=s.size):=by show _<=_;rw [show es.length=R.es.length by rw [<- r,List.length_map]];omega
 clear S m r
 have c1:=g.out.c1
 have c2:=g.out.c2
 have C:A.cell? ⟨w.heap.size,0,none⟩=some (O none 0 0):=by simp [World.cell?,l.out]
 have B:A.cell? ⟨w.heap.size,1,none⟩=some (O none 0 0):=by simp [World.cell?,l.out]
 have xz:∀ j,A.frozen? ⟨w.heap.size,j,none⟩=false:=fun j=>by simp [World.frozen?,l.out]
 generalize hbd:(R.b || decide (R.k<s.size))=bd at *
 clear hbd
 cases bd with
 | true =>
  have a:Hid (c=(2,(R.k:Int))):=y.out
  clear y
  go_wp2_with fail
  go_region_with (fail)
  all_goals
   go_wp2_with fail
   exact bodyPost_ret (v:=.tuple #[.agg #[O none 0 0,O none 0 0],J Z 2,J Z R.k]) (by simp [results,Tryz.results24,go_sem,C,B]) rfl ⟨(z.out.drew.setCell (by simp) _).setCell (by simp) _,_,_,_,_,_,_,by rw [a.out],by rw [a.out];intro h;cases h⟩
 | false =>
  have a:Hid (c=if (xR R.es R.rs).1=0 then (0,0) else xR R.es R.rs):=y.out
  clear y
  obtain ⟨eo,ec,ro,rc,rfl,rfl,E⟩:=g.out.pv (by have:=a2.out;omega) (by omega) (fun p m=>HI.out p.1 (by rw [<- x.out];exact List.mem_map_of_mem m))
  have X:Hid _:=E
  have c3:=g.out.c3
  have c4:=g.out.c4
  have b2:=g.out.lt
  have U:=lt_of_block l.out
  clear E
  rw [<- x.out] at a
  generalize hff:xR (es.map Prod.fst) R.rs=f at *
  have a0:Hid _:=hff
  clear hff
  go_wp2_with fail
  refine (zbJ eo ro ec rc es R.rs A X.out f a0).mono ?_
  rintro e D ⟨rfl,n⟩
  have a3:Hid _:=n
  have i:=(n.block _ U).trans l.out
  have o:Hid _:=g.out.below n
  clear n C B xz c1 c2 c3 c4
  have C:D.cell? ⟨w.heap.size,0,none⟩=some (O none 0 0):=by simp [World.cell?,i]
  have B:D.cell? ⟨w.heap.size,1,none⟩=some (O none 0 0):=by simp [World.cell?,i]
  have xz:∀ j,D.frozen? ⟨w.heap.size,j,none⟩=false:=fun j=>by simp [World.frozen?,i]
  have c3:=o.out.c3
  have c4:=o.out.c4
  have F:=lt_of_block i
  have b1:=o.out.lt
  have K:Hid (Below w.heap.size w D):=z.out.trans (a3.out.mono z.out.size)
  have I:Hid (zI D w.heap.size 74):=⟨_,_,i⟩
  clear i
  obtain ⟨G,V⟩:=f
  by_cases d:G=0
  ·have q:Hid (c=(0,0)):=by show _=_;rw [a.out,if_pos d]
   subst d
   clear a
   go_wp2_with fail
   exact bodyPost_ret (v:=.tuple #[.agg #[O eo es.length ec,O ro R.rs.length rc],J Z 0,J Z 0]) (by simp [results,Tryz.results24,go_sem,C,B,F]) rfl ⟨((K.out.setCell (by simp) _).setCell (by simp) _).alloc (by simp [World.size_setCell];omega) _,_,_,_,_,_,_,by rw [q.out],fun _=>⟨es,by rw [W.out];exact x.out,by
    rw [W.out]
    have m:=((o.out.setT (j:=0) (u:=O eo es.length ec) I.out (by decide) (by decide) (by decide) (by decide)).setT (j:=1) (u:=O ro R.rs.length rc) (I.out.set _ _ _) (by decide) (by decide) (by decide) (by decide)).alloc (.cells #[J Z 0,J Z V] 106)
    exact ⟨m.ex,m.rl,m.it⟩⟩⟩
  ·have q:Hid (c=(G,V)):=by show _=_;rw [a.out,if_neg d]
   have hq:(G==0)=false:=by simp [d]
   have a6:(G != 0)=true:=by simp [d]
   have a1:Hid _:=d
   clear a d
   go_wp2_with fail
   go_region_with (fail)
   all_goals
    go_wp2_with fail
    exact bodyPost_ret (v:=.tuple #[.agg #[O none 0 0,O none 0 0],J Z G,J Z V]) (by simp [results,Tryz.results24,go_sem,C,B,F]) rfl ⟨(((K.out.setCell (by simp) _).setCell (by simp) _).alloc (by simp [World.size_setCell];omega) _).drew,_,_,_,_,_,_,by rw [q.out],fun h=>absurd (by rw [q.out] at h;exact h) a1.out⟩
end
end Go.Proofs.YtaebngpoagjafabGreat
