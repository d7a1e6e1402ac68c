import Derived.Test.YtaebngpoagjafabGreatU53
set_option maxRecDepth 100000
set_option maxHeartbeats 6400000
namespace Go.Proofs.YtaebngpoagjafabGreat
open Obj renaming cells → Q
open Value renaming int → J, slice → O
open IntKind renaming i64 → Z
open Go.RowKit
attribute [local go_sem ↓] Go.wp_at_zero Go.wp_at_succ
section
def StS (base SB n:Nat) (wv cv bv:Value) (cs:List (ByteArray×ByteArray)) (bs:List Value) (w:World) (e:Ending) (w':World):Prop :=
 e=.returned (.bool true)/\Below base w w'/\∃ sv' iv' is' ps',ST w' base SB (n+1) wv cv sv' iv' bv cs is' bs/\SRV w' base sv' iv' ps'/\ps'.length<=n+1
theorem zfo:∀ {ps:List PrS} {i:Nat} {p:PrS},ps[i]?=some p->(prL ps)[i*2]?=some (.pointer (some ⟨p.B,0,none⟩))/\(prL ps)[i*2+1]?=some (.pointer (some ⟨p.R,0,none⟩)):=by
 intro ps
 induction ps with
 | nil=>intro i p h;simp at h
 | cons q ps ih =>
  intro i p h
  cases i with
  | zero=>simp at h;subst h;simp [prL]
  | succ i =>
   simp only [List.getElem?_cons_succ] at h
   obtain ⟨b,a⟩:=ih h
   have e:prL (q::ps)=.pointer (some ⟨q.B,0,none⟩)::.pointer (some ⟨q.R,0,none⟩)::prL ps:=rfl
   rw [e,show (i+1)*2=i*2+1+1 by omega]
   simp only [List.getElem?_cons_succ]
   exact ⟨b,a⟩
section
variable {w w':World} {base SB n:Nat} {wv cv sv iv bv:Value} {cs:List (ByteArray×ByteArray)} {is bs:List Value} {ps:List PrS}
theorem StS.told (hst:ST w base SB n wv cv sv iv bv cs is bs) (hsr:SRV w base sv iv ps) (hn:ps.length<=n) {i:Nat} {p:PrS} (hi:ps[i]?=some p) {e:Ending} (h:TlT p w e w'):StS base SB n wv cv bv cs bs w e w':=by
 obtain ⟨m,d,l,b,r,q,o⟩:=h
 obtain ⟨k,j,f,a⟩:=hsr.ok p (List.mem_of_getElem? hi)
 exact ⟨m,d.bel base j f (by have:=k.sv.lt;omega) (fun g hg=>(a g hg).1),sv,iv,is,ps.set i l,(hst.ch k (fun g hg=>(a g hg).2) d).mono,hsr.told hst hi d b r q o,by rw [List.length_set];omega⟩
theorem StS.queried (hst:ST w base SB n wv cv sv iv bv cs is bs) (hsr:SRV w base sv iv ps) (hn:ps.length<=n) {e:Ending} (h:QyT base SB n wv cv sv iv bv cs bs w e w'):StS base SB n wv cv bv cs bs w e w':=by
 obtain ⟨j,k,a,b,d,g,i,f⟩:=h
 exact ⟨j,k,sv,a,b,ps,d,hsr.queried hst f g i,by omega⟩
theorem StS.trans {w0:World} (hb:Below w0.heap.size w0 w) (hbs:base<=w0.heap.size) {e:Ending} (h:StS base SB n wv cv bv cs bs w e w'):StS base SB n wv cv bv cs bs w0 e w':=⟨h.1,(hb.mono hbs).trans h.2.1,h.2.2⟩
end
theorem zaJ (base SB n:Nat) (wI:World) (wo:Option Addr) (wb woff m wcp:Nat) (X:Nat->WD) (cv sv iv bv:Value) (cs:List (ByteArray×ByteArray)) (is bs:List Value) (ps:List PrS) (kk oa ob oc od:Int) (os:ByteArray) (w:World) (hn:(n+1)*56<=140737488355328) (hst:ST w base SB n (O wo m wcp) cv sv iv bv cs is bs) (hsr:SRV w base sv iv ps) (hpn:ps.length<=n) (hxs:XS wI wo wb woff m X) (hbI:Below wI.heap.size wI w) (hIb:wI.heap.size<=base) (hms:m*96<=140737488351232)
 (a0:-9223372036854775808<=oa) (a1:oa<=9223372036854775807) (b0:-9223372036854775808<=ob) (b1:ob<=9223372036854775807) (c0:-9223372036854775808<=oc) (c1:oc<=9223372036854775807) (hk:kk=8\/kk=9\/kk=10\/kk=11\/kk=12) :
 Calls Tryz.prog 14 #[.pointer (some ⟨SB,0,none⟩),.agg #[J Z kk,J Z oa,J Z ob,J Z oc,J Z od,.string os]] w (StS base SB n (O wo m wcp) cv bv cs bs w):=by
 have D:Hid _:=hst
 have E:Hid _:=hsr
 have G:Hid (base<=w.heap.size):=Nat.le_trans hst.hB (Nat.le_of_lt hst.lt)
 have b7:=hst.lt
 have s2:=hst.c 2
 simp only [List.getElem?_toArray,List.getElem?_cons_succ,List.getElem?_cons_zero] at s2
 have V:Hid (∀ wz,Below w.heap.size w wz->WsS wI wz SB wo wb woff m wcp X):=fun wz hb=>⟨hxs,hbI.trans (hb.mono hbI.size),by have:=(hst.below hb).c 0;simpa using this,(hst.below hb).lt,hms⟩
 have Y:Hid (∀ (p:PrS) (wz:World),p∈ps->Below w.heap.size w wz->kk≠12->Calls Tryz.prog 37 #[.pointer (some ⟨SB,0,none⟩),.agg #[.pointer (some ⟨p.B,0,none⟩),.pointer (some ⟨p.R,0,none⟩)],.agg #[J Z kk,J Z oa,J Z ob,J Z oc,J Z od,.string os]] wz (TlT p wz)):=fun p wz y hb hne=>by
  obtain ⟨h1,h2,h3,P⟩:=hsr.ok p y
  have h:=h1.below hb
  have v:=V.out wz hb
  rcases hk with rfl | rfl | rfl | rfl | rfl
  ·exact zaD SB p oa ob oc od os wz h
  ·exact zaC SB p oa ob oc od os wz h
  ·rcases Nat.eq_zero_or_pos m with h0 | h0
   ·subst h0;exact Qq SB p wI wo wb woff wcp X 10 oa ob oc od os wz (.inl rfl) h v
   ·exact Jo SB p wI wo wb woff m wcp X oa ob oc od os wz h v h0 (by omega) (by omega) (fun g hg=>by have:=(P g hg).1;omega) c0 c1
  ·rcases Nat.eq_zero_or_pos m with h0 | h0
   ·subst h0;exact Qq SB p wI wo wb woff wcp X 11 oa ob oc od os wz (.inr rfl) h v
   ·exact jt SB p wI wo wb woff m wcp X oa ob oc od os wz h v h0 (by omega) (by omega) b0 b1
  ·exact absurd rfl hne
 have a2:Hid (∀ (p:PrS) (wz:World),p∈ps->Below w.heap.size w wz->Calls Tryz.prog 36 #[.pointer (some ⟨SB,0,none⟩),.agg #[.pointer (some ⟨p.B,0,none⟩),.pointer (some ⟨p.R,0,none⟩)],.agg #[J Z kk,J Z oa,J Z ob,J Z oc,J Z od,.string os]] wz (QyT base SB n (O wo m wcp) cv sv iv bv cs bs wz)):=fun p wz y hb=>jI base SB n _ cv sv iv bv cs is bs p kk oa ob oc od os wz hn (hst.below hb) ((hsr.ok p y).1.below hb)
 have s:Hid (Below w.heap.size w (w.alloc (Q #[J Z kk,J Z oa,J Z ob,J Z oc,J Z od,.string os] 53))):=(Below.refl _ _).alloc (Nat.le_refl _) _
 have a4:Hid ((w.alloc (Q #[J Z kk,J Z oa,J Z ob,J Z oc,J Z od,.string os] 53)).heap[w.heap.size]?=some (Q #[J Z kk,J Z oa,J Z ob,J Z oc,J Z od,.string os] 53 (0,0))):=heap_alloc_new w _
 have k:=hsr.row
 obtain ⟨so,sc,a9,_⟩:=z9 k
 subst a9
 have r:Hid (w.ownsRow base 88 2 (O so ps.length sc) ps.length (prL ps)):=k
 clear hst hsr k hxs hbI V
 rcases Nat.eq_zero_or_pos ps.length with h0 | h0
 ·have a5:Hid (StS base SB n (O wo m wcp) cv bv cs bs w (.returned (.bool true)) (w.alloc (Q #[J Z kk,J Z oa,J Z ob,J Z oc,J Z od,.string os] 53))):=⟨rfl,s.out.mono G.out,_,_,_,_,(D.out.below s.out).mono,E.out.below s.out,by omega⟩
  rw [h0] at s2
  clear h0 Y a2
  rcases hk with rfl | rfl | rfl | rfl | rfl
  all_goals
   go_enter Tryz.func14,Tryz.ntmps14
   go_wp2_with fail
   go_ret
   exact a5.out
 ·obtain ⟨i,a7,I,_,b4⟩:=r.out.form h0
  obtain ⟨rfl,rfl⟩:so=some ⟨i,0,none⟩/\sc=a7:=by cases I;exact ⟨rfl,rfl⟩
  clear I
  have z:(0:Int)<(ps.length:Int):=by omega
  have K:((ps.length:Int)==0)=false:=by rw [beq_eq_false_iff_ne];omega
  obtain ⟨f,L⟩:∃ f:Nat,pkF oa ps.length=(f:Int):=⟨(pkF oa ps.length).toNat,by have:=(XE (c:=oa) z).1;omega⟩
  have b2:f<ps.length:=by have:=(XE (c:=oa) z).2;omega
  have b5:(f:Int)<(ps.length:Int):=by omega
  have a3:Hid (∀ wz,Calls Tryz.prog 31 #[J Z oa,J Z ps.length] wz fun e w'=>e=.returned (J Z f)/\w'=wz):=fun wz=>by have:=qI oa ps.length wz a0 a1 z (by omega);rw [L] at this;exact this
  obtain ⟨p,y⟩:∃ p,ps[f]?=some p:=⟨ps[f],List.getElem?_eq_getElem b2⟩
  have HP:Hid (ps[f]?=some p):=y
  obtain ⟨g0,g1⟩:=zfo y
  have U:w.cell? ⟨i,f*2,none⟩=some (.pointer (some ⟨p.B,0,none⟩)):=by rw [r.out.cellAt _ (by omega)];exact g0
  have S:w.cell? ⟨i,f*2+1,none⟩=some (.pointer (some ⟨p.R,0,none⟩)):=by rw [r.out.cellAt _ (by omega)];exact g1
  clear g0 g1 L y
  obtain ⟨a,j⟩:∃ a,a=w.alloc (Q #[J Z kk,J Z oa,J Z ob,J Z oc,J Z od,.string os] 53):=⟨_,rfl⟩
  have W:Hid (a=w.alloc (Q #[J Z kk,J Z oa,J Z ob,J Z oc,J Z od,.string os] 53)):=j
  have a6:Hid (Below w.heap.size w a):=by rw [j];exact s.out
  have F:Hid (a.heap[w.heap.size]?=some (Q #[J Z kk,J Z oa,J Z ob,J Z oc,J Z od,.string os] 53 (0,0))):=by show _=_;rw [j];exact a4.out
  have HF:Hid (a.cell? ⟨SB,2,none⟩=some (O (some ⟨i,0,none⟩) ps.length sc)/\a.cell? ⟨i,f*2,none⟩=some (.pointer (some ⟨p.B,0,none⟩))/\a.cell? ⟨i,f*2+1,none⟩=some (.pointer (some ⟨p.R,0,none⟩))):=by
   rw [j]
   exact ⟨zB s2 _,zB U _,zB S _⟩
  clear j s a4
  rcases hk with rfl | rfl | rfl | rfl | rfl
  all_goals
   go_enter Tryz.func14,Tryz.ntmps14
   go_upto_region 21 with fail
   rw [<- W.out]
   clear W s2 U S K
   obtain ⟨u,f0,f1⟩:=HF.out
   have q1:a.cell? ⟨w.heap.size,1,none⟩=some (J Z oa):=by rw [cell_of_row _ _ _ _ _ _ F.out];rfl
   have b3:=lt_of_block F.out
   have b8:SB<a.heap.size:=by omega
   have b9:i<a.heap.size:=by omega
   have l:a.heap.size≠SB:=by omega
   have o:a.heap.size≠w.heap.size:=by omega
   have b:a.heap.size≠i:=by omega
   go_cut [6] (fun s5 wx=>s5=.pointer (some ⟨a.heap.size,0,none⟩)/\Below a.heap.size a wx/\wx.heap[a.heap.size]?=some (Q #[.pointer (some ⟨p.B,0,none⟩),.pointer (some ⟨p.R,0,none⟩)] 88 (0,0)))
   case first =>
    go_region_held3 (fun w'=>w'.cell? ⟨SB,2,none⟩=some (O (some ⟨i,0,none⟩) ps.length sc)/\w'.cell? ⟨w.heap.size,1,none⟩=some (J Z oa)/\w'.cell? ⟨i,f*2,none⟩=some (.pointer (some ⟨p.B,0,none⟩))/\w'.cell? ⟨i,f*2+1,none⟩=some (.pointer (some ⟨p.R,0,none⟩))) (first | (exact ⟨u,q1,f0,f1⟩) | (exact ⟨zB u _,zB q1 _,zB f0 _,zB f1 _⟩) | (exact ⟨zt l (zt l (zB u _) _ _) _ _,zt o (zt o (zB q1 _) _ _) _ _,zt b (zt b (zB f0 _) _ _) _ _,zt b (zt b (zB f1 _) _ _) _ _⟩) | go_keep) (first | (go_at_call 31;refine (a3.out _).mono ?_;rintro e w' ⟨rfl,b6⟩;subst w'))
    all_goals
     go_wp2_with fail
     go_meet
     exact ⟨rfl,((Below.refl _ _).alloc (Nat.le_refl _) _).drew,heap_alloc_new a _⟩
   case rest =>
    obtain ⟨rfl,C,A⟩:=hcut
    obtain ⟨x,a8⟩:∃ x,x=wc:=⟨_,rfl⟩
    subst a8
    have d:Hid (Below w.heap.size w x):=a6.out.trans (C.mono a6.out.size)
    have N:=(C.block _ b3).trans F.out
    obtain ⟨q0,H,q2,q3,q4,q5⟩:=ld6 N rfl
    have p0:x.cell? ⟨a.heap.size,0,none⟩=some (.pointer (some ⟨p.B,0,none⟩)):=by rw [cell_of_row _ _ _ _ _ _ A];rfl
    have p1:x.cell? ⟨a.heap.size,1,none⟩=some (.pointer (some ⟨p.R,0,none⟩)):=by rw [cell_of_row _ _ _ _ _ _ A];rfl
    clear C A N q1 f0 f1 u a3 HF l o b
    go_wp2_with fail
    first
     | (refine (Y.out p x (List.mem_of_getElem? HP.out) d.out (by decide)).mono ?_
        rintro e w4 P
        obtain ⟨rfl,q⟩:=P
        have HE:Hid (StS base SB n (O wo m wcp) cv bv cs bs w (.returned (.bool true)) w4):=(StS.told (D.out.below d.out) (E.out.below d.out) hpn HP.out ⟨rfl,q⟩).trans d.out G.out
        clear q q0 H q2 q3 q4 q5 p0 p1
        go_wp2_with fail
        go_ret
        exact HE.out)
     | (refine (a2.out p x (List.mem_of_getElem? HP.out) d.out).mono ?_
        rintro e w4 P
        obtain ⟨rfl,q⟩:=P
        have HE:Hid (StS base SB n (O wo m wcp) cv bv cs bs w (.returned (.bool true)) w4):=(StS.queried (D.out.below d.out) (E.out.below d.out) hpn ⟨rfl,q⟩).trans d.out G.out
        clear q q0 H q2 q3 q4 q5 p0 p1
        go_wp2_with fail
        go_ret
        exact HE.out)
end
theorem Tryz.infoPair:(Tryz.prog.info? 88).map (fun i=>(i.zero,i.size,i.bytes))=some (some (.agg #[.pointer none,.pointer none]),2,16):=by kernel_rfl
def pr0 (B R:Nat):PrS:=⟨B,R,none,⟨#[]⟩,[],fun _=>false,[],fun _=>[],fun _=>0,fun _=>0,fun _=>0,0⟩
theorem zcj {w:World} {R:Nat} (h:w.heap[R]?=some (Q #[.string ⟨#[]⟩,O none 0 0,O none 0 0,O none 0 0] 86 (0,0))):RfV w (fun _=>True) R none ⟨#[]⟩ [] (fun _=>[]) (fun _=>0) (fun _=>0) (fun _=>0) 0 :=
 ⟨⟨_,_,_,h,⟨none,0,rfl,fun h=>absurd h (Nat.lt_irrefl _)⟩,.inl ⟨rfl,rfl,fun _ _=>rfl⟩,⟨none,0,0,0,rfl,⟨fun h=>absurd h (Nat.lt_irrefl _),fun h=>absurd h (Nat.lt_irrefl _),fun i h=>absurd h (Nat.not_lt_zero _),fun i h=>absurd h (Nat.not_lt_zero _),fun i h=>absurd h (Nat.not_lt_zero _)⟩,fun h=>absurd h (Nat.lt_irrefl _)⟩⟩,by simp,fun _ _=>by simp⟩
theorem zbG:∀ n,dnL (fun _=>false) n=[]:=by
 intro n
 induction n with
 | zero=>rfl
 | succ n ih=>simp [dnL,ih]
theorem yR.keepT {w w':World} {p:PrS} (h:yR w (fun _=>True) p) (hs:w.heap.size<=w'.heap.size) (hk:∀ (b:Nat) (c:Array Value) (t:TypeId) (f:Nat×Nat),w.heap[b]?=some (Q c t f)->t≠51->t≠88->w'.heap[b]?=w.heap[b]?):yR w' (fun _=>True) p:=by
 obtain ⟨m,j,e⟩:=h.sv.blk
 obtain ⟨l,i,d⟩:=h.rf.blk
 refine ⟨h.sv.of hs (fun _ h _=>h) (hk _ _ _ _ e (by decide) (by decide)) (fun b _ t _ _ ht hb=>hk b _ t _ hb ?_ ?_),h.rf.of hs (fun _ h _=>h) (hk _ _ _ _ d (by decide) (by decide)) (fun g hg=>?_) (fun b _ t _ _ ht hb=>hk b _ t _ hb ?_ ?_),h.st,h.dd,h.pp⟩
 ·rcases ht with rfl | rfl | rfl<;>decide
 ·rcases ht with rfl | rfl | rfl<;>decide
 ·obtain ⟨n,k,a⟩:=h.rf.ablk hg
  exact hk g _ _ _ a (by decide) (by decide)
 ·rcases ht with rfl | rfl<;>decide
 ·rcases ht with rfl | rfl<;>decide
theorem SRV.push {w w4:World} {base SB n:Nat} {wv cv sv iv bv v':Value} {cs:List (ByteArray×ByteArray)} {is bs:List Value} {ps:List PrS} {p0:PrS} {ob:Obj} (h:SRV w base sv iv ps) (hst:ST w base SB n wv cv sv iv bv cs is bs) (hp0:yR w (fun _=>True) p0) (h1:base<=p0.B) (h2:base<=p0.R) (h3:p0.A=none) (h4:∀ p∈ps,p.B≠p0.B/\p.R≠p0.R) (hg:(w.alloc ob).grownBy w4 sv.ownBlock) (ho:w4.ownsRow base 88 2 v' (ps.length+1) (prL ps++[.pointer (some ⟨p0.B,0,none⟩),.pointer (some ⟨p0.R,0,none⟩)])) :
 SRV (w4.setCell ⟨SB,2,none⟩ v') base v' iv (ps++[p0])/\ST (w4.setCell ⟨SB,2,none⟩ v') base SB n wv cv v' iv bv cs is bs:=by
 have a:∀ (b:Nat) (c:Array Value) (t:TypeId) (f:Nat×Nat),w.heap[b]?=some (Q c t f)->t≠88->w4.heap[b]?=w.heap[b]?:=fun b c t f hb ht=>by
  have l:=lt_of_block hb
  rw [hg.block b (by simp;omega) (fun e=>zk h.row hb ht e.symm),Below.heap_alloc _ _ _ l]
 have d:∀ (b:Nat) (c:Array Value) (t:TypeId) (f:Nat×Nat),w.heap[b]?=some (Q c t f)->t≠51->t≠88->(w4.setCell ⟨SB,2,none⟩ v').heap[b]?=w.heap[b]?:=fun b c t f hb ht1 ht2=>by
  rw [za (zO hb hst.blk ht1)]
  exact a b c t f hb ht2
 have s:w.heap.size<=(w4.setCell ⟨SB,2,none⟩ v').heap.size:=by rw [World.size_setCell];have:=hg.size;simp at this;omega
 have m:=(a SB _ _ _ hst.blk (by decide)).trans hst.blk
 refine ⟨⟨?_,fun p hp=>?_,fun i j p q hi hj hij=>?_⟩,hst.of (by rw [zU m];rfl) (fun b c t f hb ht=>d b c t f hb ?_ ?_)⟩
 ·rw [List.length_append,show prL (ps++[p0])=prL ps++[.pointer (some ⟨p0.B,0,none⟩),.pointer (some ⟨p0.R,0,none⟩)] by simp [prL]]
  refine zh ho (fun g hg'=>za (fun e=>?_))
  obtain ⟨c,f,u⟩:=YG ho hg'
  rw [e,m] at u
  simp at u
 ·rcases List.mem_append.1 hp with hp | hp
  ·exact ⟨(h.ok p hp).1.keepT s d,(h.ok p hp).2⟩
  ·simp at hp
   subst hp
   exact ⟨hp0.keepT s d,h1,h2,fun g hg=>by rw [h3] at hg;cases hg⟩
 ·have k:∀ (i:Nat) (p:PrS),(ps++[p0])[i]?=some p->ps[i]?=some p\/(i=ps.length/\p=p0):=fun i p hi=>by
   rcases Nat.lt_or_ge i ps.length with l | l
   ·rw [List.getElem?_append_left l] at hi;exact .inl hi
   ·rw [List.getElem?_append_right l] at hi
    have:i-ps.length=0:=by have:=(List.getElem?_eq_some_iff.1 hi).1;simp at this;omega
    rw [this] at hi
    simp at hi
    exact .inr ⟨by omega,hi.symm⟩
  rcases k i p hi with h5 | ⟨h5,rfl⟩
  ·rcases k j q hj with h6 | ⟨h6,rfl⟩
   ·exact h.dis i j p q h5 h6 hij
   ·obtain ⟨r,o⟩:=h4 p (List.mem_of_getElem? h5)
    exact ⟨r,o,fun g _ e=>by rw [h3] at e;cases e⟩
  ·rcases k j q hj with h6 | ⟨h6,rfl⟩
   ·obtain ⟨r,o⟩:=h4 q (List.mem_of_getElem? h6)
    exact ⟨fun e=>r e.symm,fun e=>o e.symm,fun g e=>by rw [h3] at e;cases e⟩
   ·omega
 ·rcases ht with rfl | rfl | rfl | rfl | ⟨rfl,_⟩<;>decide
 ·rcases ht with rfl | rfl | rfl | rfl | ⟨rfl,_⟩<;>decide
theorem Jr (base SB n:Nat) (wv cv sv iv bv:Value) (cs:List (ByteArray×ByteArray)) (is bs:List Value) (ps:List PrS) (oa ob oc od:Int) (os:ByteArray) (w:World) (hn:(n+1)*56<=140737488355328) (hst:ST w base SB n wv cv sv iv bv cs is bs) (hsr:SRV w base sv iv ps) (hpn:ps.length<=n) :
 Calls Tryz.prog 14 #[.pointer (some ⟨SB,0,none⟩),.agg #[J Z 7,J Z oa,J Z ob,J Z oc,J Z od,.string os]] w (StS base SB n wv cv bv cs bs w):=by
 have z:Hid _:=hst
 have A:Hid _:=hsr
 have j:Hid (base<=w.heap.size):=Nat.le_trans hst.hB (Nat.le_of_lt hst.lt)
 have v:=hst.lt
 have l:=hsr.row
 obtain ⟨m,o,K,_⟩:=z9 l
 subst K
 have D:=hst.c 2
 simp only [List.getElem?_toArray,List.getElem?_cons_succ,List.getElem?_cons_zero] at D
 have Y:=hst.fz 2
 clear hst hsr l
 have k:Hid (Below w.heap.size w (w.alloc (Q #[J Z 7,J Z oa,J Z ob,J Z oc,J Z od,.string os] 53))):=(Below.refl _ _).alloc (Nat.le_refl _) _
 have a4:Hid ((w.alloc (Q #[J Z 7,J Z oa,J Z ob,J Z oc,J Z od,.string os] 53)).heap.size=w.heap.size+1):=by show _=_;simp
 go_enter Tryz.func14,Tryz.ntmps14
 go_wp2_with fail
 refine (zaM _).mono ?_
 rintro e w' ⟨rfl,I⟩
 subst I
 generalize w.alloc (Q #[J Z 7,J Z oa,J Z ob,J Z oc,J Z od,.string os] 53)=w1 at *
 have a1:w1.cell? ⟨SB,2,none⟩=some (O m ps.length o):=(k.out.cell (p:=⟨SB,2,none⟩) v).trans D
 have a0:w1.frozen? ⟨SB,2,none⟩=false:=(k.out.frozen (p:=⟨SB,2,none⟩) v).trans Y
 have E:w.heap.size<=w1.heap.size:=k.out.size
 have a3:SB<w1.heap.size:=by omega
 clear D Y
 have X:Hid (Below w1.heap.size w1 ((w1.alloc (Q sv0 61)).alloc (Q #[.string ⟨#[]⟩,O none 0 0,O none 0 0,O none 0 0] 86))):=((Below.refl _ _).alloc (Nat.le_refl _) _).alloc (by simp) _
 have i:Hid (Below w.heap.size w ((w1.alloc (Q sv0 61)).alloc (Q #[.string ⟨#[]⟩,O none 0 0,O none 0 0,O none 0 0] 86))):=k.out.trans (X.out.mono E)
 have h:Hid (ST ((w1.alloc (Q sv0 61)).alloc (Q #[.string ⟨#[]⟩,O none 0 0,O none 0 0,O none 0 0] 86)) base SB n wv cv (O m ps.length o) iv bv cs is bs):=z.out.below i.out
 have f:Hid (SRV ((w1.alloc (Q sv0 61)).alloc (Q #[.string ⟨#[]⟩,O none 0 0,O none 0 0,O none 0 0] 86)) base (O m ps.length o) iv ps):=A.out.below i.out
 have U:Hid (yR ((w1.alloc (Q sv0 61)).alloc (Q #[.string ⟨#[]⟩,O none 0 0,O none 0 0,O none 0 0] 86)) (fun _=>True) (pr0 w1.heap.size (w1.heap.size+1))):=by
  refine ⟨(zb7 w1 _).below ((Below.refl _ _).alloc (Nat.le_refl _) _),zcj (zu _ (by simp [pr0])),.inl ⟨rfl,rfl⟩,?_,zct _ _ _⟩
  show List.Perm [] (dnL (fun _=>false) 64)
  rw [zbG]
 have S:Hid ((((w1.alloc (Q sv0 61)).alloc (Q #[.string ⟨#[]⟩,O none 0 0,O none 0 0,O none 0 0] 86)).alloc (Q #[.pointer (some ⟨w1.heap.size,0,none⟩),.pointer (some ⟨w1.heap.size+1,0,none⟩)] 88)).ownsRow base 88 2 (O m ps.length o) ps.length (prL ps)):=f.out.row.alloc _
 have V:Hid ((((w1.alloc (Q sv0 61)).alloc (Q #[.string ⟨#[]⟩,O none 0 0,O none 0 0,O none 0 0] 86)).alloc (Q #[.pointer (some ⟨w1.heap.size,0,none⟩),.pointer (some ⟨w1.heap.size+1,0,none⟩)] 88)).heap[w1.heap.size+1+1]?=some (Q #[.pointer (some ⟨w1.heap.size,0,none⟩),.pointer (some ⟨w1.heap.size+1,0,none⟩)] 88 (0,0))):=zu _ (by simp)
 have q:Hid (∀ u∈[Value.pointer (some ⟨w1.heap.size,0,none⟩),Value.pointer (some ⟨w1.heap.size+1,0,none⟩)],u.oneCell'=true):=fun u hu=>by simp at hu;rcases hu with rfl | rfl<;>rfl
 have hG:Hid (∀ w9:World,(((w1.alloc (Q sv0 61)).alloc (Q #[.string ⟨#[]⟩,O none 0 0,O none 0 0,O none 0 0] 86)).alloc (Q #[.pointer (some ⟨w1.heap.size,0,none⟩),.pointer (some ⟨w1.heap.size+1,0,none⟩)] 88)).grownBy w9 (O m ps.length o).ownBlock->w9.cell? ⟨SB,2,none⟩=some (O m ps.length o)/\w9.frozen? ⟨SB,2,none⟩=false):=fun w9 hg=>by
  have N:w9.heap[SB]?=((w1.alloc (Q sv0 61)).alloc (Q #[.string ⟨#[]⟩,O none 0 0,O none 0 0,O none 0 0] 86)).heap[SB]?:=by
   rw [hg.block _ (by simp;omega) (fun e=>zk f.out.row h.out.blk (by decide) e.symm),Below.heap_alloc _ _ _ (by simp;omega)]
  have h9:=N.trans h.out.blk
  exact ⟨by rw [cell_of_row _ _ _ _ _ _ h9];rfl,by simp [World.frozen?,h9]⟩
 have R:Hid (ps.length+1<=maxLen):=by show _<=_;unfold maxLen;omega
 have P:Hid ((ps.length+1)*16<=140737488355328):=by show _<=_;omega
 have x:Hid (base<=(((w1.alloc (Q sv0 61)).alloc (Q #[.string ⟨#[]⟩,O none 0 0,O none 0 0,O none 0 0] 86)).alloc (Q #[.pointer (some ⟨w1.heap.size,0,none⟩),.pointer (some ⟨w1.heap.size+1,0,none⟩)] 88)).heap.size):=by show _<=_;have:=j.out;simp;omega
 obtain ⟨i1,L,H,G,F⟩:=info_parts Tryz.infoPair
 go_wp2_with (at_builtin;refine wpList_append_lies _ rfl _ _ 48 rfl base 88 i1 _ 2 16 Tryz.underlying48 L H G F rfl (by decide) (O m ps.length o) _ _ rfl S.out ⟨w1.heap.size+1+1,0,none⟩ 1 1 [.pointer (some ⟨w1.heap.size,0,none⟩),.pointer (some ⟨w1.heap.size+1,0,none⟩)] rfl rfl (World.news_of_block V.out) q.out (Nat.lt_succ_self 0) R.out P.out x.out (w1.heap.size+1+1+1) (by simp) ?_;intro y d C g a s r;obtain ⟨y3,yz⟩:=hG.out C a)
 have B:Hid (SRV (C.setCell ⟨SB,2,none⟩ (O (some ⟨y,0,none⟩) (ps.length+1) d)) base (O (some ⟨y,0,none⟩) (ps.length+1) d) iv (ps++[pr0 w1.heap.size (w1.heap.size+1)])/\ST (C.setCell ⟨SB,2,none⟩ (O (some ⟨y,0,none⟩) (ps.length+1) d)) base SB n wv cv (O (some ⟨y,0,none⟩) (ps.length+1) d) iv bv cs is bs):=by
  have a2:=j.out
  refine f.out.push h.out U.out (by simp only [pr0];omega) (by simp only [pr0];omega) rfl (fun p hp=>?_) a g
  have h8:=(A.out.ok p hp).1
  have h6:=h8.sv.lt
  have h7:=h8.rf.lt
  simp only [pr0]
  omega
 have W:Hid (Below base w (C.setCell ⟨SB,2,none⟩ (O (some ⟨y,0,none⟩) (ps.length+1) d))):=(((i.out.mono j.out).alloc (Nat.le_trans j.out i.out.size) _).grown a x.out (fun b N=>(f.out.row.lt b N).1)).setCell z.out.hB _
 clear g a s r
 go_ret
 exact ⟨rfl,W.out,_,iv,is,_,B.out.2.mono,B.out.1,by simp;omega⟩
theorem zd0 (w:World) (base:Nat) (iv:Value):SRV w base (O none 0 0) iv [] :=
 ⟨World.ownsRow_nil _ _ _ _,(fun p hp=>absurd hp List.not_mem_nil),(fun i j p q hi=>by simp at hi)⟩
theorem jB (wo so:Option Addr) (wb woff m wcp sb soff sn sc:Nat) (X:Nat->WD) (OK OA OB OC OD:Nat->Int) (OStr:Nat->ByteArray) (w:World) (hm:m*96<=140737488351232) (hX:XS w wo wb woff m X)
 (hn:sn*56<=140737488351232) (hs:OS w so sb soff sn OK OA OB OC OD OStr) (hbd:∀ i,i<sn->(-9223372036854775808<=OA i/\OA i<=9223372036854775807)/\(-9223372036854775808<=OB i/\OB i<=9223372036854775807)/\(-9223372036854775808<=OC i/\OC i<=9223372036854775807)) :
 Calls Tryz.prog 3 #[O wo m wcp,O so sn sc] w fun e w'=>e=.returned (.bool true)/\Below w.heap.size w w':=by
 have H:Hid _:=hbd
 clear hbd
 go_enter Tryz.func3,Tryz.ntmps3
 go_wp2_with fail
 have j:Below w.heap.size w (w.alloc (Q #[J Z 7,J Z 8,J Z 9,J Z 10,J Z 11,J Z 12] 3)):=(Below.refl _ _).alloc (Nat.le_refl _) _
 have V:Hid _:=hs.below j
 have U:Hid _:=hX.below j
 have A:(w.alloc (Q #[J Z 7,J Z 8,J Z 9,J Z 10,J Z 11,J Z 12] 3)).heap[w.heap.size]?=some (Q #[J Z 7,J Z 8,J Z 9,J Z 10,J Z 11,J Z 12] 3 (0,0)):=heap_alloc_new w _
 have E:w.heap.size<(w.alloc (Q #[J Z 7,J Z 8,J Z 9,J Z 10,J Z 11,J Z 12] 3)).heap.size:=by simp
 have C:Hid _:=j
 generalize w.alloc (Q #[J Z 7,J Z 8,J Z 9,J Z 10,J Z 11,J Z 12] 3)=w1 at *
 clear hs j hX
 have y:∀ i,i<6->w1.cell? ⟨w.heap.size,i,none⟩=some (J Z (7+(i:Int))):=fun i D=>by
  rw [cell_of_row _ _ _ _ _ _ A]
  match i,D with
  | 0,_=>rfl
  | 1,_=>rfl
  | 2,_=>rfl
  | 3,_=>rfl
  | 4,_=>rfl
  | 5,_=>rfl
 refine (zcu (fun i wq=>Below w1.heap.size w1 wq/\∃ d f is g,ST wq w1.heap.size w1.heap.size i (O wo m wcp) (O none 0 0) d f (O none 0 0) [] is []/\SRV wq w1.heap.size d f g/\g.length<=i)
  wo so m wcp sb soff sn sc w.heap.size 6 6 OK OA OB OC OD OStr (fun i=>7+(i:Int)) w1 hn (by omega) V.out E y
  ⟨(Below.refl _ _).alloc (Nat.le_refl _) _,O none 0 0,O none 0 0,[],[],⟨heap_alloc_new _ _,World.ownsRow_nil _ _ _ _,World.ownsRow_nil _ _ _ _,World.ownsRow_nil _ _ _ _,fun x hx=>by simp at hx,fun i v hv=>by simp at hv,fun i v hv=>by simp at hv,Nat.le_refl _,Nat.le_refl _,Nat.le_refl _,Nat.le_refl _⟩,zd0 _ _ _,Nat.le_refl _⟩ ?_ ?_ ?_).mono ?_
 ·rintro i wq wr ⟨b,d,f,is,g,h,s,u⟩ I p
  exact ⟨⟨b.trans (p.mono (Nat.le_of_lt I)),d,f,is,g,h.below p,s.below p,u⟩,⟨b.trans (p.mono (Nat.le_of_lt I)),d,f,is,g,(h.below p).mono,s.below p,by omega⟩⟩
 ·rintro i wq D ⟨b,d,f,is,g,h,s,u⟩
  refine (zbg w1.heap.size w1.heap.size i _ _ d f _ _ is _ wq (by omega) h).mono ?_
  rintro e w' ⟨rfl,a⟩
  exact ⟨rfl,⟨b.trans (a.mono b.size),d,f,is,g,h.below a,s.below a,u⟩,a.mono (Nat.le_of_lt h.lt)⟩
 ·rintro i wq D ⟨b,d,f,is,g,h,s,u⟩ p K L
  obtain ⟨⟨S,R⟩,⟨P,N⟩,⟨c0,c1⟩⟩:=H.out i D
  have F:OK i=7\/OK i=8\/OK i=9\/OK i=10\/OK i=11\/OK i=12:=by
   simp only [X6,Bool.or_eq_true,Bool.false_or,beq_iff_eq] at L
   omega
  rcases F with hk1 | hk1
  ·rw [hk1]
   refine (Jr w1.heap.size w1.heap.size i _ _ d f _ _ is _ g _ _ _ _ _ wq (by omega) h s u).mono ?_
   rintro e w' ⟨rfl,a,k,n,o,l,G,r,q⟩
   exact ⟨rfl,⟨b.trans a,k,n,o,l,G,r,q⟩,a⟩
  ·refine (zaJ w1.heap.size w1.heap.size i w1 wo wb woff m wcp X _ d f _ _ is _ g _ _ _ _ _ _ wq (by omega) h s u U.out b (Nat.le_refl _) hm S R P N c0 c1 hk1).mono ?_
   rintro e w' ⟨rfl,a,k,n,o,l,G,r,q⟩
   exact ⟨rfl,⟨b.trans a,k,n,o,l,G,r,q⟩,a⟩
 ·rintro e W ⟨rfl,B⟩
  have z:Hid _:=C.out.trans (B.mono C.out.size)
  clear B
  go_wp2_with fail
  go_ret
  exact ⟨rfl,z.out⟩
end Go.Proofs.YtaebngpoagjafabGreat
