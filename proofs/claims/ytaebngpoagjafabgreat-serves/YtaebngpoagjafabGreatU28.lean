import Derived.Test.YtaebngpoagjafabGreatU27
set_option maxRecDepth 100000
set_option maxHeartbeats 3200000
namespace Go.Proofs.YtaebngpoagjafabGreat
open Obj renaming cells → Y
open Value renaming int → J, slice → U
open IntKind renaming i64 → Z, u8 → O
open Go.RowKit
attribute [local go_sem ↓] Go.wp_at_zero Go.wp_at_succ
structure WM (w:World) (base B:Nat) (v:Value) (xs:List Int):Prop where
 blk:w.heap[B]?=some (Y #[v] 153 (0,0))
 row:w.ownsRow base 5 1 v xs.length (xs.map (Value.int .u8))
 hB:base<=B
structure WV (B:Nat) (v v':Value) (w w':World):Prop where
 bel:Below 0 w w'
 kept:∀ b,b<w.heap.size->b≠B->v.ownBlock≠some b->w'.heap[b]?=w.heap[b]?/\v'.ownBlock≠some b
theorem WV.refl (B:Nat) (v:Value) (w:World):WV B v v w w:=⟨Below.refl _ _,fun _ _ _ h=>⟨rfl,h⟩⟩
theorem WV.trans {B:Nat} {a b c:Value} {w w1 w2:World} (h:WV B a b w w1) (k:WV B b c w1 w2):WV B a c w w2 :=
 ⟨h.bel.trans k.bel,fun x hx h1 h2=>by
  obtain ⟨f,p2⟩:=h.kept x hx h1 h2
  obtain ⟨e,d⟩:=k.kept x (Nat.lt_of_lt_of_le hx h.bel.size) h1 p2
  exact ⟨e.trans f,d⟩⟩
theorem WM.lt {w:World} {base B v xs} (h:WM w base B v xs):B<w.heap.size:=lt_of_block h.blk
theorem WM.c0 {w:World} {base B v xs} (h:WM w base B v xs):w.cell? ⟨B,0,none⟩=some v:=by simp [World.cell?,h.blk]
theorem WM.fz {w:World} {base B v xs} (h:WM w base B v xs) (j:Nat):w.frozen? ⟨B,j,none⟩=false:=by simp [World.frozen?,h.blk]
theorem WM.ne {w:World} {base B v xs} (h:WM w base B v xs):v.ownBlock≠some B:=zk h.row h.blk (by decide)
theorem WV.below {B:Nat} {v v':Value} {w w':World} {base:Nat} {xs:List Int} (h:WV B v v' w w') (hm:WM w base B v xs):Below base w w' :=
 ⟨h.bel.os,h.bel.tape,h.bel.output,h.bel.size,fun k hk=>(h.kept k (by have:=hm.lt;have:=hm.hB;omega) (by have:=hm.hB;omega) (fun e=>by have:=(hm.row.lt k e).1;omega)).1⟩
theorem WM.alloc {w:World} {base B v xs} (h:WM w base B v xs) (o:Obj):WM (w.alloc o) base B v xs :=
 ⟨by rw [Below.heap_alloc _ _ _ h.lt];exact h.blk,h.row.alloc o,h.hB⟩
theorem WM.drewN {w:World} {base B v xs} (h:WM w base B v xs) (n:Nat):WM (w.drewN n) base B v xs:=⟨h.blk,h.row,h.hB⟩
theorem WV.alloc {B:Nat} {v v':Value} {w w':World} (h:WV B v v' w w') (o:Obj):WV B v v' w (w'.alloc o) :=
 ⟨h.bel.alloc (Nat.zero_le _) o,fun b hb h1 h2=>by
  obtain ⟨a,p2⟩:=h.kept b hb h1 h2
  exact ⟨by rw [Below.heap_alloc _ _ _ (Nat.lt_of_lt_of_le hb h.bel.size)];exact a,p2⟩⟩
theorem zdq {w:World} {B:Nat} {a u:Value} {t:TypeId} (h:w.heap[B]?=some (Y #[a] t (0,0))):(w.setCell ⟨B,0,none⟩ u).heap[B]?=some (Y #[u] t (0,0)):=by
 simp [World.setCell,Array.getElem?_modify,h]
theorem WM.push {w w4:World} {base B v xs ys} {oo:Option Addr} {cap n:Nat} (h:WM w base B v xs) (hn:n=(xs++ys).length) (hg:w.grownBy w4 v.ownBlock) (hown:w4.ownsRow base 5 1 (U oo n cap) n ((xs++ys).map (Value.int .u8))) :
 WM (w4.setCell ⟨B,0,none⟩ (U oo n cap)) base B (U oo n cap) (xs++ys):=by
 have a:w4.heap[B]?=some (Y #[v] 153 (0,0)):=(hg.block B h.lt (fun e=>h.ne e.symm)).trans h.blk
 subst hn
 exact ⟨zdq a,ownsRow_setCell_other hown (zk hown a (by decide)) _,h.hB⟩
theorem WM.pushV {w w4:World} {base B v xs} {g n cap H:Nat} (_:WM w base B v xs) (hg:w.grownBy w4 v.ownBlock) (hat:v.ownBlock=some g\/g=H) (hH:w.heap.size<=H) :
 WV B v (U (some ⟨g,0,none⟩) n cap) w (w4.setCell ⟨B,0,none⟩ (U (some ⟨g,0,none⟩) n cap)):=by
 refine ⟨⟨hg.os,hg.tape,hg.output,Nat.le_trans hg.size (by simp [World.setCell]),fun k hk=>absurd hk (Nat.not_lt_zero _)⟩,fun b hb h1 h2=>⟨?_,?_⟩⟩
 ·rw [za h1]
  exact hg.block b hb (fun e=>h2 e.symm)
 ·intro e
  have a:g=b:=by simpa [Value.ownBlock] using e
  subst a
  rcases hat with e1 | e1
  ·exact h2 e1
  ·omega
theorem yF (base B:Nat) (n kI:Int) (k:Nat) (v:Value) (xs:List Int) (w:World) (hk:kI=k) (hk4:k<=4) (h0:0<=n) (h1:n<=4294967296) (hx:xs.length<=1000000) (h:WM w base B v xs) :
 Calls Tryz.prog 132 #[.pointer (some ⟨B,0,none⟩),J Z n,J Z kI] w fun e w'=>e=.returned (.tuple #[])/\∃ v',WM w' base B v' (xs++z6 n k)/\WV B v v' w w':=by
 subst hk
 obtain ⟨V,D,A,z,x⟩:=info_parts Tryz.infoByte
 have H:Hid (WM w base B v xs):=h
 clear h
 go_enter Tryz.func132,Tryz.ntmps132
 go_wp2_with fail
 go_loopg [1,6] k (fun q a y wr=>∃ (i:Nat) (f:Int) (v':Value) (j:List Int),q+i=k/\a=J Z f/\y=J Z i/\0<=f/\f<=4294967296/\j.length<=1000000+i/\Hid (j++z6 f q=xs++z6 n k)/\WM wr base B v' j/\WV B v v' w wr)
 case atStart=>exact ⟨0,n,v,xs,by omega,rfl,rfl,h0,h1,by omega,rfl,H.out,WV.refl _ _ _⟩
 case round =>
  obtain ⟨i,f,v',j,hq,rfl,rfl,R,g1,gx,S,s,P⟩:=hrel
  have l:Hid (WM wr base B v' j):=s
  have U:Hid (WV B v v' w wr):=P
  have c0:=s.c0
  have z0:=s.fz 0
  clear s P
  by_cases a1:i<k
  ·have r:(i:Int)<(k:Int):=by omega
   obtain ⟨m,rfl⟩:∃ m,gk=m+1:=⟨gk-1,by omega⟩
   have L:Hid (j.length+1<=maxLen):=by show _<=_;unfold maxLen;omega
   have K:Hid ((j.length+1)*1<=140737488355328):=by show _<=_;omega
   have a2:base<=wr.heap.size:=Nat.le_trans l.out.hB (Nat.le_of_lt l.out.lt)
   have ht:f.tmod 256=f%256:=Int.tmod_eq_emod_of_nonneg R
   have W:f.tdiv 256=f / 256:=Int.tdiv_eq_ediv_of_nonneg R
   have a0:0<=f%256:=by omega
   have X:f%256<256:=by omega
   have F:0<=f / 256:=by omega
   have E:f / 256<=4294967296:=by omega
   have HN:Hid (z6 f (m+1)=(f%256)::z6 (f / 256) m):=rfl
   generalize hc:f%256=c at *
   generalize hdd:f / 256=d at *
   have I:Hid (base<=(wr.alloc (Y #[J O c] 5)).heap.size):=by show _<=_;simp;omega
   have p:Hid (∀ u∈[Value.int .u8 c],u.oneCell'=true):=fun u hu=>by simp at hu;subst hu;rfl
   go_wp2_with (at_builtin;refine wpList_append_lies _ rfl _ _ 57 rfl base 5 V _ 1 1 Tryz.underlying57 D A z x rfl (by decide) v' _ _ rfl (l.out.row.alloc _) ⟨wr.heap.size,0,none⟩ 1 1 [J O c] rfl rfl (World.news_of_block (cs:=#[J O c]) (t:=5) (fr:=(0,0)) (heap_alloc_new wr _)) p.out (Nat.lt_succ_self 0) L.out K.out I.out (wr.heap.size+1) (by simp) ?_;intro g a3 N o b G Q;have zz:N.frozen? ⟨B,0,none⟩=false:=(b.frozen_far ⟨B,0,none⟩ (by have:=l.out.lt;simp;omega) (fun e=>l.out.ne e.symm)).trans ((l.out.alloc _).fz 0);have cc:N.cell? ⟨B,0,none⟩=some v':=(b.cell_far ⟨B,0,none⟩ (by have:=l.out.lt;simp;omega) (fun e=>l.out.ne e.symm)).trans (l.out.alloc _).c0)
   go_roundg m
   case measure=>omega
   case rel =>
    refine ⟨i+1,d,_,j++[c],by omega,by go_num,by go_num,F,E,by simp;omega,?_,(l.out.alloc _).push (by simp) b (by simpa using o),U.out.trans (((WV.refl _ _ _).alloc _).trans ((l.out.alloc _).pushV b G (by simp)))⟩
    show _=_
    rw [<- S.out,HN.out]
    simp
  ·have r:¬ (i:Int)<(k:Int):=by omega
   have C:gk=0:=by omega
   subst C
   go_wp2_with fail
   go_end0
   exact ⟨rfl,v',by have:=S.out;simp only [z6,List.append_nil] at this;rw [<- this];exact l.out,U.out⟩
theorem zaA (base B:Nat) (e:EX) (vo:Option Addr) (vc:Nat) (v:Value) (xs:List Int) (w:World) (k0:0<=e.kind) (k1:e.kind<256) (n0:0<=e.nv) (n1:e.nv<=4294967296) (hl:e.items.length<=100000) (hx:xs.length<=999990) (h:WM w base B v xs) :
 Calls Tryz.prog 94 #[.pointer (some ⟨B,0,none⟩),.agg #[J O e.kind,J Z e.at_,J Z e.depth,J Z e.nv,J Z e.na,U vo e.items.length vc,J Z e.inner]] w fun r w'=>r=.returned (.tuple #[])/\∃ v',WM w' base B v' (xs++yp e)/\WV B v v' w w':=by
 have H:Hid _:=h
 clear h
 have u:Hid ((w.alloc (Y #[J O e.kind,J Z e.at_,J Z e.depth,J Z e.nv,J Z e.na,U vo e.items.length vc,J Z e.inner] 148)).heap[w.heap.size]?=some (Y #[J O e.kind,J Z e.at_,J Z e.depth,J Z e.nv,J Z e.na,U vo e.items.length vc,J Z e.inner] 148 (0,0))):=heap_alloc_new w _
 go_enter Tryz.func94,Tryz.ntmps94
 go_wp2_with fail
 refine (yF base B e.kind 1 1 v xs _ rfl (by decide) k0 (by omega) (by omega) (H.out.alloc _)).mono ?_
 rintro r o ⟨rfl,s,p,k⟩
 have m:Hid _:=p
 have l:Hid (WV B v s w o):=((WV.refl _ _ _).alloc _).trans k
 have d:o.heap[w.heap.size]?=some (Y #[J O e.kind,J Z e.at_,J Z e.depth,J Z e.nv,J Z e.na,U vo e.items.length vc,J Z e.inner] 148 (0,0)):=by
  rw [(k.kept w.heap.size (by simp) (fun e'=>by have:=H.out.lt;omega) (fun e'=>by have:=(H.out.row.lt _ e').2;omega)).1]
  exact u.out
 have z:o.cell? ⟨w.heap.size,0,none⟩=some (J O e.kind):=by simp [World.cell?,d]
 have y:o.cell? ⟨w.heap.size,3,none⟩=some (J Z e.nv):=by simp [World.cell?,d]
 have x:o.cell? ⟨w.heap.size,5,none⟩=some (U vo e.items.length vc):=by simp [World.cell?,d]
 have j:(xs++z6 e.kind 1).length<=1000000:=by rw [List.length_append,zF];omega
 clear p k d
 cases e116:(e.kind==116) with
 | true =>
  have q:Hid (yp e=z6 e.kind 1++z6 e.nv 3):=by show _=_;unfold yp;rw [if_pos (by simpa using e116)]
  go_wp2_with fail
  refine (yF base B e.nv 3 3 s _ _ rfl (by decide) n0 n1 j m.out).mono ?_
  rintro r n ⟨rfl,i,b,a⟩
  have g:Hid (WM n base B i (xs++yp e)):=by show WM _ _ _ _ _;rw [q.out,<- List.append_assoc];exact b
  have f:Hid _:=l.out.trans a
  clear b a
  go_wp2_with fail
  go_end0
  exact ⟨rfl,i,g.out,f.out⟩
 | false =>
  cases e64:(e.kind==64) with
  | true =>
   have q:Hid (yp e=z6 e.kind 1++z6 e.nv 1):=by show _=_;unfold yp;rw [if_neg (by simpa using e116),if_pos (by simpa using e64)]
   go_wp2_with fail
   refine (yF base B e.nv 1 1 s _ _ rfl (by decide) n0 n1 j m.out).mono ?_
   rintro r n ⟨rfl,i,b,a⟩
   have g:Hid (WM n base B i (xs++yp e)):=by show WM _ _ _ _ _;rw [q.out,<- List.append_assoc];exact b
   have f:Hid _:=l.out.trans a
   clear b a
   go_wp2_with fail
   go_end0
   exact ⟨rfl,i,g.out,f.out⟩
  | false =>
   have q:Hid (yp e=z6 e.kind 1++z6 e.items.length 1):=by show _=_;unfold yp;rw [if_neg (by simpa using e116),if_neg (by simpa using e64)]
   go_wp2_with fail
   refine (yF base B e.items.length 1 1 s _ _ rfl (by decide) (by omega) (by omega) j m.out).mono ?_
   rintro r n ⟨rfl,i,b,a⟩
   have g:Hid (WM n base B i (xs++yp e)):=by show WM _ _ _ _ _;rw [q.out,<- List.append_assoc];exact b
   have f:Hid _:=l.out.trans a
   clear b a
   go_wp2_with fail
   go_end0
   exact ⟨rfl,i,g.out,f.out⟩
theorem zaz (base B:Nat) (kind:Int) (x:IM) (way:Int) (v:Value) (xs:List Int) (w:World) (a0:0<=x.num) (a1:x.num<=4294967296) (b0:0<=x.pv) (b1:x.pv<=4294967296) (c0:0<=x.pl) (c1:x.pl<=4294967296) (d0:0<=x.wv) (d1:x.wv<=4294967296) (y0:0<=way) (y1:way<=4294967296) (hx:xs.length<=999990) (h:WM w base B v xs) :
 Calls Tryz.prog 95 #[.pointer (some ⟨B,0,none⟩),J O kind,.agg #[J Z x.at_,J Z x.num,J Z x.pv,J Z x.pl,J Z x.wv,J Z x.wa,J Z x.arm],J Z way] w fun r w'=>r=.returned (.tuple #[])/\∃ v',WM w' base B v' (xs++yt kind x way)/\WV B v v' w w':=by
 have H:Hid _:=h
 clear h
 have C:Hid ((w.alloc (Y #[J Z x.at_,J Z x.num,J Z x.pv,J Z x.pl,J Z x.wv,J Z x.wa,J Z x.arm] 155)).heap[w.heap.size]?=some (Y #[J Z x.at_,J Z x.num,J Z x.pv,J Z x.pl,J Z x.wv,J Z x.wa,J Z x.arm] 155 (0,0))):=heap_alloc_new w _
 have A:Hid (∀ i g,WV B v g (w.alloc (Y #[J Z x.at_,J Z x.num,J Z x.pv,J Z x.pl,J Z x.wv,J Z x.wa,J Z x.arm] 155)) i->i.heap[w.heap.size]?=some (Y #[J Z x.at_,J Z x.num,J Z x.pv,J Z x.pl,J Z x.wv,J Z x.wa,J Z x.arm] 155 (0,0))):=fun i g a=>by
  rw [(a.kept w.heap.size (by simp) (fun e'=>by have:=H.out.lt;omega) (fun e'=>by have:=(H.out.row.lt _ e').2;omega)).1]
  exact C.out
 clear C
 cases e109:(kind==109) with
 | true =>
  have o:Hid (yt kind x way=z6 x.pv 4++z6 x.pl 1++z6 way 2):=by show _=_;unfold yt;rw [if_pos (by simpa using e109)]
  go_enter Tryz.func95,Tryz.ntmps95
  go_wp2_with fail
  refine (yF base B x.pv 4 4 v xs _ rfl (by decide) b0 b1 (by omega) (H.out.alloc _)).mono ?_
  rintro r i ⟨rfl,g,b,a⟩
  have k:Hid _:=b
  have j:Hid _:=a
  have f:=A.out i g a
  have E:i.cell? ⟨w.heap.size,3,none⟩=some (J Z x.pl):=by simp [World.cell?,f]
  clear b a f
  go_wp2_with fail
  refine (yF base B x.pl 1 1 g _ _ rfl (by decide) c0 c1 (by rw [List.length_append,zF];omega) k.out).mono ?_
  rintro r D ⟨rfl,z,s,q⟩
  have y:Hid _:=s
  have u:Hid (WV B v z w D):=((WV.refl _ _ _).alloc _).trans (j.out.trans q)
  clear s q E
  go_wp2_with fail
  refine (yF base B way 2 2 z _ _ rfl (by decide) y0 y1 (by rw [List.length_append,List.length_append,zF,zF];omega) y.out).mono ?_
  rintro r p ⟨rfl,n,e,d⟩
  have m:Hid (WM p base B n (xs++yt kind x way)):=by show WM _ _ _ _ _;rw [o.out,<- List.append_assoc,<- List.append_assoc];exact e
  have l:Hid _:=u.out.trans d
  clear e d
  go_wp2_with fail
  go_end0
  exact ⟨rfl,n,m.out,l.out⟩
 | false =>
  cases e103:(kind==103) with
  | true =>
   have o:Hid (yt kind x way=z6 x.num 1++z6 way 2):=by show _=_;unfold yt;rw [if_neg (by simpa using e109),if_pos (by simpa using e103)]
   go_enter Tryz.func95,Tryz.ntmps95
   go_wp2_with fail
   refine (yF base B x.num 1 1 v xs _ rfl (by decide) a0 a1 (by omega) (H.out.alloc _)).mono ?_
   rintro r i ⟨rfl,g,b,a⟩
   have k:Hid _:=b
   have j:Hid (WV B v g w i):=((WV.refl _ _ _).alloc _).trans a
   clear b a
   go_wp2_with fail
   refine (yF base B way 2 2 g _ _ rfl (by decide) y0 y1 (by rw [List.length_append,zF];omega) k.out).mono ?_
   rintro r p ⟨rfl,n,e,d⟩
   have m:Hid (WM p base B n (xs++yt kind x way)):=by show WM _ _ _ _ _;rw [o.out,<- List.append_assoc];exact e
   have l:Hid _:=j.out.trans d
   clear e d
   go_wp2_with fail
   go_end0
   exact ⟨rfl,n,m.out,l.out⟩
  | false =>
   cases e119:(kind==119) with
   | true =>
    have o:Hid (yt kind x way=z6 x.num 1++z6 x.wv 2):=by show _=_;unfold yt;rw [if_neg (by simpa using e109),if_neg (by simpa using e103),if_pos (by simpa using e119)]
    go_enter Tryz.func95,Tryz.ntmps95
    go_wp2_with fail
    refine (yF base B x.num 1 1 v xs _ rfl (by decide) a0 a1 (by omega) (H.out.alloc _)).mono ?_
    rintro r i ⟨rfl,g,b,a⟩
    have k:Hid _:=b
    have j:Hid (WV B v g w i):=((WV.refl _ _ _).alloc _).trans a
    have f:=A.out i g a
    have F:i.cell? ⟨w.heap.size,4,none⟩=some (J Z x.wv):=by simp [World.cell?,f]
    clear b a f
    go_wp2_with fail
    refine (yF base B x.wv 2 2 g _ _ rfl (by decide) d0 d1 (by rw [List.length_append,zF];omega) k.out).mono ?_
    rintro r p ⟨rfl,n,e,d⟩
    have m:Hid (WM p base B n (xs++yt kind x way)):=by show WM _ _ _ _ _;rw [o.out,<- List.append_assoc];exact e
    have l:Hid _:=j.out.trans d
    clear e d
    go_wp2_with fail
    go_end0
    exact ⟨rfl,n,m.out,l.out⟩
   | false =>
    have o:Hid (yt kind x way=z6 x.num 1):=by show _=_;unfold yt;rw [if_neg (by simpa using e109),if_neg (by simpa using e103),if_neg (by simpa using e119)]
    go_enter Tryz.func95,Tryz.ntmps95
    go_wp2_with fail
    refine (yF base B x.num 1 1 v xs _ rfl (by decide) a0 a1 (by omega) (H.out.alloc _)).mono ?_
    rintro r i ⟨rfl,g,b,a⟩
    have k:Hid (WM i base B g (xs++yt kind x way)):=by show WM _ _ _ _ _;rw [o.out];exact b
    have j:Hid (WV B v g w i):=((WV.refl _ _ _).alloc _).trans a
    clear b a
    go_wp2_with fail
    go_end0
    exact ⟨rfl,g,k.out,j.out⟩
theorem Yd {P:Program} (w:World) {ops:Array Oper} {rest:List Oper} {o:Oper} {a:Act} {Q:Exit->Act->World->Prop} (hgd:o.guard=none) (s x:Operand) (t:TypeId)
 (ho:o.op=.call { callee:=.builtin .append,args:=#[s,x],argTypes:=#[t,t] })
 (base:Nat) (e:TypeId) (i:TypeInfo) (z:Value) (size bytes:Nat) (ht:P.underlying t=some (.slice e)) (hi:P.info? e=some i) (hz:i.zero=some z)
 (hsize:i.size=size) (hby:i.bytes=bytes) (hzs:z.cells.size=size) (hsz:0<size)
 (v:Value) (n:Nat) (xs:List Value) (hs:a.eval s=v) (hown:w.ownsRow base e size v n xs)
 (base2:Nat) (v2:Value) (m:Nat) (news:List Value) (hx:a.eval x=v2) (hsrc:w.ownsRow base2 e size v2 m news) (h1:∀ u∈news,u.oneCell'=true)
 (h63:n+m<=maxLen) (hbytes:(n+m)*bytes<=140737488355328) (hbase:base<=w.heap.size) (H:Nat) (hH:w.heap.size=H)
 (h:∀ oo cap w',w'.ownsRow base e size (U oo (n+m) cap) (n+m) (xs++news)->w.grownBy w' v.ownBlock->((U oo (n+m) cap).ownBlock=v.ownBlock\/(U oo (n+m) cap).ownBlock=some H)->wpList P ops Q rest (a.put o.dst (U oo (n+m) cap)) w'):wpList P ops Q (o::rest) a w:=by
 rcases Nat.eq_zero_or_pos m with hm | hm
 ·subst hm
  have f:news=[]:=List.eq_nil_of_length_eq_zero (by have:=hsrc.1;simpa using this)
  subst f
  obtain ⟨j,cap,rfl,l⟩:=z9 hown
  obtain ⟨k,c,rfl,_⟩:=z9 hsrc
  refine wpList_plain hgd fun K hK'=>?_
  have b:=ZT (P:=P) w t o.type e i ht hi j n cap k c l
  unfold Oper.wp
  simp [execOp,ho,resolve,invoke,builtin,hs,hx,b,Result.andThen]
  refine hK' _ _ ?_
  have:=h j cap w (by simpa using hown) ⟨rfl,rfl,rfl,Nat.le_refl _,fun _ _ _=>rfl⟩ (.inl rfl)
  simpa using this
 ·obtain ⟨g,c,d,_,_⟩:=hsrc.form hm
  subst d
  refine wpList_append_lies w hgd s x t ho base e i z size bytes ht hi hz hsize hby hzs hsz v n xs hs hown ⟨g,0,none⟩ m c news hx hsrc.1 (hsrc.cells rfl) h1 hm h63 hbytes hbase H hH (fun g' cap w' q1 q2 q3 _=>h _ _ _ q1 q2 ?_)
  rcases q3 with q3 | q3
  ·exact .inl q3.symm
  ·exact .inr (by rw [q3];rfl)
theorem zb1 (eo:Option Addr) (m c:Nat) (i:Int) (w:World) (hmc:m<=c) (hm:m<=100000) (h:0<m->∃ g,eo=some ⟨g,0,none⟩) :
 Calls Tryz.prog 93 #[U eo m c,J Z i] w fun e w'=>w'=w/\((i<0\/(m:Int)<=i)/\e=.returned (U none 0 0)\/∃ k:Nat,i=k/\k<m/\e=.returned (U eo (k+1) c)):=by
 by_cases b:i<0
 ·go_enter Tryz.func93,Tryz.ntmps93
  go_wp2_with fail
  go_ret
  exact ⟨rfl,.inl ⟨.inl b,rfl⟩⟩
 ·obtain ⟨k,rfl⟩:∃ k:Nat,i=k:=⟨i.toNat,by omega⟩
  have l:(0:Int)<=(k:Int):=by omega
  by_cases j:k<m
  ·obtain ⟨g,rfl⟩:=h (by omega)
   have a:(k:Int)<(m:Int):=by omega
   have f:¬ (m:Int)<=(k:Int):=by omega
   have d:(k:Int)+1<=(c:Int):=by omega
   clear h b
   go_enter Tryz.func93,Tryz.ntmps93
   go_wp2_with fail
   go_ret
   exact ⟨rfl,.inr ⟨k,rfl,j,rfl⟩⟩
  ·have a:(m:Int)<=(k:Int):=by omega
   clear h b
   go_enter Tryz.func93,Tryz.ntmps93
   go_wp2_with fail
   go_ret
   exact ⟨rfl,.inl ⟨.inr a,rfl⟩⟩
def EVw (w:World) (eo:Option Addr) (es:List (EX×Value)):Prop:=∀ i x,es[i]?=some x->∃ g vo vm vc,eo=some ⟨g,0,none⟩/\g<w.heap.size/\w.cell? ⟨g,i*7,none⟩=some (J O x.1.kind)/\w.cell? ⟨g,i*7+1,none⟩=some (J Z x.1.at_)/\w.cell? ⟨g,i*7+2,none⟩=some (J Z x.1.depth)/\w.cell? ⟨g,i*7+3,none⟩=some (J Z x.1.nv)/\w.cell? ⟨g,i*7+4,none⟩=some (J Z x.1.na)/\w.cell? ⟨g,i*7+5,none⟩=some (U vo vm vc)/\w.cell? ⟨g,i*7+6,none⟩=some (J Z x.1.inner)/\IV w (U vo vm vc) x.1.items/\(∀ q,(U vo vm vc).ownBlock=some q->q<w.heap.size)
theorem EVw.below {w w':World} {eo:Option Addr} {es:List (EX×Value)} (h:EVw w eo es) (hb:Below w.heap.size w w'):EVw w' eo es:=fun i x hx=>by
 obtain ⟨g,e,f,j,v,d,u,s,r,o,n,m,l,k,b⟩:=h i x hx
 have a:∀ q,w'.cell? ⟨g,q,none⟩=w.cell? ⟨g,q,none⟩:=fun q=>hb.cell (p:=⟨g,q,none⟩) d
 exact ⟨g,e,f,j,v,Nat.lt_of_lt_of_le d hb.size,by rw [a];exact u,by rw [a];exact s,by rw [a];exact r,by rw [a];exact o,by rw [a];exact n,by rw [a];exact m,by rw [a];exact l,k.of_kept (fun q hq=>hb.block q (b q hq)),fun q hq=>Nat.lt_of_lt_of_le (b q hq) hb.size⟩
structure SHP (e:EX):Prop where
 k0:0<=e.kind
 k1:e.kind<256
 n0:0<=e.nv
 n1:e.nv<=4294967296
 il:e.items.length<=100000
 it:∀ x∈e.items,0<=x.num/\x.num<=4294967296/\0<=x.pv/\x.pv<=4294967296/\0<=x.pl/\x.pl<=4294967296/\0<=x.wv/\x.wv<=4294967296
def zdN (w:World) (X:List Int) (r:Ending) (w':World):Prop:=Below w.heap.size w w'/\∃ o k,r=.returned (U o X.length k)/\w'.ownsRow w.heap.size 5 1 (U o X.length k) X.length (X.map (Value.int .u8))
theorem ZE {w:World} {base base' e size:Nat} {v:Value} {n:Nat} {xs:List Value} (h:w.ownsRow base e size v n xs) (hb:base'<=base):w.ownsRow base' e size v n xs:=by
 refine ⟨h.1,?_⟩
 rcases h.2 with h0 | ⟨g,cap,cur,h1,h2,h3⟩
 ·exact .inl h0
 ·exact .inr ⟨g,cap,cur,h1,by omega,h3⟩
theorem zcF (X:List Int):∀ u∈X.map (Value.int .u8),u.oneCell'=true:=fun u hu=>by
 simp only [List.mem_map] at hu
 obtain ⟨x,_,rfl⟩:=hu
 rfl
theorem zfF {w:World} {v:Value} {l:List IM} {vo:Option Addr} {vm vc:Nat} (h:IV w v l) (hv:v=U vo vm vc):vm=l.length:=by
 rcases h with ⟨h1,h2⟩ | ⟨g,cap,h1,_⟩
 ·rw [hv] at h1;cases h1;rw [h2];rfl
 ·rw [hv] at h1;cases h1;rfl
theorem JX (es:List (EX×Value)) (eo:Option Addr) (ec:Nat) (hec:es.length<=ec) (hel:es.length<=100000) (hsh:∀ p∈es,SHP p.1):∀ n,n<=es.length->szR (es.map Prod.fst) n<=1000->∀ (ao:Option Addr) (c:Nat) (w:World),(0<n->ao=eo/\c=ec)->EVw w eo es ->
 Calls Tryz.prog 51 #[U ao n c] w (zdN w (yh (es.map Prod.fst) n)):=by
 obtain ⟨i0,e8,e2,e1,e0⟩:=info_parts Tryz.infoByte
 intro n
 induction n using Nat.strongRecOn with
 | ind n ih =>
  intro hn a9 ao c w f0 c5
  cases n with
  | zero =>
   clear ih f0
   go_enter Tryz.func51,Tryz.ntmps51
   go_wp2_with fail
   go_ret
   exact ⟨Below.refl _ _,none,0,rfl,World.ownsRow_nil _ _ _ _⟩
  | succ j =>
   obtain ⟨rfl,rfl⟩:=f0 (Nat.succ_pos j)
   obtain ⟨xq,L⟩:∃ x,es[j]?=some x:=⟨es[j],List.getElem?_eq_getElem (by omega)⟩
   have b9:(es.map Prod.fst)[j]?=some xq.1:=by rw [List.getElem?_map,L];rfl
   have P:=hsh xq (List.mem_of_getElem? L)
   obtain ⟨z1,z2,z3,z4⟩:=Yn b9 a9
   have g3:=JY _ _ a9
   -- another expression's code
   have a7:Hid (∀ i wz,atF (szK (es.map Prod.fst) j) i<=1000->EVw wz ao es->Calls Tryz.prog 93 #[U ao j c,J Z i] wz fun r w'=>w'=wz/\∃ bo m d,r=.returned (U bo m d)/\Calls Tryz.prog 51 #[U bo m d] wz (zdN wz (atL (zT (es.map Prod.fst) j) i))):=fun i wz hi hz=>by
    refine (zb1 ao j c i wz (by omega) (by omega) (fun _=>by obtain ⟨g,_,_,_,D,_⟩:=hz j xq L;exact ⟨g,D⟩)).mono ?_
    rintro r w' ⟨rfl,D⟩
    refine ⟨rfl,?_⟩
    rcases D with ⟨D,rfl⟩ | ⟨k,rfl,D,rfl⟩
    ·refine ⟨none,0,0,rfl,?_⟩
     have h2:atL (zT (es.map Prod.fst) j) i=yh (es.map Prod.fst) 0:=by
      rw [Xx]
      split
      ·rfl
      ·rw [if_neg (by omega)];rfl
     rw [h2]
     exact ih 0 (by omega) (by omega) (by simp [szR]) none 0 _ (fun h=>by omega) hz
    ·refine ⟨ao,k+1,c,rfl,?_⟩
     have h2:atL (zT (es.map Prod.fst) j) (k:Int)=yh (es.map Prod.fst) (k+1):=by
      rw [Xx,if_neg (by omega),if_pos (by omega),Int.toNat_natCast]
     rw [h2]
     rw [xU,if_neg (by omega),if_pos (by omega),Int.toNat_natCast] at hi
     exact ih (k+1) (by omega) (by omega) hi ao c _ (fun _=>⟨rfl,rfl⟩) hz
   have f8:Hid ((yh (es.map Prod.fst) (j+1)).length<=7000):=by show _<=_;omega
   have a0:Hid (yh (es.map Prod.fst) (j+1)=YL (zT (es.map Prod.fst) j) xq.1):=by show _=_;simp only [yh,b9]
   generalize yh (es.map Prod.fst) (j+1)=X at *
   have f9:Hid (EVw w ao es):=c5
   obtain ⟨g,I,vm,v,hg,m4,r0,r1,r2,r3,r4,r5,r6,a2,e7⟩:=c5 j xq L
   obtain ⟨e,xv⟩:=xq
   simp only at r0 r1 r2 r3 r4 r5 r6 a2 P a0 z1 z2 z3 z4
   have g2:=zfF a2 rfl
   subst g2
   subst hg
   generalize hKe:zT (es.map Prod.fst) j=K at *
   have h0:Hid _:=z3
   have m1:(j:Int)<=(c:Int):=by omega
   have m2:(0:Int)<=(j:Int):=by omega
   have m0:(j:Int)+1-1=(j:Int):=by omega
   have i6:Hid _:=a2
   have F:Hid (SHP e):=P
   have d9:Hid (Below w.heap.size w (w.alloc (Y #[J O e.kind,J Z e.at_,J Z e.depth,J Z e.nv,J Z e.na,U I e.items.length v,J Z e.inner] 148))):=(Below.refl _ _).alloc (Nat.le_refl _) _
   have f4:Hid ((w.alloc (Y #[J O e.kind,J Z e.at_,J Z e.depth,J Z e.nv,J Z e.na,U I e.items.length v,J Z e.inner] 148)).heap[w.heap.size]?=some (Y #[J O e.kind,J Z e.at_,J Z e.depth,J Z e.nv,J Z e.na,U I e.items.length v,J Z e.inner] 148 (0,0))):=heap_alloc_new w _
   clear ih b9 L a9 z1 z3 g3 a2 P hKe hsh
   go_enter Tryz.func51,Tryz.ntmps51
   go_wp2_with fail
   refine (a7.out e.inner _ z2 (f9.out.below d9.out)).mono ?_
   rintro r w' ⟨g1,bo,m,d,rfl,o⟩
   subst w'
   have s:=o
   clear o
   go_wp2_with fail
   refine s.mono ?_
   rintro r l ⟨c6,wo,wk,rfl,R⟩
   have a4:Hid (Below w.heap.size w l):=d9.out.trans (c6.mono (by simp))
   have V:Hid (l.heap[w.heap.size]?=some (Y #[J O e.kind,J Z e.at_,J Z e.depth,J Z e.nv,J Z e.na,U I e.items.length v,J Z e.inner] 148 (0,0))):=by show _=_;rw [c6.block _ (by simp)];exact f4.out
   have a3:Hid (l.ownsRow w.heap.size 5 1 (U wo (atL K e.inner).length wk) (atL K e.inner).length ((atL K e.inner).map (Value.int .u8))):=ZE R (by simp)
   have q0:l.cell? ⟨w.heap.size,0,none⟩=some (J O e.kind):=by rw [cell_of_row l _ _ _ _ _ V.out];rfl
   clear c6 R s d9 f4 r0 r1 r2 r3 r4 r5 r6 c5
   cases ek:(e.kind==61) with
   | true =>
    have HE:Hid (X=atL K e.inner):=by show _=_;rw [a0.out];unfold YL;rw [if_pos (by simpa using ek)]
    go_wp2_with fail
    go_ret
    exact ⟨a4.out,wo,wk,by rw [HE.out];rfl,by rw [HE.out];exact a3.out⟩
   | false =>
    have HE:Hid (X=zq K e e.items.length++zg K e e.items.length):=by show _=_;rw [a0.out];unfold YL;rw [if_neg (by simpa using ek)]
    have d4:Hid ((zq K e e.items.length).length+(zg K e e.items.length).length<=7000):=by show _<=_;rw [<- List.length_append,<- HE.out];exact f8.out
    have m3:=z4 (by simpa using ek)
    have d3:Hid (WM (l.alloc (Y #[U none 0 0] 153)) w.heap.size l.heap.size (U none 0 0) []):=⟨heap_alloc_new _ _,World.ownsRow_nil _ _ _ _,a4.out.size⟩
    have u:Hid ((l.alloc (Y #[U none 0 0] 153)).heap[w.heap.size]?=some (Y #[J O e.kind,J Z e.at_,J Z e.depth,J Z e.nv,J Z e.na,U I e.items.length v,J Z e.inner] 148 (0,0))):=by show _=_;rw [Below.heap_alloc _ _ _ (lt_of_block V.out)];exact V.out
    have p0:(l.alloc (Y #[U none 0 0] 153)).cell? ⟨w.heap.size,0,none⟩=some (J O e.kind):=by rw [cell_of_row _ _ _ _ _ _ u.out];rfl
    have p1:(l.alloc (Y #[U none 0 0] 153)).cell? ⟨w.heap.size,1,none⟩=some (J Z e.at_):=by rw [cell_of_row _ _ _ _ _ _ u.out];rfl
    have p2:(l.alloc (Y #[U none 0 0] 153)).cell? ⟨w.heap.size,2,none⟩=some (J Z e.depth):=by rw [cell_of_row _ _ _ _ _ _ u.out];rfl
    have p3:(l.alloc (Y #[U none 0 0] 153)).cell? ⟨w.heap.size,3,none⟩=some (J Z e.nv):=by rw [cell_of_row _ _ _ _ _ _ u.out];rfl
    have p4:(l.alloc (Y #[U none 0 0] 153)).cell? ⟨w.heap.size,4,none⟩=some (J Z e.na):=by rw [cell_of_row _ _ _ _ _ _ u.out];rfl
    have p5:(l.alloc (Y #[U none 0 0] 153)).cell? ⟨w.heap.size,5,none⟩=some (U I e.items.length v):=by rw [cell_of_row _ _ _ _ _ _ u.out];rfl
    have p6:(l.alloc (Y #[U none 0 0] 153)).cell? ⟨w.heap.size,6,none⟩=some (J Z e.inner):=by rw [cell_of_row _ _ _ _ _ _ u.out];rfl
    go_wp2_with fail
    refine (zaA w.heap.size l.heap.size e I v _ [] _ F.out.k0 F.out.k1 F.out.n0 F.out.n1 F.out.il (by simp) d3.out).mono ?_
    rintro r w3 ⟨rfl,v3,e5,a8⟩
    have e6:w.heap.size<l.heap.size:=lt_of_block V.out
    have i5:Hid (WM w3 w.heap.size l.heap.size v3 (zq K e 0)):=by show WM _ _ _ _ _;simpa [zq] using e5
    have d6:Hid (∀ b,b<l.heap.size->w3.heap[b]?=l.heap[b]?/\v3.ownBlock≠some b):=fun b hb=>by
     have D:=a8.kept b (by simp;omega) (by omega) (by simp [Value.ownBlock])
     exact ⟨D.1.trans (Below.heap_alloc _ _ _ hb),D.2⟩
    have k2:Hid (Below w.heap.size w w3):=(a4.out.alloc a4.out.size _).trans (a8.below d3.out)
    have f3:Hid (w3.heap[w.heap.size]?=some (Y #[J O e.kind,J Z e.at_,J Z e.depth,J Z e.nv,J Z e.na,U I e.items.length v,J Z e.inner] 148 (0,0))):=by show _=_;rw [(d6.out _ e6).1];exact V.out
    have i2:Hid (w3.ownsRow w.heap.size 5 1 (U wo (atL K e.inner).length wk) (atL K e.inner).length ((atL K e.inner).map (Value.int .u8))):=zh a3.out (fun b hb=>(d6.out b (a3.out.lt b hb).2).1)
    have i9:Hid (∀ b,(U wo (atL K e.inner).length wk).ownBlock=some b->v3.ownBlock≠some b):=fun b hb=>(d6.out b (a3.out.lt b hb).2).2
    have s5:w3.cell? ⟨w.heap.size,5,none⟩=some (U I e.items.length v):=by rw [cell_of_row _ _ _ _ _ _ f3.out];rfl
    clear e5 a8 p0 p1 p2 p3 p4 p5 p6 u d3 q0
    go_wp2_with fail
    go_loopg [5,39] e.items.length (fun q a y wr=>∃ (i:Nat) (ao:Option Addr) (H:Nat) (v':Value),q+i=e.items.length/\a=U ao (zg K e i).length H/\y=J Z i/\WM wr w.heap.size l.heap.size v' (zq K e i)/\wr.ownsRow w.heap.size 5 1 (U ao (zg K e i).length H) (zg K e i).length ((zg K e i).map (Value.int .u8))/\(∀ b,(U ao (zg K e i).length H).ownBlock=some b->v'.ownBlock≠some b)/\Below w.heap.size w wr/\wr.heap[w.heap.size]?=some (Y #[J O e.kind,J Z e.at_,J Z e.depth,J Z e.nv,J Z e.na,U I e.items.length v,J Z e.inner] 148 (0,0)))
    case atStart=>exact ⟨0,wo,wk,v3,by omega,rfl,rfl,i5.out,i2.out,i9.out,k2.out,f3.out⟩
    case round =>
     obtain ⟨i,ao,H,v',hq,rfl,rfl,hm,S,a5,a6,e3⟩:=hrel
     have A:Hid (WM wr w.heap.size l.heap.size v' (zq K e i)):=hm
     have HR:Hid (wr.ownsRow w.heap.size 5 1 (U ao (zg K e i).length H) (zg K e i).length ((zg K e i).map (Value.int .u8))):=S
     have HD:Hid (∀ b,(U ao (zg K e i).length H).ownBlock=some b->v'.ownBlock≠some b):=a5
     have HB:Hid (Below w.heap.size w wr):=a6
     have d1:Hid (wr.heap[w.heap.size]?=some (Y #[J O e.kind,J Z e.at_,J Z e.depth,J Z e.nv,J Z e.na,U I e.items.length v,J Z e.inner] 148 (0,0))):=e3
     have k7:(zg K e i).length<=7000:=by have:=Zc K e e.items.length i (by omega);have:=d4.out;omega
     have k8:(zq K e i).length<=7000:=by have:=zcZ K e e.items.length i (by omega);have:=d4.out;omega
     have f7:Hid ((U ao (zg K e i).length H).ownBlock≠some l.heap.size):=zk S hm.blk (by decide)
     clear hm S a5 a6 e3
     by_cases b0:i<e.items.length
     ·obtain ⟨x,hx⟩:∃ x,e.items[i]?=some x:=⟨e.items[i],List.getElem?_eq_getElem b0⟩
      have k4:(0:Int)<=(i:Int):=by omega
      have k3:(i:Int)<(e.items.length:Int):=by omega
      rcases i6.out with ⟨_,h2⟩ | ⟨gi,icap,D,h2,h3⟩
      ·rw [h2] at b0;simp at b0
      ·cases D
       have g5:gi<w.heap.size:=e7 gi rfl
       obtain ⟨r0,r1,r2,r3,r4,r5,r6⟩:=h3 i x hx
       have e9:∀ q,wr.cell? ⟨gi,q,none⟩=w.cell? ⟨gi,q,none⟩:=fun q=>HB.out.cell (p:=⟨gi,q,none⟩) g5
       rw [<- e9] at r0 r1 r2 r3 r4 r5 r6
       have g0:=F.out.it x (List.mem_of_getElem? hx)
       obtain ⟨b1,b2,b3,b4,b5,b6,b7,b8⟩:=g0
       have g9:Hid (atF (szK (List.map Prod.fst es) j) x.arm<=1000):=h0.out i x hx
       have i7:Hid (zq K e (i+1)=zq K e i++yt e.kind x (zg K e i).length):=by show _=_;simp only [zq,hx]
       have W:Hid (zg K e (i+1)=zg K e i++atL K x.arm):=by show _=_;simp only [zg,hx]
       have k9:(zg K e i).length+(atL K x.arm).length<=7000:=by have C:=Zc K e e.items.length (i+1) (by omega);rw [W.out,List.length_append] at C;have:=d4.out;omega
       have g6:w.heap.size<wr.heap.size:=lt_of_block d1.out
       have f1:Hid ((wr.alloc (Y #[J Z x.at_,J Z x.num,J Z x.pv,J Z x.pl,J Z x.wv,J Z x.wa,J Z x.arm] 155)).heap[w.heap.size]?=some (Y #[J O e.kind,J Z e.at_,J Z e.depth,J Z e.nv,J Z e.na,U (some ⟨gi,0,none⟩) e.items.length v,J Z e.inner] 148 (0,0))):=by show _=_;rw [Below.heap_alloc _ _ _ g6];exact d1.out
       have k0:(wr.alloc (Y #[J Z x.at_,J Z x.num,J Z x.pv,J Z x.pl,J Z x.wv,J Z x.wa,J Z x.arm] 155)).cell? ⟨w.heap.size,0,none⟩=some (J O e.kind):=by rw [cell_of_row _ _ _ _ _ _ f1.out];rfl
       have h5:Hid ((wr.alloc (Y #[J Z x.at_,J Z x.num,J Z x.pv,J Z x.pl,J Z x.wv,J Z x.wa,J Z x.arm] 155)).heap[wr.heap.size]?=some (Y #[J Z x.at_,J Z x.num,J Z x.pv,J Z x.pl,J Z x.wv,J Z x.wa,J Z x.arm] 155 (0,0))):=heap_alloc_new wr _
       clear h2 h3 e9 hx
       go_wp2_with fail
       refine (zaz w.heap.size l.heap.size e.kind x (zg K e i).length v' (zq K e i) _ b1 b2 b3 b4 b5 b6 b7 b8 (by omega) (by omega) (by omega) (A.out.alloc _)).mono ?_
       rintro r w4 ⟨rfl,v4,e4,N⟩
       have G:Hid (WM w4 w.heap.size l.heap.size v4 (zq K e (i+1))):=by show WM _ _ _ _ _;rw [i7.out];exact e4
       have d8:Hid (Below w.heap.size w w4):=(HB.out.alloc HB.out.size _).trans (N.below (A.out.alloc _))
       have f2:Hid (w4.heap[w.heap.size]?=some (Y #[J O e.kind,J Z e.at_,J Z e.depth,J Z e.nv,J Z e.na,U (some ⟨gi,0,none⟩) e.items.length v,J Z e.inner] 148 (0,0))):=by show _=_;rw [(N.kept _ (by simp;omega) (by omega) (zk A.out.row d1.out (by decide))).1];exact f1.out
       have h4:Hid (w4.heap[wr.heap.size]?=some (Y #[J Z x.at_,J Z x.num,J Z x.pv,J Z x.pl,J Z x.wv,J Z x.wa,J Z x.arm] 155 (0,0))):=by show _=_;rw [(N.kept _ (by simp) (by have:=A.out.lt;omega) (fun e'=>by have:=(A.out.row.lt _ e').2;omega)).1];exact h5.out
       have d5:Hid (∀ b,(U ao (zg K e i).length H).ownBlock=some b->w4.heap[b]?=wr.heap[b]?/\v4.ownBlock≠some b):=fun b hb=>by
        have g7:=(HR.out.lt b hb).2
        have D:=N.kept b (by simp;omega) (fun e'=>f7.out (by rw [<- e'];exact hb)) (HD.out b hb)
        exact ⟨D.1.trans (Below.heap_alloc _ _ _ g7),D.2⟩
       have f6:Hid (w4.ownsRow w.heap.size 5 1 (U ao (zg K e i).length H) (zg K e i).length ((zg K e i).map (Value.int .u8))):=zh HR.out (fun b hb=>(d5.out b hb).1)
       have k6:w4.cell? ⟨wr.heap.size,6,none⟩=some (J Z x.arm):=by rw [cell_of_row _ _ _ _ _ _ h4.out];rfl
       clear e4 N r0 r1 r2 r3 r4 r5 r6 k0
       go_wp2_with fail
       refine (a7.out x.arm _ g9.out (f9.out.below d8.out)).mono ?_
       rintro r w' ⟨g1,bo,m,d,rfl,o⟩
       subst w'
       have s:=o
       clear o
       go_wp2_with fail
       refine s.mono ?_
       rintro r w5 ⟨z,xo,xk,rfl,Q⟩
       have i1:Hid _:=Q
       have d7:Hid (Below w.heap.size w w5):=d8.out.trans (z.mono d8.out.size)
       have d2:Hid (w5.heap[w.heap.size]?=some (Y #[J O e.kind,J Z e.at_,J Z e.depth,J Z e.nv,J Z e.na,U (some ⟨gi,0,none⟩) e.items.length v,J Z e.inner] 148 (0,0))):=by show _=_;rw [z.block _ (lt_of_block f2.out)];exact f2.out
       have f5:Hid (w5.ownsRow w.heap.size 5 1 (U ao (zg K e i).length H) (zg K e i).length ((zg K e i).map (Value.int .u8))):=zh f6.out (fun b hb=>z.block b (f6.out.lt b hb).2)
       have a1:Hid (WM w5 w.heap.size l.heap.size v4 (zq K e (i+1))):=⟨by rw [z.block _ G.out.lt];exact G.out.blk,zh G.out.row (fun b hb=>z.block b (G.out.row.lt b hb).2),G.out.hB⟩
       have k5:w4.heap.size<=w5.heap.size:=z.size
       have h7:Hid (∀ b,v4.ownBlock=some b->b<w4.heap.size):=fun b hb=>(G.out.row.lt b hb).2
       clear z Q s
       have d0:Hid ((zg K e i).length+(atL K x.arm).length<=maxLen):=by show _<=_;unfold maxLen;omega
       have c9:Hid (((zg K e i).length+(atL K x.arm).length)*1<=140737488355328):=by show _<=_;omega
       have c8:Hid (w.heap.size<=w5.heap.size):=d7.out.size
       go_wp2_with (at_builtin;refine Yd _ rfl _ _ 57 rfl w.heap.size 5 i0 _ 1 1 Tryz.underlying57 e8 e2 e1 e0 rfl (by decide) (U ao (zg K e i).length H) _ _ rfl f5.out w4.heap.size (U xo (atL K x.arm).length xk) _ _ rfl i1.out (zcF _) d0.out c9.out c8.out w5.heap.size rfl ?_;intro oo E w6 B f c7)
       have i4:Hid (WM w6 w.heap.size l.heap.size v4 (zq K e (i+1))):=⟨by rw [f.block _ a1.out.lt (fun e'=>f7.out e'.symm)];exact a1.out.blk,zh a1.out.row (fun b hb=>f.block b (a1.out.row.lt b hb).2 (fun e'=>(d5.out b e'.symm).2 hb)),a1.out.hB⟩
       have h8:Hid (w6.ownsRow w.heap.size 5 1 (U oo ((zg K e i).length+(atL K x.arm).length) E) (zg K e (i+1)).length ((zg K e (i+1)).map (Value.int .u8))):=by
        show World.ownsRow _ _ _ _ _ _ _
        rw [W.out,List.length_append,List.map_append]
        exact B
       have i8:Hid (∀ b,(U oo ((zg K e i).length+(atL K x.arm).length) E).ownBlock=some b->v4.ownBlock≠some b):=fun b hb=>by
        rcases c7 with C | C
        ·rw [C] at hb;exact (d5.out b hb).2
        ·rw [C] at hb
         intro g8
         have:=h7.out b g8
         cases hb
         omega
       have j1:Hid (Below w.heap.size w w6):=d7.out.grown f d7.out.size (fun b hb=>(HR.out.lt b hb).1)
       have h6:Hid (w6.heap[w.heap.size]?=some (Y #[J O e.kind,J Z e.at_,J Z e.depth,J Z e.nv,J Z e.na,U (some ⟨gi,0,none⟩) e.items.length v,J Z e.inner] 148 (0,0))):=by show _=_;rw [f.block _ (lt_of_block d2.out) (fun e'=>zk f5.out d2.out (by decide) e'.symm)];exact d2.out
       clear B f c7
       go_roundg (gk-1)
       case measure=>omega
       case rel =>
        refine ⟨i+1,oo,E,v4,by omega,by rw [W.out,List.length_append],by go_num,i4.out,?_,?_,j1.out,h6.out⟩
        ·have C:=h8.out;rw [W.out,List.length_append] at C ⊢;exact C
        ·have C:=i8.out;rw [W.out,List.length_append];exact C
     ·have hd:¬ ((i:Int)<(e.items.length:Int)):=by omega
      have g4:i=e.items.length:=by omega
      subst g4
      have c0:=A.out.c0
      have d0:Hid ((zq K e e.items.length).length+(zg K e e.items.length).length<=maxLen):=by show _<=_;unfold maxLen;omega
      have c9:Hid (((zq K e e.items.length).length+(zg K e e.items.length).length)*1<=140737488355328):=by show _<=_;omega
      have c8:Hid (w.heap.size<=wr.heap.size):=HB.out.size
      go_wp2_with (at_builtin;refine Yd _ rfl _ _ 57 rfl w.heap.size 5 i0 _ 1 1 Tryz.underlying57 e8 e2 e1 e0 rfl (by decide) v' _ _ rfl A.out.row w.heap.size (U ao (zg K e e.items.length).length H) _ _ rfl HR.out (zcF _) d0.out c9.out c8.out wr.heap.size rfl ?_;intro oo E w6 B f c7;have zz:w6.frozen? ⟨l.heap.size,0,none⟩=false:=(f.frozen_far ⟨l.heap.size,0,none⟩ A.out.lt (fun e=>A.out.ne e.symm)).trans (A.out.fz 0);have cc:w6.cell? ⟨l.heap.size,0,none⟩=some v':=(f.cell_far ⟨l.heap.size,0,none⟩ A.out.lt (fun e=>A.out.ne e.symm)).trans A.out.c0)
      have i3:=A.out.push (ys:=zg K e e.items.length) (n:=(zq K e e.items.length).length+(zg K e e.items.length).length) (by simp) f (by rw [List.map_append];exact B)
      have j0:Below w.heap.size w (w6.setCell ⟨l.heap.size,0,none⟩ (U oo ((zq K e e.items.length).length+(zg K e e.items.length).length) E)):=(HB.out.grown f HB.out.size (fun b hb=>(A.out.row.lt b hb).1)).setCell (by simp only;omega) _
      go_ret
      refine ⟨j0,oo,E,by rw [HE.out,List.length_append];rfl,?_⟩
      have C:=i3.row
      rw [HE.out]
      rw [List.length_append] at C ⊢
      exact C
end Go.Proofs.YtaebngpoagjafabGreat
