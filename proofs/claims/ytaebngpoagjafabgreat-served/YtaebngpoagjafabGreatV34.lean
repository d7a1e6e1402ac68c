import Derived.Test.YtaebngpoagjafabGreatV33
set_option maxRecDepth 100000
set_option maxHeartbeats 3200000
namespace Go.Proofs.YtaebngpoagjafabGreat
open Obj renaming cells → Y
open Value renaming int → J, slice → U
open IntKind renaming i64 → Z, u8 → O
open Go.RowKit
attribute [local go_sem ↓] Go.wp_at_zero Go.wp_at_succ
structure WM (w:World) (base B:Nat) (v:Value) (xs:List Int):Prop where
 blk:w.heap[B]?=some (Y #[v] 153 (0,0))
 row:w.ownsRow base 5 1 v xs.length (xs.map (Value.int .u8))
 hB:base<=B
structure WV (B:Nat) (v v':Value) (w w':World):Prop where
 bel:Below 0 w w'
 kept:∀ b,b<w.heap.size->b≠B->v.ownBlock≠some b->w'.heap[b]?=w.heap[b]?/\v'.ownBlock≠some b
theorem WV.refl (B:Nat) (v:Value) (w:World):WV B v v w w:=⟨Below.refl _ _,fun _ _ _ h=>⟨rfl,h⟩⟩
theorem WV.trans {B:Nat} {a b c:Value} {w w1 w2:World} (h:WV B a b w w1) (k:WV B b c w1 w2):WV B a c w w2 :=
 ⟨h.bel.trans k.bel,fun x hx h1 h2=>by
  obtain ⟨p1,p2⟩:=h.kept x hx h1 h2
  obtain ⟨q1,q2⟩:=k.kept x (Nat.lt_of_lt_of_le hx h.bel.size) h1 p2
  exact ⟨q1.trans p1,q2⟩⟩
theorem WM.lt {w:World} {base B v xs} (h:WM w base B v xs):B<w.heap.size:=lt_of_block h.blk
theorem WM.c0 {w:World} {base B v xs} (h:WM w base B v xs):w.cell? ⟨B,0,none⟩=some v:=by simp [World.cell?,h.blk]
theorem WM.fz {w:World} {base B v xs} (h:WM w base B v xs) (j:Nat):w.frozen? ⟨B,j,none⟩=false:=by simp [World.frozen?,h.blk]
theorem WM.ne {w:World} {base B v xs} (h:WM w base B v xs):v.ownBlock≠some B:=zs h.row h.blk (by decide)
theorem WV.below {B:Nat} {v v':Value} {w w':World} {base:Nat} {xs:List Int} (h:WV B v v' w w') (hm:WM w base B v xs):Below base w w' :=
 ⟨h.bel.os,h.bel.tape,h.bel.output,h.bel.size,fun k hk=>(h.kept k (by have:=hm.lt;have:=hm.hB;omega) (by have:=hm.hB;omega) (fun e=>by have:=(hm.row.lt k e).1;omega)).1⟩
theorem WM.alloc {w:World} {base B v xs} (h:WM w base B v xs) (o:Obj):WM (w.alloc o) base B v xs :=
 ⟨by rw [Below.heap_alloc _ _ _ h.lt];exact h.blk,h.row.alloc o,h.hB⟩
theorem WM.drewN {w:World} {base B v xs} (h:WM w base B v xs) (n:Nat):WM (w.drewN n) base B v xs:=⟨h.blk,h.row,h.hB⟩
theorem WV.alloc {B:Nat} {v v':Value} {w w':World} (h:WV B v v' w w') (o:Obj):WV B v v' w (w'.alloc o) :=
 ⟨h.bel.alloc (Nat.zero_le _) o,fun b hb h1 h2=>by
  obtain ⟨p1,p2⟩:=h.kept b hb h1 h2
  exact ⟨by rw [Below.heap_alloc _ _ _ (Nat.lt_of_lt_of_le hb h.bel.size)];exact p1,p2⟩⟩
theorem zbK {w:World} {B:Nat} {a u:Value} {t:TypeId} (h:w.heap[B]?=some (Y #[a] t (0,0))):(w.setCell ⟨B,0,none⟩ u).heap[B]?=some (Y #[u] t (0,0)):=by
 simp [World.setCell,Array.getElem?_modify,h]
theorem WM.push {w w4:World} {base B v xs ys} {oo:Option Addr} {cap n:Nat} (h:WM w base B v xs) (hn:n=(xs++ys).length) (hg:w.grownBy w4 v.ownBlock) (hown:w4.ownsRow base 5 1 (U oo n cap) n ((xs++ys).map (Value.int .u8))) :
 WM (w4.setCell ⟨B,0,none⟩ (U oo n cap)) base B (U oo n cap) (xs++ys):=by
 have hb4:w4.heap[B]?=some (Y #[v] 153 (0,0)):=(hg.block B h.lt (fun e=>h.ne e.symm)).trans h.blk
 subst hn
 exact ⟨zbK hb4,ownsRow_setCell_other hown (zs hown hb4 (by decide)) _,h.hB⟩
theorem WM.pushV {w w4:World} {base B v xs} {g n cap H:Nat} (_:WM w base B v xs) (hg:w.grownBy w4 v.ownBlock) (hat:v.ownBlock=some g\/g=H) (hH:w.heap.size<=H) :
 WV B v (U (some ⟨g,0,none⟩) n cap) w (w4.setCell ⟨B,0,none⟩ (U (some ⟨g,0,none⟩) n cap)):=by
 refine ⟨⟨hg.os,hg.tape,hg.output,Nat.le_trans hg.size (by simp [World.setCell]),fun k hk=>absurd hk (Nat.not_lt_zero _)⟩,fun b hb h1 h2=>⟨?_,?_⟩⟩
 ·rw [za h1]
  exact hg.block b hb (fun e=>h2 e.symm)
 ·intro e
  have e':g=b:=by simpa [Value.ownBlock] using e
  subst e'
  rcases hat with e1 | e1
  ·exact h2 e1
  ·omega
theorem yv (base B:Nat) (n kI:Int) (k:Nat) (v:Value) (xs:List Int) (w:World) (hk:kI=k) (hk4:k<=4) (h0:0<=n) (h1:n<=4294967296) (hx:xs.length<=1000000) (h:WM w base B v xs) :
 Calls Tryz.prog 132 #[.pointer (some ⟨B,0,none⟩),J Z n,J Z kI] w fun e w'=>e=.returned (.tuple #[])/\∃ v',WM w' base B v' (xs++zW n k)/\WV B v v' w w':=by
 subst hk
 obtain ⟨i0,hi0,hz0,hz1,hz2⟩:=info_parts Tryz.infoByte
 have H:Hid (WM w base B v xs):=h
 clear h
 go_enter Tryz.func132,Tryz.ntmps132
 go_wp2_with fail
 go_loopg [1,6] k (fun q a y wr=>∃ (i:Nat) (n':Int) (v':Value) (xs':List Int),q+i=k/\a=J Z n'/\y=J Z i/\0<=n'/\n'<=4294967296/\xs'.length<=1000000+i/\Hid (xs'++zW n' q=xs++zW n k)/\WM wr base B v' xs'/\WV B v v' w wr)
 case atStart=>exact ⟨0,n,v,xs,by omega,rfl,rfl,h0,h1,by omega,rfl,H.out,WV.refl _ _ _⟩
 case round =>
  obtain ⟨i,n',v',xs',hq,rfl,rfl,g0,g1,gx,HX,hm,hv⟩:=hrel
  have HM:Hid (WM wr base B v' xs'):=hm
  have HV:Hid (WV B v v' w wr):=hv
  have c0:=hm.c0
  have z0:=hm.fz 0
  clear hm hv
  by_cases hlt:i<k
  ·have hlt':(i:Int)<(k:Int):=by omega
   obtain ⟨q',rfl⟩:∃ q',gk=q'+1:=⟨gk-1,by omega⟩
   have hA1:Hid (xs'.length+1<=maxLen):=by show _<=_;unfold maxLen;omega
   have hA2:Hid ((xs'.length+1)*1<=140737488355328):=by show _<=_;omega
   have hbs:base<=wr.heap.size:=Nat.le_trans HM.out.hB (Nat.le_of_lt HM.out.lt)
   have ht:n'.tmod 256=n'%256:=Int.tmod_eq_emod_of_nonneg g0
   have ht2:n'.tdiv 256=n' / 256:=Int.tdiv_eq_ediv_of_nonneg g0
   have hr0:0<=n'%256:=by omega
   have hr1:n'%256<256:=by omega
   have hd0:0<=n' / 256:=by omega
   have hd1:n' / 256<=4294967296:=by omega
   have HN:Hid (zW n' (q'+1)=(n'%256)::zW (n' / 256) q'):=rfl
   generalize hc:n'%256=c at *
   generalize hdd:n' / 256=d at *
   have hA3:Hid (base<=(wr.alloc (Y #[J O c] 5)).heap.size):=by show _<=_;simp;omega
   have hone:Hid (∀ u∈[Value.int .u8 c],u.oneCell'=true):=fun u hu=>by simp at hu;subst hu;rfl
   go_wp2_with (at_builtin;refine wpList_append_lies _ rfl _ _ 57 rfl base 5 i0 _ 1 1 Tryz.underlying57 hi0 hz0 hz1 hz2 rfl (by decide) v' _ _ rfl (HM.out.row.alloc _) ⟨wr.heap.size,0,none⟩ 1 1 [J O c] rfl rfl (World.news_of_block (cs:=#[J O c]) (t:=5) (fr:=(0,0)) (heap_alloc_new wr _)) hone.out (Nat.lt_succ_self 0) hA1.out hA2.out hA3.out (wr.heap.size+1) (by simp) ?_;intro g cap w4 hown hgrow hat hlt4;have zz:w4.frozen? ⟨B,0,none⟩=false:=(hgrow.frozen_far ⟨B,0,none⟩ (by have:=HM.out.lt;simp;omega) (fun e=>HM.out.ne e.symm)).trans ((HM.out.alloc _).fz 0);have cc:w4.cell? ⟨B,0,none⟩=some v':=(hgrow.cell_far ⟨B,0,none⟩ (by have:=HM.out.lt;simp;omega) (fun e=>HM.out.ne e.symm)).trans (HM.out.alloc _).c0)
   go_roundg q'
   case measure=>omega
   case rel =>
    refine ⟨i+1,d,_,xs'++[c],by omega,by go_num,by go_num,hd0,hd1,by simp;omega,?_,(HM.out.alloc _).push (by simp) hgrow (by simpa using hown),HV.out.trans (((WV.refl _ _ _).alloc _).trans ((HM.out.alloc _).pushV hgrow hat (by simp)))⟩
    show _=_
    rw [<- HX.out,HN.out]
    simp
  ·have hlt':¬ (i:Int)<(k:Int):=by omega
   have hq0:gk=0:=by omega
   subst hq0
   go_wp2_with fail
   go_end0
   exact ⟨rfl,v',by have:=HX.out;simp only [zW,List.append_nil] at this;rw [<- this];exact HM.out,HV.out⟩
theorem Jp (base B:Nat) (e:EX) (vo:Option Addr) (vc:Nat) (v:Value) (xs:List Int) (w:World) (k0:0<=e.kind) (k1:e.kind<256) (n0:0<=e.nv) (n1:e.nv<=4294967296) (hl:e.items.length<=100000) (hx:xs.length<=999990) (h:WM w base B v xs) :
 Calls Tryz.prog 94 #[.pointer (some ⟨B,0,none⟩),.agg #[J O e.kind,J Z e.at_,J Z e.depth,J Z e.nv,J Z e.na,U vo e.items.length vc,J Z e.inner]] w fun r w'=>r=.returned (.tuple #[])/\∃ v',WM w' base B v' (xs++yh e)/\WV B v v' w w':=by
 have H:Hid _:=h
 clear h
 have HA:Hid ((w.alloc (Y #[J O e.kind,J Z e.at_,J Z e.depth,J Z e.nv,J Z e.na,U vo e.items.length vc,J Z e.inner] 148)).heap[w.heap.size]?=some (Y #[J O e.kind,J Z e.at_,J Z e.depth,J Z e.nv,J Z e.na,U vo e.items.length vc,J Z e.inner] 148 (0,0))):=heap_alloc_new w _
 go_enter Tryz.func94,Tryz.ntmps94
 go_wp2_with fail
 refine (yv base B e.kind 1 1 v xs _ rfl (by decide) k0 (by omega) (by omega) (H.out.alloc _)).mono ?_
 rintro r w1 ⟨rfl,v1,hm1,hv1⟩
 have HM1:Hid _:=hm1
 have HV1:Hid (WV B v v1 w w1):=((WV.refl _ _ _).alloc _).trans hv1
 have hblk:w1.heap[w.heap.size]?=some (Y #[J O e.kind,J Z e.at_,J Z e.depth,J Z e.nv,J Z e.na,U vo e.items.length vc,J Z e.inner] 148 (0,0)):=by
  rw [(hv1.kept w.heap.size (by simp) (fun e'=>by have:=H.out.lt;omega) (fun e'=>by have:=(H.out.row.lt _ e').2;omega)).1]
  exact HA.out
 have q0:w1.cell? ⟨w.heap.size,0,none⟩=some (J O e.kind):=by simp [World.cell?,hblk]
 have q3:w1.cell? ⟨w.heap.size,3,none⟩=some (J Z e.nv):=by simp [World.cell?,hblk]
 have q5:w1.cell? ⟨w.heap.size,5,none⟩=some (U vo e.items.length vc):=by simp [World.cell?,hblk]
 have hxl:(xs++zW e.kind 1).length<=1000000:=by rw [List.length_append,zE];omega
 clear hm1 hv1 hblk
 cases e116:(e.kind==116) with
 | true =>
  have HE:Hid (yh e=zW e.kind 1++zW e.nv 3):=by show _=_;unfold yh;rw [if_pos (by simpa using e116)]
  go_wp2_with fail
  refine (yv base B e.nv 3 3 v1 _ _ rfl (by decide) n0 n1 hxl HM1.out).mono ?_
  rintro r w2 ⟨rfl,v2,hm2,hv2⟩
  have HM2:Hid (WM w2 base B v2 (xs++yh e)):=by show WM _ _ _ _ _;rw [HE.out,<- List.append_assoc];exact hm2
  have HV2:Hid _:=HV1.out.trans hv2
  clear hm2 hv2
  go_wp2_with fail
  go_end0
  exact ⟨rfl,v2,HM2.out,HV2.out⟩
 | false =>
  cases e64:(e.kind==64) with
  | true =>
   have HE:Hid (yh e=zW e.kind 1++zW e.nv 1):=by show _=_;unfold yh;rw [if_neg (by simpa using e116),if_pos (by simpa using e64)]
   go_wp2_with fail
   refine (yv base B e.nv 1 1 v1 _ _ rfl (by decide) n0 n1 hxl HM1.out).mono ?_
   rintro r w2 ⟨rfl,v2,hm2,hv2⟩
   have HM2:Hid (WM w2 base B v2 (xs++yh e)):=by show WM _ _ _ _ _;rw [HE.out,<- List.append_assoc];exact hm2
   have HV2:Hid _:=HV1.out.trans hv2
   clear hm2 hv2
   go_wp2_with fail
   go_end0
   exact ⟨rfl,v2,HM2.out,HV2.out⟩
  | false =>
   have HE:Hid (yh e=zW e.kind 1++zW e.items.length 1):=by show _=_;unfold yh;rw [if_neg (by simpa using e116),if_neg (by simpa using e64)]
   go_wp2_with fail
   refine (yv base B e.items.length 1 1 v1 _ _ rfl (by decide) (by omega) (by omega) hxl HM1.out).mono ?_
   rintro r w2 ⟨rfl,v2,hm2,hv2⟩
   have HM2:Hid (WM w2 base B v2 (xs++yh e)):=by show WM _ _ _ _ _;rw [HE.out,<- List.append_assoc];exact hm2
   have HV2:Hid _:=HV1.out.trans hv2
   clear hm2 hv2
   go_wp2_with fail
   go_end0
   exact ⟨rfl,v2,HM2.out,HV2.out⟩
theorem Jo (base B:Nat) (kind:Int) (x:IM) (way:Int) (v:Value) (xs:List Int) (w:World) (a0:0<=x.num) (a1:x.num<=4294967296) (b0:0<=x.pv) (b1:x.pv<=4294967296) (c0:0<=x.pl) (c1:x.pl<=4294967296) (d0:0<=x.wv) (d1:x.wv<=4294967296) (y0:0<=way) (y1:way<=4294967296) (hx:xs.length<=999990) (h:WM w base B v xs) :
 Calls Tryz.prog 95 #[.pointer (some ⟨B,0,none⟩),J O kind,.agg #[J Z x.at_,J Z x.num,J Z x.pv,J Z x.pl,J Z x.wv,J Z x.wa,J Z x.arm],J Z way] w fun r w'=>r=.returned (.tuple #[])/\∃ v',WM w' base B v' (xs++ym kind x way)/\WV B v v' w w':=by
 have H:Hid _:=h
 clear h
 have HA:Hid ((w.alloc (Y #[J Z x.at_,J Z x.num,J Z x.pv,J Z x.pl,J Z x.wv,J Z x.wa,J Z x.arm] 155)).heap[w.heap.size]?=some (Y #[J Z x.at_,J Z x.num,J Z x.pv,J Z x.pl,J Z x.wv,J Z x.wa,J Z x.arm] 155 (0,0))):=heap_alloc_new w _
 have HC:Hid (∀ w1 v1,WV B v v1 (w.alloc (Y #[J Z x.at_,J Z x.num,J Z x.pv,J Z x.pl,J Z x.wv,J Z x.wa,J Z x.arm] 155)) w1->w1.heap[w.heap.size]?=some (Y #[J Z x.at_,J Z x.num,J Z x.pv,J Z x.pl,J Z x.wv,J Z x.wa,J Z x.arm] 155 (0,0))):=fun w1 v1 hv1=>by
  rw [(hv1.kept w.heap.size (by simp) (fun e'=>by have:=H.out.lt;omega) (fun e'=>by have:=(H.out.row.lt _ e').2;omega)).1]
  exact HA.out
 clear HA
 cases e109:(kind==109) with
 | true =>
  have HE:Hid (ym kind x way=zW x.pv 4++zW x.pl 1++zW way 2):=by show _=_;unfold ym;rw [if_pos (by simpa using e109)]
  go_enter Tryz.func95,Tryz.ntmps95
  go_wp2_with fail
  refine (yv base B x.pv 4 4 v xs _ rfl (by decide) b0 b1 (by omega) (H.out.alloc _)).mono ?_
  rintro r w1 ⟨rfl,v1,hm1,hv1⟩
  have HM1:Hid _:=hm1
  have HV1:Hid _:=hv1
  have hblk:=HC.out w1 v1 hv1
  have q3:w1.cell? ⟨w.heap.size,3,none⟩=some (J Z x.pl):=by simp [World.cell?,hblk]
  clear hm1 hv1 hblk
  go_wp2_with fail
  refine (yv base B x.pl 1 1 v1 _ _ rfl (by decide) c0 c1 (by rw [List.length_append,zE];omega) HM1.out).mono ?_
  rintro r w2 ⟨rfl,v2,hm2,hv2⟩
  have HM2:Hid _:=hm2
  have HV2:Hid (WV B v v2 w w2):=((WV.refl _ _ _).alloc _).trans (HV1.out.trans hv2)
  clear hm2 hv2 q3
  go_wp2_with fail
  refine (yv base B way 2 2 v2 _ _ rfl (by decide) y0 y1 (by rw [List.length_append,List.length_append,zE,zE];omega) HM2.out).mono ?_
  rintro r w3 ⟨rfl,v3,hm3,hv3⟩
  have HM3:Hid (WM w3 base B v3 (xs++ym kind x way)):=by show WM _ _ _ _ _;rw [HE.out,<- List.append_assoc,<- List.append_assoc];exact hm3
  have HV3:Hid _:=HV2.out.trans hv3
  clear hm3 hv3
  go_wp2_with fail
  go_end0
  exact ⟨rfl,v3,HM3.out,HV3.out⟩
 | false =>
  cases e103:(kind==103) with
  | true =>
   have HE:Hid (ym kind x way=zW x.num 1++zW way 2):=by show _=_;unfold ym;rw [if_neg (by simpa using e109),if_pos (by simpa using e103)]
   go_enter Tryz.func95,Tryz.ntmps95
   go_wp2_with fail
   refine (yv base B x.num 1 1 v xs _ rfl (by decide) a0 a1 (by omega) (H.out.alloc _)).mono ?_
   rintro r w1 ⟨rfl,v1,hm1,hv1⟩
   have HM1:Hid _:=hm1
   have HV1:Hid (WV B v v1 w w1):=((WV.refl _ _ _).alloc _).trans hv1
   clear hm1 hv1
   go_wp2_with fail
   refine (yv base B way 2 2 v1 _ _ rfl (by decide) y0 y1 (by rw [List.length_append,zE];omega) HM1.out).mono ?_
   rintro r w3 ⟨rfl,v3,hm3,hv3⟩
   have HM3:Hid (WM w3 base B v3 (xs++ym kind x way)):=by show WM _ _ _ _ _;rw [HE.out,<- List.append_assoc];exact hm3
   have HV3:Hid _:=HV1.out.trans hv3
   clear hm3 hv3
   go_wp2_with fail
   go_end0
   exact ⟨rfl,v3,HM3.out,HV3.out⟩
  | false =>
   cases e119:(kind==119) with
   | true =>
    have HE:Hid (ym kind x way=zW x.num 1++zW x.wv 2):=by show _=_;unfold ym;rw [if_neg (by simpa using e109),if_neg (by simpa using e103),if_pos (by simpa using e119)]
    go_enter Tryz.func95,Tryz.ntmps95
    go_wp2_with fail
    refine (yv base B x.num 1 1 v xs _ rfl (by decide) a0 a1 (by omega) (H.out.alloc _)).mono ?_
    rintro r w1 ⟨rfl,v1,hm1,hv1⟩
    have HM1:Hid _:=hm1
    have HV1:Hid (WV B v v1 w w1):=((WV.refl _ _ _).alloc _).trans hv1
    have hblk:=HC.out w1 v1 hv1
    have q4:w1.cell? ⟨w.heap.size,4,none⟩=some (J Z x.wv):=by simp [World.cell?,hblk]
    clear hm1 hv1 hblk
    go_wp2_with fail
    refine (yv base B x.wv 2 2 v1 _ _ rfl (by decide) d0 d1 (by rw [List.length_append,zE];omega) HM1.out).mono ?_
    rintro r w3 ⟨rfl,v3,hm3,hv3⟩
    have HM3:Hid (WM w3 base B v3 (xs++ym kind x way)):=by show WM _ _ _ _ _;rw [HE.out,<- List.append_assoc];exact hm3
    have HV3:Hid _:=HV1.out.trans hv3
    clear hm3 hv3
    go_wp2_with fail
    go_end0
    exact ⟨rfl,v3,HM3.out,HV3.out⟩
   | false =>
    have HE:Hid (ym kind x way=zW x.num 1):=by show _=_;unfold ym;rw [if_neg (by simpa using e109),if_neg (by simpa using e103),if_neg (by simpa using e119)]
    go_enter Tryz.func95,Tryz.ntmps95
    go_wp2_with fail
    refine (yv base B x.num 1 1 v xs _ rfl (by decide) a0 a1 (by omega) (H.out.alloc _)).mono ?_
    rintro r w1 ⟨rfl,v1,hm1,hv1⟩
    have HM1:Hid (WM w1 base B v1 (xs++ym kind x way)):=by show WM _ _ _ _ _;rw [HE.out];exact hm1
    have HV1:Hid (WV B v v1 w w1):=((WV.refl _ _ _).alloc _).trans hv1
    clear hm1 hv1
    go_wp2_with fail
    go_end0
    exact ⟨rfl,v1,HM1.out,HV1.out⟩
theorem ZP {P:Program} (w:World) {ops:Array Oper} {rest:List Oper} {o:Oper} {a:Act} {Q:Exit->Act->World->Prop} (hgd:o.guard=none) (s x:Operand) (t:TypeId)
 (ho:o.op=.call { callee:=.builtin .append,args:=#[s,x],argTypes:=#[t,t] })
 (base:Nat) (e:TypeId) (i:TypeInfo) (z:Value) (size bytes:Nat) (ht:P.underlying t=some (.slice e)) (hi:P.info? e=some i) (hz:i.zero=some z)
 (hsize:i.size=size) (hby:i.bytes=bytes) (hzs:z.cells.size=size) (hsz:0<size)
 (v:Value) (n:Nat) (xs:List Value) (hs:a.eval s=v) (hown:w.ownsRow base e size v n xs)
 (base2:Nat) (v2:Value) (m:Nat) (news:List Value) (hx:a.eval x=v2) (hsrc:w.ownsRow base2 e size v2 m news) (h1:∀ u∈news,u.oneCell'=true)
 (h63:n+m<=maxLen) (hbytes:(n+m)*bytes<=140737488355328) (hbase:base<=w.heap.size) (H:Nat) (hH:w.heap.size=H)
 (h:∀ oo cap w',w'.ownsRow base e size (U oo (n+m) cap) (n+m) (xs++news)->w.grownBy w' v.ownBlock->((U oo (n+m) cap).ownBlock=v.ownBlock\/(U oo (n+m) cap).ownBlock=some H)->wpList P ops Q rest (a.put o.dst (U oo (n+m) cap)) w'):wpList P ops Q (o::rest) a w:=by
 rcases Nat.eq_zero_or_pos m with hm | hm
 ·subst hm
  have hne:news=[]:=List.eq_nil_of_length_eq_zero (by have:=hsrc.1;simpa using this)
  subst hne
  obtain ⟨so,cap,rfl,hn⟩:=zY hown
  obtain ⟨xo,c,rfl,_⟩:=zY hsrc
  refine wpList_plain hgd fun K hK'=>?_
  have hrun:=Zy (P:=P) w t o.type e i ht hi so n cap xo c hn
  unfold Oper.wp
  simp [execOp,ho,resolve,invoke,builtin,hs,hx,hrun,Result.andThen]
  refine hK' _ _ ?_
  have:=h so cap w (by simpa using hown) ⟨rfl,rfl,rfl,Nat.le_refl _,fun _ _ _=>rfl⟩ (.inl rfl)
  simpa using this
 ·obtain ⟨g,c,hv2,_,_⟩:=hsrc.form hm
  subst hv2
  refine wpList_append_lies w hgd s x t ho base e i z size bytes ht hi hz hsize hby hzs hsz v n xs hs hown ⟨g,0,none⟩ m c news hx hsrc.1 (hsrc.cells rfl) h1 hm h63 hbytes hbase H hH (fun g' cap w' q1 q2 q3 _=>h _ _ _ q1 q2 ?_)
  rcases q3 with q3 | q3
  ·exact .inl q3.symm
  ·exact .inr (by rw [q3];rfl)
theorem zaA (eo:Option Addr) (m c:Nat) (i:Int) (w:World) (hmc:m<=c) (hm:m<=100000) (h:0<m->∃ g,eo=some ⟨g,0,none⟩) :
 Calls Tryz.prog 93 #[U eo m c,J Z i] w fun e w'=>w'=w/\((i<0\/(m:Int)<=i)/\e=.returned (U none 0 0)\/∃ k:Nat,i=k/\k<m/\e=.returned (U eo (k+1) c)):=by
 by_cases h0:i<0
 ·go_enter Tryz.func93,Tryz.ntmps93
  go_wp2_with fail
  go_ret
  exact ⟨rfl,.inl ⟨.inl h0,rfl⟩⟩
 ·obtain ⟨k,rfl⟩:∃ k:Nat,i=k:=⟨i.toNat,by omega⟩
  have h00:(0:Int)<=(k:Int):=by omega
  by_cases h1:k<m
  ·obtain ⟨g,rfl⟩:=h (by omega)
   have h1':(k:Int)<(m:Int):=by omega
   have h2':¬ (m:Int)<=(k:Int):=by omega
   have h3':(k:Int)+1<=(c:Int):=by omega
   clear h h0
   go_enter Tryz.func93,Tryz.ntmps93
   go_wp2_with fail
   go_ret
   exact ⟨rfl,.inr ⟨k,rfl,h1,rfl⟩⟩
  ·have h1':(m:Int)<=(k:Int):=by omega
   clear h h0
   go_enter Tryz.func93,Tryz.ntmps93
   go_wp2_with fail
   go_ret
   exact ⟨rfl,.inl ⟨.inr h1',rfl⟩⟩
def EVw (w:World) (eo:Option Addr) (es:List (EX×Value)):Prop:=∀ i x,es[i]?=some x->∃ g vo vm vc,eo=some ⟨g,0,none⟩/\g<w.heap.size/\w.cell? ⟨g,i*7,none⟩=some (J O x.1.kind)/\w.cell? ⟨g,i*7+1,none⟩=some (J Z x.1.at_)/\w.cell? ⟨g,i*7+2,none⟩=some (J Z x.1.depth)/\w.cell? ⟨g,i*7+3,none⟩=some (J Z x.1.nv)/\w.cell? ⟨g,i*7+4,none⟩=some (J Z x.1.na)/\w.cell? ⟨g,i*7+5,none⟩=some (U vo vm vc)/\w.cell? ⟨g,i*7+6,none⟩=some (J Z x.1.inner)/\IV w (U vo vm vc) x.1.items/\(∀ q,(U vo vm vc).ownBlock=some q->q<w.heap.size)
theorem EVw.below {w w':World} {eo:Option Addr} {es:List (EX×Value)} (h:EVw w eo es) (hb:Below w.heap.size w w'):EVw w' eo es:=fun i x hx=>by
 obtain ⟨g,vo,vm,vc,h1,h2,r0,r1,r2,r3,r4,r5,r6,r7,r8⟩:=h i x hx
 have hc:∀ q,w'.cell? ⟨g,q,none⟩=w.cell? ⟨g,q,none⟩:=fun q=>hb.cell (p:=⟨g,q,none⟩) h2
 exact ⟨g,vo,vm,vc,h1,Nat.lt_of_lt_of_le h2 hb.size,by rw [hc];exact r0,by rw [hc];exact r1,by rw [hc];exact r2,by rw [hc];exact r3,by rw [hc];exact r4,by rw [hc];exact r5,by rw [hc];exact r6,r7.of_kept (fun q hq=>hb.block q (r8 q hq)),fun q hq=>Nat.lt_of_lt_of_le (r8 q hq) hb.size⟩
structure SHP (e:EX):Prop where
 k0:0<=e.kind
 k1:e.kind<256
 n0:0<=e.nv
 n1:e.nv<=4294967296
 il:e.items.length<=100000
 it:∀ x∈e.items,0<=x.num/\x.num<=4294967296/\0<=x.pv/\x.pv<=4294967296/\0<=x.pl/\x.pl<=4294967296/\0<=x.wv/\x.wv<=4294967296
def zb4 (w:World) (X:List Int) (r:Ending) (w':World):Prop:=Below w.heap.size w w'/\∃ o k,r=.returned (U o X.length k)/\w'.ownsRow w.heap.size 5 1 (U o X.length k) X.length (X.map (Value.int .u8))
theorem yk {w:World} {base base' e size:Nat} {v:Value} {n:Nat} {xs:List Value} (h:w.ownsRow base e size v n xs) (hb:base'<=base):w.ownsRow base' e size v n xs:=by
 refine ⟨h.1,?_⟩
 rcases h.2 with h0 | ⟨g,cap,cur,h1,h2,h3⟩
 ·exact .inl h0
 ·exact .inr ⟨g,cap,cur,h1,by omega,h3⟩
theorem za9 (X:List Int):∀ u∈X.map (Value.int .u8),u.oneCell'=true:=fun u hu=>by
 simp only [List.mem_map] at hu
 obtain ⟨x,_,rfl⟩:=hu
 rfl
theorem zdz {w:World} {v:Value} {l:List IM} {vo:Option Addr} {vm vc:Nat} (h:IV w v l) (hv:v=U vo vm vc):vm=l.length:=by
 rcases h with ⟨h1,h2⟩ | ⟨g,cap,h1,_⟩
 ·rw [hv] at h1;cases h1;rw [h2];rfl
 ·rw [hv] at h1;cases h1;rfl
theorem jG (es:List (EX×Value)) (eo:Option Addr) (ec:Nat) (hec:es.length<=ec) (hel:es.length<=100000) (hsh:∀ p∈es,SHP p.1):∀ n,n<=es.length->szR (es.map Prod.fst) n<=1000->∀ (ao:Option Addr) (c:Nat) (w:World),(0<n->ao=eo/\c=ec)->EVw w eo es ->
 Calls Tryz.prog 51 #[U ao n c] w (zb4 w (z8 (es.map Prod.fst) n)):=by
 obtain ⟨i0,hi0,hz0,hz1,hz2⟩:=info_parts Tryz.infoByte
 intro n
 induction n using Nat.strongRecOn with
 | ind n ih =>
  intro hn hsz ao c w hao hev
  cases n with
  | zero =>
   clear ih hao
   go_enter Tryz.func51,Tryz.ntmps51
   go_wp2_with fail
   go_ret
   exact ⟨Below.refl _ _,none,0,rfl,World.ownsRow_nil _ _ _ _⟩
  | succ j =>
   obtain ⟨rfl,rfl⟩:=hao (Nat.succ_pos j)
   obtain ⟨xq,hxq⟩:∃ x,es[j]?=some x:=⟨es[j],List.getElem?_eq_getElem (by omega)⟩
   have hex:(es.map Prod.fst)[j]?=some xq.1:=by rw [List.getElem?_map,hxq];rfl
   have hshp:=hsh xq (List.mem_of_getElem? hxq)
   obtain ⟨z1,z2,z3,z4⟩:=Z0 hex hsz
   have hle:=jH _ _ hsz
   -- another expression's code
   have HENC:Hid (∀ i wz,atF (szK (es.map Prod.fst) j) i<=1000->EVw wz ao es->Calls Tryz.prog 93 #[U ao j c,J Z i] wz fun r w'=>w'=wz/\∃ bo m d,r=.returned (U bo m d)/\Calls Tryz.prog 51 #[U bo m d] wz (zb4 wz (atL (zR (es.map Prod.fst) j) i))):=fun i wz hi hz=>by
    refine (zaA ao j c i wz (by omega) (by omega) (fun _=>by obtain ⟨g,_,_,_,h1,_⟩:=hz j xq hxq;exact ⟨g,h1⟩)).mono ?_
    rintro r w' ⟨rfl,h1⟩
    refine ⟨rfl,?_⟩
    rcases h1 with ⟨h1,rfl⟩ | ⟨k,rfl,h1,rfl⟩
    ·refine ⟨none,0,0,rfl,?_⟩
     have h2:atL (zR (es.map Prod.fst) j) i=z8 (es.map Prod.fst) 0:=by
      rw [xQ]
      split
      ·rfl
      ·rw [if_neg (by omega)];rfl
     rw [h2]
     exact ih 0 (by omega) (by omega) (by simp [szR]) none 0 _ (fun h=>by omega) hz
    ·refine ⟨ao,k+1,c,rfl,?_⟩
     have h2:atL (zR (es.map Prod.fst) j) (k:Int)=z8 (es.map Prod.fst) (k+1):=by
      rw [xQ,if_neg (by omega),if_pos (by omega),Int.toNat_natCast]
     rw [h2]
     rw [Y9,if_neg (by omega),if_pos (by omega),Int.toNat_natCast] at hi
     exact ih (k+1) (by omega) (by omega) hi ao c _ (fun _=>⟨rfl,rfl⟩) hz
   have HLEN:Hid ((z8 (es.map Prod.fst) (j+1)).length<=7000):=by show _<=_;omega
   have HRES:Hid (z8 (es.map Prod.fst) (j+1)=Yj (zR (es.map Prod.fst) j) xq.1):=by show _=_;simp only [z8,hex]
   generalize z8 (es.map Prod.fst) (j+1)=X at *
   have HEV:Hid (EVw w ao es):=hev
   obtain ⟨g,vo,vm,vc,hg,hgw,r0,r1,r2,r3,r4,r5,r6,hiv,hivg⟩:=hev j xq hxq
   obtain ⟨e,xv⟩:=xq
   simp only at r0 r1 r2 r3 r4 r5 r6 hiv hshp HRES z1 z2 z3 z4
   have hvm:=zdz hiv rfl
   subst hvm
   subst hg
   generalize hKe:zR (es.map Prod.fst) j=K at *
   have HZ3:Hid _:=z3
   have hjc:(j:Int)<=(c:Int):=by omega
   have hj0:(0:Int)<=(j:Int):=by omega
   have hjs:(j:Int)+1-1=(j:Int):=by omega
   have HIV:Hid _:=hiv
   have HSH:Hid (SHP e):=hshp
   have HB0:Hid (Below w.heap.size w (w.alloc (Y #[J O e.kind,J Z e.at_,J Z e.depth,J Z e.nv,J Z e.na,U vo e.items.length vc,J Z e.inner] 148))):=(Below.refl _ _).alloc (Nat.le_refl _) _
   have HX0:Hid ((w.alloc (Y #[J O e.kind,J Z e.at_,J Z e.depth,J Z e.nv,J Z e.na,U vo e.items.length vc,J Z e.inner] 148)).heap[w.heap.size]?=some (Y #[J O e.kind,J Z e.at_,J Z e.depth,J Z e.nv,J Z e.na,U vo e.items.length vc,J Z e.inner] 148 (0,0))):=heap_alloc_new w _
   clear ih hex hxq hsz z1 z3 hle hiv hshp hKe hsh
   go_enter Tryz.func51,Tryz.ntmps51
   go_wp2_with fail
   refine (HENC.out e.inner _ z2 (HEV.out.below HB0.out)).mono ?_
   rintro r w' ⟨hw',bo,m,d,rfl,hcall⟩
   subst w'
   have HCALL:=hcall
   clear hcall
   go_wp2_with fail
   refine HCALL.mono ?_
   rintro r w1 ⟨hb1,wo,wk,rfl,hrow1⟩
   have HB1:Hid (Below w.heap.size w w1):=HB0.out.trans (hb1.mono (by simp))
   have HX1:Hid (w1.heap[w.heap.size]?=some (Y #[J O e.kind,J Z e.at_,J Z e.depth,J Z e.nv,J Z e.na,U vo e.items.length vc,J Z e.inner] 148 (0,0))):=by show _=_;rw [hb1.block _ (by simp)];exact HX0.out
   have HR1:Hid (w1.ownsRow w.heap.size 5 1 (U wo (atL K e.inner).length wk) (atL K e.inner).length ((atL K e.inner).map (Value.int .u8))):=yk hrow1 (by simp)
   have q0:w1.cell? ⟨w.heap.size,0,none⟩=some (J O e.kind):=by rw [cell_of_row w1 _ _ _ _ _ HX1.out];rfl
   clear hb1 hrow1 HCALL HB0 HX0 r0 r1 r2 r3 r4 r5 r6 hev
   cases ek:(e.kind==61) with
   | true =>
    have HE:Hid (X=atL K e.inner):=by show _=_;rw [HRES.out];unfold Yj;rw [if_pos (by simpa using ek)]
    go_wp2_with fail
    go_ret
    exact ⟨HB1.out,wo,wk,by rw [HE.out];rfl,by rw [HE.out];exact HR1.out⟩
   | false =>
    have HE:Hid (X=zo K e e.items.length++zg K e e.items.length):=by show _=_;rw [HRES.out];unfold Yj;rw [if_neg (by simpa using ek)]
    have HLT:Hid ((zo K e e.items.length).length+(zg K e e.items.length).length<=7000):=by show _<=_;rw [<- List.length_append,<- HE.out];exact HLEN.out
    have hil:=z4 (by simpa using ek)
    have HWM:Hid (WM (w1.alloc (Y #[U none 0 0] 153)) w.heap.size w1.heap.size (U none 0 0) []):=⟨heap_alloc_new _ _,World.ownsRow_nil _ _ _ _,HB1.out.size⟩
    have HX2:Hid ((w1.alloc (Y #[U none 0 0] 153)).heap[w.heap.size]?=some (Y #[J O e.kind,J Z e.at_,J Z e.depth,J Z e.nv,J Z e.na,U vo e.items.length vc,J Z e.inner] 148 (0,0))):=by show _=_;rw [Below.heap_alloc _ _ _ (lt_of_block HX1.out)];exact HX1.out
    have p0:(w1.alloc (Y #[U none 0 0] 153)).cell? ⟨w.heap.size,0,none⟩=some (J O e.kind):=by rw [cell_of_row _ _ _ _ _ _ HX2.out];rfl
    have p1:(w1.alloc (Y #[U none 0 0] 153)).cell? ⟨w.heap.size,1,none⟩=some (J Z e.at_):=by rw [cell_of_row _ _ _ _ _ _ HX2.out];rfl
    have p2:(w1.alloc (Y #[U none 0 0] 153)).cell? ⟨w.heap.size,2,none⟩=some (J Z e.depth):=by rw [cell_of_row _ _ _ _ _ _ HX2.out];rfl
    have p3:(w1.alloc (Y #[U none 0 0] 153)).cell? ⟨w.heap.size,3,none⟩=some (J Z e.nv):=by rw [cell_of_row _ _ _ _ _ _ HX2.out];rfl
    have p4:(w1.alloc (Y #[U none 0 0] 153)).cell? ⟨w.heap.size,4,none⟩=some (J Z e.na):=by rw [cell_of_row _ _ _ _ _ _ HX2.out];rfl
    have p5:(w1.alloc (Y #[U none 0 0] 153)).cell? ⟨w.heap.size,5,none⟩=some (U vo e.items.length vc):=by rw [cell_of_row _ _ _ _ _ _ HX2.out];rfl
    have p6:(w1.alloc (Y #[U none 0 0] 153)).cell? ⟨w.heap.size,6,none⟩=some (J Z e.inner):=by rw [cell_of_row _ _ _ _ _ _ HX2.out];rfl
    go_wp2_with fail
    refine (Jp w.heap.size w1.heap.size e vo vc _ [] _ HSH.out.k0 HSH.out.k1 HSH.out.n0 HSH.out.n1 HSH.out.il (by simp) HWM.out).mono ?_
    rintro r w3 ⟨rfl,v3,hm3,hv3⟩
    have hlt1:w.heap.size<w1.heap.size:=lt_of_block HX1.out
    have HM3:Hid (WM w3 w.heap.size w1.heap.size v3 (zo K e 0)):=by show WM _ _ _ _ _;simpa [zo] using hm3
    have HK3:Hid (∀ b,b<w1.heap.size->w3.heap[b]?=w1.heap[b]?/\v3.ownBlock≠some b):=fun b hb=>by
     have h1:=hv3.kept b (by simp;omega) (by omega) (by simp [Value.ownBlock])
     exact ⟨h1.1.trans (Below.heap_alloc _ _ _ hb),h1.2⟩
    have HB3:Hid (Below w.heap.size w w3):=(HB1.out.alloc HB1.out.size _).trans (hv3.below HWM.out)
    have HX3:Hid (w3.heap[w.heap.size]?=some (Y #[J O e.kind,J Z e.at_,J Z e.depth,J Z e.nv,J Z e.na,U vo e.items.length vc,J Z e.inner] 148 (0,0))):=by show _=_;rw [(HK3.out _ hlt1).1];exact HX1.out
    have HR3:Hid (w3.ownsRow w.heap.size 5 1 (U wo (atL K e.inner).length wk) (atL K e.inner).length ((atL K e.inner).map (Value.int .u8))):=zh HR1.out (fun b hb=>(HK3.out b (HR1.out.lt b hb).2).1)
    have HD3:Hid (∀ b,(U wo (atL K e.inner).length wk).ownBlock=some b->v3.ownBlock≠some b):=fun b hb=>(HK3.out b (HR1.out.lt b hb).2).2
    have s5:w3.cell? ⟨w.heap.size,5,none⟩=some (U vo e.items.length vc):=by rw [cell_of_row _ _ _ _ _ _ HX3.out];rfl
    clear hm3 hv3 p0 p1 p2 p3 p4 p5 p6 HX2 HWM q0
    go_wp2_with fail
    go_loopg [5,39] e.items.length (fun q a y wr=>∃ (i:Nat) (ao:Option Addr) (ac:Nat) (v':Value),q+i=e.items.length/\a=U ao (zg K e i).length ac/\y=J Z i/\WM wr w.heap.size w1.heap.size v' (zo K e i)/\wr.ownsRow w.heap.size 5 1 (U ao (zg K e i).length ac) (zg K e i).length ((zg K e i).map (Value.int .u8))/\(∀ b,(U ao (zg K e i).length ac).ownBlock=some b->v'.ownBlock≠some b)/\Below w.heap.size w wr/\wr.heap[w.heap.size]?=some (Y #[J O e.kind,J Z e.at_,J Z e.depth,J Z e.nv,J Z e.na,U vo e.items.length vc,J Z e.inner] 148 (0,0)))
    case atStart=>exact ⟨0,wo,wk,v3,by omega,rfl,rfl,HM3.out,HR3.out,HD3.out,HB3.out,HX3.out⟩
    case round =>
     obtain ⟨i,ao,ac,v',hq,rfl,rfl,hm,hrow,hdis,hbel,hxe⟩:=hrel
     have HM:Hid (WM wr w.heap.size w1.heap.size v' (zo K e i)):=hm
     have HR:Hid (wr.ownsRow w.heap.size 5 1 (U ao (zg K e i).length ac) (zg K e i).length ((zg K e i).map (Value.int .u8))):=hrow
     have HD:Hid (∀ b,(U ao (zg K e i).length ac).ownBlock=some b->v'.ownBlock≠some b):=hdis
     have HB:Hid (Below w.heap.size w wr):=hbel
     have HXE:Hid (wr.heap[w.heap.size]?=some (Y #[J O e.kind,J Z e.at_,J Z e.depth,J Z e.nv,J Z e.na,U vo e.items.length vc,J Z e.inner] 148 (0,0))):=hxe
     have hlw:(zg K e i).length<=7000:=by have:=yO K e e.items.length i (by omega);have:=HLT.out;omega
     have hlh:(zo K e i).length<=7000:=by have:=zbm K e e.items.length i (by omega);have:=HLT.out;omega
     have HNB:Hid ((U ao (zg K e i).length ac).ownBlock≠some w1.heap.size):=zs hrow hm.blk (by decide)
     clear hm hrow hdis hbel hxe
     by_cases hlt:i<e.items.length
     ·obtain ⟨x,hx⟩:∃ x,e.items[i]?=some x:=⟨e.items[i],List.getElem?_eq_getElem hlt⟩
      have hi0':(0:Int)<=(i:Int):=by omega
      have hi1':(i:Int)<(e.items.length:Int):=by omega
      rcases HIV.out with ⟨_,h2⟩ | ⟨gi,icap,h1,h2,h3⟩
      ·rw [h2] at hlt;simp at hlt
      ·cases h1
       have hgl:gi<w.heap.size:=hivg gi rfl
       obtain ⟨r0,r1,r2,r3,r4,r5,r6⟩:=h3 i x hx
       have hcg:∀ q,wr.cell? ⟨gi,q,none⟩=w.cell? ⟨gi,q,none⟩:=fun q=>HB.out.cell (p:=⟨gi,q,none⟩) hgl
       rw [<- hcg] at r0 r1 r2 r3 r4 r5 r6
       have hxs:=HSH.out.it x (List.mem_of_getElem? hx)
       obtain ⟨b1,b2,b3,b4,b5,b6,b7,b8⟩:=hxs
       have HZX:Hid (atF (szK (List.map Prod.fst es) j) x.arm<=1000):=HZ3.out i x hx
       have HHD:Hid (zo K e (i+1)=zo K e i++ym e.kind x (zg K e i).length):=by show _=_;simp only [zo,hx]
       have HWD:Hid (zg K e (i+1)=zg K e i++atL K x.arm):=by show _=_;simp only [zg,hx]
       have hla:(zg K e i).length+(atL K x.arm).length<=7000:=by have h9:=yO K e e.items.length (i+1) (by omega);rw [HWD.out,List.length_append] at h9;have:=HLT.out;omega
       have hbx:w.heap.size<wr.heap.size:=lt_of_block HXE.out
       have HXA:Hid ((wr.alloc (Y #[J Z x.at_,J Z x.num,J Z x.pv,J Z x.pl,J Z x.wv,J Z x.wa,J Z x.arm] 155)).heap[w.heap.size]?=some (Y #[J O e.kind,J Z e.at_,J Z e.depth,J Z e.nv,J Z e.na,U (some ⟨gi,0,none⟩) e.items.length vc,J Z e.inner] 148 (0,0))):=by show _=_;rw [Below.heap_alloc _ _ _ hbx];exact HXE.out
       have k0:(wr.alloc (Y #[J Z x.at_,J Z x.num,J Z x.pv,J Z x.pl,J Z x.wv,J Z x.wa,J Z x.arm] 155)).cell? ⟨w.heap.size,0,none⟩=some (J O e.kind):=by rw [cell_of_row _ _ _ _ _ _ HXA.out];rfl
       have HXX:Hid ((wr.alloc (Y #[J Z x.at_,J Z x.num,J Z x.pv,J Z x.pl,J Z x.wv,J Z x.wa,J Z x.arm] 155)).heap[wr.heap.size]?=some (Y #[J Z x.at_,J Z x.num,J Z x.pv,J Z x.pl,J Z x.wv,J Z x.wa,J Z x.arm] 155 (0,0))):=heap_alloc_new wr _
       clear h2 h3 hcg hx
       go_wp2_with fail
       refine (Jo w.heap.size w1.heap.size e.kind x (zg K e i).length v' (zo K e i) _ b1 b2 b3 b4 b5 b6 b7 b8 (by omega) (by omega) (by omega) (HM.out.alloc _)).mono ?_
       rintro r w4 ⟨rfl,v4,hm4,hv4⟩
       have HM4:Hid (WM w4 w.heap.size w1.heap.size v4 (zo K e (i+1))):=by show WM _ _ _ _ _;rw [HHD.out];exact hm4
       have HB4:Hid (Below w.heap.size w w4):=(HB.out.alloc HB.out.size _).trans (hv4.below (HM.out.alloc _))
       have HX4:Hid (w4.heap[w.heap.size]?=some (Y #[J O e.kind,J Z e.at_,J Z e.depth,J Z e.nv,J Z e.na,U (some ⟨gi,0,none⟩) e.items.length vc,J Z e.inner] 148 (0,0))):=by show _=_;rw [(hv4.kept _ (by simp;omega) (by omega) (zs HM.out.row HXE.out (by decide))).1];exact HXA.out
       have HY4:Hid (w4.heap[wr.heap.size]?=some (Y #[J Z x.at_,J Z x.num,J Z x.pv,J Z x.pl,J Z x.wv,J Z x.wa,J Z x.arm] 155 (0,0))):=by show _=_;rw [(hv4.kept _ (by simp) (by have:=HM.out.lt;omega) (fun e'=>by have:=(HM.out.row.lt _ e').2;omega)).1];exact HXX.out
       have HK4:Hid (∀ b,(U ao (zg K e i).length ac).ownBlock=some b->w4.heap[b]?=wr.heap[b]?/\v4.ownBlock≠some b):=fun b hb=>by
        have hbl:=(HR.out.lt b hb).2
        have h1:=hv4.kept b (by simp;omega) (fun e'=>HNB.out (by rw [<- e'];exact hb)) (HD.out b hb)
        exact ⟨h1.1.trans (Below.heap_alloc _ _ _ hbl),h1.2⟩
       have HR4:Hid (w4.ownsRow w.heap.size 5 1 (U ao (zg K e i).length ac) (zg K e i).length ((zg K e i).map (Value.int .u8))):=zh HR.out (fun b hb=>(HK4.out b hb).1)
       have k6:w4.cell? ⟨wr.heap.size,6,none⟩=some (J Z x.arm):=by rw [cell_of_row _ _ _ _ _ _ HY4.out];rfl
       clear hm4 hv4 r0 r1 r2 r3 r4 r5 r6 k0
       go_wp2_with fail
       refine (HENC.out x.arm _ HZX.out (HEV.out.below HB4.out)).mono ?_
       rintro r w' ⟨hw',bo,m,d,rfl,hcall⟩
       subst w'
       have HCALL:=hcall
       clear hcall
       go_wp2_with fail
       refine HCALL.mono ?_
       rintro r w5 ⟨hb5,xo,xk,rfl,hrow5⟩
       have HR5:Hid _:=hrow5
       have HB5:Hid (Below w.heap.size w w5):=HB4.out.trans (hb5.mono HB4.out.size)
       have HX5:Hid (w5.heap[w.heap.size]?=some (Y #[J O e.kind,J Z e.at_,J Z e.depth,J Z e.nv,J Z e.na,U (some ⟨gi,0,none⟩) e.items.length vc,J Z e.inner] 148 (0,0))):=by show _=_;rw [hb5.block _ (lt_of_block HX4.out)];exact HX4.out
       have HW5:Hid (w5.ownsRow w.heap.size 5 1 (U ao (zg K e i).length ac) (zg K e i).length ((zg K e i).map (Value.int .u8))):=zh HR4.out (fun b hb=>hb5.block b (HR4.out.lt b hb).2)
       have HM5:Hid (WM w5 w.heap.size w1.heap.size v4 (zo K e (i+1))):=⟨by rw [hb5.block _ HM4.out.lt];exact HM4.out.blk,zh HM4.out.row (fun b hb=>hb5.block b (HM4.out.row.lt b hb).2),HM4.out.hB⟩
       have hs5:w4.heap.size<=w5.heap.size:=hb5.size
       have HV4:Hid (∀ b,v4.ownBlock=some b->b<w4.heap.size):=fun b hb=>(HM4.out.row.lt b hb).2
       clear hb5 hrow5 HCALL
       have hA1:Hid ((zg K e i).length+(atL K x.arm).length<=maxLen):=by show _<=_;unfold maxLen;omega
       have hA2:Hid (((zg K e i).length+(atL K x.arm).length)*1<=140737488355328):=by show _<=_;omega
       have hA3:Hid (w.heap.size<=w5.heap.size):=HB5.out.size
       go_wp2_with (at_builtin;refine ZP _ rfl _ _ 57 rfl w.heap.size 5 i0 _ 1 1 Tryz.underlying57 hi0 hz0 hz1 hz2 rfl (by decide) (U ao (zg K e i).length ac) _ _ rfl HW5.out w4.heap.size (U xo (atL K x.arm).length xk) _ _ rfl HR5.out (za9 _) hA1.out hA2.out hA3.out w5.heap.size rfl ?_;intro oo cap w6 hown hgrow hat)
       have HM6:Hid (WM w6 w.heap.size w1.heap.size v4 (zo K e (i+1))):=⟨by rw [hgrow.block _ HM5.out.lt (fun e'=>HNB.out e'.symm)];exact HM5.out.blk,zh HM5.out.row (fun b hb=>hgrow.block b (HM5.out.row.lt b hb).2 (fun e'=>(HK4.out b e'.symm).2 hb)),HM5.out.hB⟩
       have HR6:Hid (w6.ownsRow w.heap.size 5 1 (U oo ((zg K e i).length+(atL K x.arm).length) cap) (zg K e (i+1)).length ((zg K e (i+1)).map (Value.int .u8))):=by
        show World.ownsRow _ _ _ _ _ _ _
        rw [HWD.out,List.length_append,List.map_append]
        exact hown
       have HD6:Hid (∀ b,(U oo ((zg K e i).length+(atL K x.arm).length) cap).ownBlock=some b->v4.ownBlock≠some b):=fun b hb=>by
        rcases hat with h9 | h9
        ·rw [h9] at hb;exact (HK4.out b hb).2
        ·rw [h9] at hb
         intro hb2
         have:=HV4.out b hb2
         cases hb
         omega
       have HB6:Hid (Below w.heap.size w w6):=HB5.out.grown hgrow HB5.out.size (fun b hb=>(HR.out.lt b hb).1)
       have HX6:Hid (w6.heap[w.heap.size]?=some (Y #[J O e.kind,J Z e.at_,J Z e.depth,J Z e.nv,J Z e.na,U (some ⟨gi,0,none⟩) e.items.length vc,J Z e.inner] 148 (0,0))):=by show _=_;rw [hgrow.block _ (lt_of_block HX5.out) (fun e'=>zs HW5.out HX5.out (by decide) e'.symm)];exact HX5.out
       clear hown hgrow hat
       go_roundg (gk-1)
       case measure=>omega
       case rel =>
        refine ⟨i+1,oo,cap,v4,by omega,by rw [HWD.out,List.length_append],by go_num,HM6.out,?_,?_,HB6.out,HX6.out⟩
        ·have h9:=HR6.out;rw [HWD.out,List.length_append] at h9 ⊢;exact h9
        ·have h9:=HD6.out;rw [HWD.out,List.length_append];exact h9
     ·have hd:¬ ((i:Int)<(e.items.length:Int)):=by omega
      have hie:i=e.items.length:=by omega
      subst hie
      have c0:=HM.out.c0
      have hA1:Hid ((zo K e e.items.length).length+(zg K e e.items.length).length<=maxLen):=by show _<=_;unfold maxLen;omega
      have hA2:Hid (((zo K e e.items.length).length+(zg K e e.items.length).length)*1<=140737488355328):=by show _<=_;omega
      have hA3:Hid (w.heap.size<=wr.heap.size):=HB.out.size
      go_wp2_with (at_builtin;refine ZP _ rfl _ _ 57 rfl w.heap.size 5 i0 _ 1 1 Tryz.underlying57 hi0 hz0 hz1 hz2 rfl (by decide) v' _ _ rfl HM.out.row w.heap.size (U ao (zg K e e.items.length).length ac) _ _ rfl HR.out (za9 _) hA1.out hA2.out hA3.out wr.heap.size rfl ?_;intro oo cap w6 hown hgrow hat;have zz:w6.frozen? ⟨w1.heap.size,0,none⟩=false:=(hgrow.frozen_far ⟨w1.heap.size,0,none⟩ HM.out.lt (fun e=>HM.out.ne e.symm)).trans (HM.out.fz 0);have cc:w6.cell? ⟨w1.heap.size,0,none⟩=some v':=(hgrow.cell_far ⟨w1.heap.size,0,none⟩ HM.out.lt (fun e=>HM.out.ne e.symm)).trans HM.out.c0)
      have HM7:=HM.out.push (ys:=zg K e e.items.length) (n:=(zo K e e.items.length).length+(zg K e e.items.length).length) (by simp) hgrow (by rw [List.map_append];exact hown)
      have HB7:Below w.heap.size w (w6.setCell ⟨w1.heap.size,0,none⟩ (U oo ((zo K e e.items.length).length+(zg K e e.items.length).length) cap)):=(HB.out.grown hgrow HB.out.size (fun b hb=>(HM.out.row.lt b hb).1)).setCell (by simp only;omega) _
      go_ret
      refine ⟨HB7,oo,cap,by rw [HE.out,List.length_append];rfl,?_⟩
      have h9:=HM7.row
      rw [HE.out]
      rw [List.length_append] at h9 ⊢
      exact h9
end Go.Proofs.YtaebngpoagjafabGreat
