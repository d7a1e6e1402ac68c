import Derived.Test.YtaebngpoagjafabGreatV07
import Derived.RangeFuncBox
import Derived.WalkSmall
set_option maxRecDepth 100000
set_option maxHeartbeats 6400000
namespace Go.Proofs.YtaebngpoagjafabGreat
open Obj renaming cells → Q
open Value renaming int → J, slice → O
open IntKind renaming i64 → Z
open Go.RowKit
attribute [local go_sem ↓] Go.wp_at_zero Go.wp_at_succ
theorem je (base B:Nat) (s:ByteArray) (k p:Nat) (c kd d l:Int) (sv gv:Value) (fs:List FR) (gs:List SG) (w:World) (h:RS w base B s k sv gv fs gs) (hs:s.size<=2000) (hk:k<=s.size) (hpe:T.sk s k=p) (hc:T.ch s p=c)
 (_hlen:fs.length+7<=1099511627776) (_hlen2:gs.length+1<=1099511627776) (hc2:c=44) :
 Calls Tryz.prog 134 #[.pointer (some ⟨B,0,none⟩),frA ⟨260,kd,d,l⟩] w (SP base B s sv gv fs gs w ⟨true,p,[byF 44,⟨259,kd,d,l⟩,⟨260,kd,d,l⟩],[]⟩):=by
 show Calls Tryz.prog 134 #[.pointer (some ⟨B,0,none⟩),.agg #[J Z 260,J Z kd,J Z d,J Z l]] w _
 have hpk:p<=s.size:=by rw [<- hpe];exact T.sk_le hk
 have hpee:=fun (wz:World) (hz:RS wz base B s k sv gv fs gs)=>zF base B s k sv gv fs gs wz hs hk hz
 rw [hpe,hc] at hpee
 have HPE:Hid _:=hpee
 clear hpee
 go_enter Tryz.func134,Tryz.ntmps134
 go_wp2_with fail
 have hA:=h.alloc (Q #[J Z 260,J Z kd,J Z d,J Z l] 193)
 have hF:FB (w.alloc (Q #[J Z 260,J Z kd,J Z d,J Z l] 193)) w.heap.size ⟨260,kd,d,l⟩:=⟨by simp,by simp,by simp,by simp⟩
 have hou:=h.outNew
 have hwl:w.heap.size<(w.alloc (Q #[J Z 260,J Z kd,J Z d,J Z l] 193)).heap.size:=by simp
 have hmv:Mv base B sv gv sv gv w (w.alloc (Q #[J Z 260,J Z kd,J Z d,J Z l] 193)):=Mv.alloc h.bs _
 refine (HPE.out _ hA).mono ?_
 rintro e w1 ⟨rfl,hr1,hm1⟩
 have hk1:=hm1.kept w.heap.size hwl hou
 have hF1:=hF.of_block hk1.1
 have hwl1:w.heap.size<w1.heap.size:=Nat.lt_of_lt_of_le hwl hm1.bel.size
 have HM1:Hid (Mv base B sv gv sv gv w w1):=hmv.trans hm1
 have HR1:Hid _:=hr1
 have HF1:Hid _:=hF1
 have b0:w1.cell? ⟨w.heap.size,0,none⟩=some (J Z 260):=hF1.c0
 clear hmv hm1 hA hF hwl hr1 hk1 h hF1
 have hcc:(c==44)=true:=by rw [hc2];decide
 have b1:w1.cell? ⟨w.heap.size,1,none⟩=some (J Z kd):=HF1.out.c1
 have b2:w1.cell? ⟨w.heap.size,2,none⟩=some (J Z d):=HF1.out.c2
 have b3:w1.cell? ⟨w.heap.size,3,none⟩=some (J Z l):=HF1.out.c3
 go_wp2_with fail
 have HR2:Hid (RS (w1.alloc (Q #[J Z 259,J Z kd,J Z d,J Z l] 193)) base B s p sv gv fs gs):=HR1.out.alloc _
 have HM2:Hid (Mv base B sv gv sv gv w (w1.alloc (Q #[J Z 259,J Z kd,J Z d,J Z l] 193))):=HM1.out.trans (Mv.alloc HR1.out.bs _)
 have hF2:FB (w1.alloc (Q #[J Z 259,J Z kd,J Z d,J Z l] 193)) w.heap.size ⟨260,kd,d,l⟩:=HF1.out.of_block (Below.heap_alloc _ _ _ hwl1)
 clear b0 b1 b2 b3 HF1
 have b0:(w1.alloc (Q #[J Z 259,J Z kd,J Z d,J Z l] 193)).cell? ⟨w.heap.size,0,none⟩=some (J Z 260):=hF2.c0
 have b1:(w1.alloc (Q #[J Z 259,J Z kd,J Z d,J Z l] 193)).cell? ⟨w.heap.size,1,none⟩=some (J Z kd):=hF2.c1
 have b2:(w1.alloc (Q #[J Z 259,J Z kd,J Z d,J Z l] 193)).cell? ⟨w.heap.size,2,none⟩=some (J Z d):=hF2.c2
 have b3:(w1.alloc (Q #[J Z 259,J Z kd,J Z d,J Z l] 193)).cell? ⟨w.heap.size,3,none⟩=some (J Z l):=hF2.c3
 have e0:(w1.alloc (Q #[J Z 259,J Z kd,J Z d,J Z l] 193)).cell? ⟨w1.heap.size,0,none⟩=some (J Z 259):=by simp
 have e1:(w1.alloc (Q #[J Z 259,J Z kd,J Z d,J Z l] 193)).cell? ⟨w1.heap.size,1,none⟩=some (J Z kd):=by simp
 have e2:(w1.alloc (Q #[J Z 259,J Z kd,J Z d,J Z l] 193)).cell? ⟨w1.heap.size,2,none⟩=some (J Z d):=by simp
 have e3:(w1.alloc (Q #[J Z 259,J Z kd,J Z d,J Z l] 193)).cell? ⟨w1.heap.size,3,none⟩=some (J Z l):=by simp
 have hz:w1.heap.size<(w1.alloc (Q #[J Z 259,J Z kd,J Z d,J Z l] 193)).heap.size:=by simp
 clear hF2
 generalize w1.alloc (Q #[J Z 259,J Z kd,J Z d,J Z l] 193)=w2 at *
 have hz':w.heap.size<w2.heap.size:=by omega
 have hoI:Out B sv gv w1.heap.size:=HR1.out.outNew
 have hkeepB:Hid (∀ (wz:World),Below w2.heap.size w2 wz->wz.cell? ⟨w.heap.size,0,none⟩=some (J Z 260)/\wz.cell? ⟨w.heap.size,1,none⟩=some (J Z kd)/\wz.cell? ⟨w.heap.size,2,none⟩=some (J Z d)/\wz.cell? ⟨w.heap.size,3,none⟩=some (J Z l)/\wz.cell? ⟨w1.heap.size,0,none⟩=some (J Z 259)/\wz.cell? ⟨w1.heap.size,1,none⟩=some (J Z kd)/\wz.cell? ⟨w1.heap.size,2,none⟩=some (J Z d)/\wz.cell? ⟨w1.heap.size,3,none⟩=some (J Z l)):=by
  intro wz hb
  exact ⟨(hb.cell (p:=⟨w.heap.size,0,none⟩) hz').trans b0,(hb.cell (p:=⟨w.heap.size,1,none⟩) hz').trans b1,(hb.cell (p:=⟨w.heap.size,2,none⟩) hz').trans b2,(hb.cell (p:=⟨w.heap.size,3,none⟩) hz').trans b3,(hb.cell (p:=⟨w1.heap.size,0,none⟩) hz).trans e0,(hb.cell (p:=⟨w1.heap.size,1,none⟩) hz).trans e1,(hb.cell (p:=⟨w1.heap.size,2,none⟩) hz).trans e2,(hb.cell (p:=⟨w1.heap.size,3,none⟩) hz).trans e3⟩
 have hkeep:Hid (∀ (wz w':World) (sv' gv':Value),Below w2.heap.size w2 wz->Mv base B sv gv sv' gv' wz w'->w'.cell? ⟨w.heap.size,0,none⟩=some (J Z 260)/\w'.cell? ⟨w.heap.size,1,none⟩=some (J Z kd)/\w'.cell? ⟨w.heap.size,2,none⟩=some (J Z d)/\w'.cell? ⟨w.heap.size,3,none⟩=some (J Z l)/\w'.cell? ⟨w1.heap.size,0,none⟩=some (J Z 259)/\w'.cell? ⟨w1.heap.size,1,none⟩=some (J Z kd)/\w'.cell? ⟨w1.heap.size,2,none⟩=some (J Z d)/\w'.cell? ⟨w1.heap.size,3,none⟩=some (J Z l)):=by
  intro wz w' sv' gv' hb hm
  have q:=hkeepB.out wz hb
  have eI:w'.heap[w1.heap.size]?=wz.heap[w1.heap.size]?:=(hm.kept _ (Nat.lt_of_lt_of_le hz hb.size) hoI).1
  have eF:w'.heap[w.heap.size]?=wz.heap[w.heap.size]?:=(hm.kept _ (Nat.lt_of_lt_of_le hz' hb.size) hou).1
  exact ⟨by rw [World.cell?_of_block (w:=wz) eF];exact q.1,by rw [World.cell?_of_block (w:=wz) eF];exact q.2.1,by rw [World.cell?_of_block (w:=wz) eF];exact q.2.2.1,by rw [World.cell?_of_block (w:=wz) eF];exact q.2.2.2.1,by rw [World.cell?_of_block (w:=wz) eI];exact q.2.2.2.2.1,by rw [World.cell?_of_block (w:=wz) eI];exact q.2.2.2.2.2.1,by rw [World.cell?_of_block (w:=wz) eI];exact q.2.2.2.2.2.2.1,by rw [World.cell?_of_block (w:=wz) eI];exact q.2.2.2.2.2.2.2⟩
 go_region_held3 (fun w'=>w'.cell? ⟨w.heap.size,0,none⟩=some (J Z 260)/\w'.cell? ⟨w.heap.size,1,none⟩=some (J Z kd)/\w'.cell? ⟨w.heap.size,2,none⟩=some (J Z d)/\w'.cell? ⟨w.heap.size,3,none⟩=some (J Z l)/\w'.cell? ⟨w1.heap.size,0,none⟩=some (J Z 259)/\w'.cell? ⟨w1.heap.size,1,none⟩=some (J Z kd)/\w'.cell? ⟨w1.heap.size,2,none⟩=some (J Z d)/\w'.cell? ⟨w1.heap.size,3,none⟩=some (J Z l)) (first | (refine hkeepB.out _ ?_;(repeat (first | exact Below.refl _ _ | refine Below.drew ?_ | refine Below.alloc ?_ (by simp<;>omega) _));done) | (refine hkeep.out _ _ _ _ ?_ hm;(repeat (first | exact Below.refl _ _ | refine Below.drew ?_ | refine Below.alloc ?_ (by simp<;>omega) _));done)) (first | (go_at_call 162;refine (zC _ _ (by omega) (by omega)).mono ?_;rintro e w' ⟨rfl,rfl⟩) | (go_at_call 133;refine (yA base B _ _ s p sv gv fs [byF 44,⟨259,kd,d,l⟩,⟨260,kd,d,l⟩] gs _ _ (HR2.out.alloc _) (by simp) (by rfl) (by simp;omega) _ rfl).mono ?_;rintro e w' ⟨rfl,sv',hr,hm⟩))
 all_goals
  have HR3:Hid _:=hr
  have HM3:Hid (Mv base B sv gv sv' gv w w'):=(HM2.out.trans (Mv.alloc HR2.out.bs _)).trans hm
  clear hr hm
  go_wp2_with fail
  go_ret
  exact ⟨rfl,sv',gv,HR3.out,HM3.out⟩
theorem T.ch_pos {s:ByteArray} {k:Nat} (h:0<=T.ch s k):k<s.size:=by
 by_cases hk:k<s.size
 ·exact hk
 ·rw [T.ch_ge hk] at h;omega
theorem zaL (base B:Nat) (s:ByteArray) (k:Nat) (f:FR) (sv gv:Value) (fs:List FR) (gs:List SG) (w:World) (h:RS w base B s k sv gv fs gs) (hs:s.size<=2000) (hk:k<=s.size)
 (hlen:fs.length+7<=1099511627776) (hlen2:gs.length+1<=1099511627776) (hsy:0<=f.sym) (d0:0<=f.depth) (d1:f.depth<=1000000) :
 Calls Tryz.prog 134 #[.pointer (some ⟨B,0,none⟩),frA f] w (SP base B s sv gv fs gs w (zl s k f)):=by
 obtain ⟨sy,kd,d,l⟩:=f
 simp only at hsy d0 d1
 by_cases h0:sy=256
 ·subst h0
  exact Jt base B s k _ _ kd d l sv gv fs gs w h hs hk rfl rfl hlen hlen2
 by_cases h1:sy=257
 ·subst h1
  by_cases hc:T.ch s (T.sk s k)=59
  ·have e:zl s k ⟨257,kd,d,l⟩=⟨true,T.sk s k,[byF 59,⟨256,0,0,0⟩,⟨257,0,0,0⟩],[]⟩:=by simp [zl,hc]
   rw [e];exact Ju base B s k _ _ kd d l sv gv fs gs w h hs hk rfl rfl hlen hlen2 hc
  ·have e:zl s k ⟨257,kd,d,l⟩=⟨true,T.sk s k,[],[]⟩:=by simp [zl,hc]
   rw [e];exact qK base B s k _ _ kd d l sv gv fs gs w h hs hk rfl rfl hlen hlen2 hc
 by_cases h2:sy=258
 ·subst h2
  exact Jw base B s k _ _ kd d l sv gv fs gs w h hs hk rfl rfl hlen hlen2 d0 d1 _ rfl
 by_cases h3:sy=259
 ·subst h3
  exact Jv base B s k _ _ kd d l sv gv fs gs w h hs hk rfl rfl hlen hlen2 d0 d1
 by_cases h4:sy=260
 ·subst h4
  by_cases hc:T.ch s (T.sk s k)=44
  ·have e:zl s k ⟨260,kd,d,l⟩=⟨true,T.sk s k,[byF 44,⟨259,kd,d,l⟩,⟨260,kd,d,l⟩],[]⟩:=by simp [zl,hc]
   rw [e];exact je base B s k _ _ kd d l sv gv fs gs w h hs hk rfl rfl hlen hlen2 hc
  ·have e:zl s k ⟨260,kd,d,l⟩=⟨true,T.sk s k,[],[]⟩:=by simp [zl,hc]
   rw [e];exact qa base B s k _ _ kd d l sv gv fs gs w h hs hk rfl rfl hlen hlen2 hc
 by_cases h5:sy=261
 ·subst h5
  exact zaK base B s k _ _ kd d l sv gv fs gs w h hs hk rfl rfl hlen hlen2 _ rfl
 by_cases h6:sy=262
 ·subst h6
  exact step_bits base B s k _ _ kd d l sv gv fs gs w h hs hk rfl rfl hlen hlen2 _ rfl
 by_cases h7:sy=263
 ·subst h7
  by_cases hl:T.ch s (T.sk s k)<97
  ·have e:zl s k ⟨263,kd,d,l⟩=⟨false,T.sk s k,[],[]⟩:=by simp [zl];omega
   rw [e];exact XC base B s k _ _ kd d l sv gv fs gs w h hs hk rfl rfl hlen hlen2 hl
  ·by_cases hh:122<T.ch s (T.sk s k)
   ·have e:zl s k ⟨263,kd,d,l⟩=⟨false,T.sk s k,[],[]⟩:=by simp [zl];omega
    rw [e];exact XD base B s k _ _ kd d l sv gv fs gs w h hs hk rfl rfl hlen hlen2 hh
   ·have e:zl s k ⟨263,kd,d,l⟩=⟨true,T.sk s k+1,[],[⟨kd,T.sk s k,d,l,s.extract (T.sk s k) (T.sk s k+1)⟩]⟩:=by simp [zl];omega
    rw [e];exact Qq base B s k _ _ kd d l sv gv fs gs w h hs hk rfl rfl hlen hlen2 (by omega) (by omega) (T.ch_pos (by omega))
 have hn:sy≠256/\sy≠257/\sy≠258/\sy≠259/\sy≠260/\sy≠261/\sy≠262/\sy≠263:=⟨h0,h1,h2,h3,h4,h5,h6,h7⟩
 by_cases hc:T.ch s (T.sk s k)=sy
 ·have e:zl s k ⟨sy,kd,d,l⟩=⟨true,T.sk s k+1,[],[]⟩:=by simp [zl,hn,hc]
  rw [e];exact Jx base B s k _ _ kd d l sv gv fs gs w h hs hk rfl rfl hlen hlen2 sy hn hc (T.ch_pos (by omega))
 ·have e:zl s k ⟨sy,kd,d,l⟩=⟨false,T.sk s k,[],[]⟩:=by simp [zl,hn,hc]
  rw [e];exact qL base B s k _ _ kd d l sv gv fs gs w h hs hk rfl rfl hlen hlen2 sy hn hc
theorem T.dig_lt {s:ByteArray} {k:Nat} (h:T.dig (T.ch s k)=true):k<s.size:=by
 by_cases hk:k<s.size
 ·exact hk
 ·rw [T.ch_ge hk] at h;simp [T.dig] at h
theorem T.ch_nn {s:ByteArray} {k:Nat} (h:0<=T.ch s k):k<s.size:=by
 by_cases hk:k<s.size
 ·exact hk
 ·rw [T.ch_ge hk] at h;omega
theorem T.dgF_bd (s:ByteArray) (most lim:Int) (plain:Bool) (p:Nat):∀ n j,j<=s.size->j<=(T.dgF s most lim plain p n j).2/\(T.dgF s most lim plain p n j).2<=s.size:=by
 intro n
 induction n with
 | zero=>intro j h;exact ⟨Nat.le_refl _,h⟩
 | succ n ih =>
  intro j h
  cases hd:T.dig (T.ch s j) with
  | false=>rw [T.dgF_end hd];exact ⟨Nat.le_refl _,h⟩
  | true =>
   cases hs:T.stp most lim plain (T.ch s j) ((j:Int)-p) (T.ch s p) with
   | true=>rw [T.dgF_stop hd hs];exact ⟨Nat.le_refl _,h⟩
   | false =>
    rw [T.dgF_next hd hs]
    have:=ih (j+1) (T.dig_lt hd)
    exact ⟨by omega,this.2⟩
theorem T.dg_bd (s:ByteArray) (most lim:Int) (plain:Bool) (p:Nat) (h:p<=s.size):p<=(T.dg s most lim plain p).2/\(T.dg s most lim plain p).2<=s.size:=T.dgF_bd s most lim plain p _ p h
def q9 (f:FR):Prop:=0<=f.sym/\f.sym≠256/\f.sym≠257/\f.sym≠258/\f.sym≠259/\f.sym≠260
def Fst (l:List FR) (d:Int):Prop:=l=[]\/∃ f r,l=f::r/\q9 f/\r.length<=6/\(∀ g∈l,0<=g.sym/\0<=g.depth/\g.depth<=d+1)
structure SF (s:ByteArray) (k:Nat) (f:FR) (r:Res):Prop where
 lo:k<=r.at_
 hi:r.at_<=s.size
 sg:r.sg.length<=1
 fst:Fst r.push f.depth
 no:r.ok=false->r.push=[]/\r.sg=[]
 lf:q9 f->r.push=[]/\(r.ok=true->k+1<=r.at_)
theorem ZW {c:Int} (h:0<=c) (h2:c<256):q9 (byF c):=⟨h,by show c≠256;omega,by show c≠257;omega,by show c≠258;omega,by show c≠259;omega,by show c≠260;omega⟩
theorem zac (d:Int) (p:Nat) (c:Int) (l:List FR) (hd:0<=d) (h:ZT d p c=some l):Fst l d:=by
 have key:∀ (c0:Int) (r:List FR),0<=c0->c0<256->r.length<=6->(∀ g∈r,0<=g.sym/\0<=g.depth/\g.depth<=d+1)->Fst (byF c0::r) d:=fun c0 r h0 h1 h2 h3 =>
  .inr ⟨byF c0,r,rfl,ZW h0 h1,h2,by
   intro g hg
   rcases List.mem_cons.1 hg with rfl | hg
   ·exact ⟨h0,by show (0:Int)<=0;omega,by show (0:Int)<=d+1;omega⟩
   ·exact h3 g hg⟩
 unfold ZT at h
 repeat' split at h
 all_goals first
  | (simp at h;done)
  | (injection h with h;subst h;refine key _ _ (by omega) (by omega) (by simp) ?_;simp [byF];omega)
theorem JZ (f:FR) (hd:0<=f.depth):Fst (Zh f) f.depth:=by
 have key:∀ (f0:FR) (r:List FR),q9 f0->r.length<=6->(∀ g∈f0::r,0<=g.sym/\0<=g.depth/\g.depth<=f.depth+1)->Fst (f0::r) f.depth:=fun f0 r h0 h2 h3=>.inr ⟨f0,r,rfl,h0,h2,h3⟩
 unfold Zh
 repeat' split
 all_goals (refine key _ _ (by simp [q9]) (by simp) ?_;simp [byF];try omega)
theorem xm (s:ByteArray) (k:Nat) (f:FR) (hk:k<=s.size) (hs:0<=f.sym) (hd:0<=f.depth):SF s k f (zl s k f):=by
 have h1:=T.sk_ge s k
 have h2:=T.sk_le hk
 unfold zl
 generalize T.sk s k=p at *
 simp only
 split
 ·next e=>exact ⟨h1,h2,by simp,.inr ⟨_,_,rfl,by simp [q9],by simp,by simp [byF];omega⟩,by simp,fun hl=>absurd e hl.2.1⟩
 ·split
  ·next e =>
   split
   ·exact ⟨h1,h2,by simp,.inr ⟨_,_,rfl,ZW (by omega) (by omega),by simp,by simp [byF];omega⟩,by simp,fun hl=>absurd e hl.2.2.1⟩
   ·exact ⟨h1,h2,by simp,.inl rfl,by simp,fun hl=>absurd e hl.2.2.1⟩
  ·split
   ·next e =>
    split
    ·next l hl=>exact ⟨h1,h2,by simp,zac _ _ _ _ hd hl,by simp,fun hl=>absurd e hl.2.2.2.1⟩
    ·exact ⟨h1,h2,by simp,.inl rfl,by simp,fun hl=>absurd e hl.2.2.2.1⟩
   ·split
    ·next e=>exact ⟨h1,h2,by simp,JZ f hd,by simp,fun hl=>absurd e hl.2.2.2.2.1⟩
    ·split
     ·next e =>
      split
      ·exact ⟨h1,h2,by simp,.inr ⟨_,_,rfl,ZW (by omega) (by omega),by simp,by simp [byF];omega⟩,by simp,fun hl=>absurd e hl.2.2.2.2.2⟩
      ·exact ⟨h1,h2,by simp,.inl rfl,by simp,fun hl=>absurd e hl.2.2.2.2.2⟩
     ·split
      ·have:=T.dg_bd s 9 58 true p h2
       split
       ·next hc=>simp at hc;exact ⟨by show k<=(T.dg s 9 58 true p).2;omega,this.2,by simp,.inl rfl,by simp,fun _=>⟨rfl,fun _=>by show k+1<=(T.dg s 9 58 true p).2;omega⟩⟩
       ·exact ⟨by show k<=(T.dg s 9 58 true p).2;omega,this.2,by simp,.inl rfl,by simp,fun _=>⟨rfl,by simp⟩⟩
      ·split
       ·have:=T.dg_bd s 32 50 false p h2
        split
        ·next hc=>simp at hc;exact ⟨by show k<=(T.dg s 32 50 false p).2;omega,this.2,by simp,.inl rfl,by simp,fun _=>⟨rfl,fun _=>by show k+1<=(T.dg s 32 50 false p).2;omega⟩⟩
        ·exact ⟨by show k<=(T.dg s 32 50 false p).2;omega,this.2,by simp,.inl rfl,by simp,fun _=>⟨rfl,by simp⟩⟩
       ·split
        ·split
         ·next hc =>
          have:=T.ch_nn (s:=s) (k:=p) (by omega)
          exact ⟨by show k<=p+1;omega,by show p+1<=s.size;omega,by simp,.inl rfl,by simp,fun _=>⟨rfl,fun _=>by show k+1<=p+1;omega⟩⟩
         ·exact ⟨h1,h2,by simp,.inl rfl,by simp,fun _=>⟨rfl,by simp⟩⟩
        ·split
         ·next hc =>
          have:=T.ch_nn (s:=s) (k:=p) (by omega)
          exact ⟨by show k<=p+1;omega,by show p+1<=s.size;omega,by simp,.inl rfl,by simp,fun _=>⟨rfl,fun _=>by show k+1<=p+1;omega⟩⟩
         ·exact ⟨h1,h2,by simp,.inl rfl,by simp,fun _=>⟨rfl,by simp⟩⟩
def Y2 (s:ByteArray):Nat->Nat->List FR->List SG->Option (Bool×Nat×List SG)
 | _,k,[],gs=>some (true,k,gs)
 | 0,_,_::_,_=>none
 | n+1,k,f::fs,gs =>
  if (zl s k f).ok=true then Y2 s n (zl s k f).at_ ((zl s k f).push++fs) ((zl s k f).sg++gs) else some (false,(zl s k f).at_,[])
structure PR where
 ok:Bool
 at_:Nat
 sg:List SG
 n:Nat
def pL (one:Nat->FR->Option PR):Nat->List FR->Option PR
 | k,[]=>some ⟨true,k,[],0⟩
 | k,f::fs=>match one k f with
  | none=>none
  | some a=>if a.ok=true then (match pL one a.at_ fs with
   | none=>none
   | some b=>some ⟨b.ok,b.at_,b.sg++a.sg,a.n+b.n⟩) else some a
def pF (s:ByteArray):Nat->Nat->FR->Option PR
 | 0,_,_=>none
 | n+1,k,f =>
  if (zl s k f).ok=true then (match pL (pF s n) (zl s k f).at_ (zl s k f).push with
   | none=>none
   | some q=>some ⟨q.ok,q.at_,q.sg++(zl s k f).sg,q.n+1⟩) else some ⟨false,(zl s k f).at_,[],1⟩
def zb7 (s:ByteArray) (q:PR) (k:Nat) (l:List FR):Prop:=∀ N fs gs,Y2 s (N+q.n) k (l++fs) gs=if q.ok=true then Y2 s N q.at_ fs (q.sg++gs) else some (false,q.at_,[])
theorem QA (s:ByteArray) (one:Nat->FR->Option PR) (h1:∀ k f q,one k f=some q->zb7 s q k [f]):∀ (l:List FR) (k:Nat) (q:PR),pL one k l=some q->zb7 s q k l:=by
 intro l
 induction l with
 | nil =>
  intro k q h
  simp only [pL] at h
  injection h with h
  subst h
  intro N fs gs
  simp
 | cons f r ih =>
  intro k q h N fs gs
  simp only [pL] at h
  split at h
  ·simp at h
  ·next a ha =>
   have hA:=h1 k f a ha
   split at h
   ·next hok =>
    split at h
    ·simp at h
    ·next b hb =>
     injection h with h
     subst h
     have hB:=ih a.at_ b hb
     have e:=hA (N+b.n) (r++fs) gs
     rw [if_pos hok] at e
     simp only [List.cons_append,List.nil_append] at e ⊢
     rw [show N+(a.n+b.n)=N+b.n+a.n from by omega,e,hB,List.append_assoc]
   ·next hok =>
    injection h with h
    subst h
    have e:=hA N (r++fs) gs
    simpa [hok] using e
theorem za5 (s:ByteArray):∀ (n k:Nat) (f:FR) (q:PR),pF s n k f=some q->zb7 s q k [f]:=by
 intro n
 induction n with
 | zero=>intro k f q h;simp [pF] at h
 | succ n ih =>
  intro k f q h N fs gs
  simp only [pF] at h
  split at h
  ·next hok =>
   split at h
   ·simp at h
   ·next b hb =>
    injection h with h
    subst h
    have hB:=QA s (pF s n) ih _ _ _ hb
    have e:=hB N fs ((zl s k f).sg++gs)
    simp only [List.cons_append,List.nil_append]
    rw [show N+(b.n+1)=(N+b.n)+1 from by omega,Y2,if_pos hok,e,List.append_assoc]
  ·next hok =>
   injection h with h
   subst h
   simp only [List.cons_append,List.nil_append,Y2,hok]
   simp
structure zd4 (s:ByteArray) (k:Nat) (q:PR) (c:Nat):Prop where
 lo:k<=q.at_
 hi:q.at_<=s.size
 yes:q.ok=true->q.n+c<=16*(q.at_-k)+1
 no:q.ok=false->q.n<=16*(s.size-k)+4
theorem j8 (s:ByteArray) (one:Nat->FR->Option PR) (k0:Nat) (h1:∀ k f,k0<=k->k<=s.size->0<=f.sym->0<=f.depth->∃ q,one k f=some q/\zd4 s k q 0) :
 ∀ (l:List FR) (k:Nat),k0<=k->k<=s.size->(∀ f∈l,0<=f.sym/\0<=f.depth)->∃ q,pL one k l=some q/\k<=q.at_/\q.at_<=s.size/\(q.ok=true->q.n<=16*(q.at_-k)+l.length)/\(q.ok=false->q.n<=16*(s.size-k)+4+l.length):=by
 intro l
 induction l with
 | nil=>intro k hk0 hk _;exact ⟨_,rfl,Nat.le_refl _,hk,by simp,by simp⟩
 | cons f r ih =>
  intro k hk0 hk hl
  obtain ⟨a,ha,hA⟩:=h1 k f hk0 hk (hl f (by simp)).1 (hl f (by simp)).2
  have:=hA.lo
  have:=hA.hi
  cases hok:a.ok with
  | false =>
   refine ⟨a,by simp [pL,ha,hok],by omega,by omega,by simp [hok],fun _=>?_⟩
   have:=hA.no hok
   omega
  | true =>
   obtain ⟨b,hb,b1,b2,b3,b4⟩:=ih a.at_ (by omega) (by omega) (fun g hg=>hl g (by simp [hg]))
   have h3:=hA.yes hok
   refine ⟨⟨b.ok,b.at_,b.sg++a.sg,a.n+b.n⟩,by simp [pL,ha,hok,hb],by simp only;omega,b2,?_,?_⟩
   ·intro hbo
    have:=b3 hbo
    simp only [List.length_cons]
    omega
   ·intro hbo
    have:=b4 hbo
    simp only [List.length_cons]
    omega
theorem zcu (s:ByteArray):∀ (n k:Nat) (f:FR),k<=s.size->0<=f.sym->0<=f.depth->2*(s.size-k)+2<=n->∃ q,pF s n k f=some q/\zd4 s k q 0/\(q9 f->q.ok=true->k+1<=q.at_/\q.n=1):=by
 intro n
 induction n using Nat.strongRecOn with
 | ind n ih =>
  intro k f hk hs hd hn
  cases n with
  | zero=>omega
  | succ n =>
   have hS:=xm s k f hk hs hd
   cases hok:(zl s k f).ok with
   | false =>
    refine ⟨⟨false,(zl s k f).at_,[],1⟩,by simp [pF,hok],⟨hS.lo,hS.hi,by simp,by intro _;simp only;omega⟩,by simp⟩
   | true =>
    have hlo:=hS.lo
    have hhi:=hS.hi
    rcases hS.fst with hp | ⟨f0,r,hp,hlf,hr,hall⟩
    ·refine ⟨⟨true,(zl s k f).at_,(zl s k f).sg,1⟩,by simp [pF,hok,hp,pL],⟨hS.lo,hS.hi,by intro _;simp only;omega,by simp⟩,fun hl _=>⟨(hS.lf hl).2 hok,rfl⟩⟩
    ·have hnl:¬ q9 f:=fun hl=>by have:=(hS.lf hl).1;rw [hp] at this;simp at this
     have hf0:=hall f0 (by rw [hp];simp)
     cases n with
     | zero=>omega
     | succ m =>
     -- the q9
     have hS0:=xm s (zl s k f).at_ f0 hS.hi hf0.1 hf0.2.1
     have hp0:=(hS0.lf hlf).1
     cases hok0:(zl s (zl s k f).at_ f0).ok with
     | false =>
      refine ⟨⟨false,(zl s (zl s k f).at_ f0).at_,(zl s k f).sg,2⟩,by rw [pF,if_pos hok,hp];simp [pL,pF,hok0],⟨by have:=hS0.lo;simp only;omega,hS0.hi,by simp,by intro _;simp only;omega⟩,fun hl=>absurd hl hnl⟩
     | true =>
      have hk1:=(hS0.lf hlf).2 hok0
      have hk2:=hS0.hi
      have e0:pF s (m+1) (zl s k f).at_ f0=some ⟨true,(zl s (zl s k f).at_ f0).at_,(zl s (zl s k f).at_ f0).sg,1⟩:=by rw [pF,if_pos hok0,hp0];simp [pL]
      obtain ⟨b,hb,b1,b2,b3,b4⟩:=j8 s (pF s (m+1)) (zl s (zl s k f).at_ f0).at_ (fun k' g h1 h2 h3 h4=>by
       obtain ⟨q,hq,hE,_⟩:=ih (m+1) (by omega) k' g h2 h3 h4 (by omega)
       exact ⟨q,hq,hE⟩) r (zl s (zl s k f).at_ f0).at_ (Nat.le_refl _) hk2 (fun g hg=>by have:=hall g (by rw [hp];simp [hg]);exact ⟨this.1,this.2.1⟩)
      refine ⟨⟨b.ok,b.at_,b.sg++(zl s (zl s k f).at_ f0).sg++(zl s k f).sg,1+b.n+1⟩,by rw [pF,if_pos hok,hp];simp [pL,e0,hb],⟨by simp only;omega,b2,?_,?_⟩,fun hl=>absurd hl hnl⟩
      ·intro hbo
       have:=b3 hbo
       simp only
       omega
      ·intro hbo
       have:=b4 hbo
       simp only
       omega
def rd0 (s:ByteArray):Option PR:=pL (pF s (2*s.size+2)) 0 [⟨256,0,0,0⟩,⟨257,0,0,0⟩]
theorem Qy (s:ByteArray):∃ q,rd0 s=some q/\q.at_<=s.size/\q.n<=16*s.size+6/\Y2 s q.n 0 [⟨256,0,0,0⟩,⟨257,0,0,0⟩] []=some (q.ok,q.at_,if q.ok=true then q.sg else []):=by
 obtain ⟨q,hq,h1,h2,h3,h4⟩:=j8 s (pF s (2*s.size+2)) 0 (fun k f _ h2 h3 h4=>by
  obtain ⟨q,hq,hE,_⟩:=zcu s (2*s.size+2) k f h2 h3 h4 (by omega)
  exact ⟨q,hq,hE⟩) [⟨256,0,0,0⟩,⟨257,0,0,0⟩] 0 (Nat.le_refl _) (Nat.zero_le _) (by simp)
 have hA:=QA s _ (fun k f q h=>za5 s _ k f q h) _ _ _ hq
 have e:=hA 0 [] []
 simp only [List.append_nil,Nat.zero_add] at e
 refine ⟨q,hq,h2,?_,?_⟩
 ·cases hok:q.ok with
  | true=>have:=h3 hok;simp only [List.length_cons,List.length_nil] at this;omega
  | false=>have:=h4 hok;simp only [List.length_cons,List.length_nil] at this;omega
 ·rw [e]
  cases hok:q.ok<;>simp [Y2]
theorem zQ {b:Nat} {w w':World} (h:Below b w w') (n:Nat):Below b w (w'.drewN n):=⟨h.os,h.tape,h.output,h.size,h.block⟩
theorem RS.pop {w:World} {base B s k gv f fs gs g cap} (h:RS w base B s k (O (some ⟨g,0,none⟩) (fs.length+1) cap) gv (f::fs) gs) :
 RS (w.setCell ⟨B,2,none⟩ (O (some ⟨g,0,none⟩) fs.length cap)) base B s k (O (some ⟨g,0,none⟩) fs.length cap) gv fs gs :=
 ⟨xP h.blk,ownsRow_setCell_other (ownsRow_pop (Je fs) h.st) (show (O (some ⟨g,0,none⟩) fs.length cap).ownBlock≠some B from h.neS) _,ownsRow_setCell_other h.sg h.neG _,h.hB⟩
theorem RS.top {w:World} {base B s k gv f fs gs g cap} (h:RS w base B s k (O (some ⟨g,0,none⟩) (fs.length+1) cap) gv (f::fs) gs) :
 w.cell? ⟨g,fs.length*4,none⟩=some (J Z f.sym)/\w.cell? ⟨g,fs.length*4+1,none⟩=some (J Z f.kind)/\w.cell? ⟨g,fs.length*4+2,none⟩=some (J Z f.depth)/\w.cell? ⟨g,fs.length*4+3,none⟩=some (J Z f.list):=by
 have hc:=fun j hj=>World.ownsRow.cellAt h.st j hj
 have hl:=Je fs
 have hg:∀ i,i<4->(frC (f::fs))[fs.length*4+i]?=(frV f)[i]?:=fun i hi=>by
  show (frC fs++frV f)[fs.length*4+i]?=_
  rw [List.getElem?_append_right (by omega)]
  congr 1;omega
 have k0:=(hc (fs.length*4) (by show _<(fs.length+1)*4;omega)).trans (hg 0 (by omega))
 have k1:=(hc (fs.length*4+1) (by show _<(fs.length+1)*4;omega)).trans (hg 1 (by omega))
 have k2:=(hc (fs.length*4+2) (by show _<(fs.length+1)*4;omega)).trans (hg 2 (by omega))
 have k3:=(hc (fs.length*4+3) (by show _<(fs.length+1)*4;omega)).trans (hg 3 (by omega))
 exact ⟨k0,k1,k2,k3⟩
theorem RS.nil {w:World} {base B s k sv gv gs} (h:RS w base B s k sv gv [] gs):∃ o cap,sv=O o 0 cap:=by
 rcases h.st.2 with ⟨rfl,_⟩ | ⟨g,cap,cur,rfl,_⟩
 ·exact ⟨none,0,rfl⟩
 ·exact ⟨_,cap,rfl⟩
theorem RS.capLe {w:World} {base B s k gv f fs gs g cap} (h:RS w base B s k (O (some ⟨g,0,none⟩) (fs.length+1) cap) gv (f::fs) gs):fs.length+1<=cap:=by
 rcases h.st.2 with ⟨h0,_⟩ | ⟨g',cap',cur,hv,_,_,hn,_⟩
 ·cases h0
 ·cases hv;exact hn
structure LI (s:ByteArray) (M:Nat) (R:Bool×Nat×List SG) (n k:Nat) (fs:List FR) (gs:List SG):Prop where
 run:Y2 s n k fs gs=some R
 le:n<=M
 at_:k<=s.size
 fl:fs.length+7*n<=2+7*M
 gl:gs.length+n<=M
 all:∀ f∈fs,0<=f.sym/\0<=f.depth/\f.depth+n<=M
theorem LI.next {s M R n k f fs gs} (h:LI s M R (n+1) k (f::fs) gs) (hok:(zl s k f).ok=true):LI s M R n (zl s k f).at_ ((zl s k f).push++fs) ((zl s k f).sg++gs):=by
 have hf:=h.all f (by simp)
 have hS:=xm s k f h.at_ hf.1 hf.2.1
 have hfl:=h.fl
 have hgl:=h.gl
 have hsg:=hS.sg
 have hle:=h.le
 simp only [List.length_cons] at hfl
 have hrun:=h.run
 rw [Y2,if_pos hok] at hrun
 have hpl:(zl s k f).push.length<=7:=by
  rcases hS.fst with hp | ⟨f0,r,hp,_,hr,_⟩
  ·rw [hp];simp
  ·rw [hp];simp only [List.length_cons];omega
 refine ⟨hrun,by omega,hS.hi,by simp only [List.length_append];omega,by simp only [List.length_append];omega,?_⟩
 intro g hg
 rcases List.mem_append.1 hg with hg | hg
 ·rcases hS.fst with hp | ⟨f0,r,hp,_,hr,hall⟩
  ·rw [hp] at hg;simp at hg
  ·have h1:=hall g hg
   have h2:=hf.2.2
   exact ⟨h1.1,h1.2.1,by omega⟩
 ·have h1:=h.all g (by simp [hg])
  exact ⟨h1.1,h1.2.1,by omega⟩
theorem LI.fails {s M R n k f fs gs} (h:LI s M R (n+1) k (f::fs) gs) (hok:(zl s k f).ok=false):R=(false,(zl s k f).at_,[]):=by
 have hrun:=h.run
 rw [Y2,if_neg (by rw [hok];decide)] at hrun
 injection hrun with hrun
 exact hrun.symm
theorem LI.stops {s M R n k gs} (h:LI s M R n k [] gs):R=(true,k,gs):=by
 have hrun:=h.run
 cases n<;>(simp only [Y2] at hrun;injection hrun with hrun;exact hrun.symm)
def rdE (s:ByteArray) (R:Bool×Nat×List SG):Bool×Nat×List SG :=
 if R.1=true then (if 0<=T.ch s (T.sk s R.2.1) then (false,T.sk s R.2.1,[]) else (true,T.sk s R.2.1,R.2.2)) else R
def rd (s:ByteArray):Bool×Nat×List SG:=match rd0 s with
 | none=>(false,0,[])
 | some q=>rdE s (q.ok,q.at_,if q.ok=true then q.sg else [])
def zb0 (base:Nat) (D:Bool×Nat×List SG) (e:Ending) (w':World):Prop :=
 ∃ v, (D.1 = true /\ e = .returned (.tuple #[v, J Z (-1)]) /\ w'.ownsRow base 162 5 v D.2.2.length (sgC D.2.2)) \/
      (D.1=false/\e=.returned (.tuple #[O none 0 0,J Z D.2.1]))
theorem zaV (s:ByteArray) (w:World) (hs:s.size<=2000) (M:Nat) (R:Bool×Nat×List SG) (hM:M<=40000) (hR:Y2 s M 0 [⟨256,0,0,0⟩,⟨257,0,0,0⟩] []=some R) :
 Calls Tryz.prog 96 #[.string s] w fun e w'=>Below w.heap.size w w'/\zb0 w.heap.size (rdE s R) e w':=by
 have hb1:=fun w=>YR 256 w
 have hb2:=fun w=>YR 257 w
 have hM2:1<=M:=by cases M with | zero=>simp [Y2] at hR | succ n=>omega
 have HL:Hid (∀ gs,gs=[]->LI s M R M 0 [⟨256,0,0,0⟩,⟨257,0,0,0⟩] gs):=fun gs hgs=>by subst hgs;exact ⟨hR,Nat.le_refl _,Nat.zero_le _,by simp,by simp,by simp⟩
 clear hR
 have HRS:Hid (RS (w.alloc (Q #[.string s,J Z 0,O none 0 0,O none 0 0] 190)) w.heap.size w.heap.size s 0 (O none 0 0) (O none 0 0) [] []) :=
  ⟨heap_alloc_new w _,World.ownsRow_nil _ _ _ _,World.ownsRow_nil _ _ _ _,Nat.le_refl _⟩
 go_enter Tryz.func96,Tryz.ntmps96
 go_wp2_with fail
 refine (ZF w.heap.size w.heap.size _ _ s 0 _ _ [] [⟨256,0,0,0⟩,⟨257,0,0,0⟩] [] _ _ HRS.out (by simp) (by rfl) (by simp) _ rfl).mono ?_
 rintro e w1 ⟨rfl,sv1,hr,hm⟩
 have HR1:Hid _:=hr
 have HB1:Hid (Below w.heap.size w w1):=((Below.refl _ _).alloc (Nat.le_refl _) _).trans hm.bel
 clear hr hm HRS
 go_wp2_with fail
 go_loopg [5] M (fun n _ wr=>∃ k fs gs sv gv,LI s M R n k fs gs/\RS wr w.heap.size w.heap.size s k sv gv fs gs/\Below w.heap.size w wr)
 case atStart=>exact ⟨0,_,[],_,_,HL.out _ rfl,HR1.out,HB1.out⟩
 case round =>
  obtain ⟨k,fs,gs,sv,gv,hli,hr,hb⟩:=hrel
  have HLI:Hid _:=hli
  have HR:Hid _:=hr
  have HB:Hid _:=hb
  have hks:k<=s.size:=hli.at_
  have c2:=hr.c2
  have z2:=hr.fz 2
  clear hb hr hli
  cases fs with
  | nil =>
   obtain ⟨o,cap,rfl⟩:=HR.out.nil
   have HS:Hid (R=(true,k,gs)):=HLI.out.stops
   have hpk:=T.ch_lo s (T.sk s k)
   obtain ⟨cp0,cp1⟩:=hpk
   go_wp2_with fail
   refine (zF w.heap.size w.heap.size s k _ gv [] gs _ hs hks HR.out).mono ?_
   rintro e w2 ⟨rfl,hr2,hm2⟩
   have HR2:Hid _:=hr2
   have HB2:Hid (Below w.heap.size w w2):=HB.out.trans hm2.bel
   have c1:=hr2.c1
   have c3:=hr2.c3
   clear hr2 hm2 c2 z2
   by_cases hc:0<=T.ch s (T.sk s k)
   ·have HD:Hid (rdE s R=(false,T.sk s k,[])):=by
     show _=_
     rw [HS.out];simp [rdE,hc]
    go_wp2_with fail
    go_quiet (fail)
    go_wp2_with fail
    go_ret2
    refine ⟨zQ HB2.out _,?_⟩
    rw [HD.out]
    exact ⟨.bool true,.inr ⟨rfl,rfl⟩⟩
   ·have HD:Hid (rdE s R=(true,T.sk s k,gs)):=by
     show _=_
     rw [HS.out];simp [rdE,hc]
    go_wp2_with fail
    go_ret2
    refine ⟨HB2.out,?_⟩
    rw [HD.out]
    exact ⟨gv,.inl ⟨rfl,rfl,HR2.out.sg⟩⟩
  | cons f fs =>
   obtain ⟨g,cap,rfl⟩:=ownsRow_succ HR.out.st
   obtain ⟨q0,q1,q2,q3⟩:=HR.out.top
   have hcap:=HR.out.capLe
   have hfl:=HLI.out.fl
   have hf:=HLI.out.all f (by simp)
   have HRA:Hid (RS ((wr.setCell ⟨w.heap.size,2,none⟩ (O (some ⟨g,0,none⟩) fs.length cap)).alloc (Q #[J Z f.sym,J Z f.kind,J Z f.depth,J Z f.list] 193)) w.heap.size w.heap.size s k (O (some ⟨g,0,none⟩) fs.length cap) gv fs gs):=HR.out.pop.alloc _
   have HBA:Hid (w.heap.size<=(wr.setCell ⟨w.heap.size,2,none⟩ (O (some ⟨g,0,none⟩) fs.length cap)).heap.size):=HR.out.pop.bs
   have hbw:w.heap.size<wr.heap.size:=HR.out.lt
   have zf:∀ o,(wr.alloc o).frozen? ⟨w.heap.size,2,none⟩=false:=fun o=>(HR.out.alloc o).fz 2
   simp only [List.length_cons] at hfl
   have hfl2:fs.length<=1000000:=by omega
   clear hfl
   generalize hm:fs.length=m at *
   have i0:(0:Int)<=(m:Int):=by omega
   have i1:(m:Int)<=(cap:Int):=by omega
   have i2:(m:Int)<((m+1:Nat):Int):=by omega
   have e1:(((m+1:Nat):Int)-1)=(m:Int):=by omega
   go_wp2_with fail
   have hA:=HRA.out
   have hX:=zaL w.heap.size w.heap.size s k f _ gv fs gs _ HRA.out hs hks (by omega) (by have:=HLI.out.gl;have:=HLI.out.le;omega) hf.1 hf.2.1 (by have:=HLI.out.le;omega)
   refine hX.mono ?_
   rintro e w2 ⟨rfl,sv2,gv2,hr2,hm2⟩
   have HB2:Hid (Below w.heap.size w w2):=((HB.out.setCell (Nat.le_refl _) _).alloc HBA.out _).trans hm2.bel
   have HR2:Hid _:=hr2
   have c1:=hr2.c1
   clear hA hX hr2 hm2 HRA HR q0 q1 q2 q3 c2 z2 zf
   cases gk with
   | zero=>exact absurd HLI.out.run (by simp [Y2])
   | succ n =>
    cases hok:(zl s k f).ok with
    | true =>
     have HN:Hid (LI s M R n (zl s k f).at_ ((zl s k f).push++fs) ((zl s k f).sg++gs)):=HLI.out.next hok
     go_wp2_with fail
     go_roundg n
     case measure=>omega
     case rel=>exact ⟨_,_,_,_,_,HN.out,HR2.out,HB2.out⟩
    | false =>
     have HD:Hid (rdE s R=(false,(zl s k f).at_,[])):=by
      show _=_
      rw [HLI.out.fails hok];rfl
     go_wp2_with fail
     go_quiet (fail)
     go_wp2_with fail
     go_ret2
     refine ⟨zQ HB2.out _,?_⟩
     rw [HD.out]
     exact ⟨.bool true,.inr ⟨rfl,rfl⟩⟩
end Go.Proofs.YtaebngpoagjafabGreat
