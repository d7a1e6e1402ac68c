import Derived.Test.YtaebngpoagjafabGreatV21
import Derived.Test.YtaebngpoagjafabGreatV25
import Derived.Test.YtaebngpoagjafabGreatV26
set_option maxRecDepth 100000
namespace Go.Proofs.YtaebngpoagjafabGreat
open Go.RowKit
def th (A:List SG) (g:SG):Bool:=(A.take (Zg (g::A.reverse)-1)).any (isR g)
def ErT (A:List SG) (g:SG) (err:Int):Prop :=
 (err=3/\g.kind=3/\12<=g.depth)\/(err=4/\g.list≠-1/\16<=Zq g A)\/(err=5/\((g.kind=1/\th A g=true)\/(g.kind=2/\th A g=false)))\/(err=6/\zP g.kind (T.val g.text g.text.size)=true)\/(err=7/\g.list≠-1/\Zx g A=true)
def FT:List SG->List SG->Int->Int->Prop
 | _,[],_,_=>False
 | P,g::U,err,a=>(a=g.place/\ErT P g err)\/FT (P++[g]) U err a
theorem zdK (A B:List SG) (err a:Int):∀ P,FT P (A++B) err a↔FT P A err a\/FT (P++A) B err a:=by
 induction A with
 | nil=>intro P;simp [FT]
 | cons g r ih =>
  intro P
  simp only [List.cons_append,FT]
  rw [ih (P++[g]),List.append_assoc,List.singleton_append,or_assoc]
theorem ju (W X:List SG) (h:∀ g∈W,g.kind≠1):Zg (W++X)=Zg X:=by
 induction W with
 | nil=>rfl
 | cons g r ih=>simp only [List.cons_append,Zg];rw [if_neg (h g (by simp)),ih (fun y hy=>h y (by simp [hy]))]
theorem zcc {A:List SG} {g:SG} (h:g.kind=1):th A g=A.any (isR g):=by
 unfold th
 simp only [Zg,if_pos h,List.length_reverse]
 rw [show A.length+1-1=A.length from by omega,List.take_length]
theorem zdN {P W:List SG} {g1 g:SG} (h1:g1.kind=1) (hW:∀ x∈W,x.kind≠1) (h:g.kind≠1):th (P++g1::W) g=P.any (isR g):=by
 unfold th
 have e:Zg (g::(P++g1::W).reverse)=P.length+1:=by
  simp only [Zg,if_neg h]
  rw [List.reverse_append,List.reverse_cons,List.append_assoc,ju _ _ (fun x hx=>hW x (by simpa using hx))]
  simp [Zg,h1]
 rw [e,show P.length+1-1=P.length from by omega,List.take_left]
structure RC (P:List SG) (rs:List RL):Prop where
 ex:∀ r∈rs,0<=r.ex
 nm:∀ g v,Q7 g.text v->(P.any (isR g)=true↔∃ r∈rs,r.nv=v)
theorem qX (v:Int):∀ (rs:List RL),(∀ r∈rs,0<=r.ex)->(yf v rs=-1↔¬ ∃ r∈rs,r.nv=v):=by
 intro rs
 induction rs with
 | nil=>intro _;simp [yf]
 | cons r l ih =>
  intro h
  simp only [yf]
  split
  ·next e =>
   have:=h r (by simp)
   constructor
   ·intro hh;omega
   ·intro hh;exact absurd ⟨r,by simp,e⟩ hh
  ·next e =>
   rw [ih (fun x hx=>h x (by simp [hx]))]
   simp [e]
theorem RC.nil:RC [] []:=⟨by simp,by simp⟩
theorem RC.step {P W:List SG} {rs:List RL} {g1:SG} {r:RL} (h:RC P rs) (h1:g1.kind=1) (ht:Q7 g1.text r.nv) (hr:0<=r.ex) (hW:∀ x∈W,x.kind≠1):RC (P++g1::W) (rs++[r]):=by
 refine ⟨fun x hx=>?_,fun g v hg=>?_⟩
 ·rcases List.mem_append.1 hx with hx | hx
  ·exact h.ex x hx
  ·simp at hx;subst hx;exact hr
 ·rw [List.any_append,List.any_cons,Bool.or_eq_true,Bool.or_eq_true,h.nm g v hg]
  have e1:W.any (isR g)=true↔False:=by
   simp only [List.any_eq_true,iff_false]
   rintro ⟨x,hx,hh⟩
   simp [isR,hW x hx] at hh
  have e2:isR g g1=true↔r.nv=v:=by
   unfold isR
   rw [decide_eq_true h1,Bool.true_and,zbg ht hg]
  rw [e1,e2]
  constructor
  ·rintro (⟨x,hx,hv⟩ | hv | hh)
   ·exact ⟨x,List.mem_append_left _ hx,hv⟩
   ·exact ⟨r,by simp,hv⟩
   ·exact absurd hh id
  ·rintro ⟨x,hx,hv⟩
   rcases List.mem_append.1 hx with hx | hx
   ·exact .inl ⟨x,hx,hv⟩
   ·simp at hx;subst hx;exact .inr (.inl hv)
theorem zd3 {rs:List RL} {P:List SG} {g1:SG} (h1:g1.kind=1) (hR:RC P rs) (err a:Int):∀ (U W:List SG),(∀ g∈W,g.kind≠1)->(∀ g∈U,KD g)->(FT (P++g1::W) U err a↔FU rs (P++g1::W) U err a):=by
 intro U
 induction U with
 | nil=>intro W _ _;simp [FT,FU]
 | cons g r ih =>
  intro W hW hU
  simp only [FT,FU]
  have hg:=hU g (by simp)
  have e:(P++g1::W)++[g]=P++g1::(W++[g]):=by simp
  rw [e,ih (W++[g]) (fun x hx=>by
   rcases List.mem_append.1 hx with hx | hx
   ·exact hW x hx
   ·simp at hx;subst hx;exact hg.1) (fun x hx=>hU x (by simp [hx]))]
  have:ErT (P++g1::W) g err↔Er rs (P++g1::W) g err:=by
   unfold ErT Er
   have e5:(err=5/\((g.kind=1/\th (P++g1::W) g=true)\/(g.kind=2/\th (P++g1::W) g=false)))↔(err=5/\g.kind=2/\yf (T.ch g.text 0) rs=-1):=by
    rw [zdN h1 hW hg.1]
    constructor
    ·rintro ⟨h,(⟨h2,_⟩ | ⟨h2,h3⟩)⟩
     ·exact absurd h2 hg.1
     ·refine ⟨h,h2,?_⟩
      have:=hR.nm g (T.ch g.text 0) ⟨hg.2 h2,rfl⟩
      rw [qX _ rs hR.ex,<- this,h3]
      decide
    ·rintro ⟨h,h2,h3⟩
     refine ⟨h,.inr ⟨h2,?_⟩⟩
     have:=hR.nm g (T.ch g.text 0) ⟨hg.2 h2,rfl⟩
     rw [qX _ rs hR.ex,<- this] at h3
     simpa using h3
   rw [e5]
  rw [this]
def FRs:List RL->List RL->Int->Int->Prop
 | _,[],_,_=>False
 | pre,r::l,err,a=>(yf r.nv pre≠-1/\err=5/\a=r.na)\/FRs (pre++[r]) l err a
structure GT (rs:List RL) (k k':Nat) (U:List SG) (es:List EX) (new:List RL):Prop where
 wl:∀ g∈U,(k:Int)<=g.place/\g.place<k'/\(g.list=-1\/((k:Int)<=g.list/\g.list<k'))
 st:U.Pairwise (fun a b=>a.place<b.place)
 fu:∀ P,(∀ x∈P,x.list<(k:Int))->RC P rs->∀ err a,FT P U err a↔FE es err a\/FRs rs new err a
structure GO (rs:List RL) (k k':Nat) (g1:SG) (W:List SG) (es:List EX) (r:RL):Prop where
 k1:g1.kind=1
 l1:g1.list=-1
 p1:g1.place=r.na
 t1:Q7 g1.text r.nv
 ex:0<=r.ex
 w1:(k:Int)<=g1.place/\g1.place<k'
 wl:∀ g∈W,g1.place<g.place/\g.place<k'/\(g.list=-1\/((k:Int)<=g.list/\g.list<k'))/\KD g
 st:W.Pairwise (fun a b=>a.place<b.place)
 fu:∀ P,(∀ x∈P,x.list<(k:Int))->∀ err a,FU rs (P++[g1]) W err a↔FE es err a
theorem GO.fu2 {rs:List RL} {k k':Nat} {g1:SG} {W:List SG} {es:List EX} {r:RL} (h:GO rs k k' g1 W es r) (P:List SG) (hP:∀ x∈P,x.list<(k:Int)) (hR:RC P rs) (err a:Int):FT P (g1::W) err a↔FE es err a\/(yf r.nv rs≠-1/\err=5/\a=r.na):=by
 simp only [FT]
 have e1:ErT P g1 err↔err=5/\yf r.nv rs≠-1:=by
  unfold ErT
  rw [zcc h.k1]
  have hn:=hR.nm g1 r.nv h.t1
  have hw:zP g1.kind (T.val g1.text g1.text.size)=false:=by rw [h.k1];rfl
  rw [hw,h.k1,h.l1]
  have hx:P.any (isR g1)=true↔yf r.nv rs≠-1:=by
   rw [hn,Ne,qX _ rs hR.ex]
   simp
  rw [hx]
  simp
 have e2:=zd3 h.k1 hR err a W [] (by simp) (fun g hg=>(h.wl g hg).2.2.2)
 rw [e1,e2,h.fu P hP err a,h.p1]
 constructor
 ·rintro (⟨h1,h2,h3⟩ | h)
  ·exact .inr ⟨h3,h2,h1⟩
  ·exact .inl h
 ·rintro (h | ⟨h1,h2,h3⟩)
  ·exact .inr h
  ·exact .inl ⟨h3,h2,h1⟩
theorem GO.gt {rs:List RL} {k k1 k':Nat} {g1:SG} {W:List SG} {es:List EX} {r:RL} (h:GO rs k k1 g1 W es r) (hk:k1<=k'):GT rs k k' (g1::W) es [r] :=
 ⟨fun g hg=>by
  rcases List.mem_cons.1 hg with rfl | hg
  ·exact ⟨h.w1.1,by have:=h.w1.2;omega,.inl h.l1⟩
  ·have h2:=h.wl g hg
   have h3:=h.w1.1
   exact ⟨by omega,by omega,h2.2.2.1.imp (fun h=>h) (fun h=>⟨h.1,by omega⟩)⟩,
  List.pairwise_cons.2 ⟨fun g hg=>(h.wl g hg).1,h.st⟩,
  fun P hP hR err a=>by rw [h.fu2 P hP hR err a];simp [FRs]⟩
theorem GT.cons {rs:List RL} {k k1 k2 k':Nat} {g1:SG} {W U:List SG} {es fs:List EX} {r:RL} {new:List RL} (h:GO rs k k1 g1 W es r) (h12:k1<=k2) (hk2:k<=k2) (h23:k2<=k') (h2:GT (rs++[r]) k2 k' U fs new):GT rs k k' ((g1::W)++U) (es++fs) (r::new):=by
 have hg1:=h.gt (Nat.le_refl k1)
 refine ⟨fun g hg=>?_,?_,fun P hP hR err a=>?_⟩
 ·rcases List.mem_append.1 hg with hg | hg
  ·have h1:=hg1.wl g hg
   exact ⟨h1.1,by omega,h1.2.2.imp (fun h=>h) (fun h=>⟨h.1,by omega⟩)⟩
  ·have h1:=h2.wl g hg
   exact ⟨by omega,h1.2.1,h1.2.2.imp (fun h=>h) (fun h=>⟨by omega,h.2⟩)⟩
 ·refine List.pairwise_append.2 ⟨hg1.st,h2.st,fun a ha b hb=>?_⟩
  have h3:=(hg1.wl a ha).2.1
  have h4:=(h2.wl b hb).1
  omega
 ·rw [zdK,h.fu2 P hP hR err a,h2.fu (P++(g1::W)) (fun y hy=>?_) (hR.step h.k1 h.t1 h.ex (fun x hx=>(h.wl x hx).2.2.2.1)) err a,xg]
  ·simp only [FRs]
   constructor
   ·rintro ((h | h) | (h | h))
    ·exact .inl (.inl h)
    ·exact .inr (.inl h)
    ·exact .inl (.inr h)
    ·exact .inr (.inr h)
   ·rintro ((h | h) | (h | h))
    ·exact .inl (.inl h)
    ·exact .inr (.inl h)
    ·exact .inl (.inr h)
    ·exact .inr (.inr h)
  ·rcases List.mem_append.1 hy with hy | hy
   ·have:=hP y hy;omega
   ·rcases (hg1.wl y hy).2.2 with h | h<;>omega
theorem Z2 (s:ByteArray) (k:Nat):zl s k ⟨256,0,0,0⟩=⟨true,T.sk s k,[⟨263,1,0,-1⟩,byF 58,⟨258,0,0,0⟩],[]⟩:=by
 unfold zl
 simp only
 rw [if_pos trivial]
theorem qp (s:ByteArray) (k:Nat):zl s k ⟨257,0,0,0⟩=⟨true,T.sk s k,if T.ch s (T.sk s k)=59 then [byF 59,⟨256,0,0,0⟩,⟨257,0,0,0⟩] else [],[]⟩:=by
 unfold zl
 simp only
 rw [if_neg (by decide),if_pos trivial]
theorem jc {s:ByteArray} {k:Nat}:zU s 59 k false=true↔T.ch s (T.sk s k)=59:=by
 unfold zU
 rw [zk,yM,beq_iff_eq]
 by_cases h:T.sk s k<s.size
 ·rw [if_pos h]
 ·rw [if_neg h,T.ch_ge h];omega
theorem zaQ (s:ByteArray) (rs:List RL) (m k:Nat) (hk:k<=s.size):Run s k [⟨256,0,0,0⟩] (zB s rs m k false).k (zB s rs m k false).b (fun V=>∃ g1 W,V=g1::W/\GO rs k (zB s rs m k false).k g1 W (zB s rs m k false).es (zB s rs m k false).rl):=by
 have hge:=T.sk_ge s k
 have hle:=T.sk_le hk
 have hss:=Yq s k
 have elk:zO s (T.sk s k) false=zO s k false:=by unfold zO Yg;rw [zk,zk,hss]
 have elx:zT s (T.sk s k) false=zT s k false:=by unfold zT Yg;rw [zk,zk,hss]
 have hl0:=ZS s k false
 have hl1:=YJ (b:=false) hk
 have hb0:=zi s 58 (zO s k false) (zT s k false)
 have hb1:zc s 58 (zO s k false) (zT s k false)<=s.size:=zq (by decide) hl1
 have hR0:=((xf.nil s (T.sk s k)).run.letter 1 0 (-1)).run.want 58 (by decide) (by decide) (by decide)
 rw [elk,elx,zk,hss] at hR0
 have hR:=hR0.run.expr (zbv s rs (s.size+1)) (fun d m k b h=>qw h) hb1 0 (by decide) m (by omega)
 have hmo:=yB s rs (s.size+1) 0 m (zc s 58 (zO s k false) (zT s k false)) (zj s 58 (zO s k false) (zT s k false)) hb1
 unfold zB
 simp only [zk]
 generalize zc s 58 (zO s k false) (zT s k false)=k2 at *
 generalize zj s 58 (zO s k false) (zT s k false)=b2 at *
 generalize cE s rs (s.size+1) 0 m k2 b2=r at *
 have hlift:∀ (G:List SG->Prop),Run s (T.sk s k) [⟨263,1,0,-1⟩,byF 58,⟨258,0,0,0⟩] r.k r.b G->Run s k [⟨256,0,0,0⟩] r.k r.b G:=fun G h=>by
  rcases h with ⟨U,h1,h2,h3⟩ | ⟨h1,h2⟩
  ·have:=Par.step (s:=s) (k:=k) (f:=⟨256,0,0,0⟩) (ok:=true) (b:=r.k) (sg2:=U.reverse) (by rw [Z2]) (by rw [Z2];exact h1)
   rw [Z2] at this
   exact .inl ⟨U,by simpa using this,h2,h3⟩
  ·exact .inr ⟨zN.step (s:=s) (k:=k) (f:=⟨256,0,0,0⟩) (by rw [Z2]) (by rw [Z2];exact h1),h2⟩
 refine hlift _ (hR.mono fun _ U hU=>?_)
 obtain ⟨V,W,rfl,⟨⟨V2,rfl,rfl,_,h2,h3⟩,_⟩,_,h4,hG⟩:=hU
 refine ⟨_,W,rfl,rfl,rfl,rfl,h3,h4,⟨by simp only;omega,by simp only;omega⟩,fun g hg=>?_,hG.st,fun P hP err a=>?_⟩
 ·have h5:=hG.wl g hg
  exact ⟨by simp only;omega,h5.2.1,h5.2.2.1.imp (fun h=>h) (fun h=>⟨by omega,h.2⟩),h5.2.2.2⟩
 ·exact hG.fu _ (fun x hx=>by
   rcases List.mem_append.1 hx with hx | hx
   ·have:=hP x hx;omega
   ·simp at hx;subst hx;simp only;omega) err a
theorem JL (s:ByteArray):∀ (N:Nat) (rs:List RL) (m k:Nat),k<=s.size->s.size+1<=N+k ->
 Run s k [⟨256,0,0,0⟩,⟨257,0,0,0⟩] (zw s N rs m k false).k (zw s N rs m k false).b (fun U=>(∃ new,(zw s N rs m k false).rs=rs++new/\GT rs k (zw s N rs m k false).k U (zw s N rs m k false).es new)/\T.sk s (zw s N rs m k false).k=(zw s N rs m k false).k)/\k<=(zw s N rs m k false).k:=by
 intro N
 induction N with
 | zero=>intro rs m k h1 h2;omega
 | succ N ih =>
  intro rs m k hk hN
  have h1:=zaQ s rs m k hk
  have hmo:=ZM s rs m k false hk
  simp only [zw]
  generalize zB s rs m k false=it at *
  rcases h1 with ⟨V,a1,a2,g1,W,rfl,a3⟩ | ⟨a1,a2⟩
  ·rw [a2]
   have htg:=zi s 59 it.k false
   have htl:zc s 59 it.k false<=s.size:=zq (by decide) hmo.2.1
   cases ht:zU s 59 it.k false with
   | false =>
    have hne:¬ T.ch s (T.sk s it.k)=59:=fun h=>by rw [jc.2 h] at ht;cases ht
    have e:zc s 59 it.k false=T.sk s it.k:=by unfold zc;rw [if_neg (by rw [ht];decide),zk]
    have hst:=qp s it.k
    rw [if_neg hne] at hst
    have h2:Par s it.k [⟨257,0,0,0⟩] true (zc s 59 it.k false) []:=by
     have:=Par.step (s:=s) (k:=it.k) (f:=⟨257,0,0,0⟩) (ok:=true) (b:=T.sk s it.k) (sg2:=[]) (by rw [hst]) (by rw [hst];exact Par.nil _ _)
     rw [hst] at this
     rw [e];exact this
    simp only [Bool.false_eq_true,if_false]
    exact ⟨.inl ⟨g1::W,by have:=a1.app h2;simpa using this,rfl,⟨[it.rl],rfl,a3.gt htg⟩,by rw [e,Yq]⟩,by omega⟩
   | true =>
    have h59:=jc.1 ht
    have hst:=qp s it.k
    rw [if_pos h59] at hst
    have htk:it.k+1<=zc s 59 it.k false:=by
     unfold zc;rw [if_pos ht];have:=z7 s it.k false;omega
    have ht2:zU s 59 (T.sk s it.k) false=true:=jc.2 (by rw [Yq];exact h59)
    have e2:zc s 59 (T.sk s it.k) false=zc s 59 it.k false:=by unfold zc;rw [if_pos ht,if_pos ht2,zk,zk,Yq]
    have hw:=(xj (s:=s) (k:=T.sk s it.k) (c:=59) (by decide) (by decide) ht2).1
    rw [e2] at hw
    have hR:=ih (rs++[it.rl]) (m+it.es.length) (zc s 59 it.k false) htl (by omega)
    generalize zw s N (rs++[it.rl]) (m+it.es.length) (zc s 59 it.k false) false=q at *
    generalize zc s 59 it.k false=k2 at *
    simp only [if_true]
    obtain ⟨hR,hk2⟩:=hR
    refine ⟨?_,by omega⟩
    rcases hR with ⟨U,b1,b2,⟨new,b3,b4⟩,b5⟩ | ⟨b1,b2⟩
    ·have h3:=hw.cons b1
     have h4:=Par.step (s:=s) (k:=it.k) (f:=⟨257,0,0,0⟩) (ok:=true) (b:=q.k) (sg2:=U.reverse++[]) (by rw [hst]) (by rw [hst];exact h3)
     rw [hst] at h4
     refine .inl ⟨(g1::W)++U,?_,b2,⟨it.rl::new,by rw [b3];simp,GT.cons a3 (by omega) (by omega) hk2 b4⟩,b5⟩
     have:=a1.app h4
     rw [List.reverse_append]
     simpa using this
    ·have h3:=zN.after hw b1
     have h4:=zN.step (s:=s) (k:=it.k) (f:=⟨257,0,0,0⟩) (by rw [hst]) (by rw [hst];exact h3)
     exact .inr ⟨zN.app2 a1 h4,b2⟩
  ·have:=yd a2 (c:=59) (by decide) (by decide)
   rw [this.1]
   simp only [Bool.false_eq_true,if_false]
   rw [this.2.1]
   exact ⟨.inr ⟨a1.app [⟨257,0,0,0⟩],a2⟩,hmo.1⟩
def z9 (S:Int->Int->Prop) (f:Int×Int):Prop:=(f=(0,0)/\∀ err a,¬ S err a)\/(f.1≠0/\S f.1 f.2/\∀ err a,S err a->f.2<a\/(f.2=a/\f.1<=err))
theorem z9.congr {S S':Int->Int->Prop} {f:Int×Int} (h:z9 S f) (e:∀ err a,S err a↔S' err a):z9 S' f:=by
 rcases h with ⟨h1,h2⟩ | ⟨h1,h2,h3⟩
 ·exact .inl ⟨h1,fun err a hs=>h2 err a ((e err a).2 hs)⟩
 ·exact .inr ⟨h1,(e _ _).1 h2,fun err a hs=>h3 err a ((e err a).2 hs)⟩
theorem z9.unique {S:Int->Int->Prop} {f g:Int×Int} (h:z9 S f) (k:z9 S g):f=g:=by
 rcases h with ⟨h1,h2⟩ | ⟨h1,h2,h3⟩
 ·rcases k with ⟨k1,k2⟩ | ⟨k1,k2,k3⟩
  ·rw [h1,k1]
  ·exact absurd k2 (h2 _ _)
 ·rcases k with ⟨k1,k2⟩ | ⟨k1,k2,k3⟩
  ·exact absurd h2 (k2 _ _)
  ·have a1:=h3 _ _ k2
   have a2:=k3 _ _ h2
   have e1:f.1=g.1:=by omega
   have e2:f.2=g.2:=by omega
   exact Prod.ext e1 e2
theorem YP {S:Int->Int->Prop} {f:Int×Int} (h:z9 S f) (e x:Int) (he:e≠0):z9 (fun err a=>S err a\/(err=e/\a=x)) (fnd f e x):=by
 unfold fnd
 split
 ·next hc =>
  refine .inr ⟨he,.inr ⟨rfl,rfl⟩,fun err a hs=>?_⟩
  rcases hs with hs | ⟨rfl,rfl⟩
  ·rcases h with ⟨_,h2⟩ | ⟨h1,h2,h3⟩
   ·exact absurd hs (h2 _ _)
   ·have:=h3 err a hs
    rcases hc with hc | hc | hc
    ·exact absurd hc h1
    ·simp only;omega
    ·simp only;omega
  ·exact .inr ⟨rfl,Int.le_refl _⟩
 ·next hc =>
  rcases h with ⟨h1,_⟩ | ⟨h1,h2,h3⟩
  ·exact absurd (.inl (by rw [h1])) hc
  ·refine .inr ⟨h1,.inl h2,fun err a hs=>?_⟩
   rcases hs with hs | ⟨rfl,rfl⟩
   ·exact h3 err a hs
   ·have c2:¬ a<f.2:=fun h=>hc (.inr (.inl h))
    have c3:¬ (a=f.2/\err<f.1):=fun h=>hc (.inr (.inr h))
    omega
theorem xD {S T:Int->Int->Prop} {f g:Int×Int} {c:Prop} [Decidable c] (h:z9 S f) (hg:c->z9 (fun err a=>S err a\/T err a) g):z9 (fun err a=>S err a\/(c/\T err a)) (if c then g else f):=by
 split
 ·next hc=>exact (hg hc).congr (fun err a=>by simp [hc])
 ·next hc=>exact h.congr (fun err a=>by simp [hc])
theorem Z8 {S:Int->Int->Prop} {f:Int×Int} (h:z9 S f) (v x lo hi:Int):z9 (fun err a=>S err a\/((v<lo\/hi<v)/\err=6/\a=x)) (Yh f v x lo hi):=xD h (fun _=>YP h 6 x (by decide))
def zay (c:Int) (x:IM) (err a:Int):Prop:=((c=123\/c=102\/c=119)/\(x.num<0\/63<x.num)/\err=6/\a=x.at_)\/(c=119/\(x.wv<1\/1000<x.wv)/\err=6/\a=x.wa)\/(c=103/\(x.num<0\/99<x.num)/\err=6/\a=x.at_)
theorem J4 {S:Int->Int->Prop} {f:Int×Int} (h:z9 S f) (c:Int) (x:IM):z9 (fun err a=>S err a\/zay c x err a) (Yw c x f):=by
 unfold Yw
 split
 ·next hc =>
  refine (Z8 h x.num x.at_ 0 63).congr fun err a=>?_
  unfold zay
  rcases hc with rfl | rfl<;>simp
 ·next h1 =>
  split
  ·next hc =>
   subst hc
   refine (Z8 (Z8 h x.num x.at_ 0 63) x.wv x.wa 1 1000).congr fun err a=>?_
   unfold zay
   simp [or_assoc]
  ·next h2 =>
   split
   ·next hc =>
    subst hc
    refine (Z8 h x.num x.at_ 0 99).congr fun err a=>?_
    unfold zay
    simp
   ·next h3 =>
    refine h.congr fun err a=>?_
    have:c≠123/\c≠102:=⟨fun e=>h1 (.inl e),fun e=>h1 (.inr e)⟩
    unfold zay
    simp [this.1,this.2,h2,h3]
theorem zcJ {S:Int->Int->Prop} {f:Int×Int} (h:z9 S f) (c:Int) (l:List IM) (j:Nat) (x:IM) (hj:j<l.length):z9 (fun err a=>S err a\/FIm c (l.take j) x err a) (fIt c l j x f):=by
 have h1:z9 (fun err a=>S err a\/(16<=j/\err=4/\a=x.at_)) (if 16<=j then fnd f 4 x.at_ else f):=xD h (fun _=>YP h 4 x.at_ (by decide))
 have h2:=xD (c:=(l.take j).any (fun y=>yo y x)=true) h1 (fun _=>YP h1 7 x.at_ (by decide))
 have h3:=J4 h2 c x
 refine h3.congr fun err a=>?_
 have:(l.take j).length=j:=by rw [List.length_take];omega
 unfold FIm zay
 rw [this]
 simp only [or_assoc]
theorem Jn (c:Int) (A B:List IM) (err a:Int):∀ pre,FIs c pre (A++B) err a↔FIs c pre A err a\/FIs c (pre++A) B err a:=by
 induction A with
 | nil=>intro P;simp [FIs]
 | cons g r ih =>
  intro P
  simp only [List.cons_append,FIs]
  rw [ih (P++[g]),List.append_assoc,List.singleton_append,or_assoc]
theorem zbr {S:Int->Int->Prop} {f:Int×Int} (h:z9 S f) (c:Int) (l:List IM):∀ n,n<=l.length->z9 (fun err a=>S err a\/FIs c [] (l.take n) err a) (ZC c l f n):=by
 intro n
 induction n with
 | zero=>intro _;exact h.congr (fun err a=>by simp [FIs])
 | succ n ih =>
  intro hn
  have hx:l[n]?=some l[n]:=List.getElem?_eq_getElem (by omega)
  simp only [ZC,hx]
  refine (zcJ (ih (by omega)) c l n l[n] (by omega)).congr fun err a=>?_
  rw [List.take_add_one,hx]
  simp only [Option.toList]
  rw [Jn]
  simp [FIs,or_assoc]
theorem J5 {S:Int->Int->Prop} {f:Int×Int} (h:z9 S f) (e:EX):z9 (fun err a=>S err a\/FEx e err a) (Xh e f):=by
 have h1:z9 (fun err a=>S err a\/(12<=e.depth/\err=3/\a=e.at_)) (if 12<=e.depth then fnd f 3 e.at_ else f):=xD h (fun _=>YP h 3 e.at_ (by decide))
 unfold Xh
 simp only
 generalize (if 12<=e.depth then fnd f 3 e.at_ else f)=f1 at *
 split
 ·next hc =>
  refine (Z8 h1 e.nv e.na 1 86400).congr fun err a=>?_
  unfold FEx
  simp [hc,or_assoc]
 ·next c1 =>
  split
  ·next hc =>
   refine (Z8 h1 e.nv e.na 0 15).congr fun err a=>?_
   unfold FEx
   simp [hc,or_assoc]
  ·next c2 =>
   split
   ·next hc =>
    refine (xD (c:=e.inner=-1) h1 (fun _=>YP h1 5 e.na (by decide))).congr fun err a=>?_
    unfold FEx
    simp [hc,or_assoc]
   ·next c3 =>
    refine h1.congr fun err a=>?_
    unfold FEx
    simp [c1,c2,c3]
theorem zbs {S:Int->Int->Prop} {f:Int×Int} (h:z9 S f) (es:List EX):∀ n,n<=es.length->z9 (fun err a=>S err a\/FE (es.take n) err a) (xH es f n):=by
 intro n
 induction n with
 | zero=>intro _;exact h.congr (fun err a=>by simp [FE])
 | succ n ih =>
  intro hn
  have hx:es[n]?=some es[n]:=List.getElem?_eq_getElem (by omega)
  simp only [xH,hx]
  refine (zbr (J5 (ih (by omega)) es[n]) es[n].kind es[n].items es[n].items.length (Nat.le_refl _)).congr fun err a=>?_
  rw [List.take_length,List.take_add_one,hx]
  simp only [Option.toList]
  rw [xg,Xd,or_assoc,or_assoc]
theorem zc4 (A B:List RL) (err a:Int):∀ pre,FRs pre (A++B) err a↔FRs pre A err a\/FRs (pre++A) B err a:=by
 induction A with
 | nil=>intro P;simp [FRs]
 | cons g r ih =>
  intro P
  simp only [List.cons_append,FRs]
  rw [ih (P++[g]),List.append_assoc,List.singleton_append,or_assoc]
theorem zbq {S:Int->Int->Prop} {f:Int×Int} (h:z9 S f) (rs:List RL):∀ n,n<=rs.length->z9 (fun err a=>S err a\/FRs [] (rs.take n) err a) (ZN rs f n):=by
 intro n
 induction n with
 | zero=>intro _;exact h.congr (fun err a=>by simp [FRs])
 | succ n ih =>
  intro hn
  have hx:rs[n]?=some rs[n]:=List.getElem?_eq_getElem (by omega)
  simp only [ZN,hx]
  have h1:=ih (by omega)
  have h2:z9 (fun err a=>(S err a\/FRs [] (rs.take n) err a)\/(yf rs[n].nv (rs.take n)≠-1/\err=5/\a=rs[n].na)) (if yf rs[n].nv (rs.take n)=-1 then ZN rs f n else fnd (ZN rs f n) 5 rs[n].na):=by
   split
   ·next hc=>exact h1.congr (fun err a=>by simp [hc])
   ·next hc=>exact (YP h1 5 _ (by decide)).congr (fun err a=>by simp [hc])
  refine h2.congr fun err a=>?_
  rw [List.take_add_one,hx]
  simp only [Option.toList]
  rw [zc4]
  simp [FRs,or_assoc]
theorem xI (es:List EX) (rs:List RL):z9 (fun err a=>FE es err a\/FRs [] rs err a) (Y5 es rs):=by
 have h0:z9 (fun _ _=>False) (0,0):=.inl ⟨rfl,fun _ _ h=>h⟩
 have h1:=zbq h0 rs rs.length (Nat.le_refl _)
 have h2:=zbs h1 es es.length (Nat.le_refl _)
 refine h2.congr fun err a=>?_
 rw [List.take_length,List.take_length]
 simp only [false_or]
 exact or_comm
theorem zaD (A B:List SG) (g:SG):qI (A++g::B) A.length g=th A g:=by
 unfold qI th
 have e1:(A++g::B).take (A.length+1)=A++[g]:=by
  rw [show A++g::B=(A++[g])++B from by simp]
  exact List.take_left' (by simp)
 rw [e1,List.reverse_append]
 simp only [List.reverse_cons,List.reverse_nil,List.nil_append,List.singleton_append]
 have h:=QJ (g::A.reverse)
 simp only [List.length_cons,List.length_reverse] at h
 have e2:(A++g::B).take (Zg (g::A.reverse)-1)=A.take (Zg (g::A.reverse)-1):=by
  rw [List.take_append_of_le_length (by omega)]
 rw [e2]
theorem zcI (A B:List SG) (g:SG):(flt (A++g::B) A.length g=0/\∀ err,¬ ErT A g err)\/(flt (A++g::B) A.length g≠0/\ErT A g (flt (A++g::B) A.length g)/\∀ err,ErT A g err->flt (A++g::B) A.length g<=err):=by
 have hm:16<=XS (A++g::B) A.length g↔g.list≠-1/\16<=Zq g A:=by
  unfold XS
  rw [List.take_left,zbQ]
  by_cases h:g.list=-1
  ·rw [if_pos h];simp [h]
  ·rw [if_neg h];simp [h];omega
 have hs:XE (A++g::B) A.length g=true↔g.list≠-1/\Zx g A=true:=by
  unfold XE
  rw [List.take_left,zbP]
  by_cases h:g.list=-1
  ·rw [if_pos h];simp [h]
  ·rw [if_neg h];simp [h]
 unfold flt J2 z5
 rw [zaD]
 unfold ErT
 by_cases c3:g.kind=3/\12<=g.depth
 ·rw [if_pos c3]
  refine .inr ⟨by decide,.inl ⟨rfl,c3⟩,fun err h=>?_⟩
  rcases h with h | h | h | h | h<;>omega
 ·rw [if_neg c3]
  by_cases c4':16<=XS (A++g::B) A.length g
  ·rw [if_pos c4']
   have c4:=hm.1 c4'
   refine .inr ⟨by decide,.inr (.inl ⟨rfl,c4⟩),fun err h=>?_⟩
   rcases h with h | h | h | h | h
   ·exact absurd h.2 c3
   all_goals omega
  ·rw [if_neg c4']
   have c4:¬ (g.list≠-1/\16<=Zq g A):=fun h=>c4' (hm.2 h)
   by_cases c5:(g.kind=1/\th A g=true)\/(g.kind=2/\th A g=false)
   ·rw [if_pos c5]
    refine .inr ⟨by decide,.inr (.inr (.inl ⟨rfl,c5⟩)),fun err h=>?_⟩
    rcases h with h | h | h | h | h
    ·exact absurd h.2 c3
    ·exact absurd h.2 c4
    all_goals omega
   ·rw [if_neg c5]
    by_cases c6:zP g.kind (T.val g.text g.text.size)=true
    ·rw [if_pos c6]
     refine .inr ⟨by decide,.inr (.inr (.inr (.inl ⟨rfl,c6⟩))),fun err h=>?_⟩
     rcases h with h | h | h | h | h
     ·exact absurd h.2 c3
     ·exact absurd h.2 c4
     ·exact absurd h.2 c5
     all_goals omega
    ·rw [if_neg c6]
     by_cases c7':XE (A++g::B) A.length g=true
     ·rw [if_pos c7']
      have c7:=hs.1 c7'
      refine .inr ⟨by decide,.inr (.inr (.inr (.inr ⟨rfl,c7⟩))),fun err h=>?_⟩
      rcases h with h | h | h | h | h
      ·exact absurd h.2 c3
      ·exact absurd h.2 c4
      ·exact absurd h.2 c5
      ·exact absurd h.2 c6
      ·omega
     ·rw [if_neg c7']
      have c7:¬ (g.list≠-1/\Zx g A=true):=fun h=>c7' (hs.2 h)
      refine .inl ⟨rfl,fun err h=>?_⟩
      rcases h with h | h | h | h | h
      ·exact c3 h.2
      ·exact c4 h.2
      ·exact c5 h.2
      ·exact c6 h.2
      ·exact c7 h.2
theorem zb2 {err a:Int}:∀ (U P:List SG),FT P U err a->∃ g∈U,a=g.place:=by
 intro U
 induction U with
 | nil=>intro P h;exact absurd h id
 | cons g r ih =>
  intro P h
  rcases h with h | h
  ·exact ⟨g,by simp,h.1⟩
  ·obtain ⟨x,hx,e⟩:=ih _ h
   exact ⟨x,by simp [hx],e⟩
theorem zcG:∀ (B A:List SG) (n:Nat),B.length<=n->B.Pairwise (fun a b=>a.place<b.place)->z9 (FT A B) (xG (A++B) n A.length):=by
 intro B
 induction B with
 | nil =>
  intro A n _ _
  refine .inl ⟨?_,fun err a h=>h⟩
  cases n with
  | zero=>rfl
  | succ n=>simp [xG]
 | cons g r ih =>
  intro A n hn hst
  obtain ⟨n,rfl⟩:∃ m,n=m+1:=⟨n-1,by simp only [List.length_cons] at hn;omega⟩
  have hg:(A++g::r)[A.length]?=some g:=by simp
  have hp:=List.pairwise_cons.1 hst
  have h2:=ih (A++[g]) n (by simp only [List.length_cons] at hn;omega) hp.2
  rw [List.append_assoc,List.singleton_append,List.length_append] at h2
  simp only [List.length_cons,List.length_nil,Nat.zero_add] at h2
  simp only [xG,hg]
  rcases zcI A r g with ⟨h,h'⟩ | ⟨h,h',h3⟩
  ·rw [if_pos h]
   refine h2.congr fun err a=>?_
   simp only [FT]
   constructor
   ·intro hh;exact .inr hh
   ·rintro (hh | hh)
    ·exact absurd hh.2 (h' err)
    ·exact hh
  ·rw [if_neg h]
   refine .inr ⟨h,.inl ⟨rfl,h'⟩,fun err a hh=>?_⟩
   rcases hh with hh | hh
   ·exact .inr ⟨hh.1.symm,h3 err hh.2⟩
   ·obtain ⟨x,hx,e⟩:=zb2 _ _ hh
    left
    rw [e]
    exact hp.1 x hx
theorem jJ (s:ByteArray):chk s=Zj s:=by
 unfold chk Zj
 by_cases h2k:2000<s.size
 ·rw [if_pos h2k,if_pos h2k]
 rw [if_neg h2k,if_neg h2k]
 have hP:=(JL s (s.size+1) [] 0 0 (Nat.zero_le _) (by omega)).1
 have hC:zw s (s.size+1) [] 0 0 false=zA s:=rfl
 rw [hC] at hP
 generalize zA s=C at *
 obtain ⟨q,hq,_,_,_⟩:=Qy s
 obtain ⟨ok,at_,sg,n⟩:=q
 have hrd:rd s=rdE s (ok,at_,if ok=true then sg else []):=by unfold rd;rw [hq]
 rw [hrd]
 unfold rd0 at hq
 rcases hP with ⟨U,a1,a2,⟨new,a3,a4⟩,a5⟩ | ⟨⟨sg',a1⟩,a2⟩
 ·obtain ⟨rfl,rfl,rfl⟩:=a1.det hq
  rw [List.nil_append] at a3
  unfold rdE
  simp only [if_true,a5,a2,Bool.false_or]
  by_cases hlt:C.k<s.size
  ·have hch:=T.ch_bd hlt
   rw [if_pos hch.1,decide_eq_true hlt]
   simp
  ·have e0:¬ (0:Int)<=T.ch s C.k:=by rw [T.ch_ge hlt];decide
   rw [if_neg e0,decide_eq_false hlt]
   simp only [Bool.false_eq_true,if_false,if_true]
   have h1:=zcG U.reverse.reverse [] U.reverse.length (by simp) (by rw [List.reverse_reverse];exact a4.st)
   simp only [List.nil_append,List.length_nil] at h1
   rw [List.reverse_reverse] at h1 ⊢
   have h2:z9 (FT [] U) (Y5 C.es C.rs):=by
    refine (xI C.es C.rs).congr fun err a=>?_
    rw [a3]
    exact (a4.fu [] (by simp) RC.nil err a).symm
   have h3:=h1.unique h2
   rw [h3]
   split
   ·next h0 =>
    rcases h2 with ⟨e,_⟩ | ⟨e,_⟩
    ·exact e
    ·exact absurd h0 e
   ·rfl
 ·obtain ⟨rfl,rfl,rfl⟩:=a1.det hq
  have hbad:(C.b || decide (C.k<s.size))=true:=by
   rcases a2 with h | h
   ·rw [h];rfl
   ·rw [decide_eq_true (T.dig_lt h),Bool.or_true]
  unfold rdE
  rw [hbad]
  simp
end Go.Proofs.YtaebngpoagjafabGreat
