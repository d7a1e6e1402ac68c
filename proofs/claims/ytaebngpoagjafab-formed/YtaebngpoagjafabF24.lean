import Derived.Test.YtaebngpoagjafabF08
import Derived.Test.YtaebngpoagjafabF19
import Derived.Test.YtaebngpoagjafabF23
set_option maxRecDepth 100000
namespace Go.Proofs.Ytaebngpoagjafab
open Go.RowKit
def th (A:List SG) (g:SG):Bool:=(A.take (yH (g::A.reverse)-1)).any (isR g)
def ErT (A:List SG) (g:SG) (err:Int):Prop :=
 (err=3/\g.kind=3/\12<=g.depth)\/(err=4/\g.list≠-1/\16<=yQ g A)\/(err=5/\((g.kind=1/\th A g=true)\/(g.kind=2/\th A g=false)))\/(err=6/\zK g.kind (T.val g.text g.text.size)=true)\/(err=7/\g.list≠-1/\Zb g A=true)
def FT:List SG->List SG->Int->Int->Prop
 | _,[],_,_=>False
 | P,g::U,err,a=>(a=g.place/\ErT P g err)\/FT (P++[g]) U err a
theorem zaV (A B:List SG) (err a:Int):∀ P,FT P (A++B) err a↔FT P A err a\/FT (P++A) B err a:=by
 induction A with
 | nil=>intro P;simp [FT]
 | cons g r ih =>
  intro P
  simp only [List.cons_append,FT]
  rw [ih (P++[g]),List.append_assoc,List.singleton_append,or_assoc]
theorem qn (W X:List SG) (h:∀ g∈W,g.kind≠1):yH (W++X)=yH X:=by
 induction W with
 | nil=>rfl
 | cons g r ih=>simp only [List.cons_append,yH];rw [if_neg (h g (by simp)),ih (fun y hy=>h y (by simp [hy]))]
theorem JG {A:List SG} {g:SG} (h:g.kind=1):th A g=A.any (isR g):=by
 unfold th
 simp only [yH,if_pos h,List.length_reverse]
 rw [show A.length+1-1=A.length from by omega,List.take_length]
theorem zaX {P W:List SG} {g1 g:SG} (h1:g1.kind=1) (hW:∀ x∈W,x.kind≠1) (h:g.kind≠1):th (P++g1::W) g=P.any (isR g):=by
 unfold th
 have e:yH (g::(P++g1::W).reverse)=P.length+1:=by
  simp only [yH,if_neg h]
  rw [List.reverse_append,List.reverse_cons,List.append_assoc,qn _ _ (fun x hx=>hW x (by simpa using hx))]
  simp [yH,h1]
 rw [e,show P.length+1-1=P.length from by omega,List.take_left]
structure RC (P:List SG) (rs:List RL):Prop where
 ex:∀ r∈rs,0<=r.ex
 nm:∀ g v,X5 g.text v->(P.any (isR g)=true↔∃ r∈rs,r.nv=v)
theorem Xi (v:Int):∀ (rs:List RL),(∀ r∈rs,0<=r.ex)->(zO v rs=-1↔¬ ∃ r∈rs,r.nv=v):=by
 intro rs
 induction rs with
 | nil=>intro _;simp [zO]
 | cons r l ih =>
  intro h
  simp only [zO]
  split
  ·next e =>
   have:=h r (by simp)
   constructor
   ·intro hh;omega
   ·intro hh;exact absurd ⟨r,by simp,e⟩ hh
  ·next e =>
   rw [ih (fun x hx=>h x (by simp [hx]))]
   simp [e]
theorem RC.nil:RC [] []:=⟨by simp,by simp⟩
theorem RC.step {P W:List SG} {rs:List RL} {g1:SG} {r:RL} (h:RC P rs) (h1:g1.kind=1) (ht:X5 g1.text r.nv) (hr:0<=r.ex) (hW:∀ x∈W,x.kind≠1):RC (P++g1::W) (rs++[r]):=by
 refine ⟨fun x hx=>?_,fun g v hg=>?_⟩
 ·rcases List.mem_append.1 hx with hx | hx
  ·exact h.ex x hx
  ·simp at hx;subst hx;exact hr
 ·rw [List.any_append,List.any_cons,Bool.or_eq_true,Bool.or_eq_true,h.nm g v hg]
  have e1:W.any (isR g)=true↔False:=by
   simp only [List.any_eq_true,iff_false]
   rintro ⟨x,hx,hh⟩
   simp [isR,hW x hx] at hh
  have e2:isR g g1=true↔r.nv=v:=by
   unfold isR
   rw [decide_eq_true h1,Bool.true_and,jI ht hg]
  rw [e1,e2]
  constructor
  ·rintro (⟨x,hx,hv⟩ | hv | hh)
   ·exact ⟨x,List.mem_append_left _ hx,hv⟩
   ·exact ⟨r,by simp,hv⟩
   ·exact absurd hh id
  ·rintro ⟨x,hx,hv⟩
   rcases List.mem_append.1 hx with hx | hx
   ·exact .inl ⟨x,hx,hv⟩
   ·simp at hx;subst hx;exact .inr (.inl hv)
theorem za9 {rs:List RL} {P:List SG} {g1:SG} (h1:g1.kind=1) (hR:RC P rs) (err a:Int):∀ (U W:List SG),(∀ g∈W,g.kind≠1)->(∀ g∈U,KD g)->(FT (P++g1::W) U err a↔FU rs (P++g1::W) U err a):=by
 intro U
 induction U with
 | nil=>intro W _ _;simp [FT,FU]
 | cons g r ih =>
  intro W hW hU
  simp only [FT,FU]
  have hg:=hU g (by simp)
  have e:(P++g1::W)++[g]=P++g1::(W++[g]):=by simp
  rw [e,ih (W++[g]) (fun x hx=>by
   rcases List.mem_append.1 hx with hx | hx
   ·exact hW x hx
   ·simp at hx;subst hx;exact hg.1) (fun x hx=>hU x (by simp [hx]))]
  have:ErT (P++g1::W) g err↔Er rs (P++g1::W) g err:=by
   unfold ErT Er
   have e5:(err=5/\((g.kind=1/\th (P++g1::W) g=true)\/(g.kind=2/\th (P++g1::W) g=false)))↔(err=5/\g.kind=2/\zO (T.ch g.text 0) rs=-1):=by
    rw [zaX h1 hW hg.1]
    constructor
    ·rintro ⟨h,(⟨h2,_⟩ | ⟨h2,h3⟩)⟩
     ·exact absurd h2 hg.1
     ·refine ⟨h,h2,?_⟩
      have:=hR.nm g (T.ch g.text 0) ⟨hg.2 h2,rfl⟩
      rw [Xi _ rs hR.ex,<- this,h3]
      decide
    ·rintro ⟨h,h2,h3⟩
     refine ⟨h,.inr ⟨h2,?_⟩⟩
     have:=hR.nm g (T.ch g.text 0) ⟨hg.2 h2,rfl⟩
     rw [Xi _ rs hR.ex,<- this] at h3
     simpa using h3
   rw [e5]
  rw [this]
def FRs:List RL->List RL->Int->Int->Prop
 | _,[],_,_=>False
 | pre,r::l,err,a=>(zO r.nv pre≠-1/\err=5/\a=r.na)\/FRs (pre++[r]) l err a
structure GT (rs:List RL) (k k':Nat) (U:List SG) (es:List EX) (new:List RL):Prop where
 wl:∀ g∈U,(k:Int)<=g.place/\g.place<k'/\(g.list=-1\/((k:Int)<=g.list/\g.list<k'))
 st:U.Pairwise (fun a b=>a.place<b.place)
 fu:∀ P,(∀ x∈P,x.list<(k:Int))->RC P rs->∀ err a,FT P U err a↔FE es err a\/FRs rs new err a
structure GO (rs:List RL) (k k':Nat) (g1:SG) (W:List SG) (es:List EX) (r:RL):Prop where
 k1:g1.kind=1
 l1:g1.list=-1
 p1:g1.place=r.na
 t1:X5 g1.text r.nv
 ex:0<=r.ex
 w1:(k:Int)<=g1.place/\g1.place<k'
 wl:∀ g∈W,g1.place<g.place/\g.place<k'/\(g.list=-1\/((k:Int)<=g.list/\g.list<k'))/\KD g
 st:W.Pairwise (fun a b=>a.place<b.place)
 fu:∀ P,(∀ x∈P,x.list<(k:Int))->∀ err a,FU rs (P++[g1]) W err a↔FE es err a
theorem GO.fu2 {rs:List RL} {k k':Nat} {g1:SG} {W:List SG} {es:List EX} {r:RL} (h:GO rs k k' g1 W es r) (P:List SG) (hP:∀ x∈P,x.list<(k:Int)) (hR:RC P rs) (err a:Int):FT P (g1::W) err a↔FE es err a\/(zO r.nv rs≠-1/\err=5/\a=r.na):=by
 simp only [FT]
 have e1:ErT P g1 err↔err=5/\zO r.nv rs≠-1:=by
  unfold ErT
  rw [JG h.k1]
  have hn:=hR.nm g1 r.nv h.t1
  have hw:zK g1.kind (T.val g1.text g1.text.size)=false:=by rw [h.k1];rfl
  rw [hw,h.k1,h.l1]
  have hx:P.any (isR g1)=true↔zO r.nv rs≠-1:=by
   rw [hn,Ne,Xi _ rs hR.ex]
   simp
  rw [hx]
  simp
 have e2:=za9 h.k1 hR err a W [] (by simp) (fun g hg=>(h.wl g hg).2.2.2)
 rw [e1,e2,h.fu P hP err a,h.p1]
 constructor
 ·rintro (⟨h1,h2,h3⟩ | h)
  ·exact .inr ⟨h3,h2,h1⟩
  ·exact .inl h
 ·rintro (h | ⟨h1,h2,h3⟩)
  ·exact .inr h
  ·exact .inl ⟨h3,h2,h1⟩
theorem GO.gt {rs:List RL} {k k1 k':Nat} {g1:SG} {W:List SG} {es:List EX} {r:RL} (h:GO rs k k1 g1 W es r) (hk:k1<=k'):GT rs k k' (g1::W) es [r] :=
 ⟨fun g hg=>by
  rcases List.mem_cons.1 hg with rfl | hg
  ·exact ⟨h.w1.1,by have:=h.w1.2;omega,.inl h.l1⟩
  ·have h2:=h.wl g hg
   have h3:=h.w1.1
   exact ⟨by omega,by omega,h2.2.2.1.imp (fun h=>h) (fun h=>⟨h.1,by omega⟩)⟩,
  List.pairwise_cons.2 ⟨fun g hg=>(h.wl g hg).1,h.st⟩,
  fun P hP hR err a=>by rw [h.fu2 P hP hR err a];simp [FRs]⟩
theorem GT.cons {rs:List RL} {k k1 k2 k':Nat} {g1:SG} {W U:List SG} {es fs:List EX} {r:RL} {new:List RL} (h:GO rs k k1 g1 W es r) (h12:k1<=k2) (hk2:k<=k2) (h23:k2<=k') (h2:GT (rs++[r]) k2 k' U fs new):GT rs k k' ((g1::W)++U) (es++fs) (r::new):=by
 have hg1:=h.gt (Nat.le_refl k1)
 refine ⟨fun g hg=>?_,?_,fun P hP hR err a=>?_⟩
 ·rcases List.mem_append.1 hg with hg | hg
  ·have h1:=hg1.wl g hg
   exact ⟨h1.1,by omega,h1.2.2.imp (fun h=>h) (fun h=>⟨h.1,by omega⟩)⟩
  ·have h1:=h2.wl g hg
   exact ⟨by omega,h1.2.1,h1.2.2.imp (fun h=>h) (fun h=>⟨by omega,h.2⟩)⟩
 ·refine List.pairwise_append.2 ⟨hg1.st,h2.st,fun a ha b hb=>?_⟩
  have h3:=(hg1.wl a ha).2.1
  have h4:=(h2.wl b hb).1
  omega
 ·rw [zaV,h.fu2 P hP hR err a,h2.fu (P++(g1::W)) (fun y hy=>?_) (hR.step h.k1 h.t1 h.ex (fun x hx=>(h.wl x hx).2.2.2.1)) err a,Yr]
  ·simp only [FRs]
   constructor
   ·rintro ((h | h) | (h | h))
    ·exact .inl (.inl h)
    ·exact .inr (.inl h)
    ·exact .inl (.inr h)
    ·exact .inr (.inr h)
   ·rintro ((h | h) | (h | h))
    ·exact .inl (.inl h)
    ·exact .inr (.inl h)
    ·exact .inl (.inr h)
    ·exact .inr (.inr h)
  ·rcases List.mem_append.1 hy with hy | hy
   ·have:=hP y hy;omega
   ·rcases (hg1.wl y hy).2.2 with h | h<;>omega
theorem ZD (s:ByteArray) (k:Nat):zm s k ⟨256,0,0,0⟩=⟨true,T.sk s k,[⟨263,1,0,-1⟩,byF 58,⟨258,0,0,0⟩],[]⟩:=by
 unfold zm
 simp only
 rw [if_pos trivial]
theorem xM (s:ByteArray) (k:Nat):zm s k ⟨257,0,0,0⟩=⟨true,T.sk s k,if T.ch s (T.sk s k)=59 then [byF 59,⟨256,0,0,0⟩,⟨257,0,0,0⟩] else [],[]⟩:=by
 unfold zm
 simp only
 rw [if_neg (by decide),if_pos trivial]
theorem X7 {s:ByteArray} {k:Nat}:takeB s 59 k false=true↔T.ch s (T.sk s k)=59:=by
 unfold takeB
 rw [zl,yo,beq_iff_eq]
 by_cases h:T.sk s k<s.size
 ·rw [if_pos h]
 ·rw [if_neg h,T.ch_ge h];omega
theorem js (s:ByteArray) (rs:List RL) (m k:Nat) (hk:k<=s.size):Run s k [⟨256,0,0,0⟩] (zw s rs m k false).k (zw s rs m k false).b (fun V=>∃ g1 W,V=g1::W/\GO rs k (zw s rs m k false).k g1 W (zw s rs m k false).es (zw s rs m k false).rl):=by
 have hge:=T.sk_ge s k
 have hle:=T.sk_le hk
 have hss:=ZU s k
 have elk:zE s (T.sk s k) false=zE s k false:=by unfold zE yX;rw [zl,zl,hss]
 have elx:zL s (T.sk s k) false=zL s k false:=by unfold zL yX;rw [zl,zl,hss]
 have hl0:=Zu s k false
 have hl1:=Yb (b:=false) hk
 have hb0:=zg s 58 (zE s k false) (zL s k false)
 have hb1:zb s 58 (zE s k false) (zL s k false)<=s.size:=zj (by decide) hl1
 have hR0:=((Yq.nil s (T.sk s k)).run.letter 1 0 (-1)).run.want 58 (by decide) (by decide) (by decide)
 rw [elk,elx,zl,hss] at hR0
 have hR:=hR0.run.expr (j2 s rs (s.size+1)) (fun d m k b h=>xP h) hb1 0 (by decide) m (by omega)
 have hmo:=z8 s rs (s.size+1) 0 m (zb s 58 (zE s k false) (zL s k false)) (ze s 58 (zE s k false) (zL s k false)) hb1
 unfold zw
 simp only [zl]
 generalize zb s 58 (zE s k false) (zL s k false)=k2 at *
 generalize ze s 58 (zE s k false) (zL s k false)=b2 at *
 generalize cE s rs (s.size+1) 0 m k2 b2=r at *
 have hlift:∀ (G:List SG->Prop),Run s (T.sk s k) [⟨263,1,0,-1⟩,byF 58,⟨258,0,0,0⟩] r.k r.b G->Run s k [⟨256,0,0,0⟩] r.k r.b G:=fun G h=>by
  rcases h with ⟨U,h1,h2,h3⟩ | ⟨h1,h2⟩
  ·have:=Par.step (s:=s) (k:=k) (f:=⟨256,0,0,0⟩) (ok:=true) (b:=r.k) (sg2:=U.reverse) (by rw [ZD]) (by rw [ZD];exact h1)
   rw [ZD] at this
   exact .inl ⟨U,by simpa using this,h2,h3⟩
  ·exact .inr ⟨zJ.step (s:=s) (k:=k) (f:=⟨256,0,0,0⟩) (by rw [ZD]) (by rw [ZD];exact h1),h2⟩
 refine hlift _ (hR.mono fun _ U hU=>?_)
 obtain ⟨V,W,rfl,⟨⟨V2,rfl,rfl,_,h2,h3⟩,_⟩,_,h4,hG⟩:=hU
 refine ⟨_,W,rfl,rfl,rfl,rfl,h3,h4,⟨by simp only;omega,by simp only;omega⟩,fun g hg=>?_,hG.st,fun P hP err a=>?_⟩
 ·have h5:=hG.wl g hg
  exact ⟨by simp only;omega,h5.2.1,h5.2.2.1.imp (fun h=>h) (fun h=>⟨by omega,h.2⟩),h5.2.2.2⟩
 ·exact hG.fu _ (fun x hx=>by
   rcases List.mem_append.1 hx with hx | hx
   ·have:=hP x hx;omega
   ·simp at hx;subst hx;simp only;omega) err a
theorem Qx (s:ByteArray):∀ (N:Nat) (rs:List RL) (m k:Nat),k<=s.size->s.size+1<=N+k ->
 Run s k [⟨256,0,0,0⟩,⟨257,0,0,0⟩] (zo s N rs m k false).k (zo s N rs m k false).b (fun U=>(∃ new,(zo s N rs m k false).rs=rs++new/\GT rs k (zo s N rs m k false).k U (zo s N rs m k false).es new)/\T.sk s (zo s N rs m k false).k=(zo s N rs m k false).k)/\k<=(zo s N rs m k false).k:=by
 intro N
 induction N with
 | zero=>intro rs m k h1 h2;omega
 | succ N ih =>
  intro rs m k hk hN
  have h1:=js s rs m k hk
  have hmo:=yx s rs m k false hk
  simp only [zo]
  generalize zw s rs m k false=it at *
  rcases h1 with ⟨V,a1,a2,g1,W,rfl,a3⟩ | ⟨a1,a2⟩
  ·rw [a2]
   have htg:=zg s 59 it.k false
   have htl:zb s 59 it.k false<=s.size:=zj (by decide) hmo.2.1
   cases ht:takeB s 59 it.k false with
   | false =>
    have hne:¬ T.ch s (T.sk s it.k)=59:=fun h=>by rw [X7.2 h] at ht;cases ht
    have e:zb s 59 it.k false=T.sk s it.k:=by unfold zb;rw [if_neg (by rw [ht];decide),zl]
    have hst:=xM s it.k
    rw [if_neg hne] at hst
    have h2:Par s it.k [⟨257,0,0,0⟩] true (zb s 59 it.k false) []:=by
     have:=Par.step (s:=s) (k:=it.k) (f:=⟨257,0,0,0⟩) (ok:=true) (b:=T.sk s it.k) (sg2:=[]) (by rw [hst]) (by rw [hst];exact Par.nil _ _)
     rw [hst] at this
     rw [e];exact this
    simp only [Bool.false_eq_true,if_false]
    exact ⟨.inl ⟨g1::W,by have:=a1.app h2;simpa using this,rfl,⟨[it.rl],rfl,a3.gt htg⟩,by rw [e,ZU]⟩,by omega⟩
   | true =>
    have h59:=X7.1 ht
    have hst:=xM s it.k
    rw [if_pos h59] at hst
    have htk:it.k+1<=zb s 59 it.k false:=by
     unfold zb;rw [if_pos ht];have:=zH s it.k false;omega
    have ht2:takeB s 59 (T.sk s it.k) false=true:=X7.2 (by rw [ZU];exact h59)
    have e2:zb s 59 (T.sk s it.k) false=zb s 59 it.k false:=by unfold zb;rw [if_pos ht,if_pos ht2,zl,zl,ZU]
    have hw:=(Ys (s:=s) (k:=T.sk s it.k) (c:=59) (by decide) (by decide) ht2).1
    rw [e2] at hw
    have hR:=ih (rs++[it.rl]) (m+it.es.length) (zb s 59 it.k false) htl (by omega)
    generalize zo s N (rs++[it.rl]) (m+it.es.length) (zb s 59 it.k false) false=q at *
    generalize zb s 59 it.k false=k2 at *
    simp only [if_true]
    obtain ⟨hR,hk2⟩:=hR
    refine ⟨?_,by omega⟩
    rcases hR with ⟨U,b1,b2,⟨new,b3,b4⟩,b5⟩ | ⟨b1,b2⟩
    ·have h3:=hw.cons b1
     have h4:=Par.step (s:=s) (k:=it.k) (f:=⟨257,0,0,0⟩) (ok:=true) (b:=q.k) (sg2:=U.reverse++[]) (by rw [hst]) (by rw [hst];exact h3)
     rw [hst] at h4
     refine .inl ⟨(g1::W)++U,?_,b2,⟨it.rl::new,by rw [b3];simp,GT.cons a3 (by omega) (by omega) hk2 b4⟩,b5⟩
     have:=a1.app h4
     rw [List.reverse_append]
     simpa using this
    ·have h3:=zJ.after hw b1
     have h4:=zJ.step (s:=s) (k:=it.k) (f:=⟨257,0,0,0⟩) (by rw [hst]) (by rw [hst];exact h3)
     exact .inr ⟨zJ.app2 a1 h4,b2⟩
  ·have:=zY a2 (c:=59) (by decide) (by decide)
   rw [this.1]
   simp only [Bool.false_eq_true,if_false]
   rw [this.2.1]
   exact ⟨.inr ⟨a1.app [⟨257,0,0,0⟩],a2⟩,hmo.1⟩
def zT (S:Int->Int->Prop) (f:Int×Int):Prop:=(f=(0,0)/\∀ err a,¬ S err a)\/(f.1≠0/\S f.1 f.2/\∀ err a,S err a->f.2<a\/(f.2=a/\f.1<=err))
theorem zT.congr {S S':Int->Int->Prop} {f:Int×Int} (h:zT S f) (e:∀ err a,S err a↔S' err a):zT S' f:=by
 rcases h with ⟨h1,h2⟩ | ⟨h1,h2,h3⟩
 ·exact .inl ⟨h1,fun err a hs=>h2 err a ((e err a).2 hs)⟩
 ·exact .inr ⟨h1,(e _ _).1 h2,fun err a hs=>h3 err a ((e err a).2 hs)⟩
theorem zT.unique {S:Int->Int->Prop} {f g:Int×Int} (h:zT S f) (k:zT S g):f=g:=by
 rcases h with ⟨h1,h2⟩ | ⟨h1,h2,h3⟩
 ·rcases k with ⟨k1,k2⟩ | ⟨k1,k2,k3⟩
  ·rw [h1,k1]
  ·exact absurd k2 (h2 _ _)
 ·rcases k with ⟨k1,k2⟩ | ⟨k1,k2,k3⟩
  ·exact absurd h2 (k2 _ _)
  ·have a1:=h3 _ _ k2
   have a2:=k3 _ _ h2
   have e1:f.1=g.1:=by omega
   have e2:f.2=g.2:=by omega
   exact Prod.ext e1 e2
theorem Yg {S:Int->Int->Prop} {f:Int×Int} (h:zT S f) (e x:Int) (he:e≠0):zT (fun err a=>S err a\/(err=e/\a=x)) (fnd f e x):=by
 unfold fnd
 split
 ·next hc =>
  refine .inr ⟨he,.inr ⟨rfl,rfl⟩,fun err a hs=>?_⟩
  rcases hs with hs | ⟨rfl,rfl⟩
  ·rcases h with ⟨_,h2⟩ | ⟨h1,h2,h3⟩
   ·exact absurd hs (h2 _ _)
   ·have:=h3 err a hs
    rcases hc with hc | hc | hc
    ·exact absurd hc h1
    ·simp only;omega
    ·simp only;omega
  ·exact .inr ⟨rfl,Int.le_refl _⟩
 ·next hc =>
  rcases h with ⟨h1,_⟩ | ⟨h1,h2,h3⟩
  ·exact absurd (.inl (by rw [h1])) hc
  ·refine .inr ⟨h1,.inl h2,fun err a hs=>?_⟩
   rcases hs with hs | ⟨rfl,rfl⟩
   ·exact h3 err a hs
   ·have c2:¬ a<f.2:=fun h=>hc (.inr (.inl h))
    have c3:¬ (a=f.2/\err<f.1):=fun h=>hc (.inr (.inr h))
    omega
theorem YD {S T:Int->Int->Prop} {f g:Int×Int} {c:Prop} [Decidable c] (h:zT S f) (hg:c->zT (fun err a=>S err a\/T err a) g):zT (fun err a=>S err a\/(c/\T err a)) (if c then g else f):=by
 split
 ·next hc=>exact (hg hc).congr (fun err a=>by simp [hc])
 ·next hc=>exact h.congr (fun err a=>by simp [hc])
theorem ZJ {S:Int->Int->Prop} {f:Int×Int} (h:zT S f) (v x lo hi:Int):zT (fun err a=>S err a\/((v<lo\/hi<v)/\err=6/\a=x)) (Zm f v x lo hi):=YD h (fun _=>Yg h 6 x (by decide))
def jc (c:Int) (x:IM) (err a:Int):Prop:=((c=123\/c=102\/c=119)/\(x.num<0\/63<x.num)/\err=6/\a=x.at_)\/(c=119/\(x.wv<1\/1000<x.wv)/\err=6/\a=x.wa)\/(c=103/\(x.num<0\/99<x.num)/\err=6/\a=x.at_)
theorem QN {S:Int->Int->Prop} {f:Int×Int} (h:zT S f) (c:Int) (x:IM):zT (fun err a=>S err a\/jc c x err a) (Zv c x f):=by
 unfold Zv
 split
 ·next hc =>
  refine (ZJ h x.num x.at_ 0 63).congr fun err a=>?_
  unfold jc
  rcases hc with rfl | rfl<;>simp
 ·next h1 =>
  split
  ·next hc =>
   subst hc
   refine (ZJ (ZJ h x.num x.at_ 0 63) x.wv x.wa 1 1000).congr fun err a=>?_
   unfold jc
   simp [or_assoc]
  ·next h2 =>
   split
   ·next hc =>
    subst hc
    refine (ZJ h x.num x.at_ 0 99).congr fun err a=>?_
    unfold jc
    simp
   ·next h3 =>
    refine h.congr fun err a=>?_
    have:c≠123/\c≠102:=⟨fun e=>h1 (.inl e),fun e=>h1 (.inr e)⟩
    unfold jc
    simp [this.1,this.2,h2,h3]
theorem J3 {S:Int->Int->Prop} {f:Int×Int} (h:zT S f) (c:Int) (l:List IM) (j:Nat) (x:IM) (hj:j<l.length):zT (fun err a=>S err a\/FIm c (l.take j) x err a) (fIt c l j x f):=by
 have h1:zT (fun err a=>S err a\/(16<=j/\err=4/\a=x.at_)) (if 16<=j then fnd f 4 x.at_ else f):=YD h (fun _=>Yg h 4 x.at_ (by decide))
 have h2:=YD (c:=(l.take j).any (fun y=>z7 y x)=true) h1 (fun _=>Yg h1 7 x.at_ (by decide))
 have h3:=QN h2 c x
 refine h3.congr fun err a=>?_
 have:(l.take j).length=j:=by rw [List.length_take];omega
 unfold FIm jc
 rw [this]
 simp only [or_assoc]
theorem Qh (c:Int) (A B:List IM) (err a:Int):∀ pre,FIs c pre (A++B) err a↔FIs c pre A err a\/FIs c (pre++A) B err a:=by
 induction A with
 | nil=>intro P;simp [FIs]
 | cons g r ih =>
  intro P
  simp only [List.cons_append,FIs]
  rw [ih (P++[g]),List.append_assoc,List.singleton_append,or_assoc]
theorem jV {S:Int->Int->Prop} {f:Int×Int} (h:zT S f) (c:Int) (l:List IM):∀ n,n<=l.length->zT (fun err a=>S err a\/FIs c [] (l.take n) err a) (yr c l f n):=by
 intro n
 induction n with
 | zero=>intro _;exact h.congr (fun err a=>by simp [FIs])
 | succ n ih =>
  intro hn
  have hx:l[n]?=some l[n]:=List.getElem?_eq_getElem (by omega)
  simp only [yr,hx]
  refine (J3 (ih (by omega)) c l n l[n] (by omega)).congr fun err a=>?_
  rw [List.take_add_one,hx]
  simp only [Option.toList]
  rw [Qh]
  simp [FIs,or_assoc]
theorem QQ {S:Int->Int->Prop} {f:Int×Int} (h:zT S f) (e:EX):zT (fun err a=>S err a\/FEx e err a) (ZW e f):=by
 have h1:zT (fun err a=>S err a\/(12<=e.depth/\err=3/\a=e.at_)) (if 12<=e.depth then fnd f 3 e.at_ else f):=YD h (fun _=>Yg h 3 e.at_ (by decide))
 unfold ZW
 simp only
 generalize (if 12<=e.depth then fnd f 3 e.at_ else f)=f1 at *
 split
 ·next hc =>
  refine (ZJ h1 e.nv e.na 1 86400).congr fun err a=>?_
  unfold FEx
  simp [hc,or_assoc]
 ·next c1 =>
  split
  ·next hc =>
   refine (ZJ h1 e.nv e.na 0 15).congr fun err a=>?_
   unfold FEx
   simp [hc,or_assoc]
  ·next c2 =>
   split
   ·next hc =>
    refine (YD (c:=e.inner=-1) h1 (fun _=>Yg h1 5 e.na (by decide))).congr fun err a=>?_
    unfold FEx
    simp [hc,or_assoc]
   ·next c3 =>
    refine h1.congr fun err a=>?_
    unfold FEx
    simp [c1,c2,c3]
theorem jX {S:Int->Int->Prop} {f:Int×Int} (h:zT S f) (es:List EX):∀ n,n<=es.length->zT (fun err a=>S err a\/FE (es.take n) err a) (Zg es f n):=by
 intro n
 induction n with
 | zero=>intro _;exact h.congr (fun err a=>by simp [FE])
 | succ n ih =>
  intro hn
  have hx:es[n]?=some es[n]:=List.getElem?_eq_getElem (by omega)
  simp only [Zg,hx]
  refine (jV (QQ (ih (by omega)) es[n]) es[n].kind es[n].items es[n].items.length (Nat.le_refl _)).congr fun err a=>?_
  rw [List.take_length,List.take_add_one,hx]
  simp only [Option.toList]
  rw [Yr,YR,or_assoc,or_assoc]
theorem Qg (A B:List RL) (err a:Int):∀ pre,FRs pre (A++B) err a↔FRs pre A err a\/FRs (pre++A) B err a:=by
 induction A with
 | nil=>intro P;simp [FRs]
 | cons g r ih =>
  intro P
  simp only [List.cons_append,FRs]
  rw [ih (P++[g]),List.append_assoc,List.singleton_append,or_assoc]
theorem jT {S:Int->Int->Prop} {f:Int×Int} (h:zT S f) (rs:List RL):∀ n,n<=rs.length->zT (fun err a=>S err a\/FRs [] (rs.take n) err a) (yq rs f n):=by
 intro n
 induction n with
 | zero=>intro _;exact h.congr (fun err a=>by simp [FRs])
 | succ n ih =>
  intro hn
  have hx:rs[n]?=some rs[n]:=List.getElem?_eq_getElem (by omega)
  simp only [yq,hx]
  have h1:=ih (by omega)
  have h2:zT (fun err a=>(S err a\/FRs [] (rs.take n) err a)\/(zO rs[n].nv (rs.take n)≠-1/\err=5/\a=rs[n].na)) (if zO rs[n].nv (rs.take n)=-1 then yq rs f n else fnd (yq rs f n) 5 rs[n].na):=by
   split
   ·next hc=>exact h1.congr (fun err a=>by simp [hc])
   ·next hc=>exact (Yg h1 5 _ (by decide)).congr (fun err a=>by simp [hc])
  refine h2.congr fun err a=>?_
  rw [List.take_add_one,hx]
  simp only [Option.toList]
  rw [Qg]
  simp [FRs,or_assoc]
theorem Zo (es:List EX) (rs:List RL):zT (fun err a=>FE es err a\/FRs [] rs err a) (ZK es rs):=by
 have h0:zT (fun _ _=>False) (0,0):=.inl ⟨rfl,fun _ _ h=>h⟩
 have h1:=jT h0 rs rs.length (Nat.le_refl _)
 have h2:=jX h1 es es.length (Nat.le_refl _)
 refine h2.congr fun err a=>?_
 rw [List.take_length,List.take_length]
 simp only [false_or]
 exact or_comm
theorem je (A B:List SG) (g:SG):x9 (A++g::B) A.length g=th A g:=by
 unfold x9 th
 have e1:(A++g::B).take (A.length+1)=A++[g]:=by
  rw [show A++g::B=(A++[g])++B from by simp]
  exact List.take_left' (by simp)
 rw [e1,List.reverse_append]
 simp only [List.reverse_cons,List.reverse_nil,List.nil_append,List.singleton_append]
 have h:=XL (g::A.reverse)
 simp only [List.length_cons,List.length_reverse] at h
 have e2:(A++g::B).take (yH (g::A.reverse)-1)=A.take (yH (g::A.reverse)-1):=by
  rw [List.take_append_of_le_length (by omega)]
 rw [e2]
theorem J2 (A B:List SG) (g:SG):(flt (A++g::B) A.length g=0/\∀ err,¬ ErT A g err)\/(flt (A++g::B) A.length g≠0/\ErT A g (flt (A++g::B) A.length g)/\∀ err,ErT A g err->flt (A++g::B) A.length g<=err):=by
 have hm:16<=xf (A++g::B) A.length g↔g.list≠-1/\16<=yQ g A:=by
  unfold xf
  rw [List.take_left,Jk]
  by_cases h:g.list=-1
  ·rw [if_pos h];simp [h]
  ·rw [if_neg h];simp [h];omega
 have hs:xb (A++g::B) A.length g=true↔g.list≠-1/\Zb g A=true:=by
  unfold xb
  rw [List.take_left,Jj]
  by_cases h:g.list=-1
  ·rw [if_pos h];simp [h]
  ·rw [if_neg h];simp [h]
 unfold flt QJ zS
 rw [je]
 unfold ErT
 by_cases c3:g.kind=3/\12<=g.depth
 ·rw [if_pos c3]
  refine .inr ⟨by decide,.inl ⟨rfl,c3⟩,fun err h=>?_⟩
  rcases h with h | h | h | h | h<;>omega
 ·rw [if_neg c3]
  by_cases c4':16<=xf (A++g::B) A.length g
  ·rw [if_pos c4']
   have c4:=hm.1 c4'
   refine .inr ⟨by decide,.inr (.inl ⟨rfl,c4⟩),fun err h=>?_⟩
   rcases h with h | h | h | h | h
   ·exact absurd h.2 c3
   all_goals omega
  ·rw [if_neg c4']
   have c4:¬ (g.list≠-1/\16<=yQ g A):=fun h=>c4' (hm.2 h)
   by_cases c5:(g.kind=1/\th A g=true)\/(g.kind=2/\th A g=false)
   ·rw [if_pos c5]
    refine .inr ⟨by decide,.inr (.inr (.inl ⟨rfl,c5⟩)),fun err h=>?_⟩
    rcases h with h | h | h | h | h
    ·exact absurd h.2 c3
    ·exact absurd h.2 c4
    all_goals omega
   ·rw [if_neg c5]
    by_cases c6:zK g.kind (T.val g.text g.text.size)=true
    ·rw [if_pos c6]
     refine .inr ⟨by decide,.inr (.inr (.inr (.inl ⟨rfl,c6⟩))),fun err h=>?_⟩
     rcases h with h | h | h | h | h
     ·exact absurd h.2 c3
     ·exact absurd h.2 c4
     ·exact absurd h.2 c5
     all_goals omega
    ·rw [if_neg c6]
     by_cases c7':xb (A++g::B) A.length g=true
     ·rw [if_pos c7']
      have c7:=hs.1 c7'
      refine .inr ⟨by decide,.inr (.inr (.inr (.inr ⟨rfl,c7⟩))),fun err h=>?_⟩
      rcases h with h | h | h | h | h
      ·exact absurd h.2 c3
      ·exact absurd h.2 c4
      ·exact absurd h.2 c5
      ·exact absurd h.2 c6
      ·omega
     ·rw [if_neg c7']
      have c7:¬ (g.list≠-1/\Zb g A=true):=fun h=>c7' (hs.2 h)
      refine .inl ⟨rfl,fun err h=>?_⟩
      rcases h with h | h | h | h | h
      ·exact c3 h.2
      ·exact c4 h.2
      ·exact c5 h.2
      ·exact c6 h.2
      ·exact c7 h.2
theorem Jw {err a:Int}:∀ (U P:List SG),FT P U err a->∃ g∈U,a=g.place:=by
 intro U
 induction U with
 | nil=>intro P h;exact absurd h id
 | cons g r ih =>
  intro P h
  rcases h with h | h
  ·exact ⟨g,by simp,h.1⟩
  ·obtain ⟨x,hx,e⟩:=ih _ h
   exact ⟨x,by simp [hx],e⟩
theorem J0:∀ (B A:List SG) (n:Nat),B.length<=n->B.Pairwise (fun a b=>a.place<b.place)->zT (FT A B) (YE (A++B) n A.length):=by
 intro B
 induction B with
 | nil =>
  intro A n _ _
  refine .inl ⟨?_,fun err a h=>h⟩
  cases n with
  | zero=>rfl
  | succ n=>simp [YE]
 | cons g r ih =>
  intro A n hn hst
  obtain ⟨n,rfl⟩:∃ m,n=m+1:=⟨n-1,by simp only [List.length_cons] at hn;omega⟩
  have hg:(A++g::r)[A.length]?=some g:=by simp
  have hp:=List.pairwise_cons.1 hst
  have h2:=ih (A++[g]) n (by simp only [List.length_cons] at hn;omega) hp.2
  rw [List.append_assoc,List.singleton_append,List.length_append] at h2
  simp only [List.length_cons,List.length_nil,Nat.zero_add] at h2
  simp only [YE,hg]
  rcases J2 A r g with ⟨h,h'⟩ | ⟨h,h',h3⟩
  ·rw [if_pos h]
   refine h2.congr fun err a=>?_
   simp only [FT]
   constructor
   ·intro hh;exact .inr hh
   ·rintro (hh | hh)
    ·exact absurd hh.2 (h' err)
    ·exact hh
  ·rw [if_neg h]
   refine .inr ⟨h,.inl ⟨rfl,h'⟩,fun err a hh=>?_⟩
   rcases hh with hh | hh
   ·exact .inr ⟨hh.1.symm,h3 err hh.2⟩
   ·obtain ⟨x,hx,e⟩:=Jw _ _ hh
    left
    rw [e]
    exact hp.1 x hx
theorem qD (s:ByteArray):chk s=zU s:=by
 unfold chk zU
 by_cases h2k:2000<s.size
 ·rw [if_pos h2k,if_pos h2k]
 rw [if_neg h2k,if_neg h2k]
 have hP:=(Qx s (s.size+1) [] 0 0 (Nat.zero_le _) (by omega)).1
 have hC:zo s (s.size+1) [] 0 0 false=zk s:=rfl
 rw [hC] at hP
 generalize zk s=C at *
 obtain ⟨q,hq,_,_,_⟩:=XB s
 obtain ⟨ok,at_,sg,n⟩:=q
 have hrd:rd s=rdE s (ok,at_,if ok=true then sg else []):=by unfold rd;rw [hq]
 rw [hrd]
 unfold rd0 at hq
 rcases hP with ⟨U,a1,a2,⟨new,a3,a4⟩,a5⟩ | ⟨⟨sg',a1⟩,a2⟩
 ·obtain ⟨rfl,rfl,rfl⟩:=a1.det hq
  rw [List.nil_append] at a3
  unfold rdE
  simp only [if_true,a5,a2,Bool.false_or]
  by_cases hlt:C.k<s.size
  ·have hch:=T.ch_bd hlt
   rw [if_pos hch.1,decide_eq_true hlt]
   simp
  ·have e0:¬ (0:Int)<=T.ch s C.k:=by rw [T.ch_ge hlt];decide
   rw [if_neg e0,decide_eq_false hlt]
   simp only [Bool.false_eq_true,if_false,if_true]
   have h1:=J0 U.reverse.reverse [] U.reverse.length (by simp) (by rw [List.reverse_reverse];exact a4.st)
   simp only [List.nil_append,List.length_nil] at h1
   rw [List.reverse_reverse] at h1 ⊢
   have h2:zT (FT [] U) (ZK C.es C.rs):=by
    refine (Zo C.es C.rs).congr fun err a=>?_
    rw [a3]
    exact (a4.fu [] (by simp) RC.nil err a).symm
   have h3:=h1.unique h2
   rw [h3]
   split
   ·next h0 =>
    rcases h2 with ⟨e,_⟩ | ⟨e,_⟩
    ·exact e
    ·exact absurd h0 e
   ·rfl
 ·obtain ⟨rfl,rfl,rfl⟩:=a1.det hq
  have hbad:(C.b || decide (C.k<s.size))=true:=by
   rcases a2 with h | h
   ·rw [h];rfl
   ·rw [decide_eq_true (T.dig_lt h),Bool.or_true]
  unfold rdE
  rw [hbad]
  simp
end Go.Proofs.Ytaebngpoagjafab
