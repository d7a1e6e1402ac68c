import Derived.Test.YtaebngpoagjafabGreatU20
import Derived.Test.YtaebngpoagjafabGreatU30
import Derived.Test.YtaebngpoagjafabGreatU31
set_option maxRecDepth 100000
namespace Go.Proofs.YtaebngpoagjafabGreat
open Go.RowKit
def th (A:List SG) (g:SG):Bool:=(A.take (Zx (g::A.reverse)-1)).any (isR g)
def ErT (A:List SG) (g:SG) (err:Int):Prop :=
 (err=3/\g.kind=3/\12<=g.depth)\/(err=4/\g.list≠-1/\16<=ZI g A)\/(err=5/\((g.kind=1/\th A g=true)\/(g.kind=2/\th A g=false)))\/(err=6/\zR g.kind (T.val g.text g.text.size)=true)\/(err=7/\g.list≠-1/\ZS g A=true)
def FT:List SG->List SG->Int->Int->Prop
 | _,[],_,_=>False
 | P,g::U,err,a=>(a=g.place/\ErT P g err)\/FT (P++[g]) U err a
theorem zfQ (A B:List SG) (err a:Int):∀ P,FT P (A++B) err a↔FT P A err a\/FT (P++A) B err a:=by
 induction A with
 | nil=>intro P;simp [FT]
 | cons g r ih =>
  intro P
  simp only [List.cons_append,FT]
  rw [ih (P++[g]),List.append_assoc,List.singleton_append,or_assoc]
theorem JL (W X:List SG) (h:∀ g∈W,g.kind≠1):Zx (W++X)=Zx X:=by
 induction W with
 | nil=>rfl
 | cons g r ih=>simp only [List.cons_append,Zx];rw [if_neg (h g (by simp)),ih (fun y hy=>h y (by simp [hy]))]
theorem zdV {A:List SG} {g:SG} (h:g.kind=1):th A g=A.any (isR g):=by
 unfold th
 simp only [Zx,if_pos h,List.length_reverse]
 rw [show A.length+1-1=A.length from by omega,List.take_length]
theorem zfT {P W:List SG} {g1 g:SG} (h1:g1.kind=1) (hW:∀ x∈W,x.kind≠1) (h:g.kind≠1):th (P++g1::W) g=P.any (isR g):=by
 unfold th
 have e:Zx (g::(P++g1::W).reverse)=P.length+1:=by
  simp only [Zx,if_neg h]
  rw [List.reverse_append,List.reverse_cons,List.append_assoc,JL _ _ (fun x hx=>hW x (by simpa using hx))]
  simp [Zx,h1]
 rw [e,show P.length+1-1=P.length from by omega,List.take_left]
structure RC (P:List SG) (rs:List RL):Prop where
 ex:∀ r∈rs,0<=r.ex
 nm:∀ g v,Jl g.text v->(P.any (isR g)=true↔∃ r∈rs,r.nv=v)
theorem Q2 (v:Int):∀ (rs:List RL),(∀ r∈rs,0<=r.ex)->(yn v rs=-1↔¬ ∃ r∈rs,r.nv=v):=by
 intro rs
 induction rs with
 | nil=>intro _;simp [yn]
 | cons r l ih =>
  intro h
  simp only [yn]
  split
  ·next e =>
   have:=h r (by simp)
   constructor
   ·intro a;omega
   ·intro a;exact absurd ⟨r,by simp,e⟩ a
  ·next e =>
   rw [ih (fun x hx=>h x (by simp [hx]))]
   simp [e]
theorem RC.nil:RC [] []:=⟨by simp,by simp⟩
theorem RC.step {P W:List SG} {rs:List RL} {g1:SG} {r:RL} (h:RC P rs) (h1:g1.kind=1) (ht:Jl g1.text r.nv) (hr:0<=r.ex) (hW:∀ x∈W,x.kind≠1):RC (P++g1::W) (rs++[r]):=by
 refine ⟨fun x a=>?_,fun g v hg=>?_⟩
 ·rcases List.mem_append.1 a with a | a
  ·exact h.ex x a
  ·simp at a;subst a;exact hr
 ·rw [List.any_append,List.any_cons,Bool.or_eq_true,Bool.or_eq_true,h.nm g v hg]
  have f:W.any (isR g)=true↔False:=by
   simp only [List.any_eq_true,iff_false]
   rintro ⟨x,a,d⟩
   simp [isR,hW x a] at d
  have e:isR g g1=true↔r.nv=v:=by
   unfold isR
   rw [decide_eq_true h1,Bool.true_and,zcS ht hg]
  rw [f,e]
  constructor
  ·rintro (⟨x,a,b⟩ | b | d)
   ·exact ⟨x,List.mem_append_left _ a,b⟩
   ·exact ⟨r,by simp,b⟩
   ·exact absurd d id
  ·rintro ⟨x,a,b⟩
   rcases List.mem_append.1 a with a | a
   ·exact .inl ⟨x,a,b⟩
   ·simp at a;subst a;exact .inr (.inl b)
theorem zf3 {rs:List RL} {P:List SG} {g1:SG} (h1:g1.kind=1) (hR:RC P rs) (err a:Int):∀ (U W:List SG),(∀ g∈W,g.kind≠1)->(∀ g∈U,KD g)->(FT (P++g1::W) U err a↔FU rs (P++g1::W) U err a):=by
 intro U
 induction U with
 | nil=>intro W _ _;simp [FT,FU]
 | cons g r ih =>
  intro W i j
  simp only [FT,FU]
  have d:=j g (by simp)
  have e:(P++g1::W)++[g]=P++g1::(W++[g]):=by simp
  rw [e,ih (W++[g]) (fun x hx=>by
   rcases List.mem_append.1 hx with hx | hx
   ·exact i x hx
   ·simp at hx;subst hx;exact d.1) (fun x hx=>j x (by simp [hx]))]
  have:ErT (P++g1::W) g err↔Er rs (P++g1::W) g err:=by
   unfold ErT Er
   have k:(err=5/\((g.kind=1/\th (P++g1::W) g=true)\/(g.kind=2/\th (P++g1::W) g=false)))↔(err=5/\g.kind=2/\yn (T.ch g.text 0) rs=-1):=by
    rw [zfT h1 i d.1]
    constructor
    ·rintro ⟨h,(⟨b,_⟩ | ⟨b,f⟩)⟩
     ·exact absurd b d.1
     ·refine ⟨h,b,?_⟩
      have:=hR.nm g (T.ch g.text 0) ⟨d.2 b,rfl⟩
      rw [Q2 _ rs hR.ex,<- this,f]
      decide
    ·rintro ⟨h,b,f⟩
     refine ⟨h,.inr ⟨b,?_⟩⟩
     have:=hR.nm g (T.ch g.text 0) ⟨d.2 b,rfl⟩
     rw [Q2 _ rs hR.ex,<- this] at f
     simpa using f
   rw [k]
  rw [this]
def FRs:List RL->List RL->Int->Int->Prop
 | _,[],_,_=>False
 | pre,r::l,err,a=>(yn r.nv pre≠-1/\err=5/\a=r.na)\/FRs (pre++[r]) l err a
structure GT (rs:List RL) (k k':Nat) (U:List SG) (es:List EX) (new:List RL):Prop where
 wl:∀ g∈U,(k:Int)<=g.place/\g.place<k'/\(g.list=-1\/((k:Int)<=g.list/\g.list<k'))
 st:U.Pairwise (fun a b=>a.place<b.place)
 fu:∀ P,(∀ x∈P,x.list<(k:Int))->RC P rs->∀ err a,FT P U err a↔FE es err a\/FRs rs new err a
structure GO (rs:List RL) (k k':Nat) (g1:SG) (W:List SG) (es:List EX) (r:RL):Prop where
 k1:g1.kind=1
 l1:g1.list=-1
 p1:g1.place=r.na
 t1:Jl g1.text r.nv
 ex:0<=r.ex
 w1:(k:Int)<=g1.place/\g1.place<k'
 wl:∀ g∈W,g1.place<g.place/\g.place<k'/\(g.list=-1\/((k:Int)<=g.list/\g.list<k'))/\KD g
 st:W.Pairwise (fun a b=>a.place<b.place)
 fu:∀ P,(∀ x∈P,x.list<(k:Int))->∀ err a,FU rs (P++[g1]) W err a↔FE es err a
theorem GO.fu2 {rs:List RL} {k k':Nat} {g1:SG} {W:List SG} {es:List EX} {r:RL} (h:GO rs k k' g1 W es r) (P:List SG) (hP:∀ x∈P,x.list<(k:Int)) (hR:RC P rs) (err a:Int):FT P (g1::W) err a↔FE es err a\/(yn r.nv rs≠-1/\err=5/\a=r.na):=by
 simp only [FT]
 have m:ErT P g1 err↔err=5/\yn r.nv rs≠-1:=by
  unfold ErT
  rw [zdV h.k1]
  have j:=hR.nm g1 r.nv h.t1
  have i:zR g1.kind (T.val g1.text g1.text.size)=false:=by rw [h.k1];rfl
  rw [i,h.k1,h.l1]
  have f:P.any (isR g1)=true↔yn r.nv rs≠-1:=by
   rw [j,Ne,Q2 _ rs hR.ex]
   simp
  rw [f]
  simp
 have l:=zf3 h.k1 hR err a W [] (by simp) (fun g hg=>(h.wl g hg).2.2.2)
 rw [m,l,h.fu P hP err a,h.p1]
 constructor
 ·rintro (⟨e,d,b⟩ | h)
  ·exact .inr ⟨b,d,e⟩
  ·exact .inl h
 ·rintro (h | ⟨e,d,b⟩)
  ·exact .inr h
  ·exact .inl ⟨b,d,e⟩
theorem GO.gt {rs:List RL} {k k1 k':Nat} {g1:SG} {W:List SG} {es:List EX} {r:RL} (h:GO rs k k1 g1 W es r) (hk:k1<=k'):GT rs k k' (g1::W) es [r] :=
 ⟨fun g hg=>by
  rcases List.mem_cons.1 hg with rfl | hg
  ·exact ⟨h.w1.1,by have:=h.w1.2;omega,.inl h.l1⟩
  ·have b:=h.wl g hg
   have d:=h.w1.1
   exact ⟨by omega,by omega,b.2.2.1.imp (fun h=>h) (fun h=>⟨h.1,by omega⟩)⟩,
  List.pairwise_cons.2 ⟨fun g hg=>(h.wl g hg).1,h.st⟩,
  fun P hP hR err a=>by rw [h.fu2 P hP hR err a];simp [FRs]⟩
theorem GT.cons {rs:List RL} {k k1 k2 k':Nat} {g1:SG} {W U:List SG} {es fs:List EX} {r:RL} {new:List RL} (h:GO rs k k1 g1 W es r) (h12:k1<=k2) (hk2:k<=k2) (h23:k2<=k') (h2:GT (rs++[r]) k2 k' U fs new):GT rs k k' ((g1::W)++U) (es++fs) (r::new):=by
 have d:=h.gt (Nat.le_refl k1)
 refine ⟨fun g hg=>?_,?_,fun P hP hR err a=>?_⟩
 ·rcases List.mem_append.1 hg with hg | hg
  ·have e:=d.wl g hg
   exact ⟨e.1,by omega,e.2.2.imp (fun h=>h) (fun h=>⟨h.1,by omega⟩)⟩
  ·have e:=h2.wl g hg
   exact ⟨by omega,e.2.1,e.2.2.imp (fun h=>h) (fun h=>⟨by omega,h.2⟩)⟩
 ·refine List.pairwise_append.2 ⟨d.st,h2.st,fun a ha b hb=>?_⟩
  have i:=(d.wl a ha).2.1
  have f:=(h2.wl b hb).1
  omega
 ·rw [zfQ,h.fu2 P hP hR err a,h2.fu (P++(g1::W)) (fun y hy=>?_) (hR.step h.k1 h.t1 h.ex (fun x hx=>(h.wl x hx).2.2.2.1)) err a,xY]
  ·simp only [FRs]
   constructor
   ·rintro ((h | h) | (h | h))
    ·exact .inl (.inl h)
    ·exact .inr (.inl h)
    ·exact .inl (.inr h)
    ·exact .inr (.inr h)
   ·rintro ((h | h) | (h | h))
    ·exact .inl (.inl h)
    ·exact .inr (.inl h)
    ·exact .inl (.inr h)
    ·exact .inr (.inr h)
  ·rcases List.mem_append.1 hy with hy | hy
   ·have:=hP y hy;omega
   ·rcases (d.wl y hy).2.2 with h | h<;>omega
theorem Yo (s:ByteArray) (k:Nat):zm s k ⟨256,0,0,0⟩=⟨true,T.sk s k,[⟨263,1,0,-1⟩,byF 58,⟨258,0,0,0⟩],[]⟩:=by
 unfold zm
 simp only
 rw [if_pos trivial]
theorem Qy (s:ByteArray) (k:Nat):zm s k ⟨257,0,0,0⟩=⟨true,T.sk s k,if T.ch s (T.sk s k)=59 then [byF 59,⟨256,0,0,0⟩,⟨257,0,0,0⟩] else [],[]⟩:=by
 unfold zm
 simp only
 rw [if_neg (by decide),if_pos trivial]
theorem Jp {s:ByteArray} {k:Nat}:zZ s 59 k false=true↔T.ch s (T.sk s k)=59:=by
 unfold zZ
 rw [zl,yZ,beq_iff_eq]
 by_cases h:T.sk s k<s.size
 ·rw [if_pos h]
 ·rw [if_neg h,T.ch_ge h];omega
theorem zcf (s:ByteArray) (rs:List RL) (m k:Nat) (hk:k<=s.size):Run s k [⟨256,0,0,0⟩] (zC s rs m k false).k (zC s rs m k false).b (fun V=>∃ g1 W,V=g1::W/\GO rs k (zC s rs m k false).k g1 W (zC s rs m k false).es (zC s rs m k false).rl):=by
 have B:=T.sk_ge s k
 have z:=T.sk_le hk
 have e:=YU s k
 have w:zQ s (T.sk s k) false=zQ s k false:=by unfold zQ YH;rw [zl,zl,e]
 have v:zX s (T.sk s k) false=zX s k false:=by unfold zX YH;rw [zl,zl,e]
 have A:=Yg s k false
 have o:=xr (b:=false) hk
 have C:=zi s 58 (zQ s k false) (zX s k false)
 have j:zc s 58 (zQ s k false) (zX s k false)<=s.size:=zs (by decide) o
 have l:=((xX.nil s (T.sk s k)).run.letter 1 0 (-1)).run.want 58 (by decide) (by decide) (by decide)
 rw [w,v,zl,e] at l
 have D:=l.run.expr (zc7 s rs (s.size+1)) (fun d m k b h=>QF h) j 0 (by decide) m (by omega)
 have y:=yK s rs (s.size+1) 0 m (zc s 58 (zQ s k false) (zX s k false)) (zj s 58 (zQ s k false) (zX s k false)) j
 unfold zC
 simp only [zl]
 generalize zc s 58 (zQ s k false) (zX s k false)=k2 at *
 generalize zj s 58 (zQ s k false) (zX s k false)=b2 at *
 generalize cE s rs (s.size+1) 0 m k2 b2=r at *
 have i:∀ (G:List SG->Prop),Run s (T.sk s k) [⟨263,1,0,-1⟩,byF 58,⟨258,0,0,0⟩] r.k r.b G->Run s k [⟨256,0,0,0⟩] r.k r.b G:=fun G h=>by
  rcases h with ⟨U,h1,n,u⟩ | ⟨h1,n⟩
  ·have:=Par.step (s:=s) (k:=k) (f:=⟨256,0,0,0⟩) (ok:=true) (b:=r.k) (sg2:=U.reverse) (by rw [Yo]) (by rw [Yo];exact h1)
   rw [Yo] at this
   exact .inl ⟨U,by simpa using this,n,u⟩
  ·exact .inr ⟨zP.step (s:=s) (k:=k) (f:=⟨256,0,0,0⟩) (by rw [Yo]) (by rw [Yo];exact h1),n⟩
 refine i _ (D.mono fun _ U hU=>?_)
 obtain ⟨V,W,rfl,⟨⟨F,rfl,rfl,_,n,u⟩,_⟩,_,E,p⟩:=hU
 refine ⟨_,W,rfl,rfl,rfl,rfl,u,E,⟨by simp only;omega,by simp only;omega⟩,fun g hg=>?_,p.st,fun P hP err a=>?_⟩
 ·have q:=p.wl g hg
  exact ⟨by simp only;omega,q.2.1,q.2.2.1.imp (fun h=>h) (fun h=>⟨by omega,h.2⟩),q.2.2.2⟩
 ·exact p.fu _ (fun x hx=>by
   rcases List.mem_append.1 hx with hx | hx
   ·have:=hP x hx;omega
   ·simp at hx;subst hx;simp only;omega) err a
theorem zaZ (s:ByteArray):∀ (N:Nat) (rs:List RL) (m k:Nat),k<=s.size->s.size+1<=N+k ->
 Run s k [⟨256,0,0,0⟩,⟨257,0,0,0⟩] (zx s N rs m k false).k (zx s N rs m k false).b (fun U=>(∃ new,(zx s N rs m k false).rs=rs++new/\GT rs k (zx s N rs m k false).k U (zx s N rs m k false).es new)/\T.sk s (zx s N rs m k false).k=(zx s N rs m k false).k)/\k<=(zx s N rs m k false).k:=by
 intro N
 induction N with
 | zero=>intro rs m k y x;omega
 | succ N ih =>
  intro rs m k w B
  have y:=zcf s rs m k w
  have g:=Ya s rs m k false w
  simp only [zx]
  generalize zC s rs m k false=it at *
  rcases y with ⟨V,a1,a2,g1,W,rfl,a3⟩ | ⟨a1,a2⟩
  ·rw [a2]
   have o:=zi s 59 it.k false
   have n:zc s 59 it.k false<=s.size:=zs (by decide) g.2.1
   cases ht:zZ s 59 it.k false with
   | false =>
    have p:¬ T.ch s (T.sk s it.k)=59:=fun h=>by rw [Jp.2 h] at ht;cases ht
    have e:zc s 59 it.k false=T.sk s it.k:=by unfold zc;rw [if_neg (by rw [ht];decide),zl]
    have a:=Qy s it.k
    rw [if_neg p] at a
    have x:Par s it.k [⟨257,0,0,0⟩] true (zc s 59 it.k false) []:=by
     have:=Par.step (s:=s) (k:=it.k) (f:=⟨257,0,0,0⟩) (ok:=true) (b:=T.sk s it.k) (sg2:=[]) (by rw [a]) (by rw [a];exact Par.nil _ _)
     rw [a] at this
     rw [e];exact this
    simp only [Bool.false_eq_true,if_false]
    exact ⟨.inl ⟨g1::W,by have:=a1.app x;simpa using this,rfl,⟨[it.rl],rfl,a3.gt o⟩,by rw [e,YU]⟩,by omega⟩
   | true =>
    have i:=Jp.1 ht
    have a:=Qy s it.k
    rw [if_pos i] at a
    have z:it.k+1<=zc s 59 it.k false:=by
     unfold zc;rw [if_pos ht];have:=yg s it.k false;omega
    have d:zZ s 59 (T.sk s it.k) false=true:=Jp.2 (by rw [YU];exact i)
    have A:zc s 59 (T.sk s it.k) false=zc s 59 it.k false:=by unfold zc;rw [if_pos ht,if_pos d,zl,zl,YU]
    have l:=(x7 (s:=s) (k:=T.sk s it.k) (c:=59) (by decide) (by decide) d).1
    rw [A] at l
    have u:=ih (rs++[it.rl]) (m+it.es.length) (zc s 59 it.k false) n (by omega)
    generalize zx s N (rs++[it.rl]) (m+it.es.length) (zc s 59 it.k false) false=q at *
    generalize zc s 59 it.k false=k2 at *
    simp only [if_true]
    obtain ⟨u,r⟩:=u
    refine ⟨?_,by omega⟩
    rcases u with ⟨U,b1,b2,⟨new,b3,b4⟩,b5⟩ | ⟨b1,b2⟩
    ·have v:=l.cons b1
     have j:=Par.step (s:=s) (k:=it.k) (f:=⟨257,0,0,0⟩) (ok:=true) (b:=q.k) (sg2:=U.reverse++[]) (by rw [a]) (by rw [a];exact v)
     rw [a] at j
     refine .inl ⟨(g1::W)++U,?_,b2,⟨it.rl::new,by rw [b3];simp,GT.cons a3 (by omega) (by omega) r b4⟩,b5⟩
     have:=a1.app j
     rw [List.reverse_append]
     simpa using this
    ·have v:=zP.after l b1
     have j:=zP.step (s:=s) (k:=it.k) (f:=⟨257,0,0,0⟩) (by rw [a]) (by rw [a];exact v)
     exact .inr ⟨zP.app2 a1 j,b2⟩
  ·have:=yl a2 (c:=59) (by decide) (by decide)
   rw [this.1]
   simp only [Bool.false_eq_true,if_false]
   rw [this.2.1]
   exact ⟨.inr ⟨a1.app [⟨257,0,0,0⟩],a2⟩,g.1⟩
def yi (S:Int->Int->Prop) (f:Int×Int):Prop:=(f=(0,0)/\∀ err a,¬ S err a)\/(f.1≠0/\S f.1 f.2/\∀ err a,S err a->f.2<a\/(f.2=a/\f.1<=err))
theorem yi.congr {S S':Int->Int->Prop} {f:Int×Int} (h:yi S f) (e:∀ err a,S err a↔S' err a):yi S' f:=by
 rcases h with ⟨h1,h2⟩ | ⟨h1,h2,h3⟩
 ·exact .inl ⟨h1,fun err a hs=>h2 err a ((e err a).2 hs)⟩
 ·exact .inr ⟨h1,(e _ _).1 h2,fun err a hs=>h3 err a ((e err a).2 hs)⟩
theorem yi.unique {S:Int->Int->Prop} {f g:Int×Int} (h:yi S f) (k:yi S g):f=g:=by
 rcases h with ⟨h1,h2⟩ | ⟨h1,h2,h3⟩
 ·rcases k with ⟨k1,k2⟩ | ⟨k1,k2,k3⟩
  ·rw [h1,k1]
  ·exact absurd k2 (h2 _ _)
 ·rcases k with ⟨k1,k2⟩ | ⟨k1,k2,k3⟩
  ·exact absurd h2 (k2 _ _)
  ·have e:=h3 _ _ k2
   have d:=k3 _ _ h2
   have b:f.1=g.1:=by omega
   have a:f.2=g.2:=by omega
   exact Prod.ext b a
theorem xy {S:Int->Int->Prop} {f:Int×Int} (h:yi S f) (e x:Int) (he:e≠0):yi (fun err a=>S err a\/(err=e/\a=x)) (fnd f e x):=by
 unfold fnd
 split
 ·next hc =>
  refine .inr ⟨he,.inr ⟨rfl,rfl⟩,fun err a hs=>?_⟩
  rcases hs with hs | ⟨rfl,rfl⟩
  ·rcases h with ⟨_,h2⟩ | ⟨h1,h2,h3⟩
   ·exact absurd hs (h2 _ _)
   ·have:=h3 err a hs
    rcases hc with hc | hc | hc
    ·exact absurd hc h1
    ·simp only;omega
    ·simp only;omega
  ·exact .inr ⟨rfl,Int.le_refl _⟩
 ·next hc =>
  rcases h with ⟨h1,_⟩ | ⟨h1,h2,h3⟩
  ·exact absurd (.inl (by rw [h1])) hc
  ·refine .inr ⟨h1,.inl h2,fun err a hs=>?_⟩
   rcases hs with hs | ⟨rfl,rfl⟩
   ·exact h3 err a hs
   ·have c2:¬ a<f.2:=fun h=>hc (.inr (.inl h))
    have c3:¬ (a=f.2/\err<f.1):=fun h=>hc (.inr (.inr h))
    omega
theorem Xm {S T:Int->Int->Prop} {f g:Int×Int} {c:Prop} [Decidable c] (h:yi S f) (hg:c->yi (fun err a=>S err a\/T err a) g):yi (fun err a=>S err a\/(c/\T err a)) (if c then g else f):=by
 split
 ·next hc=>exact (hg hc).congr (fun err a=>by simp [hc])
 ·next hc=>exact h.congr (fun err a=>by simp [hc])
theorem Yw {S:Int->Int->Prop} {f:Int×Int} (h:yi S f) (v x lo hi:Int):yi (fun err a=>S err a\/((v<lo\/hi<v)/\err=6/\a=x)) (YK f v x lo hi):=Xm h (fun _=>xy h 6 x (by decide))
def zbZ (c:Int) (x:IM) (err a:Int):Prop:=((c=123\/c=102\/c=119)/\(x.num<0\/63<x.num)/\err=6/\a=x.at_)\/(c=119/\(x.wv<1\/1000<x.wv)/\err=6/\a=x.wa)\/(c=103/\(x.num<0\/99<x.num)/\err=6/\a=x.at_)
theorem zbv {S:Int->Int->Prop} {f:Int×Int} (h:yi S f) (c:Int) (x:IM):yi (fun err a=>S err a\/zbZ c x err a) (Y4 c x f):=by
 unfold Y4
 split
 ·next hc =>
  refine (Yw h x.num x.at_ 0 63).congr fun err a=>?_
  unfold zbZ
  rcases hc with rfl | rfl<;>simp
 ·next h1 =>
  split
  ·next hc =>
   subst hc
   refine (Yw (Yw h x.num x.at_ 0 63) x.wv x.wa 1 1000).congr fun err a=>?_
   unfold zbZ
   simp [or_assoc]
  ·next h2 =>
   split
   ·next hc =>
    subst hc
    refine (Yw h x.num x.at_ 0 99).congr fun err a=>?_
    unfold zbZ
    simp
   ·next h3 =>
    refine h.congr fun err a=>?_
    have:c≠123/\c≠102:=⟨fun e=>h1 (.inl e),fun e=>h1 (.inr e)⟩
    unfold zbZ
    simp [this.1,this.2,h2,h3]
theorem zey {S:Int->Int->Prop} {f:Int×Int} (h:yi S f) (c:Int) (l:List IM) (j:Nat) (x:IM) (hj:j<l.length):yi (fun err a=>S err a\/FIm c (l.take j) x err a) (fIt c l j x f):=by
 have b:yi (fun err a=>S err a\/(16<=j/\err=4/\a=x.at_)) (if 16<=j then fnd f 4 x.at_ else f):=Xm h (fun _=>xy h 4 x.at_ (by decide))
 have e:=Xm (c:=(l.take j).any (fun y=>yv y x)=true) b (fun _=>xy b 7 x.at_ (by decide))
 have d:=zbv e c x
 refine d.congr fun err a=>?_
 have:(l.take j).length=j:=by rw [List.length_take];omega
 unfold FIm zbZ
 rw [this]
 simp only [or_assoc]
theorem zay (c:Int) (A B:List IM) (err a:Int):∀ pre,FIs c pre (A++B) err a↔FIs c pre A err a\/FIs c (pre++A) B err a:=by
 induction A with
 | nil=>intro P;simp [FIs]
 | cons g r ih =>
  intro P
  simp only [List.cons_append,FIs]
  rw [ih (P++[g]),List.append_assoc,List.singleton_append,or_assoc]
theorem zc3 {S:Int->Int->Prop} {f:Int×Int} (h:yi S f) (c:Int) (l:List IM):∀ n,n<=l.length->yi (fun err a=>S err a\/FIs c [] (l.take n) err a) (ZZ c l f n):=by
 intro n
 induction n with
 | zero=>intro _;exact h.congr (fun err a=>by simp [FIs])
 | succ n ih =>
  intro d
  have b:l[n]?=some l[n]:=List.getElem?_eq_getElem (by omega)
  simp only [ZZ,b]
  refine (zey (ih (by omega)) c l n l[n] (by omega)).congr fun err a=>?_
  rw [List.take_add_one,b]
  simp only [Option.toList]
  rw [zay]
  simp [FIs,or_assoc]
theorem zbw {S:Int->Int->Prop} {f:Int×Int} (h:yi S f) (e:EX):yi (fun err a=>S err a\/FEx e err a) (X0 e f):=by
 have b:yi (fun err a=>S err a\/(12<=e.depth/\err=3/\a=e.at_)) (if 12<=e.depth then fnd f 3 e.at_ else f):=Xm h (fun _=>xy h 3 e.at_ (by decide))
 unfold X0
 simp only
 generalize (if 12<=e.depth then fnd f 3 e.at_ else f)=f1 at *
 split
 ·next hc =>
  refine (Yw b e.nv e.na 1 86400).congr fun err a=>?_
  unfold FEx
  simp [hc,or_assoc]
 ·next c1 =>
  split
  ·next hc =>
   refine (Yw b e.nv e.na 0 15).congr fun err a=>?_
   unfold FEx
   simp [hc,or_assoc]
  ·next c2 =>
   split
   ·next hc =>
    refine (Xm (c:=e.inner=-1) b (fun _=>xy b 5 e.na (by decide))).congr fun err a=>?_
    unfold FEx
    simp [hc,or_assoc]
   ·next c3 =>
    refine b.congr fun err a=>?_
    unfold FEx
    simp [c1,c2,c3]
theorem zc4 {S:Int->Int->Prop} {f:Int×Int} (h:yi S f) (es:List EX):∀ n,n<=es.length->yi (fun err a=>S err a\/FE (es.take n) err a) (Xp es f n):=by
 intro n
 induction n with
 | zero=>intro _;exact h.congr (fun err a=>by simp [FE])
 | succ n ih =>
  intro d
  have b:es[n]?=some es[n]:=List.getElem?_eq_getElem (by omega)
  simp only [Xp,b]
  refine (zc3 (zbw (ih (by omega)) es[n]) es[n].kind es[n].items es[n].items.length (Nat.le_refl _)).congr fun err a=>?_
  rw [List.take_length,List.take_add_one,b]
  simp only [Option.toList]
  rw [xY,XQ,or_assoc,or_assoc]
theorem zeW (A B:List RL) (err a:Int):∀ pre,FRs pre (A++B) err a↔FRs pre A err a\/FRs (pre++A) B err a:=by
 induction A with
 | nil=>intro P;simp [FRs]
 | cons g r ih =>
  intro P
  simp only [List.cons_append,FRs]
  rw [ih (P++[g]),List.append_assoc,List.singleton_append,or_assoc]
theorem zc2 {S:Int->Int->Prop} {f:Int×Int} (h:yi S f) (rs:List RL):∀ n,n<=rs.length->yi (fun err a=>S err a\/FRs [] (rs.take n) err a) (Yb rs f n):=by
 intro n
 induction n with
 | zero=>intro _;exact h.congr (fun err a=>by simp [FRs])
 | succ n ih =>
  intro g
  have b:rs[n]?=some rs[n]:=List.getElem?_eq_getElem (by omega)
  simp only [Yb,b]
  have d:=ih (by omega)
  have e:yi (fun err a=>(S err a\/FRs [] (rs.take n) err a)\/(yn rs[n].nv (rs.take n)≠-1/\err=5/\a=rs[n].na)) (if yn rs[n].nv (rs.take n)=-1 then Yb rs f n else fnd (Yb rs f n) 5 rs[n].na):=by
   split
   ·next hc=>exact d.congr (fun err a=>by simp [hc])
   ·next hc=>exact (xy d 5 _ (by decide)).congr (fun err a=>by simp [hc])
  refine e.congr fun err a=>?_
  rw [List.take_add_one,b]
  simp only [Option.toList]
  rw [zeW]
  simp [FRs,or_assoc]
theorem Xq (es:List EX) (rs:List RL):yi (fun err a=>FE es err a\/FRs [] rs err a) (xR es rs):=by
 have e:yi (fun _ _=>False) (0,0):=.inl ⟨rfl,fun _ _ h=>h⟩
 have d:=zc2 e rs rs.length (Nat.le_refl _)
 have b:=zc4 d es es.length (Nat.le_refl _)
 refine b.congr fun err a=>?_
 rw [List.take_length,List.take_length]
 simp only [false_or]
 exact or_comm
theorem zb4 (A B:List SG) (g:SG):QR (A++g::B) A.length g=th A g:=by
 unfold QR th
 have b:(A++g::B).take (A.length+1)=A++[g]:=by
  rw [show A++g::B=(A++[g])++B from by simp]
  exact List.take_left' (by simp)
 rw [b,List.reverse_append]
 simp only [List.reverse_cons,List.reverse_nil,List.nil_append,List.singleton_append]
 have h:=jT (g::A.reverse)
 simp only [List.length_cons,List.length_reverse] at h
 have a:(A++g::B).take (Zx (g::A.reverse)-1)=A.take (Zx (g::A.reverse)-1):=by
  rw [List.take_append_of_le_length (by omega)]
 rw [a]
theorem zex (A B:List SG) (g:SG):(flt (A++g::B) A.length g=0/\∀ err,¬ ErT A g err)\/(flt (A++g::B) A.length g≠0/\ErT A g (flt (A++g::B) A.length g)/\∀ err,ErT A g err->flt (A++g::B) A.length g<=err):=by
 have j:16<=qQ (A++g::B) A.length g↔g.list≠-1/\16<=ZI g A:=by
  unfold qQ
  rw [List.take_left,zdw]
  by_cases h:g.list=-1
  ·rw [if_pos h];simp [h]
  ·rw [if_neg h];simp [h];omega
 have i:qD (A++g::B) A.length g=true↔g.list≠-1/\ZS g A=true:=by
  unfold qD
  rw [List.take_left,zdv]
  by_cases h:g.list=-1
  ·rw [if_pos h];simp [h]
  ·rw [if_neg h];simp [h]
 unfold flt zbs yb
 rw [zb4]
 unfold ErT
 by_cases c3:g.kind=3/\12<=g.depth
 ·rw [if_pos c3]
  refine .inr ⟨by decide,.inl ⟨rfl,c3⟩,fun err h=>?_⟩
  rcases h with h | h | h | h | h<;>omega
 ·rw [if_neg c3]
  by_cases b:16<=qQ (A++g::B) A.length g
  ·rw [if_pos b]
   have c4:=j.1 b
   refine .inr ⟨by decide,.inr (.inl ⟨rfl,c4⟩),fun err h=>?_⟩
   rcases h with h | h | h | h | h
   ·exact absurd h.2 c3
   all_goals omega
  ·rw [if_neg b]
   have c4:¬ (g.list≠-1/\16<=ZI g A):=fun h=>b (j.2 h)
   by_cases d:(g.kind=1/\th A g=true)\/(g.kind=2/\th A g=false)
   ·rw [if_pos d]
    refine .inr ⟨by decide,.inr (.inr (.inl ⟨rfl,d⟩)),fun err h=>?_⟩
    rcases h with h | h | h | h | h
    ·exact absurd h.2 c3
    ·exact absurd h.2 c4
    all_goals omega
   ·rw [if_neg d]
    by_cases e:zR g.kind (T.val g.text g.text.size)=true
    ·rw [if_pos e]
     refine .inr ⟨by decide,.inr (.inr (.inr (.inl ⟨rfl,e⟩))),fun err h=>?_⟩
     rcases h with h | h | h | h | h
     ·exact absurd h.2 c3
     ·exact absurd h.2 c4
     ·exact absurd h.2 d
     all_goals omega
    ·rw [if_neg e]
     by_cases a:qD (A++g::B) A.length g=true
     ·rw [if_pos a]
      have f:=i.1 a
      refine .inr ⟨by decide,.inr (.inr (.inr (.inr ⟨rfl,f⟩))),fun err h=>?_⟩
      rcases h with h | h | h | h | h
      ·exact absurd h.2 c3
      ·exact absurd h.2 c4
      ·exact absurd h.2 d
      ·exact absurd h.2 e
      ·omega
     ·rw [if_neg a]
      have f:¬ (g.list≠-1/\ZS g A=true):=fun h=>a (i.2 h)
      refine .inl ⟨rfl,fun err h=>?_⟩
      rcases h with h | h | h | h | h
      ·exact c3 h.2
      ·exact c4 h.2
      ·exact d h.2
      ·exact e h.2
      ·exact f h.2
theorem zdL {err a:Int}:∀ (U P:List SG),FT P U err a->∃ g∈U,a=g.place:=by
 intro U
 induction U with
 | nil=>intro P h;exact absurd h id
 | cons g r ih =>
  intro P h
  rcases h with h | h
  ·exact ⟨g,by simp,h.1⟩
  ·obtain ⟨x,b,e⟩:=ih _ h
   exact ⟨x,by simp [b],e⟩
theorem zev:∀ (B A:List SG) (n:Nat),B.length<=n->B.Pairwise (fun a b=>a.place<b.place)->yi (FT A B) (Xo (A++B) n A.length):=by
 intro B
 induction B with
 | nil =>
  intro A n _ _
  refine .inl ⟨?_,fun err a h=>h⟩
  cases n with
  | zero=>rfl
  | succ n=>simp [Xo]
 | cons g r ih =>
  intro A n k f
  obtain ⟨n,rfl⟩:∃ m,n=m+1:=⟨n-1,by simp only [List.length_cons] at k;omega⟩
  have o:(A++g::r)[A.length]?=some g:=by simp
  have j:=List.pairwise_cons.1 f
  have i:=ih (A++[g]) n (by simp only [List.length_cons] at k;omega) j.2
  rw [List.append_assoc,List.singleton_append,List.length_append] at i
  simp only [List.length_cons,List.length_nil,Nat.zero_add] at i
  simp only [Xo,o]
  rcases zex A r g with ⟨h,h'⟩ | ⟨h,h',h3⟩
  ·rw [if_pos h]
   refine i.congr fun err a=>?_
   simp only [FT]
   constructor
   ·intro d;exact .inr d
   ·rintro (d | d)
    ·exact absurd d.2 (h' err)
    ·exact d
  ·rw [if_neg h]
   refine .inr ⟨h,.inl ⟨rfl,h'⟩,fun err a d=>?_⟩
   rcases d with d | d
   ·exact .inr ⟨d.1.symm,h3 err d.2⟩
   ·obtain ⟨x,l,e⟩:=zdL _ _ d
    left
    rw [e]
    exact j.1 x l
theorem jh (s:ByteArray):chk s=yQ s:=by
 unfold chk yQ
 by_cases f:2000<s.size
 ·rw [if_pos f,if_pos f]
 rw [if_neg f,if_neg f]
 have r:=(zaZ s (s.size+1) [] 0 0 (Nat.zero_le _) (by omega)).1
 have w:zx s (s.size+1) [] 0 0 false=zA s:=rfl
 rw [w] at r
 generalize zA s=C at *
 obtain ⟨q,i,_,_,_⟩:=jG s
 obtain ⟨p,o,v,n⟩:=q
 have j:rd s=rdE s (p,o,if p=true then v else []):=by unfold rd;rw [i]
 rw [j]
 unfold rd0 at i
 rcases r with ⟨U,a1,a2,⟨new,a3,a4⟩,a5⟩ | ⟨⟨sg',a1⟩,a2⟩
 ·obtain ⟨rfl,rfl,rfl⟩:=a1.det i
  rw [List.nil_append] at a3
  unfold rdE
  simp only [if_true,a5,a2,Bool.false_or]
  by_cases d:C.k<s.size
  ·have l:=T.ch_bd d
   rw [if_pos l.1,decide_eq_true d]
   simp
  ·have y:¬ (0:Int)<=T.ch s C.k:=by rw [T.ch_ge d];decide
   rw [if_neg y,decide_eq_false d]
   simp only [Bool.false_eq_true,if_false,if_true]
   have m:=zev U.reverse.reverse [] U.reverse.length (by simp) (by rw [List.reverse_reverse];exact a4.st)
   simp only [List.nil_append,List.length_nil] at m
   rw [List.reverse_reverse] at m ⊢
   have u:yi (FT [] U) (xR C.es C.rs):=by
    refine (Xq C.es C.rs).congr fun err a=>?_
    rw [a3]
    exact (a4.fu [] (by simp) RC.nil err a).symm
   have x:=m.unique u
   rw [x]
   split
   ·next h0 =>
    rcases u with ⟨e,_⟩ | ⟨e,_⟩
    ·exact e
    ·exact absurd h0 e
   ·rfl
 ·obtain ⟨rfl,rfl,rfl⟩:=a1.det i
  have g:(C.b || decide (C.k<s.size))=true:=by
   rcases a2 with h | h
   ·rw [h];rfl
   ·rw [decide_eq_true (T.dig_lt h),Bool.or_true]
  unfold rdE
  rw [g]
  simp
end Go.Proofs.YtaebngpoagjafabGreat
