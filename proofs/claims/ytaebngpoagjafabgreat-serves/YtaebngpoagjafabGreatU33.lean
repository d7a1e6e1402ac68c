import Derived.Test.YtaebngpoagjafabGreatU29
import Derived.Test.YtaebngpoagjafabGreatU32
set_option maxRecDepth 100000
namespace Go.Proofs.YtaebngpoagjafabGreat
open Go.RowKit
theorem zdh {x:Int} (h:x<=1001):Za x=x:=by unfold Za;split<;>omega
theorem YB {K:List Int} {l:List IM} (h:∀ x∈l,x.arm=-1):∀ j,yL K l j=0:=by
 intro j
 induction j with
 | zero=>rfl
 | succ j ih =>
  simp only [yL,ih]
  cases hx:l[j]? with
  | none=>rfl
  | some x=>simp only;rw [h x (List.mem_of_getElem? hx),qn];rfl
def arD:AR:=⟨[],[],0⟩
theorem Qu {α:Type} (L:List AR) (f:AR->α):(List.range L.length).map (fun i=>f ((L[i]?).getD arD))=L.map f:=by
 apply List.ext_getElem
 ·simp
 ·intro i a b
  simp at a
  simp [a]
theorem zdB {E:List EX} {M:Nat} {l:List IM} {L:List AR} (hm:l.map IM.arm=L.map (fun a=>(a.num:Int))) (hL:∀ a∈L,a.num<M):∀ j,j<=L.length->yL (szK E M) l j=Yj (fun i=>if i<L.length then szR E (((L[i]?).getD arD).num+1) else 0) j:=by
 intro j
 induction j with
 | zero=>intro _;rfl
 | succ j ih =>
  intro g
  simp only [yL,Yj,ih (by omega)]
  have f:l.length=L.length:=by have:=congrArg List.length hm;simpa using this
  have d:l[j]?=some l[j]:=List.getElem?_eq_getElem (by omega)
  have b:L[j]?=some L[j]:=List.getElem?_eq_getElem (by omega)
  have e:(l[j]).arm=((L[j]).num:Int):=by
   have:=congrArg (fun q=>q[j]?) hm
   simp only [List.getElem?_map,d,b] at this
   simpa using this
  rw [d,b]
  simp only [Option.getD_some]
  rw [e,qm E (hL _ (List.getElem_mem _)),if_pos (by omega)]
theorem zbA {s nm:ByteArray} {rs:List RL} {Kn:List Int} {E:List EX} {lim:Nat} (hR:RK rs nm Kn E lim) (h16:∀ e∈E,e.items.length<=16):∀ n,EG s nm Kn E lim (cE s rs n) n:=by
 intro n
 induction n with
 | zero=>intro d m k b _ h;omega
 | succ n ih =>
  intro d m k b hk hn f hm g
  have R:=yK s rs n
  have hB:=Y6 s rs n
  have a4:b=false:=by
   cases hq:b with
   | false=>rfl
   | true=>rw [hq,Y6 s rs (n+1) d m k] at f;cases f
  subst a4
  have b5:=T.sk_ge s k
  have b4:=T.sk_le hk
  have b3:=YU s k
  have j:=zl s k
  cases hK:isK (ze s (zb s k false) false) with
  | false=>rw [Ja n d m k false hK] at f;cases f
  | true =>
   have a2:T.sk s k<s.size:=by have:=(Zh hK).2;rw [j] at this;exact this
   obtain ⟨c,hc⟩:∃ c,T.ch s (T.sk s k)=c:=⟨_,rfl⟩
   have q:ze s (zb s k false) false=c:=by rw [j,yZ,if_pos a2];exact hc
   rw [q] at hK
   have h8:c=123\/c=116\/c=64\/c=61\/(c=119\/c=102\/c=109\/c=103):=by
    simp [isK] at hK
    omega
   have a5:T.bl c=false:=by unfold T.bl;simp;omega
   have z:bt s k (T.sk s k+1)=[c]:=by rw [yD (by omega),Qb hc a5]
   rcases h8 with rfl | rfl | rfl | rfl | h8
   ·rw [YP n d m k false q,j] at f g ⊢
    have y:=zN R 123 d (s.size+1-(T.sk s k+1)) m (T.sk s k+1) false (by omega)
    have F:=XZ R (c:=123) (.inl rfl) d (s.size+1-(T.sk s k+1)) m (T.sk s k+1) (by omega) (by omega)
    generalize zd (cE s rs n) s 123 d (s.size+1-(T.sk s k+1)) m (T.sk s k+1) false=l at *
    simp only at f g ⊢
    have u:=zK (by decide) (by decide) f
    obtain ⟨i1,V,L,I,U,S,i6⟩:=F u.1
    have v:=g.last
    have Y:=h16 _ (List.mem_of_getElem? v)
    simp only at Y
    have w:=zi s 125 l.k l.b
    refine ⟨by simp,by simp,?_⟩
    rw [zy s (b:=T.sk s k+1) (by omega) (by omega),zy s (a:=T.sk s k+1) y.1 w,z,i6,u.2.2]
    have D:szR E (m+(l.es++[(⟨123,T.sk s k,d,0,0,l.ims,-1⟩:EX)]).length)=1+(L.length:Int):=by
     rw [List.length_append,List.length_singleton,<- Nat.add_assoc,qx v]
     unfold szE
     simp only
     rw [qn,YB V,if_neg (by decide),I,zdh (by omega)]
     omega
    rw [D,<- List.append_assoc]
    exact SZL.servers U S
   ·rw [ji n d m k false q rfl rfl rfl,j] at f g ⊢
    have Q:=zi s 40 (T.sk s k+1) false
    have p:zc s 40 (T.sk s k+1) false<=s.size:=zs (by decide) (by omega)
    have N:=zK (s:=s) (c:=40) (k:=T.sk s k+1) (b:=false) (by decide) (by decide)
    generalize zc s 40 (T.sk s k+1) false=k1 at *
    generalize zj s 40 (T.sk s k+1) false=b1 at *
    have a7:=z5 (b:=b1) p
    have a6:=ya (b:=b1) p
    have a1:=Yq (b:=b1) p
    generalize zo s k1 b1=kn at *
    generalize zw s k1 b1=bn at *
    have P:=zi s 44 kn bn
    have A:zc s 44 kn bn<=s.size:=zs (by decide) a6
    have J:=zK (s:=s) (c:=44) (k:=kn) (b:=bn) (by decide) (by decide)
    generalize zc s 44 kn bn=k2 at *
    generalize zj s 44 kn bn=b2 at *
    have y:=R (d+1) m k2 b2 A
    have O:b2=true->(cE s rs n (d+1) m k2 b2).b=true:=fun h=>by rw [h];exact hB _ _ _
    have hI:=ih (d+1) m k2 b2 A (by omega)
    generalize cE s rs n (d+1) m k2 b2=r at *
    simp only at f g ⊢
    have u:=zK (by decide) (by decide) f
    have B:b2=false:=by cases hq:b2 with
     | false=>rfl
     | true=>rw [O hq] at u;cases u.1
    obtain ⟨x1,x2,Z⟩:=hI u.1 hm g.left
    have H:=J B
    have gn:=a1 H.1
    have g1:=N gn.1
    have v:=g.last
    have w:=zi s 41 r.k r.b
    refine ⟨by simp,by simp,?_⟩
    rw [zy s (b:=T.sk s k+1) (by omega) (by omega),zy s (a:=T.sk s k+1) (b:=k1) Q (by omega),zy s (a:=k1) (b:=kn) a7 (by omega),zy s (a:=kn) (b:=k2) P (by omega),zy s (a:=k2) y.1 w,z,g1.2.2,H.2.2,u.2.2]
    have D:szR E (m+(r.es++[(⟨116,T.sk s k,d,zJ s k1 b1,zb s k1 b1,[],r.idx⟩:EX)]).length)=Za (1+szR E (m+r.es.length)):=by
     rw [List.length_append,List.length_singleton,<- Nat.add_assoc,qx v]
     unfold szE
     simp only
     rw [x2,qm E (by omega),show m+r.es.length-1+1=m+r.es.length from by omega,if_neg (by decide),YB (by simp)]
     congr 1
     simp
     omega
    rw [D]
    have:=SZL.ttl gn.2.2 Z
    simpa [joi] using this
   ·rw [Xt n d m k false q,j] at f g ⊢
    simp only at f g ⊢
    have gn:=Yq (by omega) f
    have v:=g.last (a:=[])
    refine ⟨by simp,by simp,?_⟩
    rw [zy s (b:=T.sk s k+1) (by omega) (z5 (by omega)),z]
    have D:szR E (m+[(⟨64,T.sk s k,d,zJ s (T.sk s k+1) false,zb s (T.sk s k+1) false,[],-1⟩:EX)].length)=1:=by
     rw [List.length_singleton]
     rw [List.length_nil,Nat.add_zero] at v
     rw [qx v]
     unfold szE
     simp only
     rw [qn,if_neg (by decide),YB (by simp)]
     decide
    rw [D]
    exact SZL.alias gn.2.2
   ·rw [qi n d m k false q,j] at f g ⊢
    simp only at f g ⊢
    have gl:=Xl f
    have v:=g.last (a:=[])
    rw [List.length_nil,Nat.add_zero] at v
    refine ⟨by simp,by simp,?_⟩
    rw [zy s (b:=T.sk s k+1) (by omega) (Yg s _ _),z,gl.2.2.2.2]
    have D:szR E (m+[(⟨61,T.sk s k,d,ze s (zb s (T.sk s k+1) false) false,zb s (T.sk s k+1) false,[],yn (ze s (zb s (T.sk s k+1) false) false) rs⟩:EX)].length)=knL nm (T.ch s (T.sk s (T.sk s k+1))) Kn 0:=by
     rw [List.length_singleton,qx v]
     unfold szE
     simp only
     rw [if_pos trivial,YB (by simp),gl.2.2.2.1,zfX hR _ hm,zdh]
     ·omega
     ·have:=(xV (qy E m) (yn (T.ch s (T.sk s (T.sk s k+1))) rs)).2;omega
    rw [D]
    exact SZL.name gl.2.2.1
   ·rw [qj n d m k false q h8 rfl rfl rfl rfl,j] at f g ⊢
    have Q:=zi s 40 (T.sk s k+1) false
    have p:zc s 40 (T.sk s k+1) false<=s.size:=zs (by decide) (by omega)
    have N:=zK (s:=s) (c:=40) (k:=T.sk s k+1) (b:=false) (by decide) (by decide)
    generalize zc s 40 (T.sk s k+1) false=k1 at *
    generalize zj s 40 (T.sk s k+1) false=b1 at *
    have W:=zN R c d (s.size+1-k1) m k1 b1 p
    have a3:b1=true->(zd (cE s rs n) s c d (s.size+1-k1) m k1 b1).b=true:=fun h=>qZ hB c d _ m k1 h
    have a9:b1=false->(c=123\/c=102\/c=119)->(zd (cE s rs n) s c d (s.size+1-k1) m k1 b1).b=false->(zd (cE s rs n) s c d (s.size+1-k1) m k1 b1).es=[]/\(∀ x∈(zd (cE s rs n) s c d (s.size+1-k1) m k1 b1).ims,x.arm=-1)/\∃ L:List (List Int),L.length=(zd (cE s rs n) s c d (s.size+1-k1) m k1 b1).ims.length/\L≠[]/\(∀ x∈L,Pln x)/\bt s k1 (zd (cE s rs n) s c d (s.size+1-k1) m k1 b1).k=joi 44 L:=fun h hc2 f=>by subst h;exact XZ R hc2 d (s.size+1-k1) m k1 p (by omega) f
    have b0:b1=false->(c=103\/c=109)->(zd (cE s rs n) s c d (s.size+1-k1) m k1 b1).b=false->Pos E m (zd (cE s rs n) s c d (s.size+1-k1) m k1 b1).es->∃ L:List AR,L.length=(zd (cE s rs n) s c d (s.size+1-k1) m k1 b1).ims.length/\L≠[]/\(∀ a∈L,Pln a.key/\SZL nm Kn a.txt (szR E (a.num+1))/\a.num<m+(zd (cE s rs n) s c d (s.size+1-k1) m k1 b1).es.length)/\(zd (cE s rs n) s c d (s.size+1-k1) m k1 b1).ims.map IM.arm=L.map (fun a=>(a.num:Int))/\bt s k1 (zd (cE s rs n) s c d (s.size+1-k1) m k1 b1).k=joi 44 (L.map AR.t):=fun h hc2 f hp=>by subst h;exact jW R hB ih hc2 d (s.size+1-k1) m k1 p (by omega) (by omega) f hm hp
    generalize zd (cE s rs n) s c d (s.size+1-k1) m k1 b1=l at *
    have P:=zi s 124 l.k l.b
    have A:zc s 124 l.k l.b<=s.size:=zs (by decide) W.2.1
    have J:=zK (s:=s) (c:=124) (k:=l.k) (b:=l.b) (by decide) (by decide)
    generalize zc s 124 l.k l.b=k2 at *
    generalize zj s 124 l.k l.b=b2 at *
    have y:=R (d+1) (m+l.es.length) k2 b2 A
    have O:b2=true->(cE s rs n (d+1) (m+l.es.length) k2 b2).b=true:=fun h=>by rw [h];exact hB _ _ _
    have hI:=ih (d+1) (m+l.es.length) k2 b2 A (by omega)
    generalize cE s rs n (d+1) (m+l.es.length) k2 b2=r at *
    simp only at f g ⊢
    have u:=zK (by decide) (by decide) f
    have B:b2=false:=by cases hq:b2 with
     | false=>rfl
     | true=>rw [O hq] at u;cases u.1
    have H:=J B
    have C:b1=false:=by cases hq:b1 with
     | false=>rfl
     | true=>rw [a3 hq] at H;cases H.1
    have g1:=N C
    obtain ⟨x1,x2,Z⟩:=hI u.1 (by omega) g.left.right
    have v:=g.last
    have w:=zi s 41 r.k r.b
    refine ⟨by simp only [List.length_append,List.length_cons,List.length_nil];omega,by simp only [List.length_append,List.length_cons,List.length_nil];omega,?_⟩
    rw [zy s (b:=T.sk s k+1) (by omega) (by omega),zy s (a:=T.sk s k+1) (b:=k1) Q (by omega),zy s (a:=k1) (b:=l.k) W.1 (by omega),zy s (a:=l.k) (b:=k2) P (by omega),zy s (a:=k2) y.1 w,z,g1.2.2,H.2.2,u.2.2]
    have a8:m+(l.es++r.es).length=m+l.es.length+r.es.length:=by rw [List.length_append];omega
    have D:szR E (m+(l.es++r.es++[(⟨c,T.sk s k,d,0,0,l.ims,r.idx⟩:EX)]).length)=Za (szR E (m+l.es.length+r.es.length)+(1+(l.ims.length:Int))+yL (szK E (m+l.es.length+r.es.length)) l.ims l.ims.length):=by
     rw [List.length_append,List.length_singleton,<- Nat.add_assoc,qx v,a8]
     unfold szE
     simp only
     rw [x2,qm E (by omega),show m+l.es.length+r.es.length-1+1=m+l.es.length+r.es.length from by omega,if_neg (by omega)]
    rw [D]
    by_cases a0:c=123\/c=102\/c=119
    ·obtain ⟨i1,V,L,I,U,S,i6⟩:=a9 C a0 H.1
     rw [i6,YB V]
     have:=SZL.list (c:=c) (by omega) U S Z
     rw [show szR E (m+l.es.length+r.es.length)+(1+(l.ims.length:Int))+0=1+(L.length:Int)+szR E (m+l.es.length+r.es.length) from by rw [I];omega]
     simpa [joi] using this
    ·obtain ⟨L,i1,V,I,U,S⟩:=b0 C (by omega) H.1 g.left.left
     rw [S,<- i1,zdB (E:=E) (M:=m+l.es.length+r.es.length) U (fun a X=>by have:=(I a X).2.2;omega) L.length (Nat.le_refl _)]
     have G:∀ i,i<L.length->∃ a∈L,(L[i]?).getD arD=a:=fun i F=>⟨L[i],List.getElem_mem _,by rw [List.getElem?_eq_getElem F];rfl⟩
     have:=SZL.maps (nm:=nm) (K:=Kn) (c:=c) (m:=L.length) (ks:=fun i=>((L[i]?).getD arD).key) (ar:=fun i=>((L[i]?).getD arD).txt) (o:=bt s k2 r.k) (n:=szR E (m+l.es.length+r.es.length)) (ns:=fun i=>if i<L.length then szR E (((L[i]?).getD arD).num+1) else 0) (by omega) (List.length_pos_iff.2 V)
      (fun i F=>by obtain ⟨a,X,e⟩:=G i F;simp only [e];exact (I a X).1) (fun i F=>by obtain ⟨a,X,e⟩:=G i F;simp only [e,if_pos F];exact (I a X).2.1) (fun i F=>by rw [if_neg (by omega)]) Z
     have e2:(List.range L.length).map (fun i=>((L[i]?).getD arD).key++[58]++((L[i]?).getD arD).txt)=L.map AR.t:=Qu L AR.t
     rw [e2] at this
     rw [show szR E (m+l.es.length+r.es.length)+(1+(L.length:Int))+Yj (fun i=>if i<L.length then szR E (((L[i]?).getD arD).num+1) else 0) L.length=1+(L.length:Int)+szR E (m+l.es.length+r.es.length)+Yj (fun i=>if i<L.length then szR E (((L[i]?).getD arD).num+1) else 0) L.length from by omega]
     simpa [joi] using this
def nsR (E:List EX) (RA:List RL) (i:Nat):Int:=match RA[i]? with | some r=>szR E (r.ex.toNat+1) | none=>0
def ruT (y:Int×List Int):List Int:=[y.1,58]++y.2
theorem Jy {s nm:ByteArray} {E:List EX} {RA:List RL} (h16:∀ e∈E,e.items.length<=16) (hnm:∀ i r,RA[i]?=some r->T.ch nm i=r.nv):∀ (N:Nat) (rs:List RL) (m k:Nat),k<=s.size->s.size+1<=N+k->(zx s N rs m k false).b=false->Pos E m (zx s N rs m k false).es->(zx s N rs m k false).rs=RA->(∀ r∈rs,∃ j:Nat,r.ex=(j:Int)/\j<m) ->
 ∃ Y:List (Int×List Int),Y.length+rs.length=RA.length/\Y≠[]/\bt s k (zx s N rs m k false).k=joi 59 (Y.map ruT)/\(∀ i y,Y[i]?=some y->(97<=y.1/\y.1<=122)/\(∃ r,RA[rs.length+i]?=some r/\r.nv=y.1)/\SZL nm (knK (nsR E RA) (rs.length+i)) y.2 (nsR E RA (rs.length+i)))/\nsR E RA (RA.length-1)=szR E (m+(zx s N rs m k false).es.length):=by
 intro N
 induction N with
 | zero=>intro rs m k h1 h2;omega
 | succ N ih =>
  intro rs m k hk hN f l a w
  have u:=Ya s rs m k false hk
  have W:zC s rs m k false=⟨⟨ze s (zb s k false) false,zb s k false,(cE s rs (s.size+1) 0 m (zc s 58 (zQ s k false) (zX s k false)) (zj s 58 (zQ s k false) (zX s k false))).idx⟩,(cE s rs (s.size+1) 0 m (zc s 58 (zQ s k false) (zX s k false)) (zj s 58 (zQ s k false) (zX s k false))).es,(cE s rs (s.size+1) 0 m (zc s 58 (zQ s k false) (zX s k false)) (zj s 58 (zQ s k false) (zX s k false))).k,(cE s rs (s.size+1) 0 m (zc s 58 (zQ s k false) (zX s k false)) (zj s 58 (zQ s k false) (zX s k false))).b⟩:=rfl
  simp only [zx] at f l a ⊢
  -- the rules up to here
  have B:∃ t,RA=rs++(zC s rs m k false).rl::t:=by
   rw [<- a]
   split
   ·have L:∀ (N:Nat) (rs:List RL) (m k:Nat) (b:Bool),∃ t,(zx s N rs m k b).rs=rs++t:=by
     intro N
     induction N with
     | zero=>intro rs m k b;exact ⟨[],by simp [zx]⟩
     | succ N ih =>
      intro rs m k b
      simp only [zx]
      split
      ·obtain ⟨t,n⟩:=ih (rs++[(zC s rs m k b).rl]) (m+(zC s rs m k b).es.length) (zc s 59 (zC s rs m k b).k (zC s rs m k b).b) (zC s rs m k b).b
       exact ⟨(zC s rs m k b).rl::t,by simp only;rw [n];simp⟩
      ·exact ⟨[(zC s rs m k b).rl],rfl⟩
    obtain ⟨t,n⟩:=L N (rs++[(zC s rs m k false).rl]) (m+(zC s rs m k false).es.length) (zc s 59 (zC s rs m k false).k (zC s rs m k false).b) (zC s rs m k false).b
    exact ⟨t,by simp only;rw [n];simp⟩
   ·exact ⟨[],rfl⟩
  obtain ⟨t,A⟩:=B
  have a0:RK rs nm (knK (nsR E RA) rs.length) E m:=⟨YI _ _,fun i r hr=>by
   have D:i<rs.length:=(List.getElem?_eq_some_iff.1 hr).1
   have z:RA[i]?=some r:=by rw [A,List.getElem?_append_left D];exact hr
   obtain ⟨j,hj,R⟩:=w r (List.mem_of_getElem? hr)
   refine ⟨hnm i r z,j,hj,R,?_⟩
   rw [jb _ D]
   unfold nsR
   rw [z]
   simp only
   rw [hj,Int.toNat_natCast]⟩
  have a1:=zbA (s:=s) a0 h16 (s.size+1)
  have Q:=Yg s k false
  have P:=xr (b:=false) hk
  have Z:=zi s 58 (zQ s k false) (zX s k false)
  have F:zc s 58 (zQ s k false) (zX s k false)<=s.size:=zs (by decide) P
  have o:(zC s rs m k false).b=false->Pos E m (zC s rs m k false).es->1<=(zC s rs m k false).es.length/\(zC s rs m k false).rl.ex=((m+(zC s rs m k false).es.length-1:Nat):Int)/\(97<=(zC s rs m k false).rl.nv/\(zC s rs m k false).rl.nv<=122)/\∃ x,bt s k (zC s rs m k false).k=[(zC s rs m k false).rl.nv,58]++x/\SZL nm (knK (nsR E RA) rs.length) x (szR E (m+(zC s rs m k false).es.length)):=by
   rw [W]
   simp only
   intro U hp
   have X:zj s 58 (zQ s k false) (zX s k false)=false:=by
    cases hq:zj s 58 (zQ s k false) (zX s k false) with
    | false=>rfl
    | true=>rw [hq,Y6 s rs (s.size+1)] at U;cases U
   have hw:=zK (by decide) (by decide) X
   have H:=Xl hw.1
   obtain ⟨x1,x2,x3⟩:=a1 0 m _ _ F (by omega) U (Nat.le_refl _) hp
   have C:=yK s rs (s.size+1) 0 m (zc s 58 (zQ s k false) (zX s k false)) (zj s 58 (zQ s k false) (zX s k false)) F
   refine ⟨x1,x2,by rw [H.2.2.2.1];exact H.2.2.1,_,?_,x3⟩
   rw [zy s Q (by omega),zy s Z C.1,H.2.2.2.2,hw.2.2,H.2.2.2.1]
   rfl
  generalize zC s rs m k false=it at *
  have v:∀ b,zc s 59 it.k b<=s.size:=fun b=>zs (by decide) u.2.1
  have p:=zi s 59 it.k it.b
  have d:it.b=false:=by
   cases hq:it.b with
   | false=>rfl
   | true =>
    rw [hq] at f
    have V:=yl (s:=s) (k:=it.k) (b:=true) (c:=59) (.inl rfl) (by decide) (by decide)
    rw [V.1] at f
    simp at f
  have h:RA[rs.length]?=some it.rl:=by rw [A,List.getElem?_append_right (Nat.le_refl _),Nat.sub_self];rfl
  rw [d] at f p l a ⊢
  cases n:zZ s 59 it.k false with
  | false =>
   rw [n] at f l a
   simp only [Bool.false_eq_true,if_false] at f l a ⊢
   obtain ⟨y1,G,K,x,J,I⟩:=o d l
   have g:nsR E RA rs.length=szR E (m+it.es.length):=by
    unfold nsR
    rw [h]
    simp only
    rw [G,Int.toNat_natCast,show m+it.es.length-1+1=m+it.es.length from by omega]
   have a2:RA.length=rs.length+1:=by rw [<- a];simp
   refine ⟨[(it.rl.nv,x)],by simp;omega,by simp,?_,fun i y hy=>?_,?_⟩
   ·rw [zy s u.1 p,xf n,List.append_nil,J]
    rfl
   ·have S:i=0:=by have:=(List.getElem?_eq_some_iff.1 hy).1;simpa using this
    subst S
    simp at hy
    subst hy
    exact ⟨K,⟨it.rl,h,rfl⟩,by rw [Nat.add_zero,g];exact I⟩
   ·rw [show RA.length-1=rs.length from by omega,g]
  | true =>
   rw [n] at f l a
   simp only [if_true] at f l a ⊢
   obtain ⟨y1,G,K,x,J,I⟩:=o d l.left
   have g:nsR E RA rs.length=szR E (m+it.es.length):=by
    unfold nsR
    rw [h]
    simp only
    rw [G,Int.toNat_natCast,show m+it.es.length-1+1=m+it.es.length from by omega]
   have O:=Ym (s:=s) (k:=it.k) (c:=59) (by decide) (by decide) n
   have a3:=T.sk_ge s it.k
   obtain ⟨Y,q1,q2,q3,q4,q5⟩:=ih (rs++[it.rl]) (m+it.es.length) (zc s 59 it.k false) (v _) (by omega) f l.right a (fun r hr=>by
    rcases List.mem_append.1 hr with hr | hr
    ·obtain ⟨j,h1,h2⟩:=w r hr;exact ⟨j,h1,by omega⟩
    ·simp at hr;subst hr;exact ⟨_,G,by omega⟩)
   have a4:=ZP s N (rs++[it.rl]) (m+it.es.length) (zc s 59 it.k false) false (v _)
   generalize zx s N (rs++[it.rl]) (m+it.es.length) (zc s 59 it.k false) false=q at *
   rw [List.length_append,List.length_singleton] at q1 q4
   refine ⟨(it.rl.nv,x)::Y,by simp;omega,by simp,?_,fun i y hy=>?_,?_⟩
   ·rw [List.map_cons,Ys 59 _ (by simpa using q2),<- q3,zy s u.1 (c:=q.k) (by omega),zy s p (by omega),O.2,J]
    simp [ruT]
   ·cases i with
    | zero =>
     simp at hy
     subst hy
     exact ⟨K,⟨it.rl,h,rfl⟩,by rw [Nat.add_zero,g];exact I⟩
    | succ i =>
     simp at hy
     have:=q4 i y hy
     rw [show rs.length+(i+1)=rs.length+1+i from by omega]
     exact this
   ·rw [q5,List.length_append,<- Nat.add_assoc]
theorem zac (a b:List Int):strOfNums a++strOfNums b=strOfNums (a++b):=by
 have h:(strOfNums a++strOfNums b).data.toList=(strOfNums (a++b)).data.toList:=by
  rw [xi,ByteArray.data_append,Array.toList_append,xi,xi,List.map_append]
 have:∀ {x y:ByteArray},x.data.toList=y.data.toList->x=y:=fun {x y} h=>by
  obtain ⟨⟨l⟩⟩:=x
  obtain ⟨⟨m⟩⟩:=y
  simp at h
  rw [h]
 exact this h
theorem zfu (s:ByteArray):∀ (N:Nat) (rs:List RL) (m k:Nat) (b:Bool),∀ r∈(zx s N rs m k b).rs,r∈rs\/(0<=r.nv/\r.nv<256):=by
 intro N
 induction N with
 | zero=>intro rs m k b r a;exact .inl (by simpa [zx] using a)
 | succ N ih =>
  intro rs m k b r a
  have e:=Yu s (zb s k b) b
  have d:∀ r∈rs++[(zC s rs m k b).rl],r∈rs\/(0<=r.nv/\r.nv<256):=fun r a=>by
   rcases List.mem_append.1 a with a | a
   ·exact .inl a
   ·simp at a;subst a;exact .inr e
  simp only [zx] at a
  split at a
  ·rcases ih _ _ _ _ r a with h | h
   ·exact d r h
   ·exact .inr h
  ·exact d r a
theorem ze1 {nm:ByteArray} {K:Nat->List Int} {n:Nat->Int}:∀ (Y:List (Int×List Int)) (o:Nat),Y≠[]->(∀ i y,Y[i]?=some y->(97<=y.1/\y.1<=122)/\SZL nm (K (o+i)) y.2 (n (o+i)))->yk 59 0 [] (joi 59 (Y.map ruT))=Y.map ruT:=by
 intro Y
 induction Y with
 | nil=>intro o h;exact absurd rfl h
 | cons y r ih =>
  intro o _ h
  have d:=h 0 y rfl
  have one:∀ cur rest,yk 59 0 cur (ruT y++rest)=yk 59 0 (cur++ruT y) rest:=fun cur rest=>by
   have e:ruT y++rest=y.1::58::(y.2++rest):=by simp [ruT]
   rw [e,yk,if_neg (by omega),if_neg (by omega),if_neg (by omega),yk,if_neg (by decide),if_neg (by decide),if_neg (by decide),d.2.nsp 59 (.inr (.inr (.inr rfl))) 0 (Int.le_refl _)]
   simp [ruT]
  cases r with
  | nil =>
   have:=one [] []
   simp only [List.map_cons,List.map_nil,joi]
   rw [List.append_nil] at this
   rw [this]
   simp [yk]
  | cons z r =>
   have b:=one [] ([59]++joi 59 ((z::r).map ruT))
   have a:=ih (o+1) (by simp) (fun i y hy=>by
    have:=h (i+1) y hy
    rw [show o+(i+1)=o+1+i from by omega] at this
    exact this)
   simp only [List.map_cons,joi] at b a ⊢
   rw [List.append_assoc,b]
   simp only [List.singleton_append,yk,List.nil_append]
   rw [if_neg (by decide),if_neg (by decide),if_pos ⟨trivial,trivial⟩,a]
theorem zak {l:List (List Int)} (h:∀ x∈l,Byt x):Byt (joi 59 l):=Byt.joi (by decide) l h
theorem zes {es:List EX} {rs:List RL} (h:(xR es rs).1=0):∀ e∈es,e.items.length<=16:=by
 intro e g
 rcases Xq es rs with ⟨_,h2⟩ | ⟨h1,_⟩
 ·by_cases f:e.items.length<=16
  ·exact f
  ·exfalso
   obtain ⟨x,b⟩:∃ x,e.items[16]?=some x:=⟨e.items[16],List.getElem?_eq_getElem (by omega)⟩
   have j:e.items=e.items.take 16++x::e.items.drop 17:=by
    have a:e.items[16]=x:=by
     have:=List.getElem?_eq_getElem (l:=e.items) (i:=16) (by omega)
     rw [this] at b
     exact Option.some.inj b
    rw [<- a,<- List.drop_eq_getElem_cons (by omega),List.take_append_drop]
   have d:FIs e.kind [] (e.items.take 16++x::e.items.drop 17) 4 x.at_:=by
    rw [zay]
    refine .inr (.inl (.inl ⟨?_,rfl,?_⟩))
    ·simp;omega
    ·rfl
   rw [<- j] at d
   exact h2 4 x.at_ (.inl ⟨e,g,.inr d⟩)
 ·exact absurd h h1
theorem zbW (s:ByteArray) (w:World):Calls Tryz.prog 26 #[.string s] w fun e w'=>Below w.heap.size w w'/\e=.returned (.tuple #[.int .i64 (cSz s).1,.int .i64 (cSz s).2]):=by
 by_cases B:(chk s).1=0
 ·have d:(yQ s).1=0:=by rw [<- jh];exact B
  have W:s.size<=2000:=by
   by_cases H:2000<s.size
   ·unfold yQ at d;rw [if_pos H] at d;cases d
   ·omega
  have v:((zA s).b || decide ((zA s).k<s.size))=false/\(xR (zA s).es (zA s).rs).1=0:=by
   unfold yQ at d
   rw [if_neg (by omega)] at d
   split at d
   ·cases d
   ·next H =>
    refine ⟨by simpa using H,?_⟩
    split at d
    ·next h=>exact h
    ·next h=>exact absurd d h
  have u:(zA s).b=false:=by cases hq:(zA s).b with
   | false=>rfl
   | true=>rw [hq] at v;cases v.1
  have G:=ZP s (s.size+1) [] 0 0 false (Nat.zero_le _)
  have O:(zA s).k=s.size:=by
   have A:=v.1
   rw [u,Bool.false_or] at A
   have S:¬ (zA s).k<s.size:=of_decide_eq_false A
   have h3:(zA s).k<=s.size:=G.2
   omega
  have P:=zes v.2
  have F:Byt ((zA s).rs.map RL.nv):=fun x hx=>by
   simp only [List.mem_map] at hx
   obtain ⟨r,o,rfl⟩:=hx
   rcases zfu s (s.size+1) [] 0 0 false r o with h | h
   ·simp at h
   ·exact h
  have E:∀ i r,(zA s).rs[i]?=some r->T.ch (strOfNums ((zA s).rs.map RL.nv)) i=r.nv:=fun i r o=>by
   rw [yx F,List.getElem?_map,o];rfl
  obtain ⟨Y,Q,U,D,m,C⟩:=Jy (s:=s) P E (s.size+1) [] 0 0 (Nat.zero_le _) (by omega) u (fun i e he=>by rw [Nat.zero_add];exact he) rfl (by simp)
  have I:zx s (s.size+1) [] 0 0 false=zA s:=rfl
  rw [I] at D C
  rw [O] at D
  simp only [List.length_nil,Nat.add_zero,Nat.zero_add] at Q m C
  have l:bare s=strOfNums (joi 59 (Y.map ruT)):=by unfold bare;rw [J3,D]
  have J:∀ x∈Y.map ruT,Byt x:=fun x hx=>by
   simp only [List.mem_map] at hx
   obtain ⟨y,g,rfl⟩:=hx
   obtain ⟨i,X⟩:=List.getElem?_of_mem g
   have A:=m i y X
   exact Byt.app (a:=[y.1,58]) (fun z hz=>by simp at hz;rcases hz with rfl | rfl<;>omega) A.2.2.byt
  have f:spl (bare s) 59=(Y.map ruT).map strOfNums:=by
   rw [l,Zv (zak J),ze1 (nm:=strOfNums ((zA s).rs.map RL.nv)) (K:=fun i=>knK (nsR (zA s).es (zA s).rs) i) (n:=fun i=>nsR (zA s).es (zA s).rs i) Y 0 U (fun i y g=>⟨(m i y g).1,by rw [Nat.zero_add];exact (m i y g).2.2⟩)]
  have S:∀ t∈spl (bare s) 59,2<=t.size:=fun t ht=>by
   rw [f] at ht
   simp only [List.mem_map] at ht
   obtain ⟨x,⟨y,_,rfl⟩,rfl⟩:=ht
   rw [strOfNums_size];simp [ruT]
  have Z:ZD (spl (bare s) 59)=Y.map (fun y=>strOfNums y.2):=by
   rw [f]
   unfold ZD
   rw [List.map_map,List.map_map]
   apply List.map_congr_left
   intro y _
   exact xg [y.1,58] y.2
  have q:Y.map Prod.fst=(zA s).rs.map RL.nv:=by
   apply List.ext_getElem?
   intro i
   rw [List.getElem?_map,List.getElem?_map]
   cases g:Y[i]? with
   | none =>
    have:Y.length<=i:=by simpa using g
    rw [List.getElem?_eq_none (by omega)];rfl
   | some y =>
    obtain ⟨r,o,V⟩:=(m i y g).2.1
    rw [o]
    simp [V]
  have L:∀ j,j<=Y.length->Yp (spl (bare s) 59) j=strOfNums ((Y.take j).map Prod.fst):=by
   intro j
   induction j with
   | zero=>intro _;rfl
   | succ j ih =>
    intro hj
    have g:Y[j]?=some Y[j]:=List.getElem?_eq_getElem (by omega)
    have p:(spl (bare s) 59)[j]?=some (strOfNums (ruT Y[j])):=by rw [f,List.getElem?_map,List.getElem?_map,g];rfl
    simp only [Yp,p]
    rw [ih (by omega),x8,zac,show (Y.take (j+1))=Y.take j++[Y[j]] from by rw [List.take_add_one,g];rfl,List.map_append]
    rfl
  have hN:Yp (spl (bare s) 59) (spl (bare s) 59).length=strOfNums ((zA s).rs.map RL.nv):=by
   have p:(spl (bare s) 59).length=Y.length:=by rw [f];simp
   rw [p,L Y.length (Nat.le_refl _),List.take_length,q]
  have R:=zdG s w (nsR (zA s).es (zA s).rs) W B S (fun j t ht=>by
   rw [hN]
   rw [Z,List.getElem?_map] at ht
   cases g:Y[j]? with
   | none=>rw [g] at ht;simp at ht
   | some y =>
    rw [g] at ht
    simp at ht
    subst ht
    exact (m j y g).2.2.sz)
  have p:(spl (bare s) 59).length=(zA s).rs.length:=by rw [f];simp;exact Q
  rw [p,C] at R
  have N:cSz s=(szR (zA s).es (zA s).es.length,0):=by unfold cSz;rw [if_pos d]
  rw [N]
  exact R
 ·have d:(yQ s).1≠0:=by rw [<- jh];exact B
  have N:cSz s=(0,(chk s).1):=by unfold cSz;rw [if_neg d,jh]
  rw [N]
  exact zdH s w B
end Go.Proofs.YtaebngpoagjafabGreat
