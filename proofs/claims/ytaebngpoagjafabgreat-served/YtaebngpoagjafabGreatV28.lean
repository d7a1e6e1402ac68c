import Derived.Test.YtaebngpoagjafabGreatV24
import Derived.Test.YtaebngpoagjafabGreatV27
set_option maxRecDepth 100000
namespace Go.Proofs.YtaebngpoagjafabGreat
open Go.RowKit
theorem zbE {x:Int} (h:x<=1001):Ze x=x:=by unfold Ze;split<;>omega
theorem Yc {K:List Int} {l:List IM} (h:∀ x∈l,x.arm=-1):∀ j,yC K l j=0:=by
 intro j
 induction j with
 | zero=>rfl
 | succ j ih =>
  simp only [yC,ih]
  cases hx:l[j]? with
  | none=>rfl
  | some x=>simp only;rw [h x (List.mem_of_getElem? hx),Xu];rfl
def arD:AR:=⟨[],[],0⟩
theorem qk {α:Type} (L:List AR) (f:AR->α):(List.range L.length).map (fun i=>f ((L[i]?).getD arD))=L.map f:=by
 apply List.ext_getElem
 ·simp
 ·intro i h1 h2
  simp at h1
  simp [h1]
theorem zbU {E:List EX} {M:Nat} {l:List IM} {L:List AR} (hm:l.map IM.arm=L.map (fun a=>(a.num:Int))) (hL:∀ a∈L,a.num<M):∀ j,j<=L.length->yC (szK E M) l j=ZU (fun i=>if i<L.length then szR E (((L[i]?).getD arD).num+1) else 0) j:=by
 intro j
 induction j with
 | zero=>intro _;rfl
 | succ j ih =>
  intro hj
  simp only [yC,ZU,ih (by omega)]
  have hl:l.length=L.length:=by have:=congrArg List.length hm;simpa using this
  have hx:l[j]?=some l[j]:=List.getElem?_eq_getElem (by omega)
  have hy:L[j]?=some L[j]:=List.getElem?_eq_getElem (by omega)
  have he:(l[j]).arm=((L[j]).num:Int):=by
   have:=congrArg (fun q=>q[j]?) hm
   simp only [List.getElem?_map,hx,hy] at this
   simpa using this
  rw [hx,hy]
  simp only [Option.getD_some]
  rw [he,Xt E (hL _ (List.getElem_mem _)),if_pos (by omega)]
theorem J9 {s nm:ByteArray} {rs:List RL} {Kn:List Int} {E:List EX} {lim:Nat} (hR:RK rs nm Kn E lim) (h16:∀ e∈E,e.items.length<=16):∀ n,EG s nm Kn E lim (cE s rs n) n:=by
 intro n
 induction n with
 | zero=>intro d m k b _ h;omega
 | succ n ih =>
  intro d m k b hk hn hb hm hP
  have hM:=yB s rs n
  have hB:=Yy s rs n
  have hbf:b=false:=by
   cases hq:b with
   | false=>rfl
   | true=>rw [hq,Yy s rs (n+1) d m k] at hb;cases hb
  subst hbf
  have hge:=T.sk_ge s k
  have hle:=T.sk_le hk
  have hss:=Yq s k
  have hsf:=zk s k
  cases hK:isK (ze s (zb s k false) false) with
  | false=>rw [QV n d m k false hK] at hb;cases hb
  | true =>
   have hlt:T.sk s k<s.size:=by have:=(yS hK).2;rw [hsf] at this;exact this
   obtain ⟨c,hc⟩:∃ c,T.ch s (T.sk s k)=c:=⟨_,rfl⟩
   have hcc:ze s (zb s k false) false=c:=by rw [hsf,yM,if_pos hlt];exact hc
   rw [hcc] at hK
   have h8:c=123\/c=116\/c=64\/c=61\/(c=119\/c=102\/c=109\/c=103):=by
    simp [isK] at hK
    omega
   have hbc:T.bl c=false:=by unfold T.bl;simp;omega
   have hk1:bt s k (T.sk s k+1)=[c]:=by rw [yu (by omega),X3 hc hbc]
   rcases h8 with rfl | rfl | rfl | rfl | h8
   ·rw [Ym n d m k false hcc,hsf] at hb hP ⊢
    have hmo:=zL hM 123 d (s.size+1-(T.sk s k+1)) m (T.sk s k+1) false (by omega)
    have hi:=Xg hM (c:=123) (.inl rfl) d (s.size+1-(T.sk s k+1)) m (T.sk s k+1) (by omega) (by omega)
    generalize zd (cE s rs n) s 123 d (s.size+1-(T.sk s k+1)) m (T.sk s k+1) false=l at *
    simp only at hb hP ⊢
    have hw:=zJ (by decide) (by decide) hb
    obtain ⟨i1,i2,L,i3,i4,i5,i6⟩:=hi hw.1
    have hE:=hP.last
    have h16':=h16 _ (List.mem_of_getElem? hE)
    simp only at h16'
    have htg:=zi s 125 l.k l.b
    refine ⟨by simp,by simp,?_⟩
    rw [zx s (b:=T.sk s k+1) (by omega) (by omega),zx s (a:=T.sk s k+1) hmo.1 htg,hk1,i6,hw.2.2]
    have hz:szR E (m+(l.es++[(⟨123,T.sk s k,d,0,0,l.ims,-1⟩:EX)]).length)=1+(L.length:Int):=by
     rw [List.length_append,List.length_singleton,<- Nat.add_assoc,XA hE]
     unfold szE
     simp only
     rw [Xu,Yc i2,if_neg (by decide),i3,zbE (by omega)]
     omega
    rw [hz,<- List.append_assoc]
    exact SZL.servers i4 i5
   ·rw [Qd n d m k false hcc rfl rfl rfl,hsf] at hb hP ⊢
    have hb0:=zi s 40 (T.sk s k+1) false
    have hb1:zc s 40 (T.sk s k+1) false<=s.size:=zq (by decide) (by omega)
    have hw1:=zJ (s:=s) (c:=40) (k:=T.sk s k+1) (b:=false) (by decide) (by decide)
    generalize zc s 40 (T.sk s k+1) false=k1 at *
    generalize zj s 40 (T.sk s k+1) false=b1 at *
    have hb2:=zV (b:=b1) hb1
    have hb3:=zZ (b:=b1) hb1
    have hnu:=Z3 (b:=b1) hb1
    generalize zm s k1 b1=kn at *
    generalize zu s k1 b1=bn at *
    have hb4:=zi s 44 kn bn
    have hb5:zc s 44 kn bn<=s.size:=zq (by decide) hb3
    have hw2:=zJ (s:=s) (c:=44) (k:=kn) (b:=bn) (by decide) (by decide)
    generalize zc s 44 kn bn=k2 at *
    generalize zj s 44 kn bn=b2 at *
    have hmo:=hM (d+1) m k2 b2 hb5
    have hbd:b2=true->(cE s rs n (d+1) m k2 b2).b=true:=fun h=>by rw [h];exact hB _ _ _
    have hI:=ih (d+1) m k2 b2 hb5 (by omega)
    generalize cE s rs n (d+1) m k2 b2=r at *
    simp only at hb hP ⊢
    have hw:=zJ (by decide) (by decide) hb
    have hb2f:b2=false:=by cases hq:b2 with
     | false=>rfl
     | true=>rw [hbd hq] at hw;cases hw.1
    obtain ⟨x1,x2,x3⟩:=hI hw.1 hm hP.left
    have g2:=hw2 hb2f
    have gn:=hnu g2.1
    have g1:=hw1 gn.1
    have hE:=hP.last
    have htg:=zi s 41 r.k r.b
    refine ⟨by simp,by simp,?_⟩
    rw [zx s (b:=T.sk s k+1) (by omega) (by omega),zx s (a:=T.sk s k+1) (b:=k1) hb0 (by omega),zx s (a:=k1) (b:=kn) hb2 (by omega),zx s (a:=kn) (b:=k2) hb4 (by omega),zx s (a:=k2) hmo.1 htg,hk1,g1.2.2,g2.2.2,hw.2.2]
    have hz:szR E (m+(r.es++[(⟨116,T.sk s k,d,zI s k1 b1,zb s k1 b1,[],r.idx⟩:EX)]).length)=Ze (1+szR E (m+r.es.length)):=by
     rw [List.length_append,List.length_singleton,<- Nat.add_assoc,XA hE]
     unfold szE
     simp only
     rw [x2,Xt E (by omega),show m+r.es.length-1+1=m+r.es.length from by omega,if_neg (by decide),Yc (by simp)]
     congr 1
     simp
     omega
    rw [hz]
    have:=SZL.ttl gn.2.2 x3
    simpa [joi] using this
   ·rw [xM n d m k false hcc,hsf] at hb hP ⊢
    simp only at hb hP ⊢
    have gn:=Z3 (by omega) hb
    have hE:=hP.last (a:=[])
    refine ⟨by simp,by simp,?_⟩
    rw [zx s (b:=T.sk s k+1) (by omega) (zV (by omega)),hk1]
    have hz:szR E (m+[(⟨64,T.sk s k,d,zI s (T.sk s k+1) false,zb s (T.sk s k+1) false,[],-1⟩:EX)].length)=1:=by
     rw [List.length_singleton]
     rw [List.length_nil,Nat.add_zero] at hE
     rw [XA hE]
     unfold szE
     simp only
     rw [Xu,if_neg (by decide),Yc (by simp)]
     decide
    rw [hz]
    exact SZL.alias gn.2.2
   ·rw [Xr n d m k false hcc,hsf] at hb hP ⊢
    simp only at hb hP ⊢
    have gl:=xB hb
    have hE:=hP.last (a:=[])
    rw [List.length_nil,Nat.add_zero] at hE
    refine ⟨by simp,by simp,?_⟩
    rw [zx s (b:=T.sk s k+1) (by omega) (ZS s _ _),hk1,gl.2.2.2.2]
    have hz:szR E (m+[(⟨61,T.sk s k,d,ze s (zb s (T.sk s k+1) false) false,zb s (T.sk s k+1) false,[],yf (ze s (zb s (T.sk s k+1) false) false) rs⟩:EX)].length)=knL nm (T.ch s (T.sk s (T.sk s k+1))) Kn 0:=by
     rw [List.length_singleton,XA hE]
     unfold szE
     simp only
     rw [if_pos trivial,Yc (by simp),gl.2.2.2.1,zdX hR _ hm,zbE]
     ·omega
     ·have:=(xc (XB E m) (yf (T.ch s (T.sk s (T.sk s k+1))) rs)).2;omega
    rw [hz]
    exact SZL.name gl.2.2.1
   ·rw [Xs n d m k false hcc h8 rfl rfl rfl rfl,hsf] at hb hP ⊢
    have hb0:=zi s 40 (T.sk s k+1) false
    have hb1:zc s 40 (T.sk s k+1) false<=s.size:=zq (by decide) (by omega)
    have hw1:=zJ (s:=s) (c:=40) (k:=T.sk s k+1) (b:=false) (by decide) (by decide)
    generalize zc s 40 (T.sk s k+1) false=k1 at *
    generalize zj s 40 (T.sk s k+1) false=b1 at *
    have hli:=zL hM c d (s.size+1-k1) m k1 b1 hb1
    have hbi:b1=true->(zd (cE s rs n) s c d (s.size+1-k1) m k1 b1).b=true:=fun h=>X0 hB c d _ m k1 h
    have hIP:b1=false->(c=123\/c=102\/c=119)->(zd (cE s rs n) s c d (s.size+1-k1) m k1 b1).b=false->(zd (cE s rs n) s c d (s.size+1-k1) m k1 b1).es=[]/\(∀ x∈(zd (cE s rs n) s c d (s.size+1-k1) m k1 b1).ims,x.arm=-1)/\∃ L:List (List Int),L.length=(zd (cE s rs n) s c d (s.size+1-k1) m k1 b1).ims.length/\L≠[]/\(∀ x∈L,Pln x)/\bt s k1 (zd (cE s rs n) s c d (s.size+1-k1) m k1 b1).k=joi 44 L:=fun h hc2 hb=>by subst h;exact Xg hM hc2 d (s.size+1-k1) m k1 hb1 (by omega) hb
    have hIA:b1=false->(c=103\/c=109)->(zd (cE s rs n) s c d (s.size+1-k1) m k1 b1).b=false->Pos E m (zd (cE s rs n) s c d (s.size+1-k1) m k1 b1).es->∃ L:List AR,L.length=(zd (cE s rs n) s c d (s.size+1-k1) m k1 b1).ims.length/\L≠[]/\(∀ a∈L,Pln a.key/\SZL nm Kn a.txt (szR E (a.num+1))/\a.num<m+(zd (cE s rs n) s c d (s.size+1-k1) m k1 b1).es.length)/\(zd (cE s rs n) s c d (s.size+1-k1) m k1 b1).ims.map IM.arm=L.map (fun a=>(a.num:Int))/\bt s k1 (zd (cE s rs n) s c d (s.size+1-k1) m k1 b1).k=joi 44 (L.map AR.t):=fun h hc2 hb hp=>by subst h;exact QL hM hB ih hc2 d (s.size+1-k1) m k1 hb1 (by omega) (by omega) hb hm hp
    generalize zd (cE s rs n) s c d (s.size+1-k1) m k1 b1=l at *
    have hb4:=zi s 124 l.k l.b
    have hb5:zc s 124 l.k l.b<=s.size:=zq (by decide) hli.2.1
    have hw2:=zJ (s:=s) (c:=124) (k:=l.k) (b:=l.b) (by decide) (by decide)
    generalize zc s 124 l.k l.b=k2 at *
    generalize zj s 124 l.k l.b=b2 at *
    have hmo:=hM (d+1) (m+l.es.length) k2 b2 hb5
    have hbd:b2=true->(cE s rs n (d+1) (m+l.es.length) k2 b2).b=true:=fun h=>by rw [h];exact hB _ _ _
    have hI:=ih (d+1) (m+l.es.length) k2 b2 hb5 (by omega)
    generalize cE s rs n (d+1) (m+l.es.length) k2 b2=r at *
    simp only at hb hP ⊢
    have hw:=zJ (by decide) (by decide) hb
    have hb2f:b2=false:=by cases hq:b2 with
     | false=>rfl
     | true=>rw [hbd hq] at hw;cases hw.1
    have g2:=hw2 hb2f
    have hb1f:b1=false:=by cases hq:b1 with
     | false=>rfl
     | true=>rw [hbi hq] at g2;cases g2.1
    have g1:=hw1 hb1f
    obtain ⟨x1,x2,x3⟩:=hI hw.1 (by omega) hP.left.right
    have hE:=hP.last
    have htg:=zi s 41 r.k r.b
    refine ⟨by simp only [List.length_append,List.length_cons,List.length_nil];omega,by simp only [List.length_append,List.length_cons,List.length_nil];omega,?_⟩
    rw [zx s (b:=T.sk s k+1) (by omega) (by omega),zx s (a:=T.sk s k+1) (b:=k1) hb0 (by omega),zx s (a:=k1) (b:=l.k) hli.1 (by omega),zx s (a:=l.k) (b:=k2) hb4 (by omega),zx s (a:=k2) hmo.1 htg,hk1,g1.2.2,g2.2.2,hw.2.2]
    have hLn:m+(l.es++r.es).length=m+l.es.length+r.es.length:=by rw [List.length_append];omega
    have hz:szR E (m+(l.es++r.es++[(⟨c,T.sk s k,d,0,0,l.ims,r.idx⟩:EX)]).length)=Ze (szR E (m+l.es.length+r.es.length)+(1+(l.ims.length:Int))+yC (szK E (m+l.es.length+r.es.length)) l.ims l.ims.length):=by
     rw [List.length_append,List.length_singleton,<- Nat.add_assoc,XA hE,hLn]
     unfold szE
     simp only
     rw [x2,Xt E (by omega),show m+l.es.length+r.es.length-1+1=m+l.es.length+r.es.length from by omega,if_neg (by omega)]
    rw [hz]
    by_cases hpl:c=123\/c=102\/c=119
    ·obtain ⟨i1,i2,L,i3,i4,i5,i6⟩:=hIP hb1f hpl g2.1
     rw [i6,Yc i2]
     have:=SZL.list (c:=c) (by omega) i4 i5 x3
     rw [show szR E (m+l.es.length+r.es.length)+(1+(l.ims.length:Int))+0=1+(L.length:Int)+szR E (m+l.es.length+r.es.length) from by rw [i3];omega]
     simpa [joi] using this
    ·obtain ⟨L,i1,i2,i3,i4,i5⟩:=hIA hb1f (by omega) g2.1 hP.left.left
     rw [i5,<- i1,zbU (E:=E) (M:=m+l.es.length+r.es.length) i4 (fun a ha=>by have:=(i3 a ha).2.2;omega) L.length (Nat.le_refl _)]
     have hget:∀ i,i<L.length->∃ a∈L,(L[i]?).getD arD=a:=fun i hi=>⟨L[i],List.getElem_mem _,by rw [List.getElem?_eq_getElem hi];rfl⟩
     have:=SZL.maps (nm:=nm) (K:=Kn) (c:=c) (m:=L.length) (ks:=fun i=>((L[i]?).getD arD).key) (ar:=fun i=>((L[i]?).getD arD).txt) (o:=bt s k2 r.k) (n:=szR E (m+l.es.length+r.es.length)) (ns:=fun i=>if i<L.length then szR E (((L[i]?).getD arD).num+1) else 0) (by omega) (List.length_pos_iff.2 i2)
      (fun i hi=>by obtain ⟨a,ha,e⟩:=hget i hi;simp only [e];exact (i3 a ha).1) (fun i hi=>by obtain ⟨a,ha,e⟩:=hget i hi;simp only [e,if_pos hi];exact (i3 a ha).2.1) (fun i hi=>by rw [if_neg (by omega)]) x3
     have e2:(List.range L.length).map (fun i=>((L[i]?).getD arD).key++[58]++((L[i]?).getD arD).txt)=L.map AR.t:=qk L AR.t
     rw [e2] at this
     rw [show szR E (m+l.es.length+r.es.length)+(1+(L.length:Int))+ZU (fun i=>if i<L.length then szR E (((L[i]?).getD arD).num+1) else 0) L.length=1+(L.length:Int)+szR E (m+l.es.length+r.es.length)+ZU (fun i=>if i<L.length then szR E (((L[i]?).getD arD).num+1) else 0) L.length from by omega]
     simpa [joi] using this
def nsR (E:List EX) (RA:List RL) (i:Nat):Int:=match RA[i]? with | some r=>szR E (r.ex.toNat+1) | none=>0
def ruT (y:Int×List Int):List Int:=[y.1,58]++y.2
theorem jk {s nm:ByteArray} {E:List EX} {RA:List RL} (h16:∀ e∈E,e.items.length<=16) (hnm:∀ i r,RA[i]?=some r->T.ch nm i=r.nv):∀ (N:Nat) (rs:List RL) (m k:Nat),k<=s.size->s.size+1<=N+k->(zw s N rs m k false).b=false->Pos E m (zw s N rs m k false).es->(zw s N rs m k false).rs=RA->(∀ r∈rs,∃ j:Nat,r.ex=(j:Int)/\j<m) ->
 ∃ Y:List (Int×List Int),Y.length+rs.length=RA.length/\Y≠[]/\bt s k (zw s N rs m k false).k=joi 59 (Y.map ruT)/\(∀ i y,Y[i]?=some y->(97<=y.1/\y.1<=122)/\(∃ r,RA[rs.length+i]?=some r/\r.nv=y.1)/\SZL nm (knK (nsR E RA) (rs.length+i)) y.2 (nsR E RA (rs.length+i)))/\nsR E RA (RA.length-1)=szR E (m+(zw s N rs m k false).es.length):=by
 intro N
 induction N with
 | zero=>intro rs m k h1 h2;omega
 | succ N ih =>
  intro rs m k hk hN hb hP hRA hrs
  have hmo:=ZM s rs m k false hk
  have hcr:zB s rs m k false=⟨⟨ze s (zb s k false) false,zb s k false,(cE s rs (s.size+1) 0 m (zc s 58 (zO s k false) (zT s k false)) (zj s 58 (zO s k false) (zT s k false))).idx⟩,(cE s rs (s.size+1) 0 m (zc s 58 (zO s k false) (zT s k false)) (zj s 58 (zO s k false) (zT s k false))).es,(cE s rs (s.size+1) 0 m (zc s 58 (zO s k false) (zT s k false)) (zj s 58 (zO s k false) (zT s k false))).k,(cE s rs (s.size+1) 0 m (zc s 58 (zO s k false) (zT s k false)) (zj s 58 (zO s k false) (zT s k false))).b⟩:=rfl
  simp only [zw] at hb hP hRA ⊢
  -- the rules up to here
  have hpre:∃ t,RA=rs++(zB s rs m k false).rl::t:=by
   rw [<- hRA]
   split
   ·have key:∀ (N:Nat) (rs:List RL) (m k:Nat) (b:Bool),∃ t,(zw s N rs m k b).rs=rs++t:=by
     intro N
     induction N with
     | zero=>intro rs m k b;exact ⟨[],by simp [zw]⟩
     | succ N ih =>
      intro rs m k b
      simp only [zw]
      split
      ·obtain ⟨t,ht⟩:=ih (rs++[(zB s rs m k b).rl]) (m+(zB s rs m k b).es.length) (zc s 59 (zB s rs m k b).k (zB s rs m k b).b) (zB s rs m k b).b
       exact ⟨(zB s rs m k b).rl::t,by simp only;rw [ht];simp⟩
      ·exact ⟨[(zB s rs m k b).rl],rfl⟩
    obtain ⟨t,ht⟩:=key N (rs++[(zB s rs m k false).rl]) (m+(zB s rs m k false).es.length) (zc s 59 (zB s rs m k false).k (zB s rs m k false).b) (zB s rs m k false).b
    exact ⟨t,by simp only;rw [ht];simp⟩
   ·exact ⟨[],rfl⟩
  obtain ⟨t,hpt⟩:=hpre
  have hRK:RK rs nm (knK (nsR E RA) rs.length) E m:=⟨xC _ _,fun i r hr=>by
   have hil:i<rs.length:=(List.getElem?_eq_some_iff.1 hr).1
   have hra:RA[i]?=some r:=by rw [hpt,List.getElem?_append_left hil];exact hr
   obtain ⟨j,hj,hjm⟩:=hrs r (List.mem_of_getElem? hr)
   refine ⟨hnm i r hra,j,hj,hjm,?_⟩
   rw [Jb _ hil]
   unfold nsR
   rw [hra]
   simp only
   rw [hj,Int.toNat_natCast]⟩
  have hEG:=J9 (s:=s) hRK h16 (s.size+1)
  have hl0:=ZS s k false
  have hl1:=YJ (b:=false) hk
  have hb0:=zi s 58 (zO s k false) (zT s k false)
  have hb1:zc s 58 (zO s k false) (zT s k false)<=s.size:=zq (by decide) hl1
  have hitg:(zB s rs m k false).b=false->Pos E m (zB s rs m k false).es->1<=(zB s rs m k false).es.length/\(zB s rs m k false).rl.ex=((m+(zB s rs m k false).es.length-1:Nat):Int)/\(97<=(zB s rs m k false).rl.nv/\(zB s rs m k false).rl.nv<=122)/\∃ x,bt s k (zB s rs m k false).k=[(zB s rs m k false).rl.nv,58]++x/\SZL nm (knK (nsR E RA) rs.length) x (szR E (m+(zB s rs m k false).es.length)):=by
   rw [hcr]
   simp only
   intro hh hp
   have hbw:zj s 58 (zO s k false) (zT s k false)=false:=by
    cases hq:zj s 58 (zO s k false) (zT s k false) with
    | false=>rfl
    | true=>rw [hq,Yy s rs (s.size+1)] at hh;cases hh
   have hw:=zJ (by decide) (by decide) hbw
   have hl:=xB hw.1
   obtain ⟨x1,x2,x3⟩:=hEG 0 m _ _ hb1 (by omega) hh (Nat.le_refl _) hp
   have hmo2:=yB s rs (s.size+1) 0 m (zc s 58 (zO s k false) (zT s k false)) (zj s 58 (zO s k false) (zT s k false)) hb1
   refine ⟨x1,x2,by rw [hl.2.2.2.1];exact hl.2.2.1,_,?_,x3⟩
   rw [zx s hl0 (by omega),zx s hb0 hmo2.1,hl.2.2.2.2,hw.2.2,hl.2.2.2.1]
   rfl
  generalize zB s rs m k false=it at *
  have htl:∀ b,zc s 59 it.k b<=s.size:=fun b=>zq (by decide) hmo.2.1
  have htg:=zi s 59 it.k it.b
  have hitb:it.b=false:=by
   cases hq:it.b with
   | false=>rfl
   | true =>
    rw [hq] at hb
    have hdt:=yd (s:=s) (k:=it.k) (b:=true) (c:=59) (.inl rfl) (by decide) (by decide)
    rw [hdt.1] at hb
    simp at hb
  have hns:RA[rs.length]?=some it.rl:=by rw [hpt,List.getElem?_append_right (Nat.le_refl _),Nat.sub_self];rfl
  rw [hitb] at hb htg hP hRA ⊢
  cases ht:zU s 59 it.k false with
  | false =>
   rw [ht] at hb hP hRA
   simp only [Bool.false_eq_true,if_false] at hb hP hRA ⊢
   obtain ⟨y1,y2,y3,x,y4,y5⟩:=hitg hitb hP
   have hnz:nsR E RA rs.length=szR E (m+it.es.length):=by
    unfold nsR
    rw [hns]
    simp only
    rw [y2,Int.toNat_natCast,show m+it.es.length-1+1=m+it.es.length from by omega]
   have hlen:RA.length=rs.length+1:=by rw [<- hRA];simp
   refine ⟨[(it.rl.nv,x)],by simp;omega,by simp,?_,fun i y hy=>?_,?_⟩
   ·rw [zx s hmo.1 htg,YD ht,List.append_nil,y4]
    rfl
   ·have hi0:i=0:=by have:=(List.getElem?_eq_some_iff.1 hy).1;simpa using this
    subst hi0
    simp at hy
    subst hy
    exact ⟨y3,⟨it.rl,hns,rfl⟩,by rw [Nat.add_zero,hnz];exact y5⟩
   ·rw [show RA.length-1=rs.length from by omega,hnz]
  | true =>
   rw [ht] at hb hP hRA
   simp only [if_true] at hb hP hRA ⊢
   obtain ⟨y1,y2,y3,x,y4,y5⟩:=hitg hitb hP.left
   have hnz:nsR E RA rs.length=szR E (m+it.es.length):=by
    unfold nsR
    rw [hns]
    simp only
    rw [y2,Int.toNat_natCast,show m+it.es.length-1+1=m+it.es.length from by omega]
   have hty:=ZZ (s:=s) (k:=it.k) (c:=59) (by decide) (by decide) ht
   have hsk:=T.sk_ge s it.k
   obtain ⟨Y,q1,q2,q3,q4,q5⟩:=ih (rs++[it.rl]) (m+it.es.length) (zc s 59 it.k false) (htl _) (by omega) hb hP.right hRA (fun r hr=>by
    rcases List.mem_append.1 hr with hr | hr
    ·obtain ⟨j,h1,h2⟩:=hrs r hr;exact ⟨j,h1,by omega⟩
    ·simp at hr;subst hr;exact ⟨_,y2,by omega⟩)
   have hqm:=Zb s N (rs++[it.rl]) (m+it.es.length) (zc s 59 it.k false) false (htl _)
   generalize zw s N (rs++[it.rl]) (m+it.es.length) (zc s 59 it.k false) false=q at *
   rw [List.length_append,List.length_singleton] at q1 q4
   refine ⟨(it.rl.nv,x)::Y,by simp;omega,by simp,?_,fun i y hy=>?_,?_⟩
   ·rw [List.map_cons,Z4 59 _ (by simpa using q2),<- q3,zx s hmo.1 (c:=q.k) (by omega),zx s htg (by omega),hty.2,y4]
    simp [ruT]
   ·cases i with
    | zero =>
     simp at hy
     subst hy
     exact ⟨y3,⟨it.rl,hns,rfl⟩,by rw [Nat.add_zero,hnz];exact y5⟩
    | succ i =>
     simp at hy
     have:=q4 i y hy
     rw [show rs.length+(i+1)=rs.length+1+i from by omega]
     exact this
   ·rw [q5,List.length_append,<- Nat.add_assoc]
theorem zcf (a b:List Int):strOfNums a++strOfNums b=strOfNums (a++b):=by
 have h:(strOfNums a++strOfNums b).data.toList=(strOfNums (a++b)).data.toList:=by
  rw [YE,ByteArray.data_append,Array.toList_append,YE,YE,List.map_append]
 have:∀ {x y:ByteArray},x.data.toList=y.data.toList->x=y:=fun {x y} h=>by
  obtain ⟨⟨l⟩⟩:=x
  obtain ⟨⟨m⟩⟩:=y
  simp at h
  rw [h]
 exact this h
theorem zdq (s:ByteArray):∀ (N:Nat) (rs:List RL) (m k:Nat) (b:Bool),∀ r∈(zw s N rs m k b).rs,r∈rs\/(0<=r.nv/\r.nv<256):=by
 intro N
 induction N with
 | zero=>intro rs m k b r hr;exact .inl (by simpa [zw] using hr)
 | succ N ih =>
  intro rs m k b r hr
  have hb:=Z6 s (zb s k b) b
  have key:∀ r∈rs++[(zB s rs m k b).rl],r∈rs\/(0<=r.nv/\r.nv<256):=fun r hr=>by
   rcases List.mem_append.1 hr with hr | hr
   ·exact .inl hr
   ·simp at hr;subst hr;exact .inr hb
  simp only [zw] at hr
  split at hr
  ·rcases ih _ _ _ _ r hr with h | h
   ·exact key r h
   ·exact .inr h
  ·exact key r hr
theorem zc7 {nm:ByteArray} {K:Nat->List Int} {n:Nat->Int}:∀ (Y:List (Int×List Int)) (o:Nat),Y≠[]->(∀ i y,Y[i]?=some y->(97<=y.1/\y.1<=122)/\SZL nm (K (o+i)) y.2 (n (o+i)))->yw 59 0 [] (joi 59 (Y.map ruT))=Y.map ruT:=by
 intro Y
 induction Y with
 | nil=>intro o h;exact absurd rfl h
 | cons y r ih =>
  intro o _ h
  have h0:=h 0 y rfl
  have one:∀ cur rest,yw 59 0 cur (ruT y++rest)=yw 59 0 (cur++ruT y) rest:=fun cur rest=>by
   have e:ruT y++rest=y.1::58::(y.2++rest):=by simp [ruT]
   rw [e,yw,if_neg (by omega),if_neg (by omega),if_neg (by omega),yw,if_neg (by decide),if_neg (by decide),if_neg (by decide),h0.2.nsp 59 (.inr (.inr (.inr rfl))) 0 (Int.le_refl _)]
   simp [ruT]
  cases r with
  | nil =>
   have:=one [] []
   simp only [List.map_cons,List.map_nil,joi]
   rw [List.append_nil] at this
   rw [this]
   simp [yw]
  | cons z r =>
   have h1:=one [] ([59]++joi 59 ((z::r).map ruT))
   have h2:=ih (o+1) (by simp) (fun i y hy=>by
    have:=h (i+1) y hy
    rw [show o+(i+1)=o+1+i from by omega] at this
    exact this)
   simp only [List.map_cons,joi] at h1 h2 ⊢
   rw [List.append_assoc,h1]
   simp only [List.singleton_append,yw,List.nil_append]
   rw [if_neg (by decide),if_neg (by decide),if_pos ⟨trivial,trivial⟩,h2]
theorem Jc {l:List (List Int)} (h:∀ x∈l,Byt x):Byt (joi 59 l):=Byt.joi (by decide) l h
theorem zcD {es:List EX} {rs:List RL} (h:(Y5 es rs).1=0):∀ e∈es,e.items.length<=16:=by
 intro e he
 rcases xI es rs with ⟨_,h2⟩ | ⟨h1,_⟩
 ·by_cases hl:e.items.length<=16
  ·exact hl
  ·exfalso
   obtain ⟨x,hx⟩:∃ x,e.items[16]?=some x:=⟨e.items[16],List.getElem?_eq_getElem (by omega)⟩
   have hd:e.items=e.items.take 16++x::e.items.drop 17:=by
    have hxx:e.items[16]=x:=by
     have:=List.getElem?_eq_getElem (l:=e.items) (i:=16) (by omega)
     rw [this] at hx
     exact Option.some.inj hx
    rw [<- hxx,<- List.drop_eq_getElem_cons (by omega),List.take_append_drop]
   have hF:FIs e.kind [] (e.items.take 16++x::e.items.drop 17) 4 x.at_:=by
    rw [Jn]
    refine .inr (.inl (.inl ⟨?_,rfl,?_⟩))
    ·simp;omega
    ·rfl
   rw [<- hd] at hF
   exact h2 4 x.at_ (.inl ⟨e,he,.inr hF⟩)
 ·exact absurd h h1
theorem zav (s:ByteArray) (w:World):Calls Tryz.prog 26 #[.string s] w fun e w'=>Below w.heap.size w w'/\e=.returned (.tuple #[.int .i64 (cSz s).1,.int .i64 (cSz s).2]):=by
 by_cases h0:(chk s).1=0
 ·have hc0:(Zj s).1=0:=by rw [<- jJ];exact h0
  have hs:s.size<=2000:=by
   by_cases hh:2000<s.size
   ·unfold Zj at hc0;rw [if_pos hh] at hc0;cases hc0
   ·omega
  have hg:((zA s).b || decide ((zA s).k<s.size))=false/\(Y5 (zA s).es (zA s).rs).1=0:=by
   unfold Zj at hc0
   rw [if_neg (by omega)] at hc0
   split at hc0
   ·cases hc0
   ·next hh =>
    refine ⟨by simpa using hh,?_⟩
    split at hc0
    ·next h=>exact h
    ·next h=>exact absurd hc0 h
  have hCb:(zA s).b=false:=by cases hq:(zA s).b with
   | false=>rfl
   | true=>rw [hq] at hg;cases hg.1
  have hmo:=Zb s (s.size+1) [] 0 0 false (Nat.zero_le _)
  have hCk:(zA s).k=s.size:=by
   have h1:=hg.1
   rw [hCb,Bool.false_or] at h1
   have h2:¬ (zA s).k<s.size:=of_decide_eq_false h1
   have h3:(zA s).k<=s.size:=hmo.2
   omega
  have h16:=zcD hg.2
  have hnb:Byt ((zA s).rs.map RL.nv):=fun x hx=>by
   simp only [List.mem_map] at hx
   obtain ⟨r,hr,rfl⟩:=hx
   rcases zdq s (s.size+1) [] 0 0 false r hr with h | h
   ·simp at h
   ·exact h
  have hnm:∀ i r,(zA s).rs[i]?=some r->T.ch (strOfNums ((zA s).rs.map RL.nv)) i=r.nv:=fun i r hr=>by
   rw [ZG hnb,List.getElem?_map,hr];rfl
  obtain ⟨Y,y1,y2,y3,y4,y5⟩:=jk (s:=s) h16 hnm (s.size+1) [] 0 0 (Nat.zero_le _) (by omega) hCb (fun i e he=>by rw [Nat.zero_add];exact he) rfl (by simp)
  have hcA:zw s (s.size+1) [] 0 0 false=zA s:=rfl
  rw [hcA] at y3 y5
  rw [hCk] at y3
  simp only [List.length_nil,Nat.add_zero,Nat.zero_add] at y1 y4 y5
  have hbare:bare s=strOfNums (joi 59 (Y.map ruT)):=by unfold bare;rw [jO,y3]
  have hYb:∀ x∈Y.map ruT,Byt x:=fun x hx=>by
   simp only [List.mem_map] at hx
   obtain ⟨y,hy,rfl⟩:=hx
   obtain ⟨i,hi⟩:=List.getElem?_of_mem hy
   have h1:=y4 i y hi
   exact Byt.app (a:=[y.1,58]) (fun z hz=>by simp at hz;rcases hz with rfl | rfl<;>omega) h1.2.2.byt
  have hspl:spl (bare s) 59=(Y.map ruT).map strOfNums:=by
   rw [hbare,Z1 (Jc hYb),zc7 (nm:=strOfNums ((zA s).rs.map RL.nv)) (K:=fun i=>knK (nsR (zA s).es (zA s).rs) i) (n:=fun i=>nsR (zA s).es (zA s).rs i) Y 0 y2 (fun i y hy=>⟨(y4 i y hy).1,by rw [Nat.zero_add];exact (y4 i y hy).2.2⟩)]
  have h2:∀ t∈spl (bare s) 59,2<=t.size:=fun t ht=>by
   rw [hspl] at ht
   simp only [List.mem_map] at ht
   obtain ⟨x,⟨y,_,rfl⟩,rfl⟩:=ht
   rw [strOfNums_size];simp [ruT]
  have hT:Zz (spl (bare s) 59)=Y.map (fun y=>strOfNums y.2):=by
   rw [hspl]
   unfold Zz
   rw [List.map_map,List.map_map]
   apply List.map_congr_left
   intro y _
   exact j2 [y.1,58] y.2
  have hfst:Y.map Prod.fst=(zA s).rs.map RL.nv:=by
   apply List.ext_getElem?
   intro i
   rw [List.getElem?_map,List.getElem?_map]
   cases hy:Y[i]? with
   | none =>
    have:Y.length<=i:=by simpa using hy
    rw [List.getElem?_eq_none (by omega)];rfl
   | some y =>
    obtain ⟨r,hr,hv⟩:=(y4 i y hy).2.1
    rw [hr]
    simp [hv]
  have hNj:∀ j,j<=Y.length->Yu (spl (bare s) 59) j=strOfNums ((Y.take j).map Prod.fst):=by
   intro j
   induction j with
   | zero=>intro _;rfl
   | succ j ih =>
    intro hj
    have hy:Y[j]?=some Y[j]:=List.getElem?_eq_getElem (by omega)
    have hl:(spl (bare s) 59)[j]?=some (strOfNums (ruT Y[j])):=by rw [hspl,List.getElem?_map,List.getElem?_map,hy];rfl
    simp only [Yu,hl]
    rw [ih (by omega),Xm,zcf,show (Y.take (j+1))=Y.take j++[Y[j]] from by rw [List.take_add_one,hy];rfl,List.map_append]
    rfl
  have hN:Yu (spl (bare s) 59) (spl (bare s) 59).length=strOfNums ((zA s).rs.map RL.nv):=by
   have hl:(spl (bare s) 59).length=Y.length:=by rw [hspl];simp
   rw [hl,hNj Y.length (Nat.le_refl _),List.take_length,hfst]
  have hR:=zbY s w (nsR (zA s).es (zA s).rs) hs h0 h2 (fun j t ht=>by
   rw [hN]
   rw [hT,List.getElem?_map] at ht
   cases hy:Y[j]? with
   | none=>rw [hy] at ht;simp at ht
   | some y =>
    rw [hy] at ht
    simp at ht
    subst ht
    exact (y4 j y hy).2.2.sz)
  have hl:(spl (bare s) 59).length=(zA s).rs.length:=by rw [hspl];simp;exact y1
  rw [hl,y5] at hR
  have hE:cSz s=(szR (zA s).es (zA s).es.length,0):=by unfold cSz;rw [if_pos hc0]
  rw [hE]
  exact hR
 ·have hc0:(Zj s).1≠0:=by rw [<- jJ];exact h0
  have hE:cSz s=(0,(chk s).1):=by unfold cSz;rw [if_neg hc0,jJ]
  rw [hE]
  exact zbZ s w h0
end Go.Proofs.YtaebngpoagjafabGreat
