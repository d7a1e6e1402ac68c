import Derived.Test.YtaebngpoagjafabGreatV19
set_option maxRecDepth 100000
namespace Go.Proofs.YtaebngpoagjafabGreat
open Go.RowKit
theorem Par.app {s:ByteArray} {k a b:Nat} {l1 l2:List FR} {ok:Bool} {sg1 sg2:List SG} (h1:Par s k l1 true a sg1) (h2:Par s a l2 ok b sg2):Par s k (l1++l2) ok b (sg2++sg1):=by
 obtain ⟨N1,n1,h1⟩:=h1
 obtain ⟨N2,n2,h2⟩:=h2
 have e1:=YH (fun k f q h=>YI s (M:=N1+N2) (by omega) h) _ _ _ h1
 have e2:=YH (fun k f q h=>YI s (M:=N1+N2) (by omega) h) _ _ _ h2
 clear h1 h2
 have key:∀ (l:List FR) (k n1:Nat) (sg1:List SG),pL (pF s (N1+N2)) k l=some ⟨true,a,sg1,n1⟩->∃ n,pL (pF s (N1+N2)) k (l++l2)=some ⟨ok,b,sg2++sg1,n⟩:=by
  intro l
  induction l with
  | nil =>
   intro k n1 sg1 h
   simp only [pL] at h
   simp at h
   obtain ⟨rfl,rfl,_⟩:=h
   exact ⟨n2,by simpa using e2⟩
  | cons f r ih =>
   intro k n1 sg1 h
   simp only [pL,List.cons_append] at h ⊢
   cases ha:pF s (N1+N2) k f with
   | none=>rw [ha] at h;simp at h
   | some q =>
    rw [ha] at h
    simp only at h ⊢
    split at h
    ·next hok =>
     rw [if_pos hok]
     cases hb:pL (pF s (N1+N2)) q.at_ r with
     | none=>rw [hb] at h;simp at h
     | some q2 =>
      rw [hb] at h
      simp at h
      obtain ⟨h1,h2,h3,h4⟩:=h
      obtain ⟨ok2,a2,sg3,n3⟩:=q2
      simp only at h1 h2 h3 h4
      subst h1 h2
      obtain ⟨n,hn⟩:=ih q.at_ n3 sg3 hb
      rw [hn]
      exact ⟨q.n+n,by simp [<- h3]⟩
    ·next hok=>simp at h;subst h;exact absurd rfl hok
 obtain ⟨n,hn⟩:=key l1 k n1 sg1 e1
 exact ⟨N1+N2,n,hn⟩
theorem zN.app {s:ByteArray} {k a:Nat} {l1:List FR} (h1:zN s k l1 a) (l2:List FR):zN s k (l1++l2) a:=by
 obtain ⟨sg,N1,n1,h1⟩:=h1
 have key:∀ (l:List FR) (k n1:Nat) (sg1:List SG),pL (pF s N1) k l=some ⟨false,a,sg1,n1⟩->∃ n sg2,pL (pF s N1) k (l++l2)=some ⟨false,a,sg2,n⟩:=by
  intro l
  induction l with
  | nil=>intro k n1 sg1 h;simp [pL] at h
  | cons f r ih =>
   intro k n1 sg1 h
   simp only [pL,List.cons_append] at h ⊢
   cases ha:pF s N1 k f with
   | none=>rw [ha] at h;simp at h
   | some q =>
    rw [ha] at h
    simp only at h ⊢
    split at h
    ·next hok =>
     rw [if_pos hok]
     cases hb:pL (pF s N1) q.at_ r with
     | none=>rw [hb] at h;simp at h
     | some q2 =>
      rw [hb] at h
      simp at h
      obtain ⟨h1,h2,h3,h4⟩:=h
      obtain ⟨ok2,a2,sg3,n3⟩:=q2
      simp only at h1 h2
      subst h1 h2
      obtain ⟨n,sg2,hn⟩:=ih q.at_ n3 sg3 hb
      rw [hn]
      exact ⟨_,_,rfl⟩
    ·next hok=>rw [if_neg hok];exact ⟨_,_,h⟩
 obtain ⟨n,sg2,hn⟩:=key l1 k n1 sg h1
 exact ⟨sg2,N1,n,hn⟩
theorem zN.app2 {s:ByteArray} {k a b:Nat} {l1 l2:List FR} {sg1:List SG} (h1:Par s k l1 true a sg1) (h2:zN s a l2 b):zN s k (l1++l2) b:=by
 obtain ⟨sg,h⟩:=h2
 exact ⟨_,h1.app h⟩
def Run (s:ByteArray) (k0:Nat) (l:List FR) (k:Nat) (b:Bool) (G:List SG->Prop):Prop:=(∃ U,Par s k0 l true k U.reverse/\b=false/\G U)\/(zN s k0 l k/\X8 s k b)
def xf (s:ByteArray) (k0:Nat) (l:List FR) (k:Nat) (b:Bool) (G:List SG->Prop):Prop:=(∃ U,Par s k0 l true k U.reverse/\b=false/\G U)\/(zN s k0 l k/\b=true)
theorem xf.run {s:ByteArray} {k0 k:Nat} {l:List FR} {b:Bool} {G:List SG->Prop} (h:xf s k0 l k b G):Run s k0 l k b G:=h.imp (fun h=>h) (fun h=>⟨h.1,.inl h.2⟩)
theorem xf.nil (s:ByteArray) (k:Nat):xf s k [] k false (fun U=>U=[]):=.inl ⟨[],Par.nil _ _,rfl,rfl⟩
theorem Run.mono {s:ByteArray} {k0 k:Nat} {l:List FR} {b:Bool} {G G':List SG->Prop} (h:Run s k0 l k b G) (hG:b=false->∀ U,G U->G' U):Run s k0 l k b G':=by
 rcases h with ⟨U,h1,h2,h3⟩ | h
 ·exact .inl ⟨U,h1,h2,hG h2 U h3⟩
 ·exact .inr h
theorem Run.want {s:ByteArray} {k0 k:Nat} {l:List FR} {b:Bool} {G:List SG->Prop} (h:Run s k0 l k b G) (c:Int) (hc:0<c) (hc2:c<256) (hc3:c<48\/57<c):xf s k0 (l++[byF c]) (zc s c k b) (zj s c k b) (fun U=>G U/\b=false):=by
 rcases h with ⟨U,h1,rfl,h3⟩ | ⟨h1,h2⟩
 ·cases ht:zU s c k false with
  | true =>
   have:=xj hc hc2 ht
   exact .inl ⟨U,by have:=h1.app this.1;simpa using this,this.2,h3,rfl⟩
  | false =>
   have:=zb9 hc hc2 ht
   exact .inr ⟨zN.app2 h1 this.1,this.2⟩
 ·have:=yd h2 (c:=c) (by omega) hc3
  exact .inr ⟨by rw [this.2.1];exact h1.app _,this.2.2⟩
theorem xf.num {s:ByteArray} {k0 k:Nat} {l:List FR} {b:Bool} {G:List SG->Prop} (h:xf s k0 l k b G) (hk:k<=s.size) (kd d li:Int) :
 Run s k0 (l++[⟨261,kd,d,li⟩]) (zm s k b) (zu s k b) (fun U=>∃ V,U=V++[⟨kd,T.sk s k,d,li,s.extract (T.sk s k) (zm s k b)⟩]/\G V/\b=false/\T.sk s k<zm s k b/\Xl (s.extract (T.sk s k) (zm s k b)) (zI s k b)):=by
 rcases h with ⟨U,h1,rfl,h3⟩ | ⟨h1,rfl⟩
 ·rcases zcw hk kd d li with ⟨a1,a2,a3⟩ | ⟨a1,a2⟩
  ·exact .inl ⟨U++[⟨kd,T.sk s k,d,li,s.extract (T.sk s k) (zm s k false)⟩],by have:=h1.app a1;rw [List.reverse_append];exact this,a2,U,rfl,h3,rfl,a3,zbb hk a3⟩
  ·exact .inr ⟨zN.app2 h1 a1,a2⟩
 ·have:=Jm s k
  exact .inr ⟨by rw [this.1];exact h1.app _,.inl this.2⟩
theorem Q1 (s:ByteArray) (k:Nat):btK s k true=k/\btX s k true=true:=by
 refine ⟨?_,Qf rfl⟩
 unfold btK
 have:zb s k true=k:=rfl
 rw [this]
 simp [btF,Z7,bit]
theorem xf.bits {s:ByteArray} {k0 k:Nat} {l:List FR} {b:Bool} {G:List SG->Prop} (h:xf s k0 l k b G) (hk:k<=s.size) (kd d li:Int) :
 Run s k0 (l++[⟨262,kd,d,li⟩]) (btK s k b) (btX s k b) (fun U=>∃ V,U=V++[⟨kd,T.sk s k,d,li,s.extract (T.sk s k) (btK s k b)⟩]/\G V/\b=false/\T.sk s k<btK s k b/\zb6 (s.extract (T.sk s k) (btK s k b)) (btV s k b) (btL s k b)):=by
 rcases h with ⟨U,h1,rfl,h3⟩ | ⟨h1,rfl⟩
 ·rcases zcX hk kd d li with ⟨a1,a2,a3⟩ | ⟨a1,a2⟩
  ·exact .inl ⟨U++[⟨kd,T.sk s k,d,li,s.extract (T.sk s k) (btK s k false)⟩],by have:=h1.app a1;rw [List.reverse_append];exact this,a2,U,rfl,h3,rfl,a3,zbN hk a3⟩
  ·exact .inr ⟨zN.app2 h1 a1,a2⟩
 ·have:=Q1 s k
  exact .inr ⟨by rw [this.1];exact h1.app _,.inl this.2⟩
theorem Run.letter {s:ByteArray} {k0 k:Nat} {l:List FR} {b:Bool} {G:List SG->Prop} (h:Run s k0 l k b G) (kd d li:Int) :
 xf s k0 (l++[⟨263,kd,d,li⟩]) (zO s k b) (zT s k b) (fun U=>∃ V,U=V++[⟨kd,T.sk s k,d,li,s.extract (T.sk s k) (T.sk s k+1)⟩]/\G V/\b=false/\zO s k b=T.sk s k+1/\Q7 (s.extract (T.sk s k) (T.sk s k+1)) (ze s (zb s k b) b)):=by
 rcases h with ⟨U,h1,rfl,h3⟩ | ⟨h1,h2⟩
 ·rcases zcB s k kd d li with ⟨a1,a2,a3,a4⟩ | ⟨a1,a2⟩
  ·exact .inl ⟨U++[⟨kd,T.sk s k,d,li,s.extract (T.sk s k) (T.sk s k+1)⟩],by have:=h1.app a1;rw [List.reverse_append];exact this,a2,U,rfl,h3,rfl,a3,a4⟩
  ·exact .inr ⟨zN.app2 h1 a1,a2⟩
 ·have:=QS h2
  exact .inr ⟨by rw [this.1];exact h1.app _,this.2⟩
theorem Run.expr {s:ByteArray} {rs:List RL} {ex:Int->Nat->Nat->Bool->CR} {n k0 k:Nat} {l:List FR} {b:Bool} {G:List SG->Prop} (h:Run s k0 l k b G) (hX:ExP s rs ex n) (hD:ExD s ex) (hk:k<=s.size) (d:Int) (hd:0<=d) (m:Nat) (hn:s.size-k<n) :
 Run s k0 (l++[⟨258,0,d,0⟩]) (ex d m k b).k (ex d m k b).b (fun U=>∃ V W,U=V++W/\G V/\b=false/\0<=(ex d m k b).idx/\GU rs k (ex d m k b).k W (ex d m k b).es):=by
 rcases h with ⟨U,h1,rfl,h3⟩ | ⟨h1,h2⟩
 ·rcases hX d m k hd hk hn with ⟨W,a1,a2,a3,a4⟩ | ⟨a1,a2⟩
  ·exact .inl ⟨U++W,by have:=h1.app a1;rw [List.reverse_append];exact this,a2,U,W,rfl,h3,rfl,a3,a4⟩
  ·exact .inr ⟨zN.app2 h1 a1,a2⟩
 ·have e:=hD d m k b h2
  rw [e]
  exact .inr ⟨h1.app _,.inl rfl⟩
theorem zc5 {rs:List RL} {P:List SG} {pl d v:Int} {t:ByteArray} (h:Xl t v) (err:Int):Er rs P ⟨5,pl,d,-1,t⟩ err↔(v<1\/1000<v)/\err=6:=by
 rw [YB rfl]
 have:=h.nn
 simp [h.vl,zP]
 constructor
 ·rintro ⟨h1,h2⟩;exact ⟨by omega,h1⟩
 ·rintro ⟨h1,h2⟩;exact ⟨h2,by omega⟩
theorem G1.mk1 {rs:List RL} {c p:Int} {k k':Nat} {g0:SG} {x:IM} (hc:yg c) (h119:c≠119) (hp:p≠-1) (hx:0<=x.num) (gx:GX c p g0 x) (w0:(k:Int)<=g0.place/\g0.place<k'):G1 rs c p k k' g0 [] [] x :=
 ⟨gx,w0,by simp,by simp,fun P pre _ hC err a=>by
  simp only [FU,or_false]
  rw [Ql hp gx hC,Qk hc pre x hx,gx.pl]
  constructor
  ·intro h;exact .inr (.inl h)
  ·rintro (h | h | h)
   ·exact absurd h (zb3 _ _)
   ·exact h
   ·exact absurd h.1 h119⟩
theorem G1.mkArm {rs:List RL} {c p:Int} {k kw k':Nat} {g0:SG} {x:IM} {U:List SG} {es:List EX} (hc:yg c) (h119:c≠119) (hp:p≠-1) (hpk:p<k) (hx:0<=x.num) (gx:GX c p g0 x) (w0:(k:Int)<=g0.place/\g0.place<kw) (hkk:kw<=k') (hkw:k<=kw) (hU:GU rs kw k' U es):G1 rs c p k k' g0 U es x :=
 ⟨gx,⟨w0.1,by omega⟩,fun g hg=>by
  have:=hU.wl g hg
  exact ⟨by omega,this.2.1,this.2.2.1.imp (fun h=>h) (fun h=>⟨by omega,h.2⟩),this.2.2.2⟩,hU.st,fun P pre hP hC err a=>by
  simp only [FU]
  rw [Ql hp gx hC,Qk hc pre x hx,gx.pl,hU.fu (P++[g0]) (fun y hy=>by
   rcases List.mem_append.1 hy with hy | hy
   ·have:=hP y hy;omega
   ·simp at hy;subst hy;rw [gx.li];omega) err a]
  constructor
  ·rintro (h | h)
   ·exact .inr (.inl h)
   ·exact .inl h
  ·rintro (h | h | h)
   ·exact .inr h
   ·exact .inl h
   ·exact absurd h.1 h119⟩
theorem zbj {s:ByteArray} {rs:List RL} {ex:Int->Nat->Nat->Bool->CR} {n:Nat} (hX:ExP s rs ex n) (hD:ExD s ex) (hM:Zs ex s) {c:Int} (hc:yg c) (d:Int) (m k p:Nat) (h0:0<=d) (hk:k<=s.size) (hn:s.size-k<n) (hp:p<k) :
 Run s k [⟨259,kf c,d,p⟩] (zt ex s c d m k false).k (zt ex s c d m k false).b (fun V=>∃ g0 rest,V=g0::rest/\G1 rs c p k (zt ex s c d m k false).k g0 rest (zt ex s c d m k false).es (zt ex s c d m k false).im):=by
 have hp0:=T.sk_le hk
 have hge:=T.sk_ge s k
 have hss:=Yq s k
 have lift:∀ (kk:Nat) (bb:Bool) (G:List SG->Prop),Run s (T.sk s k) (Zh ⟨259,kf c,d,p⟩) kk bb G->Run s k [⟨259,kf c,d,p⟩] kk bb G:=fun kk bb G h=>by
  rcases h with ⟨U,h1,h2,h3⟩ | ⟨h1,h2⟩
  ·exact .inl ⟨U,zbi h1,h2,h3⟩
  ·exact .inr ⟨zcE h1,h2⟩
 refine lift _ _ _ ?_
 have hpm:(p:Int)≠-1:=by omega
 have hR0:=xf.nil s (T.sk s k)
 rcases hc with rfl | rfl | rfl | rfl | rfl
 ·have e:zt ex s 123 d m k false=⟨⟨T.sk s k,zI s (T.sk s k) false,0,0,0,0,-1⟩,[],zm s (T.sk s k) false,zu s (T.sk s k) false⟩:=by unfold zt;rw [zk];rfl
  rw [e]
  refine (hR0.num hp0 4 0 p).mono fun _ U hU=>?_
  obtain ⟨V,rfl,rfl,_,h2,h3⟩:=hU
  rw [hss] at h2 h3
  exact ⟨_,[],rfl,G1.mk1 (.inl rfl) (by decide) hpm h3.nn ⟨rfl,rfl,by simp only [hss],.inr ⟨by decide,by rw [hss];exact h3,rfl,rfl⟩⟩ (by simp only [hss];omega)⟩
 ·have e:zt ex s 102 d m k false=⟨⟨T.sk s k,zI s (T.sk s k) false,0,0,0,0,-1⟩,[],zm s (T.sk s k) false,zu s (T.sk s k) false⟩:=by unfold zt;rw [zk];rfl
  rw [e]
  refine (hR0.num hp0 4 0 p).mono fun _ U hU=>?_
  obtain ⟨V,rfl,rfl,_,h2,h3⟩:=hU
  rw [hss] at h2 h3
  exact ⟨_,[],rfl,G1.mk1 (.inr (.inl rfl)) (by decide) hpm h3.nn ⟨rfl,rfl,by simp only [hss],.inr ⟨by decide,by rw [hss];exact h3,rfl,rfl⟩⟩ (by simp only [hss];omega)⟩
 ·have e:zt ex s 119 d m k false=⟨⟨T.sk s k,zI s (T.sk s k) false,0,0,zI s (zc s 42 (zm s (T.sk s k) false) (zu s (T.sk s k) false)) (zj s 42 (zm s (T.sk s k) false) (zu s (T.sk s k) false)),zb s (zc s 42 (zm s (T.sk s k) false) (zu s (T.sk s k) false)) (zj s 42 (zm s (T.sk s k) false) (zu s (T.sk s k) false)),-1⟩,[],zm s (zc s 42 (zm s (T.sk s k) false) (zu s (T.sk s k) false)) (zj s 42 (zm s (T.sk s k) false) (zu s (T.sk s k) false)),zu s (zc s 42 (zm s (T.sk s k) false) (zu s (T.sk s k) false)) (zj s 42 (zm s (T.sk s k) false) (zu s (T.sk s k) false))⟩:=by unfold zt;rw [zk];rfl
  rw [e]
  have hk1:=zZ (b:=false) hp0
  have hk2:zc s 42 (zm s (T.sk s k) false) (zu s (T.sk s k) false)<=s.size:=zq (by decide) hk1
  have hg2:=zi s 42 (zm s (T.sk s k) false) (zu s (T.sk s k) false)
  have hR:=(((hR0.num hp0 4 0 p).want 42 (by decide) (by decide) (by decide)).num hk2 5 0 (-1))
  generalize zc s 42 (zm s (T.sk s k) false) (zu s (T.sk s k) false)=k2 at *
  generalize zj s 42 (zm s (T.sk s k) false) (zu s (T.sk s k) false)=b2 at *
  refine hR.mono fun _ U hU=>?_
  obtain ⟨V,rfl,⟨⟨V2,rfl,rfl,_,h2,h3⟩,_⟩,rfl,h4,h5⟩:=hU
  rw [hss] at h2 h3
  have hsg:=T.sk_ge s k2
  have gx:GX 119 (p:Int) ⟨4,T.sk s (T.sk s k),0,p,s.extract (T.sk s (T.sk s k)) (zm s (T.sk s k) false)⟩ ⟨T.sk s k,zI s (T.sk s k) false,0,0,zI s k2 false,zb s k2 false,-1⟩:=⟨rfl,rfl,by simp only [hss],.inr ⟨by decide,by rw [hss];exact h3,rfl,rfl⟩⟩
  refine ⟨_,[_],rfl,gx,by simp only [hss];omega,fun g hg=>?_,by simp,fun P pre hP hC err a=>?_⟩
  ·simp at hg
   subst hg
   simp only [hss]
   exact ⟨by omega,by omega,.inl trivial,KD.of (by simp) (by simp)⟩
  ·simp only [FU,or_false]
   rw [Ql hpm gx hC,Qk (.inr (.inr (.inl rfl))) pre _ h3.nn,zc5 h5]
   simp only [hss,zk]
   constructor
   ·rintro (h | ⟨h1,h2,h3⟩)
    ·exact .inr (.inl h)
    ·exact .inr (.inr ⟨trivial,h2,h3,h1⟩)
   ·rintro (h | h | ⟨_,h1,h2,h3⟩)
    ·exact absurd h (zb3 _ _)
    ·exact .inl h
    ·exact .inr ⟨h3,h1,h2⟩
 ·have e:zt ex s 103 d m k false=⟨⟨T.sk s k,zI s (T.sk s k) false,0,0,0,0,(ex (d+1) m (zc s 58 (zm s (T.sk s k) false) (zu s (T.sk s k) false)) (zj s 58 (zm s (T.sk s k) false) (zu s (T.sk s k) false))).idx⟩,(ex (d+1) m (zc s 58 (zm s (T.sk s k) false) (zu s (T.sk s k) false)) (zj s 58 (zm s (T.sk s k) false) (zu s (T.sk s k) false))).es,(ex (d+1) m (zc s 58 (zm s (T.sk s k) false) (zu s (T.sk s k) false)) (zj s 58 (zm s (T.sk s k) false) (zu s (T.sk s k) false))).k,(ex (d+1) m (zc s 58 (zm s (T.sk s k) false) (zu s (T.sk s k) false)) (zj s 58 (zm s (T.sk s k) false) (zu s (T.sk s k) false))).b⟩:=by unfold zt;rw [zk];rfl
  rw [e]
  have hk1:=zZ (b:=false) hp0
  have hk2:zc s 58 (zm s (T.sk s k) false) (zu s (T.sk s k) false)<=s.size:=zq (by decide) hk1
  have hg2:=zi s 58 (zm s (T.sk s k) false) (zu s (T.sk s k) false)
  have hg1:=zV (b:=false) hp0
  have hR:=(((hR0.num hp0 7 0 p).want 58 (by decide) (by decide) (by decide)).run).expr hX hD hk2 (d+1) (by omega) m (by omega)
  have hmo:=hM (d+1) m (zc s 58 (zm s (T.sk s k) false) (zu s (T.sk s k) false)) (zj s 58 (zm s (T.sk s k) false) (zu s (T.sk s k) false)) hk2
  generalize zc s 58 (zm s (T.sk s k) false) (zu s (T.sk s k) false)=k2 at *
  generalize zj s 58 (zm s (T.sk s k) false) (zu s (T.sk s k) false)=b2 at *
  refine hR.mono fun _ U hU=>?_
  obtain ⟨V,W,rfl,⟨⟨V2,rfl,rfl,_,h2,h3⟩,_⟩,rfl,h4,h5⟩:=hU
  rw [hss] at h2 h3
  exact ⟨_,W,rfl,G1.mkArm (.inr (.inr (.inr (.inl rfl)))) (by decide) hpm (by omega) h3.nn ⟨rfl,rfl,by simp only [hss],.inr ⟨by decide,by rw [hss];exact h3,rfl,rfl⟩⟩ (by simp only [hss];omega) hmo.1 (by omega) h5⟩
 ·have e:zt ex s 109 d m k false=⟨⟨T.sk s k,0,btV s (T.sk s k) false,btL s (T.sk s k) false,0,0,(ex (d+1) m (zc s 58 (btK s (T.sk s k) false) (btX s (T.sk s k) false)) (zj s 58 (btK s (T.sk s k) false) (btX s (T.sk s k) false))).idx⟩,(ex (d+1) m (zc s 58 (btK s (T.sk s k) false) (btX s (T.sk s k) false)) (zj s 58 (btK s (T.sk s k) false) (btX s (T.sk s k) false))).es,(ex (d+1) m (zc s 58 (btK s (T.sk s k) false) (btX s (T.sk s k) false)) (zj s 58 (btK s (T.sk s k) false) (btX s (T.sk s k) false))).k,(ex (d+1) m (zc s 58 (btK s (T.sk s k) false) (btX s (T.sk s k) false)) (zj s 58 (btK s (T.sk s k) false) (btX s (T.sk s k) false))).b⟩:=by unfold zt;rw [zk];rfl
  rw [e]
  have hk1:=Y7 (b:=false) hp0
  have hk2:zc s 58 (btK s (T.sk s k) false) (btX s (T.sk s k) false)<=s.size:=zq (by decide) hk1
  have hg2:=zi s 58 (btK s (T.sk s k) false) (btX s (T.sk s k) false)
  have hg1:=Y8 (b:=false) hp0
  have hR:=(((hR0.bits hp0 9 0 p).want 58 (by decide) (by decide) (by decide)).run).expr hX hD hk2 (d+1) (by omega) m (by omega)
  have hmo:=hM (d+1) m (zc s 58 (btK s (T.sk s k) false) (btX s (T.sk s k) false)) (zj s 58 (btK s (T.sk s k) false) (btX s (T.sk s k) false)) hk2
  generalize zc s 58 (btK s (T.sk s k) false) (btX s (T.sk s k) false)=k2 at *
  generalize zj s 58 (btK s (T.sk s k) false) (btX s (T.sk s k) false)=b2 at *
  refine hR.mono fun _ U hU=>?_
  obtain ⟨V,W,rfl,⟨⟨V2,rfl,rfl,_,h2,h3⟩,_⟩,rfl,h4,h5⟩:=hU
  rw [hss] at h2 h3
  exact ⟨_,W,rfl,G1.mkArm (.inr (.inr (.inr (.inr rfl)))) (by decide) hpm (by omega) (Int.le_refl _) ⟨rfl,rfl,by simp only [hss],.inl ⟨rfl,rfl,by rw [hss];exact h3⟩⟩ (by simp only [hss];omega) hmo.1 (by omega) h5⟩
theorem qj (s:ByteArray) (k:Nat) (kd d p:Int):zl s k ⟨260,kd,d,p⟩=⟨true,T.sk s k,if T.ch s (T.sk s k)=44 then [byF 44,⟨259,kd,d,p⟩,⟨260,kd,d,p⟩] else [],[]⟩:=by
 unfold zl
 simp only
 rw [if_neg (by decide),if_neg (by decide),if_neg (by decide),if_neg (by decide),if_pos trivial]
theorem jd {s:ByteArray} {k:Nat}:zU s 44 k false=true↔T.ch s (T.sk s k)=44:=by
 unfold zU
 rw [zk,yM,beq_iff_eq]
 by_cases h:T.sk s k<s.size
 ·rw [if_pos h]
 ·rw [if_neg h,T.ch_ge h];omega
theorem G1.gi {rs:List RL} {c p:Int} {k k1 k':Nat} {g0:SG} {rest:List SG} {es:List EX} {x:IM} (h:G1 rs c p k k1 g0 rest es x) (hkk:k1<=k'):GI rs c p k k' (g0::rest) es [x] :=
 ⟨fun g hg=>by
  rcases List.mem_cons.1 hg with rfl | hg
  ·exact ⟨h.w0.1,by have:=h.w0.2;omega,.inr (.inl h.gx.li),KD.of (by rw [h.gx.ki];exact (zbe c).1) (by rw [h.gx.ki];exact (zbe c).2.1)⟩
  ·have h1:=h.wl g hg
   have h2:=h.w0.1
   exact ⟨by omega,by omega,h1.2.2.1.imp (fun h=>h) (fun h=>.inr ⟨h.1,by omega⟩),h1.2.2.2⟩,
  List.pairwise_cons.2 ⟨fun g hg=>(h.wl g hg).1,h.st⟩,
  fun P pre hP hC err a=>by rw [h.fu P pre hP hC err a];simp [FIs]⟩
theorem GI.cons {rs:List RL} {c:Int} {p:Nat} {k k1 k2 k':Nat} {g0:SG} {rest U:List SG} {es fs:List EX} {x:IM} {xs:List IM} (h:G1 rs c p k k1 g0 rest es x) (hpk:p<k) (h12:k1<=k2) (hk2:k<=k2) (h23:k2<=k') (h2:GI rs c p k2 k' U fs xs):GI rs c p k k' ((g0::rest)++U) (es++fs) (x::xs):=by
 have hg1:=h.gi (Nat.le_refl k1)
 refine ⟨fun g hg=>?_,?_,fun P pre hP hC err a=>?_⟩
 ·rcases List.mem_append.1 hg with hg | hg
  ·have h1:=hg1.wl g hg
   exact ⟨h1.1,by omega,h1.2.2.1.imp (fun h=>h) (fun h=>h.imp (fun h=>h) (fun h=>⟨h.1,by omega⟩)),h1.2.2.2⟩
  ·have h1:=h2.wl g hg
   exact ⟨by omega,h1.2.1,h1.2.2.1.imp (fun h=>h) (fun h=>h.imp (fun h=>h) (fun h=>⟨by omega,h.2⟩)),h1.2.2.2⟩
 ·refine List.pairwise_append.2 ⟨hg1.st,h2.st,fun a ha b hb=>?_⟩
  have h3:=(hg1.wl a ha).2.1
  have h4:=(h2.wl b hb).1
  omega
 ·rw [zb1,h.fu P pre hP hC err a,h2.fu (P++(g0::rest)) (pre++[x]) (fun y hy=>?_) (hC.step h.gx (fun y hy=>?_)) err a,xg]
  ·simp only [FIs]
   constructor
   ·rintro ((h | h) | (h | h))
    ·exact .inl (.inl h)
    ·exact .inr (.inl h)
    ·exact .inl (.inr h)
    ·exact .inr (.inr h)
   ·rintro ((h | h) | (h | h))
    ·exact .inl (.inl h)
    ·exact .inr (.inl h)
    ·exact .inl (.inr h)
    ·exact .inr (.inr h)
  ·rcases List.mem_append.1 hy with hy | hy
   ·have:=hP y hy;omega
   ·rcases (hg1.wl y hy).2.2.1 with h | h | h<;>omega
  ·rcases (h.wl y hy).2.2.1 with h | h<;>omega
theorem JU {s:ByteArray} {rs:List RL} {ex:Int->Nat->Nat->Bool->CR} {n:Nat} (hX:ExP s rs ex n) (hD:ExD s ex) (hM:Zs ex s) {c:Int} (hc:yg c) (d:Int) (p:Nat) (h0:0<=d):∀ (N m k:Nat),k<=s.size->s.size+1<=N+k->s.size-k<n->p<k ->
 Run s k [⟨259,kf c,d,p⟩,⟨260,kf c,d,p⟩] (zd ex s c d N m k false).k (zd ex s c d N m k false).b (fun U=>GI rs c p k (zd ex s c d N m k false).k U (zd ex s c d N m k false).es (zd ex s c d N m k false).ims):=by
 intro N
 induction N with
 | zero=>intro m k h1 h2;omega
 | succ N ih =>
  intro m k hk hN hn hp
  have h1:=zbj hX hD hM hc d m k p h0 hk hn hp
  have hmo:=yT hM c d m k false hk
  simp only [zd]
  generalize zt ex s c d m k false=it at *
  rcases h1 with ⟨V,a1,a2,g0,rest,rfl,a3⟩ | ⟨a1,a2⟩
  ·rw [a2]
   have htg:=zi s 44 it.k false
   have htl:zc s 44 it.k false<=s.size:=zq (by decide) hmo.2.1
   cases ht:zU s 44 it.k false with
   | false =>
    have hne:¬ T.ch s (T.sk s it.k)=44:=fun h=>by rw [jd.2 h] at ht;cases ht
    have e:zc s 44 it.k false=T.sk s it.k:=by unfold zc;rw [if_neg (by rw [ht];decide),zk]
    have hst:=qj s it.k (kf c) d p
    rw [if_neg hne] at hst
    have h2:Par s it.k [⟨260,kf c,d,p⟩] true (zc s 44 it.k false) []:=by
     have:=Par.step (s:=s) (k:=it.k) (f:=⟨260,kf c,d,p⟩) (ok:=true) (b:=T.sk s it.k) (sg2:=[]) (by rw [hst]) (by rw [hst];exact Par.nil _ _)
     rw [hst] at this
     rw [e];exact this
    exact .inl ⟨g0::rest,by have:=a1.app h2;simpa using this,rfl,a3.gi htg⟩
   | true =>
    have h44:=jd.1 ht
    have hst:=qj s it.k (kf c) d p
    rw [if_pos h44] at hst
    have htk:it.k+1<=zc s 44 it.k false:=by
     unfold zc;rw [if_pos ht];have:=z7 s it.k false;omega
    have ht2:zU s 44 (T.sk s it.k) false=true:=jd.2 (by rw [Yq];exact h44)
    have e2:zc s 44 (T.sk s it.k) false=zc s 44 it.k false:=by unfold zc;rw [if_pos ht,if_pos ht2,zk,zk,Yq]
    have hw:=(xj (s:=s) (k:=T.sk s it.k) (c:=44) (by decide) (by decide) ht2).1
    rw [e2] at hw
    have hR:=ih (m+it.es.length) (zc s 44 it.k false) htl (by omega) (by omega) (by omega)
    have hq:=zL hM c d N (m+it.es.length) (zc s 44 it.k false) false htl
    generalize zd ex s c d N (m+it.es.length) (zc s 44 it.k false) false=q at *
    generalize zc s 44 it.k false=k2 at *
    simp only [if_true]
    rcases hR with ⟨U,b1,b2,b3⟩ | ⟨b1,b2⟩
    ·have h3:=hw.cons b1
     have h4:=Par.step (s:=s) (k:=it.k) (f:=⟨260,kf c,d,p⟩) (ok:=true) (b:=q.k) (sg2:=U.reverse++[]) (by rw [hst]) (by rw [hst];exact h3)
     rw [hst] at h4
     refine .inl ⟨(g0::rest)++U,?_,b2,GI.cons a3 hp (by omega) (by omega) hq.1 b3⟩
     have:=a1.app h4
     rw [List.reverse_append]
     simpa using this
    ·have h3:=zN.after hw b1
     have h4:=zN.step (s:=s) (k:=it.k) (f:=⟨260,kf c,d,p⟩) (by rw [hst]) (by rw [hst];exact h3)
     exact .inr ⟨zN.app2 a1 h4,b2⟩
  ·have:=yd a2 (c:=44) (by decide) (by decide)
   rw [this.1]
   simp only [Bool.false_eq_true,if_false]
   rw [this.2.1]
   exact .inr ⟨a1.app [⟨260,kf c,d,p⟩],a2⟩
theorem zbS {s:ByteArray} {ex:Int->Nat->Nat->Bool->CR} (hD:ExD s ex) {c:Int} (hc:yg c) (d:Int) (m k:Nat):(zt ex s c d m k true).k=k/\(zt ex s c d m k true).b=true:=by
 have hs:zb s k true=k:=rfl
 have hn:=Jm s k
 have hb:=Q1 s k
 have hd:X8 s k true:=.inl rfl
 have h58:=yd hd (c:=58) (by decide) (by decide)
 have h42:=yd hd (c:=42) (by decide) (by decide)
 rcases hc with rfl | rfl | rfl | rfl | rfl
 ·simp [zt,hs,hn.1,hn.2]
 ·simp [zt,hs,hn.1,hn.2]
 ·simp [zt,hs,hn.1,hn.2,h42.2.1,h42.2.2]
 ·simp [zt,hs,hn.1,hn.2,h58.2.1,h58.2.2,hD (d+1) m k true hd]
 ·simp [zt,hs,hb.1,hb.2,h58.2.1,h58.2.2,hD (d+1) m k true hd]
theorem zar {s:ByteArray} {ex:Int->Nat->Nat->Bool->CR} (hD:ExD s ex) {c:Int} (hc:yg c) (d:Int) (N m k:Nat):(zd ex s c d N m k true).k=k/\(zd ex s c d N m k true).b=true:=by
 cases N with
 | zero=>exact ⟨rfl,rfl⟩
 | succ N =>
  have h1:=zbS hD hc d m k
  have h2:=yd (s:=s) (k:=k) (b:=true) (c:=44) (.inl rfl) (by decide) (by decide)
  simp only [zd,h1.1,h1.2,h2.1]
  simp [h2.2.1]
theorem xf.items {s:ByteArray} {rs:List RL} {ex:Int->Nat->Nat->Bool->CR} {n k0 k:Nat} {l:List FR} {b:Bool} {G:List SG->Prop} (h:xf s k0 l k b G) (hX:ExP s rs ex n) (hD:ExD s ex) (hM:Zs ex s) {c:Int} (hc:yg c) (hk:k<=s.size) (d:Int) (hd:0<=d) (p m:Nat) (hp:p<k) (hn:s.size-k<n) :
 Run s k0 (l++[⟨259,kf c,d,p⟩,⟨260,kf c,d,p⟩]) (zd ex s c d (s.size+1-k) m k b).k (zd ex s c d (s.size+1-k) m k b).b (fun U=>∃ V W,U=V++W/\G V/\b=false/\GI rs c p k (zd ex s c d (s.size+1-k) m k b).k W (zd ex s c d (s.size+1-k) m k b).es (zd ex s c d (s.size+1-k) m k b).ims):=by
 rcases h with ⟨U,h1,rfl,h3⟩ | ⟨h1,rfl⟩
 ·rcases JU hX hD hM hc d p hd (s.size+1-k) m k hk (by omega) hn hp with ⟨W,a1,a2,a3⟩ | ⟨a1,a2⟩
  ·exact .inl ⟨U++W,by have:=h1.app a1;rw [List.reverse_append];exact this,a2,U,W,rfl,h3,rfl,a3⟩
  ·exact .inr ⟨zN.app2 h1 a1,a2⟩
 ·have e:=zar hD hc d (s.size+1-k) m k
  exact .inr ⟨by rw [e.1];exact h1.app _,.inl e.2⟩
theorem Z9 {s:ByteArray} {k kk:Nat} {d:Int} {bb:Bool} {l:List FR} {G:List SG->Prop} (hl:ZT d (T.sk s k) (T.ch s (T.sk s k))=some l) (h:Run s (T.sk s k) l kk bb G):Run s k [⟨258,0,d,0⟩] kk bb (fun V=>∃ U,V=⟨3,T.sk s k,d,-1,ByteArray.empty⟩::U/\G U):=by
 have hst:zl s k ⟨258,0,d,0⟩=⟨true,T.sk s k,l,[⟨3,T.sk s k,d,-1,ByteArray.empty⟩]⟩:=by
  unfold zl
  simp only
  rw [if_neg (by decide),if_neg (by decide),if_pos trivial,hl]
 rcases h with ⟨U,h1,h2,h3⟩ | ⟨h1,h2⟩
 ·have:=Par.step (s:=s) (k:=k) (f:=⟨258,0,d,0⟩) (ok:=true) (b:=kk) (sg2:=U.reverse) (by rw [hst]) (by rw [hst];exact h1)
  rw [hst] at this
  exact .inl ⟨_::U,by rw [List.reverse_cons];exact this,h2,U,rfl,h3⟩
 ·exact .inr ⟨zN.step (s:=s) (k:=k) (f:=⟨258,0,d,0⟩) (by rw [hst]) (by rw [hst];exact h1),h2⟩
theorem J6 {s:ByteArray} {k:Nat} {d:Int} (hl:ZT d (T.sk s k) (T.ch s (T.sk s k))=none):zN s k [⟨258,0,d,0⟩] (T.sk s k):=by
 have hst:zl s k ⟨258,0,d,0⟩=⟨false,T.sk s k,[],[]⟩:=by
  unfold zl
  simp only
  rw [if_neg (by decide),if_neg (by decide),if_pos trivial,hl]
 have:=zN.stop (s:=s) (k:=k) (f:=⟨258,0,d,0⟩) (by rw [hst])
 rw [hst] at this
 exact this
theorem ZL {s:ByteArray} {p:Nat} {c:Int} (hc:0<c) (hc2:c<256) (hp:T.sk s p=p) (hlt:p<s.size) (h:T.ch s p=c):xf s p [byF c] (p+1) false (fun U=>U=[]):=by
 have ht:zU s c p false=true:=by unfold zU;rw [zk,hp,yM,if_pos hlt,h];simp
 have hw:=(xj hc hc2 ht).1
 have e:zc s c p false=p+1:=by unfold zc;rw [if_pos ht,zk,hp]
 rw [e] at hw
 exact .inl ⟨[],hw,rfl,rfl⟩
theorem Er3 {rs:List RL} {P:List SG} {pl d:Int} (err:Int):Er rs P ⟨3,pl,d,-1,ByteArray.empty⟩ err↔err=3/\12<=d:=by
 rw [YB rfl];simp [zP]
theorem Er8 {rs:List RL} {P:List SG} {pl d v:Int} {t:ByteArray} (h:Xl t v) (err:Int):Er rs P ⟨8,pl,d,-1,t⟩ err↔(v<0\/15<v)/\err=6:=by
 rw [YB rfl]
 have:=h.nn
 simp [h.vl,zP]
 constructor
 ·rintro ⟨h1,h2⟩;exact ⟨by omega,h1⟩
 ·rintro ⟨h1,h2⟩;exact ⟨h2,by omega⟩
theorem Er6 {rs:List RL} {P:List SG} {pl d v:Int} {t:ByteArray} (h:Xl t v) (err:Int):Er rs P ⟨6,pl,d,-1,t⟩ err↔(v<1\/86400<v)/\err=6:=by
 rw [YB rfl]
 have:=h.nn
 simp [h.vl,zP]
 constructor
 ·rintro ⟨h1,h2⟩;exact ⟨by omega,h1⟩
 ·rintro ⟨h1,h2⟩;exact ⟨h2,by omega⟩
theorem Er2 {rs:List RL} {P:List SG} {pl d v:Int} {t:ByteArray} (h:Q7 t v) (err:Int):Er rs P ⟨2,pl,d,-1,t⟩ err↔yf v rs=-1/\err=5:=by
 rw [YB rfl]
 simp [h.vl,zP]
 constructor
 ·rintro ⟨h1,h2⟩;exact ⟨h2,h1⟩
 ·rintro ⟨h1,h2⟩;exact ⟨h2,h1⟩
theorem GU.of3 {rs:List RL} {k p k':Nat} {d:Int} {W:List SG} {es:List EX} {H:Int->Int->Prop} (hkp:k<=p) (hpk:p<k')
 (hW:∀ g∈W,(p:Int)<g.place/\g.place<k'/\(g.list=-1\/((k:Int)<=g.list/\g.list<k'))/\KD g) (hst:W.Pairwise (fun a b=>a.place<b.place))
 (hfu:∀ P:List SG,(∀ x∈P,x.list<(k:Int))->∀ err a,FU rs (P++[⟨3,p,d,-1,ByteArray.empty⟩]) W err a↔H err a) (hes:∀ err a,FE es err a↔(12<=d/\err=3/\a=p)\/H err a):GU rs k k' (⟨3,p,d,-1,ByteArray.empty⟩::W) es :=
 ⟨fun g hg=>by
  rcases List.mem_cons.1 hg with rfl | hg
  ·exact ⟨by simp only;omega,by simp only;omega,.inl rfl,KD.of (by simp) (by simp)⟩
  ·have:=hW g hg
   exact ⟨by omega,this.2.1,this.2.2.1,this.2.2.2⟩,
  List.pairwise_cons.2 ⟨fun g hg=>(hW g hg).1,hst⟩,
  fun P hP err a=>by
   simp only [FU]
   rw [Er3,hfu P hP,hes]
   constructor
   ·rintro (⟨h1,h2,h3⟩ | h)
    ·exact .inl ⟨h3,h2,h1⟩
    ·exact .inr h
   ·rintro (⟨h1,h2,h3⟩ | h)
    ·exact .inl ⟨h3,h2,h1⟩
    ·exact .inr h⟩
theorem qF {e:EX} (h1:e.kind≠116) (h2:e.kind≠64) (h3:e.kind≠61) (err a:Int):FEx e err a↔12<=e.depth/\err=3/\a=e.at_:=by
 unfold FEx
 simp [h1,h2,h3]
theorem zcP {P:List SG} {k:Nat} {p d:Int} (h:∀ x∈P,x.list<(k:Int)):∀ x∈P++[(⟨3,p,d,-1,ByteArray.empty⟩:SG)],x.list<(k:Int):=fun x hx=>by
 rcases List.mem_append.1 hx with hx | hx
 ·exact h x hx
 ·simp at hx;subst hx;simp only;omega
theorem zbv (s:ByteArray) (rs:List RL):∀ n,ExP s rs (cE s rs n) n:=by
 intro n
 induction n with
 | zero=>intro d m k _ _ h;omega
 | succ n ih =>
  intro d m k hd hk hn
  have hD:ExD s (cE s rs n):=fun d m k b h=>qw h
  have hM:=yB s rs n
  show Run s k [⟨258,0,d,0⟩] (cE s rs (n+1) d m k false).k (cE s rs (n+1) d m k false).b (fun U=>0<=(cE s rs (n+1) d m k false).idx/\GU rs k (cE s rs (n+1) d m k false).k U (cE s rs (n+1) d m k false).es)
  have hge:=T.sk_ge s k
  have hle:=T.sk_le hk
  have hss:=Yq s k
  cases hK:isK (ze s (zb s k false) false) with
  | false =>
   rw [QV n d m k false hK]
   refine .inr ⟨?_,.inl rfl⟩
   simp only [zk]
   refine J6 ?_
   rw [zk,yM] at hK
   have:∀ c,isK c=false->ZT d (T.sk s k) c=none:=fun c hc=>by
    simp [isK] at hc
    simp [ZT,hc]
   refine this _ ?_
   by_cases h:T.sk s k<s.size
   ·rw [if_pos h] at hK;exact hK
   ·rw [T.ch_ge h];rfl
  | true =>
   have hlt0:=(yS hK).2
   have hlt:T.sk s k<s.size:=by rw [zk] at hlt0;exact hlt0
   have hch:ze s (zb s k false) false=T.ch s (T.sk s k):=by rw [zk,yM,if_pos hlt]
   obtain ⟨c,hc⟩:∃ c,T.ch s (T.sk s k)=c:=⟨_,rfl⟩
   have hcc:ze s (zb s k false) false=c:=hch.trans hc
   rw [hcc] at hK
   have h8:c=123\/c=116\/c=64\/c=61\/(c=119\/c=102\/c=109\/c=103):=by
    simp [isK] at hK
    omega
   have hsf:=zk s k
   rcases h8 with rfl | rfl | rfl | rfl | h8
   ·have hR:=((((ZL (by decide) (by decide) hss hlt hc).items ih hD hM (c:=123) (.inl rfl) (by omega) d hd (T.sk s k) m (by omega) (by omega))).want 125 (by decide) (by decide) (by decide)).run
    have hL:=Z9 (d:=d) (by rw [hc];rfl) hR
    rw [Ym n d m k false hcc,hsf]
    have hli:=zL hM 123 d (s.size+1-(T.sk s k+1)) m (T.sk s k+1) false (by omega)
    generalize zd (cE s rs n) s 123 d (s.size+1-(T.sk s k+1)) m (T.sk s k+1) false=l at *
    have ht:=zi s 125 l.k l.b
    refine hL.mono fun _ V hV=>⟨by simp only;omega,?_⟩
    obtain ⟨U,rfl,⟨V1,W,rfl,rfl,_,hG⟩,_⟩:=hV
    refine GU.of3 (H:=fun err a=>FE l.es err a\/FIs 123 [] l.ims err a) hge (by simp only;omega) (fun g hg=>?_) hG.st (fun P hP err a=>?_) (fun err a=>?_)
    ·have h1:=hG.wl g hg
     exact ⟨by omega,by simp only;omega,by simp only;omega,h1.2.2.2⟩
    ·exact hG.fu _ [] (fun x hx=>by have:=zcP hP x hx;omega) (Cor.nil (fun x hx=>by
      rcases List.mem_append.1 hx with hx | hx
      ·have:=hP x hx;omega
      ·simp at hx;subst hx;simp only;omega)) err a
    ·rw [xg,Xd,qF (by simp) (by simp) (by simp)]
     constructor
     ·rintro (h | h | h)
      ·exact .inr (.inl h)
      ·exact .inl h
      ·exact .inr (.inr h)
     ·rintro (h | h | h)
      ·exact .inr (.inl h)
      ·exact .inl h
      ·exact .inr (.inr h)
   ·have hb0:=zi s 40 (T.sk s k+1) false
    have hb1:zc s 40 (T.sk s k+1) false<=s.size:=zq (by decide) (by omega)
    have hR0:=((ZL (by decide) (by decide) hss hlt hc).run.want 40 (by decide) (by decide) (by decide)).num hb1 6 0 (-1)
    rw [Qd n d m k false hcc rfl rfl rfl,hsf]
    generalize zc s 40 (T.sk s k+1) false=k1 at *
    generalize zj s 40 (T.sk s k+1) false=b1 at *
    have hb2:=zV (b:=b1) hb1
    have hb3:=zZ (b:=b1) hb1
    have hb4:=zi s 44 (zm s k1 b1) (zu s k1 b1)
    have hb5:zc s 44 (zm s k1 b1) (zu s k1 b1)<=s.size:=zq (by decide) hb3
    have hR:=((((hR0.want 44 (by decide) (by decide) (by decide)).run).expr ih hD hb5 (d+1) (by omega) m (by omega)).want 41 (by decide) (by decide) (by decide)).run
    have hmo:=hM (d+1) m (zc s 44 (zm s k1 b1) (zu s k1 b1)) (zj s 44 (zm s k1 b1) (zu s k1 b1)) hb5
    have hL:=Z9 (d:=d) (by rw [hc];rfl) hR
    generalize zc s 44 (zm s k1 b1) (zu s k1 b1)=k2 at *
    generalize zj s 44 (zm s k1 b1) (zu s k1 b1)=b2 at *
    generalize cE s rs n (d+1) m k2 b2=r at *
    have ht:=zi s 41 r.k r.b
    refine hL.mono fun _ V hV=>⟨by simp only;omega,?_⟩
    obtain ⟨U,rfl,⟨V1,W,rfl,⟨⟨V2,rfl,⟨rfl,_⟩,rfl,h2,h3⟩,_⟩,_,_,hG⟩,_⟩:=hV
    have hsg:=T.sk_ge s k1
    refine GU.of3 (H:=fun err a=>((zI s k1 false<1\/86400<zI s k1 false)/\err=6/\a=T.sk s k1)\/FE r.es err a) hge (by simp only;omega) (fun g hg=>?_) ?_ (fun P hP err a=>?_) (fun err a=>?_)
    ·simp only [List.nil_append,List.singleton_append,List.mem_cons] at hg
     rcases hg with rfl | hg
     ·exact ⟨by simp only;omega,by simp only;omega,.inl rfl,KD.of (by simp) (by simp)⟩
     ·have h1:=hG.wl g hg
      exact ⟨by omega,by simp only;omega,by simp only;omega,h1.2.2.2⟩
    ·simp only [List.nil_append,List.singleton_append]
     refine List.pairwise_cons.2 ⟨fun g hg=>?_,hG.st⟩
     have h1:=hG.wl g hg
     simp only;omega
    ·simp only [List.nil_append,List.singleton_append,FU]
     rw [Er6 h3,hG.fu _ (fun x hx=>by
      rcases List.mem_append.1 hx with hx | hx
      ·have:=zcP hP x hx;omega
      ·simp at hx;subst hx;simp only;omega) err a]
     constructor
     ·rintro (⟨h1,h2,h3⟩ | h)
      ·exact .inl ⟨h2,h3,h1⟩
      ·exact .inr h
     ·rintro (⟨h1,h2,h3⟩ | h)
      ·exact .inl ⟨h3,h1,h2⟩
      ·exact .inr h
    ·rw [xg,Xd]
     simp [FEx,FIs,zk]
     constructor
     ·rintro (h | h | h)
      ·exact .inr (.inr h)
      ·exact .inl h
      ·exact .inr (.inl h)
     ·rintro (h | h | h)
      ·exact .inr (.inl h)
      ·exact .inr (.inr h)
      ·exact .inl h
   ·have hR:=(ZL (by decide) (by decide) hss hlt hc).num (by omega) 8 0 (-1)
    have hL:=Z9 (d:=d) (by rw [hc];rfl) hR
    rw [xM n d m k false hcc,hsf]
    refine hL.mono fun _ V hV=>⟨by simp only;omega,?_⟩
    obtain ⟨U,rfl,V1,rfl,rfl,_,h2,h3⟩:=hV
    have hsg:=T.sk_ge s (T.sk s k+1)
    refine GU.of3 (H:=fun err a=>(zI s (T.sk s k+1) false<0\/15<zI s (T.sk s k+1) false)/\err=6/\a=T.sk s (T.sk s k+1)) hge (by simp only;omega) (fun g hg=>?_) (by simp) (fun P hP err a=>?_) (fun err a=>?_)
    ·simp at hg
     subst hg
     exact ⟨by simp only;omega,by simp only;omega,.inl rfl,KD.of (by simp) (by simp)⟩
    ·simp only [List.nil_append,FU,or_false]
     rw [Er8 h3]
     constructor
     ·rintro ⟨h1,h2,h3⟩;exact ⟨h2,h3,h1⟩
     ·rintro ⟨h1,h2,h3⟩;exact ⟨h3,h1,h2⟩
    ·rw [Xd]
     simp [FEx,FIs,zk]
   ·have hR:=((ZL (by decide) (by decide) hss hlt hc).run.letter 2 0 (-1)).run
    have hL:=Z9 (d:=d) (by rw [hc];rfl) hR
    rw [Xr n d m k false hcc,hsf]
    refine hL.mono fun _ V hV=>⟨by simp only;omega,?_⟩
    obtain ⟨U,rfl,V1,rfl,rfl,_,h2,h3⟩:=hV
    have hsg:=T.sk_ge s (T.sk s k+1)
    refine GU.of3 (H:=fun err a=>yf (ze s (zb s (T.sk s k+1) false) false) rs=-1/\err=5/\a=T.sk s (T.sk s k+1)) hge (by simp only;omega) (fun g hg=>?_) (by simp) (fun P hP err a=>?_) (fun err a=>?_)
    ·simp at hg
     subst hg
     exact ⟨by simp only;omega,by simp only;omega,.inl rfl,by simp,fun _=>h3.sz⟩
    ·simp only [List.nil_append,FU,or_false]
     rw [Er2 h3]
     constructor
     ·rintro ⟨h1,h2,h3⟩;exact ⟨h2,h3,h1⟩
     ·rintro ⟨h1,h2,h3⟩;exact ⟨h3,h1,h2⟩
    ·rw [Xd]
     simp [FEx,FIs,zk]
   ·have hik:yg c:=by rcases h8 with rfl | rfl | rfl | rfl<;>simp [yg]
    have hb0:=zi s 40 (T.sk s k+1) false
    have hb1:zc s 40 (T.sk s k+1) false<=s.size:=zq (by decide) (by omega)
    have hR0:=(ZL (by omega) (by omega) hss hlt hc).run.want 40 (by decide) (by decide) (by decide)
    rw [Xs n d m k false hcc h8 rfl rfl rfl rfl,hsf]
    generalize zc s 40 (T.sk s k+1) false=k1 at *
    generalize zj s 40 (T.sk s k+1) false=b1 at *
    have hR1:=hR0.items ih hD hM hik hb1 d hd (T.sk s k) m (by omega) (by omega)
    have hli:=zL hM c d (s.size+1-k1) m k1 b1 hb1
    generalize zd (cE s rs n) s c d (s.size+1-k1) m k1 b1=l at *
    have hb4:=zi s 124 l.k l.b
    have hb5:zc s 124 l.k l.b<=s.size:=zq (by decide) hli.2.1
    have hR:=((((hR1.want 124 (by decide) (by decide) (by decide)).run).expr ih hD hb5 (d+1) (by omega) (m+l.es.length) (by omega)).want 41 (by decide) (by decide) (by decide)).run
    have hmo:=hM (d+1) (m+l.es.length) (zc s 124 l.k l.b) (zj s 124 l.k l.b) hb5
    have hL:=Z9 (k:=k) (d:=d) (by rw [hc];rcases h8 with rfl | rfl | rfl | rfl<;>rfl) hR
    generalize zc s 124 l.k l.b=k2 at *
    generalize zj s 124 l.k l.b=b2 at *
    generalize cE s rs n (d+1) (m+l.es.length) k2 b2=r at *
    have ht:=zi s 41 r.k r.b
    refine hL.mono fun _ V hV=>⟨by simp only;omega,?_⟩
    obtain ⟨U,rfl,⟨V1,W2,rfl,⟨⟨V2,W,rfl,⟨rfl,_⟩,_,hG⟩,_⟩,_,_,hG2⟩,_⟩:=hV
    refine GU.of3 (H:=fun err a=>(FE l.es err a\/FIs c [] l.ims err a)\/FE r.es err a) hge (by simp only;omega) (fun g hg=>?_) ?_ (fun P hP err a=>?_) (fun err a=>?_)
    ·simp only [List.nil_append] at hg
     rcases List.mem_append.1 hg with hg | hg
     ·have h1:=hG.wl g hg
      exact ⟨by omega,by simp only;omega,by simp only;omega,h1.2.2.2⟩
     ·have h1:=hG2.wl g hg
      exact ⟨by omega,by simp only;omega,by simp only;omega,h1.2.2.2⟩
    ·simp only [List.nil_append]
     refine List.pairwise_append.2 ⟨hG.st,hG2.st,fun a ha b hb=>?_⟩
     have h3:=(hG.wl a ha).2.1
     have h4:=(hG2.wl b hb).1
     omega
    ·simp only [List.nil_append]
     rw [zb1,hG.fu _ [] (fun x hx=>by have:=zcP hP x hx;omega) (Cor.nil (fun x hx=>by
      rcases List.mem_append.1 hx with hx | hx
      ·have:=hP x hx;omega
      ·simp at hx;subst hx;simp only;omega)) err a,hG2.fu _ (fun x hx=>by
      rcases List.mem_append.1 hx with hx | hx
      ·have:=zcP hP x hx;omega
      ·have:=(hG.wl x hx).2.2.1;omega) err a]
    ·rw [xg,xg,Xd,qF (by simp only;omega) (by simp only;omega) (by simp only;omega)]
     simp only
     constructor
     ·rintro ((h | h) | (h | h))
      ·exact .inr (.inl (.inl h))
      ·exact .inr (.inr h)
      ·exact .inl h
      ·exact .inr (.inl (.inr h))
     ·rintro (h | ((h | h) | h))
      ·exact .inr (.inl h)
      ·exact .inl (.inl h)
      ·exact .inr (.inr h)
      ·exact .inl (.inr h)
end Go.Proofs.YtaebngpoagjafabGreat
