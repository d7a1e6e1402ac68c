import Derived.Test.YtaebngpoagjafaaJ09
import Derived.Test.YtaebngpoagjafaaJ11
set_option maxRecDepth 100000
namespace Go.Proofs.Ytaebngpoagjafaa
open Go.RowKit
theorem Par.app {s:ByteArray} {k a b:Nat} {l1 l2:List FR} {ok:Bool} {sg1 sg2:List SG} (h1:Par s k l1 true a sg1) (h2:Par s a l2 ok b sg2):Par s k (l1++l2) ok b (sg2++sg1):=by
 obtain ⟨N1,n1,h1⟩:=h1
 obtain ⟨N2,n2,h2⟩:=h2
 have e1:=YD (fun k f q h=>YE s (M:=N1+N2) (by omega) h) _ _ _ h1
 have e2:=YD (fun k f q h=>YE s (M:=N1+N2) (by omega) h) _ _ _ h2
 clear h1 h2
 have key:∀ (l:List FR) (k n1:Nat) (sg1:List SG),pL (pF s (N1+N2)) k l=some ⟨true,a,sg1,n1⟩->∃ n,pL (pF s (N1+N2)) k (l++l2)=some ⟨ok,b,sg2++sg1,n⟩:=by
  intro l
  induction l with
  | nil =>
   intro k n1 sg1 h
   simp only [pL] at h
   simp at h
   obtain ⟨rfl,rfl,_⟩:=h
   exact ⟨n2,by simpa using e2⟩
  | cons f r ih =>
   intro k n1 sg1 h
   simp only [pL,List.cons_append] at h ⊢
   cases ha:pF s (N1+N2) k f with
   | none=>rw [ha] at h;simp at h
   | some q =>
    rw [ha] at h
    simp only at h ⊢
    split at h
    ·next hok =>
     rw [if_pos hok]
     cases hb:pL (pF s (N1+N2)) q.at_ r with
     | none=>rw [hb] at h;simp at h
     | some q2 =>
      rw [hb] at h
      simp at h
      obtain ⟨h1,h2,h3,h4⟩:=h
      obtain ⟨ok2,a2,sg3,n3⟩:=q2
      simp only at h1 h2 h3 h4
      subst h1 h2
      obtain ⟨n,hn⟩:=ih q.at_ n3 sg3 hb
      rw [hn]
      exact ⟨q.n+n,by simp [<- h3]⟩
    ·next hok=>simp at h;subst h;exact absurd rfl hok
 obtain ⟨n,hn⟩:=key l1 k n1 sg1 e1
 exact ⟨N1+N2,n,hn⟩
theorem zG.app {s:ByteArray} {k a:Nat} {l1:List FR} (h1:zG s k l1 a) (l2:List FR):zG s k (l1++l2) a:=by
 obtain ⟨sg,N1,n1,h1⟩:=h1
 have key:∀ (l:List FR) (k n1:Nat) (sg1:List SG),pL (pF s N1) k l=some ⟨false,a,sg1,n1⟩->∃ n sg2,pL (pF s N1) k (l++l2)=some ⟨false,a,sg2,n⟩:=by
  intro l
  induction l with
  | nil=>intro k n1 sg1 h;simp [pL] at h
  | cons f r ih =>
   intro k n1 sg1 h
   simp only [pL,List.cons_append] at h ⊢
   cases ha:pF s N1 k f with
   | none=>rw [ha] at h;simp at h
   | some q =>
    rw [ha] at h
    simp only at h ⊢
    split at h
    ·next hok =>
     rw [if_pos hok]
     cases hb:pL (pF s N1) q.at_ r with
     | none=>rw [hb] at h;simp at h
     | some q2 =>
      rw [hb] at h
      simp at h
      obtain ⟨h1,h2,h3,h4⟩:=h
      obtain ⟨ok2,a2,sg3,n3⟩:=q2
      simp only at h1 h2
      subst h1 h2
      obtain ⟨n,sg2,hn⟩:=ih q.at_ n3 sg3 hb
      rw [hn]
      exact ⟨_,_,rfl⟩
    ·next hok=>rw [if_neg hok];exact ⟨_,_,h⟩
 obtain ⟨n,sg2,hn⟩:=key l1 k n1 sg h1
 exact ⟨sg2,N1,n,hn⟩
theorem zG.app2 {s:ByteArray} {k a b:Nat} {l1 l2:List FR} {sg1:List SG} (h1:Par s k l1 true a sg1) (h2:zG s a l2 b):zG s k (l1++l2) b:=by
 obtain ⟨sg,h⟩:=h2
 exact ⟨_,h1.app h⟩
def Run (s:ByteArray) (k0:Nat) (l:List FR) (k:Nat) (b:Bool) (G:List SG->Prop):Prop:=(∃ U,Par s k0 l true k U.reverse/\b=false/\G U)\/(zG s k0 l k/\Xi s k b)
def xe (s:ByteArray) (k0:Nat) (l:List FR) (k:Nat) (b:Bool) (G:List SG->Prop):Prop:=(∃ U,Par s k0 l true k U.reverse/\b=false/\G U)\/(zG s k0 l k/\b=true)
theorem xe.run {s:ByteArray} {k0 k:Nat} {l:List FR} {b:Bool} {G:List SG->Prop} (h:xe s k0 l k b G):Run s k0 l k b G:=h.imp (fun h=>h) (fun h=>⟨h.1,.inl h.2⟩)
theorem xe.nil (s:ByteArray) (k:Nat):xe s k [] k false (fun U=>U=[]):=.inl ⟨[],Par.nil _ _,rfl,rfl⟩
theorem Run.mono {s:ByteArray} {k0 k:Nat} {l:List FR} {b:Bool} {G G':List SG->Prop} (h:Run s k0 l k b G) (hG:b=false->∀ U,G U->G' U):Run s k0 l k b G':=by
 rcases h with ⟨U,h1,h2,h3⟩ | h
 ·exact .inl ⟨U,h1,h2,hG h2 U h3⟩
 ·exact .inr h
theorem Run.want {s:ByteArray} {k0 k:Nat} {l:List FR} {b:Bool} {G:List SG->Prop} (h:Run s k0 l k b G) (c:Int) (hc:0<c) (hc2:c<256) (hc3:c<48\/57<c):xe s k0 (l++[byF c]) (zb s c k b) (zi s c k b) (fun U=>G U/\b=false):=by
 rcases h with ⟨U,h1,rfl,h3⟩ | ⟨h1,h2⟩
 ·cases ht:zI s c k false with
  | true =>
   have:=Xj hc hc2 ht
   exact .inl ⟨U,by have:=h1.app this.1;simpa using this,this.2,h3,rfl⟩
  | false =>
   have:=jP hc hc2 ht
   exact .inr ⟨zG.app2 h1 this.1,this.2⟩
 ·have:=Zg h2 (c:=c) (by omega) hc3
  exact .inr ⟨by rw [this.2.1];exact h1.app _,this.2.2⟩
theorem xe.num {s:ByteArray} {k0 k:Nat} {l:List FR} {b:Bool} {G:List SG->Prop} (h:xe s k0 l k b G) (hk:k<=s.size) (kd d li:Int) :
 Run s k0 (l++[⟨261,kd,d,li⟩]) (zh s k b) (zo s k b) (fun U=>∃ V,U=V++[⟨kd,T.sk s k,d,li,s.extract (T.sk s k) (zh s k b)⟩]/\G V/\b=false/\T.sk s k<zh s k b/\xl (s.extract (T.sk s k) (zh s k b)) (zD s k b)):=by
 rcases h with ⟨U,h1,rfl,h3⟩ | ⟨h1,rfl⟩
 ·rcases j9 hk kd d li with ⟨a1,a2,a3⟩ | ⟨a1,a2⟩
  ·exact .inl ⟨U++[⟨kd,T.sk s k,d,li,s.extract (T.sk s k) (zh s k false)⟩],by have:=h1.app a1;rw [List.reverse_append];exact this,a2,U,rfl,h3,rfl,a3,QW hk a3⟩
  ·exact .inr ⟨zG.app2 h1 a1,a2⟩
 ·have:=JB s k
  exact .inr ⟨by rw [this.1];exact h1.app _,.inl this.2⟩
theorem jC (s:ByteArray) (k:Nat):btK s k true=k/\btX s k true=true:=by
 refine ⟨?_,Xc rfl⟩
 unfold btK
 have:za s k true=k:=rfl
 rw [this]
 simp [btF,Ze,bit]
theorem xe.bits {s:ByteArray} {k0 k:Nat} {l:List FR} {b:Bool} {G:List SG->Prop} (h:xe s k0 l k b G) (hk:k<=s.size) (kd d li:Int) :
 Run s k0 (l++[⟨262,kd,d,li⟩]) (btK s k b) (btX s k b) (fun U=>∃ V,U=V++[⟨kd,T.sk s k,d,li,s.extract (T.sk s k) (btK s k b)⟩]/\G V/\b=false/\T.sk s k<btK s k b/\jN (s.extract (T.sk s k) (btK s k b)) (btV s k b) (btL s k b)):=by
 rcases h with ⟨U,h1,rfl,h3⟩ | ⟨h1,rfl⟩
 ·rcases JA hk kd d li with ⟨a1,a2,a3⟩ | ⟨a1,a2⟩
  ·exact .inl ⟨U++[⟨kd,T.sk s k,d,li,s.extract (T.sk s k) (btK s k false)⟩],by have:=h1.app a1;rw [List.reverse_append];exact this,a2,U,rfl,h3,rfl,a3,jy hk a3⟩
  ·exact .inr ⟨zG.app2 h1 a1,a2⟩
 ·have:=jC s k
  exact .inr ⟨by rw [this.1];exact h1.app _,.inl this.2⟩
theorem Run.letter {s:ByteArray} {k0 k:Nat} {l:List FR} {b:Bool} {G:List SG->Prop} (h:Run s k0 l k b G) (kd d li:Int) :
 xe s k0 (l++[⟨263,kd,d,li⟩]) (zM s k b) (z9 s k b) (fun U=>∃ V,U=V++[⟨kd,T.sk s k,d,li,s.extract (T.sk s k) (T.sk s k+1)⟩]/\G V/\b=false/\zM s k b=T.sk s k+1/\zaG (s.extract (T.sk s k) (T.sk s k+1)) (zd s (za s k b) b)):=by
 rcases h with ⟨U,h1,rfl,h3⟩ | ⟨h1,h2⟩
 ·rcases Je s k kd d li with ⟨a1,a2,a3,a4⟩ | ⟨a1,a2⟩
  ·exact .inl ⟨U++[⟨kd,T.sk s k,d,li,s.extract (T.sk s k) (T.sk s k+1)⟩],by have:=h1.app a1;rw [List.reverse_append];exact this,a2,U,rfl,h3,rfl,a3,a4⟩
  ·exact .inr ⟨zG.app2 h1 a1,a2⟩
 ·have:=XM h2
  exact .inr ⟨by rw [this.1];exact h1.app _,this.2⟩
theorem Run.expr {s:ByteArray} {rs:List RL} {ex:Int->Nat->Nat->Bool->CR} {n k0 k:Nat} {l:List FR} {b:Bool} {G:List SG->Prop} (h:Run s k0 l k b G) (hX:ExP s rs ex n) (hD:ExD s ex) (hk:k<=s.size) (d:Int) (hd:0<=d) (m:Nat) (hn:s.size-k<n) :
 Run s k0 (l++[⟨258,0,d,0⟩]) (ex d m k b).k (ex d m k b).b (fun U=>∃ V W,U=V++W/\G V/\b=false/\0<=(ex d m k b).idx/\GU rs k (ex d m k b).k W (ex d m k b).es):=by
 rcases h with ⟨U,h1,rfl,h3⟩ | ⟨h1,h2⟩
 ·rcases hX d m k hd hk hn with ⟨W,a1,a2,a3,a4⟩ | ⟨a1,a2⟩
  ·exact .inl ⟨U++W,by have:=h1.app a1;rw [List.reverse_append];exact this,a2,U,W,rfl,h3,rfl,a3,a4⟩
  ·exact .inr ⟨zG.app2 h1 a1,a2⟩
 ·have e:=hD d m k b h2
  rw [e]
  exact .inr ⟨h1.app _,.inl rfl⟩
theorem JI {rs:List RL} {P:List SG} {pl d v:Int} {t:ByteArray} (h:xl t v) (err:Int):Er rs P ⟨5,pl,d,-1,t⟩ err↔(v<1\/1000<v)/\err=6:=by
 rw [jK rfl]
 have:=h.nn
 simp [h.vl,Zz]
 constructor
 ·rintro ⟨h1,h2⟩;exact ⟨by omega,h1⟩
 ·rintro ⟨h1,h2⟩;exact ⟨h2,by omega⟩
theorem G1.mk1 {rs:List RL} {c p:Int} {k k':Nat} {g0:SG} {x:IM} (hc:yD c) (h119:c≠119) (hp:p≠-1) (hx:0<=x.num) (gx:GX c p g0 x) (w0:(k:Int)<=g0.place/\g0.place<k'):G1 rs c p k k' g0 [] [] x :=
 ⟨gx,w0,by simp,by simp,fun P pre _ hC err a=>by
  simp only [FU,or_false]
  rw [Xh hp gx hC,Xg hc pre x hx,gx.pl]
  constructor
  ·intro h;exact .inr (.inl h)
  ·rintro (h | h | h)
   ·exact absurd h (jI _ _)
   ·exact h
   ·exact absurd h.1 h119⟩
theorem G1.mkArm {rs:List RL} {c p:Int} {k kw k':Nat} {g0:SG} {x:IM} {U:List SG} {es:List EX} (hc:yD c) (h119:c≠119) (hp:p≠-1) (hpk:p<k) (hx:0<=x.num) (gx:GX c p g0 x) (w0:(k:Int)<=g0.place/\g0.place<kw) (hkk:kw<=k') (hkw:k<=kw) (hU:GU rs kw k' U es):G1 rs c p k k' g0 U es x :=
 ⟨gx,⟨w0.1,by omega⟩,fun g hg=>by
  have:=hU.wl g hg
  exact ⟨by omega,this.2.1,this.2.2.1.imp (fun h=>h) (fun h=>⟨by omega,h.2⟩),this.2.2.2⟩,hU.st,fun P pre hP hC err a=>by
  simp only [FU]
  rw [Xh hp gx hC,Xg hc pre x hx,gx.pl,hU.fu (P++[g0]) (fun y hy=>by
   rcases List.mem_append.1 hy with hy | hy
   ·have:=hP y hy;omega
   ·simp at hy;subst hy;rw [gx.li];omega) err a]
  constructor
  ·rintro (h | h)
   ·exact .inr (.inl h)
   ·exact .inl h
  ·rintro (h | h | h)
   ·exact .inr h
   ·exact .inl h
   ·exact absurd h.1 h119⟩
theorem Q7 {s:ByteArray} {rs:List RL} {ex:Int->Nat->Nat->Bool->CR} {n:Nat} (hX:ExP s rs ex n) (hD:ExD s ex) (hM:Zv ex s) {c:Int} (hc:yD c) (d:Int) (m k p:Nat) (h0:0<=d) (hk:k<=s.size) (hn:s.size-k<n) (hp:p<k) :
 Run s k [⟨259,kf c,d,p⟩] (zq ex s c d m k false).k (zq ex s c d m k false).b (fun V=>∃ g0 rest,V=g0::rest/\G1 rs c p k (zq ex s c d m k false).k g0 rest (zq ex s c d m k false).es (zq ex s c d m k false).im):=by
 have hp0:=T.sk_le hk
 have hge:=T.sk_ge s k
 have hss:=Xn s k
 have lift:∀ (kk:Nat) (bb:Bool) (G:List SG->Prop),Run s (T.sk s k) (XF ⟨259,kf c,d,p⟩) kk bb G->Run s k [⟨259,kf c,d,p⟩] kk bb G:=fun kk bb G h=>by
  rcases h with ⟨U,h1,h2,h3⟩ | ⟨h1,h2⟩
  ·exact .inl ⟨U,Q6 h1,h2,h3⟩
  ·exact .inr ⟨Jh h1,h2⟩
 refine lift _ _ _ ?_
 have hpm:(p:Int)≠-1:=by omega
 have hR0:=xe.nil s (T.sk s k)
 rcases hc with rfl | rfl | rfl | rfl | rfl
 ·have e:zq ex s 123 d m k false=⟨⟨T.sk s k,zD s (T.sk s k) false,0,0,0,0,-1⟩,[],zh s (T.sk s k) false,zo s (T.sk s k) false⟩:=by unfold zq;rw [zl];rfl
  rw [e]
  refine (hR0.num hp0 4 0 p).mono fun _ U hU=>?_
  obtain ⟨V,rfl,rfl,_,h2,h3⟩:=hU
  rw [hss] at h2 h3
  exact ⟨_,[],rfl,G1.mk1 (.inl rfl) (by decide) hpm h3.nn ⟨rfl,rfl,by simp only [hss],.inr ⟨by decide,by rw [hss];exact h3,rfl,rfl⟩⟩ (by simp only [hss];omega)⟩
 ·have e:zq ex s 102 d m k false=⟨⟨T.sk s k,zD s (T.sk s k) false,0,0,0,0,-1⟩,[],zh s (T.sk s k) false,zo s (T.sk s k) false⟩:=by unfold zq;rw [zl];rfl
  rw [e]
  refine (hR0.num hp0 4 0 p).mono fun _ U hU=>?_
  obtain ⟨V,rfl,rfl,_,h2,h3⟩:=hU
  rw [hss] at h2 h3
  exact ⟨_,[],rfl,G1.mk1 (.inr (.inl rfl)) (by decide) hpm h3.nn ⟨rfl,rfl,by simp only [hss],.inr ⟨by decide,by rw [hss];exact h3,rfl,rfl⟩⟩ (by simp only [hss];omega)⟩
 ·have e:zq ex s 119 d m k false=⟨⟨T.sk s k,zD s (T.sk s k) false,0,0,zD s (zb s 42 (zh s (T.sk s k) false) (zo s (T.sk s k) false)) (zi s 42 (zh s (T.sk s k) false) (zo s (T.sk s k) false)),za s (zb s 42 (zh s (T.sk s k) false) (zo s (T.sk s k) false)) (zi s 42 (zh s (T.sk s k) false) (zo s (T.sk s k) false)),-1⟩,[],zh s (zb s 42 (zh s (T.sk s k) false) (zo s (T.sk s k) false)) (zi s 42 (zh s (T.sk s k) false) (zo s (T.sk s k) false)),zo s (zb s 42 (zh s (T.sk s k) false) (zo s (T.sk s k) false)) (zi s 42 (zh s (T.sk s k) false) (zo s (T.sk s k) false))⟩:=by unfold zq;rw [zl];rfl
  rw [e]
  have hk1:=zS (b:=false) hp0
  have hk2:zb s 42 (zh s (T.sk s k) false) (zo s (T.sk s k) false)<=s.size:=zm (by decide) hk1
  have hg2:=zk s 42 (zh s (T.sk s k) false) (zo s (T.sk s k) false)
  have hR:=(((hR0.num hp0 4 0 p).want 42 (by decide) (by decide) (by decide)).num hk2 5 0 (-1))
  generalize zb s 42 (zh s (T.sk s k) false) (zo s (T.sk s k) false)=k2 at *
  generalize zi s 42 (zh s (T.sk s k) false) (zo s (T.sk s k) false)=b2 at *
  refine hR.mono fun _ U hU=>?_
  obtain ⟨V,rfl,⟨⟨V2,rfl,rfl,_,h2,h3⟩,_⟩,rfl,h4,h5⟩:=hU
  rw [hss] at h2 h3
  have hsg:=T.sk_ge s k2
  have gx:GX 119 (p:Int) ⟨4,T.sk s (T.sk s k),0,p,s.extract (T.sk s (T.sk s k)) (zh s (T.sk s k) false)⟩ ⟨T.sk s k,zD s (T.sk s k) false,0,0,zD s k2 false,za s k2 false,-1⟩:=⟨rfl,rfl,by simp only [hss],.inr ⟨by decide,by rw [hss];exact h3,rfl,rfl⟩⟩
  refine ⟨_,[_],rfl,gx,by simp only [hss];omega,fun g hg=>?_,by simp,fun P pre hP hC err a=>?_⟩
  ·simp at hg
   subst hg
   simp only [hss]
   exact ⟨by omega,by omega,.inl trivial,KD.of (by simp) (by simp)⟩
  ·simp only [FU,or_false]
   rw [Xh hpm gx hC,Xg (.inr (.inr (.inl rfl))) pre _ h3.nn,JI h5]
   simp only [hss,zl]
   constructor
   ·rintro (h | ⟨h1,h2,h3⟩)
    ·exact .inr (.inl h)
    ·exact .inr (.inr ⟨trivial,h2,h3,h1⟩)
   ·rintro (h | h | ⟨_,h1,h2,h3⟩)
    ·exact absurd h (jI _ _)
    ·exact .inl h
    ·exact .inr ⟨h3,h1,h2⟩
 ·have e:zq ex s 103 d m k false=⟨⟨T.sk s k,zD s (T.sk s k) false,0,0,0,0,(ex (d+1) m (zb s 58 (zh s (T.sk s k) false) (zo s (T.sk s k) false)) (zi s 58 (zh s (T.sk s k) false) (zo s (T.sk s k) false))).idx⟩,(ex (d+1) m (zb s 58 (zh s (T.sk s k) false) (zo s (T.sk s k) false)) (zi s 58 (zh s (T.sk s k) false) (zo s (T.sk s k) false))).es,(ex (d+1) m (zb s 58 (zh s (T.sk s k) false) (zo s (T.sk s k) false)) (zi s 58 (zh s (T.sk s k) false) (zo s (T.sk s k) false))).k,(ex (d+1) m (zb s 58 (zh s (T.sk s k) false) (zo s (T.sk s k) false)) (zi s 58 (zh s (T.sk s k) false) (zo s (T.sk s k) false))).b⟩:=by unfold zq;rw [zl];rfl
  rw [e]
  have hk1:=zS (b:=false) hp0
  have hk2:zb s 58 (zh s (T.sk s k) false) (zo s (T.sk s k) false)<=s.size:=zm (by decide) hk1
  have hg2:=zk s 58 (zh s (T.sk s k) false) (zo s (T.sk s k) false)
  have hg1:=z8 (b:=false) hp0
  have hR:=(((hR0.num hp0 7 0 p).want 58 (by decide) (by decide) (by decide)).run).expr hX hD hk2 (d+1) (by omega) m (by omega)
  have hmo:=hM (d+1) m (zb s 58 (zh s (T.sk s k) false) (zo s (T.sk s k) false)) (zi s 58 (zh s (T.sk s k) false) (zo s (T.sk s k) false)) hk2
  generalize zb s 58 (zh s (T.sk s k) false) (zo s (T.sk s k) false)=k2 at *
  generalize zi s 58 (zh s (T.sk s k) false) (zo s (T.sk s k) false)=b2 at *
  refine hR.mono fun _ U hU=>?_
  obtain ⟨V,W,rfl,⟨⟨V2,rfl,rfl,_,h2,h3⟩,_⟩,rfl,h4,h5⟩:=hU
  rw [hss] at h2 h3
  exact ⟨_,W,rfl,G1.mkArm (.inr (.inr (.inr (.inl rfl)))) (by decide) hpm (by omega) h3.nn ⟨rfl,rfl,by simp only [hss],.inr ⟨by decide,by rw [hss];exact h3,rfl,rfl⟩⟩ (by simp only [hss];omega) hmo.1 (by omega) h5⟩
 ·have e:zq ex s 109 d m k false=⟨⟨T.sk s k,0,btV s (T.sk s k) false,btL s (T.sk s k) false,0,0,(ex (d+1) m (zb s 58 (btK s (T.sk s k) false) (btX s (T.sk s k) false)) (zi s 58 (btK s (T.sk s k) false) (btX s (T.sk s k) false))).idx⟩,(ex (d+1) m (zb s 58 (btK s (T.sk s k) false) (btX s (T.sk s k) false)) (zi s 58 (btK s (T.sk s k) false) (btX s (T.sk s k) false))).es,(ex (d+1) m (zb s 58 (btK s (T.sk s k) false) (btX s (T.sk s k) false)) (zi s 58 (btK s (T.sk s k) false) (btX s (T.sk s k) false))).k,(ex (d+1) m (zb s 58 (btK s (T.sk s k) false) (btX s (T.sk s k) false)) (zi s 58 (btK s (T.sk s k) false) (btX s (T.sk s k) false))).b⟩:=by unfold zq;rw [zl];rfl
  rw [e]
  have hk1:=Yt (b:=false) hp0
  have hk2:zb s 58 (btK s (T.sk s k) false) (btX s (T.sk s k) false)<=s.size:=zm (by decide) hk1
  have hg2:=zk s 58 (btK s (T.sk s k) false) (btX s (T.sk s k) false)
  have hg1:=Y6 (b:=false) hp0
  have hR:=(((hR0.bits hp0 9 0 p).want 58 (by decide) (by decide) (by decide)).run).expr hX hD hk2 (d+1) (by omega) m (by omega)
  have hmo:=hM (d+1) m (zb s 58 (btK s (T.sk s k) false) (btX s (T.sk s k) false)) (zi s 58 (btK s (T.sk s k) false) (btX s (T.sk s k) false)) hk2
  generalize zb s 58 (btK s (T.sk s k) false) (btX s (T.sk s k) false)=k2 at *
  generalize zi s 58 (btK s (T.sk s k) false) (btX s (T.sk s k) false)=b2 at *
  refine hR.mono fun _ U hU=>?_
  obtain ⟨V,W,rfl,⟨⟨V2,rfl,rfl,_,h2,h3⟩,_⟩,rfl,h4,h5⟩:=hU
  rw [hss] at h2 h3
  exact ⟨_,W,rfl,G1.mkArm (.inr (.inr (.inr (.inr rfl)))) (by decide) hpm (by omega) (Int.le_refl _) ⟨rfl,rfl,by simp only [hss],.inl ⟨rfl,rfl,by rw [hss];exact h3⟩⟩ (by simp only [hss];omega) hmo.1 (by omega) h5⟩
theorem xr (s:ByteArray) (k:Nat) (kd d p:Int):zH s k ⟨260,kd,d,p⟩=⟨true,T.sk s k,if T.ch s (T.sk s k)=44 then [byF 44,⟨259,kd,d,p⟩,⟨260,kd,d,p⟩] else [],[]⟩:=by
 unfold zH
 simp only
 rw [if_neg (by decide),if_neg (by decide),if_neg (by decide),if_neg (by decide),if_pos trivial]
theorem XY {s:ByteArray} {k:Nat}:zI s 44 k false=true↔T.ch s (T.sk s k)=44:=by
 unfold zI
 rw [zl,yX,beq_iff_eq]
 by_cases h:T.sk s k<s.size
 ·rw [if_pos h]
 ·rw [if_neg h,T.ch_ge h];omega
theorem G1.gi {rs:List RL} {c p:Int} {k k1 k':Nat} {g0:SG} {rest:List SG} {es:List EX} {x:IM} (h:G1 rs c p k k1 g0 rest es x) (hkk:k1<=k'):GI rs c p k k' (g0::rest) es [x] :=
 ⟨fun g hg=>by
  rcases List.mem_cons.1 hg with rfl | hg
  ·exact ⟨h.w0.1,by have:=h.w0.2;omega,.inr (.inl h.gx.li),KD.of (by rw [h.gx.ki];exact (Q1 c).1) (by rw [h.gx.ki];exact (Q1 c).2.1)⟩
  ·have h1:=h.wl g hg
   have h2:=h.w0.1
   exact ⟨by omega,by omega,h1.2.2.1.imp (fun h=>h) (fun h=>.inr ⟨h.1,by omega⟩),h1.2.2.2⟩,
  List.pairwise_cons.2 ⟨fun g hg=>(h.wl g hg).1,h.st⟩,
  fun P pre hP hC err a=>by rw [h.fu P pre hP hC err a];simp [FIs]⟩
theorem GI.cons {rs:List RL} {c:Int} {p:Nat} {k k1 k2 k':Nat} {g0:SG} {rest U:List SG} {es fs:List EX} {x:IM} {xs:List IM} (h:G1 rs c p k k1 g0 rest es x) (hpk:p<k) (h12:k1<=k2) (hk2:k<=k2) (h23:k2<=k') (h2:GI rs c p k2 k' U fs xs):GI rs c p k k' ((g0::rest)++U) (es++fs) (x::xs):=by
 have hg1:=h.gi (Nat.le_refl k1)
 refine ⟨fun g hg=>?_,?_,fun P pre hP hC err a=>?_⟩
 ·rcases List.mem_append.1 hg with hg | hg
  ·have h1:=hg1.wl g hg
   exact ⟨h1.1,by omega,h1.2.2.1.imp (fun h=>h) (fun h=>h.imp (fun h=>h) (fun h=>⟨h.1,by omega⟩)),h1.2.2.2⟩
  ·have h1:=h2.wl g hg
   exact ⟨by omega,h1.2.1,h1.2.2.1.imp (fun h=>h) (fun h=>h.imp (fun h=>h) (fun h=>⟨by omega,h.2⟩)),h1.2.2.2⟩
 ·refine List.pairwise_append.2 ⟨hg1.st,h2.st,fun a ha b hb=>?_⟩
  have h3:=(hg1.wl a ha).2.1
  have h4:=(h2.wl b hb).1
  omega
 ·rw [zao,h.fu P pre hP hC err a,h2.fu (P++(g0::rest)) (pre++[x]) (fun y hy=>?_) (hC.step h.gx (fun y hy=>?_)) err a,jJ]
  ·simp only [FIs]
   constructor
   ·rintro ((h | h) | (h | h))
    ·exact .inl (.inl h)
    ·exact .inr (.inl h)
    ·exact .inl (.inr h)
    ·exact .inr (.inr h)
   ·rintro ((h | h) | (h | h))
    ·exact .inl (.inl h)
    ·exact .inr (.inl h)
    ·exact .inl (.inr h)
    ·exact .inr (.inr h)
  ·rcases List.mem_append.1 hy with hy | hy
   ·have:=hP y hy;omega
   ·rcases (hg1.wl y hy).2.2.1 with h | h | h<;>omega
  ·rcases (h.wl y hy).2.2.1 with h | h<;>omega
theorem zas {s:ByteArray} {rs:List RL} {ex:Int->Nat->Nat->Bool->CR} {n:Nat} (hX:ExP s rs ex n) (hD:ExD s ex) (hM:Zv ex s) {c:Int} (hc:yD c) (d:Int) (p:Nat) (h0:0<=d):∀ (N m k:Nat),k<=s.size->s.size+1<=N+k->s.size-k<n->p<k ->
 Run s k [⟨259,kf c,d,p⟩,⟨260,kf c,d,p⟩] (zf ex s c d N m k false).k (zf ex s c d N m k false).b (fun U=>GI rs c p k (zf ex s c d N m k false).k U (zf ex s c d N m k false).es (zf ex s c d N m k false).ims):=by
 intro N
 induction N with
 | zero=>intro m k h1 h2;omega
 | succ N ih =>
  intro m k hk hN hn hp
  have h1:=Q7 hX hD hM hc d m k p h0 hk hn hp
  have hmo:=yY hM c d m k false hk
  simp only [zf]
  generalize zq ex s c d m k false=it at *
  rcases h1 with ⟨V,a1,a2,g0,rest,rfl,a3⟩ | ⟨a1,a2⟩
  ·rw [a2]
   have htg:=zk s 44 it.k false
   have htl:zb s 44 it.k false<=s.size:=zm (by decide) hmo.2.1
   cases ht:zI s 44 it.k false with
   | false =>
    have hne:¬ T.ch s (T.sk s it.k)=44:=fun h=>by rw [XY.2 h] at ht;cases ht
    have e:zb s 44 it.k false=T.sk s it.k:=by unfold zb;rw [if_neg (by rw [ht];decide),zl]
    have hst:=xr s it.k (kf c) d p
    rw [if_neg hne] at hst
    have h2:Par s it.k [⟨260,kf c,d,p⟩] true (zb s 44 it.k false) []:=by
     have:=Par.step (s:=s) (k:=it.k) (f:=⟨260,kf c,d,p⟩) (ok:=true) (b:=T.sk s it.k) (sg2:=[]) (by rw [hst]) (by rw [hst];exact Par.nil _ _)
     rw [hst] at this
     rw [e];exact this
    exact .inl ⟨g0::rest,by have:=a1.app h2;simpa using this,rfl,a3.gi htg⟩
   | true =>
    have h44:=XY.1 ht
    have hst:=xr s it.k (kf c) d p
    rw [if_pos h44] at hst
    have htk:it.k+1<=zb s 44 it.k false:=by
     unfold zb;rw [if_pos ht];have:=zP s it.k false;omega
    have ht2:zI s 44 (T.sk s it.k) false=true:=XY.2 (by rw [Xn];exact h44)
    have e2:zb s 44 (T.sk s it.k) false=zb s 44 it.k false:=by unfold zb;rw [if_pos ht,if_pos ht2,zl,zl,Xn]
    have hw:=(Xj (s:=s) (k:=T.sk s it.k) (c:=44) (by decide) (by decide) ht2).1
    rw [e2] at hw
    have hR:=ih (m+it.es.length) (zb s 44 it.k false) htl (by omega) (by omega) (by omega)
    have hq:=zU hM c d N (m+it.es.length) (zb s 44 it.k false) false htl
    generalize zf ex s c d N (m+it.es.length) (zb s 44 it.k false) false=q at *
    generalize zb s 44 it.k false=k2 at *
    simp only [if_true]
    rcases hR with ⟨U,b1,b2,b3⟩ | ⟨b1,b2⟩
    ·have h3:=hw.cons b1
     have h4:=Par.step (s:=s) (k:=it.k) (f:=⟨260,kf c,d,p⟩) (ok:=true) (b:=q.k) (sg2:=U.reverse++[]) (by rw [hst]) (by rw [hst];exact h3)
     rw [hst] at h4
     refine .inl ⟨(g0::rest)++U,?_,b2,GI.cons a3 hp (by omega) (by omega) hq.1 b3⟩
     have:=a1.app h4
     rw [List.reverse_append]
     simpa using this
    ·have h3:=zG.after hw b1
     have h4:=zG.step (s:=s) (k:=it.k) (f:=⟨260,kf c,d,p⟩) (by rw [hst]) (by rw [hst];exact h3)
     exact .inr ⟨zG.app2 a1 h4,b2⟩
  ·have:=Zg a2 (c:=44) (by decide) (by decide)
   rw [this.1]
   simp only [Bool.false_eq_true,if_false]
   rw [this.2.1]
   exact .inr ⟨a1.app [⟨260,kf c,d,p⟩],a2⟩
def FRs:List RL->List RL->Int->Int->Prop
 | _,[],_,_=>False
 | pre,r::l,err,a=>(yA r.nv pre≠-1/\err=5/\a=r.na)\/FRs (pre++[r]) l err a
def zZ (S:Int->Int->Prop) (f:Int×Int):Prop:=(f=(0,0)/\∀ err a,¬ S err a)\/(f.1≠0/\S f.1 f.2/\∀ err a,S err a->f.2<a\/(f.2=a/\f.1<=err))
theorem zZ.congr {S S':Int->Int->Prop} {f:Int×Int} (h:zZ S f) (e:∀ err a,S err a↔S' err a):zZ S' f:=by
 rcases h with ⟨h1,h2⟩ | ⟨h1,h2,h3⟩
 ·exact .inl ⟨h1,fun err a hs=>h2 err a ((e err a).2 hs)⟩
 ·exact .inr ⟨h1,(e _ _).1 h2,fun err a hs=>h3 err a ((e err a).2 hs)⟩
theorem ZQ {S:Int->Int->Prop} {f:Int×Int} (h:zZ S f) (e x:Int) (he:e≠0):zZ (fun err a=>S err a\/(err=e/\a=x)) (fnd f e x):=by
 unfold fnd
 split
 ·next hc =>
  refine .inr ⟨he,.inr ⟨rfl,rfl⟩,fun err a hs=>?_⟩
  rcases hs with hs | ⟨rfl,rfl⟩
  ·rcases h with ⟨_,h2⟩ | ⟨h1,h2,h3⟩
   ·exact absurd hs (h2 _ _)
   ·have:=h3 err a hs
    rcases hc with hc | hc | hc
    ·exact absurd hc h1
    ·simp only;omega
    ·simp only;omega
  ·exact .inr ⟨rfl,Int.le_refl _⟩
 ·next hc =>
  rcases h with ⟨h1,_⟩ | ⟨h1,h2,h3⟩
  ·exact absurd (.inl (by rw [h1])) hc
  ·refine .inr ⟨h1,.inl h2,fun err a hs=>?_⟩
   rcases hs with hs | ⟨rfl,rfl⟩
   ·exact h3 err a hs
   ·have c2:¬ a<f.2:=fun h=>hc (.inr (.inl h))
    have c3:¬ (a=f.2/\err<f.1):=fun h=>hc (.inr (.inr h))
    omega
theorem Yd {S T:Int->Int->Prop} {f g:Int×Int} {c:Prop} [Decidable c] (h:zZ S f) (hg:c->zZ (fun err a=>S err a\/T err a) g):zZ (fun err a=>S err a\/(c/\T err a)) (if c then g else f):=by
 split
 ·next hc=>exact (hg hc).congr (fun err a=>by simp [hc])
 ·next hc=>exact h.congr (fun err a=>by simp [hc])
theorem Zf {S:Int->Int->Prop} {f:Int×Int} (h:zZ S f) (v x lo hi:Int):zZ (fun err a=>S err a\/((v<lo\/hi<v)/\err=6/\a=x)) (Zp f v x lo hi):=Yd h (fun _=>ZQ h 6 x (by decide))
def Qy (c:Int) (x:IM) (err a:Int):Prop:=((c=123\/c=102\/c=119)/\(x.num<0\/63<x.num)/\err=6/\a=x.at_)\/(c=119/\(x.wv<1\/1000<x.wv)/\err=6/\a=x.wa)\/(c=103/\(x.num<0\/99<x.num)/\err=6/\a=x.at_)
theorem Qc {S:Int->Int->Prop} {f:Int×Int} (h:zZ S f) (c:Int) (x:IM):zZ (fun err a=>S err a\/Qy c x err a) (ZD c x f):=by
 unfold ZD
 split
 ·next hc =>
  refine (Zf h x.num x.at_ 0 63).congr fun err a=>?_
  unfold Qy
  rcases hc with rfl | rfl<;>simp
 ·next h1 =>
  split
  ·next hc =>
   subst hc
   refine (Zf (Zf h x.num x.at_ 0 63) x.wv x.wa 1 1000).congr fun err a=>?_
   unfold Qy
   simp [or_assoc]
  ·next h2 =>
   split
   ·next hc =>
    subst hc
    refine (Zf h x.num x.at_ 0 99).congr fun err a=>?_
    unfold Qy
    simp
   ·next h3 =>
    refine h.congr fun err a=>?_
    have:c≠123/\c≠102:=⟨fun e=>h1 (.inl e),fun e=>h1 (.inr e)⟩
    unfold Qy
    simp [this.1,this.2,h2,h3]
theorem Jk {S:Int->Int->Prop} {f:Int×Int} (h:zZ S f) (c:Int) (l:List IM) (j:Nat) (x:IM) (hj:j<l.length):zZ (fun err a=>S err a\/FIm c (l.take j) x err a) (fIt c l j x f):=by
 have h1:zZ (fun err a=>S err a\/(16<=j/\err=4/\a=x.at_)) (if 16<=j then fnd f 4 x.at_ else f):=Yd h (fun _=>ZQ h 4 x.at_ (by decide))
 have h2:=Yd (c:=(l.take j).any (fun y=>zW y x)=true) h1 (fun _=>ZQ h1 7 x.at_ (by decide))
 have h3:=Qc h2 c x
 refine h3.congr fun err a=>?_
 have:(l.take j).length=j:=by rw [List.length_take];omega
 unfold FIm Qy
 rw [this]
 simp only [or_assoc]
theorem JH (c:Int) (A B:List IM) (err a:Int):∀ pre,FIs c pre (A++B) err a↔FIs c pre A err a\/FIs c (pre++A) B err a:=by
 induction A with
 | nil=>intro P;simp [FIs]
 | cons g r ih =>
  intro P
  simp only [List.cons_append,FIs]
  rw [ih (P++[g]),List.append_assoc,List.singleton_append,or_assoc]
theorem jc {S:Int->Int->Prop} {f:Int×Int} (h:zZ S f) (c:Int) (l:List IM):∀ n,n<=l.length->zZ (fun err a=>S err a\/FIs c [] (l.take n) err a) (yR c l f n):=by
 intro n
 induction n with
 | zero=>intro _;exact h.congr (fun err a=>by simp [FIs])
 | succ n ih =>
  intro hn
  have hx:l[n]?=some l[n]:=List.getElem?_eq_getElem (by omega)
  simp only [yR,hx]
  refine (Jk (ih (by omega)) c l n l[n] (by omega)).congr fun err a=>?_
  rw [List.take_add_one,hx]
  simp only [Option.toList]
  rw [JH]
  simp [FIs,or_assoc]
theorem Qd {S:Int->Int->Prop} {f:Int×Int} (h:zZ S f) (e:EX):zZ (fun err a=>S err a\/FEx e err a) (Yz e f):=by
 have h1:zZ (fun err a=>S err a\/(12<=e.depth/\err=3/\a=e.at_)) (if 12<=e.depth then fnd f 3 e.at_ else f):=Yd h (fun _=>ZQ h 3 e.at_ (by decide))
 unfold Yz
 simp only
 generalize (if 12<=e.depth then fnd f 3 e.at_ else f)=f1 at *
 split
 ·next hc =>
  refine (Zf h1 e.nv e.na 1 86400).congr fun err a=>?_
  unfold FEx
  simp [hc,or_assoc]
 ·next c1 =>
  split
  ·next hc =>
   refine (Zf h1 e.nv e.na 0 15).congr fun err a=>?_
   unfold FEx
   simp [hc,or_assoc]
  ·next c2 =>
   split
   ·next hc =>
    refine (Yd (c:=e.inner=-1) h1 (fun _=>ZQ h1 5 e.na (by decide))).congr fun err a=>?_
    unfold FEx
    simp [hc,or_assoc]
   ·next c3 =>
    refine h1.congr fun err a=>?_
    unfold FEx
    simp [c1,c2,c3]
theorem jd {S:Int->Int->Prop} {f:Int×Int} (h:zZ S f) (es:List EX):∀ n,n<=es.length->zZ (fun err a=>S err a\/FE (es.take n) err a) (Ye es f n):=by
 intro n
 induction n with
 | zero=>intro _;exact h.congr (fun err a=>by simp [FE])
 | succ n ih =>
  intro hn
  have hx:es[n]?=some es[n]:=List.getElem?_eq_getElem (by omega)
  simp only [Ye,hx]
  refine (jc (Qd (ih (by omega)) es[n]) es[n].kind es[n].items es[n].items.length (Nat.le_refl _)).congr fun err a=>?_
  rw [List.take_length,List.take_add_one,hx]
  simp only [Option.toList]
  rw [jJ,zap,or_assoc,or_assoc]
theorem JG (A B:List RL) (err a:Int):∀ pre,FRs pre (A++B) err a↔FRs pre A err a\/FRs (pre++A) B err a:=by
 induction A with
 | nil=>intro P;simp [FRs]
 | cons g r ih =>
  intro P
  simp only [List.cons_append,FRs]
  rw [ih (P++[g]),List.append_assoc,List.singleton_append,or_assoc]
theorem jb {S:Int->Int->Prop} {f:Int×Int} (h:zZ S f) (rs:List RL):∀ n,n<=rs.length->zZ (fun err a=>S err a\/FRs [] (rs.take n) err a) (yZ rs f n):=by
 intro n
 induction n with
 | zero=>intro _;exact h.congr (fun err a=>by simp [FRs])
 | succ n ih =>
  intro hn
  have hx:rs[n]?=some rs[n]:=List.getElem?_eq_getElem (by omega)
  simp only [yZ,hx]
  have h1:=ih (by omega)
  have h2:zZ (fun err a=>(S err a\/FRs [] (rs.take n) err a)\/(yA rs[n].nv (rs.take n)≠-1/\err=5/\a=rs[n].na)) (if yA rs[n].nv (rs.take n)=-1 then yZ rs f n else fnd (yZ rs f n) 5 rs[n].na):=by
   split
   ·next hc=>exact h1.congr (fun err a=>by simp [hc])
   ·next hc=>exact (ZQ h1 5 _ (by decide)).congr (fun err a=>by simp [hc])
  refine h2.congr fun err a=>?_
  rw [List.take_add_one,hx]
  simp only [Option.toList]
  rw [JG]
  simp [FRs,or_assoc]
theorem Y2 (es:List EX) (rs:List RL):zZ (fun err a=>FE es err a\/FRs [] rs err a) (Yq es rs):=by
 have h0:zZ (fun _ _=>False) (0,0):=.inl ⟨rfl,fun _ _ h=>h⟩
 have h1:=jb h0 rs rs.length (Nat.le_refl _)
 have h2:=jd h1 es es.length (Nat.le_refl _)
 refine h2.congr fun err a=>?_
 rw [List.take_length,List.take_length]
 simp only [false_or]
 exact or_comm
end Go.Proofs.Ytaebngpoagjafaa
