import Derived.Test.YtaebngpoagjafabGreatU18
set_option maxRecDepth 100000
namespace Go.Proofs.YtaebngpoagjafabGreat
open Go.RowKit
theorem Par.app {s:ByteArray} {k a b:Nat} {l1 l2:List FR} {ok:Bool} {sg1 sg2:List SG} (h1:Par s k l1 true a sg1) (h2:Par s a l2 ok b sg2):Par s k (l1++l2) ok b (sg2++sg1):=by
 obtain ⟨e,g,h1⟩:=h1
 obtain ⟨d,v,h2⟩:=h2
 have y:=xn (fun k f q h=>xp s (M:=e+d) (by omega) h) _ _ _ h1
 have x:=xn (fun k f q h=>xp s (M:=e+d) (by omega) h) _ _ _ h2
 clear h1 h2
 have j:∀ (l:List FR) (k g:Nat) (sg1:List SG),pL (pF s (e+d)) k l=some ⟨true,a,sg1,g⟩->∃ n,pL (pF s (e+d)) k (l++l2)=some ⟨ok,b,sg2++sg1,n⟩:=by
  intro l
  induction l with
  | nil =>
   intro k g sg1 h
   simp only [pL] at h
   simp at h
   obtain ⟨rfl,rfl,_⟩:=h
   exact ⟨v,by simpa using x⟩
  | cons f r ih =>
   intro k g sg1 h
   simp only [pL,List.cons_append] at h ⊢
   cases ha:pF s (e+d) k f with
   | none=>rw [ha] at h;simp at h
   | some q =>
    rw [ha] at h
    simp only at h ⊢
    split at h
    ·next hok =>
     rw [if_pos hok]
     cases hb:pL (pF s (e+d)) q.at_ r with
     | none=>rw [hb] at h;simp at h
     | some q2 =>
      rw [hb] at h
      simp at h
      obtain ⟨h1,h2,o,w⟩:=h
      obtain ⟨p,z,i,u⟩:=q2
      simp only at h1 h2 o w
      subst h1 h2
      obtain ⟨n,m⟩:=ih q.at_ u i hb
      rw [m]
      exact ⟨q.n+n,by simp [<- o]⟩
    ·next hok=>simp at h;subst h;exact absurd rfl hok
 obtain ⟨n,m⟩:=j l1 k g sg1 y
 exact ⟨e+d,n,m⟩
theorem zP.app {s:ByteArray} {k a:Nat} {l1:List FR} (h1:zP s k l1 a) (l2:List FR):zP s k (l1++l2) a:=by
 obtain ⟨p,g,e,h1⟩:=h1
 have j:∀ (l:List FR) (k e:Nat) (d:List SG),pL (pF s g) k l=some ⟨false,a,d,e⟩->∃ n b,pL (pF s g) k (l++l2)=some ⟨false,a,b,n⟩:=by
  intro l
  induction l with
  | nil=>intro k e d h;simp [pL] at h
  | cons f r ih =>
   intro k e d h
   simp only [pL,List.cons_append] at h ⊢
   cases ha:pF s g k f with
   | none=>rw [ha] at h;simp at h
   | some q =>
    rw [ha] at h
    simp only at h ⊢
    split at h
    ·next hok =>
     rw [if_pos hok]
     cases hb:pL (pF s g) q.at_ r with
     | none=>rw [hb] at h;simp at h
     | some q2 =>
      rw [hb] at h
      simp at h
      obtain ⟨h1,o,x,w⟩:=h
      obtain ⟨u,y,i,v⟩:=q2
      simp only at h1 o
      subst h1 o
      obtain ⟨n,b,m⟩:=ih q.at_ v i hb
      rw [m]
      exact ⟨_,_,rfl⟩
    ·next hok=>rw [if_neg hok];exact ⟨_,_,h⟩
 obtain ⟨n,b,m⟩:=j l1 k e p h1
 exact ⟨b,g,n,m⟩
theorem zP.app2 {s:ByteArray} {k a b:Nat} {l1 l2:List FR} {sg1:List SG} (h1:Par s k l1 true a sg1) (h2:zP s a l2 b):zP s k (l1++l2) b:=by
 obtain ⟨d,h⟩:=h2
 exact ⟨_,h1.app h⟩
def Run (s:ByteArray) (k0:Nat) (l:List FR) (k:Nat) (b:Bool) (G:List SG->Prop):Prop:=(∃ U,Par s k0 l true k U.reverse/\b=false/\G U)\/(zP s k0 l k/\Qg s k b)
def xX (s:ByteArray) (k0:Nat) (l:List FR) (k:Nat) (b:Bool) (G:List SG->Prop):Prop:=(∃ U,Par s k0 l true k U.reverse/\b=false/\G U)\/(zP s k0 l k/\b=true)
theorem xX.run {s:ByteArray} {k0 k:Nat} {l:List FR} {b:Bool} {G:List SG->Prop} (h:xX s k0 l k b G):Run s k0 l k b G:=h.imp (fun h=>h) (fun h=>⟨h.1,.inl h.2⟩)
theorem xX.nil (s:ByteArray) (k:Nat):xX s k [] k false (fun U=>U=[]):=.inl ⟨[],Par.nil _ _,rfl,rfl⟩
theorem Run.mono {s:ByteArray} {k0 k:Nat} {l:List FR} {b:Bool} {G G':List SG->Prop} (h:Run s k0 l k b G) (hG:b=false->∀ U,G U->G' U):Run s k0 l k b G':=by
 rcases h with ⟨U,h1,h2,h3⟩ | h
 ·exact .inl ⟨U,h1,h2,hG h2 U h3⟩
 ·exact .inr h
theorem Run.want {s:ByteArray} {k0 k:Nat} {l:List FR} {b:Bool} {G:List SG->Prop} (h:Run s k0 l k b G) (c:Int) (hc:0<c) (hc2:c<256) (hc3:c<48\/57<c):xX s k0 (l++[byF c]) (zc s c k b) (zj s c k b) (fun U=>G U/\b=false):=by
 rcases h with ⟨U,h1,rfl,h3⟩ | ⟨h1,h2⟩
 ·cases ht:zZ s c k false with
  | true =>
   have:=x7 hc hc2 ht
   exact .inl ⟨U,by have:=h1.app this.1;simpa using this,this.2,h3,rfl⟩
  | false =>
   have:=zdS hc hc2 ht
   exact .inr ⟨zP.app2 h1 this.1,this.2⟩
 ·have:=yl h2 (c:=c) (by omega) hc3
  exact .inr ⟨by rw [this.2.1];exact h1.app _,this.2.2⟩
theorem xX.num {s:ByteArray} {k0 k:Nat} {l:List FR} {b:Bool} {G:List SG->Prop} (h:xX s k0 l k b G) (hk:k<=s.size) (kd d li:Int) :
 Run s k0 (l++[⟨261,kd,d,li⟩]) (zo s k b) (zw s k b) (fun U=>∃ V,U=V++[⟨kd,T.sk s k,d,li,s.extract (T.sk s k) (zo s k b)⟩]/\G V/\b=false/\T.sk s k<zo s k b/\X8 (s.extract (T.sk s k) (zo s k b)) (zJ s k b)):=by
 rcases h with ⟨U,h1,rfl,h3⟩ | ⟨h1,rfl⟩
 ·rcases zek hk kd d li with ⟨a1,a2,a3⟩ | ⟨a1,a2⟩
  ·exact .inl ⟨U++[⟨kd,T.sk s k,d,li,s.extract (T.sk s k) (zo s k false)⟩],by have:=h1.app a1;rw [List.reverse_append];exact this,a2,U,rfl,h3,rfl,a3,zcH hk a3⟩
  ·exact .inr ⟨zP.app2 h1 a1,a2⟩
 ·have:=zax s k
  exact .inr ⟨by rw [this.1];exact h1.app _,.inl this.2⟩
theorem Jg (s:ByteArray) (k:Nat):btK s k true=k/\btX s k true=true:=by
 refine ⟨?_,jm rfl⟩
 unfold btK
 have:zb s k true=k:=rfl
 rw [this]
 simp [btF,Yv,bit]
theorem xX.bits {s:ByteArray} {k0 k:Nat} {l:List FR} {b:Bool} {G:List SG->Prop} (h:xX s k0 l k b G) (hk:k<=s.size) (kd d li:Int) :
 Run s k0 (l++[⟨262,kd,d,li⟩]) (btK s k b) (btX s k b) (fun U=>∃ V,U=V++[⟨kd,T.sk s k,d,li,s.extract (T.sk s k) (btK s k b)⟩]/\G V/\b=false/\T.sk s k<btK s k b/\zdP (s.extract (T.sk s k) (btK s k b)) (btV s k b) (btL s k b)):=by
 rcases h with ⟨U,h1,rfl,h3⟩ | ⟨h1,rfl⟩
 ·rcases zeR hk kd d li with ⟨a1,a2,a3⟩ | ⟨a1,a2⟩
  ·exact .inl ⟨U++[⟨kd,T.sk s k,d,li,s.extract (T.sk s k) (btK s k false)⟩],by have:=h1.app a1;rw [List.reverse_append];exact this,a2,U,rfl,h3,rfl,a3,zdt hk a3⟩
  ·exact .inr ⟨zP.app2 h1 a1,a2⟩
 ·have:=Jg s k
  exact .inr ⟨by rw [this.1];exact h1.app _,.inl this.2⟩
theorem Run.letter {s:ByteArray} {k0 k:Nat} {l:List FR} {b:Bool} {G:List SG->Prop} (h:Run s k0 l k b G) (kd d li:Int) :
 xX s k0 (l++[⟨263,kd,d,li⟩]) (zQ s k b) (zX s k b) (fun U=>∃ V,U=V++[⟨kd,T.sk s k,d,li,s.extract (T.sk s k) (T.sk s k+1)⟩]/\G V/\b=false/\zQ s k b=T.sk s k+1/\Jl (s.extract (T.sk s k) (T.sk s k+1)) (ze s (zb s k b) b)):=by
 rcases h with ⟨U,h1,rfl,h3⟩ | ⟨h1,h2⟩
 ·rcases zeq s k kd d li with ⟨a1,a2,a3,a4⟩ | ⟨a1,a2⟩
  ·exact .inl ⟨U++[⟨kd,T.sk s k,d,li,s.extract (T.sk s k) (T.sk s k+1)⟩],by have:=h1.app a1;rw [List.reverse_append];exact this,a2,U,rfl,h3,rfl,a3,a4⟩
  ·exact .inr ⟨zP.app2 h1 a1,a2⟩
 ·have:=j7 h2
  exact .inr ⟨by rw [this.1];exact h1.app _,this.2⟩
theorem Run.expr {s:ByteArray} {rs:List RL} {ex:Int->Nat->Nat->Bool->CR} {n k0 k:Nat} {l:List FR} {b:Bool} {G:List SG->Prop} (h:Run s k0 l k b G) (hX:ExP s rs ex n) (hD:ExD s ex) (hk:k<=s.size) (d:Int) (hd:0<=d) (m:Nat) (hn:s.size-k<n) :
 Run s k0 (l++[⟨258,0,d,0⟩]) (ex d m k b).k (ex d m k b).b (fun U=>∃ V W,U=V++W/\G V/\b=false/\0<=(ex d m k b).idx/\GU rs k (ex d m k b).k W (ex d m k b).es):=by
 rcases h with ⟨U,h1,rfl,h3⟩ | ⟨h1,h2⟩
 ·rcases hX d m k hd hk hn with ⟨W,a1,a2,a3,a4⟩ | ⟨a1,a2⟩
  ·exact .inl ⟨U++W,by have:=h1.app a1;rw [List.reverse_append];exact this,a2,U,W,rfl,h3,rfl,a3,a4⟩
  ·exact .inr ⟨zP.app2 h1 a1,a2⟩
 ·have e:=hD d m k b h2
  rw [e]
  exact .inr ⟨h1.app _,.inl rfl⟩
theorem zeX {rs:List RL} {P:List SG} {pl d v:Int} {t:ByteArray} (h:X8 t v) (err:Int):Er rs P ⟨5,pl,d,-1,t⟩ err↔(v<1\/1000<v)/\err=6:=by
 rw [xc rfl]
 have:=h.nn
 simp [h.vl,zR]
 constructor
 ·rintro ⟨b,a⟩;exact ⟨by omega,b⟩
 ·rintro ⟨b,a⟩;exact ⟨a,by omega⟩
theorem G1.mk1 {rs:List RL} {c p:Int} {k k':Nat} {g0:SG} {x:IM} (hc:yo c) (h119:c≠119) (hp:p≠-1) (hx:0<=x.num) (gx:GX c p g0 x) (w0:(k:Int)<=g0.place/\g0.place<k'):G1 rs c p k k' g0 [] [] x :=
 ⟨gx,w0,by simp,by simp,fun P pre _ hC err a=>by
  simp only [FU,or_false]
  rw [jr hp gx hC,jq hc pre x hx,gx.pl]
  constructor
  ·intro h;exact .inr (.inl h)
  ·rintro (h | h | h)
   ·exact absurd h (zdM _ _)
   ·exact h
   ·exact absurd h.1 h119⟩
theorem G1.mkArm {rs:List RL} {c p:Int} {k kw k':Nat} {g0:SG} {x:IM} {U:List SG} {es:List EX} (hc:yo c) (h119:c≠119) (hp:p≠-1) (hpk:p<k) (hx:0<=x.num) (gx:GX c p g0 x) (w0:(k:Int)<=g0.place/\g0.place<kw) (hkk:kw<=k') (hkw:k<=kw) (hU:GU rs kw k' U es):G1 rs c p k k' g0 U es x :=
 ⟨gx,⟨w0.1,by omega⟩,fun g hg=>by
  have:=hU.wl g hg
  exact ⟨by omega,this.2.1,this.2.2.1.imp (fun h=>h) (fun h=>⟨by omega,h.2⟩),this.2.2.2⟩,hU.st,fun P pre hP hC err a=>by
  simp only [FU]
  rw [jr hp gx hC,jq hc pre x hx,gx.pl,hU.fu (P++[g0]) (fun y hy=>by
   rcases List.mem_append.1 hy with hy | hy
   ·have:=hP y hy;omega
   ·simp at hy;subst hy;rw [gx.li];omega) err a]
  constructor
  ·rintro (h | h)
   ·exact .inr (.inl h)
   ·exact .inl h
  ·rintro (h | h | h)
   ·exact .inr h
   ·exact .inl h
   ·exact absurd h.1 h119⟩
theorem zcV {s:ByteArray} {rs:List RL} {ex:Int->Nat->Nat->Bool->CR} {n:Nat} (hX:ExP s rs ex n) (hD:ExD s ex) (hM:ZK ex s) {c:Int} (hc:yo c) (d:Int) (m k p:Nat) (h0:0<=d) (hk:k<=s.size) (hn:s.size-k<n) (hp:p<k) :
 Run s k [⟨259,kf c,d,p⟩] (zv ex s c d m k false).k (zv ex s c d m k false).b (fun V=>∃ g0 rest,V=g0::rest/\G1 rs c p k (zv ex s c d m k false).k g0 rest (zv ex s c d m k false).es (zv ex s c d m k false).im):=by
 have j:=T.sk_le hk
 have H:=T.sk_ge s k
 have f:=YU s k
 have x:∀ (kk:Nat) (bb:Bool) (G:List SG->Prop),Run s (T.sk s k) (Zy ⟨259,kf c,d,p⟩) kk bb G->Run s k [⟨259,kf c,d,p⟩] kk bb G:=fun kk bb G h=>by
  rcases h with ⟨U,w,l,i⟩ | ⟨w,l⟩
  ·exact .inl ⟨U,zcU w,l,i⟩
  ·exact .inr ⟨zet w,l⟩
 refine x _ _ _ ?_
 have q:(p:Int)≠-1:=by omega
 have u:=xX.nil s (T.sk s k)
 rcases hc with rfl | rfl | rfl | rfl | rfl
 ·have e:zv ex s 123 d m k false=⟨⟨T.sk s k,zJ s (T.sk s k) false,0,0,0,0,-1⟩,[],zo s (T.sk s k) false,zw s (T.sk s k) false⟩:=by unfold zv;rw [zl];rfl
  rw [e]
  refine (u.num j 4 0 p).mono fun _ U hU=>?_
  obtain ⟨V,rfl,rfl,_,l,i⟩:=hU
  rw [f] at l i
  exact ⟨_,[],rfl,G1.mk1 (.inl rfl) (by decide) q i.nn ⟨rfl,rfl,by simp only [f],.inr ⟨by decide,by rw [f];exact i,rfl,rfl⟩⟩ (by simp only [f];omega)⟩
 ·have e:zv ex s 102 d m k false=⟨⟨T.sk s k,zJ s (T.sk s k) false,0,0,0,0,-1⟩,[],zo s (T.sk s k) false,zw s (T.sk s k) false⟩:=by unfold zv;rw [zl];rfl
  rw [e]
  refine (u.num j 4 0 p).mono fun _ U hU=>?_
  obtain ⟨V,rfl,rfl,_,l,i⟩:=hU
  rw [f] at l i
  exact ⟨_,[],rfl,G1.mk1 (.inr (.inl rfl)) (by decide) q i.nn ⟨rfl,rfl,by simp only [f],.inr ⟨by decide,by rw [f];exact i,rfl,rfl⟩⟩ (by simp only [f];omega)⟩
 ·have e:zv ex s 119 d m k false=⟨⟨T.sk s k,zJ s (T.sk s k) false,0,0,zJ s (zc s 42 (zo s (T.sk s k) false) (zw s (T.sk s k) false)) (zj s 42 (zo s (T.sk s k) false) (zw s (T.sk s k) false)),zb s (zc s 42 (zo s (T.sk s k) false) (zw s (T.sk s k) false)) (zj s 42 (zo s (T.sk s k) false) (zw s (T.sk s k) false)),-1⟩,[],zo s (zc s 42 (zo s (T.sk s k) false) (zw s (T.sk s k) false)) (zj s 42 (zo s (T.sk s k) false) (zw s (T.sk s k) false)),zw s (zc s 42 (zo s (T.sk s k) false) (zw s (T.sk s k) false)) (zj s 42 (zo s (T.sk s k) false) (zw s (T.sk s k) false))⟩:=by unfold zv;rw [zl];rfl
  rw [e]
  have r:=ya (b:=false) j
  have o:zc s 42 (zo s (T.sk s k) false) (zw s (T.sk s k) false)<=s.size:=zs (by decide) r
  have y:=zi s 42 (zo s (T.sk s k) false) (zw s (T.sk s k) false)
  have z:=(((u.num j 4 0 p).want 42 (by decide) (by decide) (by decide)).num o 5 0 (-1))
  generalize zc s 42 (zo s (T.sk s k) false) (zw s (T.sk s k) false)=k2 at *
  generalize zj s 42 (zo s (T.sk s k) false) (zw s (T.sk s k) false)=b2 at *
  refine z.mono fun _ U hU=>?_
  obtain ⟨V,rfl,⟨⟨E,rfl,rfl,_,l,i⟩,_⟩,rfl,C,A⟩:=hU
  rw [f] at l i
  have F:=T.sk_ge s k2
  have D:GX 119 (p:Int) ⟨4,T.sk s (T.sk s k),0,p,s.extract (T.sk s (T.sk s k)) (zo s (T.sk s k) false)⟩ ⟨T.sk s k,zJ s (T.sk s k) false,0,0,zJ s k2 false,zb s k2 false,-1⟩:=⟨rfl,rfl,by simp only [f],.inr ⟨by decide,by rw [f];exact i,rfl,rfl⟩⟩
  refine ⟨_,[_],rfl,D,by simp only [f];omega,fun g hg=>?_,by simp,fun P pre hP hC err a=>?_⟩
  ·simp at hg
   subst hg
   simp only [f]
   exact ⟨by omega,by omega,.inl trivial,KD.of (by simp) (by simp)⟩
  ·simp only [FU,or_false]
   rw [jr q D hC,jq (.inr (.inr (.inl rfl))) pre _ i.nn,zeX A]
   simp only [f,zl]
   constructor
   ·rintro (h | ⟨w,l,i⟩)
    ·exact .inr (.inl h)
    ·exact .inr (.inr ⟨trivial,l,i,w⟩)
   ·rintro (h | h | ⟨_,w,l,i⟩)
    ·exact absurd h (zdM _ _)
    ·exact .inl h
    ·exact .inr ⟨i,w,l⟩
 ·have e:zv ex s 103 d m k false=⟨⟨T.sk s k,zJ s (T.sk s k) false,0,0,0,0,(ex (d+1) m (zc s 58 (zo s (T.sk s k) false) (zw s (T.sk s k) false)) (zj s 58 (zo s (T.sk s k) false) (zw s (T.sk s k) false))).idx⟩,(ex (d+1) m (zc s 58 (zo s (T.sk s k) false) (zw s (T.sk s k) false)) (zj s 58 (zo s (T.sk s k) false) (zw s (T.sk s k) false))).es,(ex (d+1) m (zc s 58 (zo s (T.sk s k) false) (zw s (T.sk s k) false)) (zj s 58 (zo s (T.sk s k) false) (zw s (T.sk s k) false))).k,(ex (d+1) m (zc s 58 (zo s (T.sk s k) false) (zw s (T.sk s k) false)) (zj s 58 (zo s (T.sk s k) false) (zw s (T.sk s k) false))).b⟩:=by unfold zv;rw [zl];rfl
  rw [e]
  have r:=ya (b:=false) j
  have o:zc s 58 (zo s (T.sk s k) false) (zw s (T.sk s k) false)<=s.size:=zs (by decide) r
  have y:=zi s 58 (zo s (T.sk s k) false) (zw s (T.sk s k) false)
  have B:=z5 (b:=false) j
  have z:=(((u.num j 7 0 p).want 58 (by decide) (by decide) (by decide)).run).expr hX hD o (d+1) (by omega) m (by omega)
  have v:=hM (d+1) m (zc s 58 (zo s (T.sk s k) false) (zw s (T.sk s k) false)) (zj s 58 (zo s (T.sk s k) false) (zw s (T.sk s k) false)) o
  generalize zc s 58 (zo s (T.sk s k) false) (zw s (T.sk s k) false)=k2 at *
  generalize zj s 58 (zo s (T.sk s k) false) (zw s (T.sk s k) false)=b2 at *
  refine z.mono fun _ U hU=>?_
  obtain ⟨V,W,rfl,⟨⟨E,rfl,rfl,_,l,i⟩,_⟩,rfl,C,A⟩:=hU
  rw [f] at l i
  exact ⟨_,W,rfl,G1.mkArm (.inr (.inr (.inr (.inl rfl)))) (by decide) q (by omega) i.nn ⟨rfl,rfl,by simp only [f],.inr ⟨by decide,by rw [f];exact i,rfl,rfl⟩⟩ (by simp only [f];omega) v.1 (by omega) A⟩
 ·have e:zv ex s 109 d m k false=⟨⟨T.sk s k,0,btV s (T.sk s k) false,btL s (T.sk s k) false,0,0,(ex (d+1) m (zc s 58 (btK s (T.sk s k) false) (btX s (T.sk s k) false)) (zj s 58 (btK s (T.sk s k) false) (btX s (T.sk s k) false))).idx⟩,(ex (d+1) m (zc s 58 (btK s (T.sk s k) false) (btX s (T.sk s k) false)) (zj s 58 (btK s (T.sk s k) false) (btX s (T.sk s k) false))).es,(ex (d+1) m (zc s 58 (btK s (T.sk s k) false) (btX s (T.sk s k) false)) (zj s 58 (btK s (T.sk s k) false) (btX s (T.sk s k) false))).k,(ex (d+1) m (zc s 58 (btK s (T.sk s k) false) (btX s (T.sk s k) false)) (zj s 58 (btK s (T.sk s k) false) (btX s (T.sk s k) false))).b⟩:=by unfold zv;rw [zl];rfl
  rw [e]
  have r:=xS (b:=false) j
  have o:zc s 58 (btK s (T.sk s k) false) (btX s (T.sk s k) false)<=s.size:=zs (by decide) r
  have y:=zi s 58 (btK s (T.sk s k) false) (btX s (T.sk s k) false)
  have B:=xT (b:=false) j
  have z:=(((u.bits j 9 0 p).want 58 (by decide) (by decide) (by decide)).run).expr hX hD o (d+1) (by omega) m (by omega)
  have v:=hM (d+1) m (zc s 58 (btK s (T.sk s k) false) (btX s (T.sk s k) false)) (zj s 58 (btK s (T.sk s k) false) (btX s (T.sk s k) false)) o
  generalize zc s 58 (btK s (T.sk s k) false) (btX s (T.sk s k) false)=k2 at *
  generalize zj s 58 (btK s (T.sk s k) false) (btX s (T.sk s k) false)=b2 at *
  refine z.mono fun _ U hU=>?_
  obtain ⟨V,W,rfl,⟨⟨E,rfl,rfl,_,l,i⟩,_⟩,rfl,C,A⟩:=hU
  rw [f] at l i
  exact ⟨_,W,rfl,G1.mkArm (.inr (.inr (.inr (.inr rfl)))) (by decide) q (by omega) (Int.le_refl _) ⟨rfl,rfl,by simp only [f],.inl ⟨rfl,rfl,by rw [f];exact i⟩⟩ (by simp only [f];omega) v.1 (by omega) A⟩
theorem Qt (s:ByteArray) (k:Nat) (kd d p:Int):zm s k ⟨260,kd,d,p⟩=⟨true,T.sk s k,if T.ch s (T.sk s k)=44 then [byF 44,⟨259,kd,d,p⟩,⟨260,kd,d,p⟩] else [],[]⟩:=by
 unfold zm
 simp only
 rw [if_neg (by decide),if_neg (by decide),if_neg (by decide),if_neg (by decide),if_pos trivial]
theorem Jq {s:ByteArray} {k:Nat}:zZ s 44 k false=true↔T.ch s (T.sk s k)=44:=by
 unfold zZ
 rw [zl,yZ,beq_iff_eq]
 by_cases h:T.sk s k<s.size
 ·rw [if_pos h]
 ·rw [if_neg h,T.ch_ge h];omega
theorem G1.gi {rs:List RL} {c p:Int} {k k1 k':Nat} {g0:SG} {rest:List SG} {es:List EX} {x:IM} (h:G1 rs c p k k1 g0 rest es x) (hkk:k1<=k'):GI rs c p k k' (g0::rest) es [x] :=
 ⟨fun g hg=>by
  rcases List.mem_cons.1 hg with rfl | hg
  ·exact ⟨h.w0.1,by have:=h.w0.2;omega,.inr (.inl h.gx.li),KD.of (by rw [h.gx.ki];exact (zcL c).1) (by rw [h.gx.ki];exact (zcL c).2.1)⟩
  ·have b:=h.wl g hg
   have d:=h.w0.1
   exact ⟨by omega,by omega,b.2.2.1.imp (fun h=>h) (fun h=>.inr ⟨h.1,by omega⟩),b.2.2.2⟩,
  List.pairwise_cons.2 ⟨fun g hg=>(h.wl g hg).1,h.st⟩,
  fun P pre hP hC err a=>by rw [h.fu P pre hP hC err a];simp [FIs]⟩
theorem GI.cons {rs:List RL} {c:Int} {p:Nat} {k k1 k2 k':Nat} {g0:SG} {rest U:List SG} {es fs:List EX} {x:IM} {xs:List IM} (h:G1 rs c p k k1 g0 rest es x) (hpk:p<k) (h12:k1<=k2) (hk2:k<=k2) (h23:k2<=k') (h2:GI rs c p k2 k' U fs xs):GI rs c p k k' ((g0::rest)++U) (es++fs) (x::xs):=by
 have d:=h.gi (Nat.le_refl k1)
 refine ⟨fun g hg=>?_,?_,fun P pre hP hC err a=>?_⟩
 ·rcases List.mem_append.1 hg with hg | hg
  ·have e:=d.wl g hg
   exact ⟨e.1,by omega,e.2.2.1.imp (fun h=>h) (fun h=>h.imp (fun h=>h) (fun h=>⟨h.1,by omega⟩)),e.2.2.2⟩
  ·have e:=h2.wl g hg
   exact ⟨by omega,e.2.1,e.2.2.1.imp (fun h=>h) (fun h=>h.imp (fun h=>h) (fun h=>⟨by omega,h.2⟩)),e.2.2.2⟩
 ·refine List.pairwise_append.2 ⟨d.st,h2.st,fun a ha b hb=>?_⟩
  have i:=(d.wl a ha).2.1
  have f:=(h2.wl b hb).1
  omega
 ·rw [zdK,h.fu P pre hP hC err a,h2.fu (P++(g0::rest)) (pre++[x]) (fun y hy=>?_) (hC.step h.gx (fun y hy=>?_)) err a,xY]
  ·simp only [FIs]
   constructor
   ·rintro ((h | h) | (h | h))
    ·exact .inl (.inl h)
    ·exact .inr (.inl h)
    ·exact .inl (.inr h)
    ·exact .inr (.inr h)
   ·rintro ((h | h) | (h | h))
    ·exact .inl (.inl h)
    ·exact .inr (.inl h)
    ·exact .inl (.inr h)
    ·exact .inr (.inr h)
  ·rcases List.mem_append.1 hy with hy | hy
   ·have:=hP y hy;omega
   ·rcases (d.wl y hy).2.2.1 with h | h | h<;>omega
  ·rcases (h.wl y hy).2.2.1 with h | h<;>omega
theorem zbk {s:ByteArray} {rs:List RL} {ex:Int->Nat->Nat->Bool->CR} {n:Nat} (hX:ExP s rs ex n) (hD:ExD s ex) (hM:ZK ex s) {c:Int} (hc:yo c) (d:Int) (p:Nat) (h0:0<=d):∀ (N m k:Nat),k<=s.size->s.size+1<=N+k->s.size-k<n->p<k ->
 Run s k [⟨259,kf c,d,p⟩,⟨260,kf c,d,p⟩] (zd ex s c d N m k false).k (zd ex s c d N m k false).b (fun U=>GI rs c p k (zd ex s c d N m k false).k U (zd ex s c d N m k false).es (zd ex s c d N m k false).ims):=by
 intro N
 induction N with
 | zero=>intro m k A z;omega
 | succ N ih =>
  intro m k y G D x
  have A:=zcV hX hD hM hc d m k p h0 y D x
  have v:=Zk hM c d m k false y
  simp only [zd]
  generalize zv ex s c d m k false=it at *
  rcases A with ⟨V,a1,a2,g0,rest,rfl,a3⟩ | ⟨a1,a2⟩
  ·rw [a2]
   have r:=zi s 44 it.k false
   have g:zc s 44 it.k false<=s.size:=zs (by decide) v.2.1
   cases ht:zZ s 44 it.k false with
   | false =>
    have u:¬ T.ch s (T.sk s it.k)=44:=fun h=>by rw [Jq.2 h] at ht;cases ht
    have e:zc s 44 it.k false=T.sk s it.k:=by unfold zc;rw [if_neg (by rw [ht];decide),zl]
    have a:=Qt s it.k (kf c) d p
    rw [if_neg u] at a
    have z:Par s it.k [⟨260,kf c,d,p⟩] true (zc s 44 it.k false) []:=by
     have:=Par.step (s:=s) (k:=it.k) (f:=⟨260,kf c,d,p⟩) (ok:=true) (b:=T.sk s it.k) (sg2:=[]) (by rw [a]) (by rw [a];exact Par.nil _ _)
     rw [a] at this
     rw [e];exact this
    exact .inl ⟨g0::rest,by have:=a1.app z;simpa using this,rfl,a3.gi r⟩
   | true =>
    have j:=Jq.1 ht
    have a:=Qt s it.k (kf c) d p
    rw [if_pos j] at a
    have B:it.k+1<=zc s 44 it.k false:=by
     unfold zc;rw [if_pos ht];have:=yg s it.k false;omega
    have i:zZ s 44 (T.sk s it.k) false=true:=Jq.2 (by rw [YU];exact j)
    have F:zc s 44 (T.sk s it.k) false=zc s 44 it.k false:=by unfold zc;rw [if_pos ht,if_pos i,zl,zl,YU]
    have o:=(x7 (s:=s) (k:=T.sk s it.k) (c:=44) (by decide) (by decide) i).1
    rw [F] at o
    have E:=ih (m+it.es.length) (zc s 44 it.k false) g (by omega) (by omega) (by omega)
    have C:=zN hM c d N (m+it.es.length) (zc s 44 it.k false) false g
    generalize zd ex s c d N (m+it.es.length) (zc s 44 it.k false) false=q at *
    generalize zc s 44 it.k false=k2 at *
    simp only [if_true]
    rcases E with ⟨U,b1,b2,b3⟩ | ⟨b1,b2⟩
    ·have w:=o.cons b1
     have l:=Par.step (s:=s) (k:=it.k) (f:=⟨260,kf c,d,p⟩) (ok:=true) (b:=q.k) (sg2:=U.reverse++[]) (by rw [a]) (by rw [a];exact w)
     rw [a] at l
     refine .inl ⟨(g0::rest)++U,?_,b2,GI.cons a3 x (by omega) (by omega) C.1 b3⟩
     have:=a1.app l
     rw [List.reverse_append]
     simpa using this
    ·have w:=zP.after o b1
     have l:=zP.step (s:=s) (k:=it.k) (f:=⟨260,kf c,d,p⟩) (by rw [a]) (by rw [a];exact w)
     exact .inr ⟨zP.app2 a1 l,b2⟩
  ·have:=yl a2 (c:=44) (by decide) (by decide)
   rw [this.1]
   simp only [Bool.false_eq_true,if_false]
   rw [this.2.1]
   exact .inr ⟨a1.app [⟨260,kf c,d,p⟩],a2⟩
theorem zdy {s:ByteArray} {ex:Int->Nat->Nat->Bool->CR} (hD:ExD s ex) {c:Int} (hc:yo c) (d:Int) (m k:Nat):(zv ex s c d m k true).k=k/\(zv ex s c d m k true).b=true:=by
 have f:zb s k true=k:=rfl
 have e:=zax s k
 have i:=Jg s k
 have h:Qg s k true:=.inl rfl
 have a:=yl h (c:=58) (by decide) (by decide)
 have g:=yl h (c:=42) (by decide) (by decide)
 rcases hc with rfl | rfl | rfl | rfl | rfl
 ·simp [zv,f,e.1,e.2]
 ·simp [zv,f,e.1,e.2]
 ·simp [zv,f,e.1,e.2,g.2.1,g.2.2]
 ·simp [zv,f,e.1,e.2,a.2.1,a.2.2,hD (d+1) m k true h]
 ·simp [zv,f,i.1,i.2,a.2.1,a.2.2,hD (d+1) m k true h]
theorem zbT {s:ByteArray} {ex:Int->Nat->Nat->Bool->CR} (hD:ExD s ex) {c:Int} (hc:yo c) (d:Int) (N m k:Nat):(zd ex s c d N m k true).k=k/\(zd ex s c d N m k true).b=true:=by
 cases N with
 | zero=>exact ⟨rfl,rfl⟩
 | succ N =>
  have e:=zdy hD hc d m k
  have a:=yl (s:=s) (k:=k) (b:=true) (c:=44) (.inl rfl) (by decide) (by decide)
  simp only [zd,e.1,e.2,a.1]
  simp [a.2.1]
theorem xX.items {s:ByteArray} {rs:List RL} {ex:Int->Nat->Nat->Bool->CR} {n k0 k:Nat} {l:List FR} {b:Bool} {G:List SG->Prop} (h:xX s k0 l k b G) (hX:ExP s rs ex n) (hD:ExD s ex) (hM:ZK ex s) {c:Int} (hc:yo c) (hk:k<=s.size) (d:Int) (hd:0<=d) (p m:Nat) (hp:p<k) (hn:s.size-k<n) :
 Run s k0 (l++[⟨259,kf c,d,p⟩,⟨260,kf c,d,p⟩]) (zd ex s c d (s.size+1-k) m k b).k (zd ex s c d (s.size+1-k) m k b).b (fun U=>∃ V W,U=V++W/\G V/\b=false/\GI rs c p k (zd ex s c d (s.size+1-k) m k b).k W (zd ex s c d (s.size+1-k) m k b).es (zd ex s c d (s.size+1-k) m k b).ims):=by
 rcases h with ⟨U,h1,rfl,h3⟩ | ⟨h1,rfl⟩
 ·rcases zbk hX hD hM hc d p hd (s.size+1-k) m k hk (by omega) hn hp with ⟨W,a1,a2,a3⟩ | ⟨a1,a2⟩
  ·exact .inl ⟨U++W,by have:=h1.app a1;rw [List.reverse_append];exact this,a2,U,W,rfl,h3,rfl,a3⟩
  ·exact .inr ⟨zP.app2 h1 a1,a2⟩
 ·have e:=zbT hD hc d (s.size+1-k) m k
  exact .inr ⟨by rw [e.1];exact h1.app _,.inl e.2⟩
theorem Yx {s:ByteArray} {k kk:Nat} {d:Int} {bb:Bool} {l:List FR} {G:List SG->Prop} (hl:Yi d (T.sk s k) (T.ch s (T.sk s k))=some l) (h:Run s (T.sk s k) l kk bb G):Run s k [⟨258,0,d,0⟩] kk bb (fun V=>∃ U,V=⟨3,T.sk s k,d,-1,ByteArray.empty⟩::U/\G U):=by
 have a:zm s k ⟨258,0,d,0⟩=⟨true,T.sk s k,l,[⟨3,T.sk s k,d,-1,ByteArray.empty⟩]⟩:=by
  unfold zm
  simp only
  rw [if_neg (by decide),if_neg (by decide),if_pos trivial,hl]
 rcases h with ⟨U,h1,h2,h3⟩ | ⟨h1,h2⟩
 ·have:=Par.step (s:=s) (k:=k) (f:=⟨258,0,d,0⟩) (ok:=true) (b:=kk) (sg2:=U.reverse) (by rw [a]) (by rw [a];exact h1)
  rw [a] at this
  exact .inl ⟨_::U,by rw [List.reverse_cons];exact this,h2,U,rfl,h3⟩
 ·exact .inr ⟨zP.step (s:=s) (k:=k) (f:=⟨258,0,d,0⟩) (by rw [a]) (by rw [a];exact h1),h2⟩
theorem zbx {s:ByteArray} {k:Nat} {d:Int} (hl:Yi d (T.sk s k) (T.ch s (T.sk s k))=none):zP s k [⟨258,0,d,0⟩] (T.sk s k):=by
 have a:zm s k ⟨258,0,d,0⟩=⟨false,T.sk s k,[],[]⟩:=by
  unfold zm
  simp only
  rw [if_neg (by decide),if_neg (by decide),if_pos trivial,hl]
 have:=zP.stop (s:=s) (k:=k) (f:=⟨258,0,d,0⟩) (by rw [a])
 rw [a] at this
 exact this
theorem Z9 {s:ByteArray} {p:Nat} {c:Int} (hc:0<c) (hc2:c<256) (hp:T.sk s p=p) (hlt:p<s.size) (h:T.ch s p=c):xX s p [byF c] (p+1) false (fun U=>U=[]):=by
 have b:zZ s c p false=true:=by unfold zZ;rw [zl,hp,yZ,if_pos hlt,h];simp
 have a:=(x7 hc hc2 b).1
 have e:zc s c p false=p+1:=by unfold zc;rw [if_pos b,zl,hp]
 rw [e] at a
 exact .inl ⟨[],a,rfl,rfl⟩
theorem Er3 {rs:List RL} {P:List SG} {pl d:Int} (err:Int):Er rs P ⟨3,pl,d,-1,ByteArray.empty⟩ err↔err=3/\12<=d:=by
 rw [xc rfl];simp [zR]
theorem Er8 {rs:List RL} {P:List SG} {pl d v:Int} {t:ByteArray} (h:X8 t v) (err:Int):Er rs P ⟨8,pl,d,-1,t⟩ err↔(v<0\/15<v)/\err=6:=by
 rw [xc rfl]
 have:=h.nn
 simp [h.vl,zR]
 constructor
 ·rintro ⟨b,a⟩;exact ⟨by omega,b⟩
 ·rintro ⟨b,a⟩;exact ⟨a,by omega⟩
theorem Er6 {rs:List RL} {P:List SG} {pl d v:Int} {t:ByteArray} (h:X8 t v) (err:Int):Er rs P ⟨6,pl,d,-1,t⟩ err↔(v<1\/86400<v)/\err=6:=by
 rw [xc rfl]
 have:=h.nn
 simp [h.vl,zR]
 constructor
 ·rintro ⟨b,a⟩;exact ⟨by omega,b⟩
 ·rintro ⟨b,a⟩;exact ⟨a,by omega⟩
theorem Er2 {rs:List RL} {P:List SG} {pl d v:Int} {t:ByteArray} (h:Jl t v) (err:Int):Er rs P ⟨2,pl,d,-1,t⟩ err↔yn v rs=-1/\err=5:=by
 rw [xc rfl]
 simp [h.vl,zR]
 constructor
 ·rintro ⟨b,a⟩;exact ⟨a,b⟩
 ·rintro ⟨b,a⟩;exact ⟨a,b⟩
theorem GU.of3 {rs:List RL} {k p k':Nat} {d:Int} {W:List SG} {es:List EX} {H:Int->Int->Prop} (hkp:k<=p) (hpk:p<k')
 (hW:∀ g∈W,(p:Int)<g.place/\g.place<k'/\(g.list=-1\/((k:Int)<=g.list/\g.list<k'))/\KD g) (hst:W.Pairwise (fun a b=>a.place<b.place))
 (hfu:∀ P:List SG,(∀ x∈P,x.list<(k:Int))->∀ err a,FU rs (P++[⟨3,p,d,-1,ByteArray.empty⟩]) W err a↔H err a) (hes:∀ err a,FE es err a↔(12<=d/\err=3/\a=p)\/H err a):GU rs k k' (⟨3,p,d,-1,ByteArray.empty⟩::W) es :=
 ⟨fun g hg=>by
  rcases List.mem_cons.1 hg with rfl | hg
  ·exact ⟨by simp only;omega,by simp only;omega,.inl rfl,KD.of (by simp) (by simp)⟩
  ·have:=hW g hg
   exact ⟨by omega,this.2.1,this.2.2.1,this.2.2.2⟩,
  List.pairwise_cons.2 ⟨fun g hg=>(hW g hg).1,hst⟩,
  fun P hP err a=>by
   simp only [FU]
   rw [Er3,hfu P hP,hes]
   constructor
   ·rintro (⟨i,f,e⟩ | h)
    ·exact .inl ⟨e,f,i⟩
    ·exact .inr h
   ·rintro (⟨i,f,e⟩ | h)
    ·exact .inl ⟨e,f,i⟩
    ·exact .inr h⟩
theorem QP {e:EX} (h1:e.kind≠116) (h2:e.kind≠64) (h3:e.kind≠61) (err a:Int):FEx e err a↔12<=e.depth/\err=3/\a=e.at_:=by
 unfold FEx
 simp [h1,h2,h3]
theorem zeE {P:List SG} {k:Nat} {p d:Int} (h:∀ x∈P,x.list<(k:Int)):∀ x∈P++[(⟨3,p,d,-1,ByteArray.empty⟩:SG)],x.list<(k:Int):=fun x hx=>by
 rcases List.mem_append.1 hx with hx | hx
 ·exact h x hx
 ·simp at hx;subst hx;simp only;omega
theorem zc7 (s:ByteArray) (rs:List RL):∀ n,ExP s rs (cE s rs n) n:=by
 intro n
 induction n with
 | zero=>intro d m k _ _ h;omega
 | succ n ih =>
  intro d m k hd hk hn
  have K:ExD s (cE s rs n):=fun d m k b h=>QF h
  have F:=yK s rs n
  show Run s k [⟨258,0,d,0⟩] (cE s rs (n+1) d m k false).k (cE s rs (n+1) d m k false).b (fun U=>0<=(cE s rs (n+1) d m k false).idx/\GU rs k (cE s rs (n+1) d m k false).k U (cE s rs (n+1) d m k false).es)
  have y:=T.sk_ge s k
  have a0:=T.sk_le hk
  have v:=YU s k
  cases hK:isK (ze s (zb s k false) false) with
  | false =>
   rw [Ja n d m k false hK]
   refine .inr ⟨?_,.inl rfl⟩
   simp only [zl]
   refine zbx ?_
   rw [zl,yZ] at hK
   have:∀ c,isK c=false->Yi d (T.sk s k) c=none:=fun c i=>by
    simp [isK] at i
    simp [Yi,i]
   refine this _ ?_
   by_cases h:T.sk s k<s.size
   ·rw [if_pos h] at hK;exact hK
   ·rw [T.ch_ge h];rfl
  | true =>
   have D:=(Zh hK).2
   have p:T.sk s k<s.size:=by rw [zl] at D;exact D
   have Q:ze s (zb s k false) false=T.ch s (T.sk s k):=by rw [zl,yZ,if_pos p]
   obtain ⟨c,i⟩:∃ c,T.ch s (T.sk s k)=c:=⟨_,rfl⟩
   have q:ze s (zb s k false) false=c:=Q.trans i
   rw [q] at hK
   have J:c=123\/c=116\/c=64\/c=61\/(c=119\/c=102\/c=109\/c=103):=by
    simp [isK] at hK
    omega
   have w:=zl s k
   rcases J with rfl | rfl | rfl | rfl | J
   ·have A:=((((Z9 (by decide) (by decide) v p i).items ih K F (c:=123) (.inl rfl) (by omega) d hd (T.sk s k) m (by omega) (by omega))).want 125 (by decide) (by decide) (by decide)).run
    have B:=Yx (d:=d) (by rw [i];rfl) A
    rw [YP n d m k false q,w]
    have I:=zN F 123 d (s.size+1-(T.sk s k+1)) m (T.sk s k+1) false (by omega)
    generalize zd (cE s rs n) s 123 d (s.size+1-(T.sk s k+1)) m (T.sk s k+1) false=l at *
    have Z:=zi s 125 l.k l.b
    refine B.mono fun _ V hV=>⟨by simp only;omega,?_⟩
    obtain ⟨U,rfl,⟨L,W,rfl,rfl,_,j⟩,_⟩:=hV
    refine GU.of3 (H:=fun err a=>FE l.es err a\/FIs 123 [] l.ims err a) y (by simp only;omega) (fun g hg=>?_) j.st (fun P hP err a=>?_) (fun err a=>?_)
    ·have e:=j.wl g hg
     exact ⟨by omega,by simp only;omega,by simp only;omega,e.2.2.2⟩
    ·exact j.fu _ [] (fun x hx=>by have:=zeE hP x hx;omega) (Cor.nil (fun x hx=>by
      rcases List.mem_append.1 hx with hx | hx
      ·have:=hP x hx;omega
      ·simp at hx;subst hx;simp only;omega)) err a
    ·rw [xY,XQ,QP (by simp) (by simp) (by simp)]
     constructor
     ·rintro (h | h | h)
      ·exact .inr (.inl h)
      ·exact .inl h
      ·exact .inr (.inr h)
     ·rintro (h | h | h)
      ·exact .inr (.inl h)
      ·exact .inl h
      ·exact .inr (.inr h)
   ·have X:=zi s 40 (T.sk s k+1) false
    have u:zc s 40 (T.sk s k+1) false<=s.size:=zs (by decide) (by omega)
    have E:=((Z9 (by decide) (by decide) v p i).run.want 40 (by decide) (by decide) (by decide)).num u 6 0 (-1)
    rw [ji n d m k false q rfl rfl rfl,w]
    generalize zc s 40 (T.sk s k+1) false=k1 at *
    generalize zj s 40 (T.sk s k+1) false=b1 at *
    have a1:=z5 (b:=b1) u
    have S:=ya (b:=b1) u
    have R:=zi s 44 (zo s k1 b1) (zw s k1 b1)
    have z:zc s 44 (zo s k1 b1) (zw s k1 b1)<=s.size:=zs (by decide) S
    have A:=((((E.want 44 (by decide) (by decide) (by decide)).run).expr ih K z (d+1) (by omega) m (by omega)).want 41 (by decide) (by decide) (by decide)).run
    have N:=F (d+1) m (zc s 44 (zo s k1 b1) (zw s k1 b1)) (zj s 44 (zo s k1 b1) (zw s k1 b1)) z
    have B:=Yx (d:=d) (by rw [i];rfl) A
    generalize zc s 44 (zo s k1 b1) (zw s k1 b1)=k2 at *
    generalize zj s 44 (zo s k1 b1) (zw s k1 b1)=b2 at *
    generalize cE s rs n (d+1) m k2 b2=r at *
    have Z:=zi s 41 r.k r.b
    refine B.mono fun _ V hV=>⟨by simp only;omega,?_⟩
    obtain ⟨U,rfl,⟨L,W,rfl,⟨⟨V2,rfl,⟨rfl,_⟩,rfl,o,f⟩,_⟩,_,_,j⟩,_⟩:=hV
    have G:=T.sk_ge s k1
    refine GU.of3 (H:=fun err a=>((zJ s k1 false<1\/86400<zJ s k1 false)/\err=6/\a=T.sk s k1)\/FE r.es err a) y (by simp only;omega) (fun g hg=>?_) ?_ (fun P hP err a=>?_) (fun err a=>?_)
    ·simp only [List.nil_append,List.singleton_append,List.mem_cons] at hg
     rcases hg with rfl | hg
     ·exact ⟨by simp only;omega,by simp only;omega,.inl rfl,KD.of (by simp) (by simp)⟩
     ·have e:=j.wl g hg
      exact ⟨by omega,by simp only;omega,by simp only;omega,e.2.2.2⟩
    ·simp only [List.nil_append,List.singleton_append]
     refine List.pairwise_cons.2 ⟨fun g hg=>?_,j.st⟩
     have e:=j.wl g hg
     simp only;omega
    ·simp only [List.nil_append,List.singleton_append,FU]
     rw [Er6 f,j.fu _ (fun x hx=>by
      rcases List.mem_append.1 hx with hx | hx
      ·have:=zeE hP x hx;omega
      ·simp at hx;subst hx;simp only;omega) err a]
     constructor
     ·rintro (⟨e,o,f⟩ | h)
      ·exact .inl ⟨o,f,e⟩
      ·exact .inr h
     ·rintro (⟨e,o,f⟩ | h)
      ·exact .inl ⟨f,e,o⟩
      ·exact .inr h
    ·rw [xY,XQ]
     simp [FEx,FIs,zl]
     constructor
     ·rintro (h | h | h)
      ·exact .inr (.inr h)
      ·exact .inl h
      ·exact .inr (.inl h)
     ·rintro (h | h | h)
      ·exact .inr (.inl h)
      ·exact .inr (.inr h)
      ·exact .inl h
   ·have A:=(Z9 (by decide) (by decide) v p i).num (by omega) 8 0 (-1)
    have B:=Yx (d:=d) (by rw [i];rfl) A
    rw [Xt n d m k false q,w]
    refine B.mono fun _ V hV=>⟨by simp only;omega,?_⟩
    obtain ⟨U,rfl,L,rfl,rfl,_,o,f⟩:=hV
    have G:=T.sk_ge s (T.sk s k+1)
    refine GU.of3 (H:=fun err a=>(zJ s (T.sk s k+1) false<0\/15<zJ s (T.sk s k+1) false)/\err=6/\a=T.sk s (T.sk s k+1)) y (by simp only;omega) (fun g hg=>?_) (by simp) (fun P hP err a=>?_) (fun err a=>?_)
    ·simp at hg
     subst hg
     exact ⟨by simp only;omega,by simp only;omega,.inl rfl,KD.of (by simp) (by simp)⟩
    ·simp only [List.nil_append,FU,or_false]
     rw [Er8 f]
     constructor
     ·rintro ⟨e,o,f⟩;exact ⟨o,f,e⟩
     ·rintro ⟨e,o,f⟩;exact ⟨f,e,o⟩
    ·rw [XQ]
     simp [FEx,FIs,zl]
   ·have A:=((Z9 (by decide) (by decide) v p i).run.letter 2 0 (-1)).run
    have B:=Yx (d:=d) (by rw [i];rfl) A
    rw [qi n d m k false q,w]
    refine B.mono fun _ V hV=>⟨by simp only;omega,?_⟩
    obtain ⟨U,rfl,L,rfl,rfl,_,o,f⟩:=hV
    have G:=T.sk_ge s (T.sk s k+1)
    refine GU.of3 (H:=fun err a=>yn (ze s (zb s (T.sk s k+1) false) false) rs=-1/\err=5/\a=T.sk s (T.sk s k+1)) y (by simp only;omega) (fun g hg=>?_) (by simp) (fun P hP err a=>?_) (fun err a=>?_)
    ·simp at hg
     subst hg
     exact ⟨by simp only;omega,by simp only;omega,.inl rfl,by simp,fun _=>f.sz⟩
    ·simp only [List.nil_append,FU,or_false]
     rw [Er2 f]
     constructor
     ·rintro ⟨e,o,f⟩;exact ⟨o,f,e⟩
     ·rintro ⟨e,o,f⟩;exact ⟨f,e,o⟩
    ·rw [XQ]
     simp [FEx,FIs,zl]
   ·have O:yo c:=by rcases J with rfl | rfl | rfl | rfl<;>simp [yo]
    have X:=zi s 40 (T.sk s k+1) false
    have u:zc s 40 (T.sk s k+1) false<=s.size:=zs (by decide) (by omega)
    have E:=(Z9 (by omega) (by omega) v p i).run.want 40 (by decide) (by decide) (by decide)
    rw [qj n d m k false q J rfl rfl rfl rfl,w]
    generalize zc s 40 (T.sk s k+1) false=k1 at *
    generalize zj s 40 (T.sk s k+1) false=b1 at *
    have Y:=E.items ih K F O u d hd (T.sk s k) m (by omega) (by omega)
    have I:=zN F c d (s.size+1-k1) m k1 b1 u
    generalize zd (cE s rs n) s c d (s.size+1-k1) m k1 b1=l at *
    have R:=zi s 124 l.k l.b
    have z:zc s 124 l.k l.b<=s.size:=zs (by decide) I.2.1
    have A:=((((Y.want 124 (by decide) (by decide) (by decide)).run).expr ih K z (d+1) (by omega) (m+l.es.length) (by omega)).want 41 (by decide) (by decide) (by decide)).run
    have N:=F (d+1) (m+l.es.length) (zc s 124 l.k l.b) (zj s 124 l.k l.b) z
    have B:=Yx (k:=k) (d:=d) (by rw [i];rcases J with rfl | rfl | rfl | rfl<;>rfl) A
    generalize zc s 124 l.k l.b=k2 at *
    generalize zj s 124 l.k l.b=b2 at *
    generalize cE s rs n (d+1) (m+l.es.length) k2 b2=r at *
    have Z:=zi s 41 r.k r.b
    refine B.mono fun _ V hV=>⟨by simp only;omega,?_⟩
    obtain ⟨U,rfl,⟨L,W2,rfl,⟨⟨V2,W,rfl,⟨rfl,_⟩,_,j⟩,_⟩,_,_,C⟩,_⟩:=hV
    refine GU.of3 (H:=fun err a=>(FE l.es err a\/FIs c [] l.ims err a)\/FE r.es err a) y (by simp only;omega) (fun g hg=>?_) ?_ (fun P hP err a=>?_) (fun err a=>?_)
    ·simp only [List.nil_append] at hg
     rcases List.mem_append.1 hg with hg | hg
     ·have e:=j.wl g hg
      exact ⟨by omega,by simp only;omega,by simp only;omega,e.2.2.2⟩
     ·have e:=C.wl g hg
      exact ⟨by omega,by simp only;omega,by simp only;omega,e.2.2.2⟩
    ·simp only [List.nil_append]
     refine List.pairwise_append.2 ⟨j.st,C.st,fun a ha b hb=>?_⟩
     have f:=(j.wl a ha).2.1
     have h4:=(C.wl b hb).1
     omega
    ·simp only [List.nil_append]
     rw [zdK,j.fu _ [] (fun x hx=>by have:=zeE hP x hx;omega) (Cor.nil (fun x hx=>by
      rcases List.mem_append.1 hx with hx | hx
      ·have:=hP x hx;omega
      ·simp at hx;subst hx;simp only;omega)) err a,C.fu _ (fun x hx=>by
      rcases List.mem_append.1 hx with hx | hx
      ·have:=zeE hP x hx;omega
      ·have:=(j.wl x hx).2.2.1;omega) err a]
    ·rw [xY,xY,XQ,QP (by simp only;omega) (by simp only;omega) (by simp only;omega)]
     simp only
     constructor
     ·rintro ((h | h) | (h | h))
      ·exact .inr (.inl (.inl h))
      ·exact .inr (.inr h)
      ·exact .inl h
      ·exact .inr (.inl (.inr h))
     ·rintro (h | ((h | h) | h))
      ·exact .inr (.inl h)
      ·exact .inl (.inl h)
      ·exact .inr (.inr h)
      ·exact .inl (.inr h)
end Go.Proofs.YtaebngpoagjafabGreat
