/-
  OUR OWN.
-/
import Derived.Test.YtaebngpoagjafaaGreatU32
set_option maxRecDepth 100000
namespace Go.Proofs.YtaebngpoagjafaaGreat
open Go.RowKit
theorem Par.app {s:ByteArray} {k a b:Nat} {l1 l2:List FR} {ok:Bool} {sg1 sg2:List SG} (h1:Par s k l1 true a sg1) (h2:Par s a l2 ok b sg2):Par s k (l1++l2) ok b (sg2++sg1):=by
 obtain ⟨N1,n1,h1⟩:=h1
 obtain ⟨N2,n2,h2⟩:=h2
 have e1:=pL_mono (fun k f q h=>pF_mono s (M:=N1+N2) (by omega) h) _ _ _ h1
 have e2:=pL_mono (fun k f q h=>pF_mono s (M:=N1+N2) (by omega) h) _ _ _ h2
 clear h1 h2
 have key:∀ (l:List FR) (k n1:Nat) (sg1:List SG),pL (pF s (N1+N2)) k l=some ⟨true,a,sg1,n1⟩->∃ n,pL (pF s (N1+N2)) k (l++l2)=some ⟨ok,b,sg2++sg1,n⟩:=by
   intro l
   induction l with
   | nil =>
     intro k n1 sg1 h
     simp only [pL] at h
     simp at h
     obtain ⟨rfl,rfl,_⟩:=h
     exact ⟨n2,by simpa using e2⟩
   | cons f r ih =>
     intro k n1 sg1 h
     simp only [pL,List.cons_append] at h ⊢
     cases ha:pF s (N1+N2) k f with
     | none=>rw [ha] at h;simp at h
     | some q =>
       rw [ha] at h
       simp only at h ⊢
       split at h
       · next hok =>
         rw [if_pos hok]
         cases hb:pL (pF s (N1+N2)) q.at_ r with
         | none=>rw [hb] at h;simp at h
         | some q2 =>
           rw [hb] at h
           simp at h
           obtain ⟨h1,h2,h3,h4⟩:=h
           obtain ⟨ok2,a2,sg3,n3⟩:=q2
           simp only at h1 h2 h3 h4
           subst h1 h2
           obtain ⟨n,hn⟩:=ih q.at_ n3 sg3 hb
           rw [hn]
           exact ⟨q.n+n,by simp [<- h3]⟩
       · next hok=>simp at h;subst h;exact absurd rfl hok
 obtain ⟨n,hn⟩:=key l1 k n1 sg1 e1
 exact ⟨N1+N2,n,hn⟩
theorem ParNo.app {s:ByteArray} {k a:Nat} {l1:List FR} (h1:ParNo s k l1 a) (l2:List FR):ParNo s k (l1++l2) a:=by
 obtain ⟨sg,N1,n1,h1⟩:=h1
 have key:∀ (l:List FR) (k n1:Nat) (sg1:List SG),pL (pF s N1) k l=some ⟨false,a,sg1,n1⟩->∃ n sg2,pL (pF s N1) k (l++l2)=some ⟨false,a,sg2,n⟩:=by
   intro l
   induction l with
   | nil=>intro k n1 sg1 h;simp [pL] at h
   | cons f r ih =>
     intro k n1 sg1 h
     simp only [pL,List.cons_append] at h ⊢
     cases ha:pF s N1 k f with
     | none=>rw [ha] at h;simp at h
     | some q =>
       rw [ha] at h
       simp only at h ⊢
       split at h
       · next hok =>
         rw [if_pos hok]
         cases hb:pL (pF s N1) q.at_ r with
         | none=>rw [hb] at h;simp at h
         | some q2 =>
           rw [hb] at h
           simp at h
           obtain ⟨h1,h2,h3,h4⟩:=h
           obtain ⟨ok2,a2,sg3,n3⟩:=q2
           simp only at h1 h2
           subst h1 h2
           obtain ⟨n,sg2,hn⟩:=ih q.at_ n3 sg3 hb
           rw [hn]
           exact ⟨_,_,rfl⟩
       · next hok=>rw [if_neg hok];exact ⟨_,_,h⟩
 obtain ⟨n,sg2,hn⟩:=key l1 k n1 sg h1
 exact ⟨sg2,N1,n,hn⟩
theorem ParNo.app2 {s:ByteArray} {k a b:Nat} {l1 l2:List FR} {sg1:List SG} (h1:Par s k l1 true a sg1) (h2:ParNo s a l2 b):ParNo s k (l1++l2) b:=by
 obtain ⟨sg,h⟩:=h2
 exact ⟨_,h1.app h⟩
def Run (s:ByteArray) (k0:Nat) (l:List FR) (k:Nat) (b:Bool) (G:List SG->Prop):Prop:=(∃ U,Par s k0 l true k U.reverse/\b=false/\G U)\/(ParNo s k0 l k/\Dead s k b)
def RunW (s:ByteArray) (k0:Nat) (l:List FR) (k:Nat) (b:Bool) (G:List SG->Prop):Prop:=(∃ U,Par s k0 l true k U.reverse/\b=false/\G U)\/(ParNo s k0 l k/\b=true)
theorem RunW.run {s:ByteArray} {k0 k:Nat} {l:List FR} {b:Bool} {G:List SG->Prop} (h:RunW s k0 l k b G):Run s k0 l k b G:=h.imp (fun h=>h) (fun h=>⟨h.1,.inl h.2⟩)
theorem RunW.nil (s:ByteArray) (k:Nat):RunW s k [] k false (fun U=>U=[]):=.inl ⟨[],Par.nil _ _,rfl,rfl⟩
theorem Run.mono {s:ByteArray} {k0 k:Nat} {l:List FR} {b:Bool} {G G':List SG->Prop} (h:Run s k0 l k b G) (hG:b=false->∀ U,G U->G' U):Run s k0 l k b G':=by
 rcases h with ⟨U,h1,h2,h3⟩ | h
 · exact .inl ⟨U,h1,h2,hG h2 U h3⟩
 · exact .inr h
theorem Run.want {s:ByteArray} {k0 k:Nat} {l:List FR} {b:Bool} {G:List SG->Prop} (h:Run s k0 l k b G) (c:Int) (hc:0<c) (hc2:c<256) (hc3:c<48\/57<c):RunW s k0 (l++[byF c]) (takeK s c k b) (wantB s c k b) (fun U=>G U/\b=false):=by
 rcases h with ⟨U,h1,rfl,h3⟩ | ⟨h1,h2⟩
 · cases ht:takeB s c k false with
   | true =>
     have:=want_yes hc hc2 ht
     exact .inl ⟨U,by have:=h1.app this.1;simpa using this,this.2,h3,rfl⟩
   | false =>
     have:=want_no hc hc2 ht
     exact .inr ⟨ParNo.app2 h1 this.1,this.2⟩
 · have:=dead_take h2 (c:=c) (by omega) hc3
   exact .inr ⟨by rw [this.2.1];exact h1.app _,this.2.2⟩
theorem RunW.num {s:ByteArray} {k0 k:Nat} {l:List FR} {b:Bool} {G:List SG->Prop} (h:RunW s k0 l k b G) (hk:k<=s.size) (kd d li:Int) :
   Run s k0 (l++[⟨261,kd,d,li⟩]) (numK s k b) (numX s k b) (fun U=>∃ V,U=V++[⟨kd,T.sk s k,d,li,s.extract (T.sk s k) (numK s k b)⟩]/\G V/\b=false/\T.sk s k<numK s k b/\NumT (s.extract (T.sk s k) (numK s k b)) (numV s k b)):=by
 rcases h with ⟨U,h1,rfl,h3⟩ | ⟨h1,rfl⟩
 · rcases num_par hk kd d li with ⟨a1,a2,a3⟩ | ⟨a1,a2⟩
   · exact .inl ⟨U++[⟨kd,T.sk s k,d,li,s.extract (T.sk s k) (numK s k false)⟩],by have:=h1.app a1;rw [List.reverse_append];exact this,a2,U,rfl,h3,rfl,a3,num_text hk a3⟩
   · exact .inr ⟨ParNo.app2 h1 a1,a2⟩
 · have:=bad_num s k
   exact .inr ⟨by rw [this.1];exact h1.app _,.inl this.2⟩
theorem bad_bits (s:ByteArray) (k:Nat):btK s k true=k/\btX s k true=true:=by
 refine ⟨?_,btX_bad rfl⟩
 unfold btK
 have:skipF s k true=k:=rfl
 rw [this]
 simp [btF,hereF_bad,bit]
theorem RunW.bits {s:ByteArray} {k0 k:Nat} {l:List FR} {b:Bool} {G:List SG->Prop} (h:RunW s k0 l k b G) (hk:k<=s.size) (kd d li:Int) :
   Run s k0 (l++[⟨262,kd,d,li⟩]) (btK s k b) (btX s k b) (fun U=>∃ V,U=V++[⟨kd,T.sk s k,d,li,s.extract (T.sk s k) (btK s k b)⟩]/\G V/\b=false/\T.sk s k<btK s k b/\BitT (s.extract (T.sk s k) (btK s k b)) (btV s k b) (btL s k b)):=by
 rcases h with ⟨U,h1,rfl,h3⟩ | ⟨h1,rfl⟩
 · rcases bit_par hk kd d li with ⟨a1,a2,a3⟩ | ⟨a1,a2⟩
   · exact .inl ⟨U++[⟨kd,T.sk s k,d,li,s.extract (T.sk s k) (btK s k false)⟩],by have:=h1.app a1;rw [List.reverse_append];exact this,a2,U,rfl,h3,rfl,a3,bit_text hk a3⟩
   · exact .inr ⟨ParNo.app2 h1 a1,a2⟩
 · have:=bad_bits s k
   exact .inr ⟨by rw [this.1];exact h1.app _,.inl this.2⟩
theorem Run.letter {s:ByteArray} {k0 k:Nat} {l:List FR} {b:Bool} {G:List SG->Prop} (h:Run s k0 l k b G) (kd d li:Int) :
   RunW s k0 (l++[⟨263,kd,d,li⟩]) (letK s k b) (letX s k b) (fun U=>∃ V,U=V++[⟨kd,T.sk s k,d,li,s.extract (T.sk s k) (T.sk s k+1)⟩]/\G V/\b=false/\letK s k b=T.sk s k+1/\LetT (s.extract (T.sk s k) (T.sk s k+1)) (hereF s (skipF s k b) b)):=by
 rcases h with ⟨U,h1,rfl,h3⟩ | ⟨h1,h2⟩
 · rcases let_par s k kd d li with ⟨a1,a2,a3,a4⟩ | ⟨a1,a2⟩
   · exact .inl ⟨U++[⟨kd,T.sk s k,d,li,s.extract (T.sk s k) (T.sk s k+1)⟩],by have:=h1.app a1;rw [List.reverse_append];exact this,a2,U,rfl,h3,rfl,a3,a4⟩
   · exact .inr ⟨ParNo.app2 h1 a1,a2⟩
 · have:=dead_letter h2
   exact .inr ⟨by rw [this.1];exact h1.app _,this.2⟩
theorem Run.expr {s:ByteArray} {rs:List RL} {ex:Int->Nat->Nat->Bool->CR} {n k0 k:Nat} {l:List FR} {b:Bool} {G:List SG->Prop} (h:Run s k0 l k b G) (hX:ExP s rs ex n) (hD:ExD s ex) (hk:k<=s.size) (d:Int) (hd:0<=d) (m:Nat) (hn:s.size-k<n) :
   Run s k0 (l++[⟨258,0,d,0⟩]) (ex d m k b).k (ex d m k b).b (fun U=>∃ V W,U=V++W/\G V/\b=false/\0<=(ex d m k b).idx/\GU rs k (ex d m k b).k W (ex d m k b).es):=by
 rcases h with ⟨U,h1,rfl,h3⟩ | ⟨h1,h2⟩
 · rcases hX d m k hd hk hn with ⟨W,a1,a2,a3,a4⟩ | ⟨a1,a2⟩
   · exact .inl ⟨U++W,by have:=h1.app a1;rw [List.reverse_append];exact this,a2,U,W,rfl,h3,rfl,a3,a4⟩
   · exact .inr ⟨ParNo.app2 h1 a1,a2⟩
 · have e:=hD d m k b h2
   rw [e]
   exact .inr ⟨h1.app _,.inl rfl⟩
end Go.Proofs.YtaebngpoagjafaaGreat
namespace Go.Proofs.YtaebngpoagjafaaGreat
open Go.RowKit
theorem Er_num5 {rs:List RL} {P:List SG} {pl d v:Int} {t:ByteArray} (h:NumT t v) (err:Int):Er rs P ⟨5,pl,d,-1,t⟩ err↔(v<1\/1000<v)/\err=6:=by
 rw [Er_plain rfl]
 have:=h.nn
 simp [h.vl,wrgV]
 constructor
 · rintro ⟨h1,h2⟩;exact ⟨by omega,h1⟩
 · rintro ⟨h1,h2⟩;exact ⟨h2,by omega⟩
theorem G1.mk1 {rs:List RL} {c p:Int} {k k':Nat} {g0:SG} {x:IM} (hc:itemKind c) (h119:c≠119) (hp:p≠-1) (hx:0<=x.num) (gx:GX c p g0 x) (w0:(k:Int)<=g0.place/\g0.place<k'):G1 rs c p k k' g0 [] [] x :=
 ⟨gx,w0,by simp,by simp,fun P pre _ hC err a=>by
   simp only [FU,or_false]
   rw [Er_main hp gx hC,FIm_iff hc pre x hx,gx.pl]
   constructor
   · intro h;exact .inr (.inl h)
   · rintro (h | h | h)
     · exact absurd h (FE_nil _ _)
     · exact h
     · exact absurd h.1 h119⟩
theorem G1.mkArm {rs:List RL} {c p:Int} {k kw k':Nat} {g0:SG} {x:IM} {U:List SG} {es:List EX} (hc:itemKind c) (h119:c≠119) (hp:p≠-1) (hpk:p<k) (hx:0<=x.num) (gx:GX c p g0 x) (w0:(k:Int)<=g0.place/\g0.place<kw) (hkk:kw<=k') (hkw:k<=kw) (hU:GU rs kw k' U es):G1 rs c p k k' g0 U es x :=
 ⟨gx,⟨w0.1,by omega⟩,fun g hg=>by
   have:=hU.wl g hg
   exact ⟨by omega,this.2.1,this.2.2.1.imp (fun h=>h) (fun h=>⟨by omega,h.2⟩),this.2.2.2⟩,hU.st,fun P pre hP hC err a=>by
   simp only [FU]
   rw [Er_main hp gx hC,FIm_iff hc pre x hx,gx.pl,hU.fu (P++[g0]) (fun y hy=>by
     rcases List.mem_append.1 hy with hy | hy
     · have:=hP y hy;omega
     · simp at hy;subst hy;rw [gx.li];omega) err a]
   constructor
   · rintro (h | h)
     · exact .inr (.inl h)
     · exact .inl h
   · rintro (h | h | h)
     · exact .inr h
     · exact .inl h
     · exact absurd h.1 h119⟩
theorem item_par {s:ByteArray} {rs:List RL} {ex:Int->Nat->Nat->Bool->CR} {n:Nat} (hX:ExP s rs ex n) (hD:ExD s ex) (hM:ExMono ex s) {c:Int} (hc:itemKind c) (d:Int) (m k p:Nat) (h0:0<=d) (hk:k<=s.size) (hn:s.size-k<n) (hp:p<k) :
   Run s k [⟨259,kf c,d,p⟩] (cItem ex s c d m k false).k (cItem ex s c d m k false).b (fun V=>∃ g0 rest,V=g0::rest/\G1 rs c p k (cItem ex s c d m k false).k g0 rest (cItem ex s c d m k false).es (cItem ex s c d m k false).im):=by
 have hp0:=T.sk_le hk
 have hge:=T.sk_ge s k
 have hss:=sk_sk s k
 have lift:∀ (kk:Nat) (bb:Bool) (G:List SG->Prop),Run s (T.sk s k) (itemL ⟨259,kf c,d,p⟩) kk bb G->Run s k [⟨259,kf c,d,p⟩] kk bb G:=fun kk bb G h=>by
   rcases h with ⟨U,h1,h2,h3⟩ | ⟨h1,h2⟩
   · exact .inl ⟨U,item_yes h1,h2,h3⟩
   · exact .inr ⟨item_no h1,h2⟩
 refine lift _ _ _ ?_
 have hpm:(p:Int)≠-1:=by omega
 have hR0:=RunW.nil s (T.sk s k)
 rcases hc with rfl | rfl | rfl | rfl | rfl
 · have e:cItem ex s 123 d m k false=⟨⟨T.sk s k,numV s (T.sk s k) false,0,0,0,0,-1⟩,[],numK s (T.sk s k) false,numX s (T.sk s k) false⟩:=by unfold cItem;rw [skip_f];rfl
   rw [e]
   refine (hR0.num hp0 4 0 p).mono fun _ U hU=>?_
   obtain ⟨V,rfl,rfl,_,h2,h3⟩:=hU
   rw [hss] at h2 h3
   exact ⟨_,[],rfl,G1.mk1 (.inl rfl) (by decide) hpm h3.nn ⟨rfl,rfl,by simp only [hss],.inr ⟨by decide,by rw [hss];exact h3,rfl,rfl⟩⟩ (by simp only [hss];omega)⟩
 · have e:cItem ex s 102 d m k false=⟨⟨T.sk s k,numV s (T.sk s k) false,0,0,0,0,-1⟩,[],numK s (T.sk s k) false,numX s (T.sk s k) false⟩:=by unfold cItem;rw [skip_f];rfl
   rw [e]
   refine (hR0.num hp0 4 0 p).mono fun _ U hU=>?_
   obtain ⟨V,rfl,rfl,_,h2,h3⟩:=hU
   rw [hss] at h2 h3
   exact ⟨_,[],rfl,G1.mk1 (.inr (.inl rfl)) (by decide) hpm h3.nn ⟨rfl,rfl,by simp only [hss],.inr ⟨by decide,by rw [hss];exact h3,rfl,rfl⟩⟩ (by simp only [hss];omega)⟩
 · have e:cItem ex s 119 d m k false=⟨⟨T.sk s k,numV s (T.sk s k) false,0,0,numV s (takeK s 42 (numK s (T.sk s k) false) (numX s (T.sk s k) false)) (wantB s 42 (numK s (T.sk s k) false) (numX s (T.sk s k) false)),skipF s (takeK s 42 (numK s (T.sk s k) false) (numX s (T.sk s k) false)) (wantB s 42 (numK s (T.sk s k) false) (numX s (T.sk s k) false)),-1⟩,[],numK s (takeK s 42 (numK s (T.sk s k) false) (numX s (T.sk s k) false)) (wantB s 42 (numK s (T.sk s k) false) (numX s (T.sk s k) false)),numX s (takeK s 42 (numK s (T.sk s k) false) (numX s (T.sk s k) false)) (wantB s 42 (numK s (T.sk s k) false) (numX s (T.sk s k) false))⟩:=by unfold cItem;rw [skip_f];rfl
   rw [e]
   have hk1:=numK_le (b:=false) hp0
   have hk2:takeK s 42 (numK s (T.sk s k) false) (numX s (T.sk s k) false)<=s.size:=takeK_le (by decide) hk1
   have hg2:=takeK_ge s 42 (numK s (T.sk s k) false) (numX s (T.sk s k) false)
   have hR:=(((hR0.num hp0 4 0 p).want 42 (by decide) (by decide) (by decide)).num hk2 5 0 (-1))
   generalize takeK s 42 (numK s (T.sk s k) false) (numX s (T.sk s k) false)=k2 at *
   generalize wantB s 42 (numK s (T.sk s k) false) (numX s (T.sk s k) false)=b2 at *
   refine hR.mono fun _ U hU=>?_
   obtain ⟨V,rfl,⟨⟨V2,rfl,rfl,_,h2,h3⟩,_⟩,rfl,h4,h5⟩:=hU
   rw [hss] at h2 h3
   have hsg:=T.sk_ge s k2
   have gx:GX 119 (p:Int) ⟨4,T.sk s (T.sk s k),0,p,s.extract (T.sk s (T.sk s k)) (numK s (T.sk s k) false)⟩ ⟨T.sk s k,numV s (T.sk s k) false,0,0,numV s k2 false,skipF s k2 false,-1⟩:=⟨rfl,rfl,by simp only [hss],.inr ⟨by decide,by rw [hss];exact h3,rfl,rfl⟩⟩
   refine ⟨_,[_],rfl,gx,by simp only [hss];omega,fun g hg=>?_,by simp,fun P pre hP hC err a=>?_⟩
   · simp at hg
     subst hg
     simp only [hss]
     exact ⟨by omega,by omega,.inl trivial,KD.of (by simp) (by simp)⟩
   · simp only [FU,or_false]
     rw [Er_main hpm gx hC,FIm_iff (.inr (.inr (.inl rfl))) pre _ h3.nn,Er_num5 h5]
     simp only [hss,skip_f]
     constructor
     · rintro (h | ⟨h1,h2,h3⟩)
       · exact .inr (.inl h)
       · exact .inr (.inr ⟨trivial,h2,h3,h1⟩)
     · rintro (h | h | ⟨_,h1,h2,h3⟩)
       · exact absurd h (FE_nil _ _)
       · exact .inl h
       · exact .inr ⟨h3,h1,h2⟩
 · have e:cItem ex s 103 d m k false=⟨⟨T.sk s k,numV s (T.sk s k) false,0,0,0,0,(ex (d+1) m (takeK s 58 (numK s (T.sk s k) false) (numX s (T.sk s k) false)) (wantB s 58 (numK s (T.sk s k) false) (numX s (T.sk s k) false))).idx⟩,(ex (d+1) m (takeK s 58 (numK s (T.sk s k) false) (numX s (T.sk s k) false)) (wantB s 58 (numK s (T.sk s k) false) (numX s (T.sk s k) false))).es,(ex (d+1) m (takeK s 58 (numK s (T.sk s k) false) (numX s (T.sk s k) false)) (wantB s 58 (numK s (T.sk s k) false) (numX s (T.sk s k) false))).k,(ex (d+1) m (takeK s 58 (numK s (T.sk s k) false) (numX s (T.sk s k) false)) (wantB s 58 (numK s (T.sk s k) false) (numX s (T.sk s k) false))).b⟩:=by unfold cItem;rw [skip_f];rfl
   rw [e]
   have hk1:=numK_le (b:=false) hp0
   have hk2:takeK s 58 (numK s (T.sk s k) false) (numX s (T.sk s k) false)<=s.size:=takeK_le (by decide) hk1
   have hg2:=takeK_ge s 58 (numK s (T.sk s k) false) (numX s (T.sk s k) false)
   have hg1:=numK_ge (b:=false) hp0
   have hR:=(((hR0.num hp0 7 0 p).want 58 (by decide) (by decide) (by decide)).run).expr hX hD hk2 (d+1) (by omega) m (by omega)
   have hmo:=hM (d+1) m (takeK s 58 (numK s (T.sk s k) false) (numX s (T.sk s k) false)) (wantB s 58 (numK s (T.sk s k) false) (numX s (T.sk s k) false)) hk2
   generalize takeK s 58 (numK s (T.sk s k) false) (numX s (T.sk s k) false)=k2 at *
   generalize wantB s 58 (numK s (T.sk s k) false) (numX s (T.sk s k) false)=b2 at *
   refine hR.mono fun _ U hU=>?_
   obtain ⟨V,W,rfl,⟨⟨V2,rfl,rfl,_,h2,h3⟩,_⟩,rfl,h4,h5⟩:=hU
   rw [hss] at h2 h3
   exact ⟨_,W,rfl,G1.mkArm (.inr (.inr (.inr (.inl rfl)))) (by decide) hpm (by omega) h3.nn ⟨rfl,rfl,by simp only [hss],.inr ⟨by decide,by rw [hss];exact h3,rfl,rfl⟩⟩ (by simp only [hss];omega) hmo.1 (by omega) h5⟩
 · have e:cItem ex s 109 d m k false=⟨⟨T.sk s k,0,btV s (T.sk s k) false,btL s (T.sk s k) false,0,0,(ex (d+1) m (takeK s 58 (btK s (T.sk s k) false) (btX s (T.sk s k) false)) (wantB s 58 (btK s (T.sk s k) false) (btX s (T.sk s k) false))).idx⟩,(ex (d+1) m (takeK s 58 (btK s (T.sk s k) false) (btX s (T.sk s k) false)) (wantB s 58 (btK s (T.sk s k) false) (btX s (T.sk s k) false))).es,(ex (d+1) m (takeK s 58 (btK s (T.sk s k) false) (btX s (T.sk s k) false)) (wantB s 58 (btK s (T.sk s k) false) (btX s (T.sk s k) false))).k,(ex (d+1) m (takeK s 58 (btK s (T.sk s k) false) (btX s (T.sk s k) false)) (wantB s 58 (btK s (T.sk s k) false) (btX s (T.sk s k) false))).b⟩:=by unfold cItem;rw [skip_f];rfl
   rw [e]
   have hk1:=btK_le (b:=false) hp0
   have hk2:takeK s 58 (btK s (T.sk s k) false) (btX s (T.sk s k) false)<=s.size:=takeK_le (by decide) hk1
   have hg2:=takeK_ge s 58 (btK s (T.sk s k) false) (btX s (T.sk s k) false)
   have hg1:=btK_ge (b:=false) hp0
   have hR:=(((hR0.bits hp0 9 0 p).want 58 (by decide) (by decide) (by decide)).run).expr hX hD hk2 (d+1) (by omega) m (by omega)
   have hmo:=hM (d+1) m (takeK s 58 (btK s (T.sk s k) false) (btX s (T.sk s k) false)) (wantB s 58 (btK s (T.sk s k) false) (btX s (T.sk s k) false)) hk2
   generalize takeK s 58 (btK s (T.sk s k) false) (btX s (T.sk s k) false)=k2 at *
   generalize wantB s 58 (btK s (T.sk s k) false) (btX s (T.sk s k) false)=b2 at *
   refine hR.mono fun _ U hU=>?_
   obtain ⟨V,W,rfl,⟨⟨V2,rfl,rfl,_,h2,h3⟩,_⟩,rfl,h4,h5⟩:=hU
   rw [hss] at h2 h3
   exact ⟨_,W,rfl,G1.mkArm (.inr (.inr (.inr (.inr rfl)))) (by decide) hpm (by omega) (Int.le_refl _) ⟨rfl,rfl,by simp only [hss],.inl ⟨rfl,rfl,by rw [hss];exact h3⟩⟩ (by simp only [hss];omega) hmo.1 (by omega) h5⟩
end Go.Proofs.YtaebngpoagjafaaGreat
namespace Go.Proofs.YtaebngpoagjafaaGreat
open Go.RowKit
theorem rest_step (s:ByteArray) (k:Nat) (kd d p:Int):stepR s k ⟨260,kd,d,p⟩=⟨true,T.sk s k,if T.ch s (T.sk s k)=44 then [byF 44,⟨259,kd,d,p⟩,⟨260,kd,d,p⟩] else [],[]⟩:=by
 unfold stepR
 simp only
 rw [if_neg (by decide),if_neg (by decide),if_neg (by decide),if_neg (by decide),if_pos trivial]
theorem take44 {s:ByteArray} {k:Nat}:takeB s 44 k false=true↔T.ch s (T.sk s k)=44:=by
 unfold takeB
 rw [skip_f,here_f,beq_iff_eq]
 by_cases h:T.sk s k<s.size
 · rw [if_pos h]
 · rw [if_neg h,T.ch_ge h];omega
theorem G1.gi {rs:List RL} {c p:Int} {k k1 k':Nat} {g0:SG} {rest:List SG} {es:List EX} {x:IM} (h:G1 rs c p k k1 g0 rest es x) (hkk:k1<=k'):GI rs c p k k' (g0::rest) es [x] :=
 ⟨fun g hg=>by
   rcases List.mem_cons.1 hg with rfl | hg
   · exact ⟨h.w0.1,by have:=h.w0.2;omega,.inr (.inl h.gx.li),KD.of (by rw [h.gx.ki];exact (mk_ne c).1) (by rw [h.gx.ki];exact (mk_ne c).2.1)⟩
   · have h1:=h.wl g hg
     have h2:=h.w0.1
     exact ⟨by omega,by omega,h1.2.2.1.imp (fun h=>h) (fun h=>.inr ⟨h.1,by omega⟩),h1.2.2.2⟩,
  List.pairwise_cons.2 ⟨fun g hg=>(h.wl g hg).1,h.st⟩,
  fun P pre hP hC err a=>by rw [h.fu P pre hP hC err a];simp [FIs]⟩
theorem GI.cons {rs:List RL} {c:Int} {p:Nat} {k k1 k2 k':Nat} {g0:SG} {rest U:List SG} {es fs:List EX} {x:IM} {xs:List IM} (h:G1 rs c p k k1 g0 rest es x) (hpk:p<k) (h12:k1<=k2) (hk2:k<=k2) (h23:k2<=k') (h2:GI rs c p k2 k' U fs xs):GI rs c p k k' ((g0::rest)++U) (es++fs) (x::xs):=by
 have hg1:=h.gi (Nat.le_refl k1)
 refine ⟨fun g hg=>?_,?_,fun P pre hP hC err a=>?_⟩
 · rcases List.mem_append.1 hg with hg | hg
   · have h1:=hg1.wl g hg
     exact ⟨h1.1,by omega,h1.2.2.1.imp (fun h=>h) (fun h=>h.imp (fun h=>h) (fun h=>⟨h.1,by omega⟩)),h1.2.2.2⟩
   · have h1:=h2.wl g hg
     exact ⟨by omega,h1.2.1,h1.2.2.1.imp (fun h=>h) (fun h=>h.imp (fun h=>h) (fun h=>⟨by omega,h.2⟩)),h1.2.2.2⟩
 · refine List.pairwise_append.2 ⟨hg1.st,h2.st,fun a ha b hb=>?_⟩
   have h3:=(hg1.wl a ha).2.1
   have h4:=(h2.wl b hb).1
   omega
 · rw [FU_app,h.fu P pre hP hC err a,h2.fu (P++(g0::rest)) (pre++[x]) (fun y hy=>?_) (hC.step h.gx (fun y hy=>?_)) err a,FE_app]
   · simp only [FIs]
     constructor
     · rintro ((h | h) | (h | h))
       · exact .inl (.inl h)
       · exact .inr (.inl h)
       · exact .inl (.inr h)
       · exact .inr (.inr h)
     · rintro ((h | h) | (h | h))
       · exact .inl (.inl h)
       · exact .inr (.inl h)
       · exact .inl (.inr h)
       · exact .inr (.inr h)
   · rcases List.mem_append.1 hy with hy | hy
     · have:=hP y hy;omega
     · rcases (hg1.wl y hy).2.2.1 with h | h | h<;>omega
   · rcases (h.wl y hy).2.2.1 with h | h<;>omega
theorem items_par {s:ByteArray} {rs:List RL} {ex:Int->Nat->Nat->Bool->CR} {n:Nat} (hX:ExP s rs ex n) (hD:ExD s ex) (hM:ExMono ex s) {c:Int} (hc:itemKind c) (d:Int) (p:Nat) (h0:0<=d):∀ (N m k:Nat),k<=s.size->s.size+1<=N+k->s.size-k<n->p<k ->
   Run s k [⟨259,kf c,d,p⟩,⟨260,kf c,d,p⟩] (cItems ex s c d N m k false).k (cItems ex s c d N m k false).b (fun U=>GI rs c p k (cItems ex s c d N m k false).k U (cItems ex s c d N m k false).es (cItems ex s c d N m k false).ims):=by
 intro N
 induction N with
 | zero=>intro m k h1 h2;omega
 | succ N ih =>
   intro m k hk hN hn hp
   have h1:=item_par hX hD hM hc d m k p h0 hk hn hp
   have hmo:=cItem_mono hM c d m k false hk
   simp only [cItems]
   generalize cItem ex s c d m k false=it at *
   rcases h1 with ⟨V,a1,a2,g0,rest,rfl,a3⟩ | ⟨a1,a2⟩
   · rw [a2]
     have htg:=takeK_ge s 44 it.k false
     have htl:takeK s 44 it.k false<=s.size:=takeK_le (by decide) hmo.2.1
     cases ht:takeB s 44 it.k false with
     | false =>
       have hne:¬ T.ch s (T.sk s it.k)=44:=fun h=>by rw [take44.2 h] at ht;cases ht
       have e:takeK s 44 it.k false=T.sk s it.k:=by unfold takeK;rw [if_neg (by rw [ht];decide),skip_f]
       have hst:=rest_step s it.k (kf c) d p
       rw [if_neg hne] at hst
       have h2:Par s it.k [⟨260,kf c,d,p⟩] true (takeK s 44 it.k false) []:=by
         have:=Par.step (s:=s) (k:=it.k) (f:=⟨260,kf c,d,p⟩) (ok:=true) (b:=T.sk s it.k) (sg2:=[]) (by rw [hst]) (by rw [hst];exact Par.nil _ _)
         rw [hst] at this
         rw [e];exact this
       exact .inl ⟨g0::rest,by have:=a1.app h2;simpa using this,rfl,a3.gi htg⟩
     | true =>
       have h44:=take44.1 ht
       have hst:=rest_step s it.k (kf c) d p
       rw [if_pos h44] at hst
       have htk:it.k+1<=takeK s 44 it.k false:=by
         unfold takeK;rw [if_pos ht];have:=skipF_ge s it.k false;omega
       have ht2:takeB s 44 (T.sk s it.k) false=true:=take44.2 (by rw [sk_sk];exact h44)
       have e2:takeK s 44 (T.sk s it.k) false=takeK s 44 it.k false:=by unfold takeK;rw [if_pos ht,if_pos ht2,skip_f,skip_f,sk_sk]
       have hw:=(want_yes (s:=s) (k:=T.sk s it.k) (c:=44) (by decide) (by decide) ht2).1
       rw [e2] at hw
       have hR:=ih (m+it.es.length) (takeK s 44 it.k false) htl (by omega) (by omega) (by omega)
       have hq:=cItems_mono hM c d N (m+it.es.length) (takeK s 44 it.k false) false htl
       generalize cItems ex s c d N (m+it.es.length) (takeK s 44 it.k false) false=q at *
       generalize takeK s 44 it.k false=k2 at *
       simp only [if_true]
       rcases hR with ⟨U,b1,b2,b3⟩ | ⟨b1,b2⟩
       · have h3:=hw.cons b1
         have h4:=Par.step (s:=s) (k:=it.k) (f:=⟨260,kf c,d,p⟩) (ok:=true) (b:=q.k) (sg2:=U.reverse++[]) (by rw [hst]) (by rw [hst];exact h3)
         rw [hst] at h4
         refine .inl ⟨(g0::rest)++U,?_,b2,GI.cons a3 hp (by omega) (by omega) hq.1 b3⟩
         have:=a1.app h4
         rw [List.reverse_append]
         simpa using this
       · have h3:=ParNo.after hw b1
         have h4:=ParNo.step (s:=s) (k:=it.k) (f:=⟨260,kf c,d,p⟩) (by rw [hst]) (by rw [hst];exact h3)
         exact .inr ⟨ParNo.app2 a1 h4,b2⟩
   · have:=dead_take a2 (c:=44) (by decide) (by decide)
     rw [this.1]
     simp only [Bool.false_eq_true,if_false]
     rw [this.2.1]
     exact .inr ⟨a1.app [⟨260,kf c,d,p⟩],a2⟩
end Go.Proofs.YtaebngpoagjafaaGreat
namespace Go.Proofs.YtaebngpoagjafaaGreat
open Go.RowKit
theorem bad_item {s:ByteArray} {ex:Int->Nat->Nat->Bool->CR} (hD:ExD s ex) {c:Int} (hc:itemKind c) (d:Int) (m k:Nat):(cItem ex s c d m k true).k=k/\(cItem ex s c d m k true).b=true:=by
 have hs:skipF s k true=k:=rfl
 have hn:=bad_num s k
 have hb:=bad_bits s k
 have hd:Dead s k true:=.inl rfl
 have h58:=dead_take hd (c:=58) (by decide) (by decide)
 have h42:=dead_take hd (c:=42) (by decide) (by decide)
 rcases hc with rfl | rfl | rfl | rfl | rfl
 · simp [cItem,hs,hn.1,hn.2]
 · simp [cItem,hs,hn.1,hn.2]
 · simp [cItem,hs,hn.1,hn.2,h42.2.1,h42.2.2]
 · simp [cItem,hs,hn.1,hn.2,h58.2.1,h58.2.2,hD (d+1) m k true hd]
 · simp [cItem,hs,hb.1,hb.2,h58.2.1,h58.2.2,hD (d+1) m k true hd]
theorem bad_items {s:ByteArray} {ex:Int->Nat->Nat->Bool->CR} (hD:ExD s ex) {c:Int} (hc:itemKind c) (d:Int) (N m k:Nat):(cItems ex s c d N m k true).k=k/\(cItems ex s c d N m k true).b=true:=by
 cases N with
 | zero=>exact ⟨rfl,rfl⟩
 | succ N =>
   have h1:=bad_item hD hc d m k
   have h2:=dead_take (s:=s) (k:=k) (b:=true) (c:=44) (.inl rfl) (by decide) (by decide)
   simp only [cItems,h1.1,h1.2,h2.1]
   simp [h2.2.1]
theorem RunW.items {s:ByteArray} {rs:List RL} {ex:Int->Nat->Nat->Bool->CR} {n k0 k:Nat} {l:List FR} {b:Bool} {G:List SG->Prop} (h:RunW s k0 l k b G) (hX:ExP s rs ex n) (hD:ExD s ex) (hM:ExMono ex s) {c:Int} (hc:itemKind c) (hk:k<=s.size) (d:Int) (hd:0<=d) (p m:Nat) (hp:p<k) (hn:s.size-k<n) :
   Run s k0 (l++[⟨259,kf c,d,p⟩,⟨260,kf c,d,p⟩]) (cItems ex s c d (s.size+1-k) m k b).k (cItems ex s c d (s.size+1-k) m k b).b (fun U=>∃ V W,U=V++W/\G V/\b=false/\GI rs c p k (cItems ex s c d (s.size+1-k) m k b).k W (cItems ex s c d (s.size+1-k) m k b).es (cItems ex s c d (s.size+1-k) m k b).ims):=by
 rcases h with ⟨U,h1,rfl,h3⟩ | ⟨h1,rfl⟩
 · rcases items_par hX hD hM hc d p hd (s.size+1-k) m k hk (by omega) hn hp with ⟨W,a1,a2,a3⟩ | ⟨a1,a2⟩
   · exact .inl ⟨U++W,by have:=h1.app a1;rw [List.reverse_append];exact this,a2,U,W,rfl,h3,rfl,a3⟩
   · exact .inr ⟨ParNo.app2 h1 a1,a2⟩
 · have e:=bad_items hD hc d (s.size+1-k) m k
   exact .inr ⟨by rw [e.1];exact h1.app _,.inl e.2⟩
theorem expr_lift {s:ByteArray} {k kk:Nat} {d:Int} {bb:Bool} {l:List FR} {G:List SG->Prop} (hl:exprL d (T.sk s k) (T.ch s (T.sk s k))=some l) (h:Run s (T.sk s k) l kk bb G):Run s k [⟨258,0,d,0⟩] kk bb (fun V=>∃ U,V=⟨3,T.sk s k,d,-1,ByteArray.empty⟩::U/\G U):=by
 have hst:stepR s k ⟨258,0,d,0⟩=⟨true,T.sk s k,l,[⟨3,T.sk s k,d,-1,ByteArray.empty⟩]⟩:=by
   unfold stepR
   simp only
   rw [if_neg (by decide),if_neg (by decide),if_pos trivial,hl]
 rcases h with ⟨U,h1,h2,h3⟩ | ⟨h1,h2⟩
 · have:=Par.step (s:=s) (k:=k) (f:=⟨258,0,d,0⟩) (ok:=true) (b:=kk) (sg2:=U.reverse) (by rw [hst]) (by rw [hst];exact h1)
   rw [hst] at this
   exact .inl ⟨_::U,by rw [List.reverse_cons];exact this,h2,U,rfl,h3⟩
 · exact .inr ⟨ParNo.step (s:=s) (k:=k) (f:=⟨258,0,d,0⟩) (by rw [hst]) (by rw [hst];exact h1),h2⟩
theorem expr_stop {s:ByteArray} {k:Nat} {d:Int} (hl:exprL d (T.sk s k) (T.ch s (T.sk s k))=none):ParNo s k [⟨258,0,d,0⟩] (T.sk s k):=by
 have hst:stepR s k ⟨258,0,d,0⟩=⟨false,T.sk s k,[],[]⟩:=by
   unfold stepR
   simp only
   rw [if_neg (by decide),if_neg (by decide),if_pos trivial,hl]
 have:=ParNo.stop (s:=s) (k:=k) (f:=⟨258,0,d,0⟩) (by rw [hst])
 rw [hst] at this
 exact this
theorem first_byte {s:ByteArray} {p:Nat} {c:Int} (hc:0<c) (hc2:c<256) (hp:T.sk s p=p) (hlt:p<s.size) (h:T.ch s p=c):RunW s p [byF c] (p+1) false (fun U=>U=[]):=by
 have ht:takeB s c p false=true:=by unfold takeB;rw [skip_f,hp,here_f,if_pos hlt,h];simp
 have hw:=(want_yes hc hc2 ht).1
 have e:takeK s c p false=p+1:=by unfold takeK;rw [if_pos ht,skip_f,hp]
 rw [e] at hw
 exact .inl ⟨[],hw,rfl,rfl⟩
theorem Er3 {rs:List RL} {P:List SG} {pl d:Int} (err:Int):Er rs P ⟨3,pl,d,-1,ByteArray.empty⟩ err↔err=3/\12<=d:=by
 rw [Er_plain rfl];simp [wrgV]
theorem Er8 {rs:List RL} {P:List SG} {pl d v:Int} {t:ByteArray} (h:NumT t v) (err:Int):Er rs P ⟨8,pl,d,-1,t⟩ err↔(v<0\/15<v)/\err=6:=by
 rw [Er_plain rfl]
 have:=h.nn
 simp [h.vl,wrgV]
 constructor
 · rintro ⟨h1,h2⟩;exact ⟨by omega,h1⟩
 · rintro ⟨h1,h2⟩;exact ⟨h2,by omega⟩
theorem Er6 {rs:List RL} {P:List SG} {pl d v:Int} {t:ByteArray} (h:NumT t v) (err:Int):Er rs P ⟨6,pl,d,-1,t⟩ err↔(v<1\/86400<v)/\err=6:=by
 rw [Er_plain rfl]
 have:=h.nn
 simp [h.vl,wrgV]
 constructor
 · rintro ⟨h1,h2⟩;exact ⟨by omega,h1⟩
 · rintro ⟨h1,h2⟩;exact ⟨h2,by omega⟩
theorem Er2 {rs:List RL} {P:List SG} {pl d v:Int} {t:ByteArray} (h:LetT t v) (err:Int):Er rs P ⟨2,pl,d,-1,t⟩ err↔nmdR v rs=-1/\err=5:=by
 rw [Er_plain rfl]
 simp [h.vl,wrgV]
 constructor
 · rintro ⟨h1,h2⟩;exact ⟨h2,h1⟩
 · rintro ⟨h1,h2⟩;exact ⟨h2,h1⟩
end Go.Proofs.YtaebngpoagjafaaGreat
