/-
  OUR OWN.
-/
import Derived.Test.YtaebngpoagjafaaGreatU33
set_option maxRecDepth 100000
namespace Go.Proofs.YtaebngpoagjafaaGreat
open Go.RowKit
theorem GU.of3 {rs:List RL} {k p k':Nat} {d:Int} {W:List SG} {es:List EX} {H:Int->Int->Prop} (hkp:k<=p) (hpk:p<k')
   (hW:∀ g∈W,(p:Int)<g.place/\g.place<k'/\(g.list=-1\/((k:Int)<=g.list/\g.list<k'))/\KD g) (hst:W.Pairwise (fun a b=>a.place<b.place))
   (hfu:∀ P:List SG,(∀ x∈P,x.list<(k:Int))->∀ err a,FU rs (P++[⟨3,p,d,-1,ByteArray.empty⟩]) W err a↔H err a) (hes:∀ err a,FE es err a↔(12<=d/\err=3/\a=p)\/H err a):GU rs k k' (⟨3,p,d,-1,ByteArray.empty⟩::W) es :=
 ⟨fun g hg=>by
   rcases List.mem_cons.1 hg with rfl | hg
   · exact ⟨by simp only;omega,by simp only;omega,.inl rfl,KD.of (by simp) (by simp)⟩
   · have:=hW g hg
     exact ⟨by omega,this.2.1,this.2.2.1,this.2.2.2⟩,
  List.pairwise_cons.2 ⟨fun g hg=>(hW g hg).1,hst⟩,
  fun P hP err a=>by
   simp only [FU]
   rw [Er3,hfu P hP,hes]
   constructor
   · rintro (⟨h1,h2,h3⟩ | h)
     · exact .inl ⟨h3,h2,h1⟩
     · exact .inr h
   · rintro (⟨h1,h2,h3⟩ | h)
     · exact .inl ⟨h3,h2,h1⟩
     · exact .inr h⟩
theorem FEx_other {e:EX} (h1:e.kind≠116) (h2:e.kind≠64) (h3:e.kind≠61) (err a:Int):FEx e err a↔12<=e.depth/\err=3/\a=e.at_:=by
 unfold FEx
 simp [h1,h2,h3]
theorem ctx3 {P:List SG} {k:Nat} {p d:Int} (h:∀ x∈P,x.list<(k:Int)):∀ x∈P++[(⟨3,p,d,-1,ByteArray.empty⟩:SG)],x.list<(k:Int):=fun x hx=>by
 rcases List.mem_append.1 hx with hx | hx
 · exact h x hx
 · simp at hx;subst hx;simp only;omega
theorem expr_par (s:ByteArray) (rs:List RL):∀ n,ExP s rs (cE s rs n) n:=by
 intro n
 induction n with
 | zero=>intro d m k _ _ h;omega
 | succ n ih =>
   intro d m k hd hk hn
   have hD:ExD s (cE s rs n):=fun d m k b h=>dead_expr h
   have hM:=cE_mono s rs n
   show Run s k [⟨258,0,d,0⟩] (cE s rs (n+1) d m k false).k (cE s rs (n+1) d m k false).b (fun U=>0<=(cE s rs (n+1) d m k false).idx/\GU rs k (cE s rs (n+1) d m k false).k U (cE s rs (n+1) d m k false).es)
   have hge:=T.sk_ge s k
   have hle:=T.sk_le hk
   have hss:=sk_sk s k
   cases hK:isK (hereF s (skipF s k false) false) with
   | false =>
     rw [cE_no n d m k false hK]
     refine .inr ⟨?_,.inl rfl⟩
     simp only [skip_f]
     refine expr_stop ?_
     rw [skip_f,here_f] at hK
     have:∀ c,isK c=false->exprL d (T.sk s k) c=none:=fun c hc=>by
       simp [isK] at hc
       simp [exprL,hc]
     refine this _ ?_
     by_cases h:T.sk s k<s.size
     · rw [if_pos h] at hK;exact hK
     · rw [T.ch_ge h];rfl
   | true =>
     have hlt0:=(isK_lt hK).2
     have hlt:T.sk s k<s.size:=by rw [skip_f] at hlt0;exact hlt0
     have hch:hereF s (skipF s k false) false=T.ch s (T.sk s k):=by rw [skip_f,here_f,if_pos hlt]
     obtain ⟨c,hc⟩:∃ c,T.ch s (T.sk s k)=c:=⟨_,rfl⟩
     have hcc:hereF s (skipF s k false) false=c:=hch.trans hc
     rw [hcc] at hK
     have h8:c=123\/c=116\/c=64\/c=61\/(c=119\/c=102\/c=109\/c=103):=by
       simp [isK] at hK
       omega
     have hsf:=skip_f s k
     rcases h8 with rfl | rfl | rfl | rfl | h8
     · -- servers
       have hR:=((((first_byte (by decide) (by decide) hss hlt hc).items ih hD hM (c:=123) (.inl rfl) (by omega) d hd (T.sk s k) m (by omega) (by omega))).want 125 (by decide) (by decide) (by decide)).run
       have hL:=expr_lift (d:=d) (by rw [hc];rfl) hR
       rw [cE_servers n d m k false hcc,hsf]
       have hli:=cItems_mono hM 123 d (s.size+1-(T.sk s k+1)) m (T.sk s k+1) false (by omega)
       generalize cItems (cE s rs n) s 123 d (s.size+1-(T.sk s k+1)) m (T.sk s k+1) false=l at *
       have ht:=takeK_ge s 125 l.k l.b
       refine hL.mono fun _ V hV=>⟨by simp only;omega,?_⟩
       obtain ⟨U,rfl,⟨V1,W,rfl,rfl,_,hG⟩,_⟩:=hV
       refine GU.of3 (H:=fun err a=>FE l.es err a\/FIs 123 [] l.ims err a) hge (by simp only;omega) (fun g hg=>?_) hG.st (fun P hP err a=>?_) (fun err a=>?_)
       · have h1:=hG.wl g hg
         exact ⟨by omega,by simp only;omega,by simp only;omega,h1.2.2.2⟩
       · exact hG.fu _ [] (fun x hx=>by have:=ctx3 hP x hx;omega) (Cor.nil (fun x hx=>by
           rcases List.mem_append.1 hx with hx | hx
           · have:=hP x hx;omega
           · simp at hx;subst hx;simp only;omega)) err a
       · rw [FE_app,FE_one,FEx_other (by simp) (by simp) (by simp)]
         constructor
         · rintro (h | h | h)
           · exact .inr (.inl h)
           · exact .inl h
           · exact .inr (.inr h)
         · rintro (h | h | h)
           · exact .inr (.inl h)
           · exact .inl h
           · exact .inr (.inr h)
     · -- ttl
       have hb0:=takeK_ge s 40 (T.sk s k+1) false
       have hb1:takeK s 40 (T.sk s k+1) false<=s.size:=takeK_le (by decide) (by omega)
       have hR0:=((first_byte (by decide) (by decide) hss hlt hc).run.want 40 (by decide) (by decide) (by decide)).num hb1 6 0 (-1)
       rw [cE_ttl n d m k false hcc rfl rfl rfl,hsf]
       generalize takeK s 40 (T.sk s k+1) false=k1 at *
       generalize wantB s 40 (T.sk s k+1) false=b1 at *
       have hb2:=numK_ge (b:=b1) hb1
       have hb3:=numK_le (b:=b1) hb1
       have hb4:=takeK_ge s 44 (numK s k1 b1) (numX s k1 b1)
       have hb5:takeK s 44 (numK s k1 b1) (numX s k1 b1)<=s.size:=takeK_le (by decide) hb3
       have hR:=((((hR0.want 44 (by decide) (by decide) (by decide)).run).expr ih hD hb5 (d+1) (by omega) m (by omega)).want 41 (by decide) (by decide) (by decide)).run
       have hmo:=hM (d+1) m (takeK s 44 (numK s k1 b1) (numX s k1 b1)) (wantB s 44 (numK s k1 b1) (numX s k1 b1)) hb5
       have hL:=expr_lift (d:=d) (by rw [hc];rfl) hR
       generalize takeK s 44 (numK s k1 b1) (numX s k1 b1)=k2 at *
       generalize wantB s 44 (numK s k1 b1) (numX s k1 b1)=b2 at *
       generalize cE s rs n (d+1) m k2 b2=r at *
       have ht:=takeK_ge s 41 r.k r.b
       refine hL.mono fun _ V hV=>⟨by simp only;omega,?_⟩
       obtain ⟨U,rfl,⟨V1,W,rfl,⟨⟨V2,rfl,⟨rfl,_⟩,rfl,h2,h3⟩,_⟩,_,_,hG⟩,_⟩:=hV
       have hsg:=T.sk_ge s k1
       refine GU.of3 (H:=fun err a=>((numV s k1 false<1\/86400<numV s k1 false)/\err=6/\a=T.sk s k1)\/FE r.es err a) hge (by simp only;omega) (fun g hg=>?_) ?_ (fun P hP err a=>?_) (fun err a=>?_)
       · simp only [List.nil_append,List.singleton_append,List.mem_cons] at hg
         rcases hg with rfl | hg
         · exact ⟨by simp only;omega,by simp only;omega,.inl rfl,KD.of (by simp) (by simp)⟩
         · have h1:=hG.wl g hg
           exact ⟨by omega,by simp only;omega,by simp only;omega,h1.2.2.2⟩
       · simp only [List.nil_append,List.singleton_append]
         refine List.pairwise_cons.2 ⟨fun g hg=>?_,hG.st⟩
         have h1:=hG.wl g hg
         simp only;omega
       · simp only [List.nil_append,List.singleton_append,FU]
         rw [Er6 h3,hG.fu _ (fun x hx=>by
           rcases List.mem_append.1 hx with hx | hx
           · have:=ctx3 hP x hx;omega
           · simp at hx;subst hx;simp only;omega) err a]
         constructor
         · rintro (⟨h1,h2,h3⟩ | h)
           · exact .inl ⟨h2,h3,h1⟩
           · exact .inr h
         · rintro (⟨h1,h2,h3⟩ | h)
           · exact .inl ⟨h3,h1,h2⟩
           · exact .inr h
       · rw [FE_app,FE_one]
         simp [FEx,FIs,skip_f]
         constructor
         · rintro (h | h | h)
           · exact .inr (.inr h)
           · exact .inl h
           · exact .inr (.inl h)
         · rintro (h | h | h)
           · exact .inr (.inl h)
           · exact .inr (.inr h)
           · exact .inl h
     · -- alias
       have hR:=(first_byte (by decide) (by decide) hss hlt hc).num (by omega) 8 0 (-1)
       have hL:=expr_lift (d:=d) (by rw [hc];rfl) hR
       rw [cE_alias n d m k false hcc,hsf]
       refine hL.mono fun _ V hV=>⟨by simp only;omega,?_⟩
       obtain ⟨U,rfl,V1,rfl,rfl,_,h2,h3⟩:=hV
       have hsg:=T.sk_ge s (T.sk s k+1)
       refine GU.of3 (H:=fun err a=>(numV s (T.sk s k+1) false<0\/15<numV s (T.sk s k+1) false)/\err=6/\a=T.sk s (T.sk s k+1)) hge (by simp only;omega) (fun g hg=>?_) (by simp) (fun P hP err a=>?_) (fun err a=>?_)
       · simp at hg
         subst hg
         exact ⟨by simp only;omega,by simp only;omega,.inl rfl,KD.of (by simp) (by simp)⟩
       · simp only [List.nil_append,FU,or_false]
         rw [Er8 h3]
         constructor
         · rintro ⟨h1,h2,h3⟩;exact ⟨h2,h3,h1⟩
         · rintro ⟨h1,h2,h3⟩;exact ⟨h3,h1,h2⟩
       · rw [FE_one]
         simp [FEx,FIs,skip_f]
     · -- name
       have hR:=((first_byte (by decide) (by decide) hss hlt hc).run.letter 2 0 (-1)).run
       have hL:=expr_lift (d:=d) (by rw [hc];rfl) hR
       rw [cE_name n d m k false hcc,hsf]
       refine hL.mono fun _ V hV=>⟨by simp only;omega,?_⟩
       obtain ⟨U,rfl,V1,rfl,rfl,_,h2,h3⟩:=hV
       have hsg:=T.sk_ge s (T.sk s k+1)
       refine GU.of3 (H:=fun err a=>nmdR (hereF s (skipF s (T.sk s k+1) false) false) rs=-1/\err=5/\a=T.sk s (T.sk s k+1)) hge (by simp only;omega) (fun g hg=>?_) (by simp) (fun P hP err a=>?_) (fun err a=>?_)
       · simp at hg
         subst hg
         exact ⟨by simp only;omega,by simp only;omega,.inl rfl,by simp,fun _=>h3.sz⟩
       · simp only [List.nil_append,FU,or_false]
         rw [Er2 h3]
         constructor
         · rintro ⟨h1,h2,h3⟩;exact ⟨h2,h3,h1⟩
         · rintro ⟨h1,h2,h3⟩;exact ⟨h3,h1,h2⟩
       · rw [FE_one]
         simp [FEx,FIs,skip_f]
     · -- lists
       have hik:itemKind c:=by rcases h8 with rfl | rfl | rfl | rfl<;>simp [itemKind]
       have hb0:=takeK_ge s 40 (T.sk s k+1) false
       have hb1:takeK s 40 (T.sk s k+1) false<=s.size:=takeK_le (by decide) (by omega)
       have hR0:=(first_byte (by omega) (by omega) hss hlt hc).run.want 40 (by decide) (by decide) (by decide)
       rw [cE_list n d m k false hcc h8 rfl rfl rfl rfl,hsf]
       generalize takeK s 40 (T.sk s k+1) false=k1 at *
       generalize wantB s 40 (T.sk s k+1) false=b1 at *
       have hR1:=hR0.items ih hD hM hik hb1 d hd (T.sk s k) m (by omega) (by omega)
       have hli:=cItems_mono hM c d (s.size+1-k1) m k1 b1 hb1
       generalize cItems (cE s rs n) s c d (s.size+1-k1) m k1 b1=l at *
       have hb4:=takeK_ge s 124 l.k l.b
       have hb5:takeK s 124 l.k l.b<=s.size:=takeK_le (by decide) hli.2.1
       have hR:=((((hR1.want 124 (by decide) (by decide) (by decide)).run).expr ih hD hb5 (d+1) (by omega) (m+l.es.length) (by omega)).want 41 (by decide) (by decide) (by decide)).run
       have hmo:=hM (d+1) (m+l.es.length) (takeK s 124 l.k l.b) (wantB s 124 l.k l.b) hb5
       have hL:=expr_lift (k:=k) (d:=d) (by rw [hc];rcases h8 with rfl | rfl | rfl | rfl<;>rfl) hR
       generalize takeK s 124 l.k l.b=k2 at *
       generalize wantB s 124 l.k l.b=b2 at *
       generalize cE s rs n (d+1) (m+l.es.length) k2 b2=r at *
       have ht:=takeK_ge s 41 r.k r.b
       refine hL.mono fun _ V hV=>⟨by simp only;omega,?_⟩
       obtain ⟨U,rfl,⟨V1,W2,rfl,⟨⟨V2,W,rfl,⟨rfl,_⟩,_,hG⟩,_⟩,_,_,hG2⟩,_⟩:=hV
       refine GU.of3 (H:=fun err a=>(FE l.es err a\/FIs c [] l.ims err a)\/FE r.es err a) hge (by simp only;omega) (fun g hg=>?_) ?_ (fun P hP err a=>?_) (fun err a=>?_)
       · simp only [List.nil_append] at hg
         rcases List.mem_append.1 hg with hg | hg
         · have h1:=hG.wl g hg
           exact ⟨by omega,by simp only;omega,by simp only;omega,h1.2.2.2⟩
         · have h1:=hG2.wl g hg
           exact ⟨by omega,by simp only;omega,by simp only;omega,h1.2.2.2⟩
       · simp only [List.nil_append]
         refine List.pairwise_append.2 ⟨hG.st,hG2.st,fun a ha b hb=>?_⟩
         have h3:=(hG.wl a ha).2.1
         have h4:=(hG2.wl b hb).1
         omega
       · simp only [List.nil_append]
         rw [FU_app,hG.fu _ [] (fun x hx=>by have:=ctx3 hP x hx;omega) (Cor.nil (fun x hx=>by
           rcases List.mem_append.1 hx with hx | hx
           · have:=hP x hx;omega
           · simp at hx;subst hx;simp only;omega)) err a,hG2.fu _ (fun x hx=>by
           rcases List.mem_append.1 hx with hx | hx
           · have:=ctx3 hP x hx;omega
           · have:=(hG.wl x hx).2.2.1;omega) err a]
       · rw [FE_app,FE_app,FE_one,FEx_other (by simp only;omega) (by simp only;omega) (by simp only;omega)]
         simp only
         constructor
         · rintro ((h | h) | (h | h))
           · exact .inr (.inl (.inl h))
           · exact .inr (.inr h)
           · exact .inl h
           · exact .inr (.inl (.inr h))
         · rintro (h | ((h | h) | h))
           · exact .inr (.inl h)
           · exact .inl (.inl h)
           · exact .inr (.inr h)
           · exact .inl (.inr h)
end Go.Proofs.YtaebngpoagjafaaGreat
namespace Go.Proofs.YtaebngpoagjafaaGreat
open Go.RowKit
def th (A:List SG) (g:SG):Bool:=(A.take (lastR (g::A.reverse)-1)).any (isR g)
def ErT (A:List SG) (g:SG) (err:Int):Prop :=
 (err=3/\g.kind=3/\12<=g.depth)\/(err=4/\g.list≠-1/\16<=befN g A)\/(err=5/\((g.kind=1/\th A g=true)\/(g.kind=2/\th A g=false)))\/(err=6/\wrgV g.kind (T.val g.text g.text.size)=true)\/(err=7/\g.list≠-1/\befS g A=true)
def FT:List SG->List SG->Int->Int->Prop
 | _,[],_,_=>False
 | P,g::U,err,a=>(a=g.place/\ErT P g err)\/FT (P++[g]) U err a
theorem FT_app (A B:List SG) (err a:Int):∀ P,FT P (A++B) err a↔FT P A err a\/FT (P++A) B err a:=by
 induction A with
 | nil=>intro P;simp [FT]
 | cons g r ih =>
   intro P
   simp only [List.cons_append,FT]
   rw [ih (P++[g]),List.append_assoc,List.singleton_append,or_assoc]
theorem lastR_skip (W X:List SG) (h:∀ g∈W,g.kind≠1):lastR (W++X)=lastR X:=by
 induction W with
 | nil=>rfl
 | cons g r ih=>simp only [List.cons_append,lastR];rw [if_neg (h g (by simp)),ih (fun y hy=>h y (by simp [hy]))]
theorem th_rule {A:List SG} {g:SG} (h:g.kind=1):th A g=A.any (isR g):=by
 unfold th
 simp only [lastR,if_pos h,List.length_reverse]
 rw [show A.length+1-1=A.length from by omega,List.take_length]
theorem th_in {P W:List SG} {g1 g:SG} (h1:g1.kind=1) (hW:∀ x∈W,x.kind≠1) (h:g.kind≠1):th (P++g1::W) g=P.any (isR g):=by
 unfold th
 have e:lastR (g::(P++g1::W).reverse)=P.length+1:=by
   simp only [lastR,if_neg h]
   rw [List.reverse_append,List.reverse_cons,List.append_assoc,lastR_skip _ _ (fun x hx=>hW x (by simpa using hx))]
   simp [lastR,h1]
 rw [e,show P.length+1-1=P.length from by omega,List.take_left]
structure RC (P:List SG) (rs:List RL):Prop where
 ex:∀ r∈rs,0<=r.ex
 nm:∀ g v,LetT g.text v->(P.any (isR g)=true↔∃ r∈rs,r.nv=v)
theorem nmd_iff (v:Int):∀ (rs:List RL),(∀ r∈rs,0<=r.ex)->(nmdR v rs=-1↔¬ ∃ r∈rs,r.nv=v):=by
 intro rs
 induction rs with
 | nil=>intro _;simp [nmdR]
 | cons r l ih =>
   intro h
   simp only [nmdR]
   split
   · next e =>
     have:=h r (by simp)
     constructor
     · intro hh;omega
     · intro hh;exact absurd ⟨r,by simp,e⟩ hh
   · next e =>
     rw [ih (fun x hx=>h x (by simp [hx]))]
     simp [e]
theorem RC.nil:RC [] []:=⟨by simp,by simp⟩
theorem RC.step {P W:List SG} {rs:List RL} {g1:SG} {r:RL} (h:RC P rs) (h1:g1.kind=1) (ht:LetT g1.text r.nv) (hr:0<=r.ex) (hW:∀ x∈W,x.kind≠1):RC (P++g1::W) (rs++[r]):=by
 refine ⟨fun x hx=>?_,fun g v hg=>?_⟩
 · rcases List.mem_append.1 hx with hx | hx
   · exact h.ex x hx
   · simp at hx;subst hx;exact hr
 · rw [List.any_append,List.any_cons,Bool.or_eq_true,Bool.or_eq_true,h.nm g v hg]
   have e1:W.any (isR g)=true↔False:=by
     simp only [List.any_eq_true,iff_false]
     rintro ⟨x,hx,hh⟩
     simp [isR,hW x hx] at hh
   have e2:isR g g1=true↔r.nv=v:=by
     unfold isR
     rw [decide_eq_true h1,Bool.true_and,let_same ht hg]
   rw [e1,e2]
   constructor
   · rintro (⟨x,hx,hv⟩ | hv | hh)
     · exact ⟨x,List.mem_append_left _ hx,hv⟩
     · exact ⟨r,by simp,hv⟩
     · exact absurd hh id
   · rintro ⟨x,hx,hv⟩
     rcases List.mem_append.1 hx with hx | hx
     · exact .inl ⟨x,hx,hv⟩
     · simp at hx;subst hx;exact .inr (.inl hv)
theorem FT_in {rs:List RL} {P:List SG} {g1:SG} (h1:g1.kind=1) (hR:RC P rs) (err a:Int):∀ (U W:List SG),(∀ g∈W,g.kind≠1)->(∀ g∈U,KD g)->(FT (P++g1::W) U err a↔FU rs (P++g1::W) U err a):=by
 intro U
 induction U with
 | nil=>intro W _ _;simp [FT,FU]
 | cons g r ih =>
   intro W hW hU
   simp only [FT,FU]
   have hg:=hU g (by simp)
   have e:(P++g1::W)++[g]=P++g1::(W++[g]):=by simp
   rw [e,ih (W++[g]) (fun x hx=>by
     rcases List.mem_append.1 hx with hx | hx
     · exact hW x hx
     · simp at hx;subst hx;exact hg.1) (fun x hx=>hU x (by simp [hx]))]
   have:ErT (P++g1::W) g err↔Er rs (P++g1::W) g err:=by
     unfold ErT Er
     have e5:(err=5/\((g.kind=1/\th (P++g1::W) g=true)\/(g.kind=2/\th (P++g1::W) g=false)))↔(err=5/\g.kind=2/\nmdR (T.ch g.text 0) rs=-1):=by
       rw [th_in h1 hW hg.1]
       constructor
       · rintro ⟨h,(⟨h2,_⟩ | ⟨h2,h3⟩)⟩
         · exact absurd h2 hg.1
         · refine ⟨h,h2,?_⟩
           have:=hR.nm g (T.ch g.text 0) ⟨hg.2 h2,rfl⟩
           rw [nmd_iff _ rs hR.ex,<- this,h3]
           decide
       · rintro ⟨h,h2,h3⟩
         refine ⟨h,.inr ⟨h2,?_⟩⟩
         have:=hR.nm g (T.ch g.text 0) ⟨hg.2 h2,rfl⟩
         rw [nmd_iff _ rs hR.ex,<- this] at h3
         simpa using h3
     rw [e5]
   rw [this]
def FRs:List RL->List RL->Int->Int->Prop
 | _,[],_,_=>False
 | pre,r::l,err,a=>(nmdR r.nv pre≠-1/\err=5/\a=r.na)\/FRs (pre++[r]) l err a
structure GT (rs:List RL) (k k':Nat) (U:List SG) (es:List EX) (new:List RL):Prop where
 wl:∀ g∈U,(k:Int)<=g.place/\g.place<k'/\(g.list=-1\/((k:Int)<=g.list/\g.list<k'))
 st:U.Pairwise (fun a b=>a.place<b.place)
 fu:∀ P,(∀ x∈P,x.list<(k:Int))->RC P rs->∀ err a,FT P U err a↔FE es err a\/FRs rs new err a
structure GO (rs:List RL) (k k':Nat) (g1:SG) (W:List SG) (es:List EX) (r:RL):Prop where
 k1:g1.kind=1
 l1:g1.list=-1
 p1:g1.place=r.na
 t1:LetT g1.text r.nv
 ex:0<=r.ex
 w1:(k:Int)<=g1.place/\g1.place<k'
 wl:∀ g∈W,g1.place<g.place/\g.place<k'/\(g.list=-1\/((k:Int)<=g.list/\g.list<k'))/\KD g
 st:W.Pairwise (fun a b=>a.place<b.place)
 fu:∀ P,(∀ x∈P,x.list<(k:Int))->∀ err a,FU rs (P++[g1]) W err a↔FE es err a
theorem GO.fu2 {rs:List RL} {k k':Nat} {g1:SG} {W:List SG} {es:List EX} {r:RL} (h:GO rs k k' g1 W es r) (P:List SG) (hP:∀ x∈P,x.list<(k:Int)) (hR:RC P rs) (err a:Int):FT P (g1::W) err a↔FE es err a\/(nmdR r.nv rs≠-1/\err=5/\a=r.na):=by
 simp only [FT]
 have e1:ErT P g1 err↔err=5/\nmdR r.nv rs≠-1:=by
   unfold ErT
   rw [th_rule h.k1]
   have hn:=hR.nm g1 r.nv h.t1
   have hw:wrgV g1.kind (T.val g1.text g1.text.size)=false:=by rw [h.k1];rfl
   rw [hw,h.k1,h.l1]
   have hx:P.any (isR g1)=true↔nmdR r.nv rs≠-1:=by
     rw [hn,Ne,nmd_iff _ rs hR.ex]
     simp
   rw [hx]
   simp
 have e2:=FT_in h.k1 hR err a W [] (by simp) (fun g hg=>(h.wl g hg).2.2.2)
 rw [e1,e2,h.fu P hP err a,h.p1]
 constructor
 · rintro (⟨h1,h2,h3⟩ | h)
   · exact .inr ⟨h3,h2,h1⟩
   · exact .inl h
 · rintro (h | ⟨h1,h2,h3⟩)
   · exact .inr h
   · exact .inl ⟨h3,h2,h1⟩
theorem GO.gt {rs:List RL} {k k1 k':Nat} {g1:SG} {W:List SG} {es:List EX} {r:RL} (h:GO rs k k1 g1 W es r) (hk:k1<=k'):GT rs k k' (g1::W) es [r] :=
 ⟨fun g hg=>by
   rcases List.mem_cons.1 hg with rfl | hg
   · exact ⟨h.w1.1,by have:=h.w1.2;omega,.inl h.l1⟩
   · have h2:=h.wl g hg
     have h3:=h.w1.1
     exact ⟨by omega,by omega,h2.2.2.1.imp (fun h=>h) (fun h=>⟨h.1,by omega⟩)⟩,
  List.pairwise_cons.2 ⟨fun g hg=>(h.wl g hg).1,h.st⟩,
  fun P hP hR err a=>by rw [h.fu2 P hP hR err a];simp [FRs]⟩
theorem GT.cons {rs:List RL} {k k1 k2 k':Nat} {g1:SG} {W U:List SG} {es fs:List EX} {r:RL} {new:List RL} (h:GO rs k k1 g1 W es r) (h12:k1<=k2) (hk2:k<=k2) (h23:k2<=k') (h2:GT (rs++[r]) k2 k' U fs new):GT rs k k' ((g1::W)++U) (es++fs) (r::new):=by
 have hg1:=h.gt (Nat.le_refl k1)
 refine ⟨fun g hg=>?_,?_,fun P hP hR err a=>?_⟩
 · rcases List.mem_append.1 hg with hg | hg
   · have h1:=hg1.wl g hg
     exact ⟨h1.1,by omega,h1.2.2.imp (fun h=>h) (fun h=>⟨h.1,by omega⟩)⟩
   · have h1:=h2.wl g hg
     exact ⟨by omega,h1.2.1,h1.2.2.imp (fun h=>h) (fun h=>⟨by omega,h.2⟩)⟩
 · refine List.pairwise_append.2 ⟨hg1.st,h2.st,fun a ha b hb=>?_⟩
   have h3:=(hg1.wl a ha).2.1
   have h4:=(h2.wl b hb).1
   omega
 · rw [FT_app,h.fu2 P hP hR err a,h2.fu (P++(g1::W)) (fun y hy=>?_) (hR.step h.k1 h.t1 h.ex (fun x hx=>(h.wl x hx).2.2.2.1)) err a,FE_app]
   · simp only [FRs]
     constructor
     · rintro ((h | h) | (h | h))
       · exact .inl (.inl h)
       · exact .inr (.inl h)
       · exact .inl (.inr h)
       · exact .inr (.inr h)
     · rintro ((h | h) | (h | h))
       · exact .inl (.inl h)
       · exact .inr (.inl h)
       · exact .inl (.inr h)
       · exact .inr (.inr h)
   · rcases List.mem_append.1 hy with hy | hy
     · have:=hP y hy;omega
     · rcases (hg1.wl y hy).2.2 with h | h<;>omega
theorem rule_step (s:ByteArray) (k:Nat):stepR s k ⟨256,0,0,0⟩=⟨true,T.sk s k,[⟨263,1,0,-1⟩,byF 58,⟨258,0,0,0⟩],[]⟩:=by
 unfold stepR
 simp only
 rw [if_pos trivial]
theorem more_step (s:ByteArray) (k:Nat):stepR s k ⟨257,0,0,0⟩=⟨true,T.sk s k,if T.ch s (T.sk s k)=59 then [byF 59,⟨256,0,0,0⟩,⟨257,0,0,0⟩] else [],[]⟩:=by
 unfold stepR
 simp only
 rw [if_neg (by decide),if_pos trivial]
theorem take59 {s:ByteArray} {k:Nat}:takeB s 59 k false=true↔T.ch s (T.sk s k)=59:=by
 unfold takeB
 rw [skip_f,here_f,beq_iff_eq]
 by_cases h:T.sk s k<s.size
 · rw [if_pos h]
 · rw [if_neg h,T.ch_ge h];omega
theorem rule_par (s:ByteArray) (rs:List RL) (m k:Nat) (hk:k<=s.size):Run s k [⟨256,0,0,0⟩] (cRule s rs m k false).k (cRule s rs m k false).b (fun V=>∃ g1 W,V=g1::W/\GO rs k (cRule s rs m k false).k g1 W (cRule s rs m k false).es (cRule s rs m k false).rl):=by
 have hge:=T.sk_ge s k
 have hle:=T.sk_le hk
 have hss:=sk_sk s k
 have elk:letK s (T.sk s k) false=letK s k false:=by unfold letK letB;rw [skip_f,skip_f,hss]
 have elx:letX s (T.sk s k) false=letX s k false:=by unfold letX letB;rw [skip_f,skip_f,hss]
 have hl0:=letK_ge s k false
 have hl1:=letK_le (b:=false) hk
 have hb0:=takeK_ge s 58 (letK s k false) (letX s k false)
 have hb1:takeK s 58 (letK s k false) (letX s k false)<=s.size:=takeK_le (by decide) hl1
 have hR0:=((RunW.nil s (T.sk s k)).run.letter 1 0 (-1)).run.want 58 (by decide) (by decide) (by decide)
 rw [elk,elx,skip_f,hss] at hR0
 have hR:=hR0.run.expr (expr_par s rs (s.size+1)) (fun d m k b h=>dead_expr h) hb1 0 (by decide) m (by omega)
 have hmo:=cE_mono s rs (s.size+1) 0 m (takeK s 58 (letK s k false) (letX s k false)) (wantB s 58 (letK s k false) (letX s k false)) hb1
 unfold cRule
 simp only [skip_f]
 generalize takeK s 58 (letK s k false) (letX s k false)=k2 at *
 generalize wantB s 58 (letK s k false) (letX s k false)=b2 at *
 generalize cE s rs (s.size+1) 0 m k2 b2=r at *
 have hlift:∀ (G:List SG->Prop),Run s (T.sk s k) [⟨263,1,0,-1⟩,byF 58,⟨258,0,0,0⟩] r.k r.b G->Run s k [⟨256,0,0,0⟩] r.k r.b G:=fun G h=>by
   rcases h with ⟨U,h1,h2,h3⟩ | ⟨h1,h2⟩
   · have:=Par.step (s:=s) (k:=k) (f:=⟨256,0,0,0⟩) (ok:=true) (b:=r.k) (sg2:=U.reverse) (by rw [rule_step]) (by rw [rule_step];exact h1)
     rw [rule_step] at this
     exact .inl ⟨U,by simpa using this,h2,h3⟩
   · exact .inr ⟨ParNo.step (s:=s) (k:=k) (f:=⟨256,0,0,0⟩) (by rw [rule_step]) (by rw [rule_step];exact h1),h2⟩
 refine hlift _ (hR.mono fun _ U hU=>?_)
 obtain ⟨V,W,rfl,⟨⟨V2,rfl,rfl,_,h2,h3⟩,_⟩,_,h4,hG⟩:=hU
 refine ⟨_,W,rfl,rfl,rfl,rfl,h3,h4,⟨by simp only;omega,by simp only;omega⟩,fun g hg=>?_,hG.st,fun P hP err a=>?_⟩
 · have h5:=hG.wl g hg
   exact ⟨by simp only;omega,h5.2.1,h5.2.2.1.imp (fun h=>h) (fun h=>⟨by omega,h.2⟩),h5.2.2.2⟩
 · exact hG.fu _ (fun x hx=>by
     rcases List.mem_append.1 hx with hx | hx
     · have:=hP x hx;omega
     · simp at hx;subst hx;simp only;omega) err a
end Go.Proofs.YtaebngpoagjafaaGreat
namespace Go.Proofs.YtaebngpoagjafaaGreat
open Go.RowKit
theorem rules_par (s:ByteArray):∀ (N:Nat) (rs:List RL) (m k:Nat),k<=s.size->s.size+1<=N+k ->
   Run s k [⟨256,0,0,0⟩,⟨257,0,0,0⟩] (cRules s N rs m k false).k (cRules s N rs m k false).b (fun U=>(∃ new,(cRules s N rs m k false).rs=rs++new/\GT rs k (cRules s N rs m k false).k U (cRules s N rs m k false).es new)/\T.sk s (cRules s N rs m k false).k=(cRules s N rs m k false).k)/\k<=(cRules s N rs m k false).k:=by
 intro N
 induction N with
 | zero=>intro rs m k h1 h2;omega
 | succ N ih =>
   intro rs m k hk hN
   have h1:=rule_par s rs m k hk
   have hmo:=cRule_mono s rs m k false hk
   simp only [cRules]
   generalize cRule s rs m k false=it at *
   rcases h1 with ⟨V,a1,a2,g1,W,rfl,a3⟩ | ⟨a1,a2⟩
   · rw [a2]
     have htg:=takeK_ge s 59 it.k false
     have htl:takeK s 59 it.k false<=s.size:=takeK_le (by decide) hmo.2.1
     cases ht:takeB s 59 it.k false with
     | false =>
       have hne:¬ T.ch s (T.sk s it.k)=59:=fun h=>by rw [take59.2 h] at ht;cases ht
       have e:takeK s 59 it.k false=T.sk s it.k:=by unfold takeK;rw [if_neg (by rw [ht];decide),skip_f]
       have hst:=more_step s it.k
       rw [if_neg hne] at hst
       have h2:Par s it.k [⟨257,0,0,0⟩] true (takeK s 59 it.k false) []:=by
         have:=Par.step (s:=s) (k:=it.k) (f:=⟨257,0,0,0⟩) (ok:=true) (b:=T.sk s it.k) (sg2:=[]) (by rw [hst]) (by rw [hst];exact Par.nil _ _)
         rw [hst] at this
         rw [e];exact this
       simp only [Bool.false_eq_true,if_false]
       exact ⟨.inl ⟨g1::W,by have:=a1.app h2;simpa using this,rfl,⟨[it.rl],rfl,a3.gt htg⟩,by rw [e,sk_sk]⟩,by omega⟩
     | true =>
       have h59:=take59.1 ht
       have hst:=more_step s it.k
       rw [if_pos h59] at hst
       have htk:it.k+1<=takeK s 59 it.k false:=by
         unfold takeK;rw [if_pos ht];have:=skipF_ge s it.k false;omega
       have ht2:takeB s 59 (T.sk s it.k) false=true:=take59.2 (by rw [sk_sk];exact h59)
       have e2:takeK s 59 (T.sk s it.k) false=takeK s 59 it.k false:=by unfold takeK;rw [if_pos ht,if_pos ht2,skip_f,skip_f,sk_sk]
       have hw:=(want_yes (s:=s) (k:=T.sk s it.k) (c:=59) (by decide) (by decide) ht2).1
       rw [e2] at hw
       have hR:=ih (rs++[it.rl]) (m+it.es.length) (takeK s 59 it.k false) htl (by omega)
       generalize cRules s N (rs++[it.rl]) (m+it.es.length) (takeK s 59 it.k false) false=q at *
       generalize takeK s 59 it.k false=k2 at *
       simp only [if_true]
       obtain ⟨hR,hk2⟩:=hR
       refine ⟨?_,by omega⟩
       rcases hR with ⟨U,b1,b2,⟨new,b3,b4⟩,b5⟩ | ⟨b1,b2⟩
       · have h3:=hw.cons b1
         have h4:=Par.step (s:=s) (k:=it.k) (f:=⟨257,0,0,0⟩) (ok:=true) (b:=q.k) (sg2:=U.reverse++[]) (by rw [hst]) (by rw [hst];exact h3)
         rw [hst] at h4
         refine .inl ⟨(g1::W)++U,?_,b2,⟨it.rl::new,by rw [b3];simp,GT.cons a3 (by omega) (by omega) hk2 b4⟩,b5⟩
         have:=a1.app h4
         rw [List.reverse_append]
         simpa using this
       · have h3:=ParNo.after hw b1
         have h4:=ParNo.step (s:=s) (k:=it.k) (f:=⟨257,0,0,0⟩) (by rw [hst]) (by rw [hst];exact h3)
         exact .inr ⟨ParNo.app2 a1 h4,b2⟩
   · have:=dead_take a2 (c:=59) (by decide) (by decide)
     rw [this.1]
     simp only [Bool.false_eq_true,if_false]
     rw [this.2.1]
     exact ⟨.inr ⟨a1.app [⟨257,0,0,0⟩],a2⟩,hmo.1⟩
def IsMin (S:Int->Int->Prop) (f:Int×Int):Prop:=(f=(0,0)/\∀ err a,¬ S err a)\/(f.1≠0/\S f.1 f.2/\∀ err a,S err a->f.2<a\/(f.2=a/\f.1<=err))
theorem IsMin.congr {S S':Int->Int->Prop} {f:Int×Int} (h:IsMin S f) (e:∀ err a,S err a↔S' err a):IsMin S' f:=by
 rcases h with ⟨h1,h2⟩ | ⟨h1,h2,h3⟩
 · exact .inl ⟨h1,fun err a hs=>h2 err a ((e err a).2 hs)⟩
 · exact .inr ⟨h1,(e _ _).1 h2,fun err a hs=>h3 err a ((e err a).2 hs)⟩
theorem IsMin.unique {S:Int->Int->Prop} {f g:Int×Int} (h:IsMin S f) (k:IsMin S g):f=g:=by
 rcases h with ⟨h1,h2⟩ | ⟨h1,h2,h3⟩
 · rcases k with ⟨k1,k2⟩ | ⟨k1,k2,k3⟩
   · rw [h1,k1]
   · exact absurd k2 (h2 _ _)
 · rcases k with ⟨k1,k2⟩ | ⟨k1,k2,k3⟩
   · exact absurd h2 (k2 _ _)
   · have a1:=h3 _ _ k2
     have a2:=k3 _ _ h2
     have e1:f.1=g.1:=by omega
     have e2:f.2=g.2:=by omega
     exact Prod.ext e1 e2
theorem fnd_min {S:Int->Int->Prop} {f:Int×Int} (h:IsMin S f) (e x:Int) (he:e≠0):IsMin (fun err a=>S err a\/(err=e/\a=x)) (fnd f e x):=by
 unfold fnd
 split
 · next hc =>
   refine .inr ⟨he,.inr ⟨rfl,rfl⟩,fun err a hs=>?_⟩
   rcases hs with hs | ⟨rfl,rfl⟩
   · rcases h with ⟨_,h2⟩ | ⟨h1,h2,h3⟩
     · exact absurd hs (h2 _ _)
     · have:=h3 err a hs
       rcases hc with hc | hc | hc
       · exact absurd hc h1
       · simp only;omega
       · simp only;omega
   · exact .inr ⟨rfl,Int.le_refl _⟩
 · next hc =>
   rcases h with ⟨h1,_⟩ | ⟨h1,h2,h3⟩
   · exact absurd (.inl (by rw [h1])) hc
   · refine .inr ⟨h1,.inl h2,fun err a hs=>?_⟩
     rcases hs with hs | ⟨rfl,rfl⟩
     · exact h3 err a hs
     · have c2:¬ a<f.2:=fun h=>hc (.inr (.inl h))
       have c3:¬ (a=f.2/\err<f.1):=fun h=>hc (.inr (.inr h))
       omega
theorem ite_min {S T:Int->Int->Prop} {f g:Int×Int} {c:Prop} [Decidable c] (h:IsMin S f) (hg:c->IsMin (fun err a=>S err a\/T err a) g):IsMin (fun err a=>S err a\/(c/\T err a)) (if c then g else f):=by
 split
 · next hc=>exact (hg hc).congr (fun err a=>by simp [hc])
 · next hc=>exact h.congr (fun err a=>by simp [hc])
theorem fnum_min {S:Int->Int->Prop} {f:Int×Int} (h:IsMin S f) (v x lo hi:Int):IsMin (fun err a=>S err a\/((v<lo\/hi<v)/\err=6/\a=x)) (fnum f v x lo hi):=ite_min h (fun _=>fnd_min h 6 x (by decide))
def FItm (c:Int) (x:IM) (err a:Int):Prop:=((c=123\/c=102\/c=119)/\(x.num<0\/63<x.num)/\err=6/\a=x.at_)\/(c=119/\(x.wv<1\/1000<x.wv)/\err=6/\a=x.wa)\/(c=103/\(x.num<0\/99<x.num)/\err=6/\a=x.at_)
theorem fItem_min {S:Int->Int->Prop} {f:Int×Int} (h:IsMin S f) (c:Int) (x:IM):IsMin (fun err a=>S err a\/FItm c x err a) (fItem c x f):=by
 unfold fItem
 split
 · next hc =>
   refine (fnum_min h x.num x.at_ 0 63).congr fun err a=>?_
   unfold FItm
   rcases hc with rfl | rfl<;>simp
 · next h1 =>
   split
   · next hc =>
     subst hc
     refine (fnum_min (fnum_min h x.num x.at_ 0 63) x.wv x.wa 1 1000).congr fun err a=>?_
     unfold FItm
     simp [or_assoc]
   · next h2 =>
     split
     · next hc =>
       subst hc
       refine (fnum_min h x.num x.at_ 0 99).congr fun err a=>?_
       unfold FItm
       simp
     · next h3 =>
       refine h.congr fun err a=>?_
       have:c≠123/\c≠102:=⟨fun e=>h1 (.inl e),fun e=>h1 (.inr e)⟩
       unfold FItm
       simp [this.1,this.2,h2,h3]
theorem fIt_min {S:Int->Int->Prop} {f:Int×Int} (h:IsMin S f) (c:Int) (l:List IM) (j:Nat) (x:IM) (hj:j<l.length):IsMin (fun err a=>S err a\/FIm c (l.take j) x err a) (fIt c l j x f):=by
 have h1:IsMin (fun err a=>S err a\/(16<=j/\err=4/\a=x.at_)) (if 16<=j then fnd f 4 x.at_ else f):=ite_min h (fun _=>fnd_min h 4 x.at_ (by decide))
 have h2:=ite_min (c:=(l.take j).any (fun y=>sameI y x)=true) h1 (fun _=>fnd_min h1 7 x.at_ (by decide))
 have h3:=fItem_min h2 c x
 refine h3.congr fun err a=>?_
 have:(l.take j).length=j:=by rw [List.length_take];omega
 unfold FIm FItm
 rw [this]
 simp only [or_assoc]
theorem FIs_app (c:Int) (A B:List IM) (err a:Int):∀ pre,FIs c pre (A++B) err a↔FIs c pre A err a\/FIs c (pre++A) B err a:=by
 induction A with
 | nil=>intro P;simp [FIs]
 | cons g r ih =>
   intro P
   simp only [List.cons_append,FIs]
   rw [ih (P++[g]),List.append_assoc,List.singleton_append,or_assoc]
theorem fIts_min {S:Int->Int->Prop} {f:Int×Int} (h:IsMin S f) (c:Int) (l:List IM):∀ n,n<=l.length->IsMin (fun err a=>S err a\/FIs c [] (l.take n) err a) (fIts c l f n):=by
 intro n
 induction n with
 | zero=>intro _;exact h.congr (fun err a=>by simp [FIs])
 | succ n ih =>
   intro hn
   have hx:l[n]?=some l[n]:=List.getElem?_eq_getElem (by omega)
   simp only [fIts,hx]
   refine (fIt_min (ih (by omega)) c l n l[n] (by omega)).congr fun err a=>?_
   rw [List.take_add_one,hx]
   simp only [Option.toList]
   rw [FIs_app]
   simp [FIs,or_assoc]
theorem fExpr_min {S:Int->Int->Prop} {f:Int×Int} (h:IsMin S f) (e:EX):IsMin (fun err a=>S err a\/FEx e err a) (fExpr e f):=by
 have h1:IsMin (fun err a=>S err a\/(12<=e.depth/\err=3/\a=e.at_)) (if 12<=e.depth then fnd f 3 e.at_ else f):=ite_min h (fun _=>fnd_min h 3 e.at_ (by decide))
 unfold fExpr
 simp only
 generalize (if 12<=e.depth then fnd f 3 e.at_ else f)=f1 at *
 split
 · next hc =>
   refine (fnum_min h1 e.nv e.na 1 86400).congr fun err a=>?_
   unfold FEx
   simp [hc,or_assoc]
 · next c1 =>
   split
   · next hc =>
     refine (fnum_min h1 e.nv e.na 0 15).congr fun err a=>?_
     unfold FEx
     simp [hc,or_assoc]
   · next c2 =>
     split
     · next hc =>
       refine (ite_min (c:=e.inner=-1) h1 (fun _=>fnd_min h1 5 e.na (by decide))).congr fun err a=>?_
       unfold FEx
       simp [hc,or_assoc]
     · next c3 =>
       refine h1.congr fun err a=>?_
       unfold FEx
       simp [c1,c2,c3]
theorem fExs_min {S:Int->Int->Prop} {f:Int×Int} (h:IsMin S f) (es:List EX):∀ n,n<=es.length->IsMin (fun err a=>S err a\/FE (es.take n) err a) (fExs es f n):=by
 intro n
 induction n with
 | zero=>intro _;exact h.congr (fun err a=>by simp [FE])
 | succ n ih =>
   intro hn
   have hx:es[n]?=some es[n]:=List.getElem?_eq_getElem (by omega)
   simp only [fExs,hx]
   refine (fIts_min (fExpr_min (ih (by omega)) es[n]) es[n].kind es[n].items es[n].items.length (Nat.le_refl _)).congr fun err a=>?_
   rw [List.take_length,List.take_add_one,hx]
   simp only [Option.toList]
   rw [FE_app,FE_one,or_assoc,or_assoc]
theorem FRs_app (A B:List RL) (err a:Int):∀ pre,FRs pre (A++B) err a↔FRs pre A err a\/FRs (pre++A) B err a:=by
 induction A with
 | nil=>intro P;simp [FRs]
 | cons g r ih =>
   intro P
   simp only [List.cons_append,FRs]
   rw [ih (P++[g]),List.append_assoc,List.singleton_append,or_assoc]
theorem fRls_min {S:Int->Int->Prop} {f:Int×Int} (h:IsMin S f) (rs:List RL):∀ n,n<=rs.length->IsMin (fun err a=>S err a\/FRs [] (rs.take n) err a) (fRls rs f n):=by
 intro n
 induction n with
 | zero=>intro _;exact h.congr (fun err a=>by simp [FRs])
 | succ n ih =>
   intro hn
   have hx:rs[n]?=some rs[n]:=List.getElem?_eq_getElem (by omega)
   simp only [fRls,hx]
   have h1:=ih (by omega)
   have h2:IsMin (fun err a=>(S err a\/FRs [] (rs.take n) err a)\/(nmdR rs[n].nv (rs.take n)≠-1/\err=5/\a=rs[n].na)) (if nmdR rs[n].nv (rs.take n)=-1 then fRls rs f n else fnd (fRls rs f n) 5 rs[n].na):=by
     split
     · next hc=>exact h1.congr (fun err a=>by simp [hc])
     · next hc=>exact (fnd_min h1 5 _ (by decide)).congr (fun err a=>by simp [hc])
   refine h2.congr fun err a=>?_
   rw [List.take_add_one,hx]
   simp only [Option.toList]
   rw [FRs_app]
   simp [FRs,or_assoc]
theorem fAll_min (es:List EX) (rs:List RL):IsMin (fun err a=>FE es err a\/FRs [] rs err a) (fAll es rs):=by
 have h0:IsMin (fun _ _=>False) (0,0):=.inl ⟨rfl,fun _ _ h=>h⟩
 have h1:=fRls_min h0 rs rs.length (Nat.le_refl _)
 have h2:=fExs_min h1 es es.length (Nat.le_refl _)
 refine h2.congr fun err a=>?_
 rw [List.take_length,List.take_length]
 simp only [false_or]
 exact or_comm
end Go.Proofs.YtaebngpoagjafaaGreat
