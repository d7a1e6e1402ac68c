/-
  OUR OWN.
-/
import Derived.Test.YtaebngpoagjafaaGreatU34
import Derived.Test.YtaebngpoagjafaaGreatU31
import Derived.Test.YtaebngpoagjafaaGreatU26
set_option maxRecDepth 100000
namespace Go.Proofs.YtaebngpoagjafaaGreat
open Go.RowKit
theorem there_th (A B:List SG) (g:SG):thereB (A++g::B) A.length g=th A g:=by
 unfold thereB th
 have e1:(A++g::B).take (A.length+1)=A++[g]:=by
   rw [show A++g::B=(A++[g])++B from by simp]
   exact List.take_left' (by simp)
 rw [e1,List.reverse_append]
 simp only [List.reverse_cons,List.reverse_nil,List.nil_append,List.singleton_append]
 have h:=lastR_le (g::A.reverse)
 simp only [List.length_cons,List.length_reverse] at h
 have e2:(A++g::B).take (lastR (g::A.reverse)-1)=A.take (lastR (g::A.reverse)-1):=by
   rw [List.take_append_of_le_length (by omega)]
 rw [e2]
theorem flt_min (A B:List SG) (g:SG):(flt (A++g::B) A.length g=0/\∀ err,¬ ErT A g err)\/(flt (A++g::B) A.length g≠0/\ErT A g (flt (A++g::B) A.length g)/\∀ err,ErT A g err->flt (A++g::B) A.length g<=err):=by
 have hm:16<=manyN (A++g::B) A.length g↔g.list≠-1/\16<=befN g A:=by
   unfold manyN
   rw [List.take_left,befN_rev]
   by_cases h:g.list=-1
   · rw [if_pos h];simp [h]
   · rw [if_neg h];simp [h];omega
 have hs:sameB (A++g::B) A.length g=true↔g.list≠-1/\befS g A=true:=by
   unfold sameB
   rw [List.take_left,befS_rev]
   by_cases h:g.list=-1
   · rw [if_pos h];simp [h]
   · rw [if_neg h];simp [h]
 unfold flt fltV fltC
 rw [there_th]
 unfold ErT
 by_cases c3:g.kind=3/\12<=g.depth
 · rw [if_pos c3]
   refine .inr ⟨by decide,.inl ⟨rfl,c3⟩,fun err h=>?_⟩
   rcases h with h | h | h | h | h<;>omega
 · rw [if_neg c3]
   by_cases c4':16<=manyN (A++g::B) A.length g
   · rw [if_pos c4']
     have c4:=hm.1 c4'
     refine .inr ⟨by decide,.inr (.inl ⟨rfl,c4⟩),fun err h=>?_⟩
     rcases h with h | h | h | h | h
     · exact absurd h.2 c3
     all_goals omega
   · rw [if_neg c4']
     have c4:¬ (g.list≠-1/\16<=befN g A):=fun h=>c4' (hm.2 h)
     by_cases c5:(g.kind=1/\th A g=true)\/(g.kind=2/\th A g=false)
     · rw [if_pos c5]
       refine .inr ⟨by decide,.inr (.inr (.inl ⟨rfl,c5⟩)),fun err h=>?_⟩
       rcases h with h | h | h | h | h
       · exact absurd h.2 c3
       · exact absurd h.2 c4
       all_goals omega
     · rw [if_neg c5]
       by_cases c6:wrgV g.kind (T.val g.text g.text.size)=true
       · rw [if_pos c6]
         refine .inr ⟨by decide,.inr (.inr (.inr (.inl ⟨rfl,c6⟩))),fun err h=>?_⟩
         rcases h with h | h | h | h | h
         · exact absurd h.2 c3
         · exact absurd h.2 c4
         · exact absurd h.2 c5
         all_goals omega
       · rw [if_neg c6]
         by_cases c7':sameB (A++g::B) A.length g=true
         · rw [if_pos c7']
           have c7:=hs.1 c7'
           refine .inr ⟨by decide,.inr (.inr (.inr (.inr ⟨rfl,c7⟩))),fun err h=>?_⟩
           rcases h with h | h | h | h | h
           · exact absurd h.2 c3
           · exact absurd h.2 c4
           · exact absurd h.2 c5
           · exact absurd h.2 c6
           · omega
         · rw [if_neg c7']
           have c7:¬ (g.list≠-1/\befS g A=true):=fun h=>c7' (hs.2 h)
           refine .inl ⟨rfl,fun err h=>?_⟩
           rcases h with h | h | h | h | h
           · exact c3 h.2
           · exact c4 h.2
           · exact c5 h.2
           · exact c6 h.2
           · exact c7 h.2
theorem FT_place {err a:Int}:∀ (U P:List SG),FT P U err a->∃ g∈U,a=g.place:=by
 intro U
 induction U with
 | nil=>intro P h;exact absurd h id
 | cons g r ih =>
   intro P h
   rcases h with h | h
   · exact ⟨g,by simp,h.1⟩
   · obtain ⟨x,hx,e⟩:=ih _ h
     exact ⟨x,by simp [hx],e⟩
theorem fst_min:∀ (B A:List SG) (n:Nat),B.length<=n->B.Pairwise (fun a b=>a.place<b.place)->IsMin (FT A B) (fstF (A++B) n A.length):=by
 intro B
 induction B with
 | nil =>
   intro A n _ _
   refine .inl ⟨?_,fun err a h=>h⟩
   cases n with
   | zero=>rfl
   | succ n=>simp [fstF]
 | cons g r ih =>
   intro A n hn hst
   obtain ⟨n,rfl⟩:∃ m,n=m+1:=⟨n-1,by simp only [List.length_cons] at hn;omega⟩
   have hg:(A++g::r)[A.length]?=some g:=by simp
   have hp:=List.pairwise_cons.1 hst
   have h2:=ih (A++[g]) n (by simp only [List.length_cons] at hn;omega) hp.2
   rw [List.append_assoc,List.singleton_append,List.length_append] at h2
   simp only [List.length_cons,List.length_nil,Nat.zero_add] at h2
   simp only [fstF,hg]
   rcases flt_min A r g with ⟨h,h'⟩ | ⟨h,h',h3⟩
   · rw [if_pos h]
     refine h2.congr fun err a=>?_
     simp only [FT]
     constructor
     · intro hh;exact .inr hh
     · rintro (hh | hh)
       · exact absurd hh.2 (h' err)
       · exact hh
   · rw [if_neg h]
     refine .inr ⟨h,.inl ⟨rfl,h'⟩,fun err a hh=>?_⟩
     rcases hh with hh | hh
     · exact .inr ⟨hh.1.symm,h3 err hh.2⟩
     · obtain ⟨x,hx,e⟩:=FT_place _ _ hh
       left
       rw [e]
       exact hp.1 x hx
theorem chk_eq (s:ByteArray):chk s=cChk s:=by
 unfold chk cChk
 by_cases h2k:2000<s.size
 · rw [if_pos h2k,if_pos h2k]
 rw [if_neg h2k,if_neg h2k]
 have hP:=(rules_par s (s.size+1) [] 0 0 (Nat.zero_le _) (by omega)).1
 have hC:cRules s (s.size+1) [] 0 0 false=cAll s:=rfl
 rw [hC] at hP
 generalize cAll s=C at *
 obtain ⟨q,hq,_,_,_⟩:=rd0_ends s
 obtain ⟨ok,at_,sg,n⟩:=q
 have hrd:rd s=rdE s (ok,at_,if ok=true then sg else []):=by unfold rd;rw [hq]
 rw [hrd]
 unfold rd0 at hq
 rcases hP with ⟨U,a1,a2,⟨new,a3,a4⟩,a5⟩ | ⟨⟨sg',a1⟩,a2⟩
 · obtain ⟨rfl,rfl,rfl⟩:=a1.det hq
   rw [List.nil_append] at a3
   unfold rdE
   simp only [if_true,a5,a2,Bool.false_or]
   by_cases hlt:C.k<s.size
   · have hch:=T.ch_bd hlt
     rw [if_pos hch.1,decide_eq_true hlt]
     simp
   · have e0:¬ (0:Int)<=T.ch s C.k:=by rw [T.ch_ge hlt];decide
     rw [if_neg e0,decide_eq_false hlt]
     simp only [Bool.false_eq_true,if_false,if_true]
     have h1:=fst_min U.reverse.reverse [] U.reverse.length (by simp) (by rw [List.reverse_reverse];exact a4.st)
     simp only [List.nil_append,List.length_nil] at h1
     rw [List.reverse_reverse] at h1 ⊢
     have h2:IsMin (FT [] U) (fAll C.es C.rs):=by
       refine (fAll_min C.es C.rs).congr fun err a=>?_
       rw [a3]
       exact (a4.fu [] (by simp) RC.nil err a).symm
     have h3:=h1.unique h2
     rw [h3]
     split
     · next h0 =>
       rcases h2 with ⟨e,_⟩ | ⟨e,_⟩
       · exact e
       · exact absurd h0 e
     · rfl
 · obtain ⟨rfl,rfl,rfl⟩:=a1.det hq
   have hbad:(C.b || decide (C.k<s.size))=true:=by
     rcases a2 with h | h
     · rw [h];rfl
     · rw [decide_eq_true (T.dig_lt h),Bool.or_true]
   unfold rdE
   rw [hbad]
   simp
end Go.Proofs.YtaebngpoagjafaaGreat
namespace Go.Proofs.YtaebngpoagjafaaGreat
open Go.RowKit
def sgL (s:ByteArray) (a:Nat):Nat->List Int
 | 0=>[]
 | n+1=>sgL s a n++(if T.bl (T.ch s (a+n))=true then [] else [T.ch s (a+n)])
def bt (s:ByteArray) (a b:Nat):List Int:=sgL s a (b-a)
theorem brL_bt (s:ByteArray):∀ n,brL s n=bt s 0 n:=by
 intro n
 unfold bt
 rw [Nat.sub_zero]
 induction n with
 | zero=>rfl
 | succ n ih=>simp only [brL,sgL,ih,Nat.zero_add]
theorem sgL_app (s:ByteArray) (a n:Nat):∀ m,sgL s a (n+m)=sgL s a n++sgL s (a+n) m:=by
 intro m
 induction m with
 | zero=>simp [sgL]
 | succ m ih =>
   rw [show n+(m+1)=(n+m)+1 from by omega]
   simp only [sgL]
   rw [ih,show a+(n+m)=a+n+m from by omega,List.append_assoc]
theorem bt_app (s:ByteArray) {a b c:Nat} (h1:a<=b) (h2:b<=c):bt s a c=bt s a b++bt s b c:=by
 unfold bt
 rw [show c-a=(b-a)+(c-b) from by omega,sgL_app,show a+(b-a)=b from by omega]
theorem bt_self (s:ByteArray) (a:Nat):bt s a a=[]:=by unfold bt;rw [Nat.sub_self];rfl
theorem bt_one {s:ByteArray} {a:Nat} {c:Int} (h:T.ch s a=c) (hb:T.bl c=false):bt s a (a+1)=[c]:=by
 unfold bt
 rw [show a+1-a=1 from by omega]
 simp [sgL,h,hb]
theorem bt_skip (s:ByteArray):∀ n k,s.size-k<=n->bt s k (T.sk s k)=[]:=by
 intro n
 induction n with
 | zero =>
   intro k h
   have:T.bl (T.ch s k)=false:=by rw [T.ch_ge (by omega)];rfl
   rw [T.sk_here this,bt_self]
 | succ n ih =>
   intro k h
   cases hb:T.bl (T.ch s k) with
   | false=>rw [T.sk_here hb,bt_self]
   | true =>
     have hlt:=T.bl_lt hb
     have hn:=T.sk_next hb
     have hge:=T.sk_ge s (k+1)
     rw [<- hn,bt_app s (b:=k+1) (by omega) hge,ih (k+1) (by omega),List.append_nil]
     unfold bt
     rw [show k+1-k=1 from by omega]
     simp [sgL,hb]
theorem bt_sk (s:ByteArray) (k:Nat):bt s k (T.sk s k)=[]:=bt_skip s (s.size-k) k (Nat.le_refl _)
theorem bt_from {s:ByteArray} {k e:Nat} (h:T.sk s k<=e):bt s k e=bt s (T.sk s k) e:=by
 rw [bt_app s (T.sk_ge s k) h,bt_sk,List.nil_append]
theorem bt_mem {s:ByteArray} {a b:Nat} {x:Int} (h:x∈bt s a b):∃ i,a<=i/\i<b/\x=T.ch s i:=by
 unfold bt at h
 have key:∀ n,x∈sgL s a n->∃ i,a<=i/\i<a+n/\x=T.ch s i:=by
   intro n
   induction n with
   | zero=>intro h;simp [sgL] at h
   | succ n ih =>
     intro h
     simp only [sgL,List.mem_append] at h
     rcases h with h | h
     · obtain ⟨i,h1,h2,h3⟩:=ih h;exact ⟨i,h1,by omega,h3⟩
     · split at h
       · simp at h
       · simp at h;exact ⟨a+n,by omega,by omega,h⟩
 obtain ⟨i,h1,h2,h3⟩:=key _ h
 exact ⟨i,h1,by omega,h3⟩
theorem nmF_digs (s:ByteArray):∀ n j i,j<=i->i<nmF s false n j->T.dig (T.ch s i)=true:=by
 intro n
 induction n with
 | zero=>intro j i h1 h2;simp only [nmF] at h2;omega
 | succ n ih =>
   intro j i h1 h2
   simp only [nmF] at h2
   split at h2
   · next hb =>
     by_cases e:i=j
     · subst e;rw [dig_f] at hb;exact hb
     · exact ih (j+1) i (by omega) h2
   · omega
theorem want_good {s:ByteArray} {c:Int} {k:Nat} {b:Bool} (hc:c≠0) (hb:T.bl c=false) (h:wantB s c k b=false):b=false/\takeK s c k b=T.sk s k+1/\bt s k (takeK s c k b)=[c]:=by
 unfold wantB at h
 split at h
 · next ht =>
   subst h
   have hl:=takeB_lt hc ht
   have e:takeK s c k false=T.sk s k+1:=by unfold takeK;rw [if_pos ht,skip_f]
   refine ⟨rfl,e,?_⟩
   rw [e,bt_from (by omega),bt_one hl.2.2 hb]
 · cases h
theorem num_good {s:ByteArray} {k:Nat} {b:Bool} (hk:k<=s.size) (h:numX s k b=false):b=false/\T.sk s k<numK s k b/\Pln (bt s k (numK s k b)):=by
 unfold numX at h
 split at h
 · cases h
 · next hne =>
   subst h
   have hge:T.sk s k<=numK s k false:=by have:=(nmF_bd s false (nmL s (skipF s k false) false) (skipF s k false) (skipF_le hk)).1;rw [skip_f] at this;unfold numK nmE;rw [skip_f];exact this
   rw [skip_f] at hne
   refine ⟨rfl,by omega,fun x hx=>?_⟩
   rw [bt_from hge] at hx
   obtain ⟨i,h1,h2,rfl⟩:=bt_mem hx
   have:numK s k false=nmF s false (nmL s (T.sk s k) false) (T.sk s k):=by unfold numK nmE;rw [skip_f]
   have:=nmF_digs s (nmL s (T.sk s k) false) (T.sk s k) i h1 (by omega)
   exact .inl ((dig_iff _).1 this)
theorem bits_good {s:ByteArray} {k:Nat} {b:Bool} (hk:k<=s.size) (h:btX s k b=false):b=false/\T.sk s k<btK s k b/\Pln (bt s k (btK s k b)):=by
 unfold btX at h
 split at h
 · cases h
 · next hne =>
   subst h
   have hge:T.sk s k<=btK s k false:=by have:=(btF_bd s false 32 (skipF s k false) (skipF_le hk)).1;rw [skip_f] at this;unfold btK;rw [skip_f];exact this
   rw [skip_f] at hne
   refine ⟨rfl,by omega,fun x hx=>?_⟩
   rw [bt_from hge] at hx
   obtain ⟨i,h1,h2,rfl⟩:=bt_mem hx
   have:btK s k false=btF s false 32 (T.sk s k):=by unfold btK;rw [skip_f]
   have:=btF_bits s 32 (T.sk s k) i h1 (by omega)
   simp [bit] at this
   left;omega
theorem let_good {s:ByteArray} {k:Nat} {b:Bool} (h:letX s k b=false):b=false/\letK s k b=T.sk s k+1/\(97<=T.ch s (T.sk s k)/\T.ch s (T.sk s k)<=122)/\hereF s (skipF s k b) b=T.ch s (T.sk s k)/\bt s k (letK s k b)=[T.ch s (T.sk s k)]:=by
 unfold letX at h
 split at h
 · next hl =>
   subst h
   have hlt:=(letB_lt hl).2
   rw [skip_f] at hlt
   have hch:hereF s (skipF s k false) false=T.ch s (T.sk s k):=by rw [skip_f,here_f,if_pos hlt]
   have hc:97<=T.ch s (T.sk s k)/\T.ch s (T.sk s k)<=122:=by unfold letB at hl;rw [hch] at hl;simpa using hl
   have e:letK s k false=T.sk s k+1:=by unfold letK;rw [if_pos hl,skip_f]
   refine ⟨rfl,e,hc,hch,?_⟩
   rw [e,bt_from (by omega),bt_one rfl (by unfold T.bl;simp;omega)]
 · cases h
theorem szK_succ (E:List EX) (j:Nat):szK E (j+1)=szK E j++[szR E (j+1)]:=rfl
theorem szK_get (E:List EX) {j:Nat}:∀ i,j<i->(szK E i)[j]?=some (szR E (j+1)):=by
 intro i
 induction i with
 | zero=>intro h;omega
 | succ i ih =>
   intro h
   rw [szK_succ]
   by_cases e:j=i
   · subst e
     rw [List.getElem?_append_right (by rw [szK_len];omega),szK_len,Nat.sub_self];rfl
   · rw [List.getElem?_append_left (by rw [szK_len];omega)];exact ih (by omega)
theorem atF_szK (E:List EX) {i j:Nat} (h:j<i):atF (szK E i) (j:Int)=szR E (j+1):=by
 unfold atF
 rw [if_neg (by omega),Int.toNat_natCast,szK_get E i h];rfl
theorem atF_neg (K:List Int):atF K (-1)=0:=by unfold atF;rw [if_pos (by decide)]
def Pos (E:List EX) (m:Nat) (es:List EX):Prop:=∀ i e,es[i]?=some e->E[m+i]?=some e
theorem Pos.left {E:List EX} {m:Nat} {a b:List EX} (h:Pos E m (a++b)):Pos E m a:=fun i e he=>h i e (by rw [List.getElem?_append_left (List.getElem?_eq_some_iff.1 he).1];exact he)
theorem Pos.right {E:List EX} {m:Nat} {a b:List EX} (h:Pos E m (a++b)):Pos E (m+a.length) b:=fun i e he=>by
 have:=h (a.length+i) e (by rw [List.getElem?_append_right (by omega),Nat.add_sub_cancel_left];exact he)
 rw [<- Nat.add_assoc] at this
 exact this
theorem Pos.last {E:List EX} {m:Nat} {a:List EX} {e:EX} (h:Pos E m (a++[e])):E[m+a.length]?=some e:=by
 have:=h.right 0 e rfl
 simpa using this
theorem szR_at {E:List EX} {j:Nat} {e:EX} (h:E[j]?=some e):szR E (j+1)=szE e (szK E j):=by simp only [szR,h]
end Go.Proofs.YtaebngpoagjafaaGreat
namespace Go.Proofs.YtaebngpoagjafaaGreat
open Go.RowKit
structure RK (rs:List RL) (nm:ByteArray) (Kn:List Int) (E:List EX) (lim:Nat):Prop where
 len:Kn.length=rs.length
 at_:∀ i r,rs[i]?=some r->T.ch nm i=r.nv/\∃ j:Nat,r.ex=(j:Int)/\j<lim/\Kn[i]?=some (szR E (j+1))
theorem kn_eq {rs:List RL} {nm:ByteArray} {Kn:List Int} {E:List EX} {lim:Nat} (h:RK rs nm Kn E lim) (v:Int) {i:Nat} (hi:lim<=i):knL nm v Kn 0=atF (szK E i) (nmdR v rs):=by
 have key:∀ (rs:List RL) (Kn:List Int) (o:Nat),Kn.length=rs.length->(∀ i r,rs[i]?=some r->T.ch nm (o+i)=r.nv/\∃ j:Nat,r.ex=(j:Int)/\j<lim/\Kn[i]?=some (szR E (j+1)))->knL nm v Kn o=atF (szK E i) (nmdR v rs):=by
   intro rs
   induction rs with
   | nil =>
     intro Kn o hl _
     have:Kn=[]:=List.eq_nil_of_length_eq_zero hl
     subst this
     simp [knL,nmdR,atF_neg]
   | cons r l ih =>
     intro Kn o hl hh
     cases Kn with
     | nil=>simp at hl
     | cons q Kr =>
       have h0:=hh 0 r rfl
       obtain ⟨j,h1,h2,h3⟩:=h0.2
       simp at h3
       simp only [knL,nmdR]
       rw [Nat.add_zero] at h0
       rw [h0.1]
       split
       · rw [h1,atF_szK E (by omega),h3]
       · exact ih Kr (o+1) (by simpa using hl) (fun i r' hr=>by
           have:=hh (i+1) r' hr
           rw [show o+(i+1)=o+1+i from by omega] at this
           simpa using this)
 exact key rs Kn 0 h.len (fun i r hr=>by have:=h.at_ i r hr;rw [Nat.zero_add];exact this)
theorem take_yes {s:ByteArray} {c:Int} {k:Nat} (hc:c≠0) (hb:T.bl c=false) (h:takeB s c k false=true):takeK s c k false=T.sk s k+1/\bt s k (takeK s c k false)=[c]:=by
 have hl:=takeB_lt hc h
 have e:takeK s c k false=T.sk s k+1:=by unfold takeK;rw [if_pos h,skip_f]
 exact ⟨e,by rw [e,bt_from (by omega),bt_one hl.2.2 hb]⟩
theorem take_no {s:ByteArray} {c:Int} {k:Nat} (h:takeB s c k false=false):bt s k (takeK s c k false)=[]:=by
 have e:takeK s c k false=T.sk s k:=by unfold takeK;rw [if_neg (by rw [h];decide),skip_f]
 rw [e,bt_sk]
theorem Pln.app {a b:List Int} (h:Pln a) (k:Pln b):Pln (a++b):=fun c hc=>(List.mem_append.1 hc).elim (h c) (k c)
theorem joi_cons (c:Int) (x:List Int) {l:List (List Int)} (h:l≠[]):joi c (x::l)=x++[c]++joi c l:=by
 cases l with
 | nil=>exact absurd rfl h
 | cons y r=>rfl
theorem itemP_good {s:ByteArray} {ex:Int->Nat->Nat->Bool->CR} {c:Int} (hc:c=123\/c=102\/c=119) (d:Int) (m k:Nat) (hk:k<=s.size) (h:(cItem ex s c d m k false).b=false) :
   (cItem ex s c d m k false).es=[]/\(cItem ex s c d m k false).im.arm=-1/\Pln (bt s k (cItem ex s c d m k false).k):=by
 have hp0:=T.sk_le hk
 have hge:=T.sk_ge s k
 have hplain:numX s (T.sk s k) false=false->Pln (bt s k (numK s (T.sk s k) false)):=fun hh=>by
   have h1:=num_good hp0 hh
   have:=sk_sk s k
   rw [bt_from (by omega)]
   exact h1.2.2
 rcases hc with rfl | rfl | rfl
 · unfold cItem at h ⊢
   simp only [skip_f] at h ⊢
   exact ⟨rfl,rfl,hplain h⟩
 · unfold cItem at h ⊢
   simp only [skip_f] at h ⊢
   exact ⟨rfl,rfl,hplain h⟩
 · have e:cItem ex s 119 d m k false=⟨⟨T.sk s k,numV s (T.sk s k) false,0,0,numV s (takeK s 42 (numK s (T.sk s k) false) (numX s (T.sk s k) false)) (wantB s 42 (numK s (T.sk s k) false) (numX s (T.sk s k) false)),skipF s (takeK s 42 (numK s (T.sk s k) false) (numX s (T.sk s k) false)) (wantB s 42 (numK s (T.sk s k) false) (numX s (T.sk s k) false)),-1⟩,[],numK s (takeK s 42 (numK s (T.sk s k) false) (numX s (T.sk s k) false)) (wantB s 42 (numK s (T.sk s k) false) (numX s (T.sk s k) false)),numX s (takeK s 42 (numK s (T.sk s k) false) (numX s (T.sk s k) false)) (wantB s 42 (numK s (T.sk s k) false) (numX s (T.sk s k) false))⟩:=by unfold cItem;rw [skip_f];rfl
   rw [e] at h ⊢
   refine ⟨rfl,rfl,?_⟩
   simp only at h ⊢
   have hk1:=numK_le (b:=false) hp0
   have hk2:takeK s 42 (numK s (T.sk s k) false) (numX s (T.sk s k) false)<=s.size:=takeK_le (by decide) hk1
   have h3:=num_good hk2 h
   have h4:=want_good (by decide) (by decide) h3.1
   have h5:=hplain h4.1
   have hg1:=numK_ge (b:=false) hp0
   have hg2:=takeK_ge s 42 (numK s (T.sk s k) false) (numX s (T.sk s k) false)
   have hg3:=numK_ge (b:=wantB s 42 (numK s (T.sk s k) false) (numX s (T.sk s k) false)) hk2
   rw [bt_app s (b:=numK s (T.sk s k) false) (by omega) (by omega),bt_app s (a:=numK s (T.sk s k) false) hg2 hg3,h4.2.2]
   exact h5.app (Pln.app (fun x hx=>by simp at hx;exact .inr hx) h3.2.2)
theorem itemsP_good {s:ByteArray} {ex:Int->Nat->Nat->Bool->CR} (hM:ExMono ex s) {c:Int} (hc:c=123\/c=102\/c=119) (d:Int):∀ (N m k:Nat),k<=s.size->s.size+1<=N+k->(cItems ex s c d N m k false).b=false ->
   (cItems ex s c d N m k false).es=[]/\(∀ x∈(cItems ex s c d N m k false).ims,x.arm=-1)/\∃ L:List (List Int),L.length=(cItems ex s c d N m k false).ims.length/\L≠[]/\(∀ x∈L,Pln x)/\bt s k (cItems ex s c d N m k false).k=joi 44 L:=by
 intro N
 induction N with
 | zero=>intro m k h1 h2;omega
 | succ N ih =>
   intro m k hk hN hb
   have hmo:=cItem_mono hM c d m k false hk
   have hit:=itemP_good (ex:=ex) hc d m k hk
   simp only [cItems] at hb ⊢
   generalize cItem ex s c d m k false=it at *
   have htl:∀ b,takeK s 44 it.k b<=s.size:=fun b=>takeK_le (by decide) hmo.2.1
   have htg:=takeK_ge s 44 it.k it.b
   have hitb:it.b=false:=by
     cases hq:it.b with
     | false=>rfl
     | true =>
       rw [hq] at hb
       have hdt:=dead_take (s:=s) (k:=it.k) (b:=true) (c:=44) (.inl rfl) (by decide) (by decide)
       rw [hdt.1] at hb
       simp at hb
   obtain ⟨i1,i2,i3⟩:=hit hitb
   rw [hitb] at hb htg ⊢
   cases ht:takeB s 44 it.k false with
   | false =>
     rw [ht] at hb
     simp only [Bool.false_eq_true,if_false] at hb ⊢
     refine ⟨i1,fun x hx=>by simp at hx;subst hx;exact i2,[bt s k it.k],rfl,by simp,fun x hx=>by simp at hx;subst hx;exact i3,?_⟩
     rw [bt_app s hmo.1 htg,take_no ht,List.append_nil]
     rfl
   | true =>
     rw [ht] at hb
     simp only [if_true] at hb ⊢
     have hty:=take_yes (s:=s) (k:=it.k) (c:=44) (by decide) (by decide) ht
     have hsk:=T.sk_ge s it.k
     obtain ⟨q1,q2,L,q3,q4,q5,q6⟩:=ih (m+it.es.length) (takeK s 44 it.k false) (htl _) (by omega) hb
     have hq:=cItems_mono hM c d N (m+it.es.length) (takeK s 44 it.k false) false (htl _)
     refine ⟨by rw [q1,i1];rfl,fun x hx=>?_,bt s k it.k::L,by simp [q3],by simp,fun x hx=>?_,?_⟩
     · rcases List.mem_cons.1 hx with rfl | hx
       · exact i2
       · exact q2 x hx
     · rcases List.mem_cons.1 hx with rfl | hx
       · exact i3
       · exact q5 x hx
     · rw [joi_cons 44 _ q4,<- q6,bt_app s hmo.1 (c:=(cItems ex s c d N (m+it.es.length) (takeK s 44 it.k false) false).k) (by omega),bt_app s htg hq.1,hty.2,List.append_assoc]
section
variable {s:ByteArray} {nm:ByteArray} {Kn:List Int} {E:List EX} {lim:Nat}
def EG (s nm:ByteArray) (Kn:List Int) (E:List EX) (lim:Nat) (ex:Int->Nat->Nat->Bool->CR) (n:Nat):Prop:=∀ d m k b,k<=s.size->s.size-k<n->(ex d m k b).b=false->lim<=m->Pos E m (ex d m k b).es ->
 1<=(ex d m k b).es.length/\(ex d m k b).idx=((m+(ex d m k b).es.length-1:Nat):Int)/\SZL nm Kn (bt s k (ex d m k b).k) (szR E (m+(ex d m k b).es.length))
structure AR where
 key:List Int
 txt:List Int
 num:Nat
def AR.t (a:AR):List Int:=a.key++[58]++a.txt
theorem itemA_good {ex:Int->Nat->Nat->Bool->CR} {n:Nat} (hM:ExMono ex s) (hB:ExBad ex) (hX:EG s nm Kn E lim ex n) {c:Int} (hc:c=103\/c=109) (d:Int) (m k:Nat) (hk:k<=s.size) (hn:s.size-k<n) (h:(cItem ex s c d m k false).b=false) (hm:lim<=m) (hP:Pos E m (cItem ex s c d m k false).es) :
   ∃ a:AR,Pln a.key/\SZL nm Kn a.txt (szR E (a.num+1))/\a.num<m+(cItem ex s c d m k false).es.length/\(cItem ex s c d m k false).im.arm=(a.num:Int)/\bt s k (cItem ex s c d m k false).k=a.t:=by
 have hp0:=T.sk_le hk
 have hge:=T.sk_ge s k
 have fin:∀ (km kw:Nat) (bm bw:Bool),T.sk s k<=km->km<=s.size->takeK s 58 km bm=kw->wantB s 58 km bm=bw->(bm=false->Pln (bt s k km))->(ex (d+1) m kw bw).b=false->Pos E m (ex (d+1) m kw bw).es->(bw=true->(ex (d+1) m kw bw).b=true) ->
     ∃ a:AR,Pln a.key/\SZL nm Kn a.txt (szR E (a.num+1))/\a.num<m+(ex (d+1) m kw bw).es.length/\(ex (d+1) m kw bw).idx=(a.num:Int)/\bt s k (ex (d+1) m kw bw).k=a.t:=by
   intro km kw bm bw h1 h2 h3 h4 h5 h6 h7 h8
   have hbw:bw=false:=by cases hq:bw with
     | false=>rfl
     | true=>rw [h8 hq] at h6;cases h6
   subst hbw
   have hw:=want_good (by decide) (by decide) h4
   have hkw:kw<=s.size:=by rw [<- h3];exact takeK_le (by decide) h2
   have hg:=takeK_ge s 58 km bm
   obtain ⟨x1,x2,x3⟩:=hX (d+1) m kw false hkw (by omega) h6 hm h7
   have hmo:=hM (d+1) m kw false hkw
   refine ⟨⟨bt s k km,bt s kw (ex (d+1) m kw false).k,m+(ex (d+1) m kw false).es.length-1⟩,h5 hw.1,by simp only;rw [show m+(ex (d+1) m kw false).es.length-1+1=m+(ex (d+1) m kw false).es.length from by omega];exact x3,by simp only;omega,x2,?_⟩
   unfold AR.t
   simp only
   rw [bt_app s (b:=km) (by omega) (by omega),bt_app s (a:=km) (b:=kw) (by omega) hmo.1]
   rw [h3] at hw
   rw [hw.2.2,List.append_assoc]
 rcases hc with rfl | rfl
 · unfold cItem at h hP ⊢
   simp only [skip_f] at h hP ⊢
   exact fin (numK s (T.sk s k) false) _ (numX s (T.sk s k) false) _ (numK_ge hp0) (numK_le hp0) rfl rfl (fun hh=>by
     have h1:=num_good hp0 hh
     rw [bt_from (numK_ge hp0)]
     exact h1.2.2) h hP (fun hh=>by rw [hh];exact hB _ _ _)
 · unfold cItem at h hP ⊢
   simp only [skip_f] at h hP ⊢
   exact fin (btK s (T.sk s k) false) _ (btX s (T.sk s k) false) _ (btK_ge hp0) (btK_le hp0) rfl rfl (fun hh=>by
     have h1:=bits_good hp0 hh
     rw [bt_from (btK_ge hp0)]
     exact h1.2.2) h hP (fun hh=>by rw [hh];exact hB _ _ _)
theorem itemsA_good {ex:Int->Nat->Nat->Bool->CR} {n:Nat} (hM:ExMono ex s) (hB:ExBad ex) (hX:EG s nm Kn E lim ex n) {c:Int} (hc:c=103\/c=109) (d:Int):∀ (N m k:Nat),k<=s.size->s.size+1<=N+k->s.size-k<n->(cItems ex s c d N m k false).b=false->lim<=m->Pos E m (cItems ex s c d N m k false).es ->
   ∃ L:List AR,L.length=(cItems ex s c d N m k false).ims.length/\L≠[]/\(∀ a∈L,Pln a.key/\SZL nm Kn a.txt (szR E (a.num+1))/\a.num<m+(cItems ex s c d N m k false).es.length)/\(cItems ex s c d N m k false).ims.map IM.arm=L.map (fun a=>(a.num:Int))/\bt s k (cItems ex s c d N m k false).k=joi 44 (L.map AR.t):=by
 intro N
 induction N with
 | zero=>intro m k h1 h2;omega
 | succ N ih =>
   intro m k hk hN hn hb hm hP
   have hmo:=cItem_mono hM c d m k false hk
   have hit:=itemA_good hM hB hX hc d m k hk hn
   simp only [cItems] at hb hP ⊢
   generalize cItem ex s c d m k false=it at *
   have htl:∀ b,takeK s 44 it.k b<=s.size:=fun b=>takeK_le (by decide) hmo.2.1
   have htg:=takeK_ge s 44 it.k it.b
   have hitb:it.b=false:=by
     cases hq:it.b with
     | false=>rfl
     | true =>
       rw [hq] at hb
       have hdt:=dead_take (s:=s) (k:=it.k) (b:=true) (c:=44) (.inl rfl) (by decide) (by decide)
       rw [hdt.1] at hb
       simp at hb
   rw [hitb] at hb htg hP ⊢
   cases ht:takeB s 44 it.k false with
   | false =>
     rw [ht] at hb hP
     simp only [Bool.false_eq_true,if_false] at hb hP ⊢
     obtain ⟨a,a1,a2,a3,a4,a5⟩:=hit hitb hm hP
     refine ⟨[a],rfl,by simp,fun x hx=>by simp at hx;subst hx;exact ⟨a1,a2,a3⟩,by simp [a4],?_⟩
     rw [bt_app s hmo.1 htg,take_no ht,List.append_nil,a5]
     rfl
   | true =>
     rw [ht] at hb hP
     simp only [if_true] at hb hP ⊢
     obtain ⟨a,a1,a2,a3,a4,a5⟩:=hit hitb hm hP.left
     have hty:=take_yes (s:=s) (k:=it.k) (c:=44) (by decide) (by decide) ht
     have hsk:=T.sk_ge s it.k
     obtain ⟨L,q1,q2,q3,q4,q5⟩:=ih (m+it.es.length) (takeK s 44 it.k false) (htl _) (by omega) (by omega) hb (by omega) hP.right
     have hq:=cItems_mono hM c d N (m+it.es.length) (takeK s 44 it.k false) false (htl _)
     generalize cItems ex s c d N (m+it.es.length) (takeK s 44 it.k false) false=q at *
     refine ⟨a::L,by simp [q1],by simp,fun x hx=>?_,by simp [a4,q4],?_⟩
     · rcases List.mem_cons.1 hx with rfl | hx
       · exact ⟨a1,a2,by simp only [List.length_append];omega⟩
       · have:=q3 x hx
         exact ⟨this.1,this.2.1,by simp only [List.length_append];omega⟩
     · rw [List.map_cons,joi_cons 44 _ (by simpa using q2),<- q5,bt_app s hmo.1 (c:=q.k) (by omega),bt_app s htg hq.1,hty.2,a5,List.append_assoc]
end
end Go.Proofs.YtaebngpoagjafaaGreat
