/-
  OUR OWN.
-/
import Derived.Test.YtaebngpoagjafaaGreatU04
import Derived.Test.YtaebngpoagjafaaGreatU09
import Derived.WalkSmall
import Derived.RangeFuncBox
set_option maxRecDepth 100000
namespace Go.Proofs.YtaebngpoagjafaaGreat
open Go.RowKit
theorem T.dig_lt {s:ByteArray} {k:Nat} (h:T.dig (T.ch s k)=true):k<s.size:=by
 by_cases hk:k<s.size
 · exact hk
 · rw [T.ch_ge hk] at h;simp [T.dig] at h
theorem T.ch_nn {s:ByteArray} {k:Nat} (h:0<=T.ch s k):k<s.size:=by
 by_cases hk:k<s.size
 · exact hk
 · rw [T.ch_ge hk] at h;omega
theorem T.dgF_bd (s:ByteArray) (most lim:Int) (plain:Bool) (p:Nat):∀ n j,j<=s.size->j<=(T.dgF s most lim plain p n j).2/\(T.dgF s most lim plain p n j).2<=s.size:=by
 intro n
 induction n with
 | zero=>intro j h;exact ⟨Nat.le_refl _,h⟩
 | succ n ih =>
   intro j h
   cases hd:T.dig (T.ch s j) with
   | false=>rw [T.dgF_end hd];exact ⟨Nat.le_refl _,h⟩
   | true =>
     cases hs:T.stp most lim plain (T.ch s j) ((j:Int)-p) (T.ch s p) with
     | true=>rw [T.dgF_stop hd hs];exact ⟨Nat.le_refl _,h⟩
     | false =>
       rw [T.dgF_next hd hs]
       have:=ih (j+1) (T.dig_lt hd)
       exact ⟨by omega,this.2⟩
theorem T.dg_bd (s:ByteArray) (most lim:Int) (plain:Bool) (p:Nat) (h:p<=s.size):p<=(T.dg s most lim plain p).2/\(T.dg s most lim plain p).2<=s.size:=T.dgF_bd s most lim plain p _ p h
def leaf (f:FR):Prop:=0<=f.sym/\f.sym≠256/\f.sym≠257/\f.sym≠258/\f.sym≠259/\f.sym≠260
def Fst (l:List FR) (d:Int):Prop:=l=[]\/∃ f r,l=f::r/\leaf f/\r.length<=6/\(∀ g∈l,0<=g.sym/\0<=g.depth/\g.depth<=d+1)
structure SF (s:ByteArray) (k:Nat) (f:FR) (r:Res):Prop where
 lo:k<=r.at_
 hi:r.at_<=s.size
 sg:r.sg.length<=1
 fst:Fst r.push f.depth
 no:r.ok=false->r.push=[]/\r.sg=[]
 lf:leaf f->r.push=[]/\(r.ok=true->k+1<=r.at_)
theorem fst_leaf_byte {c:Int} (h:0<=c) (h2:c<256):leaf (byF c):=⟨h,by show c≠256;omega,by show c≠257;omega,by show c≠258;omega,by show c≠259;omega,by show c≠260;omega⟩
theorem exprL_fst (d:Int) (p:Nat) (c:Int) (l:List FR) (hd:0<=d) (h:exprL d p c=some l):Fst l d:=by
 have key:∀ (c0:Int) (r:List FR),0<=c0->c0<256->r.length<=6->(∀ g∈r,0<=g.sym/\0<=g.depth/\g.depth<=d+1)->Fst (byF c0::r) d:=fun c0 r h0 h1 h2 h3 =>
   .inr ⟨byF c0,r,rfl,fst_leaf_byte h0 h1,h2,by
     intro g hg
     rcases List.mem_cons.1 hg with rfl | hg
     · exact ⟨h0,by show (0:Int)<=0;omega,by show (0:Int)<=d+1;omega⟩
     · exact h3 g hg⟩
 unfold exprL at h
 repeat' split at h
 all_goals first
   | (simp at h;done)
   | (injection h with h;subst h;refine key _ _ (by omega) (by omega) (by simp) ?_;simp [byF];omega)
theorem itemL_fst (f:FR) (hd:0<=f.depth):Fst (itemL f) f.depth:=by
 have key:∀ (f0:FR) (r:List FR),leaf f0->r.length<=6->(∀ g∈f0::r,0<=g.sym/\0<=g.depth/\g.depth<=f.depth+1)->Fst (f0::r) f.depth:=fun f0 r h0 h2 h3=>.inr ⟨f0,r,rfl,h0,h2,h3⟩
 unfold itemL
 repeat' split
 all_goals (refine key _ _ (by simp [leaf]) (by simp) ?_;simp [byF];try omega)
theorem stepR_sf (s:ByteArray) (k:Nat) (f:FR) (hk:k<=s.size) (hs:0<=f.sym) (hd:0<=f.depth):SF s k f (stepR s k f):=by
 have h1:=T.sk_ge s k
 have h2:=T.sk_le hk
 unfold stepR
 generalize T.sk s k=p at *
 simp only
 split
 · next e=>exact ⟨h1,h2,by simp,.inr ⟨_,_,rfl,by simp [leaf],by simp,by simp [byF];omega⟩,by simp,fun hl=>absurd e hl.2.1⟩
 · split
   · next e =>
     split
     · exact ⟨h1,h2,by simp,.inr ⟨_,_,rfl,fst_leaf_byte (by omega) (by omega),by simp,by simp [byF];omega⟩,by simp,fun hl=>absurd e hl.2.2.1⟩
     · exact ⟨h1,h2,by simp,.inl rfl,by simp,fun hl=>absurd e hl.2.2.1⟩
   · split
     · next e =>
       split
       · next l hl=>exact ⟨h1,h2,by simp,exprL_fst _ _ _ _ hd hl,by simp,fun hl=>absurd e hl.2.2.2.1⟩
       · exact ⟨h1,h2,by simp,.inl rfl,by simp,fun hl=>absurd e hl.2.2.2.1⟩
     · split
       · next e=>exact ⟨h1,h2,by simp,itemL_fst f hd,by simp,fun hl=>absurd e hl.2.2.2.2.1⟩
       · split
         · next e =>
           split
           · exact ⟨h1,h2,by simp,.inr ⟨_,_,rfl,fst_leaf_byte (by omega) (by omega),by simp,by simp [byF];omega⟩,by simp,fun hl=>absurd e hl.2.2.2.2.2⟩
           · exact ⟨h1,h2,by simp,.inl rfl,by simp,fun hl=>absurd e hl.2.2.2.2.2⟩
         · split
           · have:=T.dg_bd s 9 58 true p h2
             split
             · next hc=>simp at hc;exact ⟨by show k<=(T.dg s 9 58 true p).2;omega,this.2,by simp,.inl rfl,by simp,fun _=>⟨rfl,fun _=>by show k+1<=(T.dg s 9 58 true p).2;omega⟩⟩
             · exact ⟨by show k<=(T.dg s 9 58 true p).2;omega,this.2,by simp,.inl rfl,by simp,fun _=>⟨rfl,by simp⟩⟩
           · split
             · have:=T.dg_bd s 32 50 false p h2
               split
               · next hc=>simp at hc;exact ⟨by show k<=(T.dg s 32 50 false p).2;omega,this.2,by simp,.inl rfl,by simp,fun _=>⟨rfl,fun _=>by show k+1<=(T.dg s 32 50 false p).2;omega⟩⟩
               · exact ⟨by show k<=(T.dg s 32 50 false p).2;omega,this.2,by simp,.inl rfl,by simp,fun _=>⟨rfl,by simp⟩⟩
             · split
               · split
                 · next hc =>
                   have:=T.ch_nn (s:=s) (k:=p) (by omega)
                   exact ⟨by show k<=p+1;omega,by show p+1<=s.size;omega,by simp,.inl rfl,by simp,fun _=>⟨rfl,fun _=>by show k+1<=p+1;omega⟩⟩
                 · exact ⟨h1,h2,by simp,.inl rfl,by simp,fun _=>⟨rfl,by simp⟩⟩
               · split
                 · next hc =>
                   have:=T.ch_nn (s:=s) (k:=p) (by omega)
                   exact ⟨by show k<=p+1;omega,by show p+1<=s.size;omega,by simp,.inl rfl,by simp,fun _=>⟨rfl,fun _=>by show k+1<=p+1;omega⟩⟩
                 · exact ⟨h1,h2,by simp,.inl rfl,by simp,fun _=>⟨rfl,by simp⟩⟩
def runM (s:ByteArray):Nat->Nat->List FR->List SG->Option (Bool×Nat×List SG)
 | _,k,[],gs=>some (true,k,gs)
 | 0,_,_::_,_=>none
 | n+1,k,f::fs,gs =>
   if (stepR s k f).ok=true then runM s n (stepR s k f).at_ ((stepR s k f).push++fs) ((stepR s k f).sg++gs) else some (false,(stepR s k f).at_,[])
structure PR where
 ok:Bool
 at_:Nat
 sg:List SG
 n:Nat
def pL (one:Nat->FR->Option PR):Nat->List FR->Option PR
 | k,[]=>some ⟨true,k,[],0⟩
 | k,f::fs=>match one k f with
   | none=>none
   | some a=>if a.ok=true then (match pL one a.at_ fs with
     | none=>none
     | some b=>some ⟨b.ok,b.at_,b.sg++a.sg,a.n+b.n⟩) else some a
def pF (s:ByteArray):Nat->Nat->FR->Option PR
 | 0,_,_=>none
 | n+1,k,f =>
   if (stepR s k f).ok=true then (match pL (pF s n) (stepR s k f).at_ (stepR s k f).push with
     | none=>none
     | some q=>some ⟨q.ok,q.at_,q.sg++(stepR s k f).sg,q.n+1⟩) else some ⟨false,(stepR s k f).at_,[],1⟩
def After (s:ByteArray) (q:PR) (k:Nat) (l:List FR):Prop:=∀ N fs gs,runM s (N+q.n) k (l++fs) gs=if q.ok=true then runM s N q.at_ fs (q.sg++gs) else some (false,q.at_,[])
theorem pL_after (s:ByteArray) (one:Nat->FR->Option PR) (h1:∀ k f q,one k f=some q->After s q k [f]):∀ (l:List FR) (k:Nat) (q:PR),pL one k l=some q->After s q k l:=by
 intro l
 induction l with
 | nil =>
   intro k q h
   simp only [pL] at h
   injection h with h
   subst h
   intro N fs gs
   simp
 | cons f r ih =>
   intro k q h N fs gs
   simp only [pL] at h
   split at h
   · simp at h
   · next a ha =>
     have hA:=h1 k f a ha
     split at h
     · next hok =>
       split at h
       · simp at h
       · next b hb =>
         injection h with h
         subst h
         have hB:=ih a.at_ b hb
         have e:=hA (N+b.n) (r++fs) gs
         rw [if_pos hok] at e
         simp only [List.cons_append,List.nil_append] at e ⊢
         rw [show N+(a.n+b.n)=N+b.n+a.n from by omega,e,hB,List.append_assoc]
     · next hok =>
       injection h with h
       subst h
       have e:=hA N (r++fs) gs
       simpa [hok] using e
theorem pF_after (s:ByteArray):∀ (n k:Nat) (f:FR) (q:PR),pF s n k f=some q->After s q k [f]:=by
 intro n
 induction n with
 | zero=>intro k f q h;simp [pF] at h
 | succ n ih =>
   intro k f q h N fs gs
   simp only [pF] at h
   split at h
   · next hok =>
     split at h
     · simp at h
     · next b hb =>
       injection h with h
       subst h
       have hB:=pL_after s (pF s n) ih _ _ _ hb
       have e:=hB N fs ((stepR s k f).sg++gs)
       simp only [List.cons_append,List.nil_append]
       rw [show N+(b.n+1)=(N+b.n)+1 from by omega,runM,if_pos hok,e,List.append_assoc]
   · next hok =>
     injection h with h
     subst h
     simp only [List.cons_append,List.nil_append,runM,hok]
     simp
structure Ends (s:ByteArray) (k:Nat) (q:PR) (c:Nat):Prop where
 lo:k<=q.at_
 hi:q.at_<=s.size
 yes:q.ok=true->q.n+c<=16*(q.at_-k)+1
 no:q.ok=false->q.n<=16*(s.size-k)+4
theorem pL_ends (s:ByteArray) (one:Nat->FR->Option PR) (k0:Nat) (h1:∀ k f,k0<=k->k<=s.size->0<=f.sym->0<=f.depth->∃ q,one k f=some q/\Ends s k q 0) :
   ∀ (l:List FR) (k:Nat),k0<=k->k<=s.size->(∀ f∈l,0<=f.sym/\0<=f.depth)->∃ q,pL one k l=some q/\k<=q.at_/\q.at_<=s.size/\(q.ok=true->q.n<=16*(q.at_-k)+l.length)/\(q.ok=false->q.n<=16*(s.size-k)+4+l.length):=by
 intro l
 induction l with
 | nil=>intro k hk0 hk _;exact ⟨_,rfl,Nat.le_refl _,hk,by simp,by simp⟩
 | cons f r ih =>
   intro k hk0 hk hl
   obtain ⟨a,ha,hA⟩:=h1 k f hk0 hk (hl f (by simp)).1 (hl f (by simp)).2
   have:=hA.lo
   have:=hA.hi
   cases hok:a.ok with
   | false =>
     refine ⟨a,by simp [pL,ha,hok],by omega,by omega,by simp [hok],fun _=>?_⟩
     have:=hA.no hok
     omega
   | true =>
     obtain ⟨b,hb,b1,b2,b3,b4⟩:=ih a.at_ (by omega) (by omega) (fun g hg=>hl g (by simp [hg]))
     have h3:=hA.yes hok
     refine ⟨⟨b.ok,b.at_,b.sg++a.sg,a.n+b.n⟩,by simp [pL,ha,hok,hb],by simp only;omega,b2,?_,?_⟩
     · intro hbo
       have:=b3 hbo
       simp only [List.length_cons]
       omega
     · intro hbo
       have:=b4 hbo
       simp only [List.length_cons]
       omega
theorem pF_ends (s:ByteArray):∀ (n k:Nat) (f:FR),k<=s.size->0<=f.sym->0<=f.depth->2*(s.size-k)+2<=n->∃ q,pF s n k f=some q/\Ends s k q 0/\(leaf f->q.ok=true->k+1<=q.at_/\q.n=1):=by
 intro n
 induction n using Nat.strongRecOn with
 | ind n ih =>
   intro k f hk hs hd hn
   cases n with
   | zero=>omega
   | succ n =>
     have hS:=stepR_sf s k f hk hs hd
     cases hok:(stepR s k f).ok with
     | false =>
       refine ⟨⟨false,(stepR s k f).at_,[],1⟩,by simp [pF,hok],⟨hS.lo,hS.hi,by simp,by intro _;simp only;omega⟩,by simp⟩
     | true =>
       have hlo:=hS.lo
       have hhi:=hS.hi
       rcases hS.fst with hp | ⟨f0,r,hp,hlf,hr,hall⟩
       · refine ⟨⟨true,(stepR s k f).at_,(stepR s k f).sg,1⟩,by simp [pF,hok,hp,pL],⟨hS.lo,hS.hi,by intro _;simp only;omega,by simp⟩,fun hl _=>⟨(hS.lf hl).2 hok,rfl⟩⟩
       · have hnl:¬ leaf f:=fun hl=>by have:=(hS.lf hl).1;rw [hp] at this;simp at this
         have hf0:=hall f0 (by rw [hp];simp)
         cases n with
         | zero=>omega
         | succ m =>
         -- the leaf
         have hS0:=stepR_sf s (stepR s k f).at_ f0 hS.hi hf0.1 hf0.2.1
         have hp0:=(hS0.lf hlf).1
         cases hok0:(stepR s (stepR s k f).at_ f0).ok with
         | false =>
           refine ⟨⟨false,(stepR s (stepR s k f).at_ f0).at_,(stepR s k f).sg,2⟩,by rw [pF,if_pos hok,hp];simp [pL,pF,hok0],⟨by have:=hS0.lo;simp only;omega,hS0.hi,by simp,by intro _;simp only;omega⟩,fun hl=>absurd hl hnl⟩
         | true =>
           have hk1:=(hS0.lf hlf).2 hok0
           have hk2:=hS0.hi
           have e0:pF s (m+1) (stepR s k f).at_ f0=some ⟨true,(stepR s (stepR s k f).at_ f0).at_,(stepR s (stepR s k f).at_ f0).sg,1⟩:=by rw [pF,if_pos hok0,hp0];simp [pL]
           obtain ⟨b,hb,b1,b2,b3,b4⟩:=pL_ends s (pF s (m+1)) (stepR s (stepR s k f).at_ f0).at_ (fun k' g h1 h2 h3 h4=>by
             obtain ⟨q,hq,hE,_⟩:=ih (m+1) (by omega) k' g h2 h3 h4 (by omega)
             exact ⟨q,hq,hE⟩) r (stepR s (stepR s k f).at_ f0).at_ (Nat.le_refl _) hk2 (fun g hg=>by have:=hall g (by rw [hp];simp [hg]);exact ⟨this.1,this.2.1⟩)
           refine ⟨⟨b.ok,b.at_,b.sg++(stepR s (stepR s k f).at_ f0).sg++(stepR s k f).sg,1+b.n+1⟩,by rw [pF,if_pos hok,hp];simp [pL,e0,hb],⟨by simp only;omega,b2,?_,?_⟩,fun hl=>absurd hl hnl⟩
           · intro hbo
             have:=b3 hbo
             simp only
             omega
           · intro hbo
             have:=b4 hbo
             simp only
             omega
def rd0 (s:ByteArray):Option PR:=pL (pF s (2*s.size+2)) 0 [⟨256,0,0,0⟩,⟨257,0,0,0⟩]
theorem rd0_ends (s:ByteArray):∃ q,rd0 s=some q/\q.at_<=s.size/\q.n<=16*s.size+6/\runM s q.n 0 [⟨256,0,0,0⟩,⟨257,0,0,0⟩] []=some (q.ok,q.at_,if q.ok=true then q.sg else []):=by
 obtain ⟨q,hq,h1,h2,h3,h4⟩:=pL_ends s (pF s (2*s.size+2)) 0 (fun k f _ h2 h3 h4=>by
   obtain ⟨q,hq,hE,_⟩:=pF_ends s (2*s.size+2) k f h2 h3 h4 (by omega)
   exact ⟨q,hq,hE⟩) [⟨256,0,0,0⟩,⟨257,0,0,0⟩] 0 (Nat.le_refl _) (Nat.zero_le _) (by simp)
 have hA:=pL_after s _ (fun k f q h=>pF_after s _ k f q h) _ _ _ hq
 have e:=hA 0 [] []
 simp only [List.append_nil,Nat.zero_add] at e
 refine ⟨q,hq,h2,?_,?_⟩
 · cases hok:q.ok with
   | true=>have:=h3 hok;simp only [List.length_cons,List.length_nil] at this;omega
   | false=>have:=h4 hok;simp only [List.length_cons,List.length_nil] at this;omega
 · rw [e]
   cases hok:q.ok<;>simp [runM]
end Go.Proofs.YtaebngpoagjafaaGreat
namespace Go.Proofs.YtaebngpoagjafaaGreat
open Go.RowKit
theorem below_drewN {b:Nat} {w w':World} (h:Below b w w') (n:Nat):Below b w (w'.drewN n):=⟨h.os,h.tape,h.output,h.size,h.block⟩
theorem RS.pop {w:World} {base B s k gv f fs gs g cap} (h:RS w base B s k (.slice (some ⟨g,0,none⟩) (fs.length+1) cap) gv (f::fs) gs) :
   RS (w.setCell ⟨B,2,none⟩ (.slice (some ⟨g,0,none⟩) fs.length cap)) base B s k (.slice (some ⟨g,0,none⟩) fs.length cap) gv fs gs :=
 ⟨blk4_set h.blk,ownsRow_setCell_other (ownsRow_pop (frC_len fs) h.st) (show (Value.slice (some ⟨g,0,none⟩) fs.length cap).ownBlock≠some B from h.neS) _,ownsRow_setCell_other h.sg h.neG _,h.hB⟩
theorem RS.top {w:World} {base B s k gv f fs gs g cap} (h:RS w base B s k (.slice (some ⟨g,0,none⟩) (fs.length+1) cap) gv (f::fs) gs) :
   w.cell? ⟨g,fs.length*4,none⟩=some (.int .i64 f.sym)/\w.cell? ⟨g,fs.length*4+1,none⟩=some (.int .i64 f.kind)/\w.cell? ⟨g,fs.length*4+2,none⟩=some (.int .i64 f.depth)/\w.cell? ⟨g,fs.length*4+3,none⟩=some (.int .i64 f.list):=by
 have hc:=fun j hj=>World.ownsRow.cellAt h.st j hj
 have hl:=frC_len fs
 have hg:∀ i,i<4->(frC (f::fs))[fs.length*4+i]?=(frV f)[i]?:=fun i hi=>by
   show (frC fs++frV f)[fs.length*4+i]?=_
   rw [List.getElem?_append_right (by omega)]
   congr 1;omega
 have k0:=(hc (fs.length*4) (by show _<(fs.length+1)*4;omega)).trans (hg 0 (by omega))
 have k1:=(hc (fs.length*4+1) (by show _<(fs.length+1)*4;omega)).trans (hg 1 (by omega))
 have k2:=(hc (fs.length*4+2) (by show _<(fs.length+1)*4;omega)).trans (hg 2 (by omega))
 have k3:=(hc (fs.length*4+3) (by show _<(fs.length+1)*4;omega)).trans (hg 3 (by omega))
 exact ⟨k0,k1,k2,k3⟩
theorem RS.nil {w:World} {base B s k sv gv gs} (h:RS w base B s k sv gv [] gs):∃ o cap,sv=.slice o 0 cap:=by
 rcases h.st.2 with ⟨rfl,_⟩ | ⟨g,cap,cur,rfl,_⟩
 · exact ⟨none,0,rfl⟩
 · exact ⟨_,cap,rfl⟩
theorem RS.capLe {w:World} {base B s k gv f fs gs g cap} (h:RS w base B s k (.slice (some ⟨g,0,none⟩) (fs.length+1) cap) gv (f::fs) gs):fs.length+1<=cap:=by
 rcases h.st.2 with ⟨h0,_⟩ | ⟨g',cap',cur,hv,_,_,hn,_⟩
 · cases h0
 · cases hv;exact hn
structure LI (s:ByteArray) (M:Nat) (R:Bool×Nat×List SG) (n k:Nat) (fs:List FR) (gs:List SG):Prop where
 run:runM s n k fs gs=some R
 le:n<=M
 at_:k<=s.size
 fl:fs.length+7*n<=2+7*M
 gl:gs.length+n<=M
 all:∀ f∈fs,0<=f.sym/\0<=f.depth/\f.depth+n<=M
theorem LI.next {s M R n k f fs gs} (h:LI s M R (n+1) k (f::fs) gs) (hok:(stepR s k f).ok=true):LI s M R n (stepR s k f).at_ ((stepR s k f).push++fs) ((stepR s k f).sg++gs):=by
 have hf:=h.all f (by simp)
 have hS:=stepR_sf s k f h.at_ hf.1 hf.2.1
 have hfl:=h.fl
 have hgl:=h.gl
 have hsg:=hS.sg
 have hle:=h.le
 simp only [List.length_cons] at hfl
 have hrun:=h.run
 rw [runM,if_pos hok] at hrun
 have hpl:(stepR s k f).push.length<=7:=by
   rcases hS.fst with hp | ⟨f0,r,hp,_,hr,_⟩
   · rw [hp];simp
   · rw [hp];simp only [List.length_cons];omega
 refine ⟨hrun,by omega,hS.hi,by simp only [List.length_append];omega,by simp only [List.length_append];omega,?_⟩
 intro g hg
 rcases List.mem_append.1 hg with hg | hg
 · rcases hS.fst with hp | ⟨f0,r,hp,_,hr,hall⟩
   · rw [hp] at hg;simp at hg
   · have h1:=hall g hg
     have h2:=hf.2.2
     exact ⟨h1.1,h1.2.1,by omega⟩
 · have h1:=h.all g (by simp [hg])
   exact ⟨h1.1,h1.2.1,by omega⟩
theorem LI.fails {s M R n k f fs gs} (h:LI s M R (n+1) k (f::fs) gs) (hok:(stepR s k f).ok=false):R=(false,(stepR s k f).at_,[]):=by
 have hrun:=h.run
 rw [runM,if_neg (by rw [hok];decide)] at hrun
 injection hrun with hrun
 exact hrun.symm
theorem LI.stops {s M R n k gs} (h:LI s M R n k [] gs):R=(true,k,gs):=by
 have hrun:=h.run
 cases n<;>(simp only [runM] at hrun;injection hrun with hrun;exact hrun.symm)
def rdE (s:ByteArray) (R:Bool×Nat×List SG):Bool×Nat×List SG :=
 if R.1=true then (if 0<=T.ch s (T.sk s R.2.1) then (false,T.sk s R.2.1,[]) else (true,T.sk s R.2.1,R.2.2)) else R
def rd (s:ByteArray):Bool×Nat×List SG:=match rd0 s with
 | none=>(false,0,[])
 | some q=>rdE s (q.ok,q.at_,if q.ok=true then q.sg else [])
def ReadPost (base:Nat) (D:Bool×Nat×List SG) (e:Ending) (w':World):Prop :=
 ∃ v, (D.1 = true /\ e = .returned (.tuple #[v, .int .i64 (-1)]) /\ w'.ownsRow base 151 5 v D.2.2.length (sgC D.2.2)) \/
      (D.1=false/\e=.returned (.tuple #[.slice none 0 0,.int .i64 D.2.1]))
attribute [local go_sem ↓] Go.wp_at_zero Go.wp_at_succ
set_option maxHeartbeats 1600000 in
theorem read_run (s:ByteArray) (w:World) (hs:s.size<=2000) (M:Nat) (R:Bool×Nat×List SG) (hM:M<=40000) (hR:runM s M 0 [⟨256,0,0,0⟩,⟨257,0,0,0⟩] []=some R) :
   Calls Tryz.prog 92 #[.string s] w fun e w'=>Below w.heap.size w w'/\ReadPost w.heap.size (rdE s R) e w':=by
 have hb1:=fun w=>buildF1 256 w
 have hb2:=fun w=>buildF1 257 w
 have hM2:1<=M:=by cases M with | zero=>simp [runM] at hR | succ n=>omega
 have HL:Hid (∀ gs,gs=[]->LI s M R M 0 [⟨256,0,0,0⟩,⟨257,0,0,0⟩] gs):=fun gs hgs=>by subst hgs;exact ⟨hR,Nat.le_refl _,Nat.zero_le _,by simp,by simp,by simp⟩
 clear hR
 have HRS:Hid (RS (w.alloc (.cells #[.string s,.int .i64 0,.slice none 0 0,.slice none 0 0] 184)) w.heap.size w.heap.size s 0 (.slice none 0 0) (.slice none 0 0) [] []) :=
   ⟨heap_alloc_new w _,World.ownsRow_nil _ _ _ _,World.ownsRow_nil _ _ _ _,Nat.le_refl _⟩
 go_enter Tryz.func92,Tryz.ntmps92
 go_wp2_with fail
 refine (push_newL w.heap.size w.heap.size _ _ s 0 _ _ [] [⟨256,0,0,0⟩,⟨257,0,0,0⟩] [] _ _ HRS.out (by simp) (by rfl) (by simp) _ rfl).mono ?_
 rintro e w1 ⟨rfl,sv1,hr,hm⟩
 have HR1:Hid (RS w1 w.heap.size w.heap.size s 0 sv1 (.slice none 0 0) ([⟨256,0,0,0⟩,⟨257,0,0,0⟩]++[]) []):=hr
 have HB1:Hid (Below w.heap.size w w1):=((Below.refl _ _).alloc (Nat.le_refl _) _).trans hm.bel
 clear hr hm HRS
 go_wp2_with fail
 go_loopg [5] M (fun n _ wr=>∃ k fs gs sv gv,LI s M R n k fs gs/\RS wr w.heap.size w.heap.size s k sv gv fs gs/\Below w.heap.size w wr)
 case atStart=>exact ⟨0,_,[],_,_,HL.out _ rfl,HR1.out,HB1.out⟩
 case round =>
   obtain ⟨k,fs,gs,sv,gv,hli,hr,hb⟩:=hrel
   have HLI:Hid (LI s M R gk k fs gs):=hli
   have HR:Hid (RS wr w.heap.size w.heap.size s k sv gv fs gs):=hr
   have HB:Hid (Below w.heap.size w wr):=hb
   have hks:k<=s.size:=hli.at_
   have c2:=hr.c2
   have z2:=hr.fz 2
   clear hb hr hli
   cases fs with
   | nil =>
     obtain ⟨o,cap,rfl⟩:=HR.out.nil
     have HS:Hid (R=(true,k,gs)):=HLI.out.stops
     have hpk:=T.ch_lo s (T.sk s k)
     obtain ⟨cp0,cp1⟩:=hpk
     go_wp2_with fail
     refine (peek_any w.heap.size w.heap.size s k _ gv [] gs _ hs hks HR.out).mono ?_
     rintro e w2 ⟨rfl,hr2,hm2⟩
     have HR2:Hid (RS w2 w.heap.size w.heap.size s (T.sk s k) (.slice o 0 cap) gv [] gs):=hr2
     have HB2:Hid (Below w.heap.size w w2):=HB.out.trans hm2.bel
     have c1:=hr2.c1
     have c3:=hr2.c3
     clear hr2 hm2 c2 z2
     by_cases hc:0<=T.ch s (T.sk s k)
     · have HD:Hid (rdE s R=(false,T.sk s k,[])):=by
         show _=_
         rw [HS.out];simp [rdE,hc]
       go_wp2_with fail
       go_quiet (fail)
       go_wp2_with fail
       go_ret2
       refine ⟨below_drewN HB2.out _,?_⟩
       rw [HD.out]
       exact ⟨.bool true,.inr ⟨rfl,rfl⟩⟩
     · have HD:Hid (rdE s R=(true,T.sk s k,gs)):=by
         show _=_
         rw [HS.out];simp [rdE,hc]
       go_wp2_with fail
       go_ret2
       refine ⟨HB2.out,?_⟩
       rw [HD.out]
       exact ⟨gv,.inl ⟨rfl,rfl,HR2.out.sg⟩⟩
   | cons f fs =>
     obtain ⟨g,cap,rfl⟩:=ownsRow_succ HR.out.st
     obtain ⟨q0,q1,q2,q3⟩:=HR.out.top
     have hcap:=HR.out.capLe
     have hfl:=HLI.out.fl
     have hf:=HLI.out.all f (by simp)
     have HRA:Hid (RS ((wr.setCell ⟨w.heap.size,2,none⟩ (.slice (some ⟨g,0,none⟩) fs.length cap)).alloc (.cells #[.int .i64 f.sym,.int .i64 f.kind,.int .i64 f.depth,.int .i64 f.list] 187)) w.heap.size w.heap.size s k (.slice (some ⟨g,0,none⟩) fs.length cap) gv fs gs):=HR.out.pop.alloc _
     have HBA:Hid (w.heap.size<=(wr.setCell ⟨w.heap.size,2,none⟩ (.slice (some ⟨g,0,none⟩) fs.length cap)).heap.size):=HR.out.pop.bs
     have hbw:w.heap.size<wr.heap.size:=HR.out.lt
     have zf:∀ o,(wr.alloc o).frozen? ⟨w.heap.size,2,none⟩=false:=fun o=>(HR.out.alloc o).fz 2
     simp only [List.length_cons] at hfl
     have hfl2:fs.length<=1000000:=by omega
     clear hfl
     generalize hm:fs.length=m at *
     have i0:(0:Int)<=(m:Int):=by omega
     have i1:(m:Int)<=(cap:Int):=by omega
     have i2:(m:Int)<((m+1:Nat):Int):=by omega
     have e1:(((m+1:Nat):Int)-1)=(m:Int):=by omega
     go_wp2_with fail
     have hA:=HRA.out
     have hX:=step_any w.heap.size w.heap.size s k f _ gv fs gs _ HRA.out hs hks (by omega) (by have:=HLI.out.gl;have:=HLI.out.le;omega) hf.1 hf.2.1 (by have:=HLI.out.le;omega)
     refine hX.mono ?_
     rintro e w2 ⟨rfl,sv2,gv2,hr2,hm2⟩
     have HB2:Hid (Below w.heap.size w w2):=((HB.out.setCell (Nat.le_refl _) _).alloc HBA.out _).trans hm2.bel
     have HR2:Hid (RS w2 w.heap.size w.heap.size s (stepR s k f).at_ sv2 gv2 ((stepR s k f).push++fs) ((stepR s k f).sg++gs)):=hr2
     have c1:=hr2.c1
     clear hA hX hr2 hm2 HRA HR q0 q1 q2 q3 c2 z2 zf
     cases gk with
     | zero=>exact absurd HLI.out.run (by simp [runM])
     | succ n =>
       cases hok:(stepR s k f).ok with
       | true =>
         have HN:Hid (LI s M R n (stepR s k f).at_ ((stepR s k f).push++fs) ((stepR s k f).sg++gs)):=HLI.out.next hok
         go_wp2_with fail
         go_roundg n
         case measure=>omega
         case rel=>exact ⟨_,_,_,_,_,HN.out,HR2.out,HB2.out⟩
       | false =>
         have HD:Hid (rdE s R=(false,(stepR s k f).at_,[])):=by
           show _=_
           rw [HLI.out.fails hok];rfl
         go_wp2_with fail
         go_quiet (fail)
         go_wp2_with fail
         go_ret2
         refine ⟨below_drewN HB2.out _,?_⟩
         rw [HD.out]
         exact ⟨.bool true,.inr ⟨rfl,rfl⟩⟩
end Go.Proofs.YtaebngpoagjafaaGreat
namespace Go.Proofs.YtaebngpoagjafaaGreat
open Go.RowKit
structure IM where
 at_:Int
 num:Int
 pv:Int
 pl:Int
 wv:Int
 wa:Int
 arm:Int
structure EX where
 kind:Int
 at_:Int
 depth:Int
 nv:Int
 na:Int
 items:List IM
 inner:Int
structure RL where
 nv:Int
 na:Int
 ex:Int
def imV (x:IM):List Value:=[.int .i64 x.at_,.int .i64 x.num,.int .i64 x.pv,.int .i64 x.pl,.int .i64 x.wv,.int .i64 x.wa,.int .i64 x.arm]
def exV (e:EX×Value):List Value:=[.int .u8 e.1.kind,.int .i64 e.1.at_,.int .i64 e.1.depth,.int .i64 e.1.nv,.int .i64 e.1.na,e.2,.int .i64 e.1.inner]
def rlV (r:RL):List Value:=[.int .i64 r.nv,.int .i64 r.na,.int .i64 r.ex]
def imC (l:List IM):List Value:=l.flatMap imV
def exC (l:List (EX×Value)):List Value:=l.flatMap exV
def rlC (l:List RL):List Value:=l.flatMap rlV
structure PM (w:World) (base B:Nat) (s:ByteArray) (k:Nat) (b:Bool) (ev rv:Value) (es:List (EX×Value)) (rs:List RL):Prop where
 blk:w.heap[B]?=some (.cells #[.string s,.int .i64 k,.bool b,ev,rv] 106 (0,0))
 ex:w.ownsRow base 114 7 ev es.length (exC es)
 rl:w.ownsRow base 161 3 rv rs.length (rlC rs)
 it:∀ p∈es,w.ownsRow base 167 7 p.2 p.1.items.length (imC p.1.items)
 hB:base<=B
theorem PM.lt {w:World} {base B s k b ev rv es rs} (h:PM w base B s k b ev rv es rs):B<w.heap.size:=lt_of_block h.blk
theorem PM.bs {w:World} {base B s k b ev rv es rs} (h:PM w base B s k b ev rv es rs):base<=w.heap.size:=Nat.le_trans h.hB (Nat.le_of_lt h.lt)
theorem PM.c0 {w:World} {base B s k b ev rv es rs} (h:PM w base B s k b ev rv es rs):w.cell? ⟨B,0,none⟩=some (.string s):=by simp [World.cell?,h.blk]
theorem PM.c1 {w:World} {base B s k b ev rv es rs} (h:PM w base B s k b ev rv es rs):w.cell? ⟨B,1,none⟩=some (.int .i64 k):=by simp [World.cell?,h.blk]
theorem PM.c2 {w:World} {base B s k b ev rv es rs} (h:PM w base B s k b ev rv es rs):w.cell? ⟨B,2,none⟩=some (.bool b):=by simp [World.cell?,h.blk]
theorem PM.c3 {w:World} {base B s k b ev rv es rs} (h:PM w base B s k b ev rv es rs):w.cell? ⟨B,3,none⟩=some ev:=by simp [World.cell?,h.blk]
theorem PM.c4 {w:World} {base B s k b ev rv es rs} (h:PM w base B s k b ev rv es rs):w.cell? ⟨B,4,none⟩=some rv:=by simp [World.cell?,h.blk]
theorem PM.fz {w:World} {base B s k b ev rv es rs} (h:PM w base B s k b ev rv es rs) (j:Nat):w.frozen? ⟨B,j,none⟩=false:=by simp [World.frozen?,h.blk]
theorem PM.neE {w:World} {base B s k b ev rv es rs} (h:PM w base B s k b ev rv es rs):ev.ownBlock≠some B:=owns_ne h.ex h.blk (by decide)
theorem PM.neR {w:World} {base B s k b ev rv es rs} (h:PM w base B s k b ev rv es rs):rv.ownBlock≠some B:=owns_ne h.rl h.blk (by decide)
theorem PM.neI {w:World} {base B s k b ev rv es rs} (h:PM w base B s k b ev rv es rs) {p:EX×Value} (hp:p∈es):p.2.ownBlock≠some B:=owns_ne (h.it p hp) h.blk (by decide)
theorem blk5_set {w:World} {B j:Nat} {a b c d e u:Value} {t:TypeId} (h:w.heap[B]?=some (.cells #[a,b,c,d,e] t (0,0))):(w.setCell ⟨B,j,none⟩ u).heap[B]?=some (.cells (#[a,b,c,d,e].setIfInBounds j u) t (0,0)):=by
 simp [World.setCell,Array.getElem?_modify,h]
theorem PM.at {w:World} {base B s k b ev rv es rs} (h:PM w base B s k b ev rv es rs) (k':Nat) (x:Int) (hx:x=k'):PM (w.setCell ⟨B,1,none⟩ (.int .i64 x)) base B s k' b ev rv es rs :=
 ⟨by rw [hx];exact blk5_set h.blk,ownsRow_setCell_other h.ex h.neE _,ownsRow_setCell_other h.rl h.neR _,fun p hp=>ownsRow_setCell_other (h.it p hp) (h.neI hp) _,h.hB⟩
theorem PM.bad {w:World} {base B s k b ev rv es rs} (h:PM w base B s k b ev rv es rs) (b':Bool):PM (w.setCell ⟨B,2,none⟩ (.bool b')) base B s k b' ev rv es rs :=
 ⟨blk5_set h.blk,ownsRow_setCell_other h.ex h.neE _,ownsRow_setCell_other h.rl h.neR _,fun p hp=>ownsRow_setCell_other (h.it p hp) (h.neI hp) _,h.hB⟩
theorem PM.setMv {w:World} {base B s k b ev rv es rs} (h:PM w base B s k b ev rv es rs) (j:Nat) (x:Value):Mv base B ev rv ev rv w (w.setCell ⟨B,j,none⟩ x) :=
 ⟨(Below.refl _ _).setCell h.hB _,fun _ _ ho=>⟨heap_set_ne ho.1,ho⟩⟩
theorem PM.alloc {w:World} {base B s k b ev rv es rs} (h:PM w base B s k b ev rv es rs) (o:Obj):PM (w.alloc o) base B s k b ev rv es rs :=
 ⟨by rw [Below.heap_alloc _ _ _ h.lt];exact h.blk,h.ex.alloc o,h.rl.alloc o,fun p hp=>(h.it p hp).alloc o,h.hB⟩
theorem PM.drewN {w:World} {base B s k b ev rv es rs} (h:PM w base B s k b ev rv es rs) (n:Nat):PM (w.drewN n) base B s k b ev rv es rs:=⟨h.blk,h.ex,h.rl,h.it,h.hB⟩
theorem PM.drew {w:World} {base B s k b ev rv es rs} (h:PM w base B s k b ev rv es rs):PM w.drew base B s k b ev rv es rs:=⟨h.blk,h.ex,h.rl,h.it,h.hB⟩
theorem PM.outNew {w:World} {base B s k b ev rv es rs} (h:PM w base B s k b ev rv es rs):Out B ev rv w.heap.size :=
 ⟨fun e=>by have:=h.lt;omega,fun e=>by have:=(h.ex.lt _ e).2;omega,fun e=>by have:=(h.rl.lt _ e).2;omega⟩
def hereF (s:ByteArray) (k:Nat) (b:Bool):Int:=if b=true then 0 else if k<s.size then T.ch s k else 0
def skipF (s:ByteArray) (k:Nat) (b:Bool):Nat:=if b=true then k else T.sk s k
theorem skipF_le {s:ByteArray} {k:Nat} {b:Bool} (h:k<=s.size):skipF s k b<=s.size:=by
 unfold skipF;split
 · exact h
 · exact T.sk_le h
theorem hereF_bd (s:ByteArray) (k:Nat) (b:Bool):0<=hereF s k b/\hereF s k b<256:=by
 unfold hereF;split
 · omega
 · split
   · next h=>exact T.ch_bd h
   · omega
attribute [local go_sem ↓] Go.wp_at_zero Go.wp_at_succ
set_option maxHeartbeats 400000 in
theorem here_pm (base B:Nat) (s:ByteArray) (k:Nat) (b:Bool) (ev rv:Value) (es:List (EX×Value)) (rs:List RL) (w:World) (hk:k<=s.size) (h:PM w base B s k b ev rv es rs) :
   Calls Tryz.prog 145 #[.pointer (some ⟨B,0,none⟩)] w fun e w'=>e=.returned (.int .u8 (hereF s k b))/\PM w' base B s k b ev rv es rs/\Mv base B ev rv ev rv w w':=by
 have H:Hid (PM w base B s k b ev rv es rs):=h
 have c0:=h.c0
 have c1:=h.c1
 have c2:=h.c2
 clear h
 cases b with
 | true =>
   go_enter Tryz.func145,Tryz.ntmps145
   go_wp2_with fail
   go_quiet (fail)
   go_wp2_with fail
   go_ret
   exact ⟨rfl,H.out.drewN _,(Mv.refl _ _ _ _ _).drewN _⟩
 | false =>
   by_cases hlt:k<s.size
   · have HH:Hid (hereF s k false=T.ch s k):=by show _=_;unfold hereF;rw [if_neg (by decide),if_pos hlt]
     have hlt':(k:Int)<(s.size:Int):=by omega
     have hge:decide ((s.size:Int)<=(k:Int))=false:=decide_eq_false (by omega)
     have hch:((s[k]).toNat:Int)=T.ch s k:=(T.ch_lt hlt).symm
     go_enter Tryz.func145,Tryz.ntmps145
     go_wp2_with fail
     go_quiet (fail)
     go_wp2_with fail
     go_quiet (fail)
     go_wp2_with fail
     go_ret
     exact ⟨by rw [HH.out];rfl,(H.out.drewN _).drewN _,((Mv.refl _ _ _ _ _).drewN _).drewN _⟩
   · have HH:Hid (hereF s k false=0):=by show _=_;unfold hereF;rw [if_neg (by decide),if_neg hlt]
     have hge:decide ((s.size:Int)<=(k:Int))=true:=decide_eq_true (by omega)
     go_enter Tryz.func145,Tryz.ntmps145
     go_wp2_with fail
     go_quiet (fail)
     go_wp2_with fail
     go_ret
     exact ⟨by rw [HH.out];rfl,H.out.drewN _,(Mv.refl _ _ _ _ _).drewN _⟩
set_option maxHeartbeats 400000 in
theorem skip_any (base B:Nat) (s:ByteArray) (k:Nat) (b:Bool) (ev rv:Value) (es:List (EX×Value)) (rs:List RL) (w:World) (hs:s.size<=2000) (hk:k<=s.size) (h:PM w base B s k b ev rv es rs) :
   Calls Tryz.prog 144 #[.pointer (some ⟨B,0,none⟩)] w fun e w'=>e=.returned (.tuple #[])/\PM w' base B s (skipF s k b) b ev rv es rs/\Mv base B ev rv ev rv w w':=by
 have H:Hid (PM w base B s k b ev rv es rs):=h
 clear h
 go_enter Tryz.func144,Tryz.ntmps144
 go_wp2_with fail
 refine (here_pm base B s k b ev rv es rs _ hk H.out).mono ?_
 rintro e w1 ⟨rfl,hp,hm⟩
 have HP:Hid (PM w1 base B s k b ev rv es rs):=hp
 have HM:Hid (Mv base B ev rv ev rv w w1):=hm
 clear hp hm
 go_wp2_with fail
 go_loopg [2] (s.size-k) (fun n x wr=>∃ j:Nat,k<=j/\j<=s.size/\n=s.size-j/\x=.int .u8 (hereF s j b)/\Hid (skipF s j b=skipF s k b)/\PM wr base B s j b ev rv es rs/\Mv base B ev rv ev rv w wr)
 case atStart=>exact ⟨k,Nat.le_refl _,hk,rfl,rfl,rfl,HP.out,HM.out⟩
 case round =>
   obtain ⟨j,hkj,hjs,hn,rfl,HS,hp,hm⟩:=hrel
   have HP2:Hid (PM wr base B s j b ev rv es rs):=hp
   have HM2:Hid (Mv base B ev rv ev rv w wr):=hm
   have c1:=hp.c1
   have z1:=hp.fz 1
   have HN:Hid (gk=s.size-j):=hn
   clear hp hm hn
   by_cases hb:T.bl (hereF s j b)=true
   · have hbl:b=false/\j<s.size/\hereF s j b=T.ch s j:=by
       cases b with
       | true=>simp [hereF,T.bl] at hb
       | false =>
         by_cases hlt:j<s.size
         · exact ⟨rfl,hlt,by simp [hereF,hlt]⟩
         · simp [hereF,hlt,T.bl] at hb
     obtain ⟨rfl,hlt,he⟩:=hbl
     have HS2:Hid (skipF s (j+1) false=skipF s k false):=by
       show _=_
       rw [<- HS.out]
       unfold skipF
       rw [if_neg (by decide),if_neg (by decide)]
       exact T.sk_next (by rw [<- he];exact hb)
     clear he
     have HBD:=hereF_bd s j false
     generalize hereF s j false=c at *
     have hjl:(j:Int)<2000:=by omega
     cases h32:(c==32) with
     | true =>
       go_wp2_with fail
       refine (here_pm base B s (j+1) false ev rv es rs _ (by omega) (HP2.out.at (j+1) _ (by omega))).mono ?_
       rintro e w3 ⟨rfl,hp3,hm3⟩
       have HP3:Hid (PM w3 base B s (j+1) false ev rv es rs):=hp3
       have HM3:Hid (Mv base B ev rv ev rv w w3):=(HM2.out.trans (HP2.out.setMv 1 _)).trans hm3
       clear hp3 hm3
       go_wp2_with fail
       go_roundg (s.size-(j+1))
       case measure=>rw [HN.out];omega
       case rel=>exact ⟨j+1,by omega,by omega,rfl,rfl,HS2,HP3.out,HM3.out⟩
     | false =>
       have h10:(c==10)=true:=by simpa [T.bl,h32] using hb
       go_wp2_with fail
       refine (here_pm base B s (j+1) false ev rv es rs _ (by omega) (HP2.out.at (j+1) _ (by omega))).mono ?_
       rintro e w3 ⟨rfl,hp3,hm3⟩
       have HP3:Hid (PM w3 base B s (j+1) false ev rv es rs):=hp3
       have HM3:Hid (Mv base B ev rv ev rv w w3):=(HM2.out.trans (HP2.out.setMv 1 _)).trans hm3
       clear hp3 hm3
       go_wp2_with fail
       go_roundg (s.size-(j+1))
       case measure=>rw [HN.out];omega
       case rel=>exact ⟨j+1,by omega,by omega,rfl,rfl,HS2,HP3.out,HM3.out⟩
   · have HE:Hid (skipF s k b=j):=by
       show _=_
       rw [<- HS.out]
       cases b with
       | true=>rfl
       | false =>
         unfold skipF
         rw [if_neg (by decide)]
         by_cases hlt:j<s.size
         · have e:hereF s j false=T.ch s j:=by simp [hereF,hlt]
           exact T.sk_here (by rw [e] at hb;simpa using hb)
         · exact T.sk_here (by rw [T.ch_ge hlt];rfl)
     have hno:(hereF s j b==32)=false/\(hereF s j b==10)=false:=by
       have:T.bl (hereF s j b)=false:=by simpa using hb
       simpa [T.bl] using this
     obtain ⟨h32,h10⟩:=hno
     clear hb
     generalize hereF s j b=c at *
     go_wp2_with fail
     go_end0
     exact ⟨rfl,by rw [HE.out];exact HP2.out,HM2.out⟩
end Go.Proofs.YtaebngpoagjafaaGreat
