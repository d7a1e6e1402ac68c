/-
  OUR OWN.
-/
import Derived.Test.YtaebngpoagjafaaGreatU22
import Derived.Test.YtaebngpoagjafaaGreatU02
import Derived.Laws.BytesArg
import Derived.Laws.Concat
set_option maxRecDepth 100000
namespace Go.Proofs.YtaebngpoagjafaaGreat
open Go.RowKit
theorem T.ch_extract (s:ByteArray) (p e i:Nat) (he:e<=s.size) (hi:i<e-p):T.ch (s.extract p e) i=T.ch s (p+i):=by
 have h1:i<(s.extract p e).size:=by rw [ByteArray.size_extract];omega
 have h2:p+i<s.size:=by omega
 rw [T.ch_lt h1,T.ch_lt h2]
 rw [ByteArray.getElem_extract]
theorem T.size_extract (s:ByteArray) (p e:Nat) (he:e<=s.size):(s.extract p e).size=e-p:=by rw [ByteArray.size_extract];omega
theorem T.dgF_all (s:ByteArray) (most lim:Int) (plain:Bool) (p:Nat):∀ n j,p<=j->((j:Int)-p<=most)->(∀ i,p<=i->i<j->T.dig (T.ch s i)=true)->0<=most ->
   (((T.dgF s most lim plain p n j).2:Int)-p<=most)/\(∀ i,p<=i->i<(T.dgF s most lim plain p n j).2->T.dig (T.ch s i)=true):=by
 intro n
 induction n with
 | zero=>intro j _ h2 h3 _;exact ⟨h2,h3⟩
 | succ n ih =>
   intro j h1 h2 h3 h4
   cases hd:T.dig (T.ch s j) with
   | false=>rw [T.dgF_end hd];exact ⟨h2,h3⟩
   | true =>
     cases hs:T.stp most lim plain (T.ch s j) ((j:Int)-p) (T.ch s p) with
     | true=>rw [T.dgF_stop hd hs];exact ⟨h2,h3⟩
     | false =>
       rw [T.dgF_next hd hs]
       simp only [T.stp,Bool.or_eq_false_iff,beq_eq_false_iff_ne] at hs
       refine ih (j+1) (by omega) (by omega) (fun i hi1 hi2=>?_) h4
       by_cases hij:i=j
       · rw [hij];exact hd
       · exact h3 i hi1 (by omega)
theorem T.dg_all (s:ByteArray) (most lim:Int) (plain:Bool) (p:Nat) (hp:p<=s.size) (hm:0<=most):T.digs (s.extract p (T.dg s most lim plain p).2)/\(((s.extract p (T.dg s most lim plain p).2).size:Int)<=most):=by
 have hb:=T.dg_bd s most lim plain p hp
 have h:=T.dgF_all s most lim plain p (s.size-p+1) p (Nat.le_refl _) (by omega) (fun i h1 h2=>by omega) hm
 have e:T.dgF s most lim plain p (s.size-p+1) p=T.dg s most lim plain p:=rfl
 rw [e] at h
 generalize (T.dg s most lim plain p).2=z at *
 constructor
 · intro i hi
   rw [T.size_extract _ _ _ hb.2] at hi
   rw [T.ch_extract _ _ _ _ hb.2 hi]
   have:=h.2 (p+i) (by omega) (by omega)
   simp only [T.dig,Bool.and_eq_true,decide_eq_true_eq] at this
   exact this
 · rw [T.size_extract _ _ _ hb.2];omega
def FI (f:FR):Prop:=(f.sym=262->f.kind=9)/\(f.sym=263->f.kind=1\/f.kind=2)
def SI (g:SG):Prop:=g.text.size<=2000/\((g.kind=1\/g.kind=2\/g.kind=3\/g.kind=9)\/(T.digs g.text/\g.text.size<=9))
theorem exprL_fi (d:Int) (p:Nat) (c:Int) (l:List FR) (h:exprL d p c=some l):∀ f∈l,FI f:=by
 unfold exprL at h
 repeat' split at h
 all_goals first
   | (simp at h;done)
   | (injection h with h;subst h;simp [byF,FI])
theorem itemL_fi (f:FR):∀ g∈itemL f,FI g:=by
 unfold itemL
 repeat' split
 all_goals (simp [byF,FI])
def RI (r:Res):Prop:=(∀ g∈r.push,FI g)/\(∀ g∈r.sg,SI g)
theorem stepR_fi (s:ByteArray) (k:Nat) (f:FR) (hk:k<=s.size) (hf:FI f):RI (stepR s k f):=by
 have h2:=T.sk_le hk
 unfold stepR
 generalize T.sk s k=p at *
 simp only
 split
 · simp [RI,byF,FI]
 · split
   · split<;>simp [RI,byF,FI]
   · split
     · split
       · next l hl =>
         refine ⟨exprL_fi _ _ _ _ hl,?_⟩
         intro g hg
         simp only [List.mem_singleton] at hg
         subst hg
         exact ⟨by simp,.inl (by simp)⟩
       · simp [RI]
     · split
       · exact ⟨itemL_fi f,by simp⟩
       · split
         · next e4 =>
           split
           · refine ⟨?_,by simp⟩
             intro g hg
             simp only [List.mem_cons,List.not_mem_nil,or_false] at hg
             rcases hg with rfl | rfl | rfl
             · simp [byF,FI]
             · simp [FI]
             · exact hf
           · simp [RI]
         · split
           · have:=T.dg_all s 9 58 true p h2 (by omega)
             split
             · refine ⟨by simp,?_⟩
               intro g hg
               simp only [List.mem_singleton] at hg
               subst hg
               exact ⟨by have:=this.2;simp only;omega,.inr ⟨this.1,by have:=this.2;simp only;omega⟩⟩
             · simp [RI]
           · split
             · next e6 =>
               have:=T.dg_all s 32 50 false p h2 (by omega)
               split
               · refine ⟨by simp,?_⟩
                 intro g hg
                 simp only [List.mem_singleton] at hg
                 subst hg
                 exact ⟨by have:=this.2;simp only;omega,.inl (.inr (.inr (.inr (hf.1 e6))))⟩
               · simp [RI]
             · split
               · next e7 =>
                 split
                 · next hc =>
                   have:=T.ch_nn (s:=s) (k:=p) (by omega)
                   refine ⟨by simp,?_⟩
                   intro g hg
                   simp only [List.mem_singleton] at hg
                   subst hg
                   refine ⟨by simp only;rw [T.size_extract _ _ _ (by omega)];omega,.inl ?_⟩
                   rcases hf.2 e7 with h | h
                   · exact .inl h
                   · exact .inr (.inl h)
                 · simp [RI]
               · split<;>simp [RI]
theorem pL_fi (s:ByteArray) (one:Nat->FR->Option PR) (h1:∀ k f q,k<=s.size->0<=f.sym->0<=f.depth->FI f->one k f=some q->q.at_<=s.size/\q.sg.length<=q.n/\∀ g∈q.sg,SI g) :
   ∀ (l:List FR) (k:Nat) (q:PR),k<=s.size->(∀ f∈l,0<=f.sym/\0<=f.depth/\FI f)->pL one k l=some q->q.at_<=s.size/\q.sg.length<=q.n/\∀ g∈q.sg,SI g:=by
 intro l
 induction l with
 | nil =>
   intro k q hk _ h
   simp only [pL] at h
   injection h with h
   subst h
   exact ⟨hk,by simp,by simp⟩
 | cons f r ih =>
   intro k q hk hl h
   simp only [pL] at h
   have hf:=hl f (by simp)
   split at h
   · simp at h
   · next a ha =>
     have hA:=h1 k f a hk hf.1 hf.2.1 hf.2.2 ha
     split at h
     · split at h
       · simp at h
       · next b hb =>
         injection h with h
         subst h
         have hB:=ih a.at_ b hA.1 (fun g hg=>hl g (by simp [hg])) hb
         refine ⟨hB.1,by simp only [List.length_append];omega,?_⟩
         intro g hg
         rcases List.mem_append.1 hg with hg | hg
         · exact hB.2.2 g hg
         · exact hA.2.2 g hg
     · injection h with h
       subst h
       exact hA
theorem pF_fi (s:ByteArray):∀ (n k:Nat) (f:FR) (q:PR),k<=s.size->0<=f.sym->0<=f.depth->FI f->pF s n k f=some q->q.at_<=s.size/\q.sg.length<=q.n/\∀ g∈q.sg,SI g:=by
 intro n
 induction n with
 | zero=>intro k f q _ _ _ _ h;simp [pF] at h
 | succ n ih =>
   intro k f q hk h0 hd hf h
   have hS:=stepR_sf s k f hk h0 hd
   have hI:=stepR_fi s k f hk hf
   simp only [pF] at h
   split at h
   · split at h
     · simp at h
     · next b hb =>
       injection h with h
       subst h
       have hB:=pL_fi s (pF s n) ih (stepR s k f).push (stepR s k f).at_ b hS.hi (fun g hg=>by
         rcases hS.fst with hp | ⟨f0,r,hp,_,_,hall⟩
         · rw [hp] at hg;simp at hg
         · have:=hall g hg;exact ⟨this.1,this.2.1,hI.1 g hg⟩) hb
       refine ⟨hB.1,by have:=hS.sg;simp only [List.length_append];omega,?_⟩
       intro g hg
       rcases List.mem_append.1 hg with hg | hg
       · exact hB.2.2 g hg
       · exact hI.2 g hg
   · injection h with h
     subst h
     exact ⟨hS.hi,by simp,by simp⟩
theorem rd_good (s:ByteArray) (hs:s.size<=2000):(rd s).2.1<=s.size/\(rd s).2.2.length<=40000/\(∀ g∈(rd s).2.2,SI g)/\∃ M R,M<=40000/\runM s M 0 [⟨256,0,0,0⟩,⟨257,0,0,0⟩] []=some R/\rd s=rdE s R:=by
 obtain ⟨q,hq,h1,h2,h3⟩:=rd0_ends s
 have hI:=pL_fi s _ (pF_fi s _) _ _ _ (Nat.zero_le _) (by simp [FI]) hq
 have e:rd s=rdE s (q.ok,q.at_,if q.ok=true then q.sg else []):=by unfold rd;rw [hq]
 have hk:=T.sk_le h1
 refine ⟨?_,?_,?_,q.n,_,by omega,h3,e⟩
 · rw [e];unfold rdE;simp only
   split
   · split
     · exact hk
     · exact hk
   · exact h1
 · rw [e];unfold rdE;simp only
   split
   · split
     · simp
     · show q.sg.length<=40000;omega
   · simp
 · rw [e];unfold rdE;simp only
   split
   · split
     · simp
     · exact hI.2.2
   · simp
theorem sgC_flat (l:List SG):sgC l=l.reverse.flatMap sgV:=by
 induction l with
 | nil=>rfl
 | cons g r ih=>simp only [sgC,ih,List.reverse_cons,List.flatMap_append];simp
theorem sgF_get (ls:List SG):∀ (i:Nat) (f:SG) (j:Nat),ls[i]?=some f->j<5->(ls.flatMap sgV)[i*5+j]?=(sgV f)[j]?:=by
 induction ls with
 | nil=>intro i f j h;simp at h
 | cons g r ih =>
   intro i f j h hj
   simp only [List.flatMap_cons]
   cases i with
   | zero =>
     simp at h
     subst h
     rw [Nat.zero_mul,Nat.zero_add,List.getElem?_append_left (by simp [sgV];omega)]
   | succ i =>
     simp at h
     have:=ih i f j h hj
     rw [List.getElem?_append_right (by simp [sgV];omega)]
     have e:(i+1)*5+j-(sgV g).length=i*5+j:=by simp [sgV];omega
     rw [e];exact this
theorem SL.of_row {w:World} {base b cap:Nat} {gs:List SG} (h:w.ownsRow base 151 5 (.slice (some ⟨b,0,none⟩) gs.length cap) gs.length (sgC gs)):SL w b gs.reverse:=by
 intro i g hg
 have hi:i<gs.length:=by have:=(List.getElem?_eq_some_iff.1 hg).1;simpa using this
 have hc:∀ j,j<5->w.cell? ⟨b,i*5+j,none⟩=(sgV g)[j]?:=fun j hj=>by
   rw [World.ownsRow.cellAt h (i*5+j) (by omega),sgC_flat]
   exact sgF_get _ i g j hg hj
 exact ⟨hc 0 (by omega),hc 1 (by omega),hc 2 (by omega),hc 3 (by omega),hc 4 (by omega)⟩
end Go.Proofs.YtaebngpoagjafaaGreat
namespace Go.Proofs.YtaebngpoagjafaaGreat
open Go.RowKit
def flt (l:List SG) (i:Nat) (g:SG):Int:=fltV l i g (T.val g.text g.text.size)
theorem flt_of (l:List SG) (i:Nat) (g:SG) (v:Int) (h:SI g) (hv:T.digs g.text->g.text.size<=9->v=T.val g.text g.text.size):fltV l i g v=flt l i g:=by
 rcases h.2 with h | ⟨h1,h2⟩
 · have e:∀ v,wrgV g.kind v=false:=fun v=>by
     rcases h with h | h | h | h<;>simp [wrgV,h]
   unfold flt fltV
   rw [e,e]
 · unfold flt;rw [hv h1 h2]
def fstF (l:List SG):Nat->Nat->Int×Int
 | 0,_=>(0,0)
 | n+1,i=>match l[i]? with
   | none=>(0,0)
   | some g=>if flt l i g=0 then fstF l n (i+1) else (flt l i g,g.place)
def chk (s:ByteArray):Int×Int :=
 if 2000<s.size then (1,0) else if (rd s).1=true then fstF (rd s).2.2.reverse (rd s).2.2.length 0 else (2,(rd s).2.1)
attribute [local go_sem ↓] Go.wp_at_zero Go.wp_at_succ
set_option maxHeartbeats 800000 in
theorem Check_any (s:ByteArray) (w:World) :
   Calls Tryz.prog 53 #[.string s] w fun e w'=>Below w.heap.size w w'/\e=.returned (.tuple #[.int .i64 (chk s).1,.int .i64 (chk s).2]):=by
 by_cases hs:2000<s.size
 · have HC:Hid (chk s=(1,0)):=by show _=_;unfold chk;rw [if_pos hs]
   have hs':(2000:Int)<(s.size:Int):=by omega
   go_enter Tryz.func53,Tryz.ntmps53
   go_wp2_with fail
   go_ret2
   exact ⟨Below.refl _ _,by rw [HC.out];rfl⟩
 have hs':¬ (2000:Int)<(s.size:Int):=by omega
 have hs2:s.size<=2000:=by omega
 obtain ⟨r1,r2,r3,M,R,hM,hR,he⟩:=rd_good s hs2
 have hrd:=fun wz=>read_run s wz hs2 M R hM hR
 rw [<- he] at hrd
 have HC:Hid (chk s=if (rd s).1=true then fstF (rd s).2.2.reverse (rd s).2.2.length 0 else (2,(rd s).2.1)):=by show _=_;unfold chk;rw [if_neg hs]
 have HRD:Hid (∀ wz:World,Calls Tryz.prog 92 #[.string s] wz fun e w'=>Below wz.heap.size wz w'/\ReadPost wz.heap.size (rd s) e w'):=hrd
 clear he hR hrd hs
 generalize rd s=D at *
 obtain ⟨ok,at_,gs⟩:=D
 simp only at r1 r2 r3
 have HC1:Hid (chk s=if ok=true then fstF gs.reverse gs.length 0 else (2,(at_:Int))):=HC.out
 clear HC
 have HR3:Hid (∀ g∈gs,SI g):=r3
 clear r3
 go_enter Tryz.func53,Tryz.ntmps53
 go_wp2_with fail
 refine (HRD.out _).mono ?_
 rintro e w1 ⟨hb1,v,(⟨hok,he,hrow⟩ | ⟨hok,he⟩)⟩
 · simp only at hok hrow
   subst hok
   subst he
   have HC2:Hid (chk s=fstF gs.reverse gs.length 0):=by show _=_;rw [HC1.out];rfl
   clear HC1 HRD
   have HB1:Hid (Below w.heap.size w w1):=hb1
   rcases Nat.eq_zero_or_pos gs.length with h0 | h0
   · have hv:∃ o cap,v=.slice o 0 cap:=by
       rcases hrow.2 with ⟨rfl,_⟩ | ⟨g,cap,cur,rfl,_⟩
       · exact ⟨none,0,rfl⟩
       · exact ⟨_,cap,by rw [h0]⟩
     obtain ⟨o,cap,rfl⟩:=hv
     have HC:Hid (chk s=(0,0)):=by show _=_;rw [HC2.out,h0];rfl
     clear HC2
     clear hrow hb1
     go_wp2_with fail
     go_loopg [6] 1 (fun n x wr=>x=.int .i64 0/\wr=w1)
     case atStart=>exact ⟨rfl,rfl⟩
     case round =>
       obtain ⟨rfl,rfl⟩:=hrel
       go_wp2_with fail
       go_ret2
       exact ⟨HB1.out,by rw [HC.out];rfl⟩
   · have hv:∃ b cap,v=.slice (some ⟨b,0,none⟩) gs.length cap:=by
       rcases hrow.2 with ⟨_,h1⟩ | ⟨g,cap,cur,rfl,_⟩
       · omega
       · exact ⟨g,cap,rfl⟩
     obtain ⟨b,cap,rfl⟩:=hv
     have hbw:b<w1.heap.size:=(hrow.lt b rfl).2
     have HSL:Hid (SL w1 b gs.reverse):=SL.of_row hrow
     have hL:gs.reverse.length=gs.length:=List.length_reverse
     have HSI:Hid (∀ g∈gs.reverse,SI g):=fun g hg=>HR3.out g (List.mem_reverse.1 hg)
     clear hrow hb1 HR3
     generalize gs.reverse=L at *
     have hlen:gs.length=L.length:=hL.symm
     clear hL
     rw [hlen] at r2 HC2 ⊢
     have HC:Hid (chk s=fstF L L.length 0):=HC2.out
     clear hlen HC2
     go_wp2_with fail
     go_loopg [6] L.length (fun n x wr=>∃ j:Nat,n+j=L.length/\x=.int .i64 j/\Hid (fstF L n j=fstF L L.length 0)/\Below w1.heap.size w1 wr)
     case atStart=>exact ⟨0,by omega,rfl,rfl,Below.refl _ _⟩
     case round =>
       obtain ⟨j,hn,rfl,HF,hb⟩:=hrel
       have HB2:Hid (Below w1.heap.size w1 wr):=hb
       have hsl:SL wr b L:=HSL.out.of_block (hb.block _ hbw)
       have hbr:b<wr.heap.size:=Nat.lt_of_lt_of_le hbw hb.size
       have j0:(0:Int)<=(j:Int):=by omega
       clear hb
       by_cases hlt:j<L.length
       · have hlt':(j:Int)<(L.length:Int):=by omega
         obtain ⟨g,hg⟩:∃ g,L[j]?=some g:=⟨L[j]'hlt,List.getElem?_eq_getElem hlt⟩
         have hSI:SI g:=HSI.out g (List.mem_iff_getElem?.2 ⟨j,hg⟩)
         have hX:=fun (wz:World) (h1:SL wz b L) (h2:b<wz.heap.size)=>fault_any b cap L j g wz h1 (by omega) hg h2 hSI.1
         obtain ⟨m,rfl⟩:∃ m,gk=m+1:=⟨gk-1,by omega⟩
         have HF2:Hid (fstF L (m+1) j=if flt L j g=0 then fstF L m (j+1) else (flt L j g,g.place)):=by
           show _=_
           simp only [fstF,hg]
         have HX:Hid (∀ wz:World,SL wz b L->b<wz.heap.size->Calls Tryz.prog 93 #[.slice (some ⟨b,0,none⟩) L.length cap,.int .i64 j] wz fun e w'=>Below wz.heap.size wz w'/\∃ v,e=.returned (.int .i64 (fltV L j g v))/\(T.digs g.text->g.text.size<=9->v=T.val g.text g.text.size)):=hX
         have HSL2:Hid (SL wr b L):=hsl
         have HG:Hid (L[j]?=some g):=hg
         have HS:Hid (SI g):=hSI
         clear hX hsl hg hSI
         go_wp2_with fail
         refine (HX.out _ HSL2.out hbr).mono ?_
         rintro e w3 ⟨hb3,v,rfl,hv⟩
         rw [flt_of L j g v HS.out hv]
         have hsl3:SL w3 b L:=HSL2.out.of_block (hb3.block _ hbr)
         obtain ⟨g0,g1,g2,g3,g4⟩:=hsl3 j g HG.out
         have HB3:Hid (Below w1.heap.size w1 w3):=HB2.out.trans (hb3.mono HB2.out.size)
         clear hb3 hv hsl3 g0 g2 g3 g4
         generalize flt L j g=z at *
         cases hz:(z==0) with
         | true =>
           have hz0:z=0:=by simpa using hz
           have HE:Hid (fstF L m (j+1)=fstF L L.length 0):=by
             show _=_
             rw [<- HF.out,HF2.out,if_pos hz0]
           clear hz0
           have hz2:(z != 0)=false:=by simp [bne,hz]
           go_wp2_with fail
           go_roundg m
           case measure=>omega
           case rel=>exact ⟨j+1,by omega,by go_num,HE.out,HB3.out⟩
         | false =>
           have hz0:¬ z=0:=beq_eq_false_iff_ne.1 hz
           have HE:Hid (chk s=(z,g.place)):=by
             show _=_
             rw [HC.out,<- HF.out,HF2.out,if_neg hz0]
           clear hz0
           have hz2:(z != 0)=true:=by simp [bne,hz]
           go_wp2_with fail
           go_quiet (fail)
           go_wp2_with fail
           go_ret2
           exact ⟨below_drewN (HB1.out.trans (HB3.out.mono HB1.out.size)) _,by rw [HE.out];rfl⟩
       · have hd:decide ((j:Int)<(L.length:Int))=false:=decide_eq_false (by omega)
         have HE:Hid (chk s=(0,0)):=by
           show _=_
           have h0:gk=0:=by omega
           rw [HC.out,<- HF.out,h0];rfl
         go_wp2_with fail
         go_ret2
         exact ⟨HB1.out.trans (HB2.out.mono HB1.out.size),by rw [HE.out];rfl⟩
 · simp only at hok
   subst hok
   subst he
   have HC:Hid (chk s=(2,(at_:Int))):=by show _=_;rw [HC1.out];rfl
   have HB1:Hid (Below w.heap.size w w1):=hb1
   clear hb1
   go_wp2_with fail
   go_ret2
   exact ⟨HB1.out,by rw [HC.out];rfl⟩
end Go.Proofs.YtaebngpoagjafaaGreat
namespace Go.Proofs.YtaebngpoagjafaaGreat
open Go.RowKit
structure IS (w:World) (o:Option Addr) (b off n:Nat) (D:Nat->Int):Prop where
 at_:0<n->o=some ⟨b,off,none⟩
 lt:0<n->b<w.heap.size
 val:∀ i,i<n->w.cell? ⟨b,off+i,none⟩=some (.int .i64 (D i))
theorem IS.below {w w':World} {o:Option Addr} {b off n:Nat} {D:Nat->Int} (h:IS w o b off n D) {B:Nat} (hb:Below B w w') (hB:0<n->b<B):IS w' o b off n D:=⟨h.at_,fun hn=>Nat.lt_of_lt_of_le (h.lt hn) hb.size,fun i hi=>by
 rw [hb.cell (p:=⟨b,off+i,none⟩) (hB (by omega))];exact h.val i hi⟩
structure AS (w:World) (base:Nat) (ao:Option Addr) (ab aoff:Nat) (al:List (List Int)):Prop where
 at_:0<al.length->ao=some ⟨ab,aoff,none⟩
 lt:0<al.length->ab<base
 val:∀ k l,al[k]?=some l->∃ lo lc,w.cell? ⟨ab,aoff+k,none⟩=some (.slice lo l.length lc)/\(0<l.length->∃ lb loff,lo=some ⟨lb,loff,none⟩/\lb<base/\∀ i x,l[i]?=some x->w.cell? ⟨lb,loff+i,none⟩=some (.int .i64 x))
 len:∀ l∈al,l.length*8<=140737488351232
theorem AS.of_kept {w w':World} {base:Nat} {ao:Option Addr} {ab aoff:Nat} {al:List (List Int)} (h:AS w base ao ab aoff al) (hk:∀ b,b<base->w'.heap[b]?=w.heap[b]?):AS w' base ao ab aoff al :=
 ⟨h.at_,h.lt,fun k l hl=>by
   obtain ⟨lo,lc,h1,h2⟩:=h.val k l hl
   have hp:0<al.length:=by have:=(List.getElem?_eq_some_iff.1 hl).1;omega
   refine ⟨lo,lc,by rw [World.cell?_of_block (hk ab (h.lt hp))];exact h1,fun h0=>?_⟩
   obtain ⟨lb,loff,h3,h4,h5⟩:=h2 h0
   exact ⟨lb,loff,h3,h4,fun i x hx=>by rw [World.cell?_of_block (hk lb h4)];exact h5 i x hx⟩,h.len⟩
theorem Tryz.infoInt:(Tryz.prog.info? 3).map (fun i=>(i.zero,i.size,i.bytes))=some (some (.int .i64 0),1,8):=by kernel_rfl
theorem Tryz.infoByte:(Tryz.prog.info? 5).map (fun i=>(i.zero,i.size,i.bytes))=some (some (.int .u8 0),1,1):=by kernel_rfl
end Go.Proofs.YtaebngpoagjafaaGreat
namespace Go.Proofs.YtaebngpoagjafaaGreat
open Go.RowKit
def brL (s:ByteArray):Nat->List Int
 | 0=>[]
 | n+1=>brL s n++(if T.bl (T.ch s n)=true then [] else [T.ch s n])
def bare (s:ByteArray):ByteArray:=strOfNums (brL s s.size)
theorem brL_len (s:ByteArray):∀ n,(brL s n).length<=n:=by
 intro n
 induction n with
 | zero=>exact Nat.le_refl _
 | succ n ih=>simp only [brL,List.length_append];split<;>simp<;>omega
attribute [local go_sem ↓] Go.wp_at_zero Go.wp_at_succ
set_option maxHeartbeats 800000 in
theorem bare_any (s:ByteArray) (w:World) (hs:s.size<=2000) :
   Calls Tryz.prog 95 #[.string s] w fun e w'=>Below w.heap.size w w'/\e=.returned (.string (bare s)):=by
 obtain ⟨i0,hi0,hz0,hz1,hz2⟩:=info_parts Tryz.infoByte
 go_enter Tryz.func95,Tryz.ntmps95
 go_wp2_with fail
 have hcv:=fun (w:World) (g len cap:Nat) (xs:List Int) (hl:xs.length=len) (hc:∀ i,i<len->w.cell? ⟨g,0+i,none⟩=some (.int .u8 (xs.getD i 0)))=>run_convert_bytes_arg (P:=Tryz.prog) w 48 5 Tryz.underlying48 Tryz.underlying5 g 0 len cap xs hl hc 9 Tryz.underlying9
 have hcn:=fun (w:World)=>run_convert_bytes_nil (P:=Tryz.prog) w 48 5 Tryz.underlying48 Tryz.underlying5 0 0 9 Tryz.underlying9
 go_loopg [3,4] s.size (fun n x y wr=>∃ (j:Nat),n+j=s.size/\y=.int .i64 j/\wr.ownsRow w.heap.size 5 1 x (brL s j).length ((brL s j).map (Value.int .u8))/\Below w.heap.size w wr)
 case atStart=>exact ⟨0,by omega,rfl,⟨rfl,.inl ⟨rfl,rfl⟩⟩,Below.refl _ _⟩
 case round =>
   obtain ⟨j,hn,rfl,hrow,hb⟩:=hrel
   have HR:Hid (wr.ownsRow w.heap.size 5 1 u3 (brL s j).length ((brL s j).map (Value.int .u8))):=hrow
   have HB:Hid (Below w.heap.size w wr):=hb
   have hbs:=hb.size
   clear hrow hb
   by_cases hlt:j<s.size
   · have hlt':(j:Int)<(s.size:Int):=by omega
     have hj0:(0:Int)<=(j:Int):=by omega
     have hch:((s[j]).toNat:Int)=T.ch s j:=(T.ch_lt hlt).symm
     have hbl:=fun w=>blank_any (T.ch s j) w
     have hln:=brL_len s j
     generalize hq:T.bl (T.ch s j)=q at *
     cases q with
     | true =>
       have HE:Hid (brL s (j+1)=brL s j):=by show _=_;simp only [brL];rw [if_pos hq,List.append_nil]
       clear hq
       generalize T.ch s j=c at *
       go_wp2_with fail
       refine (hbl _).mono ?_
       rintro e w' ⟨rfl,hw'⟩
       subst w'
       go_wp2_with fail
       go_roundg (gk-1)
       case measure=>omega
       case rel=>exact ⟨j+1,by omega,by go_num,by rw [HE.out];exact HR.out,HB.out⟩
     | false =>
       have HE:Hid (brL s (j+1)=brL s j++[T.ch s j]):=by show _=_;simp only [brL];rw [if_neg (by rw [hq];decide)]
       clear hq
       generalize T.ch s j=c at *
       have hA1:Hid ((brL s j).length+1<=maxLen):=by show _<=_;unfold maxLen;omega
       have hA2:Hid (((brL s j).length+1)*1<=140737488355328):=by show _<=_;omega
       have hA3:Hid (w.heap.size<=(wr.alloc (.cells #[.int .u8 c] 5)).heap.size):=by show _<=_;simp;omega
       have hone:Hid (∀ u∈[Value.int .u8 c],u.oneCell'=true):=fun u hu=>by simp at hu;subst hu;rfl
       go_wp2_with fail
       refine (hbl _).mono ?_
       rintro e w' ⟨rfl,hw'⟩
       subst w'
       go_wp2_with (at_builtin;refine wpList_append_lies _ rfl _ _ 48 rfl w.heap.size 5 i0 _ 1 1 Tryz.underlying48 hi0 hz0 hz1 hz2 rfl (by decide) u3 _ _ rfl (HR.out.alloc _) ⟨wr.heap.size,0,none⟩ 1 1 [.int .u8 c] rfl rfl (World.news_of_block (cs:=#[.int .u8 c]) (t:=5) (fr:=(0,0)) (heap_alloc_new wr _)) hone.out (Nat.lt_succ_self 0) hA1.out hA2.out hA3.out (wr.heap.size+1) (by simp) ?_;intro g cap w4 hown hgrow hat hlt4)
       have HR4:Hid (w4.ownsRow w.heap.size 5 1 (.slice (some ⟨g,0,none⟩) ((brL s j).length+1) cap) (brL s (j+1)).length ((brL s (j+1)).map (Value.int .u8))):=by
         show World.ownsRow _ _ _ _ _ _ _
         rw [HE.out,List.length_append,List.map_append]
         exact hown
       have HB4:Hid (Below w.heap.size w w4):=(HB.out.alloc hbs _).grown hgrow (by simp;omega) (fun k hk=>(HR.out.lt k hk).1)
       clear hown hgrow hat
       go_roundg (gk-1)
       case measure=>omega
       case rel=>exact ⟨j+1,by omega,by go_num,HR4.out,HB4.out⟩
   · have hlt':¬ (j:Int)<(s.size:Int):=by omega
     have hje:j=s.size:=by omega
     subst hje
     rcases HR.out.2 with ⟨h1,h2⟩ | ⟨g,cap,cur,h1,h2,h3,h4,h5,h6,h7⟩
     · subst h1
       have HE:Hid (bare s=ByteArray.empty):=by show _=_;unfold bare;rw [List.eq_nil_of_length_eq_zero h2];rfl
       have hcn':=hcn wr
       go_wp2_with fail
       go_ret
       exact ⟨HB.out,by rw [HE.out];rfl⟩
     · subst h1
       have hcv':=hcv wr g (brL s s.size).length cap (brL s s.size) rfl (fun i hi=>by
         have:=World.ownsRow.cellAt HR.out i (by omega)
         rw [Nat.zero_add,this]
         simp [hi])
       have HE:Hid (strOfNums (brL s s.size)=bare s):=rfl
       rw [HE.out] at hcv'
       go_wp2_with fail
       go_ret
       exact ⟨HB.out,rfl⟩
end Go.Proofs.YtaebngpoagjafaaGreat
namespace Go.Proofs.YtaebngpoagjafaaGreat
open Go.RowKit
structure SPL where
 l:List ByteArray
 from_:Nat
 deep:Int
def spS (s:ByteArray) (c:Int):Nat->SPL
 | 0=>⟨[],0,0⟩
 | i+1 =>
   let q:=spS s c i
   if T.ch s i=40\/T.ch s i=123 then ⟨q.l,q.from_,q.deep+1⟩
   else if T.ch s i=41\/T.ch s i=125 then ⟨q.l,q.from_,q.deep-1⟩
   else if T.ch s i=c/\q.deep=0 then ⟨q.l++[s.extract q.from_ i],i+1,q.deep⟩
   else q
def spl (s:ByteArray) (c:Int):List ByteArray:=(spS s c s.size).l++[s.extract (spS s c s.size).from_ s.size]
theorem spS_bd (s:ByteArray) (c:Int):∀ i,(spS s c i).from_<=i/\(spS s c i).l.length<=i/\-(i:Int)<=(spS s c i).deep/\(spS s c i).deep<=i:=by
 intro i
 induction i with
 | zero=>simp [spS]
 | succ i ih =>
   simp only [spS]
   split
   · simp only;omega
   · split
     · simp only;omega
     · split
       · simp only [List.length_append,List.length_cons,List.length_nil];omega
       · omega
theorem Tryz.infoStr:(Tryz.prog.info? 9).map (fun i=>(i.zero,i.size,i.bytes))=some (some (.string ByteArray.empty),1,16):=by kernel_rfl
attribute [local go_sem ↓] Go.wp_at_zero Go.wp_at_succ
set_option maxHeartbeats 800000 in
theorem split_any (s:ByteArray) (c:Int) (w:World) (hs:s.size<=2000) :
   Calls Tryz.prog 94 #[.string s,.int .u8 c] w fun e w'=>Below w.heap.size w w'/\∃ v,e=.returned v/\w'.ownsRow w.heap.size 9 1 v (spl s c).length ((spl s c).map Value.string):=by
 obtain ⟨i0,hi0,hz0,hz1,hz2⟩:=info_parts Tryz.infoStr
 go_enter Tryz.func94,Tryz.ntmps94
 go_wp2_with fail
 go_loopg [5,6,7,8] s.size (fun n x y z t wr=>∃ (j:Nat),n+j=s.size/\t=.int .i64 j/\y=.int .i64 (spS s c j).from_/\z=.int .i64 (spS s c j).deep/\wr.ownsRow w.heap.size 9 1 x (spS s c j).l.length ((spS s c j).l.map Value.string)/\Below w.heap.size w wr)
 case atStart=>exact ⟨0,by omega,rfl,rfl,rfl,⟨rfl,.inl ⟨rfl,rfl⟩⟩,Below.refl _ _⟩
 case round =>
   obtain ⟨j,hn,rfl,rfl,rfl,hrow,hb⟩:=hrel
   have HR:Hid (wr.ownsRow w.heap.size 9 1 u5 (spS s c j).l.length ((spS s c j).l.map Value.string)):=hrow
   have HB:Hid (Below w.heap.size w wr):=hb
   have hbs:=hb.size
   have hbd:=spS_bd s c j
   clear hrow hb
   by_cases hlt:j<s.size
   · have hlt':(j:Int)<(s.size:Int):=by omega
     have hj0:(0:Int)<=(j:Int):=by omega
     have hch:((s[j]).toNat:Int)=T.ch s j:=(T.ch_lt hlt).symm
     have HN:Hid (spS s c (j+1)=if T.ch s j=40\/T.ch s j=123 then ⟨(spS s c j).l,(spS s c j).from_,(spS s c j).deep+1⟩ else if T.ch s j=41\/T.ch s j=125 then ⟨(spS s c j).l,(spS s c j).from_,(spS s c j).deep-1⟩ else if T.ch s j=c/\(spS s c j).deep=0 then ⟨(spS s c j).l++[s.extract (spS s c j).from_ j],j+1,(spS s c j).deep⟩ else spS s c j):=rfl
     generalize T.ch s j=h at *
     generalize hq:spS s c j=q at *
     obtain ⟨ql,qf,qd⟩:=q
     simp only at hbd HR
     have hqf0:(0:Int)<=(qf:Int):=by omega
     have hqf1:(qf:Int)<=(j:Int):=by omega
     have hqd0:-2000<=qd:=by omega
     have hqd1:qd<=2000:=by omega
     clear hq
     have hjs:(j:Int)<=(s.size:Int):=by omega
     cases e1:(h==40) with
     | true =>
       have HE:Hid (spS s c (j+1)=⟨ql,qf,qd+1⟩):=by show _=_;rw [HN.out,if_pos (.inl (by simpa using e1))]
       clear HN
       go_wp2_with fail
       go_roundg (gk-1)
       case measure=>omega
       case rel=>exact ⟨j+1,by omega,by go_num,by rw [HE.out],by rw [HE.out],by rw [HE.out];exact HR.out,HB.out⟩
     | false =>
       cases e2:(h==123) with
       | true =>
         have HE:Hid (spS s c (j+1)=⟨ql,qf,qd+1⟩):=by show _=_;rw [HN.out,if_pos (.inr (by simpa using e2))]
         clear HN
         go_wp2_with fail
         go_roundg (gk-1)
         case measure=>omega
         case rel=>exact ⟨j+1,by omega,by go_num,by rw [HE.out],by rw [HE.out],by rw [HE.out];exact HR.out,HB.out⟩
       | false =>
         have n1:¬ (h=40\/h=123):=fun hh=>hh.elim (by simpa using e1) (by simpa using e2)
         cases e3:(h==41) with
         | true =>
           have HE:Hid (spS s c (j+1)=⟨ql,qf,qd-1⟩):=by show _=_;rw [HN.out,if_neg n1,if_pos (.inl (by simpa using e3))]
           clear HN n1
           go_wp2_with fail
           go_roundg (gk-1)
           case measure=>omega
           case rel=>exact ⟨j+1,by omega,by go_num,by rw [HE.out],by rw [HE.out],by rw [HE.out];exact HR.out,HB.out⟩
         | false =>
           cases e4:(h==125) with
           | true =>
             have HE:Hid (spS s c (j+1)=⟨ql,qf,qd-1⟩):=by show _=_;rw [HN.out,if_neg n1,if_pos (.inr (by simpa using e4))]
             clear HN n1
             go_wp2_with fail
             go_roundg (gk-1)
             case measure=>omega
             case rel=>exact ⟨j+1,by omega,by go_num,by rw [HE.out],by rw [HE.out],by rw [HE.out];exact HR.out,HB.out⟩
           | false =>
             have n2:¬ (h=41\/h=125):=fun hh=>hh.elim (by simpa using e3) (by simpa using e4)
             cases e5:(h==c) with
             | false =>
               have HE:Hid (spS s c (j+1)=⟨ql,qf,qd⟩):=by show _=_;rw [HN.out,if_neg n1,if_neg n2,if_neg (fun hh=>by simp at e5;exact e5 hh.1)]
               clear HN n1 n2
               go_wp2_with fail
               go_roundg (gk-1)
               case measure=>omega
               case rel=>exact ⟨j+1,by omega,by go_num,by rw [HE.out],by rw [HE.out],by rw [HE.out];exact HR.out,HB.out⟩
             | true =>
               cases e6:(qd==0) with
               | false =>
                 have HE:Hid (spS s c (j+1)=⟨ql,qf,qd⟩):=by show _=_;rw [HN.out,if_neg n1,if_neg n2,if_neg (fun hh=>by simp at e6;exact e6 hh.2)]
                 clear HN n1 n2
                 go_wp2_with fail
                 go_roundg (gk-1)
                 case measure=>omega
                 case rel=>exact ⟨j+1,by omega,by go_num,by rw [HE.out],by rw [HE.out],by rw [HE.out];exact HR.out,HB.out⟩
               | true =>
                 have HE:Hid (spS s c (j+1)=⟨ql++[s.extract qf j],j+1,qd⟩):=by show _=_;rw [HN.out,if_neg n1,if_neg n2,if_pos ⟨by simpa using e5,by simpa using e6⟩]
                 clear HN n1 n2
                 have hA1:Hid (ql.length+1<=maxLen):=by show _<=_;unfold maxLen;omega
                 have hA2:Hid ((ql.length+1)*16<=140737488355328):=by show _<=_;omega
                 have hA3:Hid (w.heap.size<=(wr.alloc (.cells #[.string (s.extract qf j)] 9)).heap.size):=by show _<=_;simp;omega
                 have hone:Hid (∀ u∈[Value.string (s.extract qf j)],u.oneCell'=true):=fun u hu=>by simp at hu;subst hu;rfl
                 go_wp2_with (at_builtin;refine wpList_append_lies _ rfl _ _ 93 rfl w.heap.size 9 i0 _ 1 16 Tryz.underlying93 hi0 hz0 hz1 hz2 rfl (by decide) u5 _ _ rfl (HR.out.alloc _) ⟨wr.heap.size,0,none⟩ 1 1 [.string (s.extract qf j)] rfl rfl (World.news_of_block (cs:=#[.string (s.extract qf j)]) (t:=9) (fr:=(0,0)) (heap_alloc_new wr _)) hone.out (Nat.lt_succ_self 0) hA1.out hA2.out hA3.out (wr.heap.size+1) (by simp) ?_;intro g cap w4 hown hgrow hat hlt4)
                 have HR4:Hid (w4.ownsRow w.heap.size 9 1 (.slice (some ⟨g,0,none⟩) (ql.length+1) cap) (ql++[s.extract qf j]).length ((ql++[s.extract qf j]).map Value.string)):=by
                   show World.ownsRow _ _ _ _ _ _ _
                   rw [List.length_append,List.map_append]
                   exact hown
                 have HB4:Hid (Below w.heap.size w w4):=(HB.out.alloc hbs _).grown hgrow (by simp;omega) (fun k hk=>(HR.out.lt k hk).1)
                 clear hown hgrow hat
                 go_roundg (gk-1)
                 case measure=>omega
                 case rel=>exact ⟨j+1,by omega,by go_num,by rw [HE.out];go_num,by rw [HE.out],by rw [HE.out];exact HR4.out,HB4.out⟩
   · have hlt':¬ (j:Int)<(s.size:Int):=by omega
     have hje:j=s.size:=by omega
     subst hje
     have HE:Hid (spl s c=(spS s c s.size).l++[s.extract (spS s c s.size).from_ s.size]):=rfl
     generalize hq:spS s c s.size=q at *
     obtain ⟨ql,qf,qd⟩:=q
     simp only at hbd HR HE
     have hqf0:(0:Int)<=(qf:Int):=by omega
     have hqf1:(qf:Int)<=(s.size:Int):=by omega
     clear hq
     have hA1:Hid (ql.length+1<=maxLen):=by show _<=_;unfold maxLen;omega
     have hA2:Hid ((ql.length+1)*16<=140737488355328):=by show _<=_;omega
     have hA3:Hid (w.heap.size<=(wr.alloc (.cells #[.string (s.extract qf s.size)] 9)).heap.size):=by show _<=_;simp;omega
     have hone:Hid (∀ u∈[Value.string (s.extract qf s.size)],u.oneCell'=true):=fun u hu=>by simp at hu;subst hu;rfl
     go_wp2_with (at_builtin;refine wpList_append_lies _ rfl _ _ 93 rfl w.heap.size 9 i0 _ 1 16 Tryz.underlying93 hi0 hz0 hz1 hz2 rfl (by decide) u5 _ _ rfl (HR.out.alloc _) ⟨wr.heap.size,0,none⟩ 1 1 [.string (s.extract qf s.size)] rfl rfl (World.news_of_block (cs:=#[.string (s.extract qf s.size)]) (t:=9) (fr:=(0,0)) (heap_alloc_new wr _)) hone.out (Nat.lt_succ_self 0) hA1.out hA2.out hA3.out (wr.heap.size+1) (by simp) ?_;intro g cap w4 hown hgrow hat hlt4)
     have HR4:Hid (w4.ownsRow w.heap.size 9 1 (.slice (some ⟨g,0,none⟩) (ql.length+1) cap) (spl s c).length ((spl s c).map Value.string)):=by
       show World.ownsRow _ _ _ _ _ _ _
       rw [HE.out,List.length_append,List.map_append]
       exact hown
     have HB4:Hid (Below w.heap.size w w4):=(HB.out.alloc hbs _).grown hgrow (by simp;omega) (fun k hk=>(HR.out.lt k hk).1)
     clear hown hgrow hat
     go_wp2_with fail
     go_ret
     exact ⟨HB4.out,_,rfl,HR4.out⟩
end Go.Proofs.YtaebngpoagjafaaGreat
