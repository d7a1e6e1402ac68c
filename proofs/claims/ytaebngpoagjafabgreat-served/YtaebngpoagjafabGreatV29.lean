import Derived.Test.YtaebngpoagjafabGreatV28
set_option maxRecDepth 100000
namespace Go.Proofs.YtaebngpoagjafabGreat
open Go.RowKit
theorem qi {s:ByteArray} {p:Nat}:∀ n,(∀ i,p<=i->i<p+n->T.bl (T.ch s i)=false)->sgL s p n=(List.range n).map (fun i=>T.ch s (p+i)):=by
 intro n
 induction n with
 | zero=>intro _;rfl
 | succ n ih =>
  intro h
  simp only [sgL]
  rw [ih (fun i h1 h2=>h i h1 (by omega)),if_neg (by rw [h (p+n) (by omega) (by omega)];decide),List.range_succ,List.map_append]
  rfl
structure X7 (x:List Int) (v:Int):Prop where
 dig:∀ c∈x,48<=c/\c<=57
 ne:x≠[]
 le:x.length<=9
 val:T.val (strOfNums x) x.length=v
structure jR (x:List Int) (v l:Int):Prop where
 dig:∀ c∈x,c=48\/c=49
 ne:x≠[]
 le:x.length<=32
 len:l=(x.length:Int)
 val:v=bv (strOfNums x) 0 x.length*2 ^ (32-x.length)
theorem X7.pln {x:List Int} {v:Int} (h:X7 x v):Pln x:=fun c hc=>.inl (h.dig c hc)
theorem jR.pln {x:List Int} {v l:Int} (h:jR x v l):Pln x:=fun c hc=>.inl (by have:=h.dig c hc;omega)
theorem xx {s:ByteArray} {k:Nat} {b:Bool} (hk:k<=s.size) (h:zu s k b=false):b=false/\T.sk s k<zm s k b/\X7 (bt s k (zm s k b)) (zI s k b):=by
 have hg:=Z3 hk h
 obtain ⟨rfl,hlt,hp⟩:=hg
 have e1:zm s k false=nmF s false (nmL s (T.sk s k) false) (T.sk s k):=by unfold zm nmE;rw [zk]
 have e2:zI s k false=vl s (T.sk s k) (zm s k false-T.sk s k):=by unfold zI;rw [zk]
 have hd:=QG s (nmL s (T.sk s k) false) (T.sk s k)
 have hu:=jt s false (nmL s (T.sk s k) false) (T.sk s k)
 have h9:nmL s (T.sk s k) false<=9:=by unfold nmL;split<;>omega
 rw [<- e1] at hd hu
 rw [e2,yu (by omega)]
 generalize zm s k false=e at *
 generalize T.sk s k=p at *
 have hdig:∀ i,p<=i->i<p+(e-p)->48<=T.ch s i/\T.ch s i<=57:=fun i h1 h2=>(Yk _).1 (hd i h1 (by omega))
 have hx:bt s p e=(List.range (e-p)).map (fun i=>T.ch s (p+i)):=qi (e-p) (fun i h1 h2=>by have:=hdig i h1 h2;unfold T.bl;simp;omega)
 have hlen:(bt s p e).length=e-p:=by rw [hx];simp
 have hmem:∀ c∈bt s p e,48<=c/\c<=57:=fun c hc=>by
  rw [hx] at hc
  simp only [List.mem_map,List.mem_range] at hc
  obtain ⟨i,hi,rfl⟩:=hc
  exact hdig _ (by omega) (by omega)
 have hbyt:Byt (bt s p e):=fun c hc=>by have:=hmem c hc;omega
 refine ⟨rfl,hlt,⟨hmem,fun hn=>by rw [hn] at hlen;simp at hlen;omega,by omega,?_⟩⟩
 rw [hlen]
 have key:∀ j,j<=e-p->T.val (strOfNums (bt s p e)) j=vl s p j:=by
  intro j
  induction j with
  | zero=>intro _;rfl
  | succ j ih =>
   intro hj
   simp only [T.val,vl]
   rw [ih (by omega),ZG hbyt,hx,List.getElem?_map,List.getElem?_range (by omega)]
   rfl
 exact key _ (Nat.le_refl _)
theorem zbL {s:ByteArray} {k:Nat} {b:Bool} (hk:k<=s.size) (h:btX s k b=false):b=false/\T.sk s k<btK s k b/\jR (bt s k (btK s k b)) (btV s k b) (btL s k b):=by
 have hg:=qE hk h
 obtain ⟨rfl,hlt,hp⟩:=hg
 have e1:btK s k false=btF s false 32 (T.sk s k):=by unfold btK;rw [zk]
 have e2:btL s k false=btK s k false-T.sk s k:=by unfold btL;rw [zk]
 have e3:btV s k false=bv s (T.sk s k) (btL s k false)*2 ^ (32-btL s k false):=by unfold btV;rw [zk]
 have hd:=X4 s 32 (T.sk s k)
 have hu:=(Xc s false 32 (T.sk s k) (T.sk_le hk)).2.2
 rw [<- e1] at hd hu
 rw [e3,e2,yu (by omega)]
 generalize btK s k false=e at *
 generalize T.sk s k=p at *
 have hdig:∀ i,p<=i->i<p+(e-p)->T.ch s i=48\/T.ch s i=49:=fun i h1 h2=>by
  have:=hd i h1 (by omega)
  simpa [bit] using this
 have hx:bt s p e=(List.range (e-p)).map (fun i=>T.ch s (p+i)):=qi (e-p) (fun i h1 h2=>by have:=hdig i h1 h2;unfold T.bl;simp;omega)
 have hlen:(bt s p e).length=e-p:=by rw [hx];simp
 have hmem:∀ c∈bt s p e,c=48\/c=49:=fun c hc=>by
  rw [hx] at hc
  simp only [List.mem_map,List.mem_range] at hc
  obtain ⟨i,hi,rfl⟩:=hc
  exact hdig _ (by omega) (by omega)
 have hbyt:Byt (bt s p e):=fun c hc=>by have:=hmem c hc;omega
 refine ⟨rfl,hlt,⟨hmem,fun hn=>by rw [hn] at hlen;simp at hlen;omega,by omega,by rw [hlen],?_⟩⟩
 rw [hlen]
 have key:∀ j,j<=e-p->bv (strOfNums (bt s p e)) 0 j=bv s p j:=by
  intro j
  induction j with
  | zero=>intro _;rfl
  | succ j ih =>
   intro hj
   simp only [bv]
   rw [ih (by omega),ZG hbyt,hx,List.getElem?_map,List.getElem?_range (by omega),Nat.zero_add]
   rfl
 rw [key _ (Nat.le_refl _)]
def ruX (c:Int):List (Int×List Int)->Option (List Int)
 | []=>none
 | y::l=>if y.1=c then some y.2 else ruX c l
theorem zcn {c:Int} {t:List Int} (Z:List (Int×List Int)):∀ (Y:List (Int×List Int)),ruX c Y=some t->ruX c (Y++Z)=some t:=by
 intro Y
 induction Y with
 | nil=>intro h;cases h
 | cons y l ih =>
  intro h
  simp only [List.cons_append,ruX] at h ⊢
  split
  ·next hh=>rw [if_pos hh] at h;exact h
  ·next hh=>rw [if_neg hh] at h;exact ih h
def TIt (k:Int) (x:List Int) (i:IM):Prop:=i.arm=-1/\if k=119 then ∃ a b,x=a++[42]++b/\X7 a i.num/\X7 b i.wv else X7 x i.num
def Q2 (k:Int) (x:List Int) (i:IM):Prop:=if k=109 then jR x i.pv i.pl else X7 x i.num
theorem TIt.pln {k:Int} {x:List Int} {i:IM} (h:TIt k x i):Pln x:=by
 have:=h.2
 split at this
 ·obtain ⟨a,b,rfl,h1,h2⟩:=this
  exact (h1.pln.app (fun z hz=>by simp at hz;exact .inr hz)).app h2.pln
 ·exact this.pln
theorem Q2.pln {k:Int} {x:List Int} {i:IM} (h:Q2 k x i):Pln x:=by
 unfold Q2 at h
 split at h
 ·exact h.pln
 ·exact h.pln
inductive TX (E:List EX) (Y:List (Int×List Int)):List Int->Nat->Prop where
 | servers {j:Nat} {e:EX} {l:List (List Int)}:E[j]?=some e->e.kind=123->l≠[]->l.length=e.items.length->(∀ (i:Nat) (x:List Int) (it:IM),l[i]?=some x->e.items[i]?=some it->TIt 123 x it)->TX E Y ([123]++joi 44 l++[125]) j
 | alias {j:Nat} {e:EX} {x:List Int}:E[j]?=some e->e.kind=64->X7 x e.nv->TX E Y (64::x) j
 | name {j i:Nat} {e:EX} {c:Int} {t:List Int}:E[j]?=some e->e.kind=61->e.nv=c->(97<=c/\c<=122)->ruX c Y=some t->e.inner=(i:Int)->i<j->TX E Y t i->TX E Y [61,c] j
 | ttl {j i:Nat} {e:EX} {x o:List Int}:E[j]?=some e->e.kind=116->X7 x e.nv->e.inner=(i:Int)->i<j->TX E Y o i->TX E Y ([116]++([40]++joi 44 [x,o]++[41])) j
 | list {j i:Nat} {e:EX} {c:Int} {l:List (List Int)} {o:List Int}:E[j]?=some e->e.kind=c->(c=119\/c=102)->l≠[]->l.length=e.items.length->(∀ (i:Nat) (x:List Int) (it:IM),l[i]?=some x->e.items[i]?=some it->TIt c x it)->e.inner=(i:Int)->i<j->TX E Y o i->TX E Y ([c]++([40]++joi 124 [joi 44 l,o]++[41])) j
 | maps {j i:Nat} {e:EX} {c:Int} {m:Nat} {ks ar:Nat->List Int} {an:Nat->Nat} {o:List Int}:E[j]?=some e->e.kind=c->(c=109\/c=103)->0<m->e.items.length=m->(∀ (i:Nat) (it:IM),e.items[i]?=some it->Q2 c (ks i) it/\it.arm=(an i:Int)/\an i<j)->(∀ i,i<m->TX E Y (ar i) (an i))->e.inner=(i:Int)->i<j->TX E Y o i->TX E Y ([c]++([40]++joi 124 [joi 44 ((List.range m).map (fun i=>ks i++[58]++ar i)),o]++[41])) j
theorem TX.app {E:List EX} {Y:List (Int×List Int)} (Z:List (Int×List Int)) {t:List Int} {j:Nat} (h:TX E Y t j):TX E (Y++Z) t j:=by
 induction h with
 | servers h1 h2 h3 h4 h5=>exact TX.servers h1 h2 h3 h4 h5
 | alias h1 h2 h3=>exact TX.alias h1 h2 h3
 | name h1 h2 h3 h4 h5 h6 h7 _ ih=>exact TX.name h1 h2 h3 h4 (zcn Z _ h5) h6 h7 ih
 | ttl h1 h2 h3 h4 h5 _ ih=>exact TX.ttl h1 h2 h3 h4 h5 ih
 | list h1 h2 h3 h4 h5 h6 h7 h8 _ ih=>exact TX.list h1 h2 h3 h4 h5 h6 h7 h8 ih
 | maps h1 h2 h3 h4 h5 h6 _ h8 h9 _ iha iho=>exact TX.maps h1 h2 h3 h4 h5 h6 iha h8 h9 iho
theorem jW {k:Int} {l:List (List Int)} {its:List IM} (hl:l.length=its.length) (h:∀ (i:Nat) (x:List Int) (it:IM),l[i]?=some x->its[i]?=some it->TIt k x it):∀ x∈l,Pln x:=fun x hx=>by
 obtain ⟨i,hi⟩:=List.getElem?_of_mem hx
 have hlt:=(List.getElem?_eq_some_iff.1 hi).1
 exact (h i x its[i] hi (List.getElem?_eq_getElem (by omega))).pln
theorem TX.szl {E:List EX} {Y:List (Int×List Int)} (nm:ByteArray) (K:List Int) {t:List Int} {j:Nat} (h:TX E Y t j):∃ n,SZL nm K t n:=by
 induction h with
 | servers h1 h2 h3 h4 h5=>exact ⟨_,SZL.servers h3 (jW h4 h5)⟩
 | alias h1 h2 h3=>exact ⟨_,SZL.alias h3.pln⟩
 | name h1 h2 h3 h4 h5 h6 h7 _ ih=>exact ⟨_,SZL.name h4⟩
 | ttl h1 h2 h3 h4 h5 _ ih=>obtain ⟨n,ih⟩:=ih;exact ⟨_,SZL.ttl h3.pln ih⟩
 | list h1 h2 h3 h4 h5 h6 h7 h8 _ ih=>obtain ⟨n,ih⟩:=ih;exact ⟨_,SZL.list h3 h4 (jW h5 h6) ih⟩
 | @maps j i e c m ks ar an o h1 h2 h3 h4 h5 h6 _ h8 h9 _ iha iho =>
  obtain ⟨n,iho⟩:=iho
  have hc:∀ i,∃ n,(i<m->SZL nm K (ar i) n)/\(m<=i->n=0):=fun i=>by
   by_cases hi:i<m
   ·obtain ⟨n,hn⟩:=iha i hi;exact ⟨n,fun _=>hn,fun h=>by omega⟩
   ·exact ⟨0,fun h=>absurd h hi,fun _=>rfl⟩
  obtain ⟨ns,hns⟩:=Classical.axiomOfChoice hc
  exact ⟨_,SZL.maps (ks:=ks) (ar:=ar) (ns:=ns) h3 h4 (fun i hi=>(h6 i e.items[i] (List.getElem?_eq_getElem (by omega))).1.pln) (fun i hi=>(hns i).1 hi) (fun i hi=>(hns i).2 hi) iho⟩
theorem TX.nsp {E:List EX} {Y:List (Int×List Int)} {t:List Int} {j:Nat} (h:TX E Y t j):Nsp 0 t:=by
 obtain ⟨n,h⟩:=h.szl .empty []
 exact h.nsp
theorem TX.byt {E:List EX} {Y:List (Int×List Int)} {t:List Int} {j:Nat} (h:TX E Y t j):Byt t:=by
 obtain ⟨n,h⟩:=h.szl .empty []
 exact h.byt
section
structure RX (rs:List RL) (Y:List (Int×List Int)) (E:List EX) (lim:Nat):Prop where
 len:Y.length=rs.length
 at_:∀ (i:Nat) (r:RL) (y:Int×List Int),rs[i]?=some r->Y[i]?=some y->y.1=r.nv/\∃ j:Nat,r.ex=(j:Int)/\j<lim/\TX E Y y.2 j
theorem zcx {rs:List RL} {Y:List (Int×List Int)} {E:List EX} {lim:Nat} (h:RX rs Y E lim) {v:Int} (hv:yf v rs≠-1):∃ (t:List Int) (i:Nat),ruX v Y=some t/\yf v rs=(i:Int)/\i<lim/\TX E Y t i:=by
 have key:∀ (rs:List RL) (Z:List (Int×List Int)),Z.length=rs.length->(∀ (i:Nat) (r:RL) (y:Int×List Int),rs[i]?=some r->Z[i]?=some y->y.1=r.nv/\∃ j:Nat,r.ex=(j:Int)/\j<lim/\TX E Y y.2 j)->yf v rs≠-1->∃ (t:List Int) (i:Nat),ruX v Z=some t/\yf v rs=(i:Int)/\i<lim/\TX E Y t i:=by
  intro rs
  induction rs with
  | nil=>intro Z _ _ h;exact absurd rfl h
  | cons r l ih =>
   intro Z hl hh hv
   cases Z with
   | nil=>simp at hl
   | cons y Z =>
    obtain ⟨h1,j,h2,h3,h4⟩:=hh 0 r y rfl rfl
    simp only [yf,ruX] at hv ⊢
    rw [h1]
    by_cases he:r.nv=v
    ·rw [if_pos he,if_pos he];exact ⟨_,j,rfl,h2,h3,h4⟩
    ·rw [if_neg he] at hv
     rw [if_neg he,if_neg he]
     exact ih Z (by simpa using hl) (fun i r' y' hr hy=>hh (i+1) r' y' hr hy) hv
 exact key rs Y h.len h.at_ hv
theorem JX {s:ByteArray} {ex:Int->Nat->Nat->Bool->CR} {c:Int} (hc:c=123\/c=102\/c=119) (d:Int) (m k:Nat) (hk:k<=s.size) (h:(zt ex s c d m k false).b=false) :
 (zt ex s c d m k false).es=[]/\TIt c (bt s k (zt ex s c d m k false).k) (zt ex s c d m k false).im:=by
 have hp0:=T.sk_le hk
 have hge:=T.sk_ge s k
 have hplain:zu s (T.sk s k) false=false->X7 (bt s k (zm s (T.sk s k) false)) (zI s (T.sk s k) false):=fun hh=>by
  have h1:=xx hp0 hh
  have:=Yq s k
  rw [yu (by omega)]
  exact h1.2.2
 rcases hc with rfl | rfl | rfl
 ·unfold zt at h ⊢
  simp only [zk] at h ⊢
  exact ⟨rfl,rfl,hplain h⟩
 ·unfold zt at h ⊢
  simp only [zk] at h ⊢
  exact ⟨rfl,rfl,hplain h⟩
 ·have e:zt ex s 119 d m k false=⟨⟨T.sk s k,zI s (T.sk s k) false,0,0,zI s (zc s 42 (zm s (T.sk s k) false) (zu s (T.sk s k) false)) (zj s 42 (zm s (T.sk s k) false) (zu s (T.sk s k) false)),zb s (zc s 42 (zm s (T.sk s k) false) (zu s (T.sk s k) false)) (zj s 42 (zm s (T.sk s k) false) (zu s (T.sk s k) false)),-1⟩,[],zm s (zc s 42 (zm s (T.sk s k) false) (zu s (T.sk s k) false)) (zj s 42 (zm s (T.sk s k) false) (zu s (T.sk s k) false)),zu s (zc s 42 (zm s (T.sk s k) false) (zu s (T.sk s k) false)) (zj s 42 (zm s (T.sk s k) false) (zu s (T.sk s k) false))⟩:=by unfold zt;rw [zk];rfl
  rw [e] at h ⊢
  simp only at h ⊢
  have hk1:=zZ (b:=false) hp0
  have hk2:zc s 42 (zm s (T.sk s k) false) (zu s (T.sk s k) false)<=s.size:=zq (by decide) hk1
  have h3:=xx hk2 h
  have h4:=zJ (by decide) (by decide) h3.1
  have h5:=hplain h4.1
  have hg1:=zV (b:=false) hp0
  have hg2:=zi s 42 (zm s (T.sk s k) false) (zu s (T.sk s k) false)
  have hg3:=zV (b:=zj s 42 (zm s (T.sk s k) false) (zu s (T.sk s k) false)) hk2
  refine ⟨trivial,rfl,?_⟩
  rw [if_pos rfl]
  refine ⟨_,_,?_,h5,h3.2.2⟩
  rw [zx s (b:=zm s (T.sk s k) false) (by omega) (by omega),zx s (a:=zm s (T.sk s k) false) hg2 hg3,h4.2.2,List.append_assoc]
theorem XU {s:ByteArray} {ex:Int->Nat->Nat->Bool->CR} (hM:Zs ex s) {c:Int} (hc:c=123\/c=102\/c=119) (d:Int):∀ (N m k:Nat),k<=s.size->s.size+1<=N+k->(zd ex s c d N m k false).b=false ->
 (zd ex s c d N m k false).es=[]/\∃ L:List (List Int),L.length=(zd ex s c d N m k false).ims.length/\L≠[]/\(∀ (i:Nat) (x:List Int) (it:IM),L[i]?=some x->(zd ex s c d N m k false).ims[i]?=some it->TIt c x it)/\bt s k (zd ex s c d N m k false).k=joi 44 L:=by
 intro N
 induction N with
 | zero=>intro m k h1 h2;omega
 | succ N ih =>
  intro m k hk hN hb
  have hmo:=yT hM c d m k false hk
  have hit:=JX (ex:=ex) hc d m k hk
  simp only [zd] at hb ⊢
  generalize zt ex s c d m k false=it at *
  have htl:∀ b,zc s 44 it.k b<=s.size:=fun b=>zq (by decide) hmo.2.1
  have htg:=zi s 44 it.k it.b
  have hitb:it.b=false:=by
   cases hq:it.b with
   | false=>rfl
   | true =>
    rw [hq] at hb
    have hdt:=yd (s:=s) (k:=it.k) (b:=true) (c:=44) (.inl rfl) (by decide) (by decide)
    rw [hdt.1] at hb
    simp at hb
  obtain ⟨i1,i3⟩:=hit hitb
  rw [hitb] at hb htg ⊢
  cases ht:zU s 44 it.k false with
  | false =>
   rw [ht] at hb
   simp only [Bool.false_eq_true,if_false] at hb ⊢
   refine ⟨i1,[bt s k it.k],rfl,by simp,fun i x z hx hz=>?_,?_⟩
   ·have hi0:i=0:=by have:=(List.getElem?_eq_some_iff.1 hx).1;simpa using this
    subst hi0
    simp at hx hz
    subst hx hz
    exact i3
   ·rw [zx s hmo.1 htg,YD ht,List.append_nil]
    rfl
  | true =>
   rw [ht] at hb
   simp only [if_true] at hb ⊢
   have hty:=ZZ (s:=s) (k:=it.k) (c:=44) (by decide) (by decide) ht
   have hsk:=T.sk_ge s it.k
   obtain ⟨q1,L,q3,q4,q5,q6⟩:=ih (m+it.es.length) (zc s 44 it.k false) (htl _) (by omega) hb
   have hq:=zL hM c d N (m+it.es.length) (zc s 44 it.k false) false (htl _)
   refine ⟨by rw [q1,i1];rfl,bt s k it.k::L,by simp [q3],by simp,fun i x z hx hz=>?_,?_⟩
   ·cases i with
    | zero =>
     simp at hx hz
     subst hx hz
     exact i3
    | succ i=>exact q5 i x z (by simpa using hx) (by simpa using hz)
   ·rw [Z4 44 _ q4,<- q6,zx s hmo.1 (c:=(zd ex s c d N (m+it.es.length) (zc s 44 it.k false) false).k) (by omega),zx s htg hq.1,hty.2,List.append_assoc]
section
variable {s:ByteArray} {Y:List (Int×List Int)} {E:List EX} {lim:Nat}
def EGX (s:ByteArray) (Y:List (Int×List Int)) (E:List EX) (lim:Nat) (ex:Int->Nat->Nat->Bool->CR) (n:Nat):Prop:=∀ d m k b,k<=s.size->s.size-k<n->(ex d m k b).b=false->lim<=m->Pos E m (ex d m k b).es ->
 1<=(ex d m k b).es.length/\(ex d m k b).idx=((m+(ex d m k b).es.length-1:Nat):Int)/\TX E Y (bt s k (ex d m k b).k) (m+(ex d m k b).es.length-1)
theorem J1 {ex:Int->Nat->Nat->Bool->CR} {n:Nat} (hM:Zs ex s) (hB:Xi ex) (hX:EGX s Y E lim ex n) {c:Int} (hc:c=103\/c=109) (d:Int) (m k:Nat) (hk:k<=s.size) (hn:s.size-k<n) (h:(zt ex s c d m k false).b=false) (hm:lim<=m) (hP:Pos E m (zt ex s c d m k false).es) :
 ∃ a:AR,Q2 c a.key (zt ex s c d m k false).im/\TX E Y a.txt a.num/\a.num<m+(zt ex s c d m k false).es.length/\(zt ex s c d m k false).im.arm=(a.num:Int)/\bt s k (zt ex s c d m k false).k=a.t:=by
 have hp0:=T.sk_le hk
 have hge:=T.sk_ge s k
 have fin:∀ (Q:List Int->Prop) (km kw:Nat) (bm bw:Bool),T.sk s k<=km->km<=s.size->zc s 58 km bm=kw->zj s 58 km bm=bw->(bm=false->Q (bt s k km))->(ex (d+1) m kw bw).b=false->Pos E m (ex (d+1) m kw bw).es->(bw=true->(ex (d+1) m kw bw).b=true) ->
  ∃ a:AR,Q a.key/\TX E Y a.txt a.num/\a.num<m+(ex (d+1) m kw bw).es.length/\(ex (d+1) m kw bw).idx=(a.num:Int)/\bt s k (ex (d+1) m kw bw).k=a.t:=by
  intro Q km kw bm bw h1 h2 h3 h4 h5 h6 h7 h8
  have hbw:bw=false:=by cases hq:bw with
   | false=>rfl
   | true=>rw [h8 hq] at h6;cases h6
  subst hbw
  have hw:=zJ (by decide) (by decide) h4
  have hkw:kw<=s.size:=by rw [<- h3];exact zq (by decide) h2
  have hg:=zi s 58 km bm
  obtain ⟨x1,x2,x3⟩:=hX (d+1) m kw false hkw (by omega) h6 hm h7
  have hmo:=hM (d+1) m kw false hkw
  refine ⟨⟨bt s k km,bt s kw (ex (d+1) m kw false).k,m+(ex (d+1) m kw false).es.length-1⟩,h5 hw.1,x3,by simp only;omega,x2,?_⟩
  unfold AR.t
  simp only
  rw [zx s (b:=km) (by omega) (by omega),zx s (a:=km) (b:=kw) (by omega) hmo.1]
  rw [h3] at hw
  rw [hw.2.2,List.append_assoc]
 rcases hc with rfl | rfl
 ·unfold zt at h hP ⊢
  simp only [zk] at h hP ⊢
  exact fin (fun x=>X7 x (zI s (T.sk s k) false)) (zm s (T.sk s k) false) _ (zu s (T.sk s k) false) _ (zV hp0) (zZ hp0) rfl rfl (fun hh=>by
   have h1:=xx hp0 hh
   rw [yu (zV hp0)]
   exact h1.2.2) h hP (fun hh=>by rw [hh];exact hB _ _ _)
 ·unfold zt at h hP ⊢
  simp only [zk] at h hP ⊢
  exact fin (fun x=>jR x (btV s (T.sk s k) false) (btL s (T.sk s k) false)) (btK s (T.sk s k) false) _ (btX s (T.sk s k) false) _ (Y8 hp0) (Y7 hp0) rfl rfl (fun hh=>by
   have h1:=zbL hp0 hh
   rw [yu (Y8 hp0)]
   exact h1.2.2) h hP (fun hh=>by rw [hh];exact hB _ _ _)
theorem jw {ex:Int->Nat->Nat->Bool->CR} {n:Nat} (hM:Zs ex s) (hB:Xi ex) (hX:EGX s Y E lim ex n) {c:Int} (hc:c=103\/c=109) (d:Int):∀ (N m k:Nat),k<=s.size->s.size+1<=N+k->s.size-k<n->(zd ex s c d N m k false).b=false->lim<=m->Pos E m (zd ex s c d N m k false).es ->
 ∃ L:List AR,L.length=(zd ex s c d N m k false).ims.length/\L≠[]/\(∀ a∈L,TX E Y a.txt a.num/\a.num<m+(zd ex s c d N m k false).es.length)/\(∀ (i:Nat) (a:AR) (it:IM),L[i]?=some a->(zd ex s c d N m k false).ims[i]?=some it->Q2 c a.key it/\it.arm=(a.num:Int))/\bt s k (zd ex s c d N m k false).k=joi 44 (L.map AR.t):=by
 intro N
 induction N with
 | zero=>intro m k h1 h2;omega
 | succ N ih =>
  intro m k hk hN hn hb hm hP
  have hmo:=yT hM c d m k false hk
  have hit:=J1 hM hB hX hc d m k hk hn
  simp only [zd] at hb hP ⊢
  generalize zt ex s c d m k false=it at *
  have htl:∀ b,zc s 44 it.k b<=s.size:=fun b=>zq (by decide) hmo.2.1
  have htg:=zi s 44 it.k it.b
  have hitb:it.b=false:=by
   cases hq:it.b with
   | false=>rfl
   | true =>
    rw [hq] at hb
    have hdt:=yd (s:=s) (k:=it.k) (b:=true) (c:=44) (.inl rfl) (by decide) (by decide)
    rw [hdt.1] at hb
    simp at hb
  rw [hitb] at hb htg hP ⊢
  cases ht:zU s 44 it.k false with
  | false =>
   rw [ht] at hb hP
   simp only [Bool.false_eq_true,if_false] at hb hP ⊢
   obtain ⟨a,a1,a2,a3,a4,a5⟩:=hit hitb hm hP
   refine ⟨[a],rfl,by simp,fun x hx=>by simp at hx;subst hx;exact ⟨a2,a3⟩,fun i x z hx hz=>?_,?_⟩
   ·have hi0:i=0:=by have:=(List.getElem?_eq_some_iff.1 hx).1;simpa using this
    subst hi0
    simp at hx hz
    subst hx hz
    exact ⟨a1,a4⟩
   ·rw [zx s hmo.1 htg,YD ht,List.append_nil,a5]
    rfl
  | true =>
   rw [ht] at hb hP
   simp only [if_true] at hb hP ⊢
   obtain ⟨a,a1,a2,a3,a4,a5⟩:=hit hitb hm hP.left
   have hty:=ZZ (s:=s) (k:=it.k) (c:=44) (by decide) (by decide) ht
   have hsk:=T.sk_ge s it.k
   obtain ⟨L,q1,q2,q3,q4,q5⟩:=ih (m+it.es.length) (zc s 44 it.k false) (htl _) (by omega) (by omega) hb (by omega) hP.right
   have hq:=zL hM c d N (m+it.es.length) (zc s 44 it.k false) false (htl _)
   generalize zd ex s c d N (m+it.es.length) (zc s 44 it.k false) false=q at *
   refine ⟨a::L,by simp [q1],by simp,fun x hx=>?_,fun i x z hx hz=>?_,?_⟩
   ·rcases List.mem_cons.1 hx with rfl | hx
    ·exact ⟨a2,by simp only [List.length_append];omega⟩
    ·have:=q3 x hx
     exact ⟨this.1,by simp only [List.length_append];omega⟩
   ·cases i with
    | zero =>
     simp at hx hz
     subst hx hz
     exact ⟨a1,a4⟩
    | succ i=>exact q4 i x z (by simpa using hx) (by simpa using hz)
   ·rw [List.map_cons,Z4 44 _ (by simpa using q2),<- q5,zx s hmo.1 (c:=q.k) (by omega),zx s htg hq.1,hty.2,a5,List.append_assoc]
end
end
theorem zbt {s:ByteArray} {rs:List RL} {Y:List (Int×List Int)} {E:List EX} {lim:Nat} (hR:RX rs Y E lim) (hnn:∀ e∈E,e.kind=61->e.inner≠-1):∀ n,EGX s Y E lim (cE s rs n) n:=by
 intro n
 induction n with
 | zero=>intro d m k b _ h;omega
 | succ n ih =>
  intro d m k b hk hn hb hm hP
  have hM:=yB s rs n
  have hB:=Yy s rs n
  have hbf:b=false:=by
   cases hq:b with
   | false=>rfl
   | true=>rw [hq,Yy s rs (n+1) d m k] at hb;cases hb
  subst hbf
  have hge:=T.sk_ge s k
  have hle:=T.sk_le hk
  have hss:=Yq s k
  have hsf:=zk s k
  cases hK:isK (ze s (zb s k false) false) with
  | false=>rw [QV n d m k false hK] at hb;cases hb
  | true =>
   have hlt:T.sk s k<s.size:=by have:=(yS hK).2;rw [hsf] at this;exact this
   obtain ⟨c,hc⟩:∃ c,T.ch s (T.sk s k)=c:=⟨_,rfl⟩
   have hcc:ze s (zb s k false) false=c:=by rw [hsf,yM,if_pos hlt];exact hc
   rw [hcc] at hK
   have h8:c=123\/c=116\/c=64\/c=61\/(c=119\/c=102\/c=109\/c=103):=by
    simp [isK] at hK
    omega
   have hbc:T.bl c=false:=by unfold T.bl;simp;omega
   have hk1:bt s k (T.sk s k+1)=[c]:=by rw [yu (by omega),X3 hc hbc]
   rcases h8 with rfl | rfl | rfl | rfl | h8
   ·rw [Ym n d m k false hcc,hsf] at hb hP ⊢
    have hmo:=zL hM 123 d (s.size+1-(T.sk s k+1)) m (T.sk s k+1) false (by omega)
    have hi:=XU hM (c:=123) (.inl rfl) d (s.size+1-(T.sk s k+1)) m (T.sk s k+1) (by omega) (by omega)
    generalize zd (cE s rs n) s 123 d (s.size+1-(T.sk s k+1)) m (T.sk s k+1) false=l at *
    simp only at hb hP ⊢
    have hw:=zJ (by decide) (by decide) hb
    obtain ⟨i1,L,i3,i4,i5,i6⟩:=hi hw.1
    have hE:=hP.last
    have htg:=zi s 125 l.k l.b
    refine ⟨by simp,by simp,?_⟩
    rw [zx s (b:=T.sk s k+1) (by omega) (by omega),zx s (a:=T.sk s k+1) hmo.1 htg,hk1,i6,hw.2.2,List.length_append,List.length_singleton,show m+(l.es.length+1)-1=m+l.es.length from by omega,<- List.append_assoc]
    exact TX.servers hE rfl i4 i3 i5
   ·rw [Qd n d m k false hcc rfl rfl rfl,hsf] at hb hP ⊢
    have hb0:=zi s 40 (T.sk s k+1) false
    have hb1:zc s 40 (T.sk s k+1) false<=s.size:=zq (by decide) (by omega)
    have hw1:=zJ (s:=s) (c:=40) (k:=T.sk s k+1) (b:=false) (by decide) (by decide)
    generalize zc s 40 (T.sk s k+1) false=k1 at *
    generalize zj s 40 (T.sk s k+1) false=b1 at *
    have hb2:=zV (b:=b1) hb1
    have hb3:=zZ (b:=b1) hb1
    have hnu:=xx (b:=b1) hb1
    generalize hnv:zI s k1 b1=nv at *
    generalize zm s k1 b1=kn at *
    generalize zu s k1 b1=bn at *
    have hb4:=zi s 44 kn bn
    have hb5:zc s 44 kn bn<=s.size:=zq (by decide) hb3
    have hw2:=zJ (s:=s) (c:=44) (k:=kn) (b:=bn) (by decide) (by decide)
    generalize zc s 44 kn bn=k2 at *
    generalize zj s 44 kn bn=b2 at *
    have hmo:=hM (d+1) m k2 b2 hb5
    have hbd:b2=true->(cE s rs n (d+1) m k2 b2).b=true:=fun h=>by rw [h];exact hB _ _ _
    have hI:=ih (d+1) m k2 b2 hb5 (by omega)
    generalize cE s rs n (d+1) m k2 b2=r at *
    simp only at hb hP ⊢
    have hw:=zJ (by decide) (by decide) hb
    have hb2f:b2=false:=by cases hq:b2 with
     | false=>rfl
     | true=>rw [hbd hq] at hw;cases hw.1
    obtain ⟨x1,x2,x3⟩:=hI hw.1 hm hP.left
    have g2:=hw2 hb2f
    have gn:=hnu g2.1
    have g1:=hw1 gn.1
    have hE:=hP.last
    have htg:=zi s 41 r.k r.b
    refine ⟨by simp,by simp,?_⟩
    rw [zx s (b:=T.sk s k+1) (by omega) (by omega),zx s (a:=T.sk s k+1) (b:=k1) hb0 (by omega),zx s (a:=k1) (b:=kn) hb2 (by omega),zx s (a:=kn) (b:=k2) hb4 (by omega),zx s (a:=k2) hmo.1 htg,hk1,g1.2.2,g2.2.2,hw.2.2]
    rw [List.length_append,List.length_singleton,show m+(r.es.length+1)-1=m+r.es.length from by omega]
    have:=TX.ttl (Y:=Y) hE rfl gn.2.2 x2 (by omega) x3
    simpa [joi] using this
   ·rw [xM n d m k false hcc,hsf] at hb hP ⊢
    simp only at hb hP ⊢
    have gn:=xx (by omega) hb
    have hE:=hP.last (a:=[])
    rw [List.length_nil,Nat.add_zero] at hE
    refine ⟨by simp,by simp,?_⟩
    rw [zx s (b:=T.sk s k+1) (by omega) (zV (by omega)),hk1,List.length_singleton,Nat.add_sub_cancel]
    exact TX.alias hE rfl gn.2.2
   ·rw [Xr n d m k false hcc,hsf] at hb hP ⊢
    simp only at hb hP ⊢
    have gl:=xB hb
    have hE:=hP.last (a:=[])
    rw [List.length_nil,Nat.add_zero] at hE
    have hin:=hnn _ (List.mem_of_getElem? hE) rfl
    simp only at hin
    refine ⟨by simp,by simp,?_⟩
    rw [zx s (b:=T.sk s k+1) (by omega) (ZS s _ _),hk1,gl.2.2.2.2,List.length_singleton,Nat.add_sub_cancel]
    rw [gl.2.2.2.1] at hE hin
    obtain ⟨t,i,n1,n2,n3,n4⟩:=zcx hR hin
    exact TX.name hE rfl rfl gl.2.2.1 n1 n2 (by omega) n4
   ·rw [Xs n d m k false hcc h8 rfl rfl rfl rfl,hsf] at hb hP ⊢
    have hb0:=zi s 40 (T.sk s k+1) false
    have hb1:zc s 40 (T.sk s k+1) false<=s.size:=zq (by decide) (by omega)
    have hw1:=zJ (s:=s) (c:=40) (k:=T.sk s k+1) (b:=false) (by decide) (by decide)
    generalize zc s 40 (T.sk s k+1) false=k1 at *
    generalize zj s 40 (T.sk s k+1) false=b1 at *
    have hli:=zL hM c d (s.size+1-k1) m k1 b1 hb1
    have hbi:b1=true->(zd (cE s rs n) s c d (s.size+1-k1) m k1 b1).b=true:=fun h=>X0 hB c d _ m k1 h
    have hIP:b1=false->(c=123\/c=102\/c=119)->(zd (cE s rs n) s c d (s.size+1-k1) m k1 b1).b=false->(zd (cE s rs n) s c d (s.size+1-k1) m k1 b1).es=[]/\∃ L:List (List Int),L.length=(zd (cE s rs n) s c d (s.size+1-k1) m k1 b1).ims.length/\L≠[]/\(∀ (i:Nat) (x:List Int) (it:IM),L[i]?=some x->(zd (cE s rs n) s c d (s.size+1-k1) m k1 b1).ims[i]?=some it->TIt c x it)/\bt s k1 (zd (cE s rs n) s c d (s.size+1-k1) m k1 b1).k=joi 44 L:=fun h hc2 hb=>by subst h;exact XU hM hc2 d (s.size+1-k1) m k1 hb1 (by omega) hb
    have hIA:b1=false->(c=103\/c=109)->(zd (cE s rs n) s c d (s.size+1-k1) m k1 b1).b=false->Pos E m (zd (cE s rs n) s c d (s.size+1-k1) m k1 b1).es->∃ L:List AR,L.length=(zd (cE s rs n) s c d (s.size+1-k1) m k1 b1).ims.length/\L≠[]/\(∀ a∈L,TX E Y a.txt a.num/\a.num<m+(zd (cE s rs n) s c d (s.size+1-k1) m k1 b1).es.length)/\(∀ (i:Nat) (a:AR) (it:IM),L[i]?=some a->(zd (cE s rs n) s c d (s.size+1-k1) m k1 b1).ims[i]?=some it->Q2 c a.key it/\it.arm=(a.num:Int))/\bt s k1 (zd (cE s rs n) s c d (s.size+1-k1) m k1 b1).k=joi 44 (L.map AR.t):=fun h hc2 hb hp=>by subst h;exact jw hM hB ih hc2 d (s.size+1-k1) m k1 hb1 (by omega) (by omega) hb hm hp
    generalize zd (cE s rs n) s c d (s.size+1-k1) m k1 b1=l at *
    have hb4:=zi s 124 l.k l.b
    have hb5:zc s 124 l.k l.b<=s.size:=zq (by decide) hli.2.1
    have hw2:=zJ (s:=s) (c:=124) (k:=l.k) (b:=l.b) (by decide) (by decide)
    generalize zc s 124 l.k l.b=k2 at *
    generalize zj s 124 l.k l.b=b2 at *
    have hmo:=hM (d+1) (m+l.es.length) k2 b2 hb5
    have hbd:b2=true->(cE s rs n (d+1) (m+l.es.length) k2 b2).b=true:=fun h=>by rw [h];exact hB _ _ _
    have hI:=ih (d+1) (m+l.es.length) k2 b2 hb5 (by omega)
    generalize cE s rs n (d+1) (m+l.es.length) k2 b2=r at *
    simp only at hb hP ⊢
    have hw:=zJ (by decide) (by decide) hb
    have hb2f:b2=false:=by cases hq:b2 with
     | false=>rfl
     | true=>rw [hbd hq] at hw;cases hw.1
    have g2:=hw2 hb2f
    have hb1f:b1=false:=by cases hq:b1 with
     | false=>rfl
     | true=>rw [hbi hq] at g2;cases g2.1
    have g1:=hw1 hb1f
    obtain ⟨x1,x2,x3⟩:=hI hw.1 (by omega) hP.left.right
    have hE:=hP.last
    have htg:=zi s 41 r.k r.b
    refine ⟨by simp only [List.length_append,List.length_cons,List.length_nil];omega,by simp only [List.length_append,List.length_cons,List.length_nil];omega,?_⟩
    rw [zx s (b:=T.sk s k+1) (by omega) (by omega),zx s (a:=T.sk s k+1) (b:=k1) hb0 (by omega),zx s (a:=k1) (b:=l.k) hli.1 (by omega),zx s (a:=l.k) (b:=k2) hb4 (by omega),zx s (a:=k2) hmo.1 htg,hk1,g1.2.2,g2.2.2,hw.2.2]
    have hLn:m+(l.es++r.es).length=m+l.es.length+r.es.length:=by rw [List.length_append];omega
    rw [hLn] at hE
    have hLm:m+(l.es++r.es++[(⟨c,T.sk s k,d,0,0,l.ims,r.idx⟩:EX)]).length-1=m+l.es.length+r.es.length:=by simp only [List.length_append,List.length_cons,List.length_nil];omega
    rw [hLm]
    by_cases hpl:c=123\/c=102\/c=119
    ·obtain ⟨i1,L,i3,i4,i5,i6⟩:=hIP hb1f hpl g2.1
     rw [i6]
     have:=TX.list (Y:=Y) (c:=c) hE rfl (by omega) i4 i3 i5 x2 (by omega) x3
     simpa [joi] using this
    ·obtain ⟨L,i1,i2,i3,i4,i5⟩:=hIA hb1f (by omega) g2.1 hP.left.left
     rw [i5]
     have hget:∀ i,i<L.length->∃ a∈L,L[i]?=some a/\(L[i]?).getD arD=a:=fun i hi=>⟨L[i],List.getElem_mem _,List.getElem?_eq_getElem hi,by rw [List.getElem?_eq_getElem hi];rfl⟩
     have:=TX.maps (E:=E) (Y:=Y) (c:=c) (m:=L.length) (ks:=fun i=>((L[i]?).getD arD).key) (ar:=fun i=>((L[i]?).getD arD).txt) (an:=fun i=>((L[i]?).getD arD).num) (o:=bt s k2 r.k) hE rfl (by omega) (List.length_pos_iff.2 i2) i1.symm
      (fun i it hit=>by
       have hil:i<L.length:=by have:=(List.getElem?_eq_some_iff.1 hit).1;simp only at this;omega
       obtain ⟨a,ha,e1,e2⟩:=hget i hil
       have h1:=i4 i a it e1 hit
       have h2:=(i3 a ha).2
       simp only [e2]
       exact ⟨h1.1,h1.2,by omega⟩) (fun i hi=>by obtain ⟨a,ha,e1,e2⟩:=hget i hi;simp only [e2];exact (i3 a ha).1) x2 (by omega) x3
     have e2:(List.range L.length).map (fun i=>((L[i]?).getD arD).key++[58]++((L[i]?).getD arD).txt)=L.map AR.t:=qk L AR.t
     rw [e2] at this
     simpa [joi] using this
theorem RX.mono {rs:List RL} {Y:List (Int×List Int)} {E:List EX} {a b:Nat} (h:RX rs Y E a) (hab:a<=b):RX rs Y E b:=⟨h.len,fun i r y hr hy=>by
 obtain ⟨h1,j,h2,h3,h4⟩:=h.at_ i r y hr hy
 exact ⟨h1,j,h2,by omega,h4⟩⟩
theorem RX.snoc {rs:List RL} {Y:List (Int×List Int)} {E:List EX} {a b:Nat} (h:RX rs Y E a) (hab:a<=b) {r:RL} {x:List Int} {j:Nat} (hj:r.ex=(j:Int)) (hjb:j<b) (hx:TX E Y x j):RX (rs++[r]) (Y++[(r.nv,x)]) E b:=⟨by simp [h.len],fun i r' y hr hy=>by
 by_cases hi:i<rs.length
 ·rw [List.getElem?_append_left hi] at hr
  rw [List.getElem?_append_left (by have:=h.len;omega)] at hy
  obtain ⟨h1,j,h2,h3,h4⟩:=h.at_ i r' y hr hy
  exact ⟨h1,j,h2,by omega,h4.app _⟩
 ·have hil:=(List.getElem?_eq_some_iff.1 hr).1
  simp at hil
  have hie:i=rs.length:=by omega
  subst hie
  rw [List.getElem?_append_right (Nat.le_refl _),Nat.sub_self] at hr
  rw [<- h.len,List.getElem?_append_right (Nat.le_refl _),Nat.sub_self] at hy
  simp at hr hy
  subst hr hy
  exact ⟨rfl,j,hj,hjb,hx.app _⟩⟩
theorem JK {s:ByteArray} {E:List EX} (hnn:∀ e∈E,e.kind=61->e.inner≠-1):∀ (N:Nat) (rs:List RL) (Y0:List (Int×List Int)) (m k:Nat),k<=s.size->s.size+1<=N+k->(zw s N rs m k false).b=false->Pos E m (zw s N rs m k false).es->RX rs Y0 E m ->
 ∃ Y1:List (Int×List Int),Y1≠[]/\bt s k (zw s N rs m k false).k=joi 59 (Y1.map ruT)/\(∀ y∈Y1,97<=y.1/\y.1<=122)/\RX (zw s N rs m k false).rs (Y0++Y1) E (m+(zw s N rs m k false).es.length)/\1<=(zw s N rs m k false).es.length/\∃ r,(zw s N rs m k false).rs.getLast?=some r/\r.ex=((m+(zw s N rs m k false).es.length-1:Nat):Int):=by
 intro N
 induction N with
 | zero=>intro rs Y0 m k h1 h2;omega
 | succ N ih =>
  intro rs Y0 m k hk hN hb hP hRX
  have hmo:=ZM s rs m k false hk
  have hcr:zB s rs m k false=⟨⟨ze s (zb s k false) false,zb s k false,(cE s rs (s.size+1) 0 m (zc s 58 (zO s k false) (zT s k false)) (zj s 58 (zO s k false) (zT s k false))).idx⟩,(cE s rs (s.size+1) 0 m (zc s 58 (zO s k false) (zT s k false)) (zj s 58 (zO s k false) (zT s k false))).es,(cE s rs (s.size+1) 0 m (zc s 58 (zO s k false) (zT s k false)) (zj s 58 (zO s k false) (zT s k false))).k,(cE s rs (s.size+1) 0 m (zc s 58 (zO s k false) (zT s k false)) (zj s 58 (zO s k false) (zT s k false))).b⟩:=rfl
  simp only [zw] at hb hP ⊢
  have hEG:=zbt (s:=s) hRX hnn (s.size+1)
  have hl0:=ZS s k false
  have hl1:=YJ (b:=false) hk
  have hb0:=zi s 58 (zO s k false) (zT s k false)
  have hb1:zc s 58 (zO s k false) (zT s k false)<=s.size:=zq (by decide) hl1
  have hitg:(zB s rs m k false).b=false->Pos E m (zB s rs m k false).es->1<=(zB s rs m k false).es.length/\(zB s rs m k false).rl.ex=((m+(zB s rs m k false).es.length-1:Nat):Int)/\(97<=(zB s rs m k false).rl.nv/\(zB s rs m k false).rl.nv<=122)/\∃ x,bt s k (zB s rs m k false).k=[(zB s rs m k false).rl.nv,58]++x/\TX E Y0 x (m+(zB s rs m k false).es.length-1):=by
   rw [hcr]
   simp only
   intro hh hp
   have hbw:zj s 58 (zO s k false) (zT s k false)=false:=by
    cases hq:zj s 58 (zO s k false) (zT s k false) with
    | false=>rfl
    | true=>rw [hq,Yy s rs (s.size+1)] at hh;cases hh
   have hw:=zJ (by decide) (by decide) hbw
   have hl:=xB hw.1
   obtain ⟨x1,x2,x3⟩:=hEG 0 m _ _ hb1 (by omega) hh (Nat.le_refl _) hp
   have hmo2:=yB s rs (s.size+1) 0 m (zc s 58 (zO s k false) (zT s k false)) (zj s 58 (zO s k false) (zT s k false)) hb1
   refine ⟨x1,x2,by rw [hl.2.2.2.1];exact hl.2.2.1,_,?_,x3⟩
   rw [zx s hl0 (by omega),zx s hb0 hmo2.1,hl.2.2.2.2,hw.2.2,hl.2.2.2.1]
   rfl
  generalize zB s rs m k false=it at *
  have htl:∀ b,zc s 59 it.k b<=s.size:=fun b=>zq (by decide) hmo.2.1
  have htg:=zi s 59 it.k it.b
  have hitb:it.b=false:=by
   cases hq:it.b with
   | false=>rfl
   | true =>
    rw [hq] at hb
    have hdt:=yd (s:=s) (k:=it.k) (b:=true) (c:=59) (.inl rfl) (by decide) (by decide)
    rw [hdt.1] at hb
    simp at hb
  rw [hitb] at hb htg hP ⊢
  cases ht:zU s 59 it.k false with
  | false =>
   rw [ht] at hb hP
   simp only [Bool.false_eq_true,if_false] at hb hP ⊢
   obtain ⟨y1,y2,y3,x,y4,y5⟩:=hitg hitb hP
   refine ⟨[(it.rl.nv,x)],by simp,?_,fun y hy=>by simp at hy;subst hy;exact y3,hRX.snoc (by omega) y2 (by omega) y5,y1,it.rl,by simp,y2⟩
   rw [zx s hmo.1 htg,YD ht,List.append_nil,y4]
   rfl
  | true =>
   rw [ht] at hb hP
   simp only [if_true] at hb hP ⊢
   obtain ⟨y1,y2,y3,x,y4,y5⟩:=hitg hitb hP.left
   have hty:=ZZ (s:=s) (k:=it.k) (c:=59) (by decide) (by decide) ht
   have hsk:=T.sk_ge s it.k
   obtain ⟨Y,q1,q2,q3,q4,q5,r,q6,q7⟩:=ih (rs++[it.rl]) (Y0++[(it.rl.nv,x)]) (m+it.es.length) (zc s 59 it.k false) (htl _) (by omega) hb hP.right (hRX.snoc (by omega) y2 (by omega) y5)
   have hqm:=Zb s N (rs++[it.rl]) (m+it.es.length) (zc s 59 it.k false) false (htl _)
   generalize zw s N (rs++[it.rl]) (m+it.es.length) (zc s 59 it.k false) false=q at *
   refine ⟨(it.rl.nv,x)::Y,by simp,?_,fun y hy=>?_,?_,by simp only [List.length_append];omega,r,q6,by rw [q7,List.length_append];congr 1;omega⟩
   ·rw [List.map_cons,Z4 59 _ (by simpa using q1),<- q2,zx s hmo.1 (c:=q.k) (by omega),zx s htg (by omega),hty.2,y4]
    simp [ruT]
   ·rcases List.mem_cons.1 hy with rfl | hy
    ·exact y3
    ·exact q3 y hy
   ·rw [List.append_assoc,List.singleton_append] at q4
    rw [List.length_append,<- Nat.add_assoc]
    exact q4
structure Pol (s:ByteArray) (Y:List (Int×List Int)):Prop where
 ne:Y≠[]
 let_:∀ y∈Y,97<=y.1/\y.1<=122
 rx:RX (zA s).rs Y (zA s).es (zA s).es.length
 pos:1<=(zA s).es.length
 last:∃ r,(zA s).rs.getLast?=some r/\r.ex=(((zA s).es.length-1:Nat):Int)
 bl:brL s s.size=joi 59 (Y.map ruT)
 br:Go.Proofs.YtaebngpoagjafabGreat.bare s=strOfNums (joi 59 (Y.map ruT))
 sp:Go.Proofs.YtaebngpoagjafabGreat.spl (Go.Proofs.YtaebngpoagjafabGreat.bare s) 59=(Y.map ruT).map strOfNums
theorem QE {s:ByteArray} (hc0:(Zj s).1=0):s.size<=2000/\(zA s).b=false/\(zA s).k=s.size/\(Y5 (zA s).es (zA s).rs).1=0:=by
 have hs:s.size<=2000:=by
  by_cases hh:2000<s.size
  ·unfold Zj at hc0;rw [if_pos hh] at hc0;cases hc0
  ·omega
 have hg:((zA s).b || decide ((zA s).k<s.size))=false/\(Y5 (zA s).es (zA s).rs).1=0:=by
  unfold Zj at hc0
  rw [if_neg (by omega)] at hc0
  split at hc0
  ·cases hc0
  ·next hh =>
   refine ⟨by simpa using hh,?_⟩
   split at hc0
   ·next h=>exact h
   ·next h=>exact absurd hc0 h
 have hCb:(zA s).b=false:=by cases hq:(zA s).b with
  | false=>rfl
  | true=>rw [hq] at hg;cases hg.1
 have hmo:=Zb s (s.size+1) [] 0 0 false (Nat.zero_le _)
 refine ⟨hs,hCb,?_,hg.2⟩
 have h1:=hg.1
 rw [hCb,Bool.false_or] at h1
 have h2:¬ (zA s).k<s.size:=of_decide_eq_false h1
 have h3:(zA s).k<=s.size:=hmo.2
 omega
theorem zdk {s:ByteArray} (hc0:(Zj s).1=0):∃ Y,Pol s Y:=by
 obtain ⟨hs,hCb,hCk,hF⟩:=QE hc0
 have hnn:∀ e∈(zA s).es,e.kind=61->e.inner≠-1:=fun e he hk hi=>by
  rcases xI (zA s).es (zA s).rs with ⟨_,h2⟩ | ⟨h1,_⟩
  ·exact h2 5 e.na (.inl ⟨e,he,.inl (.inr (.inr (.inr ⟨hk,hi,rfl,rfl⟩)))⟩)
  ·exact absurd hF h1
 obtain ⟨Y,y1,y2,y3,y4,y5,y6⟩:=JK (s:=s) hnn (s.size+1) [] [] 0 0 (Nat.zero_le _) (by omega) hCb (fun i e he=>by rw [Nat.zero_add];exact he) ⟨rfl,fun i r y hr=>by simp at hr⟩
 have hcA:zw s (s.size+1) [] 0 0 false=zA s:=rfl
 rw [hcA] at y2 y4 y5 y6
 rw [hCk] at y2
 simp only [List.nil_append,Nat.zero_add] at y4 y6
 have hbare:Go.Proofs.YtaebngpoagjafabGreat.bare s=strOfNums (joi 59 (Y.map ruT)):=by unfold Go.Proofs.YtaebngpoagjafabGreat.bare;rw [jO,y2]
 have hX:∀ (i:Nat) (y:Int×List Int),Y[i]?=some y->(97<=y.1/\y.1<=122)/\∃ j,TX (zA s).es Y y.2 j:=fun i y hy=>by
  refine ⟨y3 y (List.mem_of_getElem? hy),?_⟩
  have hil:=(List.getElem?_eq_some_iff.1 hy).1
  have hl:=y4.len
  obtain ⟨_,j,_,_,h⟩:=y4.at_ i _ y (List.getElem?_eq_getElem (by omega)) hy
  exact ⟨j,h⟩
 have hYb:∀ x∈Y.map ruT,Byt x:=fun x hx=>by
  simp only [List.mem_map] at hx
  obtain ⟨y,hy,rfl⟩:=hx
  obtain ⟨i,hi⟩:=List.getElem?_of_mem hy
  obtain ⟨h1,j,h2⟩:=hX i y hi
  exact Byt.app (a:=[y.1,58]) (fun z hz=>by simp at hz;rcases hz with rfl | rfl<;>omega) h2.byt
 have hsz:∀ i:Nat,∃ n:Int,∀ y,Y[i]?=some y->SZL .empty [] y.2 n:=fun i=>by
  cases hy:Y[i]? with
  | none=>exact ⟨0,fun y h=>by cases h⟩
  | some y =>
   obtain ⟨_,j,h2⟩:=hX i y hy
   obtain ⟨n,hn⟩:=h2.szl .empty []
   exact ⟨n,fun y' h=>by simp at h;subst h;exact hn⟩
 obtain ⟨ns,hns⟩:=Classical.axiomOfChoice hsz
 refine ⟨Y,y1,y3,y4,y5,y6,by rw [jO,y2],hbare,?_⟩
 rw [hbare,Z1 (Jc hYb),zc7 (nm:=.empty) (K:=fun _=>[]) (n:=ns) Y 0 y1 (fun i y hy=>⟨(hX i y hy).1,by rw [Nat.zero_add];exact hns i y hy⟩)]
end Go.Proofs.YtaebngpoagjafabGreat
