import Derived.Test.YtaebngpoagjafabGreatU33
set_option maxRecDepth 100000
namespace Go.Proofs.YtaebngpoagjafabGreat
open Go.RowKit
theorem Qs {s:ByteArray} {p:Nat}:∀ n,(∀ i,p<=i->i<p+n->T.bl (T.ch s i)=false)->sgL s p n=(List.range n).map (fun i=>T.ch s (p+i)):=by
 intro n
 induction n with
 | zero=>intro _;rfl
 | succ n ih =>
  intro h
  simp only [sgL]
  rw [ih (fun i h1 h2=>h i h1 (by omega)),if_neg (by rw [h (p+n) (by omega) (by omega)];decide),List.range_succ,List.map_append]
  rfl
structure Y7 (x:List Int) (v:Int):Prop where
 dig:∀ c∈x,48<=c/\c<=57
 ne:x≠[]
 le:x.length<=9
 val:T.val (strOfNums x) x.length=v
structure jp (x:List Int) (v l:Int):Prop where
 dig:∀ c∈x,c=48\/c=49
 ne:x≠[]
 le:x.length<=32
 len:l=(x.length:Int)
 val:v=bv (strOfNums x) 0 x.length*2 ^ (32-x.length)
theorem Y7.pln {x:List Int} {v:Int} (h:Y7 x v):Pln x:=fun c hc=>.inl (h.dig c hc)
theorem jp.pln {x:List Int} {v l:Int} (h:jp x v l):Pln x:=fun c hc=>.inl (by have:=h.dig c hc;omega)
theorem Xj {s:ByteArray} {k:Nat} {b:Bool} (hk:k<=s.size) (h:zw s k b=false):b=false/\T.sk s k<zo s k b/\Y7 (bt s k (zo s k b)) (zJ s k b):=by
 have r:=Yq hk h
 obtain ⟨rfl,n,w⟩:=r
 have v:zo s k false=nmF s false (nmL s (T.sk s k) false) (T.sk s k):=by unfold zo nmE;rw [zl]
 have u:zJ s k false=vl s (T.sk s k) (zo s k false-T.sk s k):=by unfold zJ;rw [zl]
 have o:=jP s (nmL s (T.sk s k) false) (T.sk s k)
 have q:=JI s false (nmL s (T.sk s k) false) (T.sk s k)
 have z:nmL s (T.sk s k) false<=9:=by unfold nmL;split<;>omega
 rw [<- v] at o q
 rw [u,yD (by omega)]
 generalize zo s k false=e at *
 generalize T.sk s k=p at *
 have f:∀ i,p<=i->i<p+(e-p)->48<=T.ch s i/\T.ch s i<=57:=fun i h1 h2=>(YM _).1 (o i h1 (by omega))
 have m:bt s p e=(List.range (e-p)).map (fun i=>T.ch s (p+i)):=Qs (e-p) (fun i h1 h2=>by have:=f i h1 h2;unfold T.bl;simp;omega)
 have a:(bt s p e).length=e-p:=by rw [m];simp
 have d:∀ c∈bt s p e,48<=c/\c<=57:=fun c hc=>by
  rw [m] at hc
  simp only [List.mem_map,List.mem_range] at hc
  obtain ⟨i,y,rfl⟩:=hc
  exact f _ (by omega) (by omega)
 have g:Byt (bt s p e):=fun c hc=>by have:=d c hc;omega
 refine ⟨rfl,n,⟨d,fun hn=>by rw [hn] at a;simp at a;omega,by omega,?_⟩⟩
 rw [a]
 have l:∀ j,j<=e-p->T.val (strOfNums (bt s p e)) j=vl s p j:=by
  intro j
  induction j with
  | zero=>intro _;rfl
  | succ j ih =>
   intro x
   simp only [T.val,vl]
   rw [ih (by omega),yx g,m,List.getElem?_map,List.getElem?_range (by omega)]
   rfl
 exact l _ (Nat.le_refl _)
theorem zdr {s:ByteArray} {k:Nat} {b:Bool} (hk:k<=s.size) (h:btX s k b=false):b=false/\T.sk s k<btK s k b/\jp (bt s k (btK s k b)) (btV s k b) (btL s k b):=by
 have r:=QN hk h
 obtain ⟨rfl,n,x⟩:=r
 have w:btK s k false=btF s false 32 (T.sk s k):=by unfold btK;rw [zl]
 have v:btL s k false=btK s k false-T.sk s k:=by unfold btL;rw [zl]
 have u:btV s k false=bv s (T.sk s k) (btL s k false)*2 ^ (32-btL s k false):=by unfold btV;rw [zl]
 have o:=Qc s 32 (T.sk s k)
 have q:=(XP s false 32 (T.sk s k) (T.sk_le hk)).2.2
 rw [<- w] at o q
 rw [u,v,yD (by omega)]
 generalize btK s k false=e at *
 generalize T.sk s k=p at *
 have f:∀ i,p<=i->i<p+(e-p)->T.ch s i=48\/T.ch s i=49:=fun i h1 h2=>by
  have:=o i h1 (by omega)
  simpa [bit] using this
 have m:bt s p e=(List.range (e-p)).map (fun i=>T.ch s (p+i)):=Qs (e-p) (fun i h1 h2=>by have:=f i h1 h2;unfold T.bl;simp;omega)
 have a:(bt s p e).length=e-p:=by rw [m];simp
 have d:∀ c∈bt s p e,c=48\/c=49:=fun c hc=>by
  rw [m] at hc
  simp only [List.mem_map,List.mem_range] at hc
  obtain ⟨i,z,rfl⟩:=hc
  exact f _ (by omega) (by omega)
 have g:Byt (bt s p e):=fun c hc=>by have:=d c hc;omega
 refine ⟨rfl,n,⟨d,fun hn=>by rw [hn] at a;simp at a;omega,by omega,by rw [a],?_⟩⟩
 rw [a]
 have l:∀ j,j<=e-p->bv (strOfNums (bt s p e)) 0 j=bv s p j:=by
  intro j
  induction j with
  | zero=>intro _;rfl
  | succ j ih =>
   intro y
   simp only [bv]
   rw [ih (by omega),yx g,m,List.getElem?_map,List.getElem?_range (by omega),Nat.zero_add]
   rfl
 rw [l _ (Nat.le_refl _)]
def ruX (c:Int):List (Int×List Int)->Option (List Int)
 | []=>none
 | y::l=>if y.1=c then some y.2 else ruX c l
theorem zd5 {c:Int} {t:List Int} (Z:List (Int×List Int)):∀ (Y:List (Int×List Int)),ruX c Y=some t->ruX c (Y++Z)=some t:=by
 intro Y
 induction Y with
 | nil=>intro h;cases h
 | cons y l ih =>
  intro h
  simp only [List.cons_append,ruX] at h ⊢
  split
  ·next hh=>rw [if_pos hh] at h;exact h
  ·next hh=>rw [if_neg hh] at h;exact ih h
def TIt (k:Int) (x:List Int) (i:IM):Prop:=i.arm=-1/\if k=119 then ∃ a b,x=a++[42]++b/\Y7 a i.num/\Y7 b i.wv else Y7 x i.num
def X7 (k:Int) (x:List Int) (i:IM):Prop:=if k=109 then jp x i.pv i.pl else Y7 x i.num
theorem TIt.pln {k:Int} {x:List Int} {i:IM} (h:TIt k x i):Pln x:=by
 have:=h.2
 split at this
 ·obtain ⟨a,b,rfl,e,d⟩:=this
  exact (e.pln.app (fun z hz=>by simp at hz;exact .inr hz)).app d.pln
 ·exact this.pln
theorem X7.pln {k:Int} {x:List Int} {i:IM} (h:X7 k x i):Pln x:=by
 unfold X7 at h
 split at h
 ·exact h.pln
 ·exact h.pln
inductive TX (E:List EX) (Y:List (Int×List Int)):List Int->Nat->Prop where
 | servers {j:Nat} {e:EX} {l:List (List Int)}:E[j]?=some e->e.kind=123->l≠[]->l.length=e.items.length->(∀ (i:Nat) (x:List Int) (it:IM),l[i]?=some x->e.items[i]?=some it->TIt 123 x it)->TX E Y ([123]++joi 44 l++[125]) j
 | alias {j:Nat} {e:EX} {x:List Int}:E[j]?=some e->e.kind=64->Y7 x e.nv->TX E Y (64::x) j
 | name {j i:Nat} {e:EX} {c:Int} {t:List Int}:E[j]?=some e->e.kind=61->e.nv=c->(97<=c/\c<=122)->ruX c Y=some t->e.inner=(i:Int)->i<j->TX E Y t i->TX E Y [61,c] j
 | ttl {j i:Nat} {e:EX} {x o:List Int}:E[j]?=some e->e.kind=116->Y7 x e.nv->e.inner=(i:Int)->i<j->TX E Y o i->TX E Y ([116]++([40]++joi 44 [x,o]++[41])) j
 | list {j i:Nat} {e:EX} {c:Int} {l:List (List Int)} {o:List Int}:E[j]?=some e->e.kind=c->(c=119\/c=102)->l≠[]->l.length=e.items.length->(∀ (i:Nat) (x:List Int) (it:IM),l[i]?=some x->e.items[i]?=some it->TIt c x it)->e.inner=(i:Int)->i<j->TX E Y o i->TX E Y ([c]++([40]++joi 124 [joi 44 l,o]++[41])) j
 | maps {j i:Nat} {e:EX} {c:Int} {m:Nat} {ks ar:Nat->List Int} {an:Nat->Nat} {o:List Int}:E[j]?=some e->e.kind=c->(c=109\/c=103)->0<m->e.items.length=m->(∀ (i:Nat) (it:IM),e.items[i]?=some it->X7 c (ks i) it/\it.arm=(an i:Int)/\an i<j)->(∀ i,i<m->TX E Y (ar i) (an i))->e.inner=(i:Int)->i<j->TX E Y o i->TX E Y ([c]++([40]++joi 124 [joi 44 ((List.range m).map (fun i=>ks i++[58]++ar i)),o]++[41])) j
theorem TX.app {E:List EX} {Y:List (Int×List Int)} (Z:List (Int×List Int)) {t:List Int} {j:Nat} (h:TX E Y t j):TX E (Y++Z) t j:=by
 induction h with
 | servers h1 h2 h3 h4 h5=>exact TX.servers h1 h2 h3 h4 h5
 | alias h1 h2 h3=>exact TX.alias h1 h2 h3
 | name h1 h2 h3 h4 h5 h6 h7 _ ih=>exact TX.name h1 h2 h3 h4 (zd5 Z _ h5) h6 h7 ih
 | ttl h1 h2 h3 h4 h5 _ ih=>exact TX.ttl h1 h2 h3 h4 h5 ih
 | list h1 h2 h3 h4 h5 h6 h7 h8 _ ih=>exact TX.list h1 h2 h3 h4 h5 h6 h7 h8 ih
 | maps h1 h2 h3 h4 h5 h6 _ h8 h9 _ iha iho=>exact TX.maps h1 h2 h3 h4 h5 h6 iha h8 h9 iho
theorem X9 {k:Int} {l:List (List Int)} {its:List IM} (hl:l.length=its.length) (h:∀ (i:Nat) (x:List Int) (it:IM),l[i]?=some x->its[i]?=some it->TIt k x it):∀ x∈l,Pln x:=fun x hx=>by
 obtain ⟨i,a⟩:=List.getElem?_of_mem hx
 have b:=(List.getElem?_eq_some_iff.1 a).1
 exact (h i x its[i] a (List.getElem?_eq_getElem (by omega))).pln
theorem TX.szl {E:List EX} {Y:List (Int×List Int)} (nm:ByteArray) (K:List Int) {t:List Int} {j:Nat} (h:TX E Y t j):∃ n,SZL nm K t n:=by
 induction h with
 | servers h1 h2 h3 h4 h5=>exact ⟨_,SZL.servers h3 (X9 h4 h5)⟩
 | alias h1 h2 h3=>exact ⟨_,SZL.alias h3.pln⟩
 | name h1 h2 h3 h4 h5 h6 h7 _ a=>exact ⟨_,SZL.name h4⟩
 | ttl h1 h2 h3 h4 h5 _ a=>obtain ⟨n,a⟩:=a;exact ⟨_,SZL.ttl h3.pln a⟩
 | list h1 h2 h3 h4 h5 h6 h7 h8 _ a=>obtain ⟨n,a⟩:=a;exact ⟨_,SZL.list h3 h4 (X9 h5 h6) a⟩
 | @maps j i e c m ks ar an o h1 h2 h3 h4 h5 h6 _ h8 h9 _ iha b =>
  obtain ⟨n,b⟩:=b
  have k:∀ i,∃ n,(i<m->SZL nm K (ar i) n)/\(m<=i->n=0):=fun i=>by
   by_cases d:i<m
   ·obtain ⟨n,g⟩:=iha i d;exact ⟨n,fun _=>g,fun h=>by omega⟩
   ·exact ⟨0,fun h=>absurd h d,fun _=>rfl⟩
  obtain ⟨ns,f⟩:=Classical.axiomOfChoice k
  exact ⟨_,SZL.maps (ks:=ks) (ar:=ar) (ns:=ns) h3 h4 (fun i d=>(h6 i e.items[i] (List.getElem?_eq_getElem (by omega))).1.pln) (fun i d=>(f i).1 d) (fun i d=>(f i).2 d) b⟩
theorem TX.nsp {E:List EX} {Y:List (Int×List Int)} {t:List Int} {j:Nat} (h:TX E Y t j):Nsp 0 t:=by
 obtain ⟨n,h⟩:=h.szl .empty []
 exact h.nsp
theorem TX.byt {E:List EX} {Y:List (Int×List Int)} {t:List Int} {j:Nat} (h:TX E Y t j):Byt t:=by
 obtain ⟨n,h⟩:=h.szl .empty []
 exact h.byt
section
structure RX (rs:List RL) (Y:List (Int×List Int)) (E:List EX) (lim:Nat):Prop where
 len:Y.length=rs.length
 at_:∀ (i:Nat) (r:RL) (y:Int×List Int),rs[i]?=some r->Y[i]?=some y->y.1=r.nv/\∃ j:Nat,r.ex=(j:Int)/\j<lim/\TX E Y y.2 j
theorem zel {rs:List RL} {Y:List (Int×List Int)} {E:List EX} {lim:Nat} (h:RX rs Y E lim) {v:Int} (hv:yn v rs≠-1):∃ (t:List Int) (i:Nat),ruX v Y=some t/\yn v rs=(i:Int)/\i<lim/\TX E Y t i:=by
 have b:∀ (rs:List RL) (Z:List (Int×List Int)),Z.length=rs.length->(∀ (i:Nat) (r:RL) (y:Int×List Int),rs[i]?=some r->Z[i]?=some y->y.1=r.nv/\∃ j:Nat,r.ex=(j:Int)/\j<lim/\TX E Y y.2 j)->yn v rs≠-1->∃ (t:List Int) (i:Nat),ruX v Z=some t/\yn v rs=(i:Int)/\i<lim/\TX E Y t i:=by
  intro rs
  induction rs with
  | nil=>intro Z _ _ h;exact absurd rfl h
  | cons r l ih =>
   intro Z d e hv
   cases Z with
   | nil=>simp at d
   | cons y Z =>
    obtain ⟨m,j,k,g,f⟩:=e 0 r y rfl rfl
    simp only [yn,ruX] at hv ⊢
    rw [m]
    by_cases a:r.nv=v
    ·rw [if_pos a,if_pos a];exact ⟨_,j,rfl,k,g,f⟩
    ·rw [if_neg a] at hv
     rw [if_neg a,if_neg a]
     exact ih Z (by simpa using d) (fun i r' y' hr hy=>e (i+1) r' y' hr hy) hv
 exact b rs Y h.len h.at_ hv
theorem zbn {s:ByteArray} {ex:Int->Nat->Nat->Bool->CR} {c:Int} (hc:c=123\/c=102\/c=119) (d:Int) (m k:Nat) (hk:k<=s.size) (h:(zv ex s c d m k false).b=false) :
 (zv ex s c d m k false).es=[]/\TIt c (bt s k (zv ex s c d m k false).k) (zv ex s c d m k false).im:=by
 have g:=T.sk_le hk
 have q:=T.sk_ge s k
 have f:zw s (T.sk s k) false=false->Y7 (bt s k (zo s (T.sk s k) false)) (zJ s (T.sk s k) false):=fun hh=>by
  have v:=Xj g hh
  have:=YU s k
  rw [yD (by omega)]
  exact v.2.2
 rcases hc with rfl | rfl | rfl
 ·unfold zv at h ⊢
  simp only [zl] at h ⊢
  exact ⟨rfl,rfl,f h⟩
 ·unfold zv at h ⊢
  simp only [zl] at h ⊢
  exact ⟨rfl,rfl,f h⟩
 ·have e:zv ex s 119 d m k false=⟨⟨T.sk s k,zJ s (T.sk s k) false,0,0,zJ s (zc s 42 (zo s (T.sk s k) false) (zw s (T.sk s k) false)) (zj s 42 (zo s (T.sk s k) false) (zw s (T.sk s k) false)),zb s (zc s 42 (zo s (T.sk s k) false) (zw s (T.sk s k) false)) (zj s 42 (zo s (T.sk s k) false) (zw s (T.sk s k) false)),-1⟩,[],zo s (zc s 42 (zo s (T.sk s k) false) (zw s (T.sk s k) false)) (zj s 42 (zo s (T.sk s k) false) (zw s (T.sk s k) false)),zw s (zc s 42 (zo s (T.sk s k) false) (zw s (T.sk s k) false)) (zj s 42 (zo s (T.sk s k) false) (zw s (T.sk s k) false))⟩:=by unfold zv;rw [zl];rfl
  rw [e] at h ⊢
  simp only at h ⊢
  have j:=ya (b:=false) g
  have i:zc s 42 (zo s (T.sk s k) false) (zw s (T.sk s k) false)<=s.size:=zs (by decide) j
  have p:=Xj i h
  have o:=zK (by decide) (by decide) p.1
  have u:=f o.1
  have r:=z5 (b:=false) g
  have n:=zi s 42 (zo s (T.sk s k) false) (zw s (T.sk s k) false)
  have l:=z5 (b:=zj s 42 (zo s (T.sk s k) false) (zw s (T.sk s k) false)) i
  refine ⟨trivial,rfl,?_⟩
  rw [if_pos rfl]
  refine ⟨_,_,?_,u,p.2.2⟩
  rw [zy s (b:=zo s (T.sk s k) false) (by omega) (by omega),zy s (a:=zo s (T.sk s k) false) n l,o.2.2,List.append_assoc]
theorem qT {s:ByteArray} {ex:Int->Nat->Nat->Bool->CR} (hM:ZK ex s) {c:Int} (hc:c=123\/c=102\/c=119) (d:Int):∀ (N m k:Nat),k<=s.size->s.size+1<=N+k->(zd ex s c d N m k false).b=false ->
 (zd ex s c d N m k false).es=[]/\∃ L:List (List Int),L.length=(zd ex s c d N m k false).ims.length/\L≠[]/\(∀ (i:Nat) (x:List Int) (it:IM),L[i]?=some x->(zd ex s c d N m k false).ims[i]?=some it->TIt c x it)/\bt s k (zd ex s c d N m k false).k=joi 44 L:=by
 intro N
 induction N with
 | zero=>intro m k F E;omega
 | succ N ih =>
  intro m k u D a
  have g:=Zk hM c d m k false u
  have n:=zbn (ex:=ex) hc d m k u
  simp only [zd] at a ⊢
  generalize zv ex s c d m k false=it at *
  have h:∀ b,zc s 44 it.k b<=s.size:=fun b=>zs (by decide) g.2.1
  have f:=zi s 44 it.k it.b
  have e:it.b=false:=by
   cases l:it.b with
   | false=>rfl
   | true =>
    rw [l] at a
    have p:=yl (s:=s) (k:=it.k) (b:=true) (c:=44) (.inl rfl) (by decide) (by decide)
    rw [p.1] at a
    simp at a
  obtain ⟨r,q⟩:=n e
  rw [e] at a f ⊢
  cases ht:zZ s 44 it.k false with
  | false =>
   rw [ht] at a
   simp only [Bool.false_eq_true,if_false] at a ⊢
   refine ⟨r,[bt s k it.k],rfl,by simp,fun i x z hx hz=>?_,?_⟩
   ·have o:i=0:=by have:=(List.getElem?_eq_some_iff.1 hx).1;simpa using this
    subst o
    simp at hx hz
    subst hx hz
    exact q
   ·rw [zy s g.1 f,xf ht,List.append_nil]
    rfl
  | true =>
   rw [ht] at a
   simp only [if_true] at a ⊢
   have j:=Ym (s:=s) (k:=it.k) (c:=44) (by decide) (by decide) ht
   have C:=T.sk_ge s it.k
   obtain ⟨B,L,A,y,w,v⟩:=ih (m+it.es.length) (zc s 44 it.k false) (h _) (by omega) a
   have l:=zN hM c d N (m+it.es.length) (zc s 44 it.k false) false (h _)
   refine ⟨by rw [B,r];rfl,bt s k it.k::L,by simp [A],by simp,fun i x z hx hz=>?_,?_⟩
   ·cases i with
    | zero =>
     simp at hx hz
     subst hx hz
     exact q
    | succ i=>exact w i x z (by simpa using hx) (by simpa using hz)
   ·rw [Ys 44 _ y,<- v,zy s g.1 (c:=(zd ex s c d N (m+it.es.length) (zc s 44 it.k false) false).k) (by omega),zy s f l.1,j.2,List.append_assoc]
section
variable {s:ByteArray} {Y:List (Int×List Int)} {E:List EX} {lim:Nat}
def EGX (s:ByteArray) (Y:List (Int×List Int)) (E:List EX) (lim:Nat) (ex:Int->Nat->Nat->Bool->CR) (n:Nat):Prop:=∀ d m k b,k<=s.size->s.size-k<n->(ex d m k b).b=false->lim<=m->Pos E m (ex d m k b).es ->
 1<=(ex d m k b).es.length/\(ex d m k b).idx=((m+(ex d m k b).es.length-1:Nat):Int)/\TX E Y (bt s k (ex d m k b).k) (m+(ex d m k b).es.length-1)
theorem zbr {ex:Int->Nat->Nat->Bool->CR} {n:Nat} (hM:ZK ex s) (hB:X3 ex) (hX:EGX s Y E lim ex n) {c:Int} (hc:c=103\/c=109) (d:Int) (m k:Nat) (hk:k<=s.size) (hn:s.size-k<n) (h:(zv ex s c d m k false).b=false) (hm:lim<=m) (hP:Pos E m (zv ex s c d m k false).es) :
 ∃ a:AR,X7 c a.key (zv ex s c d m k false).im/\TX E Y a.txt a.num/\a.num<m+(zv ex s c d m k false).es.length/\(zv ex s c d m k false).im.arm=(a.num:Int)/\bt s k (zv ex s c d m k false).k=a.t:=by
 have e:=T.sk_le hk
 have A:=T.sk_ge s k
 have l:∀ (Q:List Int->Prop) (i f:Nat) (o g:Bool),T.sk s k<=i->i<=s.size->zc s 58 i o=f->zj s 58 i o=g->(o=false->Q (bt s k i))->(ex (d+1) m f g).b=false->Pos E m (ex (d+1) m f g).es->(g=true->(ex (d+1) m f g).b=true) ->
  ∃ a:AR,Q a.key/\TX E Y a.txt a.num/\a.num<m+(ex (d+1) m f g).es.length/\(ex (d+1) m f g).idx=(a.num:Int)/\bt s k (ex (d+1) m f g).k=a.t:=by
  intro Q i f o g p G w F D v C B
  have u:g=false:=by cases hq:g with
   | false=>rfl
   | true=>rw [B hq] at v;cases v
  subst u
  have q:=zK (by decide) (by decide) F
  have j:f<=s.size:=by rw [<- w];exact zs (by decide) G
  have I:=zi s 58 i o
  obtain ⟨H,z,y⟩:=hX (d+1) m f false j (by omega) v hm C
  have r:=hM (d+1) m f false j
  refine ⟨⟨bt s k i,bt s f (ex (d+1) m f false).k,m+(ex (d+1) m f false).es.length-1⟩,D q.1,y,by simp only;omega,z,?_⟩
  unfold AR.t
  simp only
  rw [zy s (b:=i) (by omega) (by omega),zy s (a:=i) (b:=f) (by omega) r.1]
  rw [w] at q
  rw [q.2.2,List.append_assoc]
 rcases hc with rfl | rfl
 ·unfold zv at h hP ⊢
  simp only [zl] at h hP ⊢
  exact l (fun x=>Y7 x (zJ s (T.sk s k) false)) (zo s (T.sk s k) false) _ (zw s (T.sk s k) false) _ (z5 e) (ya e) rfl rfl (fun hh=>by
   have p:=Xj e hh
   rw [yD (z5 e)]
   exact p.2.2) h hP (fun hh=>by rw [hh];exact hB _ _ _)
 ·unfold zv at h hP ⊢
  simp only [zl] at h hP ⊢
  exact l (fun x=>jp x (btV s (T.sk s k) false) (btL s (T.sk s k) false)) (btK s (T.sk s k) false) _ (btX s (T.sk s k) false) _ (xT e) (xS e) rfl rfl (fun hh=>by
   have p:=zdr e hh
   rw [yD (xT e)]
   exact p.2.2) h hP (fun hh=>by rw [hh];exact hB _ _ _)
theorem JN {ex:Int->Nat->Nat->Bool->CR} {n:Nat} (hM:ZK ex s) (hB:X3 ex) (hX:EGX s Y E lim ex n) {c:Int} (hc:c=103\/c=109) (d:Int):∀ (N m k:Nat),k<=s.size->s.size+1<=N+k->s.size-k<n->(zd ex s c d N m k false).b=false->lim<=m->Pos E m (zd ex s c d N m k false).es ->
 ∃ L:List AR,L.length=(zd ex s c d N m k false).ims.length/\L≠[]/\(∀ a∈L,TX E Y a.txt a.num/\a.num<m+(zd ex s c d N m k false).es.length)/\(∀ (i:Nat) (a:AR) (it:IM),L[i]?=some a->(zd ex s c d N m k false).ims[i]?=some it->X7 c a.key it/\it.arm=(a.num:Int))/\bt s k (zd ex s c d N m k false).k=joi 44 (L.map AR.t):=by
 intro N
 induction N with
 | zero=>intro m k S R;omega
 | succ N ih =>
  intro m k D Q P f C g
  have j:=Zk hM c d m k false D
  have o:=zbr hM hB hX hc d m k D P
  simp only [zd] at f g ⊢
  generalize zv ex s c d m k false=it at *
  have l:∀ b,zc s 44 it.k b<=s.size:=fun b=>zs (by decide) j.2.1
  have h:=zi s 44 it.k it.b
  have e:it.b=false:=by
   cases r:it.b with
   | false=>rfl
   | true =>
    rw [r] at f
    have v:=yl (s:=s) (k:=it.k) (b:=true) (c:=44) (.inl rfl) (by decide) (by decide)
    rw [v.1] at f
    simp at f
  rw [e] at f h g ⊢
  cases ht:zZ s 44 it.k false with
  | false =>
   rw [ht] at f g
   simp only [Bool.false_eq_true,if_false] at f g ⊢
   obtain ⟨a,B,A,F,y,w⟩:=o e C g
   refine ⟨[a],rfl,by simp,fun x hx=>by simp at hx;subst hx;exact ⟨A,F⟩,fun i x z hx hz=>?_,?_⟩
   ·have u:i=0:=by have:=(List.getElem?_eq_some_iff.1 hx).1;simpa using this
    subst u
    simp at hx hz
    subst hx hz
    exact ⟨B,y⟩
   ·rw [zy s j.1 h,xf ht,List.append_nil,w]
    rfl
  | true =>
   rw [ht] at f g
   simp only [if_true] at f g ⊢
   obtain ⟨a,B,A,F,y,w⟩:=o e C g.left
   have p:=Ym (s:=s) (k:=it.k) (c:=44) (by decide) (by decide) ht
   have O:=T.sk_ge s it.k
   obtain ⟨L,K,J,I,H,G⟩:=ih (m+it.es.length) (zc s 44 it.k false) (l _) (by omega) (by omega) f (by omega) g.right
   have r:=zN hM c d N (m+it.es.length) (zc s 44 it.k false) false (l _)
   generalize zd ex s c d N (m+it.es.length) (zc s 44 it.k false) false=q at *
   refine ⟨a::L,by simp [K],by simp,fun x hx=>?_,fun i x z hx hz=>?_,?_⟩
   ·rcases List.mem_cons.1 hx with rfl | hx
    ·exact ⟨A,by simp only [List.length_append];omega⟩
    ·have:=I x hx
     exact ⟨this.1,by simp only [List.length_append];omega⟩
   ·cases i with
    | zero =>
     simp at hx hz
     subst hx hz
     exact ⟨B,y⟩
    | succ i=>exact H i x z (by simpa using hx) (by simpa using hz)
   ·rw [List.map_cons,Ys 44 _ (by simpa using J),<- G,zy s j.1 (c:=q.k) (by omega),zy s h r.1,p.2,w,List.append_assoc]
end
end
theorem zc5 {s:ByteArray} {rs:List RL} {Y:List (Int×List Int)} {E:List EX} {lim:Nat} (hR:RX rs Y E lim) (hnn:∀ e∈E,e.kind=61->e.inner≠-1):∀ n,EGX s Y E lim (cE s rs n) n:=by
 intro n
 induction n with
 | zero=>intro d m k b _ h;omega
 | succ n ih =>
  intro d m k b hk hn f hm g
  have O:=yK s rs n
  have Z:=Y6 s rs n
  have a5:b=false:=by
   cases hq:b with
   | false=>rfl
   | true=>rw [hq,Y6 s rs (n+1) d m k] at f;cases f
  subst a5
  have b7:=T.sk_ge s k
  have b6:=T.sk_le hk
  have b5:=YU s k
  have j:=zl s k
  cases hK:isK (ze s (zb s k false) false) with
  | false=>rw [Ja n d m k false hK] at f;cases f
  | true =>
   have a2:T.sk s k<s.size:=by have:=(Zh hK).2;rw [j] at this;exact this
   obtain ⟨c,hc⟩:∃ c,T.ch s (T.sk s k)=c:=⟨_,rfl⟩
   have u:ze s (zb s k false) false=c:=by rw [j,yZ,if_pos a2];exact hc
   rw [u] at hK
   have h8:c=123\/c=116\/c=64\/c=61\/(c=119\/c=102\/c=109\/c=103):=by
    simp [isK] at hK
    omega
   have a6:T.bl c=false:=by unfold T.bl;simp;omega
   have z:bt s k (T.sk s k+1)=[c]:=by rw [yD (by omega),Qb hc a6]
   rcases h8 with rfl | rfl | rfl | rfl | h8
   ·rw [YP n d m k false u,j] at f g ⊢
    have y:=zN O 123 d (s.size+1-(T.sk s k+1)) m (T.sk s k+1) false (by omega)
    have Q:=qT O (c:=123) (.inl rfl) d (s.size+1-(T.sk s k+1)) m (T.sk s k+1) (by omega) (by omega)
    generalize zd (cE s rs n) s 123 d (s.size+1-(T.sk s k+1)) m (T.sk s k+1) false=l at *
    simp only at f g ⊢
    have v:=zK (by decide) (by decide) f
    obtain ⟨i1,L,P,S,R,i6⟩:=Q v.1
    have q:=g.last
    have w:=zi s 125 l.k l.b
    refine ⟨by simp,by simp,?_⟩
    rw [zy s (b:=T.sk s k+1) (by omega) (by omega),zy s (a:=T.sk s k+1) y.1 w,z,i6,v.2.2,List.length_append,List.length_singleton,show m+(l.es.length+1)-1=m+l.es.length from by omega,<- List.append_assoc]
    exact TX.servers q rfl S P R
   ·rw [ji n d m k false u rfl rfl rfl,j] at f g ⊢
    have N:=zi s 40 (T.sk s k+1) false
    have p:zc s 40 (T.sk s k+1) false<=s.size:=zs (by decide) (by omega)
    have H:=zK (s:=s) (c:=40) (k:=T.sk s k+1) (b:=false) (by decide) (by decide)
    generalize zc s 40 (T.sk s k+1) false=k1 at *
    generalize zj s 40 (T.sk s k+1) false=b1 at *
    have a8:=z5 (b:=b1) p
    have a7:=ya (b:=b1) p
    have a1:=Xj (b:=b1) p
    generalize hnv:zJ s k1 b1=nv at *
    generalize zo s k1 b1=kn at *
    generalize zw s k1 b1=bn at *
    have K:=zi s 44 kn bn
    have A:zc s 44 kn bn<=s.size:=zs (by decide) a7
    have G:=zK (s:=s) (c:=44) (k:=kn) (b:=bn) (by decide) (by decide)
    generalize zc s 44 kn bn=k2 at *
    generalize zj s 44 kn bn=b2 at *
    have y:=O (d+1) m k2 b2 A
    have J:b2=true->(cE s rs n (d+1) m k2 b2).b=true:=fun h=>by rw [h];exact Z _ _ _
    have hI:=ih (d+1) m k2 b2 A (by omega)
    generalize cE s rs n (d+1) m k2 b2=r at *
    simp only at f g ⊢
    have v:=zK (by decide) (by decide) f
    have B:b2=false:=by cases hq:b2 with
     | false=>rfl
     | true=>rw [J hq] at v;cases v.1
    obtain ⟨x1,X,W⟩:=hI v.1 hm g.left
    have F:=G B
    have gn:=a1 F.1
    have g1:=H gn.1
    have q:=g.last
    have w:=zi s 41 r.k r.b
    refine ⟨by simp,by simp,?_⟩
    rw [zy s (b:=T.sk s k+1) (by omega) (by omega),zy s (a:=T.sk s k+1) (b:=k1) N (by omega),zy s (a:=k1) (b:=kn) a8 (by omega),zy s (a:=kn) (b:=k2) K (by omega),zy s (a:=k2) y.1 w,z,g1.2.2,F.2.2,v.2.2]
    rw [List.length_append,List.length_singleton,show m+(r.es.length+1)-1=m+r.es.length from by omega]
    have:=TX.ttl (Y:=Y) q rfl gn.2.2 X (by omega) W
    simpa [joi] using this
   ·rw [Xt n d m k false u,j] at f g ⊢
    simp only at f g ⊢
    have gn:=Xj (by omega) f
    have q:=g.last (a:=[])
    rw [List.length_nil,Nat.add_zero] at q
    refine ⟨by simp,by simp,?_⟩
    rw [zy s (b:=T.sk s k+1) (by omega) (z5 (by omega)),z,List.length_singleton,Nat.add_sub_cancel]
    exact TX.alias q rfl gn.2.2
   ·rw [qi n d m k false u,j] at f g ⊢
    simp only at f g ⊢
    have gl:=Xl f
    have q:=g.last (a:=[])
    rw [List.length_nil,Nat.add_zero] at q
    have I:=hnn _ (List.mem_of_getElem? q) rfl
    simp only at I
    refine ⟨by simp,by simp,?_⟩
    rw [zy s (b:=T.sk s k+1) (by omega) (Yg s _ _),z,gl.2.2.2.2,List.length_singleton,Nat.add_sub_cancel]
    rw [gl.2.2.2.1] at q I
    obtain ⟨t,i,n1,n2,n3,n4⟩:=zel hR I
    exact TX.name q rfl rfl gl.2.2.1 n1 n2 (by omega) n4
   ·rw [qj n d m k false u h8 rfl rfl rfl rfl,j] at f g ⊢
    have N:=zi s 40 (T.sk s k+1) false
    have p:zc s 40 (T.sk s k+1) false<=s.size:=zs (by decide) (by omega)
    have H:=zK (s:=s) (c:=40) (k:=T.sk s k+1) (b:=false) (by decide) (by decide)
    generalize zc s 40 (T.sk s k+1) false=k1 at *
    generalize zj s 40 (T.sk s k+1) false=b1 at *
    have U:=zN O c d (s.size+1-k1) m k1 b1 p
    have a4:b1=true->(zd (cE s rs n) s c d (s.size+1-k1) m k1 b1).b=true:=fun h=>qZ Z c d _ m k1 h
    have b3:b1=false->(c=123\/c=102\/c=119)->(zd (cE s rs n) s c d (s.size+1-k1) m k1 b1).b=false->(zd (cE s rs n) s c d (s.size+1-k1) m k1 b1).es=[]/\∃ L:List (List Int),L.length=(zd (cE s rs n) s c d (s.size+1-k1) m k1 b1).ims.length/\L≠[]/\(∀ (i:Nat) (x:List Int) (it:IM),L[i]?=some x->(zd (cE s rs n) s c d (s.size+1-k1) m k1 b1).ims[i]?=some it->TIt c x it)/\bt s k1 (zd (cE s rs n) s c d (s.size+1-k1) m k1 b1).k=joi 44 L:=fun h hc2 f=>by subst h;exact qT O hc2 d (s.size+1-k1) m k1 p (by omega) f
    have b4:b1=false->(c=103\/c=109)->(zd (cE s rs n) s c d (s.size+1-k1) m k1 b1).b=false->Pos E m (zd (cE s rs n) s c d (s.size+1-k1) m k1 b1).es->∃ L:List AR,L.length=(zd (cE s rs n) s c d (s.size+1-k1) m k1 b1).ims.length/\L≠[]/\(∀ a∈L,TX E Y a.txt a.num/\a.num<m+(zd (cE s rs n) s c d (s.size+1-k1) m k1 b1).es.length)/\(∀ (i:Nat) (a:AR) (it:IM),L[i]?=some a->(zd (cE s rs n) s c d (s.size+1-k1) m k1 b1).ims[i]?=some it->X7 c a.key it/\it.arm=(a.num:Int))/\bt s k1 (zd (cE s rs n) s c d (s.size+1-k1) m k1 b1).k=joi 44 (L.map AR.t):=fun h hc2 f hp=>by subst h;exact JN O Z ih hc2 d (s.size+1-k1) m k1 p (by omega) (by omega) f hm hp
    generalize zd (cE s rs n) s c d (s.size+1-k1) m k1 b1=l at *
    have K:=zi s 124 l.k l.b
    have A:zc s 124 l.k l.b<=s.size:=zs (by decide) U.2.1
    have G:=zK (s:=s) (c:=124) (k:=l.k) (b:=l.b) (by decide) (by decide)
    generalize zc s 124 l.k l.b=k2 at *
    generalize zj s 124 l.k l.b=b2 at *
    have y:=O (d+1) (m+l.es.length) k2 b2 A
    have J:b2=true->(cE s rs n (d+1) (m+l.es.length) k2 b2).b=true:=fun h=>by rw [h];exact Z _ _ _
    have hI:=ih (d+1) (m+l.es.length) k2 b2 A (by omega)
    generalize cE s rs n (d+1) (m+l.es.length) k2 b2=r at *
    simp only at f g ⊢
    have v:=zK (by decide) (by decide) f
    have B:b2=false:=by cases hq:b2 with
     | false=>rfl
     | true=>rw [J hq] at v;cases v.1
    have F:=G B
    have C:b1=false:=by cases hq:b1 with
     | false=>rfl
     | true=>rw [a4 hq] at F;cases F.1
    have g1:=H C
    obtain ⟨x1,X,W⟩:=hI v.1 (by omega) g.left.right
    have q:=g.last
    have w:=zi s 41 r.k r.b
    refine ⟨by simp only [List.length_append,List.length_cons,List.length_nil];omega,by simp only [List.length_append,List.length_cons,List.length_nil];omega,?_⟩
    rw [zy s (b:=T.sk s k+1) (by omega) (by omega),zy s (a:=T.sk s k+1) (b:=k1) N (by omega),zy s (a:=k1) (b:=l.k) U.1 (by omega),zy s (a:=l.k) (b:=k2) K (by omega),zy s (a:=k2) y.1 w,z,g1.2.2,F.2.2,v.2.2]
    have a9:m+(l.es++r.es).length=m+l.es.length+r.es.length:=by rw [List.length_append];omega
    rw [a9] at q
    have b0:m+(l.es++r.es++[(⟨c,T.sk s k,d,0,0,l.ims,r.idx⟩:EX)]).length-1=m+l.es.length+r.es.length:=by simp only [List.length_append,List.length_cons,List.length_nil];omega
    rw [b0]
    by_cases a0:c=123\/c=102\/c=119
    ·obtain ⟨i1,L,P,S,R,i6⟩:=b3 C a0 F.1
     rw [i6]
     have:=TX.list (Y:=Y) (c:=c) q rfl (by omega) S P R X (by omega) W
     simpa [joi] using this
    ·obtain ⟨L,i1,i2,P,S,R⟩:=b4 C (by omega) F.1 g.left.left
     rw [R]
     have D:∀ i,i<L.length->∃ a∈L,L[i]?=some a/\(L[i]?).getD arD=a:=fun i Q=>⟨L[i],List.getElem_mem _,List.getElem?_eq_getElem Q,by rw [List.getElem?_eq_getElem Q];rfl⟩
     have:=TX.maps (E:=E) (Y:=Y) (c:=c) (m:=L.length) (ks:=fun i=>((L[i]?).getD arD).key) (ar:=fun i=>((L[i]?).getD arD).txt) (an:=fun i=>((L[i]?).getD arD).num) (o:=bt s k2 r.k) q rfl (by omega) (List.length_pos_iff.2 i2) i1.symm
      (fun i it hit=>by
       have a3:i<L.length:=by have:=(List.getElem?_eq_some_iff.1 hit).1;simp only at this;omega
       obtain ⟨a,ha,e1,V⟩:=D i a3
       have h1:=S i a it e1 hit
       have h2:=(P a ha).2
       simp only [V]
       exact ⟨h1.1,h1.2,by omega⟩) (fun i Q=>by obtain ⟨a,ha,e1,V⟩:=D i Q;simp only [V];exact (P a ha).1) X (by omega) W
     have V:(List.range L.length).map (fun i=>((L[i]?).getD arD).key++[58]++((L[i]?).getD arD).txt)=L.map AR.t:=Qu L AR.t
     rw [V] at this
     simpa [joi] using this
theorem RX.mono {rs:List RL} {Y:List (Int×List Int)} {E:List EX} {a b:Nat} (h:RX rs Y E a) (hab:a<=b):RX rs Y E b:=⟨h.len,fun i r y hr hy=>by
 obtain ⟨f,j,e,g,d⟩:=h.at_ i r y hr hy
 exact ⟨f,j,e,by omega,d⟩⟩
theorem RX.snoc {rs:List RL} {Y:List (Int×List Int)} {E:List EX} {a b:Nat} (h:RX rs Y E a) (hab:a<=b) {r:RL} {x:List Int} {j:Nat} (hj:r.ex=(j:Int)) (hjb:j<b) (hx:TX E Y x j):RX (rs++[r]) (Y++[(r.nv,x)]) E b:=⟨by simp [h.len],fun i r' y hr hy=>by
 by_cases f:i<rs.length
 ·rw [List.getElem?_append_left f] at hr
  rw [List.getElem?_append_left (by have:=h.len;omega)] at hy
  obtain ⟨l,j,k,m,g⟩:=h.at_ i r' y hr hy
  exact ⟨l,j,k,by omega,g.app _⟩
 ·have d:=(List.getElem?_eq_some_iff.1 hr).1
  simp at d
  have e:i=rs.length:=by omega
  subst e
  rw [List.getElem?_append_right (Nat.le_refl _),Nat.sub_self] at hr
  rw [<- h.len,List.getElem?_append_right (Nat.le_refl _),Nat.sub_self] at hy
  simp at hr hy
  subst hr hy
  exact ⟨rfl,j,hj,hjb,hx.app _⟩⟩
theorem zaY {s:ByteArray} {E:List EX} (hnn:∀ e∈E,e.kind=61->e.inner≠-1):∀ (N:Nat) (rs:List RL) (Y0:List (Int×List Int)) (m k:Nat),k<=s.size->s.size+1<=N+k->(zx s N rs m k false).b=false->Pos E m (zx s N rs m k false).es->RX rs Y0 E m ->
 ∃ Y1:List (Int×List Int),Y1≠[]/\bt s k (zx s N rs m k false).k=joi 59 (Y1.map ruT)/\(∀ y∈Y1,97<=y.1/\y.1<=122)/\RX (zx s N rs m k false).rs (Y0++Y1) E (m+(zx s N rs m k false).es.length)/\1<=(zx s N rs m k false).es.length/\∃ r,(zx s N rs m k false).rs.getLast?=some r/\r.ex=((m+(zx s N rs m k false).es.length-1:Nat):Int):=by
 intro N
 induction N with
 | zero=>intro rs Y0 m k h1 h2;omega
 | succ N ih =>
  intro rs Y0 m k P hN d f j
  have i:=Ya s rs m k false P
  have G:zC s rs m k false=⟨⟨ze s (zb s k false) false,zb s k false,(cE s rs (s.size+1) 0 m (zc s 58 (zQ s k false) (zX s k false)) (zj s 58 (zQ s k false) (zX s k false))).idx⟩,(cE s rs (s.size+1) 0 m (zc s 58 (zQ s k false) (zX s k false)) (zj s 58 (zQ s k false) (zX s k false))).es,(cE s rs (s.size+1) 0 m (zc s 58 (zQ s k false) (zX s k false)) (zj s 58 (zQ s k false) (zX s k false))).k,(cE s rs (s.size+1) 0 m (zc s 58 (zQ s k false) (zX s k false)) (zj s 58 (zQ s k false) (zX s k false))).b⟩:=rfl
  simp only [zx] at d f ⊢
  have J:=zc5 (s:=s) j hnn (s.size+1)
  have C:=Yg s k false
  have B:=xr (b:=false) P
  have I:=zi s 58 (zQ s k false) (zX s k false)
  have o:zc s 58 (zQ s k false) (zX s k false)<=s.size:=zs (by decide) B
  have g:(zC s rs m k false).b=false->Pos E m (zC s rs m k false).es->1<=(zC s rs m k false).es.length/\(zC s rs m k false).rl.ex=((m+(zC s rs m k false).es.length-1:Nat):Int)/\(97<=(zC s rs m k false).rl.nv/\(zC s rs m k false).rl.nv<=122)/\∃ x,bt s k (zC s rs m k false).k=[(zC s rs m k false).rl.nv,58]++x/\TX E Y0 x (m+(zC s rs m k false).es.length-1):=by
   rw [G]
   simp only
   intro D hp
   have H:zj s 58 (zQ s k false) (zX s k false)=false:=by
    cases hq:zj s 58 (zQ s k false) (zX s k false) with
    | false=>rfl
    | true=>rw [hq,Y6 s rs (s.size+1)] at D;cases D
   have O:=zK (by decide) (by decide) H
   have u:=Xl O.1
   obtain ⟨S,R,Q⟩:=J 0 m _ _ o (by omega) D (Nat.le_refl _) hp
   have n:=yK s rs (s.size+1) 0 m (zc s 58 (zQ s k false) (zX s k false)) (zj s 58 (zQ s k false) (zX s k false)) o
   refine ⟨S,R,by rw [u.2.2.2.1];exact u.2.2.1,_,?_,Q⟩
   rw [zy s C (by omega),zy s I n.1,u.2.2.2.2,O.2.2,u.2.2.2.1]
   rfl
  generalize zC s rs m k false=it at *
  have l:∀ b,zc s 59 it.k b<=s.size:=fun b=>zs (by decide) i.2.1
  have h:=zi s 59 it.k it.b
  have a:it.b=false:=by
   cases hq:it.b with
   | false=>rfl
   | true =>
    rw [hq] at d
    have F:=yl (s:=s) (k:=it.k) (b:=true) (c:=59) (.inl rfl) (by decide) (by decide)
    rw [F.1] at d
    simp at d
  rw [a] at d h f ⊢
  cases ht:zZ s 59 it.k false with
  | false =>
   rw [ht] at d f
   simp only [Bool.false_eq_true,if_false] at d f ⊢
   obtain ⟨K,p,z,x,w,v⟩:=g a f
   refine ⟨[(it.rl.nv,x)],by simp,?_,fun y hy=>by simp at hy;subst hy;exact z,j.snoc (by omega) p (by omega) v,K,it.rl,by simp,p⟩
   rw [zy s i.1 h,xf ht,List.append_nil,w]
   rfl
  | true =>
   rw [ht] at d f
   simp only [if_true] at d f ⊢
   obtain ⟨K,p,z,x,w,v⟩:=g a f.left
   have A:=Ym (s:=s) (k:=it.k) (c:=59) (by decide) (by decide) ht
   have a0:=T.sk_ge s it.k
   obtain ⟨Y,Z,X,W,L,q5,r,V,U⟩:=ih (rs++[it.rl]) (Y0++[(it.rl.nv,x)]) (m+it.es.length) (zc s 59 it.k false) (l _) (by omega) d f.right (j.snoc (by omega) p (by omega) v)
   have a1:=ZP s N (rs++[it.rl]) (m+it.es.length) (zc s 59 it.k false) false (l _)
   generalize zx s N (rs++[it.rl]) (m+it.es.length) (zc s 59 it.k false) false=q at *
   refine ⟨(it.rl.nv,x)::Y,by simp,?_,fun y hy=>?_,?_,by simp only [List.length_append];omega,r,V,by rw [U,List.length_append];congr 1;omega⟩
   ·rw [List.map_cons,Ys 59 _ (by simpa using Z),<- X,zy s i.1 (c:=q.k) (by omega),zy s h (by omega),A.2,w]
    simp [ruT]
   ·rcases List.mem_cons.1 hy with rfl | hy
    ·exact z
    ·exact W y hy
   ·rw [List.append_assoc,List.singleton_append] at L
    rw [List.length_append,<- Nat.add_assoc]
    exact L
structure Pol (s:ByteArray) (Y:List (Int×List Int)):Prop where
 ne:Y≠[]
 let_:∀ y∈Y,97<=y.1/\y.1<=122
 rx:RX (zA s).rs Y (zA s).es (zA s).es.length
 pos:1<=(zA s).es.length
 last:∃ r,(zA s).rs.getLast?=some r/\r.ex=(((zA s).es.length-1:Nat):Int)
 bl:brL s s.size=joi 59 (Y.map ruT)
 br:Go.Proofs.YtaebngpoagjafabGreat.bare s=strOfNums (joi 59 (Y.map ruT))
 sp:Go.Proofs.YtaebngpoagjafabGreat.spl (Go.Proofs.YtaebngpoagjafabGreat.bare s) 59=(Y.map ruT).map strOfNums
theorem qL {s:ByteArray} (hc0:(yQ s).1=0):s.size<=2000/\(zA s).b=false/\(zA s).k=s.size/\(xR (zA s).es (zA s).rs).1=0:=by
 have i:s.size<=2000:=by
  by_cases f:2000<s.size
  ·unfold yQ at hc0;rw [if_pos f] at hc0;cases hc0
  ·omega
 have d:((zA s).b || decide ((zA s).k<s.size))=false/\(xR (zA s).es (zA s).rs).1=0:=by
  unfold yQ at hc0
  rw [if_neg (by omega)] at hc0
  split at hc0
  ·cases hc0
  ·next f =>
   refine ⟨by simpa using f,?_⟩
   split at hc0
   ·next h=>exact h
   ·next h=>exact absurd hc0 h
 have a:(zA s).b=false:=by cases hq:(zA s).b with
  | false=>rfl
  | true=>rw [hq] at d;cases d.1
 have e:=ZP s (s.size+1) [] 0 0 false (Nat.zero_le _)
 refine ⟨i,a,?_,d.2⟩
 have g:=d.1
 rw [a,Bool.false_or] at g
 have l:¬ (zA s).k<s.size:=of_decide_eq_false g
 have j:(zA s).k<=s.size:=e.2
 omega
theorem zcs {s:ByteArray} (hc0:(yQ s).1=0):∃ Y,Pol s Y:=by
 obtain ⟨L,B,A,J⟩:=qL hc0
 have p:∀ e∈(zA s).es,e.kind=61->e.inner≠-1:=fun e he hk q=>by
  rcases Xq (zA s).es (zA s).rs with ⟨_,g⟩ | ⟨F,_⟩
  ·exact g 5 e.na (.inl ⟨e,he,.inl (.inr (.inr (.inr ⟨hk,q,rfl,rfl⟩)))⟩)
  ·exact absurd J F
 obtain ⟨Y,E,k,D,f,C,l⟩:=zaY (s:=s) p (s.size+1) [] [] 0 0 (Nat.zero_le _) (by omega) B (fun i e he=>by rw [Nat.zero_add];exact he) ⟨rfl,fun i r y hr=>by simp at hr⟩
 have u:zx s (s.size+1) [] 0 0 false=zA s:=rfl
 rw [u] at k f C l
 rw [A] at k
 simp only [List.nil_append,Nat.zero_add] at f l
 have b:Go.Proofs.YtaebngpoagjafabGreat.bare s=strOfNums (joi 59 (Y.map ruT)):=by unfold Go.Proofs.YtaebngpoagjafabGreat.bare;rw [J3,k]
 have w:∀ (i:Nat) (y:Int×List Int),Y[i]?=some y->(97<=y.1/\y.1<=122)/\∃ j,TX (zA s).es Y y.2 j:=fun i y d=>by
  refine ⟨D y (List.mem_of_getElem? d),?_⟩
  have I:=(List.getElem?_eq_some_iff.1 d).1
  have N:=f.len
  obtain ⟨_,j,_,_,h⟩:=f.at_ i _ y (List.getElem?_eq_getElem (by omega)) d
  exact ⟨j,h⟩
 have v:∀ x∈Y.map ruT,Byt x:=fun x hx=>by
  simp only [List.mem_map] at hx
  obtain ⟨y,d,rfl⟩:=hx
  obtain ⟨i,q⟩:=List.getElem?_of_mem d
  obtain ⟨F,j,g⟩:=w i y q
  exact Byt.app (a:=[y.1,58]) (fun z hz=>by simp at hz;rcases hz with rfl | rfl<;>omega) g.byt
 have m:∀ i:Nat,∃ n:Int,∀ y,Y[i]?=some y->SZL .empty [] y.2 n:=fun i=>by
  cases d:Y[i]? with
  | none=>exact ⟨0,fun y h=>by cases h⟩
  | some y =>
   obtain ⟨_,j,g⟩:=w i y d
   obtain ⟨n,H⟩:=g.szl .empty []
   exact ⟨n,fun y' h=>by simp at h;subst h;exact H⟩
 obtain ⟨G,o⟩:=Classical.axiomOfChoice m
 refine ⟨Y,E,D,f,C,l,by rw [J3,k],b,?_⟩
 rw [b,Zv (zak v),ze1 (nm:=.empty) (K:=fun _=>[]) (n:=G) Y 0 E (fun i y d=>⟨(w i y d).1,by rw [Nat.zero_add];exact o i y d⟩)]
end Go.Proofs.YtaebngpoagjafabGreat
