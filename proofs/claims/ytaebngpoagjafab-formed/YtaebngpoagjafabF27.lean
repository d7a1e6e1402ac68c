import Derived.Test.YtaebngpoagjafabF21
import Derived.Test.YtaebngpoagjafabF26
set_option maxRecDepth 100000
namespace Go.Proofs.Ytaebngpoagjafab
open Go.RowKit
def za0:Nat->Int
 | 0=>1
 | n+1=>za0 n*256
structure RW where
 addr:Int
 draw:Int
 dn:Nat->Bool
 al:List (List Int)
 reg:Int
 dep:Int
structure RD where
 p:Nat
 b:Bool
def nxV (C:List Int) (r:RD):Int:=(C[r.p]?).getD 0
def nx (C:List Int) (r:RD):RD:=if r.p<C.length then ⟨r.p+1,r.b⟩ else ⟨r.p,true⟩
def JQ (C:List Int) (r:RD):Nat->RD
 | 0=>r
 | i+1=>nx C (JQ C r i)
def rdN (C:List Int) (r:RD):Nat->Int
 | 0=>0
 | i+1=>rdN C r i+nxV C (JQ C r i)*za0 i
def num (C:List Int) (r:RD) (k:Nat) (lo hi:Int):RD:=⟨(JQ C r k).p,if rdN C r k<lo\/hi<rdN C r k then true else (JQ C r k).b⟩
def upW (W:RW) (s:Int):Bool:=decide (0<=s) && (decide (s<64) && !W.dn s.toNat)
def suL:List (Int×Int)->Int
 | []=>0
 | x::l=>x.2+suL l
def pkL:List (Int×Int)->Int->Option Int
 | [],_=>none
 | x::l,r=>if r<x.2 then some x.1 else pkL l (r-x.2)
structure RT where
 r:RD
 sv:List Int
 ttl:Int
 sc:Int
def nar (d sc:Int):Int:=if sc<d then d else sc
structure MN where
 sv:List Int
 ttl:Int
 sc:Int
def atM (K:List MN) (i:Int):MN:=if i<0 then ⟨[],0,0⟩ else (K[i.toNat]?).getD ⟨[],0,0⟩
def itV (e:EX) (i:Nat):Int:=match e.items[i]? with | some x=>x.pv | none=>0
def itL (e:EX) (i:Nat):Int:=match e.items[i]? with | some x=>x.pl | none=>0
def mbL (W:RW) (l:List IM):List (Int×Int):=(l.filter (fun x=>upW W x.num)).map (fun x=>(x.num,x.wv))
def zaY (W:RW) (l:List IM):Option Int:=if suL (mbL W l)<=0 then none else pkL (mbL W l) (W.draw%suL (mbL W l))
def zaN (W:RW) (l:List IM):Option Int:=(l.find? (fun x=>upW W x.num)).map IM.num
def jy (W:RW) (e:EX):Int:=if M.bestTo (itV e) (itL e) W.addr e.items.length<0 then e.inner else match e.items[(M.bestTo (itV e) (itL e) W.addr e.items.length).toNat]? with | some x=>x.arm | none=>e.inner
def zax (W:RW) (e:EX):Int:=match e.items.find? (fun x=>x.num==W.reg) with | some x=>x.arm | none=>e.inner
def mnE (W:RW) (K:List MN) (e:EX):MN :=
 if e.kind=123 then ⟨e.items.map IM.num,86400,0⟩
 else if e.kind=64 then ⟨(W.al[e.nv.toNat]?).getD [],86400,0⟩
 else if e.kind=61 then atM K e.inner
 else if e.kind=116 then ⟨(atM K e.inner).sv,if e.nv<(atM K e.inner).ttl then e.nv else (atM K e.inner).ttl,(atM K e.inner).sc⟩
 else if e.kind=119 then (match zaY W e.items with | some x=>⟨[x],86400,0⟩ | none=>atM K e.inner)
 else if e.kind=102 then (match zaN W e.items with | some x=>⟨[x],86400,0⟩ | none=>atM K e.inner)
 else if e.kind=109 then ⟨(atM K (jy W e)).sv,(atM K (jy W e)).ttl,nar (M.depTo (itV e) (itL e) W.addr e.items.length) (atM K (jy W e)).sc⟩
 else ⟨(atM K (zax W e)).sv,(atM K (zax W e)).ttl,nar W.dep (atM K (zax W e)).sc⟩
def mnK (W:RW) (es:List EX):Nat->List MN
 | 0=>[]
 | j+1=>mnK W es j++[match es[j]? with | some e=>mnE W (mnK W es j) e | none=>⟨[],0,0⟩]
def mnN (W:RW) (es:List EX):Nat->MN
 | 0=>⟨[],0,0⟩
 | j+1=>match es[j]? with | some e=>mnE W (mnK W es j) e | none=>⟨[],0,0⟩
theorem Xk (W:RW) (es:List EX):∀ j,(mnK W es j).length=j:=by
 intro j
 induction j with
 | zero=>rfl
 | succ j ih=>simp [mnK,ih]
theorem zaB (W:RW) (es:List EX):∀ m i,i<m->(mnK W es m)[i]?=some (mnN W es (i+1)):=by
 intro m
 induction m with
 | zero=>intro i h;omega
 | succ m ih =>
  intro i h
  by_cases hi:i<m
  ·simp only [mnK]
   rw [List.getElem?_append_left (by rw [Xk];exact hi)]
   exact ih i hi
  ·have:i=m:=by omega
   subst this
   simp only [mnK]
   rw [List.getElem?_append_right (by rw [Xk];exact Nat.le_refl _),Xk]
   simp [mnN]
theorem zbb (W:RW) (es:List EX) {m i:Nat} (h:i<m):atM (mnK W es m) (i:Int)=mnN W es (i+1):=by
 unfold atM
 rw [if_neg (by omega),Int.toNat_natCast,zaB W es m i h];rfl
theorem zaU (es:List EX) {m i:Nat} (h:i<m):atL (ym es m) (i:Int)=yt es (i+1):=by
 rw [YZ,if_neg (by omega),if_pos (by omega),Int.toNat_natCast]
inductive GD (E:List EX):Nat->Prop where
 | servers {j:Nat} {e:EX}:E[j]?=some e->e.kind=123->0<e.items.length->e.items.length<=16->(∀ x∈e.items,0<=x.num/\x.num<=63/\x.arm=-1)->e.inner=-1->GD E j
 | alias {j:Nat} {e:EX}:E[j]?=some e->e.kind=64->0<=e.nv->e.nv<=15->e.items=[]->e.inner=-1->GD E j
 | name {j i:Nat} {e:EX}:E[j]?=some e->e.kind=61->e.items=[]->e.inner=(i:Int)->i<j->GD E i->GD E j
 | ttl {j i:Nat} {e:EX}:E[j]?=some e->e.kind=116->1<=e.nv->e.nv<=86400->e.items=[]->e.inner=(i:Int)->i<j->GD E i->GD E j
 | list {j i:Nat} {e:EX}:E[j]?=some e->(e.kind=119\/e.kind=102)->0<e.items.length->e.items.length<=16->(∀ x∈e.items,0<=x.num/\x.num<=63/\x.arm=-1/\(e.kind=119->1<=x.wv/\x.wv<=1000))->e.inner=(i:Int)->i<j->GD E i->GD E j
 | maps {j i:Nat} {e:EX} {an:Nat->Nat}:E[j]?=some e->(e.kind=109\/e.kind=103)->0<e.items.length->e.items.length<=16->(∀ x∈e.items,(e.kind=109->M.isP x.pv x.pl=true)/\(e.kind=103->0<=x.num/\x.num<=99))->(e.kind=103->∀ (a b:Nat) (x y:IM),e.items[a]?=some x->e.items[b]?=some y->x.num=y.num->a=b)->(e.kind=109->∀ (a b:Nat) (x y:IM),e.items[a]?=some x->e.items[b]?=some y->x.pv=y.pv->x.pl=y.pl->a=b) ->
  (∀ (k:Nat) (x:IM),e.items[k]?=some x->x.arm=(an k:Int)/\an k<j)->(∀ k,k<e.items.length->GD E (an k))->e.inner=(i:Int)->i<j->GD E i->GD E j
/-! Bytes that lie in code. -/
theorem zaK {c:Int}:∀ (l pre:List IM),(∀ err a,¬ FIs c pre l err a)->∀ (i:Nat) (x:IM),l[i]?=some x->∀ err a,¬ FIm c (pre++l.take i) x err a:=by
 intro l
 induction l with
 | nil=>intro pre _ i x hx;simp at hx
 | cons y l ih =>
  intro pre h i x hx err a
  cases i with
  | zero =>
   simp only [List.getElem?_cons_zero,Option.some.injEq] at hx
   subst hx
   simp only [List.take_zero,List.append_nil]
   exact fun hf=>h err a (.inl hf)
  | succ i =>
   rw [List.getElem?_cons_succ] at hx
   have:=ih (pre++[y]) (fun err a hf=>h err a (.inr hf)) i x hx err a
   rwa [List.append_assoc,List.singleton_append,<- List.take_succ_cons] at this
structure NF (e:EX):Prop where
 ttl:e.kind=116->1<=e.nv/\e.nv<=86400
 ali:e.kind=64->0<=e.nv/\e.nv<=15
 len:e.items.length<=16
 num:e.kind=123\/e.kind=102\/e.kind=119->∀ x∈e.items,0<=x.num/\x.num<=63
 wgt:e.kind=119->∀ x∈e.items,1<=x.wv/\x.wv<=1000
 reg:e.kind=103->∀ x∈e.items,0<=x.num/\x.num<=99
 one:∀ (a b:Nat) (x y:IM),e.items[a]?=some x->e.items[b]?=some y->x.num=y.num->x.pv=y.pv->x.pl=y.pl->a=b
theorem za2 {e:EX} (h1:∀ err a,¬ FEx e err a) (h2:∀ err a,¬ FIs e.kind [] e.items err a):NF e:=by
 have h3:=zaK e.items [] h2
 simp only [List.nil_append] at h3
 have hone:∀ (a b:Nat) (x y:IM),a<b->e.items[a]?=some x->e.items[b]?=some y->x.num=y.num->x.pv=y.pv->x.pl=y.pl->False:=by
  intro a b x y hab hx hy e1 e2 e3
  refine h3 b y hy 7 y.at_ (.inr (.inl ⟨?_,rfl,rfl⟩))
  rw [List.any_eq_true]
  refine ⟨x,?_,by simp [z7,e1,e2,e3]⟩
  exact List.mem_of_getElem? (i:=a) (by rw [List.getElem?_take,if_pos hab];exact hx)
 refine ⟨fun hk=>?_,fun hk=>?_,?_,fun hk x hx=>?_,fun hk x hx=>?_,fun hk x hx=>?_,fun a b x y hx hy e1 e2 e3=>?_⟩
 ·have:=h1 6 e.na
  unfold FEx at this
  simp only [hk,not_or,not_and,true_and,and_true] at this
  have:=this.2.1
  omega
 ·have:=h1 6 e.na
  unfold FEx at this
  simp only [hk,not_or,not_and,true_and,and_true] at this
  have:=this.2.2.1
  omega
 ·by_cases hl:e.items.length<=16
  ·exact hl
  ·obtain ⟨x,hx⟩:∃ x,e.items[16]?=some x:=⟨e.items[16]'(by omega),List.getElem?_eq_getElem (by omega)⟩
   exact absurd (.inl ⟨by rw [List.length_take];omega,rfl,rfl⟩) (h3 16 x hx 4 x.at_)
 ·obtain ⟨i,hi⟩:=List.getElem?_of_mem hx
  have:=h3 i x hi 6 x.at_
  by_cases hb:x.num<0\/63<x.num
  ·exact absurd (.inr (.inr (.inl ⟨hk,hb,rfl,rfl⟩))) this
  ·omega
 ·obtain ⟨i,hi⟩:=List.getElem?_of_mem hx
  have:=h3 i x hi 6 x.wa
  by_cases hb:x.wv<1\/1000<x.wv
  ·exact absurd (.inr (.inr (.inr (.inl ⟨hk,hb,rfl,rfl⟩)))) this
  ·omega
 ·obtain ⟨i,hi⟩:=List.getElem?_of_mem hx
  have:=h3 i x hi 6 x.at_
  by_cases hb:x.num<0\/99<x.num
  ·exact absurd (.inr (.inr (.inr (.inr ⟨hk,hb,rfl,rfl⟩)))) this
  ·omega
 ·rcases Nat.lt_trichotomy a b with h | h | h
  ·exact (hone a b x y h hx hy e1 e2 e3).elim
  ·exact h
  ·exact (hone b a y x h hy hx e1.symm e2.symm e3.symm).elim
theorem zay (n:Nat):M.p2 n=2 ^ n:=by
 induction n with
 | zero=>rfl
 | succ n ih=>rw [M.p2_succ,ih,Int.pow_succ]
theorem qJ.isP {x:List Int} {v l:Int} (h:qJ x v l) (h0:0<=v) (h1:v<4294967296):M.isP v l=true:=by
 rw [M.isP_iff]
 have hl:=h.len
 have hle:=h.le
 refine ⟨by omega,by omega,h0,h1,?_⟩
 have e:(32-l).toNat=32-x.length:=by omega
 rw [e,zay,h.val]
 exact Int.mul_emod_left _ _
theorem TX.good {E:List EX} {Y:List (Int×List Int)} (hb:yE E) (hn:∀ e∈E,NF e) {t:List Int} {j:Nat} (h:TX E Y t j):GD E j:=by
 induction h with
 | @servers j e l h1 h2 h3 h4 h5 =>
  have me:=List.mem_of_getElem? h1
  have b:=hb e me
  have n:=hn e me
  have hl:0<l.length:=List.length_pos_iff.2 h3
  exact GD.servers h1 h2 (by omega) n.len (fun x hx=>⟨(n.num (.inl h2) x hx).1,(n.num (.inl h2) x hx).2,(b.it x hx).arm (by omega) (by omega)⟩) (b.inn (.inl h2))
 | @alias j e x h1 h2 h3 =>
  have me:=List.mem_of_getElem? h1
  have b:=hb e me
  have n:=hn e me
  exact GD.alias h1 h2 (n.ali h2).1 (n.ali h2).2 (b.emp (.inl h2)) (b.inn (.inr h2))
 | @name j i e c t h1 h2 h3 h4 h5 h6 h7 _ ih =>
  exact GD.name h1 h2 ((hb e (List.mem_of_getElem? h1)).emp (.inr (.inr h2))) h6 h7 ih
 | @ttl j i e x o h1 h2 h3 h4 h5 _ ih =>
  have me:=List.mem_of_getElem? h1
  have n:=hn e me
  exact GD.ttl h1 h2 (n.ttl h2).1 (n.ttl h2).2 ((hb e me).emp (.inr (.inl h2))) h4 h5 ih
 | @list j i e c l o h1 h2 h3 h4 h5 h6 h7 h8 _ ih =>
  have me:=List.mem_of_getElem? h1
  have b:=hb e me
  have n:=hn e me
  have hl:0<l.length:=List.length_pos_iff.2 h4
  have hk:e.kind=119\/e.kind=102:=by omega
  refine GD.list h1 hk (by omega) n.len (fun x hx=>⟨(n.num (by omega) x hx).1,(n.num (by omega) x hx).2,(b.it x hx).arm (by omega) (by omega),fun h=>n.wgt h x hx⟩) h7 h8 ih
 | @maps j i e c m ks ar an o h1 h2 h3 h4 h5 h6 _ h8 h9 _ iha iho =>
  have me:=List.mem_of_getElem? h1
  have b:=hb e me
  have n:=hn e me
  have hk:e.kind=109\/e.kind=103:=by omega
  refine GD.maps (an:=an) h1 hk (by omega) n.len (fun x hx=>⟨fun hk=>?_,fun hk=>n.reg hk x hx⟩) (fun hk a b' x y hx hy e1=>?_) (fun hk a b' x y hx hy e2 e3=>?_) (fun k x hx=>(h6 k x hx).2) (fun k hk=>iha k (by omega)) h8 h9 iho
  ·obtain ⟨k,hk2⟩:=List.getElem?_of_mem hx
   have h10:=(h6 k x hk2).1
   unfold X3 at h10
   rw [if_pos (by omega)] at h10
   have:=(b.it x hx).pv
   exact h10.isP this.1 this.2
  ·have p1:=(b.it x (List.mem_of_getElem? hx)).zp (by omega)
   have p2:=(b.it y (List.mem_of_getElem? hy)).zp (by omega)
   exact n.one a b' x y hx hy e1 (by rw [p1.1,p2.1]) (by rw [p1.2,p2.2])
  ·have p1:=(b.it x (List.mem_of_getElem? hx)).zn hk
   have p2:=(b.it y (List.mem_of_getElem? hy)).zn hk
   exact n.one a b' x y hx hy (by rw [p1,p2]) e2 e3
theorem za1 {s:ByteArray} (hc0:(zU s).1=0):∀ e∈(zk s).es,NF e:=by
 obtain ⟨_,_,_,hF⟩:=yF hc0
 intro e he
 rcases Zo (zk s).es (zk s).rs with ⟨_,h2⟩ | ⟨h1,_⟩
 ·exact za2 (fun err a hf=>h2 err a (.inl ⟨e,he,.inl hf⟩)) (fun err a hf=>h2 err a (.inl ⟨e,he,.inr hf⟩))
 ·exact absurd hF h1
theorem Xo {s:ByteArray} (hc0:(zU s).1=0):0<(zk s).es.length/\GD (zk s).es ((zk s).es.length-1):=by
 obtain ⟨Y,hp⟩:=jz hc0
 refine ⟨hp.pos,?_⟩
 obtain ⟨r,hr,hrx⟩:=hp.last
 have hne:(zk s).rs≠[]:=fun h=>by rw [h] at hr;cases hr
 have hl:0<(zk s).rs.length:=List.length_pos_iff.2 hne
 have hri:(zk s).rs[(zk s).rs.length-1]?=some r:=by rw [List.getLast?_eq_getElem?] at hr;exact hr
 obtain ⟨y,hy⟩:∃ y,Y[(zk s).rs.length-1]?=some y:=⟨Y[(zk s).rs.length-1]'(by have:=hp.rx.len;omega),List.getElem?_eq_getElem _⟩
 obtain ⟨_,j,hj,_,hx⟩:=hp.rx.at_ _ r y hri hy
 have hjj:j=(zk s).es.length-1:=by rw [hrx] at hj;omega
 rw [hjj] at hx
 exact hx.good (Qb s) (za1 hc0)
theorem GD.enc_pos {E:List EX} {j:Nat} (h:GD E j):1<=(yt E (j+1)).length:=by
 induction h with
 | @servers j e he hk _ _ _ _=>simp only [yt,he,Ym];rw [if_neg (by omega),List.length_append];have:=Zj (ym E j) e e.items.length;omega
 | @alias j e he hk _ _ _ _=>simp only [yt,he,Ym];rw [if_neg (by omega),List.length_append];have:=Zj (ym E j) e e.items.length;omega
 | @name j i e he hk _ hin hij _ ih =>
  have hen:yt E (j+1)=yt E (i+1):=by simp only [yt,he,Ym];rw [if_pos hk,hin,zaU E hij];rfl
  rw [hen];exact ih
 | @ttl j i e he hk _ _ _ _ _ _ _=>simp only [yt,he,Ym];rw [if_neg (by omega),List.length_append];have:=Zj (ym E j) e e.items.length;omega
 | @list j i e he hk _ _ _ _ _ _ _=>simp only [yt,he,Ym];rw [if_neg (by omega),List.length_append];have:=Zj (ym E j) e e.items.length;omega
 | @maps j i e an he hk _ _ _ _ _ _ _ _ _ _ _ _=>simp only [yt,he,Ym];rw [if_neg (by omega),List.length_append];have:=Zj (ym E j) e e.items.length;omega
end Go.Proofs.Ytaebngpoagjafab
