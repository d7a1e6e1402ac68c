import Derived.Test.YtaebngpoagjafabGreatU24
import Derived.Test.YtaebngpoagjafabGreatU34
set_option maxRecDepth 100000
namespace Go.Proofs.YtaebngpoagjafabGreat
open Go.RowKit
theorem zfE {c:Int}:∀ (l pre:List IM),(∀ err a,¬ FIs c pre l err a)->∀ (i:Nat) (x:IM),l[i]?=some x->∀ err a,¬ FIm c (pre++l.take i) x err a:=by
 intro l
 induction l with
 | nil=>intro pre _ i x b;simp at b
 | cons y l ih =>
  intro pre h i x b err a
  cases i with
  | zero =>
   simp only [List.getElem?_cons_zero,Option.some.injEq] at b
   subst b
   simp only [List.take_zero,List.append_nil]
   exact fun hf=>h err a (.inl hf)
  | succ i =>
   rw [List.getElem?_cons_succ] at b
   have:=ih (pre++[y]) (fun err a hf=>h err a (.inr hf)) i x b err a
   rwa [List.append_assoc,List.singleton_append,<- List.take_succ_cons] at this
structure NF (e:EX):Prop where
 ttl:e.kind=116->1<=e.nv/\e.nv<=86400
 ali:e.kind=64->0<=e.nv/\e.nv<=15
 len:e.items.length<=16
 num:e.kind=123\/e.kind=102\/e.kind=119->∀ x∈e.items,0<=x.num/\x.num<=63
 wgt:e.kind=119->∀ x∈e.items,1<=x.wv/\x.wv<=1000
 reg:e.kind=103->∀ x∈e.items,0<=x.num/\x.num<=99
 one:∀ (a b:Nat) (x y:IM),e.items[a]?=some x->e.items[b]?=some y->x.num=y.num->x.pv=y.pv->x.pl=y.pl->a=b
theorem zfV {e:EX} (h1:∀ err a,¬ FEx e err a) (h2:∀ err a,¬ FIs e.kind [] e.items err a):NF e:=by
 have g:=zfE e.items [] h2
 simp only [List.nil_append] at g
 have f:∀ (a b:Nat) (x y:IM),a<b->e.items[a]?=some x->e.items[b]?=some y->x.num=y.num->x.pv=y.pv->x.pl=y.pl->False:=by
  intro a b x y p d l o n m
  refine g b y l 7 y.at_ (.inr (.inl ⟨?_,rfl,rfl⟩))
  rw [List.any_eq_true]
  refine ⟨x,?_,by simp [yv,o,n,m]⟩
  exact List.mem_of_getElem? (i:=a) (by rw [List.getElem?_take,if_pos p];exact d)
 refine ⟨fun hk=>?_,fun hk=>?_,?_,fun hk x d=>?_,fun hk x d=>?_,fun hk x d=>?_,fun a b x y d l o n m=>?_⟩
 ·have:=h1 6 e.na
  unfold FEx at this
  simp only [hk,not_or,not_and,true_and,and_true] at this
  have:=this.2.1
  omega
 ·have:=h1 6 e.na
  unfold FEx at this
  simp only [hk,not_or,not_and,true_and,and_true] at this
  have:=this.2.2.1
  omega
 ·by_cases q:e.items.length<=16
  ·exact q
  ·obtain ⟨x,d⟩:∃ x,e.items[16]?=some x:=⟨e.items[16]'(by omega),List.getElem?_eq_getElem (by omega)⟩
   exact absurd (.inl ⟨by rw [List.length_take];omega,rfl,rfl⟩) (g 16 x d 4 x.at_)
 ·obtain ⟨i,j⟩:=List.getElem?_of_mem d
  have:=g i x j 6 x.at_
  by_cases k:x.num<0\/63<x.num
  ·exact absurd (.inr (.inr (.inl ⟨hk,k,rfl,rfl⟩))) this
  ·omega
 ·obtain ⟨i,j⟩:=List.getElem?_of_mem d
  have:=g i x j 6 x.wa
  by_cases k:x.wv<1\/1000<x.wv
  ·exact absurd (.inr (.inr (.inr (.inl ⟨hk,k,rfl,rfl⟩)))) this
  ·omega
 ·obtain ⟨i,j⟩:=List.getElem?_of_mem d
  have:=g i x j 6 x.at_
  by_cases k:x.num<0\/99<x.num
  ·exact absurd (.inr (.inr (.inr (.inr ⟨hk,k,rfl,rfl⟩)))) this
  ·omega
 ·rcases Nat.lt_trichotomy a b with h | h | h
  ·exact (f a b x y h d l o n m).elim
  ·exact h
  ·exact (f b a y x h l d o.symm n.symm m.symm).elim
theorem zfq (n:Nat):M.p2 n=2 ^ n:=by
 induction n with
 | zero=>rfl
 | succ n ih=>rw [M.p2_succ,ih,Int.pow_succ]
theorem jp.isP {x:List Int} {v l:Int} (h:jp x v l) (h0:0<=v) (h1:v<4294967296):M.isP v l=true:=by
 rw [M.isP_iff]
 have b:=h.len
 have a:=h.le
 refine ⟨by omega,by omega,h0,h1,?_⟩
 have e:(32-l).toNat=32-x.length:=by omega
 rw [e,zfq,h.val]
 exact Int.mul_emod_left _ _
theorem TX.good {E:List EX} {Y:List (Int×List Int)} (hb:Zl E) (hn:∀ e∈E,NF e) {t:List Int} {j:Nat} (h:TX E Y t j):GD E j:=by
 induction h with
 | @servers j e l h1 h2 h3 h4 h5 =>
  have d:=List.mem_of_getElem? h1
  have b:=hb e d
  have n:=hn e d
  have r:0<l.length:=List.length_pos_iff.2 h3
  exact GD.servers h1 h2 (by omega) n.len (fun x hx=>⟨(n.num (.inl h2) x hx).1,(n.num (.inl h2) x hx).2,(b.it x hx).arm (by omega) (by omega)⟩) (b.inn (.inl h2))
 | @alias j e x h1 h2 h3 =>
  have d:=List.mem_of_getElem? h1
  have b:=hb e d
  have n:=hn e d
  exact GD.alias h1 h2 (n.ali h2).1 (n.ali h2).2 (b.emp (.inl h2)) (b.inn (.inr h2))
 | @name j i e c t h1 h2 h3 h4 h5 h6 h7 _ ih =>
  exact GD.name h1 h2 ((hb e (List.mem_of_getElem? h1)).emp (.inr (.inr h2))) h6 h7 ih
 | @ttl j i e x o h1 h2 h3 h4 h5 _ ih =>
  have d:=List.mem_of_getElem? h1
  have n:=hn e d
  exact GD.ttl h1 h2 (n.ttl h2).1 (n.ttl h2).2 ((hb e d).emp (.inr (.inl h2))) h4 h5 ih
 | @list j i e c l o h1 h2 h3 h4 h5 h6 h7 h8 _ ih =>
  have d:=List.mem_of_getElem? h1
  have b:=hb e d
  have n:=hn e d
  have r:0<l.length:=List.length_pos_iff.2 h4
  have f:e.kind=119\/e.kind=102:=by omega
  refine GD.list h1 f (by omega) n.len (fun x hx=>⟨(n.num (by omega) x hx).1,(n.num (by omega) x hx).2,(b.it x hx).arm (by omega) (by omega),fun h=>n.wgt h x hx⟩) h7 h8 ih
 | @maps j i e c m ks ar an o h1 h2 h3 h4 h5 h6 _ h8 h9 _ iha iho =>
  have d:=List.mem_of_getElem? h1
  have b:=hb e d
  have n:=hn e d
  have f:e.kind=109\/e.kind=103:=by omega
  refine GD.maps (an:=an) h1 f (by omega) n.len (fun x hx=>⟨fun f=>?_,fun f=>n.reg f x hx⟩) (fun f a b' x y hx hy e1=>?_) (fun f a b' x y hx hy e2 e3=>?_) (fun k x hx=>(h6 k x hx).2) (fun k f=>iha k (by omega)) h8 h9 iho
  ·obtain ⟨k,q⟩:=List.getElem?_of_mem hx
   have g:=(h6 k x q).1
   unfold X7 at g
   rw [if_pos (by omega)] at g
   have:=(b.it x hx).pv
   exact g.isP this.1 this.2
  ·have p:=(b.it x (List.mem_of_getElem? hx)).zp (by omega)
   have p2:=(b.it y (List.mem_of_getElem? hy)).zp (by omega)
   exact n.one a b' x y hx hy e1 (by rw [p.1,p2.1]) (by rw [p.2,p2.2])
  ·have p:=(b.it x (List.mem_of_getElem? hx)).zn f
   have p2:=(b.it y (List.mem_of_getElem? hy)).zn f
   exact n.one a b' x y hx hy (by rw [p,p2]) e2 e3
theorem ze7 {s:ByteArray} (hc0:(yQ s).1=0):∀ e∈(zA s).es,NF e:=by
 obtain ⟨_,_,_,d⟩:=qL hc0
 intro e b
 rcases Xq (zA s).es (zA s).rs with ⟨_,h2⟩ | ⟨h1,_⟩
 ·exact zfV (fun err a hf=>h2 err a (.inl ⟨e,b,.inl hf⟩)) (fun err a hf=>h2 err a (.inl ⟨e,b,.inr hf⟩))
 ·exact absurd d h1
theorem je {s:ByteArray} (hc0:(yQ s).1=0):0<(zA s).es.length/\GD (zA s).es ((zA s).es.length-1):=by
 obtain ⟨Y,b⟩:=zcs hc0
 refine ⟨b.pos,?_⟩
 obtain ⟨r,a,d⟩:=b.last
 have f:(zA s).rs≠[]:=fun h=>by rw [h] at a;cases a
 have m:0<(zA s).rs.length:=List.length_pos_iff.2 f
 have e:(zA s).rs[(zA s).rs.length-1]?=some r:=by rw [List.getLast?_eq_getElem?] at a;exact a
 obtain ⟨y,k⟩:∃ y,Y[(zA s).rs.length-1]?=some y:=⟨Y[(zA s).rs.length-1]'(by have:=b.rx.len;omega),List.getElem?_eq_getElem _⟩
 obtain ⟨_,j,l,_,i⟩:=b.rx.at_ _ r y e k
 have g:j=(zA s).es.length-1:=by rw [d] at l;omega
 rw [g] at i
 exact i.good (jj s) (ze7 hc0)
theorem GD.enc_pos {E:List EX} {j:Nat} (h:GD E j):1<=(yh E (j+1)).length:=by
 induction h with
 | @servers j e he hk _ _ _ _=>simp only [yh,he,YL];rw [if_neg (by omega),List.length_append];have:=yW (zT E j) e e.items.length;omega
 | @alias j e he hk _ _ _ _=>simp only [yh,he,YL];rw [if_neg (by omega),List.length_append];have:=yW (zT E j) e e.items.length;omega
 | @name j i e he hk _ hin hij _ ih =>
  have a:yh E (j+1)=yh E (i+1):=by simp only [yh,he,YL];rw [if_pos hk,hin,YR E hij];rfl
  rw [a];exact ih
 | @ttl j i e he hk _ _ _ _ _ _ _=>simp only [yh,he,YL];rw [if_neg (by omega),List.length_append];have:=yW (zT E j) e e.items.length;omega
 | @list j i e he hk _ _ _ _ _ _ _=>simp only [yh,he,YL];rw [if_neg (by omega),List.length_append];have:=yW (zT E j) e e.items.length;omega
 | @maps j i e an he hk _ _ _ _ _ _ _ _ _ _ _ _=>simp only [yh,he,YL];rw [if_neg (by omega),List.length_append];have:=yW (zT E j) e e.items.length;omega
end Go.Proofs.YtaebngpoagjafabGreat
