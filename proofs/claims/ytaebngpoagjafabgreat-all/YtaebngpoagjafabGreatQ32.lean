import Derived.Test.YtaebngpoagjafabGreatQ25
import Derived.Test.YtaebngpoagjafabGreatQ26
import Derived.Test.YtaebngpoagjafabGreatQ31
set_option maxRecDepth 100000
namespace Go.Proofs.YtaebngpoagjafabGreat
open Go.RowKit
theorem zgI{c:Int}:∀(l b:List IM),(∀err a,¬FIs c b l err a)->∀(i:Nat) (x:IM),l[i]?=some x->∀err a,¬FIm c (b++l.take i) x err a:=by
 intro l;induction l with
 |nil=>intro b _ i x d;simp at d
 | cons y l ih =>
  intro b h i x d err a;cases i with
  | zero =>
   simp only[List.getElem?_cons_zero,Option.some.injEq]at d;subst d;simp only[List.take_zero,List.append_nil];exact λhf=>h err a (.inl hf)
  | succ i =>
   rw[List.getElem?_cons_succ]at d;have:=ih (b++[y]) (λerr a hf=>h err a (.inr hf)) i x d err a
   rwa [List.append_assoc,List.singleton_append,<-List.take_succ_cons]at this
structure NF (e:EX):Prop where
 ttl:e.kind=116->1<=e.nv/\e.nv<=86400
 ali:e.kind=64->0<=e.nv/\e.nv<=15
 len:e.items.length<=16
 num:e.kind=123\/e.kind=102\/e.kind=119->∀x∈e.items,0<=x.num/\x.num<=63
 wgt:e.kind=119->∀x∈e.items,1<=x.wv/\x.wv<=1000
 reg:e.kind=103->∀x∈e.items,0<=x.num/\x.num<=99
 one:∀(a b:Nat) (x y:IM),e.items[a]?=some x->e.items[b]?=some y->x.num=y.num->x.pv=y.pv->x.pl=y.pl->a=b
theorem zg2{e:EX}(p:∀err a,¬FEx e err a)(r:∀err a,¬FIs e.kind [] e.items err a):NF e:=by
 have f:=zgI e.items [] r;simp only[List.nil_append]at f;have d:∀(a b:Nat) (x y:IM),a<b->e.items[a]?=some x->e.items[b]?=some y->x.num=y.num->x.pv=y.pv->x.pl=y.pl->False:=by
  intro a b x y o c k n m l;refine f b y k 7 y.at_ (.inr (.inl ⟨?_,rfl,rfl⟩));rw[List.any_eq_true];refine⟨x,?_,by simp[yG,n,m,l]⟩;exact List.mem_of_getElem? (i:=a) (by rw[List.getElem?_take,if_pos o];exact c)
 refine⟨λhk=>?_,λhk=>?_,?_,λhk x c=>?_,λhk x c=>?_,λhk x c=>?_,λa b x y c k n m l=>?_⟩
 ·have:=p 6 e.na
  unfold FEx at this;simp only[hk,not_or,not_and,true_and,and_true]at this;have:=this.2.1
  omega
 ·have:=p 6 e.na
  unfold FEx at this;simp only[hk,not_or,not_and,true_and,and_true]at this;have:=this.2.2.1
  omega
 ·by_cases q:e.items.length<=16
  ·exact q
  ·obtain⟨x,c⟩:∃x,e.items[16]?=some x:=⟨e.items[16]'(by omega),List.getElem?_eq_getElem ol⟩;exact absurd (.inl ⟨by rw[List.length_take];omega,rfl,rfl⟩) (f 16 x c 4 x.at_)
 ·obtain⟨i,g⟩:=List.getElem?_of_mem c;have:=f i x g 6 x.at_
  by_cases j:x.num<0\/63<x.num
  ·exact absurd (.inr (.inr (.inl ⟨hk,j,rfl,rfl⟩))) this
  ·omega
 ·obtain⟨i,g⟩:=List.getElem?_of_mem c;have:=f i x g 6 x.wa
  by_cases j:x.wv<1\/1000<x.wv
  ·exact absurd (.inr (.inr (.inr (.inl ⟨hk,j,rfl,rfl⟩)))) this
  ·omega
 ·obtain⟨i,g⟩:=List.getElem?_of_mem c;have:=f i x g 6 x.at_
  by_cases j:x.num<0\/99<x.num
  ·exact absurd (.inr (.inr (.inr (.inr ⟨hk,j,rfl,rfl⟩)))) this
  ·omega
 ·rcases Nat.lt_trichotomy a b with h|h|h
  ·exact(d a b x y h c k n m l).elim
  ·exact h
  ·exact(d b a y x h k c n.symm m.symm l.symm).elim
theorem zgu(n:Nat):M.p2 n=2 ^ n:=by
 induction n with
 |zero=>rfl
 |succ n ih=>rw[M.p2_succ,ih,Int.pow_succ]
theorem j7.isP{x:List Int}{v l:Int}(h:j7 x v l)(c:0<=v)(b:v<4294967296):M.isP v l=true:=by
 rw[M.isP_iff];have d:=h.len;have a:=h.le;refine⟨ol,ol,c,b,?_⟩;have e:(32-l).toNat=32-x.length:=ol;rw[e,zgu,h.val];exact Int.mul_emod_left _ _
theorem TX.good{E:List EX}{Y:List (Int×List Int)}(p:Zn E)(q:∀e∈E,NF e){t:List Int}{j:Nat}(h:TX E Y t j):GD E j:=by
 induction h with
 | @servers j e l h1 h2 h3 h4 h5 =>
  have d:=List.mem_of_getElem? h1;have b:=p e d;have n:=q e d;have u:0<l.length:=List.length_pos_iff.2 h3;exact GD.servers h1 h2 ol n.len (λx hx=>⟨(n.num (.inl h2) x hx).1,(n.num (.inl h2) x hx).2,(b.it x hx).arm ol ol⟩) (b.inn (.inl h2))
 | @alias j e x h1 h2 h3 =>
  have d:=List.mem_of_getElem? h1;have b:=p e d;have n:=q e d;exact GD.alias h1 h2 (n.ali h2).1 (n.ali h2).2 (b.emp (.inl h2)) (b.inn (.inr h2))
 | @name j i e c t h1 h2 h3 h4 h5 h6 h7 _ ih =>
  exact GD.name h1 h2 ((p e (List.mem_of_getElem? h1)).emp (.inr (.inr h2))) h6 h7 ih
 | @ttl j i e x o h1 h2 h3 h4 h5 _ ih =>
  have d:=List.mem_of_getElem? h1;have n:=q e d;exact GD.ttl h1 h2 (n.ttl h2).1 (n.ttl h2).2 ((p e d).emp (.inr (.inl h2))) h4 h5 ih
 | @list j i e c l o h1 h2 h3 h4 h5 h6 h7 h8 _ ih =>
  have d:=List.mem_of_getElem? h1;have b:=p e d;have n:=q e d;have u:0<l.length:=List.length_pos_iff.2 h4;have f:e.kind=119\/e.kind=102:=ol;refine GD.list h1 f ol n.len (λx hx=>⟨(n.num ol x hx).1,(n.num ol x hx).2,(b.it x hx).arm ol ol,λh=>n.wgt h x hx⟩) h7 h8 ih
 | @maps j i e c m ks ar an o h1 h2 h3 h4 h5 h6 _ h8 h9 _ iha iho =>
  have d:=List.mem_of_getElem? h1;have b:=p e d;have n:=q e d;have f:e.kind=109\/e.kind=103:=ol;refine GD.maps (an:=an) h1 f ol n.len (λx hx=>⟨λf=>?_,λf=>n.reg f x hx⟩) (λf a b' x y hx hy e1=>?_) (λf a b' x y hx hy e2 e3=>?_) (λk x hx=>(h6 k x hx).2) (λk f=>iha k ol) h8 h9 iho
  ·obtain⟨k,s⟩:=List.getElem?_of_mem hx;have g:=(h6 k x s).1;unfold qX at g;rw[if_pos ol]at g;have:=(b.it x hx).pv
   exact g.isP this.1 this.2
  ·have r:=(b.it x (List.mem_of_getElem? hx)).zp ol;have p2:=(b.it y (List.mem_of_getElem? hy)).zp ol;exact n.one a b' x y hx hy e1 (by rw[r.1,p2.1]) (by rw[r.2,p2.2])
  ·have r:=(b.it x (List.mem_of_getElem? hx)).zn f;have p2:=(b.it y (List.mem_of_getElem? hy)).zn f;exact n.one a b' x y hx hy (by rw[r,p2]) e2 e3
theorem zga{s:ByteArray}(b:(yv s).1=0):∀e∈(zy s).es,NF e:=by
 obtain⟨_,_,_,d⟩:=QD b;intro e c;rcases X4 (zy s).es (zy s).rs with⟨_,h2⟩|⟨h1,_⟩
 ·exact zg2 (λerr a hf=>h2 err a (.inl ⟨e,c,.inl hf⟩)) (λerr a hf=>h2 err a (.inl ⟨e,c,.inr hf⟩))
 ·exact absurd d h1
theorem jW{s:ByteArray}(a:(yv s).1=0):0<(zy s).es.length/\GD (zy s).es ((zy s).es.length-1):=by
 obtain⟨Y,c⟩:=zdr a;refine⟨c.pos,?_⟩;obtain⟨r,b,d⟩:=c.last;have f:(zy s).rs≠[]:=λh=>by rw[h]at b;cases b
 have m:0<(zy s).rs.length:=List.length_pos_iff.2 f;have e:(zy s).rs[(zy s).rs.length-1]?=some r:=by rw[List.getLast?_eq_getElem?]at b;exact b
 obtain⟨y,k⟩:∃y,Y[(zy s).rs.length-1]?=some y:=⟨Y[(zy s).rs.length-1]'(by have:=c.rx.len;omega),List.getElem?_eq_getElem _⟩;obtain⟨_,j,l,_,i⟩:=c.rx.at_ _ r y e k;have g:j=(zy s).es.length-1:=by rw[d]at l;omega
 rw[g]at i;exact i.good (Qg s) (zga a)
theorem GD.enc_pos{E:List EX}{j:Nat}(h:GD E j):1<=(yj E (j+1)).length:=by
 induction h with
 |@servers j e he hk _ _ _ _=>simp only[yj,he,Y2];rw[if_neg ol,List.length_append];have:=Zf (zW E j) e e.items.length;omega
 |@alias j e he hk _ _ _ _=>simp only[yj,he,Y2];rw[if_neg ol,List.length_append];have:=Zf (zW E j) e e.items.length;omega
 | @name j i e he hk _ hin hij _ ih =>
  have a:yj E (j+1)=yj E (i+1):=by simp only[yj,he,Y2];rw[if_pos hk,hin,Y9 E hij];rfl
  rw[a];exact ih
 |@ttl j i e he hk _ _ _ _ _ _ _=>simp only[yj,he,Y2];rw[if_neg ol,List.length_append];have:=Zf (zW E j) e e.items.length;omega
 |@list j i e he hk _ _ _ _ _ _ _=>simp only[yj,he,Y2];rw[if_neg ol,List.length_append];have:=Zf (zW E j) e e.items.length;omega
 |@maps j i e an he hk _ _ _ _ _ _ _ _ _ _ _ _=>simp only[yj,he,Y2];rw[if_neg ol,List.length_append];have:=Zf (zW E j) e e.items.length;omega
theorem zg3{W:RW}{E:List EX}(r:0<=W.dep)(p:W.dep<=32){j:Nat}(h:GD E j):1<=(mnN W E (j+1)).ttl/\(mnN W E (j+1)).ttl<=86400/\0<=(mnN W E (j+1)).sc/\(mnN W E (j+1)).sc<=32:=by
 induction h with
 |@servers j e he hk _ _ _ _=>simp only[mnN,he,mnE];rw[if_pos hk];simp
 |@alias j e he hk _ _ _ _=>simp only[mnN,he,mnE];rw[if_neg ol,if_pos hk];simp
 | @name j i e he hk _ hin hij _ ih =>
  have a:mnN W E (j+1)=mnN W E (i+1):=by simp only[mnN,he,mnE];rw[if_neg ol,if_neg ol,if_pos hk,hin,yF W E hij];rfl
  rw[a];exact ih
 | @ttl j i e he hk a1 a2 _ hin hij _ ih =>
  have a:mnN W E (j+1)=⟨(mnN W E (i+1)).sv,if e.nv<(mnN W E (i+1)).ttl then e.nv else(mnN W E (i+1)).ttl,(mnN W E (i+1)).sc⟩:=by
   rw[<-yF W E hij,<-hin];simp only[mnN,he,mnE];rw[if_neg ol,if_neg ol,if_neg ol,if_pos hk]
  rw[a];simp only;split<;>omega
 | @list j i e he hk _ _ _ hin hij _ ih =>
  rcases hk with hk|hk
  ·have a:mnN W E (j+1)=(match Yg W e.items with|some x=>⟨[x],86400,0⟩|none=>mnN W E (i+1)):=by
    rw[<-yF W E hij,<-hin];simp only[mnN,he,mnE];rw[if_neg ol,if_neg ol,if_neg ol,if_neg ol,if_pos hk];rfl
   rw[a];cases Yg W e.items with
   |some x=>simp
   |none=>exact ih
  ·have a:mnN W E (j+1)=(match yZ W e.items with|some x=>⟨[x],86400,0⟩|none=>mnN W E (i+1)):=by
    rw[<-yF W E hij,<-hin];simp only[mnN,he,mnE];rw[if_neg ol,if_neg ol,if_neg ol,if_neg ol,if_neg ol,if_pos hk];rfl
   rw[a];cases yZ W e.items with
   |some x=>simp
   |none=>exact ih
 | @maps j i e an he hk g0 _ hit _ _ harm _ hin hij _ iha ih =>
  have o:e.kind=109->∀k,k<e.items.length->itL e k<=32:=λhk k hkl=>by
   have b:e.items[k]?=some e.items[k]:=List.getElem?_eq_getElem hkl;unfold itL;rw[b];exact(M.isP_iff.1 ((hit _ (List.mem_of_getElem? b)).1 hk)).2.1
  have c:∀(q:Int) (d:Int),(q=e.inner\/∃(k:Nat) (x:IM),e.items[k]?=some x/\q=x.arm)->0<=d->d<=32->1<=(atM (mnK W E j) q).ttl/\(atM (mnK W E j) q).ttl<=86400/\0<=nar d (atM (mnK W E j) q).sc/\nar d (atM (mnK W E j) q).sc<=32:=by
   intro q d l n m;have g:1<=(atM (mnK W E j) q).ttl/\(atM (mnK W E j) q).ttl<=86400/\0<=(atM (mnK W E j) q).sc/\(atM (mnK W E j) q).sc<=32:=by
    rcases l with rfl|⟨k,x,b,rfl⟩
    ·rw[hin,yF W E hij];exact ih
    ·rw[(harm k x b).1,yF W E (harm k x b).2];exact iha k (List.getElem?_eq_some_iff.1 b).1
   refine⟨g.1,g.2.1,?_,?_⟩<;>(unfold nar;split<;>omega)
  rcases hk with hk|hk
  ·have a:mnN W E (j+1)=⟨(atM (mnK W E j) (ZN W e)).sv,(atM (mnK W E j) (ZN W e)).ttl,nar (M.depTo (itV e) (itL e) W.addr e.items.length) (atM (mnK W E j) (ZN W e)).sc⟩:=by
    simp only[mnN,he,mnE];rw[if_neg ol,if_neg ol,if_neg ol,if_neg ol,if_neg ol,if_neg ol,if_pos hk]
   rw[a];refine c _ _ ?_ M.depTo_pos (M.depTo_le (o hk));unfold ZN;split
   ·exact .inl rfl
   ·cases b:e.items[(M.bestTo (itV e) (itL e) W.addr e.items.length).toNat]? with
    |none=>exact .inl rfl
    |some x=>exact .inr ⟨_,x,b,rfl⟩
  ·have a:mnN W E (j+1)=⟨(atM (mnK W E j) (xj W e)).sv,(atM (mnK W E j) (xj W e)).ttl,nar W.dep (atM (mnK W E j) (xj W e)).sc⟩:=by
    simp only[mnN,he,mnE];rw[if_neg ol,if_neg ol,if_neg ol,if_neg ol,if_neg ol,if_neg ol,if_neg ol]
   rw[a];refine c _ _ ?_ r p;unfold xj;cases b:e.items.find? (λx=>x.num==W.reg)with
   |none=>exact .inl rfl
   | some x =>
    obtain⟨k,f⟩:=List.getElem?_of_mem (List.mem_of_find?_eq_some b);exact .inr ⟨k,x,f,rfl⟩
theorem zgn{W:RW}{s:ByteArray}(f:(yv s).1=0)(b:szR (zy s).es (zy s).es.length<=1000):∃k,k<=(cpX s).length/\Xx W (cpX s) ⟨⟨0,false⟩,[],86400,0⟩ k ((mnN W (zy s).es (zy s).es.length).sv,Yj (mnN W (zy s).es (zy s).es.length).ttl 86400,nar (mnN W (zy s).es (zy s).es.length).sc 0):=by
 obtain⟨d,e⟩:=jW f;have a:(zy s).es.length-1+1=(zy s).es.length:=Nat.sub_add_cancel d;have:=ze7 (W:=W) e (by rw[a];exact b) (cpX s) 0 86400 0 (by rw[a];intro i x c;rw[Nat.zero_add];exact c) ol ol
 rw[a]at this;exact this
end Go.Proofs.YtaebngpoagjafabGreat
