import Derived.Test.YtaebngpoagjafabGreatU24
set_option maxRecDepth 100000
namespace Go.Proofs.YtaebngpoagjafabGreat
def xW (W:RW) (C:List Int) (s:RT) (k:Nat) (R:List Int×Int×Int):Prop:=1<=k/\(∀ f,f<k->xG W C f s=(11,[],0,0))/\∀ f,k<=f->xG W C f s=(0,R)
theorem Xc {W:RW} {C:List Int} {s t:RT} (h:zE W C s=(t,true)) (hb:t.r.b=false):xW W C s 1 (t.sv,t.ttl,t.sc):=by
 refine ⟨Nat.le_refl _,fun f hf=>?_,fun f hf=>?_⟩
 ·have:f=0:=by omega
  subst this;rfl
 ·obtain ⟨f,rfl⟩:∃ g,f=g+1:=⟨f-1,by omega⟩
  simp only [xG,h,hb]
  rfl
theorem Z3 {W:RW} {C:List Int} {s t:RT} {k:Nat} {R:List Int×Int×Int} (h:zE W C s=(t,false)) (hb:t.r.b=false) (hr:xW W C t k R):xW W C s (k+1) R:=by
 obtain ⟨e,d,a⟩:=hr
 refine ⟨by omega,fun f hf=>?_,fun f hf=>?_⟩
 ·cases f with
  | zero=>rfl
  | succ f =>
   simp only [xG,h,hb]
   exact d f (by omega)
 ·obtain ⟨f,rfl⟩:∃ g,f=g+1:=⟨f-1,by omega⟩
  simp only [xG,h,hb]
  exact a f (by omega)
def Z8 (a b:Int):Int:=if a<b then a else b
theorem zeF {W:RW} {C:List Int} {p:Nat} {K:List (List Int)} {e:EX} (hk:e.kind=123\/e.kind=102) (h2:(yp e).length=2) (hr:∀ x∈e.items,0<=x.num/\x.num<=63) (h:ZJ C p (zq K e e.items.length)) :
 ∀ n i,i+n=e.items.length->match chG W C ⟨p+2,false⟩ i n with
  | some k=>k<e.items.length/\∃ x,e.items[k]?=some x/\(e.items.drop i).find? (fun x=>upW W x.num)=some x
  | none=>(e.items.drop i).find? (fun x=>upW W x.num)=none:=by
 intro n
 induction n with
 | zero =>
  intro i g
  simp only [chG]
  rw [List.drop_eq_nil_of_le (by omega)];rfl
 | succ n ih =>
  intro i g
  obtain ⟨x,b⟩:∃ x,e.items[i]?=some x:=⟨e.items[i],List.getElem?_eq_getElem (by omega)⟩
  have l:=(QS hk h2 hr h i (by omega)).2.2 x b
  have f:e.items.drop i=x::e.items.drop (i+1):=by
   rw [List.drop_eq_getElem_cons (by omega)]
   have:=(List.getElem?_eq_some_iff.1 b).2
   rw [this]
  simp only [chG,l]
  rw [f]
  by_cases a:upW W x.num=true
  ·rw [if_pos a]
   exact ⟨by omega,x,b,by simp [a]⟩
  ·rw [if_neg a]
   have j:=ih (i+1) (by omega)
   simp only [List.find?_cons]
   have d:upW W x.num=false:=by simpa using a
   rw [d]
   exact j
theorem zd6 {W:RW} {C:List Int} {p:Nat} {K:List (List Int)} {e:EX} (hk:e.kind=103) (h2:(yp e).length=2) (hr:∀ x∈e.items,0<=x.num/\x.num<=99) (hw:(zg K e e.items.length).length<=32000) (h:ZJ C p (zq K e e.items.length)) (hone:∀ (a b:Nat) (x y:IM),e.items[a]?=some x->e.items[b]?=some y->x.num=y.num->a=b) :
 (∃ (k:Nat) (x:IM),e.items[k]?=some x/\e.items.find? (fun x=>x.num==W.reg)=some x/\rgT W C ⟨p+2,false⟩ e.items.length=((zg K e k).length:Int))\/(e.items.find? (fun x=>x.num==W.reg)=none/\rgT W C ⟨p+2,false⟩ e.items.length=0):=by
 have j:=fun i r=>(zag hk h2 hr hw h i r).2
 cases hf:e.items.find? (fun x=>x.num==W.reg) with
 | none =>
  right
  refine ⟨rfl,?_⟩
  have o:∀ x∈e.items,¬ x.num=W.reg:=fun x m=>by
   have:=List.find?_eq_none.1 hf x m
   simpa using this
  have:∀ i,i<=e.items.length->rgT W C ⟨p+2,false⟩ i=0:=by
   intro i
   induction i with
   | zero=>intro _;rfl
   | succ i ih =>
    intro r
    obtain ⟨x,m⟩:∃ x,e.items[i]?=some x:=⟨e.items[i],List.getElem?_eq_getElem (by omega)⟩
    have n:=j i (by omega) x m
    simp only [rgT,n.1]
    rw [if_neg (o x (List.mem_of_getElem? m))]
    exact ih (by omega)
  exact this _ (Nat.le_refl _)
 | some x =>
  left
  have u:=List.mem_of_find?_eq_some hf
  have g:x.num=W.reg:=by have:=List.find?_some hf;simpa using this
  obtain ⟨k,f⟩:=List.getElem?_of_mem u
  refine ⟨k,x,f,rfl,?_⟩
  have q:k<e.items.length:=(List.getElem?_eq_some_iff.1 f).1
  have:∀ i,i<=e.items.length->rgT W C ⟨p+2,false⟩ i=if k<i then ((zg K e k).length:Int) else 0:=by
   intro i
   induction i with
   | zero=>intro _;simp [rgT]
   | succ i ih =>
    intro r
    obtain ⟨y,l⟩:∃ y,e.items[i]?=some y:=⟨e.items[i],List.getElem?_eq_getElem (by omega)⟩
    have n:=j i (by omega) y l
    simp only [rgT,n.1]
    by_cases d:y.num=W.reg
    ·have:i=k:=hone i k y x l f (by rw [d,g])
     subst this
     rw [if_pos d,if_pos (by omega),n.2]
    ·rw [if_neg d,ih (by omega)]
     have:i≠k:=fun e'=>by subst e';rw [f] at l;cases l;exact d g
     by_cases s:k<i
     ·rw [if_pos s,if_pos (by omega)]
     ·rw [if_neg s,if_neg (by omega)]
  rw [this _ (Nat.le_refl _),if_pos q]
theorem zd4 {W:RW} {E:List EX} {j:Nat} (h:GD E j):szR E (j+1)<=1000->∀ (C:List Int) (p:Nat) (ttl sc:Int),ZJ C p (yh E (j+1))->ttl<=86400->0<=sc ->
 ∃ k,k<=(yh E (j+1)).length/\xW W C ⟨⟨p,false⟩,[],ttl,sc⟩ k ((mnN W E (j+1)).sv,Z8 (mnN W E (j+1)).ttl ttl,nar (mnN W E (j+1)).sc sc):=by
 induction h with
 | @servers j e he hk h0 h16 hit hin =>
  intro v C p ttl sc o I O
  have q:mnN W E (j+1)=⟨e.items.map IM.num,86400,0⟩:=by simp only [mnN,he,mnE];rw [if_pos hk]
  have r:yh E (j+1)=zq (zT E j) e e.items.length++zg (zT E j) e e.items.length:=by simp only [yh,he,YL];rw [if_neg (by omega)]
  rw [r] at o ⊢
  obtain ⟨A,z,S,R,J⟩:=JR (.inl hk) h0 h16 (XL o.left)
  have l:=QS (K:=zT E j) (.inl hk) J (fun x m=>⟨(hit x m).1,(hit x m).2.1⟩) o.left e.items.length (Nat.le_refl _)
  have f:zE W C ⟨⟨p,false⟩,[],ttl,sc⟩=(⟨⟨p+(zq (zT E j) e e.items.length).length,false⟩,e.items.map IM.num,ttl,sc⟩,true):=by
   simp only [zE,A,hk,z,ZC,S,R,l.1,l.2.1]
   simp [List.take_of_length_le]
  have hl:=yW (zT E j) e e.items.length
  refine ⟨1,by rw [List.length_append];omega,?_⟩
  have H:=Xc f rfl
  rw [q]
  have Q:Z8 86400 ttl=ttl:=by unfold Z8;rw [if_neg (by omega)]
  have Z:nar 0 sc=sc:=by unfold nar;rw [if_neg (by omega)]
  simp only [Q,Z]
  exact H
 | @alias j e he hk h0 h15 hit hin =>
  intro v C p ttl sc o I O
  have q:mnN W E (j+1)=⟨(W.al[e.nv.toNat]?).getD [],86400,0⟩:=by simp only [mnN,he,mnE];rw [if_neg (by omega),if_pos hk]
  have r:yh E (j+1)=z6 e.kind 1++z6 e.nv 1++atL (zT E j) e.inner:=by
   simp only [yh,he,YL]
   rw [if_neg (by omega),hit]
   simp only [List.length_nil,zq,zg,yp]
   rw [if_neg (by omega),if_pos hk]
  rw [r] at o ⊢
  have s1:=o.left.left
  have U:=o.left.right
  rw [zF] at U
  have b1:=Ze (b:=false) (by decide) s1 (by omega) (by rw [Zf];omega)
  have b2:=(Ze (b:=false) (by decide) U h0 (by rw [Zf];omega)).2
  have b3:=Z7 (b:=false) (lo:=0) (hi:=15) (by decide) U h0 (by rw [Zf];omega) h0 h15
  have A:nxV C ⟨p,false⟩=e.kind:=by have:=b1.2;simpa [rdN,Zs,yV] using this
  have z:nx C ⟨p,false⟩=⟨p+1,false⟩:=b1.1
  have f:zE W C ⟨⟨p,false⟩,[],ttl,sc⟩=(⟨⟨p+1+1,false⟩,(W.al[e.nv.toNat]?).getD [],ttl,sc⟩,true):=by
   simp only [zE,A,hk,z,ZY,b2,b3]
   simp
  refine ⟨1,by simp [List.length_append,zF],?_⟩
  have H:=Xc f rfl
  rw [q]
  have Q:Z8 86400 ttl=ttl:=by unfold Z8;rw [if_neg (by omega)]
  have Z:nar 0 sc=sc:=by unfold nar;rw [if_neg (by omega)]
  simp only [Q,Z]
  exact H
 | @name j i e he hk hit hin hij _ ih =>
  intro v C p ttl sc o I O
  have P:=Yn he v
  have s:szR E (i+1)<=1000:=by
   have:=P.2.1
   rw [hin,xU,if_neg (by omega),if_pos (by omega),Int.toNat_natCast] at this
   exact this
  have q:mnN W E (j+1)=mnN W E (i+1):=by simp only [mnN,he,mnE];rw [if_neg (by omega),if_neg (by omega),if_pos hk,hin,yu W E hij];rfl
  have r:yh E (j+1)=yh E (i+1):=by simp only [yh,he,YL];rw [if_pos hk,hin,YR E hij];rfl
  rw [q,r]
  rw [r] at o
  exact ih s C p ttl sc o I O
 | @ttl j i e he hk h1 h2 hit hin hij _ ih =>
  intro v C p ttl sc o I O
  have P:=Yn he v
  have s:szR E (i+1)<=1000:=by
   have:=P.2.1
   rw [hin,xU,if_neg (by omega),if_pos (by omega),Int.toNat_natCast] at this
   exact this
  have q:mnN W E (j+1)=⟨(mnN W E (i+1)).sv,if e.nv<(mnN W E (i+1)).ttl then e.nv else (mnN W E (i+1)).ttl,(mnN W E (i+1)).sc⟩:=by
   rw [<- yu W E hij,<- hin]
   simp only [mnN,he,mnE];rw [if_neg (by omega),if_neg (by omega),if_neg (by omega),if_pos hk]
  have r:yh E (j+1)=z6 e.kind 1++z6 e.nv 3++yh E (i+1):=by
   rw [<- YR E hij,<- hin]
   simp only [yh,he,YL]
   rw [if_neg (by omega),hit]
   simp only [List.length_nil,zq,zg,yp]
   rw [if_pos hk]
  rw [r] at o ⊢
  have s1:=o.left.left
  have U:=o.left.right
  have N:=o.right
  rw [zF] at U
  rw [List.length_append,zF,zF] at N
  have b1:=Ze (b:=false) (by decide) s1 (by omega) (by rw [Zf];omega)
  have b2:=(Ze (b:=false) (by decide) U (by omega) (by rw [zcB];omega)).2
  have b3:=Z7 (b:=false) (lo:=1) (hi:=86400) (by decide) U (by omega) (by rw [zcB];omega) h1 h2
  have A:nxV C ⟨p,false⟩=e.kind:=by have:=b1.2;simpa [rdN,Zs,yV] using this
  have z:nx C ⟨p,false⟩=⟨p+1,false⟩:=b1.1
  have f:zE W C ⟨⟨p,false⟩,[],ttl,sc⟩=(⟨⟨p+(1+3),false⟩,[],if e.nv<ttl then e.nv else ttl,sc⟩,false):=by
   simp only [zE,A,hk,z,yI,b2,b3]
   simp [Nat.add_assoc]
  obtain ⟨k,u,g⟩:=ih s C (p+(1+3)) (if e.nv<ttl then e.nv else ttl) sc N (by split<;>omega) O
  refine ⟨k+1,by simp only [List.length_append,zF];omega,?_⟩
  have H:=Z3 f rfl g
  rw [q]
  have Q:Z8 (mnN W E (i+1)).ttl (if e.nv<ttl then e.nv else ttl)=Z8 (if e.nv<(mnN W E (i+1)).ttl then e.nv else (mnN W E (i+1)).ttl) ttl:=by
   unfold Z8
   repeat' split
   all_goals omega
  rw [Q] at H
  exact H
 | @list j i e he hk h0 h16 hit hin hij _ ih =>
  intro v C p ttl sc o I O
  have P:=Yn he v
  have s:szR E (i+1)<=1000:=by
   have:=P.2.1
   rw [hin,xU,if_neg (by omega),if_pos (by omega),Int.toNat_natCast] at this
   exact this
  have r:yh E (j+1)=zq (zT E j) e e.items.length++zg (zT E j) e e.items.length:=by simp only [yh,he,YL];rw [if_neg (by omega)]
  rw [r] at o ⊢
  have N:=qU o.right
  rw [hin,YR E hij] at N
  have B:=Zc (zT E j) e e.items.length 0 (Nat.zero_le _)
  simp only [zg] at B
  rw [hin,YR E hij] at B
  obtain ⟨A,z,S,R,J⟩:=JR (C:=C) (p:=p) (by omega) h0 h16 (XL o.left)
  have hl:=yW (zT E j) e e.items.length
  have Q:Z8 86400 ttl=ttl:=by unfold Z8;rw [if_neg (by omega)]
  have Z:nar 0 sc=sc:=by unfold nar;rw [if_neg (by omega)]
  obtain ⟨k,u,g⟩:=ih s C (p+(zq (zT E j) e e.items.length).length) ttl sc N I O
  rcases hk with hk | hk
  ·have l:=zem (W:=W) (K:=zT E j) hk J (fun x m=>⟨(hit x m).1,(hit x m).2.1,(hit x m).2.2.2 hk⟩) o.left e.items.length (Nat.le_refl _)
   rw [List.take_of_length_le (Nat.le_refl _)] at l
   have q:mnN W E (j+1)=(match Z5 W e.items with | some x=>⟨[x],86400,0⟩ | none=>mnN W E (i+1)):=by
    rw [<- yu W E hij,<- hin]
    simp only [mnN,he,mnE];rw [if_neg (by omega),if_neg (by omega),if_neg (by omega),if_neg (by omega),if_pos hk]<;>rfl
   have f:zE W C ⟨⟨p,false⟩,[],ttl,sc⟩=(match Z5 W e.items with | some x=>(⟨⟨p+(zq (zT E j) e e.items.length).length,false⟩,[x],ttl,sc⟩,true) | none=>(⟨⟨p+(zq (zT E j) e e.items.length).length,false⟩,[],ttl,sc⟩,false)):=by
    simp only [zE,A,hk,z,Zu,S,R,l.1,l.2,Z5]
    simp only [show ((119:Int)=123)=False from by simp,if_false,if_true]
    by_cases w:suL (mbL W e.items)<=0
    ·rw [if_pos w,if_pos w]
    ·rw [if_neg w,if_neg w]
     cases pkL (mbL W e.items) (W.draw%suL (mbL W e.items))<;>simp
   cases hq:Z5 W e.items with
   | some x =>
    rw [hq] at f q
    refine ⟨1,by rw [List.length_append];omega,?_⟩
    have H:=Xc f rfl
    rw [q]
    simp only [Q,Z]
    exact H
   | none =>
    rw [hq] at f q
    refine ⟨k+1,by rw [List.length_append];omega,?_⟩
    rw [q]
    exact Z3 f rfl g
  ·have D:∀ x∈e.items,0<=x.num/\x.num<=63:=fun x m=>⟨(hit x m).1,(hit x m).2.1⟩
   have l:=QS (K:=zT E j) (.inr hk) J D o.left
   have G:=zeF (W:=W) (K:=zT E j) (.inr hk) J D o.left e.items.length 0 (by omega)
   rw [List.drop_zero] at G
   have q:mnN W E (j+1)=(match yP W e.items with | some x=>⟨[x],86400,0⟩ | none=>mnN W E (i+1)):=by
    rw [<- yu W E hij,<- hin]
    simp only [mnN,he,mnE];rw [if_neg (by omega),if_neg (by omega),if_neg (by omega),if_neg (by omega),if_neg (by omega),if_pos hk]<;>rfl
   cases hq:chG W C ⟨p+2,false⟩ 0 e.items.length with
   | some n =>
    rw [hq] at G
    obtain ⟨Y,x,m,b6⟩:=G
    have h6:=l n (by omega)
    have h7:=l (n+1) (by omega)
    have f:zE W C ⟨⟨p,false⟩,[],ttl,sc⟩=(⟨⟨p+(zq (zT E j) e (n+1)).length,false⟩,[x.num],ttl,sc⟩,true):=by
     simp only [zE,A,hk,z,yS,S,R,hq,h7.1,h6.2.2 x m]
     simp
    have X:yP W e.items=some x.num:=by unfold yP;rw [b6];rfl
    rw [X] at q
    refine ⟨1,by rw [List.length_append];omega,?_⟩
    have H:=Xc f rfl
    rw [q]
    simp only [Q,Z]
    exact H
   | none =>
    rw [hq] at G
    have h7:=l e.items.length (Nat.le_refl _)
    have f:zE W C ⟨⟨p,false⟩,[],ttl,sc⟩=(⟨⟨p+(zq (zT E j) e e.items.length).length,false⟩,[],ttl,sc⟩,false):=by
     simp only [zE,A,hk,z,yS,S,R,hq,h7.1]
     simp
    have X:yP W e.items=none:=by unfold yP;rw [G];rfl
    rw [X] at q
    refine ⟨k+1,by rw [List.length_append];omega,?_⟩
    rw [q]
    exact Z3 f rfl g
 | @maps j i e an he hk h0 h16 hit h103 h109 harm _ hin hij _ iha ih =>
  intro v C p ttl sc o I O
  have P:=Yn he v
  have s:szR E (i+1)<=1000:=by
   have:=P.2.1
   rw [hin,xU,if_neg (by omega),if_pos (by omega),Int.toNat_natCast] at this
   exact this
  have a6:∀ (n:Nat) (x:IM),e.items[n]?=some x->szR E (an n+1)<=1000:=fun n x m=>by
   have:=P.2.2.1 n x m
   have w:=harm n x m
   rw [w.1,xU,if_neg (by omega),if_pos (by omega),Int.toNat_natCast] at this
   exact this
  have a9:=JY E (j+1) v
  have r:yh E (j+1)=zq (zT E j) e e.items.length++zg (zT E j) e e.items.length:=by simp only [yh,he,YL];rw [if_neg (by omega)]
  rw [r] at o a9 ⊢
  rw [List.length_append] at a9
  have hw:(zg (zT E j) e e.items.length).length<=32000:=by omega
  have N:=qU o.right
  rw [hin,YR E hij] at N
  have B:=Zc (zT E j) e e.items.length 0 (Nat.zero_le _)
  simp only [zg] at B
  rw [hin,YR E hij] at B
  obtain ⟨A,z,S,R,J⟩:=JR (C:=C) (p:=p) (by omega) h0 h16 (XL o.left)
  have hl:=yW (zT E j) e e.items.length
  have a8:∀ a b c:Int,nar a (nar b c)=nar (nar b a) c:=by
   intro a b c
   unfold nar
   repeat' split
   all_goals omega
  have a7:∀ d:Int,0<=nar d sc:=by intro d;unfold nar;split<;>omega
  -- the arm number n
  have b0:∀ (n:Nat) (x:IM) (d:Int),e.items[n]?=some x->∃ k,k+1<=(zq (zT E j) e e.items.length).length+(zg (zT E j) e e.items.length).length/\xW W C ⟨⟨p+(zq (zT E j) e e.items.length).length+(zg (zT E j) e n).length,false⟩,[],ttl,nar d sc⟩ k ((mnN W E (an n+1)).sv,Z8 (mnN W E (an n+1)).ttl ttl,nar (nar d (mnN W E (an n+1)).sc) sc):=by
   intro n x d m
   have F:n<e.items.length:=(List.getElem?_eq_some_iff.1 m).1
   have w:=harm n x m
   have s4:=zdA o.right m
   rw [w.1,YR E w.2] at s4
   obtain ⟨k,u,g⟩:=iha n F (a6 n x m) C _ ttl (nar d sc) s4 I (a7 d)
   rw [a8] at g
   have a0:=Zc (zT E j) e e.items.length (n+1) F
   simp only [zg,m,List.length_append] at a0
   rw [w.1,YR E w.2] at a0
   exact ⟨k,by omega,g⟩
  have b4:∀ d:Int,∃ k,k+1<=(zq (zT E j) e e.items.length).length+(zg (zT E j) e e.items.length).length/\xW W C ⟨⟨p+(zq (zT E j) e e.items.length).length,false⟩,[],ttl,nar d sc⟩ k ((mnN W E (i+1)).sv,Z8 (mnN W E (i+1)).ttl ttl,nar (nar d (mnN W E (i+1)).sc) sc):=by
   intro d
   obtain ⟨k,u,g⟩:=ih s C _ ttl (nar d sc) N I (a7 d)
   rw [a8] at g
   exact ⟨k,by omega,g⟩
  rcases hk with hk | hk
  ·have l:=zeU (K:=zT E j) hk J (fun x m=>(hit x m).1 hk) hw o.left
   have b5:=Xw (a:=W.addr) e.items.length (fun n Y=>⟨((l n (by omega)).2 Y).1,((l n (by omega)).2 Y).2.1⟩)
   have q:mnN W E (j+1)=⟨(atM (mnK W E j) (ZB W e)).sv,(atM (mnK W E j) (ZB W e)).ttl,nar (M.depTo (itV e) (itL e) W.addr e.items.length) (atM (mnK W E j) (ZB W e)).sc⟩:=by
    simp only [mnN,he,mnE];rw [if_neg (by omega),if_neg (by omega),if_neg (by omega),if_neg (by omega),if_neg (by omega),if_neg (by omega),if_pos hk]
   have f:zE W C ⟨⟨p,false⟩,[],ttl,sc⟩=(⟨⟨p+(zq (zT E j) e e.items.length).length+(if M.bestTo (itV e) (itL e) W.addr e.items.length<0 then 0 else (arW C ⟨p+2,false⟩ (M.bestTo (itV e) (itL e) W.addr e.items.length).toNat).toNat),false⟩,[],ttl,nar (M.depTo (itV e) (itL e) W.addr e.items.length) sc⟩,false):=by
    simp only [zE,A,hk,z,yy,S,R,(l e.items.length (Nat.le_refl _)).1,b5.1,b5.2.2]
    simp
   have b7:=jn (V:=itV e) (L:=itL e) (a:=W.addr) e.items.length
   by_cases hb:M.bestTo (itV e) (itL e) W.addr e.items.length<0
   ·rw [if_pos hb] at f
    have y:ZB W e=(i:Int):=by unfold ZB;rw [if_pos hb,hin]
    rw [y,yu W E hij] at q
    obtain ⟨k,u,g⟩:=b4 (M.depTo (itV e) (itL e) W.addr e.items.length)
    refine ⟨k+1,by rw [List.length_append];exact u,?_⟩
    rw [q]
    exact Z3 f rfl g
   ·rw [if_neg hb] at f
    obtain ⟨n,Y⟩:∃ n:Nat,M.bestTo (itV e) (itL e) W.addr e.items.length=n:=⟨(M.bestTo (itV e) (itL e) W.addr e.items.length).toNat,by omega⟩
    rw [Y,Int.toNat_natCast] at f
    have F:n<e.items.length:=by omega
    obtain ⟨x,m⟩:∃ x,e.items[n]?=some x:=⟨e.items[n],List.getElem?_eq_getElem F⟩
    have w:=harm n x m
    have y:ZB W e=(an n:Int):=by unfold ZB;rw [if_neg hb,Y,Int.toNat_natCast,m];exact w.1
    rw [y,yu W E w.2] at q
    rw [((l n (by omega)).2 F).2.2,Int.toNat_natCast] at f
    obtain ⟨k,u,g⟩:=b0 n x (M.depTo (itV e) (itL e) W.addr e.items.length) m
    refine ⟨k+1,by rw [List.length_append];exact u,?_⟩
    rw [q]
    exact Z3 f rfl g
  ·have D:∀ x∈e.items,0<=x.num/\x.num<=99:=fun x m=>(hit x m).2 hk
   have l:=zag (K:=zT E j) hk J D hw o.left
   have q:mnN W E (j+1)=⟨(atM (mnK W E j) (YV W e)).sv,(atM (mnK W E j) (YV W e)).ttl,nar W.dep (atM (mnK W E j) (YV W e)).sc⟩:=by
    simp only [mnN,he,mnE];rw [if_neg (by omega),if_neg (by omega),if_neg (by omega),if_neg (by omega),if_neg (by omega),if_neg (by omega),if_neg (by omega)]
   have f:zE W C ⟨⟨p,false⟩,[],ttl,sc⟩=(⟨⟨p+(zq (zT E j) e e.items.length).length+(rgT W C ⟨p+2,false⟩ e.items.length).toNat,false⟩,[],ttl,nar W.dep sc⟩,false):=by
    simp only [zE,A,hk,z,Zo,S,R,(l e.items.length (Nat.le_refl _)).1]
    simp
   rcases zd6 (W:=W) (K:=zT E j) hk J D hw o.left (h103 hk) with ⟨n,x,m,hf,hway⟩ | ⟨hf,hway⟩
   ·have w:=harm n x m
    have y:YV W e=(an n:Int):=by unfold YV;rw [hf];exact w.1
    rw [y,yu W E w.2] at q
    rw [hway,Int.toNat_natCast] at f
    obtain ⟨k,u,g⟩:=b0 n x W.dep m
    refine ⟨k+1,by rw [List.length_append];exact u,?_⟩
    rw [q]
    exact Z3 f rfl g
   ·have y:YV W e=(i:Int):=by unfold YV;rw [hf];exact hin
    rw [y,yu W E hij] at q
    rw [hway] at f
    obtain ⟨k,u,g⟩:=b4 W.dep
    refine ⟨k+1,by rw [List.length_append];exact u,?_⟩
    rw [q]
    exact Z3 f rfl g
end Go.Proofs.YtaebngpoagjafabGreat
