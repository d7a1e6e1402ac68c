import Derived.Test.YtaebngpoagjafaaJ19
set_option maxRecDepth 100000
namespace Go.Proofs.Ytaebngpoagjafaa
def Z5 (W:RW) (C:List Int) (s:RT) (k:Nat) (R:List Int×Int×Int):Prop:=1<=k/\(∀ f,f<k->ZV W C f s=(11,[],0,0))/\∀ f,k<=f->ZV W C f s=(0,R)
theorem Z7 {W:RW} {C:List Int} {s t:RT} (h:zv W C s=(t,true)) (hb:t.r.b=false):Z5 W C s 1 (t.sv,t.ttl,t.sc):=by
 refine ⟨Nat.le_refl _,fun f hf=>?_,fun f hf=>?_⟩
 ·have:f=0:=by omega
  subst this;rfl
 ·obtain ⟨f,rfl⟩:∃ g,f=g+1:=⟨f-1,by omega⟩
  simp only [ZV,h,hb]
  rfl
theorem yU {W:RW} {C:List Int} {s t:RT} {k:Nat} {R:List Int×Int×Int} (h:zv W C s=(t,false)) (hb:t.r.b=false) (hr:Z5 W C t k R):Z5 W C s (k+1) R:=by
 obtain ⟨h0,h1,h2⟩:=hr
 refine ⟨by omega,fun f hf=>?_,fun f hf=>?_⟩
 ·cases f with
  | zero=>rfl
  | succ f =>
   simp only [ZV,h,hb]
   exact h1 f (by omega)
 ·obtain ⟨f,rfl⟩:∃ g,f=g+1:=⟨f-1,by omega⟩
  simp only [ZV,h,hb]
  exact h2 f (by omega)
def y9 (a b:Int):Int:=if a<b then a else b
theorem Js {W:RW} {C:List Int} {p:Nat} {K:List (List Int)} {e:EX} (hk:e.kind=123\/e.kind=102) (h2:(zT e).length=2) (hr:∀ x∈e.items,0<=x.num/\x.num<=63) (h:yL C p (zg K e e.items.length)) :
 ∀ n i,i+n=e.items.length->match chG W C ⟨p+2,false⟩ i n with
  | some k=>k<e.items.length/\∃ x,e.items[k]?=some x/\(e.items.drop i).find? (fun x=>upW W x.num)=some x
  | none=>(e.items.drop i).find? (fun x=>upW W x.num)=none:=by
 intro n
 induction n with
 | zero =>
  intro i hi
  simp only [chG]
  rw [List.drop_eq_nil_of_le (by omega)];rfl
 | succ n ih =>
  intro i hi
  obtain ⟨x,hx⟩:∃ x,e.items[i]?=some x:=⟨e.items[i],List.getElem?_eq_getElem (by omega)⟩
  have h3:=(xN hk h2 hr h i (by omega)).2.2 x hx
  have hdr:e.items.drop i=x::e.items.drop (i+1):=by
   rw [List.drop_eq_getElem_cons (by omega)]
   have:=(List.getElem?_eq_some_iff.1 hx).2
   rw [this]
  simp only [chG,h3]
  rw [hdr]
  by_cases hu:upW W x.num=true
  ·rw [if_pos hu]
   exact ⟨by omega,x,hx,by simp [hu]⟩
  ·rw [if_neg hu]
   have h4:=ih (i+1) (by omega)
   simp only [List.find?_cons]
   have hu2:upW W x.num=false:=by simpa using hu
   rw [hu2]
   exact h4
theorem j1 {W:RW} {C:List Int} {p:Nat} {K:List (List Int)} {e:EX} (hk:e.kind=103) (h2:(zT e).length=2) (hr:∀ x∈e.items,0<=x.num/\x.num<=99) (hw:(ze K e e.items.length).length<=32000) (h:yL C p (zg K e e.items.length)) (hone:∀ (a b:Nat) (x y:IM),e.items[a]?=some x->e.items[b]?=some y->x.num=y.num->a=b) :
 (∃ (k:Nat) (x:IM),e.items[k]?=some x/\e.items.find? (fun x=>x.num==W.reg)=some x/\rgT W C ⟨p+2,false⟩ e.items.length=((ze K e k).length:Int))\/(e.items.find? (fun x=>x.num==W.reg)=none/\rgT W C ⟨p+2,false⟩ e.items.length=0):=by
 have hrd:=fun i hi=>(qv hk h2 hr hw h i hi).2
 cases hf:e.items.find? (fun x=>x.num==W.reg) with
 | none =>
  right
  refine ⟨rfl,?_⟩
  have hno:∀ x∈e.items,¬ x.num=W.reg:=fun x hx=>by
   have:=List.find?_eq_none.1 hf x hx
   simpa using this
  have:∀ i,i<=e.items.length->rgT W C ⟨p+2,false⟩ i=0:=by
   intro i
   induction i with
   | zero=>intro _;rfl
   | succ i ih =>
    intro hi
    obtain ⟨x,hx⟩:∃ x,e.items[i]?=some x:=⟨e.items[i],List.getElem?_eq_getElem (by omega)⟩
    have h3:=hrd i (by omega) x hx
    simp only [rgT,h3.1]
    rw [if_neg (hno x (List.mem_of_getElem? hx))]
    exact ih (by omega)
  exact this _ (Nat.le_refl _)
 | some x =>
  left
  have hm:=List.mem_of_find?_eq_some hf
  have hreg:x.num=W.reg:=by have:=List.find?_some hf;simpa using this
  obtain ⟨k,hk2⟩:=List.getElem?_of_mem hm
  refine ⟨k,x,hk2,rfl,?_⟩
  have hkl:k<e.items.length:=(List.getElem?_eq_some_iff.1 hk2).1
  have:∀ i,i<=e.items.length->rgT W C ⟨p+2,false⟩ i=if k<i then ((ze K e k).length:Int) else 0:=by
   intro i
   induction i with
   | zero=>intro _;simp [rgT]
   | succ i ih =>
    intro hi
    obtain ⟨y,hy⟩:∃ y,e.items[i]?=some y:=⟨e.items[i],List.getElem?_eq_getElem (by omega)⟩
    have h3:=hrd i (by omega) y hy
    simp only [rgT,h3.1]
    by_cases hyr:y.num=W.reg
    ·have:i=k:=hone i k y x hy hk2 (by rw [hyr,hreg])
     subst this
     rw [if_pos hyr,if_pos (by omega),h3.2]
    ·rw [if_neg hyr,ih (by omega)]
     have:i≠k:=fun e'=>by subst e';rw [hk2] at hy;cases hy;exact hyr hreg
     by_cases h4:k<i
     ·rw [if_pos h4,if_pos (by omega)]
     ·rw [if_neg h4,if_neg (by omega)]
  rw [this _ (Nat.le_refl _),if_pos hkl]
theorem jY {W:RW} {E:List EX} {j:Nat} (h:GD E j):szR E (j+1)<=1000->∀ (C:List Int) (p:Nat) (ttl sc:Int),yL C p (zN E (j+1))->ttl<=86400->0<=sc ->
 ∃ k,k<=(zN E (j+1)).length/\Z5 W C ⟨⟨p,false⟩,[],ttl,sc⟩ k ((mnN W E (j+1)).sv,y9 (mnN W E (j+1)).ttl ttl,nar (mnN W E (j+1)).sc sc):=by
 induction h with
 | @servers j e he hk h0 h16 hit hin =>
  intro hsz C p ttl sc hS ht hs
  have hm:mnN W E (j+1)=⟨e.items.map IM.num,86400,0⟩:=by simp only [mnN,he,mnE];rw [if_pos hk]
  have hen:zN E (j+1)=zg (zF E j) e e.items.length++ze (zF E j) e e.items.length:=by simp only [zN,he,Zq];rw [if_neg (by omega)]
  rw [hen] at hS ⊢
  obtain ⟨a1,a2,a3,a4,a5⟩:=qf (.inl hk) h0 h16 (Yr hS.left)
  have hrd:=xN (K:=zF E j) (.inl hk) a5 (fun x hx=>⟨(hit x hx).1,(hit x hx).2.1⟩) hS.left e.items.length (Nat.le_refl _)
  have hst:zv W C ⟨⟨p,false⟩,[],ttl,sc⟩=(⟨⟨p+(zg (zF E j) e e.items.length).length,false⟩,e.items.map IM.num,ttl,sc⟩,true):=by
   simp only [zv,a1,hk,a2,yG,a3,a4,hrd.1,hrd.2.1]
   simp [List.take_of_length_le]
  have hl:=yj (zF E j) e e.items.length
  refine ⟨1,by rw [List.length_append];omega,?_⟩
  have h9:=Z7 hst rfl
  rw [hm]
  have e1:y9 86400 ttl=ttl:=by unfold y9;rw [if_neg (by omega)]
  have e2:nar 0 sc=sc:=by unfold nar;rw [if_neg (by omega)]
  simp only [e1,e2]
  exact h9
 | @alias j e he hk h0 h15 hit hin =>
  intro hsz C p ttl sc hS ht hs
  have hm:mnN W E (j+1)=⟨(W.al[e.nv.toNat]?).getD [],86400,0⟩:=by simp only [mnN,he,mnE];rw [if_neg (by omega),if_pos hk]
  have hen:zN E (j+1)=zJ e.kind 1++zJ e.nv 1++atL (zF E j) e.inner:=by
   simp only [zN,he,Zq]
   rw [if_neg (by omega),hit]
   simp only [List.length_nil,zg,ze,zT]
   rw [if_neg (by omega),if_pos hk]
  rw [hen] at hS ⊢
  have s1:=hS.left.left
  have s2:=hS.left.right
  rw [zw] at s2
  have b1:=yt (b:=false) (by decide) s1 (by omega) (by rw [yu];omega)
  have b2:=(yt (b:=false) (by decide) s2 h0 (by rw [yu];omega)).2
  have b3:=yV (b:=false) (lo:=0) (hi:=15) (by decide) s2 h0 (by rw [yu];omega) h0 h15
  have a1:nxV C ⟨p,false⟩=e.kind:=by have:=b1.2;simpa [rdN,yy,yi] using this
  have a2:nx C ⟨p,false⟩=⟨p+1,false⟩:=b1.1
  have hst:zv W C ⟨⟨p,false⟩,[],ttl,sc⟩=(⟨⟨p+1+1,false⟩,(W.al[e.nv.toNat]?).getD [],ttl,sc⟩,true):=by
   simp only [zv,a1,hk,a2,yQ,b2,b3]
   simp
  refine ⟨1,by simp [List.length_append,zw],?_⟩
  have h9:=Z7 hst rfl
  rw [hm]
  have e1:y9 86400 ttl=ttl:=by unfold y9;rw [if_neg (by omega)]
  have e2:nar 0 sc=sc:=by unfold nar;rw [if_neg (by omega)]
  simp only [e1,e2]
  exact h9
 | @name j i e he hk hit hin hij _ ih =>
  intro hsz C p ttl sc hS ht hs
  have hp:=Za he hsz
  have hszi:szR E (i+1)<=1000:=by
   have:=hp.2.1
   rw [hin,Z4,if_neg (by omega),if_pos (by omega),Int.toNat_natCast] at this
   exact this
  have hm:mnN W E (j+1)=mnN W E (i+1):=by simp only [mnN,he,mnE];rw [if_neg (by omega),if_neg (by omega),if_pos hk,hin,ZG W E hij];rfl
  have hen:zN E (j+1)=zN E (i+1):=by simp only [zN,he,Zq];rw [if_pos hk,hin,Zt E hij];rfl
  rw [hm,hen]
  rw [hen] at hS
  exact ih hszi C p ttl sc hS ht hs
 | @ttl j i e he hk h1 h2 hit hin hij _ ih =>
  intro hsz C p ttl sc hS ht hs
  have hp:=Za he hsz
  have hszi:szR E (i+1)<=1000:=by
   have:=hp.2.1
   rw [hin,Z4,if_neg (by omega),if_pos (by omega),Int.toNat_natCast] at this
   exact this
  have hm:mnN W E (j+1)=⟨(mnN W E (i+1)).sv,if e.nv<(mnN W E (i+1)).ttl then e.nv else (mnN W E (i+1)).ttl,(mnN W E (i+1)).sc⟩:=by
   rw [<- ZG W E hij,<- hin]
   simp only [mnN,he,mnE];rw [if_neg (by omega),if_neg (by omega),if_neg (by omega),if_pos hk]
  have hen:zN E (j+1)=zJ e.kind 1++zJ e.nv 3++zN E (i+1):=by
   rw [<- Zt E hij,<- hin]
   simp only [zN,he,Zq]
   rw [if_neg (by omega),hit]
   simp only [List.length_nil,zg,ze,zT]
   rw [if_pos hk]
  rw [hen] at hS ⊢
  have s1:=hS.left.left
  have s2:=hS.left.right
  have s3:=hS.right
  rw [zw] at s2
  rw [List.length_append,zw,zw] at s3
  have b1:=yt (b:=false) (by decide) s1 (by omega) (by rw [yu];omega)
  have b2:=(yt (b:=false) (by decide) s2 (by omega) (by rw [QT];omega)).2
  have b3:=yV (b:=false) (lo:=1) (hi:=86400) (by decide) s2 (by omega) (by rw [QT];omega) h1 h2
  have a1:nxV C ⟨p,false⟩=e.kind:=by have:=b1.2;simpa [rdN,yy,yi] using this
  have a2:nx C ⟨p,false⟩=⟨p+1,false⟩:=b1.1
  have hst:zv W C ⟨⟨p,false⟩,[],ttl,sc⟩=(⟨⟨p+(1+3),false⟩,[],if e.nv<ttl then e.nv else ttl,sc⟩,false):=by
   simp only [zv,a1,hk,a2,yd,b2,b3]
   simp [Nat.add_assoc]
  obtain ⟨k,hk1,hk2⟩:=ih hszi C (p+(1+3)) (if e.nv<ttl then e.nv else ttl) sc s3 (by split<;>omega) hs
  refine ⟨k+1,by simp only [List.length_append,zw];omega,?_⟩
  have h9:=yU hst rfl hk2
  rw [hm]
  have e1:y9 (mnN W E (i+1)).ttl (if e.nv<ttl then e.nv else ttl)=y9 (if e.nv<(mnN W E (i+1)).ttl then e.nv else (mnN W E (i+1)).ttl) ttl:=by
   unfold y9
   repeat' split
   all_goals omega
  rw [e1] at h9
  exact h9
 | @list j i e he hk h0 h16 hit hin hij _ ih =>
  intro hsz C p ttl sc hS ht hs
  have hp:=Za he hsz
  have hszi:szR E (i+1)<=1000:=by
   have:=hp.2.1
   rw [hin,Z4,if_neg (by omega),if_pos (by omega),Int.toNat_natCast] at this
   exact this
  have hen:zN E (j+1)=zg (zF E j) e e.items.length++ze (zF E j) e e.items.length:=by simp only [zN,he,Zq];rw [if_neg (by omega)]
  rw [hen] at hS ⊢
  have s3:=YZ hS.right
  rw [hin,Zt E hij] at s3
  have hwl:=yr (zF E j) e e.items.length 0 (Nat.zero_le _)
  simp only [ze] at hwl
  rw [hin,Zt E hij] at hwl
  obtain ⟨a1,a2,a3,a4,a5⟩:=qf (C:=C) (p:=p) (by omega) h0 h16 (Yr hS.left)
  have hl:=yj (zF E j) e e.items.length
  have e1:y9 86400 ttl=ttl:=by unfold y9;rw [if_neg (by omega)]
  have e2:nar 0 sc=sc:=by unfold nar;rw [if_neg (by omega)]
  obtain ⟨k,hk1,hk2⟩:=ih hszi C (p+(zg (zF E j) e e.items.length).length) ttl sc s3 ht hs
  rcases hk with hk | hk
  ·have hrd:=Jb (W:=W) (K:=zF E j) hk a5 (fun x hx=>⟨(hit x hx).1,(hit x hx).2.1,(hit x hx).2.2.2 hk⟩) hS.left e.items.length (Nat.le_refl _)
   rw [List.take_of_length_le (Nat.le_refl _)] at hrd
   have hm:mnN W E (j+1)=(match xt W e.items with | some x=>⟨[x],86400,0⟩ | none=>mnN W E (i+1)):=by
    rw [<- ZG W E hij,<- hin]
    simp only [mnN,he,mnE];rw [if_neg (by omega),if_neg (by omega),if_neg (by omega),if_neg (by omega),if_pos hk]<;>rfl
   have hst:zv W C ⟨⟨p,false⟩,[],ttl,sc⟩=(match xt W e.items with | some x=>(⟨⟨p+(zg (zF E j) e e.items.length).length,false⟩,[x],ttl,sc⟩,true) | none=>(⟨⟨p+(zg (zF E j) e e.items.length).length,false⟩,[],ttl,sc⟩,false)):=by
    simp only [zv,a1,hk,a2,yC,a3,a4,hrd.1,hrd.2,xt]
    simp only [show ((119:Int)=123)=False from by simp,if_false,if_true]
    by_cases h8:suL (mbL W e.items)<=0
    ·rw [if_pos h8,if_pos h8]
    ·rw [if_neg h8,if_neg h8]
     cases pkL (mbL W e.items) (W.draw%suL (mbL W e.items))<;>simp
   cases hq:xt W e.items with
   | some x =>
    rw [hq] at hst hm
    refine ⟨1,by rw [List.length_append];omega,?_⟩
    have h9:=Z7 hst rfl
    rw [hm]
    simp only [e1,e2]
    exact h9
   | none =>
    rw [hq] at hst hm
    refine ⟨k+1,by rw [List.length_append];omega,?_⟩
    rw [hm]
    exact yU hst rfl hk2
  ·have hrg:∀ x∈e.items,0<=x.num/\x.num<=63:=fun x hx=>⟨(hit x hx).1,(hit x hx).2.1⟩
   have hrd:=xN (K:=zF E j) (.inr hk) a5 hrg hS.left
   have hch:=Js (W:=W) (K:=zF E j) (.inr hk) a5 hrg hS.left e.items.length 0 (by omega)
   rw [List.drop_zero] at hch
   have hm:mnN W E (j+1)=(match ZE W e.items with | some x=>⟨[x],86400,0⟩ | none=>mnN W E (i+1)):=by
    rw [<- ZG W E hij,<- hin]
    simp only [mnN,he,mnE];rw [if_neg (by omega),if_neg (by omega),if_neg (by omega),if_neg (by omega),if_neg (by omega),if_pos hk]<;>rfl
   cases hq:chG W C ⟨p+2,false⟩ 0 e.items.length with
   | some n =>
    rw [hq] at hch
    obtain ⟨hn,x,hx,hfx⟩:=hch
    have h6:=hrd n (by omega)
    have h7:=hrd (n+1) (by omega)
    have hst:zv W C ⟨⟨p,false⟩,[],ttl,sc⟩=(⟨⟨p+(zg (zF E j) e (n+1)).length,false⟩,[x.num],ttl,sc⟩,true):=by
     simp only [zv,a1,hk,a2,yg,a3,a4,hq,h7.1,h6.2.2 x hx]
     simp
    have hcm:ZE W e.items=some x.num:=by unfold ZE;rw [hfx];rfl
    rw [hcm] at hm
    refine ⟨1,by rw [List.length_append];omega,?_⟩
    have h9:=Z7 hst rfl
    rw [hm]
    simp only [e1,e2]
    exact h9
   | none =>
    rw [hq] at hch
    have h7:=hrd e.items.length (Nat.le_refl _)
    have hst:zv W C ⟨⟨p,false⟩,[],ttl,sc⟩=(⟨⟨p+(zg (zF E j) e e.items.length).length,false⟩,[],ttl,sc⟩,false):=by
     simp only [zv,a1,hk,a2,yg,a3,a4,hq,h7.1]
     simp
    have hcm:ZE W e.items=none:=by unfold ZE;rw [hch];rfl
    rw [hcm] at hm
    refine ⟨k+1,by rw [List.length_append];omega,?_⟩
    rw [hm]
    exact yU hst rfl hk2
 | @maps j i e an he hk h0 h16 hit h103 h109 harm _ hin hij _ iha ih =>
  intro hsz C p ttl sc hS ht hs
  have hp:=Za he hsz
  have hszi:szR E (i+1)<=1000:=by
   have:=hp.2.1
   rw [hin,Z4,if_neg (by omega),if_pos (by omega),Int.toNat_natCast] at this
   exact this
  have hsza:∀ (n:Nat) (x:IM),e.items[n]?=some x->szR E (an n+1)<=1000:=fun n x hx=>by
   have:=hp.2.2.1 n x hx
   have h8:=harm n x hx
   rw [h8.1,Z4,if_neg (by omega),if_pos (by omega),Int.toNat_natCast] at this
   exact this
  have hle:=qj E (j+1) hsz
  have hen:zN E (j+1)=zg (zF E j) e e.items.length++ze (zF E j) e e.items.length:=by simp only [zN,he,Zq];rw [if_neg (by omega)]
  rw [hen] at hS hle ⊢
  rw [List.length_append] at hle
  have hw:(ze (zF E j) e e.items.length).length<=32000:=by omega
  have s3:=YZ hS.right
  rw [hin,Zt E hij] at s3
  have hwl:=yr (zF E j) e e.items.length 0 (Nat.zero_le _)
  simp only [ze] at hwl
  rw [hin,Zt E hij] at hwl
  obtain ⟨a1,a2,a3,a4,a5⟩:=qf (C:=C) (p:=p) (by omega) h0 h16 (Yr hS.left)
  have hl:=yj (zF E j) e e.items.length
  have hnn:∀ a b c:Int,nar a (nar b c)=nar (nar b a) c:=by
   intro a b c
   unfold nar
   repeat' split
   all_goals omega
  have hnp:∀ d:Int,0<=nar d sc:=by intro d;unfold nar;split<;>omega
  -- the arm number n
  have hgo:∀ (n:Nat) (x:IM) (d:Int),e.items[n]?=some x->∃ k,k+1<=(zg (zF E j) e e.items.length).length+(ze (zF E j) e e.items.length).length/\Z5 W C ⟨⟨p+(zg (zF E j) e e.items.length).length+(ze (zF E j) e n).length,false⟩,[],ttl,nar d sc⟩ k ((mnN W E (an n+1)).sv,y9 (mnN W E (an n+1)).ttl ttl,nar (nar d (mnN W E (an n+1)).sc) sc):=by
   intro n x d hx
   have hnl:n<e.items.length:=(List.getElem?_eq_some_iff.1 hx).1
   have h8:=harm n x hx
   have s4:=jD hS.right hx
   rw [h8.1,Zt E h8.2] at s4
   obtain ⟨k,hk1,hk2⟩:=iha n hnl (hsza n x hx) C _ ttl (nar d sc) s4 ht (hnp d)
   rw [hnn] at hk2
   have hwn:=yr (zF E j) e e.items.length (n+1) hnl
   simp only [ze,hx,List.length_append] at hwn
   rw [h8.1,Zt E h8.2] at hwn
   exact ⟨k,by omega,hk2⟩
  have hgi:∀ d:Int,∃ k,k+1<=(zg (zF E j) e e.items.length).length+(ze (zF E j) e e.items.length).length/\Z5 W C ⟨⟨p+(zg (zF E j) e e.items.length).length,false⟩,[],ttl,nar d sc⟩ k ((mnN W E (i+1)).sv,y9 (mnN W E (i+1)).ttl ttl,nar (nar d (mnN W E (i+1)).sc) sc):=by
   intro d
   obtain ⟨k,hk1,hk2⟩:=ih hszi C _ ttl (nar d sc) s3 ht (hnp d)
   rw [hnn] at hk2
   exact ⟨k,by omega,hk2⟩
  rcases hk with hk | hk
  ·have hrd:=JD (K:=zF E j) hk a5 (fun x hx=>(hit x hx).1 hk) hw hS.left
   have hcg:=Xe (a:=W.addr) e.items.length (fun n hn=>⟨((hrd n (by omega)).2 hn).1,((hrd n (by omega)).2 hn).2.1⟩)
   have hm:mnN W E (j+1)=⟨(atM (mnK W E j) (ZY W e)).sv,(atM (mnK W E j) (ZY W e)).ttl,nar (M.depTo (itV e) (itL e) W.addr e.items.length) (atM (mnK W E j) (ZY W e)).sc⟩:=by
    simp only [mnN,he,mnE];rw [if_neg (by omega),if_neg (by omega),if_neg (by omega),if_neg (by omega),if_neg (by omega),if_neg (by omega),if_pos hk]
   have hst:zv W C ⟨⟨p,false⟩,[],ttl,sc⟩=(⟨⟨p+(zg (zF E j) e e.items.length).length+(if M.bestTo (itV e) (itL e) W.addr e.items.length<0 then 0 else (arW C ⟨p+2,false⟩ (M.bestTo (itV e) (itL e) W.addr e.items.length).toNat).toNat),false⟩,[],ttl,nar (M.depTo (itV e) (itL e) W.addr e.items.length) sc⟩,false):=by
    simp only [zv,a1,hk,a2,z5,a3,a4,(hrd e.items.length (Nat.le_refl _)).1,hcg.1,hcg.2.2]
    simp
   have hbl:=Xd (V:=itV e) (L:=itL e) (a:=W.addr) e.items.length
   by_cases hb:M.bestTo (itV e) (itL e) W.addr e.items.length<0
   ·rw [if_pos hb] at hst
    have hpm:ZY W e=(i:Int):=by unfold ZY;rw [if_pos hb,hin]
    rw [hpm,ZG W E hij] at hm
    obtain ⟨k,hk1,hk2⟩:=hgi (M.depTo (itV e) (itL e) W.addr e.items.length)
    refine ⟨k+1,by rw [List.length_append];exact hk1,?_⟩
    rw [hm]
    exact yU hst rfl hk2
   ·rw [if_neg hb] at hst
    obtain ⟨n,hn⟩:∃ n:Nat,M.bestTo (itV e) (itL e) W.addr e.items.length=n:=⟨(M.bestTo (itV e) (itL e) W.addr e.items.length).toNat,by omega⟩
    rw [hn,Int.toNat_natCast] at hst
    have hnl:n<e.items.length:=by omega
    obtain ⟨x,hx⟩:∃ x,e.items[n]?=some x:=⟨e.items[n],List.getElem?_eq_getElem hnl⟩
    have h8:=harm n x hx
    have hpm:ZY W e=(an n:Int):=by unfold ZY;rw [if_neg hb,hn,Int.toNat_natCast,hx];exact h8.1
    rw [hpm,ZG W E h8.2] at hm
    rw [((hrd n (by omega)).2 hnl).2.2,Int.toNat_natCast] at hst
    obtain ⟨k,hk1,hk2⟩:=hgo n x (M.depTo (itV e) (itL e) W.addr e.items.length) hx
    refine ⟨k+1,by rw [List.length_append];exact hk1,?_⟩
    rw [hm]
    exact yU hst rfl hk2
  ·have hrg:∀ x∈e.items,0<=x.num/\x.num<=99:=fun x hx=>(hit x hx).2 hk
   have hrd:=qv (K:=zF E j) hk a5 hrg hw hS.left
   have hm:mnN W E (j+1)=⟨(atM (mnK W E j) (xi W e)).sv,(atM (mnK W E j) (xi W e)).ttl,nar W.dep (atM (mnK W E j) (xi W e)).sc⟩:=by
    simp only [mnN,he,mnE];rw [if_neg (by omega),if_neg (by omega),if_neg (by omega),if_neg (by omega),if_neg (by omega),if_neg (by omega),if_neg (by omega)]
   have hst:zv W C ⟨⟨p,false⟩,[],ttl,sc⟩=(⟨⟨p+(zg (zF E j) e e.items.length).length+(rgT W C ⟨p+2,false⟩ e.items.length).toNat,false⟩,[],ttl,nar W.dep sc⟩,false):=by
    simp only [zv,a1,hk,a2,yw,a3,a4,(hrd e.items.length (Nat.le_refl _)).1]
    simp
   rcases j1 (W:=W) (K:=zF E j) hk a5 hrg hw hS.left (h103 hk) with ⟨n,x,hx,hf,hway⟩ | ⟨hf,hway⟩
   ·have h8:=harm n x hx
    have hpm:xi W e=(an n:Int):=by unfold xi;rw [hf];exact h8.1
    rw [hpm,ZG W E h8.2] at hm
    rw [hway,Int.toNat_natCast] at hst
    obtain ⟨k,hk1,hk2⟩:=hgo n x W.dep hx
    refine ⟨k+1,by rw [List.length_append];exact hk1,?_⟩
    rw [hm]
    exact yU hst rfl hk2
   ·have hpm:xi W e=(i:Int):=by unfold xi;rw [hf];exact hin
    rw [hpm,ZG W E hij] at hm
    rw [hway] at hst
    obtain ⟨k,hk1,hk2⟩:=hgi W.dep
    refine ⟨k+1,by rw [List.length_append];exact hk1,?_⟩
    rw [hm]
    exact yU hst rfl hk2
end Go.Proofs.Ytaebngpoagjafaa
