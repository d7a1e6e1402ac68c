import Derived.Test.YtaebngpoagjafabGreatV30
set_option maxRecDepth 100000
namespace Go.Proofs.YtaebngpoagjafabGreat
def xe (W:RW) (C:List Int) (s:RT) (k:Nat) (R:List Int×Int×Int):Prop:=1<=k/\(∀ f,f<k->YU W C f s=(11,[],0,0))/\∀ f,k<=f->YU W C f s=(0,R)
theorem xr {W:RW} {C:List Int} {s t:RT} (h:zD W C s=(t,true)) (hb:t.r.b=false):xe W C s 1 (t.sv,t.ttl,t.sc):=by
 refine ⟨Nat.le_refl _,fun f hf=>?_,fun f hf=>?_⟩
 ·have:f=0:=by omega
  subst this;rfl
 ·obtain ⟨f,rfl⟩:∃ g,f=g+1:=⟨f-1,by omega⟩
  simp only [YU,h,hb]
  rfl
theorem ZI {W:RW} {C:List Int} {s t:RT} {k:Nat} {R:List Int×Int×Int} (h:zD W C s=(t,false)) (hb:t.r.b=false) (hr:xe W C t k R):xe W C s (k+1) R:=by
 obtain ⟨h0,h1,h2⟩:=hr
 refine ⟨by omega,fun f hf=>?_,fun f hf=>?_⟩
 ·cases f with
  | zero=>rfl
  | succ f =>
   simp only [YU,h,hb]
   exact h1 f (by omega)
 ·obtain ⟨f,rfl⟩:∃ g,f=g+1:=⟨f-1,by omega⟩
  simp only [YU,h,hb]
  exact h2 f (by omega)
def ZK (a b:Int):Int:=if a<b then a else b
theorem zcQ {W:RW} {C:List Int} {p:Nat} {K:List (List Int)} {e:EX} (hk:e.kind=123\/e.kind=102) (h2:(yh e).length=2) (hr:∀ x∈e.items,0<=x.num/\x.num<=63) (h:Zr C p (zo K e e.items.length)) :
 ∀ n i,i+n=e.items.length->match chG W C ⟨p+2,false⟩ i n with
  | some k=>k<e.items.length/\∃ x,e.items[k]?=some x/\(e.items.drop i).find? (fun x=>upW W x.num)=some x
  | none=>(e.items.drop i).find? (fun x=>upW W x.num)=none:=by
 intro n
 induction n with
 | zero =>
  intro i hi
  simp only [chG]
  rw [List.drop_eq_nil_of_le (by omega)];rfl
 | succ n ih =>
  intro i hi
  obtain ⟨x,hx⟩:∃ x,e.items[i]?=some x:=⟨e.items[i],List.getElem?_eq_getElem (by omega)⟩
  have h3:=(qJ hk h2 hr h i (by omega)).2.2 x hx
  have hdr:e.items.drop i=x::e.items.drop (i+1):=by
   rw [List.drop_eq_getElem_cons (by omega)]
   have:=(List.getElem?_eq_some_iff.1 hx).2
   rw [this]
  simp only [chG,h3]
  rw [hdr]
  by_cases hu:upW W x.num=true
  ·rw [if_pos hu]
   exact ⟨by omega,x,hx,by simp [hu]⟩
  ·rw [if_neg hu]
   have h4:=ih (i+1) (by omega)
   simp only [List.find?_cons]
   have hu2:upW W x.num=false:=by simpa using hu
   rw [hu2]
   exact h4
theorem zco {W:RW} {C:List Int} {p:Nat} {K:List (List Int)} {e:EX} (hk:e.kind=103) (h2:(yh e).length=2) (hr:∀ x∈e.items,0<=x.num/\x.num<=99) (hw:(zg K e e.items.length).length<=32000) (h:Zr C p (zo K e e.items.length)) (hone:∀ (a b:Nat) (x y:IM),e.items[a]?=some x->e.items[b]?=some y->x.num=y.num->a=b) :
 (∃ (k:Nat) (x:IM),e.items[k]?=some x/\e.items.find? (fun x=>x.num==W.reg)=some x/\rgT W C ⟨p+2,false⟩ e.items.length=((zg K e k).length:Int))\/(e.items.find? (fun x=>x.num==W.reg)=none/\rgT W C ⟨p+2,false⟩ e.items.length=0):=by
 have hrd:=fun i hi=>(j5 hk h2 hr hw h i hi).2
 cases hf:e.items.find? (fun x=>x.num==W.reg) with
 | none =>
  right
  refine ⟨rfl,?_⟩
  have hno:∀ x∈e.items,¬ x.num=W.reg:=fun x hx=>by
   have:=List.find?_eq_none.1 hf x hx
   simpa using this
  have:∀ i,i<=e.items.length->rgT W C ⟨p+2,false⟩ i=0:=by
   intro i
   induction i with
   | zero=>intro _;rfl
   | succ i ih =>
    intro hi
    obtain ⟨x,hx⟩:∃ x,e.items[i]?=some x:=⟨e.items[i],List.getElem?_eq_getElem (by omega)⟩
    have h3:=hrd i (by omega) x hx
    simp only [rgT,h3.1]
    rw [if_neg (hno x (List.mem_of_getElem? hx))]
    exact ih (by omega)
  exact this _ (Nat.le_refl _)
 | some x =>
  left
  have hm:=List.mem_of_find?_eq_some hf
  have hreg:x.num=W.reg:=by have:=List.find?_some hf;simpa using this
  obtain ⟨k,hk2⟩:=List.getElem?_of_mem hm
  refine ⟨k,x,hk2,rfl,?_⟩
  have hkl:k<e.items.length:=(List.getElem?_eq_some_iff.1 hk2).1
  have:∀ i,i<=e.items.length->rgT W C ⟨p+2,false⟩ i=if k<i then ((zg K e k).length:Int) else 0:=by
   intro i
   induction i with
   | zero=>intro _;simp [rgT]
   | succ i ih =>
    intro hi
    obtain ⟨y,hy⟩:∃ y,e.items[i]?=some y:=⟨e.items[i],List.getElem?_eq_getElem (by omega)⟩
    have h3:=hrd i (by omega) y hy
    simp only [rgT,h3.1]
    by_cases hyr:y.num=W.reg
    ·have:i=k:=hone i k y x hy hk2 (by rw [hyr,hreg])
     subst this
     rw [if_pos hyr,if_pos (by omega),h3.2]
    ·rw [if_neg hyr,ih (by omega)]
     have:i≠k:=fun e'=>by subst e';rw [hk2] at hy;cases hy;exact hyr hreg
     by_cases h4:k<i
     ·rw [if_pos h4,if_pos (by omega)]
     ·rw [if_neg h4,if_neg (by omega)]
  rw [this _ (Nat.le_refl _),if_pos hkl]
theorem zcm {W:RW} {E:List EX} {j:Nat} (h:GD E j):szR E (j+1)<=1000->∀ (C:List Int) (p:Nat) (ttl sc:Int),Zr C p (z8 E (j+1))->ttl<=86400->0<=sc ->
 ∃ k,k<=(z8 E (j+1)).length/\xe W C ⟨⟨p,false⟩,[],ttl,sc⟩ k ((mnN W E (j+1)).sv,ZK (mnN W E (j+1)).ttl ttl,nar (mnN W E (j+1)).sc sc):=by
 induction h with
 | @servers j e he hk h0 h16 hit hin =>
  intro hsz C p ttl sc hS ht hs
  have hm:mnN W E (j+1)=⟨e.items.map IM.num,86400,0⟩:=by simp only [mnN,he,mnE];rw [if_pos hk]
  have hen:z8 E (j+1)=zo (zR E j) e e.items.length++zg (zR E j) e e.items.length:=by simp only [z8,he,Yj];rw [if_neg (by omega)]
  rw [hen] at hS ⊢
  obtain ⟨a1,a2,a3,a4,a5⟩:=jA (.inl hk) h0 h16 (x8 hS.left)
  have hrd:=qJ (K:=zR E j) (.inl hk) a5 (fun x hx=>⟨(hit x hx).1,(hit x hx).2.1⟩) hS.left e.items.length (Nat.le_refl _)
  have hst:zD W C ⟨⟨p,false⟩,[],ttl,sc⟩=(⟨⟨p+(zo (zR E j) e e.items.length).length,false⟩,e.items.map IM.num,ttl,sc⟩,true):=by
   simp only [zD,a1,hk,a2,Zn,a3,a4,hrd.1,hrd.2.1]
   simp [List.take_of_length_le]
  have hl:=yJ (zR E j) e e.items.length
  refine ⟨1,by rw [List.length_append];omega,?_⟩
  have h9:=xr hst rfl
  rw [hm]
  have e1:ZK 86400 ttl=ttl:=by unfold ZK;rw [if_neg (by omega)]
  have e2:nar 0 sc=sc:=by unfold nar;rw [if_neg (by omega)]
  simp only [e1,e2]
  exact h9
 | @alias j e he hk h0 h15 hit hin =>
  intro hsz C p ttl sc hS ht hs
  have hm:mnN W E (j+1)=⟨(W.al[e.nv.toNat]?).getD [],86400,0⟩:=by simp only [mnN,he,mnE];rw [if_neg (by omega),if_pos hk]
  have hen:z8 E (j+1)=zW e.kind 1++zW e.nv 1++atL (zR E j) e.inner:=by
   simp only [z8,he,Yj]
   rw [if_neg (by omega),hit]
   simp only [List.length_nil,zo,zg,yh]
   rw [if_neg (by omega),if_pos hk]
  rw [hen] at hS ⊢
  have s1:=hS.left.left
  have s2:=hS.left.right
  rw [zE] at s2
  have b1:=yP (b:=false) (by decide) s1 (by omega) (by rw [yQ];omega)
  have b2:=(yP (b:=false) (by decide) s2 h0 (by rw [yQ];omega)).2
  have b3:=ZJ (b:=false) (lo:=0) (hi:=15) (by decide) s2 h0 (by rw [yQ];omega) h0 h15
  have a1:nxV C ⟨p,false⟩=e.kind:=by have:=b1.2;simpa [rdN,Zc,yI] using this
  have a2:nx C ⟨p,false⟩=⟨p+1,false⟩:=b1.1
  have hst:zD W C ⟨⟨p,false⟩,[],ttl,sc⟩=(⟨⟨p+1+1,false⟩,(W.al[e.nv.toNat]?).getD [],ttl,sc⟩,true):=by
   simp only [zD,a1,hk,a2,ZB,b2,b3]
   simp
  refine ⟨1,by simp [List.length_append,zE],?_⟩
  have h9:=xr hst rfl
  rw [hm]
  have e1:ZK 86400 ttl=ttl:=by unfold ZK;rw [if_neg (by omega)]
  have e2:nar 0 sc=sc:=by unfold nar;rw [if_neg (by omega)]
  simp only [e1,e2]
  exact h9
 | @name j i e he hk hit hin hij _ ih =>
  intro hsz C p ttl sc hS ht hs
  have hp:=Z0 he hsz
  have hszi:szR E (i+1)<=1000:=by
   have:=hp.2.1
   rw [hin,Y9,if_neg (by omega),if_pos (by omega),Int.toNat_natCast] at this
   exact this
  have hm:mnN W E (j+1)=mnN W E (i+1):=by simp only [mnN,he,mnE];rw [if_neg (by omega),if_neg (by omega),if_pos hk,hin,Zl W E hij];rfl
  have hen:z8 E (j+1)=z8 E (i+1):=by simp only [z8,he,Yj];rw [if_pos hk,hin,Yo E hij];rfl
  rw [hm,hen]
  rw [hen] at hS
  exact ih hszi C p ttl sc hS ht hs
 | @ttl j i e he hk h1 h2 hit hin hij _ ih =>
  intro hsz C p ttl sc hS ht hs
  have hp:=Z0 he hsz
  have hszi:szR E (i+1)<=1000:=by
   have:=hp.2.1
   rw [hin,Y9,if_neg (by omega),if_pos (by omega),Int.toNat_natCast] at this
   exact this
  have hm:mnN W E (j+1)=⟨(mnN W E (i+1)).sv,if e.nv<(mnN W E (i+1)).ttl then e.nv else (mnN W E (i+1)).ttl,(mnN W E (i+1)).sc⟩:=by
   rw [<- Zl W E hij,<- hin]
   simp only [mnN,he,mnE];rw [if_neg (by omega),if_neg (by omega),if_neg (by omega),if_pos hk]
  have hen:z8 E (j+1)=zW e.kind 1++zW e.nv 3++z8 E (i+1):=by
   rw [<- Yo E hij,<- hin]
   simp only [z8,he,Yj]
   rw [if_neg (by omega),hit]
   simp only [List.length_nil,zo,zg,yh]
   rw [if_pos hk]
  rw [hen] at hS ⊢
  have s1:=hS.left.left
  have s2:=hS.left.right
  have s3:=hS.right
  rw [zE] at s2
  rw [List.length_append,zE,zE] at s3
  have b1:=yP (b:=false) (by decide) s1 (by omega) (by rw [yQ];omega)
  have b2:=(yP (b:=false) (by decide) s2 (by omega) (by rw [za7];omega)).2
  have b3:=ZJ (b:=false) (lo:=1) (hi:=86400) (by decide) s2 (by omega) (by rw [za7];omega) h1 h2
  have a1:nxV C ⟨p,false⟩=e.kind:=by have:=b1.2;simpa [rdN,Zc,yI] using this
  have a2:nx C ⟨p,false⟩=⟨p+1,false⟩:=b1.1
  have hst:zD W C ⟨⟨p,false⟩,[],ttl,sc⟩=(⟨⟨p+(1+3),false⟩,[],if e.nv<ttl then e.nv else ttl,sc⟩,false):=by
   simp only [zD,a1,hk,a2,yy,b2,b3]
   simp [Nat.add_assoc]
  obtain ⟨k,hk1,hk2⟩:=ih hszi C (p+(1+3)) (if e.nv<ttl then e.nv else ttl) sc s3 (by split<;>omega) hs
  refine ⟨k+1,by simp only [List.length_append,zE];omega,?_⟩
  have h9:=ZI hst rfl hk2
  rw [hm]
  have e1:ZK (mnN W E (i+1)).ttl (if e.nv<ttl then e.nv else ttl)=ZK (if e.nv<(mnN W E (i+1)).ttl then e.nv else (mnN W E (i+1)).ttl) ttl:=by
   unfold ZK
   repeat' split
   all_goals omega
  rw [e1] at h9
  exact h9
 | @list j i e he hk h0 h16 hit hin hij _ ih =>
  intro hsz C p ttl sc hS ht hs
  have hp:=Z0 he hsz
  have hszi:szR E (i+1)<=1000:=by
   have:=hp.2.1
   rw [hin,Y9,if_neg (by omega),if_pos (by omega),Int.toNat_natCast] at this
   exact this
  have hen:z8 E (j+1)=zo (zR E j) e e.items.length++zg (zR E j) e e.items.length:=by simp only [z8,he,Yj];rw [if_neg (by omega)]
  rw [hen] at hS ⊢
  have s3:=XV hS.right
  rw [hin,Yo E hij] at s3
  have hwl:=yO (zR E j) e e.items.length 0 (Nat.zero_le _)
  simp only [zg] at hwl
  rw [hin,Yo E hij] at hwl
  obtain ⟨a1,a2,a3,a4,a5⟩:=jA (C:=C) (p:=p) (by omega) h0 h16 (x8 hS.left)
  have hl:=yJ (zR E j) e e.items.length
  have e1:ZK 86400 ttl=ttl:=by unfold ZK;rw [if_neg (by omega)]
  have e2:nar 0 sc=sc:=by unfold nar;rw [if_neg (by omega)]
  obtain ⟨k,hk1,hk2⟩:=ih hszi C (p+(zo (zR E j) e e.items.length).length) ttl sc s3 ht hs
  rcases hk with hk | hk
  ·have hrd:=zcy (W:=W) (K:=zR E j) hk a5 (fun x hx=>⟨(hit x hx).1,(hit x hx).2.1,(hit x hx).2.2.2 hk⟩) hS.left e.items.length (Nat.le_refl _)
   rw [List.take_of_length_le (Nat.le_refl _)] at hrd
   have hm:mnN W E (j+1)=(match XJ W e.items with | some x=>⟨[x],86400,0⟩ | none=>mnN W E (i+1)):=by
    rw [<- Zl W E hij,<- hin]
    simp only [mnN,he,mnE];rw [if_neg (by omega),if_neg (by omega),if_neg (by omega),if_neg (by omega),if_pos hk]<;>rfl
   have hst:zD W C ⟨⟨p,false⟩,[],ttl,sc⟩=(match XJ W e.items with | some x=>(⟨⟨p+(zo (zR E j) e e.items.length).length,false⟩,[x],ttl,sc⟩,true) | none=>(⟨⟨p+(zo (zR E j) e e.items.length).length,false⟩,[],ttl,sc⟩,false)):=by
    simp only [zD,a1,hk,a2,Zf,a3,a4,hrd.1,hrd.2,XJ]
    simp only [show ((119:Int)=123)=False from by simp,if_false,if_true]
    by_cases h8:suL (mbL W e.items)<=0
    ·rw [if_pos h8,if_pos h8]
    ·rw [if_neg h8,if_neg h8]
     cases pkL (mbL W e.items) (W.draw%suL (mbL W e.items))<;>simp
   cases hq:XJ W e.items with
   | some x =>
    rw [hq] at hst hm
    refine ⟨1,by rw [List.length_append];omega,?_⟩
    have h9:=xr hst rfl
    rw [hm]
    simp only [e1,e2]
    exact h9
   | none =>
    rw [hq] at hst hm
    refine ⟨k+1,by rw [List.length_append];omega,?_⟩
    rw [hm]
    exact ZI hst rfl hk2
  ·have hrg:∀ x∈e.items,0<=x.num/\x.num<=63:=fun x hx=>⟨(hit x hx).1,(hit x hx).2.1⟩
   have hrd:=qJ (K:=zR E j) (.inr hk) a5 hrg hS.left
   have hch:=zcQ (W:=W) (K:=zR E j) (.inr hk) a5 hrg hS.left e.items.length 0 (by omega)
   rw [List.drop_zero] at hch
   have hm:mnN W E (j+1)=(match Yx W e.items with | some x=>⟨[x],86400,0⟩ | none=>mnN W E (i+1)):=by
    rw [<- Zl W E hij,<- hin]
    simp only [mnN,he,mnE];rw [if_neg (by omega),if_neg (by omega),if_neg (by omega),if_neg (by omega),if_neg (by omega),if_pos hk]<;>rfl
   cases hq:chG W C ⟨p+2,false⟩ 0 e.items.length with
   | some n =>
    rw [hq] at hch
    obtain ⟨hn,x,hx,hfx⟩:=hch
    have h6:=hrd n (by omega)
    have h7:=hrd (n+1) (by omega)
    have hst:zD W C ⟨⟨p,false⟩,[],ttl,sc⟩=(⟨⟨p+(zo (zR E j) e (n+1)).length,false⟩,[x.num],ttl,sc⟩,true):=by
     simp only [zD,a1,hk,a2,yG,a3,a4,hq,h7.1,h6.2.2 x hx]
     simp
    have hcm:Yx W e.items=some x.num:=by unfold Yx;rw [hfx];rfl
    rw [hcm] at hm
    refine ⟨1,by rw [List.length_append];omega,?_⟩
    have h9:=xr hst rfl
    rw [hm]
    simp only [e1,e2]
    exact h9
   | none =>
    rw [hq] at hch
    have h7:=hrd e.items.length (Nat.le_refl _)
    have hst:zD W C ⟨⟨p,false⟩,[],ttl,sc⟩=(⟨⟨p+(zo (zR E j) e e.items.length).length,false⟩,[],ttl,sc⟩,false):=by
     simp only [zD,a1,hk,a2,yG,a3,a4,hq,h7.1]
     simp
    have hcm:Yx W e.items=none:=by unfold Yx;rw [hch];rfl
    rw [hcm] at hm
    refine ⟨k+1,by rw [List.length_append];omega,?_⟩
    rw [hm]
    exact ZI hst rfl hk2
 | @maps j i e an he hk h0 h16 hit h103 h109 harm _ hin hij _ iha ih =>
  intro hsz C p ttl sc hS ht hs
  have hp:=Z0 he hsz
  have hszi:szR E (i+1)<=1000:=by
   have:=hp.2.1
   rw [hin,Y9,if_neg (by omega),if_pos (by omega),Int.toNat_natCast] at this
   exact this
  have hsza:∀ (n:Nat) (x:IM),e.items[n]?=some x->szR E (an n+1)<=1000:=fun n x hx=>by
   have:=hp.2.2.1 n x hx
   have h8:=harm n x hx
   rw [h8.1,Y9,if_neg (by omega),if_pos (by omega),Int.toNat_natCast] at this
   exact this
  have hle:=jH E (j+1) hsz
  have hen:z8 E (j+1)=zo (zR E j) e e.items.length++zg (zR E j) e e.items.length:=by simp only [z8,he,Yj];rw [if_neg (by omega)]
  rw [hen] at hS hle ⊢
  rw [List.length_append] at hle
  have hw:(zg (zR E j) e e.items.length).length<=32000:=by omega
  have s3:=XV hS.right
  rw [hin,Yo E hij] at s3
  have hwl:=yO (zR E j) e e.items.length 0 (Nat.zero_le _)
  simp only [zg] at hwl
  rw [hin,Yo E hij] at hwl
  obtain ⟨a1,a2,a3,a4,a5⟩:=jA (C:=C) (p:=p) (by omega) h0 h16 (x8 hS.left)
  have hl:=yJ (zR E j) e e.items.length
  have hnn:∀ a b c:Int,nar a (nar b c)=nar (nar b a) c:=by
   intro a b c
   unfold nar
   repeat' split
   all_goals omega
  have hnp:∀ d:Int,0<=nar d sc:=by intro d;unfold nar;split<;>omega
  -- the arm number n
  have hgo:∀ (n:Nat) (x:IM) (d:Int),e.items[n]?=some x->∃ k,k+1<=(zo (zR E j) e e.items.length).length+(zg (zR E j) e e.items.length).length/\xe W C ⟨⟨p+(zo (zR E j) e e.items.length).length+(zg (zR E j) e n).length,false⟩,[],ttl,nar d sc⟩ k ((mnN W E (an n+1)).sv,ZK (mnN W E (an n+1)).ttl ttl,nar (nar d (mnN W E (an n+1)).sc) sc):=by
   intro n x d hx
   have hnl:n<e.items.length:=(List.getElem?_eq_some_iff.1 hx).1
   have h8:=harm n x hx
   have s4:=zbT hS.right hx
   rw [h8.1,Yo E h8.2] at s4
   obtain ⟨k,hk1,hk2⟩:=iha n hnl (hsza n x hx) C _ ttl (nar d sc) s4 ht (hnp d)
   rw [hnn] at hk2
   have hwn:=yO (zR E j) e e.items.length (n+1) hnl
   simp only [zg,hx,List.length_append] at hwn
   rw [h8.1,Yo E h8.2] at hwn
   exact ⟨k,by omega,hk2⟩
  have hgi:∀ d:Int,∃ k,k+1<=(zo (zR E j) e e.items.length).length+(zg (zR E j) e e.items.length).length/\xe W C ⟨⟨p+(zo (zR E j) e e.items.length).length,false⟩,[],ttl,nar d sc⟩ k ((mnN W E (i+1)).sv,ZK (mnN W E (i+1)).ttl ttl,nar (nar d (mnN W E (i+1)).sc) sc):=by
   intro d
   obtain ⟨k,hk1,hk2⟩:=ih hszi C _ ttl (nar d sc) s3 ht (hnp d)
   rw [hnn] at hk2
   exact ⟨k,by omega,hk2⟩
  rcases hk with hk | hk
  ·have hrd:=zc1 (K:=zR E j) hk a5 (fun x hx=>(hit x hx).1 hk) hw hS.left
   have hcg:=Qi (a:=W.addr) e.items.length (fun n hn=>⟨((hrd n (by omega)).2 hn).1,((hrd n (by omega)).2 hn).2.1⟩)
   have hm:mnN W E (j+1)=⟨(atM (mnK W E j) (ZR W e)).sv,(atM (mnK W E j) (ZR W e)).ttl,nar (M.depTo (itV e) (itL e) W.addr e.items.length) (atM (mnK W E j) (ZR W e)).sc⟩:=by
    simp only [mnN,he,mnE];rw [if_neg (by omega),if_neg (by omega),if_neg (by omega),if_neg (by omega),if_neg (by omega),if_neg (by omega),if_pos hk]
   have hst:zD W C ⟨⟨p,false⟩,[],ttl,sc⟩=(⟨⟨p+(zo (zR E j) e e.items.length).length+(if M.bestTo (itV e) (itL e) W.addr e.items.length<0 then 0 else (arW C ⟨p+2,false⟩ (M.bestTo (itV e) (itL e) W.addr e.items.length).toNat).toNat),false⟩,[],ttl,nar (M.depTo (itV e) (itL e) W.addr e.items.length) sc⟩,false):=by
    simp only [zD,a1,hk,a2,yp,a3,a4,(hrd e.items.length (Nat.le_refl _)).1,hcg.1,hcg.2.2]
    simp
   have hbl:=Qh (V:=itV e) (L:=itL e) (a:=W.addr) e.items.length
   by_cases hb:M.bestTo (itV e) (itL e) W.addr e.items.length<0
   ·rw [if_pos hb] at hst
    have hpm:ZR W e=(i:Int):=by unfold ZR;rw [if_pos hb,hin]
    rw [hpm,Zl W E hij] at hm
    obtain ⟨k,hk1,hk2⟩:=hgi (M.depTo (itV e) (itL e) W.addr e.items.length)
    refine ⟨k+1,by rw [List.length_append];exact hk1,?_⟩
    rw [hm]
    exact ZI hst rfl hk2
   ·rw [if_neg hb] at hst
    obtain ⟨n,hn⟩:∃ n:Nat,M.bestTo (itV e) (itL e) W.addr e.items.length=n:=⟨(M.bestTo (itV e) (itL e) W.addr e.items.length).toNat,by omega⟩
    rw [hn,Int.toNat_natCast] at hst
    have hnl:n<e.items.length:=by omega
    obtain ⟨x,hx⟩:∃ x,e.items[n]?=some x:=⟨e.items[n],List.getElem?_eq_getElem hnl⟩
    have h8:=harm n x hx
    have hpm:ZR W e=(an n:Int):=by unfold ZR;rw [if_neg hb,hn,Int.toNat_natCast,hx];exact h8.1
    rw [hpm,Zl W E h8.2] at hm
    rw [((hrd n (by omega)).2 hnl).2.2,Int.toNat_natCast] at hst
    obtain ⟨k,hk1,hk2⟩:=hgo n x (M.depTo (itV e) (itL e) W.addr e.items.length) hx
    refine ⟨k+1,by rw [List.length_append];exact hk1,?_⟩
    rw [hm]
    exact ZI hst rfl hk2
  ·have hrg:∀ x∈e.items,0<=x.num/\x.num<=99:=fun x hx=>(hit x hx).2 hk
   have hrd:=j5 (K:=zR E j) hk a5 hrg hw hS.left
   have hm:mnN W E (j+1)=⟨(atM (mnK W E j) (xu W e)).sv,(atM (mnK W E j) (xu W e)).ttl,nar W.dep (atM (mnK W E j) (xu W e)).sc⟩:=by
    simp only [mnN,he,mnE];rw [if_neg (by omega),if_neg (by omega),if_neg (by omega),if_neg (by omega),if_neg (by omega),if_neg (by omega),if_neg (by omega)]
   have hst:zD W C ⟨⟨p,false⟩,[],ttl,sc⟩=(⟨⟨p+(zo (zR E j) e e.items.length).length+(rgT W C ⟨p+2,false⟩ e.items.length).toNat,false⟩,[],ttl,nar W.dep sc⟩,false):=by
    simp only [zD,a1,hk,a2,yY,a3,a4,(hrd e.items.length (Nat.le_refl _)).1]
    simp
   rcases zco (W:=W) (K:=zR E j) hk a5 hrg hw hS.left (h103 hk) with ⟨n,x,hx,hf,hway⟩ | ⟨hf,hway⟩
   ·have h8:=harm n x hx
    have hpm:xu W e=(an n:Int):=by unfold xu;rw [hf];exact h8.1
    rw [hpm,Zl W E h8.2] at hm
    rw [hway,Int.toNat_natCast] at hst
    obtain ⟨k,hk1,hk2⟩:=hgo n x W.dep hx
    refine ⟨k+1,by rw [List.length_append];exact hk1,?_⟩
    rw [hm]
    exact ZI hst rfl hk2
   ·have hpm:xu W e=(i:Int):=by unfold xu;rw [hf];exact hin
    rw [hpm,Zl W E hij] at hm
    rw [hway] at hst
    obtain ⟨k,hk1,hk2⟩:=hgi W.dep
    refine ⟨k+1,by rw [List.length_append];exact hk1,?_⟩
    rw [hm]
    exact ZI hst rfl hk2
end Go.Proofs.YtaebngpoagjafabGreat
