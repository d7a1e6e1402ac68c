/-
  OUR OWN.
-/
import Derived.Test.YtaebngpoagjafaaGreatU26
set_option maxRecDepth 100000
namespace Go.Proofs.YtaebngpoagjafaaGreat
theorem headL_two (K:List (List Int)) (e:EX) (h:(exprB e).length=2):(headL K e 0).length=2:=h
theorem sv_read {C:List Int} {p:Nat} {K:List (List Int)} {e:EX} (hk:e.kind=123\/e.kind=102) (h2:(exprB e).length=2) (hr:∀ x∈e.items,0<=x.num/\x.num<=63) (h:Sits C p (headL K e e.items.length)) :
   ∀ i,i<=e.items.length->svR C ⟨p+2,false⟩ i=⟨p+(headL K e i).length,false⟩/\svL C ⟨p+2,false⟩ i=(e.items.map IM.num).take i/\∀ x,e.items[i]?=some x->rdN C (svR C ⟨p+2,false⟩ i) 1=x.num:=by
 intro i
 have hrd:∀ i x,e.items[i]?=some x->(rdN C ⟨p+(headL K e i).length,false⟩ 1=x.num/\num C ⟨p+(headL K e i).length,false⟩ 1 0 63=⟨p+(headL K e i).length+1,false⟩/\(headL K e (i+1)).length=(headL K e i).length+1):=by
   intro i x hx
   have hs:=item_sits h hx
   have hi:itemB e.kind x (withinL K e i).length=numB x.num 1:=by
     unfold itemB
     rw [if_neg (by omega),if_neg (by omega),if_neg (by omega)]
   rw [hi] at hs
   have hx2:=hr x (List.mem_of_getElem? hx)
   refine ⟨(rd_num false (by decide) hs (by omega) (by rw [p256_1];omega)).2,num_ok false (by decide) hs (by omega) (by rw [p256_1];omega) (by omega) (by omega),?_⟩
   simp only [headL,hx,hi,List.length_append,numB_len]
 induction i with
 | zero =>
   intro _
   have e0:svR C ⟨p+2,false⟩ 0=⟨p+(headL K e 0).length,false⟩:=by rw [headL_two K e h2];rfl
   refine ⟨e0,by simp [svL],fun x hx=>?_⟩
   rw [e0];exact (hrd 0 x hx).1
 | succ i ih =>
   intro hi
   obtain ⟨h3,h4,h5⟩:=ih (by omega)
   obtain ⟨x,hx⟩:∃ x,e.items[i]?=some x:=⟨e.items[i],List.getElem?_eq_getElem (by omega)⟩
   have h6:=hrd i x hx
   have e1:svR C ⟨p+2,false⟩ (i+1)=⟨p+(headL K e (i+1)).length,false⟩:=by
     simp only [svR,h3,h6.2.1,h6.2.2];rfl
   refine ⟨e1,?_,fun y hy=>by rw [e1];exact (hrd (i+1) y hy).1⟩
   simp only [svL,h4,h5 x hx]
   rw [List.take_add_one]
   simp [hx]
theorem me_read {W:RW} {C:List Int} {p:Nat} {K:List (List Int)} {e:EX} (hk:e.kind=119) (h2:(exprB e).length=2) (hr:∀ x∈e.items,0<=x.num/\x.num<=63/\1<=x.wv/\x.wv<=1000) (h:Sits C p (headL K e e.items.length)) :
   ∀ i,i<=e.items.length->meR C ⟨p+2,false⟩ i=⟨p+(headL K e i).length,false⟩/\meL W C ⟨p+2,false⟩ i=mbL W (e.items.take i):=by
 intro i
 have hrd:∀ i x,e.items[i]?=some x->(rdN C ⟨p+(headL K e i).length,false⟩ 1=x.num/\num C ⟨p+(headL K e i).length,false⟩ 1 0 63=⟨p+(headL K e i).length+1,false⟩/\rdN C ⟨p+(headL K e i).length+1,false⟩ 2=x.wv/\num C ⟨p+(headL K e i).length+1,false⟩ 2 1 1000=⟨p+(headL K e (i+1)).length,false⟩):=by
   intro i x hx
   have hs:=item_sits h hx
   have hi:itemB e.kind x (withinL K e i).length=numB x.num 1++numB x.wv 2:=by
     unfold itemB
     rw [if_neg (by omega),if_neg (by omega),if_pos hk]
   rw [hi] at hs
   have hx2:=hr x (List.mem_of_getElem? hx)
   have hs1:=hs.left
   have hs2:=hs.right
   rw [numB_len] at hs2
   have hl:(headL K e (i+1)).length=(headL K e i).length+1+2:=by simp only [headL,hx,hi,List.length_append,numB_len]
   refine ⟨(rd_num false (by decide) hs1 (by omega) (by rw [p256_1];omega)).2,num_ok false (by decide) hs1 (by omega) (by rw [p256_1];omega) (by omega) (by omega),(rd_num false (by decide) hs2 (by omega) (by rw [p256_2];omega)).2,?_⟩
   rw [num_ok false (by decide) hs2 (by omega) (by rw [p256_2];omega) (by omega) (by omega),hl]
   rfl
 induction i with
 | zero =>
   intro _
   have e0:meR C ⟨p+2,false⟩ 0=⟨p+(headL K e 0).length,false⟩:=by rw [headL_two K e h2];rfl
   exact ⟨e0,by simp [meL,mbL]⟩
 | succ i ih =>
   intro hi
   obtain ⟨h3,h4⟩:=ih (by omega)
   obtain ⟨x,hx⟩:∃ x,e.items[i]?=some x:=⟨e.items[i],List.getElem?_eq_getElem (by omega)⟩
   obtain ⟨q1,q2,q3,q4⟩:=hrd i x hx
   refine ⟨by simp only [meR,h3,q2,q4],?_⟩
   have e1:meS C ⟨p+2,false⟩ i=x.num:=by unfold meS;rw [h3,q1]
   have e2:meW C ⟨p+2,false⟩ i=x.wv:=by unfold meW;rw [h3,q2,q3]
   simp only [meL,e1,e2,h4]
   rw [List.take_add_one]
   simp only [hx,Option.toList_some]
   unfold mbL
   rw [List.filter_append,List.map_append]
   by_cases hu:upW W x.num=true
   · rw [if_pos hu];simp [hu]
   · rw [if_neg hu];simp [hu]
theorem am_read {C:List Int} {p:Nat} {K:List (List Int)} {e:EX} (hk:e.kind=109) (h2:(exprB e).length=2) (hr:∀ x∈e.items,M.isP x.pv x.pl=true) (hw:(withinL K e e.items.length).length<=32000) (h:Sits C p (headL K e e.items.length)) :
   ∀ i,i<=e.items.length->amR C ⟨p+2,false⟩ i=⟨p+(headL K e i).length,false⟩/\(i<e.items.length->arV C ⟨p+2,false⟩ i=itV e i/\arL C ⟨p+2,false⟩ i=itL e i/\arW C ⟨p+2,false⟩ i=((withinL K e i).length:Int)):=by
 intro i
 have hrd:∀ i x,e.items[i]?=some x->(rdN C ⟨p+(headL K e i).length,false⟩ 4=x.pv/\amV C ⟨p+(headL K e i).length,false⟩=⟨p+(headL K e i).length+4,false⟩/\rdN C ⟨p+(headL K e i).length+4,false⟩ 1=x.pl/\amL C ⟨p+(headL K e i).length,false⟩=⟨p+(headL K e i).length+5,false⟩/\rdN C ⟨p+(headL K e i).length+5,false⟩ 2=((withinL K e i).length:Int)/\num C ⟨p+(headL K e i).length+5,false⟩ 2 0 32000=⟨p+(headL K e (i+1)).length,false⟩):=by
   intro i x hx
   have hs:=item_sits h hx
   have hi:itemB e.kind x (withinL K e i).length=numB x.pv 4++numB x.pl 1++numB (withinL K e i).length 2:=by
     unfold itemB
     rw [if_pos hk]
   rw [hi] at hs
   have hx2:=hr x (List.mem_of_getElem? hx)
   obtain ⟨l0,l1,v0,v1,_⟩:=M.isP_iff.1 hx2
   have hs1:=hs.left.left
   have hs2:=hs.left.right
   have hs3:=hs.right
   rw [List.length_append,numB_len,numB_len] at hs3
   rw [numB_len] at hs2
   have hwi:=withinL_le K e e.items.length i (Nat.le_of_lt (List.getElem?_eq_some_iff.1 hx).1)
   have hl:(headL K e (i+1)).length=(headL K e i).length+5+2:=by simp only [headL,hx,hi,List.length_append,numB_len]
   have a1:=(rd_num false (by decide) hs1 (by omega) (by rw [p256_4];omega)).2
   have a2:=num_ok false (lo:=0) (hi:=4294967295) (by decide) hs1 (by omega) (by rw [p256_4];omega) (by omega) (by omega)
   have a3:=(rd_num false (by decide) hs2 (by omega) (by rw [p256_1];omega)).2
   have a4:=num_ok false (lo:=0) (hi:=32) (by decide) hs2 (by omega) (by rw [p256_1];omega) (by omega) (by omega)
   have a5:=(rd_num false (by decide) hs3 (by omega) (by rw [p256_2];omega)).2
   have a6:=num_ok false (lo:=0) (hi:=32000) (by decide) hs3 (by omega) (by rw [p256_2];omega) (by omega) (by omega)
   have c1:amV C ⟨p+(headL K e i).length,false⟩=⟨p+(headL K e i).length+4,false⟩:=a2
   refine ⟨a1,c1,a3,?_,a5,?_⟩
   · unfold amL
     rw [c1,a1,a3,a4,if_pos hx2]
   · rw [hl];exact a6
 induction i with
 | zero =>
   intro _
   have e0:amR C ⟨p+2,false⟩ 0=⟨p+(headL K e 0).length,false⟩:=by rw [headL_two K e h2];rfl
   refine ⟨e0,fun hi=>?_⟩
   obtain ⟨x,hx⟩:∃ x,e.items[0]?=some x:=⟨e.items[0],List.getElem?_eq_getElem hi⟩
   obtain ⟨q1,q2,q3,q4,q5,q6⟩:=hrd 0 x hx
   unfold arV arL arW itV itL
   rw [e0,q1,q2,q3,q4,q5,hx]
   exact ⟨rfl,rfl,rfl⟩
 | succ i ih =>
   intro hi
   obtain ⟨h3,_⟩:=ih (by omega)
   obtain ⟨x,hx⟩:∃ x,e.items[i]?=some x:=⟨e.items[i],List.getElem?_eq_getElem (by omega)⟩
   obtain ⟨q1,q2,q3,q4,q5,q6⟩:=hrd i x hx
   have e1:amR C ⟨p+2,false⟩ (i+1)=⟨p+(headL K e (i+1)).length,false⟩:=by simp only [amR,h3,q4,q6]
   refine ⟨e1,fun hi'=>?_⟩
   obtain ⟨y,hy⟩:∃ y,e.items[i+1]?=some y:=⟨e.items[i+1],List.getElem?_eq_getElem hi'⟩
   obtain ⟨r1,r2,r3,r4,r5,r6⟩:=hrd (i+1) y hy
   unfold arV arL arW itV itL
   rw [e1,r1,r2,r3,r4,r5,hy]
   exact ⟨rfl,rfl,rfl⟩
theorem rg_read {C:List Int} {p:Nat} {K:List (List Int)} {e:EX} (hk:e.kind=103) (h2:(exprB e).length=2) (hr:∀ x∈e.items,0<=x.num/\x.num<=99) (hw:(withinL K e e.items.length).length<=32000) (h:Sits C p (headL K e e.items.length)) :
   ∀ i,i<=e.items.length->rgR C ⟨p+2,false⟩ i=⟨p+(headL K e i).length,false⟩/\(∀ x,e.items[i]?=some x->rgN C ⟨p+2,false⟩ i=x.num/\rgW C ⟨p+2,false⟩ i=((withinL K e i).length:Int)):=by
 intro i
 have hrd:∀ i x,e.items[i]?=some x->(rdN C ⟨p+(headL K e i).length,false⟩ 1=x.num/\num C ⟨p+(headL K e i).length,false⟩ 1 0 99=⟨p+(headL K e i).length+1,false⟩/\rdN C ⟨p+(headL K e i).length+1,false⟩ 2=((withinL K e i).length:Int)/\num C ⟨p+(headL K e i).length+1,false⟩ 2 0 32000=⟨p+(headL K e (i+1)).length,false⟩):=by
   intro i x hx
   have hs:=item_sits h hx
   have hi:itemB e.kind x (withinL K e i).length=numB x.num 1++numB (withinL K e i).length 2:=by
     unfold itemB
     rw [if_neg (by omega),if_pos hk]
   rw [hi] at hs
   have hx2:=hr x (List.mem_of_getElem? hx)
   have hs1:=hs.left
   have hs2:=hs.right
   rw [numB_len] at hs2
   have hwi:=withinL_le K e e.items.length i (Nat.le_of_lt (List.getElem?_eq_some_iff.1 hx).1)
   have hl:(headL K e (i+1)).length=(headL K e i).length+1+2:=by simp only [headL,hx,hi,List.length_append,numB_len]
   refine ⟨(rd_num false (by decide) hs1 (by omega) (by rw [p256_1];omega)).2,num_ok false (by decide) hs1 (by omega) (by rw [p256_1];omega) (by omega) (by omega),(rd_num false (by decide) hs2 (by omega) (by rw [p256_2];omega)).2,?_⟩
   rw [num_ok false (by decide) hs2 (by omega) (by rw [p256_2];omega) (by omega) (by omega),hl]
   rfl
 induction i with
 | zero =>
   intro _
   have e0:rgR C ⟨p+2,false⟩ 0=⟨p+(headL K e 0).length,false⟩:=by rw [headL_two K e h2];rfl
   refine ⟨e0,fun x hx=>?_⟩
   obtain ⟨q1,q2,q3,q4⟩:=hrd 0 x hx
   unfold rgN rgW
   rw [e0,q1,q2,q3]
   exact ⟨rfl,rfl⟩
 | succ i ih =>
   intro hi
   obtain ⟨h3,_⟩:=ih (by omega)
   obtain ⟨x,hx⟩:∃ x,e.items[i]?=some x:=⟨e.items[i],List.getElem?_eq_getElem (by omega)⟩
   obtain ⟨q1,q2,q3,q4⟩:=hrd i x hx
   have e1:rgR C ⟨p+2,false⟩ (i+1)=⟨p+(headL K e (i+1)).length,false⟩:=by simp only [rgR,h3,q2,q4]
   refine ⟨e1,fun y hy=>?_⟩
   obtain ⟨r1,r2,r3,r4⟩:=hrd (i+1) y hy
   unfold rgN rgW
   rw [e1,r1,r2,r3]
   exact ⟨rfl,rfl⟩
end Go.Proofs.YtaebngpoagjafaaGreat
namespace Go.Proofs.YtaebngpoagjafaaGreat
def RunsTo (W:RW) (C:List Int) (s:RT) (k:Nat) (R:List Int×Int×Int):Prop:=1<=k/\(∀ f,f<k->runF W C f s=(11,[],0,0))/\∀ f,k<=f->runF W C f s=(0,R)
theorem run_last {W:RW} {C:List Int} {s t:RT} (h:stepF W C s=(t,true)) (hb:t.r.b=false):RunsTo W C s 1 (t.sv,t.ttl,t.sc):=by
 refine ⟨Nat.le_refl _,fun f hf=>?_,fun f hf=>?_⟩
 · have:f=0:=by omega
   subst this;rfl
 · obtain ⟨f,rfl⟩:∃ g,f=g+1:=⟨f-1,by omega⟩
   simp only [runF,h,hb]
   rfl
theorem run_next {W:RW} {C:List Int} {s t:RT} {k:Nat} {R:List Int×Int×Int} (h:stepF W C s=(t,false)) (hb:t.r.b=false) (hr:RunsTo W C t k R):RunsTo W C s (k+1) R:=by
 obtain ⟨h0,h1,h2⟩:=hr
 refine ⟨by omega,fun f hf=>?_,fun f hf=>?_⟩
 · cases f with
   | zero=>rfl
   | succ f =>
     simp only [runF,h,hb]
     exact h1 f (by omega)
 · obtain ⟨f,rfl⟩:∃ g,f=g+1:=⟨f-1,by omega⟩
   simp only [runF,h,hb]
   exact h2 f (by omega)
def least (a b:Int):Int:=if a<b then a else b
theorem ch_read {W:RW} {C:List Int} {p:Nat} {K:List (List Int)} {e:EX} (hk:e.kind=123\/e.kind=102) (h2:(exprB e).length=2) (hr:∀ x∈e.items,0<=x.num/\x.num<=63) (h:Sits C p (headL K e e.items.length)) :
   ∀ n i,i+n=e.items.length->match chG W C ⟨p+2,false⟩ i n with
     | some k=>k<e.items.length/\∃ x,e.items[k]?=some x/\(e.items.drop i).find? (fun x=>upW W x.num)=some x
     | none=>(e.items.drop i).find? (fun x=>upW W x.num)=none:=by
 intro n
 induction n with
 | zero =>
   intro i hi
   simp only [chG]
   rw [List.drop_eq_nil_of_le (by omega)];rfl
 | succ n ih =>
   intro i hi
   obtain ⟨x,hx⟩:∃ x,e.items[i]?=some x:=⟨e.items[i],List.getElem?_eq_getElem (by omega)⟩
   have h3:=(sv_read hk h2 hr h i (by omega)).2.2 x hx
   have hdr:e.items.drop i=x::e.items.drop (i+1):=by
     rw [List.drop_eq_getElem_cons (by omega)]
     have:=(List.getElem?_eq_some_iff.1 hx).2
     rw [this]
   simp only [chG,h3]
   rw [hdr]
   by_cases hu:upW W x.num=true
   · rw [if_pos hu]
     exact ⟨by omega,x,hx,by simp [hu]⟩
   · rw [if_neg hu]
     have h4:=ih (i+1) (by omega)
     simp only [List.find?_cons]
     have hu2:upW W x.num=false:=by simpa using hu
     rw [hu2]
     exact h4
theorem rg_pick {W:RW} {C:List Int} {p:Nat} {K:List (List Int)} {e:EX} (hk:e.kind=103) (h2:(exprB e).length=2) (hr:∀ x∈e.items,0<=x.num/\x.num<=99) (hw:(withinL K e e.items.length).length<=32000) (h:Sits C p (headL K e e.items.length)) (hone:∀ (a b:Nat) (x y:IM),e.items[a]?=some x->e.items[b]?=some y->x.num=y.num->a=b) :
   (∃ (k:Nat) (x:IM),e.items[k]?=some x/\e.items.find? (fun x=>x.num==W.reg)=some x/\rgT W C ⟨p+2,false⟩ e.items.length=((withinL K e k).length:Int))\/(e.items.find? (fun x=>x.num==W.reg)=none/\rgT W C ⟨p+2,false⟩ e.items.length=0):=by
 have hrd:=fun i hi=>(rg_read hk h2 hr hw h i hi).2
 cases hf:e.items.find? (fun x=>x.num==W.reg) with
 | none =>
   right
   refine ⟨rfl,?_⟩
   have hno:∀ x∈e.items,¬ x.num=W.reg:=fun x hx=>by
     have:=List.find?_eq_none.1 hf x hx
     simpa using this
   have:∀ i,i<=e.items.length->rgT W C ⟨p+2,false⟩ i=0:=by
     intro i
     induction i with
     | zero=>intro _;rfl
     | succ i ih =>
       intro hi
       obtain ⟨x,hx⟩:∃ x,e.items[i]?=some x:=⟨e.items[i],List.getElem?_eq_getElem (by omega)⟩
       have h3:=hrd i (by omega) x hx
       simp only [rgT,h3.1]
       rw [if_neg (hno x (List.mem_of_getElem? hx))]
       exact ih (by omega)
   exact this _ (Nat.le_refl _)
 | some x =>
   left
   have hm:=List.mem_of_find?_eq_some hf
   have hreg:x.num=W.reg:=by have:=List.find?_some hf;simpa using this
   obtain ⟨k,hk2⟩:=List.getElem?_of_mem hm
   refine ⟨k,x,hk2,rfl,?_⟩
   have hkl:k<e.items.length:=(List.getElem?_eq_some_iff.1 hk2).1
   have:∀ i,i<=e.items.length->rgT W C ⟨p+2,false⟩ i=if k<i then ((withinL K e k).length:Int) else 0:=by
     intro i
     induction i with
     | zero=>intro _;simp [rgT]
     | succ i ih =>
       intro hi
       obtain ⟨y,hy⟩:∃ y,e.items[i]?=some y:=⟨e.items[i],List.getElem?_eq_getElem (by omega)⟩
       have h3:=hrd i (by omega) y hy
       simp only [rgT,h3.1]
       by_cases hyr:y.num=W.reg
       · have:i=k:=hone i k y x hy hk2 (by rw [hyr,hreg])
         subst this
         rw [if_pos hyr,if_pos (by omega),h3.2]
       · rw [if_neg hyr,ih (by omega)]
         have:i≠k:=fun e'=>by subst e';rw [hk2] at hy;cases hy;exact hyr hreg
         by_cases h4:k<i
         · rw [if_pos h4,if_pos (by omega)]
         · rw [if_neg h4,if_neg (by omega)]
   rw [this _ (Nat.le_refl _),if_pos hkl]
theorem run_enc {W:RW} {E:List EX} {j:Nat} (h:GD E j):szR E (j+1)<=1000->∀ (C:List Int) (p:Nat) (ttl sc:Int),Sits C p (encN E (j+1))->ttl<=86400->0<=sc ->
   ∃ k,k<=(encN E (j+1)).length/\RunsTo W C ⟨⟨p,false⟩,[],ttl,sc⟩ k ((mnN W E (j+1)).sv,least (mnN W E (j+1)).ttl ttl,nar (mnN W E (j+1)).sc sc):=by
 induction h with
 | @servers j e he hk h0 h16 hit hin =>
   intro hsz C p ttl sc hS ht hs
   have hm:mnN W E (j+1)=⟨e.items.map IM.num,86400,0⟩:=by simp only [mnN,he,mnE];rw [if_pos hk]
   have hen:encN E (j+1)=headL (encK E j) e e.items.length++withinL (encK E j) e e.items.length:=by simp only [encN,he,encE];rw [if_neg (by omega)]
   rw [hen] at hS ⊢
   obtain ⟨a1,a2,a3,a4,a5⟩:=hd_two (.inl hk) h0 h16 (expr_sits hS.left)
   have hrd:=sv_read (K:=encK E j) (.inl hk) a5 (fun x hx=>⟨(hit x hx).1,(hit x hx).2.1⟩) hS.left e.items.length (Nat.le_refl _)
   have hst:stepF W C ⟨⟨p,false⟩,[],ttl,sc⟩=(⟨⟨p+(headL (encK E j) e e.items.length).length,false⟩,e.items.map IM.num,ttl,sc⟩,true):=by
     simp only [stepF,a1,hk,a2,stServers,a3,a4,hrd.1,hrd.2.1]
     simp [List.take_of_length_le]
   have hl:=headL_len (encK E j) e e.items.length
   refine ⟨1,by rw [List.length_append];omega,?_⟩
   have h9:=run_last hst rfl
   rw [hm]
   have e1:least 86400 ttl=ttl:=by unfold least;rw [if_neg (by omega)]
   have e2:nar 0 sc=sc:=by unfold nar;rw [if_neg (by omega)]
   simp only [e1,e2]
   exact h9
 | @alias j e he hk h0 h15 hit hin =>
   intro hsz C p ttl sc hS ht hs
   have hm:mnN W E (j+1)=⟨(W.al[e.nv.toNat]?).getD [],86400,0⟩:=by simp only [mnN,he,mnE];rw [if_neg (by omega),if_pos hk]
   have hen:encN E (j+1)=numB e.kind 1++numB e.nv 1++atL (encK E j) e.inner:=by
     simp only [encN,he,encE]
     rw [if_neg (by omega),hit]
     simp only [List.length_nil,headL,withinL,exprB]
     rw [if_neg (by omega),if_pos hk]
   rw [hen] at hS ⊢
   have s1:=hS.left.left
   have s2:=hS.left.right
   rw [numB_len] at s2
   have b1:=rd_num (b:=false) (by decide) s1 (by omega) (by rw [p256_1];omega)
   have b2:=(rd_num (b:=false) (by decide) s2 h0 (by rw [p256_1];omega)).2
   have b3:=num_ok (b:=false) (lo:=0) (hi:=15) (by decide) s2 h0 (by rw [p256_1];omega) h0 h15
   have a1:nxV C ⟨p,false⟩=e.kind:=by have:=b1.2;simpa [rdN,rdAt,p256] using this
   have a2:nx C ⟨p,false⟩=⟨p+1,false⟩:=b1.1
   have hst:stepF W C ⟨⟨p,false⟩,[],ttl,sc⟩=(⟨⟨p+1+1,false⟩,(W.al[e.nv.toNat]?).getD [],ttl,sc⟩,true):=by
     simp only [stepF,a1,hk,a2,stAlias,b2,b3]
     simp
   refine ⟨1,by simp [List.length_append,numB_len],?_⟩
   have h9:=run_last hst rfl
   rw [hm]
   have e1:least 86400 ttl=ttl:=by unfold least;rw [if_neg (by omega)]
   have e2:nar 0 sc=sc:=by unfold nar;rw [if_neg (by omega)]
   simp only [e1,e2]
   exact h9
 | @name j i e he hk hit hin hij _ ih =>
   intro hsz C p ttl sc hS ht hs
   have hp:=sz_parts he hsz
   have hszi:szR E (i+1)<=1000:=by
     have:=hp.2.1
     rw [hin,atF_sz,if_neg (by omega),if_pos (by omega),Int.toNat_natCast] at this
     exact this
   have hm:mnN W E (j+1)=mnN W E (i+1):=by simp only [mnN,he,mnE];rw [if_neg (by omega),if_neg (by omega),if_pos hk,hin,atM_mn W E hij];rfl
   have hen:encN E (j+1)=encN E (i+1):=by simp only [encN,he,encE];rw [if_pos hk,hin,atL_en E hij];rfl
   rw [hm,hen]
   rw [hen] at hS
   exact ih hszi C p ttl sc hS ht hs
 | @ttl j i e he hk h1 h2 hit hin hij _ ih =>
   intro hsz C p ttl sc hS ht hs
   have hp:=sz_parts he hsz
   have hszi:szR E (i+1)<=1000:=by
     have:=hp.2.1
     rw [hin,atF_sz,if_neg (by omega),if_pos (by omega),Int.toNat_natCast] at this
     exact this
   have hm:mnN W E (j+1)=⟨(mnN W E (i+1)).sv,if e.nv<(mnN W E (i+1)).ttl then e.nv else (mnN W E (i+1)).ttl,(mnN W E (i+1)).sc⟩:=by
     rw [<- atM_mn W E hij,<- hin]
     simp only [mnN,he,mnE];rw [if_neg (by omega),if_neg (by omega),if_neg (by omega),if_pos hk]
   have hen:encN E (j+1)=numB e.kind 1++numB e.nv 3++encN E (i+1):=by
     rw [<- atL_en E hij,<- hin]
     simp only [encN,he,encE]
     rw [if_neg (by omega),hit]
     simp only [List.length_nil,headL,withinL,exprB]
     rw [if_pos hk]
   rw [hen] at hS ⊢
   have s1:=hS.left.left
   have s2:=hS.left.right
   have s3:=hS.right
   rw [numB_len] at s2
   rw [List.length_append,numB_len,numB_len] at s3
   have b1:=rd_num (b:=false) (by decide) s1 (by omega) (by rw [p256_1];omega)
   have b2:=(rd_num (b:=false) (by decide) s2 (by omega) (by rw [p256_3];omega)).2
   have b3:=num_ok (b:=false) (lo:=1) (hi:=86400) (by decide) s2 (by omega) (by rw [p256_3];omega) h1 h2
   have a1:nxV C ⟨p,false⟩=e.kind:=by have:=b1.2;simpa [rdN,rdAt,p256] using this
   have a2:nx C ⟨p,false⟩=⟨p+1,false⟩:=b1.1
   have hst:stepF W C ⟨⟨p,false⟩,[],ttl,sc⟩=(⟨⟨p+(1+3),false⟩,[],if e.nv<ttl then e.nv else ttl,sc⟩,false):=by
     simp only [stepF,a1,hk,a2,stSeconds,b2,b3]
     simp [Nat.add_assoc]
   obtain ⟨k,hk1,hk2⟩:=ih hszi C (p+(1+3)) (if e.nv<ttl then e.nv else ttl) sc s3 (by split<;>omega) hs
   refine ⟨k+1,by simp only [List.length_append,numB_len];omega,?_⟩
   have h9:=run_next hst rfl hk2
   rw [hm]
   have e1:least (mnN W E (i+1)).ttl (if e.nv<ttl then e.nv else ttl)=least (if e.nv<(mnN W E (i+1)).ttl then e.nv else (mnN W E (i+1)).ttl) ttl:=by
     unfold least
     repeat' split
     all_goals omega
   rw [e1] at h9
   exact h9
 | @list j i e he hk h0 h16 hit hin hij _ ih =>
   intro hsz C p ttl sc hS ht hs
   have hp:=sz_parts he hsz
   have hszi:szR E (i+1)<=1000:=by
     have:=hp.2.1
     rw [hin,atF_sz,if_neg (by omega),if_pos (by omega),Int.toNat_natCast] at this
     exact this
   have hen:encN E (j+1)=headL (encK E j) e e.items.length++withinL (encK E j) e e.items.length:=by simp only [encN,he,encE];rw [if_neg (by omega)]
   rw [hen] at hS ⊢
   have s3:=inner_sits hS.right
   rw [hin,atL_en E hij] at s3
   have hwl:=withinL_le (encK E j) e e.items.length 0 (Nat.zero_le _)
   simp only [withinL] at hwl
   rw [hin,atL_en E hij] at hwl
   obtain ⟨a1,a2,a3,a4,a5⟩:=hd_two (C:=C) (p:=p) (by omega) h0 h16 (expr_sits hS.left)
   have hl:=headL_len (encK E j) e e.items.length
   have e1:least 86400 ttl=ttl:=by unfold least;rw [if_neg (by omega)]
   have e2:nar 0 sc=sc:=by unfold nar;rw [if_neg (by omega)]
   obtain ⟨k,hk1,hk2⟩:=ih hszi C (p+(headL (encK E j) e e.items.length).length) ttl sc s3 ht hs
   rcases hk with hk | hk
   · have hrd:=me_read (W:=W) (K:=encK E j) hk a5 (fun x hx=>⟨(hit x hx).1,(hit x hx).2.1,(hit x hx).2.2.2 hk⟩) hS.left e.items.length (Nat.le_refl _)
     rw [List.take_of_length_le (Nat.le_refl _)] at hrd
     have hm:mnN W E (j+1)=(match poolM W e.items with | some x=>⟨[x],86400,0⟩ | none=>mnN W E (i+1)):=by
       rw [<- atM_mn W E hij,<- hin]
       simp only [mnN,he,mnE];rw [if_neg (by omega),if_neg (by omega),if_neg (by omega),if_neg (by omega),if_pos hk]<;>rfl
     have hst:stepF W C ⟨⟨p,false⟩,[],ttl,sc⟩=(match poolM W e.items with | some x=>(⟨⟨p+(headL (encK E j) e e.items.length).length,false⟩,[x],ttl,sc⟩,true) | none=>(⟨⟨p+(headL (encK E j) e e.items.length).length,false⟩,[],ttl,sc⟩,false)):=by
       simp only [stepF,a1,hk,a2,stPool,a3,a4,hrd.1,hrd.2,poolM]
       simp only [show ((119:Int)=123)=False from by simp,if_false,if_true]
       by_cases h8:suL (mbL W e.items)<=0
       · rw [if_pos h8,if_pos h8]
       · rw [if_neg h8,if_neg h8]
         cases pkL (mbL W e.items) (W.draw%suL (mbL W e.items))<;>simp
     cases hq:poolM W e.items with
     | some x =>
       rw [hq] at hst hm
       refine ⟨1,by rw [List.length_append];omega,?_⟩
       have h9:=run_last hst rfl
       rw [hm]
       simp only [e1,e2]
       exact h9
     | none =>
       rw [hq] at hst hm
       refine ⟨k+1,by rw [List.length_append];omega,?_⟩
       rw [hm]
       exact run_next hst rfl hk2
   · have hrg:∀ x∈e.items,0<=x.num/\x.num<=63:=fun x hx=>⟨(hit x hx).1,(hit x hx).2.1⟩
     have hrd:=sv_read (K:=encK E j) (.inr hk) a5 hrg hS.left
     have hch:=ch_read (W:=W) (K:=encK E j) (.inr hk) a5 hrg hS.left e.items.length 0 (by omega)
     rw [List.drop_zero] at hch
     have hm:mnN W E (j+1)=(match chainM W e.items with | some x=>⟨[x],86400,0⟩ | none=>mnN W E (i+1)):=by
       rw [<- atM_mn W E hij,<- hin]
       simp only [mnN,he,mnE];rw [if_neg (by omega),if_neg (by omega),if_neg (by omega),if_neg (by omega),if_neg (by omega),if_pos hk]<;>rfl
     cases hq:chG W C ⟨p+2,false⟩ 0 e.items.length with
     | some n =>
       rw [hq] at hch
       obtain ⟨hn,x,hx,hfx⟩:=hch
       have h6:=hrd n (by omega)
       have h7:=hrd (n+1) (by omega)
       have hst:stepF W C ⟨⟨p,false⟩,[],ttl,sc⟩=(⟨⟨p+(headL (encK E j) e (n+1)).length,false⟩,[x.num],ttl,sc⟩,true):=by
         simp only [stepF,a1,hk,a2,stChain,a3,a4,hq,h7.1,h6.2.2 x hx]
         simp
       have hcm:chainM W e.items=some x.num:=by unfold chainM;rw [hfx];rfl
       rw [hcm] at hm
       refine ⟨1,by rw [List.length_append];omega,?_⟩
       have h9:=run_last hst rfl
       rw [hm]
       simp only [e1,e2]
       exact h9
     | none =>
       rw [hq] at hch
       have h7:=hrd e.items.length (Nat.le_refl _)
       have hst:stepF W C ⟨⟨p,false⟩,[],ttl,sc⟩=(⟨⟨p+(headL (encK E j) e e.items.length).length,false⟩,[],ttl,sc⟩,false):=by
         simp only [stepF,a1,hk,a2,stChain,a3,a4,hq,h7.1]
         simp
       have hcm:chainM W e.items=none:=by unfold chainM;rw [hch];rfl
       rw [hcm] at hm
       refine ⟨k+1,by rw [List.length_append];omega,?_⟩
       rw [hm]
       exact run_next hst rfl hk2
 | @maps j i e an he hk h0 h16 hit h103 h109 harm _ hin hij _ iha ih =>
   intro hsz C p ttl sc hS ht hs
   have hp:=sz_parts he hsz
   have hszi:szR E (i+1)<=1000:=by
     have:=hp.2.1
     rw [hin,atF_sz,if_neg (by omega),if_pos (by omega),Int.toNat_natCast] at this
     exact this
   have hsza:∀ (n:Nat) (x:IM),e.items[n]?=some x->szR E (an n+1)<=1000:=fun n x hx=>by
     have:=hp.2.2.1 n x hx
     have h8:=harm n x hx
     rw [h8.1,atF_sz,if_neg (by omega),if_pos (by omega),Int.toNat_natCast] at this
     exact this
   have hle:=enc_le E (j+1) hsz
   have hen:encN E (j+1)=headL (encK E j) e e.items.length++withinL (encK E j) e e.items.length:=by simp only [encN,he,encE];rw [if_neg (by omega)]
   rw [hen] at hS hle ⊢
   rw [List.length_append] at hle
   have hw:(withinL (encK E j) e e.items.length).length<=32000:=by omega
   have s3:=inner_sits hS.right
   rw [hin,atL_en E hij] at s3
   have hwl:=withinL_le (encK E j) e e.items.length 0 (Nat.zero_le _)
   simp only [withinL] at hwl
   rw [hin,atL_en E hij] at hwl
   obtain ⟨a1,a2,a3,a4,a5⟩:=hd_two (C:=C) (p:=p) (by omega) h0 h16 (expr_sits hS.left)
   have hl:=headL_len (encK E j) e e.items.length
   have hnn:∀ a b c:Int,nar a (nar b c)=nar (nar b a) c:=by
     intro a b c
     unfold nar
     repeat' split
     all_goals omega
   have hnp:∀ d:Int,0<=nar d sc:=by intro d;unfold nar;split<;>omega
   -- the arm number n
   have hgo:∀ (n:Nat) (x:IM) (d:Int),e.items[n]?=some x->∃ k,k+1<=(headL (encK E j) e e.items.length).length+(withinL (encK E j) e e.items.length).length/\RunsTo W C ⟨⟨p+(headL (encK E j) e e.items.length).length+(withinL (encK E j) e n).length,false⟩,[],ttl,nar d sc⟩ k ((mnN W E (an n+1)).sv,least (mnN W E (an n+1)).ttl ttl,nar (nar d (mnN W E (an n+1)).sc) sc):=by
     intro n x d hx
     have hnl:n<e.items.length:=(List.getElem?_eq_some_iff.1 hx).1
     have h8:=harm n x hx
     have s4:=arm_sits hS.right hx
     rw [h8.1,atL_en E h8.2] at s4
     obtain ⟨k,hk1,hk2⟩:=iha n hnl (hsza n x hx) C _ ttl (nar d sc) s4 ht (hnp d)
     rw [hnn] at hk2
     have hwn:=withinL_le (encK E j) e e.items.length (n+1) hnl
     simp only [withinL,hx,List.length_append] at hwn
     rw [h8.1,atL_en E h8.2] at hwn
     exact ⟨k,by omega,hk2⟩
   have hgi:∀ d:Int,∃ k,k+1<=(headL (encK E j) e e.items.length).length+(withinL (encK E j) e e.items.length).length/\RunsTo W C ⟨⟨p+(headL (encK E j) e e.items.length).length,false⟩,[],ttl,nar d sc⟩ k ((mnN W E (i+1)).sv,least (mnN W E (i+1)).ttl ttl,nar (nar d (mnN W E (i+1)).sc) sc):=by
     intro d
     obtain ⟨k,hk1,hk2⟩:=ih hszi C _ ttl (nar d sc) s3 ht (hnp d)
     rw [hnn] at hk2
     exact ⟨k,by omega,hk2⟩
   rcases hk with hk | hk
   · have hrd:=am_read (K:=encK E j) hk a5 (fun x hx=>(hit x hx).1 hk) hw hS.left
     have hcg:=bestTo_congr (a:=W.addr) e.items.length (fun n hn=>⟨((hrd n (by omega)).2 hn).1,((hrd n (by omega)).2 hn).2.1⟩)
     have hm:mnN W E (j+1)=⟨(atM (mnK W E j) (prefM W e)).sv,(atM (mnK W E j) (prefM W e)).ttl,nar (M.depTo (itV e) (itL e) W.addr e.items.length) (atM (mnK W E j) (prefM W e)).sc⟩:=by
       simp only [mnN,he,mnE];rw [if_neg (by omega),if_neg (by omega),if_neg (by omega),if_neg (by omega),if_neg (by omega),if_neg (by omega),if_pos hk]
     have hst:stepF W C ⟨⟨p,false⟩,[],ttl,sc⟩=(⟨⟨p+(headL (encK E j) e e.items.length).length+(if M.bestTo (itV e) (itL e) W.addr e.items.length<0 then 0 else (arW C ⟨p+2,false⟩ (M.bestTo (itV e) (itL e) W.addr e.items.length).toNat).toNat),false⟩,[],ttl,nar (M.depTo (itV e) (itL e) W.addr e.items.length) sc⟩,false):=by
       simp only [stepF,a1,hk,a2,stPrefixes,a3,a4,(hrd e.items.length (Nat.le_refl _)).1,hcg.1,hcg.2.2]
       simp
     have hbl:=best_lt (V:=itV e) (L:=itL e) (a:=W.addr) e.items.length
     by_cases hb:M.bestTo (itV e) (itL e) W.addr e.items.length<0
     · rw [if_pos hb] at hst
       have hpm:prefM W e=(i:Int):=by unfold prefM;rw [if_pos hb,hin]
       rw [hpm,atM_mn W E hij] at hm
       obtain ⟨k,hk1,hk2⟩:=hgi (M.depTo (itV e) (itL e) W.addr e.items.length)
       refine ⟨k+1,by rw [List.length_append];exact hk1,?_⟩
       rw [hm]
       exact run_next hst rfl hk2
     · rw [if_neg hb] at hst
       obtain ⟨n,hn⟩:∃ n:Nat,M.bestTo (itV e) (itL e) W.addr e.items.length=n:=⟨(M.bestTo (itV e) (itL e) W.addr e.items.length).toNat,by omega⟩
       rw [hn,Int.toNat_natCast] at hst
       have hnl:n<e.items.length:=by omega
       obtain ⟨x,hx⟩:∃ x,e.items[n]?=some x:=⟨e.items[n],List.getElem?_eq_getElem hnl⟩
       have h8:=harm n x hx
       have hpm:prefM W e=(an n:Int):=by unfold prefM;rw [if_neg hb,hn,Int.toNat_natCast,hx];exact h8.1
       rw [hpm,atM_mn W E h8.2] at hm
       rw [((hrd n (by omega)).2 hnl).2.2,Int.toNat_natCast] at hst
       obtain ⟨k,hk1,hk2⟩:=hgo n x (M.depTo (itV e) (itL e) W.addr e.items.length) hx
       refine ⟨k+1,by rw [List.length_append];exact hk1,?_⟩
       rw [hm]
       exact run_next hst rfl hk2
   · have hrg:∀ x∈e.items,0<=x.num/\x.num<=99:=fun x hx=>(hit x hx).2 hk
     have hrd:=rg_read (K:=encK E j) hk a5 hrg hw hS.left
     have hm:mnN W E (j+1)=⟨(atM (mnK W E j) (regM W e)).sv,(atM (mnK W E j) (regM W e)).ttl,nar W.dep (atM (mnK W E j) (regM W e)).sc⟩:=by
       simp only [mnN,he,mnE];rw [if_neg (by omega),if_neg (by omega),if_neg (by omega),if_neg (by omega),if_neg (by omega),if_neg (by omega),if_neg (by omega)]
     have hst:stepF W C ⟨⟨p,false⟩,[],ttl,sc⟩=(⟨⟨p+(headL (encK E j) e e.items.length).length+(rgT W C ⟨p+2,false⟩ e.items.length).toNat,false⟩,[],ttl,nar W.dep sc⟩,false):=by
       simp only [stepF,a1,hk,a2,stRegions,a3,a4,(hrd e.items.length (Nat.le_refl _)).1]
       simp
     rcases rg_pick (W:=W) (K:=encK E j) hk a5 hrg hw hS.left (h103 hk) with ⟨n,x,hx,hf,hway⟩ | ⟨hf,hway⟩
     · have h8:=harm n x hx
       have hpm:regM W e=(an n:Int):=by unfold regM;rw [hf];exact h8.1
       rw [hpm,atM_mn W E h8.2] at hm
       rw [hway,Int.toNat_natCast] at hst
       obtain ⟨k,hk1,hk2⟩:=hgo n x W.dep hx
       refine ⟨k+1,by rw [List.length_append];exact hk1,?_⟩
       rw [hm]
       exact run_next hst rfl hk2
     · have hpm:regM W e=(i:Int):=by unfold regM;rw [hf];exact hin
       rw [hpm,atM_mn W E hij] at hm
       rw [hway] at hst
       obtain ⟨k,hk1,hk2⟩:=hgi W.dep
       refine ⟨k+1,by rw [List.length_append];exact hk1,?_⟩
       rw [hm]
       exact run_next hst rfl hk2
end Go.Proofs.YtaebngpoagjafaaGreat
