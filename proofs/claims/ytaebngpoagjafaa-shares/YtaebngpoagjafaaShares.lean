import Derived.Test.YtaebngpoagjafaaJ31
set_option maxRecDepth 100000
namespace Go.Proofs.Ytaebngpoagjafaa
section
open Go.ChangeShapes Go.WideShapes Go.ChangeAt Go.RowKit
theorem xg (os:Os) (started:os.Started) (H:Type) (enc:TypeId×Value->H) :
 ReturnsInHanded {} Try.checked os 4 .any (Rows.sharesSpec.pre6 enc Try.prog Try.f4 Rows.sharesRow.domain false) (Rows.sharesSpec.post enc Try.prog Try.f4 false true false false):=by
 refine returnsInHanded_of_change_sized (C:=Try.checked) own started (by kernel_rfl) Try.func4
  (ChangeSpec.witness6 (enc:=enc) (C:=Try.checked) false ⟨#[],#[.slice none 0 0,.int .i64 0],[]⟩ 8 (by kernel_rfl) (by kernel_rfl) (by kernel_rfl) (by kernel_rfl)) ?_
 intro W base args ds gs before hval0 hW hcnd hsz0 _
 have hval:∀ (j:Nat) t v,Try.f4.params[j]?=some t->args[j]?=some v->Value.okWide Try.prog W .any base t v:=hval0
 have hsz:(DataW.weightsEach Try.prog (Try.f4.params.toList++Rows.sharesSpec.plain.varTypes Try.prog) (ds++gs)).all (·<=reachBytes)=true:=hsz0
 have hW':=hW
 obtain ⟨p,q,hA0,hV,rfl,hfz,hnd⟩:=hW
 have hA:DataW.TrodAll enc Try.prog W 0 (fun _=>true) true Try.f4.params.toList args.toList ds p:=hA0
 rw [Try.params4] at hA hval hsz
 obtain ⟨v0,v1,d0,d1,p0,p1,rfl,rfl,rfl,h0,h1⟩:=trodAll_two hA
 obtain ⟨rfl,rfl⟩:=trodVars_none hV
 obtain ⟨a0,len0,cap0,rfl⟩:=okWide_slice Try.underlying37 (hval 0 37 v0 rfl rfl)
 have k0:=h0
 have lt0:∀ x∈p0,x.block<W.heap.size:=by obtain ⟨m,hm⟩:=k0;exact DataW.trod_lt m _ _ _ hm
 obtain ⟨x1,rfl,rfl,rfl,wf1⟩:=open_int Try.underlying3 (hval 1 3 v1 rfl rfl) h1
 obtain ⟨fuel,hf⟩:=h0
 obtain ⟨⟨b,off,V,L,R,hTS⟩,hlen⟩:=xW (by simpa [Value.cells] using hf)
 have hn:len0*24<=140737488351232:=by
  rcases hlen with ⟨_,rfl⟩ | ⟨el,sp,rfl,hel⟩
  ·omega
  ·have:=sized_slice hsz (j:=0) (t:=37) (e:=41) rfl rfl Try.underlying37
   rw [jp,hel] at this
   simp only [reachBytes] at this
   omega
 have b1:=bounds_i64 wf1
 clear hA0 hval0
 refine (Xo a0 b off len0 cap0 V L R x1 W hn hTS b1.1 b1.2).mono fun e W' ⟨he,bel⟩=>?_
 subst he
 exact ⟨_,rfl,_,_,_,[],_,[],hW',trodAll_mk1 (shut_bool Try.underlying4 _),(trodAll_mk2 (Below.trod Jf (by kernel_rfl) (of_decide_eq_true (by kernel_rfl)) k0 bel lt0) (shut_int Try.underlying3 wf1)),rfl,bel.frame _,fun h=>by cases h⟩
theorem shares_holds:Rows.SharesSaid :=
 OpenClaim.holds_of_wide 4 Try.f4 rfl rfl rfl rfl rfl rfl rfl ⟨rfl,rfl,rfl,rfl,rfl⟩ rfl rfl rfl rfl rfl (by kernel_rfl) Try.func4 (by kernel_rfl)
  (of_decide_eq_true (by kernel_rfl)) (by unfold Func.isWrapper;first | (rw [if_pos (by decide +kernel)];kernel_rfl) | (rw [if_neg (by decide +kernel)];exact ⟨rfl,rfl⟩))
  (fun os started H enc _=>xg os started H enc)
#print axioms shares_holds
end
end Go.Proofs.Ytaebngpoagjafaa
