import Derived.Test.YtaebngpoagjafabGreatU54
set_option maxRecDepth 100000
namespace Go.Proofs.YtaebngpoagjafabGreat
section
open Go.ChangeShapes Go.WideShapes Go.ChangeAt Go.RowKit
theorem Qj (os:Os) (started:os.Started) (H:Type) (enc:TypeId×Value->H) :
 ReturnsInHanded {} Tryz.checked os 3 .any (Rows.servesSpec.pre6 enc Tryz.prog Tryz.f3 Rows.servesRow.domain false) (Rows.servesSpec.post enc Tryz.prog Tryz.f3 false true false false):=by
 refine returnsInHanded_of_change_sized (C:=Tryz.checked) own started (by kernel_rfl) Tryz.func3
  (ChangeSpec.witness6 (enc:=enc) (C:=Tryz.checked) false ⟨#[],#[.slice none 0 0,.slice none 0 0],[]⟩ 8 (by kernel_rfl) (by kernel_rfl) (by kernel_rfl) (by kernel_rfl)) ?_
 intro W B f ds gs D a Y V u _
 have b:∀ (j:Nat) t v,Tryz.f3.params[j]?=some t->f[j]?=some v->Value.okWide Tryz.prog W .any B t v:=a
 have g:(DataW.weightsEach Tryz.prog (Tryz.f3.params.toList++Rows.servesSpec.plain.varTypes Tryz.prog) (ds++gs)).all (·<=reachBytes)=true:=u
 have N:=Y
 obtain ⟨p,q,z,hV,rfl,a3,a2⟩:=Y
 have Z:DataW.TrodAll enc Tryz.prog W 0 (fun _=>true) true Tryz.f3.params.toList f.toList ds p:=z
 rw [Tryz.params3] at Z b g
 obtain ⟨v0,v1,d0,d1,p0,Q,rfl,rfl,rfl,h0,h1⟩:=trodAll_two Z
 obtain ⟨rfl,rfl⟩:=trodVars_none hV
 obtain ⟨a0,s,A,rfl⟩:=okWide_slice Tryz.underlying22 (b 0 22 v0 rfl rfl)
 obtain ⟨a1,d,Za,rfl⟩:=okWide_slice Tryz.underlying23 (b 1 23 v1 rfl rfl)
 have U:=h0
 have R:=h1
 have F:∀ x∈p0,x.block<W.heap.size:=by obtain ⟨m,w⟩:=U;exact DataW.trod_lt m _ _ _ w
 have E:∀ x∈Q,x.block<W.heap.size:=by obtain ⟨m,w⟩:=R;exact DataW.trod_lt m _ _ _ w
 obtain ⟨P,L⟩:=h0
 obtain ⟨n,J⟩:=h1
 have I:∀ k∈d0.weights Tryz.prog 22,k<=reachBytes:=fun k hk=>by
  have:=List.all_eq_true.1 g _ (DataW.weights_mem_each (j:=0) (t:=22) rfl rfl k hk)
  simpa using this
 have G:∀ k∈d1.weights Tryz.prog 23,k<=reachBytes:=fun k hk=>by
  have:=List.all_eq_true.1 g _ (DataW.weights_mem_each (j:=1) (t:=23) rfl rfl k hk)
  simpa using this
 have y:DataW.trod enc Tryz.prog W 0 (fun _=>true) true n 23 [.slice a1 d Za]=some (d1,Q):=by simpa [Value.cells] using J
 obtain ⟨hn,sb,r,K,OA,OB,OC,OD,S,O,l⟩:=zcE y G
 obtain ⟨w,wb,o,X,hX⟩:=zcC (by simpa [Value.cells] using L) I
 clear z a
 refine (jB a0 a1 wb o s A sb r d Za X K OA OB OC OD S W w hX hn O (fun i hi=>⟨(l i hi).1,(l i hi).2.1,(l i hi).2.2.1⟩)).mono fun e W' ⟨he,bel⟩=>?_
 subst he
 exact ⟨_,rfl,_,_,_,[],_,[],N,trodAll_mk1 (shut_bool Tryz.underlying4 _),(trodAll_mk2 (Below.trod zaj (by kernel_rfl) (of_decide_eq_true (by kernel_rfl)) U bel F) (Below.trod zaj (by kernel_rfl) (of_decide_eq_true (by kernel_rfl)) R bel E)),rfl,bel.frame _,fun h=>by cases h⟩
theorem serves_holds:Rows.ServesSaid :=
 OpenClaim.holds_of_wide 3 Tryz.f3 rfl rfl rfl rfl rfl rfl rfl ⟨rfl,rfl,rfl,rfl,rfl⟩ rfl rfl rfl rfl rfl (by kernel_rfl) Tryz.func3 (by kernel_rfl)
  (of_decide_eq_true (by kernel_rfl)) (by unfold Func.isWrapper;first | (rw [if_pos (by decide +kernel)];kernel_rfl) | (rw [if_neg (by decide +kernel)];exact ⟨rfl,rfl⟩))
  (fun os started H enc _=>Qj os started H enc)
#print axioms serves_holds
end
end Go.Proofs.YtaebngpoagjafabGreat
