import Derived.Test.YtaebngpoagjafabGreatQ49
set_option maxRecDepth 100000
namespace Go.Proofs.YtaebngpoagjafabGreat
open Proofs.Tryz renaming prog → F
open Proofs.Tryz
section
open Go.ChangeShapes Go.WideShapes Go.ChangeAt Go.RowKit
theorem zaU(os:Os)(a:os.Started)(H:Type)(enc:TypeId×Value->H):
 ReturnsInHanded {} checked os 5 .any (Rows.allSpec.pre6 enc F f5 Rows.allRow.domain false) (Rows.allSpec.post enc F f5 false true false false):=by
 refine returnsInHanded_of_change_sized (C:=checked) own a kr func5
  (ChangeSpec.witness6 (enc:=enc) (C:=checked) false ⟨#[],#[.slice none 0 0,.slice none 0 0],[]⟩ 8 kr kr kr kr) ?_
 intro W U r ds gs Y d hW a8 G _;have f:∀(j:Nat) t v,Tryz.f5.params[j]?=some t->r[j]?=some v->Value.okWide F W .any U t v:=d;have s:(DataW.weightsEach F (Tryz.f5.params.toList++Rows.allSpec.plain.varTypes F) (ds++gs)).all (·<=reachBytes)=true:=G;have a6:=hW;obtain⟨p,q,P,hV,rfl,b0,a9⟩:=hW;have hA:DataW.TrodAll enc F W 0 (λ_=>true) true Tryz.f5.params.toList r.toList ds p:=P;rw[params5]at hA f s;obtain⟨v0,v1,d0,d1,p0,p1,rfl,rfl,rfl,h0,h1⟩:=trodAll_two hA;obtain⟨rfl,rfl⟩:=trodVars_none hV;obtain⟨a0,B,Q,rfl⟩:=okWide_slice underlying22 (f 0 22 v0 rfl rfl);obtain⟨a1,l,Zj,rfl⟩:=okWide_slice underlying23 (f 1 23 v1 rfl rfl);have k0:=h0;have k1:=h1;have a3:∀x∈p0,x.block<W.heap.size:=by obtain⟨m,J⟩:=k0;exact DataW.trod_lt m _ _ _ J
 have a2:∀x∈p1,x.block<W.heap.size:=by obtain⟨m,J⟩:=k1;exact DataW.trod_lt m _ _ _ J
 obtain⟨a7,N⟩:=h0;obtain⟨u,a4⟩:=h1;have E:∀k∈d0.weights F 22,k<=reachBytes:=λk hk=>by
  have:=List.all_eq_true.1 s _ (DataW.weights_mem_each (j:=0) (t:=22) rfl rfl k hk)
  simpa using this
 have D:∀k∈d1.weights F 23,k<=reachBytes:=λk hk=>by
  have:=List.all_eq_true.1 s _ (DataW.weights_mem_each (j:=1) (t:=23) rfl rfl k hk)
  simpa using this
 have o:DataW.trod enc F W 0 (λ_=>true) true u 23 [.slice a1 l Zj]=some (d1,p1):=by simpa[Value.cells]using a4
 obtain⟨hn,sb,y,K,OA,OB,OC,OD,S,O,g⟩:=zdD o D;have I:=zfl o D O;obtain⟨J,wb,w,X,hX⟩:=zdB (by simpa[Value.cells]using N) E;obtain⟨_,b,Z,A,Bi,Dr,Dn,Al,po,n,c,pb,z,V,L,R,a5⟩:=Jv (by simpa[Value.cells]using N) E;clear P d;refine(zeF a0 a1 wb w B Q sb y l Zj X b Z A Bi Dr Dn Al po n c pb z V L R K OA OB OC OD S W J hX a5 hn O (λi hi=>⟨(g i hi).1,(g i hi).2.1,(g i hi).2.2.1,(g i hi).2.2.2.1,I i hi⟩)).mono λe W' ⟨he,bel⟩=>?_
 subst he;exact⟨_,rfl,_,_,_,[],_,[],a6,trodAll_mk1 (shut_bool underlying4 _),(trodAll_mk2 (Below.trod zbb kr (of_decide_eq_true kr) k0 bel a3) (Below.trod zbb kr (of_decide_eq_true kr) k1 bel a2)),rfl,bel.frame _,λh=>by cases h⟩
theorem all_holds:Rows.AllSaid :=
 OpenClaim.holds_of_wide 5 f5 rfl rfl rfl rfl rfl rfl rfl ⟨rfl,rfl,rfl,rfl,rfl⟩ rfl rfl rfl rfl rfl kr func5 kr
  (of_decide_eq_true kr) (by unfold Func.isWrapper;first|(rw[if_pos (by decide +kernel)];kernel_rfl)|(rw[if_neg (by decide +kernel)];exact⟨rfl,rfl⟩))
  (λos started H enc _=>zaU os started H enc)
#print axioms all_holds
end
end Go.Proofs.YtaebngpoagjafabGreat
