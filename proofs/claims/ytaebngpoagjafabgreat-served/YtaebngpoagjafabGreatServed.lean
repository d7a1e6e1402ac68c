import Derived.Test.YtaebngpoagjafabGreatV44
import Derived.ChangeMaps5
import Derived.Deep.Strs
set_option maxRecDepth 100000
namespace Go.Proofs.YtaebngpoagjafabGreat
section
open Go.ChangeShapes Go.WideShapes Go.ChangeAt Go.RowKit
theorem zbD:Tryz.prog.cellsOf 9=1:=by kernel_rfl
theorem jo {H:Type} {enc:TypeId×Value->H} {w:World} {base:Nat} {spare:Nat->Bool} {held:Bool} {fuel:Nat} {o:Option Addr} {len cap:Nat} {x:DataW H×List MemPlace} (h:DataW.trod enc Tryz.prog w base spare held fuel 27 [.slice o len cap]=some x) :
 len<=9223372036854775807/\∃ b off S,SS w o b off len S:=by
 rcases Deep.open_strs Tryz.underlying27 Tryz.underlying9 zbD h with ⟨hcs,_⟩ | ⟨a,l,c,m,S,hcs,hb,hl,hm,hmm,_,hel⟩
 ·simp at hcs
  obtain ⟨rfl,rfl,rfl⟩:=hcs
  exact ⟨by omega,0,0,fun _=>.empty,⟨fun h=>by omega,fun h=>by omega,fun i hi=>by omega⟩⟩
 ·simp at hcs
  obtain ⟨rfl,rfl,rfl⟩:=hcs
  have hlm:len<=m:=by rw [hmm];split<;>omega
  refine ⟨by unfold maxLen at hm;omega,?_⟩
  by_cases hl0:len=0
  ·subst hl0
   exact ⟨0,0,S,⟨fun h=>by omega,fun h=>by omega,fun i hi=>by omega⟩⟩
  ·obtain ⟨b,off,spot⟩:=a
   have hc0:=(hel 0 (by omega)).1
   have hspot:spot=none:=by simpa [Addr.add] using World.cell?_spot hc0
   subst hspot
   have hlt:b<w.heap.size:=by
    have:=hc0
    simp [Addr.add] at this
    exact Zv this
   refine ⟨b,off,S,⟨fun _=>rfl,fun _=>hlt,fun i hi=>?_⟩⟩
   have:=(hel i (by omega)).1
   rw [add_plain] at this
   exact this
theorem qb (os:Os) (started:os.Started) (H:Type) (enc:TypeId×Value->H) :
 ReturnsInHanded {} Tryz.checked os 4 .any (Rows.servedSpec.pre6 enc Tryz.prog Tryz.f4 Rows.servedRow.domain false) (Rows.servedSpec.post enc Tryz.prog Tryz.f4 false true false false):=by
 refine returnsInHanded_of_change_sized (C:=Tryz.checked) own started (by kernel_rfl) Tryz.func4
  (ChangeSpec.witness6 (enc:=enc) (C:=Tryz.checked) false ⟨#[],#[.slice none 0 0,.agg #[.int .i64 0,.int .i64 0,.int .i64 0,.slice none 0 0,.slice none 0 0,.slice none 0 0]],[]⟩ 8 (by kernel_rfl) (by kernel_rfl) (by kernel_rfl) (by kernel_rfl)) ?_
 intro W base args ds gs before hval0 hW hcnd hsz0 _
 have hval:∀ (j:Nat) t v,Tryz.f4.params[j]?=some t->args[j]?=some v->Value.okWide Tryz.prog W .any base t v:=hval0
 have hsz:(DataW.weightsEach Tryz.prog (Tryz.f4.params.toList++Rows.servedSpec.plain.varTypes Tryz.prog) (ds++gs)).all (·<=reachBytes)=true:=hsz0
 have hW':=hW
 obtain ⟨p,q,hA0,hV,rfl,hfz,hnd⟩:=hW
 have hA:DataW.TrodAll enc Tryz.prog W 0 (fun _=>true) true Tryz.f4.params.toList args.toList ds p:=hA0
 rw [Tryz.params4] at hA hval hsz
 obtain ⟨v0,v1,d0,d1,p0,p1,rfl,rfl,rfl,h0,h1⟩:=trodAll_two hA
 obtain ⟨rfl,rfl⟩:=trodVars_none hV
 obtain ⟨a0,len0,cap0,rfl⟩:=okWide_slice Tryz.underlying27 (hval 0 27 v0 rfl rfl)
 obtain ⟨cs1,rfl,_⟩:=okWide_struct Tryz.underlying31 (hval 1 31 v1 rfl rfl)
 have k0:=h0
 have k1:=h1
 have lt0:∀ x∈p0,x.block<W.heap.size:=by obtain ⟨m,hm⟩:=k0;exact DataW.trod_lt m _ _ _ hm
 have lt1:∀ x∈p1,x.block<W.heap.size:=by obtain ⟨m,hm⟩:=k1;exact DataW.trod_lt m _ _ _ hm
 obtain ⟨fuel0,hf0⟩:=h0
 obtain ⟨fuel1,hf1⟩:=h1
 have hz1:∀ k∈d1.weights Tryz.prog 31,k<=reachBytes:=fun k hk=>by
  have:=List.all_eq_true.1 hsz _ (DataW.weights_mem_each (j:=1) (t:=31) rfl rfl k hk)
  simpa using this
 obtain ⟨hn,tb,toff,S,hS⟩:=jo (by simpa [Value.cells] using hf0)
 obtain ⟨y,hcs,hIn,hpl,_,_,hbd⟩:=za8 (by simpa [Value.cells] using hf1) hz1
 have hv:Value.agg cs1=y.val:=by
  rw [WD.val]
  congr 1
  apply Array.toList_inj.1
  simpa using hcs
 rw [hv] at k1
 clear hA0 hval0
 rw [hv]
 refine (Qu a0 tb toff len0 cap0 S y W hn hS hIn hpl hbd).mono fun e W' ⟨he,bel⟩=>?_
 subst he
 rw [hv] at hW'
 exact ⟨_,rfl,_,_,_,[],_,[],hW',trodAll_mk1 (shut_bool Tryz.underlying4 _),(trodAll_mk2 (Below.trod Ja (by kernel_rfl) (of_decide_eq_true (by kernel_rfl)) k0 bel lt0) (Below.trod Ja (by kernel_rfl) (of_decide_eq_true (by kernel_rfl)) k1 bel lt1)),rfl,bel.frame _,fun h=>by cases h⟩
theorem served_holds:Rows.ServedSaid :=
 OpenClaim.holds_of_wide 4 Tryz.f4 rfl rfl rfl rfl rfl rfl rfl ⟨rfl,rfl,rfl,rfl,rfl⟩ rfl rfl rfl rfl rfl (by kernel_rfl) Tryz.func4 (by kernel_rfl)
  (of_decide_eq_true (by kernel_rfl)) (by unfold Func.isWrapper;first | (rw [if_pos (by decide +kernel)];kernel_rfl) | (rw [if_neg (by decide +kernel)];exact ⟨rfl,rfl⟩))
  (fun os started H enc _=>qb os started H enc)
#print axioms served_holds
end
end Go.Proofs.YtaebngpoagjafabGreat
