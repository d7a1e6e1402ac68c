import Derived.Test.YtaebngpoagjafabF29
import Derived.Test.YtaebngpoagjafabF30
set_option maxRecDepth 100000
namespace Go.Proofs.Ytaebngpoagjafab
section
def RF (ψ:Nat->Nat) (f f':Int×Int):Prop:=f'.1=f.1/\(f.1=0\/f'.2=psi ψ f.2)
section
variable {ψ:Nat->Nat} {ρ:Int->Int} {δ:Nat} {Ok:Int->Prop}
theorem jx (hψ:∀ a b,a<b->ψ a<ψ b) (a b:Int):psi ψ a<psi ψ b↔a<b:=by
 have key:∀ a b:Int,a<b->psi ψ a<psi ψ b:=fun a b h=>by
  unfold psi
  split
  ·split<;>omega
  ·rw [if_neg (by omega)]
   have:=hψ a.toNat b.toNat (by omega)
   omega
 refine ⟨fun h=>?_,key a b⟩
 rcases Int.lt_trichotomy a b with h1 | h1 | h1
 ·exact h1
 ·subst h1;omega
 ·have:=key _ _ h1;omega
theorem Yf (hψ:∀ a b,a<b->ψ a<ψ b) {f f':Int×Int} (h:RF ψ f f') (e a:Int):RF ψ (fnd f e a) (fnd f' e (psi ψ a)):=by
 obtain ⟨h1,h2⟩:=h
 unfold fnd
 rcases h2 with h2 | h2
 ·rw [if_pos (.inl h2),if_pos (.inl (h1.trans h2))]
  exact ⟨rfl,.inr rfl⟩
 ·have e1:=jx hψ a f.2
  have e2:=jx hψ f.2 a
  rw [h1,h2]
  have e3:psi ψ a=psi ψ f.2↔a=f.2:=by
   constructor
   ·intro he;omega
   ·intro he;rw [he]
  simp only [e1,e3]
  split
  ·exact ⟨rfl,.inr rfl⟩
  ·exact ⟨h1,.inr h2⟩
theorem ZI (hψ:∀ a b,a<b->ψ a<ψ b) {f f':Int×Int} (h:RF ψ f f') (v a lo hi:Int):RF ψ (Zm f v a lo hi) (Zm f' v (psi ψ a) lo hi):=by
 unfold Zm
 split
 ·exact Yf hψ h _ _
 ·exact h
theorem QM (hψ:∀ a b,a<b->ψ a<ψ b) {f f':Int×Int} (h:RF ψ f f') (c:Int) (x:IM):RF ψ (Zv c x f) (Zv c (gI ψ δ c x) f'):=by
 unfold Zv
 simp only [gI]
 split
 ·exact ZI hψ h _ _ _ _
 ·split
  ·exact ZI hψ (ZI hψ h _ _ _ _) _ _ _ _
  ·split
   ·exact ZI hψ h _ _ _ _
   ·exact h
theorem jp {δ:Nat} {i:Int}:shI δ i=-1↔i=-1:=by unfold shI;split<;>omega
theorem QP (hψ:∀ a b,a<b->ψ a<ψ b) {f f':Int×Int} (h:RF ψ f f') (e:EX):RF ψ (ZW e f) (ZW (gE ψ ρ δ e) f'):=by
 have h1:RF ψ (if 12<=e.depth then fnd f 3 e.at_ else f) (if 12<=(gE ψ ρ δ e).depth then fnd f' 3 (gE ψ ρ δ e).at_ else f'):=by
  show RF ψ _ (if 12<=e.depth then fnd f' 3 (psi ψ e.at_) else f')
  split
  ·exact Yf hψ h _ _
  ·exact h
 simp only [ZW]
 generalize (if 12<=e.depth then fnd f 3 e.at_ else f)=g at *
 generalize (if 12<=(gE ψ ρ δ e).depth then fnd f' 3 (gE ψ ρ δ e).at_ else f')=g' at *
 have k1:(gE ψ ρ δ e).kind=e.kind:=rfl
 have k2:(gE ψ ρ δ e).inner=shI δ e.inner:=rfl
 rw [k1,k2]
 by_cases c1:e.kind=116
 ·have k3:(gE ψ ρ δ e).nv=e.nv:=by simp [gE,c1]
  have k4:(gE ψ ρ δ e).na=psi ψ e.na:=by simp [gE,c1]
  rw [if_pos c1,if_pos c1,k3,k4]
  exact ZI hψ h1 _ _ _ _
 ·rw [if_neg c1,if_neg c1]
  by_cases c2:e.kind=64
  ·have k3:(gE ψ ρ δ e).nv=e.nv:=by simp [gE,c2]
   have k4:(gE ψ ρ δ e).na=psi ψ e.na:=by simp [gE,c2]
   rw [if_pos c2,if_pos c2,k3,k4]
   exact ZI hψ h1 _ _ _ _
  ·rw [if_neg c2,if_neg c2]
   by_cases c3:e.kind=61
   ·have k4:(gE ψ ρ δ e).na=psi ψ e.na:=by simp [gE,c3]
    rw [if_pos c3,if_pos c3,k4]
    simp only [jp]
    split
    ·exact Yf hψ h1 _ _
    ·exact h1
   ·rw [if_neg c3,if_neg c3]
    exact h1
theorem jU (hψ:∀ a b,a<b->ψ a<ψ b) {f f':Int×Int} (h:RF ψ f f') (c:Int) (l:List IM) (j:Nat):RF ψ (yr c l f j) (yr c (l.map (gI ψ δ c)) f' j):=by
 induction j with
 | zero=>exact h
 | succ j ih =>
  simp only [yr,List.getElem?_map]
  cases l[j]? with
  | none=>exact ih
  | some x =>
   simp only [Option.map_some,fIt]
   refine QM hψ ?_ c x
   have h1:RF ψ (if 16<=j then fnd (yr c l f j) 4 x.at_ else yr c l f j) (if 16<=j then fnd (yr c (l.map (gI ψ δ c)) f' j) 4 (gI ψ δ c x).at_ else yr c (l.map (gI ψ δ c)) f' j):=by
    split
    ·exact Yf hψ ih _ _
    ·exact ih
   have h2:((l.map (gI ψ δ c)).take j).any (fun y=>z7 y (gI ψ δ c x))=(l.take j).any (fun y=>z7 y x):=by
    rw [<- List.map_take,List.any_map]
    rfl
   rw [h2]
   split
   ·exact Yf hψ h1 _ _
   ·exact h1
theorem QO (a b:List EX) (f:Int×Int):∀ j,j<=a.length->Zg (a++b) f j=Zg a f j:=by
 intro j
 induction j with
 | zero=>intro _;rfl
 | succ j ih=>intro h;simp only [Zg];rw [List.getElem?_append_left (by omega),ih (by omega)]
theorem jW (hψ:∀ a b,a<b->ψ a<ψ b) {f f':Int×Int} (pre es:List EX) (h:RF ψ f (Zg pre f' pre.length)) (j:Nat):RF ψ (Zg es f j) (Zg (pre++es.map (gE ψ ρ δ)) f' (pre.length+j)):=by
 induction j with
 | zero=>rw [Nat.add_zero,QO _ _ _ _ (Nat.le_refl _)];exact h
 | succ j ih =>
  rw [show pre.length+(j+1)=pre.length+j+1 by omega]
  simp only [Zg]
  rw [List.getElem?_append_right (by omega),show pre.length+j-pre.length=j by omega,List.getElem?_map]
  cases es[j]? with
  | none=>exact ih
  | some e =>
   simp only [Option.map_some]
   have:=jU (δ:=δ) hψ (QP (ρ:=ρ) (δ:=δ) hψ ih e) e.kind e.items e.items.length
   simp only [gE,List.length_map] at this ⊢
   exact this
theorem QL (a b:List RL) (f:Int×Int):∀ j,j<=a.length->yq (a++b) f j=yq a f j:=by
 intro j
 induction j with
 | zero=>intro _;rfl
 | succ j ih=>intro h;simp only [yq];rw [List.getElem?_append_left (by omega),List.take_append_of_le_length (by omega),ih (by omega)]
theorem jS (hψ:∀ a b,a<b->ψ a<ψ b) (hI:∀ a b,Ok a->Ok b->ρ a=ρ b->a=b) {f f':Int×Int} (pre rs:List RL) (hp:∀ r∈pre,∀ v,Ok v->r.nv≠ρ v) (hr:∀ r∈rs,Ok r.nv) (h:RF ψ f (yq pre f' pre.length)) (j:Nat):RF ψ (yq rs f j) (yq (pre++rs.map (gR ψ ρ δ)) f' (pre.length+j)):=by
 induction j with
 | zero=>rw [Nat.add_zero,QL _ _ _ _ (Nat.le_refl _)];exact h
 | succ j ih =>
  rw [show pre.length+(j+1)=pre.length+j+1 by omega]
  simp only [yq]
  rw [List.getElem?_append_right (by omega),show pre.length+j-pre.length=j by omega,List.getElem?_map]
  cases hj:rs[j]? with
  | none=>exact ih
  | some r =>
   have e1:(pre++rs.map (gR ψ ρ δ)).take (pre.length+j)=pre++(rs.take j).map (gR ψ ρ δ):=by
    rw [List.take_append,List.take_of_length_le (by omega),show pre.length+j-pre.length=j by omega,List.map_take]
   have e2:=qU (ψ:=ψ) (δ:=δ) hI hp (rs:=rs.take j) (fun r h=>hr r (List.mem_of_mem_take h)) r.nv (hr r (List.mem_of_getElem? hj))
   simp only [Option.map_some,gR]
   rw [e1,e2]
   simp only [jp]
   split
   ·exact ih
   ·exact Yf hψ ih _ _
theorem XS (hψ:∀ a b,a<b->ψ a<ψ b) (hI:∀ a b,Ok a->Ok b->ρ a=ρ b->a=b) (pE es:List EX) (pR rs:List RL) (hp:∀ r∈pR,∀ v,Ok v->r.nv≠ρ v) (hr:∀ r∈rs,Ok r.nv) (h0:(yq pR (0,0) pR.length).1=0) (h1:∀ f',Zg pE f' pE.length=f'):(ZK (pE++es.map (gE ψ ρ δ)) (pR++rs.map (gR ψ ρ δ))).1=(ZK es rs).1:=by
 unfold ZK
 have a1:=jS (δ:=δ) hψ hI pR rs hp hr (f:=(0,0)) (f':=(0,0)) ⟨h0,.inl rfl⟩ rs.length
 have a3:RF ψ (yq rs (0,0) rs.length) (Zg pE (yq (pR++rs.map (gR ψ ρ δ)) (0,0) (pR.length+rs.length)) pE.length):=by rw [h1];exact a1
 have a2:=jW (ρ:=ρ) (δ:=δ) hψ pE es a3 es.length
 simp only [List.length_append,List.length_map]
 exact a2.1
end
theorem qI {A K:List (List Int)} {δ:Nat} (h:A.length=δ) (i:Int):atL (A++K) (shI δ i)=atL K i:=by
 unfold atL shI
 by_cases hi:i<0
 ·rw [if_pos hi,if_pos hi,if_pos hi]
 ·rw [if_neg hi,if_neg hi,if_neg (by omega),List.getElem?_append_right (by omega),show (i+δ).toNat-A.length=i.toNat by omega]
theorem Jo {A K:List Int} {δ:Nat} (h:A.length=δ) (i:Int):atF (A++K) (shI δ i)=atF K i:=by
 unfold atF shI
 by_cases hi:i<0
 ·rw [if_pos hi,if_pos hi,if_pos hi]
 ·rw [if_neg hi,if_neg hi,if_neg (by omega),List.getElem?_append_right (by omega),show (i+δ).toNat-A.length=i.toNat by omega]
section
variable {ψ:Nat->Nat} {ρ:Int->Int}
theorem xD {A K:List (List Int)} (e:EX) (j:Nat):zt (A++K) (gE ψ ρ A.length e) j=zt K e j:=by
 induction j with
 | zero=>exact qI rfl e.inner
 | succ j ih =>
  simp only [zt]
  rw [ih]
  simp only [gE,List.getElem?_map]
  cases e.items[j]? with
  | none=>rfl
  | some x=>simp only [Option.map_some,gI];rw [qI rfl]
theorem j5 {A K:List (List Int)} (e:EX):Ym (A++K) (gE ψ ρ A.length e)=Ym K e:=by
 unfold Ym
 have hk:(gE ψ ρ A.length e).kind=e.kind:=rfl
 rw [hk]
 split
 ·exact qI rfl e.inner
 ·next hne =>
  have hl:(gE ψ ρ A.length e).items.length=e.items.length:=by simp [gE]
  rw [hl,xD]
  congr 1
  have:∀ j,zW (A++K) (gE ψ ρ A.length e) j=zW K e j:=by
   intro j
   induction j with
   | zero =>
    simp only [zW,Zp,gE]
    rw [if_neg hne,List.length_map]
    rfl
   | succ j ih =>
    simp only [zW]
    rw [ih,xD]
    simp only [gE,List.getElem?_map]
    cases e.items[j]? with
    | none=>rfl
    | some x=>simp only [Option.map_some,gI,yL]
  exact this _
theorem Q0 (a b:List EX):∀ j,j<=a.length->ym (a++b) j=ym a j:=by
 intro j
 induction j with
 | zero=>intro _;rfl
 | succ j ih=>intro h;simp only [ym];rw [List.getElem?_append_left (by omega),ih (by omega)]
theorem J6 (pre es:List EX) (j:Nat):ym (pre++es.map (gE ψ ρ pre.length)) (pre.length+j)=ym pre pre.length++ym es j:=by
 induction j with
 | zero=>rw [Nat.add_zero,Q0 _ _ _ (Nat.le_refl _)];simp [ym]
 | succ j ih =>
  rw [show pre.length+(j+1)=pre.length+j+1 by omega]
  simp only [ym]
  rw [List.getElem?_append_right (by omega),show pre.length+j-pre.length=j by omega,List.getElem?_map,ih,List.append_assoc]
  congr 2
  cases es[j]? with
  | none=>rfl
  | some e =>
   simp only [Option.map_some]
   have:=j5 (ψ:=ψ) (ρ:=ρ) (A:=ym pre pre.length) (K:=ym es j) e
   rw [ZM] at this
   rw [this]
theorem Qa (pre es:List EX) (h:1<=es.length):yt (pre++es.map (gE ψ ρ pre.length)) (pre.length+es.length)=yt es es.length:=by
 obtain ⟨j,hj⟩:∃ j,es.length=j+1:=⟨es.length-1,by omega⟩
 rw [hj,show pre.length+(j+1)=pre.length+j+1 by omega]
 simp only [yt]
 rw [List.getElem?_append_right (by omega),show pre.length+j-pre.length=j by omega,List.getElem?_map,J6]
 cases es[j]? with
 | none=>rfl
 | some e =>
  simp only [Option.map_some]
  have:=j5 (ψ:=ψ) (ρ:=ρ) (A:=ym pre pre.length) (K:=ym es j) e
  rw [ZM] at this
  exact this
theorem zam {A K:List Int} (e:EX):szE (gE ψ ρ A.length e) (A++K)=szE e K:=by
 unfold szE
 have h1:∀ j,yd (A++K) (gE ψ ρ A.length e).items j=yd K e.items j:=by
  intro j
  induction j with
  | zero=>rfl
  | succ j ih =>
   simp only [yd]
   rw [ih]
   simp only [gE,List.getElem?_map]
   cases e.items[j]? with
   | none=>rfl
   | some x=>simp only [Option.map_some,gI];rw [Jo rfl]
 rw [h1]
 simp only [gE,List.length_map]
 rw [Jo rfl]
theorem jh (a b:List EX):∀ j,j<=a.length->szK (a++b) j=szK a j:=by
 intro j
 induction j with
 | zero=>intro _;rfl
 | succ j ih=>intro h;simp only [szK];rw [List.getElem?_append_left (by omega),ih (by omega)]
theorem zau (pre es:List EX) (j:Nat):szK (pre++es.map (gE ψ ρ pre.length)) (pre.length+j)=szK pre pre.length++szK es j:=by
 induction j with
 | zero=>rw [Nat.add_zero,jh _ _ _ (Nat.le_refl _)];simp [szK]
 | succ j ih =>
  rw [show pre.length+(j+1)=pre.length+j+1 by omega]
  simp only [szK]
  rw [List.getElem?_append_right (by omega),show pre.length+j-pre.length=j by omega,List.getElem?_map,ih,List.append_assoc]
  congr 2
  cases es[j]? with
  | none=>rfl
  | some e =>
   simp only [Option.map_some]
   have:=zam (ψ:=ψ) (ρ:=ρ) (A:=szK pre pre.length) (K:=szK es j) e
   rw [yR] at this
   rw [this]
theorem jf (pre es:List EX) (h:1<=es.length):szR (pre++es.map (gE ψ ρ pre.length)) (pre.length+es.length)=szR es es.length:=by
 obtain ⟨j,hj⟩:∃ j,es.length=j+1:=⟨es.length-1,by omega⟩
 rw [hj,show pre.length+(j+1)=pre.length+j+1 by omega]
 simp only [szR]
 rw [List.getElem?_append_right (by omega),show pre.length+j-pre.length=j by omega,List.getElem?_map,zau]
 cases es[j]? with
 | none=>rfl
 | some e =>
  simp only [Option.map_some]
  have:=zam (ψ:=ψ) (ρ:=ρ) (A:=szK pre pre.length) (K:=szK es j) e
  rw [yR] at this
  exact this
end
end
section
section
variable {s s':ByteArray} {ψ:Nat->Nat} {ρ:Int->Int} {δ:Nat} {Ok:Int->Prop}
theorem qP (S:Sim s s' ψ ρ 0) (hI:∀ a b,Ok a->Ok b->ρ a=ρ b->a=b) (pre:List RL) (hp:∀ r∈pre,∀ v,Ok v->r.nv≠ρ v) (n n':Nat) (rs:List RL) (m k k':Nat) (hA:AtN s s' ψ ρ 0 k k') (hn:s.size-k<n) (hn':s'.size-k'<n') (R:CP) (hR:zo s n rs m k false=R) (hoe:OkL Ok R.es) (hor:∀ r∈R.rs,Ok r.nv) :
 (R.b=true/\(zo s' n' (pre++rs.map (gR ψ ρ δ)) (m+δ) k' false).b=true)\/(R.b=false/\R.k<=s.size/\zo s' n' (pre++rs.map (gR ψ ρ δ)) (m+δ) k' false=⟨R.es.map (gE ψ ρ δ),pre++R.rs.map (gR ψ ρ δ),ψ R.k,false⟩):=by
 rcases qE (δ:=δ) S hI pre hp n n' rs m k k' hA hn hn' R hR hoe hor with h | ⟨h1,N',K',_,h3,h4,h5,h6⟩
 ·exact .inl h
 ·refine .inr ⟨h1,h3.le,?_⟩
  have hs:za s R.k false=R.k:=by rw [Ze];exact h4
  have ht:takeB s' 59 K' false=false:=by
   unfold takeB at h5 ⊢
   rw [h3.her,hs]
   rw [hs] at h5
   by_cases hk:R.k<s.size
   ·rw [Zf hk,<- yC hk];exact h5
   ·rw [ZZ hk];rfl
  rw [h6]
  unfold Xq zb
  rw [ht]
  simp only [Bool.false_eq_true,if_false]
  rw [h3.skp,hs]
theorem Xp {s s':ByteArray} (hs:s.size<=2000) (hs':s'.size<=2000) (hb:((zk s').b || decide ((zk s').k<s'.size))=((zk s).b || decide ((zk s).k<s.size))) (hf:((zk s).b || decide ((zk s).k<s.size))=false->(ZK (zk s').es (zk s').rs).1=(ZK (zk s).es (zk s).rs).1):(zU s').1=(zU s).1:=by
 unfold zU
 rw [if_neg (show ¬ 2000<s'.size by omega),if_neg (show ¬ 2000<s.size by omega),hb]
 cases h:((zk s).b || decide ((zk s).k<s.size)) with
 | true=>rfl
 | false =>
  simp only [Bool.false_eq_true,if_false]
  rw [hf h]
  split
  ·rfl
  ·exact hf h
theorem alike (S:Sim s s' ψ ρ 0) (hA:AtN s s' ψ ρ 0 0 0) (hψ:∀ a b,a<b->ψ a<ψ b) (hI:∀ a b,Ok a->Ok b->ρ a=ρ b->a=b) (hz:∀ p,p<=s.size->(ψ p<s'.size↔p<s.size)) (hs:s.size<=2000) (hs':s'.size<=2000) (hoe:OkL Ok (zk s).es) (hor:∀ r∈(zk s).rs,Ok r.nv) :
 (zU s').1=(zU s).1/\((zU s).1=0->szR (zk s').es (zk s').es.length=szR (zk s).es (zk s).es.length/\cpX s'=cpX s):=by
 have h:=qP (δ:=0) S hI [] (by simp) (s.size+1) (s'.size+1) [] 0 0 0 hA (by omega) (by omega) (zk s) rfl hoe hor
 simp only [List.map_nil,List.append_nil,Nat.add_zero,List.nil_append] at h
 rw [show zo s' (s'.size+1) [] 0 0 false=zk s' from rfl] at h
 rcases h with ⟨h1,h2⟩ | ⟨h1,hk,h2⟩
 ·refine ⟨Xp hs hs' (by rw [h1,h2];rfl) (fun h=>by rw [h1] at h;cases h),fun h=>?_⟩
  obtain ⟨_,hb,_⟩:=yF h
  rw [h1] at hb;cases hb
 ·have hk2:decide ((zk s').k<s'.size)=decide ((zk s).k<s.size):=by
   rw [h2]
   exact decide_eq_decide.2 (hz _ hk)
  have hf:=XS (δ:=0) hψ hI [] (zk s).es [] (zk s).rs (by simp) hor rfl (fun _=>rfl)
  simp only [List.nil_append] at hf
  refine ⟨Xp hs hs' (by rw [hk2,h1,h2]) (fun _=>by rw [h2];exact hf),fun h0=>?_⟩
  have hpos:=(Xo h0).1
  have a1:=jf (ψ:=ψ) (ρ:=ρ) [] (zk s).es hpos
  have a2:=Qa (ψ:=ψ) (ρ:=ρ) [] (zk s).es hpos
  simp only [List.nil_append,List.length_nil,Nat.zero_add] at a1 a2
  unfold cpX
  rw [h2]
  simp only [List.length_map]
  exact ⟨a1,a2⟩
end
def cnt (P:Nat->Bool):Nat->Nat
 | 0=>0
 | n+1=>cnt P n+(if P n=true then 1 else 0)
theorem Z2 (P:Nat->Bool) {a b:Nat} (h:a<=b):cnt P a<=cnt P b:=by
 induction b with
 | zero =>
  have:a=0:=by omega
  subst this;exact Nat.le_refl _
 | succ b ih =>
  by_cases hb:a<=b
  ·have:=ih hb;simp only [cnt];omega
  ·have:a=b+1:=by omega
   subst this;exact Nat.le_refl _
structure Spc (s s':ByteArray) (P:Nat->Bool):Prop where
 no:∀ j,s.size<=j->P j=false
 sz:s'.size=s.size+cnt P s.size
 ch:∀ j,j<s.size->T.ch s' (j+cnt P (j+1))=T.ch s j
 bl:∀ j,P j=true->T.bl (T.ch s' (j+cnt P j))=true
 dg:∀ j,T.dig (T.ch s j)=true->T.dig (T.ch s (j+1))=true->P (j+1)=false
section
variable {s s':ByteArray} {P:Nat->Bool}
theorem Spc.end_ (h:Spc s s' P) (j:Nat):cnt P (s.size+j)=cnt P s.size:=by
 induction j with
 | zero=>rfl
 | succ j ih=>rw [<- Nat.add_assoc];simp only [cnt];rw [ih,h.no _ (by omega)];simp
theorem Spc.sk (h:Spc s s' P):∀ (n j:Nat),s.size-j=n->j<=s.size->T.sk s' (j+cnt P j)=T.sk s j+cnt P (T.sk s j+1):=by
 intro n
 induction n with
 | zero =>
  intro j h1 h2
  have hj:j=s.size:=by omega
  subst hj
  have e1:T.sk s s.size=s.size:=T.sk_here (by rw [T.ch_ge (by omega)];rfl)
  have e2:T.sk s' (s.size+cnt P s.size)=s.size+cnt P s.size:=T.sk_here (by rw [T.ch_ge (by rw [h.sz];omega)];rfl)
  rw [e1,e2,h.end_ 1]
 | succ n ih =>
  intro j h1 h2
  have hlt:j<s.size:=by omega
  have e1:T.sk s' (j+cnt P j)=T.sk s' (j+cnt P (j+1)):=by
   simp only [cnt]
   cases hP:P j with
   | false=>simp
   | true=>rw [if_pos rfl,<- Nat.add_assoc,T.sk_next (h.bl j hP)]
  rw [e1]
  cases hb:T.bl (T.ch s j) with
  | false =>
   rw [T.sk_here hb,T.sk_here (by rw [h.ch j hlt];exact hb)]
  | true =>
   rw [<- T.sk_next hb,<- ih (j+1) (by omega) (by omega),<- T.sk_next (s:=s') (by rw [h.ch j hlt];exact hb)]
   congr 1
   omega
theorem Spc.her (h:Spc s s' P) {p:Nat} (hp:p<=s.size):zc s' (p+cnt P (p+1)) false=hz s 0 p:=by
 by_cases hlt:p<s.size
 ·have:=Z2 P (a:=p+1) (b:=s.size) (by omega)
  rw [Zf hlt,yC (by rw [h.sz];omega),h.ch p hlt]
 ·have:p=s.size:=by omega
  subst this
  rw [ZZ hlt,Z0 (by rw [h.sz,h.end_ 1];omega)]
theorem Spc.at_ (h:Spc s s' P) {j:Nat} (hj:j<=s.size):At s s' (fun j=>j+cnt P (j+1)) 0 j (j+cnt P j) :=
 ⟨hj,by rw [h.sz];have:=Z2 P hj;omega,h.sk _ j rfl hj,h.her (T.sk_le hj)⟩
theorem Spc.sim (h:Spc s s' P):Sim s s' (fun j=>j+cnt P (j+1)) id 0:=by
 have e:∀ j,j+cnt P (j+1)+1=(j+1)+cnt P (j+1):=fun j=>by omega
 refine ⟨fun j hj _ _ _=>?_,fun j hj _=>?_,fun j hj hd=>?_,.inl rfl,fun x=>Iff.rfl⟩
 ·simp only [e];exact h.at_ hj
 ·simp only [e]
  have:=h.at_ (j:=j+1) hj
  exact ⟨this.le,this.le',this.sk,this.he⟩
 ·simp only [e]
  by_cases hlt:j+1<s.size
  ·have hc:=Z2 P (a:=j+2) (b:=s.size) (by omega)
   have hl:j+1+cnt P (j+1)<s'.size:=by
    rw [h.sz]
    simp only [cnt] at hc ⊢
    omega
   rw [yC hlt,yC hl]
   cases hP:P (j+1) with
   | true =>
    have hb:=h.bl (j+1) hP
    have hnd:T.dig (T.ch s' (j+1+cnt P (j+1)))=false:=by
     cases hq:T.dig (T.ch s' (j+1+cnt P (j+1))) with
     | false=>rfl
     | true=>rw [(qB hq).1] at hb;cases hb
    have hnd2:T.dig (T.ch s (j+1))=false:=by
     cases hq:T.dig (T.ch s (j+1)) with
     | false=>rfl
     | true=>rw [h.dg j hd hq] at hP;cases hP
    rw [hnd,hnd2]
    exact ⟨rfl,fun h=>by cases h⟩
   | false =>
    have e2:cnt P (j+1+1)=cnt P (j+1):=by rw [show cnt P (j+1+1)=cnt P (j+1)+(if P (j+1)=true then 1 else 0) from rfl,hP];simp
    have hc2:=h.ch (j+1) hlt
    rw [e2] at hc2 ⊢
    rw [hc2]
    exact ⟨rfl,fun _=>⟨rfl,rfl⟩⟩
  ·have hj1:j+1=s.size:=by omega
   rw [Z0 hlt,Z0 (by rw [h.sz,hj1];omega)]
   exact ⟨rfl,fun h=>by cases h⟩
theorem Spc.mono (P:Nat->Bool):∀ a b:Nat,a<b->a+cnt P (a+1)<b+cnt P (b+1):=fun a b h=>by
 have:=Z2 P (a:=a+1) (b:=b+1) (by omega)
 omega
theorem Spc.alike (h:Spc s s' P) (hs':s'.size<=2000):(zU s').1=(zU s).1/\((zU s).1=0->szR (zk s').es (zk s').es.length=szR (zk s).es (zk s).es.length/\cpX s'=cpX s):=by
 have h0:=h.at_ (j:=0) (Nat.zero_le _)
 refine Go.Proofs.Ytaebngpoagjafab.alike (Ok:=fun _=>True) h.sim ⟨h0.le,h0.le',h0.sk,h0.he⟩ (Spc.mono P) (fun a b _ _ e=>e) (fun p hp=>?_) (by have:=h.sz;omega) hs' (fun _ _ _=>trivial) (fun _ _=>trivial)
 have:=Z2 P (a:=p+1) (b:=s.size)
 rw [h.sz]
 constructor
 ·intro h1
  by_cases hlt:p<s.size
  ·exact hlt
  ·have:p=s.size:=by omega
   subst this
   rw [h.end_ 1] at h1
   omega
 ·intro h1
  have:=this (by omega)
  omega
end
end
section
theorem zaD {q:List Int×Bool} {c:Int} (h:T.bl c=true):leT q c=q:=by
 simp only [T.bl,Bool.or_eq_true,beq_iff_eq] at h
 unfold leT
 rw [if_neg (by omega),if_neg (by omega)]
theorem zaE (s:ByteArray):∀ n,leJ s n=(brL s n).foldl leT ([],true):=by
 intro n
 induction n with
 | zero=>rfl
 | succ n ih =>
  simp only [leJ,brL,List.foldl_append]
  rw [ih]
  split
  ·next h=>rw [zaD h];rfl
  ·rfl
theorem zaC {x:List Int} (h:∀ c∈x,c≠59) (l:List Int):x.foldl leT (l,false)=(l,false):=by
 induction x with
 | nil=>rfl
 | cons c x ih =>
  simp only [List.foldl_cons]
  rw [show leT (l,false) c=(l,false) by unfold leT;rw [if_neg (by simp),if_neg (h c (by simp))]]
  exact ih (fun c hc=>h c (by simp [hc]))
theorem jJ {y:Int×List Int} (h:97<=y.1/\y.1<=122) (hx:∀ c∈y.2,c≠59) (l:List Int):(ruT y).foldl leT (l,true)=(l++[y.1],false):=by
 unfold ruT
 simp only [List.cons_append,List.nil_append,List.foldl_cons]
 rw [show leT (l,true) y.1=(l++[y.1],false) by unfold leT;rw [if_pos ⟨rfl,h⟩],show leT (l++[y.1],false) 58=(l++[y.1],false) from by unfold leT;simp]
 exact zaC hx _
theorem JX:∀ (Y:List (Int×List Int)) (l:List Int),Y≠[]->(∀ y∈Y,(97<=y.1/\y.1<=122)/\∀ c∈y.2,c≠59)->(joi 59 (Y.map ruT)).foldl leT (l,true)=(l++Y.map Prod.fst,false):=by
 intro Y
 induction Y with
 | nil=>intro l h;exact absurd rfl h
 | cons y Y ih =>
  intro l _ h
  have hy:=h y (by simp)
  by_cases hY:Y=[]
  ·subst hY
   simp only [List.map_cons,List.map_nil,joi]
   exact jJ hy.1 hy.2 l
  ·rw [List.map_cons,yY 59 _ (by simpa using hY),List.foldl_append,List.foldl_append,jJ hy.1 hy.2]
   simp only [List.foldl_cons,List.foldl_nil]
   rw [show leT (l++[y.1],false) 59=(l++[y.1],true) from by unfold leT;simp,ih _ hY (fun z hz=>h z (by simp [hz]))]
   simp
theorem Yc {c x:Int}:∀ (l:List (List Int)),x∈joi c l->x=c\/∃ y∈l,x∈y:=by
 intro l
 induction l with
 | nil=>intro h;simp [joi] at h
 | cons y l ih =>
  intro h
  by_cases hl:l=[]
  ·subst hl;simp only [joi] at h;exact .inr ⟨y,by simp,h⟩
  ·rw [yY c _ hl] at h
   simp only [List.mem_append,List.mem_singleton] at h
   rcases h with (h | h) | h
   ·exact .inr ⟨y,by simp,h⟩
   ·exact .inl h
   ·rcases ih h with h | ⟨z,h1,h2⟩
    ·exact .inl h
    ·exact .inr ⟨z,by simp [h1],h2⟩
theorem Pln.no {x:List Int} (h:Pln x) {c:Int} (hc:c∈x):c≠59:=by have:=h c hc;omega
theorem TX.no {E:List EX} {Y:List (Int×List Int)} {t:List Int} {j:Nat} (h:TX E Y t j):∀ c∈t,c≠59:=by
 induction h with
 | servers h1 h2 h3 h4 h5 =>
  intro c hc
  simp only [List.mem_append,List.mem_singleton] at hc
  rcases hc with (hc | hc) | hc
  ·omega
  ·rcases Yc _ hc with h | ⟨y,hy,h⟩
   ·omega
   ·exact (YW h4 h5 y hy).no h
  ·omega
 | alias h1 h2 h3 =>
  intro c hc
  rcases List.mem_cons.1 hc with h | h
  ·omega
  ·exact h3.pln.no h
 | name h1 h2 h3 h4 =>
  intro c hc
  simp at hc
  omega
 | ttl h1 h2 h3 h4 h5 _ ih =>
  intro c hc
  simp only [List.mem_append,List.mem_singleton] at hc
  rcases hc with hc | (hc | hc) | hc
  ·omega
  ·omega
  ·rcases Yc _ hc with h | ⟨y,hy,h⟩
   ·omega
   ·simp at hy
    rcases hy with rfl | rfl
    ·exact h3.pln.no h
    ·exact ih c h
  ·omega
 | @list j i e k l o h1 h2 h3 h4 h5 h6 h7 h8 _ ih =>
  intro c hc
  simp only [List.mem_append,List.mem_singleton] at hc
  rcases hc with hc | (hc | hc) | hc
  ·omega
  ·omega
  ·rcases Yc _ hc with h | ⟨y,hy,h⟩
   ·omega
   ·simp at hy
    rcases hy with rfl | rfl
    ·rcases Yc _ h with h | ⟨y,hy,h⟩
     ·omega
     ·exact (YW h5 h6 y hy).no h
    ·exact ih c h
  ·omega
 | @maps j i e k m ks ar an o h1 h2 h3 h4 h5 h6 _ h8 h9 _ iha iho =>
  intro c hc
  simp only [List.mem_append,List.mem_singleton] at hc
  rcases hc with hc | (hc | hc) | hc
  ·omega
  ·omega
  ·rcases Yc _ hc with h | ⟨y,hy,h⟩
   ·omega
   ·simp at hy
    rcases hy with rfl | rfl
    ·rcases Yc _ h with h | ⟨y,hy,h⟩
     ·omega
     ·simp only [List.mem_map,List.mem_range] at hy
      obtain ⟨a,ha,rfl⟩:=hy
      simp only [List.mem_append,List.mem_cons] at h
      rcases h with h | h | h
      ·exact (h6 a e.items[a] (List.getElem?_eq_getElem (by omega))).1.pln.no h
      ·omega
      ·exact iha a ha c h
    ·exact iho c h
  ·omega
structure Nms (s:ByteArray):Prop where
 le:(leJ s s.size).1=(zk s).rs.map RL.nv
 let_:∀ r∈(zk s).rs,97<=r.nv/\r.nv<=122
 ex:∀ r∈(zk s).rs,0<=r.ex
 last:∃ l r,(zk s).rs=l++[r]/\r.ex=(((zk s).es.length-1:Nat):Int)/\zO r.nv l=-1
 ref:∀ e∈(zk s).es,e.kind=61->∃ r∈(zk s).rs,r.nv=e.nv
theorem JT {v:Int}:∀ {l:List RL},zO v l≠-1->∃ r∈l,r.nv=v:=by
 intro l
 induction l with
 | nil=>intro h;exact absurd rfl h
 | cons r l ih =>
  intro h
  simp only [zO] at h
  by_cases hr:r.nv=v
  ·exact ⟨r,by simp,hr⟩
  ·rw [if_neg hr] at h
   obtain ⟨x,h1,h2⟩:=ih h
   exact ⟨x,by simp [h1],h2⟩
def RfL (rs:List RL) (l:List EX):Prop:=∀ e∈l,e.kind=61->e.inner=-1\/∃ r∈rs,r.nv=e.nv
theorem RfL.app {rs:List RL} {a b:List EX} (h:RfL rs a) (k:RfL rs b):RfL rs (a++b):=fun e he=>(List.mem_append.1 he).elim (h e) (k e)
theorem RfL.one {rs:List RL} {e:EX} (h:e.kind=61->e.inner=-1\/∃ r∈rs,r.nv=e.nv):RfL rs [e]:=fun x hx=>by simp at hx;subst hx;exact h
theorem RfL.nil (rs:List RL):RfL rs []:=fun _ h=>by simp at h
theorem XX {rs:List RL} {ex:Int->Nat->Nat->Bool->CR} {s:ByteArray} (hX:∀ d m k b,RfL rs (ex d m k b).es) (kind d:Int) (m k:Nat) (b:Bool):RfL rs (zs ex s kind d m k b).es:=by
 unfold zs
 simp only
 split
 ·exact hX _ _ _ _
 ·split
  ·exact hX _ _ _ _
  ·split
   ·exact RfL.nil _
   ·exact RfL.nil _
theorem xS {rs:List RL} {ex:Int->Nat->Nat->Bool->CR} {s:ByteArray} (hX:∀ d m k b,RfL rs (ex d m k b).es) (kind d:Int):∀ (n m k:Nat) (b:Bool),RfL rs (zd ex s kind d n m k b).es:=by
 intro n
 induction n with
 | zero=>intro m k b;exact RfL.nil _
 | succ n ih =>
  intro m k b
  simp only [zd]
  split
  ·exact (XX hX _ _ _ _ _).app (ih _ _ _)
  ·exact XX hX _ _ _ _ _
theorem za4 (s:ByteArray) (rs:List RL) (n:Nat):∀ d m k b,RfL rs (cE s rs n d m k b).es:=by
 induction n with
 | zero=>intro d m k b;exact RfL.nil _
 | succ n ih =>
  intro d m k b
  simp only [cE]
  split
  ·exact RfL.nil _
  ·split
   ·exact (xS ih _ _ _ _ _ _).app (RfL.one (fun h=>by simp at h))
   ·split
    ·exact (ih _ _ _ _).app (RfL.one (fun h=>by simp at h))
    ·split
     ·exact RfL.one (fun h=>by simp at h)
     ·split
      ·refine RfL.one (fun _=>?_)
       simp only
       by_cases h:zO (zc s (za s (za s k b+1) b) b) rs=-1
       ·exact .inl h
       ·exact .inr (JT h)
      ·next h1=>exact ((xS ih _ _ _ _ _ _).app (ih _ _ _ _)).app (RfL.one (fun h=>absurd h h1))
theorem Q3 (s:ByteArray):∀ (n:Nat) (rs:List RL) (m k:Nat) (b:Bool),RfL (zo s n rs m k b).rs (zo s n rs m k b).es:=by
 intro n
 induction n with
 | zero=>intro rs m k b;exact RfL.nil _
 | succ n ih =>
  intro rs m k b
  obtain ⟨t,ht⟩:=xQ s (n+1) rs m k b
  have h1:RfL (zo s (n+1) rs m k b).rs (zw s rs m k b).es:=fun e he hk=>by
   rcases za4 s rs _ _ _ _ _ e he hk with h | ⟨r,h1,h2⟩
   ·exact .inl h
   ·exact .inr ⟨r,by rw [ht];simp [h1],h2⟩
  simp only [zo] at h1 ⊢
  split
  ·next hh=>rw [if_pos hh] at h1;exact h1.app (ih _ _ _ _)
  ·next hh=>rw [if_neg hh] at h1;exact h1
theorem Pol.nms {s:ByteArray} {Y:List (Int×List Int)} (hc0:(zU s).1=0) (hp:Pol s Y):Nms s:=by
 obtain ⟨_,hCb,hCk,hF⟩:=yF hc0
 have hlen:=hp.rx.len
 have hat:∀ (i:Nat) (r:RL),(zk s).rs[i]?=some r->∃ y,Y[i]?=some y/\y.1=r.nv/\0<=r.ex:=fun i r hr=>by
  have hi:=(List.getElem?_eq_some_iff.1 hr).1
  have hy:Y[i]?=some Y[i]:=List.getElem?_eq_getElem (by omega)
  obtain ⟨h1,j,h2,_⟩:=hp.rx.at_ i r _ hr hy
  exact ⟨_,hy,h1,by omega⟩
 have hfst:Y.map Prod.fst=(zk s).rs.map RL.nv:=by
  apply List.ext_getElem?
  intro i
  rw [List.getElem?_map,List.getElem?_map]
  cases hr:(zk s).rs[i]? with
  | none =>
   have:=List.getElem?_eq_none_iff.1 hr
   rw [List.getElem?_eq_none_iff.2 (by omega)];rfl
  | some r =>
   obtain ⟨y,hy,h1,_⟩:=hat i r hr
   rw [hy]
   simp [h1]
 have hYs:∀ y∈Y,(97<=y.1/\y.1<=122)/\∀ c∈y.2,c≠59:=fun y hy=>by
  refine ⟨hp.let_ y hy,?_⟩
  obtain ⟨i,hi⟩:=List.getElem?_of_mem hy
  have hil:=(List.getElem?_eq_some_iff.1 hi).1
  obtain ⟨_,j,_,_,h⟩:=hp.rx.at_ i _ y (List.getElem?_eq_getElem (by omega)) hi
  exact h.no
 have hnn:∀ e∈(zk s).es,e.kind=61->e.inner≠-1:=fun e he hk hi=>by
  rcases Zo (zk s).es (zk s).rs with ⟨_,h2⟩ | ⟨h1,_⟩
  ·exact h2 5 e.na (.inl ⟨e,he,.inl (.inr (.inr (.inr ⟨hk,hi,rfl,rfl⟩)))⟩)
  ·exact absurd hF h1
 obtain ⟨r,hr,hrx⟩:=hp.last
 have hne:(zk s).rs≠[]:=fun h=>by rw [h] at hr;cases hr
 obtain ⟨l,hl⟩:∃ l,(zk s).rs=l++[r]:=by
  refine ⟨(zk s).rs.dropLast,?_⟩
  have h1:=List.dropLast_concat_getLast hne
  rw [List.getLast?_eq_some_getLast hne] at hr
  simp only [Option.some.injEq] at hr
  rw [hr] at h1
  exact h1.symm
 refine ⟨?_,fun r hr=>?_,fun r hr=>?_,⟨l,r,hl,hrx,?_⟩,?_⟩
 ·rw [zaE,hp.bl,JX Y [] hp.ne hYs,hfst]
  rfl
 ·obtain ⟨i,hi⟩:=List.getElem?_of_mem hr
  obtain ⟨y,hy,h1,_⟩:=hat i r hi
  have:=hp.let_ y (List.mem_of_getElem? hy)
  omega
 ·obtain ⟨i,hi⟩:=List.getElem?_of_mem hr
  exact (hat i r hi).choose_spec.2.2
 ·cases Decidable.em (zO r.nv l=-1) with
  | inl h=>exact h
  | inr h =>
   exfalso
   rcases Zo (zk s).es (zk s).rs with ⟨_,h2⟩ | ⟨h1,_⟩
   ·exact h2 5 r.na (.inr (by rw [hl,Qg];exact .inr (.inl ⟨by simpa using h,rfl,rfl⟩)))
   ·exact absurd hF h1
 ·intro e he hk
  rcases Q3 s (s.size+1) [] 0 0 false e he hk with h | h
  ·exact absurd h (hnn e he hk)
  ·exact h
section
variable {s t:ByteArray} {c l:Int}
end
end
section
def rnS (f u:Int) (q:List Int×Bool) (c:Int):List Int×Bool:=(q.1++[if q.2=true/\c=f then u else c],if T.bl (if q.2=true/\c=f then u else c)=true then q.2 else ((if q.2=true/\c=f then u else c)==59 || (if q.2=true/\c=f then u else c)==61))
def rnJ (s:ByteArray) (f u:Int):Nat->List Int×Bool
 | 0=>([],true)
 | n+1=>rnS f u (rnJ s f u n) (T.ch s n)
def rnT (s:ByteArray) (f u:Int):ByteArray:=strOfNums (rnJ s f u s.size).1
structure Ren (s s':ByteArray) (f u:Int) (fl:Nat->Bool):Prop where
 ff:97<=f/\f<=122
 uu:97<=u/\u<=122
 sz:s'.size=s.size
 ch:∀ j,j<s.size->T.ch s' j=if fl j=true/\T.ch s j=f then u else T.ch s j
 f0:fl 0=true
 fs:∀ j,j<s.size->fl (j+1)=if T.bl (T.ch s j)=true then fl j else (T.ch s j==59 || T.ch s j==61)
theorem Z8 (s:ByteArray) (f u:Int):∀ n,(rnJ s f u n).1.length=n:=by
 intro n
 induction n with
 | zero=>rfl
 | succ n ih=>simp only [rnJ,rnS,List.length_append,ih,List.length_singleton]
theorem ju (s:ByteArray) (f u:Int) (j:Nat):∀ k,(rnJ s f u (j+1+k)).1[j]?=some (if (rnJ s f u j).2=true/\T.ch s j=f then u else T.ch s j):=by
 intro k
 induction k with
 | zero =>
  rw [Nat.add_zero]
  simp only [rnJ,rnS]
  rw [List.getElem?_append_right (by rw [Z8];exact Nat.le_refl _),Z8,Nat.sub_self]
  rfl
 | succ k ih =>
  rw [<- Nat.add_assoc]
  simp only [rnJ,rnS] at ih ⊢
  rw [List.getElem?_append_left (by rw [Z8];omega)]
  exact ih
theorem Yo {c:Int} (h:97<=c/\c<=122):T.bl c=false/\(c==59 || c==61)=false:=by
 simp only [T.bl,Bool.or_eq_false_iff,beq_eq_false_iff_ne]
 omega
theorem zaw (s:ByteArray) {f u:Int} (hf:97<=f/\f<=122) (hu:97<=u/\u<=122):Ren s (rnT s f u) f u (fun j=>(rnJ s f u j).2):=by
 have hB:Byt (rnJ s f u s.size).1:=fun y hy=>by
  obtain ⟨i,hi⟩:=List.getElem?_of_mem hy
  have hil:=(List.getElem?_eq_some_iff.1 hi).1
  rw [Z8] at hil
  have:=ju s f u i (s.size-(i+1))
  rw [show i+1+(s.size-(i+1))=s.size by omega,hi] at this
  simp only [Option.some.injEq] at this
  have hb:=T.ch_bd hil
  split at this<;>omega
 refine ⟨hf,hu,by unfold rnT;rw [strOfNums_size,Z8],fun j hj=>?_,rfl,fun j hj=>?_⟩
 ·unfold rnT
  rw [yv hB]
  have:=ju s f u j (s.size-(j+1))
  rw [show j+1+(s.size-(j+1))=s.size by omega] at this
  rw [this]
  rfl
 ·simp only [rnJ,rnS]
  generalize T.ch s j=c at *
  by_cases hc:(rnJ s f u j).2=true/\c=f
  ·rw [if_pos hc,(Yo hu).1,(Yo hu).2,hc.2,(Yo hf).1,(Yo hf).2]
  ·rw [if_neg hc]
section
variable {s s':ByteArray} {f u:Int} {fl:Nat->Bool}
def rho (f u x:Int):Int:=if x=f then u else x
theorem Ren.blk (h:Ren s s' f u fl) (j:Nat):T.bl (T.ch s' j)=T.bl (T.ch s j):=by
 by_cases hj:j<s.size
 ·rw [h.ch j hj]
  split
  ·next hc=>rw [hc.2,(Yo h.ff).1,(Yo h.uu).1]
  ·rfl
 ·rw [T.ch_ge hj,T.ch_ge (by rw [h.sz];exact hj)]
theorem Ren.sk (h:Ren s s' f u fl):∀ (n j:Nat),s.size-j=n->j<=s.size->T.sk s' j=T.sk s j/\fl (T.sk s j)=fl j:=by
 intro n
 induction n with
 | zero =>
  intro j h1 h2
  have e1:T.sk s j=j:=T.sk_here (by rw [T.ch_ge (by omega)];rfl)
  have e2:T.sk s' j=j:=T.sk_here (by rw [T.ch_ge (by rw [h.sz];omega)];rfl)
  rw [e1,e2]
  exact ⟨rfl,rfl⟩
 | succ n ih =>
  intro j h1 h2
  cases hb:T.bl (T.ch s j) with
  | false =>
   rw [T.sk_here hb,T.sk_here (by rw [h.blk];exact hb)]
   exact ⟨rfl,rfl⟩
  | true =>
   have hi:=ih (j+1) (by omega) (by omega)
   rw [<- T.sk_next hb,<- T.sk_next (s:=s') (by rw [h.blk];exact hb)]
   refine ⟨hi.1,hi.2.trans ?_⟩
   rw [h.fs j (by omega),if_pos hb]
theorem Ren.at0 (h:Ren s s' f u fl) {j:Nat} (hj:j<=s.size) (hf:fl j=false):At s s' id 0 j j:=by
 obtain ⟨a1,a2⟩:=h.sk _ j rfl hj
 refine ⟨hj,by rw [h.sz];exact hj,a1,?_⟩
 show zc s' (T.sk s j) false=_
 by_cases hl:T.sk s j<s.size
 ·rw [Zf hl,yC (by rw [h.sz];exact hl),h.ch _ hl,a2,hf]
  simp
 ·rw [ZZ hl,Z0 (by rw [h.sz];exact hl)]
theorem Ren.at1 (h:Ren s s' f u fl) {j:Nat} (hj:j<=s.size) (hf:fl j=true):AtN s s' id (rho f u) 0 j j:=by
 obtain ⟨a1,a2⟩:=h.sk _ j rfl hj
 refine ⟨hj,by rw [h.sz];exact hj,a1,?_⟩
 show zc s' (T.sk s j) false=_
 have hff:=h.ff
 unfold rho
 by_cases hl:T.sk s j<s.size
 ·rw [Zf hl,yC (by rw [h.sz];exact hl),h.ch _ hl,a2,hf]
  simp
 ·rw [ZZ hl,Z0 (by rw [h.sz];exact hl),if_neg (by omega)]
theorem Ren.sim (h:Ren s s' f u fl):Sim s s' id (rho f u) 0:=by
 have hff:=h.ff
 have huu:=h.uu
 refine ⟨fun j hj h1 h2 h3=>h.at0 hj ?_,fun j hj h1=>h.at1 hj ?_,fun j hj hd=>?_,.inl rfl,fun x=>?_⟩
 ·rw [h.fs j hj,h1]
  simp [h2,h3]
 ·have hb:T.bl (T.ch s j)=false:=by
   rcases h1 with e | e<;>rw [e]<;>rfl
  rw [h.fs j hj,hb]
  rcases h1 with e | e<;>rw [e]<;>rfl
 ·simp only [id]
  have hd2:=qB hd
  have hfl:fl (j+1)=false:=by
   rw [h.fs j hj,hd2.1]
   simp [hd2.2.1,hd2.2.2.1]
  by_cases hl:j+1<s.size
  ·have e:T.ch s' (j+1)=T.ch s (j+1):=by rw [h.ch _ hl,hfl];simp
   rw [yC hl,yC (by rw [h.sz];exact hl),e]
   exact ⟨rfl,fun _=>⟨trivial,rfl⟩⟩
  ·rw [Z0 hl,Z0 (by rw [h.sz];exact hl)]
   exact ⟨rfl,fun _=>⟨trivial,rfl⟩⟩
 ·unfold rho
  split<;>omega
theorem Ren.alike (h:Ren s s' f u fl) (hc0:(zU s).1=0) (hn:Nms s) (hu:∀ r∈(zk s).rs,r.nv≠u):(zU s').1=(zU s).1/\((zU s).1=0->szR (zk s').es (zk s').es.length=szR (zk s).es (zk s).es.length/\cpX s'=cpX s):=by
 have hs:=(yF hc0).1
 refine Go.Proofs.Ytaebngpoagjafab.alike (Ok:=fun v=>v≠u) h.sim (h.at1 (Nat.zero_le _) h.f0) (fun a b hab=>hab) (fun a b ha hb e=>?_) (fun p hp=>by rw [h.sz];exact Iff.rfl) hs (by rw [h.sz];exact hs) (fun e he hk=>?_) hu
 ·unfold rho at e
  split at e<;>split at e<;>omega
 ·obtain ⟨r,h1,h2⟩:=hn.ref e he hk
  rw [<- h2]
  exact hu r h1
end
structure Fro (s t:ByteArray) (c:Int):Prop where
 sz:t.size=s.size+5
 ch:∀ j,j<s.size->T.ch t (j+5)=T.ch s j
 c0:T.ch t 0=c
 c1:T.ch t 1=58
 c2:T.ch t 2=64
 c3:T.ch t 3=48
 c4:T.ch t 4=59
section
variable {s t:ByteArray} {c:Int}
theorem Fro.ch' (h:Fro s t c) (j:Nat):T.ch t (j+5)=T.ch s j:=by
 by_cases hj:j<s.size
 ·exact h.ch j hj
 ·rw [T.ch_ge hj,T.ch_ge (by rw [h.sz];omega)]
theorem Fro.sk (h:Fro s t c):∀ (n j:Nat),s.size-j=n->j<=s.size->T.sk t (j+5)=T.sk s j+5:=by
 intro n
 induction n with
 | zero =>
  intro j h1 h2
  rw [T.sk_here (s:=s) (by rw [T.ch_ge (by omega)];rfl),T.sk_here (s:=t) (by rw [T.ch_ge (by rw [h.sz];omega)];rfl)]
 | succ n ih =>
  intro j h1 h2
  have hc:=h.ch' j
  cases hb:T.bl (T.ch s j) with
  | false=>rw [T.sk_here hb,T.sk_here (by rw [hc];exact hb)]
  | true=>rw [<- T.sk_next hb,<- ih (j+1) (by omega) (by omega),<- T.sk_next (s:=t) (by rw [hc];exact hb),show j+5+1=j+1+5 by omega]
theorem Fro.her (h:Fro s t c) (p:Nat):zc t (p+5) false=hz s 0 p:=by
 by_cases hlt:p<s.size
 ·rw [Zf hlt,yC (by rw [h.sz];omega),h.ch p hlt]
 ·rw [ZZ hlt,Z0 (by rw [h.sz];omega)]
theorem Fro.at_ (h:Fro s t c) {j:Nat} (hj:j<=s.size):At s t (·+5) 0 j (j+5):=⟨hj,by rw [h.sz];omega,h.sk _ j rfl hj,h.her _⟩
theorem Fro.sim (h:Fro s t c):Sim s t (·+5) id 0:=by
 have e:∀ j,j+5+1=j+1+5:=fun j=>by omega
 refine ⟨fun j hj _ _ _=>by simp only [e];exact h.at_ hj,fun j hj _=>?_,fun j hj hd=>?_,.inl rfl,fun x=>Iff.rfl⟩
 ·simp only [e]
  have:=h.at_ (j:=j+1) hj
  exact ⟨this.le,this.le',this.sk,this.he⟩
 ·simp only [e]
  rw [h.her]
  by_cases hlt:j+1<s.size
  ·rw [Zf hlt,yC hlt];exact ⟨rfl,fun _=>⟨trivial,rfl⟩⟩
  ·rw [ZZ hlt,Z0 hlt];exact ⟨rfl,fun h=>by cases h⟩
theorem Fro.alike (h:Fro s t c) (hc0:(zU s).1=0) (hn:Nms s) (hc:97<=c/\c<=122) (hcn:∀ r∈(zk s).rs,r.nv≠c) (ht:t.size<=2000):(zU t).1=(zU s).1/\((zU s).1=0->szR (zk t).es (zk t).es.length=szR (zk s).es (zk s).es.length/\cpX t=cpX s):=by
 obtain ⟨_,hCb,hCk,hF⟩:=yF hc0
 have hpos:=(Xo hc0).1
 have hsz:=h.sz
 have h0:=h.at_ (j:=0) (Nat.zero_le _)
 have hoe:OkL (fun v=>v≠c) (zk s).es:=fun e he hk=>by
  obtain ⟨r,h1,h2⟩:=hn.ref e he hk
  rw [<- h2];exact hcn r h1
 have s1:∀ p,p<t.size->T.bl (T.ch t p)=false->za t p false=p/\zc t p false=T.ch t p:=fun p hp hb=>⟨by rw [Ze,T.sk_here hb],yC hp⟩
 obtain ⟨a0,b0⟩:=s1 0 (by omega) (by rw [h.c0];exact (Yo hc).1)
 obtain ⟨a1,b1⟩:=s1 1 (by omega) (by rw [h.c1];rfl)
 obtain ⟨a2,b2⟩:=s1 2 (by omega) (by rw [h.c2];rfl)
 obtain ⟨a3,b3⟩:=s1 3 (by omega) (by rw [h.c3];rfl)
 obtain ⟨a4,b4⟩:=s1 4 (by omega) (by rw [h.c4];rfl)
 rw [h.c0] at b0
 rw [h.c1] at b1
 rw [h.c2] at b2
 rw [h.c3] at b3
 rw [h.c4] at b4
 have l1:yX t 0 false=true:=by unfold yX;rw [a0,b0];simp;omega
 have l2:zE t 0 false=1/\zL t 0 false=false:=by unfold zE zL;rw [l1,a0];exact ⟨rfl,rfl⟩
 have l3:takeB t 58 1 false=true:=by unfold takeB;rw [a1,b1];rfl
 have l4:zb t 58 1 false=2/\ze t 58 1 false=false:=by unfold zb ze;rw [l3,a1];exact ⟨rfl,rfl⟩
 have n1:zi t 3 false=4:=by
  unfold zi nmE nmL
  rw [a3,b3]
  simp only [if_true,nmF]
  rw [b3]
  rfl
 have n2:zq t 3 false=false:=by unfold zq;rw [n1,a3];rfl
 have n3:zA t 3 false=0:=by unfold zA;rw [n1,a3];simp only [vl,show 4-3=1 from rfl,Nat.add_zero];rw [h.c3];rfl
 have l5:takeB t 59 4 false=true:=by unfold takeB;rw [a4,b4];rfl
 have l6:zb t 59 4 false=5:=by unfold zb;rw [l5,a4];rfl
 have hR:zw t [] 0 0 false=⟨⟨c,0,0⟩,[⟨64,2,0,0,3,[],-1⟩],4,false⟩:=by
  unfold zw
  simp only
  rw [l2.1,l2.2,l4.1,l4.2,a0,b0,Zr (s:=t) t.size 0 0 2 false (by rw [a2,b2]),a2,a3,n1,n2,n3]
  rfl
 have hA:zk t=⟨[⟨64,2,0,0,3,[],-1⟩]++(zo t t.size [⟨c,0,0⟩] 1 5 false).es,(zo t t.size [⟨c,0,0⟩] 1 5 false).rs,(zo t t.size [⟨c,0,0⟩] 1 5 false).k,(zo t t.size [⟨c,0,0⟩] 1 5 false).b⟩:=by
  unfold zk
  simp only [zo]
  rw [hR]
  simp only
  rw [l5,l6]
  rfl
 rcases qP (δ:=1) (Ok:=fun v=>v≠c) h.sim (fun a b _ _ e=>e) [⟨c,0,0⟩] (fun r hr v hv e=>by simp at hr;subst hr;exact hv e.symm) (s.size+1) t.size [] 0 0 5 ⟨h0.le,h0.le',h0.sk,h0.he⟩ (by omega) (by omega) (zk s) rfl hoe hcn with ⟨h1,_⟩ | ⟨_,_,h2⟩
 ·rw [hCb] at h1;cases h1
 ·simp only [List.map_nil,List.append_nil,Nat.zero_add] at h2
  rw [h2,hCk] at hA
  have hf:=XS (ψ:=(·+5)) (ρ:=id) (δ:=1) (Ok:=fun v=>v≠c) (fun a b h=>by omega) (fun a b _ _ e=>e) [⟨64,2,0,0,3,[],-1⟩] (zk s).es [⟨c,0,0⟩] (zk s).rs (fun r hr v hv e=>by simp at hr;subst hr;exact hv e.symm) hcn rfl (fun f'=>by simp [Zg,yr,ZW,Zm])
  have p1:=jf (ψ:=(·+5)) (ρ:=id) [⟨64,2,0,0,3,[],-1⟩] (zk s).es hpos
  have p2:=Qa (ψ:=(·+5)) (ρ:=id) [⟨64,2,0,0,3,[],-1⟩] (zk s).es hpos
  refine ⟨Xp (by omega) ht ?_ (fun _=>by rw [hA];exact hf),fun _=>?_⟩
  ·rw [hA,hCb,hCk,hsz];simp
  ·unfold cpX
   rw [hA]
   simp only [List.length_append,List.length_map]
   exact ⟨p1,p2⟩
end
end
structure X4 (s t:ByteArray):Prop where
 ck:(zU t).1=(zU s).1
 sz:cSz t=cSz s
 ce:cpE t=cpE s
 cx:(zU s).1=0->cpX t=cpX s
theorem jr {s t:ByteArray} (h1:(zU t).1=(zU s).1) (h2:(zU s).1=0->szR (zk t).es (zk t).es.length=szR (zk s).es (zk s).es.length/\cpX t=cpX s):X4 s t:=by
 refine ⟨h1,?_,?_,fun h=>(h2 h).2⟩
 ·unfold cSz
  rw [h1]
  split
  ·next h=>rw [(h2 h).1]
  ·rfl
 ·unfold cpE
  rw [h1]
  split
  ·next h=>rw [(h2 h).1]
  ·rfl
theorem X4.refl (s:ByteArray):X4 s s:=⟨rfl,rfl,rfl,fun _=>rfl⟩
end Go.Proofs.Ytaebngpoagjafab
