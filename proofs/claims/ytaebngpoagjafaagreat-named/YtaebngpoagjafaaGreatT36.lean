import Derived.Test.YtaebngpoagjafaaGreatT34
import Derived.Test.YtaebngpoagjafaaGreatT35
set_option maxRecDepth 100000
namespace Go.Proofs.YtaebngpoagjafaaGreat
section
def RF (ψ:Nat->Nat) (f f':Int×Int):Prop:=f'.1=f.1/\(f.1=0\/f'.2=psi ψ f.2)
section
variable {ψ:Nat->Nat} {ρ:Int->Int} {δ:Nat} {Ok:Int->Prop}
theorem zbn (hψ:∀ a b,a<b->ψ a<ψ b) (a b:Int):psi ψ a<psi ψ b↔a<b:=by
 have key:∀ a b:Int,a<b->psi ψ a<psi ψ b:=fun a b h=>by
  unfold psi
  split
  ·split<;>omega
  ·rw [if_neg (by omega)]
   have:=hψ a.toNat b.toNat (by omega)
   omega
 refine ⟨fun h=>?_,key a b⟩
 rcases Int.lt_trichotomy a b with h1 | h1 | h1
 ·exact h1
 ·subst h1;omega
 ·have:=key _ _ h1;omega
theorem xg (hψ:∀ a b,a<b->ψ a<ψ b) {f f':Int×Int} (h:RF ψ f f') (e a:Int):RF ψ (fnd f e a) (fnd f' e (psi ψ a)):=by
 obtain ⟨h1,h2⟩:=h
 unfold fnd
 rcases h2 with h2 | h2
 ·rw [if_pos (.inl h2),if_pos (.inl (h1.trans h2))]
  exact ⟨rfl,.inr rfl⟩
 ·have e1:=zbn hψ a f.2
  have e2:=zbn hψ f.2 a
  rw [h1,h2]
  have e3:psi ψ a=psi ψ f.2↔a=f.2:=by
   constructor
   ·intro he;omega
   ·intro he;rw [he]
  simp only [e1,e3]
  split
  ·exact ⟨rfl,.inr rfl⟩
  ·exact ⟨h1,.inr h2⟩
theorem Yn (hψ:∀ a b,a<b->ψ a<ψ b) {f f':Int×Int} (h:RF ψ f f') (v a lo hi:Int):RF ψ (Z1 f v a lo hi) (Z1 f' v (psi ψ a) lo hi):=by
 unfold Z1
 split
 ·exact xg hψ h _ _
 ·exact h
theorem zaw (hψ:∀ a b,a<b->ψ a<ψ b) {f f':Int×Int} (h:RF ψ f f') (c:Int) (x:IM):RF ψ (Z8 c x f) (Z8 c (gI ψ δ c x) f'):=by
 unfold Z8
 simp only [gI]
 split
 ·exact Yn hψ h _ _ _ _
 ·split
  ·exact Yn hψ (Yn hψ h _ _ _ _) _ _ _ _
  ·split
   ·exact Yn hψ h _ _ _ _
   ·exact h
theorem zbd {δ:Nat} {i:Int}:shI δ i=-1↔i=-1:=by unfold shI;split<;>omega
theorem zay (hψ:∀ a b,a<b->ψ a<ψ b) {f f':Int×Int} (h:RF ψ f f') (e:EX):RF ψ (YK e f) (YK (gE ψ ρ δ e) f'):=by
 have h1:RF ψ (if 12<=e.depth then fnd f 3 e.at_ else f) (if 12<=(gE ψ ρ δ e).depth then fnd f' 3 (gE ψ ρ δ e).at_ else f'):=by
  show RF ψ _ (if 12<=e.depth then fnd f' 3 (psi ψ e.at_) else f')
  split
  ·exact xg hψ h _ _
  ·exact h
 simp only [YK]
 generalize (if 12<=e.depth then fnd f 3 e.at_ else f)=g at *
 generalize (if 12<=(gE ψ ρ δ e).depth then fnd f' 3 (gE ψ ρ δ e).at_ else f')=g' at *
 have k1:(gE ψ ρ δ e).kind=e.kind:=rfl
 have k2:(gE ψ ρ δ e).inner=shI δ e.inner:=rfl
 rw [k1,k2]
 by_cases c1:e.kind=116
 ·have k3:(gE ψ ρ δ e).nv=e.nv:=by simp [gE,c1]
  have k4:(gE ψ ρ δ e).na=psi ψ e.na:=by simp [gE,c1]
  rw [if_pos c1,if_pos c1,k3,k4]
  exact Yn hψ h1 _ _ _ _
 ·rw [if_neg c1,if_neg c1]
  by_cases c2:e.kind=64
  ·have k3:(gE ψ ρ δ e).nv=e.nv:=by simp [gE,c2]
   have k4:(gE ψ ρ δ e).na=psi ψ e.na:=by simp [gE,c2]
   rw [if_pos c2,if_pos c2,k3,k4]
   exact Yn hψ h1 _ _ _ _
  ·rw [if_neg c2,if_neg c2]
   by_cases c3:e.kind=61
   ·have k4:(gE ψ ρ δ e).na=psi ψ e.na:=by simp [gE,c3]
    rw [if_pos c3,if_pos c3,k4]
    simp only [zbd]
    split
    ·exact xg hψ h1 _ _
    ·exact h1
   ·rw [if_neg c3,if_neg c3]
    exact h1
theorem zbQ (hψ:∀ a b,a<b->ψ a<ψ b) {f f':Int×Int} (h:RF ψ f f') (c:Int) (l:List IM) (j:Nat):RF ψ (yP c l f j) (yP c (l.map (gI ψ δ c)) f' j):=by
 induction j with
 | zero=>exact h
 | succ j ih =>
  simp only [yP,List.getElem?_map]
  cases l[j]? with
  | none=>exact ih
  | some x =>
   simp only [Option.map_some,fIt]
   refine zaw hψ ?_ c x
   have h1:RF ψ (if 16<=j then fnd (yP c l f j) 4 x.at_ else yP c l f j) (if 16<=j then fnd (yP c (l.map (gI ψ δ c)) f' j) 4 (gI ψ δ c x).at_ else yP c (l.map (gI ψ δ c)) f' j):=by
    split
    ·exact xg hψ ih _ _
    ·exact ih
   have h2:((l.map (gI ψ δ c)).take j).any (fun y=>yh y (gI ψ δ c x))=(l.take j).any (fun y=>yh y x):=by
    rw [<- List.map_take,List.any_map]
    rfl
   rw [h2]
   split
   ·exact xg hψ h1 _ _
   ·exact h1
theorem qN (a b:List EX) (f:Int×Int):∀ j,j<=a.length->ZM (a++b) f j=ZM a f j:=by
 intro j
 induction j with
 | zero=>intro _;rfl
 | succ j ih=>intro h;simp only [ZM];rw [List.getElem?_append_left (by omega),ih (by omega)]
theorem zbS (hψ:∀ a b,a<b->ψ a<ψ b) {f f':Int×Int} (pre es:List EX) (h:RF ψ f (ZM pre f' pre.length)) (j:Nat):RF ψ (ZM es f j) (ZM (pre++es.map (gE ψ ρ δ)) f' (pre.length+j)):=by
 induction j with
 | zero=>rw [Nat.add_zero,qN _ _ _ _ (Nat.le_refl _)];exact h
 | succ j ih =>
  rw [show pre.length+(j+1)=pre.length+j+1 by omega]
  simp only [ZM]
  rw [List.getElem?_append_right (by omega),show pre.length+j-pre.length=j by omega,List.getElem?_map]
  cases es[j]? with
  | none=>exact ih
  | some e =>
   simp only [Option.map_some]
   have:=zbQ (δ:=δ) hψ (zay (ρ:=ρ) (δ:=δ) hψ ih e) e.kind e.items e.items.length
   simp only [gE,List.length_map] at this ⊢
   exact this
theorem qM (a b:List RL) (f:Int×Int):∀ j,j<=a.length->yG (a++b) f j=yG a f j:=by
 intro j
 induction j with
 | zero=>intro _;rfl
 | succ j ih=>intro h;simp only [yG];rw [List.getElem?_append_left (by omega),List.take_append_of_le_length (by omega),ih (by omega)]
theorem zbO (hψ:∀ a b,a<b->ψ a<ψ b) (hI:∀ a b,Ok a->Ok b->ρ a=ρ b->a=b) {f f':Int×Int} (pre rs:List RL) (hp:∀ r∈pre,∀ v,Ok v->r.nv≠ρ v) (hr:∀ r∈rs,Ok r.nv) (h:RF ψ f (yG pre f' pre.length)) (j:Nat):RF ψ (yG rs f j) (yG (pre++rs.map (gR ψ ρ δ)) f' (pre.length+j)):=by
 induction j with
 | zero=>rw [Nat.add_zero,qM _ _ _ _ (Nat.le_refl _)];exact h
 | succ j ih =>
  rw [show pre.length+(j+1)=pre.length+j+1 by omega]
  simp only [yG]
  rw [List.getElem?_append_right (by omega),show pre.length+j-pre.length=j by omega,List.getElem?_map]
  cases hj:rs[j]? with
  | none=>exact ih
  | some r =>
   have e1:(pre++rs.map (gR ψ ρ δ)).take (pre.length+j)=pre++(rs.take j).map (gR ψ ρ δ):=by
    rw [List.take_append,List.take_of_length_le (by omega),show pre.length+j-pre.length=j by omega,List.map_take]
   have e2:=JB (ψ:=ψ) (δ:=δ) hI hp (rs:=rs.take j) (fun r h=>hr r (List.mem_of_mem_take h)) r.nv (hr r (List.mem_of_getElem? hj))
   simp only [Option.map_some,gR]
   rw [e1,e2]
   simp only [zbd]
   split
   ·exact ih
   ·exact xg hψ ih _ _
theorem zbU (hψ:∀ a b,a<b->ψ a<ψ b) (hI:∀ a b,Ok a->Ok b->ρ a=ρ b->a=b) (pE es:List EX) (pR rs:List RL) (hp:∀ r∈pR,∀ v,Ok v->r.nv≠ρ v) (hr:∀ r∈rs,Ok r.nv) (h0:(yG pR (0,0) pR.length).1=0) (h1:∀ f',ZM pE f' pE.length=f'):(Z2 (pE++es.map (gE ψ ρ δ)) (pR++rs.map (gR ψ ρ δ))).1=(Z2 es rs).1:=by
 unfold Z2
 have a1:=zbO (δ:=δ) hψ hI pR rs hp hr (f:=(0,0)) (f':=(0,0)) ⟨h0,.inl rfl⟩ rs.length
 have a3:RF ψ (yG rs (0,0) rs.length) (ZM pE (yG (pR++rs.map (gR ψ ρ δ)) (0,0) (pR.length+rs.length)) pE.length):=by rw [h1];exact a1
 have a2:=zbS (ρ:=ρ) (δ:=δ) hψ pE es a3 es.length
 simp only [List.length_append,List.length_map]
 exact a2.1
end
theorem Je {A K:List (List Int)} {δ:Nat} (h:A.length=δ) (i:Int):atL (A++K) (shI δ i)=atL K i:=by
 unfold atL shI
 by_cases hi:i<0
 ·rw [if_pos hi,if_pos hi,if_pos hi]
 ·rw [if_neg hi,if_neg hi,if_neg (by omega),List.getElem?_append_right (by omega),show (i+δ).toNat-A.length=i.toNat by omega]
theorem zck {A K:List Int} {δ:Nat} (h:A.length=δ) (i:Int):atF (A++K) (shI δ i)=atF K i:=by
 unfold atF shI
 by_cases hi:i<0
 ·rw [if_pos hi,if_pos hi,if_pos hi]
 ·rw [if_neg hi,if_neg hi,if_neg (by omega),List.getElem?_append_right (by omega),show (i+δ).toNat-A.length=i.toNat by omega]
section
variable {ψ:Nat->Nat} {ρ:Int->Int}
theorem qx {A K:List (List Int)} (e:EX) (j:Nat):zi (A++K) (gE ψ ρ A.length e) j=zi K e j:=by
 induction j with
 | zero=>exact Je rfl e.inner
 | succ j ih =>
  simp only [zi]
  rw [ih]
  simp only [gE,List.getElem?_map]
  cases e.items[j]? with
  | none=>rfl
  | some x=>simp only [Option.map_some,gI];rw [Je rfl]
theorem zb1 {A K:List (List Int)} (e:EX):ZY (A++K) (gE ψ ρ A.length e)=ZY K e:=by
 unfold ZY
 have hk:(gE ψ ρ A.length e).kind=e.kind:=rfl
 rw [hk]
 split
 ·exact Je rfl e.inner
 ·next hne =>
  have hl:(gE ψ ρ A.length e).items.length=e.items.length:=by simp [gE]
  rw [hl,qx]
  congr 1
  have:∀ j,zo (A++K) (gE ψ ρ A.length e) j=zo K e j:=by
   intro j
   induction j with
   | zero =>
    simp only [zo,yc,gE]
    rw [if_neg hne,List.length_map]
    rfl
   | succ j ih =>
    simp only [zo]
    rw [ih,qx]
    simp only [gE,List.getElem?_map]
    cases e.items[j]? with
    | none=>rfl
    | some x=>simp only [Option.map_some,gI,yi]
  exact this _
theorem qO (a b:List EX):∀ j,j<=a.length->zN (a++b) j=zN a j:=by
 intro j
 induction j with
 | zero=>intro _;rfl
 | succ j ih=>intro h;simp only [zN];rw [List.getElem?_append_left (by omega),ih (by omega)]
theorem zdg (pre es:List EX) (j:Nat):zN (pre++es.map (gE ψ ρ pre.length)) (pre.length+j)=zN pre pre.length++zN es j:=by
 induction j with
 | zero=>rw [Nat.add_zero,qO _ _ _ (Nat.le_refl _)];simp [zN]
 | succ j ih =>
  rw [show pre.length+(j+1)=pre.length+j+1 by omega]
  simp only [zN]
  rw [List.getElem?_append_right (by omega),show pre.length+j-pre.length=j by omega,List.getElem?_map,ih,List.append_assoc]
  congr 2
  cases es[j]? with
  | none=>rfl
  | some e =>
   simp only [Option.map_some]
   have:=zb1 (ψ:=ψ) (ρ:=ρ) (A:=zN pre pre.length) (K:=zN es j) e
   rw [Yr] at this
   rw [this]
theorem zdf (pre es:List EX) (h:1<=es.length):z6 (pre++es.map (gE ψ ρ pre.length)) (pre.length+es.length)=z6 es es.length:=by
 obtain ⟨j,hj⟩:∃ j,es.length=j+1:=⟨es.length-1,by omega⟩
 rw [hj,show pre.length+(j+1)=pre.length+j+1 by omega]
 simp only [z6]
 rw [List.getElem?_append_right (by omega),show pre.length+j-pre.length=j by omega,List.getElem?_map,zdg]
 cases es[j]? with
 | none=>rfl
 | some e =>
  simp only [Option.map_some]
  have:=zb1 (ψ:=ψ) (ρ:=ρ) (A:=zN pre pre.length) (K:=zN es j) e
  rw [Yr] at this
  exact this
theorem zdz {A K:List Int} (e:EX):szE (gE ψ ρ A.length e) (A++K)=szE e K:=by
 unfold szE
 have h1:∀ j,yj (A++K) (gE ψ ρ A.length e).items j=yj K e.items j:=by
  intro j
  induction j with
  | zero=>rfl
  | succ j ih =>
   simp only [yj]
   rw [ih]
   simp only [gE,List.getElem?_map]
   cases e.items[j]? with
   | none=>rfl
   | some x=>simp only [Option.map_some,gI];rw [zck rfl]
 rw [h1]
 simp only [gE,List.length_map]
 rw [zck rfl]
theorem QL (a b:List EX):∀ j,j<=a.length->szK (a++b) j=szK a j:=by
 intro j
 induction j with
 | zero=>intro _;rfl
 | succ j ih=>intro h;simp only [szK];rw [List.getElem?_append_left (by omega),ih (by omega)]
theorem zdN (pre es:List EX) (j:Nat):szK (pre++es.map (gE ψ ρ pre.length)) (pre.length+j)=szK pre pre.length++szK es j:=by
 induction j with
 | zero=>rw [Nat.add_zero,QL _ _ _ (Nat.le_refl _)];simp [szK]
 | succ j ih =>
  rw [show pre.length+(j+1)=pre.length+j+1 by omega]
  simp only [szK]
  rw [List.getElem?_append_right (by omega),show pre.length+j-pre.length=j by omega,List.getElem?_map,ih,List.append_assoc]
  congr 2
  cases es[j]? with
  | none=>rfl
  | some e =>
   simp only [Option.map_some]
   have:=zdz (ψ:=ψ) (ρ:=ρ) (A:=szK pre pre.length) (K:=szK es j) e
   rw [yS] at this
   rw [this]
theorem zdL (pre es:List EX) (h:1<=es.length):szR (pre++es.map (gE ψ ρ pre.length)) (pre.length+es.length)=szR es es.length:=by
 obtain ⟨j,hj⟩:∃ j,es.length=j+1:=⟨es.length-1,by omega⟩
 rw [hj,show pre.length+(j+1)=pre.length+j+1 by omega]
 simp only [szR]
 rw [List.getElem?_append_right (by omega),show pre.length+j-pre.length=j by omega,List.getElem?_map,zdN]
 cases es[j]? with
 | none=>rfl
 | some e =>
  simp only [Option.map_some]
  have:=zdz (ψ:=ψ) (ρ:=ρ) (A:=szK pre pre.length) (K:=szK es j) e
  rw [yS] at this
  exact this
end
end
section
section
variable {s s':ByteArray} {ψ:Nat->Nat} {ρ:Int->Int} {δ:Nat} {Ok:Int->Prop}
theorem zcL (S:Sim s s' ψ ρ 0) (hI:∀ a b,Ok a->Ok b->ρ a=ρ b->a=b) (pre:List RL) (hp:∀ r∈pre,∀ v,Ok v->r.nv≠ρ v) (n n':Nat) (rs:List RL) (m k k':Nat) (hA:AtN s s' ψ ρ 0 k k') (hn:s.size-k<n) (hn':s'.size-k'<n') (R:CP) (hR:zt s n rs m k false=R) (hoe:OkL Ok R.es) (hor:∀ r∈R.rs,Ok r.nv) :
 (R.b=true/\(zt s' n' (pre++rs.map (gR ψ ρ δ)) (m+δ) k' false).b=true)\/(R.b=false/\R.k<=s.size/\zt s' n' (pre++rs.map (gR ψ ρ δ)) (m+δ) k' false=⟨R.es.map (gE ψ ρ δ),pre++R.rs.map (gR ψ ρ δ),ψ R.k,false⟩):=by
 rcases qb (δ:=δ) S hI pre hp n n' rs m k k' hA hn hn' R hR hoe hor with h | ⟨h1,N',K',_,h3,h4,h5,h6⟩
 ·exact .inl h
 ·refine .inr ⟨h1,h3.le,?_⟩
  have hs:za s R.k false=R.k:=by rw [Zp];exact h4
  have ht:takeB s' 59 K' false=false:=by
   unfold takeB at h5 ⊢
   rw [h3.her,hs]
   rw [hs] at h5
   by_cases hk:R.k<s.size
   ·rw [Z7 hk,<- ZF hk];exact h5
   ·rw [xy hk];rfl
  rw [h6]
  unfold qu zb
  rw [ht]
  simp only [Bool.false_eq_true,if_false]
  rw [h3.skp,hs]
theorem JL {s s':ByteArray} (hs:s.size<=2000) (hs':s'.size<=2000) (hb:((zk s').b || decide ((zk s').k<s'.size))=((zk s).b || decide ((zk s).k<s.size))) (hf:((zk s).b || decide ((zk s).k<s.size))=false->(Z2 (zk s').es (zk s').rs).1=(Z2 (zk s).es (zk s).rs).1):(zX s').1=(zX s).1:=by
 unfold zX
 rw [if_neg (show ¬ 2000<s'.size by omega),if_neg (show ¬ 2000<s.size by omega),hb]
 cases h:((zk s).b || decide ((zk s).k<s.size)) with
 | true=>rfl
 | false =>
  simp only [Bool.false_eq_true,if_false]
  rw [hf h]
  split
  ·rfl
  ·exact hf h
theorem alike (S:Sim s s' ψ ρ 0) (hA:AtN s s' ψ ρ 0 0 0) (hψ:∀ a b,a<b->ψ a<ψ b) (hI:∀ a b,Ok a->Ok b->ρ a=ρ b->a=b) (hz:∀ p,p<=s.size->(ψ p<s'.size↔p<s.size)) (hs:s.size<=2000) (hs':s'.size<=2000) (hoe:OkL Ok (zk s).es) (hor:∀ r∈(zk s).rs,Ok r.nv) :
 (zX s').1=(zX s).1/\((zX s).1=0->szR (zk s').es (zk s').es.length=szR (zk s).es (zk s).es.length/\cpX s'=cpX s):=by
 have h:=zcL (δ:=0) S hI [] (by simp) (s.size+1) (s'.size+1) [] 0 0 0 hA (by omega) (by omega) (zk s) rfl hoe hor
 simp only [List.map_nil,List.append_nil,Nat.add_zero,List.nil_append] at h
 rw [show zt s' (s'.size+1) [] 0 0 false=zk s' from rfl] at h
 rcases h with ⟨h1,h2⟩ | ⟨h1,hk,h2⟩
 ·refine ⟨JL hs hs' (by rw [h1,h2];rfl) (fun h=>by rw [h1] at h;cases h),fun h=>?_⟩
  obtain ⟨_,hb,_⟩:=ZU h
  rw [h1] at hb;cases hb
 ·have hk2:decide ((zk s').k<s'.size)=decide ((zk s).k<s.size):=by
   rw [h2]
   exact decide_eq_decide.2 (hz _ hk)
  have hf:=zbU (δ:=0) hψ hI [] (zk s).es [] (zk s).rs (by simp) hor rfl (fun _=>rfl)
  simp only [List.nil_append] at hf
  refine ⟨JL hs hs' (by rw [hk2,h1,h2]) (fun _=>by rw [h2];exact hf),fun h0=>?_⟩
  have hpos:=(xf h0).1
  have a1:=zdL (ψ:=ψ) (ρ:=ρ) [] (zk s).es hpos
  have a2:=zdf (ψ:=ψ) (ρ:=ρ) [] (zk s).es hpos
  simp only [List.nil_append,List.length_nil,Nat.zero_add] at a1 a2
  unfold cpX
  rw [h2]
  simp only [List.length_map]
  exact ⟨a1,a2⟩
end
def cnt (P:Nat->Bool):Nat->Nat
 | 0=>0
 | n+1=>cnt P n+(if P n=true then 1 else 0)
theorem YR (P:Nat->Bool) {a b:Nat} (h:a<=b):cnt P a<=cnt P b:=by
 induction b with
 | zero =>
  have:a=0:=by omega
  subst this;exact Nat.le_refl _
 | succ b ih =>
  by_cases hb:a<=b
  ·have:=ih hb;simp only [cnt];omega
  ·have:a=b+1:=by omega
   subst this;exact Nat.le_refl _
structure Spc (s s':ByteArray) (P:Nat->Bool):Prop where
 no:∀ j,s.size<=j->P j=false
 sz:s'.size=s.size+cnt P s.size
 ch:∀ j,j<s.size->T.ch s' (j+cnt P (j+1))=T.ch s j
 bl:∀ j,P j=true->T.bl (T.ch s' (j+cnt P j))=true
 dg:∀ j,T.dig (T.ch s j)=true->T.dig (T.ch s (j+1))=true->P (j+1)=false
section
variable {s s':ByteArray} {P:Nat->Bool}
theorem Spc.end_ (h:Spc s s' P) (j:Nat):cnt P (s.size+j)=cnt P s.size:=by
 induction j with
 | zero=>rfl
 | succ j ih=>rw [<- Nat.add_assoc];simp only [cnt];rw [ih,h.no _ (by omega)];simp
theorem Spc.sk (h:Spc s s' P):∀ (n j:Nat),s.size-j=n->j<=s.size->T.sk s' (j+cnt P j)=T.sk s j+cnt P (T.sk s j+1):=by
 intro n
 induction n with
 | zero =>
  intro j h1 h2
  have hj:j=s.size:=by omega
  subst hj
  have e1:T.sk s s.size=s.size:=T.sk_here (by rw [T.ch_ge (by omega)];rfl)
  have e2:T.sk s' (s.size+cnt P s.size)=s.size+cnt P s.size:=T.sk_here (by rw [T.ch_ge (by rw [h.sz];omega)];rfl)
  rw [e1,e2,h.end_ 1]
 | succ n ih =>
  intro j h1 h2
  have hlt:j<s.size:=by omega
  have e1:T.sk s' (j+cnt P j)=T.sk s' (j+cnt P (j+1)):=by
   simp only [cnt]
   cases hP:P j with
   | false=>simp
   | true=>rw [if_pos rfl,<- Nat.add_assoc,T.sk_next (h.bl j hP)]
  rw [e1]
  cases hb:T.bl (T.ch s j) with
  | false =>
   rw [T.sk_here hb,T.sk_here (by rw [h.ch j hlt];exact hb)]
  | true =>
   rw [<- T.sk_next hb,<- ih (j+1) (by omega) (by omega),<- T.sk_next (s:=s') (by rw [h.ch j hlt];exact hb)]
   congr 1
   omega
theorem Spc.her (h:Spc s s' P) {p:Nat} (hp:p<=s.size):zd s' (p+cnt P (p+1)) false=hz s 0 p:=by
 by_cases hlt:p<s.size
 ·have:=YR P (a:=p+1) (b:=s.size) (by omega)
  rw [Z7 hlt,ZF (by rw [h.sz];omega),h.ch p hlt]
 ·have:p=s.size:=by omega
  subst this
  rw [xy hlt,X7 (by rw [h.sz,h.end_ 1];omega)]
theorem Spc.at_ (h:Spc s s' P) {j:Nat} (hj:j<=s.size):At s s' (fun j=>j+cnt P (j+1)) 0 j (j+cnt P j) :=
 ⟨hj,by rw [h.sz];have:=YR P hj;omega,h.sk _ j rfl hj,h.her (T.sk_le hj)⟩
theorem Spc.sim (h:Spc s s' P):Sim s s' (fun j=>j+cnt P (j+1)) id 0:=by
 have e:∀ j,j+cnt P (j+1)+1=(j+1)+cnt P (j+1):=fun j=>by omega
 refine ⟨fun j hj _ _ _=>?_,fun j hj _=>?_,fun j hj hd=>?_,.inl rfl,fun x=>Iff.rfl⟩
 ·simp only [e];exact h.at_ hj
 ·simp only [e]
  have:=h.at_ (j:=j+1) hj
  exact ⟨this.le,this.le',this.sk,this.he⟩
 ·simp only [e]
  by_cases hlt:j+1<s.size
  ·have hc:=YR P (a:=j+2) (b:=s.size) (by omega)
   have hl:j+1+cnt P (j+1)<s'.size:=by
    rw [h.sz]
    simp only [cnt] at hc ⊢
    omega
   rw [ZF hlt,ZF hl]
   cases hP:P (j+1) with
   | true =>
    have hb:=h.bl (j+1) hP
    have hnd:T.dig (T.ch s' (j+1+cnt P (j+1)))=false:=by
     cases hq:T.dig (T.ch s' (j+1+cnt P (j+1))) with
     | false=>rfl
     | true=>rw [(zb3 hq).1] at hb;cases hb
    have hnd2:T.dig (T.ch s (j+1))=false:=by
     cases hq:T.dig (T.ch s (j+1)) with
     | false=>rfl
     | true=>rw [h.dg j hd hq] at hP;cases hP
    rw [hnd,hnd2]
    exact ⟨rfl,fun h=>by cases h⟩
   | false =>
    have e2:cnt P (j+1+1)=cnt P (j+1):=by rw [show cnt P (j+1+1)=cnt P (j+1)+(if P (j+1)=true then 1 else 0) from rfl,hP];simp
    have hc2:=h.ch (j+1) hlt
    rw [e2] at hc2 ⊢
    rw [hc2]
    exact ⟨rfl,fun _=>⟨rfl,rfl⟩⟩
  ·have hj1:j+1=s.size:=by omega
   rw [X7 hlt,X7 (by rw [h.sz,hj1];omega)]
   exact ⟨rfl,fun h=>by cases h⟩
theorem Spc.mono (P:Nat->Bool):∀ a b:Nat,a<b->a+cnt P (a+1)<b+cnt P (b+1):=fun a b h=>by
 have:=YR P (a:=a+1) (b:=b+1) (by omega)
 omega
theorem Spc.alike (h:Spc s s' P) (hs':s'.size<=2000):(zX s').1=(zX s).1/\((zX s).1=0->szR (zk s').es (zk s').es.length=szR (zk s).es (zk s).es.length/\cpX s'=cpX s):=by
 have h0:=h.at_ (j:=0) (Nat.zero_le _)
 refine Go.Proofs.YtaebngpoagjafaaGreat.alike (Ok:=fun _=>True) h.sim ⟨h0.le,h0.le',h0.sk,h0.he⟩ (Spc.mono P) (fun a b _ _ e=>e) (fun p hp=>?_) (by have:=h.sz;omega) hs' (fun _ _ _=>trivial) (fun _ _=>trivial)
 have:=YR P (a:=p+1) (b:=s.size)
 rw [h.sz]
 constructor
 ·intro h1
  by_cases hlt:p<s.size
  ·exact hlt
  ·have:p=s.size:=by omega
   subst this
   rw [h.end_ 1] at h1
   omega
 ·intro h1
  have:=this (by omega)
  omega
end
end
structure YU (s t:ByteArray):Prop where
 ck:(zX t).1=(zX s).1
 sz:cSz t=cSz s
 ce:cpE t=cpE s
 cx:(zX s).1=0->cpX t=cpX s
theorem zdB {s t:ByteArray} (h1:(zX t).1=(zX s).1) (h2:(zX s).1=0->szR (zk t).es (zk t).es.length=szR (zk s).es (zk s).es.length/\cpX t=cpX s):YU s t:=by
 refine ⟨h1,?_,?_,fun h=>(h2 h).2⟩
 ·unfold cSz
  rw [h1]
  split
  ·next h=>rw [(h2 h).1]
  ·rfl
 ·unfold cpE
  rw [h1]
  split
  ·next h=>rw [(h2 h).1]
  ·rfl
theorem YU.refl (s:ByteArray):YU s s:=⟨rfl,rfl,rfl,fun _=>rfl⟩
section
theorem zd2 {q:List Int×Bool} {c:Int} (h:T.bl c=true):leT q c=q:=by
 simp only [T.bl,Bool.or_eq_true,beq_iff_eq] at h
 unfold leT
 rw [if_neg (by omega),if_neg (by omega)]
theorem zd3 (s:ByteArray):∀ n,leJ s n=(brL s n).foldl leT ([],true):=by
 intro n
 induction n with
 | zero=>rfl
 | succ n ih =>
  simp only [leJ,brL,List.foldl_append]
  rw [ih]
  split
  ·next h=>rw [zd2 h];rfl
  ·rfl
theorem zd1 {x:List Int} (h:∀ c∈x,c≠59) (l:List Int):x.foldl leT (l,false)=(l,false):=by
 induction x with
 | nil=>rfl
 | cons c x ih =>
  simp only [List.foldl_cons]
  rw [show leT (l,false) c=(l,false) by unfold leT;rw [if_neg (by simp),if_neg (h c (by simp))]]
  exact ih (fun c hc=>h c (by simp [hc]))
theorem zbG {y:Int×List Int} (h:97<=y.1/\y.1<=122) (hx:∀ c∈y.2,c≠59) (l:List Int):(ruT y).foldl leT (l,true)=(l++[y.1],false):=by
 unfold ruT
 simp only [List.cons_append,List.nil_append,List.foldl_cons]
 rw [show leT (l,true) y.1=(l++[y.1],false) by unfold leT;rw [if_pos ⟨rfl,h⟩],show leT (l++[y.1],false) 58=(l++[y.1],false) from by unfold leT;simp]
 exact zd1 hx _
theorem zc6:∀ (Y:List (Int×List Int)) (l:List Int),Y≠[]->(∀ y∈Y,(97<=y.1/\y.1<=122)/\∀ c∈y.2,c≠59)->(joi 59 (Y.map ruT)).foldl leT (l,true)=(l++Y.map Prod.fst,false):=by
 intro Y
 induction Y with
 | nil=>intro l h;exact absurd rfl h
 | cons y Y ih =>
  intro l _ h
  have hy:=h y (by simp)
  by_cases hY:Y=[]
  ·subst hY
   simp only [List.map_cons,List.map_nil,joi]
   exact zbG hy.1 hy.2 l
  ·rw [List.map_cons,ZE 59 _ (by simpa using hY),List.foldl_append,List.foldl_append,zbG hy.1 hy.2]
   simp only [List.foldl_cons,List.foldl_nil]
   rw [show leT (l++[y.1],false) 59=(l++[y.1],true) from by unfold leT;simp,ih _ hY (fun z hz=>h z (by simp [hz]))]
   simp
theorem Y6 {c x:Int}:∀ (l:List (List Int)),x∈joi c l->x=c\/∃ y∈l,x∈y:=by
 intro l
 induction l with
 | nil=>intro h;simp [joi] at h
 | cons y l ih =>
  intro h
  by_cases hl:l=[]
  ·subst hl;simp only [joi] at h;exact .inr ⟨y,by simp,h⟩
  ·rw [ZE c _ hl] at h
   simp only [List.mem_append,List.mem_singleton] at h
   rcases h with (h | h) | h
   ·exact .inr ⟨y,by simp,h⟩
   ·exact .inl h
   ·rcases ih h with h | ⟨z,h1,h2⟩
    ·exact .inl h
    ·exact .inr ⟨z,by simp [h1],h2⟩
theorem Pln.no {x:List Int} (h:Pln x) {c:Int} (hc:c∈x):c≠59:=by have:=h c hc;omega
theorem TX.no {E:List EX} {Y:List (Int×List Int)} {t:List Int} {j:Nat} (h:TX E Y t j):∀ c∈t,c≠59:=by
 induction h with
 | servers h1 h2 h3 h4 h5 =>
  intro c hc
  simp only [List.mem_append,List.mem_singleton] at hc
  rcases hc with (hc | hc) | hc
  ·omega
  ·rcases Y6 _ hc with h | ⟨y,hy,h⟩
   ·omega
   ·exact (XE h4 h5 y hy).no h
  ·omega
 | alias h1 h2 h3 =>
  intro c hc
  rcases List.mem_cons.1 hc with h | h
  ·omega
  ·exact h3.pln.no h
 | name h1 h2 h3 h4 =>
  intro c hc
  simp at hc
  omega
 | ttl h1 h2 h3 h4 h5 _ ih =>
  intro c hc
  simp only [List.mem_append,List.mem_singleton] at hc
  rcases hc with hc | (hc | hc) | hc
  ·omega
  ·omega
  ·rcases Y6 _ hc with h | ⟨y,hy,h⟩
   ·omega
   ·simp at hy
    rcases hy with rfl | rfl
    ·exact h3.pln.no h
    ·exact ih c h
  ·omega
 | @list j i e k l o h1 h2 h3 h4 h5 h6 h7 h8 _ ih =>
  intro c hc
  simp only [List.mem_append,List.mem_singleton] at hc
  rcases hc with hc | (hc | hc) | hc
  ·omega
  ·omega
  ·rcases Y6 _ hc with h | ⟨y,hy,h⟩
   ·omega
   ·simp at hy
    rcases hy with rfl | rfl
    ·rcases Y6 _ h with h | ⟨y,hy,h⟩
     ·omega
     ·exact (XE h5 h6 y hy).no h
    ·exact ih c h
  ·omega
 | @maps j i e k m ks ar an o h1 h2 h3 h4 h5 h6 _ h8 h9 _ iha iho =>
  intro c hc
  simp only [List.mem_append,List.mem_singleton] at hc
  rcases hc with hc | (hc | hc) | hc
  ·omega
  ·omega
  ·rcases Y6 _ hc with h | ⟨y,hy,h⟩
   ·omega
   ·simp at hy
    rcases hy with rfl | rfl
    ·rcases Y6 _ h with h | ⟨y,hy,h⟩
     ·omega
     ·simp only [List.mem_map,List.mem_range] at hy
      obtain ⟨a,ha,rfl⟩:=hy
      simp only [List.mem_append,List.mem_cons] at h
      rcases h with h | h | h
      ·exact (h6 a e.items[a] (List.getElem?_eq_getElem (by omega))).1.pln.no h
      ·omega
      ·exact iha a ha c h
    ·exact iho c h
  ·omega
structure Nms (s:ByteArray):Prop where
 le:(leJ s s.size).1=(zk s).rs.map RL.nv
 let_:∀ r∈(zk s).rs,97<=r.nv/\r.nv<=122
 ex:∀ r∈(zk s).rs,0<=r.ex
 last:∃ l r,(zk s).rs=l++[r]/\r.ex=(((zk s).es.length-1:Nat):Int)/\zP r.nv l=-1
 ref:∀ e∈(zk s).es,e.kind=61->∃ r∈(zk s).rs,r.nv=e.nv
theorem zc0 {v:Int}:∀ {l:List RL},zP v l≠-1->∃ r∈l,r.nv=v:=by
 intro l
 induction l with
 | nil=>intro h;exact absurd rfl h
 | cons r l ih =>
  intro h
  simp only [zP] at h
  by_cases hr:r.nv=v
  ·exact ⟨r,by simp,hr⟩
  ·rw [if_neg hr] at h
   obtain ⟨x,h1,h2⟩:=ih h
   exact ⟨x,by simp [h1],h2⟩
theorem zdX {v:Int}:∀ {l:List RL},(∀ r∈l,r.nv≠v)->zP v l=-1:=by
 intro l
 induction l with
 | nil=>intro _;rfl
 | cons r l ih =>
  intro h
  simp only [zP]
  rw [if_neg (h r (by simp))]
  exact ih (fun x hx=>h x (by simp [hx]))
theorem zc1 {v:Int} {b:List RL}:∀ {a:List RL},(∀ r∈a,0<=r.ex)->zP v a=-1->zP v (a++b)=zP v b:=by
 intro a
 induction a with
 | nil=>intro _ _;rfl
 | cons r a ih =>
  intro h1 h2
  simp only [List.cons_append,zP] at h2 ⊢
  by_cases hr:r.nv=v
  ·rw [if_pos hr] at h2;have:=h1 r (by simp);omega
  ·rw [if_neg hr] at h2 ⊢;exact ih (fun x hx=>h1 x (by simp [hx])) h2
def RfL (rs:List RL) (l:List EX):Prop:=∀ e∈l,e.kind=61->e.inner=-1\/∃ r∈rs,r.nv=e.nv
theorem RfL.app {rs:List RL} {a b:List EX} (h:RfL rs a) (k:RfL rs b):RfL rs (a++b):=fun e he=>(List.mem_append.1 he).elim (h e) (k e)
theorem RfL.one {rs:List RL} {e:EX} (h:e.kind=61->e.inner=-1\/∃ r∈rs,r.nv=e.nv):RfL rs [e]:=fun x hx=>by simp at hx;subst hx;exact h
theorem RfL.nil (rs:List RL):RfL rs []:=fun _ h=>by simp at h
theorem jh {rs:List RL} {ex:Int->Nat->Nat->Bool->CR} {s:ByteArray} (hX:∀ d m k b,RfL rs (ex d m k b).es) (kind d:Int) (m k:Nat) (b:Bool):RfL rs (zu ex s kind d m k b).es:=by
 unfold zu
 simp only
 split
 ·exact hX _ _ _ _
 ·split
  ·exact hX _ _ _ _
  ·split
   ·exact RfL.nil _
   ·exact RfL.nil _
theorem qU {rs:List RL} {ex:Int->Nat->Nat->Bool->CR} {s:ByteArray} (hX:∀ d m k b,RfL rs (ex d m k b).es) (kind d:Int):∀ (n m k:Nat) (b:Bool),RfL rs (zg ex s kind d n m k b).es:=by
 intro n
 induction n with
 | zero=>intro m k b;exact RfL.nil _
 | succ n ih =>
  intro m k b
  simp only [zg]
  split
  ·exact (jh hX _ _ _ _ _).app (ih _ _ _)
  ·exact jh hX _ _ _ _ _
theorem zew (s:ByteArray) (rs:List RL) (n:Nat):∀ d m k b,RfL rs (cE s rs n d m k b).es:=by
 induction n with
 | zero=>intro d m k b;exact RfL.nil _
 | succ n ih =>
  intro d m k b
  simp only [cE]
  split
  ·exact RfL.nil _
  ·split
   ·exact (qU ih _ _ _ _ _ _).app (RfL.one (fun h=>by simp at h))
   ·split
    ·exact (ih _ _ _ _).app (RfL.one (fun h=>by simp at h))
    ·split
     ·exact RfL.one (fun h=>by simp at h)
     ·split
      ·refine RfL.one (fun _=>?_)
       simp only
       by_cases h:zP (zd s (za s (za s k b+1) b) b) rs=-1
       ·exact .inl h
       ·exact .inr (zc0 h)
      ·next h1=>exact ((qU ih _ _ _ _ _ _).app (ih _ _ _ _)).app (RfL.one (fun h=>absurd h h1))
theorem zaM (s:ByteArray):∀ (n:Nat) (rs:List RL) (m k:Nat) (b:Bool),RfL (zt s n rs m k b).rs (zt s n rs m k b).es:=by
 intro n
 induction n with
 | zero=>intro rs m k b;exact RfL.nil _
 | succ n ih =>
  intro rs m k b
  obtain ⟨t,ht⟩:=qS s (n+1) rs m k b
  have h1:RfL (zt s (n+1) rs m k b).rs (zA s rs m k b).es:=fun e he hk=>by
   rcases zew s rs _ _ _ _ _ e he hk with h | ⟨r,h1,h2⟩
   ·exact .inl h
   ·exact .inr ⟨r,by rw [ht];simp [h1],h2⟩
  simp only [zt] at h1 ⊢
  split
  ·next hh=>rw [if_pos hh] at h1;exact h1.app (ih _ _ _ _)
  ·next hh=>rw [if_neg hh] at h1;exact h1
theorem Pol.nms {s:ByteArray} {Y:List (Int×List Int)} (hc0:(zX s).1=0) (hp:Pol s Y):Nms s:=by
 obtain ⟨_,hCb,hCk,hF⟩:=ZU hc0
 have hlen:=hp.rx.len
 have hat:∀ (i:Nat) (r:RL),(zk s).rs[i]?=some r->∃ y,Y[i]?=some y/\y.1=r.nv/\0<=r.ex:=fun i r hr=>by
  have hi:=(List.getElem?_eq_some_iff.1 hr).1
  have hy:Y[i]?=some Y[i]:=List.getElem?_eq_getElem (by omega)
  obtain ⟨h1,j,h2,_⟩:=hp.rx.at_ i r _ hr hy
  exact ⟨_,hy,h1,by omega⟩
 have hfst:Y.map Prod.fst=(zk s).rs.map RL.nv:=by
  apply List.ext_getElem?
  intro i
  rw [List.getElem?_map,List.getElem?_map]
  cases hr:(zk s).rs[i]? with
  | none =>
   have:=List.getElem?_eq_none_iff.1 hr
   rw [List.getElem?_eq_none_iff.2 (by omega)];rfl
  | some r =>
   obtain ⟨y,hy,h1,_⟩:=hat i r hr
   rw [hy]
   simp [h1]
 have hYs:∀ y∈Y,(97<=y.1/\y.1<=122)/\∀ c∈y.2,c≠59:=fun y hy=>by
  refine ⟨hp.let_ y hy,?_⟩
  obtain ⟨i,hi⟩:=List.getElem?_of_mem hy
  have hil:=(List.getElem?_eq_some_iff.1 hi).1
  obtain ⟨_,j,_,_,h⟩:=hp.rx.at_ i _ y (List.getElem?_eq_getElem (by omega)) hi
  exact h.no
 have hnn:∀ e∈(zk s).es,e.kind=61->e.inner≠-1:=fun e he hk hi=>by
  rcases Yp (zk s).es (zk s).rs with ⟨_,h2⟩ | ⟨h1,_⟩
  ·exact h2 5 e.na (.inl ⟨e,he,.inl (.inr (.inr (.inr ⟨hk,hi,rfl,rfl⟩)))⟩)
  ·exact absurd hF h1
 obtain ⟨r,hr,hrx⟩:=hp.last
 have hne:(zk s).rs≠[]:=fun h=>by rw [h] at hr;cases hr
 obtain ⟨l,hl⟩:∃ l,(zk s).rs=l++[r]:=by
  refine ⟨(zk s).rs.dropLast,?_⟩
  have h1:=List.dropLast_concat_getLast hne
  rw [List.getLast?_eq_some_getLast hne] at hr
  simp only [Option.some.injEq] at hr
  rw [hr] at h1
  exact h1.symm
 refine ⟨?_,fun r hr=>?_,fun r hr=>?_,⟨l,r,hl,hrx,?_⟩,?_⟩
 ·rw [zd3,hp.bl,zc6 Y [] hp.ne hYs,hfst]
  rfl
 ·obtain ⟨i,hi⟩:=List.getElem?_of_mem hr
  obtain ⟨y,hy,h1,_⟩:=hat i r hi
  have:=hp.let_ y (List.mem_of_getElem? hy)
  omega
 ·obtain ⟨i,hi⟩:=List.getElem?_of_mem hr
  exact (hat i r hi).choose_spec.2.2
 ·cases Decidable.em (zP r.nv l=-1) with
  | inl h=>exact h
  | inr h =>
   exfalso
   rcases Yp (zk s).es (zk s).rs with ⟨_,h2⟩ | ⟨h1,_⟩
   ·exact h2 5 r.na (.inr (by rw [hl,JT];exact .inr (.inl ⟨by simpa using h,rfl,rfl⟩)))
   ·exact absurd hF h1
 ·intro e he hk
  rcases zaM s (s.size+1) [] 0 0 false e he hk with h | h
  ·exact absurd h (hnn e he hk)
  ·exact h
structure Add (s t:ByteArray) (c l:Int):Prop where
 sz:t.size=s.size+5
 ch:∀ j,j<s.size->T.ch t j=T.ch s j
 c0:T.ch t s.size=59
 c1:T.ch t (s.size+1)=c
 c2:T.ch t (s.size+2)=58
 c3:T.ch t (s.size+3)=61
 c4:T.ch t (s.size+4)=l
section
variable {s t:ByteArray} {c l:Int}
theorem Add.sk (h:Add s t c l):∀ (n j:Nat),s.size-j=n->j<=s.size->T.sk t j=T.sk s j:=by
 intro n
 induction n with
 | zero =>
  intro j h1 h2
  have hj:j=s.size:=by omega
  subst hj
  rw [T.sk_here (s:=s) (by rw [T.ch_ge (by omega)];rfl),T.sk_here (s:=t) (by rw [h.c0];rfl)]
 | succ n ih =>
  intro j h1 h2
  have hc:=h.ch j (by omega)
  cases hb:T.bl (T.ch s j) with
  | false=>rw [T.sk_here hb,T.sk_here (by rw [hc];exact hb)]
  | true=>rw [<- T.sk_next hb,<- ih (j+1) (by omega) (by omega),<- T.sk_next (s:=t) (by rw [hc];exact hb)]
theorem Add.her (h:Add s t c l) {p:Nat} (hp:p<=s.size):zd t p false=hz s 59 p:=by
 by_cases hlt:p<s.size
 ·rw [Z7 hlt,ZF (by rw [h.sz];omega),h.ch p hlt]
 ·have:p=s.size:=by omega
  subst this
  rw [xy hlt,ZF (by rw [h.sz];omega),h.c0]
theorem Add.at_ (h:Add s t c l) {j:Nat} (hj:j<=s.size):At s t id 59 j j:=⟨hj,by rw [h.sz];omega,h.sk _ j rfl hj,h.her (T.sk_le hj)⟩
theorem Add.sim (h:Add s t c l):Sim s t id id 59:=by
 refine ⟨fun j hj _ _ _=>h.at_ hj,fun j hj _=>?_,fun j hj hd=>?_,.inr rfl,fun x=>Iff.rfl⟩
 ·have:=h.at_ (j:=j+1) hj
  exact ⟨this.le,this.le',this.sk,this.he⟩
 ·simp only [id]
  rw [h.her (p:=j+1) hj]
  by_cases hlt:j+1<s.size
  ·rw [Z7 hlt,ZF hlt];exact ⟨rfl,fun _=>⟨trivial,rfl⟩⟩
  ·rw [xy hlt,X7 hlt];exact ⟨rfl,fun h=>by cases h⟩
theorem zev (e:EX):gE id id 0 e=e:=by
 have h1:∀ a,psi id a=a:=fun a=>by unfold psi;split<;>simp;omega
 have h2:∀ a,shI 0 a=a:=fun a=>by unfold shI;split<;>simp
 have h3:∀ k,(fun x=>gI id 0 k x)=id:=fun k=>funext fun x=>by simp [gI,h1,h2]
 cases e with
 | mk k a d v n i j =>
  simp only [gE,h1,h2,id]
  rw [show i.map (gI id 0 k)=i by rw [show gI id 0 k=id from h3 k];simp]
  simp
theorem zeu (r:RL):gR id id 0 r=r:=by
 have h1:∀ a,psi id a=a:=fun a=>by unfold psi;split<;>simp;omega
 have h2:∀ a,shI 0 a=a:=fun a=>by unfold shI;split<;>simp
 simp [gR,h1,h2]
theorem Add.all (h:Add s t c l) (hc0:(zX s).1=0) (hc:97<=c/\c<=122) (hl:97<=l/\l<=122):∃ e2 r2,zk t=⟨(zk s).es++[e2],(zk s).rs++[r2],t.size,false⟩/\r2.nv=c/\e2.kind=61/\e2.depth=0/\e2.items=[]/\e2.inner=zP l (zk s).rs:=by
 obtain ⟨_,hCb,hCk,hF⟩:=ZU hc0
 have h0:=h.at_ (j:=0) (Nat.zero_le _)
 rcases qb (δ:=0) (Ok:=fun _=>True) h.sim (fun a b _ _ e=>e) [] (by simp) (s.size+1) (t.size+1) [] 0 0 0 ⟨h0.le,h0.le',h0.sk,h0.he⟩ (by omega) (by omega) (zk s) rfl (fun _ _ _=>trivial) (fun _ _=>trivial) with ⟨h1,_⟩ | ⟨_,N',K',h2,h3,h4,h5,h6⟩
 ·rw [hCb] at h1;cases h1
 ·rw [hCk] at h3 h4 h5
  simp only [List.map_nil,List.append_nil,List.nil_append,Nat.add_zero,Nat.zero_add] at h6
  rw [show zt t (t.size+1) [] 0 0 false=zk t from rfl] at h6
  have e1:(zk s).es.map (gE id id 0)=(zk s).es:=by rw [show gE id id 0=id from funext zev];simp
  have e2:(zk s).rs.map (gR id id 0)=(zk s).rs:=by rw [show gR id id 0=id from funext zeu];simp
  rw [e1,e2] at h6
  have hsk:za t K' false=s.size:=by rw [h3.skp,Zp,h4];rfl
  have htk:takeB t 59 K' false=true:=by unfold takeB;rw [hsk,h.her (Nat.le_refl _),xy (by omega)];rfl
  have hK:zb t 59 K' false=s.size+1:=by unfold zb;rw [if_pos htk,hsk]
  have hK2:K'<=s.size:=by have:=zI t K' false;omega
  have hsz:=h.sz
  obtain ⟨N,rfl⟩:∃ N,N'=N+1:=⟨N'-1,by omega⟩
  unfold qu at h6
  rw [if_pos htk,hK] at h6
  have s1:∀ p,p<t.size->T.bl (T.ch t p)=false->za t p false=p/\zd t p false=T.ch t p:=fun p hp hb=>⟨by rw [Zp,T.sk_here hb],ZF hp⟩
  obtain ⟨a1,b1⟩:=s1 (s.size+1) (by omega) (by rw [h.c1];simp [T.bl];omega)
  obtain ⟨a2,b2⟩:=s1 (s.size+2) (by omega) (by rw [h.c2];rfl)
  obtain ⟨a3,b3⟩:=s1 (s.size+3) (by omega) (by rw [h.c3];rfl)
  obtain ⟨a4,b4⟩:=s1 (s.size+4) (by omega) (by rw [h.c4];simp [T.bl];omega)
  rw [h.c1] at b1
  rw [h.c2] at b2
  rw [h.c3] at b3
  rw [h.c4] at b4
  have l1:Zo t (s.size+1) false=true:=by unfold Zo;rw [a1,b1];simp;omega
  have l2:zH t (s.size+1) false=s.size+2/\zR t (s.size+1) false=false:=by unfold zH zR;rw [l1,a1];exact ⟨rfl,rfl⟩
  have l3:takeB t 58 (s.size+2) false=true:=by unfold takeB;rw [a2,b2];rfl
  have l4:zb t 58 (s.size+2) false=s.size+3/\zh t 58 (s.size+2) false=false:=by unfold zb zh;rw [l3,a2];exact ⟨rfl,rfl⟩
  have l5:Zo t (s.size+4) false=true:=by unfold Zo;rw [a4,b4];simp;omega
  have l6:zH t (s.size+4) false=s.size+5/\zR t (s.size+4) false=false:=by unfold zH zR;rw [l5,a4];exact ⟨rfl,rfl⟩
  have l7:za t (s.size+5) false=s.size+5:=by rw [Zp,T.sk_here (by rw [T.ch_ge (by omega)];rfl)]
  have l8:takeB t 59 (s.size+5) false=false:=by unfold takeB;rw [l7,X7 (by omega)];rfl
  have hR:zA t (zk s).rs (zk s).es.length (s.size+1) false=⟨⟨c,(s.size+1:Nat),((zk s).es.length:Nat)⟩,[⟨61,(s.size+3:Nat),0,l,(s.size+4:Nat),[],zP l (zk s).rs⟩],s.size+5,false⟩:=by
   unfold zA
   simp only
   rw [l2.1,l2.2,l4.1,l4.2,a1,b1,YC (s:=t) t.size 0 (zk s).es.length (s.size+3) false (by rw [a3,b3]),a3,a4,b4,l6.1,l6.2]
  have hQ:zt t (N+1) (zk s).rs (zk s).es.length (s.size+1) false=⟨[⟨61,(s.size+3:Nat),0,l,(s.size+4:Nat),[],zP l (zk s).rs⟩],(zk s).rs++[⟨c,(s.size+1:Nat),((zk s).es.length:Nat)⟩],s.size+5,false⟩:=by
   simp only [zt]
   rw [hR]
   simp only
   rw [l8]
   simp only [Bool.false_eq_true,if_false]
   unfold zb
   rw [l8,l7]
   rfl
  rw [hQ] at h6
  exact ⟨_,_,by rw [h6,hsz],rfl,rfl,rfl,rfl,rfl⟩
theorem Add.alike (h:Add s t c l) (hc0:(zX s).1=0) (hn:Nms s) (hc:97<=c/\c<=122) (hcn:∀ r∈(zk s).rs,r.nv≠c) (hl:∃ a r,(zk s).rs=a++[r]/\r.nv=l) (ht:t.size<=2000):(zX t).1=0/\szR (zk t).es (zk t).es.length=szR (zk s).es (zk s).es.length/\cpX t=cpX s:=by
 obtain ⟨_,hCb,hCk,hF⟩:=ZU hc0
 obtain ⟨a,r,hr1,hr2,hr3⟩:=hn.last
 have hll:r.nv=l:=by
  obtain ⟨a',r',h1,h2⟩:=hl
  have:=h1.symm.trans hr1
  have:=(List.append_inj' this rfl).2
  simp at this
  rw [<- this];exact h2
 have hlet:97<=l/\l<=122:=by rw [<- hll];exact hn.let_ r (by rw [hr1];simp)
 have hpos:=(xf hc0).1
 have hin:zP l (zk s).rs=(((zk s).es.length-1:Nat):Int):=by
  rw [hr1,<- hll,zc1 (fun x hx=>hn.ex x (by rw [hr1];simp [hx])) hr3]
  simp only [zP]
  rw [if_pos trivial,hr2]
 obtain ⟨e2,r2,hall,k1,k2,k3,k4,k5⟩:=h.all hc0 hc hlet
 rw [hin] at k5
 unfold cpX
 rw [hall]
 simp only [List.length_append,List.length_singleton]
 have hg:((zk s).es++[e2])[(zk s).es.length]?=some e2:=by simp
 refine ⟨?_,?_,?_⟩
 ·unfold zX
  rw [if_neg (by omega),hall]
  simp only [Bool.false_or,Nat.lt_irrefl,decide_false,Bool.false_eq_true,if_false]
  have hff:(Z2 ((zk s).es++[e2]) ((zk s).rs++[r2])).1=0:=by
   unfold Z2
   simp only [List.length_append,List.length_singleton]
   have e3:yG ((zk s).rs++[r2]) (0,0) ((zk s).rs.length+1)=yG (zk s).rs (0,0) (zk s).rs.length:=by
    simp only [yG]
    rw [List.getElem?_append_right (Nat.le_refl _),Nat.sub_self]
    simp only [List.getElem?_cons_zero]
    rw [List.take_append_of_le_length (Nat.le_refl _),List.take_length,k1,zdX hcn,if_pos rfl,qM _ _ _ _ (Nat.le_refl _)]
   rw [e3]
   simp only [ZM]
   rw [hg]
   simp only
   rw [k4,qN _ _ _ _ (Nat.le_refl _)]
   simp only [List.length_nil,yP,YK]
   rw [k2,k3,k5]
   simp only [show ¬ ((12:Int)<=0) by decide,if_false,show ¬ ((61:Int)=116) by decide,show ¬ ((61:Int)=64) by decide,if_true]
   rw [if_neg (by omega)]
   exact hF
  rw [hff]
  rfl
 ·simp only [szR]
  rw [hg,QL _ _ _ (Nat.le_refl _)]
  obtain ⟨m,hm⟩:∃ m,(zk s).es.length=m+1:=⟨(zk s).es.length-1,by omega⟩
  have hbd:=jy (e:=(zk s).es[m]) (K:=szK (zk s).es m) (ZR (zk s).es m)
  have hem:(zk s).es[m]?=some (zk s).es[m]:=List.getElem?_eq_getElem (by omega)
  have hE:∀ K,szE e2 K=yM (atF K e2.inner+(if e2.kind=61 then 0 else 1+(e2.items.length:Int))+yj K e2.items e2.items.length):=fun _=>rfl
  simp only
  rw [hE,k2,k4,k5,hm]
  simp only [if_true,List.length_nil,yj,Int.add_zero]
  have hat:atF (szK (zk s).es (m+1)) ((m+1-1:Nat):Int)=szR (zk s).es (m+1):=by
   unfold atF
   rw [if_neg (by omega)]
   simp only [szK,szR,Nat.add_sub_cancel,Int.toNat_natCast]
   rw [List.getElem?_append_right (by rw [yS];exact Nat.le_refl _),yS,Nat.sub_self]
   simp
  rw [hat]
  simp only [szR,hem]
  generalize szE (zk s).es[m] (szK (zk s).es m)=q at *
  unfold yM
  split<;>omega
 ·simp only [z6]
  rw [hg,qO _ _ _ (Nat.le_refl _)]
  obtain ⟨m,hm⟩:∃ m,(zk s).es.length=m+1:=⟨(zk s).es.length-1,by omega⟩
  simp only [ZY]
  rw [k2,k5,hm]
  simp only [if_true]
  unfold atL
  rw [if_neg (by omega),Nat.add_sub_cancel,Int.toNat_natCast,JJ _ _ _ (Nat.lt_succ_self m)]
  rfl
end
end
end Go.Proofs.YtaebngpoagjafaaGreat
