import Derived.Test.YtaebngpoagjafabF16
set_option maxRecDepth 100000
namespace Go.Proofs.Ytaebngpoagjafab
section
def hz (s:ByteArray) (z:Int) (p:Nat):Int:=if p<s.size then T.ch s p else z
structure At (s s':ByteArray) (ψ:Nat->Nat) (z:Int) (k k':Nat):Prop where
 le:k<=s.size
 le':k'<=s'.size
 sk:T.sk s' k'=ψ (T.sk s k)
 he:zc s' (ψ (T.sk s k)) false=hz s z (T.sk s k)
structure AtN (s s':ByteArray) (ψ:Nat->Nat) (ρ:Int->Int) (z:Int) (k k':Nat):Prop where
 le:k<=s.size
 le':k'<=s'.size
 sk:T.sk s' k'=ψ (T.sk s k)
 he:zc s' (ψ (T.sk s k)) false=ρ (hz s z (T.sk s k))
structure Sim (s s':ByteArray) (ψ:Nat->Nat) (ρ:Int->Int) (z:Int):Prop where
 pl:∀ j,j<s.size->T.bl (T.ch s j)=false->T.ch s j≠59->T.ch s j≠61->At s s' ψ z (j+1) (ψ j+1)
 nm:∀ j,j<s.size->T.ch s j=59\/T.ch s j=61->AtN s s' ψ ρ z (j+1) (ψ j+1)
 dg:∀ j,j<s.size->T.dig (T.ch s j)=true->T.dig (zc s' (ψ j+1) false)=T.dig (zc s (j+1) false)/\(T.dig (zc s (j+1) false)=true->ψ (j+1)=ψ j+1/\zc s' (ψ j+1) false=zc s (j+1) false)
 zz:z=0\/z=59
 rl:∀ x,(97<=ρ x/\ρ x<=122)↔(97<=x/\x<=122)
theorem Ze (s:ByteArray) (k:Nat):za s k false=T.sk s k:=by simp [za]
theorem qO (s:ByteArray) (k:Nat):T.sk s (T.sk s k)=T.sk s k:=T.sk_here (T.sk_bl s k)
theorem yC {s:ByteArray} {p:Nat} (h:p<s.size):zc s p false=T.ch s p:=by simp [zc,h]
theorem Z0 {s:ByteArray} {p:Nat} (h:¬ p<s.size):zc s p false=0:=by simp [zc,h]
theorem Zf {s:ByteArray} {z:Int} {p:Nat} (h:p<s.size):hz s z p=T.ch s p:=by simp [hz,h]
theorem ZZ {s:ByteArray} {z:Int} {p:Nat} (h:¬ p<s.size):hz s z p=z:=by simp [hz,h]
section
variable {s s':ByteArray} {ψ:Nat->Nat} {ρ:Int->Int} {z:Int} {k k':Nat}
theorem At.skip (h:At s s' ψ z k k'):At s s' ψ z (za s k false) (za s' k' false):=by
 rw [Ze,Ze]
 exact ⟨T.sk_le h.le,T.sk_le h.le',by rw [qO,qO];exact h.sk,by rw [qO];exact h.he⟩
theorem At.skp (h:At s s' ψ z k k'):za s' k' false=ψ (za s k false):=by rw [Ze,Ze];exact h.sk
theorem At.her (h:At s s' ψ z k k'):zc s' (za s' k' false) false=hz s z (za s k false):=by rw [h.skp,Ze];exact h.he
theorem At.takeB (h:At s s' ψ z k k') (hzz:z=0\/z=59) {c:Int} (h0:c≠0) (h1:c≠59):takeB s' c k' false=takeB s c k false:=by
 unfold Go.Proofs.Ytaebngpoagjafab.takeB
 rw [h.her]
 by_cases hp:za s k false<s.size
 ·rw [Zf hp,yC hp]
 ·rw [ZZ hp,Z0 hp]
  have e1:(z==c)=false:=by simp;omega
  have e2:((0:Int)==c)=false:=by simp;omega
  rw [e1,e2]
theorem At.took (S:Sim s s' ψ ρ z) (h:At s s' ψ z k k') {c:Int} (h0:c≠0) (h1:c≠59) (h2:c≠61) (h3:T.bl c=false) (ht:Go.Proofs.Ytaebngpoagjafab.takeB s c k false=true):At s s' ψ z (zb s c k false) (zb s' c k' false):=by
 have ht':=(h.takeB S.zz h0 h1).trans ht
 obtain ⟨_,hp,hc⟩:=yU h0 ht
 unfold zb
 rw [if_pos ht,if_pos ht',h.skp]
 rw [Ze] at hp ⊢
 exact S.pl _ hp (by rw [hc];exact h3) (by rw [hc];exact h1) (by rw [hc];exact h2)
theorem At.want (S:Sim s s' ψ ρ z) (h:At s s' ψ z k k') {c:Int} (h0:c≠0) (h1:c≠59) (h2:c≠61) (h3:T.bl c=false):ze s' c k' false=ze s c k false/\(ze s c k false=false->At s s' ψ z (zb s c k false) (zb s' c k' false)):=by
 have ht:=h.takeB S.zz h0 h1
 unfold ze
 rw [ht]
 refine ⟨rfl,fun hw=>?_⟩
 split at hw
 ·next hh=>exact h.took S h0 h1 h2 h3 hh
 ·cases hw
theorem JN (S:Sim s s' ψ ρ z) {P:Int->Bool} (hP:∀ x,P x=true->T.dig x=true) {f:ByteArray->Nat->Nat->Nat} (f0:∀ t j,f t 0 j=j) (f1:∀ t n j,f t (n+1) j=if P (zc t j false)=true then f t n (j+1) else j):∀ (n j:Nat),P (zc s j false)=true->zc s' (ψ j) false=zc s j false ->
 f s' (n+1) (ψ j)=ψ j+(f s (n+1) j-j)/\j<f s (n+1) j/\∀ i,j+i<f s (n+1) j->ψ (j+i)=ψ j+i/\zc s' (ψ j+i) false=zc s (j+i) false/\T.dig (zc s (j+i) false)=true:=by
 intro n
 induction n with
 | zero =>
  intro j h1 h2
  rw [f1,f1,h2,if_pos h1,if_pos h1,f0,f0]
  refine ⟨by omega,by omega,fun i hi=>?_⟩
  have:i=0:=by omega
  subst this
  exact ⟨rfl,h2,hP _ h1⟩
 | succ n ih =>
  intro j h1 h2
  have hj:=(yu (hP _ h1)).2
  have hdg:=S.dg j hj.1 (by rw [<- hj.2];exact hP _ h1)
  rw [f1 s',f1 s,h2,if_pos h1,if_pos h1]
  by_cases hd:P (zc s (j+1) false)=true
  ·obtain ⟨e1,e2⟩:=hdg.2 (hP _ hd)
   obtain ⟨a1,a2,a3⟩:=ih (j+1) hd (by rw [e1];exact e2)
   rw [e1] at a1 a3
   refine ⟨by rw [a1];omega,by omega,fun i hi=>?_⟩
   cases i with
   | zero=>exact ⟨rfl,h2,hP _ h1⟩
   | succ i =>
    have:=a3 i (by omega)
    rw [show j+(i+1)=j+1+i by omega,show ψ j+(i+1)=ψ j+1+i by omega]
    exact this
  ·have hd':¬ P (zc s' (ψ j+1) false)=true:=fun hh=>by
    have h3:T.dig (zc s (j+1) false)=true:=by rw [<- hdg.1];exact hP _ hh
    rw [(hdg.2 h3).2] at hh
    exact hd hh
   rw [f1,f1,if_neg hd,if_neg hd']
   refine ⟨by omega,by omega,fun i hi=>?_⟩
   have:i=0:=by omega
   subst this
   exact ⟨rfl,h2,hP _ h1⟩
theorem zas {p p':Nat}:∀ n,(∀ i,i<n->T.ch s' (p'+i)=T.ch s (p+i))->vl s' p' n=vl s p n/\bv s' p' n=bv s p n:=by
 intro n
 induction n with
 | zero=>intro _;exact ⟨rfl,rfl⟩
 | succ n ih =>
  intro h
  have:=ih (fun i hi=>h i (by omega))
  simp only [vl,bv]
  rw [this.1,this.2,h n (by omega)]
  exact ⟨rfl,rfl⟩
theorem qB {c:Int} (h:T.dig c=true):T.bl c=false/\c≠59/\c≠61/\48<=c/\c<=57:=by
 simp only [T.dig,Bool.and_eq_true,decide_eq_true_eq] at h
 simp only [T.bl,Bool.or_eq_false_iff,beq_eq_false_iff_ne]
 omega
theorem qQ (S:Sim s s' ψ ρ z) {P:Int->Bool} (hP:∀ x,P x=true->T.dig x=true) {f:ByteArray->Nat->Nat->Nat} (f0:∀ t j,f t 0 j=j) (f1:∀ t n j,f t (n+1) j=if P (zc t j false)=true then f t n (j+1) else j) (n j:Nat) (h1:P (zc s j false)=true) (h2:zc s' (ψ j) false=zc s j false) :
 j<f s (n+1) j/\f s' (n+1) (ψ j)=ψ j+(f s (n+1) j-j)/\At s s' ψ z (f s (n+1) j) (f s' (n+1) (ψ j))/\vl s' (ψ j) (f s (n+1) j-j)=vl s j (f s (n+1) j-j)/\bv s' (ψ j) (f s (n+1) j-j)=bv s j (f s (n+1) j-j):=by
 obtain ⟨a1,a2,a3⟩:=JN S hP f0 f1 n j h1 h2
 have hv:=zas (s:=s) (s':=s') (p:=j) (p':=ψ j) (f s (n+1) j-j) (fun i hi=>by
  obtain ⟨_,b2,b3⟩:=a3 i (by omega)
  have h4:=yu b3
  have h5:=yu (b:=false) (s:=s') (j:=ψ j+i) (by rw [b2];exact b3)
  rw [<- h4.2.2,<- h5.2.2,b2])
 refine ⟨a2,a1,?_,hv.1,hv.2⟩
 obtain ⟨b1,_,b3⟩:=a3 (f s (n+1) j-1-j) (by omega)
 have h4:=yu b3
 rw [h4.2.2] at b3
 have hdb:=qB b3
 have:=S.pl _ h4.2.1 hdb.1 hdb.2.1 hdb.2.2.1
 rw [b1] at this
 rw [a1,show ψ j+(f s (n+1) j-j)=ψ j+(f s (n+1) j-1-j)+1 by omega,show f s (n+1) j=j+(f s (n+1) j-1-j)+1 by omega]
 simpa using this
theorem At.num (S:Sim s s' ψ ρ z) (h:At s s' ψ z k k'):zq s' k' false=zq s k false/\(zq s k false=false->zA s' k' false=zA s k false/\At s s' ψ z (zi s k false) (zi s' k' false)):=by
 have hsk:=h.skp
 have hhe:=h.her
 rw [hsk] at hhe
 unfold zq zA zi nmE
 rw [hsk]
 generalize za s k false=p at *
 by_cases hd:T.dig (zc s p false)=true
 ·have hp:=(yu hd).2
  have he:zc s' (ψ p) false=zc s p false:=by rw [hhe,Zf hp.1,hp.2]
  have hL:nmL s' (ψ p) false=nmL s p false:=by unfold nmL;rw [he]
  rw [hL]
  obtain ⟨n,hn⟩:∃ n,nmL s p false=n+1:=by unfold nmL;split;exact ⟨0,rfl⟩;exact ⟨8,rfl⟩
  rw [hn]
  obtain ⟨a1,a2,a3,a4,_⟩:=qQ S (P:=T.dig) (fun _ h=>h) (f:=fun t n j=>nmF t false n j) (fun _ _=>rfl) (fun _ _ _=>rfl) n p hd he
  rw [if_neg (by omega),if_neg (by omega)]
  refine ⟨rfl,fun _=>⟨?_,a3⟩⟩
  rw [a2,show ψ p+(nmF s false (n+1) p-p)-ψ p=nmF s false (n+1) p-p by omega,a4]
 ·have hd':¬ T.dig (zc s' (ψ p) false)=true:=fun hh=>by
   rw [hhe] at hh
   by_cases hp:p<s.size
   ·rw [Zf hp,<- yC hp] at hh;exact hd hh
   ·rw [ZZ hp] at hh
    rcases S.zz with e | e<;>rw [e] at hh<;>simp [T.dig] at hh
  have e:∀ (t:ByteArray) (n j:Nat),¬ T.dig (zc t j false)=true->nmF t false n j=j:=fun t n j hh=>by
   cases n with
   | zero=>rfl
   | succ n=>simp only [nmF];rw [if_neg hh]
  rw [e _ _ _ hd,e _ _ _ hd',if_pos rfl,if_pos rfl]
  exact ⟨rfl,fun h=>by cases h⟩
theorem At.bits (S:Sim s s' ψ ρ z) (h:At s s' ψ z k k'):btX s' k' false=btX s k false/\(btX s k false=false->btV s' k' false=btV s k false/\btL s' k' false=btL s k false/\At s s' ψ z (btK s k false) (btK s' k' false)):=by
 have hsk:=h.skp
 have hhe:=h.her
 rw [hsk] at hhe
 have hbd:∀ x,bit x=true->T.dig x=true:=fun x hx=>by
  simp only [bit,Bool.or_eq_true,beq_iff_eq] at hx
  rcases hx with rfl | rfl<;>rfl
 unfold btX btV btL btK
 rw [hsk]
 generalize za s k false=p at *
 by_cases hd:bit (zc s p false)=true
 ·have hp:=(yu (hbd _ hd)).2
  have he:zc s' (ψ p) false=zc s p false:=by rw [hhe,Zf hp.1,hp.2]
  obtain ⟨a1,a2,a3,_,a4⟩:=qQ S (P:=bit) hbd (f:=fun t n j=>btF t false n j) (fun _ _=>rfl) (fun _ _ _=>rfl) 31 p hd he
  simp only [show (31:Nat)+1=32 from rfl] at a1 a2 a3 a4
  rw [if_neg (by omega),if_neg (by omega)]
  have e:btF s' false 32 (ψ p)-ψ p=btF s false 32 p-p:=by omega
  refine ⟨rfl,fun _=>⟨?_,by rw [e],a3⟩⟩
  rw [e,a4]
 ·have hd':¬ bit (zc s' (ψ p) false)=true:=fun hh=>by
   rw [hhe] at hh
   by_cases hp:p<s.size
   ·rw [Zf hp,<- yC hp] at hh;exact hd hh
   ·rw [ZZ hp] at hh
    rcases S.zz with e | e<;>rw [e] at hh<;>simp [bit] at hh
  have e:∀ (t:ByteArray) (n j:Nat),¬ bit (zc t j false)=true->btF t false n j=j:=fun t n j hh=>by
   cases n with
   | zero=>rfl
   | succ n=>simp only [btF];rw [if_neg hh]
  rw [e _ _ _ hd,e _ _ _ hd',if_pos rfl,if_pos rfl]
  exact ⟨rfl,fun h=>by cases h⟩
theorem AtN.skp (h:AtN s s' ψ ρ z k k'):za s' k' false=ψ (za s k false):=by rw [Ze,Ze];exact h.sk
theorem AtN.let_ (S:Sim s s' ψ ρ z) (h:AtN s s' ψ ρ z k k'):zL s' k' false=zL s k false/\(zL s k false=false->za s k false<s.size/\zc s' (za s' k' false) false=ρ (zc s (za s k false) false)/\At s s' ψ z (zE s k false) (zE s' k' false)):=by
 have hsk:=h.skp
 have hhe:=h.he
 rw [<- Ze s k] at hhe
 have hB:yX s' k' false=yX s k false:=by
  unfold yX
  rw [hsk,hhe]
  have h1:=S.rl (hz s z (za s k false))
  by_cases hp:za s k false<s.size
  ·rw [Zf hp] at h1 ⊢
   rw [yC hp,Bool.eq_iff_iff]
   simp only [Bool.and_eq_true,decide_eq_true_eq]
   exact h1
  ·rw [ZZ hp] at h1 ⊢
   rw [Z0 hp,Bool.eq_iff_iff]
   simp only [Bool.and_eq_true,decide_eq_true_eq]
   rw [h1]
   rcases S.zz with e | e<;>rw [e]<;>omega
 unfold zL zE
 rw [hB]
 refine ⟨rfl,fun hx=>?_⟩
 by_cases hl:yX s k false=true
 ·rw [if_pos hl,if_pos hl]
  have hp:=(YB hl).2
  refine ⟨hp,by rw [hsk,hhe,Zf hp,yC hp],?_⟩
  rw [hsk]
  have hl2:=hl
  unfold yX at hl2
  rw [yC hp] at hl2
  simp only [Bool.and_eq_true,decide_eq_true_eq] at hl2
  exact S.pl _ hp (by simp only [T.bl,Bool.or_eq_false_iff,beq_eq_false_iff_ne];omega) (by omega) (by omega)
 ·rw [if_neg hl] at hx;cases hx
end
end
section
def psi (ψ:Nat->Nat) (a:Int):Int:=if a<0 then a else (ψ a.toNat:Int)
def shI (δ:Nat) (i:Int):Int:=if i<0 then i else i+δ
def gI (ψ:Nat->Nat) (δ:Nat) (c:Int) (x:IM):IM:=⟨psi ψ x.at_,x.num,x.pv,x.pl,x.wv,if c=119 then psi ψ x.wa else x.wa,shI δ x.arm⟩
def gE (ψ:Nat->Nat) (ρ:Int->Int) (δ:Nat) (e:EX):EX:=⟨e.kind,psi ψ e.at_,e.depth,if e.kind=61 then ρ e.nv else e.nv,if e.kind=61\/e.kind=64\/e.kind=116 then psi ψ e.na else e.na,e.items.map (gI ψ δ e.kind),shI δ e.inner⟩
theorem yS (ψ:Nat->Nat) (p:Nat):psi ψ (p:Int)=(ψ p:Int):=by unfold psi;rw [if_neg (by omega)];rfl
theorem Yx (δ m:Nat):shI δ (m:Int)=((m+δ:Nat):Int):=by unfold shI;rw [if_neg (by omega)];omega
def OkL (Ok:Int->Prop) (l:List EX):Prop:=∀ e∈l,e.kind=61->Ok e.nv
theorem OkL.left {Ok:Int->Prop} {a b:List EX} (h:OkL Ok (a++b)):OkL Ok a:=fun e he=>h e (List.mem_append.2 (.inl he))
theorem OkL.right {Ok:Int->Prop} {a b:List EX} (h:OkL Ok (a++b)):OkL Ok b:=fun e he=>h e (List.mem_append.2 (.inr he))
section
variable (s s':ByteArray) (ψ:Nat->Nat) (ρ:Int->Int) (z:Int) (δ:Nat) (Ok:Int->Prop)
def Js (r r':CR):Prop:=r'.b=r.b/\(r.b=false->At s s' ψ z r.k r'.k/\r'.es.length=r.es.length/\r'.idx=shI δ r.idx/\(OkL Ok r.es->r'.es=r.es.map (gE ψ ρ δ)))
def zbd (c:Int) (r r':CI):Prop:=r'.b=r.b/\(r.b=false->At s s' ψ z r.k r'.k/\r'.es.length=r.es.length/\r'.im=gI ψ δ c r.im/\(OkL Ok r.es->r'.es=r.es.map (gE ψ ρ δ)))
def za8 (c:Int) (r r':CL):Prop:=r'.b=r.b/\(r.b=false->At s s' ψ z r.k r'.k/\r'.es.length=r.es.length/\r'.ims=r.ims.map (gI ψ δ c)/\(OkL Ok r.es->r'.es=r.es.map (gE ψ ρ δ)))
def Qi (ex ex':Int->Nat->Nat->Bool->CR) (n n':Nat):Prop:=∀ d m k k',At s s' ψ z k k'->s.size-k<n->s'.size-k'<n'->Js s s' ψ ρ z δ Ok (ex d m k false) (ex' d (m+δ) k' false)
end
section
variable {s s':ByteArray} {ψ:Nat->Nat} {ρ:Int->Int} {z:Int} {δ:Nat} {Ok:Int->Prop}
theorem qX (S:Sim s s' ψ ρ z) {ex ex':Int->Nat->Nat->Bool->CR} {n n':Nat} (hX:Qi s s' ψ ρ z δ Ok ex ex' n n') (hB:Zx ex) (hB':Zx ex') (d:Int) (m:Nat) {k k' q q':Nat} {x x':Bool} (hx:x'=x) (hq:x=false->At s s' ψ z q q') (hkq:k<=q) (hkq':k'<=q') (hn:s.size-k<n) (hn':s'.size-k'<n') :
 Js s s' ψ ρ z δ Ok (ex d m (zb s 58 q x) (ze s 58 q x)) (ex' d (m+δ) (zb s' 58 q' x') (ze s' 58 q' x')):=by
 subst hx
 have bad:∀ a a':Nat,Js s s' ψ ρ z δ Ok (ex d m a true) (ex' d (m+δ) a' true):=fun a a'=>⟨by rw [hB,hB'],fun h=>by rw [hB] at h;cases h⟩
 cases x' with
 | true=>rw [z9 rfl,z9 rfl];exact bad _ _
 | false =>
  obtain ⟨w1,w2⟩:=(hq rfl).want S (c:=58) (by decide) (by decide) (by decide) (by decide)
  rw [w1]
  cases hw:ze s 58 q false with
  | true=>exact bad _ _
  | false =>
   have h1:=zg s 58 q false
   have h2:=zg s' 58 q' false
   exact hX _ _ _ _ (w2 hw) (by omega) (by omega)
theorem Q5 (S:Sim s s' ψ ρ z) {ex ex':Int->Nat->Nat->Bool->CR} {n n':Nat} (hX:Qi s s' ψ ρ z δ Ok ex ex' n n') (hB:Zx ex) (hB':Zx ex') (c d:Int) (m:Nat) {k k':Nat} (h:At s s' ψ z k k') (hn:s.size-k<n) (hn':s'.size-k'<n') :
 zbd s s' ψ ρ z δ Ok c (zs ex s c d m k false) (zs ex' s' c d (m+δ) k' false):=by
 have hp:=h.skip
 have hps:=h.skp
 have g1:=zH s k false
 have g2:=zH s' k' false
 have hN:=hp.num S
 have g3:=zM (b:=false) hp.le
 have g4:=zM (b:=false) hp.le'
 unfold zs
 by_cases c1:c=109
 ·simp only [if_pos c1]
  have hBt:=hp.bits S
  have g5:=ZT (b:=false) hp.le
  have g6:=ZT (b:=false) hp.le'
  have hK:=qX S hX hB hB' (d+1) m hBt.1 (fun e=>(hBt.2 e).2.2) (k:=k) (k':=k') (by omega) (by omega) hn hn'
  refine ⟨hK.1,fun hb=>?_⟩
  obtain ⟨a1,a2,a3,a4⟩:=hK.2 hb
  have hx:btX s (za s k false) false=false:=by
   cases hx:btX s (za s k false) false with
   | false=>rfl
   | true=>simp only [hx] at hb;rw [z9 rfl,hB] at hb;cases hb
  refine ⟨a1,a2,?_,a4⟩
  unfold gI
  simp only [if_neg (show ¬ c=119 by omega),yS]
  rw [a3,(hBt.2 hx).1,(hBt.2 hx).2.1,hps]
 ·by_cases c2:c=103
  ·simp only [if_neg c1,if_pos c2]
   have hK:=qX S hX hB hB' (d+1) m hN.1 (fun e=>(hN.2 e).2) (k:=k) (k':=k') (by omega) (by omega) hn hn'
   refine ⟨hK.1,fun hb=>?_⟩
   obtain ⟨a1,a2,a3,a4⟩:=hK.2 hb
   have hx:zq s (za s k false) false=false:=by
    cases hx:zq s (za s k false) false with
    | false=>rfl
    | true=>simp only [hx] at hb;rw [z9 rfl,hB] at hb;cases hb
   refine ⟨a1,a2,?_,a4⟩
   unfold gI
   simp only [if_neg (show ¬ c=119 by omega),yS]
   rw [a3,(hN.2 hx).1,hps]
  ·by_cases c3:c=119
   ·simp only [if_neg c1,if_neg c2,if_pos c3]
    rw [hN.1]
    cases hx:zq s (za s k false) false with
    | true =>
     rw [z9 rfl,z9 rfl]
     exact ⟨by simp only [yG],fun hb=>by simp only [yG] at hb;cases hb⟩
    | false =>
     obtain ⟨b1,b2⟩:=hN.2 hx
     obtain ⟨w1,w2⟩:=b2.want S (c:=42) (by decide) (by decide) (by decide) (by decide)
     rw [w1]
     cases hw:ze s 42 (zi s (za s k false) false) false with
     | true=>exact ⟨by simp only [yG],fun hb=>by simp only [yG] at hb;cases hb⟩
     | false =>
      have hA:=w2 hw
      have hN2:=hA.num S
      refine ⟨hN2.1,fun hb=>?_⟩
      obtain ⟨v1,v2⟩:=hN2.2 hb
      refine ⟨v2,rfl,?_,fun _=>rfl⟩
      unfold gI
      simp only [if_pos c3,yS]
      rw [b1,v1,hA.skp,hps];rfl
   ·simp only [if_neg c1,if_neg c2,if_neg c3]
    refine ⟨hN.1,fun hb=>?_⟩
    obtain ⟨b1,b2⟩:=hN.2 hb
    refine ⟨b2,rfl,?_,fun _=>rfl⟩
    unfold gI
    simp only [if_neg c3,yS]
    rw [b1,hps];rfl
theorem Xa (s:ByteArray) {c:Int} (hc:c≠0) (k:Nat):takeB s c k true=false:=by
 cases h:takeB s c k true with
 | false=>rfl
 | true=>have:=(yU hc h).1;cases this
theorem xn (S:Sim s s' ψ ρ z) {ex ex':Int->Nat->Nat->Bool->CR} {n n':Nat} (hX:Qi s s' ψ ρ z δ Ok ex ex' n n') (hB:Zx ex) (hB':Zx ex') (hM:yy ex s) (hM':yy ex' s') (c d:Int):∀ (N N' m k k':Nat),At s s' ψ z k k'->s.size-k<n->s'.size-k'<n'->s.size+1<=N+k->s'.size+1<=N'+k' ->
 za8 s s' ψ ρ z δ Ok c (zd ex s c d N m k false) (zd ex' s' c d N' (m+δ) k' false):=by
 intro N
 induction N with
 | zero=>intro N' m k k' h;have:=h.le;omega
 | succ N ih =>
  intro N' m k k' h hn hn' hN hN'
  cases N' with
  | zero=>have:=h.le';omega
  | succ N' =>
   have hI:=Q5 S hX hB hB' c d m h hn hn'
   have hm:=yb hM c d m k false h.le
   have hm':=yb hM' c d (m+δ) k' false h.le'
   simp only [zd]
   generalize zs ex s c d m k false=r at *
   generalize zs ex' s' c d (m+δ) k' false=r' at *
   rw [hI.1]
   cases hb:r.b with
   | true =>
    rw [Xa _ (by decide),Xa _ (by decide)]
    exact ⟨rfl,fun h=>by cases h⟩
   | false =>
    obtain ⟨a1,a2,a3,a4⟩:=hI.2 hb
    rw [a1.takeB S.zz (by decide) (by decide)]
    cases ht:takeB s 44 r.k false with
    | false =>
     simp only [Bool.false_eq_true,if_false]
     refine ⟨rfl,fun _=>⟨?_,a2,by rw [a3];rfl,a4⟩⟩
     unfold zb
     rw [a1.takeB S.zz (by decide) (by decide),ht]
     exact a1.skip
    | true =>
     simp only [if_true]
     have hA:=a1.took S (by decide) (by decide) (by decide) (by decide) ht
     have e1:=zg s 44 r.k false
     have e2:=zg s' 44 r'.k false
     have e3:r.k+1<=zb s 44 r.k false:=by unfold zb;rw [if_pos ht];have:=zH s r.k false;omega
     have e4:r'.k+1<=zb s' 44 r'.k false:=by unfold zb;rw [if_pos ((a1.takeB S.zz (by decide) (by decide)).trans ht)];have:=zH s' r'.k false;omega
     have hI2:=ih N' (m+r.es.length) _ _ hA (by omega) (by omega) (by omega) (by omega)
     rw [show m+δ+r'.es.length=m+r.es.length+δ by omega]
     refine ⟨hI2.1,fun hq=>?_⟩
     obtain ⟨q1,q2,q3,q4⟩:=hI2.2 hq
     refine ⟨q1,by simp only [List.length_append];omega,by rw [a3,q3];rfl,fun ho=>?_⟩
     rw [List.map_append,<- a4 ho.left,<- q4 ho.right]
end
end
section
section
variable {s s':ByteArray} {ψ:Nat->Nat} {ρ:Int->Int} {z:Int} {δ:Nat} {Ok:Int->Prop}
theorem Zk (S:Sim s s' ψ ρ z) {c:Int} (h0:c≠0) (h1:c≠59) (h2:c≠61) (h3:T.bl c=false) {k k':Nat} {b b':Bool} (hb:b'=b) (hA:b=false->At s s' ψ z k k') :
 ze s' c k' b'=ze s c k b/\(ze s c k b=false->b=false/\At s s' ψ z (zb s c k b) (zb s' c k' b')):=by
 subst hb
 cases b' with
 | true=>rw [z9 rfl,z9 rfl];exact ⟨rfl,fun h=>by cases h⟩
 | false =>
  have:=(hA rfl).want S h0 h1 h2 h3
  exact ⟨this.1,fun h=>⟨rfl,this.2 h⟩⟩
theorem QI {c:Int} (h:isK c=true):c=123\/c=116\/c=64\/c=61\/(c=119\/c=102\/c=109\/c=103):=by
 simp only [isK,Bool.or_eq_true,beq_iff_eq] at h
 omega
theorem zaO (S:Sim s s' ψ ρ z) {rs rs':List RL} (hNM:∀ v,Ok v->zO (ρ v) rs'=shI δ (zO v rs)):∀ n n',Qi s s' ψ ρ z δ Ok (cE s rs n) (cE s' rs' n') n n':=by
 intro n
 induction n with
 | zero=>intro n' d m k k' _ h;omega
 | succ n ih =>
  intro n' d m k k' h hn hn'
  cases n' with
  | zero=>omega
  | succ n' =>
   have hX:=ih n'
   have hp:=h.skp
   have hhe:=h.her
   have hle:=zG (b:=false) h.le
   have g1:=zH s k false
   have g2:=zH s' k' false
   cases hK:isK (zc s (za s k false) false) with
   | false =>
    have hK':isK (zc s' (za s' k' false) false)=false:=by
     rw [hhe]
     by_cases hlt:za s k false<s.size
     ·rw [Zf hlt,<- yC hlt];exact hK
     ·rw [ZZ hlt];rcases S.zz with e | e<;>rw [e]<;>rfl
    rw [xr n d m k false hK,xr n' d (m+δ) k' false hK']
    exact ⟨rfl,fun h=>by cases h⟩
   | true =>
    have hlt:=(yl hK).2
    have hc:=QI hK
    obtain ⟨c,hcc⟩:∃ c,zc s (za s k false) false=c:=⟨_,rfl⟩
    have hch:T.ch s (za s k false)=c:=by rw [<- yC hlt];exact hcc
    have hcc':zc s' (za s' k' false) false=c:=by rw [hhe,Zf hlt];exact hch
    have hlt':=(yl (s:=s') (k:=za s' k' false) (b:=false) (by rw [hcc',<- hcc];exact hK)).2
    rw [hcc] at hc
    have hpl:c≠61->At s s' ψ z (za s k false+1) (za s' k' false+1):=fun h61=>by
     rw [hp]
     refine S.pl _ hlt ?_ (by rw [hch];omega) (by rw [hch];exact h61)
     rw [hch]
     simp only [T.bl,Bool.or_eq_false_iff,beq_eq_false_iff_ne]
     omega
    have hB:=yP s rs n
    have hB':=yP s' rs' n'
    have hM:=z8 s rs n
    have hM':=z8 s' rs' n'
    rcases hc with hc | hc | hc | hc | hc
    ·subst hc
     have hA:=hpl (by decide)
     have hL:=xn S hX hB hB' hM hM' 123 d (s.size+1-(za s k false+1)) (s'.size+1-(za s' k' false+1)) m _ _ hA (by omega) (by omega) (by omega) (by omega)
     rw [yO n d m k false hcc,yO n' d (m+δ) k' false hcc']
     generalize zd (cE s rs n) s 123 d (s.size+1-(za s k false+1)) m (za s k false+1) false=l at *
     generalize zd (cE s' rs' n') s' 123 d (s'.size+1-(za s' k' false+1)) (m+δ) (za s' k' false+1) false=l' at *
     have hC:=Zk S (c:=125) (by decide) (by decide) (by decide) (by decide) hL.1 (fun e=>(hL.2 e).1)
     refine ⟨hC.1,fun hb=>?_⟩
     obtain ⟨b1,b2⟩:=hC.2 hb
     obtain ⟨_,a2,a3,a4⟩:=hL.2 b1
     refine ⟨b2,by simp only [List.length_append,a2];rfl,?_,fun ho=>?_⟩
     ·show ((m+δ+l'.es.length:Nat):Int)=shI δ ((m+l.es.length:Nat):Int)
      rw [Yx,a2];omega
     ·show l'.es++[_]=(l.es++[_]).map _
      rw [List.map_append,a4 ho.left,a3]
      simp only [List.map_cons,List.map_nil,gE,yS,hp]
      rfl
    ·subst hc
     have hA:=hpl (by decide)
     obtain ⟨w1,w2⟩:=hA.want S (c:=40) (by decide) (by decide) (by decide) (by decide)
     have hN:zq s' (zb s' 40 (za s' k' false+1) false) (ze s' 40 (za s' k' false+1) false)=zq s (zb s 40 (za s k false+1) false) (ze s 40 (za s k false+1) false)/\(zq s (zb s 40 (za s k false+1) false) (ze s 40 (za s k false+1) false)=false->ze s 40 (za s k false+1) false=false/\zA s' (zb s' 40 (za s' k' false+1) false) (ze s' 40 (za s' k' false+1) false)=zA s (zb s 40 (za s k false+1) false) (ze s 40 (za s k false+1) false)/\za s' (zb s' 40 (za s' k' false+1) false) (ze s' 40 (za s' k' false+1) false)=ψ (za s (zb s 40 (za s k false+1) false) (ze s 40 (za s k false+1) false))/\At s s' ψ z (zi s (zb s 40 (za s k false+1) false) (ze s 40 (za s k false+1) false)) (zi s' (zb s' 40 (za s' k' false+1) false) (ze s' 40 (za s' k' false+1) false))):=by
      rw [w1]
      cases hw:ze s 40 (za s k false+1) false with
      | true=>rw [yG rfl,yG rfl];exact ⟨rfl,fun h=>by cases h⟩
      | false =>
       have hA2:=w2 hw
       have:=hA2.num S
       exact ⟨this.1,fun e=>⟨rfl,(this.2 e).1,hA2.skp,(this.2 e).2⟩⟩
     have g3:=zg s 40 (za s k false+1) false
     have g4:=zg s' 40 (za s' k' false+1) false
     have l3:zb s 40 (za s k false+1) false<=s.size:=zj (by decide) (by omega)
     have l4:zb s' 40 (za s' k' false+1) false<=s'.size:=zj (by decide) (by omega)
     generalize hk1:zb s 40 (za s k false+1) false=k1 at *
     generalize hb1:ze s 40 (za s k false+1) false=b1 at *
     generalize hk1':zb s' 40 (za s' k' false+1) false=k1' at *
     generalize hb1':ze s' 40 (za s' k' false+1) false=b1' at *
     have g5:=zM (b:=b1) l3
     have g6:=zM (b:=b1') l4
     have g7:=zg s 44 (zi s k1 b1) (zq s k1 b1)
     have g8:=zg s' 44 (zi s' k1' b1') (zq s' k1' b1')
     have hC:=Zk S (c:=44) (by decide) (by decide) (by decide) (by decide) hN.1 (fun e=>(hN.2 e).2.2.2)
     obtain ⟨r,hr⟩:∃ r,cE s rs n (d+1) m (zb s 44 (zi s k1 b1) (zq s k1 b1)) (ze s 44 (zi s k1 b1) (zq s k1 b1))=r:=⟨_,rfl⟩
     obtain ⟨r',hr'⟩:∃ r',cE s' rs' n' (d+1) (m+δ) (zb s' 44 (zi s' k1' b1') (zq s' k1' b1')) (ze s' 44 (zi s' k1' b1') (zq s' k1' b1'))=r':=⟨_,rfl⟩
     have hR:Js s s' ψ ρ z δ Ok r r'/\(r.b=false->zq s k1 b1=false):=by
      rw [<- hr,<- hr',hC.1]
      cases hw:ze s 44 (zi s k1 b1) (zq s k1 b1) with
      | true=>exact ⟨⟨by rw [hB,hB'],fun h=>by rw [hB] at h;cases h⟩,fun h=>by rw [hB] at h;cases h⟩
      | false=>exact ⟨hX _ _ _ _ (hC.2 hw).2 (by omega) (by omega),fun _=>(hC.2 hw).1⟩
     rw [YP n d m k false hcc hk1 hb1 hr,YP n' d (m+δ) k' false hcc' hk1' hb1' hr']
     have hD:=Zk S (c:=41) (by decide) (by decide) (by decide) (by decide) hR.1.1 (fun e=>(hR.1.2 e).1)
     refine ⟨hD.1,fun hb=>?_⟩
     obtain ⟨d1,d2⟩:=hD.2 hb
     obtain ⟨_,a2,a3,a4⟩:=hR.1.2 d1
     obtain ⟨_,n1,n2,_⟩:=hN.2 (hR.2 d1)
     refine ⟨d2,by simp only [List.length_append,a2];rfl,?_,fun ho=>?_⟩
     ·show ((m+δ+r'.es.length:Nat):Int)=shI δ ((m+r.es.length:Nat):Int)
      rw [Yx,a2];omega
     ·show r'.es++[_]=(r.es++[_]).map _
      rw [List.map_append,a4 ho.left,a3,n1,n2]
      simp only [List.map_cons,List.map_nil,gE,yS,hp]
      rfl
    ·subst hc
     have hA:=hpl (by decide)
     have hN:=hA.num S
     rw [Zr n d m k false hcc,Zr n' d (m+δ) k' false hcc']
     refine ⟨hN.1,fun hb=>?_⟩
     obtain ⟨n1,n2⟩:=hN.2 hb
     refine ⟨n2,rfl,?_,fun ho=>?_⟩
     ·show ((m+δ:Nat):Int)=shI δ (m:Int)
      rw [Yx]
     ·simp only [List.map_cons,List.map_nil,gE,yS]
      rw [n1,hA.skp,hp]
      rfl
    ·subst hc
     have hA:AtN s s' ψ ρ z (za s k false+1) (za s' k' false+1):=by
      rw [hp]
      exact S.nm _ hlt (.inr hch)
     have hL:=hA.let_ S
     rw [Yh n d m k false hcc,Yh n' d (m+δ) k' false hcc']
     refine ⟨hL.1,fun hb=>?_⟩
     obtain ⟨l1,l2,l3⟩:=hL.2 hb
     refine ⟨l3,rfl,?_,fun ho=>?_⟩
     ·show ((m+δ:Nat):Int)=shI δ (m:Int)
      rw [Yx]
     ·have hok:=ho _ (List.mem_singleton.2 rfl) rfl
      simp only at hok
      simp only [List.map_cons,List.map_nil,gE,yS,l2]
      rw [hNM _ hok,hA.skp,hp]
      rfl
    ·have hA:=hpl (by omega)
     obtain ⟨w1,w2⟩:=hA.want S (c:=40) (by decide) (by decide) (by decide) (by decide)
     have g3:=zg s 40 (za s k false+1) false
     have g4:=zg s' 40 (za s' k' false+1) false
     have l3:zb s 40 (za s k false+1) false<=s.size:=zj (by decide) (by omega)
     have l4:zb s' 40 (za s' k' false+1) false<=s'.size:=zj (by decide) (by omega)
     obtain ⟨l,hl⟩:∃ l,zd (cE s rs n) s c d (s.size+1-zb s 40 (za s k false+1) false) m (zb s 40 (za s k false+1) false) (ze s 40 (za s k false+1) false)=l:=⟨_,rfl⟩
     obtain ⟨l',hl'⟩:∃ l',zd (cE s' rs' n') s' c d (s'.size+1-zb s' 40 (za s' k' false+1) false) (m+δ) (zb s' 40 (za s' k' false+1) false) (ze s' 40 (za s' k' false+1) false)=l':=⟨_,rfl⟩
     have hm1:=zB hM c d (s.size+1-zb s 40 (za s k false+1) false) m _ (ze s 40 (za s k false+1) false) l3
     have hm2:=zB hM' c d (s'.size+1-zb s' 40 (za s' k' false+1) false) (m+δ) _ (ze s' 40 (za s' k' false+1) false) l4
     rw [hl] at hm1
     rw [hl'] at hm2
     have hL:za8 s s' ψ ρ z δ Ok c l l':=by
      rw [<- hl,<- hl',w1]
      cases hw:ze s 40 (za s k false+1) false with
      | true=>exact ⟨by rw [Zq hB _ _ _ _ _ rfl,Zq hB' _ _ _ _ _ rfl],fun h=>by rw [Zq hB _ _ _ _ _ rfl] at h;cases h⟩
      | false=>exact xn S hX hB hB' hM hM' c d _ _ m _ _ (w2 hw) (by omega) (by omega) (by omega) (by omega)
     have hC:=Zk S (c:=124) (by decide) (by decide) (by decide) (by decide) hL.1 (fun e=>(hL.2 e).1)
     have g7:=zg s 124 l.k l.b
     have g8:=zg s' 124 l'.k l'.b
     obtain ⟨r,hr⟩:∃ r,cE s rs n (d+1) (m+l.es.length) (zb s 124 l.k l.b) (ze s 124 l.k l.b)=r:=⟨_,rfl⟩
     obtain ⟨r',hr'⟩:∃ r',cE s' rs' n' (d+1) (m+δ+l'.es.length) (zb s' 124 l'.k l'.b) (ze s' 124 l'.k l'.b)=r':=⟨_,rfl⟩
     have hR:Js s s' ψ ρ z δ Ok r r'/\(r.b=false->l.b=false):=by
      rw [<- hr,<- hr',hC.1]
      cases hw:ze s 124 l.k l.b with
      | true=>exact ⟨⟨by rw [hB,hB'],fun h=>by rw [hB] at h;cases h⟩,fun h=>by rw [hB] at h;cases h⟩
      | false =>
       obtain ⟨c1,c2⟩:=hC.2 hw
       rw [show m+δ+l'.es.length=m+l.es.length+δ by have:=(hL.2 c1).2.1;omega]
       exact ⟨hX _ _ _ _ c2 (by omega) (by omega),fun _=>c1⟩
     rw [Yi n d m k false hcc hc rfl rfl hl hr,Yi n' d (m+δ) k' false hcc' hc rfl rfl hl' hr']
     have hD:=Zk S (c:=41) (by decide) (by decide) (by decide) (by decide) hR.1.1 (fun e=>(hR.1.2 e).1)
     refine ⟨hD.1,fun hb=>?_⟩
     obtain ⟨d1,d2⟩:=hD.2 hb
     obtain ⟨_,a2,a3,a4⟩:=hR.1.2 d1
     obtain ⟨_,q2,q3,q4⟩:=hL.2 (hR.2 d1)
     refine ⟨d2,by simp only [List.length_append,a2,q2];rfl,?_,fun ho=>?_⟩
     ·show ((m+δ+l'.es.length+r'.es.length:Nat):Int)=shI δ ((m+l.es.length+r.es.length:Nat):Int)
      rw [Yx,a2,q2];omega
     ·show l'.es++r'.es++[_]=(l.es++r.es++[_]).map _
      rw [List.map_append,List.map_append,q4 ho.left.left,a4 ho.left.right,a3,q3]
      simp only [List.map_cons,List.map_nil,gE,yS,hp]
      rw [if_neg (by omega),if_neg (by omega)]
end
end
section
def gR (ψ:Nat->Nat) (ρ:Int->Int) (δ:Nat) (r:RL):RL:=⟨ρ r.nv,psi ψ r.na,shI δ r.ex⟩
section
variable (s s':ByteArray) (ψ:Nat->Nat) (ρ:Int->Int) (z:Int) (δ:Nat) (Ok:Int->Prop)
def zbc (r r':CU):Prop:=r'.b=r.b/\(r.b=false->At s s' ψ z r.k r'.k/\r'.es.length=r.es.length/\r'.rl=gR ψ ρ δ r.rl/\(OkL Ok r.es->r'.es=r.es.map (gE ψ ρ δ)))
end
def Xq (s:ByteArray) (n:Nat) (es:List EX) (rs:List RL) (m k:Nat):CP :=
 if takeB s 59 k false=true then
  let q:=zo s n rs m (zb s 59 k false) false
  ⟨es++q.es,q.rs,q.k,q.b⟩
 else ⟨es,rs,zb s 59 k false,false⟩
theorem Ja (s:ByteArray) (n:Nat) (a es:List EX) (rs:List RL) (m k:Nat):(⟨a++(Xq s n es rs m k).es,(Xq s n es rs m k).rs,(Xq s n es rs m k).k,(Xq s n es rs m k).b⟩:CP)=Xq s n (a++es) rs m k:=by
 unfold Xq
 split
 ·simp only [List.append_assoc]
 ·rfl
theorem xQ (s:ByteArray):∀ n rs m k b,∃ t,(zo s n rs m k b).rs=rs++t:=by
 intro n
 induction n with
 | zero=>intro rs m k b;exact ⟨[],by simp [zo]⟩
 | succ n ih =>
  intro rs m k b
  simp only [zo]
  split
  ·obtain ⟨t,ht⟩:=ih (rs++[(zw s rs m k b).rl]) (m+(zw s rs m k b).es.length) (zb s 59 (zw s rs m k b).k (zw s rs m k b).b) (zw s rs m k b).b
   exact ⟨(zw s rs m k b).rl::t,by simp only;rw [ht];simp⟩
  ·exact ⟨[(zw s rs m k b).rl],rfl⟩
section
variable {s s':ByteArray} {ψ:Nat->Nat} {ρ:Int->Int} {z:Int} {δ:Nat} {Ok:Int->Prop}
theorem qU {pre rs:List RL} (hI:∀ a b,Ok a->Ok b->ρ a=ρ b->a=b) (hp:∀ r∈pre,∀ v,Ok v->r.nv≠ρ v) (hr:∀ r∈rs,Ok r.nv) (v:Int) (hv:Ok v):zO (ρ v) (pre++rs.map (gR ψ ρ δ))=shI δ (zO v rs):=by
 have h1:∀ pre:List RL,(∀ r∈pre,r.nv≠ρ v)->∀ l,zO (ρ v) (pre++l)=zO (ρ v) l:=by
  intro pre
  induction pre with
  | nil=>intros;rfl
  | cons r p ih =>
   intro h l
   simp only [List.cons_append,zO]
   rw [if_neg (h r (by simp)),ih (fun x hx=>h x (by simp [hx]))]
 rw [h1 pre (fun r hr=>hp r hr v hv)]
 clear h1 hp
 induction rs with
 | nil=>simp [zO,shI]
 | cons r rs ih =>
  simp only [List.map_cons,zO,gR]
  by_cases h:r.nv=v
  ·rw [if_pos (by rw [h]),if_pos h]
  ·rw [if_neg (fun e=>h (hI _ _ (hr r (by simp)) hv e)),if_neg h]
   exact ih (fun x hx=>hr x (by simp [hx]))
theorem Q4 (S:Sim s s' ψ ρ z) {rs rs':List RL} (hNM:∀ v,Ok v->zO (ρ v) rs'=shI δ (zO v rs)) {k k':Nat} (h:AtN s s' ψ ρ z k k') (m:Nat):zbc s s' ψ ρ z δ Ok (zw s rs m k false) (zw s' rs' (m+δ) k' false):=by
 obtain ⟨a1,a2⟩:=h.let_ S
 have hC:=Zk S (c:=58) (by decide) (by decide) (by decide) (by decide) a1 (fun e=>(a2 e).2.2)
 have hX:=zaO (δ:=δ) S hNM (s.size+1) (s'.size+1)
 unfold zw
 simp only
 rw [hC.1]
 cases hw:ze s 58 (zE s k false) (zL s k false) with
 | true =>
  refine ⟨?_,fun hb=>?_⟩
  ·simp only;rw [yP,yP]
  ·simp only at hb;rw [yP] at hb;cases hb
 | false =>
  obtain ⟨c1,c2⟩:=hC.2 hw
  obtain ⟨l1,l2,_⟩:=a2 c1
  have hr:=hX 0 m _ _ c2 (by omega) (by omega)
  refine ⟨hr.1,fun hb=>?_⟩
  obtain ⟨r1,r2,r3,r4⟩:=hr.2 hb
  refine ⟨r1,r2,?_,r4⟩
  simp only [gR,yS]
  rw [l2,r3,h.skp]
theorem qE (S:Sim s s' ψ ρ z) (hI:∀ a b,Ok a->Ok b->ρ a=ρ b->a=b) (pre:List RL) (hp:∀ r∈pre,∀ v,Ok v->r.nv≠ρ v):∀ (n n':Nat) (rs:List RL) (m k k':Nat),AtN s s' ψ ρ z k k'->s.size-k<n->s'.size-k'<n'->∀ R,zo s n rs m k false=R->OkL Ok R.es->(∀ r∈R.rs,Ok r.nv) ->
 (R.b=true/\(zo s' n' (pre++rs.map (gR ψ ρ δ)) (m+δ) k' false).b=true) \/
 (R.b=false/\∃ N' K',s'.size-K'<N'+1/\At s s' ψ z R.k K'/\T.sk s R.k=R.k/\takeB s 59 R.k false=false/\zo s' n' (pre++rs.map (gR ψ ρ δ)) (m+δ) k' false=Xq s' N' (R.es.map (gE ψ ρ δ)) (pre++R.rs.map (gR ψ ρ δ)) (m+δ+R.es.length) K'):=by
 intro n
 induction n with
 | zero=>intro n' rs m k k' _ h;omega
 | succ n ih =>
  intro n' rs m k k' h hn hn' R hR hoe hor
  cases n' with
  | zero=>omega
  | succ n' =>
   have hrs:∀ r∈rs,Ok r.nv:=fun r hr=>by
    obtain ⟨t,ht⟩:=xQ s (n+1) rs m k false
    rw [hR] at ht
    exact hor r (by rw [ht];simp [hr])
   have hU:=Q4 (δ:=δ) S (qU (ψ:=ψ) (δ:=δ) hI hp hrs) h m
   have g1:=yx s rs m k false h.le
   have g2:=yx s' (pre++rs.map (gR ψ ρ δ)) (m+δ) k' false h.le'
   simp only [zo] at hR ⊢
   generalize zw s rs m k false=r at *
   generalize zw s' (pre++rs.map (gR ψ ρ δ)) (m+δ) k' false=r' at *
   have hb':=hU.1
   cases hb:r.b with
   | true =>
    rw [hb] at hR hb'
    rw [Xa _ (by decide)] at hR
    rw [hb',Xa _ (by decide)]
    subst hR
    exact .inl ⟨rfl,rfl⟩
   | false =>
    obtain ⟨a1,a2,a3,a4⟩:=hU.2 hb
    rw [hb] at hR hb'
    rw [hb']
    have hsk:=a1.skp
    cases ht:takeB s 59 r.k false with
    | false =>
     rw [ht] at hR
     simp only [Bool.false_eq_true,if_false] at hR
     have hk:zb s 59 r.k false=za s r.k false:=by unfold zb;rw [ht];rfl
     rw [hk] at hR
     subst hR
     have e1:T.sk s (za s r.k false)=za s r.k false:=by rw [Ze,qO]
     refine .inr ⟨rfl,n',r'.k,by omega,⟨by rw [Ze];exact T.sk_le a1.le,a1.le',by rw [e1,<- Ze s',hsk],by rw [e1,Ze];exact a1.he⟩,e1,?_,?_⟩
     ·unfold takeB at ht ⊢
      simp only
      rw [Ze s (za s r.k false),e1]
      exact ht
     ·simp only at hoe ⊢
      have e2:=a4 hoe
      unfold Xq
      simp only
      rw [a3,e2]
      simp only [List.map_append,List.map_cons,List.map_nil,List.append_assoc,List.length_map]
    | true =>
     rw [ht] at hR
     simp only [if_true] at hR
     obtain ⟨_,hlt,hc⟩:=yU (by decide) ht
     have ht':takeB s' 59 r'.k false=true:=by
      unfold takeB at ht ⊢
      rw [a1.her,Zf hlt,<- yC hlt]
      exact ht
     have hk:zb s 59 r.k false=za s r.k false+1:=by unfold zb;rw [if_pos ht]
     have hk':zb s' 59 r'.k false=ψ (za s r.k false)+1:=by unfold zb;rw [if_pos ht',hsk]
     rw [if_pos ht']
     have hA:=S.nm _ hlt (.inl hc)
     rw [<- hk,<- hk'] at hA
     have v1:=hA.le
     have v2:=hA.le'
     have q1:=zH s r.k false
     have q2:=zH s' r'.k false
     rw [hsk] at q2
     obtain ⟨Q,hQ⟩:∃ Q,zo s n (rs++[r.rl]) (m+r.es.length) (zb s 59 r.k false) false=Q:=⟨_,rfl⟩
     rw [hQ] at hR
     subst hR
     simp only at hoe hor ⊢
     have hI2:=ih n' (rs++[r.rl]) (m+r.es.length) _ _ hA (by omega) (by omega) Q hQ hoe.right hor
     have e0:pre++rs.map (gR ψ ρ δ)++[r'.rl]=pre++(rs++[r.rl]).map (gR ψ ρ δ):=by rw [a3];simp
     have e3:m+δ+r'.es.length=m+r.es.length+δ:=by omega
     rw [e0,e3]
     rcases hI2 with ⟨b1,b2⟩ | ⟨b1,N',K',b2,b3,b4,b5,b6⟩
     ·exact .inl ⟨b1,b2⟩
     ·refine .inr ⟨b1,N',K',b2,b3,b4,b5,?_⟩
      rw [b6,Ja,a4 hoe.left,<- List.map_append]
      congr 1
      simp only [List.length_append]
      omega
end
end
end Go.Proofs.Ytaebngpoagjafab
