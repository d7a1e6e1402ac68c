import Derived.Test.YtaebngpoagjafabGreatV13
set_option maxRecDepth 100000
set_option maxHeartbeats 800000
namespace Go.Proofs.YtaebngpoagjafabGreat
open Obj renaming cells → Q
open Value renaming int → J, slice → O
open IntKind renaming i64 → Z
open Go.RowKit
attribute [local go_sem ↓] Go.wp_at_zero Go.wp_at_succ
theorem Tryz.infoItem:(Tryz.prog.info? 155).map (fun i=>(i.zero,i.size,i.bytes))=some (some (.agg #[J Z 0,J Z 0,J Z 0,J Z 0,J Z 0,J Z 0,J Z 0]),7,56):=by kernel_rfl
def Zs (ex:Int->Nat->Nat->Bool->CR) (s:ByteArray):Prop:=∀ d m k b,k<=s.size->k<=(ex d m k b).k/\(ex d m k b).k<=s.size/\(ex d m k b).es.length+k<=(ex d m k b).k
theorem yT {ex:Int->Nat->Nat->Bool->CR} {s:ByteArray} (hX:Zs ex s) (kind d:Int) (m k:Nat) (b:Bool) (hk:k<=s.size) :
 k<=(zt ex s kind d m k b).k/\(zt ex s kind d m k b).k<=s.size/\(zt ex s kind d m k b).es.length+k<=(zt ex s kind d m k b).k:=by
 have hp:=zK (b:=b) hk
 have hg:=z7 s k b
 unfold zt
 generalize zb s k b=p at *
 simp only
 split
 ·have h1:=Y8 (b:=b) hp
  have h2:=zi s 58 (btK s p b) (btX s p b)
  have h3:=hX (d+1) m (zc s 58 (btK s p b) (btX s p b)) (zj s 58 (btK s p b) (btX s p b)) (zq (by decide) (Y7 hp))
  simp only
  omega
 ·split
  ·have h1:=zV (b:=b) hp
   have h2:=zi s 58 (zm s p b) (zu s p b)
   have h3:=hX (d+1) m (zc s 58 (zm s p b) (zu s p b)) (zj s 58 (zm s p b) (zu s p b)) (zq (by decide) (zZ hp))
   simp only
   omega
  ·split
   ·have h1:=zV (b:=b) hp
    have h2:=zi s 42 (zm s p b) (zu s p b)
    have h4:=zq (c:=42) (b:=zu s p b) (by decide) (zZ (b:=b) hp)
    have h3:=zV (b:=zj s 42 (zm s p b) (zu s p b)) h4
    have h5:=zZ (b:=zj s 42 (zm s p b) (zu s p b)) h4
    simp only [List.length_nil]
    omega
   ·have h1:=zV (b:=b) hp
    have h2:=zZ (b:=b) hp
    simp only [List.length_nil]
    omega
def Xi (ex:Int->Nat->Nat->Bool->CR):Prop:=∀ d m k,(ex d m k true).b=true
theorem qA {ex:Int->Nat->Nat->Bool->CR} {s:ByteArray} (hX:Xi ex) (kind d:Int) (m k:Nat) {b:Bool} (hb:b=true):(zt ex s kind d m k b).b=true:=by
 subst hb
 unfold zt
 simp only [Qf,XO,xW]
 split
 ·exact hX _ _ _
 ·split
  ·exact hX _ _ _
  ·split<;>rfl
structure CL where
 ims:List IM
 es:List EX
 k:Nat
 b:Bool
def zd (ex:Int->Nat->Nat->Bool->CR) (s:ByteArray) (kind d:Int):Nat->Nat->Nat->Bool->CL
 | 0,_,k,b=>⟨[],[],k,b⟩
 | n+1,m,k,b =>
  let r:=zt ex s kind d m k b
  if zU s 44 r.k r.b=true then
   let q:=zd ex s kind d n (m+r.es.length) (zc s 44 r.k r.b) r.b
   ⟨r.im::q.ims,r.es++q.es,q.k,q.b⟩
  else ⟨[r.im],r.es,zc s 44 r.k r.b,r.b⟩
def yg (c:Int):Prop:=c=123\/c=102\/c=119\/c=103\/c=109
theorem JY (ex:Int->Nat->Nat->Bool->CR) (base B:Nat) (s:ByteArray) (c d:Int) (k:Nat) (b:Bool) (ev rv:Value) (es:List (EX×Value)) (rs:List RL) (w:World) (n:Nat) (hX:YA ex s base B rs n) (h0:0<=d) (h1:d+1<=k) (hl:es.length<=k) (hn:b=true\/s.size-k<n) (hs:s.size<=2000) (hk:k<=s.size) (hc:yg c) (h:PM w base B s k b ev rv es rs) (R:CI) (hR:Hid (zt ex s c d es.length k b=R)) :
 Calls Tryz.prog 170 #[.pointer (some ⟨B,0,none⟩),J .u8 c,J Z d] w fun e w'=>e=.returned (.agg #[J Z R.im.at_,J Z R.im.num,J Z R.im.pv,J Z R.im.pl,J Z R.im.wv,J Z R.im.wa,J Z R.im.arm])/\∃ ev' new,new.map Prod.fst=R.es/\PM w' base B s R.k R.b ev' rv (es++new) rs/\Mv base B ev rv ev' rv w w'/\∀ p∈new,∀ g,p.2.ownBlock=some g->w.heap.size<=g:=by
 rcases hc with rfl | rfl | rfl | rfl | rfl
 ·exact Qa ex base B s d k b ev rv es rs w hs hk h R hR
 ·exact jx ex base B s d k b ev rv es rs w hs hk h R hR
 ·exact JV ex base B s d k b ev rv es rs w hs hk h R hR
 ·exact QM ex base B s d k b ev rv es rs w n hX h0 h1 hl hn hs hk h R hR
 ·exact JW ex base B s d k b ev rv es rs w n hX h0 h1 hl hn hs hk h R hR
theorem zh {w w':World} {base e size:Nat} {v:Value} {n:Nat} {xs:List Value} (h:w.ownsRow base e size v n xs) (hk:∀ g,v.ownBlock=some g->w'.heap[g]?=w.heap[g]?):w'.ownsRow base e size v n xs:=by
 refine ⟨h.1,?_⟩
 rcases h.2 with h0 | ⟨g,cap,cur,rfl,h1,h2,h3⟩
 ·exact .inl h0
 ·exact .inr ⟨g,cap,cur,rfl,h1,(hk g rfl).trans h2,h3⟩
theorem yb {w:World} {base e size e2 size2:Nat} {v v2:Value} {n n2:Nat} {xs xs2:List Value} (h:w.ownsRow base e size v n xs) (h2:w.ownsRow base e2 size2 v2 n2 xs2) (hne:e≠e2):v.ownBlock=none\/v.ownBlock≠v2.ownBlock:=by
 rcases h.2 with ⟨rfl,_⟩ | ⟨g,cap,cur,rfl,_,hg,_⟩
 ·exact .inl rfl
 ·right
  intro e
  have:=zs h2 hg hne
  exact this e.symm
theorem PM.grown {w w':World} {base B s k b ev rv es rs} (h:PM w base B s k b ev rv es rs) {v:Value} {n:Nat} {xs:List Value} (hrow:w.ownsRow base 155 7 v n xs) (hg:w.grownBy w' v.ownBlock) (hF:∀ g,v.ownBlock=some g->Fre g es):PM w' base B s k b ev rv es rs :=
 ⟨(hg.block B h.lt (fun e=>zs hrow h.blk (by decide) e.symm)).trans h.blk,h.ex.kept hg (yb h.ex hrow (by decide)),h.rl.kept hg (yb h.rl hrow (by decide)),fun p hp=>(h.it p hp).kept hg (by
  cases hv:v.ownBlock with
  | none=>cases hq:p.2.ownBlock with
   | none=>exact .inl rfl
   | some q=>exact .inr (by simp)
  | some g=>exact .inr (hF g hv p hp)),h.hB⟩
theorem PM.outI {w:World} {base B s k b ev rv es rs} (h:PM w base B s k b ev rv es rs) {v:Value} {n:Nat} {xs:List Value} (hrow:w.ownsRow base 155 7 v n xs) {g:Nat} (hg:v.ownBlock=some g):Out B ev rv g :=
 ⟨fun e=>zs hrow h.blk (by decide) (by rw [hg,e]),fun e=>(by
  rcases yb h.ex hrow (by decide) with h | h
  ·rw [h] at e;cases e
  ·exact h (e.trans hg.symm)),fun e=>(by
  rcases yb h.rl hrow (by decide) with h | h
  ·rw [h] at e;cases e
  ·exact h (e.trans hg.symm))⟩
theorem Mv.grown {base B:Nat} {a b c d:Value} {w w1 w2:World} (h:Mv base B a b c d w w1) {row:Option Nat} (hg:w1.grownBy w2 row) (hb:base<=w1.heap.size) (hr:∀ g,row=some g->w.heap.size<=g/\base<=g):Mv base B a b c d w w2 :=
 ⟨h.bel.grown hg hb (fun q hq=>(hr q hq).2),fun x hx ho=>⟨(hg.block x (Nat.lt_of_lt_of_le hx h.bel.size) (fun e=>by have:=(hr x e.symm).1;omega)).trans (h.kept x hx ho).1,(h.kept x hx ho).2⟩⟩
theorem zy {w:World} {k:Nat} (o:Obj) (h:k=w.heap.size):(w.alloc o).heap[k]?=some o:=by subst h;exact heap_alloc_new w o
theorem qq (ex:Int->Nat->Nat->Bool->CR) (base B:Nat) (s:ByteArray) (c d:Int) (k:Nat) (b:Bool) (ev rv:Value) (es:List (EX×Value)) (rs:List RL) (w:World) (n:Nat) (hX:YA ex s base B rs n) (hM:Zs ex s) (hB:Xi ex) (h0:0<=d) (h1:d+1<=k) (hl:es.length<=k) (hn:b=true\/s.size-k<n) (hs:s.size<=2000) (hk:k<=s.size) (hc:yg c) (h:PM w base B s k b ev rv es rs) (R:CL) (hR:Hid (zd ex s c d (s.size+1-k) es.length k b=R)) :
 Calls Tryz.prog 160 #[.pointer (some ⟨B,0,none⟩),J .u8 c,J Z d] w fun e w'=>∃ v ev' new,e=.returned v/\new.map Prod.fst=R.es/\PM w' base B s R.k R.b ev' rv (es++new) rs/\Mv base B ev rv ev' rv w w'/\(∀ p∈new,∀ g,p.2.ownBlock=some g->w.heap.size<=g) /\
  w'.ownsRow base 155 7 v R.ims.length (imC R.ims)/\(∀ g,v.ownBlock=some g->w.heap.size<=g/\Fre g (es++new)):=by
 obtain ⟨i0,hi0,hz0,hz1,hz2⟩:=info_parts Tryz.infoItem
 go_enter Tryz.func160,Tryz.ntmps160
 go_wp2_with fail
 have HP0:Hid (PM (w.alloc (Q #[] 155)) base B s k b ev rv (es++[]) rs):=by show PM _ _ _ _ _ _ _ _ _ _;rw [List.append_nil];exact h.alloc _
 have HM0:Hid (Mv base B ev rv ev rv w (w.alloc (Q #[] 155))):=Mv.alloc h.bs _
 have HW0:Hid ((w.alloc (Q #[] 155)).ownsRow base 155 7 (O (some ⟨w.heap.size,0,none⟩) 0 0) 0 (imC [])):=⟨rfl,.inr ⟨w.heap.size,0,#[],rfl,h.bs,heap_alloc_new w _,Nat.le_refl _,by decide,rfl,rfl⟩⟩
 have HF0:Hid (Fre w.heap.size (es++[])):=by show Fre _ _;rw [List.append_nil];exact h.fre (Nat.le_refl _)
 have hbs:=h.bs
 clear h
 have hc0:0<=c/\c<256:=by rcases hc with rfl | rfl | rfl | rfl | rfl<;>omega
 go_loopg [7,8] (s.size+2-k) (fun n lv mv wr=>∃ (f:Nat) (kj:Nat) (bj:Bool) (done:List IM) (ev':Value) (new:List (EX×Value)),kj<=s.size/\k<=kj/\new.length+k<=kj/\(b=true->bj=true) /\
  ((mv=.bool true/\n=f+1/\s.size+1<=f+kj/\done.length<=kj/\Hid (R=⟨done++(zd ex s c d f (es++new).length kj bj).ims,new.map Prod.fst++(zd ex s c d f (es++new).length kj bj).es,(zd ex s c d f (es++new).length kj bj).k,(zd ex s c d f (es++new).length kj bj).b⟩))\/(mv=.bool false/\n=0/\Hid (R=⟨done,new.map Prod.fst,kj,bj⟩))) /\
  PM wr base B s kj bj ev' rv (es++new) rs/\Mv base B ev rv ev' rv w wr/\(∀ p∈new,∀ g,p.2.ownBlock=some g->w.heap.size<=g)/\wr.ownsRow base 155 7 lv done.length (imC done)/\(∀ g,lv.ownBlock=some g->w.heap.size<=g/\Fre g (es++new)))
 case atStart =>
  refine ⟨s.size+1-k,k,b,[],ev,[],hk,Nat.le_refl _,by simp,fun h=>h,.inl ⟨rfl,by omega,by omega,by simp,?_⟩,HP0.out,HM0.out,by simp,HW0.out,fun g hg=>by simp [Value.ownBlock] at hg;subst hg;exact ⟨Nat.le_refl _,HF0.out⟩⟩
  show _=_
  rw [<- hR.out]
  simp
 case round =>
  obtain ⟨f,kj,bj,done,ev',new,hkj,hkk,hnl,hbb,hmode,hp,hm,hfr,hrow,hlb⟩:=hrel
  have HP:Hid (PM wr base B s kj bj ev' rv (es++new) rs):=hp
  have HM:Hid _:=hm
  have HFR:Hid _:=hfr
  have HRW:Hid (wr.ownsRow base 155 7 u7 done.length (imC done)):=hrow
  have HLB:Hid _:=hlb
  clear hp hm hfr hrow hlb
  rcases hmode with ⟨rfl,hgk,hfk,hdl,HE⟩ | ⟨rfl,hgk,HE⟩
  ·obtain ⟨f,rfl⟩:∃ f',f=f'+1:=⟨f-1,by omega⟩
   have hen:(es++new).length<=kj:=by simp only [List.length_append];omega
   have hnj:bj=true\/s.size-kj<n:=by
    rcases hn with hn | hn
    ·exact .inl (hbb hn)
    ·exact .inr (by omega)
   have hmo:=yT hM c d (es++new).length kj bj hkj
   generalize hr:zt ex s c d (es++new).length kj bj=r at *
   have HE2:Hid (R=if zU s 44 r.k r.b=true then ⟨done++r.im::(zd ex s c d f ((es++new).length+r.es.length) (zc s 44 r.k r.b) r.b).ims,new.map Prod.fst++(r.es++(zd ex s c d f ((es++new).length+r.es.length) (zc s 44 r.k r.b) r.b).es),(zd ex s c d f ((es++new).length+r.es.length) (zc s 44 r.k r.b) r.b).k,(zd ex s c d f ((es++new).length+r.es.length) (zc s 44 r.k r.b) r.b).b⟩ else ⟨done++[r.im],new.map Prod.fst++r.es,zc s 44 r.k r.b,r.b⟩):=by
    show _=_
    rw [HE.out]
    simp only [zd,hr]
    split<;>rfl
   have HRR:Hid _:=hr
   have hbad:bj=true->r.b=true:=fun h=>by rw [<- hr];exact qA hB c d _ kj h
   clear HE hr
   go_wp2_with fail
   refine (JY ex base B s c d kj bj ev' rv (es++new) rs _ n hX h0 (by omega) hen hnj hs hkj hc HP.out r HRR).mono ?_
   rintro e w2 ⟨rfl,ev2,new2,hnew2,hp2,hm2,hfr2⟩
   have HRW2:Hid (w2.ownsRow base 155 7 u7 done.length (imC done)):=zh HRW.out (fun g hg=>(hm2.kept g (HRW.out.lt g hg).2 (HP.out.outI HRW.out hg)).1)
   have HP3:Hid (PM ((w2.alloc (Q #[J Z r.im.at_,J Z r.im.num,J Z r.im.pv,J Z r.im.pl,J Z r.im.wv,J Z r.im.wa,J Z r.im.arm] 155)).alloc (Q #[J Z r.im.at_,J Z r.im.num,J Z r.im.pv,J Z r.im.pl,J Z r.im.wv,J Z r.im.wa,J Z r.im.arm] 155)) base B s r.k r.b ev2 rv (es++(new++new2)) rs):=by show PM _ _ _ _ _ _ _ _ _ _;rw [<- List.append_assoc];exact (hp2.alloc _).alloc _
   have HM3:Hid (Mv base B ev rv ev2 rv w ((w2.alloc (Q #[J Z r.im.at_,J Z r.im.num,J Z r.im.pv,J Z r.im.pl,J Z r.im.wv,J Z r.im.wa,J Z r.im.arm] 155)).alloc (Q #[J Z r.im.at_,J Z r.im.num,J Z r.im.pv,J Z r.im.pl,J Z r.im.wv,J Z r.im.wa,J Z r.im.arm] 155))):=((HM.out.trans hm2).trans (Mv.alloc hp2.bs _)).trans (Mv.alloc (hp2.alloc _).bs _)
   have HRW3:Hid (((w2.alloc (Q #[J Z r.im.at_,J Z r.im.num,J Z r.im.pv,J Z r.im.pl,J Z r.im.wv,J Z r.im.wa,J Z r.im.arm] 155)).alloc (Q #[J Z r.im.at_,J Z r.im.num,J Z r.im.pv,J Z r.im.pl,J Z r.im.wv,J Z r.im.wa,J Z r.im.arm] 155)).ownsRow base 155 7 u7 done.length (imC done)):=(HRW2.out.alloc _).alloc _
   have HFR3:Hid (∀ p∈new++new2,∀ g,p.2.ownBlock=some g->w.heap.size<=g):=fun p hp g hg=>by
    rcases List.mem_append.1 hp with hp | hp
    ·exact HFR.out p hp g hg
    ·exact Nat.le_trans HM.out.bel.size (hfr2 p hp g hg)
   have HLB3:Hid (∀ g,u7.ownBlock=some g->w.heap.size<=g/\Fre g (es++(new++new2))):=fun g hg=>by
    have h1:=HLB.out g hg
    refine ⟨h1.1,?_⟩
    rw [<- List.append_assoc]
    exact h1.2.app (fun p hp e=>by have h2:=hfr2 p hp g e;have h3:=(HRW.out.lt g hg).2;omega)
   have HNW3:Hid ((new++new2).map Prod.fst=new.map Prod.fst++r.es):=by show _=_;rw [List.map_append,hnew2]
   have hb2:base<=w2.heap.size:=hp2.bs
   have hA1:Hid (done.length+1<=maxLen):=by show _<=_;unfold maxLen;omega
   have hA2:Hid ((done.length+1)*56<=140737488355328):=by show _<=_;omega
   have hA3:Hid (base<=((w2.alloc (Q #[J Z r.im.at_,J Z r.im.num,J Z r.im.pv,J Z r.im.pl,J Z r.im.wv,J Z r.im.wa,J Z r.im.arm] 155)).alloc (Q #[J Z r.im.at_,J Z r.im.num,J Z r.im.pv,J Z r.im.pl,J Z r.im.wv,J Z r.im.wa,J Z r.im.arm] 155)).heap.size):=by show _<=_;simp;omega
   have hone:Hid (∀ u∈imV r.im,u.oneCell'=true):=fun u hu=>by simp [imV] at hu;rcases hu with rfl | rfl | rfl | rfl | rfl | rfl | rfl<;>rfl
   have hlen2:Hid (new2.length=r.es.length):=by show _=_;rw [<- hnew2,List.length_map]
   have HSW:Hid (w.heap.size<=w2.heap.size):=Nat.le_trans HM.out.bel.size hm2.bel.size
   clear hp2 hm2 hnew2 hfr2
   go_wp2_with (at_builtin;refine wpList_append_lies _ rfl _ _ 146 rfl base 155 i0 _ 7 56 Tryz.underlying146 hi0 hz0 hz1 hz2 rfl (by decide) u7 _ _ rfl HRW3.out ⟨w2.heap.size+1,0,none⟩ 1 1 (imV r.im) rfl rfl (World.news_of_block (cs:=#[J Z r.im.at_,J Z r.im.num,J Z r.im.pv,J Z r.im.pl,J Z r.im.wv,J Z r.im.wa,J Z r.im.arm]) (t:=155) (fr:=(0,0)) (zy _ (by simp))) hone.out (Nat.lt_succ_self 0) hA1.out hA2.out hA3.out (w2.heap.size+2) (by simp) ?_;intro g cap w4 hown hgrow hat hlt4)
   have e1:imC (done++[r.im])=imC done++imV r.im:=by simp [imC]
   have e2:(done++[r.im]).length=done.length+1:=by simp
   have HRW4:Hid (w4.ownsRow base 155 7 (O (some ⟨g,0,none⟩) (done.length+1) cap) (done++[r.im]).length (imC (done++[r.im]))):=by show World.ownsRow _ _ _ _ _ _ _;rw [e1,e2];exact hown
   have HP4:Hid (PM w4 base B s r.k r.b ev2 rv (es++(new++new2)) rs):=HP3.out.grown HRW3.out hgrow (fun g hg=>(HLB3.out g hg).2)
   have HM4:Hid (Mv base B ev rv ev2 rv w w4):=HM3.out.grown hgrow hA3.out (fun g hg=>⟨(HLB3.out g hg).1,(HRW3.out.lt g hg).1⟩)
   have HLB4:Hid (w.heap.size<=g/\Fre g (es++(new++new2))):=by
    rcases hat with h | h
    ·exact HLB3.out g h
    ·have:=HSW.out
     exact ⟨by omega,HP3.out.fre (by simp;omega)⟩
   clear hown hgrow hat e1 e2
   refine (Xz base B s 44 r.k r.b ev2 rv _ rs _ hs hmo.2.1 (by decide) HP4.out).mono ?_
   rintro e w5 ⟨rfl,hp5,hm5⟩
   have HP5:Hid _:=hp5
   have HM5:Hid _:=HM4.out.trans hm5
   have HRW5:Hid (w5.ownsRow base 155 7 (O (some ⟨g,0,none⟩) (done.length+1) cap) (done++[r.im]).length (imC (done++[r.im]))):=zh HRW4.out (fun g' hg=>(hm5.kept g' (HRW4.out.lt g' hg).2 (HP4.out.outI HRW4.out hg)).1)
   have hl2:=hlen2.out
   have htg:=zi s 44 r.k r.b
   have htl:zc s 44 r.k r.b<=s.size:=zq (by decide) hmo.2.1
   clear hp5 hm5
   cases ht:zU s 44 r.k r.b with
   | true =>
    have htk:r.k+1<=zc s 44 r.k r.b:=by
     unfold zc;rw [if_pos ht];have:=z7 s r.k r.b;omega
    have HE3:Hid (R=⟨(done++[r.im])++(zd ex s c d f (es++(new++new2)).length (zc s 44 r.k r.b) r.b).ims,(new++new2).map Prod.fst++(zd ex s c d f (es++(new++new2)).length (zc s 44 r.k r.b) r.b).es,(zd ex s c d f (es++(new++new2)).length (zc s 44 r.k r.b) r.b).k,(zd ex s c d f (es++(new++new2)).length (zc s 44 r.k r.b) r.b).b⟩):=by
     show _=_
     have e3:(es++(new++new2)).length=(es++new).length+r.es.length:=by simp only [List.length_append];omega
     rw [HE2.out,if_pos ht,e3,HNW3.out]
     simp
    clear HE2 ht
    go_wp2_with fail
    go_roundg (f+1)
    case measure=>omega
    case rel=>exact ⟨f,zc s 44 r.k r.b,r.b,done++[r.im],ev2,new++new2,htl,by omega,by simp only [List.length_append];omega,fun h=>hbad (hbb h),.inl ⟨rfl,rfl,by omega,by simp;omega,HE3⟩,HP5.out,HM5.out,HFR3.out,HRW5.out,fun g' hg=>by simp [Value.ownBlock] at hg;subst hg;exact HLB4.out⟩
   | false =>
    have HE3:Hid (R=⟨done++[r.im],(new++new2).map Prod.fst,zc s 44 r.k r.b,r.b⟩):=by
     show _=_
     rw [HE2.out,if_neg (by rw [ht];decide),HNW3.out]
    clear HE2 ht
    go_wp2_with fail
    go_roundg 0
    case measure=>omega
    case rel=>exact ⟨0,zc s 44 r.k r.b,r.b,done++[r.im],ev2,new++new2,htl,by omega,by simp only [List.length_append];omega,fun h=>hbad (hbb h),.inr ⟨rfl,rfl,HE3⟩,HP5.out,HM5.out,HFR3.out,HRW5.out,fun g' hg=>by simp [Value.ownBlock] at hg;subst hg;exact HLB4.out⟩
  ·go_wp2_with fail
   go_ret
   refine ⟨_,ev',new,rfl,?_,?_,HM.out,HFR.out,?_,HLB.out⟩
   ·rw [HE.out]
   ·rw [HE.out];exact HP.out
   ·rw [HE.out];exact HRW.out
theorem yi {w w':World} (h:Below w.heap.size w w') {p:Addr} {v:Value} (hc:w.cell? p=some v):w'.cell? p=some v:=by
 rw [h.cell (Nat.lt_of_not_le fun hn=>by
  have:w.heap[p.block]?=none:=Array.getElem?_eq_none_iff.2 hn
  simp [World.cell?,this] at hc)]
 exact hc
def isK (c:Int):Bool:=c==123 || c==119 || c==102 || c==109 || c==103 || c==116 || c==64 || c==61
theorem Zo (c:Int) (w:World):Calls Tryz.prog 159 #[J .u8 c] w fun e w'=>w'=w/\e=.returned (.bool (isK c)):=by
 have HK:Hid (isK c=(c==123 || c==119 || c==102 || c==109 || c==103 || c==116 || c==64 || c==61)):=rfl
 cases h1:(c==123)<;>cases h2:(c==119)<;>cases h3:(c==102)<;>cases h4:(c==109)<;>cases h5:(c==103)<;>cases h6:(c==116)<;>cases h7:(c==64)<;>cases h8:(c==61)<;>first
  | (exfalso;simp only [beq_iff_eq] at *;omega)
  | (go_enter Tryz.func159,Tryz.ntmps159
     go_wp2_with fail
     go_ret
     exact ⟨rfl,by rw [HK.out,h1,h2,h3,h4,h5,h6,h7,h8];rfl⟩)
def yf (v:Int):List RL->Int
 | []=>-1
 | r::l=>if r.nv=v then r.ex else yf v l
def RV (w:World) (v:Value) (rs:List RL):Prop:=(v=O none 0 0/\rs=[])\/∃ g cap,v=O (some ⟨g,0,none⟩) rs.length cap/\∀ i r,rs[i]?=some r->w.cell? ⟨g,i*3,none⟩=some (J Z r.nv)/\w.cell? ⟨g,i*3+1,none⟩=some (J Z r.na)/\w.cell? ⟨g,i*3+2,none⟩=some (J Z r.ex)
theorem XR (v:Value) (x:Int) (rs:List RL) (w:World) (hl:rs.length<=100000) (h:RV w v rs) :
 Calls Tryz.prog 88 #[v,J Z x] w fun e w'=>Below w.heap.size w w'/\e=.returned (J Z (yf x rs)):=by
 have hloop:∀ (i:Nat),i<rs.length->∃ r,rs[i]?=some r:=fun i hi=>⟨rs[i],List.getElem?_eq_getElem hi⟩
 rcases h with ⟨rfl,rfl⟩ | ⟨g,cap,rfl,hc⟩
 ·go_enter Tryz.func88,Tryz.ntmps88
  go_wp2_with fail
  go_loopg [9] 1 (fun n y wr=>y=J Z 0/\wr=w)
  case atStart=>exact ⟨rfl,rfl⟩
  case round =>
   obtain ⟨rfl,rfl⟩:=hrel
   go_wp2_with fail
   go_ret
   exact ⟨Below.refl _ _,rfl⟩
 ·have hdrop:yf x (rs.drop 0)=yf x rs:=by rw [List.drop_zero]
  go_enter Tryz.func88,Tryz.ntmps88
  go_wp2_with fail
  go_loopg [9] rs.length (fun n y wr=>∃ (j:Nat),n+j=rs.length/\y=J Z j/\Hid (yf x (rs.drop j)=yf x rs)/\Below w.heap.size w wr)
  case atStart=>exact ⟨0,by omega,rfl,hdrop,Below.refl _ _⟩
  case round =>
   obtain ⟨j,hn,rfl,HN,hb⟩:=hrel
   have HB:Hid (Below w.heap.size w wr):=hb
   by_cases hlt:j<rs.length
   ·obtain ⟨r,hr⟩:=hloop j hlt
    have hj0:(0:Int)<=(j:Int):=by omega
    have hj1:(j:Int)<(rs.length:Int):=by omega
    obtain ⟨r0,r1,r2⟩:=hc j r hr
    have x0:=yi HB.out r0
    have x1:=yi HB.out r1
    have x2:=yi HB.out r2
    have HD:Hid (yf x rs=if r.nv=x then r.ex else yf x (rs.drop (j+1))):=by
     show _=_
     rw [<- HN.out,List.drop_eq_getElem_cons hlt]
     have:rs[j]=r:=by have:=List.getElem?_eq_getElem hlt;rw [hr] at this;simpa using this.symm
     rw [this];rfl
    clear hb hc r0 r1 r2 hr hloop hdrop
    cases he:(r.nv==x) with
    | true =>
     have HD2:Hid (yf x rs=r.ex):=by show _=_;rw [HD.out,if_pos (by simpa using he)]
     go_wp2_with fail
     go_ret
     exact ⟨HB.out.alloc HB.out.size _,by rw [HD2.out];rfl⟩
    | false =>
     have HD2:Hid (yf x (rs.drop (j+1))=yf x rs):=by show _=_;rw [HD.out,if_neg (by simpa using he)]
     go_wp2_with fail
     go_roundg (gk-1)
     case measure=>omega
     case rel=>exact ⟨j+1,by omega,by go_num,HD2,HB.out.alloc HB.out.size _⟩
   ·have hd:¬ ((j:Int)<(rs.length:Int)):=by omega
    have hd2:((rs.length:Int))<=(j:Int):=by omega
    have HD:Hid (yf x rs=-1):=by show _=_;rw [<- HN.out,List.drop_eq_nil_of_le (by omega)];rfl
    go_wp2_with fail
    go_ret
    exact ⟨HB.out,by rw [HD.out];rfl⟩
theorem YS (c a d:Int) (w:World):(Instr.build 148 #[(0,J .u8 c),(1,J Z a),(2,J Z d),(5,J Z (-1))]).run Tryz.prog w=.ok (.agg #[J .u8 c,J Z a,J Z d,J Z 0,J Z 0,O none 0 0,J Z (-1)]) w:=run_build w 148 _ _ (by kernel_rfl)
theorem YN (base B:Nat) (s:ByteArray) (k:Nat) (b:Bool) (ev rv:Value) (es:List (EX×Value)) (rs:List RL) (w:World) (h:PM w base B s k b ev rv es rs) :
 Calls Tryz.prog 127 #[.pointer (some ⟨B,0,none⟩)] w fun e w'=>e=.returned (J .u8 (ze s k b))/\∃ n,w'=w.drewN n:=by
 have c0:=h.c0
 have c1:=h.c1
 have c2:=h.c2
 clear h
 cases b with
 | true =>
  go_enter Tryz.func127,Tryz.ntmps127
  go_wp2_with fail
  go_quiet (fail)
  go_wp2_with fail
  go_ret
  exact ⟨rfl,_,rfl⟩
 | false =>
  by_cases hlt:k<s.size
  ·have HH:Hid (ze s k false=T.ch s k):=by show _=_;unfold ze;rw [if_neg (by decide),if_pos hlt]
   have hlt':(k:Int)<(s.size:Int):=by omega
   have hge:decide ((s.size:Int)<=(k:Int))=false:=decide_eq_false (by omega)
   have hch:((s[k]).toNat:Int)=T.ch s k:=(T.ch_lt hlt).symm
   go_enter Tryz.func127,Tryz.ntmps127
   go_wp2_with fail
   go_quiet (fail)
   go_wp2_with fail
   go_quiet (fail)
   go_wp2_with fail
   go_ret
   exact ⟨by rw [HH.out];rfl,_,World.drewN_drewN _ _ _⟩
  ·have HH:Hid (ze s k false=0):=by show _=_;unfold ze;rw [if_neg (by decide),if_neg hlt]
   have hge:decide ((s.size:Int)<=(k:Int))=true:=decide_eq_true (by omega)
   go_enter Tryz.func127,Tryz.ntmps127
   go_wp2_with fail
   go_quiet (fail)
   go_wp2_with fail
   go_ret
   exact ⟨by rw [HH.out];rfl,_,rfl⟩
theorem PM.below {w w':World} {base B s k b ev rv es rs} (h:PM w base B s k b ev rv es rs) (hb:Below w.heap.size w w'):PM w' base B s k b ev rv es rs :=
 ⟨(hb.block B h.lt).trans h.blk,zh h.ex (fun g hg=>hb.block g (h.ex.lt g hg).2),zh h.rl (fun g hg=>hb.block g (h.rl.lt g hg).2),fun p hp=>zh (h.it p hp) (fun g hg=>hb.block g ((h.it p hp).lt g hg).2),h.hB⟩
theorem zbn {α:Type} (f:α->List Value) (n:Nat) (hf:∀ x,(f x).length=n) (ls:List α):∀ (i:Nat) (x:α) (j:Nat),ls[i]?=some x->j<n->(ls.flatMap f)[i*n+j]?=(f x)[j]?:=by
 induction ls with
 | nil=>intro i f j h;simp at h
 | cons g r ih =>
  intro i x j h hj
  simp only [List.flatMap_cons]
  cases i with
  | zero =>
   simp at h
   subst h
   rw [Nat.zero_mul,Nat.zero_add,List.getElem?_append_left (by rw [hf];exact hj)]
  | succ i =>
   simp at h
   have:=ih i x j h hj
   have e0:(i+1)*n=i*n+n:=Nat.succ_mul i n
   rw [List.getElem?_append_right (by rw [hf];omega),hf]
   have e:(i+1)*n+j-n=i*n+j:=by omega
   rw [e];exact this
theorem z6 {w:World} {base e n g cap:Nat} {α:Type} (f:α->List Value) (hf:∀ x,(f x).length=n) {ls:List α} (h:w.ownsRow base e n (O (some ⟨g,0,none⟩) ls.length cap) ls.length (ls.flatMap f)) {i:Nat} {x:α} (hx:ls[i]?=some x) (j:Nat) (hj:j<n):w.cell? ⟨g,i*n+j,none⟩=(f x)[j]?:=by
 have hi:i<ls.length:=(List.getElem?_eq_some_iff.1 hx).1
 have h2:(i+1)*n<=ls.length*n:=Nat.mul_le_mul_right n hi
 have e0:(i+1)*n=i*n+n:=Nat.succ_mul i n
 rw [World.ownsRow.cellAt h (i*n+j) (by omega)]
 exact zbn f n hf ls i x j hx hj
theorem PM.rvs {w:World} {base B s k b ev rv es rs} (h:PM w base B s k b ev rv es rs):RV w rv rs:=by
 have h0:=h.rl
 rcases h.rl.2 with ⟨h1,h2⟩ | ⟨g,cap,cur,rfl,h1⟩
 ·exact .inl ⟨h1,List.eq_nil_of_length_eq_zero h2⟩
 ·exact .inr ⟨g,cap,rfl,fun i r hr=>⟨z6 rlV (fun _=>rfl) h0 hr 0 (by decide),z6 rlV (fun _=>rfl) h0 hr 1 (by decide),z6 rlV (fun _=>rfl) h0 hr 2 (by decide)⟩⟩
def cE (s:ByteArray) (rs:List RL):Nat->Int->Nat->Nat->Bool->CR
 | 0,_,_,k,b=>⟨-1,[],zb s k b,true⟩
 | n+1,d,m,k,b =>
  let p:=zb s k b
  let c:=ze s p b
  if isK c=false then ⟨-1,[],p,true⟩
  else if c=123 then
   let l:=zd (cE s rs n) s 123 d (s.size+1-(p+1)) m (p+1) b
   ⟨(m+l.es.length:Nat),l.es++[⟨123,p,d,0,0,l.ims,-1⟩],zc s 125 l.k l.b,zj s 125 l.k l.b⟩
  else if c=116 then
   let k1:=zc s 40 (p+1) b
   let b1:=zj s 40 (p+1) b
   let k2:=zc s 44 (zm s k1 b1) (zu s k1 b1)
   let b2:=zj s 44 (zm s k1 b1) (zu s k1 b1)
   let r:=cE s rs n (d+1) m k2 b2
   ⟨(m+r.es.length:Nat),r.es++[⟨116,p,d,zI s k1 b1,zb s k1 b1,[],r.idx⟩],zc s 41 r.k r.b,zj s 41 r.k r.b⟩
  else if c=64 then ⟨m,[⟨64,p,d,zI s (p+1) b,zb s (p+1) b,[],-1⟩],zm s (p+1) b,zu s (p+1) b⟩
  else if c=61 then
   let q:=zb s (p+1) b
   ⟨m,[⟨61,p,d,ze s q b,q,[],yf (ze s q b) rs⟩],zO s (p+1) b,zT s (p+1) b⟩
  else
   let k1:=zc s 40 (p+1) b
   let b1:=zj s 40 (p+1) b
   let l:=zd (cE s rs n) s c d (s.size+1-k1) m k1 b1
   let r:=cE s rs n (d+1) (m+l.es.length) (zc s 124 l.k l.b) (zj s 124 l.k l.b)
   ⟨(m+l.es.length+r.es.length:Nat),l.es++r.es++[⟨c,p,d,0,0,l.ims,r.idx⟩],zc s 41 r.k r.b,zj s 41 r.k r.b⟩
theorem zL {ex:Int->Nat->Nat->Bool->CR} {s:ByteArray} (hX:Zs ex s) (kind d:Int) (n m k:Nat) (b:Bool) (hk:k<=s.size) :
 k<=(zd ex s kind d n m k b).k/\(zd ex s kind d n m k b).k<=s.size/\(zd ex s kind d n m k b).es.length+k<=(zd ex s kind d n m k b).k:=by
 induction n generalizing m k b with
 | zero=>simp [zd,hk]
 | succ n ih =>
  have h1:=yT hX kind d m k b hk
  generalize hr:zt ex s kind d m k b=r at *
  have h2:=zi s 44 r.k r.b
  have h3:zc s 44 r.k r.b<=s.size:=zq (by decide) h1.2.1
  have h4:=ih (m+r.es.length) (zc s 44 r.k r.b) r.b h3
  simp only [zd,hr]
  split
  ·simp only [List.length_append]
   omega
  ·simp only
   omega
theorem X0 {ex:Int->Nat->Nat->Bool->CR} {s:ByteArray} (hX:Xi ex) (kind d:Int) (n m k:Nat) {b:Bool} (hb:b=true):(zd ex s kind d n m k b).b=true:=by
 induction n generalizing m k b with
 | zero=>simpa [zd] using hb
 | succ n ih =>
  have h1:=qA (s:=s) hX kind d m k hb
  simp only [zd]
  split
  ·exact ih _ _ h1
  ·exact h1
theorem Z7 (s:ByteArray) (k:Nat):ze s k true=0:=by simp [ze]
theorem yS {s:ByteArray} {k:Nat} {b:Bool} (h:isK (ze s k b)=true):b=false/\k<s.size:=by
 unfold ze at h
 cases b with
 | true=>simp [isK] at h
 | false =>
  by_cases hlt:k<s.size
  ·exact ⟨rfl,hlt⟩
  ·simp [hlt,isK] at h
theorem Yy (s:ByteArray) (rs:List RL) (n:Nat):Xi (cE s rs n):=fun d m k=>by
 cases n with
 | zero=>rfl
 | succ n=>simp only [cE,Z7];rfl
theorem ZS (s:ByteArray) (k:Nat) (b:Bool):k<=zO s k b:=by
 unfold zO
 have:=z7 s k b
 split<;>omega
theorem yB (s:ByteArray) (rs:List RL) (n:Nat):Zs (cE s rs n) s:=by
 induction n with
 | zero=>intro d m k b hk;have h1:=z7 s k b;have h2:=zK (b:=b) hk;simp [cE,h2,h1]
 | succ n ih =>
  intro d m k b hk
  have h1:=z7 s k b
  have h2:=zK (b:=b) hk
  simp only [cE]
  generalize zb s k b=p at *
  split
  ·simp;omega
  ·next hK =>
   have hK2:isK (ze s p b)=true:=by simpa using hK
   have hlt:=(yS hK2).2
   split
   ·have h3:=zL ih 123 d (s.size+1-(p+1)) m (p+1) b (by omega)
    generalize zd (cE s rs n) s 123 d (s.size+1-(p+1)) m (p+1) b=l at *
    have h4:=zi s 125 l.k l.b
    have h5:=zq (c:=125) (b:=l.b) (by decide) h3.2.1
    simp only [List.length_append,List.length_cons,List.length_nil]
    omega
   ·split
    ·have a1:=zi s 40 (p+1) b
     have a2:zc s 40 (p+1) b<=s.size:=zq (by decide) (by omega)
     generalize zc s 40 (p+1) b=k1 at *
     generalize zj s 40 (p+1) b=b1 at *
     have a3:=zV (b:=b1) a2
     have a4:=zZ (b:=b1) a2
     have a5:=zi s 44 (zm s k1 b1) (zu s k1 b1)
     have a6:=zq (c:=44) (b:=zu s k1 b1) (by decide) a4
     have a7:=ih (d+1) m (zc s 44 (zm s k1 b1) (zu s k1 b1)) (zj s 44 (zm s k1 b1) (zu s k1 b1)) a6
     generalize cE s rs n (d+1) m (zc s 44 (zm s k1 b1) (zu s k1 b1)) (zj s 44 (zm s k1 b1) (zu s k1 b1))=r at *
     have h4:=zi s 41 r.k r.b
     have h5:=zq (c:=41) (b:=r.b) (by decide) a7.2.1
     simp only [List.length_append,List.length_cons,List.length_nil]
     omega
    ·split
     ·have a1:=zV (s:=s) (k:=p+1) (b:=b) (by omega)
      have a2:=zZ (s:=s) (k:=p+1) (b:=b) (by omega)
      simp only [List.length_cons,List.length_nil]
      omega
     ·split
      ·have a1:=ZS s (p+1) b
       have a2:=YJ (s:=s) (k:=p+1) (b:=b) (by omega)
       simp only [List.length_cons,List.length_nil]
       omega
      ·have a1:=zi s 40 (p+1) b
       have a2:zc s 40 (p+1) b<=s.size:=zq (by decide) (by omega)
       generalize zc s 40 (p+1) b=k1 at *
       generalize zj s 40 (p+1) b=b1 at *
       have h3:=zL ih (ze s p b) d (s.size+1-k1) m k1 b1 a2
       generalize zd (cE s rs n) s (ze s p b) d (s.size+1-k1) m k1 b1=l at *
       have a5:=zi s 124 l.k l.b
       have a6:=zq (c:=124) (b:=l.b) (by decide) h3.2.1
       have a7:=ih (d+1) (m+l.es.length) (zc s 124 l.k l.b) (zj s 124 l.k l.b) a6
       generalize cE s rs n (d+1) (m+l.es.length) (zc s 124 l.k l.b) (zj s 124 l.k l.b)=r at *
       have h4:=zi s 41 r.k r.b
       have h5:=zq (c:=41) (b:=r.b) (by decide) a7.2.1
       simp only [List.length_append,List.length_cons,List.length_nil]
       omega
section
theorem Tryz.infoExpr:(Tryz.prog.info? 148).map (fun i=>(i.zero,i.size,i.bytes))=some (some (.agg #[J .u8 0,J Z 0,J Z 0,J Z 0,J Z 0,O none 0 0,J Z 0]),7,72):=by kernel_rfl
theorem zS (w:World) (n:Nat) (o:Obj):(w.drewN n).alloc o=(w.alloc o).drewN n:=rfl
theorem zG (w:World) (n:Nat) (a:Addr) (v:Value):(w.drewN n).setCell a v=(w.setCell a v).drewN n:=rfl
theorem Yr {w:World} {a:Addr} {v:Value} (h:w.cell? a=some v) (o:Obj):(w.alloc o).cell? a=some v:=by
 have hlt:a.block<w.heap.size:=Nat.lt_of_not_le fun hn=>by
  have:w.heap[a.block]?=none:=Array.getElem?_eq_none_iff.2 hn
  simp [World.cell?,this] at h
 rw [World.cell?_of_block (w:=w) (Below.heap_alloc w o a.block hlt)]
 exact h
theorem yl {w:World} {B i X:Nat} {v:Value} (hne:X≠B) (h:w.cell? ⟨B,i,none⟩=some v) (j:Nat) (u:Value):(w.setCell ⟨X,j,none⟩ u).cell? ⟨B,i,none⟩=some v:=by
 rw [World.cell?_of_block (w:=w) (za (fun e=>hne e.symm))]
 exact h
theorem PM.setE {w:World} {base B s k b ev rv es rs} (h:PM w base B s k b ev rv es rs) {c j:Nat} {u:Value} (hT:zH w c 148) (hF:ev.ownBlock≠some c):PM (w.setCell ⟨c,j,none⟩ u) base B s k b ev rv es rs:=by
 obtain ⟨cs,fr,hc⟩:=hT
 refine ⟨?_,ownsRow_setCell_other h.ex hF _,ownsRow_setCell_other h.rl (zs h.rl hc (by decide)) _,fun p hp=>ownsRow_setCell_other (h.it p hp) (zs (h.it p hp) hc (by decide)) _,h.hB⟩
 rw [za (fun e=>by subst e;have:=h.blk;rw [hc] at this;simp at this)]
 exact h.blk
theorem PM.pushE {w w4:World} {base B s k b ev rv es rs} (h:PM w base B s k b ev rv es rs) {v:Value} {e:EX} {n g cap:Nat} (hn:n=es.length) (hg:w.grownBy w4 ev.ownBlock) (hown:w4.ownsRow base 148 7 (O (some ⟨g,0,none⟩) (n+1) cap) (n+1) (exC es++exV (e,v)))
 (hrow:w.ownsRow base 155 7 v e.items.length (imC e.items)):PM (w4.setCell ⟨B,3,none⟩ (O (some ⟨g,0,none⟩) (n+1) cap)) base B s k b (O (some ⟨g,0,none⟩) (n+1) cap) rv (es++[(e,v)]) rs:=by
 subst hn
 have hb4:w4.heap[B]?=some (Q #[.string s,J Z k,.bool b,ev,rv] 104 (0,0)):=(hg.block B h.lt (fun e=>zs h.ex h.blk (by decide) e.symm)).trans h.blk
 have hr4:w4.ownsRow base 143 3 rv rs.length (rlC rs):=h.rl.kept hg (yb h.rl h.ex (by decide))
 have hi4:∀ (q:Value) (n:Nat) (xs:List Value),w.ownsRow base 155 7 q n xs->w4.ownsRow base 155 7 q n xs:=fun q n xs hq=>hq.kept hg (yb hq h.ex (by decide))
 have e1:exC (es++[(e,v)])=exC es++exV (e,v):=by simp [exC]
 have e2:(es++[(e,v)]).length=es.length+1:=by simp
 refine ⟨xO hb4,?_,ownsRow_setCell_other hr4 (zs hr4 hb4 (by decide)) _,fun p hp=>?_,h.hB⟩
 ·rw [e1,e2];exact ownsRow_setCell_other hown (zs hown hb4 (by decide)) _
 ·rcases List.mem_append.1 hp with hp | hp
  ·have:=hi4 _ _ _ (h.it p hp)
   exact ownsRow_setCell_other this (zs this hb4 (by decide)) _
  ·simp at hp;subst hp
   have:=hi4 _ _ _ hrow
   exact ownsRow_setCell_other this (zs this hb4 (by decide)) _
theorem PM.pushMv {w w4:World} {base B s k b ev rv es rs} (h:PM w base B s k b ev rv es rs) {g n cap H:Nat} (hg:w.grownBy w4 ev.ownBlock) (hat:ev.ownBlock=some g\/g=H) (hH:w.heap.size<=H) :
 Mv base B ev rv (O (some ⟨g,0,none⟩) n cap) rv w (w4.setCell ⟨B,3,none⟩ (O (some ⟨g,0,none⟩) n cap)):=by
 refine ⟨((Below.refl _ _).grown hg h.bs (fun q hq=>(h.ex.lt q hq).1)).setCell h.hB _,fun x hx ho=>⟨?_,ho.1,?_,ho.2.2⟩⟩
 ·rw [za ho.1]
  exact hg.block x hx (fun e=>ho.2.1 e.symm)
 ·intro e
  simp [Value.ownBlock] at e
  subst e
  rcases hat with e | e
  ·exact ho.2.1 e
  ·omega
theorem PM.grown3 {w w9:World} {base B s k b ev rv es rs} (h:PM w base B s k b ev rv es rs) {o:Obj} (hg:((w.alloc o).drew).grownBy w9 ev.ownBlock):w9.cell? ⟨B,3,none⟩=some ev/\w9.frozen? ⟨B,3,none⟩=false:=by
 have h2:=(h.alloc o).drew
 have hb:=(hg.block B h2.lt (fun e=>zs h2.ex h2.blk (by decide) e.symm)).trans h2.blk
 exact ⟨by simp [World.cell?,hb],by simp [World.frozen?,hb]⟩
variable {s:ByteArray} {rs:List RL}
theorem QV (n:Nat) (d:Int) (m k:Nat) (b:Bool) (h:isK (ze s (zb s k b) b)=false):cE s rs (n+1) d m k b=⟨-1,[],zb s k b,true⟩:=by
 simp only [cE,h,if_true]
theorem Ym (n:Nat) (d:Int) (m k:Nat) (b:Bool) (h:ze s (zb s k b) b=123):cE s rs (n+1) d m k b =
 ⟨(m+(zd (cE s rs n) s 123 d (s.size+1-(zb s k b+1)) m (zb s k b+1) b).es.length:Nat),(zd (cE s rs n) s 123 d (s.size+1-(zb s k b+1)) m (zb s k b+1) b).es++[⟨123,zb s k b,d,0,0,(zd (cE s rs n) s 123 d (s.size+1-(zb s k b+1)) m (zb s k b+1) b).ims,-1⟩],zc s 125 (zd (cE s rs n) s 123 d (s.size+1-(zb s k b+1)) m (zb s k b+1) b).k (zd (cE s rs n) s 123 d (s.size+1-(zb s k b+1)) m (zb s k b+1) b).b,zj s 125 (zd (cE s rs n) s 123 d (s.size+1-(zb s k b+1)) m (zb s k b+1) b).k (zd (cE s rs n) s 123 d (s.size+1-(zb s k b+1)) m (zb s k b+1) b).b⟩:=by
 simp only [cE,h];rfl
theorem xM (n:Nat) (d:Int) (m k:Nat) (b:Bool) (h:ze s (zb s k b) b=64):cE s rs (n+1) d m k b =
 ⟨m,[⟨64,zb s k b,d,zI s (zb s k b+1) b,zb s (zb s k b+1) b,[],-1⟩],zm s (zb s k b+1) b,zu s (zb s k b+1) b⟩:=by
 simp only [cE,h];rfl
theorem Xr (n:Nat) (d:Int) (m k:Nat) (b:Bool) (h:ze s (zb s k b) b=61):cE s rs (n+1) d m k b =
 ⟨m,[⟨61,zb s k b,d,ze s (zb s (zb s k b+1) b) b,zb s (zb s k b+1) b,[],yf (ze s (zb s (zb s k b+1) b) b) rs⟩],zO s (zb s k b+1) b,zT s (zb s k b+1) b⟩:=by
 simp only [cE,h];rfl
theorem Qd (n:Nat) (d:Int) (m k:Nat) (b:Bool) (h:ze s (zb s k b) b=116) {k1:Nat} {b1:Bool} (hk1:zc s 40 (zb s k b+1) b=k1) (hb1:zj s 40 (zb s k b+1) b=b1) {r:CR} (hr:cE s rs n (d+1) m (zc s 44 (zm s k1 b1) (zu s k1 b1)) (zj s 44 (zm s k1 b1) (zu s k1 b1))=r):cE s rs (n+1) d m k b =
 ⟨(m+r.es.length:Nat),r.es++[⟨116,zb s k b,d,zI s k1 b1,zb s k1 b1,[],r.idx⟩],zc s 41 r.k r.b,zj s 41 r.k r.b⟩:=by
 subst hk1 hb1 hr
 simp only [cE,h];rfl
theorem Xs (n:Nat) (d:Int) (m k:Nat) (b:Bool) {c:Int} (h:ze s (zb s k b) b=c) (hc:c=119\/c=102\/c=109\/c=103) {k1:Nat} {b1:Bool} (hk1:zc s 40 (zb s k b+1) b=k1) (hb1:zj s 40 (zb s k b+1) b=b1) {l:CL} (hl:zd (cE s rs n) s c d (s.size+1-k1) m k1 b1=l) {r:CR} (hr:cE s rs n (d+1) (m+l.es.length) (zc s 124 l.k l.b) (zj s 124 l.k l.b)=r):cE s rs (n+1) d m k b =
 ⟨(m+l.es.length+r.es.length:Nat),l.es++r.es++[⟨c,zb s k b,d,0,0,l.ims,r.idx⟩],zc s 41 r.k r.b,zj s 41 r.k r.b⟩:=by
 subst hk1 hb1 hl hr
 rcases hc with rfl | rfl | rfl | rfl<;>(simp only [cE,h];rfl)
end
theorem ld6 {w w':World} {B:Nat} {a b c d e f:Value} {t:TypeId} {fr:Nat×Nat} (h:w.heap[B]?=some (Q #[a,b,c,d,e,f] t fr)) (hk:w'.heap[B]?=w.heap[B]?):w'.cell? ⟨B,0,none⟩=some a/\w'.cell? ⟨B,1,none⟩=some b/\w'.cell? ⟨B,2,none⟩=some c/\w'.cell? ⟨B,3,none⟩=some d/\w'.cell? ⟨B,4,none⟩=some e/\w'.cell? ⟨B,5,none⟩=some f:=by
 have h':=hk.trans h
 refine ⟨?_,?_,?_,?_,?_,?_⟩<;>(rw [cell_of_row _ _ _ _ _ _ h'];rfl)
theorem ld3 {w:World} {B:Nat} {a b c:Value} {t:TypeId} (h:w.heap[B]?=some (Q #[a,b,c] t (0,0))):w.cell? ⟨B,0,none⟩=some a/\w.cell? ⟨B,1,none⟩=some b/\w.cell? ⟨B,2,none⟩=some c/\w.frozen? ⟨B,0,none⟩=false/\w.frozen? ⟨B,1,none⟩=false/\w.frozen? ⟨B,2,none⟩=false:=by
 refine ⟨?_,?_,?_,?_,?_,?_⟩
 all_goals first | (rw [cell_of_row _ _ _ _ _ _ h];rfl) | simp [World.frozen?,h]
theorem zaP {w:World} {base e size:Nat} {v:Value} {n:Nat} {xs:List Value} {B:Nat} (h:w.ownsRow base e size v n xs) (hne:v.ownBlock≠some B) (x y z:Value):(((w.setCell ⟨B,0,none⟩ x).setCell ⟨B,1,none⟩ y).setCell ⟨B,2,none⟩ z).ownsRow base e size v n xs :=
 zh h (fun g hg=>by
  have hgn:g≠B:=fun e=>hne (by rw [<- e];exact hg)
  rw [za hgn,za hgn,za hgn])
end Go.Proofs.YtaebngpoagjafabGreat
