import Derived.Test.YtaebngpoagjafabGreatU09
set_option maxRecDepth 100000
set_option maxHeartbeats 800000
namespace Go.Proofs.YtaebngpoagjafabGreat
open Obj renaming cells → Q
open Value renaming int → J, slice → O
open IntKind renaming i64 → Z
open Go.RowKit
attribute [local go_sem ↓] Go.wp_at_zero Go.wp_at_succ
theorem Tryz.infoItem:(Tryz.prog.info? 155).map (fun i=>(i.zero,i.size,i.bytes))=some (some (.agg #[J Z 0,J Z 0,J Z 0,J Z 0,J Z 0,J Z 0,J Z 0]),7,56):=by kernel_rfl
def ZK (ex:Int->Nat->Nat->Bool->CR) (s:ByteArray):Prop:=∀ d m k b,k<=s.size->k<=(ex d m k b).k/\(ex d m k b).k<=s.size/\(ex d m k b).es.length+k<=(ex d m k b).k
theorem Zk {ex:Int->Nat->Nat->Bool->CR} {s:ByteArray} (hX:ZK ex s) (kind d:Int) (m k:Nat) (b:Bool) (hk:k<=s.size) :
 k<=(zv ex s kind d m k b).k/\(zv ex s kind d m k b).k<=s.size/\(zv ex s kind d m k b).es.length+k<=(zv ex s kind d m k b).k:=by
 have a:=zM (b:=b) hk
 have i:=yg s k b
 unfold zv
 generalize zb s k b=p at *
 simp only
 split
 ·have f:=xT (b:=b) a
  have e:=zi s 58 (btK s p b) (btX s p b)
  have h:=hX (d+1) m (zc s 58 (btK s p b) (btX s p b)) (zj s 58 (btK s p b) (btX s p b)) (zs (by decide) (xS a))
  simp only
  omega
 ·split
  ·have f:=z5 (b:=b) a
   have e:=zi s 58 (zo s p b) (zw s p b)
   have h:=hX (d+1) m (zc s 58 (zo s p b) (zw s p b)) (zj s 58 (zo s p b) (zw s p b)) (zs (by decide) (ya a))
   simp only
   omega
  ·split
   ·have f:=z5 (b:=b) a
    have e:=zi s 42 (zo s p b) (zw s p b)
    have g:=zs (c:=42) (b:=zw s p b) (by decide) (ya (b:=b) a)
    have h:=z5 (b:=zj s 42 (zo s p b) (zw s p b)) g
    have j:=ya (b:=zj s 42 (zo s p b) (zw s p b)) g
    simp only [List.length_nil]
    omega
   ·have f:=z5 (b:=b) a
    have e:=ya (b:=b) a
    simp only [List.length_nil]
    omega
def X3 (ex:Int->Nat->Nat->Bool->CR):Prop:=∀ d m k,(ex d m k true).b=true
theorem QJ {ex:Int->Nat->Nat->Bool->CR} {s:ByteArray} (hX:X3 ex) (kind d:Int) (m k:Nat) {b:Bool} (hb:b=true):(zv ex s kind d m k b).b=true:=by
 subst hb
 unfold zv
 simp only [jm,qM,XA]
 split
 ·exact hX _ _ _
 ·split
  ·exact hX _ _ _
  ·split<;>rfl
structure CL where
 ims:List IM
 es:List EX
 k:Nat
 b:Bool
def zd (ex:Int->Nat->Nat->Bool->CR) (s:ByteArray) (kind d:Int):Nat->Nat->Nat->Bool->CL
 | 0,_,k,b=>⟨[],[],k,b⟩
 | n+1,m,k,b =>
  let r:=zv ex s kind d m k b
  if zZ s 44 r.k r.b=true then
   let q:=zd ex s kind d n (m+r.es.length) (zc s 44 r.k r.b) r.b
   ⟨r.im::q.ims,r.es++q.es,q.k,q.b⟩
  else ⟨[r.im],r.es,zc s 44 r.k r.b,r.b⟩
def yo (c:Int):Prop:=c=123\/c=102\/c=119\/c=103\/c=109
theorem zbo (ex:Int->Nat->Nat->Bool->CR) (base B:Nat) (s:ByteArray) (c d:Int) (k:Nat) (b:Bool) (ev rv:Value) (es:List (EX×Value)) (rs:List RL) (w:World) (n:Nat) (hX:Y9 ex s base B rs n) (h0:0<=d) (h1:d+1<=k) (hl:es.length<=k) (hn:b=true\/s.size-k<n) (hs:s.size<=2000) (hk:k<=s.size) (hc:yo c) (h:PM w base B s k b ev rv es rs) (R:CI) (hR:Hid (zv ex s c d es.length k b=R)) :
 Calls Tryz.prog 170 #[.pointer (some ⟨B,0,none⟩),J .u8 c,J Z d] w fun e w'=>e=.returned (.agg #[J Z R.im.at_,J Z R.im.num,J Z R.im.pv,J Z R.im.pl,J Z R.im.wv,J Z R.im.wa,J Z R.im.arm])/\∃ ev' new,new.map Prod.fst=R.es/\PM w' base B s R.k R.b ev' rv (es++new) rs/\Mv base B ev rv ev' rv w w'/\∀ p∈new,∀ g,p.2.ownBlock=some g->w.heap.size<=g:=by
 rcases hc with rfl | rfl | rfl | rfl | rfl
 ·exact jc ex base B s d k b ev rv es rs w hs hk h R hR
 ·exact JO ex base B s d k b ev rv es rs w hs hk h R hR
 ·exact zbl ex base B s d k b ev rv es rs w hs hk h R hR
 ·exact jX ex base B s d k b ev rv es rs w n hX h0 h1 hl hn hs hk h R hR
 ·exact zbm ex base B s d k b ev rv es rs w n hX h0 h1 hl hn hs hk h R hR
theorem zh {w w':World} {base e size:Nat} {v:Value} {n:Nat} {xs:List Value} (h:w.ownsRow base e size v n xs) (hk:∀ g,v.ownBlock=some g->w'.heap[g]?=w.heap[g]?):w'.ownsRow base e size v n xs:=by
 refine ⟨h.1,?_⟩
 rcases h.2 with h0 | ⟨g,cap,cur,rfl,h1,h2,h3⟩
 ·exact .inl h0
 ·exact .inr ⟨g,cap,cur,rfl,h1,(hk g rfl).trans h2,h3⟩
theorem zY {w:World} {base e size e2 size2:Nat} {v v2:Value} {n n2:Nat} {xs xs2:List Value} (h:w.ownsRow base e size v n xs) (h2:w.ownsRow base e2 size2 v2 n2 xs2) (hne:e≠e2):v.ownBlock=none\/v.ownBlock≠v2.ownBlock:=by
 rcases h.2 with ⟨rfl,_⟩ | ⟨g,cap,cur,rfl,_,hg,_⟩
 ·exact .inl rfl
 ·right
  intro e
  have:=zk h2 hg hne
  exact this e.symm
theorem PM.grown {w w':World} {base B s k b ev rv es rs} (h:PM w base B s k b ev rv es rs) {v:Value} {n:Nat} {xs:List Value} (hrow:w.ownsRow base 155 7 v n xs) (hg:w.grownBy w' v.ownBlock) (hF:∀ g,v.ownBlock=some g->Fre g es):PM w' base B s k b ev rv es rs :=
 ⟨(hg.block B h.lt (fun e=>zk hrow h.blk (by decide) e.symm)).trans h.blk,h.ex.kept hg (zY h.ex hrow (by decide)),h.rl.kept hg (zY h.rl hrow (by decide)),fun p hp=>(h.it p hp).kept hg (by
  cases hv:v.ownBlock with
  | none=>cases hq:p.2.ownBlock with
   | none=>exact .inl rfl
   | some q=>exact .inr (by simp)
  | some g=>exact .inr (hF g hv p hp)),h.hB⟩
theorem PM.outI {w:World} {base B s k b ev rv es rs} (h:PM w base B s k b ev rv es rs) {v:Value} {n:Nat} {xs:List Value} (hrow:w.ownsRow base 155 7 v n xs) {g:Nat} (hg:v.ownBlock=some g):Out B ev rv g :=
 ⟨fun e=>zk hrow h.blk (by decide) (by rw [hg,e]),fun e=>(by
  rcases zY h.ex hrow (by decide) with h | h
  ·rw [h] at e;cases e
  ·exact h (e.trans hg.symm)),fun e=>(by
  rcases zY h.rl hrow (by decide) with h | h
  ·rw [h] at e;cases e
  ·exact h (e.trans hg.symm))⟩
theorem Mv.grown {base B:Nat} {a b c d:Value} {w w1 w2:World} (h:Mv base B a b c d w w1) {row:Option Nat} (hg:w1.grownBy w2 row) (hb:base<=w1.heap.size) (hr:∀ g,row=some g->w.heap.size<=g/\base<=g):Mv base B a b c d w w2 :=
 ⟨h.bel.grown hg hb (fun q hq=>(hr q hq).2),fun x hx ho=>⟨(hg.block x (Nat.lt_of_lt_of_le hx h.bel.size) (fun e=>by have:=(hr x e.symm).1;omega)).trans (h.kept x hx ho).1,(h.kept x hx ho).2⟩⟩
theorem zu {w:World} {k:Nat} (o:Obj) (h:k=w.heap.size):(w.alloc o).heap[k]?=some o:=by subst h;exact heap_alloc_new w o
theorem QA (ex:Int->Nat->Nat->Bool->CR) (base B:Nat) (s:ByteArray) (c d:Int) (k:Nat) (b:Bool) (ev rv:Value) (es:List (EX×Value)) (rs:List RL) (w:World) (n:Nat) (hX:Y9 ex s base B rs n) (hM:ZK ex s) (hB:X3 ex) (h0:0<=d) (h1:d+1<=k) (hl:es.length<=k) (hn:b=true\/s.size-k<n) (hs:s.size<=2000) (hk:k<=s.size) (hc:yo c) (h:PM w base B s k b ev rv es rs) (R:CL) (hR:Hid (zd ex s c d (s.size+1-k) es.length k b=R)) :
 Calls Tryz.prog 160 #[.pointer (some ⟨B,0,none⟩),J .u8 c,J Z d] w fun e w'=>∃ v ev' new,e=.returned v/\new.map Prod.fst=R.es/\PM w' base B s R.k R.b ev' rv (es++new) rs/\Mv base B ev rv ev' rv w w'/\(∀ p∈new,∀ g,p.2.ownBlock=some g->w.heap.size<=g) /\
  w'.ownsRow base 155 7 v R.ims.length (imC R.ims)/\(∀ g,v.ownBlock=some g->w.heap.size<=g/\Fre g (es++new)):=by
 obtain ⟨i0,c7,c5,b9,b8⟩:=info_parts Tryz.infoItem
 go_enter Tryz.func160,Tryz.ntmps160
 go_wp2_with fail
 have d4:Hid (PM (w.alloc (Q #[] 155)) base B s k b ev rv (es++[]) rs):=by show PM _ _ _ _ _ _ _ _ _ _;rw [List.append_nil];exact h.alloc _
 have d7:Hid (Mv base B ev rv ev rv w (w.alloc (Q #[] 155))):=Mv.alloc h.bs _
 have d1:Hid ((w.alloc (Q #[] 155)).ownsRow base 155 7 (O (some ⟨w.heap.size,0,none⟩) 0 0) 0 (imC [])):=⟨rfl,.inr ⟨w.heap.size,0,#[],rfl,h.bs,heap_alloc_new w _,Nat.le_refl _,by decide,rfl,rfl⟩⟩
 have d8:Hid (Fre w.heap.size (es++[])):=by show Fre _ _;rw [List.append_nil];exact h.fre (Nat.le_refl _)
 have e9:=h.bs
 clear h
 have e8:0<=c/\c<256:=by rcases hc with rfl | rfl | rfl | rfl | rfl<;>omega
 go_loopg [7,8] (s.size+2-k) (fun n lv mv wr=>∃ (f:Nat) (j:Nat) (q:Bool) (a:List IM) (ev':Value) (new:List (EX×Value)),j<=s.size/\k<=j/\new.length+k<=j/\(b=true->q=true) /\
  ((mv=.bool true/\n=f+1/\s.size+1<=f+j/\a.length<=j/\Hid (R=⟨a++(zd ex s c d f (es++new).length j q).ims,new.map Prod.fst++(zd ex s c d f (es++new).length j q).es,(zd ex s c d f (es++new).length j q).k,(zd ex s c d f (es++new).length j q).b⟩))\/(mv=.bool false/\n=0/\Hid (R=⟨a,new.map Prod.fst,j,q⟩))) /\
  PM wr base B s j q ev' rv (es++new) rs/\Mv base B ev rv ev' rv w wr/\(∀ p∈new,∀ g,p.2.ownBlock=some g->w.heap.size<=g)/\wr.ownsRow base 155 7 lv a.length (imC a)/\(∀ g,lv.ownBlock=some g->w.heap.size<=g/\Fre g (es++new)))
 case atStart =>
  refine ⟨s.size+1-k,k,b,[],ev,[],hk,Nat.le_refl _,by simp,fun h=>h,.inl ⟨rfl,by omega,by omega,by simp,?_⟩,d4.out,d7.out,by simp,d1.out,fun g hg=>by simp [Value.ownBlock] at hg;subst hg;exact ⟨Nat.le_refl _,d8.out⟩⟩
  show _=_
  rw [<- hR.out]
  simp
 case round =>
  obtain ⟨f,j,q,a,ev',new,a6,e7,e5,Y,V,E,hm,a7,I,a5⟩:=hrel
  have HP:Hid (PM wr base B s j q ev' rv (es++new) rs):=E
  have HM:Hid _:=hm
  have b7:Hid _:=a7
  have C:Hid (wr.ownsRow base 155 7 u7 a.length (imC a)):=I
  have b6:Hid _:=a5
  clear E hm a7 I a5
  rcases V with ⟨rfl,hgk,hfk,hdl,HE⟩ | ⟨rfl,hgk,HE⟩
  ·obtain ⟨f,rfl⟩:∃ f',f=f'+1:=⟨f-1,by omega⟩
   have c8:(es++new).length<=j:=by simp only [List.length_append];omega
   have c6:q=true\/s.size-j<n:=by
    rcases hn with hn | hn
    ·exact .inl (Y hn)
    ·exact .inr (by omega)
   have a4:=Zk hM c d (es++new).length j q a6
   generalize hr:zv ex s c d (es++new).length j q=r at *
   have H:Hid (R=if zZ s 44 r.k r.b=true then ⟨a++r.im::(zd ex s c d f ((es++new).length+r.es.length) (zc s 44 r.k r.b) r.b).ims,new.map Prod.fst++(r.es++(zd ex s c d f ((es++new).length+r.es.length) (zc s 44 r.k r.b) r.b).es),(zd ex s c d f ((es++new).length+r.es.length) (zc s 44 r.k r.b) r.b).k,(zd ex s c d f ((es++new).length+r.es.length) (zc s 44 r.k r.b) r.b).b⟩ else ⟨a++[r.im],new.map Prod.fst++r.es,zc s 44 r.k r.b,r.b⟩):=by
    show _=_
    rw [HE.out]
    simp only [zd,hr]
    split<;>rfl
   have d3:Hid _:=hr
   have L:q=true->r.b=true:=fun h=>by rw [<- hr];exact QJ hB c d _ j h
   clear HE hr
   go_wp2_with fail
   refine (zbo ex base B s c d j q ev' rv (es++new) rs _ n hX h0 (by omega) c8 c6 hs a6 hc HP.out r d3).mono ?_
   rintro e F ⟨rfl,o,i,l,x,G,y⟩
   have b1:Hid (F.ownsRow base 155 7 u7 a.length (imC a)):=zh C.out (fun g hg=>(G.kept g (C.out.lt g hg).2 (HP.out.outI C.out hg)).1)
   have b4:Hid (PM ((F.alloc (Q #[J Z r.im.at_,J Z r.im.num,J Z r.im.pv,J Z r.im.pl,J Z r.im.wv,J Z r.im.wa,J Z r.im.arm] 155)).alloc (Q #[J Z r.im.at_,J Z r.im.num,J Z r.im.pv,J Z r.im.pl,J Z r.im.wv,J Z r.im.wa,J Z r.im.arm] 155)) base B s r.k r.b o rv (es++(new++i)) rs):=by show PM _ _ _ _ _ _ _ _ _ _;rw [<- List.append_assoc];exact (x.alloc _).alloc _
   have d6:Hid (Mv base B ev rv o rv w ((F.alloc (Q #[J Z r.im.at_,J Z r.im.num,J Z r.im.pv,J Z r.im.pl,J Z r.im.wv,J Z r.im.wa,J Z r.im.arm] 155)).alloc (Q #[J Z r.im.at_,J Z r.im.num,J Z r.im.pv,J Z r.im.pl,J Z r.im.wv,J Z r.im.wa,J Z r.im.arm] 155))):=((HM.out.trans G).trans (Mv.alloc x.bs _)).trans (Mv.alloc (x.alloc _).bs _)
   have A:Hid (((F.alloc (Q #[J Z r.im.at_,J Z r.im.num,J Z r.im.pv,J Z r.im.pl,J Z r.im.wv,J Z r.im.wa,J Z r.im.arm] 155)).alloc (Q #[J Z r.im.at_,J Z r.im.num,J Z r.im.pv,J Z r.im.pl,J Z r.im.wv,J Z r.im.wa,J Z r.im.arm] 155)).ownsRow base 155 7 u7 a.length (imC a)):=(b1.out.alloc _).alloc _
   have U:Hid (∀ p∈new++i,∀ g,p.2.ownBlock=some g->w.heap.size<=g):=fun p E g hg=>by
    rcases List.mem_append.1 E with E | E
    ·exact b7.out p E g hg
    ·exact Nat.le_trans HM.out.bel.size (y p E g hg)
   have D:Hid (∀ g,u7.ownBlock=some g->w.heap.size<=g/\Fre g (es++(new++i))):=fun g hg=>by
    have h1:=b6.out g hg
    refine ⟨h1.1,?_⟩
    rw [<- List.append_assoc]
    exact h1.2.app (fun p E e=>by have h2:=y p E g e;have h3:=(C.out.lt g hg).2;omega)
   have P:Hid ((new++i).map Prod.fst=new.map Prod.fst++r.es):=by show _=_;rw [List.map_append,l]
   have f0:base<=F.heap.size:=x.bs
   have d0:Hid (a.length+1<=maxLen):=by show _<=_;unfold maxLen;omega
   have c9:Hid ((a.length+1)*56<=140737488355328):=by show _<=_;omega
   have a9:Hid (base<=((F.alloc (Q #[J Z r.im.at_,J Z r.im.num,J Z r.im.pv,J Z r.im.pl,J Z r.im.wv,J Z r.im.wa,J Z r.im.arm] 155)).alloc (Q #[J Z r.im.at_,J Z r.im.num,J Z r.im.pv,J Z r.im.pl,J Z r.im.wv,J Z r.im.wa,J Z r.im.arm] 155)).heap.size):=by show _<=_;simp;omega
   have a3:Hid (∀ u∈imV r.im,u.oneCell'=true):=fun u hu=>by simp [imV] at hu;rcases hu with rfl | rfl | rfl | rfl | rfl | rfl | rfl<;>rfl
   have X:Hid (i.length=r.es.length):=by show _=_;rw [<- l,List.length_map]
   have d2:Hid (w.heap.size<=F.heap.size):=Nat.le_trans HM.out.bel.size G.bel.size
   clear x G l y
   go_wp2_with (at_builtin;refine wpList_append_lies _ rfl _ _ 146 rfl base 155 i0 _ 7 56 Tryz.underlying146 c7 c5 b9 b8 rfl (by decide) u7 _ _ rfl A.out ⟨F.heap.size+1,0,none⟩ 1 1 (imV r.im) rfl rfl (World.news_of_block (cs:=#[J Z r.im.at_,J Z r.im.num,J Z r.im.pv,J Z r.im.pl,J Z r.im.wv,J Z r.im.wa,J Z r.im.arm]) (t:=155) (fr:=(0,0)) (zu _ (by simp))) a3.out (Nat.lt_succ_self 0) d0.out c9.out a9.out (F.heap.size+2) (by simp) ?_;intro g b0 w4 K m a8 d9)
   have e1:imC (a++[r.im])=imC a++imV r.im:=by simp [imC]
   have e2:(a++[r.im]).length=a.length+1:=by simp
   have z:Hid (w4.ownsRow base 155 7 (O (some ⟨g,0,none⟩) (a.length+1) b0) (a++[r.im]).length (imC (a++[r.im]))):=by show World.ownsRow _ _ _ _ _ _ _;rw [e1,e2];exact K
   have b3:Hid (PM w4 base B s r.k r.b o rv (es++(new++i)) rs):=b4.out.grown A.out m (fun g hg=>(D.out g hg).2)
   have d5:Hid (Mv base B ev rv o rv w w4):=d6.out.grown m a9.out (fun g hg=>⟨(D.out g hg).1,(A.out.lt g hg).1⟩)
   have S:Hid (w.heap.size<=g/\Fre g (es++(new++i))):=by
    rcases a8 with h | h
    ·exact D.out g h
    ·have:=d2.out
     exact ⟨by omega,b4.out.fre (by simp;omega)⟩
   clear K m a8 e1 e2
   refine (qw base B s 44 r.k r.b o rv _ rs _ hs a4.2.1 (by decide) b3.out).mono ?_
   rintro e w5 ⟨rfl,a2,W⟩
   have b2:Hid _:=a2
   have b5:Hid _:=d5.out.trans W
   have N:Hid (w5.ownsRow base 155 7 (O (some ⟨g,0,none⟩) (a.length+1) b0) (a++[r.im]).length (imC (a++[r.im]))):=zh z.out (fun g' hg=>(W.kept g' (z.out.lt g' hg).2 (b3.out.outI z.out hg)).1)
   have e6:=X.out
   have e4:=zi s 44 r.k r.b
   have a1:zc s 44 r.k r.b<=s.size:=zs (by decide) a4.2.1
   clear a2 W
   cases ht:zZ s 44 r.k r.b with
   | true =>
    have e0:r.k+1<=zc s 44 r.k r.b:=by
     unfold zc;rw [if_pos ht];have:=yg s r.k r.b;omega
    have a0:Hid (R=⟨(a++[r.im])++(zd ex s c d f (es++(new++i)).length (zc s 44 r.k r.b) r.b).ims,(new++i).map Prod.fst++(zd ex s c d f (es++(new++i)).length (zc s 44 r.k r.b) r.b).es,(zd ex s c d f (es++(new++i)).length (zc s 44 r.k r.b) r.b).k,(zd ex s c d f (es++(new++i)).length (zc s 44 r.k r.b) r.b).b⟩):=by
     show _=_
     have e3:(es++(new++i)).length=(es++new).length+r.es.length:=by simp only [List.length_append];omega
     rw [H.out,if_pos ht,e3,P.out]
     simp
    clear H ht
    go_wp2_with fail
    go_roundg (f+1)
    case measure=>omega
    case rel=>exact ⟨f,zc s 44 r.k r.b,r.b,a++[r.im],o,new++i,a1,by omega,by simp only [List.length_append];omega,fun h=>L (Y h),.inl ⟨rfl,rfl,by omega,by simp;omega,a0⟩,b2.out,b5.out,U.out,N.out,fun g' hg=>by simp [Value.ownBlock] at hg;subst hg;exact S.out⟩
   | false =>
    have a0:Hid (R=⟨a++[r.im],(new++i).map Prod.fst,zc s 44 r.k r.b,r.b⟩):=by
     show _=_
     rw [H.out,if_neg (by rw [ht];decide),P.out]
    clear H ht
    go_wp2_with fail
    go_roundg 0
    case measure=>omega
    case rel=>exact ⟨0,zc s 44 r.k r.b,r.b,a++[r.im],o,new++i,a1,by omega,by simp only [List.length_append];omega,fun h=>L (Y h),.inr ⟨rfl,rfl,a0⟩,b2.out,b5.out,U.out,N.out,fun g' hg=>by simp [Value.ownBlock] at hg;subst hg;exact S.out⟩
  ·go_wp2_with fail
   go_ret
   refine ⟨_,ev',new,rfl,?_,?_,HM.out,b7.out,?_,b6.out⟩
   ·rw [HE.out]
   ·rw [HE.out];exact HP.out
   ·rw [HE.out];exact C.out
theorem yq {w w':World} (h:Below w.heap.size w w') {p:Addr} {v:Value} (hc:w.cell? p=some v):w'.cell? p=some v:=by
 rw [h.cell (Nat.lt_of_not_le fun hn=>by
  have:w.heap[p.block]?=none:=Array.getElem?_eq_none_iff.2 hn
  simp [World.cell?,this] at hc)]
 exact hc
def isK (c:Int):Bool:=c==123 || c==119 || c==102 || c==109 || c==103 || c==116 || c==64 || c==61
theorem ZG (c:Int) (w:World):Calls Tryz.prog 159 #[J .u8 c] w fun e w'=>w'=w/\e=.returned (.bool (isK c)):=by
 have a:Hid (isK c=(c==123 || c==119 || c==102 || c==109 || c==103 || c==116 || c==64 || c==61)):=rfl
 cases h1:(c==123)<;>cases h2:(c==119)<;>cases h3:(c==102)<;>cases h4:(c==109)<;>cases h5:(c==103)<;>cases h6:(c==116)<;>cases h7:(c==64)<;>cases h8:(c==61)<;>first
  | (exfalso;simp only [beq_iff_eq] at *;omega)
  | (go_enter Tryz.func159,Tryz.ntmps159
     go_wp2_with fail
     go_ret
     exact ⟨rfl,by rw [a.out,h1,h2,h3,h4,h5,h6,h7,h8];rfl⟩)
def yn (v:Int):List RL->Int
 | []=>-1
 | r::l=>if r.nv=v then r.ex else yn v l
def RV (w:World) (v:Value) (rs:List RL):Prop:=(v=O none 0 0/\rs=[])\/∃ g cap,v=O (some ⟨g,0,none⟩) rs.length cap/\∀ i r,rs[i]?=some r->w.cell? ⟨g,i*3,none⟩=some (J Z r.nv)/\w.cell? ⟨g,i*3+1,none⟩=some (J Z r.na)/\w.cell? ⟨g,i*3+2,none⟩=some (J Z r.ex)
theorem qP (v:Value) (x:Int) (rs:List RL) (w:World) (hl:rs.length<=100000) (h:RV w v rs) :
 Calls Tryz.prog 88 #[v,J Z x] w fun e w'=>Below w.heap.size w w'/\e=.returned (J Z (yn x rs)):=by
 have a:∀ (i:Nat),i<rs.length->∃ r,rs[i]?=some r:=fun i hi=>⟨rs[i],List.getElem?_eq_getElem hi⟩
 rcases h with ⟨rfl,rfl⟩ | ⟨g,cap,rfl,hc⟩
 ·go_enter Tryz.func88,Tryz.ntmps88
  go_wp2_with fail
  go_loopg [9] 1 (fun n y wr=>y=J Z 0/\wr=w)
  case atStart=>exact ⟨rfl,rfl⟩
  case round =>
   obtain ⟨rfl,rfl⟩:=hrel
   go_wp2_with fail
   go_ret
   exact ⟨Below.refl _ _,rfl⟩
 ·have b:yn x (rs.drop 0)=yn x rs:=by rw [List.drop_zero]
  go_enter Tryz.func88,Tryz.ntmps88
  go_wp2_with fail
  go_loopg [9] rs.length (fun n y wr=>∃ (j:Nat),n+j=rs.length/\y=J Z j/\Hid (yn x (rs.drop j)=yn x rs)/\Below w.heap.size w wr)
  case atStart=>exact ⟨0,by omega,rfl,b,Below.refl _ _⟩
  case round =>
   obtain ⟨j,F,rfl,u,s⟩:=hrel
   have d:Hid (Below w.heap.size w wr):=s
   by_cases f:j<rs.length
   ·obtain ⟨r,m⟩:=a j f
    have A:(0:Int)<=(j:Int):=by omega
    have z:(j:Int)<(rs.length:Int):=by omega
    obtain ⟨q,p,o⟩:=hc j r m
    have E:=yq d.out q
    have D:=yq d.out p
    have C:=yq d.out o
    have l:Hid (yn x rs=if r.nv=x then r.ex else yn x (rs.drop (j+1))):=by
     show _=_
     rw [<- u.out,List.drop_eq_getElem_cons f]
     have:rs[j]=r:=by have:=List.getElem?_eq_getElem f;rw [m] at this;simpa using this.symm
     rw [this];rfl
    clear s hc q p o m a b
    cases he:(r.nv==x) with
    | true =>
     have k:Hid (yn x rs=r.ex):=by show _=_;rw [l.out,if_pos (by simpa using he)]
     go_wp2_with fail
     go_ret
     exact ⟨d.out.alloc d.out.size _,by rw [k.out];rfl⟩
    | false =>
     have k:Hid (yn x (rs.drop (j+1))=yn x rs):=by show _=_;rw [l.out,if_neg (by simpa using he)]
     go_wp2_with fail
     go_roundg (gk-1)
     case measure=>omega
     case rel=>exact ⟨j+1,by omega,by go_num,k,d.out.alloc d.out.size _⟩
   ·have G:¬ ((j:Int)<(rs.length:Int)):=by omega
    have B:((rs.length:Int))<=(j:Int):=by omega
    have l:Hid (yn x rs=-1):=by show _=_;rw [<- u.out,List.drop_eq_nil_of_le (by omega)];rfl
    go_wp2_with fail
    go_ret
    exact ⟨d.out,by rw [l.out];rfl⟩
theorem xD (c a d:Int) (w:World):(Instr.build 148 #[(0,J .u8 c),(1,J Z a),(2,J Z d),(5,J Z (-1))]).run Tryz.prog w=.ok (.agg #[J .u8 c,J Z a,J Z d,J Z 0,J Z 0,O none 0 0,J Z (-1)]) w:=run_build w 148 _ _ (by kernel_rfl)
theorem xw (base B:Nat) (s:ByteArray) (k:Nat) (b:Bool) (ev rv:Value) (es:List (EX×Value)) (rs:List RL) (w:World) (h:PM w base B s k b ev rv es rs) :
 Calls Tryz.prog 127 #[.pointer (some ⟨B,0,none⟩)] w fun e w'=>e=.returned (J .u8 (ze s k b))/\∃ n,w'=w.drewN n:=by
 have c0:=h.c0
 have c1:=h.c1
 have c2:=h.c2
 clear h
 cases b with
 | true =>
  go_enter Tryz.func127,Tryz.ntmps127
  go_wp2_with fail
  go_quiet (fail)
  go_wp2_with fail
  go_ret
  exact ⟨rfl,_,rfl⟩
 | false =>
  by_cases a:k<s.size
  ·have f:Hid (ze s k false=T.ch s k):=by show _=_;unfold ze;rw [if_neg (by decide),if_pos a]
   have g:(k:Int)<(s.size:Int):=by omega
   have d:decide ((s.size:Int)<=(k:Int))=false:=decide_eq_false (by omega)
   have i:((s[k]).toNat:Int)=T.ch s k:=(T.ch_lt a).symm
   go_enter Tryz.func127,Tryz.ntmps127
   go_wp2_with fail
   go_quiet (fail)
   go_wp2_with fail
   go_quiet (fail)
   go_wp2_with fail
   go_ret
   exact ⟨by rw [f.out];rfl,_,World.drewN_drewN _ _ _⟩
  ·have f:Hid (ze s k false=0):=by show _=_;unfold ze;rw [if_neg (by decide),if_neg a]
   have d:decide ((s.size:Int)<=(k:Int))=true:=decide_eq_true (by omega)
   go_enter Tryz.func127,Tryz.ntmps127
   go_wp2_with fail
   go_quiet (fail)
   go_wp2_with fail
   go_ret
   exact ⟨by rw [f.out];rfl,_,rfl⟩
theorem PM.below {w w':World} {base B s k b ev rv es rs} (h:PM w base B s k b ev rv es rs) (hb:Below w.heap.size w w'):PM w' base B s k b ev rv es rs :=
 ⟨(hb.block B h.lt).trans h.blk,zh h.ex (fun g hg=>hb.block g (h.ex.lt g hg).2),zh h.rl (fun g hg=>hb.block g (h.rl.lt g hg).2),fun p hp=>zh (h.it p hp) (fun g hg=>hb.block g ((h.it p hp).lt g hg).2),h.hB⟩
theorem zc0 {α:Type} (f:α->List Value) (n:Nat) (hf:∀ x,(f x).length=n) (ls:List α):∀ (i:Nat) (x:α) (j:Nat),ls[i]?=some x->j<n->(ls.flatMap f)[i*n+j]?=(f x)[j]?:=by
 induction ls with
 | nil=>intro i f j h;simp at h
 | cons g r ih =>
  intro i x j h a
  simp only [List.flatMap_cons]
  cases i with
  | zero =>
   simp at h
   subst h
   rw [Nat.zero_mul,Nat.zero_add,List.getElem?_append_left (by rw [hf];exact a)]
  | succ i =>
   simp at h
   have:=ih i x j h a
   have b:(i+1)*n=i*n+n:=Nat.succ_mul i n
   rw [List.getElem?_append_right (by rw [hf];omega),hf]
   have e:(i+1)*n+j-n=i*n+j:=by omega
   rw [e];exact this
theorem ye {w:World} {base e n g cap:Nat} {α:Type} (f:α->List Value) (hf:∀ x,(f x).length=n) {ls:List α} (h:w.ownsRow base e n (O (some ⟨g,0,none⟩) ls.length cap) ls.length (ls.flatMap f)) {i:Nat} {x:α} (hx:ls[i]?=some x) (j:Nat) (hj:j<n):w.cell? ⟨g,i*n+j,none⟩=(f x)[j]?:=by
 have a:i<ls.length:=(List.getElem?_eq_some_iff.1 hx).1
 have b:(i+1)*n<=ls.length*n:=Nat.mul_le_mul_right n a
 have d:(i+1)*n=i*n+n:=Nat.succ_mul i n
 rw [World.ownsRow.cellAt h (i*n+j) (by omega)]
 exact zc0 f n hf ls i x j hx hj
theorem PM.rvs {w:World} {base B s k b ev rv es rs} (h:PM w base B s k b ev rv es rs):RV w rv rs:=by
 have a:=h.rl
 rcases h.rl.2 with ⟨h1,h2⟩ | ⟨g,cap,cur,rfl,h1⟩
 ·exact .inl ⟨h1,List.eq_nil_of_length_eq_zero h2⟩
 ·exact .inr ⟨g,cap,rfl,fun i r hr=>⟨ye rlV (fun _=>rfl) a hr 0 (by decide),ye rlV (fun _=>rfl) a hr 1 (by decide),ye rlV (fun _=>rfl) a hr 2 (by decide)⟩⟩
def cE (s:ByteArray) (rs:List RL):Nat->Int->Nat->Nat->Bool->CR
 | 0,_,_,k,b=>⟨-1,[],zb s k b,true⟩
 | n+1,d,m,k,b =>
  let p:=zb s k b
  let c:=ze s p b
  if isK c=false then ⟨-1,[],p,true⟩
  else if c=123 then
   let l:=zd (cE s rs n) s 123 d (s.size+1-(p+1)) m (p+1) b
   ⟨(m+l.es.length:Nat),l.es++[⟨123,p,d,0,0,l.ims,-1⟩],zc s 125 l.k l.b,zj s 125 l.k l.b⟩
  else if c=116 then
   let k1:=zc s 40 (p+1) b
   let b1:=zj s 40 (p+1) b
   let k2:=zc s 44 (zo s k1 b1) (zw s k1 b1)
   let b2:=zj s 44 (zo s k1 b1) (zw s k1 b1)
   let r:=cE s rs n (d+1) m k2 b2
   ⟨(m+r.es.length:Nat),r.es++[⟨116,p,d,zJ s k1 b1,zb s k1 b1,[],r.idx⟩],zc s 41 r.k r.b,zj s 41 r.k r.b⟩
  else if c=64 then ⟨m,[⟨64,p,d,zJ s (p+1) b,zb s (p+1) b,[],-1⟩],zo s (p+1) b,zw s (p+1) b⟩
  else if c=61 then
   let q:=zb s (p+1) b
   ⟨m,[⟨61,p,d,ze s q b,q,[],yn (ze s q b) rs⟩],zQ s (p+1) b,zX s (p+1) b⟩
  else
   let k1:=zc s 40 (p+1) b
   let b1:=zj s 40 (p+1) b
   let l:=zd (cE s rs n) s c d (s.size+1-k1) m k1 b1
   let r:=cE s rs n (d+1) (m+l.es.length) (zc s 124 l.k l.b) (zj s 124 l.k l.b)
   ⟨(m+l.es.length+r.es.length:Nat),l.es++r.es++[⟨c,p,d,0,0,l.ims,r.idx⟩],zc s 41 r.k r.b,zj s 41 r.k r.b⟩
theorem zN {ex:Int->Nat->Nat->Bool->CR} {s:ByteArray} (hX:ZK ex s) (kind d:Int) (n m k:Nat) (b:Bool) (hk:k<=s.size) :
 k<=(zd ex s kind d n m k b).k/\(zd ex s kind d n m k b).k<=s.size/\(zd ex s kind d n m k b).es.length+k<=(zd ex s kind d n m k b).k:=by
 induction n generalizing m k b with
 | zero=>simp [zd,hk]
 | succ n ih =>
  have e:=Zk hX kind d m k b hk
  generalize hr:zv ex s kind d m k b=r at *
  have g:=zi s 44 r.k r.b
  have a:zc s 44 r.k r.b<=s.size:=zs (by decide) e.2.1
  have f:=ih (m+r.es.length) (zc s 44 r.k r.b) r.b a
  simp only [zd,hr]
  split
  ·simp only [List.length_append]
   omega
  ·simp only
   omega
theorem qZ {ex:Int->Nat->Nat->Bool->CR} {s:ByteArray} (hX:X3 ex) (kind d:Int) (n m k:Nat) {b:Bool} (hb:b=true):(zd ex s kind d n m k b).b=true:=by
 induction n generalizing m k b with
 | zero=>simpa [zd] using hb
 | succ n ih =>
  have a:=QJ (s:=s) hX kind d m k hb
  simp only [zd]
  split
  ·exact ih _ _ a
  ·exact a
theorem Yv (s:ByteArray) (k:Nat):ze s k true=0:=by simp [ze]
theorem Zh {s:ByteArray} {k:Nat} {b:Bool} (h:isK (ze s k b)=true):b=false/\k<s.size:=by
 unfold ze at h
 cases b with
 | true=>simp [isK] at h
 | false =>
  by_cases a:k<s.size
  ·exact ⟨rfl,a⟩
  ·simp [a,isK] at h
theorem Y6 (s:ByteArray) (rs:List RL) (n:Nat):X3 (cE s rs n):=fun d m k=>by
 cases n with
 | zero=>rfl
 | succ n=>simp only [cE,Yv];rfl
theorem Yg (s:ByteArray) (k:Nat) (b:Bool):k<=zQ s k b:=by
 unfold zQ
 have:=yg s k b
 split<;>omega
theorem yK (s:ByteArray) (rs:List RL) (n:Nat):ZK (cE s rs n) s:=by
 induction n with
 | zero=>intro d m k b e;have v:=yg s k b;have u:=zM (b:=b) e;simp [cE,u,v]
 | succ n ih =>
  intro d m k b e
  have v:=yg s k b
  have u:=zM (b:=b) e
  simp only [cE]
  generalize zb s k b=p at *
  split
  ·simp;omega
  ·next hK =>
   have f:isK (ze s p b)=true:=by simpa using hK
   have w:=(Zh f).2
   split
   ·have g:=zN ih 123 d (s.size+1-(p+1)) m (p+1) b (by omega)
    generalize zd (cE s rs n) s 123 d (s.size+1-(p+1)) m (p+1) b=l at *
    have q:=zi s 125 l.k l.b
    have o:=zs (c:=125) (b:=l.b) (by decide) g.2.1
    simp only [List.length_append,List.length_cons,List.length_nil]
    omega
   ·split
    ·have j:=zi s 40 (p+1) b
     have a:zc s 40 (p+1) b<=s.size:=zs (by decide) (by omega)
     generalize zc s 40 (p+1) b=k1 at *
     generalize zj s 40 (p+1) b=b1 at *
     have z:=z5 (b:=b1) a
     have y:=ya (b:=b1) a
     have x:=zi s 44 (zo s k1 b1) (zw s k1 b1)
     have i:=zs (c:=44) (b:=zw s k1 b1) (by decide) y
     have h:=ih (d+1) m (zc s 44 (zo s k1 b1) (zw s k1 b1)) (zj s 44 (zo s k1 b1) (zw s k1 b1)) i
     generalize cE s rs n (d+1) m (zc s 44 (zo s k1 b1) (zw s k1 b1)) (zj s 44 (zo s k1 b1) (zw s k1 b1))=r at *
     have q:=zi s 41 r.k r.b
     have o:=zs (c:=41) (b:=r.b) (by decide) h.2.1
     simp only [List.length_append,List.length_cons,List.length_nil]
     omega
    ·split
     ·have j:=z5 (s:=s) (k:=p+1) (b:=b) (by omega)
      have a:=ya (s:=s) (k:=p+1) (b:=b) (by omega)
      simp only [List.length_cons,List.length_nil]
      omega
     ·split
      ·have j:=Yg s (p+1) b
       have a:=xr (s:=s) (k:=p+1) (b:=b) (by omega)
       simp only [List.length_cons,List.length_nil]
       omega
      ·have j:=zi s 40 (p+1) b
       have a:zc s 40 (p+1) b<=s.size:=zs (by decide) (by omega)
       generalize zc s 40 (p+1) b=k1 at *
       generalize zj s 40 (p+1) b=b1 at *
       have g:=zN ih (ze s p b) d (s.size+1-k1) m k1 b1 a
       generalize zd (cE s rs n) s (ze s p b) d (s.size+1-k1) m k1 b1=l at *
       have x:=zi s 124 l.k l.b
       have i:=zs (c:=124) (b:=l.b) (by decide) g.2.1
       have h:=ih (d+1) (m+l.es.length) (zc s 124 l.k l.b) (zj s 124 l.k l.b) i
       generalize cE s rs n (d+1) (m+l.es.length) (zc s 124 l.k l.b) (zj s 124 l.k l.b)=r at *
       have q:=zi s 41 r.k r.b
       have o:=zs (c:=41) (b:=r.b) (by decide) h.2.1
       simp only [List.length_append,List.length_cons,List.length_nil]
       omega
section
theorem Tryz.infoExpr:(Tryz.prog.info? 148).map (fun i=>(i.zero,i.size,i.bytes))=some (some (.agg #[J .u8 0,J Z 0,J Z 0,J Z 0,J Z 0,O none 0 0,J Z 0]),7,72):=by kernel_rfl
theorem zV (w:World) (n:Nat) (o:Obj):(w.drewN n).alloc o=(w.alloc o).drewN n:=rfl
theorem zH (w:World) (n:Nat) (a:Addr) (v:Value):(w.drewN n).setCell a v=(w.setCell a v).drewN n:=rfl
theorem zB {w:World} {a:Addr} {v:Value} (h:w.cell? a=some v) (o:Obj):(w.alloc o).cell? a=some v:=by
 have b:a.block<w.heap.size:=Nat.lt_of_not_le fun hn=>by
  have:w.heap[a.block]?=none:=Array.getElem?_eq_none_iff.2 hn
  simp [World.cell?,this] at h
 rw [World.cell?_of_block (w:=w) (Below.heap_alloc w o a.block b)]
 exact h
theorem zt {w:World} {B i X:Nat} {v:Value} (hne:X≠B) (h:w.cell? ⟨B,i,none⟩=some v) (j:Nat) (u:Value):(w.setCell ⟨X,j,none⟩ u).cell? ⟨B,i,none⟩=some v:=by
 rw [World.cell?_of_block (w:=w) (za (fun e=>hne e.symm))]
 exact h
theorem PM.setE {w:World} {base B s k b ev rv es rs} (h:PM w base B s k b ev rv es rs) {c j:Nat} {u:Value} (hT:zI w c 148) (hF:ev.ownBlock≠some c):PM (w.setCell ⟨c,j,none⟩ u) base B s k b ev rv es rs:=by
 obtain ⟨f,d,a⟩:=hT
 refine ⟨?_,ownsRow_setCell_other h.ex hF _,ownsRow_setCell_other h.rl (zk h.rl a (by decide)) _,fun p hp=>ownsRow_setCell_other (h.it p hp) (zk (h.it p hp) a (by decide)) _,h.hB⟩
 rw [za (fun e=>by subst e;have:=h.blk;rw [a] at this;simp at this)]
 exact h.blk
theorem PM.pushE {w w4:World} {base B s k b ev rv es rs} (h:PM w base B s k b ev rv es rs) {v:Value} {e:EX} {n g cap:Nat} (hn:n=es.length) (hg:w.grownBy w4 ev.ownBlock) (hown:w4.ownsRow base 148 7 (O (some ⟨g,0,none⟩) (n+1) cap) (n+1) (exC es++exV (e,v)))
 (hrow:w.ownsRow base 155 7 v e.items.length (imC e.items)):PM (w4.setCell ⟨B,3,none⟩ (O (some ⟨g,0,none⟩) (n+1) cap)) base B s k b (O (some ⟨g,0,none⟩) (n+1) cap) rv (es++[(e,v)]) rs:=by
 subst hn
 have a:w4.heap[B]?=some (Q #[.string s,J Z k,.bool b,ev,rv] 104 (0,0)):=(hg.block B h.lt (fun e=>zk h.ex h.blk (by decide) e.symm)).trans h.blk
 have d:w4.ownsRow base 143 3 rv rs.length (rlC rs):=h.rl.kept hg (zY h.rl h.ex (by decide))
 have f:∀ (q:Value) (n:Nat) (xs:List Value),w.ownsRow base 155 7 q n xs->w4.ownsRow base 155 7 q n xs:=fun q n xs hq=>hq.kept hg (zY hq h.ex (by decide))
 have j:exC (es++[(e,v)])=exC es++exV (e,v):=by simp [exC]
 have i:(es++[(e,v)]).length=es.length+1:=by simp
 refine ⟨Yz a,?_,ownsRow_setCell_other d (zk d a (by decide)) _,fun p hp=>?_,h.hB⟩
 ·rw [j,i];exact ownsRow_setCell_other hown (zk hown a (by decide)) _
 ·rcases List.mem_append.1 hp with hp | hp
  ·have:=f _ _ _ (h.it p hp)
   exact ownsRow_setCell_other this (zk this a (by decide)) _
  ·simp at hp;subst hp
   have:=f _ _ _ hrow
   exact ownsRow_setCell_other this (zk this a (by decide)) _
theorem PM.pushMv {w w4:World} {base B s k b ev rv es rs} (h:PM w base B s k b ev rv es rs) {g n cap H:Nat} (hg:w.grownBy w4 ev.ownBlock) (hat:ev.ownBlock=some g\/g=H) (hH:w.heap.size<=H) :
 Mv base B ev rv (O (some ⟨g,0,none⟩) n cap) rv w (w4.setCell ⟨B,3,none⟩ (O (some ⟨g,0,none⟩) n cap)):=by
 refine ⟨((Below.refl _ _).grown hg h.bs (fun q hq=>(h.ex.lt q hq).1)).setCell h.hB _,fun x hx ho=>⟨?_,ho.1,?_,ho.2.2⟩⟩
 ·rw [za ho.1]
  exact hg.block x hx (fun e=>ho.2.1 e.symm)
 ·intro e
  simp [Value.ownBlock] at e
  subst e
  rcases hat with e | e
  ·exact ho.2.1 e
  ·omega
theorem PM.grown3 {w w9:World} {base B s k b ev rv es rs} (h:PM w base B s k b ev rv es rs) {o:Obj} (hg:((w.alloc o).drew).grownBy w9 ev.ownBlock):w9.cell? ⟨B,3,none⟩=some ev/\w9.frozen? ⟨B,3,none⟩=false:=by
 have a:=(h.alloc o).drew
 have d:=(hg.block B a.lt (fun e=>zk a.ex a.blk (by decide) e.symm)).trans a.blk
 exact ⟨by simp [World.cell?,d],by simp [World.frozen?,d]⟩
variable {s:ByteArray} {rs:List RL}
theorem Ja (n:Nat) (d:Int) (m k:Nat) (b:Bool) (h:isK (ze s (zb s k b) b)=false):cE s rs (n+1) d m k b=⟨-1,[],zb s k b,true⟩:=by
 simp only [cE,h,if_true]
theorem YP (n:Nat) (d:Int) (m k:Nat) (b:Bool) (h:ze s (zb s k b) b=123):cE s rs (n+1) d m k b =
 ⟨(m+(zd (cE s rs n) s 123 d (s.size+1-(zb s k b+1)) m (zb s k b+1) b).es.length:Nat),(zd (cE s rs n) s 123 d (s.size+1-(zb s k b+1)) m (zb s k b+1) b).es++[⟨123,zb s k b,d,0,0,(zd (cE s rs n) s 123 d (s.size+1-(zb s k b+1)) m (zb s k b+1) b).ims,-1⟩],zc s 125 (zd (cE s rs n) s 123 d (s.size+1-(zb s k b+1)) m (zb s k b+1) b).k (zd (cE s rs n) s 123 d (s.size+1-(zb s k b+1)) m (zb s k b+1) b).b,zj s 125 (zd (cE s rs n) s 123 d (s.size+1-(zb s k b+1)) m (zb s k b+1) b).k (zd (cE s rs n) s 123 d (s.size+1-(zb s k b+1)) m (zb s k b+1) b).b⟩:=by
 simp only [cE,h];rfl
theorem Xt (n:Nat) (d:Int) (m k:Nat) (b:Bool) (h:ze s (zb s k b) b=64):cE s rs (n+1) d m k b =
 ⟨m,[⟨64,zb s k b,d,zJ s (zb s k b+1) b,zb s (zb s k b+1) b,[],-1⟩],zo s (zb s k b+1) b,zw s (zb s k b+1) b⟩:=by
 simp only [cE,h];rfl
theorem qi (n:Nat) (d:Int) (m k:Nat) (b:Bool) (h:ze s (zb s k b) b=61):cE s rs (n+1) d m k b =
 ⟨m,[⟨61,zb s k b,d,ze s (zb s (zb s k b+1) b) b,zb s (zb s k b+1) b,[],yn (ze s (zb s (zb s k b+1) b) b) rs⟩],zQ s (zb s k b+1) b,zX s (zb s k b+1) b⟩:=by
 simp only [cE,h];rfl
theorem ji (n:Nat) (d:Int) (m k:Nat) (b:Bool) (h:ze s (zb s k b) b=116) {k1:Nat} {b1:Bool} (hk1:zc s 40 (zb s k b+1) b=k1) (hb1:zj s 40 (zb s k b+1) b=b1) {r:CR} (hr:cE s rs n (d+1) m (zc s 44 (zo s k1 b1) (zw s k1 b1)) (zj s 44 (zo s k1 b1) (zw s k1 b1))=r):cE s rs (n+1) d m k b =
 ⟨(m+r.es.length:Nat),r.es++[⟨116,zb s k b,d,zJ s k1 b1,zb s k1 b1,[],r.idx⟩],zc s 41 r.k r.b,zj s 41 r.k r.b⟩:=by
 subst hk1 hb1 hr
 simp only [cE,h];rfl
theorem qj (n:Nat) (d:Int) (m k:Nat) (b:Bool) {c:Int} (h:ze s (zb s k b) b=c) (hc:c=119\/c=102\/c=109\/c=103) {k1:Nat} {b1:Bool} (hk1:zc s 40 (zb s k b+1) b=k1) (hb1:zj s 40 (zb s k b+1) b=b1) {l:CL} (hl:zd (cE s rs n) s c d (s.size+1-k1) m k1 b1=l) {r:CR} (hr:cE s rs n (d+1) (m+l.es.length) (zc s 124 l.k l.b) (zj s 124 l.k l.b)=r):cE s rs (n+1) d m k b =
 ⟨(m+l.es.length+r.es.length:Nat),l.es++r.es++[⟨c,zb s k b,d,0,0,l.ims,r.idx⟩],zc s 41 r.k r.b,zj s 41 r.k r.b⟩:=by
 subst hk1 hb1 hl hr
 rcases hc with rfl | rfl | rfl | rfl<;>(simp only [cE,h];rfl)
end
end Go.Proofs.YtaebngpoagjafabGreat
