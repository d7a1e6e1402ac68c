import Derived.Test.YtaebngpoagjafabGreatAo
import Derived.BigQuiet
import Derived.Deep.AppendLies
import Derived.Deep.DrawnRows
import Derived.Deep.LoopGhost
import Derived.Deep.QuietTactic
import Derived.Deep.RegionHeld3
import Derived.Deep.RegionLaw
import Derived.Deep.RegionWith
import Derived.Laws.ResultCell
import Derived.Laws.Tables
import Derived.RangeFuncBox
import Derived.Test.YtaebngpoagjafabGreatRows
import Derived.WalkKit
import Derived.WalkLawsBesides
import Derived.WalkSmall
import Derived.WalkSpells
set_option maxRecDepth 100000
set_option maxHeartbeats 3200000
namespace Go.Proofs.YtaebngpoagjafabGreat
open Option renaming some → F,none → N
open Bool renaming false → P,true → E
open Proofs.Tryz renaming prog → A
open Proofs.Tryz
open Obj renaming cells → Q
open Value renaming int → J, slice → O
open IntKind renaming i64 → Z
open Go.RowKit
attribute [local go_sem ↓] Go.wp_at_zero Go.wp_at_succ
namespace T
def ch(s:ByteArray)(k:Nat):Int:=if h:k<s.size then((s[k]).toNat:Int)else -1
theorem ch_lt{s:ByteArray}{k:Nat}(h:k<s.size):ch s k=((s[k]).toNat:Int):=by unfold ch;rw[dif_pos h]
theorem ch_ge{s:ByteArray}{k:Nat}(h:¬k<s.size):ch s k=-1:=by unfold ch;rw[dif_neg h]
theorem ch_bd{s:ByteArray}{k:Nat}(h:k<s.size):0<=ch s k/\ch s k<256:=by
 rw[ch_lt h];have:=(s[k]).toNat_lt;omega
theorem ch_lo(s:ByteArray)(k:Nat):-1<=ch s k/\ch s k<256:=by
 by_cases h:k<s.size
 ·have:=ch_bd h;omega
 ·rw[ch_ge h];omega
def bl(c:Int):Bool:=c==32 || c==10
def skF(s:ByteArray):Nat->Nat->Nat
 |0,k=>k
 |n+1,k=>if bl (ch s k)=E then skF s n (k+1)else k
def sk(s:ByteArray)(k:Nat):Nat:=skF s (s.size-k) k
theorem bl_lt{s:ByteArray}{k:Nat}(h:bl (ch s k)=E):k<s.size:=by
 by_cases a:k<s.size
 ·exact a
 ·rw[ch_ge a]at h;simp[bl]at h
theorem sk_next{s:ByteArray}{k:Nat}(h:bl (ch s k)=E):sk s (k+1)=sk s k:=by
 have a:=bl_lt h;unfold sk;have e:s.size-k=(s.size-(k+1))+1:=ol;rw[e];simp only[skF];rw[if_pos h]
theorem sk_here{s:ByteArray}{k:Nat}(h:bl (ch s k)=P):sk s k=k:=by
 unfold sk;cases e:s.size-k with
 |zero=>rfl
 |succ n=>simp only[skF];rw[if_neg (by rw[h];decide)]
theorem skF_ge(s:ByteArray)(n:Nat):∀k,k<=skF s n k:=by
 induction n with
 |zero=>intro k;exact Nat.le_refl _
 | succ n ih =>
  intro k;simp only[skF];split
  ·have:=ih (k+1);omega
  ·exact Nat.le_refl _
theorem sk_ge(s:ByteArray)(k:Nat):k<=sk s k:=skF_ge s _ k
theorem skF_le(s:ByteArray)(n:Nat):∀k,k<=s.size->skF s n k<=s.size:=by
 induction n with
 |zero=>intro k h;exact h
 | succ n ih =>
  intro k h;simp only[skF];split
  ·next hb=>exact ih (k+1) (by have:=bl_lt hb;omega)
  ·exact h
theorem sk_le{s:ByteArray}{k:Nat}(h:k<=s.size):sk s k<=s.size:=skF_le s _ k h
theorem skF_bl(s:ByteArray)(n:Nat):∀k,s.size-k<=n->bl (ch s (skF s n k))=P:=by
 induction n with
 | zero =>
  intro k h;cases hb:bl (ch s k)with
  |false=>exact hb
  |true=>have:=bl_lt hb;omega
 | succ n ih =>
  intro k h;simp only[skF];split
  ·exact ih (k+1) ol
  ·next hb=>simpa using hb
theorem sk_bl(s:ByteArray)(k:Nat):bl (ch s (sk s k))=P:=skF_bl s _ k (Nat.le_refl _)
end T
structure FR where
 sym:Int
 kind:Int
 depth:Int
 list:Int
structure SG where
 kind:Int
 place:Int
 depth:Int
 list:Int
 text:ByteArray
def frV(f:FR):List Value:=[J Z f.sym,J Z f.kind,J Z f.depth,J Z f.list]
def sgV(g:SG):List Value:=[J Z g.kind,J Z g.place,J Z g.depth,J Z g.list,.string g.text]
def frA(f:FR):Value:=.agg #[J Z f.sym,J Z f.kind,J Z f.depth,J Z f.list]
def frC:List FR->List Value
 | []=>[]
 |f::r=>frC r++frV f
def sgC:List SG->List Value
 | []=>[]
 |g::r=>sgC r++sgV g
theorem zbe(l:List FR):(frC l).length=l.length*4:=by
 induction l with
 |nil=>rfl
 |cons f r ih=>simp[frC,frV,ih];omega
def Out(B:Nat)(sv gv:Value)(b:Nat):Prop:=b≠B/\sv.ownBlock≠F b/\gv.ownBlock≠F b
structure RS (w:World) (base B:Nat) (s:ByteArray) (k:Nat) (sv gv:Value) (fs:List FR) (gs:List SG):Prop where
 blk:w.heap[B]?=F (Q #[.string s,J Z k,sv,gv] 190 (0,0))
 st:w.ownsRow base 193 4 sv fs.length (frC fs)
 sg:w.ownsRow base 162 5 gv gs.length (sgC gs)
 hB:base<=B
structure Mv (base B:Nat) (sv gv sv' gv':Value) (w w':World):Prop where
 bel:Below base w w'
 kept:∀b,b<w.heap.size->Out B sv gv b->w'.heap[b]?=w.heap[b]?/\Out B sv' gv' b
theorem Mv.refl(base B:Nat)(a b:Value)(w:World):Mv base B a b a b w w:=⟨Below.refl _ _,λ_ _ h=>⟨rfl,h⟩⟩
theorem Mv.trans{base B:Nat}{a b c d e f:Value}{w i g:World}(h:Mv base B a b c d w i)(k:Mv base B c d e f i g):Mv base B a b e f w g :=
 ⟨h.bel.trans k.bel,λx hx ho=>by
  obtain⟨n,m⟩:=h.kept x hx ho;obtain⟨l,j⟩:=k.kept x (Nat.lt_of_lt_of_le hx h.bel.size) m;exact⟨l.trans n,j⟩⟩
theorem Mv.drewN{base B:Nat}{a b c d:Value}{w e:World}(h:Mv base B a b c d w e)(n:Nat):Mv base B a b c d w (e.drewN n):=⟨⟨h.bel.os,h.bel.tape,h.bel.output,h.bel.size,h.bel.block⟩,h.kept⟩
theorem RS.drewN{w:World}{base B s k sv gv fs gs}(h:RS w base B s k sv gv fs gs)(n:Nat):RS (w.drewN n) base B s k sv gv fs gs:=⟨h.blk,h.st,h.sg,h.hB⟩
theorem RS.lt{w:World}{base B s k sv gv fs gs}(h:RS w base B s k sv gv fs gs):B<w.heap.size:=lt_of_block h.blk
theorem RS.c0{w:World}{base B s k sv gv fs gs}(h:RS w base B s k sv gv fs gs):w.cell? ⟨B,0,N⟩=F (.string s):=by simp[World.cell?,h.blk]
theorem RS.c1{w:World}{base B s k sv gv fs gs}(h:RS w base B s k sv gv fs gs):w.cell? ⟨B,1,N⟩=F (J Z k):=by simp[World.cell?,h.blk]
theorem RS.c2{w:World}{base B s k sv gv fs gs}(h:RS w base B s k sv gv fs gs):w.cell? ⟨B,2,N⟩=F sv:=by simp[World.cell?,h.blk]
theorem RS.c3{w:World}{base B s k sv gv fs gs}(h:RS w base B s k sv gv fs gs):w.cell? ⟨B,3,N⟩=F gv:=by simp[World.cell?,h.blk]
theorem RS.fz{w:World}{base B s k sv gv fs gs}(h:RS w base B s k sv gv fs gs)(j:Nat):w.frozen? ⟨B,j,N⟩=P:=by simp[World.frozen?,h.blk]
theorem zi{w:World}{base e a B:Nat}{v:Value}{n:Nat}{f:List Value}{cs:Array Value}{t:TypeId}{fr:Nat×Nat}(h:w.ownsRow base e a v n f)(c:w.heap[B]?=F (Q cs t fr))(b:t≠e):v.ownBlock≠F B:=by
 rcases h.2 with⟨rfl,_⟩|⟨g,cap,cur,rfl,_,hg,_⟩
 ·simp[Value.ownBlock]
 ·intro d;simp[Value.ownBlock]at d;subst d;rw[hg]at c;simp at c;exact b c.2.1.symm
theorem RS.neS{w:World}{base B s k sv gv fs gs}(h:RS w base B s k sv gv fs gs):sv.ownBlock≠F B:=zi h.st h.blk oq
theorem RS.neG{w:World}{base B s k sv gv fs gs}(h:RS w base B s k sv gv fs gs):gv.ownBlock≠F B:=zi h.sg h.blk oq
theorem X9{w:World}{B j:Nat}{a b c d u:Value}{t:TypeId}(h:w.heap[B]?=F (Q #[a,b,c,d] t (0,0))):(w.setCell ⟨B,j,N⟩ u).heap[B]?=F (Q (#[a,b,c,d].setIfInBounds j u) t (0,0)):=by
 simp[World.setCell,Array.getElem?_modify,h]
theorem za{w:World}{B j b:Nat}{u:Value}(h:b≠B):(w.setCell ⟨B,j,N⟩ u).heap[b]?=w.heap[b]?:=Below.heap_setCell w _ u b h
theorem RS.at{w:World}{base B s k sv gv fs gs}(h:RS w base B s k sv gv fs gs)(a:Nat)(x:Int)(b:x=a):RS (w.setCell ⟨B,1,N⟩ (J Z x)) base B s a sv gv fs gs :=
 ⟨by rw[b];exact X9 h.blk,ownsRow_setCell_other h.st h.neS _,ownsRow_setCell_other h.sg h.neG _,h.hB⟩
theorem RS.atMv{w:World}{base B s k sv gv fs gs}(h:RS w base B s k sv gv fs gs)(x:Value):Mv base B sv gv sv gv w (w.setCell ⟨B,1,N⟩ x) :=
 ⟨(Below.refl _ _).setCell h.hB _,λ_ _ ho=>⟨za ho.1,ho⟩⟩
theorem RS.alloc{w:World}{base B s k sv gv fs gs}(h:RS w base B s k sv gv fs gs)(o:Obj):RS (w.alloc o) base B s k sv gv fs gs :=
 ⟨by rw[Below.heap_alloc _ _ _ h.lt];exact h.blk,h.st.alloc o,h.sg.alloc o,h.hB⟩
theorem Mv.alloc{base B:Nat}{a b:Value}{w:World}(c:base<=w.heap.size)(o:Obj):Mv base B a b a b w (w.alloc o) :=
 ⟨(Below.refl _ _).alloc c o,λ_ hlt ho=>⟨Below.heap_alloc _ _ _ hlt,ho⟩⟩
theorem RS.outNew{w:World}{base B s k sv gv fs gs}(h:RS w base B s k sv gv fs gs):Out B sv gv w.heap.size :=
 ⟨λe=>by have:=h.lt;omega,λe=>by have:=(h.st.lt _ e).2;omega,λe=>by have:=(h.sg.lt _ e).2;omega⟩
theorem RS.bs{w:World}{base B s k sv gv fs gs}(h:RS w base B s k sv gv fs gs):base<=w.heap.size:=Nat.le_trans h.hB (Nat.le_of_lt h.lt)
theorem zf8{k:IntKind}{a b:Int}(h:a=b):Ending.returned (.int k a)=.returned (.int k b):=by rw[h]
theorem ju(c:Int)(w:World):
 Calls A 139 #[J .u8 c] w λe w'=>e=.returned (.bool (T.bl c))/\w'=w:=by
 cases h1:(c==32)with
 | true =>
  have a:T.bl c=E:=by simp[T.bl,h1]
  rw[a];go_enter func139,ntmps139;go_wp2
  go_ret;exact⟨rfl,rfl⟩
 | false =>
  have a:T.bl c=(c==10):=by simp[T.bl,h1]
  rw[a];go_enter func139,ntmps139;go_wp2
  go_ret;exact⟨rfl,rfl⟩
theorem JU(b:Bool)(c:Int)(w:World)(h:T.bl c=b):
 Calls A 139 #[J .u8 c] w λe w'=>e=.returned (.bool b)/\w'=w:=by rw[<-h];exact ju c w
theorem zI(base B:Nat)(s:ByteArray)(k:Nat)(b c:Value)(m:List FR)(l:List SG)(w:World)(Q:s.size<=2000)(C:k<=s.size)(h:RS w base B s k b c m l):
 Calls A 135 #[.pointer (F ⟨B,0,N⟩)] w λe w'=>e=.returned (J Z (T.ch s (T.sk s k)))/\RS w' base B s (T.sk s k) b c m l/\Mv base B b c b c w w':=by
 go_enter func135,ntmps135;go_wp2
 go_loopg [24] (s.size-k) (λn _ wr=>∃j:Nat,k<=j/\j<=s.size/\n=s.size-j/\Hd (T.sk s j=T.sk s k)/\RS wr base B s j b c m l/\Mv base B b c b c w wr)
 case atStart=>exact⟨k,Nat.le_refl _,C,rfl,rfl,h,Mv.refl _ _ _ _ _⟩
 case round =>
  obtain⟨j,z,D,u,f,i,v⟩:=hrel;have V:=i.c0;have U:=i.c1;have O:=i.fz 1;have p:Hd (RS wr base B s j b c m l):=i;have t:Hd (Mv base B b c b c w wr):=v;have K:Hd (gk=s.size-j):=u;clear i v h u;by_cases d:j<s.size
  ·have x:(j:Int)<(s.size:Int):=(by omega);have G:((s[j]).toNat:Int)=T.ch s j:=(T.ch_lt d).symm;have r:=T.ch_bd d;obtain⟨I,H⟩:=r;cases g:T.bl (T.ch s j)with
   | true =>
    have a:Hd (T.sk s (j+1)=T.sk s k):=(T.sk_next g).trans f.o;go_wp2_with fail;go_quiet ((go_at_call 139;exact Calls.quiet_of_same (JU _ _ _ g)))
    go_wp2_with fail;go_roundg (s.size-(j+1))
    case measure=>rw[K.o];omega
    case rel=>exact⟨j+1,ol,ol,rfl,a,(p.o.drewN _).at (j+1) _ ol,(t.o.drewN _).trans ((p.o.drewN _).atMv _)⟩
   | false =>
    have a:Hd (T.sk s k=j):=f.o.symm.trans (T.sk_here g);have y:((j:Int)==(s.size:Int))=P:=(by rw[beq_eq_false_iff_ne];omega);go_wp2_with fail;go_quiet ((go_at_call 139;exact Calls.quiet_of_same (JU _ _ _ g)))
    go_wp2_with fail;go_quiet (fail)
    go_wp2_with fail;go_quiet (fail)
    go_wp2_with fail;go_ret;exact⟨zf8 (by rw[a.o]),by rw[a.o];exact((p.o.drewN _).drewN _).drewN _,((t.o.drewN _).drewN _).drewN _⟩
  ·have q:j=s.size:=(by omega);have g:T.bl (T.ch s j)=P:=(by rw[T.ch_ge d];rfl);have a:Hd (T.sk s k=j):=f.o.symm.trans (T.sk_here g);have L:Hd (T.ch s j=-1):=T.ch_ge d;have S:decide ((j:Int)<(s.size:Int))=P:=decide_eq_false ol;have R:((j:Int)==(s.size:Int))=E:=(by rw[beq_iff_eq];omega);clear q g;go_wp2_with fail;go_quiet (fail)
   go_wp2_with fail;go_quiet (fail)
   go_wp2_with fail;go_ret;exact⟨zf8 (by rw[a.o,L.o]),by rw[a.o];exact(p.o.drewN _).drewN _,(t.o.drewN _).drewN _⟩
theorem infoFrame:(Tryz.prog.info? 193).map (λi=>(i.zero,i.size,i.bytes))=F (F (.agg #[J Z 0,J Z 0,J Z 0,J Z 0]),4,32):=kr
theorem infoSign:(Tryz.prog.info? 162).map (λi=>(i.zero,i.size,i.bytes))=F (F (.agg #[J Z 0,J Z 0,J Z 0,J Z 0,.string ByteArray.empty]),5,48):=kr
def LS(w:World)(b:Nat)(ls:List FR):Prop:=∀i f,ls[i]?=F f->w.cell? ⟨b,i*4,N⟩=F (J Z f.sym)/\w.cell? ⟨b,i*4+1,N⟩=F (J Z f.kind)/\w.cell? ⟨b,i*4+2,N⟩=F (J Z f.depth)/\w.cell? ⟨b,i*4+3,N⟩=F (J Z f.list)
theorem LS.of_block{w w':World}{b:Nat}{a:List FR}(h:LS w b a)(e:w'.heap[b]?=w.heap[b]?):LS w' b a:=λi f hf=>by
 obtain⟨j,g,d,c⟩:=h i f hf;exact⟨by rw[World.cell?_of_block (w:=w) e];exact j,by rw[World.cell?_of_block (w:=w) e];exact g,by rw[World.cell?_of_block (w:=w) e];exact d,by rw[World.cell?_of_block (w:=w) e];exact c⟩
theorem RS.pushed{w j:World}{base B s k sv gv fs gs}(h:RS w base B s k sv gv fs gs){o:Obj}{f:FR}{g cap m:Nat}(v:m=fs.length+1)(d:j.ownsRow base 193 4 (O (F ⟨g,0,N⟩) m cap) m (frC fs++frV f))(a:(w.alloc o).drew.grownBy j sv.ownBlock)(u:sv.ownBlock=F g\/g=w.heap.size+1):
 RS (j.setCell ⟨B,2,N⟩ (O (F ⟨g,0,N⟩) m cap)) base B s k (O (F ⟨g,0,N⟩) m cap) gv (f::fs) gs/\Mv base B sv gv (O (F ⟨g,0,N⟩) m cap) gv w (j.setCell ⟨B,2,N⟩ (O (F ⟨g,0,N⟩) m cap)):=by
 have p:(w.alloc o).grownBy j sv.ownBlock:=⟨a.os,a.tape,a.output,a.size,a.block⟩;have l:=h.alloc o;have y:j.heap[B]?=(w.alloc o).heap[B]?:=p.block B l.lt (λe=>l.neS e.symm);have i:=y.trans l.blk;have t:(O (F ⟨g,0,N⟩) m cap).ownBlock≠F B:=zi d i oq;have n:j.ownsRow base 162 5 gv gs.length (sgC gs):=l.sg.kept p (by
  rcases l.sg.2 with⟨rfl,_⟩|⟨x,c,cur,rfl,_,hx,_⟩
  ·exact .inl rfl
  ·right
   intro e;have:=zi l.st hx oq
   exact this e.symm)
 refine⟨⟨X9 i,?_,ownsRow_setCell_other n h.neG _,h.hB⟩,⟨?_,λb hlt ho=>⟨?_,ho.1,?_,ho.2.2⟩⟩⟩
 ·subst v;exact ownsRow_setCell_other d t _
 ·have z:=p.size;refine Below.setCell ?_ h.hB _;exact((Below.refl base w).alloc h.bs o).grown p (by have:=h.bs;simp;omega) (λq hq=>(h.st.lt q hq).1)
 ·rw[za ho.1];have r:F b≠sv.ownBlock:=λe=>ho.2.1 e.symm
  rw[p.block b ow r,Below.heap_alloc _ _ _ hlt]
 ·intro e;simp[Value.ownBlock]at e;rcases u with h1|h1
  ·exact ho.2.1 (by rw[h1,e])
  ·omega
theorem RS.grown2{w b:World}{base B s k sv gv fs gs}(h:RS w base B s k sv gv fs gs){o:Obj}(a:(w.alloc o).drew.grownBy b sv.ownBlock):b.cell? ⟨B,2,N⟩=F sv/\b.frozen? ⟨B,2,N⟩=P:=by
 have d:(w.alloc o).grownBy b sv.ownBlock:=⟨a.os,a.tape,a.output,a.size,a.block⟩;have c:=h.alloc o;have e:b.heap[B]?=(w.alloc o).heap[B]?:=d.block B c.lt (λe=>c.neS e.symm);exact⟨by rw[World.cell?_of_block (w:=w.alloc o) e];exact c.c2,by rw[World.frozen?_of_block (w:=w.alloc o) e];exact c.fz 2⟩
theorem Jr(base B i c:Nat)(s:ByteArray)(k:Nat)(r j:Value)(g a:List FR)(Y:List SG)(w:World)(h:RS w base B s k r j g Y)(hl:LS w i a)(Q:Out B r j i)(z:i<w.heap.size)(a6:g.length+a.length<=1099511627776):
 Calls A 133 #[.pointer (F ⟨B,0,N⟩),O (F ⟨i,0,N⟩) a.length c] w λe w'=>e=.returned (.tuple #[])/\∃sv',RS w' base B s k sv' j (a++g) Y/\Mv base B r j sv' j w w':=by
 obtain⟨i0,S,K,I,H⟩:=info_parts infoFrame;go_enter func133,ntmps133;go_wp2
 go_loopg [4] a.length (λn x wr=>∃sv',n<=a.length/\x=J Z ((n:Int)-1)/\RS wr base B s k sv' j (a.drop n++g) Y/\Mv base B r j sv' j w wr)
 case atStart=>exact⟨r,Nat.le_refl _,rfl,by simpa using h,Mv.refl _ _ _ _ _⟩
 case round =>
  obtain⟨sv',hn,rfl,v,D⟩:=hrel;have q:Hd _:=v;have HM:Hd _:=D;have c2:=v.c2;have z2:=v.fz 2;have R:=D.kept i z Q;have a3:Hd (LS wr i a):=hl.of_block R.1;have a4:Hd _:=R.2;have a7:i<wr.heap.size:=Nat.lt_of_lt_of_le z D.bel.size;have b1:B<wr.heap.size:=v.lt;clear v D R hl h;cases gk with
  | zero =>
   go_wp2_with fail;go_end0
   exact⟨rfl,sv',by simpa using q.o,HM.o⟩
  | succ n =>
   have L:n<a.length:=ol;obtain⟨f,G⟩:∃f,a[n]?=F f:=⟨a[n],List.getElem?_eq_getElem L⟩;obtain⟨q0,q1,q2,q3⟩:=a3.o n f G;have HF:Hd _:=G;have p:Hd (a.drop n=f::a.drop (n+1)):=by
    show _=_;have:=List.getElem?_eq_some_iff.1 G
    obtain⟨h1,h2⟩:=this;rw[List.drop_eq_getElem_cons h1,h2]
   have e1:(((n+1:Nat):Int)-1)=(n:Int):=ol;have a9:(0:Int)<=(n:Int):=ol;have a8:(n:Int)<(a.length:Int):=ol;have ag:sv'.ownBlock≠F B:=q.o.neS;have al:sv'.ownBlock≠F i:=a4.o.2.1;have e2:=World.new_ne wr _ c2;have e3:=World.new_ne wr _ q0;have zf:∀o,(wr.alloc o).frozen? ⟨B,2,N⟩=P:=λo=>(q.o.alloc o).fz 2
   have b0:base<=wr.heap.size:=q.o.bs;have l:(a.drop (n+1)++g).length+1<=1099511627776:=ow;have X:Hd ((a.drop (n+1)++g).length+1<=maxLen):=sx;have W:Hd (((a.drop (n+1)++g).length+1)*32<=140737488355328):=oz;have y:Hd (∀u∈frV f,u.oneCell'=E):=λu hu=>by simp[frV]at hu;rcases hu with rfl|rfl|rfl|rfl<;>rfl
   have V:Hd (∀o:Obj,base<=(wr.alloc o).drew.heap.size):=λo=>by show base<=(wr.alloc o).heap.size;simp;omega
   clear l;have a2:Hd ((a.drop (n+1)++g).length+1=a.length-(n+1)+g.length+1):=sw;clear G;rw[e1];go_wp2_with fail;go_region_law ((refine step_append_lies _ (by rfl) _ _ _ (by rfl) base 193 i0 _ 4 32 underlying188 S K I H rfl ol sv' _ _ (by rfl) ((q.o.st.alloc _).drew) ⟨wr.heap.size,0,N⟩ 1 1 (frV f) (by rfl) (by rfl) (World.news_of_block (cs:=#[J Z f.sym,J Z f.kind,J Z f.depth,J Z f.list]) (t:=193) (fr:=(0,0)) (heap_alloc_new wr _)) y.o (Nat.lt_succ_self 0) X.o W.o (V.o _) (wr.heap.size+1) ot ?_;intro gg b2 w1 b d C a5;obtain⟨y2,y3⟩:=q.o.grown2 d))
   all_goals
    rw[a2.o]at b;have U:=q.o.pushed (m:=a.length-(n+1)+g.length+1) ot b d C;have a1:Hd _:=U.1;have a0:Hd _:=U.2;clear U b d C;go_wp2_with fail;go_roundg n
    case measure=>omega
    case rel=>exact⟨_,ol,by go_num,by rw[p.o];exact a1.o,HM.o.trans a0.o⟩
theorem zcN(a b c d:Int)(s:ByteArray)(w:World):(Instr.build 162 #[(0,J Z a),(1,J Z b),(2,J Z c),(3,J Z d),(4,.string s)]).run A w=.ok (.agg #[J Z a,J Z b,J Z c,J Z d,.string s]) w:=run_build w 162 _ _ kr
theorem RS.signed{w i:World}{base B s k sv gv fs gs}(h:RS w base B s k sv gv fs gs){o:Obj}{x:SG}{g cap m:Nat}(u:m=gs.length+1)(d:i.ownsRow base 162 5 (O (F ⟨g,0,N⟩) m cap) m (sgC gs++sgV x))(a:(w.alloc o).drew.grownBy i gv.ownBlock)(t:gv.ownBlock=F g\/g=w.heap.size+1):
 RS (i.setCell ⟨B,3,N⟩ (O (F ⟨g,0,N⟩) m cap)) base B s k sv (O (F ⟨g,0,N⟩) m cap) fs (x::gs)/\Mv base B sv gv sv (O (F ⟨g,0,N⟩) m cap) w (i.setCell ⟨B,3,N⟩ (O (F ⟨g,0,N⟩) m cap)):=by
 have n:(w.alloc o).grownBy i gv.ownBlock:=⟨a.os,a.tape,a.output,a.size,a.block⟩;have j:=h.alloc o;have v:i.heap[B]?=(w.alloc o).heap[B]?:=n.block B j.lt (λe=>j.neG e.symm);have f:=v.trans j.blk;have r:(O (F ⟨g,0,N⟩) m cap).ownBlock≠F B:=zi d f oq;have l:i.ownsRow base 193 4 sv fs.length (frC fs):=j.st.kept n (by
  rcases j.st.2 with⟨rfl,_⟩|⟨x,c,cur,rfl,_,hx,_⟩
  ·exact .inl rfl
  ·right
   intro e;have:=zi j.sg hx oq
   exact this e.symm)
 refine⟨⟨X9 f,ownsRow_setCell_other l h.neS _,?_,h.hB⟩,⟨?_,λb hlt ho=>⟨?_,ho.1,ho.2.1,?_⟩⟩⟩
 ·subst u;exact ownsRow_setCell_other d r _
 ·refine Below.setCell ?_ h.hB _;exact((Below.refl base w).alloc h.bs o).grown n (by have:=h.bs;simp;omega) (λq hq=>(h.sg.lt q hq).1)
 ·rw[za ho.1];have p:F b≠gv.ownBlock:=λe=>ho.2.2 e.symm
  rw[n.block b ow p,Below.heap_alloc _ _ _ hlt]
 ·intro e;simp[Value.ownBlock]at e;rcases t with h1|h1
  ·exact ho.2.2 (by rw[h1,e])
  ·omega
theorem RS.grown3{w c:World}{base B s k sv gv fs gs}(h:RS w base B s k sv gv fs gs){o:Obj}(a:(w.alloc o).drew.grownBy c gv.ownBlock):c.cell? ⟨B,0,N⟩=F (.string s)/\c.cell? ⟨B,1,N⟩=F (J Z k)/\c.cell? ⟨B,3,N⟩=F gv/\c.frozen? ⟨B,3,N⟩=P /\
 ∀b j,b<w.heap.size->Out B sv gv b->c.cell? ⟨b,j,N⟩=w.cell? ⟨b,j,N⟩:=by
 have f:(w.alloc o).grownBy c gv.ownBlock:=⟨a.os,a.tape,a.output,a.size,a.block⟩;have d:=h.alloc o;have e:c.heap[B]?=(w.alloc o).heap[B]?:=f.block B d.lt (λe=>d.neG e.symm);refine⟨by rw[World.cell?_of_block (w:=w.alloc o) e];exact d.c0,by rw[World.cell?_of_block (w:=w.alloc o) e];exact d.c1,by rw[World.cell?_of_block (w:=w.alloc o) e];exact d.c3,by rw[World.frozen?_of_block (w:=w.alloc o) e];exact d.fz 3,λb j hlt ho=>?_⟩;have g:c.heap[b]?=w.heap[b]?:=by rw[f.block b ow (λe=>ho.2.2 e.symm),Below.heap_alloc _ _ _ hlt]
 exact World.cell?_of_block (w:=w) g
set_option linter.unusedSimpArgs false in
theorem XL(base B:Nat)(s:ByteArray)(k p:Nat)(f:FR)(I C:Value)(fs:List FR)(gs:List SG)(w:World)(h:RS w base B s k I C fs gs)(hp:p<=k)(hk:k<=s.size)(a4:gs.length+1<=1099511627776):
 Calls A 166 #[.pointer (F ⟨B,0,N⟩),frA f,J Z p] w λe w'=>e=.returned (.tuple #[])/\∃gv',RS w' base B s k I gv' fs ({ kind:=f.kind,place:=p,depth:=f.depth,list:=f.list,text:=s.extract p k }::gs)/\Mv base B I C I gv' w w':=by
 obtain⟨i0,X,U,R,P⟩:=info_parts infoSign;have a7:=λw=>zcN f.kind p f.depth f.list (s.extract p k) w
 have a5:(p:Int)<=(k:Int):=ol;have a6:(k:Int)<=(s.size:Int):=ol;unfold frA;go_enter func166,ntmps166;go_wp2_with fail;have HA:=h.alloc (Q #[J Z f.sym,J Z f.kind,J Z f.depth,J Z f.list] 193);have b1:(w.alloc (Q #[J Z f.sym,J Z f.kind,J Z f.depth,J Z f.list] 193)).cell? ⟨w.heap.size,1,N⟩=F (J Z f.kind):=ot;have b2:(w.alloc (Q #[J Z f.sym,J Z f.kind,J Z f.depth,J Z f.list] 193)).cell? ⟨w.heap.size,2,N⟩=F (J Z f.depth):=ot;have b3:(w.alloc (Q #[J Z f.sym,J Z f.kind,J Z f.depth,J Z f.list] 193)).cell? ⟨w.heap.size,3,N⟩=F (J Z f.list):=ot;have V:=h.outNew;have m:w.heap.size<(w.alloc (Q #[J Z f.sym,J Z f.kind,J Z f.depth,J Z f.list] 193)).heap.size:=ot;have W:Mv base B I C I C w (w.alloc (Q #[J Z f.sym,J Z f.kind,J Z f.depth,J Z f.list] 193)):=Mv.alloc h.bs _;generalize w.alloc (Q #[J Z f.sym,J Z f.kind,J Z f.depth,J Z f.list] 193)=w1 at *;have y:Hd _:=HA;have HM:Hd _:=W;have c0:=HA.c0;have c1:=HA.c1;have c3:=HA.c3;clear h HA W;refine wp_region_held_drew (S:=(λw'=>w'.cell? ⟨B,0,N⟩=F (.string s)/\w'.cell? ⟨B,1,N⟩=F (J Z k)/\w'.cell? ⟨w.heap.size,1,N⟩=F (J Z f.kind)/\w'.cell? ⟨w.heap.size,2,N⟩=F (J Z f.depth)/\w'.cell? ⟨w.heap.size,3,N⟩=F (J Z f.list))) kr ⟨c0,c1,b1,b2,b3⟩ (λhHeld=>?_);refine wpAnyH_take (i:=0) (v:=?v0) rfl kr kr kr (λ_ _ _ h=>h) (Or.inl ⟨by rfl,?y0⟩) oy ?r0
 case y0=>(intro d a;(try dsimp only at a);first|(go_simp;done)|(go_simp;with_reducible rfl))
 try simp only[Act.put,List.setIfInBounds_toArray,List.set_cons_zero,List.set_cons_succ]
 refine wpAnyH_take (i:=1) (v:=?v1) rfl kr kr kr (λ_ _ _ h=>h) (Or.inl ⟨by rfl,?y1⟩) oy ?r1
 case y1=>(intro d a;(try dsimp only at a);first|(go_simp;done)|(go_simp;with_reducible rfl))
 try simp only[Act.put,List.setIfInBounds_toArray,List.set_cons_zero,List.set_cons_succ]
 refine wpAnyH_take (i:=2) (v:=?v2) rfl kr kr kr (λ_ _ _ h=>h) (Or.inl ⟨by rfl,?y2⟩) oy ?r2
 case y2=>(intro d a;(try dsimp only at a);first|(go_simp;done)|(go_simp;with_reducible rfl))
 try simp only[Act.put,List.setIfInBounds_toArray,List.set_cons_zero,List.set_cons_succ]
 refine wpAnyH_take (i:=3) (v:=?v3) rfl kr kr kr (λ_ _ _ h=>h) (Or.inl ⟨by rfl,?y3⟩) oy ?r3
 case y3=>(intro d a;(try dsimp only at a);first|(go_simp;done)|(go_simp;with_reducible rfl))
 try simp only[Act.put,List.setIfInBounds_toArray,List.set_cons_zero,List.set_cons_succ]
 refine wpAnyH_take (i:=5) (v:=?v5) rfl kr kr kr (λ_ _ _ h=>h) (Or.inl ⟨by rfl,?y5⟩) oy ?r5
 case y5=>(intro d a;(try dsimp only at a);first|(go_simp;done)|(go_simp;with_reducible rfl))
 try simp only[Act.put,List.setIfInBounds_toArray,List.set_cons_zero,List.set_cons_succ]
 refine wpAnyH_take (i:=6) (v:=?v6) rfl kr kr kr (λ_ _ _ h=>h) (Or.inl ⟨by rfl,?y6⟩) oy ?r6
 case y6=>(intro d a;(try dsimp only at a);first|(go_simp;done)|(go_simp;with_reducible rfl))
 try simp only[Act.put,List.setIfInBounds_toArray,List.set_cons_zero,List.set_cons_succ]
 refine wpAnyH_take (i:=7) (v:=?v7) rfl kr kr kr (λ_ _ _ h=>h) (Or.inl ⟨by rfl,?y7⟩) oy ?r7
 case y7=>(intro d a;(try dsimp only at a);first|(go_simp;done)|(go_simp;with_reducible rfl))
 try simp only[Act.put,List.setIfInBounds_toArray,List.set_cons_zero,List.set_cons_succ]
 refine wpAnyH_take (i:=8) (v:=?v8) rfl kr kr kr (λ_ _ _ h=>h) (Or.inl ⟨by rfl,?y8⟩) oy ?r8
 case y8=>(intro d a;(try dsimp only at a);first|(go_simp;done)|(go_simp;with_reducible rfl))
 try simp only[Act.put,List.setIfInBounds_toArray,List.set_cons_zero,List.set_cons_succ]
 refine wpAnyH_take (i:=9) (v:=?v9) rfl kr kr kr (λ_ _ _ h=>h) (Or.inl ⟨by rfl,?y9⟩) oy ?r9
 case y9=>(intro d a;(try dsimp only at a);first|(go_simp;done)|(go_simp;with_reducible rfl))
 try simp only[Act.put,List.setIfInBounds_toArray,List.set_cons_zero,List.set_cons_succ]
 refine wpAnyH_take (i:=10) (v:=?v10) rfl kr kr kr (λ_ _ _ h=>h) (Or.inl ⟨by rfl,?y10⟩) oy ?r10
 case y10=>(intro d a;(try dsimp only at a);first|(go_simp;done)|(go_simp;with_reducible rfl))
 try simp only[Act.put,List.setIfInBounds_toArray,List.set_cons_zero,List.set_cons_succ]
 refine wpAnyH_take (i:=11) (v:=?v11) rfl kr kr kr (λ_ _ _ h=>h) (Or.inl ⟨by rfl,?y11⟩) oy ?r11
 case y11=>(intro d a;(try dsimp only at a);first|(go_simp;done)|(go_simp;with_reducible rfl))
 try simp only[Act.put,List.setIfInBounds_toArray,List.set_cons_zero,List.set_cons_succ]
 refine wpAnyH_take (i:=12) (v:=?v12) rfl kr kr kr (λ_ _ _ h=>h) (Or.inl ⟨by rfl,?y12⟩) oy ?r12
 case y12=>(intro d a;(try dsimp only at a);first|(go_simp;done)|(go_simp;with_reducible rfl))
 try simp only[Act.put,List.setIfInBounds_toArray,List.set_cons_zero,List.set_cons_succ]
 refine wpAnyH_take (i:=13) (v:=?v13) rfl kr kr kr (λ_ _ _ h=>h) (Or.inl ⟨by rfl,?y13⟩) oy ?r13
 case y13=>(intro d a;(try dsimp only at a);first|(go_simp;done)|(go_simp;with_reducible rfl))
 try simp only[Act.put,List.setIfInBounds_toArray,List.set_cons_zero,List.set_cons_succ]
 refine wpAnyH_take (i:=14) (v:=?v14) rfl kr kr kr (λ_ _ _ h=>h) (Or.inl ⟨by rfl,?y14⟩) oy ?r14
 case y14=>(intro d a;(try dsimp only at a);first|(go_simp;done)|(go_simp;with_reducible rfl))
 try simp only[Act.put,List.setIfInBounds_toArray,List.set_cons_zero,List.set_cons_succ]
 refine wpAnyH_take (i:=15) (v:=?v15) rfl kr kr kr (λ_ _ _ h=>h) (Or.inl ⟨by rfl,?y15⟩) oy ?r15
 case y15=>(intro d a;(try dsimp only at a);first|(go_simp;done)|(go_simp;with_reducible rfl))
 try simp only[Act.put,List.setIfInBounds_toArray,List.set_cons_zero,List.set_cons_succ]
 refine wpAnyH_take (i:=16) (v:=?v16) rfl kr kr kr (λ_ _ _ h=>h) (Or.inl ⟨by rfl,?y16⟩) oy ?r16
 case y16=>(intro d a;(try dsimp only at a);first|(go_simp;done)|(go_simp;with_reducible rfl))
 try simp only[Act.put,List.setIfInBounds_toArray,List.set_cons_zero,List.set_cons_succ]
 refine wpAnyH_take (i:=17) (v:=?v17) rfl kr kr kr (λ_ _ _ h=>h) (Or.inl ⟨by rfl,?y17⟩) oy ?r17
 case y17=>(intro d a;(try dsimp only at a);first|(go_simp;done)|(go_simp;with_reducible rfl))
 try simp only[Act.put,List.setIfInBounds_toArray,List.set_cons_zero,List.set_cons_succ]
 refine wpAnyH_take (i:=18) (v:=?v18) rfl kr kr kr (λ_ _ _ h=>h) (Or.inl ⟨by rfl,?y18⟩) oy ?r18
 case y18=>(intro d a;(try dsimp only at a);first|(go_simp;done)|(go_simp;with_reducible rfl))
 try simp only[Act.put,List.setIfInBounds_toArray,List.set_cons_zero,List.set_cons_succ]
 refine wpAnyH_take (i:=19) (v:=?v19) rfl kr kr kr (λ_ _ _ h=>h) (Or.inl ⟨by rfl,?y19⟩) oy ?r19
 case y19=>(intro d a;(try dsimp only at a);first|(go_simp;done)|(go_simp;with_reducible rfl))
 try simp only[Act.put,List.setIfInBounds_toArray,List.set_cons_zero,List.set_cons_succ]
 refine wpAnyH_take (i:=20) (v:=?v20) rfl kr kr kr (λ_ _ _ h=>h) (Or.inl ⟨by rfl,?y20⟩) oy ?r20
 case y20=>(intro d a;(try dsimp only at a);first|(go_simp;done)|(go_simp;with_reducible rfl))
 try simp only[Act.put,List.setIfInBounds_toArray,List.set_cons_zero,List.set_cons_succ]
 refine wpAnyH_take (i:=21) (v:=?v21) rfl kr kr kr (λ_ _ _ h=>h) (Or.inl ⟨by rfl,?y21⟩) oy ?r21
 case y21=>(intro d a;(try dsimp only at a);first|(go_simp;done)|(go_simp;with_reducible rfl))
 try simp only[Act.put,List.setIfInBounds_toArray,List.set_cons_zero,List.set_cons_succ]
 refine wpAnyH_take (i:=22) (v:=?v22) rfl kr kr kr (λ_ _ _ h=>h) (Or.inl ⟨by rfl,?y22⟩) oy ?r22
 case y22=>(intro d a;(try dsimp only at a);first|(go_simp;done)|(go_simp;with_reducible rfl))
 try simp only[Act.put,List.setIfInBounds_toArray,List.set_cons_zero,List.set_cons_succ]
 have g:Out B I C w.heap.size:=V;have l:(⟨B,3,N⟩:Addr).block≠w.heap.size:=λe=>V.1 e.symm
 have L:∀o:Obj,(w1.alloc o).drew.cell? ⟨B,0,N⟩=F (.string s)/\(w1.alloc o).drew.cell? ⟨B,1,N⟩=F (J Z k)/\(w1.alloc o).drew.cell? ⟨w.heap.size,1,N⟩=F (J Z f.kind)/\(w1.alloc o).drew.cell? ⟨w.heap.size,2,N⟩=F (J Z f.depth)/\(w1.alloc o).drew.cell? ⟨w.heap.size,3,N⟩=F (J Z f.list):=λo=>by
  have hb:Below w1.heap.size w1 (w1.alloc o):=(Below.refl _ _).alloc (Nat.le_refl _) o;exact⟨(y.o.alloc o).c0,(y.o.alloc o).c1,(hb.cell (p:=⟨w.heap.size,1,N⟩) m).trans b1,(hb.cell (p:=⟨w.heap.size,2,N⟩) m).trans b2,(hb.cell (p:=⟨w.heap.size,3,N⟩) m).trans b3⟩
 have a1:Hd (gs.length+1<=maxLen):=sx;have a0:Hd ((gs.length+1)*48<=140737488355328):=oz;have z:Hd (∀u∈sgV ⟨f.kind,p,f.depth,f.list,s.extract p k⟩,u.oneCell'=E):=λu hu=>by simp[sgV]at hu;rcases hu with rfl|rfl|rfl|rfl|rfl<;>rfl
 have Y:Hd (∀o:Obj,base<=(w1.alloc o).drew.heap.size):=λo=>by have:=y.o.bs;show base<=(w1.alloc o).heap.size;simp;omega
 refine wpAnyH_ready (rs:=[4,23]) kr ot ?_;refine AllReadyH.cons rfl (λK hK=>?_) ?_
 ·go_simp
  refine hK.out _ _ hHeld (λhHeld=>?_);clear hK K;refine wpAnyH_ready (rs:=[23]) kr ot ?_;refine AllReadyH.cons rfl (λK hK=>?_) (λj hj=>by cases hj);go_simp
  refine hK.out _ _ (L _) (λhHeld=>?_);clear hK K;refine wpAnyH_ready (rs:=[24]) kr ot ?_;refine AllReadyH.cons rfl (λK hK=>?_) (λj hj=>by cases hj);refine step_append_lies _ (by rfl) (.tmp 10) (.tmp 29) 157 (by rfl) base 162 i0 _ 5 48 underlying157 X U R P rfl oq C _ _ (by rfl) ((y.o.sg.alloc _).drew) ⟨w1.heap.size,0,N⟩ 1 1 (sgV ⟨f.kind,p,f.depth,f.list,s.extract p k⟩) (by rfl) (by rfl) (World.news_of_block (cs:=#[J Z f.kind,J Z p,J Z f.depth,J Z f.list,.string (s.extract p k)]) (t:=162) (fr:=(0,0)) (heap_alloc_new w1 _)) z.o (Nat.lt_succ_self 0) a1.o a0.o (Y.o _) (w1.heap.size+1) ot ?_;intro gg a3 w2 n b x a2;obtain⟨g0,g1,g3,gz,c⟩:=y.o.grown3 b;have q:=y.o.signed rfl n b x;have r:Hd _:=q.1;have O:Hd _:=q.2;have H:=(c w.heap.size 1 m g).trans b1;have G:=(c w.heap.size 2 m g).trans b2;have D:=(c w.heap.size 3 m g).trans b3;clear q n b x c;refine hK.out _ _ ⟨g0,g1,H,G,D⟩ (λhHeld=>?_);clear hK K;refine wpAnyH_take (i:=25) (v:=?v25) rfl kr kr kr (λ_ _ _ h=>h) (Or.inl ⟨by rfl,?y25⟩) oy ?r25
  case y25=>(intro d a;(try dsimp only at a);first|(go_simp;done)|(go_simp;with_reducible rfl))
  refine wpAnyH_take (i:=26) (v:=?v26) rfl kr kr kr (λ_ _ _ h=>h) (Or.inl ⟨by rfl,?y26⟩) oy ?r26
  case y26=>(intro d a;(try dsimp only at a);first|(go_simp;done)|(go_simp;with_reducible rfl))
  refine wpAnyH_ready (rs:=[27]) kr ot ?_;refine AllReadyH.cons rfl (λK hK=>?_) (λj hj=>by cases hj);go_simp
  refine hK.out _ _ ⟨by rw[r.o.c0],by rw[r.o.c1],?_,?_,?_⟩ (λhHeld=>?_)
  ·rw[World.cell?_setCell_far _ _ _ _ l];exact H
  ·rw[World.cell?_setCell_far _ _ _ _ l];exact G
  ·rw[World.cell?_setCell_far _ _ _ _ l];exact D
  clear hK K;refine wpAnyH_done kr ?_ _;clear hHeld H G D g0 g1 g3 gz;go_wp2_with fail;go_end0
  exact⟨rfl,_,r.o,HM.o.trans O.o⟩
 ·refine AllReadyH.cons rfl (λK hK=>?_) (λj hj=>by cases hj);go_simp
  refine hK.out _ _ (L _) (λhHeld=>?_);clear hK K;have a8:∀o:Obj,(w1.alloc o).cell? ⟨B,3,N⟩=F C:=λo=>(y.o.alloc o).c3
  refine wpAnyH_ready (rs:=[4]) kr ot ?_;refine AllReadyH.cons rfl (λK hK=>?_) (λj hj=>by cases hj);go_simp
  refine hK.out _ _ (L _) (λhHeld=>?_);clear hK K;refine wpAnyH_ready (rs:=[24]) kr ot ?_;refine AllReadyH.cons rfl (λK hK=>?_) (λj hj=>by cases hj);refine step_append_lies _ (by rfl) (.tmp 10) (.tmp 29) 157 (by rfl) base 162 i0 _ 5 48 underlying157 X U R P rfl oq C _ _ (by rfl) ((y.o.sg.alloc _).drew) ⟨w1.heap.size,0,N⟩ 1 1 (sgV ⟨f.kind,p,f.depth,f.list,s.extract p k⟩) (by rfl) (by rfl) (World.news_of_block (cs:=#[J Z f.kind,J Z p,J Z f.depth,J Z f.list,.string (s.extract p k)]) (t:=162) (fr:=(0,0)) (heap_alloc_new w1 _)) z.o (Nat.lt_succ_self 0) a1.o a0.o (Y.o _) (w1.heap.size+1) ot ?_;intro gg a3 w2 n b x a2;obtain⟨g0,g1,g3,gz,c⟩:=y.o.grown3 b;have q:=y.o.signed rfl n b x;have r:Hd _:=q.1;have O:Hd _:=q.2;have H:=(c w.heap.size 1 m g).trans b1;have G:=(c w.heap.size 2 m g).trans b2;have D:=(c w.heap.size 3 m g).trans b3;clear q n b x c;refine hK.out _ _ ⟨g0,g1,H,G,D⟩ (λhHeld=>?_);clear hK K;refine wpAnyH_take (i:=25) (v:=?vb25) rfl kr kr kr (λ_ _ _ h=>h) (Or.inl ⟨by rfl,?yb25⟩) oy ?rb25
  case yb25=>(intro d a;(try dsimp only at a);first|(go_simp;done)|(go_simp;with_reducible rfl))
  refine wpAnyH_take (i:=26) (v:=?vb26) rfl kr kr kr (λ_ _ _ h=>h) (Or.inl ⟨by rfl,?yb26⟩) oy ?rb26
  case yb26=>(intro d a;(try dsimp only at a);first|(go_simp;done)|(go_simp;with_reducible rfl))
  refine wpAnyH_ready (rs:=[27]) kr ot ?_;refine AllReadyH.cons rfl (λK hK=>?_) (λj hj=>by cases hj);go_simp
  refine hK.out _ _ ⟨by rw[r.o.c0],by rw[r.o.c1],?_,?_,?_⟩ (λhHeld=>?_)
  ·rw[World.cell?_setCell_far _ _ _ _ l];exact H
  ·rw[World.cell?_setCell_far _ _ _ _ l];exact G
  ·rw[World.cell?_setCell_far _ _ _ _ l];exact D
  clear hK K;refine wpAnyH_done kr ?_ _;clear hHeld H G D g0 g1 g3 gz;go_wp2_with fail;go_end0
  exact⟨rfl,_,r.o,HM.o.trans O.o⟩
namespace T
def dig(c:Int):Bool:=decide (48<=c) && decide (c<=57)
def stp(most lim:Int)(plain:Bool)(c n c0:Int):Bool:=decide (lim<=c) || (n==most || (plain && (n==1 && c0==48)))
def dgF(s:ByteArray)(most lim:Int)(plain:Bool)(p:Nat):Nat->Nat->Bool×Nat
 |0,j=>(E,j)
 |n+1,j=>if dig (ch s j)=E then(if stp most lim plain (ch s j) ((j:Int)-p) (ch s p)=E then(P,j)else dgF s most lim plain p n (j+1))else(E,j)
def dg(s:ByteArray)(most lim:Int)(plain:Bool)(p:Nat):Bool×Nat:=dgF s most lim plain p (s.size-p+1) p
theorem dgF_end{s:ByteArray}{b c:Int}{a:Bool}{p n j:Nat}(h:dig (ch s j)=P):dgF s b c a p (n+1) j=(E,j):=by
 simp only[dgF];rw[if_neg (by rw[h];decide)]
theorem dgF_stop{s:ByteArray}{b c:Int}{a:Bool}{p n j:Nat}(h:dig (ch s j)=E)(d:stp b c a (ch s j) ((j:Int)-p) (ch s p)=E):dgF s b c a p (n+1) j=(P,j):=by
 simp only[dgF];rw[if_pos h,if_pos d]
theorem dgF_next{s:ByteArray}{b c:Int}{a:Bool}{p n j:Nat}(h:dig (ch s j)=E)(d:stp b c a (ch s j) ((j:Int)-p) (ch s p)=P):dgF s b c a p (n+1) j=dgF s b c a p n (j+1):=by
 simp only[dgF];rw[if_pos h,if_neg (by rw[d];decide)]
end T
structure FB (w:World) (b:Nat) (f:FR):Prop where
 c0:w.cell? ⟨b,0,N⟩=F (J Z f.sym)
 c1:w.cell? ⟨b,1,N⟩=F (J Z f.kind)
 c2:w.cell? ⟨b,2,N⟩=F (J Z f.depth)
 c3:w.cell? ⟨b,3,N⟩=F (J Z f.list)
theorem FB.of_block{w w':World}{b:Nat}{f:FR}(h:FB w b f)(e:w'.heap[b]?=w.heap[b]?):FB w' b f :=
 ⟨by rw[World.cell?_of_block (w:=w) e];exact h.c0,by rw[World.cell?_of_block (w:=w) e];exact h.c1,by rw[World.cell?_of_block (w:=w) e];exact h.c2,by rw[World.cell?_of_block (w:=w) e];exact h.c3⟩
theorem QN(base B:Nat)(s:ByteArray)(k:Nat)(f:FR)(a d:Int)(b:Bool)(l q:Value)(R:List FR)(K:List SG)(w:World)(h:RS w base B s k l q R K)(hs:s.size<=2000)(hk:k<=s.size)(D:K.length+1<=1099511627776):
 Calls A 165 #[.pointer (F ⟨B,0,N⟩),frA f,J Z a,J .u8 d,.bool b] w λe w' =>
  (((T.dg s a d b (T.sk s k)).1 && decide (T.sk s k<(T.dg s a d b (T.sk s k)).2))=P/\e=.returned (.bool P)/\RS w' base B s (T.dg s a d b (T.sk s k)).2 l q R K/\Mv base B l q l q w w') \/
  (((T.dg s a d b (T.sk s k)).1 && decide (T.sk s k<(T.dg s a d b (T.sk s k)).2))=E/\e=.returned (.bool E)/\∃gv',RS w' base B s (T.dg s a d b (T.sk s k)).2 l gv' R
   ({ kind:=f.kind,place:=T.sk s k,depth:=f.depth,list:=f.list,text:=s.extract (T.sk s k) (T.dg s a d b (T.sk s k)).2 }::K)/\Mv base B l q l gv' w w'):=by
 have b5:T.sk s k<=s.size:=T.sk_le hk;have S:=λ(wz:World) (hz:RS wz base B s k l q R K)=>zI base B s k l q R K wz hs hk hz
 generalize hpe:T.sk s k=p at *;have b7:Hd _:=S;clear hpe S hk;unfold frA;go_enter func165,ntmps165;go_wp2_with fail;have hA:=h.alloc (Q #[J Z f.sym,J Z f.kind,J Z f.depth,J Z f.list] 193);have hF:FB (w.alloc (Q #[J Z f.sym,J Z f.kind,J Z f.depth,J Z f.list] 193)) w.heap.size f:=⟨ot,ot,ot,ot⟩;have v:=h.outNew;have W:w.heap.size<(w.alloc (Q #[J Z f.sym,J Z f.kind,J Z f.depth,J Z f.list] 193)).heap.size:=ot;have a4:Mv base B l q l q w (w.alloc (Q #[J Z f.sym,J Z f.kind,J Z f.depth,J Z f.list] 193)):=Mv.alloc h.bs _;refine(b7.o _ hA).mono ?_;rintro e w1 ⟨rfl,X,L⟩;have a5:=L.kept w.heap.size W v;have a6:=hF.of_block a5.1;have b8:w.heap.size<w1.heap.size:=Nat.lt_of_lt_of_le W L.bel.size;have a9:Hd (Mv base B l q l q w w1):=a4.trans L;have a8:Hd _:=X;have c1:=X.c1;clear a4 L hA hF W X a5 h;go_wp2_with fail;go_loopg [12] (s.size-p) (λn _ wr=>∃j:Nat,p<=j/\j<=s.size/\n=s.size-j/\T.dgF s a d b p (s.size-j+1) j=T.dg s a d b p/\RS wr base B s j l q R K/\Mv base B l q l q w wr/\FB wr w.heap.size f)
 case atStart=>exact⟨p,Nat.le_refl _,b5,rfl,rfl,a8.o,a9.o,a6⟩
 case round =>
  obtain⟨j,Y,a1,hn,hD,hr,hm,y⟩:=hrel;have c0:=hr.c0;have c1:=hr.c1;have z1:=hr.fz 1;have b0:=y.c0;have b1:=y.c1;have b2:=y.c2;have b3:=y.c3;have x:Hd _:=hr;have z:Hd _:=hm;have a2:Hd _:=y;have HN:Hd _:=hn;have r:Hd _:=hD;clear hr hm hn hD y a8 a9 a6;by_cases a0:j<s.size
  ·have b9:(j:Int)<(s.size:Int):=(by omega);have b4:(p:Int)<(s.size:Int):=ol;have a3:p<s.size:=ol;have c5:((s[j]).toNat:Int)=T.ch s j:=(T.ch_lt a0).symm;have c4:((s[p]).toNat:Int)=T.ch s p:=(T.ch_lt a3).symm;obtain⟨c7,c6⟩:=T.ch_bd a0;by_cases G:48<=T.ch s j
   ·by_cases O:T.ch s j<=57
    ·have c:T.dig (T.ch s j)=E:=(by simp[T.dig,G,O]);have a7:decide (48<=T.ch s j)=E:=decide_eq_true G;have b6:decide (T.ch s j<=57)=E:=decide_eq_true O;by_cases C:d<=T.ch s j
     ·have g:T.stp a d b (T.ch s j) ((j:Int)-p) (T.ch s p)=E:=(by simp[T.stp,C]);have i:Hd (T.dg s a d b p=(P,j)):=r.o.symm.trans (T.dgF_stop c g);have dl:decide (d<=T.ch s j)=E:=decide_eq_true C;clear g c;go_wp2_with fail;go_quiet (fail)
      go_wp2_with fail;go_quiet (fail)
      go_wp2_with fail;go_ret;exact .inl ⟨by rw[i.o];rfl,rfl,by rw[i.o];exact(x.o.drewN _).drewN _,(z.o.drewN _).drewN _⟩
     ·have dl:decide (d<=T.ch s j)=P:=decide_eq_false C;cases hmost:((j:Int)-p==a)with
      | true =>
       have g:T.stp a d b (T.ch s j) ((j:Int)-p) (T.ch s p)=E:=(by simp[T.stp,hmost]);have i:Hd (T.dg s a d b p=(P,j)):=r.o.symm.trans (T.dgF_stop c g);clear g c;go_wp2_with fail;go_quiet (fail)
       go_wp2_with fail;go_quiet (fail)
       go_wp2_with fail;go_ret;exact .inl ⟨by rw[i.o];rfl,rfl,by rw[i.o];exact(x.o.drewN _).drewN _,(z.o.drewN _).drewN _⟩
      | false =>
       cases b with
       | false =>
        have g:T.stp a d P (T.ch s j) ((j:Int)-p) (T.ch s p)=P:=(by simp only[T.stp,dl,hmost];rfl);have V:s.size-j+1=(s.size-(j+1)+1)+1:=ol;have i:Hd (T.dgF s a d P p (s.size-(j+1)+1) (j+1)=T.dg s a d P p):=by
         have:=r.o;rw[V,T.dgF_next c g]at this;exact this
        clear g c V;go_wp2_with fail;go_quiet (fail)
        go_wp2_with fail;go_quiet (fail)
        go_wp2_with fail;go_roundg (s.size-(j+1))
        case measure=>rw[HN.o];omega
        case rel=>exact⟨j+1,ol,ol,rfl,i.o,(x.o.drewN _).at (j+1) _ ol,(z.o.drewN _).trans ((x.o.drewN _).atMv _),a2.o.of_block (za v.1)⟩
       | true =>
        cases hone:((j:Int)-p==1)with
        | false =>
         have g:T.stp a d E (T.ch s j) ((j:Int)-p) (T.ch s p)=P:=(by simp only[T.stp,dl,hmost,hone];rfl);have V:s.size-j+1=(s.size-(j+1)+1)+1:=ol;have i:Hd (T.dgF s a d E p (s.size-(j+1)+1) (j+1)=T.dg s a d E p):=by
          have:=r.o;rw[V,T.dgF_next c g]at this;exact this
         clear g c V;go_wp2_with fail;go_quiet (fail)
         go_wp2_with fail;go_quiet (fail)
         go_wp2_with fail;go_roundg (s.size-(j+1))
         case measure=>rw[HN.o];omega
         case rel=>exact⟨j+1,ol,ol,rfl,i.o,(x.o.drewN _).at (j+1) _ ol,(z.o.drewN _).trans ((x.o.drewN _).atMv _),a2.o.of_block (za v.1)⟩
        | true =>
         cases hz:(T.ch s p==48)with
         | false =>
          have g:T.stp a d E (T.ch s j) ((j:Int)-p) (T.ch s p)=P:=(by simp only[T.stp,dl,hmost,hone,hz];rfl);have V:s.size-j+1=(s.size-(j+1)+1)+1:=ol;have i:Hd (T.dgF s a d E p (s.size-(j+1)+1) (j+1)=T.dg s a d E p):=by
           have:=r.o;rw[V,T.dgF_next c g]at this;exact this
          clear g c V;go_wp2_with fail;go_quiet (fail)
          go_wp2_with fail;go_quiet (fail)
          go_wp2_with fail;go_roundg (s.size-(j+1))
          case measure=>rw[HN.o];omega
          case rel=>exact⟨j+1,ol,ol,rfl,i.o,(x.o.drewN _).at (j+1) _ ol,(z.o.drewN _).trans ((x.o.drewN _).atMv _),a2.o.of_block (za v.1)⟩
         | true =>
          have g:T.stp a d E (T.ch s j) ((j:Int)-p) (T.ch s p)=E:=(by simp only[T.stp,dl,hmost,hone,hz];rfl);have i:Hd (T.dg s a d E p=(P,j)):=r.o.symm.trans (T.dgF_stop c g);clear g c;go_wp2_with fail;go_quiet (fail)
          go_wp2_with fail;go_quiet (fail)
          go_wp2_with fail;go_ret;exact .inl ⟨by rw[i.o];rfl,rfl,by rw[i.o];exact(x.o.drewN _).drewN _,(z.o.drewN _).drewN _⟩
    ·have c:T.dig (T.ch s j)=P:=(by simp[T.dig,O]);have i:Hd (T.dg s a d b p=(E,j)):=r.o.symm.trans (T.dgF_end c);have a7:decide (48<=T.ch s j)=E:=decide_eq_true G;have b6:decide (T.ch s j<=57)=P:=decide_eq_false O;clear c;cases he:((j:Int)==(p:Int))with
     | true =>
      have m:Hd (j=p):=(by show _=_;simp at he;omega);go_wp2_with fail;go_quiet (fail)
      go_wp2_with fail;go_ret;exact .inl ⟨by rw[i.o,m.o];simp,rfl,by rw[i.o];exact x.o.drewN _,z.o.drewN _⟩
     | false =>
      have m:Hd (p<j):=(by show _<_;simp at he;omega);have U:Out B l q w.heap.size:=v;go_wp2_with fail;go_quiet (fail)
      go_wp2_with fail;refine(XL base B s j p f l q R K _ (x.o.drewN _) Y a1 D).mono ?_;rintro e w5 ⟨rfl,gv',t,u⟩;have H:Hd _:=t;have I:Hd (Mv base B l q l gv' w w5):=(z.o.drewN _).trans u;clear t u;go_wp2_with fail;go_ret;exact .inr ⟨by rw[i.o];simp[m.o],rfl,gv',by rw[i.o];exact H.o,I.o⟩
   ·have c:T.dig (T.ch s j)=P:=(by simp[T.dig,G]);have i:Hd (T.dg s a d b p=(E,j)):=r.o.symm.trans (T.dgF_end c);have a7:decide (48<=T.ch s j)=P:=decide_eq_false G;clear c;cases he:((j:Int)==(p:Int))with
    | true =>
     have m:Hd (j=p):=(by show _=_;simp at he;omega);go_wp2_with fail;go_quiet (fail)
     go_wp2_with fail;go_ret;exact .inl ⟨by rw[i.o,m.o];simp,rfl,by rw[i.o];exact x.o.drewN _,z.o.drewN _⟩
    | false =>
     have m:Hd (p<j):=(by show _<_;simp at he;omega);have U:Out B l q w.heap.size:=v;go_wp2_with fail;go_quiet (fail)
     go_wp2_with fail;refine(XL base B s j p f l q R K _ (x.o.drewN _) Y a1 D).mono ?_;rintro e w5 ⟨rfl,gv',t,u⟩;have H:Hd _:=t;have I:Hd (Mv base B l q l gv' w w5):=(z.o.drewN _).trans u;clear t u;go_wp2_with fail;go_ret;exact .inr ⟨by rw[i.o];simp[m.o],rfl,gv',by rw[i.o];exact H.o,I.o⟩
  ·have c:T.dig (T.ch s j)=P:=(by rw[T.ch_ge a0];rfl);have i:Hd (T.dg s a d b p=(E,j)):=r.o.symm.trans (T.dgF_end c);have hd:decide ((j:Int)<(s.size:Int))=P:=decide_eq_false ol;clear c;cases he:((j:Int)==(p:Int))with
   | true =>
    have m:Hd (j=p):=(by show _=_;simp at he;omega);go_wp2_with fail;go_quiet (fail)
    go_wp2_with fail;go_ret;exact .inl ⟨by rw[i.o,m.o];simp,rfl,by rw[i.o];exact x.o.drewN _,z.o.drewN _⟩
   | false =>
    have m:Hd (p<j):=(by show _<_;simp at he;omega);have U:Out B l q w.heap.size:=v;go_wp2_with fail;go_quiet (fail)
    go_wp2_with fail;refine(XL base B s j p f l q R K _ (x.o.drewN _) Y a1 D).mono ?_;rintro e w5 ⟨rfl,gv',t,u⟩;have H:Hd _:=t;have I:Hd (Mv base B l q l gv' w w5):=(z.o.drewN _).trans u;clear t u;go_wp2_with fail;go_ret;exact .inr ⟨by rw[i.o];simp[m.o],rfl,gv',by rw[i.o];exact H.o,I.o⟩
def T.val(s:ByteArray):Nat->Int
 |0=>0
 |n+1=>T.val s n*10+(T.ch s n-48)
def T.digs(s:ByteArray):Prop:=∀i,i<s.size->48<=T.ch s i/\T.ch s i<=57
theorem T.val_bd{s:ByteArray}(h:T.digs s):∀n,n<=s.size->0<=T.val s n/\T.val s n+1<=10 ^ n:=by
 intro n;induction n with
 |zero=>intro _;exact⟨Int.le_refl _,by simp[T.val]⟩
 | succ n ih =>
  intro a;have c:=ih ol;have b:=h n ol;have e:(10:Int) ^ (n+1)=10 ^ n*10:=Int.pow_succ _ _;simp only[T.val];rw[e];exact⟨ol,ol⟩
theorem ZB(s:ByteArray)(w:World)(r:s.size<=2000):
 Calls A 151 #[.string s] w λe w'=>Below w.heap.size w w'/\∃v,e=.returned (J Z v)/\(T.digs s->s.size<=9->v=T.val s s.size):=by
 go_enter func151,ntmps151;go_wp2_with fail;go_loopg [3,4] s.size (λn x y wr=>∃(j:Nat) (v:Int),n+j=s.size/\x=J Z v/\y=J Z j/\Hd (T.digs s->s.size<=9->v=T.val s j)/\Below w.heap.size w wr)
 case atStart=>exact⟨0,0,ol,rfl,rfl,λ_ _=>rfl,Below.refl _ _⟩
 case round =>
  obtain⟨j,v,u,rfl,rfl,h,d⟩:=hrel;have i:Hd (Below w.heap.size w wr):=d;clear d;by_cases a:j<s.size
  ·have g:(j:Int)<(s.size:Int):=(by omega);have m:((s[j]).toNat:Int)=T.ch s j:=(T.ch_lt a).symm;obtain⟨q,p⟩:=T.ch_bd a;go_wp2_with fail;go_roundg (gk-1)
   case measure=>omega
   case rel=>exact⟨j+1,_,ol,rfl,by go_num,λb h9=>by
    have e:=h.o b h9;have d:=T.val_bd b j ol;have l:=b j a;have t:(10:Int) ^ j<=10 ^ 9:=by
     have f:(10:Nat) ^ j<=10 ^ 9:=Nat.pow_le_pow_right ol ol;exact_mod_cast f
    have k:(10:Int) ^ 9=1000000000:=oq;subst e;simp only[T.val];unfold wrap64;omega,i.o⟩
  ·have c:j=s.size:=(by omega);have b:decide ((j:Int)<(s.size:Int))=P:=decide_eq_false ol;go_wp2_with fail;go_ret;exact⟨i.o,v,rfl,λf h2=>(h.o f h2).trans (by rw[c])⟩
end Go.Proofs.YtaebngpoagjafabGreat
