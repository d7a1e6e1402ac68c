import Derived.BigQuiet
import Derived.Deep.AppendLies
import Derived.Deep.DrawnRows
import Derived.Deep.LoopGhost
import Derived.Deep.OwnRows
import Derived.Deep.QuietTactic
import Derived.Deep.RegionHeld3
import Derived.Deep.RegionLaw
import Derived.Deep.RegionWith
import Derived.Laws.BytesArg
import Derived.Laws.Concat
import Derived.Laws.ResultCell
import Derived.Laws.StructEq
import Derived.Laws.Tables
import Derived.RangeFuncBox
import Derived.Test.YtaebngpoagjafaaRows
import Derived.WalkKit
import Derived.WalkLawsBesides
import Derived.WalkSmall
import Derived.WalkSpells
set_option maxRecDepth 100000
namespace Go.Proofs.Ytaebngpoagjafaa
open Go.RowKit
attribute [local go_sem ↓] Go.wp_at_zero Go.wp_at_succ
namespace T
def ch (s:ByteArray) (k:Nat):Int:=if h:k<s.size then ((s[k]).toNat:Int) else -1
theorem ch_lt {s:ByteArray} {k:Nat} (h:k<s.size):ch s k=((s[k]).toNat:Int):=by unfold ch;rw [dif_pos h]
theorem ch_ge {s:ByteArray} {k:Nat} (h:¬ k<s.size):ch s k=-1:=by unfold ch;rw [dif_neg h]
theorem ch_bd {s:ByteArray} {k:Nat} (h:k<s.size):0<=ch s k/\ch s k<256:=by
 rw [ch_lt h];have:=(s[k]).toNat_lt;omega
def bl (c:Int):Bool:=c==32 || c==10
def skF (s:ByteArray):Nat->Nat->Nat
 | 0,k=>k
 | n+1,k=>if bl (ch s k)=true then skF s n (k+1) else k
def sk (s:ByteArray) (k:Nat):Nat:=skF s (s.size-k) k
theorem bl_lt {s:ByteArray} {k:Nat} (h:bl (ch s k)=true):k<s.size:=by
 by_cases hk:k<s.size
 ·exact hk
 ·rw [ch_ge hk] at h;simp [bl] at h
theorem sk_next {s:ByteArray} {k:Nat} (h:bl (ch s k)=true):sk s (k+1)=sk s k:=by
 have hk:=bl_lt h
 unfold sk
 have e:s.size-k=(s.size-(k+1))+1:=by omega
 rw [e];simp only [skF];rw [if_pos h]
theorem sk_here {s:ByteArray} {k:Nat} (h:bl (ch s k)=false):sk s k=k:=by
 unfold sk
 cases e:s.size-k with
 | zero=>rfl
 | succ n=>simp only [skF];rw [if_neg (by rw [h];decide)]
theorem skF_ge (s:ByteArray) (n:Nat):∀ k,k<=skF s n k:=by
 induction n with
 | zero=>intro k;exact Nat.le_refl _
 | succ n ih =>
  intro k;simp only [skF];split
  ·have:=ih (k+1);omega
  ·exact Nat.le_refl _
theorem sk_ge (s:ByteArray) (k:Nat):k<=sk s k:=skF_ge s _ k
theorem skF_le (s:ByteArray) (n:Nat):∀ k,k<=s.size->skF s n k<=s.size:=by
 induction n with
 | zero=>intro k h;exact h
 | succ n ih =>
  intro k h;simp only [skF];split
  ·next hb=>exact ih (k+1) (by have:=bl_lt hb;omega)
  ·exact h
theorem sk_le {s:ByteArray} {k:Nat} (h:k<=s.size):sk s k<=s.size:=skF_le s _ k h
theorem skF_bl (s:ByteArray) (n:Nat):∀ k,s.size-k<=n->bl (ch s (skF s n k))=false:=by
 induction n with
 | zero =>
  intro k h
  cases hb:bl (ch s k) with
  | false=>exact hb
  | true=>have:=bl_lt hb;omega
 | succ n ih =>
  intro k h
  simp only [skF]
  split
  ·exact ih (k+1) (by omega)
  ·next hb=>simpa using hb
theorem sk_bl (s:ByteArray) (k:Nat):bl (ch s (sk s k))=false:=skF_bl s _ k (Nat.le_refl _)
end T
structure FR where
 sym:Int
 kind:Int
 depth:Int
 list:Int
structure SG where
 kind:Int
 place:Int
 depth:Int
 list:Int
 text:ByteArray
def Out (B:Nat) (sv gv:Value) (b:Nat):Prop:=b≠B/\sv.ownBlock≠some b/\gv.ownBlock≠some b
structure Mv (base B:Nat) (sv gv sv' gv':Value) (w w':World):Prop where
 bel:Below base w w'
 kept:∀ b,b<w.heap.size->Out B sv gv b->w'.heap[b]?=w.heap[b]?/\Out B sv' gv' b
theorem Mv.refl (base B:Nat) (sv gv:Value) (w:World):Mv base B sv gv sv gv w w:=⟨Below.refl _ _,fun _ _ h=>⟨rfl,h⟩⟩
theorem Mv.trans {base B:Nat} {a b c d e f:Value} {w w1 w2:World} (h:Mv base B a b c d w w1) (k:Mv base B c d e f w1 w2):Mv base B a b e f w w2 :=
 ⟨h.bel.trans k.bel,fun x hx ho=>by
  obtain ⟨h1,h2⟩:=h.kept x hx ho
  obtain ⟨k1,k2⟩:=k.kept x (Nat.lt_of_lt_of_le hx h.bel.size) h2
  exact ⟨k1.trans h1,k2⟩⟩
theorem Mv.drewN {base B:Nat} {a b c d:Value} {w w1:World} (h:Mv base B a b c d w w1) (n:Nat):Mv base B a b c d w (w1.drewN n):=⟨⟨h.bel.os,h.bel.tape,h.bel.output,h.bel.size,h.bel.block⟩,h.kept⟩
theorem zs {w:World} {base e size B:Nat} {v:Value} {n:Nat} {xs:List Value} {cs:Array Value} {t:TypeId} {fr:Nat×Nat} (h:w.ownsRow base e size v n xs) (hb:w.heap[B]?=some (.cells cs t fr)) (hne:t≠e):v.ownBlock≠some B:=by
 rcases h.2 with ⟨rfl,_⟩ | ⟨g,cap,cur,rfl,_,hg,_⟩
 ·simp [Value.ownBlock]
 ·intro he
  simp [Value.ownBlock] at he
  subst he
  rw [hg] at hb
  simp at hb
  exact hne hb.2.1.symm
theorem zc {w:World} {B j b:Nat} {u:Value} (h:b≠B):(w.setCell ⟨B,j,none⟩ u).heap[b]?=w.heap[b]?:=Below.heap_setCell w _ u b h
theorem Mv.alloc {base B:Nat} {sv gv:Value} {w:World} (hb:base<=w.heap.size) (o:Obj):Mv base B sv gv sv gv w (w.alloc o) :=
 ⟨(Below.refl _ _).alloc hb o,fun _ hlt ho=>⟨Below.heap_alloc _ _ _ hlt,ho⟩⟩
namespace T
def dig (c:Int):Bool:=decide (48<=c) && decide (c<=57)
def stp (most lim:Int) (plain:Bool) (c n c0:Int):Bool:=decide (lim<=c) || (n==most || (plain && (n==1 && c0==48)))
def dgF (s:ByteArray) (most lim:Int) (plain:Bool) (p:Nat):Nat->Nat->Bool×Nat
 | 0,j=>(true,j)
 | n+1,j=>if dig (ch s j)=true then (if stp most lim plain (ch s j) ((j:Int)-p) (ch s p)=true then (false,j) else dgF s most lim plain p n (j+1)) else (true,j)
def dg (s:ByteArray) (most lim:Int) (plain:Bool) (p:Nat):Bool×Nat:=dgF s most lim plain p (s.size-p+1) p
theorem dgF_end {s:ByteArray} {most lim:Int} {plain:Bool} {p n j:Nat} (h:dig (ch s j)=false):dgF s most lim plain p (n+1) j=(true,j):=by
 simp only [dgF];rw [if_neg (by rw [h];decide)]
theorem dgF_stop {s:ByteArray} {most lim:Int} {plain:Bool} {p n j:Nat} (h:dig (ch s j)=true) (h2:stp most lim plain (ch s j) ((j:Int)-p) (ch s p)=true):dgF s most lim plain p (n+1) j=(false,j):=by
 simp only [dgF];rw [if_pos h,if_pos h2]
theorem dgF_next {s:ByteArray} {most lim:Int} {plain:Bool} {p n j:Nat} (h:dig (ch s j)=true) (h2:stp most lim plain (ch s j) ((j:Int)-p) (ch s p)=false):dgF s most lim plain p (n+1) j=dgF s most lim plain p n (j+1):=by
 simp only [dgF];rw [if_pos h,if_neg (by rw [h2];decide)]
end T
def Zi (n:Int):Int:=if 1000<n then 1001 else n
def knL (nm:ByteArray) (c:Int):List Int->Nat->Int
 | [],_=>0
 | k::r,i=>if T.ch nm i=c then k else knL nm c r (i+1)
def JX (ns:Nat->Int):Nat->Int
 | 0=>0
 | j+1=>JX ns j+ns j
structure SPL where
 l:List ByteArray
 from_:Nat
 deep:Int
def spS (s:ByteArray) (c:Int):Nat->SPL
 | 0=>⟨[],0,0⟩
 | i+1 =>
  let q:=spS s c i
  if T.ch s i=40\/T.ch s i=123 then ⟨q.l,q.from_,q.deep+1⟩
  else if T.ch s i=41\/T.ch s i=125 then ⟨q.l,q.from_,q.deep-1⟩
  else if T.ch s i=c/\q.deep=0 then ⟨q.l++[s.extract q.from_ i],i+1,q.deep⟩
  else q
def spl (s:ByteArray) (c:Int):List ByteArray:=(spS s c s.size).l++[s.extract (spS s c s.size).from_ s.size]
theorem JZ (s:ByteArray) (c:Int):∀ i,(spS s c i).from_<=i/\(spS s c i).l.length<=i/\-(i:Int)<=(spS s c i).deep/\(spS s c i).deep<=i:=by
 intro i
 induction i with
 | zero=>simp [spS]
 | succ i ih =>
  simp only [spS]
  split
  ·simp only;omega
  ·split
   ·simp only;omega
   ·split
    ·simp only [List.length_append,List.length_cons,List.length_nil];omega
    ·omega
def byF (c:Int):FR:=⟨c,0,0,0⟩
theorem Mv.drew {base B:Nat} {a b c d:Value} {w w1:World} (h:Mv base B a b c d w w1):Mv base B a b c d w w1.drew:=⟨h.bel.drew,h.kept⟩
def XF (f:FR):List FR :=
 if f.kind=10 then [⟨261,4,0,f.list⟩,byF 42,⟨261,5,0,-1⟩]
 else if f.kind=9 then [⟨262,9,0,f.list⟩,byF 58,⟨258,0,f.depth+1,0⟩]
 else if f.kind=7 then [⟨261,7,0,f.list⟩,byF 58,⟨258,0,f.depth+1,0⟩]
 else [⟨261,4,0,f.list⟩]
theorem Mv.of_below {base B:Nat} {sv gv:Value} {w w':World} (hb:Below w.heap.size w w') (h:base<=w.heap.size):Mv base B sv gv sv gv w w':=⟨hb.mono h,fun b hlt ho=>⟨hb.block b hlt,ho⟩⟩
def zaD (d:Int) (p:Nat) (c:Int):Option (List FR) :=
 if c=123 then some [byF 123,⟨259,4,d,p⟩,⟨260,4,d,p⟩,byF 125]
 else if c=119 then some [byF 119,byF 40,⟨259,10,d,p⟩,⟨260,10,d,p⟩,byF 124,⟨258,0,d+1,0⟩,byF 41]
 else if c=102 then some [byF 102,byF 40,⟨259,4,d,p⟩,⟨260,4,d,p⟩,byF 124,⟨258,0,d+1,0⟩,byF 41]
 else if c=109 then some [byF 109,byF 40,⟨259,9,d,p⟩,⟨260,9,d,p⟩,byF 124,⟨258,0,d+1,0⟩,byF 41]
 else if c=103 then some [byF 103,byF 40,⟨259,7,d,p⟩,⟨260,7,d,p⟩,byF 124,⟨258,0,d+1,0⟩,byF 41]
 else if c=116 then some [byF 116,byF 40,⟨261,6,0,-1⟩,byF 44,⟨258,0,d+1,0⟩,byF 41]
 else if c=64 then some [byF 64,⟨261,8,0,-1⟩]
 else if c=61 then some [byF 61,⟨263,2,0,-1⟩]
 else none
structure Res where
 ok:Bool
 at_:Nat
 push:List FR
 sg:List SG
def zH (s:ByteArray) (k:Nat) (f:FR):Res :=
 let p:=T.sk s k
 let c:=T.ch s p
 if f.sym=256 then ⟨true,p,[⟨263,1,0,-1⟩,byF 58,⟨258,0,0,0⟩],[]⟩
 else if f.sym=257 then ⟨true,p,if c=59 then [byF 59,⟨256,0,0,0⟩,⟨257,0,0,0⟩] else [],[]⟩
 else if f.sym=258 then
  match zaD f.depth p c with
  | some l=>⟨true,p,l,[⟨3,p,f.depth,-1,ByteArray.empty⟩]⟩
  | none=>⟨false,p,[],[]⟩
 else if f.sym=259 then ⟨true,p,XF f,[]⟩
 else if f.sym=260 then ⟨true,p,if c=44 then [byF 44,⟨259,f.kind,f.depth,f.list⟩,f] else [],[]⟩
 else if f.sym=261 then
  let r:=T.dg s 9 58 true p
  if (r.1 && decide (p<r.2))=true then ⟨true,r.2,[],[⟨f.kind,p,f.depth,f.list,s.extract p r.2⟩]⟩ else ⟨false,r.2,[],[]⟩
 else if f.sym=262 then
  let r:=T.dg s 32 50 false p
  if (r.1 && decide (p<r.2))=true then ⟨true,r.2,[],[⟨f.kind,p,f.depth,f.list,s.extract p r.2⟩]⟩ else ⟨false,r.2,[],[]⟩
 else if f.sym=263 then
  if 97<=c/\c<=122 then ⟨true,p+1,[],[⟨f.kind,p,f.depth,f.list,s.extract p (p+1)⟩]⟩ else ⟨false,p,[],[]⟩
 else if c=f.sym then ⟨true,p+1,[],[]⟩ else ⟨false,p,[],[]⟩
theorem T.dig_lt {s:ByteArray} {k:Nat} (h:T.dig (T.ch s k)=true):k<s.size:=by
 by_cases hk:k<s.size
 ·exact hk
 ·rw [T.ch_ge hk] at h;simp [T.dig] at h
theorem T.ch_nn {s:ByteArray} {k:Nat} (h:0<=T.ch s k):k<s.size:=by
 by_cases hk:k<s.size
 ·exact hk
 ·rw [T.ch_ge hk] at h;omega
theorem T.dgF_bd (s:ByteArray) (most lim:Int) (plain:Bool) (p:Nat):∀ n j,j<=s.size->j<=(T.dgF s most lim plain p n j).2/\(T.dgF s most lim plain p n j).2<=s.size:=by
 intro n
 induction n with
 | zero=>intro j h;exact ⟨Nat.le_refl _,h⟩
 | succ n ih =>
  intro j h
  cases hd:T.dig (T.ch s j) with
  | false=>rw [T.dgF_end hd];exact ⟨Nat.le_refl _,h⟩
  | true =>
   cases hs:T.stp most lim plain (T.ch s j) ((j:Int)-p) (T.ch s p) with
   | true=>rw [T.dgF_stop hd hs];exact ⟨Nat.le_refl _,h⟩
   | false =>
    rw [T.dgF_next hd hs]
    have:=ih (j+1) (T.dig_lt hd)
    exact ⟨by omega,this.2⟩
theorem T.dg_bd (s:ByteArray) (most lim:Int) (plain:Bool) (p:Nat) (h:p<=s.size):p<=(T.dg s most lim plain p).2/\(T.dg s most lim plain p).2<=s.size:=T.dgF_bd s most lim plain p _ p h
structure PR where
 ok:Bool
 at_:Nat
 sg:List SG
 n:Nat
def pL (one:Nat->FR->Option PR):Nat->List FR->Option PR
 | k,[]=>some ⟨true,k,[],0⟩
 | k,f::fs=>match one k f with
  | none=>none
  | some a=>if a.ok=true then (match pL one a.at_ fs with
   | none=>none
   | some b=>some ⟨b.ok,b.at_,b.sg++a.sg,a.n+b.n⟩) else some a
def pF (s:ByteArray):Nat->Nat->FR->Option PR
 | 0,_,_=>none
 | n+1,k,f =>
  if (zH s k f).ok=true then (match pL (pF s n) (zH s k f).at_ (zH s k f).push with
   | none=>none
   | some q=>some ⟨q.ok,q.at_,q.sg++(zH s k f).sg,q.n+1⟩) else some ⟨false,(zH s k f).at_,[],1⟩
def rd0 (s:ByteArray):Option PR:=pL (pF s (2*s.size+2)) 0 [⟨256,0,0,0⟩,⟨257,0,0,0⟩]
theorem XQ {b:Nat} {w w':World} (h:Below b w w') (n:Nat):Below b w (w'.drewN n):=⟨h.os,h.tape,h.output,h.size,h.block⟩
def rdE (s:ByteArray) (R:Bool×Nat×List SG):Bool×Nat×List SG :=
 if R.1=true then (if 0<=T.ch s (T.sk s R.2.1) then (false,T.sk s R.2.1,[]) else (true,T.sk s R.2.1,R.2.2)) else R
def rd (s:ByteArray):Bool×Nat×List SG:=match rd0 s with
 | none=>(false,0,[])
 | some q=>rdE s (q.ok,q.at_,if q.ok=true then q.sg else [])
def T.val (s:ByteArray):Nat->Int
 | 0=>0
 | n+1=>T.val s n*10+(T.ch s n-48)
def T.digs (s:ByteArray):Prop:=∀ i,i<s.size->48<=T.ch s i/\T.ch s i<=57
theorem T.val_bd {s:ByteArray} (h:T.digs s):∀ n,n<=s.size->0<=T.val s n/\T.val s n+1<=10 ^ n:=by
 intro n
 induction n with
 | zero=>intro _;exact ⟨Int.le_refl _,by simp [T.val]⟩
 | succ n ih =>
  intro hn
  have h1:=ih (by omega)
  have h2:=h n (by omega)
  have e:(10:Int) ^ (n+1)=10 ^ n*10:=Int.pow_succ _ _
  simp only [T.val]
  rw [e]
  exact ⟨by omega,by omega⟩
theorem T.ch_extract (s:ByteArray) (p e i:Nat) (he:e<=s.size) (hi:i<e-p):T.ch (s.extract p e) i=T.ch s (p+i):=by
 have h1:i<(s.extract p e).size:=by rw [ByteArray.size_extract];omega
 have h2:p+i<s.size:=by omega
 rw [T.ch_lt h1,T.ch_lt h2]
 rw [ByteArray.getElem_extract]
theorem T.size_extract (s:ByteArray) (p e:Nat) (he:e<=s.size):(s.extract p e).size=e-p:=by rw [ByteArray.size_extract];omega
theorem T.dgF_all (s:ByteArray) (most lim:Int) (plain:Bool) (p:Nat):∀ n j,p<=j->((j:Int)-p<=most)->(∀ i,p<=i->i<j->T.dig (T.ch s i)=true)->0<=most ->
 (((T.dgF s most lim plain p n j).2:Int)-p<=most)/\(∀ i,p<=i->i<(T.dgF s most lim plain p n j).2->T.dig (T.ch s i)=true):=by
 intro n
 induction n with
 | zero=>intro j _ h2 h3 _;exact ⟨h2,h3⟩
 | succ n ih =>
  intro j h1 h2 h3 h4
  cases hd:T.dig (T.ch s j) with
  | false=>rw [T.dgF_end hd];exact ⟨h2,h3⟩
  | true =>
   cases hs:T.stp most lim plain (T.ch s j) ((j:Int)-p) (T.ch s p) with
   | true=>rw [T.dgF_stop hd hs];exact ⟨h2,h3⟩
   | false =>
    rw [T.dgF_next hd hs]
    simp only [T.stp,Bool.or_eq_false_iff,beq_eq_false_iff_ne] at hs
    refine ih (j+1) (by omega) (by omega) (fun i hi1 hi2=>?_) h4
    by_cases hij:i=j
    ·rw [hij];exact hd
    ·exact h3 i hi1 (by omega)
theorem T.dg_all (s:ByteArray) (most lim:Int) (plain:Bool) (p:Nat) (hp:p<=s.size) (hm:0<=most):T.digs (s.extract p (T.dg s most lim plain p).2)/\(((s.extract p (T.dg s most lim plain p).2).size:Int)<=most):=by
 have hb:=T.dg_bd s most lim plain p hp
 have h:=T.dgF_all s most lim plain p (s.size-p+1) p (Nat.le_refl _) (by omega) (fun i h1 h2=>by omega) hm
 have e:T.dgF s most lim plain p (s.size-p+1) p=T.dg s most lim plain p:=rfl
 rw [e] at h
 generalize (T.dg s most lim plain p).2=z at *
 constructor
 ·intro i hi
  rw [T.size_extract _ _ _ hb.2] at hi
  rw [T.ch_extract _ _ _ _ hb.2 hi]
  have:=h.2 (p+i) (by omega) (by omega)
  simp only [T.dig,Bool.and_eq_true,decide_eq_true_eq] at this
  exact this
 ·rw [T.size_extract _ _ _ hb.2];omega
def Y9 (g:SG):List SG->Nat
 | []=>0
 | x::r=>Y9 g r+(if x.list=g.list/\x.kind=g.kind then 1 else 0)
def Yv (g:SG):List SG->Bool
 | []=>false
 | x::r=>Yv g r || (decide (x.list=g.list/\x.kind=g.kind) && (x.text.toList==g.text.toList))
def Zz (k v:Int):Bool :=
 if k=4 then decide (64<=v) else if k=5 then (v==0 || decide (1000<v)) else if k=6 then (v==0 || decide (86400<v))
 else if k=7 then decide (99<v) else if k=8 then decide (16<=v) else false
inductive SZ (nm:ByteArray) (K:List Int):ByteArray->Int->Prop where
 | servers {t:ByteArray}:T.ch t 0=123->2<=t.size->SZ nm K t (1+((spl (t.extract 1 (t.size-1)) 44).length:Int))
 | alias {t:ByteArray}:T.ch t 0=64->SZ nm K t 1
 | name {t:ByteArray}:T.ch t 0=61->2<=t.size->SZ nm K t (knL nm (T.ch t 1) K 0)
 | ttl {t b:ByteArray} {n:Int}:T.ch t 0=116->3<=t.size->(spl (t.extract 2 (t.size-1)) 44)[1]?=some b->SZ nm K b n->SZ nm K t (Zi (1+n))
 | list {t a b:ByteArray} {n:Int}:(T.ch t 0=119\/T.ch t 0=102)->3<=t.size->(spl (t.extract 2 (t.size-1)) 124)[0]?=some a->(spl (t.extract 2 (t.size-1)) 124)[1]?=some b->SZ nm K b n->SZ nm K t (Zi (1+((spl a 44).length:Int)+n))
 | maps {t a b:ByteArray} {n:Int} {ys:Nat->ByteArray} {ns:Nat->Int}:(T.ch t 0=109\/T.ch t 0=103)->3<=t.size->(spl (t.extract 2 (t.size-1)) 124)[0]?=some a->(spl (t.extract 2 (t.size-1)) 124)[1]?=some b->SZ nm K b n ->
  (∀ i x,(spl a 44)[i]?=some x->(spl x 58)[0]?=some (ys i)/\(ys i).size+1<=x.size)->(∀ i,(spl a 44).length<=i->ns i=0)->(∀ i x,(spl a 44)[i]?=some x->SZ nm K (x.extract ((ys i).size+1) x.size) (ns i))->SZ nm K t (Zi (1+((spl a 44).length:Int)+n+JX ns (spl a 44).length))
theorem Ju {n:Int} (h:0<=n):0<=Zi n/\Zi n<=1001:=by unfold Zi;split<;>omega
def brL (s:ByteArray):Nat->List Int
 | 0=>[]
 | n+1=>brL s n++(if T.bl (T.ch s n)=true then [] else [T.ch s n])
def bare (s:ByteArray):ByteArray:=strOfNums (brL s s.size)
end Go.Proofs.Ytaebngpoagjafaa
