import Derived.Test.YtaebngpoagjafabGreatU38
import Derived.Test.YtaebngpoagjafabGreatU41
import Derived.BigRegion
set_option maxRecDepth 100000
set_option maxHeartbeats 400000
namespace Go.Proofs.YtaebngpoagjafabGreat
open Go.RowKit
attribute [local go_sem ↓] Go.wp_at_zero Go.wp_at_succ
theorem xA (n:Int) (k:Nat):∀ x∈z6 n k,0<=x/\x<256:=by
 induction k generalizing n with
 | zero=>intro x a;simp [z6] at a
 | succ k ih =>
  intro x a
  simp only [z6,List.mem_cons] at a
  rcases a with rfl | a
  ·omega
  ·exact ih _ x a
theorem zeJ (es:List EX):∀ n,∀ x∈yh es n,0<=x/\x<256:=by
 intro n
 induction n using Nat.strongRecOn with
 | ind n ih =>
  cases n with
  | zero=>intro x a;simp [yh] at a
  | succ j =>
   cases he:es[j]? with
   | none=>intro x a;simp [yh,he] at a
   | some e =>
    have b:∀ i,∀ x∈atL (zT es j) i,0<=x/\x<256:=by
     intro i x a
     rw [Xx] at a
     split at a
     ·simp at a
     ·split at a
      ·exact ih _ (by omega) x a
      ·simp at a
    have d:∀ k,∀ x∈zg (zT es j) e k,0<=x/\x<256:=by
     intro k
     induction k with
     | zero=>exact b _
     | succ k ihk =>
      intro x a
      simp only [zg,List.mem_append] at a
      rcases a with a | a
      ·exact ihk x a
      ·cases hi:e.items[k]? with
       | none=>rw [hi] at a;simp at a
       | some y=>rw [hi] at a;exact b _ x a
    have f:∀ k,∀ x∈zq (zT es j) e k,0<=x/\x<256:=by
     intro k
     induction k with
     | zero =>
      intro x a
      simp only [zq,yp,List.mem_append] at a
      rcases a with a | a
      ·exact xA _ _ x a
      ·repeat' split at a
       all_goals exact xA _ _ x a
     | succ k ihk =>
      intro x a
      simp only [zq,List.mem_append] at a
      rcases a with a | a
      ·exact ihk x a
      ·cases hi:e.items[k]? with
       | none=>rw [hi] at a;simp at a
       | some y =>
        rw [hi] at a
        simp only [yt] at a
        repeat' split at a
        all_goals (try simp only [List.mem_append] at a)
        ·rcases a with (a | a) | a<;>exact xA _ _ x a
        ·rcases a with a | a<;>exact xA _ _ x a
        ·rcases a with a | a<;>exact xA _ _ x a
        ·exact xA _ _ x a
    intro x a
    simp only [yh,he,YL] at a
    split at a
    ·exact b _ x a
    ·rcases List.mem_append.1 a with a | a
     ·exact f _ x a
     ·exact d _ x a
theorem zfR {w:World} {base:Nat} {o:Option Addr} {k:Nat} {X:List Int} (h:w.ownsRow base 5 1 (.slice o X.length k) X.length (X.map (Value.int .u8))) (hb:∀ x∈X,0<=x/\x<256):∃ g,CS w w.heap.size o g 0 X:=by
 rcases Nat.eq_zero_or_pos X.length with h0 | h0
 ·exact ⟨0,⟨fun h=>by omega,fun h=>by omega,fun i x hx=>by have:=(List.getElem?_eq_some_iff.1 hx).1;omega,hb⟩⟩
 ·obtain ⟨g,a,e,_,d⟩:=h.form h0
  obtain ⟨b,_⟩:o=some ⟨g,0,none⟩/\k=a:=by cases e;exact ⟨rfl,rfl⟩
  subst b
  refine ⟨g,⟨fun _=>rfl,fun _=>d,fun i x hx=>?_,hb⟩⟩
  have f:=(List.getElem?_eq_some_iff.1 hx).1
  rw [Nat.zero_add,World.ownsRow.cellAt h i (by omega),List.getElem?_map,hx];rfl
theorem XJ {w:World} {base:Nat} {o:Option Addr} {k:Nat} {l:List Int} (h:w.ownsRow base 3 1 (.slice o l.length k) l.length (l.map (Value.int .i64))):∃ g,IS w o g 0 l.length (fun i=>(l[i]?).getD 0):=by
 rcases Nat.eq_zero_or_pos l.length with h0 | h0
 ·exact ⟨0,⟨fun h=>by omega,fun h=>by omega,fun i hi=>by omega⟩⟩
 ·obtain ⟨g,a,e,_,d⟩:=h.form h0
  obtain ⟨b,_⟩:o=some ⟨g,0,none⟩/\k=a:=by cases e;exact ⟨rfl,rfl⟩
  subst b
  refine ⟨g,⟨fun _=>rfl,fun _=>d,fun i hi=>?_⟩⟩
  rw [Nat.zero_add,World.ownsRow.cellAt h i (by omega),List.getElem?_map,List.getElem?_eq_getElem hi];rfl
def j2 (s:ByteArray):Bool:=cpE s==0
theorem zfO (a b d:Int):Zt a b d=(M.isA a && (M.isA d && (decide (0<=b) && decide (b<=32)))):=by
 unfold Zt M.isA
 by_cases j:0<=a<;>by_cases i:a<4294967296<;>by_cases h:0<=b<;>by_cases g:b<=32<;>by_cases f:0<=d<;>by_cases e:d<4294967296<;>simp [j,i,h,g,f,e]
theorem XT (a b d:Int) (w:World):Calls Tryz.prog 21 #[.int .i64 a,.int .i64 b,.int .i64 d] w fun e w'=>e=.returned (.bool (Zt a b d))/\w'=w:=by
 have g:Hid (Zt a b d=(M.isA a && (M.isA d && (decide (0<=b) && decide (b<=32))))):=zfO a b d
 go_enter Tryz.func21,Tryz.ntmps21
 go_wp2_with fail
 refine (xQ a _).mono ?_
 rintro e w' ⟨rfl,h⟩
 subst w'
 generalize M.isA a=q at *
 cases q with
 | false =>
  go_wp2_with fail
  go_ret
  exact ⟨by rw [g.out];rfl,rfl⟩
 | true =>
  go_wp2_with fail
  refine (xQ d _).mono ?_
  rintro e w' ⟨rfl,h⟩
  subst w'
  generalize M.isA d=q2 at *
  cases q2 with
  | false =>
   go_wp2_with fail
   go_ret
   exact ⟨by rw [g.out];rfl,rfl⟩
  | true =>
   by_cases j:0<=b
   ·by_cases i:b<=32
    ·have f:Hid (Zt a b d=true):=by show _=_;rw [g.out];simp [j,i]
     go_wp2_with fail
     go_ret
     exact ⟨by rw [f.out];rfl,rfl⟩
    ·have f:Hid (Zt a b d=false):=by show _=_;rw [g.out];simp [i]
     have k:decide (b<=32)=false:=decide_eq_false i
     go_wp2_with fail
     go_ret
     exact ⟨by rw [f.out];rfl,rfl⟩
   ·have f:Hid (Zt a b d=false):=by show _=_;rw [g.out];simp [j]
    have l:decide (0<=b)=false:=decide_eq_false j
    go_wp2_with fail
    go_ret
    exact ⟨by rw [f.out];rfl,rfl⟩
def WD.mn (x:WD) (s:ByteArray):MN:=mnN x.rw (zA s).es (zA s).es.length
def WD.an (x:WD) (s:ByteArray):List Int×Int×Int:=((x.mn s).sv,Z8 (x.mn s).ttl 86400,nar (x.mn s).sc 0)
theorem jE {x:WD} (h:x.right=true):M.isA x.a=true/\0<=x.b/\x.b<=32/\0<=x.d/\x.d<4294967296/\yO x.V x.L x.R x.pl=true:=by
 have f:Zt x.a x.b x.d=true/\yO x.V x.L x.R x.pl=true:=by simpa [WD.right,ZU] using h
 have e:M.isA x.a=true/\0<=x.b/\x.b<=32/\0<=x.d/\x.d<4294967296:=by simpa [Zt] using f.1
 exact ⟨e.1,e.2.1,e.2.2.1,e.2.2.2.1,e.2.2.2.2,f.2⟩
theorem zee {V L R:Nat->Int} {n:Nat} (h:yO V L R n=true):∀ i,i<n->M.isP (V i) (L i)=true:=fun i hi=>by
 obtain ⟨_,_,a⟩:=Xh h
 have:n<=64/\M.okTo V L n=true:=by simpa [M.isMap] using a
 exact (M.okTo_iff.1 this.2 i hi).1
theorem zfG {x:WD} (h:x.right=true):0<=x.rw.dep/\x.rw.dep<=32:=by
 obtain ⟨_,_,_,_,_,a⟩:=jE h
 exact ⟨M.depTo_pos,M.depTo_le (fun i hi=>(M.isP_iff.1 (zee a i hi)).2.1)⟩
theorem zc1 {s:ByteArray} (h:j2 s=true):cpE s=0:=by simpa [j2] using h
theorem zch {x:WD} {s:ByteArray} (hf:j2 s=true) (hr:x.right=true):∃ k:Nat,1<=k/\k<=(cpX s).length/\(∀ f:Int,0<=f->f<k->x.ru (cpX s) f=(11,[],0,0))/\(∀ f:Int,(k:Int)<=f->x.ru (cpX s) f=(0,x.an s)):=by
 obtain ⟨m,l,_,_⟩:=qW (zc1 hf)
 obtain ⟨k,j,i,h,g⟩:=zfj (W:=x.rw) m l
 have e:∀ f:Int,0<=f->x.ru (cpX s) f=xG x.rw (cpX s) f.toNat rt0:=fun f h0=>by
  unfold WD.ru ruF
  rw [if_neg (by omega),if_pos (show ZU x.a x.b x.d x.V x.L x.R x.pl=true from hr)];rfl
 refine ⟨k,i,j,fun f h0 hfk=>?_,fun f hfk=>?_⟩
 ·rw [e f h0];exact h f.toNat (by omega)
 ·rw [e f (by omega)];exact g f.toNat (by omega)
theorem zf2 {x:WD} {s:ByteArray} (hf:j2 s=true) (hr:x.right=true):1<=(x.an s).2.1/\(x.an s).2.1<=86400/\0<=(x.an s).2.2/\(x.an s).2.2<=32/\(x.an s).2.1=(x.mn s).ttl/\(x.an s).2.2=(x.mn s).sc:=by
 obtain ⟨f,_,_,_⟩:=qW (zc1 hf)
 obtain ⟨b,d⟩:=je f
 obtain ⟨h,g⟩:=zfG hr
 have a:=zfW h g d
 rw [Nat.sub_add_cancel b] at a
 have e:1<=(x.mn s).ttl/\(x.mn s).ttl<=86400/\0<=(x.mn s).sc/\(x.mn s).sc<=32:=a
 unfold WD.an Z8 nar
 simp only
 refine ⟨?_,?_,?_,?_,?_,?_⟩
 all_goals (split<;>omega)
theorem zfk {x:WD} {s:ByteArray} (hf:j2 s=true) (hr:x.right=true):x.ru (cpX s) (cpX s).length=(0,x.an s):=by
 obtain ⟨k,_,a,_,h⟩:=zch hf hr
 exact h _ (by omega)
end Go.Proofs.YtaebngpoagjafabGreat
