import Derived.Test.YtaebngpoagjafabGreatU15
set_option maxRecDepth 100000
set_option maxHeartbeats 3200000
namespace Go.Proofs.YtaebngpoagjafabGreat
open Value renaming int → J
open IntKind renaming i64 → Z
open Go.RowKit
attribute [local go_sem ↓] Go.wp_at_zero Go.wp_at_succ
def SL (w:World) (b:Nat) (l:List SG):Prop:=∀ i g,l[i]?=some g->w.cell? ⟨b,i*5,none⟩=some (J Z g.kind)/\w.cell? ⟨b,i*5+1,none⟩=some (J Z g.place)/\w.cell? ⟨b,i*5+2,none⟩=some (J Z g.depth)/\w.cell? ⟨b,i*5+3,none⟩=some (J Z g.list)/\w.cell? ⟨b,i*5+4,none⟩=some (.string g.text)
theorem SL.of_block {w w':World} {b:Nat} {l:List SG} (h:SL w b l) (e:w'.heap[b]?=w.heap[b]?):SL w' b l:=fun i g hg=>by
 obtain ⟨k,j,f,d,a⟩:=h i g hg
 exact ⟨by rw [World.cell?_of_block (w:=w) e];exact k,by rw [World.cell?_of_block (w:=w) e];exact j,by rw [World.cell?_of_block (w:=w) e];exact f,by rw [World.cell?_of_block (w:=w) e];exact d,by rw [World.cell?_of_block (w:=w) e];exact a⟩
def ZI (g:SG):List SG->Nat
 | []=>0
 | x::r=>ZI g r+(if x.list=g.list/\x.kind=g.kind then 1 else 0)
def ZS (g:SG):List SG->Bool
 | []=>false
 | x::r=>ZS g r || (decide (x.list=g.list/\x.kind=g.kind) && (x.text.toList==g.text.toList))
theorem zeS (g:SG) (l:List SG) (n:Nat) (h:l.length<=n):ZI g l<=n:=by
 induction l generalizing n with
 | nil=>exact Nat.zero_le _
 | cons x r ih =>
  simp only [List.length_cons] at h
  simp only [ZI]
  have:=ih (n-1) (by omega)
  split<;>omega
theorem J4 (b cap:Nat) (l:List SG) (i:Nat) (g:SG) (w:World) (h:SL w b l) (hl:l.length<=100000) (hg:l[i]?=some g) :
 Calls Tryz.prog 137 #[.slice (some ⟨b,0,none⟩) l.length cap,J Z i] w fun e w'=>Below w.heap.size w w'/\e=.returned (.tuple #[J Z (ZI g (l.take i).reverse),.bool (ZS g (l.take i).reverse)]):=by
 go_enter Tryz.func137,Tryz.ntmps137
 go_wp2_with fail
 have D:i<l.length:=(List.getElem?_eq_some_iff.1 hg).1
 go_loopg [6,7,8] i (fun n x y z wr=>∃ (j:Nat),n+j=i/\x=J Z (ZI g (l.take j).reverse)/\y=.bool (ZS g (l.take j).reverse)/\z=J Z j/\wr.heap=w.heap/\Below w.heap.size w wr)
 case atStart=>exact ⟨0,by omega,rfl,rfl,rfl,rfl,Below.refl _ _⟩
 case round =>
  obtain ⟨j,R,rfl,rfl,rfl,u,B⟩:=hrel
  have m:Hid _:=B
  have r:Hid (wr.heap=w.heap):=u
  have d:SL wr b l:=h.of_block (by rw [u])
  obtain ⟨Y,X,W,V,U⟩:=d i g hg
  have Q:(0:Int)<=(i:Int):=by omega
  have P:(i:Int)<(l.length:Int):=by omega
  have O:(0:Int)<=(j:Int):=by omega
  clear B u
  by_cases C:j<i
  ·have A:(j:Int)<(i:Int):=by omega
   have N:(j:Int)<(l.length:Int):=by omega
   obtain ⟨x,o⟩:∃ x,l[j]?=some x:=⟨l[j]'(by omega),List.getElem?_eq_getElem (by omega)⟩
   obtain ⟨K,I,H,G,F⟩:=d j x o
   have f:(l.take (j+1)).reverse=x::(l.take j).reverse:=by
    rw [List.take_add_one,o];simp
   have q:Hid (ZI g (l.take (j+1)).reverse=ZI g (l.take j).reverse+(if x.list=g.list/\x.kind=g.kind then 1 else 0)):=by show _=_;rw [f];rfl
   have p:Hid (ZS g (l.take (j+1)).reverse=(ZS g (l.take j).reverse || (decide (x.list=g.list/\x.kind=g.kind) && (x.text.toList==g.text.toList)))):=by show _=_;rw [f];rfl
   have E:ZI g (l.take j).reverse<=j:=zeS g _ j (by simp;omega)
   clear f d h
   have HX:Hid _:=o
   have HG:Hid _:=hg
   clear o hg
   generalize hBN:ZI g (l.take j).reverse=bn at *
   generalize hBS:ZS g (l.take j).reverse=bs at *
   clear hBN hBS
   have L:(bn:Int)<=100000:=by omega
   cases hL:(x.list==g.list) with
   | false =>
    have a:Hid (¬ (x.list=g.list/\x.kind=g.kind)):=fun hc=>by have:=beq_eq_false_iff_ne.1 hL;exact this hc.1
    go_wp2_with fail
    go_quiet (fail)
    go_wp2_with fail
    go_roundg (gk-1)
    case measure=>omega
    case rel=>exact ⟨j+1,by omega,by rw [q.out,if_neg a.out];rfl,by rw [p.out,decide_eq_false a.out];simp,by go_num,r.out,zS m.out _⟩
   | true =>
    have k:x.list=g.list:=by simpa using hL
    cases hK:(x.kind==g.kind) with
    | false =>
     have a:Hid (¬ (x.list=g.list/\x.kind=g.kind)):=fun hc=>by have:=beq_eq_false_iff_ne.1 hK;exact this hc.2
     clear k
     go_wp2_with fail
     go_quiet (fail)
     go_wp2_with fail
     go_roundg (gk-1)
     case measure=>omega
     case rel=>exact ⟨j+1,by omega,by rw [q.out,if_neg a.out];rfl,by rw [p.out,decide_eq_false a.out];simp,by go_num,r.out,zS m.out _⟩
    | true =>
     have v:Hid (x.list=g.list/\x.kind=g.kind):=⟨k,by simpa using hK⟩
     clear k
     cases bs with
     | true =>
      go_wp2_with fail
      go_quiet (fail)
      go_wp2_with fail
      go_quiet (fail)
      go_wp2_with fail
      go_roundg (gk-1)
      case measure=>omega
      case rel=>exact ⟨j+1,by omega,by rw [q.out,if_pos v.out];rfl,by rw [p.out];simp,by go_num,r.out,zS m.out _⟩
     | false =>
      go_wp2_with fail
      go_quiet (fail)
      go_wp2_with fail
      go_quiet (fail)
      go_wp2_with fail
      go_roundg (gk-1)
      case measure=>omega
      case rel=>exact ⟨j+1,by omega,by rw [q.out,if_pos v.out];rfl,by rw [p.out,decide_eq_true v.out];simp,by go_num,r.out,zS m.out _⟩
  ·have s:j=i:=by omega
   have S:decide ((j:Int)<(i:Int))=false:=decide_eq_false (by omega)
   subst s
   go_wp2_with fail
   go_ret2
   exact ⟨m.out,rfl⟩
def Zx:List SG->Nat
 | []=>0
 | x::r=>if x.kind=1 then r.length+1 else Zx r
def isR (g x:SG):Bool:=decide (x.kind=1) && (x.text.toList==g.text.toList)
def jU (l:List SG) (n:Nat):Int:=(Zx (l.take n).reverse:Int)-1
theorem jT (l:List SG):Zx l<=l.length:=by
 induction l with
 | nil=>exact Nat.le_refl _
 | cons x r ih=>simp only [Zx,List.length_cons];split<;>omega
theorem zbd (b cap:Nat) (l:List SG) (i:Nat) (g:SG) (w:World) (h:SL w b l) (hl:l.length<=100000) (hg:l[i]?=some g) :
 Calls Tryz.prog 136 #[.slice (some ⟨b,0,none⟩) l.length cap,J Z i] w fun e w'=>Below w.heap.size w w'/\e=.returned (.bool ((l.take (Zx (l.take (i+1)).reverse-1)).any (isR g))):=by
 go_enter Tryz.func136,Tryz.ntmps136
 go_wp2_with fail
 have Y:i<l.length:=(List.getElem?_eq_some_iff.1 hg).1
 go_loopg [5,6] (i+1) (fun n x y wr=>∃ (j:Nat),n+j=i+1/\x=J Z (jU l j)/\y=J Z j/\wr.heap=w.heap/\Below w.heap.size w wr)
 case atStart=>exact ⟨0,by omega,rfl,rfl,rfl,Below.refl _ _⟩
 case round =>
  obtain ⟨j,W,rfl,rfl,o,z⟩:=hrel
  have F:Hid _:=z
  have D:Hid (wr.heap=w.heap):=o
  have a:SL wr b l:=h.of_block (by rw [o])
  have i0:(0:Int)<=(i:Int):=by omega
  have i1:(i:Int)<(l.length:Int):=by omega
  have V:(0:Int)<=(j:Int):=by omega
  clear z o
  by_cases u:j<=i
  ·have s:(j:Int)<=(i:Int):=by omega
   have U:(j:Int)<(l.length:Int):=by omega
   obtain ⟨x,d⟩:∃ x,l[j]?=some x:=⟨l[j]'(by omega),List.getElem?_eq_getElem (by omega)⟩
   obtain ⟨S,R,Q,P,O⟩:=a j x d
   have r:(l.take (j+1)).reverse=x::(l.take j).reverse:=by
    rw [List.take_add_one,d];simp
   have A:Hid (jU l (j+1)=if x.kind=1 then (j:Int) else jU l j):=by
    show _=_
    unfold jU
    rw [r]
    simp only [Zx,List.length_reverse,List.length_take]
    split
    ·rw [Nat.min_eq_left (by omega)];omega
    ·rfl
   clear r a
   have HX:Hid _:=d
   clear d
   cases hK:(x.kind==1) with
   | false =>
    have p:Hid (¬ x.kind=1):=fun hc=>by have:=beq_eq_false_iff_ne.1 hK;exact this hc
    go_wp2_with fail
    go_roundg (gk-1)
    case measure=>omega
    case rel=>exact ⟨j+1,by omega,by rw [A.out,if_neg p.out],by go_num,D.out,F.out⟩
   | true =>
    have p:Hid (x.kind=1):=by show _=_;simpa using hK
    go_wp2_with fail
    go_roundg (gk-1)
    case measure=>omega
    case rel=>exact ⟨j+1,by omega,by rw [A.out,if_pos p.out],by go_num,D.out,F.out⟩
  ·have f:j=i+1:=by omega
   have hd:¬ (j:Int)<=(i:Int):=by omega
   subst f
   have v:=jT (l.take (i+1)).reverse
   have HG:Hid _:=hg
   have E:Hid (SL wr b l):=a
   obtain ⟨L,K,I,H,G⟩:=a i g hg
   unfold jU
   clear hg a h
   simp only [List.length_reverse,List.length_take] at v
   rw [Nat.min_eq_left (by omega)] at v
   generalize hm:Zx (l.take (i+1)).reverse=m at *
   have B:Hid _:=hm
   clear hm
   go_wp2_with fail
   clear L K I H G
   go_loopg [7] m (fun n x wz=>∃ (j:Nat),n+j=m/\j<=m-1/\x=J Z j/\Hid ((l.take j).any (isR g)=false)/\wz.heap=w.heap/\Below w.heap.size w wz)
   case atStart=>exact ⟨0,by omega,by omega,rfl,rfl,D.out,F.out⟩
   case round =>
    obtain ⟨j,W,X,rfl,N,o,z⟩:=hrel
    have k:Hid _:=z
    have C:Hid _:=o
    have a:SL wr b l:=E.out.of_block (by rw [o,D.out])
    obtain ⟨L,K,I,H,G⟩:=a i g HG.out
    have V:(0:Int)<=(j:Int):=by omega
    clear z o
    by_cases u:j<m-1
    ·have s:(j:Int)<(m:Int)-1:=by omega
     have U:(j:Int)<(l.length:Int):=by omega
     obtain ⟨x,d⟩:∃ x,l[j]?=some x:=⟨l[j]'(by omega),List.getElem?_eq_getElem (by omega)⟩
     obtain ⟨S,R,Q,P,O⟩:=a j x d
     have A:Hid ((l.take (j+1)).any (isR g)=isR g x):=by
      show _=_
      rw [List.take_add_one,d,List.any_append,N.out];simp
     have HY:Hid (isR g x=true->(l.take (m-1)).any (isR g)=true):=fun h1=>by
      rw [List.any_eq_true]
      refine ⟨x,?_,h1⟩
      rw [List.mem_iff_getElem?]
      exact ⟨j,by rw [List.getElem?_take_of_lt u];exact d⟩
     clear a d
     cases hK:(x.kind==1) with
     | false =>
      have q:Hid (isR g x=false):=by
       show _=_
       have:=beq_eq_false_iff_ne.1 hK
       simp [isR,this]
      go_wp2_with fail
      go_quiet (fail)
      go_wp2_with fail
      go_roundg (gk-1)
      case measure=>omega
      case rel=>exact ⟨j+1,by omega,by omega,by go_num,A.out.trans q.out,C.out,zS k.out _⟩
     | true =>
      cases hT:(x.text.toList==g.text.toList) with
      | false =>
       have q:Hid (isR g x=false):=by
        show _=_
        simp only [isR,hT];simp
       go_wp2_with fail
       go_quiet (fail)
       go_wp2_with fail
       go_roundg (gk-1)
       case measure=>omega
       case rel=>exact ⟨j+1,by omega,by omega,by go_num,A.out.trans q.out,C.out,zS k.out _⟩
      | true =>
       have q:Hid ((l.take (m-1)).any (isR g)=true):=HY.out (by
        have:=beq_iff_eq.1 hK
        simp only [isR,hT,this];simp)
       go_wp2_with fail
       go_quiet (fail)
       go_wp2_with fail
       go_ret
       exact ⟨zS k.out _,by rw [B.out,q.out];rfl⟩
    ·have f:j=m-1:=by omega
     have hd:¬ (j:Int)<(m:Int)-1:=by omega
     have q:Hid ((l.take (m-1)).any (isR g)=false):=by show _=_;rw [<- f];exact N.out
     clear f
     go_wp2_with fail
     go_ret
     exact ⟨k.out,by rw [B.out,q.out];rfl⟩
def T.val (s:ByteArray):Nat->Int
 | 0=>0
 | n+1=>T.val s n*10+(T.ch s n-48)
def T.digs (s:ByteArray):Prop:=∀ i,i<s.size->48<=T.ch s i/\T.ch s i<=57
theorem T.val_bd {s:ByteArray} (h:T.digs s):∀ n,n<=s.size->0<=T.val s n/\T.val s n+1<=10 ^ n:=by
 intro n
 induction n with
 | zero=>intro _;exact ⟨Int.le_refl _,by simp [T.val]⟩
 | succ n ih =>
  intro a
  have d:=ih (by omega)
  have b:=h n (by omega)
  have e:(10:Int) ^ (n+1)=10 ^ n*10:=Int.pow_succ _ _
  simp only [T.val]
  rw [e]
  exact ⟨by omega,by omega⟩
theorem Zn (s:ByteArray) (w:World) (hs:s.size<=2000) :
 Calls Tryz.prog 151 #[.string s] w fun e w'=>Below w.heap.size w w'/\∃ v,e=.returned (J Z v)/\(T.digs s->s.size<=9->v=T.val s s.size):=by
 go_enter Tryz.func151,Tryz.ntmps151
 go_wp2_with fail
 go_loopg [3,4] s.size (fun n x y wr=>∃ (j:Nat) (v:Int),n+j=s.size/\x=J Z v/\y=J Z j/\Hid (T.digs s->s.size<=9->v=T.val s j)/\Below w.heap.size w wr)
 case atStart=>exact ⟨0,0,by omega,rfl,rfl,fun _ _=>rfl,Below.refl _ _⟩
 case round =>
  obtain ⟨j,v,u,rfl,rfl,i,f⟩:=hrel
  have k:Hid (Below w.heap.size w wr):=f
  clear f
  by_cases a:j<s.size
  ·have h:(j:Int)<(s.size:Int):=by omega
   have o:((s[j]).toNat:Int)=T.ch s j:=(T.ch_lt a).symm
   obtain ⟨q,p⟩:=T.ch_bd a
   go_wp2_with fail
   go_roundg (gk-1)
   case measure=>omega
   case rel=>exact ⟨j+1,_,by omega,rfl,by go_num,fun b h9=>by
    have e:=i.out b h9
    have f:=T.val_bd b j (by omega)
    have m:=b j a
    have r:(10:Int) ^ j<=10 ^ 9:=by
     have g:(10:Nat) ^ j<=10 ^ 9:=Nat.pow_le_pow_right (by omega) (by omega)
     exact_mod_cast g
    have l:(10:Int) ^ 9=1000000000:=by decide
    subst e
    simp only [T.val]
    unfold wrap64
    omega,k.out⟩
  ·have d:j=s.size:=by omega
   have b:decide ((j:Int)<(s.size:Int))=false:=decide_eq_false (by omega)
   go_wp2_with fail
   go_ret
   exact ⟨k.out,v,rfl,fun g h2=>(i.out g h2).trans (by rw [d])⟩
def zR (k v:Int):Bool :=
 if k=4 then decide (64<=v) else if k=5 then (v==0 || decide (1000<v)) else if k=6 then (v==0 || decide (86400<v))
 else if k=7 then decide (99<v) else if k=8 then decide (16<=v) else false
def sgA (g:SG):Value:=.agg #[J Z g.kind,J Z g.place,J Z g.depth,J Z g.list,.string g.text]
theorem Zm (g:SG) (w:World) (hs:g.text.size<=2000) :
 Calls Tryz.prog 138 #[sgA g] w fun e w'=>Below w.heap.size w w'/\∃ v,e=.returned (.bool (zR g.kind v))/\(T.digs g.text->g.text.size<=9->v=T.val g.text g.text.size):=by
 unfold sgA
 go_enter Tryz.func138,Tryz.ntmps138
 go_wp2_with fail
 refine (Zn g.text _ hs).mono ?_
 rintro e j ⟨f,v,rfl,q⟩
 have h:Below w.heap.size w j:=((Below.refl _ _).alloc (Nat.le_refl _) _).trans (f.mono (by simp))
 have i:j.cell? ⟨w.heap.size,0,none⟩=some (J Z g.kind):=(f.cell (p:=⟨w.heap.size,0,none⟩) (by simp)).trans (by simp)
 have d:Hid (Below w.heap.size w j):=h
 have b:Hid (T.digs g.text->g.text.size<=9->v=T.val g.text g.text.size):=q
 clear h f q
 cases k4:(g.kind==4) with
 | true =>
  have o:g.kind=4:=by simpa using k4
  clear k4
  rw [o] at i
  have a:Hid (zR g.kind v=decide (64<=v)):=by show _=_;rw [o];rfl
  clear o
  go_wp2_with fail
  go_ret
  exact ⟨d.out,v,by rw [a.out];rfl,b.out⟩
 | false =>
  cases k5:(g.kind==5) with
  | true =>
   have n:g.kind=5:=by simpa using k5
   clear k5 k4
   rw [n] at i
   have a:Hid (zR g.kind v=(v==0 || decide (1000<v))):=by show _=_;rw [n];rfl
   clear n
   cases v0:(v==0) with
   | true =>
    have a:Hid (zR g.kind v=true):=a.out.trans (by rw [v0];rfl)
    go_wp2_with fail
    go_ret
    exact ⟨d.out,v,by rw [a.out];rfl,b.out⟩
   | false =>
    have a:Hid (zR g.kind v=decide (1000<v)):=a.out.trans (by rw [v0];rfl)
    go_wp2_with fail
    go_ret
    exact ⟨d.out,v,by rw [a.out];rfl,b.out⟩
  | false =>
   cases k6:(g.kind==6) with
   | true =>
    have m:g.kind=6:=by simpa using k6
    clear k6 k4 k5
    rw [m] at i
    have a:Hid (zR g.kind v=(v==0 || decide (86400<v))):=by show _=_;rw [m];rfl
    clear m
    cases v0:(v==0) with
    | true =>
     have a:Hid (zR g.kind v=true):=a.out.trans (by rw [v0];rfl)
     go_wp2_with fail
     go_ret
     exact ⟨d.out,v,by rw [a.out];rfl,b.out⟩
    | false =>
     have a:Hid (zR g.kind v=decide (86400<v)):=a.out.trans (by rw [v0];rfl)
     go_wp2_with fail
     go_ret
     exact ⟨d.out,v,by rw [a.out];rfl,b.out⟩
   | false =>
    cases k7:(g.kind==7) with
    | true =>
     have l:g.kind=7:=by simpa using k7
     clear k7 k4 k5 k6
     rw [l] at i
     have a:Hid (zR g.kind v=decide (99<v)):=by show _=_;rw [l];rfl
     clear l
     go_wp2_with fail
     go_ret
     exact ⟨d.out,v,by rw [a.out];rfl,b.out⟩
    | false =>
     cases k8:(g.kind==8) with
     | true =>
      have k:g.kind=8:=by simpa using k8
      clear k8 k4 k5 k6 k7
      rw [k] at i
      have a:Hid (zR g.kind v=decide (16<=v)):=by show _=_;rw [k];rfl
      clear k
      go_wp2_with fail
      go_ret
      exact ⟨d.out,v,by rw [a.out];rfl,b.out⟩
     | false =>
      have a:Hid (zR g.kind v=false):=by
       show _=_
       simp only [beq_eq_false_iff_ne] at k4 k5 k6 k7 k8
       unfold zR;rw [if_neg k4,if_neg k5,if_neg k6,if_neg k7,if_neg k8]
      go_wp2_with fail
      go_ret
      exact ⟨d.out,v,by rw [a.out];rfl,b.out⟩
def yb (kd d:Int) (th:Bool) (n:Int) (sm wr:Bool):Int :=
 if kd=3/\12<=d then 3 else if 16<=n then 4 else if (kd=1/\th=true)\/(kd=2/\th=false) then 5 else if wr=true then 6 else if sm=true then 7 else 0
def QR (l:List SG) (i:Nat) (g:SG):Bool:=(l.take (Zx (l.take (i+1)).reverse-1)).any (isR g)
def qQ (l:List SG) (i:Nat) (g:SG):Int:=if g.list=-1 then 0 else (ZI g (l.take i).reverse:Int)
def qD (l:List SG) (i:Nat) (g:SG):Bool:=if g.list=-1 then false else ZS g (l.take i).reverse
def zbs (l:List SG) (i:Nat) (g:SG) (v:Int):Int:=yb g.kind g.depth (QR l i g) (qQ l i g) (qD l i g) (zR g.kind v)
theorem zbu (b cap:Nat) (l:List SG) (i:Nat) (g:SG) (w:World) (h:SL w b l) (hl:l.length<=100000) (hg:l[i]?=some g) (hbw:b<w.heap.size) (hs:g.text.size<=2000) :
 Calls Tryz.prog 97 #[.slice (some ⟨b,0,none⟩) l.length cap,J Z i] w fun e w'=>Below w.heap.size w w'/\∃ v,e=.returned (J Z (zbs l i g v))/\(T.digs g.text->g.text.size<=9->v=T.val g.text g.text.size):=by
 obtain ⟨g0,g1,g2,g3,g4⟩:=h i g hg
 have a3:i<l.length:=(List.getElem?_eq_some_iff.1 hg).1
 have i0:(0:Int)<=(i:Int):=by omega
 have i1:(i:Int)<(l.length:Int):=by omega
 have a2:Hid (SL w b l):=h
 have HG:Hid _:=hg
 clear h hg
 unfold zbs
 generalize hth:QR l i g=th
 generalize hnn:qQ l i g=n
 generalize hsm:qD l i g=sm
 have a1:Hid _:=hth
 have P:Hid _:=hnn
 have O:Hid _:=hsm
 clear hth hnn hsm
 go_enter Tryz.func97,Tryz.ntmps97
 go_wp2_with fail
 have G:SL (w.alloc (.cells #[J Z g.kind,J Z g.place,J Z g.depth,J Z g.list,.string g.text] 162)) b l:=a2.out.of_block (Below.heap_alloc _ _ _ hbw)
 have S:=zbd b cap l i g _ G hl HG.out
 rw [show (l.take (Zx (l.take (i+1)).reverse-1)).any (isR g)=th from a1.out] at S
 refine S.mono ?_
 rintro e E ⟨F,rfl⟩
 have B:w.heap.size<E.heap.size:=Nat.lt_of_lt_of_le (by simp) F.size
 have q:∀ j,E.cell? ⟨w.heap.size,j,none⟩=(w.alloc (.cells #[J Z g.kind,J Z g.place,J Z g.depth,J Z g.list,.string g.text] 162)).cell? ⟨w.heap.size,j,none⟩:=fun j=>F.cell (p:=⟨w.heap.size,j,none⟩) (by simp)
 have b0:E.cell? ⟨w.heap.size,0,none⟩=some (J Z g.kind):=(q 0).trans (by simp)
 have b1:E.cell? ⟨w.heap.size,1,none⟩=some (J Z g.place):=(q 1).trans (by simp)
 have b2:E.cell? ⟨w.heap.size,2,none⟩=some (J Z g.depth):=(q 2).trans (by simp)
 have b3:E.cell? ⟨w.heap.size,3,none⟩=some (J Z g.list):=(q 3).trans (by simp)
 have b4:E.cell? ⟨w.heap.size,4,none⟩=some (.string g.text):=(q 4).trans (by simp)
 have W:Hid (Below w.heap.size w E):=((Below.refl _ _).alloc (Nat.le_refl _) _).trans (F.mono (by simp))
 have V:Hid (SL E b l):=G.of_block (F.block _ (Nat.lt_of_lt_of_le hbw (by simp)))
 clear S G q F g0 g1 g2 g3 g4
 cases hl1:(g.list==-1) with
 | true =>
  have A:g.list=-1:=by simpa using hl1
  have a0:(g.list != -1)=false:=by simp [bne,hl1]
  have Y:n=0:=by rw [<- P.out];unfold qQ;rw [if_pos A]
  have X:sm=false:=by rw [<- O.out];unfold qD;rw [if_pos A]
  clear P O A
  have y:Hid _:=W.out
  have x:Hid (w.heap.size<=E.heap.size):=Nat.le_of_lt B
  subst Y
  subst X
  cases k3:(g.kind==3) with
  | true =>
   have C:g.kind=3:=by simpa using k3
   have R:(g.kind==1)=false:=by rw [C];decide
   have K:(g.kind==2)=false:=by rw [C];decide
   by_cases D:12<=g.depth
   ·have dd:decide (12<=g.depth)=true:=decide_eq_true D
    have k:Hid (∀ wr,yb g.kind g.depth th 0 false wr=3):=fun wr=>by simp [yb,C,D]
    clear C
    go_wp2_with fail
    go_ret
    exact ⟨y.out,T.val g.text g.text.size,by rw [k.out];rfl,fun _ _=>rfl⟩
   ·have dd:decide (12<=g.depth)=false:=decide_eq_false D
    have k:Hid (∀ wr,yb g.kind g.depth th 0 false wr=if wr=true then 6 else 0):=fun wr=>by simp [yb,C,D]
    clear D C
    go_wp2_with fail
    refine (Zm g _ hs).mono ?_
    rintro e z ⟨f,v,rfl,r⟩
    have d:Hid (Below w.heap.size w z):=y.out.trans (f.mono x.out)
    have a:Hid _:=r
    clear f r
    cases hwr:zR g.kind v with
    | true =>
     have m:Hid (yb g.kind g.depth th 0 false (zR g.kind v)=6):=by show _=_;rw [k.out,hwr];rfl
     go_wp2_with fail
     go_ret
     exact ⟨d.out,v,by rw [m.out];rfl,a.out⟩
    | false =>
     have m:Hid (yb g.kind g.depth th 0 false (zR g.kind v)=0):=by show _=_;rw [k.out,hwr];rfl
     go_wp2_with fail
     go_ret
     exact ⟨d.out,v,by rw [m.out];rfl,a.out⟩
  | false =>
   have o:¬ g.kind=3:=beq_eq_false_iff_ne.1 k3
   cases R:(g.kind==1) with
   | true =>
    have I:g.kind=1:=by simpa using R
    have K:(g.kind==2)=false:=by rw [I];decide
    cases th with
    | true =>
     have k:Hid (∀ wr,yb g.kind g.depth true 0 false wr=5):=fun wr=>by simp [yb,I]
     clear I o
     go_wp2_with fail
     go_ret
     exact ⟨y.out,T.val g.text g.text.size,by rw [k.out];rfl,fun _ _=>rfl⟩
    | false =>
     have k:Hid (∀ wr,yb g.kind g.depth false 0 false wr=if wr=true then 6 else 0):=fun wr=>by simp [yb,I]
     clear I o
     go_wp2_with fail
     refine (Zm g _ hs).mono ?_
     rintro e z ⟨f,v,rfl,r⟩
     have d:Hid (Below w.heap.size w z):=y.out.trans (f.mono x.out)
     have a:Hid _:=r
     clear f r
     cases hwr:zR g.kind v with
     | true =>
      have m:Hid (yb g.kind g.depth false 0 false (zR g.kind v)=6):=by show _=_;rw [k.out,hwr];rfl
      go_wp2_with fail
      go_ret
      exact ⟨d.out,v,by rw [m.out];rfl,a.out⟩
     | false =>
      have m:Hid (yb g.kind g.depth false 0 false (zR g.kind v)=0):=by show _=_;rw [k.out,hwr];rfl
      go_wp2_with fail
      go_ret
      exact ⟨d.out,v,by rw [m.out];rfl,a.out⟩
   | false =>
    have u:¬ g.kind=1:=beq_eq_false_iff_ne.1 R
    cases K:(g.kind==2) with
    | true =>
     have N:g.kind=2:=by simpa using K
     cases th with
     | true =>
      have k:Hid (∀ wr,yb g.kind g.depth true 0 false wr=if wr=true then 6 else 0):=fun wr=>by simp [yb,N]
      clear N u o
      go_wp2_with fail
      refine (Zm g _ hs).mono ?_
      rintro e z ⟨f,v,rfl,r⟩
      have d:Hid (Below w.heap.size w z):=y.out.trans (f.mono x.out)
      have a:Hid _:=r
      clear f r
      cases hwr:zR g.kind v with
      | true =>
       have m:Hid (yb g.kind g.depth true 0 false (zR g.kind v)=6):=by show _=_;rw [k.out,hwr];rfl
       go_wp2_with fail
       go_ret
       exact ⟨d.out,v,by rw [m.out];rfl,a.out⟩
      | false =>
       have m:Hid (yb g.kind g.depth true 0 false (zR g.kind v)=0):=by show _=_;rw [k.out,hwr];rfl
       go_wp2_with fail
       go_ret
       exact ⟨d.out,v,by rw [m.out];rfl,a.out⟩
     | false =>
      have k:Hid (∀ wr,yb g.kind g.depth false 0 false wr=5):=fun wr=>by simp [yb,N]
      clear N u o
      go_wp2_with fail
      go_ret
      exact ⟨y.out,T.val g.text g.text.size,by rw [k.out];rfl,fun _ _=>rfl⟩
    | false =>
     have H:¬ g.kind=2:=beq_eq_false_iff_ne.1 K
     have k:Hid (∀ wr,yb g.kind g.depth th 0 false wr=if wr=true then 6 else 0):=fun wr=>by simp [yb,u,H,o]
     clear u H o
     go_wp2_with fail
     refine (Zm g _ hs).mono ?_
     rintro e z ⟨f,v,rfl,r⟩
     have d:Hid (Below w.heap.size w z):=y.out.trans (f.mono x.out)
     have a:Hid _:=r
     clear f r
     cases hwr:zR g.kind v with
     | true =>
      have m:Hid (yb g.kind g.depth th 0 false (zR g.kind v)=6):=by show _=_;rw [k.out,hwr];rfl
      go_wp2_with fail
      go_ret
      exact ⟨d.out,v,by rw [m.out];rfl,a.out⟩
     | false =>
      have m:Hid (yb g.kind g.depth th 0 false (zR g.kind v)=0):=by show _=_;rw [k.out,hwr];rfl
      go_wp2_with fail
      go_ret
      exact ⟨d.out,v,by rw [m.out];rfl,a.out⟩
 | false =>
  have A:¬ g.list=-1:=beq_eq_false_iff_ne.1 hl1
  have a0:(g.list != -1)=true:=by simp [bne,hl1]
  have Y:((ZI g (l.take i).reverse:Nat):Int)=n:=by rw [<- P.out];unfold qQ;rw [if_neg A]
  have X:ZS g (l.take i).reverse=sm:=by rw [<- O.out];unfold qD;rw [if_neg A]
  go_wp2_with fail
  have U:=J4 b cap l i g _ V.out hl HG.out
  rw [Y,X] at U
  refine U.mono ?_
  rintro e Q ⟨L,rfl⟩
  have q:∀ j,Q.cell? ⟨w.heap.size,j,none⟩=E.cell? ⟨w.heap.size,j,none⟩:=fun j=>L.cell (p:=⟨w.heap.size,j,none⟩) B
  have b0:Q.cell? ⟨w.heap.size,0,none⟩=some (J Z g.kind):=(q 0).trans b0
  have b1:Q.cell? ⟨w.heap.size,1,none⟩=some (J Z g.place):=(q 1).trans b1
  have b2:Q.cell? ⟨w.heap.size,2,none⟩=some (J Z g.depth):=(q 2).trans b2
  have b3:Q.cell? ⟨w.heap.size,3,none⟩=some (J Z g.list):=(q 3).trans b3
  have b4:Q.cell? ⟨w.heap.size,4,none⟩=some (.string g.text):=(q 4).trans b4
  have y:Hid (Below w.heap.size w Q):=W.out.trans (L.mono (Nat.le_of_lt B))
  have x:Hid (w.heap.size<=Q.heap.size):=Nat.le_trans (Nat.le_of_lt B) L.size
  clear U q L P O A Y X
  cases k3:(g.kind==3) with
  | true =>
   have C:g.kind=3:=by simpa using k3
   have R:(g.kind==1)=false:=by rw [C];decide
   have K:(g.kind==2)=false:=by rw [C];decide
   by_cases D:12<=g.depth
   ·have dd:decide (12<=g.depth)=true:=decide_eq_true D
    have k:Hid (∀ wr,yb g.kind g.depth th n sm wr=3):=fun wr=>by simp [yb,C,D]
    clear C
    go_wp2_with fail
    go_ret
    exact ⟨y.out,T.val g.text g.text.size,by rw [k.out];rfl,fun _ _=>rfl⟩
   ·have dd:decide (12<=g.depth)=false:=decide_eq_false D
    by_cases s:16<=n
    ·have dn:decide (16<=n)=true:=decide_eq_true s
     have k:Hid (∀ wr,yb g.kind g.depth th n sm wr=4):=fun wr=>by simp [yb,C,D,s]
     go_wp2_with fail
     go_ret
     exact ⟨y.out,T.val g.text g.text.size,by rw [k.out];rfl,fun _ _=>rfl⟩
    ·have dn:decide (16<=n)=false:=decide_eq_false s
     have k:Hid (∀ wr,yb g.kind g.depth th n sm wr=if wr=true then 6 else if sm=true then 7 else 0):=fun wr=>by simp [yb,C,D,s]
     clear s D C
     go_wp2_with fail
     refine (Zm g _ hs).mono ?_
     rintro e z ⟨f,v,rfl,r⟩
     have d:Hid (Below w.heap.size w z):=y.out.trans (f.mono x.out)
     have a:Hid _:=r
     clear f r
     cases hwr:zR g.kind v with
     | true =>
      have m:Hid (yb g.kind g.depth th n sm (zR g.kind v)=6):=by show _=_;rw [k.out,hwr];rfl
      go_wp2_with fail
      go_ret
      exact ⟨d.out,v,by rw [m.out];rfl,a.out⟩
     | false =>
      cases sm with
      | true =>
       have m:Hid (yb g.kind g.depth th n true (zR g.kind v)=7):=by show _=_;rw [k.out,hwr];rfl
       go_wp2_with fail
       go_ret
       exact ⟨d.out,v,by rw [m.out];rfl,a.out⟩
      | false =>
       have m:Hid (yb g.kind g.depth th n false (zR g.kind v)=0):=by show _=_;rw [k.out,hwr];rfl
       go_wp2_with fail
       go_ret
       exact ⟨d.out,v,by rw [m.out];rfl,a.out⟩
  | false =>
   have o:¬ g.kind=3:=beq_eq_false_iff_ne.1 k3
   by_cases s:16<=n
   ·have dn:decide (16<=n)=true:=decide_eq_true s
    have k:Hid (∀ wr,yb g.kind g.depth th n sm wr=4):=fun wr=>by simp [yb,o,s]
    go_wp2_with fail
    go_ret
    exact ⟨y.out,T.val g.text g.text.size,by rw [k.out];rfl,fun _ _=>rfl⟩
   ·have dn:decide (16<=n)=false:=decide_eq_false s
    cases R:(g.kind==1) with
    | true =>
     have I:g.kind=1:=by simpa using R
     have K:(g.kind==2)=false:=by rw [I];decide
     cases th with
     | true =>
      have k:Hid (∀ wr,yb g.kind g.depth true n sm wr=5):=fun wr=>by simp [yb,s,I]
      clear s I o
      go_wp2_with fail
      go_ret
      exact ⟨y.out,T.val g.text g.text.size,by rw [k.out];rfl,fun _ _=>rfl⟩
     | false =>
      have k:Hid (∀ wr,yb g.kind g.depth false n sm wr=if wr=true then 6 else if sm=true then 7 else 0):=fun wr=>by simp [yb,s,I]
      clear s I o
      go_wp2_with fail
      refine (Zm g _ hs).mono ?_
      rintro e z ⟨f,v,rfl,r⟩
      have d:Hid (Below w.heap.size w z):=y.out.trans (f.mono x.out)
      have a:Hid _:=r
      clear f r
      cases hwr:zR g.kind v with
      | true =>
       have m:Hid (yb g.kind g.depth false n sm (zR g.kind v)=6):=by show _=_;rw [k.out,hwr];rfl
       go_wp2_with fail
       go_ret
       exact ⟨d.out,v,by rw [m.out];rfl,a.out⟩
      | false =>
       cases sm with
       | true =>
        have m:Hid (yb g.kind g.depth false n true (zR g.kind v)=7):=by show _=_;rw [k.out,hwr];rfl
        go_wp2_with fail
        go_ret
        exact ⟨d.out,v,by rw [m.out];rfl,a.out⟩
       | false =>
        have m:Hid (yb g.kind g.depth false n false (zR g.kind v)=0):=by show _=_;rw [k.out,hwr];rfl
        go_wp2_with fail
        go_ret
        exact ⟨d.out,v,by rw [m.out];rfl,a.out⟩
    | false =>
     have u:¬ g.kind=1:=beq_eq_false_iff_ne.1 R
     cases K:(g.kind==2) with
     | true =>
      have N:g.kind=2:=by simpa using K
      cases th with
      | true =>
       have k:Hid (∀ wr,yb g.kind g.depth true n sm wr=if wr=true then 6 else if sm=true then 7 else 0):=fun wr=>by simp [yb,s,N]
       clear s N u o
       go_wp2_with fail
       refine (Zm g _ hs).mono ?_
       rintro e z ⟨f,v,rfl,r⟩
       have d:Hid (Below w.heap.size w z):=y.out.trans (f.mono x.out)
       have a:Hid _:=r
       clear f r
       cases hwr:zR g.kind v with
       | true =>
        have m:Hid (yb g.kind g.depth true n sm (zR g.kind v)=6):=by show _=_;rw [k.out,hwr];rfl
        go_wp2_with fail
        go_ret
        exact ⟨d.out,v,by rw [m.out];rfl,a.out⟩
       | false =>
        cases sm with
        | true =>
         have m:Hid (yb g.kind g.depth true n true (zR g.kind v)=7):=by show _=_;rw [k.out,hwr];rfl
         go_wp2_with fail
         go_ret
         exact ⟨d.out,v,by rw [m.out];rfl,a.out⟩
        | false =>
         have m:Hid (yb g.kind g.depth true n false (zR g.kind v)=0):=by show _=_;rw [k.out,hwr];rfl
         go_wp2_with fail
         go_ret
         exact ⟨d.out,v,by rw [m.out];rfl,a.out⟩
      | false =>
       have k:Hid (∀ wr,yb g.kind g.depth false n sm wr=5):=fun wr=>by simp [yb,s,N]
       clear s N u o
       go_wp2_with fail
       go_ret
       exact ⟨y.out,T.val g.text g.text.size,by rw [k.out];rfl,fun _ _=>rfl⟩
     | false =>
      have H:¬ g.kind=2:=beq_eq_false_iff_ne.1 K
      have k:Hid (∀ wr,yb g.kind g.depth th n sm wr=if wr=true then 6 else if sm=true then 7 else 0):=fun wr=>by simp [yb,s,u,H,o]
      clear s u H o
      go_wp2_with fail
      refine (Zm g _ hs).mono ?_
      rintro e z ⟨f,v,rfl,r⟩
      have d:Hid (Below w.heap.size w z):=y.out.trans (f.mono x.out)
      have a:Hid _:=r
      clear f r
      cases hwr:zR g.kind v with
      | true =>
       have m:Hid (yb g.kind g.depth th n sm (zR g.kind v)=6):=by show _=_;rw [k.out,hwr];rfl
       go_wp2_with fail
       go_ret
       exact ⟨d.out,v,by rw [m.out];rfl,a.out⟩
      | false =>
       cases sm with
       | true =>
        have m:Hid (yb g.kind g.depth th n true (zR g.kind v)=7):=by show _=_;rw [k.out,hwr];rfl
        go_wp2_with fail
        go_ret
        exact ⟨d.out,v,by rw [m.out];rfl,a.out⟩
       | false =>
        have m:Hid (yb g.kind g.depth th n false (zR g.kind v)=0):=by show _=_;rw [k.out,hwr];rfl
        go_wp2_with fail
        go_ret
        exact ⟨d.out,v,by rw [m.out];rfl,a.out⟩
theorem T.ch_extract (s:ByteArray) (p e i:Nat) (he:e<=s.size) (hi:i<e-p):T.ch (s.extract p e) i=T.ch s (p+i):=by
 have b:i<(s.extract p e).size:=by rw [ByteArray.size_extract];omega
 have a:p+i<s.size:=by omega
 rw [T.ch_lt b,T.ch_lt a]
 rw [ByteArray.getElem_extract]
theorem T.size_extract (s:ByteArray) (p e:Nat) (he:e<=s.size):(s.extract p e).size=e-p:=by rw [ByteArray.size_extract];omega
theorem T.dgF_all (s:ByteArray) (most lim:Int) (plain:Bool) (p:Nat):∀ n j,p<=j->((j:Int)-p<=most)->(∀ i,p<=i->i<j->T.dig (T.ch s i)=true)->0<=most ->
 (((T.dgF s most lim plain p n j).2:Int)-p<=most)/\(∀ i,p<=i->i<(T.dgF s most lim plain p n j).2->T.dig (T.ch s i)=true):=by
 intro n
 induction n with
 | zero=>intro j _ b a _;exact ⟨b,a⟩
 | succ n ih =>
  intro j f b a e
  cases hd:T.dig (T.ch s j) with
  | false=>rw [T.dgF_end hd];exact ⟨b,a⟩
  | true =>
   cases hs:T.stp most lim plain (T.ch s j) ((j:Int)-p) (T.ch s p) with
   | true=>rw [T.dgF_stop hd hs];exact ⟨b,a⟩
   | false =>
    rw [T.dgF_next hd hs]
    simp only [T.stp,Bool.or_eq_false_iff,beq_eq_false_iff_ne] at hs
    refine ih (j+1) (by omega) (by omega) (fun i hi1 hi2=>?_) e
    by_cases d:i=j
    ·rw [d];exact hd
    ·exact a i hi1 (by omega)
theorem T.dg_all (s:ByteArray) (most lim:Int) (plain:Bool) (p:Nat) (hp:p<=s.size) (hm:0<=most):T.digs (s.extract p (T.dg s most lim plain p).2)/\(((s.extract p (T.dg s most lim plain p).2).size:Int)<=most):=by
 have a:=T.dg_bd s most lim plain p hp
 have h:=T.dgF_all s most lim plain p (s.size-p+1) p (Nat.le_refl _) (by omega) (fun i h1 h2=>by omega) hm
 have e:T.dgF s most lim plain p (s.size-p+1) p=T.dg s most lim plain p:=rfl
 rw [e] at h
 generalize (T.dg s most lim plain p).2=z at *
 constructor
 ·intro i b
  rw [T.size_extract _ _ _ a.2] at b
  rw [T.ch_extract _ _ _ _ a.2 b]
  have:=h.2 (p+i) (by omega) (by omega)
  simp only [T.dig,Bool.and_eq_true,decide_eq_true_eq] at this
  exact this
 ·rw [T.size_extract _ _ _ a.2];omega
def FI (f:FR):Prop:=(f.sym=262->f.kind=9)/\(f.sym=263->f.kind=1\/f.kind=2)
def SI (g:SG):Prop:=g.text.size<=2000/\((g.kind=1\/g.kind=2\/g.kind=3\/g.kind=9)\/(T.digs g.text/\g.text.size<=9))
theorem zc9 (d:Int) (p:Nat) (c:Int) (l:List FR) (h:Yi d p c=some l):∀ f∈l,FI f:=by
 unfold Yi at h
 repeat' split at h
 all_goals first
  | (simp at h;done)
  | (injection h with h;subst h;simp [byF,FI])
theorem zcX (f:FR):∀ g∈Zy f,FI g:=by
 unfold Zy
 repeat' split
 all_goals (simp [byF,FI])
def RI (r:Res):Prop:=(∀ g∈r.push,FI g)/\(∀ g∈r.sg,SI g)
theorem zcb (s:ByteArray) (k:Nat) (f:FR) (hk:k<=s.size) (hf:FI f):RI (zm s k f):=by
 have b:=T.sk_le hk
 unfold zm
 generalize T.sk s k=p at *
 simp only
 split
 ·simp [RI,byF,FI]
 ·split
  ·split<;>simp [RI,byF,FI]
  ·split
   ·split
    ·next l hl =>
     refine ⟨zc9 _ _ _ _ hl,?_⟩
     intro g a
     simp only [List.mem_singleton] at a
     subst a
     exact ⟨by simp,.inl (by simp)⟩
    ·simp [RI]
   ·split
    ·exact ⟨zcX f,by simp⟩
    ·split
     ·next e4 =>
      split
      ·refine ⟨?_,by simp⟩
       intro g a
       simp only [List.mem_cons,List.not_mem_nil,or_false] at a
       rcases a with rfl | rfl | rfl
       ·simp [byF,FI]
       ·simp [FI]
       ·exact hf
      ·simp [RI]
     ·split
      ·have:=T.dg_all s 9 58 true p b (by omega)
       split
       ·refine ⟨by simp,?_⟩
        intro g a
        simp only [List.mem_singleton] at a
        subst a
        exact ⟨by have:=this.2;simp only;omega,.inr ⟨this.1,by have:=this.2;simp only;omega⟩⟩
       ·simp [RI]
      ·split
       ·next e6 =>
        have:=T.dg_all s 32 50 false p b (by omega)
        split
        ·refine ⟨by simp,?_⟩
         intro g a
         simp only [List.mem_singleton] at a
         subst a
         exact ⟨by have:=this.2;simp only;omega,.inl (.inr (.inr (.inr (hf.1 e6))))⟩
        ·simp [RI]
       ·split
        ·next e7 =>
         split
         ·next hc =>
          have:=T.ch_nn (s:=s) (k:=p) (by omega)
          refine ⟨by simp,?_⟩
          intro g a
          simp only [List.mem_singleton] at a
          subst a
          refine ⟨by simp only;rw [T.size_extract _ _ _ (by omega)];omega,.inl ?_⟩
          rcases hf.2 e7 with h | h
          ·exact .inl h
          ·exact .inr (.inl h)
         ·simp [RI]
        ·split<;>simp [RI]
theorem ze5 (s:ByteArray) (one:Nat->FR->Option PR) (h1:∀ k f q,k<=s.size->0<=f.sym->0<=f.depth->FI f->one k f=some q->q.at_<=s.size/\q.sg.length<=q.n/\∀ g∈q.sg,SI g) :
 ∀ (l:List FR) (k:Nat) (q:PR),k<=s.size->(∀ f∈l,0<=f.sym/\0<=f.depth/\FI f)->pL one k l=some q->q.at_<=s.size/\q.sg.length<=q.n/\∀ g∈q.sg,SI g:=by
 intro l
 induction l with
 | nil =>
  intro k q e _ h
  simp only [pL] at h
  injection h with h
  subst h
  exact ⟨e,by simp,by simp⟩
 | cons f r ih =>
  intro k q e m h
  simp only [pL] at h
  have i:=m f (by simp)
  split at h
  ·simp at h
  ·next a ha =>
   have j:=h1 k f a e i.1 i.2.1 i.2.2 ha
   split at h
   ·split at h
    ·simp at h
    ·next b hb =>
     injection h with h
     subst h
     have o:=ih a.at_ b j.1 (fun g d=>m g (by simp [d])) hb
     refine ⟨o.1,by simp only [List.length_append];omega,?_⟩
     intro g d
     rcases List.mem_append.1 d with d | d
     ·exact o.2.2 g d
     ·exact j.2.2 g d
   ·injection h with h
    subst h
    exact j
theorem zfU (s:ByteArray):∀ (n k:Nat) (f:FR) (q:PR),k<=s.size->0<=f.sym->0<=f.depth->FI f->pF s n k f=some q->q.at_<=s.size/\q.sg.length<=q.n/\∀ g∈q.sg,SI g:=by
 intro n
 induction n with
 | zero=>intro k f q _ _ _ _ h;simp [pF] at h
 | succ n ih =>
  intro k f q e o m l h
  have d:=x9 s k f e o m
  have i:=zcb s k f e l
  simp only [pF] at h
  split at h
  ·split at h
   ·simp at h
   ·next b hb =>
    injection h with h
    subst h
    have j:=ze5 s (pF s n) ih (zm s k f).push (zm s k f).at_ b d.hi (fun g a=>by
     rcases d.fst with hp | ⟨f0,r,hp,_,_,hall⟩
     ·rw [hp] at a;simp at a
     ·have:=hall g a;exact ⟨this.1,this.2.1,i.1 g a⟩) hb
    refine ⟨j.1,by have:=d.sg;simp only [List.length_append];omega,?_⟩
    intro g a
    rcases List.mem_append.1 a with a | a
    ·exact j.2.2 g a
    ·exact i.2 g a
  ·injection h with h
   subst h
   exact ⟨d.hi,by simp,by simp⟩
theorem zea (s:ByteArray) (hs:s.size<=2000):(rd s).2.1<=s.size/\(rd s).2.2.length<=40000/\(∀ g∈(rd s).2.2,SI g)/\∃ M R,M<=40000/\xO s M 0 [⟨256,0,0,0⟩,⟨257,0,0,0⟩] []=some R/\rd s=rdE s R:=by
 obtain ⟨q,a,d,i,h⟩:=jG s
 have f:=ze5 s _ (zfU s _) _ _ _ (Nat.zero_le _) (by simp [FI]) a
 have e:rd s=rdE s (q.ok,q.at_,if q.ok=true then q.sg else []):=by unfold rd;rw [a]
 have b:=T.sk_le d
 refine ⟨?_,?_,?_,q.n,_,by omega,h,e⟩
 ·rw [e];unfold rdE;simp only
  split
  ·split
   ·exact b
   ·exact b
  ·exact d
 ·rw [e];unfold rdE;simp only
  split
  ·split
   ·simp
   ·show q.sg.length<=40000;omega
  ·simp
 ·rw [e];unfold rdE;simp only
  split
  ·split
   ·simp
   ·exact f.2.2
  ·simp
theorem zcd (l:List SG):sgC l=l.reverse.flatMap sgV:=by
 induction l with
 | nil=>rfl
 | cons g r ih=>simp only [sgC,ih,List.reverse_cons,List.flatMap_append];simp
theorem zd3 (ls:List SG):∀ (i:Nat) (f:SG) (j:Nat),ls[i]?=some f->j<5->(ls.flatMap sgV)[i*5+j]?=(sgV f)[j]?:=by
 induction ls with
 | nil=>intro i f j h;simp at h
 | cons g r ih =>
  intro i f j h a
  simp only [List.flatMap_cons]
  cases i with
  | zero =>
   simp at h
   subst h
   rw [Nat.zero_mul,Nat.zero_add,List.getElem?_append_left (by simp [sgV];omega)]
  | succ i =>
   simp at h
   have:=ih i f j h a
   rw [List.getElem?_append_right (by simp [sgV];omega)]
   have e:(i+1)*5+j-(sgV g).length=i*5+j:=by simp [sgV];omega
   rw [e];exact this
theorem SL.of_row {w:World} {base b cap:Nat} {gs:List SG} (h:w.ownsRow base 162 5 (.slice (some ⟨b,0,none⟩) gs.length cap) gs.length (sgC gs)):SL w b gs.reverse:=by
 intro i g d
 have e:i<gs.length:=by have:=(List.getElem?_eq_some_iff.1 d).1;simpa using this
 have a:∀ j,j<5->w.cell? ⟨b,i*5+j,none⟩=(sgV g)[j]?:=fun j hj=>by
  rw [World.ownsRow.cellAt h (i*5+j) (by omega),zcd]
  exact zd3 _ i g j d hj
 exact ⟨a 0 (by omega),a 1 (by omega),a 2 (by omega),a 3 (by omega),a 4 (by omega)⟩
end Go.Proofs.YtaebngpoagjafabGreat
