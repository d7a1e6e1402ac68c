import Derived.Test.YtaebngpoagjafabGreatQ43
set_option maxRecDepth 100000
namespace Go.Proofs.YtaebngpoagjafabGreat
open Proofs.Tryz renaming prog → F
open Option renaming none → N,some → S
open Value renaming int → J, slice → Z
open Go.RowKit
attribute [local go_sem ↓] Go.wp_at_zero Go.wp_at_succ
section
section
variable {w:World} {G:Nat->Prop} {B:Nat} {C:List Int} {dn:Nat->Bool} {al:Nat->List Int} {V L R:Nat->Int} {pl:Nat}
theorem SV.markC(h:SV w G B C dn al V L R pl){n:Nat}(b:n<64)(a:Bool):
 Calls F 16 #[.pointer (S ⟨B,0,N⟩),J .i64 n,.bool a] w λe w'=>e=.returned (J .i64 0)/\Below B w w'/\Kp B w w'/\SV w' G B C (λi=>if i=n then !a else dn i) al V L R pl:=by
 obtain⟨f,g,d,c,_⟩:=h.ex;refine(zfs B n a _ w b c).mono ?_;rintro e w' ⟨rfl,rfl⟩;exact⟨rfl,((Below.refl _ _).mono (Nat.le_of_lt h.lt)).setCell (Nat.le_refl _) _,Kp.set ⟨Nat.le_refl _,λ_ _ _=>rfl⟩ _ _,h.mark b _⟩
theorem SV.aliasC(h:SV w G B C dn al V L R pl){k:Nat}(g:k<16){o:Option Addr}{b a n c:Nat}{D:Nat->Int}(hi:IS w o b a n D)(f:n<=16)(m:∀i,i<n->0<=D i/\D i<64)(l:∀b,w.heap.size<=b->G b):
 Calls F 18 #[.pointer (S ⟨B,0,N⟩),J .i64 k,Z o n c] w λe w'=>e=.returned (J .i64 0)/\Below B w w'/\Kp B w w'/\SV w' G B C dn (λi=>if i=k then(List.range n).map D else al i) V L R pl:=by
 obtain⟨u,v,s,p,_⟩:=h.ex;refine(zeG B k o b a n c D _ w g p hi f m).mono ?_;rintro e w' ⟨rfl,r,t,q,d,j,rfl⟩;exact⟨rfl,(d.mono (Nat.le_of_lt h.lt)).setCell (Nat.le_refl _) _,(Kp.of_below d).set _ _,h.alias g f d j l⟩
theorem SV.locateC(h:SV w G B C dn al V L R pl){o:Option Addr}{b a n c:Nat}{d g f:Nat->Int}(j:TS w o b a n d g f)(k:yU d g f n=true)(m:∀b,w.heap.size<=b->G b):
 Calls F 20 #[.pointer (S ⟨B,0,N⟩),Z o n c] w λe w'=>e=.returned (J .i64 0)/\Below B w w'/\Kp B w w'/\SV w' G B C dn al d g f n:=by
 obtain⟨u,v,s,p,_⟩:=h.ex;refine(zce B o b a n c d g f _ w p j k).mono ?_;rintro e w' ⟨rfl,r,t,q,i,l,rfl⟩;exact⟨rfl,(i.mono (Nat.le_of_lt h.lt)).setCell (Nat.le_refl _) _,(Kp.of_below i).set _ _,h.locate i l m⟩
theorem SV.loadC(h:SV w G B C dn al V L R pl)(s:ByteArray)(i:∀b,w.heap.size<=b->G b):
 Calls F 10 #[.pointer (S ⟨B,0,N⟩),.string s] w λe w'=>e=.returned (.tuple #[J .i64 (cpE s),J .i64 (ldA s)])/\Below B w w'/\Kp B w w'/\SV w' G B (if cpE s=0 then cpX s else C) dn al V L R pl:=by
 obtain⟨o,p,m,j,_⟩:=h.ex;refine(zdP B _ s w j).mono ?_;rintro e w' ⟨rfl,c,f⟩;by_cases a:cpE s=0
 ·obtain⟨l,n,k,d,g,rfl⟩:=f a;rw[if_pos a];exact⟨rfl,(d.mono (Nat.le_of_lt h.lt)).setCell (Nat.le_refl _) _,(Kp.of_below d).set _ _,h.load (Xs a).2.2.2 (zbh _ _) d g i⟩
 ·rw[if_neg a];exact⟨rfl,(c a).mono (Nat.le_of_lt h.lt),Kp.of_below (c a),h.below (c a)⟩
theorem SV.queryC(h:SV w G B C dn al V L R pl)(a b d:Int):
 Calls F 12 #[.pointer (S ⟨B,0,N⟩),J .i64 a,J .i64 b,J .i64 d] w (qh w (quF a b d dn ((List.range 16).map al) V L R pl C)):=by
 obtain⟨P,I,K,r,⟨D,E,H,f,rfl,p,_⟩,x,⟨s,j,t,e,rfl,n,_⟩⟩:=h.ex;have O:=h.cl;refine zb6 B a b d D H f E C dn I _ s t e pl j V L R w r ol ot n ⟨λ_=>rfl,λ_=>r.lt,λk l hkl=>?_,λl hl'=>?_⟩ p
 ·have g:k<16:=by have:=(List.getElem?_eq_some_iff.1 hkl).1;simpa using this
  have q:al k=l:=by simpa[g]using hkl
  subst q;obtain⟨o,c,u,v⟩:=x k g;refine⟨o,c,?_,λh0=>?_⟩
  ·rw[r.cell (i:=65+k) ol];unfold svF;rw[if_neg ol,if_neg ol,if_pos ol,show 65+k-65=k by omega,u]
  ·obtain⟨b,m,A,_,⟨_,_,z⟩,y⟩:=v h0;exact⟨b,m,A,lt_of_block z,y⟩
 ·simp only[List.mem_map,List.mem_range]at hl';obtain⟨k,g,rfl⟩:=hl';have:=h.ll k g
  omega
end
end
theorem zaM{s:ByteArray}(h:s.size=0):s=⟨#[]⟩:=by
 cases s with
 | mk d =>
  have:d=#[]:=Array.eq_empty_of_size_eq_zero h
  rw[this]
theorem jY:(⟨#[]⟩:ByteArray).toList=[]:=by
 unfold ByteArray.toList;unfold ByteArray.toList.loop;simp[ByteArray.size]
theorem zb9{s:ByteArray}(h:s≠⟨#[]⟩):(s.toList==(⟨#[]⟩:ByteArray).toList)=false:=by
 cases hq:(s.toList==(⟨#[]⟩:ByteArray).toList)with
 |false=>rfl
 |true=>exact absurd (zaM ((xJ _ _).1 hq).1) h
section
def WD.dnTo(x:WD)(k i:Nat):Bool:=(List.range i).any λj=>x.Dn j==(k:Int)
def WD.cells(x:WD):Array Value:=#[J .i64 x.a,J .i64 x.b,J .i64 x.d,Z x.do_ x.dl x.dc,Z x.ao x.al.length x.ac,Z x.po x.pl x.pcp]
theorem SV.bareL{w w':World}{G:Nat->Prop}{B:Nat}{dn:Nat->Bool}{al:Nat->List Int}{V L R:Nat->Int}(h:SV w G B [] dn al V L R 0)(e:w'.heap[B]?=w.heap[B]?)(d:∀b cs fr,G b->w.heap[b]?=S (.cells cs 3 fr)->w'.heap[b]?=w.heap[b]?):SV w' G B [] dn al V L R 0:=by
 obtain⟨o,m,n,g,⟨j,l,_,_,rfl,_,_⟩,f,⟨c,a,_,_,rfl,_,_⟩⟩:=h.ex;exact⟨⟨_,m,_,g.of_block e,⟨j,l,0,0,rfl,⟨λh=>absurd h (Nat.lt_irrefl _),λh=>absurd h (Nat.lt_irrefl _),λi x h=>by simp at h,λx h=>by cases h⟩,λh=>absurd h (Nat.lt_irrefl _)⟩,λk hk'=>(f k hk').of (λ_ h _=>h) d,⟨c,a,0,0,rfl,⟨λh=>absurd h (Nat.lt_irrefl _),λh=>absurd h (Nat.lt_irrefl _),λi h=>absurd h (Nat.not_lt_zero _),λi h=>absurd h (Nat.not_lt_zero _),λi h=>absurd h (Nat.not_lt_zero _)⟩,λh=>absurd h (Nat.lt_irrefl _)⟩⟩,h.cl,h.ll⟩
theorem SV.bare{w w':World}{G:Nat->Prop}{B:Nat}{dn:Nat->Bool}{V L R:Nat->Int}(h:SV w G B [] dn (λ_=>[]) V L R 0)(e:w'.heap[B]?=w.heap[B]?):SV w' G B [] dn (λ_=>[]) V L R 0:=by
 obtain⟨s,q,r,m,l,j,g⟩:=h.ex;have f:SV w (λ_=>False) B [] dn (λ_=>[]) V L R 0:=by
  obtain⟨n,p,_,_,rfl,_,_⟩:=l;obtain⟨b,a,_,_,rfl,_,_⟩:=g;exact⟨⟨_,q,_,m,⟨n,p,0,0,rfl,⟨λh=>absurd h (Nat.lt_irrefl _),λh=>absurd h (Nat.lt_irrefl _),λi x h=>by simp at h,λx h=>by cases h⟩,λh=>absurd h (Nat.lt_irrefl _)⟩,λk hk=>by
   obtain⟨o,c,d,_⟩:=j k hk;exact⟨o,c,d,λh0=>absurd h0 (Nat.lt_irrefl _)⟩,⟨b,a,0,0,rfl,⟨λh=>absurd h (Nat.lt_irrefl _),λh=>absurd h (Nat.lt_irrefl _),λi h=>absurd h (Nat.not_lt_zero _),λi h=>absurd h (Nat.not_lt_zero _),λi h=>absurd h (Nat.not_lt_zero _)⟩,λh=>absurd h (Nat.lt_irrefl _)⟩⟩,h.cl,h.ll⟩
 exact(f.bareL e (λ_ _ _ h=>h.elim)).wk (λ_ h=>h.elim)
theorem SV.blk{w:World}{G:Nat->Prop}{B:Nat}{C:List Int}{dn:Nat->Bool}{al:Nat->List Int}{V L R:Nat->Int}{pl:Nat}(h:SV w G B C dn al V L R pl):∃cs fr,w.heap[B]?=S (.cells cs 61 fr):=by
 obtain⟨_,_,_,⟨c,a,_⟩,_⟩:=h.ex;exact⟨c,_,a⟩
section
variable {w0 w wr w':World} {x:WD} {B:Nat} {V L R:Nat->Int} {dn dn':Nat->Bool} {al al':Nat->List Int} {LL:List Int} {dv av:Value} {avs:List Value}
end
theorem zds(V L R:Nat->Int):yU V L R 0=true:=by simp[yU,ZH,M.isMap,M.okTo]
end
end Go.Proofs.YtaebngpoagjafabGreat
