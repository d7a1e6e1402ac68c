import Derived.Test.YtaebngpoagjafabGreatQ17
import Derived.Test.YtaebngpoagjafabGreatQ21
set_option maxRecDepth 100000
namespace Go.Proofs.YtaebngpoagjafabGreat
open Bool renaming false → F,true → P
open Option renaming some → S
open Go.RowKit
def Byt(xs:List Int):Prop:=∀x∈xs,0<=x/\x<256
theorem Byt.app{a b:List Int}(h:Byt a)(k:Byt b):Byt (a++b):=λx hx=>(List.mem_append.1 hx).elim (h x) (k x)
theorem xN(a:List Int):(strOfNums a).data.toList=a.map (λn=>UInt8.ofNat n.toNat):=strOfNums_data a
theorem yA{a:List Int}(h:Byt a)(i:Nat):T.ch (strOfNums a) i=(a[i]?).getD (-1):=by
 by_cases c:i<a.length
 ·have b:i<(strOfNums a).size:=by rw[strOfNums_size];exact c
  rw[T.ch_lt b,List.getElem?_eq_getElem c];have d:(strOfNums a)[i]=UInt8.ofNat (a[i]).toNat:=by
   have:(strOfNums a).data.toList[i]?=S ((strOfNums a)[i]):=List.getElem?_eq_getElem (l:=(strOfNums a).data.toList) (by simpa using b)
   rw[xN,List.getElem?_map,List.getElem?_eq_getElem c]at this;exact(Option.some.inj this).symm
  rw[d];have:=h a[i] (List.getElem_mem _)
  simp
  omega
 ·have b:¬i<(strOfNums a).size:=by rw[strOfNums_size];exact c
  rw[T.ch_ge b,List.getElem?_eq_none ol];rfl
theorem XG(c:List Int)(a b:Nat):(strOfNums c).extract a b=strOfNums ((c.drop a).take (b-a)):=by
 have d:((strOfNums c).extract a b).data.toList=(strOfNums ((c.drop a).take (b-a))).data.toList:=by
  rw[xN,ByteArray.data_extract,Array.toList_extract,xN];simp[List.extract_eq_take_drop,List.map_take,List.map_drop]
 have:∀{x y:ByteArray},x.data.toList=y.data.toList->x=y:=λ{x y} h=>by
  obtain⟨⟨l⟩⟩:=x;obtain⟨⟨m⟩⟩:=y;simp at h;rw[h]
 exact this d
def yn(c:Int):Int->List Int->List Int->List (List Int)
 |_,cur,[]=>[cur]
 | d,cur,x::r =>
  if x=40\/x=123 then yn c (d+1) (cur++[x]) r
  else if x=41\/x=125 then yn c (d-1) (cur++[x]) r
  else if x=c/\d=0 then cur::yn c d [] r
  else yn c d (cur++[x]) r
theorem ZG{a:List Int}(h:Byt a)(c:Int):spl (strOfNums a) c=(yn c 0 [] a).map strOfNums:=by
 have e:∀i,i<=a.length->(yn c 0 [] a).map strOfNums=(spS (strOfNums a) c i).l++(yn c (spS (strOfNums a) c i).deep ((a.drop (spS (strOfNums a) c i).from_).take (i-(spS (strOfNums a) c i).from_)) (a.drop i)).map strOfNums:=by
  intro i;induction i with
  |zero=>intro _;simp[spS]
  | succ i ih =>
   intro n;have d:=(qn (strOfNums a) c i).1;rw[ih ol];have j:a[i]?=S a[i]:=List.getElem?_eq_getElem ol;have k:a.drop i=a[i]::a.drop (i+1):=List.drop_eq_getElem_cons ol;have g:T.ch (strOfNums a) i=a[i]:=(by rw[yA h,j];rfl);have b:∀f,f<=i->(a.drop f).take (i-f)++[a[i]]=(a.drop f).take (i+1-f):=λf d=>by
    rw[show i+1-f=(i-f)+1 from by omega,List.take_add_one,List.getElem?_drop,show f+(i-f)=i from by omega,j];rfl
   rw[k];simp only[spS,yn,g];generalize spS (strOfNums a) c i=q at *;split
   ·rw[b _ d]
   ·split
    ·rw[b _ d]
    ·split
     ·next hc =>
      rw[XG];simp
     ·rw[b _ d]
 have m:=e a.length (Nat.le_refl _);unfold spl;rw[m,strOfNums_size,XG];simp[yn]
def Pln(x:List Int):Prop:=∀c∈x,(48<=c/\c<=57)\/c=42
def Nsp(n:Int)(xs:List Int):Prop:=∀c,(c=44\/c=124\/c=58\/c=59)->∀d,n<=d->∀cur rest,yn c d cur (xs++rest)=yn c d (cur++xs) rest
theorem Nsp.nil(n:Int):Nsp n []:=λc _ d _ cur rest=>ot
theorem Nsp.app{n:Int}{a b:List Int}(h:Nsp n a)(k:Nsp n b):Nsp n (a++b):=λc hc d hd cur rest=>by
 rw[List.append_assoc,h c hc d hd,k c hc d hd,List.append_assoc]
theorem Nsp.mono{n m:Int}{a:List Int}(h:Nsp n a)(b:n<=m):Nsp m a:=λc hc d hd=>h c hc d (Int.le_trans b hd)
theorem Nsp.one{x:Int}(h:(48<=x/\x<=57)\/x=42\/(97<=x/\x<=122)\/x=64\/x=61):Nsp 0 [x]:=λc hc d _ cur rest=>by
 simp only[List.singleton_append,yn];rw[if_neg ol,if_neg ol,if_neg ol]
theorem Nsp.deep{x:Int}(a:x≠40/\x≠123/\x≠41/\x≠125):Nsp 1 [x]:=λc hc d hd cur rest=>by
 simp only[List.singleton_append,yn];rw[if_neg ol,if_neg ol,if_neg ol]
theorem Nsp.pln{x:List Int}(h:Pln x):Nsp 0 x:=by
 induction x with
 |nil=>exact Nsp.nil 0
 | cons a r ih =>
  have b:Nsp 0 [a]:=Nsp.one (by have:=h a ot;omega);exact b.app (ih (λc hc=>h c (by simp[hc])))
theorem Nsp.brac{y:List Int}{o a:Int}(f:o=40\/o=123)(b:a=41\/a=125)(h:Nsp 1 y):Nsp 0 ([o]++y++[a]):=λc hc d hd cur rest=>by
 have e:[o]++y++[a]++rest=o::(y++(a::rest)):=ot;rw[e,yn,if_pos f,h c hc (d+1) ol,yn,if_neg ol,if_pos b,show d+1-1=d from by omega];simp
def joi(c:Int):List (List Int)->List Int
 | []=>[]
 | [x]=>x
 |x::y::r=>x++[c]++joi c (y::r)
theorem ze4{c:Int}(a:c=44\/c=124\/c=58\/c=59):∀(l:List (List Int)),l≠[]->(∀x∈l,Nsp 0 x)->yn c 0 [] (joi c l)=l:=by
 intro l;induction l with
 |nil=>intro h;exact absurd rfl h
 | cons x r ih =>
  intro _ h;cases r with
  | nil =>
   have:=h x ot c a 0 (Int.le_refl _) [] []
   simp only[joi];rw[List.append_nil]at this;rw[this];simp[yn]
  | cons y r =>
   have b:=h x ot c a 0 (Int.le_refl _) [] ([c]++joi c (y::r));simp only[joi,List.append_assoc];rw[b];simp only[List.singleton_append,yn];rw[if_neg ol,if_neg ol,if_pos ⟨trivial,trivial⟩,ih ot (λz hz=>h z (by simp[hz]))];simp
theorem Nsp.joi{c:Int}(a:c≠40/\c≠123/\c≠41/\c≠125):∀(l:List (List Int)),(∀x∈l,Nsp 1 x)->Nsp 1 (joi c l):=by
 intro l;induction l with
 |nil=>intro _;exact Nsp.nil 1
 | cons x r ih =>
  intro h;cases r with
  |nil=>exact h x ot
  | cons y r =>
   simp only[Go.Proofs.YtaebngpoagjafabGreat.joi];exact((h x ot).app (Nsp.deep a)).app (ih (λz hz=>h z (by simp[hz])))
inductive SZL (nm:ByteArray) (K:List Int):List Int->Int->Prop where
 |servers {l:List (List Int)}:l≠[]->(∀x∈l,Pln x)->SZL nm K ([123]++joi 44 l++[125]) (1+(l.length:Int))
 |alias {x:List Int}:Pln x->SZL nm K (64::x) 1
 |name {c:Int}:(97<=c/\c<=122)->SZL nm K [61,c] (knL nm c K 0)
 |ttl {x o:List Int} {n:Int}:Pln x->SZL nm K o n->SZL nm K ([116]++([40]++joi 44 [x,o]++[41])) (Zj (1+n))
 |list {c:Int} {l:List (List Int)} {o:List Int} {n:Int}:(c=119\/c=102)->l≠[]->(∀x∈l,Pln x)->SZL nm K o n->SZL nm K ([c]++([40]++joi 124 [joi 44 l,o]++[41])) (Zj (1+(l.length:Int)+n))
 |maps {c:Int} {m:Nat} {ks ar:Nat->List Int} {o:List Int} {n:Int} {ns:Nat->Int}:(c=109\/c=103)->0<m->(∀i,i<m->Pln (ks i))->(∀i,i<m->SZL nm K (ar i) (ns i))->(∀i,m<=i->ns i=0)->SZL nm K o n->SZL nm K ([c]++([40]++joi 124 [joi 44 ((List.range m).map (λi=>ks i++[58]++ar i)),o]++[41])) (Zj (1+(m:Int)+n+Yy ns m))
theorem SZL.nsp{nm:ByteArray}{K:List Int}{t:List Int}{n:Int}(h:SZL nm K t n):Nsp 0 t:=by
 induction h with
 |servers _ h=>exact Nsp.brac (.inr rfl) (.inr rfl) (Nsp.joi oq _ (λx hx=>(Nsp.pln (h x hx)).mono oq))
 |alias h=>exact Nsp.app (a:=[64]) (Nsp.one oq) (Nsp.pln h)
 |name h=>exact Nsp.app (a:=[61]) (b:=[_]) (Nsp.one oq) (Nsp.one ol)
 | ttl hx _ ih=>exact (Nsp.one oq).app (Nsp.brac (.inl rfl) (.inl rfl) (Nsp.joi oq _ (fun z hz=>by
  simp at hz;rcases hz with rfl|rfl
  ·exact(Nsp.pln hx).mono oq
  ·exact ih.mono oq)))
 | list hc _ hx _ ih=>exact (Nsp.one ol).app (Nsp.brac (.inl rfl) (.inl rfl) (by
  simp only[joi];exact((Nsp.joi oq _ (λx h=>(Nsp.pln (hx x h)).mono oq)).app (Nsp.deep oq)).app (ih.mono oq)))
 | maps hc _ hk _ _ _ iha iho=>exact (Nsp.one ol).app (Nsp.brac (.inl rfl) (.inl rfl) (by
  simp only[joi];refine((Nsp.joi oq _ (λx hx=>?_)).app (Nsp.deep oq)).app (iho.mono oq);simp only[List.mem_map,List.mem_range]at hx;obtain⟨i,c,rfl⟩:=hx;exact(((Nsp.pln (hk i c)).mono oq).app (Nsp.deep oq)).app ((iha i c).mono oq)))
theorem Pln.byt{x:List Int}(h:Pln x):Byt x:=λc hc=>by have:=h c hc;omega
theorem Byt.joi{c:Int}(b:0<=c/\c<256):∀(l:List (List Int)),(∀x∈l,Byt x)->Byt (joi c l):=by
 intro l;induction l with
 |nil=>intro _ x a;simp[Go.Proofs.YtaebngpoagjafabGreat.joi]at a
 | cons x r ih =>
  intro h;cases r with
  |nil=>exact h x ot
  | cons y r =>
   simp only[Go.Proofs.YtaebngpoagjafabGreat.joi];exact((h x ot).app (λz hz=>by simp at hz;subst hz;exact b)).app (ih (λz hz=>h z (by simp[hz])))
theorem Byt.one{c:Int}(a:0<=c/\c<256):Byt [c]:=λz hz=>by simp at hz;subst hz;exact a
theorem SZL.byt{nm:ByteArray}{K:List Int}{t:List Int}{n:Int}(h:SZL nm K t n):Byt t:=by
 induction h with
 |servers _ h=>exact((Byt.one oq).app (Byt.joi oq _ (λx hx=>(h x hx).byt))).app (Byt.one oq)
 |alias h=>exact Byt.app (a:=[64]) (Byt.one oq) h.byt
 |name h=>exact Byt.app (a:=[61]) (b:=[_]) (Byt.one oq) (Byt.one ol)
 | ttl hx _ ih=>exact (Byt.one oq).app (((Byt.one oq).app (Byt.joi oq _ (fun z hz=>by
  simp at hz;rcases hz with rfl|rfl
  ·exact hx.byt
  ·exact ih))).app (Byt.one oq))
 | list hc _ hx _ ih=>exact (Byt.one ol).app (((Byt.one oq).app (Byt.joi oq _ (fun z hz=>by
  simp at hz;rcases hz with rfl|rfl
  ·exact Byt.joi oq _ (λx h=>(hx x h).byt)
  ·exact ih))).app (Byt.one oq))
 | maps hc _ hk _ _ _ iha iho=>exact (Byt.one ol).app (((Byt.one oq).app (Byt.joi oq _ (fun z hz=>by
  simp at hz;rcases hz with rfl|rfl
  ·refine Byt.joi oq _ (λx h=>?_);simp only[List.mem_map,List.mem_range]at h;obtain⟨i,d,rfl⟩:=h;simpa using((hk i d).byt.app (Byt.one (c:=58) oq)).app (iha i d)
  ·exact iho))).app (Byt.one oq))
theorem YR(a y b:List Int):(strOfNums (a++y++b)).extract a.length ((strOfNums (a++y++b)).size-b.length)=strOfNums y:=by
 rw[XG,strOfNums_size];congr 1
 rw[List.append_assoc,List.drop_left,show(a++(y++b)).length-b.length-a.length=y.length from by simp only[List.length_append];omega,List.take_left]
theorem xM(a y:List Int):(strOfNums (a++y)).extract a.length (strOfNums (a++y)).size=strOfNums y:=by
 have:=YR a y []
 simpa using this
theorem xr{c:Int}(b:c=44\/c=124\/c=58\/c=59){l:List (List Int)}(e:l≠[])(a:∀x∈l,Nsp 0 x)(d:Byt (joi c l)):spl (strOfNums (joi c l)) c=l.map strOfNums:=by
 rw[ZG d,ze4 b l e a]
def Z8(xs:List Int):Prop:=∀cur rest,yn 124 0 cur (xs++rest)=yn 124 0 (cur++xs) rest
theorem ZQ{a b:List Int}(h:Z8 a)(k:Z8 b):Z8 (a++b):=λcur rest=>by rw[List.append_assoc,h,k,List.append_assoc]
theorem Xp{x:Int}(h:x≠40/\x≠123/\x≠41/\x≠125/\x≠124):Z8 [x]:=λcur rest=>by
 simp only[List.singleton_append,yn];rw[if_neg ol,if_neg ol,if_neg ol]
theorem YH{x:List Int}(h:Nsp 0 x):Z8 x:=λcur rest=>h 124 (.inr (.inl rfl)) 0 (Int.le_refl _) cur rest
theorem xt:∀(l:List (List Int)),(∀x∈l,Z8 x)->Z8 (joi 44 l):=by
 intro l;induction l with
 |nil=>intro _ a rest;simp[joi]
 | cons x r ih =>
  intro h;cases r with
  |nil=>exact h x ot
  | cons y r =>
   simp only[joi];exact ZQ (ZQ (h x ot) (Xp oq)) (ih (λz hz=>h z (by simp[hz])))
theorem QF(l:List (List Int))(h:∀x∈l,Pln x):Z8 (joi 44 l):=xt l (λx hx=>YH (Nsp.pln (h x hx)))
theorem Qu{m:Nat}{ks ar:Nat->List Int}(c:∀i,i<m->Pln (ks i))(d:∀i,i<m->Nsp 0 (ar i)):∀(l:List Nat),l≠[]->(∀i∈l,i<m)->yn 44 0 [] (joi 44 (l.map (λi=>ks i++[58]++ar i)))=l.map (λi=>ks i++[58]++ar i):=by
 have a:∀i,i<m->∀cur rest,yn 44 0 cur ((ks i++[58]++ar i)++rest)=yn 44 0 (cur++(ks i++[58]++ar i)) rest:=λi hi cur rest=>by
  rw[List.append_assoc,List.append_assoc,Nsp.pln (c i hi) 44 (.inl rfl) 0 (Int.le_refl _)];simp only[List.singleton_append,yn];rw[if_neg oq,if_neg oq,if_neg oq,d i hi 44 (.inl rfl) 0 (Int.le_refl _)];simp
 intro l;induction l with
 |nil=>intro h;exact absurd rfl h
 | cons x r ih =>
  intro _ h;cases r with
  | nil =>
   have:=a x (h x ot) [] []
   simp only[List.map_cons,List.map_nil,joi];rw[List.append_nil]at this;rw[this];simp[yn]
  | cons y r =>
   have b:=a x (h x ot) [] ([44]++joi 44 ((y::r).map (λi=>ks i++[58]++ar i)));simp only[List.map_cons,joi]at b⊢;rw[List.append_assoc,b];simp only[List.singleton_append,yn,List.nil_append];rw[if_neg oq,if_neg oq,if_pos ⟨trivial,trivial⟩];have:=ih ot (λz hz=>h z (by simp[hz]))
   simp only[List.map_cons]at this;rw[this]
theorem SZL.sz{nm:ByteArray}{K:List Int}{t:List Int}{n:Int}(h:SZL nm K t n):SZ nm K (strOfNums t) n:=by
 induction h with
 | @servers l h0 hx =>
  have f:=(SZL.servers (nm:=nm) (K:=K) h0 hx).byt;have q:=YR [123] (joi 44 l) [125];have p:=xr (c:=44) (.inl rfl) h0 (λx h=>Nsp.pln (hx x h)) (Byt.joi oq _ (λx h=>(hx x h).byt));have g:=SZ.servers (nm:=nm) (K:=K) (t:=strOfNums ([123]++joi 44 l++[125])) (by rw[yA f];simp) (by rw[strOfNums_size];simp);rw[show(1:Nat)=[(123:Int)].length from rfl]at g;rw[show[(123:Int)].length=1 from rfl]at g;have e:(strOfNums ([123]++joi 44 l++[125])).extract 1 ((strOfNums ([123]++joi 44 l++[125])).size-1)=strOfNums (joi 44 l):=q;rw[e,p,List.length_map]at g;exact g
 | @alias x hx =>
  have f:=(SZL.alias (nm:=nm) (K:=K) hx).byt;exact SZ.alias (by rw[yA f];simp)
 | @name c hc =>
  have f:=(SZL.name (nm:=nm) (K:=K) hc).byt;have g:=SZ.name (nm:=nm) (K:=K) (t:=strOfNums [61,c]) (by rw[yA f];simp) (by rw[strOfNums_size];simp);rw[yA f]at g;simpa using g
 | @ttl x o n hx ho ih =>
  have f:=(SZL.ttl hx ho).byt;have w:[116]++([40]++joi 44 [x,o]++[41])=[116,40]++joi 44 [x,o]++[(41:Int)]:=ot;rw[w]at f⊢;have q:(strOfNums ([116,40]++joi 44 [x,o]++[41])).extract 2 ((strOfNums ([116,40]++joi 44 [x,o]++[41])).size-1)=strOfNums (joi 44 [x,o]):=YR [116,40] (joi 44 [x,o]) [41];have p:=xr (c:=44) (.inl rfl) (l:=[x,o]) ot (λz hz=>by
   simp at hz;rcases hz with rfl|rfl
   ·exact Nsp.pln hx
   ·exact ho.nsp) (Byt.joi oq _ (λz hz=>by
   simp at hz;rcases hz with rfl|rfl
   ·exact hx.byt
   ·exact ho.byt))
  exact SZ.ttl (b:=strOfNums o) (by rw[yA f];simp) (by rw[strOfNums_size];simp) (by rw[q,p];simp) ih
 | @list c l o n hc h0 hx ho ih =>
  have f:=(SZL.list hc h0 hx ho).byt;have w:[c]++([40]++joi 124 [joi 44 l,o]++[41])=[c,40]++joi 124 [joi 44 l,o]++[(41:Int)]:=ot;rw[w]at f⊢;have q:(strOfNums ([c,40]++joi 124 [joi 44 l,o]++[41])).extract 2 ((strOfNums ([c,40]++joi 124 [joi 44 l,o]++[41])).size-1)=strOfNums (joi 124 [joi 44 l,o]):=YR [c,40] (joi 124 [joi 44 l,o]) [41];have j:Byt (joi 44 l):=Byt.joi oq _ (λx h=>(hx x h).byt);have k:=xr (c:=44) (.inl rfl) h0 (λx h=>Nsp.pln (hx x h)) j;have u:Byt (joi 124 [joi 44 l,o]):=Byt.joi oq _ (λz hz=>by
   simp at hz;rcases hz with rfl|rfl
   ·exact j
   ·exact ho.byt)
  have p:spl (strOfNums (joi 124 [joi 44 l,o])) 124=[strOfNums (joi 44 l),strOfNums o]:=by
   rw[ZG u];have A:Z8 (joi 44 l):=QF l (λx h=>hx x h);simp only[joi];rw[List.append_assoc,A [] _];simp only[List.nil_append,List.singleton_append,yn];rw[if_neg oq,if_neg oq,if_pos ⟨trivial,trivial⟩];have:=ho.nsp 124 (.inr (.inl rfl)) 0 (Int.le_refl _) [] []
   rw[List.append_nil]at this;rw[this];simp[yn]
  have g:=SZ.list (nm:=nm) (K:=K) (t:=strOfNums ([c,40]++joi 124 [joi 44 l,o]++[41])) (a:=strOfNums (joi 44 l)) (b:=strOfNums o) (n:=n) (by rw[yA f];simpa using hc) (by rw[strOfNums_size];simp) (by rw[q,p];simp) (by rw[q,p];simp) ih;rw[k,List.length_map]at g;exact g
 | @maps c m ks ar o n ns hc hm0 hk ha hz ho iha iho =>
  have f:=(SZL.maps hc hm0 hk ha hz ho).byt;have w:[c]++([40]++joi 124 [joi 44 ((List.range m).map (λi=>ks i++[58]++ar i)),o]++[41])=[c,40]++joi 124 [joi 44 ((List.range m).map (λi=>ks i++[58]++ar i)),o]++[(41:Int)]:=ot;rw[w]at f⊢;have y:List.range m≠[]:=by intro h;have:=congrArg List.length h;simp at this;omega
  have v:∀i,i<m->Byt (ks i++[58]++ar i):=λi d=>((hk i d).byt.app (Byt.one (c:=58) oq)).app (ha i d).byt
  have j:Byt (joi 44 ((List.range m).map (λi=>ks i++[58]++ar i))):=Byt.joi oq _ (λx h=>by
   simp only[List.mem_map,List.mem_range]at h;obtain⟨i,d,rfl⟩:=h;exact v i d)
  have k:spl (strOfNums (joi 44 ((List.range m).map (λi=>ks i++[58]++ar i)))) 44=((List.range m).map (λi=>ks i++[58]++ar i)).map strOfNums:=by
   rw[ZG j,Qu hk (λi d=>(ha i d).nsp) (List.range m) y (λi d=>List.mem_range.1 d)]
  have A:Z8 (joi 44 ((List.range m).map (λi=>ks i++[58]++ar i))):=xt _ (λx h=>by
   simp only[List.mem_map,List.mem_range]at h;obtain⟨i,d,rfl⟩:=h;exact ZQ (ZQ (YH (Nsp.pln (hk i d))) (Xp oq)) (YH (ha i d).nsp))
  have s:∀i x,((spl (strOfNums (joi 44 ((List.range m).map (λi=>ks i++[58]++ar i)))) 44))[i]?=S x->i<m/\x=strOfNums (ks i++[58]++ar i):=λi x h=>by
   rw[k]at h;have d:i<m:=(by have:=(List.getElem?_eq_some_iff.1 h).1;simpa using this);simp[d]at h;exact⟨d,by rw[<-h];simp⟩
  have r:(spl (strOfNums (joi 44 ((List.range m).map (λi=>ks i++[58]++ar i)))) 44).length=m:=by rw[k];simp
  generalize hJ:joi 44 ((List.range m).map (λi=>ks i++[58]++ar i))=J at *;have q:(strOfNums ([c,40]++joi 124 [J,o]++[41])).extract 2 ((strOfNums ([c,40]++joi 124 [J,o]++[41])).size-1)=strOfNums (joi 124 [J,o]):=YR [c,40] (joi 124 [J,o]) [41];have u:Byt (joi 124 [J,o]):=Byt.joi oq _ (λz hz=>by
   simp at hz;rcases hz with rfl|rfl
   ·exact j
   ·exact ho.byt)
  have p:spl (strOfNums (joi 124 [J,o])) 124=[strOfNums J,strOfNums o]:=by
   rw[ZG u];simp only[joi];rw[List.append_assoc,A [] _];simp only[List.nil_append,List.singleton_append,yn];rw[if_neg oq,if_neg oq,if_pos ⟨trivial,trivial⟩];have:=ho.nsp 124 (.inr (.inl rfl)) 0 (Int.le_refl _) [] []
   rw[List.append_nil]at this;rw[this];simp[yn]
  have g:=SZ.maps (nm:=nm) (K:=K) (t:=strOfNums ([c,40]++joi 124 [J,o]++[41])) (a:=strOfNums J) (b:=strOfNums o) (n:=n) (ys:=λi=>strOfNums (ks i)) (ns:=ns) (by rw[yA f];simpa using hc) (by rw[strOfNums_size];simp) (by rw[q,p];simp) (by rw[q,p];simp) iho
   (λi x hx=>by
    obtain⟨d,rfl⟩:=s i x hx;have B:=xr (c:=58) (.inr (.inr (.inl rfl))) (l:=[ks i,ar i]) ot (λz hz=>by
     simp at hz;rcases hz with rfl|rfl
     ·exact Nsp.pln (hk i d)
     ·exact(ha i d).nsp) (by simp only[joi];exact v i d)
    simp only[joi]at B;rw[B];refine⟨ot,?_⟩;rw[strOfNums_size,strOfNums_size];simp) (λi d=>hz i (by rw[r]at d;exact d)) (λi x hx=>by
    obtain⟨d,rfl⟩:=s i x hx;have C:=xM (ks i++[58]) (ar i);rw[show(strOfNums (ks i)).size+1=(ks i++[58]).length from by rw[strOfNums_size];simp,C];exact iha i d)
  rw[r]at g;exact g
def sgL(s:ByteArray)(a:Nat):Nat->List Int
 |0=>[]
 |n+1=>sgL s a n++(if T.bl (T.ch s (a+n))=P then[]else[T.ch s (a+n)])
def bt(s:ByteArray)(a b:Nat):List Int:=sgL s a (b-a)
theorem zaR(s:ByteArray):∀n,brL s n=bt s 0 n:=by
 intro n;unfold bt;rw[Nat.sub_zero];induction n with
 |zero=>rfl
 |succ n ih=>simp only[brL,sgL,ih,Nat.zero_add]
theorem ze5(s:ByteArray)(a n:Nat):∀m,sgL s a (n+m)=sgL s a n++sgL s (a+n) m:=by
 intro m;induction m with
 |zero=>simp[sgL]
 | succ m ih =>
  rw[show n+(m+1)=(n+m)+1 from by omega];simp only[sgL];rw[ih,show a+(n+m)=a+n+m from by omega,List.append_assoc]
theorem zB(s:ByteArray){a b c:Nat}(e:a<=b)(d:b<=c):bt s a c=bt s a b++bt s b c:=by
 unfold bt;rw[show c-a=(b-a)+(c-b)from by omega,ze5,show a+(b-a)=b from by omega]
theorem zbk(s:ByteArray)(a:Nat):bt s a a=[]:=by unfold bt;rw[Nat.sub_self];rfl
theorem QU{s:ByteArray}{a:Nat}{c:Int}(h:T.ch s a=c)(b:T.bl c=F):bt s a (a+1)=[c]:=by
 unfold bt;rw[show a+1-a=1 from by omega];simp[sgL,h,b]
theorem zfR(s:ByteArray):∀n k,s.size-k<=n->bt s k (T.sk s k)=[]:=by
 intro n;induction n with
 | zero =>
  intro k h;have:T.bl (T.ch s k)=F:=by rw[T.ch_ge ol];rfl
  rw[T.sk_here this,zbk]
 | succ n ih =>
  intro k h;cases hb:T.bl (T.ch s k)with
  |false=>rw[T.sk_here hb,zbk]
  | true =>
   have d:=T.bl_lt hb;have c:=T.sk_next hb;have a:=T.sk_ge s (k+1);rw[<-c,zB s (b:=k+1) ol a,ih (k+1) ol,List.append_nil];unfold bt;rw[show k+1-k=1 from by omega];simp[sgL,hb]
theorem zge(s:ByteArray)(k:Nat):bt s k (T.sk s k)=[]:=zfR s (s.size-k) k (Nat.le_refl _)
theorem yM{s:ByteArray}{k e:Nat}(h:T.sk s k<=e):bt s k e=bt s (T.sk s k) e:=by
 rw[zB s (T.sk_ge s k) h,zge,List.nil_append]
theorem zeq{s:ByteArray}{a b:Nat}{x:Int}(h:x∈bt s a b):∃i,a<=i/\i<b/\x=T.ch s i:=by
 unfold bt at h;have c:∀n,x∈sgL s a n->∃i,a<=i/\i<a+n/\x=T.ch s i:=by
  intro n;induction n with
  |zero=>intro h;simp[sgL]at h
  | succ n ih =>
   intro h;simp only[sgL,List.mem_append]at h;rcases h with h|h
   ·obtain⟨i,e,f,d⟩:=ih h;exact⟨i,e,ol,d⟩
   ·split at h
    ·simp at h
    ·simp at h;exact⟨a+n,ol,ol,h⟩
 obtain⟨i,e,f,d⟩:=c _ h;exact⟨i,e,ol,d⟩
theorem Jy(s:ByteArray):∀n j i,j<=i->i<nmF s F n j->T.dig (T.ch s i)=P:=by
 intro n;induction n with
 |zero=>intro j i b a;simp only[nmF]at a;omega
 | succ n ih =>
  intro j i b a;simp only[nmF]at a;split at a
  ·next hb =>
   by_cases e:i=j
   ·subst e;rw[zee]at hb;exact hb
   ·exact ih (j+1) i ol a
  ·omega
theorem zN{s:ByteArray}{c:Int}{k:Nat}{b:Bool}(d:c≠0)(f:T.bl c=F)(h:zk s c k b=F):b=F/\zc s c k b=T.sk s k+1/\bt s k (zc s c k b)=[c]:=by
 unfold zk at h;split at h
 ·next ht =>
  subst h;have a:=xp d ht;have e:zc s c k F=T.sk s k+1:=by unfold zc;rw[if_pos ht,zm]
  refine⟨rfl,e,?_⟩;rw[e,yM ol,QU a.2.2 f]
 ·cases h
theorem YG{s:ByteArray}{k:Nat}{b:Bool}(c:k<=s.size)(h:zw s k b=F):b=F/\T.sk s k<zs s k b/\Pln (bt s k (zs s k b)):=by
 unfold zw at h;split at h
 ·cases h
 ·next hne =>
  subst h;have a:T.sk s k<=zs s k F:=by have:=(jO s F (nmL s (zb s k F) F) (zb s k F) (zO c)).1;rw[zm]at this;unfold zs nmE;rw[zm];exact this
  rw[zm]at hne;refine⟨rfl,ol,λx hx=>?_⟩;rw[yM a]at hx;obtain⟨i,d,e,rfl⟩:=zeq hx;have:zs s k F=nmF s F (nmL s (T.sk s k) F) (T.sk s k):=by unfold zs nmE;rw[zm]
  have:=Jy s (nmL s (T.sk s k) F) (T.sk s k) i d ol
  exact .inl ((Y3 _).1 this)
theorem jv{s:ByteArray}{k:Nat}{b:Bool}(c:k<=s.size)(h:btX s k b=F):b=F/\T.sk s k<btK s k b/\Pln (bt s k (btK s k b)):=by
 unfold btX at h;split at h
 ·cases h
 ·next hne =>
  subst h;have a:T.sk s k<=btK s k F:=by have:=(qG s F 32 (zb s k F) (zO c)).1;rw[zm]at this;unfold btK;rw[zm];exact this
  rw[zm]at hne;refine⟨rfl,ol,λx hx=>?_⟩;rw[yM a]at hx;obtain⟨i,d,e,rfl⟩:=zeq hx;have:btK s k F=btF s F 32 (T.sk s k):=by unfold btK;rw[zm]
  have:=QV s 32 (T.sk s k) i d ol
  simp[bit]at this;left;omega
theorem XY{s:ByteArray}{k:Nat}{b:Bool}(h:zZ s k b=F):b=F/\zR s k b=T.sk s k+1/\(97<=T.ch s (T.sk s k)/\T.ch s (T.sk s k)<=122)/\zg s (zb s k b) b=T.ch s (T.sk s k)/\bt s k (zR s k b)=[T.ch s (T.sk s k)]:=by
 unfold zZ at h;split at h
 ·next hl =>
  subst h;have a:=(q9 hl).2;rw[zm]at a;have c:zg s (zb s k F) F=T.ch s (T.sk s k):=by rw[zm,Zi,if_pos a]
  have d:97<=T.ch s (T.sk s k)/\T.ch s (T.sk s k)<=122:=by unfold YW at hl;rw[c]at hl;simpa using hl
  have e:zR s k F=T.sk s k+1:=by unfold zR;rw[if_pos hl,zm]
  refine⟨rfl,e,d,c,?_⟩;rw[e,yM ol,QU rfl (by unfold T.bl;simp;omega)]
 ·cases h
theorem zc1(E:List EX)(j:Nat):szK E (j+1)=szK E j++[szR E (j+1)]:=rfl
theorem ze0(E:List EX){j:Nat}:∀i,j<i->(szK E i)[j]?=S (szR E (j+1)):=by
 intro i;induction i with
 |zero=>intro h;omega
 | succ i ih =>
  intro h;rw[zc1];by_cases e:j=i
  ·subst e;rw[List.getElem?_append_right (by rw[Yt];omega),Yt,Nat.sub_self];rfl
  ·rw[List.getElem?_append_left (by rw[Yt];omega)];exact ih ol
theorem Qi(E:List EX){i j:Nat}(h:j<i):atF (szK E i) (j:Int)=szR E (j+1):=by
 unfold atF;rw[if_neg ol,Int.toNat_natCast,ze0 E i h];rfl
theorem Qj(K:List Int):atF K (-1)=0:=by unfold atF;rw[if_pos oq]
def Pos(E:List EX)(m:Nat)(es:List EX):Prop:=∀i e,es[i]?=S e->E[m+i]?=S e
theorem Pos.left{E:List EX}{m:Nat}{a b:List EX}(h:Pos E m (a++b)):Pos E m a:=λi e he=>h i e (by rw[List.getElem?_append_left (List.getElem?_eq_some_iff.1 he).1];exact he)
theorem Pos.right{E:List EX}{m:Nat}{a b:List EX}(h:Pos E m (a++b)):Pos E (m+a.length) b:=λi e he=>by
 have:=h (a.length+i) e (by rw[List.getElem?_append_right ol,Nat.add_sub_cancel_left];exact he)
 rw[<-Nat.add_assoc]at this;exact this
theorem Pos.last{E:List EX}{m:Nat}{a:List EX}{e:EX}(h:Pos E m (a++[e])):E[m+a.length]?=S e:=by
 have:=h.right 0 e rfl
 simpa using this
theorem Qq{E:List EX}{j:Nat}{e:EX}(h:E[j]?=S e):szR E (j+1)=szE e (szK E j):=by simp only[szR,h]
section
structure RK (rs:List RL) (nm:ByteArray) (Kn:List Int) (E:List EX) (lim:Nat):Prop where
 len:Kn.length=rs.length
 at_:∀i r,rs[i]?=S r->T.ch nm i=r.nv/\∃j:Nat,r.ex=(j:Int)/\j<lim/\Kn[i]?=S (szR E (j+1))
theorem zg4{rs:List RL}{nm:ByteArray}{a:List Int}{E:List EX}{b:Nat}(h:RK rs nm a E b)(v:Int){i:Nat}(hi:b<=i):knL nm v a 0=atF (szK E i) (yr v rs):=by
 have d:∀(rs:List RL) (a:List Int) (o:Nat),a.length=rs.length->(∀i r,rs[i]?=S r->T.ch nm (o+i)=r.nv/\∃j:Nat,r.ex=(j:Int)/\j<b/\a[i]?=S (szR E (j+1)))->knL nm v a o=atF (szK E i) (yr v rs):=by
  intro rs;induction rs with
  | nil =>
   intro a o c _;have:a=[]:=List.eq_nil_of_length_eq_zero c
   subst this;simp[knL,yr,Qj]
  | cons r l ih =>
   intro a o c f;cases a with
   |nil=>simp at c
   | cons q Kr =>
    have e:=f 0 r rfl;obtain⟨j,k,m,g⟩:=e.2;simp at g;simp only[knL,yr];rw[Nat.add_zero]at e;rw[e.1];split
    ·rw[k,Qi E ol,g]
    ·exact ih Kr (o+1) (by simpa using c) (λi r' hr=>by
      have:=f (i+1) r' hr
      rw[show o+(i+1)=o+1+i from by omega]at this;simpa using this)
 exact d rs a 0 h.len (λi r hr=>by have:=h.at_ i r hr;rw[Nat.zero_add];exact this)
theorem YB{s:ByteArray}{c:Int}{k:Nat}(b:c≠0)(d:T.bl c=F)(h:z6 s c k F=P):zc s c k F=T.sk s k+1/\bt s k (zc s c k F)=[c]:=by
 have a:=xp b h;have e:zc s c k F=T.sk s k+1:=by unfold zc;rw[if_pos h,zm]
 exact⟨e,by rw[e,yM ol,QU a.2.2 d]⟩
theorem xK{s:ByteArray}{c:Int}{k:Nat}(h:z6 s c k F=F):bt s k (zc s c k F)=[]:=by
 have e:zc s c k F=T.sk s k:=by unfold zc;rw[if_neg (by rw[h];decide),zm]
 rw[e,zge]
theorem Pln.app{a b:List Int}(h:Pln a)(k:Pln b):Pln (a++b):=λc hc=>(List.mem_append.1 hc).elim (h c) (k c)
theorem YI(c:Int)(x:List Int){l:List (List Int)}(h:l≠[]):joi c (x::l)=x++[c]++joi c l:=by
 cases l with
 |nil=>exact absurd rfl h
 |cons y r=>rfl
theorem zaC{s:ByteArray}{ex:Int->Nat->Nat->Bool->CR}{c:Int}(u:c=123\/c=102\/c=119)(d:Int)(m k:Nat)(q:k<=s.size)(h:(zv ex s c d m k F).b=F):
 (zv ex s c d m k F).es=[]/\(zv ex s c d m k F).im.arm=-1/\Pln (bt s k (zv ex s c d m k F).k):=by
 have g:=T.sk_le q;have r:=T.sk_ge s k;have f:zw s (T.sk s k) F=F->Pln (bt s k (zs s (T.sk s k) F)):=λhh=>by
  have w:=YG g hh;have:=xi s k
  rw[yM ol];exact w.2.2
 rcases u with rfl|rfl|rfl
 ·unfold zv at h⊢;simp only[zm]at h⊢;exact⟨rfl,rfl,f h⟩
 ·unfold zv at h⊢;simp only[zm]at h⊢;exact⟨rfl,rfl,f h⟩
 ·have e:zv ex s 119 d m k F=⟨⟨T.sk s k,zM s (T.sk s k) F,0,0,zM s (zc s 42 (zs s (T.sk s k) F) (zw s (T.sk s k) F)) (zk s 42 (zs s (T.sk s k) F) (zw s (T.sk s k) F)),zb s (zc s 42 (zs s (T.sk s k) F) (zw s (T.sk s k) F)) (zk s 42 (zs s (T.sk s k) F) (zw s (T.sk s k) F)),-1⟩,[],zs s (zc s 42 (zs s (T.sk s k) F) (zw s (T.sk s k) F)) (zk s 42 (zs s (T.sk s k) F) (zw s (T.sk s k) F)),zw s (zc s 42 (zs s (T.sk s k) F) (zw s (T.sk s k) F)) (zk s 42 (zs s (T.sk s k) F) (zw s (T.sk s k) F))⟩:=by unfold zv;rw[zm];rfl
  rw[e]at h⊢;refine⟨rfl,rfl,?_⟩;simp only at h⊢;have j:=yb (b:=false) g;have i:zc s 42 (zs s (T.sk s k) F) (zw s (T.sk s k) F)<=s.size:=zu oq j;have p:=YG i h;have o:=zN oq oq p.1;have v:=f o.1;have t:=z7 (b:=false) g;have n:=zj s 42 (zs s (T.sk s k) F) (zw s (T.sk s k) F);have l:=z7 (b:=zk s 42 (zs s (T.sk s k) F) (zw s (T.sk s k) F)) i;rw[zB s (b:=zs s (T.sk s k) F) ol ol,zB s (a:=zs s (T.sk s k) F) n l,o.2.2];exact v.app (Pln.app (λx hx=>by simp at hx;exact .inr hx) p.2.2)
theorem qN{s:ByteArray}{ex:Int->Nat->Nat->Bool->CR}(t:ZW ex s){c:Int}(C:c=123\/c=102\/c=119)(d:Int):∀(N m k:Nat),k<=s.size->s.size+1<=N+k->(ze ex s c d N m k F).b=F ->
 (ze ex s c d N m k F).es=[]/\(∀x∈(ze ex s c d N m k F).ims,x.arm=-1)/\∃L:List (List Int),L.length=(ze ex s c d N m k F).ims.length/\L≠[]/\(∀x∈L,Pln x)/\bt s k (ze ex s c d N m k F).k=joi 44 L:=by
 intro N;induction N with
 |zero=>intro m k G E;omega
 | succ N ih =>
  intro m k r D a;have g:=Zz t c d m k F r;have l:=zaC (ex:=ex) C d m k r;simp only[ze]at a⊢;generalize zv ex s c d m k F=it at *;have h:∀b,zc s 44 it.k b<=s.size:=λb=>zu oq g.2.1
  have f:=zj s 44 it.k it.b;have e:it.b=F:=by
   cases j:it.b with
   |false=>rfl
   | true =>
    rw[j]at a;have n:=yo (s:=s) (k:=it.k) (b:=true) (c:=44) (.inl rfl) oq oq;rw[n.1]at a;simp at a
  obtain⟨q,p,o⟩:=l e;rw[e]at a f⊢;cases ht:z6 s 44 it.k F with
  | false =>
   rw[ht]at a;simp only[Bool.false_eq_true,if_false]at a⊢;refine⟨q,λx hx=>by simp at hx;subst hx;exact p,[bt s k it.k],rfl,ot,λx hx=>by simp at hx;subst hx;exact o,?_⟩;rw[zB s g.1 f,xK ht,List.append_nil];rfl
  | true =>
   rw[ht]at a;simp only[if_true]at a⊢;have i:=YB (s:=s) (k:=it.k) (c:=44) oq oq ht;have B:=T.sk_ge s it.k;obtain⟨A,z,L,y,w,v,u⟩:=ih (m+it.es.length) (zc s 44 it.k F) (h _) ol a;have j:=zP t c d N (m+it.es.length) (zc s 44 it.k F) F (h _);refine⟨by rw[A,q];rfl,λx hx=>?_,bt s k it.k::L,by simp[y],ot,λx hx=>?_,?_⟩
   ·rcases List.mem_cons.1 hx with rfl|hx
    ·exact p
    ·exact z x hx
   ·rcases List.mem_cons.1 hx with rfl|hx
    ·exact o
    ·exact v x hx
   ·rw[YI 44 _ w,<-u,zB s g.1 (c:=(ze ex s c d N (m+it.es.length) (zc s 44 it.k F) F).k) ol,zB s f j.1,i.2,List.append_assoc]
section
variable {s:ByteArray} {nm:ByteArray} {Kn:List Int} {E:List EX} {lim:Nat}
def EG(s nm:ByteArray)(Kn:List Int)(E:List EX)(lim:Nat)(ex:Int->Nat->Nat->Bool->CR)(n:Nat):Prop:=∀d m k b,k<=s.size->s.size-k<n->(ex d m k b).b=F->lim<=m->Pos E m (ex d m k b).es ->
 1<=(ex d m k b).es.length/\(ex d m k b).idx=((m+(ex d m k b).es.length-1:Nat):Int)/\SZL nm Kn (bt s k (ex d m k b).k) (szR E (m+(ex d m k b).es.length))
structure AR where
 key:List Int
 txt:List Int
 num:Nat
def AR.t(a:AR):List Int:=a.key++[58]++a.txt
theorem zaD{ex:Int->Nat->Nat->Bool->CR}{n:Nat}(I:ZW ex s)(x:qT ex)(H:EG s nm Kn E lim ex n){c:Int}(G:c=103\/c=109)(d:Int)(m k:Nat)(C:k<=s.size)(R:s.size-k<n)(h:(zv ex s c d m k F).b=F)(B:lim<=m)(j:Pos E m (zv ex s c d m k F).es):
 ∃a:AR,Pln a.key/\SZL nm Kn a.txt (szR E (a.num+1))/\a.num<m+(zv ex s c d m k F).es.length/\(zv ex s c d m k F).im.arm=(a.num:Int)/\bt s k (zv ex s c d m k F).k=a.t:=by
 have f:=T.sk_le C;have D:=T.sk_ge s k;have o:∀(i e:Nat) (p g:Bool),T.sk s k<=i->i<=s.size->zc s 58 i p=e->zk s 58 i p=g->(p=F->Pln (bt s k i))->(ex (d+1) m e g).b=F->Pos E m (ex (d+1) m e g).es->(g=P->(ex (d+1) m e g).b=P) ->
  ∃a:AR,Pln a.key/\SZL nm Kn a.txt (szR E (a.num+1))/\a.num<m+(ex (d+1) m e g).es.length/\(ex (d+1) m e g).idx=(a.num:Int)/\bt s k (ex (d+1) m e g).k=a.t:=by
  intro i e p g q O y N L w K J;have v:g=F:=by cases hq:g with
   |false=>rfl
   |true=>rw[J hq]at w;cases w
  subst v;have r:=zN oq oq N;have l:e<=s.size:=by rw[<-y];exact zu oq O
  have S:=zj s 58 i p;obtain⟨Q,A,z⟩:=H (d+1) m e F l ol w B K;have u:=I (d+1) m e F l;refine⟨⟨bt s k i,bt s e (ex (d+1) m e F).k,m+(ex (d+1) m e F).es.length-1⟩,L r.1,by simp only;rw[show m+(ex (d+1) m e F).es.length-1+1=m+(ex (d+1) m e F).es.length from by omega];exact z,ox,A,?_⟩;unfold AR.t;simp only;rw[zB s (b:=i) ol ol,zB s (a:=i) (b:=e) ol u.1];rw[y]at r;rw[r.2.2,List.append_assoc]
 rcases G with rfl|rfl
 ·unfold zv at h j⊢;simp only[zm]at h j⊢;exact o (zs s (T.sk s k) F) _ (zw s (T.sk s k) F) _ (z7 f) (yb f) rfl rfl (λhh=>by
   have q:=YG f hh;rw[yM (z7 f)];exact q.2.2) h j (λhh=>by rw[hh];exact x _ _ _)
 ·unfold zv at h j⊢;simp only[zm]at h j⊢;exact o (btK s (T.sk s k) F) _ (btX s (T.sk s k) F) _ (Xu f) (Xt f) rfl rfl (λhh=>by
   have q:=jv f hh;rw[yM (Xu f)];exact q.2.2) h j (λhh=>by rw[hh];exact x _ _ _)
theorem JH{ex:Int->Nat->Nat->Bool->CR}{n:Nat}(u:ZW ex s)(R:qT ex)(Q:EG s nm Kn E lim ex n){c:Int}(P:c=103\/c=109)(d:Int):∀(N m k:Nat),k<=s.size->s.size+1<=N+k->s.size-k<n->(ze ex s c d N m k F).b=F->lim<=m->Pos E m (ze ex s c d N m k F).es ->
 ∃L:List AR,L.length=(ze ex s c d N m k F).ims.length/\L≠[]/\(∀a∈L,Pln a.key/\SZL nm Kn a.txt (szR E (a.num+1))/\a.num<m+(ze ex s c d N m k F).es.length)/\(ze ex s c d N m k F).ims.map IM.arm=L.map (λa=>(a.num:Int))/\bt s k (ze ex s c d N m k F).k=joi 44 (L.map AR.t):=by
 intro N;induction N with
 |zero=>intro m k V U;omega
 | succ N ih =>
  intro m k B S O f A g;have i:=Zz u c d m k F B;have l:=zaD u R Q P d m k B O;simp only[ze]at f g⊢;generalize zv ex s c d m k F=it at *;have j:∀b,zc s 44 it.k b<=s.size:=λb=>zu oq i.2.1
  have h:=zj s 44 it.k it.b;have e:it.b=F:=by
   cases p:it.b with
   |false=>rfl
   | true =>
    rw[p]at f;have r:=yo (s:=s) (k:=it.k) (b:=true) (c:=44) (.inl rfl) oq oq;rw[r.1]at f;simp at f
  rw[e]at f h g⊢;cases ht:z6 s 44 it.k F with
  | false =>
   rw[ht]at f g;simp only[Bool.false_eq_true,if_false]at f g⊢;obtain⟨a,z,y,C,w,v⟩:=l e A g;refine⟨[a],rfl,ot,λx hx=>by simp at hx;subst hx;exact⟨z,y,C⟩,by simp[w],?_⟩;rw[zB s i.1 h,xK ht,List.append_nil,v];rfl
  | true =>
   rw[ht]at f g;simp only[if_true]at f g⊢;obtain⟨a,z,y,C,w,v⟩:=l e A g.left;have o:=YB (s:=s) (k:=it.k) (c:=44) oq oq ht;have K:=T.sk_ge s it.k;obtain⟨L,J,I,H,G,D⟩:=ih (m+it.es.length) (zc s 44 it.k F) (j _) ol ol f ol g.right;have p:=zP u c d N (m+it.es.length) (zc s 44 it.k F) F (j _);generalize ze ex s c d N (m+it.es.length) (zc s 44 it.k F) F=q at *;refine⟨a::L,by simp[J],ot,λx hx=>?_,by simp[w,G],?_⟩
   ·rcases List.mem_cons.1 hx with rfl|hx
    ·exact⟨z,y,by simp only[List.length_append];omega⟩
    ·have:=H x hx
     exact⟨this.1,this.2.1,by simp only[List.length_append];omega⟩
   ·rw[List.map_cons,YI 44 _ (by simpa using I),<-D,zB s i.1 (c:=q.k) ol,zB s h p.1,o.2,v,List.append_assoc]
end
end
theorem zeh{x:Int}(h:x<=1001):Zj x=x:=by unfold Zj;split<;>omega
theorem YQ{K:List Int}{l:List IM}(h:∀x∈l,x.arm=-1):∀j,yV K l j=0:=by
 intro j;induction j with
 |zero=>rfl
 | succ j ih =>
  simp only[yV,ih];cases hx:l[j]? with
  |none=>rfl
  |some x=>simp only;rw[h x (List.mem_of_getElem? hx),Qj];rfl
def arD:AR:=⟨[],[],0⟩
theorem jc{α:Type}(L:List AR)(f:AR->α):(List.range L.length).map (λi=>f ((L[i]?).getD arD))=L.map f:=by
 apply List.ext_getElem
 ·simp
 ·intro i a b;simp at a;simp[a]
theorem zeC{E:List EX}{M:Nat}{l:List IM}{L:List AR}(d:l.map IM.arm=L.map (λa=>(a.num:Int)))(f:∀a∈L,a.num<M):∀j,j<=L.length->yV (szK E M) l j=Yy (λi=>if i<L.length then szR E (((L[i]?).getD arD).num+1)else 0) j:=by
 intro j;induction j with
 |zero=>intro _;rfl
 | succ j ih =>
  intro h;simp only[yV,Yy,ih ol];have g:l.length=L.length:=by have:=congrArg List.length d;simpa using this
  have c:l[j]?=S l[j]:=List.getElem?_eq_getElem ol;have b:L[j]?=S L[j]:=List.getElem?_eq_getElem ol;have e:(l[j]).arm=((L[j]).num:Int):=by
   have:=congrArg (λq=>q[j]?) d
   simp only[List.getElem?_map,c,b]at this;simpa using this
  rw[c,b];simp only[Option.getD_some];rw[e,Qi E (f _ (List.getElem_mem _)),if_pos ol]
theorem zcx{s nm:ByteArray}{rs:List RL}{Kn:List Int}{E:List EX}{V:Nat}(hR:RK rs nm Kn E V)(b4:∀e∈E,e.items.length<=16):∀n,EG s nm Kn E V (cE s rs n) n:=by
 intro n;induction n with
 |zero=>intro d m k b _ h;omega
 | succ n ih =>
  intro d m k b hk hn f hm g;have U:=yT s rs n;have hB:=xB s rs n;have a5:b=F:=by
   cases hq:b with
   |false=>rfl
   |true=>rw[hq,xB s rs (n+1) d m k]at f;cases f
  subst a5;have b7:=T.sk_ge s k;have b6:=T.sk_le hk;have b5:=xi s k;have j:=zm s k;cases hK:isK (zg s (zb s k F) F)with
  |false=>rw[JS n d m k F hK]at f;cases f
  | true =>
   have a3:T.sk s k<s.size:=(by have:=(Zw hK).2;rw[j]at this;exact this);obtain⟨c,hc⟩:∃c,T.ch s (T.sk s k)=c:=⟨_,rfl⟩;have q:zg s (zb s k F) F=c:=(by rw[j,Zi,if_pos a3];exact hc);rw[q]at hK;have h8:c=123\/c=116\/c=64\/c=61\/(c=119\/c=102\/c=109\/c=103):=by
    simp[isK]at hK;omega
   have a6:T.bl c=F:=(by unfold T.bl;simp;omega);have z:bt s k (T.sk s k+1)=[c]:=(by rw[yM ol,QU hc a6]);rcases h8 with rfl|rfl|rfl|rfl|h8
   ·rw[Y7 n d m k F q,j]at f g⊢;have y:=zP U 123 d (s.size+1-(T.sk s k+1)) m (T.sk s k+1) F ol;have G:=qN U (c:=123) (.inl rfl) d (s.size+1-(T.sk s k+1)) m (T.sk s k+1) ol ol;generalize ze (cE s rs n) s 123 d (s.size+1-(T.sk s k+1)) m (T.sk s k+1) F=l at *;simp only at f g⊢;have u:=zN oq oq f;obtain⟨i1,Y,L,J,X,W,i6⟩:=G u.1;have v:=g.last;have a0:=b4 _ (List.mem_of_getElem? v);simp only at a0;have w:=zj s 125 l.k l.b;refine⟨ot,ot,?_⟩;rw[zB s (b:=T.sk s k+1) ol ol,zB s (a:=T.sk s k+1) y.1 w,z,i6,u.2.2];have D:szR E (m+(l.es++[(⟨123,T.sk s k,d,0,0,l.ims,-1⟩:EX)]).length)=1+(L.length:Int):=by
     rw[List.length_append,List.length_singleton,<-Nat.add_assoc,Qq v];unfold szE;simp only;rw[Qj,YQ Y,if_neg oq,J,zeh ol];omega
    rw[D,<-List.append_assoc];exact SZL.servers X W
   ·rw[j2 n d m k F q rfl rfl rfl,j]at f g⊢;have S:=zj s 40 (T.sk s k+1) F;have p:zc s 40 (T.sk s k+1) F<=s.size:=zu oq ol;have O:=zN (s:=s) (c:=40) (k:=T.sk s k+1) (b:=false) oq oq;generalize zc s 40 (T.sk s k+1) F=k1 at *;generalize zk s 40 (T.sk s k+1) F=b1 at *;have a8:=z7 (b:=b1) p;have a7:=yb (b:=b1) p;have a2:=YG (b:=b1) p;generalize zs s k1 b1=kn at *;generalize zw s k1 b1=bn at *;have R:=zj s 44 kn bn;have A:zc s 44 kn bn<=s.size:=zu oq a7;have N:=zN (s:=s) (c:=44) (k:=kn) (b:=bn) oq oq;generalize zc s 44 kn bn=k2 at *;generalize zk s 44 kn bn=b2 at *;have y:=U (d+1) m k2 b2 A;have Q:b2=P->(cE s rs n (d+1) m k2 b2).b=P:=λh=>by rw[h];exact hB _ _ _
    have hI:=ih (d+1) m k2 b2 A ol;generalize cE s rs n (d+1) m k2 b2=r at *;simp only at f g⊢;have u:=zN oq oq f;have B:b2=F:=by cases hq:b2 with
     |false=>rfl
     |true=>rw[Q hq]at u;cases u.1
    obtain⟨x1,x2,x3⟩:=hI u.1 hm g.left;have I:=N B;have gn:=a2 I.1;have g1:=O gn.1;have v:=g.last;have w:=zj s 41 r.k r.b;refine⟨ot,ot,?_⟩;rw[zB s (b:=T.sk s k+1) ol ol,zB s (a:=T.sk s k+1) (b:=k1) S ol,zB s (a:=k1) (b:=kn) a8 ol,zB s (a:=kn) (b:=k2) R ol,zB s (a:=k2) y.1 w,z,g1.2.2,I.2.2,u.2.2];have D:szR E (m+(r.es++[(⟨116,T.sk s k,d,zM s k1 b1,zb s k1 b1,[],r.idx⟩:EX)]).length)=Zj (1+szR E (m+r.es.length)):=by
     rw[List.length_append,List.length_singleton,<-Nat.add_assoc,Qq v];unfold szE;simp only;rw[x2,Qi E ol,show m+r.es.length-1+1=m+r.es.length from by omega,if_neg oq,YQ ot];congr 1
     simp
     omega
    rw[D];have:=SZL.ttl gn.2.2 x3
    simpa[joi]using this
   ·rw[X7 n d m k F q,j]at f g⊢;simp only at f g⊢;have gn:=YG ol f;have v:=g.last (a:=[]);refine⟨ot,ot,?_⟩;rw[zB s (b:=T.sk s k+1) ol (z7 ol),z];have D:szR E (m+[(⟨64,T.sk s k,d,zM s (T.sk s k+1) F,zb s (T.sk s k+1) F,[],-1⟩:EX)].length)=1:=by
     rw[List.length_singleton];rw[List.length_nil,Nat.add_zero]at v;rw[Qq v];unfold szE;simp only;rw[Qj,if_neg oq,YQ ot];decide
    rw[D];exact SZL.alias gn.2.2
   ·rw[Qe n d m k F q,j]at f g⊢;simp only at f g⊢;have gl:=XY f;have v:=g.last (a:=[]);rw[List.length_nil,Nat.add_zero]at v;refine⟨ot,ot,?_⟩;rw[zB s (b:=T.sk s k+1) ol (Yu s _ _),z,gl.2.2.2.2];have D:szR E (m+[(⟨61,T.sk s k,d,zg s (zb s (T.sk s k+1) F) F,zb s (T.sk s k+1) F,[],yr (zg s (zb s (T.sk s k+1) F) F) rs⟩:EX)].length)=knL nm (T.ch s (T.sk s (T.sk s k+1))) Kn 0:=by
     rw[List.length_singleton,Qq v];unfold szE;simp only;rw[if_pos trivial,YQ ot,gl.2.2.2.1,zg4 hR _ hm,zeh]
     ·omega
     ·have:=(Xw (Qr E m) (yr (T.ch s (T.sk s (T.sk s k+1))) rs)).2;omega
    rw[D];exact SZL.name gl.2.2.1
   ·rw[Qf n d m k F q h8 rfl rfl rfl rfl,j]at f g⊢;have S:=zj s 40 (T.sk s k+1) F;have p:zc s 40 (T.sk s k+1) F<=s.size:=zu oq ol;have O:=zN (s:=s) (c:=40) (k:=T.sk s k+1) (b:=false) oq oq;generalize zc s 40 (T.sk s k+1) F=k1 at *;generalize zk s 40 (T.sk s k+1) F=b1 at *;have Z:=zP U c d (s.size+1-k1) m k1 b1 p;have a4:b1=P->(ze (cE s rs n) s c d (s.size+1-k1) m k1 b1).b=P:=λh=>QQ hB c d _ m k1 h
    have b0:b1=F->(c=123\/c=102\/c=119)->(ze (cE s rs n) s c d (s.size+1-k1) m k1 b1).b=F->(ze (cE s rs n) s c d (s.size+1-k1) m k1 b1).es=[]/\(∀x∈(ze (cE s rs n) s c d (s.size+1-k1) m k1 b1).ims,x.arm=-1)/\∃L:List (List Int),L.length=(ze (cE s rs n) s c d (s.size+1-k1) m k1 b1).ims.length/\L≠[]/\(∀x∈L,Pln x)/\bt s k1 (ze (cE s rs n) s c d (s.size+1-k1) m k1 b1).k=joi 44 L:=λh hc2 f=>by subst h;exact qN U hc2 d (s.size+1-k1) m k1 p ol f
    have b3:b1=F->(c=103\/c=109)->(ze (cE s rs n) s c d (s.size+1-k1) m k1 b1).b=F->Pos E m (ze (cE s rs n) s c d (s.size+1-k1) m k1 b1).es->∃L:List AR,L.length=(ze (cE s rs n) s c d (s.size+1-k1) m k1 b1).ims.length/\L≠[]/\(∀a∈L,Pln a.key/\SZL nm Kn a.txt (szR E (a.num+1))/\a.num<m+(ze (cE s rs n) s c d (s.size+1-k1) m k1 b1).es.length)/\(ze (cE s rs n) s c d (s.size+1-k1) m k1 b1).ims.map IM.arm=L.map (λa=>(a.num:Int))/\bt s k1 (ze (cE s rs n) s c d (s.size+1-k1) m k1 b1).k=joi 44 (L.map AR.t):=λh hc2 f hp=>by subst h;exact JH U hB ih hc2 d (s.size+1-k1) m k1 p ol ol f hm hp
    generalize ze (cE s rs n) s c d (s.size+1-k1) m k1 b1=l at *;have R:=zj s 124 l.k l.b;have A:zc s 124 l.k l.b<=s.size:=zu oq Z.2.1;have N:=zN (s:=s) (c:=124) (k:=l.k) (b:=l.b) oq oq;generalize zc s 124 l.k l.b=k2 at *;generalize zk s 124 l.k l.b=b2 at *;have y:=U (d+1) (m+l.es.length) k2 b2 A;have Q:b2=P->(cE s rs n (d+1) (m+l.es.length) k2 b2).b=P:=λh=>by rw[h];exact hB _ _ _
    have hI:=ih (d+1) (m+l.es.length) k2 b2 A ol;generalize cE s rs n (d+1) (m+l.es.length) k2 b2=r at *;simp only at f g⊢;have u:=zN oq oq f;have B:b2=F:=by cases hq:b2 with
     |false=>rfl
     |true=>rw[Q hq]at u;cases u.1
    have I:=N B;have C:b1=F:=by cases hq:b1 with
     |false=>rfl
     |true=>rw[a4 hq]at I;cases I.1
    have g1:=O C;obtain⟨x1,x2,x3⟩:=hI u.1 ol g.left.right;have v:=g.last;have w:=zj s 41 r.k r.b;refine⟨by simp only[List.length_append,List.length_cons,List.length_nil];omega,by simp only[List.length_append,List.length_cons,List.length_nil];omega,?_⟩;rw[zB s (b:=T.sk s k+1) ol ol,zB s (a:=T.sk s k+1) (b:=k1) S ol,zB s (a:=k1) (b:=l.k) Z.1 ol,zB s (a:=l.k) (b:=k2) R ol,zB s (a:=k2) y.1 w,z,g1.2.2,I.2.2,u.2.2];have a9:m+(l.es++r.es).length=m+l.es.length+r.es.length:=(by rw[List.length_append];omega);have D:szR E (m+(l.es++r.es++[(⟨c,T.sk s k,d,0,0,l.ims,r.idx⟩:EX)]).length)=Zj (szR E (m+l.es.length+r.es.length)+(1+(l.ims.length:Int))+yV (szK E (m+l.es.length+r.es.length)) l.ims l.ims.length):=by
     rw[List.length_append,List.length_singleton,<-Nat.add_assoc,Qq v,a9];unfold szE;simp only;rw[x2,Qi E ol,show m+l.es.length+r.es.length-1+1=m+l.es.length+r.es.length from by omega,if_neg ol]
    rw[D];by_cases a1:c=123\/c=102\/c=119
    ·obtain⟨i1,Y,L,J,X,W,i6⟩:=b0 C a1 I.1;rw[i6,YQ Y];have:=SZL.list (c:=c) ol X W x3
     rw[show szR E (m+l.es.length+r.es.length)+(1+(l.ims.length:Int))+0=1+(L.length:Int)+szR E (m+l.es.length+r.es.length)from by rw[J];omega];simpa[joi]using this
    ·obtain⟨L,i1,Y,J,X,W⟩:=b3 C ol I.1 g.left.left;rw[W,<-i1,zeC (E:=E) (M:=m+l.es.length+r.es.length) X (λa ha=>by have:=(J a ha).2.2;omega) L.length (Nat.le_refl _)];have H:∀i,i<L.length->∃a∈L,(L[i]?).getD arD=a:=λi G=>⟨L[i],List.getElem_mem _,by rw[List.getElem?_eq_getElem G];rfl⟩
     have:=SZL.maps (nm:=nm) (K:=Kn) (c:=c) (m:=L.length) (ks:=λi=>((L[i]?).getD arD).key) (ar:=λi=>((L[i]?).getD arD).txt) (o:=bt s k2 r.k) (n:=szR E (m+l.es.length+r.es.length)) (ns:=λi=>if i<L.length then szR E (((L[i]?).getD arD).num+1)else 0) ol (List.length_pos_iff.2 Y)
      (λi G=>by obtain⟨a,ha,e⟩:=H i G;simp only[e];exact(J a ha).1) (λi G=>by obtain⟨a,ha,e⟩:=H i G;simp only[e,if_pos G];exact(J a ha).2.1) (λi G=>by rw[if_neg ol]) x3
     have e2:(List.range L.length).map (λi=>((L[i]?).getD arD).key++[58]++((L[i]?).getD arD).txt)=L.map AR.t:=jc L AR.t;rw[e2]at this;rw[show szR E (m+l.es.length+r.es.length)+(1+(L.length:Int))+Yy (λi=>if i<L.length then szR E (((L[i]?).getD arD).num+1)else 0) L.length=1+(L.length:Int)+szR E (m+l.es.length+r.es.length)+Yy (λi=>if i<L.length then szR E (((L[i]?).getD arD).num+1)else 0) L.length from by omega];simpa[joi]using this
end Go.Proofs.YtaebngpoagjafabGreat
