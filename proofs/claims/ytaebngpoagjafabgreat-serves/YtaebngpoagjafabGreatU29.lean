import Derived.Test.YtaebngpoagjafabGreatU18
import Derived.Test.YtaebngpoagjafabGreatU22
set_option maxRecDepth 100000
namespace Go.Proofs.YtaebngpoagjafabGreat
open Go.RowKit
def Byt (xs:List Int):Prop:=∀ x∈xs,0<=x/\x<256
theorem Byt.app {a b:List Int} (h:Byt a) (k:Byt b):Byt (a++b):=fun x hx=>(List.mem_append.1 hx).elim (h x) (k x)
theorem xi (xs:List Int):(strOfNums xs).data.toList=xs.map (fun n=>UInt8.ofNat n.toNat):=strOfNums_data xs
theorem yx {xs:List Int} (h:Byt xs) (i:Nat):T.ch (strOfNums xs) i=(xs[i]?).getD (-1):=by
 by_cases b:i<xs.length
 ·have a:i<(strOfNums xs).size:=by rw [strOfNums_size];exact b
  rw [T.ch_lt a,List.getElem?_eq_getElem b]
  have d:(strOfNums xs)[i]=UInt8.ofNat (xs[i]).toNat:=by
   have:(strOfNums xs).data.toList[i]?=some ((strOfNums xs)[i]):=List.getElem?_eq_getElem (l:=(strOfNums xs).data.toList) (by simpa using a)
   rw [xi,List.getElem?_map,List.getElem?_eq_getElem b] at this
   exact (Option.some.inj this).symm
  rw [d]
  have:=h xs[i] (List.getElem_mem _)
  simp
  omega
 ·have a:¬ i<(strOfNums xs).size:=by rw [strOfNums_size];exact b
  rw [T.ch_ge a,List.getElem?_eq_none (by omega)];rfl
theorem x8 (xs:List Int) (a b:Nat):(strOfNums xs).extract a b=strOfNums ((xs.drop a).take (b-a)):=by
 have d:((strOfNums xs).extract a b).data.toList=(strOfNums ((xs.drop a).take (b-a))).data.toList:=by
  rw [xi,ByteArray.data_extract,Array.toList_extract,xi]
  simp [List.extract_eq_take_drop,List.map_take,List.map_drop]
 have:∀ {x y:ByteArray},x.data.toList=y.data.toList->x=y:=fun {x y} h=>by
  obtain ⟨⟨l⟩⟩:=x
  obtain ⟨⟨m⟩⟩:=y
  simp at h
  rw [h]
 exact this d
def yk (c:Int):Int->List Int->List Int->List (List Int)
 | _,cur,[]=>[cur]
 | d,cur,x::r =>
  if x=40\/x=123 then yk c (d+1) (cur++[x]) r
  else if x=41\/x=125 then yk c (d-1) (cur++[x]) r
  else if x=c/\d=0 then cur::yk c d [] r
  else yk c d (cur++[x]) r
theorem Zv {xs:List Int} (h:Byt xs) (c:Int):spl (strOfNums xs) c=(yk c 0 [] xs).map strOfNums:=by
 have d:∀ i,i<=xs.length->(yk c 0 [] xs).map strOfNums=(spS (strOfNums xs) c i).l++(yk c (spS (strOfNums xs) c i).deep ((xs.drop (spS (strOfNums xs) c i).from_).take (i-(spS (strOfNums xs) c i).from_)) (xs.drop i)).map strOfNums:=by
  intro i
  induction i with
  | zero=>intro _;simp [spS]
  | succ i ih =>
   intro m
   have b:=(XC (strOfNums xs) c i).1
   rw [ih (by omega)]
   have g:xs[i]?=some xs[i]:=List.getElem?_eq_getElem (by omega)
   have j:xs.drop i=xs[i]::xs.drop (i+1):=List.drop_eq_getElem_cons (by omega)
   have e:T.ch (strOfNums xs) i=xs[i]:=by rw [yx h,g];rfl
   have a:∀ f,f<=i->(xs.drop f).take (i-f)++[xs[i]]=(xs.drop f).take (i+1-f):=fun f b=>by
    rw [show i+1-f=(i-f)+1 from by omega,List.take_add_one,List.getElem?_drop,show f+(i-f)=i from by omega,g]
    rfl
   rw [j]
   simp only [spS,yk,e]
   generalize spS (strOfNums xs) c i=q at *
   split
   ·rw [a _ b]
   ·split
    ·rw [a _ b]
    ·split
     ·next hc =>
      rw [x8]
      simp
     ·rw [a _ b]
 have k:=d xs.length (Nat.le_refl _)
 unfold spl
 rw [k,strOfNums_size,x8]
 simp [yk]
def Pln (x:List Int):Prop:=∀ c∈x,(48<=c/\c<=57)\/c=42
def Nsp (n:Int) (xs:List Int):Prop:=∀ c,(c=44\/c=124\/c=58\/c=59)->∀ d,n<=d->∀ cur rest,yk c d cur (xs++rest)=yk c d (cur++xs) rest
theorem Nsp.nil (n:Int):Nsp n []:=fun c _ d _ cur rest=>by simp
theorem Nsp.app {n:Int} {a b:List Int} (h:Nsp n a) (k:Nsp n b):Nsp n (a++b):=fun c hc d hd cur rest=>by
 rw [List.append_assoc,h c hc d hd,k c hc d hd,List.append_assoc]
theorem Nsp.mono {n m:Int} {a:List Int} (h:Nsp n a) (hm:n<=m):Nsp m a:=fun c hc d hd=>h c hc d (Int.le_trans hm hd)
theorem Nsp.one {x:Int} (h:(48<=x/\x<=57)\/x=42\/(97<=x/\x<=122)\/x=64\/x=61):Nsp 0 [x]:=fun c hc d _ cur rest=>by
 simp only [List.singleton_append,yk]
 rw [if_neg (by omega),if_neg (by omega),if_neg (by omega)]
theorem Nsp.deep {x:Int} (h1:x≠40/\x≠123/\x≠41/\x≠125):Nsp 1 [x]:=fun c hc d hd cur rest=>by
 simp only [List.singleton_append,yk]
 rw [if_neg (by omega),if_neg (by omega),if_neg (by omega)]
theorem Nsp.pln {x:List Int} (h:Pln x):Nsp 0 x:=by
 induction x with
 | nil=>exact Nsp.nil 0
 | cons a r ih =>
  have b:Nsp 0 [a]:=Nsp.one (by have:=h a (by simp);omega)
  exact b.app (ih (fun c hc=>h c (by simp [hc])))
theorem Nsp.brac {y:List Int} {o cl:Int} (ho:o=40\/o=123) (hcl:cl=41\/cl=125) (h:Nsp 1 y):Nsp 0 ([o]++y++[cl]):=fun c hc d hd cur rest=>by
 have e:[o]++y++[cl]++rest=o::(y++(cl::rest)):=by simp
 rw [e,yk,if_pos ho,h c hc (d+1) (by omega),yk,if_neg (by omega),if_pos hcl,show d+1-1=d from by omega]
 simp
def joi (c:Int):List (List Int)->List Int
 | []=>[]
 | [x]=>x
 | x::y::r=>x++[c]++joi c (y::r)
theorem zd1 {c:Int} (hc:c=44\/c=124\/c=58\/c=59):∀ (l:List (List Int)),l≠[]->(∀ x∈l,Nsp 0 x)->yk c 0 [] (joi c l)=l:=by
 intro l
 induction l with
 | nil=>intro h;exact absurd rfl h
 | cons x r ih =>
  intro _ h
  cases r with
  | nil =>
   have:=h x (by simp) c hc 0 (Int.le_refl _) [] []
   simp only [joi]
   rw [List.append_nil] at this
   rw [this]
   simp [yk]
  | cons y r =>
   have a:=h x (by simp) c hc 0 (Int.le_refl _) [] ([c]++joi c (y::r))
   simp only [joi,List.append_assoc]
   rw [a]
   simp only [List.singleton_append,yk]
   rw [if_neg (by omega),if_neg (by omega),if_pos ⟨trivial,trivial⟩,ih (by simp) (fun z hz=>h z (by simp [hz]))]
   simp
theorem Nsp.joi {c:Int} (hc:c≠40/\c≠123/\c≠41/\c≠125):∀ (l:List (List Int)),(∀ x∈l,Nsp 1 x)->Nsp 1 (joi c l):=by
 intro l
 induction l with
 | nil=>intro _;exact Nsp.nil 1
 | cons x r ih =>
  intro h
  cases r with
  | nil=>exact h x (by simp)
  | cons y r =>
   simp only [Go.Proofs.YtaebngpoagjafabGreat.joi]
   exact ((h x (by simp)).app (Nsp.deep hc)).app (ih (fun z hz=>h z (by simp [hz])))
inductive SZL (nm:ByteArray) (K:List Int):List Int->Int->Prop where
 | servers {l:List (List Int)}:l≠[]->(∀ x∈l,Pln x)->SZL nm K ([123]++joi 44 l++[125]) (1+(l.length:Int))
 | alias {x:List Int}:Pln x->SZL nm K (64::x) 1
 | name {c:Int}:(97<=c/\c<=122)->SZL nm K [61,c] (knL nm c K 0)
 | ttl {x o:List Int} {n:Int}:Pln x->SZL nm K o n->SZL nm K ([116]++([40]++joi 44 [x,o]++[41])) (Za (1+n))
 | list {c:Int} {l:List (List Int)} {o:List Int} {n:Int}:(c=119\/c=102)->l≠[]->(∀ x∈l,Pln x)->SZL nm K o n->SZL nm K ([c]++([40]++joi 124 [joi 44 l,o]++[41])) (Za (1+(l.length:Int)+n))
 | maps {c:Int} {m:Nat} {ks ar:Nat->List Int} {o:List Int} {n:Int} {ns:Nat->Int}:(c=109\/c=103)->0<m->(∀ i,i<m->Pln (ks i))->(∀ i,i<m->SZL nm K (ar i) (ns i))->(∀ i,m<=i->ns i=0)->SZL nm K o n->SZL nm K ([c]++([40]++joi 124 [joi 44 ((List.range m).map (fun i=>ks i++[58]++ar i)),o]++[41])) (Za (1+(m:Int)+n+Yj ns m))
theorem SZL.nsp {nm:ByteArray} {K:List Int} {t:List Int} {n:Int} (h:SZL nm K t n):Nsp 0 t:=by
 induction h with
 | servers _ h=>exact Nsp.brac (.inr rfl) (.inr rfl) (Nsp.joi (by decide) _ (fun x hx=>(Nsp.pln (h x hx)).mono (by decide)))
 | alias h=>exact Nsp.app (a:=[64]) (Nsp.one (by decide)) (Nsp.pln h)
 | name h=>exact Nsp.app (a:=[61]) (b:=[_]) (Nsp.one (by decide)) (Nsp.one (by omega))
 | ttl hx _ ih=>exact (Nsp.one (by decide)).app (Nsp.brac (.inl rfl) (.inl rfl) (Nsp.joi (by decide) _ (fun z hz=>by
  simp at hz;rcases hz with rfl | rfl
  ·exact (Nsp.pln hx).mono (by decide)
  ·exact ih.mono (by decide))))
 | list hc _ hx _ ih=>exact (Nsp.one (by omega)).app (Nsp.brac (.inl rfl) (.inl rfl) (by
  simp only [joi]
  exact ((Nsp.joi (by decide) _ (fun x h=>(Nsp.pln (hx x h)).mono (by decide))).app (Nsp.deep (by decide))).app (ih.mono (by decide))))
 | maps hc _ hk _ _ _ iha iho=>exact (Nsp.one (by omega)).app (Nsp.brac (.inl rfl) (.inl rfl) (by
  simp only [joi]
  refine ((Nsp.joi (by decide) _ (fun x hx=>?_)).app (Nsp.deep (by decide))).app (iho.mono (by decide))
  simp only [List.mem_map,List.mem_range] at hx
  obtain ⟨i,d,rfl⟩:=hx
  exact (((Nsp.pln (hk i d)).mono (by decide)).app (Nsp.deep (by decide))).app ((iha i d).mono (by decide))))
theorem Pln.byt {x:List Int} (h:Pln x):Byt x:=fun c hc=>by have:=h c hc;omega
theorem Byt.joi {c:Int} (hc:0<=c/\c<256):∀ (l:List (List Int)),(∀ x∈l,Byt x)->Byt (joi c l):=by
 intro l
 induction l with
 | nil=>intro _ x a;simp [Go.Proofs.YtaebngpoagjafabGreat.joi] at a
 | cons x r ih =>
  intro h
  cases r with
  | nil=>exact h x (by simp)
  | cons y r =>
   simp only [Go.Proofs.YtaebngpoagjafabGreat.joi]
   exact ((h x (by simp)).app (fun z hz=>by simp at hz;subst hz;exact hc)).app (ih (fun z hz=>h z (by simp [hz])))
theorem Byt.one {c:Int} (hc:0<=c/\c<256):Byt [c]:=fun z hz=>by simp at hz;subst hz;exact hc
theorem SZL.byt {nm:ByteArray} {K:List Int} {t:List Int} {n:Int} (h:SZL nm K t n):Byt t:=by
 induction h with
 | servers _ h=>exact ((Byt.one (by decide)).app (Byt.joi (by decide) _ (fun x hx=>(h x hx).byt))).app (Byt.one (by decide))
 | alias h=>exact Byt.app (a:=[64]) (Byt.one (by decide)) h.byt
 | name h=>exact Byt.app (a:=[61]) (b:=[_]) (Byt.one (by decide)) (Byt.one (by omega))
 | ttl hx _ ih=>exact (Byt.one (by decide)).app (((Byt.one (by decide)).app (Byt.joi (by decide) _ (fun z hz=>by
  simp at hz;rcases hz with rfl | rfl
  ·exact hx.byt
  ·exact ih))).app (Byt.one (by decide)))
 | list hc _ hx _ ih=>exact (Byt.one (by omega)).app (((Byt.one (by decide)).app (Byt.joi (by decide) _ (fun z hz=>by
  simp at hz;rcases hz with rfl | rfl
  ·exact Byt.joi (by decide) _ (fun x h=>(hx x h).byt)
  ·exact ih))).app (Byt.one (by decide)))
 | maps hc _ hk _ _ _ iha iho=>exact (Byt.one (by omega)).app (((Byt.one (by decide)).app (Byt.joi (by decide) _ (fun z hz=>by
  simp at hz;rcases hz with rfl | rfl
  ·refine Byt.joi (by decide) _ (fun x h=>?_)
   simp only [List.mem_map,List.mem_range] at h
   obtain ⟨i,d,rfl⟩:=h
   simpa using ((hk i d).byt.app (Byt.one (c:=58) (by decide))).app (iha i d)
  ·exact iho))).app (Byt.one (by decide)))
theorem YC (a y b:List Int):(strOfNums (a++y++b)).extract a.length ((strOfNums (a++y++b)).size-b.length)=strOfNums y:=by
 rw [x8,strOfNums_size]
 congr 1
 rw [List.append_assoc,List.drop_left,show (a++(y++b)).length-b.length-a.length=y.length from by simp only [List.length_append];omega,List.take_left]
theorem xg (a y:List Int):(strOfNums (a++y)).extract a.length (strOfNums (a++y)).size=strOfNums y:=by
 have:=YC a y []
 simpa using this
theorem YY {c:Int} (hc:c=44\/c=124\/c=58\/c=59) {l:List (List Int)} (h0:l≠[]) (hn:∀ x∈l,Nsp 0 x) (hb:Byt (joi c l)):spl (strOfNums (joi c l)) c=l.map strOfNums:=by
 rw [Zv hb,zd1 hc l h0 hn]
def ZV (xs:List Int):Prop:=∀ cur rest,yk 124 0 cur (xs++rest)=yk 124 0 (cur++xs) rest
theorem ZF {a b:List Int} (h:ZV a) (k:ZV b):ZV (a++b):=fun cur rest=>by rw [List.append_assoc,h,k,List.append_assoc]
theorem xP {x:Int} (h:x≠40/\x≠123/\x≠41/\x≠125/\x≠124):ZV [x]:=fun cur rest=>by
 simp only [List.singleton_append,yk]
 rw [if_neg (by omega),if_neg (by omega),if_neg (by omega)]
theorem Yr {x:List Int} (h:Nsp 0 x):ZV x:=fun cur rest=>h 124 (.inr (.inl rfl)) 0 (Int.le_refl _) cur rest
theorem YZ:∀ (l:List (List Int)),(∀ x∈l,ZV x)->ZV (joi 44 l):=by
 intro l
 induction l with
 | nil=>intro _ a rest;simp [joi]
 | cons x r ih =>
  intro h
  cases r with
  | nil=>exact h x (by simp)
  | cons y r =>
   simp only [joi]
   exact ZF (ZF (h x (by simp)) (xP (by decide))) (ih (fun z hz=>h z (by simp [hz])))
theorem qN (l:List (List Int)) (h:∀ x∈l,Pln x):ZV (joi 44 l):=YZ l (fun x hx=>Yr (Nsp.pln (h x hx)))
theorem qC {m:Nat} {ks ar:Nat->List Int} (hk:∀ i,i<m->Pln (ks i)) (ha:∀ i,i<m->Nsp 0 (ar i)):∀ (l:List Nat),l≠[]->(∀ i∈l,i<m)->yk 44 0 [] (joi 44 (l.map (fun i=>ks i++[58]++ar i)))=l.map (fun i=>ks i++[58]++ar i):=by
 have one:∀ i,i<m->∀ cur rest,yk 44 0 cur ((ks i++[58]++ar i)++rest)=yk 44 0 (cur++(ks i++[58]++ar i)) rest:=fun i hi cur rest=>by
  rw [List.append_assoc,List.append_assoc,Nsp.pln (hk i hi) 44 (.inl rfl) 0 (Int.le_refl _)]
  simp only [List.singleton_append,yk]
  rw [if_neg (by decide),if_neg (by decide),if_neg (by decide),ha i hi 44 (.inl rfl) 0 (Int.le_refl _)]
  simp
 intro l
 induction l with
 | nil=>intro h;exact absurd rfl h
 | cons x r ih =>
  intro _ h
  cases r with
  | nil =>
   have:=one x (h x (by simp)) [] []
   simp only [List.map_cons,List.map_nil,joi]
   rw [List.append_nil] at this
   rw [this]
   simp [yk]
  | cons y r =>
   have a:=one x (h x (by simp)) [] ([44]++joi 44 ((y::r).map (fun i=>ks i++[58]++ar i)))
   simp only [List.map_cons,joi] at a ⊢
   rw [List.append_assoc,a]
   simp only [List.singleton_append,yk,List.nil_append]
   rw [if_neg (by decide),if_neg (by decide),if_pos ⟨trivial,trivial⟩]
   have:=ih (by simp) (fun z hz=>h z (by simp [hz]))
   simp only [List.map_cons] at this
   rw [this]
theorem SZL.sz {nm:ByteArray} {K:List Int} {t:List Int} {n:Int} (h:SZL nm K t n):SZ nm K (strOfNums t) n:=by
 induction h with
 | @servers l h0 hx =>
  have f:=(SZL.servers (nm:=nm) (K:=K) h0 hx).byt
  have q:=YC [123] (joi 44 l) [125]
  have p:=YY (c:=44) (.inl rfl) h0 (fun x h=>Nsp.pln (hx x h)) (Byt.joi (by decide) _ (fun x h=>(hx x h).byt))
  have g:=SZ.servers (nm:=nm) (K:=K) (t:=strOfNums ([123]++joi 44 l++[125])) (by rw [yx f];simp) (by rw [strOfNums_size];simp)
  rw [show (1:Nat)=[(123:Int)].length from rfl] at g
  rw [show [(123:Int)].length=1 from rfl] at g
  have e:(strOfNums ([123]++joi 44 l++[125])).extract 1 ((strOfNums ([123]++joi 44 l++[125])).size-1)=strOfNums (joi 44 l):=q
  rw [e,p,List.length_map] at g
  exact g
 | @alias x hx =>
  have f:=(SZL.alias (nm:=nm) (K:=K) hx).byt
  exact SZ.alias (by rw [yx f];simp)
 | @name c hc =>
  have f:=(SZL.name (nm:=nm) (K:=K) hc).byt
  have g:=SZ.name (nm:=nm) (K:=K) (t:=strOfNums [61,c]) (by rw [yx f];simp) (by rw [strOfNums_size];simp)
  rw [yx f] at g
  simpa using g
 | @ttl x o n hx ho ih =>
  have f:=(SZL.ttl hx ho).byt
  have w:[116]++([40]++joi 44 [x,o]++[41])=[116,40]++joi 44 [x,o]++[(41:Int)]:=by simp
  rw [w] at f ⊢
  have q:(strOfNums ([116,40]++joi 44 [x,o]++[41])).extract 2 ((strOfNums ([116,40]++joi 44 [x,o]++[41])).size-1)=strOfNums (joi 44 [x,o]):=YC [116,40] (joi 44 [x,o]) [41]
  have p:=YY (c:=44) (.inl rfl) (l:=[x,o]) (by simp) (fun z hz=>by
   simp at hz;rcases hz with rfl | rfl
   ·exact Nsp.pln hx
   ·exact ho.nsp) (Byt.joi (by decide) _ (fun z hz=>by
   simp at hz;rcases hz with rfl | rfl
   ·exact hx.byt
   ·exact ho.byt))
  exact SZ.ttl (b:=strOfNums o) (by rw [yx f];simp) (by rw [strOfNums_size];simp) (by rw [q,p];simp) ih
 | @list c l o n hc h0 hx ho ih =>
  have f:=(SZL.list hc h0 hx ho).byt
  have w:[c]++([40]++joi 124 [joi 44 l,o]++[41])=[c,40]++joi 124 [joi 44 l,o]++[(41:Int)]:=by simp
  rw [w] at f ⊢
  have q:(strOfNums ([c,40]++joi 124 [joi 44 l,o]++[41])).extract 2 ((strOfNums ([c,40]++joi 124 [joi 44 l,o]++[41])).size-1)=strOfNums (joi 124 [joi 44 l,o]):=YC [c,40] (joi 124 [joi 44 l,o]) [41]
  have j:Byt (joi 44 l):=Byt.joi (by decide) _ (fun x h=>(hx x h).byt)
  have k:=YY (c:=44) (.inl rfl) h0 (fun x h=>Nsp.pln (hx x h)) j
  have u:Byt (joi 124 [joi 44 l,o]):=Byt.joi (by decide) _ (fun z hz=>by
   simp at hz;rcases hz with rfl | rfl
   ·exact j
   ·exact ho.byt)
  have p:spl (strOfNums (joi 124 [joi 44 l,o])) 124=[strOfNums (joi 44 l),strOfNums o]:=by
   rw [Zv u]
   have A:ZV (joi 44 l):=qN l (fun x h=>hx x h)
   simp only [joi]
   rw [List.append_assoc,A [] _]
   simp only [List.nil_append,List.singleton_append,yk]
   rw [if_neg (by decide),if_neg (by decide),if_pos ⟨trivial,trivial⟩]
   have:=ho.nsp 124 (.inr (.inl rfl)) 0 (Int.le_refl _) [] []
   rw [List.append_nil] at this
   rw [this]
   simp [yk]
  have g:=SZ.list (nm:=nm) (K:=K) (t:=strOfNums ([c,40]++joi 124 [joi 44 l,o]++[41])) (a:=strOfNums (joi 44 l)) (b:=strOfNums o) (n:=n) (by rw [yx f];simpa using hc) (by rw [strOfNums_size];simp) (by rw [q,p];simp) (by rw [q,p];simp) ih
  rw [k,List.length_map] at g
  exact g
 | @maps c m ks ar o n ns hc hm0 hk ha hz ho iha iho =>
  have f:=(SZL.maps hc hm0 hk ha hz ho).byt
  have w:[c]++([40]++joi 124 [joi 44 ((List.range m).map (fun i=>ks i++[58]++ar i)),o]++[41])=[c,40]++joi 124 [joi 44 ((List.range m).map (fun i=>ks i++[58]++ar i)),o]++[(41:Int)]:=by simp
  rw [w] at f ⊢
  have y:List.range m≠[]:=by intro h;have:=congrArg List.length h;simp at this;omega
  have v:∀ i,i<m->Byt (ks i++[58]++ar i):=fun i d=>((hk i d).byt.app (Byt.one (c:=58) (by decide))).app (ha i d).byt
  have j:Byt (joi 44 ((List.range m).map (fun i=>ks i++[58]++ar i))):=Byt.joi (by decide) _ (fun x h=>by
   simp only [List.mem_map,List.mem_range] at h
   obtain ⟨i,d,rfl⟩:=h
   exact v i d)
  have k:spl (strOfNums (joi 44 ((List.range m).map (fun i=>ks i++[58]++ar i)))) 44=((List.range m).map (fun i=>ks i++[58]++ar i)).map strOfNums:=by
   rw [Zv j,qC hk (fun i d=>(ha i d).nsp) (List.range m) y (fun i d=>List.mem_range.1 d)]
  have A:ZV (joi 44 ((List.range m).map (fun i=>ks i++[58]++ar i))):=YZ _ (fun x h=>by
   simp only [List.mem_map,List.mem_range] at h
   obtain ⟨i,d,rfl⟩:=h
   exact ZF (ZF (Yr (Nsp.pln (hk i d))) (xP (by decide))) (Yr (ha i d).nsp))
  have s:∀ i x,((spl (strOfNums (joi 44 ((List.range m).map (fun i=>ks i++[58]++ar i)))) 44))[i]?=some x->i<m/\x=strOfNums (ks i++[58]++ar i):=fun i x h=>by
   rw [k] at h
   have d:i<m:=by have:=(List.getElem?_eq_some_iff.1 h).1;simpa using this
   simp [d] at h
   exact ⟨d,by rw [<- h];simp⟩
  have r:(spl (strOfNums (joi 44 ((List.range m).map (fun i=>ks i++[58]++ar i)))) 44).length=m:=by rw [k];simp
  generalize hJ:joi 44 ((List.range m).map (fun i=>ks i++[58]++ar i))=J at *
  have q:(strOfNums ([c,40]++joi 124 [J,o]++[41])).extract 2 ((strOfNums ([c,40]++joi 124 [J,o]++[41])).size-1)=strOfNums (joi 124 [J,o]):=YC [c,40] (joi 124 [J,o]) [41]
  have u:Byt (joi 124 [J,o]):=Byt.joi (by decide) _ (fun z hz=>by
   simp at hz;rcases hz with rfl | rfl
   ·exact j
   ·exact ho.byt)
  have p:spl (strOfNums (joi 124 [J,o])) 124=[strOfNums J,strOfNums o]:=by
   rw [Zv u]
   simp only [joi]
   rw [List.append_assoc,A [] _]
   simp only [List.nil_append,List.singleton_append,yk]
   rw [if_neg (by decide),if_neg (by decide),if_pos ⟨trivial,trivial⟩]
   have:=ho.nsp 124 (.inr (.inl rfl)) 0 (Int.le_refl _) [] []
   rw [List.append_nil] at this
   rw [this]
   simp [yk]
  have g:=SZ.maps (nm:=nm) (K:=K) (t:=strOfNums ([c,40]++joi 124 [J,o]++[41])) (a:=strOfNums J) (b:=strOfNums o) (n:=n) (ys:=fun i=>strOfNums (ks i)) (ns:=ns) (by rw [yx f];simpa using hc) (by rw [strOfNums_size];simp) (by rw [q,p];simp) (by rw [q,p];simp) iho
   (fun i x hx=>by
    obtain ⟨d,rfl⟩:=s i x hx
    have B:=YY (c:=58) (.inr (.inr (.inl rfl))) (l:=[ks i,ar i]) (by simp) (fun z hz=>by
     simp at hz;rcases hz with rfl | rfl
     ·exact Nsp.pln (hk i d)
     ·exact (ha i d).nsp) (by simp only [joi];exact v i d)
    simp only [joi] at B
    rw [B]
    refine ⟨by simp,?_⟩
    rw [strOfNums_size,strOfNums_size]
    simp) (fun i d=>hz i (by rw [r] at d;exact d)) (fun i x hx=>by
    obtain ⟨d,rfl⟩:=s i x hx
    have C:=xg (ks i++[58]) (ar i)
    rw [show (strOfNums (ks i)).size+1=(ks i++[58]).length from by rw [strOfNums_size];simp,C]
    exact iha i d)
  rw [r] at g
  exact g
def sgL (s:ByteArray) (a:Nat):Nat->List Int
 | 0=>[]
 | n+1=>sgL s a n++(if T.bl (T.ch s (a+n))=true then [] else [T.ch s (a+n)])
def bt (s:ByteArray) (a b:Nat):List Int:=sgL s a (b-a)
theorem J3 (s:ByteArray):∀ n,brL s n=bt s 0 n:=by
 intro n
 unfold bt
 rw [Nat.sub_zero]
 induction n with
 | zero=>rfl
 | succ n ih=>simp only [brL,sgL,ih,Nat.zero_add]
theorem zd2 (s:ByteArray) (a n:Nat):∀ m,sgL s a (n+m)=sgL s a n++sgL s (a+n) m:=by
 intro m
 induction m with
 | zero=>simp [sgL]
 | succ m ih =>
  rw [show n+(m+1)=(n+m)+1 from by omega]
  simp only [sgL]
  rw [ih,show a+(n+m)=a+n+m from by omega,List.append_assoc]
theorem zy (s:ByteArray) {a b c:Nat} (h1:a<=b) (h2:b<=c):bt s a c=bt s a b++bt s b c:=by
 unfold bt
 rw [show c-a=(b-a)+(c-b) from by omega,zd2,show a+(b-a)=b from by omega]
theorem zau (s:ByteArray) (a:Nat):bt s a a=[]:=by unfold bt;rw [Nat.sub_self];rfl
theorem Qb {s:ByteArray} {a:Nat} {c:Int} (h:T.ch s a=c) (hb:T.bl c=false):bt s a (a+1)=[c]:=by
 unfold bt
 rw [show a+1-a=1 from by omega]
 simp [sgL,h,hb]
theorem zeO (s:ByteArray):∀ n k,s.size-k<=n->bt s k (T.sk s k)=[]:=by
 intro n
 induction n with
 | zero =>
  intro k h
  have:T.bl (T.ch s k)=false:=by rw [T.ch_ge (by omega)];rfl
  rw [T.sk_here this,zau]
 | succ n ih =>
  intro k h
  cases hb:T.bl (T.ch s k) with
  | false=>rw [T.sk_here hb,zau]
  | true =>
   have e:=T.bl_lt hb
   have d:=T.sk_next hb
   have a:=T.sk_ge s (k+1)
   rw [<- d,zy s (b:=k+1) (by omega) a,ih (k+1) (by omega),List.append_nil]
   unfold bt
   rw [show k+1-k=1 from by omega]
   simp [sgL,hb]
theorem zfb (s:ByteArray) (k:Nat):bt s k (T.sk s k)=[]:=zeO s (s.size-k) k (Nat.le_refl _)
theorem yD {s:ByteArray} {k e:Nat} (h:T.sk s k<=e):bt s k e=bt s (T.sk s k) e:=by
 rw [zy s (T.sk_ge s k) h,zfb,List.nil_append]
theorem zdp {s:ByteArray} {a b:Nat} {x:Int} (h:x∈bt s a b):∃ i,a<=i/\i<b/\x=T.ch s i:=by
 unfold bt at h
 have d:∀ n,x∈sgL s a n->∃ i,a<=i/\i<a+n/\x=T.ch s i:=by
  intro n
  induction n with
  | zero=>intro h;simp [sgL] at h
  | succ n ih =>
   intro h
   simp only [sgL,List.mem_append] at h
   rcases h with h | h
   ·obtain ⟨i,f,g,e⟩:=ih h;exact ⟨i,f,by omega,e⟩
   ·split at h
    ·simp at h
    ·simp at h;exact ⟨a+n,by omega,by omega,h⟩
 obtain ⟨i,f,g,e⟩:=d _ h
 exact ⟨i,f,by omega,e⟩
theorem jP (s:ByteArray):∀ n j i,j<=i->i<nmF s false n j->T.dig (T.ch s i)=true:=by
 intro n
 induction n with
 | zero=>intro j i b a;simp only [nmF] at a;omega
 | succ n ih =>
  intro j i b a
  simp only [nmF] at a
  split at a
  ·next hb =>
   by_cases e:i=j
   ·subst e;rw [zdf] at hb;exact hb
   ·exact ih (j+1) i (by omega) a
  ·omega
theorem zK {s:ByteArray} {c:Int} {k:Nat} {b:Bool} (hc:c≠0) (hb:T.bl c=false) (h:zj s c k b=false):b=false/\zc s c k b=T.sk s k+1/\bt s k (zc s c k b)=[c]:=by
 unfold zj at h
 split at h
 ·next ht =>
  subst h
  have a:=YX hc ht
  have e:zc s c k false=T.sk s k+1:=by unfold zc;rw [if_pos ht,zl]
  refine ⟨rfl,e,?_⟩
  rw [e,yD (by omega),Qb a.2.2 hb]
 ·cases h
theorem Yq {s:ByteArray} {k:Nat} {b:Bool} (hk:k<=s.size) (h:zw s k b=false):b=false/\T.sk s k<zo s k b/\Pln (bt s k (zo s k b)):=by
 unfold zw at h
 split at h
 ·cases h
 ·next hne =>
  subst h
  have a:T.sk s k<=zo s k false:=by have:=(Q3 s false (nmL s (zb s k false) false) (zb s k false) (zM hk)).1;rw [zl] at this;unfold zo nmE;rw [zl];exact this
  rw [zl] at hne
  refine ⟨rfl,by omega,fun x hx=>?_⟩
  rw [yD a] at hx
  obtain ⟨i,d,e,rfl⟩:=zdp hx
  have:zo s k false=nmF s false (nmL s (T.sk s k) false) (T.sk s k):=by unfold zo nmE;rw [zl]
  have:=jP s (nmL s (T.sk s k) false) (T.sk s k) i d (by omega)
  exact .inl ((YM _).1 this)
theorem QN {s:ByteArray} {k:Nat} {b:Bool} (hk:k<=s.size) (h:btX s k b=false):b=false/\T.sk s k<btK s k b/\Pln (bt s k (btK s k b)):=by
 unfold btX at h
 split at h
 ·cases h
 ·next hne =>
  subst h
  have a:T.sk s k<=btK s k false:=by have:=(XP s false 32 (zb s k false) (zM hk)).1;rw [zl] at this;unfold btK;rw [zl];exact this
  rw [zl] at hne
  refine ⟨rfl,by omega,fun x hx=>?_⟩
  rw [yD a] at hx
  obtain ⟨i,d,e,rfl⟩:=zdp hx
  have:btK s k false=btF s false 32 (T.sk s k):=by unfold btK;rw [zl]
  have:=Qc s 32 (T.sk s k) i d (by omega)
  simp [bit] at this
  left;omega
theorem Xl {s:ByteArray} {k:Nat} {b:Bool} (h:zX s k b=false):b=false/\zQ s k b=T.sk s k+1/\(97<=T.ch s (T.sk s k)/\T.ch s (T.sk s k)<=122)/\ze s (zb s k b) b=T.ch s (T.sk s k)/\bt s k (zQ s k b)=[T.ch s (T.sk s k)]:=by
 unfold zX at h
 split at h
 ·next hl =>
  subst h
  have a:=(qb hl).2
  rw [zl] at a
  have d:ze s (zb s k false) false=T.ch s (T.sk s k):=by rw [zl,yZ,if_pos a]
  have f:97<=T.ch s (T.sk s k)/\T.ch s (T.sk s k)<=122:=by unfold YH at hl;rw [d] at hl;simpa using hl
  have e:zQ s k false=T.sk s k+1:=by unfold zQ;rw [if_pos hl,zl]
  refine ⟨rfl,e,f,d,?_⟩
  rw [e,yD (by omega),Qb rfl (by unfold T.bl;simp;omega)]
 ·cases h
theorem zb5 (E:List EX) (j:Nat):szK E (j+1)=szK E j++[szR E (j+1)]:=rfl
theorem zdW (E:List EX) {j:Nat}:∀ i,j<i->(szK E i)[j]?=some (szR E (j+1)):=by
 intro i
 induction i with
 | zero=>intro h;omega
 | succ i ih =>
  intro h
  rw [zb5]
  by_cases e:j=i
  ·subst e
   rw [List.getElem?_append_right (by rw [Ye];omega),Ye,Nat.sub_self];rfl
  ·rw [List.getElem?_append_left (by rw [Ye];omega)];exact ih (by omega)
theorem qm (E:List EX) {i j:Nat} (h:j<i):atF (szK E i) (j:Int)=szR E (j+1):=by
 unfold atF
 rw [if_neg (by omega),Int.toNat_natCast,zdW E i h];rfl
theorem qn (K:List Int):atF K (-1)=0:=by unfold atF;rw [if_pos (by decide)]
def Pos (E:List EX) (m:Nat) (es:List EX):Prop:=∀ i e,es[i]?=some e->E[m+i]?=some e
theorem Pos.left {E:List EX} {m:Nat} {a b:List EX} (h:Pos E m (a++b)):Pos E m a:=fun i e he=>h i e (by rw [List.getElem?_append_left (List.getElem?_eq_some_iff.1 he).1];exact he)
theorem Pos.right {E:List EX} {m:Nat} {a b:List EX} (h:Pos E m (a++b)):Pos E (m+a.length) b:=fun i e he=>by
 have:=h (a.length+i) e (by rw [List.getElem?_append_right (by omega),Nat.add_sub_cancel_left];exact he)
 rw [<- Nat.add_assoc] at this
 exact this
theorem Pos.last {E:List EX} {m:Nat} {a:List EX} {e:EX} (h:Pos E m (a++[e])):E[m+a.length]?=some e:=by
 have:=h.right 0 e rfl
 simpa using this
theorem qx {E:List EX} {j:Nat} {e:EX} (h:E[j]?=some e):szR E (j+1)=szE e (szK E j):=by simp only [szR,h]
section
structure RK (rs:List RL) (nm:ByteArray) (Kn:List Int) (E:List EX) (lim:Nat):Prop where
 len:Kn.length=rs.length
 at_:∀ i r,rs[i]?=some r->T.ch nm i=r.nv/\∃ j:Nat,r.ex=(j:Int)/\j<lim/\Kn[i]?=some (szR E (j+1))
theorem zfX {rs:List RL} {nm:ByteArray} {Kn:List Int} {E:List EX} {lim:Nat} (h:RK rs nm Kn E lim) (v:Int) {i:Nat} (hi:lim<=i):knL nm v Kn 0=atF (szK E i) (yn v rs):=by
 have b:∀ (rs:List RL) (Kn:List Int) (o:Nat),Kn.length=rs.length->(∀ i r,rs[i]?=some r->T.ch nm (o+i)=r.nv/\∃ j:Nat,r.ex=(j:Int)/\j<lim/\Kn[i]?=some (szR E (j+1)))->knL nm v Kn o=atF (szK E i) (yn v rs):=by
  intro rs
  induction rs with
  | nil =>
   intro Kn o a _
   have:Kn=[]:=List.eq_nil_of_length_eq_zero a
   subst this
   simp [knL,yn,qn]
  | cons r l ih =>
   intro Kn o a e
   cases Kn with
   | nil=>simp at a
   | cons q Kr =>
    have d:=e 0 r rfl
    obtain ⟨j,g,k,f⟩:=d.2
    simp at f
    simp only [knL,yn]
    rw [Nat.add_zero] at d
    rw [d.1]
    split
    ·rw [g,qm E (by omega),f]
    ·exact ih Kr (o+1) (by simpa using a) (fun i r' hr=>by
      have:=e (i+1) r' hr
      rw [show o+(i+1)=o+1+i from by omega] at this
      simpa using this)
 exact b rs Kn 0 h.len (fun i r hr=>by have:=h.at_ i r hr;rw [Nat.zero_add];exact this)
theorem Ym {s:ByteArray} {c:Int} {k:Nat} (hc:c≠0) (hb:T.bl c=false) (h:zZ s c k false=true):zc s c k false=T.sk s k+1/\bt s k (zc s c k false)=[c]:=by
 have a:=YX hc h
 have e:zc s c k false=T.sk s k+1:=by unfold zc;rw [if_pos h,zl]
 exact ⟨e,by rw [e,yD (by omega),Qb a.2.2 hb]⟩
theorem xf {s:ByteArray} {c:Int} {k:Nat} (h:zZ s c k false=false):bt s k (zc s c k false)=[]:=by
 have e:zc s c k false=T.sk s k:=by unfold zc;rw [if_neg (by rw [h];decide),zl]
 rw [e,zfb]
theorem Pln.app {a b:List Int} (h:Pln a) (k:Pln b):Pln (a++b):=fun c hc=>(List.mem_append.1 hc).elim (h c) (k c)
theorem Ys (c:Int) (x:List Int) {l:List (List Int)} (h:l≠[]):joi c (x::l)=x++[c]++joi c l:=by
 cases l with
 | nil=>exact absurd rfl h
 | cons y r=>rfl
theorem JP {s:ByteArray} {ex:Int->Nat->Nat->Bool->CR} {c:Int} (hc:c=123\/c=102\/c=119) (d:Int) (m k:Nat) (hk:k<=s.size) (h:(zv ex s c d m k false).b=false) :
 (zv ex s c d m k false).es=[]/\(zv ex s c d m k false).im.arm=-1/\Pln (bt s k (zv ex s c d m k false).k):=by
 have g:=T.sk_le hk
 have q:=T.sk_ge s k
 have f:zw s (T.sk s k) false=false->Pln (bt s k (zo s (T.sk s k) false)):=fun hh=>by
  have v:=Yq g hh
  have:=YU s k
  rw [yD (by omega)]
  exact v.2.2
 rcases hc with rfl | rfl | rfl
 ·unfold zv at h ⊢
  simp only [zl] at h ⊢
  exact ⟨rfl,rfl,f h⟩
 ·unfold zv at h ⊢
  simp only [zl] at h ⊢
  exact ⟨rfl,rfl,f h⟩
 ·have e:zv ex s 119 d m k false=⟨⟨T.sk s k,zJ s (T.sk s k) false,0,0,zJ s (zc s 42 (zo s (T.sk s k) false) (zw s (T.sk s k) false)) (zj s 42 (zo s (T.sk s k) false) (zw s (T.sk s k) false)),zb s (zc s 42 (zo s (T.sk s k) false) (zw s (T.sk s k) false)) (zj s 42 (zo s (T.sk s k) false) (zw s (T.sk s k) false)),-1⟩,[],zo s (zc s 42 (zo s (T.sk s k) false) (zw s (T.sk s k) false)) (zj s 42 (zo s (T.sk s k) false) (zw s (T.sk s k) false)),zw s (zc s 42 (zo s (T.sk s k) false) (zw s (T.sk s k) false)) (zj s 42 (zo s (T.sk s k) false) (zw s (T.sk s k) false))⟩:=by unfold zv;rw [zl];rfl
  rw [e] at h ⊢
  refine ⟨rfl,rfl,?_⟩
  simp only at h ⊢
  have j:=ya (b:=false) g
  have i:zc s 42 (zo s (T.sk s k) false) (zw s (T.sk s k) false)<=s.size:=zs (by decide) j
  have p:=Yq i h
  have o:=zK (by decide) (by decide) p.1
  have u:=f o.1
  have r:=z5 (b:=false) g
  have n:=zi s 42 (zo s (T.sk s k) false) (zw s (T.sk s k) false)
  have l:=z5 (b:=zj s 42 (zo s (T.sk s k) false) (zw s (T.sk s k) false)) i
  rw [zy s (b:=zo s (T.sk s k) false) (by omega) (by omega),zy s (a:=zo s (T.sk s k) false) n l,o.2.2]
  exact u.app (Pln.app (fun x hx=>by simp at hx;exact .inr hx) p.2.2)
theorem XZ {s:ByteArray} {ex:Int->Nat->Nat->Bool->CR} (hM:ZK ex s) {c:Int} (hc:c=123\/c=102\/c=119) (d:Int):∀ (N m k:Nat),k<=s.size->s.size+1<=N+k->(zd ex s c d N m k false).b=false ->
 (zd ex s c d N m k false).es=[]/\(∀ x∈(zd ex s c d N m k false).ims,x.arm=-1)/\∃ L:List (List Int),L.length=(zd ex s c d N m k false).ims.length/\L≠[]/\(∀ x∈L,Pln x)/\bt s k (zd ex s c d N m k false).k=joi 44 L:=by
 intro N
 induction N with
 | zero=>intro m k E D;omega
 | succ N ih =>
  intro m k r C a
  have g:=Zk hM c d m k false r
  have l:=JP (ex:=ex) hc d m k r
  simp only [zd] at a ⊢
  generalize zv ex s c d m k false=it at *
  have h:∀ b,zc s 44 it.k b<=s.size:=fun b=>zs (by decide) g.2.1
  have f:=zi s 44 it.k it.b
  have e:it.b=false:=by
   cases j:it.b with
   | false=>rfl
   | true =>
    rw [j] at a
    have n:=yl (s:=s) (k:=it.k) (b:=true) (c:=44) (.inl rfl) (by decide) (by decide)
    rw [n.1] at a
    simp at a
  obtain ⟨q,p,o⟩:=l e
  rw [e] at a f ⊢
  cases ht:zZ s 44 it.k false with
  | false =>
   rw [ht] at a
   simp only [Bool.false_eq_true,if_false] at a ⊢
   refine ⟨q,fun x hx=>by simp at hx;subst hx;exact p,[bt s k it.k],rfl,by simp,fun x hx=>by simp at hx;subst hx;exact o,?_⟩
   rw [zy s g.1 f,xf ht,List.append_nil]
   rfl
  | true =>
   rw [ht] at a
   simp only [if_true] at a ⊢
   have i:=Ym (s:=s) (k:=it.k) (c:=44) (by decide) (by decide) ht
   have B:=T.sk_ge s it.k
   obtain ⟨A,z,L,y,w,v,u⟩:=ih (m+it.es.length) (zc s 44 it.k false) (h _) (by omega) a
   have j:=zN hM c d N (m+it.es.length) (zc s 44 it.k false) false (h _)
   refine ⟨by rw [A,q];rfl,fun x hx=>?_,bt s k it.k::L,by simp [y],by simp,fun x hx=>?_,?_⟩
   ·rcases List.mem_cons.1 hx with rfl | hx
    ·exact p
    ·exact z x hx
   ·rcases List.mem_cons.1 hx with rfl | hx
    ·exact o
    ·exact v x hx
   ·rw [Ys 44 _ w,<- u,zy s g.1 (c:=(zd ex s c d N (m+it.es.length) (zc s 44 it.k false) false).k) (by omega),zy s f j.1,i.2,List.append_assoc]
section
variable {s:ByteArray} {nm:ByteArray} {Kn:List Int} {E:List EX} {lim:Nat}
def EG (s nm:ByteArray) (Kn:List Int) (E:List EX) (lim:Nat) (ex:Int->Nat->Nat->Bool->CR) (n:Nat):Prop:=∀ d m k b,k<=s.size->s.size-k<n->(ex d m k b).b=false->lim<=m->Pos E m (ex d m k b).es ->
 1<=(ex d m k b).es.length/\(ex d m k b).idx=((m+(ex d m k b).es.length-1:Nat):Int)/\SZL nm Kn (bt s k (ex d m k b).k) (szR E (m+(ex d m k b).es.length))
structure AR where
 key:List Int
 txt:List Int
 num:Nat
def AR.t (a:AR):List Int:=a.key++[58]++a.txt
theorem JQ {ex:Int->Nat->Nat->Bool->CR} {n:Nat} (hM:ZK ex s) (hB:X3 ex) (hX:EG s nm Kn E lim ex n) {c:Int} (hc:c=103\/c=109) (d:Int) (m k:Nat) (hk:k<=s.size) (hn:s.size-k<n) (h:(zv ex s c d m k false).b=false) (hm:lim<=m) (hP:Pos E m (zv ex s c d m k false).es) :
 ∃ a:AR,Pln a.key/\SZL nm Kn a.txt (szR E (a.num+1))/\a.num<m+(zv ex s c d m k false).es.length/\(zv ex s c d m k false).im.arm=(a.num:Int)/\bt s k (zv ex s c d m k false).k=a.t:=by
 have f:=T.sk_le hk
 have z:=T.sk_ge s k
 have l:∀ (i e:Nat) (o g:Bool),T.sk s k<=i->i<=s.size->zc s 58 i o=e->zj s 58 i o=g->(o=false->Pln (bt s k i))->(ex (d+1) m e g).b=false->Pos E m (ex (d+1) m e g).es->(g=true->(ex (d+1) m e g).b=true) ->
  ∃ a:AR,Pln a.key/\SZL nm Kn a.txt (szR E (a.num+1))/\a.num<m+(ex (d+1) m e g).es.length/\(ex (d+1) m e g).idx=(a.num:Int)/\bt s k (ex (d+1) m e g).k=a.t:=by
  intro i e o g p F w D C v B A
  have u:g=false:=by cases hq:g with
   | false=>rfl
   | true=>rw [A hq] at v;cases v
  subst u
  have q:=zK (by decide) (by decide) D
  have j:e<=s.size:=by rw [<- w];exact zs (by decide) F
  have H:=zi s 58 i o
  obtain ⟨G,y,x⟩:=hX (d+1) m e false j (by omega) v hm B
  have r:=hM (d+1) m e false j
  refine ⟨⟨bt s k i,bt s e (ex (d+1) m e false).k,m+(ex (d+1) m e false).es.length-1⟩,C q.1,by simp only;rw [show m+(ex (d+1) m e false).es.length-1+1=m+(ex (d+1) m e false).es.length from by omega];exact x,by simp only;omega,y,?_⟩
  unfold AR.t
  simp only
  rw [zy s (b:=i) (by omega) (by omega),zy s (a:=i) (b:=e) (by omega) r.1]
  rw [w] at q
  rw [q.2.2,List.append_assoc]
 rcases hc with rfl | rfl
 ·unfold zv at h hP ⊢
  simp only [zl] at h hP ⊢
  exact l (zo s (T.sk s k) false) _ (zw s (T.sk s k) false) _ (z5 f) (ya f) rfl rfl (fun hh=>by
   have p:=Yq f hh
   rw [yD (z5 f)]
   exact p.2.2) h hP (fun hh=>by rw [hh];exact hB _ _ _)
 ·unfold zv at h hP ⊢
  simp only [zl] at h hP ⊢
  exact l (btK s (T.sk s k) false) _ (btX s (T.sk s k) false) _ (xT f) (xS f) rfl rfl (fun hh=>by
   have p:=QN f hh
   rw [yD (xT f)]
   exact p.2.2) h hP (fun hh=>by rw [hh];exact hB _ _ _)
theorem jW {ex:Int->Nat->Nat->Bool->CR} {n:Nat} (hM:ZK ex s) (hB:X3 ex) (hX:EG s nm Kn E lim ex n) {c:Int} (hc:c=103\/c=109) (d:Int):∀ (N m k:Nat),k<=s.size->s.size+1<=N+k->s.size-k<n->(zd ex s c d N m k false).b=false->lim<=m->Pos E m (zd ex s c d N m k false).es ->
 ∃ L:List AR,L.length=(zd ex s c d N m k false).ims.length/\L≠[]/\(∀ a∈L,Pln a.key/\SZL nm Kn a.txt (szR E (a.num+1))/\a.num<m+(zd ex s c d N m k false).es.length)/\(zd ex s c d N m k false).ims.map IM.arm=L.map (fun a=>(a.num:Int))/\bt s k (zd ex s c d N m k false).k=joi 44 (L.map AR.t):=by
 intro N
 induction N with
 | zero=>intro m k P O;omega
 | succ N ih =>
  intro m k A K J f z g
  have i:=Zk hM c d m k false A
  have l:=JQ hM hB hX hc d m k A J
  simp only [zd] at f g ⊢
  generalize zv ex s c d m k false=it at *
  have j:∀ b,zc s 44 it.k b<=s.size:=fun b=>zs (by decide) i.2.1
  have h:=zi s 44 it.k it.b
  have e:it.b=false:=by
   cases p:it.b with
   | false=>rfl
   | true =>
    rw [p] at f
    have r:=yl (s:=s) (k:=it.k) (b:=true) (c:=44) (.inl rfl) (by decide) (by decide)
    rw [r.1] at f
    simp at f
  rw [e] at f h g ⊢
  cases ht:zZ s 44 it.k false with
  | false =>
   rw [ht] at f g
   simp only [Bool.false_eq_true,if_false] at f g ⊢
   obtain ⟨a,y,w,B,v,u⟩:=l e z g
   refine ⟨[a],rfl,by simp,fun x hx=>by simp at hx;subst hx;exact ⟨y,w,B⟩,by simp [v],?_⟩
   rw [zy s i.1 h,xf ht,List.append_nil,u]
   rfl
  | true =>
   rw [ht] at f g
   simp only [if_true] at f g ⊢
   obtain ⟨a,y,w,B,v,u⟩:=l e z g.left
   have o:=Ym (s:=s) (k:=it.k) (c:=44) (by decide) (by decide) ht
   have I:=T.sk_ge s it.k
   obtain ⟨L,H,G,F,D,C⟩:=ih (m+it.es.length) (zc s 44 it.k false) (j _) (by omega) (by omega) f (by omega) g.right
   have p:=zN hM c d N (m+it.es.length) (zc s 44 it.k false) false (j _)
   generalize zd ex s c d N (m+it.es.length) (zc s 44 it.k false) false=q at *
   refine ⟨a::L,by simp [H],by simp,fun x hx=>?_,by simp [v,D],?_⟩
   ·rcases List.mem_cons.1 hx with rfl | hx
    ·exact ⟨y,w,by simp only [List.length_append];omega⟩
    ·have:=F x hx
     exact ⟨this.1,this.2.1,by simp only [List.length_append];omega⟩
   ·rw [List.map_cons,Ys 44 _ (by simpa using G),<- C,zy s i.1 (c:=q.k) (by omega),zy s h p.1,o.2,u,List.append_assoc]
end
end
end Go.Proofs.YtaebngpoagjafabGreat
