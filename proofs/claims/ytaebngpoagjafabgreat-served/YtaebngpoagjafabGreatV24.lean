import Derived.Test.YtaebngpoagjafabGreatV19
import Derived.Test.YtaebngpoagjafabGreatV22
set_option maxRecDepth 100000
namespace Go.Proofs.YtaebngpoagjafabGreat
open Go.RowKit
def Byt (xs:List Int):Prop:=∀ x∈xs,0<=x/\x<256
theorem Byt.app {a b:List Int} (h:Byt a) (k:Byt b):Byt (a++b):=fun x hx=>(List.mem_append.1 hx).elim (h x) (k x)
theorem YE (xs:List Int):(strOfNums xs).data.toList=xs.map (fun n=>UInt8.ofNat n.toNat):=strOfNums_data xs
theorem ZG {xs:List Int} (h:Byt xs) (i:Nat):T.ch (strOfNums xs) i=(xs[i]?).getD (-1):=by
 by_cases hi:i<xs.length
 ·have hs:i<(strOfNums xs).size:=by rw [strOfNums_size];exact hi
  rw [T.ch_lt hs,List.getElem?_eq_getElem hi]
  have e1:(strOfNums xs)[i]=UInt8.ofNat (xs[i]).toNat:=by
   have:(strOfNums xs).data.toList[i]?=some ((strOfNums xs)[i]):=List.getElem?_eq_getElem (l:=(strOfNums xs).data.toList) (by simpa using hs)
   rw [YE,List.getElem?_map,List.getElem?_eq_getElem hi] at this
   exact (Option.some.inj this).symm
  rw [e1]
  have:=h xs[i] (List.getElem_mem _)
  simp
  omega
 ·have hs:¬ i<(strOfNums xs).size:=by rw [strOfNums_size];exact hi
  rw [T.ch_ge hs,List.getElem?_eq_none (by omega)];rfl
theorem Xm (xs:List Int) (a b:Nat):(strOfNums xs).extract a b=strOfNums ((xs.drop a).take (b-a)):=by
 have key:((strOfNums xs).extract a b).data.toList=(strOfNums ((xs.drop a).take (b-a))).data.toList:=by
  rw [YE,ByteArray.data_extract,Array.toList_extract,YE]
  simp [List.extract_eq_take_drop,List.map_take,List.map_drop]
 have:∀ {x y:ByteArray},x.data.toList=y.data.toList->x=y:=fun {x y} h=>by
  obtain ⟨⟨l⟩⟩:=x
  obtain ⟨⟨m⟩⟩:=y
  simp at h
  rw [h]
 exact this key
def yw (c:Int):Int->List Int->List Int->List (List Int)
 | _,cur,[]=>[cur]
 | d,cur,x::r =>
  if x=40\/x=123 then yw c (d+1) (cur++[x]) r
  else if x=41\/x=125 then yw c (d-1) (cur++[x]) r
  else if x=c/\d=0 then cur::yw c d [] r
  else yw c d (cur++[x]) r
theorem Z1 {xs:List Int} (h:Byt xs) (c:Int):spl (strOfNums xs) c=(yw c 0 [] xs).map strOfNums:=by
 have key:∀ i,i<=xs.length->(yw c 0 [] xs).map strOfNums=(spS (strOfNums xs) c i).l++(yw c (spS (strOfNums xs) c i).deep ((xs.drop (spS (strOfNums xs) c i).from_).take (i-(spS (strOfNums xs) c i).from_)) (xs.drop i)).map strOfNums:=by
  intro i
  induction i with
  | zero=>intro _;simp [spS]
  | succ i ih =>
   intro hi
   have hf:=(qN (strOfNums xs) c i).1
   rw [ih (by omega)]
   have hx:xs[i]?=some xs[i]:=List.getElem?_eq_getElem (by omega)
   have hd:xs.drop i=xs[i]::xs.drop (i+1):=List.drop_eq_getElem_cons (by omega)
   have hch:T.ch (strOfNums xs) i=xs[i]:=by rw [ZG h,hx];rfl
   have hcur:∀ f,f<=i->(xs.drop f).take (i-f)++[xs[i]]=(xs.drop f).take (i+1-f):=fun f hf=>by
    rw [show i+1-f=(i-f)+1 from by omega,List.take_add_one,List.getElem?_drop,show f+(i-f)=i from by omega,hx]
    rfl
   rw [hd]
   simp only [spS,yw,hch]
   generalize spS (strOfNums xs) c i=q at *
   split
   ·rw [hcur _ hf]
   ·split
    ·rw [hcur _ hf]
    ·split
     ·next hc =>
      rw [Xm]
      simp
     ·rw [hcur _ hf]
 have h1:=key xs.length (Nat.le_refl _)
 unfold spl
 rw [h1,strOfNums_size,Xm]
 simp [yw]
def Pln (x:List Int):Prop:=∀ c∈x,(48<=c/\c<=57)\/c=42
def Nsp (n:Int) (xs:List Int):Prop:=∀ c,(c=44\/c=124\/c=58\/c=59)->∀ d,n<=d->∀ cur rest,yw c d cur (xs++rest)=yw c d (cur++xs) rest
theorem Nsp.nil (n:Int):Nsp n []:=fun c _ d _ cur rest=>by simp
theorem Nsp.app {n:Int} {a b:List Int} (h:Nsp n a) (k:Nsp n b):Nsp n (a++b):=fun c hc d hd cur rest=>by
 rw [List.append_assoc,h c hc d hd,k c hc d hd,List.append_assoc]
theorem Nsp.mono {n m:Int} {a:List Int} (h:Nsp n a) (hm:n<=m):Nsp m a:=fun c hc d hd=>h c hc d (Int.le_trans hm hd)
theorem Nsp.one {x:Int} (h:(48<=x/\x<=57)\/x=42\/(97<=x/\x<=122)\/x=64\/x=61):Nsp 0 [x]:=fun c hc d _ cur rest=>by
 simp only [List.singleton_append,yw]
 rw [if_neg (by omega),if_neg (by omega),if_neg (by omega)]
theorem Nsp.deep {x:Int} (h1:x≠40/\x≠123/\x≠41/\x≠125):Nsp 1 [x]:=fun c hc d hd cur rest=>by
 simp only [List.singleton_append,yw]
 rw [if_neg (by omega),if_neg (by omega),if_neg (by omega)]
theorem Nsp.pln {x:List Int} (h:Pln x):Nsp 0 x:=by
 induction x with
 | nil=>exact Nsp.nil 0
 | cons a r ih =>
  have h1:Nsp 0 [a]:=Nsp.one (by have:=h a (by simp);omega)
  exact h1.app (ih (fun c hc=>h c (by simp [hc])))
theorem Nsp.brac {y:List Int} {o cl:Int} (ho:o=40\/o=123) (hcl:cl=41\/cl=125) (h:Nsp 1 y):Nsp 0 ([o]++y++[cl]):=fun c hc d hd cur rest=>by
 have e:[o]++y++[cl]++rest=o::(y++(cl::rest)):=by simp
 rw [e,yw,if_pos ho,h c hc (d+1) (by omega),yw,if_neg (by omega),if_pos hcl,show d+1-1=d from by omega]
 simp
def joi (c:Int):List (List Int)->List Int
 | []=>[]
 | [x]=>x
 | x::y::r=>x++[c]++joi c (y::r)
theorem zci {c:Int} (hc:c=44\/c=124\/c=58\/c=59):∀ (l:List (List Int)),l≠[]->(∀ x∈l,Nsp 0 x)->yw c 0 [] (joi c l)=l:=by
 intro l
 induction l with
 | nil=>intro h;exact absurd rfl h
 | cons x r ih =>
  intro _ h
  cases r with
  | nil =>
   have:=h x (by simp) c hc 0 (Int.le_refl _) [] []
   simp only [joi]
   rw [List.append_nil] at this
   rw [this]
   simp [yw]
  | cons y r =>
   have h1:=h x (by simp) c hc 0 (Int.le_refl _) [] ([c]++joi c (y::r))
   simp only [joi,List.append_assoc]
   rw [h1]
   simp only [List.singleton_append,yw]
   rw [if_neg (by omega),if_neg (by omega),if_pos ⟨trivial,trivial⟩,ih (by simp) (fun z hz=>h z (by simp [hz]))]
   simp
theorem Nsp.joi {c:Int} (hc:c≠40/\c≠123/\c≠41/\c≠125):∀ (l:List (List Int)),(∀ x∈l,Nsp 1 x)->Nsp 1 (joi c l):=by
 intro l
 induction l with
 | nil=>intro _;exact Nsp.nil 1
 | cons x r ih =>
  intro h
  cases r with
  | nil=>exact h x (by simp)
  | cons y r =>
   simp only [Go.Proofs.YtaebngpoagjafabGreat.joi]
   exact ((h x (by simp)).app (Nsp.deep hc)).app (ih (fun z hz=>h z (by simp [hz])))
inductive SZL (nm:ByteArray) (K:List Int):List Int->Int->Prop where
 | servers {l:List (List Int)}:l≠[]->(∀ x∈l,Pln x)->SZL nm K ([123]++joi 44 l++[125]) (1+(l.length:Int))
 | alias {x:List Int}:Pln x->SZL nm K (64::x) 1
 | name {c:Int}:(97<=c/\c<=122)->SZL nm K [61,c] (knL nm c K 0)
 | ttl {x o:List Int} {n:Int}:Pln x->SZL nm K o n->SZL nm K ([116]++([40]++joi 44 [x,o]++[41])) (Ze (1+n))
 | list {c:Int} {l:List (List Int)} {o:List Int} {n:Int}:(c=119\/c=102)->l≠[]->(∀ x∈l,Pln x)->SZL nm K o n->SZL nm K ([c]++([40]++joi 124 [joi 44 l,o]++[41])) (Ze (1+(l.length:Int)+n))
 | maps {c:Int} {m:Nat} {ks ar:Nat->List Int} {o:List Int} {n:Int} {ns:Nat->Int}:(c=109\/c=103)->0<m->(∀ i,i<m->Pln (ks i))->(∀ i,i<m->SZL nm K (ar i) (ns i))->(∀ i,m<=i->ns i=0)->SZL nm K o n->SZL nm K ([c]++([40]++joi 124 [joi 44 ((List.range m).map (fun i=>ks i++[58]++ar i)),o]++[41])) (Ze (1+(m:Int)+n+ZU ns m))
theorem SZL.nsp {nm:ByteArray} {K:List Int} {t:List Int} {n:Int} (h:SZL nm K t n):Nsp 0 t:=by
 induction h with
 | servers _ h=>exact Nsp.brac (.inr rfl) (.inr rfl) (Nsp.joi (by decide) _ (fun x hx=>(Nsp.pln (h x hx)).mono (by decide)))
 | alias h=>exact Nsp.app (a:=[64]) (Nsp.one (by decide)) (Nsp.pln h)
 | name h=>exact Nsp.app (a:=[61]) (b:=[_]) (Nsp.one (by decide)) (Nsp.one (by omega))
 | ttl hx _ ih=>exact (Nsp.one (by decide)).app (Nsp.brac (.inl rfl) (.inl rfl) (Nsp.joi (by decide) _ (fun z hz=>by
  simp at hz;rcases hz with rfl | rfl
  ·exact (Nsp.pln hx).mono (by decide)
  ·exact ih.mono (by decide))))
 | list hc _ hx _ ih=>exact (Nsp.one (by omega)).app (Nsp.brac (.inl rfl) (.inl rfl) (by
  simp only [joi]
  exact ((Nsp.joi (by decide) _ (fun x h=>(Nsp.pln (hx x h)).mono (by decide))).app (Nsp.deep (by decide))).app (ih.mono (by decide))))
 | maps hc _ hk _ _ _ iha iho=>exact (Nsp.one (by omega)).app (Nsp.brac (.inl rfl) (.inl rfl) (by
  simp only [joi]
  refine ((Nsp.joi (by decide) _ (fun x hx=>?_)).app (Nsp.deep (by decide))).app (iho.mono (by decide))
  simp only [List.mem_map,List.mem_range] at hx
  obtain ⟨i,hi,rfl⟩:=hx
  exact (((Nsp.pln (hk i hi)).mono (by decide)).app (Nsp.deep (by decide))).app ((iha i hi).mono (by decide))))
theorem Pln.byt {x:List Int} (h:Pln x):Byt x:=fun c hc=>by have:=h c hc;omega
theorem Byt.joi {c:Int} (hc:0<=c/\c<256):∀ (l:List (List Int)),(∀ x∈l,Byt x)->Byt (joi c l):=by
 intro l
 induction l with
 | nil=>intro _ x hx;simp [Go.Proofs.YtaebngpoagjafabGreat.joi] at hx
 | cons x r ih =>
  intro h
  cases r with
  | nil=>exact h x (by simp)
  | cons y r =>
   simp only [Go.Proofs.YtaebngpoagjafabGreat.joi]
   exact ((h x (by simp)).app (fun z hz=>by simp at hz;subst hz;exact hc)).app (ih (fun z hz=>h z (by simp [hz])))
theorem Byt.one {c:Int} (hc:0<=c/\c<256):Byt [c]:=fun z hz=>by simp at hz;subst hz;exact hc
theorem SZL.byt {nm:ByteArray} {K:List Int} {t:List Int} {n:Int} (h:SZL nm K t n):Byt t:=by
 induction h with
 | servers _ h=>exact ((Byt.one (by decide)).app (Byt.joi (by decide) _ (fun x hx=>(h x hx).byt))).app (Byt.one (by decide))
 | alias h=>exact Byt.app (a:=[64]) (Byt.one (by decide)) h.byt
 | name h=>exact Byt.app (a:=[61]) (b:=[_]) (Byt.one (by decide)) (Byt.one (by omega))
 | ttl hx _ ih=>exact (Byt.one (by decide)).app (((Byt.one (by decide)).app (Byt.joi (by decide) _ (fun z hz=>by
  simp at hz;rcases hz with rfl | rfl
  ·exact hx.byt
  ·exact ih))).app (Byt.one (by decide)))
 | list hc _ hx _ ih=>exact (Byt.one (by omega)).app (((Byt.one (by decide)).app (Byt.joi (by decide) _ (fun z hz=>by
  simp at hz;rcases hz with rfl | rfl
  ·exact Byt.joi (by decide) _ (fun x h=>(hx x h).byt)
  ·exact ih))).app (Byt.one (by decide)))
 | maps hc _ hk _ _ _ iha iho=>exact (Byt.one (by omega)).app (((Byt.one (by decide)).app (Byt.joi (by decide) _ (fun z hz=>by
  simp at hz;rcases hz with rfl | rfl
  ·refine Byt.joi (by decide) _ (fun x h=>?_)
   simp only [List.mem_map,List.mem_range] at h
   obtain ⟨i,hi,rfl⟩:=h
   simpa using ((hk i hi).byt.app (Byt.one (c:=58) (by decide))).app (iha i hi)
  ·exact iho))).app (Byt.one (by decide)))
theorem xl (a y b:List Int):(strOfNums (a++y++b)).extract a.length ((strOfNums (a++y++b)).size-b.length)=strOfNums y:=by
 rw [Xm,strOfNums_size]
 congr 1
 rw [List.append_assoc,List.drop_left,show (a++(y++b)).length-b.length-a.length=y.length from by simp only [List.length_append];omega,List.take_left]
theorem j2 (a y:List Int):(strOfNums (a++y)).extract a.length (strOfNums (a++y)).size=strOfNums y:=by
 have:=xl a y []
 simpa using this
theorem qM {c:Int} (hc:c=44\/c=124\/c=58\/c=59) {l:List (List Int)} (h0:l≠[]) (hn:∀ x∈l,Nsp 0 x) (hb:Byt (joi c l)):spl (strOfNums (joi c l)) c=l.map strOfNums:=by
 rw [Z1 hb,zci hc l h0 hn]
def ZX (xs:List Int):Prop:=∀ cur rest,yw 124 0 cur (xs++rest)=yw 124 0 (cur++xs) rest
theorem Yf {a b:List Int} (h:ZX a) (k:ZX b):ZX (a++b):=fun cur rest=>by rw [List.append_assoc,h,k,List.append_assoc]
theorem XP {x:Int} (h:x≠40/\x≠123/\x≠41/\x≠125/\x≠124):ZX [x]:=fun cur rest=>by
 simp only [List.singleton_append,yw]
 rw [if_neg (by omega),if_neg (by omega),if_neg (by omega)]
theorem x7 {x:List Int} (h:Nsp 0 x):ZX x:=fun cur rest=>h 124 (.inr (.inl rfl)) 0 (Int.le_refl _) cur rest
theorem Xf:∀ (l:List (List Int)),(∀ x∈l,ZX x)->ZX (joi 44 l):=by
 intro l
 induction l with
 | nil=>intro _ cur rest;simp [joi]
 | cons x r ih =>
  intro h
  cases r with
  | nil=>exact h x (by simp)
  | cons y r =>
   simp only [joi]
   exact Yf (Yf (h x (by simp)) (XP (by decide))) (ih (fun z hz=>h z (by simp [hz])))
theorem js (l:List (List Int)) (h:∀ x∈l,Pln x):ZX (joi 44 l):=Xf l (fun x hx=>x7 (Nsp.pln (h x hx)))
theorem jf {m:Nat} {ks ar:Nat->List Int} (hk:∀ i,i<m->Pln (ks i)) (ha:∀ i,i<m->Nsp 0 (ar i)):∀ (l:List Nat),l≠[]->(∀ i∈l,i<m)->yw 44 0 [] (joi 44 (l.map (fun i=>ks i++[58]++ar i)))=l.map (fun i=>ks i++[58]++ar i):=by
 have one:∀ i,i<m->∀ cur rest,yw 44 0 cur ((ks i++[58]++ar i)++rest)=yw 44 0 (cur++(ks i++[58]++ar i)) rest:=fun i hi cur rest=>by
  rw [List.append_assoc,List.append_assoc,Nsp.pln (hk i hi) 44 (.inl rfl) 0 (Int.le_refl _)]
  simp only [List.singleton_append,yw]
  rw [if_neg (by decide),if_neg (by decide),if_neg (by decide),ha i hi 44 (.inl rfl) 0 (Int.le_refl _)]
  simp
 intro l
 induction l with
 | nil=>intro h;exact absurd rfl h
 | cons x r ih =>
  intro _ h
  cases r with
  | nil =>
   have:=one x (h x (by simp)) [] []
   simp only [List.map_cons,List.map_nil,joi]
   rw [List.append_nil] at this
   rw [this]
   simp [yw]
  | cons y r =>
   have h1:=one x (h x (by simp)) [] ([44]++joi 44 ((y::r).map (fun i=>ks i++[58]++ar i)))
   simp only [List.map_cons,joi] at h1 ⊢
   rw [List.append_assoc,h1]
   simp only [List.singleton_append,yw,List.nil_append]
   rw [if_neg (by decide),if_neg (by decide),if_pos ⟨trivial,trivial⟩]
   have:=ih (by simp) (fun z hz=>h z (by simp [hz]))
   simp only [List.map_cons] at this
   rw [this]
theorem SZL.sz {nm:ByteArray} {K:List Int} {t:List Int} {n:Int} (h:SZL nm K t n):SZ nm K (strOfNums t) n:=by
 induction h with
 | @servers l h0 hx =>
  have hb:=(SZL.servers (nm:=nm) (K:=K) h0 hx).byt
  have hm:=xl [123] (joi 44 l) [125]
  have hs:=qM (c:=44) (.inl rfl) h0 (fun x h=>Nsp.pln (hx x h)) (Byt.joi (by decide) _ (fun x h=>(hx x h).byt))
  have h1:=SZ.servers (nm:=nm) (K:=K) (t:=strOfNums ([123]++joi 44 l++[125])) (by rw [ZG hb];simp) (by rw [strOfNums_size];simp)
  rw [show (1:Nat)=[(123:Int)].length from rfl] at h1
  rw [show [(123:Int)].length=1 from rfl] at h1
  have e:(strOfNums ([123]++joi 44 l++[125])).extract 1 ((strOfNums ([123]++joi 44 l++[125])).size-1)=strOfNums (joi 44 l):=hm
  rw [e,hs,List.length_map] at h1
  exact h1
 | @alias x hx =>
  have hb:=(SZL.alias (nm:=nm) (K:=K) hx).byt
  exact SZ.alias (by rw [ZG hb];simp)
 | @name c hc =>
  have hb:=(SZL.name (nm:=nm) (K:=K) hc).byt
  have h1:=SZ.name (nm:=nm) (K:=K) (t:=strOfNums [61,c]) (by rw [ZG hb];simp) (by rw [strOfNums_size];simp)
  rw [ZG hb] at h1
  simpa using h1
 | @ttl x o n hx ho ih =>
  have hb:=(SZL.ttl hx ho).byt
  have e0:[116]++([40]++joi 44 [x,o]++[41])=[116,40]++joi 44 [x,o]++[(41:Int)]:=by simp
  rw [e0] at hb ⊢
  have hm:(strOfNums ([116,40]++joi 44 [x,o]++[41])).extract 2 ((strOfNums ([116,40]++joi 44 [x,o]++[41])).size-1)=strOfNums (joi 44 [x,o]):=xl [116,40] (joi 44 [x,o]) [41]
  have hs:=qM (c:=44) (.inl rfl) (l:=[x,o]) (by simp) (fun z hz=>by
   simp at hz;rcases hz with rfl | rfl
   ·exact Nsp.pln hx
   ·exact ho.nsp) (Byt.joi (by decide) _ (fun z hz=>by
   simp at hz;rcases hz with rfl | rfl
   ·exact hx.byt
   ·exact ho.byt))
  exact SZ.ttl (b:=strOfNums o) (by rw [ZG hb];simp) (by rw [strOfNums_size];simp) (by rw [hm,hs];simp) ih
 | @list c l o n hc h0 hx ho ih =>
  have hb:=(SZL.list hc h0 hx ho).byt
  have e0:[c]++([40]++joi 124 [joi 44 l,o]++[41])=[c,40]++joi 124 [joi 44 l,o]++[(41:Int)]:=by simp
  rw [e0] at hb ⊢
  have hm:(strOfNums ([c,40]++joi 124 [joi 44 l,o]++[41])).extract 2 ((strOfNums ([c,40]++joi 124 [joi 44 l,o]++[41])).size-1)=strOfNums (joi 124 [joi 44 l,o]):=xl [c,40] (joi 124 [joi 44 l,o]) [41]
  have hbl:Byt (joi 44 l):=Byt.joi (by decide) _ (fun x h=>(hx x h).byt)
  have hs2:=qM (c:=44) (.inl rfl) h0 (fun x h=>Nsp.pln (hx x h)) hbl
  have hb2:Byt (joi 124 [joi 44 l,o]):=Byt.joi (by decide) _ (fun z hz=>by
   simp at hz;rcases hz with rfl | rfl
   ·exact hbl
   ·exact ho.byt)
  have hs:spl (strOfNums (joi 124 [joi 44 l,o])) 124=[strOfNums (joi 44 l),strOfNums o]:=by
   rw [Z1 hb2]
   have hn:ZX (joi 44 l):=js l (fun x h=>hx x h)
   simp only [joi]
   rw [List.append_assoc,hn [] _]
   simp only [List.nil_append,List.singleton_append,yw]
   rw [if_neg (by decide),if_neg (by decide),if_pos ⟨trivial,trivial⟩]
   have:=ho.nsp 124 (.inr (.inl rfl)) 0 (Int.le_refl _) [] []
   rw [List.append_nil] at this
   rw [this]
   simp [yw]
  have h1:=SZ.list (nm:=nm) (K:=K) (t:=strOfNums ([c,40]++joi 124 [joi 44 l,o]++[41])) (a:=strOfNums (joi 44 l)) (b:=strOfNums o) (n:=n) (by rw [ZG hb];simpa using hc) (by rw [strOfNums_size];simp) (by rw [hm,hs];simp) (by rw [hm,hs];simp) ih
  rw [hs2,List.length_map] at h1
  exact h1
 | @maps c m ks ar o n ns hc hm0 hk ha hz ho iha iho =>
  have hb:=(SZL.maps hc hm0 hk ha hz ho).byt
  have e0:[c]++([40]++joi 124 [joi 44 ((List.range m).map (fun i=>ks i++[58]++ar i)),o]++[41])=[c,40]++joi 124 [joi 44 ((List.range m).map (fun i=>ks i++[58]++ar i)),o]++[(41:Int)]:=by simp
  rw [e0] at hb ⊢
  have hne:List.range m≠[]:=by intro h;have:=congrArg List.length h;simp at this;omega
  have hbx:∀ i,i<m->Byt (ks i++[58]++ar i):=fun i hi=>((hk i hi).byt.app (Byt.one (c:=58) (by decide))).app (ha i hi).byt
  have hbl:Byt (joi 44 ((List.range m).map (fun i=>ks i++[58]++ar i))):=Byt.joi (by decide) _ (fun x h=>by
   simp only [List.mem_map,List.mem_range] at h
   obtain ⟨i,hi,rfl⟩:=h
   exact hbx i hi)
  have hs2:spl (strOfNums (joi 44 ((List.range m).map (fun i=>ks i++[58]++ar i)))) 44=((List.range m).map (fun i=>ks i++[58]++ar i)).map strOfNums:=by
   rw [Z1 hbl,jf hk (fun i hi=>(ha i hi).nsp) (List.range m) hne (fun i hi=>List.mem_range.1 hi)]
  have hn:ZX (joi 44 ((List.range m).map (fun i=>ks i++[58]++ar i))):=Xf _ (fun x h=>by
   simp only [List.mem_map,List.mem_range] at h
   obtain ⟨i,hi,rfl⟩:=h
   exact Yf (Yf (x7 (Nsp.pln (hk i hi))) (XP (by decide))) (x7 (ha i hi).nsp))
  have hget:∀ i x,((spl (strOfNums (joi 44 ((List.range m).map (fun i=>ks i++[58]++ar i)))) 44))[i]?=some x->i<m/\x=strOfNums (ks i++[58]++ar i):=fun i x h=>by
   rw [hs2] at h
   have hi:i<m:=by have:=(List.getElem?_eq_some_iff.1 h).1;simpa using this
   simp [hi] at h
   exact ⟨hi,by rw [<- h];simp⟩
  have hlen:(spl (strOfNums (joi 44 ((List.range m).map (fun i=>ks i++[58]++ar i)))) 44).length=m:=by rw [hs2];simp
  generalize hJ:joi 44 ((List.range m).map (fun i=>ks i++[58]++ar i))=J at *
  have hm:(strOfNums ([c,40]++joi 124 [J,o]++[41])).extract 2 ((strOfNums ([c,40]++joi 124 [J,o]++[41])).size-1)=strOfNums (joi 124 [J,o]):=xl [c,40] (joi 124 [J,o]) [41]
  have hb2:Byt (joi 124 [J,o]):=Byt.joi (by decide) _ (fun z hz=>by
   simp at hz;rcases hz with rfl | rfl
   ·exact hbl
   ·exact ho.byt)
  have hs:spl (strOfNums (joi 124 [J,o])) 124=[strOfNums J,strOfNums o]:=by
   rw [Z1 hb2]
   simp only [joi]
   rw [List.append_assoc,hn [] _]
   simp only [List.nil_append,List.singleton_append,yw]
   rw [if_neg (by decide),if_neg (by decide),if_pos ⟨trivial,trivial⟩]
   have:=ho.nsp 124 (.inr (.inl rfl)) 0 (Int.le_refl _) [] []
   rw [List.append_nil] at this
   rw [this]
   simp [yw]
  have h1:=SZ.maps (nm:=nm) (K:=K) (t:=strOfNums ([c,40]++joi 124 [J,o]++[41])) (a:=strOfNums J) (b:=strOfNums o) (n:=n) (ys:=fun i=>strOfNums (ks i)) (ns:=ns) (by rw [ZG hb];simpa using hc) (by rw [strOfNums_size];simp) (by rw [hm,hs];simp) (by rw [hm,hs];simp) iho
   (fun i x hx=>by
    obtain ⟨hi,rfl⟩:=hget i x hx
    have hj:=qM (c:=58) (.inr (.inr (.inl rfl))) (l:=[ks i,ar i]) (by simp) (fun z hz=>by
     simp at hz;rcases hz with rfl | rfl
     ·exact Nsp.pln (hk i hi)
     ·exact (ha i hi).nsp) (by simp only [joi];exact hbx i hi)
    simp only [joi] at hj
    rw [hj]
    refine ⟨by simp,?_⟩
    rw [strOfNums_size,strOfNums_size]
    simp) (fun i hi=>hz i (by rw [hlen] at hi;exact hi)) (fun i x hx=>by
    obtain ⟨hi,rfl⟩:=hget i x hx
    have he:=j2 (ks i++[58]) (ar i)
    rw [show (strOfNums (ks i)).size+1=(ks i++[58]).length from by rw [strOfNums_size];simp,he]
    exact iha i hi)
  rw [hlen] at h1
  exact h1
def sgL (s:ByteArray) (a:Nat):Nat->List Int
 | 0=>[]
 | n+1=>sgL s a n++(if T.bl (T.ch s (a+n))=true then [] else [T.ch s (a+n)])
def bt (s:ByteArray) (a b:Nat):List Int:=sgL s a (b-a)
theorem jO (s:ByteArray):∀ n,brL s n=bt s 0 n:=by
 intro n
 unfold bt
 rw [Nat.sub_zero]
 induction n with
 | zero=>rfl
 | succ n ih=>simp only [brL,sgL,ih,Nat.zero_add]
theorem zcj (s:ByteArray) (a n:Nat):∀ m,sgL s a (n+m)=sgL s a n++sgL s (a+n) m:=by
 intro m
 induction m with
 | zero=>simp [sgL]
 | succ m ih =>
  rw [show n+(m+1)=(n+m)+1 from by omega]
  simp only [sgL]
  rw [ih,show a+(n+m)=a+n+m from by omega,List.append_assoc]
theorem zx (s:ByteArray) {a b c:Nat} (h1:a<=b) (h2:b<=c):bt s a c=bt s a b++bt s b c:=by
 unfold bt
 rw [show c-a=(b-a)+(c-b) from by omega,zcj,show a+(b-a)=b from by omega]
theorem Jk (s:ByteArray) (a:Nat):bt s a a=[]:=by unfold bt;rw [Nat.sub_self];rfl
theorem X3 {s:ByteArray} {a:Nat} {c:Int} (h:T.ch s a=c) (hb:T.bl c=false):bt s a (a+1)=[c]:=by
 unfold bt
 rw [show a+1-a=1 from by omega]
 simp [sgL,h,hb]
theorem zcV (s:ByteArray):∀ n k,s.size-k<=n->bt s k (T.sk s k)=[]:=by
 intro n
 induction n with
 | zero =>
  intro k h
  have:T.bl (T.ch s k)=false:=by rw [T.ch_ge (by omega)];rfl
  rw [T.sk_here this,Jk]
 | succ n ih =>
  intro k h
  cases hb:T.bl (T.ch s k) with
  | false=>rw [T.sk_here hb,Jk]
  | true =>
   have hlt:=T.bl_lt hb
   have hn:=T.sk_next hb
   have hge:=T.sk_ge s (k+1)
   rw [<- hn,zx s (b:=k+1) (by omega) hge,ih (k+1) (by omega),List.append_nil]
   unfold bt
   rw [show k+1-k=1 from by omega]
   simp [sgL,hb]
theorem zdd (s:ByteArray) (k:Nat):bt s k (T.sk s k)=[]:=zcV s (s.size-k) k (Nat.le_refl _)
theorem yu {s:ByteArray} {k e:Nat} (h:T.sk s k<=e):bt s k e=bt s (T.sk s k) e:=by
 rw [zx s (T.sk_ge s k) h,zdd,List.nil_append]
theorem zbJ {s:ByteArray} {a b:Nat} {x:Int} (h:x∈bt s a b):∃ i,a<=i/\i<b/\x=T.ch s i:=by
 unfold bt at h
 have key:∀ n,x∈sgL s a n->∃ i,a<=i/\i<a+n/\x=T.ch s i:=by
  intro n
  induction n with
  | zero=>intro h;simp [sgL] at h
  | succ n ih =>
   intro h
   simp only [sgL,List.mem_append] at h
   rcases h with h | h
   ·obtain ⟨i,h1,h2,h3⟩:=ih h;exact ⟨i,h1,by omega,h3⟩
   ·split at h
    ·simp at h
    ·simp at h;exact ⟨a+n,by omega,by omega,h⟩
 obtain ⟨i,h1,h2,h3⟩:=key _ h
 exact ⟨i,h1,by omega,h3⟩
theorem QG (s:ByteArray):∀ n j i,j<=i->i<nmF s false n j->T.dig (T.ch s i)=true:=by
 intro n
 induction n with
 | zero=>intro j i h1 h2;simp only [nmF] at h2;omega
 | succ n ih =>
  intro j i h1 h2
  simp only [nmF] at h2
  split at h2
  ·next hb =>
   by_cases e:i=j
   ·subst e;rw [zbC] at hb;exact hb
   ·exact ih (j+1) i (by omega) h2
  ·omega
theorem zJ {s:ByteArray} {c:Int} {k:Nat} {b:Bool} (hc:c≠0) (hb:T.bl c=false) (h:zj s c k b=false):b=false/\zc s c k b=T.sk s k+1/\bt s k (zc s c k b)=[c]:=by
 unfold zj at h
 split at h
 ·next ht =>
  subst h
  have hl:=Yt hc ht
  have e:zc s c k false=T.sk s k+1:=by unfold zc;rw [if_pos ht,zk]
  refine ⟨rfl,e,?_⟩
  rw [e,yu (by omega),X3 hl.2.2 hb]
 ·cases h
theorem Z3 {s:ByteArray} {k:Nat} {b:Bool} (hk:k<=s.size) (h:zu s k b=false):b=false/\T.sk s k<zm s k b/\Pln (bt s k (zm s k b)):=by
 unfold zu at h
 split at h
 ·cases h
 ·next hne =>
  subst h
  have hge:T.sk s k<=zm s k false:=by have:=(qY s false (nmL s (zb s k false) false) (zb s k false) (zK hk)).1;rw [zk] at this;unfold zm nmE;rw [zk];exact this
  rw [zk] at hne
  refine ⟨rfl,by omega,fun x hx=>?_⟩
  rw [yu hge] at hx
  obtain ⟨i,h1,h2,rfl⟩:=zbJ hx
  have:zm s k false=nmF s false (nmL s (T.sk s k) false) (T.sk s k):=by unfold zm nmE;rw [zk]
  have:=QG s (nmL s (T.sk s k) false) (T.sk s k) i h1 (by omega)
  exact .inl ((Yk _).1 this)
theorem qE {s:ByteArray} {k:Nat} {b:Bool} (hk:k<=s.size) (h:btX s k b=false):b=false/\T.sk s k<btK s k b/\Pln (bt s k (btK s k b)):=by
 unfold btX at h
 split at h
 ·cases h
 ·next hne =>
  subst h
  have hge:T.sk s k<=btK s k false:=by have:=(Xc s false 32 (zb s k false) (zK hk)).1;rw [zk] at this;unfold btK;rw [zk];exact this
  rw [zk] at hne
  refine ⟨rfl,by omega,fun x hx=>?_⟩
  rw [yu hge] at hx
  obtain ⟨i,h1,h2,rfl⟩:=zbJ hx
  have:btK s k false=btF s false 32 (T.sk s k):=by unfold btK;rw [zk]
  have:=X4 s 32 (T.sk s k) i h1 (by omega)
  simp [bit] at this
  left;omega
theorem xB {s:ByteArray} {k:Nat} {b:Bool} (h:zT s k b=false):b=false/\zO s k b=T.sk s k+1/\(97<=T.ch s (T.sk s k)/\T.ch s (T.sk s k)<=122)/\ze s (zb s k b) b=T.ch s (T.sk s k)/\bt s k (zO s k b)=[T.ch s (T.sk s k)]:=by
 unfold zT at h
 split at h
 ·next hl =>
  subst h
  have hlt:=(Xo hl).2
  rw [zk] at hlt
  have hch:ze s (zb s k false) false=T.ch s (T.sk s k):=by rw [zk,yM,if_pos hlt]
  have hc:97<=T.ch s (T.sk s k)/\T.ch s (T.sk s k)<=122:=by unfold Yg at hl;rw [hch] at hl;simpa using hl
  have e:zO s k false=T.sk s k+1:=by unfold zO;rw [if_pos hl,zk]
  refine ⟨rfl,e,hc,hch,?_⟩
  rw [e,yu (by omega),X3 rfl (by unfold T.bl;simp;omega)]
 ·cases h
theorem zaG (E:List EX) (j:Nat):szK E (j+1)=szK E j++[szR E (j+1)]:=rfl
theorem zcd (E:List EX) {j:Nat}:∀ i,j<i->(szK E i)[j]?=some (szR E (j+1)):=by
 intro i
 induction i with
 | zero=>intro h;omega
 | succ i ih =>
  intro h
  rw [zaG]
  by_cases e:j=i
  ·subst e
   rw [List.getElem?_append_right (by rw [ZQ];omega),ZQ,Nat.sub_self];rfl
  ·rw [List.getElem?_append_left (by rw [ZQ];omega)];exact ih (by omega)
theorem Xt (E:List EX) {i j:Nat} (h:j<i):atF (szK E i) (j:Int)=szR E (j+1):=by
 unfold atF
 rw [if_neg (by omega),Int.toNat_natCast,zcd E i h];rfl
theorem Xu (K:List Int):atF K (-1)=0:=by unfold atF;rw [if_pos (by decide)]
def Pos (E:List EX) (m:Nat) (es:List EX):Prop:=∀ i e,es[i]?=some e->E[m+i]?=some e
theorem Pos.left {E:List EX} {m:Nat} {a b:List EX} (h:Pos E m (a++b)):Pos E m a:=fun i e he=>h i e (by rw [List.getElem?_append_left (List.getElem?_eq_some_iff.1 he).1];exact he)
theorem Pos.right {E:List EX} {m:Nat} {a b:List EX} (h:Pos E m (a++b)):Pos E (m+a.length) b:=fun i e he=>by
 have:=h (a.length+i) e (by rw [List.getElem?_append_right (by omega),Nat.add_sub_cancel_left];exact he)
 rw [<- Nat.add_assoc] at this
 exact this
theorem Pos.last {E:List EX} {m:Nat} {a:List EX} {e:EX} (h:Pos E m (a++[e])):E[m+a.length]?=some e:=by
 have:=h.right 0 e rfl
 simpa using this
theorem XA {E:List EX} {j:Nat} {e:EX} (h:E[j]?=some e):szR E (j+1)=szE e (szK E j):=by simp only [szR,h]
section
structure RK (rs:List RL) (nm:ByteArray) (Kn:List Int) (E:List EX) (lim:Nat):Prop where
 len:Kn.length=rs.length
 at_:∀ i r,rs[i]?=some r->T.ch nm i=r.nv/\∃ j:Nat,r.ex=(j:Int)/\j<lim/\Kn[i]?=some (szR E (j+1))
theorem zdX {rs:List RL} {nm:ByteArray} {Kn:List Int} {E:List EX} {lim:Nat} (h:RK rs nm Kn E lim) (v:Int) {i:Nat} (hi:lim<=i):knL nm v Kn 0=atF (szK E i) (yf v rs):=by
 have key:∀ (rs:List RL) (Kn:List Int) (o:Nat),Kn.length=rs.length->(∀ i r,rs[i]?=some r->T.ch nm (o+i)=r.nv/\∃ j:Nat,r.ex=(j:Int)/\j<lim/\Kn[i]?=some (szR E (j+1)))->knL nm v Kn o=atF (szK E i) (yf v rs):=by
  intro rs
  induction rs with
  | nil =>
   intro Kn o hl _
   have:Kn=[]:=List.eq_nil_of_length_eq_zero hl
   subst this
   simp [knL,yf,Xu]
  | cons r l ih =>
   intro Kn o hl hh
   cases Kn with
   | nil=>simp at hl
   | cons q Kr =>
    have h0:=hh 0 r rfl
    obtain ⟨j,h1,h2,h3⟩:=h0.2
    simp at h3
    simp only [knL,yf]
    rw [Nat.add_zero] at h0
    rw [h0.1]
    split
    ·rw [h1,Xt E (by omega),h3]
    ·exact ih Kr (o+1) (by simpa using hl) (fun i r' hr=>by
      have:=hh (i+1) r' hr
      rw [show o+(i+1)=o+1+i from by omega] at this
      simpa using this)
 exact key rs Kn 0 h.len (fun i r hr=>by have:=h.at_ i r hr;rw [Nat.zero_add];exact this)
theorem ZZ {s:ByteArray} {c:Int} {k:Nat} (hc:c≠0) (hb:T.bl c=false) (h:zU s c k false=true):zc s c k false=T.sk s k+1/\bt s k (zc s c k false)=[c]:=by
 have hl:=Yt hc h
 have e:zc s c k false=T.sk s k+1:=by unfold zc;rw [if_pos h,zk]
 exact ⟨e,by rw [e,yu (by omega),X3 hl.2.2 hb]⟩
theorem YD {s:ByteArray} {c:Int} {k:Nat} (h:zU s c k false=false):bt s k (zc s c k false)=[]:=by
 have e:zc s c k false=T.sk s k:=by unfold zc;rw [if_neg (by rw [h];decide),zk]
 rw [e,zdd]
theorem Pln.app {a b:List Int} (h:Pln a) (k:Pln b):Pln (a++b):=fun c hc=>(List.mem_append.1 hc).elim (h c) (k c)
theorem Z4 (c:Int) (x:List Int) {l:List (List Int)} (h:l≠[]):joi c (x::l)=x++[c]++joi c l:=by
 cases l with
 | nil=>exact absurd rfl h
 | cons y r=>rfl
theorem jy {s:ByteArray} {ex:Int->Nat->Nat->Bool->CR} {c:Int} (hc:c=123\/c=102\/c=119) (d:Int) (m k:Nat) (hk:k<=s.size) (h:(zt ex s c d m k false).b=false) :
 (zt ex s c d m k false).es=[]/\(zt ex s c d m k false).im.arm=-1/\Pln (bt s k (zt ex s c d m k false).k):=by
 have hp0:=T.sk_le hk
 have hge:=T.sk_ge s k
 have hplain:zu s (T.sk s k) false=false->Pln (bt s k (zm s (T.sk s k) false)):=fun hh=>by
  have h1:=Z3 hp0 hh
  have:=Yq s k
  rw [yu (by omega)]
  exact h1.2.2
 rcases hc with rfl | rfl | rfl
 ·unfold zt at h ⊢
  simp only [zk] at h ⊢
  exact ⟨rfl,rfl,hplain h⟩
 ·unfold zt at h ⊢
  simp only [zk] at h ⊢
  exact ⟨rfl,rfl,hplain h⟩
 ·have e:zt ex s 119 d m k false=⟨⟨T.sk s k,zI s (T.sk s k) false,0,0,zI s (zc s 42 (zm s (T.sk s k) false) (zu s (T.sk s k) false)) (zj s 42 (zm s (T.sk s k) false) (zu s (T.sk s k) false)),zb s (zc s 42 (zm s (T.sk s k) false) (zu s (T.sk s k) false)) (zj s 42 (zm s (T.sk s k) false) (zu s (T.sk s k) false)),-1⟩,[],zm s (zc s 42 (zm s (T.sk s k) false) (zu s (T.sk s k) false)) (zj s 42 (zm s (T.sk s k) false) (zu s (T.sk s k) false)),zu s (zc s 42 (zm s (T.sk s k) false) (zu s (T.sk s k) false)) (zj s 42 (zm s (T.sk s k) false) (zu s (T.sk s k) false))⟩:=by unfold zt;rw [zk];rfl
  rw [e] at h ⊢
  refine ⟨rfl,rfl,?_⟩
  simp only at h ⊢
  have hk1:=zZ (b:=false) hp0
  have hk2:zc s 42 (zm s (T.sk s k) false) (zu s (T.sk s k) false)<=s.size:=zq (by decide) hk1
  have h3:=Z3 hk2 h
  have h4:=zJ (by decide) (by decide) h3.1
  have h5:=hplain h4.1
  have hg1:=zV (b:=false) hp0
  have hg2:=zi s 42 (zm s (T.sk s k) false) (zu s (T.sk s k) false)
  have hg3:=zV (b:=zj s 42 (zm s (T.sk s k) false) (zu s (T.sk s k) false)) hk2
  rw [zx s (b:=zm s (T.sk s k) false) (by omega) (by omega),zx s (a:=zm s (T.sk s k) false) hg2 hg3,h4.2.2]
  exact h5.app (Pln.app (fun x hx=>by simp at hx;exact .inr hx) h3.2.2)
theorem Xg {s:ByteArray} {ex:Int->Nat->Nat->Bool->CR} (hM:Zs ex s) {c:Int} (hc:c=123\/c=102\/c=119) (d:Int):∀ (N m k:Nat),k<=s.size->s.size+1<=N+k->(zd ex s c d N m k false).b=false ->
 (zd ex s c d N m k false).es=[]/\(∀ x∈(zd ex s c d N m k false).ims,x.arm=-1)/\∃ L:List (List Int),L.length=(zd ex s c d N m k false).ims.length/\L≠[]/\(∀ x∈L,Pln x)/\bt s k (zd ex s c d N m k false).k=joi 44 L:=by
 intro N
 induction N with
 | zero=>intro m k h1 h2;omega
 | succ N ih =>
  intro m k hk hN hb
  have hmo:=yT hM c d m k false hk
  have hit:=jy (ex:=ex) hc d m k hk
  simp only [zd] at hb ⊢
  generalize zt ex s c d m k false=it at *
  have htl:∀ b,zc s 44 it.k b<=s.size:=fun b=>zq (by decide) hmo.2.1
  have htg:=zi s 44 it.k it.b
  have hitb:it.b=false:=by
   cases hq:it.b with
   | false=>rfl
   | true =>
    rw [hq] at hb
    have hdt:=yd (s:=s) (k:=it.k) (b:=true) (c:=44) (.inl rfl) (by decide) (by decide)
    rw [hdt.1] at hb
    simp at hb
  obtain ⟨i1,i2,i3⟩:=hit hitb
  rw [hitb] at hb htg ⊢
  cases ht:zU s 44 it.k false with
  | false =>
   rw [ht] at hb
   simp only [Bool.false_eq_true,if_false] at hb ⊢
   refine ⟨i1,fun x hx=>by simp at hx;subst hx;exact i2,[bt s k it.k],rfl,by simp,fun x hx=>by simp at hx;subst hx;exact i3,?_⟩
   rw [zx s hmo.1 htg,YD ht,List.append_nil]
   rfl
  | true =>
   rw [ht] at hb
   simp only [if_true] at hb ⊢
   have hty:=ZZ (s:=s) (k:=it.k) (c:=44) (by decide) (by decide) ht
   have hsk:=T.sk_ge s it.k
   obtain ⟨q1,q2,L,q3,q4,q5,q6⟩:=ih (m+it.es.length) (zc s 44 it.k false) (htl _) (by omega) hb
   have hq:=zL hM c d N (m+it.es.length) (zc s 44 it.k false) false (htl _)
   refine ⟨by rw [q1,i1];rfl,fun x hx=>?_,bt s k it.k::L,by simp [q3],by simp,fun x hx=>?_,?_⟩
   ·rcases List.mem_cons.1 hx with rfl | hx
    ·exact i2
    ·exact q2 x hx
   ·rcases List.mem_cons.1 hx with rfl | hx
    ·exact i3
    ·exact q5 x hx
   ·rw [Z4 44 _ q4,<- q6,zx s hmo.1 (c:=(zd ex s c d N (m+it.es.length) (zc s 44 it.k false) false).k) (by omega),zx s htg hq.1,hty.2,List.append_assoc]
section
variable {s:ByteArray} {nm:ByteArray} {Kn:List Int} {E:List EX} {lim:Nat}
def EG (s nm:ByteArray) (Kn:List Int) (E:List EX) (lim:Nat) (ex:Int->Nat->Nat->Bool->CR) (n:Nat):Prop:=∀ d m k b,k<=s.size->s.size-k<n->(ex d m k b).b=false->lim<=m->Pos E m (ex d m k b).es ->
 1<=(ex d m k b).es.length/\(ex d m k b).idx=((m+(ex d m k b).es.length-1:Nat):Int)/\SZL nm Kn (bt s k (ex d m k b).k) (szR E (m+(ex d m k b).es.length))
structure AR where
 key:List Int
 txt:List Int
 num:Nat
def AR.t (a:AR):List Int:=a.key++[58]++a.txt
theorem jz {ex:Int->Nat->Nat->Bool->CR} {n:Nat} (hM:Zs ex s) (hB:Xi ex) (hX:EG s nm Kn E lim ex n) {c:Int} (hc:c=103\/c=109) (d:Int) (m k:Nat) (hk:k<=s.size) (hn:s.size-k<n) (h:(zt ex s c d m k false).b=false) (hm:lim<=m) (hP:Pos E m (zt ex s c d m k false).es) :
 ∃ a:AR,Pln a.key/\SZL nm Kn a.txt (szR E (a.num+1))/\a.num<m+(zt ex s c d m k false).es.length/\(zt ex s c d m k false).im.arm=(a.num:Int)/\bt s k (zt ex s c d m k false).k=a.t:=by
 have hp0:=T.sk_le hk
 have hge:=T.sk_ge s k
 have fin:∀ (km kw:Nat) (bm bw:Bool),T.sk s k<=km->km<=s.size->zc s 58 km bm=kw->zj s 58 km bm=bw->(bm=false->Pln (bt s k km))->(ex (d+1) m kw bw).b=false->Pos E m (ex (d+1) m kw bw).es->(bw=true->(ex (d+1) m kw bw).b=true) ->
  ∃ a:AR,Pln a.key/\SZL nm Kn a.txt (szR E (a.num+1))/\a.num<m+(ex (d+1) m kw bw).es.length/\(ex (d+1) m kw bw).idx=(a.num:Int)/\bt s k (ex (d+1) m kw bw).k=a.t:=by
  intro km kw bm bw h1 h2 h3 h4 h5 h6 h7 h8
  have hbw:bw=false:=by cases hq:bw with
   | false=>rfl
   | true=>rw [h8 hq] at h6;cases h6
  subst hbw
  have hw:=zJ (by decide) (by decide) h4
  have hkw:kw<=s.size:=by rw [<- h3];exact zq (by decide) h2
  have hg:=zi s 58 km bm
  obtain ⟨x1,x2,x3⟩:=hX (d+1) m kw false hkw (by omega) h6 hm h7
  have hmo:=hM (d+1) m kw false hkw
  refine ⟨⟨bt s k km,bt s kw (ex (d+1) m kw false).k,m+(ex (d+1) m kw false).es.length-1⟩,h5 hw.1,by simp only;rw [show m+(ex (d+1) m kw false).es.length-1+1=m+(ex (d+1) m kw false).es.length from by omega];exact x3,by simp only;omega,x2,?_⟩
  unfold AR.t
  simp only
  rw [zx s (b:=km) (by omega) (by omega),zx s (a:=km) (b:=kw) (by omega) hmo.1]
  rw [h3] at hw
  rw [hw.2.2,List.append_assoc]
 rcases hc with rfl | rfl
 ·unfold zt at h hP ⊢
  simp only [zk] at h hP ⊢
  exact fin (zm s (T.sk s k) false) _ (zu s (T.sk s k) false) _ (zV hp0) (zZ hp0) rfl rfl (fun hh=>by
   have h1:=Z3 hp0 hh
   rw [yu (zV hp0)]
   exact h1.2.2) h hP (fun hh=>by rw [hh];exact hB _ _ _)
 ·unfold zt at h hP ⊢
  simp only [zk] at h hP ⊢
  exact fin (btK s (T.sk s k) false) _ (btX s (T.sk s k) false) _ (Y8 hp0) (Y7 hp0) rfl rfl (fun hh=>by
   have h1:=qE hp0 hh
   rw [yu (Y8 hp0)]
   exact h1.2.2) h hP (fun hh=>by rw [hh];exact hB _ _ _)
theorem QL {ex:Int->Nat->Nat->Bool->CR} {n:Nat} (hM:Zs ex s) (hB:Xi ex) (hX:EG s nm Kn E lim ex n) {c:Int} (hc:c=103\/c=109) (d:Int):∀ (N m k:Nat),k<=s.size->s.size+1<=N+k->s.size-k<n->(zd ex s c d N m k false).b=false->lim<=m->Pos E m (zd ex s c d N m k false).es ->
 ∃ L:List AR,L.length=(zd ex s c d N m k false).ims.length/\L≠[]/\(∀ a∈L,Pln a.key/\SZL nm Kn a.txt (szR E (a.num+1))/\a.num<m+(zd ex s c d N m k false).es.length)/\(zd ex s c d N m k false).ims.map IM.arm=L.map (fun a=>(a.num:Int))/\bt s k (zd ex s c d N m k false).k=joi 44 (L.map AR.t):=by
 intro N
 induction N with
 | zero=>intro m k h1 h2;omega
 | succ N ih =>
  intro m k hk hN hn hb hm hP
  have hmo:=yT hM c d m k false hk
  have hit:=jz hM hB hX hc d m k hk hn
  simp only [zd] at hb hP ⊢
  generalize zt ex s c d m k false=it at *
  have htl:∀ b,zc s 44 it.k b<=s.size:=fun b=>zq (by decide) hmo.2.1
  have htg:=zi s 44 it.k it.b
  have hitb:it.b=false:=by
   cases hq:it.b with
   | false=>rfl
   | true =>
    rw [hq] at hb
    have hdt:=yd (s:=s) (k:=it.k) (b:=true) (c:=44) (.inl rfl) (by decide) (by decide)
    rw [hdt.1] at hb
    simp at hb
  rw [hitb] at hb htg hP ⊢
  cases ht:zU s 44 it.k false with
  | false =>
   rw [ht] at hb hP
   simp only [Bool.false_eq_true,if_false] at hb hP ⊢
   obtain ⟨a,a1,a2,a3,a4,a5⟩:=hit hitb hm hP
   refine ⟨[a],rfl,by simp,fun x hx=>by simp at hx;subst hx;exact ⟨a1,a2,a3⟩,by simp [a4],?_⟩
   rw [zx s hmo.1 htg,YD ht,List.append_nil,a5]
   rfl
  | true =>
   rw [ht] at hb hP
   simp only [if_true] at hb hP ⊢
   obtain ⟨a,a1,a2,a3,a4,a5⟩:=hit hitb hm hP.left
   have hty:=ZZ (s:=s) (k:=it.k) (c:=44) (by decide) (by decide) ht
   have hsk:=T.sk_ge s it.k
   obtain ⟨L,q1,q2,q3,q4,q5⟩:=ih (m+it.es.length) (zc s 44 it.k false) (htl _) (by omega) (by omega) hb (by omega) hP.right
   have hq:=zL hM c d N (m+it.es.length) (zc s 44 it.k false) false (htl _)
   generalize zd ex s c d N (m+it.es.length) (zc s 44 it.k false) false=q at *
   refine ⟨a::L,by simp [q1],by simp,fun x hx=>?_,by simp [a4,q4],?_⟩
   ·rcases List.mem_cons.1 hx with rfl | hx
    ·exact ⟨a1,a2,by simp only [List.length_append];omega⟩
    ·have:=q3 x hx
     exact ⟨this.1,this.2.1,by simp only [List.length_append];omega⟩
   ·rw [List.map_cons,Z4 44 _ (by simpa using q2),<- q5,zx s hmo.1 (c:=q.k) (by omega),zx s htg hq.1,hty.2,a5,List.append_assoc]
end
end
end Go.Proofs.YtaebngpoagjafabGreat
