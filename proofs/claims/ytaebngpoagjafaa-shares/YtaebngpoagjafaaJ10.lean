import Derived.Test.YtaebngpoagjafaaJ09
set_option maxRecDepth 100000
namespace Go.Proofs.Ytaebngpoagjafaa
open Go.RowKit
def Byt (xs:List Int):Prop:=∀ x∈xs,0<=x/\x<256
theorem Byt.app {a b:List Int} (h:Byt a) (k:Byt b):Byt (a++b):=fun x hx=>(List.mem_append.1 hx).elim (h x) (k x)
theorem ZI (xs:List Int):(strOfNums xs).data.toList=xs.map (fun n=>UInt8.ofNat n.toNat):=strOfNums_data xs
theorem xO {xs:List Int} (h:Byt xs) (i:Nat):T.ch (strOfNums xs) i=(xs[i]?).getD (-1):=by
 by_cases hi:i<xs.length
 ·have hs:i<(strOfNums xs).size:=by rw [strOfNums_size];exact hi
  rw [T.ch_lt hs,List.getElem?_eq_getElem hi]
  have e1:(strOfNums xs)[i]=UInt8.ofNat (xs[i]).toNat:=by
   have:(strOfNums xs).data.toList[i]?=some ((strOfNums xs)[i]):=List.getElem?_eq_getElem (l:=(strOfNums xs).data.toList) (by simpa using hs)
   rw [ZI,List.getElem?_map,List.getElem?_eq_getElem hi] at this
   exact (Option.some.inj this).symm
  rw [e1]
  have:=h xs[i] (List.getElem_mem _)
  simp
  omega
 ·have hs:¬ i<(strOfNums xs).size:=by rw [strOfNums_size];exact hi
  rw [T.ch_ge hs,List.getElem?_eq_none (by omega)];rfl
theorem qs (xs:List Int) (a b:Nat):(strOfNums xs).extract a b=strOfNums ((xs.drop a).take (b-a)):=by
 have key:((strOfNums xs).extract a b).data.toList=(strOfNums ((xs.drop a).take (b-a))).data.toList:=by
  rw [ZI,ByteArray.data_extract,Array.toList_extract,ZI]
  simp [List.extract_eq_take_drop,List.map_take,List.map_drop]
 have:∀ {x y:ByteArray},x.data.toList=y.data.toList->x=y:=fun {x y} h=>by
  obtain ⟨⟨l⟩⟩:=x
  obtain ⟨⟨m⟩⟩:=y
  simp at h
  rw [h]
 exact this key
def yO (c:Int):Int->List Int->List Int->List (List Int)
 | _,cur,[]=>[cur]
 | d,cur,x::r =>
  if x=40\/x=123 then yO c (d+1) (cur++[x]) r
  else if x=41\/x=125 then yO c (d-1) (cur++[x]) r
  else if x=c/\d=0 then cur::yO c d [] r
  else yO c d (cur++[x]) r
theorem QE {xs:List Int} (h:Byt xs) (c:Int):spl (strOfNums xs) c=(yO c 0 [] xs).map strOfNums:=by
 have key:∀ i,i<=xs.length->(yO c 0 [] xs).map strOfNums=(spS (strOfNums xs) c i).l++(yO c (spS (strOfNums xs) c i).deep ((xs.drop (spS (strOfNums xs) c i).from_).take (i-(spS (strOfNums xs) c i).from_)) (xs.drop i)).map strOfNums:=by
  intro i
  induction i with
  | zero=>intro _;simp [spS]
  | succ i ih =>
   intro hi
   have hf:=(JZ (strOfNums xs) c i).1
   rw [ih (by omega)]
   have hx:xs[i]?=some xs[i]:=List.getElem?_eq_getElem (by omega)
   have hd:xs.drop i=xs[i]::xs.drop (i+1):=List.drop_eq_getElem_cons (by omega)
   have hch:T.ch (strOfNums xs) i=xs[i]:=by rw [xO h,hx];rfl
   have hcur:∀ f,f<=i->(xs.drop f).take (i-f)++[xs[i]]=(xs.drop f).take (i+1-f):=fun f hf=>by
    rw [show i+1-f=(i-f)+1 from by omega,List.take_add_one,List.getElem?_drop,show f+(i-f)=i from by omega,hx]
    rfl
   rw [hd]
   simp only [spS,yO,hch]
   generalize spS (strOfNums xs) c i=q at *
   split
   ·rw [hcur _ hf]
   ·split
    ·rw [hcur _ hf]
    ·split
     ·next hc =>
      rw [qs]
      simp
     ·rw [hcur _ hf]
 have h1:=key xs.length (Nat.le_refl _)
 unfold spl
 rw [h1,strOfNums_size,qs]
 simp [yO]
def Pln (x:List Int):Prop:=∀ c∈x,(48<=c/\c<=57)\/c=42
def Nsp (n:Int) (xs:List Int):Prop:=∀ c,(c=44\/c=124\/c=58\/c=59)->∀ d,n<=d->∀ cur rest,yO c d cur (xs++rest)=yO c d (cur++xs) rest
theorem Nsp.nil (n:Int):Nsp n []:=fun c _ d _ cur rest=>by simp
theorem Nsp.app {n:Int} {a b:List Int} (h:Nsp n a) (k:Nsp n b):Nsp n (a++b):=fun c hc d hd cur rest=>by
 rw [List.append_assoc,h c hc d hd,k c hc d hd,List.append_assoc]
theorem Nsp.mono {n m:Int} {a:List Int} (h:Nsp n a) (hm:n<=m):Nsp m a:=fun c hc d hd=>h c hc d (Int.le_trans hm hd)
theorem Nsp.one {x:Int} (h:(48<=x/\x<=57)\/x=42\/(97<=x/\x<=122)\/x=64\/x=61):Nsp 0 [x]:=fun c hc d _ cur rest=>by
 simp only [List.singleton_append,yO]
 rw [if_neg (by omega),if_neg (by omega),if_neg (by omega)]
theorem Nsp.deep {x:Int} (h1:x≠40/\x≠123/\x≠41/\x≠125):Nsp 1 [x]:=fun c hc d hd cur rest=>by
 simp only [List.singleton_append,yO]
 rw [if_neg (by omega),if_neg (by omega),if_neg (by omega)]
theorem Nsp.pln {x:List Int} (h:Pln x):Nsp 0 x:=by
 induction x with
 | nil=>exact Nsp.nil 0
 | cons a r ih =>
  have h1:Nsp 0 [a]:=Nsp.one (by have:=h a (by simp);omega)
  exact h1.app (ih (fun c hc=>h c (by simp [hc])))
theorem Nsp.brac {y:List Int} {o cl:Int} (ho:o=40\/o=123) (hcl:cl=41\/cl=125) (h:Nsp 1 y):Nsp 0 ([o]++y++[cl]):=fun c hc d hd cur rest=>by
 have e:[o]++y++[cl]++rest=o::(y++(cl::rest)):=by simp
 rw [e,yO,if_pos ho,h c hc (d+1) (by omega),yO,if_neg (by omega),if_pos hcl,show d+1-1=d from by omega]
 simp
def joi (c:Int):List (List Int)->List Int
 | []=>[]
 | [x]=>x
 | x::y::r=>x++[c]++joi c (y::r)
theorem zaJ {c:Int} (hc:c=44\/c=124\/c=58\/c=59):∀ (l:List (List Int)),l≠[]->(∀ x∈l,Nsp 0 x)->yO c 0 [] (joi c l)=l:=by
 intro l
 induction l with
 | nil=>intro h;exact absurd rfl h
 | cons x r ih =>
  intro _ h
  cases r with
  | nil =>
   have:=h x (by simp) c hc 0 (Int.le_refl _) [] []
   simp only [joi]
   rw [List.append_nil] at this
   rw [this]
   simp [yO]
  | cons y r =>
   have h1:=h x (by simp) c hc 0 (Int.le_refl _) [] ([c]++joi c (y::r))
   simp only [joi,List.append_assoc]
   rw [h1]
   simp only [List.singleton_append,yO]
   rw [if_neg (by omega),if_neg (by omega),if_pos ⟨trivial,trivial⟩,ih (by simp) (fun z hz=>h z (by simp [hz]))]
   simp
theorem Nsp.joi {c:Int} (hc:c≠40/\c≠123/\c≠41/\c≠125):∀ (l:List (List Int)),(∀ x∈l,Nsp 1 x)->Nsp 1 (joi c l):=by
 intro l
 induction l with
 | nil=>intro _;exact Nsp.nil 1
 | cons x r ih =>
  intro h
  cases r with
  | nil=>exact h x (by simp)
  | cons y r =>
   simp only [Go.Proofs.Ytaebngpoagjafaa.joi]
   exact ((h x (by simp)).app (Nsp.deep hc)).app (ih (fun z hz=>h z (by simp [hz])))
inductive SZL (nm:ByteArray) (K:List Int):List Int->Int->Prop where
 | servers {l:List (List Int)}:l≠[]->(∀ x∈l,Pln x)->SZL nm K ([123]++joi 44 l++[125]) (1+(l.length:Int))
 | alias {x:List Int}:Pln x->SZL nm K (64::x) 1
 | name {c:Int}:(97<=c/\c<=122)->SZL nm K [61,c] (knL nm c K 0)
 | ttl {x o:List Int} {n:Int}:Pln x->SZL nm K o n->SZL nm K ([116]++([40]++joi 44 [x,o]++[41])) (Zi (1+n))
 | list {c:Int} {l:List (List Int)} {o:List Int} {n:Int}:(c=119\/c=102)->l≠[]->(∀ x∈l,Pln x)->SZL nm K o n->SZL nm K ([c]++([40]++joi 124 [joi 44 l,o]++[41])) (Zi (1+(l.length:Int)+n))
 | maps {c:Int} {m:Nat} {ks ar:Nat->List Int} {o:List Int} {n:Int} {ns:Nat->Int}:(c=109\/c=103)->0<m->(∀ i,i<m->Pln (ks i))->(∀ i,i<m->SZL nm K (ar i) (ns i))->(∀ i,m<=i->ns i=0)->SZL nm K o n->SZL nm K ([c]++([40]++joi 124 [joi 44 ((List.range m).map (fun i=>ks i++[58]++ar i)),o]++[41])) (Zi (1+(m:Int)+n+JX ns m))
theorem SZL.nsp {nm:ByteArray} {K:List Int} {t:List Int} {n:Int} (h:SZL nm K t n):Nsp 0 t:=by
 induction h with
 | servers _ h=>exact Nsp.brac (.inr rfl) (.inr rfl) (Nsp.joi (by decide) _ (fun x hx=>(Nsp.pln (h x hx)).mono (by decide)))
 | alias h=>exact Nsp.app (a:=[64]) (Nsp.one (by decide)) (Nsp.pln h)
 | name h=>exact Nsp.app (a:=[61]) (b:=[_]) (Nsp.one (by decide)) (Nsp.one (by omega))
 | ttl hx _ ih=>exact (Nsp.one (by decide)).app (Nsp.brac (.inl rfl) (.inl rfl) (Nsp.joi (by decide) _ (fun z hz=>by
  simp at hz;rcases hz with rfl | rfl
  ·exact (Nsp.pln hx).mono (by decide)
  ·exact ih.mono (by decide))))
 | list hc _ hx _ ih=>exact (Nsp.one (by omega)).app (Nsp.brac (.inl rfl) (.inl rfl) (by
  simp only [joi]
  exact ((Nsp.joi (by decide) _ (fun x h=>(Nsp.pln (hx x h)).mono (by decide))).app (Nsp.deep (by decide))).app (ih.mono (by decide))))
 | maps hc _ hk _ _ _ iha iho=>exact (Nsp.one (by omega)).app (Nsp.brac (.inl rfl) (.inl rfl) (by
  simp only [joi]
  refine ((Nsp.joi (by decide) _ (fun x hx=>?_)).app (Nsp.deep (by decide))).app (iho.mono (by decide))
  simp only [List.mem_map,List.mem_range] at hx
  obtain ⟨i,hi,rfl⟩:=hx
  exact (((Nsp.pln (hk i hi)).mono (by decide)).app (Nsp.deep (by decide))).app ((iha i hi).mono (by decide))))
theorem Pln.byt {x:List Int} (h:Pln x):Byt x:=fun c hc=>by have:=h c hc;omega
theorem Byt.joi {c:Int} (hc:0<=c/\c<256):∀ (l:List (List Int)),(∀ x∈l,Byt x)->Byt (joi c l):=by
 intro l
 induction l with
 | nil=>intro _ x hx;simp [Go.Proofs.Ytaebngpoagjafaa.joi] at hx
 | cons x r ih =>
  intro h
  cases r with
  | nil=>exact h x (by simp)
  | cons y r =>
   simp only [Go.Proofs.Ytaebngpoagjafaa.joi]
   exact ((h x (by simp)).app (fun z hz=>by simp at hz;subst hz;exact hc)).app (ih (fun z hz=>h z (by simp [hz])))
theorem Byt.one {c:Int} (hc:0<=c/\c<256):Byt [c]:=fun z hz=>by simp at hz;subst hz;exact hc
theorem SZL.byt {nm:ByteArray} {K:List Int} {t:List Int} {n:Int} (h:SZL nm K t n):Byt t:=by
 induction h with
 | servers _ h=>exact ((Byt.one (by decide)).app (Byt.joi (by decide) _ (fun x hx=>(h x hx).byt))).app (Byt.one (by decide))
 | alias h=>exact Byt.app (a:=[64]) (Byt.one (by decide)) h.byt
 | name h=>exact Byt.app (a:=[61]) (b:=[_]) (Byt.one (by decide)) (Byt.one (by omega))
 | ttl hx _ ih=>exact (Byt.one (by decide)).app (((Byt.one (by decide)).app (Byt.joi (by decide) _ (fun z hz=>by
  simp at hz;rcases hz with rfl | rfl
  ·exact hx.byt
  ·exact ih))).app (Byt.one (by decide)))
 | list hc _ hx _ ih=>exact (Byt.one (by omega)).app (((Byt.one (by decide)).app (Byt.joi (by decide) _ (fun z hz=>by
  simp at hz;rcases hz with rfl | rfl
  ·exact Byt.joi (by decide) _ (fun x h=>(hx x h).byt)
  ·exact ih))).app (Byt.one (by decide)))
 | maps hc _ hk _ _ _ iha iho=>exact (Byt.one (by omega)).app (((Byt.one (by decide)).app (Byt.joi (by decide) _ (fun z hz=>by
  simp at hz;rcases hz with rfl | rfl
  ·refine Byt.joi (by decide) _ (fun x h=>?_)
   simp only [List.mem_map,List.mem_range] at h
   obtain ⟨i,hi,rfl⟩:=h
   simpa using ((hk i hi).byt.app (Byt.one (c:=58) (by decide))).app (iha i hi)
  ·exact iho))).app (Byt.one (by decide)))
def ruT (y:Int×List Int):List Int:=[y.1,58]++y.2
theorem ZJ (a b:List Int):strOfNums a++strOfNums b=strOfNums (a++b):=by
 have h:(strOfNums a++strOfNums b).data.toList=(strOfNums (a++b)).data.toList:=by
  rw [ZI,ByteArray.data_append,Array.toList_append,ZI,ZI,List.map_append]
 have:∀ {x y:ByteArray},x.data.toList=y.data.toList->x=y:=fun {x y} h=>by
  obtain ⟨⟨l⟩⟩:=x
  obtain ⟨⟨m⟩⟩:=y
  simp at h
  rw [h]
 exact this h
theorem zav {nm:ByteArray} {K:Nat->List Int} {n:Nat->Int}:∀ (Y:List (Int×List Int)) (o:Nat),Y≠[]->(∀ i y,Y[i]?=some y->(97<=y.1/\y.1<=122)/\SZL nm (K (o+i)) y.2 (n (o+i)))->yO 59 0 [] (joi 59 (Y.map ruT))=Y.map ruT:=by
 intro Y
 induction Y with
 | nil=>intro o h;exact absurd rfl h
 | cons y r ih =>
  intro o _ h
  have h0:=h 0 y rfl
  have one:∀ cur rest,yO 59 0 cur (ruT y++rest)=yO 59 0 (cur++ruT y) rest:=fun cur rest=>by
   have e:ruT y++rest=y.1::58::(y.2++rest):=by simp [ruT]
   rw [e,yO,if_neg (by omega),if_neg (by omega),if_neg (by omega),yO,if_neg (by decide),if_neg (by decide),if_neg (by decide),h0.2.nsp 59 (.inr (.inr (.inr rfl))) 0 (Int.le_refl _)]
   simp [ruT]
  cases r with
  | nil =>
   have:=one [] []
   simp only [List.map_cons,List.map_nil,joi]
   rw [List.append_nil] at this
   rw [this]
   simp [yO]
  | cons z r =>
   have h1:=one [] ([59]++joi 59 ((z::r).map ruT))
   have h2:=ih (o+1) (by simp) (fun i y hy=>by
    have:=h (i+1) y hy
    rw [show o+(i+1)=o+1+i from by omega] at this
    exact this)
   simp only [List.map_cons,joi] at h1 h2 ⊢
   rw [List.append_assoc,h1]
   simp only [List.singleton_append,yO,List.nil_append]
   rw [if_neg (by decide),if_neg (by decide),if_pos ⟨trivial,trivial⟩,h2]
theorem Jg {l:List (List Int)} (h:∀ x∈l,Byt x):Byt (joi 59 l):=Byt.joi (by decide) l h
def sgL (s:ByteArray) (a:Nat):Nat->List Int
 | 0=>[]
 | n+1=>sgL s a n++(if T.bl (T.ch s (a+n))=true then [] else [T.ch s (a+n)])
def bt (s:ByteArray) (a b:Nat):List Int:=sgL s a (b-a)
theorem ju (s:ByteArray):∀ n,brL s n=bt s 0 n:=by
 intro n
 unfold bt
 rw [Nat.sub_zero]
 induction n with
 | zero=>rfl
 | succ n ih=>simp only [brL,sgL,ih,Nat.zero_add]
theorem jX (s:ByteArray) (a n:Nat):∀ m,sgL s a (n+m)=sgL s a n++sgL s (a+n) m:=by
 intro m
 induction m with
 | zero=>simp [sgL]
 | succ m ih =>
  rw [show n+(m+1)=(n+m)+1 from by omega]
  simp only [sgL]
  rw [ih,show a+(n+m)=a+n+m from by omega,List.append_assoc]
theorem zE (s:ByteArray) {a b c:Nat} (h1:a<=b) (h2:b<=c):bt s a c=bt s a b++bt s b c:=by
 unfold bt
 rw [show c-a=(b-a)+(c-b) from by omega,jX,show a+(b-a)=b from by omega]
theorem qF (s:ByteArray) (a:Nat):bt s a a=[]:=by unfold bt;rw [Nat.sub_self];rfl
theorem Xb {s:ByteArray} {a:Nat} {c:Int} (h:T.ch s a=c) (hb:T.bl c=false):bt s a (a+1)=[c]:=by
 unfold bt
 rw [show a+1-a=1 from by omega]
 simp [sgL,h,hb]
theorem Jy (s:ByteArray):∀ n k,s.size-k<=n->bt s k (T.sk s k)=[]:=by
 intro n
 induction n with
 | zero =>
  intro k h
  have:T.bl (T.ch s k)=false:=by rw [T.ch_ge (by omega)];rfl
  rw [T.sk_here this,qF]
 | succ n ih =>
  intro k h
  cases hb:T.bl (T.ch s k) with
  | false=>rw [T.sk_here hb,qF]
  | true =>
   have hlt:=T.bl_lt hb
   have hn:=T.sk_next hb
   have hge:=T.sk_ge s (k+1)
   rw [<- hn,zE s (b:=k+1) (by omega) hge,ih (k+1) (by omega),List.append_nil]
   unfold bt
   rw [show k+1-k=1 from by omega]
   simp [sgL,hb]
theorem JQ (s:ByteArray) (k:Nat):bt s k (T.sk s k)=[]:=Jy s (s.size-k) k (Nat.le_refl _)
theorem yF {s:ByteArray} {k e:Nat} (h:T.sk s k<=e):bt s k e=bt s (T.sk s k) e:=by
 rw [zE s (T.sk_ge s k) h,JQ,List.nil_append]
theorem jt {s:ByteArray} {a b:Nat} {x:Int} (h:x∈bt s a b):∃ i,a<=i/\i<b/\x=T.ch s i:=by
 unfold bt at h
 have key:∀ n,x∈sgL s a n->∃ i,a<=i/\i<a+n/\x=T.ch s i:=by
  intro n
  induction n with
  | zero=>intro h;simp [sgL] at h
  | succ n ih =>
   intro h
   simp only [sgL,List.mem_append] at h
   rcases h with h | h
   ·obtain ⟨i,h1,h2,h3⟩:=ih h;exact ⟨i,h1,by omega,h3⟩
   ·split at h
    ·simp at h
    ·simp at h;exact ⟨a+n,by omega,by omega,h⟩
 obtain ⟨i,h1,h2,h3⟩:=key _ h
 exact ⟨i,h1,by omega,h3⟩
theorem Xz (s:ByteArray):∀ n j i,j<=i->i<nmF s false n j->T.dig (T.ch s i)=true:=by
 intro n
 induction n with
 | zero=>intro j i h1 h2;simp only [nmF] at h2;omega
 | succ n ih =>
  intro j i h1 h2
  simp only [nmF] at h2
  split at h2
  ·next hb =>
   by_cases e:i=j
   ·subst e;rw [jg] at hb;exact hb
   ·exact ih (j+1) i (by omega) h2
  ·omega
theorem yc {s:ByteArray} {c:Int} {k:Nat} {b:Bool} (hc:c≠0) (hb:T.bl c=false) (h:zi s c k b=false):b=false/\zb s c k b=T.sk s k+1/\bt s k (zb s c k b)=[c]:=by
 unfold zi at h
 split at h
 ·next ht =>
  subst h
  have hl:=ZA hc ht
  have e:zb s c k false=T.sk s k+1:=by unfold zb;rw [if_pos ht,zl]
  refine ⟨rfl,e,?_⟩
  rw [e,yF (by omega),Xb hl.2.2 hb]
 ·cases h
theorem QY {s:ByteArray} {k:Nat} {b:Bool} (hk:k<=s.size) (h:zo s k b=false):b=false/\T.sk s k<zh s k b/\Pln (bt s k (zh s k b)):=by
 unfold zo at h
 split at h
 ·cases h
 ·next hne =>
  subst h
  have hge:T.sk s k<=zh s k false:=by have:=(xX s false (nmL s (za s k false) false) (za s k false) (zB hk)).1;rw [zl] at this;unfold zh nmE;rw [zl];exact this
  rw [zl] at hne
  refine ⟨rfl,by omega,fun x hx=>?_⟩
  rw [yF hge] at hx
  obtain ⟨i,h1,h2,rfl⟩:=jt hx
  have:zh s k false=nmF s false (nmL s (T.sk s k) false) (T.sk s k):=by unfold zh nmE;rw [zl]
  have:=Xz s (nmL s (T.sk s k) false) (T.sk s k) i h1 (by omega)
  exact .inl ((Zr _).1 this)
theorem Qr {s:ByteArray} {k:Nat} {b:Bool} (hk:k<=s.size) (h:btX s k b=false):b=false/\T.sk s k<btK s k b/\Pln (bt s k (btK s k b)):=by
 unfold btX at h
 split at h
 ·cases h
 ·next hne =>
  subst h
  have hge:T.sk s k<=btK s k false:=by have:=(Yu s false 32 (za s k false) (zB hk)).1;rw [zl] at this;unfold btK;rw [zl];exact this
  rw [zl] at hne
  refine ⟨rfl,by omega,fun x hx=>?_⟩
  rw [yF hge] at hx
  obtain ⟨i,h1,h2,rfl⟩:=jt hx
  have:btK s k false=btF s false 32 (T.sk s k):=by unfold btK;rw [zl]
  have:=Y7 s 32 (T.sk s k) i h1 (by omega)
  simp [bit] at this
  left;omega
theorem XC {s:ByteArray} {k:Nat} {b:Bool} (h:z9 s k b=false):b=false/\zM s k b=T.sk s k+1/\(97<=T.ch s (T.sk s k)/\T.ch s (T.sk s k)<=122)/\zd s (za s k b) b=T.ch s (T.sk s k)/\bt s k (zM s k b)=[T.ch s (T.sk s k)]:=by
 unfold z9 at h
 split at h
 ·next hl =>
  subst h
  have hlt:=(YG hl).2
  rw [zl] at hlt
  have hch:zd s (za s k false) false=T.ch s (T.sk s k):=by rw [zl,yX,if_pos hlt]
  have hc:97<=T.ch s (T.sk s k)/\T.ch s (T.sk s k)<=122:=by unfold Zo at hl;rw [hch] at hl;simpa using hl
  have e:zM s k false=T.sk s k+1:=by unfold zM;rw [if_pos hl,zl]
  refine ⟨rfl,e,hc,hch,?_⟩
  rw [e,yF (by omega),Xb rfl (by unfold T.bl;simp;omega)]
 ·cases h
def Pos (E:List EX) (m:Nat) (es:List EX):Prop:=∀ i e,es[i]?=some e->E[m+i]?=some e
theorem Pos.left {E:List EX} {m:Nat} {a b:List EX} (h:Pos E m (a++b)):Pos E m a:=fun i e he=>h i e (by rw [List.getElem?_append_left (List.getElem?_eq_some_iff.1 he).1];exact he)
theorem Pos.right {E:List EX} {m:Nat} {a b:List EX} (h:Pos E m (a++b)):Pos E (m+a.length) b:=fun i e he=>by
 have:=h (a.length+i) e (by rw [List.getElem?_append_right (by omega),Nat.add_sub_cancel_left];exact he)
 rw [<- Nat.add_assoc] at this
 exact this
theorem Pos.last {E:List EX} {m:Nat} {a:List EX} {e:EX} (h:Pos E m (a++[e])):E[m+a.length]?=some e:=by
 have:=h.right 0 e rfl
 simpa using this
section
theorem YM {s:ByteArray} {c:Int} {k:Nat} (hc:c≠0) (hb:T.bl c=false) (h:zI s c k false=true):zb s c k false=T.sk s k+1/\bt s k (zb s c k false)=[c]:=by
 have hl:=ZA hc h
 have e:zb s c k false=T.sk s k+1:=by unfold zb;rw [if_pos h,zl]
 exact ⟨e,by rw [e,yF (by omega),Xb hl.2.2 hb]⟩
theorem xK {s:ByteArray} {c:Int} {k:Nat} (h:zI s c k false=false):bt s k (zb s c k false)=[]:=by
 have e:zb s c k false=T.sk s k:=by unfold zb;rw [if_neg (by rw [h];decide),zl]
 rw [e,JQ]
theorem Pln.app {a b:List Int} (h:Pln a) (k:Pln b):Pln (a++b):=fun c hc=>(List.mem_append.1 hc).elim (h c) (k c)
theorem YX (c:Int) (x:List Int) {l:List (List Int)} (h:l≠[]):joi c (x::l)=x++[c]++joi c l:=by
 cases l with
 | nil=>exact absurd rfl h
 | cons y r=>rfl
section
variable {s:ByteArray} {nm:ByteArray} {Kn:List Int} {E:List EX} {lim:Nat}
structure AR where
 key:List Int
 txt:List Int
 num:Nat
def AR.t (a:AR):List Int:=a.key++[58]++a.txt
end
end
def arD:AR:=⟨[],[],0⟩
theorem qV {α:Type} (L:List AR) (f:AR->α):(List.range L.length).map (fun i=>f ((L[i]?).getD arD))=L.map f:=by
 apply List.ext_getElem
 ·simp
 ·intro i h1 h2
  simp at h1
  simp [h1]
end Go.Proofs.Ytaebngpoagjafaa
