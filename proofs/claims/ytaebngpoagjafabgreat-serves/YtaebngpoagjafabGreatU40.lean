import Derived.Test.YtaebngpoagjafabGreatU31
set_option maxRecDepth 100000
set_option maxHeartbeats 800000
namespace Go.Proofs.YtaebngpoagjafabGreat
open Obj renaming cells → Q
open Value renaming int → J, slice → O
open IntKind renaming i64 → Z
open Go.RowKit
attribute [local go_sem ↓] Go.wp_at_zero Go.wp_at_succ
def Zr (D:Nat->Int) (s:Int):Nat->Bool
 | 0=>true
 | n+1=>Zr D s n && !(D n==s)
theorem zb0 (a b d:Int) (ao po:Option Addr) (al ac pl pc:Nat) (o:Option Addr) (db off n c:Nat) (D:Nat->Int) (s:Int) (w:World) (hn:n<=9223372036854775807) (h:IS w o db off n D) :
 Calls Tryz.prog 168 #[.agg #[J Z a,J Z b,J Z d,O o n c,O ao al ac,O po pl pc],J Z s] w fun e w'=>Below w.heap.size w w'/\e=.returned (.bool (Zr D s n)):=by
 have f:Hid (Below w.heap.size w (w.alloc (Q #[J Z a,J Z b,J Z d,O o n c,O ao al ac,O po pl pc] 31))):=(Below.refl _ _).alloc (Nat.le_refl _) _
 go_enter Tryz.func168,Tryz.ntmps168
 go_wp2_with fail
 have z:(w.alloc (Q #[J Z a,J Z b,J Z d,O o n c,O ao al ac,O po pl pc] 31)).cell? ⟨w.heap.size,3,none⟩=some (O o n c):=by simp
 have v:Hid (IS (w.alloc (Q #[J Z a,J Z b,J Z d,O o n c,O ao al ac,O po pl pc] 31)) o db off n D):=h.below f.out h.lt
 generalize w.alloc (Q #[J Z a,J Z b,J Z d,O o n c,O ao al ac,O po pl pc] 31)=w1 at *
 clear h
 go_loopg [5] n (fun q x wr=>∃ j:Nat,q+j=n/\x=J Z j/\Hid (Zr D s j=true)/\wr=w1)
 case atStart=>exact ⟨0,by omega,rfl,rfl,rfl⟩
 case round =>
  obtain ⟨j,C,rfl,r,rfl⟩:=hrel
  by_cases i:j<n
  ·obtain rfl:=v.out.at_ (by omega)
   have B:=v.out.val j i
   have p:(j:Int)<(n:Int):=by omega
   obtain ⟨q,y⟩:∃ q,(D j==s)=q:=⟨_,rfl⟩
   have u:Hid (Zr D s (j+1)=!q):=by show _=_;simp only [Zr];rw [r.out,y];rfl
   have l:Hid (q=true->Zr D s n=false):=fun hqt=>by
    have A:Zr D s (j+1)=false:=by rw [u.out,hqt];rfl
    have g:∀ m,Zr D s (j+1+m)=false:=fun m=>by
     induction m with
     | zero=>exact A
     | succ m ih=>rw [<- Nat.add_assoc];simp only [Zr,ih];rfl
    have:=g (n-(j+1))
    rw [show j+1+(n-(j+1))=n from by omega] at this
    exact this
   cases q with
   | true =>
    go_wp2_with fail
    go_ret
    exact ⟨f.out,by rw [l.out trivial];rfl⟩
   | false =>
    go_wp2_with fail
    go_roundg (gk-1)
    case measure=>omega
    case rel=>exact ⟨j+1,by omega,by go_num,u.out,rfl⟩
  ·have k:j=n:=by omega
   subst k
   go_wp2_with fail
   go_ret
   exact ⟨f.out,by rw [r.out];rfl⟩
theorem Qo (o:Option Addr) (n c:Nat) (tl sc d:Int) (w:World) :
 Calls Tryz.prog 156 #[.agg #[O o n c,J Z tl,J Z sc],J Z d] w fun e w'=>Below w.heap.size w w'/\e=.returned (.agg #[O o n c,J Z tl,J Z (if sc<d then d else sc)]):=by
 by_cases a:sc<d
 ·rw [if_pos a]
  go_enter Tryz.func156,Tryz.ntmps156
  go_wp2_with fail
  exact bodyPost_ret (v:=.agg #[O o n c,J Z tl,J Z d]) (by simp [results,Tryz.results156,go_sem]) rfl ⟨((Below.refl _ _).alloc (Nat.le_refl _) _).alloc (by simp) _,rfl⟩
 ·rw [if_neg a]
  go_enter Tryz.func156,Tryz.ntmps156
  go_wp2_with fail
  exact bodyPost_ret (v:=.agg #[O o n c,J Z tl,J Z sc]) (by simp [results,Tryz.results156,go_sem]) rfl ⟨((Below.refl _ _).alloc (Nat.le_refl _) _).alloc (by simp) _,rfl⟩
theorem Jz (PB tg tn tc:Nat) (nm t:ByteArray) (v:Int) (k:Nat) (w:World) (hs:nm.size<=2001) (h0:w.cell? ⟨PB,0,none⟩=some (.string nm)) (h1:w.cell? ⟨PB,1,none⟩=some (O (some ⟨tg,0,none⟩) tn tc)) (hk:k<nm.size) (hkn:k<tn) (hkv:T.ch nm k=v) (hlt:∀ i,i<k->T.ch nm i≠v) (ht:w.cell? ⟨tg,k,none⟩=some (.string t)) :
 Calls Tryz.prog 152 #[.pointer (some ⟨PB,0,none⟩),J .u8 v] w fun e w'=>w'=w/\e=.returned (.string t):=by
 have g:Hid (∀ i,i<k->T.ch nm i≠v):=hlt
 clear hlt
 go_enter Tryz.func152,Tryz.ntmps152
 go_wp2_with fail
 go_loopg [5] k (fun q x wr=>∃ j:Nat,q+j=k/\x=J Z j/\wr=w)
 case atStart=>exact ⟨0,by omega,rfl,rfl⟩
 case round =>
  obtain ⟨j,m,rfl,rfl⟩:=hrel
  have b:j<nm.size:=by omega
  have l:(j:Int)<(nm.size:Int):=by omega
  have f:((nm[j]).toNat:Int)=T.ch nm j:=(T.ch_lt b).symm
  by_cases d:j=k
  ·subst d
   have h:(j:Int)<(tn:Int):=by omega
   rw [hkv] at f
   go_wp2_with fail
   go_ret
   exact ⟨rfl,rfl⟩
  ·have a:=g.out j (by omega)
   have n:(T.ch nm j==v)=false:=by simpa using a
   generalize T.ch nm j=z at *
   go_wp2_with fail
   go_roundg (gk-1)
   case measure=>omega
   case rel=>exact ⟨j+1,by omega,by go_num,rfl⟩
theorem jN (io:Nat) (L:List ByteArray) (ic:Nat) (V:Nat->Int) (w:World) (hL:L.length<=2001) (hi:∀ i x,L[i]?=some x->w.cell? ⟨io,i,none⟩=some (.string x)/\T.digs x/\x.size<=9/\T.val x x.size=V i) (hio:io<w.heap.size) :
 Calls Tryz.prog 150 #[O (some ⟨io,0,none⟩) L.length ic] w fun e w'=>Below w.heap.size w w'/\∃ v,e=.returned v/\w'.ownsRow w.heap.size 3 1 v (knK V L.length).length ((knK V L.length).map (J Z)):=by
 obtain ⟨m,N⟩:∃ m,L.length=m:=⟨_,rfl⟩
 have HM:Hid _:=N
 rw [N] at hL ⊢
 clear N
 have a2:Hid _:=hi
 clear hi
 obtain ⟨i0,S,I,H,G⟩:=info_parts Tryz.infoInt
 go_enter Tryz.func150,Tryz.ntmps150
 go_wp2_with fail
 go_loopg [3,4] m (fun n x y wr=>∃ (j:Nat),n+j=m/\y=J Z j/\wr.ownsRow w.heap.size 3 1 x (knK V j).length ((knK V j).map (J Z))/\Below w.heap.size w wr)
 case atStart=>exact ⟨0,by omega,rfl,⟨rfl,.inl ⟨rfl,rfl⟩⟩,Below.refl _ _⟩
 case round =>
  obtain ⟨j,hn,rfl,d,U⟩:=hrel
  have F:Hid (wr.ownsRow w.heap.size 3 1 u3 (knK V j).length ((knK V j).map (J Z))):=d
  have b:Hid _:=U
  have a6:=U.size
  clear d U
  by_cases P:j<m
  ·have a5:(j:Int)<(m:Int):=by omega
   obtain ⟨x,hx⟩:∃ x,L[j]?=some x:=⟨L[j]'(by rw [HM.out];exact P),List.getElem?_eq_getElem _⟩
   obtain ⟨c1,c2,c3,c4⟩:=a2.out j x hx
   have hv:wr.cell? ⟨io,j,none⟩=some (.string x):=(b.out.cell (p:=⟨io,j,none⟩) hio).trans c1
   have HD:Hid _:=c2
   have HV:Hid _:=c4
   obtain ⟨D,E,K⟩:∃ D E,u3=O D (knK V j).length E:=by
    rcases F.out.2 with ⟨h1,h2⟩ | ⟨g,l,cur,h1,_⟩
    ·exact ⟨none,0,by rw [h1,h2]⟩
    ·exact ⟨_,l,h1⟩
   subst K
   have HE:Hid (knK V (j+1)=knK V j++[V j]):=jV V j
   have B:Hid ((knK V j).length=j):=YI V j
   clear c1 c2 c4 hx
   go_wp2_with fail
   refine (Zn x _ (by omega)).mono ?_
   rintro e o ⟨h,v,rfl,q⟩
   have r:v=V j:=by rw [q HD.out c3,HV.out]
   clear q
   have C:Hid _:=b.out.trans (h.mono b.out.size)
   have A:Hid (o.ownsRow w.heap.size 3 1 (O D (knK V j).length E) (knK V j).length ((knK V j).map (J Z))):=Z6 F.out (fun g hg=>h.block g (F.out.lt g hg).2)
   have z:w.heap.size<=o.heap.size:=C.out.size
   clear h
   rw [<- r] at HE
   clear r
   have a0:Hid ((knK V j).length+1<=maxLen):=by show _<=_;have:=B.out;unfold maxLen;omega
   have Y:Hid (((knK V j).length+1)*8<=140737488355328):=by show _<=_;have:=B.out;omega
   have X:Hid (w.heap.size<=(o.alloc (Q #[J Z v] 3)).heap.size):=by show _<=_;simp;omega
   have s:Hid (∀ u∈[J Z v],u.oneCell'=true):=fun u hu=>by simp at hu;subst hu;rfl
   go_wp2_with (at_builtin;refine wpList_append_lies _ rfl _ _ 25 rfl w.heap.size 3 i0 _ 1 8 Tryz.underlying25 S I H G rfl (by decide) (O D (knK V j).length E) _ _ rfl (A.out.alloc _) ⟨o.heap.size,0,none⟩ 1 1 [J Z v] rfl rfl (World.news_of_block (cs:=#[J Z v]) (t:=3) (fr:=(0,0)) (heap_alloc_new o _)) s.out (Nat.lt_succ_self 0) a0.out Y.out X.out (o.heap.size+1) (by simp) ?_;intro g l w5 f a W a4)
   have a1:Hid (w5.ownsRow w.heap.size 3 1 (O (some ⟨g,0,none⟩) ((knK V j).length+1) l) (knK V (j+1)).length ((knK V (j+1)).map (J Z))):=by
    show World.ownsRow _ _ _ _ _ _ _
    rw [HE.out,List.length_append,List.map_append]
    exact f
   have a3:Hid (Below w.heap.size w w5):=(C.out.alloc z _).grown a (by simp;omega) (fun k hk=>(A.out.lt k hk).1)
   clear f a W
   go_roundg (gk-1)
   case measure=>omega
   case rel=>exact ⟨j+1,by omega,by go_num,a1.out,a3.out⟩
  ·have hd:¬ ((j:Int)<(m:Int)):=by omega
   have R:j=m:=by omega
   subst R
   go_wp2_with fail
   go_ret
   exact ⟨b.out,_,rfl,F.out⟩
def XO (D:Nat->Int) (dn:Nat) (V:Nat->Int):Nat->Int
 | 0=>-1
 | n+1=>if 0<=XO D dn V n then XO D dn V n else if Zr D (V n) dn=true then V n else -1
theorem zbL (a b d:Int) (ao po:Option Addr) (al ac pl pc:Nat) (o:Option Addr) (db off n c:Nat) (D:Nat->Int) (io:Nat) (L:List ByteArray) (ic:Nat) (V:Nat->Int) (w:World) (hn:n<=9223372036854775807) (h:IS w o db off n D) (hL:L.length<=2001) (hi:∀ i x,L[i]?=some x->w.cell? ⟨io,i,none⟩=some (.string x)/\T.digs x/\x.size<=9/\T.val x x.size=V i/\0<=V i) (hio:io<w.heap.size) :
 Calls Tryz.prog 154 #[.agg #[J Z a,J Z b,J Z d,O o n c,O ao al ac,O po pl pc],O (some ⟨io,0,none⟩) L.length ic] w fun e w'=>Below w.heap.size w w'/\e=.returned (J Z (XO D n V L.length)):=by
 obtain ⟨m,E⟩:∃ m,L.length=m:=⟨_,rfl⟩
 have HM:Hid _:=E
 rw [E] at hL ⊢
 clear E
 have K:Hid _:=hi
 clear hi
 have g:Hid (Below w.heap.size w (w.alloc (Q #[J Z a,J Z b,J Z d,O o n c,O ao al ac,O po pl pc] 31))):=(Below.refl _ _).alloc (Nat.le_refl _) _
 have H:Hid ((w.alloc (Q #[J Z a,J Z b,J Z d,O o n c,O ao al ac,O po pl pc] 31)).heap[w.heap.size]?=some (Q #[J Z a,J Z b,J Z d,O o n c,O ao al ac,O po pl pc] 31 (0,0))):=heap_alloc_new w _
 go_enter Tryz.func154,Tryz.ntmps154
 go_wp2_with fail
 have W:Hid (IS (w.alloc (Q #[J Z a,J Z b,J Z d,O o n c,O ao al ac,O po pl pc] 31)) o db off n D):=h.below g.out h.lt
 have S:Hid ((w.alloc (Q #[J Z a,J Z b,J Z d,O o n c,O ao al ac,O po pl pc] 31)).heap.size=w.heap.size+1):=by show _=_;simp
 generalize w.alloc (Q #[J Z a,J Z b,J Z d,O o n c,O ao al ac,O po pl pc] 31)=w1 at *
 clear h
 go_loopg [5] m (fun q x wr=>∃ j:Nat,q+j=m/\x=J Z j/\Hid (XO D n V j=-1)/\Hid (Below w1.heap.size w1 wr))
 case atStart=>exact ⟨0,by omega,rfl,rfl,Below.refl _ _⟩
 case round =>
  obtain ⟨j,hj,rfl,R,z⟩:=hrel
  by_cases F:j<m
  ·have P:(j:Int)<(m:Int):=by omega
   obtain ⟨x,N⟩:∃ x,L[j]?=some x:=⟨L[j]'(by rw [HM.out];exact F),List.getElem?_eq_getElem _⟩
   obtain ⟨c1,c2,c3,c4,X⟩:=K.out j x N
   have hv:wr.cell? ⟨io,j,none⟩=some (.string x):=by
    rw [z.out.cell (p:=⟨io,j,none⟩) (by rw [S.out];simp only;omega),g.out.cell (p:=⟨io,j,none⟩) hio];exact c1
   have HD:Hid _:=c2
   have Y:Hid _:=c4
   clear c1 c2 c4 N
   go_wp2_with fail
   refine (Zn x _ (by omega)).mono ?_
   rintro e l ⟨u,v,rfl,r⟩
   have B:v=V j:=by rw [r HD.out c3,Y.out]
   clear r
   subst B
   have k:Hid _:=z.out.trans (u.mono z.out.size)
   clear u
   have f:=(k.out.block w.heap.size (by rw [S.out];omega)).trans H.out
   have r0:l.cell? ⟨w.heap.size,0,none⟩=some (J Z a):=by simp [World.cell?,f]
   have r1:l.cell? ⟨w.heap.size,1,none⟩=some (J Z b):=by simp [World.cell?,f]
   have r2:l.cell? ⟨w.heap.size,2,none⟩=some (J Z d):=by simp [World.cell?,f]
   have r3:l.cell? ⟨w.heap.size,3,none⟩=some (O o n c):=by simp [World.cell?,f]
   have r4:l.cell? ⟨w.heap.size,4,none⟩=some (O ao al ac):=by simp [World.cell?,f]
   have r5:l.cell? ⟨w.heap.size,5,none⟩=some (O po pl pc):=by simp [World.cell?,f]
   clear f
   go_wp2_with fail
   refine (zb0 a b d ao po al ac pl pc o db off n c D _ l hn (W.out.below k.out W.out.lt)).mono ?_
   rintro e w3 ⟨s,rfl⟩
   have y:Hid _:=k.out.trans (s.mono k.out.size)
   clear s
   obtain ⟨q,C⟩:∃ q,Zr D (V j) n=q:=⟨_,rfl⟩
   have U:Hid (XO D n V (j+1)=if q=true then V j else -1):=by show _=_;simp only [XO];rw [R.out,C];rfl
   rw [C]
   clear C
   cases q with
   | true =>
    have I:Hid (XO D n V m=V j):=by
     show _=_
     have A:∀ i,XO D n V (j+1+i)=V j:=fun i=>by
      induction i with
      | zero=>exact U.out
      | succ i ih=>rw [<- Nat.add_assoc];simp only [XO,ih];rw [if_pos X]
     have:=A (m-(j+1))
     rw [show j+1+(m-(j+1))=m from by omega] at this
     exact this
    go_wp2_with fail
    go_ret
    exact ⟨g.out.trans (y.out.mono g.out.size),by rw [I.out];rfl⟩
   | false =>
    go_wp2_with fail
    go_roundg (gk-1)
    case measure=>omega
    case rel=>exact ⟨j+1,by omega,by go_num,U.out,y.out⟩
  ·have G:j=m:=by omega
   subst G
   go_wp2_with fail
   go_ret
   exact ⟨g.out.trans (z.out.mono g.out.size),by rw [R.out];rfl⟩
def slT (D:Nat->Int) (dn:Nat) (S:Nat->Int) (W:Nat->Nat):Nat->List Int
 | 0=>[]
 | n+1=>slT D dn S W n++(if Zr D (S n) dn=true then List.replicate (W n) (S n) else [])
theorem zad (D:Nat->Int) (dn:Nat) (S:Nat->Int) (W:Nat->Nat) (h:∀ i,W i<=1000):∀ n,(slT D dn S W n).length<=n*1000:=by
 intro n
 induction n with
 | zero=>simp [slT]
 | succ n ih =>
  have:=h n
  simp only [slT,List.length_append]
  split
  ·rw [List.length_replicate];omega
  ·rw [List.length_nil];omega
def jK (l:List Int) (d:Int):Int:=if l=[] then -1 else (l[(d%(l.length:Int)).toNat]?).getD 0
theorem zcr (a b d:Int) (ao po:Option Addr) (al ac pl pc:Nat) (o:Option Addr) (db off n c:Nat) (D:Nat->Int) (io:Nat) (L:List ByteArray) (ic:Nat) (S:Nat->Int) (W:Nat->Nat) (w:World) (hn:n<=9223372036854775807) (hd0:0<=d) (h:IS w o db off n D) (hL:L.length<=16) (hW:∀ i,W i<=1000) (hi:∀ i x,L[i]?=some x->w.cell? ⟨io,i,none⟩=some (.string x)/\x.size<=2000/\∃ xa xb,spl x 42=[xa,xb]/\T.digs xa/\xa.size<=9/\T.val xa xa.size=S i/\T.digs xb/\xb.size<=9/\T.val xb xb.size=(W i:Int)) (hio:io<w.heap.size) :
 Calls Tryz.prog 153 #[.agg #[J Z a,J Z b,J Z d,O o n c,O ao al ac,O po pl pc],O (some ⟨io,0,none⟩) L.length ic] w fun e w'=>Below w.heap.size w w'/\e=.returned (J Z (jK (slT D n S W L.length) d)):=by
 obtain ⟨m,hm⟩:∃ m,L.length=m:=⟨_,rfl⟩
 have HM:Hid _:=hm
 rw [hm] at hL ⊢
 clear hm
 have e3:Hid _:=hi
 clear hi
 obtain ⟨i0,d4,b9,b8,b7⟩:=info_parts Tryz.infoInt
 have N:Hid (Below w.heap.size w (w.alloc (Q #[J Z a,J Z b,J Z d,O o n c,O ao al ac,O po pl pc] 31))):=(Below.refl _ _).alloc (Nat.le_refl _) _
 have a8:Hid ((w.alloc (Q #[J Z a,J Z b,J Z d,O o n c,O ao al ac,O po pl pc] 31)).heap[w.heap.size]?=some (Q #[J Z a,J Z b,J Z d,O o n c,O ao al ac,O po pl pc] 31 (0,0))):=heap_alloc_new w _
 go_enter Tryz.func153,Tryz.ntmps153
 go_wp2_with fail
 have HI:Hid (IS (w.alloc (Q #[J Z a,J Z b,J Z d,O o n c,O ao al ac,O po pl pc] 31)) o db off n D):=h.below N.out h.lt
 have HS:Hid ((w.alloc (Q #[J Z a,J Z b,J Z d,O o n c,O ao al ac,O po pl pc] 31)).heap.size=w.heap.size+1):=by show _=_;simp
 generalize w.alloc (Q #[J Z a,J Z b,J Z d,O o n c,O ao al ac,O po pl pc] 31)=w1 at *
 clear h
 go_loopw [5,6] (fun x y wr=>∃ (j:Nat) (l:List Int),j<=m/\y=J Z j/\Hid (slT D n S W j=l)/\Hid (wr.ownsRow w1.heap.size 3 1 x l.length (l.map (J Z)))/\Hid (Below w1.heap.size w1 wr)) (fun _ y _=>m-(intOf y).toNat)
 case atStart=>exact ⟨0,[],by omega,rfl,rfl,⟨rfl,.inl ⟨rfl,rfl⟩⟩,Below.refl _ _⟩
 case round =>
  obtain ⟨j,l,hj,rfl,HU,HR,HB⟩:=hrel
  by_cases d0:j<m
  ·have e9:(j:Int)<(m:Int):=by omega
   obtain ⟨x,hx⟩:∃ x,L[j]?=some x:=⟨L[j]'(by rw [HM.out];exact d0),List.getElem?_eq_getElem _⟩
   obtain ⟨c1,c2,xa,xb,c3,c4,c5,c6,c7,c8,c9⟩:=e3.out j x hx
   have hv:wr.cell? ⟨io,j,none⟩=some (.string x):=by
    rw [HB.out.cell (p:=⟨io,j,none⟩) (by rw [HS.out];simp only;omega),N.out.cell (p:=⟨io,j,none⟩) hio];exact c1
   have HD:Hid (T.digs xa/\T.val xa xa.size=S j/\T.digs xb/\T.val xb xb.size=(W j:Int)):=⟨c4,c6,c7,c9⟩
   have d9:Hid _:=c3
   clear c1 c3 c4 c6 c7 c9 hx
   go_wp2_with fail
   refine (yT x 42 _ c2).mono ?_
   rintro e w2 ⟨a0,sv,rfl,s⟩
   rw [d9.out] at s
   obtain ⟨U,e5,rfl,e6,P⟩:=z8 s (by simp)
   have s0:w2.cell? ⟨U,0,none⟩=some (.string xa):=yf s (i:=0) rfl
   have s1:w2.cell? ⟨U,1,none⟩=some (.string xb):=yf s (i:=1) rfl
   have b6:Hid _:=HB.out.trans (a0.mono HB.out.size)
   have b2:Hid (w2.ownsRow w1.heap.size 3 1 u5 l.length (l.map (J Z))):=Z6 HR.out (fun g hg=>a0.block g (HR.out.lt g hg).2)
   clear a0 s
   simp only [List.length_cons,List.length_nil]
   go_wp2_with fail
   refine (Zn xa _ (by omega)).mono ?_
   rintro e F ⟨E,v,rfl,B⟩
   have V:v=S j:=by rw [B HD.out.1 c5,HD.out.2.1]
   clear B
   subst V
   have K:Hid _:=b6.out.trans (E.mono b6.out.size)
   have b1:Hid (F.ownsRow w1.heap.size 3 1 u5 l.length (l.map (J Z))):=Z6 b2.out (fun g hg=>E.block g (b2.out.lt g hg).2)
   have t1:F.cell? ⟨U,1,none⟩=some (.string xb):=(E.cell (p:=⟨U,1,none⟩) P).trans s1
   have a4:U<F.heap.size:=Nat.lt_of_lt_of_le P E.size
   clear E s0 s1
   have f:=(K.out.block w.heap.size (by rw [HS.out];omega)).trans a8.out
   have r0:F.cell? ⟨w.heap.size,0,none⟩=some (J Z a):=by simp [World.cell?,f]
   have r1:F.cell? ⟨w.heap.size,1,none⟩=some (J Z b):=by simp [World.cell?,f]
   have r2:F.cell? ⟨w.heap.size,2,none⟩=some (J Z d):=by simp [World.cell?,f]
   have r3:F.cell? ⟨w.heap.size,3,none⟩=some (O o n c):=by simp [World.cell?,f]
   have r4:F.cell? ⟨w.heap.size,4,none⟩=some (O ao al ac):=by simp [World.cell?,f]
   have r5:F.cell? ⟨w.heap.size,5,none⟩=some (O po pl pc):=by simp [World.cell?,f]
   clear f
   go_wp2_with fail
   refine (zb0 a b d ao po al ac pl pc o db off n c D _ F hn (HI.out.below K.out HI.out.lt)).mono ?_
   rintro e w4 ⟨I,rfl⟩
   have b5:Hid _:=K.out.trans (I.mono K.out.size)
   have b0:Hid (w4.ownsRow w1.heap.size 3 1 u5 l.length (l.map (J Z))):=Z6 b1.out (fun g hg=>I.block g (b1.out.lt g hg).2)
   have t2:w4.cell? ⟨U,1,none⟩=some (.string xb):=(I.cell (p:=⟨U,1,none⟩) a4).trans t1
   clear I r0 r1 r2 r3 r4 r5 t1
   obtain ⟨q,hq⟩:∃ q,Zr D (S j) n=q:=⟨_,rfl⟩
   have HQ:Hid (slT D n S W (j+1)=l++(if q=true then List.replicate (W j) (S j) else [])):=by show _=_;simp only [slT];rw [HU.out,hq]
   rw [hq]
   clear hq
   go_wp2_with fail
   refine (Zn xb _ (by omega)).mono ?_
   rintro e w5 ⟨Y,v,rfl,B⟩
   have V:v=(W j:Int):=by rw [B HD.out.2.2.1 c8,HD.out.2.2.2]
   clear B
   subst V
   have b4:Hid _:=b5.out.trans (Y.mono b5.out.size)
   have a9:Hid (w5.ownsRow w1.heap.size 3 1 u5 l.length (l.map (J Z))):=Z6 b0.out (fun g hg=>Y.block g (b0.out.lt g hg).2)
   clear Y t2
   have d1:l.length<=j*1000:=by rw [<- HU.out];exact zad D n S W hW j
   have f6:=hW j
   generalize hwj:W j=wj at *
   clear hwj
   go_wp2_with fail
   cases q with
   | false =>
    go_loopw [5,10] (fun x y wq=>Hid (wq.ownsRow w1.heap.size 3 1 x l.length (l.map (J Z)))/\y=J Z (wj:Int)/\wq=w5) (fun _ _ _=>0)
    case atStart=>exact ⟨a9,rfl,rfl⟩
    case round =>
     obtain ⟨z,rfl,rfl⟩:=hrel
     have a2:Hid (slT D n S W (j+1)=l):=by show _=_;rw [HQ.out];simp
     clear HQ
     by_cases f1:(0:Int)<(wj:Int)
     all_goals
      go_wp2_with fail
      go_roundw
      case rel=>exact ⟨j+1,l,by omega,by go_num,a2,z,b4⟩
      case measure=>simp [intOf];omega
   | true =>
    go_loopw [5,10] (fun x y wq=>∃ (i:Nat),i<=wj/\y=J Z ((wj-i:Nat):Int)/\Hid (wq.ownsRow w1.heap.size 3 1 x (l++List.replicate i (S j)).length ((l++List.replicate i (S j)).map (J Z)))/\Hid (Below w1.heap.size w1 wq)) (fun _ y _=>(intOf y).toNat)
    case atStart =>
     refine ⟨0,by omega,rfl,?_,b4⟩
     have:=a9.out
     rw [<- List.append_nil l] at this
     exact this
    case round =>
     obtain ⟨i,hi,rfl,z,a3⟩:=hrel
     have HE:Hid (l++List.replicate (i+1) (S j)=(l++List.replicate i (S j))++[S j]):=by show _=_;rw [List.replicate_succ',List.append_assoc]
     have a1:Hid ((l++List.replicate i (S j)).length=l.length+i):=by show _=_;simp
     obtain ⟨r,hr⟩:∃ r,l++List.replicate i (S j)=r:=⟨_,rfl⟩
     rw [hr] at z HE a1
     have e1:Hid _:=hr
     clear hr
     by_cases f5:i<wj
     ·obtain ⟨ko,kc,X⟩:∃ ko kc,u5=O ko r.length kc:=by
       rcases z.out.2 with ⟨h1,h2⟩ | ⟨g,A,cur,h1,_⟩
       ·exact ⟨none,0,by rw [h1,h2]⟩
       ·exact ⟨_,A,h1⟩
      subst X
      obtain ⟨k,H⟩:∃ k,wj-i=k:=⟨_,rfl⟩
      have HK:Hid _:=H
      have f4:(0:Int)<(k:Int):=by omega
      have f3:(k:Int)<=1000:=by omega
      rw [H]
      clear H
      have a7:w1.heap.size<=wr.heap.size:=a3.out.size
      have d8:Hid (r.length+1<=maxLen):=by show _<=_;have:=a1.out;unfold maxLen;omega
      have d7:Hid ((r.length+1)*8<=140737488355328):=by show _<=_;have:=a1.out;omega
      generalize hsj:S j=sj at *
      have d6:Hid (w1.heap.size<=(wr.alloc (Q #[J Z sj] 3)).heap.size):=by show _<=_;simp;omega
      have a5:Hid (∀ u∈[J Z sj],u.oneCell'=true):=fun u hu=>by simp at hu;subst hu;rfl
      go_wp2_with (at_builtin;refine wpList_append_lies _ rfl _ _ 25 rfl w1.heap.size 3 i0 _ 1 8 Tryz.underlying25 d4 b9 b8 b7 rfl (by decide) (O ko r.length kc) _ _ rfl (z.out.alloc _) ⟨wr.heap.size,0,none⟩ 1 1 [J Z sj] rfl rfl (World.news_of_block (cs:=#[J Z sj]) (t:=3) (fr:=(0,0)) (heap_alloc_new wr _)) a5.out (Nat.lt_succ_self 0) d8.out d7.out d6.out (wr.heap.size+1) (by simp) ?_;intro g A w6 R C d5 e8)
      have e2:Hid (w6.ownsRow w1.heap.size 3 1 (O (some ⟨g,0,none⟩) (r.length+1) A) (l++List.replicate (i+1) sj).length ((l++List.replicate (i+1) sj).map (J Z))):=by
       show World.ownsRow _ _ _ _ _ _ _
       rw [HE.out,List.length_append,List.map_append]
       exact R
      have e4:Hid (Below w1.heap.size w1 w6):=(a3.out.alloc a7 _).grown C (by simp;omega) (fun k H=>(z.out.lt k H).1)
      clear R C d5
      go_roundw
      case rel=>exact ⟨i+1,by omega,by have:=HK.out;rw [show wj-(i+1)=k-1 from by omega];go_num,e2,e4⟩
      case measure=>simp [intOf];omega
     ·have d3:i=wj:=by omega
      subst d3
      rw [Nat.sub_self]
      have a2:Hid (slT D n S W (j+1)=r):=by show _=_;rw [HQ.out,if_pos rfl,e1.out]
      clear HQ
      go_wp2_with fail
      go_roundw
      case rel=>exact ⟨j+1,r,by omega,by go_num,a2,z,a3⟩
      case measure=>simp [intOf];omega
  ·have d2:j=m:=by omega
   subst d2
   have b3:Hid (Below w.heap.size w wr):=N.out.trans (HB.out.mono N.out.size)
   have f:=(HB.out.block w.heap.size (by rw [HS.out];omega)).trans a8.out
   have r2:wr.cell? ⟨w.heap.size,2,none⟩=some (J Z d):=by simp [World.cell?,f]
   clear f
   by_cases G:l=[]
   ·subst G
    obtain ⟨ko,kc,X⟩:∃ ko kc,u5=O ko 0 kc:=by
     rcases HR.out.2 with ⟨h1,h2⟩ | ⟨g,A,cur,h1,_⟩
     ·exact ⟨none,0,h1⟩
     ·exact ⟨_,A,h1⟩
    subst X
    go_wp2_with fail
    go_ret
    exact ⟨b3.out,by rw [HU.out];rfl⟩
   ·have f2:0<l.length:=List.length_pos_iff.2 G
    rcases HR.out.2 with ⟨h1,h2⟩ | ⟨g,A,cur,h1,h2,h3,_⟩
    ·omega
    ·subst h1
     obtain ⟨k,H⟩:∃ k:Nat,d%(l.length:Int)=(k:Int):=⟨(d%(l.length:Int)).toNat,by rw [Int.toNat_of_nonneg (Int.emod_nonneg _ (by omega))]⟩
     have a6:k<l.length:=by have:=Int.emod_lt_of_pos d (show (0:Int)<(l.length:Int) by omega);omega
     have ck:wr.cell? ⟨g,k,none⟩=some (J Z l[k]):=by
      rw [World.ownsRow.cellAt HR.out k (by omega)]
      simp [a6]
     have HP:Hid (jK l d=l[k]):=by show _=_;unfold jK;rw [if_neg G,H,Int.toNat_natCast,List.getElem?_eq_getElem a6];rfl
     have e7:d.tmod (l.length:Int)=(k:Int):=by rw [Int.tmod_eq_emod_of_nonneg hd0];exact H
     have d1:l.length<=j*1000:=by rw [<- HU.out];exact zad D n S W hW j
     generalize l[k]=lk at *
     generalize hln:l.length=ln at *
     have e0:((ln:Int)==0)=false:=by simp;omega
     have f0:(k:Int)<(ln:Int):=by omega
     clear H G h2 h3 HR hln
     go_wp2_with fail
     go_ret
     exact ⟨b3.out,by rw [HU.out,HP.out];rfl⟩
end Go.Proofs.YtaebngpoagjafabGreat
