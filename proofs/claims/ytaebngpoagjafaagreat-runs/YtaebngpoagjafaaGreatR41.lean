import Derived.Test.YtaebngpoagjafaaGreatR33
import Derived.Test.YtaebngpoagjafaaGreatR18
set_option maxRecDepth 100000
set_option maxHeartbeats 800000
namespace Go.Proofs.YtaebngpoagjafaaGreat
open Obj renaming cells → Q
open Value renaming int → J, slice → O
open IntKind renaming i64 → Z
open Go.RowKit
attribute [local go_sem ↓] Go.wp_at_zero Go.wp_at_succ
def ZR (D:Nat->Int) (s:Int):Nat->Bool
 | 0=>true
 | n+1=>ZR D s n && !(D n==s)
theorem zbB (a b d:Int) (ao po:Option Addr) (al ac pl pc:Nat) (o:Option Addr) (db off n c:Nat) (D:Nat->Int) (s:Int) (w:World) (hn:n<=9223372036854775807) (h:IS w o db off n D) :
 Calls Tryz.prog 181 #[.agg #[J Z a,J Z b,J Z d,O o n c,O ao al ac,O po pl pc],J Z s] w fun e w'=>Below w.heap.size w w'/\e=.returned (.bool (ZR D s n)):=by
 have HB0:Hid (Below w.heap.size w (w.alloc (Q #[J Z a,J Z b,J Z d,O o n c,O ao al ac,O po pl pc] 30))):=(Below.refl _ _).alloc (Nat.le_refl _) _
 go_enter Tryz.func181,Tryz.ntmps181
 go_wp2_with fail
 have hc3:(w.alloc (Q #[J Z a,J Z b,J Z d,O o n c,O ao al ac,O po pl pc] 30)).cell? ⟨w.heap.size,3,none⟩=some (O o n c):=by simp
 have HI:Hid (IS (w.alloc (Q #[J Z a,J Z b,J Z d,O o n c,O ao al ac,O po pl pc] 30)) o db off n D):=h.below HB0.out h.lt
 generalize w.alloc (Q #[J Z a,J Z b,J Z d,O o n c,O ao al ac,O po pl pc] 30)=w1 at *
 clear h
 go_loopg [5] n (fun q x wr=>∃ j:Nat,q+j=n/\x=J Z j/\Hid (ZR D s j=true)/\wr=w1)
 case atStart=>exact ⟨0,by omega,rfl,rfl,rfl⟩
 case round =>
  obtain ⟨j,hj,rfl,HU,rfl⟩:=hrel
  by_cases hlt:j<n
  ·obtain rfl:=HI.out.at_ (by omega)
   have hv:=HI.out.val j hlt
   have hlt':(j:Int)<(n:Int):=by omega
   obtain ⟨q,hq⟩:∃ q,(D j==s)=q:=⟨_,rfl⟩
   have HQ:Hid (ZR D s (j+1)=!q):=by show _=_;simp only [ZR];rw [HU.out,hq];rfl
   have HQ2:Hid (q=true->ZR D s n=false):=fun hqt=>by
    have h1:ZR D s (j+1)=false:=by rw [HQ.out,hqt];rfl
    have key:∀ m,ZR D s (j+1+m)=false:=fun m=>by
     induction m with
     | zero=>exact h1
     | succ m ih=>rw [<- Nat.add_assoc];simp only [ZR,ih];rfl
    have:=key (n-(j+1))
    rw [show j+1+(n-(j+1))=n from by omega] at this
    exact this
   cases q with
   | true =>
    go_wp2_with fail
    go_ret
    exact ⟨HB0.out,by rw [HQ2.out trivial];rfl⟩
   | false =>
    go_wp2_with fail
    go_roundg (gk-1)
    case measure=>omega
    case rel=>exact ⟨j+1,by omega,by go_num,HQ.out,rfl⟩
  ·have hjn:j=n:=by omega
   subst hjn
   go_wp2_with fail
   go_ret
   exact ⟨HB0.out,by rw [HU.out];rfl⟩
theorem Qi (o:Option Addr) (n c:Nat) (tl sc d:Int) (w:World) :
 Calls Tryz.prog 169 #[.agg #[O o n c,J Z tl,J Z sc],J Z d] w fun e w'=>Below w.heap.size w w'/\e=.returned (.agg #[O o n c,J Z tl,J Z (if sc<d then d else sc)]):=by
 by_cases hd:sc<d
 ·rw [if_pos hd]
  go_enter Tryz.func169,Tryz.ntmps169
  go_wp2_with fail
  exact bodyPost_ret (v:=.agg #[O o n c,J Z tl,J Z d]) (by simp [results,Tryz.results169,go_sem]) rfl ⟨((Below.refl _ _).alloc (Nat.le_refl _) _).alloc (by simp) _,rfl⟩
 ·rw [if_neg hd]
  go_enter Tryz.func169,Tryz.ntmps169
  go_wp2_with fail
  exact bodyPost_ret (v:=.agg #[O o n c,J Z tl,J Z sc]) (by simp [results,Tryz.results169,go_sem]) rfl ⟨((Below.refl _ _).alloc (Nat.le_refl _) _).alloc (by simp) _,rfl⟩
def XV (D:Nat->Int) (dn:Nat) (V:Nat->Int):Nat->Int
 | 0=>-1
 | n+1=>if 0<=XV D dn V n then XV D dn V n else if ZR D (V n) dn=true then V n else -1
theorem zbl (a b d:Int) (ao po:Option Addr) (al ac pl pc:Nat) (o:Option Addr) (db off n c:Nat) (D:Nat->Int) (io:Nat) (L:List ByteArray) (ic:Nat) (V:Nat->Int) (w:World) (hn:n<=9223372036854775807) (h:IS w o db off n D) (hL:L.length<=2001) (hi:∀ i x,L[i]?=some x->w.cell? ⟨io,i,none⟩=some (.string x)/\T.digs x/\x.size<=9/\T.val x x.size=V i/\0<=V i) (hio:io<w.heap.size) :
 Calls Tryz.prog 167 #[.agg #[J Z a,J Z b,J Z d,O o n c,O ao al ac,O po pl pc],O (some ⟨io,0,none⟩) L.length ic] w fun e w'=>Below w.heap.size w w'/\e=.returned (J Z (XV D n V L.length)):=by
 obtain ⟨m,hm⟩:∃ m,L.length=m:=⟨_,rfl⟩
 have HM:Hid _:=hm
 rw [hm] at hL ⊢
 clear hm
 have HI0:Hid _:=hi
 clear hi
 have HB0:Hid (Below w.heap.size w (w.alloc (Q #[J Z a,J Z b,J Z d,O o n c,O ao al ac,O po pl pc] 30))):=(Below.refl _ _).alloc (Nat.le_refl _) _
 have HX0:Hid ((w.alloc (Q #[J Z a,J Z b,J Z d,O o n c,O ao al ac,O po pl pc] 30)).heap[w.heap.size]?=some (Q #[J Z a,J Z b,J Z d,O o n c,O ao al ac,O po pl pc] 30 (0,0))):=heap_alloc_new w _
 go_enter Tryz.func167,Tryz.ntmps167
 go_wp2_with fail
 have HI:Hid (IS (w.alloc (Q #[J Z a,J Z b,J Z d,O o n c,O ao al ac,O po pl pc] 30)) o db off n D):=h.below HB0.out h.lt
 have HS:Hid ((w.alloc (Q #[J Z a,J Z b,J Z d,O o n c,O ao al ac,O po pl pc] 30)).heap.size=w.heap.size+1):=by show _=_;simp
 generalize w.alloc (Q #[J Z a,J Z b,J Z d,O o n c,O ao al ac,O po pl pc] 30)=w1 at *
 clear h
 go_loopg [5] m (fun q x wr=>∃ j:Nat,q+j=m/\x=J Z j/\Hid (XV D n V j=-1)/\Hid (Below w1.heap.size w1 wr))
 case atStart=>exact ⟨0,by omega,rfl,rfl,Below.refl _ _⟩
 case round =>
  obtain ⟨j,hj,rfl,HU,HB⟩:=hrel
  by_cases hlt:j<m
  ·have hlt':(j:Int)<(m:Int):=by omega
   obtain ⟨x,hx⟩:∃ x,L[j]?=some x:=⟨L[j]'(by rw [HM.out];exact hlt),List.getElem?_eq_getElem _⟩
   obtain ⟨c1,c2,c3,c4,c5⟩:=HI0.out j x hx
   have hv:wr.cell? ⟨io,j,none⟩=some (.string x):=by
    rw [HB.out.cell (p:=⟨io,j,none⟩) (by rw [HS.out];simp only;omega),HB0.out.cell (p:=⟨io,j,none⟩) hio];exact c1
   have HD:Hid _:=c2
   have HV:Hid _:=c4
   clear c1 c2 c4 hx
   go_wp2_with fail
   refine (Zq x _ (by omega)).mono ?_
   rintro e w2 ⟨hb2,v,rfl,hvv⟩
   have hve:v=V j:=by rw [hvv HD.out c3,HV.out]
   clear hvv
   subst hve
   have HB2:Hid _:=HB.out.trans (hb2.mono HB.out.size)
   clear hb2
   have hx1:=(HB2.out.block w.heap.size (by rw [HS.out];omega)).trans HX0.out
   have r0:w2.cell? ⟨w.heap.size,0,none⟩=some (J Z a):=by simp [World.cell?,hx1]
   have r1:w2.cell? ⟨w.heap.size,1,none⟩=some (J Z b):=by simp [World.cell?,hx1]
   have r2:w2.cell? ⟨w.heap.size,2,none⟩=some (J Z d):=by simp [World.cell?,hx1]
   have r3:w2.cell? ⟨w.heap.size,3,none⟩=some (O o n c):=by simp [World.cell?,hx1]
   have r4:w2.cell? ⟨w.heap.size,4,none⟩=some (O ao al ac):=by simp [World.cell?,hx1]
   have r5:w2.cell? ⟨w.heap.size,5,none⟩=some (O po pl pc):=by simp [World.cell?,hx1]
   clear hx1
   go_wp2_with fail
   refine (zbB a b d ao po al ac pl pc o db off n c D _ w2 hn (HI.out.below HB2.out HI.out.lt)).mono ?_
   rintro e w3 ⟨hb3,rfl⟩
   have HB3:Hid _:=HB2.out.trans (hb3.mono HB2.out.size)
   clear hb3
   obtain ⟨q,hq⟩:∃ q,ZR D (V j) n=q:=⟨_,rfl⟩
   have HQ:Hid (XV D n V (j+1)=if q=true then V j else -1):=by show _=_;simp only [XV];rw [HU.out,hq];rfl
   rw [hq]
   clear hq
   cases q with
   | true =>
    have HQ2:Hid (XV D n V m=V j):=by
     show _=_
     have key:∀ i,XV D n V (j+1+i)=V j:=fun i=>by
      induction i with
      | zero=>exact HQ.out
      | succ i ih=>rw [<- Nat.add_assoc];simp only [XV,ih];rw [if_pos c5]
     have:=key (m-(j+1))
     rw [show j+1+(m-(j+1))=m from by omega] at this
     exact this
    go_wp2_with fail
    go_ret
    exact ⟨HB0.out.trans (HB3.out.mono HB0.out.size),by rw [HQ2.out];rfl⟩
   | false =>
    go_wp2_with fail
    go_roundg (gk-1)
    case measure=>omega
    case rel=>exact ⟨j+1,by omega,by go_num,HQ.out,HB3.out⟩
  ·have hjn:j=m:=by omega
   subst hjn
   go_wp2_with fail
   go_ret
   exact ⟨HB0.out.trans (HB.out.mono HB0.out.size),by rw [HU.out];rfl⟩
theorem jD (io:Nat) (L:List ByteArray) (ic:Nat) (V:Nat->Int) (w:World) (hL:L.length<=2001) (hi:∀ i x,L[i]?=some x->w.cell? ⟨io,i,none⟩=some (.string x)/\T.digs x/\x.size<=9/\T.val x x.size=V i) (hio:io<w.heap.size) :
 Calls Tryz.prog 163 #[O (some ⟨io,0,none⟩) L.length ic] w fun e w'=>Below w.heap.size w w'/\∃ v,e=.returned v/\w'.ownsRow w.heap.size 3 1 v (knK V L.length).length ((knK V L.length).map (J Z)):=by
 obtain ⟨m,hm⟩:∃ m,L.length=m:=⟨_,rfl⟩
 have HM:Hid _:=hm
 rw [hm] at hL ⊢
 clear hm
 have HI0:Hid _:=hi
 clear hi
 obtain ⟨i0,hi0,hz0,hz1,hz2⟩:=info_parts Tryz.infoInt
 go_enter Tryz.func163,Tryz.ntmps163
 go_wp2_with fail
 go_loopg [3,4] m (fun n x y wr=>∃ (j:Nat),n+j=m/\y=J Z j/\wr.ownsRow w.heap.size 3 1 x (knK V j).length ((knK V j).map (J Z))/\Below w.heap.size w wr)
 case atStart=>exact ⟨0,by omega,rfl,⟨rfl,.inl ⟨rfl,rfl⟩⟩,Below.refl _ _⟩
 case round =>
  obtain ⟨j,hn,rfl,hrow,hb⟩:=hrel
  have HR:Hid (wr.ownsRow w.heap.size 3 1 u3 (knK V j).length ((knK V j).map (J Z))):=hrow
  have HBr:Hid _:=hb
  have hbs:=hb.size
  clear hrow hb
  by_cases hlt:j<m
  ·have hj1:(j:Int)<(m:Int):=by omega
   obtain ⟨x,hx⟩:∃ x,L[j]?=some x:=⟨L[j]'(by rw [HM.out];exact hlt),List.getElem?_eq_getElem _⟩
   obtain ⟨c1,c2,c3,c4⟩:=HI0.out j x hx
   have hv:wr.cell? ⟨io,j,none⟩=some (.string x):=(HBr.out.cell (p:=⟨io,j,none⟩) hio).trans c1
   have HD:Hid _:=c2
   have HV:Hid _:=c4
   obtain ⟨ko,kc,hu7⟩:∃ ko kc,u3=O ko (knK V j).length kc:=by
    rcases HR.out.2 with ⟨h1,h2⟩ | ⟨g,cap,cur,h1,_⟩
    ·exact ⟨none,0,by rw [h1,h2]⟩
    ·exact ⟨_,cap,h1⟩
   subst hu7
   have HE:Hid (knK V (j+1)=knK V j++[V j]):=jL V j
   have HKL:Hid ((knK V j).length=j):=YI V j
   clear c1 c2 c4 hx
   go_wp2_with fail
   refine (Zq x _ (by omega)).mono ?_
   rintro e w4 ⟨hb4,v,rfl,hvv⟩
   have hve:v=V j:=by rw [hvv HD.out c3,HV.out]
   clear hvv
   have HB4:Hid _:=HBr.out.trans (hb4.mono HBr.out.size)
   have HR4:Hid (w4.ownsRow w.heap.size 3 1 (O ko (knK V j).length kc) (knK V j).length ((knK V j).map (J Z))):=Z3 HR.out (fun g hg=>hb4.block g (HR.out.lt g hg).2)
   have hbs4:w.heap.size<=w4.heap.size:=HB4.out.size
   clear hb4
   rw [<- hve] at HE
   clear hve
   have hA1:Hid ((knK V j).length+1<=maxLen):=by show _<=_;have:=HKL.out;unfold maxLen;omega
   have hA2:Hid (((knK V j).length+1)*8<=140737488355328):=by show _<=_;have:=HKL.out;omega
   have hA3:Hid (w.heap.size<=(w4.alloc (Q #[J Z v] 3)).heap.size):=by show _<=_;simp;omega
   have hone:Hid (∀ u∈[J Z v],u.oneCell'=true):=fun u hu=>by simp at hu;subst hu;rfl
   go_wp2_with (at_builtin;refine wpList_append_lies _ rfl _ _ 25 rfl w.heap.size 3 i0 _ 1 8 Tryz.underlying25 hi0 hz0 hz1 hz2 rfl (by decide) (O ko (knK V j).length kc) _ _ rfl (HR4.out.alloc _) ⟨w4.heap.size,0,none⟩ 1 1 [J Z v] rfl rfl (World.news_of_block (cs:=#[J Z v]) (t:=3) (fr:=(0,0)) (heap_alloc_new w4 _)) hone.out (Nat.lt_succ_self 0) hA1.out hA2.out hA3.out (w4.heap.size+1) (by simp) ?_;intro g cap w5 hown hgrow hat hlt5)
   have HR5:Hid (w5.ownsRow w.heap.size 3 1 (O (some ⟨g,0,none⟩) ((knK V j).length+1) cap) (knK V (j+1)).length ((knK V (j+1)).map (J Z))):=by
    show World.ownsRow _ _ _ _ _ _ _
    rw [HE.out,List.length_append,List.map_append]
    exact hown
   have HB5:Hid (Below w.heap.size w w5):=(HB4.out.alloc hbs4 _).grown hgrow (by simp;omega) (fun k hk=>(HR4.out.lt k hk).1)
   clear hown hgrow hat
   go_roundg (gk-1)
   case measure=>omega
   case rel=>exact ⟨j+1,by omega,by go_num,HR5.out,HB5.out⟩
  ·have hd:¬ ((j:Int)<(m:Int)):=by omega
   have hje:j=m:=by omega
   subst hje
   go_wp2_with fail
   go_ret
   exact ⟨HBr.out,_,rfl,HR.out⟩
def pfV (s:ByteArray):Nat->Int
 | 0=>0
 | n+1=>pfV s n*2+(if n<s.size/\T.ch s n=49 then 1 else 0)
theorem zeE (s:ByteArray):∀ n,0<=pfV s n/\pfV s n<2 ^ n:=by
 intro n
 induction n with
 | zero=>exact ⟨Int.le_refl _,by simp [pfV]⟩
 | succ n ih =>
  simp only [pfV]
  rw [Int.pow_succ]
  split<;>omega
theorem QW (s:ByteArray) (w:World) (hs:s.size<=2000) :
 Calls Tryz.prog 182 #[.string s] w fun e w'=>Below w.heap.size w w'/\e=.returned (.agg #[J Z (pfV s 32),J Z (s.size:Int)]):=by
 go_enter Tryz.func182,Tryz.ntmps182
 go_wp2_with fail
 have h1':(s.size:Int)<=2000:=by omega
 go_loopg [3,4] 32 (fun q x y wr=>∃ (j:Nat) (v:Int),q+j=32/\x=J Z v/\y=J Z j/\Hid (pfV s j=v)/\wr=w.alloc (Q #[J Z 0,J Z 0] 99))
 case atStart=>exact ⟨0,0,by omega,rfl,rfl,rfl,rfl⟩
 case round =>
  obtain ⟨j,v,hj,rfl,rfl,HV,rfl⟩:=hrel
  by_cases hlt:j<32
  ·have hlt':(j:Int)<32:=by omega
   have hbd:=zeE s j
   rw [HV.out] at hbd
   have hp:(2:Int) ^ j<=2 ^ 32:=by
    have h1:(2:Nat) ^ j<=2 ^ 32:=Nat.pow_le_pow_right (by omega) (by omega)
    exact_mod_cast h1
   have hv0:0<=v:=hbd.1
   have hv1 : v < 4294967296 := by have h9 : (2 : Int) ^ 32 = 4294967296 := by decide
                                   omega
   clear hbd hp
   by_cases hl:j<s.size
   ·have hl':(j:Int)<(s.size:Int):=by omega
    obtain ⟨ch,hc0⟩:∃ c,T.ch s j=c:=⟨_,rfl⟩
    have hch:((s[j]).toNat:Int)=ch:=by rw [<- hc0];exact (T.ch_lt hl).symm
    by_cases h49:ch=49
    ·subst h49
     have HN:Hid (pfV s (j+1)=v*2+1):=by show _=_;simp only [pfV];rw [HV.out,if_pos ⟨hl,hc0⟩]
     clear hc0
     go_wp2_with fail
     go_roundg (gk-1)
     case measure=>omega
     case rel=>exact ⟨j+1,v*2+1,by omega,by go_num,by go_num,HN.out,rfl⟩
    ·have e49:(ch==49)=false:=by simpa using h49
     have HN:Hid (pfV s (j+1)=v*2):=by show _=_;simp only [pfV];rw [HV.out,if_neg (by rw [hc0];omega)];omega
     clear hc0
     go_wp2_with fail
     go_roundg (gk-1)
     case measure=>omega
     case rel=>exact ⟨j+1,v*2,by omega,by go_num,by go_num,HN.out,rfl⟩
   ·have hl':decide ((j:Int)<(s.size:Int))=false:=decide_eq_false (by omega)
    have HN:Hid (pfV s (j+1)=v*2):=by show _=_;simp only [pfV];rw [HV.out,if_neg (by omega)];omega
    go_wp2_with fail
    go_roundg (gk-1)
    case measure=>omega
    case rel=>exact ⟨j+1,v*2,by omega,by go_num,by go_num,HN.out,rfl⟩
  ·have hje:j=32:=by omega
   subst hje
   go_wp2_with fail
   exact bodyPost_ret (v:=.agg #[J Z v,J Z (s.size:Int)]) (by simp [results,Tryz.results182,go_sem]) rfl ⟨(Below.refl _ _).alloc (Nat.le_refl _) _,by rw [HV.out]⟩
theorem QG (s:Int) (w:World) :
 Calls Tryz.prog 171 #[J Z s] w fun e w'=>Below w.heap.size w w'/\∃ g,e=.returned (.agg #[O (some ⟨g,0,none⟩) 1 1,J Z 86400,J Z 0])/\w.heap.size<=g/\w'.cell? ⟨g,0,none⟩=some (J Z s):=by
 go_enter Tryz.func171,Tryz.ntmps171
 go_wp2_with fail
 exact bodyPost_ret (v:=.agg #[O (some ⟨w.heap.size+1,0,none⟩) 1 1,J Z 86400,J Z 0]) (by simp [results,Tryz.results171,go_sem]) rfl ⟨((Below.refl _ _).alloc (Nat.le_refl _) _).alloc (by simp) _,_,rfl,by omega,by have h:=heap_alloc_new (w.alloc (Q #[O (some ⟨w.heap.size+1,0,none⟩) 1 1,J Z 86400,J Z 0] 35)) (Q #[J Z s] 3 (0,0));rw [show (w.alloc (Q #[O (some ⟨w.heap.size+1,0,none⟩) 1 1,J Z 86400,J Z 0] 35)).heap.size=w.heap.size+1 from by simp] at h;simp only [World.cell?,h];rfl⟩
def slT (D:Nat->Int) (dn:Nat) (S:Nat->Int) (W:Nat->Nat):Nat->List Int
 | 0=>[]
 | n+1=>slT D dn S W n++(if ZR D (S n) dn=true then List.replicate (W n) (S n) else [])
theorem J1 (D:Nat->Int) (dn:Nat) (S:Nat->Int) (W:Nat->Nat) (h:∀ i,W i<=1000):∀ n,(slT D dn S W n).length<=n*1000:=by
 intro n
 induction n with
 | zero=>simp [slT]
 | succ n ih =>
  have:=h n
  simp only [slT,List.length_append]
  split
  ·rw [List.length_replicate];omega
  ·rw [List.length_nil];omega
def jz (l:List Int) (d:Int):Int:=if l=[] then -1 else (l[(d%(l.length:Int)).toNat]?).getD 0
theorem zbY (a b d:Int) (ao po:Option Addr) (al ac pl pc:Nat) (o:Option Addr) (db off n c:Nat) (D:Nat->Int) (io:Nat) (L:List ByteArray) (ic:Nat) (S:Nat->Int) (W:Nat->Nat) (w:World) (hn:n<=9223372036854775807) (hd0:0<=d) (h:IS w o db off n D) (hL:L.length<=16) (hW:∀ i,W i<=1000) (hi:∀ i x,L[i]?=some x->w.cell? ⟨io,i,none⟩=some (.string x)/\x.size<=2000/\∃ xa xb,spl x 42=[xa,xb]/\T.digs xa/\xa.size<=9/\T.val xa xa.size=S i/\T.digs xb/\xb.size<=9/\T.val xb xb.size=(W i:Int)) (hio:io<w.heap.size) :
 Calls Tryz.prog 166 #[.agg #[J Z a,J Z b,J Z d,O o n c,O ao al ac,O po pl pc],O (some ⟨io,0,none⟩) L.length ic] w fun e w'=>Below w.heap.size w w'/\e=.returned (J Z (jz (slT D n S W L.length) d)):=by
 obtain ⟨m,hm⟩:∃ m,L.length=m:=⟨_,rfl⟩
 have HM:Hid _:=hm
 rw [hm] at hL ⊢
 clear hm
 have HI0:Hid _:=hi
 clear hi
 obtain ⟨i0,hi0,hz0,hz1,hz2⟩:=info_parts Tryz.infoInt
 have HB0:Hid (Below w.heap.size w (w.alloc (Q #[J Z a,J Z b,J Z d,O o n c,O ao al ac,O po pl pc] 30))):=(Below.refl _ _).alloc (Nat.le_refl _) _
 have HX0:Hid ((w.alloc (Q #[J Z a,J Z b,J Z d,O o n c,O ao al ac,O po pl pc] 30)).heap[w.heap.size]?=some (Q #[J Z a,J Z b,J Z d,O o n c,O ao al ac,O po pl pc] 30 (0,0))):=heap_alloc_new w _
 go_enter Tryz.func166,Tryz.ntmps166
 go_wp2_with fail
 have HI:Hid (IS (w.alloc (Q #[J Z a,J Z b,J Z d,O o n c,O ao al ac,O po pl pc] 30)) o db off n D):=h.below HB0.out h.lt
 have HS:Hid ((w.alloc (Q #[J Z a,J Z b,J Z d,O o n c,O ao al ac,O po pl pc] 30)).heap.size=w.heap.size+1):=by show _=_;simp
 generalize w.alloc (Q #[J Z a,J Z b,J Z d,O o n c,O ao al ac,O po pl pc] 30)=w1 at *
 clear h
 go_loopw [5,6] (fun x y wr=>∃ (j:Nat) (l:List Int),j<=m/\y=J Z j/\Hid (slT D n S W j=l)/\Hid (wr.ownsRow w1.heap.size 3 1 x l.length (l.map (J Z)))/\Hid (Below w1.heap.size w1 wr)) (fun _ y _=>m-(intOf y).toNat)
 case atStart=>exact ⟨0,[],by omega,rfl,rfl,⟨rfl,.inl ⟨rfl,rfl⟩⟩,Below.refl _ _⟩
 case round =>
  obtain ⟨j,l,hj,rfl,HU,HR,HB⟩:=hrel
  by_cases hlt:j<m
  ·have hlt':(j:Int)<(m:Int):=by omega
   obtain ⟨x,hx⟩:∃ x,L[j]?=some x:=⟨L[j]'(by rw [HM.out];exact hlt),List.getElem?_eq_getElem _⟩
   obtain ⟨c1,c2,xa,xb,c3,c4,c5,c6,c7,c8,c9⟩:=HI0.out j x hx
   have hv:wr.cell? ⟨io,j,none⟩=some (.string x):=by
    rw [HB.out.cell (p:=⟨io,j,none⟩) (by rw [HS.out];simp only;omega),HB0.out.cell (p:=⟨io,j,none⟩) hio];exact c1
   have HD:Hid (T.digs xa/\T.val xa xa.size=S j/\T.digs xb/\T.val xb xb.size=(W j:Int)):=⟨c4,c6,c7,c9⟩
   have HSP:Hid _:=c3
   clear c1 c3 c4 c6 c7 c9 hx
   go_wp2_with fail
   refine (yU x 42 _ c2).mono ?_
   rintro e w2 ⟨hb2,sv,rfl,hrow⟩
   rw [HSP.out] at hrow
   obtain ⟨sg,scap,rfl,hsg0,hsg1⟩:=z7 hrow (by simp)
   have s0:w2.cell? ⟨sg,0,none⟩=some (.string xa):=ye hrow (i:=0) rfl
   have s1:w2.cell? ⟨sg,1,none⟩=some (.string xb):=ye hrow (i:=1) rfl
   have HB2:Hid _:=HB.out.trans (hb2.mono HB.out.size)
   have HR2:Hid (w2.ownsRow w1.heap.size 3 1 u5 l.length (l.map (J Z))):=Z3 HR.out (fun g hg=>hb2.block g (HR.out.lt g hg).2)
   clear hb2 hrow
   simp only [List.length_cons,List.length_nil]
   go_wp2_with fail
   refine (Zq xa _ (by omega)).mono ?_
   rintro e w3 ⟨hb3,v,rfl,hvv⟩
   have hve:v=S j:=by rw [hvv HD.out.1 c5,HD.out.2.1]
   clear hvv
   subst hve
   have HB3:Hid _:=HB2.out.trans (hb3.mono HB2.out.size)
   have HR3:Hid (w3.ownsRow w1.heap.size 3 1 u5 l.length (l.map (J Z))):=Z3 HR2.out (fun g hg=>hb3.block g (HR2.out.lt g hg).2)
   have t1:w3.cell? ⟨sg,1,none⟩=some (.string xb):=(hb3.cell (p:=⟨sg,1,none⟩) hsg1).trans s1
   have hsg3:sg<w3.heap.size:=Nat.lt_of_lt_of_le hsg1 hb3.size
   clear hb3 s0 s1
   have hx1:=(HB3.out.block w.heap.size (by rw [HS.out];omega)).trans HX0.out
   have r0:w3.cell? ⟨w.heap.size,0,none⟩=some (J Z a):=by simp [World.cell?,hx1]
   have r1:w3.cell? ⟨w.heap.size,1,none⟩=some (J Z b):=by simp [World.cell?,hx1]
   have r2:w3.cell? ⟨w.heap.size,2,none⟩=some (J Z d):=by simp [World.cell?,hx1]
   have r3:w3.cell? ⟨w.heap.size,3,none⟩=some (O o n c):=by simp [World.cell?,hx1]
   have r4:w3.cell? ⟨w.heap.size,4,none⟩=some (O ao al ac):=by simp [World.cell?,hx1]
   have r5:w3.cell? ⟨w.heap.size,5,none⟩=some (O po pl pc):=by simp [World.cell?,hx1]
   clear hx1
   go_wp2_with fail
   refine (zbB a b d ao po al ac pl pc o db off n c D _ w3 hn (HI.out.below HB3.out HI.out.lt)).mono ?_
   rintro e w4 ⟨hb4,rfl⟩
   have HB4:Hid _:=HB3.out.trans (hb4.mono HB3.out.size)
   have HR4:Hid (w4.ownsRow w1.heap.size 3 1 u5 l.length (l.map (J Z))):=Z3 HR3.out (fun g hg=>hb4.block g (HR3.out.lt g hg).2)
   have t2:w4.cell? ⟨sg,1,none⟩=some (.string xb):=(hb4.cell (p:=⟨sg,1,none⟩) hsg3).trans t1
   clear hb4 r0 r1 r2 r3 r4 r5 t1
   obtain ⟨q,hq⟩:∃ q,ZR D (S j) n=q:=⟨_,rfl⟩
   have HQ:Hid (slT D n S W (j+1)=l++(if q=true then List.replicate (W j) (S j) else [])):=by show _=_;simp only [slT];rw [HU.out,hq]
   rw [hq]
   clear hq
   go_wp2_with fail
   refine (Zq xb _ (by omega)).mono ?_
   rintro e w5 ⟨hb5,v,rfl,hvv⟩
   have hve:v=(W j:Int):=by rw [hvv HD.out.2.2.1 c8,HD.out.2.2.2]
   clear hvv
   subst hve
   have HB5:Hid _:=HB4.out.trans (hb5.mono HB4.out.size)
   have HR5:Hid (w5.ownsRow w1.heap.size 3 1 u5 l.length (l.map (J Z))):=Z3 HR4.out (fun g hg=>hb5.block g (HR4.out.lt g hg).2)
   clear hb5 t2
   have hll:l.length<=j*1000:=by rw [<- HU.out];exact J1 D n S W hW j
   have hWj:=hW j
   generalize hwj:W j=wj at *
   clear hwj
   go_wp2_with fail
   cases q with
   | false =>
    go_loopw [5,10] (fun x y wq=>Hid (wq.ownsRow w1.heap.size 3 1 x l.length (l.map (J Z)))/\y=J Z (wj:Int)/\wq=w5) (fun _ _ _=>0)
    case atStart=>exact ⟨HR5,rfl,rfl⟩
    case round =>
     obtain ⟨HRi,rfl,rfl⟩:=hrel
     have HQ':Hid (slT D n S W (j+1)=l):=by show _=_;rw [HQ.out];simp
     clear HQ
     by_cases hw0:(0:Int)<(wj:Int)
     all_goals
      go_wp2_with fail
      go_roundw
      case rel=>exact ⟨j+1,l,by omega,by go_num,HQ',HRi,HB5⟩
      case measure=>simp [intOf];omega
   | true =>
    go_loopw [5,10] (fun x y wq=>∃ (i:Nat),i<=wj/\y=J Z ((wj-i:Nat):Int)/\Hid (wq.ownsRow w1.heap.size 3 1 x (l++List.replicate i (S j)).length ((l++List.replicate i (S j)).map (J Z)))/\Hid (Below w1.heap.size w1 wq)) (fun _ y _=>(intOf y).toNat)
    case atStart =>
     refine ⟨0,by omega,rfl,?_,HB5⟩
     have:=HR5.out
     rw [<- List.append_nil l] at this
     exact this
    case round =>
     obtain ⟨i,hi,rfl,HRi,HBi⟩:=hrel
     have HE:Hid (l++List.replicate (i+1) (S j)=(l++List.replicate i (S j))++[S j]):=by show _=_;rw [List.replicate_succ',List.append_assoc]
     have HRL:Hid ((l++List.replicate i (S j)).length=l.length+i):=by show _=_;simp
     obtain ⟨r,hr⟩:∃ r,l++List.replicate i (S j)=r:=⟨_,rfl⟩
     rw [hr] at HRi HE HRL
     have HRE:Hid _:=hr
     clear hr
     by_cases hiw:i<wj
     ·obtain ⟨ko,kc,hu5⟩:∃ ko kc,u5=O ko r.length kc:=by
       rcases HRi.out.2 with ⟨h1,h2⟩ | ⟨g,cap,cur,h1,_⟩
       ·exact ⟨none,0,by rw [h1,h2]⟩
       ·exact ⟨_,cap,h1⟩
      subst hu5
      obtain ⟨k,hk⟩:∃ k,wj-i=k:=⟨_,rfl⟩
      have HK:Hid _:=hk
      have hk0:(0:Int)<(k:Int):=by omega
      have hk1:(k:Int)<=1000:=by omega
      rw [hk]
      clear hk
      have hbs4:w1.heap.size<=wr.heap.size:=HBi.out.size
      have hA1:Hid (r.length+1<=maxLen):=by show _<=_;have:=HRL.out;unfold maxLen;omega
      have hA2:Hid ((r.length+1)*8<=140737488355328):=by show _<=_;have:=HRL.out;omega
      generalize hsj:S j=sj at *
      have hA3:Hid (w1.heap.size<=(wr.alloc (Q #[J Z sj] 3)).heap.size):=by show _<=_;simp;omega
      have hone:Hid (∀ u∈[J Z sj],u.oneCell'=true):=fun u hu=>by simp at hu;subst hu;rfl
      go_wp2_with (at_builtin;refine wpList_append_lies _ rfl _ _ 25 rfl w1.heap.size 3 i0 _ 1 8 Tryz.underlying25 hi0 hz0 hz1 hz2 rfl (by decide) (O ko r.length kc) _ _ rfl (HRi.out.alloc _) ⟨wr.heap.size,0,none⟩ 1 1 [J Z sj] rfl rfl (World.news_of_block (cs:=#[J Z sj]) (t:=3) (fr:=(0,0)) (heap_alloc_new wr _)) hone.out (Nat.lt_succ_self 0) hA1.out hA2.out hA3.out (wr.heap.size+1) (by simp) ?_;intro g cap w6 hown hgrow hat hlt6)
      have HR6:Hid (w6.ownsRow w1.heap.size 3 1 (O (some ⟨g,0,none⟩) (r.length+1) cap) (l++List.replicate (i+1) sj).length ((l++List.replicate (i+1) sj).map (J Z))):=by
       show World.ownsRow _ _ _ _ _ _ _
       rw [HE.out,List.length_append,List.map_append]
       exact hown
      have HB6:Hid (Below w1.heap.size w1 w6):=(HBi.out.alloc hbs4 _).grown hgrow (by simp;omega) (fun k hk=>(HRi.out.lt k hk).1)
      clear hown hgrow hat
      go_roundw
      case rel=>exact ⟨i+1,by omega,by have:=HK.out;rw [show wj-(i+1)=k-1 from by omega];go_num,HR6,HB6⟩
      case measure=>simp [intOf];omega
     ·have hie:i=wj:=by omega
      subst hie
      rw [Nat.sub_self]
      have HQ':Hid (slT D n S W (j+1)=r):=by show _=_;rw [HQ.out,if_pos rfl,HRE.out]
      clear HQ
      go_wp2_with fail
      go_roundw
      case rel=>exact ⟨j+1,r,by omega,by go_num,HQ',HRi,HBi⟩
      case measure=>simp [intOf];omega
  ·have hjm:j=m:=by omega
   subst hjm
   have HBW:Hid (Below w.heap.size w wr):=HB0.out.trans (HB.out.mono HB0.out.size)
   have hx1:=(HB.out.block w.heap.size (by rw [HS.out];omega)).trans HX0.out
   have r2:wr.cell? ⟨w.heap.size,2,none⟩=some (J Z d):=by simp [World.cell?,hx1]
   clear hx1
   by_cases hl0:l=[]
   ·subst hl0
    obtain ⟨ko,kc,hu5⟩:∃ ko kc,u5=O ko 0 kc:=by
     rcases HR.out.2 with ⟨h1,h2⟩ | ⟨g,cap,cur,h1,_⟩
     ·exact ⟨none,0,h1⟩
     ·exact ⟨_,cap,h1⟩
    subst hu5
    go_wp2_with fail
    go_ret
    exact ⟨HBW.out,by rw [HU.out];rfl⟩
   ·have hlp:0<l.length:=List.length_pos_iff.2 hl0
    rcases HR.out.2 with ⟨h1,h2⟩ | ⟨g,cap,cur,h1,h2,h3,_⟩
    ·omega
    ·subst h1
     obtain ⟨k,hk⟩:∃ k:Nat,d%(l.length:Int)=(k:Int):=⟨(d%(l.length:Int)).toNat,by rw [Int.toNat_of_nonneg (Int.emod_nonneg _ (by omega))]⟩
     have hkl:k<l.length:=by have:=Int.emod_lt_of_pos d (show (0:Int)<(l.length:Int) by omega);omega
     have ck:wr.cell? ⟨g,k,none⟩=some (J Z l[k]):=by
      rw [World.ownsRow.cellAt HR.out k (by omega)]
      simp [hkl]
     have HP:Hid (jz l d=l[k]):=by show _=_;unfold jz;rw [if_neg hl0,hk,Int.toNat_natCast,List.getElem?_eq_getElem hkl];rfl
     have hrem:d.tmod (l.length:Int)=(k:Int):=by rw [Int.tmod_eq_emod_of_nonneg hd0];exact hk
     have hll:l.length<=j*1000:=by rw [<- HU.out];exact J1 D n S W hW j
     generalize l[k]=lk at *
     generalize hln:l.length=ln at *
     have e0:((ln:Int)==0)=false:=by simp;omega
     have hkl':(k:Int)<(ln:Int):=by omega
     clear hk hl0 h2 h3 HR hln
     go_wp2_with fail
     go_ret
     exact ⟨HBW.out,by rw [HU.out,HP.out];rfl⟩
theorem Jl (PB tg tn tc:Nat) (nm t:ByteArray) (v:Int) (k:Nat) (w:World) (hs:nm.size<=2001) (h0:w.cell? ⟨PB,0,none⟩=some (.string nm)) (h1:w.cell? ⟨PB,1,none⟩=some (O (some ⟨tg,0,none⟩) tn tc)) (hk:k<nm.size) (hkn:k<tn) (hkv:T.ch nm k=v) (hlt:∀ i,i<k->T.ch nm i≠v) (ht:w.cell? ⟨tg,k,none⟩=some (.string t)) :
 Calls Tryz.prog 165 #[.pointer (some ⟨PB,0,none⟩),J .u8 v] w fun e w'=>w'=w/\e=.returned (.string t):=by
 have HLT:Hid (∀ i,i<k->T.ch nm i≠v):=hlt
 clear hlt
 go_enter Tryz.func165,Tryz.ntmps165
 go_wp2_with fail
 go_loopg [5] k (fun q x wr=>∃ j:Nat,q+j=k/\x=J Z j/\wr=w)
 case atStart=>exact ⟨0,by omega,rfl,rfl⟩
 case round =>
  obtain ⟨j,hj,rfl,rfl⟩:=hrel
  have hjl:j<nm.size:=by omega
  have hjl':(j:Int)<(nm.size:Int):=by omega
  have hch:((nm[j]).toNat:Int)=T.ch nm j:=(T.ch_lt hjl).symm
  by_cases hje:j=k
  ·subst hje
   have hkn':(j:Int)<(tn:Int):=by omega
   rw [hkv] at hch
   go_wp2_with fail
   go_ret
   exact ⟨rfl,rfl⟩
  ·have hne:=HLT.out j (by omega)
   have e1:(T.ch nm j==v)=false:=by simpa using hne
   generalize T.ch nm j=z at *
   go_wp2_with fail
   go_roundg (gk-1)
   case measure=>omega
   case rel=>exact ⟨j+1,by omega,by go_num,rfl⟩
theorem Qk {x:List Int} (h:∀ c∈x,48<=c/\c<=57):∀ (cur rest:List Int),yj 42 0 cur (x++rest)=yj 42 0 (cur++x) rest:=by
 induction x with
 | nil=>intro cur rest;simp
 | cons y r ih =>
  intro cur rest
  have hy:=h y (by simp)
  simp only [List.cons_append,yj]
  rw [if_neg (by omega),if_neg (by omega),if_neg (by omega),ih (fun c hc=>h c (by simp [hc]))]
  simp
theorem Jf {a b:List Int} {u v:Int} (ha:Y9 a u) (hb:Y9 b v):spl (strOfNums (a++[42]++b)) 42=[strOfNums a,strOfNums b]:=by
 have hbyt:Byt (a++[42]++b):=(ha.pln.byt.app (Byt.one (by decide))).app hb.pln.byt
 rw [Zu hbyt,List.append_assoc,Qk ha.dig,List.singleton_append]
 simp only [yj,List.nil_append]
 rw [if_neg (by decide),if_neg (by decide),if_pos ⟨trivial,trivial⟩]
 have:=Qk hb.dig [] []
 rw [List.append_nil,List.nil_append] at this
 rw [this]
 simp [yj]
theorem Y9.digs {x:List Int} {v:Int} (h:Y9 x v):T.digs (strOfNums x)/\(strOfNums x).size<=9/\T.val (strOfNums x) (strOfNums x).size=v:=by
 refine ⟨fun i hi=>?_,by rw [strOfNums_size];exact h.le,by rw [strOfNums_size];exact h.val⟩
 rw [strOfNums_size] at hi
 rw [yt h.pln.byt,List.getElem?_eq_getElem hi]
 exact h.dig _ (List.getElem_mem _)
theorem jh.pf {x:List Int} {v l:Int} (h:jh x v l):pfV (strOfNums x) 32=v/\((strOfNums x).size:Int)=l:=by
 refine ⟨?_,by rw [strOfNums_size];exact h.len.symm⟩
 have hb:=h.pln.byt
 have key:∀ j,j<=x.length->pfV (strOfNums x) j=bv (strOfNums x) 0 j:=by
  intro j
  induction j with
  | zero=>intro _;rfl
  | succ j ih =>
   intro hj
   simp only [pfV,bv]
   rw [ih (by omega),Nat.zero_add]
   have hc:T.ch (strOfNums x) j=48\/T.ch (strOfNums x) j=49:=by
    rw [yt hb,List.getElem?_eq_getElem (show j<x.length by omega)]
    exact h.dig _ (List.getElem_mem _)
   rcases hc with hc | hc
   ·rw [hc,if_neg (by omega)];omega
   ·rw [hc,if_pos ⟨by rw [strOfNums_size];omega,rfl⟩];omega
 have up:∀ i,pfV (strOfNums x) (x.length+i)=bv (strOfNums x) 0 x.length*2 ^ i:=by
  intro i
  induction i with
  | zero=>rw [Nat.add_zero,key _ (Nat.le_refl _)];simp
  | succ i ih =>
   rw [<- Nat.add_assoc]
   simp only [pfV]
   rw [ih,if_neg (by rw [strOfNums_size];omega),Int.add_zero,Int.pow_succ,Int.mul_assoc]
 have:=up (32-x.length)
 rw [show x.length+(32-x.length)=32 from by have:=h.le;omega] at this
 rw [this,h.val]
end Go.Proofs.YtaebngpoagjafaaGreat
