import Derived.Test.YtaebngpoagjafabF31
import Derived.Deep.DeepCutAuto
set_option maxRecDepth 100000
set_option maxHeartbeats 3200000
namespace Go.Proofs.Ytaebngpoagjafab
open Value renaming int → J, slice → Z
open Go.RowKit
attribute [local go_sem ↓] Go.wp_at_zero Go.wp_at_succ
theorem JC {n:Int} (h0:-9223372036854775808<=n) (h1:n<=9223372036854775807):IntKind.i64.wrap n=n:=by
 rw [IntKind.wrap_i64];omega
theorem jn (s:ByteArray) (x:Int):∀ n,(spL s x n).length<=2*n:=by
 intro n
 induction n with
 | zero=>exact Nat.le_refl _
 | succ n ih=>simp only [spL,List.length_append,List.length_singleton];split<;>simp<;>omega
theorem xc (c:Int):∀ u∈[Value.int .u8 c],u.oneCell'=true:=fun u hu=>by simp at hu;subst hu;rfl
theorem qb (s:ByteArray) (x:Int) (w:World) (hs:s.size<=1048576) (x0:-9223372036854775808<=x) (x1:x<=9223372036854775807) :
 Calls Try.prog 6 #[.string s,J .i64 x] w fun e w'=>Below w.heap.size w w'/\e=.returned (.string (spT s x)):=by
 obtain ⟨i0,hi0,hz0,hz1,hz2⟩:=info_parts Try.infoByte
 go_enter Try.func6,Try.ntmps6
 go_wp2_with fail
 have hcv:=fun (w:World) (g len cap:Nat) (xs:List Int) (hl:xs.length=len) (hc:∀ i,i<len->w.cell? ⟨g,0+i,none⟩=some (J .u8 (xs.getD i 0)))=>run_convert_bytes_arg (P:=Try.prog) w 23 5 Try.underlying23 Try.underlying5 g 0 len cap xs hl hc 9 Try.underlying9
 have hcn:=fun (w:World)=>run_convert_bytes_nil (P:=Try.prog) w 23 5 Try.underlying23 Try.underlying5 0 0 9 Try.underlying9
 go_loopg [5,6] s.size (fun n x5 y wr=>∃ (j:Nat),n+j=s.size/\y=J .i64 j/\wr.ownsRow w.heap.size 5 1 x5 (spL s x j).length ((spL s x j).map (Value.int .u8))/\Below w.heap.size w wr)
 case atStart=>exact ⟨0,by omega,rfl,⟨rfl,.inl ⟨rfl,rfl⟩⟩,Below.refl _ _⟩
 case round =>
  obtain ⟨j,hn,rfl,hrow,hb⟩:=hrel
  have HR:Hid (wr.ownsRow w.heap.size 5 1 u5 (spL s x j).length ((spL s x j).map (Value.int .u8))):=hrow
  have HB:Hid (Below w.heap.size w wr):=hb
  have hbs:=hb.size
  clear hrow hb
  by_cases hlt:j<s.size
  ·have hlt':(j:Int)<(s.size:Int):=by omega
   have hj0:(0:Int)<=(j:Int):=by omega
   have hch:((s[j]).toNat:Int)=T.ch s j:=(T.ch_lt hlt).symm
   have hln:=jn s x j
   have HDG:Hid (∀ c w,Calls Try.prog 15 #[J .u8 c] w fun e w'=>e=.returned (.bool (T.dig c))/\w'=w):=qA
   have HPK:Hid (∀ (n:Int) w,0<n->n<=2097152->Calls Try.prog 10 #[J .i64 x,J .i64 n] w fun e w'=>e=.returned (J .i64 (pkF x n))/\w'=w):=fun n w h1 h2=>xJ x n w x0 x1 h1 (by omega)
   have HE:Hid (spL s x (j+1)=spL s x j++((if (!(spA s j && T.dig (T.ch s j)) && pkF x (j+2)%2==1)=true then [spC x j] else [])++[T.ch s j])):=by
    have hP:spP s x j=(!(spA s j && T.dig (T.ch s j)) && pkF x (j+2)%2==1):=by unfold spP;rw [decide_eq_true hlt,Bool.true_and]
    show _=_
    simp only [spL]
    rw [hP]
   have hp2:=qj (c:=x) (n:=(j:Int)+2) (by omega)
   have hp3:=qj (c:=x) (n:=(j:Int)+3) (by omega)
   have HC:Hid (spC x j=if pkF x (j+3)%2=1 then 10 else 32):=rfl
   have P2:=HPK.out (j+2) wr (by omega) (by omega)
   have P3:=HPK.out (j+3) wr (by omega) (by omega)
   clear HPK x0 x1
   go_upto_region 5 with fail
   go_cut [7] (fun s7 wx=>s7=.bool (spA s j)/\wx=wr)
   case first =>
    rcases Nat.eq_zero_or_pos j with h0 | h0
    ·subst h0
     go_wp2_with fail
     go_meet
     exact ⟨rfl,rfl⟩
    ·obtain ⟨m,rfl⟩:∃ m,j=m+1:=⟨j-1,by omega⟩
     have hpos:(0:Int)<((m+1:Nat):Int):=by omega
     have hm1:IntKind.i64.wrap (((m+1:Nat):Int)-1)=(m:Int):=(JC (by omega) (by omega)).trans (by omega)
     have hchm:((s[m]).toNat:Int)=T.ch s m:=(T.ch_lt (by omega)).symm
     go_wp2_with fail
     refine (HDG.out _ _).mono ?_
     rintro e w' ⟨rfl,hw'⟩
     subst w'
     go_wp2_with fail
     go_meet
     exact ⟨rfl,rfl⟩
   case rest =>
   obtain ⟨rfl,hw0⟩:=hcut
   subst wc
   go_wp2_with fail
   refine (HDG.out _ _).mono ?_
   rintro e w' ⟨rfl,hw'⟩
   subst w'
   clear HDG
   go_upto_region 7 with fail
   generalize spA s j=a at *
   generalize T.dig (T.ch s j)=b at *
   generalize T.ch s j=c at *
   generalize pkF x (j+2)=p2 at *
   generalize pkF x (j+3)=p3 at *
   go_cut [41] (fun s41 wx=>s41=.bool (!(a && b) && p2%2==1)/\wx=wr)
   case first =>
    cases a<;>cases b<;>first
     | (go_wp2_with fail
        go_meet
        exact ⟨rfl,rfl⟩)
     | (go_wp2_with fail
        refine P2.mono ?_
        rintro e w' ⟨rfl,hw'⟩
        subst w'
        go_wp2_with fail
        go_meet
        exact ⟨rfl,rfl⟩)
   case rest =>
   obtain ⟨rfl,hw0⟩:=hcut
   subst wc
   generalize (!(a && b) && p2%2==1)=q at *
   cases q with
   | false =>
    simp only [Bool.false_eq_true,if_false,List.nil_append] at HE
    go_wp2_with (at_builtin;refine wpList_append_lies _ rfl _ _ 23 rfl w.heap.size 5 i0 _ 1 1 Try.underlying23 hi0 hz0 hz1 hz2 rfl (by decide) u5 _ _ rfl (HR.out.alloc _) ⟨wr.heap.size,0,none⟩ 1 1 [J .u8 c] rfl rfl (World.news_of_block (cs:=#[J .u8 c]) (t:=5) (fr:=(0,0)) (heap_alloc_new wr _)) (xc _) (Nat.lt_succ_self 0) (by unfold maxLen;omega) (by omega) (by simp;omega) (wr.heap.size+1) (by simp) ?_;intro g4 cap4 w4 hown4 hgrow4 hat4 hlt4)
    have HR4:Hid (w4.ownsRow w.heap.size 5 1 (Z (some ⟨g4,0,none⟩) ((spL s x j).length+1) cap4) (spL s x (j+1)).length ((spL s x (j+1)).map (Value.int .u8))):=by
     show World.ownsRow _ _ _ _ _ _ _
     rw [HE.out,List.length_append,List.map_append]
     exact hown4
    have HB4:Hid (Below w.heap.size w w4):=(HB.out.alloc hbs _).grown hgrow4 (by simp;omega) (fun k hk=>(HR.out.lt k hk).1)
    clear hown4 hgrow4 hat4
    go_roundg (gk-1)
    case measure=>omega
    case rel=>exact ⟨j+1,by omega,by go_num,HR4.out,HB4.out⟩
   | true =>
    obtain ⟨y,hy⟩:∃ y,spC x j=y:=⟨_,rfl⟩
    rw [hy] at HE HC
    simp only [if_true,List.singleton_append] at HE
    clear hy
    go_wp2_with fail
    refine P3.mono ?_
    rintro e w' ⟨rfl,hw'⟩
    subst w'
    go_upto_if 47 with fail
    go_cut [9] (fun s9 wx=>s9=J .u8 y/\wx=wr)
    case first =>
     by_cases h3:p3%2=1
     ·rw [if_pos h3] at HC
      have h3':(p3%2==1)=true:=by simp [h3]
      go_wp2_with fail
      go_meet
      exact ⟨by rw [HC.out],rfl⟩
     ·rw [if_neg h3] at HC
      have h3':(p3%2==1)=false:=by simp [h3]
      go_wp2_with fail
      go_meet
      exact ⟨by rw [HC.out],rfl⟩
    case rest =>
    obtain ⟨rfl,hw0⟩:=hcut
    subst wc
    go_upto_region 12 with (at_builtin;refine wpList_append_lies _ rfl _ _ 23 rfl w.heap.size 5 i0 _ 1 1 Try.underlying23 hi0 hz0 hz1 hz2 rfl (by decide) u5 _ _ rfl (HR.out.alloc _) ⟨wr.heap.size,0,none⟩ 1 1 [J .u8 y] rfl rfl (World.news_of_block (cs:=#[J .u8 y]) (t:=5) (fr:=(0,0)) (heap_alloc_new wr _)) (xc _) (Nat.lt_succ_self 0) (by unfold maxLen;omega) (by omega) (by simp;omega) (wr.heap.size+1) (by simp) ?_;intro g3 cap3 w3 hown3 hgrow3 hat3 hlt3)
    have HR3:Hid (w3.ownsRow w.heap.size 5 1 (Z (some ⟨g3,0,none⟩) ((spL s x j).length+1) cap3) ((spL s x j).length+1) ((spL s x j).map (Value.int .u8)++[J .u8 y])):=hown3
    have HB3:Hid (Below w.heap.size w w3):=(HB.out.alloc hbs _).grown hgrow3 (by simp;omega) (fun k hk=>(HR.out.lt k hk).1)
    have hbs3:=HB3.out.size
    clear hown3 hgrow3 hat3
    go_wp2_with (at_builtin;refine wpList_append_lies _ rfl _ _ 23 rfl w.heap.size 5 i0 _ 1 1 Try.underlying23 hi0 hz0 hz1 hz2 rfl (by decide) (Z (some ⟨g3,0,none⟩) ((spL s x j).length+1) cap3) _ _ rfl (HR3.out.alloc _) ⟨w3.heap.size,0,none⟩ 1 1 [J .u8 c] rfl rfl (World.news_of_block (cs:=#[J .u8 c]) (t:=5) (fr:=(0,0)) (heap_alloc_new w3 _)) (xc _) (Nat.lt_succ_self 0) (by unfold maxLen;omega) (by omega) (by simp;omega) (w3.heap.size+1) (by simp) ?_;intro g4 cap4 w4 hown4 hgrow4 hat4 hlt4)
    have HR4:Hid (w4.ownsRow w.heap.size 5 1 (Z (some ⟨g4,0,none⟩) ((spL s x j).length+1+1) cap4) (spL s x (j+1)).length ((spL s x (j+1)).map (Value.int .u8))):=by
     show World.ownsRow _ _ _ _ _ _ _
     have e1:(spL s x (j+1)).length=(spL s x j).length+1+1:=by rw [HE.out];simp
     rw [e1,HE.out,List.map_append]
     simpa using hown4
    have HB4:Hid (Below w.heap.size w w4):=(HB3.out.alloc hbs3 _).grown hgrow4 (by simp;omega) (fun k hk=>(HR3.out.lt k hk).1)
    clear hown4 hgrow4 hat4
    go_roundg (gk-1)
    case measure=>omega
    case rel=>exact ⟨j+1,by omega,by go_num,HR4.out,HB4.out⟩
  ·have hlt':¬ (j:Int)<(s.size:Int):=by omega
   have hje:j=s.size:=by omega
   subst hje
   rcases HR.out.2 with ⟨h1,h2⟩ | ⟨g,cap,cur,h1,h2,h3,h4,h5,h6,h7⟩
   ·subst h1
    have HE:Hid (spT s x=ByteArray.empty):=by show _=_;unfold spT;rw [List.eq_nil_of_length_eq_zero h2];rfl
    have hcn':=hcn wr
    go_wp2_with fail
    go_ret
    exact ⟨HB.out,by rw [HE.out];rfl⟩
   ·subst h1
    have hcv':=hcv wr g (spL s x s.size).length cap (spL s x s.size) rfl (fun i hi=>by
     have:=World.ownsRow.cellAt HR.out i (by omega)
     rw [Nat.zero_add,this]
     simp [hi])
    have HE:Hid (strOfNums (spL s x s.size)=spT s x):=rfl
    rw [HE.out] at hcv'
    go_wp2_with fail
    go_ret
    exact ⟨HB.out,rfl⟩
theorem Xf (s:ByteArray) (x:Int):∀ n,(spL s x n).length=n+cnt (spP s x) n:=by
 intro n
 induction n with
 | zero=>rfl
 | succ n ih =>
  simp only [spL,cnt,List.length_append,ih,List.length_singleton]
  split<;>simp<;>omega
theorem qM (s:ByteArray) (x:Int) (n:Nat):∀ k,∃ t,spL s x (n+k)=spL s x n++t:=by
 intro k
 induction k with
 | zero=>exact ⟨[],by simp⟩
 | succ k ih =>
  obtain ⟨t,ht⟩:=ih
  rw [<- Nat.add_assoc]
  simp only [spL]
  rw [ht]
  exact ⟨t++((if spP s x (n+k)=true then [spC x (n+k)] else [])++[T.ch s (n+k)]),by simp⟩
theorem qN (x:Int) (j:Nat):spC x j=10\/spC x j=32:=by unfold spC;split;exact .inl rfl;exact .inr rfl
theorem JK (s:ByteArray) (x:Int):∀ n,n<=s.size->Byt (spL s x n):=by
 intro n
 induction n with
 | zero=>intro _ y hy;simp [spL] at hy
 | succ n ih =>
  intro h y hy
  simp only [spL,List.mem_append,List.mem_singleton] at hy
  rcases hy with hy | hy | hy
  ·exact ih (by omega) y hy
  ·split at hy
   ·simp at hy;have:=qN x n;omega
   ·simp at hy
  ·subst hy;exact T.ch_bd (by omega)
theorem jm (s:ByteArray) (x:Int):Spc s (spT s x) (spP s x):=by
 have hB:=JK s x s.size (Nat.le_refl _)
 refine ⟨fun j hj=>?_,?_,fun j hj=>?_,fun j hj=>?_,fun j h1 h2=>?_⟩
 ·unfold spP;rw [decide_eq_false (by omega)];rfl
 ·unfold spT;rw [strOfNums_size,Xf]
 ·obtain ⟨t,ht⟩:=qM s x (j+1) (s.size-(j+1))
  rw [show j+1+(s.size-(j+1))=s.size by omega] at ht
  have hl:=Xf s x (j+1)
  unfold spT
  rw [yv hB,ht,List.getElem?_append_left (by omega)]
  have hl2:j+cnt (spP s x) (j+1)=(spL s x (j+1)).length-1:=by omega
  rw [hl2]
  simp only [spL]
  rw [<- List.append_assoc,List.length_append,List.length_singleton,Nat.add_sub_cancel,List.getElem?_append_right (Nat.le_refl _),Nat.sub_self]
  rfl
 ·have hlt:j<s.size:=by unfold spP at hj;simp only [Bool.and_eq_true,decide_eq_true_eq] at hj;exact hj.1
  obtain ⟨t,ht⟩:=qM s x (j+1) (s.size-(j+1))
  rw [show j+1+(s.size-(j+1))=s.size by omega] at ht
  have hl:=Xf s x j
  unfold spT
  rw [yv hB,ht]
  simp only [spL]
  rw [if_pos hj,List.append_assoc,List.getElem?_append_right (by omega),hl,Nat.sub_self]
  simp only [List.cons_append,List.getElem?_cons_zero,Option.getD_some]
  rcases qN x j with h | h<;>rw [h]<;>rfl
 ·unfold spP spA
  rw [Nat.add_sub_cancel,h1,h2]
  simp
theorem qV (s:ByteArray):∀ n,(leJ s n).1.length<=n:=by
 intro n
 induction n with
 | zero=>exact Nat.le_refl _
 | succ n ih =>
  simp only [leJ,leT]
  split
  ·simp;omega
  ·split
   ·exact Nat.le_succ_of_le ih
   ·exact Nat.le_succ_of_le ih
theorem XJ (s:ByteArray) (w:World) (hs:s.size<=1048576) :
 Calls Try.prog 8 #[.string s] w fun e w'=>Below w.heap.size w w'/\∃ o k,e=.returned (Z o (leJ s s.size).1.length k)/\w'.ownsRow w.heap.size 5 1 (Z o (leJ s s.size).1.length k) (leJ s s.size).1.length ((leJ s s.size).1.map (Value.int .u8)):=by
 obtain ⟨i0,hi0,hz0,hz1,hz2⟩:=info_parts Try.infoByte
 go_enter Try.func8,Try.ntmps8
 go_wp2_with fail
 go_loopg [3,4,5] s.size (fun n x3 x4 y wr=>∃ (j:Nat),n+j=s.size/\y=J .i64 j/\x4=.bool (leJ s j).2/\wr.ownsRow w.heap.size 5 1 x3 (leJ s j).1.length ((leJ s j).1.map (Value.int .u8))/\Below w.heap.size w wr)
 case atStart=>exact ⟨0,by omega,rfl,rfl,⟨rfl,.inl ⟨rfl,rfl⟩⟩,Below.refl _ _⟩
 case round =>
  obtain ⟨j,hn,rfl,rfl,hrow,hb⟩:=hrel
  have HR:Hid (wr.ownsRow w.heap.size 5 1 u3 (leJ s j).1.length ((leJ s j).1.map (Value.int .u8))):=hrow
  have HB:Hid (Below w.heap.size w wr):=hb
  have hbs:=hb.size
  clear hrow hb
  by_cases hlt:j<s.size
  ·have hlt':(j:Int)<(s.size:Int):=by omega
   have hj0:(0:Int)<=(j:Int):=by omega
   have hch:((s[j]).toNat:Int)=T.ch s j:=(T.ch_lt hlt).symm
   have hln:=qV s j
   have HE:Hid (leJ s (j+1)=if (leJ s j).2=true/\97<=T.ch s j/\T.ch s j<=122 then ((leJ s j).1++[T.ch s j],false) else if T.ch s j=59 then ((leJ s j).1,true) else leJ s j):=rfl
   generalize T.ch s j=c at *
   obtain ⟨l,f,HQ⟩:∃ l f,Hid (leJ s j=(l,f)):=⟨_,_,rfl⟩
   rw [HQ.out] at HR HE hln ⊢
   simp only at HR HE hln ⊢
   cases f with
   | false =>
    rw [if_neg (by simp)] at HE
    by_cases h59:c=59
    ·rw [if_pos h59] at HE
     subst h59
     go_wp2_with fail
     go_roundg (gk-1)
     case measure=>omega
     case rel=>exact ⟨j+1,by omega,by go_num,by rw [HE.out],by rw [HE.out];exact HR.out,HB.out⟩
    ·rw [if_neg h59] at HE
     have h59':(c==59)=false:=by simp [h59]
     go_wp2_with fail
     go_roundg (gk-1)
     case measure=>omega
     case rel=>exact ⟨j+1,by omega,by go_num,by rw [HE.out],by rw [HE.out];exact HR.out,HB.out⟩
   | true =>
    by_cases h97:97<=c
    ·by_cases h122:c<=122
     ·rw [if_pos ⟨rfl,h97,h122⟩] at HE
      have h59':(c==59)=false:=by simp;omega
      go_wp2_with (at_builtin;refine wpList_append_lies _ rfl _ _ 23 rfl w.heap.size 5 i0 _ 1 1 Try.underlying23 hi0 hz0 hz1 hz2 rfl (by decide) u3 _ _ rfl (HR.out.alloc _) ⟨wr.heap.size,0,none⟩ 1 1 [J .u8 c] rfl rfl (World.news_of_block (cs:=#[J .u8 c]) (t:=5) (fr:=(0,0)) (heap_alloc_new wr _)) (xc _) (Nat.lt_succ_self 0) (by unfold maxLen;omega) (by omega) (by simp;omega) (wr.heap.size+1) (by simp) ?_;intro g4 cap4 w4 hown4 hgrow4 hat4 hlt4)
      have HR4:Hid (w4.ownsRow w.heap.size 5 1 (Z (some ⟨g4,0,none⟩) (l.length+1) cap4) (l++[c]).length ((l++[c]).map (Value.int .u8))):=by
       show World.ownsRow _ _ _ _ _ _ _
       rw [List.length_append,List.map_append]
       exact hown4
      have HB4:Hid (Below w.heap.size w w4):=(HB.out.alloc hbs _).grown hgrow4 (by simp;omega) (fun k hk=>(HR.out.lt k hk).1)
      clear hown4 hgrow4 hat4
      go_roundg (gk-1)
      case measure=>omega
      case rel=>exact ⟨j+1,by omega,by go_num,by rw [HE.out],by rw [HE.out];exact HR4.out,HB4.out⟩
     ·rw [if_neg (by omega),if_neg (by omega)] at HE
      have h59':(c==59)=false:=by simp;omega
      go_wp2_with fail
      go_roundg (gk-1)
      case measure=>omega
      case rel=>exact ⟨j+1,by omega,by go_num,by rw [HE.out],by rw [HE.out];exact HR.out,HB.out⟩
    ·by_cases h59:c=59
     ·rw [if_neg (by omega),if_pos h59] at HE
      subst h59
      go_wp2_with fail
      go_roundg (gk-1)
      case measure=>omega
      case rel=>exact ⟨j+1,by omega,by go_num,by rw [HE.out],by rw [HE.out];exact HR.out,HB.out⟩
     ·rw [if_neg (by omega),if_neg h59] at HE
      have h59':(c==59)=false:=by simp [h59]
      go_wp2_with fail
      go_roundg (gk-1)
      case measure=>omega
      case rel=>exact ⟨j+1,by omega,by go_num,by rw [HE.out],by rw [HE.out];exact HR.out,HB.out⟩
  ·have hlt':¬ (j:Int)<(s.size:Int):=by omega
   have hje:j=s.size:=by omega
   subst hje
   rcases HR.out.2 with ⟨h1,h2⟩ | ⟨g,cap,cur,h1,h2,h3,h4,h5,h6,h7⟩
   ·subst h1
    go_wp2_with fail
    go_ret
    exact ⟨HB.out,none,0,rfl,by have:=HR.out;rw [h2] at this;exact this⟩
   ·subst h1
    go_wp2_with fail
    go_ret
    exact ⟨HB.out,_,_,rfl,HR.out⟩
def UnF (l:List Int) (u:Int):Prop:=(u=0/\∀ c,97<=c->c<=122->c∈l)\/(97<=u/\u<=122/\u ∉ l)
theorem X6 (o:Option Addr) (g k:Nat) (l:List Int) (w:World) (hl:l.length<=1048576) (ho:0<l.length->o=some ⟨g,0,none⟩) (hc:∀ i x,l[i]?=some x->w.cell? ⟨g,i,none⟩=some (J .u8 x)) :
 Calls Try.prog 9 #[Z o l.length k] w fun e w'=>w'=w/\∃ u,e=.returned (J .u8 u)/\UnF l u:=by
 have HO:Hid (0<l.length->o=some ⟨g,0,none⟩):=ho
 have HC:Hid (∀ i x,l[i]?=some x->w.cell? ⟨g,i,none⟩=some (J .u8 x)):=hc
 clear ho hc
 go_enter Try.func9,Try.ntmps9
 go_wp2_with fail
 go_loopg [3] 26 (fun n x3 wr=>∃ (j:Nat),n+j=26/\x3=J .u8 (97+j)/\wr=w/\Hid (∀ c:Int,97<=c->c<97+j->c∈l))
 case atStart=>exact ⟨0,rfl,rfl,rfl,fun c h1 h2=>by omega⟩
 case round =>
  obtain ⟨j,hn,rfl,hw,HI⟩:=hrel
  subst wr
  by_cases hj:j<26
  ·have hj1:(97+(j:Int))<=122:=by omega
   go_wp2_with fail
   go_loopg [4,5] l.length (fun n x4 x5 wr=>∃ (i:Nat),n+i=l.length/\x5=J .i64 i/\x4=.bool ((l.take i).any (·==97+(j:Int)))/\wr=w)
   case atStart=>exact ⟨0,by omega,rfl,rfl,rfl⟩
   case round =>
    obtain ⟨i,hi,rfl,rfl,hw⟩:=hrel
    subst wr
    by_cases hil:i<l.length
    ·have hil':(i:Int)<(l.length:Int):=by omega
     have hi0:(0:Int)<=(i:Int):=by omega
     have hx:l[i]?=some l[i]:=List.getElem?_eq_getElem hil
     have hcx:=HC.out i _ hx
     have ho2:=HO.out (by omega)
     subst ho2
     have HE:Hid ((l.take (i+1)).any (·==97+(j:Int))=((l.take i).any (·==97+(j:Int)) || l[i]==97+(j:Int))):=by
      show _=_
      rw [List.take_add_one,hx]
      simp only [List.any_append,Option.toList,List.any_cons,List.any_nil,Bool.or_false]
     generalize l[i]=y at *
     generalize (l.take i).any (·==97+(j:Int))=q at *
     cases q with
     | true =>
      go_wp2_with fail
      go_roundg (gk-1)
      case measure=>omega
      case rel=>exact ⟨i+1,by omega,by go_num,by rw [HE.out];rfl,rfl⟩
     | false =>
      go_wp2_with fail
      go_roundg (gk-1)
      case measure=>omega
      case rel=>exact ⟨i+1,by omega,by go_num,by rw [HE.out];rfl,rfl⟩
    ·have hil':¬ (i:Int)<(l.length:Int):=by omega
     have hie:i=l.length:=by omega
     subst hie
     rw [List.take_length]
     have HM:Hid (l.any (·==97+(j:Int))=true↔97+(j:Int)∈l):=by
      show _↔_
      simp
     generalize l.any (·==97+(j:Int))=q at *
     cases q with
     | true =>
      have hm:=HM.out.1 rfl
      go_wp2_with fail
      go_roundg (26-(j+1))
      case measure=>omega
      case rel=>exact ⟨j+1,by omega,by go_num,rfl,fun c h1 h2=>by
       by_cases hc:c=97+j
       ·rw [hc];exact hm
       ·exact HI.out c h1 (by omega)⟩
     | false =>
      have hm:97+(j:Int) ∉ l:=fun h=>by have:=HM.out.2 h;cases this
      go_wp2_with fail
      go_ret
      exact ⟨rfl,_,rfl,.inr ⟨by omega,by omega,hm⟩⟩
  ·have hje:j=26:=by omega
   subst hje
   go_wp2_with fail
   go_ret
   exact ⟨rfl,_,rfl,.inl ⟨rfl,fun c h1 h2=>HI.out c h1 (by omega)⟩⟩
end Go.Proofs.Ytaebngpoagjafab
