import Derived.Test.YtaebngpoagjafaaGreatT36
import Derived.Test.YtaebngpoagjafaaGreatT42
import Derived.Deep.DeepCutAuto
set_option maxRecDepth 100000
set_option maxHeartbeats 3200000
namespace Go.Proofs.YtaebngpoagjafaaGreat
open Value renaming int → J, slice → O
open IntKind renaming i64 → Z
open Go.RowKit
attribute [local go_sem ↓] Go.wp_at_zero Go.wp_at_succ
theorem Ql (s:ByteArray) (x:Int):∀ n,(spL s x n).length=n+cnt (spP s x) n:=by
 intro n
 induction n with
 | zero=>rfl
 | succ n ih =>
  simp only [spL,cnt,List.length_append,ih,List.length_singleton]
  split<;>simp<;>omega
theorem Jq (s:ByteArray) (x:Int) (n:Nat):∀ k,∃ t,spL s x (n+k)=spL s x n++t:=by
 intro k
 induction k with
 | zero=>exact ⟨[],by simp⟩
 | succ k ih =>
  obtain ⟨t,ht⟩:=ih
  rw [<- Nat.add_assoc]
  simp only [spL]
  rw [ht]
  exact ⟨t++((if spP s x (n+k)=true then [spC x (n+k)] else [])++[T.ch s (n+k)]),by simp⟩
theorem Jr (x:Int) (j:Nat):spC x j=10\/spC x j=32:=by unfold spC;split;exact .inl rfl;exact .inr rfl
theorem zcK (s:ByteArray) (x:Int):∀ n,n<=s.size->Byt (spL s x n):=by
 intro n
 induction n with
 | zero=>intro _ y hy;simp [spL] at hy
 | succ n ih =>
  intro h y hy
  simp only [spL,List.mem_append,List.mem_singleton] at hy
  rcases hy with hy | hy | hy
  ·exact ih (by omega) y hy
  ·split at hy
   ·simp at hy;have:=Jr x n;omega
   ·simp at hy
  ·subst hy;exact T.ch_bd (by omega)
theorem zba (s:ByteArray) (x:Int):Spc s (spT s x) (spP s x):=by
 have hB:=zcK s x s.size (Nat.le_refl _)
 refine ⟨fun j hj=>?_,?_,fun j hj=>?_,fun j hj=>?_,fun j h1 h2=>?_⟩
 ·unfold spP;rw [decide_eq_false (by omega)];rfl
 ·unfold spT;rw [strOfNums_size,Ql]
 ·obtain ⟨t,ht⟩:=Jq s x (j+1) (s.size-(j+1))
  rw [show j+1+(s.size-(j+1))=s.size by omega] at ht
  have hl:=Ql s x (j+1)
  unfold spT
  rw [yU hB,ht,List.getElem?_append_left (by omega)]
  have hl2:j+cnt (spP s x) (j+1)=(spL s x (j+1)).length-1:=by omega
  rw [hl2]
  simp only [spL]
  rw [<- List.append_assoc,List.length_append,List.length_singleton,Nat.add_sub_cancel,List.getElem?_append_right (Nat.le_refl _),Nat.sub_self]
  rfl
 ·have hlt:j<s.size:=by unfold spP at hj;simp only [Bool.and_eq_true,decide_eq_true_eq] at hj;exact hj.1
  obtain ⟨t,ht⟩:=Jq s x (j+1) (s.size-(j+1))
  rw [show j+1+(s.size-(j+1))=s.size by omega] at ht
  have hl:=Ql s x j
  unfold spT
  rw [yU hB,ht]
  simp only [spL]
  rw [if_pos hj,List.append_assoc,List.getElem?_append_right (by omega),hl,Nat.sub_self]
  simp only [List.cons_append,List.getElem?_cons_zero,Option.getD_some]
  rcases Jr x j with h | h<;>rw [h]<;>rfl
 ·unfold spP spA
  rw [Nat.add_sub_cancel,h1,h2]
  simp
theorem Jl {n:Int} (h0:-9223372036854775808<=n) (h1:n<=9223372036854775807):IntKind.i64.wrap n=n:=by
 rw [IntKind.wrap_i64];omega
theorem ld6 {w w':World} {B:Nat} {a b c d e f:Value} {t:TypeId} {fr:Nat×Nat} (h:w.heap[B]?=some (.cells #[a,b,c,d,e,f] t fr)) (hk:w'.heap[B]?=w.heap[B]?):w'.cell? ⟨B,0,none⟩=some a/\w'.cell? ⟨B,1,none⟩=some b/\w'.cell? ⟨B,2,none⟩=some c/\w'.cell? ⟨B,3,none⟩=some d/\w'.cell? ⟨B,4,none⟩=some e/\w'.cell? ⟨B,5,none⟩=some f:=by
 have h':=hk.trans h
 refine ⟨?_,?_,?_,?_,?_,?_⟩<;>(rw [cell_of_row _ _ _ _ _ _ h'];rfl)
theorem ld3 {w:World} {B:Nat} {a b c:Value} {t:TypeId} (h:w.heap[B]?=some (.cells #[a,b,c] t (0,0))):w.cell? ⟨B,0,none⟩=some a/\w.cell? ⟨B,1,none⟩=some b/\w.cell? ⟨B,2,none⟩=some c/\w.frozen? ⟨B,0,none⟩=false/\w.frozen? ⟨B,1,none⟩=false/\w.frozen? ⟨B,2,none⟩=false:=by
 refine ⟨?_,?_,?_,?_,?_,?_⟩
 all_goals first | (rw [cell_of_row _ _ _ _ _ _ h];rfl) | simp [World.frozen?,h]
theorem zbb (s:ByteArray) (x:Int):∀ n,(spL s x n).length<=2*n:=by
 intro n
 induction n with
 | zero=>exact Nat.le_refl _
 | succ n ih=>simp only [spL,List.length_append,List.length_singleton];split<;>simp<;>omega
theorem Qs (c:Int):∀ u∈[Value.int .u8 c],u.oneCell'=true:=fun u hu=>by simp at hu;subst hu;rfl
theorem jB (s:ByteArray) (x:Int) (w:World) (hs:s.size<=1048576) (x0:-9223372036854775808<=x) (x1:x<=9223372036854775807) :
 Calls Tryz.prog 20 #[.string s,J Z x] w fun e w'=>Below w.heap.size w w'/\e=.returned (.string (spT s x)):=by
 obtain ⟨i0,hi0,hz0,hz1,hz2⟩:=info_parts Tryz.infoByte
 go_enter Tryz.func20,Tryz.ntmps20
 go_wp2_with fail
 have hcv:=fun (w:World) (g len cap:Nat) (xs:List Int) (hl:xs.length=len) (hc:∀ i,i<len->w.cell? ⟨g,0+i,none⟩=some (J .u8 (xs.getD i 0)))=>run_convert_bytes_arg (P:=Tryz.prog) w 48 5 Tryz.underlying48 Tryz.underlying5 g 0 len cap xs hl hc 9 Tryz.underlying9
 have hcn:=fun (w:World)=>run_convert_bytes_nil (P:=Tryz.prog) w 48 5 Tryz.underlying48 Tryz.underlying5 0 0 9 Tryz.underlying9
 go_loopg [5,6] s.size (fun n x5 y wr=>∃ (j:Nat),n+j=s.size/\y=J Z j/\wr.ownsRow w.heap.size 5 1 x5 (spL s x j).length ((spL s x j).map (Value.int .u8))/\Below w.heap.size w wr)
 case atStart=>exact ⟨0,by omega,rfl,⟨rfl,.inl ⟨rfl,rfl⟩⟩,Below.refl _ _⟩
 case round =>
  obtain ⟨j,hn,rfl,hrow,hb⟩:=hrel
  have HR:Hid (wr.ownsRow w.heap.size 5 1 u5 (spL s x j).length ((spL s x j).map (Value.int .u8))):=hrow
  have HB:Hid (Below w.heap.size w wr):=hb
  have hbs:=hb.size
  clear hrow hb
  by_cases hlt:j<s.size
  ·have hlt':(j:Int)<(s.size:Int):=by omega
   have hj0:(0:Int)<=(j:Int):=by omega
   have hch:((s[j]).toNat:Int)=T.ch s j:=(T.ch_lt hlt).symm
   have hln:=zbb s x j
   have HDG:Hid (∀ c w,Calls Tryz.prog 37 #[J .u8 c] w fun e w'=>e=.returned (.bool (T.dig c))/\w'=w):=j6
   have HPK:Hid (∀ (n:Int) w,0<n->n<=2097152->Calls Tryz.prog 27 #[J Z x,J Z n] w fun e w'=>e=.returned (J Z (pkF x n))/\w'=w):=fun n w h1 h2=>zaj x n w x0 x1 h1 (by omega)
   have HE:Hid (spL s x (j+1)=spL s x j++((if (!(spA s j && T.dig (T.ch s j)) && pkF x (j+2)%2==1)=true then [spC x j] else [])++[T.ch s j])):=by
    have hP:spP s x j=(!(spA s j && T.dig (T.ch s j)) && pkF x (j+2)%2==1):=by unfold spP;rw [decide_eq_true hlt,Bool.true_and]
    show _=_
    simp only [spL]
    rw [hP]
   have hp2:=zbq (c:=x) (n:=(j:Int)+2) (by omega)
   have hp3:=zbq (c:=x) (n:=(j:Int)+3) (by omega)
   have HC:Hid (spC x j=if pkF x (j+3)%2=1 then 10 else 32):=rfl
   have P2:=HPK.out (j+2) wr (by omega) (by omega)
   have P3:=HPK.out (j+3) wr (by omega) (by omega)
   clear HPK x0 x1
   go_upto_region 5 with fail
   go_cut [7] (fun s7 wx=>s7=.bool (spA s j)/\wx=wr)
   case first =>
    rcases Nat.eq_zero_or_pos j with h0 | h0
    ·subst h0
     go_wp2_with fail
     go_meet
     exact ⟨rfl,rfl⟩
    ·obtain ⟨m,rfl⟩:∃ m,j=m+1:=⟨j-1,by omega⟩
     have hpos:(0:Int)<((m+1:Nat):Int):=by omega
     have hm1:IntKind.i64.wrap (((m+1:Nat):Int)-1)=(m:Int):=(Jl (by omega) (by omega)).trans (by omega)
     have hchm:((s[m]).toNat:Int)=T.ch s m:=(T.ch_lt (by omega)).symm
     go_wp2_with fail
     refine (HDG.out _ _).mono ?_
     rintro e w' ⟨rfl,hw'⟩
     subst w'
     go_wp2_with fail
     go_meet
     exact ⟨rfl,rfl⟩
   case rest =>
   obtain ⟨rfl,hw0⟩:=hcut
   subst wc
   go_wp2_with fail
   refine (HDG.out _ _).mono ?_
   rintro e w' ⟨rfl,hw'⟩
   subst w'
   clear HDG
   go_upto_region 7 with fail
   generalize spA s j=a at *
   generalize T.dig (T.ch s j)=b at *
   generalize T.ch s j=c at *
   generalize pkF x (j+2)=p2 at *
   generalize pkF x (j+3)=p3 at *
   go_cut [41] (fun s41 wx=>s41=.bool (!(a && b) && p2%2==1)/\wx=wr)
   case first =>
    cases a<;>cases b<;>first
     | (go_wp2_with fail
        go_meet
        exact ⟨rfl,rfl⟩)
     | (go_wp2_with fail
        refine P2.mono ?_
        rintro e w' ⟨rfl,hw'⟩
        subst w'
        go_wp2_with fail
        go_meet
        exact ⟨rfl,rfl⟩)
   case rest =>
   obtain ⟨rfl,hw0⟩:=hcut
   subst wc
   generalize (!(a && b) && p2%2==1)=q at *
   cases q with
   | false =>
    simp only [Bool.false_eq_true,if_false,List.nil_append] at HE
    go_wp2_with (at_builtin;refine wpList_append_lies _ rfl _ _ 48 rfl w.heap.size 5 i0 _ 1 1 Tryz.underlying48 hi0 hz0 hz1 hz2 rfl (by decide) u5 _ _ rfl (HR.out.alloc _) ⟨wr.heap.size,0,none⟩ 1 1 [J .u8 c] rfl rfl (World.news_of_block (cs:=#[J .u8 c]) (t:=5) (fr:=(0,0)) (heap_alloc_new wr _)) (Qs _) (Nat.lt_succ_self 0) (by unfold maxLen;omega) (by omega) (by simp;omega) (wr.heap.size+1) (by simp) ?_;intro g4 cap4 w4 hown4 hgrow4 hat4 hlt4)
    have HR4:Hid (w4.ownsRow w.heap.size 5 1 (O (some ⟨g4,0,none⟩) ((spL s x j).length+1) cap4) (spL s x (j+1)).length ((spL s x (j+1)).map (Value.int .u8))):=by
     show World.ownsRow _ _ _ _ _ _ _
     rw [HE.out,List.length_append,List.map_append]
     exact hown4
    have HB4:Hid (Below w.heap.size w w4):=(HB.out.alloc hbs _).grown hgrow4 (by simp;omega) (fun k hk=>(HR.out.lt k hk).1)
    clear hown4 hgrow4 hat4
    go_roundg (gk-1)
    case measure=>omega
    case rel=>exact ⟨j+1,by omega,by go_num,HR4.out,HB4.out⟩
   | true =>
    obtain ⟨y,hy⟩:∃ y,spC x j=y:=⟨_,rfl⟩
    rw [hy] at HE HC
    simp only [if_true,List.singleton_append] at HE
    clear hy
    go_wp2_with fail
    refine P3.mono ?_
    rintro e w' ⟨rfl,hw'⟩
    subst w'
    go_upto_if 47 with fail
    go_cut [9] (fun s9 wx=>s9=J .u8 y/\wx=wr)
    case first =>
     by_cases h3:p3%2=1
     ·rw [if_pos h3] at HC
      have h3':(p3%2==1)=true:=by simp [h3]
      go_wp2_with fail
      go_meet
      exact ⟨by rw [HC.out],rfl⟩
     ·rw [if_neg h3] at HC
      have h3':(p3%2==1)=false:=by simp [h3]
      go_wp2_with fail
      go_meet
      exact ⟨by rw [HC.out],rfl⟩
    case rest =>
    obtain ⟨rfl,hw0⟩:=hcut
    subst wc
    go_upto_region 12 with (at_builtin;refine wpList_append_lies _ rfl _ _ 48 rfl w.heap.size 5 i0 _ 1 1 Tryz.underlying48 hi0 hz0 hz1 hz2 rfl (by decide) u5 _ _ rfl (HR.out.alloc _) ⟨wr.heap.size,0,none⟩ 1 1 [J .u8 y] rfl rfl (World.news_of_block (cs:=#[J .u8 y]) (t:=5) (fr:=(0,0)) (heap_alloc_new wr _)) (Qs _) (Nat.lt_succ_self 0) (by unfold maxLen;omega) (by omega) (by simp;omega) (wr.heap.size+1) (by simp) ?_;intro g3 cap3 w3 hown3 hgrow3 hat3 hlt3)
    have HR3:Hid (w3.ownsRow w.heap.size 5 1 (O (some ⟨g3,0,none⟩) ((spL s x j).length+1) cap3) ((spL s x j).length+1) ((spL s x j).map (Value.int .u8)++[J .u8 y])):=hown3
    have HB3:Hid (Below w.heap.size w w3):=(HB.out.alloc hbs _).grown hgrow3 (by simp;omega) (fun k hk=>(HR.out.lt k hk).1)
    have hbs3:=HB3.out.size
    clear hown3 hgrow3 hat3
    go_wp2_with (at_builtin;refine wpList_append_lies _ rfl _ _ 48 rfl w.heap.size 5 i0 _ 1 1 Tryz.underlying48 hi0 hz0 hz1 hz2 rfl (by decide) (O (some ⟨g3,0,none⟩) ((spL s x j).length+1) cap3) _ _ rfl (HR3.out.alloc _) ⟨w3.heap.size,0,none⟩ 1 1 [J .u8 c] rfl rfl (World.news_of_block (cs:=#[J .u8 c]) (t:=5) (fr:=(0,0)) (heap_alloc_new w3 _)) (Qs _) (Nat.lt_succ_self 0) (by unfold maxLen;omega) (by omega) (by simp;omega) (w3.heap.size+1) (by simp) ?_;intro g4 cap4 w4 hown4 hgrow4 hat4 hlt4)
    have HR4:Hid (w4.ownsRow w.heap.size 5 1 (O (some ⟨g4,0,none⟩) ((spL s x j).length+1+1) cap4) (spL s x (j+1)).length ((spL s x (j+1)).map (Value.int .u8))):=by
     show World.ownsRow _ _ _ _ _ _ _
     have e1:(spL s x (j+1)).length=(spL s x j).length+1+1:=by rw [HE.out];simp
     rw [e1,HE.out,List.map_append]
     simpa using hown4
    have HB4:Hid (Below w.heap.size w w4):=(HB3.out.alloc hbs3 _).grown hgrow4 (by simp;omega) (fun k hk=>(HR3.out.lt k hk).1)
    clear hown4 hgrow4 hat4
    go_roundg (gk-1)
    case measure=>omega
    case rel=>exact ⟨j+1,by omega,by go_num,HR4.out,HB4.out⟩
  ·have hlt':¬ (j:Int)<(s.size:Int):=by omega
   have hje:j=s.size:=by omega
   subst hje
   rcases HR.out.2 with ⟨h1,h2⟩ | ⟨g,cap,cur,h1,h2,h3,h4,h5,h6,h7⟩
   ·subst h1
    have HE:Hid (spT s x=ByteArray.empty):=by show _=_;unfold spT;rw [List.eq_nil_of_length_eq_zero h2];rfl
    have hcn':=hcn wr
    go_wp2_with fail
    go_ret
    exact ⟨HB.out,by rw [HE.out];rfl⟩
   ·subst h1
    have hcv':=hcv wr g (spL s x s.size).length cap (spL s x s.size) rfl (fun i hi=>by
     have:=World.ownsRow.cellAt HR.out i (by omega)
     rw [Nat.zero_add,this]
     simp [hi])
    have HE:Hid (strOfNums (spL s x s.size)=spT s x):=rfl
    rw [HE.out] at hcv'
    go_wp2_with fail
    go_ret
    exact ⟨HB.out,rfl⟩
abbrev vW (x:WD):Value:=.agg #[J Z x.a,J Z x.b,J Z x.d,O x.do_ x.dl x.dc,O x.ao x.al.length x.ac,O x.po x.pl x.pcp]
abbrev bW (x:WD):Obj:=.cells #[J Z x.a,J Z x.b,J Z x.d,O x.do_ x.dl x.dc,O x.ao x.al.length x.ac,O x.po x.pl x.pcp] 30 (0,0)
abbrev bA (o:Option Addr) (n k:Nat) (t c:Int):Obj:=.cells #[O o n k,J Z t,J Z c] 35 (0,0)
theorem xO {e:EX} {K:List Int} (hK:∀ k∈K,0<=k/\k<=1001) (hk:e.kind≠61):1<=szE e K:=by
 unfold szE yM
 have h1:=YT hK e.inner
 have h2:=xr hK e.items e.items.length
 rw [if_neg hk]
 split<;>omega
theorem GD.sz_pos {E:List EX} {j:Nat} (h:GD E j):1<=szR E (j+1):=by
 induction h with
 | @servers j e he hk _ _ _ _=>simp only [szR,he];exact xO (ZR E j) (by omega)
 | @alias j e he hk _ _ _ _=>simp only [szR,he];exact xO (ZR E j) (by omega)
 | @name j i e he hk hi hin hij _ ih =>
  simp only [szR,he,szE,yM]
  rw [if_pos hk,hin,hi,Xj E hij]
  simp only [List.length_nil,yj,Int.add_zero]
  split<;>omega
 | @ttl j i e he hk _ _ _ _ _ _ _=>simp only [szR,he];exact xO (ZR E j) (by omega)
 | @list j i e he hk _ _ _ _ _ _ _=>simp only [szR,he];exact xO (ZR E j) (by omega)
 | @maps j i e an he hk _ _ _ _ _ _ _ _ _ _ _ _=>simp only [szR,he];exact xO (ZR E j) (by omega)
theorem sz_pos {s:ByteArray} (h:(zX s).1=0):1<=(cSz s).1:=by
 obtain ⟨h1,h2⟩:=xf h
 have:=h2.sz_pos
 rw [Nat.sub_add_cancel h1] at this
 unfold cSz
 rw [if_pos h]
 exact this
theorem Qd {s t:ByteArray} {x:WD} (h:YU s t) (hf:ZG s=true) (hr:x.right=true) (wz:World) (hx:x.In wz):Calls Tryz.prog 16 #[.string t,vW x] wz (zeF wz (x.an s).1 (x.an s).2.1 (x.an s).2.2):=by
 obtain ⟨p1,p2,p3,p4,_,_⟩:=zeA hf hr
 have hc:=h.cx (YA (YP hf)).1
 exact zaV t x _ _ _ wz hx (h.ce.trans (YP hf)) (by rw [hc];exact zdR hf hr) p1 p2 p3 p4
theorem jj (s:ByteArray) (x:WD) (wh:Int) (w:World) (hx:x.In w) (hn:x.pl*24<=140737488351232) (hs:s.size<=1048576) (r0:-9223372036854775808<=wh) (r1:wh<=9223372036854775807) :
 Calls Tryz.prog 9 #[.string s,vW x,J Z wh] w fun e w'=>e=.returned (.bool true)/\Below w.heap.size w w':=by
 have HX:Hid (x.In w):=hx
 have HSP:Hid _:=fun wz=>jB s wh wz hs r0 r1
 have HAL:Hid ((spT s wh).size<=2000->YU s (spT s wh)):=fun h=>zdB ((zba s wh).alike h).1 ((zba s wh).alike h).2
 generalize spT s wh=t at *
 have HF:Hid _:=fun wz=>ja s wz
 have HRT:Hid (∀ wz,x.In wz->Calls Tryz.prog 14 #[vW x] wz fun e w'=>e=.returned (.bool x.right)/\Below wz.heap.size wz w'):=fun wz h=>q8 x wz h hn
 have HRF:Hid (∀ wz,x.In wz->ZG s=false\/x.right=false->Calls Tryz.prog 15 #[.string s,vW x,.bool (ZG s)] wz fun e w'=>e=.returned (.bool true)/\Below wz.heap.size wz w'):=fun wz h h2=>Xy s x wz h h2
 have HAN:Hid _:=fun hf hr=>Qd (x:=x) (YU.refl s) hf hr
 have HAN2:Hid _:=fun ht hf hr=>Qd (x:=x) (HAL.out ht) hf hr
 have HCS:Hid _:=fun wz=>qq s wz _ rfl
 have HCT:Hid _:=fun wz=>qq t wz _ rfl
 have HZS:Hid _:=fun wz=>xt s wz
 have HZT:Hid _:=fun wz=>xt t wz
 have HCE:Hid (t.size<=2000->(zX t).1=(zX s).1/\cSz t=cSz s):=fun h=>⟨(HAL.out h).ck,(HAL.out h).sz⟩
 have HOK:Hid (ZG s=true->(zX s).1=0/\1<=(cSz s).1):=fun h=>⟨(YA (YP h)).1,sz_pos (YA (YP h)).1⟩
 obtain ⟨sv,tt,c,HANE⟩:∃ sv tt c,Hid (x.an s=(sv,tt,c)):=⟨_,_,_,rfl⟩
 rw [HANE.out] at HAN HAN2
 simp only at HAN HAN2
 generalize ZG s=F at *
 generalize x.right=RR at *
 clear hx hn hs r0 r1 HAL HANE
 have HB0:Hid (Below w.heap.size w (w.alloc (bW x))):=(Below.refl _ _).alloc (Nat.le_refl _) _
 have HW0:Hid ((w.alloc (bW x)).heap[w.heap.size]?=some (bW x)):=heap_alloc_new w _
 go_enter Tryz.func9,Tryz.ntmps9
 go_wp2_with fail
 generalize w.alloc (bW x)=w1 at *
 refine (HSP.out _).mono ?_
 rintro e w2 ⟨hb,rfl⟩
 have HB2:Hid (Below w.heap.size w w2):=HB0.out.trans (hb.mono HB0.out.size)
 have HW2:Hid (w2.heap[w.heap.size]?=some (bW x)):=(hb.block _ (lt_of_block HW0.out)).trans HW0.out
 clear hb
 by_cases hts:t.size<=2000
 ·have hts':¬ (2000:Int)<(t.size:Int):=by omega
  obtain ⟨e1,e2⟩:=HCE.out hts
  rw [e1] at HCT
  rw [e2] at HZT
  generalize (zX s).1=E at *
  generalize (zX s).2=p1 at *
  generalize (zX t).2=p2 at *
  obtain ⟨z,ze,HZ⟩:∃ z ze,Hid (cSz s=(z,ze)):=⟨_,_,rfl⟩
  rw [HZ.out] at HZS HZT HOK
  simp only at HZS HZT HOK
  clear e1 e2 HZ HCE
  have HAN2:Hid _:=HAN2.out hts
  go_wp2_with fail
  refine (HF.out _).mono ?_
  rintro e w3 ⟨rfl,hb⟩
  have HB3:Hid (Below w.heap.size w w3):=HB2.out.trans (hb.mono HB2.out.size)
  have HW3:Hid (w3.heap[w.heap.size]?=some (bW x)):=(hb.block _ (lt_of_block HW2.out)).trans HW2.out
  clear hb
  obtain ⟨q0,q1,q2,q3,q4,q5⟩:=ld6 HW3.out rfl
  go_wp2_with fail
  refine (HRT.out _ (HX.out.below HB3.out)).mono ?_
  rintro e w4 ⟨rfl,hb⟩
  have HB4:Hid (Below w.heap.size w w4):=HB3.out.trans (hb.mono HB3.out.size)
  have HW4:Hid (w4.heap[w.heap.size]?=some (bW x)):=(hb.block _ (lt_of_block HW3.out)).trans HW3.out
  clear hb
  clear q0 q1 q2 q3 q4 q5
  go_wp2_with fail
  refine (HCS.out _).mono ?_
  rintro e w5 ⟨hb,rfl⟩
  have HB5:Hid (Below w.heap.size w w5):=HB4.out.trans (hb.mono HB4.out.size)
  have HW5:Hid (w5.heap[w.heap.size]?=some (bW x)):=(hb.block _ (lt_of_block HW4.out)).trans HW4.out
  clear hb
  go_wp2_with fail
  refine (HCT.out _).mono ?_
  rintro e w6 ⟨hb,rfl⟩
  have HB6:Hid (Below w.heap.size w w6):=HB5.out.trans (hb.mono HB5.out.size)
  have HW6:Hid (w6.heap[w.heap.size]?=some (bW x)):=(hb.block _ (lt_of_block HW5.out)).trans HW5.out
  clear hb
  go_wp2_with fail
  refine (HZS.out _).mono ?_
  rintro e w7 ⟨hb,rfl⟩
  have HB7:Hid (Below w.heap.size w w7):=HB6.out.trans (hb.mono HB6.out.size)
  have HW7:Hid (w7.heap[w.heap.size]?=some (bW x)):=(hb.block _ (lt_of_block HW6.out)).trans HW6.out
  clear hb
  go_wp2_with fail
  refine (HZT.out _).mono ?_
  rintro e w8 ⟨hb,rfl⟩
  have HB8:Hid (Below w.heap.size w w8):=HB7.out.trans (hb.mono HB7.out.size)
  have HW8:Hid (w8.heap[w.heap.size]?=some (bW x)):=(hb.block _ (lt_of_block HW7.out)).trans HW7.out
  clear hb
  obtain ⟨q0,q1,q2,q3,q4,q5⟩:=ld6 HW8.out rfl
  have hne:(E != E)=false:=by simp
  have hnz:(z != z)=false:=by simp
  have hREF:F=false\/RR=false->_:=fun h=>HRF.out w8 (HX.out.below HB8.out) h
  cases F with
  | false =>
   have HC:=hREF (.inl rfl)
   clear hREF
   go_wp2_with fail
   refine HC.mono ?_
   rintro e w9 ⟨rfl,hb⟩
   have HB9:Hid (Below w.heap.size w w9):=HB8.out.trans (hb.mono HB8.out.size)
   clear hb
   go_wp2_with fail
   go_ret
   exact ⟨rfl,HB9.out⟩
  | true =>
   obtain ⟨rfl,hz1⟩:=HOK.out rfl
   have hz2:¬ z<1:=by omega
   cases RR with
   | false =>
    have HC:=hREF (.inr rfl)
    clear hREF
    go_wp2_with fail
    refine HC.mono ?_
    rintro e w9 ⟨rfl,hb⟩
    have HB9:Hid (Below w.heap.size w w9):=HB8.out.trans (hb.mono HB8.out.size)
    clear hb
    go_wp2_with fail
    go_ret
    exact ⟨rfl,HB9.out⟩
   | true =>
    clear hREF
    have HC1:=HAN.out (by first | rfl | trivial) (by first | rfl | trivial) w8 (HX.out.below HB8.out)
    go_wp2_with fail
    refine HC1.mono ?_
    rintro e w9 ⟨hb,o9,k9,rfl,hrow⟩
    have HB9:Hid (Below w.heap.size w w9):=HB8.out.trans (hb.mono HB8.out.size)
    have HW9:Hid (w9.heap[w.heap.size]?=some (bW x)):=(hb.block _ (lt_of_block HW8.out)).trans HW8.out
    clear hb
    have HR9:Hid (w9.ownsRow w.heap.size 3 1 (O o9 sv.length k9) sv.length (sv.map (J Z))):=yC hrow HB8.out.size
    clear hrow HC1 q0 q1 q2 q3 q4 q5
    have hlt9:w.heap.size<w9.heap.size:=lt_of_block HW9.out
    have HBa:Hid (Below w.heap.size w (w9.alloc (bA o9 sv.length k9 tt c))):=HB9.out.alloc HB9.out.size _
    have HWa:Hid ((w9.alloc (bA o9 sv.length k9 tt c)).heap[w.heap.size]?=some (bW x)):=(Below.heap_alloc _ _ _ hlt9).trans HW9.out
    have HAa:Hid ((w9.alloc (bA o9 sv.length k9 tt c)).heap[w9.heap.size]?=some (bA o9 sv.length k9 tt c)):=heap_alloc_new _ _
    have HRa:Hid ((w9.alloc (bA o9 sv.length k9 tt c)).ownsRow w.heap.size 3 1 (O o9 sv.length k9) sv.length (sv.map (J Z))):=HR9.out.alloc _
    obtain ⟨q0,q1,q2,q3,q4,q5⟩:=ld6 HWa.out rfl
    have HC2:=HAN2.out (by first | rfl | trivial) (by first | rfl | trivial) (w9.alloc (bA o9 sv.length k9 tt c)) (HX.out.below HBa.out)
    go_wp2_with fail
    generalize w9.alloc (bA o9 sv.length k9 tt c)=wa at *
    refine HC2.mono ?_
    rintro e wb ⟨hb,ob,kb,rfl,hrow⟩
    have HBb:Hid (Below w.heap.size w wb):=HBa.out.trans (hb.mono HBa.out.size)
    have HAb:Hid (wb.heap[w9.heap.size]?=some (bA o9 sv.length k9 tt c)):=(hb.block _ (lt_of_block HAa.out)).trans HAa.out
    have hltb:w9.heap.size<wb.heap.size:=lt_of_block HAb.out
    have HRb:Hid ((wb.alloc (bA ob sv.length kb tt c)).ownsRow w.heap.size 3 1 (O o9 sv.length k9) sv.length (sv.map (J Z))):=(zw HRa.out (fun g hg=>hb.block g (HRa.out.lt g hg).2)).alloc _
    have HRc:Hid ((wb.alloc (bA ob sv.length kb tt c)).ownsRow w.heap.size 3 1 (O ob sv.length kb) sv.length (sv.map (J Z))):=(yC hrow HBa.out.size).alloc _
    have HBc:Hid (Below w.heap.size w (wb.alloc (bA ob sv.length kb tt c))):=HBb.out.alloc HBb.out.size _
    have HAc:Hid ((wb.alloc (bA ob sv.length kb tt c)).heap[w9.heap.size]?=some (bA o9 sv.length k9 tt c)):=(Below.heap_alloc _ _ _ hltb).trans HAb.out
    obtain ⟨a0,a1,a2,-,-,-⟩:=ld3 HAc.out
    clear hb hrow q0 q1 q2 q3 q4 q5 HC2
    obtain ⟨ga,hisa⟩:=Y9 HRb.out
    obtain ⟨gb,hisb⟩:=Y9 HRc.out
    have hsl:sv.length<=9223372036854775807:=by
     rcases HRb.out.2 with ⟨_,h2⟩ | ⟨_,cap,_,h1,_,_,h4,h5,_⟩
     ·omega
     ·unfold maxLen at h5;cases h1;omega
    have HSM:=qA o9 ob k9 kb sv.length tt c _ ga 0 gb 0 _ hsl hisa hisb
    clear hisa hisb
    go_wp2_with fail
    refine HSM.mono ?_
    rintro e wd ⟨rfl,hb⟩
    have HBd:Hid (Below w.heap.size w wd):=HBc.out.trans (hb.mono HBc.out.size)
    clear hb HSM
    go_wp2_with fail
    go_ret
    exact ⟨rfl,HBd.out⟩
 ·have hts':(2000:Int)<(t.size:Int):=by omega
  go_wp2_with fail
  go_ret
  exact ⟨rfl,HB2.out⟩
theorem JD (s:ByteArray):∀ n,(leJ s n).1.length<=n:=by
 intro n
 induction n with
 | zero=>exact Nat.le_refl _
 | succ n ih =>
  simp only [leJ,leT]
  split
  ·simp;omega
  ·split
   ·exact Nat.le_succ_of_le ih
   ·exact Nat.le_succ_of_le ih
theorem Q3 (s:ByteArray) (w:World) (hs:s.size<=1048576) :
 Calls Tryz.prog 23 #[.string s] w fun e w'=>Below w.heap.size w w'/\∃ o k,e=.returned (O o (leJ s s.size).1.length k)/\w'.ownsRow w.heap.size 5 1 (O o (leJ s s.size).1.length k) (leJ s s.size).1.length ((leJ s s.size).1.map (Value.int .u8)):=by
 obtain ⟨i0,hi0,hz0,hz1,hz2⟩:=info_parts Tryz.infoByte
 go_enter Tryz.func23,Tryz.ntmps23
 go_wp2_with fail
 go_loopg [3,4,5] s.size (fun n x3 x4 y wr=>∃ (j:Nat),n+j=s.size/\y=J Z j/\x4=.bool (leJ s j).2/\wr.ownsRow w.heap.size 5 1 x3 (leJ s j).1.length ((leJ s j).1.map (Value.int .u8))/\Below w.heap.size w wr)
 case atStart=>exact ⟨0,by omega,rfl,rfl,⟨rfl,.inl ⟨rfl,rfl⟩⟩,Below.refl _ _⟩
 case round =>
  obtain ⟨j,hn,rfl,rfl,hrow,hb⟩:=hrel
  have HR:Hid (wr.ownsRow w.heap.size 5 1 u3 (leJ s j).1.length ((leJ s j).1.map (Value.int .u8))):=hrow
  have HB:Hid (Below w.heap.size w wr):=hb
  have hbs:=hb.size
  clear hrow hb
  by_cases hlt:j<s.size
  ·have hlt':(j:Int)<(s.size:Int):=by omega
   have hj0:(0:Int)<=(j:Int):=by omega
   have hch:((s[j]).toNat:Int)=T.ch s j:=(T.ch_lt hlt).symm
   have hln:=JD s j
   have HE:Hid (leJ s (j+1)=if (leJ s j).2=true/\97<=T.ch s j/\T.ch s j<=122 then ((leJ s j).1++[T.ch s j],false) else if T.ch s j=59 then ((leJ s j).1,true) else leJ s j):=rfl
   generalize T.ch s j=c at *
   obtain ⟨l,f,HQ⟩:∃ l f,Hid (leJ s j=(l,f)):=⟨_,_,rfl⟩
   rw [HQ.out] at HR HE hln ⊢
   simp only at HR HE hln ⊢
   cases f with
   | false =>
    rw [if_neg (by simp)] at HE
    by_cases h59:c=59
    ·rw [if_pos h59] at HE
     subst h59
     go_wp2_with fail
     go_roundg (gk-1)
     case measure=>omega
     case rel=>exact ⟨j+1,by omega,by go_num,by rw [HE.out],by rw [HE.out];exact HR.out,HB.out⟩
    ·rw [if_neg h59] at HE
     have h59':(c==59)=false:=by simp [h59]
     go_wp2_with fail
     go_roundg (gk-1)
     case measure=>omega
     case rel=>exact ⟨j+1,by omega,by go_num,by rw [HE.out],by rw [HE.out];exact HR.out,HB.out⟩
   | true =>
    by_cases h97:97<=c
    ·by_cases h122:c<=122
     ·rw [if_pos ⟨rfl,h97,h122⟩] at HE
      have h59':(c==59)=false:=by simp;omega
      go_wp2_with (at_builtin;refine wpList_append_lies _ rfl _ _ 48 rfl w.heap.size 5 i0 _ 1 1 Tryz.underlying48 hi0 hz0 hz1 hz2 rfl (by decide) u3 _ _ rfl (HR.out.alloc _) ⟨wr.heap.size,0,none⟩ 1 1 [J .u8 c] rfl rfl (World.news_of_block (cs:=#[J .u8 c]) (t:=5) (fr:=(0,0)) (heap_alloc_new wr _)) (Qs _) (Nat.lt_succ_self 0) (by unfold maxLen;omega) (by omega) (by simp;omega) (wr.heap.size+1) (by simp) ?_;intro g4 cap4 w4 hown4 hgrow4 hat4 hlt4)
      have HR4:Hid (w4.ownsRow w.heap.size 5 1 (O (some ⟨g4,0,none⟩) (l.length+1) cap4) (l++[c]).length ((l++[c]).map (Value.int .u8))):=by
       show World.ownsRow _ _ _ _ _ _ _
       rw [List.length_append,List.map_append]
       exact hown4
      have HB4:Hid (Below w.heap.size w w4):=(HB.out.alloc hbs _).grown hgrow4 (by simp;omega) (fun k hk=>(HR.out.lt k hk).1)
      clear hown4 hgrow4 hat4
      go_roundg (gk-1)
      case measure=>omega
      case rel=>exact ⟨j+1,by omega,by go_num,by rw [HE.out],by rw [HE.out];exact HR4.out,HB4.out⟩
     ·rw [if_neg (by omega),if_neg (by omega)] at HE
      have h59':(c==59)=false:=by simp;omega
      go_wp2_with fail
      go_roundg (gk-1)
      case measure=>omega
      case rel=>exact ⟨j+1,by omega,by go_num,by rw [HE.out],by rw [HE.out];exact HR.out,HB.out⟩
    ·by_cases h59:c=59
     ·rw [if_neg (by omega),if_pos h59] at HE
      subst h59
      go_wp2_with fail
      go_roundg (gk-1)
      case measure=>omega
      case rel=>exact ⟨j+1,by omega,by go_num,by rw [HE.out],by rw [HE.out];exact HR.out,HB.out⟩
     ·rw [if_neg (by omega),if_neg h59] at HE
      have h59':(c==59)=false:=by simp [h59]
      go_wp2_with fail
      go_roundg (gk-1)
      case measure=>omega
      case rel=>exact ⟨j+1,by omega,by go_num,by rw [HE.out],by rw [HE.out];exact HR.out,HB.out⟩
  ·have hlt':¬ (j:Int)<(s.size:Int):=by omega
   have hje:j=s.size:=by omega
   subst hje
   rcases HR.out.2 with ⟨h1,h2⟩ | ⟨g,cap,cur,h1,h2,h3,h4,h5,h6,h7⟩
   ·subst h1
    go_wp2_with fail
    go_ret
    exact ⟨HB.out,none,0,rfl,by have:=HR.out;rw [h2] at this;exact this⟩
   ·subst h1
    go_wp2_with fail
    go_ret
    exact ⟨HB.out,_,_,rfl,HR.out⟩
def UnF (l:List Int) (u:Int):Prop:=(u=0/\∀ c,97<=c->c<=122->c∈l)\/(97<=u/\u<=122/\u ∉ l)
theorem jv (o:Option Addr) (g k:Nat) (l:List Int) (w:World) (hl:l.length<=1048576) (ho:0<l.length->o=some ⟨g,0,none⟩) (hc:∀ i x,l[i]?=some x->w.cell? ⟨g,i,none⟩=some (J .u8 x)) :
 Calls Tryz.prog 24 #[O o l.length k] w fun e w'=>w'=w/\∃ u,e=.returned (J .u8 u)/\UnF l u:=by
 have HO:Hid (0<l.length->o=some ⟨g,0,none⟩):=ho
 have HC:Hid (∀ i x,l[i]?=some x->w.cell? ⟨g,i,none⟩=some (J .u8 x)):=hc
 clear ho hc
 go_enter Tryz.func24,Tryz.ntmps24
 go_wp2_with fail
 go_loopg [3] 26 (fun n x3 wr=>∃ (j:Nat),n+j=26/\x3=J .u8 (97+j)/\wr=w/\Hid (∀ c:Int,97<=c->c<97+j->c∈l))
 case atStart=>exact ⟨0,rfl,rfl,rfl,fun c h1 h2=>by omega⟩
 case round =>
  obtain ⟨j,hn,rfl,hw,HI⟩:=hrel
  subst wr
  by_cases hj:j<26
  ·have hj1:(97+(j:Int))<=122:=by omega
   go_wp2_with fail
   go_loopg [4,5] l.length (fun n x4 x5 wr=>∃ (i:Nat),n+i=l.length/\x5=J Z i/\x4=.bool ((l.take i).any (·==97+(j:Int)))/\wr=w)
   case atStart=>exact ⟨0,by omega,rfl,rfl,rfl⟩
   case round =>
    obtain ⟨i,hi,rfl,rfl,hw⟩:=hrel
    subst wr
    by_cases hil:i<l.length
    ·have hil':(i:Int)<(l.length:Int):=by omega
     have hi0:(0:Int)<=(i:Int):=by omega
     have hx:l[i]?=some l[i]:=List.getElem?_eq_getElem hil
     have hcx:=HC.out i _ hx
     have ho2:=HO.out (by omega)
     subst ho2
     have HE:Hid ((l.take (i+1)).any (·==97+(j:Int))=((l.take i).any (·==97+(j:Int)) || l[i]==97+(j:Int))):=by
      show _=_
      rw [List.take_add_one,hx]
      simp only [List.any_append,Option.toList,List.any_cons,List.any_nil,Bool.or_false]
     generalize l[i]=y at *
     generalize (l.take i).any (·==97+(j:Int))=q at *
     cases q with
     | true =>
      go_wp2_with fail
      go_roundg (gk-1)
      case measure=>omega
      case rel=>exact ⟨i+1,by omega,by go_num,by rw [HE.out];rfl,rfl⟩
     | false =>
      go_wp2_with fail
      go_roundg (gk-1)
      case measure=>omega
      case rel=>exact ⟨i+1,by omega,by go_num,by rw [HE.out];rfl,rfl⟩
    ·have hil':¬ (i:Int)<(l.length:Int):=by omega
     have hie:i=l.length:=by omega
     subst hie
     rw [List.take_length]
     have HM:Hid (l.any (·==97+(j:Int))=true↔97+(j:Int)∈l):=by
      show _↔_
      simp
     generalize l.any (·==97+(j:Int))=q at *
     cases q with
     | true =>
      have hm:=HM.out.1 rfl
      go_wp2_with fail
      go_roundg (26-(j+1))
      case measure=>omega
      case rel=>exact ⟨j+1,by omega,by go_num,rfl,fun c h1 h2=>by
       by_cases hc:c=97+j
       ·rw [hc];exact hm
       ·exact HI.out c h1 (by omega)⟩
     | false =>
      have hm:97+(j:Int) ∉ l:=fun h=>by have:=HM.out.2 h;cases this
      go_wp2_with fail
      go_ret
      exact ⟨rfl,_,rfl,.inr ⟨by omega,by omega,hm⟩⟩
  ·have hje:j=26:=by omega
   subst hje
   go_wp2_with fail
   go_ret
   exact ⟨rfl,_,rfl,.inl ⟨rfl,fun c h1 h2=>HI.out c h1 (by omega)⟩⟩
end Go.Proofs.YtaebngpoagjafaaGreat
