import Derived.Test.YtaebngpoagjafabGreatV03
import Derived.Test.YtaebngpoagjafabGreatV08
set_option maxRecDepth 100000
set_option maxHeartbeats 800000
namespace Go.Proofs.YtaebngpoagjafabGreat
open Value renaming int → J, slice → O
open IntKind renaming i64 → Z
open Go.RowKit
attribute [local go_sem ↓] Go.wp_at_zero Go.wp_at_succ
structure SPL where
 l:List ByteArray
 from_:Nat
 deep:Int
def spS (s:ByteArray) (c:Int):Nat->SPL
 | 0=>⟨[],0,0⟩
 | i+1 =>
  let q:=spS s c i
  if T.ch s i=40\/T.ch s i=123 then ⟨q.l,q.from_,q.deep+1⟩
  else if T.ch s i=41\/T.ch s i=125 then ⟨q.l,q.from_,q.deep-1⟩
  else if T.ch s i=c/\q.deep=0 then ⟨q.l++[s.extract q.from_ i],i+1,q.deep⟩
  else q
def spl (s:ByteArray) (c:Int):List ByteArray:=(spS s c s.size).l++[s.extract (spS s c s.size).from_ s.size]
theorem qN (s:ByteArray) (c:Int):∀ i,(spS s c i).from_<=i/\(spS s c i).l.length<=i/\-(i:Int)<=(spS s c i).deep/\(spS s c i).deep<=i:=by
 intro i
 induction i with
 | zero=>simp [spS]
 | succ i ih =>
  simp only [spS]
  split
  ·simp only;omega
  ·split
   ·simp only;omega
   ·split
    ·simp only [List.length_append,List.length_cons,List.length_nil];omega
    ·omega
theorem Tryz.infoStr:(Tryz.prog.info? 9).map (fun i=>(i.zero,i.size,i.bytes))=some (some (.string ByteArray.empty),1,16):=by kernel_rfl
theorem ZE (s:ByteArray) (c:Int) (w:World) (hs:s.size<=2000) :
 Calls Tryz.prog 98 #[.string s,J .u8 c] w fun e w'=>Below w.heap.size w w'/\∃ v,e=.returned v/\w'.ownsRow w.heap.size 9 1 v (spl s c).length ((spl s c).map Value.string):=by
 obtain ⟨i0,hi0,hz0,hz1,hz2⟩:=info_parts Tryz.infoStr
 go_enter Tryz.func98,Tryz.ntmps98
 go_wp2_with fail
 go_loopg [5,6,7,8] s.size (fun n x y z t wr=>∃ (j:Nat),n+j=s.size/\t=J Z j/\y=J Z (spS s c j).from_/\z=J Z (spS s c j).deep/\wr.ownsRow w.heap.size 9 1 x (spS s c j).l.length ((spS s c j).l.map Value.string)/\Below w.heap.size w wr)
 case atStart=>exact ⟨0,by omega,rfl,rfl,rfl,⟨rfl,.inl ⟨rfl,rfl⟩⟩,Below.refl _ _⟩
 case round =>
  obtain ⟨j,hn,rfl,rfl,rfl,hrow,hb⟩:=hrel
  have HR:Hid (wr.ownsRow w.heap.size 9 1 u5 (spS s c j).l.length ((spS s c j).l.map Value.string)):=hrow
  have HB:Hid (Below w.heap.size w wr):=hb
  have hbs:=hb.size
  have hbd:=qN s c j
  clear hrow hb
  by_cases hlt:j<s.size
  ·have hlt':(j:Int)<(s.size:Int):=by omega
   have hj0:(0:Int)<=(j:Int):=by omega
   have hch:((s[j]).toNat:Int)=T.ch s j:=(T.ch_lt hlt).symm
   have HN:Hid (spS s c (j+1)=if T.ch s j=40\/T.ch s j=123 then ⟨(spS s c j).l,(spS s c j).from_,(spS s c j).deep+1⟩ else if T.ch s j=41\/T.ch s j=125 then ⟨(spS s c j).l,(spS s c j).from_,(spS s c j).deep-1⟩ else if T.ch s j=c/\(spS s c j).deep=0 then ⟨(spS s c j).l++[s.extract (spS s c j).from_ j],j+1,(spS s c j).deep⟩ else spS s c j):=rfl
   generalize T.ch s j=h at *
   generalize hq:spS s c j=q at *
   obtain ⟨ql,qf,qd⟩:=q
   simp only at hbd HR
   have hqf0:(0:Int)<=(qf:Int):=by omega
   have hqf1:(qf:Int)<=(j:Int):=by omega
   have hqd0:-2000<=qd:=by omega
   have hqd1:qd<=2000:=by omega
   clear hq
   have hjs:(j:Int)<=(s.size:Int):=by omega
   cases e1:(h==40) with
   | true =>
    have HE:Hid (spS s c (j+1)=⟨ql,qf,qd+1⟩):=by show _=_;rw [HN.out,if_pos (.inl (by simpa using e1))]
    clear HN
    go_wp2_with fail
    go_roundg (gk-1)
    case measure=>omega
    case rel=>exact ⟨j+1,by omega,by go_num,by rw [HE.out],by rw [HE.out],by rw [HE.out];exact HR.out,HB.out⟩
   | false =>
    cases e2:(h==123) with
    | true =>
     have HE:Hid (spS s c (j+1)=⟨ql,qf,qd+1⟩):=by show _=_;rw [HN.out,if_pos (.inr (by simpa using e2))]
     clear HN
     go_wp2_with fail
     go_roundg (gk-1)
     case measure=>omega
     case rel=>exact ⟨j+1,by omega,by go_num,by rw [HE.out],by rw [HE.out],by rw [HE.out];exact HR.out,HB.out⟩
    | false =>
     have n1:¬ (h=40\/h=123):=fun hh=>hh.elim (by simpa using e1) (by simpa using e2)
     cases e3:(h==41) with
     | true =>
      have HE:Hid (spS s c (j+1)=⟨ql,qf,qd-1⟩):=by show _=_;rw [HN.out,if_neg n1,if_pos (.inl (by simpa using e3))]
      clear HN n1
      go_wp2_with fail
      go_roundg (gk-1)
      case measure=>omega
      case rel=>exact ⟨j+1,by omega,by go_num,by rw [HE.out],by rw [HE.out],by rw [HE.out];exact HR.out,HB.out⟩
     | false =>
      cases e4:(h==125) with
      | true =>
       have HE:Hid (spS s c (j+1)=⟨ql,qf,qd-1⟩):=by show _=_;rw [HN.out,if_neg n1,if_pos (.inr (by simpa using e4))]
       clear HN n1
       go_wp2_with fail
       go_roundg (gk-1)
       case measure=>omega
       case rel=>exact ⟨j+1,by omega,by go_num,by rw [HE.out],by rw [HE.out],by rw [HE.out];exact HR.out,HB.out⟩
      | false =>
       have n2:¬ (h=41\/h=125):=fun hh=>hh.elim (by simpa using e3) (by simpa using e4)
       cases e5:(h==c) with
       | false =>
        have HE:Hid (spS s c (j+1)=⟨ql,qf,qd⟩):=by show _=_;rw [HN.out,if_neg n1,if_neg n2,if_neg (fun hh=>by simp at e5;exact e5 hh.1)]
        clear HN n1 n2
        go_wp2_with fail
        go_roundg (gk-1)
        case measure=>omega
        case rel=>exact ⟨j+1,by omega,by go_num,by rw [HE.out],by rw [HE.out],by rw [HE.out];exact HR.out,HB.out⟩
       | true =>
        cases e6:(qd==0) with
        | false =>
         have HE:Hid (spS s c (j+1)=⟨ql,qf,qd⟩):=by show _=_;rw [HN.out,if_neg n1,if_neg n2,if_neg (fun hh=>by simp at e6;exact e6 hh.2)]
         clear HN n1 n2
         go_wp2_with fail
         go_roundg (gk-1)
         case measure=>omega
         case rel=>exact ⟨j+1,by omega,by go_num,by rw [HE.out],by rw [HE.out],by rw [HE.out];exact HR.out,HB.out⟩
        | true =>
         have HE:Hid (spS s c (j+1)=⟨ql++[s.extract qf j],j+1,qd⟩):=by show _=_;rw [HN.out,if_neg n1,if_neg n2,if_pos ⟨by simpa using e5,by simpa using e6⟩]
         clear HN n1 n2
         have hA1:Hid (ql.length+1<=maxLen):=by show _<=_;unfold maxLen;omega
         have hA2:Hid ((ql.length+1)*16<=140737488355328):=by show _<=_;omega
         have hA3:Hid (w.heap.size<=(wr.alloc (.cells #[.string (s.extract qf j)] 9)).heap.size):=by show _<=_;simp;omega
         have hone:Hid (∀ u∈[Value.string (s.extract qf j)],u.oneCell'=true):=fun u hu=>by simp at hu;subst hu;rfl
         go_wp2_with (at_builtin;refine wpList_append_lies _ rfl _ _ 27 rfl w.heap.size 9 i0 _ 1 16 Tryz.underlying27 hi0 hz0 hz1 hz2 rfl (by decide) u5 _ _ rfl (HR.out.alloc _) ⟨wr.heap.size,0,none⟩ 1 1 [.string (s.extract qf j)] rfl rfl (World.news_of_block (cs:=#[.string (s.extract qf j)]) (t:=9) (fr:=(0,0)) (heap_alloc_new wr _)) hone.out (Nat.lt_succ_self 0) hA1.out hA2.out hA3.out (wr.heap.size+1) (by simp) ?_;intro g cap w4 hown hgrow hat hlt4)
         have HR4:Hid (w4.ownsRow w.heap.size 9 1 (O (some ⟨g,0,none⟩) (ql.length+1) cap) (ql++[s.extract qf j]).length ((ql++[s.extract qf j]).map Value.string)):=by
          show World.ownsRow _ _ _ _ _ _ _
          rw [List.length_append,List.map_append]
          exact hown
         have HB4:Hid (Below w.heap.size w w4):=(HB.out.alloc hbs _).grown hgrow (by simp;omega) (fun k hk=>(HR.out.lt k hk).1)
         clear hown hgrow hat
         go_roundg (gk-1)
         case measure=>omega
         case rel=>exact ⟨j+1,by omega,by go_num,by rw [HE.out];go_num,by rw [HE.out],by rw [HE.out];exact HR4.out,HB4.out⟩
  ·have hlt':¬ (j:Int)<(s.size:Int):=by omega
   have hje:j=s.size:=by omega
   subst hje
   have HE:Hid (spl s c=(spS s c s.size).l++[s.extract (spS s c s.size).from_ s.size]):=rfl
   generalize hq:spS s c s.size=q at *
   obtain ⟨ql,qf,qd⟩:=q
   simp only at hbd HR HE
   have hqf0:(0:Int)<=(qf:Int):=by omega
   have hqf1:(qf:Int)<=(s.size:Int):=by omega
   clear hq
   have hA1:Hid (ql.length+1<=maxLen):=by show _<=_;unfold maxLen;omega
   have hA2:Hid ((ql.length+1)*16<=140737488355328):=by show _<=_;omega
   have hA3:Hid (w.heap.size<=(wr.alloc (.cells #[.string (s.extract qf s.size)] 9)).heap.size):=by show _<=_;simp;omega
   have hone:Hid (∀ u∈[Value.string (s.extract qf s.size)],u.oneCell'=true):=fun u hu=>by simp at hu;subst hu;rfl
   go_wp2_with (at_builtin;refine wpList_append_lies _ rfl _ _ 27 rfl w.heap.size 9 i0 _ 1 16 Tryz.underlying27 hi0 hz0 hz1 hz2 rfl (by decide) u5 _ _ rfl (HR.out.alloc _) ⟨wr.heap.size,0,none⟩ 1 1 [.string (s.extract qf s.size)] rfl rfl (World.news_of_block (cs:=#[.string (s.extract qf s.size)]) (t:=9) (fr:=(0,0)) (heap_alloc_new wr _)) hone.out (Nat.lt_succ_self 0) hA1.out hA2.out hA3.out (wr.heap.size+1) (by simp) ?_;intro g cap w4 hown hgrow hat hlt4)
   have HR4:Hid (w4.ownsRow w.heap.size 9 1 (O (some ⟨g,0,none⟩) (ql.length+1) cap) (spl s c).length ((spl s c).map Value.string)):=by
    show World.ownsRow _ _ _ _ _ _ _
    rw [HE.out,List.length_append,List.map_append]
    exact hown
   have HB4:Hid (Below w.heap.size w w4):=(HB.out.alloc hbs _).grown hgrow (by simp;omega) (fun k hk=>(HR.out.lt k hk).1)
   clear hown hgrow hat
   go_wp2_with fail
   go_ret
   exact ⟨HB4.out,_,rfl,HR4.out⟩
def Ze (n:Int):Int:=if 1000<n then 1001 else n
theorem yc (s:ByteArray) (a b:Nat) (h:b<=s.size):(s.extract a b).size=b-a:=by rw [ByteArray.size_extract];omega
theorem Yd (s:ByteArray) (c:Int):0<(spl s c).length:=by simp [spl]
theorem yE {s:ByteArray} {c:Int} {t:ByteArray} (h:t∈spl s c):t.size<=s.size:=by
 have key:∀ i,i<=s.size->∀ t∈(spS s c i).l,t.size<=s.size:=by
  intro i
  induction i with
  | zero=>intro _ t ht;simp [spS] at ht
  | succ i ih =>
   intro hi t ht
   simp only [spS] at ht
   split at ht
   ·exact ih (by omega) t ht
   ·split at ht
    ·exact ih (by omega) t ht
    ·split at ht
     ·simp only [List.mem_append,List.mem_singleton] at ht
      rcases ht with ht | ht
      ·exact ih (by omega) t ht
      ·subst ht;rw [yc s _ _ (by omega)];omega
     ·exact ih (by omega) t ht
 unfold spl at h
 rcases List.mem_append.1 h with h | h
 ·exact key s.size (Nat.le_refl _) t h
 ·simp at h;subst h;rw [yc s _ _ (Nat.le_refl _)];omega
theorem ZH {w:World} {base g cap n:Nat} {l:List ByteArray} (h:w.ownsRow base 9 1 (O (some ⟨g,0,none⟩) n cap) l.length (l.map Value.string)) {i:Nat} {t:ByteArray} (hi:l[i]?=some t):w.cell? ⟨g,i,none⟩=some (.string t):=by
 have hlt:i<l.length:=(List.getElem?_eq_some_iff.1 hi).1
 have hn:n=l.length:=by
  rcases h.2 with ⟨h0,_⟩ | ⟨g',cap',cur,h0,_⟩
  ·cases h0
  ·cases h0;rfl
 subst hn
 rw [World.ownsRow.cellAt h i (by omega)]
 simp [hi]
theorem yX {w:World} {base:Nat} {l:List ByteArray} {v:Value} (h:w.ownsRow base 9 1 v l.length (l.map Value.string)) (hl:0<l.length):∃ g cap,v=O (some ⟨g,0,none⟩) l.length cap/\base<=g/\g<w.heap.size:=by
 rcases h.2 with ⟨h0,h1⟩ | ⟨g',cap',cur,h0,h1,h2,_⟩
 ·omega
 ·exact ⟨g',cap',h0,h1,lt_of_block h2⟩
theorem Yl (n:Int) (w:World):Calls Tryz.prog 100 #[J Z n] w fun e w'=>w'=w/\e=.returned (J Z (Ze n)):=by
 by_cases h:1000<n
 ·have HE:Hid (Ze n=1001):=by show _=_;unfold Ze;rw [if_pos h]
  go_enter Tryz.func100,Tryz.ntmps100
  go_wp2_with fail
  go_ret
  exact ⟨rfl,by rw [HE.out];rfl⟩
 ·have HE:Hid (Ze n=n):=by show _=_;unfold Ze;rw [if_neg h]
  have h':n<=1000:=by omega
  clear h
  go_enter Tryz.func100,Tryz.ntmps100
  go_wp2_with fail
  go_ret
  exact ⟨rfl,by rw [HE.out];rfl⟩
theorem zcZ (s a:ByteArray) (w:World) (hs:s.size<=2000) (ha:(spl s 58)[0]?=some a) (hl:a.size+1<=s.size) :
 Calls Tryz.prog 102 #[.string s] w fun e w'=>Below w.heap.size w w'/\e=.returned (.tuple #[.string a,.string (s.extract (a.size+1) s.size)]):=by
 go_enter Tryz.func102,Tryz.ntmps102
 go_wp2_with fail
 refine (ZE s 58 _ hs).mono ?_
 rintro e w1 ⟨hb,v,rfl,hrow⟩
 obtain ⟨g,cap,rfl,hg,hgl⟩:=yX hrow (Yd s 58)
 have c0:=ZH hrow ha
 have hne:=Yd s 58
 have HB:Hid (Below w.heap.size w w1):=hb
 clear hb hrow ha
 generalize (spl s 58).length=n at *
 have hn0:(0:Int)<(n:Int):=by omega
 have h1:(a.size:Int)+1<=(s.size:Int):=by omega
 have h2:(s.size:Int)<=2000:=by omega
 go_wp2_with fail
 go_quiet (fail)
 go_wp2_with fail
 go_ret2
 exact ⟨zQ HB.out _,rfl⟩
theorem qn (s a b:ByteArray) (w:World) (hs:s.size<=2000) (h3:3<=s.size) (ha:(spl (s.extract 2 (s.size-1)) 124)[0]?=some a) (hb:(spl (s.extract 2 (s.size-1)) 124)[1]?=some b) :
 Calls Tryz.prog 101 #[.string s] w fun e w'=>Below w.heap.size w w'/\∃ v,e=.returned (.tuple #[v,.string b])/\w'.ownsRow w.heap.size 9 1 v (spl a 44).length ((spl a 44).map Value.string):=by
 have hsz:(s.extract 2 (s.size-1)).size<=2000:=by rw [yc s _ _ (by omega)];omega
 have h1:(3:Int)<=(s.size:Int):=by omega
 have h2:(s.size:Int)<=2000:=by omega
 go_enter Tryz.func101,Tryz.ntmps101
 go_wp2_with fail
 refine (ZE (s.extract 2 (s.size-1)) 124 _ hsz).mono ?_
 rintro e w1 ⟨hb1,v,rfl,hrow⟩
 obtain ⟨g,cap,rfl,hg,hgl⟩:=yX hrow (Yd _ _)
 have c0:=ZH hrow ha
 have c1:=ZH hrow hb
 have hn1:1<(spl (s.extract 2 (s.size-1)) 124).length:=(List.getElem?_eq_some_iff.1 hb).1
 have HB:Hid (Below w.heap.size w w1):=hb1
 have hza:a.size<=2000:=Nat.le_trans (yE (List.mem_of_getElem? ha)) hsz
 clear hb1 hrow ha hb
 generalize (spl (s.extract 2 (s.size-1)) 124).length=n at *
 have hn0:(1:Int)<(n:Int):=by omega
 have hn2:(0:Int)<(n:Int):=by omega
 have hsp:=fun wz=>ZE a 44 wz hza
 go_wp2_with fail
 go_region_with (go_at_call 98;refine (hsp _).mono ?_;rintro e w2 ⟨hb2,v2,rfl,hrow2⟩;have d1:=(hb2.cell (p:=⟨g,1,none⟩) hgl).trans c1)
 all_goals
  have HB2:Hid (Below w.heap.size w w2):=HB.out.drew.trans (hb2.mono HB.out.size)
  have HR2:Hid (w2.ownsRow w.heap.size 9 1 v2 (spl a 44).length ((spl a 44).map Value.string)):=by
   have hz:w.heap.size<=w1.drew.heap.size:=HB.out.size
   refine ⟨hrow2.1,?_⟩
   rcases hrow2.2 with h | ⟨g',cp,cur,h0,h1,h2⟩
   ·exact .inl h
   ·exact .inr ⟨g',cp,cur,h0,Nat.le_trans hz h1,h2⟩
  clear hb2 hrow2
  go_wp2_with fail
  go_ret2
  exact ⟨HB2.out,_,rfl,HR2.out⟩
def knL (nm:ByteArray) (c:Int):List Int->Nat->Int
 | [],_=>0
 | k::r,i=>if T.ch nm i=c then k else knL nm c r (i+1)
structure KV (w:World) (PB:Nat) (nm:ByteArray) (ko:Option Addr) (K:List Int):Prop where
 lt:PB<w.heap.size
 nm:w.cell? ⟨PB,0,none⟩=some (.string nm)
 kn:∀ i v,K[i]?=some v->∃ g,ko=some ⟨g,0,none⟩/\g<w.heap.size/\w.cell? ⟨g,i,none⟩=some (J Z v)
theorem KV.below {w w':World} {PB:Nat} {nm:ByteArray} {ko:Option Addr} {K:List Int} (h:KV w PB nm ko K) (hb:Below w.heap.size w w'):KV w' PB nm ko K :=
 ⟨Nat.lt_of_lt_of_le h.lt hb.size,by rw [hb.cell (p:=⟨PB,0,none⟩) h.lt];exact h.nm,fun i v hv=>by
  obtain ⟨g,h1,h2,h3⟩:=h.kn i v hv
  exact ⟨g,h1,Nat.lt_of_lt_of_le h2 hb.size,by rw [hb.cell (p:=⟨g,i,none⟩) h2];exact h3⟩⟩
theorem KV.drew {w:World} {PB:Nat} {nm:ByteArray} {ko:Option Addr} {K:List Int} (h:KV w PB nm ko K):KV w.drew PB nm ko K:=⟨h.lt,h.nm,h.kn⟩
theorem Xb {t:ByteArray} {i:Nat} {c:Int} (h:T.ch t i=c) (hc:0<=c):∃ hi:i<t.size,((t[i]).toNat:Int)=c:=by
 have hi:i<t.size:=T.ch_nn (by omega)
 exact ⟨hi,by rw [<- T.ch_lt hi];exact h⟩
theorem jg (PB:Nat) (t:ByteArray) (kv:Value) (w:World) (h:T.ch t 0=64) :
 Calls Tryz.prog 54 #[.pointer (some ⟨PB,0,none⟩),.string t,kv] w fun e w'=>Below w.heap.size w w'/\e=.returned (J Z 1):=by
 obtain ⟨h0,hc⟩:=Xb h (by decide)
 have h0':(0:Int)<(t.size:Int):=by omega
 go_enter Tryz.func54,Tryz.ntmps54
 go_wp2_with fail
 go_ret
 exact ⟨Below.refl _ _,rfl⟩
theorem qO (PB:Nat) (t:ByteArray) (kv:Value) (w:World) (hs:t.size<=2000) (h:T.ch t 0=123) (h2:2<=t.size) :
 Calls Tryz.prog 54 #[.pointer (some ⟨PB,0,none⟩),.string t,kv] w fun e w'=>Below w.heap.size w w'/\e=.returned (J Z (1+((spl (t.extract 1 (t.size-1)) 44).length:Int))):=by
 obtain ⟨h0,hc⟩:=Xb h (by decide)
 have h0':(2:Int)<=(t.size:Int):=by omega
 have h1':(t.size:Int)<=2000:=by omega
 have hsz:(t.extract 1 (t.size-1)).size<=2000:=by rw [yc t _ _ (by omega)];omega
 have hln:(spl (t.extract 1 (t.size-1)) 44).length<=2001:=by
  have:=(qN (t.extract 1 (t.size-1)) 44 (t.extract 1 (t.size-1)).size).2.1
  simp only [spl,List.length_append,List.length_cons,List.length_nil];omega
 go_enter Tryz.func54,Tryz.ntmps54
 go_wp2_with fail
 refine (ZE _ 44 _ hsz).mono ?_
 rintro e w1 ⟨hb,v,rfl,hrow⟩
 obtain ⟨g,cap,rfl,_,_⟩:=yX hrow (Yd _ _)
 have HB:Hid _:=hb
 clear hb hrow
 generalize hq:(spl (t.extract 1 (t.size-1)) 44).length=n at *
 have HN:Hid _:=hq
 clear hq
 go_wp2_with fail
 go_ret
 exact ⟨HB.out,by rw [HN.out];rfl⟩
theorem zaN (PB:Nat) (t b:ByteArray) (nm:ByteArray) (ko:Option Addr) (kc:Nat) (K:List Int) (n:Int) (w:World) (hs:t.size<=2000) (h:T.ch t 0=116) (h2:3<=t.size) (hbb:(spl (t.extract 2 (t.size-1)) 44)[1]?=some b) (hn0:0<=n) (hn1:n<=5000) (hK:KV w PB nm ko K)
 (ih:∀ w,KV w PB nm ko K->Calls Tryz.prog 54 #[.pointer (some ⟨PB,0,none⟩),.string b,O ko K.length kc] w fun e w'=>Below w.heap.size w w'/\e=.returned (J Z n)) :
 Calls Tryz.prog 54 #[.pointer (some ⟨PB,0,none⟩),.string t,O ko K.length kc] w fun e w'=>Below w.heap.size w w'/\e=.returned (J Z (Ze (1+n))):=by
 obtain ⟨h0,hc⟩:=Xb h (by decide)
 have h0':(3:Int)<=(t.size:Int):=by omega
 have h1':(t.size:Int)<=2000:=by omega
 have hsz:(t.extract 2 (t.size-1)).size<=2000:=by rw [yc t _ _ (by omega)];omega
 have IH:Hid _:=ih
 have HK:Hid _:=hK
 clear ih hK
 go_enter Tryz.func54,Tryz.ntmps54
 go_wp2_with fail
 refine (ZE _ 44 _ hsz).mono ?_
 rintro e w1 ⟨hb,v,rfl,hrow⟩
 obtain ⟨g,cap,rfl,_,hgl⟩:=yX hrow (Yd _ _)
 have c1:=ZH hrow hbb
 have hm1:1<(spl (t.extract 2 (t.size-1)) 44).length:=(List.getElem?_eq_some_iff.1 hbb).1
 have HB:Hid _:=hb
 have HK1:Hid _:=HK.out.below hb
 clear hb hrow hbb
 generalize (spl (t.extract 2 (t.size-1)) 44).length=m at *
 have hm0:(1:Int)<(m:Int):=by omega
 go_wp2_with fail
 refine (IH.out _ HK1.out).mono ?_
 rintro e w2 ⟨hb2,rfl⟩
 have HB2:Hid _:=HB.out.trans (hb2.mono HB.out.size)
 clear hb2
 go_wp2_with fail
 refine (Yl _ _).mono ?_
 rintro e w3 ⟨hw3,rfl⟩
 subst w3
 go_wp2_with fail
 go_ret
 exact ⟨HB2.out,rfl⟩
theorem JA (PB:Nat) (t:ByteArray) (nm:ByteArray) (ko:Option Addr) (kc:Nat) (K:List Int) (w:World) (hs:t.size<=2000) (h:T.ch t 0=61) (h2:2<=t.size) (hKn:K.length<=nm.size) (hK:KV w PB nm ko K) (hnm:nm.size<=5000) :
 Calls Tryz.prog 54 #[.pointer (some ⟨PB,0,none⟩),.string t,O ko K.length kc] w fun e w'=>Below w.heap.size w w'/\e=.returned (J Z (knL nm (T.ch t 1) K 0)):=by
 obtain ⟨h0,hc⟩:=Xb h (by decide)
 have h0':(2:Int)<=(t.size:Int):=by omega
 have h1':(t.size:Int)<=2000:=by omega
 have h1:1<t.size:=by omega
 have hc1:((t[1]).toNat:Int)=T.ch t 1:=(T.ch_lt h1).symm
 have HK:Hid _:=hK
 have n0:=hK.nm
 have HD:Hid (knL nm (T.ch t 1) (K.drop 0) 0=knL nm (T.ch t 1) K 0):=by show _=_;rw [List.drop_zero]
 generalize T.ch t 1=c at *
 clear hK
 go_enter Tryz.func54,Tryz.ntmps54
 go_wp2_with fail
 go_loopg [7] K.length (fun n y wr=>∃ (j:Nat),n+j=K.length/\y=J Z j/\Hid (knL nm c (K.drop j) j=knL nm c K 0)/\∃ q,wr=w.drewN q)
 case atStart=>exact ⟨0,by omega,rfl,HD,0,rfl⟩
 case round =>
  obtain ⟨j,hn,rfl,HN,q,rfl⟩:=hrel
  by_cases hlt:j<K.length
  ·obtain ⟨v,hv⟩:∃ v,K[j]?=some v:=⟨K[j],List.getElem?_eq_getElem hlt⟩
   obtain ⟨g,rfl,hgl,hcl⟩:=HK.out.kn j v hv
   have hj0:(0:Int)<=(j:Int):=by omega
   have hj1:(j:Int)<(K.length:Int):=by omega
   have hj2:j<nm.size:=by omega
   have hj3:(j:Int)<(nm.size:Int):=by omega
   have hcj:((nm[j]).toNat:Int)=T.ch nm j:=(T.ch_lt hj2).symm
   have HE:Hid (knL nm c K 0=if T.ch nm j=c then v else knL nm c (K.drop (j+1)) (j+1)):=by
    show _=_
    rw [<- HN.out,List.drop_eq_getElem_cons hlt]
    have:K[j]=v:=by have:=List.getElem?_eq_getElem hlt;rw [hv] at this;simpa using this.symm
    rw [this];rfl
   clear hv
   generalize T.ch nm j=d at *
   cases e1:(d==c) with
   | true =>
    have HE2:Hid (knL nm c K 0=v):=by show _=_;rw [HE.out,if_pos (by simpa using e1)]
    clear HE
    go_wp2_with fail
    go_quiet (fail)
    go_wp2_with fail
    go_ret
    exact ⟨zQ (Below.refl _ _) _,by rw [HE2.out];rfl⟩
   | false =>
    have HE2:Hid (knL nm c (K.drop (j+1)) (j+1)=knL nm c K 0):=by show _=_;rw [HE.out,if_neg (by simpa using e1)]
    clear HE
    go_wp2_with fail
    go_quiet (fail)
    go_wp2_with fail
    go_roundg (gk-1)
    case measure=>omega
    case rel=>exact ⟨j+1,by omega,by go_num,HE2,_,rfl⟩
  ·have hd:¬ ((j:Int)<(K.length:Int)):=by omega
   have HE:Hid (knL nm c K 0=0):=by show _=_;rw [<- HN.out,List.drop_eq_nil_of_le (by omega)];rfl
   go_wp2_with fail
   go_ret
   exact ⟨zQ (Below.refl _ _) _,by rw [HE.out];rfl⟩
def SzC (PB:Nat) (nm:ByteArray) (ko:Option Addr) (kc:Nat) (K:List Int) (b:ByteArray) (n:Int):Prop:=∀ w,KV w PB nm ko K->Calls Tryz.prog 54 #[.pointer (some ⟨PB,0,none⟩),.string b,O ko K.length kc] w fun e w'=>Below w.heap.size w w'/\e=.returned (J Z n)
theorem xn {s:ByteArray} {c:Int} (h:s.size<=2000):(spl s c).length<=2001:=by
 have:=(qN s c s.size).2.1
 simp only [spl,List.length_append,List.length_cons,List.length_nil];omega
theorem JC (PB:Nat) (t a b:ByteArray) (nm:ByteArray) (ko:Option Addr) (kc:Nat) (K:List Int) (n:Int) (w:World) (hs:t.size<=2000) (h:T.ch t 0=119\/T.ch t 0=102) (h3:3<=t.size) (ha:(spl (t.extract 2 (t.size-1)) 124)[0]?=some a) (hbb:(spl (t.extract 2 (t.size-1)) 124)[1]?=some b) (hn0:0<=n) (hn1:n<=5000) (hK:KV w PB nm ko K) (ih:SzC PB nm ko kc K b n) :
 Calls Tryz.prog 54 #[.pointer (some ⟨PB,0,none⟩),.string t,O ko K.length kc] w fun e w'=>Below w.heap.size w w'/\e=.returned (J Z (Ze (1+((spl a 44).length:Int)+n))):=by
 obtain ⟨c,hc0⟩:∃ c,T.ch t 0=c:=⟨_,rfl⟩
 rw [hc0] at h
 obtain ⟨h0,hc⟩:=Xb hc0 (by omega)
 have h0':(3:Int)<=(t.size:Int):=by omega
 have h1':(t.size:Int)<=2000:=by omega
 have hza:a.size<=2000:=Nat.le_trans (yE (List.mem_of_getElem? ha)) (by rw [yc t _ _ (by omega)];omega)
 have hla:=xn (c:=44) hza
 have e1:(c==123)=false:=by rcases h with rfl | rfl<;>rfl
 have e2:(c==64)=false:=by rcases h with rfl | rfl<;>rfl
 have e3:(c==61)=false:=by rcases h with rfl | rfl<;>rfl
 have e4:(c==116)=false:=by rcases h with rfl | rfl<;>rfl
 have e5:(c==109)=false:=by rcases h with rfl | rfl<;>rfl
 have e6:(c==103)=false:=by rcases h with rfl | rfl<;>rfl
 have IH:Hid (SzC PB nm ko kc K b n):=ih
 have HK:Hid (KV w PB nm ko K):=hK
 have hpt:=qn t a b w hs h3 ha hbb
 have HPT:Hid (Calls Tryz.prog 101 #[.string t] w fun e w'=>Below w.heap.size w w'/\∃ v,e=.returned (.tuple #[v,.string b])/\w'.ownsRow w.heap.size 9 1 v (spl a 44).length ((spl a 44).map Value.string)):=hpt
 clear ih hK hpt ha hbb h hc0
 go_enter Tryz.func54,Tryz.ntmps54
 go_wp2_with fail
 refine HPT.out.mono ?_
 rintro e w1 ⟨hb,v,rfl,hrow⟩
 obtain ⟨g,cap,rfl,_,hgl⟩:=yX hrow (Yd _ _)
 have HB:Hid _:=hb
 have HK1:Hid _:=HK.out.below hb
 clear hb hrow
 generalize hq:(spl a 44).length=m at *
 have HN:Hid _:=hq
 clear hq
 go_wp2_with fail
 refine (IH.out _ HK1.out).mono ?_
 rintro e w2 ⟨hb2,rfl⟩
 have HB2:Hid (Below w.heap.size w w2):=HB.out.trans (hb2.mono HB.out.size)
 clear hb2
 go_wp2_with fail
 go_loopg [11,12] 1 (fun q x y wr=>x=J Z (1+(m:Int)+n)/\y=J Z 0/\wr=w2)
 case atStart=>exact ⟨rfl,rfl,rfl⟩
 case round =>
  obtain ⟨rfl,rfl,rfl⟩:=hrel
  by_cases hm:m=0
  ·subst hm
   go_wp2_with fail
   refine (Yl _ _).mono ?_
   rintro e w3 ⟨hw3,rfl⟩
   subst w3
   go_wp2_with fail
   go_ret
   exact ⟨HB2.out,by rw [HN.out];rfl⟩
  ·have hm2:(0:Int)<(m:Int):=by omega
   go_wp2_with fail
   refine (Yl _ _).mono ?_
   rintro e w3 ⟨hw3,rfl⟩
   subst w3
   go_wp2_with fail
   go_ret
   exact ⟨HB2.out,by rw [HN.out];rfl⟩
def ZU (ns:Nat->Int):Nat->Int
 | 0=>0
 | j+1=>ZU ns j+ns j
theorem jY {ns:Nat->Int} (h:∀ i,0<=ns i/\ns i<=5000):∀ j,0<=ZU ns j/\ZU ns j<=5000*j:=by
 intro j
 induction j with
 | zero=>simp [ZU]
 | succ j ih=>have:=h j;simp only [ZU];omega
theorem JB (PB:Nat) (t a b:ByteArray) (nm:ByteArray) (ko:Option Addr) (kc:Nat) (K:List Int) (n:Int) (ys:Nat->ByteArray) (ns:Nat->Int) (w:World) (hs:t.size<=2000) (h:T.ch t 0=109\/T.ch t 0=103) (h3:3<=t.size) (ha:(spl (t.extract 2 (t.size-1)) 124)[0]?=some a) (hbb:(spl (t.extract 2 (t.size-1)) 124)[1]?=some b) (hn0:0<=n) (hn1:n<=5000) (hK:KV w PB nm ko K) (ih:SzC PB nm ko kc K b n)
 (hy:∀ i x,(spl a 44)[i]?=some x->(spl x 58)[0]?=some (ys i)/\(ys i).size+1<=x.size) (hns:∀ i,0<=ns i/\ns i<=5000) (ihs:∀ i x,(spl a 44)[i]?=some x->SzC PB nm ko kc K (x.extract ((ys i).size+1) x.size) (ns i)) :
 Calls Tryz.prog 54 #[.pointer (some ⟨PB,0,none⟩),.string t,O ko K.length kc] w fun e w'=>Below w.heap.size w w'/\e=.returned (J Z (Ze (1+((spl a 44).length:Int)+n+ZU ns (spl a 44).length))):=by
 obtain ⟨c,hc0⟩:∃ c,T.ch t 0=c:=⟨_,rfl⟩
 rw [hc0] at h
 obtain ⟨h0,hc⟩:=Xb hc0 (by omega)
 have h0':(3:Int)<=(t.size:Int):=by omega
 have h1':(t.size:Int)<=2000:=by omega
 have hza:a.size<=2000:=Nat.le_trans (yE (List.mem_of_getElem? ha)) (by rw [yc t _ _ (by omega)];omega)
 have hla:=xn (c:=44) hza
 have e1:(c==123)=false:=by rcases h with rfl | rfl<;>rfl
 have e2:(c==64)=false:=by rcases h with rfl | rfl<;>rfl
 have e3:(c==61)=false:=by rcases h with rfl | rfl<;>rfl
 have e4:(c==116)=false:=by rcases h with rfl | rfl<;>rfl
 have HMG:Hid ((c==109)=true\/((c==109)=false/\(c==103)=true)):=by rcases h with rfl | rfl<;>simp [Hid]
 have IH:Hid (SzC PB nm ko kc K b n):=ih
 have HY:Hid (∀ i x,(spl a 44)[i]?=some x->(spl x 58)[0]?=some (ys i)/\(ys i).size+1<=x.size):=hy
 have HI:Hid (∀ i x,(spl a 44)[i]?=some x->SzC PB nm ko kc K (x.extract ((ys i).size+1) x.size) (ns i)):=ihs
 have HK:Hid (KV w PB nm ko K):=hK
 have hpt:=qn t a b w hs h3 ha hbb
 have HPT:Hid (Calls Tryz.prog 101 #[.string t] w fun e w'=>Below w.heap.size w w'/\∃ v,e=.returned (.tuple #[v,.string b])/\w'.ownsRow w.heap.size 9 1 v (spl a 44).length ((spl a 44).map Value.string)):=hpt
 have HSM:Hid (∀ j,0<=ZU ns j/\ZU ns j<=5000*j):=jY hns
 clear ih hK hpt ha hbb h hc0 hy ihs hns
 go_enter Tryz.func54,Tryz.ntmps54
 go_wp2_with fail
 refine HPT.out.mono ?_
 rintro e w1 ⟨hb,v,rfl,hrow⟩
 obtain ⟨g,cap,rfl,_,hgl⟩:=yX hrow (Yd _ _)
 have HB:Hid _:=hb
 have HK1:Hid _:=HK.out.below hb
 have HC1:Hid (∀ i x,(spl a 44)[i]?=some x->w1.cell? ⟨g,i,none⟩=some (.string x)):=fun i x hx=>ZH hrow hx
 have HSZ:Hid (∀ (i:Nat) (x:ByteArray),(spl a 44)[i]?=some x->x.size<=2000):=fun i x hx=>Nat.le_trans (yE (List.mem_of_getElem? hx)) hza
 have HEX:Hid (∀ i,i<(spl a 44).length->∃ x,(spl a 44)[i]?=some x):=fun i hi=>⟨(spl a 44)[i],List.getElem?_eq_getElem hi⟩
 clear hb hrow
 generalize hq:(spl a 44).length=m at *
 have HN:Hid _:=hq
 clear hq
 go_wp2_with fail
 refine (IH.out _ HK1.out).mono ?_
 rintro e w2 ⟨hb2,rfl⟩
 have HB2:Hid _:=hb2
 clear hb2
 go_wp2_with fail
 go_loopg [11,12] m (fun q x y wr=>∃ j:Nat,q+j=m/\x=J Z (1+(m:Int)+n+ZU ns j)/\y=J Z j/\Below w1.heap.size w1 wr)
 case atStart=>exact ⟨0,by omega,by simp [ZU],rfl,HB2.out⟩
 case round =>
  obtain ⟨j,hn,rfl,rfl,hbr⟩:=hrel
  have HBR:Hid _:=hbr
  have hsj:=HSM.out j
  clear hbr
  by_cases hlt:j<m
  ·obtain ⟨x,hx⟩:=HEX.out j hlt
   have hj0:(0:Int)<=(j:Int):=by omega
   have hj1:(j:Int)<(m:Int):=by omega
   have cx:=(HBR.out.cell (p:=⟨g,j,none⟩) hgl).trans (HC1.out j x hx)
   have hy2:=HY.out j x hx
   have hzx:=HSZ.out j x hx
   have HIx:Hid (SzC PB nm ko kc K (x.extract ((ys j).size+1) x.size) (ns j)):=HI.out j x hx
   have hsj2:=HSM.out (j+1)
   obtain ⟨sj',hsj'⟩:∃ q,ZU ns j=q:=⟨_,rfl⟩
   have HJ:Hid (ZU ns (j+1)=sj'+ns j):=by show _=_;rw [<- hsj'];rfl
   rw [hsj'] at hsj
   simp only [ZU] at hsj2
   rw [hsj'] at hsj2 ⊢
   clear hsj'
   have har:=fun wz=>zcZ x (ys j) wz hzx hy2.1 hy2.2
   have HAR:Hid _:=har
   have HKr:Hid _:=HK1.out.below HBR.out
   clear hx hy2 har
   have hm64:(m:Int)<=2001:=by omega
   rcases HMG.out with e5 | ⟨e5,e6⟩
   ·go_wp2_with fail
    refine (HAR.out _).mono ?_
    rintro e w3 ⟨hb3,rfl⟩
    have HB3:Hid _:=HBR.out.trans (hb3.mono HBR.out.size)
    have HK3:Hid _:=HKr.out.below hb3
    clear hb3
    go_wp2_with fail
    refine (HIx.out _ HK3.out).mono ?_
    rintro e w4 ⟨hb4,rfl⟩
    have HB4:Hid _:=HB3.out.trans (hb4.mono HB3.out.size)
    clear hb4
    go_wp2_with fail
    go_roundg (gk-1)
    case measure=>omega
    case rel=>exact ⟨j+1,by omega,by rw [HJ.out];go_num,by go_num,HB4.out⟩
   ·go_wp2_with fail
    refine (HAR.out _).mono ?_
    rintro e w3 ⟨hb3,rfl⟩
    have HB3:Hid _:=HBR.out.trans (hb3.mono HBR.out.size)
    have HK3:Hid _:=HKr.out.below hb3
    clear hb3
    go_wp2_with fail
    refine (HIx.out _ HK3.out).mono ?_
    rintro e w4 ⟨hb4,rfl⟩
    have HB4:Hid _:=HB3.out.trans (hb4.mono HB3.out.size)
    clear hb4
    go_wp2_with fail
    go_roundg (gk-1)
    case measure=>omega
    case rel=>exact ⟨j+1,by omega,by rw [HJ.out];go_num,by go_num,HB4.out⟩
  ·have hd:¬ ((j:Int)<(m:Int)):=by omega
   have hje:j=m:=by omega
   subst hje
   have HBW:Hid (Below w.heap.size w wr):=HB.out.trans (HBR.out.mono HB.out.size)
   generalize hsq:ZU ns j=sj at *
   have HSQ:Hid _:=hsq
   clear hsq
   go_wp2_with fail
   refine (Yl _ _).mono ?_
   rintro e w3 ⟨hw3,rfl⟩
   subst w3
   go_wp2_with fail
   go_ret
   exact ⟨HBW.out,by rw [HN.out,HSQ.out];rfl⟩
inductive SZ (nm:ByteArray) (K:List Int):ByteArray->Int->Prop where
 | servers {t:ByteArray}:T.ch t 0=123->2<=t.size->SZ nm K t (1+((spl (t.extract 1 (t.size-1)) 44).length:Int))
 | alias {t:ByteArray}:T.ch t 0=64->SZ nm K t 1
 | name {t:ByteArray}:T.ch t 0=61->2<=t.size->SZ nm K t (knL nm (T.ch t 1) K 0)
 | ttl {t b:ByteArray} {n:Int}:T.ch t 0=116->3<=t.size->(spl (t.extract 2 (t.size-1)) 44)[1]?=some b->SZ nm K b n->SZ nm K t (Ze (1+n))
 | list {t a b:ByteArray} {n:Int}:(T.ch t 0=119\/T.ch t 0=102)->3<=t.size->(spl (t.extract 2 (t.size-1)) 124)[0]?=some a->(spl (t.extract 2 (t.size-1)) 124)[1]?=some b->SZ nm K b n->SZ nm K t (Ze (1+((spl a 44).length:Int)+n))
 | maps {t a b:ByteArray} {n:Int} {ys:Nat->ByteArray} {ns:Nat->Int}:(T.ch t 0=109\/T.ch t 0=103)->3<=t.size->(spl (t.extract 2 (t.size-1)) 124)[0]?=some a->(spl (t.extract 2 (t.size-1)) 124)[1]?=some b->SZ nm K b n ->
  (∀ i x,(spl a 44)[i]?=some x->(spl x 58)[0]?=some (ys i)/\(ys i).size+1<=x.size)->(∀ i,(spl a 44).length<=i->ns i=0)->(∀ i x,(spl a 44)[i]?=some x->SZ nm K (x.extract ((ys i).size+1) x.size) (ns i))->SZ nm K t (Ze (1+((spl a 44).length:Int)+n+ZU ns (spl a 44).length))
theorem zdu {nm:ByteArray} {c:Int}:∀ (K:List Int) (i:Nat),(∀ k∈K,0<=k/\k<=5000)->0<=knL nm c K i/\knL nm c K i<=5000:=by
 intro K
 induction K with
 | nil=>intro i _;simp [knL]
 | cons k r ih =>
  intro i h
  simp only [knL]
  split
  ·exact h k (by simp)
  ·exact ih (i+1) (fun x hx=>h x (by simp [hx]))
theorem Xq {n:Int} (h:0<=n):0<=Ze n/\Ze n<=1001:=by unfold Ze;split<;>omega
theorem Qr {nm:ByteArray} {K:List Int} {t:ByteArray} {n:Int} (h:SZ nm K t n) (PB:Nat) (ko:Option Addr) (kc:Nat) (hKb:∀ k∈K,0<=k/\k<=5000) (hnm:nm.size<=5000) (hKn:K.length<=nm.size):t.size<=2000->SzC PB nm ko kc K t n/\0<=n/\n<=5000:=by
 induction h with
 | @servers t h1 h2 =>
  intro hs
  exact ⟨fun w _=>qO PB _ _ w hs h1 h2,by omega,by have:=xn (s:=t.extract 1 (t.size-1)) (c:=44) (by rw [yc _ _ _ (by omega)];omega);omega⟩
 | alias h1=>intro hs;exact ⟨fun w _=>jg PB _ _ w h1,by decide,by decide⟩
 | @name t h1 h2=>intro hs;have:=zdu (nm:=nm) (c:=T.ch t 1) K 0 hKb;exact ⟨fun w hK=>JA PB _ nm ko kc K w hs h1 h2 hKn hK hnm,this.1,by omega⟩
 | ttl h1 h2 h3 _ ih =>
  intro hs
  have hb:=Nat.le_trans (yE (List.mem_of_getElem? h3)) (Nat.le_trans (by rw [yc _ _ _ (by omega)];omega) hs)
  have hi:=ih hb
  have hc:=Xq (n:=1+_) (Int.add_nonneg (by decide) hi.2.1)
  exact ⟨fun w hK=>zaN PB _ _ nm ko kc K _ w hs h1 h2 h3 hi.2.1 hi.2.2 hK hi.1,hc.1,by omega⟩
 | @list t a b n h1 h2 h3 h4 _ ih =>
  intro hs
  have hb:=Nat.le_trans (yE (List.mem_of_getElem? h4)) (Nat.le_trans (by rw [yc _ _ _ (by omega)];omega) hs)
  have hi:=ih hb
  refine ⟨fun w hK=>JC PB _ _ _ nm ko kc K _ w hs h1 h2 h3 h4 hi.2.1 hi.2.2 hK hi.1,?_⟩
  have:=Xq (n:=1+((spl a 44).length:Int)+n) (by have:=hi.2.1;omega)
  exact ⟨this.1,by omega⟩
 | @maps t a b n ys ns h1 h2 h3 h4 _ hy hz _ ih ihs =>
  intro hs
  have hext:(t.extract 2 (t.size-1)).size<=2000:=by rw [yc t _ _ (by omega)];omega
  have hb:=Nat.le_trans (yE (List.mem_of_getElem? h4)) hext
  have ha:=Nat.le_trans (yE (List.mem_of_getElem? h3)) hext
  have hi:=ih hb
  have hsub:∀ (i:Nat) (x:ByteArray),(spl a 44)[i]?=some x->(x.extract ((ys i).size+1) x.size).size<=2000:=fun i x hx=>by
   have:=Nat.le_trans (yE (List.mem_of_getElem? hx)) ha
   rw [yc x _ _ (Nat.le_refl _)];omega
  have hns:∀ i,0<=ns i/\ns i<=5000:=fun i=>by
   by_cases hlt:i<(spl a 44).length
   ·have hx:(spl a 44)[i]?=some (spl a 44)[i]:=List.getElem?_eq_getElem hlt
    exact (ihs i _ hx (hsub i _ hx)).2
   ·rw [hz i (by omega)];decide
  have hsum:=jY hns (spl a 44).length
  refine ⟨fun w hK=>JB PB t a b nm ko kc K n ys ns w hs h1 h2 h3 h4 hi.2.1 hi.2.2 hK hi.1 hy hns (fun i x hx=>(ihs i x hx (hsub i x hx)).1),?_⟩
  have:=Xq (n:=1+((spl a 44).length:Int)+n+ZU ns (spl a 44).length) (by have:=hi.2.1;omega)
  exact ⟨this.1,by omega⟩
def brL (s:ByteArray):Nat->List Int
 | 0=>[]
 | n+1=>brL s n++(if T.bl (T.ch s n)=true then [] else [T.ch s n])
def bare (s:ByteArray):ByteArray:=strOfNums (brL s s.size)
theorem Qg (s:ByteArray):∀ n,(brL s n).length<=n:=by
 intro n
 induction n with
 | zero=>exact Nat.le_refl _
 | succ n ih=>simp only [brL,List.length_append];split<;>simp<;>omega
theorem zbR (s:ByteArray) (w:World) (hs:s.size<=2000) :
 Calls Tryz.prog 99 #[.string s] w fun e w'=>Below w.heap.size w w'/\e=.returned (.string (bare s)):=by
 obtain ⟨i0,hi0,hz0,hz1,hz2⟩:=info_parts Tryz.infoByte
 go_enter Tryz.func99,Tryz.ntmps99
 go_wp2_with fail
 have hcv:=fun (w:World) (g len cap:Nat) (xs:List Int) (hl:xs.length=len) (hc:∀ i,i<len->w.cell? ⟨g,0+i,none⟩=some (J .u8 (xs.getD i 0)))=>run_convert_bytes_arg (P:=Tryz.prog) w 57 5 Tryz.underlying57 Tryz.underlying5 g 0 len cap xs hl hc 9 Tryz.underlying9
 have hcn:=fun (w:World)=>run_convert_bytes_nil (P:=Tryz.prog) w 57 5 Tryz.underlying57 Tryz.underlying5 0 0 9 Tryz.underlying9
 go_loopg [3,4] s.size (fun n x y wr=>∃ (j:Nat),n+j=s.size/\y=J Z j/\wr.ownsRow w.heap.size 5 1 x (brL s j).length ((brL s j).map (Value.int .u8))/\Below w.heap.size w wr)
 case atStart=>exact ⟨0,by omega,rfl,⟨rfl,.inl ⟨rfl,rfl⟩⟩,Below.refl _ _⟩
 case round =>
  obtain ⟨j,hn,rfl,hrow,hb⟩:=hrel
  have HR:Hid (wr.ownsRow w.heap.size 5 1 u3 (brL s j).length ((brL s j).map (Value.int .u8))):=hrow
  have HB:Hid (Below w.heap.size w wr):=hb
  have hbs:=hb.size
  clear hrow hb
  by_cases hlt:j<s.size
  ·have hlt':(j:Int)<(s.size:Int):=by omega
   have hj0:(0:Int)<=(j:Int):=by omega
   have hch:((s[j]).toNat:Int)=T.ch s j:=(T.ch_lt hlt).symm
   have hbl:=fun w=>qD (T.ch s j) w
   have hln:=Qg s j
   generalize hq:T.bl (T.ch s j)=q at *
   cases q with
   | true =>
    have HE:Hid (brL s (j+1)=brL s j):=by show _=_;simp only [brL];rw [if_pos hq,List.append_nil]
    clear hq
    generalize T.ch s j=c at *
    go_wp2_with fail
    refine (hbl _).mono ?_
    rintro e w' ⟨rfl,hw'⟩
    subst w'
    go_wp2_with fail
    go_roundg (gk-1)
    case measure=>omega
    case rel=>exact ⟨j+1,by omega,by go_num,by rw [HE.out];exact HR.out,HB.out⟩
   | false =>
    have HE:Hid (brL s (j+1)=brL s j++[T.ch s j]):=by show _=_;simp only [brL];rw [if_neg (by rw [hq];decide)]
    clear hq
    generalize T.ch s j=c at *
    have hA1:Hid ((brL s j).length+1<=maxLen):=by show _<=_;unfold maxLen;omega
    have hA2:Hid (((brL s j).length+1)*1<=140737488355328):=by show _<=_;omega
    have hA3:Hid (w.heap.size<=(wr.alloc (.cells #[J .u8 c] 5)).heap.size):=by show _<=_;simp;omega
    have hone:Hid (∀ u∈[Value.int .u8 c],u.oneCell'=true):=fun u hu=>by simp at hu;subst hu;rfl
    go_wp2_with fail
    refine (hbl _).mono ?_
    rintro e w' ⟨rfl,hw'⟩
    subst w'
    go_wp2_with (at_builtin;refine wpList_append_lies _ rfl _ _ 57 rfl w.heap.size 5 i0 _ 1 1 Tryz.underlying57 hi0 hz0 hz1 hz2 rfl (by decide) u3 _ _ rfl (HR.out.alloc _) ⟨wr.heap.size,0,none⟩ 1 1 [J .u8 c] rfl rfl (World.news_of_block (cs:=#[J .u8 c]) (t:=5) (fr:=(0,0)) (heap_alloc_new wr _)) hone.out (Nat.lt_succ_self 0) hA1.out hA2.out hA3.out (wr.heap.size+1) (by simp) ?_;intro g cap w4 hown hgrow hat hlt4)
    have HR4:Hid (w4.ownsRow w.heap.size 5 1 (O (some ⟨g,0,none⟩) ((brL s j).length+1) cap) (brL s (j+1)).length ((brL s (j+1)).map (Value.int .u8))):=by
     show World.ownsRow _ _ _ _ _ _ _
     rw [HE.out,List.length_append,List.map_append]
     exact hown
    have HB4:Hid (Below w.heap.size w w4):=(HB.out.alloc hbs _).grown hgrow (by simp;omega) (fun k hk=>(HR.out.lt k hk).1)
    clear hown hgrow hat
    go_roundg (gk-1)
    case measure=>omega
    case rel=>exact ⟨j+1,by omega,by go_num,HR4.out,HB4.out⟩
  ·have hlt':¬ (j:Int)<(s.size:Int):=by omega
   have hje:j=s.size:=by omega
   subst hje
   rcases HR.out.2 with ⟨h1,h2⟩ | ⟨g,cap,cur,h1,h2,h3,h4,h5,h6,h7⟩
   ·subst h1
    have HE:Hid (bare s=ByteArray.empty):=by show _=_;unfold bare;rw [List.eq_nil_of_length_eq_zero h2];rfl
    have hcn':=hcn wr
    go_wp2_with fail
    go_ret
    exact ⟨HB.out,by rw [HE.out];rfl⟩
   ·subst h1
    have hcv':=hcv wr g (brL s s.size).length cap (brL s s.size) rfl (fun i hi=>by
     have:=World.ownsRow.cellAt HR.out i (by omega)
     rw [Nat.zero_add,this]
     simp [hi])
    have HE:Hid (strOfNums (brL s s.size)=bare s):=rfl
    rw [HE.out] at hcv'
    go_wp2_with fail
    go_ret
    exact ⟨HB.out,rfl⟩
end Go.Proofs.YtaebngpoagjafabGreat
