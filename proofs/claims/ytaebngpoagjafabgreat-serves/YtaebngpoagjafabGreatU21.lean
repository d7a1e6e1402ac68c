import Derived.Test.YtaebngpoagjafabGreatU03
import Derived.Test.YtaebngpoagjafabGreatU15
set_option maxRecDepth 100000
set_option maxHeartbeats 800000
namespace Go.Proofs.YtaebngpoagjafabGreat
open Value renaming int → J, slice → O
open IntKind renaming i64 → Z
open Go.RowKit
attribute [local go_sem ↓] Go.wp_at_zero Go.wp_at_succ
structure SPL where
 l:List ByteArray
 from_:Nat
 deep:Int
def spS (s:ByteArray) (c:Int):Nat->SPL
 | 0=>⟨[],0,0⟩
 | i+1 =>
  let q:=spS s c i
  if T.ch s i=40\/T.ch s i=123 then ⟨q.l,q.from_,q.deep+1⟩
  else if T.ch s i=41\/T.ch s i=125 then ⟨q.l,q.from_,q.deep-1⟩
  else if T.ch s i=c/\q.deep=0 then ⟨q.l++[s.extract q.from_ i],i+1,q.deep⟩
  else q
def spl (s:ByteArray) (c:Int):List ByteArray:=(spS s c s.size).l++[s.extract (spS s c s.size).from_ s.size]
theorem XC (s:ByteArray) (c:Int):∀ i,(spS s c i).from_<=i/\(spS s c i).l.length<=i/\-(i:Int)<=(spS s c i).deep/\(spS s c i).deep<=i:=by
 intro i
 induction i with
 | zero=>simp [spS]
 | succ i ih =>
  simp only [spS]
  split
  ·simp only;omega
  ·split
   ·simp only;omega
   ·split
    ·simp only [List.length_append,List.length_cons,List.length_nil];omega
    ·omega
theorem Tryz.infoStr:(Tryz.prog.info? 9).map (fun i=>(i.zero,i.size,i.bytes))=some (some (.string ByteArray.empty),1,16):=by kernel_rfl
theorem yT (s:ByteArray) (c:Int) (w:World) (hs:s.size<=2000) :
 Calls Tryz.prog 98 #[.string s,J .u8 c] w fun e w'=>Below w.heap.size w w'/\∃ v,e=.returned v/\w'.ownsRow w.heap.size 9 1 v (spl s c).length ((spl s c).map Value.string):=by
 obtain ⟨i0,X,R,Q,P⟩:=info_parts Tryz.infoStr
 go_enter Tryz.func98,Tryz.ntmps98
 go_wp2_with fail
 go_loopg [5,6,7,8] s.size (fun n x y z t wr=>∃ (j:Nat),n+j=s.size/\t=J Z j/\y=J Z (spS s c j).from_/\z=J Z (spS s c j).deep/\wr.ownsRow w.heap.size 9 1 x (spS s c j).l.length ((spS s c j).l.map Value.string)/\Below w.heap.size w wr)
 case atStart=>exact ⟨0,by omega,rfl,rfl,rfl,⟨rfl,.inl ⟨rfl,rfl⟩⟩,Below.refl _ _⟩
 case round =>
  obtain ⟨j,hn,rfl,rfl,rfl,B,hb⟩:=hrel
  have o:Hid (wr.ownsRow w.heap.size 9 1 u5 (spS s c j).l.length ((spS s c j).l.map Value.string)):=B
  have C:Hid (Below w.heap.size w wr):=hb
  have Y:=hb.size
  have a0:=XC s c j
  clear B hb
  by_cases a1:j<s.size
  ·have W:(j:Int)<(s.size:Int):=by omega
   have a6:(0:Int)<=(j:Int):=by omega
   have a7:((s[j]).toNat:Int)=T.ch s j:=(T.ch_lt a1).symm
   have m:Hid (spS s c (j+1)=if T.ch s j=40\/T.ch s j=123 then ⟨(spS s c j).l,(spS s c j).from_,(spS s c j).deep+1⟩ else if T.ch s j=41\/T.ch s j=125 then ⟨(spS s c j).l,(spS s c j).from_,(spS s c j).deep-1⟩ else if T.ch s j=c/\(spS s c j).deep=0 then ⟨(spS s c j).l++[s.extract (spS s c j).from_ j],j+1,(spS s c j).deep⟩ else spS s c j):=rfl
   generalize T.ch s j=h at *
   generalize hq:spS s c j=q at *
   obtain ⟨i,d,p⟩:=q
   simp only at a0 o
   have U:(0:Int)<=(d:Int):=by omega
   have S:(d:Int)<=(j:Int):=by omega
   have a4:-2000<=p:=by omega
   have a3:p<=2000:=by omega
   clear hq
   have a5:(j:Int)<=(s.size:Int):=by omega
   cases e1:(h==40) with
   | true =>
    have a:Hid (spS s c (j+1)=⟨i,d,p+1⟩):=by show _=_;rw [m.out,if_pos (.inl (by simpa using e1))]
    clear m
    go_wp2_with fail
    go_roundg (gk-1)
    case measure=>omega
    case rel=>exact ⟨j+1,by omega,by go_num,by rw [a.out],by rw [a.out],by rw [a.out];exact o.out,C.out⟩
   | false =>
    cases e2:(h==123) with
    | true =>
     have a:Hid (spS s c (j+1)=⟨i,d,p+1⟩):=by show _=_;rw [m.out,if_pos (.inr (by simpa using e2))]
     clear m
     go_wp2_with fail
     go_roundg (gk-1)
     case measure=>omega
     case rel=>exact ⟨j+1,by omega,by go_num,by rw [a.out],by rw [a.out],by rw [a.out];exact o.out,C.out⟩
    | false =>
     have A:¬ (h=40\/h=123):=fun hh=>hh.elim (by simpa using e1) (by simpa using e2)
     cases e3:(h==41) with
     | true =>
      have a:Hid (spS s c (j+1)=⟨i,d,p-1⟩):=by show _=_;rw [m.out,if_neg A,if_pos (.inl (by simpa using e3))]
      clear m A
      go_wp2_with fail
      go_roundg (gk-1)
      case measure=>omega
      case rel=>exact ⟨j+1,by omega,by go_num,by rw [a.out],by rw [a.out],by rw [a.out];exact o.out,C.out⟩
     | false =>
      cases e4:(h==125) with
      | true =>
       have a:Hid (spS s c (j+1)=⟨i,d,p-1⟩):=by show _=_;rw [m.out,if_neg A,if_pos (.inr (by simpa using e4))]
       clear m A
       go_wp2_with fail
       go_roundg (gk-1)
       case measure=>omega
       case rel=>exact ⟨j+1,by omega,by go_num,by rw [a.out],by rw [a.out],by rw [a.out];exact o.out,C.out⟩
      | false =>
       have L:¬ (h=41\/h=125):=fun hh=>hh.elim (by simpa using e3) (by simpa using e4)
       cases e5:(h==c) with
       | false =>
        have a:Hid (spS s c (j+1)=⟨i,d,p⟩):=by show _=_;rw [m.out,if_neg A,if_neg L,if_neg (fun hh=>by simp at e5;exact e5 hh.1)]
        clear m A L
        go_wp2_with fail
        go_roundg (gk-1)
        case measure=>omega
        case rel=>exact ⟨j+1,by omega,by go_num,by rw [a.out],by rw [a.out],by rw [a.out];exact o.out,C.out⟩
       | true =>
        cases e6:(p==0) with
        | false =>
         have a:Hid (spS s c (j+1)=⟨i,d,p⟩):=by show _=_;rw [m.out,if_neg A,if_neg L,if_neg (fun hh=>by simp at e6;exact e6 hh.2)]
         clear m A L
         go_wp2_with fail
         go_roundg (gk-1)
         case measure=>omega
         case rel=>exact ⟨j+1,by omega,by go_num,by rw [a.out],by rw [a.out],by rw [a.out];exact o.out,C.out⟩
        | true =>
         have a:Hid (spS s c (j+1)=⟨i++[s.extract d j],j+1,p⟩):=by show _=_;rw [m.out,if_neg A,if_neg L,if_pos ⟨by simpa using e5,by simpa using e6⟩]
         clear m A L
         have G:Hid (i.length+1<=maxLen):=by show _<=_;unfold maxLen;omega
         have F:Hid ((i.length+1)*16<=140737488355328):=by show _<=_;omega
         have E:Hid (w.heap.size<=(wr.alloc (.cells #[.string (s.extract d j)] 9)).heap.size):=by show _<=_;simp;omega
         have r:Hid (∀ u∈[Value.string (s.extract d j)],u.oneCell'=true):=fun u hu=>by simp at hu;subst hu;rfl
         go_wp2_with (at_builtin;refine wpList_append_lies _ rfl _ _ 27 rfl w.heap.size 9 i0 _ 1 16 Tryz.underlying27 X R Q P rfl (by decide) u5 _ _ rfl (o.out.alloc _) ⟨wr.heap.size,0,none⟩ 1 1 [.string (s.extract d j)] rfl rfl (World.news_of_block (cs:=#[.string (s.extract d j)]) (t:=9) (fr:=(0,0)) (heap_alloc_new wr _)) r.out (Nat.lt_succ_self 0) G.out F.out E.out (wr.heap.size+1) (by simp) ?_;intro g H N f b D V)
         have I:Hid (N.ownsRow w.heap.size 9 1 (O (some ⟨g,0,none⟩) (i.length+1) H) (i++[s.extract d j]).length ((i++[s.extract d j]).map Value.string)):=by
          show World.ownsRow _ _ _ _ _ _ _
          rw [List.length_append,List.map_append]
          exact f
         have K:Hid (Below w.heap.size w N):=(C.out.alloc Y _).grown b (by simp;omega) (fun k hk=>(o.out.lt k hk).1)
         clear f b D
         go_roundg (gk-1)
         case measure=>omega
         case rel=>exact ⟨j+1,by omega,by go_num,by rw [a.out];go_num,by rw [a.out],by rw [a.out];exact I.out,K.out⟩
  ·have W:¬ (j:Int)<(s.size:Int):=by omega
   have a2:j=s.size:=by omega
   subst a2
   have a:Hid (spl s c=(spS s c s.size).l++[s.extract (spS s c s.size).from_ s.size]):=rfl
   generalize hq:spS s c s.size=q at *
   obtain ⟨i,d,p⟩:=q
   simp only at a0 o a
   have U:(0:Int)<=(d:Int):=by omega
   have S:(d:Int)<=(s.size:Int):=by omega
   clear hq
   have G:Hid (i.length+1<=maxLen):=by show _<=_;unfold maxLen;omega
   have F:Hid ((i.length+1)*16<=140737488355328):=by show _<=_;omega
   have E:Hid (w.heap.size<=(wr.alloc (.cells #[.string (s.extract d s.size)] 9)).heap.size):=by show _<=_;simp;omega
   have r:Hid (∀ u∈[Value.string (s.extract d s.size)],u.oneCell'=true):=fun u hu=>by simp at hu;subst hu;rfl
   go_wp2_with (at_builtin;refine wpList_append_lies _ rfl _ _ 27 rfl w.heap.size 9 i0 _ 1 16 Tryz.underlying27 X R Q P rfl (by decide) u5 _ _ rfl (o.out.alloc _) ⟨wr.heap.size,0,none⟩ 1 1 [.string (s.extract d s.size)] rfl rfl (World.news_of_block (cs:=#[.string (s.extract d s.size)]) (t:=9) (fr:=(0,0)) (heap_alloc_new wr _)) r.out (Nat.lt_succ_self 0) G.out F.out E.out (wr.heap.size+1) (by simp) ?_;intro g H N f b D V)
   have I:Hid (N.ownsRow w.heap.size 9 1 (O (some ⟨g,0,none⟩) (i.length+1) H) (spl s c).length ((spl s c).map Value.string)):=by
    show World.ownsRow _ _ _ _ _ _ _
    rw [a.out,List.length_append,List.map_append]
    exact f
   have K:Hid (Below w.heap.size w N):=(C.out.alloc Y _).grown b (by simp;omega) (fun k hk=>(o.out.lt k hk).1)
   clear f b D
   go_wp2_with fail
   go_ret
   exact ⟨K.out,_,rfl,I.out⟩
def Za (n:Int):Int:=if 1000<n then 1001 else n
theorem yd (s:ByteArray) (a b:Nat) (h:b<=s.size):(s.extract a b).size=b-a:=by rw [ByteArray.size_extract];omega
theorem Zd (s:ByteArray) (c:Int):0<(spl s c).length:=by simp [spl]
theorem yN {s:ByteArray} {c:Int} {t:ByteArray} (h:t∈spl s c):t.size<=s.size:=by
 have b:∀ i,i<=s.size->∀ t∈(spS s c i).l,t.size<=s.size:=by
  intro i
  induction i with
  | zero=>intro _ t a;simp [spS] at a
  | succ i ih =>
   intro d t a
   simp only [spS] at a
   split at a
   ·exact ih (by omega) t a
   ·split at a
    ·exact ih (by omega) t a
    ·split at a
     ·simp only [List.mem_append,List.mem_singleton] at a
      rcases a with a | a
      ·exact ih (by omega) t a
      ·subst a;rw [yd s _ _ (by omega)];omega
     ·exact ih (by omega) t a
 unfold spl at h
 rcases List.mem_append.1 h with h | h
 ·exact b s.size (Nat.le_refl _) t h
 ·simp at h;subst h;rw [yd s _ _ (Nat.le_refl _)];omega
theorem yf {w:World} {base g cap n:Nat} {l:List ByteArray} (h:w.ownsRow base 9 1 (O (some ⟨g,0,none⟩) n cap) l.length (l.map Value.string)) {i:Nat} {t:ByteArray} (hi:l[i]?=some t):w.cell? ⟨g,i,none⟩=some (.string t):=by
 have b:i<l.length:=(List.getElem?_eq_some_iff.1 hi).1
 have a:n=l.length:=by
  rcases h.2 with ⟨h0,_⟩ | ⟨g',cap',cur,h0,_⟩
  ·cases h0
  ·cases h0;rfl
 subst a
 rw [World.ownsRow.cellAt h i (by omega)]
 simp [hi]
theorem z8 {w:World} {base:Nat} {l:List ByteArray} {v:Value} (h:w.ownsRow base 9 1 v l.length (l.map Value.string)) (hl:0<l.length):∃ g cap,v=O (some ⟨g,0,none⟩) l.length cap/\base<=g/\g<w.heap.size:=by
 rcases h.2 with ⟨h0,h1⟩ | ⟨g',cap',cur,h0,h1,h2,_⟩
 ·omega
 ·exact ⟨g',cap',h0,h1,lt_of_block h2⟩
theorem YO (n:Int) (w:World):Calls Tryz.prog 100 #[J Z n] w fun e w'=>w'=w/\e=.returned (J Z (Za n)):=by
 by_cases h:1000<n
 ·have a:Hid (Za n=1001):=by show _=_;unfold Za;rw [if_pos h]
  go_enter Tryz.func100,Tryz.ntmps100
  go_wp2_with fail
  go_ret
  exact ⟨rfl,by rw [a.out];rfl⟩
 ·have a:Hid (Za n=n):=by show _=_;unfold Za;rw [if_neg h]
  have b:n<=1000:=by omega
  clear h
  go_enter Tryz.func100,Tryz.ntmps100
  go_wp2_with fail
  go_ret
  exact ⟨rfl,by rw [a.out];rfl⟩
theorem qo (s a:ByteArray) (w:World) (hs:s.size<=2000) (ha:(spl s 58)[0]?=some a) (hl:a.size+1<=s.size) :
 Calls Tryz.prog 102 #[.string s] w fun e w'=>Below w.heap.size w w'/\e=.returned (.tuple #[.string a,.string (s.extract (a.size+1) s.size)]):=by
 go_enter Tryz.func102,Tryz.ntmps102
 go_wp2_with fail
 refine (yT s 58 _ hs).mono ?_
 rintro e f ⟨d,v,rfl,b⟩
 obtain ⟨g,k,rfl,m,j⟩:=z8 b (Zd s 58)
 have c0:=yf b ha
 have h:=Zd s 58
 have l:Hid (Below w.heap.size w f):=d
 clear d b ha
 generalize (spl s 58).length=n at *
 have i:(0:Int)<(n:Int):=by omega
 have p:(a.size:Int)+1<=(s.size:Int):=by omega
 have o:(s.size:Int)<=2000:=by omega
 go_wp2_with fail
 go_quiet (fail)
 go_wp2_with fail
 go_ret2
 exact ⟨zS l.out _,rfl⟩
theorem Z1 (s a b:ByteArray) (w:World) (hs:s.size<=2000) (h3:3<=s.size) (ha:(spl (s.extract 2 (s.size-1)) 124)[0]?=some a) (hb:(spl (s.extract 2 (s.size-1)) 124)[1]?=some b) :
 Calls Tryz.prog 101 #[.string s] w fun e w'=>Below w.heap.size w w'/\∃ v,e=.returned (.tuple #[v,.string b])/\w'.ownsRow w.heap.size 9 1 v (spl a 44).length ((spl a 44).map Value.string):=by
 have j:(s.extract 2 (s.size-1)).size<=2000:=by rw [yd s _ _ (by omega)];omega
 have A:(3:Int)<=(s.size:Int):=by omega
 have z:(s.size:Int)<=2000:=by omega
 go_enter Tryz.func101,Tryz.ntmps101
 go_wp2_with fail
 refine (yT (s.extract 2 (s.size-1)) 124 _ j).mono ?_
 rintro e y ⟨k,v,rfl,f⟩
 obtain ⟨g,G,rfl,H,o⟩:=z8 f (Zd _ _)
 have c0:=yf f ha
 have c1:=yf f hb
 have E:1<(spl (s.extract 2 (s.size-1)) 124).length:=(List.getElem?_eq_some_iff.1 hb).1
 have u:Hid (Below w.heap.size w y):=k
 have l:a.size<=2000:=Nat.le_trans (yN (List.mem_of_getElem? ha)) j
 clear k f ha hb
 generalize (spl (s.extract 2 (s.size-1)) 124).length=n at *
 have F:(1:Int)<(n:Int):=by omega
 have D:(0:Int)<(n:Int):=by omega
 have m:=fun wz=>yT a 44 wz l
 go_wp2_with fail
 go_region_with (go_at_call 98;refine (m _).mono ?_;rintro e x ⟨i,B,rfl,d⟩;have I:=(i.cell (p:=⟨g,1,none⟩) o).trans c1)
 all_goals
  have r:Hid (Below w.heap.size w x):=u.out.drew.trans (i.mono u.out.size)
  have q:Hid (x.ownsRow w.heap.size 9 1 B (spl a 44).length ((spl a 44).map Value.string)):=by
   have C:w.heap.size<=y.drew.heap.size:=u.out.size
   refine ⟨d.1,?_⟩
   rcases d.2 with h | ⟨g',cp,cur,h0,A,z⟩
   ·exact .inl h
   ·exact .inr ⟨g',cp,cur,h0,Nat.le_trans C A,z⟩
  clear i d
  go_wp2_with fail
  go_ret2
  exact ⟨r.out,_,rfl,q.out⟩
def knL (nm:ByteArray) (c:Int):List Int->Nat->Int
 | [],_=>0
 | k::r,i=>if T.ch nm i=c then k else knL nm c r (i+1)
structure KV (w:World) (PB:Nat) (nm:ByteArray) (ko:Option Addr) (K:List Int):Prop where
 lt:PB<w.heap.size
 nm:w.cell? ⟨PB,0,none⟩=some (.string nm)
 kn:∀ i v,K[i]?=some v->∃ g,ko=some ⟨g,0,none⟩/\g<w.heap.size/\w.cell? ⟨g,i,none⟩=some (J Z v)
theorem KV.below {w w':World} {PB:Nat} {nm:ByteArray} {ko:Option Addr} {K:List Int} (h:KV w PB nm ko K) (hb:Below w.heap.size w w'):KV w' PB nm ko K :=
 ⟨Nat.lt_of_lt_of_le h.lt hb.size,by rw [hb.cell (p:=⟨PB,0,none⟩) h.lt];exact h.nm,fun i v hv=>by
  obtain ⟨g,d,a,b⟩:=h.kn i v hv
  exact ⟨g,d,Nat.lt_of_lt_of_le a hb.size,by rw [hb.cell (p:=⟨g,i,none⟩) a];exact b⟩⟩
theorem KV.drew {w:World} {PB:Nat} {nm:ByteArray} {ko:Option Addr} {K:List Int} (h:KV w PB nm ko K):KV w.drew PB nm ko K:=⟨h.lt,h.nm,h.kn⟩
theorem Zj {t:ByteArray} {i:Nat} {c:Int} (h:T.ch t i=c) (hc:0<=c):∃ hi:i<t.size,((t[i]).toNat:Int)=c:=by
 have hi:i<t.size:=T.ch_nn (by omega)
 exact ⟨hi,by rw [<- T.ch_lt hi];exact h⟩
theorem Ju (PB:Nat) (t:ByteArray) (kv:Value) (w:World) (h:T.ch t 0=64) :
 Calls Tryz.prog 54 #[.pointer (some ⟨PB,0,none⟩),.string t,kv] w fun e w'=>Below w.heap.size w w'/\e=.returned (J Z 1):=by
 obtain ⟨d,b⟩:=Zj h (by decide)
 have a:(0:Int)<(t.size:Int):=by omega
 go_enter Tryz.func54,Tryz.ntmps54
 go_wp2_with fail
 go_ret
 exact ⟨Below.refl _ _,rfl⟩
theorem QV (PB:Nat) (t:ByteArray) (kv:Value) (w:World) (hs:t.size<=2000) (h:T.ch t 0=123) (h2:2<=t.size) :
 Calls Tryz.prog 54 #[.pointer (some ⟨PB,0,none⟩),.string t,kv] w fun e w'=>Below w.heap.size w w'/\e=.returned (J Z (1+((spl (t.extract 1 (t.size-1)) 44).length:Int))):=by
 obtain ⟨q,p⟩:=Zj h (by decide)
 have j:(2:Int)<=(t.size:Int):=by omega
 have i:(t.size:Int)<=2000:=by omega
 have b:(t.extract 1 (t.size-1)).size<=2000:=by rw [yd t _ _ (by omega)];omega
 have f:(spl (t.extract 1 (t.size-1)) 44).length<=2001:=by
  have:=(XC (t.extract 1 (t.size-1)) 44 (t.extract 1 (t.size-1)).size).2.1
  simp only [spl,List.length_append,List.length_cons,List.length_nil];omega
 go_enter Tryz.func54,Tryz.ntmps54
 go_wp2_with fail
 refine (yT _ 44 _ b).mono ?_
 rintro e o ⟨d,v,rfl,a⟩
 obtain ⟨g,k,rfl,_,_⟩:=z8 a (Zd _ _)
 have m:Hid _:=d
 clear d a
 generalize hq:(spl (t.extract 1 (t.size-1)) 44).length=n at *
 have l:Hid _:=hq
 clear hq
 go_wp2_with fail
 go_ret
 exact ⟨m.out,by rw [l.out];rfl⟩
theorem zcc (PB:Nat) (t b:ByteArray) (nm:ByteArray) (ko:Option Addr) (kc:Nat) (K:List Int) (n:Int) (w:World) (hs:t.size<=2000) (h:T.ch t 0=116) (h2:3<=t.size) (hbb:(spl (t.extract 2 (t.size-1)) 44)[1]?=some b) (hn0:0<=n) (hn1:n<=5000) (hK:KV w PB nm ko K)
 (ih:∀ w,KV w PB nm ko K->Calls Tryz.prog 54 #[.pointer (some ⟨PB,0,none⟩),.string b,O ko K.length kc] w fun e w'=>Below w.heap.size w w'/\e=.returned (J Z n)) :
 Calls Tryz.prog 54 #[.pointer (some ⟨PB,0,none⟩),.string t,O ko K.length kc] w fun e w'=>Below w.heap.size w w'/\e=.returned (J Z (Za (1+n))):=by
 obtain ⟨E,D⟩:=Zj h (by decide)
 have x:(3:Int)<=(t.size:Int):=by omega
 have u:(t.size:Int)<=2000:=by omega
 have f:(t.extract 2 (t.size-1)).size<=2000:=by rw [yd t _ _ (by omega)];omega
 have z:Hid _:=ih
 have A:Hid _:=hK
 clear ih hK
 go_enter Tryz.func54,Tryz.ntmps54
 go_wp2_with fail
 refine (yT _ 44 _ f).mono ?_
 rintro e C ⟨i,v,rfl,a⟩
 obtain ⟨g,y,rfl,_,s⟩:=z8 a (Zd _ _)
 have c1:=yf a hbb
 have q:1<(spl (t.extract 2 (t.size-1)) 44).length:=(List.getElem?_eq_some_iff.1 hbb).1
 have l:Hid _:=i
 have j:Hid _:=A.out.below i
 clear i a hbb
 generalize (spl (t.extract 2 (t.size-1)) 44).length=m at *
 have r:(1:Int)<(m:Int):=by omega
 go_wp2_with fail
 refine (z.out _ j.out).mono ?_
 rintro e B ⟨d,rfl⟩
 have k:Hid _:=l.out.trans (d.mono l.out.size)
 clear d
 go_wp2_with fail
 refine (YO _ _).mono ?_
 rintro e o ⟨p,rfl⟩
 subst o
 go_wp2_with fail
 go_ret
 exact ⟨k.out,rfl⟩
theorem zaN (PB:Nat) (t:ByteArray) (nm:ByteArray) (ko:Option Addr) (kc:Nat) (K:List Int) (w:World) (hs:t.size<=2000) (h:T.ch t 0=61) (h2:2<=t.size) (hKn:K.length<=nm.size) (hK:KV w PB nm ko K) (hnm:nm.size<=5000) :
 Calls Tryz.prog 54 #[.pointer (some ⟨PB,0,none⟩),.string t,O ko K.length kc] w fun e w'=>Below w.heap.size w w'/\e=.returned (J Z (knL nm (T.ch t 1) K 0)):=by
 obtain ⟨I,H⟩:=Zj h (by decide)
 have B:(2:Int)<=(t.size:Int):=by omega
 have z:(t.size:Int)<=2000:=by omega
 have A:1<t.size:=by omega
 have x:((t[1]).toNat:Int)=T.ch t 1:=(T.ch_lt A).symm
 have C:Hid _:=hK
 have E:=hK.nm
 have D:Hid (knL nm (T.ch t 1) (K.drop 0) 0=knL nm (T.ch t 1) K 0):=by show _=_;rw [List.drop_zero]
 generalize T.ch t 1=c at *
 clear hK
 go_enter Tryz.func54,Tryz.ntmps54
 go_wp2_with fail
 go_loopg [7] K.length (fun n y wr=>∃ (j:Nat),n+j=K.length/\y=J Z j/\Hid (knL nm c (K.drop j) j=knL nm c K 0)/\∃ q,wr=w.drewN q)
 case atStart=>exact ⟨0,by omega,rfl,D,0,rfl⟩
 case round =>
  obtain ⟨j,F,rfl,l,q,rfl⟩:=hrel
  by_cases a:j<K.length
  ·obtain ⟨v,i⟩:∃ v,K[j]?=some v:=⟨K[j],List.getElem?_eq_getElem a⟩
   obtain ⟨g,rfl,r,s⟩:=C.out.kn j v i
   have p:(0:Int)<=(j:Int):=by omega
   have o:(j:Int)<(K.length:Int):=by omega
   have k:j<nm.size:=by omega
   have m:(j:Int)<(nm.size:Int):=by omega
   have u:((nm[j]).toNat:Int)=T.ch nm j:=(T.ch_lt k).symm
   have f:Hid (knL nm c K 0=if T.ch nm j=c then v else knL nm c (K.drop (j+1)) (j+1)):=by
    show _=_
    rw [<- l.out,List.drop_eq_getElem_cons a]
    have:K[j]=v:=by have:=List.getElem?_eq_getElem a;rw [i] at this;simpa using this.symm
    rw [this];rfl
   clear i
   generalize T.ch nm j=d at *
   cases e1:(d==c) with
   | true =>
    have b:Hid (knL nm c K 0=v):=by show _=_;rw [f.out,if_pos (by simpa using e1)]
    clear f
    go_wp2_with fail
    go_quiet (fail)
    go_wp2_with fail
    go_ret
    exact ⟨zS (Below.refl _ _) _,by rw [b.out];rfl⟩
   | false =>
    have b:Hid (knL nm c (K.drop (j+1)) (j+1)=knL nm c K 0):=by show _=_;rw [f.out,if_neg (by simpa using e1)]
    clear f
    go_wp2_with fail
    go_quiet (fail)
    go_wp2_with fail
    go_roundg (gk-1)
    case measure=>omega
    case rel=>exact ⟨j+1,by omega,by go_num,b,_,rfl⟩
  ·have G:¬ ((j:Int)<(K.length:Int)):=by omega
   have f:Hid (knL nm c K 0=0):=by show _=_;rw [<- l.out,List.drop_eq_nil_of_le (by omega)];rfl
   go_wp2_with fail
   go_ret
   exact ⟨zS (Below.refl _ _) _,by rw [f.out];rfl⟩
def SzC (PB:Nat) (nm:ByteArray) (ko:Option Addr) (kc:Nat) (K:List Int) (b:ByteArray) (n:Int):Prop:=∀ w,KV w PB nm ko K->Calls Tryz.prog 54 #[.pointer (some ⟨PB,0,none⟩),.string b,O ko K.length kc] w fun e w'=>Below w.heap.size w w'/\e=.returned (J Z n)
theorem Xa {s:ByteArray} {c:Int} (h:s.size<=2000):(spl s c).length<=2001:=by
 have:=(XC s c s.size).2.1
 simp only [spl,List.length_append,List.length_cons,List.length_nil];omega
theorem zaP (PB:Nat) (t a b:ByteArray) (nm:ByteArray) (ko:Option Addr) (kc:Nat) (K:List Int) (n:Int) (w:World) (hs:t.size<=2000) (h:T.ch t 0=119\/T.ch t 0=102) (h3:3<=t.size) (ha:(spl (t.extract 2 (t.size-1)) 124)[0]?=some a) (hbb:(spl (t.extract 2 (t.size-1)) 124)[1]?=some b) (hn0:0<=n) (hn1:n<=5000) (hK:KV w PB nm ko K) (ih:SzC PB nm ko kc K b n) :
 Calls Tryz.prog 54 #[.pointer (some ⟨PB,0,none⟩),.string t,O ko K.length kc] w fun e w'=>Below w.heap.size w w'/\e=.returned (J Z (Za (1+((spl a 44).length:Int)+n))):=by
 obtain ⟨c,f⟩:∃ c,T.ch t 0=c:=⟨_,rfl⟩
 rw [f] at h
 obtain ⟨R,Q⟩:=Zj f (by omega)
 have H:(3:Int)<=(t.size:Int):=by omega
 have G:(t.size:Int)<=2000:=by omega
 have o:a.size<=2000:=Nat.le_trans (yN (List.mem_of_getElem? ha)) (by rw [yd t _ _ (by omega)];omega)
 have E:=Xa (c:=44) o
 have Y:(c==123)=false:=by rcases h with rfl | rfl<;>rfl
 have X:(c==64)=false:=by rcases h with rfl | rfl<;>rfl
 have W:(c==61)=false:=by rcases h with rfl | rfl<;>rfl
 have V:(c==116)=false:=by rcases h with rfl | rfl<;>rfl
 have U:(c==109)=false:=by rcases h with rfl | rfl<;>rfl
 have S:(c==103)=false:=by rcases h with rfl | rfl<;>rfl
 have L:Hid (SzC PB nm ko kc K b n):=ih
 have N:Hid (KV w PB nm ko K):=hK
 have i:=Z1 t a b w hs h3 ha hbb
 have s:Hid (Calls Tryz.prog 101 #[.string t] w fun e w'=>Below w.heap.size w w'/\∃ v,e=.returned (.tuple #[v,.string b])/\w'.ownsRow w.heap.size 9 1 v (spl a 44).length ((spl a 44).map Value.string)):=i
 clear ih hK i ha hbb h f
 go_enter Tryz.func54,Tryz.ntmps54
 go_wp2_with fail
 refine s.out.mono ?_
 rintro e P ⟨r,v,rfl,d⟩
 obtain ⟨g,I,rfl,_,F⟩:=z8 d (Zd _ _)
 have B:Hid _:=r
 have u:Hid _:=N.out.below r
 clear r d
 generalize hq:(spl a 44).length=m at *
 have A:Hid _:=hq
 clear hq
 go_wp2_with fail
 refine (L.out _ u.out).mono ?_
 rintro e z ⟨j,rfl⟩
 have k:Hid (Below w.heap.size w z):=B.out.trans (j.mono B.out.size)
 clear j
 go_wp2_with fail
 go_loopg [11,12] 1 (fun q x y wr=>x=J Z (1+(m:Int)+n)/\y=J Z 0/\wr=z)
 case atStart=>exact ⟨rfl,rfl,rfl⟩
 case round =>
  obtain ⟨rfl,rfl,rfl⟩:=hrel
  by_cases D:m=0
  ·subst D
   go_wp2_with fail
   refine (YO _ _).mono ?_
   rintro e l ⟨p,rfl⟩
   subst l
   go_wp2_with fail
   go_ret
   exact ⟨k.out,by rw [A.out];rfl⟩
  ·have C:(0:Int)<(m:Int):=by omega
   go_wp2_with fail
   refine (YO _ _).mono ?_
   rintro e l ⟨p,rfl⟩
   subst l
   go_wp2_with fail
   go_ret
   exact ⟨k.out,by rw [A.out];rfl⟩
def Yj (ns:Nat->Int):Nat->Int
 | 0=>0
 | j+1=>Yj ns j+ns j
theorem zaa {ns:Nat->Int} (h:∀ i,0<=ns i/\ns i<=5000):∀ j,0<=Yj ns j/\Yj ns j<=5000*j:=by
 intro j
 induction j with
 | zero=>simp [Yj]
 | succ j ih=>have:=h j;simp only [Yj];omega
theorem zaO (PB:Nat) (t a b:ByteArray) (nm:ByteArray) (ko:Option Addr) (kc:Nat) (K:List Int) (n:Int) (ys:Nat->ByteArray) (ns:Nat->Int) (w:World) (hs:t.size<=2000) (h:T.ch t 0=109\/T.ch t 0=103) (h3:3<=t.size) (ha:(spl (t.extract 2 (t.size-1)) 124)[0]?=some a) (hbb:(spl (t.extract 2 (t.size-1)) 124)[1]?=some b) (hn0:0<=n) (hn1:n<=5000) (hK:KV w PB nm ko K) (ih:SzC PB nm ko kc K b n)
 (hy:∀ i x,(spl a 44)[i]?=some x->(spl x 58)[0]?=some (ys i)/\(ys i).size+1<=x.size) (hns:∀ i,0<=ns i/\ns i<=5000) (ihs:∀ i x,(spl a 44)[i]?=some x->SzC PB nm ko kc K (x.extract ((ys i).size+1) x.size) (ns i)) :
 Calls Tryz.prog 54 #[.pointer (some ⟨PB,0,none⟩),.string t,O ko K.length kc] w fun e w'=>Below w.heap.size w w'/\e=.returned (J Z (Za (1+((spl a 44).length:Int)+n+Yj ns (spl a 44).length))):=by
 obtain ⟨c,A⟩:∃ c,T.ch t 0=c:=⟨_,rfl⟩
 rw [A] at h
 obtain ⟨h0,hc⟩:=Zj A (by omega)
 have b5:(3:Int)<=(t.size:Int):=by omega
 have b4:(t.size:Int)<=2000:=by omega
 have D:a.size<=2000:=Nat.le_trans (yN (List.mem_of_getElem? ha)) (by rw [yd t _ _ (by omega)];omega)
 have b1:=Xa (c:=44) D
 have e1:(c==123)=false:=by rcases h with rfl | rfl<;>rfl
 have e2:(c==64)=false:=by rcases h with rfl | rfl<;>rfl
 have e3:(c==61)=false:=by rcases h with rfl | rfl<;>rfl
 have e4:(c==116)=false:=by rcases h with rfl | rfl<;>rfl
 have a4:Hid ((c==109)=true\/((c==109)=false/\(c==103)=true)):=by rcases h with rfl | rfl<;>simp [Hid]
 have IH:Hid (SzC PB nm ko kc K b n):=ih
 have HY:Hid (∀ i x,(spl a 44)[i]?=some x->(spl x 58)[0]?=some (ys i)/\(ys i).size+1<=x.size):=hy
 have HI:Hid (∀ i x,(spl a 44)[i]?=some x->SzC PB nm ko kc K (x.extract ((ys i).size+1) x.size) (ns i)):=ihs
 have HK:Hid (KV w PB nm ko K):=hK
 have E:=Z1 t a b w hs h3 ha hbb
 have a3:Hid (Calls Tryz.prog 101 #[.string t] w fun e w'=>Below w.heap.size w w'/\∃ v,e=.returned (.tuple #[v,.string b])/\w'.ownsRow w.heap.size 9 1 v (spl a 44).length ((spl a 44).map Value.string)):=E
 have I:Hid (∀ j,0<=Yj ns j/\Yj ns j<=5000*j):=zaa hns
 clear ih hK E ha hbb h A hy ihs hns
 go_enter Tryz.func54,Tryz.ntmps54
 go_wp2_with fail
 refine a3.out.mono ?_
 rintro e S ⟨hb,v,rfl,l⟩
 obtain ⟨g,b6,rfl,_,a0⟩:=z8 l (Zd _ _)
 have HB:Hid _:=hb
 have N:Hid _:=HK.out.below hb
 have a6:Hid (∀ i x,(spl a 44)[i]?=some x->S.cell? ⟨g,i,none⟩=some (.string x)):=fun i x s=>yf l s
 have a1:Hid (∀ (i:Nat) (x:ByteArray),(spl a 44)[i]?=some x->x.size<=2000):=fun i x s=>Nat.le_trans (yN (List.mem_of_getElem? s)) D
 have a5:Hid (∀ i,i<(spl a 44).length->∃ x,(spl a 44)[i]?=some x):=fun i hi=>⟨(spl a 44)[i],List.getElem?_eq_getElem hi⟩
 clear hb l
 generalize hq:(spl a 44).length=m at *
 have HN:Hid _:=hq
 clear hq
 go_wp2_with fail
 refine (IH.out _ N.out).mono ?_
 rintro e w2 ⟨G,rfl⟩
 have a8:Hid _:=G
 clear G
 go_wp2_with fail
 go_loopg [11,12] m (fun q x y wr=>∃ j:Nat,q+j=m/\x=J Z (1+(m:Int)+n+Yj ns j)/\y=J Z j/\Below S.heap.size S wr)
 case atStart=>exact ⟨0,by omega,by simp [Yj],rfl,a8.out⟩
 case round =>
  obtain ⟨j,hn,rfl,rfl,F⟩:=hrel
  have f:Hid _:=F
  have W:=I.out j
  clear F
  by_cases X:j<m
  ·obtain ⟨x,s⟩:=a5.out j X
   have b3:(0:Int)<=(j:Int):=by omega
   have b2:(j:Int)<(m:Int):=by omega
   have cx:=(f.out.cell (p:=⟨g,j,none⟩) a0).trans (a6.out j x s)
   have z:=HY.out j x s
   have V:=a1.out j x s
   have P:Hid (SzC PB nm ko kc K (x.extract ((ys j).size+1) x.size) (ns j)):=HI.out j x s
   have u:=I.out (j+1)
   obtain ⟨U,k⟩:∃ q,Yj ns j=q:=⟨_,rfl⟩
   have HJ:Hid (Yj ns (j+1)=U+ns j):=by show _=_;rw [<- k];rfl
   rw [k] at W
   simp only [Yj] at u
   rw [k] at u ⊢
   clear k
   have H:=fun wz=>qo x (ys j) wz V z.1 z.2
   have Q:Hid _:=H
   have L:Hid _:=N.out.below f.out
   clear s z H
   have a9:(m:Int)<=2001:=by omega
   rcases a4.out with e5 | ⟨e5,e6⟩
   ·go_wp2_with fail
    refine (Q.out _).mono ?_
    rintro e R ⟨d,rfl⟩
    have r:Hid _:=f.out.trans (d.mono f.out.size)
    have B:Hid _:=L.out.below d
    clear d
    go_wp2_with fail
    refine (P.out _ B.out).mono ?_
    rintro e w4 ⟨o,rfl⟩
    have C:Hid _:=r.out.trans (o.mono r.out.size)
    clear o
    go_wp2_with fail
    go_roundg (gk-1)
    case measure=>omega
    case rel=>exact ⟨j+1,by omega,by rw [HJ.out];go_num,by go_num,C.out⟩
   ·go_wp2_with fail
    refine (Q.out _).mono ?_
    rintro e R ⟨d,rfl⟩
    have r:Hid _:=f.out.trans (d.mono f.out.size)
    have B:Hid _:=L.out.below d
    clear d
    go_wp2_with fail
    refine (P.out _ B.out).mono ?_
    rintro e w4 ⟨o,rfl⟩
    have C:Hid _:=r.out.trans (o.mono r.out.size)
    clear o
    go_wp2_with fail
    go_roundg (gk-1)
    case measure=>omega
    case rel=>exact ⟨j+1,by omega,by rw [HJ.out];go_num,by go_num,C.out⟩
  ·have hd:¬ ((j:Int)<(m:Int)):=by omega
   have Y:j=m:=by omega
   subst Y
   have a7:Hid (Below w.heap.size w wr):=HB.out.trans (f.out.mono HB.out.size)
   generalize hsq:Yj ns j=sj at *
   have a2:Hid _:=hsq
   clear hsq
   go_wp2_with fail
   refine (YO _ _).mono ?_
   rintro e R ⟨b0,rfl⟩
   subst R
   go_wp2_with fail
   go_ret
   exact ⟨a7.out,by rw [HN.out,a2.out];rfl⟩
inductive SZ (nm:ByteArray) (K:List Int):ByteArray->Int->Prop where
 | servers {t:ByteArray}:T.ch t 0=123->2<=t.size->SZ nm K t (1+((spl (t.extract 1 (t.size-1)) 44).length:Int))
 | alias {t:ByteArray}:T.ch t 0=64->SZ nm K t 1
 | name {t:ByteArray}:T.ch t 0=61->2<=t.size->SZ nm K t (knL nm (T.ch t 1) K 0)
 | ttl {t b:ByteArray} {n:Int}:T.ch t 0=116->3<=t.size->(spl (t.extract 2 (t.size-1)) 44)[1]?=some b->SZ nm K b n->SZ nm K t (Za (1+n))
 | list {t a b:ByteArray} {n:Int}:(T.ch t 0=119\/T.ch t 0=102)->3<=t.size->(spl (t.extract 2 (t.size-1)) 124)[0]?=some a->(spl (t.extract 2 (t.size-1)) 124)[1]?=some b->SZ nm K b n->SZ nm K t (Za (1+((spl a 44).length:Int)+n))
 | maps {t a b:ByteArray} {n:Int} {ys:Nat->ByteArray} {ns:Nat->Int}:(T.ch t 0=109\/T.ch t 0=103)->3<=t.size->(spl (t.extract 2 (t.size-1)) 124)[0]?=some a->(spl (t.extract 2 (t.size-1)) 124)[1]?=some b->SZ nm K b n ->
  (∀ i x,(spl a 44)[i]?=some x->(spl x 58)[0]?=some (ys i)/\(ys i).size+1<=x.size)->(∀ i,(spl a 44).length<=i->ns i=0)->(∀ i x,(spl a 44)[i]?=some x->SZ nm K (x.extract ((ys i).size+1) x.size) (ns i))->SZ nm K t (Za (1+((spl a 44).length:Int)+n+Yj ns (spl a 44).length))
theorem zfA {nm:ByteArray} {c:Int}:∀ (K:List Int) (i:Nat),(∀ k∈K,0<=k/\k<=5000)->0<=knL nm c K i/\knL nm c K i<=5000:=by
 intro K
 induction K with
 | nil=>intro i _;simp [knL]
 | cons k r ih =>
  intro i h
  simp only [knL]
  split
  ·exact h k (by simp)
  ·exact ih (i+1) (fun x hx=>h x (by simp [hx]))
theorem qh {n:Int} (h:0<=n):0<=Za n/\Za n<=1001:=by unfold Za;split<;>omega
theorem jy {nm:ByteArray} {K:List Int} {t:ByteArray} {n:Int} (h:SZ nm K t n) (PB:Nat) (ko:Option Addr) (kc:Nat) (hKb:∀ k∈K,0<=k/\k<=5000) (hnm:nm.size<=5000) (hKn:K.length<=nm.size):t.size<=2000->SzC PB nm ko kc K t n/\0<=n/\n<=5000:=by
 induction h with
 | @servers t h1 h2 =>
  intro e
  exact ⟨fun w _=>QV PB _ _ w e h1 h2,by omega,by have:=Xa (s:=t.extract 1 (t.size-1)) (c:=44) (by rw [yd _ _ _ (by omega)];omega);omega⟩
 | alias h1=>intro e;exact ⟨fun w _=>Ju PB _ _ w h1,by decide,by decide⟩
 | @name t h1 h2=>intro e;have:=zfA (nm:=nm) (c:=T.ch t 1) K 0 hKb;exact ⟨fun w hK=>zaN PB _ nm ko kc K w e h1 h2 hKn hK hnm,this.1,by omega⟩
 | ttl h1 h2 h3 _ ih =>
  intro e
  have m:=Nat.le_trans (yN (List.mem_of_getElem? h3)) (Nat.le_trans (by rw [yd _ _ _ (by omega)];omega) e)
  have d:=ih m
  have q:=qh (n:=1+_) (Int.add_nonneg (by decide) d.2.1)
  exact ⟨fun w hK=>zcc PB _ _ nm ko kc K _ w e h1 h2 h3 d.2.1 d.2.2 hK d.1,q.1,by omega⟩
 | @list t a b n h1 h2 h3 h4 _ ih =>
  intro e
  have m:=Nat.le_trans (yN (List.mem_of_getElem? h4)) (Nat.le_trans (by rw [yd _ _ _ (by omega)];omega) e)
  have d:=ih m
  refine ⟨fun w hK=>zaP PB _ _ _ nm ko kc K _ w e h1 h2 h3 h4 d.2.1 d.2.2 hK d.1,?_⟩
  have:=qh (n:=1+((spl a 44).length:Int)+n) (by have:=d.2.1;omega)
  exact ⟨this.1,by omega⟩
 | @maps t a b n ys ns h1 h2 h3 h4 _ hy hz _ ih ihs =>
  intro e
  have g:(t.extract 2 (t.size-1)).size<=2000:=by rw [yd t _ _ (by omega)];omega
  have m:=Nat.le_trans (yN (List.mem_of_getElem? h4)) g
  have r:=Nat.le_trans (yN (List.mem_of_getElem? h3)) g
  have d:=ih m
  have f:∀ (i:Nat) (x:ByteArray),(spl a 44)[i]?=some x->(x.extract ((ys i).size+1) x.size).size<=2000:=fun i x j=>by
   have:=Nat.le_trans (yN (List.mem_of_getElem? j)) r
   rw [yd x _ _ (Nat.le_refl _)];omega
  have l:∀ i,0<=ns i/\ns i<=5000:=fun i=>by
   by_cases o:i<(spl a 44).length
   ·have j:(spl a 44)[i]?=some (spl a 44)[i]:=List.getElem?_eq_getElem o
    exact (ihs i _ j (f i _ j)).2
   ·rw [hz i (by omega)];decide
  have p:=zaa l (spl a 44).length
  refine ⟨fun w hK=>zaO PB t a b nm ko kc K n ys ns w e h1 h2 h3 h4 d.2.1 d.2.2 hK d.1 hy l (fun i x j=>(ihs i x j (f i x j)).1),?_⟩
  have:=qh (n:=1+((spl a 44).length:Int)+n+Yj ns (spl a 44).length) (by have:=d.2.1;omega)
  exact ⟨this.1,by omega⟩
def brL (s:ByteArray):Nat->List Int
 | 0=>[]
 | n+1=>brL s n++(if T.bl (T.ch s n)=true then [] else [T.ch s n])
def bare (s:ByteArray):ByteArray:=strOfNums (brL s s.size)
theorem qk (s:ByteArray):∀ n,(brL s n).length<=n:=by
 intro n
 induction n with
 | zero=>exact Nat.le_refl _
 | succ n ih=>simp only [brL,List.length_append];split<;>simp<;>omega
theorem zdx (s:ByteArray) (w:World) (hs:s.size<=2000) :
 Calls Tryz.prog 99 #[.string s] w fun e w'=>Below w.heap.size w w'/\e=.returned (.string (bare s)):=by
 obtain ⟨Y,F,B,A,z⟩:=info_parts Tryz.infoByte
 go_enter Tryz.func99,Tryz.ntmps99
 go_wp2_with fail
 have G:=fun (w:World) (g len b:Nat) (xs:List Int) (hl:xs.length=len) (hc:∀ i,i<len->w.cell? ⟨g,0+i,none⟩=some (J .u8 (xs.getD i 0)))=>run_convert_bytes_arg (P:=Tryz.prog) w 57 5 Tryz.underlying57 Tryz.underlying5 g 0 len b xs hl hc 9 Tryz.underlying9
 have H:=fun (w:World)=>run_convert_bytes_nil (P:=Tryz.prog) w 57 5 Tryz.underlying57 Tryz.underlying5 0 0 9 Tryz.underlying9
 go_loopg [3,4] s.size (fun n x y wr=>∃ (j:Nat),n+j=s.size/\y=J Z j/\wr.ownsRow w.heap.size 5 1 x (brL s j).length ((brL s j).map (Value.int .u8))/\Below w.heap.size w wr)
 case atStart=>exact ⟨0,by omega,rfl,⟨rfl,.inl ⟨rfl,rfl⟩⟩,Below.refl _ _⟩
 case round =>
  obtain ⟨j,hn,rfl,d,K⟩:=hrel
  have r:Hid (wr.ownsRow w.heap.size 5 1 u3 (brL s j).length ((brL s j).map (Value.int .u8))):=d
  have v:Hid (Below w.heap.size w wr):=K
  have I:=K.size
  clear d K
  by_cases D:j<s.size
  ·have m:(j:Int)<(s.size:Int):=by omega
   have a1:(0:Int)<=(j:Int):=by omega
   have a2:((s[j]).toNat:Int)=T.ch s j:=(T.ch_lt D).symm
   have p:=fun w=>QM (T.ch s j) w
   have a0:=qk s j
   generalize hq:T.bl (T.ch s j)=q at *
   cases q with
   | true =>
    have h:Hid (brL s (j+1)=brL s j):=by show _=_;simp only [brL];rw [if_pos hq,List.append_nil]
    clear hq
    generalize T.ch s j=c at *
    go_wp2_with fail
    refine (p _).mono ?_
    rintro e w' ⟨rfl,C⟩
    subst w'
    go_wp2_with fail
    go_roundg (gk-1)
    case measure=>omega
    case rel=>exact ⟨j+1,by omega,by go_num,by rw [h.out];exact r.out,v.out⟩
   | false =>
    have h:Hid (brL s (j+1)=brL s j++[T.ch s j]):=by show _=_;simp only [brL];rw [if_neg (by rw [hq];decide)]
    clear hq
    generalize T.ch s j=c at *
    have R:Hid ((brL s j).length+1<=maxLen):=by show _<=_;unfold maxLen;omega
    have Q:Hid (((brL s j).length+1)*1<=140737488355328):=by show _<=_;omega
    have N:Hid (w.heap.size<=(wr.alloc (.cells #[J .u8 c] 5)).heap.size):=by show _<=_;simp;omega
    have l:Hid (∀ u∈[Value.int .u8 c],u.oneCell'=true):=fun u hu=>by simp at hu;subst hu;rfl
    go_wp2_with fail
    refine (p _).mono ?_
    rintro e w' ⟨rfl,C⟩
    subst w'
    go_wp2_with (at_builtin;refine wpList_append_lies _ rfl _ _ 57 rfl w.heap.size 5 Y _ 1 1 Tryz.underlying57 F B A z rfl (by decide) u3 _ _ rfl (r.out.alloc _) ⟨wr.heap.size,0,none⟩ 1 1 [J .u8 c] rfl rfl (World.news_of_block (cs:=#[J .u8 c]) (t:=5) (fr:=(0,0)) (heap_alloc_new wr _)) l.out (Nat.lt_succ_self 0) R.out Q.out N.out (wr.heap.size+1) (by simp) ?_;intro g b V f a L W)
    have S:Hid (V.ownsRow w.heap.size 5 1 (O (some ⟨g,0,none⟩) ((brL s j).length+1) b) (brL s (j+1)).length ((brL s (j+1)).map (Value.int .u8))):=by
     show World.ownsRow _ _ _ _ _ _ _
     rw [h.out,List.length_append,List.map_append]
     exact f
    have U:Hid (Below w.heap.size w V):=(v.out.alloc I _).grown a (by simp;omega) (fun k hk=>(r.out.lt k hk).1)
    clear f a L
    go_roundg (gk-1)
    case measure=>omega
    case rel=>exact ⟨j+1,by omega,by go_num,S.out,U.out⟩
  ·have m:¬ (j:Int)<(s.size:Int):=by omega
   have E:j=s.size:=by omega
   subst E
   rcases r.out.2 with ⟨h1,h2⟩ | ⟨g,b,cur,h1,h2,h3,h4,h5,h6,h7⟩
   ·subst h1
    have h:Hid (bare s=ByteArray.empty):=by show _=_;unfold bare;rw [List.eq_nil_of_length_eq_zero h2];rfl
    have X:=H wr
    go_wp2_with fail
    go_ret
    exact ⟨v.out,by rw [h.out];rfl⟩
   ·subst h1
    have o:=G wr g (brL s s.size).length b (brL s s.size) rfl (fun i hi=>by
     have:=World.ownsRow.cellAt r.out i (by omega)
     rw [Nat.zero_add,this]
     simp [hi])
    have h:Hid (strOfNums (brL s s.size)=bare s):=rfl
    rw [h.out] at o
    go_wp2_with fail
    go_ret
    exact ⟨v.out,rfl⟩
end Go.Proofs.YtaebngpoagjafabGreat
