import Derived.Test.YtaebngpoagjafabGreatQ04
import Derived.Test.YtaebngpoagjafabGreatQ13
set_option maxRecDepth 100000
set_option maxHeartbeats 800000
namespace Go.Proofs.YtaebngpoagjafabGreat
open Option renaming some → F,none → N
open Proofs.Tryz renaming prog → S
open Bool renaming false → E,true → A
open Proofs.Tryz
open Obj renaming cells → Q
open Value renaming int → J, slice → O
open IntKind renaming i64 → Z
open Go.RowKit
attribute [local go_sem ↓] Go.wp_at_zero Go.wp_at_succ
structure SPL where
 l:List ByteArray
 from_:Nat
 deep:Int
def spS(s:ByteArray)(c:Int):Nat->SPL
 |0=>⟨[],0,0⟩
 | i+1 =>
  let q:=spS s c i
  if T.ch s i=40\/T.ch s i=123 then⟨q.l,q.from_,q.deep+1⟩
  else if T.ch s i=41\/T.ch s i=125 then⟨q.l,q.from_,q.deep-1⟩
  else if T.ch s i=c/\q.deep=0 then⟨q.l++[s.extract q.from_ i],i+1,q.deep⟩
  else q
def spl(s:ByteArray)(c:Int):List ByteArray:=(spS s c s.size).l++[s.extract (spS s c s.size).from_ s.size]
theorem qn(s:ByteArray)(c:Int):∀i,(spS s c i).from_<=i/\(spS s c i).l.length<=i/\-(i:Int)<=(spS s c i).deep/\(spS s c i).deep<=i:=by
 intro i;induction i with
 |zero=>simp[spS]
 | succ i ih =>
  simp only[spS];split
  ·simp only;omega
  ·split
   ·simp only;omega
   ·split
    ·simp only[List.length_append,List.length_cons,List.length_nil];omega
    ·omega
theorem infoStr:(Tryz.prog.info? 9).map (λi=>(i.zero,i.size,i.bytes))=F (F (.string ByteArray.empty),1,16):=kr
theorem Zd(s:ByteArray)(c:Int)(w:World)(hs:s.size<=2000):
 Calls S 98 #[.string s,J .u8 c] w λe w'=>Below w.heap.size w w'/\∃v,e=.returned v/\w'.ownsRow w.heap.size 9 1 v (spl s c).length ((spl s c).map Value.string):=by
 obtain⟨i0,a4,Y,X,W⟩:=info_parts infoStr;go_enter func98,ntmps98;go_wp2_with fail;go_loopg [5,6,7,8] s.size (λn x y z t wr=>∃(j:Nat),n+j=s.size/\t=J Z j/\y=J Z (spS s c j).from_/\z=J Z (spS s c j).deep/\wr.ownsRow w.heap.size 9 1 x (spS s c j).l.length ((spS s c j).l.map Value.string)/\Below w.heap.size w wr)
 case atStart=>exact⟨0,ol,rfl,rfl,rfl,⟨rfl,.inl ⟨rfl,rfl⟩⟩,Below.refl _ _⟩
 case round =>
  obtain⟨j,hn,rfl,rfl,rfl,D,hb⟩:=hrel;have p:Hd (wr.ownsRow w.heap.size 9 1 u5 (spS s c j).l.length ((spS s c j).l.map Value.string)):=D;have E:Hd (Below w.heap.size w wr):=hb;have a5:=hb.size;have a6:=qn s c j;clear D hb;by_cases a7:j<s.size
  ·have a3:(j:Int)<(s.size:Int):=(by omega);have b2:(0:Int)<=(j:Int):=ol;have b3:((s[j]).toNat:Int)=T.ch s j:=(T.ch_lt a7).symm;have m:Hd (spS s c (j+1)=if T.ch s j=40\/T.ch s j=123 then⟨(spS s c j).l,(spS s c j).from_,(spS s c j).deep+1⟩else if T.ch s j=41\/T.ch s j=125 then⟨(spS s c j).l,(spS s c j).from_,(spS s c j).deep-1⟩else if T.ch s j=c/\(spS s c j).deep=0 then⟨(spS s c j).l++[s.extract (spS s c j).from_ j],j+1,(spS s c j).deep⟩else spS s c j):=rfl;generalize T.ch s j=h at *;generalize hq:spS s c j=q at *;obtain⟨i,d,r⟩:=q;simp only at a6 p;have a1:(0:Int)<=(d:Int):=ol;have a0:(d:Int)<=(j:Int):=ol;have b0:-2000<=r:=ol;have a9:r<=2000:=ol;clear hq;have b1:(j:Int)<=(s.size:Int):=ol;cases e1:(h==40)with
   | true =>
    have a:Hd (spS s c (j+1)=⟨i,d,r+1⟩):=(by show _=_;rw[m.o,if_pos (.inl (by simpa using e1))]);clear m;go_wp2_with fail;go_roundg (gk-1)
    case measure=>omega
    case rel=>exact⟨j+1,ol,by go_num,by rw[a.o],by rw[a.o],by rw[a.o];exact p.o,E.o⟩
   | false =>
    cases e2:(h==123)with
    | true =>
     have a:Hd (spS s c (j+1)=⟨i,d,r+1⟩):=(by show _=_;rw[m.o,if_pos (.inr (by simpa using e2))]);clear m;go_wp2_with fail;go_roundg (gk-1)
     case measure=>omega
     case rel=>exact⟨j+1,ol,by go_num,by rw[a.o],by rw[a.o],by rw[a.o];exact p.o,E.o⟩
    | false =>
     have C:¬(h=40\/h=123):=λhh=>hh.elim (by simpa using e1) (by simpa using e2)
     cases e3:(h==41)with
     | true =>
      have a:Hd (spS s c (j+1)=⟨i,d,r-1⟩):=(by show _=_;rw[m.o,if_neg C,if_pos (.inl (by simpa using e3))]);clear m C;go_wp2_with fail;go_roundg (gk-1)
      case measure=>omega
      case rel=>exact⟨j+1,ol,by go_num,by rw[a.o],by rw[a.o],by rw[a.o];exact p.o,E.o⟩
     | false =>
      cases e4:(h==125)with
      | true =>
       have a:Hd (spS s c (j+1)=⟨i,d,r-1⟩):=(by show _=_;rw[m.o,if_neg C,if_pos (.inr (by simpa using e4))]);clear m C;go_wp2_with fail;go_roundg (gk-1)
       case measure=>omega
       case rel=>exact⟨j+1,ol,by go_num,by rw[a.o],by rw[a.o],by rw[a.o];exact p.o,E.o⟩
      | false =>
       have U:¬(h=41\/h=125):=λhh=>hh.elim (by simpa using e3) (by simpa using e4)
       cases e5:(h==c)with
       | false =>
        have a:Hd (spS s c (j+1)=⟨i,d,r⟩):=(by show _=_;rw[m.o,if_neg C,if_neg U,if_neg (λhh=>by simp at e5;exact e5 hh.1)]);clear m C U;go_wp2_with fail;go_roundg (gk-1)
        case measure=>omega
        case rel=>exact⟨j+1,ol,by go_num,by rw[a.o],by rw[a.o],by rw[a.o];exact p.o,E.o⟩
       | true =>
        cases e6:(r==0)with
        | false =>
         have a:Hd (spS s c (j+1)=⟨i,d,r⟩):=(by show _=_;rw[m.o,if_neg C,if_neg U,if_neg (λhh=>by simp at e6;exact e6 hh.2)]);clear m C U;go_wp2_with fail;go_roundg (gk-1)
         case measure=>omega
         case rel=>exact⟨j+1,ol,by go_num,by rw[a.o],by rw[a.o],by rw[a.o];exact p.o,E.o⟩
        | true =>
         have a:Hd (spS s c (j+1)=⟨i++[s.extract d j],j+1,r⟩):=(by show _=_;rw[m.o,if_neg C,if_neg U,if_pos ⟨by simpa using e5,by simpa using e6⟩]);clear m C U;have K:Hd (i.length+1<=maxLen):=sx;have I:Hd ((i.length+1)*16<=140737488355328):=oz;have H:Hd (w.heap.size<=(wr.alloc (Q #[.string (s.extract d j)] 9)).heap.size):=mc;have B:Hd (∀u∈[Value.string (s.extract d j)],u.oneCell'=A):=λu hu=>by simp at hu;subst hu;rfl
         go_wp2_with (at_builtin;refine wpList_append_lies _ rfl _ _ 27 rfl w.heap.size 9 i0 _ 1 16 underlying27 a4 Y X W rfl oq u5 _ _ rfl (p.o.alloc _) ⟨wr.heap.size,0,N⟩ 1 1 [.string (s.extract d j)] rfl rfl (World.news_of_block (cs:=#[.string (s.extract d j)]) (t:=9) (fr:=(0,0)) (heap_alloc_new wr _)) B.o (Nat.lt_succ_self 0) K.o I.o H.o (wr.heap.size+1) ot ?_;intro g L V f b G a2)
         have P:Hd (V.ownsRow w.heap.size 9 1 (O (F ⟨g,0,N⟩) (i.length+1) L) (i++[s.extract d j]).length ((i++[s.extract d j]).map Value.string)):=by
          show World.ownsRow _ _ _ _ _ _ _;rw[List.length_append,List.map_append];exact f
         have R:Hd (Below w.heap.size w V):=(E.o.alloc a5 _).grown b ow (λk hk=>(p.o.lt k hk).1);clear f b G;go_roundg (gk-1)
         case measure=>omega
         case rel=>exact⟨j+1,ol,by go_num,by rw[a.o];go_num,by rw[a.o],by rw[a.o];exact P.o,R.o⟩
  ·have a3:¬(j:Int)<(s.size:Int):=(by omega);have a8:j=s.size:=ol;subst a8;have a:Hd (spl s c=(spS s c s.size).l++[s.extract (spS s c s.size).from_ s.size]):=rfl;generalize hq:spS s c s.size=q at *;obtain⟨i,d,r⟩:=q;simp only at a6 p a;have a1:(0:Int)<=(d:Int):=ol;have a0:(d:Int)<=(s.size:Int):=ol;clear hq;have K:Hd (i.length+1<=maxLen):=sx;have I:Hd ((i.length+1)*16<=140737488355328):=oz;have H:Hd (w.heap.size<=(wr.alloc (Q #[.string (s.extract d s.size)] 9)).heap.size):=mc;have B:Hd (∀u∈[Value.string (s.extract d s.size)],u.oneCell'=A):=λu hu=>by simp at hu;subst hu;rfl
   go_wp2_with (at_builtin;refine wpList_append_lies _ rfl _ _ 27 rfl w.heap.size 9 i0 _ 1 16 underlying27 a4 Y X W rfl oq u5 _ _ rfl (p.o.alloc _) ⟨wr.heap.size,0,N⟩ 1 1 [.string (s.extract d s.size)] rfl rfl (World.news_of_block (cs:=#[.string (s.extract d s.size)]) (t:=9) (fr:=(0,0)) (heap_alloc_new wr _)) B.o (Nat.lt_succ_self 0) K.o I.o H.o (wr.heap.size+1) ot ?_;intro g L V f b G a2)
   have P:Hd (V.ownsRow w.heap.size 9 1 (O (F ⟨g,0,N⟩) (i.length+1) L) (spl s c).length ((spl s c).map Value.string)):=by
    show World.ownsRow _ _ _ _ _ _ _;rw[a.o,List.length_append,List.map_append];exact f
   have R:Hd (Below w.heap.size w V):=(E.o.alloc a5 _).grown b ow (λk hk=>(p.o.lt k hk).1);clear f b G;go_wp2_with fail;go_ret;exact⟨R.o,_,rfl,P.o⟩
def Zj(n:Int):Int:=if 1000<n then 1001 else n
theorem yf(s:ByteArray)(a b:Nat)(h:b<=s.size):(s.extract a b).size=b-a:=by rw[ByteArray.size_extract];omega
theorem Zq(s:ByteArray)(c:Int):0<(spl s c).length:=by simp[spl]
theorem yX{s:ByteArray}{c:Int}{t:ByteArray}(h:t∈spl s c):t.size<=s.size:=by
 have a:∀i,i<=s.size->∀t∈(spS s c i).l,t.size<=s.size:=by
  intro i;induction i with
  |zero=>intro _ t ht;simp[spS]at ht
  | succ i ih =>
   intro b t ht;simp only[spS]at ht;split at ht
   ·exact ih ol t ht
   ·split at ht
    ·exact ih ol t ht
    ·split at ht
     ·simp only[List.mem_append,List.mem_singleton]at ht;rcases ht with ht|ht
      ·exact ih ol t ht
      ·subst ht;rw[yf s _ _ ol];omega
     ·exact ih ol t ht
 unfold spl at h;rcases List.mem_append.1 h with h|h
 ·exact a s.size (Nat.le_refl _) t h
 ·simp at h;subst h;rw[yf s _ _ (Nat.le_refl _)];omega
theorem yh{w:World}{base g cap n:Nat}{l:List ByteArray}(h:w.ownsRow base 9 1 (O (F ⟨g,0,N⟩) n cap) l.length (l.map Value.string)){i:Nat}{t:ByteArray}(hi:l[i]?=F t):w.cell? ⟨g,i,N⟩=F (.string t):=by
 have b:i<l.length:=(List.getElem?_eq_some_iff.1 hi).1;have a:n=l.length:=by
  rcases h.2 with⟨h0,_⟩|⟨g',cap',cur,h0,_⟩
  ·cases h0
  ·cases h0;rfl
 subst a;rw[World.ownsRow.cellAt h i ol];simp[hi]
theorem ya{w:World}{base:Nat}{l:List ByteArray}{v:Value}(h:w.ownsRow base 9 1 v l.length (l.map Value.string))(a:0<l.length):∃g cap,v=O (F ⟨g,0,N⟩) l.length cap/\base<=g/\g<w.heap.size:=by
 rcases h.2 with⟨h0,h1⟩|⟨g',cap',cur,h0,h1,h2,_⟩
 ·omega
 ·exact⟨g',cap',h0,h1,lt_of_block h2⟩
theorem Y5(n:Int)(w:World):Calls S 100 #[J Z n] w λe w'=>w'=w/\e=.returned (J Z (Zj n)):=by
 by_cases h:1000<n
 ·have a:Hd (Zj n=1001):=by show _=_;unfold Zj;rw[if_pos h]
  go_enter func100,ntmps100;go_wp2_with fail;go_ret;exact⟨rfl,by rw[a.o];rfl⟩
 ·have a:Hd (Zj n=n):=by show _=_;unfold Zj;rw[if_neg h]
  have b:n<=1000:=ol;clear h;go_enter func100,ntmps100;go_wp2_with fail;go_ret;exact⟨rfl,by rw[a.o];rfl⟩
theorem Qk(s a:ByteArray)(w:World)(h:s.size<=2000)(d:(spl s 58)[0]?=F a)(p:a.size+1<=s.size):
 Calls S 102 #[.string s] w λe w'=>Below w.heap.size w w'/\e=.returned (.tuple #[.string a,.string (s.extract (a.size+1) s.size)]):=by
 go_enter func102,ntmps102;go_wp2_with fail;refine(Zd s 58 _ h).mono ?_;rintro e f ⟨c,v,rfl,b⟩;obtain⟨g,l,rfl,q,k⟩:=ya b (Zq s 58);have u:=yh b d;have i:=Zq s 58;have m:Hd (Below w.heap.size w f):=c;clear c b d;generalize(spl s 58).length=n at *;have j:(0:Int)<(n:Int):=ol;have t:(a.size:Int)+1<=(s.size:Int):=ol;have r:(s.size:Int)<=2000:=ol;go_wp2_with fail;go_quiet (fail)
 go_wp2_with fail;go_ret2;exact⟨zT m.o _,rfl⟩
theorem Yd(s a b:ByteArray)(w:World)(K:s.size<=2000)(O:3<=s.size)(r:(spl (s.extract 2 (s.size-1)) 124)[0]?=F a)(q:(spl (s.extract 2 (s.size-1)) 124)[1]?=F b):
 Calls S 101 #[.string s] w λe w'=>Below w.heap.size w w'/\∃v,e=.returned (.tuple #[v,.string b])/\w'.ownsRow w.heap.size 9 1 v (spl a 44).length ((spl a 44).map Value.string):=by
 have i:(s.extract 2 (s.size-1)).size<=2000:=by rw[yf s _ _ ol];omega
 have B:(3:Int)<=(s.size:Int):=ol;have A:(s.size:Int)<=2000:=ol;go_enter func101,ntmps101;go_wp2_with fail;refine(Zd (s.extract 2 (s.size-1)) 124 _ i).mono ?_;rintro e z ⟨j,v,rfl,d⟩;obtain⟨g,I,rfl,L,m⟩:=ya d (Zq _ _);have Q:=yh d r;have J:=yh d q;have G:1<(spl (s.extract 2 (s.size-1)) 124).length:=(List.getElem?_eq_some_iff.1 q).1;have x:Hd (Below w.heap.size w z):=j;have k:a.size<=2000:=Nat.le_trans (yX (List.mem_of_getElem? r)) i;clear j d r q;generalize(spl (s.extract 2 (s.size-1)) 124).length=n at *;have H:(1:Int)<(n:Int):=ol;have E:(0:Int)<(n:Int):=ol;have l:=λwz=>Zd a 44 wz k
 go_wp2_with fail;go_region_with (go_at_call 98;refine(l _).mono ?_;rintro e y ⟨f,C,rfl,c⟩;have P:=(f.cell (p:=⟨g,1,N⟩) m).trans J)
 all_goals
  have u:Hd (Below w.heap.size w y):=x.o.drew.trans (f.mono x.o.size);have t:Hd (y.ownsRow w.heap.size 9 1 C (spl a 44).length ((spl a 44).map Value.string)):=by
   have D:w.heap.size<=z.drew.heap.size:=x.o.size;refine⟨c.1,?_⟩;rcases c.2 with h|⟨g',cp,cur,h0,B,A⟩
   ·exact .inl h
   ·exact .inr ⟨g',cp,cur,h0,Nat.le_trans D B,A⟩
  clear f c;go_wp2_with fail;go_ret2;exact⟨u.o,_,rfl,t.o⟩
def knL(nm:ByteArray)(c:Int):List Int->Nat->Int
 | [],_=>0
 |k::r,i=>if T.ch nm i=c then k else knL nm c r (i+1)
structure KV (w:World) (PB:Nat) (nm:ByteArray) (ko:Option Addr) (K:List Int):Prop where
 lt:PB<w.heap.size
 nm:w.cell? ⟨PB,0,N⟩=F (.string nm)
 kn:∀i v,K[i]?=F v->∃g,ko=F ⟨g,0,N⟩/\g<w.heap.size/\w.cell? ⟨g,i,N⟩=F (J Z v)
theorem KV.below{w w':World}{b:Nat}{nm:ByteArray}{c:Option Addr}{K:List Int}(h:KV w b nm c K)(a:Below w.heap.size w w'):KV w' b nm c K :=
 ⟨Nat.lt_of_lt_of_le h.lt a.size,by rw[a.cell (p:=⟨b,0,N⟩) h.lt];exact h.nm,λi v hv=>by
  obtain⟨g,f,d,e⟩:=h.kn i v hv;exact⟨g,f,Nat.lt_of_lt_of_le d a.size,by rw[a.cell (p:=⟨g,i,N⟩) d];exact e⟩⟩
theorem KV.drew{w:World}{b:Nat}{nm:ByteArray}{a:Option Addr}{K:List Int}(h:KV w b nm a K):KV w.drew b nm a K:=⟨h.lt,h.nm,h.kn⟩
theorem Zy{t:ByteArray}{i:Nat}{c:Int}(h:T.ch t i=c)(a:0<=c):∃hi:i<t.size,((t[i]).toNat:Int)=c:=by
 have hi:i<t.size:=T.ch_nn ol;exact⟨hi,by rw[<-T.ch_lt hi];exact h⟩
theorem zah(c:Nat)(t:ByteArray)(a:Value)(w:World)(h:T.ch t 0=64):
 Calls S 54 #[.pointer (F ⟨c,0,N⟩),.string t,a] w λe w'=>Below w.heap.size w w'/\e=.returned (J Z 1):=by
 obtain⟨f,d⟩:=Zy h oq;have b:(0:Int)<(t.size:Int):=ol;go_enter func54,ntmps54;go_wp2_with fail;go_ret;exact⟨Below.refl _ _,rfl⟩
theorem jF(l:Nat)(t:ByteArray)(d:Value)(w:World)(r:t.size<=2000)(h:T.ch t 0=123)(u:2<=t.size):
 Calls S 54 #[.pointer (F ⟨l,0,N⟩),.string t,d] w λe w'=>Below w.heap.size w w'/\e=.returned (J Z (1+((spl (t.extract 1 (t.size-1)) 44).length:Int))):=by
 obtain⟨x,s⟩:=Zy h oq;have j:(2:Int)<=(t.size:Int):=ol;have i:(t.size:Int)<=2000:=ol;have b:(t.extract 1 (t.size-1)).size<=2000:=by rw[yf t _ _ ol];omega
 have f:(spl (t.extract 1 (t.size-1)) 44).length<=2001:=by
  have:=(qn (t.extract 1 (t.size-1)) 44 (t.extract 1 (t.size-1)).size).2.1
  simp only[spl,List.length_append,List.length_cons,List.length_nil];omega
 go_enter func54,ntmps54;go_wp2_with fail;refine(Zd _ 44 _ b).mono ?_;rintro e q ⟨c,v,rfl,a⟩;obtain⟨g,k,rfl,_,_⟩:=ya a (Zq _ _);have p:Hd _:=c;clear c a;generalize hq:(spl (t.extract 1 (t.size-1)) 44).length=n at *;have m:Hd _:=hq;clear hq;go_wp2_with fail;go_ret;exact⟨p.o,by rw[m.o];rfl⟩
theorem zc9(i:Nat)(t b:ByteArray)(nm:ByteArray)(f:Option Addr)(q:Nat)(K:List Int)(n:Int)(w:World)(R:t.size<=2000)(h:T.ch t 0=116)(V:3<=t.size)(c:(spl (t.extract 2 (t.size-1)) 44)[1]?=F b)(A:0<=n)(z:n<=5000)(s:KV w i nm f K)(r:∀w,KV w i nm f K->Calls S 54 #[.pointer (F ⟨i,0,N⟩),.string b,O f K.length q] w λe w'=>Below w.heap.size w w'/\e=.returned (J Z n)):
 Calls S 54 #[.pointer (F ⟨i,0,N⟩),.string t,O f K.length q] w λe w'=>Below w.heap.size w w'/\e=.returned (J Z (Zj (1+n))):=by
 obtain⟨W,U⟩:=Zy h oq;have G:(3:Int)<=(t.size:Int):=ol;have E:(t.size:Int)<=2000:=ol;have j:(t.extract 2 (t.size-1)).size<=2000:=by rw[yf t _ _ ol];omega
 have I:Hd _:=r;have L:Hd _:=s;clear r s;go_enter func54,ntmps54;go_wp2_with fail;refine(Zd _ 44 _ j).mono ?_;rintro e Q ⟨k,v,rfl,a⟩;obtain⟨g,H,rfl,_,D⟩:=ya a (Zq _ _);have X:=yh a c;have B:1<(spl (t.extract 2 (t.size-1)) 44).length:=(List.getElem?_eq_some_iff.1 c).1;have u:Hd _:=k;have l:Hd _:=L.o.below k;clear k a c;generalize(spl (t.extract 2 (t.size-1)) 44).length=m at *;have C:(1:Int)<(m:Int):=ol;go_wp2_with fail;refine(I.o _ l.o).mono ?_;rintro e P ⟨d,rfl⟩;have p:Hd _:=u.o.trans (d.mono u.o.size);clear d;go_wp2_with fail;refine(Y5 _ _).mono ?_;rintro e x ⟨y,rfl⟩;subst x;go_wp2_with fail;go_ret;exact⟨p.o,rfl⟩
theorem zbJ(p:Nat)(t:ByteArray)(nm:ByteArray)(m:Option Addr)(s:Nat)(K:List Int)(w:World)(U:t.size<=2000)(h:T.ch t 0=61)(Y:2<=t.size)(G:K.length<=nm.size)(l:KV w p nm m K)(u:nm.size<=5000):
 Calls S 54 #[.pointer (F ⟨p,0,N⟩),.string t,O m K.length s] w λe w'=>Below w.heap.size w w'/\e=.returned (J Z (knL nm (T.ch t 1) K 0)):=by
 obtain⟨h0,X⟩:=Zy h oq;have L:(2:Int)<=(t.size:Int):=ol;have H:(t.size:Int)<=2000:=ol;have I:1<t.size:=ol;have E:((t[1]).toNat:Int)=T.ch t 1:=(T.ch_lt I).symm;have P:Hd _:=l;have R:=l.nm;have Q:Hd (knL nm (T.ch t 1) (K.drop 0) 0=knL nm (T.ch t 1) K 0):=by show _=_;rw[List.drop_zero]
 generalize T.ch t 1=c at *;clear l;go_enter func54,ntmps54;go_wp2_with fail;go_loopg [7] K.length (λn y wr=>∃(j:Nat),n+j=K.length/\y=J Z j/\Hd (knL nm c (K.drop j) j=knL nm c K 0)/\∃q,wr=w.drewN q)
 case atStart=>exact⟨0,ol,rfl,Q,0,rfl⟩
 case round =>
  obtain⟨j,V,rfl,r,q,rfl⟩:=hrel;by_cases a:j<K.length
  ·obtain⟨v,i⟩:∃v,K[j]?=F v:=⟨K[j],List.getElem?_eq_getElem a⟩;obtain⟨g,rfl,B,C⟩:=P.o.kn j v i;have A:(0:Int)<=(j:Int):=ol;have z:(j:Int)<(K.length:Int):=ol;have k:j<nm.size:=ol;have x:(j:Int)<(nm.size:Int):=ol;have D:((nm[j]).toNat:Int)=T.ch nm j:=(T.ch_lt k).symm;have f:Hd (knL nm c K 0=if T.ch nm j=c then v else knL nm c (K.drop (j+1)) (j+1)):=by
    show _=_;rw[<-r.o,List.drop_eq_getElem_cons a];have:K[j]=v:=by have:=List.getElem?_eq_getElem a;rw[i]at this;simpa using this.symm
    rw[this];rfl
   clear i;generalize T.ch nm j=d at *;cases e1:(d==c)with
   | true =>
    have b:Hd (knL nm c K 0=v):=(by show _=_;rw[f.o,if_pos (by simpa using e1)]);clear f;go_wp2_with fail;go_quiet (fail)
    go_wp2_with fail;go_ret;exact⟨zT (Below.refl _ _) _,by rw[b.o];rfl⟩
   | false =>
    have b:Hd (knL nm c (K.drop (j+1)) (j+1)=knL nm c K 0):=(by show _=_;rw[f.o,if_neg (by simpa using e1)]);clear f;go_wp2_with fail;go_quiet (fail)
    go_wp2_with fail;go_roundg (gk-1)
    case measure=>omega
    case rel=>exact⟨j+1,ol,by go_num,b,_,rfl⟩
  ·have W:¬((j:Int)<(K.length:Int)):=(by omega);have f:Hd (knL nm c K 0=0):=(by show _=_;rw[<-r.o,List.drop_eq_nil_of_le ol];rfl);go_wp2_with fail;go_ret;exact⟨zT (Below.refl _ _) _,by rw[f.o];rfl⟩
def SzC(PB:Nat)(nm:ByteArray)(ko:Option Addr)(kc:Nat)(K:List Int)(b:ByteArray)(n:Int):Prop:=∀w,KV w PB nm ko K->Calls S 54 #[.pointer (F ⟨PB,0,N⟩),.string b,O ko K.length kc] w λe w'=>Below w.heap.size w w'/\e=.returned (J Z n)
theorem XJ{s:ByteArray}{c:Int}(h:s.size<=2000):(spl s c).length<=2001:=by
 have:=(qn s c s.size).2.1
 simp only[spl,List.length_append,List.length_cons,List.length_nil];omega
theorem zbL(p:Nat)(t a b:ByteArray)(nm:ByteArray)(i:Option Addr)(u:Nat)(K:List Int)(n:Int)(w:World)(R:t.size<=2000)(h:T.ch t 0=119\/T.ch t 0=102)(h3:3<=t.size)(C:(spl (t.extract 2 (t.size-1)) 124)[0]?=F a)(k:(spl (t.extract 2 (t.size-1)) 124)[1]?=F b)(V:0<=n)(U:n<=5000)(L:KV w p nm i K)(I:SzC p nm i u K b n):
 Calls S 54 #[.pointer (F ⟨p,0,N⟩),.string t,O i K.length u] w λe w'=>Below w.heap.size w w'/\e=.returned (J Z (Zj (1+((spl a 44).length:Int)+n))):=by
 obtain⟨c,f⟩:∃c,T.ch t 0=c:=⟨_,rfl⟩;rw[f]at h;obtain⟨h0,hc⟩:=Zy f ol;have a2:(3:Int)<=(t.size:Int):=ol;have a1:(t.size:Int)<=2000:=ol;have z:a.size<=2000:=Nat.le_trans (yX (List.mem_of_getElem? C)) (by rw[yf t _ _ ol];omega);have Y:=XJ (c:=44) z;have e1:(c==123)=E:=by rcases h with rfl|rfl<;>rfl
 have e2:(c==64)=E:=by rcases h with rfl|rfl<;>rfl
 have e3:(c==61)=E:=by rcases h with rfl|rfl<;>rfl
 have e4:(c==116)=E:=by rcases h with rfl|rfl<;>rfl
 have e5:(c==109)=E:=by rcases h with rfl|rfl<;>rfl
 have e6:(c==103)=E:=by rcases h with rfl|rfl<;>rfl
 have IH:Hd (SzC p nm i u K b n):=I;have HK:Hd (KV w p nm i K):=L;have j:=Yd t a b w R h3 C k;have D:Hd (Calls S 101 #[.string t] w λe w'=>Below w.heap.size w w'/\∃v,e=.returned (.tuple #[v,.string b])/\w'.ownsRow w.heap.size 9 1 v (spl a 44).length ((spl a 44).map Value.string)):=j;clear I L j C k h f;go_enter func54,ntmps54;go_wp2_with fail;refine D.o.mono ?_;rintro e w1 ⟨B,v,rfl,d⟩;obtain⟨g,a3,rfl,_,a0⟩:=ya d (Zq _ _);have Q:Hd _:=B;have G:Hd _:=HK.o.below B;clear B d;generalize hq:(spl a 44).length=m at *;have P:Hd _:=hq;clear hq;go_wp2_with fail;refine(IH.o _ G.o).mono ?_;rintro e H ⟨l,rfl⟩;have r:Hd (Below w.heap.size w H):=Q.o.trans (l.mono Q.o.size);clear l;go_wp2_with fail;go_loopg [11,12] 1 (λq x y wr=>x=J Z (1+(m:Int)+n)/\y=J Z 0/\wr=H)
 case atStart=>exact⟨rfl,rfl,rfl⟩
 case round =>
  obtain⟨rfl,rfl,rfl⟩:=hrel;by_cases X:m=0
  ·subst X;go_wp2_with fail;refine(Y5 _ _).mono ?_;rintro e s ⟨A,rfl⟩;subst s;go_wp2_with fail;go_ret;exact⟨r.o,by rw[P.o];rfl⟩
  ·have W:(0:Int)<(m:Int):=(by omega);go_wp2_with fail;refine(Y5 _ _).mono ?_;rintro e s ⟨A,rfl⟩;subst s;go_wp2_with fail;go_ret;exact⟨r.o,by rw[P.o];rfl⟩
def Yy(ns:Nat->Int):Nat->Int
 |0=>0
 |j+1=>Yy ns j+ns j
theorem za1{ns:Nat->Int}(h:∀i,0<=ns i/\ns i<=5000):∀j,0<=Yy ns j/\Yy ns j<=5000*j:=by
 intro j;induction j with
 |zero=>simp[Yy]
 |succ j ih=>have:=h j;simp only[Yy];omega
theorem zbK(C:Nat)(t a b:ByteArray)(nm:ByteArray)(z:Option Addr)(L:Nat)(K:List Int)(n:Int)(ys:Nat->ByteArray)(ns:Nat->Int)(w:World)(hs:t.size<=2000)(h:T.ch t 0=109\/T.ch t 0=103)(h3:3<=t.size)(ha:(spl (t.extract 2 (t.size-1)) 124)[0]?=F a)(W:(spl (t.extract 2 (t.size-1)) 124)[1]?=F b)(c2:0<=n)(c1:n<=5000)(hK:KV w C nm z K)(ih:SzC C nm z L K b n)(hy:∀i x,(spl a 44)[i]?=F x->(spl x 58)[0]?=F (ys i)/\(ys i).size+1<=x.size)(U:∀i,0<=ns i/\ns i<=5000)(P:∀i x,(spl a 44)[i]?=F x->SzC C nm z L K (x.extract ((ys i).size+1) x.size) (ns i)):
 Calls S 54 #[.pointer (F ⟨C,0,N⟩),.string t,O z K.length L] w λe w'=>Below w.heap.size w w'/\e=.returned (J Z (Zj (1+((spl a 44).length:Int)+n+Yy ns (spl a 44).length))):=by
 obtain⟨c,G⟩:∃c,T.ch t 0=c:=⟨_,rfl⟩;rw[G]at h;obtain⟨h0,hc⟩:=Zy G ol;have c7:(3:Int)<=(t.size:Int):=ol;have c6:(t.size:Int)<=2000:=ol;have Q:a.size<=2000:=Nat.le_trans (yX (List.mem_of_getElem? ha)) (by rw[yf t _ _ ol];omega);have c3:=XJ (c:=44) Q;have e1:(c==123)=E:=by rcases h with rfl|rfl<;>rfl
 have e2:(c==64)=E:=by rcases h with rfl|rfl<;>rfl
 have e3:(c==61)=E:=by rcases h with rfl|rfl<;>rfl
 have e4:(c==116)=E:=by rcases h with rfl|rfl<;>rfl
 have b4:Hd ((c==109)=A\/((c==109)=E/\(c==103)=A)):=by rcases h with rfl|rfl<;>simp[Hd]
 have IH:Hd (SzC C nm z L K b n):=ih;have HY:Hd (∀i x,(spl a 44)[i]?=F x->(spl x 58)[0]?=F (ys i)/\(ys i).size+1<=x.size):=hy;have HI:Hd (∀i x,(spl a 44)[i]?=F x->SzC C nm z L K (x.extract ((ys i).size+1) x.size) (ns i)):=P;have HK:Hd (KV w C nm z K):=hK;have R:=Yd t a b w hs h3 ha W;have b3:Hd (Calls S 101 #[.string t] w λe w'=>Below w.heap.size w w'/\∃v,e=.returned (.tuple #[v,.string b])/\w'.ownsRow w.heap.size 9 1 v (spl a 44).length ((spl a 44).map Value.string)):=R;have a0:Hd (∀j,0<=Yy ns j/\Yy ns j<=5000*j):=za1 U;clear ih hK R ha W h G hy P U;go_enter func54,ntmps54;go_wp2_with fail;refine b3.o.mono ?_;rintro e w1 ⟨hb,v,rfl,l⟩;obtain⟨g,c8,rfl,_,b0⟩:=ya l (Zq _ _);have HB:Hd _:=hb;have a2:Hd _:=HK.o.below hb;have b6:Hd (∀i x,(spl a 44)[i]?=F x->w1.cell? ⟨g,i,N⟩=F (.string x)):=λi x u=>yh l u
 have b1:Hd (∀(i:Nat) (x:ByteArray),(spl a 44)[i]?=F x->x.size<=2000):=λi x u=>Nat.le_trans (yX (List.mem_of_getElem? u)) Q
 have b5:Hd (∀i,i<(spl a 44).length->∃x,(spl a 44)[i]?=F x):=λi hi=>⟨(spl a 44)[i],List.getElem?_eq_getElem hi⟩
 clear hb l;generalize hq:(spl a 44).length=m at *;have HN:Hd _:=hq;clear hq;go_wp2_with fail;refine(IH.o _ a2.o).mono ?_;rintro e w2 ⟨X,rfl⟩;have b8:Hd _:=X;clear X;go_wp2_with fail;go_loopg [11,12] m (λq x y wr=>∃j:Nat,q+j=m/\x=J Z (1+(m:Int)+n+Yy ns j)/\y=J Z j/\Below w1.heap.size w1 wr)
 case atStart=>exact⟨0,ol,by simp[Yy],rfl,b8.o⟩
 case round =>
  obtain⟨j,hn,rfl,rfl,V⟩:=hrel;have f:Hd _:=V;have a7:=a0.o j;clear V;by_cases a8:j<m
  ·obtain⟨x,u⟩:=b5.o j a8;have c5:(0:Int)<=(j:Int):=ol;have c4:(j:Int)<(m:Int):=ol;have cx:=(f.o.cell (p:=⟨g,j,N⟩) b0).trans (b6.o j x u);have D:=HY.o j x u;have a6:=b1.o j x u;have a3:Hd (SzC C nm z L K (x.extract ((ys j).size+1) x.size) (ns j)):=HI.o j x u;have B:=a0.o (j+1);obtain⟨a5,k⟩:∃q,Yy ns j=q:=⟨_,rfl⟩;have HJ:Hd (Yy ns (j+1)=a5+ns j):=(by show _=_;rw[<-k];rfl);rw[k]at a7;simp only[Yy]at B;rw[k]at B⊢;clear k;have Y:=λwz=>Qk x (ys j) wz a6 D.1 D.2
   have a4:Hd _:=Y;have a1:Hd _:=a2.o.below f.o;clear u D Y;have b9:(m:Int)<=2001:=ol;rcases b4.o with e5|⟨e5,e6⟩
   ·go_wp2_with fail;refine(a4.o _).mono ?_;rintro e w3 ⟨d,rfl⟩;have s:Hd _:=f.o.trans (d.mono f.o.size);have H:Hd _:=a1.o.below d;clear d;go_wp2_with fail;refine(a3.o _ H.o).mono ?_;rintro e w4 ⟨r,rfl⟩;have I:Hd _:=s.o.trans (r.mono s.o.size);clear r;go_wp2_with fail;go_roundg (gk-1)
    case measure=>omega
    case rel=>exact⟨j+1,ol,by rw[HJ.o];go_num,by go_num,I.o⟩
   ·go_wp2_with fail;refine(a4.o _).mono ?_;rintro e w3 ⟨d,rfl⟩;have s:Hd _:=f.o.trans (d.mono f.o.size);have H:Hd _:=a1.o.below d;clear d;go_wp2_with fail;refine(a3.o _ H.o).mono ?_;rintro e w4 ⟨r,rfl⟩;have I:Hd _:=s.o.trans (r.mono s.o.size);clear r;go_wp2_with fail;go_roundg (gk-1)
    case measure=>omega
    case rel=>exact⟨j+1,ol,by rw[HJ.o];go_num,by go_num,I.o⟩
  ·have hd:¬((j:Int)<(m:Int)):=(by omega);have a9:j=m:=ol;subst a9;have b7:Hd (Below w.heap.size w wr):=HB.o.trans (f.o.mono HB.o.size);generalize hsq:Yy ns j=sj at *;have b2:Hd _:=hsq;clear hsq;go_wp2_with fail;refine(Y5 _ _).mono ?_;rintro e w3 ⟨c0,rfl⟩;subst w3;go_wp2_with fail;go_ret;exact⟨b7.o,by rw[HN.o,b2.o];rfl⟩
inductive SZ (nm:ByteArray) (K:List Int):ByteArray->Int->Prop where
 |servers {t:ByteArray}:T.ch t 0=123->2<=t.size->SZ nm K t (1+((spl (t.extract 1 (t.size-1)) 44).length:Int))
 |alias {t:ByteArray}:T.ch t 0=64->SZ nm K t 1
 |name {t:ByteArray}:T.ch t 0=61->2<=t.size->SZ nm K t (knL nm (T.ch t 1) K 0)
 |ttl {t b:ByteArray} {n:Int}:T.ch t 0=116->3<=t.size->(spl (t.extract 2 (t.size-1)) 44)[1]?=F b->SZ nm K b n->SZ nm K t (Zj (1+n))
 |list {t a b:ByteArray} {n:Int}:(T.ch t 0=119\/T.ch t 0=102)->3<=t.size->(spl (t.extract 2 (t.size-1)) 124)[0]?=F a->(spl (t.extract 2 (t.size-1)) 124)[1]?=F b->SZ nm K b n->SZ nm K t (Zj (1+((spl a 44).length:Int)+n))
 | maps {t a b:ByteArray} {n:Int} {ys:Nat->ByteArray} {ns:Nat->Int}:(T.ch t 0=109\/T.ch t 0=103)->3<=t.size->(spl (t.extract 2 (t.size-1)) 124)[0]?=F a->(spl (t.extract 2 (t.size-1)) 124)[1]?=F b->SZ nm K b n ->
  (∀i x,(spl a 44)[i]?=F x->(spl x 58)[0]?=F (ys i)/\(ys i).size+1<=x.size)->(∀i,(spl a 44).length<=i->ns i=0)->(∀i x,(spl a 44)[i]?=F x->SZ nm K (x.extract ((ys i).size+1) x.size) (ns i))->SZ nm K t (Zj (1+((spl a 44).length:Int)+n+Yy ns (spl a 44).length))
theorem zgE{nm:ByteArray}{c:Int}:∀(K:List Int) (i:Nat),(∀k∈K,0<=k/\k<=5000)->0<=knL nm c K i/\knL nm c K i<=5000:=by
 intro K;induction K with
 |nil=>intro i _;simp[knL]
 | cons k r ih =>
  intro i h;simp only[knL];split
  ·exact h k ot
  ·exact ih (i+1) (λx hx=>h x (by simp[hx]))
theorem Qd{n:Int}(h:0<=n):0<=Zj n/\Zj n<=1001:=by unfold Zj;split<;>omega
theorem Jg{nm:ByteArray}{K:List Int}{t:ByteArray}{n:Int}(h:SZ nm K t n)(l:Nat)(m:Option Addr)(o:Nat)(y:∀k∈K,0<=k/\k<=5000)(r:nm.size<=5000)(v:K.length<=nm.size):t.size<=2000->SzC l nm m o K t n/\0<=n/\n<=5000:=by
 induction h with
 | @servers t h1 h2 =>
  intro e;exact⟨λw _=>jF l _ _ w e h1 h2,ol,by have:=XJ (s:=t.extract 1 (t.size-1)) (c:=44) (by rw[yf _ _ _ ol];omega);omega⟩
 |alias h1=>intro e;exact⟨λw _=>zah l _ _ w h1,oq,oq⟩
 |@name t h1 h2=>intro e;have:=zgE (nm:=nm) (c:=T.ch t 1) K 0 y;exact⟨λw hK=>zbJ l _ nm m o K w e h1 h2 v hK r,this.1,ol⟩
 | ttl h1 h2 h3 _ ih =>
  intro e;have q:=Nat.le_trans (yX (List.mem_of_getElem? h3)) (Nat.le_trans (by rw[yf _ _ _ ol];omega) e);have d:=ih q;have A:=Qd (n:=1+_) (Int.add_nonneg oq d.2.1);exact⟨λw hK=>zc9 l _ _ nm m o K _ w e h1 h2 h3 d.2.1 d.2.2 hK d.1,A.1,ol⟩
 | @list t a b n h1 h2 h3 h4 _ ih =>
  intro e;have q:=Nat.le_trans (yX (List.mem_of_getElem? h4)) (Nat.le_trans (by rw[yf _ _ _ ol];omega) e);have d:=ih q;refine⟨λw hK=>zbL l _ _ _ nm m o K _ w e h1 h2 h3 h4 d.2.1 d.2.2 hK d.1,?_⟩;have:=Qd (n:=1+((spl a 44).length:Int)+n) (by have:=d.2.1;omega)
  exact⟨this.1,ol⟩
 | @maps t a b n ys ns h1 h2 h3 h4 _ hy hz _ ih ihs =>
  intro e;have g:(t.extract 2 (t.size-1)).size<=2000:=by rw[yf t _ _ ol];omega
  have q:=Nat.le_trans (yX (List.mem_of_getElem? h4)) g;have B:=Nat.le_trans (yX (List.mem_of_getElem? h3)) g;have d:=ih q;have f:∀(i:Nat) (x:ByteArray),(spl a 44)[i]?=F x->(x.extract ((ys i).size+1) x.size).size<=2000:=λi x j=>by
   have:=Nat.le_trans (yX (List.mem_of_getElem? j)) B
   rw[yf x _ _ (Nat.le_refl _)];omega
  have p:∀i,0<=ns i/\ns i<=5000:=λi=>by
   by_cases u:i<(spl a 44).length
   ·have j:(spl a 44)[i]?=F (spl a 44)[i]:=List.getElem?_eq_getElem u;exact(ihs i _ j (f i _ j)).2
   ·rw[hz i ol];decide
  have z:=za1 p (spl a 44).length;refine⟨λw hK=>zbK l t a b nm m o K n ys ns w e h1 h2 h3 h4 d.2.1 d.2.2 hK d.1 hy p (λi x j=>(ihs i x j (f i x j)).1),?_⟩;have:=Qd (n:=1+((spl a 44).length:Int)+n+Yy ns (spl a 44).length) (by have:=d.2.1;omega)
  exact⟨this.1,ol⟩
def brL(s:ByteArray):Nat->List Int
 |0=>[]
 |n+1=>brL s n++(if T.bl (T.ch s n)=A then[]else[T.ch s n])
def bare(s:ByteArray):ByteArray:=strOfNums (brL s s.size)
theorem Qh(s:ByteArray):∀n,(brL s n).length<=n:=by
 intro n;induction n with
 |zero=>exact Nat.le_refl _
 |succ n ih=>simp only[brL,List.length_append];split<;>simp<;>omega
theorem zey(s:ByteArray)(w:World)(hs:s.size<=2000):
 Calls S 99 #[.string s] w λe w'=>Below w.heap.size w w'/\e=.returned (.string (bare s)):=by
 obtain⟨i0,I,D,C,B⟩:=info_parts infoByte;go_enter func99,ntmps99;go_wp2_with fail;have K:=λ(w:World) (g len b:Nat) (xs:List Int) (hl:xs.length=len) (hc:∀i,i<len->w.cell? ⟨g,0+i,N⟩=F (J .u8 (xs.getD i 0)))=>run_convert_bytes_arg (P:=S) w 57 5 underlying57 underlying5 g 0 len b xs hl hc 9 underlying9
 have L:=λ(w:World)=>run_convert_bytes_nil (P:=S) w 57 5 underlying57 underlying5 0 0 9 underlying9
 go_loopg [3,4] s.size (λn x y wr=>∃(j:Nat),n+j=s.size/\y=J Z j/\wr.ownsRow w.heap.size 5 1 x (brL s j).length ((brL s j).map (Value.int .u8))/\Below w.heap.size w wr)
 case atStart=>exact⟨0,ol,rfl,⟨rfl,.inl ⟨rfl,rfl⟩⟩,Below.refl _ _⟩
 case round =>
  obtain⟨j,hn,rfl,d,U⟩:=hrel;have v:Hd (wr.ownsRow w.heap.size 5 1 u3 (brL s j).length ((brL s j).map (Value.int .u8))):=d;have z:Hd (Below w.heap.size w wr):=U;have R:=U.size;clear d U;by_cases G:j<s.size
  ·have m:(j:Int)<(s.size:Int):=(by omega);have a5:(0:Int)<=(j:Int):=ol;have a6:((s[j]).toNat:Int)=T.ch s j:=(T.ch_lt G).symm;have r:=λw=>ju (T.ch s j) w
   have a4:=Qh s j;generalize hq:T.bl (T.ch s j)=q at *;cases q with
   | true =>
    have h:Hd (brL s (j+1)=brL s j):=(by show _=_;simp only[brL];rw[if_pos hq,List.append_nil]);clear hq;generalize T.ch s j=c at *;go_wp2_with fail;refine(r _).mono ?_;rintro e w' ⟨rfl,E⟩;subst w';go_wp2_with fail;go_roundg (gk-1)
    case measure=>omega
    case rel=>exact⟨j+1,ol,by go_num,by rw[h.o];exact v.o,z.o⟩
   | false =>
    have h:Hd (brL s (j+1)=brL s j++[T.ch s j]):=(by show _=_;simp only[brL];rw[if_neg (by rw[hq];decide)]);clear hq;generalize T.ch s j=c at *;have Y:Hd ((brL s j).length+1<=maxLen):=sx;have X:Hd (((brL s j).length+1)*1<=140737488355328):=oz;have W:Hd (w.heap.size<=(wr.alloc (Q #[J .u8 c] 5)).heap.size):=mc;have l:Hd (∀u∈[Value.int .u8 c],u.oneCell'=A):=λu hu=>by simp at hu;subst hu;rfl
    go_wp2_with fail;refine(r _).mono ?_;rintro e w' ⟨rfl,E⟩;subst w';go_wp2_with (at_builtin;refine wpList_append_lies _ rfl _ _ 57 rfl w.heap.size 5 i0 _ 1 1 underlying57 I D C B rfl oq u3 _ _ rfl (v.o.alloc _) ⟨wr.heap.size,0,N⟩ 1 1 [J .u8 c] rfl rfl (World.news_of_block (cs:=#[J .u8 c]) (t:=5) (fr:=(0,0)) (heap_alloc_new wr _)) l.o (Nat.lt_succ_self 0) Y.o X.o W.o (wr.heap.size+1) ot ?_;intro g b w4 f a V a2)
    have a0:Hd (w4.ownsRow w.heap.size 5 1 (O (F ⟨g,0,N⟩) ((brL s j).length+1) b) (brL s (j+1)).length ((brL s (j+1)).map (Value.int .u8))):=by
     show World.ownsRow _ _ _ _ _ _ _;rw[h.o,List.length_append,List.map_append];exact f
    have a1:Hd (Below w.heap.size w w4):=(z.o.alloc R _).grown a ow (λk hk=>(v.o.lt k hk).1);clear f a V;go_roundg (gk-1)
    case measure=>omega
    case rel=>exact⟨j+1,ol,by go_num,a0.o,a1.o⟩
  ·have m:¬(j:Int)<(s.size:Int):=(by omega);have H:j=s.size:=ol;subst H;rcases v.o.2 with⟨h1,h2⟩|⟨g,b,cur,h1,h2,h3,h4,h5,h6,h7⟩
   ·subst h1;have h:Hd (bare s=ByteArray.empty):=(by show _=_;unfold bare;rw[List.eq_nil_of_length_eq_zero h2];rfl);have a3:=L wr;go_wp2_with fail;go_ret;exact⟨z.o,by rw[h.o];rfl⟩
   ·subst h1;have p:=K wr g (brL s s.size).length b (brL s s.size) rfl (λi hi=>by
     have:=World.ownsRow.cellAt v.o i ol
     rw[Nat.zero_add,this];simp[hi])
    have h:Hd (strOfNums (brL s s.size)=bare s):=rfl;rw[h.o]at p;go_wp2_with fail;go_ret;exact⟨z.o,rfl⟩
def YE(l:List ByteArray):Nat->ByteArray
 |0=>ByteArray.empty
 |j+1=>YE l j++(match l[j]? with|some t=>t.extract 0 1|none=>ByteArray.empty)
def ZO(l:List ByteArray):List ByteArray:=l.map (λt=>t.extract 2 t.size)
theorem jf(l:List ByteArray)(h:∀t∈l,2<=t.size):∀j,j<=l.length->(YE l j).size=j:=by
 intro j;induction j with
 |zero=>intro _;rfl
 | succ j ih =>
  intro b;have a:l[j]?=F l[j]:=List.getElem?_eq_getElem ol;have c:=h l[j] (List.getElem_mem _);simp only[YE,a];rw[ByteArray.size_append,ih ol,yf _ _ _ ol]
structure PP (w:World) (base PB:Nat) (nm:ByteArray) (tv:Value) (ts:List ByteArray):Prop where
 blk:w.heap[PB]?=F (Q #[.string nm,tv] 113 (0,0))
 row:w.ownsRow base 9 1 tv ts.length (ts.map Value.string)
 hB:base<=PB
theorem PP.c0{w:World}{base PB nm tv ts}(h:PP w base PB nm tv ts):w.cell? ⟨PB,0,N⟩=F (.string nm):=by simp[World.cell?,h.blk]
theorem PP.c1{w:World}{base PB nm tv ts}(h:PP w base PB nm tv ts):w.cell? ⟨PB,1,N⟩=F tv:=by simp[World.cell?,h.blk]
theorem PP.fz{w:World}{base PB nm tv ts}(h:PP w base PB nm tv ts)(j:Nat):w.frozen? ⟨PB,j,N⟩=E:=by simp[World.frozen?,h.blk]
theorem PP.lt{w:World}{base PB nm tv ts}(h:PP w base PB nm tv ts):PB<w.heap.size:=lt_of_block h.blk
theorem zg8{w:World}{B:Nat}{a b u:Value}{t:TypeId}(h:w.heap[B]?=F (Q #[a,b] t (0,0))):(w.setCell ⟨B,0,N⟩ u).heap[B]?=F (Q #[u,b] t (0,0)):=by
 simp[World.setCell,Array.getElem?_modify,h]
theorem zg7{w:World}{B:Nat}{a b u:Value}{t:TypeId}(h:w.heap[B]?=F (Q #[a,b] t (0,0))):(w.setCell ⟨B,1,N⟩ u).heap[B]?=F (Q #[a,u] t (0,0)):=by
 simp[World.setCell,Array.getElem?_modify,h]
theorem Yh{w w':World}{base e a:Nat}{v:Value}{n:Nat}{b:List Value}(h:w.ownsRow base e a v n b)(c:∀g,v.ownBlock=F g->w'.heap[g]?=w.heap[g]?):w'.ownsRow base e a v n b:=by
 refine⟨h.1,?_⟩;rcases h.2 with h0|⟨g,cap,cur,rfl,h1,h2,h3⟩
 ·exact .inl h0
 ·exact .inr ⟨g,cap,cur,rfl,h1,(c g rfl).trans h2,h3⟩
theorem PP.drew{w:World}{base PB nm tv ts}(h:PP w base PB nm tv ts):PP w.drew base PB nm tv ts:=⟨h.blk,h.row,h.hB⟩
theorem PP.setN{w:World}{base PB nm tv ts}(h:PP w base PB nm tv ts)(x:ByteArray):PP (w.setCell ⟨PB,0,N⟩ (.string x)) base PB x tv ts :=
 ⟨zg8 h.blk,ownsRow_setCell_other h.row (zi h.row h.blk oq) _,h.hB⟩
theorem PP.below{w w':World}{base PB nm tv ts}(h:PP w base PB nm tv ts)(a:Below w.heap.size w w'):PP w' base PB nm tv ts :=
 ⟨(a.block PB h.lt).trans h.blk,Yh h.row (λg hg=>a.block g (h.row.lt g hg).2),h.hB⟩
theorem PP.push{w w4:World}{base PB nm tv ts}{o:Obj}(h:PP w base PB nm tv ts){n g cap:Nat}{x:ByteArray}(c:n=ts.length)(f:((w.alloc o).drew).grownBy w4 tv.ownBlock)(a:w4.ownsRow base 9 1 (O (F ⟨g,0,N⟩) (n+1) cap) (n+1) (ts.map Value.string++[.string x])):
 PP (w4.setCell ⟨PB,1,N⟩ (O (F ⟨g,0,N⟩) (n+1) cap)) base PB nm (O (F ⟨g,0,N⟩) (n+1) cap) (ts++[x]):=by
 subst c;have d:PB<(w.alloc o).drew.heap.size:=by have:=h.lt;show PB<(w.alloc o).heap.size;simp;omega
 have b:w4.heap[PB]?=F (Q #[.string nm,tv] 113 (0,0)):=(f.block PB d (λe=>zi h.row h.blk oq e.symm)).trans ((Below.heap_alloc _ _ _ h.lt).trans h.blk);refine⟨zg7 b,?_,h.hB⟩;rw[List.length_append,List.map_append];exact ownsRow_setCell_other a (zi a b oq) _
theorem PP.grown{w a:World}{base PB nm tv ts}(h:PP w base PB nm tv ts){o:Obj}(d:((w.alloc o).drew).grownBy a tv.ownBlock):a.cell? ⟨PB,1,N⟩=F tv/\a.frozen? ⟨PB,1,N⟩=E:=by
 have c:PB<(w.alloc o).drew.heap.size:=by have:=h.lt;show PB<(w.alloc o).heap.size;simp;omega
 have b:=(d.block PB c (λe=>zi h.row h.blk oq e.symm)).trans ((Below.heap_alloc _ _ _ h.lt).trans h.blk);exact⟨by simp[World.cell?,b],by simp[World.frozen?,b]⟩
theorem Qz(s:ByteArray)(w:World)(hs:s.size<=2000)(h2:∀t∈spl (bare s) 59,2<=t.size):
 Calls S 53 #[.string s] w λe w'=>Below w.heap.size w w'/\∃PB tv,e=.returned (.pointer (F ⟨PB,0,N⟩))/\PP w' w.heap.size PB (YE (spl (bare s) 59) (spl (bare s) 59).length) tv (ZO (spl (bare s) 59)):=by
 obtain⟨i0,a8,a4,a3,a2⟩:=info_parts infoStr;have H:(bare s).size<=2000:=by unfold bare;rw[strOfNums_size];exact Nat.le_trans (Qh s s.size) hs
 go_enter func53,ntmps53;go_wp2_with fail;refine(zey s _ hs).mono ?_;rintro e w1 ⟨W,rfl⟩;have a1:Hd _:=W;clear W;go_wp2_with fail;refine(Zd (bare s) 59 _ H).mono ?_;rintro e d ⟨V,v,rfl,r⟩;obtain⟨g,Y,rfl,d8,G⟩:=ya r (Zq _ _);have D:Hd _:=a1.o.trans (V.mono a1.o.size);have HC:Hd (∀i x,(spl (bare s) 59)[i]?=F x->d.cell? ⟨g,i,N⟩=F (.string x)):=λi x C=>yh r C
 have HZ:Hd _:=h2;have HS:Hd (∀t∈spl (bare s) 59,t.size<=2000):=λt ht=>Nat.le_trans (yX ht) H
 have d4:=XJ (s:=bare s) (c:=59) H;clear V r h2;generalize hle:spl (bare s) 59=l at *;have c2:Hd _:=hle;clear hle;have b8:Hd (∀j,j<=l.length->(YE l j).size=j):=jf l HZ.o;have b7:Hd (PP (d.alloc (Q #[.string ByteArray.empty,O N 0 0] 113)) d.heap.size d.heap.size ByteArray.empty (O N 0 0) []):=⟨heap_alloc_new d _,⟨rfl,.inl ⟨rfl,rfl⟩⟩,Nat.le_refl _⟩;have c6:Hd (Below d.heap.size d (d.alloc (Q #[.string ByteArray.empty,O N 0 0] 113))):=(Below.refl _ _).alloc (Nat.le_refl _) _;go_wp2_with fail;go_loopg [5] l.length (λn y wr=>∃(j:Nat) (tv:Value),n+j=l.length/\y=J Z j/\PP wr d.heap.size d.heap.size (YE l j) tv (ZO (l.take j))/\Below d.heap.size d wr)
 case atStart=>exact⟨0,O none 0 0,ol,rfl,b7.o,c6.o⟩
 case round =>
  obtain⟨j,tv,hn,rfl,K,U⟩:=hrel;have q:Hd _:=K;have I:Hd _:=U;clear K U;by_cases a6:j<l.length
  ·obtain⟨x,C⟩:∃x,l[j]?=F x:=⟨l[j],List.getElem?_eq_getElem a6⟩;have d6:(0:Int)<=(j:Int):=ol;have d5:(j:Int)<(l.length:Int):=ol;have cx:=(I.o.cell (p:=⟨g,j,N⟩) G).trans (HC.o j x C);have d2:=HZ.o x (List.mem_of_getElem? C);have d1:=HS.o x (List.mem_of_getElem? C);have c8:(2:Int)<=(x.size:Int):=ol;have c7:(x.size:Int)<=2000:=ol;have a5:=b8.o j ol;have b9:Hd (YE l (j+1)=YE l j++x.extract 0 1):=(by show _=_;simp only[YE,C]);have b4:Hd (ZO (l.take (j+1))=ZO (l.take j)++[x.extract 2 x.size]):=(by show _=_;rw[List.take_add_one,C];simp[ZO]);have a0:Hd (j=(ZO (l.take j)).length):=(by show _=_;simp[ZO];omega);generalize YE l j=nj at *;have a9:(x.extract 0 1).size=1:=(by rw[yf x _ _ ol]);have q0:=q.o.c0;have q1:=q.o.c1;have qz:=q.o.fz;have b1:=q.o.lt;have d3:g≠d.heap.size:=ol;have c9:d.heap.size≠g:=ol;have R:=λw=>run_string_add_sum (P:=S) (w:=w) nj (x.extract 0 1) (by rw[a5,a9];omega)
   have HX:Hd _:=C;clear C;go_wp2_with fail;go_region_with (fail)
   all_goals
    have m:Hd (PP ((wr.setCell ⟨d.heap.size,0,N⟩ (.string (nj++x.extract 0 1))).drew) d.heap.size d.heap.size (nj++x.extract 0 1) tv (ZO (l.take j))):=(q.o.setN _).drew;have B:Hd (Below d.heap.size d ((wr.setCell ⟨d.heap.size,0,N⟩ (.string (nj++x.extract 0 1))).drew)):=(I.o.setCell (p:=⟨d.heap.size,0,N⟩) (Nat.le_refl _) _).drew;generalize(wr.setCell ⟨d.heap.size,0,N⟩ (.string (nj++x.extract 0 1))).drew=w5 at *;clear cx q0 q1 qz R b1;have cx:=(B.o.cell (p:=⟨g,j,N⟩) G).trans (HC.o j x HX.o);have q1:=m.o.c1;have qz:=m.o.fz 1;have d9:=m.o.lt;have d7:g<w5.heap.size:=Nat.lt_of_lt_of_le G B.o.size;have c3:Hd (w5.ownsRow d.heap.size 9 1 tv j ((ZO (l.take j)).map Value.string)):=(by show World.ownsRow _ _ _ _ _ _ _;have:=m.o.row;rw[<-a0.o]at this;exact this);have b3:Hd (j+1<=maxLen):=sx;have b2:Hd ((j+1)*16<=140737488355328):=oz;have X:Hd (∀o:Obj,d.heap.size<=(w5.alloc o).drew.heap.size):=λo=>by have:=B.o.size;show d.heap.size<=(w5.alloc o).heap.size;simp;omega
    have L:Hd (∀u∈[Value.string (x.extract 2 x.size)],u.oneCell'=A):=λu hu=>by simp at hu;subst hu;rfl
    go_wp2_with fail;go_region_law ((refine step_append_lies _ (by rfl) _ _ _ (by rfl) d.heap.size 9 i0 _ 1 16 underlying27 a8 a4 a3 a2 rfl oq tv _ _ (by rfl) ((c3.o.alloc _).drew) ⟨w5.heap.size,0,N⟩ 1 1 [.string (x.extract 2 x.size)] (by rfl) (by rfl) (World.news_of_block (cs:=#[.string (x.extract 2 x.size)]) (t:=9) (fr:=(0,0)) (heap_alloc_new w5 _)) L.o (Nat.lt_succ_self 0) b3.o b2.o (X.o _) (w5.heap.size+1) ot ?_;intro g' z w9 E f b0 d0;obtain⟨y1,yz⟩:=m.o.grown f))
    all_goals
     have b6:Hd (PP (w9.setCell ⟨d.heap.size,1,N⟩ (O (F ⟨g',0,N⟩) (j+1) z)) d.heap.size d.heap.size (YE l (j+1)) (O (F ⟨g',0,N⟩) (j+1) z) (ZO (l.take (j+1)))):=by
      show PP _ _ _ _ _ _;rw[b9.o,b4.o];exact m.o.push a0.o f E
     have c5:Hd (Below d.heap.size d (w9.setCell ⟨d.heap.size,1,N⟩ (O (F ⟨g',0,N⟩) (j+1) z))):=(((B.o.alloc B.o.size _).drew).grown f (X.o _) (λk hk=>(m.o.row.lt k hk).1)).setCell (p:=⟨d.heap.size,1,N⟩) (Nat.le_refl _) _;clear E f b0;go_wp2_with fail;go_roundg (gk-1)
     case measure=>omega
     case rel=>exact⟨j+1,_,ol,by go_num,b6.o,c5.o⟩
  ·have hd:¬((j:Int)<(l.length:Int)):=(by omega);have a7:j=l.length:=ol;subst a7;have c4:Hd (Below w.heap.size w wr):=D.o.trans (I.o.mono D.o.size);have b5:Hd (PP wr w.heap.size d.heap.size (YE l l.length) tv (ZO l)):=by
    have h:=q.o;rw[List.take_length]at h;exact⟨h.blk,⟨h.row.1,h.row.2.imp (λh=>h) (λ⟨g,Y,cur,a,b,c⟩=>⟨g,Y,cur,a,Nat.le_trans D.o.size b,c⟩)⟩,D.o.size⟩
   go_wp2_with fail;go_ret;exact⟨c4.o,_,rfl,tv,by rw[c2.o];exact b5.o⟩
end Go.Proofs.YtaebngpoagjafabGreat
