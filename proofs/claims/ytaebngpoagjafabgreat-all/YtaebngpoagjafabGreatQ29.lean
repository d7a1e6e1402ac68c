import Derived.Test.YtaebngpoagjafabGreatQ14
import Derived.Test.YtaebngpoagjafabGreatQ16
set_option maxRecDepth 100000
set_option maxHeartbeats 800000
namespace Go.Proofs.YtaebngpoagjafabGreat
open Proofs.Tryz
open Go.RowKit
attribute [local go_sem ↓] Go.wp_at_zero Go.wp_at_succ
def knK(ns:Nat->Int)(j:Nat):List Int:=(List.range j).map ns
theorem YY(ns:Nat->Int)(j:Nat):(knK ns j).length=j:=by simp[knK]
theorem JG(ns:Nat->Int)(j:Nat):knK ns (j+1)=knK ns j++[ns j]:=by simp[knK,List.range_succ]
theorem jT(ns:Nat->Int){i j:Nat}(h:i<j):(knK ns j)[i]?=some (ns i):=by simp[knK,h]
theorem zeJ(s:ByteArray)(w:World)(h:(chk s).1≠0):
 Calls prog 26 #[.string s] w λe w'=>Below w.heap.size w w'/\e=.returned (.tuple #[.int .i64 0,.int .i64 (chk s).1]):=by
 have d:=λwz=>Xe s wz
 generalize chk s=c at *;obtain⟨b,k⟩:=c;simp only at h;have j:(b==0)=false:=by simp[h]
 have i:(b != 0)=true:=by simp[h]
 clear h;go_enter func26,ntmps26;go_wp2_with fail;refine(d _).mono ?_;rintro e g ⟨a,rfl⟩;have f:Hd _:=a;clear a;go_wp2_with fail;go_ret2;exact⟨f.o,rfl⟩
theorem zeI(s:ByteArray)(w:World)(ns:Nat->Int)(hs:s.size<=2000)(h:(chk s).1=0)(z:∀t∈spl (bare s) 59,2<=t.size)(hz:∀j t,(ZO (spl (bare s) 59))[j]?=some t->SZ (YE (spl (bare s) 59) (spl (bare s) 59).length) (knK ns j) t (ns j)):
 Calls prog 26 #[.string s] w λe w'=>Below w.heap.size w w'/\e=.returned (.tuple #[.int .i64 (ns ((spl (bare s) 59).length-1)),.int .i64 0]):=by
 have hd:=λwz=>Xe s wz
 generalize chk s=c at *;obtain⟨c1,c2⟩:=c;simp only at h;subst h;have P:=λwz=>Qz s wz hs z
 have Y:Hd _:=P;have R:(bare s).size<=2000:=by unfold bare;rw[strOfNums_size];exact Nat.le_trans (Qh s s.size) hs
 have d0:=XJ (s:=bare s) (c:=59) R;have a7:=Zq (bare s) 59;have c9:=jf (spl (bare s) 59) z _ (Nat.le_refl _);have V:Hd (∀t∈ZO (spl (bare s) 59),t.size<=2000):=λt r=>by
  simp only[ZO,List.mem_map]at r;obtain⟨x,hx,rfl⟩:=r;have:=Nat.le_trans (yX hx) R
  rw[yf x _ _ (Nat.le_refl _)];omega
 have A:Hd ((ZO (spl (bare s) 59)).length=(spl (bare s) 59).length):=by show _=_;simp[ZO]
 have W:Hd _:=hz;clear P hz z;generalize hle:spl (bare s) 59=l at *;have d7:Hd _:=hle;clear hle;go_enter func26,ntmps26;go_wp2_with fail;refine(hd _).mono ?_;rintro e w1 ⟨F,rfl⟩;have HB:Hd _:=F;clear F;go_wp2_with fail;refine(Y.o _).mono ?_;rintro e b ⟨U,PB,tv,rfl,O⟩;have a1:Hd _:=HB.o.trans (U.mono HB.o.size);have q:Hd _:=O;clear U O;obtain⟨i0,b1,a4,a3,a2⟩:=info_parts infoInt;obtain⟨tg,tc,rfl,c7,K⟩:=ya q.o.row (by rw[A.o];exact a7);have b6:Hd (∀i t,(ZO l)[i]?=some t->b.cell? ⟨tg,i,none⟩=some (.string t)):=λi t r=>yh q.o.row r
 have f:=q.o.lt;have a6:=q.o.c0;have N:=q.o.c1;rw[A.o]at N;have c5:Hd (∀j,j<l.length->0<=ns j/\ns j<=5000):=by
  intro j;induction j using Nat.strongRecOn with
  | ind j ihj =>
   intro hj;have D:j<(ZO l).length:=(by rw[A.o];exact hj);have hx:(ZO l)[j]?=some (ZO l)[j]:=List.getElem?_eq_getElem D;exact(Jg (W.o j _ hx) 0 none 0 (λk hk=>by
    simp only[knK,List.mem_map,List.mem_range]at hk;obtain⟨i,hi,rfl⟩:=hk;exact ihj i hi ol) ol (by rw[YY];omega) (V.o _ (List.mem_of_getElem? hx))).2
 clear Y;go_wp2_with fail;go_loopg [7,8] l.length (λn x y wr=>∃(j:Nat),n+j=l.length/\y=.int .i64 j/\wr.ownsRow b.heap.size 3 1 x (knK ns j).length ((knK ns j).map (Value.int .i64))/\Below b.heap.size b wr)
 case atStart=>exact⟨0,ol,rfl,⟨rfl,.inl ⟨rfl,rfl⟩⟩,Below.refl _ _⟩
 case round =>
  obtain⟨j,hn,rfl,B,F⟩:=hrel;have G:Hd (wr.ownsRow b.heap.size 3 1 u7 (knK ns j).length ((knK ns j).map (Value.int .i64))):=B;have a:Hd _:=F;have d6:=F.size;have p1:=(F.cell (p:=⟨PB,1,none⟩) f).trans N;clear B F;by_cases a8:j<l.length
  ·have D:j<(ZO l).length:=(by rw[A.o];exact a8);obtain⟨t,r⟩:∃t,(ZO l)[j]?=some t:=⟨(ZO l)[j],List.getElem?_eq_getElem D⟩;have d4:(0:Int)<=(j:Int):=ol;have d3:(j:Int)<(l.length:Int):=ol;have ct:=(a.o.cell (p:=⟨tg,j,none⟩) K).trans (b6.o j t r);obtain⟨I,J,a5⟩:∃I J,u7=.slice I (knK ns j).length J:=by
    rcases G.o.2 with⟨h1,z⟩|⟨g,m,cur,h1,_⟩
    ·exact⟨none,0,by rw[h1,z]⟩
    ·exact⟨_,m,h1⟩
   subst a5;have b9:Hd (KV wr PB (YE l l.length) I (knK ns j)):=⟨Nat.lt_of_lt_of_le f a.o.size,(a.o.cell (p:=⟨PB,0,none⟩) f).trans a6,λi v hv=>by
    rcases G.o.2 with⟨h1,z⟩|⟨g,m,cur,h1,z,h3,_⟩
    ·have:=(List.getElem?_eq_some_iff.1 hv).1;omega
    ·cases h1
     have d5:i<(knK ns j).length:=(List.getElem?_eq_some_iff.1 hv).1;refine⟨g,rfl,lt_of_block h3,?_⟩;rw[World.ownsRow.cellAt G.o i ol];simp[hv]⟩
   have L:=Jg (W.o j t r) PB I J (λk hk=>by
    simp only[knK,List.mem_map,List.mem_range]at hk;obtain⟨i,hi,rfl⟩:=hk;exact c5.o i ol) ol (by rw[YY];omega) (V.o _ (List.mem_of_getElem? r))
   have c3:Hd _:=L.1;have HE:Hd (knK ns (j+1)=knK ns j++[ns j]):=JG ns j;have Z:Hd ((knK ns j).length=j):=YY ns j;clear L r;go_wp2_with fail;refine(c3.o _ b9.o).mono ?_;rintro e H ⟨E,rfl⟩;have a0:Hd _:=a.o.trans (E.mono a.o.size);have X:Hd (H.ownsRow b.heap.size 3 1 (.slice I (knK ns j).length J) (knK ns j).length ((knK ns j).map (Value.int .i64))):=Yh G.o (λg hg=>E.block g (G.o.lt g hg).2);have S:b.heap.size<=H.heap.size:=a0.o.size;clear E;generalize hnj:ns j=nj at *;clear hnj;have b5:Hd ((knK ns j).length+1<=maxLen):=(by show _<=_;have:=Z.o;unfold maxLen;omega);have b4:Hd (((knK ns j).length+1)*8<=140737488355328):=(by show _<=_;have:=Z.o;omega);have b3:Hd (b.heap.size<=(H.alloc (.cells #[.int .i64 nj] 3)).heap.size):=mc;have Q:Hd (∀u∈[Value.int .i64 nj],u.oneCell'=true):=λu hu=>by simp at hu;subst hu;rfl
   go_wp2_with (at_builtin;refine wpList_append_lies _ rfl _ _ 25 rfl b.heap.size 3 i0 _ 1 8 underlying25 b1 a4 a3 a2 rfl oq (.slice I (knK ns j).length J) _ _ rfl (X.o.alloc _) ⟨H.heap.size,0,none⟩ 1 1 [.int .i64 nj] rfl rfl (World.news_of_block (cs:=#[.int .i64 nj]) (t:=3) (fr:=(0,0)) (heap_alloc_new H _)) Q.o (Nat.lt_succ_self 0) b5.o b4.o b3.o (H.heap.size+1) ot ?_;intro g m w5 C d b2 c8)
   have b7:Hd (w5.ownsRow b.heap.size 3 1 (.slice (some ⟨g,0,none⟩) ((knK ns j).length+1) m) (knK ns (j+1)).length ((knK ns (j+1)).map (Value.int .i64))):=by
    show World.ownsRow _ _ _ _ _ _ _;rw[HE.o,List.length_append,List.map_append];exact C
   have c6:Hd (Below b.heap.size b w5):=(a0.o.alloc S _).grown d ow (λk hk=>(X.o.lt k hk).1);clear C d b2;go_roundg (gk-1)
   case measure=>omega
   case rel=>exact⟨j+1,ol,by go_num,b7.o,c6.o⟩
  ·have hd:¬((j:Int)<(l.length:Int)):=(by omega);have b0:j=l.length:=ol;subst b0;have a9:=YY ns l.length;have c4:Hd (Below w.heap.size w wr):=a1.o.trans (a.o.mono a1.o.size);rcases G.o.2 with⟨h1,z⟩|⟨g,m,cur,h1,z,h3,_⟩
   ·omega
   ·subst h1;have ck:wr.cell? ⟨g,l.length-1,none⟩=some (.int .i64 (ns (l.length-1))):=by
     rw[World.ownsRow.cellAt G.o (l.length-1) ol];simp[jT ns (show l.length-1<l.length by omega)]
    rw[a9]at *;have d2:(1:Int)<=(l.length:Int):=ol;have d1:(l.length:Int)<=2001:=ol;generalize hnr:ns (l.length-1)=nr at *;have b8:Hd _:=hnr;clear hnr;go_wp2_with fail;go_ret2;exact⟨c4.o,by rw[b8.o];rfl⟩
end Go.Proofs.YtaebngpoagjafabGreat
