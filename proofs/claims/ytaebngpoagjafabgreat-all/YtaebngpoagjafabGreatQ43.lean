import Derived.Test.YtaebngpoagjafabGreatQ10
import Derived.Test.YtaebngpoagjafabGreatQ38
import Derived.Deep.MidRow
set_option maxRecDepth 100000
set_option maxHeartbeats 3200000
namespace Go.Proofs.YtaebngpoagjafabGreat
open Option renaming none → F,some → N
open Proofs.Tryz renaming prog → S
open Bool renaming false → T,true → E
open Proofs.Tryz
open Obj renaming cells → U
open Value renaming int → J, slice → O
open IntKind renaming i64 → Z
open Go.RowKit
attribute [local go_sem ↓] Go.wp_at_zero Go.wp_at_succ
def ldA(s:ByteArray):Int:=if(yv s).1=0 then 0 else(yv s).2
def zhc(B:Nat)(s:ByteArray)(w:World)(r:Ending)(w':World):Prop :=
 r=.returned (.tuple #[J Z (cpE s),J Z (ldA s)])/\(cpE s≠0->Below w.heap.size w w')/\(cpE s=0->∃w1 o k,Below w.heap.size w w1/\w1.ownsRow w.heap.size 5 1 (O o (cpX s).length k) (cpX s).length ((cpX s).map (Value.int .u8))/\w'=w1.setCell ⟨B,0,F⟩ (O o (cpX s).length k))
theorem zdP(B:Nat)(f:Nat->Value)(s:ByteArray)(w:World)(hR:w.rowIs B 61 82 f):
 Calls S 10 #[.pointer (N ⟨B,0,F⟩),.string s] w (zhc B s w):=by
 have t:Hd (w.rowIs B 61 82 f):=hR;clear hR;obtain⟨c,C⟩:∃c,yv s=c:=⟨_,rfl⟩;have HC:Hd _:=C;have HS:Hd (cpE s=if c.1=0 then(if 1000<szR (zy s).es (zy s).es.length then 8 else 0)else c.1):=by show _=_;unfold cpE;rw[C]
 have u:Hd (c.1=0->(zy s).es.length<=100000/\∀e∈(zy s).es,e.items.length<=100000):=by
  intro q;have hs:¬2000<s.size:=λh=>by rw[<-C]at q;unfold yv at q;rw[if_pos h]at q;cases q
  have h1:=Y6 s (s.size+1) [] 0 0 T;refine⟨?_,λe he=>by have:=h1 e he;omega⟩;have h2:=Za s (s.size+1) [] 0 0 T (Nat.zero_le _);show(zA s (s.size+1) [] 0 0 T).es.length<=100000;omega
 have y:Hd (ldA s=if c.1=0 then 0 else c.2):=by show _=_;unfold ldA;rw[C]
 clear C;obtain⟨z,c2⟩:=c;simp only at HS u y;go_enter func10,ntmps10;go_wp2_with fail;refine(qi s _ (z,c2) HC).mono ?_;rintro e W ⟨hb,P,em,Q,J,K,L,rfl,hq⟩;have V:Hd _:=hb;have HQ:Hd _:=hq;clear hb hq;cases e1:(z==0)with
 | false =>
  have e2:(z != 0)=E:=by simp[bne,e1]
  have R:Hd (cpE s=z):=by show _=_;rw[HS.o,if_neg (by simpa using e1)]
  have g:Hd (Below w.heap.size w (W.alloc (U #[O P em Q,O J K L] 74))):=V.o.alloc V.o.size _;have l:Hd (z≠0):=by show¬_;simpa using e1
  go_wp2_with fail;go_ret2;exact⟨by rw[R.o,y.o,if_neg l.o];rfl,λ_=>g.o,λh=>by rw[R.o]at h;exact absurd h l.o⟩
 | true =>
  have q:z=0:=by simpa using e1
  subst q;obtain⟨r,d,b⟩:=HQ.o rfl;have j:=u.o rfl;have R:Hd ((if 1000<szR (r.map Prod.fst) r.length then(8:Int)else 0)=cpE s):=by
   show _=_;rw[HS.o,if_pos rfl,<-d,List.length_map]
  have Z:Hd (yj (r.map Prod.fst) r.length=cpX s):=by show _=_;unfold cpX;rw[<-d,List.length_map]
  obtain⟨rfl,_,_⟩:=EVw.of_pq b;have G:Zn (r.map Prod.fst):=by rw[d];exact Qg s
  rw[<-d]at j;have g:Hd (Below w.heap.size w (W.alloc (U #[O P r.length Q,O J K L] 74))):=V.o.alloc V.o.size _;have H:=XX P Q J K L w.heap.size r (zy s).rs (W.alloc (U #[O P r.length Q,O J K L] 74)) (by simpa using j.1) (λp hp=>j.2 p.1 (List.mem_map_of_mem hp)) G ⟨b.ex.alloc _,b.rl.alloc _,λp hp=>(b.it p hp).alloc _⟩ (cpE s) R;rw[Z.o]at H;clear b d j G;go_wp2_with fail;refine H.mono ?_;rintro e w2 ⟨D,o,m,k,rfl,hn,X⟩;have x:Hd _:=g.o.trans (D.mono g.o.size);have a1:Hd _:=hn;have Y:Hd (cpE s=0->m=(cpX s).length/\w2.ownsRow w.heap.size 5 1 (O o m k) (cpX s).length ((cpX s).map (Value.int .u8))):=λh=>⟨(X h).1,yC (X h).2 g.o.size⟩
  have a:=t.o.of_block (x.o.block B t.o.lt);have c0:=a.cell (i:=0) ol;have z0:=a.frozen 0;have I:Hd (ldA s=0):=by show _=_;rw[y.o];simp
  clear D hn X a;obtain⟨v,A⟩:∃v,Hd (cpE s=v):=⟨_,rfl⟩;rw[A.o];cases e3:(v==0)with
  | false =>
   have e4:(v != 0)=E:=(by simp[bne,e3]);have l:Hd (cpE s≠0):=(by show¬_;rw[A.o];simpa using e3);go_wp2_with fail;go_ret2;exact⟨by rw[I.o,A.o];rfl,λ_=>x.o,λh=>absurd h l.o⟩
  | true =>
   have q:v=0:=(by simpa using e3);subst q;obtain⟨rfl,n⟩:=Y.o A.o;have a0:Hd _:=n;clear n;go_wp2_with fail;go_ret2;exact⟨by rw[I.o,A.o];rfl,λh=>absurd A.o h,λ_=>⟨w2,o,k,x.o,a0.o,rfl⟩⟩
def sv0:Array Value:=#[O F 0 0]++Array.replicate 64 (.bool T)++Array.replicate 16 (O F 0 0)++#[O F 0 0]
theorem zfN(w:World):(Instr.build 61 #[]).run S w=.ok (.agg sv0) w:=run_build w 61 _ _ kr
theorem zbI(w:World):Calls S 7 #[] w λe w'=>e=.returned (.pointer (N ⟨w.heap.size,0,F⟩))/\w'=w.alloc (U sv0 61):=by
 have a:=λw=>zfN w
 go_enter func7,ntmps7;go_wp2_with fail;go_ret;exact⟨rfl,rfl⟩
theorem zft(B:Nat)(k:Int)(a:Bool)(w:World)(h:k<0\/63<k):
 Calls S 16 #[.pointer (N ⟨B,0,F⟩),J Z k,.bool a] w λe w'=>e=.returned (J Z 9)/\w'=w:=by
 by_cases c:k<0
 ·go_enter func16,ntmps16;go_wp2_with fail;go_ret;exact⟨rfl,rfl⟩
 ·have b:64<=k:=by omega
  go_enter func16,ntmps16;go_wp2_with fail;go_ret;exact⟨rfl,rfl⟩
theorem zfs(B n:Nat)(a:Bool)(f:Nat->Value)(w:World)(g:n<64)(h:w.rowIs B 61 82 f):
 Calls S 16 #[.pointer (N ⟨B,0,F⟩),J Z n,.bool a] w λe w'=>e=.returned (J Z 0)/\w'=w.setCell ⟨B,1+n,F⟩ (.bool !a):=by
 have j:=h.cell (i:=1+n) ol;have d:=h.frozen (1+n);have c:(0:Int)<=(n:Int):=ol;have b:(n:Int)<64:=ol;clear h;go_enter func16,ntmps16;go_wp2_with fail;go_ret;exact⟨rfl,rfl⟩
def svF(cv:Value)(dn:Nat->Bool)(av:Nat->Value)(pv:Value)(i:Nat):Value:=if i=0 then cv else if i<65 then .bool (dn (i-1))else if i<81 then av (i-65)else pv
theorem zbH(w:World):(w.alloc (U sv0 61)).rowIs w.heap.size 61 82 (svF (O F 0 0) (λ_=>T) (λ_=>O F 0 0) (O F 0 0)):=by
 have c:sv0.size=82:=by simp[sv0]
 have:=World.rowIs_alloc w sv0 61 (svF (O F 0 0) (λ_=>T) (λ_=>O F 0 0) (O F 0 0)) (λi hi=>by
  rw[c]at hi;unfold sv0 svF;simp only[Array.getElem?_append,Array.getElem?_replicate,Array.size_append,Array.size_replicate,List.size_toArray,List.length_cons,List.length_nil,Nat.zero_add];by_cases a:i=0
  ·subst a;rfl
  ·by_cases b:i<65
   ·simp only[if_neg a,if_pos b,if_pos (show i<1+64+16 by omega),if_neg (show¬i<1 by omega),if_pos (show i-1<64 by omega)]
   ·by_cases d:i<81
    ·simp only[if_neg a,if_neg b,if_pos d,if_pos (show i-(1+64)<16 by omega)]
    ·simp only[if_neg a,if_neg b,if_neg d,show i-(1+64+16)=0 by omega];rfl)
 rw[c]at this;exact this
def dnL(dn:Nat->Bool):Nat->List Int
 |0=>[]
 |n+1=>dnL dn n++(if dn n=E then[(n:Int)]else[])
theorem jZ(dn:Nat->Bool):∀n,(dnL dn n).length<=n:=by
 intro n;induction n with
 |zero=>exact Nat.le_refl _
 |succ n ih=>simp only[dnL,List.length_append];split<;>simp<;>omega
def dnC(dn:Nat->Bool):List Value:=(List.range 64).map λi=>.bool (dn i)
theorem zbg(dn:Nat->Bool):(dnC dn).length=64:=by simp[dnC]
theorem zed(dn:Nat->Bool){i:Nat}(h:i<64):(dnC dn)[i]?=N (.bool (dn i)):=by simp[dnC,h]
theorem zec{w:World}{B:Nat}{d c:Value}{dn:Nat->Bool}{e:Nat->Value}(h:w.rowIs B 61 82 (svF d dn e c)):w.rangeAt B 1 (dnC dn):=by
 intro j v a;have b:=(List.getElem?_eq_some_iff.1 a).1;rw[zbg]at b;rw[zed dn b]at a;rw[h.cell (i:=1+j) ol,<-a];unfold svF;rw[if_neg ol,if_pos ol,show 1+j-1=j by omega]
theorem zfv(dn:Nat->Bool){i:Nat}(h:i<64)(w:World):(Instr.index 58 (.agg (dnC dn).toArray) (J Z (i:Int))).run S w=.ok (.bool (dn i)) w:=by
 have b:Tryz.prog.underlying 58=N (.array 64 4):=kr;have c:(0:Int)<=(i:Int)/\(i:Int)<((64:Nat):Int):=ol;have a:(dnC dn).toArray[i]?=N (.bool (dn i)):=by rw[List.getElem?_toArray];exact zed dn h
 generalize(dnC dn).toArray=C at a;simp[Instr.index,run_underlying b,asIntOf,h,go_sem,a]
theorem zeb(B:Nat)(dn:Nat->Bool)(w:World)(h:w.rangeAt B 1 (dnC dn)):
 Calls S 28 #[.pointer (N ⟨B,0,F⟩)] w λe w'=>Below w.heap.size w w'/\∃o k,e=.returned (O o (dnL dn 64).length k)/\w'.ownsRow w.heap.size 3 1 (O o (dnL dn 64).length k) (dnL dn 64).length ((dnL dn 64).map (J Z)):=by
 obtain⟨i1,I,D,A,z⟩:=info_parts infoInt;have r:Hd ((w.alloc (U #[] 3)).rangeAt B 1 (dnC dn)):=World.rangeAt_alloc h _;have p:(Tryz.prog.info? 58).map (·.size)=N (dnC dn).length:=by rw[zbg];kernel_rfl
 clear h;have c:=λ(i:Nat) (h:i<64) (w:World)=>zfv dn h w
 have HX:Hd (∀(i:Nat),i<64->∀w,(Instr.index 58 (.agg (dnC dn).toArray) (J Z (i:Int))).run S w=.ok (.bool (dn i)) w):=c;clear c;go_enter func28,ntmps28;go_wp2_with (refine wpList_load_mid rfl _ _ rfl B 1 rfl (dnC dn) (.array 64 4) r.o kr rfl p ?_)
 generalize(dnC dn).toArray=C at HX⊢;clear r p;go_loopg [3,11] 64 (λq x3 y wr=>∃(j:Nat),q+j=64/\y=J Z j/\(∃m n,x3=O m (dnL dn j).length n)/\wr.ownsRow w.heap.size 3 1 x3 (dnL dn j).length ((dnL dn j).map (J Z))/\Below w.heap.size w wr)
 case atStart=>exact⟨0,ol,rfl,⟨_,_,rfl⟩,World.ownsRow_made w #[] 0 (Nat.le_refl _) (Nat.zero_le _) rfl,(Below.refl _ _).alloc (Nat.le_refl _) _⟩
 case round =>
  obtain⟨j,hq,rfl,⟨m,n,rfl⟩,f,P⟩:=hrel;have x:Hd (wr.ownsRow w.heap.size 3 1 (O m (dnL dn j).length n) (dnL dn j).length ((dnL dn j).map (J Z))):=f;have V:Hd (Below w.heap.size w wr):=P;have K:=P.size;clear f P;have a1:=jZ dn j;by_cases hj:j<64
  ·have H:(j:Int)<64:=(by omega);have a0:(0:Int)<=(j:Int):=ol;have c:=HX.o j hj;have l:Hd (dnL dn (j+1)=dnL dn j++(if dn j=E then[(j:Int)]else[])):=(rfl:dnL dn (j+1)=_);generalize dn j=d at c l;generalize dnL dn j=L at *;cases d with
   | false =>
    simp only[Bool.false_eq_true,if_false,List.append_nil]at l;go_wp2_with fail;go_roundg (64-(j+1))
    case measure=>omega
    case rel=>exact⟨j+1,ol,by go_num,⟨m,n,by rw[l.o]⟩,by rw[l.o];exact x.o,V.o⟩
   | true =>
    simp only[if_true]at l;have s:∀u∈[J Z (j:Int)],u.oneCell'=E:=λu hu=>by simp at hu;subst hu;rfl
    go_wp2_with (at_builtin;refine wpList_append_lies _ rfl _ _ 25 rfl w.heap.size 3 i1 _ 1 8 underlying25 I D A z rfl oq (O m L.length n) _ _ rfl (x.o.alloc _) ⟨wr.heap.size,0,F⟩ 1 1 [J Z j] rfl rfl (World.news_of_block (cs:=#[J Z j]) (t:=3) (fr:=(0,0)) (heap_alloc_new wr _)) s (Nat.lt_succ_self 0) mr ol ow (wr.heap.size+1) ot ?_;intro Y g W b a v X)
    have Q:Hd (W.ownsRow w.heap.size 3 1 (O (N ⟨Y,0,F⟩) (L.length+1) g) (L++[(j:Int)]).length ((L++[(j:Int)]).map (J Z))):=by
     show World.ownsRow _ _ _ _ _ _ _;rw[List.length_append,List.map_append];exact b
    have R:Hd (Below w.heap.size w W):=(V.o.alloc K _).grown a ow (λk hk=>(x.o.lt k hk).1);clear b a v;go_roundg (64-(j+1))
    case measure=>omega
    case rel=>exact⟨j+1,ol,by go_num,⟨some ⟨Y,0,none⟩,g,by rw[l.o];simp⟩,by rw[l.o];exact Q.o,R.o⟩
  ·have H:¬(j:Int)<64:=(by omega);have G:j=64:=ol;subst G;go_wp2_with fail;go_ret;exact⟨V.o,m,n,rfl,x.o⟩
def quF(a b d:Int)(dn:Nat->Bool)(al:List (List Int))(V L R:Nat->Int)(pl:Nat)(C:List Int):Int×(List Int×Int×Int) :=
 if Zm a b d=E then(if C.length=0 then(12,[],0,0)else ruF a b d (λi=>((dnL dn 64)[i]?).getD 0) (dnL dn 64).length al V L R pl C C.length)else(9,[],0,0)
theorem zb6(B:Nat)(a b d:Int)(G:Option Addr)(cb E cc:Nat)(C:List Int)(dn:Nat->Bool)(av:Nat->Value)(al:List (List Int))(p:Option Addr)(pb r pl j:Nat)(V L R:Nat->Int)(w:World)(l:w.rowIs B 61 82 (svF (O G C.length cc) dn av (O p pl j)))(hC:C.length<=140737488355328)(hl:al.length=16)(hs:TS w p pb r pl V L R)(b6:AS w w.heap.size (N ⟨B,65,F⟩) B 65 al)(b4:CS w w.heap.size G cb E C):
 Calls S 12 #[.pointer (N ⟨B,0,F⟩),J Z a,J Z b,J Z d] w (qh w (quF a b d dn al V L R pl C)):=by
 have HS:Hd _:=hs;have d4:Hd _:=b6;have d1:Hd _:=b4;have b9:Hd (w.rowIs B 61 82 (svF (O G C.length cc) dn av (O p pl j))):=l;have a3:=l.lt;have k0:w.cell? ⟨B,0,F⟩=N (O G C.length cc):=l.cell (i:=0) ol;have c4:w.cell? ⟨B,81,F⟩=N (O p pl j):=l.cell (i:=81) ol;obtain⟨Q,HQ⟩:∃Q,Hd (quF a b d dn al V L R pl C=Q):=⟨_,rfl⟩;rw[HQ.o];have a7:Hd (Below w.heap.size w (w.alloc (U #[O F 0 0,J Z 0,J Z 0] 42))):=(Below.refl _ _).alloc (Nat.le_refl _) _;have c0:Hd ((w.alloc (U #[O F 0 0,J Z 0,J Z 0] 42)).heap[w.heap.size]?=N (U #[O F 0 0,J Z 0,J Z 0] 42 (0,0))):=heap_alloc_new w _;have H:Hd (∀(we:World) (tm:Array Value) (x:Value) (t c n:Int),we.heap[w.heap.size]?=N (U #[x,J Z t,J Z c] 42 (0,0))->tm.getD 8 undef=.pointer (N ⟨w.heap.size,0,F⟩)->tm.getD 9 undef=J Z n->qh w Q (.returned (.tuple #[.agg #[x,J Z t,J Z c],J Z n])) we->bodyPost S f12 (qh w Q) .ret ⟨tm,[]⟩ we):=λwe tm x t c n h1 h2 h3 h4=>by
  refine bodyPost_ret (v:=.tuple #[.agg #[x,J Z t,J Z c],J Z n]) ?_ rfl h4;rw[results_cell_tmp results12,h2,h3];have h5:(asAddr (.pointer (N ⟨w.heap.size,0,F⟩))).run S we=.ok ⟨w.heap.size,0,F⟩ we:=rfl;have h6:=run_loadVar_row (P:=S) we w.heap.size 42 42 #[x,J Z t,J Z c] (0,0) _ h1 underlying42 rfl kr;rw[h5,Result.andThen_ok,h6,Result.andThen_ok]
 clear hs b6 b4 l;go_enter func12,ntmps12;go_wp2_with fail;refine(xE a b d _).mono ?_;rintro e w1 ⟨rfl,d6⟩;subst w1;cases hr:Zm a b d with
 | false =>
  have HE:Hd (Q=(9,[],0,0)):=by show _=_;rw[<-HQ.o];unfold quF;rw[hr];rfl
  clear hr;go_wp2_with fail;exact H.o _ _ _ _ _ _ c0.o rfl rfl ⟨a7.o,F,0,0,by rw[HE.o],λ_=>⟨rfl,rfl,rfl⟩,λh=>by rw[HE.o]at h;cases h⟩
 | true =>
  have HE:Hd (Q=if C.length=0 then(12,[],0,0)else ruF a b d (λi=>((dnL dn 64)[i]?).getD 0) (dnL dn 64).length al V L R pl C C.length):=by show _=_;rw[<-HQ.o];unfold quF;rw[if_pos hr]
  clear hr;by_cases D:C.length=0
  ·have I:Hd (Q=(12,[],0,0)):=(by show _=_;rw[HE.o,if_pos D]);rw[D]at k0;clear D;go_wp2_with fail;exact H.o _ _ _ _ _ _ c0.o rfl rfl ⟨a7.o,F,0,0,by rw[I.o],λ_=>⟨rfl,rfl,rfl⟩,λh=>by rw[I.o]at h;cases h⟩
  ·have I:Hd (ruF a b d (λi=>((dnL dn 64)[i]?).getD 0) (dnL dn 64).length al V L R pl C C.length=Q):=(by show _=_;rw[HE.o,if_neg D]);have c6:(C.length:Int)≠0:=ol;have d8:decide ((C.length:Int)=0)=T:=decide_eq_false c6;have d0:Hd ((dnL dn 64).length<=64):=jZ dn 64;have c8:Hd (∀(wz:World) (o:Option Addr) (g k:Nat),TS wz p pb r pl V L R->IS wz o g 0 (dnL dn 64).length (λi=>((dnL dn 64)[i]?).getD 0)->AS wz wz.heap.size (N ⟨B,65,F⟩) B 65 al->CS wz wz.heap.size G cb E C->Calls S 29 #[O G C.length cc,.agg #[J Z a,J Z b,J Z d,O o (dnL dn 64).length k,O (N ⟨B,65,F⟩) 16 16,O p pl j],J Z C.length] wz (qh wz Q)):=λwz o g k h1 h2 h3 h4=>by
    have:=JD a b d o (N ⟨B,65,F⟩) p (dnL dn 64).length k 16 pl j pb r g 0 B 65 al (λi=>((dnL dn 64)[i]?).getD 0) V L R G cb E cc C C.length wz hC ol (by have:=d0.o;omega) ol h1 h2 h3 h4
    rw[hl,I.o]at this;exact this
   have c9:Hd (∀wz:World,wz.rowIs B 61 82 (svF (O G C.length cc) dn av (O p pl j))->Calls S 28 #[.pointer (N ⟨B,0,F⟩)] wz λe w'=>Below wz.heap.size wz w'/\∃o k,e=.returned (O o (dnL dn 64).length k)/\w'.ownsRow wz.heap.size 3 1 (O o (dnL dn 64).length k) (dnL dn 64).length ((dnL dn 64).map (J Z))):=λwz h=>zeb B dn wz (zec h)
   clear D HE I;generalize dnL dn 64=dl at *;have W:Hd (Below w.heap.size w ((w.alloc (U #[O F 0 0,J Z 0,J Z 0] 42)).alloc (U #[J Z a,J Z b,J Z d,O F 0 0,O F 0 0,O p pl j] 31))):=a7.o.alloc ot _;have a5:Hd (((w.alloc (U #[O F 0 0,J Z 0,J Z 0] 42)).alloc (U #[J Z a,J Z b,J Z d,O F 0 0,O F 0 0,O p pl j] 31)).heap[w.heap.size+1]?=N (U #[J Z a,J Z b,J Z d,O F 0 0,O F 0 0,O p pl j] 31 (0,0))):=zl _ ot;have a9:Hd (((w.alloc (U #[O F 0 0,J Z 0,J Z 0] 42)).alloc (U #[J Z a,J Z b,J Z d,O F 0 0,O F 0 0,O p pl j] 31)).heap[w.heap.size]?=N (U #[O F 0 0,J Z 0,J Z 0] 42 (0,0))):=(by show _=_;rw[Below.heap_alloc _ _ _ ot];exact heap_alloc_new w _);go_wp2_with fail;refine(c9.o _ (b9.o.of_block (W.o.block B a3))).mono ?_;rintro e w6 ⟨Y,s,u,rfl,y⟩;have d3:Hd _:=W.o.trans (Y.mono W.o.size);have q:=(Y.block _ (lt_of_block a5.o)).trans a5.o;have d5:Hd _:=(Y.block _ (lt_of_block a9.o)).trans a9.o;have c1:Hd (w6.ownsRow w.heap.size 3 1 (O s dl.length u) dl.length (dl.map (J Z))):=yC y W.o.size;have d7:=lt_of_block q;obtain⟨q0,q1,q2,q3,q4,q5⟩:=ld6 q rfl;have f3:w6.frozen? ⟨w.heap.size+1,3,F⟩=T:=(by simp[World.frozen?,q]);have f4:w6.frozen? ⟨w.heap.size+1,4,F⟩=T:=(by simp[World.frozen?,q]);have b8:Hd _:=q;clear Y y q W a5 a9;go_wp2_with fail;have a4:Hd (((w6.setCell ⟨w.heap.size+1,3,F⟩ (O s dl.length u)).setCell ⟨w.heap.size+1,4,F⟩ (O (N ⟨B,65,F⟩) 16 16)).heap[w.heap.size+1]?=N (U #[J Z a,J Z b,J Z d,O s dl.length u,O (N ⟨B,65,F⟩) 16 16,O p pl j] 31 (0,0))):=(by show _=_;rw[zH (zH b8.o)];rfl);have K:Hd (Below w.heap.size w ((w6.setCell ⟨w.heap.size+1,3,F⟩ (O s dl.length u)).setCell ⟨w.heap.size+1,4,F⟩ (O (N ⟨B,65,F⟩) 16 16))):=(d3.o.setCell ox _).setCell ox _;have c3:Hd (((w6.setCell ⟨w.heap.size+1,3,F⟩ (O s dl.length u)).setCell ⟨w.heap.size+1,4,F⟩ (O (N ⟨B,65,F⟩) 16 16)).heap[w.heap.size]?=N (U #[O F 0 0,J Z 0,J Z 0] 42 (0,0))):=(by show _=_;rw[za ol,za ol];exact d5.o);have c7:Hd (((w6.setCell ⟨w.heap.size+1,3,F⟩ (O s dl.length u)).setCell ⟨w.heap.size+1,4,F⟩ (O (N ⟨B,65,F⟩) 16 16)).ownsRow w.heap.size 3 1 (O s dl.length u) dl.length (dl.map (J Z))):=zd c1.o (λg hg=>by
    have b2:g≠w.heap.size+1:=λe=>zi c1.o b8.o oq (by rw[<-e];exact hg)
    rw[za b2,za b2])
   generalize(w6.setCell ⟨w.heap.size+1,3,F⟩ (O s dl.length u)).setCell ⟨w.heap.size+1,4,F⟩ (O (N ⟨B,65,F⟩) 16 16)=w7 at *;obtain⟨g7,A⟩:=qB c7.o;have a6:Hd (∀wz,Below w7.heap.size w7 wz->Calls S 29 #[O G C.length cc,.agg #[J Z a,J Z b,J Z d,O s dl.length u,O (N ⟨B,65,F⟩) 16 16,O p pl j],J Z C.length] wz λe w8=>Below w.heap.size w w8/\Below w7.heap.size w7 w8/\qh wz Q e w8/\w7.heap.size<=wz.heap.size):=λwz hz=>by
    have hB:Below w.heap.size w wz:=K.o.trans (hz.mono K.o.size);refine(c8.o wz s g7 u (HS.o.below hB) (A.below hz A.lt) ((d4.o.of_kept (λb hb=>hB.block b hb)).wide hB.size) ((d1.o.of_kept (λb hb=>hB.block b hb)).wide hB.size)).mono ?_;intro e w8 h8;exact⟨hB.trans (h8.1.mono hB.size),hz.trans (h8.1.mono hz.size),h8,hz.size⟩
   have k7:w7.cell? ⟨B,0,F⟩=N (O G C.length cc):=(by rw[World.cell?_of_block (K.o.block B a3)];exact k0);clear q0 q1 q2 q3 q4 q5 f3 f4 k0 c4 A;obtain⟨q0,q1,q2,q3,q4,q5⟩:=ld6 a4.o rfl;have c5:=lt_of_block c3.o;have b3:=lt_of_block a4.o;have b7:B<w7.heap.size:=Nat.lt_of_lt_of_le a3 K.o.size;have z:w.heap.size≠B:=ol;have f:w.heap.size≠w.heap.size+1:=ol;go_region_held3 (λw'=>w'.cell? ⟨B,0,F⟩=N (O G C.length cc)/\w'.cell? ⟨w.heap.size+1,0,F⟩=N (J Z a)/\w'.cell? ⟨w.heap.size+1,1,F⟩=N (J Z b)/\w'.cell? ⟨w.heap.size+1,2,F⟩=N (J Z d)/\w'.cell? ⟨w.heap.size+1,3,F⟩=N (O s dl.length u)/\w'.cell? ⟨w.heap.size+1,4,F⟩=N (O (N ⟨B,65,F⟩) 16 16)/\w'.cell? ⟨w.heap.size+1,5,F⟩=N (O p pl j)) (first|(exact⟨k7,q0,q1,q2,q3,q4,q5⟩)|(exact m)|(exact⟨zo z (zo z (zo z m.1 _ _) _ _) _ _,zo f (zo f (zo f m.2.1 _ _) _ _) _ _,zo f (zo f (zo f m.2.2.1 _ _) _ _) _ _,zo f (zo f (zo f m.2.2.2.1 _ _) _ _) _ _,zo f (zo f (zo f m.2.2.2.2.1 _ _) _ _) _ _,zo f (zo f (zo f m.2.2.2.2.2.1 _ _) _ _) _ _,zo f (zo f (zo f m.2.2.2.2.2.2 _ _) _ _) _ _⟩)|go_keep) (first|(go_at_call 29;refine(a6.o _ (by first|exact(Below.refl _ _).drew|exact Below.refl _ _)).mono ?_;rintro e w8 ⟨b5,X,⟨_,o8,m8,k8,rfl,a0,a1⟩,b0⟩;have d2:Hd _:=b5;have c2:Hd _:=a0;have a2:Hd _:=a1;have m:_/\_:=⟨(World.cell?_of_block (X.block _ b7)).trans k7,ld6 a4.o (X.block _ b3)⟩;have a8:Hd _:=(X.block _ c5).trans c3.o;obtain⟨y0,y1,y2,z0,z1,z2⟩:=ld3 a8.o;clear b5 a0 a1 X))
   all_goals
    go_wp2_with fail;refine H.o _ _ _ _ _ _ (ym a8.o) rfl rfl ⟨((d2.o.setCell (Nat.le_refl _) _).setCell (Nat.le_refl _) _).setCell (Nat.le_refl _) _,o8,m8,k8,rfl,c2.o,λh=>⟨(a2.o h).1,?_⟩⟩;have b1:w8.ownsRow w.heap.size 3 1 (O o8 m8 k8) Q.2.1.length (Q.2.1.map (J Z)):=yC (a2.o h).2 (Nat.le_trans K.o.size b0);exact zdb b1 (zi b1 a8.o oq) _ _ _
def zhe(n:Nat)(D:Nat->Int)(w:World)(e:Ending)(w':World):Prop:=w'=w/\∃r,e=.returned (.bool r)/\(r=E↔n<=16/\∀i,i<n->0<=D i/\D i<64)
theorem jp(o:Option Addr)(b a n c:Nat)(D:Nat->Int)(w:World)(h:IS w o b a n D):
 Calls S 40 #[O o n c] w (zhe n D w):=by
 by_cases C:16<n
 ·have e:(16:Int)<(n:Int):=by omega
  go_enter func40,ntmps40;go_wp2_with fail;go_ret;exact⟨rfl,T,rfl,ow⟩
 have e:¬(16:Int)<(n:Int):=ol;have s:Hd (IS w o b a n D):=h;clear h;go_enter func40,ntmps40;go_wp2_with fail;go_loopg [10] n (λq y wr=>∃(j:Nat),q+j=n/\y=J Z j/\wr=w/\∀i,i<j->0<=D i/\D i<64)
 case atStart=>exact⟨0,ol,rfl,rfl,λi hi=>absurd hi (Nat.not_lt_zero _)⟩
 case round =>
  obtain⟨j,B,rfl,rfl,m⟩:=hrel;have t:Hd (∀i,i<j->0<=D i/\D i<64):=m;clear m;by_cases k:j<n
  ·have g:(j:Int)<(n:Int):=(by omega);have x:(0:Int)<=(j:Int):=ol;have u:=s.o.at_ ol;have z:=s.o.val j k;subst u;have A:Hd (∀v,D j=v->0<=v->v<64->∀i,i<j+1->0<=D i/\D i<64):=λv d r p i hi=>by
    rcases Nat.lt_succ_iff_lt_or_eq.1 hi with hi|rfl
    ·exact t.o i hi
    ·rw[d];exact⟨r,p⟩
   obtain⟨v,d⟩:∃v,D j=v:=⟨_,rfl⟩;rw[d]at z;have l:Hd (D j=v):=d;clear d;by_cases r:v<0
   ·go_wp2_with fail;go_ret;exact⟨rfl,T,rfl,by simp;intro _;exact⟨j,k,by rw[l.o];omega⟩⟩
   ·by_cases p:64<=v
    ·go_wp2_with fail;go_ret;exact⟨rfl,T,rfl,by simp;intro _;exact⟨j,k,by rw[l.o];omega⟩⟩
    ·go_wp2_with fail;go_roundg (n-(j+1))
     case measure=>omega
     case rel=>exact⟨j+1,ol,by go_num,rfl,A.o v l.o ol ol⟩
  ·have g:¬(j:Int)<(n:Int):=(by omega);have f:j=n:=ol;subst f;go_wp2_with fail;go_ret;exact⟨rfl,E,rfl,by simp;exact⟨ol,t.o⟩⟩
def isC(D:Nat->Int)(n:Nat):List Value:=(List.range n).map λi=>J Z (D i)
theorem zbd(D:Nat->Int)(n:Nat):(isC D n).length=n:=by simp[isC]
theorem zgF(D:Nat->Int){n i:Nat}(h:i<n):(isC D n)[i]?=N (J Z (D i)):=by simp[isC,h]
theorem zfy(D:Nat->Int)(n:Nat):∀u∈isC D n,u.oneCell'=E:=λu hu=>by
 simp only[isC,List.mem_map]at hu;obtain⟨i,_,rfl⟩:=hu;rfl
theorem IS.src{w:World}{o:Option Addr}{b a n:Nat}{D:Nat->Int}(h:IS w o b a n D){w':World}(d:∀i,i<n->w'.cell? ⟨b,a+i,F⟩=w.cell? ⟨b,a+i,F⟩):
 0<n->∃ad,o=N ad/\∀j u,(isC D n)[j]?=N u->w'.cell? (ad.add j)=N u:=λhn =>
 ⟨_,h.at_ hn,λj u hu=>by
  have c:=(List.getElem?_eq_some_iff.1 hu).1;rw[zbd]at c;rw[zgF D c]at hu;rw[Addr.add_mid,d j c,h.val j c,hu]⟩
def zhf(B k n:Nat)(D:Nat->Int)(w:World)(e:Ending)(w':World):Prop :=
 e=.returned (J Z 0)/\∃w1 oo cap,Below w.heap.size w w1/\w1.ownsRow w.heap.size 3 1 (O oo n cap) n (isC D n)/\w'=w1.setCell ⟨B,65+k,F⟩ (O oo n cap)
theorem zeH(B:Nat)(k:Int)(o:Option Addr)(b a n c:Nat)(D:Nat->Int)(w:World)(h:IS w o b a n D)(j:k<0\/15<k\/¬(n<=16/\∀i,i<n->0<=D i/\D i<64)):
 Calls S 18 #[.pointer (N ⟨B,0,F⟩),J Z k,O o n c] w λe w'=>e=.returned (J Z 9)/\w'=w:=by
 have m:Hd (IS w o b a n D):=h;clear h;have l:Hd (¬(k<0\/15<k)->¬(n<=16/\∀i,i<n->0<=D i/\D i<64)):=λf=>by
  rcases j with h|h|h
  ·exact absurd (.inl h) f
  ·exact absurd (.inr h) f
  ·exact h
 clear j;by_cases p:k<0
 ·go_enter func18,ntmps18;go_wp2_with fail;go_ret;exact⟨rfl,rfl⟩
 ·by_cases f:16<=k
  ·go_enter func18,ntmps18;go_wp2_with fail;go_ret;exact⟨rfl,rfl⟩
  ·go_enter func18,ntmps18;go_wp2_with fail;refine(jp o b a n c D w m.o).mono ?_;rintro e w' ⟨rfl,r,rfl,g⟩;have d:r=T:=by
    cases r with
    |false=>rfl
    |true=>exact absurd (g.1 rfl) (l.o ol)
   subst d;clear g;go_wp2_with fail;go_ret;exact⟨rfl,rfl⟩
theorem zeG(B k:Nat)(o:Option Addr)(b m n c:Nat)(D:Nat->Int)(f:Nat->Value)(w:World)(W:k<16)(Y:w.rowIs B 61 82 f)(h:IS w o b m n D)(hn:n<=16)(X:∀i,i<n->0<=D i/\D i<64):
 Calls S 18 #[.pointer (N ⟨B,0,F⟩),J Z k,O o n c] w (zhf B k n D w):=by
 obtain⟨i1,C,z,y,x⟩:=info_parts infoInt;have L:Hd (IS w o b m n D):=h;have Q:Hd (w.rowIs B 61 82 f):=Y;have HD:Hd (n<=16/\∀i,i<n->0<=D i/\D i<64):=⟨hn,X⟩;have a1:(0:Int)<=(k:Int):=ol;have a0:(k:Int)<16:=ol;clear h Y X;go_enter func18,ntmps18;go_wp2_with fail;refine(jp o b m n c D w L.o).mono ?_;rintro e a ⟨rfl,r,rfl,V⟩;have A:r=E:=V.2 HD.o;subst A;clear V;have s:=Q.o.lt;have hO:Hd ((a.alloc (U #[] 3)).drew.ownsRow a.heap.size 3 1 (O (N ⟨a.heap.size,0,F⟩) 0 0) 0 []):=(World.ownsRow_made a #[] 0 (Nat.le_refl _) (Nat.zero_le _) rfl).drew;have hS:Hd (0<n->∃ad,o=N ad/\∀j u,(isC D n)[j]?=N u->(a.alloc (U #[] 3)).drew.cell? (ad.add j)=N u):=L.o.src (λi hi=>by
  show(a.alloc _).cell? _=_;rw[World.cell?_alloc_lt _ _ _ (L.o.lt ol)])
 have hG:Hd (∀g,(a.alloc (U #[] 3)).drew.grownBy g (N a.heap.size)->g.cell? ⟨B,65+k,F⟩=N (f (65+k))/\g.frozen? ⟨B,65+k,F⟩=T):=λg hg=>by
  have p:N (⟨B,65+k,F⟩:Addr).block≠N a.heap.size:=ow;have q:(⟨B,65+k,F⟩:Addr).block<(a.alloc (U #[] 3)).drew.heap.size:=by show B<(a.alloc _).heap.size;simp;omega
  refine⟨?_,?_⟩
  ·rw[hg.cell_far _ q p];show(a.alloc _).cell? _=_;rw[World.cell?_alloc_lt _ _ _ s];exact Q.o.cell ol
  ·rw[hg.frozen_far _ q p];show(a.alloc _).frozen? _=_;rw[World.frozen?_alloc_past _ _ _ s];exact Q.o.frozen _
 have I:Hd (0+n<=maxLen):=sx;have H:Hd ((0+n)*8<=140737488355328):=oz;have t:Hd (a.heap.size<=(a.alloc (U #[] 3)).drew.heap.size):=by show a.heap.size<=(a.alloc _).heap.size;simp
 go_wp2_with fail;go_region_law ((refine qV _ _ _ _ (by rfl) a.heap.size 3 i1 _ 1 8 underlying25 C z y x rfl oq (O (N ⟨a.heap.size,0,F⟩) 0 0) _ _ (by rfl) hO.o o n c (isC D n) (by rfl) (by rw[zbd,Nat.mul_one]) hS.o (zfy D n) I.o H.o t.o (a.heap.size+1) ot (by rfl) ?_;intro R v g l d G;obtain⟨y3,yz⟩:=hG.o g d))
 all_goals
  have K:Hd (g.ownsRow a.heap.size 3 1 (O R n v) n (isC D n)):=by
   have:=l
   rw[Nat.zero_add,List.nil_append]at this;exact this
  have P:Hd (Below a.heap.size a g):=((Below.refl _ _).alloc (Nat.le_refl _) _).drew.grown d t.o (λk W=>by cases W;exact Nat.le_refl _);clear l d G;go_wp2_with fail;go_ret;exact⟨rfl,g,R,v,P.o,K.o,rfl⟩
def plC(V L R:Nat->Int)(n:Nat):List Value:=(List.range (n*3)).map λj=>J Z (if j%3=0 then V (j / 3)else if j%3=1 then L (j / 3)else R (j / 3))
theorem jM(V L R:Nat->Int)(n:Nat):(plC V L R n).length=n*3:=by simp[plC]
theorem YV(V L R:Nat->Int){n j:Nat}(h:j<n*3):(plC V L R n)[j]?=N (J Z (if j%3=0 then V (j / 3)else if j%3=1 then L (j / 3)else R (j / 3))):=by simp[plC,h]
theorem zfi(V L R:Nat->Int)(n:Nat):∀u∈plC V L R n,u.oneCell'=E:=λu hu=>by
 simp only[plC,List.mem_map]at hu;obtain⟨i,_,rfl⟩:=hu;rfl
theorem TS.src{w:World}{o:Option Addr}{b a n:Nat}{V L R:Nat->Int}(h:TS w o b a n V L R){w':World}(g:∀i,0<n->w'.cell? ⟨b,i,F⟩=w.cell? ⟨b,i,F⟩):
 0<n->∃ad,o=N ad/\∀j u,(plC V L R n)[j]?=N u->w'.cell? (ad.add j)=N u:=λhn =>
 ⟨_,h.at_ hn,λj u hu=>by
  have e:=(List.getElem?_eq_some_iff.1 hu).1;rw[jM]at e;rw[YV V L R e]at hu;rw[Addr.add_mid,g _ hn,<-hu];have c:j / 3<n:=ol;by_cases d:j%3=0
  ·rw[if_pos d,show a+j=a+j / 3*3 by omega];exact h.val _ c
  ·by_cases f:j%3=1
   ·rw[if_neg d,if_pos f,show a+j=a+j / 3*3+1 by omega];exact h.len _ c
   ·rw[if_neg d,if_neg f,show a+j=a+j / 3*3+2 by omega];exact h.reg _ c⟩
theorem Qn{w:World}{base:Nat}{oo:Option Addr}{cap n:Nat}{V L R:Nat->Int}(h:w.ownsRow base 96 3 (O oo n cap) n (plC V L R n)):∃b,TS w oo b 0 n V L R/\(0<n->base<=b):=by
 rcases Nat.eq_zero_or_pos n with hn|hn
 ·subst hn;exact⟨0,⟨λh=>absurd h (Nat.lt_irrefl _),λh=>absurd h (Nat.lt_irrefl _),λi h=>absurd h (Nat.not_lt_zero _),λi h=>absurd h (Nat.not_lt_zero _),λi h=>absurd h (Nat.not_lt_zero _)⟩,λh=>absurd h (Nat.lt_irrefl _)⟩
 ·obtain⟨g,c,a,e,d⟩:=h.form hn;cases a
  refine⟨g,⟨λ_=>rfl,λ_=>d,λi hi=>?_,λi hi=>?_,λi hi=>?_⟩,λ_=>e⟩
  ·rw[Nat.zero_add,h.cellAt (i*3) ol,YV V L R ol,if_pos ol,show i*3 / 3=i by omega]
  ·rw[Nat.zero_add,h.cellAt (i*3+1) ol,YV V L R ol,if_neg ol,if_pos ol,show(i*3+1) / 3=i by omega]
  ·rw[Nat.zero_add,h.cellAt (i*3+2) ol,YV V L R ol,if_neg ol,if_neg ol,show(i*3+2) / 3=i by omega]
theorem infoPlc:(Tryz.prog.info? 96).map (λi=>(i.zero,i.size,i.bytes))=N (N (.agg #[J Z 0,J Z 0,J Z 0]),3,24):=kr
def zhd(B n:Nat)(V L R:Nat->Int)(w:World)(e:Ending)(w':World):Prop :=
 e=.returned (J Z 0)/\∃w1 oo cap,Below w.heap.size w w1/\w1.ownsRow w.heap.size 96 3 (O oo n cap) n (plC V L R n)/\w'=w1.setCell ⟨B,81,F⟩ (O oo n cap)
theorem zcf(B:Nat)(o:Option Addr)(b a n c:Nat)(V L R:Nat->Int)(w:World)(h:TS w o b a n V L R)(d:yU V L R n=T):
 Calls S 20 #[.pointer (N ⟨B,0,F⟩),O o n c] w λe w'=>e=.returned (J Z 9)/\Below w.heap.size w w':=by
 have i:Hd (yU V L R n=T):=d;have j:Hd (TS w o b a n V L R):=h;clear h d;go_enter func20,ntmps20;go_wp2_with fail;refine(YA o b a n c V L R w j.o).mono ?_;rintro e g ⟨rfl,f⟩;have k:Hd (Below w.heap.size w g):=f;clear f;rw[i.o];go_wp2_with fail;go_ret;exact⟨rfl,k.o⟩
theorem zce(B:Nat)(o:Option Addr)(b m n c:Nat)(V L R:Nat->Int)(f:Nat->Value)(w:World)(Z:w.rowIs B 61 82 f)(h:TS w o b m n V L R)(G:yU V L R n=E):
 Calls S 20 #[.pointer (N ⟨B,0,F⟩),O o n c] w (zhd B n V L R w):=by
 obtain⟨i1,H,D,C,A⟩:=info_parts infoPlc;have hn:=(XR G).1;have HP:Hd (yU V L R n=E):=G;have HI:Hd (TS w o b m n V L R):=h;have HB:Hd (w.rowIs B 61 82 f):=Z;clear h G Z;go_enter func20,ntmps20;go_wp2_with fail;refine(YA o b m n c V L R w HI.o).mono ?_;rintro e a ⟨rfl,x⟩;have X:Hd (Below w.heap.size w a):=x;have z:Hd (TS a o b m n V L R):=HI.o.below x;have p:=HB.o.of_block (x.block B HB.o.lt);have y:=p.lt;have s:=x.size;have HC:Hd (a.cell? ⟨B,81,F⟩=N (f 81)/\a.frozen? ⟨B,81,F⟩=T):=⟨p.cell ol,p.frozen 81⟩;clear x p;rw[HP.o];have hO:Hd ((a.alloc (U #[] 96)).ownsRow a.heap.size 96 3 (O (N ⟨a.heap.size,0,F⟩) 0 0) 0 []):=World.ownsRow_made a #[] 0 (Nat.le_refl _) (Nat.zero_le _) rfl;have hS:Hd (0<n->∃ad,o=N ad/\∀j u,(plC V L R n)[j]?=N u->(a.alloc (U #[] 96)).cell? (ad.add j)=N u):=z.o.src (λi hi=>World.cell?_alloc_lt _ _ _ (z.o.lt hi));have hG:Hd (∀l,(a.alloc (U #[] 96)).grownBy l (N a.heap.size)->l.cell? ⟨B,81,F⟩=N (f 81)/\l.frozen? ⟨B,81,F⟩=T):=λl hg=>by
  have t:N (⟨B,81,F⟩:Addr).block≠N a.heap.size:=ow;have v:(⟨B,81,F⟩:Addr).block<(a.alloc (U #[] 96)).heap.size:=ow;refine⟨?_,?_⟩
  ·rw[hg.cell_far _ v t,World.cell?_alloc_lt _ _ _ y];exact HC.o.1
  ·rw[hg.frozen_far _ v t,World.frozen?_alloc_past _ _ _ y];exact HC.o.2
 have P:Hd (0+n<=maxLen):=sx;have K:Hd ((0+n)*24<=140737488355328):=oz;have J:Hd (a.heap.size<=(a.alloc (U #[] 96)).heap.size):=by show a.heap.size<=(a.alloc _).heap.size;simp
 go_wp2_with (at_builtin;refine XC _ _ _ _ rfl a.heap.size 96 i1 _ 3 24 underlying29 H D C A rfl oq (O (N ⟨a.heap.size,0,F⟩) 0 0) _ _ rfl hO.o o n c (plC V L R n) rfl (jM V L R n) hS.o (zfi V L R n) P.o K.o J.o (a.heap.size+1) ot rfl ?_;intro Y q l r d I;obtain⟨y3,yz⟩:=hG.o l d)
 have Q:Hd (l.ownsRow w.heap.size 96 3 (O Y n q) n (plC V L R n)):=by
  have:=r
  rw[Nat.zero_add,List.nil_append]at this;exact⟨this.1,this.2.imp id λ⟨g,q,cur,h1,h2,h3⟩=>⟨g,q,cur,h1,Nat.le_trans s h2,h3⟩⟩
 have W:Hd (Below w.heap.size w l):=(X.o.alloc s _).grown d ow (λk hk=>by cases hk;exact s);clear r d I;go_wp2_with fail;go_ret;exact⟨rfl,l,Y,q,W.o,Q.o,rfl⟩
section
structure Kp (B:Nat) (w w':World):Prop where
 size:w.heap.size<=w'.heap.size
 block:∀b,b≠B->b<w.heap.size->w'.heap[b]?=w.heap[b]?
theorem Kp.of_below{B:Nat}{w w':World}(h:Below w.heap.size w w'):Kp B w w':=⟨h.size,λb _ hb=>h.block b hb⟩
theorem Kp.set{B:Nat}{w w':World}(h:Kp B w w')(i:Nat)(v:Value):Kp B w (w'.setCell ⟨B,i,F⟩ v) :=
 ⟨by rw[World.size_setCell];exact h.size,λb hb hl=>by rw[za hb];exact h.block b hb hl⟩
def QZ(w:World)(G:Nat->Prop)(v:Value)(C:List Int):Prop:=∃o c b off,v=O o C.length c/\CS w w.heap.size o b off C/\(0<C.length->G b/\∃cs fr,w.heap[b]?=N (U cs 5 fr))
def Zk(w:World)(G:Nat->Prop)(v:Value)(l:List Int):Prop:=∃o c,v=O o l.length c/\(0<l.length->∃b off,o=N ⟨b,off,F⟩/\G b/\(∃cs fr,w.heap[b]?=N (U cs 3 fr))/\∀i x,l[i]?=N x->w.cell? ⟨b,off+i,F⟩=N (J Z x))
def QX(w:World)(G:Nat->Prop)(v:Value)(V L R:Nat->Int)(n:Nat):Prop:=∃o c b off,v=O o n c/\TS w o b off n V L R/\(0<n->G b/\∃cs fr,w.heap[b]?=N (U cs 96 fr))
section
variable {w w':World} {G G':Nat->Prop} {v:Value}
theorem QZ.of{C:List Int}(h:QZ w G v C)(m:w.heap.size<=w'.heap.size)(n:∀b,G b->b<w.heap.size->G' b)(j:∀b cs fr,G b->w.heap[b]?=N (U cs 5 fr)->w'.heap[b]?=w.heap[b]?):QZ w' G' v C:=by
 obtain⟨o,c,b,g,l,e,k⟩:=h;refine⟨o,c,b,g,l,⟨e.at_,λd=>Nat.lt_of_lt_of_le (e.lt d) m,λi x hx=>?_,e.byt⟩,λd=>?_⟩
 ·have d:0<C.length:=by have:=(List.getElem?_eq_some_iff.1 hx).1;omega
  obtain⟨f,cs,fr,a⟩:=k d;rw[World.cell?_of_block (j b cs fr f a)];exact e.val i x hx
 ·obtain⟨f,cs,fr,a⟩:=k d;exact⟨n b f (lt_of_block a),cs,fr,(j b cs fr f a).trans a⟩
theorem Zk.of{l:List Int}(h:Zk w G v l)(m:∀b,G b->b<w.heap.size->G' b)(k:∀b cs fr,G b->w.heap[b]?=N (U cs 3 fr)->w'.heap[b]?=w.heap[b]?):Zk w' G' v l:=by
 obtain⟨o,c,g,j⟩:=h;refine⟨o,c,g,λh0=>?_⟩;obtain⟨b,a,p,f,⟨cs,fr,d⟩,n⟩:=j h0;have e:=k b cs fr f d;exact⟨b,a,p,m b f (lt_of_block d),⟨cs,fr,e.trans d⟩,λi x hx=>by rw[World.cell?_of_block e];exact n i x hx⟩
theorem QX.of{V L R:Nat->Int}{n:Nat}(h:QX w G v V L R n)(l:w.heap.size<=w'.heap.size)(p:∀b,G b->b<w.heap.size->G' b)(m:∀b cs fr,G b->w.heap[b]?=N (U cs 96 fr)->w'.heap[b]?=w.heap[b]?):QX w' G' v V L R n:=by
 obtain⟨o,c,b,f,k,d,j⟩:=h;have a:0<n->w'.heap[b]?=w.heap[b]?:=λh0=>by
  obtain⟨g,cs,fr,e⟩:=j h0;exact m b cs fr g e
 refine⟨o,c,b,f,k,⟨d.at_,λh0=>Nat.lt_of_lt_of_le (d.lt h0) l,λi hi=>?_,λi hi=>?_,λi hi=>?_⟩,λh0=>?_⟩
 ·rw[World.cell?_of_block (a ol)];exact d.val i hi
 ·rw[World.cell?_of_block (a ol)];exact d.len i hi
 ·rw[World.cell?_of_block (a ol)];exact d.reg i hi
 ·obtain⟨g,cs,fr,e⟩:=j h0;exact⟨p b g (lt_of_block e),cs,fr,(a h0).trans e⟩
theorem XT{base e a:Nat}{n:Nat}{b:List Value}{g:Nat}{c:Nat}(d:w.ownsRow base e a (O (N ⟨g,0,F⟩) n c) n b):∃cs fr,w.heap[g]?=N (U cs e fr):=by
 rcases d.2 with⟨h,_⟩|⟨g',_,cur,hv,_,hg,_⟩
 ·cases h
 ·cases hv;exact⟨cur,_,hg⟩
theorem Zk.own{base:Nat}{oo:Option Addr}{cap:Nat}{l:List Int}(a:w.ownsRow base 3 1 (O oo l.length cap) l.length (l.map (J Z)))(e:∀b,base<=b->G b):Zk w G (O oo l.length cap) l:=by
 refine⟨oo,cap,rfl,λh0=>?_⟩;obtain⟨g,c,d,f,j⟩:=a.form h0;cases d
 refine⟨g,0,rfl,e g f,XT a,λi x hx=>?_⟩;have h:=(List.getElem?_eq_some_iff.1 hx).1;rw[Nat.zero_add,a.cellAt i ol,List.getElem?_map,hx];rfl
end
theorem Zk.is_{w:World}{G:Nat->Prop}{v:Value}{l:List Int}(h:Zk w G v l):∃o c b off,v=O o l.length c/\IS w o b off l.length (λi=>(l[i]?).getD 0):=by
 obtain⟨o,c,a,d⟩:=h;rcases Nat.eq_zero_or_pos l.length with h0|h0
 ·exact⟨o,c,0,0,a,⟨λh=>ol,λh=>ol,λi hi=>ol⟩⟩
 ·obtain⟨b,off,g,_,⟨k,j,f⟩,e⟩:=d h0;refine⟨o,c,b,off,a,⟨λ_=>g,λ_=>lt_of_block f,λi hi=>?_⟩⟩;rw[e i _ (List.getElem?_eq_getElem hi),List.getElem?_eq_getElem hi];rfl
structure SV (w:World) (G:Nat->Prop) (B:Nat) (C:List Int) (dn:Nat->Bool) (al:Nat->List Int) (V L R:Nat->Int) (pl:Nat):Prop where
 ex:∃cv av pv,w.rowIs B 61 82 (svF cv dn av pv)/\QZ w G cv C/\(∀k,k<16->Zk w G (av k) (al k))/\QX w G pv V L R pl
 cl:C.length<=7000
 ll:∀k,k<16->(al k).length<=16
theorem Qx{w:World}{B b n:Nat}{t d:TypeId}{f:Nat->Value}{cs:Array Value}{fr:Nat×Nat}(h:w.rowIs B t n f)(a:w.heap[b]?=N (U cs d fr))(g:t≠d):b≠B:=λe=>by
 obtain⟨c,i,_⟩:=h;rw[e,i]at a;simp at a;exact g a.2.1
section
variable {w w':World} {G G':Nat->Prop} {B:Nat} {C:List Int} {dn:Nat->Bool} {al:Nat->List Int} {V L R:Nat->Int} {pl:Nat}
theorem SV.lt(h:SV w G B C dn al V L R pl):B<w.heap.size:=by
 obtain⟨_,_,_,a,_⟩:=h.ex;exact a.lt
theorem SV.of(h:SV w G B C dn al V L R pl)(d:w.heap.size<=w'.heap.size)(c:∀b,G b->b<w.heap.size->G' b)(f:w'.heap[B]?=w.heap[B]?)(a:∀b cs t fr,G b->t=3\/t=5\/t=96->w.heap[b]?=N (U cs t fr)->w'.heap[b]?=w.heap[b]?):SV w' G' B C dn al V L R pl:=by
 obtain⟨m,n,e,l,j,i,g⟩:=h.ex;exact⟨⟨m,n,e,l.of_block f,j.of d c (λb cs fr hb=>a b cs _ fr hb (.inr (.inl rfl))),λk hk'=>(i k hk').of c (λb cs fr hb=>a b cs _ fr hb (.inl rfl)),g.of d c (λb cs fr hb=>a b cs _ fr hb (.inr (.inr rfl)))⟩,h.cl,h.ll⟩
theorem SV.below(h:SV w G B C dn al V L R pl)(a:Below w.heap.size w w'):SV w' G B C dn al V L R pl :=
 h.of a.size (λ_ h _=>h) (a.block B h.lt) (λb _ _ _ _ _ h=>a.block b (lt_of_block h))
theorem SV.wk(h:SV w G B C dn al V L R pl)(a:∀b,G b->b<w.heap.size->G' b):SV w G' B C dn al V L R pl:=h.of (Nat.le_refl _) a rfl (λ_ _ _ _ _ _ _=>rfl)
theorem SV.data(h:SV w G B C dn al V L R pl)(a:Kp B w w'):∃cv av pv,w.rowIs B 61 82 (svF cv dn av pv)/\QZ w' G cv C/\(∀k,k<16->Zk w' G (av k) (al k))/\QX w' G pv V L R pl:=by
 obtain⟨cv,av,pv,c,f,e,d⟩:=h.ex;exact⟨cv,av,pv,c,f.of a.size (λ_ h _=>h) (λb _ _ _ hb=>a.block b (Qx c hb oq) (lt_of_block hb)),λk hk'=>(e k hk').of (λ_ h _=>h) (λb _ _ _ hb=>a.block b (Qx c hb oq) (lt_of_block hb)),d.of a.size (λ_ h _=>h) (λb _ _ _ hb=>a.block b (Qx c hb oq) (lt_of_block hb))⟩
theorem zc3(w:World)(G:Nat->Prop):SV (w.alloc (U sv0 61)) G w.heap.size [] (λ_=>T) (λ_=>[]) (λ_=>0) (λ_=>0) (λ_=>0) 0 :=
 ⟨⟨_,_,_,zbH w,⟨F,0,0,0,rfl,⟨λh=>absurd h (Nat.lt_irrefl _),λh=>absurd h (Nat.lt_irrefl _),λi x h=>by simp at h,λx h=>by cases h⟩,λh=>absurd h (Nat.lt_irrefl _)⟩,λ_ _=>⟨F,0,rfl,λh=>absurd h (Nat.lt_irrefl _)⟩,⟨F,0,0,0,rfl,⟨λh=>absurd h (Nat.lt_irrefl _),λh=>absurd h (Nat.lt_irrefl _),λi h=>absurd h (Nat.not_lt_zero _),λi h=>absurd h (Nat.not_lt_zero _),λi h=>absurd h (Nat.not_lt_zero _)⟩,λh=>absurd h (Nat.lt_irrefl _)⟩⟩,ot,λ_ _=>ot⟩
theorem SV.mark(h:SV w G B C dn al V L R pl){n:Nat}(o:n<64)(x:Bool):SV (w.setCell ⟨B,1+n,F⟩ (.bool x)) G B C (λi=>if i=n then x else dn i) al V L R pl:=by
 have d:Kp B w (w.setCell ⟨B,1+n,F⟩ (.bool x)):=Kp.set ⟨Nat.le_refl _,λ_ _ _=>rfl⟩ _ _;obtain⟨l,m,c,k,j,g,f⟩:=h.data d;refine⟨⟨l,m,c,(k.set (1+n) (.bool x)).congr (λi _=>?_),j,g,f⟩,h.cl,h.ll⟩;unfold svF;dsimp only
 by_cases e:i=1+n
 ·rw[if_pos e,if_neg ol,if_pos ol,if_pos ol]
 ·rw[if_neg e];by_cases b:i=0
  ·rw[if_pos b,if_pos b]
  ·rw[if_neg b,if_neg b];by_cases a:i<65
   ·rw[if_pos a,if_pos a,if_neg ol]
   ·rw[if_neg a,if_neg a]
theorem SV.alias(h:SV w G B C dn al V L R pl){k n:Nat}(H:k<16){a:World}{D:Nat->Int}{oo:Option Addr}{cap:Nat}(t:n<=16)(c:Below w.heap.size w a)(m:a.ownsRow w.heap.size 3 1 (O oo n cap) n (isC D n))(u:∀b,w.heap.size<=b->G b):
 SV (a.setCell ⟨B,65+k,F⟩ (O oo n cap)) G B C dn (λi=>if i=k then(List.range n).map D else al i) V L R pl:=by
 have v:=h.lt;have s:Kp B w (a.setCell ⟨B,65+k,F⟩ (O oo n cap)):=(Kp.of_below c).set _ _;obtain⟨A,E,q,l,z,y,x⟩:=h.data s;refine⟨⟨A,λi=>if i=k then O oo n cap else E i,q,((l.of_block (c.block B v)).set (65+k) (O oo n cap)).congr (λi hi=>?_),z,λj hj=>?_,x⟩,h.cl,λj hj=>?_⟩
 ·unfold svF;dsimp only
  by_cases e:i=65+k
  ·rw[if_pos e,if_neg ol,if_neg ol,if_pos ol,if_pos ol]
  ·rw[if_neg e];by_cases g:i=0
   ·rw[if_pos g,if_pos g]
   ·rw[if_neg g,if_neg g];by_cases f:i<65
    ·rw[if_pos f,if_pos f]
    ·rw[if_neg f,if_neg f];by_cases d:i<81
     ·rw[if_pos d,if_pos d,if_neg ol]
     ·rw[if_neg d,if_neg d]
 ·by_cases e:j=k
  ·simp only[if_pos e];have r:isC D n=((List.range n).map D).map (J Z):=(by simp[isC,List.map_map,Function.comp_def]);have o:((List.range n).map D).length=n:=ot;rw[r]at m;have p:Zk a (λb=>G b/\b≠B) (O oo ((List.range n).map D).length cap) ((List.range n).map D):=Zk.own (by rw[o];exact m) (λb c=>⟨u b c,ol⟩);rw[o]at p;exact p.of (λ_ h _=>h.1) λb _ _ l _=>za l.2
  ·simp only[if_neg e];exact y j hj
 ·by_cases e:j=k
  ·simp only[if_pos e];simpa using t
  ·simp only[if_neg e];exact h.ll j hj
theorem SV.locate(h:SV w G B C dn al V L R pl){c:World}{n:Nat}{o q p:Nat->Int}{oo:Option Addr}{cap:Nat}(m:Below w.heap.size w c)(k:c.ownsRow w.heap.size 96 3 (O oo n cap) n (plC o q p n))(s:∀b,w.heap.size<=b->G b):
 SV (c.setCell ⟨B,81,F⟩ (O oo n cap)) G B C dn al o q p n:=by
 have t:=h.lt;have r:Kp B w (c.setCell ⟨B,81,F⟩ (O oo n cap)):=(Kp.of_below m).set _ _;obtain⟨y,z,A,x,v,u,D⟩:=h.data r;refine⟨⟨y,z,O oo n cap,((x.of_block (m.block B t)).set 81 (O oo n cap)).congr (λi hi=>?_),v,u,?_⟩,h.cl,h.ll⟩
 ·unfold svF;by_cases e:i=81
  ·rw[if_pos e,if_neg ol,if_neg ol,if_neg ol]
  ·rw[if_neg e];by_cases j:i=0
   ·rw[if_pos j,if_pos j]
   ·rw[if_neg j,if_neg j];by_cases f:i<65
    ·rw[if_pos f,if_pos f]
    ·rw[if_neg f,if_neg f,if_pos ol,if_pos ol]
 ·obtain⟨g,d,l⟩:=Qn k;have a:0<n->(c.setCell ⟨B,81,F⟩ (O oo n cap)).heap[g]?=c.heap[g]?:=λh0=>za (by have:=l h0;omega)
  refine⟨oo,cap,g,0,rfl,⟨d.at_,λh0=>by rw[World.size_setCell];exact d.lt h0,λi hi=>?_,λi hi=>?_,λi hi=>?_⟩,λh0=>⟨s g (l h0),?_⟩⟩
  ·rw[World.cell?_of_block (a ol)];exact d.val i hi
  ·rw[World.cell?_of_block (a ol)];exact d.len i hi
  ·rw[World.cell?_of_block (a ol)];exact d.reg i hi
  ·rw[a h0];have:=d.at_ h0
   subst this;exact XT k
theorem SV.load(h:SV w G B C dn al V L R pl){d:World}{X:List Int}{oo:Option Addr}{cap:Nat}(o:X.length<=7000)(a:∀y∈X,0<=y/\y<256)(j:Below w.heap.size w d)(f:d.ownsRow w.heap.size 5 1 (O oo X.length cap) X.length (X.map (Value.int .u8)))(p:∀b,w.heap.size<=b->G b):
 SV (d.setCell ⟨B,0,F⟩ (O oo X.length cap)) G B X dn al V L R pl:=by
 have q:=h.lt;have m:Kp B w (d.setCell ⟨B,0,F⟩ (O oo X.length cap)):=(Kp.of_below j).set _ _;obtain⟨D,z,k,t,A,s,r⟩:=h.data m;refine⟨⟨O oo X.length cap,z,k,((t.of_block (j.block B q)).set 0 (O oo X.length cap)).congr (λi n=>?_),?_,s,r⟩,o,h.ll⟩
 ·unfold svF;by_cases e:i=0
  ·rw[if_pos e,if_pos e]
  ·rw[if_neg e,if_neg e,if_neg e]
 ·rcases Nat.eq_zero_or_pos X.length with h0|h0
  ·exact⟨oo,cap,0,0,rfl,⟨λh=>ol,λh=>ol,λi x hx=>by have:=(List.getElem?_eq_some_iff.1 hx).1;omega,a⟩,λh=>ol⟩
  ·obtain⟨g,c,l,v,u⟩:=f.form h0;cases l
   refine⟨_,cap,g,0,rfl,⟨λ_=>rfl,λ_=>by rw[World.size_setCell];exact u,λi x hx=>?_,a⟩,λ_=>⟨p g v,by rw[za (show g≠B by omega)];exact XT f⟩⟩;have n:=(List.getElem?_eq_some_iff.1 hx).1;rw[Nat.zero_add,World.cell?_of_block (za (show g≠B by omega)),f.cellAt i ol,List.getElem?_map,hx];rfl
end
end
theorem zg5:cpE ⟨#[]⟩≠0:=by decide +kernel
theorem zgr{v:WD}{dn:Nat->Bool}{al:Nat->List Int}{s:ByteArray}(a b d:Int)(k:v.dl=(dnL dn 64).length)(j:v.Dn=λi=>((dnL dn 64)[i]?).getD 0)(h:v.al=(List.range 16).map al)(g:yU v.V v.L v.R v.pl=E)(c:cpE s=0)(f:Zm a b d=E):
 quF a b d dn ((List.range 16).map al) v.V v.L v.R v.pl (cpX s)=(0,({ v with a:=a,b:=b,d:=d }:WD).an s)/\({ v with a:=a,b:=b,d:=d }:WD).right=E:=by
 have e:({ v with a:=a,b:=b,d:=d }:WD).right=E:=by
  unfold WD.right Zr;simp[f,g]
 have l:=(Xs c).2.2.1;refine⟨?_,e⟩;rw[<-zgo (by unfold Q2;rw[c];rfl) e];unfold quF WD.ru;rw[if_pos f,if_neg ol];simp only;rw[k,j,h]
end Go.Proofs.YtaebngpoagjafabGreat
