import Derived.Test.YtaebngpoagjafabGreatQ25
import Derived.Test.YtaebngpoagjafabGreatQ35
import Derived.Test.YtaebngpoagjafabGreatQ36
set_option maxRecDepth 100000
set_option maxHeartbeats 3200000
namespace Go.Proofs.YtaebngpoagjafabGreat
open Option renaming none → N,some → T
open Bool renaming true → S,false → E
open Proofs.Tryz renaming prog → A
open Proofs.Tryz
open Obj renaming cells → U
open Value renaming int → J, slice → O
open IntKind renaming i64 → Z
open Go.RowKit
attribute [local go_sem ↓] Go.wp_at_zero Go.wp_at_succ
def zY(a n:Int):Int:=a-a%M.p2 (32-n).toNat
theorem Qb{a n:Int}(c:0<=a)(h:a<4294967296):0<=zY a n/\zY a n<4294967296:=by
 have d:=M.p2_pos (32-n).toNat;have g:=Int.emod_nonneg a (b:=M.p2 (32-n).toNat) ol;have f:=Int.emod_add_mul_ediv a (M.p2 (32-n).toNat);have e:0<=M.p2 (32-n).toNat*(a / M.p2 (32-n).toNat):=Int.mul_nonneg ol (Int.ediv_nonneg c ol);unfold zY;omega
theorem M.known(v n:Int)(c:M.isA v=S):wrap64 (v / 2 ^ (32-n).toNat*2 ^ (32-n).toNat)=zY v n:=by
 obtain⟨a,f⟩:=M.isA_iff.1 c;rw[<-M.p2_eq];unfold zY;have g:=M.p2_pos (32-n).toNat;generalize M.p2 (32-n).toNat=m at *;have e:=Int.emod_add_mul_ediv v m;have h:=Int.mul_comm (v / m) m;have j:=Int.emod_nonneg v (b:=m) ol;have d:0<=v / m:=Int.ediv_nonneg a ol;have i:0<=m*(v / m):=Int.mul_nonneg ol d;rw[M.wrap64_in _ ol];omega
def Zm(a b d:Int):Bool:=M.isA a && (decide (0<=b) && (decide (b<=32) && (decide (0<=d) && decide (d<4294967296))))
theorem zcU(a n:Int)(w:World)(c:M.isA a=S)(i:0<=n)(h:n<=32):
 Calls A 103 #[J Z a,J Z n] w λe w'=>e=.returned (J Z (zY a n))/\w'=w:=by
 have b:=M.known a n c;have d:Hd _:=b;obtain⟨g,f⟩:=M.isA_iff.1 c;clear b;go_enter func103,ntmps103;go_wp2_with fail;go_ret;exact⟨by rw[<-d.o];rfl,rfl⟩
theorem xE(a b d:Int)(w:World):
 Calls A 27 #[J Z a,J Z b,J Z d] w λe w'=>e=.returned (.bool (Zm a b d))/\w'=w:=by
 have f:Hd (Zm a b d=(M.isA a && (decide (0<=b) && (decide (b<=32) && (decide (0<=d) && decide (d<4294967296)))))):=rfl;go_enter func27,ntmps27;go_wp2_with fail;refine(Xm a _).mono ?_;rintro e w' ⟨rfl,k⟩;subst w';generalize M.isA a=q at *;cases q with
 | false =>
  go_wp2_with fail;go_ret;exact⟨by rw[f.o];rfl,rfl⟩
 | true =>
  by_cases j:0<=b
  ·by_cases i:b<=32
   ·by_cases h:0<=d
    ·by_cases g:d<4294967296
     ·have c:Hd (Zm a b d=S):=(by show _=_;rw[f.o];simp[j,i,h,g]);go_wp2_with fail;go_ret;exact⟨by rw[c.o];rfl,rfl⟩
     ·have c:Hd (Zm a b d=E):=(by show _=_;rw[f.o];simp[g]);have l:decide (d<4294967296)=E:=decide_eq_false g;go_wp2_with fail;go_ret;exact⟨by rw[c.o];rfl,rfl⟩
    ·have c:Hd (Zm a b d=E):=(by show _=_;rw[f.o];simp[h]);have m:decide (0<=d)=E:=decide_eq_false h;go_wp2_with fail;go_ret;exact⟨by rw[c.o];rfl,rfl⟩
   ·have c:Hd (Zm a b d=E):=(by show _=_;rw[f.o];simp[i]);have n:decide (b<=32)=E:=decide_eq_false i;go_wp2_with fail;go_ret;exact⟨by rw[c.o];rfl,rfl⟩
  ·have c:Hd (Zm a b d=E):=(by show _=_;rw[f.o];simp[j]);have p:decide (0<=b)=E:=decide_eq_false j;go_wp2_with fail;go_ret;exact⟨by rw[c.o];rfl,rfl⟩
theorem Xg(ao:Option Addr)(b r n c:Nat)(V L R:Nat->Int)(w:World)(hn:n<=64)(W:TS w ao b r n V L R):
 Calls A 85 #[O ao n c] w λe w'=>(∃v,e=.returned v/\w'.ownsRow w.heap.size 94 2 v n (pc V L n))/\Below w.heap.size w w':=by
 obtain⟨i0,D,z,x,s⟩:=info_parts infoPrefix;have HS:Hd _:=W;clear W;go_enter func85,ntmps85;go_wp2_with fail;go_loopg [3,9] n (λq v y wr=>∃k:Nat,q+k=n/\y=J Z k/\wr.ownsRow w.heap.size 94 2 v k (pc V L k)/\Below w.heap.size w wr)
 case atStart=>exact⟨0,ol,rfl,⟨rfl,.inr ⟨w.heap.size,0,#[],rfl,Nat.le_refl _,zl _ rfl,Nat.le_refl _,oq,rfl,rfl⟩⟩,(Below.refl _ _).alloc (Nat.le_refl _) _⟩
 case round =>
  obtain⟨k,X,rfl,a,hb⟩:=hrel;have K:Hd (wr.ownsRow w.heap.size 94 2 u3 k (pc V L k)):=a;have p:Hd (Below w.heap.size w wr):=hb;clear a hb;by_cases h:k<n
  ·obtain rfl:=HS.o.at_ ol;have d:=HS.o.below p.o;have hv:=d.val k h;have hl:=d.len k h;have hr:=d.reg k h;have a1:b<wr.heap.size:=d.lt ol;have B:=p.o.size;have j:(k:Int)<(n:Int):=ol;have a0:(0:Int)<=(k:Int):=ol;have HP:Hd (pc V L (k+1)=pc V L k++[J Z (V k),J Z (L k)]):=rfl;clear d;generalize V k=v at *;generalize L k=l at *;generalize R k=rg at *;have G:Hd (k+1<=maxLen):=sx;have F:Hd ((k+1)*16<=140737488355328):=oz;have m:Hd (w.heap.size<=((wr.alloc (U #[J Z v,J Z l,J Z rg] 96)).alloc (U #[J Z v,J Z l] 94)).heap.size):=mc;have i:Hd (∀u∈[J Z v,J Z l],u.oneCell'=S):=λu hu=>by simp at hu;rcases hu with rfl|rfl<;>rfl
   go_wp2_with (at_builtin;refine wpList_append_lies _ rfl _ _ 98 rfl w.heap.size 94 i0 _ 2 16 underlying98 D z x s rfl oq u3 _ _ rfl ((K.o.alloc _).alloc _) ⟨wr.heap.size+1,0,N⟩ 1 1 [J Z v,J Z l] rfl rfl (World.news_of_block (cs:=#[J Z v,J Z l]) (t:=94) (fr:=(0,0)) (zl _ ot)) i.o (Nat.lt_succ_self 0) G.o F.o m.o (wr.heap.size+2) ot ?_;intro g H Q a f E Y)
   have P:Hd (Below w.heap.size w Q):=((p.o.alloc p.o.size _).alloc ow _).grown f m.o (λq X=>(K.o.lt q X).1);have I:Hd (Q.ownsRow w.heap.size 94 2 (O (T ⟨g,0,N⟩) (k+1) H) (k+1) (pc V L (k+1))):=(by show World.ownsRow _ _ _ _ _ _ _;rw[HP.o];exact a);clear a f E;go_roundg (gk-1)
   case measure=>omega
   case rel=>exact⟨k+1,ol,by go_num,I.o,P.o⟩
  ·have C:k=n:=(by omega);subst C;have j:¬(k:Int)<(k:Int):=ol;go_wp2_with fail;go_ret;exact⟨⟨_,rfl,K.o⟩,p.o⟩
def yU(V L R:Nat->Int)(n:Nat):Bool:=ZH R n && M.isMap V L n
theorem XR{V L R:Nat->Int}{n:Nat}(h:yU V L R n=S):n<=64/\ZH R n=S/\M.isMap V L n=S:=by
 simp only[yU,Bool.and_eq_true]at h;have a:=h.2;simp only[M.isMap,Bool.and_eq_true,decide_eq_true_eq]at a;exact⟨a.1,h.1,h.2⟩
theorem YA(Q:Option Addr)(b r n c:Nat)(V L R:Nat->Int)(w:World)(N:TS w Q b r n V L R):
 Calls A 43 #[O Q n c] w λe w'=>e=.returned (.bool (yU V L R n))/\Below w.heap.size w w':=by
 have D:Hd _:=N;clear N;by_cases a1:64<n
 ·have g:Hd (yU V L R n=E):=by show _=_;unfold yU M.isMap;simp;omega
  have x:(64:Int)<(n:Int):=ol;go_enter func43,ntmps43;go_wp2_with fail;go_ret;exact⟨by rw[g.o];rfl,Below.refl _ _⟩
 ·have x:(n:Int)<=64:=by omega
  go_enter func43,ntmps43;go_wp2_with fail;go_loopg [10] n (λq y wr=>∃k:Nat,q+k=n/\y=J Z k/\Hd (ZH R k=S)/\Below w.heap.size w wr)
  case atStart=>exact⟨0,ol,rfl,rfl,Below.refl _ _⟩
  case round =>
   obtain⟨k,hq,rfl,U,P⟩:=hrel;have p:Hd _:=P;clear P;by_cases f:k<n
   ·obtain rfl:=D.o.at_ ol;have a:=D.o.below p.o;have K:=a.val k f;have hl:=a.len k f;have hr:=a.reg k f;have a0:b<wr.heap.size:=a.lt ol;have z:=p.o.size;have s:(k:Int)<(n:Int):=ol;have Y:(0:Int)<=(k:Int):=ol;clear a;have d:Hd (∀o,Below w.heap.size w (wr.alloc o)):=λo=>p.o.alloc p.o.size o
    have j:Hd (¬(0<=R k/\R k<=99)->yU V L R n=E):=λh=>by unfold yU;rw[qp f h];rfl
    have G:Hd (0<=R k/\R k<=99->ZH R (k+1)=S):=λh=>by simp only[ZH];rw[U.o];simp[h.1,h.2]
    generalize V k=v at *;generalize L k=l at *;generalize R k=rg at *;by_cases h1:rg<0
    ·have g:=j.o ol;have m:Hd _:=g;clear g;go_wp2_with fail;go_ret;exact⟨by rw[m.o];rfl,d.o _⟩
    ·by_cases h2:99<rg
     ·have g:=j.o ol;have m:Hd _:=g;clear g;go_wp2_with fail;go_ret;exact⟨by rw[m.o];rfl,d.o _⟩
     ·have H:Hd (ZH R (k+1)=S):=G.o ol;have a3:0<=rg:=ol;have a2:rg<=99:=ol;clear h1 h2;go_wp2_with fail;go_roundg (gk-1)
      case measure=>omega
      case rel=>exact⟨k+1,ol,by go_num,H,d.o _⟩
   ·have C:k=n:=(by omega);subst C;have s:¬(k:Int)<(k:Int):=ol;go_wp2_with fail;refine(Xg _ b r k _ V L R _ ol (D.o.below p.o)).mono ?_;rintro e w2 ⟨⟨v,rfl,i⟩,u⟩;obtain⟨po,X,W,K,B,_,a⟩:=Yf i;subst K;have F:Hd _:=a;have d:Hd _:=p.o.trans (u.mono p.o.size);clear i u a;go_wp2_with fail;refine(XA _ X _ _ V L _ ol B F.o).mono ?_;rintro e w3 ⟨rfl,t⟩;have I:Hd _:=d.o.trans (t.mono d.o.size);have g:Hd (yU V L R k=M.isMap V L k):=(by show _=_;unfold yU;rw[U.o];rfl);clear t;go_wp2_with fail;go_ret;exact⟨by rw[g.o];rfl,I.o⟩
def Xi(V L R:Nat->Int)(n:Nat)(a:Int):Int:=if M.bestTo V L a n<0 then -1 else R (M.bestTo V L a n).toNat
theorem zaV(C:Option Addr)(b h n c:Nat)(V L R:Nat->Int)(a:Int)(w:World)(U:0<=a)(Q:a<4294967296)(z:yU V L R n=S)(y:TS w C b h n V L R):
 Calls A 104 #[O C n c,J Z a] w λe w'=>e=.returned (.tuple #[J Z (Xi V L R n a),J Z (M.depTo V L a n)])/\Below w.heap.size w w':=by
 have D:Hd _:=y;obtain⟨p,K,B⟩:=XR z;have W:Hd (∀i,i<n->M.isP (V i) (L i)=S):=λi hi=>by
  have:n<=64/\M.okTo V L n=S:=by simpa[M.isMap]using B
  exact(M.okTo_iff.1 this.2 i hi).1
 clear y z K B;go_enter func104,ntmps104;go_wp2_with fail;refine(Xg _ b h n _ V L R _ p D.o).mono ?_;rintro e Y ⟨⟨v,rfl,d⟩,m⟩;obtain⟨po,G,F,H,N,_,j⟩:=Yf d;subst H;have x:Hd _:=j;have s:Hd _:=m;clear d m j;go_wp2_with fail;refine(qS _ G _ _ V L _ _ U Q p x.o W.o).mono ?_;rintro e X ⟨rfl,l⟩;have g:Hd _:=s.o.trans (l.mono s.o.size);have q:Hd _:=D.o.below g.o;clear l;have P:=j6 (V:=V) (L:=L) (a:=a) n;have E:Hd (Xi V L R n a=if M.bestTo V L a n<0 then -1 else R (M.bestTo V L a n).toNat):=rfl;generalize M.bestTo V L a n=best at *;generalize hdp:M.depTo V L a n=dep at *;have r:Hd _:=hdp;clear hdp;by_cases u:best<0
 ·have f:Hd (Xi V L R n a=-1):=by show _=_;rw[E.o,if_pos u]
  go_wp2_with fail;go_ret2;exact⟨by rw[f.o,r.o];rfl,g.o⟩
 ·obtain⟨k,rfl⟩:∃k:Nat,best=k:=⟨best.toNat,ol⟩;have f:Hd (Xi V L R n a=R k):=by show _=_;rw[E.o,if_neg u,Int.toNat_natCast]
  have t:k<n:=ol;obtain rfl:=q.o.at_ ol;have I:=q.o.reg k t;have h1:(0:Int)<=(k:Int):=ol;have h2:¬(n:Int)<=(k:Int):=ol;clear u;go_wp2_with fail;go_ret2;exact⟨by rw[f.o,r.o];rfl,g.o⟩
def Zr(a b d:Int)(V L R:Nat->Int)(n:Nat):Bool:=Zm a b d && yU V L R n
theorem J5(a b d:Int)(i r j:Option Addr)(n p al s pl g l f:Nat)(V L R:Nat->Int)(w:World)(m:TS w j l f pl V L R):
 Calls A 56 #[.agg #[J Z a,J Z b,J Z d,O i n p,O r al s,O j pl g]] w λe w'=>e=.returned (.bool (Zr a b d V L R pl))/\Below w.heap.size w w':=by
 have v:Hd _:=m;have c:Hd (Below w.heap.size w (w.alloc (U #[J Z a,J Z b,J Z d,O i n p,O r al s,O j pl g] 31))):=(Below.refl _ _).alloc (Nat.le_refl _) _;clear m;have t:Hd (Zr a b d V L R pl=(Zm a b d && yU V L R pl)):=rfl;go_enter func56,ntmps56;go_wp2_with fail;refine(xE a b d _).mono ?_;rintro e w' ⟨rfl,u⟩;subst w';generalize Zm a b d=q at *;cases q with
 | false =>
  go_wp2_with fail;go_ret;exact⟨by rw[t.o];rfl,c.o⟩
 | true =>
  go_wp2_with fail;refine(YA _ l f pl _ V L R _ (v.o.below c.o)).mono ?_;rintro e x ⟨rfl,h⟩;have k:Hd _:=c.o.trans (h.mono c.o.size);clear h;go_wp2_with fail;go_ret;exact⟨by rw[t.o];rfl,k.o⟩
def dnTo(Dn:Nat->Int)(k i:Nat):Bool:=!ZE Dn (i:Int) k
def DA(Dn:Nat->Int)(k:Nat):Array Value:=Array.ofFn (λi:Fin 64=>Value.bool (dnTo Dn k i.val))
theorem Zh(Dn:Nat->Int)(k:Nat):(DA Dn k).size=64:=by simp[DA]
theorem J6(Dn:Nat->Int)(k i:Nat)(h:i<64):(DA Dn k)[i]?=T (.bool (dnTo Dn k i)):=by
 unfold DA;rw[Array.getElem?_ofFn];simp[h]
theorem zeS{Dn:Nat->Int}{k:Nat}(h:Dn k<0\/64<=Dn k):DA Dn (k+1)=DA Dn k:=by
 unfold DA;congr 1
 funext i
 unfold dnTo;simp only[ZE];have:(Dn k==(i.val:Int))=E:=by
  have:=i.isLt
  simp;omega
 rw[this];simp
theorem zhb{Dn:Nat->Int}{k n:Nat}(h:Dn k=n)(c:n<64):DA Dn (k+1)=(DA Dn k).setIfInBounds n (.bool S):=by
 apply Array.ext_getElem?
 intro i;rw[Array.getElem?_setIfInBounds];by_cases b:i<64
 ·rw[J6 Dn (k+1) i b];by_cases a:n=i
  ·subst a;rw[if_pos rfl,if_pos (by rw[Zh];exact c)];unfold dnTo;simp only[ZE,h];simp
  ·rw[if_neg a,J6 Dn k i b];unfold dnTo;simp only[ZE,h];have:((n:Int)==(i:Int))=E:=ow
   rw[this];simp
 ·rw[Array.getElem?_eq_none (by rw[Zh];omega),if_neg ol,Array.getElem?_eq_none (by rw[Zh];omega)]
theorem zbQ{a b c d e:Value}{D:Array Value}{f g h i j k u:Value}{n:Nat}(m:D.size=64)(l:n<64):(yO a b c d e D f g h i j k).setIfInBounds (5+n) u=yO a b c d e (D.setIfInBounds n u) f g h i j k:=by
 unfold yO;rw[yJ ow,ZZ ot];simp
theorem zbT{a b c d e:Value}{D:Array Value}{f g h i j k u:Value}:(yO a b c d e D f g h i j k).setIfInBounds 0 u=yO u b c d e D f g h i j k:=by
 unfold yO;rw[yJ ow,yJ ot];rfl
theorem zby{P:Program}{w:World}{g:Nat}{c:Array Value}{t:TypeId}{vs:List Value}(h:w.heap[g]?=T (U c t (0,0)))(b:vs.length=c.size)(a:∀v∈vs,v.oneCell'=S):(storeCells ⟨g,0,N⟩ vs).run P w=.ok () (w.setRow g vs.toArray):=by
 have:=run_storeCells_from (P:=P) g t vs 0 c w h ol a
 simpa using this
theorem qU{P:Program}(w:World){b:Array Oper}{rest:List Oper}{o:Oper}{a:Act}{Q:Exit->Act->World->Prop}(e:o.guard=N)(p:Operand)(t:TypeId)(l:o.op=.load t p)(g:Nat)(c:Array Value)(f:TypeId)(fr:Nat×Nat)(d:TypeDesc)(k:a.eval p=.pointer (T ⟨g,0,N⟩))(m:w.heap[g]?=T (U c f fr))(i:P.underlying t=T d)(n:(match d with|.struct _|.array _ _=>S|_=>E)=S)(hi:(P.info? t).map (·.size)=T c.size)(h:wpList P b Q rest (a.put o.dst (.agg c)) w):wpList P b Q (o::rest) a w:=by
 refine wpList_plain e λK hK=>?_
 have j:(Instr.loadAt t (.pointer (T ⟨g,0,N⟩))).run P w=.ok (.agg c) w:=by
  simp only[Instr.loadAt,Instr.sureAddr,Sem.run_bind,Sem.run_pure,Result.andThen];exact run_loadVar_row w g f t c fr d m i n hi
 unfold Oper.wp execOp;simp only[l,k,Sem.run_bind,j,Result.andThen_ok];exact hK _ _ h
theorem YU{f:Func}{p:Tmp}{d:TypeId}(h:f.results=#[.cell p d])(b:Array Value)(P:Program)(w:World)(a:Addr)(v:Value)(i:b.getD p undef=.pointer (T a))(g:(loadVar d a).run P w=.ok v w):(results f b).run P w=.ok v w:=by
 have c:(asAddr (b[p]?.getD undef)).run P w=.ok a w:=by
  have e:b[p]?.getD undef=b.getD p undef:=ot;rw[e,i];rfl
 simp only[results,h];simp[Sem.run_bind,Result.andThen];rw[c];exact g
theorem zbN{w:World}{g:Nat}{c c':Array Value}{t:TypeId}{fr:Nat×Nat}(h:w.heap[g]?=T (U c t fr)):(w.setRow g c').heap[g]?=T (U c' t fr):=by
 simp[World.setRow,Array.getElem?_modify,h]
theorem zbM{w:World}{g b:Nat}{c':Array Value}(h:b≠g):(w.setRow g c').heap[b]?=w.heap[b]?:=by
 simp only[World.setRow,Array.getElem?_modify];rw[if_neg ol]
theorem Ji{w:World}{g:Nat}{c':Array Value}:(w.setRow g c').heap.size=w.heap.size:=by simp[World.setRow]
theorem jG{B:Nat}{a w:World}{g:Nat}{c':Array Value}(h:Below B a w)(b:B<=g):Below B a (w.setRow g c'):=h.trans ⟨rfl,rfl,rfl,by rw[Ji];exact Nat.le_refl _,λk hk=>zbM ol⟩
theorem QC{a b c d e:Value}{D:Array Value}{f g h i j k:Value}(w:a.oneCell'=S)(u:b.oneCell'=S)(t:c.oneCell'=S)(s:d.oneCell'=S)(r:e.oneCell'=S)(l:∀v∈D.toList,v.oneCell'=S)(q:f.oneCell'=S)(p:g.oneCell'=S)(o:h.oneCell'=S)(hi:i.oneCell'=S)(n:j.oneCell'=S)(m:k.oneCell'=S):∀v∈(yO a b c d e D f g h i j k).toList,v.oneCell'=S:=by
 intro v hv;unfold yO at hv;simp only[Array.toList_append,List.mem_append]at hv;rcases hv with(hv|hv)|hv
 ·simp at hv;rcases hv with rfl|rfl|rfl|rfl|rfl<;>assumption
 ·exact l v hv
 ·simp at hv;rcases hv with rfl|rfl|rfl|rfl|rfl|rfl<;>assumption
theorem zau(Dn:Nat->Int)(k:Nat):∀v∈(DA Dn k).toList,v.oneCell'=S:=by
 intro v c;obtain⟨i,a⟩:=List.getElem?_of_mem c;rw[Array.getElem?_toList]at a;have b:i<64:=by
  have:=(Array.getElem?_eq_some_iff.1 a).1
  rwa [Zh]at this
 rw[J6 Dn k i b]at a;cases a
 rfl
theorem zeV(a d r p:Int)(b:Option Addr)(al c:Nat):((((Tryz.zeroCells118.toList.set 3 (J Z a)).set 4 (J Z d)).set 69 (O b al c)).set 70 (J Z r)).set 71 (J Z p)=(yO (O N 0 0) (J Z 0) (.bool E) (J Z a) (J Z d) (DA (λ_=>0) 0) (O b al c) (J Z r) (J Z p) (O N 0 0) (J Z 0) (J Z 0)).toList:=kr
theorem zf2(Dn:Nat->Int):DA (λ_=>0) 0=DA Dn 0:=rfl
def Y8(co:Option Addr)(cl cc:Nat)(a b d:Int)(Dn:Nat->Int)(k:Nat)(ao:Option Addr)(al ac:Nat)(V L R:Nat->Int)(pl:Nat):Array Value :=
 yO (O co cl cc) (J Z 0) (.bool E) (J Z (zY a b)) (J Z d) (DA Dn k) (O ao al ac) (J Z (Xi V L R pl (zY a b))) (J Z (M.depTo V L (zY a b) pl)) (O N 0 0) (J Z 86400) (J Z 0)
theorem zcP(a b d:Int)(t g po:Option Addr)(s dc al h pl F pb D db a3:Nat)(Dn:Nat->Int)(V L R:Nat->Int)(i:Option Addr)(j l:Nat)(w:World)(hA:M.isA a=S)(b0:0<=b)(b1:b<=32)(c5:s<=9223372036854775806)(hp:yU V L R pl=S)(hs:TS w po pb D pl V L R)(hd:IS w t db a3 s Dn):
 Calls A 57 #[O i j l,.agg #[J Z a,J Z b,J Z d,O t s dc,O g al h,O po pl F]] w λe w'=>e=.returned (.agg (Y8 i j l a b d Dn s g al h V L R pl))/\Below w.heap.size w w':=by
 have HS:Hd _:=hs;have HD:Hd _:=hd;obtain⟨k0,k1⟩:=Qb (n:=b) (M.isA_iff.1 hA).1 (M.isA_iff.1 hA).2;clear hs hd;go_enter func57,ntmps57;go_wp2_with fail;refine(zcU a b _ hA b0 b1).mono ?_;rintro e w' ⟨rfl,c1⟩;subst w';have I:Hd (Below w.heap.size w ((w.alloc (U #[J Z a,J Z b,J Z d,O t s dc,O g al h,O po pl F] 31)).alloc (U zeroCells118 118))):=((Below.refl _ _).alloc (Nat.le_refl _) _).alloc ot _;go_wp2_with fail;refine(zaV _ pb D pl _ V L R _ _ k0 k1 hp (HS.o.below I.o)).mono ?_;rintro e f ⟨rfl,B⟩;have a6:Hd _:=I.o.trans (B.mono I.o.size);have hx:f.heap[w.heap.size]?=T (U #[J Z a,J Z b,J Z d,O t s dc,O g al h,O po pl F] 31 (0,0)):=by
  rw[B.block _ ow,Below.heap_alloc _ _ _ ot];exact heap_alloc_new w _
 have HY:Hd (f.heap[w.heap.size+1]?=T (U zeroCells118 118 (0,0))):=by
  show _=_;rw[B.block _ ot];exact zl _ ot
 have Q:w.heap.size+1<f.heap.size:=lt_of_block HY.o;have W:w.heap.size<f.heap.size:=ol;have x2:f.cell? ⟨w.heap.size,2,N⟩=T (J Z d):=by simp[World.cell?,hx]
 have x4:f.cell? ⟨w.heap.size,4,N⟩=T (O g al h):=by simp[World.cell?,hx]
 have m:Hd (∀k,Y8 i j l a b d Dn k g al h V L R pl=yO (O i j l) (J Z 0) (.bool E) (J Z (zY a b)) (J Z d) (DA Dn k) (O g al h) (J Z (Xi V L R pl (zY a b))) (J Z (M.depTo V L (zY a b) pl)) (O N 0 0) (J Z 86400) (J Z 0)):=λ_=>rfl
 obtain⟨X,C⟩:∃X,Hd (X=f.alloc (U (yO (O N 0 0) (J Z 0) (.bool E) (J Z (zY a b)) (J Z d) (DA Dn 0) (O g al h) (J Z (Xi V L R pl (zY a b))) (J Z (M.depTo V L (zY a b) pl)) (O N 0 0) (J Z 0) (J Z 0)) 118)):=⟨_,rfl⟩;have a7:(storeCells ⟨f.heap.size,0,N⟩ (((((Tryz.zeroCells118.toList.set 3 (J Z (zY a b))).set 4 (J Z d)).set 69 (O g al h)).set 70 (J Z (Xi V L R pl (zY a b)))).set 71 (J Z (M.depTo V L (zY a b) pl)))).run A (f.alloc (U zeroCells118 118))=.ok () X:=by
  rw[C.o,zeV,zf2 Dn];exact run_storeCells_new (P:=A) f 118 zeroCells118 _ (by rw[xO (Zh _ _)];kernel_rfl) (by rw[xO (Zh _ _)];rfl) (by
   rw[Array.all_eq_true_iff_forall_mem];intro v hv;exact QC rfl rfl rfl rfl rfl (zau _ _) rfl rfl rfl rfl rfl rfl v (by simpa using hv))
 have x:Hd (X.heap[f.heap.size]?=T (U (yO (O N 0 0) (J Z 0) (.bool E) (J Z (zY a b)) (J Z d) (DA Dn 0) (O g al h) (J Z (Xi V L R pl (zY a b))) (J Z (M.depTo V L (zY a b) pl)) (O N 0 0) (J Z 0) (J Z 0)) 118 (0,0))):=by show _=_;rw[C.o];exact heap_alloc_new _ _
 have a4:Hd (∀k,k<f.heap.size->X.heap[k]?=f.heap[k]?):=λk hk=>by rw[C.o];exact Below.heap_alloc _ _ _ hk
 have b5:Hd (Below w.heap.size w X):=by show Below _ _ _;rw[C.o];exact a6.o.alloc a6.o.size _
 have g0:X.cell? ⟨f.heap.size,0,N⟩=T (O N 0 0):=by rw[cell_of_row _ _ _ _ _ _ x.o,xP oq];rfl
 have f0:X.frozen? ⟨f.heap.size,0,N⟩=E:=by simp[World.frozen?,x.o]
 have b3:X.cell? ⟨f.heap.size,73,N⟩=T (J Z 0):=by rw[cell_of_row _ _ 73 _ _ _ x.o];exact za5 (Zh _ _) 4
 have b4:X.frozen? ⟨f.heap.size,73,N⟩=E:=by simp[World.frozen?,x.o]
 have x3:X.cell? ⟨w.heap.size,3,N⟩=T (O t s dc):=by rw[World.cell?_of_block (a4.o _ W)];simp[World.cell?,hx]
 clear B hx;go_wp2_with fail;have c0:Hd (((X.setCell ⟨f.heap.size,0,N⟩ (O i j l)).setCell ⟨f.heap.size,73,N⟩ (J Z 86400)).heap[f.heap.size]?=T (U (Y8 i j l a b d Dn 0 g al h V L R pl) 118 (0,0))):=by
  show _=_;rw[zH (zH x.o),zbT,Qw (Zh _ _)];rfl
 have b8:Hd (Below w.heap.size w ((X.setCell ⟨f.heap.size,0,N⟩ (O i j l)).setCell ⟨f.heap.size,73,N⟩ (J Z 86400))):=(b5.o.setCell ox _).setCell ox _;have b9:Hd (((X.setCell ⟨f.heap.size,0,N⟩ (O i j l)).setCell ⟨f.heap.size,73,N⟩ (J Z 86400)).heap[w.heap.size+1]?=T (U zeroCells118 118 (0,0))):=by
  show _=_;rw[za ol,za ol,a4.o _ Q];exact HY.o
 clear g0 f0 b3 b4 x2 x3 x4 a7;generalize(X.setCell ⟨f.heap.size,0,N⟩ (O i j l)).setCell ⟨f.heap.size,73,N⟩ (J Z 86400)=w2 at *;go_loopg [39] s (λq y wr=>∃k:Nat,q+k=s/\y=J Z k/\wr.heap[f.heap.size]?=T (U (Y8 i j l a b d Dn k g al h V L R pl) 118 (0,0))/\wr.heap[w.heap.size+1]?=T (U zeroCells118 118 (0,0))/\Below w.heap.size w wr)
 case atStart=>exact⟨0,ol,rfl,c0.o,b9.o,b8.o⟩
 case round =>
  obtain⟨k,hq,rfl,a2,K,a1⟩:=hrel;have r:Hd _:=a2;have u:Hd _:=K;have z:Hd _:=a1;clear a2 K a1;by_cases a9:k<s
  ·have Y:(k:Int)<(s:Int):=(by omega);have c2:(0:Int)<=(k:Int):=ol;obtain rfl:=HD.o.at_ ol;have hv:=(HD.o.below z.o (HD.o.lt)).val k a9;by_cases h1:0<=Dn k
   ·by_cases h2:Dn k<64
    ·obtain⟨n,hn⟩:∃n:Nat,Dn k=n:=⟨(Dn k).toNat,ol⟩;have p:Hd (Y8 i j l a b d Dn (k+1) g al h V L R pl=(Y8 i j l a b d Dn k g al h V L R pl).setIfInBounds (5+n) (.bool S)):=by
      show _=_;rw[m.o,m.o,zbQ (Zh _ _) ol,zhb hn ol]
     rw[hn]at hv h1 h2;have c4:wr.cell? ⟨f.heap.size,5+n,N⟩=T (.bool (dnTo Dn k n)):=(by rw[cell_of_row _ _ _ _ _ _ r.o,m.o,za6 (Zh _ _) ol,J6 _ _ _ ol]);have c3:wr.frozen? ⟨f.heap.size,5+n,N⟩=E:=(by simp[World.frozen?,r.o]);clear hn;go_wp2_with fail;go_roundg (gk-1)
     case measure=>omega
     case rel=>exact⟨k+1,ol,by go_num,by rw[p.o];exact zH r.o,by rw[za ol];exact u.o,z.o.setCell ox _⟩
    ·have p:Hd (Y8 i j l a b d Dn (k+1) g al h V L R pl=Y8 i j l a b d Dn k g al h V L R pl):=(by show _=_;rw[m.o,m.o,zeS (.inr ol)]);have c6:decide (Dn k<64)=E:=decide_eq_false h2;go_wp2_with fail;go_roundg (gk-1)
     case measure=>omega
     case rel=>exact⟨k+1,ol,by go_num,by rw[p.o];exact r.o,u.o,z.o⟩
   ·have p:Hd (Y8 i j l a b d Dn (k+1) g al h V L R pl=Y8 i j l a b d Dn k g al h V L R pl):=(by show _=_;rw[m.o,m.o,zeS (.inl ol)]);have c7:decide (0<=Dn k)=E:=decide_eq_false h1;go_wp2_with fail;go_roundg (gk-1)
    case measure=>omega
    case rel=>exact⟨k+1,ol,by go_num,by rw[p.o];exact r.o,u.o,z.o⟩
  ·have b2:k=s:=(by omega);subst b2;have Y:¬(k:Int)<(k:Int):=ol;have H:Hd ((Y8 i j l a b d Dn k g al h V L R pl).size=75):=(by show _=_;rw[m.o];exact xO (Zh _ _));have a5:Hd ((storeCells ⟨w.heap.size+1,0,N⟩ (Y8 i j l a b d Dn k g al h V L R pl).toList).run A wr=.ok () (wr.setRow (w.heap.size+1) (Y8 i j l a b d Dn k g al h V L R pl).toList.toArray)):=zby (P:=A) (vs:=(Y8 i j l a b d Dn k g al h V L R pl).toList) u.o (by rw[Array.length_toList,H.o];rfl) (by rw[m.o];exact QC rfl rfl rfl rfl rfl (zau _ _) rfl rfl rfl rfl rfl rfl);obtain⟨c,HC⟩:∃c,Hd (Y8 i j l a b d Dn k g al h V L R pl=c):=⟨_,rfl⟩;rw[HC.o]at a5 H r;obtain⟨X2,G⟩:∃X2,Hd (X2=wr.setRow (w.heap.size+1) c.toList.toArray):=⟨_,rfl⟩;have a8:=a5.o;rw[<-G.o]at a8;have b7:Hd (Below w.heap.size w X2):=(by show Below _ _ _;rw[G.o];exact jG z.o ol);have b6:Hd (X2.heap[w.heap.size+1]?=T (U c 118 (0,0))):=(by show _=_;rw[G.o,zbN u.o]);have a0:(Tryz.prog.info? 118).map (·.size)=T c.size:=(by rw[H.o];kernel_rfl);have p:Hd _:=a0;clear a0;go_wp2_with (refine qU _ rfl (.tmp 8) 118 rfl f.heap.size c 118 (0,0) _ rfl r.o underlying118 rfl p.o ?_)
   exact bodyPost_ret (v:=.agg c) (YU results57 _ _ _ ⟨w.heap.size+1,0,N⟩ _ rfl (run_loadVar_row X2 _ _ _ _ _ _ b6.o underlying118 rfl p.o)) rfl ⟨by rw[HC.o],b7.o⟩
theorem zgx{C:List Int}{r:RD}(h:r.b=S):(nx C r).b=S:=by unfold nx;split<;>simp[h]
theorem zgw{C:List Int}{r:RD}(h:¬r.p<C.length):(nx C r).b=S:=by unfold nx;rw[if_neg h]
theorem zdj{C:List Int}{r:RD}(h:r.b=S):∀i,(Zt C r i).b=S:=by
 intro i;induction i with
 |zero=>exact h
 |succ i ih=>exact zgx ih
theorem yK{C:List Int}{r:RD}{k:Nat}{lo hi:Int}(h:r.b=S):(num C r k lo hi).b=S:=by
 unfold num;simp only;split
 ·rfl
 ·exact zdj h k
theorem zaZ{C:List Int}{r:RD}(h:r.b=S):∀i,(svR C r i).b=S:=by
 intro i;induction i with
 |zero=>exact h
 |succ i ih=>exact yK ih
theorem zfr{C:List Int}{r:RD}(h:r.b=S):∀i,(meR C r i).b=S:=by
 intro i;induction i with
 |zero=>exact h
 |succ i ih=>exact yK (yK ih)
theorem zfY{C:List Int}{r:RD}(h:r.b=S):∀i,(amR C r i).b=S:=by
 intro i;induction i with
 |zero=>exact h
 | succ i ih =>
  refine yK ?_;unfold amL;simp only;split
  ·exact yK (yK ih)
  ·rfl
theorem zfa{C:List Int}{r:RD}(h:r.b=S):∀i,(rgR C r i).b=S:=by
 intro i;induction i with
 |zero=>exact h
 |succ i ih=>exact yK (yK ih)
theorem ze2{W:RW}{C:List Int}{s:RT}(h:(zD W C s).1.r.b=E):s.r.p<C.length:=by
 refine Classical.byContradiction λhn=>?_
 have a:=zgw hn;have c:(zD W C s).1.r.b=S:=by
  simp only[zD];repeat' split
  ·exact zaZ (yK a) _
  ·unfold Zp;repeat' split
   all_goals exact zfr (yK a) _
  ·unfold yS;split<;>exact zaZ (yK a) _
  ·exact zfY (yK a) _
  ·exact zfa (yK a) _
  ·exact yK a
  ·exact yK a
  ·rfl
 rw[h]at c;cases c
theorem zgM{W:RW}{C:List Int}{r:RD}:∀n i k,chG W C r i n=T k->k<i+n:=by
 intro n;induction n with
 |zero=>intro i k h;simp[chG]at h
 | succ n ih =>
  intro i k h;simp only[chG]at h;split at h
  ·cases h;omega
  ·have:=ih (i+1) k h;omega
theorem zgl{W:RW}{C:List Int}{s:RT}(a:∀x∈C,0<=x/\x<256):(zD W C s).1.r.p<=s.r.p+70000:=by
 have f:=zgv C s.r;have g:=ZD C (nx C s.r) 1 1 16;have e:(cnR C (nx C s.r)).p=(num C (nx C s.r) 1 1 16).p:=rfl;obtain⟨_,c⟩:=qE a (nx C s.r);simp only[zD];repeat' split
 ·have:=Je C (cnR C (nx C s.r)) (cnN C (nx C s.r));simp only[ZC];omega
 ·have:=zgc C (cnR C (nx C s.r)) (cnN C (nx C s.r))
  unfold Zp;repeat' split
  all_goals (simp only;omega)
 ·unfold yS;split
  ·rename_i i hi
   have b:=zgM _ _ _ hi;have:=Je C (cnR C (nx C s.r)) (i+1)
   simp only at b⊢;omega
  ·have:=Je C (cnR C (nx C s.r)) (cnN C (nx C s.r));simp only;omega
 ·have b:=zgh C (cnR C (nx C s.r)) (cnN C (nx C s.r));unfold yw;simp only;have d:∀k,(arW C (cnR C (nx C s.r)) k).toNat<=65535:=λk=>by have:=XP a (amL C (amR C (cnR C (nx C s.r)) k));unfold arW;omega
  split
  ·omega
  ·have:=d (M.bestTo (arV C (cnR C (nx C s.r))) (arL C (cnR C (nx C s.r))) W.addr (cnN C (nx C s.r))).toNat
   omega
 ·have b:=zf7 C (cnR C (nx C s.r)) (cnN C (nx C s.r));have d:=zdf (W:=W) a (cnR C (nx C s.r)) (cnN C (nx C s.r));unfold Zc;simp only;omega
 ·have:=ZD C (nx C s.r) 3 1 86400;simp only[yB];omega
 ·have:=ZD C (nx C s.r) 1 0 15;simp only[ZY];omega
 ·simp only;omega
theorem ze1{W:RW}{C:List Int}{s:RT}(h:(zD W C s).2=E):(zD W C s).1.sv=s.sv:=by
 revert h
 simp only[zD];repeat' split
 ·intro h;cases h
 ·unfold Zp;repeat' split
  all_goals first|(intro h;cases h;done)|(intro _;rfl)
 ·unfold yS;split
  all_goals first|(intro h;cases h;done)|(intro _;rfl)
 ·intro _;rfl
 ·intro _;rfl
 ·intro _;rfl
 ·intro h;cases h
 ·intro _;rfl
def qh(w:World)(R:Int×(List Int×Int×Int))(r:Ending)(w':World):Prop:=Below w.heap.size w w'/\∃o m k,r=.returned (.tuple #[.agg #[O o m k,J Z R.2.2.1,J Z R.2.2.2],J Z R.1])/\(R.1≠0->o=N/\m=0/\k=0)/\(R.1=0->m=R.2.1.length/\w'.ownsRow w.heap.size 3 1 (O o m k) R.2.1.length (R.2.1.map (J Z)))
def zbP(a b d:Int)(Dn:Nat->Int)(dl:Nat)(al:List (List Int))(V L R:Nat->Int)(pl:Nat):RW:=⟨zY a b,d,dnTo Dn dl,al,Xi V L R pl (zY a b),M.depTo V L (zY a b) pl⟩
def rt0:RT:=⟨⟨0,E⟩,[],86400,0⟩
def ruF(a b d:Int)(Dn:Nat->Int)(dl:Nat)(al:List (List Int))(V L R:Nat->Int)(pl:Nat)(C:List Int)(fuel:Int):Int×(List Int×Int×Int) :=
 if fuel<0 then(9,[],0,0)else if Zr a b d V L R pl=S then Yp (zbP a b d Dn dl al V L R pl) C fuel.toNat rt0 else(9,[],0,0)
theorem ym{w:World}{g:Nat}{x y z x' y' z':Value}{t:TypeId}(h:w.heap[g]?=T (U #[x,y,z] t (0,0))):(((w.setCell ⟨g,0,N⟩ x').setCell ⟨g,1,N⟩ y').setCell ⟨g,2,N⟩ z').heap[g]?=T (U #[x',y',z'] t (0,0)):=by
 rw[zH (zH (zH h))];rfl
theorem JD(a b d:Int)(z u po:Option Addr)(m dc K pl H pb a4 db b5 ab a1:Nat)(al:List (List Int))(Dn:Nat->Int)(V L R:Nat->Int)(co:Option Addr)(cb I cc:Nat)(C:List Int)(j:Int)(w:World)(hC:C.length<=140737488355328)(hf:j<=9223372036854775807)(g0:m<=9223372036854775806)(f8:al.length<=9223372036854775807)(hs:TS w po pb a4 pl V L R)(hd:IS w z db b5 m Dn)(e2:AS w w.heap.size u ab a1 al)(c0:CS w w.heap.size co cb I C):
 Calls A 29 #[O co C.length cc,.agg #[J Z a,J Z b,J Z d,O z m dc,O u al.length K,O po pl H],J Z j] w (qh w (ruF a b d Dn m al V L R pl C j)):=by
 have HS:Hd _:=hs;have HD:Hd _:=hd;have h8:Hd _:=e2;have g8:Hd _:=c0;have h7:Hd _:=c0.byt;have b2:Hd (Below w.heap.size w ((w.alloc (U #[J Z a,J Z b,J Z d,O z m dc,O u al.length K,O po pl H] 31)).alloc (U #[O N 0 0,J Z 0,J Z 0] 42))):=((Below.refl _ _).alloc (Nat.le_refl _) _).alloc ot _;have e3:Hd (((w.alloc (U #[J Z a,J Z b,J Z d,O z m dc,O u al.length K,O po pl H] 31)).alloc (U #[O N 0 0,J Z 0,J Z 0] 42)).heap[w.heap.size]?=T (U #[J Z a,J Z b,J Z d,O z m dc,O u al.length K,O po pl H] 31 (0,0))):=by show _=_;rw[Below.heap_alloc _ _ _ ot];exact heap_alloc_new w _
 have c9:Hd (((w.alloc (U #[J Z a,J Z b,J Z d,O z m dc,O u al.length K,O po pl H] 31)).alloc (U #[O N 0 0,J Z 0,J Z 0] 42)).heap[w.heap.size+1]?=T (U #[O N 0 0,J Z 0,J Z 0] 42 (0,0))):=zl _ ot;have c7:Hd (ruF a b d Dn m al V L R pl C j=if j<0 then(9,[],0,0)else if Zr a b d V L R pl=S then Yp (zbP a b d Dn m al V L R pl) C j.toNat rt0 else(9,[],0,0)):=rfl
 -- the end,out of the result's block
 have Q:Hd (∀(we:World) (tm:Array Value) (x:Value) (t c n:Int),we.heap[w.heap.size+1]?=T (U #[x,J Z t,J Z c] 42 (0,0))->tm.getD 6 undef=.pointer (T ⟨w.heap.size+1,0,N⟩)->tm.getD 7 undef=J Z n->qh w (ruF a b d Dn m al V L R pl C j) (.returned (.tuple #[.agg #[x,J Z t,J Z c],J Z n])) we->bodyPost A f29 (qh w (ruF a b d Dn m al V L R pl C j)) .ret ⟨tm,[]⟩ we):=λwe tm x t c n h1 h2 h3 h4=>by
  refine bodyPost_ret (v:=.tuple #[.agg #[x,J Z t,J Z c],J Z n]) ?_ rfl h4;rw[results_cell_tmp results29,h2,h3];have h5:(asAddr (.pointer (T ⟨w.heap.size+1,0,N⟩))).run A we=.ok ⟨w.heap.size+1,0,N⟩ we:=rfl;have h6:=run_loadVar_row (P:=A) we (w.heap.size+1) 42 42 #[x,J Z t,J Z c] (0,0) _ h1 underlying42 rfl kr;rw[h5,Result.andThen_ok,h6,Result.andThen_ok]
 clear hs hd e2 c0;go_enter func29,ntmps29;by_cases f9:j<0
 ·have HE:Hd (ruF a b d Dn m al V L R pl C j=(9,[],0,0)):=by show _=_;rw[c7.o,if_pos f9]
  go_wp2_with fail;exact Q.o _ _ _ _ _ _ c9.o rfl rfl ⟨b2.o,N,0,0,by rw[HE.o],λ_=>⟨rfl,rfl,rfl⟩,λh=>by rw[HE.o]at h;cases h⟩
 ·have i1:0<=j:=by omega
  obtain⟨F,rfl⟩:∃F:Nat,j=F:=⟨j.toNat,ol⟩;go_wp2_with fail;refine(J5 a b d z u po m dc al.length K pl H pb a4 V L R _ (HS.o.below b2.o)).mono ?_;rintro e w1 ⟨rfl,a6⟩;have a5:Hd _:=b2.o.trans (a6.mono b2.o.size);have a2:Hd _:=(a6.block _ (lt_of_block e3.o)).trans e3.o;have D:Hd _:=(a6.block _ (lt_of_block c9.o)).trans c9.o;have d9:w.heap.size+1<w1.heap.size:=lt_of_block D.o;clear a6;cases hr:Zr a b d V L R pl with
  | false =>
   have HE:Hd (ruF a b d Dn m al V L R pl C F=(9,[],0,0)):=(by show _=_;rw[c7.o,if_neg ol,if_neg (by rw[hr];decide)]);have y0:w1.cell? ⟨w.heap.size+1,0,N⟩=T (O N 0 0):=(by rw[cell_of_row _ _ _ _ _ _ D.o];rfl);have y1:w1.cell? ⟨w.heap.size+1,1,N⟩=T (J Z 0):=(by rw[cell_of_row _ _ _ _ _ _ D.o];rfl);have y2:w1.cell? ⟨w.heap.size+1,2,N⟩=T (J Z 0):=(by rw[cell_of_row _ _ _ _ _ _ D.o];rfl);have z0:w1.frozen? ⟨w.heap.size+1,0,N⟩=E:=(by simp[World.frozen?,D.o]);have z1:w1.frozen? ⟨w.heap.size+1,1,N⟩=E:=(by simp[World.frozen?,D.o]);have z2:w1.frozen? ⟨w.heap.size+1,2,N⟩=E:=(by simp[World.frozen?,D.o]);clear hr;go_wp2_with fail;exact Q.o _ _ _ _ _ _ (ym D.o) rfl rfl ⟨((a5.o.setCell ox _).setCell ox _).setCell ox _,N,0,0,by rw[HE.o],λ_=>⟨rfl,rfl,rfl⟩,λh=>by rw[HE.o]at h;cases h⟩
  | true =>
   have b7:Zm a b d=S/\yU V L R pl=S:=(by simpa[Zr]using hr);have e1:M.isA a=S/\0<=b/\b<=32/\0<=d/\d<4294967296:=(by simpa[Zm]using b7.1);obtain⟨hA,b0,b1,d0,d1⟩:=e1;have g5:Hd _:=b7.2;obtain⟨W,HW⟩:∃W,Hd (W=zbP a b d Dn m al V L R pl):=⟨_,rfl⟩;have HE:Hd (ruF a b d Dn m al V L R pl C F=Yp W C F rt0):=(by show _=_;rw[c7.o,if_neg ol,if_pos hr,Int.toNat_natCast,HW.o]);have q0:w1.cell? ⟨w.heap.size,0,N⟩=T (J Z a):=(by rw[cell_of_row _ _ _ _ _ _ a2.o];rfl);have q1:w1.cell? ⟨w.heap.size,1,N⟩=T (J Z b):=(by rw[cell_of_row _ _ _ _ _ _ a2.o];rfl);have q2:w1.cell? ⟨w.heap.size,2,N⟩=T (J Z d):=(by rw[cell_of_row _ _ _ _ _ _ a2.o];rfl);have q3:w1.cell? ⟨w.heap.size,3,N⟩=T (O z m dc):=(by rw[cell_of_row _ _ _ _ _ _ a2.o];rfl);have q4:w1.cell? ⟨w.heap.size,4,N⟩=T (O u al.length K):=(by rw[cell_of_row _ _ _ _ _ _ a2.o];rfl);have q5:w1.cell? ⟨w.heap.size,5,N⟩=T (O po pl H):=(by rw[cell_of_row _ _ _ _ _ _ a2.o];rfl);clear hr b7;go_wp2_with fail;refine(zcP a b d z u po m dc al.length K pl H pb a4 db b5 Dn V L R co C.length cc _ hA b0 b1 g0 g5.o (HS.o.below a5.o) (HD.o.below a5.o HD.o.lt)).mono ?_;rintro e w2 ⟨rfl,c3⟩;have d4:Hd _:=a5.o.trans (c3.mono a5.o.size);have c8:Hd _:=(c3.block _ d9).trans D.o;have i0:w.heap.size+1<w2.heap.size:=lt_of_block c8.o;clear c3 q0 q1 q2 q3 q4 q5
   -- the run's own block
   have a9:Hd (Y8 co C.length cc a b d Dn m u al.length K V L R pl=yO (O co C.length cc) (J Z 0) (.bool E) (J Z W.addr) (J Z W.draw) (DA Dn m) (O u al.length K) (J Z W.reg) (J Z W.dep) (O N 0 0) (J Z 86400) (J Z 0)):=(by show _=_;rw[HW.o];rfl);have c6:Hd ((Y8 co C.length cc a b d Dn m u al.length K V L R pl).size=75):=(by show _=_;rw[a9.o];exact xO (Zh _ _));have e9:Hd (∀v∈(Y8 co C.length cc a b d Dn m u al.length K V L R pl).toList,v.oneCell'=S):=(by show∀v∈_,_;rw[a9.o];exact QC rfl rfl rfl rfl rfl (zau _ _) rfl rfl rfl rfl rfl rfl);generalize Y8 co C.length cc a b d Dn m u al.length K V L R pl=c at *;obtain⟨X,c5⟩:∃X,Hd (X=w2.alloc (U c 118)):=⟨_,rfl⟩;have i2:(storeCells ⟨w2.heap.size,0,N⟩ c.toList).run A (w2.alloc (U zeroCells118 118))=.ok () X:=by
    rw[c5.o];exact run_storeCells_new (P:=A) w2 118 zeroCells118 c (by rw[c6.o];kernel_rfl) (by rw[c6.o];rfl) (by
     rw[Array.all_eq_true_iff_forall_mem];intro v hv;exact e9.o v (by simpa using hv))
   have g1:c.size=75:=c6.o;have g3:Hd (X.heap[w2.heap.size]?=T (U c 118 (0,0))):=(by show _=_;rw[c5.o];exact heap_alloc_new _ _);have c4:Hd (Below (w.heap.size+2) w2 X):=(by show Below _ _ _;rw[c5.o];exact(Below.refl _ _).alloc ol _);have f0:Hd (∀k,k<w.heap.size->X.heap[k]?=w.heap[k]?):=λk hk=>(c4.o.block k ol).trans (d4.o.block k hk)
   have g6:Hd (RM X (w.heap.size+2) w2.heap.size co cb I cc C W (DA Dn m) (O u al.length K) (O N 0 0) rt0):=by
    refine⟨?_,Zh _ _,λi hi=>?_,World.ownsRow_nil _ _ _ _,ol,?_⟩
    ·rw[g3.o,a9.o];rfl
    ·rw[J6 _ _ _ hi,HW.o];rfl
    ·have h1:=g8.o.of_kept f0.o;exact⟨h1.at_,λh=>by have:=h1.lt h;omega,h1.val,h1.byt⟩
   have b3:Hd (W.al=al):=(by show _=_;rw[HW.o];rfl);have h9:Hd (AS X (w.heap.size+2) u ab a1 W.al):=by
    show AS _ _ _ _ _ _;rw[b3.o];have h1:=h8.o.of_kept f0.o;exact⟨h1.at_,λh=>by have:=h1.lt h;omega,λk l hl=>by
     obtain⟨lo,lc,h2,h3⟩:=h1.val k l hl;refine⟨lo,lc,h2,λh0=>?_⟩;obtain⟨lb,d6,h4,h5,h6⟩:=h3 h0;exact⟨lb,d6,h4,ol,h6⟩,h1.len⟩
   have g7:Hd (0<=W.draw):=(by show _<=_;rw[HW.o];exact d0);have f3:Hd (0<=W.addr/\W.addr<4294967296):=(by show _/\_;rw[HW.o];exact Qb (M.isA_iff.1 hA).1 (M.isA_iff.1 hA).2);clear a9 e9;go_wp2_with fail;go_loopg [2] F (λq y wr=>∃(s:RT) (sv:Value),y=J Z q/\Hd (Yp W C F rt0=Yp W C q s)/\RM wr (w.heap.size+2) w2.heap.size co cb I cc C W (DA Dn m) (O u al.length K) sv s/\s.sv=[]/\s.r.p<=C.length+70000/\q<=F/\Below (w.heap.size+2) w2 wr)
   case atStart=>exact⟨rt0,O none 0 0,rfl,rfl,g6.o,rfl,by simp[rt0],Nat.le_refl _,c4.o⟩
   case round =>
    obtain⟨s,sv,rfl,a8,hm,d7,i3,i4,c1⟩:=hrel;have HM:Hd _:=hm;have e4:Hd _:=d7;have d2:Hd _:=c1;have f1:Hd (AS wr (w.heap.size+2) u ab a1 W.al):=h9.o.of_kept (λk hk=>(c1.block k hk).trans (c4.o.block k hk).symm);clear hm d7 c1;have g9:Hd (Below w.heap.size w wr):=d4.o.trans (d2.o.mono ol);have a0:Hd (wr.heap[w.heap.size+1]?=T (U #[O N 0 0,J Z 0,J Z 0] 42 (0,0))):=(d2.o.block _ ol).trans c8.o;cases gk with
    | zero =>
     have G:Hd (ruF a b d Dn m al V L R pl C F=(11,[],0,0)):=(by show _=_;rw[HE.o,a8.o];rfl);have y0:wr.cell? ⟨w.heap.size+1,0,N⟩=T (O N 0 0):=(by rw[cell_of_row _ _ _ _ _ _ a0.o];rfl);have y1:wr.cell? ⟨w.heap.size+1,1,N⟩=T (J Z 0):=(by rw[cell_of_row _ _ _ _ _ _ a0.o];rfl);have y2:wr.cell? ⟨w.heap.size+1,2,N⟩=T (J Z 0):=(by rw[cell_of_row _ _ _ _ _ _ a0.o];rfl);have z0:wr.frozen? ⟨w.heap.size+1,0,N⟩=E:=(by simp[World.frozen?,a0.o]);have z1:wr.frozen? ⟨w.heap.size+1,1,N⟩=E:=(by simp[World.frozen?,a0.o]);have z2:wr.frozen? ⟨w.heap.size+1,2,N⟩=E:=(by simp[World.frozen?,a0.o]);go_wp2_with fail;exact Q.o _ _ _ _ _ _ (ym a0.o) rfl rfl ⟨((g9.o.setCell ox _).setCell ox _).setCell ox _,N,0,0,by rw[G.o],λ_=>⟨rfl,rfl,rfl⟩,λh=>by rw[G.o]at h;cases h⟩
    | succ f =>
     have i6:(0:Int)<((f+1:Nat):Int):=ol;have i5:((f+1:Nat):Int)-1=(f:Int):=ol;have f2:Hd (RM wr (w.heap.size+2) w2.heap.size co cb I cc C W (DA Dn m) (O u W.al.length K) sv s):=(by show RM _ _ _ _ _ _ _ _ _ _ _ _ _;rw[b3.o];exact HM.o);have g2:W.al.length<=9223372036854775807:=(by rw[b3.o];exact f8);have Y:=zc4 (w.heap.size+2) w2.heap.size co cb I cc C W (DA Dn m) u ab a1 K sv s wr ol e4.o g7.o f3.o.1 f3.o.2 f1.o g2 f2.o;rw[b3.o]at Y;have e5:Hd _:=Y;clear Y;have e8:Hd ((zD W C s).1.r.b=E->(zD W C s).1.r.p<=C.length+70000):=λh=>by have h1:=ze2 h;have h2:=zgl (W:=W) (s:=s) h7.o;omega
     have e6:Hd ((zD W C s).2=E->(zD W C s).1.sv=[]):=λh=>(ze1 h).trans e4.o
     have a7:Hd (Yp W C (f+1) s=if(zD W C s).1.r.b=S then(10,[],0,0)else if(zD W C s).2=S then(0,(zD W C s).1.sv,(zD W C s).1.ttl,(zD W C s).1.sc)else Yp W C f (zD W C s).1):=rfl;generalize hST:zD W C s=st at *;clear hST;obtain⟨t,d5⟩:=st;simp only at e8 e6 a7;go_wp2_with fail;refine(Calls.mono e5.o) ?_;rintro e w4 ⟨rfl,⟨f4,b8⟩,e0⟩;have a3:Hd _:=b8;have d3:Hd _:=d2.o.trans e0;have b6:Hd (Below w.heap.size w w4):=d4.o.trans (d3.o.mono ol);have B:Hd (w4.heap[w.heap.size+1]?=T (U #[O N 0 0,J Z 0,J Z 0] 42 (0,0))):=(d3.o.block _ ol).trans c8.o;have c2:=b8.c2;have y0:w4.cell? ⟨w.heap.size+1,0,N⟩=T (O N 0 0):=(by rw[cell_of_row _ _ _ _ _ _ B.o];rfl);have y1:w4.cell? ⟨w.heap.size+1,1,N⟩=T (J Z 0):=(by rw[cell_of_row _ _ _ _ _ _ B.o];rfl);have y2:w4.cell? ⟨w.heap.size+1,2,N⟩=T (J Z 0):=(by rw[cell_of_row _ _ _ _ _ _ B.o];rfl);have z0:w4.frozen? ⟨w.heap.size+1,0,N⟩=E:=(by simp[World.frozen?,B.o]);have z1:w4.frozen? ⟨w.heap.size+1,1,N⟩=E:=(by simp[World.frozen?,B.o]);have z2:w4.frozen? ⟨w.heap.size+1,2,N⟩=E:=(by simp[World.frozen?,B.o]);clear b8 e0;cases hbad:t.r.b with
     | true =>
      have G:Hd (ruF a b d Dn m al V L R pl C F=(10,[],0,0)):=(by show _=_;rw[HE.o,a8.o,a7.o,if_pos hbad]);rw[hbad]at c2;clear hbad;go_wp2_with fail;exact Q.o _ _ _ _ _ _ (ym B.o) rfl rfl ⟨((b6.o.setCell ox _).setCell ox _).setCell ox _,N,0,0,by rw[G.o],λ_=>⟨rfl,rfl,rfl⟩,λh=>by rw[G.o]at h;cases h⟩
     | false =>
      rw[hbad]at c2;cases d5 with
      | true =>
       have G:Hd (ruF a b d Dn m al V L R pl C F=(0,t.sv,t.ttl,t.sc)):=(by show _=_;rw[HE.o,a8.o,a7.o,if_neg (by rw[hbad];decide),if_pos rfl]);have i9:=a3.o.c72;have i8:=a3.o.c73;have i7:=a3.o.c74;obtain⟨so,sk,f5,_⟩:=zU a3.o.row;subst f5;clear hbad;go_wp2_with fail;refine Q.o _ _ _ _ _ _ (ym B.o) rfl rfl ⟨((b6.o.setCell ox _).setCell ox _).setCell ox _,so,t.sv.length,sk,by rw[G.o],λh=>by rw[G.o]at h;exact absurd rfl h,λ_=>?_⟩;rw[G.o];refine⟨rfl,?_⟩;have b4:w4.ownsRow w.heap.size 3 1 (O so t.sv.length sk) t.sv.length (t.sv.map (J Z)):=yC a3.o.row ol;have f7:(O so t.sv.length sk).ownBlock≠T (w.heap.size+1):=zi b4 B.o oq;refine zd b4 (λg hg=>?_);have b9:g≠w.heap.size+1:=λe=>f7 (by rw[<-e];exact hg)
       rw[za b9,za b9,za b9]
      | false =>
       have e7:Hd (Yp W C F rt0=Yp W C f t):=(by show _=_;rw[a8.o,a7.o,if_neg (by rw[hbad];decide),if_neg oq]);have f6:=e8.o hbad;have d8:=e6.o rfl;have g4:Hd _:=d8;clear hbad d8;go_wp2_with fail;go_roundg f
       case measure=>omega
       case rel=>exact⟨t,f4,by go_num,e7,a3.o,g4.o,f6,ol,d3.o⟩
end Go.Proofs.YtaebngpoagjafabGreat
