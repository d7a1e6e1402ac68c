import Derived.Test.YtaebngpoagjafabGreatQ01
import Derived.BigQuiet
import Derived.Deep.OwnRows
import Derived.Deep.QuietTactic
import Derived.Deep.RegionWith
import Derived.Laws.ResultCell
import Derived.Laws.StructEq
import Derived.Laws.Tables
import Derived.Test.YtaebngpoagjafabGreatRows
import Derived.WalkKit
import Derived.WalkLawsBesides
import Derived.WalkSpells
set_option maxRecDepth 100000
set_option maxHeartbeats 1000000
namespace Go.Proofs.YtaebngpoagjafabGreat
open Proofs.Tryz renaming prog → F
open Bool renaming false → N,true → S
open Option renaming some → T,none → P
open Proofs.Tryz
open Value renaming int → J, slice → O
open IntKind renaming i64 → Z
open Go.RowKit
theorem YT{k:IntKind}{a b:Int}(h:a=b):Ending.returned (.int k a)=.returned (.int k b):=by rw[h]
theorem Jd(n:Int)(w:World)(g:0<=n)(f:n<=32):
 Calls F 120 #[J Z n] w λe w'=>e=.returned (J Z (M.p2 (32-n).toNat))/\w'=w:=by
 go_enter func120,ntmps120;go_wp2
 go_loop [3,4] (λk i=>∃j:Nat,n+j<=32/\i=J Z (n+j)/\k=J Z (M.p2 j)) (λ_ i=>32-(intOf i).toNat)
 case atStart=>exact⟨0,ol,ot,rfl⟩
 case round =>
  obtain⟨j,c,rfl,rfl⟩:=hrel;have d:=M.p2_le (j:=j) ol;have b:=M.p2_pos j;by_cases a:n+j<32
  ·go_wp2
   go_round
   case rel=>exact⟨j+1,ol,by go_num,rfl⟩
   case measure=>simp[intOf];omega
  ·go_wp2
   go_ret;exact⟨YT (by congr 1;omega),rfl⟩
theorem Xq(n:Int)(w:World):
 Calls F 44 #[J Z n] w λe w'=>e=.returned (.bool (M.isA n))/\w'=w:=by
 by_cases c:0<=n
 ·by_cases b:n<4294967296
  ·have a:M.isA n=S:=(by simp[M.isA,c,b]);rw[a];clear a;go_enter func44,ntmps44;go_wp2
   go_ret;exact⟨rfl,rfl⟩
  ·have a:M.isA n=N:=(by simp[M.isA,b]);rw[a];clear a;go_enter func44,ntmps44;go_wp2
   go_ret;exact⟨rfl,rfl⟩
 ·have a:M.isA n=N:=by simp[M.isA,c]
  rw[a];clear a;go_enter func44,ntmps44;go_wp2
  go_ret;exact⟨rfl,rfl⟩
theorem Xm(n:Int)(w:World):
 Calls F 55 #[J Z n] w λe w'=>e=.returned (.bool (M.isA n))/\w'=w:=by
 by_cases c:0<=n
 ·by_cases b:n<4294967296
  ·have a:M.isA n=S:=(by simp[M.isA,c,b]);rw[a];clear a;go_enter func55,ntmps55;go_wp2
   go_ret;exact⟨rfl,rfl⟩
  ·have a:M.isA n=N:=(by simp[M.isA,b]);rw[a];clear a;go_enter func55,ntmps55;go_wp2
   go_ret;exact⟨rfl,rfl⟩
 ·have a:M.isA n=N:=by simp[M.isA,c]
  rw[a];clear a;go_enter func55,ntmps55;go_wp2
  go_ret;exact⟨rfl,rfl⟩
theorem YS(a b:Int)(w:World)(m:0<=a)(l:a<4294967296)(j:0<=b)(g:b<4294967296):
 Calls F 146 #[J Z a,J Z b] w λe w'=>e=.returned (J Z (M.sh a b))/\w'=w:=by
 go_enter func146,ntmps146;go_wp2
 go_loop [0,1,5] (λx y i=>∃(p q:Int) (k:Nat),k<=32/\0<=p/\p<4294967296/\0<=q/\q<4294967296/\x=J Z p/\y=J Z q/\i=J Z k/\Hd (M.shN k p q=M.sh a b)) (λ_ _ i=>(intOf i).toNat)
 case atStart=>exact⟨a,b,32,ol,m,l,j,g,rfl,rfl,rfl,rfl⟩
 case round =>
  obtain⟨p,q,k,v,u,t,s,r,rfl,rfl,rfl,d⟩:=hrel;cases k with
  | zero =>
   go_wp2
   go_ret;exact⟨YT (by rw[<-d.o];rfl),rfl⟩
  | succ k =>
   by_cases c:p=q
   ·subst c;go_wp2
    go_ret;exact⟨YT (by rw[<-d.o];simp[M.shN]),rfl⟩
   ·have f:(p != q)=S:=(by simpa using c);have n:Hd (M.shN k (p / 2) (q / 2)=M.sh a b):=(by have h:=d.o;simp only[M.shN,if_neg c]at h;exact h);clear d;go_wp2
    go_round
    case rel=>exact⟨p / 2,q / 2,k,ol,ol,ol,ol,ol,rfl,rfl,by go_num,n⟩
    case measure=>simp[intOf]
theorem M.wrap64_in(n:Int)(h:-9223372036854775808<=n/\n<=9223372036854775807):wrap64 n=n:=by unfold wrap64;omega
theorem zC{B:Nat}{a w:World}(h:Below B a w)(n:Nat):Below B a (w.drewN n):=⟨h.os,h.tape,h.output,h.size,h.block⟩
theorem xX(b:Bool)(v:Int)(w:World)(h:M.isA v=b):Calls F 44 #[J Z v] w λe w'=>e=.returned (.bool b)/\w'=w:=by
 rw[<-h];exact Xq v w
theorem ZM(b:Bool)(v:Int)(w:World)(h:M.isA v=b):Calls F 55 #[J Z v] w λe w'=>e=.returned (.bool b)/\w'=w:=by
 rw[<-h];exact Xm v w
theorem Xd(w:World)(o:Obj)(m:Nat):Below w.heap.size w ((w.alloc o).drewN m):=zC ((Below.refl _ _).alloc (Nat.le_refl _) _) m
theorem X0(v n:Int)(w:World):
 Calls F 83 #[.agg #[J Z v,J Z n]] w λe w'=>e=.returned (.bool (M.isP v n))/\Below w.heap.size w w':=by
 by_cases c:0<=n
 ·by_cases b:n<=32
  ·have i:=M.p2_pos (32-n).toNat;have h:=M.p2_le (j:=(32-n).toNat) ol;cases hA:M.isA v with
   | true =>
    have a:M.isP v n=(v%M.p2 (32-n).toNat==0):=(by simp[M.isP,c,b,hA,BEq.beq]);rw[a];clear a;obtain⟨g,f⟩:=M.isA_iff.1 hA;go_enter func83,ntmps83;go_wp2
    go_quiet ((first|(go_at_call 44;exact Calls.quiet_of_same (xX _ _ _ hA))|(go_at_call 120;exact Calls.quiet_of_same (Jd _ _ c b))))
    go_wp2
    go_ret;exact⟨rfl,Xd _ _ _⟩
   | false =>
    have a:M.isP v n=N:=(by simp[M.isP,hA]);rw[a];clear a;go_enter func83,ntmps83;go_wp2
    go_quiet ((go_at_call 44;exact Calls.quiet_of_same (xX _ _ _ hA)))
    go_wp2
    go_ret;exact⟨rfl,Xd _ _ _⟩
  ·have a:M.isP v n=N:=(by simp[M.isP,b]);rw[a];clear a;have d:decide (n<=32)=N:=decide_eq_false b;go_enter func83,ntmps83;go_wp2
   go_quiet (fail)
   go_wp2
   go_ret;exact⟨rfl,Xd _ _ _⟩
 ·have a:M.isP v n=N:=by simp[M.isP,c]
  rw[a];clear a;have d:decide (0<=n)=N:=decide_eq_false c;go_enter func83,ntmps83;go_wp2
  go_quiet (fail)
  go_wp2
  go_ret;exact⟨rfl,Xd _ _ _⟩
theorem M.shifts(v n:Int)(f:0<=n)(d:n<=32)(a:M.isA v=S):M.isP v n=(wrap64 (v / 2 ^ (32-n).toNat*2 ^ (32-n).toNat)==v):=by
 obtain⟨c,i⟩:=M.isA_iff.1 a;rw[<-M.p2_eq];have j:=M.p2_pos (32-n).toNat;generalize hm:M.p2 (32-n).toNat=m at *;have e:=Int.emod_add_mul_ediv v m;have k:=Int.mul_comm (v / m) m;have o:=Int.emod_nonneg v (b:=m) ol;have h:0<=v / m:=Int.ediv_nonneg c ol;have l:0<=m*(v / m):=Int.mul_nonneg ol h;rw[M.wrap64_in _ ol];have g:(v%m=0)↔v / m*m=v:=ol;simp only[M.isP,hm,a,f,d,decide_true,Bool.true_and];rw[Bool.eq_iff_iff];simp[g]
theorem xg(v n:Int)(w:World):
 Calls F 121 #[.agg #[J Z v,J Z n]] w λe w'=>e=.returned (.bool (M.isP v n))/\Below w.heap.size w w':=by
 by_cases c:0<=n
 ·by_cases b:n<=32
  ·have h:=M.p2_pos (32-n).toNat;have g:=M.p2_le (j:=(32-n).toNat) ol;cases hA:M.isA v with
   | true =>
    obtain⟨f,d⟩:=M.isA_iff.1 hA;have a:M.isP v n=(wrap64 (v / 2 ^ (32-n).toNat*2 ^ (32-n).toNat)==v):=M.shifts v n c b hA;rw[a];clear a;go_enter func121,ntmps121;go_wp2
    go_quiet ((go_at_call 55;exact Calls.quiet_of_same (ZM _ _ _ hA)))
    go_wp2
    go_ret;exact⟨rfl,Xd _ _ _⟩
   | false =>
    have a:M.isP v n=N:=(by simp[M.isP,hA]);rw[a];clear a;go_enter func121,ntmps121;go_wp2
    go_quiet ((go_at_call 55;exact Calls.quiet_of_same (ZM _ _ _ hA)))
    go_wp2
    go_ret;exact⟨rfl,Xd _ _ _⟩
  ·have a:M.isP v n=N:=(by simp[M.isP,b]);rw[a];clear a;go_enter func121,ntmps121;go_wp2
   go_ret;exact⟨rfl,(Below.refl _ _).alloc (Nat.le_refl _) _⟩
 ·have a:M.isP v n=N:=by simp[M.isP,c]
  rw[a];clear a;go_enter func121,ntmps121;go_wp2
  go_ret;exact⟨rfl,(Below.refl _ _).alloc (Nat.le_refl _) _⟩
structure PS (w:World) (ao:Option Addr) (b n:Nat) (V L:Nat->Int):Prop where
 at_:0<n->ao=T ⟨b,0,P⟩
 lt:0<n->b<w.heap.size
 val:∀i,i<n->w.cell? ⟨b,i*2,P⟩=T (J Z (V i))
 len:∀i,i<n->w.cell? ⟨b,i*2+1,P⟩=T (J Z (L i))
theorem PS.below{w w':World}{ao b n V L}(h:PS w ao b n V L)(a:Below w.heap.size w w'):PS w' ao b n V L :=
 ⟨h.at_,λhn=>Nat.lt_of_lt_of_le (h.lt hn) a.size,λi hi=>by rw[a.cell (h.lt ol)];exact h.val i hi,λi hi=>by rw[a.cell (h.lt ol)];exact h.len i hi⟩
theorem PS.take{w:World}{ao b n V L}(h:PS w ao b n V L){m:Nat}(a:m<=n):PS w ao b m V L :=
 ⟨λh0=>h.at_ ol,λh0=>h.lt ol,λi hi=>h.val i ol,λi hi=>h.len i ol⟩
theorem ye{a b:Bool}(h:a=b):Ending.returned (.bool a)=.returned (.bool b):=by rw[h]
theorem JT{w wr b:World}{v m:Value}(c:Below wr.heap.size wr b)(a:w.heap.size<wr.heap.size)(d:Below w.heap.size w wr)(f:wr.cell? ⟨w.heap.size,0,P⟩=T v)(e:wr.cell? ⟨w.heap.size,1,P⟩=T m):
 b.cell? ⟨w.heap.size,0,P⟩=T v/\b.cell? ⟨w.heap.size,1,P⟩=T m/\w.heap.size<b.heap.size/\Below w.heap.size w b :=
 ⟨by rw[c.cell a];exact f,by rw[c.cell a];exact e,Nat.lt_of_lt_of_le a c.size,d.trans (c.mono (Nat.le_of_lt a))⟩
theorem jk(s:Option Addr)(b n c:Nat)(V L:Nat->Int)(v m:Int)(w:World)(y:n<=64)(g:PS w s b n V L):
 Calls F 122 #[O s n c,.agg #[J Z v,J Z m]] w λe w'=>e=.returned (.bool (M.inTo V L v m n))/\Below w.heap.size w w':=by
 go_enter func122,ntmps122;go_wp2
 go_loopw [9] (λi wr=>∃k:Nat,k<=n/\i=J Z k/\M.inTo V L v m k=N/\wr.cell? ⟨w.heap.size,0,P⟩=T (J Z v)/\wr.cell? ⟨w.heap.size,1,P⟩=T (J Z m)/\w.heap.size<wr.heap.size/\Below w.heap.size w wr) (λi _=>n-(intOf i).toNat)
 case atStart=>exact⟨0,ol,rfl,rfl,ot,ot,ot,(Below.refl _ _).alloc (Nat.le_refl _) _⟩
 case round =>
  obtain⟨k,A,rfl,j,r,q,a,f⟩:=hrel;by_cases d:k<n
  ·obtain rfl:=g.at_ ol;have x:=(g.below f).val k d;have z:=(g.below f).len k d;have u:b<wr.heap.size:=(g.below f).lt ol;have l:Hd (Below w.heap.size w wr):=f;clear g f;cases e1:(V k==v)with
   | true =>
    cases e2:(L k==m)with
    | true =>
     have t:Hd (M.inTo V L v m n=S):=M.inTo_hit d (by simpa using e1) (by simpa using e2);go_wp2
     go_ret;exact⟨ye t.o.symm,l.o.trans (Below.mono (B:=wr.heap.size) (by repeat(first|exact Below.refl _ _|refine zC ?_ _|refine Below.drew ?_|refine Below.alloc ?_ ot _|refine Below.setCell ?_ ot _)) (Nat.le_of_lt a))⟩
    | false =>
     have p:Hd (M.inTo V L v m (k+1)=N):=(by show _=_;simp[M.inTo,j,e2]);go_wp2
     go_roundw
     case rel=>exact⟨k+1,ol,by go_num,p,JT (by repeat(first|exact Below.refl _ _|refine zC ?_ _|refine Below.drew ?_|refine Below.alloc ?_ ot _|refine Below.setCell ?_ ot _)) a l.o r q⟩
     case measure=>simp[intOf];omega
   | false =>
    have p:Hd (M.inTo V L v m (k+1)=N):=(by show _=_;simp[M.inTo,j,e1]);go_wp2
    go_roundw
    case rel=>exact⟨k+1,ol,by go_num,p,JT (by repeat(first|exact Below.refl _ _|refine zC ?_ _|refine Below.drew ?_|refine Below.alloc ?_ ot _|refine Below.setCell ?_ ot _)) a l.o r q⟩
    case measure=>simp[intOf];omega
  ·have h:k=n:=(by omega);subst h;go_wp2
   go_ret;exact⟨ye j.symm,f⟩
theorem PS.drewN{w:World}{ao b n V L}(h:PS w ao b n V L)(m:Nat):PS (w.drewN m) ao b n V L:=⟨h.at_,h.lt,h.val,h.len⟩
theorem QM(a b c d:Int)(w:World):(Op.equalIn 10000 94 (.agg #[J Z a,J Z b]) (.agg #[J Z c,J Z d])).run F w=.ok (a==c && b==d) w:=by
 have i:=underlying3;have f:Tryz.prog.underlying 94=T (.struct (Tryz.prog.fieldsOf 94)):=kr;have e:Tryz.prog.stoodInHeld 94=N:=kr;rw[show(10000:Nat)=9999+1 from rfl,run_equalIn_agg w 9999 94 _ _ f e];simp only[Program.fieldsOf,underlying94];go_simp
 by_cases h:a=c<;>by_cases g:b=d<;>simp[h,g]
theorem xe(G:Option Addr)(b n c:Nat)(V L:Nat->Int)(w:World)(hn:n<=9223372036854775807)(x:PS w G b n V L):
 Calls F 41 #[O G n c] w λe w'=>e=.returned (.bool (M.isMap V L n))/\Below w.heap.size w w':=by
 by_cases r:n<=64
 ·go_enter func41,ntmps41;go_wp2
  go_loopw [3] (λi wr=>∃k:Nat,k<=n/\i=J Z k/\M.okTo V L k=S/\Below w.heap.size w wr) (λi _=>n-(intOf i).toNat)
  case atStart=>exact⟨0,ol,rfl,rfl,Below.refl _ _⟩
  case round =>
   obtain⟨k,hk,rfl,D,u⟩:=hrel;by_cases d:k<n
   ·obtain rfl:=x.at_ ol;have g:=x.below u;have K:=g.val k d;have W:=g.len k d;have X:b<wr.heap.size:=g.lt ol;have v:Hd (Below w.heap.size w wr):=u;have E:PS wr (T ⟨b,0,P⟩) b n V L:=g;clear x u g;cases e1:M.isP (V k) (L k)with
    | false =>
     have l:Hd (M.isMap V L n=N):=M.isMap_bad d (.inl e1);go_wp2_with fail;refine(X0 _ _ _).mono ?_;rintro e s ⟨rfl,f⟩;have t:Hd (Below w.heap.size w s):=v.o.trans (f.mono v.o.size);clear f;go_wp2_with fail;go_ret;exact⟨ye l.o.symm,t.o⟩
    | true =>
     go_wp2_with fail;refine(X0 _ _ _).mono ?_;rintro e s ⟨rfl,f⟩;have q:PS s (T ⟨b,0,P⟩) b n V L:=E.below f;have t:Hd (Below w.heap.size w s):=v.o.trans (f.mono v.o.size);clear f K W E;go_wp2_with fail;go_loopw [5] (λj wq=>∃i:Nat,i<=k/\j=J Z i/\M.inTo V L (V k) (L k) i=N/\PS wq (T ⟨b,0,P⟩) b n V L/\Below w.heap.size w wq) (λj _=>k-(intOf j).toNat)
     case atStart=>exact⟨0,ol,rfl,rfl,q,t⟩
     case round =>
      obtain⟨i,hi,rfl,C,h,m⟩:=hrel;clear q t;by_cases z:i<k
      ·have H:=h.val k d;have R:=h.len k d;have I:=h.val i ol;have U:=h.len i ol;have Y:(k:Int)<n:=ol;have iN:(i:Int)<n:=ol;have p:=λw=>QM (V k) (L k) (V i) (L i) w
       cases e3:(V k==V i && L k==L i)with
       | true =>
        rw[e3]at p;have l:Hd (M.isMap V L n=N):=M.isMap_bad d (.inr (M.inTo_hit z (by simp at e3;exact e3.1.symm) (by simp at e3;exact e3.2.symm)));clear e3;go_wp2_with fail;go_quiet (fail)
        go_wp2_with fail;go_ret;exact⟨ye l.o.symm,zC m _⟩
       | false =>
        rw[e3]at p;have B:Hd (M.inTo V L (V k) (L k) (i+1)=N):=by
         have Q:(V i==V k && L i==L k)=N:=(by rw[<-e3,Bool.beq_comm (a:=V i),Bool.beq_comm (a:=L i)]);show _=_;simp only[M.inTo,C,Q,Bool.or_false]
        clear e3;go_wp2_with fail;go_quiet (fail)
        go_wp2_with fail;go_roundw
        case rel=>exact⟨i+1,ol,by go_num,B,h.drewN _,zC m _⟩
        case measure=>simp[intOf];omega
      ·have A:i=k:=(by omega);subst A;have B:Hd (M.okTo V L (i+1)=S):=(by show _=_;simp[M.okTo,D,e1,C]);go_wp2_with fail;go_roundw
       case rel=>exact⟨i+1,ol,by go_num,B,m⟩
       case measure=>simp[intOf];omega
   ·have y:k=n:=(by omega);subst y;have l:Hd (M.isMap V L k=S):=(by show _=_;simp[M.isMap,D,r]);go_wp2
    go_ret;exact⟨ye l.o.symm,u⟩
 ·have l:Hd (M.isMap V L n=N):=by show _=_;simp[M.isMap,r]
  go_enter func41,ntmps41;go_wp2
  go_ret;exact⟨ye l.o.symm,Below.refl _ _⟩
theorem PS.drew{w:World}{ao b n V L}(h:PS w ao b n V L):PS w.drew ao b n V L:=⟨h.at_,h.lt,h.val,h.len⟩
theorem zgf{W a:World}(c:Below W.heap.size W a):∀b o,b<W.heap.size->a.cell? ⟨b,o,P⟩=W.cell? ⟨b,o,P⟩:=λb o h=>c.cell (p:=⟨b,o,P⟩) h
theorem XA(z:Option Addr)(b n c:Nat)(V L:Nat->Int)(w:World)(I:n<=9223372036854775807)(K:n<=c)(s:PS w z b n V L):
 Calls F 84 #[O z n c] w λe w'=>e=.returned (.bool (M.isMap V L n))/\Below w.heap.size w w':=by
 by_cases m:n<=64
 ·go_enter func84,ntmps84;go_wp2
  go_loopw [10] (λi wr=>∃k:Nat,k<=n/\i=J Z k/\M.okTo V L k=S/\Below w.heap.size w wr) (λi _=>n-(intOf i).toNat)
  case atStart=>exact⟨0,ol,rfl,rfl,Below.refl _ _⟩
  case round =>
   obtain⟨k,D,rfl,y,q⟩:=hrel;by_cases f:k<n
   ·obtain rfl:=s.at_ ol;have d:=s.below q;have B:=d.val k f;have C:=d.len k f;have E:b<wr.heap.size:=d.lt ol;have r:Hd (Below w.heap.size w wr):=q;have G:PS wr (T ⟨b,0,P⟩) b k V L:=d.take D;clear s q d;cases e1:M.isP (V k) (L k)with
    | false =>
     have h:Hd (M.isMap V L n=N):=M.isMap_bad f (.inl e1);go_wp2_with fail;refine(xg _ _ _).mono ?_;rintro e p ⟨rfl,a⟩;have j:Hd (Below w.heap.size w p):=r.o.trans ((((Below.refl _ _).alloc (Nat.le_refl _) _).trans (a.mono ot)).mono r.o.size);clear a;go_wp2_with fail;go_ret;exact⟨ye h.o.symm,j.o⟩
    | true =>
     go_wp2_with fail;refine(xg _ _ _).mono ?_;rintro e p ⟨rfl,a⟩;have l:PS p (T ⟨b,0,P⟩) b k V L:=(G.below ((Below.refl _ _).alloc (Nat.le_refl _) _)).below a;have x:=zgf a wr.heap.size 0 ot;have v:=zgf a wr.heap.size 1 ot;have j:Hd (Below w.heap.size w p):=r.o.trans ((((Below.refl _ _).alloc (Nat.le_refl _) _).trans (a.mono ot)).mono r.o.size);simp at x v;clear a B C;cases e2:M.inTo V L (V k) (L k) k with
     | true =>
      have h:Hd (M.isMap V L n=N):=M.isMap_bad f (.inr e2);go_wp2_with fail;go_region_with (go_at_call 122;refine(jk _ b k c V L _ _ _ ol (by exact l.drew)).mono ?_;rintro e u ⟨rfl,g⟩)
      all_goals
       go_wp2_with fail;go_ret;exact⟨ye h.o.symm,(j.o.drew).trans (g.mono j.o.size)⟩
     | false =>
      have H:Hd (M.okTo V L (k+1)=S):=(by show _=_;simp[M.okTo,y,e1,e2]);go_wp2_with fail;go_region_with (go_at_call 122;refine(jk _ b k c V L _ _ _ ol (by exact l.drew)).mono ?_;rintro e u ⟨rfl,g⟩)
      all_goals
       have A:Hd (Below w.heap.size w u):=(j.o.drew).trans (g.mono j.o.size);clear g x v;go_wp2_with fail;go_roundw
       case rel=>exact⟨k+1,ol,by go_num,H,A⟩
       case measure=>simp[intOf];omega
   ·have t:k=n:=(by omega);subst t;have h:Hd (M.isMap V L k=S):=(by show _=_;simp[M.isMap,y,m]);go_wp2
    go_ret;exact⟨ye h.o.symm,q⟩
 ·have h:Hd (M.isMap V L n=N):=by show _=_;simp[M.isMap,m]
  go_enter func84,ntmps84;go_wp2
  go_ret;exact⟨ye h.o.symm,Below.refl _ _⟩
theorem M.step_best(V L:Nat->Int)(a:Int)(k:Nat)(x:Int)(h:x=if L k<=M.sh (V k) a/\M.bitsTo V L a k<L k then(k:Int)else M.bestTo V L a k):M.bestTo V L a (k+1)=x:=by rw[h];rfl
theorem M.step_bits(V L:Nat->Int)(a:Int)(k:Nat)(x:Int)(h:x=if L k<=M.sh (V k) a/\M.bitsTo V L a k<L k then L k else M.bitsTo V L a k):M.bitsTo V L a (k+1)=x:=by rw[h];rfl
theorem M.step_dep(V L:Nat->Int)(a:Int)(k:Nat)(x b:Int)(c:M.need V L a k=b)(h:x=if M.depTo V L a k<b then b else M.depTo V L a k):M.depTo V L a (k+1)=x:=by rw[h,<-c];rfl
theorem yy{a b:Int}(h:a=b):J Z b=J Z a:=by rw[h]
theorem qS(t:Option Addr)(b n c:Nat)(V L:Nat->Int)(a:Int)(w:World)(v:0<=a)(u:a<4294967296)(K:n<=64)(j:PS w t b n V L)(r:∀i,i<n->M.isP (V i) (L i)=S):
 Calls F 114 #[O t n c,J Z a] w λe w'=>e=.returned (.tuple #[J Z (M.bestTo V L a n),J Z (M.depTo V L a n)])/\Below w.heap.size w w':=by
 go_enter func114,ntmps114;go_wp2
 go_loopw [6,7,8,15] (λx y z i wr=>∃k:Nat,k<=n/\i=J Z k/\x=J Z (M.bestTo V L a k)/\y=J Z (M.bitsTo V L a k)/\z=J Z (M.depTo V L a k)/\Below w.heap.size w wr) (λ_ _ _ i _=>n-(intOf i).toNat)
 case atStart=>exact⟨0,ol,rfl,rfl,rfl,rfl,Below.refl _ _⟩
 case round =>
  obtain⟨k,P,rfl,rfl,rfl,rfl,g⟩:=hrel;by_cases f:k<n
  ·obtain rfl:=j.at_ ol;have d:=j.below g;have H:=d.val k f;have N:=d.len k f;have D:b<wr.heap.size:=d.lt ol;have h:Hd (Below w.heap.size w wr):=g;obtain⟨G,E,q,p,_⟩:=M.isP_iff.1 (r k f);have A:=M.sh_le (V k) a;clear j g d r;by_cases s:(M.sh (V k) a:Int)<L k
   ·have m:Hd (M.need V L a k=M.sh (V k) a+1):=(by show _=_;unfold M.need;rw[if_pos s]);by_cases C:M.depTo V L a k<M.sh (V k) a+1
    all_goals
     go_wp2_with (go_at_call 146;refine(YS _ _ _ q p v u).mono ?_;rintro e w' ⟨rfl,rfl⟩)
     go_roundw
     case rel=>exact⟨k+1,ol,by go_num,yy (M.step_best _ _ _ _ _ (by rw[if_neg ol])),yy (M.step_bits _ _ _ _ _ (by rw[if_neg ol])),yy (M.step_dep _ _ _ _ _ _ m.o (by split<;>omega)),h.o.trans (Below.mono (B:=wr.heap.size) (by repeat(first|exact Below.refl _ _|refine zC ?_ _|refine Below.drew ?_|refine Below.alloc ?_ ot _|refine Below.setCell ?_ ot _)) h.o.size)⟩
     case measure=>simp[intOf];omega
   ·have m:Hd (M.need V L a k=L k):=(by show _=_;unfold M.need;rw[if_neg s]);by_cases C:M.depTo V L a k<L k
    all_goals
     by_cases I:M.bitsTo V L a k<L k
     all_goals
      go_wp2_with (go_at_call 146;refine(YS _ _ _ q p v u).mono ?_;rintro e w' ⟨rfl,rfl⟩)
      go_roundw
      case rel=>exact⟨k+1,ol,by go_num,yy (M.step_best _ _ _ _ _ (by split<;>omega)),yy (M.step_bits _ _ _ _ _ (by split<;>omega)),yy (M.step_dep _ _ _ _ _ _ m.o (by split<;>omega)),h.o.trans (Below.mono (B:=wr.heap.size) (by repeat(first|exact Below.refl _ _|refine zC ?_ _|refine Below.drew ?_|refine Below.alloc ?_ ot _|refine Below.setCell ?_ ot _)) h.o.size)⟩
      case measure=>simp[intOf];omega
  ·have l:k=n:=(by omega);subst l;go_wp2
   go_ret2;exact⟨rfl,g⟩
theorem zeM(g:Option Addr)(b n c:Nat)(V L:Nat->Int)(a:Int)(w:World)(i:n<=9223372036854775807)(j:n<=c)(f:PS w g b n V L)(h:M.isA a=N\/M.isMap V L n=N):
 Calls F 60 #[O g n c,J Z a] w λe w'=>e=.returned (.tuple #[J Z 0,J Z 0,J Z 9])/\Below w.heap.size w w':=by
 cases hA:M.isA a with
 | false =>
  clear h f;go_enter func60,ntmps60;go_wp2_with fail;refine(ZM N _ _ hA).mono ?_;rintro e w' ⟨rfl,rfl⟩;go_wp2_with fail;go_ret3
  exact⟨rfl,Below.refl _ _⟩
 | true =>
  have l:M.isMap V L n=N:=by simpa[hA]using h
  clear h;go_enter func60,ntmps60;go_wp2_with fail;refine(ZM S _ _ hA).mono ?_;rintro e w' ⟨rfl,rfl⟩;go_wp2_with fail;refine(XA _ b _ _ V L _ i j f).mono ?_;rintro e k ⟨rfl,d⟩;go_wp2_with fail;go_ret3
  exact⟨rfl,d⟩
theorem zeL(m:Option Addr)(b n c:Nat)(V L:Nat->Int)(a:Int)(w:World)(p:n<=c)(j:PS w m b n V L)(l:M.isA a=S)(r:M.isMap V L n=S):
 Calls F 60 #[O m n c,J Z a] w λe w'=>e=.returned (.tuple #[J Z (M.bestTo V L a n),J Z (M.depTo V L a n),J Z 0])/\Below w.heap.size w w':=by
 obtain⟨t,s⟩:=M.isA_iff.1 l;have k:n<=64/\M.okTo V L n=S:=by simpa[M.isMap]using r
 have q:Hd (∀i,i<n->M.isP (V i) (L i)=S):=λi hi=>(M.okTo_iff.1 k.2 i hi).1
 obtain⟨h,_⟩:=k;go_enter func60,ntmps60;go_wp2_with fail;refine(ZM S _ _ l).mono ?_;rintro e w' ⟨rfl,rfl⟩;go_wp2_with fail;refine(XA _ b _ _ V L _ ol p j).mono ?_;rintro e v ⟨rfl,d⟩;have f:=j.below d;go_wp2_with fail;refine(qS _ b _ _ V L _ _ t s h f q.o).mono ?_;rintro e u ⟨rfl,g⟩;go_wp2_with fail;go_ret3
 exact⟨rfl,d.trans (g.mono d.size)⟩
theorem M.match_iff{v n a:Int}(h:M.isP v n=S)(g:M.isA a=S):(a-a%M.p2 (32-n).toNat==v)=decide (n<=M.sh v a):=by
 obtain⟨l,k,d,c,o⟩:=M.isP_iff.1 h;have f:M.isA v=S:=M.isA_iff.2 ⟨d,c⟩;have m:=M.p2_pos (32-n).toNat;have j:=Int.mul_ediv_add_emod a (M.p2 (32-n).toNat);have p:=Int.mul_ediv_add_emod v (M.p2 (32-n).toNat);have e:32-n.toNat=(32-n).toNat:=ol;have b:=M.sh_iff (s:=n.toNat) ol f g;rw[e]at b;have i:(a-a%M.p2 (32-n).toNat=v)↔n<=M.sh v a:=by
  constructor
  ·intro h;have:M.p2 (32-n).toNat*(a / M.p2 (32-n).toNat)=M.p2 (32-n).toNat*(v / M.p2 (32-n).toNat):=ol
   have:=b.2 (Int.eq_of_mul_eq_mul_left ol this.symm)
   omega
  ·intro h;have:=b.1 ol
   rw[<-this]at j;omega
 rw[Bool.eq_iff_iff];simp[i]
theorem M.cut_iff{v s a:Int}(c:M.isA v=S)(d:M.isA a=S)(i:0<=s)(s1:s<=32):(v-v%M.p2 (32-s).toNat==a-a%M.p2 (32-s).toNat)=decide (s<=M.sh v a):=by
 have j:=M.p2_pos (32-s).toNat;have g:=Int.mul_ediv_add_emod a (M.p2 (32-s).toNat);have k:=Int.mul_ediv_add_emod v (M.p2 (32-s).toNat);have e:32-s.toNat=(32-s).toNat:=ol;have b:=M.sh_iff (s:=s.toNat) ol c d;rw[e]at b;have f:(v-v%M.p2 (32-s).toNat=a-a%M.p2 (32-s).toNat)↔s<=M.sh v a:=by
  constructor
  ·intro h;have:M.p2 (32-s).toNat*(v / M.p2 (32-s).toNat)=M.p2 (32-s).toNat*(a / M.p2 (32-s).toNat):=ol
   have:=b.2 (Int.eq_of_mul_eq_mul_left ol this)
   omega
  ·intro h;have:=b.1 ol
   rw[<-this]at g;omega
 rw[Bool.eq_iff_iff];simp[f]
theorem M.need_iff{V L:Nat->Int}{a s:Int}{i:Nat}:M.need V L a i<=s↔¬(s<L i/\s<=M.sh (V i) a):=by
 unfold M.need;split<;>omega
theorem M.dep_iff{V L:Nat->Int}{a s:Int}{n:Nat}(c:0<=s):M.depTo V L a n<=s↔∀i,i<n->M.need V L a i<=s:=by
 constructor
 ·intro h i b;have:=M.need_le_dep (V:=V) (L:=L) (a:=a) b;omega
 ·intro h;rcases M.dep_is (V:=V) (L:=L) (a:=a) (n:=n)with h0|⟨i,b,hn⟩
  ·omega
  ·have:=h i b;omega
theorem Z1(a n:Int)(w:World)(m:0<=a)(l:a<4294967296)(d:0<=n)(c:n<=32):
 Calls F 167 #[J Z a,J Z n] w λe w'=>e=.returned (J Z (a-a%M.p2 (32-n).toNat))/\w'=w:=by
 have g:=M.p2_pos (32-n).toNat;have i:=M.p2_le (j:=(32-n).toNat) ol;have k:=Int.emod_nonneg a (b:=M.p2 (32-n).toNat) ol;have h:=Int.emod_lt_of_pos a g;go_enter func167,ntmps167;go_wp2_with fail;refine(Jd _ _ d c).mono ?_;rintro e w' ⟨rfl,f⟩;subst w';go_wp2
 go_ret;exact⟨rfl,rfl⟩
theorem Zx{w wr:World}(h:∃q,wr=w.drewN q)(m:Nat):∃q,wr.drewN m=w.drewN q:=by
 obtain⟨q,rfl⟩:=h;exact⟨q+m,ot⟩
theorem qM(I:Option Addr)(b n c:Nat)(V L:Nat->Int)(a:Int)(w:World)(X:M.isA a=S)(hn:n<=64)(E:PS w I b n V L)(W:∀i,i<n->M.isP (V i) (L i)=S):
 Calls F 148 #[O I n c,J Z a] w λe w'=>e=.returned (J Z (M.bestTo V L a n))/\∃m,w'=w.drewN m:=by
 obtain⟨D,C⟩:=M.isA_iff.1 X;have R:Hd _:=W;clear W;go_enter func148,ntmps148;go_wp2
 go_loopw [5,6] (λx i wr=>∃m:Nat,m<=n/\i=J Z m/\x=J Z (M.bestTo V L a m)/\∃q,wr=w.drewN q) (λ_ i _=>n-(intOf i).toNat)
 case atStart=>exact⟨0,ol,rfl,rfl,0,rfl⟩
 case round =>
  obtain⟨m,hm,rfl,rfl,Q⟩:=hrel;have k:PS wr I b n V L:=by obtain⟨q,e⟩:=Q;rw[e];exact E.drewN q
  have f:Hd _:=Q;clear Q;by_cases l:m<n
  ·obtain rfl:=E.at_ ol;have hv:=k.val m l;have hl:=k.len m l;obtain⟨A,z,v0,v1,_⟩:=M.isP_iff.1 (R.o m l);have hL:Hd (∀i,i<m->0<=L i):=λi hi=>by have:=M.isP_iff.1 (R.o i ol);omega
   have u:Hd _:=M.best_is (V:=V) (L:=L) (a:=a) (n:=m) hL.o;have s:=M.match_iff (R.o m l) X;have mn:(m:Int)<n:=ol;have d:Hd _:=k.len;clear E k;generalize hq:(a-a%M.p2 (32-L m).toNat==V m)=y at *;have Y:Hd _:=s;clear s;have HS:Hd (M.bestTo V L a (m+1)=if L m<=M.sh (V m) a/\M.bitsTo V L a m<L m then(m:Int)else M.bestTo V L a m):=rfl;have HT:Hd (M.bitsTo V L a m=if M.bestTo V L a m<0 then -1 else L (M.bestTo V L a m).toNat):=by
    show _=_;rcases u.o with⟨g1,g2,_⟩|⟨j,hj,g1,g2,_⟩
    ·rw[g1,g2];rfl
    ·rw[g1,g2,if_neg ol];simp
   have a3:=M.best_lo (V:=V) (L:=L) (a:=a) (n:=m);generalize hK:M.bestTo V L a m=K at *;clear u;have p:(y=N/\M.bestTo V L a (m+1)=K)\/(y=S/\K<0/\M.bestTo V L a (m+1)=m) \/
    (y=S/\0<=K/\K<n/\wr.cell? ⟨b,K.toNat*2+1,P⟩=T (J Z (L K.toNat))/\((L K.toNat<L m/\M.bestTo V L a (m+1)=m)\/(¬L K.toNat<L m/\M.bestTo V L a (m+1)=K))):=by
    have v:=Y.o;have g:=HS.o;rw[HT.o]at g;by_cases t:L m<=M.sh (V m) a
    ·rw[decide_eq_true t]at v;by_cases H:K<0
     ·right;left
      rw[if_pos H,if_pos ⟨t,ol⟩]at g;exact⟨v,H,g⟩
     ·right;right
      rw[if_neg H]at g;refine⟨v,ol,ol,d.o K.toNat ol,?_⟩;by_cases B:L K.toNat<L m
      ·left;rw[if_pos ⟨t,B⟩]at g;exact⟨B,g⟩
      ·right;rw[if_neg (λh=>B h.2)]at g;exact⟨B,g⟩
    ·left
     rw[decide_eq_false t]at v;rw[if_neg (λh=>t h.1)]at g;exact⟨v,g⟩
   have HQ:Hd _:=hq;have HK:Hd _:=hK;have a2:=HQ.o;clear hq hK Y HS HT d;rcases p with⟨rfl,hb1⟩|⟨rfl,hk0,hb1⟩|⟨rfl,hk0,hk1,hck,⟨hlt2,hb1⟩|⟨hlt2,hb1⟩⟩
   ·have r:Hd _:=hb1;clear hb1;go_wp2_with fail;go_quiet ((go_at_call 167;exact Calls.quiet_of_same (Z1 _ _ _ D C A z)))
    go_wp2_with fail;go_roundw
    case rel=>exact⟨m+1,ol,by go_num,yy r.o,Zx f.o _⟩
    case measure=>simp[intOf];omega
   ·have r:Hd _:=hb1;clear hb1;have U:decide (K<0)=S:=decide_eq_true hk0;go_wp2_with fail;go_quiet ((go_at_call 167;exact Calls.quiet_of_same (Z1 _ _ _ D C A z)))
    go_wp2_with fail;go_roundw
    case rel=>exact⟨m+1,ol,by go_num,yy r.o,Zx f.o _⟩
    case measure=>simp[intOf];omega
   ·have r:Hd _:=hb1;clear hb1;have U:decide (K<0)=N:=decide_eq_false ol;have ld:decide (L K.toNat<L m)=S:=decide_eq_true hlt2;go_wp2_with fail;go_quiet ((go_at_call 167;exact Calls.quiet_of_same (Z1 _ _ _ D C A z)))
    go_wp2_with fail;go_roundw
    case rel=>exact⟨m+1,ol,by go_num,yy r.o,Zx f.o _⟩
    case measure=>simp[intOf];omega
   ·have r:Hd _:=hb1;clear hb1;have U:decide (K<0)=N:=decide_eq_false ol;have ld:decide (L K.toNat<L m)=N:=decide_eq_false hlt2;go_wp2_with fail;go_quiet ((go_at_call 167;exact Calls.quiet_of_same (Z1 _ _ _ D C A z)))
    go_wp2_with fail;go_roundw
    case rel=>exact⟨m+1,ol,by go_num,yy r.o,Zx f.o _⟩
    case measure=>simp[intOf];omega
  ·have G:m=n:=(by omega);subst G;go_wp2
   go_ret;exact⟨rfl,f.o⟩
theorem zgq{a b c d:Int}(f:a=c)(e:b=d):Ending.returned (.tuple #[J Z a,J Z b])=.returned (.tuple #[J Z c,J Z d]):=by rw[f,e]
theorem Jh(D:Option Addr)(b n c:Nat)(V L:Nat->Int)(a s:Int)(w:World)(hA:M.isA a=S)(hn:n<=64)(I:PS w D b n V L)(Q:∀i,i<n->M.isP (V i) (L i)=S)(t:0<=s)(s1:s<=32):
 Calls F 147 #[O D n c,J Z a,J Z s] w λe w'=>e=.returned (.bool (decide (M.depTo V L a n<=s)))/\∃m,w'=w.drewN m:=by
 obtain⟨a0,a1⟩:=M.isA_iff.1 hA;have HP:Hd _:=Q;have hL:Hd (∀i,i<n->0<=L i):=λi hi=>by have:=M.isP_iff.1 (HP.o i hi);omega
 have Y:Hd _:=M.best_is (V:=V) (L:=L) (a:=a) (n:=n) hL.o;have p:Hd (M.depTo V L a n<=s↔∀i,i<n->M.need V L a i<=s):=M.dep_iff t;have v:=qM D b n c V L a w hA hn I Q;have X:=M.best_lo (V:=V) (L:=L) (a:=a) (n:=n);generalize hK:M.bestTo V L a n=K at *;have B:Hd _:=v;clear Q v hK;obtain⟨a4,a3⟩:=X;go_enter func147,ntmps147;go_wp2_with fail;refine Calls.mono B.o ?_;rintro e wq ⟨rfl,q,P⟩;have d:PS wq D b n V L:=by rw[P];exact I.drewN q
 have HW:Hd (∃q,wq=w.drewN q):=⟨q,P⟩;clear P I B;by_cases z:0<=K/\s<L K.toNat
 ·obtain⟨k0,kb⟩:=z;obtain rfl:=d.at_ ol;have W:=d.len K.toNat ol;have x:Hd (decide (M.depTo V L a n<=s)=N):=decide_eq_false λhd=>by
   have:=p.o.1 hd
   rcases Y.o with⟨g1,_⟩|⟨j,hj,g1,_,g3,_⟩
   ·omega
   ·have ej:K.toNat=j:=(by omega);have h5:=this j hj;rw[ej]at kb;rw[M.need_iff]at h5;omega
  go_wp2
  go_ret;exact⟨ye x.o.symm,HW.o⟩
 ·have U:(K<0)\/(0<=K/\K<n/\¬s<L K.toNat):=by omega
  have H:Hd True:=trivial;rcases U with hk|⟨hk0,hk1,hk2⟩
  all_goals
   first
    |(have W:=d.len K.toNat ol;obtain rfl:=d.at_ ol)
    |skip
   go_wp2_with fail;go_loop [8] (λi=>∃m:Nat,m<=n/\i=J Z m/\Hd (∀i,i<m->M.need V L a i<=s)) (λi=>n-(intOf i).toNat)
   case atStart=>exact⟨0,ol,rfl,λi hi=>ol⟩
   case round =>
    obtain⟨m,hm,rfl,k⟩:=hrel;by_cases f:m<n
    ·have A:=d.at_ ol;first
      |(obtain rfl:=A)
      |(clear A)
     have hv:=d.val m f;have hl:=d.len m f;obtain⟨l0,l1,G,E,_⟩:=M.isP_iff.1 (HP.o m f);have a2:M.isA (V m)=S:=M.isA_iff.2 ⟨G,E⟩;have y:=M.cut_iff a2 hA t s1;have C:Hd _:=y;clear y;by_cases u:s<L m
     ·cases hy:decide (s<=M.sh (V m) a)with
      | true =>
       have x:Hd (decide (M.depTo V L a n<=s)=N):=decide_eq_false λhd=>by
        have:=p.o.1 hd m f
        rw[M.need_iff]at this;exact this ⟨u,of_decide_eq_true hy⟩
       have r:=C.o;rw[hy]at r;clear hy;go_wp2_with fail;refine(Z1 _ _ _ G E t s1).mono ?_;rintro e w' ⟨rfl,g⟩;subst w';go_wp2_with fail;refine(Z1 _ _ _ a0 a1 t s1).mono ?_;rintro e w' ⟨rfl,g⟩;subst w';go_wp2_with fail;go_ret;exact⟨ye x.o.symm,HW.o⟩
      | false =>
       have HN:Hd (∀i,i<m+1->M.need V L a i<=s):=λi hi=>by
        by_cases l:i=m
        ·subst l;rw[M.need_iff];intro h;exact absurd h.2 (of_decide_eq_false hy)
        ·exact k.o i ol
       have r:=C.o;rw[hy]at r;clear hy;go_wp2_with fail;refine(Z1 _ _ _ G E t s1).mono ?_;rintro e w' ⟨rfl,g⟩;subst w';go_wp2_with fail;refine(Z1 _ _ _ a0 a1 t s1).mono ?_;rintro e w' ⟨rfl,g⟩;subst w';go_wp2_with fail;go_round
       case rel=>exact⟨m+1,ol,by go_num,HN⟩
       case measure=>simp[intOf];omega
     ·have HN:Hd (∀i,i<m+1->M.need V L a i<=s):=λi hi=>by
       by_cases l:i=m
       ·subst l;rw[M.need_iff];intro h;exact u h.1
       ·exact k.o i ol
      go_wp2_with fail;go_round
      case rel=>exact⟨m+1,ol,by go_num,HN⟩
      case measure=>simp[intOf];omega
    ·have R:m=n:=(by omega);subst R;have x:Hd (decide (M.depTo V L a m<=s)=S):=decide_eq_true (p.o.2 k.o);go_wp2
     go_ret;exact⟨ye x.o.symm,HW.o⟩
theorem qw(h:Option Addr)(b n c:Nat)(V L:Nat->Int)(a:Int)(w:World)(B:M.isA a=S)(A:n<=64)(E:PS w h b n V L)(z:∀i,i<n->M.isP (V i) (L i)=S):
 Calls F 115 #[O h n c,J Z a] w λe w'=>e=.returned (.tuple #[J Z (M.bestTo V L a n),J Z (M.depTo V L a n)])/\∃m,w'=w.drewN m:=by
 have x:Hd _:=z;have Q:=M.depTo_pos (V:=V) (L:=L) (a:=a) (n:=n);have R:=M.depTo_le (V:=V) (L:=L) (a:=a) (n:=n) (λi hi=>by have:=M.isP_iff.1 (x.o i hi);omega);generalize hD:M.depTo V L a n=D at *;have I:Hd _:=hD;clear z hD;go_enter func115,ntmps115;go_wp2
 go_loopw [6] (λi wr=>∃m:Nat,(m:Int)<=D/\i=J Z m/\∃q,wr=w.drewN q) (λi _=>D.toNat-(intOf i).toNat)
 case atStart=>exact⟨0,ol,rfl,0,rfl⟩
 case round =>
  obtain⟨m,P,rfl,v⟩:=hrel;have j:PS wr h b n V L:=by obtain⟨q,e⟩:=v;rw[e];exact E.drewN q
  have l:Hd _:=v;have f:=Jh h b n c V L a m wr B A j x.o ol ol;rw[I.o]at f;have p:Hd _:=f;clear v f;by_cases G:(m:Int)<D
  ·have H:decide (D<=(m:Int))=N:=decide_eq_false ol;go_wp2_with fail;refine Calls.mono p.o ?_;rintro e r ⟨rfl,y,d⟩;have g:Hd (∃q,r=w.drewN q):=(by rw[d];exact Zx l.o _);clear d;go_wp2_with fail;go_roundw
   case rel=>exact⟨m+1,ol,by go_num,g⟩
   case measure=>simp[intOf];omega
  ·have H:decide (D<=(m:Int))=S:=decide_eq_true ol;have t:Hd (D=m):=(by show _=_;omega);go_wp2_with fail;refine Calls.mono p.o ?_;rintro e r ⟨rfl,y,d⟩;have g:Hd (∃q,r=w.drewN q):=(by rw[d];exact Zx l.o _);have s:PS r h b n V L:=(by rw[d];exact j.drewN y);clear d;go_wp2_with fail;refine(qM h b n c V L a _ B A s x.o).mono ?_;rintro e C ⟨rfl,K,k⟩;have u:Hd (∃q,C=w.drewN q):=(by rw[k];exact Zx g.o _);clear k;go_wp2_with fail;go_ret2;exact⟨zgq rfl t.o.symm,u.o⟩
theorem Q5{w w':World}(h:∃m,w'=w.drewN m):Below w.heap.size w w':=by
 obtain⟨m,rfl⟩:=h;exact zC (Below.refl _ _) m
theorem J2(i:Option Addr)(b n c:Nat)(V L:Nat->Int)(a:Int)(w:World)(g:n<=9223372036854775807)(f:PS w i b n V L)(h:M.isA a=N\/M.isMap V L n=N):
 Calls F 62 #[O i n c,J Z a] w λe w'=>e=.returned (.tuple #[J Z 0,J Z 0,J Z 9])/\Below w.heap.size w w':=by
 cases hM:M.isMap V L n with
 | false =>
  clear h;go_enter func62,ntmps62;go_wp2_with fail;refine(xe _ b _ _ V L _ g f).mono ?_;rintro e j ⟨rfl,d⟩;go_wp2_with fail;go_ret3
  exact⟨rfl,d⟩
 | true =>
  have l:M.isA a=N:=by simpa[hM]using h
  clear h;go_enter func62,ntmps62;go_wp2_with fail;refine(xe _ b _ _ V L _ g f).mono ?_;rintro e j ⟨rfl,d⟩;go_wp2_with fail;refine(xX N _ _ l).mono ?_;rintro e w' ⟨rfl,k⟩;subst w';go_wp2_with fail;go_ret3
  exact⟨rfl,d⟩
theorem J1(p:Option Addr)(b n c:Nat)(V L:Nat->Int)(a:Int)(w:World)(k:PS w p b n V L)(m:M.isA a=S)(s:M.isMap V L n=S):
 Calls F 62 #[O p n c,J Z a] w λe w'=>e=.returned (.tuple #[J Z (M.bestTo V L a n),J Z (M.depTo V L a n),J Z 0])/\Below w.heap.size w w':=by
 have l:n<=64/\M.okTo V L n=S:=by simpa[M.isMap]using s
 have r:Hd (∀i,i<n->M.isP (V i) (L i)=S):=λi hi=>(M.okTo_iff.1 l.2 i hi).1
 obtain⟨j,_⟩:=l;go_enter func62,ntmps62;go_wp2_with fail;refine(xe _ b _ _ V L _ ol k).mono ?_;rintro e u ⟨rfl,d⟩;have g:=k.below d;go_wp2_with fail;refine(xX S _ _ m).mono ?_;rintro e w' ⟨rfl,q⟩;subst w';go_wp2_with fail;refine(qw _ b _ _ V L _ _ m j g r.o).mono ?_;rintro e t ⟨rfl,f⟩;have h:=Q5 f;clear f;go_wp2_with fail;go_ret3
 exact⟨rfl,d.trans (h.mono d.size)⟩
theorem infoPrefix:(Tryz.prog.info? 94).map (λi=>(i.zero,i.size,i.bytes))=T (T (.agg #[J Z 0,J Z 0]),2,16):=kr
theorem infoPlace:(Tryz.prog.info? 96).map (λi=>(i.zero,i.size,i.bytes))=T (T (.agg #[J Z 0,J Z 0,J Z 0]),3,24):=kr
def pc(V L:Nat->Int):Nat->List Value
 |0=>[]
 |n+1=>pc V L n++[J Z (V n),J Z (L n)]
def tc(V L R:Nat->Int):Nat->List Value
 |0=>[]
 |n+1=>tc V L R n++[J Z (V n),J Z (L n),J Z (R n)]
theorem QB(V L:Nat->Int)(n:Nat):(pc V L n).length=n*2:=by
 induction n with
 |zero=>rfl
 |succ n ih=>simp[pc,ih];omega
theorem zdv(V L:Nat->Int){n i:Nat}(h:i<n):(pc V L n)[i*2]?=T (J Z (V i))/\(pc V L n)[i*2+1]?=T (J Z (L i)):=by
 induction n with
 |zero=>omega
 | succ n ih =>
  simp only[pc];by_cases a:i=n
  ·subst a;rw[List.getElem?_append_right (by rw[QB];omega),List.getElem?_append_right (by rw[QB];omega),QB];simp
  ·have:=ih ol
   rw[List.getElem?_append_left (by rw[QB];omega),List.getElem?_append_left (by rw[QB];omega)];exact this
structure TS (w:World) (ao:Option Addr) (b off n:Nat) (V L R:Nat->Int):Prop where
 at_:0<n->ao=T ⟨b,off,P⟩
 lt:0<n->b<w.heap.size
 val:∀i,i<n->w.cell? ⟨b,off+i*3,P⟩=T (J Z (V i))
 len:∀i,i<n->w.cell? ⟨b,off+i*3+1,P⟩=T (J Z (L i))
 reg:∀i,i<n->w.cell? ⟨b,off+i*3+2,P⟩=T (J Z (R i))
theorem TS.below{w w':World}{ao b off n V L R}(h:TS w ao b off n V L R)(a:Below w.heap.size w w'):TS w' ao b off n V L R :=
 ⟨h.at_,λhn=>Nat.lt_of_lt_of_le (h.lt hn) a.size,λi hi=>by rw[a.cell (h.lt ol)];exact h.val i hi,λi hi=>by rw[a.cell (h.lt ol)];exact h.len i hi,λi hi=>by rw[a.cell (h.lt ol)];exact h.reg i hi⟩
theorem Yf{w:World}{base:Nat}{v:Value}{n:Nat}{V L:Nat->Int}(h:w.ownsRow base 94 2 v n (pc V L n)):
 ∃ao b c,v=O ao n c/\n<=c/\(n=0\/base<=b)/\PS w ao b n V L:=by
 have a:=h;rcases h.2 with⟨rfl,rfl⟩|⟨g,cap,cur,rfl,hb,hg,hnc,_,_,_⟩
 ·exact⟨P,0,0,rfl,Nat.le_refl _,.inl rfl,⟨λh=>ol,λh=>ol,λi hi=>ol,λi hi=>ol⟩⟩
 ·refine⟨T ⟨g,0,P⟩,g,cap,rfl,hnc,.inr hb,⟨λ_=>rfl,λ_=>?_,λi hi=>?_,λi hi=>?_⟩⟩
  ·exact(a.lt g rfl).2
  ·rw[a.cellAt (i*2) ol];exact(zdv V L hi).1
  ·rw[a.cellAt (i*2+1) ol];exact(zdv V L hi).2
theorem zgb(w:World)(x y:Value)(t:TypeId):∀j u,([x,y]:List Value)[j]?=T u->(w.alloc (.cells #[x,y] t)).cell? ((⟨w.heap.size,0,P⟩:Addr).add j)=T u:=by
 intro j u a;match j,a with
 |0,a=>simp at a;subst a;simp[Addr.add]
 |1,a=>simp at a;subst a;simp[Addr.add]
theorem XQ(y:Option Addr)(b m n c:Nat)(V L R:Nat->Int)(w:World)(G:n*24<=140737488351232)(t:TS w y b m n V L R):
 Calls F 42 #[O y n c] w λe w'=>(∃v,e=.returned v/\w'.ownsRow w.heap.size 94 2 v n (pc V L n))/\Below w.heap.size w w':=by
 obtain⟨A,B,r,p,o⟩:=info_parts infoPrefix;go_enter func42,ntmps42;go_wp2
 go_loopw [3,4] (λv i wr=>∃k:Nat,k<=n/\i=J Z k/\wr.ownsRow w.heap.size 94 2 v k (pc V L k)/\Below w.heap.size w wr) (λ_ i _=>n-(intOf i).toNat)
 case atStart=>exact⟨0,ol,rfl,World.ownsRow_nil _ _ _ _,Below.refl _ _⟩
 case round =>
  obtain⟨k,I,rfl,a,j⟩:=hrel;by_cases h:k<n
  ·obtain rfl:=t.at_ ol;have d:=t.below j;have E:=d.val k h;have H:=d.len k h;have C:b<wr.heap.size:=d.lt ol;have s:=j.size;clear t d;go_wp2_with (at_builtin;refine wpList_append_own _ rfl _ _ 98 rfl w.heap.size 94 A (.agg #[J Z 0,J Z 0]) 2 16 underlying98 B r p o rfl oq _ _ _ rfl (a.alloc _) ⟨wr.heap.size,0,P⟩ 1 1 [J Z (V k),J Z (L k)] rfl rfl (zgb _ _ _ _) (λx l=>by simp at l;rcases l with rfl|rfl<;>rfl) mr ol ow ?_;intro D z g f _)
   have l:Hd (Below w.heap.size w z):=(j.alloc j.size _).grown f ow (λq hq=>(a.lt q hq).1);go_roundw
   case rel=>exact⟨k+1,ol,by go_num,g,l⟩
   case measure=>simp[intOf];omega
  ·have u:k=n:=(by omega);subst u;go_wp2
   go_ret;exact⟨⟨_,rfl,a⟩,j⟩
theorem zeo(a b:Int)(w:World):(Instr.build 94 #[(0,J Z a),(1,J Z b)]).run F w=.ok (.agg #[J Z a,J Z b]) w:=run_build w 94 _ _ kr
theorem zen(a b c:Int)(w:World):(Instr.build 96 #[(0,.agg #[J Z a,J Z b]),(1,J Z c)]).run F w=.ok (.agg #[J Z a,J Z b,J Z c]) w:=run_build w 96 _ _ kr
theorem Qa(w:World):
 Calls F 113 #[] w λe w'=>e=.returned (.agg #[J Z 77,J Z 77,J Z 77])/\Below w.heap.size w w':=by
 have b:=λw=>zeo 77 77 w
 have a:=λw=>zen 77 77 77 w
 go_enter func113,ntmps113;go_wp2
 exact bodyPost_ret (v:=.agg #[J Z 77,J Z 77,J Z 77]) (by simp[results,results113,go_sem]) rfl ⟨rfl,(by repeat(first|exact Below.refl _ _|refine Below.alloc ?_ ot _|refine Below.setCell ?_ ot _))⟩
def ZH(R:Nat->Int):Nat->Bool
 |0=>S
 |n+1=>ZH R n && (decide (0<=R n) && decide (R n<=99))
theorem zb0{R:Nat->Int}{n:Nat}:ZH R n=S↔∀k,k<n->0<=R k/\R k<=99:=by
 induction n with
 |zero=>simp[ZH]
 | succ n ih =>
  simp only[ZH,Bool.and_eq_true,ih,decide_eq_true_eq];constructor
  ·rintro⟨h,c⟩ k a;by_cases b:k=n
   ·subst b;exact c
   ·exact h k ol
  ·intro h;exact⟨λk a=>h k ol,h n ol⟩
theorem qp{R:Nat->Int}{n k:Nat}(b:k<n)(h:¬(0<=R k/\R k<=99)):ZH R n=N:=by
 rw[Bool.eq_false_iff];intro a;exact h (zb0.1 a k b)
theorem Xz(r:Option Addr)(b f n c:Nat)(V L R:Nat->Int)(w:World)(s:n*24<=140737488351232)(h:TS w r b f n V L R):
 Calls F 19 #[O r n c] w λe w'=>e=.returned (.bool (ZH R n && M.isMap V L n))/\Below w.heap.size w w':=by
 go_enter func19,ntmps19;go_wp2
 go_loop [3] (λi=>∃k:Nat,k<=n/\i=J Z k/\ZH R k=S) (λi=>n-(intOf i).toNat)
 case atStart=>exact⟨0,ol,rfl,rfl⟩
 case round =>
  obtain⟨k,G,rfl,q⟩:=hrel;by_cases d:k<n
  ·obtain rfl:=h.at_ ol;have E:=h.reg k d;have u:b<w.heap.size:=h.lt ol;clear h;by_cases I:R k<0
   ·have g:Hd ((ZH R n && M.isMap V L n)=N):=(by show _=_;rw[qp d ol];rfl);go_wp2
    go_ret;exact⟨ye g.o.symm,Below.refl _ _⟩
   ·by_cases H:99<R k
    ·have g:Hd ((ZH R n && M.isMap V L n)=N):=(by show _=_;rw[qp d ol];rfl);go_wp2
     go_ret;exact⟨ye g.o.symm,Below.refl _ _⟩
    ·have B:Hd (ZH R (k+1)=S):=by
      have y:0<=R k:=ol;have x:R k<=99:=ol;show _=_;simp[ZH,q,y,x]
     go_wp2
     go_round
     case rel=>exact⟨k+1,ol,by go_num,B⟩
     case measure=>simp[intOf];omega
  ·have m:k=n:=(by omega);subst m;have g:Hd ((ZH R k && M.isMap V L k)=M.isMap V L k):=(by show _=_;rw[q];rfl);go_wp2_with fail;refine(XQ _ b f _ _ V L R _ s h).mono ?_;rintro e D ⟨⟨v,rfl,a⟩,j⟩;obtain⟨A,z,K,rfl,t,_,l⟩:=Yf a;clear a;go_wp2_with fail;refine(xe _ z _ _ V L _ ol l).mono ?_;rintro e C ⟨rfl,p⟩;go_wp2_with fail;go_ret;exact⟨ye g.o.symm,j.trans (p.mono j.size)⟩
end Go.Proofs.YtaebngpoagjafabGreat
