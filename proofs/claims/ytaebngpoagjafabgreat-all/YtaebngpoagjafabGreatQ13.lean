import Derived.Test.YtaebngpoagjafabGreatQ12
set_option maxRecDepth 100000
set_option maxHeartbeats 6400000
namespace Go.Proofs.YtaebngpoagjafabGreat
open Option renaming none → F,some → S
open Bool renaming false → P,true → E
open Proofs.Tryz renaming prog → A
open Proofs.Tryz
open Obj renaming cells → Q
open Value renaming int → J, slice → O
open IntKind renaming i64 → Z
open Go.RowKit
attribute [local go_sem ↓] Go.wp_at_zero Go.wp_at_succ
theorem zbD(base B:Nat)(s:ByteArray)(k p:Nat)(c g d l:Int)(b f:Value)(y:List FR)(x:List SG)(w:World)(h:RS w base B s k b f y x)(hs:s.size<=2000)(hk:k<=s.size)(n:T.sk s k=p)(hc:T.ch s p=c)(_hlen:y.length+7<=1099511627776)(_hlen2:x.length+1<=1099511627776)(d0:0<=d)(d1:d<=1000000)(rz:Res)(z:Hd ((match Yx d p c with|some l=>(⟨E,p,l,[⟨3,p,d,-1,ByteArray.empty⟩]⟩:Res)|none=>⟨P,p,[],[]⟩)=rz)):
 Calls A 134 #[.pointer (S ⟨B,0,F⟩),frA ⟨258,g,d,l⟩] w (SP base B s b f y x w rz):=by
 show Calls A 134 #[.pointer (S ⟨B,0,F⟩),.agg #[J Z 258,J Z g,J Z d,J Z l]] w _;have U:p<=s.size:=by rw[<-n];exact T.sk_le hk
 have a:=λ(wz:World) (hz:RS wz base B s k b f y x)=>zI base B s k b f y x wz hs hk hz
 rw[n,hc]at a;have Y:Hd _:=a;clear a;go_enter func134,ntmps134;go_wp2_with fail;have hA:=h.alloc (Q #[J Z 258,J Z g,J Z d,J Z l] 193);have hF:FB (w.alloc (Q #[J Z 258,J Z g,J Z d,J Z l] 193)) w.heap.size ⟨258,g,d,l⟩:=⟨ot,ot,ot,ot⟩;have V:=h.outNew;have m:w.heap.size<(w.alloc (Q #[J Z 258,J Z g,J Z d,J Z l] 193)).heap.size:=ot;have H:Mv base B b f b f w (w.alloc (Q #[J Z 258,J Z g,J Z d,J Z l] 193)):=Mv.alloc h.bs _;refine(Y.o _ hA).mono ?_;rintro e v ⟨rfl,C,i⟩;have K:=i.kept w.heap.size m V;have q:=hF.of_block K.1;have a0:w.heap.size<v.heap.size:=Nat.lt_of_lt_of_le m i.bel.size;have L:Hd (Mv base B b f b f w v):=H.trans i;have X:Hd _:=C;have u:Hd _:=q;have b0:v.cell? ⟨w.heap.size,0,F⟩=S (J Z 258):=q.c0;clear H i hA hF m C K h q;have b1:v.cell? ⟨w.heap.size,1,F⟩=S (J Z g):=u.o.c1;have b2:v.cell? ⟨w.heap.size,2,F⟩=S (J Z d):=u.o.c2;have b3:v.cell? ⟨w.heap.size,3,F⟩=S (J Z l):=u.o.c3;go_wp2_with fail;have R:T.sk s p=p:=by rw[<-n];exact T.sk_here (T.sk_bl s k)
 have N:=zd8 base B s p ⟨258,g,d,l⟩ b f y x _ X.o hs U _hlen _hlen2 d0 d1;rw[R,hc]at N;refine N.mono ?_;rintro e w' (⟨G,rfl,D,I⟩|⟨lx,j,rfl,O,W,D,I⟩)
 ·have r:Hd _:=D;have t:Hd _:=L.o.trans I;have HE:Hd _:=G;clear D I G N;go_wp2_with fail;go_ret;rw[<-z.o,HE.o];exact⟨rfl,b,f,r.o,t.o⟩
 ·have r:Hd _:=D;have t:Hd _:=L.o.trans I;have HE:Hd _:=j;clear D I j N;go_wp2_with fail;go_ret;rw[<-z.o,HE.o];exact⟨rfl,O,W,r.o,t.o⟩
theorem zc5(base B:Nat)(s:ByteArray)(k p:Nat)(c f d l:Int)(a g:Value)(y:List FR)(x:List SG)(w:World)(h:RS w base B s k a g y x)(hs:s.size<=2000)(hk:k<=s.size)(n:T.sk s k=p)(hc:T.ch s p=c)(_hlen:y.length+7<=1099511627776)(_hlen2:x.length+1<=1099511627776)(rz:Res)(z:Hd ((if((T.dg s 9 58 E p).1 && decide (p<(T.dg s 9 58 E p).2))=E then(⟨E,(T.dg s 9 58 E p).2,[],[⟨f,p,d,l,s.extract p (T.dg s 9 58 E p).2⟩]⟩:Res)else⟨P,(T.dg s 9 58 E p).2,[],[]⟩)=rz)):
 Calls A 134 #[.pointer (S ⟨B,0,F⟩),frA ⟨261,f,d,l⟩] w (SP base B s a g y x w rz):=by
 show Calls A 134 #[.pointer (S ⟨B,0,F⟩),.agg #[J Z 261,J Z f,J Z d,J Z l]] w _;have R:p<=s.size:=by rw[<-n];exact T.sk_le hk
 have b:=λ(wz:World) (hz:RS wz base B s k a g y x)=>zI base B s k a g y x wz hs hk hz
 rw[n,hc]at b;have X:Hd _:=b;clear b;go_enter func134,ntmps134;go_wp2_with fail;have hA:=h.alloc (Q #[J Z 261,J Z f,J Z d,J Z l] 193);have hF:FB (w.alloc (Q #[J Z 261,J Z f,J Z d,J Z l] 193)) w.heap.size ⟨261,f,d,l⟩:=⟨ot,ot,ot,ot⟩;have U:=h.outNew;have m:w.heap.size<(w.alloc (Q #[J Z 261,J Z f,J Z d,J Z l] 193)).heap.size:=ot;have H:Mv base B a g a g w (w.alloc (Q #[J Z 261,J Z f,J Z d,J Z l] 193)):=Mv.alloc h.bs _;refine(X.o _ hA).mono ?_;rintro e v ⟨rfl,C,i⟩;have K:=i.kept w.heap.size m U;have q:=hF.of_block K.1;have a0:w.heap.size<v.heap.size:=Nat.lt_of_lt_of_le m i.bel.size;have L:Hd (Mv base B a g a g w v):=H.trans i;have W:Hd _:=C;have u:Hd _:=q;have b0:v.cell? ⟨w.heap.size,0,F⟩=S (J Z 261):=q.c0;clear H i hA hF m C K h q;have b1:v.cell? ⟨w.heap.size,1,F⟩=S (J Z f):=u.o.c1;have b2:v.cell? ⟨w.heap.size,2,F⟩=S (J Z d):=u.o.c2;have b3:v.cell? ⟨w.heap.size,3,F⟩=S (J Z l):=u.o.c3;go_wp2_with fail;have O:T.sk s p=p:=by rw[<-n];exact T.sk_here (T.sk_bl s k)
 have N:=QN base B s p ⟨261,f,d,l⟩ 9 58 E a g y x _ W.o hs R _hlen2;rw[O]at N;refine N.mono ?_;rintro e w' (⟨G,rfl,D,I⟩|⟨j,rfl,V,D,I⟩)
 ·have r:Hd _:=D;have t:Hd _:=L.o.trans I;have Y:Hd _:=G;clear D I G N;go_wp2_with fail;go_ret;rw[<-z.o,Y.o];exact⟨rfl,a,g,r.o,t.o⟩
 ·have r:Hd _:=D;have t:Hd _:=L.o.trans I;have Y:Hd _:=j;clear D I j N;go_wp2_with fail;go_ret;rw[<-z.o,Y.o];exact⟨rfl,a,V,r.o,t.o⟩
theorem step_bits(base B:Nat)(s:ByteArray)(k p:Nat)(c f d l:Int)(a g:Value)(y:List FR)(x:List SG)(w:World)(h:RS w base B s k a g y x)(hs:s.size<=2000)(hk:k<=s.size)(n:T.sk s k=p)(hc:T.ch s p=c)(_hlen:y.length+7<=1099511627776)(_hlen2:x.length+1<=1099511627776)(rz:Res)(z:Hd ((if((T.dg s 32 50 P p).1 && decide (p<(T.dg s 32 50 P p).2))=E then(⟨E,(T.dg s 32 50 P p).2,[],[⟨f,p,d,l,s.extract p (T.dg s 32 50 P p).2⟩]⟩:Res)else⟨P,(T.dg s 32 50 P p).2,[],[]⟩)=rz)):
 Calls A 134 #[.pointer (S ⟨B,0,F⟩),frA ⟨262,f,d,l⟩] w (SP base B s a g y x w rz):=by
 show Calls A 134 #[.pointer (S ⟨B,0,F⟩),.agg #[J Z 262,J Z f,J Z d,J Z l]] w _;have R:p<=s.size:=by rw[<-n];exact T.sk_le hk
 have b:=λ(wz:World) (hz:RS wz base B s k a g y x)=>zI base B s k a g y x wz hs hk hz
 rw[n,hc]at b;have X:Hd _:=b;clear b;go_enter func134,ntmps134;go_wp2_with fail;have hA:=h.alloc (Q #[J Z 262,J Z f,J Z d,J Z l] 193);have hF:FB (w.alloc (Q #[J Z 262,J Z f,J Z d,J Z l] 193)) w.heap.size ⟨262,f,d,l⟩:=⟨ot,ot,ot,ot⟩;have U:=h.outNew;have m:w.heap.size<(w.alloc (Q #[J Z 262,J Z f,J Z d,J Z l] 193)).heap.size:=ot;have H:Mv base B a g a g w (w.alloc (Q #[J Z 262,J Z f,J Z d,J Z l] 193)):=Mv.alloc h.bs _;refine(X.o _ hA).mono ?_;rintro e v ⟨rfl,C,i⟩;have K:=i.kept w.heap.size m U;have q:=hF.of_block K.1;have a0:w.heap.size<v.heap.size:=Nat.lt_of_lt_of_le m i.bel.size;have L:Hd (Mv base B a g a g w v):=H.trans i;have W:Hd _:=C;have u:Hd _:=q;have b0:v.cell? ⟨w.heap.size,0,F⟩=S (J Z 262):=q.c0;clear H i hA hF m C K h q;have b1:v.cell? ⟨w.heap.size,1,F⟩=S (J Z f):=u.o.c1;have b2:v.cell? ⟨w.heap.size,2,F⟩=S (J Z d):=u.o.c2;have b3:v.cell? ⟨w.heap.size,3,F⟩=S (J Z l):=u.o.c3;go_wp2_with fail;have O:T.sk s p=p:=by rw[<-n];exact T.sk_here (T.sk_bl s k)
 have N:=QN base B s p ⟨262,f,d,l⟩ 32 50 P a g y x _ W.o hs R _hlen2;rw[O]at N;refine N.mono ?_;rintro e w' (⟨G,rfl,D,I⟩|⟨j,rfl,V,D,I⟩)
 ·have r:Hd _:=D;have t:Hd _:=L.o.trans I;have Y:Hd _:=G;clear D I G N;go_wp2_with fail;go_ret;rw[<-z.o,Y.o];exact⟨rfl,a,g,r.o,t.o⟩
 ·have r:Hd _:=D;have t:Hd _:=L.o.trans I;have Y:Hd _:=j;clear D I j N;go_wp2_with fail;go_ret;rw[<-z.o,Y.o];exact⟨rfl,a,V,r.o,t.o⟩
theorem Qs(base B:Nat)(s:ByteArray)(k p:Nat)(c i d l:Int)(b g:Value)(v:List FR)(u:List SG)(w:World)(h:RS w base B s k b g v u)(K:s.size<=2000)(G:k<=s.size)(q:T.sk s k=p)(O:T.ch s p=c)(_hlen:v.length+7<=1099511627776)(_hlen2:u.length+1<=1099511627776)(N:c<97):
 Calls A 134 #[.pointer (S ⟨B,0,F⟩),frA ⟨263,i,d,l⟩] w (SP base B s b g v u w ⟨P,p,[],[]⟩):=by
 show Calls A 134 #[.pointer (S ⟨B,0,F⟩),.agg #[J Z 263,J Z i,J Z d,J Z l]] w _;have L:p<=s.size:=by rw[<-q];exact T.sk_le G
 have a:=λ(wz:World) (hz:RS wz base B s k b g v u)=>zI base B s k b g v u wz K G hz
 rw[q,O]at a;have C:Hd _:=a;clear a;go_enter func134,ntmps134;go_wp2_with fail;have I:=h.alloc (Q #[J Z 263,J Z i,J Z d,J Z l] 193);have H:FB (w.alloc (Q #[J Z 263,J Z i,J Z d,J Z l] 193)) w.heap.size ⟨263,i,d,l⟩:=⟨ot,ot,ot,ot⟩;have y:=h.outNew;have j:w.heap.size<(w.alloc (Q #[J Z 263,J Z i,J Z d,J Z l] 193)).heap.size:=ot;have r:Mv base B b g b g w (w.alloc (Q #[J Z 263,J Z i,J Z d,J Z l] 193)):=Mv.alloc h.bs _;refine(C.o _ I).mono ?_;rintro e x ⟨rfl,n,f⟩;have t:=f.kept w.heap.size j y;have m:=H.of_block t.1;have E:w.heap.size<x.heap.size:=Nat.lt_of_lt_of_le j f.bel.size;have D:Hd (Mv base B b g b g w x):=r.trans f;have z:Hd _:=n;have R:Hd _:=m;have U:x.cell? ⟨w.heap.size,0,F⟩=S (J Z 263):=m.c0;clear r f I H j n t h m;go_wp2_with fail;go_ret;exact⟨rfl,b,g,z.o,D.o⟩
theorem Qt(base B:Nat)(s:ByteArray)(k p:Nat)(c i d l:Int)(b g:Value)(v:List FR)(u:List SG)(w:World)(h:RS w base B s k b g v u)(K:s.size<=2000)(G:k<=s.size)(q:T.sk s k=p)(R:T.ch s p=c)(_hlen:v.length+7<=1099511627776)(_hlen2:u.length+1<=1099511627776)(O:122<c):
 Calls A 134 #[.pointer (S ⟨B,0,F⟩),frA ⟨263,i,d,l⟩] w (SP base B s b g v u w ⟨P,p,[],[]⟩):=by
 show Calls A 134 #[.pointer (S ⟨B,0,F⟩),.agg #[J Z 263,J Z i,J Z d,J Z l]] w _;have L:p<=s.size:=by rw[<-q];exact T.sk_le G
 have a:=λ(wz:World) (hz:RS wz base B s k b g v u)=>zI base B s k b g v u wz K G hz
 rw[q,R]at a;have C:Hd _:=a;clear a;go_enter func134,ntmps134;go_wp2_with fail;have I:=h.alloc (Q #[J Z 263,J Z i,J Z d,J Z l] 193);have H:FB (w.alloc (Q #[J Z 263,J Z i,J Z d,J Z l] 193)) w.heap.size ⟨263,i,d,l⟩:=⟨ot,ot,ot,ot⟩;have y:=h.outNew;have j:w.heap.size<(w.alloc (Q #[J Z 263,J Z i,J Z d,J Z l] 193)).heap.size:=ot;have r:Mv base B b g b g w (w.alloc (Q #[J Z 263,J Z i,J Z d,J Z l] 193)):=Mv.alloc h.bs _;refine(C.o _ I).mono ?_;rintro e x ⟨rfl,n,f⟩;have t:=f.kept w.heap.size j y;have m:=H.of_block t.1;have E:w.heap.size<x.heap.size:=Nat.lt_of_lt_of_le j f.bel.size;have D:Hd (Mv base B b g b g w x):=r.trans f;have z:Hd _:=n;have U:Hd _:=m;have V:x.cell? ⟨w.heap.size,0,F⟩=S (J Z 263):=m.c0;clear r f I H j n t h m;have N:¬c<97:=ol;go_wp2_with fail;go_ret;exact⟨rfl,b,g,z.o,D.o⟩
theorem jE(base B:Nat)(s:ByteArray)(k p:Nat)(c m d l:Int)(f i:Value)(y:List FR)(x:List SG)(w:World)(h:RS w base B s k f i y x)(V:s.size<=2000)(N:k<=s.size)(t:T.sk s k=p)(X:T.ch s p=c)(_hlen:y.length+7<=1099511627776)(_hlen2:x.length+1<=1099511627776)(a:Int)(j:a≠256/\a≠257/\a≠258/\a≠259/\a≠260/\a≠261/\a≠262/\a≠263)(G:c≠a):
 Calls A 134 #[.pointer (S ⟨B,0,F⟩),frA ⟨a,m,d,l⟩] w (SP base B s f i y x w ⟨P,p,[],[]⟩):=by
 show Calls A 134 #[.pointer (S ⟨B,0,F⟩),.agg #[J Z a,J Z m,J Z d,J Z l]] w _;have W:p<=s.size:=by rw[<-t];exact T.sk_le N
 have b:=λ(wz:World) (hz:RS wz base B s k f i y x)=>zI base B s k f i y x wz V N hz
 rw[t,X]at b;have I:Hd _:=b;have n0:(a==256)=P:=beq_eq_false_iff_ne.2 j.1;have n1:(a==257)=P:=beq_eq_false_iff_ne.2 j.2.1;have n2:(a==258)=P:=beq_eq_false_iff_ne.2 j.2.2.1;have n3:(a==259)=P:=beq_eq_false_iff_ne.2 j.2.2.2.1;have n4:(a==260)=P:=beq_eq_false_iff_ne.2 j.2.2.2.2.1;have n5:(a==261)=P:=beq_eq_false_iff_ne.2 j.2.2.2.2.2.1;have n6:(a==262)=P:=beq_eq_false_iff_ne.2 j.2.2.2.2.2.2.1;have n7:(a==263)=P:=beq_eq_false_iff_ne.2 j.2.2.2.2.2.2.2;clear b;go_enter func134,ntmps134;go_wp2_with fail;have U:=h.alloc (Q #[J Z a,J Z m,J Z d,J Z l] 193);have R:FB (w.alloc (Q #[J Z a,J Z m,J Z d,J Z l] 193)) w.heap.size ⟨a,m,d,l⟩:=⟨ot,ot,ot,ot⟩;have C:=h.outNew;have n:w.heap.size<(w.alloc (Q #[J Z a,J Z m,J Z d,J Z l] 193)).heap.size:=ot;have u:Mv base B f i f i w (w.alloc (Q #[J Z a,J Z m,J Z d,J Z l] 193)):=Mv.alloc h.bs _;refine(I.o _ U).mono ?_;rintro e z ⟨rfl,r,g⟩;have v:=g.kept w.heap.size n C;have q:=R.of_block v.1;have L:w.heap.size<z.heap.size:=Nat.lt_of_lt_of_le n g.bel.size;have K:Hd (Mv base B f i f i w z):=u.trans g;have H:Hd _:=r;have Y:Hd _:=q;have b0:z.cell? ⟨w.heap.size,0,F⟩=S (J Z a):=q.c0;clear u g U R n r v h q;have D:(c==a)=P:=by rw[beq_eq_false_iff_ne];exact G
 have O:(c != a)=E:=by simp[bne,D]
 go_wp2_with fail;go_ret;exact⟨rfl,f,i,H.o,K.o⟩
theorem zbG(base B:Nat)(s:ByteArray)(k p:Nat)(c n d l:Int)(f i:Value)(z:List FR)(y:List SG)(w:World)(h:RS w base B s k f i z y)(V:s.size<=2000)(N:k<=s.size)(u:T.sk s k=p)(hc:T.ch s p=c)(_hlen:z.length+7<=1099511627776)(_hlen2:y.length+1<=1099511627776)(a:Int)(m:a≠256/\a≠257/\a≠258/\a≠259/\a≠260/\a≠261/\a≠262/\a≠263)(H:c=a)(Y:p<s.size):
 Calls A 134 #[.pointer (S ⟨B,0,F⟩),frA ⟨a,n,d,l⟩] w (SP base B s f i z y w ⟨E,p+1,[],[]⟩):=by
 show Calls A 134 #[.pointer (S ⟨B,0,F⟩),.agg #[J Z a,J Z n,J Z d,J Z l]] w _;have W:p<=s.size:=by rw[<-u];exact T.sk_le N
 have b:=λ(wz:World) (hz:RS wz base B s k f i z y)=>zI base B s k f i z y wz V N hz
 rw[u,hc]at b;have I:Hd _:=b;have n0:(a==256)=P:=beq_eq_false_iff_ne.2 m.1;have n1:(a==257)=P:=beq_eq_false_iff_ne.2 m.2.1;have n2:(a==258)=P:=beq_eq_false_iff_ne.2 m.2.2.1;have n3:(a==259)=P:=beq_eq_false_iff_ne.2 m.2.2.2.1;have n4:(a==260)=P:=beq_eq_false_iff_ne.2 m.2.2.2.2.1;have n5:(a==261)=P:=beq_eq_false_iff_ne.2 m.2.2.2.2.2.1;have n6:(a==262)=P:=beq_eq_false_iff_ne.2 m.2.2.2.2.2.2.1;have n7:(a==263)=P:=beq_eq_false_iff_ne.2 m.2.2.2.2.2.2.2;clear b;go_enter func134,ntmps134;go_wp2_with fail;have U:=h.alloc (Q #[J Z a,J Z n,J Z d,J Z l] 193);have R:FB (w.alloc (Q #[J Z a,J Z n,J Z d,J Z l] 193)) w.heap.size ⟨a,n,d,l⟩:=⟨ot,ot,ot,ot⟩;have D:=h.outNew;have q:w.heap.size<(w.alloc (Q #[J Z a,J Z n,J Z d,J Z l] 193)).heap.size:=ot;have v:Mv base B f i f i w (w.alloc (Q #[J Z a,J Z n,J Z d,J Z l] 193)):=Mv.alloc h.bs _;refine(I.o _ U).mono ?_;rintro e C ⟨rfl,t,g⟩;have x:=g.kept w.heap.size q D;have r:=R.of_block x.1;have L:w.heap.size<C.heap.size:=Nat.lt_of_lt_of_le q g.bel.size;have K:Hd (Mv base B f i f i w C):=v.trans g;have j:Hd _:=t;have a0:Hd _:=r;have b0:C.cell? ⟨w.heap.size,0,F⟩=S (J Z a):=r.c0;clear v g U R q t x h r;have G:(c==a)=E:=by rw[beq_iff_eq];exact H
 have O:(c != a)=P:=by simp[bne,G]
 have c1:=j.o.c1;have z1:=j.o.fz 1;have X:(p:Int)<2000:=ol;go_wp2_with fail;go_ret;exact⟨rfl,f,i,j.o.at (p+1) _ ol,K.o.trans (j.o.atMv _)⟩
theorem zae(base B:Nat)(s:ByteArray)(k p:Nat)(c b d l:Int)(i g:Value)(H:List FR)(G:List SG)(w:World)(h:RS w base B s k i g H G)(hs:s.size<=2000)(hk:k<=s.size)(O:T.sk s k=p)(hc:T.ch s p=c)(_hlen:H.length+7<=1099511627776)(_hlen2:G.length+1<=1099511627776)(a1:c=44):
 Calls A 134 #[.pointer (S ⟨B,0,F⟩),frA ⟨260,b,d,l⟩] w (SP base B s i g H G w ⟨E,p,[byF 44,⟨259,b,d,l⟩,⟨260,b,d,l⟩],[]⟩):=by
 show Calls A 134 #[.pointer (S ⟨B,0,F⟩),.agg #[J Z 260,J Z b,J Z d,J Z l]] w _;have a7:p<=s.size:=by rw[<-O];exact T.sk_le hk
 have t:=λ(f:World) (y:RS f base B s k i g H G)=>zI base B s k i g H G f hs hk y
 rw[O,hc]at t;have a3:Hd _:=t;clear t;go_enter func134,ntmps134;go_wp2_with fail;have hA:=h.alloc (Q #[J Z 260,J Z b,J Z d,J Z l] 193);have hF:FB (w.alloc (Q #[J Z 260,J Z b,J Z d,J Z l] 193)) w.heap.size ⟨260,b,d,l⟩:=⟨ot,ot,ot,ot⟩;have P:=h.outNew;have z:w.heap.size<(w.alloc (Q #[J Z 260,J Z b,J Z d,J Z l] 193)).heap.size:=ot;have R:Mv base B i g i g w (w.alloc (Q #[J Z 260,J Z b,J Z d,J Z l] 193)):=Mv.alloc h.bs _;refine(a3.o _ hA).mono ?_;rintro e a ⟨rfl,N,x⟩;have U:=x.kept w.heap.size z P;have D:=hF.of_block U.1;have L:w.heap.size<a.heap.size:=Nat.lt_of_lt_of_le z x.bel.size;have a6:Hd (Mv base B i g i g w a):=R.trans x;have I:Hd _:=N;have v:Hd _:=D;have b0:a.cell? ⟨w.heap.size,0,F⟩=S (J Z 260):=D.c0;clear R x hA hF z N U h D;have a8:(c==44)=E:=by rw[a1];decide
 have b1:a.cell? ⟨w.heap.size,1,F⟩=S (J Z b):=v.o.c1;have b2:a.cell? ⟨w.heap.size,2,F⟩=S (J Z d):=v.o.c2;have b3:a.cell? ⟨w.heap.size,3,F⟩=S (J Z l):=v.o.c3;go_wp2_with fail;have W:Hd (RS (a.alloc (Q #[J Z 259,J Z b,J Z d,J Z l] 193)) base B s p i g H G):=I.o.alloc _;have a5:Hd (Mv base B i g i g w (a.alloc (Q #[J Z 259,J Z b,J Z d,J Z l] 193))):=a6.o.trans (Mv.alloc I.o.bs _);have u:FB (a.alloc (Q #[J Z 259,J Z b,J Z d,J Z l] 193)) w.heap.size ⟨260,b,d,l⟩:=v.o.of_block (Below.heap_alloc _ _ _ L);clear b0 b1 b2 b3 v;have b0:(a.alloc (Q #[J Z 259,J Z b,J Z d,J Z l] 193)).cell? ⟨w.heap.size,0,F⟩=S (J Z 260):=u.c0;have b1:(a.alloc (Q #[J Z 259,J Z b,J Z d,J Z l] 193)).cell? ⟨w.heap.size,1,F⟩=S (J Z b):=u.c1;have b2:(a.alloc (Q #[J Z 259,J Z b,J Z d,J Z l] 193)).cell? ⟨w.heap.size,2,F⟩=S (J Z d):=u.c2;have b3:(a.alloc (Q #[J Z 259,J Z b,J Z d,J Z l] 193)).cell? ⟨w.heap.size,3,F⟩=S (J Z l):=u.c3;have e0:(a.alloc (Q #[J Z 259,J Z b,J Z d,J Z l] 193)).cell? ⟨a.heap.size,0,F⟩=S (J Z 259):=ot;have e1:(a.alloc (Q #[J Z 259,J Z b,J Z d,J Z l] 193)).cell? ⟨a.heap.size,1,F⟩=S (J Z b):=ot;have e2:(a.alloc (Q #[J Z 259,J Z b,J Z d,J Z l] 193)).cell? ⟨a.heap.size,2,F⟩=S (J Z d):=ot;have e3:(a.alloc (Q #[J Z 259,J Z b,J Z d,J Z l] 193)).cell? ⟨a.heap.size,3,F⟩=S (J Z l):=ot;have y:a.heap.size<(a.alloc (Q #[J Z 259,J Z b,J Z d,J Z l] 193)).heap.size:=ot;clear u;generalize a.alloc (Q #[J Z 259,J Z b,J Z d,J Z l] 193)=w2 at *;have r:w.heap.size<w2.heap.size:=ol;have a0:Out B i g a.heap.size:=I.o.outNew;have j:Hd (∀(f:World),Below w2.heap.size w2 f->f.cell? ⟨w.heap.size,0,F⟩=S (J Z 260)/\f.cell? ⟨w.heap.size,1,F⟩=S (J Z b)/\f.cell? ⟨w.heap.size,2,F⟩=S (J Z d)/\f.cell? ⟨w.heap.size,3,F⟩=S (J Z l)/\f.cell? ⟨a.heap.size,0,F⟩=S (J Z 259)/\f.cell? ⟨a.heap.size,1,F⟩=S (J Z b)/\f.cell? ⟨a.heap.size,2,F⟩=S (J Z d)/\f.cell? ⟨a.heap.size,3,F⟩=S (J Z l)):=by
  intro f m;exact⟨(m.cell (p:=⟨w.heap.size,0,F⟩) r).trans b0,(m.cell (p:=⟨w.heap.size,1,F⟩) r).trans b1,(m.cell (p:=⟨w.heap.size,2,F⟩) r).trans b2,(m.cell (p:=⟨w.heap.size,3,F⟩) r).trans b3,(m.cell (p:=⟨a.heap.size,0,F⟩) y).trans e0,(m.cell (p:=⟨a.heap.size,1,F⟩) y).trans e1,(m.cell (p:=⟨a.heap.size,2,F⟩) y).trans e2,(m.cell (p:=⟨a.heap.size,3,F⟩) y).trans e3⟩
 have C:Hd (∀(f w':World) (n V:Value),Below w2.heap.size w2 f->Mv base B i g n V f w'->w'.cell? ⟨w.heap.size,0,F⟩=S (J Z 260)/\w'.cell? ⟨w.heap.size,1,F⟩=S (J Z b)/\w'.cell? ⟨w.heap.size,2,F⟩=S (J Z d)/\w'.cell? ⟨w.heap.size,3,F⟩=S (J Z l)/\w'.cell? ⟨a.heap.size,0,F⟩=S (J Z 259)/\w'.cell? ⟨a.heap.size,1,F⟩=S (J Z b)/\w'.cell? ⟨a.heap.size,2,F⟩=S (J Z d)/\w'.cell? ⟨a.heap.size,3,F⟩=S (J Z l)):=by
  intro f w' n V m K;have q:=j.o f m;have X:w'.heap[a.heap.size]?=f.heap[a.heap.size]?:=(K.kept _ (Nat.lt_of_lt_of_le y m.size) a0).1;have Y:w'.heap[w.heap.size]?=f.heap[w.heap.size]?:=(K.kept _ (Nat.lt_of_lt_of_le r m.size) P).1;exact⟨by rw[World.cell?_of_block (w:=f) Y];exact q.1,by rw[World.cell?_of_block (w:=f) Y];exact q.2.1,by rw[World.cell?_of_block (w:=f) Y];exact q.2.2.1,by rw[World.cell?_of_block (w:=f) Y];exact q.2.2.2.1,by rw[World.cell?_of_block (w:=f) X];exact q.2.2.2.2.1,by rw[World.cell?_of_block (w:=f) X];exact q.2.2.2.2.2.1,by rw[World.cell?_of_block (w:=f) X];exact q.2.2.2.2.2.2.1,by rw[World.cell?_of_block (w:=f) X];exact q.2.2.2.2.2.2.2⟩
 go_region_held3 (λw'=>w'.cell? ⟨w.heap.size,0,F⟩=S (J Z 260)/\w'.cell? ⟨w.heap.size,1,F⟩=S (J Z b)/\w'.cell? ⟨w.heap.size,2,F⟩=S (J Z d)/\w'.cell? ⟨w.heap.size,3,F⟩=S (J Z l)/\w'.cell? ⟨a.heap.size,0,F⟩=S (J Z 259)/\w'.cell? ⟨a.heap.size,1,F⟩=S (J Z b)/\w'.cell? ⟨a.heap.size,2,F⟩=S (J Z d)/\w'.cell? ⟨a.heap.size,3,F⟩=S (J Z l)) (first|(refine j.o _ ?_;(repeat(first|exact Below.refl _ _|refine Below.drew ?_|refine Below.alloc ?_ sq _));done)|(refine C.o _ _ _ _ ?_ K;(repeat(first|exact Below.refl _ _|refine Below.drew ?_|refine Below.alloc ?_ sq _));done)) (first|(go_at_call 162;refine(zF _ _ ol ol).mono ?_;rintro e w' ⟨rfl,rfl⟩)|(go_at_call 133;refine(yR base B _ _ s p i g H [byF 44,⟨259,b,d,l⟩,⟨260,b,d,l⟩] G _ _ (W.o.alloc _) ot (by rfl) ow _ rfl).mono ?_;rintro e w' ⟨rfl,n,hr,K⟩))
 all_goals
  have a2:Hd _:=hr;have a4:Hd (Mv base B i g n g w w'):=(a5.o.trans (Mv.alloc W.o.bs _)).trans K;clear hr K;go_wp2_with fail;go_ret;exact⟨rfl,n,g,a2.o,a4.o⟩
theorem T.ch_pos{s:ByteArray}{k:Nat}(h:0<=T.ch s k):k<s.size:=by
 by_cases a:k<s.size
 ·exact a
 ·rw[T.ch_ge a]at h;omega
theorem zc7(base B:Nat)(s:ByteArray)(k:Nat)(f:FR)(m n:Value)(j:List FR)(i:List SG)(w:World)(h:RS w base B s k m n j i)(o:s.size<=2000)(p:k<=s.size)(b:j.length+7<=1099511627776)(a:i.length+1<=1099511627776)(t:0<=f.sym)(v:0<=f.depth)(u:f.depth<=1000000):
 Calls A 134 #[.pointer (S ⟨B,0,F⟩),frA f] w (SP base B s m n j i w (zq s k f)):=by
 obtain⟨g,c,d,l⟩:=f;simp only at t v u;by_cases I:g=256
 ·subst I;exact zbA base B s k _ _ c d l m n j i w h o p rfl rfl b a
 by_cases H:g=257
 ·subst H;by_cases q:T.ch s (T.sk s k)=59
  ·have e:zq s k ⟨257,c,d,l⟩=⟨E,T.sk s k,[byF 59,⟨256,0,0,0⟩,⟨257,0,0,0⟩],[]⟩:=(by simp[zq,q]);rw[e];exact zbB base B s k _ _ c d l m n j i w h o p rfl rfl b a q
  ·have e:zq s k ⟨257,c,d,l⟩=⟨E,T.sk s k,[],[]⟩:=(by simp[zq,q]);rw[e];exact jD base B s k _ _ c d l m n j i w h o p rfl rfl b a q
 by_cases G:g=258
 ·subst G;exact zbD base B s k _ _ c d l m n j i w h o p rfl rfl b a v u _ rfl
 by_cases D:g=259
 ·subst D;exact zbC base B s k _ _ c d l m n j i w h o p rfl rfl b a v u
 by_cases C:g=260
 ·subst C;by_cases q:T.ch s (T.sk s k)=44
  ·have e:zq s k ⟨260,c,d,l⟩=⟨E,T.sk s k,[byF 44,⟨259,c,d,l⟩,⟨260,c,d,l⟩],[]⟩:=(by simp[zq,q]);rw[e];exact zae base B s k _ _ c d l m n j i w h o p rfl rfl b a q
  ·have e:zq s k ⟨260,c,d,l⟩=⟨E,T.sk s k,[],[]⟩:=(by simp[zq,q]);rw[e];exact Q0 base B s k _ _ c d l m n j i w h o p rfl rfl b a q
 by_cases z:g=261
 ·subst z;exact zc5 base B s k _ _ c d l m n j i w h o p rfl rfl b a _ rfl
 by_cases y:g=262
 ·subst y;exact step_bits base B s k _ _ c d l m n j i w h o p rfl rfl b a _ rfl
 by_cases x:g=263
 ·subst x;by_cases J:T.ch s (T.sk s k)<97
  ·have e:zq s k ⟨263,c,d,l⟩=⟨P,T.sk s k,[],[]⟩:=(by simp[zq];omega);rw[e];exact Qs base B s k _ _ c d l m n j i w h o p rfl rfl b a J
  ·by_cases K:122<T.ch s (T.sk s k)
   ·have e:zq s k ⟨263,c,d,l⟩=⟨P,T.sk s k,[],[]⟩:=(by simp[zq];omega);rw[e];exact Qt base B s k _ _ c d l m n j i w h o p rfl rfl b a K
   ·have e:zq s k ⟨263,c,d,l⟩=⟨E,T.sk s k+1,[],[⟨c,T.sk s k,d,l,s.extract (T.sk s k) (T.sk s k+1)⟩]⟩:=(by simp[zq];omega);rw[e];exact Jf base B s k _ _ c d l m n j i w h o p rfl rfl b a ol ol (T.ch_pos ol)
 have r:g≠256/\g≠257/\g≠258/\g≠259/\g≠260/\g≠261/\g≠262/\g≠263:=⟨I,H,G,D,C,z,y,x⟩;by_cases q:T.ch s (T.sk s k)=g
 ·have e:zq s k ⟨g,c,d,l⟩=⟨E,T.sk s k+1,[],[]⟩:=by simp[zq,r,q]
  rw[e];exact zbG base B s k _ _ c d l m n j i w h o p rfl rfl b a g r q (T.ch_pos ol)
 ·have e:zq s k ⟨g,c,d,l⟩=⟨P,T.sk s k,[],[]⟩:=by simp[zq,r,q]
  rw[e];exact jE base B s k _ _ c d l m n j i w h o p rfl rfl b a g r q
theorem T.dig_lt{s:ByteArray}{k:Nat}(h:T.dig (T.ch s k)=E):k<s.size:=by
 by_cases a:k<s.size
 ·exact a
 ·rw[T.ch_ge a]at h;simp[T.dig]at h
theorem T.ch_nn{s:ByteArray}{k:Nat}(h:0<=T.ch s k):k<s.size:=by
 by_cases a:k<s.size
 ·exact a
 ·rw[T.ch_ge a]at h;omega
theorem T.dgF_bd(s:ByteArray)(b c:Int)(a:Bool)(p:Nat):∀n j,j<=s.size->j<=(T.dgF s b c a p n j).2/\(T.dgF s b c a p n j).2<=s.size:=by
 intro n;induction n with
 |zero=>intro j h;exact⟨Nat.le_refl _,h⟩
 | succ n ih =>
  intro j h;cases hd:T.dig (T.ch s j)with
  |false=>rw[T.dgF_end hd];exact⟨Nat.le_refl _,h⟩
  | true =>
   cases hs:T.stp b c a (T.ch s j) ((j:Int)-p) (T.ch s p)with
   |true=>rw[T.dgF_stop hd hs];exact⟨Nat.le_refl _,h⟩
   | false =>
    rw[T.dgF_next hd hs];have:=ih (j+1) (T.dig_lt hd)
    exact⟨ol,this.2⟩
theorem T.dg_bd(s:ByteArray)(b c:Int)(a:Bool)(p:Nat)(h:p<=s.size):p<=(T.dg s b c a p).2/\(T.dg s b c a p).2<=s.size:=T.dgF_bd s b c a p _ p h
def jS(f:FR):Prop:=0<=f.sym/\f.sym≠256/\f.sym≠257/\f.sym≠258/\f.sym≠259/\f.sym≠260
def Fst(l:List FR)(d:Int):Prop:=l=[]\/∃f r,l=f::r/\jS f/\r.length<=6/\(∀g∈l,0<=g.sym/\0<=g.depth/\g.depth<=d+1)
structure SF (s:ByteArray) (k:Nat) (f:FR) (r:Res):Prop where
 lo:k<=r.at_
 hi:r.at_<=s.size
 sg:r.sg.length<=1
 fst:Fst r.push f.depth
 no:r.ok=P->r.push=[]/\r.sg=[]
 lf:jS f->r.push=[]/\(r.ok=E->k+1<=r.at_)
theorem Yz{c:Int}(h:0<=c)(a:c<256):jS (byF c):=⟨h,by show c≠256;omega,by show c≠257;omega,by show c≠258;omega,by show c≠259;omega,by show c≠260;omega⟩
theorem zcA(d:Int)(p:Nat)(c:Int)(l:List FR)(b:0<=d)(h:Yx d p c=S l):Fst l d:=by
 have a:∀(c0:Int) (r:List FR),0<=c0->c0<256->r.length<=6->(∀g∈r,0<=g.sym/\0<=g.depth/\g.depth<=d+1)->Fst (byF c0::r) d:=λc0 r h0 h1 h2 h3 =>
  .inr ⟨byF c0,r,rfl,Yz h0 h1,h2,by
   intro g hg;rcases List.mem_cons.1 hg with rfl|hg
   ·exact⟨h0,by show(0:Int)<=0;omega,by show(0:Int)<=d+1;omega⟩
   ·exact h3 g hg⟩
 unfold Yx at h;repeat' split at h
 all_goals first
  |(simp at h;done)
  |(injection h with h;subst h;refine a _ _ ol ol ot ?_;simp[byF];omega)
theorem zcm(f:FR)(b:0<=f.depth):Fst (ZJ f) f.depth:=by
 have a:∀(f0:FR) (r:List FR),jS f0->r.length<=6->(∀g∈f0::r,0<=g.sym/\0<=g.depth/\g.depth<=f.depth+1)->Fst (f0::r) f.depth:=λf0 r h0 h2 h3=>.inr ⟨f0,r,rfl,h0,h2,h3⟩
 unfold ZJ;repeat' split
 all_goals (refine a _ _ (by simp[jS]) ot ?_;simp[byF];try omega)
theorem XI(s:ByteArray)(k:Nat)(f:FR)(d:k<=s.size)(g:0<=f.sym)(c:0<=f.depth):SF s k f (zq s k f):=by
 have b:=T.sk_ge s k;have a:=T.sk_le d;unfold zq;generalize T.sk s k=p at *;simp only;split
 ·next e=>exact⟨b,a,ot,.inr ⟨_,_,rfl,by simp[jS],ot,by simp[byF];omega⟩,ot,λhl=>absurd e hl.2.1⟩
 ·split
  ·next e =>
   split
   ·exact⟨b,a,ot,.inr ⟨_,_,rfl,Yz ol ol,ot,by simp[byF];omega⟩,ot,λhl=>absurd e hl.2.2.1⟩
   ·exact⟨b,a,ot,.inl rfl,ot,λhl=>absurd e hl.2.2.1⟩
  ·split
   ·next e =>
    split
    ·next l hl=>exact⟨b,a,ot,zcA _ _ _ _ c hl,ot,λhl=>absurd e hl.2.2.2.1⟩
    ·exact⟨b,a,ot,.inl rfl,ot,λhl=>absurd e hl.2.2.2.1⟩
   ·split
    ·next e=>exact⟨b,a,ot,zcm f c,ot,λhl=>absurd e hl.2.2.2.2.1⟩
    ·split
     ·next e =>
      split
      ·exact⟨b,a,ot,.inr ⟨_,_,rfl,Yz ol ol,ot,by simp[byF];omega⟩,ot,λhl=>absurd e hl.2.2.2.2.2⟩
      ·exact⟨b,a,ot,.inl rfl,ot,λhl=>absurd e hl.2.2.2.2.2⟩
     ·split
      ·have:=T.dg_bd s 9 58 E p a
       split
       ·next hc=>simp at hc;exact⟨by show k<=(T.dg s 9 58 E p).2;omega,this.2,ot,.inl rfl,ot,λ_=>⟨rfl,λ_=>by show k+1<=(T.dg s 9 58 E p).2;omega⟩⟩
       ·exact⟨by show k<=(T.dg s 9 58 E p).2;omega,this.2,ot,.inl rfl,ot,λ_=>⟨rfl,ot⟩⟩
      ·split
       ·have:=T.dg_bd s 32 50 P p a
        split
        ·next hc=>simp at hc;exact⟨by show k<=(T.dg s 32 50 P p).2;omega,this.2,ot,.inl rfl,ot,λ_=>⟨rfl,λ_=>by show k+1<=(T.dg s 32 50 P p).2;omega⟩⟩
        ·exact⟨by show k<=(T.dg s 32 50 P p).2;omega,this.2,ot,.inl rfl,ot,λ_=>⟨rfl,ot⟩⟩
       ·split
        ·split
         ·next hc =>
          have:=T.ch_nn (s:=s) (k:=p) ol
          exact⟨by show k<=p+1;omega,by show p+1<=s.size;omega,ot,.inl rfl,ot,λ_=>⟨rfl,λ_=>by show k+1<=p+1;omega⟩⟩
         ·exact⟨b,a,ot,.inl rfl,ot,λ_=>⟨rfl,ot⟩⟩
        ·split
         ·next hc =>
          have:=T.ch_nn (s:=s) (k:=p) ol
          exact⟨by show k<=p+1;omega,by show p+1<=s.size;omega,ot,.inl rfl,ot,λ_=>⟨rfl,λ_=>by show k+1<=p+1;omega⟩⟩
         ·exact⟨b,a,ot,.inl rfl,ot,λ_=>⟨rfl,ot⟩⟩
def Xo(s:ByteArray):Nat->Nat->List FR->List SG->Option (Bool×Nat×List SG)
 |_,k,[],gs=>S (E,k,gs)
 |0,_,_::_,_=>F
 | n+1,k,f::fs,gs =>
  if(zq s k f).ok=E then Xo s n (zq s k f).at_ ((zq s k f).push++fs) ((zq s k f).sg++gs)else S (P,(zq s k f).at_,[])
structure PR where
 ok:Bool
 at_:Nat
 sg:List SG
 n:Nat
def pL(one:Nat->FR->Option PR):Nat->List FR->Option PR
 |k,[]=>S ⟨E,k,[],0⟩
 | k,f::fs=>match one k f with
  |none=>F
  | some a=>if a.ok=E then (match pL one a.at_ fs with
   |none=>F
   |some b=>S ⟨b.ok,b.at_,b.sg++a.sg,a.n+b.n⟩)else S a
def pF(s:ByteArray):Nat->Nat->FR->Option PR
 |0,_,_=>F
 | n+1,k,f =>
  if(zq s k f).ok=E then(match pL (pF s n) (zq s k f).at_ (zq s k f).push with
   |none=>F
   |some q=>S ⟨q.ok,q.at_,q.sg++(zq s k f).sg,q.n+1⟩)else S ⟨P,(zq s k f).at_,[],1⟩
def zeU(s:ByteArray)(q:PR)(k:Nat)(l:List FR):Prop:=∀N fs gs,Xo s (N+q.n) k (l++fs) gs=if q.ok=E then Xo s N q.at_ fs (q.sg++gs)else S (P,q.at_,[])
theorem Jt(s:ByteArray)(c:Nat->FR->Option PR)(m:∀k f q,c k f=S q->zeU s q k [f]):∀(l:List FR) (k:Nat) (q:PR),pL c k l=S q->zeU s q k l:=by
 intro l;induction l with
 | nil =>
  intro k q h;simp only[pL]at h;injection h with h
  subst h;intro N g d;simp
 | cons f r ih =>
  intro k q h N g d;simp only[pL]at h;split at h
  ·simp at h
  ·next a ha =>
   have i:=m k f a ha;split at h
   ·next hok =>
    split at h
    ·simp at h
    ·next b hb =>
     injection h with h
     subst h;have j:=ih a.at_ b hb;have e:=i (N+b.n) (r++g) d;rw[if_pos hok]at e;simp only[List.cons_append,List.nil_append]at e⊢;rw[show N+(a.n+b.n)=N+b.n+a.n from by omega,e,j,List.append_assoc]
   ·next hok =>
    injection h with h
    subst h;have e:=i N (r++g) d;simpa[hok]using e
theorem zdy(s:ByteArray):∀(n k:Nat) (f:FR) (q:PR),pF s n k f=S q->zeU s q k [f]:=by
 intro n;induction n with
 |zero=>intro k f q h;simp[pF]at h
 | succ n ih =>
  intro k f q h N d c;simp only[pF]at h;split at h
  ·next hok =>
   split at h
   ·simp at h
   ·next b hb =>
    injection h with h
    subst h;have a:=Jt s (pF s n) ih _ _ _ hb;have e:=a N d ((zq s k f).sg++c);simp only[List.cons_append,List.nil_append];rw[show N+(b.n+1)=(N+b.n)+1 from by omega,Xo,if_pos hok,e,List.append_assoc]
  ·next hok =>
   injection h with h
   subst h;simp only[List.cons_append,List.nil_append,Xo,hok];simp
structure zha (s:ByteArray) (k:Nat) (q:PR) (c:Nat):Prop where
 lo:k<=q.at_
 hi:q.at_<=s.size
 yes:q.ok=E->q.n+c<=16*(q.at_-k)+1
 no:q.ok=P->q.n<=16*(s.size-k)+4
theorem za9(s:ByteArray)(d:Nat->FR->Option PR)(m:Nat)(t:∀k f,m<=k->k<=s.size->0<=f.sym->0<=f.depth->∃q,d k f=S q/\zha s k q 0):
 ∀(l:List FR) (k:Nat),m<=k->k<=s.size->(∀f∈l,0<=f.sym/\0<=f.depth)->∃q,pL d k l=S q/\k<=q.at_/\q.at_<=s.size/\(q.ok=E->q.n<=16*(q.at_-k)+l.length)/\(q.ok=P->q.n<=16*(s.size-k)+4+l.length):=by
 intro l;induction l with
 |nil=>intro k e j _;exact⟨_,rfl,Nat.le_refl _,j,ot,ot⟩
 | cons f r ih =>
  intro k e j i;obtain⟨a,o,h⟩:=t k f e j (i f ot).1 (i f ot).2;have:=h.lo
  have:=h.hi
  cases hok:a.ok with
  | false =>
   refine⟨a,by simp[pL,o,hok],ol,ol,by simp[hok],λ_=>?_⟩;have:=h.no hok
   omega
  | true =>
   obtain⟨b,p,y,w,v,u⟩:=ih a.at_ ol ol (λg hg=>i g (by simp[hg]));have x:=h.yes hok;refine⟨⟨b.ok,b.at_,b.sg++a.sg,a.n+b.n⟩,by simp[pL,o,hok,p],ox,w,?_,?_⟩
   ·intro c;have:=v c
    simp only[List.length_cons];omega
   ·intro c;have:=u c
    simp only[List.length_cons];omega
theorem zfj(s:ByteArray):∀(n k:Nat) (f:FR),k<=s.size->0<=f.sym->0<=f.depth->2*(s.size-k)+2<=n->∃q,pF s n k f=S q/\zha s k q 0/\(jS f->q.ok=E->k+1<=q.at_/\q.n=1):=by
 intro n;induction n using Nat.strongRecOn with
 | ind n ih =>
  intro k f u l w D;cases n with
  |zero=>omega
  | succ n =>
   have c:=XI s k f u l w;cases hok:(zq s k f).ok with
   | false =>
    refine⟨⟨P,(zq s k f).at_,[],1⟩,by simp[pF,hok],⟨c.lo,c.hi,ot,by intro _;simp only;omega⟩,ot⟩
   | true =>
    have p:=c.lo;have v:=c.hi;rcases c.fst with hp|⟨f0,r,hp,hlf,hr,hall⟩
    ·refine⟨⟨E,(zq s k f).at_,(zq s k f).sg,1⟩,by simp[pF,hok,hp,pL],⟨c.lo,c.hi,by intro _;simp only;omega,ot⟩,λhl _=>⟨(c.lf hl).2 hok,rfl⟩⟩
    ·have e:¬jS f:=λhl=>by have:=(c.lf hl).1;rw[hp]at this;simp at this
     have h:=hall f0 (by rw[hp];simp);cases n with
     |zero=>omega
     |succ m =>
     -- the jS
     have a:=XI s (zq s k f).at_ f0 c.hi h.1 h.2.1;have i:=(a.lf hlf).1;cases hok0:(zq s (zq s k f).at_ f0).ok with
     | false =>
      refine⟨⟨P,(zq s (zq s k f).at_ f0).at_,(zq s k f).sg,2⟩,by rw[pF,if_pos hok,hp];simp[pL,pF,hok0],⟨by have:=a.lo;simp only;omega,a.hi,ot,by intro _;simp only;omega⟩,λhl=>absurd hl e⟩
     | true =>
      have t:=(a.lf hlf).2 hok0;have j:=a.hi;have z:pF s (m+1) (zq s k f).at_ f0=S ⟨E,(zq s (zq s k f).at_ f0).at_,(zq s (zq s k f).at_ f0).sg,1⟩:=(by rw[pF,if_pos hok0,i];simp[pL]);obtain⟨b,x,F,C,B,A⟩:=za9 s (pF s (m+1)) (zq s (zq s k f).at_ f0).at_ (λk' g h1 h2 h3 h4=>by
       obtain⟨q,o,y,_⟩:=ih (m+1) ol k' g h2 h3 h4 ol;exact⟨q,o,y⟩) r (zq s (zq s k f).at_ f0).at_ (Nat.le_refl _) j (λg hg=>by have:=hall g (by rw[hp];simp[hg]);exact⟨this.1,this.2.1⟩)
      refine⟨⟨b.ok,b.at_,b.sg++(zq s (zq s k f).at_ f0).sg++(zq s k f).sg,1+b.n+1⟩,by rw[pF,if_pos hok,hp];simp[pL,z,x],⟨ox,C,?_,?_⟩,λhl=>absurd hl e⟩
      ·intro d;have:=B d
       simp only;omega
      ·intro d;have:=A d
       simp only;omega
def rd0(s:ByteArray):Option PR:=pL (pF s (2*s.size+2)) 0 [⟨256,0,0,0⟩,⟨257,0,0,0⟩]
theorem Jo(s:ByteArray):∃q,rd0 s=S q/\q.at_<=s.size/\q.n<=16*s.size+6/\Xo s q.n 0 [⟨256,0,0,0⟩,⟨257,0,0,0⟩] []=S (q.ok,q.at_,if q.ok=E then q.sg else[]):=by
 obtain⟨q,a,j,d,c,b⟩:=za9 s (pF s (2*s.size+2)) 0 (λk f _ d c b=>by
  obtain⟨q,a,g,_⟩:=zfj s (2*s.size+2) k f d c b ol;exact⟨q,a,g⟩) [⟨256,0,0,0⟩,⟨257,0,0,0⟩] 0 (Nat.le_refl _) (Nat.zero_le _) ot
 have i:=Jt s _ (λk f q h=>zdy s _ k f q h) _ _ _ a;have e:=i 0 [] [];simp only[List.append_nil,Nat.zero_add]at e;refine⟨q,a,d,?_,?_⟩
 ·cases hok:q.ok with
  |true=>have:=c hok;simp only[List.length_cons,List.length_nil]at this;omega
  |false=>have:=b hok;simp only[List.length_cons,List.length_nil]at this;omega
 ·rw[e];cases hok:q.ok<;>simp[Xo]
theorem zT{b:Nat}{w w':World}(h:Below b w w')(n:Nat):Below b w (w'.drewN n):=⟨h.os,h.tape,h.output,h.size,h.block⟩
theorem RS.pop{w:World}{base B s k gv f fs gs g cap}(h:RS w base B s k (O (S ⟨g,0,F⟩) (fs.length+1) cap) gv (f::fs) gs):
 RS (w.setCell ⟨B,2,F⟩ (O (S ⟨g,0,F⟩) fs.length cap)) base B s k (O (S ⟨g,0,F⟩) fs.length cap) gv fs gs :=
 ⟨X9 h.blk,ownsRow_setCell_other (ownsRow_pop (zbe fs) h.st) (show(O (S ⟨g,0,F⟩) fs.length cap).ownBlock≠S B from h.neS) _,ownsRow_setCell_other h.sg h.neG _,h.hB⟩
theorem RS.top{w:World}{base B s k gv f fs gs g cap}(h:RS w base B s k (O (S ⟨g,0,F⟩) (fs.length+1) cap) gv (f::fs) gs):
 w.cell? ⟨g,fs.length*4,F⟩=S (J Z f.sym)/\w.cell? ⟨g,fs.length*4+1,F⟩=S (J Z f.kind)/\w.cell? ⟨g,fs.length*4+2,F⟩=S (J Z f.depth)/\w.cell? ⟨g,fs.length*4+3,F⟩=S (J Z f.list):=by
 have b:=λj hj=>World.ownsRow.cellAt h.st j hj
 have m:=zbe fs;have a:∀i,i<4->(frC (f::fs))[fs.length*4+i]?=(frV f)[i]?:=λi hi=>by
  show(frC fs++frV f)[fs.length*4+i]?=_;rw[List.getElem?_append_right ol];congr 1;omega
 have l:=(b (fs.length*4) (by show _<(fs.length+1)*4;omega)).trans (a 0 ol);have e:=(b (fs.length*4+1) (by show _<(fs.length+1)*4;omega)).trans (a 1 ol);have d:=(b (fs.length*4+2) (by show _<(fs.length+1)*4;omega)).trans (a 2 ol);have c:=(b (fs.length*4+3) (by show _<(fs.length+1)*4;omega)).trans (a 3 ol);exact⟨l,e,d,c⟩
theorem RS.nil{w:World}{base B s k sv gv gs}(h:RS w base B s k sv gv [] gs):∃o cap,sv=O o 0 cap:=by
 rcases h.st.2 with⟨rfl,_⟩|⟨g,cap,cur,rfl,_⟩
 ·exact⟨F,0,rfl⟩
 ·exact⟨_,cap,rfl⟩
theorem RS.capLe{w:World}{base B s k gv f fs gs g cap}(h:RS w base B s k (O (S ⟨g,0,F⟩) (fs.length+1) cap) gv (f::fs) gs):fs.length+1<=cap:=by
 rcases h.st.2 with⟨h0,_⟩|⟨g',cap',cur,hv,_,_,hn,_⟩
 ·cases h0
 ·cases hv;exact hn
structure LI (s:ByteArray) (M:Nat) (R:Bool×Nat×List SG) (n k:Nat) (fs:List FR) (gs:List SG):Prop where
 run:Xo s n k fs gs=S R
 le:n<=M
 at_:k<=s.size
 fl:fs.length+7*n<=2+7*M
 gl:gs.length+n<=M
 all:∀f∈fs,0<=f.sym/\0<=f.depth/\f.depth+n<=M
theorem LI.next{s M R n k f fs gs}(h:LI s M R (n+1) k (f::fs) gs)(d:(zq s k f).ok=E):LI s M R n (zq s k f).at_ ((zq s k f).push++fs) ((zq s k f).sg++gs):=by
 have i:=h.all f ot;have c:=XI s k f h.at_ i.1 i.2.1;have e:=h.fl;have o:=h.gl;have j:=c.sg;have m:=h.le;simp only[List.length_cons]at e;have a:=h.run;rw[Xo,if_pos d]at a;have l:(zq s k f).push.length<=7:=by
  rcases c.fst with hp|⟨f0,r,hp,_,hr,_⟩
  ·rw[hp];simp
  ·rw[hp];simp only[List.length_cons];omega
 refine⟨a,ol,c.hi,by simp only[List.length_append];omega,by simp only[List.length_append];omega,?_⟩;intro g hg;rcases List.mem_append.1 hg with hg|hg
 ·rcases c.fst with hp|⟨f0,r,hp,_,hr,hall⟩
  ·rw[hp]at hg;simp at hg
  ·have b:=hall g hg;have p:=i.2.2;exact⟨b.1,b.2.1,ol⟩
 ·have b:=h.all g (by simp[hg]);exact⟨b.1,b.2.1,ol⟩
theorem LI.fails{s M R n k f fs gs}(h:LI s M R (n+1) k (f::fs) gs)(b:(zq s k f).ok=P):R=(P,(zq s k f).at_,[]):=by
 have a:=h.run;rw[Xo,if_neg (by rw[b];decide)]at a;injection a with a
 exact a.symm
theorem LI.stops{s M R n k gs}(h:LI s M R n k [] gs):R=(E,k,gs):=by
 have a:=h.run;cases n<;>(simp only[Xo]at a;injection a with a;exact a.symm)
def rdE(s:ByteArray)(R:Bool×Nat×List SG):Bool×Nat×List SG :=
 if R.1=E then(if 0<=T.ch s (T.sk s R.2.1)then(P,T.sk s R.2.1,[])else(E,T.sk s R.2.1,R.2.2))else R
def rd(s:ByteArray):Bool×Nat×List SG:=match rd0 s with
 |none=>(P,0,[])
 |some q=>rdE s (q.ok,q.at_,if q.ok=E then q.sg else[])
def zeK(base:Nat)(D:Bool×Nat×List SG)(e:Ending)(w':World):Prop :=
 ∃ v, (D.1 = E /\ e = .returned (.tuple #[v, J Z (-1)]) /\ w'.ownsRow base 162 5 v D.2.2.length (sgC D.2.2)) \/
      (D.1=P/\e=.returned (.tuple #[O F 0 0,J Z D.2.1]))
theorem zdh(s:ByteArray)(w:World)(U:s.size<=2000)(M:Nat)(R:Bool×Nat×List SG)(hM:M<=40000)(G:Xo s M 0 [⟨256,0,0,0⟩,⟨257,0,0,0⟩] []=S R):
 Calls A 96 #[.string s] w λe w'=>Below w.heap.size w w'/\zeK w.heap.size (rdE s R) e w':=by
 have a4:=λw=>Xa 256 w
 have a3:=λw=>Xa 257 w
 have a5:1<=M:=by cases M with|zero=>simp[Xo]at G|succ n=>omega
 have HL:Hd (∀c,c=[]->LI s M R M 0 [⟨256,0,0,0⟩,⟨257,0,0,0⟩] c):=λc hgs=>by subst hgs;exact⟨G,Nat.le_refl _,Nat.zero_le _,ot,ot,ot⟩
 clear G;have y:Hd (RS (w.alloc (Q #[.string s,J Z 0,O F 0 0,O F 0 0] 190)) w.heap.size w.heap.size s 0 (O F 0 0) (O F 0 0) [] []) :=
  ⟨heap_alloc_new w _,World.ownsRow_nil _ _ _ _,World.ownsRow_nil _ _ _ _,Nat.le_refl _⟩
 go_enter func96,ntmps96;go_wp2_with fail;refine(Yc w.heap.size w.heap.size _ _ s 0 _ _ [] [⟨256,0,0,0⟩,⟨257,0,0,0⟩] [] _ _ y.o ot (by rfl) ot _ rfl).mono ?_;rintro e w1 ⟨rfl,a1,p,D⟩;have H:Hd _:=p;have K:Hd (Below w.heap.size w w1):=((Below.refl _ _).alloc (Nat.le_refl _) _).trans D.bel;clear p D y;go_wp2_with fail;go_loopg [5] M (λn _ wr=>∃k d c N u,LI s M R n k d c/\RS wr w.heap.size w.heap.size s k N u d c/\Below w.heap.size w wr)
 case atStart=>exact⟨0,_,[],_,_,HL.o _ rfl,H.o,K.o⟩
 case round =>
  obtain⟨k,d,c,N,u,q,p,hb⟩:=hrel;have a:Hd _:=q;have l:Hd _:=p;have HB:Hd _:=hb;have v:k<=s.size:=q.at_;have c2:=p.c2;have L:=p.fz 2;clear hb p q;cases d with
  | nil =>
   obtain⟨o,i,rfl⟩:=l.o.nil;have HS:Hd (R=(E,k,c)):=a.o.stops;have C:=T.ch_lo s (T.sk s k);obtain⟨a8,a7⟩:=C;go_wp2_with fail;refine(zI w.heap.size w.heap.size s k _ u [] c _ U v l.o).mono ?_;rintro e B ⟨rfl,b,h⟩;have t:Hd _:=b;have j:Hd (Below w.heap.size w B):=HB.o.trans h.bel;have c1:=b.c1;have c3:=b.c3;clear b h c2 L;by_cases Y:0<=T.ch s (T.sk s k)
   ·have z:Hd (rdE s R=(P,T.sk s k,[])):=by
     show _=_;rw[HS.o];simp[rdE,Y]
    go_wp2_with fail;go_quiet (fail)
    go_wp2_with fail;go_ret2;refine⟨zT j.o _,?_⟩;rw[z.o];exact⟨.bool E,.inr ⟨rfl,rfl⟩⟩
   ·have z:Hd (rdE s R=(E,T.sk s k,c)):=by
     show _=_;rw[HS.o];simp[rdE,Y]
    go_wp2_with fail;go_ret2;refine⟨j.o,?_⟩;rw[z.o];exact⟨u,.inl ⟨rfl,rfl,t.o.sg⟩⟩
  | cons f d =>
   obtain⟨g,i,rfl⟩:=ownsRow_succ l.o.st;obtain⟨q0,q1,q2,q3⟩:=l.o.top;have X:=l.o.capLe;have x:=a.o.fl;have W:=a.o.all f ot;have r:Hd (RS ((wr.setCell ⟨w.heap.size,2,F⟩ (O (S ⟨g,0,F⟩) d.length i)).alloc (Q #[J Z f.sym,J Z f.kind,J Z f.depth,J Z f.list] 193)) w.heap.size w.heap.size s k (O (S ⟨g,0,F⟩) d.length i) u d c):=l.o.pop.alloc _;have I:Hd (w.heap.size<=(wr.setCell ⟨w.heap.size,2,F⟩ (O (S ⟨g,0,F⟩) d.length i)).heap.size):=l.o.pop.bs;have a2:w.heap.size<wr.heap.size:=l.o.lt;have zf:∀o,(wr.alloc o).frozen? ⟨w.heap.size,2,F⟩=P:=λo=>(l.o.alloc o).fz 2
   simp only[List.length_cons]at x;have V:d.length<=1000000:=ol;clear x;generalize D:d.length=m at *;have i0:(0:Int)<=(m:Int):=ol;have i1:(m:Int)<=(i:Int):=ol;have i2:(m:Int)<((m+1:Nat):Int):=ol;have e1:(((m+1:Nat):Int)-1)=(m:Int):=ol;go_wp2_with fail;have hA:=r.o;have hX:=zc7 w.heap.size w.heap.size s k f _ u d c _ r.o U v ol (by have:=a.o.gl;have:=a.o.le;omega) W.1 W.2.1 (by have:=a.o.le;omega);refine hX.mono ?_;rintro e B ⟨rfl,a0,a6,b,h⟩;have j:Hd (Below w.heap.size w B):=((HB.o.setCell (Nat.le_refl _) _).alloc I.o _).trans h.bel;have t:Hd _:=b;have c1:=b.c1;clear hA hX b h r l q0 q1 q2 q3 c2 L zf;cases gk with
   |zero=>exact absurd a.o.run (by simp[Xo])
   | succ n =>
    cases hok:(zq s k f).ok with
    | true =>
     have HN:Hd (LI s M R n (zq s k f).at_ ((zq s k f).push++d) ((zq s k f).sg++c)):=a.o.next hok;go_wp2_with fail;go_roundg n
     case measure=>omega
     case rel=>exact⟨_,_,_,_,_,HN.o,t.o,j.o⟩
    | false =>
     have z:Hd (rdE s R=(P,(zq s k f).at_,[])):=by
      show _=_;rw[a.o.fails hok];rfl
     go_wp2_with fail;go_quiet (fail)
     go_wp2_with fail;go_ret2;refine⟨zT j.o _,?_⟩;rw[z.o];exact⟨.bool E,.inr ⟨rfl,rfl⟩⟩
end Go.Proofs.YtaebngpoagjafabGreat
