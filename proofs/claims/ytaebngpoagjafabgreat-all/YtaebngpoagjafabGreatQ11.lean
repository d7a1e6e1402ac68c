import Derived.Test.YtaebngpoagjafabGreatQ05
set_option maxRecDepth 100000
set_option maxHeartbeats 6400000
namespace Go.Proofs.YtaebngpoagjafabGreat
open Option renaming none → F,some → N
open Proofs.Tryz renaming prog → S
open Bool renaming true → P,false → E
open Proofs.Tryz
open Obj renaming cells → Q
open Value renaming int → J, slice → O
open IntKind renaming i64 → Z
open Go.RowKit
attribute [local go_sem ↓] Go.wp_at_zero Go.wp_at_succ
theorem Xa(a:Int)(w:World):(Instr.build 193 #[(0,J Z a)]).run S w=.ok (.agg #[J Z a,J Z 0,J Z 0,J Z 0]) w:=run_build w 193 _ _ kr
theorem ZL(a b d:Int)(w:World):(Instr.build 193 #[(0,J Z a),(1,J Z b),(3,J Z d)]).run S w=.ok (.agg #[J Z a,J Z b,J Z 0,J Z d]) w:=run_build w 193 _ _ kr
theorem Z2(a c:Int)(w:World):(Instr.build 193 #[(0,J Z a),(2,J Z c)]).run S w=.ok (.agg #[J Z a,J Z 0,J Z c,J Z 0]) w:=run_build w 193 _ _ kr
theorem zbi(a b c d:Int)(w:World):(Instr.build 193 #[(0,J Z a),(1,J Z b),(2,J Z c),(3,J Z d)]).run S w=.ok (.agg #[J Z a,J Z b,J Z c,J Z d]) w:=run_build w 193 _ _ kr
def byF(c:Int):FR:=⟨c,0,0,0⟩
theorem zF(c:Int)(w:World)(d:0<=c)(b:c<256):
 Calls S 162 #[J .u8 c] w λe w'=>e=.returned (.agg #[J Z c,J Z 0,J Z 0,J Z 0])/\w'=w.alloc (Q #[J Z c,J Z 0,J Z 0,J Z 0] 193):=by
 have a:=λw=>Xa c w
 go_enter func162,ntmps162;go_wp2
 exact bodyPost_ret (v:=.agg #[J Z c,J Z 0,J Z 0,J Z 0]) (by simp[results,results162,go_sem]) rfl ⟨rfl,ot⟩
theorem yL(k d l:Int)(w:World):
 Calls S 171 #[J Z k,J Z d,J Z l] w λe w'=>e=.returned (O (N ⟨w.heap.size,0,F⟩) 2 2)/\w'=w.alloc (Q #[J Z 259,J Z k,J Z d,J Z l,J Z 260,J Z k,J Z d,J Z l] 193):=by
 have b:=λw=>zbi 259 k d l w
 have a:=λw=>zbi 260 k d l w
 go_enter func171,ntmps171;go_wp2
 go_ret;exact⟨rfl,rfl⟩
def frL(ls:List FR):List Value:=ls.flatMap frV
theorem zfA(a:List FR):∀(i:Nat) (f:FR) (j:Nat),a[i]?=N f->j<4->(frL a)[i*4+j]?=(frV f)[j]?:=by
 induction a with
 |nil=>intro i f j h;simp at h
 | cons g r ih =>
  intro i f j h b;simp only[frL,List.flatMap_cons];cases i with
  | zero =>
   simp at h;subst h;rw[Nat.zero_mul,Nat.zero_add,List.getElem?_append_left (by simp[frV];omega)]
  | succ i =>
   simp at h;have:=ih i f j h b
   rw[List.getElem?_append_right (by simp[frV];omega)];have e:(i+1)*4+j-(frV g).length=i*4+j:=(by simp[frV];omega);rw[e];exact this
theorem LS.new(w:World)(C:Array Value)(b:List FR)(h:C.toList=frL b):LS (w.alloc (Q C 193)) w.heap.size b:=by
 intro i f c;have a:∀j,j<4->(w.alloc (Q C 193)).cell? ⟨w.heap.size,i*4+j,F⟩=(frV f)[j]?:=λj hj=>by
  rw[<-zfA b i f j c hj,<-h];rw[World.cell?_alloc_mark];simp
 exact⟨a 0 ol,a 1 ol,a 2 ol,a 3 ol⟩
theorem zdo(base B c:Nat)(s:ByteArray)(k:Nat)(g d:Value)(f a:List FR)(i:List SG)(C:Array Value)(w:World)(h:RS w base B s k g d f i)(p:C.toList=frL a)(b:f.length+a.length<=1099511627776)(n:Nat)(l:n=a.length):
 Calls S 133 #[.pointer (N ⟨B,0,F⟩),O (N ⟨w.heap.size,0,F⟩) n c] (w.alloc (Q C 193)) λe w'=>e=.returned (.tuple #[])/\∃sv',RS w' base B s k sv' d (a++f) i/\Mv base B g d sv' d w w':=by
 subst l;refine(Jr base B w.heap.size c s k g d f a i _ (h.alloc _) (LS.new w C a p) h.outNew ot b).mono ?_;rintro e w' ⟨o,sv',j,m⟩;exact⟨o,sv',j,(Mv.alloc h.bs _).trans m⟩
theorem RS.drew{w:World}{base B s k sv gv fs gs}(h:RS w base B s k sv gv fs gs):RS w.drew base B s k sv gv fs gs:=⟨h.blk,h.st,h.sg,h.hB⟩
theorem Mv.drew{base B:Nat}{a b c d:Value}{w e:World}(h:Mv base B a b c d w e):Mv base B a b c d w e.drew:=⟨h.bel.drew,h.kept⟩
theorem yR(base B l c:Nat)(s:ByteArray)(k:Nat)(g d:Value)(f a:List FR)(j:List SG)(C:Array Value)(w:World)(h:RS w base B s k g d f j)(i:l=w.heap.size)(t:C.toList=frL a)(b:f.length+a.length<=1099511627776)(n:Nat)(o:n=a.length):
 Calls S 133 #[.pointer (N ⟨B,0,F⟩),O (N ⟨l,0,F⟩) n c] (w.alloc (Q C 193)).drew λe w'=>e=.returned (.tuple #[])/\∃sv',RS w' base B s k sv' d (a++f) j/\Mv base B g d sv' d w w':=by
 subst i;subst o;have q:LS (w.alloc (Q C 193)).drew w.heap.size a:=LS.new w C a t;refine(Jr base B w.heap.size c s k g d f a j _ (h.alloc _).drew q h.outNew ot b).mono ?_;rintro e w' ⟨r,sv',m,p⟩;exact⟨r,sv',m,((Mv.alloc h.bs _).drew).trans p⟩
theorem Yc(base B l c:Nat)(s:ByteArray)(k:Nat)(g d:Value)(f a:List FR)(j:List SG)(C:Array Value)(w:World)(h:RS w base B s k g d f j)(i:l=w.heap.size)(o:C.toList=frL a)(b:f.length+a.length<=1099511627776)(n:Nat)(m:n=a.length):
 Calls S 133 #[.pointer (N ⟨B,0,F⟩),O (N ⟨l,0,F⟩) n c] (w.alloc (Q C 193)) λe w'=>e=.returned (.tuple #[])/\∃sv',RS w' base B s k sv' d (a++f) j/\Mv base B g d sv' d w w':=by
 subst i;exact zdo base B c s k g d f a j C w h o b n m
def ZJ(f:FR):List FR :=
 if f.kind=10 then[⟨261,4,0,f.list⟩,byF 42,⟨261,5,0,-1⟩]
 else if f.kind=9 then[⟨262,9,0,f.list⟩,byF 58,⟨258,0,f.depth+1,0⟩]
 else if f.kind=7 then[⟨261,7,0,f.list⟩,byF 58,⟨258,0,f.depth+1,0⟩]
 else[⟨261,4,0,f.list⟩]
theorem Z3(d:Int)(p:Nat)(w:World):(Instr.build 162 #[(0,J Z 3),(1,J Z p),(2,J Z d),(3,J Z (-1))]).run S w=.ok (.agg #[J Z 3,J Z p,J Z d,J Z (-1),.string ByteArray.empty]) w:=run_build w 162 _ _ kr
theorem Mv.of_below{base B:Nat}{a d:Value}{w w':World}(c:Below w.heap.size w w')(h:base<=w.heap.size):Mv base B a d a d w w':=⟨c.mono h,λb hlt ho=>⟨c.block b hlt,ho⟩⟩
def Yx(d:Int)(p:Nat)(c:Int):Option (List FR) :=
 if c=123 then N [byF 123,⟨259,4,d,p⟩,⟨260,4,d,p⟩,byF 125]
 else if c=119 then N [byF 119,byF 40,⟨259,10,d,p⟩,⟨260,10,d,p⟩,byF 124,⟨258,0,d+1,0⟩,byF 41]
 else if c=102 then N [byF 102,byF 40,⟨259,4,d,p⟩,⟨260,4,d,p⟩,byF 124,⟨258,0,d+1,0⟩,byF 41]
 else if c=109 then N [byF 109,byF 40,⟨259,9,d,p⟩,⟨260,9,d,p⟩,byF 124,⟨258,0,d+1,0⟩,byF 41]
 else if c=103 then N [byF 103,byF 40,⟨259,7,d,p⟩,⟨260,7,d,p⟩,byF 124,⟨258,0,d+1,0⟩,byF 41]
 else if c=116 then N [byF 116,byF 40,⟨261,6,0,-1⟩,byF 44,⟨258,0,d+1,0⟩,byF 41]
 else if c=64 then N [byF 64,⟨261,8,0,-1⟩]
 else if c=61 then N [byF 61,⟨263,2,0,-1⟩]
 else F
structure Res where
 ok:Bool
 at_:Nat
 push:List FR
 sg:List SG
def zq(s:ByteArray)(k:Nat)(f:FR):Res :=
 let p:=T.sk s k
 let c:=T.ch s p
 if f.sym=256 then⟨P,p,[⟨263,1,0,-1⟩,byF 58,⟨258,0,0,0⟩],[]⟩
 else if f.sym=257 then⟨P,p,if c=59 then[byF 59,⟨256,0,0,0⟩,⟨257,0,0,0⟩]else[],[]⟩
 else if f.sym=258 then
  match Yx f.depth p c with
  |some l=>⟨P,p,l,[⟨3,p,f.depth,-1,ByteArray.empty⟩]⟩
  |none=>⟨E,p,[],[]⟩
 else if f.sym=259 then⟨P,p,ZJ f,[]⟩
 else if f.sym=260 then⟨P,p,if c=44 then[byF 44,⟨259,f.kind,f.depth,f.list⟩,f]else[],[]⟩
 else if f.sym=261 then
  let r:=T.dg s 9 58 P p
  if(r.1 && decide (p<r.2))=P then⟨P,r.2,[],[⟨f.kind,p,f.depth,f.list,s.extract p r.2⟩]⟩else⟨E,r.2,[],[]⟩
 else if f.sym=262 then
  let r:=T.dg s 32 50 E p
  if(r.1 && decide (p<r.2))=P then⟨P,r.2,[],[⟨f.kind,p,f.depth,f.list,s.extract p r.2⟩]⟩else⟨E,r.2,[],[]⟩
 else if f.sym=263 then
  if 97<=c/\c<=122 then⟨P,p+1,[],[⟨f.kind,p,f.depth,f.list,s.extract p (p+1)⟩]⟩else⟨E,p,[],[]⟩
 else if c=f.sym then⟨P,p+1,[],[]⟩else⟨E,p,[],[]⟩
abbrev xF(d:Int):Obj:=Q #[J Z 258,J Z 0,J Z (d+1),J Z 0] 193
abbrev xL(k d p:Int):Obj:=Q #[J Z 259,J Z k,J Z d,J Z p,J Z 260,J Z k,J Z d,J Z p] 193
abbrev XK(b:Nat)(k d p:Int)(w:World):Prop:=w.cell? ⟨b+1,0,F⟩=N (J Z 259)/\w.cell? ⟨b+1,1,F⟩=N (J Z k)/\w.cell? ⟨b+1,2,F⟩=N (J Z d)/\w.cell? ⟨b+1,3,F⟩=N (J Z p)/\w.cell? ⟨b+1,4,F⟩=N (J Z 260)/\w.cell? ⟨b+1,5,F⟩=N (J Z k)/\w.cell? ⟨b+1,6,F⟩=N (J Z d)/\w.cell? ⟨b+1,7,F⟩=N (J Z p)/\w.cell? ⟨b,0,F⟩=N (J Z 258)/\w.cell? ⟨b,1,F⟩=N (J Z 0)/\w.cell? ⟨b,2,F⟩=N (J Z (d+1))/\w.cell? ⟨b,3,F⟩=N (J Z 0)
theorem xl(a:World)(k d p:Int):XK a.heap.size k d p ((a.alloc (xF d)).alloc (xL k d p)):=⟨ot,ot,ot,ot,ot,ot,ot,ot,ot,ot,ot,ot⟩
theorem Yr{b:Nat}{k d p:Int}{w w':World}(h:XK b k d p w)(u:w'.heap[b+1]?=w.heap[b+1]?)(v:w'.heap[b]?=w.heap[b]?):XK b k d p w':=by
 obtain⟨t,s,r,q,o,n,m,l,i,g,f,e⟩:=h;have a:∀j,w'.cell? ⟨b+1,j,F⟩=w.cell? ⟨b+1,j,F⟩:=λj=>World.cell?_of_block u
 have c:∀j,w'.cell? ⟨b,j,F⟩=w.cell? ⟨b,j,F⟩:=λj=>World.cell?_of_block v
 exact⟨(a _).trans t,(a _).trans s,(a _).trans r,(a _).trans q,(a _).trans o,(a _).trans n,(a _).trans m,(a _).trans l,(c _).trans i,(c _).trans g,(c _).trans f,(c _).trans e⟩
theorem zaG(base B:Nat)(s:ByteArray)(k p:Nat)(f:FR)(d b:Value)(n:List FR)(g:List SG)(w:World)(h:RS w base B s k d b n g)(hs:s.size<=2000)(hk:k<=s.size)(U:T.sk s k=p)(hc:T.ch s p=123)(d4:n.length+7<=1099511627776)(b9:g.length+1<=1099511627776)(d0:0<=f.depth)(d1:f.depth<=1000000):
 Calls S 163 #[.pointer (N ⟨B,0,F⟩),frA f] w λe w'=>e=.returned (.bool P)/\∃sv' gv',RS w' base B s p sv' gv' ([byF 123,⟨259,4,f.depth,p⟩,⟨260,4,f.depth,p⟩,byF 125]++n) (⟨3,p,f.depth,-1,ByteArray.empty⟩::g)/\Mv base B d b sv' gv' w w':=by
 have q:=λ(c:World) (hz:RS c base B s k d b n g)=>zI base B s k d b n g c hs hk hz
 rw[U,hc]at q;have c9:Hd (∀(c:World),RS c base B s k d b n g->Calls S 135 #[.pointer (N ⟨B,0,F⟩)] c λe w'=>e=.returned (J Z (123))/\RS w' base B s p d b n g/\Mv base B d b d b c w'):=q;clear U q hk hc;obtain⟨i0,c0,b7,b6,b5⟩:=info_parts infoSign;have d8:=λw=>Z2 258 (f.depth+1) w
 have d7:=λw=>Z3 f.depth p w
 unfold frA;go_enter func163,ntmps163;go_wp2_with fail;have hA:=h.alloc (Q #[J Z f.sym,J Z f.kind,J Z f.depth,J Z f.list] 193);have hF:FB (w.alloc (Q #[J Z f.sym,J Z f.kind,J Z f.depth,J Z f.list] 193)) w.heap.size f:=⟨ot,ot,ot,ot⟩;have V:=h.outNew;have G:w.heap.size<(w.alloc (Q #[J Z f.sym,J Z f.kind,J Z f.depth,J Z f.list] 193)).heap.size:=ot;have a1:Mv base B d b d b w (w.alloc (Q #[J Z f.sym,J Z f.kind,J Z f.depth,J Z f.list] 193)):=Mv.alloc h.bs _;refine(c9.o _ hA).mono ?_;rintro e a ⟨rfl,H,z⟩;have a3:=z.kept w.heap.size G V;have K:=hF.of_block a3.1;have R:w.heap.size<a.heap.size:=Nat.lt_of_lt_of_le G z.bel.size;have a7:Hd (Mv base B d b d b w a):=a1.trans z;have l:Hd (RS a base B s p d b n g):=H;have a9:Hd (FB a w.heap.size f):=K;have c1:=H.c1;have b2:=K.c2;clear a1 z hA hF G H a3 h K;go_wp2_with fail;refine(yL _ _ _ _).mono ?_;rintro e w' ⟨rfl,d6⟩;subst w';have L:Hd (RS ((a.alloc (xF f.depth)).alloc (xL 4 f.depth p)) base B s p d b n g):=(l.o.alloc _).alloc _;have a6:Hd (Mv base B d b d b w ((a.alloc (xF f.depth)).alloc (xL 4 f.depth p))):=(a7.o.trans (Mv.alloc l.o.bs _)).trans (Mv.alloc (l.o.alloc _).bs _);have a8:Hd (FB ((a.alloc (xF f.depth)).alloc (xL 4 f.depth p)) w.heap.size f):=a9.o.of_block (by rw[Below.heap_alloc _ _ _ ow,Below.heap_alloc _ _ _ R]);obtain⟨l0,l1,l2,l3,l4,l5,l6,l7,b4,b3,b1,b0⟩:=xl a 4 f.depth p;have d5:a.heap.size+1<((a.alloc (xF f.depth)).alloc (xL 4 f.depth p)).heap.size:=ot;go_wp2_with fail;generalize(a.alloc (xF f.depth)).alloc (xL 4 f.depth p)=w3 at *;have X:Out B d b (a.heap.size+1):=⟨λe=>by have:=l.o.lt;omega,λe=>by have:=(l.o.st.lt _ e).2;omega,λe=>by have:=(l.o.sg.lt _ e).2;omega⟩;have b8:Out B d b a.heap.size:=l.o.outNew;have r:Hd (∀(c w':World) (sv' gv':Value),Below w3.heap.size w3 c->Mv base B d b sv' gv' c w'->w'.cell? ⟨a.heap.size+1,0,F⟩=N (J Z 259)/\w'.cell? ⟨a.heap.size+1,1,F⟩=N (J Z 4)/\w'.cell? ⟨a.heap.size+1,2,F⟩=N (J Z f.depth)/\w'.cell? ⟨a.heap.size+1,3,F⟩=N (J Z p)/\w'.cell? ⟨a.heap.size+1,4,F⟩=N (J Z 260)/\w'.cell? ⟨a.heap.size+1,5,F⟩=N (J Z 4)/\w'.cell? ⟨a.heap.size+1,6,F⟩=N (J Z f.depth)/\w'.cell? ⟨a.heap.size+1,7,F⟩=N (J Z p)):=by
  intro c w' sv' gv' x hm;have D:w'.heap[a.heap.size+1]?=w3.heap[a.heap.size+1]?:=by
   have a2:a.heap.size+1<c.heap.size:=(by have:=x.size;omega);rw[(hm.kept _ a2 X).1,x.block _ ol]
  exact⟨by rw[World.cell?_of_block (w:=w3) D];exact l0,by rw[World.cell?_of_block (w:=w3) D];exact l1,by rw[World.cell?_of_block (w:=w3) D];exact l2,by rw[World.cell?_of_block (w:=w3) D];exact l3,by rw[World.cell?_of_block (w:=w3) D];exact l4,by rw[World.cell?_of_block (w:=w3) D];exact l5,by rw[World.cell?_of_block (w:=w3) D];exact l6,by rw[World.cell?_of_block (w:=w3) D];exact l7⟩
 have m:Hd (∀(c:World),Below w3.heap.size w3 c->c.cell? ⟨a.heap.size+1,0,F⟩=N (J Z 259)/\c.cell? ⟨a.heap.size+1,1,F⟩=N (J Z 4)/\c.cell? ⟨a.heap.size+1,2,F⟩=N (J Z f.depth)/\c.cell? ⟨a.heap.size+1,3,F⟩=N (J Z p)/\c.cell? ⟨a.heap.size+1,4,F⟩=N (J Z 260)/\c.cell? ⟨a.heap.size+1,5,F⟩=N (J Z 4)/\c.cell? ⟨a.heap.size+1,6,F⟩=N (J Z f.depth)/\c.cell? ⟨a.heap.size+1,7,F⟩=N (J Z p)):=by
  intro c x;exact⟨(x.cell (p:=⟨a.heap.size+1,0,F⟩) (show a.heap.size+1<w3.heap.size by omega)).trans l0,(x.cell (p:=⟨a.heap.size+1,1,F⟩) (show a.heap.size+1<w3.heap.size by omega)).trans l1,(x.cell (p:=⟨a.heap.size+1,2,F⟩) (show a.heap.size+1<w3.heap.size by omega)).trans l2,(x.cell (p:=⟨a.heap.size+1,3,F⟩) (show a.heap.size+1<w3.heap.size by omega)).trans l3,(x.cell (p:=⟨a.heap.size+1,4,F⟩) (show a.heap.size+1<w3.heap.size by omega)).trans l4,(x.cell (p:=⟨a.heap.size+1,5,F⟩) (show a.heap.size+1<w3.heap.size by omega)).trans l5,(x.cell (p:=⟨a.heap.size+1,6,F⟩) (show a.heap.size+1<w3.heap.size by omega)).trans l6,(x.cell (p:=⟨a.heap.size+1,7,F⟩) (show a.heap.size+1<w3.heap.size by omega)).trans l7⟩
 have a0:w3.heap.size≠a.heap.size+1:=ol;have Y:w3.heap.size≠a.heap.size:=ol;clear c1 b2;go_region_held3 (λw'=>w'.cell? ⟨a.heap.size+1,0,F⟩=N (J Z 259)/\w'.cell? ⟨a.heap.size+1,1,F⟩=N (J Z 4)/\w'.cell? ⟨a.heap.size+1,2,F⟩=N (J Z f.depth)/\w'.cell? ⟨a.heap.size+1,3,F⟩=N (J Z p)/\w'.cell? ⟨a.heap.size+1,4,F⟩=N (J Z 260)/\w'.cell? ⟨a.heap.size+1,5,F⟩=N (J Z 4)/\w'.cell? ⟨a.heap.size+1,6,F⟩=N (J Z f.depth)/\w'.cell? ⟨a.heap.size+1,7,F⟩=N (J Z p)) (first|(refine m.o _ ?_;(repeat(first|exact Below.refl _ _|refine Below.drew ?_|refine Below.alloc ?_ sq _));done)|(refine r.o _ _ _ _ ?_ hm;(repeat(first|exact Below.refl _ _|refine Below.drew ?_|refine Below.alloc ?_ sq _));done)) (first|(go_at_call 162;refine(zF _ _ ol ol).mono ?_;rintro e w' ⟨rfl,rfl⟩)|(go_at_call 162;rw[show IntKind.u8.wrap 123=123 from by decide];refine(zF _ _ ol ol).mono ?_;rintro e w' ⟨rfl,rfl⟩)|(go_at_call 133;refine(yR base B _ _ s p d b n [byF 123,⟨259,4,f.depth,p⟩,⟨260,4,f.depth,p⟩,byF 125] g _ _ ((L.o.alloc _).alloc _) ot (by rfl) ow _ rfl).mono ?_;rintro e w' ⟨rfl,sv',hr,hm⟩))
 have i:Hd (RS w' base B s p sv' b ([byF 123,⟨259,4,f.depth,p⟩,⟨260,4,f.depth,p⟩,byF 125]++n) g):=hr;obtain⟨c,v,y⟩:∃c,Below w3.heap.size w3 c/\Mv base B d b sv' b c w':=⟨_,by repeat(first|exact Below.refl _ _|refine Below.drew ?_|refine Below.alloc ?_ sq _),hm⟩;have d2:Hd (Mv base B d b sv' b w w'):=(a6.o.trans (Mv.of_below v L.o.bs)).trans y;have d3:w.heap.size<w'.heap.size:=by have h1:=v.size;have h2:=y.bel.size;omega
 have a5:FB w' w.heap.size f:=a8.o.of_block (by
  have h1:w.heap.size<w3.heap.size:=ol;rw[(y.kept _ (Nat.lt_of_lt_of_le h1 v.size) V).1,v.block _ h1])
 have b2:=a5.c2;have c3:=i.o.c3;have z3:=i.o.fz 3;have d9:=i.o.lt;have zf:∀o,(w'.alloc o).frozen? ⟨B,3,F⟩=E:=λo=>(i.o.alloc o).fz 3
 have c6:Hd (g.length+1<=maxLen):=sx;have c5:Hd ((g.length+1)*48<=140737488355328):=oz;have W:Hd (∀u∈sgV ⟨3,p,f.depth,-1,ByteArray.empty⟩,u.oneCell'=P):=λu hu=>by simp[sgV]at hu;rcases hu with rfl|rfl|rfl|rfl|rfl<;>rfl
 have c4:Hd (∀o:Obj,base<=(w'.alloc o).drew.heap.size):=λo=>by have:=i.o.bs;show base<=(w'.alloc o).heap.size;simp;omega
 clear hr hm v y a5 r m a0 Y X b8 b4 b3 b1 b0 l0 l1 l2 l3 l4 l5 l6 l7 L a6 a8 a9 a7;go_wp2_with fail;go_region_law ((refine step_append_lies _ (by rfl) _ _ _ (by rfl) base 162 i0 _ 5 48 underlying157 c0 b7 b6 b5 rfl oq b _ _ (by rfl) ((i.o.sg.alloc _).drew) ⟨w'.heap.size,0,F⟩ 1 1 (sgV ⟨3,p,f.depth,-1,ByteArray.empty⟩) (by rfl) (by rfl) (World.news_of_block (cs:=#[J Z 3,J Z p,J Z f.depth,J Z (-1),.string ByteArray.empty]) (t:=162) (fr:=(0,0)) (heap_alloc_new w' _)) W.o (Nat.lt_succ_self 0) c6.o c5.o (c4.o _) (w'.heap.size+1) ot ?_;intro gg A w5 C j a4 a2;obtain⟨y0,y1,y3,yz,_⟩:=i.o.grown3 j))
 all_goals
  have I:=i.o.signed rfl C j a4;have c8:Hd (RS (w5.setCell ⟨B,3,F⟩ (O (N ⟨gg,0,F⟩) (g.length+1) A)) base B s p sv' (O (N ⟨gg,0,F⟩) (g.length+1) A) ([byF 123,⟨259,4,f.depth,p⟩,⟨260,4,f.depth,p⟩,byF 125]++n) (⟨3,p,f.depth,-1,ByteArray.empty⟩::g)):=I.1;have c7:Hd (Mv base B sv' b sv' (O (N ⟨gg,0,F⟩) (g.length+1) A) w' (w5.setCell ⟨B,3,F⟩ (O (N ⟨gg,0,F⟩) (g.length+1) A))):=I.2;clear I C j a4 y0 y1 y3 yz;go_wp2_with fail;go_ret;exact⟨rfl,sv',_,c8.o,d2.o.trans c7.o⟩
theorem zcv(base B:Nat)(s:ByteArray)(k p:Nat)(f:FR)(c a:Value)(n:List FR)(g:List SG)(w:World)(h:RS w base B s k c a n g)(hs:s.size<=2000)(hk:k<=s.size)(W:T.sk s k=p)(hc:T.ch s p=119)(d5:n.length+7<=1099511627776)(c0:g.length+1<=1099511627776)(d0:0<=f.depth)(d1:f.depth<=1000000):
 Calls S 163 #[.pointer (N ⟨B,0,F⟩),frA f] w λe w'=>e=.returned (.bool P)/\∃sv' gv',RS w' base B s p sv' gv' ([byF 119,byF 40,⟨259,10,f.depth,p⟩,⟨260,10,f.depth,p⟩,byF 124,⟨258,0,f.depth+1,0⟩,byF 41]++n) (⟨3,p,f.depth,-1,ByteArray.empty⟩::g)/\Mv base B c a sv' gv' w w':=by
 have q:=λ(d:World) (hz:RS d base B s k c a n g)=>zI base B s k c a n g d hs hk hz
 rw[W,hc]at q;have d2:Hd (∀(d:World),RS d base B s k c a n g->Calls S 135 #[.pointer (N ⟨B,0,F⟩)] d λe w'=>e=.returned (J Z (119))/\RS w' base B s p c a n g/\Mv base B c a c a d w'):=q;clear W q hk hc;obtain⟨i0,c4,b9,b8,b7⟩:=info_parts infoSign;have d9:=λw=>Z2 258 (f.depth+1) w
 have d8:=λw=>Z3 f.depth p w
 unfold frA;go_enter func163,ntmps163;go_wp2_with fail;have hA:=h.alloc (Q #[J Z f.sym,J Z f.kind,J Z f.depth,J Z f.list] 193);have hF:FB (w.alloc (Q #[J Z f.sym,J Z f.kind,J Z f.depth,J Z f.list] 193)) w.heap.size f:=⟨ot,ot,ot,ot⟩;have X:=h.outNew;have D:w.heap.size<(w.alloc (Q #[J Z f.sym,J Z f.kind,J Z f.depth,J Z f.list] 193)).heap.size:=ot;have a4:Mv base B c a c a w (w.alloc (Q #[J Z f.sym,J Z f.kind,J Z f.depth,J Z f.list] 193)):=Mv.alloc h.bs _;refine(d2.o _ hA).mono ?_;rintro e b ⟨rfl,G,y⟩;have a5:=y.kept w.heap.size D X;have K:=hF.of_block a5.1;have V:w.heap.size<b.heap.size:=Nat.lt_of_lt_of_le D y.bel.size;have a9:Hd (Mv base B c a c a w b):=a4.trans y;have l:Hd (RS b base B s p c a n g):=G;have b1:Hd (FB b w.heap.size f):=K;have c1:=G.c1;have b2:=K.c2;clear a4 y hA hF D G a5 h K;go_wp2_with fail;refine(yL _ _ _ _).mono ?_;rintro e w' ⟨rfl,d7⟩;subst w';have R:Hd (RS ((b.alloc (xF f.depth)).alloc (xL 10 f.depth p)) base B s p c a n g):=(l.o.alloc _).alloc _;have a8:Hd (Mv base B c a c a w ((b.alloc (xF f.depth)).alloc (xL 10 f.depth p))):=(a9.o.trans (Mv.alloc l.o.bs _)).trans (Mv.alloc (l.o.alloc _).bs _);have b0:Hd (FB ((b.alloc (xF f.depth)).alloc (xL 10 f.depth p)) w.heap.size f):=b1.o.of_block (by rw[Below.heap_alloc _ _ _ ow,Below.heap_alloc _ _ _ V]);have L:Hd (XK b.heap.size 10 f.depth p ((b.alloc (xF f.depth)).alloc (xL 10 f.depth p))):=xl b 10 f.depth p;obtain⟨l0,l1,l2,l3,l4,l5,l6,l7,b6,b5,b4,b3⟩:=L.o;have d6:b.heap.size+1<((b.alloc (xF f.depth)).alloc (xL 10 f.depth p)).heap.size:=ot;go_wp2_with fail;generalize(b.alloc (xF f.depth)).alloc (xL 10 f.depth p)=w3 at *;have a0:Out B c a (b.heap.size+1):=⟨λe=>by have:=l.o.lt;omega,λe=>by have:=(l.o.st.lt _ e).2;omega,λe=>by have:=(l.o.sg.lt _ e).2;omega⟩;have a1:Out B c a b.heap.size:=l.o.outNew;have r:Hd (∀(d w':World) (sv' gv':Value),Below w3.heap.size w3 d->Mv base B c a sv' gv' d w'->XK b.heap.size 10 f.depth p w'):=by
  intro d w' sv' gv' H U;have eL:w'.heap[b.heap.size+1]?=w3.heap[b.heap.size+1]?:=by
   have z:b.heap.size+1<d.heap.size:=(by have:=H.size;omega);rw[(U.kept _ z a0).1,H.block _ ol]
  have eI:w'.heap[b.heap.size]?=w3.heap[b.heap.size]?:=by
   have z:b.heap.size<d.heap.size:=(by have:=H.size;omega);rw[(U.kept _ z a1).1,H.block _ ol]
  exact Yr L.o eL eI
 have m:Hd (∀(d:World),Below w3.heap.size w3 d->XK b.heap.size 10 f.depth p d):=by
  intro d H;exact Yr L.o (H.block _ ol) (H.block _ ol)
 have a3:w3.heap.size≠b.heap.size+1:=ol;have a2:w3.heap.size≠b.heap.size:=ol;clear c1 b2;go_region_held3 (λw'=>XK b.heap.size 10 f.depth p w') (first|(refine m.o _ ?_;(repeat(first|exact Below.refl _ _|refine Below.drew ?_|refine Below.alloc ?_ sq _));done)|(refine r.o _ _ _ _ ?_ U;(repeat(first|exact Below.refl _ _|refine Below.drew ?_|refine Below.alloc ?_ sq _));done)) (first|(go_at_call 162;refine(zF _ _ ol ol).mono ?_;rintro e w' ⟨rfl,rfl⟩)|(go_at_call 162;rw[show IntKind.u8.wrap 119=119 from by decide];refine(zF _ _ ol ol).mono ?_;rintro e w' ⟨rfl,rfl⟩)|(go_at_call 133;refine(yR base B _ _ s p c a n [byF 119,byF 40,⟨259,10,f.depth,p⟩,⟨260,10,f.depth,p⟩,byF 124,⟨258,0,f.depth+1,0⟩,byF 41] g _ _ ((((R.o.alloc _).alloc _).alloc _).alloc _) ot (by rfl) ow _ rfl).mono ?_;rintro e w' ⟨rfl,sv',hr,U⟩))
 have i:Hd (RS w' base B s p sv' a ([byF 119,byF 40,⟨259,10,f.depth,p⟩,⟨260,10,f.depth,p⟩,byF 124,⟨258,0,f.depth+1,0⟩,byF 41]++n) g):=hr;obtain⟨d,v,x⟩:∃d,Below w3.heap.size w3 d/\Mv base B c a sv' a d w':=⟨_,by repeat(first|exact Below.refl _ _|refine Below.drew ?_|refine Below.alloc ?_ sq _),U⟩;have d3:Hd (Mv base B c a sv' a w w'):=(a8.o.trans (Mv.of_below v R.o.bs)).trans x;have d4:w.heap.size<w'.heap.size:=by have h1:=v.size;have h2:=x.bel.size;omega
 have a7:FB w' w.heap.size f:=b0.o.of_block (by
  have h1:w.heap.size<w3.heap.size:=ol;rw[(x.kept _ (Nat.lt_of_lt_of_le h1 v.size) X).1,v.block _ h1])
 have b2:=a7.c2;have c3:=i.o.c3;have z3:=i.o.fz 3;have e0:=i.o.lt;have zf:∀o,(w'.alloc o).frozen? ⟨B,3,F⟩=E:=λo=>(i.o.alloc o).fz 3
 have c7:Hd (g.length+1<=maxLen):=sx;have c6:Hd ((g.length+1)*48<=140737488355328):=oz;have Y:Hd (∀u∈sgV ⟨3,p,f.depth,-1,ByteArray.empty⟩,u.oneCell'=P):=λu hu=>by simp[sgV]at hu;rcases hu with rfl|rfl|rfl|rfl|rfl<;>rfl
 have c5:Hd (∀o:Obj,base<=(w'.alloc o).drew.heap.size):=λo=>by have:=i.o.bs;show base<=(w'.alloc o).heap.size;simp;omega
 clear hr U v x a7 r m a3 a2 a0 a1 b6 b5 b4 b3 l0 l1 l2 l3 l4 l5 l6 l7 R a8 b0 b1 a9;go_wp2_with fail;go_region_law ((refine step_append_lies _ (by rfl) _ _ _ (by rfl) base 162 i0 _ 5 48 underlying157 c4 b9 b8 b7 rfl oq a _ _ (by rfl) ((i.o.sg.alloc _).drew) ⟨w'.heap.size,0,F⟩ 1 1 (sgV ⟨3,p,f.depth,-1,ByteArray.empty⟩) (by rfl) (by rfl) (World.news_of_block (cs:=#[J Z 3,J Z p,J Z f.depth,J Z (-1),.string ByteArray.empty]) (t:=162) (fr:=(0,0)) (heap_alloc_new w' _)) Y.o (Nat.lt_succ_self 0) c7.o c6.o (c5.o _) (w'.heap.size+1) ot ?_;intro gg A w5 C j a6 z;obtain⟨y0,y1,y3,yz,_⟩:=i.o.grown3 j))
 all_goals
  have I:=i.o.signed rfl C j a6;have c9:Hd (RS (w5.setCell ⟨B,3,F⟩ (O (N ⟨gg,0,F⟩) (g.length+1) A)) base B s p sv' (O (N ⟨gg,0,F⟩) (g.length+1) A) ([byF 119,byF 40,⟨259,10,f.depth,p⟩,⟨260,10,f.depth,p⟩,byF 124,⟨258,0,f.depth+1,0⟩,byF 41]++n) (⟨3,p,f.depth,-1,ByteArray.empty⟩::g)):=I.1;have c8:Hd (Mv base B sv' a sv' (O (N ⟨gg,0,F⟩) (g.length+1) A) w' (w5.setCell ⟨B,3,F⟩ (O (N ⟨gg,0,F⟩) (g.length+1) A))):=I.2;clear I C j a6 y0 y1 y3 yz;go_wp2_with fail;go_ret;exact⟨rfl,sv',_,c9.o,d3.o.trans c8.o⟩
theorem zaF(base B:Nat)(s:ByteArray)(k p:Nat)(f:FR)(c a:Value)(n:List FR)(g:List SG)(w:World)(h:RS w base B s k c a n g)(hs:s.size<=2000)(hk:k<=s.size)(W:T.sk s k=p)(hc:T.ch s p=102)(d5:n.length+7<=1099511627776)(c0:g.length+1<=1099511627776)(d0:0<=f.depth)(d1:f.depth<=1000000):
 Calls S 163 #[.pointer (N ⟨B,0,F⟩),frA f] w λe w'=>e=.returned (.bool P)/\∃sv' gv',RS w' base B s p sv' gv' ([byF 102,byF 40,⟨259,4,f.depth,p⟩,⟨260,4,f.depth,p⟩,byF 124,⟨258,0,f.depth+1,0⟩,byF 41]++n) (⟨3,p,f.depth,-1,ByteArray.empty⟩::g)/\Mv base B c a sv' gv' w w':=by
 have q:=λ(d:World) (hz:RS d base B s k c a n g)=>zI base B s k c a n g d hs hk hz
 rw[W,hc]at q;have d2:Hd (∀(d:World),RS d base B s k c a n g->Calls S 135 #[.pointer (N ⟨B,0,F⟩)] d λe w'=>e=.returned (J Z (102))/\RS w' base B s p c a n g/\Mv base B c a c a d w'):=q;clear W q hk hc;obtain⟨i0,c4,b9,b8,b7⟩:=info_parts infoSign;have d9:=λw=>Z2 258 (f.depth+1) w
 have d8:=λw=>Z3 f.depth p w
 unfold frA;go_enter func163,ntmps163;go_wp2_with fail;have hA:=h.alloc (Q #[J Z f.sym,J Z f.kind,J Z f.depth,J Z f.list] 193);have hF:FB (w.alloc (Q #[J Z f.sym,J Z f.kind,J Z f.depth,J Z f.list] 193)) w.heap.size f:=⟨ot,ot,ot,ot⟩;have X:=h.outNew;have D:w.heap.size<(w.alloc (Q #[J Z f.sym,J Z f.kind,J Z f.depth,J Z f.list] 193)).heap.size:=ot;have a4:Mv base B c a c a w (w.alloc (Q #[J Z f.sym,J Z f.kind,J Z f.depth,J Z f.list] 193)):=Mv.alloc h.bs _;refine(d2.o _ hA).mono ?_;rintro e b ⟨rfl,G,y⟩;have a5:=y.kept w.heap.size D X;have K:=hF.of_block a5.1;have V:w.heap.size<b.heap.size:=Nat.lt_of_lt_of_le D y.bel.size;have a9:Hd (Mv base B c a c a w b):=a4.trans y;have l:Hd (RS b base B s p c a n g):=G;have b1:Hd (FB b w.heap.size f):=K;have c1:=G.c1;have b2:=K.c2;clear a4 y hA hF D G a5 h K;go_wp2_with fail;refine(yL _ _ _ _).mono ?_;rintro e w' ⟨rfl,d7⟩;subst w';have R:Hd (RS ((b.alloc (xF f.depth)).alloc (xL 4 f.depth p)) base B s p c a n g):=(l.o.alloc _).alloc _;have a8:Hd (Mv base B c a c a w ((b.alloc (xF f.depth)).alloc (xL 4 f.depth p))):=(a9.o.trans (Mv.alloc l.o.bs _)).trans (Mv.alloc (l.o.alloc _).bs _);have b0:Hd (FB ((b.alloc (xF f.depth)).alloc (xL 4 f.depth p)) w.heap.size f):=b1.o.of_block (by rw[Below.heap_alloc _ _ _ ow,Below.heap_alloc _ _ _ V]);have L:Hd (XK b.heap.size 4 f.depth p ((b.alloc (xF f.depth)).alloc (xL 4 f.depth p))):=xl b 4 f.depth p;obtain⟨l0,l1,l2,l3,l4,l5,l6,l7,b6,b5,b4,b3⟩:=L.o;have d6:b.heap.size+1<((b.alloc (xF f.depth)).alloc (xL 4 f.depth p)).heap.size:=ot;go_wp2_with fail;generalize(b.alloc (xF f.depth)).alloc (xL 4 f.depth p)=w3 at *;have a0:Out B c a (b.heap.size+1):=⟨λe=>by have:=l.o.lt;omega,λe=>by have:=(l.o.st.lt _ e).2;omega,λe=>by have:=(l.o.sg.lt _ e).2;omega⟩;have a1:Out B c a b.heap.size:=l.o.outNew;have r:Hd (∀(d w':World) (sv' gv':Value),Below w3.heap.size w3 d->Mv base B c a sv' gv' d w'->XK b.heap.size 4 f.depth p w'):=by
  intro d w' sv' gv' H U;have eL:w'.heap[b.heap.size+1]?=w3.heap[b.heap.size+1]?:=by
   have z:b.heap.size+1<d.heap.size:=(by have:=H.size;omega);rw[(U.kept _ z a0).1,H.block _ ol]
  have eI:w'.heap[b.heap.size]?=w3.heap[b.heap.size]?:=by
   have z:b.heap.size<d.heap.size:=(by have:=H.size;omega);rw[(U.kept _ z a1).1,H.block _ ol]
  exact Yr L.o eL eI
 have m:Hd (∀(d:World),Below w3.heap.size w3 d->XK b.heap.size 4 f.depth p d):=by
  intro d H;exact Yr L.o (H.block _ ol) (H.block _ ol)
 have a3:w3.heap.size≠b.heap.size+1:=ol;have a2:w3.heap.size≠b.heap.size:=ol;clear c1 b2;go_region_held3 (λw'=>XK b.heap.size 4 f.depth p w') (first|(refine m.o _ ?_;(repeat(first|exact Below.refl _ _|refine Below.drew ?_|refine Below.alloc ?_ sq _));done)|(refine r.o _ _ _ _ ?_ U;(repeat(first|exact Below.refl _ _|refine Below.drew ?_|refine Below.alloc ?_ sq _));done)) (first|(go_at_call 162;refine(zF _ _ ol ol).mono ?_;rintro e w' ⟨rfl,rfl⟩)|(go_at_call 162;rw[show IntKind.u8.wrap 102=102 from by decide];refine(zF _ _ ol ol).mono ?_;rintro e w' ⟨rfl,rfl⟩)|(go_at_call 133;refine(yR base B _ _ s p c a n [byF 102,byF 40,⟨259,4,f.depth,p⟩,⟨260,4,f.depth,p⟩,byF 124,⟨258,0,f.depth+1,0⟩,byF 41] g _ _ ((((R.o.alloc _).alloc _).alloc _).alloc _) ot (by rfl) ow _ rfl).mono ?_;rintro e w' ⟨rfl,sv',hr,U⟩))
 have i:Hd (RS w' base B s p sv' a ([byF 102,byF 40,⟨259,4,f.depth,p⟩,⟨260,4,f.depth,p⟩,byF 124,⟨258,0,f.depth+1,0⟩,byF 41]++n) g):=hr;obtain⟨d,v,x⟩:∃d,Below w3.heap.size w3 d/\Mv base B c a sv' a d w':=⟨_,by repeat(first|exact Below.refl _ _|refine Below.drew ?_|refine Below.alloc ?_ sq _),U⟩;have d3:Hd (Mv base B c a sv' a w w'):=(a8.o.trans (Mv.of_below v R.o.bs)).trans x;have d4:w.heap.size<w'.heap.size:=by have h1:=v.size;have h2:=x.bel.size;omega
 have a7:FB w' w.heap.size f:=b0.o.of_block (by
  have h1:w.heap.size<w3.heap.size:=ol;rw[(x.kept _ (Nat.lt_of_lt_of_le h1 v.size) X).1,v.block _ h1])
 have b2:=a7.c2;have c3:=i.o.c3;have z3:=i.o.fz 3;have e0:=i.o.lt;have zf:∀o,(w'.alloc o).frozen? ⟨B,3,F⟩=E:=λo=>(i.o.alloc o).fz 3
 have c7:Hd (g.length+1<=maxLen):=sx;have c6:Hd ((g.length+1)*48<=140737488355328):=oz;have Y:Hd (∀u∈sgV ⟨3,p,f.depth,-1,ByteArray.empty⟩,u.oneCell'=P):=λu hu=>by simp[sgV]at hu;rcases hu with rfl|rfl|rfl|rfl|rfl<;>rfl
 have c5:Hd (∀o:Obj,base<=(w'.alloc o).drew.heap.size):=λo=>by have:=i.o.bs;show base<=(w'.alloc o).heap.size;simp;omega
 clear hr U v x a7 r m a3 a2 a0 a1 b6 b5 b4 b3 l0 l1 l2 l3 l4 l5 l6 l7 R a8 b0 b1 a9;go_wp2_with fail;go_region_law ((refine step_append_lies _ (by rfl) _ _ _ (by rfl) base 162 i0 _ 5 48 underlying157 c4 b9 b8 b7 rfl oq a _ _ (by rfl) ((i.o.sg.alloc _).drew) ⟨w'.heap.size,0,F⟩ 1 1 (sgV ⟨3,p,f.depth,-1,ByteArray.empty⟩) (by rfl) (by rfl) (World.news_of_block (cs:=#[J Z 3,J Z p,J Z f.depth,J Z (-1),.string ByteArray.empty]) (t:=162) (fr:=(0,0)) (heap_alloc_new w' _)) Y.o (Nat.lt_succ_self 0) c7.o c6.o (c5.o _) (w'.heap.size+1) ot ?_;intro gg A w5 C j a6 z;obtain⟨y0,y1,y3,yz,_⟩:=i.o.grown3 j))
 all_goals
  have I:=i.o.signed rfl C j a6;have c9:Hd (RS (w5.setCell ⟨B,3,F⟩ (O (N ⟨gg,0,F⟩) (g.length+1) A)) base B s p sv' (O (N ⟨gg,0,F⟩) (g.length+1) A) ([byF 102,byF 40,⟨259,4,f.depth,p⟩,⟨260,4,f.depth,p⟩,byF 124,⟨258,0,f.depth+1,0⟩,byF 41]++n) (⟨3,p,f.depth,-1,ByteArray.empty⟩::g)):=I.1;have c8:Hd (Mv base B sv' a sv' (O (N ⟨gg,0,F⟩) (g.length+1) A) w' (w5.setCell ⟨B,3,F⟩ (O (N ⟨gg,0,F⟩) (g.length+1) A))):=I.2;clear I C j a6 y0 y1 y3 yz;go_wp2_with fail;go_ret;exact⟨rfl,sv',_,c9.o,d3.o.trans c8.o⟩
theorem zcy(base B:Nat)(s:ByteArray)(k p:Nat)(f:FR)(c a:Value)(n:List FR)(g:List SG)(w:World)(h:RS w base B s k c a n g)(hs:s.size<=2000)(hk:k<=s.size)(W:T.sk s k=p)(hc:T.ch s p=109)(d5:n.length+7<=1099511627776)(c0:g.length+1<=1099511627776)(d0:0<=f.depth)(d1:f.depth<=1000000):
 Calls S 163 #[.pointer (N ⟨B,0,F⟩),frA f] w λe w'=>e=.returned (.bool P)/\∃sv' gv',RS w' base B s p sv' gv' ([byF 109,byF 40,⟨259,9,f.depth,p⟩,⟨260,9,f.depth,p⟩,byF 124,⟨258,0,f.depth+1,0⟩,byF 41]++n) (⟨3,p,f.depth,-1,ByteArray.empty⟩::g)/\Mv base B c a sv' gv' w w':=by
 have q:=λ(d:World) (hz:RS d base B s k c a n g)=>zI base B s k c a n g d hs hk hz
 rw[W,hc]at q;have d2:Hd (∀(d:World),RS d base B s k c a n g->Calls S 135 #[.pointer (N ⟨B,0,F⟩)] d λe w'=>e=.returned (J Z (109))/\RS w' base B s p c a n g/\Mv base B c a c a d w'):=q;clear W q hk hc;obtain⟨i0,c4,b9,b8,b7⟩:=info_parts infoSign;have d9:=λw=>Z2 258 (f.depth+1) w
 have d8:=λw=>Z3 f.depth p w
 unfold frA;go_enter func163,ntmps163;go_wp2_with fail;have hA:=h.alloc (Q #[J Z f.sym,J Z f.kind,J Z f.depth,J Z f.list] 193);have hF:FB (w.alloc (Q #[J Z f.sym,J Z f.kind,J Z f.depth,J Z f.list] 193)) w.heap.size f:=⟨ot,ot,ot,ot⟩;have X:=h.outNew;have D:w.heap.size<(w.alloc (Q #[J Z f.sym,J Z f.kind,J Z f.depth,J Z f.list] 193)).heap.size:=ot;have a4:Mv base B c a c a w (w.alloc (Q #[J Z f.sym,J Z f.kind,J Z f.depth,J Z f.list] 193)):=Mv.alloc h.bs _;refine(d2.o _ hA).mono ?_;rintro e b ⟨rfl,G,y⟩;have a5:=y.kept w.heap.size D X;have K:=hF.of_block a5.1;have V:w.heap.size<b.heap.size:=Nat.lt_of_lt_of_le D y.bel.size;have a9:Hd (Mv base B c a c a w b):=a4.trans y;have l:Hd (RS b base B s p c a n g):=G;have b1:Hd (FB b w.heap.size f):=K;have c1:=G.c1;have b2:=K.c2;clear a4 y hA hF D G a5 h K;go_wp2_with fail;refine(yL _ _ _ _).mono ?_;rintro e w' ⟨rfl,d7⟩;subst w';have R:Hd (RS ((b.alloc (xF f.depth)).alloc (xL 9 f.depth p)) base B s p c a n g):=(l.o.alloc _).alloc _;have a8:Hd (Mv base B c a c a w ((b.alloc (xF f.depth)).alloc (xL 9 f.depth p))):=(a9.o.trans (Mv.alloc l.o.bs _)).trans (Mv.alloc (l.o.alloc _).bs _);have b0:Hd (FB ((b.alloc (xF f.depth)).alloc (xL 9 f.depth p)) w.heap.size f):=b1.o.of_block (by rw[Below.heap_alloc _ _ _ ow,Below.heap_alloc _ _ _ V]);have L:Hd (XK b.heap.size 9 f.depth p ((b.alloc (xF f.depth)).alloc (xL 9 f.depth p))):=xl b 9 f.depth p;obtain⟨l0,l1,l2,l3,l4,l5,l6,l7,b6,b5,b4,b3⟩:=L.o;have d6:b.heap.size+1<((b.alloc (xF f.depth)).alloc (xL 9 f.depth p)).heap.size:=ot;go_wp2_with fail;generalize(b.alloc (xF f.depth)).alloc (xL 9 f.depth p)=w3 at *;have a0:Out B c a (b.heap.size+1):=⟨λe=>by have:=l.o.lt;omega,λe=>by have:=(l.o.st.lt _ e).2;omega,λe=>by have:=(l.o.sg.lt _ e).2;omega⟩;have a1:Out B c a b.heap.size:=l.o.outNew;have r:Hd (∀(d w':World) (sv' gv':Value),Below w3.heap.size w3 d->Mv base B c a sv' gv' d w'->XK b.heap.size 9 f.depth p w'):=by
  intro d w' sv' gv' H U;have eL:w'.heap[b.heap.size+1]?=w3.heap[b.heap.size+1]?:=by
   have z:b.heap.size+1<d.heap.size:=(by have:=H.size;omega);rw[(U.kept _ z a0).1,H.block _ ol]
  have eI:w'.heap[b.heap.size]?=w3.heap[b.heap.size]?:=by
   have z:b.heap.size<d.heap.size:=(by have:=H.size;omega);rw[(U.kept _ z a1).1,H.block _ ol]
  exact Yr L.o eL eI
 have m:Hd (∀(d:World),Below w3.heap.size w3 d->XK b.heap.size 9 f.depth p d):=by
  intro d H;exact Yr L.o (H.block _ ol) (H.block _ ol)
 have a3:w3.heap.size≠b.heap.size+1:=ol;have a2:w3.heap.size≠b.heap.size:=ol;clear c1 b2;go_region_held3 (λw'=>XK b.heap.size 9 f.depth p w') (first|(refine m.o _ ?_;(repeat(first|exact Below.refl _ _|refine Below.drew ?_|refine Below.alloc ?_ sq _));done)|(refine r.o _ _ _ _ ?_ U;(repeat(first|exact Below.refl _ _|refine Below.drew ?_|refine Below.alloc ?_ sq _));done)) (first|(go_at_call 162;refine(zF _ _ ol ol).mono ?_;rintro e w' ⟨rfl,rfl⟩)|(go_at_call 162;rw[show IntKind.u8.wrap 109=109 from by decide];refine(zF _ _ ol ol).mono ?_;rintro e w' ⟨rfl,rfl⟩)|(go_at_call 133;refine(yR base B _ _ s p c a n [byF 109,byF 40,⟨259,9,f.depth,p⟩,⟨260,9,f.depth,p⟩,byF 124,⟨258,0,f.depth+1,0⟩,byF 41] g _ _ ((((R.o.alloc _).alloc _).alloc _).alloc _) ot (by rfl) ow _ rfl).mono ?_;rintro e w' ⟨rfl,sv',hr,U⟩))
 have i:Hd (RS w' base B s p sv' a ([byF 109,byF 40,⟨259,9,f.depth,p⟩,⟨260,9,f.depth,p⟩,byF 124,⟨258,0,f.depth+1,0⟩,byF 41]++n) g):=hr;obtain⟨d,v,x⟩:∃d,Below w3.heap.size w3 d/\Mv base B c a sv' a d w':=⟨_,by repeat(first|exact Below.refl _ _|refine Below.drew ?_|refine Below.alloc ?_ sq _),U⟩;have d3:Hd (Mv base B c a sv' a w w'):=(a8.o.trans (Mv.of_below v R.o.bs)).trans x;have d4:w.heap.size<w'.heap.size:=by have h1:=v.size;have h2:=x.bel.size;omega
 have a7:FB w' w.heap.size f:=b0.o.of_block (by
  have h1:w.heap.size<w3.heap.size:=ol;rw[(x.kept _ (Nat.lt_of_lt_of_le h1 v.size) X).1,v.block _ h1])
 have b2:=a7.c2;have c3:=i.o.c3;have z3:=i.o.fz 3;have e0:=i.o.lt;have zf:∀o,(w'.alloc o).frozen? ⟨B,3,F⟩=E:=λo=>(i.o.alloc o).fz 3
 have c7:Hd (g.length+1<=maxLen):=sx;have c6:Hd ((g.length+1)*48<=140737488355328):=oz;have Y:Hd (∀u∈sgV ⟨3,p,f.depth,-1,ByteArray.empty⟩,u.oneCell'=P):=λu hu=>by simp[sgV]at hu;rcases hu with rfl|rfl|rfl|rfl|rfl<;>rfl
 have c5:Hd (∀o:Obj,base<=(w'.alloc o).drew.heap.size):=λo=>by have:=i.o.bs;show base<=(w'.alloc o).heap.size;simp;omega
 clear hr U v x a7 r m a3 a2 a0 a1 b6 b5 b4 b3 l0 l1 l2 l3 l4 l5 l6 l7 R a8 b0 b1 a9;go_wp2_with fail;go_region_law ((refine step_append_lies _ (by rfl) _ _ _ (by rfl) base 162 i0 _ 5 48 underlying157 c4 b9 b8 b7 rfl oq a _ _ (by rfl) ((i.o.sg.alloc _).drew) ⟨w'.heap.size,0,F⟩ 1 1 (sgV ⟨3,p,f.depth,-1,ByteArray.empty⟩) (by rfl) (by rfl) (World.news_of_block (cs:=#[J Z 3,J Z p,J Z f.depth,J Z (-1),.string ByteArray.empty]) (t:=162) (fr:=(0,0)) (heap_alloc_new w' _)) Y.o (Nat.lt_succ_self 0) c7.o c6.o (c5.o _) (w'.heap.size+1) ot ?_;intro gg A w5 C j a6 z;obtain⟨y0,y1,y3,yz,_⟩:=i.o.grown3 j))
 all_goals
  have I:=i.o.signed rfl C j a6;have c9:Hd (RS (w5.setCell ⟨B,3,F⟩ (O (N ⟨gg,0,F⟩) (g.length+1) A)) base B s p sv' (O (N ⟨gg,0,F⟩) (g.length+1) A) ([byF 109,byF 40,⟨259,9,f.depth,p⟩,⟨260,9,f.depth,p⟩,byF 124,⟨258,0,f.depth+1,0⟩,byF 41]++n) (⟨3,p,f.depth,-1,ByteArray.empty⟩::g)):=I.1;have c8:Hd (Mv base B sv' a sv' (O (N ⟨gg,0,F⟩) (g.length+1) A) w' (w5.setCell ⟨B,3,F⟩ (O (N ⟨gg,0,F⟩) (g.length+1) A))):=I.2;clear I C j a6 y0 y1 y3 yz;go_wp2_with fail;go_ret;exact⟨rfl,sv',_,c9.o,d3.o.trans c8.o⟩
theorem JM(base B:Nat)(s:ByteArray)(k p:Nat)(f:FR)(c a:Value)(n:List FR)(g:List SG)(w:World)(h:RS w base B s k c a n g)(hs:s.size<=2000)(hk:k<=s.size)(W:T.sk s k=p)(hc:T.ch s p=103)(d5:n.length+7<=1099511627776)(c0:g.length+1<=1099511627776)(d0:0<=f.depth)(d1:f.depth<=1000000):
 Calls S 163 #[.pointer (N ⟨B,0,F⟩),frA f] w λe w'=>e=.returned (.bool P)/\∃sv' gv',RS w' base B s p sv' gv' ([byF 103,byF 40,⟨259,7,f.depth,p⟩,⟨260,7,f.depth,p⟩,byF 124,⟨258,0,f.depth+1,0⟩,byF 41]++n) (⟨3,p,f.depth,-1,ByteArray.empty⟩::g)/\Mv base B c a sv' gv' w w':=by
 have q:=λ(d:World) (hz:RS d base B s k c a n g)=>zI base B s k c a n g d hs hk hz
 rw[W,hc]at q;have d2:Hd (∀(d:World),RS d base B s k c a n g->Calls S 135 #[.pointer (N ⟨B,0,F⟩)] d λe w'=>e=.returned (J Z (103))/\RS w' base B s p c a n g/\Mv base B c a c a d w'):=q;clear W q hk hc;obtain⟨i0,c4,b9,b8,b7⟩:=info_parts infoSign;have d9:=λw=>Z2 258 (f.depth+1) w
 have d8:=λw=>Z3 f.depth p w
 unfold frA;go_enter func163,ntmps163;go_wp2_with fail;have hA:=h.alloc (Q #[J Z f.sym,J Z f.kind,J Z f.depth,J Z f.list] 193);have hF:FB (w.alloc (Q #[J Z f.sym,J Z f.kind,J Z f.depth,J Z f.list] 193)) w.heap.size f:=⟨ot,ot,ot,ot⟩;have X:=h.outNew;have D:w.heap.size<(w.alloc (Q #[J Z f.sym,J Z f.kind,J Z f.depth,J Z f.list] 193)).heap.size:=ot;have a4:Mv base B c a c a w (w.alloc (Q #[J Z f.sym,J Z f.kind,J Z f.depth,J Z f.list] 193)):=Mv.alloc h.bs _;refine(d2.o _ hA).mono ?_;rintro e b ⟨rfl,G,y⟩;have a5:=y.kept w.heap.size D X;have K:=hF.of_block a5.1;have V:w.heap.size<b.heap.size:=Nat.lt_of_lt_of_le D y.bel.size;have a9:Hd (Mv base B c a c a w b):=a4.trans y;have l:Hd (RS b base B s p c a n g):=G;have b1:Hd (FB b w.heap.size f):=K;have c1:=G.c1;have b2:=K.c2;clear a4 y hA hF D G a5 h K;go_wp2_with fail;refine(yL _ _ _ _).mono ?_;rintro e w' ⟨rfl,d7⟩;subst w';have R:Hd (RS ((b.alloc (xF f.depth)).alloc (xL 7 f.depth p)) base B s p c a n g):=(l.o.alloc _).alloc _;have a8:Hd (Mv base B c a c a w ((b.alloc (xF f.depth)).alloc (xL 7 f.depth p))):=(a9.o.trans (Mv.alloc l.o.bs _)).trans (Mv.alloc (l.o.alloc _).bs _);have b0:Hd (FB ((b.alloc (xF f.depth)).alloc (xL 7 f.depth p)) w.heap.size f):=b1.o.of_block (by rw[Below.heap_alloc _ _ _ ow,Below.heap_alloc _ _ _ V]);have L:Hd (XK b.heap.size 7 f.depth p ((b.alloc (xF f.depth)).alloc (xL 7 f.depth p))):=xl b 7 f.depth p;obtain⟨l0,l1,l2,l3,l4,l5,l6,l7,b6,b5,b4,b3⟩:=L.o;have d6:b.heap.size+1<((b.alloc (xF f.depth)).alloc (xL 7 f.depth p)).heap.size:=ot;go_wp2_with fail;generalize(b.alloc (xF f.depth)).alloc (xL 7 f.depth p)=w3 at *;have a0:Out B c a (b.heap.size+1):=⟨λe=>by have:=l.o.lt;omega,λe=>by have:=(l.o.st.lt _ e).2;omega,λe=>by have:=(l.o.sg.lt _ e).2;omega⟩;have a1:Out B c a b.heap.size:=l.o.outNew;have r:Hd (∀(d w':World) (sv' gv':Value),Below w3.heap.size w3 d->Mv base B c a sv' gv' d w'->XK b.heap.size 7 f.depth p w'):=by
  intro d w' sv' gv' H U;have eL:w'.heap[b.heap.size+1]?=w3.heap[b.heap.size+1]?:=by
   have z:b.heap.size+1<d.heap.size:=(by have:=H.size;omega);rw[(U.kept _ z a0).1,H.block _ ol]
  have eI:w'.heap[b.heap.size]?=w3.heap[b.heap.size]?:=by
   have z:b.heap.size<d.heap.size:=(by have:=H.size;omega);rw[(U.kept _ z a1).1,H.block _ ol]
  exact Yr L.o eL eI
 have m:Hd (∀(d:World),Below w3.heap.size w3 d->XK b.heap.size 7 f.depth p d):=by
  intro d H;exact Yr L.o (H.block _ ol) (H.block _ ol)
 have a3:w3.heap.size≠b.heap.size+1:=ol;have a2:w3.heap.size≠b.heap.size:=ol;clear c1 b2;go_region_held3 (λw'=>XK b.heap.size 7 f.depth p w') (first|(refine m.o _ ?_;(repeat(first|exact Below.refl _ _|refine Below.drew ?_|refine Below.alloc ?_ sq _));done)|(refine r.o _ _ _ _ ?_ U;(repeat(first|exact Below.refl _ _|refine Below.drew ?_|refine Below.alloc ?_ sq _));done)) (first|(go_at_call 162;refine(zF _ _ ol ol).mono ?_;rintro e w' ⟨rfl,rfl⟩)|(go_at_call 162;rw[show IntKind.u8.wrap 103=103 from by decide];refine(zF _ _ ol ol).mono ?_;rintro e w' ⟨rfl,rfl⟩)|(go_at_call 133;refine(yR base B _ _ s p c a n [byF 103,byF 40,⟨259,7,f.depth,p⟩,⟨260,7,f.depth,p⟩,byF 124,⟨258,0,f.depth+1,0⟩,byF 41] g _ _ ((((R.o.alloc _).alloc _).alloc _).alloc _) ot (by rfl) ow _ rfl).mono ?_;rintro e w' ⟨rfl,sv',hr,U⟩))
 have i:Hd (RS w' base B s p sv' a ([byF 103,byF 40,⟨259,7,f.depth,p⟩,⟨260,7,f.depth,p⟩,byF 124,⟨258,0,f.depth+1,0⟩,byF 41]++n) g):=hr;obtain⟨d,v,x⟩:∃d,Below w3.heap.size w3 d/\Mv base B c a sv' a d w':=⟨_,by repeat(first|exact Below.refl _ _|refine Below.drew ?_|refine Below.alloc ?_ sq _),U⟩;have d3:Hd (Mv base B c a sv' a w w'):=(a8.o.trans (Mv.of_below v R.o.bs)).trans x;have d4:w.heap.size<w'.heap.size:=by have h1:=v.size;have h2:=x.bel.size;omega
 have a7:FB w' w.heap.size f:=b0.o.of_block (by
  have h1:w.heap.size<w3.heap.size:=ol;rw[(x.kept _ (Nat.lt_of_lt_of_le h1 v.size) X).1,v.block _ h1])
 have b2:=a7.c2;have c3:=i.o.c3;have z3:=i.o.fz 3;have e0:=i.o.lt;have zf:∀o,(w'.alloc o).frozen? ⟨B,3,F⟩=E:=λo=>(i.o.alloc o).fz 3
 have c7:Hd (g.length+1<=maxLen):=sx;have c6:Hd ((g.length+1)*48<=140737488355328):=oz;have Y:Hd (∀u∈sgV ⟨3,p,f.depth,-1,ByteArray.empty⟩,u.oneCell'=P):=λu hu=>by simp[sgV]at hu;rcases hu with rfl|rfl|rfl|rfl|rfl<;>rfl
 have c5:Hd (∀o:Obj,base<=(w'.alloc o).drew.heap.size):=λo=>by have:=i.o.bs;show base<=(w'.alloc o).heap.size;simp;omega
 clear hr U v x a7 r m a3 a2 a0 a1 b6 b5 b4 b3 l0 l1 l2 l3 l4 l5 l6 l7 R a8 b0 b1 a9;go_wp2_with fail;go_region_law ((refine step_append_lies _ (by rfl) _ _ _ (by rfl) base 162 i0 _ 5 48 underlying157 c4 b9 b8 b7 rfl oq a _ _ (by rfl) ((i.o.sg.alloc _).drew) ⟨w'.heap.size,0,F⟩ 1 1 (sgV ⟨3,p,f.depth,-1,ByteArray.empty⟩) (by rfl) (by rfl) (World.news_of_block (cs:=#[J Z 3,J Z p,J Z f.depth,J Z (-1),.string ByteArray.empty]) (t:=162) (fr:=(0,0)) (heap_alloc_new w' _)) Y.o (Nat.lt_succ_self 0) c7.o c6.o (c5.o _) (w'.heap.size+1) ot ?_;intro gg A w5 C j a6 z;obtain⟨y0,y1,y3,yz,_⟩:=i.o.grown3 j))
 all_goals
  have I:=i.o.signed rfl C j a6;have c9:Hd (RS (w5.setCell ⟨B,3,F⟩ (O (N ⟨gg,0,F⟩) (g.length+1) A)) base B s p sv' (O (N ⟨gg,0,F⟩) (g.length+1) A) ([byF 103,byF 40,⟨259,7,f.depth,p⟩,⟨260,7,f.depth,p⟩,byF 124,⟨258,0,f.depth+1,0⟩,byF 41]++n) (⟨3,p,f.depth,-1,ByteArray.empty⟩::g)):=I.1;have c8:Hd (Mv base B sv' a sv' (O (N ⟨gg,0,F⟩) (g.length+1) A) w' (w5.setCell ⟨B,3,F⟩ (O (N ⟨gg,0,F⟩) (g.length+1) A))):=I.2;clear I C j a6 y0 y1 y3 yz;go_wp2_with fail;go_ret;exact⟨rfl,sv',_,c9.o,d3.o.trans c8.o⟩
end Go.Proofs.YtaebngpoagjafabGreat
