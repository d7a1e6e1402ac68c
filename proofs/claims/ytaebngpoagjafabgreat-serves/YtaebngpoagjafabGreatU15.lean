import Derived.Test.YtaebngpoagjafabGreatU14
import Derived.RangeFuncBox
import Derived.WalkSmall
set_option maxRecDepth 100000
set_option maxHeartbeats 6400000
namespace Go.Proofs.YtaebngpoagjafabGreat
open Obj renaming cells → Q
open Value renaming int → J, slice → O
open IntKind renaming i64 → Z
open Go.RowKit
attribute [local go_sem ↓] Go.wp_at_zero Go.wp_at_succ
theorem zaI (base B:Nat) (s:ByteArray) (k p:Nat) (c kd d l:Int) (sv gv:Value) (fs:List FR) (gs:List SG) (w:World) (h:RS w base B s k sv gv fs gs) (hs:s.size<=2000) (hk:k<=s.size) (hpe:T.sk s k=p) (hc:T.ch s p=c)
 (_hlen:fs.length+7<=1099511627776) (_hlen2:gs.length+1<=1099511627776) (d0:0<=d) (d1:d<=1000000) (rz:Res) (hrz:Hid ((match Yi d p c with | some l=>(⟨true,p,l,[⟨3,p,d,-1,ByteArray.empty⟩]⟩:Res) | none=>⟨false,p,[],[]⟩)=rz)) :
 Calls Tryz.prog 134 #[.pointer (some ⟨B,0,none⟩),frA ⟨258,kd,d,l⟩] w (SP base B s sv gv fs gs w rz):=by
 show Calls Tryz.prog 134 #[.pointer (some ⟨B,0,none⟩),.agg #[J Z 258,J Z kd,J Z d,J Z l]] w _
 have E:p<=s.size:=by rw [<- hpe];exact T.sk_le hk
 have a:=fun (wz:World) (hz:RS wz base B s k sv gv fs gs)=>zG base B s k sv gv fs gs wz hs hk hz
 rw [hpe,hc] at a
 have I:Hid _:=a
 clear a
 go_enter Tryz.func134,Tryz.ntmps134
 go_wp2_with fail
 have O:=h.alloc (Q #[J Z 258,J Z kd,J Z d,J Z l] 193)
 have N:FB (w.alloc (Q #[J Z 258,J Z kd,J Z d,J Z l] 193)) w.heap.size ⟨258,kd,d,l⟩:=⟨by simp,by simp,by simp,by simp⟩
 have F:=h.outNew
 have g:w.heap.size<(w.alloc (Q #[J Z 258,J Z kd,J Z d,J Z l] 193)).heap.size:=by simp
 have v:Mv base B sv gv sv gv w (w.alloc (Q #[J Z 258,J Z kd,J Z d,J Z l] 193)):=Mv.alloc h.bs _
 refine (I.out _ O).mono ?_
 rintro e o ⟨rfl,q,b⟩
 have y:=b.kept w.heap.size g F
 have i:=N.of_block y.1
 have L:w.heap.size<o.heap.size:=Nat.lt_of_lt_of_le g b.bel.size
 have z:Hid (Mv base B sv gv sv gv w o):=v.trans b
 have H:Hid _:=q
 have n:Hid _:=i
 have W:o.cell? ⟨w.heap.size,0,none⟩=some (J Z 258):=i.c0
 clear v b O N g q y h i
 have V:o.cell? ⟨w.heap.size,1,none⟩=some (J Z kd):=n.out.c1
 have U:o.cell? ⟨w.heap.size,2,none⟩=some (J Z d):=n.out.c2
 have S:o.cell? ⟨w.heap.size,3,none⟩=some (J Z l):=n.out.c3
 go_wp2_with fail
 have D:T.sk s p=p:=by rw [<- hpe];exact T.sk_here (T.sk_bl s k)
 have A:=zc8 base B s p ⟨258,kd,d,l⟩ sv gv fs gs _ H.out hs E _hlen _hlen2 d0 d1
 rw [D,hc] at A
 refine A.mono ?_
 rintro e P (⟨u,rfl,r,x⟩ | ⟨R,f,rfl,C,G,r,x⟩)
 ·have j:Hid _:=r
  have m:Hid _:=z.out.trans x
  have K:Hid _:=u
  clear r x u A
  go_wp2_with fail
  go_ret
  rw [<- hrz.out,K.out]
  exact ⟨rfl,sv,gv,j.out,m.out⟩
 ·have j:Hid _:=r
  have m:Hid _:=z.out.trans x
  have K:Hid _:=f
  clear r x f A
  go_wp2_with fail
  go_ret
  rw [<- hrz.out,K.out]
  exact ⟨rfl,C,G,j.out,m.out⟩
theorem zb9 (base B:Nat) (s:ByteArray) (k p:Nat) (c kd d l:Int) (sv gv:Value) (fs:List FR) (gs:List SG) (w:World) (h:RS w base B s k sv gv fs gs) (hs:s.size<=2000) (hk:k<=s.size) (hpe:T.sk s k=p) (hc:T.ch s p=c)
 (_hlen:fs.length+7<=1099511627776) (_hlen2:gs.length+1<=1099511627776) (rz:Res) (hrz:Hid ((if ((T.dg s 9 58 true p).1 && decide (p<(T.dg s 9 58 true p).2))=true then (⟨true,(T.dg s 9 58 true p).2,[],[⟨kd,p,d,l,s.extract p (T.dg s 9 58 true p).2⟩]⟩:Res) else ⟨false,(T.dg s 9 58 true p).2,[],[]⟩)=rz)) :
 Calls Tryz.prog 134 #[.pointer (some ⟨B,0,none⟩),frA ⟨261,kd,d,l⟩] w (SP base B s sv gv fs gs w rz):=by
 show Calls Tryz.prog 134 #[.pointer (some ⟨B,0,none⟩),.agg #[J Z 261,J Z kd,J Z d,J Z l]] w _
 have D:p<=s.size:=by rw [<- hpe];exact T.sk_le hk
 have a:=fun (wz:World) (hz:RS wz base B s k sv gv fs gs)=>zG base B s k sv gv fs gs wz hs hk hz
 rw [hpe,hc] at a
 have H:Hid _:=a
 clear a
 go_enter Tryz.func134,Tryz.ntmps134
 go_wp2_with fail
 have N:=h.alloc (Q #[J Z 261,J Z kd,J Z d,J Z l] 193)
 have L:FB (w.alloc (Q #[J Z 261,J Z kd,J Z d,J Z l] 193)) w.heap.size ⟨261,kd,d,l⟩:=⟨by simp,by simp,by simp,by simp⟩
 have E:=h.outNew
 have g:w.heap.size<(w.alloc (Q #[J Z 261,J Z kd,J Z d,J Z l] 193)).heap.size:=by simp
 have v:Mv base B sv gv sv gv w (w.alloc (Q #[J Z 261,J Z kd,J Z d,J Z l] 193)):=Mv.alloc h.bs _
 refine (H.out _ N).mono ?_
 rintro e o ⟨rfl,q,b⟩
 have y:=b.kept w.heap.size g E
 have i:=L.of_block y.1
 have K:w.heap.size<o.heap.size:=Nat.lt_of_lt_of_le g b.bel.size
 have z:Hid (Mv base B sv gv sv gv w o):=v.trans b
 have G:Hid _:=q
 have n:Hid _:=i
 have U:o.cell? ⟨w.heap.size,0,none⟩=some (J Z 261):=i.c0
 clear v b N L g q y h i
 have S:o.cell? ⟨w.heap.size,1,none⟩=some (J Z kd):=n.out.c1
 have R:o.cell? ⟨w.heap.size,2,none⟩=some (J Z d):=n.out.c2
 have P:o.cell? ⟨w.heap.size,3,none⟩=some (J Z l):=n.out.c3
 go_wp2_with fail
 have C:T.sk s p=p:=by rw [<- hpe];exact T.sk_here (T.sk_bl s k)
 have A:=qV base B s p ⟨261,kd,d,l⟩ 9 58 true sv gv fs gs _ G.out hs D _hlen2
 rw [C] at A
 refine A.mono ?_
 rintro e O (⟨u,rfl,r,x⟩ | ⟨f,rfl,F,r,x⟩)
 ·have j:Hid _:=r
  have m:Hid _:=z.out.trans x
  have I:Hid _:=u
  clear r x u A
  go_wp2_with fail
  go_ret
  rw [<- hrz.out,I.out]
  exact ⟨rfl,sv,gv,j.out,m.out⟩
 ·have j:Hid _:=r
  have m:Hid _:=z.out.trans x
  have I:Hid _:=f
  clear r x f A
  go_wp2_with fail
  go_ret
  rw [<- hrz.out,I.out]
  exact ⟨rfl,sv,F,j.out,m.out⟩
theorem step_bits (base B:Nat) (s:ByteArray) (k p:Nat) (c kd d l:Int) (sv gv:Value) (fs:List FR) (gs:List SG) (w:World) (h:RS w base B s k sv gv fs gs) (hs:s.size<=2000) (hk:k<=s.size) (hpe:T.sk s k=p) (hc:T.ch s p=c)
 (_hlen:fs.length+7<=1099511627776) (_hlen2:gs.length+1<=1099511627776) (rz:Res) (hrz:Hid ((if ((T.dg s 32 50 false p).1 && decide (p<(T.dg s 32 50 false p).2))=true then (⟨true,(T.dg s 32 50 false p).2,[],[⟨kd,p,d,l,s.extract p (T.dg s 32 50 false p).2⟩]⟩:Res) else ⟨false,(T.dg s 32 50 false p).2,[],[]⟩)=rz)) :
 Calls Tryz.prog 134 #[.pointer (some ⟨B,0,none⟩),frA ⟨262,kd,d,l⟩] w (SP base B s sv gv fs gs w rz):=by
 show Calls Tryz.prog 134 #[.pointer (some ⟨B,0,none⟩),.agg #[J Z 262,J Z kd,J Z d,J Z l]] w _
 have D:p<=s.size:=by rw [<- hpe];exact T.sk_le hk
 have a:=fun (wz:World) (hz:RS wz base B s k sv gv fs gs)=>zG base B s k sv gv fs gs wz hs hk hz
 rw [hpe,hc] at a
 have H:Hid _:=a
 clear a
 go_enter Tryz.func134,Tryz.ntmps134
 go_wp2_with fail
 have N:=h.alloc (Q #[J Z 262,J Z kd,J Z d,J Z l] 193)
 have L:FB (w.alloc (Q #[J Z 262,J Z kd,J Z d,J Z l] 193)) w.heap.size ⟨262,kd,d,l⟩:=⟨by simp,by simp,by simp,by simp⟩
 have E:=h.outNew
 have g:w.heap.size<(w.alloc (Q #[J Z 262,J Z kd,J Z d,J Z l] 193)).heap.size:=by simp
 have v:Mv base B sv gv sv gv w (w.alloc (Q #[J Z 262,J Z kd,J Z d,J Z l] 193)):=Mv.alloc h.bs _
 refine (H.out _ N).mono ?_
 rintro e o ⟨rfl,q,b⟩
 have y:=b.kept w.heap.size g E
 have i:=L.of_block y.1
 have K:w.heap.size<o.heap.size:=Nat.lt_of_lt_of_le g b.bel.size
 have z:Hid (Mv base B sv gv sv gv w o):=v.trans b
 have G:Hid _:=q
 have n:Hid _:=i
 have U:o.cell? ⟨w.heap.size,0,none⟩=some (J Z 262):=i.c0
 clear v b N L g q y h i
 have S:o.cell? ⟨w.heap.size,1,none⟩=some (J Z kd):=n.out.c1
 have R:o.cell? ⟨w.heap.size,2,none⟩=some (J Z d):=n.out.c2
 have P:o.cell? ⟨w.heap.size,3,none⟩=some (J Z l):=n.out.c3
 go_wp2_with fail
 have C:T.sk s p=p:=by rw [<- hpe];exact T.sk_here (T.sk_bl s k)
 have A:=qV base B s p ⟨262,kd,d,l⟩ 32 50 false sv gv fs gs _ G.out hs D _hlen2
 rw [C] at A
 refine A.mono ?_
 rintro e O (⟨u,rfl,r,x⟩ | ⟨f,rfl,F,r,x⟩)
 ·have j:Hid _:=r
  have m:Hid _:=z.out.trans x
  have I:Hid _:=u
  clear r x u A
  go_wp2_with fail
  go_ret
  rw [<- hrz.out,I.out]
  exact ⟨rfl,sv,gv,j.out,m.out⟩
 ·have j:Hid _:=r
  have m:Hid _:=z.out.trans x
  have I:Hid _:=f
  clear r x f A
  go_wp2_with fail
  go_ret
  rw [<- hrz.out,I.out]
  exact ⟨rfl,sv,F,j.out,m.out⟩
theorem qA (base B:Nat) (s:ByteArray) (k p:Nat) (c kd d l:Int) (sv gv:Value) (fs:List FR) (gs:List SG) (w:World) (h:RS w base B s k sv gv fs gs) (hs:s.size<=2000) (hk:k<=s.size) (hpe:T.sk s k=p) (hc:T.ch s p=c)
 (_hlen:fs.length+7<=1099511627776) (_hlen2:gs.length+1<=1099511627776) (hc2:c<97) :
 Calls Tryz.prog 134 #[.pointer (some ⟨B,0,none⟩),frA ⟨263,kd,d,l⟩] w (SP base B s sv gv fs gs w ⟨false,p,[],[]⟩):=by
 show Calls Tryz.prog 134 #[.pointer (some ⟨B,0,none⟩),.agg #[J Z 263,J Z kd,J Z d,J Z l]] w _
 have z:p<=s.size:=by rw [<- hpe];exact T.sk_le hk
 have a:=fun (wz:World) (hz:RS wz base B s k sv gv fs gs)=>zG base B s k sv gv fs gs wz hs hk hz
 rw [hpe,hc] at a
 have r:Hid _:=a
 clear a
 go_enter Tryz.func134,Tryz.ntmps134
 go_wp2_with fail
 have y:=h.alloc (Q #[J Z 263,J Z kd,J Z d,J Z l] 193)
 have x:FB (w.alloc (Q #[J Z 263,J Z kd,J Z d,J Z l] 193)) w.heap.size ⟨263,kd,d,l⟩:=⟨by simp,by simp,by simp,by simp⟩
 have o:=h.outNew
 have f:w.heap.size<(w.alloc (Q #[J Z 263,J Z kd,J Z d,J Z l] 193)).heap.size:=by simp
 have j:Mv base B sv gv sv gv w (w.alloc (Q #[J Z 263,J Z kd,J Z d,J Z l] 193)):=Mv.alloc h.bs _
 refine (r.out _ y).mono ?_
 rintro e n ⟨rfl,i,b⟩
 have m:=b.kept w.heap.size f o
 have g:=x.of_block m.1
 have v:w.heap.size<n.heap.size:=Nat.lt_of_lt_of_le f b.bel.size
 have u:Hid (Mv base B sv gv sv gv w n):=j.trans b
 have q:Hid _:=i
 have A:Hid _:=g
 have C:n.cell? ⟨w.heap.size,0,none⟩=some (J Z 263):=g.c0
 clear j b y x f i m h g
 go_wp2_with fail
 go_ret
 exact ⟨rfl,sv,gv,q.out,u.out⟩
theorem qB (base B:Nat) (s:ByteArray) (k p:Nat) (c kd d l:Int) (sv gv:Value) (fs:List FR) (gs:List SG) (w:World) (h:RS w base B s k sv gv fs gs) (hs:s.size<=2000) (hk:k<=s.size) (hpe:T.sk s k=p) (hc:T.ch s p=c)
 (_hlen:fs.length+7<=1099511627776) (_hlen2:gs.length+1<=1099511627776) (hc2:122<c) :
 Calls Tryz.prog 134 #[.pointer (some ⟨B,0,none⟩),frA ⟨263,kd,d,l⟩] w (SP base B s sv gv fs gs w ⟨false,p,[],[]⟩):=by
 show Calls Tryz.prog 134 #[.pointer (some ⟨B,0,none⟩),.agg #[J Z 263,J Z kd,J Z d,J Z l]] w _
 have z:p<=s.size:=by rw [<- hpe];exact T.sk_le hk
 have a:=fun (wz:World) (hz:RS wz base B s k sv gv fs gs)=>zG base B s k sv gv fs gs wz hs hk hz
 rw [hpe,hc] at a
 have r:Hid _:=a
 clear a
 go_enter Tryz.func134,Tryz.ntmps134
 go_wp2_with fail
 have y:=h.alloc (Q #[J Z 263,J Z kd,J Z d,J Z l] 193)
 have x:FB (w.alloc (Q #[J Z 263,J Z kd,J Z d,J Z l] 193)) w.heap.size ⟨263,kd,d,l⟩:=⟨by simp,by simp,by simp,by simp⟩
 have o:=h.outNew
 have f:w.heap.size<(w.alloc (Q #[J Z 263,J Z kd,J Z d,J Z l] 193)).heap.size:=by simp
 have j:Mv base B sv gv sv gv w (w.alloc (Q #[J Z 263,J Z kd,J Z d,J Z l] 193)):=Mv.alloc h.bs _
 refine (r.out _ y).mono ?_
 rintro e n ⟨rfl,i,b⟩
 have m:=b.kept w.heap.size f o
 have g:=x.of_block m.1
 have v:w.heap.size<n.heap.size:=Nat.lt_of_lt_of_le f b.bel.size
 have u:Hid (Mv base B sv gv sv gv w n):=j.trans b
 have q:Hid _:=i
 have C:Hid _:=g
 have D:n.cell? ⟨w.heap.size,0,none⟩=some (J Z 263):=g.c0
 clear j b y x f i m h g
 have A:¬ c<97:=by omega
 go_wp2_with fail
 go_ret
 exact ⟨rfl,sv,gv,q.out,u.out⟩
theorem QU (base B:Nat) (s:ByteArray) (k p:Nat) (c kd d l:Int) (sv gv:Value) (fs:List FR) (gs:List SG) (w:World) (h:RS w base B s k sv gv fs gs) (hs:s.size<=2000) (hk:k<=s.size) (hpe:T.sk s k=p) (hc:T.ch s p=c)
 (_hlen:fs.length+7<=1099511627776) (_hlen2:gs.length+1<=1099511627776) (sy:Int) (hn:sy≠256/\sy≠257/\sy≠258/\sy≠259/\sy≠260/\sy≠261/\sy≠262/\sy≠263) (hc2:c≠sy) :
 Calls Tryz.prog 134 #[.pointer (some ⟨B,0,none⟩),frA ⟨sy,kd,d,l⟩] w (SP base B s sv gv fs gs w ⟨false,p,[],[]⟩):=by
 show Calls Tryz.prog 134 #[.pointer (some ⟨B,0,none⟩),.agg #[J Z sy,J Z kd,J Z d,J Z l]] w _
 have C:p<=s.size:=by rw [<- hpe];exact T.sk_le hk
 have a:=fun (wz:World) (hz:RS wz base B s k sv gv fs gs)=>zG base B s k sv gv fs gs wz hs hk hz
 rw [hpe,hc] at a
 have u:Hid _:=a
 have N:(sy==256)=false:=beq_eq_false_iff_ne.2 hn.1
 have L:(sy==257)=false:=beq_eq_false_iff_ne.2 hn.2.1
 have K:(sy==258)=false:=beq_eq_false_iff_ne.2 hn.2.2.1
 have I:(sy==259)=false:=beq_eq_false_iff_ne.2 hn.2.2.2.1
 have H:(sy==260)=false:=beq_eq_false_iff_ne.2 hn.2.2.2.2.1
 have G:(sy==261)=false:=beq_eq_false_iff_ne.2 hn.2.2.2.2.2.1
 have F:(sy==262)=false:=beq_eq_false_iff_ne.2 hn.2.2.2.2.2.2.1
 have E:(sy==263)=false:=beq_eq_false_iff_ne.2 hn.2.2.2.2.2.2.2
 clear a
 go_enter Tryz.func134,Tryz.ntmps134
 go_wp2_with fail
 have A:=h.alloc (Q #[J Z sy,J Z kd,J Z d,J Z l] 193)
 have z:FB (w.alloc (Q #[J Z sy,J Z kd,J Z d,J Z l] 193)) w.heap.size ⟨sy,kd,d,l⟩:=⟨by simp,by simp,by simp,by simp⟩
 have o:=h.outNew
 have f:w.heap.size<(w.alloc (Q #[J Z sy,J Z kd,J Z d,J Z l] 193)).heap.size:=by simp
 have j:Mv base B sv gv sv gv w (w.alloc (Q #[J Z sy,J Z kd,J Z d,J Z l] 193)):=Mv.alloc h.bs _
 refine (u.out _ A).mono ?_
 rintro e n ⟨rfl,i,b⟩
 have m:=b.kept w.heap.size f o
 have g:=z.of_block m.1
 have x:w.heap.size<n.heap.size:=Nat.lt_of_lt_of_le f b.bel.size
 have v:Hid (Mv base B sv gv sv gv w n):=j.trans b
 have r:Hid _:=i
 have D:Hid _:=g
 have O:n.cell? ⟨w.heap.size,0,none⟩=some (J Z sy):=g.c0
 clear j b A z f i m h g
 have q:(c==sy)=false:=by rw [beq_eq_false_iff_ne];exact hc2
 have y:(c != sy)=true:=by simp [bne,q]
 go_wp2_with fail
 go_ret
 exact ⟨rfl,sv,gv,r.out,v.out⟩
theorem zaK (base B:Nat) (s:ByteArray) (k p:Nat) (c kd d l:Int) (sv gv:Value) (fs:List FR) (gs:List SG) (w:World) (h:RS w base B s k sv gv fs gs) (hs:s.size<=2000) (hk:k<=s.size) (hpe:T.sk s k=p) (hc:T.ch s p=c)
 (_hlen:fs.length+7<=1099511627776) (_hlen2:gs.length+1<=1099511627776) (sy:Int) (hn:sy≠256/\sy≠257/\sy≠258/\sy≠259/\sy≠260/\sy≠261/\sy≠262/\sy≠263) (hc2:c=sy) (hp1:p<s.size) :
 Calls Tryz.prog 134 #[.pointer (some ⟨B,0,none⟩),frA ⟨sy,kd,d,l⟩] w (SP base B s sv gv fs gs w ⟨true,p+1,[],[]⟩):=by
 show Calls Tryz.prog 134 #[.pointer (some ⟨B,0,none⟩),.agg #[J Z sy,J Z kd,J Z d,J Z l]] w _
 have C:p<=s.size:=by rw [<- hpe];exact T.sk_le hk
 have a:=fun (wz:World) (hz:RS wz base B s k sv gv fs gs)=>zG base B s k sv gv fs gs wz hs hk hz
 rw [hpe,hc] at a
 have u:Hid _:=a
 have P:(sy==256)=false:=beq_eq_false_iff_ne.2 hn.1
 have O:(sy==257)=false:=beq_eq_false_iff_ne.2 hn.2.1
 have N:(sy==258)=false:=beq_eq_false_iff_ne.2 hn.2.2.1
 have L:(sy==259)=false:=beq_eq_false_iff_ne.2 hn.2.2.2.1
 have K:(sy==260)=false:=beq_eq_false_iff_ne.2 hn.2.2.2.2.1
 have I:(sy==261)=false:=beq_eq_false_iff_ne.2 hn.2.2.2.2.2.1
 have H:(sy==262)=false:=beq_eq_false_iff_ne.2 hn.2.2.2.2.2.2.1
 have G:(sy==263)=false:=beq_eq_false_iff_ne.2 hn.2.2.2.2.2.2.2
 clear a
 go_enter Tryz.func134,Tryz.ntmps134
 go_wp2_with fail
 have A:=h.alloc (Q #[J Z sy,J Z kd,J Z d,J Z l] 193)
 have z:FB (w.alloc (Q #[J Z sy,J Z kd,J Z d,J Z l] 193)) w.heap.size ⟨sy,kd,d,l⟩:=⟨by simp,by simp,by simp,by simp⟩
 have q:=h.outNew
 have g:w.heap.size<(w.alloc (Q #[J Z sy,J Z kd,J Z d,J Z l] 193)).heap.size:=by simp
 have m:Mv base B sv gv sv gv w (w.alloc (Q #[J Z sy,J Z kd,J Z d,J Z l] 193)):=Mv.alloc h.bs _
 refine (u.out _ A).mono ?_
 rintro e o ⟨rfl,j,b⟩
 have n:=b.kept w.heap.size g q
 have i:=z.of_block n.1
 have x:w.heap.size<o.heap.size:=Nat.lt_of_lt_of_le g b.bel.size
 have v:Hid (Mv base B sv gv sv gv w o):=m.trans b
 have f:Hid _:=j
 have E:Hid _:=i
 have R:o.cell? ⟨w.heap.size,0,none⟩=some (J Z sy):=i.c0
 clear m b A z g j n h i
 have r:(c==sy)=true:=by rw [beq_iff_eq];exact hc2
 have y:(c != sy)=false:=by simp [bne,r]
 have c1:=f.out.c1
 have F:=f.out.fz 1
 have D:(p:Int)<2000:=by omega
 go_wp2_with fail
 go_ret
 exact ⟨rfl,sv,gv,f.out.at (p+1) _ (by omega),v.out.trans (f.out.atMv _)⟩
theorem Js (base B:Nat) (s:ByteArray) (k p:Nat) (c kd d l:Int) (sv gv:Value) (fs:List FR) (gs:List SG) (w:World) (h:RS w base B s k sv gv fs gs) (hs:s.size<=2000) (hk:k<=s.size) (hpe:T.sk s k=p) (hc:T.ch s p=c)
 (_hlen:fs.length+7<=1099511627776) (_hlen2:gs.length+1<=1099511627776) (hc2:c=44) :
 Calls Tryz.prog 134 #[.pointer (some ⟨B,0,none⟩),frA ⟨260,kd,d,l⟩] w (SP base B s sv gv fs gs w ⟨true,p,[byF 44,⟨259,kd,d,l⟩,⟨260,kd,d,l⟩],[]⟩):=by
 show Calls Tryz.prog 134 #[.pointer (some ⟨B,0,none⟩),.agg #[J Z 260,J Z kd,J Z d,J Z l]] w _
 have a0:p<=s.size:=by rw [<- hpe];exact T.sk_le hk
 have m:=fun (b:World) (u:RS b base B s k sv gv fs gs)=>zG base B s k sv gv fs gs b hs hk u
 rw [hpe,hc] at m
 have V:Hid _:=m
 clear m
 go_enter Tryz.func134,Tryz.ntmps134
 go_wp2_with fail
 have hA:=h.alloc (Q #[J Z 260,J Z kd,J Z d,J Z l] 193)
 have hF:FB (w.alloc (Q #[J Z 260,J Z kd,J Z d,J Z l] 193)) w.heap.size ⟨260,kd,d,l⟩:=⟨by simp,by simp,by simp,by simp⟩
 have E:=h.outNew
 have v:w.heap.size<(w.alloc (Q #[J Z 260,J Z kd,J Z d,J Z l] 193)).heap.size:=by simp
 have F:Mv base B sv gv sv gv w (w.alloc (Q #[J Z 260,J Z kd,J Z d,J Z l] 193)):=Mv.alloc h.bs _
 refine (V.out _ hA).mono ?_
 rintro e a ⟨rfl,D,r⟩
 have G:=r.kept w.heap.size v E
 have y:=hF.of_block G.1
 have C:w.heap.size<a.heap.size:=Nat.lt_of_lt_of_le v r.bel.size
 have Y:Hid (Mv base B sv gv sv gv w a):=F.trans r
 have z:Hid _:=D
 have o:Hid _:=y
 have S:a.cell? ⟨w.heap.size,0,none⟩=some (J Z 260):=y.c0
 clear F r hA hF v D G h y
 have a1:(c==44)=true:=by rw [hc2];decide
 have R:a.cell? ⟨w.heap.size,1,none⟩=some (J Z kd):=o.out.c1
 have P:a.cell? ⟨w.heap.size,2,none⟩=some (J Z d):=o.out.c2
 have O:a.cell? ⟨w.heap.size,3,none⟩=some (J Z l):=o.out.c3
 go_wp2_with fail
 have I:Hid (RS (a.alloc (Q #[J Z 259,J Z kd,J Z d,J Z l] 193)) base B s p sv gv fs gs):=z.out.alloc _
 have X:Hid (Mv base B sv gv sv gv w (a.alloc (Q #[J Z 259,J Z kd,J Z d,J Z l] 193))):=Y.out.trans (Mv.alloc z.out.bs _)
 have n:FB (a.alloc (Q #[J Z 259,J Z kd,J Z d,J Z l] 193)) w.heap.size ⟨260,kd,d,l⟩:=o.out.of_block (Below.heap_alloc _ _ _ C)
 clear S R P O o
 have S:(a.alloc (Q #[J Z 259,J Z kd,J Z d,J Z l] 193)).cell? ⟨w.heap.size,0,none⟩=some (J Z 260):=n.c0
 have R:(a.alloc (Q #[J Z 259,J Z kd,J Z d,J Z l] 193)).cell? ⟨w.heap.size,1,none⟩=some (J Z kd):=n.c1
 have P:(a.alloc (Q #[J Z 259,J Z kd,J Z d,J Z l] 193)).cell? ⟨w.heap.size,2,none⟩=some (J Z d):=n.c2
 have O:(a.alloc (Q #[J Z 259,J Z kd,J Z d,J Z l] 193)).cell? ⟨w.heap.size,3,none⟩=some (J Z l):=n.c3
 have e0:(a.alloc (Q #[J Z 259,J Z kd,J Z d,J Z l] 193)).cell? ⟨a.heap.size,0,none⟩=some (J Z 259):=by simp
 have e1:(a.alloc (Q #[J Z 259,J Z kd,J Z d,J Z l] 193)).cell? ⟨a.heap.size,1,none⟩=some (J Z kd):=by simp
 have e2:(a.alloc (Q #[J Z 259,J Z kd,J Z d,J Z l] 193)).cell? ⟨a.heap.size,2,none⟩=some (J Z d):=by simp
 have e3:(a.alloc (Q #[J Z 259,J Z kd,J Z d,J Z l] 193)).cell? ⟨a.heap.size,3,none⟩=some (J Z l):=by simp
 have u:a.heap.size<(a.alloc (Q #[J Z 259,J Z kd,J Z d,J Z l] 193)).heap.size:=by simp
 clear n
 generalize a.alloc (Q #[J Z 259,J Z kd,J Z d,J Z l] 193)=w2 at *
 have j:w.heap.size<w2.heap.size:=by omega
 have N:Out B sv gv a.heap.size:=z.out.outNew
 have f:Hid (∀ (b:World),Below w2.heap.size w2 b->b.cell? ⟨w.heap.size,0,none⟩=some (J Z 260)/\b.cell? ⟨w.heap.size,1,none⟩=some (J Z kd)/\b.cell? ⟨w.heap.size,2,none⟩=some (J Z d)/\b.cell? ⟨w.heap.size,3,none⟩=some (J Z l)/\b.cell? ⟨a.heap.size,0,none⟩=some (J Z 259)/\b.cell? ⟨a.heap.size,1,none⟩=some (J Z kd)/\b.cell? ⟨a.heap.size,2,none⟩=some (J Z d)/\b.cell? ⟨a.heap.size,3,none⟩=some (J Z l)):=by
  intro b g
  exact ⟨(g.cell (p:=⟨w.heap.size,0,none⟩) j).trans S,(g.cell (p:=⟨w.heap.size,1,none⟩) j).trans R,(g.cell (p:=⟨w.heap.size,2,none⟩) j).trans P,(g.cell (p:=⟨w.heap.size,3,none⟩) j).trans O,(g.cell (p:=⟨a.heap.size,0,none⟩) u).trans e0,(g.cell (p:=⟨a.heap.size,1,none⟩) u).trans e1,(g.cell (p:=⟨a.heap.size,2,none⟩) u).trans e2,(g.cell (p:=⟨a.heap.size,3,none⟩) u).trans e3⟩
 have x:Hid (∀ (b w':World) (i H:Value),Below w2.heap.size w2 b->Mv base B sv gv i H b w'->w'.cell? ⟨w.heap.size,0,none⟩=some (J Z 260)/\w'.cell? ⟨w.heap.size,1,none⟩=some (J Z kd)/\w'.cell? ⟨w.heap.size,2,none⟩=some (J Z d)/\w'.cell? ⟨w.heap.size,3,none⟩=some (J Z l)/\w'.cell? ⟨a.heap.size,0,none⟩=some (J Z 259)/\w'.cell? ⟨a.heap.size,1,none⟩=some (J Z kd)/\w'.cell? ⟨a.heap.size,2,none⟩=some (J Z d)/\w'.cell? ⟨a.heap.size,3,none⟩=some (J Z l)):=by
  intro b w' i H g A
  have q:=f.out b g
  have K:w'.heap[a.heap.size]?=b.heap[a.heap.size]?:=(A.kept _ (Nat.lt_of_lt_of_le u g.size) N).1
  have L:w'.heap[w.heap.size]?=b.heap[w.heap.size]?:=(A.kept _ (Nat.lt_of_lt_of_le j g.size) E).1
  exact ⟨by rw [World.cell?_of_block (w:=b) L];exact q.1,by rw [World.cell?_of_block (w:=b) L];exact q.2.1,by rw [World.cell?_of_block (w:=b) L];exact q.2.2.1,by rw [World.cell?_of_block (w:=b) L];exact q.2.2.2.1,by rw [World.cell?_of_block (w:=b) K];exact q.2.2.2.2.1,by rw [World.cell?_of_block (w:=b) K];exact q.2.2.2.2.2.1,by rw [World.cell?_of_block (w:=b) K];exact q.2.2.2.2.2.2.1,by rw [World.cell?_of_block (w:=b) K];exact q.2.2.2.2.2.2.2⟩
 go_region_held3 (fun w'=>w'.cell? ⟨w.heap.size,0,none⟩=some (J Z 260)/\w'.cell? ⟨w.heap.size,1,none⟩=some (J Z kd)/\w'.cell? ⟨w.heap.size,2,none⟩=some (J Z d)/\w'.cell? ⟨w.heap.size,3,none⟩=some (J Z l)/\w'.cell? ⟨a.heap.size,0,none⟩=some (J Z 259)/\w'.cell? ⟨a.heap.size,1,none⟩=some (J Z kd)/\w'.cell? ⟨a.heap.size,2,none⟩=some (J Z d)/\w'.cell? ⟨a.heap.size,3,none⟩=some (J Z l)) (first | (refine f.out _ ?_;(repeat (first | exact Below.refl _ _ | refine Below.drew ?_ | refine Below.alloc ?_ (by simp<;>omega) _));done) | (refine x.out _ _ _ _ ?_ A;(repeat (first | exact Below.refl _ _ | refine Below.drew ?_ | refine Below.alloc ?_ (by simp<;>omega) _));done)) (first | (go_at_call 162;refine (zD _ _ (by omega) (by omega)).mono ?_;rintro e w' ⟨rfl,rfl⟩) | (go_at_call 133;refine (yJ base B _ _ s p sv gv fs [byF 44,⟨259,kd,d,l⟩,⟨260,kd,d,l⟩] gs _ _ (I.out.alloc _) (by simp) (by rfl) (by simp;omega) _ rfl).mono ?_;rintro e w' ⟨rfl,i,hr,A⟩))
 all_goals
  have U:Hid _:=hr
  have W:Hid (Mv base B sv gv i gv w w'):=(X.out.trans (Mv.alloc I.out.bs _)).trans A
  clear hr A
  go_wp2_with fail
  go_ret
  exact ⟨rfl,i,gv,U.out,W.out⟩
theorem T.ch_pos {s:ByteArray} {k:Nat} (h:0<=T.ch s k):k<s.size:=by
 by_cases a:k<s.size
 ·exact a
 ·rw [T.ch_ge a] at h;omega
theorem zca (base B:Nat) (s:ByteArray) (k:Nat) (f:FR) (sv gv:Value) (fs:List FR) (gs:List SG) (w:World) (h:RS w base B s k sv gv fs gs) (hs:s.size<=2000) (hk:k<=s.size)
 (hlen:fs.length+7<=1099511627776) (hlen2:gs.length+1<=1099511627776) (hsy:0<=f.sym) (d0:0<=f.depth) (d1:f.depth<=1000000) :
 Calls Tryz.prog 134 #[.pointer (some ⟨B,0,none⟩),frA f] w (SP base B s sv gv fs gs w (zm s k f)):=by
 obtain ⟨b,a,d,l⟩:=f
 simp only at hsy d0 d1
 by_cases u:b=256
 ·subst u
  exact zaF base B s k _ _ a d l sv gv fs gs w h hs hk rfl rfl hlen hlen2
 by_cases r:b=257
 ·subst r
  by_cases g:T.ch s (T.sk s k)=59
  ·have e:zm s k ⟨257,a,d,l⟩=⟨true,T.sk s k,[byF 59,⟨256,0,0,0⟩,⟨257,0,0,0⟩],[]⟩:=by simp [zm,g]
   rw [e];exact zaG base B s k _ _ a d l sv gv fs gs w h hs hk rfl rfl hlen hlen2 g
  ·have e:zm s k ⟨257,a,d,l⟩=⟨true,T.sk s k,[],[]⟩:=by simp [zm,g]
   rw [e];exact QT base B s k _ _ a d l sv gv fs gs w h hs hk rfl rfl hlen hlen2 g
 by_cases q:b=258
 ·subst q
  exact zaI base B s k _ _ a d l sv gv fs gs w h hs hk rfl rfl hlen hlen2 d0 d1 _ rfl
 by_cases p:b=259
 ·subst p
  exact zaH base B s k _ _ a d l sv gv fs gs w h hs hk rfl rfl hlen hlen2 d0 d1
 by_cases o:b=260
 ·subst o
  by_cases g:T.ch s (T.sk s k)=44
  ·have e:zm s k ⟨260,a,d,l⟩=⟨true,T.sk s k,[byF 44,⟨259,a,d,l⟩,⟨260,a,d,l⟩],[]⟩:=by simp [zm,g]
   rw [e];exact Js base B s k _ _ a d l sv gv fs gs w h hs hk rfl rfl hlen hlen2 g
  ·have e:zm s k ⟨260,a,d,l⟩=⟨true,T.sk s k,[],[]⟩:=by simp [zm,g]
   rw [e];exact Qi base B s k _ _ a d l sv gv fs gs w h hs hk rfl rfl hlen hlen2 g
 by_cases n:b=261
 ·subst n
  exact zb9 base B s k _ _ a d l sv gv fs gs w h hs hk rfl rfl hlen hlen2 _ rfl
 by_cases m:b=262
 ·subst m
  exact step_bits base B s k _ _ a d l sv gv fs gs w h hs hk rfl rfl hlen hlen2 _ rfl
 by_cases j:b=263
 ·subst j
  by_cases v:T.ch s (T.sk s k)<97
  ·have e:zm s k ⟨263,a,d,l⟩=⟨false,T.sk s k,[],[]⟩:=by simp [zm];omega
   rw [e];exact qA base B s k _ _ a d l sv gv fs gs w h hs hk rfl rfl hlen hlen2 v
  ·by_cases x:122<T.ch s (T.sk s k)
   ·have e:zm s k ⟨263,a,d,l⟩=⟨false,T.sk s k,[],[]⟩:=by simp [zm];omega
    rw [e];exact qB base B s k _ _ a d l sv gv fs gs w h hs hk rfl rfl hlen hlen2 x
   ·have e:zm s k ⟨263,a,d,l⟩=⟨true,T.sk s k+1,[],[⟨a,T.sk s k,d,l,s.extract (T.sk s k) (T.sk s k+1)⟩]⟩:=by simp [zm];omega
    rw [e];exact jx base B s k _ _ a d l sv gv fs gs w h hs hk rfl rfl hlen hlen2 (by omega) (by omega) (T.ch_pos (by omega))
 have i:b≠256/\b≠257/\b≠258/\b≠259/\b≠260/\b≠261/\b≠262/\b≠263:=⟨u,r,q,p,o,n,m,j⟩
 by_cases g:T.ch s (T.sk s k)=b
 ·have e:zm s k ⟨b,a,d,l⟩=⟨true,T.sk s k+1,[],[]⟩:=by simp [zm,i,g]
  rw [e];exact zaK base B s k _ _ a d l sv gv fs gs w h hs hk rfl rfl hlen hlen2 b i g (T.ch_pos (by omega))
 ·have e:zm s k ⟨b,a,d,l⟩=⟨false,T.sk s k,[],[]⟩:=by simp [zm,i,g]
  rw [e];exact QU base B s k _ _ a d l sv gv fs gs w h hs hk rfl rfl hlen hlen2 b i g
theorem zS {b:Nat} {w w':World} (h:Below b w w') (n:Nat):Below b w (w'.drewN n):=⟨h.os,h.tape,h.output,h.size,h.block⟩
theorem RS.pop {w:World} {base B s k gv f fs gs g cap} (h:RS w base B s k (O (some ⟨g,0,none⟩) (fs.length+1) cap) gv (f::fs) gs) :
 RS (w.setCell ⟨B,2,none⟩ (O (some ⟨g,0,none⟩) fs.length cap)) base B s k (O (some ⟨g,0,none⟩) fs.length cap) gv fs gs :=
 ⟨Xv h.blk,ownsRow_setCell_other (ownsRow_pop (zam fs) h.st) (show (O (some ⟨g,0,none⟩) fs.length cap).ownBlock≠some B from h.neS) _,ownsRow_setCell_other h.sg h.neG _,h.hB⟩
theorem RS.top {w:World} {base B s k gv f fs gs g cap} (h:RS w base B s k (O (some ⟨g,0,none⟩) (fs.length+1) cap) gv (f::fs) gs) :
 w.cell? ⟨g,fs.length*4,none⟩=some (J Z f.sym)/\w.cell? ⟨g,fs.length*4+1,none⟩=some (J Z f.kind)/\w.cell? ⟨g,fs.length*4+2,none⟩=some (J Z f.depth)/\w.cell? ⟨g,fs.length*4+3,none⟩=some (J Z f.list):=by
 have b:=fun j hj=>World.ownsRow.cellAt h.st j hj
 have n:=zam fs
 have a:∀ i,i<4->(frC (f::fs))[fs.length*4+i]?=(frV f)[i]?:=fun i hi=>by
  show (frC fs++frV f)[fs.length*4+i]?=_
  rw [List.getElem?_append_right (by omega)]
  congr 1;omega
 have m:=(b (fs.length*4) (by show _<(fs.length+1)*4;omega)).trans (a 0 (by omega))
 have l:=(b (fs.length*4+1) (by show _<(fs.length+1)*4;omega)).trans (a 1 (by omega))
 have e:=(b (fs.length*4+2) (by show _<(fs.length+1)*4;omega)).trans (a 2 (by omega))
 have d:=(b (fs.length*4+3) (by show _<(fs.length+1)*4;omega)).trans (a 3 (by omega))
 exact ⟨m,l,e,d⟩
theorem RS.nil {w:World} {base B s k sv gv gs} (h:RS w base B s k sv gv [] gs):∃ o cap,sv=O o 0 cap:=by
 rcases h.st.2 with ⟨rfl,_⟩ | ⟨g,cap,cur,rfl,_⟩
 ·exact ⟨none,0,rfl⟩
 ·exact ⟨_,cap,rfl⟩
theorem RS.capLe {w:World} {base B s k gv f fs gs g cap} (h:RS w base B s k (O (some ⟨g,0,none⟩) (fs.length+1) cap) gv (f::fs) gs):fs.length+1<=cap:=by
 rcases h.st.2 with ⟨h0,_⟩ | ⟨g',cap',cur,hv,_,_,hn,_⟩
 ·cases h0
 ·cases hv;exact hn
structure LI (s:ByteArray) (M:Nat) (R:Bool×Nat×List SG) (n k:Nat) (fs:List FR) (gs:List SG):Prop where
 run:xO s n k fs gs=some R
 le:n<=M
 at_:k<=s.size
 fl:fs.length+7*n<=2+7*M
 gl:gs.length+n<=M
 all:∀ f∈fs,0<=f.sym/\0<=f.depth/\f.depth+n<=M
theorem LI.next {s M R n k f fs gs} (h:LI s M R (n+1) k (f::fs) gs) (hok:(zm s k f).ok=true):LI s M R n (zm s k f).at_ ((zm s k f).push++fs) ((zm s k f).sg++gs):=by
 have j:=h.all f (by simp)
 have e:=x9 s k f h.at_ j.1 j.2.1
 have i:=h.fl
 have p:=h.gl
 have l:=e.sg
 have o:=h.le
 simp only [List.length_cons] at i
 have a:=h.run
 rw [xO,if_pos hok] at a
 have m:(zm s k f).push.length<=7:=by
  rcases e.fst with hp | ⟨f0,r,hp,_,hr,_⟩
  ·rw [hp];simp
  ·rw [hp];simp only [List.length_cons];omega
 refine ⟨a,by omega,e.hi,by simp only [List.length_append];omega,by simp only [List.length_append];omega,?_⟩
 intro g b
 rcases List.mem_append.1 b with b | b
 ·rcases e.fst with hp | ⟨f0,r,hp,_,hr,hall⟩
  ·rw [hp] at b;simp at b
  ·have d:=hall g b
   have q:=j.2.2
   exact ⟨d.1,d.2.1,by omega⟩
 ·have d:=h.all g (by simp [b])
  exact ⟨d.1,d.2.1,by omega⟩
theorem LI.fails {s M R n k f fs gs} (h:LI s M R (n+1) k (f::fs) gs) (hok:(zm s k f).ok=false):R=(false,(zm s k f).at_,[]):=by
 have a:=h.run
 rw [xO,if_neg (by rw [hok];decide)] at a
 injection a with a
 exact a.symm
theorem LI.stops {s M R n k gs} (h:LI s M R n k [] gs):R=(true,k,gs):=by
 have a:=h.run
 cases n<;>(simp only [xO] at a;injection a with a;exact a.symm)
def rdE (s:ByteArray) (R:Bool×Nat×List SG):Bool×Nat×List SG :=
 if R.1=true then (if 0<=T.ch s (T.sk s R.2.1) then (false,T.sk s R.2.1,[]) else (true,T.sk s R.2.1,R.2.2)) else R
def rd (s:ByteArray):Bool×Nat×List SG:=match rd0 s with
 | none=>(false,0,[])
 | some q=>rdE s (q.ok,q.at_,if q.ok=true then q.sg else [])
def zdJ (base:Nat) (D:Bool×Nat×List SG) (e:Ending) (w':World):Prop :=
 ∃ v, (D.1 = true /\ e = .returned (.tuple #[v, J Z (-1)]) /\ w'.ownsRow base 162 5 v D.2.2.length (sgC D.2.2)) \/
      (D.1=false/\e=.returned (.tuple #[O none 0 0,J Z D.2.1]))
theorem zck (s:ByteArray) (w:World) (hs:s.size<=2000) (M:Nat) (R:Bool×Nat×List SG) (hM:M<=40000) (hR:xO s M 0 [⟨256,0,0,0⟩,⟨257,0,0,0⟩] []=some R) :
 Calls Tryz.prog 96 #[.string s] w fun e w'=>Below w.heap.size w w'/\zdJ w.heap.size (rdE s R) e w':=by
 have a4:=fun w=>xC 256 w
 have a3:=fun w=>xC 257 w
 have a5:1<=M:=by cases M with | zero=>simp [xO] at hR | succ n=>omega
 have HL:Hid (∀ d,d=[]->LI s M R M 0 [⟨256,0,0,0⟩,⟨257,0,0,0⟩] d):=fun d hgs=>by subst hgs;exact ⟨hR,Nat.le_refl _,Nat.zero_le _,by simp,by simp,by simp⟩
 clear hR
 have A:Hid (RS (w.alloc (Q #[.string s,J Z 0,O none 0 0,O none 0 0] 190)) w.heap.size w.heap.size s 0 (O none 0 0) (O none 0 0) [] []) :=
  ⟨heap_alloc_new w _,World.ownsRow_nil _ _ _ _,World.ownsRow_nil _ _ _ _,Nat.le_refl _⟩
 go_enter Tryz.func96,Tryz.ntmps96
 go_wp2_with fail
 refine (Z0 w.heap.size w.heap.size _ _ s 0 _ _ [] [⟨256,0,0,0⟩,⟨257,0,0,0⟩] [] _ _ A.out (by simp) (by rfl) (by simp) _ rfl).mono ?_
 rintro e w1 ⟨rfl,a1,q,E⟩
 have F:Hid _:=q
 have H:Hid (Below w.heap.size w w1):=((Below.refl _ _).alloc (Nat.le_refl _) _).trans E.bel
 clear q E A
 go_wp2_with fail
 go_loopg [5] M (fun n _ wr=>∃ k h d K x,LI s M R n k h d/\RS wr w.heap.size w.heap.size s k K x h d/\Below w.heap.size w wr)
 case atStart=>exact ⟨0,_,[],_,_,HL.out _ rfl,F.out,H.out⟩
 case round =>
  obtain ⟨k,h,d,K,x,r,q,U⟩:=hrel
  have a:Hid _:=r
  have p:Hid _:=q
  have X:Hid _:=U
  have y:k<=s.size:=r.at_
  have c2:=q.c2
  have I:=q.fz 2
  clear U q r
  cases h with
  | nil =>
   obtain ⟨o,j,rfl⟩:=p.out.nil
   have W:Hid (R=(true,k,d)):=a.out.stops
   have D:=T.ch_lo s (T.sk s k)
   obtain ⟨a8,a7⟩:=D
   go_wp2_with fail
   refine (zG w.heap.size w.heap.size s k _ x [] d _ hs y p.out).mono ?_
   rintro e C ⟨rfl,b,i⟩
   have v:Hid _:=b
   have l:Hid (Below w.heap.size w C):=X.out.trans i.bel
   have c1:=b.c1
   have c3:=b.c3
   clear b i c2 I
   by_cases S:0<=T.ch s (T.sk s k)
   ·have B:Hid (rdE s R=(false,T.sk s k,[])):=by
     show _=_
     rw [W.out];simp [rdE,S]
    go_wp2_with fail
    go_quiet (fail)
    go_wp2_with fail
    go_ret2
    refine ⟨zS l.out _,?_⟩
    rw [B.out]
    exact ⟨.bool true,.inr ⟨rfl,rfl⟩⟩
   ·have B:Hid (rdE s R=(true,T.sk s k,d)):=by
     show _=_
     rw [W.out];simp [rdE,S]
    go_wp2_with fail
    go_ret2
    refine ⟨l.out,?_⟩
    rw [B.out]
    exact ⟨x,.inl ⟨rfl,rfl,v.out.sg⟩⟩
  | cons f h =>
   obtain ⟨g,j,rfl⟩:=ownsRow_succ p.out.st
   obtain ⟨q0,q1,q2,q3⟩:=p.out.top
   have P:=p.out.capLe
   have z:=a.out.fl
   have N:=a.out.all f (by simp)
   have u:Hid (RS ((wr.setCell ⟨w.heap.size,2,none⟩ (O (some ⟨g,0,none⟩) h.length j)).alloc (Q #[J Z f.sym,J Z f.kind,J Z f.depth,J Z f.list] 193)) w.heap.size w.heap.size s k (O (some ⟨g,0,none⟩) h.length j) x h d):=p.out.pop.alloc _
   have G:Hid (w.heap.size<=(wr.setCell ⟨w.heap.size,2,none⟩ (O (some ⟨g,0,none⟩) h.length j)).heap.size):=p.out.pop.bs
   have a2:w.heap.size<wr.heap.size:=p.out.lt
   have Y:∀ o,(wr.alloc o).frozen? ⟨w.heap.size,2,none⟩=false:=fun o=>(p.out.alloc o).fz 2
   simp only [List.length_cons] at z
   have L:h.length<=1000000:=by omega
   clear z
   generalize E:h.length=m at *
   have i0:(0:Int)<=(m:Int):=by omega
   have i1:(m:Int)<=(j:Int):=by omega
   have i2:(m:Int)<((m+1:Nat):Int):=by omega
   have e1:(((m+1:Nat):Int)-1)=(m:Int):=by omega
   go_wp2_with fail
   have hA:=u.out
   have V:=zca w.heap.size w.heap.size s k f _ x h d _ u.out hs y (by omega) (by have:=a.out.gl;have:=a.out.le;omega) N.1 N.2.1 (by have:=a.out.le;omega)
   refine V.mono ?_
   rintro e C ⟨rfl,a0,a6,b,i⟩
   have l:Hid (Below w.heap.size w C):=((X.out.setCell (Nat.le_refl _) _).alloc G.out _).trans i.bel
   have v:Hid _:=b
   have c1:=b.c1
   clear hA V b i u p q0 q1 q2 q3 c2 I Y
   cases gk with
   | zero=>exact absurd a.out.run (by simp [xO])
   | succ n =>
    cases hok:(zm s k f).ok with
    | true =>
     have HN:Hid (LI s M R n (zm s k f).at_ ((zm s k f).push++h) ((zm s k f).sg++d)):=a.out.next hok
     go_wp2_with fail
     go_roundg n
     case measure=>omega
     case rel=>exact ⟨_,_,_,_,_,HN.out,v.out,l.out⟩
    | false =>
     have B:Hid (rdE s R=(false,(zm s k f).at_,[])):=by
      show _=_
      rw [a.out.fails hok];rfl
     go_wp2_with fail
     go_quiet (fail)
     go_wp2_with fail
     go_ret2
     refine ⟨zS l.out _,?_⟩
     rw [B.out]
     exact ⟨.bool true,.inr ⟨rfl,rfl⟩⟩
end Go.Proofs.YtaebngpoagjafabGreat
