/-
  OUR OWN.
-/
import Derived.Test.YtaebngpoagjafaaGreatU03
import Derived.Laws.ResultCell
set_option maxRecDepth 100000
namespace Go.Proofs.YtaebngpoagjafaaGreat
open Go.RowKit
theorem buildF1 (a:Int) (w:World):(Instr.build 187 #[(0,.int .i64 a)]).run Tryz.prog w=.ok (.agg #[.int .i64 a,.int .i64 0,.int .i64 0,.int .i64 0]) w:=run_build w 187 _ _ (by kernel_rfl)
theorem buildF13 (a b d:Int) (w:World):(Instr.build 187 #[(0,.int .i64 a),(1,.int .i64 b),(3,.int .i64 d)]).run Tryz.prog w=.ok (.agg #[.int .i64 a,.int .i64 b,.int .i64 0,.int .i64 d]) w:=run_build w 187 _ _ (by kernel_rfl)
theorem buildF2 (a c:Int) (w:World):(Instr.build 187 #[(0,.int .i64 a),(2,.int .i64 c)]).run Tryz.prog w=.ok (.agg #[.int .i64 a,.int .i64 0,.int .i64 c,.int .i64 0]) w:=run_build w 187 _ _ (by kernel_rfl)
theorem buildF4 (a b c d:Int) (w:World):(Instr.build 187 #[(0,.int .i64 a),(1,.int .i64 b),(2,.int .i64 c),(3,.int .i64 d)]).run Tryz.prog w=.ok (.agg #[.int .i64 a,.int .i64 b,.int .i64 c,.int .i64 d]) w:=run_build w 187 _ _ (by kernel_rfl)
def byF (c:Int):FR:=⟨c,0,0,0⟩
set_option maxHeartbeats 400000 in
theorem byteOf_any (c:Int) (w:World) (c0:0<=c) (c1:c<256) :
   Calls Tryz.prog 172 #[.int .u8 c] w fun e w'=>e=.returned (.agg #[.int .i64 c,.int .i64 0,.int .i64 0,.int .i64 0])/\w'=w.alloc (.cells #[.int .i64 c,.int .i64 0,.int .i64 0,.int .i64 0] 187):=by
 have h1:=fun w=>buildF1 c w
 go_enter Tryz.func172,Tryz.ntmps172
 go_wp2
 exact bodyPost_ret (v:=.agg #[.int .i64 c,.int .i64 0,.int .i64 0,.int .i64 0]) (by simp [results,Tryz.results172,go_sem]) rfl ⟨rfl,by simp⟩
set_option maxHeartbeats 400000 in
theorem listOf_any (k d l:Int) (w:World) :
   Calls Tryz.prog 183 #[.int .i64 k,.int .i64 d,.int .i64 l] w fun e w'=>e=.returned (.slice (some ⟨w.heap.size,0,none⟩) 2 2)/\w'=w.alloc (.cells #[.int .i64 259,.int .i64 k,.int .i64 d,.int .i64 l,.int .i64 260,.int .i64 k,.int .i64 d,.int .i64 l] 187):=by
 have h1:=fun w=>buildF4 259 k d l w
 have h2:=fun w=>buildF4 260 k d l w
 go_enter Tryz.func183,Tryz.ntmps183
 go_wp2
 go_ret
 exact ⟨rfl,rfl⟩
def frL (ls:List FR):List Value:=ls.flatMap frV
theorem frL_get (ls:List FR):∀ (i:Nat) (f:FR) (j:Nat),ls[i]?=some f->j<4->(frL ls)[i*4+j]?=(frV f)[j]?:=by
 induction ls with
 | nil=>intro i f j h;simp at h
 | cons g r ih =>
   intro i f j h hj
   simp only [frL,List.flatMap_cons]
   cases i with
   | zero =>
     simp at h
     subst h
     rw [Nat.zero_mul,Nat.zero_add,List.getElem?_append_left (by simp [frV];omega)]
   | succ i =>
     simp at h
     have:=ih i f j h hj
     rw [List.getElem?_append_right (by simp [frV];omega)]
     have e:(i+1)*4+j-(frV g).length=i*4+j:=by simp [frV];omega
     rw [e];exact this
theorem LS.new (w:World) (C:Array Value) (ls:List FR) (h:C.toList=frL ls):LS (w.alloc (.cells C 187)) w.heap.size ls:=by
 intro i f hf
 have hc:∀ j,j<4->(w.alloc (.cells C 187)).cell? ⟨w.heap.size,i*4+j,none⟩=(frV f)[j]?:=fun j hj=>by
   rw [<- frL_get ls i f j hf hj,<- h]
   rw [World.cell?_alloc_mark];simp
 exact ⟨hc 0 (by omega),hc 1 (by omega),hc 2 (by omega),hc 3 (by omega)⟩
theorem push_new (base B c:Nat) (s:ByteArray) (k:Nat) (sv gv:Value) (fs ls:List FR) (gs:List SG) (C:Array Value) (w:World) (h:RS w base B s k sv gv fs gs) (hC:C.toList=frL ls) (hlen:fs.length+ls.length<=1099511627776) (n:Nat) (hn:n=ls.length) :
   Calls Tryz.prog 133 #[.pointer (some ⟨B,0,none⟩),.slice (some ⟨w.heap.size,0,none⟩) n c] (w.alloc (.cells C 187)) fun e w'=>e=.returned (.tuple #[])/\∃ sv',RS w' base B s k sv' gv (ls++fs) gs/\Mv base B sv gv sv' gv w w':=by
 subst hn
 refine (push_any base B w.heap.size c s k sv gv fs ls gs _ (h.alloc _) (LS.new w C ls hC) h.outNew (by simp) hlen).mono ?_
 rintro e w' ⟨he,sv',hr,hm⟩
 exact ⟨he,sv',hr,(Mv.alloc h.bs _).trans hm⟩
theorem RS.drew {w:World} {base B s k sv gv fs gs} (h:RS w base B s k sv gv fs gs):RS w.drew base B s k sv gv fs gs:=⟨h.blk,h.st,h.sg,h.hB⟩
theorem Mv.drew {base B:Nat} {a b c d:Value} {w w1:World} (h:Mv base B a b c d w w1):Mv base B a b c d w w1.drew:=⟨h.bel.drew,h.kept⟩
theorem push_newD (base B lb c:Nat) (s:ByteArray) (k:Nat) (sv gv:Value) (fs ls:List FR) (gs:List SG) (C:Array Value) (w:World) (h:RS w base B s k sv gv fs gs) (hlb:lb=w.heap.size) (hC:C.toList=frL ls) (hlen:fs.length+ls.length<=1099511627776) (n:Nat) (hn:n=ls.length) :
   Calls Tryz.prog 133 #[.pointer (some ⟨B,0,none⟩),.slice (some ⟨lb,0,none⟩) n c] (w.alloc (.cells C 187)).drew fun e w'=>e=.returned (.tuple #[])/\∃ sv',RS w' base B s k sv' gv (ls++fs) gs/\Mv base B sv gv sv' gv w w':=by
 subst hlb
 subst hn
 have hl:LS (w.alloc (.cells C 187)).drew w.heap.size ls:=LS.new w C ls hC
 refine (push_any base B w.heap.size c s k sv gv fs ls gs _ (h.alloc _).drew hl h.outNew (by simp) hlen).mono ?_
 rintro e w' ⟨he,sv',hr,hm⟩
 exact ⟨he,sv',hr,((Mv.alloc h.bs _).drew).trans hm⟩
theorem push_newL (base B lb c:Nat) (s:ByteArray) (k:Nat) (sv gv:Value) (fs ls:List FR) (gs:List SG) (C:Array Value) (w:World) (h:RS w base B s k sv gv fs gs) (hlb:lb=w.heap.size) (hC:C.toList=frL ls) (hlen:fs.length+ls.length<=1099511627776) (n:Nat) (hn:n=ls.length) :
   Calls Tryz.prog 133 #[.pointer (some ⟨B,0,none⟩),.slice (some ⟨lb,0,none⟩) n c] (w.alloc (.cells C 187)) fun e w'=>e=.returned (.tuple #[])/\∃ sv',RS w' base B s k sv' gv (ls++fs) gs/\Mv base B sv gv sv' gv w w':=by
 subst hlb
 exact push_new base B c s k sv gv fs ls gs C w h hC hlen n hn
def itemL (f:FR):List FR :=
 if f.kind=10 then [⟨261,4,0,f.list⟩,byF 42,⟨261,5,0,-1⟩]
 else if f.kind=9 then [⟨262,9,0,f.list⟩,byF 58,⟨258,0,f.depth+1,0⟩]
 else if f.kind=7 then [⟨261,7,0,f.list⟩,byF 58,⟨258,0,f.depth+1,0⟩]
 else [⟨261,4,0,f.list⟩]
end Go.Proofs.YtaebngpoagjafaaGreat
namespace Go.Proofs.YtaebngpoagjafaaGreat
open Go.RowKit
theorem buildSgn (d:Int) (p:Nat) (w:World):(Instr.build 151 #[(0,.int .i64 3),(1,.int .i64 p),(2,.int .i64 d),(3,.int .i64 (-1))]).run Tryz.prog w=.ok (.agg #[.int .i64 3,.int .i64 p,.int .i64 d,.int .i64 (-1),.string ByteArray.empty]) w:=run_build w 151 _ _ (by kernel_rfl)
theorem Mv.of_below {base B:Nat} {sv gv:Value} {w w':World} (hb:Below w.heap.size w w') (h:base<=w.heap.size):Mv base B sv gv sv gv w w':=⟨hb.mono h,fun b hlt ho=>⟨hb.block b hlt,ho⟩⟩
def exprL (d:Int) (p:Nat) (c:Int):Option (List FR) :=
 if c=123 then some [byF 123,⟨259,4,d,p⟩,⟨260,4,d,p⟩,byF 125]
 else if c=119 then some [byF 119,byF 40,⟨259,10,d,p⟩,⟨260,10,d,p⟩,byF 124,⟨258,0,d+1,0⟩,byF 41]
 else if c=102 then some [byF 102,byF 40,⟨259,4,d,p⟩,⟨260,4,d,p⟩,byF 124,⟨258,0,d+1,0⟩,byF 41]
 else if c=109 then some [byF 109,byF 40,⟨259,9,d,p⟩,⟨260,9,d,p⟩,byF 124,⟨258,0,d+1,0⟩,byF 41]
 else if c=103 then some [byF 103,byF 40,⟨259,7,d,p⟩,⟨260,7,d,p⟩,byF 124,⟨258,0,d+1,0⟩,byF 41]
 else if c=116 then some [byF 116,byF 40,⟨261,6,0,-1⟩,byF 44,⟨258,0,d+1,0⟩,byF 41]
 else if c=64 then some [byF 64,⟨261,8,0,-1⟩]
 else if c=61 then some [byF 61,⟨263,2,0,-1⟩]
 else none
structure Res where
 ok:Bool
 at_:Nat
 push:List FR
 sg:List SG
def stepR (s:ByteArray) (k:Nat) (f:FR):Res :=
 let p:=T.sk s k
 let c:=T.ch s p
 if f.sym=256 then ⟨true,p,[⟨263,1,0,-1⟩,byF 58,⟨258,0,0,0⟩],[]⟩
 else if f.sym=257 then ⟨true,p,if c=59 then [byF 59,⟨256,0,0,0⟩,⟨257,0,0,0⟩] else [],[]⟩
 else if f.sym=258 then
   match exprL f.depth p c with
   | some l=>⟨true,p,l,[⟨3,p,f.depth,-1,ByteArray.empty⟩]⟩
   | none=>⟨false,p,[],[]⟩
 else if f.sym=259 then ⟨true,p,itemL f,[]⟩
 else if f.sym=260 then ⟨true,p,if c=44 then [byF 44,⟨259,f.kind,f.depth,f.list⟩,f] else [],[]⟩
 else if f.sym=261 then
   let r:=T.dg s 9 58 true p
   if (r.1 && decide (p<r.2))=true then ⟨true,r.2,[],[⟨f.kind,p,f.depth,f.list,s.extract p r.2⟩]⟩ else ⟨false,r.2,[],[]⟩
 else if f.sym=262 then
   let r:=T.dg s 32 50 false p
   if (r.1 && decide (p<r.2))=true then ⟨true,r.2,[],[⟨f.kind,p,f.depth,f.list,s.extract p r.2⟩]⟩ else ⟨false,r.2,[],[]⟩
 else if f.sym=263 then
   if 97<=c/\c<=122 then ⟨true,p+1,[],[⟨f.kind,p,f.depth,f.list,s.extract p (p+1)⟩]⟩ else ⟨false,p,[],[]⟩
 else if c=f.sym then ⟨true,p+1,[],[]⟩ else ⟨false,p,[],[]⟩
end Go.Proofs.YtaebngpoagjafaaGreat
namespace Go.Proofs.YtaebngpoagjafaaGreat
open Go.RowKit
attribute [local go_sem ↓] Go.wp_at_zero Go.wp_at_succ
set_option maxHeartbeats 3200000 in
theorem item_any (base B:Nat) (s:ByteArray) (k:Nat) (f:FR) (sv gv:Value) (fs:List FR) (gs:List SG) (w:World) (h:RS w base B s k sv gv fs gs) (hlen:fs.length+3<=1099511627776) (d0:0<=f.depth) (d1:f.depth<=1000000) :
   Calls Tryz.prog 174 #[.pointer (some ⟨B,0,none⟩),frA f] w fun e w'=>e=.returned (.tuple #[])/\∃ sv',RS w' base B s k sv' gv (itemL f++fs) gs/\Mv base B sv gv sv' gv w w':=by
 have hb2:=fun w=>buildF2 258 (f.depth+1) w
 have hA:=h.alloc (.cells #[.int .i64 f.sym,.int .i64 f.kind,.int .i64 f.depth,.int .i64 f.list] 187)
 have hA2:=hA.alloc (.cells #[.int .i64 258,.int .i64 0,.int .i64 (f.depth+1),.int .i64 0] 187)
 have HA2:Hid (RS ((w.alloc (.cells #[.int .i64 f.sym,.int .i64 f.kind,.int .i64 f.depth,.int .i64 f.list] 187)).alloc (.cells #[.int .i64 258,.int .i64 0,.int .i64 (f.depth+1),.int .i64 0] 187)) base B s k sv gv fs gs):=hA2
 have HMV:Hid (Mv base B sv gv sv gv w ((w.alloc (.cells #[.int .i64 f.sym,.int .i64 f.kind,.int .i64 f.depth,.int .i64 f.list] 187)).alloc (.cells #[.int .i64 258,.int .i64 0,.int .i64 (f.depth+1),.int .i64 0] 187))):=(Mv.alloc h.bs _).trans (Mv.alloc hA.bs _)
 clear hA hA2
 have f3:Hid (((w.alloc (.cells #[.int .i64 f.sym,.int .i64 f.kind,.int .i64 f.depth,.int .i64 f.list] 187)).alloc (.cells #[.int .i64 258,.int .i64 0,.int .i64 (f.depth+1),.int .i64 0] 187)).cell? ⟨w.heap.size,3,none⟩=some (.int .i64 f.list)):=by show _=_;simp
 have g0:Hid (((w.alloc (.cells #[.int .i64 f.sym,.int .i64 f.kind,.int .i64 f.depth,.int .i64 f.list] 187)).alloc (.cells #[.int .i64 258,.int .i64 0,.int .i64 (f.depth+1),.int .i64 0] 187)).cell? ⟨w.heap.size+1,0,none⟩=some (.int .i64 258)):=by show _=_;simp
 have g1:Hid (((w.alloc (.cells #[.int .i64 f.sym,.int .i64 f.kind,.int .i64 f.depth,.int .i64 f.list] 187)).alloc (.cells #[.int .i64 258,.int .i64 0,.int .i64 (f.depth+1),.int .i64 0] 187)).cell? ⟨w.heap.size+1,1,none⟩=some (.int .i64 0)):=by show _=_;simp
 have g2:Hid (((w.alloc (.cells #[.int .i64 f.sym,.int .i64 f.kind,.int .i64 f.depth,.int .i64 f.list] 187)).alloc (.cells #[.int .i64 258,.int .i64 0,.int .i64 (f.depth+1),.int .i64 0] 187)).cell? ⟨w.heap.size+1,2,none⟩=some (.int .i64 (f.depth+1))):=by show _=_;simp
 have g3:Hid (((w.alloc (.cells #[.int .i64 f.sym,.int .i64 f.kind,.int .i64 f.depth,.int .i64 f.list] 187)).alloc (.cells #[.int .i64 258,.int .i64 0,.int .i64 (f.depth+1),.int .i64 0] 187)).cell? ⟨w.heap.size+1,3,none⟩=some (.int .i64 0)):=by show _=_;simp
 have hz:Hid (w.heap.size+1<((w.alloc (.cells #[.int .i64 f.sym,.int .i64 f.kind,.int .i64 f.depth,.int .i64 f.list] 187)).alloc (.cells #[.int .i64 258,.int .i64 0,.int .i64 (f.depth+1),.int .i64 0] 187)).heap.size):=by show _<_;simp
 cases k10:(f.kind==10) with
 | true =>
   have HL:Hid (itemL f=[⟨261,4,0,f.list⟩,byF 42,⟨261,5,0,-1⟩]):=by show _=_;unfold itemL;rw [if_pos (by simpa using k10)]
   have hb1:=fun w=>buildF13 261 4 f.list w
   have hb3:=fun w=>buildF13 261 5 (-1) w
   unfold frA
   go_enter Tryz.func174,Tryz.ntmps174
   go_wp2_with fail
   have f3:=f3.out
   have g0:=g0.out
   have g1:=g1.out
   have g2:=g2.out
   have g3:=g3.out
   have hz:=hz.out
   generalize ((w.alloc (.cells #[.int .i64 f.sym,.int .i64 f.kind,.int .i64 f.depth,.int .i64 f.list] 187)).alloc (.cells #[.int .i64 258,.int .i64 0,.int .i64 (f.depth+1),.int .i64 0] 187))=w2 at *
   have hz':w.heap.size<w2.heap.size:=by omega
   go_region_with (first | (go_at_call 172;refine (byteOf_any _ _ (by omega) (by omega)).mono ?_;rintro e w' ⟨rfl,rfl⟩) | (go_at_call 133;refine (push_newD base B _ _ s k sv gv fs [⟨261,4,0,f.list⟩,byF 42,⟨261,5,0,-1⟩] gs _ _ (HA2.out.alloc _) (by simp) (by rfl) (by simp;omega) _ rfl).mono ?_;rintro e w' ⟨rfl,sv',hr,hm⟩))
   all_goals
     have HR2:Hid (RS w' base B s k sv' gv ([⟨261,4,0,f.list⟩,byF 42,⟨261,5,0,-1⟩]++fs) gs):=hr
     have HM2:Hid (Mv base B sv gv sv' gv w w'):=(HMV.out.trans (Mv.alloc HA2.out.bs _)).trans hm
     clear hr hm
     go_wp2_with fail
     go_end0
     exact ⟨rfl,sv',by rw [HL.out];exact HR2.out,HM2.out⟩
 | false =>
   cases k9:(f.kind==9) with
   | true =>
     have HL:Hid (itemL f=[⟨262,9,0,f.list⟩,byF 58,⟨258,0,f.depth+1,0⟩]):=by show _=_;unfold itemL;rw [if_neg (by simpa using k10),if_pos (by simpa using k9)]
     have hb1:=fun w=>buildF13 262 9 f.list w
     unfold frA
     go_enter Tryz.func174,Tryz.ntmps174
     go_wp2_with fail
     have f3:=f3.out
     have g0:=g0.out
     have g1:=g1.out
     have g2:=g2.out
     have g3:=g3.out
     have hz:=hz.out
     generalize ((w.alloc (.cells #[.int .i64 f.sym,.int .i64 f.kind,.int .i64 f.depth,.int .i64 f.list] 187)).alloc (.cells #[.int .i64 258,.int .i64 0,.int .i64 (f.depth+1),.int .i64 0] 187))=w2 at *
     have hz':w.heap.size<w2.heap.size:=by omega
     go_region_with (first | (go_at_call 172;refine (byteOf_any _ _ (by omega) (by omega)).mono ?_;rintro e w' ⟨rfl,rfl⟩) | (go_at_call 133;refine (push_newD base B _ _ s k sv gv fs [⟨262,9,0,f.list⟩,byF 58,⟨258,0,f.depth+1,0⟩] gs _ _ (HA2.out.alloc _) (by simp) (by rfl) (by simp;omega) _ rfl).mono ?_;rintro e w' ⟨rfl,sv',hr,hm⟩))
     all_goals
       have HR2:Hid (RS w' base B s k sv' gv ([⟨262,9,0,f.list⟩,byF 58,⟨258,0,f.depth+1,0⟩]++fs) gs):=hr
       have HM2:Hid (Mv base B sv gv sv' gv w w'):=(HMV.out.trans (Mv.alloc HA2.out.bs _)).trans hm
       clear hr hm
       go_wp2_with fail
       go_end0
       exact ⟨rfl,sv',by rw [HL.out];exact HR2.out,HM2.out⟩
   | false =>
     cases k7:(f.kind==7) with
     | true =>
       have HL:Hid (itemL f=[⟨261,7,0,f.list⟩,byF 58,⟨258,0,f.depth+1,0⟩]):=by show _=_;unfold itemL;rw [if_neg (by simpa using k10),if_neg (by simpa using k9),if_pos (by simpa using k7)]
       have hb1:=fun w=>buildF13 261 7 f.list w
       unfold frA
       go_enter Tryz.func174,Tryz.ntmps174
       go_wp2_with fail
       have f3:=f3.out
       have g0:=g0.out
       have g1:=g1.out
       have g2:=g2.out
       have g3:=g3.out
       have hz:=hz.out
       generalize ((w.alloc (.cells #[.int .i64 f.sym,.int .i64 f.kind,.int .i64 f.depth,.int .i64 f.list] 187)).alloc (.cells #[.int .i64 258,.int .i64 0,.int .i64 (f.depth+1),.int .i64 0] 187))=w2 at *
       have hz':w.heap.size<w2.heap.size:=by omega
       go_region_with (first | (go_at_call 172;refine (byteOf_any _ _ (by omega) (by omega)).mono ?_;rintro e w' ⟨rfl,rfl⟩) | (go_at_call 133;refine (push_newD base B _ _ s k sv gv fs [⟨261,7,0,f.list⟩,byF 58,⟨258,0,f.depth+1,0⟩] gs _ _ (HA2.out.alloc _) (by simp) (by rfl) (by simp;omega) _ rfl).mono ?_;rintro e w' ⟨rfl,sv',hr,hm⟩))
       all_goals
         have HR2:Hid (RS w' base B s k sv' gv ([⟨261,7,0,f.list⟩,byF 58,⟨258,0,f.depth+1,0⟩]++fs) gs):=hr
         have HM2:Hid (Mv base B sv gv sv' gv w w'):=(HMV.out.trans (Mv.alloc HA2.out.bs _)).trans hm
         clear hr hm
         go_wp2_with fail
         go_end0
         exact ⟨rfl,sv',by rw [HL.out];exact HR2.out,HM2.out⟩
     | false =>
       have HL:Hid (itemL f=[⟨261,4,0,f.list⟩]):=by show _=_;unfold itemL;rw [if_neg (by simpa using k10),if_neg (by simpa using k9),if_neg (by simpa using k7)]
       have hb1:=fun w=>buildF13 261 4 f.list w
       unfold frA
       go_enter Tryz.func174,Tryz.ntmps174
       go_wp2_with fail
       refine (push_newL base B _ _ s k sv gv fs [⟨261,4,0,f.list⟩] gs _ _ HA2.out (by simp) (by rfl) (by simp;omega) _ rfl).mono ?_
       rintro e w' ⟨rfl,sv',hr,hm⟩
       have HR2:Hid (RS w' base B s k sv' gv ([⟨261,4,0,f.list⟩]++fs) gs):=hr
       have HM2:Hid (Mv base B sv gv sv' gv w w'):=HMV.out.trans hm
       clear hr hm
       go_wp2_with fail
       go_end0
       exact ⟨rfl,sv',by rw [HL.out];exact HR2.out,HM2.out⟩
end Go.Proofs.YtaebngpoagjafaaGreat
namespace Go.Proofs.YtaebngpoagjafaaGreat
open Go.RowKit
attribute [local go_sem ↓] Go.wp_at_zero Go.wp_at_succ
set_option maxHeartbeats 6400000 in
theorem expr_brace (base B:Nat) (s:ByteArray) (k p:Nat) (f:FR) (sv gv:Value) (fs:List FR) (gs:List SG) (w:World) (h:RS w base B s k sv gv fs gs) (hs:s.size<=2000) (hk:k<=s.size) (hpe:T.sk s k=p) (hc:T.ch s p=123)
   (hlen:fs.length+7<=1099511627776) (hlen2:gs.length+1<=1099511627776) (d0:0<=f.depth) (d1:f.depth<=1000000) :
   Calls Tryz.prog 173 #[.pointer (some ⟨B,0,none⟩),frA f] w fun e w'=>e=.returned (.bool true)/\∃ sv' gv',RS w' base B s p sv' gv' ([byF 123,⟨259,4,f.depth,p⟩,⟨260,4,f.depth,p⟩,byF 125]++fs) (⟨3,p,f.depth,-1,ByteArray.empty⟩::gs)/\Mv base B sv gv sv' gv' w w':=by
 have hpee:=fun (wz:World) (hz:RS wz base B s k sv gv fs gs)=>peek_any base B s k sv gv fs gs wz hs hk hz
 rw [hpe,hc] at hpee
 have HPE:Hid (∀ (wz:World),RS wz base B s k sv gv fs gs->Calls Tryz.prog 135 #[.pointer (some ⟨B,0,none⟩)] wz fun e w'=>e=.returned (.int .i64 (123))/\RS w' base B s p sv gv fs gs/\Mv base B sv gv sv gv wz w'):=hpee
 clear hpe hpee hk hc
 obtain ⟨i0,hi0,hz0,hz1,hz2⟩:=info_parts Tryz.infoSign
 have hbi:=fun w=>buildF2 258 (f.depth+1) w
 have hbs:=fun w=>buildSgn f.depth p w
 unfold frA
 go_enter Tryz.func173,Tryz.ntmps173
 go_wp2_with fail
 have hA:=h.alloc (.cells #[.int .i64 f.sym,.int .i64 f.kind,.int .i64 f.depth,.int .i64 f.list] 187)
 have hF:FB (w.alloc (.cells #[.int .i64 f.sym,.int .i64 f.kind,.int .i64 f.depth,.int .i64 f.list] 187)) w.heap.size f:=⟨by simp,by simp,by simp,by simp⟩
 have hou:=h.outNew
 have hwl:w.heap.size<(w.alloc (.cells #[.int .i64 f.sym,.int .i64 f.kind,.int .i64 f.depth,.int .i64 f.list] 187)).heap.size:=by simp
 have hmv:Mv base B sv gv sv gv w (w.alloc (.cells #[.int .i64 f.sym,.int .i64 f.kind,.int .i64 f.depth,.int .i64 f.list] 187)):=Mv.alloc h.bs _
 refine (HPE.out _ hA).mono ?_
 rintro e w1 ⟨rfl,hr1,hm1⟩
 have hk1:=hm1.kept w.heap.size hwl hou
 have hF1:=hF.of_block hk1.1
 have hwl1:w.heap.size<w1.heap.size:=Nat.lt_of_lt_of_le hwl hm1.bel.size
 have HM1:Hid (Mv base B sv gv sv gv w w1):=hmv.trans hm1
 have HR1:Hid (RS w1 base B s p sv gv fs gs):=hr1
 have HF1:Hid (FB w1 w.heap.size f):=hF1
 have c1:=hr1.c1
 have b2:=hF1.c2
 clear hmv hm1 hA hF hwl hr1 hk1 h hF1
 go_wp2_with fail
 refine (listOf_any _ _ _ _).mono ?_
 rintro e w' ⟨rfl,hww⟩
 subst w'
 have HR3:Hid (RS ((w1.alloc (.cells #[.int .i64 258,.int .i64 0,.int .i64 (f.depth+1),.int .i64 0] 187)).alloc (.cells #[.int .i64 259,.int .i64 4,.int .i64 f.depth,.int .i64 p,.int .i64 260,.int .i64 4,.int .i64 f.depth,.int .i64 p] 187)) base B s p sv gv fs gs):=(HR1.out.alloc _).alloc _
 have HM3:Hid (Mv base B sv gv sv gv w ((w1.alloc (.cells #[.int .i64 258,.int .i64 0,.int .i64 (f.depth+1),.int .i64 0] 187)).alloc (.cells #[.int .i64 259,.int .i64 4,.int .i64 f.depth,.int .i64 p,.int .i64 260,.int .i64 4,.int .i64 f.depth,.int .i64 p] 187))):=(HM1.out.trans (Mv.alloc HR1.out.bs _)).trans (Mv.alloc (HR1.out.alloc _).bs _)
 have HF3:Hid (FB ((w1.alloc (.cells #[.int .i64 258,.int .i64 0,.int .i64 (f.depth+1),.int .i64 0] 187)).alloc (.cells #[.int .i64 259,.int .i64 4,.int .i64 f.depth,.int .i64 p,.int .i64 260,.int .i64 4,.int .i64 f.depth,.int .i64 p] 187)) w.heap.size f):=HF1.out.of_block (by rw [Below.heap_alloc _ _ _ (by simp;omega),Below.heap_alloc _ _ _ hwl1])
 have i0':((w1.alloc (.cells #[.int .i64 258,.int .i64 0,.int .i64 (f.depth+1),.int .i64 0] 187)).alloc (.cells #[.int .i64 259,.int .i64 4,.int .i64 f.depth,.int .i64 p,.int .i64 260,.int .i64 4,.int .i64 f.depth,.int .i64 p] 187)).cell? ⟨w1.heap.size,0,none⟩=some (.int .i64 258):=by simp
 have i1':((w1.alloc (.cells #[.int .i64 258,.int .i64 0,.int .i64 (f.depth+1),.int .i64 0] 187)).alloc (.cells #[.int .i64 259,.int .i64 4,.int .i64 f.depth,.int .i64 p,.int .i64 260,.int .i64 4,.int .i64 f.depth,.int .i64 p] 187)).cell? ⟨w1.heap.size,1,none⟩=some (.int .i64 0):=by simp
 have i2':((w1.alloc (.cells #[.int .i64 258,.int .i64 0,.int .i64 (f.depth+1),.int .i64 0] 187)).alloc (.cells #[.int .i64 259,.int .i64 4,.int .i64 f.depth,.int .i64 p,.int .i64 260,.int .i64 4,.int .i64 f.depth,.int .i64 p] 187)).cell? ⟨w1.heap.size,2,none⟩=some (.int .i64 (f.depth+1)):=by simp
 have i3':((w1.alloc (.cells #[.int .i64 258,.int .i64 0,.int .i64 (f.depth+1),.int .i64 0] 187)).alloc (.cells #[.int .i64 259,.int .i64 4,.int .i64 f.depth,.int .i64 p,.int .i64 260,.int .i64 4,.int .i64 f.depth,.int .i64 p] 187)).cell? ⟨w1.heap.size,3,none⟩=some (.int .i64 0):=by simp
 have l0:((w1.alloc (.cells #[.int .i64 258,.int .i64 0,.int .i64 (f.depth+1),.int .i64 0] 187)).alloc (.cells #[.int .i64 259,.int .i64 4,.int .i64 f.depth,.int .i64 p,.int .i64 260,.int .i64 4,.int .i64 f.depth,.int .i64 p] 187)).cell? ⟨w1.heap.size+1,0,none⟩=some (.int .i64 259):=by simp
 have l1:((w1.alloc (.cells #[.int .i64 258,.int .i64 0,.int .i64 (f.depth+1),.int .i64 0] 187)).alloc (.cells #[.int .i64 259,.int .i64 4,.int .i64 f.depth,.int .i64 p,.int .i64 260,.int .i64 4,.int .i64 f.depth,.int .i64 p] 187)).cell? ⟨w1.heap.size+1,1,none⟩=some (.int .i64 4):=by simp
 have l2:((w1.alloc (.cells #[.int .i64 258,.int .i64 0,.int .i64 (f.depth+1),.int .i64 0] 187)).alloc (.cells #[.int .i64 259,.int .i64 4,.int .i64 f.depth,.int .i64 p,.int .i64 260,.int .i64 4,.int .i64 f.depth,.int .i64 p] 187)).cell? ⟨w1.heap.size+1,2,none⟩=some (.int .i64 f.depth):=by simp
 have l3:((w1.alloc (.cells #[.int .i64 258,.int .i64 0,.int .i64 (f.depth+1),.int .i64 0] 187)).alloc (.cells #[.int .i64 259,.int .i64 4,.int .i64 f.depth,.int .i64 p,.int .i64 260,.int .i64 4,.int .i64 f.depth,.int .i64 p] 187)).cell? ⟨w1.heap.size+1,3,none⟩=some (.int .i64 p):=by simp
 have l4:((w1.alloc (.cells #[.int .i64 258,.int .i64 0,.int .i64 (f.depth+1),.int .i64 0] 187)).alloc (.cells #[.int .i64 259,.int .i64 4,.int .i64 f.depth,.int .i64 p,.int .i64 260,.int .i64 4,.int .i64 f.depth,.int .i64 p] 187)).cell? ⟨w1.heap.size+1,4,none⟩=some (.int .i64 260):=by simp
 have l5:((w1.alloc (.cells #[.int .i64 258,.int .i64 0,.int .i64 (f.depth+1),.int .i64 0] 187)).alloc (.cells #[.int .i64 259,.int .i64 4,.int .i64 f.depth,.int .i64 p,.int .i64 260,.int .i64 4,.int .i64 f.depth,.int .i64 p] 187)).cell? ⟨w1.heap.size+1,5,none⟩=some (.int .i64 4):=by simp
 have l6:((w1.alloc (.cells #[.int .i64 258,.int .i64 0,.int .i64 (f.depth+1),.int .i64 0] 187)).alloc (.cells #[.int .i64 259,.int .i64 4,.int .i64 f.depth,.int .i64 p,.int .i64 260,.int .i64 4,.int .i64 f.depth,.int .i64 p] 187)).cell? ⟨w1.heap.size+1,6,none⟩=some (.int .i64 f.depth):=by simp
 have l7:((w1.alloc (.cells #[.int .i64 258,.int .i64 0,.int .i64 (f.depth+1),.int .i64 0] 187)).alloc (.cells #[.int .i64 259,.int .i64 4,.int .i64 f.depth,.int .i64 p,.int .i64 260,.int .i64 4,.int .i64 f.depth,.int .i64 p] 187)).cell? ⟨w1.heap.size+1,7,none⟩=some (.int .i64 p):=by simp
 have hz3:w1.heap.size+1<((w1.alloc (.cells #[.int .i64 258,.int .i64 0,.int .i64 (f.depth+1),.int .i64 0] 187)).alloc (.cells #[.int .i64 259,.int .i64 4,.int .i64 f.depth,.int .i64 p,.int .i64 260,.int .i64 4,.int .i64 f.depth,.int .i64 p] 187)).heap.size:=by simp
 go_wp2_with fail
 generalize (w1.alloc (.cells #[.int .i64 258,.int .i64 0,.int .i64 (f.depth+1),.int .i64 0] 187)).alloc (.cells #[.int .i64 259,.int .i64 4,.int .i64 f.depth,.int .i64 p,.int .i64 260,.int .i64 4,.int .i64 f.depth,.int .i64 p] 187)=w3 at *
 have hoL:Out B sv gv (w1.heap.size+1):=⟨fun e=>by have:=HR1.out.lt;omega,fun e=>by have:=(HR1.out.st.lt _ e).2;omega,fun e=>by have:=(HR1.out.sg.lt _ e).2;omega⟩
 have hoI:Out B sv gv w1.heap.size:=HR1.out.outNew
 have hkeep:Hid (∀ (wz w':World) (sv' gv':Value),Below w3.heap.size w3 wz->Mv base B sv gv sv' gv' wz w'->w'.cell? ⟨w1.heap.size+1,0,none⟩=some (.int .i64 259)/\w'.cell? ⟨w1.heap.size+1,1,none⟩=some (.int .i64 4)/\w'.cell? ⟨w1.heap.size+1,2,none⟩=some (.int .i64 f.depth)/\w'.cell? ⟨w1.heap.size+1,3,none⟩=some (.int .i64 p)/\w'.cell? ⟨w1.heap.size+1,4,none⟩=some (.int .i64 260)/\w'.cell? ⟨w1.heap.size+1,5,none⟩=some (.int .i64 4)/\w'.cell? ⟨w1.heap.size+1,6,none⟩=some (.int .i64 f.depth)/\w'.cell? ⟨w1.heap.size+1,7,none⟩=some (.int .i64 p)):=by
   intro wz w' sv' gv' hb hm
   have eL:w'.heap[w1.heap.size+1]?=w3.heap[w1.heap.size+1]?:=by
     have hlt:w1.heap.size+1<wz.heap.size:=by have:=hb.size;omega
     rw [(hm.kept _ hlt hoL).1,hb.block _ (by omega)]
   exact ⟨by rw [World.cell?_of_block (w:=w3) eL];exact l0,by rw [World.cell?_of_block (w:=w3) eL];exact l1,by rw [World.cell?_of_block (w:=w3) eL];exact l2,by rw [World.cell?_of_block (w:=w3) eL];exact l3,by rw [World.cell?_of_block (w:=w3) eL];exact l4,by rw [World.cell?_of_block (w:=w3) eL];exact l5,by rw [World.cell?_of_block (w:=w3) eL];exact l6,by rw [World.cell?_of_block (w:=w3) eL];exact l7⟩
 have hkeepB:Hid (∀ (wz:World),Below w3.heap.size w3 wz->wz.cell? ⟨w1.heap.size+1,0,none⟩=some (.int .i64 259)/\wz.cell? ⟨w1.heap.size+1,1,none⟩=some (.int .i64 4)/\wz.cell? ⟨w1.heap.size+1,2,none⟩=some (.int .i64 f.depth)/\wz.cell? ⟨w1.heap.size+1,3,none⟩=some (.int .i64 p)/\wz.cell? ⟨w1.heap.size+1,4,none⟩=some (.int .i64 260)/\wz.cell? ⟨w1.heap.size+1,5,none⟩=some (.int .i64 4)/\wz.cell? ⟨w1.heap.size+1,6,none⟩=some (.int .i64 f.depth)/\wz.cell? ⟨w1.heap.size+1,7,none⟩=some (.int .i64 p)):=by
   intro wz hb
   exact ⟨(hb.cell (p:=⟨w1.heap.size+1,0,none⟩) (show w1.heap.size+1<w3.heap.size by omega)).trans l0,(hb.cell (p:=⟨w1.heap.size+1,1,none⟩) (show w1.heap.size+1<w3.heap.size by omega)).trans l1,(hb.cell (p:=⟨w1.heap.size+1,2,none⟩) (show w1.heap.size+1<w3.heap.size by omega)).trans l2,(hb.cell (p:=⟨w1.heap.size+1,3,none⟩) (show w1.heap.size+1<w3.heap.size by omega)).trans l3,(hb.cell (p:=⟨w1.heap.size+1,4,none⟩) (show w1.heap.size+1<w3.heap.size by omega)).trans l4,(hb.cell (p:=⟨w1.heap.size+1,5,none⟩) (show w1.heap.size+1<w3.heap.size by omega)).trans l5,(hb.cell (p:=⟨w1.heap.size+1,6,none⟩) (show w1.heap.size+1<w3.heap.size by omega)).trans l6,(hb.cell (p:=⟨w1.heap.size+1,7,none⟩) (show w1.heap.size+1<w3.heap.size by omega)).trans l7⟩
 have hne1:w3.heap.size≠w1.heap.size+1:=by omega
 have hne2:w3.heap.size≠w1.heap.size:=by omega
 clear c1 b2
 go_region_held3 (fun w'=>w'.cell? ⟨w1.heap.size+1,0,none⟩=some (.int .i64 259)/\w'.cell? ⟨w1.heap.size+1,1,none⟩=some (.int .i64 4)/\w'.cell? ⟨w1.heap.size+1,2,none⟩=some (.int .i64 f.depth)/\w'.cell? ⟨w1.heap.size+1,3,none⟩=some (.int .i64 p)/\w'.cell? ⟨w1.heap.size+1,4,none⟩=some (.int .i64 260)/\w'.cell? ⟨w1.heap.size+1,5,none⟩=some (.int .i64 4)/\w'.cell? ⟨w1.heap.size+1,6,none⟩=some (.int .i64 f.depth)/\w'.cell? ⟨w1.heap.size+1,7,none⟩=some (.int .i64 p)) (first | (refine hkeepB.out _ ?_;(repeat (first | exact Below.refl _ _ | refine Below.drew ?_ | refine Below.alloc ?_ (by simp<;>omega) _));done) | (refine hkeep.out _ _ _ _ ?_ hm;(repeat (first | exact Below.refl _ _ | refine Below.drew ?_ | refine Below.alloc ?_ (by simp<;>omega) _));done)) (first | (go_at_call 172;refine (byteOf_any _ _ (by omega) (by omega)).mono ?_;rintro e w' ⟨rfl,rfl⟩) | (go_at_call 172;rw [show IntKind.u8.wrap 123=123 from by decide];refine (byteOf_any _ _ (by omega) (by omega)).mono ?_;rintro e w' ⟨rfl,rfl⟩) | (go_at_call 133;refine (push_newD base B _ _ s p sv gv fs [byF 123,⟨259,4,f.depth,p⟩,⟨260,4,f.depth,p⟩,byF 125] gs _ _ ((HR3.out.alloc _).alloc _) (by simp) (by rfl) (by simp;omega) _ rfl).mono ?_;rintro e w' ⟨rfl,sv',hr,hm⟩))
 have HR4:Hid (RS w' base B s p sv' gv ([byF 123,⟨259,4,f.depth,p⟩,⟨260,4,f.depth,p⟩,byF 125]++fs) gs):=hr
 obtain ⟨wz,hbz,hmz⟩:∃ wz,Below w3.heap.size w3 wz/\Mv base B sv gv sv' gv wz w':=⟨_,by repeat (first | exact Below.refl _ _ | refine Below.drew ?_ | refine Below.alloc ?_ (by simp<;>omega) _),hm⟩
 have HM4:Hid (Mv base B sv gv sv' gv w w'):=(HM3.out.trans (Mv.of_below hbz HR3.out.bs)).trans hmz
 have hlt4:w.heap.size<w'.heap.size:=by have h1:=hbz.size;have h2:=hmz.bel.size;omega
 have hF4:FB w' w.heap.size f:=HF3.out.of_block (by
   have h1:w.heap.size<w3.heap.size:=by omega
   rw [(hmz.kept _ (Nat.lt_of_lt_of_le h1 hbz.size) hou).1,hbz.block _ h1])
 have b2:=hF4.c2
 have c3:=HR4.out.c3
 have z3:=HR4.out.fz 3
 have hBl:=HR4.out.lt
 have zf:∀ o,(w'.alloc o).frozen? ⟨B,3,none⟩=false:=fun o=>(HR4.out.alloc o).fz 3
 have hA1:Hid (gs.length+1<=maxLen):=by show _<=_;unfold maxLen;omega
 have hA2:Hid ((gs.length+1)*48<=140737488355328):=by show _<=_;omega
 have hone:Hid (∀ u∈sgV ⟨3,p,f.depth,-1,ByteArray.empty⟩,u.oneCell'=true):=fun u hu=>by simp [sgV] at hu;rcases hu with rfl | rfl | rfl | rfl | rfl<;>rfl
 have hA3:Hid (∀ o:Obj,base<=(w'.alloc o).drew.heap.size):=fun o=>by have:=HR4.out.bs;show base<=(w'.alloc o).heap.size;simp;omega
 clear hr hm hbz hmz hF4 hkeep hkeepB hne1 hne2 hoL hoI i0' i1' i2' i3' l0 l1 l2 l3 l4 l5 l6 l7 HR3 HM3 HF3 HF1 HM1
 go_wp2_with fail
 go_region_law ((refine step_append_lies _ (by rfl) _ _ _ (by rfl) base 151 i0 _ 5 48 Tryz.underlying146 hi0 hz0 hz1 hz2 rfl (by decide) gv _ _ (by rfl) ((HR4.out.sg.alloc _).drew) ⟨w'.heap.size,0,none⟩ 1 1 (sgV ⟨3,p,f.depth,-1,ByteArray.empty⟩) (by rfl) (by rfl) (World.news_of_block (cs:=#[.int .i64 3,.int .i64 p,.int .i64 f.depth,.int .i64 (-1),.string ByteArray.empty]) (t:=151) (fr:=(0,0)) (heap_alloc_new w' _)) hone.out (Nat.lt_succ_self 0) hA1.out hA2.out (hA3.out _) (w'.heap.size+1) (by simp) ?_;intro gg cap w5 hown hgrow hat hlt;obtain ⟨y0,y1,y3,yz,_⟩:=HR4.out.grown3 hgrow))
 all_goals
   have hSg:=HR4.out.signed rfl hown hgrow hat
   have HS1:Hid (RS (w5.setCell ⟨B,3,none⟩ (.slice (some ⟨gg,0,none⟩) (gs.length+1) cap)) base B s p sv' (.slice (some ⟨gg,0,none⟩) (gs.length+1) cap) ([byF 123,⟨259,4,f.depth,p⟩,⟨260,4,f.depth,p⟩,byF 125]++fs) (⟨3,p,f.depth,-1,ByteArray.empty⟩::gs)):=hSg.1
   have HS2:Hid (Mv base B sv' gv sv' (.slice (some ⟨gg,0,none⟩) (gs.length+1) cap) w' (w5.setCell ⟨B,3,none⟩ (.slice (some ⟨gg,0,none⟩) (gs.length+1) cap))):=hSg.2
   clear hSg hown hgrow hat y0 y1 y3 yz
   go_wp2_with fail
   go_ret
   exact ⟨rfl,sv',_,HS1.out,HM4.out.trans HS2.out⟩
end Go.Proofs.YtaebngpoagjafaaGreat
