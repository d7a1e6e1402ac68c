import Derived.Test.YtaebngpoagjafabGreatU04
set_option maxRecDepth 100000
set_option maxHeartbeats 6400000
namespace Go.Proofs.YtaebngpoagjafabGreat
open Obj renaming cells → O
open Value renaming int → J
open IntKind renaming i64 → Z
open Go.RowKit
attribute [local go_sem ↓] Go.wp_at_zero Go.wp_at_succ
namespace T
def dig (c:Int):Bool:=decide (48<=c) && decide (c<=57)
def stp (most lim:Int) (plain:Bool) (c n c0:Int):Bool:=decide (lim<=c) || (n==most || (plain && (n==1 && c0==48)))
def dgF (s:ByteArray) (most lim:Int) (plain:Bool) (p:Nat):Nat->Nat->Bool×Nat
 | 0,j=>(true,j)
 | n+1,j=>if dig (ch s j)=true then (if stp most lim plain (ch s j) ((j:Int)-p) (ch s p)=true then (false,j) else dgF s most lim plain p n (j+1)) else (true,j)
def dg (s:ByteArray) (most lim:Int) (plain:Bool) (p:Nat):Bool×Nat:=dgF s most lim plain p (s.size-p+1) p
theorem dgF_end {s:ByteArray} {most lim:Int} {plain:Bool} {p n j:Nat} (h:dig (ch s j)=false):dgF s most lim plain p (n+1) j=(true,j):=by
 simp only [dgF];rw [if_neg (by rw [h];decide)]
theorem dgF_stop {s:ByteArray} {most lim:Int} {plain:Bool} {p n j:Nat} (h:dig (ch s j)=true) (h2:stp most lim plain (ch s j) ((j:Int)-p) (ch s p)=true):dgF s most lim plain p (n+1) j=(false,j):=by
 simp only [dgF];rw [if_pos h,if_pos h2]
theorem dgF_next {s:ByteArray} {most lim:Int} {plain:Bool} {p n j:Nat} (h:dig (ch s j)=true) (h2:stp most lim plain (ch s j) ((j:Int)-p) (ch s p)=false):dgF s most lim plain p (n+1) j=dgF s most lim plain p n (j+1):=by
 simp only [dgF];rw [if_pos h,if_neg (by rw [h2];decide)]
end T
structure FB (w:World) (b:Nat) (f:FR):Prop where
 c0:w.cell? ⟨b,0,none⟩=some (J Z f.sym)
 c1:w.cell? ⟨b,1,none⟩=some (J Z f.kind)
 c2:w.cell? ⟨b,2,none⟩=some (J Z f.depth)
 c3:w.cell? ⟨b,3,none⟩=some (J Z f.list)
theorem FB.of_block {w w':World} {b:Nat} {f:FR} (h:FB w b f) (e:w'.heap[b]?=w.heap[b]?):FB w' b f :=
 ⟨by rw [World.cell?_of_block (w:=w) e];exact h.c0,by rw [World.cell?_of_block (w:=w) e];exact h.c1,by rw [World.cell?_of_block (w:=w) e];exact h.c2,by rw [World.cell?_of_block (w:=w) e];exact h.c3⟩
theorem qV (base B:Nat) (s:ByteArray) (k:Nat) (f:FR) (most lim:Int) (plain:Bool) (sv gv:Value) (fs:List FR) (gs:List SG) (w:World) (h:RS w base B s k sv gv fs gs) (hs:s.size<=2000) (hk:k<=s.size) (hlen:gs.length+1<=1099511627776) :
 Calls Tryz.prog 165 #[.pointer (some ⟨B,0,none⟩),frA f,J Z most,J .u8 lim,.bool plain] w fun e w' =>
  (((T.dg s most lim plain (T.sk s k)).1 && decide (T.sk s k<(T.dg s most lim plain (T.sk s k)).2))=false/\e=.returned (.bool false)/\RS w' base B s (T.dg s most lim plain (T.sk s k)).2 sv gv fs gs/\Mv base B sv gv sv gv w w') \/
  (((T.dg s most lim plain (T.sk s k)).1 && decide (T.sk s k<(T.dg s most lim plain (T.sk s k)).2))=true/\e=.returned (.bool true)/\∃ gv',RS w' base B s (T.dg s most lim plain (T.sk s k)).2 sv gv' fs
   ({ kind:=f.kind,place:=T.sk s k,depth:=f.depth,list:=f.list,text:=s.extract (T.sk s k) (T.dg s most lim plain (T.sk s k)).2 }::gs)/\Mv base B sv gv sv gv' w w'):=by
 have a2:T.sk s k<=s.size:=T.sk_le hk
 have D:=fun (wz:World) (hz:RS wz base B s k sv gv fs gs)=>zG base B s k sv gv fs gs wz hs hk hz
 generalize hpe:T.sk s k=p at *
 have a4:Hid _:=D
 clear hpe D hk
 unfold frA
 go_enter Tryz.func165,Tryz.ntmps165
 go_wp2_with fail
 have hA:=h.alloc (O #[J Z f.sym,J Z f.kind,J Z f.depth,J Z f.list] 193)
 have hF:FB (w.alloc (O #[J Z f.sym,J Z f.kind,J Z f.depth,J Z f.list] 193)) w.heap.size f:=⟨by simp,by simp,by simp,by simp⟩
 have o:=h.outNew
 have G:w.heap.size<(w.alloc (O #[J Z f.sym,J Z f.kind,J Z f.depth,J Z f.list] 193)).heap.size:=by simp
 have S:Mv base B sv gv sv gv w (w.alloc (O #[J Z f.sym,J Z f.kind,J Z f.depth,J Z f.list] 193)):=Mv.alloc h.bs _
 refine (a4.out _ hA).mono ?_
 rintro e w1 ⟨rfl,H,A⟩
 have U:=A.kept w.heap.size G o
 have V:=hF.of_block U.1
 have a5:w.heap.size<w1.heap.size:=Nat.lt_of_lt_of_le G A.bel.size
 have a0:Hid (Mv base B sv gv sv gv w w1):=S.trans A
 have Y:Hid _:=H
 have c1:=H.c1
 clear S A hA hF G H U h
 go_wp2_with fail
 go_loopg [12] (s.size-p) (fun n _ wr=>∃ j:Nat,p<=j/\j<=s.size/\n=s.size-j/\T.dgF s most lim plain p (s.size-j+1) j=T.dg s most lim plain p/\RS wr base B s j sv gv fs gs/\Mv base B sv gv sv gv w wr/\FB wr w.heap.size f)
 case atStart=>exact ⟨p,Nat.le_refl _,a2,rfl,rfl,Y.out,a0.out,V⟩
 case round =>
  obtain ⟨j,I,L,hn,hD,Q,hm,r⟩:=hrel
  have c0:=Q.c0
  have c1:=Q.c1
  have z1:=Q.fz 1
  have b0:=r.c0
  have b1:=r.c1
  have b2:=r.c2
  have b3:=r.c3
  have q:Hid _:=Q
  have u:Hid _:=hm
  have N:Hid _:=r
  have HN:Hid _:=hn
  have i:Hid _:=hD
  clear Q hm hn hD r Y a0 V
  by_cases K:j<s.size
  ·have a6:(j:Int)<(s.size:Int):=by omega
   have a1:(p:Int)<(s.size:Int):=by omega
   have R:p<s.size:=by omega
   have a8:((s[j]).toNat:Int)=T.ch s j:=(T.ch_lt K).symm
   have a7:((s[p]).toNat:Int)=T.ch s p:=(T.ch_lt R).symm
   obtain ⟨b4,a9⟩:=T.ch_bd K
   by_cases x:48<=T.ch s j
   ·by_cases C:T.ch s j<=57
    ·have a:T.dig (T.ch s j)=true:=by simp [T.dig,x,C]
     have X:decide (48<=T.ch s j)=true:=decide_eq_true x
     have a3:decide (T.ch s j<=57)=true:=decide_eq_true C
     by_cases v:lim<=T.ch s j
     ·have b:T.stp most lim plain (T.ch s j) ((j:Int)-p) (T.ch s p)=true:=by simp [T.stp,v]
      have d:Hid (T.dg s most lim plain p=(false,j)):=i.out.symm.trans (T.dgF_stop a b)
      have W:decide (lim<=T.ch s j)=true:=decide_eq_true v
      clear b a
      go_wp2_with fail
      go_quiet (fail)
      go_wp2_with fail
      go_quiet (fail)
      go_wp2_with fail
      go_ret
      exact .inl ⟨by rw [d.out];rfl,rfl,by rw [d.out];exact (q.out.drewN _).drewN _,(u.out.drewN _).drewN _⟩
     ·have W:decide (lim<=T.ch s j)=false:=decide_eq_false v
      cases hmost:((j:Int)-p==most) with
      | true =>
       have b:T.stp most lim plain (T.ch s j) ((j:Int)-p) (T.ch s p)=true:=by simp [T.stp,hmost]
       have d:Hid (T.dg s most lim plain p=(false,j)):=i.out.symm.trans (T.dgF_stop a b)
       clear b a
       go_wp2_with fail
       go_quiet (fail)
       go_wp2_with fail
       go_quiet (fail)
       go_wp2_with fail
       go_ret
       exact .inl ⟨by rw [d.out];rfl,rfl,by rw [d.out];exact (q.out.drewN _).drewN _,(u.out.drewN _).drewN _⟩
      | false =>
       cases plain with
       | false =>
        have b:T.stp most lim false (T.ch s j) ((j:Int)-p) (T.ch s p)=false:=by simp only [T.stp,W,hmost];rfl
        have F:s.size-j+1=(s.size-(j+1)+1)+1:=by omega
        have d:Hid (T.dgF s most lim false p (s.size-(j+1)+1) (j+1)=T.dg s most lim false p):=by
         have:=i.out;rw [F,T.dgF_next a b] at this;exact this
        clear b a F
        go_wp2_with fail
        go_quiet (fail)
        go_wp2_with fail
        go_quiet (fail)
        go_wp2_with fail
        go_roundg (s.size-(j+1))
        case measure=>rw [HN.out];omega
        case rel=>exact ⟨j+1,by omega,by omega,rfl,d.out,(q.out.drewN _).at (j+1) _ (by omega),(u.out.drewN _).trans ((q.out.drewN _).atMv _),N.out.of_block (za o.1)⟩
       | true =>
        cases hone:((j:Int)-p==1) with
        | false =>
         have b:T.stp most lim true (T.ch s j) ((j:Int)-p) (T.ch s p)=false:=by simp only [T.stp,W,hmost,hone];rfl
         have F:s.size-j+1=(s.size-(j+1)+1)+1:=by omega
         have d:Hid (T.dgF s most lim true p (s.size-(j+1)+1) (j+1)=T.dg s most lim true p):=by
          have:=i.out;rw [F,T.dgF_next a b] at this;exact this
         clear b a F
         go_wp2_with fail
         go_quiet (fail)
         go_wp2_with fail
         go_quiet (fail)
         go_wp2_with fail
         go_roundg (s.size-(j+1))
         case measure=>rw [HN.out];omega
         case rel=>exact ⟨j+1,by omega,by omega,rfl,d.out,(q.out.drewN _).at (j+1) _ (by omega),(u.out.drewN _).trans ((q.out.drewN _).atMv _),N.out.of_block (za o.1)⟩
        | true =>
         cases hz:(T.ch s p==48) with
         | false =>
          have b:T.stp most lim true (T.ch s j) ((j:Int)-p) (T.ch s p)=false:=by simp only [T.stp,W,hmost,hone,hz];rfl
          have F:s.size-j+1=(s.size-(j+1)+1)+1:=by omega
          have d:Hid (T.dgF s most lim true p (s.size-(j+1)+1) (j+1)=T.dg s most lim true p):=by
           have:=i.out;rw [F,T.dgF_next a b] at this;exact this
          clear b a F
          go_wp2_with fail
          go_quiet (fail)
          go_wp2_with fail
          go_quiet (fail)
          go_wp2_with fail
          go_roundg (s.size-(j+1))
          case measure=>rw [HN.out];omega
          case rel=>exact ⟨j+1,by omega,by omega,rfl,d.out,(q.out.drewN _).at (j+1) _ (by omega),(u.out.drewN _).trans ((q.out.drewN _).atMv _),N.out.of_block (za o.1)⟩
         | true =>
          have b:T.stp most lim true (T.ch s j) ((j:Int)-p) (T.ch s p)=true:=by simp only [T.stp,W,hmost,hone,hz];rfl
          have d:Hid (T.dg s most lim true p=(false,j)):=i.out.symm.trans (T.dgF_stop a b)
          clear b a
          go_wp2_with fail
          go_quiet (fail)
          go_wp2_with fail
          go_quiet (fail)
          go_wp2_with fail
          go_ret
          exact .inl ⟨by rw [d.out];rfl,rfl,by rw [d.out];exact (q.out.drewN _).drewN _,(u.out.drewN _).drewN _⟩
    ·have a:T.dig (T.ch s j)=false:=by simp [T.dig,C]
     have d:Hid (T.dg s most lim plain p=(true,j)):=i.out.symm.trans (T.dgF_end a)
     have X:decide (48<=T.ch s j)=true:=decide_eq_true x
     have a3:decide (T.ch s j<=57)=false:=decide_eq_false C
     clear a
     cases he:((j:Int)==(p:Int)) with
     | true =>
      have g:Hid (j=p):=by show _=_;simp at he;omega
      go_wp2_with fail
      go_quiet (fail)
      go_wp2_with fail
      go_ret
      exact .inl ⟨by rw [d.out,g.out];simp,rfl,by rw [d.out];exact q.out.drewN _,u.out.drewN _⟩
     | false =>
      have g:Hid (p<j):=by show _<_;simp at he;omega
      have E:Out B sv gv w.heap.size:=o
      go_wp2_with fail
      go_quiet (fail)
      go_wp2_with fail
      refine (Xb base B s j p f sv gv fs gs _ (q.out.drewN _) I L hlen).mono ?_
      rintro e P ⟨rfl,gv',l,m⟩
      have y:Hid _:=l
      have z:Hid (Mv base B sv gv sv gv' w P):=(u.out.drewN _).trans m
      clear l m
      go_wp2_with fail
      go_ret
      exact .inr ⟨by rw [d.out];simp [g.out],rfl,gv',by rw [d.out];exact y.out,z.out⟩
   ·have a:T.dig (T.ch s j)=false:=by simp [T.dig,x]
    have d:Hid (T.dg s most lim plain p=(true,j)):=i.out.symm.trans (T.dgF_end a)
    have X:decide (48<=T.ch s j)=false:=decide_eq_false x
    clear a
    cases he:((j:Int)==(p:Int)) with
    | true =>
     have g:Hid (j=p):=by show _=_;simp at he;omega
     go_wp2_with fail
     go_quiet (fail)
     go_wp2_with fail
     go_ret
     exact .inl ⟨by rw [d.out,g.out];simp,rfl,by rw [d.out];exact q.out.drewN _,u.out.drewN _⟩
    | false =>
     have g:Hid (p<j):=by show _<_;simp at he;omega
     have E:Out B sv gv w.heap.size:=o
     go_wp2_with fail
     go_quiet (fail)
     go_wp2_with fail
     refine (Xb base B s j p f sv gv fs gs _ (q.out.drewN _) I L hlen).mono ?_
     rintro e P ⟨rfl,gv',l,m⟩
     have y:Hid _:=l
     have z:Hid (Mv base B sv gv sv gv' w P):=(u.out.drewN _).trans m
     clear l m
     go_wp2_with fail
     go_ret
     exact .inr ⟨by rw [d.out];simp [g.out],rfl,gv',by rw [d.out];exact y.out,z.out⟩
  ·have a:T.dig (T.ch s j)=false:=by rw [T.ch_ge K];rfl
   have d:Hid (T.dg s most lim plain p=(true,j)):=i.out.symm.trans (T.dgF_end a)
   have hd:decide ((j:Int)<(s.size:Int))=false:=decide_eq_false (by omega)
   clear a
   cases he:((j:Int)==(p:Int)) with
   | true =>
    have g:Hid (j=p):=by show _=_;simp at he;omega
    go_wp2_with fail
    go_quiet (fail)
    go_wp2_with fail
    go_ret
    exact .inl ⟨by rw [d.out,g.out];simp,rfl,by rw [d.out];exact q.out.drewN _,u.out.drewN _⟩
   | false =>
    have g:Hid (p<j):=by show _<_;simp at he;omega
    have E:Out B sv gv w.heap.size:=o
    go_wp2_with fail
    go_quiet (fail)
    go_wp2_with fail
    refine (Xb base B s j p f sv gv fs gs _ (q.out.drewN _) I L hlen).mono ?_
    rintro e P ⟨rfl,gv',l,m⟩
    have y:Hid _:=l
    have z:Hid (Mv base B sv gv sv gv' w P):=(u.out.drewN _).trans m
    clear l m
    go_wp2_with fail
    go_ret
    exact .inr ⟨by rw [d.out];simp [g.out],rfl,gv',by rw [d.out];exact y.out,z.out⟩
theorem ZQ (d:Int) (p:Nat) (w:World):(Instr.build 162 #[(0,J Z 3),(1,J Z p),(2,J Z d),(3,J Z (-1))]).run Tryz.prog w=.ok (.agg #[J Z 3,J Z p,J Z d,J Z (-1),.string ByteArray.empty]) w:=run_build w 162 _ _ (by kernel_rfl)
theorem Mv.of_below {base B:Nat} {sv gv:Value} {w w':World} (hb:Below w.heap.size w w') (h:base<=w.heap.size):Mv base B sv gv sv gv w w':=⟨hb.mono h,fun b hlt ho=>⟨hb.block b hlt,ho⟩⟩
def Yi (d:Int) (p:Nat) (c:Int):Option (List FR) :=
 if c=123 then some [byF 123,⟨259,4,d,p⟩,⟨260,4,d,p⟩,byF 125]
 else if c=119 then some [byF 119,byF 40,⟨259,10,d,p⟩,⟨260,10,d,p⟩,byF 124,⟨258,0,d+1,0⟩,byF 41]
 else if c=102 then some [byF 102,byF 40,⟨259,4,d,p⟩,⟨260,4,d,p⟩,byF 124,⟨258,0,d+1,0⟩,byF 41]
 else if c=109 then some [byF 109,byF 40,⟨259,9,d,p⟩,⟨260,9,d,p⟩,byF 124,⟨258,0,d+1,0⟩,byF 41]
 else if c=103 then some [byF 103,byF 40,⟨259,7,d,p⟩,⟨260,7,d,p⟩,byF 124,⟨258,0,d+1,0⟩,byF 41]
 else if c=116 then some [byF 116,byF 40,⟨261,6,0,-1⟩,byF 44,⟨258,0,d+1,0⟩,byF 41]
 else if c=64 then some [byF 64,⟨261,8,0,-1⟩]
 else if c=61 then some [byF 61,⟨263,2,0,-1⟩]
 else none
structure Res where
 ok:Bool
 at_:Nat
 push:List FR
 sg:List SG
def zm (s:ByteArray) (k:Nat) (f:FR):Res :=
 let p:=T.sk s k
 let c:=T.ch s p
 if f.sym=256 then ⟨true,p,[⟨263,1,0,-1⟩,byF 58,⟨258,0,0,0⟩],[]⟩
 else if f.sym=257 then ⟨true,p,if c=59 then [byF 59,⟨256,0,0,0⟩,⟨257,0,0,0⟩] else [],[]⟩
 else if f.sym=258 then
  match Yi f.depth p c with
  | some l=>⟨true,p,l,[⟨3,p,f.depth,-1,ByteArray.empty⟩]⟩
  | none=>⟨false,p,[],[]⟩
 else if f.sym=259 then ⟨true,p,Zy f,[]⟩
 else if f.sym=260 then ⟨true,p,if c=44 then [byF 44,⟨259,f.kind,f.depth,f.list⟩,f] else [],[]⟩
 else if f.sym=261 then
  let r:=T.dg s 9 58 true p
  if (r.1 && decide (p<r.2))=true then ⟨true,r.2,[],[⟨f.kind,p,f.depth,f.list,s.extract p r.2⟩]⟩ else ⟨false,r.2,[],[]⟩
 else if f.sym=262 then
  let r:=T.dg s 32 50 false p
  if (r.1 && decide (p<r.2))=true then ⟨true,r.2,[],[⟨f.kind,p,f.depth,f.list,s.extract p r.2⟩]⟩ else ⟨false,r.2,[],[]⟩
 else if f.sym=263 then
  if 97<=c/\c<=122 then ⟨true,p+1,[],[⟨f.kind,p,f.depth,f.list,s.extract p (p+1)⟩]⟩ else ⟨false,p,[],[]⟩
 else if c=f.sym then ⟨true,p+1,[],[]⟩ else ⟨false,p,[],[]⟩
theorem T.dig_lt {s:ByteArray} {k:Nat} (h:T.dig (T.ch s k)=true):k<s.size:=by
 by_cases a:k<s.size
 ·exact a
 ·rw [T.ch_ge a] at h;simp [T.dig] at h
theorem T.ch_nn {s:ByteArray} {k:Nat} (h:0<=T.ch s k):k<s.size:=by
 by_cases a:k<s.size
 ·exact a
 ·rw [T.ch_ge a] at h;omega
theorem T.dgF_bd (s:ByteArray) (most lim:Int) (plain:Bool) (p:Nat):∀ n j,j<=s.size->j<=(T.dgF s most lim plain p n j).2/\(T.dgF s most lim plain p n j).2<=s.size:=by
 intro n
 induction n with
 | zero=>intro j h;exact ⟨Nat.le_refl _,h⟩
 | succ n ih =>
  intro j h
  cases hd:T.dig (T.ch s j) with
  | false=>rw [T.dgF_end hd];exact ⟨Nat.le_refl _,h⟩
  | true =>
   cases hs:T.stp most lim plain (T.ch s j) ((j:Int)-p) (T.ch s p) with
   | true=>rw [T.dgF_stop hd hs];exact ⟨Nat.le_refl _,h⟩
   | false =>
    rw [T.dgF_next hd hs]
    have:=ih (j+1) (T.dig_lt hd)
    exact ⟨by omega,this.2⟩
theorem T.dg_bd (s:ByteArray) (most lim:Int) (plain:Bool) (p:Nat) (h:p<=s.size):p<=(T.dg s most lim plain p).2/\(T.dg s most lim plain p).2<=s.size:=T.dgF_bd s most lim plain p _ p h
def ja (f:FR):Prop:=0<=f.sym/\f.sym≠256/\f.sym≠257/\f.sym≠258/\f.sym≠259/\f.sym≠260
def Fst (l:List FR) (d:Int):Prop:=l=[]\/∃ f r,l=f::r/\ja f/\r.length<=6/\(∀ g∈l,0<=g.sym/\0<=g.depth/\g.depth<=d+1)
structure SF (s:ByteArray) (k:Nat) (f:FR) (r:Res):Prop where
 lo:k<=r.at_
 hi:r.at_<=s.size
 sg:r.sg.length<=1
 fst:Fst r.push f.depth
 no:r.ok=false->r.push=[]/\r.sg=[]
 lf:ja f->r.push=[]/\(r.ok=true->k+1<=r.at_)
theorem Yk {c:Int} (h:0<=c) (h2:c<256):ja (byF c):=⟨h,by show c≠256;omega,by show c≠257;omega,by show c≠258;omega,by show c≠259;omega,by show c≠260;omega⟩
theorem zbD (d:Int) (p:Nat) (c:Int) (l:List FR) (hd:0<=d) (h:Yi d p c=some l):Fst l d:=by
 have a:∀ (c0:Int) (r:List FR),0<=c0->c0<256->r.length<=6->(∀ g∈r,0<=g.sym/\0<=g.depth/\g.depth<=d+1)->Fst (byF c0::r) d:=fun c0 r h0 h1 h2 h3 =>
  .inr ⟨byF c0,r,rfl,Yk h0 h1,h2,by
   intro g b
   rcases List.mem_cons.1 b with rfl | b
   ·exact ⟨h0,by show (0:Int)<=0;omega,by show (0:Int)<=d+1;omega⟩
   ·exact h3 g b⟩
 unfold Yi at h
 repeat' split at h
 all_goals first
  | (simp at h;done)
  | (injection h with h;subst h;refine a _ _ (by omega) (by omega) (by simp) ?_;simp [byF];omega)
theorem zbp (f:FR) (hd:0<=f.depth):Fst (Zy f) f.depth:=by
 have a:∀ (f0:FR) (r:List FR),ja f0->r.length<=6->(∀ g∈f0::r,0<=g.sym/\0<=g.depth/\g.depth<=f.depth+1)->Fst (f0::r) f.depth:=fun f0 r h0 h2 h3=>.inr ⟨f0,r,rfl,h0,h2,h3⟩
 unfold Zy
 repeat' split
 all_goals (refine a _ _ (by simp [ja]) (by simp) ?_;simp [byF];try omega)
theorem x9 (s:ByteArray) (k:Nat) (f:FR) (hk:k<=s.size) (hs:0<=f.sym) (hd:0<=f.depth):SF s k f (zm s k f):=by
 have b:=T.sk_ge s k
 have a:=T.sk_le hk
 unfold zm
 generalize T.sk s k=p at *
 simp only
 split
 ·next e=>exact ⟨b,a,by simp,.inr ⟨_,_,rfl,by simp [ja],by simp,by simp [byF];omega⟩,by simp,fun hl=>absurd e hl.2.1⟩
 ·split
  ·next e =>
   split
   ·exact ⟨b,a,by simp,.inr ⟨_,_,rfl,Yk (by omega) (by omega),by simp,by simp [byF];omega⟩,by simp,fun hl=>absurd e hl.2.2.1⟩
   ·exact ⟨b,a,by simp,.inl rfl,by simp,fun hl=>absurd e hl.2.2.1⟩
  ·split
   ·next e =>
    split
    ·next l hl=>exact ⟨b,a,by simp,zbD _ _ _ _ hd hl,by simp,fun hl=>absurd e hl.2.2.2.1⟩
    ·exact ⟨b,a,by simp,.inl rfl,by simp,fun hl=>absurd e hl.2.2.2.1⟩
   ·split
    ·next e=>exact ⟨b,a,by simp,zbp f hd,by simp,fun hl=>absurd e hl.2.2.2.2.1⟩
    ·split
     ·next e =>
      split
      ·exact ⟨b,a,by simp,.inr ⟨_,_,rfl,Yk (by omega) (by omega),by simp,by simp [byF];omega⟩,by simp,fun hl=>absurd e hl.2.2.2.2.2⟩
      ·exact ⟨b,a,by simp,.inl rfl,by simp,fun hl=>absurd e hl.2.2.2.2.2⟩
     ·split
      ·have:=T.dg_bd s 9 58 true p a
       split
       ·next hc=>simp at hc;exact ⟨by show k<=(T.dg s 9 58 true p).2;omega,this.2,by simp,.inl rfl,by simp,fun _=>⟨rfl,fun _=>by show k+1<=(T.dg s 9 58 true p).2;omega⟩⟩
       ·exact ⟨by show k<=(T.dg s 9 58 true p).2;omega,this.2,by simp,.inl rfl,by simp,fun _=>⟨rfl,by simp⟩⟩
      ·split
       ·have:=T.dg_bd s 32 50 false p a
        split
        ·next hc=>simp at hc;exact ⟨by show k<=(T.dg s 32 50 false p).2;omega,this.2,by simp,.inl rfl,by simp,fun _=>⟨rfl,fun _=>by show k+1<=(T.dg s 32 50 false p).2;omega⟩⟩
        ·exact ⟨by show k<=(T.dg s 32 50 false p).2;omega,this.2,by simp,.inl rfl,by simp,fun _=>⟨rfl,by simp⟩⟩
       ·split
        ·split
         ·next hc =>
          have:=T.ch_nn (s:=s) (k:=p) (by omega)
          exact ⟨by show k<=p+1;omega,by show p+1<=s.size;omega,by simp,.inl rfl,by simp,fun _=>⟨rfl,fun _=>by show k+1<=p+1;omega⟩⟩
         ·exact ⟨b,a,by simp,.inl rfl,by simp,fun _=>⟨rfl,by simp⟩⟩
        ·split
         ·next hc =>
          have:=T.ch_nn (s:=s) (k:=p) (by omega)
          exact ⟨by show k<=p+1;omega,by show p+1<=s.size;omega,by simp,.inl rfl,by simp,fun _=>⟨rfl,fun _=>by show k+1<=p+1;omega⟩⟩
         ·exact ⟨b,a,by simp,.inl rfl,by simp,fun _=>⟨rfl,by simp⟩⟩
def xO (s:ByteArray):Nat->Nat->List FR->List SG->Option (Bool×Nat×List SG)
 | _,k,[],gs=>some (true,k,gs)
 | 0,_,_::_,_=>none
 | n+1,k,f::fs,gs =>
  if (zm s k f).ok=true then xO s n (zm s k f).at_ ((zm s k f).push++fs) ((zm s k f).sg++gs) else some (false,(zm s k f).at_,[])
structure PR where
 ok:Bool
 at_:Nat
 sg:List SG
 n:Nat
def pL (one:Nat->FR->Option PR):Nat->List FR->Option PR
 | k,[]=>some ⟨true,k,[],0⟩
 | k,f::fs=>match one k f with
  | none=>none
  | some a=>if a.ok=true then (match pL one a.at_ fs with
   | none=>none
   | some b=>some ⟨b.ok,b.at_,b.sg++a.sg,a.n+b.n⟩) else some a
def pF (s:ByteArray):Nat->Nat->FR->Option PR
 | 0,_,_=>none
 | n+1,k,f =>
  if (zm s k f).ok=true then (match pL (pF s n) (zm s k f).at_ (zm s k f).push with
   | none=>none
   | some q=>some ⟨q.ok,q.at_,q.sg++(zm s k f).sg,q.n+1⟩) else some ⟨false,(zm s k f).at_,[],1⟩
def zdQ (s:ByteArray) (q:PR) (k:Nat) (l:List FR):Prop:=∀ N fs gs,xO s (N+q.n) k (l++fs) gs=if q.ok=true then xO s N q.at_ fs (q.sg++gs) else some (false,q.at_,[])
theorem jL (s:ByteArray) (one:Nat->FR->Option PR) (h1:∀ k f q,one k f=some q->zdQ s q k [f]):∀ (l:List FR) (k:Nat) (q:PR),pL one k l=some q->zdQ s q k l:=by
 intro l
 induction l with
 | nil =>
  intro k q h
  simp only [pL] at h
  injection h with h
  subst h
  intro N g d
  simp
 | cons f r ih =>
  intro k q h N g d
  simp only [pL] at h
  split at h
  ·simp at h
  ·next a ha =>
   have i:=h1 k f a ha
   split at h
   ·next hok =>
    split at h
    ·simp at h
    ·next b hb =>
     injection h with h
     subst h
     have j:=ih a.at_ b hb
     have e:=i (N+b.n) (r++g) d
     rw [if_pos hok] at e
     simp only [List.cons_append,List.nil_append] at e ⊢
     rw [show N+(a.n+b.n)=N+b.n+a.n from by omega,e,j,List.append_assoc]
   ·next hok =>
    injection h with h
    subst h
    have e:=i N (r++g) d
    simpa [hok] using e
theorem zcz (s:ByteArray):∀ (n k:Nat) (f:FR) (q:PR),pF s n k f=some q->zdQ s q k [f]:=by
 intro n
 induction n with
 | zero=>intro k f q h;simp [pF] at h
 | succ n ih =>
  intro k f q h N g d
  simp only [pF] at h
  split at h
  ·next hok =>
   split at h
   ·simp at h
   ·next b hb =>
    injection h with h
    subst h
    have a:=jL s (pF s n) ih _ _ _ hb
    have e:=a N g ((zm s k f).sg++d)
    simp only [List.cons_append,List.nil_append]
    rw [show N+(b.n+1)=(N+b.n)+1 from by omega,xO,if_pos hok,e,List.append_assoc]
  ·next hok =>
   injection h with h
   subst h
   simp only [List.cons_append,List.nil_append,xO,hok]
   simp
structure zf4 (s:ByteArray) (k:Nat) (q:PR) (c:Nat):Prop where
 lo:k<=q.at_
 hi:q.at_<=s.size
 yes:q.ok=true->q.n+c<=16*(q.at_-k)+1
 no:q.ok=false->q.n<=16*(s.size-k)+4
theorem zai (s:ByteArray) (one:Nat->FR->Option PR) (k0:Nat) (h1:∀ k f,k0<=k->k<=s.size->0<=f.sym->0<=f.depth->∃ q,one k f=some q/\zf4 s k q 0) :
 ∀ (l:List FR) (k:Nat),k0<=k->k<=s.size->(∀ f∈l,0<=f.sym/\0<=f.depth)->∃ q,pL one k l=some q/\k<=q.at_/\q.at_<=s.size/\(q.ok=true->q.n<=16*(q.at_-k)+l.length)/\(q.ok=false->q.n<=16*(s.size-k)+4+l.length):=by
 intro l
 induction l with
 | nil=>intro k e j _;exact ⟨_,rfl,Nat.le_refl _,j,by simp,by simp⟩
 | cons f r ih =>
  intro k e j i
  obtain ⟨a,m,h⟩:=h1 k f e j (i f (by simp)).1 (i f (by simp)).2
  have:=h.lo
  have:=h.hi
  cases hok:a.ok with
  | false =>
   refine ⟨a,by simp [pL,m,hok],by omega,by omega,by simp [hok],fun _=>?_⟩
   have:=h.no hok
   omega
  | true =>
   obtain ⟨b,o,x,v,u,p⟩:=ih a.at_ (by omega) (by omega) (fun g hg=>i g (by simp [hg]))
   have w:=h.yes hok
   refine ⟨⟨b.ok,b.at_,b.sg++a.sg,a.n+b.n⟩,by simp [pL,m,hok,o],by simp only;omega,v,?_,?_⟩
   ·intro d
    have:=u d
    simp only [List.length_cons]
    omega
   ·intro d
    have:=p d
    simp only [List.length_cons]
    omega
theorem zeg (s:ByteArray):∀ (n k:Nat) (f:FR),k<=s.size->0<=f.sym->0<=f.depth->2*(s.size-k)+2<=n->∃ q,pF s n k f=some q/\zf4 s k q 0/\(ja f->q.ok=true->k+1<=q.at_/\q.n=1):=by
 intro n
 induction n using Nat.strongRecOn with
 | ind n ih =>
  intro k f w o y F
  cases n with
  | zero=>omega
  | succ n =>
   have d:=x9 s k f w o y
   cases hok:(zm s k f).ok with
   | false =>
    refine ⟨⟨false,(zm s k f).at_,[],1⟩,by simp [pF,hok],⟨d.lo,d.hi,by simp,by intro _;simp only;omega⟩,by simp⟩
   | true =>
    have u:=d.lo
    have x:=d.hi
    rcases d.fst with hp | ⟨f0,r,hp,hlf,hr,hall⟩
    ·refine ⟨⟨true,(zm s k f).at_,(zm s k f).sg,1⟩,by simp [pF,hok,hp,pL],⟨d.lo,d.hi,by intro _;simp only;omega,by simp⟩,fun hl _=>⟨(d.lf hl).2 hok,rfl⟩⟩
    ·have h:¬ ja f:=fun hl=>by have:=(d.lf hl).1;rw [hp] at this;simp at this
     have i:=hall f0 (by rw [hp];simp)
     cases n with
     | zero=>omega
     | succ m =>
     -- the ja
     have a:=x9 s (zm s k f).at_ f0 d.hi i.1 i.2.1
     have j:=(a.lf hlf).1
     cases hok0:(zm s (zm s k f).at_ f0).ok with
     | false =>
      refine ⟨⟨false,(zm s (zm s k f).at_ f0).at_,(zm s k f).sg,2⟩,by rw [pF,if_pos hok,hp];simp [pL,pF,hok0],⟨by have:=a.lo;simp only;omega,a.hi,by simp,by intro _;simp only;omega⟩,fun hl=>absurd hl h⟩
     | true =>
      have v:=(a.lf hlf).2 hok0
      have l:=a.hi
      have B:pF s (m+1) (zm s k f).at_ f0=some ⟨true,(zm s (zm s k f).at_ f0).at_,(zm s (zm s k f).at_ f0).sg,1⟩:=by rw [pF,if_pos hok0,j];simp [pL]
      obtain ⟨b,z,G,E,D,C⟩:=zai s (pF s (m+1)) (zm s (zm s k f).at_ f0).at_ (fun k' g h1 h2 h3 h4=>by
       obtain ⟨q,p,A,_⟩:=ih (m+1) (by omega) k' g h2 h3 h4 (by omega)
       exact ⟨q,p,A⟩) r (zm s (zm s k f).at_ f0).at_ (Nat.le_refl _) l (fun g hg=>by have:=hall g (by rw [hp];simp [hg]);exact ⟨this.1,this.2.1⟩)
      refine ⟨⟨b.ok,b.at_,b.sg++(zm s (zm s k f).at_ f0).sg++(zm s k f).sg,1+b.n+1⟩,by rw [pF,if_pos hok,hp];simp [pL,B,z],⟨by simp only;omega,E,?_,?_⟩,fun hl=>absurd hl h⟩
      ·intro e
       have:=D e
       simp only
       omega
      ·intro e
       have:=C e
       simp only
       omega
def rd0 (s:ByteArray):Option PR:=pL (pF s (2*s.size+2)) 0 [⟨256,0,0,0⟩,⟨257,0,0,0⟩]
theorem jG (s:ByteArray):∃ q,rd0 s=some q/\q.at_<=s.size/\q.n<=16*s.size+6/\xO s q.n 0 [⟨256,0,0,0⟩,⟨257,0,0,0⟩] []=some (q.ok,q.at_,if q.ok=true then q.sg else []):=by
 obtain ⟨q,a,l,g,d,b⟩:=zai s (pF s (2*s.size+2)) 0 (fun k f _ g d b=>by
  obtain ⟨q,a,i,_⟩:=zeg s (2*s.size+2) k f g d b (by omega)
  exact ⟨q,a,i⟩) [⟨256,0,0,0⟩,⟨257,0,0,0⟩] 0 (Nat.le_refl _) (Nat.zero_le _) (by simp)
 have j:=jL s _ (fun k f q h=>zcz s _ k f q h) _ _ _ a
 have e:=j 0 [] []
 simp only [List.append_nil,Nat.zero_add] at e
 refine ⟨q,a,g,?_,?_⟩
 ·cases hok:q.ok with
  | true=>have:=d hok;simp only [List.length_cons,List.length_nil] at this;omega
  | false=>have:=b hok;simp only [List.length_cons,List.length_nil] at this;omega
 ·rw [e]
  cases hok:q.ok<;>simp [xO]
abbrev xF (d:Int):Obj:=O #[J Z 258,J Z 0,J Z (d+1),J Z 0] 193
abbrev xL (k d p:Int):Obj:=O #[J Z 259,J Z k,J Z d,J Z p,J Z 260,J Z k,J Z d,J Z p] 193
abbrev XK (b:Nat) (k d p:Int) (w:World):Prop:=w.cell? ⟨b+1,0,none⟩=some (J Z 259)/\w.cell? ⟨b+1,1,none⟩=some (J Z k)/\w.cell? ⟨b+1,2,none⟩=some (J Z d)/\w.cell? ⟨b+1,3,none⟩=some (J Z p)/\w.cell? ⟨b+1,4,none⟩=some (J Z 260)/\w.cell? ⟨b+1,5,none⟩=some (J Z k)/\w.cell? ⟨b+1,6,none⟩=some (J Z d)/\w.cell? ⟨b+1,7,none⟩=some (J Z p)/\w.cell? ⟨b,0,none⟩=some (J Z 258)/\w.cell? ⟨b,1,none⟩=some (J Z 0)/\w.cell? ⟨b,2,none⟩=some (J Z (d+1))/\w.cell? ⟨b,3,none⟩=some (J Z 0)
theorem YW (w1:World) (k d p:Int):XK w1.heap.size k d p ((w1.alloc (xF d)).alloc (xL k d p)):=⟨by simp,by simp,by simp,by simp,by simp,by simp,by simp,by simp,by simp,by simp,by simp,by simp⟩
theorem Yc {b:Nat} {k d p:Int} {w w':World} (h:XK b k d p w) (eL:w'.heap[b+1]?=w.heap[b+1]?) (eI:w'.heap[b]?=w.heap[b]?):XK b k d p w':=by
 obtain ⟨v,u,s,r,q,o,n,m,l,i,g,f⟩:=h
 have a:∀ j,w'.cell? ⟨b+1,j,none⟩=w.cell? ⟨b+1,j,none⟩:=fun j=>World.cell?_of_block eL
 have e:∀ j,w'.cell? ⟨b,j,none⟩=w.cell? ⟨b,j,none⟩:=fun j=>World.cell?_of_block eI
 exact ⟨(a _).trans v,(a _).trans u,(a _).trans s,(a _).trans r,(a _).trans q,(a _).trans o,(a _).trans n,(a _).trans m,(e _).trans l,(e _).trans i,(e _).trans g,(e _).trans f⟩
theorem JT (base B:Nat) (s:ByteArray) (k p:Nat) (f:FR) (sv gv:Value) (fs:List FR) (gs:List SG) (w:World) (h:RS w base B s k sv gv fs gs) (hs:s.size<=2000) (hk:k<=s.size) (hpe:T.sk s k=p) (hc:T.ch s p=123)
 (hlen:fs.length+7<=1099511627776) (hlen2:gs.length+1<=1099511627776) (d0:0<=f.depth) (d1:f.depth<=1000000) :
 Calls Tryz.prog 163 #[.pointer (some ⟨B,0,none⟩),frA f] w fun e w'=>e=.returned (.bool true)/\∃ sv' gv',RS w' base B s p sv' gv' ([byF 123,⟨259,4,f.depth,p⟩,⟨260,4,f.depth,p⟩,byF 125]++fs) (⟨3,p,f.depth,-1,ByteArray.empty⟩::gs)/\Mv base B sv gv sv' gv' w w':=by
 have l:=fun (b:World) (hz:RS b base B s k sv gv fs gs)=>zG base B s k sv gv fs gs b hs hk hz
 rw [hpe,hc] at l
 have b6:Hid (∀ (b:World),RS b base B s k sv gv fs gs->Calls Tryz.prog 135 #[.pointer (some ⟨B,0,none⟩)] b fun e w'=>e=.returned (J Z (123))/\RS w' base B s p sv gv fs gs/\Mv base B sv gv sv gv b w'):=l
 clear hpe l hk hc
 obtain ⟨i0,a9,a7,a6,a5⟩:=info_parts Tryz.infoSign
 have c7:=fun w=>ZO 258 (f.depth+1) w
 have c6:=fun w=>ZQ f.depth p w
 unfold frA
 go_enter Tryz.func163,Tryz.ntmps163
 go_wp2_with fail
 have hA:=h.alloc (O #[J Z f.sym,J Z f.kind,J Z f.depth,J Z f.list] 193)
 have hF:FB (w.alloc (O #[J Z f.sym,J Z f.kind,J Z f.depth,J Z f.list] 193)) w.heap.size f:=⟨by simp,by simp,by simp,by simp⟩
 have H:=h.outNew
 have A:w.heap.size<(w.alloc (O #[J Z f.sym,J Z f.kind,J Z f.depth,J Z f.list] 193)).heap.size:=by simp
 have P:Mv base B sv gv sv gv w (w.alloc (O #[J Z f.sym,J Z f.kind,J Z f.depth,J Z f.list] 193)):=Mv.alloc h.bs _
 refine (b6.out _ hA).mono ?_
 rintro e a ⟨rfl,C,v⟩
 have S:=v.kept w.heap.size A H
 have E:=hF.of_block S.1
 have G:w.heap.size<a.heap.size:=Nat.lt_of_lt_of_le A v.bel.size
 have X:Hid (Mv base B sv gv sv gv w a):=P.trans v
 have i:Hid (RS a base B s p sv gv fs gs):=C
 have a0:Hid (FB a w.heap.size f):=E
 have c1:=C.c1
 have b2:=E.c2
 clear P v hA hF A C S h E
 go_wp2_with fail
 refine (yC _ _ _ _).mono ?_
 rintro e w' ⟨rfl,c5⟩
 subst w'
 have F:Hid (RS ((a.alloc (xF f.depth)).alloc (xL 4 f.depth p)) base B s p sv gv fs gs):=(i.out.alloc _).alloc _
 have W:Hid (Mv base B sv gv sv gv w ((a.alloc (xF f.depth)).alloc (xL 4 f.depth p))):=(X.out.trans (Mv.alloc i.out.bs _)).trans (Mv.alloc (i.out.alloc _).bs _)
 have Y:Hid (FB ((a.alloc (xF f.depth)).alloc (xL 4 f.depth p)) w.heap.size f):=a0.out.of_block (by rw [Below.heap_alloc _ _ _ (by simp;omega),Below.heap_alloc _ _ _ G])
 obtain ⟨l0,l1,l2,l3,l4,l5,l6,l7,a4,a3,a2,a1⟩:=YW a 4 f.depth p
 have b9:a.heap.size+1<((a.alloc (xF f.depth)).alloc (xL 4 f.depth p)).heap.size:=by simp
 go_wp2_with fail
 generalize (a.alloc (xF f.depth)).alloc (xL 4 f.depth p)=w3 at *
 have K:Out B sv gv (a.heap.size+1):=⟨fun e=>by have:=i.out.lt;omega,fun e=>by have:=(i.out.st.lt _ e).2;omega,fun e=>by have:=(i.out.sg.lt _ e).2;omega⟩
 have a8:Out B sv gv a.heap.size:=i.out.outNew
 have m:Hid (∀ (b w':World) (sv' gv':Value),Below w3.heap.size w3 b->Mv base B sv gv sv' gv' b w'->w'.cell? ⟨a.heap.size+1,0,none⟩=some (J Z 259)/\w'.cell? ⟨a.heap.size+1,1,none⟩=some (J Z 4)/\w'.cell? ⟨a.heap.size+1,2,none⟩=some (J Z f.depth)/\w'.cell? ⟨a.heap.size+1,3,none⟩=some (J Z p)/\w'.cell? ⟨a.heap.size+1,4,none⟩=some (J Z 260)/\w'.cell? ⟨a.heap.size+1,5,none⟩=some (J Z 4)/\w'.cell? ⟨a.heap.size+1,6,none⟩=some (J Z f.depth)/\w'.cell? ⟨a.heap.size+1,7,none⟩=some (J Z p)):=by
  intro b w' sv' gv' q Q
  have z:w'.heap[a.heap.size+1]?=w3.heap[a.heap.size+1]?:=by
   have R:a.heap.size+1<b.heap.size:=by have:=q.size;omega
   rw [(Q.kept _ R K).1,q.block _ (by omega)]
  exact ⟨by rw [World.cell?_of_block (w:=w3) z];exact l0,by rw [World.cell?_of_block (w:=w3) z];exact l1,by rw [World.cell?_of_block (w:=w3) z];exact l2,by rw [World.cell?_of_block (w:=w3) z];exact l3,by rw [World.cell?_of_block (w:=w3) z];exact l4,by rw [World.cell?_of_block (w:=w3) z];exact l5,by rw [World.cell?_of_block (w:=w3) z];exact l6,by rw [World.cell?_of_block (w:=w3) z];exact l7⟩
 have j:Hid (∀ (b:World),Below w3.heap.size w3 b->b.cell? ⟨a.heap.size+1,0,none⟩=some (J Z 259)/\b.cell? ⟨a.heap.size+1,1,none⟩=some (J Z 4)/\b.cell? ⟨a.heap.size+1,2,none⟩=some (J Z f.depth)/\b.cell? ⟨a.heap.size+1,3,none⟩=some (J Z p)/\b.cell? ⟨a.heap.size+1,4,none⟩=some (J Z 260)/\b.cell? ⟨a.heap.size+1,5,none⟩=some (J Z 4)/\b.cell? ⟨a.heap.size+1,6,none⟩=some (J Z f.depth)/\b.cell? ⟨a.heap.size+1,7,none⟩=some (J Z p)):=by
  intro b q
  exact ⟨(q.cell (p:=⟨a.heap.size+1,0,none⟩) (show a.heap.size+1<w3.heap.size by omega)).trans l0,(q.cell (p:=⟨a.heap.size+1,1,none⟩) (show a.heap.size+1<w3.heap.size by omega)).trans l1,(q.cell (p:=⟨a.heap.size+1,2,none⟩) (show a.heap.size+1<w3.heap.size by omega)).trans l2,(q.cell (p:=⟨a.heap.size+1,3,none⟩) (show a.heap.size+1<w3.heap.size by omega)).trans l3,(q.cell (p:=⟨a.heap.size+1,4,none⟩) (show a.heap.size+1<w3.heap.size by omega)).trans l4,(q.cell (p:=⟨a.heap.size+1,5,none⟩) (show a.heap.size+1<w3.heap.size by omega)).trans l5,(q.cell (p:=⟨a.heap.size+1,6,none⟩) (show a.heap.size+1<w3.heap.size by omega)).trans l6,(q.cell (p:=⟨a.heap.size+1,7,none⟩) (show a.heap.size+1<w3.heap.size by omega)).trans l7⟩
 have N:w3.heap.size≠a.heap.size+1:=by omega
 have L:w3.heap.size≠a.heap.size:=by omega
 clear c1 b2
 go_region_held3 (fun w'=>w'.cell? ⟨a.heap.size+1,0,none⟩=some (J Z 259)/\w'.cell? ⟨a.heap.size+1,1,none⟩=some (J Z 4)/\w'.cell? ⟨a.heap.size+1,2,none⟩=some (J Z f.depth)/\w'.cell? ⟨a.heap.size+1,3,none⟩=some (J Z p)/\w'.cell? ⟨a.heap.size+1,4,none⟩=some (J Z 260)/\w'.cell? ⟨a.heap.size+1,5,none⟩=some (J Z 4)/\w'.cell? ⟨a.heap.size+1,6,none⟩=some (J Z f.depth)/\w'.cell? ⟨a.heap.size+1,7,none⟩=some (J Z p)) (first | (refine j.out _ ?_;(repeat (first | exact Below.refl _ _ | refine Below.drew ?_ | refine Below.alloc ?_ (by simp<;>omega) _));done) | (refine m.out _ _ _ _ ?_ Q;(repeat (first | exact Below.refl _ _ | refine Below.drew ?_ | refine Below.alloc ?_ (by simp<;>omega) _));done)) (first | (go_at_call 162;refine (zD _ _ (by omega) (by omega)).mono ?_;rintro e w' ⟨rfl,rfl⟩) | (go_at_call 162;rw [show IntKind.u8.wrap 123=123 from by decide];refine (zD _ _ (by omega) (by omega)).mono ?_;rintro e w' ⟨rfl,rfl⟩) | (go_at_call 133;refine (yJ base B _ _ s p sv gv fs [byF 123,⟨259,4,f.depth,p⟩,⟨260,4,f.depth,p⟩,byF 125] gs _ _ ((F.out.alloc _).alloc _) (by simp) (by rfl) (by simp;omega) _ rfl).mono ?_;rintro e w' ⟨rfl,sv',hr,Q⟩))
 have d:Hid (RS w' base B s p sv' gv ([byF 123,⟨259,4,f.depth,p⟩,⟨260,4,f.depth,p⟩,byF 125]++fs) gs):=hr
 obtain ⟨b,n,r⟩:∃ b,Below w3.heap.size w3 b/\Mv base B sv gv sv' gv b w':=⟨_,by repeat (first | exact Below.refl _ _ | refine Below.drew ?_ | refine Below.alloc ?_ (by simp<;>omega) _),Q⟩
 have b7:Hid (Mv base B sv gv sv' gv w w'):=(W.out.trans (Mv.of_below n F.out.bs)).trans r
 have b8:w.heap.size<w'.heap.size:=by have h1:=n.size;have h2:=r.bel.size;omega
 have V:FB w' w.heap.size f:=Y.out.of_block (by
  have h1:w.heap.size<w3.heap.size:=by omega
  rw [(r.kept _ (Nat.lt_of_lt_of_le h1 n.size) H).1,n.block _ h1])
 have b2:=V.c2
 have c3:=d.out.c3
 have z3:=d.out.fz 3
 have c8:=d.out.lt
 have zf:∀ o,(w'.alloc o).frozen? ⟨B,3,none⟩=false:=fun o=>(d.out.alloc o).fz 3
 have b3:Hid (gs.length+1<=maxLen):=by show _<=_;unfold maxLen;omega
 have b1:Hid ((gs.length+1)*48<=140737488355328):=by show _<=_;omega
 have I:Hid (∀ u∈sgV ⟨3,p,f.depth,-1,ByteArray.empty⟩,u.oneCell'=true):=fun u hu=>by simp [sgV] at hu;rcases hu with rfl | rfl | rfl | rfl | rfl<;>rfl
 have b0:Hid (∀ o:Obj,base<=(w'.alloc o).drew.heap.size):=fun o=>by have:=d.out.bs;show base<=(w'.alloc o).heap.size;simp;omega
 clear hr Q n r V m j N L K a8 a4 a3 a2 a1 l0 l1 l2 l3 l4 l5 l6 l7 F W Y a0 X
 go_wp2_with fail
 go_region_law ((refine step_append_lies _ (by rfl) _ _ _ (by rfl) base 162 i0 _ 5 48 Tryz.underlying157 a9 a7 a6 a5 rfl (by decide) gv _ _ (by rfl) ((d.out.sg.alloc _).drew) ⟨w'.heap.size,0,none⟩ 1 1 (sgV ⟨3,p,f.depth,-1,ByteArray.empty⟩) (by rfl) (by rfl) (World.news_of_block (cs:=#[J Z 3,J Z p,J Z f.depth,J Z (-1),.string ByteArray.empty]) (t:=162) (fr:=(0,0)) (heap_alloc_new w' _)) I.out (Nat.lt_succ_self 0) b3.out b1.out (b0.out _) (w'.heap.size+1) (by simp) ?_;intro gg x w5 y g U R;obtain ⟨y0,y1,y3,yz,_⟩:=d.out.grown3 g))
 all_goals
  have D:=d.out.signed rfl y g U
  have b5:Hid (RS (w5.setCell ⟨B,3,none⟩ (.slice (some ⟨gg,0,none⟩) (gs.length+1) x)) base B s p sv' (.slice (some ⟨gg,0,none⟩) (gs.length+1) x) ([byF 123,⟨259,4,f.depth,p⟩,⟨260,4,f.depth,p⟩,byF 125]++fs) (⟨3,p,f.depth,-1,ByteArray.empty⟩::gs)):=D.1
  have b4:Hid (Mv base B sv' gv sv' (.slice (some ⟨gg,0,none⟩) (gs.length+1) x) w' (w5.setCell ⟨B,3,none⟩ (.slice (some ⟨gg,0,none⟩) (gs.length+1) x))):=D.2
  clear D y g U y0 y1 y3 yz
  go_wp2_with fail
  go_ret
  exact ⟨rfl,sv',_,b5.out,b7.out.trans b4.out⟩
end Go.Proofs.YtaebngpoagjafabGreat
