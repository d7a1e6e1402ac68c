import Derived.Test.YtaebngpoagjafabGreatV04
set_option maxRecDepth 100000
set_option maxHeartbeats 6400000
namespace Go.Proofs.YtaebngpoagjafabGreat
open Obj renaming cells → Q
open Value renaming int → J, slice → O
open IntKind renaming i64 → Z
open Go.RowKit
attribute [local go_sem ↓] Go.wp_at_zero Go.wp_at_succ
namespace T
def dig (c:Int):Bool:=decide (48<=c) && decide (c<=57)
def stp (most lim:Int) (plain:Bool) (c n c0:Int):Bool:=decide (lim<=c) || (n==most || (plain && (n==1 && c0==48)))
def dgF (s:ByteArray) (most lim:Int) (plain:Bool) (p:Nat):Nat->Nat->Bool×Nat
 | 0,j=>(true,j)
 | n+1,j=>if dig (ch s j)=true then (if stp most lim plain (ch s j) ((j:Int)-p) (ch s p)=true then (false,j) else dgF s most lim plain p n (j+1)) else (true,j)
def dg (s:ByteArray) (most lim:Int) (plain:Bool) (p:Nat):Bool×Nat:=dgF s most lim plain p (s.size-p+1) p
theorem dgF_end {s:ByteArray} {most lim:Int} {plain:Bool} {p n j:Nat} (h:dig (ch s j)=false):dgF s most lim plain p (n+1) j=(true,j):=by
 simp only [dgF];rw [if_neg (by rw [h];decide)]
theorem dgF_stop {s:ByteArray} {most lim:Int} {plain:Bool} {p n j:Nat} (h:dig (ch s j)=true) (h2:stp most lim plain (ch s j) ((j:Int)-p) (ch s p)=true):dgF s most lim plain p (n+1) j=(false,j):=by
 simp only [dgF];rw [if_pos h,if_pos h2]
theorem dgF_next {s:ByteArray} {most lim:Int} {plain:Bool} {p n j:Nat} (h:dig (ch s j)=true) (h2:stp most lim plain (ch s j) ((j:Int)-p) (ch s p)=false):dgF s most lim plain p (n+1) j=dgF s most lim plain p n (j+1):=by
 simp only [dgF];rw [if_pos h,if_neg (by rw [h2];decide)]
end T
structure FB (w:World) (b:Nat) (f:FR):Prop where
 c0:w.cell? ⟨b,0,none⟩=some (J Z f.sym)
 c1:w.cell? ⟨b,1,none⟩=some (J Z f.kind)
 c2:w.cell? ⟨b,2,none⟩=some (J Z f.depth)
 c3:w.cell? ⟨b,3,none⟩=some (J Z f.list)
theorem FB.of_block {w w':World} {b:Nat} {f:FR} (h:FB w b f) (e:w'.heap[b]?=w.heap[b]?):FB w' b f :=
 ⟨by rw [World.cell?_of_block (w:=w) e];exact h.c0,by rw [World.cell?_of_block (w:=w) e];exact h.c1,by rw [World.cell?_of_block (w:=w) e];exact h.c2,by rw [World.cell?_of_block (w:=w) e];exact h.c3⟩
theorem XW (base B:Nat) (s:ByteArray) (k:Nat) (f:FR) (most lim:Int) (plain:Bool) (sv gv:Value) (fs:List FR) (gs:List SG) (w:World) (h:RS w base B s k sv gv fs gs) (hs:s.size<=2000) (hk:k<=s.size) (hlen:gs.length+1<=1099511627776) :
 Calls Tryz.prog 165 #[.pointer (some ⟨B,0,none⟩),frA f,J Z most,J .u8 lim,.bool plain] w fun e w' =>
  (((T.dg s most lim plain (T.sk s k)).1 && decide (T.sk s k<(T.dg s most lim plain (T.sk s k)).2))=false/\e=.returned (.bool false)/\RS w' base B s (T.dg s most lim plain (T.sk s k)).2 sv gv fs gs/\Mv base B sv gv sv gv w w') \/
  (((T.dg s most lim plain (T.sk s k)).1 && decide (T.sk s k<(T.dg s most lim plain (T.sk s k)).2))=true/\e=.returned (.bool true)/\∃ gv',RS w' base B s (T.dg s most lim plain (T.sk s k)).2 sv gv' fs
   ({ kind:=f.kind,place:=T.sk s k,depth:=f.depth,list:=f.list,text:=s.extract (T.sk s k) (T.dg s most lim plain (T.sk s k)).2 }::gs)/\Mv base B sv gv sv gv' w w'):=by
 have hpk:T.sk s k<=s.size:=T.sk_le hk
 have hpee:=fun (wz:World) (hz:RS wz base B s k sv gv fs gs)=>zF base B s k sv gv fs gs wz hs hk hz
 generalize hpe:T.sk s k=p at *
 have HPE:Hid _:=hpee
 clear hpe hpee hk
 unfold frA
 go_enter Tryz.func165,Tryz.ntmps165
 go_wp2_with fail
 have hA:=h.alloc (Q #[J Z f.sym,J Z f.kind,J Z f.depth,J Z f.list] 193)
 have hF:FB (w.alloc (Q #[J Z f.sym,J Z f.kind,J Z f.depth,J Z f.list] 193)) w.heap.size f:=⟨by simp,by simp,by simp,by simp⟩
 have hou:=h.outNew
 have hwl:w.heap.size<(w.alloc (Q #[J Z f.sym,J Z f.kind,J Z f.depth,J Z f.list] 193)).heap.size:=by simp
 have hmv:Mv base B sv gv sv gv w (w.alloc (Q #[J Z f.sym,J Z f.kind,J Z f.depth,J Z f.list] 193)):=Mv.alloc h.bs _
 refine (HPE.out _ hA).mono ?_
 rintro e w1 ⟨rfl,hr1,hm1⟩
 have hk1:=hm1.kept w.heap.size hwl hou
 have hF1:=hF.of_block hk1.1
 have hwl1:w.heap.size<w1.heap.size:=Nat.lt_of_lt_of_le hwl hm1.bel.size
 have HM1:Hid (Mv base B sv gv sv gv w w1):=hmv.trans hm1
 have HR1:Hid _:=hr1
 have c1:=hr1.c1
 clear hmv hm1 hA hF hwl hr1 hk1 h
 go_wp2_with fail
 go_loopg [12] (s.size-p) (fun n _ wr=>∃ j:Nat,p<=j/\j<=s.size/\n=s.size-j/\T.dgF s most lim plain p (s.size-j+1) j=T.dg s most lim plain p/\RS wr base B s j sv gv fs gs/\Mv base B sv gv sv gv w wr/\FB wr w.heap.size f)
 case atStart=>exact ⟨p,Nat.le_refl _,hpk,rfl,rfl,HR1.out,HM1.out,hF1⟩
 case round =>
  obtain ⟨j,hpj,hjs,hn,hD,hr,hm,hfb⟩:=hrel
  have c0:=hr.c0
  have c1:=hr.c1
  have z1:=hr.fz 1
  have b0:=hfb.c0
  have b1:=hfb.c1
  have b2:=hfb.c2
  have b3:=hfb.c3
  have HR:Hid _:=hr
  have HM:Hid _:=hm
  have HFB:Hid _:=hfb
  have HN:Hid _:=hn
  have HD0:Hid _:=hD
  clear hr hm hn hD hfb HR1 HM1 hF1
  by_cases hlt:j<s.size
  ·have hlt':(j:Int)<(s.size:Int):=by omega
   have hplt':(p:Int)<(s.size:Int):=by omega
   have hplt:p<s.size:=by omega
   have hch:((s[j]).toNat:Int)=T.ch s j:=(T.ch_lt hlt).symm
   have hcp:((s[p]).toNat:Int)=T.ch s p:=(T.ch_lt hplt).symm
   obtain ⟨cb0,cb1⟩:=T.ch_bd hlt
   by_cases h48:48<=T.ch s j
   ·by_cases h57:T.ch s j<=57
    ·have hdig:T.dig (T.ch s j)=true:=by simp [T.dig,h48,h57]
     have d48:decide (48<=T.ch s j)=true:=decide_eq_true h48
     have d57:decide (T.ch s j<=57)=true:=decide_eq_true h57
     by_cases hlim:lim<=T.ch s j
     ·have hst:T.stp most lim plain (T.ch s j) ((j:Int)-p) (T.ch s p)=true:=by simp [T.stp,hlim]
      have HD:Hid (T.dg s most lim plain p=(false,j)):=HD0.out.symm.trans (T.dgF_stop hdig hst)
      have dl:decide (lim<=T.ch s j)=true:=decide_eq_true hlim
      clear hst hdig
      go_wp2_with fail
      go_quiet (fail)
      go_wp2_with fail
      go_quiet (fail)
      go_wp2_with fail
      go_ret
      exact .inl ⟨by rw [HD.out];rfl,rfl,by rw [HD.out];exact (HR.out.drewN _).drewN _,(HM.out.drewN _).drewN _⟩
     ·have dl:decide (lim<=T.ch s j)=false:=decide_eq_false hlim
      cases hmost:((j:Int)-p==most) with
      | true =>
       have hst:T.stp most lim plain (T.ch s j) ((j:Int)-p) (T.ch s p)=true:=by simp [T.stp,hmost]
       have HD:Hid (T.dg s most lim plain p=(false,j)):=HD0.out.symm.trans (T.dgF_stop hdig hst)
       clear hst hdig
       go_wp2_with fail
       go_quiet (fail)
       go_wp2_with fail
       go_quiet (fail)
       go_wp2_with fail
       go_ret
       exact .inl ⟨by rw [HD.out];rfl,rfl,by rw [HD.out];exact (HR.out.drewN _).drewN _,(HM.out.drewN _).drewN _⟩
      | false =>
       cases plain with
       | false =>
        have hst:T.stp most lim false (T.ch s j) ((j:Int)-p) (T.ch s p)=false:=by simp only [T.stp,dl,hmost];rfl
        have e1:s.size-j+1=(s.size-(j+1)+1)+1:=by omega
        have HD:Hid (T.dgF s most lim false p (s.size-(j+1)+1) (j+1)=T.dg s most lim false p):=by
         have:=HD0.out;rw [e1,T.dgF_next hdig hst] at this;exact this
        clear hst hdig e1
        go_wp2_with fail
        go_quiet (fail)
        go_wp2_with fail
        go_quiet (fail)
        go_wp2_with fail
        go_roundg (s.size-(j+1))
        case measure=>rw [HN.out];omega
        case rel=>exact ⟨j+1,by omega,by omega,rfl,HD.out,(HR.out.drewN _).at (j+1) _ (by omega),(HM.out.drewN _).trans ((HR.out.drewN _).atMv _),HFB.out.of_block (za hou.1)⟩
       | true =>
        cases hone:((j:Int)-p==1) with
        | false =>
         have hst:T.stp most lim true (T.ch s j) ((j:Int)-p) (T.ch s p)=false:=by simp only [T.stp,dl,hmost,hone];rfl
         have e1:s.size-j+1=(s.size-(j+1)+1)+1:=by omega
         have HD:Hid (T.dgF s most lim true p (s.size-(j+1)+1) (j+1)=T.dg s most lim true p):=by
          have:=HD0.out;rw [e1,T.dgF_next hdig hst] at this;exact this
         clear hst hdig e1
         go_wp2_with fail
         go_quiet (fail)
         go_wp2_with fail
         go_quiet (fail)
         go_wp2_with fail
         go_roundg (s.size-(j+1))
         case measure=>rw [HN.out];omega
         case rel=>exact ⟨j+1,by omega,by omega,rfl,HD.out,(HR.out.drewN _).at (j+1) _ (by omega),(HM.out.drewN _).trans ((HR.out.drewN _).atMv _),HFB.out.of_block (za hou.1)⟩
        | true =>
         cases hz:(T.ch s p==48) with
         | false =>
          have hst:T.stp most lim true (T.ch s j) ((j:Int)-p) (T.ch s p)=false:=by simp only [T.stp,dl,hmost,hone,hz];rfl
          have e1:s.size-j+1=(s.size-(j+1)+1)+1:=by omega
          have HD:Hid (T.dgF s most lim true p (s.size-(j+1)+1) (j+1)=T.dg s most lim true p):=by
           have:=HD0.out;rw [e1,T.dgF_next hdig hst] at this;exact this
          clear hst hdig e1
          go_wp2_with fail
          go_quiet (fail)
          go_wp2_with fail
          go_quiet (fail)
          go_wp2_with fail
          go_roundg (s.size-(j+1))
          case measure=>rw [HN.out];omega
          case rel=>exact ⟨j+1,by omega,by omega,rfl,HD.out,(HR.out.drewN _).at (j+1) _ (by omega),(HM.out.drewN _).trans ((HR.out.drewN _).atMv _),HFB.out.of_block (za hou.1)⟩
         | true =>
          have hst:T.stp most lim true (T.ch s j) ((j:Int)-p) (T.ch s p)=true:=by simp only [T.stp,dl,hmost,hone,hz];rfl
          have HD:Hid (T.dg s most lim true p=(false,j)):=HD0.out.symm.trans (T.dgF_stop hdig hst)
          clear hst hdig
          go_wp2_with fail
          go_quiet (fail)
          go_wp2_with fail
          go_quiet (fail)
          go_wp2_with fail
          go_ret
          exact .inl ⟨by rw [HD.out];rfl,rfl,by rw [HD.out];exact (HR.out.drewN _).drewN _,(HM.out.drewN _).drewN _⟩
    ·have hdig:T.dig (T.ch s j)=false:=by simp [T.dig,h57]
     have HD:Hid (T.dg s most lim plain p=(true,j)):=HD0.out.symm.trans (T.dgF_end hdig)
     have d48:decide (48<=T.ch s j)=true:=decide_eq_true h48
     have d57:decide (T.ch s j<=57)=false:=decide_eq_false h57
     clear hdig
     cases he:((j:Int)==(p:Int)) with
     | true =>
      have hej:Hid (j=p):=by show _=_;simp at he;omega
      go_wp2_with fail
      go_quiet (fail)
      go_wp2_with fail
      go_ret
      exact .inl ⟨by rw [HD.out,hej.out];simp,rfl,by rw [HD.out];exact HR.out.drewN _,HM.out.drewN _⟩
     | false =>
      have hej:Hid (p<j):=by show _<_;simp at he;omega
      have hou2:Out B sv gv w.heap.size:=hou
      go_wp2_with fail
      go_quiet (fail)
      go_wp2_with fail
      refine (xp base B s j p f sv gv fs gs _ (HR.out.drewN _) hpj hjs hlen).mono ?_
      rintro e w5 ⟨rfl,gv',hr5,hm5⟩
      have HR5:Hid _:=hr5
      have HM5:Hid (Mv base B sv gv sv gv' w w5):=(HM.out.drewN _).trans hm5
      clear hr5 hm5
      go_wp2_with fail
      go_ret
      exact .inr ⟨by rw [HD.out];simp [hej.out],rfl,gv',by rw [HD.out];exact HR5.out,HM5.out⟩
   ·have hdig:T.dig (T.ch s j)=false:=by simp [T.dig,h48]
    have HD:Hid (T.dg s most lim plain p=(true,j)):=HD0.out.symm.trans (T.dgF_end hdig)
    have d48:decide (48<=T.ch s j)=false:=decide_eq_false h48
    clear hdig
    cases he:((j:Int)==(p:Int)) with
    | true =>
     have hej:Hid (j=p):=by show _=_;simp at he;omega
     go_wp2_with fail
     go_quiet (fail)
     go_wp2_with fail
     go_ret
     exact .inl ⟨by rw [HD.out,hej.out];simp,rfl,by rw [HD.out];exact HR.out.drewN _,HM.out.drewN _⟩
    | false =>
     have hej:Hid (p<j):=by show _<_;simp at he;omega
     have hou2:Out B sv gv w.heap.size:=hou
     go_wp2_with fail
     go_quiet (fail)
     go_wp2_with fail
     refine (xp base B s j p f sv gv fs gs _ (HR.out.drewN _) hpj hjs hlen).mono ?_
     rintro e w5 ⟨rfl,gv',hr5,hm5⟩
     have HR5:Hid _:=hr5
     have HM5:Hid (Mv base B sv gv sv gv' w w5):=(HM.out.drewN _).trans hm5
     clear hr5 hm5
     go_wp2_with fail
     go_ret
     exact .inr ⟨by rw [HD.out];simp [hej.out],rfl,gv',by rw [HD.out];exact HR5.out,HM5.out⟩
  ·have hdig:T.dig (T.ch s j)=false:=by rw [T.ch_ge hlt];rfl
   have HD:Hid (T.dg s most lim plain p=(true,j)):=HD0.out.symm.trans (T.dgF_end hdig)
   have hd:decide ((j:Int)<(s.size:Int))=false:=decide_eq_false (by omega)
   clear hdig
   cases he:((j:Int)==(p:Int)) with
   | true =>
    have hej:Hid (j=p):=by show _=_;simp at he;omega
    go_wp2_with fail
    go_quiet (fail)
    go_wp2_with fail
    go_ret
    exact .inl ⟨by rw [HD.out,hej.out];simp,rfl,by rw [HD.out];exact HR.out.drewN _,HM.out.drewN _⟩
   | false =>
    have hej:Hid (p<j):=by show _<_;simp at he;omega
    have hou2:Out B sv gv w.heap.size:=hou
    go_wp2_with fail
    go_quiet (fail)
    go_wp2_with fail
    refine (xp base B s j p f sv gv fs gs _ (HR.out.drewN _) hpj hjs hlen).mono ?_
    rintro e w5 ⟨rfl,gv',hr5,hm5⟩
    have HR5:Hid _:=hr5
    have HM5:Hid (Mv base B sv gv sv gv' w w5):=(HM.out.drewN _).trans hm5
    clear hr5 hm5
    go_wp2_with fail
    go_ret
    exact .inr ⟨by rw [HD.out];simp [hej.out],rfl,gv',by rw [HD.out];exact HR5.out,HM5.out⟩
theorem Zw (d:Int) (p:Nat) (w:World):(Instr.build 162 #[(0,J Z 3),(1,J Z p),(2,J Z d),(3,J Z (-1))]).run Tryz.prog w=.ok (.agg #[J Z 3,J Z p,J Z d,J Z (-1),.string ByteArray.empty]) w:=run_build w 162 _ _ (by kernel_rfl)
theorem Mv.of_below {base B:Nat} {sv gv:Value} {w w':World} (hb:Below w.heap.size w w') (h:base<=w.heap.size):Mv base B sv gv sv gv w w':=⟨hb.mono h,fun b hlt ho=>⟨hb.block b hlt,ho⟩⟩
def ZT (d:Int) (p:Nat) (c:Int):Option (List FR) :=
 if c=123 then some [byF 123,⟨259,4,d,p⟩,⟨260,4,d,p⟩,byF 125]
 else if c=119 then some [byF 119,byF 40,⟨259,10,d,p⟩,⟨260,10,d,p⟩,byF 124,⟨258,0,d+1,0⟩,byF 41]
 else if c=102 then some [byF 102,byF 40,⟨259,4,d,p⟩,⟨260,4,d,p⟩,byF 124,⟨258,0,d+1,0⟩,byF 41]
 else if c=109 then some [byF 109,byF 40,⟨259,9,d,p⟩,⟨260,9,d,p⟩,byF 124,⟨258,0,d+1,0⟩,byF 41]
 else if c=103 then some [byF 103,byF 40,⟨259,7,d,p⟩,⟨260,7,d,p⟩,byF 124,⟨258,0,d+1,0⟩,byF 41]
 else if c=116 then some [byF 116,byF 40,⟨261,6,0,-1⟩,byF 44,⟨258,0,d+1,0⟩,byF 41]
 else if c=64 then some [byF 64,⟨261,8,0,-1⟩]
 else if c=61 then some [byF 61,⟨263,2,0,-1⟩]
 else none
structure Res where
 ok:Bool
 at_:Nat
 push:List FR
 sg:List SG
def zl (s:ByteArray) (k:Nat) (f:FR):Res :=
 let p:=T.sk s k
 let c:=T.ch s p
 if f.sym=256 then ⟨true,p,[⟨263,1,0,-1⟩,byF 58,⟨258,0,0,0⟩],[]⟩
 else if f.sym=257 then ⟨true,p,if c=59 then [byF 59,⟨256,0,0,0⟩,⟨257,0,0,0⟩] else [],[]⟩
 else if f.sym=258 then
  match ZT f.depth p c with
  | some l=>⟨true,p,l,[⟨3,p,f.depth,-1,ByteArray.empty⟩]⟩
  | none=>⟨false,p,[],[]⟩
 else if f.sym=259 then ⟨true,p,Zh f,[]⟩
 else if f.sym=260 then ⟨true,p,if c=44 then [byF 44,⟨259,f.kind,f.depth,f.list⟩,f] else [],[]⟩
 else if f.sym=261 then
  let r:=T.dg s 9 58 true p
  if (r.1 && decide (p<r.2))=true then ⟨true,r.2,[],[⟨f.kind,p,f.depth,f.list,s.extract p r.2⟩]⟩ else ⟨false,r.2,[],[]⟩
 else if f.sym=262 then
  let r:=T.dg s 32 50 false p
  if (r.1 && decide (p<r.2))=true then ⟨true,r.2,[],[⟨f.kind,p,f.depth,f.list,s.extract p r.2⟩]⟩ else ⟨false,r.2,[],[]⟩
 else if f.sym=263 then
  if 97<=c/\c<=122 then ⟨true,p+1,[],[⟨f.kind,p,f.depth,f.list,s.extract p (p+1)⟩]⟩ else ⟨false,p,[],[]⟩
 else if c=f.sym then ⟨true,p+1,[],[]⟩ else ⟨false,p,[],[]⟩
abbrev xF (d:Int):Obj:=Q #[J Z 258,J Z 0,J Z (d+1),J Z 0] 193
abbrev xL (k d p:Int):Obj:=Q #[J Z 259,J Z k,J Z d,J Z p,J Z 260,J Z k,J Z d,J Z p] 193
abbrev XK (b:Nat) (k d p:Int) (w:World):Prop:=w.cell? ⟨b+1,0,none⟩=some (J Z 259)/\w.cell? ⟨b+1,1,none⟩=some (J Z k)/\w.cell? ⟨b+1,2,none⟩=some (J Z d)/\w.cell? ⟨b+1,3,none⟩=some (J Z p)/\w.cell? ⟨b+1,4,none⟩=some (J Z 260)/\w.cell? ⟨b+1,5,none⟩=some (J Z k)/\w.cell? ⟨b+1,6,none⟩=some (J Z d)/\w.cell? ⟨b+1,7,none⟩=some (J Z p)/\w.cell? ⟨b,0,none⟩=some (J Z 258)/\w.cell? ⟨b,1,none⟩=some (J Z 0)/\w.cell? ⟨b,2,none⟩=some (J Z (d+1))/\w.cell? ⟨b,3,none⟩=some (J Z 0)
theorem Ys (w1:World) (k d p:Int):XK w1.heap.size k d p ((w1.alloc (xF d)).alloc (xL k d p)):=⟨by simp,by simp,by simp,by simp,by simp,by simp,by simp,by simp,by simp,by simp,by simp,by simp⟩
theorem ZO {b:Nat} {k d p:Int} {w w':World} (h:XK b k d p w) (eL:w'.heap[b+1]?=w.heap[b+1]?) (eI:w'.heap[b]?=w.heap[b]?):XK b k d p w':=by
 obtain ⟨h0,h1,h2,h3,h4,h5,h6,h7,i0,i1,i2,i3⟩:=h
 have e1:∀ j,w'.cell? ⟨b+1,j,none⟩=w.cell? ⟨b+1,j,none⟩:=fun j=>World.cell?_of_block eL
 have e2:∀ j,w'.cell? ⟨b,j,none⟩=w.cell? ⟨b,j,none⟩:=fun j=>World.cell?_of_block eI
 exact ⟨(e1 _).trans h0,(e1 _).trans h1,(e1 _).trans h2,(e1 _).trans h3,(e1 _).trans h4,(e1 _).trans h5,(e1 _).trans h6,(e1 _).trans h7,(e2 _).trans i0,(e2 _).trans i1,(e2 _).trans i2,(e2 _).trans i3⟩
theorem jC (base B:Nat) (s:ByteArray) (k p:Nat) (f:FR) (sv gv:Value) (fs:List FR) (gs:List SG) (w:World) (h:RS w base B s k sv gv fs gs) (hs:s.size<=2000) (hk:k<=s.size) (hpe:T.sk s k=p) (hc:T.ch s p=123)
 (hlen:fs.length+7<=1099511627776) (hlen2:gs.length+1<=1099511627776) (d0:0<=f.depth) (d1:f.depth<=1000000) :
 Calls Tryz.prog 163 #[.pointer (some ⟨B,0,none⟩),frA f] w fun e w'=>e=.returned (.bool true)/\∃ sv' gv',RS w' base B s p sv' gv' ([byF 123,⟨259,4,f.depth,p⟩,⟨260,4,f.depth,p⟩,byF 125]++fs) (⟨3,p,f.depth,-1,ByteArray.empty⟩::gs)/\Mv base B sv gv sv' gv' w w':=by
 have hpee:=fun (wz:World) (hz:RS wz base B s k sv gv fs gs)=>zF base B s k sv gv fs gs wz hs hk hz
 rw [hpe,hc] at hpee
 have HPE:Hid (∀ (wz:World),RS wz base B s k sv gv fs gs->Calls Tryz.prog 135 #[.pointer (some ⟨B,0,none⟩)] wz fun e w'=>e=.returned (J Z (123))/\RS w' base B s p sv gv fs gs/\Mv base B sv gv sv gv wz w'):=hpee
 clear hpe hpee hk hc
 obtain ⟨i0,hi0,hz0,hz1,hz2⟩:=info_parts Tryz.infoSign
 have hbi:=fun w=>Zu 258 (f.depth+1) w
 have hbs:=fun w=>Zw f.depth p w
 unfold frA
 go_enter Tryz.func163,Tryz.ntmps163
 go_wp2_with fail
 have hA:=h.alloc (Q #[J Z f.sym,J Z f.kind,J Z f.depth,J Z f.list] 193)
 have hF:FB (w.alloc (Q #[J Z f.sym,J Z f.kind,J Z f.depth,J Z f.list] 193)) w.heap.size f:=⟨by simp,by simp,by simp,by simp⟩
 have hou:=h.outNew
 have hwl:w.heap.size<(w.alloc (Q #[J Z f.sym,J Z f.kind,J Z f.depth,J Z f.list] 193)).heap.size:=by simp
 have hmv:Mv base B sv gv sv gv w (w.alloc (Q #[J Z f.sym,J Z f.kind,J Z f.depth,J Z f.list] 193)):=Mv.alloc h.bs _
 refine (HPE.out _ hA).mono ?_
 rintro e w1 ⟨rfl,hr1,hm1⟩
 have hk1:=hm1.kept w.heap.size hwl hou
 have hF1:=hF.of_block hk1.1
 have hwl1:w.heap.size<w1.heap.size:=Nat.lt_of_lt_of_le hwl hm1.bel.size
 have HM1:Hid (Mv base B sv gv sv gv w w1):=hmv.trans hm1
 have HR1:Hid (RS w1 base B s p sv gv fs gs):=hr1
 have HF1:Hid (FB w1 w.heap.size f):=hF1
 have c1:=hr1.c1
 have b2:=hF1.c2
 clear hmv hm1 hA hF hwl hr1 hk1 h hF1
 go_wp2_with fail
 refine (yt _ _ _ _).mono ?_
 rintro e w' ⟨rfl,hww⟩
 subst w'
 have HR3:Hid (RS ((w1.alloc (xF f.depth)).alloc (xL 4 f.depth p)) base B s p sv gv fs gs):=(HR1.out.alloc _).alloc _
 have HM3:Hid (Mv base B sv gv sv gv w ((w1.alloc (xF f.depth)).alloc (xL 4 f.depth p))):=(HM1.out.trans (Mv.alloc HR1.out.bs _)).trans (Mv.alloc (HR1.out.alloc _).bs _)
 have HF3:Hid (FB ((w1.alloc (xF f.depth)).alloc (xL 4 f.depth p)) w.heap.size f):=HF1.out.of_block (by rw [Below.heap_alloc _ _ _ (by simp;omega),Below.heap_alloc _ _ _ hwl1])
 obtain ⟨l0,l1,l2,l3,l4,l5,l6,l7,i0',i1',i2',i3'⟩:=Ys w1 4 f.depth p
 have hz3:w1.heap.size+1<((w1.alloc (xF f.depth)).alloc (xL 4 f.depth p)).heap.size:=by simp
 go_wp2_with fail
 generalize (w1.alloc (xF f.depth)).alloc (xL 4 f.depth p)=w3 at *
 have hoL:Out B sv gv (w1.heap.size+1):=⟨fun e=>by have:=HR1.out.lt;omega,fun e=>by have:=(HR1.out.st.lt _ e).2;omega,fun e=>by have:=(HR1.out.sg.lt _ e).2;omega⟩
 have hoI:Out B sv gv w1.heap.size:=HR1.out.outNew
 have hkeep:Hid (∀ (wz w':World) (sv' gv':Value),Below w3.heap.size w3 wz->Mv base B sv gv sv' gv' wz w'->w'.cell? ⟨w1.heap.size+1,0,none⟩=some (J Z 259)/\w'.cell? ⟨w1.heap.size+1,1,none⟩=some (J Z 4)/\w'.cell? ⟨w1.heap.size+1,2,none⟩=some (J Z f.depth)/\w'.cell? ⟨w1.heap.size+1,3,none⟩=some (J Z p)/\w'.cell? ⟨w1.heap.size+1,4,none⟩=some (J Z 260)/\w'.cell? ⟨w1.heap.size+1,5,none⟩=some (J Z 4)/\w'.cell? ⟨w1.heap.size+1,6,none⟩=some (J Z f.depth)/\w'.cell? ⟨w1.heap.size+1,7,none⟩=some (J Z p)):=by
  intro wz w' sv' gv' hb hm
  have eL:w'.heap[w1.heap.size+1]?=w3.heap[w1.heap.size+1]?:=by
   have hlt:w1.heap.size+1<wz.heap.size:=by have:=hb.size;omega
   rw [(hm.kept _ hlt hoL).1,hb.block _ (by omega)]
  exact ⟨by rw [World.cell?_of_block (w:=w3) eL];exact l0,by rw [World.cell?_of_block (w:=w3) eL];exact l1,by rw [World.cell?_of_block (w:=w3) eL];exact l2,by rw [World.cell?_of_block (w:=w3) eL];exact l3,by rw [World.cell?_of_block (w:=w3) eL];exact l4,by rw [World.cell?_of_block (w:=w3) eL];exact l5,by rw [World.cell?_of_block (w:=w3) eL];exact l6,by rw [World.cell?_of_block (w:=w3) eL];exact l7⟩
 have hkeepB:Hid (∀ (wz:World),Below w3.heap.size w3 wz->wz.cell? ⟨w1.heap.size+1,0,none⟩=some (J Z 259)/\wz.cell? ⟨w1.heap.size+1,1,none⟩=some (J Z 4)/\wz.cell? ⟨w1.heap.size+1,2,none⟩=some (J Z f.depth)/\wz.cell? ⟨w1.heap.size+1,3,none⟩=some (J Z p)/\wz.cell? ⟨w1.heap.size+1,4,none⟩=some (J Z 260)/\wz.cell? ⟨w1.heap.size+1,5,none⟩=some (J Z 4)/\wz.cell? ⟨w1.heap.size+1,6,none⟩=some (J Z f.depth)/\wz.cell? ⟨w1.heap.size+1,7,none⟩=some (J Z p)):=by
  intro wz hb
  exact ⟨(hb.cell (p:=⟨w1.heap.size+1,0,none⟩) (show w1.heap.size+1<w3.heap.size by omega)).trans l0,(hb.cell (p:=⟨w1.heap.size+1,1,none⟩) (show w1.heap.size+1<w3.heap.size by omega)).trans l1,(hb.cell (p:=⟨w1.heap.size+1,2,none⟩) (show w1.heap.size+1<w3.heap.size by omega)).trans l2,(hb.cell (p:=⟨w1.heap.size+1,3,none⟩) (show w1.heap.size+1<w3.heap.size by omega)).trans l3,(hb.cell (p:=⟨w1.heap.size+1,4,none⟩) (show w1.heap.size+1<w3.heap.size by omega)).trans l4,(hb.cell (p:=⟨w1.heap.size+1,5,none⟩) (show w1.heap.size+1<w3.heap.size by omega)).trans l5,(hb.cell (p:=⟨w1.heap.size+1,6,none⟩) (show w1.heap.size+1<w3.heap.size by omega)).trans l6,(hb.cell (p:=⟨w1.heap.size+1,7,none⟩) (show w1.heap.size+1<w3.heap.size by omega)).trans l7⟩
 have hne1:w3.heap.size≠w1.heap.size+1:=by omega
 have hne2:w3.heap.size≠w1.heap.size:=by omega
 clear c1 b2
 go_region_held3 (fun w'=>w'.cell? ⟨w1.heap.size+1,0,none⟩=some (J Z 259)/\w'.cell? ⟨w1.heap.size+1,1,none⟩=some (J Z 4)/\w'.cell? ⟨w1.heap.size+1,2,none⟩=some (J Z f.depth)/\w'.cell? ⟨w1.heap.size+1,3,none⟩=some (J Z p)/\w'.cell? ⟨w1.heap.size+1,4,none⟩=some (J Z 260)/\w'.cell? ⟨w1.heap.size+1,5,none⟩=some (J Z 4)/\w'.cell? ⟨w1.heap.size+1,6,none⟩=some (J Z f.depth)/\w'.cell? ⟨w1.heap.size+1,7,none⟩=some (J Z p)) (first | (refine hkeepB.out _ ?_;(repeat (first | exact Below.refl _ _ | refine Below.drew ?_ | refine Below.alloc ?_ (by simp<;>omega) _));done) | (refine hkeep.out _ _ _ _ ?_ hm;(repeat (first | exact Below.refl _ _ | refine Below.drew ?_ | refine Below.alloc ?_ (by simp<;>omega) _));done)) (first | (go_at_call 162;refine (zC _ _ (by omega) (by omega)).mono ?_;rintro e w' ⟨rfl,rfl⟩) | (go_at_call 162;rw [show IntKind.u8.wrap 123=123 from by decide];refine (zC _ _ (by omega) (by omega)).mono ?_;rintro e w' ⟨rfl,rfl⟩) | (go_at_call 133;refine (yA base B _ _ s p sv gv fs [byF 123,⟨259,4,f.depth,p⟩,⟨260,4,f.depth,p⟩,byF 125] gs _ _ ((HR3.out.alloc _).alloc _) (by simp) (by rfl) (by simp;omega) _ rfl).mono ?_;rintro e w' ⟨rfl,sv',hr,hm⟩))
 have HR4:Hid (RS w' base B s p sv' gv ([byF 123,⟨259,4,f.depth,p⟩,⟨260,4,f.depth,p⟩,byF 125]++fs) gs):=hr
 obtain ⟨wz,hbz,hmz⟩:∃ wz,Below w3.heap.size w3 wz/\Mv base B sv gv sv' gv wz w':=⟨_,by repeat (first | exact Below.refl _ _ | refine Below.drew ?_ | refine Below.alloc ?_ (by simp<;>omega) _),hm⟩
 have HM4:Hid (Mv base B sv gv sv' gv w w'):=(HM3.out.trans (Mv.of_below hbz HR3.out.bs)).trans hmz
 have hlt4:w.heap.size<w'.heap.size:=by have h1:=hbz.size;have h2:=hmz.bel.size;omega
 have hF4:FB w' w.heap.size f:=HF3.out.of_block (by
  have h1:w.heap.size<w3.heap.size:=by omega
  rw [(hmz.kept _ (Nat.lt_of_lt_of_le h1 hbz.size) hou).1,hbz.block _ h1])
 have b2:=hF4.c2
 have c3:=HR4.out.c3
 have z3:=HR4.out.fz 3
 have hBl:=HR4.out.lt
 have zf:∀ o,(w'.alloc o).frozen? ⟨B,3,none⟩=false:=fun o=>(HR4.out.alloc o).fz 3
 have hA1:Hid (gs.length+1<=maxLen):=by show _<=_;unfold maxLen;omega
 have hA2:Hid ((gs.length+1)*48<=140737488355328):=by show _<=_;omega
 have hone:Hid (∀ u∈sgV ⟨3,p,f.depth,-1,ByteArray.empty⟩,u.oneCell'=true):=fun u hu=>by simp [sgV] at hu;rcases hu with rfl | rfl | rfl | rfl | rfl<;>rfl
 have hA3:Hid (∀ o:Obj,base<=(w'.alloc o).drew.heap.size):=fun o=>by have:=HR4.out.bs;show base<=(w'.alloc o).heap.size;simp;omega
 clear hr hm hbz hmz hF4 hkeep hkeepB hne1 hne2 hoL hoI i0' i1' i2' i3' l0 l1 l2 l3 l4 l5 l6 l7 HR3 HM3 HF3 HF1 HM1
 go_wp2_with fail
 go_region_law ((refine step_append_lies _ (by rfl) _ _ _ (by rfl) base 162 i0 _ 5 48 Tryz.underlying157 hi0 hz0 hz1 hz2 rfl (by decide) gv _ _ (by rfl) ((HR4.out.sg.alloc _).drew) ⟨w'.heap.size,0,none⟩ 1 1 (sgV ⟨3,p,f.depth,-1,ByteArray.empty⟩) (by rfl) (by rfl) (World.news_of_block (cs:=#[J Z 3,J Z p,J Z f.depth,J Z (-1),.string ByteArray.empty]) (t:=162) (fr:=(0,0)) (heap_alloc_new w' _)) hone.out (Nat.lt_succ_self 0) hA1.out hA2.out (hA3.out _) (w'.heap.size+1) (by simp) ?_;intro gg cap w5 hown hgrow hat hlt;obtain ⟨y0,y1,y3,yz,_⟩:=HR4.out.grown3 hgrow))
 all_goals
  have hSg:=HR4.out.signed rfl hown hgrow hat
  have HS1:Hid (RS (w5.setCell ⟨B,3,none⟩ (O (some ⟨gg,0,none⟩) (gs.length+1) cap)) base B s p sv' (O (some ⟨gg,0,none⟩) (gs.length+1) cap) ([byF 123,⟨259,4,f.depth,p⟩,⟨260,4,f.depth,p⟩,byF 125]++fs) (⟨3,p,f.depth,-1,ByteArray.empty⟩::gs)):=hSg.1
  have HS2:Hid (Mv base B sv' gv sv' (O (some ⟨gg,0,none⟩) (gs.length+1) cap) w' (w5.setCell ⟨B,3,none⟩ (O (some ⟨gg,0,none⟩) (gs.length+1) cap))):=hSg.2
  clear hSg hown hgrow hat y0 y1 y3 yz
  go_wp2_with fail
  go_ret
  exact ⟨rfl,sv',_,HS1.out,HM4.out.trans HS2.out⟩
theorem J7 (base B:Nat) (s:ByteArray) (k p:Nat) (f:FR) (sv gv:Value) (fs:List FR) (gs:List SG) (w:World) (h:RS w base B s k sv gv fs gs) (hs:s.size<=2000) (hk:k<=s.size) (hpe:T.sk s k=p) (hc:T.ch s p=119)
 (hlen:fs.length+7<=1099511627776) (hlen2:gs.length+1<=1099511627776) (d0:0<=f.depth) (d1:f.depth<=1000000) :
 Calls Tryz.prog 163 #[.pointer (some ⟨B,0,none⟩),frA f] w fun e w'=>e=.returned (.bool true)/\∃ sv' gv',RS w' base B s p sv' gv' ([byF 119,byF 40,⟨259,10,f.depth,p⟩,⟨260,10,f.depth,p⟩,byF 124,⟨258,0,f.depth+1,0⟩,byF 41]++fs) (⟨3,p,f.depth,-1,ByteArray.empty⟩::gs)/\Mv base B sv gv sv' gv' w w':=by
 have hpee:=fun (wz:World) (hz:RS wz base B s k sv gv fs gs)=>zF base B s k sv gv fs gs wz hs hk hz
 rw [hpe,hc] at hpee
 have HPE:Hid (∀ (wz:World),RS wz base B s k sv gv fs gs->Calls Tryz.prog 135 #[.pointer (some ⟨B,0,none⟩)] wz fun e w'=>e=.returned (J Z (119))/\RS w' base B s p sv gv fs gs/\Mv base B sv gv sv gv wz w'):=hpee
 clear hpe hpee hk hc
 obtain ⟨i0,hi0,hz0,hz1,hz2⟩:=info_parts Tryz.infoSign
 have hbi:=fun w=>Zu 258 (f.depth+1) w
 have hbs:=fun w=>Zw f.depth p w
 unfold frA
 go_enter Tryz.func163,Tryz.ntmps163
 go_wp2_with fail
 have hA:=h.alloc (Q #[J Z f.sym,J Z f.kind,J Z f.depth,J Z f.list] 193)
 have hF:FB (w.alloc (Q #[J Z f.sym,J Z f.kind,J Z f.depth,J Z f.list] 193)) w.heap.size f:=⟨by simp,by simp,by simp,by simp⟩
 have hou:=h.outNew
 have hwl:w.heap.size<(w.alloc (Q #[J Z f.sym,J Z f.kind,J Z f.depth,J Z f.list] 193)).heap.size:=by simp
 have hmv:Mv base B sv gv sv gv w (w.alloc (Q #[J Z f.sym,J Z f.kind,J Z f.depth,J Z f.list] 193)):=Mv.alloc h.bs _
 refine (HPE.out _ hA).mono ?_
 rintro e w1 ⟨rfl,hr1,hm1⟩
 have hk1:=hm1.kept w.heap.size hwl hou
 have hF1:=hF.of_block hk1.1
 have hwl1:w.heap.size<w1.heap.size:=Nat.lt_of_lt_of_le hwl hm1.bel.size
 have HM1:Hid (Mv base B sv gv sv gv w w1):=hmv.trans hm1
 have HR1:Hid (RS w1 base B s p sv gv fs gs):=hr1
 have HF1:Hid (FB w1 w.heap.size f):=hF1
 have c1:=hr1.c1
 have b2:=hF1.c2
 clear hmv hm1 hA hF hwl hr1 hk1 h hF1
 go_wp2_with fail
 refine (yt _ _ _ _).mono ?_
 rintro e w' ⟨rfl,hww⟩
 subst w'
 have HR3:Hid (RS ((w1.alloc (xF f.depth)).alloc (xL 10 f.depth p)) base B s p sv gv fs gs):=(HR1.out.alloc _).alloc _
 have HM3:Hid (Mv base B sv gv sv gv w ((w1.alloc (xF f.depth)).alloc (xL 10 f.depth p))):=(HM1.out.trans (Mv.alloc HR1.out.bs _)).trans (Mv.alloc (HR1.out.alloc _).bs _)
 have HF3:Hid (FB ((w1.alloc (xF f.depth)).alloc (xL 10 f.depth p)) w.heap.size f):=HF1.out.of_block (by rw [Below.heap_alloc _ _ _ (by simp;omega),Below.heap_alloc _ _ _ hwl1])
 have HXK:Hid (XK w1.heap.size 10 f.depth p ((w1.alloc (xF f.depth)).alloc (xL 10 f.depth p))):=Ys w1 10 f.depth p
 obtain ⟨l0,l1,l2,l3,l4,l5,l6,l7,i0',i1',i2',i3'⟩:=HXK.out
 have hz3:w1.heap.size+1<((w1.alloc (xF f.depth)).alloc (xL 10 f.depth p)).heap.size:=by simp
 go_wp2_with fail
 generalize (w1.alloc (xF f.depth)).alloc (xL 10 f.depth p)=w3 at *
 have hoL:Out B sv gv (w1.heap.size+1):=⟨fun e=>by have:=HR1.out.lt;omega,fun e=>by have:=(HR1.out.st.lt _ e).2;omega,fun e=>by have:=(HR1.out.sg.lt _ e).2;omega⟩
 have hoI:Out B sv gv w1.heap.size:=HR1.out.outNew
 have hkeep:Hid (∀ (wz w':World) (sv' gv':Value),Below w3.heap.size w3 wz->Mv base B sv gv sv' gv' wz w'->XK w1.heap.size 10 f.depth p w'):=by
  intro wz w' sv' gv' hb hm
  have eL:w'.heap[w1.heap.size+1]?=w3.heap[w1.heap.size+1]?:=by
   have hlt:w1.heap.size+1<wz.heap.size:=by have:=hb.size;omega
   rw [(hm.kept _ hlt hoL).1,hb.block _ (by omega)]
  have eI:w'.heap[w1.heap.size]?=w3.heap[w1.heap.size]?:=by
   have hlt:w1.heap.size<wz.heap.size:=by have:=hb.size;omega
   rw [(hm.kept _ hlt hoI).1,hb.block _ (by omega)]
  exact ZO HXK.out eL eI
 have hkeepB:Hid (∀ (wz:World),Below w3.heap.size w3 wz->XK w1.heap.size 10 f.depth p wz):=by
  intro wz hb
  exact ZO HXK.out (hb.block _ (by omega)) (hb.block _ (by omega))
 have hne1:w3.heap.size≠w1.heap.size+1:=by omega
 have hne2:w3.heap.size≠w1.heap.size:=by omega
 clear c1 b2
 go_region_held3 (fun w'=>XK w1.heap.size 10 f.depth p w') (first | (refine hkeepB.out _ ?_;(repeat (first | exact Below.refl _ _ | refine Below.drew ?_ | refine Below.alloc ?_ (by simp<;>omega) _));done) | (refine hkeep.out _ _ _ _ ?_ hm;(repeat (first | exact Below.refl _ _ | refine Below.drew ?_ | refine Below.alloc ?_ (by simp<;>omega) _));done)) (first | (go_at_call 162;refine (zC _ _ (by omega) (by omega)).mono ?_;rintro e w' ⟨rfl,rfl⟩) | (go_at_call 162;rw [show IntKind.u8.wrap 119=119 from by decide];refine (zC _ _ (by omega) (by omega)).mono ?_;rintro e w' ⟨rfl,rfl⟩) | (go_at_call 133;refine (yA base B _ _ s p sv gv fs [byF 119,byF 40,⟨259,10,f.depth,p⟩,⟨260,10,f.depth,p⟩,byF 124,⟨258,0,f.depth+1,0⟩,byF 41] gs _ _ ((((HR3.out.alloc _).alloc _).alloc _).alloc _) (by simp) (by rfl) (by simp;omega) _ rfl).mono ?_;rintro e w' ⟨rfl,sv',hr,hm⟩))
 have HR4:Hid (RS w' base B s p sv' gv ([byF 119,byF 40,⟨259,10,f.depth,p⟩,⟨260,10,f.depth,p⟩,byF 124,⟨258,0,f.depth+1,0⟩,byF 41]++fs) gs):=hr
 obtain ⟨wz,hbz,hmz⟩:∃ wz,Below w3.heap.size w3 wz/\Mv base B sv gv sv' gv wz w':=⟨_,by repeat (first | exact Below.refl _ _ | refine Below.drew ?_ | refine Below.alloc ?_ (by simp<;>omega) _),hm⟩
 have HM4:Hid (Mv base B sv gv sv' gv w w'):=(HM3.out.trans (Mv.of_below hbz HR3.out.bs)).trans hmz
 have hlt4:w.heap.size<w'.heap.size:=by have h1:=hbz.size;have h2:=hmz.bel.size;omega
 have hF4:FB w' w.heap.size f:=HF3.out.of_block (by
  have h1:w.heap.size<w3.heap.size:=by omega
  rw [(hmz.kept _ (Nat.lt_of_lt_of_le h1 hbz.size) hou).1,hbz.block _ h1])
 have b2:=hF4.c2
 have c3:=HR4.out.c3
 have z3:=HR4.out.fz 3
 have hBl:=HR4.out.lt
 have zf:∀ o,(w'.alloc o).frozen? ⟨B,3,none⟩=false:=fun o=>(HR4.out.alloc o).fz 3
 have hA1:Hid (gs.length+1<=maxLen):=by show _<=_;unfold maxLen;omega
 have hA2:Hid ((gs.length+1)*48<=140737488355328):=by show _<=_;omega
 have hone:Hid (∀ u∈sgV ⟨3,p,f.depth,-1,ByteArray.empty⟩,u.oneCell'=true):=fun u hu=>by simp [sgV] at hu;rcases hu with rfl | rfl | rfl | rfl | rfl<;>rfl
 have hA3:Hid (∀ o:Obj,base<=(w'.alloc o).drew.heap.size):=fun o=>by have:=HR4.out.bs;show base<=(w'.alloc o).heap.size;simp;omega
 clear hr hm hbz hmz hF4 hkeep hkeepB hne1 hne2 hoL hoI i0' i1' i2' i3' l0 l1 l2 l3 l4 l5 l6 l7 HR3 HM3 HF3 HF1 HM1
 go_wp2_with fail
 go_region_law ((refine step_append_lies _ (by rfl) _ _ _ (by rfl) base 162 i0 _ 5 48 Tryz.underlying157 hi0 hz0 hz1 hz2 rfl (by decide) gv _ _ (by rfl) ((HR4.out.sg.alloc _).drew) ⟨w'.heap.size,0,none⟩ 1 1 (sgV ⟨3,p,f.depth,-1,ByteArray.empty⟩) (by rfl) (by rfl) (World.news_of_block (cs:=#[J Z 3,J Z p,J Z f.depth,J Z (-1),.string ByteArray.empty]) (t:=162) (fr:=(0,0)) (heap_alloc_new w' _)) hone.out (Nat.lt_succ_self 0) hA1.out hA2.out (hA3.out _) (w'.heap.size+1) (by simp) ?_;intro gg cap w5 hown hgrow hat hlt;obtain ⟨y0,y1,y3,yz,_⟩:=HR4.out.grown3 hgrow))
 all_goals
  have hSg:=HR4.out.signed rfl hown hgrow hat
  have HS1:Hid (RS (w5.setCell ⟨B,3,none⟩ (O (some ⟨gg,0,none⟩) (gs.length+1) cap)) base B s p sv' (O (some ⟨gg,0,none⟩) (gs.length+1) cap) ([byF 119,byF 40,⟨259,10,f.depth,p⟩,⟨260,10,f.depth,p⟩,byF 124,⟨258,0,f.depth+1,0⟩,byF 41]++fs) (⟨3,p,f.depth,-1,ByteArray.empty⟩::gs)):=hSg.1
  have HS2:Hid (Mv base B sv' gv sv' (O (some ⟨gg,0,none⟩) (gs.length+1) cap) w' (w5.setCell ⟨B,3,none⟩ (O (some ⟨gg,0,none⟩) (gs.length+1) cap))):=hSg.2
  clear hSg hown hgrow hat y0 y1 y3 yz
  go_wp2_with fail
  go_ret
  exact ⟨rfl,sv',_,HS1.out,HM4.out.trans HS2.out⟩
theorem jB (base B:Nat) (s:ByteArray) (k p:Nat) (f:FR) (sv gv:Value) (fs:List FR) (gs:List SG) (w:World) (h:RS w base B s k sv gv fs gs) (hs:s.size<=2000) (hk:k<=s.size) (hpe:T.sk s k=p) (hc:T.ch s p=102)
 (hlen:fs.length+7<=1099511627776) (hlen2:gs.length+1<=1099511627776) (d0:0<=f.depth) (d1:f.depth<=1000000) :
 Calls Tryz.prog 163 #[.pointer (some ⟨B,0,none⟩),frA f] w fun e w'=>e=.returned (.bool true)/\∃ sv' gv',RS w' base B s p sv' gv' ([byF 102,byF 40,⟨259,4,f.depth,p⟩,⟨260,4,f.depth,p⟩,byF 124,⟨258,0,f.depth+1,0⟩,byF 41]++fs) (⟨3,p,f.depth,-1,ByteArray.empty⟩::gs)/\Mv base B sv gv sv' gv' w w':=by
 have hpee:=fun (wz:World) (hz:RS wz base B s k sv gv fs gs)=>zF base B s k sv gv fs gs wz hs hk hz
 rw [hpe,hc] at hpee
 have HPE:Hid (∀ (wz:World),RS wz base B s k sv gv fs gs->Calls Tryz.prog 135 #[.pointer (some ⟨B,0,none⟩)] wz fun e w'=>e=.returned (J Z (102))/\RS w' base B s p sv gv fs gs/\Mv base B sv gv sv gv wz w'):=hpee
 clear hpe hpee hk hc
 obtain ⟨i0,hi0,hz0,hz1,hz2⟩:=info_parts Tryz.infoSign
 have hbi:=fun w=>Zu 258 (f.depth+1) w
 have hbs:=fun w=>Zw f.depth p w
 unfold frA
 go_enter Tryz.func163,Tryz.ntmps163
 go_wp2_with fail
 have hA:=h.alloc (Q #[J Z f.sym,J Z f.kind,J Z f.depth,J Z f.list] 193)
 have hF:FB (w.alloc (Q #[J Z f.sym,J Z f.kind,J Z f.depth,J Z f.list] 193)) w.heap.size f:=⟨by simp,by simp,by simp,by simp⟩
 have hou:=h.outNew
 have hwl:w.heap.size<(w.alloc (Q #[J Z f.sym,J Z f.kind,J Z f.depth,J Z f.list] 193)).heap.size:=by simp
 have hmv:Mv base B sv gv sv gv w (w.alloc (Q #[J Z f.sym,J Z f.kind,J Z f.depth,J Z f.list] 193)):=Mv.alloc h.bs _
 refine (HPE.out _ hA).mono ?_
 rintro e w1 ⟨rfl,hr1,hm1⟩
 have hk1:=hm1.kept w.heap.size hwl hou
 have hF1:=hF.of_block hk1.1
 have hwl1:w.heap.size<w1.heap.size:=Nat.lt_of_lt_of_le hwl hm1.bel.size
 have HM1:Hid (Mv base B sv gv sv gv w w1):=hmv.trans hm1
 have HR1:Hid (RS w1 base B s p sv gv fs gs):=hr1
 have HF1:Hid (FB w1 w.heap.size f):=hF1
 have c1:=hr1.c1
 have b2:=hF1.c2
 clear hmv hm1 hA hF hwl hr1 hk1 h hF1
 go_wp2_with fail
 refine (yt _ _ _ _).mono ?_
 rintro e w' ⟨rfl,hww⟩
 subst w'
 have HR3:Hid (RS ((w1.alloc (xF f.depth)).alloc (xL 4 f.depth p)) base B s p sv gv fs gs):=(HR1.out.alloc _).alloc _
 have HM3:Hid (Mv base B sv gv sv gv w ((w1.alloc (xF f.depth)).alloc (xL 4 f.depth p))):=(HM1.out.trans (Mv.alloc HR1.out.bs _)).trans (Mv.alloc (HR1.out.alloc _).bs _)
 have HF3:Hid (FB ((w1.alloc (xF f.depth)).alloc (xL 4 f.depth p)) w.heap.size f):=HF1.out.of_block (by rw [Below.heap_alloc _ _ _ (by simp;omega),Below.heap_alloc _ _ _ hwl1])
 have HXK:Hid (XK w1.heap.size 4 f.depth p ((w1.alloc (xF f.depth)).alloc (xL 4 f.depth p))):=Ys w1 4 f.depth p
 obtain ⟨l0,l1,l2,l3,l4,l5,l6,l7,i0',i1',i2',i3'⟩:=HXK.out
 have hz3:w1.heap.size+1<((w1.alloc (xF f.depth)).alloc (xL 4 f.depth p)).heap.size:=by simp
 go_wp2_with fail
 generalize (w1.alloc (xF f.depth)).alloc (xL 4 f.depth p)=w3 at *
 have hoL:Out B sv gv (w1.heap.size+1):=⟨fun e=>by have:=HR1.out.lt;omega,fun e=>by have:=(HR1.out.st.lt _ e).2;omega,fun e=>by have:=(HR1.out.sg.lt _ e).2;omega⟩
 have hoI:Out B sv gv w1.heap.size:=HR1.out.outNew
 have hkeep:Hid (∀ (wz w':World) (sv' gv':Value),Below w3.heap.size w3 wz->Mv base B sv gv sv' gv' wz w'->XK w1.heap.size 4 f.depth p w'):=by
  intro wz w' sv' gv' hb hm
  have eL:w'.heap[w1.heap.size+1]?=w3.heap[w1.heap.size+1]?:=by
   have hlt:w1.heap.size+1<wz.heap.size:=by have:=hb.size;omega
   rw [(hm.kept _ hlt hoL).1,hb.block _ (by omega)]
  have eI:w'.heap[w1.heap.size]?=w3.heap[w1.heap.size]?:=by
   have hlt:w1.heap.size<wz.heap.size:=by have:=hb.size;omega
   rw [(hm.kept _ hlt hoI).1,hb.block _ (by omega)]
  exact ZO HXK.out eL eI
 have hkeepB:Hid (∀ (wz:World),Below w3.heap.size w3 wz->XK w1.heap.size 4 f.depth p wz):=by
  intro wz hb
  exact ZO HXK.out (hb.block _ (by omega)) (hb.block _ (by omega))
 have hne1:w3.heap.size≠w1.heap.size+1:=by omega
 have hne2:w3.heap.size≠w1.heap.size:=by omega
 clear c1 b2
 go_region_held3 (fun w'=>XK w1.heap.size 4 f.depth p w') (first | (refine hkeepB.out _ ?_;(repeat (first | exact Below.refl _ _ | refine Below.drew ?_ | refine Below.alloc ?_ (by simp<;>omega) _));done) | (refine hkeep.out _ _ _ _ ?_ hm;(repeat (first | exact Below.refl _ _ | refine Below.drew ?_ | refine Below.alloc ?_ (by simp<;>omega) _));done)) (first | (go_at_call 162;refine (zC _ _ (by omega) (by omega)).mono ?_;rintro e w' ⟨rfl,rfl⟩) | (go_at_call 162;rw [show IntKind.u8.wrap 102=102 from by decide];refine (zC _ _ (by omega) (by omega)).mono ?_;rintro e w' ⟨rfl,rfl⟩) | (go_at_call 133;refine (yA base B _ _ s p sv gv fs [byF 102,byF 40,⟨259,4,f.depth,p⟩,⟨260,4,f.depth,p⟩,byF 124,⟨258,0,f.depth+1,0⟩,byF 41] gs _ _ ((((HR3.out.alloc _).alloc _).alloc _).alloc _) (by simp) (by rfl) (by simp;omega) _ rfl).mono ?_;rintro e w' ⟨rfl,sv',hr,hm⟩))
 have HR4:Hid (RS w' base B s p sv' gv ([byF 102,byF 40,⟨259,4,f.depth,p⟩,⟨260,4,f.depth,p⟩,byF 124,⟨258,0,f.depth+1,0⟩,byF 41]++fs) gs):=hr
 obtain ⟨wz,hbz,hmz⟩:∃ wz,Below w3.heap.size w3 wz/\Mv base B sv gv sv' gv wz w':=⟨_,by repeat (first | exact Below.refl _ _ | refine Below.drew ?_ | refine Below.alloc ?_ (by simp<;>omega) _),hm⟩
 have HM4:Hid (Mv base B sv gv sv' gv w w'):=(HM3.out.trans (Mv.of_below hbz HR3.out.bs)).trans hmz
 have hlt4:w.heap.size<w'.heap.size:=by have h1:=hbz.size;have h2:=hmz.bel.size;omega
 have hF4:FB w' w.heap.size f:=HF3.out.of_block (by
  have h1:w.heap.size<w3.heap.size:=by omega
  rw [(hmz.kept _ (Nat.lt_of_lt_of_le h1 hbz.size) hou).1,hbz.block _ h1])
 have b2:=hF4.c2
 have c3:=HR4.out.c3
 have z3:=HR4.out.fz 3
 have hBl:=HR4.out.lt
 have zf:∀ o,(w'.alloc o).frozen? ⟨B,3,none⟩=false:=fun o=>(HR4.out.alloc o).fz 3
 have hA1:Hid (gs.length+1<=maxLen):=by show _<=_;unfold maxLen;omega
 have hA2:Hid ((gs.length+1)*48<=140737488355328):=by show _<=_;omega
 have hone:Hid (∀ u∈sgV ⟨3,p,f.depth,-1,ByteArray.empty⟩,u.oneCell'=true):=fun u hu=>by simp [sgV] at hu;rcases hu with rfl | rfl | rfl | rfl | rfl<;>rfl
 have hA3:Hid (∀ o:Obj,base<=(w'.alloc o).drew.heap.size):=fun o=>by have:=HR4.out.bs;show base<=(w'.alloc o).heap.size;simp;omega
 clear hr hm hbz hmz hF4 hkeep hkeepB hne1 hne2 hoL hoI i0' i1' i2' i3' l0 l1 l2 l3 l4 l5 l6 l7 HR3 HM3 HF3 HF1 HM1
 go_wp2_with fail
 go_region_law ((refine step_append_lies _ (by rfl) _ _ _ (by rfl) base 162 i0 _ 5 48 Tryz.underlying157 hi0 hz0 hz1 hz2 rfl (by decide) gv _ _ (by rfl) ((HR4.out.sg.alloc _).drew) ⟨w'.heap.size,0,none⟩ 1 1 (sgV ⟨3,p,f.depth,-1,ByteArray.empty⟩) (by rfl) (by rfl) (World.news_of_block (cs:=#[J Z 3,J Z p,J Z f.depth,J Z (-1),.string ByteArray.empty]) (t:=162) (fr:=(0,0)) (heap_alloc_new w' _)) hone.out (Nat.lt_succ_self 0) hA1.out hA2.out (hA3.out _) (w'.heap.size+1) (by simp) ?_;intro gg cap w5 hown hgrow hat hlt;obtain ⟨y0,y1,y3,yz,_⟩:=HR4.out.grown3 hgrow))
 all_goals
  have hSg:=HR4.out.signed rfl hown hgrow hat
  have HS1:Hid (RS (w5.setCell ⟨B,3,none⟩ (O (some ⟨gg,0,none⟩) (gs.length+1) cap)) base B s p sv' (O (some ⟨gg,0,none⟩) (gs.length+1) cap) ([byF 102,byF 40,⟨259,4,f.depth,p⟩,⟨260,4,f.depth,p⟩,byF 124,⟨258,0,f.depth+1,0⟩,byF 41]++fs) (⟨3,p,f.depth,-1,ByteArray.empty⟩::gs)):=hSg.1
  have HS2:Hid (Mv base B sv' gv sv' (O (some ⟨gg,0,none⟩) (gs.length+1) cap) w' (w5.setCell ⟨B,3,none⟩ (O (some ⟨gg,0,none⟩) (gs.length+1) cap))):=hSg.2
  clear hSg hown hgrow hat y0 y1 y3 yz
  go_wp2_with fail
  go_ret
  exact ⟨rfl,sv',_,HS1.out,HM4.out.trans HS2.out⟩
end Go.Proofs.YtaebngpoagjafabGreat
