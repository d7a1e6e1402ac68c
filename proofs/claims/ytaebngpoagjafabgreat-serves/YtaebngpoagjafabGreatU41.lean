import Derived.Test.YtaebngpoagjafabGreatU27
import Derived.Test.YtaebngpoagjafabGreatU30
import Derived.Test.YtaebngpoagjafabGreatU40
set_option maxRecDepth 100000
set_option maxHeartbeats 1600000
namespace Go.Proofs.YtaebngpoagjafabGreat
open Obj renaming cells → U
open Value renaming int → J, slice → O
open IntKind renaming i64 → Z
open Go.RowKit
attribute [local go_sem ↓] Go.wp_at_zero Go.wp_at_succ
def zW (a n:Int):Int:=a-a%M.p2 (32-n).toNat
theorem qg {a n:Int} (a0:0<=a) (a1:a<4294967296):0<=zW a n/\zW a n<4294967296:=by
 have d:=M.p2_pos (32-n).toNat
 have g:=Int.emod_nonneg a (b:=M.p2 (32-n).toNat) (by omega)
 have f:=Int.emod_add_mul_ediv a (M.p2 (32-n).toNat)
 have e:0<=M.p2 (32-n).toNat*(a / M.p2 (32-n).toNat):=Int.mul_nonneg (by omega) (Int.ediv_nonneg a0 (by omega))
 unfold zW
 omega
theorem M.known (v n:Int) (hA:M.isA v=true):wrap64 (v / 2 ^ (32-n).toNat*2 ^ (32-n).toNat)=zW v n:=by
 obtain ⟨a,f⟩:=M.isA_iff.1 hA
 rw [<- M.p2_eq]
 unfold zW
 have g:=M.p2_pos (32-n).toNat
 generalize M.p2 (32-n).toNat=m at *
 have e:=Int.emod_add_mul_ediv v m
 have h:=Int.mul_comm (v / m) m
 have j:=Int.emod_nonneg v (b:=m) (by omega)
 have d:0<=v / m:=Int.ediv_nonneg a (by omega)
 have i:0<=m*(v / m):=Int.mul_nonneg (by omega) d
 rw [M.wrap64_in _ (by omega)]
 omega
def Zt (a b d:Int):Bool:=M.isA a && (decide (0<=b) && (decide (b<=32) && (decide (0<=d) && decide (d<4294967296))))
theorem zbY (a n:Int) (w:World) (hA:M.isA a=true) (n0:0<=n) (n1:n<=32) :
 Calls Tryz.prog 103 #[J Z a,J Z n] w fun e w'=>e=.returned (J Z (zW a n))/\w'=w:=by
 have b:=M.known a n hA
 have d:Hid _:=b
 obtain ⟨g,f⟩:=M.isA_iff.1 hA
 clear b
 go_enter Tryz.func103,Tryz.ntmps103
 go_wp2_with fail
 go_ret
 exact ⟨by rw [<- d.out];rfl,rfl⟩
theorem Y8 (a b d:Int) (w:World) :
 Calls Tryz.prog 27 #[J Z a,J Z b,J Z d] w fun e w'=>e=.returned (.bool (Zt a b d))/\w'=w:=by
 have g:Hid (Zt a b d=(M.isA a && (decide (0<=b) && (decide (b<=32) && (decide (0<=d) && decide (d<4294967296)))))):=rfl
 go_enter Tryz.func27,Tryz.ntmps27
 go_wp2_with fail
 refine (xM a _).mono ?_
 rintro e w' ⟨rfl,l⟩
 subst w'
 generalize M.isA a=q at *
 cases q with
 | false =>
  go_wp2_with fail
  go_ret
  exact ⟨by rw [g.out];rfl,rfl⟩
 | true =>
  by_cases k:0<=b
  ·by_cases j:b<=32
   ·by_cases i:0<=d
    ·by_cases h:d<4294967296
     ·have f:Hid (Zt a b d=true):=by show _=_;rw [g.out];simp [k,j,i,h]
      go_wp2_with fail
      go_ret
      exact ⟨by rw [f.out];rfl,rfl⟩
     ·have f:Hid (Zt a b d=false):=by show _=_;rw [g.out];simp [h]
      have m:decide (d<4294967296)=false:=decide_eq_false h
      go_wp2_with fail
      go_ret
      exact ⟨by rw [f.out];rfl,rfl⟩
    ·have f:Hid (Zt a b d=false):=by show _=_;rw [g.out];simp [i]
     have n:decide (0<=d)=false:=decide_eq_false i
     go_wp2_with fail
     go_ret
     exact ⟨by rw [f.out];rfl,rfl⟩
   ·have f:Hid (Zt a b d=false):=by show _=_;rw [g.out];simp [j]
    have o:decide (b<=32)=false:=decide_eq_false j
    go_wp2_with fail
    go_ret
    exact ⟨by rw [f.out];rfl,rfl⟩
  ·have f:Hid (Zt a b d=false):=by show _=_;rw [g.out];simp [k]
   have p:decide (0<=b)=false:=decide_eq_false k
   go_wp2_with fail
   go_ret
   exact ⟨by rw [f.out];rfl,rfl⟩
theorem xH (ao:Option Addr) (b off n c:Nat) (V L R:Nat->Int) (w:World) (hn:n<=64) (hs:TS w ao b off n V L R) :
 Calls Tryz.prog 85 #[O ao n c] w fun e w'=>(∃ v,e=.returned v/\w'.ownsRow w.heap.size 94 2 v n (pc V L n))/\Below w.heap.size w w':=by
 obtain ⟨S,A,s,r,p⟩:=info_parts Tryz.infoPrefix
 have Q:Hid _:=hs
 clear hs
 go_enter Tryz.func85,Tryz.ntmps85
 go_wp2_with fail
 go_loopg [3,9] n (fun q v y wr=>∃ k:Nat,q+k=n/\y=J Z k/\wr.ownsRow w.heap.size 94 2 v k (pc V L k)/\Below w.heap.size w wr)
 case atStart=>exact ⟨0,by omega,rfl,⟨rfl,.inr ⟨w.heap.size,0,#[],rfl,Nat.le_refl _,zu _ rfl,Nat.le_refl _,by decide,rfl,rfl⟩⟩,(Below.refl _ _).alloc (Nat.le_refl _) _⟩
 case round =>
  obtain ⟨k,K,rfl,a,P⟩:=hrel
  have G:Hid (wr.ownsRow w.heap.size 94 2 u3 k (pc V L k)):=a
  have o:Hid (Below w.heap.size w wr):=P
  clear a P
  by_cases h:k<n
  ·obtain rfl:=Q.out.at_ (by omega)
   have d:=Q.out.below o.out
   have hv:=d.val k h
   have hl:=d.len k h
   have hr:=d.reg k h
   have X:b<wr.heap.size:=d.lt (by omega)
   have x:=o.out.size
   have j:(k:Int)<(n:Int):=by omega
   have W:(0:Int)<=(k:Int):=by omega
   have Y:Hid (pc V L (k+1)=pc V L k++[J Z (V k),J Z (L k)]):=rfl
   clear d
   generalize V k=v at *
   generalize L k=l at *
   generalize R k=rg at *
   have D:Hid (k+1<=maxLen):=by show _<=_;unfold maxLen;omega
   have C:Hid ((k+1)*16<=140737488355328):=by show _<=_;omega
   have m:Hid (w.heap.size<=((wr.alloc (U #[J Z v,J Z l,J Z rg] 96)).alloc (U #[J Z v,J Z l] 94)).heap.size):=by show _<=_;simp;omega
   have i:Hid (∀ u∈[J Z v,J Z l],u.oneCell'=true):=fun u hu=>by simp at hu;rcases hu with rfl | rfl<;>rfl
   go_wp2_with (at_builtin;refine wpList_append_lies _ rfl _ _ 98 rfl w.heap.size 94 S _ 2 16 Tryz.underlying98 A s r p rfl (by decide) u3 _ _ rfl ((G.out.alloc _).alloc _) ⟨wr.heap.size+1,0,none⟩ 1 1 [J Z v,J Z l] rfl rfl (World.news_of_block (cs:=#[J Z v,J Z l]) (t:=94) (fr:=(0,0)) (zu _ (by simp))) i.out (Nat.lt_succ_self 0) D.out C.out m.out (wr.heap.size+2) (by simp) ?_;intro g E I a f B N)
   have H:Hid (Below w.heap.size w I):=((o.out.alloc o.out.size _).alloc (by simp;omega) _).grown f m.out (fun q K=>(G.out.lt q K).1)
   have F:Hid (I.ownsRow w.heap.size 94 2 (O (some ⟨g,0,none⟩) (k+1) E) (k+1) (pc V L (k+1))):=by show World.ownsRow _ _ _ _ _ _ _;rw [Y.out];exact a
   clear a f B
   go_roundg (gk-1)
   case measure=>omega
   case rel=>exact ⟨k+1,by omega,by go_num,F.out,H.out⟩
  ·have z:k=n:=by omega
   subst z
   have j:¬ (k:Int)<(k:Int):=by omega
   go_wp2_with fail
   go_ret
   exact ⟨⟨_,rfl,G.out⟩,o.out⟩
def yO (V L R:Nat->Int) (n:Nat):Bool:=Zw R n && M.isMap V L n
theorem Xh {V L R:Nat->Int} {n:Nat} (h:yO V L R n=true):n<=64/\Zw R n=true/\M.isMap V L n=true:=by
 simp only [yO,Bool.and_eq_true] at h
 have a:=h.2
 simp only [M.isMap,Bool.and_eq_true,decide_eq_true_eq] at a
 exact ⟨a.1,h.1,h.2⟩
theorem Yl (ao:Option Addr) (b off n c:Nat) (V L R:Nat->Int) (w:World) (hs:TS w ao b off n V L R) :
 Calls Tryz.prog 43 #[O ao n c] w fun e w'=>e=.returned (.bool (yO V L R n))/\Below w.heap.size w w':=by
 have C:Hid _:=hs
 clear hs
 by_cases U:64<n
 ·have g:Hid (yO V L R n=false):=by show _=_;unfold yO M.isMap;simp;omega
  have x:(64:Int)<(n:Int):=by omega
  go_enter Tryz.func43,Tryz.ntmps43
  go_wp2_with fail
  go_ret
  exact ⟨by rw [g.out];rfl,Below.refl _ _⟩
 ·have x:(n:Int)<=64:=by omega
  go_enter Tryz.func43,Tryz.ntmps43
  go_wp2_with fail
  go_loopg [10] n (fun q y wr=>∃ k:Nat,q+k=n/\y=J Z k/\Hid (Zw R k=true)/\Below w.heap.size w wr)
  case atStart=>exact ⟨0,by omega,rfl,rfl,Below.refl _ _⟩
  case round =>
   obtain ⟨k,hq,rfl,K,I⟩:=hrel
   have p:Hid _:=I
   clear I
   by_cases f:k<n
   ·obtain rfl:=C.out.at_ (by omega)
    have a:=C.out.below p.out
    have H:=a.val k f
    have hl:=a.len k f
    have hr:=a.reg k f
    have S:b<wr.heap.size:=a.lt (by omega)
    have z:=p.out.size
    have r:(k:Int)<(n:Int):=by omega
    have Q:(0:Int)<=(k:Int):=by omega
    clear a
    have d:Hid (∀ o,Below w.heap.size w (wr.alloc o)):=fun o=>p.out.alloc p.out.size o
    have j:Hid (¬ (0<=R k/\R k<=99)->yO V L R n=false):=fun h=>by unfold yO;rw [XD f h];rfl
    have E:Hid (0<=R k/\R k<=99->Zw R (k+1)=true):=fun h=>by simp only [Zw];rw [K.out];simp [h.1,h.2]
    generalize V k=v at *
    generalize L k=l at *
    generalize R k=rg at *
    by_cases h1:rg<0
    ·have g:=j.out (by omega)
     have m:Hid _:=g
     clear g
     go_wp2_with fail
     go_ret
     exact ⟨by rw [m.out];rfl,d.out _⟩
    ·by_cases X:99<rg
     ·have g:=j.out (by omega)
      have m:Hid _:=g
      clear g
      go_wp2_with fail
      go_ret
      exact ⟨by rw [m.out];rfl,d.out _⟩
     ·have F:Hid (Zw R (k+1)=true):=E.out (by omega)
      have Y:0<=rg:=by omega
      have W:rg<=99:=by omega
      clear h1 X
      go_wp2_with fail
      go_roundg (gk-1)
      case measure=>omega
      case rel=>exact ⟨k+1,by omega,by go_num,F,d.out _⟩
   ·have B:k=n:=by omega
    subst B
    have r:¬ (k:Int)<(k:Int):=by omega
    go_wp2_with fail
    refine (xH _ b off k _ V L R _ (by omega) (C.out.below p.out)).mono ?_
    rintro e w2 ⟨⟨v,rfl,i⟩,u⟩
    obtain ⟨po,P,N,H,A,_,a⟩:=Z4 i
    subst H
    have D:Hid _:=a
    have d:Hid _:=p.out.trans (u.mono p.out.size)
    clear i u a
    go_wp2_with fail
    refine (J7 _ P _ _ V L _ (by omega) A D.out).mono ?_
    rintro e w3 ⟨rfl,s⟩
    have G:Hid _:=d.out.trans (s.mono d.out.size)
    have g:Hid (yO V L R k=M.isMap V L k):=by show _=_;unfold yO;rw [K.out];rfl
    clear s
    go_wp2_with fail
    go_ret
    exact ⟨by rw [g.out];rfl,G.out⟩
def xK (V L R:Nat->Int) (n:Nat) (a:Int):Int:=if M.bestTo V L a n<0 then -1 else R (M.bestTo V L a n).toNat
theorem J6 (ao:Option Addr) (b off n c:Nat) (V L R:Nat->Int) (a:Int) (w:World) (a0:0<=a) (a1:a<4294967296) (hp:yO V L R n=true) (hs:TS w ao b off n V L R) :
 Calls Tryz.prog 104 #[O ao n c,J Z a] w fun e w'=>e=.returned (.tuple #[J Z (xK V L R n a),J Z (M.depTo V L a n)])/\Below w.heap.size w w':=by
 have y:Hid _:=hs
 obtain ⟨m,E,x⟩:=Xh hp
 have H:Hid (∀ i,i<n->M.isP (V i) (L i)=true):=fun i hi=>by
  have:n<=64/\M.okTo V L n=true:=by simpa [M.isMap] using x
  exact (M.okTo_iff.1 this.2 i hi).1
 clear hs hp E x
 go_enter Tryz.func104,Tryz.ntmps104
 go_wp2_with fail
 refine (xH _ b off n _ V L R _ m y.out).mono ?_
 rintro e K ⟨⟨v,rfl,d⟩,l⟩
 obtain ⟨N,B,A,C,F,_,h⟩:=Z4 d
 subst C
 have u:Hid _:=h
 have q:Hid _:=l
 clear d l h
 go_wp2_with fail
 refine (Jk _ B _ _ V L _ _ a0 a1 m u.out H.out).mono ?_
 rintro e I ⟨rfl,j⟩
 have g:Hid _:=q.out.trans (j.mono q.out.size)
 have o:Hid _:=y.out.below g.out
 clear j
 have G:=jn (V:=V) (L:=L) (a:=a) n
 have z:Hid (xK V L R n a=if M.bestTo V L a n<0 then -1 else R (M.bestTo V L a n).toNat):=rfl
 generalize M.bestTo V L a n=best at *
 generalize hdp:M.depTo V L a n=dep at *
 have p:Hid _:=hdp
 clear hdp
 by_cases s:best<0
 ·have f:Hid (xK V L R n a=-1):=by show _=_;rw [z.out,if_pos s]
  go_wp2_with fail
  go_ret2
  exact ⟨by rw [f.out,p.out];rfl,g.out⟩
 ·obtain ⟨k,rfl⟩:∃ k:Nat,best=k:=⟨best.toNat,by omega⟩
  have f:Hid (xK V L R n a=R k):=by show _=_;rw [z.out,if_neg s,Int.toNat_natCast]
  have r:k<n:=by omega
  obtain rfl:=o.out.at_ (by omega)
  have D:=o.out.reg k r
  have Q:(0:Int)<=(k:Int):=by omega
  have P:¬ (n:Int)<=(k:Int):=by omega
  clear s
  go_wp2_with fail
  go_ret2
  exact ⟨by rw [f.out,p.out];rfl,g.out⟩
def ZU (a b d:Int) (V L R:Nat->Int) (n:Nat):Bool:=Zt a b d && yO V L R n
theorem Jm (a b d:Int) (do_ ao po:Option Addr) (dl dc al ac pl pcp pb poff:Nat) (V L R:Nat->Int) (w:World) (hs:TS w po pb poff pl V L R) :
 Calls Tryz.prog 56 #[.agg #[J Z a,J Z b,J Z d,O do_ dl dc,O ao al ac,O po pl pcp]] w fun e w'=>e=.returned (.bool (ZU a b d V L R pl))/\Below w.heap.size w w':=by
 have k:Hid _:=hs
 have f:Hid (Below w.heap.size w (w.alloc (U #[J Z a,J Z b,J Z d,O do_ dl dc,O ao al ac,O po pl pcp] 31))):=(Below.refl _ _).alloc (Nat.le_refl _) _
 clear hs
 have i:Hid (ZU a b d V L R pl=(Zt a b d && yO V L R pl)):=rfl
 go_enter Tryz.func56,Tryz.ntmps56
 go_wp2_with fail
 refine (Y8 a b d _).mono ?_
 rintro e w' ⟨rfl,j⟩
 subst w'
 generalize Zt a b d=q at *
 cases q with
 | false =>
  go_wp2_with fail
  go_ret
  exact ⟨by rw [i.out];rfl,f.out⟩
 | true =>
  go_wp2_with fail
  refine (Yl _ pb poff pl _ V L R _ (k.out.below f.out)).mono ?_
  rintro e l ⟨rfl,g⟩
  have h:Hid _:=f.out.trans (g.mono f.out.size)
  clear g
  go_wp2_with fail
  go_ret
  exact ⟨by rw [i.out];rfl,h.out⟩
def dnTo (Dn:Nat->Int) (k i:Nat):Bool:=!Zr Dn (i:Int) k
def DA (Dn:Nat->Int) (k:Nat):Array Value:=Array.ofFn (fun i:Fin 64=>Value.bool (dnTo Dn k i.val))
theorem yY (Dn:Nat->Int) (k:Nat):(DA Dn k).size=64:=by simp [DA]
theorem Jn (Dn:Nat->Int) (k i:Nat) (h:i<64):(DA Dn k)[i]?=some (.bool (dnTo Dn k i)):=by
 unfold DA
 rw [Array.getElem?_ofFn]
 simp [h]
theorem zdO {Dn:Nat->Int} {k:Nat} (h:Dn k<0\/64<=Dn k):DA Dn (k+1)=DA Dn k:=by
 unfold DA
 congr 1
 funext i
 unfold dnTo
 simp only [Zr]
 have:(Dn k==(i.val:Int))=false:=by
  have:=i.isLt
  simp;omega
 rw [this];simp
theorem zf5 {Dn:Nat->Int} {k n:Nat} (h:Dn k=n) (hn:n<64):DA Dn (k+1)=(DA Dn k).setIfInBounds n (.bool true):=by
 apply Array.ext_getElem?
 intro i
 rw [Array.getElem?_setIfInBounds]
 by_cases b:i<64
 ·rw [Jn Dn (k+1) i b]
  by_cases a:n=i
  ·subst a
   rw [if_pos rfl,if_pos (by rw [yY];exact hn)]
   unfold dnTo
   simp only [Zr,h]
   simp
  ·rw [if_neg a,Jn Dn k i b]
   unfold dnTo
   simp only [Zr,h]
   have:((n:Int)==(i:Int))=false:=by simp;omega
   rw [this];simp
 ·rw [Array.getElem?_eq_none (by rw [yY];omega),if_neg (by omega),Array.getElem?_eq_none (by rw [yY];omega)]
theorem zaU {a b c d e:Value} {D:Array Value} {f g h i j k u:Value} {n:Nat} (hD:D.size=64) (hn:n<64):(yG a b c d e D f g h i j k).setIfInBounds (5+n) u=yG a b c d e (D.setIfInBounds n u) f g h i j k:=by
 unfold yG
 rw [yA (by simp;omega),ZL (by simp)]
 simp
theorem zaX {a b c d e:Value} {D:Array Value} {f g h i j k u:Value}:(yG a b c d e D f g h i j k).setIfInBounds 0 u=yG u b c d e D f g h i j k:=by
 unfold yG
 rw [yA (by simp;omega),yA (by simp)];rfl
theorem zaE {P:Program} {w:World} {g:Nat} {c:Array Value} {t:TypeId} {vs:List Value} (h:w.heap[g]?=some (U c t (0,0))) (hn:vs.length=c.size) (h1:∀ v∈vs,v.oneCell'=true):(storeCells ⟨g,0,none⟩ vs).run P w=.ok () (w.setRow g vs.toArray):=by
 have:=run_storeCells_from (P:=P) g t vs 0 c w h (by omega) h1
 simpa using this
theorem X4 {P:Program} (w:World) {ops:Array Oper} {rest:List Oper} {o:Oper} {a:Act} {Q:Exit->Act->World->Prop} (hgd:o.guard=none) (p:Operand) (t:TypeId) (ho:o.op=.load t p) (g:Nat) (c:Array Value) (te:TypeId) (fr:Nat×Nat) (d:TypeDesc) (hp:a.eval p=.pointer (some ⟨g,0,none⟩)) (hg:w.heap[g]?=some (U c te fr)) (hu:P.underlying t=some d) (hd:(match d with | .struct _ | .array _ _=>true | _=>false)=true) (hi:(P.info? t).map (·.size)=some c.size)
 (h:wpList P ops Q rest (a.put o.dst (.agg c)) w):wpList P ops Q (o::rest) a w:=by
 refine wpList_plain hgd fun K hK=>?_
 have b:(Instr.loadAt t (.pointer (some ⟨g,0,none⟩))).run P w=.ok (.agg c) w:=by
  simp only [Instr.loadAt,Instr.sureAddr,Sem.run_bind,Sem.run_pure,Result.andThen]
  exact run_loadVar_row w g te t c fr d hg hu hd hi
 unfold Oper.wp execOp
 simp only [ho,hp,Sem.run_bind,b,Result.andThen_ok]
 exact hK _ _ h
theorem YE {fn:Func} {p:Tmp} {ty:TypeId} (h:fn.results=#[.cell p ty]) (tmps:Array Value) (P:Program) (w:World) (a:Addr) (v:Value) (ha:tmps.getD p undef=.pointer (some a)) (hv:(loadVar ty a).run P w=.ok v w):(results fn tmps).run P w=.ok v w:=by
 have b:(asAddr (tmps[p]?.getD undef)).run P w=.ok a w:=by
  have e:tmps[p]?.getD undef=tmps.getD p undef:=by simp
  rw [e,ha];rfl
 simp only [results,h]
 simp [Sem.run_bind,Result.andThen]
 rw [b]
 exact hv
theorem zaR {w:World} {g:Nat} {c c':Array Value} {t:TypeId} {fr:Nat×Nat} (h:w.heap[g]?=some (U c t fr)):(w.setRow g c').heap[g]?=some (U c' t fr):=by
 simp [World.setRow,Array.getElem?_modify,h]
theorem zaQ {w:World} {g b:Nat} {c':Array Value} (h:b≠g):(w.setRow g c').heap[b]?=w.heap[b]?:=by
 simp only [World.setRow,Array.getElem?_modify]
 rw [if_neg (by omega)]
theorem jA {w:World} {g:Nat} {c':Array Value}:(w.setRow g c').heap.size=w.heap.size:=by simp [World.setRow]
theorem QW {B:Nat} {w0 w:World} {g:Nat} {c':Array Value} (h:Below B w0 w) (hg:B<=g):Below B w0 (w.setRow g c'):=h.trans ⟨rfl,rfl,rfl,by rw [jA];exact Nat.le_refl _,fun k hk=>zaQ (by omega)⟩
theorem qK {a b c d e:Value} {D:Array Value} {f g h i j k:Value} (ha:a.oneCell'=true) (hb:b.oneCell'=true) (hc:c.oneCell'=true) (hd:d.oneCell'=true) (he:e.oneCell'=true) (hD:∀ v∈D.toList,v.oneCell'=true) (hf:f.oneCell'=true) (hg:g.oneCell'=true) (hh:h.oneCell'=true) (hi:i.oneCell'=true) (hj:j.oneCell'=true) (hk:k.oneCell'=true):∀ v∈(yG a b c d e D f g h i j k).toList,v.oneCell'=true:=by
 intro v l
 unfold yG at l
 simp only [Array.toList_append,List.mem_append] at l
 rcases l with (l | l) | l
 ·simp at l;rcases l with rfl | rfl | rfl | rfl | rfl<;>assumption
 ·exact hD v l
 ·simp at l;rcases l with rfl | rfl | rfl | rfl | rfl | rfl<;>assumption
theorem JH (Dn:Nat->Int) (k:Nat):∀ v∈(DA Dn k).toList,v.oneCell'=true:=by
 intro v d
 obtain ⟨i,a⟩:=List.getElem?_of_mem d
 rw [Array.getElem?_toList] at a
 have b:i<64:=by
  have:=(Array.getElem?_eq_some_iff.1 a).1
  rwa [yY] at this
 rw [Jn Dn k i b] at a
 cases a
 rfl
theorem zdR (a d r p:Int) (ao:Option Addr) (al ac:Nat):((((Tryz.zeroCells118.toList.set 3 (J Z a)).set 4 (J Z d)).set 69 (O ao al ac)).set 70 (J Z r)).set 71 (J Z p)=(yG (O none 0 0) (J Z 0) (.bool false) (J Z a) (J Z d) (DA (fun _=>0) 0) (O ao al ac) (J Z r) (J Z p) (O none 0 0) (J Z 0) (J Z 0)).toList:=by kernel_rfl
theorem zeY (Dn:Nat->Int):DA (fun _=>0) 0=DA Dn 0:=rfl
def YQ (co:Option Addr) (cl cc:Nat) (a b d:Int) (Dn:Nat->Int) (k:Nat) (ao:Option Addr) (al ac:Nat) (V L R:Nat->Int) (pl:Nat):Array Value :=
 yG (O co cl cc) (J Z 0) (.bool false) (J Z (zW a b)) (J Z d) (DA Dn k) (O ao al ac) (J Z (xK V L R pl (zW a b))) (J Z (M.depTo V L (zW a b) pl)) (O none 0 0) (J Z 86400) (J Z 0)
theorem zbS (a b d:Int) (do_ ao po:Option Addr) (dl dc al ac pl pcp pb poff db doff:Nat) (Dn:Nat->Int) (V L R:Nat->Int) (co:Option Addr) (cl cc:Nat) (w:World) (hA:M.isA a=true) (b0:0<=b) (b1:b<=32) (hdl:dl<=9223372036854775806) (hp:yO V L R pl=true) (hs:TS w po pb poff pl V L R) (hd:IS w do_ db doff dl Dn) :
 Calls Tryz.prog 57 #[O co cl cc,.agg #[J Z a,J Z b,J Z d,O do_ dl dc,O ao al ac,O po pl pcp]] w fun e w'=>e=.returned (.agg (YQ co cl cc a b d Dn dl ao al ac V L R pl))/\Below w.heap.size w w':=by
 have HS:Hid _:=hs
 have HD:Hid _:=hd
 obtain ⟨k0,k1⟩:=qg (n:=b) (M.isA_iff.1 hA).1 (M.isA_iff.1 hA).2
 clear hs hd
 go_enter Tryz.func57,Tryz.ntmps57
 go_wp2_with fail
 refine (zbY a b _ hA b0 b1).mono ?_
 rintro e w' ⟨rfl,a9⟩
 subst w'
 have u:Hid (Below w.heap.size w ((w.alloc (U #[J Z a,J Z b,J Z d,O do_ dl dc,O ao al ac,O po pl pcp] 31)).alloc (U Tryz.zeroCells118 118))):=((Below.refl _ _).alloc (Nat.le_refl _) _).alloc (by simp) _
 go_wp2_with fail
 refine (J6 _ pb poff pl _ V L R _ _ k0 k1 hp (HS.out.below u.out)).mono ?_
 rintro e f ⟨rfl,o⟩
 have I:Hid _:=u.out.trans (o.mono u.out.size)
 have K:f.heap[w.heap.size]?=some (U #[J Z a,J Z b,J Z d,O do_ dl dc,O ao al ac,O po pl pcp] 31 (0,0)):=by
  rw [o.block _ (by simp;omega),Below.heap_alloc _ _ _ (by simp)];exact heap_alloc_new w _
 have HY:Hid (f.heap[w.heap.size+1]?=some (U Tryz.zeroCells118 118 (0,0))):=by
  show _=_
  rw [o.block _ (by simp)];exact zu _ (by simp)
 have z:w.heap.size+1<f.heap.size:=lt_of_block HY.out
 have A:w.heap.size<f.heap.size:=by omega
 have x2:f.cell? ⟨w.heap.size,2,none⟩=some (J Z d):=by simp [World.cell?,K]
 have x4:f.cell? ⟨w.heap.size,4,none⟩=some (O ao al ac):=by simp [World.cell?,K]
 have g:Hid (∀ k,YQ co cl cc a b d Dn k ao al ac V L R pl=yG (O co cl cc) (J Z 0) (.bool false) (J Z (zW a b)) (J Z d) (DA Dn k) (O ao al ac) (J Z (xK V L R pl (zW a b))) (J Z (M.depTo V L (zW a b) pl)) (O none 0 0) (J Z 86400) (J Z 0)):=fun _=>rfl
 obtain ⟨X,p⟩:∃ X,Hid (X=f.alloc (U (yG (O none 0 0) (J Z 0) (.bool false) (J Z (zW a b)) (J Z d) (DA Dn 0) (O ao al ac) (J Z (xK V L R pl (zW a b))) (J Z (M.depTo V L (zW a b) pl)) (O none 0 0) (J Z 0) (J Z 0)) 118)):=⟨_,rfl⟩
 have Q:(storeCells ⟨f.heap.size,0,none⟩ (((((Tryz.zeroCells118.toList.set 3 (J Z (zW a b))).set 4 (J Z d)).set 69 (O ao al ac)).set 70 (J Z (xK V L R pl (zW a b)))).set 71 (J Z (M.depTo V L (zW a b) pl)))).run Tryz.prog (f.alloc (U Tryz.zeroCells118 118))=.ok () X:=by
  rw [p.out,zdR,zeY Dn]
  exact run_storeCells_new (P:=Tryz.prog) f 118 Tryz.zeroCells118 _ (by rw [xj (yY _ _)];kernel_rfl) (by rw [xj (yY _ _)];rfl) (by
   rw [Array.all_eq_true_iff_forall_mem]
   intro v N
   exact qK rfl rfl rfl rfl rfl (JH _ _) rfl rfl rfl rfl rfl rfl v (by simpa using N))
 have l:Hid (X.heap[f.heap.size]?=some (U (yG (O none 0 0) (J Z 0) (.bool false) (J Z (zW a b)) (J Z d) (DA Dn 0) (O ao al ac) (J Z (xK V L R pl (zW a b))) (J Z (M.depTo V L (zW a b) pl)) (O none 0 0) (J Z 0) (J Z 0)) 118 (0,0))):=by show _=_;rw [p.out];exact heap_alloc_new _ _
 have G:Hid (∀ k,k<f.heap.size->X.heap[k]?=f.heap[k]?):=fun k hk=>by rw [p.out];exact Below.heap_alloc _ _ _ hk
 have a3:Hid (Below w.heap.size w X):=by show Below _ _ _;rw [p.out];exact I.out.alloc I.out.size _
 have g0:X.cell? ⟨f.heap.size,0,none⟩=some (O none 0 0):=by rw [cell_of_row _ _ _ _ _ _ l.out,xl (by decide)];rfl
 have f0:X.frozen? ⟨f.heap.size,0,none⟩=false:=by simp [World.frozen?,l.out]
 have a1:X.cell? ⟨f.heap.size,73,none⟩=some (J Z 0):=by rw [cell_of_row _ _ 73 _ _ _ l.out];exact zae (yY _ _) 4
 have a2:X.frozen? ⟨f.heap.size,73,none⟩=false:=by simp [World.frozen?,l.out]
 have x3:X.cell? ⟨w.heap.size,3,none⟩=some (O do_ dl dc):=by rw [World.cell?_of_block (G.out _ A)];simp [World.cell?,K]
 clear o K
 go_wp2_with fail
 have a8:Hid (((X.setCell ⟨f.heap.size,0,none⟩ (O co cl cc)).setCell ⟨f.heap.size,73,none⟩ (J Z 86400)).heap[f.heap.size]?=some (U (YQ co cl cc a b d Dn 0 ao al ac V L R pl) 118 (0,0))):=by
  show _=_
  rw [zU (zU l.out),zaX,qE (yY _ _)];rfl
 have a6:Hid (Below w.heap.size w ((X.setCell ⟨f.heap.size,0,none⟩ (O co cl cc)).setCell ⟨f.heap.size,73,none⟩ (J Z 86400))):=(a3.out.setCell (by simp only;omega) _).setCell (by simp only;omega) _
 have a7:Hid (((X.setCell ⟨f.heap.size,0,none⟩ (O co cl cc)).setCell ⟨f.heap.size,73,none⟩ (J Z 86400)).heap[w.heap.size+1]?=some (U Tryz.zeroCells118 118 (0,0))):=by
  show _=_
  rw [za (by omega),za (by omega),G.out _ z];exact HY.out
 clear g0 f0 a1 a2 x2 x3 x4 Q
 generalize (X.setCell ⟨f.heap.size,0,none⟩ (O co cl cc)).setCell ⟨f.heap.size,73,none⟩ (J Z 86400)=w2 at *
 go_loopg [39] dl (fun q y wr=>∃ k:Nat,q+k=dl/\y=J Z k/\wr.heap[f.heap.size]?=some (U (YQ co cl cc a b d Dn k ao al ac V L R pl) 118 (0,0))/\wr.heap[w.heap.size+1]?=some (U Tryz.zeroCells118 118 (0,0))/\Below w.heap.size w wr)
 case atStart=>exact ⟨0,by omega,rfl,a8.out,a7.out,a6.out⟩
 case round =>
  obtain ⟨k,hq,rfl,E,x,D⟩:=hrel
  have i:Hid _:=E
  have j:Hid _:=x
  have m:Hid _:=D
  clear E x D
  by_cases Y:k<dl
  ·have B:(k:Int)<(dl:Int):=by omega
   have b2:(0:Int)<=(k:Int):=by omega
   obtain rfl:=HD.out.at_ (by omega)
   have N:=(HD.out.below m.out (HD.out.lt)).val k Y
   by_cases h1:0<=Dn k
   ·by_cases h2:Dn k<64
    ·obtain ⟨n,W⟩:∃ n:Nat,Dn k=n:=⟨(Dn k).toNat,by omega⟩
     have h:Hid (YQ co cl cc a b d Dn (k+1) ao al ac V L R pl=(YQ co cl cc a b d Dn k ao al ac V L R pl).setIfInBounds (5+n) (.bool true)):=by
      show _=_
      rw [g.out,g.out,zaU (yY _ _) (by omega),zf5 W (by omega)]
     rw [W] at N h1 h2
     have b4:wr.cell? ⟨f.heap.size,5+n,none⟩=some (.bool (dnTo Dn k n)):=by rw [cell_of_row _ _ _ _ _ _ i.out,g.out,zaf (yY _ _) (by omega),Jn _ _ _ (by omega)]
     have b3:wr.frozen? ⟨f.heap.size,5+n,none⟩=false:=by simp [World.frozen?,i.out]
     clear W
     go_wp2_with fail
     go_roundg (gk-1)
     case measure=>omega
     case rel=>exact ⟨k+1,by omega,by go_num,by rw [h.out];exact zU i.out,by rw [za (by omega)];exact j.out,m.out.setCell (by simp only;omega) _⟩
    ·have h:Hid (YQ co cl cc a b d Dn (k+1) ao al ac V L R pl=YQ co cl cc a b d Dn k ao al ac V L R pl):=by show _=_;rw [g.out,g.out,zdO (.inr (by omega))]
     have b5:decide (Dn k<64)=false:=decide_eq_false h2
     go_wp2_with fail
     go_roundg (gk-1)
     case measure=>omega
     case rel=>exact ⟨k+1,by omega,by go_num,by rw [h.out];exact i.out,j.out,m.out⟩
   ·have h:Hid (YQ co cl cc a b d Dn (k+1) ao al ac V L R pl=YQ co cl cc a b d Dn k ao al ac V L R pl):=by show _=_;rw [g.out,g.out,zdO (.inl (by omega))]
    have b6:decide (0<=Dn k)=false:=decide_eq_false h1
    go_wp2_with fail
    go_roundg (gk-1)
    case measure=>omega
    case rel=>exact ⟨k+1,by omega,by go_num,by rw [h.out];exact i.out,j.out,m.out⟩
  ·have a0:k=dl:=by omega
   subst a0
   have B:¬ (k:Int)<(k:Int):=by omega
   have s:Hid ((YQ co cl cc a b d Dn k ao al ac V L R pl).size=75):=by show _=_;rw [g.out];exact xj (yY _ _)
   have H:Hid ((storeCells ⟨w.heap.size+1,0,none⟩ (YQ co cl cc a b d Dn k ao al ac V L R pl).toList).run Tryz.prog wr=.ok () (wr.setRow (w.heap.size+1) (YQ co cl cc a b d Dn k ao al ac V L R pl).toList.toArray)):=zaE (P:=Tryz.prog) (vs:=(YQ co cl cc a b d Dn k ao al ac V L R pl).toList) j.out (by rw [Array.length_toList,s.out];rfl) (by rw [g.out];exact qK rfl rfl rfl rfl rfl (JH _ _) rfl rfl rfl rfl rfl rfl)
   obtain ⟨c,HC⟩:∃ c,Hid (YQ co cl cc a b d Dn k ao al ac V L R pl=c):=⟨_,rfl⟩
   rw [HC.out] at H s i
   obtain ⟨F,r⟩:∃ F,Hid (F=wr.setRow (w.heap.size+1) c.toList.toArray):=⟨_,rfl⟩
   have S:=H.out
   rw [<- r.out] at S
   have a5:Hid (Below w.heap.size w F):=by show Below _ _ _;rw [r.out];exact QW m.out (by omega)
   have a4:Hid (F.heap[w.heap.size+1]?=some (U c 118 (0,0))):=by show _=_;rw [r.out,zaR j.out]
   have C:(Tryz.prog.info? 118).map (·.size)=some c.size:=by rw [s.out];kernel_rfl
   have h:Hid _:=C
   clear C
   go_wp2_with (refine X4 _ rfl (.tmp 8) 118 rfl f.heap.size c 118 (0,0) _ rfl i.out Tryz.underlying118 rfl h.out ?_)
   exact bodyPost_ret (v:=.agg c) (YE Tryz.results57 _ _ _ ⟨w.heap.size+1,0,none⟩ _ rfl (run_loadVar_row F _ _ _ _ _ _ a4.out Tryz.underlying118 rfl h.out)) rfl ⟨by rw [HC.out],a5.out⟩
theorem zft {C:List Int} {r:RD} (h:r.b=true):(nx C r).b=true:=by unfold nx;split<;>simp [h]
theorem zfs {C:List Int} {r:RD} (h:¬ r.p<C.length):(nx C r).b=true:=by unfold nx;rw [if_neg h]
theorem zcm {C:List Int} {r:RD} (h:r.b=true):∀ i,(Zs C r i).b=true:=by
 intro i
 induction i with
 | zero=>exact h
 | succ i ih=>exact zft ih
theorem yB {C:List Int} {r:RD} {k:Nat} {lo hi:Int} (h:r.b=true):(num C r k lo hi).b=true:=by
 unfold num
 simp only
 split
 ·rfl
 ·exact zcm h k
theorem J9 {C:List Int} {r:RD} (h:r.b=true):∀ i,(svR C r i).b=true:=by
 intro i
 induction i with
 | zero=>exact h
 | succ i ih=>exact yB ih
theorem zen {C:List Int} {r:RD} (h:r.b=true):∀ i,(meR C r i).b=true:=by
 intro i
 induction i with
 | zero=>exact h
 | succ i ih=>exact yB (yB ih)
theorem zeV {C:List Int} {r:RD} (h:r.b=true):∀ i,(amR C r i).b=true:=by
 intro i
 induction i with
 | zero=>exact h
 | succ i ih =>
  refine yB ?_
  unfold amL
  simp only
  split
  ·exact yB (yB ih)
  ·rfl
theorem zd7 {C:List Int} {r:RD} (h:r.b=true):∀ i,(rgR C r i).b=true:=by
 intro i
 induction i with
 | zero=>exact h
 | succ i ih=>exact yB (yB ih)
theorem zdZ {W:RW} {C:List Int} {s:RT} (h:(zE W C s).1.r.b=false):s.r.p<C.length:=by
 refine Classical.byContradiction fun hn=>?_
 have a:=zfs hn
 have d:(zE W C s).1.r.b=true:=by
  simp only [zE]
  repeat' split
  ·exact J9 (yB a) _
  ·unfold Zu
   repeat' split
   all_goals exact zen (yB a) _
  ·unfold yS
   split<;>exact J9 (yB a) _
  ·exact zeV (yB a) _
  ·exact zd7 (yB a) _
  ·exact yB a
  ·exact yB a
  ·rfl
 rw [h] at d
 cases d
theorem zfI {W:RW} {C:List Int} {r:RD}:∀ n i k,chG W C r i n=some k->k<i+n:=by
 intro n
 induction n with
 | zero=>intro i k h;simp [chG] at h
 | succ n ih =>
  intro i k h
  simp only [chG] at h
  split at h
  ·cases h;omega
  ·have:=ih (i+1) k h;omega
theorem zfh {W:RW} {C:List Int} {s:RT} (hC:∀ x∈C,0<=x/\x<256):(zE W C s).1.r.p<=s.r.p+70000:=by
 have f:=zfr C s.r
 have g:=Zp C (nx C s.r) 1 1 16
 have e:(cnR C (nx C s.r)).p=(num C (nx C s.r) 1 1 16).p:=rfl
 obtain ⟨_,b⟩:=XN hC (nx C s.r)
 simp only [zE]
 repeat' split
 ·have:=jw C (cnR C (nx C s.r)) (cnN C (nx C s.r));simp only [ZC];omega
 ·have:=ze9 C (cnR C (nx C s.r)) (cnN C (nx C s.r))
  unfold Zu
  repeat' split
  all_goals (simp only;omega)
 ·unfold yS
  split
  ·rename_i i hi
   have a:=zfI _ _ _ hi
   have:=jw C (cnR C (nx C s.r)) (i+1)
   simp only at a ⊢;omega
  ·have:=jw C (cnR C (nx C s.r)) (cnN C (nx C s.r));simp only;omega
 ·have a:=zfd C (cnR C (nx C s.r)) (cnN C (nx C s.r))
  unfold yy
  simp only
  have d:∀ k,(arW C (cnR C (nx C s.r)) k).toNat<=65535:=fun k=>by have:=Xf hC (amL C (amR C (cnR C (nx C s.r)) k));unfold arW;omega
  split
  ·omega
  ·have:=d (M.bestTo (arV C (cnR C (nx C s.r))) (arL C (cnR C (nx C s.r))) W.addr (cnN C (nx C s.r))).toNat
   omega
 ·have a:=ze3 C (cnR C (nx C s.r)) (cnN C (nx C s.r))
  have d:=zci (W:=W) hC (cnR C (nx C s.r)) (cnN C (nx C s.r))
  unfold Zo
  simp only
  omega
 ·have:=Zp C (nx C s.r) 3 1 86400;simp only [yI];omega
 ·have:=Zp C (nx C s.r) 1 0 15;simp only [ZY];omega
 ·simp only;omega
theorem zdY {W:RW} {C:List Int} {s:RT} (h:(zE W C s).2=false):(zE W C s).1.sv=s.sv:=by
 revert h
 simp only [zE]
 repeat' split
 ·intro h;cases h
 ·unfold Zu
  repeat' split
  all_goals first | (intro h;cases h;done) | (intro _;rfl)
 ·unfold yS
  split
  all_goals first | (intro h;cases h;done) | (intro _;rfl)
 ·intro _;rfl
 ·intro _;rfl
 ·intro _;rfl
 ·intro h;cases h
 ·intro _;rfl
def Qn (w:World) (R:Int×(List Int×Int×Int)) (r:Ending) (w':World):Prop:=Below w.heap.size w w'/\∃ o m k,r=.returned (.tuple #[.agg #[O o m k,J Z R.2.2.1,J Z R.2.2.2],J Z R.1])/\(R.1≠0->o=none/\m=0/\k=0)/\(R.1=0->m=R.2.1.length/\w'.ownsRow w.heap.size 3 1 (O o m k) R.2.1.length (R.2.1.map (J Z)))
def zaT (a b d:Int) (Dn:Nat->Int) (dl:Nat) (al:List (List Int)) (V L R:Nat->Int) (pl:Nat):RW:=⟨zW a b,d,dnTo Dn dl,al,xK V L R pl (zW a b),M.depTo V L (zW a b) pl⟩
def rt0:RT:=⟨⟨0,false⟩,[],86400,0⟩
def ruF (a b d:Int) (Dn:Nat->Int) (dl:Nat) (al:List (List Int)) (V L R:Nat->Int) (pl:Nat) (C:List Int) (fuel:Int):Int×(List Int×Int×Int) :=
 if fuel<0 then (9,[],0,0) else if ZU a b d V L R pl=true then xG (zaT a b d Dn dl al V L R pl) C fuel.toNat rt0 else (9,[],0,0)
theorem CS.wide {w:World} {base base':Nat} {co:Option Addr} {cb coff:Nat} {C:List Int} (h:CS w base co cb coff C) (hb:base<=base'):CS w base' co cb coff C:=⟨h.at_,fun h0=>by have:=h.lt h0;omega,h.val,h.byt⟩
def WD.ru (x:WD) (C:List Int) (fuel:Int):Int×(List Int×Int×Int):=ruF x.a x.b x.d x.Dn x.dl x.al x.V x.L x.R x.pl C fuel
def WD.right (x:WD):Bool:=ZU x.a x.b x.d x.V x.L x.R x.pl
def WD.rw (x:WD):RW:=zaT x.a x.b x.d x.Dn x.dl x.al x.V x.L x.R x.pl
end Go.Proofs.YtaebngpoagjafabGreat
