import Derived.Test.YtaebngpoagjafabGreatV33
set_option maxRecDepth 100000
set_option maxHeartbeats 1600000
namespace Go.Proofs.YtaebngpoagjafabGreat
open Obj renaming cells → U
open Value renaming int → J, slice → O
open IntKind renaming i64 → Z
open Go.RowKit
attribute [local go_sem ↓] Go.wp_at_zero Go.wp_at_succ
def ZD (a n:Int):Int:=a-a%M.p2 (32-n).toNat
theorem Jh {a n:Int} (a0:0<=a) (a1:a<4294967296):0<=ZD a n/\ZD a n<4294967296:=by
 have hp:=M.p2_pos (32-n).toNat
 have h1:=Int.emod_nonneg a (b:=M.p2 (32-n).toNat) (by omega)
 have h3:=Int.emod_add_mul_ediv a (M.p2 (32-n).toNat)
 have h4:0<=M.p2 (32-n).toNat*(a / M.p2 (32-n).toNat):=Int.mul_nonneg (by omega) (Int.ediv_nonneg a0 (by omega))
 unfold ZD
 omega
theorem M.known (v n:Int) (hA:M.isA v=true):wrap64 (v / 2 ^ (32-n).toNat*2 ^ (32-n).toNat)=ZD v n:=by
 obtain ⟨v0,v1⟩:=M.isA_iff.1 hA
 rw [<- M.p2_eq]
 unfold ZD
 have hp:=M.p2_pos (32-n).toNat
 generalize M.p2 (32-n).toNat=m at *
 have e:=Int.emod_add_mul_ediv v m
 have e2:=Int.mul_comm (v / m) m
 have a0:=Int.emod_nonneg v (b:=m) (by omega)
 have a1:0<=v / m:=Int.ediv_nonneg v0 (by omega)
 have a2:0<=m*(v / m):=Int.mul_nonneg (by omega) a1
 rw [M.wrap64_in _ (by omega)]
 omega
def Zm (a b d:Int):Bool:=M.isA a && (decide (0<=b) && (decide (b<=32) && (decide (0<=d) && decide (d<4294967296))))
theorem zax (a n:Int) (w:World) (hA:M.isA a=true) (n0:0<=n) (n1:n<=32) :
 Calls Tryz.prog 103 #[J Z a,J Z n] w fun e w'=>e=.returned (J Z (ZD a n))/\w'=w:=by
 have hk:=M.known a n hA
 have HK:Hid _:=hk
 obtain ⟨v0,v1⟩:=M.isA_iff.1 hA
 clear hk
 go_enter Tryz.func103,Tryz.ntmps103
 go_wp2_with fail
 go_ret
 exact ⟨by rw [<- HK.out];rfl,rfl⟩
theorem Yz (a b d:Int) (w:World) :
 Calls Tryz.prog 27 #[J Z a,J Z b,J Z d] w fun e w'=>e=.returned (.bool (Zm a b d))/\w'=w:=by
 have HE:Hid (Zm a b d=(M.isA a && (decide (0<=b) && (decide (b<=32) && (decide (0<=d) && decide (d<4294967296)))))):=rfl
 go_enter Tryz.func27,Tryz.ntmps27
 go_wp2_with fail
 refine (YY a _).mono ?_
 rintro e w' ⟨rfl,hw'⟩
 subst w'
 generalize M.isA a=q at *
 cases q with
 | false =>
  go_wp2_with fail
  go_ret
  exact ⟨by rw [HE.out];rfl,rfl⟩
 | true =>
  by_cases h1:0<=b
  ·by_cases h2:b<=32
   ·by_cases h3:0<=d
    ·by_cases h4:d<4294967296
     ·have HE2:Hid (Zm a b d=true):=by show _=_;rw [HE.out];simp [h1,h2,h3,h4]
      go_wp2_with fail
      go_ret
      exact ⟨by rw [HE2.out];rfl,rfl⟩
     ·have HE2:Hid (Zm a b d=false):=by show _=_;rw [HE.out];simp [h4]
      have h4':decide (d<4294967296)=false:=decide_eq_false h4
      go_wp2_with fail
      go_ret
      exact ⟨by rw [HE2.out];rfl,rfl⟩
    ·have HE2:Hid (Zm a b d=false):=by show _=_;rw [HE.out];simp [h3]
     have h3':decide (0<=d)=false:=decide_eq_false h3
     go_wp2_with fail
     go_ret
     exact ⟨by rw [HE2.out];rfl,rfl⟩
   ·have HE2:Hid (Zm a b d=false):=by show _=_;rw [HE.out];simp [h2]
    have h2':decide (b<=32)=false:=decide_eq_false h2
    go_wp2_with fail
    go_ret
    exact ⟨by rw [HE2.out];rfl,rfl⟩
  ·have HE2:Hid (Zm a b d=false):=by show _=_;rw [HE.out];simp [h1]
   have h1':decide (0<=b)=false:=decide_eq_false h1
   go_wp2_with fail
   go_ret
   exact ⟨by rw [HE2.out];rfl,rfl⟩
theorem YV (ao:Option Addr) (b off n c:Nat) (V L R:Nat->Int) (w:World) (hn:n<=64) (hs:TS w ao b off n V L R) :
 Calls Tryz.prog 85 #[O ao n c] w fun e w'=>(∃ v,e=.returned v/\w'.ownsRow w.heap.size 94 2 v n (pc V L n))/\Below w.heap.size w w':=by
 obtain ⟨i0,hi0,hz0,hz1,hz2⟩:=info_parts Tryz.infoPrefix
 have HS:Hid _:=hs
 clear hs
 go_enter Tryz.func85,Tryz.ntmps85
 go_wp2_with fail
 go_loopg [3,9] n (fun q v y wr=>∃ k:Nat,q+k=n/\y=J Z k/\wr.ownsRow w.heap.size 94 2 v k (pc V L k)/\Below w.heap.size w wr)
 case atStart=>exact ⟨0,by omega,rfl,⟨rfl,.inr ⟨w.heap.size,0,#[],rfl,Nat.le_refl _,zy _ rfl,Nat.le_refl _,by decide,rfl,rfl⟩⟩,(Below.refl _ _).alloc (Nat.le_refl _) _⟩
 case round =>
  obtain ⟨k,hq,rfl,hown,hb⟩:=hrel
  have HR:Hid (wr.ownsRow w.heap.size 94 2 u3 k (pc V L k)):=hown
  have HB:Hid (Below w.heap.size w wr):=hb
  clear hown hb
  by_cases hlt:k<n
  ·obtain rfl:=HS.out.at_ (by omega)
   have hps:=HS.out.below HB.out
   have hv:=hps.val k hlt
   have hl:=hps.len k hlt
   have hr:=hps.reg k hlt
   have hbb:b<wr.heap.size:=hps.lt (by omega)
   have hsize:=HB.out.size
   have hlt':(k:Int)<(n:Int):=by omega
   have hk0:(0:Int)<=(k:Int):=by omega
   have HP:Hid (pc V L (k+1)=pc V L k++[J Z (V k),J Z (L k)]):=rfl
   clear hps
   generalize V k=v at *
   generalize L k=l at *
   generalize R k=rg at *
   have hA1:Hid (k+1<=maxLen):=by show _<=_;unfold maxLen;omega
   have hA2:Hid ((k+1)*16<=140737488355328):=by show _<=_;omega
   have hA3:Hid (w.heap.size<=((wr.alloc (U #[J Z v,J Z l,J Z rg] 96)).alloc (U #[J Z v,J Z l] 94)).heap.size):=by show _<=_;simp;omega
   have hone:Hid (∀ u∈[J Z v,J Z l],u.oneCell'=true):=fun u hu=>by simp at hu;rcases hu with rfl | rfl<;>rfl
   go_wp2_with (at_builtin;refine wpList_append_lies _ rfl _ _ 98 rfl w.heap.size 94 i0 _ 2 16 Tryz.underlying98 hi0 hz0 hz1 hz2 rfl (by decide) u3 _ _ rfl ((HR.out.alloc _).alloc _) ⟨wr.heap.size+1,0,none⟩ 1 1 [J Z v,J Z l] rfl rfl (World.news_of_block (cs:=#[J Z v,J Z l]) (t:=94) (fr:=(0,0)) (zy _ (by simp))) hone.out (Nat.lt_succ_self 0) hA1.out hA2.out hA3.out (wr.heap.size+2) (by simp) ?_;intro g cap w4 hown hgrow hat hlt4)
   have HB4:Hid (Below w.heap.size w w4):=((HB.out.alloc HB.out.size _).alloc (by simp;omega) _).grown hgrow hA3.out (fun q hq=>(HR.out.lt q hq).1)
   have HR4:Hid (w4.ownsRow w.heap.size 94 2 (O (some ⟨g,0,none⟩) (k+1) cap) (k+1) (pc V L (k+1))):=by show World.ownsRow _ _ _ _ _ _ _;rw [HP.out];exact hown
   clear hown hgrow hat
   go_roundg (gk-1)
   case measure=>omega
   case rel=>exact ⟨k+1,by omega,by go_num,HR4.out,HB4.out⟩
  ·have hkn:k=n:=by omega
   subst hkn
   have hlt':¬ (k:Int)<(k:Int):=by omega
   go_wp2_with fail
   go_ret
   exact ⟨⟨_,rfl,HR.out⟩,HB.out⟩
def Zd (V L R:Nat->Int) (n:Nat):Bool:=yZ R n && M.isMap V L n
theorem qV {V L R:Nat->Int} {n:Nat} (h:Zd V L R n=true):n<=64/\yZ R n=true/\M.isMap V L n=true:=by
 simp only [Zd,Bool.and_eq_true] at h
 have h2:=h.2
 simp only [M.isMap,Bool.and_eq_true,decide_eq_true_eq] at h2
 exact ⟨h2.1,h.1,h.2⟩
theorem ZY (ao:Option Addr) (b off n c:Nat) (V L R:Nat->Int) (w:World) (hs:TS w ao b off n V L R) :
 Calls Tryz.prog 43 #[O ao n c] w fun e w'=>e=.returned (.bool (Zd V L R n))/\Below w.heap.size w w':=by
 have HS:Hid _:=hs
 clear hs
 by_cases h64:64<n
 ·have HE:Hid (Zd V L R n=false):=by show _=_;unfold Zd M.isMap;simp;omega
  have h64':(64:Int)<(n:Int):=by omega
  go_enter Tryz.func43,Tryz.ntmps43
  go_wp2_with fail
  go_ret
  exact ⟨by rw [HE.out];rfl,Below.refl _ _⟩
 ·have h64':(n:Int)<=64:=by omega
  go_enter Tryz.func43,Tryz.ntmps43
  go_wp2_with fail
  go_loopg [10] n (fun q y wr=>∃ k:Nat,q+k=n/\y=J Z k/\Hid (yZ R k=true)/\Below w.heap.size w wr)
  case atStart=>exact ⟨0,by omega,rfl,rfl,Below.refl _ _⟩
  case round =>
   obtain ⟨k,hq,rfl,HF,hb⟩:=hrel
   have HB:Hid _:=hb
   clear hb
   by_cases hlt:k<n
   ·obtain rfl:=HS.out.at_ (by omega)
    have hps:=HS.out.below HB.out
    have hv:=hps.val k hlt
    have hl:=hps.len k hlt
    have hr:=hps.reg k hlt
    have hbb:b<wr.heap.size:=hps.lt (by omega)
    have hsize:=HB.out.size
    have hlt':(k:Int)<(n:Int):=by omega
    have hk0:(0:Int)<=(k:Int):=by omega
    clear hps
    have HB2:Hid (∀ o,Below w.heap.size w (wr.alloc o)):=fun o=>HB.out.alloc HB.out.size o
    have HBAD:Hid (¬ (0<=R k/\R k<=99)->Zd V L R n=false):=fun h=>by unfold Zd;rw [xY hlt h];rfl
    have HOK:Hid (0<=R k/\R k<=99->yZ R (k+1)=true):=fun h=>by simp only [yZ];rw [HF.out];simp [h.1,h.2]
    generalize V k=v at *
    generalize L k=l at *
    generalize R k=rg at *
    by_cases h1:rg<0
    ·have HE:=HBAD.out (by omega)
     have HE2:Hid _:=HE
     clear HE
     go_wp2_with fail
     go_ret
     exact ⟨by rw [HE2.out];rfl,HB2.out _⟩
    ·by_cases h2:99<rg
     ·have HE:=HBAD.out (by omega)
      have HE2:Hid _:=HE
      clear HE
      go_wp2_with fail
      go_ret
      exact ⟨by rw [HE2.out];rfl,HB2.out _⟩
     ·have HF2:Hid (yZ R (k+1)=true):=HOK.out (by omega)
      have h1':0<=rg:=by omega
      have h2':rg<=99:=by omega
      clear h1 h2
      go_wp2_with fail
      go_roundg (gk-1)
      case measure=>omega
      case rel=>exact ⟨k+1,by omega,by go_num,HF2,HB2.out _⟩
   ·have hkn:k=n:=by omega
    subst hkn
    have hlt':¬ (k:Int)<(k:Int):=by omega
    go_wp2_with fail
    refine (YV _ b off k _ V L R _ (by omega) (HS.out.below HB.out)).mono ?_
    rintro e w2 ⟨⟨v,rfl,hrow⟩,hb2⟩
    obtain ⟨po,pb,pc',hv,hpc,_,hps⟩:=Y3 hrow
    subst hv
    have HPS:Hid _:=hps
    have HB2:Hid _:=HB.out.trans (hb2.mono HB.out.size)
    clear hrow hb2 hps
    go_wp2_with fail
    refine (jU _ pb _ _ V L _ (by omega) hpc HPS.out).mono ?_
    rintro e w3 ⟨rfl,hb3⟩
    have HB3:Hid _:=HB2.out.trans (hb3.mono HB2.out.size)
    have HE:Hid (Zd V L R k=M.isMap V L k):=by show _=_;unfold Zd;rw [HF.out];rfl
    clear hb3
    go_wp2_with fail
    go_ret
    exact ⟨by rw [HE.out];rfl,HB3.out⟩
def YX (V L R:Nat->Int) (n:Nat) (a:Int):Int:=if M.bestTo V L a n<0 then -1 else R (M.bestTo V L a n).toNat
theorem jS (ao:Option Addr) (b off n c:Nat) (V L R:Nat->Int) (a:Int) (w:World) (a0:0<=a) (a1:a<4294967296) (hp:Zd V L R n=true) (hs:TS w ao b off n V L R) :
 Calls Tryz.prog 104 #[O ao n c,J Z a] w fun e w'=>e=.returned (.tuple #[J Z (YX V L R n a),J Z (M.depTo V L a n)])/\Below w.heap.size w w':=by
 have HS:Hid _:=hs
 obtain ⟨h64,hr,hm⟩:=qV hp
 have HP:Hid (∀ i,i<n->M.isP (V i) (L i)=true):=fun i hi=>by
  have:n<=64/\M.okTo V L n=true:=by simpa [M.isMap] using hm
  exact (M.okTo_iff.1 this.2 i hi).1
 clear hs hp hr hm
 go_enter Tryz.func104,Tryz.ntmps104
 go_wp2_with fail
 refine (YV _ b off n _ V L R _ h64 HS.out).mono ?_
 rintro e w2 ⟨⟨v,rfl,hrow⟩,hb2⟩
 obtain ⟨po,pb,pc',hv,hpc,_,hps⟩:=Y3 hrow
 subst hv
 have HPS:Hid _:=hps
 have HB2:Hid _:=hb2
 clear hrow hb2 hps
 go_wp2_with fail
 refine (Q6 _ pb _ _ V L _ _ a0 a1 h64 HPS.out HP.out).mono ?_
 rintro e w3 ⟨rfl,hb3⟩
 have HB3:Hid _:=HB2.out.trans (hb3.mono HB2.out.size)
 have HS3:Hid _:=HS.out.below HB3.out
 clear hb3
 have hbl:=Qh (V:=V) (L:=L) (a:=a) n
 have HE:Hid (YX V L R n a=if M.bestTo V L a n<0 then -1 else R (M.bestTo V L a n).toNat):=rfl
 generalize M.bestTo V L a n=best at *
 generalize hdp:M.depTo V L a n=dep at *
 have HDP:Hid _:=hdp
 clear hdp
 by_cases h0:best<0
 ·have HE2:Hid (YX V L R n a=-1):=by show _=_;rw [HE.out,if_pos h0]
  go_wp2_with fail
  go_ret2
  exact ⟨by rw [HE2.out,HDP.out];rfl,HB3.out⟩
 ·obtain ⟨k,rfl⟩:∃ k:Nat,best=k:=⟨best.toNat,by omega⟩
  have HE2:Hid (YX V L R n a=R k):=by show _=_;rw [HE.out,if_neg h0,Int.toNat_natCast]
  have hkn:k<n:=by omega
  obtain rfl:=HS3.out.at_ (by omega)
  have hrc:=HS3.out.reg k hkn
  have h1:(0:Int)<=(k:Int):=by omega
  have h2:¬ (n:Int)<=(k:Int):=by omega
  clear h0
  go_wp2_with fail
  go_ret2
  exact ⟨by rw [HE2.out,HDP.out];rfl,HB3.out⟩
def ZV (a b d:Int) (V L R:Nat->Int) (n:Nat):Bool:=Zm a b d && Zd V L R n
theorem Q8 (a b d:Int) (do_ ao po:Option Addr) (dl dc al ac pl pcp pb poff:Nat) (V L R:Nat->Int) (w:World) (hs:TS w po pb poff pl V L R) :
 Calls Tryz.prog 56 #[.agg #[J Z a,J Z b,J Z d,O do_ dl dc,O ao al ac,O po pl pcp]] w fun e w'=>e=.returned (.bool (ZV a b d V L R pl))/\Below w.heap.size w w':=by
 have HS:Hid _:=hs
 have HB0:Hid (Below w.heap.size w (w.alloc (U #[J Z a,J Z b,J Z d,O do_ dl dc,O ao al ac,O po pl pcp] 31))):=(Below.refl _ _).alloc (Nat.le_refl _) _
 clear hs
 have HE:Hid (ZV a b d V L R pl=(Zm a b d && Zd V L R pl)):=rfl
 go_enter Tryz.func56,Tryz.ntmps56
 go_wp2_with fail
 refine (Yz a b d _).mono ?_
 rintro e w' ⟨rfl,hw'⟩
 subst w'
 generalize Zm a b d=q at *
 cases q with
 | false =>
  go_wp2_with fail
  go_ret
  exact ⟨by rw [HE.out];rfl,HB0.out⟩
 | true =>
  go_wp2_with fail
  refine (ZY _ pb poff pl _ V L R _ (HS.out.below HB0.out)).mono ?_
  rintro e w2 ⟨rfl,hb2⟩
  have HB2:Hid _:=HB0.out.trans (hb2.mono HB0.out.size)
  clear hb2
  go_wp2_with fail
  go_ret
  exact ⟨by rw [HE.out];rfl,HB2.out⟩
def zaB (D:Nat->Int) (s:Int):Nat->Bool
 | 0=>true
 | n+1=>zaB D s n && !(D n==s)
def dnTo (Dn:Nat->Int) (k i:Nat):Bool:=!zaB Dn (i:Int) k
def DA (Dn:Nat->Int) (k:Nat):Array Value:=Array.ofFn (fun i:Fin 64=>Value.bool (dnTo Dn k i.val))
theorem yL (Dn:Nat->Int) (k:Nat):(DA Dn k).size=64:=by simp [DA]
theorem Q9 (Dn:Nat->Int) (k i:Nat) (h:i<64):(DA Dn k)[i]?=some (.bool (dnTo Dn k i)):=by
 unfold DA
 rw [Array.getElem?_ofFn]
 simp [h]
theorem zb5 {Dn:Nat->Int} {k:Nat} (h:Dn k<0\/64<=Dn k):DA Dn (k+1)=DA Dn k:=by
 unfold DA
 congr 1
 funext i
 unfold dnTo
 simp only [zaB]
 have:(Dn k==(i.val:Int))=false:=by
  have:=i.isLt
  simp;omega
 rw [this];simp
theorem zd5 {Dn:Nat->Int} {k n:Nat} (h:Dn k=n) (hn:n<64):DA Dn (k+1)=(DA Dn k).setIfInBounds n (.bool true):=by
 apply Array.ext_getElem?
 intro i
 rw [Array.getElem?_setIfInBounds]
 by_cases hi:i<64
 ·rw [Q9 Dn (k+1) i hi]
  by_cases hni:n=i
  ·subst hni
   rw [if_pos rfl,if_pos (by rw [yL];exact hn)]
   unfold dnTo
   simp only [zaB,h]
   simp
  ·rw [if_neg hni,Q9 Dn k i hi]
   unfold dnTo
   simp only [zaB,h]
   have:((n:Int)==(i:Int))=false:=by simp;omega
   rw [this];simp
 ·rw [Array.getElem?_eq_none (by rw [yL];omega),if_neg (by omega),Array.getElem?_eq_none (by rw [yL];omega)]
theorem JG {a b c d e:Value} {D:Array Value} {f g h i j k u:Value} {n:Nat} (hD:D.size=64) (hn:n<64):(yx a b c d e D f g h i j k).setIfInBounds (5+n) u=yx a b c d e (D.setIfInBounds n u) f g h i j k:=by
 unfold yx
 rw [yq (by simp;omega),Zt (by simp)]
 simp
theorem JJ {a b c d e:Value} {D:Array Value} {f g h i j k u:Value}:(yx a b c d e D f g h i j k).setIfInBounds 0 u=yx u b c d e D f g h i j k:=by
 unfold yx
 rw [yq (by simp;omega),yq (by simp)];rfl
theorem Js {P:Program} {w:World} {g:Nat} {c:Array Value} {t:TypeId} {vs:List Value} (h:w.heap[g]?=some (U c t (0,0))) (hn:vs.length=c.size) (h1:∀ v∈vs,v.oneCell'=true):(storeCells ⟨g,0,none⟩ vs).run P w=.ok () (w.setRow g vs.toArray):=by
 have:=run_storeCells_from (P:=P) g t vs 0 c w h (by omega) h1
 simpa using this
theorem Xj {P:Program} (w:World) {ops:Array Oper} {rest:List Oper} {o:Oper} {a:Act} {Q:Exit->Act->World->Prop} (hgd:o.guard=none) (p:Operand) (t:TypeId) (ho:o.op=.load t p) (g:Nat) (c:Array Value) (te:TypeId) (fr:Nat×Nat) (d:TypeDesc) (hp:a.eval p=.pointer (some ⟨g,0,none⟩)) (hg:w.heap[g]?=some (U c te fr)) (hu:P.underlying t=some d) (hd:(match d with | .struct _ | .array _ _=>true | _=>false)=true) (hi:(P.info? t).map (·.size)=some c.size)
 (h:wpList P ops Q rest (a.put o.dst (.agg c)) w):wpList P ops Q (o::rest) a w:=by
 refine wpList_plain hgd fun K hK=>?_
 have hr:(Instr.loadAt t (.pointer (some ⟨g,0,none⟩))).run P w=.ok (.agg c) w:=by
  simp only [Instr.loadAt,Instr.sureAddr,Sem.run_bind,Sem.run_pure,Result.andThen]
  exact run_loadVar_row w g te t c fr d hg hu hd hi
 unfold Oper.wp execOp
 simp only [ho,hp,Sem.run_bind,hr,Result.andThen_ok]
 exact hK _ _ h
theorem qR {fn:Func} {p:Tmp} {ty:TypeId} (h:fn.results=#[.cell p ty]) (tmps:Array Value) (P:Program) (w:World) (a:Addr) (v:Value) (ha:tmps.getD p undef=.pointer (some a)) (hv:(loadVar ty a).run P w=.ok v w):(results fn tmps).run P w=.ok v w:=by
 have ha2:(asAddr (tmps[p]?.getD undef)).run P w=.ok a w:=by
  have e:tmps[p]?.getD undef=tmps.getD p undef:=by simp
  rw [e,ha];rfl
 simp only [results,h]
 simp [Sem.run_bind,Result.andThen]
 rw [ha2]
 exact hv
theorem JE {w:World} {g:Nat} {c c':Array Value} {t:TypeId} {fr:Nat×Nat} (h:w.heap[g]?=some (U c t fr)):(w.setRow g c').heap[g]?=some (U c' t fr):=by
 simp [World.setRow,Array.getElem?_modify,h]
theorem JD {w:World} {g b:Nat} {c':Array Value} (h:b≠g):(w.setRow g c').heap[b]?=w.heap[b]?:=by
 simp only [World.setRow,Array.getElem?_modify]
 rw [if_neg (by omega)]
theorem Qs {w:World} {g:Nat} {c':Array Value}:(w.setRow g c').heap.size=w.heap.size:=by simp [World.setRow]
theorem qP {B:Nat} {w0 w:World} {g:Nat} {c':Array Value} (h:Below B w0 w) (hg:B<=g):Below B w0 (w.setRow g c'):=h.trans ⟨rfl,rfl,rfl,by rw [Qs];exact Nat.le_refl _,fun k hk=>JD (by omega)⟩
theorem XN {a b c d e:Value} {D:Array Value} {f g h i j k:Value} (ha:a.oneCell'=true) (hb:b.oneCell'=true) (hc:c.oneCell'=true) (hd:d.oneCell'=true) (he:e.oneCell'=true) (hD:∀ v∈D.toList,v.oneCell'=true) (hf:f.oneCell'=true) (hg:g.oneCell'=true) (hh:h.oneCell'=true) (hi:i.oneCell'=true) (hj:j.oneCell'=true) (hk:k.oneCell'=true):∀ v∈(yx a b c d e D f g h i j k).toList,v.oneCell'=true:=by
 intro v hv
 unfold yx at hv
 simp only [Array.toList_append,List.mem_append] at hv
 rcases hv with (hv | hv) | hv
 ·simp at hv;rcases hv with rfl | rfl | rfl | rfl | rfl<;>assumption
 ·exact hD v hv
 ·simp at hv;rcases hv with rfl | rfl | rfl | rfl | rfl | rfl<;>assumption
theorem jr (Dn:Nat->Int) (k:Nat):∀ v∈(DA Dn k).toList,v.oneCell'=true:=by
 intro v hv
 obtain ⟨i,hi⟩:=List.getElem?_of_mem hv
 rw [Array.getElem?_toList] at hi
 have hlt:i<64:=by
  have:=(Array.getElem?_eq_some_iff.1 hi).1
  rwa [yL] at this
 rw [Q9 Dn k i hlt] at hi
 cases hi
 rfl
theorem zb8 (a d r p:Int) (ao:Option Addr) (al ac:Nat):((((Tryz.zeroCells118.toList.set 3 (J Z a)).set 4 (J Z d)).set 69 (O ao al ac)).set 70 (J Z r)).set 71 (J Z p)=(yx (O none 0 0) (J Z 0) (.bool false) (J Z a) (J Z d) (DA (fun _=>0) 0) (O ao al ac) (J Z r) (J Z p) (O none 0 0) (J Z 0) (J Z 0)).toList:=by kernel_rfl
theorem zc6 (Dn:Nat->Int):DA (fun _=>0) 0=DA Dn 0:=rfl
def Yn (co:Option Addr) (cl cc:Nat) (a b d:Int) (Dn:Nat->Int) (k:Nat) (ao:Option Addr) (al ac:Nat) (V L R:Nat->Int) (pl:Nat):Array Value :=
 yx (O co cl cc) (J Z 0) (.bool false) (J Z (ZD a b)) (J Z d) (DA Dn k) (O ao al ac) (J Z (YX V L R pl (ZD a b))) (J Z (M.depTo V L (ZD a b) pl)) (O none 0 0) (J Z 86400) (J Z 0)
theorem zaq (a b d:Int) (do_ ao po:Option Addr) (dl dc al ac pl pcp pb poff db doff:Nat) (Dn:Nat->Int) (V L R:Nat->Int) (co:Option Addr) (cl cc:Nat) (w:World) (hA:M.isA a=true) (b0:0<=b) (b1:b<=32) (hdl:dl<=9223372036854775806) (hp:Zd V L R pl=true) (hs:TS w po pb poff pl V L R) (hd:IS w do_ db doff dl Dn) :
 Calls Tryz.prog 57 #[O co cl cc,.agg #[J Z a,J Z b,J Z d,O do_ dl dc,O ao al ac,O po pl pcp]] w fun e w'=>e=.returned (.agg (Yn co cl cc a b d Dn dl ao al ac V L R pl))/\Below w.heap.size w w':=by
 have HS:Hid _:=hs
 have HD:Hid _:=hd
 obtain ⟨k0,k1⟩:=Jh (n:=b) (M.isA_iff.1 hA).1 (M.isA_iff.1 hA).2
 clear hs hd
 go_enter Tryz.func57,Tryz.ntmps57
 go_wp2_with fail
 refine (zax a b _ hA b0 b1).mono ?_
 rintro e w' ⟨rfl,hw'⟩
 subst w'
 have HB0:Hid (Below w.heap.size w ((w.alloc (U #[J Z a,J Z b,J Z d,O do_ dl dc,O ao al ac,O po pl pcp] 31)).alloc (U Tryz.zeroCells118 118))):=((Below.refl _ _).alloc (Nat.le_refl _) _).alloc (by simp) _
 go_wp2_with fail
 refine (jS _ pb poff pl _ V L R _ _ k0 k1 hp (HS.out.below HB0.out)).mono ?_
 rintro e w1 ⟨rfl,hb1⟩
 have HB1:Hid _:=HB0.out.trans (hb1.mono HB0.out.size)
 have hx:w1.heap[w.heap.size]?=some (U #[J Z a,J Z b,J Z d,O do_ dl dc,O ao al ac,O po pl pcp] 31 (0,0)):=by
  rw [hb1.block _ (by simp;omega),Below.heap_alloc _ _ _ (by simp)];exact heap_alloc_new w _
 have HY:Hid (w1.heap[w.heap.size+1]?=some (U Tryz.zeroCells118 118 (0,0))):=by
  show _=_
  rw [hb1.block _ (by simp)];exact zy _ (by simp)
 have hlt1:w.heap.size+1<w1.heap.size:=lt_of_block HY.out
 have hlt0:w.heap.size<w1.heap.size:=by omega
 have x2:w1.cell? ⟨w.heap.size,2,none⟩=some (J Z d):=by simp [World.cell?,hx]
 have x4:w1.cell? ⟨w.heap.size,4,none⟩=some (O ao al ac):=by simp [World.cell?,hx]
 have HBC:Hid (∀ k,Yn co cl cc a b d Dn k ao al ac V L R pl=yx (O co cl cc) (J Z 0) (.bool false) (J Z (ZD a b)) (J Z d) (DA Dn k) (O ao al ac) (J Z (YX V L R pl (ZD a b))) (J Z (M.depTo V L (ZD a b) pl)) (O none 0 0) (J Z 86400) (J Z 0)):=fun _=>rfl
 obtain ⟨X,HXE⟩:∃ X,Hid (X=w1.alloc (U (yx (O none 0 0) (J Z 0) (.bool false) (J Z (ZD a b)) (J Z d) (DA Dn 0) (O ao al ac) (J Z (YX V L R pl (ZD a b))) (J Z (M.depTo V L (ZD a b) pl)) (O none 0 0) (J Z 0) (J Z 0)) 118)):=⟨_,rfl⟩
 have hst:(storeCells ⟨w1.heap.size,0,none⟩ (((((Tryz.zeroCells118.toList.set 3 (J Z (ZD a b))).set 4 (J Z d)).set 69 (O ao al ac)).set 70 (J Z (YX V L R pl (ZD a b)))).set 71 (J Z (M.depTo V L (ZD a b) pl)))).run Tryz.prog (w1.alloc (U Tryz.zeroCells118 118))=.ok () X:=by
  rw [HXE.out,zb8,zc6 Dn]
  exact run_storeCells_new (P:=Tryz.prog) w1 118 Tryz.zeroCells118 _ (by rw [YF (yL _ _)];kernel_rfl) (by rw [YF (yL _ _)];rfl) (by
   rw [Array.all_eq_true_iff_forall_mem]
   intro v hv
   exact XN rfl rfl rfl rfl rfl (jr _ _) rfl rfl rfl rfl rfl rfl v (by simpa using hv))
 have HXB:Hid (X.heap[w1.heap.size]?=some (U (yx (O none 0 0) (J Z 0) (.bool false) (J Z (ZD a b)) (J Z d) (DA Dn 0) (O ao al ac) (J Z (YX V L R pl (ZD a b))) (J Z (M.depTo V L (ZD a b) pl)) (O none 0 0) (J Z 0) (J Z 0)) 118 (0,0))):=by show _=_;rw [HXE.out];exact heap_alloc_new _ _
 have HXK:Hid (∀ k,k<w1.heap.size->X.heap[k]?=w1.heap[k]?):=fun k hk=>by rw [HXE.out];exact Below.heap_alloc _ _ _ hk
 have HXL:Hid (Below w.heap.size w X):=by show Below _ _ _;rw [HXE.out];exact HB1.out.alloc HB1.out.size _
 have g0:X.cell? ⟨w1.heap.size,0,none⟩=some (O none 0 0):=by rw [cell_of_row _ _ _ _ _ _ HXB.out,YG (by decide)];rfl
 have f0:X.frozen? ⟨w1.heap.size,0,none⟩=false:=by simp [World.frozen?,HXB.out]
 have g73:X.cell? ⟨w1.heap.size,73,none⟩=some (J Z 0):=by rw [cell_of_row _ _ 73 _ _ _ HXB.out];exact j3 (yL _ _) 4
 have f73:X.frozen? ⟨w1.heap.size,73,none⟩=false:=by simp [World.frozen?,HXB.out]
 have x3:X.cell? ⟨w.heap.size,3,none⟩=some (O do_ dl dc):=by rw [World.cell?_of_block (HXK.out _ hlt0)];simp [World.cell?,hx]
 clear hb1 hx
 go_wp2_with fail
 have HB2:Hid (((X.setCell ⟨w1.heap.size,0,none⟩ (O co cl cc)).setCell ⟨w1.heap.size,73,none⟩ (J Z 86400)).heap[w1.heap.size]?=some (U (Yn co cl cc a b d Dn 0 ao al ac V L R pl) 118 (0,0))):=by
  show _=_
  rw [zM (zM HXB.out),JJ,XF (yL _ _)];rfl
 have HL2:Hid (Below w.heap.size w ((X.setCell ⟨w1.heap.size,0,none⟩ (O co cl cc)).setCell ⟨w1.heap.size,73,none⟩ (J Z 86400))):=(HXL.out.setCell (by simp only;omega) _).setCell (by simp only;omega) _
 have HK2:Hid (((X.setCell ⟨w1.heap.size,0,none⟩ (O co cl cc)).setCell ⟨w1.heap.size,73,none⟩ (J Z 86400)).heap[w.heap.size+1]?=some (U Tryz.zeroCells118 118 (0,0))):=by
  show _=_
  rw [za (by omega),za (by omega),HXK.out _ hlt1];exact HY.out
 clear g0 f0 g73 f73 x2 x3 x4 hst
 generalize (X.setCell ⟨w1.heap.size,0,none⟩ (O co cl cc)).setCell ⟨w1.heap.size,73,none⟩ (J Z 86400)=w2 at *
 go_loopg [39] dl (fun q y wr=>∃ k:Nat,q+k=dl/\y=J Z k/\wr.heap[w1.heap.size]?=some (U (Yn co cl cc a b d Dn k ao al ac V L R pl) 118 (0,0))/\wr.heap[w.heap.size+1]?=some (U Tryz.zeroCells118 118 (0,0))/\Below w.heap.size w wr)
 case atStart=>exact ⟨0,by omega,rfl,HB2.out,HK2.out,HL2.out⟩
 case round =>
  obtain ⟨k,hq,rfl,hbk,hyk,hbl⟩:=hrel
  have HBK:Hid _:=hbk
  have HYK:Hid _:=hyk
  have HBL:Hid _:=hbl
  clear hbk hyk hbl
  by_cases hlt:k<dl
  ·have hlt':(k:Int)<(dl:Int):=by omega
   have hk0:(0:Int)<=(k:Int):=by omega
   obtain rfl:=HD.out.at_ (by omega)
   have hv:=(HD.out.below HBL.out (HD.out.lt)).val k hlt
   by_cases h1:0<=Dn k
   ·by_cases h2:Dn k<64
    ·obtain ⟨n,hn⟩:∃ n:Nat,Dn k=n:=⟨(Dn k).toNat,by omega⟩
     have HIN:Hid (Yn co cl cc a b d Dn (k+1) ao al ac V L R pl=(Yn co cl cc a b d Dn k ao al ac V L R pl).setIfInBounds (5+n) (.bool true)):=by
      show _=_
      rw [HBC.out,HBC.out,JG (yL _ _) (by omega),zd5 hn (by omega)]
     rw [hn] at hv h1 h2
     have hgc:wr.cell? ⟨w1.heap.size,5+n,none⟩=some (.bool (dnTo Dn k n)):=by rw [cell_of_row _ _ _ _ _ _ HBK.out,HBC.out,j4 (yL _ _) (by omega),Q9 _ _ _ (by omega)]
     have hgf:wr.frozen? ⟨w1.heap.size,5+n,none⟩=false:=by simp [World.frozen?,HBK.out]
     clear hn
     go_wp2_with fail
     go_roundg (gk-1)
     case measure=>omega
     case rel=>exact ⟨k+1,by omega,by go_num,by rw [HIN.out];exact zM HBK.out,by rw [za (by omega)];exact HYK.out,HBL.out.setCell (by simp only;omega) _⟩
    ·have HIN:Hid (Yn co cl cc a b d Dn (k+1) ao al ac V L R pl=Yn co cl cc a b d Dn k ao al ac V L R pl):=by show _=_;rw [HBC.out,HBC.out,zb5 (.inr (by omega))]
     have h2':decide (Dn k<64)=false:=decide_eq_false h2
     go_wp2_with fail
     go_roundg (gk-1)
     case measure=>omega
     case rel=>exact ⟨k+1,by omega,by go_num,by rw [HIN.out];exact HBK.out,HYK.out,HBL.out⟩
   ·have HIN:Hid (Yn co cl cc a b d Dn (k+1) ao al ac V L R pl=Yn co cl cc a b d Dn k ao al ac V L R pl):=by show _=_;rw [HBC.out,HBC.out,zb5 (.inl (by omega))]
    have h1':decide (0<=Dn k)=false:=decide_eq_false h1
    go_wp2_with fail
    go_roundg (gk-1)
    case measure=>omega
    case rel=>exact ⟨k+1,by omega,by go_num,by rw [HIN.out];exact HBK.out,HYK.out,HBL.out⟩
  ·have hkn:k=dl:=by omega
   subst hkn
   have hlt':¬ (k:Int)<(k:Int):=by omega
   have HSZ:Hid ((Yn co cl cc a b d Dn k ao al ac V L R pl).size=75):=by show _=_;rw [HBC.out];exact YF (yL _ _)
   have HSO:Hid ((storeCells ⟨w.heap.size+1,0,none⟩ (Yn co cl cc a b d Dn k ao al ac V L R pl).toList).run Tryz.prog wr=.ok () (wr.setRow (w.heap.size+1) (Yn co cl cc a b d Dn k ao al ac V L R pl).toList.toArray)):=Js (P:=Tryz.prog) (vs:=(Yn co cl cc a b d Dn k ao al ac V L R pl).toList) HYK.out (by rw [Array.length_toList,HSZ.out];rfl) (by rw [HBC.out];exact XN rfl rfl rfl rfl rfl (jr _ _) rfl rfl rfl rfl rfl rfl)
   obtain ⟨c,HC⟩:∃ c,Hid (Yn co cl cc a b d Dn k ao al ac V L R pl=c):=⟨_,rfl⟩
   rw [HC.out] at HSO HSZ HBK
   obtain ⟨X2,HX2⟩:∃ X2,Hid (X2=wr.setRow (w.heap.size+1) c.toList.toArray):=⟨_,rfl⟩
   have hso:=HSO.out
   rw [<- HX2.out] at hso
   have HLS:Hid (Below w.heap.size w X2):=by show Below _ _ _;rw [HX2.out];exact qP HBL.out (by omega)
   have HRB:Hid (X2.heap[w.heap.size+1]?=some (U c 118 (0,0))):=by show _=_;rw [HX2.out,JE HYK.out]
   have hin:(Tryz.prog.info? 118).map (·.size)=some c.size:=by rw [HSZ.out];kernel_rfl
   have HIN:Hid _:=hin
   clear hin
   go_wp2_with (refine Xj _ rfl (.tmp 8) 118 rfl w1.heap.size c 118 (0,0) _ rfl HBK.out Tryz.underlying118 rfl HIN.out ?_)
   exact bodyPost_ret (v:=.agg c) (qR Tryz.results57 _ _ _ ⟨w.heap.size+1,0,none⟩ _ rfl (run_loadVar_row X2 _ _ _ _ _ _ HRB.out Tryz.underlying118 rfl HIN.out)) rfl ⟨by rw [HC.out],HLS.out⟩
theorem zdp {C:List Int} {r:RD} (h:r.b=true):(nx C r).b=true:=by unfold nx;split<;>simp [h]
theorem zdo {C:List Int} {r:RD} (h:¬ r.p<C.length):(nx C r).b=true:=by unfold nx;rw [if_neg h]
theorem zaX {C:List Int} {r:RD} (h:r.b=true):∀ i,(Zc C r i).b=true:=by
 intro i
 induction i with
 | zero=>exact h
 | succ i ih=>exact zdp ih
theorem yr {C:List Int} {r:RD} {k:Nat} {lo hi:Int} (h:r.b=true):(num C r k lo hi).b=true:=by
 unfold num
 simp only
 split
 ·rfl
 ·exact zaX h k
theorem jX {C:List Int} {r:RD} (h:r.b=true):∀ i,(svR C r i).b=true:=by
 intro i
 induction i with
 | zero=>exact h
 | succ i ih=>exact yr ih
theorem zcz {C:List Int} {r:RD} (h:r.b=true):∀ i,(meR C r i).b=true:=by
 intro i
 induction i with
 | zero=>exact h
 | succ i ih=>exact yr (yr ih)
theorem zc2 {C:List Int} {r:RD} (h:r.b=true):∀ i,(amR C r i).b=true:=by
 intro i
 induction i with
 | zero=>exact h
 | succ i ih =>
  refine yr ?_
  unfold amL
  simp only
  split
  ·exact yr (yr ih)
  ·rfl
theorem zcp {C:List Int} {r:RD} (h:r.b=true):∀ i,(rgR C r i).b=true:=by
 intro i
 induction i with
 | zero=>exact h
 | succ i ih=>exact yr (yr ih)
theorem zch {W:RW} {C:List Int} {s:RT} (h:(zD W C s).1.r.b=false):s.r.p<C.length:=by
 refine Classical.byContradiction fun hn=>?_
 have hb:=zdo hn
 have key:(zD W C s).1.r.b=true:=by
  simp only [zD]
  repeat' split
  ·exact jX (yr hb) _
  ·unfold Zf
   repeat' split
   all_goals exact zcz (yr hb) _
  ·unfold yG
   split<;>exact jX (yr hb) _
  ·exact zc2 (yr hb) _
  ·exact zcp (yr hb) _
  ·exact yr hb
  ·exact yr hb
  ·rfl
 rw [h] at key
 cases key
theorem zdC {W:RW} {C:List Int} {r:RD}:∀ n i k,chG W C r i n=some k->k<i+n:=by
 intro n
 induction n with
 | zero=>intro i k h;simp [chG] at h
 | succ n ih =>
  intro i k h
  simp only [chG] at h
  split at h
  ·cases h;omega
  ·have:=ih (i+1) k h;omega
theorem zdi {W:RW} {C:List Int} {s:RT} (hC:∀ x∈C,0<=x/\x<256):(zD W C s).1.r.p<=s.r.p+70000:=by
 have hx:=zdn C s.r
 have hc:=Za C (nx C s.r) 1 1 16
 have hcn:(cnR C (nx C s.r)).p=(num C (nx C s.r) 1 1 16).p:=rfl
 obtain ⟨_,h255⟩:=Xa hC (nx C s.r)
 simp only [zD]
 repeat' split
 ·have:=Qp C (cnR C (nx C s.r)) (cnN C (nx C s.r));simp only [Zn];omega
 ·have:=zdb C (cnR C (nx C s.r)) (cnN C (nx C s.r))
  unfold Zf
  repeat' split
  all_goals (simp only;omega)
 ·unfold yG
  split
  ·rename_i i hi
   have h1:=zdC _ _ _ hi
   have:=Qp C (cnR C (nx C s.r)) (i+1)
   simp only at h1 ⊢;omega
  ·have:=Qp C (cnR C (nx C s.r)) (cnN C (nx C s.r));simp only;omega
 ·have h1:=zdf C (cnR C (nx C s.r)) (cnN C (nx C s.r))
  unfold yp
  simp only
  have h2:∀ k,(arW C (cnR C (nx C s.r)) k).toNat<=65535:=fun k=>by have:=xw hC (amL C (amR C (cnR C (nx C s.r)) k));unfold arW;omega
  split
  ·omega
  ·have:=h2 (M.bestTo (arV C (cnR C (nx C s.r))) (arL C (cnR C (nx C s.r))) W.addr (cnN C (nx C s.r))).toNat
   omega
 ·have h1:=zc8 C (cnR C (nx C s.r)) (cnN C (nx C s.r))
  have h2:=zaU (W:=W) hC (cnR C (nx C s.r)) (cnN C (nx C s.r))
  unfold yY
  simp only
  omega
 ·have:=Za C (nx C s.r) 3 1 86400;simp only [yy];omega
 ·have:=Za C (nx C s.r) 1 0 15;simp only [ZB];omega
 ·simp only;omega
theorem zcg {W:RW} {C:List Int} {s:RT} (h:(zD W C s).2=false):(zD W C s).1.sv=s.sv:=by
 revert h
 simp only [zD]
 repeat' split
 ·intro h;cases h
 ·unfold Zf
  repeat' split
  all_goals first | (intro h;cases h;done) | (intro _;rfl)
 ·unfold yG
  split
  all_goals first | (intro h;cases h;done) | (intro _;rfl)
 ·intro _;rfl
 ·intro _;rfl
 ·intro _;rfl
 ·intro h;cases h
 ·intro _;rfl
def xT (w:World) (R:Int×(List Int×Int×Int)) (r:Ending) (w':World):Prop:=Below w.heap.size w w'/\∃ o m k,r=.returned (.tuple #[.agg #[O o m k,J Z R.2.2.1,J Z R.2.2.2],J Z R.1])/\(R.1≠0->o=none/\m=0/\k=0)/\(R.1=0->m=R.2.1.length/\w'.ownsRow w.heap.size 3 1 (O o m k) R.2.1.length (R.2.1.map (J Z)))
def zcl (a b d:Int) (Dn:Nat->Int) (dl:Nat) (al:List (List Int)) (V L R:Nat->Int) (pl:Nat):RW:=⟨ZD a b,d,dnTo Dn dl,al,YX V L R pl (ZD a b),M.depTo V L (ZD a b) pl⟩
def rt0:RT:=⟨⟨0,false⟩,[],86400,0⟩
def ruF (a b d:Int) (Dn:Nat->Int) (dl:Nat) (al:List (List Int)) (V L R:Nat->Int) (pl:Nat) (C:List Int) (fuel:Int):Int×(List Int×Int×Int) :=
 if fuel<0 then (9,[],0,0) else if ZV a b d V L R pl=true then YU (zcl a b d Dn dl al V L R pl) C fuel.toNat rt0 else (9,[],0,0)
end Go.Proofs.YtaebngpoagjafabGreat
