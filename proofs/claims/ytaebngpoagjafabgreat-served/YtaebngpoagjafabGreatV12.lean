import Derived.Test.YtaebngpoagjafabGreatV11
set_option maxRecDepth 100000
set_option maxHeartbeats 1600000
namespace Go.Proofs.YtaebngpoagjafabGreat
open Obj renaming cells → O
open Value renaming int → J
open IntKind renaming i64 → Z
open Go.RowKit
attribute [local go_sem ↓] Go.wp_at_zero Go.wp_at_succ
def bit (c:Int):Bool:=c==48 || c==49
def btF (s:ByteArray) (b:Bool):Nat->Nat->Nat
 | 0,j=>j
 | n+1,j=>if bit (ze s j b)=true then btF s b n (j+1) else j
def bv (s:ByteArray) (p:Nat):Nat->Int
 | 0=>0
 | i+1=>bv s p i*2+(T.ch s (p+i)-48)
def btK (s:ByteArray) (k:Nat) (b:Bool):Nat:=btF s b 32 (zb s k b)
def btL (s:ByteArray) (k:Nat) (b:Bool):Nat:=btK s k b-zb s k b
def btX (s:ByteArray) (k:Nat) (b:Bool):Bool:=if btK s k b=zb s k b then true else b
def btV (s:ByteArray) (k:Nat) (b:Bool):Int:=bv s (zb s k b) (btL s k b)*2 ^ (32-btL s k b)
theorem X6 {s:ByteArray} {j:Nat} {b:Bool} (h:bit (ze s j b)=true):b=false/\j<s.size/\ze s j b=T.ch s j:=by
 unfold ze at h ⊢
 cases b with
 | true=>simp [bit] at h
 | false =>
  by_cases hlt:j<s.size
  ·exact ⟨rfl,hlt,by simp [hlt]⟩
  ·simp [hlt,bit] at h
theorem Xc (s:ByteArray) (b:Bool):∀ n j,j<=s.size->j<=btF s b n j/\btF s b n j<=s.size/\btF s b n j<=j+n:=by
 intro n
 induction n with
 | zero=>intro j h;exact ⟨Nat.le_refl _,h,Nat.le_refl _⟩
 | succ n ih =>
  intro j h
  simp only [btF]
  split
  ·next hd=>have:=ih (j+1) (X6 hd).2.1;omega
  ·omega
theorem Y7 {s:ByteArray} {k:Nat} {b:Bool} (hk:k<=s.size):btK s k b<=s.size:=(Xc s b _ _ (zK hk)).2.1
theorem PM.setP {w:World} {base B s k b ev rv es rs} (h:PM w base B s k b ev rv es rs) {c j:Nat} {u:Value} (hT:zH w c 94):PM (w.setCell ⟨c,j,none⟩ u) base B s k b ev rv es rs:=h.setT hT (by decide) (by decide) (by decide) (by decide)
theorem qC {w:World} {B:Nat} {a b u:Value} {t:TypeId} (h:w.heap[B]?=some (O #[a,b] t (0,0))):(w.setCell ⟨B,1,none⟩ u).heap[B]?=some (O #[a,u] t (0,0)):=by
 simp [World.setCell,Array.getElem?_modify,h]
theorem zbM (base B:Nat) (s:ByteArray) (k:Nat) (b:Bool) (ev rv:Value) (es:List (EX×Value)) (rs:List RL) (w:World) (hs:s.size<=2000) (hk:k<=s.size) (h:PM w base B s k b ev rv es rs) :
 Calls Tryz.prog 172 #[.pointer (some ⟨B,0,none⟩)] w fun e w'=>e=.returned (.agg #[J Z (btV s k b),J Z (btL s k b)])/\PM w' base B s (btK s k b) (btX s k b) ev rv es rs/\Mv base B ev rv ev rv w w':=by
 have H:Hid (PM (w.alloc (O #[J Z 0,J Z 0] 94)) base B s k b ev rv es rs):=h.alloc _
 have HM0:Hid (Mv base B ev rv ev rv w (w.alloc (O #[J Z 0,J Z 0] 94))):=Mv.alloc h.bs _
 have hou:=h.outNew
 have hbs:=h.bs
 clear h
 go_enter Tryz.func172,Tryz.ntmps172
 go_wp2_with fail
 refine (ya base B s k b ev rv es rs _ hs hk H.out).mono ?_
 rintro e w1 ⟨rfl,hp,hm⟩
 have HR1:Hid (w1.heap[w.heap.size]?=some (O #[J Z 0,J Z 0] 94 (0,0))):=(hm.kept _ (by simp) hou).1.trans (heap_alloc_new w _)
 have hpk:zb s k b<=s.size:=zK hk
 have HNK:Hid (btK s k b=btF s b 32 (zb s k b)):=rfl
 have HNX:Hid (btX s k b=if btK s k b=zb s k b then true else b):=rfl
 have HNL:Hid (btL s k b=btK s k b-zb s k b):=rfl
 have HNV:Hid (btV s k b=bv s (zb s k b) (btL s k b)*2 ^ (32-btL s k b)):=rfl
 generalize hpe:zb s k b=p at *
 clear hpe
 have HP:Hid (PM (w1.alloc (O #[J Z 0,J Z 0] 94)) base B s p b ev rv es rs):=hp.alloc _
 have HM:Hid (Mv base B ev rv ev rv w (w1.alloc (O #[J Z 0,J Z 0] 94))):=(HM0.out.trans hm).trans (Mv.alloc hp.bs _)
 have hnou:=hp.outNew
 have hwl1:w.heap.size<w1.heap.size:=lt_of_block HR1.out
 have HR2:Hid ((w1.alloc (O #[J Z 0,J Z 0] 94)).heap[w.heap.size]?=some (O #[J Z 0,J Z 0] 94 (0,0))):=(Below.heap_alloc _ _ _ hwl1).trans HR1.out
 have HN2:Hid ((w1.alloc (O #[J Z 0,J Z 0] 94)).heap[w1.heap.size]?=some (O #[J Z 0,J Z 0] 94 (0,0))):=heap_alloc_new w1 _
 clear hp hm
 go_wp2_with fail
 refine (Zi base B s p b ev rv es rs _ hpk HP.out).mono ?_
 rintro e w2 ⟨rfl,hp,hm⟩
 have HP2:Hid _:=hp
 have HM2:Hid _:=HM.out.trans hm
 have HR3:Hid (w2.heap[w.heap.size]?=some (O #[J Z 0,J Z 0] 94 (0,0))):=(hm.kept _ (by simp;omega) hou).1.trans HR2.out
 have HN3:Hid (w2.heap[w1.heap.size]?=some (O #[J Z 0,J Z 0] 94 (0,0))):=(hm.kept _ (by simp) hnou).1.trans HN2.out
 clear hp hm
 have hne:w.heap.size≠B:=hou.1
 have hne':B≠w.heap.size:=fun e=>hou.1 e.symm
 have hn3:w1.heap.size≠B:=hnou.1
 have hn4:B≠w1.heap.size:=fun e=>hnou.1 e.symm
 have hn5:w.heap.size≠w1.heap.size:=by omega
 go_wp2_with fail
 go_loopg [4] 32 (fun m x wr=>∃ (j n:Nat) (v:Int),p+n=j/\j<=s.size/\m+n=32/\x=J .u8 (ze s j b)/\Hid (btF s b m j=btF s b 32 p)/\Hid (bv s p (j-p)=v)/\Hid (0<=v/\v+1<=2 ^ n)/\PM wr base B s j b ev rv es rs/\Mv base B ev rv ev rv w wr /\
  wr.heap[w.heap.size]?=some (O #[J Z 0,J Z 0] 94 (0,0))/\wr.heap[w1.heap.size]?=some (O #[J Z v,J Z n] 94 (0,0)))
 case atStart=>exact ⟨p,0,0,by omega,hpk,by omega,rfl,rfl,by show _=_;rw [Nat.sub_self];rfl,⟨Int.le_refl _,by decide⟩,HP2.out,HM2.out,HR3.out,HN3.out⟩
 case round =>
  obtain ⟨j,n,v,hpj,hjs,hn,rfl,HF,HV,HVB,hp,hm,hr,hnb⟩:=hrel
  have HP4:Hid _:=hp
  have HM4:Hid _:=hm
  have HR4:Hid _:=hr
  have HN4:Hid _:=hnb
  have c1:=hp.c1
  have c2:=hp.c2
  have z1:=hp.fz 1
  have z2:=hp.fz 2
  have n0:wr.cell? ⟨w1.heap.size,0,none⟩=some (J Z v):=by simp [World.cell?,hnb]
  have n1:wr.cell? ⟨w1.heap.size,1,none⟩=some (J Z n):=by simp [World.cell?,hnb]
  have nz:∀ j,wr.frozen? ⟨w1.heap.size,j,none⟩=false:=fun j=>by simp [World.frozen?,hnb]
  have r0:wr.cell? ⟨w.heap.size,0,none⟩=some (J Z 0):=by simp [World.cell?,hr]
  have r1:wr.cell? ⟨w.heap.size,1,none⟩=some (J Z 0):=by simp [World.cell?,hr]
  have rz:∀ j,wr.frozen? ⟨w.heap.size,j,none⟩=false:=fun j=>by simp [World.frozen?,hr]
  clear hp hm hr hnb
  have hji:(j:Int)<=2000:=by omega
  cases gk with
  | zero =>
   have hlim:decide ((n:Int)<32)=false:=decide_eq_false (by omega)
   have HK2:Hid (btK s k b=j):=by
    show _=_
    rw [HNK.out,<- HF.out];rfl
   have HL2:Hid (btL s k b=n):=by
    show _=_
    rw [HNL.out,HK2.out];omega
   have HV3:Hid (btV s k b=v*2 ^ (32-n)):=by
    show _=_
    rw [HNV.out,HL2.out,<- HV.out,show j-p=n from by omega]
   clear HNK HNL HNV HF HV
   have hlr:w.heap.size<wr.heap.size:=lt_of_block HR4.out
   have hln:w1.heap.size<wr.heap.size:=lt_of_block HN4.out
   cases hjp:((n:Int)==0) with
   | true =>
    have HX2:Hid (btX s k b=true):=by
     show _=_
     rw [HNX.out,HK2.out,if_pos (by simp at hjp;omega)]
    go_wp2_with fail
    have HP7:Hid (PM (wr.setCell ⟨B,2,none⟩ (.bool true)) base B s j true ev rv es rs):=HP4.out.bad true
    have HM7:Hid (Mv base B ev rv ev rv w (wr.setCell ⟨B,2,none⟩ (.bool true))):=HM4.out.trans (HP4.out.setMv 2 _)
    have HR7:Hid ((wr.setCell ⟨B,2,none⟩ (.bool true)).heap[w.heap.size]?=some (O #[J Z 0,J Z 0] 94 (0,0))):=by show _=_;rw [za hne];exact HR4.out
    have HN7:Hid ((wr.setCell ⟨B,2,none⟩ (.bool true)).heap[w1.heap.size]?=some (O #[J Z v,J Z n] 94 (0,0))):=by show _=_;rw [za hn3];exact HN4.out
    clear c1 c2 z1 z2 n0 n1 nz r0 r1 rz
    go_loopg [5] (32-n) (fun m x wr=>∃ (i:Nat) (u:Int),n<=i/\i<=32/\m+i=32/\x=J Z i/\Hid (u=v*2 ^ (i-n))/\PM wr base B s j true ev rv es rs/\Mv base B ev rv ev rv w wr /\
     wr.heap[w.heap.size]?=some (O #[J Z 0,J Z 0] 94 (0,0))/\wr.heap[w1.heap.size]?=some (O #[J Z u,J Z n] 94 (0,0)))
    case atStart=>exact ⟨n,v,Nat.le_refl _,by omega,by omega,by go_num,by show _=_;rw [Nat.sub_self];simp,HP7.out,HM7.out,HR7.out,HN7.out⟩
    case round =>
     obtain ⟨i,u,hni,hi32,him,rfl,HU,hp,hm,hr,hnb⟩:=hrel
     have HP8:Hid _:=hp
     have HM8:Hid _:=hm
     have HR8:Hid _:=hr
     have HN8:Hid _:=hnb
     have n0:wr.cell? ⟨w1.heap.size,0,none⟩=some (J Z u):=by simp [World.cell?,hnb]
     have n1:wr.cell? ⟨w1.heap.size,1,none⟩=some (J Z n):=by simp [World.cell?,hnb]
     have nz:∀ j,wr.frozen? ⟨w1.heap.size,j,none⟩=false:=fun j=>by simp [World.frozen?,hnb]
     have r0:wr.cell? ⟨w.heap.size,0,none⟩=some (J Z 0):=by simp [World.cell?,hr]
     have r1:wr.cell? ⟨w.heap.size,1,none⟩=some (J Z 0):=by simp [World.cell?,hr]
     have rz:∀ j,wr.frozen? ⟨w.heap.size,j,none⟩=false:=fun j=>by simp [World.frozen?,hr]
     clear hp hm hr hnb
     have hub:0<=u/\u<=4294967296:=by
      rw [HU.out]
      have h1:=HVB.out
      have h2:(2:Int) ^ n*2 ^ (i-n)=2 ^ i:=by rw [<- Int.pow_add];congr 1;omega
      have h3:(2:Int) ^ i<=4294967296:=by
       have h4:(2:Nat) ^ i<=2 ^ 32:=Nat.pow_le_pow_right (by omega) hi32
       have h5:((2 ^ i:Nat):Int)<=((2 ^ 32:Nat):Int):=Int.ofNat_le.2 h4
       rw [Int.natCast_pow] at h5
       exact h5
      have h6:(0:Int)<=2 ^ (i-n):=Int.le_of_lt (Int.pow_pos (by omega))
      refine ⟨Int.mul_nonneg h1.1 h6,?_⟩
      have h7:v*2 ^ (i-n)<=2 ^ n*2 ^ (i-n):=Int.mul_le_mul_of_nonneg_right (by omega) h6
      omega
     obtain ⟨hu0,hu1⟩:=hub
     by_cases hlt:i<32
     ·exact absurd hlt (by omega)
     ·have hd:decide ((i:Int)<32)=false:=decide_eq_false (by omega)
      have hi:i=32:=by omega
      have HE:Hid (btV s k b=u):=by show _=_;rw [HV3.out,HU.out,hi]
      clear HU
      go_wp2_with fail
      exact bodyPost_ret (v:=.agg #[J Z u,J Z n]) (by simp [results,Tryz.results172,go_sem,r0,r1]) rfl ⟨by rw [HL2.out,HE.out],by rw [HK2.out,HX2.out];exact (HP8.out.setP ⟨_,_,HR8.out⟩).setP (zH.set ⟨_,_,HR8.out⟩ _ _ _),(HM8.out.setNew (Nat.le_refl _) hbs _).setNew (Nat.le_refl _) hbs _⟩
   | false =>
    have HX2:Hid (btX s k b=b):=by
     show _=_
     rw [HNX.out,HK2.out,if_neg (by have:=beq_eq_false_iff_ne.1 hjp;omega)]
    go_wp2_with fail
    have HP7:Hid _:=HP4.out
    have HM7:Hid _:=HM4.out
    have HR7:Hid _:=HR4.out
    have HN7:Hid _:=HN4.out
    clear c1 c2 z1 z2 n0 n1 nz r0 r1 rz
    go_loopg [5] (32-n) (fun m x wr=>∃ (i:Nat) (u:Int),n<=i/\i<=32/\m+i=32/\x=J Z i/\Hid (u=v*2 ^ (i-n))/\PM wr base B s j b ev rv es rs/\Mv base B ev rv ev rv w wr /\
     wr.heap[w.heap.size]?=some (O #[J Z 0,J Z 0] 94 (0,0))/\wr.heap[w1.heap.size]?=some (O #[J Z u,J Z n] 94 (0,0)))
    case atStart=>exact ⟨n,v,Nat.le_refl _,by omega,by omega,by go_num,by show _=_;rw [Nat.sub_self];simp,HP7.out,HM7.out,HR7.out,HN7.out⟩
    case round =>
     obtain ⟨i,u,hni,hi32,him,rfl,HU,hp,hm,hr,hnb⟩:=hrel
     have HP8:Hid _:=hp
     have HM8:Hid _:=hm
     have HR8:Hid _:=hr
     have HN8:Hid _:=hnb
     have n0:wr.cell? ⟨w1.heap.size,0,none⟩=some (J Z u):=by simp [World.cell?,hnb]
     have n1:wr.cell? ⟨w1.heap.size,1,none⟩=some (J Z n):=by simp [World.cell?,hnb]
     have nz:∀ j,wr.frozen? ⟨w1.heap.size,j,none⟩=false:=fun j=>by simp [World.frozen?,hnb]
     have r0:wr.cell? ⟨w.heap.size,0,none⟩=some (J Z 0):=by simp [World.cell?,hr]
     have r1:wr.cell? ⟨w.heap.size,1,none⟩=some (J Z 0):=by simp [World.cell?,hr]
     have rz:∀ j,wr.frozen? ⟨w.heap.size,j,none⟩=false:=fun j=>by simp [World.frozen?,hr]
     clear hp hm hr hnb
     have hub:0<=u/\u<=4294967296:=by
      rw [HU.out]
      have h1:=HVB.out
      have h2:(2:Int) ^ n*2 ^ (i-n)=2 ^ i:=by rw [<- Int.pow_add];congr 1;omega
      have h3:(2:Int) ^ i<=4294967296:=by
       have h4:(2:Nat) ^ i<=2 ^ 32:=Nat.pow_le_pow_right (by omega) hi32
       have h5:((2 ^ i:Nat):Int)<=((2 ^ 32:Nat):Int):=Int.ofNat_le.2 h4
       rw [Int.natCast_pow] at h5
       exact h5
      have h6:(0:Int)<=2 ^ (i-n):=Int.le_of_lt (Int.pow_pos (by omega))
      refine ⟨Int.mul_nonneg h1.1 h6,?_⟩
      have h7:v*2 ^ (i-n)<=2 ^ n*2 ^ (i-n):=Int.mul_le_mul_of_nonneg_right (by omega) h6
      omega
     obtain ⟨hu0,hu1⟩:=hub
     by_cases hlt:i<32
     ·exact absurd hlt (by omega)
     ·have hd:decide ((i:Int)<32)=false:=decide_eq_false (by omega)
      have hi:i=32:=by omega
      have HE:Hid (btV s k b=u):=by show _=_;rw [HV3.out,HU.out,hi]
      clear HU
      go_wp2_with fail
      exact bodyPost_ret (v:=.agg #[J Z u,J Z n]) (by simp [results,Tryz.results172,go_sem,r0,r1]) rfl ⟨by rw [HL2.out,HE.out],by rw [HK2.out,HX2.out];exact (HP8.out.setP ⟨_,_,HR8.out⟩).setP (zH.set ⟨_,_,HR8.out⟩ _ _ _),(HM8.out.setNew (Nat.le_refl _) hbs _).setNew (Nat.le_refl _) hbs _⟩
  | succ m =>
   have hlim2:(n:Int)<32:=by omega
   cases hd:bit (ze s j b) with
   | true =>
    obtain ⟨rfl,hlt,hch⟩:=X6 hd
    have hdd:ze s j false=48\/ze s j false=49:=by simpa [bit] using hd
    have HF2:Hid (btF s false m (j+1)=btF s false 32 p):=by
     show _=_
     rw [<- HF.out,btF,if_pos hd]
    have hp9:(2:Int) ^ n<=4294967296:=by
     have h1:(2:Nat) ^ n<=2 ^ 32:=Nat.pow_le_pow_right (by omega) (by omega)
     have h2:((2 ^ n:Nat):Int)<=((2 ^ 32:Nat):Int):=Int.ofNat_le.2 h1
     rw [Int.natCast_pow] at h2
     exact h2
    have hv0:0<=v:=HVB.out.1
    have hv1:v<4294967296:=by have:=HVB.out.2;omega
    have HV2:Hid (bv s p (j+1-p)=v*2+(ze s j false-48)):=by
     show _=_
     rw [show j+1-p=(j-p)+1 from by omega];simp only [bv]
     rw [HV.out,hch,show p+(j-p)=j from by omega]
    have HVB2:Hid (0<=v*2+(ze s j false-48)/\v*2+(ze s j false-48)+1<=2 ^ (n+1)):=by
     have h1:=HVB.out
     show _/\_
     rw [Int.pow_succ]
     omega
    have hx0:48<=ze s j false:=by omega
    have hx1:ze s j false<=49:=by omega
    clear hd hch HF HV HVB hp9
    generalize ze s j false=x at *
    have hmod:(x-48)%256=x-48:=by omega
    cases hx48:(x==48) with
    | true =>
     clear hdd
     go_wp2_with fail
     have hlr:w.heap.size<wr.heap.size:=lt_of_block HR4.out
     have hln:w1.heap.size<wr.heap.size:=lt_of_block HN4.out
     refine (Zi base B s (j+1) false ev rv es rs _ (by omega) (((HP4.out.setP ⟨_,_,HN4.out⟩).setP (zH.set ⟨_,_,HN4.out⟩ _ _ _)).at (j+1) _ (by omega))).mono ?_
     rintro e w5 ⟨rfl,hp5,hm5⟩
     have HP5:Hid _:=hp5
     have HM5:Hid (Mv base B ev rv ev rv w w5):=(((HM4.out.setNew (by omega) (by omega) _).setNew (by omega) (by omega) _).trans (((HP4.out.setP ⟨_,_,HN4.out⟩).setP (zH.set ⟨_,_,HN4.out⟩ _ _ _)).setMv 1 _)).trans hm5
     have HR5:Hid (w5.heap[w.heap.size]?=some (O #[J Z 0,J Z 0] 94 (0,0))):=(hm5.kept _ (by simp [World.size_setCell];exact hlr) hou).1.trans (by rw [za hne,za hn5,za hn5];exact HR4.out)
     have HN5:Hid (w5.heap[w1.heap.size]?=some (O #[J Z (v*2+(x-48)),J Z ((n:Int)+1)] 94 (0,0))):=(hm5.kept _ (by simp [World.size_setCell];exact hln) hnou).1.trans (by rw [za hn3];exact qC (Yb HN4.out))
     clear hp5 hm5 c1 c2 z1 z2 n0 n1 nz r0 r1 rz
     go_wp2_with fail
     go_roundg m
     case measure=>omega
     case rel=>exact ⟨j+1,n+1,_,by omega,by omega,by omega,rfl,HF2,HV2,HVB2,HP5.out,HM5.out,HR5.out,HN5.out⟩
    | false =>
     have hx49:(x==49)=true:=by rcases hdd with h | h<;>simp [h] at hx48 ⊢
     clear hdd
     go_wp2_with fail
     have hlr:w.heap.size<wr.heap.size:=lt_of_block HR4.out
     have hln:w1.heap.size<wr.heap.size:=lt_of_block HN4.out
     refine (Zi base B s (j+1) false ev rv es rs _ (by omega) (((HP4.out.setP ⟨_,_,HN4.out⟩).setP (zH.set ⟨_,_,HN4.out⟩ _ _ _)).at (j+1) _ (by omega))).mono ?_
     rintro e w5 ⟨rfl,hp5,hm5⟩
     have HP5:Hid _:=hp5
     have HM5:Hid (Mv base B ev rv ev rv w w5):=(((HM4.out.setNew (by omega) (by omega) _).setNew (by omega) (by omega) _).trans (((HP4.out.setP ⟨_,_,HN4.out⟩).setP (zH.set ⟨_,_,HN4.out⟩ _ _ _)).setMv 1 _)).trans hm5
     have HR5:Hid (w5.heap[w.heap.size]?=some (O #[J Z 0,J Z 0] 94 (0,0))):=(hm5.kept _ (by simp [World.size_setCell];exact hlr) hou).1.trans (by rw [za hne,za hn5,za hn5];exact HR4.out)
     have HN5:Hid (w5.heap[w1.heap.size]?=some (O #[J Z (v*2+(x-48)),J Z ((n:Int)+1)] 94 (0,0))):=(hm5.kept _ (by simp [World.size_setCell];exact hln) hnou).1.trans (by rw [za hn3];exact qC (Yb HN4.out))
     clear hp5 hm5 c1 c2 z1 z2 n0 n1 nz r0 r1 rz
     go_wp2_with fail
     go_roundg m
     case measure=>omega
     case rel=>exact ⟨j+1,n+1,_,by omega,by omega,by omega,rfl,HF2,HV2,HVB2,HP5.out,HM5.out,HR5.out,HN5.out⟩
   | false =>
    have hb48:(ze s j b==48)=false/\(ze s j b==49)=false:=by simpa [bit] using hd
    obtain ⟨h48,h49⟩:=hb48
    have HK2:Hid (btK s k b=j):=by
     show _=_
     rw [HNK.out,<- HF.out];rw [btF,if_neg (by rw [hd];decide)]
    have HL2:Hid (btL s k b=n):=by
     show _=_
     rw [HNL.out,HK2.out];omega
    have HV3:Hid (btV s k b=v*2 ^ (32-n)):=by
     show _=_
     rw [HNV.out,HL2.out,<- HV.out,show j-p=n from by omega]
    clear HNK HNL HNV HF HV
    have hlr:w.heap.size<wr.heap.size:=lt_of_block HR4.out
    have hln:w1.heap.size<wr.heap.size:=lt_of_block HN4.out
    cases hjp:((n:Int)==0) with
    | true =>
     have HX2:Hid (btX s k b=true):=by
      show _=_
      rw [HNX.out,HK2.out,if_pos (by simp at hjp;omega)]
     go_wp2_with fail
     have HP7:Hid (PM (wr.setCell ⟨B,2,none⟩ (.bool true)) base B s j true ev rv es rs):=HP4.out.bad true
     have HM7:Hid (Mv base B ev rv ev rv w (wr.setCell ⟨B,2,none⟩ (.bool true))):=HM4.out.trans (HP4.out.setMv 2 _)
     have HR7:Hid ((wr.setCell ⟨B,2,none⟩ (.bool true)).heap[w.heap.size]?=some (O #[J Z 0,J Z 0] 94 (0,0))):=by show _=_;rw [za hne];exact HR4.out
     have HN7:Hid ((wr.setCell ⟨B,2,none⟩ (.bool true)).heap[w1.heap.size]?=some (O #[J Z v,J Z n] 94 (0,0))):=by show _=_;rw [za hn3];exact HN4.out
     clear c1 c2 z1 z2 n0 n1 nz r0 r1 rz
     go_loopg [5] (32-n) (fun m x wr=>∃ (i:Nat) (u:Int),n<=i/\i<=32/\m+i=32/\x=J Z i/\Hid (u=v*2 ^ (i-n))/\PM wr base B s j true ev rv es rs/\Mv base B ev rv ev rv w wr /\
      wr.heap[w.heap.size]?=some (O #[J Z 0,J Z 0] 94 (0,0))/\wr.heap[w1.heap.size]?=some (O #[J Z u,J Z n] 94 (0,0)))
     case atStart=>exact ⟨n,v,Nat.le_refl _,by omega,by omega,by go_num,by show _=_;rw [Nat.sub_self];simp,HP7.out,HM7.out,HR7.out,HN7.out⟩
     case round =>
      obtain ⟨i,u,hni,hi32,him,rfl,HU,hp,hm,hr,hnb⟩:=hrel
      have HP8:Hid _:=hp
      have HM8:Hid _:=hm
      have HR8:Hid _:=hr
      have HN8:Hid _:=hnb
      have n0:wr.cell? ⟨w1.heap.size,0,none⟩=some (J Z u):=by simp [World.cell?,hnb]
      have n1:wr.cell? ⟨w1.heap.size,1,none⟩=some (J Z n):=by simp [World.cell?,hnb]
      have nz:∀ j,wr.frozen? ⟨w1.heap.size,j,none⟩=false:=fun j=>by simp [World.frozen?,hnb]
      have r0:wr.cell? ⟨w.heap.size,0,none⟩=some (J Z 0):=by simp [World.cell?,hr]
      have r1:wr.cell? ⟨w.heap.size,1,none⟩=some (J Z 0):=by simp [World.cell?,hr]
      have rz:∀ j,wr.frozen? ⟨w.heap.size,j,none⟩=false:=fun j=>by simp [World.frozen?,hr]
      clear hp hm hr hnb
      have hub:0<=u/\u<=4294967296:=by
       rw [HU.out]
       have h1:=HVB.out
       have h2:(2:Int) ^ n*2 ^ (i-n)=2 ^ i:=by rw [<- Int.pow_add];congr 1;omega
       have h3:(2:Int) ^ i<=4294967296:=by
        have h4:(2:Nat) ^ i<=2 ^ 32:=Nat.pow_le_pow_right (by omega) hi32
        have h5:((2 ^ i:Nat):Int)<=((2 ^ 32:Nat):Int):=Int.ofNat_le.2 h4
        rw [Int.natCast_pow] at h5
        exact h5
       have h6:(0:Int)<=2 ^ (i-n):=Int.le_of_lt (Int.pow_pos (by omega))
       refine ⟨Int.mul_nonneg h1.1 h6,?_⟩
       have h7:v*2 ^ (i-n)<=2 ^ n*2 ^ (i-n):=Int.mul_le_mul_of_nonneg_right (by omega) h6
       omega
      obtain ⟨hu0,hu1⟩:=hub
      by_cases hlt:i<32
      ·have hlt':(i:Int)<32:=by omega
       have HU2:Hid (u*2=v*2 ^ (i+1-n)):=by
        show _=_
        rw [HU.out,show i+1-n=(i-n)+1 from by omega,Int.pow_succ,Int.mul_assoc]
       clear HU
       go_wp2_with fail
       go_roundg (32-(i+1))
       case measure=>omega
       case rel=>exact ⟨i+1,u*2,by omega,by omega,by omega,by go_num,HU2,HP8.out.setP ⟨_,_,HN8.out⟩,HM8.out.setNew (by omega) (by omega) _,by rw [za hn5];exact HR8.out,Yb HN8.out⟩
      ·have hd:decide ((i:Int)<32)=false:=decide_eq_false (by omega)
       have hi:i=32:=by omega
       have HE:Hid (btV s k b=u):=by show _=_;rw [HV3.out,HU.out,hi]
       clear HU
       go_wp2_with fail
       exact bodyPost_ret (v:=.agg #[J Z u,J Z n]) (by simp [results,Tryz.results172,go_sem,r0,r1]) rfl ⟨by rw [HL2.out,HE.out],by rw [HK2.out,HX2.out];exact (HP8.out.setP ⟨_,_,HR8.out⟩).setP (zH.set ⟨_,_,HR8.out⟩ _ _ _),(HM8.out.setNew (Nat.le_refl _) hbs _).setNew (Nat.le_refl _) hbs _⟩
    | false =>
     have HX2:Hid (btX s k b=b):=by
      show _=_
      rw [HNX.out,HK2.out,if_neg (by have:=beq_eq_false_iff_ne.1 hjp;omega)]
     go_wp2_with fail
     have HP7:Hid _:=HP4.out
     have HM7:Hid _:=HM4.out
     have HR7:Hid _:=HR4.out
     have HN7:Hid _:=HN4.out
     clear c1 c2 z1 z2 n0 n1 nz r0 r1 rz
     go_loopg [5] (32-n) (fun m x wr=>∃ (i:Nat) (u:Int),n<=i/\i<=32/\m+i=32/\x=J Z i/\Hid (u=v*2 ^ (i-n))/\PM wr base B s j b ev rv es rs/\Mv base B ev rv ev rv w wr /\
      wr.heap[w.heap.size]?=some (O #[J Z 0,J Z 0] 94 (0,0))/\wr.heap[w1.heap.size]?=some (O #[J Z u,J Z n] 94 (0,0)))
     case atStart=>exact ⟨n,v,Nat.le_refl _,by omega,by omega,by go_num,by show _=_;rw [Nat.sub_self];simp,HP7.out,HM7.out,HR7.out,HN7.out⟩
     case round =>
      obtain ⟨i,u,hni,hi32,him,rfl,HU,hp,hm,hr,hnb⟩:=hrel
      have HP8:Hid _:=hp
      have HM8:Hid _:=hm
      have HR8:Hid _:=hr
      have HN8:Hid _:=hnb
      have n0:wr.cell? ⟨w1.heap.size,0,none⟩=some (J Z u):=by simp [World.cell?,hnb]
      have n1:wr.cell? ⟨w1.heap.size,1,none⟩=some (J Z n):=by simp [World.cell?,hnb]
      have nz:∀ j,wr.frozen? ⟨w1.heap.size,j,none⟩=false:=fun j=>by simp [World.frozen?,hnb]
      have r0:wr.cell? ⟨w.heap.size,0,none⟩=some (J Z 0):=by simp [World.cell?,hr]
      have r1:wr.cell? ⟨w.heap.size,1,none⟩=some (J Z 0):=by simp [World.cell?,hr]
      have rz:∀ j,wr.frozen? ⟨w.heap.size,j,none⟩=false:=fun j=>by simp [World.frozen?,hr]
      clear hp hm hr hnb
      have hub:0<=u/\u<=4294967296:=by
       rw [HU.out]
       have h1:=HVB.out
       have h2:(2:Int) ^ n*2 ^ (i-n)=2 ^ i:=by rw [<- Int.pow_add];congr 1;omega
       have h3:(2:Int) ^ i<=4294967296:=by
        have h4:(2:Nat) ^ i<=2 ^ 32:=Nat.pow_le_pow_right (by omega) hi32
        have h5:((2 ^ i:Nat):Int)<=((2 ^ 32:Nat):Int):=Int.ofNat_le.2 h4
        rw [Int.natCast_pow] at h5
        exact h5
       have h6:(0:Int)<=2 ^ (i-n):=Int.le_of_lt (Int.pow_pos (by omega))
       refine ⟨Int.mul_nonneg h1.1 h6,?_⟩
       have h7:v*2 ^ (i-n)<=2 ^ n*2 ^ (i-n):=Int.mul_le_mul_of_nonneg_right (by omega) h6
       omega
      obtain ⟨hu0,hu1⟩:=hub
      by_cases hlt:i<32
      ·have hlt':(i:Int)<32:=by omega
       have HU2:Hid (u*2=v*2 ^ (i+1-n)):=by
        show _=_
        rw [HU.out,show i+1-n=(i-n)+1 from by omega,Int.pow_succ,Int.mul_assoc]
       clear HU
       go_wp2_with fail
       go_roundg (32-(i+1))
       case measure=>omega
       case rel=>exact ⟨i+1,u*2,by omega,by omega,by omega,by go_num,HU2,HP8.out.setP ⟨_,_,HN8.out⟩,HM8.out.setNew (by omega) (by omega) _,by rw [za hn5];exact HR8.out,Yb HN8.out⟩
      ·have hd:decide ((i:Int)<32)=false:=decide_eq_false (by omega)
       have hi:i=32:=by omega
       have HE:Hid (btV s k b=u):=by show _=_;rw [HV3.out,HU.out,hi]
       clear HU
       go_wp2_with fail
       exact bodyPost_ret (v:=.agg #[J Z u,J Z n]) (by simp [results,Tryz.results172,go_sem,r0,r1]) rfl ⟨by rw [HL2.out,HE.out],by rw [HK2.out,HX2.out];exact (HP8.out.setP ⟨_,_,HR8.out⟩).setP (zH.set ⟨_,_,HR8.out⟩ _ _ _),(HM8.out.setNew (Nat.le_refl _) hbs _).setNew (Nat.le_refl _) hbs _⟩
structure CR where
 idx:Int
 es:List EX
 k:Nat
 b:Bool
structure CI where
 im:IM
 es:List EX
 k:Nat
 b:Bool
def zt (ex:Int->Nat->Nat->Bool->CR) (s:ByteArray) (kind d:Int) (m k:Nat) (b:Bool):CI :=
 let p:=zb s k b
 if kind=109 then
  let r:=ex (d+1) m (zc s 58 (btK s p b) (btX s p b)) (zj s 58 (btK s p b) (btX s p b))
  ⟨⟨p,0,btV s p b,btL s p b,0,0,r.idx⟩,r.es,r.k,r.b⟩
 else if kind=103 then
  let r:=ex (d+1) m (zc s 58 (zm s p b) (zu s p b)) (zj s 58 (zm s p b) (zu s p b))
  ⟨⟨p,zI s p b,0,0,0,0,r.idx⟩,r.es,r.k,r.b⟩
 else if kind=119 then
  let k2:=zc s 42 (zm s p b) (zu s p b)
  let b2:=zj s 42 (zm s p b) (zu s p b)
  ⟨⟨p,zI s p b,0,0,zI s k2 b2,zb s k2 b2,-1⟩,[],zm s k2 b2,zu s k2 b2⟩
 else ⟨⟨p,zI s p b,0,0,0,0,-1⟩,[],zm s p b,zu s p b⟩
theorem z7 (s:ByteArray) (k:Nat) (b:Bool):k<=zb s k b:=by
 unfold zb;split
 ·exact Nat.le_refl _
 ·exact T.sk_ge s k
theorem zi (s:ByteArray) (c:Int) (k:Nat) (b:Bool):k<=zc s c k b:=by
 unfold zc
 have:=z7 s k b
 split<;>omega
theorem zV {s:ByteArray} {k:Nat} {b:Bool} (hk:k<=s.size):k<=zm s k b:=Nat.le_trans (z7 s k b) (qY s b _ _ (zK hk)).1
theorem Y8 {s:ByteArray} {k:Nat} {b:Bool} (hk:k<=s.size):k<=btK s k b:=Nat.le_trans (z7 s k b) (Xc s b _ _ (zK hk)).1
theorem xW {s:ByteArray} {c:Int} {k:Nat} {b:Bool} (h:b=true):zj s c k b=true:=by
 subst h;unfold zj;split<;>rfl
theorem XO {s:ByteArray} {k:Nat} {b:Bool} (h:b=true):zu s k b=true:=by
 subst h;unfold zu;split<;>rfl
theorem Qf {s:ByteArray} {k:Nat} {b:Bool} (h:b=true):btX s k b=true:=by
 subst h;unfold btX;split<;>rfl
def YA (ex:Int->Nat->Nat->Bool->CR) (s:ByteArray) (base B:Nat) (rs:List RL) (n:Nat):Prop :=
 ∀ (d:Int) (k:Nat) (b:Bool) (ev rv:Value) (es:List (EX×Value)) (w:World),k<=s.size->0<=d->d<=k->es.length<=k->(b=true\/s.size-k<n)->PM w base B s k b ev rv es rs ->
  Calls Tryz.prog 125 #[.pointer (some ⟨B,0,none⟩),J Z d] w fun e w' =>
   e=.returned (J Z (ex d es.length k b).idx)/\∃ ev' new,new.map Prod.fst=(ex d es.length k b).es/\PM w' base B s (ex d es.length k b).k (ex d es.length k b).b ev' rv (es++new) rs/\Mv base B ev rv ev' rv w w'/\∀ p∈new,∀ g,p.2.ownBlock=some g->w.heap.size<=g
theorem xN (a g:Int) (w:World):(Instr.build 155 #[(0,J Z a),(4,J Z g)]).run Tryz.prog w=.ok (.agg #[J Z a,J Z 0,J Z 0,J Z 0,J Z 0,J Z 0,J Z g]) w:=run_build w 155 _ _ (by kernel_rfl)
theorem Yv (a b:Int) (w:World):(Instr.field 141 (.agg #[J Z a,J Z b]) 0).run Tryz.prog w=.ok (J Z a) w:=by kernel_rfl
def Fre (c:Nat) (es:List (EX×Value)):Prop:=∀ p∈es,p.2.ownBlock≠some c
theorem PM.fre {w:World} {base B s k b ev rv es rs} (h:PM w base B s k b ev rv es rs) {c:Nat} (hc:w.heap.size<=c):Fre c es:=fun p hp e=>by have:=((h.it p hp).lt _ e).2;omega
theorem Fre.app {c:Nat} {es new:List (EX×Value)} (h1:Fre c es) (h2:Fre c new):Fre c (es++new):=fun p hp=>by
 rcases List.mem_append.1 hp with hp | hp
 ·exact h1 p hp
 ·exact h2 p hp
theorem PM.setI {w:World} {base B s k b ev rv es rs} (h:PM w base B s k b ev rv es rs) {c j:Nat} {u:Value} (hT:zH w c 155) (hF:Fre c es):PM (w.setCell ⟨c,j,none⟩ u) base B s k b ev rv es rs:=by
 obtain ⟨cs,fr,hc⟩:=hT
 refine ⟨?_,ownsRow_setCell_other h.ex (zs h.ex hc (by decide)) _,ownsRow_setCell_other h.rl (zs h.rl hc (by decide)) _,fun p hp=>ownsRow_setCell_other (h.it p hp) (hF p hp) _,h.hB⟩
 rw [za (fun e=>by subst e;have:=h.blk;rw [hc] at this;simp at this)]
 exact h.blk
theorem zX {w:World} {B j:Nat} {a0 a1 a2 a3 a4 a5 a6 u:Value} {t:TypeId} (h:w.heap[B]?=some (O #[a0,a1,a2,a3,a4,a5,a6] t (0,0))):(w.setCell ⟨B,j,none⟩ u).heap[B]?=some (O (#[a0,a1,a2,a3,a4,a5,a6].setIfInBounds j u) t (0,0)):=by
 simp [World.setCell,Array.getElem?_modify,h]
theorem PM.setI7 {w:World} {base B s k b ev rv es rs} (h:PM w base B s k b ev rv es rs) {c:Nat} {u0 u1 u2 u3 u4 u5 u6:Value} (hT:zH w c 155) (hF:Fre c es) :
 PM (((((((w.setCell ⟨c,0,none⟩ u0).setCell ⟨c,1,none⟩ u1).setCell ⟨c,2,none⟩ u2).setCell ⟨c,3,none⟩ u3).setCell ⟨c,4,none⟩ u4).setCell ⟨c,5,none⟩ u5).setCell ⟨c,6,none⟩ u6) base B s k b ev rv es rs :=
 ((((((h.setI hT hF).setI (hT.set _ _ _) hF).setI ((hT.set _ _ _).set _ _ _) hF).setI (((hT.set _ _ _).set _ _ _).set _ _ _) hF).setI ((((hT.set _ _ _).set _ _ _).set _ _ _).set _ _ _) hF).setI (((((hT.set _ _ _).set _ _ _).set _ _ _).set _ _ _).set _ _ _) hF).setI ((((((hT.set _ _ _).set _ _ _).set _ _ _).set _ _ _).set _ _ _).set _ _ _) hF
theorem Mv.setNew7 {base B:Nat} {a b c d:Value} {w w1:World} (h:Mv base B a b c d w w1) {k:Nat} (hk:w.heap.size<=k) (hb:base<=k) (u0 u1 u2 u3 u4 u5 u6:Value) :
 Mv base B a b c d w (((((((w1.setCell ⟨k,0,none⟩ u0).setCell ⟨k,1,none⟩ u1).setCell ⟨k,2,none⟩ u2).setCell ⟨k,3,none⟩ u3).setCell ⟨k,4,none⟩ u4).setCell ⟨k,5,none⟩ u5).setCell ⟨k,6,none⟩ u6) :=
 ((((((h.setNew hk hb _).setNew hk hb _).setNew hk hb _).setNew hk hb _).setNew hk hb _).setNew hk hb _).setNew hk hb _
theorem Qa (ex:Int->Nat->Nat->Bool->CR) (base B:Nat) (s:ByteArray) (d:Int) (k:Nat) (b:Bool) (ev rv:Value) (es:List (EX×Value)) (rs:List RL) (w:World) (hs:s.size<=2000) (hk:k<=s.size) (h:PM w base B s k b ev rv es rs) (R:CI) (hR:Hid ((zt ex s 123 d es.length k b)=R)) :
 Calls Tryz.prog 170 #[.pointer (some ⟨B,0,none⟩),J .u8 123,J Z d] w fun e w'=>e=.returned (.agg #[J Z R.im.at_,J Z R.im.num,J Z R.im.pv,J Z R.im.pl,J Z R.im.wv,J Z R.im.wa,J Z R.im.arm])/\∃ ev' new,new.map Prod.fst=R.es/\PM w' base B s R.k R.b ev' rv (es++new) rs/\Mv base B ev rv ev' rv w w'/\∀ p∈new,∀ g,p.2.ownBlock=some g->w.heap.size<=g:=by
 have H:Hid (PM (w.alloc (O #[J Z 0,J Z 0,J Z 0,J Z 0,J Z 0,J Z 0,J Z 0] 155)) base B s k b ev rv es rs):=h.alloc _
 have HM0:Hid (Mv base B ev rv ev rv w (w.alloc (O #[J Z 0,J Z 0,J Z 0,J Z 0,J Z 0,J Z 0,J Z 0] 155))):=Mv.alloc h.bs _
 have hou:=h.outNew
 have hbs:=h.bs
 have HFr:Hid (Fre w.heap.size es):=h.fre (Nat.le_refl _)
 clear h
 go_enter Tryz.func170,Tryz.ntmps170
 go_wp2_with fail
 refine (ya base B s k b ev rv es rs _ hs hk H.out).mono ?_
 rintro e w1 ⟨rfl,hp,hm⟩
 have rh:Hid (w1.heap[w.heap.size]?=some (O #[J Z 0,J Z 0,J Z 0,J Z 0,J Z 0,J Z 0,J Z 0] 155 (0,0))):=(hm.kept _ (by simp) hou).1.trans (heap_alloc_new w _)
 have hpk:zb s k b<=s.size:=zK hk
 have hkp:k<=zb s k b:=by unfold zb;split<;>first | exact Nat.le_refl _ | exact T.sk_ge s k
 unfold zt at hR
 generalize zb s k b=p at *
 have HP:Hid (PM (w1.alloc (O #[J Z p,J Z 0,J Z 0,J Z 0,J Z 0,J Z 0,J Z (-1)] 155)) base B s p b ev rv es rs):=hp.alloc _
 have HM:Hid (Mv base B ev rv ev rv w (w1.alloc (O #[J Z p,J Z 0,J Z 0,J Z 0,J Z 0,J Z 0,J Z (-1)] 155))):=(HM0.out.trans hm).trans (Mv.alloc hp.bs _)
 have hxou:=hp.outNew
 have HFx:Hid (Fre w1.heap.size es):=hp.fre (Nat.le_refl _)
 have hwl1:w.heap.size<w1.heap.size:=lt_of_block rh.out
 have RH:Hid ((w1.alloc (O #[J Z p,J Z 0,J Z 0,J Z 0,J Z 0,J Z 0,J Z (-1)] 155)).heap[w.heap.size]?=some (O #[J Z 0,J Z 0,J Z 0,J Z 0,J Z 0,J Z 0,J Z 0] 155 (0,0))):=(Below.heap_alloc _ _ _ hwl1).trans rh.out
 have XH:Hid ((w1.alloc (O #[J Z p,J Z 0,J Z 0,J Z 0,J Z 0,J Z 0,J Z (-1)] 155)).heap[w1.heap.size]?=some (O #[J Z p,J Z 0,J Z 0,J Z 0,J Z 0,J Z 0,J Z (-1)] 155 (0,0))):=heap_alloc_new w1 _
 have c1:=hp.c1
 clear hp hm rh
 have hbn:=fun w=>xN p (-1) w
 have hfn:=fun a b w=>Yv a b w
 have hne:w.heap.size≠B:=hou.1
 have hn5:w.heap.size≠w1.heap.size:=by omega
 have hn3:w1.heap.size≠B:=hxou.1
 go_wp2_with fail
 clear c1
 refine (yR base B s p b ev rv es rs _ hs hpk HP.out).mono ?_
 rintro e w2 ⟨rfl,hp,hm⟩
 have Pw2:Hid (PM w2 base B s (zm s p b) (zu s p b) ev rv es rs):=hp
 have Mw2:Hid (Mv base B ev rv ev rv w w2):=(HM.out).trans hm
 have rh:Hid (w2.heap[w.heap.size]?=some (O #[J Z 0,J Z 0,J Z 0,J Z 0,J Z 0,J Z 0,J Z 0] 155 (0,0))):=(hm.kept _ (by first | (simp;omega) | (simp [World.size_setCell];exact SZR.out)) hou).1.trans (RH.out)
 have xh:Hid (w2.heap[w1.heap.size]?=some (O #[J Z p,J Z 0,J Z 0,J Z 0,J Z 0,J Z 0,J Z (-1)] 155 (0,0))):=(hm.kept _ (by first | (simp;done) | (simp [World.size_setCell];exact SZX.out)) hxou).1.trans (XH.out)
 have SZR:Hid (w.heap.size<w2.heap.size):=lt_of_block rh.out
 have SZX:Hid (w1.heap.size<w2.heap.size):=lt_of_block xh.out
 clear hp hm
 have x0:w2.cell? ⟨w1.heap.size,0,none⟩=some (J Z p):=by simp [World.cell?,xh.out]
 have x1:w2.cell? ⟨w1.heap.size,1,none⟩=some (J Z 0):=by simp [World.cell?,xh.out]
 have x2:w2.cell? ⟨w1.heap.size,2,none⟩=some (J Z 0):=by simp [World.cell?,xh.out]
 have x3:w2.cell? ⟨w1.heap.size,3,none⟩=some (J Z 0):=by simp [World.cell?,xh.out]
 have x4:w2.cell? ⟨w1.heap.size,4,none⟩=some (J Z 0):=by simp [World.cell?,xh.out]
 have x5:w2.cell? ⟨w1.heap.size,5,none⟩=some (J Z 0):=by simp [World.cell?,xh.out]
 have x6:w2.cell? ⟨w1.heap.size,6,none⟩=some (J Z (-1)):=by simp [World.cell?,xh.out]
 have xz:∀ j,w2.frozen? ⟨w1.heap.size,j,none⟩=false:=fun j=>by simp [World.frozen?,xh.out]
 have r0:w2.cell? ⟨w.heap.size,0,none⟩=some (J Z 0):=by simp [World.cell?,rh.out]
 have r1:w2.cell? ⟨w.heap.size,1,none⟩=some (J Z 0):=by simp [World.cell?,rh.out]
 have r2:w2.cell? ⟨w.heap.size,2,none⟩=some (J Z 0):=by simp [World.cell?,rh.out]
 have r3:w2.cell? ⟨w.heap.size,3,none⟩=some (J Z 0):=by simp [World.cell?,rh.out]
 have r4:w2.cell? ⟨w.heap.size,4,none⟩=some (J Z 0):=by simp [World.cell?,rh.out]
 have r5:w2.cell? ⟨w.heap.size,5,none⟩=some (J Z 0):=by simp [World.cell?,rh.out]
 have r6:w2.cell? ⟨w.heap.size,6,none⟩=some (J Z 0):=by simp [World.cell?,rh.out]
 have rz:∀ j,w2.frozen? ⟨w.heap.size,j,none⟩=false:=fun j=>by simp [World.frozen?,rh.out]
 go_wp2_with fail
 exact bodyPost_ret (v:=.agg #[J Z p,J Z (zI s p b),J Z 0,J Z 0,J Z 0,J Z 0,J Z (-1)]) (by simp [results,Tryz.results170,go_sem,r0,r1,r2,r3,r4,r5,r6]) rfl ⟨by rw [<- hR.out];rfl,ev,[],by rw [<- hR.out];rfl,by rw [<- hR.out,List.append_nil];exact (Pw2.out.setI ⟨_,_,xh.out⟩ HFx.out).setI7 (zH.set ⟨_,_,rh.out⟩ _ _ _) HFr.out,(Mw2.out.setNew (by omega) (by omega) _).setNew7 (Nat.le_refl _) hbs _ _ _ _ _ _ _,by simp⟩
theorem jx (ex:Int->Nat->Nat->Bool->CR) (base B:Nat) (s:ByteArray) (d:Int) (k:Nat) (b:Bool) (ev rv:Value) (es:List (EX×Value)) (rs:List RL) (w:World) (hs:s.size<=2000) (hk:k<=s.size) (h:PM w base B s k b ev rv es rs) (R:CI) (hR:Hid ((zt ex s 102 d es.length k b)=R)) :
 Calls Tryz.prog 170 #[.pointer (some ⟨B,0,none⟩),J .u8 102,J Z d] w fun e w'=>e=.returned (.agg #[J Z R.im.at_,J Z R.im.num,J Z R.im.pv,J Z R.im.pl,J Z R.im.wv,J Z R.im.wa,J Z R.im.arm])/\∃ ev' new,new.map Prod.fst=R.es/\PM w' base B s R.k R.b ev' rv (es++new) rs/\Mv base B ev rv ev' rv w w'/\∀ p∈new,∀ g,p.2.ownBlock=some g->w.heap.size<=g:=by
 have H:Hid (PM (w.alloc (O #[J Z 0,J Z 0,J Z 0,J Z 0,J Z 0,J Z 0,J Z 0] 155)) base B s k b ev rv es rs):=h.alloc _
 have HM0:Hid (Mv base B ev rv ev rv w (w.alloc (O #[J Z 0,J Z 0,J Z 0,J Z 0,J Z 0,J Z 0,J Z 0] 155))):=Mv.alloc h.bs _
 have hou:=h.outNew
 have hbs:=h.bs
 have HFr:Hid (Fre w.heap.size es):=h.fre (Nat.le_refl _)
 clear h
 go_enter Tryz.func170,Tryz.ntmps170
 go_wp2_with fail
 refine (ya base B s k b ev rv es rs _ hs hk H.out).mono ?_
 rintro e w1 ⟨rfl,hp,hm⟩
 have rh:Hid (w1.heap[w.heap.size]?=some (O #[J Z 0,J Z 0,J Z 0,J Z 0,J Z 0,J Z 0,J Z 0] 155 (0,0))):=(hm.kept _ (by simp) hou).1.trans (heap_alloc_new w _)
 have hpk:zb s k b<=s.size:=zK hk
 have hkp:k<=zb s k b:=by unfold zb;split<;>first | exact Nat.le_refl _ | exact T.sk_ge s k
 unfold zt at hR
 generalize zb s k b=p at *
 have HP:Hid (PM (w1.alloc (O #[J Z p,J Z 0,J Z 0,J Z 0,J Z 0,J Z 0,J Z (-1)] 155)) base B s p b ev rv es rs):=hp.alloc _
 have HM:Hid (Mv base B ev rv ev rv w (w1.alloc (O #[J Z p,J Z 0,J Z 0,J Z 0,J Z 0,J Z 0,J Z (-1)] 155))):=(HM0.out.trans hm).trans (Mv.alloc hp.bs _)
 have hxou:=hp.outNew
 have HFx:Hid (Fre w1.heap.size es):=hp.fre (Nat.le_refl _)
 have hwl1:w.heap.size<w1.heap.size:=lt_of_block rh.out
 have RH:Hid ((w1.alloc (O #[J Z p,J Z 0,J Z 0,J Z 0,J Z 0,J Z 0,J Z (-1)] 155)).heap[w.heap.size]?=some (O #[J Z 0,J Z 0,J Z 0,J Z 0,J Z 0,J Z 0,J Z 0] 155 (0,0))):=(Below.heap_alloc _ _ _ hwl1).trans rh.out
 have XH:Hid ((w1.alloc (O #[J Z p,J Z 0,J Z 0,J Z 0,J Z 0,J Z 0,J Z (-1)] 155)).heap[w1.heap.size]?=some (O #[J Z p,J Z 0,J Z 0,J Z 0,J Z 0,J Z 0,J Z (-1)] 155 (0,0))):=heap_alloc_new w1 _
 have c1:=hp.c1
 clear hp hm rh
 have hbn:=fun w=>xN p (-1) w
 have hfn:=fun a b w=>Yv a b w
 have hne:w.heap.size≠B:=hou.1
 have hn5:w.heap.size≠w1.heap.size:=by omega
 have hn3:w1.heap.size≠B:=hxou.1
 go_wp2_with fail
 clear c1
 refine (yR base B s p b ev rv es rs _ hs hpk HP.out).mono ?_
 rintro e w2 ⟨rfl,hp,hm⟩
 have Pw2:Hid (PM w2 base B s (zm s p b) (zu s p b) ev rv es rs):=hp
 have Mw2:Hid (Mv base B ev rv ev rv w w2):=(HM.out).trans hm
 have rh:Hid (w2.heap[w.heap.size]?=some (O #[J Z 0,J Z 0,J Z 0,J Z 0,J Z 0,J Z 0,J Z 0] 155 (0,0))):=(hm.kept _ (by first | (simp;omega) | (simp [World.size_setCell];exact SZR.out)) hou).1.trans (RH.out)
 have xh:Hid (w2.heap[w1.heap.size]?=some (O #[J Z p,J Z 0,J Z 0,J Z 0,J Z 0,J Z 0,J Z (-1)] 155 (0,0))):=(hm.kept _ (by first | (simp;done) | (simp [World.size_setCell];exact SZX.out)) hxou).1.trans (XH.out)
 have SZR:Hid (w.heap.size<w2.heap.size):=lt_of_block rh.out
 have SZX:Hid (w1.heap.size<w2.heap.size):=lt_of_block xh.out
 clear hp hm
 have x0:w2.cell? ⟨w1.heap.size,0,none⟩=some (J Z p):=by simp [World.cell?,xh.out]
 have x1:w2.cell? ⟨w1.heap.size,1,none⟩=some (J Z 0):=by simp [World.cell?,xh.out]
 have x2:w2.cell? ⟨w1.heap.size,2,none⟩=some (J Z 0):=by simp [World.cell?,xh.out]
 have x3:w2.cell? ⟨w1.heap.size,3,none⟩=some (J Z 0):=by simp [World.cell?,xh.out]
 have x4:w2.cell? ⟨w1.heap.size,4,none⟩=some (J Z 0):=by simp [World.cell?,xh.out]
 have x5:w2.cell? ⟨w1.heap.size,5,none⟩=some (J Z 0):=by simp [World.cell?,xh.out]
 have x6:w2.cell? ⟨w1.heap.size,6,none⟩=some (J Z (-1)):=by simp [World.cell?,xh.out]
 have xz:∀ j,w2.frozen? ⟨w1.heap.size,j,none⟩=false:=fun j=>by simp [World.frozen?,xh.out]
 have r0:w2.cell? ⟨w.heap.size,0,none⟩=some (J Z 0):=by simp [World.cell?,rh.out]
 have r1:w2.cell? ⟨w.heap.size,1,none⟩=some (J Z 0):=by simp [World.cell?,rh.out]
 have r2:w2.cell? ⟨w.heap.size,2,none⟩=some (J Z 0):=by simp [World.cell?,rh.out]
 have r3:w2.cell? ⟨w.heap.size,3,none⟩=some (J Z 0):=by simp [World.cell?,rh.out]
 have r4:w2.cell? ⟨w.heap.size,4,none⟩=some (J Z 0):=by simp [World.cell?,rh.out]
 have r5:w2.cell? ⟨w.heap.size,5,none⟩=some (J Z 0):=by simp [World.cell?,rh.out]
 have r6:w2.cell? ⟨w.heap.size,6,none⟩=some (J Z 0):=by simp [World.cell?,rh.out]
 have rz:∀ j,w2.frozen? ⟨w.heap.size,j,none⟩=false:=fun j=>by simp [World.frozen?,rh.out]
 go_wp2_with fail
 exact bodyPost_ret (v:=.agg #[J Z p,J Z (zI s p b),J Z 0,J Z 0,J Z 0,J Z 0,J Z (-1)]) (by simp [results,Tryz.results170,go_sem,r0,r1,r2,r3,r4,r5,r6]) rfl ⟨by rw [<- hR.out];rfl,ev,[],by rw [<- hR.out];rfl,by rw [<- hR.out,List.append_nil];exact (Pw2.out.setI ⟨_,_,xh.out⟩ HFx.out).setI7 (zH.set ⟨_,_,rh.out⟩ _ _ _) HFr.out,(Mw2.out.setNew (by omega) (by omega) _).setNew7 (Nat.le_refl _) hbs _ _ _ _ _ _ _,by simp⟩
end Go.Proofs.YtaebngpoagjafabGreat
