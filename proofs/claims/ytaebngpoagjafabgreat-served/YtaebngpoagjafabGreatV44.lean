import Derived.Test.YtaebngpoagjafabGreatV43
set_option maxRecDepth 100000
set_option maxHeartbeats 1600000
namespace Go.Proofs.YtaebngpoagjafabGreat
open Obj renaming cells → Q
open Value renaming int → J, slice → O
open IntKind renaming i64 → Z
open Go.RowKit
attribute [local go_sem ↓] Go.wp_at_zero Go.wp_at_succ
structure SS (w:World) (o:Option Addr) (b off n:Nat) (S:Nat->ByteArray):Prop where
 at_:0<n->o=some ⟨b,off,none⟩
 lt:0<n->b<w.heap.size
 val:∀ i,i<n->w.cell? ⟨b,off+i,none⟩=some (.string (S i))
structure SW (w wr:World) (x v:WD) (B W2:Nat) (dn:Nat->Bool) (al:Nat->List Int) (s:ByteArray) (C:List Int):Prop where
 bel:Below w.heap.size w wr
 bx:wr.heap[w.heap.size]?=some (Q x.cells 31 (0,0))
 bv:wr.heap[W2]?=some (Q v.cells 31 (0,0))
 av:v.Av wr B
 sv:SV wr (fun _=>True) B C dn al v.V v.L v.R v.pl
 st:s=⟨#[]⟩/\C=[]\/s≠⟨#[]⟩/\cpE s=0/\C=cpX s
theorem SW.below {w wr w':World} {x v:WD} {B W2:Nat} {dn:Nat->Bool} {al:Nat->List Int} {s:ByteArray} {C:List Int} (h:SW w wr x v B W2 dn al s C) (hb:Below wr.heap.size wr w'):SW w w' x v B W2 dn al s C :=
 ⟨h.bel.trans (hb.mono h.bel.size),(hb.block _ (lt_of_block h.bx)).trans h.bx,(hb.block _ (lt_of_block h.bv)).trans h.bv,h.av.kp (Kp.of_below hb),h.sv.below hb,h.st⟩
theorem SW.load {w wr w':World} {x v:WD} {B W2:Nat} {dn:Nat->Bool} {al:Nat->List Int} {s s':ByteArray} {C C':List Int} (h:SW w wr x v B W2 dn al s C) (hB:w.heap.size<B) (hW:B<W2) (hb:Below B wr w') (hk:Kp B wr w') (hs:SV w' (fun _=>True) B C' dn al v.V v.L v.R v.pl) (hst:s'=⟨#[]⟩/\C'=[]\/s'≠⟨#[]⟩/\cpE s'=0/\C'=cpX s'):SW w w' x v B W2 dn al s' C' :=
 ⟨h.bel.trans (hb.mono (Nat.le_of_lt hB)),(hk.block _ (by omega) (lt_of_block h.bx)).trans h.bx,(hk.block _ (by omega) (lt_of_block h.bv)).trans h.bv,h.av.kp hk,hs,hst⟩
theorem zdO:t7≠⟨#[]⟩:=fun e=>by
 have:=congrArg ByteArray.size e
 simp [t7,ByteArray.size] at this
theorem qQ (tt:Option Addr) (tb toff n tc:Nat) (S:Nat->ByteArray) (x:WD) (w:World) (hn:n<=9223372036854775807) (hS:SS w tt tb toff n S) (hT:∀ (w0:World),w0=w.alloc (Q x.cells 31)->Calls Tryz.prog 8 #[.pointer (some ⟨w.heap.size+1,0,none⟩),x.val] (w0.alloc (Q sv0 61)) (Qj w0 (w.heap.size+1))) :
 Calls Tryz.prog 4 #[O tt n tc,x.val] w fun e w'=>e=.returned (.bool true)/\Below w.heap.size w w':=by
 have HS:Hid _:=hS
 have HT0:Hid (Calls Tryz.prog 8 #[.pointer (some ⟨w.heap.size+1,0,none⟩),x.val] ((w.alloc (Q x.cells 31)).alloc (Q sv0 61)) (Qj (w.alloc (Q x.cells 31)) (w.heap.size+1))):=hT _ rfl
 have HB0:Hid (Below w.heap.size w (w.alloc (Q x.cells 31))):=(Below.refl _ _).alloc (Nat.le_refl _) _
 have HX0:Hid ((w.alloc (Q x.cells 31)).heap[w.heap.size]?=some (Q x.cells 31 (0,0))):=heap_alloc_new w _
 clear hS hT
 unfold WD.val at HT0 ⊢
 go_enter Tryz.func4,Tryz.ntmps4
 go_wp2_with fail
 refine (Jz _).mono ?_
 rintro e w' ⟨rfl,hw'⟩
 subst hw'
 have HZ:Hid ((w.alloc (Q x.cells 31)).heap.size=w.heap.size+1):=by show _=_;simp
 go_wp2_with fail
 refine HT0.out.mono ?_
 rintro e w1 ⟨v,dn,al,rfl,hb1,hav,hsv,hd1,hd2,hd3,hp⟩
 have HV1:Hid _:=hav
 have HS1:Hid _:=hsv
 have HD1:Hid (v.dl=(dnL dn 64).length):=hd1
 have HD2:Hid (v.Dn=fun i=>((dnL dn 64)[i]?).getD 0):=hd2
 have HD3:Hid (v.al=(List.range 16).map al):=hd3
 have HP:Hid (Zd v.V v.L v.R v.pl=true):=hp
 have HBx:Hid (Below w.heap.size w w1/\w1.heap[w.heap.size]?=some (Q x.cells 31 (0,0))/\w.heap.size+1<w1.heap.size):=by
  have hz:=HZ.out
  have h8:=hsv.lt
  exact ⟨HB0.out.trans (hb1.mono (by rw [hz];omega)),(hb1.block _ (by rw [hz];omega)).trans HX0.out,h8⟩
 clear hb1 hav hsv hd1 hd2 hd3 hp HT0
 have HW0:Hid (SW w (w1.alloc (Q v.cells 31)) x v (w.heap.size+1) w1.heap.size dn al ⟨#[]⟩ []):=by
  have hb:Below w1.heap.size w1 (w1.alloc (Q v.cells 31)):=(Below.refl _ _).alloc (Nat.le_refl _) _
  exact ⟨HBx.out.1.trans (hb.mono HBx.out.1.size),(hb.block _ (lt_of_block HBx.out.2.1)).trans HBx.out.2.1,heap_alloc_new _ _,HV1.out.kp (Kp.of_below hb),HS1.out.below hb,.inl ⟨rfl,rfl⟩⟩
 have hlt1:=HBx.out.2.2
 unfold WD.val
 go_wp2_with fail
 go_loopg [7,8,9] n (fun q y7 y8 y9 wr=>∃ (i:Nat) (s:ByteArray) (C:List Int),q+i=n/\y9=J Z i/\y8=.string s/\y7=.bool true/\SW w wr x v (w.heap.size+1) w1.heap.size dn al s C)
 case atStart=>exact ⟨0,_,_,by omega,rfl,rfl,rfl,HW0.out⟩
 case round =>
  obtain ⟨i,s,C,hq,rfl,rfl,rfl,hW⟩:=hrel
  have HW:Hid _:=hW
  clear hW
  have hin:(i:Int)<=(n:Int):=by omega
  have HAK:Hid (Calls Tryz.prog 9 #[.pointer (some ⟨w.heap.size+1,0,none⟩),v.val,x.val,.string s] wr fun e w'=>e=.returned (.bool true)/\Below wr.heap.size wr w'):=zas (w.heap.size+1) v x C dn al s wr HW.out.av HW.out.sv HD1.out HD2.out HD3.out HP.out HW.out.st
  unfold WD.val at HAK
  have x0:wr.cell? ⟨w.heap.size,0,none⟩=some (J Z x.a):=by rw [cell_of_row _ _ _ _ _ _ HW.out.bx];rfl
  have x1:wr.cell? ⟨w.heap.size,1,none⟩=some (J Z x.b):=by rw [cell_of_row _ _ _ _ _ _ HW.out.bx];rfl
  have x2:wr.cell? ⟨w.heap.size,2,none⟩=some (J Z x.d):=by rw [cell_of_row _ _ _ _ _ _ HW.out.bx];rfl
  have x3:wr.cell? ⟨w.heap.size,3,none⟩=some (O x.do_ x.dl x.dc):=by rw [cell_of_row _ _ _ _ _ _ HW.out.bx];rfl
  have x4:wr.cell? ⟨w.heap.size,4,none⟩=some (O x.ao x.al.length x.ac):=by rw [cell_of_row _ _ _ _ _ _ HW.out.bx];rfl
  have x5:wr.cell? ⟨w.heap.size,5,none⟩=some (O x.po x.pl x.pcp):=by rw [cell_of_row _ _ _ _ _ _ HW.out.bx];rfl
  have v0:wr.cell? ⟨w1.heap.size,0,none⟩=some (J Z v.a):=by rw [cell_of_row _ _ _ _ _ _ HW.out.bv];rfl
  have v1:wr.cell? ⟨w1.heap.size,1,none⟩=some (J Z v.b):=by rw [cell_of_row _ _ _ _ _ _ HW.out.bv];rfl
  have v2:wr.cell? ⟨w1.heap.size,2,none⟩=some (J Z v.d):=by rw [cell_of_row _ _ _ _ _ _ HW.out.bv];rfl
  have v3:wr.cell? ⟨w1.heap.size,3,none⟩=some (O v.do_ v.dl v.dc):=by rw [cell_of_row _ _ _ _ _ _ HW.out.bv];rfl
  have v4:wr.cell? ⟨w1.heap.size,4,none⟩=some (O v.ao v.al.length v.ac):=by rw [cell_of_row _ _ _ _ _ _ HW.out.bv];rfl
  have v5:wr.cell? ⟨w1.heap.size,5,none⟩=some (O v.po v.pl v.pcp):=by rw [cell_of_row _ _ _ _ _ _ HW.out.bv];rfl
  go_wp2_with fail
  refine HAK.out.mono ?_
  rintro e w3 ⟨rfl,hb3⟩
  have HW3:Hid _:=HW.out.below hb3
  clear hb3 x0 x1 x2 x3 x4 x5 v0 v1 v2 v3 v4 v5
  by_cases hi:i<n
  ·have hi1:¬ (i:Int)=(n:Int):=by omega
   have hi2:((i:Int)==(n:Int))=false:=by simpa using hi1
   have hi':(i:Int)<(n:Int):=by omega
   have hi0:(0:Int)<=(i:Int):=by omega
   obtain rfl:=HS.out.at_ (by omega)
   have ct:w3.cell? ⟨tb,toff+i,none⟩=some (.string (S i)):=(HW3.out.bel.cell (p:=⟨tb,toff+i,none⟩) (HS.out.lt (by omega))).trans (HS.out.val i hi)
   have HLD:Hid (Calls Tryz.prog 10 #[.pointer (some ⟨w.heap.size+1,0,none⟩),.string (S i)] w3 fun e w'=>e=.returned (.tuple #[J Z (cpE (S i)),J Z (ldA (S i))])/\Below (w.heap.size+1) w3 w'/\Kp (w.heap.size+1) w3 w'/\SV w' (fun _=>True) (w.heap.size+1) (if cpE (S i)=0 then cpX (S i) else C) dn al v.V v.L v.R v.pl):=HW3.out.sv.loadC (S i) (fun _ _=>trivial)
   have HFT:Hid (∀ wz,Calls Tryz.prog 11 #[.string (S i)] wz fun e w'=>e=.returned (.bool (Yi (S i)))/\Below wz.heap.size wz w'):=fun wz=>zbo (S i) wz
   go_wp2_with fail
   refine HLD.out.mono ?_
   rintro e w4 ⟨rfl,hb4,hk4,hs4⟩
   have HL4:Hid _:=hb4
   have HK4:Hid _:=hk4
   have HS4:Hid _:=hs4
   clear ct
   have ct:w4.cell? ⟨tb,toff+i,none⟩=some (.string (S i)):=(hb4.cell (p:=⟨tb,toff+i,none⟩) (Nat.lt_succ_of_lt (HS.out.lt (by omega)))).trans ((HW3.out.bel.cell (p:=⟨tb,toff+i,none⟩) (HS.out.lt (by omega))).trans (HS.out.val i hi))
   clear hb4 hk4 hs4
   go_wp2_with fail
   refine (HFT.out _).mono ?_
   rintro e w5 ⟨rfl,hb5⟩
   have HB5:Hid _:=hb5
   have ct5:w5.cell? ⟨tb,toff+i,none⟩=some (.string (S i)):=(hb5.cell (p:=⟨tb,toff+i,none⟩) (by have:=Zv ct;exact this)).trans ct
   clear hb5 ct HFT HLD
   by_cases hE:cpE (S i)=0
   ·have hF:Yi (S i)=true:=by unfold Yi;rw [hE];rfl
    have hne:S i≠⟨#[]⟩:=fun e=>by rw [e] at hE;exact zdY hE
    have HW5:Hid (SW w w5 x v (w.heap.size+1) w1.heap.size dn al (S i) (cpX (S i))):=by
     have h9:=HS4.out
     rw [if_pos hE] at h9
     exact (HW3.out.load (Nat.lt_succ_self _) hlt1 HL4.out HK4.out h9 (.inr ⟨hne,hE,rfl⟩)).below HB5.out
    rw [hE,hF]
    clear HS4
    go_wp2_with fail
    go_roundg (n-(i+1))
    case measure=>omega
    case rel=>exact ⟨i+1,_,_,by omega,by go_num,rfl,rfl,HW5.out⟩
   ·have hF:Yi (S i)=false:=by unfold Yi;simpa using hE
    have HW5:Hid (SW w w5 x v (w.heap.size+1) w1.heap.size dn al s C):=by
     have h9:=HS4.out
     rw [if_neg hE] at h9
     exact (HW3.out.load (Nat.lt_succ_self _) hlt1 HL4.out HK4.out h9 HW3.out.st).below HB5.out
    have hE2:(cpE (S i)==0)=false:=by simpa using hE
    rw [hF]
    clear HS4
    generalize cpE (S i)=ce at *
    go_wp2_with fail
    go_roundg (n-(i+1))
    case measure=>omega
    case rel=>exact ⟨i+1,_,_,by omega,by go_num,rfl,rfl,HW5.out⟩
  ·have hi1:i=n:=by omega
   subst hi1
   have HLD:Hid (Calls Tryz.prog 10 #[.pointer (some ⟨w.heap.size+1,0,none⟩),.string ⟨#[97,58,123,55,125]⟩] w3 fun e w'=>e=.returned (.tuple #[J Z 0,J Z 0])/\Below (w.heap.size+1) w3 w'/\Kp (w.heap.size+1) w3 w'/\SV w' (fun _=>True) (w.heap.size+1) (cpX t7) dn al v.V v.L v.R v.pl):=by
    have h9:=HW3.out.sv.loadC t7 (fun _ _=>trivial)
    rw [zaF,zdP,if_pos rfl] at h9
    exact h9
   go_wp2_with fail
   refine HLD.out.mono ?_
   rintro e w4 ⟨rfl,hb4,hk4,hs4⟩
   have HW4:Hid (SW w w4 x v (w.heap.size+1) w1.heap.size dn al t7 (cpX t7)):=HW3.out.load (Nat.lt_succ_self _) hlt1 hb4 hk4 hs4 (.inr ⟨zdO,zaF,rfl⟩)
   have HQ:Hid (Calls Tryz.prog 12 #[.pointer (some ⟨w.heap.size+1,0,none⟩),J Z 1,J Z 32,J Z 5] w4 (xT w4 (0,[7],86400,0))):=by
    have h9:=hs4.queryC 1 32 5
    rw [(zaY 1 32 5 HD1.out HD2.out HD3.out HP.out zaF (by decide)).1,zdR] at h9
    exact h9
   clear hb4 hk4 hs4 HLD
   go_wp2_with fail
   refine HQ.out.mono ?_
   rintro e w5 ⟨hb5,o,m,k,rfl,_,heq⟩
   obtain ⟨hm,hrow⟩:=heq rfl
   simp only [List.length_cons,List.length_nil,Nat.zero_add] at hm
   subst hm
   have hrow':w5.ownsRow w4.heap.size 3 1 (O o 1 k) 1 [J Z 7]:=hrow
   obtain ⟨g,kc,hg,_,hgl⟩:=hrow'.form (by decide)
   obtain ⟨rfl,rfl⟩:o=some ⟨g,0,none⟩/\k=kc:=by cases hg;exact ⟨rfl,rfl⟩
   have hc7:w5.cell? ⟨g,0,none⟩=some (J Z 7):=hrow'.cellAt 0 (by decide)
   have HB5:Hid (Below w.heap.size w (w5.alloc (Q #[O (some ⟨g,0,none⟩) 1 k,J Z 86400,J Z 0] 42))):=by
    have hb:Below w.heap.size w w5:=HW4.out.bel.trans (hb5.mono HW4.out.bel.size)
    exact hb.alloc hb.size _
   clear hb5 heq hrow hrow' hg HQ
   go_wp2_with fail
   go_ret
   exact ⟨rfl,HB5.out⟩
theorem Qu (tt:Option Addr) (tb toff n tc:Nat) (S:Nat->ByteArray) (x:WD) (w:World) (hn:n<=9223372036854775807) (hS:SS w tt tb toff n S) (hIn:x.In w) (hpl:x.pl*24<=140737488351232) (hbd:∀ l∈x.al,∀ z∈l,-9223372036854775808<=z/\z<=9223372036854775807) :
 Calls Tryz.prog 4 #[O tt n tc,x.val] w fun e w'=>e=.returned (.bool true)/\Below w.heap.size w w' :=
 qQ tt tb toff n tc S x w hn hS fun w0 h0=>by
  have hb0:Below w.heap.size w w0:=by rw [h0];exact (Below.refl _ _).alloc (Nat.le_refl _) _
  have hz:w0.heap.size=w.heap.size+1:=by rw [h0];simp
  have hsv:=zaI w0 (fun _=>True)
  rw [hz] at hsv
  exact zaC x (w.heap.size+1) _ _ _ w0 _ (hIn.below hb0) hpl hbd hz.symm ((Below.refl _ _).alloc (Nat.le_refl _) _) hsv
end Go.Proofs.YtaebngpoagjafabGreat
