import Derived.Test.YtaebngpoagjafabGreatV42
set_option maxRecDepth 100000
set_option maxHeartbeats 3200000
namespace Go.Proofs.YtaebngpoagjafabGreat
open Obj renaming cells → X
open Value renaming int → J, slice → O
open IntKind renaming i64 → Z
open Go.RowKit
attribute [local go_sem ↓] Go.wp_at_zero Go.wp_at_succ
theorem j9 (x:WD) (k:Nat):(fun i=>if i=k then x.dnB k else if i<k then x.dnB i else false)=(fun i=>if i<k+1 then x.dnB i else false):=by
 funext i
 by_cases e:i=k
 ·subst e;rw [if_pos rfl,if_pos (by omega)]
 ·rw [if_neg e]
  by_cases e1:i<k
  ·rw [if_pos e1,if_pos (by omega)]
  ·rw [if_neg e1,if_neg (by omega)]
theorem zaC (x:WD) (B:Nat) (V L R:Nat->Int) (w0 w:World) (hx:x.In w0) (hpl:x.pl*24<=140737488351232) (hbd:∀ l∈x.al,∀ z∈l,-9223372036854775808<=z/\z<=9223372036854775807) (hB0:B=w0.heap.size) (hb0:Below w0.heap.size w0 w) (hsv:SV w (fun _=>True) B [] (fun _=>false) (fun _=>[]) V L R 0) :
 Calls Tryz.prog 8 #[.pointer (some ⟨B,0,none⟩),x.val] w (Qj w0 B):=by
 have HX:Hid _:=hx
 have HB0:Hid _:=hb0
 have HSV:Hid _:=hsv
 have HBD:Hid (∀ l∈x.al,∀ z∈l,-9223372036854775808<=z/\z<=9223372036854775807):=hbd
 have HPL:Hid (x.pl*24<=140737488351232):=hpl
 have hBl:=hsv.lt
 have HBE:Hid (B=w0.heap.size):=hB0
 clear hx hb0 hsv hB0 hbd hpl
 have HT0:Hid (TT w0 w x B V L R (fun i=>if i<0 then x.dnB i else false) (fun _=>[]) [] (O none 0 0) (O none 0 0) [] (((w.alloc (X x.cells 31)).alloc (X (vC (O none 0 0) (O none 0 0) (O none 0 0)) 31)).alloc (X (vC (O none 0 0) (O none 0 0) (O none 0 0)) 31))):=by
  have hb:Below w.heap.size w (((w.alloc (X x.cells 31)).alloc (X (vC (O none 0 0) (O none 0 0) (O none 0 0)) 31)).alloc (X (vC (O none 0 0) (O none 0 0) (O none 0 0)) 31)):=(((Below.refl _ _).alloc (Nat.le_refl _) _).alloc (by simp) _).alloc (by simp;omega) _
  refine ⟨HB0.out.trans (hb.mono HB0.out.size),HSV.out.below hb,?_,?_,zy _ (by simp),⟨rfl,.inl ⟨rfl,rfl⟩⟩,⟨rfl,.inl ⟨rfl,rfl⟩⟩,fun i v hv=>by simp at hv⟩
  ·rw [Below.heap_alloc _ _ _ (by simp;omega),Below.heap_alloc _ _ _ (by simp)]
   exact heap_alloc_new w _
  ·rw [Below.heap_alloc _ _ _ (by simp)]
   exact zy _ (by simp)
 unfold WD.val
 go_enter Tryz.func8,Tryz.ntmps8
 go_wp2_with fail
 go_loopg [7] 64 (fun q y wr=>∃ (k:Nat),q+k=64/\y=J Z k/\∃ dv,TT w0 w x B V L R (fun i=>if i<k then x.dnB i else false) (fun _=>[]) (dnL x.dnB k) dv (O none 0 0) [] wr)
 case atStart=>exact ⟨0,by omega,rfl,_,HT0.out⟩
 case round =>
  obtain ⟨k,hq,rfl,dv,hT⟩:=hrel
  obtain ⟨w1,hw1⟩:∃ w1,w1=wr:=⟨_,rfl⟩
  subst hw1
  have HT:Hid _:=hT
  clear hT
  by_cases hk:k<64
  ·have hk':(k:Int)<64:=by omega
   have c3:w1.cell? ⟨w.heap.size,3,none⟩=some (O x.do_ x.dl x.dc):=by rw [cell_of_row _ _ _ _ _ _ HT.out.bx];rfl
   have HIn:Hid _:=HX.out.below HT.out.bel
   have hdl:=HIn.out.ndl
   go_wp2_with fail
   go_loopg [8,9] x.dl (fun q y8 y9 wq=>∃ i,q+i=x.dl/\y9=J Z (i:Nat)/\y8=.bool (x.dnTo k i)/\wq=w1)
   case atStart=>exact ⟨0,by omega,rfl,rfl,rfl⟩
   case round =>
    obtain ⟨i,hq2,rfl,rfl,hw⟩:=hrel
    subst hw
    by_cases hi:i<x.dl
    ·have hi':(i:Int)<(x.dl:Int):=by omega
     have hi0:(0:Int)<=(i:Int):=by omega
     have hcv:=HIn.out.is_.val i hi
     rw [HIn.out.is_.at_ (by omega)] at c3
     have HS:Hid _:=zaf x k i
     cases hd:x.dnTo k i with
     | true =>
      have HD:Hid (x.dnTo k (i+1)=true):=by show _=_;rw [HS.out,hd];rfl
      clear hd
      go_wp2_with fail
      go_roundg (x.dl-(i+1))
      case measure=>omega
      case rel=>exact ⟨i+1,by omega,by go_num,by rw [HD.out],rfl⟩
     | false =>
      have HD:Hid (x.dnTo k (i+1)=(x.Dn i==(k:Int))):=by show _=_;rw [HS.out,hd];rfl
      clear hd
      go_wp2_with fail
      go_roundg (x.dl-(i+1))
      case measure=>omega
      case rel=>exact ⟨i+1,by omega,by go_num,by rw [HD.out],rfl⟩
    ·have hi':¬ (i:Int)<(x.dl:Int):=by omega
     have hie:i=x.dl:=by omega
     subst hie
     have HDB:Hid (x.dnTo k x.dl=x.dnB k):=rfl
     rw [HDB.out]
     cases hd:x.dnB k with
     | true =>
      obtain ⟨i1,hi1,hy0,hy1,hy2⟩:=info_parts Tryz.infoInt
      have hrowT:=HT.out.row
      obtain ⟨o3,k3,hdv,_⟩:=zY hrowT
      subst hdv
      have q3:wr.cell? ⟨w.heap.size+1+1,3,none⟩=some (O o3 (dnL x.dnB k).length k3):=by rw [cell_of_row _ _ _ _ _ _ HT.out.vv];rfl
      have z3:wr.frozen? ⟨w.heap.size+1+1,3,none⟩=false:=by simp [World.frozen?,HT.out.vv]
      have hlV:=lt_of_block HT.out.vv
      have hLl:=Xp x.dnB k
      have HD:Hid (x.dnB k=true):=hd
      have HROW:Hid (wr.ownsRow (w.heap.size+1+1+1) 3 1 (O o3 (dnL x.dnB k).length k3) (dnL x.dnB k).length ((dnL x.dnB k).map (J Z))):=HT.out.row
      have HVV:Hid (wr.heap[w.heap.size+1+1]?=some (X (vC (O o3 (dnL x.dnB k).length k3) (O none 0 0) (O none 0 0)) 31 (0,0))):=HT.out.vv
      have HL:Hid (dnL x.dnB (k+1)=dnL x.dnB k++[(k:Int)]):=by show _=_;rw [dnL,hd];simp
      have hone:∀ u∈[J Z (k:Int)],u.oneCell'=true:=fun u hu=>by simp at hu;subst hu;rfl
      clear hd hrowT
      generalize dnL x.dnB k=LL at *
      have hG:Hid (∀ (w9:World) (ob:Obj),(wr.alloc ob).grownBy w9 (O o3 LL.length k3).ownBlock->w9.cell? ⟨w.heap.size+1+1,3,none⟩=some (O o3 LL.length k3)/\w9.frozen? ⟨w.heap.size+1+1,3,none⟩=false):=fun w9 ob hg=>by
       have hb:w9.heap[w.heap.size+1+1]?=wr.heap[w.heap.size+1+1]?:=by
        rw [hg.block _ (by simp;omega) (fun e=>zs HROW.out HVV.out (by decide) e.symm),Below.heap_alloc _ _ _ hlV]
       exact ⟨(World.cell?_of_block (a:=⟨w.heap.size+1+1,3,none⟩) hb).trans q3,(World.frozen?_of_block (a:=⟨w.heap.size+1+1,3,none⟩) hb).trans z3⟩
      go_wp2_with (at_builtin;refine wpList_append_lies _ rfl _ _ 25 rfl (w.heap.size+1+1+1) 3 i1 _ 1 8 Tryz.underlying25 hi1 hy0 hy1 hy2 rfl (by decide) (O o3 LL.length k3) _ _ rfl (HROW.out.alloc _) ⟨wr.heap.size,0,none⟩ 1 1 [J Z k] rfl rfl (World.news_of_block (cs:=#[J Z k]) (t:=3) (fr:=(0,0)) (heap_alloc_new wr _)) hone (Nat.lt_succ_self 0) (by unfold maxLen;omega) (by omega) (by simp;omega) (wr.heap.size+1) (by simp) ?_;intro g4 cap4 w4 hown4 hgrow4 hat4 hlt4;obtain ⟨y3,yz⟩:=hG.out w4 _ hgrow4)
      have HG4:Hid _:=hgrow4
      have HO4:Hid (w4.ownsRow (w.heap.size+1+1+1) 3 1 (O (some ⟨g4,0,none⟩) (LL.length+1) cap4) (LL.length+1) (LL.map (J Z)++[J Z k])):=hown4
      have HT5:Hid _:=HT.out.appD HBE.out hBl HG4.out HO4.out rfl
      clear hown4 hgrow4 hat4 hlt4
      go_wp2_with fail
      generalize w4.setCell ⟨w.heap.size+1+1,3,none⟩ (O (some ⟨g4,0,none⟩) (LL.length+1) cap4)=w5 at *
      have HMK:Hid (Calls Tryz.prog 16 #[.pointer (some ⟨B,0,none⟩),J Z k,.bool false] w5 fun e w'=>e=.returned (J Z 0)/\Below B w5 w'/\Kp B w5 w'/\SV w' (fun _=>True) B [] (fun i=>if i=k then true else if i<k then x.dnB i else false) (fun _=>[]) V L R 0):=HT5.out.sv.markC hk false
      refine HMK.out.mono ?_
      rintro e w6 ⟨rfl,hb2,hp2,hs2⟩
      have HB2:Hid _:=hb2
      have HP2:Hid _:=hp2
      have HS2:Hid _:=hs2
      clear hb2 hp2 hs2
      go_wp2_with fail
      go_roundg (64-(k+1))
      case measure=>omega
      case rel =>
       have hs3:SV w6 (fun _=>True) B [] (fun i=>if i<k+1 then x.dnB i else false) (fun _=>[]) V L R 0:=by rw [<- j9,HD.out];exact HS2.out
       exact ⟨k+1,by omega,by go_num,_,by rw [HL.out];exact HT5.out.kp HBE.out hBl HB2.out HP2.out hs3⟩
     | false =>
      have HMK:Hid (Calls Tryz.prog 16 #[.pointer (some ⟨B,0,none⟩),J Z k,.bool true] wr fun e w'=>e=.returned (J Z 0)/\Below B wr w'/\Kp B wr w'/\SV w' (fun _=>True) B [] (fun i=>if i=k then false else if i<k then x.dnB i else false) (fun _=>[]) V L R 0):=HT.out.sv.markC hk true
      have HD:Hid (x.dnB k=false):=hd
      clear hd
      go_wp2_with fail
      refine HMK.out.mono ?_
      rintro e w2 ⟨rfl,hb2,hp2,hs2⟩
      have HB2:Hid _:=hb2
      have HP2:Hid _:=hp2
      have HS2:Hid _:=hs2
      clear hb2 hp2 hs2
      go_wp2_with fail
      go_roundg (64-(k+1))
      case measure=>omega
      case rel =>
       have hs3:SV w2 (fun _=>True) B [] (fun i=>if i<k+1 then x.dnB i else false) (fun _=>[]) V L R 0:=by rw [<- j9,HD.out];exact HS2.out
       have HL:dnL x.dnB (k+1)=dnL x.dnB k:=by rw [dnL,HD.out];simp
       exact ⟨k+1,by omega,by go_num,dv,by rw [HL];exact HT.out.kp HBE.out hBl HB2.out HP2.out hs3⟩
  ·have hk':¬ (k:Int)<64:=by omega
   have HT1:Hid (TT w0 w x B V L R (fun i=>if i<64 then x.dnB i else false) (fun i=>if i<0 then x.AL i else []) (dnL x.dnB 64) dv (O none 0 0) [] w1):=by
    obtain rfl:k=64:=by omega
    exact HT.out
   have HDN:Hid (dnL (fun i=>if i<64 then x.dnB i else false) 64=dnL x.dnB 64):=zag (fun i hi=>by rw [if_pos hi])
   have HLL:Hid ((dnL x.dnB 64).length<=64):=Xp _ _
   generalize (fun i=>if i<64 then x.dnB i else false)=DN at *
   generalize dnL x.dnB 64=LL at *
   clear HT
   go_wp2_with fail
   go_loopg [11] 16 (fun q y wq=>∃ (j:Nat),q+j=16/\y=J Z j/\∃ av avs,avs.length=j/\TT w0 w x B V L R DN (fun i=>if i<j then x.AL i else []) LL dv av avs wq)
   case atStart=>exact ⟨0,by omega,rfl,_,[],rfl,HT1.out⟩
   case round =>
    obtain ⟨j,hq,rfl,av,avs,hlen,hT⟩:=hrel
    have HLEN:Hid (avs.length=j):=hlen
    have hlj:avs.length<=j:=by omega
    clear hlen
    obtain ⟨w2,hw2⟩:∃ w2,w2=wr:=⟨_,rfl⟩
    subst hw2
    have HT:Hid _:=hT
    clear hT
    by_cases hj:j<16
    ·have hj':(j:Int)<16:=by omega
     have hj0:(0:Int)<=(j:Int):=by omega
     have c4:w2.cell? ⟨w.heap.size,4,none⟩=some (O x.ao x.al.length x.ac):=by rw [cell_of_row _ _ _ _ _ _ HT.out.bx];rfl
     have HC4:Hid _:=c4
     have HIn:Hid _:=HX.out.below HT.out.bel
     have hbxl:=lt_of_block HT.out.bx
     clear c4
     go_wp2_with fail
     go_loopg [12,13] (x.AL j).length (fun q y12 y13 wq=>∃ i,q+i=(x.AL j).length/\y13=J Z (i:Nat)/\Below w2.heap.size w2 wq/\wq.ownsRow w2.heap.size 3 1 y12 i (((x.AL j).take i).map (J Z)))
     case atStart=>exact ⟨0,by omega,rfl,Below.refl _ _,⟨rfl,.inl ⟨rfl,rfl⟩⟩⟩
     case round =>
      obtain ⟨i,hq2,rfl,hbq,howq⟩:=hrel
      obtain ⟨lo,lc,hlv,_⟩:=zY howq
      subst hlv
      have HBq:Hid (Below w2.heap.size w2 wr):=hbq
      have HOq:Hid (wr.ownsRow w2.heap.size 3 1 (O lo i lc) i (((x.AL j).take i).map (J Z))):=howq
      have cq:wr.cell? ⟨w.heap.size,4,none⟩=some (O x.ao x.al.length x.ac):=(hbq.cell (p:=⟨w.heap.size,4,none⟩) hbxl).trans HC4.out
      have hsz2:=hbq.size
      clear hbq howq
      have hi0:(0:Int)<=(i:Int):=by omega
      by_cases hi:i<(x.AL j).length
      ·obtain ⟨l,hl,hil,hi16,z,hz,hzA⟩:=zd8 hi
       have hjl:j<x.al.length:=(List.getElem?_eq_some_iff.1 hl).1
       obtain ⟨lo',lc',hcA,hin⟩:=HIn.out.as_.val j l hl
       obtain ⟨lb,loff,hlo',hlb,hvals⟩:=hin (by omega)
       subst hlo'
       rw [HIn.out.as_.at_ (by omega)] at cq
       have ca:wr.cell? ⟨x.ab,x.aoff+j,none⟩=some (O (some ⟨lb,loff,none⟩) l.length lc'):=(HBq.out.cell (p:=⟨x.ab,x.aoff+j,none⟩) (HIn.out.as_.lt (by omega))).trans hcA
       have ce:wr.cell? ⟨lb,loff+i,none⟩=some (J Z z):=(HBq.out.cell (p:=⟨lb,loff+i,none⟩) hlb).trans (hvals i z hz)
       have hbz:=HBD.out l (List.mem_of_getElem? hl) z (List.mem_of_getElem? hz)
       have hjl':(j:Int)<(x.al.length:Int):=by omega
       have hil':(i:Int)<(l.length:Int):=by omega
       have hi16':(i:Int)<16:=by omega
       have HZA:Hid ((x.AL j).take (i+1)=(x.AL j).take i++[pkF z 64]):=by
        show _=_
        rw [List.take_add_one,hzA];rfl
       obtain ⟨i1,hi1,hy0,hy1,hy2⟩:=info_parts Tryz.infoInt
       clear hcA hvals hin hzA hz hl
       go_wp2_with fail
       refine (JP z 64 _ hbz.1 hbz.2 (by decide) (by decide)).mono ?_
       rintro e w' ⟨rfl,hw'⟩
       subst w'
       generalize pkF z 64=pz at *
       have hone:∀ u∈[J Z pz],u.oneCell'=true:=fun u hu=>by simp at hu;subst hu;rfl
       have hli:(List.map (J Z) ((x.AL j).take i)).length=i*1:=by simp;omega
       go_wp2_with (at_builtin;refine wpList_append_lies _ rfl _ _ 25 rfl w2.heap.size 3 i1 _ 1 8 Tryz.underlying25 hi1 hy0 hy1 hy2 rfl (by decide) (O lo i lc) _ _ rfl (HOq.out.alloc _) ⟨wr.heap.size,0,none⟩ 1 1 [J Z pz] rfl rfl (World.news_of_block (cs:=#[J Z pz]) (t:=3) (fr:=(0,0)) (heap_alloc_new wr _)) hone (Nat.lt_succ_self 0) (by unfold maxLen;omega) (by omega) (by simp;omega) (wr.heap.size+1) (by simp) ?_;intro g4 cap4 w4 hown4 hgrow4 hat4 hlt4)
       have HG4:Hid _:=hgrow4
       have HO4:Hid (w4.ownsRow w2.heap.size 3 1 (O (some ⟨g4,0,none⟩) (i+1) cap4) (i+1) (((x.AL j).take i).map (J Z)++[J Z pz])):=hown4
       clear hown4 hgrow4 hat4 hlt4
       go_wp2_with fail
       go_roundg ((x.AL j).length-(i+1))
       case measure=>omega
       case rel =>
        refine ⟨i+1,by omega,by go_num,(HBq.out.alloc HBq.out.size _).grown HG4.out (by simp;omega) (fun b hb=>(HOq.out.lt b hb).1),?_⟩
        rw [HZA.out,List.map_append]
        exact HO4.out
      ·have hie:i=(x.AL j).length:=by omega
       have HOl:Hid (wr.ownsRow w2.heap.size 3 1 (O lo (x.AL j).length lc) (x.AL j).length ((x.AL j).map (J Z))):=by
        have:=HOq.out
        rw [hie,List.take_length] at this
        exact this
       obtain ⟨i2,hi2,hy0,hy1,hy2⟩:=info_parts Tryz.infoIs
       have hrowT:=HT.out.arow
       obtain ⟨oA,kA,hav,_⟩:=zY hrowT
       subst hav
       have HTq:Hid _:=HT.out.below HBq.out
       have q4:wr.cell? ⟨w.heap.size+1+1,4,none⟩=some (O oA avs.length kA):=by rw [cell_of_row _ _ _ _ _ _ HTq.out.vv];rfl
       have z4:wr.frozen? ⟨w.heap.size+1+1,4,none⟩=false:=by simp [World.frozen?,HTq.out.vv]
       have hlV:=lt_of_block HTq.out.vv
       have HAR:Hid (wr.ownsRow (w.heap.size+1+1+1) 25 1 (O oA avs.length kA) avs.length avs):=HTq.out.arow
       have HLI:Hid (yF wr (fun b=>b≠B) (O lo (x.AL j).length lc) (x.AL avs.length)):=by
        have h9:yF wr (fun b=>b≠B) (O lo (x.AL j).length lc) (x.AL j):=yF.own HOl.out (fun b hb=>by have:=HT.out.sv.lt;omega)
        rw [HLEN.out];exact h9
       have hone:∀ u∈[O lo (x.AL j).length lc],u.oneCell'=true:=fun u hu=>by simp at hu;subst hu;rfl
       have hG:Hid (∀ (w9:World) (ob:Obj),(wr.alloc ob).grownBy w9 (O oA avs.length kA).ownBlock->w9.cell? ⟨w.heap.size+1+1,4,none⟩=some (O oA avs.length kA)/\w9.frozen? ⟨w.heap.size+1+1,4,none⟩=false):=fun w9 ob hg=>by
        have hb:w9.heap[w.heap.size+1+1]?=wr.heap[w.heap.size+1+1]?:=by
         rw [hg.block _ (by simp;omega) (fun e=>zs HAR.out HTq.out.vv (by decide) e.symm),Below.heap_alloc _ _ _ hlV]
        exact ⟨(World.cell?_of_block (a:=⟨w.heap.size+1+1,4,none⟩) hb).trans q4,(World.frozen?_of_block (a:=⟨w.heap.size+1+1,4,none⟩) hb).trans z4⟩
       have hex:(¬ (j:Int)<(x.al.length:Int))\/(∃ (l:List Int) (lo':Option Addr) (lc':Nat),(j:Int)<(x.al.length:Int)/\x.ao=some ⟨x.ab,x.aoff,none⟩/\wr.cell? ⟨x.ab,x.aoff+j,none⟩=some (O lo' l.length lc')/\¬ (i:Int)<(l.length:Int))\/(∃ (l:List Int) (lo':Option Addr) (lc':Nat),(j:Int)<(x.al.length:Int)/\x.ao=some ⟨x.ab,x.aoff,none⟩/\wr.cell? ⟨x.ab,x.aoff+j,none⟩=some (O lo' l.length lc')/\(i:Int)<(l.length:Int)/\¬ (i:Int)<16):=by
        by_cases hjl:j<x.al.length
        ·right
         have hl:x.al[j]?=some x.al[j]:=List.getElem?_eq_getElem hjl
         obtain ⟨lo',lc',hcA,_⟩:=HIn.out.as_.val j _ hl
         have hao:=HIn.out.as_.at_ (by omega)
         have ca:=(HBq.out.cell (p:=⟨x.ab,x.aoff+j,none⟩) (HIn.out.as_.lt (by omega))).trans hcA
         have hle:(x.AL j).length=min 16 x.al[j].length:=by unfold WD.AL;rw [hl];simp
         by_cases hil:i<x.al[j].length
         ·right;exact ⟨_,lo',lc',by omega,hao,ca,by omega,by omega⟩
         ·left;exact ⟨_,lo',lc',by omega,hao,ca,by omega⟩
        ·left;omega
       have HIE:Hid (i=(x.AL j).length):=hie
       have hi16':i<=16:=by have:=jV x j;omega
       rw [<- HIE.out] at hone HLI HOl
       clear hie hrowT hi
       rcases hex with hjl | ⟨l,lo',lc',hjl,hao,ca,hil⟩ | ⟨l,lo',lc',hjl,hao,ca,hil,hi16⟩
       all_goals
        first
         | (rw [hao] at cq;clear hao)
         | skip
        go_wp2_with (at_builtin;refine wpList_append_lies _ rfl _ _ 28 rfl (w.heap.size+1+1+1) 25 i2 _ 1 24 Tryz.underlying28 hi2 hy0 hy1 hy2 rfl (by decide) (O oA avs.length kA) _ _ rfl (HAR.out.alloc _) ⟨wr.heap.size,0,none⟩ 1 1 [O lo i lc] rfl rfl (World.news_of_block (cs:=#[O lo i lc]) (t:=25) (fr:=(0,0)) (heap_alloc_new wr _)) hone (Nat.lt_succ_self 0) (by unfold maxLen;omega) (by omega) (by simp;omega) (wr.heap.size+1) (by simp) ?_;intro g4 cap4 w4 hown4 hgrow4 hat4 hlt4;obtain ⟨y3,yz⟩:=hG.out w4 _ hgrow4)
        have HG4:Hid _:=hgrow4
        have HO4:Hid (w4.ownsRow (w.heap.size+1+1+1) 25 1 (O (some ⟨g4,0,none⟩) (avs.length+1) cap4) (avs.length+1) (avs++[O lo i lc])):=hown4
        have HT5:Hid _:=HTq.out.appA HBE.out hBl HG4.out HO4.out HLI.out
        clear hown4 hgrow4 hat4 hlt4
        go_wp2_with fail
        generalize w4.setCell ⟨w.heap.size+1+1,4,none⟩ (O (some ⟨g4,0,none⟩) (avs.length+1) cap4)=w5 at *
        have HAC:Hid (Calls Tryz.prog 18 #[.pointer (some ⟨B,0,none⟩),J Z j,O lo i lc] w5 fun e w'=>e=.returned (J Z 0)/\Below B w5 w'/\Kp B w5 w'/\SV w' (fun _=>True) B [] DN (fun i=>if i=j then (List.range (x.AL j).length).map (fun i=>((x.AL j)[i]?).getD 0) else if i<j then x.AL i else []) V L R 0):=by
         obtain ⟨o',c',b',off',hv',his⟩:=(HT5.out.avl avs.length (O lo i lc) (by simp)).is_
         rw [HLEN.out] at hv' his
         cases hv'
         exact HT5.out.sv.aliasC hj his (jV x j) (zd7 x j) (fun _ _=>trivial)
        refine HAC.out.mono ?_
        rintro e w6 ⟨rfl,hb2,hp2,hs2⟩
        have HB2:Hid _:=hb2
        have HP2:Hid _:=hp2
        have HS2:Hid _:=hs2
        clear hb2 hp2 hs2
        go_wp2_with fail
        go_roundg (16-(j+1))
        case measure=>omega
        case rel =>
         have hs3:SV w6 (fun _=>True) B [] DN (fun i=>if i<j+1 then x.AL i else []) V L R 0:=by rw [<- zbX];exact HS2.out
         exact ⟨j+1,by omega,by go_num,_,_,by simp [HLEN.out],HT5.out.kp HBE.out hBl HB2.out HP2.out hs3⟩
    ·have hj':¬ (j:Int)<16:=by omega
     have HL16:Hid (avs.length=16):=by show _=_;have:=HLEN.out;omega
     have c5:w2.cell? ⟨w.heap.size,5,none⟩=some (O x.po x.pl x.pcp):=by rw [cell_of_row _ _ _ _ _ _ HT.out.bx];rfl
     have HIn:Hid _:=HX.out.below HT.out.bel
     have hrowT:=HT.out.row
     have harowT:=HT.out.arow
     obtain ⟨oD,kD,hdv,_⟩:=zY hrowT
     obtain ⟨oA,kA,hav,_⟩:=zY harowT
     subst hdv hav
     clear hrowT harowT
     go_wp2_with fail
     refine (jT x.po x.pb x.poff x.pl x.pcp x.V x.L x.R _ HPL.out HIn.out.ts).mono ?_
     rintro e w3 ⟨rfl,hb3⟩
     have HT3:Hid _:=HT.out.below hb3
     have HTS:Hid _:=HIn.out.ts.below hb3
     clear hb3 c5
     have c5:w3.cell? ⟨w.heap.size,5,none⟩=some (O x.po x.pl x.pcp):=by rw [cell_of_row _ _ _ _ _ _ HT3.out.bx];rfl
     cases hP:(yZ x.R x.pl && M.isMap x.V x.L x.pl) with
     | true =>
      have HLC:Hid (Calls Tryz.prog 20 #[.pointer (some ⟨B,0,none⟩),O x.po x.pl x.pcp] w3 fun e w'=>e=.returned (J Z 0)/\Below B w3 w'/\Kp B w3 w'/\SV w' (fun _=>True) B [] DN (fun i=>if i<j then x.AL i else []) x.V x.L x.R x.pl):=HT3.out.sv.locateC (c:=x.pcp) HTS.out hP (fun _ _=>trivial)
      have HPT:Hid (Zd x.V x.L x.R x.pl=true):=hP
      clear hP
      go_wp2_with fail
      refine HLC.out.mono ?_
      rintro e w4 ⟨rfl,hb4,hk4,hs4⟩
      have HB4:Hid _:=hb4
      have HK4:Hid _:=hk4
      have HS4:Hid _:=hs4
      have hX4:=(hk4.block _ (by omega) (lt_of_block HT3.out.bx)).trans HT3.out.bx
      have hV4:=(hk4.block _ (by omega) (lt_of_block HT3.out.vv)).trans HT3.out.vv
      have hR4:=(hk4.block _ (by omega) (lt_of_block HT3.out.rs)).trans HT3.out.rs
      clear hb4 hk4 hs4 c5 HLC
      have c5:w4.cell? ⟨w.heap.size,5,none⟩=some (O x.po x.pl x.pcp):=by rw [cell_of_row _ _ _ _ _ _ hX4];rfl
      have v0:w4.cell? ⟨w.heap.size+1+1,0,none⟩=some (J Z 0):=by rw [cell_of_row _ _ _ _ _ _ hV4];rfl
      have v1:w4.cell? ⟨w.heap.size+1+1,1,none⟩=some (J Z 0):=by rw [cell_of_row _ _ _ _ _ _ hV4];rfl
      have v2:w4.cell? ⟨w.heap.size+1+1,2,none⟩=some (J Z 0):=by rw [cell_of_row _ _ _ _ _ _ hV4];rfl
      have v3:w4.cell? ⟨w.heap.size+1+1,3,none⟩=some (O oD LL.length kD):=by rw [cell_of_row _ _ _ _ _ _ hV4];rfl
      have v4:w4.cell? ⟨w.heap.size+1+1,4,none⟩=some (O oA avs.length kA):=by rw [cell_of_row _ _ _ _ _ _ hV4];rfl
      have v5:w4.cell? ⟨w.heap.size+1+1,5,none⟩=some (O none 0 0):=by rw [cell_of_row _ _ _ _ _ _ hV4];rfl
      have zv:w4.frozen? ⟨w.heap.size+1+1,5,none⟩=false:=by simp [World.frozen?,hV4]
      have r0:w4.cell? ⟨w.heap.size+1,0,none⟩=some (J Z 0):=by rw [cell_of_row _ _ _ _ _ _ hR4];rfl
      have r1:w4.cell? ⟨w.heap.size+1,1,none⟩=some (J Z 0):=by rw [cell_of_row _ _ _ _ _ _ hR4];rfl
      have r2:w4.cell? ⟨w.heap.size+1,2,none⟩=some (J Z 0):=by rw [cell_of_row _ _ _ _ _ _ hR4];rfl
      have r3:w4.cell? ⟨w.heap.size+1,3,none⟩=some (O none 0 0):=by rw [cell_of_row _ _ _ _ _ _ hR4];rfl
      have r4:w4.cell? ⟨w.heap.size+1,4,none⟩=some (O none 0 0):=by rw [cell_of_row _ _ _ _ _ _ hR4];rfl
      have r5:w4.cell? ⟨w.heap.size+1,5,none⟩=some (O none 0 0):=by rw [cell_of_row _ _ _ _ _ _ hR4];rfl
      have y0:w4.frozen? ⟨w.heap.size+1,0,none⟩=false:=by simp [World.frozen?,hR4]
      have y1:w4.frozen? ⟨w.heap.size+1,1,none⟩=false:=by simp [World.frozen?,hR4]
      have y2:w4.frozen? ⟨w.heap.size+1,2,none⟩=false:=by simp [World.frozen?,hR4]
      have y3:w4.frozen? ⟨w.heap.size+1,3,none⟩=false:=by simp [World.frozen?,hR4]
      have y4:w4.frozen? ⟨w.heap.size+1,4,none⟩=false:=by simp [World.frozen?,hR4]
      have y5:w4.frozen? ⟨w.heap.size+1,5,none⟩=false:=by simp [World.frozen?,hR4]
      have HV4:Hid _:=hV4
      have HR4:Hid _:=hR4
      clear hV4 hR4 hX4
      go_wp2_with fail
      refine bodyPost_ret (v:=.tuple #[.agg (vC (O oD LL.length kD) (O oA avs.length kA) (O x.po x.pl x.pcp)),.bool true]) ?_ rfl ?_
      ·rw [results_cell_tmp Tryz.results8]
       have h5:∀ we:World,(asAddr (.pointer (some ⟨w.heap.size+1,0,none⟩))).run Tryz.prog we=.ok ⟨w.heap.size+1,0,none⟩ we:=fun _=>rfl
       have h6:=fun (we:World) (hb:we.heap[w.heap.size+1]?=some (X (vC (O oD LL.length kD) (O oA avs.length kA) (O x.po x.pl x.pcp)) 31 (0,0)))=>run_loadVar_row (P:=Tryz.prog) we (w.heap.size+1) 31 31 (vC (O oD LL.length kD) (O oA avs.length kA) (O x.po x.pl x.pcp)) (0,0) _ hb Tryz.underlying31 rfl (by kernel_rfl)
       show ((asAddr (.pointer (some ⟨w.heap.size+1,0,none⟩))).run Tryz.prog _).andThen _=_
       rw [h5,Result.andThen_ok,h6 _ (X5 ((za (by omega)).trans HR4.out)),Result.andThen_ok]
       rfl
      ·refine Qn HT3.out HL16.out HLL.out HBE.out hBl HB4.out HK4.out (fun b h1 h2=>?_) ?_ x.po x.pb x.poff x.pl x.pcp x.V x.L x.R HX.out.ts HS4.out HPT.out HDN.out (fun i hi=>if_pos (by omega))
       ·rw [za h1,za h1,za h1,za h1,za h1,za h1,za h2]
       ·have hbe:=HBE.out
        have h9:Below w0.heap.size w4 w4:=Below.refl _ _
        exact ((((((h9.setCell (by simp only;omega) _).setCell (by simp only;omega) _).setCell (by simp only;omega) _).setCell (by simp only;omega) _).setCell (by simp only;omega) _).setCell (by simp only;omega) _).setCell (by simp only;omega) _
     | false =>
      have HLN:Hid (Calls Tryz.prog 20 #[.pointer (some ⟨B,0,none⟩),O x.po x.pl x.pcp] w3 fun e w'=>e=.returned (J Z 9)/\Below w3.heap.size w3 w'):=JT B x.po x.pb x.poff x.pl x.pcp x.V x.L x.R w3 HTS.out hP
      clear hP
      go_wp2_with fail
      refine HLN.out.mono ?_
      rintro e w4 ⟨rfl,hb4⟩
      have HT4:Hid _:=HT3.out.below hb4
      clear hb4 HLN HT3
      have HT3:Hid _:=HT4.out
      have hV4:=HT3.out.vv
      have hR4:=HT3.out.rs
      have v0:w4.cell? ⟨w.heap.size+1+1,0,none⟩=some (J Z 0):=by rw [cell_of_row _ _ _ _ _ _ hV4];rfl
      have v1:w4.cell? ⟨w.heap.size+1+1,1,none⟩=some (J Z 0):=by rw [cell_of_row _ _ _ _ _ _ hV4];rfl
      have v2:w4.cell? ⟨w.heap.size+1+1,2,none⟩=some (J Z 0):=by rw [cell_of_row _ _ _ _ _ _ hV4];rfl
      have v3:w4.cell? ⟨w.heap.size+1+1,3,none⟩=some (O oD LL.length kD):=by rw [cell_of_row _ _ _ _ _ _ hV4];rfl
      have v4:w4.cell? ⟨w.heap.size+1+1,4,none⟩=some (O oA avs.length kA):=by rw [cell_of_row _ _ _ _ _ _ hV4];rfl
      have v5:w4.cell? ⟨w.heap.size+1+1,5,none⟩=some (O none 0 0):=by rw [cell_of_row _ _ _ _ _ _ hV4];rfl
      have zv:w4.frozen? ⟨w.heap.size+1+1,5,none⟩=false:=by simp [World.frozen?,hV4]
      have r0:w4.cell? ⟨w.heap.size+1,0,none⟩=some (J Z 0):=by rw [cell_of_row _ _ _ _ _ _ hR4];rfl
      have r1:w4.cell? ⟨w.heap.size+1,1,none⟩=some (J Z 0):=by rw [cell_of_row _ _ _ _ _ _ hR4];rfl
      have r2:w4.cell? ⟨w.heap.size+1,2,none⟩=some (J Z 0):=by rw [cell_of_row _ _ _ _ _ _ hR4];rfl
      have r3:w4.cell? ⟨w.heap.size+1,3,none⟩=some (O none 0 0):=by rw [cell_of_row _ _ _ _ _ _ hR4];rfl
      have r4:w4.cell? ⟨w.heap.size+1,4,none⟩=some (O none 0 0):=by rw [cell_of_row _ _ _ _ _ _ hR4];rfl
      have r5:w4.cell? ⟨w.heap.size+1,5,none⟩=some (O none 0 0):=by rw [cell_of_row _ _ _ _ _ _ hR4];rfl
      have y0:w4.frozen? ⟨w.heap.size+1,0,none⟩=false:=by simp [World.frozen?,hR4]
      have y1:w4.frozen? ⟨w.heap.size+1,1,none⟩=false:=by simp [World.frozen?,hR4]
      have y2:w4.frozen? ⟨w.heap.size+1,2,none⟩=false:=by simp [World.frozen?,hR4]
      have y3:w4.frozen? ⟨w.heap.size+1,3,none⟩=false:=by simp [World.frozen?,hR4]
      have y4:w4.frozen? ⟨w.heap.size+1,4,none⟩=false:=by simp [World.frozen?,hR4]
      have y5:w4.frozen? ⟨w.heap.size+1,5,none⟩=false:=by simp [World.frozen?,hR4]
      have HV4:Hid _:=hV4
      have HR4:Hid _:=hR4
      clear hV4 hR4
      go_wp2_with fail
      refine bodyPost_ret (v:=.tuple #[.agg (vC (O oD LL.length kD) (O oA avs.length kA) (O none 0 0)),.bool true]) ?_ rfl ?_
      ·rw [results_cell_tmp Tryz.results8]
       have h5:∀ we:World,(asAddr (.pointer (some ⟨w.heap.size+1,0,none⟩))).run Tryz.prog we=.ok ⟨w.heap.size+1,0,none⟩ we:=fun _=>rfl
       have h6:=fun (we:World) (hb:we.heap[w.heap.size+1]?=some (X (vC (O oD LL.length kD) (O oA avs.length kA) (O none 0 0)) 31 (0,0)))=>run_loadVar_row (P:=Tryz.prog) we (w.heap.size+1) 31 31 (vC (O oD LL.length kD) (O oA avs.length kA) (O none 0 0)) (0,0) _ hb Tryz.underlying31 rfl (by kernel_rfl)
       show ((asAddr (.pointer (some ⟨w.heap.size+1,0,none⟩))).run Tryz.prog _).andThen _=_
       rw [h5,Result.andThen_ok,h6 _ (X5 HR4.out),Result.andThen_ok]
       rfl
      ·refine Qn HT3.out HL16.out HLL.out HBE.out hBl (Below.refl _ _) ⟨Nat.le_refl _,fun _ _ _=>rfl⟩ (fun b h1 h2=>?_) ?_ none 0 0 0 0 V L R ⟨fun h=>absurd h (Nat.lt_irrefl _),fun h=>absurd h (Nat.lt_irrefl _),fun i h=>absurd h (Nat.not_lt_zero _),fun i h=>absurd h (Nat.not_lt_zero _),fun i h=>absurd h (Nat.not_lt_zero _)⟩ HT3.out.sv (za1 V L R) HDN.out (fun i hi=>if_pos (by omega))
       ·rw [za h1,za h1,za h1,za h1,za h1,za h1]
       ·have hbe:=HBE.out
        have h9:Below w0.heap.size w4 w4:=Below.refl _ _
        exact (((((h9.setCell (by simp only;omega) _).setCell (by simp only;omega) _).setCell (by simp only;omega) _).setCell (by simp only;omega) _).setCell (by simp only;omega) _).setCell (by simp only;omega) _
theorem jI {s:ByteArray} (h:s.size=0):s=⟨#[]⟩:=by
 cases s with
 | mk d =>
  have:d=#[]:=Array.eq_empty_of_size_eq_zero h
  rw [this]
theorem Qc:(⟨#[]⟩:ByteArray).toList=[]:=by
 unfold ByteArray.toList;unfold ByteArray.toList.loop;simp [ByteArray.size]
theorem JQ {s:ByteArray} (h:s≠⟨#[]⟩):(s.toList==(⟨#[]⟩:ByteArray).toList)=false:=by
 cases hq:(s.toList==(⟨#[]⟩:ByteArray).toList) with
 | false=>rfl
 | true=>exact absurd (jI ((YC _ _).1 hq).1) h
theorem zas (B:Nat) (v x:WD) (C:List Int) (dn:Nat->Bool) (al:Nat->List Int) (s:ByteArray) (w:World) (hv:v.Av w B) (hsv:SV w (fun _=>True) B C dn al v.V v.L v.R v.pl) (h1:v.dl=(dnL dn 64).length) (h2:v.Dn=fun i=>((dnL dn 64)[i]?).getD 0) (h3:v.al=(List.range 16).map al) (hp:Zd v.V v.L v.R v.pl=true) (hs:s=⟨#[]⟩/\C=[]\/s≠⟨#[]⟩/\cpE s=0/\C=cpX s) :
 Calls Tryz.prog 9 #[.pointer (some ⟨B,0,none⟩),v.val,x.val,.string s] w fun e w'=>e=.returned (.bool true)/\Below w.heap.size w w':=by
 obtain ⟨Q,HQE⟩:∃ Q,Hid (quF x.a x.b x.d dn ((List.range 16).map al) v.V v.L v.R v.pl C=Q):=⟨_,rfl⟩
 have HQ:Hid (∀ wz,Below w.heap.size w wz->Calls Tryz.prog 12 #[.pointer (some ⟨B,0,none⟩),J Z x.a,J Z x.b,J Z x.d] wz (xT wz Q)):=fun wz hb=>by
  have:=(hsv.below hb).queryC x.a x.b x.d
  rw [HQE.out] at this
  exact this
 obtain ⟨u,HU⟩:∃ u:WD,Hid (u={ v with a:=x.a,b:=x.b,d:=x.d }):=⟨_,rfl⟩
 have HUI:Hid (∀ wz,Below w.heap.size w wz->u.In wz):=fun wz hb=>by
  have h9:=hv.in_.below hb
  rw [HU.out]
  exact ⟨h9.ts,h9.is_,h9.as_,h9.ndl,h9.nal⟩
 have HUV:Hid (u.val=.agg #[J Z x.a,J Z x.b,J Z x.d,O v.do_ v.dl v.dc,O v.ao v.al.length v.ac,O v.po v.pl v.pcp]):=by show _=_;rw [HU.out];rfl
 have HQ9:Hid (Zm x.a x.b x.d=false->Q=(9,[],0,0)):=fun h=>by rw [<- HQE.out];unfold quF;rw [if_neg (by rw [h];decide)]
 have HQC:Hid (Zm x.a x.b x.d=true->s=⟨#[]⟩->Q=(12,[],0,0)):=fun h h0=>by
  rw [<- HQE.out];unfold quF;rw [if_pos h]
  rcases hs with ⟨_,hc⟩ | ⟨hn,_⟩
  ·rw [hc];rfl
  ·exact absurd h0 hn
 have HQ0:Hid (Zm x.a x.b x.d=true->s≠⟨#[]⟩->cpE s=0/\u.right=true/\Q=(0,u.an s)):=fun h h0=>by
  rcases hs with ⟨hn,_⟩ | ⟨_,hc,hC⟩
  ·exact absurd hn h0
  ·obtain ⟨g1,g2⟩:=zaY x.a x.b x.d h1 h2 h3 hp hc h
   rw [HU.out,<- HQE.out,hC]
   exact ⟨hc,g2,g1⟩
 clear hv hsv h1 h2 h3 hp hs HQE HU
 unfold WD.val
 obtain ⟨va,vb,vd,vdo,vdb,vdoff,vdl,vdc,vDn,vao,vab,vaoff,vac,val,vpo,vpb,vpoff,vpl,vpcp,vV,vL,vR⟩:=v
 obtain ⟨xa,xb,xd,xdo,xdb,xdoff,xdl,xdc,xDn,xao,xab,xaoff,xac,xal,xpo,xpb,xpoff,xpl,xpcp,xV,xL,xR⟩:=x
 simp only at HQ HUV HQ9 HQC HQ0 ⊢
 have HB0:Hid (Below w.heap.size w ((w.alloc (X #[J Z va,J Z vb,J Z vd,O vdo vdl vdc,O vao val.length vac,O vpo vpl vpcp] 31)).alloc (X #[J Z xa,J Z xb,J Z xd,O xdo xdl xdc,O xao xal.length xac,O xpo xpl xpcp] 31))):=((Below.refl _ _).alloc (Nat.le_refl _) _).alloc (by simp) _
 have HV0:Hid (((w.alloc (X #[J Z va,J Z vb,J Z vd,O vdo vdl vdc,O vao val.length vac,O vpo vpl vpcp] 31)).alloc (X #[J Z xa,J Z xb,J Z xd,O xdo xdl xdc,O xao xal.length xac,O xpo xpl xpcp] 31)).heap[w.heap.size]?=some (X #[J Z va,J Z vb,J Z vd,O vdo vdl vdc,O vao val.length vac,O vpo vpl vpcp] 31 (0,0))):=by show _=_;rw [Below.heap_alloc _ _ _ (by simp)];exact heap_alloc_new w _
 have HX0:Hid (((w.alloc (X #[J Z va,J Z vb,J Z vd,O vdo vdl vdc,O vao val.length vac,O vpo vpl vpcp] 31)).alloc (X #[J Z xa,J Z xb,J Z xd,O xdo xdl xdc,O xao xal.length xac,O xpo xpl xpcp] 31)).heap[w.heap.size+1]?=some (X #[J Z xa,J Z xb,J Z xd,O xdo xdl xdc,O xao xal.length xac,O xpo xpl xpcp] 31 (0,0))):=zy _ (by simp)
 go_enter Tryz.func9,Tryz.ntmps9
 go_wp2_with fail
 refine (HQ.out _ HB0.out).mono ?_
 rintro e w1 ⟨hb1,o,m,k,rfl,hne,heq⟩
 have HB1:Hid (Below w.heap.size w w1):=HB0.out.trans (hb1.mono HB0.out.size)
 have HV1:Hid (w1.heap[w.heap.size]?=some (X #[J Z va,J Z vb,J Z vd,O vdo vdl vdc,O vao val.length vac,O vpo vpl vpcp] 31 (0,0))):=(hb1.block _ (lt_of_block HV0.out)).trans HV0.out
 have HX1:Hid (w1.heap[w.heap.size+1]?=some (X #[J Z xa,J Z xb,J Z xd,O xdo xdl xdc,O xao xal.length xac,O xpo xpl xpcp] 31 (0,0))):=(hb1.block _ (lt_of_block HX0.out)).trans HX0.out
 have hlx:=lt_of_block HX1.out
 have HNE:Hid _:=hne
 have HEQ:Hid (Q.1=0->m=Q.2.1.length/\w1.ownsRow w.heap.size 3 1 (O o m k) Q.2.1.length (Q.2.1.map (J Z))):=fun h=>⟨(heq h).1,yk (heq h).2 HB0.out.size⟩
 clear hb1 hne heq
 have HB2:Hid (Below w.heap.size w (w1.alloc (X #[O o m k,J Z Q.2.2.1,J Z Q.2.2.2] 42))):=HB1.out.alloc HB1.out.size _
 have HA2:Hid ((w1.alloc (X #[O o m k,J Z Q.2.2.1,J Z Q.2.2.2] 42)).heap[w1.heap.size]?=some (X #[O o m k,J Z Q.2.2.1,J Z Q.2.2.2] 42 (0,0))):=heap_alloc_new _ _
 have HV2:Hid ((w1.alloc (X #[O o m k,J Z Q.2.2.1,J Z Q.2.2.2] 42)).heap[w.heap.size]?=some (X #[J Z va,J Z vb,J Z vd,O vdo vdl vdc,O vao val.length vac,O vpo vpl vpcp] 31 (0,0))):=by show _=_;rw [Below.heap_alloc _ _ _ (by omega)];exact HV1.out
 have HX2:Hid ((w1.alloc (X #[O o m k,J Z Q.2.2.1,J Z Q.2.2.2] 42)).heap[w.heap.size+1]?=some (X #[J Z xa,J Z xb,J Z xd,O xdo xdl xdc,O xao xal.length xac,O xpo xpl xpcp] 31 (0,0))):=by show _=_;rw [Below.heap_alloc _ _ _ hlx];exact HX1.out
 have HO2:Hid (Q.1=0->m=Q.2.1.length/\(w1.alloc (X #[O o m k,J Z Q.2.2.1,J Z Q.2.2.2] 42)).ownsRow w.heap.size 3 1 (O o m k) Q.2.1.length (Q.2.1.map (J Z))):=fun h=>⟨(HEQ.out h).1,(HEQ.out h).2.alloc _⟩
 obtain ⟨qe,qs,qt,qc⟩:=Q
 simp only at HA2 HV2 HX2 HO2 HB2 ⊢
 have q0:w1.cell? ⟨w.heap.size+1,0,none⟩=some (J Z xa):=by rw [cell_of_row _ _ _ _ _ _ HX1.out];rfl
 have q1:w1.cell? ⟨w.heap.size+1,1,none⟩=some (J Z xb):=by rw [cell_of_row _ _ _ _ _ _ HX1.out];rfl
 have q2:w1.cell? ⟨w.heap.size+1,2,none⟩=some (J Z xd):=by rw [cell_of_row _ _ _ _ _ _ HX1.out];rfl
 go_wp2_with fail
 refine (zaz xa xb xd _).mono ?_
 rintro e w' ⟨rfl,hw'⟩
 subst w'
 cases hk:Zm xa xb xd with
 | false =>
  have hQ:=HQ9.out hk
  simp only [Prod.mk.injEq] at hQ
  obtain ⟨rfl,rfl,rfl,rfl⟩:=hQ
  clear hk HQ HQ9 HQC HQ0
  go_wp2_with fail
  go_ret
  exact ⟨rfl,HB2.out⟩
 | true =>
  by_cases hs:s=⟨#[]⟩
  ·have hQ:=HQC.out hk hs
   simp only [Prod.mk.injEq] at hQ
   obtain ⟨rfl,rfl,rfl,rfl⟩:=hQ
   subst hs
   clear hk HQ HQ9 HQC HQ0
   go_wp2_with fail
   go_ret
   exact ⟨rfl,HB2.out⟩
  ·obtain ⟨hc,hr,hQ⟩:=HQ0.out hk hs
   have hf:Yi s=true:=by unfold Yi;rw [hc];rfl
   obtain ⟨p1,p2,p3,p4,_,_⟩:=zd2 hf hr
   have HAN:Hid (∀ wz,u.In wz->Calls Tryz.prog 22 #[.string s,u.val] wz (zd6 wz (u.an s).1 (u.an s).2.1 (u.an s).2.2)):=fun wz h=>zat s u _ _ _ wz h hc (zaT hf hr) p1 p2 p3 p4
   clear p1 p2 p3 p4 hf hc hr
   obtain ⟨sv,t,c,HANE⟩:∃ sv t c,Hid (u.an s=(sv,t,c)):=⟨_,_,_,rfl⟩
   rw [HANE.out] at HAN hQ
   try simp only at HAN
   rw [HUV.out] at HAN
   simp only [Prod.mk.injEq] at hQ
   obtain ⟨rfl,rfl,rfl,rfl⟩:=hQ
   clear hk HQ HQ9 HQC HQ0
   obtain ⟨hm,hrow⟩:=HO2.out rfl
   try simp only at hm hrow
   subst hm
   have HROW:Hid _:=hrow
   clear hrow
   generalize w1.alloc (X #[O o qs.length k,J Z qt,J Z qc] 42)=w2 at *
   clear q0 q1 q2
   have q0:w2.cell? ⟨w.heap.size+1,0,none⟩=some (J Z xa):=by rw [cell_of_row _ _ _ _ _ _ HX2.out];rfl
   have q1:w2.cell? ⟨w.heap.size+1,1,none⟩=some (J Z xb):=by rw [cell_of_row _ _ _ _ _ _ HX2.out];rfl
   have q2:w2.cell? ⟨w.heap.size+1,2,none⟩=some (J Z xd):=by rw [cell_of_row _ _ _ _ _ _ HX2.out];rfl
   have v0:w2.cell? ⟨w.heap.size,0,none⟩=some (J Z va):=by rw [cell_of_row _ _ _ _ _ _ HV2.out];rfl
   have v1:w2.cell? ⟨w.heap.size,1,none⟩=some (J Z vb):=by rw [cell_of_row _ _ _ _ _ _ HV2.out];rfl
   have v2:w2.cell? ⟨w.heap.size,2,none⟩=some (J Z vd):=by rw [cell_of_row _ _ _ _ _ _ HV2.out];rfl
   have v3:w2.cell? ⟨w.heap.size,3,none⟩=some (O vdo vdl vdc):=by rw [cell_of_row _ _ _ _ _ _ HV2.out];rfl
   have v4:w2.cell? ⟨w.heap.size,4,none⟩=some (O vao val.length vac):=by rw [cell_of_row _ _ _ _ _ _ HV2.out];rfl
   have v5:w2.cell? ⟨w.heap.size,5,none⟩=some (O vpo vpl vpcp):=by rw [cell_of_row _ _ _ _ _ _ HV2.out];rfl
   have z0:w2.frozen? ⟨w.heap.size,0,none⟩=false:=by simp [World.frozen?,HV2.out]
   have z1:w2.frozen? ⟨w.heap.size,1,none⟩=false:=by simp [World.frozen?,HV2.out]
   have z2:w2.frozen? ⟨w.heap.size,2,none⟩=false:=by simp [World.frozen?,HV2.out]
   have HB3:Hid (Below w.heap.size w (((w2.setCell ⟨w.heap.size,0,none⟩ (J Z xa)).setCell ⟨w.heap.size,1,none⟩ (J Z xb)).setCell ⟨w.heap.size,2,none⟩ (J Z xd))):=((HB2.out.setCell (Nat.le_refl _) _).setCell (Nat.le_refl _) _).setCell (Nat.le_refl _) _
   have HA3:Hid ((((w2.setCell ⟨w.heap.size,0,none⟩ (J Z xa)).setCell ⟨w.heap.size,1,none⟩ (J Z xb)).setCell ⟨w.heap.size,2,none⟩ (J Z xd)).heap[w1.heap.size]?=some (X #[O o qs.length k,J Z qt,J Z qc] 42 (0,0))):=by show _=_;rw [za (by omega),za (by omega),za (by omega)];exact HA2.out
   have hneR:(O o qs.length k).ownBlock≠some w.heap.size:=zs HROW.out HV2.out (by decide)
   have HR3:Hid ((((w2.setCell ⟨w.heap.size,0,none⟩ (J Z xa)).setCell ⟨w.heap.size,1,none⟩ (J Z xb)).setCell ⟨w.heap.size,2,none⟩ (J Z xd)).ownsRow w.heap.size 3 1 (O o qs.length k) qs.length (qs.map (J Z))):=zh HROW.out (fun g hg=>by
    have hg':g≠w.heap.size:=fun e=>hneR (by rw [<- e];exact hg)
    rw [za hg',za hg',za hg'])
   clear hneR
   have hsb:(s.toList==[])=false:=by rw [<- Qc];exact JQ hs
   go_wp2_with fail
   clear q0 q1 q2 v0 v1 v2 v3 v4 v5 z0 z1 z2
   refine (HAN.out _ (HUI.out _ HB3.out)).mono ?_
   rintro e w7 ⟨hb7,o7,k7,rfl,hrow7⟩
   have HB7:Hid (Below w.heap.size w w7):=HB3.out.trans (hb7.mono HB3.out.size)
   have HA7:Hid (w7.heap[w1.heap.size]?=some (X #[O o qs.length k,J Z qt,J Z qc] 42 (0,0))):=(hb7.block _ (lt_of_block HA3.out)).trans HA3.out
   have hlt7:w1.heap.size<w7.heap.size:=lt_of_block HA7.out
   have HRa:Hid ((w7.alloc (X #[O o7 qs.length k7,J Z qt,J Z qc] 42)).ownsRow w.heap.size 3 1 (O o qs.length k) qs.length (qs.map (J Z))):=(zh HR3.out (fun g hg=>hb7.block g (HR3.out.lt g hg).2)).alloc _
   have HRb:Hid ((w7.alloc (X #[O o7 qs.length k7,J Z qt,J Z qc] 42)).ownsRow w.heap.size 3 1 (O o7 qs.length k7) qs.length (qs.map (J Z))):=(yk hrow7 HB3.out.size).alloc _
   have HB8:Hid (Below w.heap.size w (w7.alloc (X #[O o7 qs.length k7,J Z qt,J Z qc] 42))):=HB7.out.alloc HB7.out.size _
   have a0:w7.cell? ⟨w1.heap.size,0,none⟩=some (O o qs.length k):=by rw [cell_of_row _ _ _ _ _ _ HA7.out];rfl
   have a1:w7.cell? ⟨w1.heap.size,1,none⟩=some (J Z qt):=by rw [cell_of_row _ _ _ _ _ _ HA7.out];rfl
   have a2:w7.cell? ⟨w1.heap.size,2,none⟩=some (J Z qc):=by rw [cell_of_row _ _ _ _ _ _ HA7.out];rfl
   clear hb7 hrow7
   obtain ⟨ga,hisa⟩:=YM HRa.out
   obtain ⟨gb,hisb⟩:=YM HRb.out
   have hsl:qs.length<=9223372036854775807:=by
    rcases HRa.out.2 with ⟨_,h2⟩ | ⟨_,cap,_,h1,_,_,h4,h5,_⟩
    ·omega
    ·unfold maxLen at h5;cases h1;omega
   have HSM:=JF o o7 k k7 qs.length qt qc _ ga 0 gb 0 _ hsl hisa hisb
   clear hisa hisb
   go_wp2_with fail
   refine HSM.mono ?_
   rintro e w9 ⟨rfl,hb9⟩
   have HB9:Hid (Below w.heap.size w w9):=HB8.out.trans (hb9.mono HB8.out.size)
   clear hb9 HSM
   go_wp2_with fail
   go_ret
   exact ⟨rfl,HB9.out⟩
end Go.Proofs.YtaebngpoagjafabGreat
