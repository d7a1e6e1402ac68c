import Derived.Test.YtaebngpoagjafaaGreatT43
set_option maxRecDepth 100000
set_option maxHeartbeats 3200000
namespace Go.Proofs.YtaebngpoagjafaaGreat
open Go.RowKit
attribute [local go_sem ↓] Go.wp_at_zero Go.wp_at_succ
theorem QC (a b:ByteArray) (j:Nat):T.ch (a++b) j=if j<a.size then T.ch a j else T.ch b (j-a.size):=by
 have hs:(a++b).size=a.size+b.size:=ByteArray.size_append
 by_cases h:j<a.size
 ·rw [if_pos h,T.ch_lt h,T.ch_lt (by omega),ByteArray.getElem_append_left h]
 ·rw [if_neg h]
  by_cases h2:j<a.size+b.size
  ·rw [T.ch_lt (show j-a.size<b.size by omega),T.ch_lt (by omega),ByteArray.getElem_append_right (by omega)]
  ·rw [T.ch_ge (by omega),T.ch_ge (by omega)]
def adT (s:ByteArray) (u l:Int):ByteArray:=s++⟨#[59]⟩++strOfNums [u]++⟨#[58,61]⟩++strOfNums [l]
theorem qk (s:ByteArray) (u l:Int):(adT s u l).size=s.size+5:=by
 unfold adT
 simp only [ByteArray.size_append,strOfNums_size]
 rfl
theorem zek (s:ByteArray) {u l:Int} (hu:97<=u/\u<=122) (hl:97<=l/\l<=122):Add s (adT s u l) u l:=by
 have b1:Byt [u]:=fun x hx=>by simp at hx;omega
 have b2:Byt [l]:=fun x hx=>by simp at hx;omega
 have z1:(⟨#[59]⟩:ByteArray).size=1:=rfl
 have z2:(⟨#[58,61]⟩:ByteArray).size=2:=rfl
 have z3:∀ x:Int,(strOfNums [x]).size=1:=fun x=>by rw [strOfNums_size];rfl
 have hc:∀ j,T.ch (adT s u l) j=if j<s.size then T.ch s j else if j<s.size+1 then T.ch ⟨#[59]⟩ (j-s.size) else if j<s.size+2 then T.ch (strOfNums [u]) (j-(s.size+1)) else if j<s.size+4 then T.ch ⟨#[58,61]⟩ (j-(s.size+2)) else T.ch (strOfNums [l]) (j-(s.size+4)):=fun j=>by
  unfold adT
  rw [QC,QC,QC,QC]
  simp only [ByteArray.size_append,z1,z2,z3]
  repeat' split
  all_goals first | rfl | omega | (congr 1;omega)
 refine ⟨qk s u l,fun j hj=>by rw [hc,if_pos hj],?_,?_,?_,?_,?_⟩
 ·rw [hc,if_neg (by omega),if_pos (by omega),Nat.sub_self];rfl
 ·rw [hc,if_neg (by omega),if_neg (by omega),if_pos (by omega),Nat.sub_self,yU b1];rfl
 ·rw [hc,if_neg (by omega),if_neg (by omega),if_neg (by omega),if_pos (by omega),Nat.sub_self];rfl
 ·rw [hc,if_neg (by omega),if_neg (by omega),if_neg (by omega),if_pos (by omega),show s.size+3-(s.size+2)=1 by omega];rfl
 ·rw [hc,if_neg (by omega),if_neg (by omega),if_neg (by omega),if_neg (by omega),Nat.sub_self,yU b2];rfl
theorem zbC {s:ByteArray} (hf:ZG s=true):∃ A l,(leJ s s.size).1=A++[l]/\(97<=l/\l<=122)/\s.size<=2000/\∀ u,UnF (A++[l]) u->u≠0->s.size+5<=2000->YU s (adT s u l):=by
 have h0:=(YA (YP hf)).1
 obtain ⟨Y,hp⟩:=zbp h0
 have hn:=hp.nms h0
 obtain ⟨a,r,hr1,hr2,hr3⟩:=hn.last
 have he:(leJ s s.size).1=a.map RL.nv++[r.nv]:=by rw [hn.le,hr1];simp
 have hl:=hn.let_ r (by rw [hr1];simp)
 refine ⟨a.map RL.nv,r.nv,he,hl,(ZU h0).1,fun u hu hu0 hs=>?_⟩
 rcases hu with ⟨h,_⟩ | ⟨u1,u2,u3⟩
 ·exact absurd h hu0
 ·have:=(zek s ⟨u1,u2⟩ hl).alike h0 hn ⟨u1,u2⟩ (fun x hx e=>u3 (by rw [<- he,hn.le,<- e];exact List.mem_map_of_mem hx)) ⟨a,r,hr1,rfl⟩ (by rw [qk];exact hs)
  exact zdB (this.1.trans h0.symm) (fun _=>this.2)
theorem jO (s:ByteArray) (x:WD) (w:World) (hx:x.In w) (hn:x.pl*24<=140737488351232) :
 Calls Tryz.prog 10 #[.string s,vW x] w fun e w'=>e=.returned (.bool true)/\Below w.heap.size w w':=by
 have HX:Hid (x.In w):=hx
 have HF:Hid _:=fun wz=>ja s wz
 have HRT:Hid (∀ wz,x.In wz->Calls Tryz.prog 14 #[vW x] wz fun e w'=>e=.returned (.bool x.right)/\Below wz.heap.size wz w'):=fun wz h=>q8 x wz h hn
 have HRF:Hid (∀ wz,x.In wz->ZG s=false\/x.right=false->Calls Tryz.prog 15 #[.string s,vW x,.bool (ZG s)] wz fun e w'=>e=.returned (.bool true)/\Below wz.heap.size wz w'):=fun wz h h2=>Xy s x wz h h2
 have HAN:Hid _:=fun hf hr=>Qd (x:=x) (YU.refl s) hf hr
 have HAN2:Hid _:=fun (t:ByteArray) ht hf hr=>Qd (t:=t) (x:=x) (s:=s) ht hf hr
 have HZS:Hid _:=fun wz=>xt s wz
 have HZT:Hid _:=fun (t:ByteArray) (ht:YU s t) wz=>by have:=xt t wz;rw [ht.sz] at this;exact this
 have HOK:Hid (ZG s=true->(cSz s).2=0):=fun h=>by unfold cSz;rw [if_pos (YA (YP h)).1]
 have HNM:Hid _:=fun h=>zbC (s:=s) h
 have HLT:Hid _:=fun (h:s.size<=1048576) wz=>Q3 s wz h
 obtain ⟨sv,tt,c,HANE⟩:∃ sv tt c,Hid (x.an s=(sv,tt,c)):=⟨_,_,_,rfl⟩
 rw [HANE.out] at HAN HAN2
 simp only at HAN HAN2
 generalize ZG s=F at *
 generalize x.right=RR at *
 clear hx hn HANE
 have HB0:Hid (Below w.heap.size w (w.alloc (bW x))):=(Below.refl _ _).alloc (Nat.le_refl _) _
 have HW0:Hid ((w.alloc (bW x)).heap[w.heap.size]?=some (bW x)):=heap_alloc_new w _
 go_enter Tryz.func10,Tryz.ntmps10
 go_wp2_with fail
 generalize w.alloc (bW x)=w0 at *
 refine (HF.out _).mono ?_
 rintro e w3 ⟨rfl,hb⟩
 have HB3:Hid (Below w.heap.size w w3):=HB0.out.trans (hb.mono HB0.out.size)
 have HW3:Hid (w3.heap[w.heap.size]?=some (bW x)):=(hb.block _ (lt_of_block HW0.out)).trans HW0.out
 clear hb
 obtain ⟨q0,q1,q2,q3,q4,q5⟩:=ld6 HW3.out rfl
 go_wp2_with fail
 refine (HRT.out _ (HX.out.below HB3.out)).mono ?_
 rintro e w4 ⟨rfl,hb⟩
 have HB4:Hid (Below w.heap.size w w4):=HB3.out.trans (hb.mono HB3.out.size)
 have HW4:Hid (w4.heap[w.heap.size]?=some (bW x)):=(hb.block _ (lt_of_block HW3.out)).trans HW3.out
 clear hb
 clear q0 q1 q2 q3 q4 q5
 obtain ⟨q0,q1,q2,q3,q4,q5⟩:=ld6 HW4.out rfl
 have hREF:F=false\/RR=false->_:=fun h=>HRF.out w4 (HX.out.below HB4.out) h
 cases F with
 | false =>
  have HC:=hREF (.inl rfl)
  clear hREF
  go_wp2_with fail
  refine HC.mono ?_
  rintro e w9 ⟨rfl,hb⟩
  have HB9:Hid (Below w.heap.size w w9):=HB4.out.trans (hb.mono HB4.out.size)
  clear hb
  go_wp2_with fail
  go_ret
  exact ⟨rfl,HB9.out⟩
 | true =>
  cases RR with
  | false =>
   have HC:=hREF (.inr rfl)
   clear hREF
   go_wp2_with fail
   refine HC.mono ?_
   rintro e w9 ⟨rfl,hb⟩
   have HB9:Hid (Below w.heap.size w w9):=HB4.out.trans (hb.mono HB4.out.size)
   clear hb
   go_wp2_with fail
   go_ret
   exact ⟨rfl,HB9.out⟩
  | true =>
   clear hREF q0 q1 q2 q3 q4 q5
   obtain ⟨A,l,hle,hl,hs,hsame⟩:=HNM.out (by first | rfl | trivial)
   have HSA:Hid (∀ u,UnF (A++[l]) u->u≠0->s.size+5<=2000->YU s (adT s u l)):=hsame
   have HE0:=HOK.out (by first | rfl | trivial)
   have HLT:=HLT.out (by omega) w4
   rw [hle] at HLT
   have HLL:Hid ((A++[l]).length=A.length+1):=by show _=_;simp
   rw [HLL.out] at HLT
   have hAl:A.length<=2000:=by have:=JD s s.size;rw [hle] at this;simp at this;omega
   clear hsame hle HNM HOK
   go_wp2_with fail
   refine HLT.mono ?_
   rintro e w5 ⟨hb,o5,k5,rfl,hrow⟩
   have HB5:Hid (Below w.heap.size w w5):=HB4.out.trans (hb.mono HB4.out.size)
   have HW5:Hid (w5.heap[w.heap.size]?=some (bW x)):=(hb.block _ (lt_of_block HW4.out)).trans HW4.out
   clear hb
   rcases hrow.2 with ⟨h1,h2⟩ | ⟨g,cap,cur,h1,h2,h3,h4,h5,h6,h7⟩
   ·omega
   ·cases h1
    have hcel:∀ i y,(A++[l])[i]?=some y->w5.cell? ⟨g,i,none⟩=some (.int .u8 y):=fun i y hy=>by
     have hi:=(List.getElem?_eq_some_iff.1 hy).1
     have:=World.ownsRow.cellAt hrow i (by rw [<- HLL.out];omega)
     rw [this,List.getElem?_map,hy]
     rfl
    have hlast:=hcel A.length l (by simp)
    have HUN:=jv (some ⟨g,0,none⟩) g k5 (A++[l]) w5 (by rw [HLL.out];omega) (fun _=>rfl) hcel
    rw [HLL.out] at HUN
    have hc2:∀ wz:World,wz.cell? ⟨g,A.length,none⟩=some (.int .u8 l)->_:=fun wz h=>run_convert_bytes_arg (P:=Tryz.prog) wz 48 5 Tryz.underlying48 Tryz.underlying5 g A.length 1 (k5-A.length) [l] rfl (fun i hi=>by obtain rfl:i=0:=(by omega);exact h) 9 Tryz.underlying9
    have hn1:IntKind.i64.wrap (((A.length+1:Nat):Int)-1)=(A.length:Int):=(Jl (by omega) (by omega)).trans (by omega)
    go_wp2_with fail
    refine HUN.mono ?_
    rintro e w' ⟨hw',u,rfl,hu⟩
    subst w'
    have hg5:g<w5.heap.size:=lt_of_block h3
    have HBq:Hid (Below w5.heap.size w5 (w5.alloc (.cells #[.int .u8 u] 5)).drew):=((Below.refl _ _).alloc (Nat.le_refl _) _).drew
    have hc1:=run_convert_bytes_arg (P:=Tryz.prog) (w5.alloc (.cells #[.int .u8 u] 5)).drew 48 5 Tryz.underlying48 Tryz.underlying5 w5.heap.size 0 1 1 [u] rfl (fun i hi=>by obtain rfl:i=0:=(by omega);exact cell_of_row _ _ _ _ _ _ (heap_alloc_new w5 _)) 9 Tryz.underlying9
    have hc3:=hc2 w5.drew hlast
    have hc4:=hc2 (w5.alloc (.cells #[.int .u8 u] 5)).drew ((HBq.out.cell (p:=⟨g,A.length,none⟩) hg5).trans hlast)
    have HAD:Hid (adT s u l=s++⟨#[59]⟩++strOfNums [u]++⟨#[58,61]⟩++strOfNums [l]):=rfl
    have hy0:(strOfNums [u]).size=1:=by rw [strOfNums_size];rfl
    have hy1:(strOfNums [l]).size=1:=by rw [strOfNums_size];rfl
    have hy2:(s++(⟨#[59]⟩:ByteArray)).size=s.size+1:=by rw [ByteArray.size_append];rfl
    have hy3:(s++(⟨#[59]⟩:ByteArray)++strOfNums [u]).size=s.size+2:=by rw [ByteArray.size_append,hy0,hy2]
    have hy4:(s++(⟨#[59]⟩:ByteArray)++strOfNums [u]++(⟨#[58,61]⟩:ByteArray)).size=s.size+4:=by rw [ByteArray.size_append,hy3];rfl
    clear hc2 HUN hcel
    go_upto_region 9 with fail
    go_cut [9] (fun s9 wx=>s9=.string (adT s u l)/\Below w5.heap.size w5 wx)
    case first =>
     go_region
     all_goals
      go_wp2_with fail
      go_meet
      exact ⟨by rw [HAD.out],HBq.out⟩
    case rest =>
    obtain ⟨rfl,hb⟩:=hcut
    obtain ⟨w6,hw6⟩:∃ w6,w6=wc:=⟨_,rfl⟩
    subst hw6
    have HB6:Hid (Below w.heap.size w w6):=HB5.out.trans (hb.mono HB5.out.size)
    have HW6:Hid (w6.heap[w.heap.size]?=some (bW x)):=(hb.block _ (lt_of_block HW5.out)).trans HW5.out
    clear hb
    have HSZ:Hid ((adT s u l).size=s.size+5):=qk s u l
    have HSB:Hid (u≠0->s.size+5<=2000->YU s (adT s u l)):=HSA.out u hu
    generalize adT s u l=t at *
    clear hc1 hc3 hc4 hlast hrow h3 h4 h5 h6 h7 h2 hy0 hy1 hy2 hy3 hy4 hn1 HSA HAD HBq hu
    by_cases hu0:u=0
    ·subst hu0
     go_wp2_with fail
     go_ret
     exact ⟨rfl,HB6.out⟩
    ·have hu0':(u==0)=false:=by simp [hu0]
     have hts:=HSZ.out
     by_cases h20:s.size+5<=2000
     ·have h20':¬ (2000:Int)<(t.size:Int):=by omega
      have hsb:=HSB.out hu0 h20
      have HZT:=HZT.out t hsb
      have HAN2:=HAN2.out t hsb
      obtain ⟨z,ze,HZ⟩:∃ z ze,Hid (cSz s=(z,ze)):=⟨_,_,rfl⟩
      rw [HZ.out] at HZS HZT HE0
      simp only at HZS HZT HE0
      subst HE0
      go_wp2_with fail
      refine (HZS.out _).mono ?_
      rintro e w7 ⟨hb,rfl⟩
      have HB7:Hid (Below w.heap.size w w7):=HB6.out.trans (hb.mono HB6.out.size)
      have HW7:Hid (w7.heap[w.heap.size]?=some (bW x)):=(hb.block _ (lt_of_block HW6.out)).trans HW6.out
      clear hb
      go_wp2_with fail
      refine (HZT _).mono ?_
      rintro e w8 ⟨hb,rfl⟩
      have HB8:Hid (Below w.heap.size w w8):=HB7.out.trans (hb.mono HB7.out.size)
      have HW8:Hid (w8.heap[w.heap.size]?=some (bW x)):=(hb.block _ (lt_of_block HW7.out)).trans HW7.out
      clear hb
      obtain ⟨q0,q1,q2,q3,q4,q5⟩:=ld6 HW8.out rfl
      have hzz:(z==z)=true:=by simp
      have HC1:=HAN.out (by first | rfl | trivial) (by first | rfl | trivial) w8 (HX.out.below HB8.out)
      go_wp2_with fail
      refine HC1.mono ?_
      rintro e w9 ⟨hb,o9,k9,rfl,hrow⟩
      have HB9:Hid (Below w.heap.size w w9):=HB8.out.trans (hb.mono HB8.out.size)
      have HW9:Hid (w9.heap[w.heap.size]?=some (bW x)):=(hb.block _ (lt_of_block HW8.out)).trans HW8.out
      clear hb
      have HR9:Hid (w9.ownsRow w.heap.size 3 1 (.slice o9 sv.length k9) sv.length (sv.map (Value.int .i64))):=yC hrow HB8.out.size
      clear hrow HC1 q0 q1 q2 q3 q4 q5
      have hlt9:w.heap.size<w9.heap.size:=lt_of_block HW9.out
      have HBa:Hid (Below w.heap.size w (w9.alloc (bA o9 sv.length k9 tt c))):=HB9.out.alloc HB9.out.size _
      have HWa:Hid ((w9.alloc (bA o9 sv.length k9 tt c)).heap[w.heap.size]?=some (bW x)):=(Below.heap_alloc _ _ _ hlt9).trans HW9.out
      have HAa:Hid ((w9.alloc (bA o9 sv.length k9 tt c)).heap[w9.heap.size]?=some (bA o9 sv.length k9 tt c)):=heap_alloc_new _ _
      have HRa:Hid ((w9.alloc (bA o9 sv.length k9 tt c)).ownsRow w.heap.size 3 1 (.slice o9 sv.length k9) sv.length (sv.map (Value.int .i64))):=HR9.out.alloc _
      obtain ⟨q0,q1,q2,q3,q4,q5⟩:=ld6 HWa.out rfl
      have HC2:=HAN2 (by first | rfl | trivial) (by first | rfl | trivial) (w9.alloc (bA o9 sv.length k9 tt c)) (HX.out.below HBa.out)
      go_wp2_with fail
      generalize w9.alloc (bA o9 sv.length k9 tt c)=wa at *
      refine HC2.mono ?_
      rintro e wb ⟨hb,ob,kb,rfl,hrow⟩
      have HBb:Hid (Below w.heap.size w wb):=HBa.out.trans (hb.mono HBa.out.size)
      have HAb:Hid (wb.heap[w9.heap.size]?=some (bA o9 sv.length k9 tt c)):=(hb.block _ (lt_of_block HAa.out)).trans HAa.out
      have hltb:w9.heap.size<wb.heap.size:=lt_of_block HAb.out
      have HRb:Hid ((wb.alloc (bA ob sv.length kb tt c)).ownsRow w.heap.size 3 1 (.slice o9 sv.length k9) sv.length (sv.map (Value.int .i64))):=(zw HRa.out (fun g hg=>hb.block g (HRa.out.lt g hg).2)).alloc _
      have HRc:Hid ((wb.alloc (bA ob sv.length kb tt c)).ownsRow w.heap.size 3 1 (.slice ob sv.length kb) sv.length (sv.map (Value.int .i64))):=(yC hrow HBa.out.size).alloc _
      have HBc:Hid (Below w.heap.size w (wb.alloc (bA ob sv.length kb tt c))):=HBb.out.alloc HBb.out.size _
      have HAc:Hid ((wb.alloc (bA ob sv.length kb tt c)).heap[w9.heap.size]?=some (bA o9 sv.length k9 tt c)):=(Below.heap_alloc _ _ _ hltb).trans HAb.out
      obtain ⟨a0,a1,a2,-,-,-⟩:=ld3 HAc.out
      clear hb hrow q0 q1 q2 q3 q4 q5 HC2
      obtain ⟨ga,hisa⟩:=Y9 HRb.out
      obtain ⟨gb,hisb⟩:=Y9 HRc.out
      have hsl:sv.length<=9223372036854775807:=by
       rcases HRb.out.2 with ⟨_,h2⟩ | ⟨_,cap,_,h1,_,_,h4,h5,_⟩
       ·omega
       ·unfold maxLen at h5;cases h1;omega
      have HSM:=qA o9 ob k9 kb sv.length tt c _ ga 0 gb 0 _ hsl hisa hisb
      clear hisa hisb
      go_wp2_with fail
      refine HSM.mono ?_
      rintro e wd ⟨rfl,hb⟩
      have HBd:Hid (Below w.heap.size w wd):=HBc.out.trans (hb.mono HBc.out.size)
      clear hb HSM
      go_wp2_with fail
      go_ret
      exact ⟨rfl,HBd.out⟩
     ·have h20':(2000:Int)<(t.size:Int):=by omega
      go_wp2_with fail
      go_ret
      exact ⟨rfl,HB6.out⟩
end Go.Proofs.YtaebngpoagjafaaGreat
