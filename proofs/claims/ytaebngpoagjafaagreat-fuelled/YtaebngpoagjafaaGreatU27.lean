/-
  OUR OWN.
-/
import Derived.Test.YtaebngpoagjafaaGreatU02
import Derived.Test.YtaebngpoagjafaaGreatU26
import Derived.Test.YtaebngpoagjafaaGreatU15
set_option maxRecDepth 100000
namespace Go.Proofs.YtaebngpoagjafaaGreat
open Go.RowKit
def cutA (a n:Int):Int:=a-a%M.p2 (32-n).toNat
theorem cutA_bd {a n:Int} (a0:0<=a) (a1:a<4294967296):0<=cutA a n/\cutA a n<4294967296:=by
 have hp:=M.p2_pos (32-n).toNat
 have h1:=Int.emod_nonneg a (b:=M.p2 (32-n).toNat) (by omega)
 have h3:=Int.emod_add_mul_ediv a (M.p2 (32-n).toNat)
 have h4:0<=M.p2 (32-n).toNat*(a / M.p2 (32-n).toNat):=Int.mul_nonneg (by omega) (Int.ediv_nonneg a0 (by omega))
 unfold cutA
 omega
theorem M.known (v n:Int) (hA:M.isA v=true):wrap64 (v / 2 ^ (32-n).toNat*2 ^ (32-n).toNat)=cutA v n:=by
 obtain ⟨v0,v1⟩:=M.isA_iff.1 hA
 rw [<- M.p2_eq]
 unfold cutA
 have hp:=M.p2_pos (32-n).toNat
 generalize M.p2 (32-n).toNat=m at *
 have e:=Int.emod_add_mul_ediv v m
 have e2:=Int.mul_comm (v / m) m
 have a0:=Int.emod_nonneg v (b:=m) (by omega)
 have a1:0<=v / m:=Int.ediv_nonneg v0 (by omega)
 have a2:0<=m*(v / m):=Int.mul_nonneg (by omega) a1
 rw [M.wrap64_in _ (by omega)]
 omega
def askB (a b d:Int):Bool:=M.isA a && (decide (0<=b) && (decide (b<=32) && (decide (0<=d) && decide (d<4294967296))))
attribute [local go_sem ↓] Go.wp_at_zero Go.wp_at_succ
set_option maxHeartbeats 400000 in
theorem Known_any (a n:Int) (w:World) (hA:M.isA a=true) (n0:0<=n) (n1:n<=32) :
   Calls Tryz.prog 112 #[.int .i64 a,.int .i64 n] w fun e w'=>e=.returned (.int .i64 (cutA a n))/\w'=w:=by
 have hk:=M.known a n hA
 have HK:Hid (wrap64 (a / 2 ^ (32-n).toNat*2 ^ (32-n).toNat)=cutA a n):=hk
 obtain ⟨v0,v1⟩:=M.isA_iff.1 hA
 clear hk
 go_enter Tryz.func112,Tryz.ntmps112
 go_wp2_with fail
 go_ret
 exact ⟨by rw [<- HK.out];rfl,rfl⟩
set_option maxHeartbeats 400000 in
theorem IsQuestion_any (a b d:Int) (w:World) :
   Calls Tryz.prog 110 #[.int .i64 a,.int .i64 b,.int .i64 d] w fun e w'=>e=.returned (.bool (askB a b d))/\w'=w:=by
 have HE:Hid (askB a b d=(M.isA a && (decide (0<=b) && (decide (b<=32) && (decide (0<=d) && decide (d<4294967296)))))):=rfl
 go_enter Tryz.func110,Tryz.ntmps110
 go_wp2_with fail
 refine (IsAddress_any a _).mono ?_
 rintro e w' ⟨rfl,hw'⟩
 subst w'
 generalize M.isA a=q at *
 cases q with
 | false =>
   go_wp2_with fail
   go_ret
   exact ⟨by rw [HE.out];rfl,rfl⟩
 | true =>
   by_cases h1:0<=b
   · by_cases h2:b<=32
     · by_cases h3:0<=d
       · by_cases h4:d<4294967296
         · have HE2:Hid (askB a b d=true):=by show _=_;rw [HE.out];simp [h1,h2,h3,h4]
           go_wp2_with fail
           go_ret
           exact ⟨by rw [HE2.out];rfl,rfl⟩
         · have HE2:Hid (askB a b d=false):=by show _=_;rw [HE.out];simp [h4]
           have h4':decide (d<4294967296)=false:=decide_eq_false h4
           go_wp2_with fail
           go_ret
           exact ⟨by rw [HE2.out];rfl,rfl⟩
       · have HE2:Hid (askB a b d=false):=by show _=_;rw [HE.out];simp [h3]
         have h3':decide (0<=d)=false:=decide_eq_false h3
         go_wp2_with fail
         go_ret
         exact ⟨by rw [HE2.out];rfl,rfl⟩
     · have HE2:Hid (askB a b d=false):=by show _=_;rw [HE.out];simp [h2]
       have h2':decide (b<=32)=false:=decide_eq_false h2
       go_wp2_with fail
       go_ret
       exact ⟨by rw [HE2.out];rfl,rfl⟩
   · have HE2:Hid (askB a b d=false):=by show _=_;rw [HE.out];simp [h1]
     have h1':decide (0<=b)=false:=decide_eq_false h1
     go_wp2_with fail
     go_ret
     exact ⟨by rw [HE2.out];rfl,rfl⟩
set_option maxHeartbeats 800000 in
theorem wprefixes_any (ao:Option Addr) (b off n c:Nat) (V L R:Nat->Int) (w:World) (hn:n<=64) (hs:TS w ao b off n V L R) :
   Calls Tryz.prog 150 #[.slice ao n c] w fun e w'=>(∃ v,e=.returned v/\w'.ownsRow w.heap.size 99 2 v n (pc V L n))/\Below w.heap.size w w':=by
 obtain ⟨i0,hi0,hz0,hz1,hz2⟩:=info_parts Tryz.infoPrefix
 have HS:Hid (TS w ao b off n V L R):=hs
 clear hs
 go_enter Tryz.func150,Tryz.ntmps150
 go_wp2_with fail
 go_loopg [3,9] n (fun q v y wr=>∃ k:Nat,q+k=n/\y=.int .i64 k/\wr.ownsRow w.heap.size 99 2 v k (pc V L k)/\Below w.heap.size w wr)
 case atStart=>exact ⟨0,by omega,rfl,⟨rfl,.inr ⟨w.heap.size,0,#[],rfl,Nat.le_refl _,heap_alloc_at _ rfl,Nat.le_refl _,by decide,rfl,rfl⟩⟩,(Below.refl _ _).alloc (Nat.le_refl _) _⟩
 case round =>
   obtain ⟨k,hq,rfl,hown,hb⟩:=hrel
   have HR:Hid (wr.ownsRow w.heap.size 99 2 u3 k (pc V L k)):=hown
   have HB:Hid (Below w.heap.size w wr):=hb
   clear hown hb
   by_cases hlt:k<n
   · obtain rfl:=HS.out.at_ (by omega)
     have hps:=HS.out.below HB.out
     have hv:=hps.val k hlt
     have hl:=hps.len k hlt
     have hr:=hps.reg k hlt
     have hbb:b<wr.heap.size:=hps.lt (by omega)
     have hsize:=HB.out.size
     have hlt':(k:Int)<(n:Int):=by omega
     have hk0:(0:Int)<=(k:Int):=by omega
     have HP:Hid (pc V L (k+1)=pc V L k++[.int .i64 (V k),.int .i64 (L k)]):=rfl
     clear hps
     generalize V k=v at *
     generalize L k=l at *
     generalize R k=rg at *
     have hA1:Hid (k+1<=maxLen):=by show _<=_;unfold maxLen;omega
     have hA2:Hid ((k+1)*16<=140737488355328):=by show _<=_;omega
     have hA3:Hid (w.heap.size<=((wr.alloc (.cells #[.int .i64 v,.int .i64 l,.int .i64 rg] 101)).alloc (.cells #[.int .i64 v,.int .i64 l] 99)).heap.size):=by show _<=_;simp;omega
     have hone:Hid (∀ u∈[Value.int .i64 v,Value.int .i64 l],u.oneCell'=true):=fun u hu=>by simp at hu;rcases hu with rfl | rfl<;>rfl
     go_wp2_with (at_builtin;refine wpList_append_lies _ rfl _ _ 103 rfl w.heap.size 99 i0 _ 2 16 Tryz.underlying103 hi0 hz0 hz1 hz2 rfl (by decide) u3 _ _ rfl ((HR.out.alloc _).alloc _) ⟨wr.heap.size+1,0,none⟩ 1 1 [.int .i64 v,.int .i64 l] rfl rfl (World.news_of_block (cs:=#[.int .i64 v,.int .i64 l]) (t:=99) (fr:=(0,0)) (heap_alloc_at _ (by simp))) hone.out (Nat.lt_succ_self 0) hA1.out hA2.out hA3.out (wr.heap.size+2) (by simp) ?_;intro g cap w4 hown hgrow hat hlt4)
     have HB4:Hid (Below w.heap.size w w4):=((HB.out.alloc HB.out.size _).alloc (by simp;omega) _).grown hgrow hA3.out (fun q hq=>(HR.out.lt q hq).1)
     have HR4:Hid (w4.ownsRow w.heap.size 99 2 (.slice (some ⟨g,0,none⟩) (k+1) cap) (k+1) (pc V L (k+1))):=by show World.ownsRow _ _ _ _ _ _ _;rw [HP.out];exact hown
     clear hown hgrow hat
     go_roundg (gk-1)
     case measure=>omega
     case rel=>exact ⟨k+1,by omega,by go_num,HR4.out,HB4.out⟩
   · have hkn:k=n:=by omega
     subst hkn
     have hlt':¬ (k:Int)<(k:Int):=by omega
     go_wp2_with fail
     go_ret
     exact ⟨⟨_,rfl,HR.out⟩,HB.out⟩
end Go.Proofs.YtaebngpoagjafaaGreat
namespace Go.Proofs.YtaebngpoagjafaaGreat
open Go.RowKit
def regTo (R:Nat->Int):Nat->Bool
 | 0=>true
 | n+1=>regTo R n && (decide (0<=R n) && decide (R n<=99))
theorem regTo_iff {R:Nat->Int} {n:Nat}:regTo R n=true↔∀ k,k<n->0<=R k/\R k<=99:=by
 induction n with
 | zero=>simp [regTo]
 | succ n ih =>
   simp only [regTo,Bool.and_eq_true,ih,decide_eq_true_eq]
   constructor
   · rintro ⟨h,h1⟩ k hk
     by_cases hi:k=n
     · subst hi;exact h1
     · exact h k (by omega)
   · intro h
     exact ⟨fun k hk=>h k (by omega),h n (by omega)⟩
theorem regTo_bad {R:Nat->Int} {n k:Nat} (hk:k<n) (h:¬ (0<=R k/\R k<=99)):regTo R n=false:=by
 rw [Bool.eq_false_iff]
 intro hm
 exact h (regTo_iff.1 hm k hk)
set_option maxHeartbeats 400000 in
theorem Placed_any (ao:Option Addr) (b off n c:Nat) (V L R:Nat->Int) (w:World) (hn:n*24<=140737488351232) (hs:TS w ao b off n V L R) :
   Calls Tryz.prog 34 #[.slice ao n c] w fun e w'=>e=.returned (.bool (regTo R n && M.isMap V L n))/\Below w.heap.size w w':=by
 go_enter Tryz.func34,Tryz.ntmps34
 go_wp2
 go_loop [3] (fun i=>∃ k:Nat,k<=n/\i=.int .i64 k/\regTo R k=true) (fun i=>n-(intOf i).toNat)
 case atStart=>exact ⟨0,by omega,rfl,rfl⟩
 case round =>
   obtain ⟨k,hk,rfl,hf⟩:=hrel
   by_cases hlt:k<n
   · obtain rfl:=hs.at_ (by omega)
     have hv:=hs.reg k hlt
     have hbb:b<w.heap.size:=hs.lt (by omega)
     clear hs
     by_cases h1:R k<0
     · have ht:Hid ((regTo R n && M.isMap V L n)=false):=by show _=_;rw [regTo_bad hlt (by omega)];rfl
       go_wp2
       go_ret
       exact ⟨ret_bool ht.out.symm,Below.refl _ _⟩
     · by_cases h2:99<R k
       · have ht:Hid ((regTo R n && M.isMap V L n)=false):=by show _=_;rw [regTo_bad hlt (by omega)];rfl
         go_wp2
         go_ret
         exact ⟨ret_bool ht.out.symm,Below.refl _ _⟩
       · have HF:Hid (regTo R (k+1)=true):=by
           have g1:0<=R k:=by omega
           have g2:R k<=99:=by omega
           show _=_;simp [regTo,hf,g1,g2]
         go_wp2
         go_round
         case rel=>exact ⟨k+1,by omega,by go_num,HF⟩
         case measure=>simp [intOf];omega
   · have hkn:k=n:=by omega
     subst hkn
     have ht:Hid ((regTo R k && M.isMap V L k)=M.isMap V L k):=by show _=_;rw [hf];rfl
     go_wp2_with fail
     refine (prefixes_any _ b off _ _ V L R _ hn hs).mono ?_
     rintro e w1 ⟨⟨v,rfl,hown⟩,hb1⟩
     obtain ⟨ao',b',c',rfl,hc',_,hps⟩:=ps_of_owns hown
     clear hown
     go_wp2_with fail
     refine (areMap_any _ b' _ _ V L _ (by omega) hps).mono ?_
     rintro e w2 ⟨rfl,hb2⟩
     go_wp2_with fail
     go_ret
     exact ⟨ret_bool ht.out.symm,hb1.trans (hb2.mono hb1.size)⟩
end Go.Proofs.YtaebngpoagjafaaGreat
namespace Go.Proofs.YtaebngpoagjafaaGreat
open Go.RowKit
def plcB (V L R:Nat->Int) (n:Nat):Bool:=regTo R n && M.isMap V L n
theorem plcB_le {V L R:Nat->Int} {n:Nat} (h:plcB V L R n=true):n<=64/\regTo R n=true/\M.isMap V L n=true:=by
 simp only [plcB,Bool.and_eq_true] at h
 have h2:=h.2
 simp only [M.isMap,Bool.and_eq_true,decide_eq_true_eq] at h2
 exact ⟨h2.1,h.1,h.2⟩
attribute [local go_sem ↓] Go.wp_at_zero Go.wp_at_succ
set_option maxHeartbeats 800000 in
theorem ArePlaces_any (ao:Option Addr) (b off n c:Nat) (V L R:Nat->Int) (w:World) (hs:TS w ao b off n V L R) :
   Calls Tryz.prog 111 #[.slice ao n c] w fun e w'=>e=.returned (.bool (plcB V L R n))/\Below w.heap.size w w':=by
 have HS:Hid (TS w ao b off n V L R):=hs
 clear hs
 by_cases h64:64<n
 · have HE:Hid (plcB V L R n=false):=by show _=_;unfold plcB M.isMap;simp;omega
   have h64':(64:Int)<(n:Int):=by omega
   go_enter Tryz.func111,Tryz.ntmps111
   go_wp2_with fail
   go_ret
   exact ⟨by rw [HE.out];rfl,Below.refl _ _⟩
 · have h64':(n:Int)<=64:=by omega
   go_enter Tryz.func111,Tryz.ntmps111
   go_wp2_with fail
   go_loopg [10] n (fun q y wr=>∃ k:Nat,q+k=n/\y=.int .i64 k/\Hid (regTo R k=true)/\Below w.heap.size w wr)
   case atStart=>exact ⟨0,by omega,rfl,rfl,Below.refl _ _⟩
   case round =>
     obtain ⟨k,hq,rfl,HF,hb⟩:=hrel
     have HB:Hid (Below w.heap.size w wr):=hb
     clear hb
     by_cases hlt:k<n
     · obtain rfl:=HS.out.at_ (by omega)
       have hps:=HS.out.below HB.out
       have hv:=hps.val k hlt
       have hl:=hps.len k hlt
       have hr:=hps.reg k hlt
       have hbb:b<wr.heap.size:=hps.lt (by omega)
       have hsize:=HB.out.size
       have hlt':(k:Int)<(n:Int):=by omega
       have hk0:(0:Int)<=(k:Int):=by omega
       clear hps
       have HB2:Hid (∀ o,Below w.heap.size w (wr.alloc o)):=fun o=>HB.out.alloc HB.out.size o
       have HBAD:Hid (¬ (0<=R k/\R k<=99)->plcB V L R n=false):=fun h=>by unfold plcB;rw [regTo_bad hlt h];rfl
       have HOK:Hid (0<=R k/\R k<=99->regTo R (k+1)=true):=fun h=>by simp only [regTo];rw [HF.out];simp [h.1,h.2]
       generalize V k=v at *
       generalize L k=l at *
       generalize R k=rg at *
       by_cases h1:rg<0
       · have HE:=HBAD.out (by omega)
         have HE2:Hid (plcB V L R n=false):=HE
         clear HE
         go_wp2_with fail
         go_ret
         exact ⟨by rw [HE2.out];rfl,HB2.out _⟩
       · by_cases h2:99<rg
         · have HE:=HBAD.out (by omega)
           have HE2:Hid (plcB V L R n=false):=HE
           clear HE
           go_wp2_with fail
           go_ret
           exact ⟨by rw [HE2.out];rfl,HB2.out _⟩
         · have HF2:Hid (regTo R (k+1)=true):=HOK.out (by omega)
           have h1':0<=rg:=by omega
           have h2':rg<=99:=by omega
           clear h1 h2
           go_wp2_with fail
           go_roundg (gk-1)
           case measure=>omega
           case rel=>exact ⟨k+1,by omega,by go_num,HF2,HB2.out _⟩
     · have hkn:k=n:=by omega
       subst hkn
       have hlt':¬ (k:Int)<(k:Int):=by omega
       go_wp2_with fail
       refine (wprefixes_any _ b off k _ V L R _ (by omega) (HS.out.below HB.out)).mono ?_
       rintro e w2 ⟨⟨v,rfl,hrow⟩,hb2⟩
       obtain ⟨po,pb,pc',hv,hpc,_,hps⟩:=ps_of_owns hrow
       subst hv
       have HPS:Hid (PS w2 po pb k V L):=hps
       have HB2:Hid (Below w.heap.size w w2):=HB.out.trans (hb2.mono HB.out.size)
       clear hrow hb2 hps
       go_wp2_with fail
       refine (IsList_any _ pb _ _ V L _ (by omega) hpc HPS.out).mono ?_
       rintro e w3 ⟨rfl,hb3⟩
       have HB3:Hid (Below w.heap.size w w3):=HB2.out.trans (hb3.mono HB2.out.size)
       have HE:Hid (plcB V L R k=M.isMap V L k):=by show _=_;unfold plcB;rw [HF.out];rfl
       clear hb3
       go_wp2_with fail
       go_ret
       exact ⟨by rw [HE.out];rfl,HB3.out⟩
def regOf (V L R:Nat->Int) (n:Nat) (a:Int):Int:=if M.bestTo V L a n<0 then -1 else R (M.bestTo V L a n).toNat
set_option maxHeartbeats 800000 in
theorem Region_any (ao:Option Addr) (b off n c:Nat) (V L R:Nat->Int) (a:Int) (w:World) (a0:0<=a) (a1:a<4294967296) (hp:plcB V L R n=true) (hs:TS w ao b off n V L R) :
   Calls Tryz.prog 113 #[.slice ao n c,.int .i64 a] w fun e w'=>e=.returned (.tuple #[.int .i64 (regOf V L R n a),.int .i64 (M.depTo V L a n)])/\Below w.heap.size w w':=by
 have HS:Hid (TS w ao b off n V L R):=hs
 obtain ⟨h64,hr,hm⟩:=plcB_le hp
 have HP:Hid (∀ i,i<n->M.isP (V i) (L i)=true):=fun i hi=>by
   have:n<=64/\M.okTo V L n=true:=by simpa [M.isMap] using hm
   exact (M.okTo_iff.1 this.2 i hi).1
 clear hs hp hr hm
 go_enter Tryz.func113,Tryz.ntmps113
 go_wp2_with fail
 refine (wprefixes_any _ b off n _ V L R _ h64 HS.out).mono ?_
 rintro e w2 ⟨⟨v,rfl,hrow⟩,hb2⟩
 obtain ⟨po,pb,pc',hv,hpc,_,hps⟩:=ps_of_owns hrow
 subst hv
 have HPS:Hid (PS w2 po pb n V L):=hps
 have HB2:Hid (Below w.heap.size w w2):=hb2
 clear hrow hb2 hps
 go_wp2_with fail
 refine (Longest_any _ pb _ _ V L _ _ a0 a1 h64 HPS.out HP.out).mono ?_
 rintro e w3 ⟨rfl,hb3⟩
 have HB3:Hid (Below w.heap.size w w3):=HB2.out.trans (hb3.mono HB2.out.size)
 have HS3:Hid (TS w3 ao b off n V L R):=HS.out.below HB3.out
 clear hb3
 have hbl:=best_lt (V:=V) (L:=L) (a:=a) n
 have HE:Hid (regOf V L R n a=if M.bestTo V L a n<0 then -1 else R (M.bestTo V L a n).toNat):=rfl
 generalize M.bestTo V L a n=best at *
 generalize hdp:M.depTo V L a n=dep at *
 have HDP:Hid (M.depTo V L a n=dep):=hdp
 clear hdp
 by_cases h0:best<0
 · have HE2:Hid (regOf V L R n a=-1):=by show _=_;rw [HE.out,if_pos h0]
   go_wp2_with fail
   go_ret2
   exact ⟨by rw [HE2.out,HDP.out];rfl,HB3.out⟩
 · obtain ⟨k,rfl⟩:∃ k:Nat,best=k:=⟨best.toNat,by omega⟩
   have HE2:Hid (regOf V L R n a=R k):=by show _=_;rw [HE.out,if_neg h0,Int.toNat_natCast]
   have hkn:k<n:=by omega
   obtain rfl:=HS3.out.at_ (by omega)
   have hrc:=HS3.out.reg k hkn
   have h1:(0:Int)<=(k:Int):=by omega
   have h2:¬ (n:Int)<=(k:Int):=by omega
   clear h0
   go_wp2_with fail
   go_ret2
   exact ⟨by rw [HE2.out,HDP.out];rfl,HB3.out⟩
def rightB (a b d:Int) (V L R:Nat->Int) (n:Nat):Bool:=askB a b d && plcB V L R n
set_option maxHeartbeats 800000 in
theorem IsRight_any (a b d:Int) (do_ ao po:Option Addr) (dl dc al ac pl pcp pb poff:Nat) (V L R:Nat->Int) (w:World) (hs:TS w po pb poff pl V L R) :
   Calls Tryz.prog 63 #[.agg #[.int .i64 a,.int .i64 b,.int .i64 d,.slice do_ dl dc,.slice ao al ac,.slice po pl pcp]] w fun e w'=>e=.returned (.bool (rightB a b d V L R pl))/\Below w.heap.size w w':=by
 have HS:Hid (TS w po pb poff pl V L R):=hs
 have HB0:Hid (Below w.heap.size w (w.alloc (.cells #[.int .i64 a,.int .i64 b,.int .i64 d,.slice do_ dl dc,.slice ao al ac,.slice po pl pcp] 30))):=(Below.refl _ _).alloc (Nat.le_refl _) _
 clear hs
 have HE:Hid (rightB a b d V L R pl=(askB a b d && plcB V L R pl)):=rfl
 go_enter Tryz.func63,Tryz.ntmps63
 go_wp2_with fail
 refine (IsQuestion_any a b d _).mono ?_
 rintro e w' ⟨rfl,hw'⟩
 subst w'
 generalize askB a b d=q at *
 cases q with
 | false =>
   go_wp2_with fail
   go_ret
   exact ⟨by rw [HE.out];rfl,HB0.out⟩
 | true =>
   go_wp2_with fail
   refine (ArePlaces_any _ pb poff pl _ V L R _ (HS.out.below HB0.out)).mono ?_
   rintro e w2 ⟨rfl,hb2⟩
   have HB2:Hid (Below w.heap.size w w2):=HB0.out.trans (hb2.mono HB0.out.size)
   clear hb2
   go_wp2_with fail
   go_ret
   exact ⟨by rw [HE.out];rfl,HB2.out⟩
end Go.Proofs.YtaebngpoagjafaaGreat
namespace Go.Proofs.YtaebngpoagjafaaGreat
open Go.RowKit
structure WM (w:World) (base B:Nat) (v:Value) (xs:List Int):Prop where
 blk:w.heap[B]?=some (.cells #[v] 170 (0,0))
 row:w.ownsRow base 5 1 v xs.length (xs.map (Value.int .u8))
 hB:base<=B
structure WV (B:Nat) (v v':Value) (w w':World):Prop where
 bel:Below 0 w w'
 kept:∀ b,b<w.heap.size->b≠B->v.ownBlock≠some b->w'.heap[b]?=w.heap[b]?/\v'.ownBlock≠some b
theorem WV.refl (B:Nat) (v:Value) (w:World):WV B v v w w:=⟨Below.refl _ _,fun _ _ _ h=>⟨rfl,h⟩⟩
theorem WV.trans {B:Nat} {a b c:Value} {w w1 w2:World} (h:WV B a b w w1) (k:WV B b c w1 w2):WV B a c w w2 :=
 ⟨h.bel.trans k.bel,fun x hx h1 h2=>by
   obtain ⟨p1,p2⟩:=h.kept x hx h1 h2
   obtain ⟨q1,q2⟩:=k.kept x (Nat.lt_of_lt_of_le hx h.bel.size) h1 p2
   exact ⟨q1.trans p1,q2⟩⟩
theorem WM.lt {w:World} {base B v xs} (h:WM w base B v xs):B<w.heap.size:=lt_of_block h.blk
theorem WM.c0 {w:World} {base B v xs} (h:WM w base B v xs):w.cell? ⟨B,0,none⟩=some v:=by simp [World.cell?,h.blk]
theorem WM.fz {w:World} {base B v xs} (h:WM w base B v xs) (j:Nat):w.frozen? ⟨B,j,none⟩=false:=by simp [World.frozen?,h.blk]
theorem WM.ne {w:World} {base B v xs} (h:WM w base B v xs):v.ownBlock≠some B:=owns_ne h.row h.blk (by decide)
theorem WV.below {B:Nat} {v v':Value} {w w':World} {base:Nat} {xs:List Int} (h:WV B v v' w w') (hm:WM w base B v xs):Below base w w' :=
 ⟨h.bel.os,h.bel.tape,h.bel.output,h.bel.size,fun k hk=>(h.kept k (by have:=hm.lt;have:=hm.hB;omega) (by have:=hm.hB;omega) (fun e=>by have:=(hm.row.lt k e).1;omega)).1⟩
theorem WM.alloc {w:World} {base B v xs} (h:WM w base B v xs) (o:Obj):WM (w.alloc o) base B v xs :=
 ⟨by rw [Below.heap_alloc _ _ _ h.lt];exact h.blk,h.row.alloc o,h.hB⟩
theorem WM.drewN {w:World} {base B v xs} (h:WM w base B v xs) (n:Nat):WM (w.drewN n) base B v xs:=⟨h.blk,h.row,h.hB⟩
theorem WV.alloc {B:Nat} {v v':Value} {w w':World} (h:WV B v v' w w') (o:Obj):WV B v v' w (w'.alloc o) :=
 ⟨h.bel.alloc (Nat.zero_le _) o,fun b hb h1 h2=>by
   obtain ⟨p1,p2⟩:=h.kept b hb h1 h2
   exact ⟨by rw [Below.heap_alloc _ _ _ (Nat.lt_of_lt_of_le hb h.bel.size)];exact p1,p2⟩⟩
theorem blk1_set {w:World} {B:Nat} {a u:Value} {t:TypeId} (h:w.heap[B]?=some (.cells #[a] t (0,0))):(w.setCell ⟨B,0,none⟩ u).heap[B]?=some (.cells #[u] t (0,0)):=by
 simp [World.setCell,Array.getElem?_modify,h]
theorem WM.push {w w4:World} {base B v xs ys} {oo:Option Addr} {cap n:Nat} (h:WM w base B v xs) (hn:n=(xs++ys).length) (hg:w.grownBy w4 v.ownBlock) (hown:w4.ownsRow base 5 1 (.slice oo n cap) n ((xs++ys).map (Value.int .u8))) :
   WM (w4.setCell ⟨B,0,none⟩ (.slice oo n cap)) base B (.slice oo n cap) (xs++ys):=by
 have hb4:w4.heap[B]?=some (.cells #[v] 170 (0,0)):=(hg.block B h.lt (fun e=>h.ne e.symm)).trans h.blk
 subst hn
 exact ⟨blk1_set hb4,ownsRow_setCell_other hown (owns_ne hown hb4 (by decide)) _,h.hB⟩
theorem WM.pushV {w w4:World} {base B v xs} {g n cap H:Nat} (_:WM w base B v xs) (hg:w.grownBy w4 v.ownBlock) (hat:v.ownBlock=some g\/g=H) (hH:w.heap.size<=H) :
   WV B v (.slice (some ⟨g,0,none⟩) n cap) w (w4.setCell ⟨B,0,none⟩ (.slice (some ⟨g,0,none⟩) n cap)):=by
 refine ⟨⟨hg.os,hg.tape,hg.output,Nat.le_trans hg.size (by simp [World.setCell]),fun k hk=>absurd hk (Nat.not_lt_zero _)⟩,fun b hb h1 h2=>⟨?_,?_⟩⟩
 · rw [heap_set_ne h1]
   exact hg.block b hb (fun e=>h2 e.symm)
 · intro e
   have e':g=b:=by simpa [Value.ownBlock] using e
   subst e'
   rcases hat with e1 | e1
   · exact h2 e1
   · omega
attribute [local go_sem ↓] Go.wp_at_zero Go.wp_at_succ
set_option maxHeartbeats 800000 in
theorem wnum_any (base B:Nat) (n kI:Int) (k:Nat) (v:Value) (xs:List Int) (w:World) (hk:kI=k) (hk4:k<=4) (h0:0<=n) (h1:n<=4294967296) (hx:xs.length<=1000000) (h:WM w base B v xs) :
   Calls Tryz.prog 149 #[.pointer (some ⟨B,0,none⟩),.int .i64 n,.int .i64 kI] w fun e w'=>e=.returned (.tuple #[])/\∃ v',WM w' base B v' (xs++numB n k)/\WV B v v' w w':=by
 subst hk
 obtain ⟨i0,hi0,hz0,hz1,hz2⟩:=info_parts Tryz.infoByte
 have H:Hid (WM w base B v xs):=h
 clear h
 go_enter Tryz.func149,Tryz.ntmps149
 go_wp2_with fail
 go_loopg [1,6] k (fun q a y wr=>∃ (i:Nat) (n':Int) (v':Value) (xs':List Int),q+i=k/\a=.int .i64 n'/\y=.int .i64 i/\0<=n'/\n'<=4294967296/\xs'.length<=1000000+i/\Hid (xs'++numB n' q=xs++numB n k)/\WM wr base B v' xs'/\WV B v v' w wr)
 case atStart=>exact ⟨0,n,v,xs,by omega,rfl,rfl,h0,h1,by omega,rfl,H.out,WV.refl _ _ _⟩
 case round =>
   obtain ⟨i,n',v',xs',hq,rfl,rfl,g0,g1,gx,HX,hm,hv⟩:=hrel
   have HM:Hid (WM wr base B v' xs'):=hm
   have HV:Hid (WV B v v' w wr):=hv
   have c0:=hm.c0
   have z0:=hm.fz 0
   clear hm hv
   by_cases hlt:i<k
   · have hlt':(i:Int)<(k:Int):=by omega
     obtain ⟨q',rfl⟩:∃ q',gk=q'+1:=⟨gk-1,by omega⟩
     have hA1:Hid (xs'.length+1<=maxLen):=by show _<=_;unfold maxLen;omega
     have hA2:Hid ((xs'.length+1)*1<=140737488355328):=by show _<=_;omega
     have hbs:base<=wr.heap.size:=Nat.le_trans HM.out.hB (Nat.le_of_lt HM.out.lt)
     have ht:n'.tmod 256=n'%256:=Int.tmod_eq_emod_of_nonneg g0
     have ht2:n'.tdiv 256=n' / 256:=Int.tdiv_eq_ediv_of_nonneg g0
     have hr0:0<=n'%256:=by omega
     have hr1:n'%256<256:=by omega
     have hd0:0<=n' / 256:=by omega
     have hd1:n' / 256<=4294967296:=by omega
     have HN:Hid (numB n' (q'+1)=(n'%256)::numB (n' / 256) q'):=rfl
     generalize hc:n'%256=c at *
     generalize hdd:n' / 256=d at *
     have hA3:Hid (base<=(wr.alloc (.cells #[.int .u8 c] 5)).heap.size):=by show _<=_;simp;omega
     have hone:Hid (∀ u∈[Value.int .u8 c],u.oneCell'=true):=fun u hu=>by simp at hu;subst hu;rfl
     go_wp2_with (at_builtin;refine wpList_append_lies _ rfl _ _ 48 rfl base 5 i0 _ 1 1 Tryz.underlying48 hi0 hz0 hz1 hz2 rfl (by decide) v' _ _ rfl (HM.out.row.alloc _) ⟨wr.heap.size,0,none⟩ 1 1 [.int .u8 c] rfl rfl (World.news_of_block (cs:=#[.int .u8 c]) (t:=5) (fr:=(0,0)) (heap_alloc_new wr _)) hone.out (Nat.lt_succ_self 0) hA1.out hA2.out hA3.out (wr.heap.size+1) (by simp) ?_;intro g cap w4 hown hgrow hat hlt4;have zz:w4.frozen? ⟨B,0,none⟩=false:=(hgrow.frozen_far ⟨B,0,none⟩ (by have:=HM.out.lt;simp;omega) (fun e=>HM.out.ne e.symm)).trans ((HM.out.alloc _).fz 0);have cc:w4.cell? ⟨B,0,none⟩=some v':=(hgrow.cell_far ⟨B,0,none⟩ (by have:=HM.out.lt;simp;omega) (fun e=>HM.out.ne e.symm)).trans (HM.out.alloc _).c0)
     go_roundg q'
     case measure=>omega
     case rel =>
       refine ⟨i+1,d,_,xs'++[c],by omega,by go_num,by go_num,hd0,hd1,by simp;omega,?_,(HM.out.alloc _).push (by simp) hgrow (by simpa using hown),HV.out.trans (((WV.refl _ _ _).alloc _).trans ((HM.out.alloc _).pushV hgrow hat (by simp)))⟩
       show _=_
       rw [<- HX.out,HN.out]
       simp
   · have hlt':¬ (i:Int)<(k:Int):=by omega
     have hq0:gk=0:=by omega
     subst hq0
     go_wp2_with fail
     go_end0
     exact ⟨rfl,v',by have:=HX.out;simp only [numB,List.append_nil] at this;rw [<- this];exact HM.out,HV.out⟩
end Go.Proofs.YtaebngpoagjafaaGreat
namespace Go.Proofs.YtaebngpoagjafaaGreat
open Go.RowKit
def runC (a b c d e:Value) (D:Array Value) (f g h i j k:Value):Array Value:=#[a,b,c,d,e]++D++#[f,g,h,i,j,k]
theorem runC_dn {a b c d e:Value} {D:Array Value} {f g h i j k:Value} {n:Nat} (hD:D.size=64) (hn:n<64):(runC a b c d e D f g h i j k)[5+n]?=D[n]?:=by
 unfold runC
 rw [Array.getElem?_append_left (by simp;omega),Array.getElem?_append_right (by simp)]
 simp
theorem runC_hi {a b c d e:Value} {D:Array Value} {f g h i j k:Value} (hD:D.size=64) (n:Nat):(runC a b c d e D f g h i j k)[69+n]?=#[f,g,h,i,j,k][n]?:=by
 unfold runC
 rw [Array.getElem?_append_right (by simp;omega)]
 congr 1
 simp;omega
theorem runC_lo {a b c d e:Value} {D:Array Value} {f g h i j k:Value} {n:Nat} (hn:n<5):(runC a b c d e D f g h i j k)[n]?=#[a,b,c,d,e][n]?:=by
 unfold runC
 rw [Array.getElem?_append_left (by simp;omega),Array.getElem?_append_left (by simpa using hn)]
theorem runC_size {a b c d e:Value} {D:Array Value} {f g h i j k:Value} (hD:D.size=64):(runC a b c d e D f g h i j k).size=75:=by simp [runC,hD]
theorem set_app_left {X Y:Array Value} {n:Nat} {u:Value} (h:n<X.size):(X++Y).setIfInBounds n u=X.setIfInBounds n u++Y:=by
 apply Array.ext'
 simp only [Array.toList_setIfInBounds,Array.toList_append]
 rw [List.set_append_left _ _ (by simpa using h)]
theorem set_app_right {X Y:Array Value} {n:Nat} {u:Value} (h:X.size<=n):(X++Y).setIfInBounds n u=X++Y.setIfInBounds (n-X.size) u:=by
 apply Array.ext'
 simp only [Array.toList_setIfInBounds,Array.toList_append]
 rw [List.set_append_right _ _ (by simpa using h)]
 simp
theorem runC_set1 {a b c d e:Value} {D:Array Value} {f g h i j k u:Value}:(runC a b c d e D f g h i j k).setIfInBounds 1 u=runC a u c d e D f g h i j k:=by
 unfold runC
 rw [set_app_left (by simp;omega),set_app_left (by simp)];rfl
theorem runC_set2 {a b c d e:Value} {D:Array Value} {f g h i j k u:Value}:(runC a b c d e D f g h i j k).setIfInBounds 2 u=runC a b u d e D f g h i j k:=by
 unfold runC
 rw [set_app_left (by simp;omega),set_app_left (by simp)];rfl
theorem runC_set72 {a b c d e:Value} {D:Array Value} {f g h i j k u:Value} (hD:D.size=64):(runC a b c d e D f g h i j k).setIfInBounds 72 u=runC a b c d e D f g h u j k:=by
 unfold runC
 rw [set_app_right (by simp;omega)]
 simp [hD]
theorem runC_set73 {a b c d e:Value} {D:Array Value} {f g h i j k u:Value} (hD:D.size=64):(runC a b c d e D f g h i j k).setIfInBounds 73 u=runC a b c d e D f g h i u k:=by
 unfold runC
 rw [set_app_right (by simp;omega)]
 simp [hD]
theorem runC_set74 {a b c d e:Value} {D:Array Value} {f g h i j k u:Value} (hD:D.size=64):(runC a b c d e D f g h i j k).setIfInBounds 74 u=runC a b c d e D f g h i j u:=by
 unfold runC
 rw [set_app_right (by simp;omega)]
 simp [hD]
structure CS (w:World) (base:Nat) (co:Option Addr) (cb coff:Nat) (C:List Int):Prop where
 at_:0<C.length->co=some ⟨cb,coff,none⟩
 lt:0<C.length->cb<base
 val:∀ i x,C[i]?=some x->w.cell? ⟨cb,coff+i,none⟩=some (.int .u8 x)
 byt:∀ x∈C,0<=x/\x<256
structure RM (w:World) (base B:Nat) (co:Option Addr) (cb coff cc:Nat) (C:List Int) (W:RW) (D:Array Value) (av sv:Value) (s:RT):Prop where
 blk:w.heap[B]?=some (.cells (runC (.slice co C.length cc) (.int .i64 s.r.p) (.bool s.r.b) (.int .i64 W.addr) (.int .i64 W.draw) D av (.int .i64 W.reg) (.int .i64 W.dep) sv (.int .i64 s.ttl) (.int .i64 s.sc)) 121 (0,0))
 dsz:D.size=64
 dn:∀ i,i<64->D[i]?=some (.bool (W.dn i))
 row:w.ownsRow base 3 1 sv s.sv.length (s.sv.map (Value.int .i64))
 hB:base<=B
 code:CS w base co cb coff C
structure RQ (B:Nat) (w w':World):Prop where
 bel:Below 0 w w'
 kept:∀ b,b<w.heap.size->b≠B->w'.heap[b]?=w.heap[b]?
theorem RQ.refl (B:Nat) (w:World):RQ B w w:=⟨Below.refl _ _,fun _ _ _=>rfl⟩
theorem RQ.trans {B:Nat} {a b c:World} (h:RQ B a b) (k:RQ B b c):RQ B a c:=⟨h.bel.trans k.bel,fun x hx hn=>(k.kept x (Nat.lt_of_lt_of_le hx h.bel.size) hn).trans (h.kept x hx hn)⟩
theorem RQ.drewN {B:Nat} {a b:World} (h:RQ B a b) (n:Nat):RQ B a (b.drewN n):=⟨⟨h.bel.os,h.bel.tape,h.bel.output,h.bel.size,h.bel.block⟩,h.kept⟩
theorem RQ.setCell {B:Nat} {a b:World} (h:RQ B a b) (j:Nat) (u:Value):RQ B a (b.setCell ⟨B,j,none⟩ u):=⟨h.bel.setCell (Nat.zero_le _) u,fun x hx hn=>by rw [heap_set_ne hn];exact h.kept x hx hn⟩
theorem RQ.alloc {B:Nat} {a b:World} (h:RQ B a b) (o:Obj):RQ B a (b.alloc o):=⟨h.bel.alloc (Nat.zero_le _) o,fun x hx hn=>by rw [Below.heap_alloc _ _ _ (Nat.lt_of_lt_of_le hx h.bel.size)];exact h.kept x hx hn⟩
theorem RQ.below {B:Nat} {a b:World} (h:RQ B a b) {base:Nat} (hB:base<=B) (hs:base<=a.heap.size):Below base a b:=⟨h.bel.os,h.bel.tape,h.bel.output,h.bel.size,fun k hk=>h.kept k (by omega) (by omega)⟩
section
variable {w:World} {base B:Nat} {co:Option Addr} {cb coff cc:Nat} {C:List Int} {W:RW} {D:Array Value} {av sv:Value} {s:RT}
theorem RM.lt (h:RM w base B co cb coff cc C W D av sv s):B<w.heap.size:=lt_of_block h.blk
theorem RM.c0 (h:RM w base B co cb coff cc C W D av sv s):w.cell? ⟨B,0,none⟩=some (.slice co C.length cc):=by rw [cell_of_row w B 0 _ _ _ h.blk,runC_lo (by decide)];rfl
theorem RM.c1 (h:RM w base B co cb coff cc C W D av sv s):w.cell? ⟨B,1,none⟩=some (.int .i64 s.r.p):=by rw [cell_of_row w B 1 _ _ _ h.blk,runC_lo (by decide)];rfl
theorem RM.c2 (h:RM w base B co cb coff cc C W D av sv s):w.cell? ⟨B,2,none⟩=some (.bool s.r.b):=by rw [cell_of_row w B 2 _ _ _ h.blk,runC_lo (by decide)];rfl
theorem RM.c3 (h:RM w base B co cb coff cc C W D av sv s):w.cell? ⟨B,3,none⟩=some (.int .i64 W.addr):=by rw [cell_of_row w B 3 _ _ _ h.blk,runC_lo (by decide)];rfl
theorem RM.c4 (h:RM w base B co cb coff cc C W D av sv s):w.cell? ⟨B,4,none⟩=some (.int .i64 W.draw):=by rw [cell_of_row w B 4 _ _ _ h.blk,runC_lo (by decide)];rfl
theorem RM.cd (h:RM w base B co cb coff cc C W D av sv s) {i:Nat} (hi:i<64):w.cell? ⟨B,5+i,none⟩=some (.bool (W.dn i)):=by
 rw [cell_of_row w B (5+i) _ _ _ h.blk,runC_dn h.dsz hi];exact h.dn i hi
theorem RM.ch (h:RM w base B co cb coff cc C W D av sv s) (i:Nat):w.cell? ⟨B,69+i,none⟩=#[av,.int .i64 W.reg,.int .i64 W.dep,sv,.int .i64 s.ttl,.int .i64 s.sc][i]?:=by
 rw [cell_of_row w B (69+i) _ _ _ h.blk,runC_hi h.dsz]
theorem RM.fz (h:RM w base B co cb coff cc C W D av sv s) (j:Nat):w.frozen? ⟨B,j,none⟩=false:=by simp [World.frozen?,h.blk]
theorem RM.ne (h:RM w base B co cb coff cc C W D av sv s):sv.ownBlock≠some B:=owns_ne h.row h.blk (by decide)
theorem blkN_set {w:World} {B j:Nat} {cs:Array Value} {u:Value} {t:TypeId} (h:w.heap[B]?=some (.cells cs t (0,0))):(w.setCell ⟨B,j,none⟩ u).heap[B]?=some (.cells (cs.setIfInBounds j u) t (0,0)):=by
 simp [World.setCell,Array.getElem?_modify,h]
theorem CS.set (h:CS w base co cb coff C) (hB:base<=B) (j:Nat) (u:Value):CS (w.setCell ⟨B,j,none⟩ u) base co cb coff C:=⟨h.at_,h.lt,fun i x hx=>by
 have hl:0<C.length:=by have:=(List.getElem?_eq_some_iff.1 hx).1;omega
 rw [World.cell?_of_block (heap_set_ne (by have:=h.lt hl;simp only;omega))]
 exact h.val i x hx,h.byt⟩
theorem CS.of_kept {w':World} (h:CS w base co cb coff C) (hk:∀ b,b<base->w'.heap[b]?=w.heap[b]?):CS w' base co cb coff C:=⟨h.at_,h.lt,fun i x hx=>by
 have hl:0<C.length:=by have:=(List.getElem?_eq_some_iff.1 hx).1;omega
 rw [World.cell?_of_block (hk cb (h.lt hl))]
 exact h.val i x hx,h.byt⟩
theorem RM.at (h:RM w base B co cb coff cc C W D av sv s) (p:Nat) (x:Int) (hx:x=p):RM (w.setCell ⟨B,1,none⟩ (.int .i64 x)) base B co cb coff cc C W D av sv ⟨⟨p,s.r.b⟩,s.sv,s.ttl,s.sc⟩ :=
 ⟨by rw [hx,blkN_set h.blk,runC_set1],h.dsz,h.dn,ownsRow_setCell_other h.row h.ne _,h.hB,h.code.set h.hB _ _⟩
theorem RM.bad (h:RM w base B co cb coff cc C W D av sv s) (b:Bool):RM (w.setCell ⟨B,2,none⟩ (.bool b)) base B co cb coff cc C W D av sv ⟨⟨s.r.p,b⟩,s.sv,s.ttl,s.sc⟩ :=
 ⟨by rw [blkN_set h.blk,runC_set2],h.dsz,h.dn,ownsRow_setCell_other h.row h.ne _,h.hB,h.code.set h.hB _ _⟩
theorem RM.ttlS (h:RM w base B co cb coff cc C W D av sv s) (n:Int):RM (w.setCell ⟨B,73,none⟩ (.int .i64 n)) base B co cb coff cc C W D av sv ⟨s.r,s.sv,n,s.sc⟩ :=
 ⟨by rw [blkN_set h.blk,runC_set73 h.dsz],h.dsz,h.dn,ownsRow_setCell_other h.row h.ne _,h.hB,h.code.set h.hB _ _⟩
theorem RM.scS (h:RM w base B co cb coff cc C W D av sv s) (n:Int):RM (w.setCell ⟨B,74,none⟩ (.int .i64 n)) base B co cb coff cc C W D av sv ⟨s.r,s.sv,s.ttl,n⟩ :=
 ⟨by rw [blkN_set h.blk,runC_set74 h.dsz],h.dsz,h.dn,ownsRow_setCell_other h.row h.ne _,h.hB,h.code.set h.hB _ _⟩
theorem RM.drewN (h:RM w base B co cb coff cc C W D av sv s) (n:Nat):RM (w.drewN n) base B co cb coff cc C W D av sv s:=⟨h.blk,h.dsz,h.dn,h.row,h.hB,⟨h.code.at_,h.code.lt,h.code.val,h.code.byt⟩⟩
theorem RM.alloc (h:RM w base B co cb coff cc C W D av sv s) (o:Obj):RM (w.alloc o) base B co cb coff cc C W D av sv s :=
 ⟨by rw [Below.heap_alloc _ _ _ h.lt];exact h.blk,h.dsz,h.dn,h.row.alloc o,h.hB,h.code.of_kept (fun b hb=>Below.heap_alloc _ _ _ (by have:=h.lt;have:=h.hB;omega))⟩
end
attribute [local go_sem ↓] Go.wp_at_zero Go.wp_at_succ
set_option maxHeartbeats 800000 in
theorem next_any (base B:Nat) (co:Option Addr) (cb coff cc:Nat) (C:List Int) (W:RW) (D:Array Value) (av sv:Value) (s:RT) (w:World) (hp:s.r.p<=1000000000000000000) (h:RM w base B co cb coff cc C W D av sv s) :
   Calls Tryz.prog 114 #[.pointer (some ⟨B,0,none⟩)] w fun e w'=>e=.returned (.int .i64 (nxV C s.r))/\RM w' base B co cb coff cc C W D av sv ⟨nx C s.r,s.sv,s.ttl,s.sc⟩/\RQ B w w':=by
 have H:Hid (RM w base B co cb coff cc C W D av sv s):=h
 have c0:=h.c0
 have c1:=h.c1
 have c2:=h.c2
 have z1:=h.fz 1
 have z2:=h.fz 2
 have hcode:=h.code
 clear h
 obtain ⟨⟨p,b⟩,sl,ttl,sc⟩:=s
 simp only at c1 c2 hp
 have hp0:(0:Int)<=(p:Int):=by omega
 by_cases hlt:p<C.length
 · obtain ⟨x,hx⟩:∃ x,C[p]?=some x:=⟨C[p],List.getElem?_eq_getElem hlt⟩
   have hx2:=hcode.val p x hx
   have hbt:=hcode.byt x (List.mem_of_getElem? hx)
   obtain rfl:=hcode.at_ (by omega)
   have HV:Hid (nxV C ⟨p,b⟩=x):=by show _=_;simp [nxV,hx]
   have HX:Hid (nx C ⟨p,b⟩=⟨p+1,b⟩):=by show _=_;simp [nx,hlt]
   have hlt':(p:Int)<(C.length:Int):=by omega
   have hge:decide ((C.length:Int)<=(p:Int))=false:=decide_eq_false (by omega)
   have hlz:decide ((p:Int)<0)=false:=decide_eq_false (by omega)
   clear hcode hx
   go_enter Tryz.func114,Tryz.ntmps114
   go_wp2_with fail
   go_quiet (fail)
   go_wp2_with fail
   go_quiet (fail)
   go_wp2_with fail
   go_ret
   exact ⟨by rw [HV.out];rfl,by rw [HX.out];exact (H.out.drewN _).at (p+1) ((p:Int)+1) (by omega),((RQ.refl _ _).drewN _).setCell _ _⟩
 · have HV:Hid (nxV C ⟨p,b⟩=0):=by show _=_;simp [nxV,List.getElem?_eq_none (Nat.le_of_not_lt hlt)]
   have HX:Hid (nx C ⟨p,b⟩=⟨p,true⟩):=by show _=_;simp [nx,hlt]
   have hge:decide ((C.length:Int)<=(p:Int))=true:=decide_eq_true (by omega)
   have hlz:decide ((p:Int)<0)=false:=decide_eq_false (by omega)
   clear hcode
   go_enter Tryz.func114,Tryz.ntmps114
   go_wp2_with fail
   go_quiet (fail)
   go_wp2_with fail
   go_ret
   exact ⟨by rw [HV.out];rfl,by rw [HX.out];exact (H.out.drewN _).bad true,((RQ.refl _ _).drewN _).setCell _ _⟩
end Go.Proofs.YtaebngpoagjafaaGreat
