import Derived.Test.YtaebngpoagjafabGreatU02
set_option maxRecDepth 100000
set_option maxHeartbeats 1000000
namespace Go.Proofs.YtaebngpoagjafabGreat
open Value renaming int → J, slice → O
open IntKind renaming i64 → Z
open Go.RowKit
theorem M.step_best (V L:Nat->Int) (a:Int) (k:Nat) (x:Int) (h:x=if L k<=M.sh (V k) a/\M.bitsTo V L a k<L k then (k:Int) else M.bestTo V L a k):M.bestTo V L a (k+1)=x:=by rw [h];rfl
theorem M.step_bits (V L:Nat->Int) (a:Int) (k:Nat) (x:Int) (h:x=if L k<=M.sh (V k) a/\M.bitsTo V L a k<L k then L k else M.bitsTo V L a k):M.bitsTo V L a (k+1)=x:=by rw [h];rfl
theorem M.step_dep (V L:Nat->Int) (a:Int) (k:Nat) (x nd:Int) (hn:M.need V L a k=nd) (h:x=if M.depTo V L a k<nd then nd else M.depTo V L a k):M.depTo V L a (k+1)=x:=by rw [h,<- hn];rfl
theorem yr {a b:Int} (h:a=b):J Z b=J Z a:=by rw [h]
theorem Jk (ao:Option Addr) (b n c:Nat) (V L:Nat->Int) (a:Int) (w:World) (a0:0<=a) (a1:a<4294967296) (hn:n<=64) (hs:PS w ao b n V L) (hp:∀ i,i<n->M.isP (V i) (L i)=true) :
 Calls Tryz.prog 114 #[O ao n c,J Z a] w fun e w'=>e=.returned (.tuple #[J Z (M.bestTo V L a n),J Z (M.depTo V L a n)])/\Below w.heap.size w w':=by
 go_enter Tryz.func114,Tryz.ntmps114
 go_wp2
 go_loopw [6,7,8,15] (fun x y z i wr=>∃ k:Nat,k<=n/\i=J Z k/\x=J Z (M.bestTo V L a k)/\y=J Z (M.bitsTo V L a k)/\z=J Z (M.depTo V L a k)/\Below w.heap.size w wr) (fun _ _ _ i _=>n-(intOf i).toNat)
 case atStart=>exact ⟨0,by omega,rfl,rfl,rfl,rfl,Below.refl _ _⟩
 case round =>
  obtain ⟨k,E,rfl,rfl,rfl,rfl,g⟩:=hrel
  by_cases f:k<n
  ·obtain rfl:=hs.at_ (by omega)
   have d:=hs.below g
   have A:=d.val k f
   have D:=d.len k f
   have s:b<wr.heap.size:=d.lt (by omega)
   have h:Hid (Below w.heap.size w wr):=g
   obtain ⟨v,u,o,m,_⟩:=M.isP_iff.1 (hp k f)
   have q:=M.sh_le (V k) a
   clear hs g d hp
   by_cases p:(M.sh (V k) a:Int)<L k
   ·have l:Hid (M.need V L a k=M.sh (V k) a+1):=by show _=_;unfold M.need;rw [if_pos p]
    by_cases r:M.depTo V L a k<M.sh (V k) a+1
    all_goals
     go_wp2_with (go_at_call 146;refine (YD _ _ _ o m a0 a1).mono ?_;rintro e w' ⟨rfl,rfl⟩)
     go_roundw
     case rel=>exact ⟨k+1,by omega,by go_num,yr (M.step_best _ _ _ _ _ (by rw [if_neg (by omega)])),yr (M.step_bits _ _ _ _ _ (by rw [if_neg (by omega)])),yr (M.step_dep _ _ _ _ _ _ l.out (by split<;>omega)),h.out.trans (Below.mono (B:=wr.heap.size) (by repeat (first | exact Below.refl _ _ | refine zL ?_ _ | refine Below.drew ?_ | refine Below.alloc ?_ (by simp) _ | refine Below.setCell ?_ (by simp) _)) h.out.size)⟩
     case measure=>simp [intOf];omega
   ·have l:Hid (M.need V L a k=L k):=by show _=_;unfold M.need;rw [if_neg p]
    by_cases r:M.depTo V L a k<L k
    all_goals
     by_cases C:M.bitsTo V L a k<L k
     all_goals
      go_wp2_with (go_at_call 146;refine (YD _ _ _ o m a0 a1).mono ?_;rintro e w' ⟨rfl,rfl⟩)
      go_roundw
      case rel=>exact ⟨k+1,by omega,by go_num,yr (M.step_best _ _ _ _ _ (by split<;>omega)),yr (M.step_bits _ _ _ _ _ (by split<;>omega)),yr (M.step_dep _ _ _ _ _ _ l.out (by split<;>omega)),h.out.trans (Below.mono (B:=wr.heap.size) (by repeat (first | exact Below.refl _ _ | refine zL ?_ _ | refine Below.drew ?_ | refine Below.alloc ?_ (by simp) _ | refine Below.setCell ?_ (by simp) _)) h.out.size)⟩
      case measure=>simp [intOf];omega
  ·have j:k=n:=by omega
   subst j
   go_wp2
   go_ret2
   exact ⟨rfl,g⟩
theorem PS.drew {w:World} {ao b n V L} (h:PS w ao b n V L):PS w.drew ao b n V L:=⟨h.at_,h.lt,h.val,h.len⟩
theorem zfc {W w1:World} (hb:Below W.heap.size W w1):∀ b o,b<W.heap.size->w1.cell? ⟨b,o,none⟩=W.cell? ⟨b,o,none⟩:=fun b o h=>hb.cell (p:=⟨b,o,none⟩) h
theorem J7 (ao:Option Addr) (b n c:Nat) (V L:Nat->Int) (w:World) (hn:n<=9223372036854775807) (hc:n<=c) (hs:PS w ao b n V L) :
 Calls Tryz.prog 84 #[O ao n c] w fun e w'=>e=.returned (.bool (M.isMap V L n))/\Below w.heap.size w w':=by
 by_cases m:n<=64
 ·go_enter Tryz.func84,Tryz.ntmps84
  go_wp2
  go_loopw [10] (fun i wr=>∃ k:Nat,k<=n/\i=J Z k/\M.okTo V L k=true/\Below w.heap.size w wr) (fun i _=>n-(intOf i).toNat)
  case atStart=>exact ⟨0,by omega,rfl,rfl,Below.refl _ _⟩
  case round =>
   obtain ⟨k,B,rfl,x,p⟩:=hrel
   by_cases f:k<n
   ·obtain rfl:=hs.at_ (by omega)
    have d:=hs.below p
    have z:=d.val k f
    have A:=d.len k f
    have C:b<wr.heap.size:=d.lt (by omega)
    have q:Hid (Below w.heap.size w wr):=p
    have D:PS wr (some ⟨b,0,none⟩) b k V L:=d.take B
    clear hs p d
    cases e1:M.isP (V k) (L k) with
    | false =>
     have h:Hid (M.isMap V L n=false):=M.isMap_bad f (.inl e1)
     go_wp2_with fail
     refine (YS _ _ _).mono ?_
     rintro e o ⟨rfl,a⟩
     have j:Hid (Below w.heap.size w o):=q.out.trans ((((Below.refl _ _).alloc (Nat.le_refl _) _).trans (a.mono (by simp))).mono q.out.size)
     clear a
     go_wp2_with fail
     go_ret
     exact ⟨yc h.out.symm,j.out⟩
    | true =>
     go_wp2_with fail
     refine (YS _ _ _).mono ?_
     rintro e o ⟨rfl,a⟩
     have l:PS o (some ⟨b,0,none⟩) b k V L:=(D.below ((Below.refl _ _).alloc (Nat.le_refl _) _)).below a
     have v:=zfc a wr.heap.size 0 (by simp)
     have u:=zfc a wr.heap.size 1 (by simp)
     have j:Hid (Below w.heap.size w o):=q.out.trans ((((Below.refl _ _).alloc (Nat.le_refl _) _).trans (a.mono (by simp))).mono q.out.size)
     simp at v u
     clear a z A
     cases e2:M.inTo V L (V k) (L k) k with
     | true =>
      have h:Hid (M.isMap V L n=false):=M.isMap_bad f (.inr e2)
      go_wp2_with fail
      go_region_with (go_at_call 122;refine (QC _ b k c V L _ _ _ (by omega) (by exact l.drew)).mono ?_;rintro e s ⟨rfl,g⟩)
      all_goals
       go_wp2_with fail
       go_ret
       exact ⟨yc h.out.symm,(j.out.drew).trans (g.mono j.out.size)⟩
     | false =>
      have E:Hid (M.okTo V L (k+1)=true):=by show _=_;simp [M.okTo,x,e1,e2]
      go_wp2_with fail
      go_region_with (go_at_call 122;refine (QC _ b k c V L _ _ _ (by omega) (by exact l.drew)).mono ?_;rintro e s ⟨rfl,g⟩)
      all_goals
       have y:Hid (Below w.heap.size w s):=(j.out.drew).trans (g.mono j.out.size)
       clear g v u
       go_wp2_with fail
       go_roundw
       case rel=>exact ⟨k+1,by omega,by go_num,E,y⟩
       case measure=>simp [intOf];omega
   ·have r:k=n:=by omega
    subst r
    have h:Hid (M.isMap V L k=true):=by show _=_;simp [M.isMap,x,m]
    go_wp2
    go_ret
    exact ⟨yc h.out.symm,p⟩
 ·have h:Hid (M.isMap V L n=false):=by show _=_;simp [M.isMap,m]
  go_enter Tryz.func84,Tryz.ntmps84
  go_wp2
  go_ret
  exact ⟨yc h.out.symm,Below.refl _ _⟩
theorem PS.drewN {w:World} {ao b n V L} (h:PS w ao b n V L) (m:Nat):PS (w.drewN m) ao b n V L:=⟨h.at_,h.lt,h.val,h.len⟩
theorem zda (a b c d:Int) (w:World):(Op.equalIn 10000 94 (.agg #[J Z a,J Z b]) (.agg #[J Z c,J Z d])).run Tryz.prog w=.ok (a==c && b==d) w:=by
 have i:=Tryz.underlying3
 have f:Tryz.prog.underlying 94=some (.struct (Tryz.prog.fieldsOf 94)):=by kernel_rfl
 have e:Tryz.prog.stoodInHeld 94=false:=by kernel_rfl
 rw [show (10000:Nat)=9999+1 from rfl,run_equalIn_agg w 9999 94 _ _ f e]
 simp only [Program.fieldsOf,Tryz.underlying94]
 go_simp
 by_cases h:a=c<;>by_cases g:b=d<;>simp [h,g]
theorem J5 (ao:Option Addr) (b n c:Nat) (V L:Nat->Int) (w:World) (hn:n<=9223372036854775807) (hs:PS w ao b n V L) :
 Calls Tryz.prog 41 #[O ao n c] w fun e w'=>e=.returned (.bool (M.isMap V L n))/\Below w.heap.size w w':=by
 by_cases q:n<=64
 ·go_enter Tryz.func41,Tryz.ntmps41
  go_wp2
  go_loopw [3] (fun i wr=>∃ k:Nat,k<=n/\i=J Z k/\M.okTo V L k=true/\Below w.heap.size w wr) (fun i _=>n-(intOf i).toNat)
  case atStart=>exact ⟨0,by omega,rfl,rfl,Below.refl _ _⟩
  case round =>
   obtain ⟨k,S,rfl,C,u⟩:=hrel
   by_cases d:k<n
   ·obtain rfl:=hs.at_ (by omega)
    have g:=hs.below u
    have G:=g.val k d
    have N:=g.len k d
    have P:b<wr.heap.size:=g.lt (by omega)
    have v:Hid (Below w.heap.size w wr):=u
    have D:PS wr (some ⟨b,0,none⟩) b n V L:=g
    clear hs u g
    cases e1:M.isP (V k) (L k) with
    | false =>
     have l:Hid (M.isMap V L n=false):=M.isMap_bad d (.inl e1)
     go_wp2_with fail
     refine (Xn _ _ _).mono ?_
     rintro e r ⟨rfl,f⟩
     have s:Hid (Below w.heap.size w r):=v.out.trans (f.mono v.out.size)
     clear f
     go_wp2_with fail
     go_ret
     exact ⟨yc l.out.symm,s.out⟩
    | true =>
     go_wp2_with fail
     refine (Xn _ _ _).mono ?_
     rintro e r ⟨rfl,f⟩
     have p:PS r (some ⟨b,0,none⟩) b n V L:=D.below f
     have s:Hid (Below w.heap.size w r):=v.out.trans (f.mono v.out.size)
     clear f G N D
     go_wp2_with fail
     go_loopw [5] (fun j wq=>∃ i:Nat,i<=k/\j=J Z i/\M.inTo V L (V k) (L k) i=false/\PS wq (some ⟨b,0,none⟩) b n V L/\Below w.heap.size w wq) (fun j _=>k-(intOf j).toNat)
     case atStart=>exact ⟨0,by omega,rfl,rfl,p,s⟩
     case round =>
      obtain ⟨i,U,rfl,B,h,m⟩:=hrel
      clear p s
      by_cases y:i<k
      ·have E:=h.val k d
       have I:=h.len k d
       have F:=h.val i (by omega)
       have K:=h.len i (by omega)
       have Q:(k:Int)<n:=by omega
       have R:(i:Int)<n:=by omega
       have o:=fun w=>zda (V k) (L k) (V i) (L i) w
       cases e3:(V k==V i && L k==L i) with
       | true =>
        rw [e3] at o
        have l:Hid (M.isMap V L n=false):=M.isMap_bad d (.inr (M.inTo_hit y (by simp at e3;exact e3.1.symm) (by simp at e3;exact e3.2.symm)))
        clear e3
        go_wp2_with fail
        go_quiet (fail)
        go_wp2_with fail
        go_ret
        exact ⟨yc l.out.symm,zL m _⟩
       | false =>
        rw [e3] at o
        have A:Hid (M.inTo V L (V k) (L k) (i+1)=false):=by
         have H:(V i==V k && L i==L k)=false:=by rw [<- e3,Bool.beq_comm (a:=V i),Bool.beq_comm (a:=L i)]
         show _=_;simp only [M.inTo,B,H,Bool.or_false]
        clear e3
        go_wp2_with fail
        go_quiet (fail)
        go_wp2_with fail
        go_roundw
        case rel=>exact ⟨i+1,by omega,by go_num,A,h.drewN _,zL m _⟩
        case measure=>simp [intOf];omega
      ·have z:i=k:=by omega
       subst z
       have A:Hid (M.okTo V L (i+1)=true):=by show _=_;simp [M.okTo,C,e1,B]
       go_wp2_with fail
       go_roundw
       case rel=>exact ⟨i+1,by omega,by go_num,A,m⟩
       case measure=>simp [intOf];omega
   ·have x:k=n:=by omega
    subst x
    have l:Hid (M.isMap V L k=true):=by show _=_;simp [M.isMap,C,q]
    go_wp2
    go_ret
    exact ⟨yc l.out.symm,u⟩
 ·have l:Hid (M.isMap V L n=false):=by show _=_;simp [M.isMap,q]
  go_enter Tryz.func41,Tryz.ntmps41
  go_wp2
  go_ret
  exact ⟨yc l.out.symm,Below.refl _ _⟩
def Zw (R:Nat->Int):Nat->Bool
 | 0=>true
 | n+1=>Zw R n && (decide (0<=R n) && decide (R n<=99))
theorem za4 {R:Nat->Int} {n:Nat}:Zw R n=true↔∀ k,k<n->0<=R k/\R k<=99:=by
 induction n with
 | zero=>simp [Zw]
 | succ n ih =>
  simp only [Zw,Bool.and_eq_true,ih,decide_eq_true_eq]
  constructor
  ·rintro ⟨h,d⟩ k a
   by_cases b:k=n
   ·subst b;exact d
   ·exact h k (by omega)
  ·intro h
   exact ⟨fun k a=>h k (by omega),h n (by omega)⟩
theorem XD {R:Nat->Int} {n k:Nat} (hk:k<n) (h:¬ (0<=R k/\R k<=99)):Zw R n=false:=by
 rw [Bool.eq_false_iff]
 intro a
 exact h (za4.1 a k hk)
theorem Qf (ao:Option Addr) (b off n c:Nat) (V L R:Nat->Int) (w:World) (hn:n*24<=140737488351232) (hs:TS w ao b off n V L R) :
 Calls Tryz.prog 19 #[O ao n c] w fun e w'=>e=.returned (.bool (Zw R n && M.isMap V L n))/\Below w.heap.size w w':=by
 go_enter Tryz.func19,Tryz.ntmps19
 go_wp2
 go_loop [3] (fun i=>∃ k:Nat,k<=n/\i=J Z k/\Zw R k=true) (fun i=>n-(intOf i).toNat)
 case atStart=>exact ⟨0,by omega,rfl,rfl⟩
 case round =>
  obtain ⟨k,B,rfl,m⟩:=hrel
  by_cases d:k<n
  ·obtain rfl:=hs.at_ (by omega)
   have A:=hs.reg k d
   have p:b<w.heap.size:=hs.lt (by omega)
   clear hs
   by_cases D:R k<0
   ·have f:Hid ((Zw R n && M.isMap V L n)=false):=by show _=_;rw [XD d (by omega)];rfl
    go_wp2
    go_ret
    exact ⟨yc f.out.symm,Below.refl _ _⟩
   ·by_cases C:99<R k
    ·have f:Hid ((Zw R n && M.isMap V L n)=false):=by show _=_;rw [XD d (by omega)];rfl
     go_wp2
     go_ret
     exact ⟨yc f.out.symm,Below.refl _ _⟩
    ·have x:Hid (Zw R (k+1)=true):=by
      have r:0<=R k:=by omega
      have q:R k<=99:=by omega
      show _=_;simp [Zw,m,r,q]
     go_wp2
     go_round
     case rel=>exact ⟨k+1,by omega,by go_num,x⟩
     case measure=>simp [intOf];omega
  ·have j:k=n:=by omega
   subst j
   have f:Hid ((Zw R k && M.isMap V L k)=M.isMap V L k):=by show _=_;rw [m];rfl
   go_wp2_with fail
   refine (Xg _ b off _ _ V L R _ hn hs).mono ?_
   rintro e z ⟨⟨v,rfl,a⟩,g⟩
   obtain ⟨u,s,E,rfl,o,_,h⟩:=Z4 a
   clear a
   go_wp2_with fail
   refine (J5 _ s _ _ V L _ (by omega) h).mono ?_
   rintro e y ⟨rfl,l⟩
   go_wp2_with fail
   go_ret
   exact ⟨yc f.out.symm,g.trans (l.mono g.size)⟩
theorem M.match_iff {v n a:Int} (h:M.isP v n=true) (ha:M.isA a=true):(a-a%M.p2 (32-n).toNat==v)=decide (n<=M.sh v a):=by
 obtain ⟨l,k,f,d,o⟩:=M.isP_iff.1 h
 have g:M.isA v=true:=M.isA_iff.2 ⟨f,d⟩
 have m:=M.p2_pos (32-n).toNat
 have j:=Int.mul_ediv_add_emod a (M.p2 (32-n).toNat)
 have p:=Int.mul_ediv_add_emod v (M.p2 (32-n).toNat)
 have e:32-n.toNat=(32-n).toNat:=by omega
 have b:=M.sh_iff (s:=n.toNat) (by omega) g ha
 rw [e] at b
 have i:(a-a%M.p2 (32-n).toNat=v)↔n<=M.sh v a:=by
  constructor
  ·intro h
   have:M.p2 (32-n).toNat*(a / M.p2 (32-n).toNat)=M.p2 (32-n).toNat*(v / M.p2 (32-n).toNat):=by omega
   have:=b.2 (Int.eq_of_mul_eq_mul_left (by omega) this.symm)
   omega
  ·intro h
   have:=b.1 (by omega)
   rw [<- this] at j;omega
 rw [Bool.eq_iff_iff];simp [i]
theorem M.cut_iff {v s a:Int} (hv:M.isA v=true) (ha:M.isA a=true) (s0:0<=s) (s1:s<=32):(v-v%M.p2 (32-s).toNat==a-a%M.p2 (32-s).toNat)=decide (s<=M.sh v a):=by
 have g:=M.p2_pos (32-s).toNat
 have f:=Int.mul_ediv_add_emod a (M.p2 (32-s).toNat)
 have i:=Int.mul_ediv_add_emod v (M.p2 (32-s).toNat)
 have e:32-s.toNat=(32-s).toNat:=by omega
 have b:=M.sh_iff (s:=s.toNat) (by omega) hv ha
 rw [e] at b
 have d:(v-v%M.p2 (32-s).toNat=a-a%M.p2 (32-s).toNat)↔s<=M.sh v a:=by
  constructor
  ·intro h
   have:M.p2 (32-s).toNat*(v / M.p2 (32-s).toNat)=M.p2 (32-s).toNat*(a / M.p2 (32-s).toNat):=by omega
   have:=b.2 (Int.eq_of_mul_eq_mul_left (by omega) this)
   omega
  ·intro h
   have:=b.1 (by omega)
   rw [<- this] at f;omega
 rw [Bool.eq_iff_iff];simp [d]
theorem M.need_iff {V L:Nat->Int} {a s:Int} {i:Nat}:M.need V L a i<=s↔¬ (s<L i/\s<=M.sh (V i) a):=by
 unfold M.need;split<;>omega
theorem M.dep_iff {V L:Nat->Int} {a s:Int} {n:Nat} (s0:0<=s):M.depTo V L a n<=s↔∀ i,i<n->M.need V L a i<=s:=by
 constructor
 ·intro h i b;have:=M.need_le_dep (V:=V) (L:=L) (a:=a) b;omega
 ·intro h
  rcases M.dep_is (V:=V) (L:=L) (a:=a) (n:=n) with h0 | ⟨i,b,hn⟩
  ·omega
  ·have:=h i b;omega
theorem ZN (a n:Int) (w:World) (a0:0<=a) (a1:a<4294967296) (n0:0<=n) (n1:n<=32) :
 Calls Tryz.prog 167 #[J Z a,J Z n] w fun e w'=>e=.returned (J Z (a-a%M.p2 (32-n).toNat))/\w'=w:=by
 have f:=M.p2_pos (32-n).toNat
 have h:=M.p2_le (j:=(32-n).toNat) (by omega)
 have i:=Int.emod_nonneg a (b:=M.p2 (32-n).toNat) (by omega)
 have g:=Int.emod_lt_of_pos a f
 go_enter Tryz.func167,Tryz.ntmps167
 go_wp2_with fail
 refine (jv _ _ n0 n1).mono ?_
 rintro e w' ⟨rfl,d⟩
 subst w'
 go_wp2
 go_ret
 exact ⟨rfl,rfl⟩
theorem Zi {w wr:World} (h:∃ q,wr=w.drewN q) (m:Nat):∃ q,wr.drewN m=w.drewN q:=by
 obtain ⟨q,rfl⟩:=h
 exact ⟨q+m,by simp⟩
theorem XY (ao:Option Addr) (b n c:Nat) (V L:Nat->Int) (a:Int) (w:World) (hA:M.isA a=true) (hn:n<=64) (hs:PS w ao b n V L) (hp:∀ i,i<n->M.isP (V i) (L i)=true) :
 Calls Tryz.prog 148 #[O ao n c,J Z a] w fun e w'=>e=.returned (J Z (M.bestTo V L a n))/\∃ m,w'=w.drewN m:=by
 obtain ⟨D,C⟩:=M.isA_iff.1 hA
 have H:Hid _:=hp
 clear hp
 go_enter Tryz.func148,Tryz.ntmps148
 go_wp2
 go_loopw [5,6] (fun x i wr=>∃ m:Nat,m<=n/\i=J Z m/\x=J Z (M.bestTo V L a m)/\∃ q,wr=w.drewN q) (fun _ i _=>n-(intOf i).toNat)
 case atStart=>exact ⟨0,by omega,rfl,rfl,0,rfl⟩
 case round =>
  obtain ⟨m,hm,rfl,rfl,G⟩:=hrel
  have k:PS wr ao b n V L:=by obtain ⟨q,e⟩:=G;rw [e];exact hs.drewN q
  have f:Hid _:=G
  clear G
  by_cases l:m<n
  ·obtain rfl:=hs.at_ (by omega)
   have hv:=k.val m l
   have hl:=k.len m l
   obtain ⟨A,z,v0,Y,_⟩:=M.isP_iff.1 (H.out m l)
   have W:Hid (∀ i,i<m->0<=L i):=fun i hi=>by have:=M.isP_iff.1 (H.out i (by omega));omega
   have u:Hid _:=M.best_is (V:=V) (L:=L) (a:=a) (n:=m) W.out
   have r:=M.match_iff (H.out m l) hA
   have mn:(m:Int)<n:=by omega
   have d:Hid _:=k.len
   clear hs k
   generalize hq:(a-a%M.p2 (32-L m).toNat==V m)=y at *
   have N:Hid _:=r
   clear r
   have Q:Hid (M.bestTo V L a (m+1)=if L m<=M.sh (V m) a/\M.bitsTo V L a m<L m then (m:Int) else M.bestTo V L a m):=rfl
   have P:Hid (M.bitsTo V L a m=if M.bestTo V L a m<0 then -1 else L (M.bestTo V L a m).toNat):=by
    show _=_
    rcases u.out with ⟨g1,g2,_⟩ | ⟨j,hj,g1,g2,_⟩
    ·rw [g1,g2];rfl
    ·rw [g1,g2,if_neg (by omega)];simp
   have U:=M.best_lo (V:=V) (L:=L) (a:=a) (n:=m)
   generalize hK:M.bestTo V L a m=K at *
   clear u
   have o:(y=false/\M.bestTo V L a (m+1)=K)\/(y=true/\K<0/\M.bestTo V L a (m+1)=m) \/
    (y=true/\0<=K/\K<n/\wr.cell? ⟨b,K.toNat*2+1,none⟩=some (J Z (L K.toNat))/\((L K.toNat<L m/\M.bestTo V L a (m+1)=m)\/(¬ L K.toNat<L m/\M.bestTo V L a (m+1)=K))):=by
    have v:=N.out
    have g:=Q.out
    rw [P.out] at g
    by_cases s:L m<=M.sh (V m) a
    ·rw [decide_eq_true s] at v
     by_cases F:K<0
     ·right;left
      rw [if_pos F,if_pos ⟨s,by omega⟩] at g
      exact ⟨v,F,g⟩
     ·right;right
      rw [if_neg F] at g
      refine ⟨v,by omega,by omega,d.out K.toNat (by omega),?_⟩
      by_cases B:L K.toNat<L m
      ·left;rw [if_pos ⟨s,B⟩] at g;exact ⟨B,g⟩
      ·right;rw [if_neg (fun h=>B h.2)] at g;exact ⟨B,g⟩
    ·left
     rw [decide_eq_false s] at v
     rw [if_neg (fun h=>s h.1)] at g
     exact ⟨v,g⟩
   have X:Hid _:=hq
   have HK:Hid _:=hK
   have S:=X.out
   clear hq hK N Q P d
   rcases o with ⟨rfl,hb1⟩ | ⟨rfl,hk0,hb1⟩ | ⟨rfl,hk0,hk1,hck,⟨hlt2,hb1⟩ | ⟨hlt2,hb1⟩⟩
   ·have p:Hid _:=hb1
    clear hb1
    go_wp2_with fail
    go_quiet ((go_at_call 167;exact Calls.quiet_of_same (ZN _ _ _ D C A z)))
    go_wp2_with fail
    go_roundw
    case rel=>exact ⟨m+1,by omega,by go_num,yr p.out,Zi f.out _⟩
    case measure=>simp [intOf];omega
   ·have p:Hid _:=hb1
    clear hb1
    have I:decide (K<0)=true:=decide_eq_true hk0
    go_wp2_with fail
    go_quiet ((go_at_call 167;exact Calls.quiet_of_same (ZN _ _ _ D C A z)))
    go_wp2_with fail
    go_roundw
    case rel=>exact ⟨m+1,by omega,by go_num,yr p.out,Zi f.out _⟩
    case measure=>simp [intOf];omega
   ·have p:Hid _:=hb1
    clear hb1
    have I:decide (K<0)=false:=decide_eq_false (by omega)
    have R:decide (L K.toNat<L m)=true:=decide_eq_true hlt2
    go_wp2_with fail
    go_quiet ((go_at_call 167;exact Calls.quiet_of_same (ZN _ _ _ D C A z)))
    go_wp2_with fail
    go_roundw
    case rel=>exact ⟨m+1,by omega,by go_num,yr p.out,Zi f.out _⟩
    case measure=>simp [intOf];omega
   ·have p:Hid _:=hb1
    clear hb1
    have I:decide (K<0)=false:=decide_eq_false (by omega)
    have R:decide (L K.toNat<L m)=false:=decide_eq_false hlt2
    go_wp2_with fail
    go_quiet ((go_at_call 167;exact Calls.quiet_of_same (ZN _ _ _ D C A z)))
    go_wp2_with fail
    go_roundw
    case rel=>exact ⟨m+1,by omega,by go_num,yr p.out,Zi f.out _⟩
    case measure=>simp [intOf];omega
  ·have E:m=n:=by omega
   subst E
   go_wp2
   go_ret
   exact ⟨rfl,f.out⟩
theorem zfm {a b c d:Int} (h1:a=c) (h2:b=d):Ending.returned (.tuple #[J Z a,J Z b])=.returned (.tuple #[J Z c,J Z d]):=by rw [h1,h2]
theorem jz (ao:Option Addr) (b n c:Nat) (V L:Nat->Int) (a s:Int) (w:World) (hA:M.isA a=true) (hn:n<=64) (hs:PS w ao b n V L) (hp:∀ i,i<n->M.isP (V i) (L i)=true) (s0:0<=s) (s1:s<=32) :
 Calls Tryz.prog 147 #[O ao n c,J Z a,J Z s] w fun e w'=>e=.returned (.bool (decide (M.depTo V L a n<=s)))/\∃ m,w'=w.drewN m:=by
 obtain ⟨W,U⟩:=M.isA_iff.1 hA
 have X:Hid _:=hp
 have hL:Hid (∀ i,i<n->0<=L i):=fun i hi=>by have:=M.isP_iff.1 (X.out i hi);omega
 have P:Hid _:=M.best_is (V:=V) (L:=L) (a:=a) (n:=n) hL.out
 have o:Hid (M.depTo V L a n<=s↔∀ i,i<n->M.need V L a i<=s):=M.dep_iff s0
 have u:=XY ao b n c V L a w hA hn hs hp
 have N:=M.best_lo (V:=V) (L:=L) (a:=a) (n:=n)
 generalize hK:M.bestTo V L a n=K at *
 have A:Hid _:=u
 clear hp u hK
 obtain ⟨a3,a2⟩:=N
 go_enter Tryz.func147,Tryz.ntmps147
 go_wp2_with fail
 refine Calls.mono A.out ?_
 rintro e wq ⟨rfl,q,F⟩
 have d:PS wq ao b n V L:=by rw [F];exact hs.drewN q
 have R:Hid (∃ q,wq=w.drewN q):=⟨q,F⟩
 clear F hs A
 by_cases y:0<=K/\s<L K.toNat
 ·obtain ⟨k0,Y⟩:=y
  obtain rfl:=d.at_ (by omega)
  have I:=d.len K.toNat (by omega)
  have v:Hid (decide (M.depTo V L a n<=s)=false):=decide_eq_false fun hd=>by
   have:=o.out.1 hd
   rcases P.out with ⟨g1,_⟩ | ⟨j,hj,g1,_,g3,_⟩
   ·omega
   ·have ej:K.toNat=j:=by omega
    have h5:=this j hj
    rw [ej] at Y
    rw [M.need_iff] at h5
    omega
  go_wp2
  go_ret
  exact ⟨yc v.out.symm,R.out⟩
 ·have H:(K<0)\/(0<=K/\K<n/\¬ s<L K.toNat):=by omega
  have E:Hid True:=trivial
  rcases H with hk | ⟨hk0,hk1,hk2⟩
  all_goals
   first
    | (have I:=d.len K.toNat (by omega);obtain rfl:=d.at_ (by omega))
    | skip
   go_wp2_with fail
   go_loop [8] (fun i=>∃ m:Nat,m<=n/\i=J Z m/\Hid (∀ i,i<m->M.need V L a i<=s)) (fun i=>n-(intOf i).toNat)
   case atStart=>exact ⟨0,by omega,rfl,fun i hi=>by omega⟩
   case round =>
    obtain ⟨m,hm,rfl,k⟩:=hrel
    by_cases f:m<n
    ·have z:=d.at_ (by omega)
     first
      | (obtain rfl:=z)
      | (clear z)
     have hv:=d.val m f
     have hl:=d.len m f
     obtain ⟨l0,l1,D,C,_⟩:=M.isP_iff.1 (X.out m f)
     have Q:M.isA (V m)=true:=M.isA_iff.2 ⟨D,C⟩
     have x:=M.cut_iff Q hA s0 s1
     have B:Hid _:=x
     clear x
     by_cases r:s<L m
     ·cases hy:decide (s<=M.sh (V m) a) with
      | true =>
       have v:Hid (decide (M.depTo V L a n<=s)=false):=decide_eq_false fun hd=>by
        have:=o.out.1 hd m f
        rw [M.need_iff] at this
        exact this ⟨r,of_decide_eq_true hy⟩
       have p:=B.out
       rw [hy] at p
       clear hy
       go_wp2_with fail
       refine (ZN _ _ _ D C s0 s1).mono ?_
       rintro e w' ⟨rfl,g⟩
       subst w'
       go_wp2_with fail
       refine (ZN _ _ _ W U s0 s1).mono ?_
       rintro e w' ⟨rfl,g⟩
       subst w'
       go_wp2_with fail
       go_ret
       exact ⟨yc v.out.symm,R.out⟩
      | false =>
       have S:Hid (∀ i,i<m+1->M.need V L a i<=s):=fun i hi=>by
        by_cases l:i=m
        ·subst l;rw [M.need_iff];intro h;exact absurd h.2 (of_decide_eq_false hy)
        ·exact k.out i (by omega)
       have p:=B.out
       rw [hy] at p
       clear hy
       go_wp2_with fail
       refine (ZN _ _ _ D C s0 s1).mono ?_
       rintro e w' ⟨rfl,g⟩
       subst w'
       go_wp2_with fail
       refine (ZN _ _ _ W U s0 s1).mono ?_
       rintro e w' ⟨rfl,g⟩
       subst w'
       go_wp2_with fail
       go_round
       case rel=>exact ⟨m+1,by omega,by go_num,S⟩
       case measure=>simp [intOf];omega
     ·have S:Hid (∀ i,i<m+1->M.need V L a i<=s):=fun i hi=>by
       by_cases l:i=m
       ·subst l;rw [M.need_iff];intro h;exact r h.1
       ·exact k.out i (by omega)
      go_wp2_with fail
      go_round
      case rel=>exact ⟨m+1,by omega,by go_num,S⟩
      case measure=>simp [intOf];omega
    ·have G:m=n:=by omega
     subst G
     have v:Hid (decide (M.depTo V L a m<=s)=true):=decide_eq_true (o.out.2 k.out)
     go_wp2
     go_ret
     exact ⟨yc v.out.symm,R.out⟩
theorem Qz (ao:Option Addr) (b n c:Nat) (V L:Nat->Int) (a:Int) (w:World) (hA:M.isA a=true) (hn:n<=64) (hs:PS w ao b n V L) (hp:∀ i,i<n->M.isP (V i) (L i)=true) :
 Calls Tryz.prog 115 #[O ao n c,J Z a] w fun e w'=>e=.returned (.tuple #[J Z (M.bestTo V L a n),J Z (M.depTo V L a n)])/\∃ m,w'=w.drewN m:=by
 have v:Hid _:=hp
 have F:=M.depTo_pos (V:=V) (L:=L) (a:=a) (n:=n)
 have G:=M.depTo_le (V:=V) (L:=L) (a:=a) (n:=n) (fun i hi=>by have:=M.isP_iff.1 (v.out i hi);omega)
 generalize hD:M.depTo V L a n=D at *
 have B:Hid _:=hD
 clear hp hD
 go_enter Tryz.func115,Tryz.ntmps115
 go_wp2
 go_loopw [6] (fun i wr=>∃ m:Nat,(m:Int)<=D/\i=J Z m/\∃ q,wr=w.drewN q) (fun i _=>D.toNat-(intOf i).toNat)
 case atStart=>exact ⟨0,by omega,rfl,0,rfl⟩
 case round =>
  obtain ⟨m,E,rfl,u⟩:=hrel
  have h:PS wr ao b n V L:=by obtain ⟨q,e⟩:=u;rw [e];exact hs.drewN q
  have k:Hid _:=u
  have f:=jz ao b n c V L a m wr hA hn h v.out (by omega) (by omega)
  rw [B.out] at f
  have l:Hid _:=f
  clear u f
  by_cases z:(m:Int)<D
  ·have A:decide (D<=(m:Int))=false:=decide_eq_false (by omega)
   go_wp2_with fail
   refine Calls.mono l.out ?_
   rintro e o ⟨rfl,x,d⟩
   have g:Hid (∃ q,o=w.drewN q):=by rw [d];exact Zi k.out _
   clear d
   go_wp2_with fail
   go_roundw
   case rel=>exact ⟨m+1,by omega,by go_num,g⟩
   case measure=>simp [intOf];omega
  ·have A:decide (D<=(m:Int))=true:=decide_eq_true (by omega)
   have r:Hid (D=m):=by show _=_;omega
   go_wp2_with fail
   refine Calls.mono l.out ?_
   rintro e o ⟨rfl,x,d⟩
   have g:Hid (∃ q,o=w.drewN q):=by rw [d];exact Zi k.out _
   have p:PS o ao b n V L:=by rw [d];exact h.drewN x
   clear d
   go_wp2_with fail
   refine (XY ao b n c V L a _ hA hn p v.out).mono ?_
   rintro e y ⟨rfl,C,j⟩
   have s:Hid (∃ q,y=w.drewN q):=by rw [j];exact Zi g.out _
   clear j
   go_wp2_with fail
   go_ret2
   exact ⟨zfm rfl r.out.symm,s.out⟩
end Go.Proofs.YtaebngpoagjafabGreat
