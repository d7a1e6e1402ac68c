/-
  OUR OWN.
-/
import Derived.Test.YtaebngpoagjafaaGreatU01
import Derived.Deep.OwnRows
import Derived.Laws.ResultCell
import Derived.ProofKit
import Derived.OpenShut
import Derived.ChangeOld
import Derived.Below
import Derived.SizedLaws
import Derived.Deep.Slices
import Derived.Test.YtaebngpoagjafaaGreatRows
import Derived.WalkKit
import Derived.WalkSpells
import Derived.WalkLawsBesides
import Derived.Deep.QuietTactic
import Derived.BigQuiet
import Derived.Deep.RegionWith
import Derived.Deep.RegionHeld3
import Derived.Deep.AppendLies
import Derived.Deep.DrawnRows
import Derived.Laws.Tables
import Derived.Deep.LoopGhost
import Derived.Deep.RegionLaw
set_option maxRecDepth 100000
namespace Go.Proofs.YtaebngpoagjafaaGreat
open Go.RowKit
theorem Tryz.infoPrefix:(Tryz.prog.info? 99).map (fun i=>(i.zero,i.size,i.bytes))=some (some (.agg #[.int .i64 0,.int .i64 0]),2,16):=by kernel_rfl
def pc (V L:Nat->Int):Nat->List Value
 | 0=>[]
 | n+1=>pc V L n++[.int .i64 (V n),.int .i64 (L n)]
def tc (V L R:Nat->Int):Nat->List Value
 | 0=>[]
 | n+1=>tc V L R n++[.int .i64 (V n),.int .i64 (L n),.int .i64 (R n)]
theorem pc_len (V L:Nat->Int) (n:Nat):(pc V L n).length=n*2:=by
 induction n with
 | zero=>rfl
 | succ n ih=>simp [pc,ih];omega
theorem pc_get (V L:Nat->Int) {n i:Nat} (h:i<n):(pc V L n)[i*2]?=some (.int .i64 (V i))/\(pc V L n)[i*2+1]?=some (.int .i64 (L i)):=by
 induction n with
 | zero=>omega
 | succ n ih =>
   simp only [pc]
   by_cases hi:i=n
   · subst hi
     rw [List.getElem?_append_right (by rw [pc_len];omega),List.getElem?_append_right (by rw [pc_len];omega),pc_len]
     simp
   · have:=ih (by omega)
     rw [List.getElem?_append_left (by rw [pc_len];omega),List.getElem?_append_left (by rw [pc_len];omega)]
     exact this
structure TS (w:World) (ao:Option Addr) (b off n:Nat) (V L R:Nat->Int):Prop where
 at_:0<n->ao=some ⟨b,off,none⟩
 lt:0<n->b<w.heap.size
 val:∀ i,i<n->w.cell? ⟨b,off+i*3,none⟩=some (.int .i64 (V i))
 len:∀ i,i<n->w.cell? ⟨b,off+i*3+1,none⟩=some (.int .i64 (L i))
 reg:∀ i,i<n->w.cell? ⟨b,off+i*3+2,none⟩=some (.int .i64 (R i))
theorem TS.below {w w':World} {ao b off n V L R} (h:TS w ao b off n V L R) (hb:Below w.heap.size w w'):TS w' ao b off n V L R :=
 ⟨h.at_,fun hn=>Nat.lt_of_lt_of_le (h.lt hn) hb.size,fun i hi=>by rw [hb.cell (h.lt (by omega))];exact h.val i hi,fun i hi=>by rw [hb.cell (h.lt (by omega))];exact h.len i hi,fun i hi=>by rw [hb.cell (h.lt (by omega))];exact h.reg i hi⟩
theorem ps_of_owns {w:World} {base:Nat} {v:Value} {n:Nat} {V L:Nat->Int} (h:w.ownsRow base 99 2 v n (pc V L n)) :
   ∃ ao b c,v=.slice ao n c/\n<=c/\(n=0\/base<=b)/\PS w ao b n V L:=by
 have hh:=h
 rcases h.2 with ⟨rfl,rfl⟩ | ⟨g,cap,cur,rfl,hb,hg,hnc,_,_,_⟩
 · exact ⟨none,0,0,rfl,Nat.le_refl _,.inl rfl,⟨fun h=>by omega,fun h=>by omega,fun i hi=>by omega,fun i hi=>by omega⟩⟩
 · refine ⟨some ⟨g,0,none⟩,g,cap,rfl,hnc,.inr hb,⟨fun _=>rfl,fun _=>?_,fun i hi=>?_,fun i hi=>?_⟩⟩
   · exact (hh.lt g rfl).2
   · rw [hh.cellAt (i*2) (by omega)];exact (pc_get V L hi).1
   · rw [hh.cellAt (i*2+1) (by omega)];exact (pc_get V L hi).2
theorem news2 (w:World) (x y:Value) (t:TypeId):∀ j u,([x,y]:List Value)[j]?=some u->(w.alloc (.cells #[x,y] t)).cell? ((⟨w.heap.size,0,none⟩:Addr).add j)=some u:=by
 intro j u hj
 match j,hj with
 | 0,hj=>simp at hj;subst hj;simp [Addr.add]
 | 1,hj=>simp at hj;subst hj;simp [Addr.add]
set_option maxHeartbeats 400000 in
theorem prefixes_any (ao:Option Addr) (b off n c:Nat) (V L R:Nat->Int) (w:World) (hn:n*24<=140737488351232) (hs:TS w ao b off n V L R) :
   Calls Tryz.prog 58 #[.slice ao n c] w fun e w'=>(∃ v,e=.returned v/\w'.ownsRow w.heap.size 99 2 v n (pc V L n))/\Below w.heap.size w w':=by
 obtain ⟨i0,hi,hz0,hz1,hz2⟩:=info_parts Tryz.infoPrefix
 go_enter Tryz.func58,Tryz.ntmps58
 go_wp2
 go_loopw [3,4] (fun v i wr=>∃ k:Nat,k<=n/\i=.int .i64 k/\wr.ownsRow w.heap.size 99 2 v k (pc V L k)/\Below w.heap.size w wr) (fun _ i _=>n-(intOf i).toNat)
 case atStart=>exact ⟨0,by omega,rfl,World.ownsRow_nil _ _ _ _,Below.refl _ _⟩
 case round =>
   obtain ⟨k,hk,rfl,hown,hb⟩:=hrel
   by_cases hlt:k<n
   · obtain rfl:=hs.at_ (by omega)
     have hps:=hs.below hb
     have hv:=hps.val k hlt
     have hl:=hps.len k hlt
     have hbb:b<wr.heap.size:=hps.lt (by omega)
     have hsize:=hb.size
     clear hs hps
     go_wp2_with (at_builtin;refine wpList_append_own _ rfl _ _ 103 rfl w.heap.size 99 i0 (.agg #[.int .i64 0,.int .i64 0]) 2 16 Tryz.underlying103 hi hz0 hz1 hz2 rfl (by decide) _ _ _ rfl (hown.alloc _) ⟨wr.heap.size,0,none⟩ 1 1 [.int .i64 (V k),.int .i64 (L k)] rfl rfl (news2 _ _ _ _) (fun x hx=>by simp at hx;rcases hx with rfl | rfl<;>rfl) (by unfold maxLen;omega) (by omega) (by simp;omega) ?_;intro v' w1 hown1 hgrow1 _)
     have hx:Hid (Below w.heap.size w w1):=(hb.alloc hb.size _).grown hgrow1 (by simp;omega) (fun q hq=>(hown.lt q hq).1)
     go_roundw
     case rel=>exact ⟨k+1,by omega,by go_num,hown1,hx⟩
     case measure=>simp [intOf];omega
   · have hkn:k=n:=by omega
     subst hkn
     go_wp2
     go_ret
     exact ⟨⟨_,rfl,hown⟩,hb⟩
end Go.Proofs.YtaebngpoagjafaaGreat
namespace Go.Proofs.YtaebngpoagjafaaGreat
open Go.RowKit
end Go.Proofs.YtaebngpoagjafaaGreat
namespace Go.Proofs.YtaebngpoagjafaaGreat
open Go.RowKit
def ext (n:Nat) (V:Nat->Int) (i:Nat):Int:=if i<n then V i else 77
theorem PS.congr {w:World} {ao b n V L V' L'} (h:PS w ao b n V L) (hv:∀ i,i<n->V i=V' i/\L i=L' i):PS w ao b n V' L' :=
 ⟨h.at_,h.lt,fun i hi=>by rw [<- (hv i hi).1];exact h.val i hi,fun i hi=>by rw [<- (hv i hi).2];exact h.len i hi⟩
end Go.Proofs.YtaebngpoagjafaaGreat
namespace Go.Proofs.YtaebngpoagjafaaGreat
open Go.RowKit
def PT (w:World) (po:Option Addr) (b off n c:Nat) (V L R:Nat->Int):Prop:=(po=none/\n=0/\c=0)\/∃ ad,po=some ad/\TS w (some ad) b off n V L R
theorem PT.below {w w':World} {po b off n c V L R} (h:PT w po b off n c V L R) (hb:Below w.heap.size w w'):PT w' po b off n c V L R:=by
 rcases h with h | ⟨ad,h1,h2⟩
 · exact .inl h
 · exact .inr ⟨ad,h1,h2.below hb⟩
end Go.Proofs.YtaebngpoagjafaaGreat
namespace Go.Proofs.YtaebngpoagjafaaGreat
open Go.RowKit
end Go.Proofs.YtaebngpoagjafaaGreat
namespace Go.Proofs.YtaebngpoagjafaaGreat
open Go.RowKit
end Go.Proofs.YtaebngpoagjafaaGreat
namespace Go.Proofs.YtaebngpoagjafaaGreat
open Go.RowKit
end Go.Proofs.YtaebngpoagjafaaGreat
namespace Go.Proofs.YtaebngpoagjafaaGreat
open Go.ChangeShapes Go.WideShapes Go.ChangeAt Go.RowKit
theorem own:ownKnob Tryz.prog.godebug=none:=by kernel_rfl
theorem laidOut:laidOutB Tryz.prog=true:=by kernel_rfl
theorem cellsPlace:Tryz.prog.cellsOf 101=3:=by kernel_rfl
theorem cellsPrefix:Tryz.prog.cellsOf 99=2:=by kernel_rfl
theorem cellsInt:Tryz.prog.cellsOf 3=1:=by kernel_rfl
theorem cellsWorld:Tryz.prog.cellsOf 30=6:=by kernel_rfl
theorem cellsInts:Tryz.prog.cellsOf 25=1:=by kernel_rfl
theorem cellsIntss:Tryz.prog.cellsOf 27=1:=by kernel_rfl
theorem cellsPlaces:Tryz.prog.cellsOf 28=1:=by kernel_rfl
theorem bytesPlace:Tryz.prog.bytesOf 101=24:=by kernel_rfl
theorem lt_of_cell' {w:World} {a:Addr} {v:Value} (h:w.cell? a=some v):a.block<w.heap.size:=by
 by_cases hb:a.block<w.heap.size
 · exact hb
 · have:w.heap[a.block]?=none:=by simp;omega
   simp [World.cell?,this] at h
theorem weightsAll_mem {H:Type} {P:Program} {e:TypeId} {l:List (DataW H)} {d:DataW H} (hd:d∈l) {n:Nat} (hn:n∈d.weights P e):n∈DataW.weightsAll P e l:=by
 induction l with
 | nil=>cases hd
 | cons x r ih =>
   simp only [DataW.weightsAll,List.mem_append]
   rcases List.mem_cons.1 hd with rfl | h
   · exact .inl hn
   · exact .inr (ih h)
section
variable {H:Type} {enc:TypeId×Value->H} {w:World} {base:Nat} {spare:Nat->Bool} {held:Bool}
theorem open_place {n:Nat} {cs:List Value} {x:DataW H×List MemPlace} (h:DataW.trod enc Tryz.prog w base spare held n 101 cs=some x) :
   ∃ a b c:Int,cs=[.int .i64 a,.int .i64 b,.int .i64 c]:=by
 obtain ⟨y0,y1,m,_,hlen,h0,h1⟩:=trod_struct2 Tryz.underlying101 h
 rw [cellsPlace] at hlen
 match cs,hlen with
 | [c0,c1,c2],_ =>
   obtain ⟨z0,z1,m',_,_,g0,g1⟩:=trod_struct2 Tryz.underlying99 h0
   obtain ⟨a,ea,_,_⟩:=DataW.trod_int Tryz.underlying3 g0
   obtain ⟨b,eb,_,_⟩:=DataW.trod_int Tryz.underlying3 g1
   obtain ⟨c,ec,_,_⟩:=DataW.trod_int Tryz.underlying3 h1
   simp [cellsInt,cellsPrefix] at ea eb ec
   exact ⟨a,b,c,by rw [ea,eb,ec]⟩
theorem open_places {fuel:Nat} {cs:List Value} {x:DataW H×List MemPlace} (h:DataW.trod enc Tryz.prog w base spare held fuel 28 cs=some x) :
   ∃ po len cap b off V L R,cs=[.slice po len cap]/\PT w po b off len cap V L R/\(x.1=.nil/\len=0\/∃ el sp,x.1=.slice el sp/\el.length=len):=by
 rcases Deep.open_slice Tryz.underlying28 h with ⟨hcs,hx⟩ | ⟨a,l,c,m,n,D,Pl,hcs,hb,hl,hm,hmm,hx,hel⟩
 · exact ⟨none,0,0,0,0,fun _=>0,fun _=>0,fun _=>0,hcs,.inl ⟨rfl,rfl,rfl⟩,.inl ⟨by rw [hx],rfl⟩⟩
 · have hlm:l<=m:=by rw [hmm];split<;>omega
   rw [cellsPlace] at hel
   obtain ⟨F,hF⟩:=Deep.choose_lt (α:=Int×Int×Int) (n:=l) (p:=fun i y=>∀ j,j<3->w.cell? ((a.add (i*3)).add j)=some (.int .i64 (if j=0 then y.1 else if j=1 then y.2.1 else y.2.2))) (fun i hi=>by
     obtain ⟨cs',h1,h2⟩:=hel i (by omega)
     obtain ⟨x,y,z,rfl⟩:=open_place h2
     obtain ⟨_,_,hc⟩:=World.cells?_some h1
     refine ⟨(x,y,z),fun j hj=>?_⟩
     rw [hc j hj]
     match j,hj with
     | 0,_=>rfl
     | 1,_=>rfl
     | 2,_=>rfl)
   obtain ⟨b,off,spot⟩:=a
   refine ⟨some ⟨b,off,spot⟩,l,c,b,off,fun i=>(F i).1,fun i=>(F i).2.1,fun i=>(F i).2.2,hcs,.inr ⟨_,rfl,?_⟩,.inr ⟨_,_,by rw [hx],by simp⟩⟩
   by_cases hl0:l=0
   · subst hl0
     exact ⟨fun h=>by omega,fun h=>by omega,fun i hi=>by omega,fun i hi=>by omega,fun i hi=>by omega⟩
   · have hc0:=hF 0 (by omega) 0 (by omega)
     have hspot:spot=none:=by simpa [Addr.add] using World.cell?_spot hc0
     subst hspot
     have hlt:b<w.heap.size:=by
       have:=hc0
       simp [Addr.add] at this
       exact lt_of_cell' this
     refine ⟨fun _=>rfl,fun _=>hlt,fun i hi=>?_,fun i hi=>?_,fun i hi=>?_⟩
     · have:=hF i hi 0 (by omega)
       rw [add_plain,add_plain] at this
       exact this
     · have:=hF i hi 1 (by omega)
       rw [add_plain,add_plain] at this
       exact this
     · have:=hF i hi 2 (by omega)
       rw [add_plain,add_plain] at this
       exact this
end
end Go.Proofs.YtaebngpoagjafaaGreat
namespace Go.Proofs.YtaebngpoagjafaaGreat
open Go.ChangeShapes Go.WideShapes Go.ChangeAt Go.RowKit
section
variable {H:Type} {enc:TypeId×Value->H} {w:World} {base:Nat} {spare:Nat->Bool} {held:Bool}
end
end Go.Proofs.YtaebngpoagjafaaGreat
namespace Go.Proofs.YtaebngpoagjafaaGreat
open Go.RowKit
namespace T
def ch (s:ByteArray) (k:Nat):Int:=if h:k<s.size then ((s[k]).toNat:Int) else -1
theorem ch_lt {s:ByteArray} {k:Nat} (h:k<s.size):ch s k=((s[k]).toNat:Int):=by unfold ch;rw [dif_pos h]
theorem ch_ge {s:ByteArray} {k:Nat} (h:¬ k<s.size):ch s k=-1:=by unfold ch;rw [dif_neg h]
theorem ch_bd {s:ByteArray} {k:Nat} (h:k<s.size):0<=ch s k/\ch s k<256:=by
 rw [ch_lt h];have:=(s[k]).toNat_lt;omega
theorem ch_lo (s:ByteArray) (k:Nat):-1<=ch s k/\ch s k<256:=by
 by_cases h:k<s.size
 · have:=ch_bd h;omega
 · rw [ch_ge h];omega
def bl (c:Int):Bool:=c==32 || c==10
def skF (s:ByteArray):Nat->Nat->Nat
 | 0,k=>k
 | n+1,k=>if bl (ch s k)=true then skF s n (k+1) else k
def sk (s:ByteArray) (k:Nat):Nat:=skF s (s.size-k) k
theorem bl_lt {s:ByteArray} {k:Nat} (h:bl (ch s k)=true):k<s.size:=by
 by_cases hk:k<s.size
 · exact hk
 · rw [ch_ge hk] at h;simp [bl] at h
theorem sk_next {s:ByteArray} {k:Nat} (h:bl (ch s k)=true):sk s (k+1)=sk s k:=by
 have hk:=bl_lt h
 unfold sk
 have e:s.size-k=(s.size-(k+1))+1:=by omega
 rw [e];simp only [skF];rw [if_pos h]
theorem sk_here {s:ByteArray} {k:Nat} (h:bl (ch s k)=false):sk s k=k:=by
 unfold sk
 cases e:s.size-k with
 | zero=>rfl
 | succ n=>simp only [skF];rw [if_neg (by rw [h];decide)]
theorem skF_ge (s:ByteArray) (n:Nat):∀ k,k<=skF s n k:=by
 induction n with
 | zero=>intro k;exact Nat.le_refl _
 | succ n ih => intro k; simp only [skF]; split
                · have:=ih (k+1);omega
                · exact Nat.le_refl _
theorem sk_ge (s:ByteArray) (k:Nat):k<=sk s k:=skF_ge s _ k
theorem skF_le (s:ByteArray) (n:Nat):∀ k,k<=s.size->skF s n k<=s.size:=by
 induction n with
 | zero=>intro k h;exact h
 | succ n ih => intro k h; simp only [skF]; split
                · next hb=>exact ih (k+1) (by have:=bl_lt hb;omega)
                · exact h
theorem sk_le {s:ByteArray} {k:Nat} (h:k<=s.size):sk s k<=s.size:=skF_le s _ k h
theorem skF_bl (s:ByteArray) (n:Nat):∀ k,s.size-k<=n->bl (ch s (skF s n k))=false:=by
 induction n with
 | zero =>
   intro k h
   cases hb:bl (ch s k) with
   | false=>exact hb
   | true=>have:=bl_lt hb;omega
 | succ n ih =>
   intro k h
   simp only [skF]
   split
   · exact ih (k+1) (by omega)
   · next hb=>simpa using hb
theorem sk_bl (s:ByteArray) (k:Nat):bl (ch s (sk s k))=false:=skF_bl s _ k (Nat.le_refl _)
end T
structure FR where
 sym:Int
 kind:Int
 depth:Int
 list:Int
structure SG where
 kind:Int
 place:Int
 depth:Int
 list:Int
 text:ByteArray
def frV (f:FR):List Value:=[.int .i64 f.sym,.int .i64 f.kind,.int .i64 f.depth,.int .i64 f.list]
def sgV (g:SG):List Value:=[.int .i64 g.kind,.int .i64 g.place,.int .i64 g.depth,.int .i64 g.list,.string g.text]
def frA (f:FR):Value:=.agg #[.int .i64 f.sym,.int .i64 f.kind,.int .i64 f.depth,.int .i64 f.list]
def frC:List FR->List Value
 | []=>[]
 | f::r=>frC r++frV f
def sgC:List SG->List Value
 | []=>[]
 | g::r=>sgC r++sgV g
theorem frC_len (l:List FR):(frC l).length=l.length*4:=by
 induction l with
 | nil=>rfl
 | cons f r ih=>simp [frC,frV,ih];omega
def Out (B:Nat) (sv gv:Value) (b:Nat):Prop:=b≠B/\sv.ownBlock≠some b/\gv.ownBlock≠some b
structure RS (w:World) (base B:Nat) (s:ByteArray) (k:Nat) (sv gv:Value) (fs:List FR) (gs:List SG):Prop where
 blk:w.heap[B]?=some (.cells #[.string s,.int .i64 k,sv,gv] 184 (0,0))
 st:w.ownsRow base 187 4 sv fs.length (frC fs)
 sg:w.ownsRow base 151 5 gv gs.length (sgC gs)
 hB:base<=B
structure Mv (base B:Nat) (sv gv sv' gv':Value) (w w':World):Prop where
 bel:Below base w w'
 kept:∀ b,b<w.heap.size->Out B sv gv b->w'.heap[b]?=w.heap[b]?/\Out B sv' gv' b
theorem Mv.refl (base B:Nat) (sv gv:Value) (w:World):Mv base B sv gv sv gv w w:=⟨Below.refl _ _,fun _ _ h=>⟨rfl,h⟩⟩
theorem Mv.trans {base B:Nat} {a b c d e f:Value} {w w1 w2:World} (h:Mv base B a b c d w w1) (k:Mv base B c d e f w1 w2):Mv base B a b e f w w2 :=
 ⟨h.bel.trans k.bel,fun x hx ho=>by
   obtain ⟨h1,h2⟩:=h.kept x hx ho
   obtain ⟨k1,k2⟩:=k.kept x (Nat.lt_of_lt_of_le hx h.bel.size) h2
   exact ⟨k1.trans h1,k2⟩⟩
theorem Mv.drewN {base B:Nat} {a b c d:Value} {w w1:World} (h:Mv base B a b c d w w1) (n:Nat):Mv base B a b c d w (w1.drewN n):=⟨⟨h.bel.os,h.bel.tape,h.bel.output,h.bel.size,h.bel.block⟩,h.kept⟩
theorem RS.drewN {w:World} {base B s k sv gv fs gs} (h:RS w base B s k sv gv fs gs) (n:Nat):RS (w.drewN n) base B s k sv gv fs gs:=⟨h.blk,h.st,h.sg,h.hB⟩
theorem RS.lt {w:World} {base B s k sv gv fs gs} (h:RS w base B s k sv gv fs gs):B<w.heap.size:=lt_of_block h.blk
theorem RS.c0 {w:World} {base B s k sv gv fs gs} (h:RS w base B s k sv gv fs gs):w.cell? ⟨B,0,none⟩=some (.string s):=by simp [World.cell?,h.blk]
theorem RS.c1 {w:World} {base B s k sv gv fs gs} (h:RS w base B s k sv gv fs gs):w.cell? ⟨B,1,none⟩=some (.int .i64 k):=by simp [World.cell?,h.blk]
theorem RS.c2 {w:World} {base B s k sv gv fs gs} (h:RS w base B s k sv gv fs gs):w.cell? ⟨B,2,none⟩=some sv:=by simp [World.cell?,h.blk]
theorem RS.c3 {w:World} {base B s k sv gv fs gs} (h:RS w base B s k sv gv fs gs):w.cell? ⟨B,3,none⟩=some gv:=by simp [World.cell?,h.blk]
theorem RS.fz {w:World} {base B s k sv gv fs gs} (h:RS w base B s k sv gv fs gs) (j:Nat):w.frozen? ⟨B,j,none⟩=false:=by simp [World.frozen?,h.blk]
theorem owns_ne {w:World} {base e size B:Nat} {v:Value} {n:Nat} {xs:List Value} {cs:Array Value} {t:TypeId} {fr:Nat×Nat} (h:w.ownsRow base e size v n xs) (hb:w.heap[B]?=some (.cells cs t fr)) (hne:t≠e):v.ownBlock≠some B:=by
 rcases h.2 with ⟨rfl,_⟩ | ⟨g,cap,cur,rfl,_,hg,_⟩
 · simp [Value.ownBlock]
 · intro he
   simp [Value.ownBlock] at he
   subst he
   rw [hg] at hb
   simp at hb
   exact hne hb.2.1.symm
theorem RS.neS {w:World} {base B s k sv gv fs gs} (h:RS w base B s k sv gv fs gs):sv.ownBlock≠some B:=owns_ne h.st h.blk (by decide)
theorem RS.neG {w:World} {base B s k sv gv fs gs} (h:RS w base B s k sv gv fs gs):gv.ownBlock≠some B:=owns_ne h.sg h.blk (by decide)
theorem blk4_set {w:World} {B j:Nat} {a b c d u:Value} {t:TypeId} (h:w.heap[B]?=some (.cells #[a,b,c,d] t (0,0))):(w.setCell ⟨B,j,none⟩ u).heap[B]?=some (.cells (#[a,b,c,d].setIfInBounds j u) t (0,0)):=by
 simp [World.setCell,Array.getElem?_modify,h]
theorem heap_set_ne {w:World} {B j b:Nat} {u:Value} (h:b≠B):(w.setCell ⟨B,j,none⟩ u).heap[b]?=w.heap[b]?:=Below.heap_setCell w _ u b h
theorem RS.at {w:World} {base B s k sv gv fs gs} (h:RS w base B s k sv gv fs gs) (k':Nat) (x:Int) (hx:x=k'):RS (w.setCell ⟨B,1,none⟩ (.int .i64 x)) base B s k' sv gv fs gs :=
 ⟨by rw [hx];exact blk4_set h.blk,ownsRow_setCell_other h.st h.neS _,ownsRow_setCell_other h.sg h.neG _,h.hB⟩
theorem RS.atMv {w:World} {base B s k sv gv fs gs} (h:RS w base B s k sv gv fs gs) (x:Value):Mv base B sv gv sv gv w (w.setCell ⟨B,1,none⟩ x) :=
 ⟨(Below.refl _ _).setCell h.hB _,fun _ _ ho=>⟨heap_set_ne ho.1,ho⟩⟩
theorem RS.alloc {w:World} {base B s k sv gv fs gs} (h:RS w base B s k sv gv fs gs) (o:Obj):RS (w.alloc o) base B s k sv gv fs gs :=
 ⟨by rw [Below.heap_alloc _ _ _ h.lt];exact h.blk,h.st.alloc o,h.sg.alloc o,h.hB⟩
theorem Mv.alloc {base B:Nat} {sv gv:Value} {w:World} (hb:base<=w.heap.size) (o:Obj):Mv base B sv gv sv gv w (w.alloc o) :=
 ⟨(Below.refl _ _).alloc hb o,fun _ hlt ho=>⟨Below.heap_alloc _ _ _ hlt,ho⟩⟩
theorem RS.outNew {w:World} {base B s k sv gv fs gs} (h:RS w base B s k sv gv fs gs):Out B sv gv w.heap.size :=
 ⟨fun e=>by have:=h.lt;omega,fun e=>by have:=(h.st.lt _ e).2;omega,fun e=>by have:=(h.sg.lt _ e).2;omega⟩
theorem RS.bs {w:World} {base B s k sv gv fs gs} (h:RS w base B s k sv gv fs gs):base<=w.heap.size:=Nat.le_trans h.hB (Nat.le_of_lt h.lt)
end Go.Proofs.YtaebngpoagjafaaGreat
namespace Go.Proofs.YtaebngpoagjafaaGreat
open Go.RowKit
theorem r_int {k:IntKind} {a b:Int} (h:a=b):Ending.returned (.int k a)=.returned (.int k b):=by rw [h]
theorem blank_any (c:Int) (w:World) :
   Calls Tryz.prog 139 #[.int .u8 c] w fun e w'=>e=.returned (.bool (T.bl c))/\w'=w:=by
 cases h1:(c==32) with
 | true =>
   have hr:T.bl c=true:=by simp [T.bl,h1]
   rw [hr]
   go_enter Tryz.func139,Tryz.ntmps139
   go_wp2
   go_ret
   exact ⟨rfl,rfl⟩
 | false =>
   have hr:T.bl c=(c==10):=by simp [T.bl,h1]
   rw [hr]
   go_enter Tryz.func139,Tryz.ntmps139
   go_wp2
   go_ret
   exact ⟨rfl,rfl⟩
theorem blank_is (b:Bool) (c:Int) (w:World) (h:T.bl c=b) :
   Calls Tryz.prog 139 #[.int .u8 c] w fun e w'=>e=.returned (.bool b)/\w'=w:=by rw [<- h];exact blank_any c w
set_option maxHeartbeats 1000000 in
theorem peek_any (base B:Nat) (s:ByteArray) (k:Nat) (sv gv:Value) (fs:List FR) (gs:List SG) (w:World) (hs:s.size<=2000) (hk:k<=s.size) (h:RS w base B s k sv gv fs gs) :
   Calls Tryz.prog 135 #[.pointer (some ⟨B,0,none⟩)] w fun e w'=>e=.returned (.int .i64 (T.ch s (T.sk s k)))/\RS w' base B s (T.sk s k) sv gv fs gs/\Mv base B sv gv sv gv w w':=by
 go_enter Tryz.func135,Tryz.ntmps135
 go_wp2
 go_loopg [24] (s.size-k) (fun n _ wr=>∃ j:Nat,k<=j/\j<=s.size/\n=s.size-j/\Hid (T.sk s j=T.sk s k)/\RS wr base B s j sv gv fs gs/\Mv base B sv gv sv gv w wr)
 case atStart=>exact ⟨k,Nat.le_refl _,hk,rfl,rfl,h,Mv.refl _ _ _ _ _⟩
 case round =>
   obtain ⟨j,hkj,hjs,hn,hsk,hr,hm⟩:=hrel
   have c0:=hr.c0
   have c1:=hr.c1
   have z1:=hr.fz 1
   have HR:Hid (RS wr base B s j sv gv fs gs):=hr
   have HM:Hid (Mv base B sv gv sv gv w wr):=hm
   have HN:Hid (gk=s.size-j):=hn
   clear hr hm h hn
   by_cases hlt:j<s.size
   · have hlt':(j:Int)<(s.size:Int):=by omega
     have hch:((s[j]).toNat:Int)=T.ch s j:=(T.ch_lt hlt).symm
     have hcb:=T.ch_bd hlt
     obtain ⟨cb0,cb1⟩:=hcb
     cases hb:T.bl (T.ch s j) with
     | true =>
       have HSK:Hid (T.sk s (j+1)=T.sk s k):=(T.sk_next hb).trans hsk.out
       go_wp2_with fail
       go_quiet ((go_at_call 139;exact Calls.quiet_of_same (blank_is _ _ _ hb)))
       go_wp2_with fail
       go_roundg (s.size-(j+1))
       case measure=>rw [HN.out];omega
       case rel=>exact ⟨j+1,by omega,by omega,rfl,HSK,(HR.out.drewN _).at (j+1) _ (by omega),(HM.out.drewN _).trans ((HR.out.drewN _).atMv _)⟩
     | false =>
       have HSK:Hid (T.sk s k=j):=hsk.out.symm.trans (T.sk_here hb)
       have hne:((j:Int)==(s.size:Int))=false:=by rw [beq_eq_false_iff_ne];omega
       go_wp2_with fail
       go_quiet ((go_at_call 139;exact Calls.quiet_of_same (blank_is _ _ _ hb)))
       go_wp2_with fail
       go_quiet (fail)
       go_wp2_with fail
       go_quiet (fail)
       go_wp2_with fail
       go_ret
       exact ⟨r_int (by rw [HSK.out]),by rw [HSK.out];exact ((HR.out.drewN _).drewN _).drewN _,((HM.out.drewN _).drewN _).drewN _⟩
   · have hje:j=s.size:=by omega
     have hb:T.bl (T.ch s j)=false:=by rw [T.ch_ge hlt];rfl
     have HSK:Hid (T.sk s k=j):=hsk.out.symm.trans (T.sk_here hb)
     have HC:Hid (T.ch s j=-1):=T.ch_ge hlt
     have hd:decide ((j:Int)<(s.size:Int))=false:=decide_eq_false (by omega)
     have he:((j:Int)==(s.size:Int))=true:=by rw [beq_iff_eq];omega
     clear hje hb
     go_wp2_with fail
     go_quiet (fail)
     go_wp2_with fail
     go_quiet (fail)
     go_wp2_with fail
     go_ret
     exact ⟨r_int (by rw [HSK.out,HC.out]),by rw [HSK.out];exact (HR.out.drewN _).drewN _,(HM.out.drewN _).drewN _⟩
end Go.Proofs.YtaebngpoagjafaaGreat
namespace Go.Proofs.YtaebngpoagjafaaGreat
open Go.RowKit
theorem Tryz.infoFrame:(Tryz.prog.info? 187).map (fun i=>(i.zero,i.size,i.bytes))=some (some (.agg #[.int .i64 0,.int .i64 0,.int .i64 0,.int .i64 0]),4,32):=by kernel_rfl
theorem Tryz.infoSign:(Tryz.prog.info? 151).map (fun i=>(i.zero,i.size,i.bytes))=some (some (.agg #[.int .i64 0,.int .i64 0,.int .i64 0,.int .i64 0,.string ByteArray.empty]),5,48):=by kernel_rfl
def LS (w:World) (b:Nat) (ls:List FR):Prop:=∀ i f,ls[i]?=some f->w.cell? ⟨b,i*4,none⟩=some (.int .i64 f.sym)/\w.cell? ⟨b,i*4+1,none⟩=some (.int .i64 f.kind)/\w.cell? ⟨b,i*4+2,none⟩=some (.int .i64 f.depth)/\w.cell? ⟨b,i*4+3,none⟩=some (.int .i64 f.list)
theorem LS.of_block {w w':World} {b:Nat} {ls:List FR} (h:LS w b ls) (e:w'.heap[b]?=w.heap[b]?):LS w' b ls:=fun i f hf=>by
 obtain ⟨h0,h1,h2,h3⟩:=h i f hf
 exact ⟨by rw [World.cell?_of_block (w:=w) e];exact h0,by rw [World.cell?_of_block (w:=w) e];exact h1,by rw [World.cell?_of_block (w:=w) e];exact h2,by rw [World.cell?_of_block (w:=w) e];exact h3⟩
theorem RS.pushed {w w1:World} {base B s k sv gv fs gs} (h:RS w base B s k sv gv fs gs) {o:Obj} {f:FR} {g cap m:Nat} (hm:m=fs.length+1)
   (hown:w1.ownsRow base 187 4 (.slice (some ⟨g,0,none⟩) m cap) m (frC fs++frV f)) (hg':(w.alloc o).drew.grownBy w1 sv.ownBlock) (hat:sv.ownBlock=some g\/g=w.heap.size+1) :
   RS (w1.setCell ⟨B,2,none⟩ (.slice (some ⟨g,0,none⟩) m cap)) base B s k (.slice (some ⟨g,0,none⟩) m cap) gv (f::fs) gs/\Mv base B sv gv (.slice (some ⟨g,0,none⟩) m cap) gv w (w1.setCell ⟨B,2,none⟩ (.slice (some ⟨g,0,none⟩) m cap)):=by
 have hg:(w.alloc o).grownBy w1 sv.ownBlock:=⟨hg'.os,hg'.tape,hg'.output,hg'.size,hg'.block⟩
 have hA:=h.alloc o
 have hb:w1.heap[B]?=(w.alloc o).heap[B]?:=hg.block B hA.lt (fun e=>hA.neS e.symm)
 have hblk:=hb.trans hA.blk
 have hgB:(Value.slice (some ⟨g,0,none⟩) m cap).ownBlock≠some B:=owns_ne hown hblk (by decide)
 have hsg1:w1.ownsRow base 151 5 gv gs.length (sgC gs):=hA.sg.kept hg (by
   rcases hA.sg.2 with ⟨rfl,_⟩ | ⟨x,c,cur,rfl,_,hx,_⟩
   · exact .inl rfl
   · right
     intro e
     have:=owns_ne hA.st hx (by decide)
     exact this e.symm)
 refine ⟨⟨blk4_set hblk,?_,ownsRow_setCell_other hsg1 h.neG _,h.hB⟩,⟨?_,fun b hlt ho=>⟨?_,ho.1,?_,ho.2.2⟩⟩⟩
 · subst hm;exact ownsRow_setCell_other hown hgB _
 · have hz:=hg.size
   refine Below.setCell ?_ h.hB _
   exact ((Below.refl base w).alloc h.bs o).grown hg (by have:=h.bs;simp;omega) (fun q hq=>(h.st.lt q hq).1)
 · rw [heap_set_ne ho.1]
   have hne:some b≠sv.ownBlock:=fun e=>ho.2.1 e.symm
   rw [hg.block b (by simp;omega) hne,Below.heap_alloc _ _ _ hlt]
 · intro e
   simp [Value.ownBlock] at e
   rcases hat with h1 | h1
   · exact ho.2.1 (by rw [h1,e])
   · omega
theorem RS.grown2 {w w1:World} {base B s k sv gv fs gs} (h:RS w base B s k sv gv fs gs) {o:Obj} (hg':(w.alloc o).drew.grownBy w1 sv.ownBlock):w1.cell? ⟨B,2,none⟩=some sv/\w1.frozen? ⟨B,2,none⟩=false:=by
 have hg:(w.alloc o).grownBy w1 sv.ownBlock:=⟨hg'.os,hg'.tape,hg'.output,hg'.size,hg'.block⟩
 have hA:=h.alloc o
 have e:w1.heap[B]?=(w.alloc o).heap[B]?:=hg.block B hA.lt (fun e=>hA.neS e.symm)
 exact ⟨by rw [World.cell?_of_block (w:=w.alloc o) e];exact hA.c2,by rw [World.frozen?_of_block (w:=w.alloc o) e];exact hA.fz 2⟩
attribute [local go_sem ↓] Go.wp_at_zero Go.wp_at_succ
set_option maxHeartbeats 3200000 in
theorem push_any (base B lb c:Nat) (s:ByteArray) (k:Nat) (sv gv:Value) (fs ls:List FR) (gs:List SG) (w:World) (h:RS w base B s k sv gv fs gs) (hl:LS w lb ls) (hlo:Out B sv gv lb) (hlt:lb<w.heap.size) (hlen:fs.length+ls.length<=1099511627776) :
   Calls Tryz.prog 133 #[.pointer (some ⟨B,0,none⟩),.slice (some ⟨lb,0,none⟩) ls.length c] w fun e w'=>e=.returned (.tuple #[])/\∃ sv',RS w' base B s k sv' gv (ls++fs) gs/\Mv base B sv gv sv' gv w w':=by
 obtain ⟨i0,hi0,hz0,hz1,hz2⟩:=info_parts Tryz.infoFrame
 go_enter Tryz.func133,Tryz.ntmps133
 go_wp2
 go_loopg [4] ls.length (fun n x wr=>∃ sv',n<=ls.length/\x=.int .i64 ((n:Int)-1)/\RS wr base B s k sv' gv (ls.drop n++fs) gs/\Mv base B sv gv sv' gv w wr)
 case atStart=>exact ⟨sv,Nat.le_refl _,rfl,by simpa using h,Mv.refl _ _ _ _ _⟩
 case round =>
   obtain ⟨sv',hn,rfl,hr,hm⟩:=hrel
   have HR:Hid (RS wr base B s k sv' gv (ls.drop gk++fs) gs):=hr
   have HM:Hid (Mv base B sv gv sv' gv w wr):=hm
   have c2:=hr.c2
   have z2:=hr.fz 2
   have hk:=hm.kept lb hlt hlo
   have HLS:Hid (LS wr lb ls):=hl.of_block hk.1
   have HLO:Hid (Out B sv' gv lb):=hk.2
   have hlbw:lb<wr.heap.size:=Nat.lt_of_lt_of_le hlt hm.bel.size
   have hBw:B<wr.heap.size:=hr.lt
   clear hr hm hk hl h
   cases gk with
   | zero =>
     go_wp2_with fail
     go_end0
     exact ⟨rfl,sv',by simpa using HR.out,HM.out⟩
   | succ n =>
     have hnl:n<ls.length:=by omega
     obtain ⟨f,hf⟩:∃ f,ls[n]?=some f:=⟨ls[n],List.getElem?_eq_getElem hnl⟩
     obtain ⟨q0,q1,q2,q3⟩:=HLS.out n f hf
     have HF:Hid (ls[n]?=some f):=hf
     have hdrop:Hid (ls.drop n=f::ls.drop (n+1)):=by
       show _=_
       have:=List.getElem?_eq_some_iff.1 hf
       obtain ⟨h1,h2⟩:=this
       rw [List.drop_eq_getElem_cons h1,h2]
     have e1:(((n+1:Nat):Int)-1)=(n:Int):=by omega
     have i0':(0:Int)<=(n:Int):=by omega
     have i1':(n:Int)<(ls.length:Int):=by omega
     have ag:sv'.ownBlock≠some B:=HR.out.neS
     have al:sv'.ownBlock≠some lb:=HLO.out.2.1
     have e2:=World.new_ne wr _ c2
     have e3:=World.new_ne wr _ q0
     have zf:∀ o,(wr.alloc o).frozen? ⟨B,2,none⟩=false:=fun o=>(HR.out.alloc o).fz 2
     have hbs:base<=wr.heap.size:=HR.out.bs
     have hlen2:(ls.drop (n+1)++fs).length+1<=1099511627776:=by simp;omega
     have hA1:Hid ((ls.drop (n+1)++fs).length+1<=maxLen):=by show _<=_;unfold maxLen;omega
     have hA2:Hid (((ls.drop (n+1)++fs).length+1)*32<=140737488355328):=by show _<=_;omega
     have hone:Hid (∀ u∈frV f,u.oneCell'=true):=fun u hu=>by simp [frV] at hu;rcases hu with rfl | rfl | rfl | rfl<;>rfl
     have hA3:Hid (∀ o:Obj,base<=(wr.alloc o).drew.heap.size):=fun o=>by show base<=(wr.alloc o).heap.size;simp;omega
     clear hlen2
     have HML:Hid ((ls.drop (n+1)++fs).length+1=ls.length-(n+1)+fs.length+1):=by show _=_;simp
     clear hf
     rw [e1]
     go_wp2_with fail
     go_region_law ((refine step_append_lies _ (by rfl) _ _ _ (by rfl) base 187 i0 _ 4 32 Tryz.underlying182 hi0 hz0 hz1 hz2 rfl (by omega) sv' _ _ (by rfl) ((HR.out.st.alloc _).drew) ⟨wr.heap.size,0,none⟩ 1 1 (frV f) (by rfl) (by rfl) (World.news_of_block (cs:=#[.int .i64 f.sym,.int .i64 f.kind,.int .i64 f.depth,.int .i64 f.list]) (t:=187) (fr:=(0,0)) (heap_alloc_new wr _)) hone.out (Nat.lt_succ_self 0) hA1.out hA2.out (hA3.out _) (wr.heap.size+1) (by simp) ?_;intro gg cap w1 hown1 hgrow hat hlt1;obtain ⟨y2,y3⟩:=HR.out.grown2 hgrow))
     all_goals
       rw [HML.out] at hown1
       have hP:=HR.out.pushed (m:=ls.length-(n+1)+fs.length+1) (by simp) hown1 hgrow hat
       have HP1:Hid (RS (w1.setCell ⟨B,2,none⟩ (.slice (some ⟨gg,0,none⟩) (ls.length-(n+1)+fs.length+1) cap)) base B s k (.slice (some ⟨gg,0,none⟩) (ls.length-(n+1)+fs.length+1) cap) gv (f::(ls.drop (n+1)++fs)) gs):=hP.1
       have HP2:Hid (Mv base B sv' gv (.slice (some ⟨gg,0,none⟩) (ls.length-(n+1)+fs.length+1) cap) gv wr (w1.setCell ⟨B,2,none⟩ (.slice (some ⟨gg,0,none⟩) (ls.length-(n+1)+fs.length+1) cap))):=hP.2
       clear hP hown1 hgrow hat
       go_wp2_with fail
       go_roundg n
       case measure=>omega
       case rel=>exact ⟨_,by omega,by go_num,by rw [hdrop.out];exact HP1.out,HM.out.trans HP2.out⟩
end Go.Proofs.YtaebngpoagjafaaGreat
