/-
  OUR OWN.
-/
import Derived.Test.YtaebngpoagjafaaGreatU27
import Derived.Test.YtaebngpoagjafaaGreatU31
import Derived.Test.YtaebngpoagjafaaGreatU37
import Derived.Deep.WholeRow
set_option maxRecDepth 100000
namespace Go.Proofs.YtaebngpoagjafaaGreat
open Go.RowKit
def dnTo (Dn:Nat->Int) (k i:Nat):Bool:=!upTo Dn (i:Int) k
def DA (Dn:Nat->Int) (k:Nat):Array Value:=Array.ofFn (fun i:Fin 64=>Value.bool (dnTo Dn k i.val))
theorem DA_size (Dn:Nat->Int) (k:Nat):(DA Dn k).size=64:=by simp [DA]
theorem DA_at (Dn:Nat->Int) (k i:Nat) (h:i<64):(DA Dn k)[i]?=some (.bool (dnTo Dn k i)):=by
 unfold DA
 rw [Array.getElem?_ofFn]
 simp [h]
theorem DA_out {Dn:Nat->Int} {k:Nat} (h:Dn k<0\/64<=Dn k):DA Dn (k+1)=DA Dn k:=by
 unfold DA
 congr 1
 funext i
 unfold dnTo
 simp only [upTo]
 have:(Dn k==(i.val:Int))=false:=by
   have:=i.isLt
   simp;omega
 rw [this];simp
theorem DA_in {Dn:Nat->Int} {k n:Nat} (h:Dn k=n) (hn:n<64):DA Dn (k+1)=(DA Dn k).setIfInBounds n (.bool true):=by
 apply Array.ext_getElem?
 intro i
 rw [Array.getElem?_setIfInBounds]
 by_cases hi:i<64
 · rw [DA_at Dn (k+1) i hi]
   by_cases hni:n=i
   · subst hni
     rw [if_pos rfl,if_pos (by rw [DA_size];exact hn)]
     unfold dnTo
     simp only [upTo,h]
     simp
   · rw [if_neg hni,DA_at Dn k i hi]
     unfold dnTo
     simp only [upTo,h]
     have:((n:Int)==(i:Int))=false:=by simp;omega
     rw [this];simp
 · rw [Array.getElem?_eq_none (by rw [DA_size];omega),if_neg (by omega),Array.getElem?_eq_none (by rw [DA_size];omega)]
theorem runC_setD {a b c d e:Value} {D:Array Value} {f g h i j k u:Value} {n:Nat} (hD:D.size=64) (hn:n<64):(runC a b c d e D f g h i j k).setIfInBounds (5+n) u=runC a b c d e (D.setIfInBounds n u) f g h i j k:=by
 unfold runC
 rw [set_app_left (by simp;omega),set_app_right (by simp)]
 simp
theorem runC_set0 {a b c d e:Value} {D:Array Value} {f g h i j k u:Value}:(runC a b c d e D f g h i j k).setIfInBounds 0 u=runC u b c d e D f g h i j k:=by
 unfold runC
 rw [set_app_left (by simp;omega),set_app_left (by simp)];rfl
theorem store_row {P:Program} {w:World} {g:Nat} {c:Array Value} {t:TypeId} {vs:List Value} (h:w.heap[g]?=some (.cells c t (0,0))) (hn:vs.length=c.size) (h1:∀ v∈vs,v.oneCell'=true):(storeCells ⟨g,0,none⟩ vs).run P w=.ok () (w.setRow g vs.toArray):=by
 have:=run_storeCells_from (P:=P) g t vs 0 c w h (by omega) h1
 simpa using this
theorem wpList_load_row {P:Program} (w:World) {ops:Array Oper} {rest:List Oper} {o:Oper} {a:Act} {Q:Exit->Act->World->Prop} (hgd:o.guard=none) (p:Operand) (t:TypeId) (ho:o.op=.load t p) (g:Nat) (c:Array Value) (te:TypeId) (fr:Nat×Nat) (d:TypeDesc) (hp:a.eval p=.pointer (some ⟨g,0,none⟩)) (hg:w.heap[g]?=some (.cells c te fr)) (hu:P.underlying t=some d) (hd:(match d with | .struct _ | .array _ _=>true | _=>false)=true) (hi:(P.info? t).map (·.size)=some c.size)
   (h:wpList P ops Q rest (a.put o.dst (.agg c)) w):wpList P ops Q (o::rest) a w:=by
 refine wpList_plain hgd fun K hK=>?_
 have hr:(Instr.loadAt t (.pointer (some ⟨g,0,none⟩))).run P w=.ok (.agg c) w:=by
   simp only [Instr.loadAt,Instr.sureAddr,Sem.run_bind,Sem.run_pure,Result.andThen]
   exact run_loadVar_row w g te t c fr d hg hu hd hi
 unfold Oper.wp execOp
 simp only [ho,hp,Sem.run_bind,hr,Result.andThen_ok]
 exact hK _ _ h
theorem results_cell {fn:Func} {p:Tmp} {ty:TypeId} (h:fn.results=#[.cell p ty]) (tmps:Array Value) (P:Program) (w:World) (a:Addr) (v:Value) (ha:tmps.getD p undef=.pointer (some a)) (hv:(loadVar ty a).run P w=.ok v w):(results fn tmps).run P w=.ok v w:=by
 have ha2:(asAddr (tmps[p]?.getD undef)).run P w=.ok a w:=by
   have e:tmps[p]?.getD undef=tmps.getD p undef:=by simp
   rw [e,ha];rfl
 simp only [results,h]
 simp [Sem.run_bind,Result.andThen]
 rw [ha2]
 exact hv
theorem setRow_at {w:World} {g:Nat} {c c':Array Value} {t:TypeId} {fr:Nat×Nat} (h:w.heap[g]?=some (.cells c t fr)):(w.setRow g c').heap[g]?=some (.cells c' t fr):=by
 simp [World.setRow,Array.getElem?_modify,h]
theorem setRow_ne {w:World} {g b:Nat} {c':Array Value} (h:b≠g):(w.setRow g c').heap[b]?=w.heap[b]?:=by
 simp only [World.setRow,Array.getElem?_modify]
 rw [if_neg (by omega)]
theorem setRow_size {w:World} {g:Nat} {c':Array Value}:(w.setRow g c').heap.size=w.heap.size:=by simp [World.setRow]
theorem setRow_below {B:Nat} {w0 w:World} {g:Nat} {c':Array Value} (h:Below B w0 w) (hg:B<=g):Below B w0 (w.setRow g c'):=h.trans ⟨rfl,rfl,rfl,by rw [setRow_size];exact Nat.le_refl _,fun k hk=>setRow_ne (by omega)⟩
theorem one_runC {a b c d e:Value} {D:Array Value} {f g h i j k:Value} (ha:a.oneCell'=true) (hb:b.oneCell'=true) (hc:c.oneCell'=true) (hd:d.oneCell'=true) (he:e.oneCell'=true) (hD:∀ v∈D.toList,v.oneCell'=true) (hf:f.oneCell'=true) (hg:g.oneCell'=true) (hh:h.oneCell'=true) (hi:i.oneCell'=true) (hj:j.oneCell'=true) (hk:k.oneCell'=true):∀ v∈(runC a b c d e D f g h i j k).toList,v.oneCell'=true:=by
 intro v hv
 unfold runC at hv
 simp only [Array.toList_append,List.mem_append] at hv
 rcases hv with (hv | hv) | hv
 · simp at hv;rcases hv with rfl | rfl | rfl | rfl | rfl<;>assumption
 · exact hD v hv
 · simp at hv;rcases hv with rfl | rfl | rfl | rfl | rfl | rfl<;>assumption
theorem one_DA (Dn:Nat->Int) (k:Nat):∀ v∈(DA Dn k).toList,v.oneCell'=true:=by
 intro v hv
 obtain ⟨i,hi⟩:=List.getElem?_of_mem hv
 rw [Array.getElem?_toList] at hi
 have hlt:i<64:=by
   have:=(Array.getElem?_eq_some_iff.1 hi).1
   rwa [DA_size] at this
 rw [DA_at Dn k i hlt] at hi
 cases hi
 rfl
theorem zeroRun (a d r p:Int) (ao:Option Addr) (al ac:Nat):((((Tryz.zeroCells121.toList.set 3 (Value.int .i64 a)).set 4 (Value.int .i64 d)).set 69 (Value.slice ao al ac)).set 70 (Value.int .i64 r)).set 71 (Value.int .i64 p)=(runC (.slice none 0 0) (.int .i64 0) (.bool false) (.int .i64 a) (.int .i64 d) (DA (fun _=>0) 0) (.slice ao al ac) (.int .i64 r) (.int .i64 p) (.slice none 0 0) (.int .i64 0) (.int .i64 0)).toList:=by kernel_rfl
theorem DA_zero (Dn:Nat->Int):DA (fun _=>0) 0=DA Dn 0:=rfl
end Go.Proofs.YtaebngpoagjafaaGreat
namespace Go.Proofs.YtaebngpoagjafaaGreat
open Go.RowKit
def begC (co:Option Addr) (cl cc:Nat) (a b d:Int) (Dn:Nat->Int) (k:Nat) (ao:Option Addr) (al ac:Nat) (V L R:Nat->Int) (pl:Nat):Array Value :=
 runC (.slice co cl cc) (.int .i64 0) (.bool false) (.int .i64 (cutA a b)) (.int .i64 d) (DA Dn k) (.slice ao al ac) (.int .i64 (regOf V L R pl (cutA a b))) (.int .i64 (M.depTo V L (cutA a b) pl)) (.slice none 0 0) (.int .i64 86400) (.int .i64 0)
attribute [local go_sem ↓] Go.wp_at_zero Go.wp_at_succ
set_option maxHeartbeats 1600000 in
theorem begin_any (a b d:Int) (do_ ao po:Option Addr) (dl dc al ac pl pcp pb poff db doff:Nat) (Dn:Nat->Int) (V L R:Nat->Int) (co:Option Addr) (cl cc:Nat) (w:World) (hA:M.isA a=true) (b0:0<=b) (b1:b<=32) (hdl:dl<=9223372036854775806) (hp:plcB V L R pl=true) (hs:TS w po pb poff pl V L R) (hd:IS w do_ db doff dl Dn) :
   Calls Tryz.prog 64 #[.slice co cl cc,.agg #[.int .i64 a,.int .i64 b,.int .i64 d,.slice do_ dl dc,.slice ao al ac,.slice po pl pcp]] w fun e w'=>e=.returned (.agg (begC co cl cc a b d Dn dl ao al ac V L R pl))/\Below w.heap.size w w':=by
 have HS:Hid (TS w po pb poff pl V L R):=hs
 have HD:Hid (IS w do_ db doff dl Dn):=hd
 obtain ⟨k0,k1⟩:=cutA_bd (n:=b) (M.isA_iff.1 hA).1 (M.isA_iff.1 hA).2
 clear hs hd
 go_enter Tryz.func64,Tryz.ntmps64
 go_wp2_with fail
 refine (Known_any a b _ hA b0 b1).mono ?_
 rintro e w' ⟨rfl,hw'⟩
 subst w'
 have HB0:Hid (Below w.heap.size w ((w.alloc (.cells #[.int .i64 a,.int .i64 b,.int .i64 d,.slice do_ dl dc,.slice ao al ac,.slice po pl pcp] 30)).alloc (.cells Tryz.zeroCells121 121))):=((Below.refl _ _).alloc (Nat.le_refl _) _).alloc (by simp) _
 go_wp2_with fail
 refine (Region_any _ pb poff pl _ V L R _ _ k0 k1 hp (HS.out.below HB0.out)).mono ?_
 rintro e w1 ⟨rfl,hb1⟩
 have HB1:Hid (Below w.heap.size w w1):=HB0.out.trans (hb1.mono HB0.out.size)
 have hx:w1.heap[w.heap.size]?=some (.cells #[.int .i64 a,.int .i64 b,.int .i64 d,.slice do_ dl dc,.slice ao al ac,.slice po pl pcp] 30 (0,0)):=by
   rw [hb1.block _ (by simp;omega),Below.heap_alloc _ _ _ (by simp)];exact heap_alloc_new w _
 have HY:Hid (w1.heap[w.heap.size+1]?=some (.cells Tryz.zeroCells121 121 (0,0))):=by
   show _=_
   rw [hb1.block _ (by simp)];exact heap_alloc_at _ (by simp)
 have hlt1:w.heap.size+1<w1.heap.size:=lt_of_block HY.out
 have hlt0:w.heap.size<w1.heap.size:=by omega
 have x2:w1.cell? ⟨w.heap.size,2,none⟩=some (.int .i64 d):=by simp [World.cell?,hx]
 have x4:w1.cell? ⟨w.heap.size,4,none⟩=some (.slice ao al ac):=by simp [World.cell?,hx]
 have HBC:Hid (∀ k,begC co cl cc a b d Dn k ao al ac V L R pl=runC (.slice co cl cc) (.int .i64 0) (.bool false) (.int .i64 (cutA a b)) (.int .i64 d) (DA Dn k) (.slice ao al ac) (.int .i64 (regOf V L R pl (cutA a b))) (.int .i64 (M.depTo V L (cutA a b) pl)) (.slice none 0 0) (.int .i64 86400) (.int .i64 0)):=fun _=>rfl
 obtain ⟨X,HXE⟩:∃ X,Hid (X=w1.alloc (.cells (runC (.slice none 0 0) (.int .i64 0) (.bool false) (.int .i64 (cutA a b)) (.int .i64 d) (DA Dn 0) (.slice ao al ac) (.int .i64 (regOf V L R pl (cutA a b))) (.int .i64 (M.depTo V L (cutA a b) pl)) (.slice none 0 0) (.int .i64 0) (.int .i64 0)) 121)):=⟨_,rfl⟩
 have hst:(storeCells ⟨w1.heap.size,0,none⟩ (((((Tryz.zeroCells121.toList.set 3 (Value.int .i64 (cutA a b))).set 4 (Value.int .i64 d)).set 69 (Value.slice ao al ac)).set 70 (Value.int .i64 (regOf V L R pl (cutA a b)))).set 71 (Value.int .i64 (M.depTo V L (cutA a b) pl)))).run Tryz.prog (w1.alloc (.cells Tryz.zeroCells121 121))=.ok () X:=by
   rw [HXE.out,zeroRun,DA_zero Dn]
   exact run_storeCells_new (P:=Tryz.prog) w1 121 Tryz.zeroCells121 _ (by rw [runC_size (DA_size _ _)];kernel_rfl) (by rw [runC_size (DA_size _ _)];rfl) (by
     rw [Array.all_eq_true_iff_forall_mem]
     intro v hv
     exact one_runC rfl rfl rfl rfl rfl (one_DA _ _) rfl rfl rfl rfl rfl rfl v (by simpa using hv))
 have HXB:Hid (X.heap[w1.heap.size]?=some (.cells (runC (.slice none 0 0) (.int .i64 0) (.bool false) (.int .i64 (cutA a b)) (.int .i64 d) (DA Dn 0) (.slice ao al ac) (.int .i64 (regOf V L R pl (cutA a b))) (.int .i64 (M.depTo V L (cutA a b) pl)) (.slice none 0 0) (.int .i64 0) (.int .i64 0)) 121 (0,0))):=by show _=_;rw [HXE.out];exact heap_alloc_new _ _
 have HXK:Hid (∀ k,k<w1.heap.size->X.heap[k]?=w1.heap[k]?):=fun k hk=>by rw [HXE.out];exact Below.heap_alloc _ _ _ hk
 have HXL:Hid (Below w.heap.size w X):=by show Below _ _ _;rw [HXE.out];exact HB1.out.alloc HB1.out.size _
 have g0:X.cell? ⟨w1.heap.size,0,none⟩=some (.slice none 0 0):=by rw [cell_of_row _ _ _ _ _ _ HXB.out,runC_lo (by decide)];rfl
 have f0:X.frozen? ⟨w1.heap.size,0,none⟩=false:=by simp [World.frozen?,HXB.out]
 have g73:X.cell? ⟨w1.heap.size,73,none⟩=some (.int .i64 0):=by rw [cell_of_row _ _ 73 _ _ _ HXB.out];exact runC_hi (DA_size _ _) 4
 have f73:X.frozen? ⟨w1.heap.size,73,none⟩=false:=by simp [World.frozen?,HXB.out]
 have x3:X.cell? ⟨w.heap.size,3,none⟩=some (.slice do_ dl dc):=by rw [World.cell?_of_block (HXK.out _ hlt0)];simp [World.cell?,hx]
 clear hb1 hx
 go_wp2_with fail
 have HB2:Hid (((X.setCell ⟨w1.heap.size,0,none⟩ (.slice co cl cc)).setCell ⟨w1.heap.size,73,none⟩ (.int .i64 86400)).heap[w1.heap.size]?=some (.cells (begC co cl cc a b d Dn 0 ao al ac V L R pl) 121 (0,0))):=by
   show _=_
   rw [blkN_set (blkN_set HXB.out),runC_set0,runC_set73 (DA_size _ _)];rfl
 have HL2:Hid (Below w.heap.size w ((X.setCell ⟨w1.heap.size,0,none⟩ (.slice co cl cc)).setCell ⟨w1.heap.size,73,none⟩ (.int .i64 86400))):=(HXL.out.setCell (by simp only;omega) _).setCell (by simp only;omega) _
 have HK2:Hid (((X.setCell ⟨w1.heap.size,0,none⟩ (.slice co cl cc)).setCell ⟨w1.heap.size,73,none⟩ (.int .i64 86400)).heap[w.heap.size+1]?=some (.cells Tryz.zeroCells121 121 (0,0))):=by
   show _=_
   rw [heap_set_ne (by omega),heap_set_ne (by omega),HXK.out _ hlt1];exact HY.out
 clear g0 f0 g73 f73 x2 x3 x4 hst
 generalize (X.setCell ⟨w1.heap.size,0,none⟩ (.slice co cl cc)).setCell ⟨w1.heap.size,73,none⟩ (.int .i64 86400)=w2 at *
 go_loopg [39] dl (fun q y wr=>∃ k:Nat,q+k=dl/\y=.int .i64 k/\wr.heap[w1.heap.size]?=some (.cells (begC co cl cc a b d Dn k ao al ac V L R pl) 121 (0,0))/\wr.heap[w.heap.size+1]?=some (.cells Tryz.zeroCells121 121 (0,0))/\Below w.heap.size w wr)
 case atStart=>exact ⟨0,by omega,rfl,HB2.out,HK2.out,HL2.out⟩
 case round =>
   obtain ⟨k,hq,rfl,hbk,hyk,hbl⟩:=hrel
   have HBK:Hid (wr.heap[w1.heap.size]?=some (.cells (begC co cl cc a b d Dn k ao al ac V L R pl) 121 (0,0))):=hbk
   have HYK:Hid (wr.heap[w.heap.size+1]?=some (.cells Tryz.zeroCells121 121 (0,0))):=hyk
   have HBL:Hid (Below w.heap.size w wr):=hbl
   clear hbk hyk hbl
   by_cases hlt:k<dl
   · have hlt':(k:Int)<(dl:Int):=by omega
     have hk0:(0:Int)<=(k:Int):=by omega
     obtain rfl:=HD.out.at_ (by omega)
     have hv:=(HD.out.below HBL.out (HD.out.lt)).val k hlt
     by_cases h1:0<=Dn k
     · by_cases h2:Dn k<64
       · obtain ⟨n,hn⟩:∃ n:Nat,Dn k=n:=⟨(Dn k).toNat,by omega⟩
         have HIN:Hid (begC co cl cc a b d Dn (k+1) ao al ac V L R pl=(begC co cl cc a b d Dn k ao al ac V L R pl).setIfInBounds (5+n) (.bool true)):=by
           show _=_
           rw [HBC.out,HBC.out,runC_setD (DA_size _ _) (by omega),DA_in hn (by omega)]
         rw [hn] at hv h1 h2
         have hgc:wr.cell? ⟨w1.heap.size,5+n,none⟩=some (.bool (dnTo Dn k n)):=by rw [cell_of_row _ _ _ _ _ _ HBK.out,HBC.out,runC_dn (DA_size _ _) (by omega),DA_at _ _ _ (by omega)]
         have hgf:wr.frozen? ⟨w1.heap.size,5+n,none⟩=false:=by simp [World.frozen?,HBK.out]
         clear hn
         go_wp2_with fail
         go_roundg (gk-1)
         case measure=>omega
         case rel=>exact ⟨k+1,by omega,by go_num,by rw [HIN.out];exact blkN_set HBK.out,by rw [heap_set_ne (by omega)];exact HYK.out,HBL.out.setCell (by simp only;omega) _⟩
       · have HIN:Hid (begC co cl cc a b d Dn (k+1) ao al ac V L R pl=begC co cl cc a b d Dn k ao al ac V L R pl):=by show _=_;rw [HBC.out,HBC.out,DA_out (.inr (by omega))]
         have h2':decide (Dn k<64)=false:=decide_eq_false h2
         go_wp2_with fail
         go_roundg (gk-1)
         case measure=>omega
         case rel=>exact ⟨k+1,by omega,by go_num,by rw [HIN.out];exact HBK.out,HYK.out,HBL.out⟩
     · have HIN:Hid (begC co cl cc a b d Dn (k+1) ao al ac V L R pl=begC co cl cc a b d Dn k ao al ac V L R pl):=by show _=_;rw [HBC.out,HBC.out,DA_out (.inl (by omega))]
       have h1':decide (0<=Dn k)=false:=decide_eq_false h1
       go_wp2_with fail
       go_roundg (gk-1)
       case measure=>omega
       case rel=>exact ⟨k+1,by omega,by go_num,by rw [HIN.out];exact HBK.out,HYK.out,HBL.out⟩
   · have hkn:k=dl:=by omega
     subst hkn
     have hlt':¬ (k:Int)<(k:Int):=by omega
     have HSZ:Hid ((begC co cl cc a b d Dn k ao al ac V L R pl).size=75):=by show _=_;rw [HBC.out];exact runC_size (DA_size _ _)
     have HSO:Hid ((storeCells ⟨w.heap.size+1,0,none⟩ (begC co cl cc a b d Dn k ao al ac V L R pl).toList).run Tryz.prog wr=.ok () (wr.setRow (w.heap.size+1) (begC co cl cc a b d Dn k ao al ac V L R pl).toList.toArray)):=store_row (P:=Tryz.prog) (vs:=(begC co cl cc a b d Dn k ao al ac V L R pl).toList) HYK.out (by rw [Array.length_toList,HSZ.out];rfl) (by rw [HBC.out];exact one_runC rfl rfl rfl rfl rfl (one_DA _ _) rfl rfl rfl rfl rfl rfl)
     obtain ⟨c,HC⟩:∃ c,Hid (begC co cl cc a b d Dn k ao al ac V L R pl=c):=⟨_,rfl⟩
     rw [HC.out] at HSO HSZ HBK
     obtain ⟨X2,HX2⟩:∃ X2,Hid (X2=wr.setRow (w.heap.size+1) c.toList.toArray):=⟨_,rfl⟩
     have hso:=HSO.out
     rw [<- HX2.out] at hso
     have HLS:Hid (Below w.heap.size w X2):=by show Below _ _ _;rw [HX2.out];exact setRow_below HBL.out (by omega)
     have HRB:Hid (X2.heap[w.heap.size+1]?=some (.cells c 121 (0,0))):=by show _=_;rw [HX2.out,setRow_at HYK.out]
     have hin:(Tryz.prog.info? 121).map (·.size)=some c.size:=by rw [HSZ.out];kernel_rfl
     have HIN:Hid ((Tryz.prog.info? 121).map (·.size)=some c.size):=hin
     clear hin
     go_wp2_with (refine wpList_load_row _ rfl (.tmp 8) 121 rfl w1.heap.size c 121 (0,0) _ rfl HBK.out Tryz.underlying121 rfl HIN.out ?_)
     exact bodyPost_ret (v:=.agg c) (results_cell Tryz.results64 _ _ _ ⟨w.heap.size+1,0,none⟩ _ rfl (run_loadVar_row X2 _ _ _ _ _ _ HRB.out Tryz.underlying121 rfl HIN.out)) rfl ⟨by rw [HC.out],HLS.out⟩
end Go.Proofs.YtaebngpoagjafaaGreat
namespace Go.Proofs.YtaebngpoagjafaaGreat
open Go.RowKit
theorem nx_bad {C:List Int} {r:RD} (h:r.b=true):(nx C r).b=true:=by unfold nx;split<;>simp [h]
theorem nx_end {C:List Int} {r:RD} (h:¬ r.p<C.length):(nx C r).b=true:=by unfold nx;rw [if_neg h]
theorem rdAt_bad {C:List Int} {r:RD} (h:r.b=true):∀ i,(rdAt C r i).b=true:=by
 intro i
 induction i with
 | zero=>exact h
 | succ i ih=>exact nx_bad ih
theorem num_bad {C:List Int} {r:RD} {k:Nat} {lo hi:Int} (h:r.b=true):(num C r k lo hi).b=true:=by
 unfold num
 simp only
 split
 · rfl
 · exact rdAt_bad h k
theorem svR_bad {C:List Int} {r:RD} (h:r.b=true):∀ i,(svR C r i).b=true:=by
 intro i
 induction i with
 | zero=>exact h
 | succ i ih=>exact num_bad ih
theorem meR_bad {C:List Int} {r:RD} (h:r.b=true):∀ i,(meR C r i).b=true:=by
 intro i
 induction i with
 | zero=>exact h
 | succ i ih=>exact num_bad (num_bad ih)
theorem amR_bad {C:List Int} {r:RD} (h:r.b=true):∀ i,(amR C r i).b=true:=by
 intro i
 induction i with
 | zero=>exact h
 | succ i ih =>
   refine num_bad ?_
   unfold amL
   simp only
   split
   · exact num_bad (num_bad ih)
   · rfl
theorem rgR_bad {C:List Int} {r:RD} (h:r.b=true):∀ i,(rgR C r i).b=true:=by
 intro i
 induction i with
 | zero=>exact h
 | succ i ih=>exact num_bad (num_bad ih)
theorem step_in {W:RW} {C:List Int} {s:RT} (h:(stepF W C s).1.r.b=false):s.r.p<C.length:=by
 refine Classical.byContradiction fun hn=>?_
 have hb:=nx_end hn
 have key:(stepF W C s).1.r.b=true:=by
   simp only [stepF]
   repeat' split
   · exact svR_bad (num_bad hb) _
   · unfold stPool
     repeat' split
     all_goals exact meR_bad (num_bad hb) _
   · unfold stChain
     split<;>exact svR_bad (num_bad hb) _
   · exact amR_bad (num_bad hb) _
   · exact rgR_bad (num_bad hb) _
   · exact num_bad hb
   · exact num_bad hb
   · rfl
 rw [h] at key
 cases key
theorem chG_le {W:RW} {C:List Int} {r:RD}:∀ n i k,chG W C r i n=some k->k<i+n:=by
 intro n
 induction n with
 | zero=>intro i k h;simp [chG] at h
 | succ n ih =>
   intro i k h
   simp only [chG] at h
   split at h
   · cases h;omega
   · have:=ih (i+1) k h;omega
theorem step_p {W:RW} {C:List Int} {s:RT} (hC:∀ x∈C,0<=x/\x<256):(stepF W C s).1.r.p<=s.r.p+70000:=by
 have hx:=nx_p C s.r
 have hc:=num_p C (nx C s.r) 1 1 16
 have hcn:(cnR C (nx C s.r)).p=(num C (nx C s.r) 1 1 16).p:=rfl
 obtain ⟨_,h255⟩:=cnN_bd hC (nx C s.r)
 simp only [stepF]
 repeat' split
 · have:=svR_p C (cnR C (nx C s.r)) (cnN C (nx C s.r));simp only [stServers];omega
 · have:=meR_p C (cnR C (nx C s.r)) (cnN C (nx C s.r))
   unfold stPool
   repeat' split
   all_goals (simp only;omega)
 · unfold stChain
   split
   · rename_i i hi
     have h1:=chG_le _ _ _ hi
     have:=svR_p C (cnR C (nx C s.r)) (i+1)
     simp only at h1 ⊢;omega
   · have:=svR_p C (cnR C (nx C s.r)) (cnN C (nx C s.r));simp only;omega
 · have h1:=amR_p C (cnR C (nx C s.r)) (cnN C (nx C s.r))
   unfold stPrefixes
   simp only
   have h2:∀ k,(arW C (cnR C (nx C s.r)) k).toNat<=65535:=fun k=>by have:=rdN2_bd hC (amL C (amR C (cnR C (nx C s.r)) k));unfold arW;omega
   split
   · omega
   · have:=h2 (M.bestTo (arV C (cnR C (nx C s.r))) (arL C (cnR C (nx C s.r))) W.addr (cnN C (nx C s.r))).toNat
     omega
 · have h1:=rgR_p C (cnR C (nx C s.r)) (cnN C (nx C s.r))
   have h2:=rgT_bd (W:=W) hC (cnR C (nx C s.r)) (cnN C (nx C s.r))
   unfold stRegions
   simp only
   omega
 · have:=num_p C (nx C s.r) 3 1 86400;simp only [stSeconds];omega
 · have:=num_p C (nx C s.r) 1 0 15;simp only [stAlias];omega
 · simp only;omega
theorem step_sv {W:RW} {C:List Int} {s:RT} (h:(stepF W C s).2=false):(stepF W C s).1.sv=s.sv:=by
 revert h
 simp only [stepF]
 repeat' split
 · intro h;cases h
 · unfold stPool
   repeat' split
   all_goals first | (intro h;cases h;done) | (intro _;rfl)
 · unfold stChain
   split
   all_goals first | (intro h;cases h;done) | (intro _;rfl)
 · intro _;rfl
 · intro _;rfl
 · intro _;rfl
 · intro h;cases h
 · intro _;rfl
def RuTo (w:World) (R:Int×(List Int×Int×Int)) (r:Ending) (w':World):Prop:=Below w.heap.size w w'/\∃ o m k,r=.returned (.tuple #[.agg #[.slice o m k,.int .i64 R.2.2.1,.int .i64 R.2.2.2],.int .i64 R.1])/\(R.1≠0->o=none/\m=0/\k=0)/\(R.1=0->m=R.2.1.length/\w'.ownsRow w.heap.size 3 1 (.slice o m k) R.2.1.length (R.2.1.map (Value.int .i64)))
def rwOf (a b d:Int) (Dn:Nat->Int) (dl:Nat) (al:List (List Int)) (V L R:Nat->Int) (pl:Nat):RW:=⟨cutA a b,d,dnTo Dn dl,al,regOf V L R pl (cutA a b),M.depTo V L (cutA a b) pl⟩
def rt0:RT:=⟨⟨0,false⟩,[],86400,0⟩
def ruF (a b d:Int) (Dn:Nat->Int) (dl:Nat) (al:List (List Int)) (V L R:Nat->Int) (pl:Nat) (C:List Int) (fuel:Int):Int×(List Int×Int×Int) :=
 if fuel<0 then (9,[],0,0) else if rightB a b d V L R pl=true then runF (rwOf a b d Dn dl al V L R pl) C fuel.toNat rt0 else (9,[],0,0)
end Go.Proofs.YtaebngpoagjafaaGreat
