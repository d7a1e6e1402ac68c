import Derived.Test.YtaebngpoagjafabGreatU28
import Derived.Test.YtaebngpoagjafabGreatU35
import Derived.Test.YtaebngpoagjafabGreatU36
set_option maxRecDepth 100000
set_option maxHeartbeats 800000
namespace Go.Proofs.YtaebngpoagjafabGreat
open Go.RowKit
attribute [local go_sem ↓] Go.wp_at_zero Go.wp_at_succ
def cpE (s:ByteArray):Int:=if (yQ s).1=0 then (if 1000<szR (zA s).es (zA s).es.length then 8 else 0) else (yQ s).1
def cpX (s:ByteArray):List Int:=yh (zA s).es (zA s).es.length
def zf8 (w:World) (n:Int) (X:List Int) (r:Ending) (w':World):Prop:=Below w.heap.size w w'/\∃ o m k,r=.returned (.tuple #[.slice o m k,.int .i64 n])/\(n≠0->o=none/\m=0/\k=0)/\(n=0->m=X.length/\w'.ownsRow w.heap.size 5 1 (.slice o m k) X.length (X.map (Value.int .u8)))
theorem EB.shp {e:EX} (h:EB e) (hl:e.items.length<=100000):SHP e:=by
 refine ⟨?_,?_,h.nv.1,by have:=h.nv;omega,hl,fun x hx=>?_⟩
 ·have:=h.kind;omega
 ·have:=h.kind;omega
 ·have i:=h.it x hx
  have f:=i.num
  have d:=i.pv
  have b:=i.pl
  have a:=i.wv
  omega
theorem EVw.of_pq {w:World} {base:Nat} {eo:Option Addr} {em ec:Nat} {rv:Value} {es:List (EX×Value)} {rs:List RL} (h:PQ w base (.slice eo em ec) rv es rs):em=es.length/\es.length<=ec/\EVw w eo es:=by
 obtain ⟨f,g,d,b⟩:=zao h.ex h.it
 cases d
 obtain ⟨o,c,a,e⟩:=z9 h.ex
 cases a
 exact ⟨rfl,e,b⟩
theorem Q8 (eo:Option Addr) (ec:Nat) (ro:Option Addr) (rm rc:Nat) (base:Nat) (es:List (EX×Value)) (rs:List RL) (w:World) (hl:es.length<=100000) (hi:∀ p∈es,p.1.items.length<=100000) (hb:Zl (es.map Prod.fst)) (h:PQ w base (.slice eo es.length ec) (.slice ro rm rc) es rs) (n:Int) (hn:Hid ((if 1000<szR (es.map Prod.fst) es.length then (8:Int) else 0)=n)) :
 Calls Tryz.prog 25 #[.agg #[.slice eo es.length ec,.slice ro rm rc]] w (zf8 w n (yh (es.map Prod.fst) es.length)):=by
 have m:Hid (Below w.heap.size w (w.alloc (.cells #[.slice eo es.length ec,.slice ro rm rc] 74))):=(Below.refl _ _).alloc (Nat.le_refl _) _
 have x:Hid ((w.alloc (.cells #[.slice eo es.length ec,.slice ro rm rc] 74)).heap[w.heap.size]?=some (.cells #[.slice eo es.length ec,.slice ro rm rc] 74 (0,0))):=heap_alloc_new w _
 have A:Hid (∀ rv,(∃ ro rm rc,rv=Value.slice ro rm rc)->Calls Tryz.prog 50 #[.agg #[.slice eo es.length ec,rv]] (w.alloc (.cells #[.slice eo es.length ec,.slice ro rm rc] 74)) fun e w'=>Below (w.alloc (.cells #[.slice eo es.length ec,.slice ro rm rc] 74)).heap.size (w.alloc (.cells #[.slice eo es.length ec,.slice ro rm rc] 74)) w'/\e=.returned (.int .i64 (szR (es.map Prod.fst) es.length))):=fun rv hrv=>zbX eo ec rv base es _ hrv (h.ex.alloc _) (fun p hp=>(h.it p hp).alloc _) hl hi
 obtain ⟨_,u,g⟩:=EVw.of_pq h
 have B:Hid (EVw w eo es):=g
 have l:Hid (szR (es.map Prod.fst) es.length<=1000->∀ wz,EVw wz eo es->Calls Tryz.prog 51 #[.slice eo es.length ec] wz (zdN wz (yh (es.map Prod.fst) es.length))):=fun hsz wz f=>JX es eo ec u hl (fun p hp=>(hb p.1 (List.mem_map_of_mem hp)).shp (hi p hp)) es.length (Nat.le_refl _) hsz eo ec wz (fun _=>⟨rfl,rfl⟩) f
 have E:=zff (es.map Prod.fst) es.length
 clear h g hb hi
 generalize yh (es.map Prod.fst) es.length=X at *
 generalize szR (es.map Prod.fst) es.length=z at *
 go_enter Tryz.func25,Tryz.ntmps25
 go_wp2_with fail
 refine (A.out _ ⟨_,_,_,rfl⟩).mono ?_
 rintro e q ⟨d,rfl⟩
 have a:Hid (Below w.heap.size w q):=m.out.trans (d.mono m.out.size)
 have v:Hid (q.heap[w.heap.size]?=some (.cells #[.slice eo es.length ec,.slice ro rm rc] 74 (0,0))):=by show _=_;rw [d.block _ (by simp)];exact x.out
 have F:q.cell? ⟨w.heap.size,0,none⟩=some (.slice eo es.length ec):=by rw [cell_of_row _ _ _ _ _ _ v.out];rfl
 clear d
 by_cases f:1000<z
 ·have j:Hid (n=8):=by show _=_;rw [<- hn.out,if_pos f]
  go_wp2_with fail
  go_ret2
  exact ⟨a.out,none,0,0,by rw [j.out];rfl,fun _=>⟨rfl,rfl,rfl⟩,fun h=>by rw [j.out] at h;cases h⟩
 ·have j:Hid (n=0):=by show _=_;rw [<- hn.out,if_neg f]
  have s:z<=1000:=by omega
  clear f
  go_wp2_with fail
  refine (l.out s _ (B.out.below a.out)).mono ?_
  rintro r D ⟨i,o,k,rfl,b⟩
  have C:Hid _:=a.out.trans (i.mono a.out.size)
  have y:Hid (D.ownsRow w.heap.size 5 1 (.slice o X.length k) X.length (X.map (Value.int .u8))):=ZE b a.out.size
  clear i b
  go_wp2_with fail
  go_ret2
  exact ⟨C.out,o,X.length,k,by rw [j.out];rfl,fun h=>absurd j.out h,fun _=>⟨rfl,y.out⟩⟩
theorem zfW {W:RW} {E:List EX} (h0:0<=W.dep) (h1:W.dep<=32) {j:Nat} (h:GD E j):1<=(mnN W E (j+1)).ttl/\(mnN W E (j+1)).ttl<=86400/\0<=(mnN W E (j+1)).sc/\(mnN W E (j+1)).sc<=32:=by
 induction h with
 | @servers j e he hk _ _ _ _=>simp only [mnN,he,mnE];rw [if_pos hk];simp
 | @alias j e he hk _ _ _ _=>simp only [mnN,he,mnE];rw [if_neg (by omega),if_pos hk];simp
 | @name j i e he hk _ hin hij _ ih =>
  have a:mnN W E (j+1)=mnN W E (i+1):=by simp only [mnN,he,mnE];rw [if_neg (by omega),if_neg (by omega),if_pos hk,hin,yu W E hij];rfl
  rw [a];exact ih
 | @ttl j i e he hk a1 a2 _ hin hij _ ih =>
  have a:mnN W E (j+1)=⟨(mnN W E (i+1)).sv,if e.nv<(mnN W E (i+1)).ttl then e.nv else (mnN W E (i+1)).ttl,(mnN W E (i+1)).sc⟩:=by
   rw [<- yu W E hij,<- hin]
   simp only [mnN,he,mnE];rw [if_neg (by omega),if_neg (by omega),if_neg (by omega),if_pos hk]
  rw [a]
  simp only
  split<;>omega
 | @list j i e he hk _ _ _ hin hij _ ih =>
  rcases hk with hk | hk
  ·have a:mnN W E (j+1)=(match Z5 W e.items with | some x=>⟨[x],86400,0⟩ | none=>mnN W E (i+1)):=by
    rw [<- yu W E hij,<- hin]
    simp only [mnN,he,mnE];rw [if_neg (by omega),if_neg (by omega),if_neg (by omega),if_neg (by omega),if_pos hk];rfl
   rw [a]
   cases Z5 W e.items with
   | some x=>simp
   | none=>exact ih
  ·have a:mnN W E (j+1)=(match yP W e.items with | some x=>⟨[x],86400,0⟩ | none=>mnN W E (i+1)):=by
    rw [<- yu W E hij,<- hin]
    simp only [mnN,he,mnE];rw [if_neg (by omega),if_neg (by omega),if_neg (by omega),if_neg (by omega),if_neg (by omega),if_pos hk];rfl
   rw [a]
   cases yP W e.items with
   | some x=>simp
   | none=>exact ih
 | @maps j i e an he hk g0 _ hit _ _ harm _ hin hij _ iha ih =>
  have p:e.kind=109->∀ k,k<e.items.length->itL e k<=32:=fun hk k hkl=>by
   have b:e.items[k]?=some e.items[k]:=List.getElem?_eq_getElem hkl
   unfold itL
   rw [b]
   exact (M.isP_iff.1 ((hit _ (List.mem_of_getElem? b)).1 hk)).2.1
  have f:∀ (q:Int) (d:Int),(q=e.inner\/∃ (k:Nat) (x:IM),e.items[k]?=some x/\q=x.arm)->0<=d->d<=32->1<=(atM (mnK W E j) q).ttl/\(atM (mnK W E j) q).ttl<=86400/\0<=nar d (atM (mnK W E j) q).sc/\nar d (atM (mnK W E j) q).sc<=32:=by
   intro q d m o n
   have l:1<=(atM (mnK W E j) q).ttl/\(atM (mnK W E j) q).ttl<=86400/\0<=(atM (mnK W E j) q).sc/\(atM (mnK W E j) q).sc<=32:=by
    rcases m with rfl | ⟨k,x,b,rfl⟩
    ·rw [hin,yu W E hij];exact ih
    ·rw [(harm k x b).1,yu W E (harm k x b).2]
     exact iha k (List.getElem?_eq_some_iff.1 b).1
   refine ⟨l.1,l.2.1,?_,?_⟩<;>(unfold nar;split<;>omega)
  rcases hk with hk | hk
  ·have a:mnN W E (j+1)=⟨(atM (mnK W E j) (ZB W e)).sv,(atM (mnK W E j) (ZB W e)).ttl,nar (M.depTo (itV e) (itL e) W.addr e.items.length) (atM (mnK W E j) (ZB W e)).sc⟩:=by
    simp only [mnN,he,mnE];rw [if_neg (by omega),if_neg (by omega),if_neg (by omega),if_neg (by omega),if_neg (by omega),if_neg (by omega),if_pos hk]
   rw [a]
   refine f _ _ ?_ M.depTo_pos (M.depTo_le (p hk))
   unfold ZB
   split
   ·exact .inl rfl
   ·cases b:e.items[(M.bestTo (itV e) (itL e) W.addr e.items.length).toNat]? with
    | none=>exact .inl rfl
    | some x=>exact .inr ⟨_,x,b,rfl⟩
  ·have a:mnN W E (j+1)=⟨(atM (mnK W E j) (YV W e)).sv,(atM (mnK W E j) (YV W e)).ttl,nar W.dep (atM (mnK W E j) (YV W e)).sc⟩:=by
    simp only [mnN,he,mnE];rw [if_neg (by omega),if_neg (by omega),if_neg (by omega),if_neg (by omega),if_neg (by omega),if_neg (by omega),if_neg (by omega)]
   rw [a]
   refine f _ _ ?_ h0 h1
   unfold YV
   cases b:e.items.find? (fun x=>x.num==W.reg) with
   | none=>exact .inl rfl
   | some x =>
    obtain ⟨k,g⟩:=List.getElem?_of_mem (List.mem_of_find?_eq_some b)
    exact .inr ⟨k,x,g,rfl⟩
theorem zfj {W:RW} {s:ByteArray} (hc:(yQ s).1=0) (hz:szR (zA s).es (zA s).es.length<=1000):∃ k,k<=(cpX s).length/\xW W (cpX s) ⟨⟨0,false⟩,[],86400,0⟩ k ((mnN W (zA s).es (zA s).es.length).sv,Z8 (mnN W (zA s).es (zA s).es.length).ttl 86400,nar (mnN W (zA s).es (zA s).es.length).sc 0):=by
 obtain ⟨d,e⟩:=je hc
 have a:(zA s).es.length-1+1=(zA s).es.length:=Nat.sub_add_cancel d
 have:=zd4 (W:=W) e (by rw [a];exact hz) (cpX s) 0 86400 0 (by rw [a];intro i x b;rw [Nat.zero_add];exact b) (by omega) (by omega)
 rw [a] at this
 exact this
end Go.Proofs.YtaebngpoagjafabGreat
