/-
  OUR OWN.
-/
import Derived.Test.YtaebngpoagjafaaGreatU23
set_option maxRecDepth 100000
namespace Go.Proofs.YtaebngpoagjafaaGreat
open Go.RowKit
def cap1 (n:Int):Int:=if 1000<n then 1001 else n
theorem ext_size (s:ByteArray) (a b:Nat) (h:b<=s.size):(s.extract a b).size=b-a:=by rw [ByteArray.size_extract];omega
theorem spl_ne (s:ByteArray) (c:Int):0<(spl s c).length:=by simp [spl]
theorem spl_size {s:ByteArray} {c:Int} {t:ByteArray} (h:t∈spl s c):t.size<=s.size:=by
 have key:∀ i,i<=s.size->∀ t∈(spS s c i).l,t.size<=s.size:=by
   intro i
   induction i with
   | zero=>intro _ t ht;simp [spS] at ht
   | succ i ih =>
     intro hi t ht
     simp only [spS] at ht
     split at ht
     · exact ih (by omega) t ht
     · split at ht
       · exact ih (by omega) t ht
       · split at ht
         · simp only [List.mem_append,List.mem_singleton] at ht
           rcases ht with ht | ht
           · exact ih (by omega) t ht
           · subst ht;rw [ext_size s _ _ (by omega)];omega
         · exact ih (by omega) t ht
 unfold spl at h
 rcases List.mem_append.1 h with h | h
 · exact key s.size (Nat.le_refl _) t h
 · simp at h;subst h;rw [ext_size s _ _ (Nat.le_refl _)];omega
theorem str_cell {w:World} {base g cap n:Nat} {l:List ByteArray} (h:w.ownsRow base 9 1 (.slice (some ⟨g,0,none⟩) n cap) l.length (l.map Value.string)) {i:Nat} {t:ByteArray} (hi:l[i]?=some t):w.cell? ⟨g,i,none⟩=some (.string t):=by
 have hlt:i<l.length:=(List.getElem?_eq_some_iff.1 hi).1
 have hn:n=l.length:=by
   rcases h.2 with ⟨h0,_⟩ | ⟨g',cap',cur,h0,_⟩
   · cases h0
   · cases h0;rfl
 subst hn
 rw [World.ownsRow.cellAt h i (by omega)]
 simp [hi]
theorem str_slice {w:World} {base:Nat} {l:List ByteArray} {v:Value} (h:w.ownsRow base 9 1 v l.length (l.map Value.string)) (hl:0<l.length):∃ g cap,v=.slice (some ⟨g,0,none⟩) l.length cap/\base<=g/\g<w.heap.size:=by
 rcases h.2 with ⟨h0,h1⟩ | ⟨g',cap',cur,h0,h1,h2,_⟩
 · omega
 · exact ⟨g',cap',h0,h1,lt_of_block h2⟩
attribute [local go_sem ↓] Go.wp_at_zero Go.wp_at_succ
set_option maxHeartbeats 400000 in
theorem capped_any (n:Int) (w:World):Calls Tryz.prog 96 #[.int .i64 n] w fun e w'=>w'=w/\e=.returned (.int .i64 (cap1 n)):=by
 by_cases h:1000<n
 · have HE:Hid (cap1 n=1001):=by show _=_;unfold cap1;rw [if_pos h]
   go_enter Tryz.func96,Tryz.ntmps96
   go_wp2_with fail
   go_ret
   exact ⟨rfl,by rw [HE.out];rfl⟩
 · have HE:Hid (cap1 n=n):=by show _=_;unfold cap1;rw [if_neg h]
   have h':n<=1000:=by omega
   clear h
   go_enter Tryz.func96,Tryz.ntmps96
   go_wp2_with fail
   go_ret
   exact ⟨rfl,by rw [HE.out];rfl⟩
set_option maxHeartbeats 800000 in
theorem arm_any (s a:ByteArray) (w:World) (hs:s.size<=2000) (ha:(spl s 58)[0]?=some a) (hl:a.size+1<=s.size) :
   Calls Tryz.prog 98 #[.string s] w fun e w'=>Below w.heap.size w w'/\e=.returned (.tuple #[.string a,.string (s.extract (a.size+1) s.size)]):=by
 go_enter Tryz.func98,Tryz.ntmps98
 go_wp2_with fail
 refine (split_any s 58 _ hs).mono ?_
 rintro e w1 ⟨hb,v,rfl,hrow⟩
 obtain ⟨g,cap,rfl,hg,hgl⟩:=str_slice hrow (spl_ne s 58)
 have c0:=str_cell hrow ha
 have hne:=spl_ne s 58
 have HB:Hid (Below w.heap.size w w1):=hb
 clear hb hrow ha
 generalize (spl s 58).length=n at *
 have hn0:(0:Int)<(n:Int):=by omega
 have h1:(a.size:Int)+1<=(s.size:Int):=by omega
 have h2:(s.size:Int)<=2000:=by omega
 go_wp2_with fail
 go_quiet (fail)
 go_wp2_with fail
 go_ret2
 exact ⟨below_drewN HB.out _,rfl⟩
set_option maxHeartbeats 800000 in
theorem parts_any (s a b:ByteArray) (w:World) (hs:s.size<=2000) (h3:3<=s.size) (ha:(spl (s.extract 2 (s.size-1)) 124)[0]?=some a) (hb:(spl (s.extract 2 (s.size-1)) 124)[1]?=some b) :
   Calls Tryz.prog 97 #[.string s] w fun e w'=>Below w.heap.size w w'/\∃ v,e=.returned (.tuple #[v,.string b])/\w'.ownsRow w.heap.size 9 1 v (spl a 44).length ((spl a 44).map Value.string):=by
 have hsz:(s.extract 2 (s.size-1)).size<=2000:=by rw [ext_size s _ _ (by omega)];omega
 have h1:(3:Int)<=(s.size:Int):=by omega
 have h2:(s.size:Int)<=2000:=by omega
 go_enter Tryz.func97,Tryz.ntmps97
 go_wp2_with fail
 refine (split_any (s.extract 2 (s.size-1)) 124 _ hsz).mono ?_
 rintro e w1 ⟨hb1,v,rfl,hrow⟩
 obtain ⟨g,cap,rfl,hg,hgl⟩:=str_slice hrow (spl_ne _ _)
 have c0:=str_cell hrow ha
 have c1:=str_cell hrow hb
 have hn1:1<(spl (s.extract 2 (s.size-1)) 124).length:=(List.getElem?_eq_some_iff.1 hb).1
 have HB:Hid (Below w.heap.size w w1):=hb1
 have hza:a.size<=2000:=Nat.le_trans (spl_size (List.mem_of_getElem? ha)) hsz
 clear hb1 hrow ha hb
 generalize (spl (s.extract 2 (s.size-1)) 124).length=n at *
 have hn0:(1:Int)<(n:Int):=by omega
 have hn2:(0:Int)<(n:Int):=by omega
 have hsp:=fun wz=>split_any a 44 wz hza
 go_wp2_with fail
 go_region_with (go_at_call 94;refine (hsp _).mono ?_;rintro e w2 ⟨hb2,v2,rfl,hrow2⟩;have d1:=(hb2.cell (p:=⟨g,1,none⟩) hgl).trans c1)
 all_goals
   have HB2:Hid (Below w.heap.size w w2):=HB.out.drew.trans (hb2.mono HB.out.size)
   have HR2:Hid (w2.ownsRow w.heap.size 9 1 v2 (spl a 44).length ((spl a 44).map Value.string)):=by
     have hz:w.heap.size<=w1.drew.heap.size:=HB.out.size
     refine ⟨hrow2.1,?_⟩
     rcases hrow2.2 with h | ⟨g',cp,cur,h0,h1,h2⟩
     · exact .inl h
     · exact .inr ⟨g',cp,cur,h0,Nat.le_trans hz h1,h2⟩
   clear hb2 hrow2
   go_wp2_with fail
   go_ret2
   exact ⟨HB2.out,_,rfl,HR2.out⟩
end Go.Proofs.YtaebngpoagjafaaGreat
namespace Go.Proofs.YtaebngpoagjafaaGreat
open Go.RowKit
def knL (nm:ByteArray) (c:Int):List Int->Nat->Int
 | [],_=>0
 | k::r,i=>if T.ch nm i=c then k else knL nm c r (i+1)
structure KV (w:World) (PB:Nat) (nm:ByteArray) (ko:Option Addr) (K:List Int):Prop where
 lt:PB<w.heap.size
 nm:w.cell? ⟨PB,0,none⟩=some (.string nm)
 kn:∀ i v,K[i]?=some v->∃ g,ko=some ⟨g,0,none⟩/\g<w.heap.size/\w.cell? ⟨g,i,none⟩=some (.int .i64 v)
theorem KV.below {w w':World} {PB:Nat} {nm:ByteArray} {ko:Option Addr} {K:List Int} (h:KV w PB nm ko K) (hb:Below w.heap.size w w'):KV w' PB nm ko K :=
 ⟨Nat.lt_of_lt_of_le h.lt hb.size,by rw [hb.cell (p:=⟨PB,0,none⟩) h.lt];exact h.nm,fun i v hv=>by
   obtain ⟨g,h1,h2,h3⟩:=h.kn i v hv
   exact ⟨g,h1,Nat.lt_of_lt_of_le h2 hb.size,by rw [hb.cell (p:=⟨g,i,none⟩) h2];exact h3⟩⟩
theorem KV.drew {w:World} {PB:Nat} {nm:ByteArray} {ko:Option Addr} {K:List Int} (h:KV w PB nm ko K):KV w.drew PB nm ko K:=⟨h.lt,h.nm,h.kn⟩
theorem ch_get {t:ByteArray} {i:Nat} {c:Int} (h:T.ch t i=c) (hc:0<=c):∃ hi:i<t.size,((t[i]).toNat:Int)=c:=by
 have hi:i<t.size:=T.ch_nn (by omega)
 exact ⟨hi,by rw [<- T.ch_lt hi];exact h⟩
attribute [local go_sem ↓] Go.wp_at_zero Go.wp_at_succ
set_option maxHeartbeats 800000 in
theorem size_alias (PB:Nat) (t:ByteArray) (kv:Value) (w:World) (h:T.ch t 0=64) :
   Calls Tryz.prog 55 #[.pointer (some ⟨PB,0,none⟩),.string t,kv] w fun e w'=>Below w.heap.size w w'/\e=.returned (.int .i64 1):=by
 obtain ⟨h0,hc⟩:=ch_get h (by decide)
 have h0':(0:Int)<(t.size:Int):=by omega
 go_enter Tryz.func55,Tryz.ntmps55
 go_wp2_with fail
 go_ret
 exact ⟨Below.refl _ _,rfl⟩
set_option maxHeartbeats 800000 in
theorem size_servers (PB:Nat) (t:ByteArray) (kv:Value) (w:World) (hs:t.size<=2000) (h:T.ch t 0=123) (h2:2<=t.size) :
   Calls Tryz.prog 55 #[.pointer (some ⟨PB,0,none⟩),.string t,kv] w fun e w'=>Below w.heap.size w w'/\e=.returned (.int .i64 (1+((spl (t.extract 1 (t.size-1)) 44).length:Int))):=by
 obtain ⟨h0,hc⟩:=ch_get h (by decide)
 have h0':(2:Int)<=(t.size:Int):=by omega
 have h1':(t.size:Int)<=2000:=by omega
 have hsz:(t.extract 1 (t.size-1)).size<=2000:=by rw [ext_size t _ _ (by omega)];omega
 have hln:(spl (t.extract 1 (t.size-1)) 44).length<=2001:=by
   have:=(spS_bd (t.extract 1 (t.size-1)) 44 (t.extract 1 (t.size-1)).size).2.1
   simp only [spl,List.length_append,List.length_cons,List.length_nil];omega
 go_enter Tryz.func55,Tryz.ntmps55
 go_wp2_with fail
 refine (split_any _ 44 _ hsz).mono ?_
 rintro e w1 ⟨hb,v,rfl,hrow⟩
 obtain ⟨g,cap,rfl,_,_⟩:=str_slice hrow (spl_ne _ _)
 have HB:Hid (Below w.heap.size w w1):=hb
 clear hb hrow
 generalize hq:(spl (t.extract 1 (t.size-1)) 44).length=n at *
 have HN:Hid ((spl (t.extract 1 (t.size-1)) 44).length=n):=hq
 clear hq
 go_wp2_with fail
 go_ret
 exact ⟨HB.out,by rw [HN.out];rfl⟩
set_option maxHeartbeats 800000 in
theorem size_ttl (PB:Nat) (t b:ByteArray) (nm:ByteArray) (ko:Option Addr) (kc:Nat) (K:List Int) (n:Int) (w:World) (hs:t.size<=2000) (h:T.ch t 0=116) (h2:3<=t.size) (hbb:(spl (t.extract 2 (t.size-1)) 44)[1]?=some b) (hn0:0<=n) (hn1:n<=5000) (hK:KV w PB nm ko K)
   (ih:∀ w,KV w PB nm ko K->Calls Tryz.prog 55 #[.pointer (some ⟨PB,0,none⟩),.string b,.slice ko K.length kc] w fun e w'=>Below w.heap.size w w'/\e=.returned (.int .i64 n)) :
   Calls Tryz.prog 55 #[.pointer (some ⟨PB,0,none⟩),.string t,.slice ko K.length kc] w fun e w'=>Below w.heap.size w w'/\e=.returned (.int .i64 (cap1 (1+n))):=by
 obtain ⟨h0,hc⟩:=ch_get h (by decide)
 have h0':(3:Int)<=(t.size:Int):=by omega
 have h1':(t.size:Int)<=2000:=by omega
 have hsz:(t.extract 2 (t.size-1)).size<=2000:=by rw [ext_size t _ _ (by omega)];omega
 have IH:Hid (∀ w,KV w PB nm ko K->Calls Tryz.prog 55 #[.pointer (some ⟨PB,0,none⟩),.string b,.slice ko K.length kc] w fun e w'=>Below w.heap.size w w'/\e=.returned (.int .i64 n)):=ih
 have HK:Hid (KV w PB nm ko K):=hK
 clear ih hK
 go_enter Tryz.func55,Tryz.ntmps55
 go_wp2_with fail
 refine (split_any _ 44 _ hsz).mono ?_
 rintro e w1 ⟨hb,v,rfl,hrow⟩
 obtain ⟨g,cap,rfl,_,hgl⟩:=str_slice hrow (spl_ne _ _)
 have c1:=str_cell hrow hbb
 have hm1:1<(spl (t.extract 2 (t.size-1)) 44).length:=(List.getElem?_eq_some_iff.1 hbb).1
 have HB:Hid (Below w.heap.size w w1):=hb
 have HK1:Hid (KV w1 PB nm ko K):=HK.out.below hb
 clear hb hrow hbb
 generalize (spl (t.extract 2 (t.size-1)) 44).length=m at *
 have hm0:(1:Int)<(m:Int):=by omega
 go_wp2_with fail
 refine (IH.out _ HK1.out).mono ?_
 rintro e w2 ⟨hb2,rfl⟩
 have HB2:Hid (Below w.heap.size w w2):=HB.out.trans (hb2.mono HB.out.size)
 clear hb2
 go_wp2_with fail
 refine (capped_any _ _).mono ?_
 rintro e w3 ⟨hw3,rfl⟩
 subst w3
 go_wp2_with fail
 go_ret
 exact ⟨HB2.out,rfl⟩
set_option maxHeartbeats 800000 in
theorem size_name (PB:Nat) (t:ByteArray) (nm:ByteArray) (ko:Option Addr) (kc:Nat) (K:List Int) (w:World) (hs:t.size<=2000) (h:T.ch t 0=61) (h2:2<=t.size) (hKn:K.length<=nm.size) (hK:KV w PB nm ko K) (hnm:nm.size<=5000) :
   Calls Tryz.prog 55 #[.pointer (some ⟨PB,0,none⟩),.string t,.slice ko K.length kc] w fun e w'=>Below w.heap.size w w'/\e=.returned (.int .i64 (knL nm (T.ch t 1) K 0)):=by
 obtain ⟨h0,hc⟩:=ch_get h (by decide)
 have h0':(2:Int)<=(t.size:Int):=by omega
 have h1':(t.size:Int)<=2000:=by omega
 have h1:1<t.size:=by omega
 have hc1:((t[1]).toNat:Int)=T.ch t 1:=(T.ch_lt h1).symm
 have HK:Hid (KV w PB nm ko K):=hK
 have n0:=hK.nm
 have HD:Hid (knL nm (T.ch t 1) (K.drop 0) 0=knL nm (T.ch t 1) K 0):=by show _=_;rw [List.drop_zero]
 generalize T.ch t 1=c at *
 clear hK
 go_enter Tryz.func55,Tryz.ntmps55
 go_wp2_with fail
 go_loopg [7] K.length (fun n y wr=>∃ (j:Nat),n+j=K.length/\y=.int .i64 j/\Hid (knL nm c (K.drop j) j=knL nm c K 0)/\∃ q,wr=w.drewN q)
 case atStart=>exact ⟨0,by omega,rfl,HD,0,rfl⟩
 case round =>
   obtain ⟨j,hn,rfl,HN,q,rfl⟩:=hrel
   by_cases hlt:j<K.length
   · obtain ⟨v,hv⟩:∃ v,K[j]?=some v:=⟨K[j],List.getElem?_eq_getElem hlt⟩
     obtain ⟨g,rfl,hgl,hcl⟩:=HK.out.kn j v hv
     have hj0:(0:Int)<=(j:Int):=by omega
     have hj1:(j:Int)<(K.length:Int):=by omega
     have hj2:j<nm.size:=by omega
     have hj3:(j:Int)<(nm.size:Int):=by omega
     have hcj:((nm[j]).toNat:Int)=T.ch nm j:=(T.ch_lt hj2).symm
     have HE:Hid (knL nm c K 0=if T.ch nm j=c then v else knL nm c (K.drop (j+1)) (j+1)):=by
       show _=_
       rw [<- HN.out,List.drop_eq_getElem_cons hlt]
       have:K[j]=v:=by have:=List.getElem?_eq_getElem hlt;rw [hv] at this;simpa using this.symm
       rw [this];rfl
     clear hv
     generalize T.ch nm j=d at *
     cases e1:(d==c) with
     | true =>
       have HE2:Hid (knL nm c K 0=v):=by show _=_;rw [HE.out,if_pos (by simpa using e1)]
       clear HE
       go_wp2_with fail
       go_quiet (fail)
       go_wp2_with fail
       go_ret
       exact ⟨below_drewN (Below.refl _ _) _,by rw [HE2.out];rfl⟩
     | false =>
       have HE2:Hid (knL nm c (K.drop (j+1)) (j+1)=knL nm c K 0):=by show _=_;rw [HE.out,if_neg (by simpa using e1)]
       clear HE
       go_wp2_with fail
       go_quiet (fail)
       go_wp2_with fail
       go_roundg (gk-1)
       case measure=>omega
       case rel=>exact ⟨j+1,by omega,by go_num,HE2,_,rfl⟩
   · have hd:¬ ((j:Int)<(K.length:Int)):=by omega
     have HE:Hid (knL nm c K 0=0):=by show _=_;rw [<- HN.out,List.drop_eq_nil_of_le (by omega)];rfl
     go_wp2_with fail
     go_ret
     exact ⟨below_drewN (Below.refl _ _) _,by rw [HE.out];rfl⟩
end Go.Proofs.YtaebngpoagjafaaGreat
namespace Go.Proofs.YtaebngpoagjafaaGreat
open Go.RowKit
def SzC (PB:Nat) (nm:ByteArray) (ko:Option Addr) (kc:Nat) (K:List Int) (b:ByteArray) (n:Int):Prop:=∀ w,KV w PB nm ko K->Calls Tryz.prog 55 #[.pointer (some ⟨PB,0,none⟩),.string b,.slice ko K.length kc] w fun e w'=>Below w.heap.size w w'/\e=.returned (.int .i64 n)
theorem spl_len {s:ByteArray} {c:Int} (h:s.size<=2000):(spl s c).length<=2001:=by
 have:=(spS_bd s c s.size).2.1
 simp only [spl,List.length_append,List.length_cons,List.length_nil];omega
attribute [local go_sem ↓] Go.wp_at_zero Go.wp_at_succ
set_option maxHeartbeats 800000 in
theorem size_list (PB:Nat) (t a b:ByteArray) (nm:ByteArray) (ko:Option Addr) (kc:Nat) (K:List Int) (n:Int) (w:World) (hs:t.size<=2000) (h:T.ch t 0=119\/T.ch t 0=102) (h3:3<=t.size) (ha:(spl (t.extract 2 (t.size-1)) 124)[0]?=some a) (hbb:(spl (t.extract 2 (t.size-1)) 124)[1]?=some b) (hn0:0<=n) (hn1:n<=5000) (hK:KV w PB nm ko K) (ih:SzC PB nm ko kc K b n) :
   Calls Tryz.prog 55 #[.pointer (some ⟨PB,0,none⟩),.string t,.slice ko K.length kc] w fun e w'=>Below w.heap.size w w'/\e=.returned (.int .i64 (cap1 (1+((spl a 44).length:Int)+n))):=by
 obtain ⟨c,hc0⟩:∃ c,T.ch t 0=c:=⟨_,rfl⟩
 rw [hc0] at h
 obtain ⟨h0,hc⟩:=ch_get hc0 (by omega)
 have h0':(3:Int)<=(t.size:Int):=by omega
 have h1':(t.size:Int)<=2000:=by omega
 have hza:a.size<=2000:=Nat.le_trans (spl_size (List.mem_of_getElem? ha)) (by rw [ext_size t _ _ (by omega)];omega)
 have hla:=spl_len (c:=44) hza
 have e1:(c==123)=false:=by rcases h with rfl | rfl<;>rfl
 have e2:(c==64)=false:=by rcases h with rfl | rfl<;>rfl
 have e3:(c==61)=false:=by rcases h with rfl | rfl<;>rfl
 have e4:(c==116)=false:=by rcases h with rfl | rfl<;>rfl
 have e5:(c==109)=false:=by rcases h with rfl | rfl<;>rfl
 have e6:(c==103)=false:=by rcases h with rfl | rfl<;>rfl
 have IH:Hid (SzC PB nm ko kc K b n):=ih
 have HK:Hid (KV w PB nm ko K):=hK
 have hpt:=parts_any t a b w hs h3 ha hbb
 have HPT:Hid (Calls Tryz.prog 97 #[.string t] w fun e w'=>Below w.heap.size w w'/\∃ v,e=.returned (.tuple #[v,.string b])/\w'.ownsRow w.heap.size 9 1 v (spl a 44).length ((spl a 44).map Value.string)):=hpt
 clear ih hK hpt ha hbb h hc0
 go_enter Tryz.func55,Tryz.ntmps55
 go_wp2_with fail
 refine HPT.out.mono ?_
 rintro e w1 ⟨hb,v,rfl,hrow⟩
 obtain ⟨g,cap,rfl,_,hgl⟩:=str_slice hrow (spl_ne _ _)
 have HB:Hid (Below w.heap.size w w1):=hb
 have HK1:Hid (KV w1 PB nm ko K):=HK.out.below hb
 clear hb hrow
 generalize hq:(spl a 44).length=m at *
 have HN:Hid ((spl a 44).length=m):=hq
 clear hq
 go_wp2_with fail
 refine (IH.out _ HK1.out).mono ?_
 rintro e w2 ⟨hb2,rfl⟩
 have HB2:Hid (Below w.heap.size w w2):=HB.out.trans (hb2.mono HB.out.size)
 clear hb2
 go_wp2_with fail
 go_loopg [11,12] 1 (fun q x y wr=>x=.int .i64 (1+(m:Int)+n)/\y=.int .i64 0/\wr=w2)
 case atStart=>exact ⟨rfl,rfl,rfl⟩
 case round =>
   obtain ⟨rfl,rfl,rfl⟩:=hrel
   by_cases hm:m=0
   · subst hm
     go_wp2_with fail
     refine (capped_any _ _).mono ?_
     rintro e w3 ⟨hw3,rfl⟩
     subst w3
     go_wp2_with fail
     go_ret
     exact ⟨HB2.out,by rw [HN.out];rfl⟩
   · have hm2:(0:Int)<(m:Int):=by omega
     go_wp2_with fail
     refine (capped_any _ _).mono ?_
     rintro e w3 ⟨hw3,rfl⟩
     subst w3
     go_wp2_with fail
     go_ret
     exact ⟨HB2.out,by rw [HN.out];rfl⟩
def sumN (ns:Nat->Int):Nat->Int
 | 0=>0
 | j+1=>sumN ns j+ns j
theorem sumN_bd {ns:Nat->Int} (h:∀ i,0<=ns i/\ns i<=5000):∀ j,0<=sumN ns j/\sumN ns j<=5000*j:=by
 intro j
 induction j with
 | zero=>simp [sumN]
 | succ j ih=>have:=h j;simp only [sumN];omega
set_option maxHeartbeats 800000 in
theorem size_maps (PB:Nat) (t a b:ByteArray) (nm:ByteArray) (ko:Option Addr) (kc:Nat) (K:List Int) (n:Int) (ys:Nat->ByteArray) (ns:Nat->Int) (w:World) (hs:t.size<=2000) (h:T.ch t 0=109\/T.ch t 0=103) (h3:3<=t.size) (ha:(spl (t.extract 2 (t.size-1)) 124)[0]?=some a) (hbb:(spl (t.extract 2 (t.size-1)) 124)[1]?=some b) (hn0:0<=n) (hn1:n<=5000) (hK:KV w PB nm ko K) (ih:SzC PB nm ko kc K b n)
   (hy:∀ i x,(spl a 44)[i]?=some x->(spl x 58)[0]?=some (ys i)/\(ys i).size+1<=x.size) (hns:∀ i,0<=ns i/\ns i<=5000) (ihs:∀ i x,(spl a 44)[i]?=some x->SzC PB nm ko kc K (x.extract ((ys i).size+1) x.size) (ns i)) :
   Calls Tryz.prog 55 #[.pointer (some ⟨PB,0,none⟩),.string t,.slice ko K.length kc] w fun e w'=>Below w.heap.size w w'/\e=.returned (.int .i64 (cap1 (1+((spl a 44).length:Int)+n+sumN ns (spl a 44).length))):=by
 obtain ⟨c,hc0⟩:∃ c,T.ch t 0=c:=⟨_,rfl⟩
 rw [hc0] at h
 obtain ⟨h0,hc⟩:=ch_get hc0 (by omega)
 have h0':(3:Int)<=(t.size:Int):=by omega
 have h1':(t.size:Int)<=2000:=by omega
 have hza:a.size<=2000:=Nat.le_trans (spl_size (List.mem_of_getElem? ha)) (by rw [ext_size t _ _ (by omega)];omega)
 have hla:=spl_len (c:=44) hza
 have e1:(c==123)=false:=by rcases h with rfl | rfl<;>rfl
 have e2:(c==64)=false:=by rcases h with rfl | rfl<;>rfl
 have e3:(c==61)=false:=by rcases h with rfl | rfl<;>rfl
 have e4:(c==116)=false:=by rcases h with rfl | rfl<;>rfl
 have HMG:Hid ((c==109)=true\/((c==109)=false/\(c==103)=true)):=by rcases h with rfl | rfl<;>simp [Hid]
 have IH:Hid (SzC PB nm ko kc K b n):=ih
 have HY:Hid (∀ i x,(spl a 44)[i]?=some x->(spl x 58)[0]?=some (ys i)/\(ys i).size+1<=x.size):=hy
 have HI:Hid (∀ i x,(spl a 44)[i]?=some x->SzC PB nm ko kc K (x.extract ((ys i).size+1) x.size) (ns i)):=ihs
 have HK:Hid (KV w PB nm ko K):=hK
 have hpt:=parts_any t a b w hs h3 ha hbb
 have HPT:Hid (Calls Tryz.prog 97 #[.string t] w fun e w'=>Below w.heap.size w w'/\∃ v,e=.returned (.tuple #[v,.string b])/\w'.ownsRow w.heap.size 9 1 v (spl a 44).length ((spl a 44).map Value.string)):=hpt
 have HSM:Hid (∀ j,0<=sumN ns j/\sumN ns j<=5000*j):=sumN_bd hns
 clear ih hK hpt ha hbb h hc0 hy ihs hns
 go_enter Tryz.func55,Tryz.ntmps55
 go_wp2_with fail
 refine HPT.out.mono ?_
 rintro e w1 ⟨hb,v,rfl,hrow⟩
 obtain ⟨g,cap,rfl,_,hgl⟩:=str_slice hrow (spl_ne _ _)
 have HB:Hid (Below w.heap.size w w1):=hb
 have HK1:Hid (KV w1 PB nm ko K):=HK.out.below hb
 have HC1:Hid (∀ i x,(spl a 44)[i]?=some x->w1.cell? ⟨g,i,none⟩=some (.string x)):=fun i x hx=>str_cell hrow hx
 have HSZ:Hid (∀ (i:Nat) (x:ByteArray),(spl a 44)[i]?=some x->x.size<=2000):=fun i x hx=>Nat.le_trans (spl_size (List.mem_of_getElem? hx)) hza
 have HEX:Hid (∀ i,i<(spl a 44).length->∃ x,(spl a 44)[i]?=some x):=fun i hi=>⟨(spl a 44)[i],List.getElem?_eq_getElem hi⟩
 clear hb hrow
 generalize hq:(spl a 44).length=m at *
 have HN:Hid ((spl a 44).length=m):=hq
 clear hq
 go_wp2_with fail
 refine (IH.out _ HK1.out).mono ?_
 rintro e w2 ⟨hb2,rfl⟩
 have HB2:Hid (Below w1.heap.size w1 w2):=hb2
 clear hb2
 go_wp2_with fail
 go_loopg [11,12] m (fun q x y wr=>∃ j:Nat,q+j=m/\x=.int .i64 (1+(m:Int)+n+sumN ns j)/\y=.int .i64 j/\Below w1.heap.size w1 wr)
 case atStart=>exact ⟨0,by omega,by simp [sumN],rfl,HB2.out⟩
 case round =>
   obtain ⟨j,hn,rfl,rfl,hbr⟩:=hrel
   have HBR:Hid (Below w1.heap.size w1 wr):=hbr
   have hsj:=HSM.out j
   clear hbr
   by_cases hlt:j<m
   · obtain ⟨x,hx⟩:=HEX.out j hlt
     have hj0:(0:Int)<=(j:Int):=by omega
     have hj1:(j:Int)<(m:Int):=by omega
     have cx:=(HBR.out.cell (p:=⟨g,j,none⟩) hgl).trans (HC1.out j x hx)
     have hy2:=HY.out j x hx
     have hzx:=HSZ.out j x hx
     have HIx:Hid (SzC PB nm ko kc K (x.extract ((ys j).size+1) x.size) (ns j)):=HI.out j x hx
     have hsj2:=HSM.out (j+1)
     obtain ⟨sj',hsj'⟩:∃ q,sumN ns j=q:=⟨_,rfl⟩
     have HJ:Hid (sumN ns (j+1)=sj'+ns j):=by show _=_;rw [<- hsj'];rfl
     rw [hsj'] at hsj
     simp only [sumN] at hsj2
     rw [hsj'] at hsj2 ⊢
     clear hsj'
     have har:=fun wz=>arm_any x (ys j) wz hzx hy2.1 hy2.2
     have HAR:Hid (∀ wz,Calls Tryz.prog 98 #[.string x] wz fun e w'=>Below wz.heap.size wz w'/\e=.returned (.tuple #[.string (ys j),.string (x.extract ((ys j).size+1) x.size)])):=har
     have HKr:Hid (KV wr PB nm ko K):=HK1.out.below HBR.out
     clear hx hy2 har
     have hm64:(m:Int)<=2001:=by omega
     rcases HMG.out with e5 | ⟨e5,e6⟩
     · go_wp2_with fail
       refine (HAR.out _).mono ?_
       rintro e w3 ⟨hb3,rfl⟩
       have HB3:Hid (Below w1.heap.size w1 w3):=HBR.out.trans (hb3.mono HBR.out.size)
       have HK3:Hid (KV w3 PB nm ko K):=HKr.out.below hb3
       clear hb3
       go_wp2_with fail
       refine (HIx.out _ HK3.out).mono ?_
       rintro e w4 ⟨hb4,rfl⟩
       have HB4:Hid (Below w1.heap.size w1 w4):=HB3.out.trans (hb4.mono HB3.out.size)
       clear hb4
       go_wp2_with fail
       go_roundg (gk-1)
       case measure=>omega
       case rel=>exact ⟨j+1,by omega,by rw [HJ.out];go_num,by go_num,HB4.out⟩
     · go_wp2_with fail
       refine (HAR.out _).mono ?_
       rintro e w3 ⟨hb3,rfl⟩
       have HB3:Hid (Below w1.heap.size w1 w3):=HBR.out.trans (hb3.mono HBR.out.size)
       have HK3:Hid (KV w3 PB nm ko K):=HKr.out.below hb3
       clear hb3
       go_wp2_with fail
       refine (HIx.out _ HK3.out).mono ?_
       rintro e w4 ⟨hb4,rfl⟩
       have HB4:Hid (Below w1.heap.size w1 w4):=HB3.out.trans (hb4.mono HB3.out.size)
       clear hb4
       go_wp2_with fail
       go_roundg (gk-1)
       case measure=>omega
       case rel=>exact ⟨j+1,by omega,by rw [HJ.out];go_num,by go_num,HB4.out⟩
   · have hd:¬ ((j:Int)<(m:Int)):=by omega
     have hje:j=m:=by omega
     subst hje
     have HBW:Hid (Below w.heap.size w wr):=HB.out.trans (HBR.out.mono HB.out.size)
     generalize hsq:sumN ns j=sj at *
     have HSQ:Hid (sumN ns j=sj):=hsq
     clear hsq
     go_wp2_with fail
     refine (capped_any _ _).mono ?_
     rintro e w3 ⟨hw3,rfl⟩
     subst w3
     go_wp2_with fail
     go_ret
     exact ⟨HBW.out,by rw [HN.out,HSQ.out];rfl⟩
end Go.Proofs.YtaebngpoagjafaaGreat
namespace Go.Proofs.YtaebngpoagjafaaGreat
open Go.RowKit
inductive SZ (nm:ByteArray) (K:List Int):ByteArray->Int->Prop where
 | servers {t:ByteArray}:T.ch t 0=123->2<=t.size->SZ nm K t (1+((spl (t.extract 1 (t.size-1)) 44).length:Int))
 | alias {t:ByteArray}:T.ch t 0=64->SZ nm K t 1
 | name {t:ByteArray}:T.ch t 0=61->2<=t.size->SZ nm K t (knL nm (T.ch t 1) K 0)
 | ttl {t b:ByteArray} {n:Int}:T.ch t 0=116->3<=t.size->(spl (t.extract 2 (t.size-1)) 44)[1]?=some b->SZ nm K b n->SZ nm K t (cap1 (1+n))
 | list {t a b:ByteArray} {n:Int}:(T.ch t 0=119\/T.ch t 0=102)->3<=t.size->(spl (t.extract 2 (t.size-1)) 124)[0]?=some a->(spl (t.extract 2 (t.size-1)) 124)[1]?=some b->SZ nm K b n->SZ nm K t (cap1 (1+((spl a 44).length:Int)+n))
 | maps {t a b:ByteArray} {n:Int} {ys:Nat->ByteArray} {ns:Nat->Int}:(T.ch t 0=109\/T.ch t 0=103)->3<=t.size->(spl (t.extract 2 (t.size-1)) 124)[0]?=some a->(spl (t.extract 2 (t.size-1)) 124)[1]?=some b->SZ nm K b n ->
     (∀ i x,(spl a 44)[i]?=some x->(spl x 58)[0]?=some (ys i)/\(ys i).size+1<=x.size)->(∀ i,(spl a 44).length<=i->ns i=0)->(∀ i x,(spl a 44)[i]?=some x->SZ nm K (x.extract ((ys i).size+1) x.size) (ns i))->SZ nm K t (cap1 (1+((spl a 44).length:Int)+n+sumN ns (spl a 44).length))
theorem knL_bd {nm:ByteArray} {c:Int}:∀ (K:List Int) (i:Nat),(∀ k∈K,0<=k/\k<=5000)->0<=knL nm c K i/\knL nm c K i<=5000:=by
 intro K
 induction K with
 | nil=>intro i _;simp [knL]
 | cons k r ih =>
   intro i h
   simp only [knL]
   split
   · exact h k (by simp)
   · exact ih (i+1) (fun x hx=>h x (by simp [hx]))
theorem cap1_bd {n:Int} (h:0<=n):0<=cap1 n/\cap1 n<=1001:=by unfold cap1;split<;>omega
theorem size_any {nm:ByteArray} {K:List Int} {t:ByteArray} {n:Int} (h:SZ nm K t n) (PB:Nat) (ko:Option Addr) (kc:Nat) (hKb:∀ k∈K,0<=k/\k<=5000) (hnm:nm.size<=5000) (hKn:K.length<=nm.size):t.size<=2000->SzC PB nm ko kc K t n/\0<=n/\n<=5000:=by
 induction h with
 | @servers t h1 h2 =>
   intro hs
   exact ⟨fun w _=>size_servers PB _ _ w hs h1 h2,by omega,by have:=spl_len (s:=t.extract 1 (t.size-1)) (c:=44) (by rw [ext_size _ _ _ (by omega)];omega);omega⟩
 | alias h1=>intro hs;exact ⟨fun w _=>size_alias PB _ _ w h1,by decide,by decide⟩
 | @name t h1 h2=>intro hs;have:=knL_bd (nm:=nm) (c:=T.ch t 1) K 0 hKb;exact ⟨fun w hK=>size_name PB _ nm ko kc K w hs h1 h2 hKn hK hnm,this.1,by omega⟩
 | ttl h1 h2 h3 _ ih =>
   intro hs
   have hb:=Nat.le_trans (spl_size (List.mem_of_getElem? h3)) (Nat.le_trans (by rw [ext_size _ _ _ (by omega)];omega) hs)
   have hi:=ih hb
   have hc:=cap1_bd (n:=1+_) (Int.add_nonneg (by decide) hi.2.1)
   exact ⟨fun w hK=>size_ttl PB _ _ nm ko kc K _ w hs h1 h2 h3 hi.2.1 hi.2.2 hK hi.1,hc.1,by omega⟩
 | @list t a b n h1 h2 h3 h4 _ ih =>
   intro hs
   have hb:=Nat.le_trans (spl_size (List.mem_of_getElem? h4)) (Nat.le_trans (by rw [ext_size _ _ _ (by omega)];omega) hs)
   have hi:=ih hb
   refine ⟨fun w hK=>size_list PB _ _ _ nm ko kc K _ w hs h1 h2 h3 h4 hi.2.1 hi.2.2 hK hi.1,?_⟩
   have:=cap1_bd (n:=1+((spl a 44).length:Int)+n) (by have:=hi.2.1;omega)
   exact ⟨this.1,by omega⟩
 | @maps t a b n ys ns h1 h2 h3 h4 _ hy hz _ ih ihs =>
   intro hs
   have hext:(t.extract 2 (t.size-1)).size<=2000:=by rw [ext_size t _ _ (by omega)];omega
   have hb:=Nat.le_trans (spl_size (List.mem_of_getElem? h4)) hext
   have ha:=Nat.le_trans (spl_size (List.mem_of_getElem? h3)) hext
   have hi:=ih hb
   have hsub:∀ (i:Nat) (x:ByteArray),(spl a 44)[i]?=some x->(x.extract ((ys i).size+1) x.size).size<=2000:=fun i x hx=>by
     have:=Nat.le_trans (spl_size (List.mem_of_getElem? hx)) ha
     rw [ext_size x _ _ (Nat.le_refl _)];omega
   have hns:∀ i,0<=ns i/\ns i<=5000:=fun i=>by
     by_cases hlt:i<(spl a 44).length
     · have hx:(spl a 44)[i]?=some (spl a 44)[i]:=List.getElem?_eq_getElem hlt
       exact (ihs i _ hx (hsub i _ hx)).2
     · rw [hz i (by omega)];decide
   have hsum:=sumN_bd hns (spl a 44).length
   refine ⟨fun w hK=>size_maps PB t a b nm ko kc K n ys ns w hs h1 h2 h3 h4 hi.2.1 hi.2.2 hK hi.1 hy hns (fun i x hx=>(ihs i x hx (hsub i x hx)).1),?_⟩
   have:=cap1_bd (n:=1+((spl a 44).length:Int)+n+sumN ns (spl a 44).length) (by have:=hi.2.1;omega)
   exact ⟨this.1,by omega⟩
end Go.Proofs.YtaebngpoagjafaaGreat
