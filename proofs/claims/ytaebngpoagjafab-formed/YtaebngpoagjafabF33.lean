import Derived.Test.YtaebngpoagjafabF32
set_option maxRecDepth 100000
set_option maxHeartbeats 3200000
namespace Go.Proofs.Ytaebngpoagjafab
open Value renaming int → J
open Go.RowKit
attribute [local go_sem ↓] Go.wp_at_zero Go.wp_at_succ
theorem XA (s:ByteArray) (f u:Int) (w:World) (hs:s.size<=1048576) :
 Calls Try.prog 11 #[.string s,J .u8 f,J .u8 u] w fun e w'=>Below w.heap.size w w'/\e=.returned (.string (rnT s f u)):=by
 obtain ⟨i0,hi0,hz0,hz1,hz2⟩:=info_parts Try.infoByte
 go_enter Try.func11,Try.ntmps11
 go_wp2_with fail
 have hcv:=fun (w:World) (g len cap:Nat) (xs:List Int) (hl:xs.length=len) (hc:∀ i,i<len->w.cell? ⟨g,0+i,none⟩=some (J .u8 (xs.getD i 0)))=>run_convert_bytes_arg (P:=Try.prog) w 23 5 Try.underlying23 Try.underlying5 g 0 len cap xs hl hc 9 Try.underlying9
 have hcn:=fun (w:World)=>run_convert_bytes_nil (P:=Try.prog) w 23 5 Try.underlying23 Try.underlying5 0 0 9 Try.underlying9
 go_loopg [7,8,9] s.size (fun n x7 x8 y wr=>∃ (j:Nat),n+j=s.size/\y=J .i64 j/\x8=.bool (rnJ s f u j).2/\wr.ownsRow w.heap.size 5 1 x7 (rnJ s f u j).1.length ((rnJ s f u j).1.map (Value.int .u8))/\Below w.heap.size w wr)
 case atStart=>exact ⟨0,by omega,rfl,rfl,⟨rfl,.inl ⟨rfl,rfl⟩⟩,Below.refl _ _⟩
 case round =>
  obtain ⟨j,hn,rfl,rfl,hrow,hb⟩:=hrel
  have HR:Hid (wr.ownsRow w.heap.size 5 1 u7 (rnJ s f u j).1.length ((rnJ s f u j).1.map (Value.int .u8))):=hrow
  have HB:Hid (Below w.heap.size w wr):=hb
  have hbs:=hb.size
  clear hrow hb
  by_cases hlt:j<s.size
  ·have hlt':(j:Int)<(s.size:Int):=by omega
   have hj0:(0:Int)<=(j:Int):=by omega
   have hch:((s[j]).toNat:Int)=T.ch s j:=(T.ch_lt hlt).symm
   have hln:=Z8 s f u j
   have HE:Hid (rnJ s f u (j+1)=rnS f u (rnJ s f u j) (T.ch s j)):=rfl
   generalize T.ch s j=c at *
   obtain ⟨l,q,HQ⟩:∃ l q,Hid (rnJ s f u j=(l,q)):=⟨_,_,rfl⟩
   rw [HQ.out] at HR HE hln ⊢
   simp only at HR HE hln ⊢
   have hll:l.length<=1048576:=by omega
   obtain ⟨c',HC⟩:∃ c',Hid ((if q=true/\c=f then u else c)=c'):=⟨_,rfl⟩
   obtain ⟨q',HQ'⟩:∃ q',Hid ((if T.bl c'=true then q else (c'==59 || c'==61))=q'):=⟨_,rfl⟩
   have HE2:Hid (rnJ s f u (j+1)=(l++[c'],q')):=by show _=_;rw [HE.out];unfold rnS;rw [HC.out,HQ'.out]
   have HBL:Hid (T.bl c'=(c'==32 || c'==10)):=rfl
   rw [HBL.out] at HQ'
   clear HE HQ HBL hln
   go_upto_region 7 with fail
   go_cut [25] (fun s25 wx=>s25=.bool (q && c==f)/\wx=wr)
   case first =>
    cases q with
    | false =>
     go_wp2_with fail
     go_meet
     exact ⟨rfl,rfl⟩
    | true =>
     go_wp2_with fail
     go_meet
     exact ⟨rfl,rfl⟩
   case rest =>
   obtain ⟨rfl,hw0⟩:=hcut
   subst wc
   have HD:Hid ((q && c==f)=true↔q=true/\c=f):=by show _↔_;simp
   generalize (q && c==f)=d at *
   go_upto_if 25 with fail
   go_cut [10] (fun s10 wx=>s10=J .u8 c'/\wx=wr)
   case first =>
    cases d with
    | false =>
     rw [if_neg (fun h=>by have:=HD.out.2 h;cases this)] at HC
     go_wp2_with fail
     go_meet
     exact ⟨by rw [<- HC.out],rfl⟩
    | true =>
     rw [if_pos (HD.out.1 rfl)] at HC
     go_wp2_with fail
     go_meet
     exact ⟨by rw [<- HC.out],rfl⟩
   case rest =>
   obtain ⟨rfl,hw0⟩:=hcut
   subst wc
   clear HC HD
   go_upto_region 9 with fail
   go_cut [32] (fun s32 wx=>s32=.bool (c' != 32 && c' != 10)/\wx=wr)
   case first =>
    cases h32:(c' != 32) with
    | false =>
     go_wp2_with fail
     go_meet
     exact ⟨by rw [h32];rfl,rfl⟩
    | true =>
     go_wp2_with fail
     go_meet
     exact ⟨by rw [h32];rfl,rfl⟩
   case rest =>
   obtain ⟨rfl,hw0⟩:=hcut
   subst wc
   have HD:Hid ((c' != 32 && c' != 10)=!(c'==32 || c'==10)):=by show _=_;simp [bne]
   rw [HD.out]
   generalize (c'==32 || c'==10)=d at *
   go_upto_if 32 with fail
   go_cut [8] (fun s8 wx=>s8=.bool q'/\wx=wr)
   case first =>
    cases d with
    | true =>
     rw [if_pos rfl] at HQ'
     go_wp2_with fail
     go_meet
     exact ⟨by rw [<- HQ'.out],rfl⟩
    | false =>
     rw [if_neg (by simp)] at HQ'
     cases h59:(c'==59) with
     | true =>
      rw [h59] at HQ'
      go_wp2_with fail
      go_meet
      exact ⟨by rw [<- HQ'.out];rfl,rfl⟩
     | false =>
      rw [h59] at HQ'
      go_wp2_with fail
      go_meet
      exact ⟨by rw [<- HQ'.out];rfl,rfl⟩
   case rest =>
   obtain ⟨rfl,hw0⟩:=hcut
   subst wc
   clear HQ'
   go_wp2_with (at_builtin;refine wpList_append_lies _ rfl _ _ 23 rfl w.heap.size 5 i0 _ 1 1 Try.underlying23 hi0 hz0 hz1 hz2 rfl (by decide) u7 _ _ rfl (HR.out.alloc _) ⟨wr.heap.size,0,none⟩ 1 1 [J .u8 c'] rfl rfl (World.news_of_block (cs:=#[J .u8 c']) (t:=5) (fr:=(0,0)) (heap_alloc_new wr _)) (xc _) (Nat.lt_succ_self 0) (by unfold maxLen;omega) (by omega) (by simp;omega) (wr.heap.size+1) (by simp) ?_;intro g4 cap4 w4 hown4 hgrow4 hat4 hlt4)
   have HR4:Hid (w4.ownsRow w.heap.size 5 1 (.slice (some ⟨g4,0,none⟩) (l.length+1) cap4) (l++[c']).length ((l++[c']).map (Value.int .u8))):=by
    show World.ownsRow _ _ _ _ _ _ _
    rw [List.length_append,List.map_append]
    exact hown4
   have HB4:Hid (Below w.heap.size w w4):=(HB.out.alloc hbs _).grown hgrow4 (by simp;omega) (fun k hk=>(HR.out.lt k hk).1)
   clear hown4 hgrow4 hat4
   go_roundg (gk-1)
   case measure=>omega
   case rel=>exact ⟨j+1,by omega,by go_num,by rw [HE2.out],by rw [HE2.out];exact HR4.out,HB4.out⟩
  ·have hlt':¬ (j:Int)<(s.size:Int):=by omega
   have hje:j=s.size:=by omega
   subst hje
   rcases HR.out.2 with ⟨h1,h2⟩ | ⟨g,cap,cur,h1,h2,h3,h4,h5,h6,h7⟩
   ·subst h1
    have HE:Hid (rnT s f u=ByteArray.empty):=by show _=_;unfold rnT;rw [List.eq_nil_of_length_eq_zero h2];rfl
    have hcn':=hcn wr
    go_wp2_with fail
    go_ret
    exact ⟨HB.out,by rw [HE.out];rfl⟩
   ·subst h1
    have hcv':=hcv wr g (rnJ s f u s.size).1.length cap (rnJ s f u s.size).1 rfl (fun i hi=>by
     have:=World.ownsRow.cellAt HR.out i (by omega)
     rw [Nat.zero_add,this]
     simp [hi])
    have HE:Hid (strOfNums (rnJ s f u s.size).1=rnT s f u):=rfl
    rw [HE.out] at hcv'
    go_wp2_with fail
    go_ret
    exact ⟨HB.out,rfl⟩
theorem XG:∀ (l m:List Int),l.Nodup->(∀ x∈l,x∈m)->l.length<=m.length:=by
 intro l
 induction l with
 | nil=>intro m _ _;simp
 | cons x l ih =>
  intro m h1 h2
  have hx:x∈m:=h2 x (by simp)
  rw [List.nodup_cons] at h1
  have:=ih (m.erase x) h1.2 (fun y hy=>(List.mem_erase_of_ne (fun e=>h1.1 (by rw [<- e];exact hy))).2 (h2 y (by simp [hy])))
  rw [List.length_erase_of_mem hx] at this
  have:=List.length_pos_of_mem hx
  simp only [List.length_cons]
  omega
theorem zak:∀ (l pre:List RL),(∀ err a,¬ FRs pre l err a)->(∀ x∈pre++l,0<=x.ex)->(pre.map RL.nv).Nodup->((pre++l).map RL.nv).Nodup:=by
 intro l
 induction l with
 | nil=>intro pre _ _ h;simpa using h
 | cons x l ih =>
  intro pre h1 h2 h3
  have hx:zO x.nv pre=-1:=by
   cases Decidable.em (zO x.nv pre=-1) with
   | inl h=>exact h
   | inr h=>exact absurd (.inl ⟨h,rfl,rfl⟩) (h1 5 x.na)
  have hni:∀ y∈pre,y.nv≠x.nv:=fun y hy e=>by
   have key:∀ (q:List RL),y∈q->(∀ z∈q,0<=z.ex)->zO x.nv q≠-1:=by
    intro q
    induction q with
    | nil=>intro h;cases h
    | cons z q ihq =>
     intro h hz
     simp only [zO]
     split
     ·have:=hz z (by simp);omega
     ·next hn =>
      rcases List.mem_cons.1 h with rfl | h
      ·exact absurd e hn
      ·exact ihq h (fun w hw=>hz w (by simp [hw]))
   exact key pre hy (fun z hz=>h2 z (by simp [hz])) hx
  have e1:pre++x::l=(pre++[x])++l:=by simp
  rw [e1] at h2 ⊢
  refine ih (pre++[x]) (fun err a h=>h1 err a (.inr h)) h2 ?_
  rw [List.map_append,List.nodup_append]
  refine ⟨h3,by simp,fun a ha b hb e=>?_⟩
  simp only [List.map_cons,List.map_nil,List.mem_singleton] at hb
  obtain ⟨y,hy,rfl⟩:=List.mem_map.1 ha
  exact hni y hy (by rw [e,hb])
def frT (s:ByteArray) (u:Int):ByteArray:=strOfNums [u]++⟨#[58,64,48,59]⟩++s
theorem xj (s:ByteArray) (u:Int):(frT s u).size=s.size+5:=by
 unfold frT
 simp only [ByteArray.size_append,strOfNums_size]
 show 1+4+s.size=_
 omega
theorem q8 (a b:ByteArray) (j:Nat):T.ch (a++b) j=if j<a.size then T.ch a j else T.ch b (j-a.size):=by
 have hs:(a++b).size=a.size+b.size:=ByteArray.size_append
 by_cases h:j<a.size
 ·rw [if_pos h,T.ch_lt h,T.ch_lt (by omega),ByteArray.getElem_append_left h]
 ·rw [if_neg h]
  by_cases h2:j<a.size+b.size
  ·rw [T.ch_lt (show j-a.size<b.size by omega),T.ch_lt (by omega),ByteArray.getElem_append_right (by omega)]
  ·rw [T.ch_ge (by omega),T.ch_ge (by omega)]
theorem zaG (s:ByteArray) {u:Int} (hu:97<=u/\u<=122):Fro s (frT s u) u:=by
 have b1:Byt [u]:=fun x hx=>by simp at hx;omega
 have z1:(strOfNums [u]).size=1:=by rw [strOfNums_size];rfl
 have z2:(⟨#[58,64,48,59]⟩:ByteArray).size=4:=rfl
 have z3:(strOfNums [u]++(⟨#[58,64,48,59]⟩:ByteArray)).size=5:=by rw [ByteArray.size_append,z1,z2]
 have hc:∀ j,T.ch (frT s u) j=if j<5 then (if j<1 then T.ch (strOfNums [u]) j else T.ch ⟨#[58,64,48,59]⟩ (j-1)) else T.ch s (j-5):=fun j=>by
  unfold frT
  rw [q8,z3,q8,z1]
 refine ⟨xj s u,fun j hj=>by rw [hc,if_neg (by omega),Nat.add_sub_cancel],?_,?_,?_,?_,?_⟩
 ·rw [hc,if_pos (by omega),if_pos (by omega),yv b1];rfl
 ·rw [hc,if_pos (by omega),if_neg (by omega)];rfl
 ·rw [hc,if_pos (by omega),if_neg (by omega)];rfl
 ·rw [hc,if_pos (by omega),if_neg (by omega)];rfl
 ·rw [hc,if_pos (by omega),if_neg (by omega)];rfl
def Cod (s t:ByteArray):Prop:=cpE t=0/\cpX t=cpX s
theorem X4.cod {s t:ByteArray} (h:X4 s t) (hf:cpE s=0):Cod s t:=⟨h.ce.trans hf,h.cx (qC hf).1⟩
structure Frm (s:ByteArray) (wh:Int) (nm:List Int):Prop where
 le:(leJ s s.size).1=nm
 l0:1<=nm.length
 l1:nm.length<=2000
 sz:s.size<=2000
 bl:(spT s wh).size<=2000->Cod s (spT s wh)
 all:UnF nm 0->nm.length=26
 rn:∀ u f,97<=u->u<=122->u ∉ nm->f∈nm->Cod s (rnT s f u)
 fr:∀ u,97<=u->u<=122->u ∉ nm->s.size+5<=2000->Cod s (frT s u)
theorem zaH {s:ByteArray} (wh:Int) (hf:cpE s=0):∃ nm,Frm s wh nm:=by
 have h0:=(qC hf).1
 obtain ⟨Y,hp⟩:=jz h0
 have hn:=hp.nms h0
 obtain ⟨_,_,_,hF⟩:=yF h0
 have hl:∀ x∈(zk s).rs.map RL.nv,97<=x/\x<=122:=fun x hx=>by
  obtain ⟨r,h1,rfl⟩:=List.mem_map.1 hx
  exact hn.let_ r h1
 have hnr:∀ u,u ∉ (zk s).rs.map RL.nv->∀ r∈(zk s).rs,r.nv≠u:=fun u hu r hr e=>hu (by rw [<- e];exact List.mem_map_of_mem hr)
 obtain ⟨a,r,hr1,_,_⟩:=hn.last
 have hlen:=qV s s.size
 refine ⟨(zk s).rs.map RL.nv,hn.le,by rw [hr1];simp,?_,(yF h0).1,fun h=>?_,fun h=>?_,fun u f u1 u2 u3 hfm=>?_,fun u u1 u2 u3 hs=>?_⟩
 ·rw [hn.le] at hlen
  have:=(yF h0).1
  omega
 ·exact (jr ((jm s wh).alike h).1 ((jm s wh).alike h).2).cod hf
 ·have hnd:((zk s).rs.map RL.nv).Nodup:=by
   have:=zak (zk s).rs [] (fun err a h=>by
    rcases Zo (zk s).es (zk s).rs with ⟨_,h2⟩ | ⟨h1,_⟩
    ·exact h2 err a (.inr h)
    ·exact absurd hF h1) (fun x hx=>hn.ex x (by simpa using hx)) (by simp)
   simpa using this
  have hall:∀ c,97<=c->c<=122->c∈(zk s).rs.map RL.nv:=by
   rcases h with ⟨_,h⟩ | ⟨h,_⟩
   ·exact h
   ·omega
  have e1:=XG _ ((List.range 26).map (fun i:Nat=>(97+i:Int))) hnd (fun x hx=>by
   have:=hl x hx
   refine List.mem_map.2 ⟨(x-97).toNat,List.mem_range.2 (by omega),by omega⟩)
  have e2:=XG ((List.range 26).map (fun i:Nat=>(97+i:Int))) ((zk s).rs.map RL.nv) (by decide) (fun x hx=>by
   obtain ⟨i,hi,rfl⟩:=List.mem_map.1 hx
   have:=List.mem_range.1 hi
   exact hall _ (by omega) (by omega))
  have e3:((List.range 26).map (fun i:Nat=>(97+i:Int))).length=26:=by rw [List.length_map,List.length_range]
  omega
 ·have h:=(zaw s (hl f hfm) ⟨u1,u2⟩).alike h0 hn (hnr u u3)
  exact (jr h.1 h.2).cod hf
 ·have h:=(zaG s ⟨u1,u2⟩).alike h0 hn ⟨u1,u2⟩ (hnr u u3) (by rw [xj];exact hs)
  exact (jr h.1 h.2).cod hf
theorem Xh (s t:ByteArray) (w:World) (hf:cpE s=0) (ht:Cod s t) :
 Calls Try.prog 7 #[.string s,.string t] w fun e w'=>e=.returned (.bool true)/\Below w.heap.size w w':=by
 have HLN:Hid _:=qC hf
 have HC1:Hid (∀ wz,Calls Try.prog 5 #[.string s] wz (Jz wz 0 (cpX s))):=fun wz=>by have:=Z5 s wz;rw [hf] at this;exact this
 have HC2:Hid (∀ wz,Calls Try.prog 5 #[.string t] wz (Jz wz 0 (cpX s))):=fun wz=>by have:=Z5 t wz;rw [ht.1,ht.2] at this;exact this
 obtain ⟨-,-,hx1,hx2⟩:=HLN.out
 clear hf ht HLN
 generalize cpX s=X at *
 have hcv:=fun (w:World) (g cap:Nat) (h:∀ i,i<X.length->w.cell? ⟨g,0+i,none⟩=some (J .u8 (X.getD i 0)))=>run_convert_bytes_arg (P:=Try.prog) w 23 5 Try.underlying23 Try.underlying5 g 0 X.length cap X rfl h 9 Try.underlying9
 go_enter Try.func7,Try.ntmps7
 go_wp2_with fail
 refine (HC1.out _).mono ?_
 rintro e w1 ⟨hb1,o1,m1,k1,rfl,_,h1⟩
 obtain ⟨rfl,hr1⟩:=h1 rfl
 go_wp2_with fail
 refine (HC2.out _).mono ?_
 rintro e w2 ⟨hb2,o2,m2,k2,rfl,_,h2⟩
 obtain ⟨rfl,hr2⟩:=h2 rfl
 have HB:Hid (Below w.heap.size w w2):=hb1.trans (hb2.mono hb1.size)
 have hr1':=zx hr1 (fun g hg=>hb2.block g (hr1.lt g hg).2)
 have hp1:(0:Int)<(X.length:Int):=by omega
 rcases hr1'.2 with ⟨_,h⟩ | ⟨g1,c1,cur1,e1,_⟩
 ·omega
 rcases hr2.2 with ⟨_,h⟩ | ⟨g2,c2,cur2,e2,_⟩
 ·omega
 cases e1
 cases e2
 have hcA:=hcv w2 g1 k1 (fun i hi=>by rw [Nat.zero_add,World.ownsRow.cellAt hr1' i (by omega)];simp [hi])
 have hcB:=hcv w2 g2 k2 (fun i hi=>by rw [Nat.zero_add,World.ownsRow.cellAt hr2 i (by omega)];simp [hi])
 clear hr1 hr2 hr1' hb1 hb2 h1 h2 hcv
 go_wp2_with fail
 go_ret
 exact ⟨rfl,HB.out⟩
theorem XQ (s:ByteArray) (wh wi:Int) (w:World) (r0:-9223372036854775808<=wh) (r1:wh<=9223372036854775807) (i0:-9223372036854775808<=wi) (i1:wi<=9223372036854775807) :
 Calls Try.prog 3 #[.string s,J .i64 wh,J .i64 wi] w fun e w'=>e=.returned (.bool true)/\Below w.heap.size w w':=by
 have HF:Hid _:=fun wz=>jR s wz
 have HFE:Hid (XR s=(cpE s==0)):=rfl
 have HCP:Hid (∀ wz,Calls Try.prog 5 #[.string s] wz (Jz wz (cpE s) (cpX s))):=fun wz=>Z5 s wz
 have HSP:Hid _:=fun (h:s.size<=1048576) wz=>qb s wh wz h r0 r1
 have HFM:Hid _:=fun h=>zaH (s:=s) wh h
 have HLT:Hid _:=fun (h:s.size<=1048576) wz=>XJ s wz h
 have HSC:Hid _:=fun h t ht wz=>Xh s t wz h ht
 have HRN:Hid _:=fun (h:s.size<=1048576) f u wz=>XA s f u wz h
 have HPK:Hid _:=fun (n:Int) wz h1 h2=>xJ wi n wz i0 i1 h1 h2
 generalize XR s=F at *
 have hnil:=fun wz=>JU 23 5 Try.underlying23 wz
 clear r0 r1 i0 i1
 go_enter Try.func3,Try.ntmps3
 go_wp2_with fail
 refine (HF.out _).mono ?_
 rintro e w1 ⟨rfl,hb⟩
 have HB1:Hid (Below w.heap.size w w1):=hb
 clear hb
 cases F with
 | false =>
  have hE:(cpE s==0)=false:=HFE.out.symm
  have hE0:cpE s≠0:=by simpa using hE
  have hE':(cpE s != 0)=true:=by simp [bne,hE]
  go_wp2_with fail
  refine (HCP.out _).mono ?_
  rintro e w2 ⟨hb,o,m,k,rfl,hne,_⟩
  obtain ⟨rfl,rfl,rfl⟩:=hne hE0
  have HB2:Hid (Below w.heap.size w w2):=HB1.out.trans (hb.mono HB1.out.size)
  clear hb hne
  generalize cpE s=E at *
  go_wp2_with fail
  go_ret
  exact ⟨rfl,HB2.out⟩
 | true =>
  have hE0:cpE s=0:=by have:=HFE.out;simpa using this.symm
  obtain ⟨nm,hfm⟩:=HFM.out hE0
  have HSC:=HSC.out hE0
  have hs:=hfm.sz
  have HM:Hid (Frm s wh nm):=hfm
  clear HFM hfm HFE HCP hE0 hnil
  go_wp2_with fail
  refine (HSP.out (by omega) _).mono ?_
  rintro e w2 ⟨hb,rfl⟩
  have HB2:Hid (Below w.heap.size w w2):=HB1.out.trans (hb.mono HB1.out.size)
  clear hb
  have HBL:=HM.out.bl
  generalize spT s wh=t at *
  go_upto_if 36 with fail
  go_cut [] (fun wx=>Below w.heap.size w wx)
  case first =>
   by_cases hts:t.size<=2000
   ·have hts':(t.size:Int)<=2000:=by omega
    go_wp2_with fail
    refine (HSC t (HBL hts) _).mono ?_
    rintro e w3 ⟨rfl,hb⟩
    have HB3:Hid (Below w.heap.size w w3):=HB2.out.trans (hb.mono HB2.out.size)
    clear hb
    go_wp2_with fail
    go_meet
    exact HB3.out
   ·have hts':¬ (t.size:Int)<=2000:=by omega
    go_wp2_with fail
    go_meet
    exact HB2.out
  case rest =>
  obtain ⟨w3,hw3⟩:∃ w3,w3=wc:=⟨_,rfl⟩
  subst hw3
  have HB3:Hid (Below w.heap.size w w3):=hcut
  have HL:=HLT.out (by omega) w3
  rw [HM.out.le] at HL
  have hn0:=HM.out.l0
  have hn1:=HM.out.l1
  clear hcut HBL HB2 HLT HSP
  go_wp2_with fail
  refine HL.mono ?_
  rintro e w4 ⟨hb,o4,k4,rfl,hrow⟩
  have HB4:Hid (Below w.heap.size w w4):=HB3.out.trans (hb.mono HB3.out.size)
  clear hb HL
  rcases hrow.2 with ⟨_,h2⟩ | ⟨g,cap,cur,h1,-,h3,-⟩
  ·omega
  cases h1
  have hcel:∀ i y,nm[i]?=some y->w4.cell? ⟨g,i,none⟩=some (J .u8 y):=fun i y hy=>by
   have hi:=(List.getElem?_eq_some_iff.1 hy).1
   rw [World.ownsRow.cellAt hrow i (by omega),List.getElem?_map,hy]
   rfl
  have HUN:=X6 (some ⟨g,0,none⟩) g k4 nm w4 (by omega) (fun _=>rfl) hcel
  have hg4:g<w4.heap.size:=lt_of_block h3
  clear hrow h3
  go_wp2_with fail
  refine HUN.mono ?_
  rintro e w' ⟨hw',u,rfl,hu⟩
  subst w'
  clear HUN
  by_cases hu0:u=0
  ·subst hu0
   have h26:=HM.out.all hu
   have h26':((nm.length:Int)==26)=true:=by simp;omega
   clear hcel
   go_wp2_with fail
   go_ret
   exact ⟨rfl,HB4.out⟩
  ·have hu0':(u==0)=false:=by simp [hu0]
   obtain ⟨u1,u2,u3⟩:97<=u/\u<=122/\u ∉ nm:=by
    rcases hu with ⟨h,_⟩ | h
    ·exact absurd h hu0
    ·exact h
   have hpb:=qj (c:=wi) (n:=(nm.length:Int)) (by omega)
   have HP:=HPK.out (nm.length:Int) w4 (by omega) (by omega)
   obtain ⟨j,hj⟩:∃ j:Nat,pkF wi nm.length=(j:Int):=⟨(pkF wi nm.length).toNat,by omega⟩
   rw [hj] at HP hpb
   have hjl:j<nm.length:=by omega
   have hcj:=hcel j nm[j] (List.getElem?_eq_getElem hjl)
   have HCR:=HM.out.rn u nm[j] u1 u2 u3 (List.getElem_mem hjl)
   have HCF:=HM.out.fr u u1 u2 u3
   generalize nm[j]=f at *
   have hn00:((nm.length:Int)==0)=false:=beq_eq_false_iff_ne.2 (by omega)
   clear hu hj hcel HPK HM
   go_wp2_with fail
   refine HP.mono ?_
   rintro e w' ⟨rfl,hw'⟩
   subst w'
   go_wp2_with fail
   refine (HRN.out (by omega) f u _).mono ?_
   rintro e w5 ⟨hb,rfl⟩
   have HB5:Hid (Below w.heap.size w w5):=HB4.out.trans (hb.mono HB4.out.size)
   clear hb
   go_wp2_with fail
   refine (HSC _ HCR _).mono ?_
   rintro e w6 ⟨rfl,hb⟩
   have HB6:Hid (Below w.heap.size w w6):=HB5.out.trans (hb.mono HB5.out.size)
   have HB7:Hid (Below w.heap.size w (w6.alloc (.cells #[J .u8 u] 5))):=HB6.out.alloc HB6.out.size _
   clear hb HP HCR hcj
   have hc1:=run_convert_bytes_arg (P:=Try.prog) (w6.alloc (.cells #[J .u8 u] 5)) 23 5 Try.underlying23 Try.underlying5 w6.heap.size 0 1 1 [u] rfl (fun i hi=>by obtain rfl:i=0:=(by omega);exact cell_of_row _ _ _ _ _ _ (heap_alloc_new w6 _)) 9 Try.underlying9
   have hy0:(strOfNums [u]).size=1:=by rw [strOfNums_size];rfl
   have hy1:(strOfNums [u]++(⟨#[58,64,48,59]⟩:ByteArray)).size=5:=by rw [ByteArray.size_append,hy0];rfl
   have HFT:Hid (strOfNums [u]++(⟨#[58,64,48,59]⟩:ByteArray)++s=frT s u):=rfl
   have HFS:Hid ((frT s u).size=s.size+5):=xj s u
   go_upto_region 19 with fail
   rw [HFT.out]
   generalize frT s u=t2 at *
   generalize w6.alloc (.cells #[J .u8 u] 5)=w7 at *
   have hts:=HFS.out
   by_cases h20:s.size+5<=2000
   ·have h20':¬ (2000:Int)<(t2.size:Int):=by omega
    go_wp2_with fail
    refine (HSC _ (HCF h20) _).mono ?_
    rintro e w8 ⟨rfl,hb⟩
    have HB8:Hid (Below w.heap.size w w8):=HB7.out.trans (hb.mono HB7.out.size)
    clear hb
    go_wp2_with fail
    go_ret
    exact ⟨rfl,HB8.out⟩
   ·have h20':(2000:Int)<(t2.size:Int):=by omega
    go_wp2_with fail
    go_ret
    exact ⟨rfl,HB7.out⟩
end Go.Proofs.Ytaebngpoagjafab
