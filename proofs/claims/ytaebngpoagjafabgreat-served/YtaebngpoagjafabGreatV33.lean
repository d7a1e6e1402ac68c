import Derived.Test.YtaebngpoagjafabGreatV32
set_option maxRecDepth 100000
set_option maxHeartbeats 1600000
namespace Go.Proofs.YtaebngpoagjafabGreat
open Obj renaming cells → X
open Value renaming int → J, slice → O
open IntKind renaming i64 → Z
open Go.RowKit
attribute [local go_sem ↓] Go.wp_at_zero Go.wp_at_succ
section
theorem Zy {P:Program} (w:World) (t ty e:TypeId) (i:TypeInfo) (ht:P.underlying t=some (.slice e)) (hi:P.info? e=some i) (so:Option Addr) (n cap:Nat) (xo:Option Addr) (c:Nat) (hn:n<=cap) :
 (Builtin.append_ #[t,t] ty #[O so n cap,O xo 0 c]).run P w=.ok (O so n cap) w:=by
 have hfc:Sem.run P (Builtin.firstCells i.size 0 (O xo 0 c)) w=.ok #[] w:=by
  cases xo with
  | none=>simp [Builtin.firstCells]
  | some a=>exact run_firstCells_some (P:=P) w i.size 0 a 0 c [] (by simp) (fun j u hu=>by simp at hu)
 cases so with
 | none=>simp [Builtin.append_,run_underlying ht,sizeOf,typeInfo,hi,Builtin.lenOf,hn,hfc]
 | some a =>
  have hst:Sem.run P (storeCells (a.add (n*i.size)) []) w=.ok () w:=by simp [storeCells]
  simp [Builtin.append_,run_underlying ht,sizeOf,typeInfo,hi,Builtin.lenOf,hn,hfc,hst]
theorem zY {w:World} {base e size:Nat} {v:Value} {n:Nat} {xs:List Value} (h:w.ownsRow base e size v n xs):∃ o c,v=O o n c/\n<=c:=by
 rcases h.2 with ⟨rfl,rfl⟩ | ⟨g,cap,cur,rfl,_,_,hc,_⟩
 ·exact ⟨none,0,rfl,Nat.le_refl _⟩
 ·exact ⟨some ⟨g,0,none⟩,cap,rfl,hc⟩
section
theorem YW {P:Program} (w:World) {o:Oper} {a:Act} (s x:Operand) (t:TypeId) (ho:o.op=.call { callee:=.builtin .append,args:=#[s,x],argTypes:=#[t,t] }) (base:Nat) (e:TypeId) (i:TypeInfo) (z:Value) (size bytes:Nat) (ht:P.underlying t=some (.slice e)) (hi:P.info? e=some i) (hz:i.zero=some z) (hsize:i.size=size) (hby:i.bytes=bytes) (hzs:z.cells.size=size) (hsz:0<size) (v:Value) (n:Nat) (xs:List Value) (hs:a.eval s=v) (hown:w.ownsRow base e size v n xs) (xo:Option Addr) (m c:Nat) (news:List Value) (hx:a.eval x=O xo m c) (hl:news.length=m*size) (hsrc:0<m->∃ ad,xo=some ad/\∀ j u,news[j]?=some u->w.cell? (ad.add j)=some u) (h1:∀ u∈news,u.oneCell'=true) (h63:n+m<=maxLen) (hbytes:(n+m)*bytes<=140737488355328) (hbase:base<=w.heap.size) (H:Nat) (hH:w.heap.size=H) {K:Act->World->Prop} {Q:Exit->Act->World->Prop}
 (h:∀ oo cap w',w'.ownsRow base e size (O oo (n+m) cap) (n+m) (xs++news)->w.grownBy w' v.ownBlock->((O oo (n+m) cap).ownBlock=v.ownBlock\/(O oo (n+m) cap).ownBlock=some H)->K (a.put o.dst (O oo (n+m) cap)) w'):o.wp P a w K Q:=by
 rcases Nat.eq_zero_or_pos m with hm | hm
 ·subst hm
  have hne:news=[]:=List.eq_nil_of_length_eq_zero (by simpa using hl)
  subst hne
  obtain ⟨so,cap,rfl,hn⟩:=zY hown
  have hrun:=Zy (P:=P) w t o.type e i ht hi so n cap xo c hn
  unfold Oper.wp
  simp [execOp,ho,resolve,invoke,builtin,hs,hx,hrun,Result.andThen]
  have:=h so cap w (by simpa using hown) ⟨rfl,rfl,rfl,Nat.le_refl _,fun _ _ _=>rfl⟩ (.inl rfl)
  have h2:K (a.put o.dst (O so n cap)) w:=by simpa using this
  exact h2
 ·obtain ⟨ad,rfl,hnews⟩:=hsrc hm
  refine wp_append_lies w s x t ho base e i z size bytes ht hi hz hsize hby hzs hsz v n xs hs hown ad m c news hx hl hnews h1 hm h63 hbytes hbase H hH (fun g' cap w' q1 q2 q3 _=>h _ _ _ q1 q2 ?_)
  rcases q3 with q3 | q3
  ·exact .inl q3.symm
  ·exact .inr (by rw [q3];rfl)
theorem xi {P:Program} (w:World) {o:Oper} {a:Act} (s x:Operand) (t:TypeId) (ho:o.op=.call { callee:=.builtin .append,args:=#[s,x],argTypes:=#[t,t] }) (base:Nat) (e:TypeId) (i:TypeInfo) (z:Value) (size bytes:Nat) (ht:P.underlying t=some (.slice e)) (hi:P.info? e=some i) (hz:i.zero=some z) (hsize:i.size=size) (hby:i.bytes=bytes) (hzs:z.cells.size=size) (hsz:0<size) (v:Value) (n:Nat) (xs:List Value) (hs:a.eval s=v) (hown:w.ownsRow base e size v n xs) (xo:Option Addr) (m c:Nat) (news:List Value) (hx:a.eval x=O xo m c) (hl:news.length=m*size) (hsrc:0<m->∃ ad,xo=some ad/\∀ j u,news[j]?=some u->w.cell? (ad.add j)=some u) (h1:∀ u∈news,u.oneCell'=true) (h63:n+m<=maxLen) (hbytes:(n+m)*bytes<=140737488355328) (hbase:base<=w.heap.size) (H:Nat) (hH:w.heap.size=H) {ops:Array Oper} {rest:List Oper} {Q:Exit->Act->World->Prop} (hgd:o.guard=none)
 (h:∀ oo cap w',w'.ownsRow base e size (O oo (n+m) cap) (n+m) (xs++news)->w.grownBy w' v.ownBlock->((O oo (n+m) cap).ownBlock=v.ownBlock\/(O oo (n+m) cap).ownBlock=some H)->wpList P ops Q rest (a.put o.dst (O oo (n+m) cap)) w'):wpList P ops Q (o::rest) a w :=
 wpList_plain hgd fun _ hK=>YW w s x t ho base e i z size bytes ht hi hz hsize hby hzs hsz v n xs hs hown xo m c news hx hl hsrc h1 h63 hbytes hbase H hH fun oo cap w' h2 h3 h4=>hK _ _ (h oo cap w' h2 h3 h4)
theorem Xk {P:Program} (w:World) {o:Oper} {a:Act} (s x:Operand) (t:TypeId) (ho:o.op=.call { callee:=.builtin .append,args:=#[s,x],argTypes:=#[t,t] }) (base:Nat) (e:TypeId) (i:TypeInfo) (z:Value) (size bytes:Nat) (ht:P.underlying t=some (.slice e)) (hi:P.info? e=some i) (hz:i.zero=some z) (hsize:i.size=size) (hby:i.bytes=bytes) (hzs:z.cells.size=size) (hsz:0<size) (v:Value) (n:Nat) (xs:List Value) (hs:a.eval s=v) (hown:w.ownsRow base e size v n xs) (xo:Option Addr) (m c:Nat) (news:List Value) (hx:a.eval x=O xo m c) (hl:news.length=m*size) (hsrc:0<m->∃ ad,xo=some ad/\∀ j u,news[j]?=some u->w.cell? (ad.add j)=some u) (h1:∀ u∈news,u.oneCell'=true) (h63:n+m<=maxLen) (hbytes:(n+m)*bytes<=140737488355328) (hbase:base<=w.heap.size) (H:Nat) (hH:w.heap.size=H) {ops:Array Oper} {K:Act->World->Prop} {Q:Exit->Act->World->Prop} {E:Prop} (hgd:o.guard=none)
 (h:∀ oo cap w',w'.ownsRow base e size (O oo (n+m) cap) (n+m) (xs++news)->w.grownBy w' v.ownBlock->((O oo (n+m) cap).ownBlock=v.ownBlock\/(O oo (n+m) cap).ownBlock=some H)->K (a.put o.dst (O oo (n+m) cap)) w') :
 if Region.wanted o (yielded ops a.tmps)=true then Oper.wp P o a w K Q else E:=by
 have hw:Region.wanted o (yielded ops a.tmps)=true:=by simp [Region.wanted,hgd]
 rw [if_pos hw]
 exact YW w s x t ho base e i z size bytes ht hi hz hsize hby hzs hsz v n xs hs hown xo m c news hx hl hsrc h1 h63 hbytes hbase H hH h
end
end
section
theorem Tryz.infoMember:(Tryz.prog.info? 203).map (fun i=>(i.zero,i.size,i.bytes))=some (some (.agg #[J Z 0,J Z 0]),2,16):=by kernel_rfl
theorem zdb (C:List Int) (r:RD):∀ i,r.p<=(meR C r i).p/\(meR C r i).p<=r.p+3*i:=by
 intro i
 induction i with
 | zero=>simp [meR]
 | succ i ih=>have h1:=Za C (meR C r i) 1 0 63;have h2:=Za C (num C (meR C r i) 1 0 63) 2 1 1000;simp only [meR];omega
theorem jZ (l:List (Int×Int)) (x:Int×Int):suL (l++[x])=suL l+x.2:=by
 induction l with
 | nil=>simp [suL]
 | cons y l ih=>simp only [List.cons_append,suL,ih];omega
theorem zdt {W:RW} {C:List Int} (h:∀ x∈C,0<=x/\x<256) (r:RD):∀ i,(meL W C r i).length<=i/\0<=suL (meL W C r i)/\suL (meL W C r i)<=65535*i/\∀ x∈meL W C r i,0<=x.2/\x.2<=65535:=by
 intro i
 induction i with
 | zero=>simp [meL,suL]
 | succ i ih =>
  obtain ⟨h1,h2,h3,h4⟩:=ih
  have hb:=xw h (num C (meR C r i) 1 0 63)
  simp only [meL]
  split
  ·rw [jZ]
   refine ⟨by simp;omega,by simp only [meW];omega,by simp only [meW];omega,fun x hx=>?_⟩
   rcases List.mem_append.1 hx with hx | hx
   ·exact h4 x hx
   ·simp only [List.mem_singleton] at hx;subst hx;exact hb
  ·exact ⟨by omega,h2,by omega,h4⟩
def mbC (l:List (Int×Int)):List Value:=l.flatMap (fun x=>[J Z x.1,J Z x.2])
theorem q8 (l:List (Int×Int)) (x:Int×Int):mbC (l++[x])=mbC l++[J Z x.1,J Z x.2]:=by simp [mbC]
section
variable {w:World} {base B:Nat} {co:Option Addr} {cb coff cc:Nat} {C:List Int} {W:RW} {D:Array Value} {av sv:Value} {s:RT}
theorem RM.drew (h:RM w base B co cb coff cc C W D av sv s):RM w.drew base B co cb coff cc C W D av sv s:=⟨h.blk,h.dsz,h.dn,h.row,h.hB,⟨h.code.at_,h.code.lt,h.code.val,h.code.byt⟩⟩
theorem RM.grown {w4:World} {row:Option Nat} (h:RM w base B co cb coff cc C W D av sv s) (hg:w.grownBy w4 row) (h1:row≠some B) (h2:sv.ownBlock=none\/sv.ownBlock≠row) (h3:∀ k,row=some k->base<=k):RM w4 base B co cb coff cc C W D av sv s :=
 ⟨(hg.block B h.lt (fun e=>h1 e.symm)).trans h.blk,h.dsz,h.dn,h.row.kept hg h2,h.hB,h.code.of_kept (fun b hb=>hg.block b (by have:=h.bs;omega) (fun e=>by have:=h3 b e.symm;omega))⟩
end
theorem za0 (base B:Nat) (co:Option Addr) (cb coff cc:Nat) (C:List Int) (W:RW) (D:Array Value) (av sv:Value) (s:RT) (w:World) (hp:s.r.p<=900000000000000000-10000) (hl:s.sv.length<=100000) (hd:0<=W.draw) (h:RM w base B co cb coff cc C W D av sv s) :
 Calls Tryz.prog 107 #[.pointer (some ⟨B,0,none⟩)] w fun e w'=>e=.returned (.bool (Zf W C s).2)/\(∃ sv',RM w' base B co cb coff cc C W D av sv' (Zf W C s).1)/\Below base w w':=by
 obtain ⟨i0,hi0,hz0,hz1,hz2⟩:=info_parts Tryz.infoInt
 obtain ⟨j0,hj0,hy0,hy1,hy2⟩:=info_parts Tryz.infoMember
 have H:Hid _:=h
 have HBT:Hid (∀ x∈C,0<=x/\x<256):=h.code.byt
 have HBS:Hid _:=h.bs
 have HHB:Hid (base<=B):=h.hB
 clear h
 go_enter Tryz.func107,Tryz.ntmps107
 go_wp2_with fail
 refine (Ya base B co cb coff cc C W D av sv s _ (by omega) H.out).mono ?_
 rintro e w1 ⟨rfl,hm,hv⟩
 have HM1:Hid (RM (w1.alloc (X #[] 203)) base B co cb coff cc C W D av sv ⟨cnR C s.r,s.sv,s.ttl,s.sc⟩):=hm.alloc _
 have HB1:Hid (Below base w (w1.alloc (X #[] 203))):=(hv.below HHB.out HBS.out).alloc hm.bs _
 have HU1:Hid ((w1.alloc (X #[] 203)).ownsRow base 203 2 (O (some ⟨w1.heap.size,0,none⟩) 0 0) 0 []):=⟨rfl,.inr ⟨w1.heap.size,0,#[],rfl,hm.bs,zy _ rfl,Nat.le_refl _,by decide,rfl,rfl⟩⟩
 clear hm hv
 obtain ⟨hcn,hc255⟩:=Xa HBT.out s.r
 rw [hcn]
 have hcp:=Za C s.r 1 1 16
 have HST:Hid (Zf W C s=if suL (meL W C (cnR C s.r) (cnN C s.r))<=0 then (⟨meR C (cnR C s.r) (cnN C s.r),s.sv,s.ttl,s.sc⟩,false)
  else match pkL (meL W C (cnR C s.r) (cnN C s.r)) (W.draw%suL (meL W C (cnR C s.r) (cnN C s.r))) with
   | some x=>(⟨meR C (cnR C s.r) (cnN C s.r),s.sv++[x],s.ttl,s.sc⟩,true)
   | none=>(⟨meR C (cnR C s.r) (cnN C s.r),s.sv,s.ttl,s.sc⟩,false)):=rfl
 have hcp2:(cnR C s.r).p<=s.r.p+1:=hcp.2
 generalize cnN C s.r=n at *
 generalize cnR C s.r=r at *
 clear hcn hcp
 go_wp2_with fail
 go_loopg [4,5,6] n (fun q u t y wr=>∃ i:Nat,q+i=n/\t=J Z (suL (meL W C r i))/\y=J Z i/\RM wr base B co cb coff cc C W D av sv ⟨meR C r i,s.sv,s.ttl,s.sc⟩/\wr.ownsRow base 203 2 u (meL W C r i).length (mbC (meL W C r i))/\Below base w wr)
 case atStart=>exact ⟨0,by omega,rfl,rfl,HM1.out,HU1.out,HB1.out⟩
 case round =>
  obtain ⟨i,hq,rfl,rfl,hm,hu,hb⟩:=hrel
  have HM:Hid _:=hm
  have HU:Hid _:=hu
  have HNB:Hid (u4.ownBlock≠some B):=zs hu hm.blk (by decide)
  have HB:Hid _:=hb
  clear hm hb hu
  have hpi:=zdb C r i
  obtain ⟨hml,hs0,hs1,hwb⟩:=zdt (W:=W) HBT.out r i
  by_cases hlt:i<n
  ·have hlt':(i:Int)<(n:Int):=by omega
   have hnp:=Za C (meR C r i) 1 0 63
   clear hwb
   go_wp2_with fail
   refine (YZ base B co cb coff cc C W D av sv _ _ (by simp only;omega) HM.out).mono ?_
   rintro e w2 ⟨rfl,hm2,hv2⟩
   have HM2:Hid _:=hm2
   have HB2:Hid (Below base w w2):=HB.out.trans (hv2.below HHB.out HM.out.bs)
   have HU2:Hid (w2.ownsRow base 203 2 u4 (meL W C r i).length (mbC (meL W C r i))):=hv2.owns HU.out HNB.out
   clear hm2 hv2
   simp only
   go_wp2_with fail
   refine (yH base B co cb coff cc C W D av sv _ 2 1 1000 2 _ rfl (by decide) (by simp only;omega) HM2.out).mono ?_
   rintro e w3 ⟨rfl,hm3,hv3⟩
   have HM3:Hid _:=hm3
   have HB3:Hid (Below base w w3):=HB2.out.trans (hv3.below HHB.out HM2.out.bs)
   have HU3:Hid (w3.ownsRow base 203 2 u4 (meL W C r i).length (mbC (meL W C r i))):=hv3.owns HU2.out HNB.out
   clear hm3 hv3
   simp only
   go_wp2_with fail
   refine (QN base B co cb coff cc C W D av sv _ _ _ HM3.out).mono ?_
   rintro e w' ⟨rfl,hw'⟩
   subst w'
   have hwb:=xw HBT.out (num C (meR C r i) 1 0 63)
   have HT:Hid (meL W C r (i+1)=if upW W (rdN C (meR C r i) 1)=true then meL W C r i++[(rdN C (meR C r i) 1,rdN C (num C (meR C r i) 1 0 63) 2)] else meL W C r i):=rfl
   have hbs3:base<=w3.heap.size:=HM3.out.bs
   generalize rdN C (meR C r i) 1=x at *
   generalize rdN C (num C (meR C r i) 1 0 63) 2=y at *
   generalize hLL:meL W C r i=L at *
   clear hLL
   cases hu:upW W x with
   | true =>
    have HT2:Hid (meL W C r (i+1)=L++[(x,y)]):=by show _=_;rw [HT.out,if_pos hu]
    clear hu
    have hA1:Hid (L.length+1<=maxLen):=by show _<=_;unfold maxLen;omega
    have hA2:Hid ((L.length+1)*16<=140737488355328):=by show _<=_;omega
    have hA3:Hid (base<=(w3.alloc (X #[J Z x,J Z y] 203)).heap.size):=by show _<=_;simp;omega
    have hone:Hid (∀ u∈[J Z x,J Z y],u.oneCell'=true):=fun u hu=>by simp at hu;rcases hu with rfl | rfl<;>rfl
    go_wp2_with (at_builtin;refine wpList_append_lies _ rfl _ _ 200 rfl base 203 j0 _ 2 16 Tryz.underlying200 hj0 hy0 hy1 hy2 rfl (by decide) u4 _ _ rfl (HU3.out.alloc _) ⟨w3.heap.size,0,none⟩ 1 1 [J Z x,J Z y] rfl rfl (World.news_of_block (cs:=#[J Z x,J Z y]) (t:=203) (fr:=(0,0)) (heap_alloc_new w3 _)) hone.out (Nat.lt_succ_self 0) hA1.out hA2.out hA3.out (w3.heap.size+1) (by simp) ?_;intro g cap w4 hown hgrow hat hlt4)
    have HM4:=(HM3.out.alloc (X #[J Z x,J Z y] 203)).grown hgrow HNB.out (yb (HM3.out.alloc (X #[J Z x,J Z y] 203)).row (HU3.out.alloc (X #[J Z x,J Z y] 203)) (by decide)) (fun k hk=>(HU3.out.lt k hk).1)
    have HB4:=(HB3.out.alloc hbs3 (X #[J Z x,J Z y] 203)).grown hgrow hA3.out (fun k hk=>(HU3.out.lt k hk).1)
    have HU4:Hid (w4.ownsRow base 203 2 (O (some ⟨g,0,none⟩) (L.length+1) cap) (meL W C r (i+1)).length (mbC (meL W C r (i+1)))):=by show World.ownsRow _ _ _ _ _ _ _;rw [HT2.out,List.length_append,q8];exact hown
    have HS4:Hid (suL (meL W C r (i+1))=suL L+y):=by show _=_;rw [HT2.out,jZ]
    clear hown hgrow hat
    go_roundg (gk-1)
    case measure=>omega
    case rel=>exact ⟨i+1,by omega,by rw [HS4.out],by go_num,HM4,HU4.out,HB4⟩
   | false =>
    have HT2:Hid (meL W C r (i+1)=L):=by show _=_;rw [HT.out,if_neg (by rw [hu];decide)]
    clear hu
    go_wp2_with fail
    go_roundg (gk-1)
    case measure=>omega
    case rel=>exact ⟨i+1,by omega,by rw [HT2.out],by go_num,HM3.out,by rw [HT2.out];exact HU3.out,HB3.out⟩
  ·have hin:i=n:=by omega
   subst hin
   have hlt':¬ (i:Int)<(i:Int):=by omega
   generalize hLL:meL W C r i=L at *
   have HLL:Hid _:=hLL
   clear hLL
   by_cases hz:suL L<=0
   ·have HE:Hid (Zf W C s=(⟨meR C r i,s.sv,s.ttl,s.sc⟩,false)):=by show _=_;rw [HST.out,if_pos hz]
    generalize suL L=t at *
    go_wp2_with fail
    go_ret
    exact ⟨by rw [HE.out];rfl,⟨sv,by rw [HE.out];exact HM.out⟩,HB.out⟩
   ·have HE:Hid (Zf W C s=match pkL L (W.draw%suL L) with
     | some x=>(⟨meR C r i,s.sv++[x],s.ttl,s.sc⟩,true)
     | none=>(⟨meR C r i,s.sv,s.ttl,s.sc⟩,false)):=by show _=_;rw [HST.out,if_neg hz]
    have hz':0<suL L:=by omega
    have ht:W.draw.tmod (suL L)=W.draw%suL L:=Int.tmod_eq_emod_of_nonneg hd
    have hr0:0<=W.draw%suL L:=Int.emod_nonneg _ (by omega)
    have hr1:W.draw%suL L<suL L:=Int.emod_lt_of_pos _ hz'
    have hne:¬ suL L=0:=by omega
    have c4:=HM.out.c4
    obtain ⟨uo,uc,hu4,huc⟩:=zY HU.out
    subst hu4
    clear hz
    generalize hDD:W.draw%suL L=dd at *
    clear hDD
    generalize suL L=t at *
    go_wp2_with fail
    go_loopg [9,52] L.length (fun q rst y wz=>∃ (k:Nat) (rr:Int),q+k=L.length/\rst=J Z rr/\y=J Z k/\0<=rr/\rr<=20000000/\Hid (pkL L dd=pkL (L.drop k) rr)/\RM wz base B co cb coff cc C W D av sv ⟨meR C r i,s.sv,s.ttl,s.sc⟩/\wz.ownsRow base 203 2 (O uo L.length uc) L.length (mbC L)/\Below base w wz)
    case atStart=>exact ⟨0,dd,by omega,rfl,rfl,hr0,by omega,rfl,HM.out,HU.out,HB.out⟩
    case round =>
     obtain ⟨k,rr,hq2,rfl,rfl,b0,b1,HP,hm,hu,hb⟩:=hrel
     have HMz:Hid _:=hm
     have HUz:Hid (wr.ownsRow base 203 2 (O uo L.length uc) L.length (mbC L)):=hu
     have HBz:Hid _:=hb
     clear hm hu hb
     by_cases hk:k<L.length
     ·obtain ⟨x,hx⟩:∃ x,L[k]?=some x:=⟨L[k],List.getElem?_eq_getElem hk⟩
      obtain ⟨ug,uc',hug,_,hugl⟩:=HUz.out.form (by omega)
      obtain ⟨huo,huc'⟩:uo=some ⟨ug,0,none⟩/\uc=uc':=by cases hug;exact ⟨rfl,rfl⟩
      subst huo
      have h0c:=z6 (fun x:Int×Int=>[J Z x.1,J Z x.2]) (fun _=>rfl) HUz.out hx 0 (by decide)
      have h1c:=z6 (fun x:Int×Int=>[J Z x.1,J Z x.2]) (fun _=>rfl) HUz.out hx 1 (by decide)
      have hxb:=hwb x (List.mem_of_getElem? hx)
      have hk':(k:Int)<(L.length:Int):=by omega
      have hk0:(0:Int)<=(k:Int):=by omega
      have hdr:L.drop k=x::L.drop (k+1):=by
       rw [List.drop_eq_getElem_cons hk]
       rw [(List.getElem?_eq_some_iff.1 hx).2]
      obtain ⟨x1,x2⟩:=x
      simp only at h0c h1c hxb
      simp only [Nat.add_zero] at h0c
      have HPK:Hid (pkL L dd=if rr<x2 then some x1 else pkL (L.drop (k+1)) (rr-x2)):=by show _=_;rw [HP.out,hdr];rfl
      have hbsz:base<=wr.heap.size:=HMz.out.bs
      clear hdr hx hug
      by_cases hrx:rr<x2
      ·have HE2:Hid (Zf W C s=(⟨meR C r i,s.sv++[x1],s.ttl,s.sc⟩,true)):=by show _=_;rw [HE.out,HPK.out,if_pos hrx]
       have HM5:Hid (RM (wr.alloc (X #[J Z x1,J Z x2] 203)) base B co cb coff cc C W D av sv ⟨meR C r i,s.sv,s.ttl,s.sc⟩):=HMz.out.alloc _
       have HB5:Hid (Below base w (wr.alloc (X #[J Z x1,J Z x2] 203))):=HBz.out.alloc hbsz _
       have k0:(wr.alloc (X #[J Z x1,J Z x2] 203)).cell? ⟨wr.heap.size,0,none⟩=some (J Z x1):=by simp
       have hw5:wr.heap.size<(wr.alloc (X #[J Z x1,J Z x2] 203)).heap.size:=by simp
       go_wp2_with fail
       generalize wr.alloc (X #[J Z x1,J Z x2] 203)=w5 at *
       have c72:=HM5.out.c72
       have z72:=HM5.out.fz 72
       have hB5:=HM5.out.lt
       have hbs5:base<=w5.heap.size:=HM5.out.bs
       have hA1:Hid (s.sv.length+1<=maxLen):=by show _<=_;unfold maxLen;omega
       have hA2:Hid ((s.sv.length+1)*8<=140737488355328):=by show _<=_;omega
       have hA3:Hid (∀ o:Obj,base<=(w5.alloc o).drew.heap.size):=fun o=>by show base<=(w5.alloc o).heap.size;simp;omega
       have hone:Hid (∀ u∈[J Z x1],u.oneCell'=true):=fun u hu=>by simp at hu;subst hu;rfl
       go_region_law ((refine step_append_lies _ (by rfl) _ _ _ (by rfl) base 3 i0 _ 1 8 Tryz.underlying25 hi0 hz0 hz1 hz2 rfl (by decide) sv _ _ (by rfl) ((HM5.out.row.alloc _).drew) ⟨w5.heap.size,0,none⟩ 1 1 [J Z x1] (by rfl) (by rfl) (World.news_of_block (cs:=#[J Z x1]) (t:=3) (fr:=(0,0)) (heap_alloc_new w5 _)) hone.out (Nat.lt_succ_self 0) hA1.out hA2.out (hA3.out _) (w5.heap.size+1) (by simp) ?_;intro g cap w4 hown hgrow hat hlt4;have zz:w4.frozen? ⟨B,72,none⟩=false:=(hgrow.frozen_far ⟨B,72,none⟩ (by show B<(w5.alloc _).heap.size;simp;omega) (fun e=>HM5.out.ne e.symm)).trans (((HM5.out.alloc _).drew).fz 72);have ccx:w4.cell? ⟨B,72,none⟩=some sv:=(hgrow.cell_far ⟨B,72,none⟩ (by show B<(w5.alloc _).heap.size;simp;omega) (fun e=>HM5.out.ne e.symm)).trans ((HM5.out.alloc _).drew).c72))
       all_goals
        have HM6:=((HM5.out.alloc (X #[J Z x1] 3)).drew).push (ys:=[x1]) (n:=s.sv.length+1) (by simp) hgrow (by simpa using hown)
        have HB6:=((HM5.out.alloc (X #[J Z x1] 3)).drew).pushB (u:=O (some ⟨g,0,none⟩) (s.sv.length+1) cap) ((HB5.out.alloc hbs5 _).drew) hgrow
        clear hown hgrow hat
        go_wp2_with fail
        go_ret
        exact ⟨by rw [HE2.out];rfl,⟨_,by rw [HE2.out];exact HM6⟩,HB6⟩
      ·have HP2:Hid (pkL L dd=pkL (L.drop (k+1)) (rr-x2)):=by show _=_;rw [HPK.out,if_neg hrx]
       have hrx':x2<=rr:=by omega
       have HM5:=HMz.out.alloc (X #[J Z x1,J Z x2] 203)
       have HB5:=HBz.out.alloc hbsz (X #[J Z x1,J Z x2] 203)
       have HU5:=HUz.out.alloc (X #[J Z x1,J Z x2] 203)
       clear hrx
       go_wp2_with fail
       go_roundg (gk-1)
       case measure=>omega
       case rel=>exact ⟨k+1,rr-x2,by omega,by go_num,by go_num,by omega,by omega,HP2,HM5,HU5,HB5⟩
     ·have hkl:k=L.length:=by omega
      have hk':¬ (k:Int)<(L.length:Int):=by omega
      have HE2:Hid (Zf W C s=(⟨meR C r i,s.sv,s.ttl,s.sc⟩,false)):=by show _=_;rw [HE.out,HP.out,List.drop_eq_nil_of_le (by omega)];rfl
      clear hkl
      go_wp2_with fail
      go_ret
      exact ⟨by rw [HE2.out];rfl,⟨sv,by rw [HE2.out];exact HMz.out⟩,HBz.out⟩
end
theorem Q5 (ao:Option Addr) (b n c:Nat) (V L:Nat->Int) (a:Int) (w:World) (a0:0<=a) (a1:a<4294967296) (hn:n<=255) (hs:PS w ao b n V L) (hp:∀ i,i<n->0<=L i/\L i<=255/\0<=V i/\V i<4294967296) :
 Calls Tryz.prog 114 #[O ao n c,J Z a] w fun e w'=>e=.returned (.tuple #[J Z (M.bestTo V L a n),J Z (M.depTo V L a n)])/\Below w.heap.size w w':=by
 go_enter Tryz.func114,Tryz.ntmps114
 go_wp2
 go_loopw [6,7,8,15] (fun x y z i wr=>∃ k:Nat,k<=n/\i=J Z k/\x=J Z (M.bestTo V L a k)/\y=J Z (M.bitsTo V L a k)/\z=J Z (M.depTo V L a k)/\Below w.heap.size w wr) (fun _ _ _ i _=>n-(intOf i).toNat)
 case atStart=>exact ⟨0,by omega,rfl,rfl,rfl,rfl,Below.refl _ _⟩
 case round =>
  obtain ⟨k,hk,rfl,rfl,rfl,rfl,hb⟩:=hrel
  by_cases hlt:k<n
  ·obtain rfl:=hs.at_ (by omega)
   have hps:=hs.below hb
   have hv:=hps.val k hlt
   have hl:=hps.len k hlt
   have hbb:b<wr.heap.size:=hps.lt (by omega)
   have hR:Hid (Below w.heap.size w wr):=hb
   obtain ⟨l0,l1,v0,v1⟩:=hp k hlt
   have hsl:=M.sh_le (V k) a
   clear hs hb hps hp
   by_cases hc:(M.sh (V k) a:Int)<L k
   ·have HN:Hid (M.need V L a k=M.sh (V k) a+1):=by show _=_;unfold M.need;rw [if_pos hc]
    by_cases hd:M.depTo V L a k<M.sh (V k) a+1
    all_goals
     go_wp2_with (go_at_call 146;refine (Ye _ _ _ v0 v1 a0 a1).mono ?_;rintro e w' ⟨rfl,rfl⟩)
     go_roundw
     case rel=>exact ⟨k+1,by omega,by go_num,yN (M.step_best _ _ _ _ _ (by rw [if_neg (by omega)])),yN (M.step_bits _ _ _ _ _ (by rw [if_neg (by omega)])),yN (M.step_dep _ _ _ _ _ _ HN.out (by split<;>omega)),hR.out.trans (Below.mono (B:=wr.heap.size) (by repeat (first | exact Below.refl _ _ | refine yn ?_ _ | refine Below.drew ?_ | refine Below.alloc ?_ (by simp) _ | refine Below.setCell ?_ (by simp) _)) hR.out.size)⟩
     case measure=>simp [intOf];omega
   ·have HN:Hid (M.need V L a k=L k):=by show _=_;unfold M.need;rw [if_neg hc]
    by_cases hd:M.depTo V L a k<L k
    all_goals
     by_cases hq:M.bitsTo V L a k<L k
     all_goals
      go_wp2_with (go_at_call 146;refine (Ye _ _ _ v0 v1 a0 a1).mono ?_;rintro e w' ⟨rfl,rfl⟩)
      go_roundw
      case rel=>exact ⟨k+1,by omega,by go_num,yN (M.step_best _ _ _ _ _ (by split<;>omega)),yN (M.step_bits _ _ _ _ _ (by split<;>omega)),yN (M.step_dep _ _ _ _ _ _ HN.out (by split<;>omega)),hR.out.trans (Below.mono (B:=wr.heap.size) (by repeat (first | exact Below.refl _ _ | refine yn ?_ _ | refine Below.drew ?_ | refine Below.alloc ?_ (by simp) _ | refine Below.setCell ?_ (by simp) _)) hR.out.size)⟩
      case measure=>simp [intOf];omega
  ·have hkn:k=n:=by omega
   subst hkn
   go_wp2
   go_ret2
   exact ⟨rfl,hb⟩
def amA (C:List Int) (r:RD):Nat->List (Int×Int)
 | 0=>[]
 | i+1=>amA C r i++[(arV C r i,arL C r i)]
def amW (C:List Int) (r:RD):Nat->List Int
 | 0=>[]
 | i+1=>amW C r i++[arW C r i]
theorem Xw (C:List Int) (r:RD):∀ i,(amA C r i).length=i:=by
 intro i
 induction i with
 | zero=>rfl
 | succ i ih=>simp [amA,ih]
theorem Xv (C:List Int) (r:RD):∀ i,(amW C r i).length=i:=by
 intro i
 induction i with
 | zero=>rfl
 | succ i ih=>simp [amW,ih]
theorem zbV (C:List Int) (r:RD):∀ n i,i<n->(amA C r n)[i]?=some (arV C r i,arL C r i):=by
 intro n
 induction n with
 | zero=>intro i h;omega
 | succ n ih =>
  intro i h
  simp only [amA]
  by_cases hi:i<n
  ·rw [List.getElem?_append_left (by rw [Xw];exact hi)];exact ih i hi
  ·have:i=n:=by omega
   subst this
   rw [List.getElem?_append_right (by rw [Xw];exact Nat.le_refl _),Xw];simp
theorem zdJ (C:List Int) (r:RD):∀ n i,i<n->(amW C r n)[i]?=some (arW C r i):=by
 intro n
 induction n with
 | zero=>intro i h;omega
 | succ n ih =>
  intro i h
  simp only [amW]
  by_cases hi:i<n
  ·rw [List.getElem?_append_left (by rw [Xv];exact hi)];exact ih i hi
  ·have:i=n:=by omega
   subst this
   rw [List.getElem?_append_right (by rw [Xv];exact Nat.le_refl _),Xv];simp
theorem zdf (C:List Int) (r:RD):∀ i,r.p<=(amR C r i).p/\(amR C r i).p<=r.p+7*i:=by
 intro i
 induction i with
 | zero=>simp [amR]
 | succ i ih =>
  have h1:=Za C (amR C r i) 4 0 4294967295
  have h2:=Za C (amV C (amR C r i)) 1 0 32
  have h3:=Za C (amL C (amR C r i)) 2 0 32000
  have h4:(amL C (amR C r i)).p=(num C (amV C (amR C r i)) 1 0 32).p:=rfl
  have h5:(amV C (amR C r i)).p=(num C (amR C r i) 4 0 4294967295).p:=rfl
  simp only [amR];omega
theorem Xn {C:List Int} (h:∀ x∈C,0<=x/\x<256) (r:RD):0<=rdN C r 1/\rdN C r 1<=255:=by
 have h1:=XI h r 1
 have h2:yI 1=256:=by decide
 rw [h2] at h1
 omega
theorem qS {C:List Int} (h:∀ x∈C,0<=x/\x<256) (r:RD):0<=rdN C r 4/\rdN C r 4<4294967296:=by
 have h1:=XI h r 4
 have h2:yI 4=4294967296:=by decide
 rw [h2] at h1
 omega
theorem RM.keep {w w':World} {base B:Nat} {co:Option Addr} {cb coff cc:Nat} {C:List Int} {W:RW} {D:Array Value} {av sv:Value} {s:RT} (h:RM w base B co cb coff cc C W D av sv s) (hk:w'.heap[B]?=w.heap[B]?) (hs:∀ g,sv.ownBlock=some g->w'.heap[g]?=w.heap[g]?) (hc:∀ b,b<base->w'.heap[b]?=w.heap[b]?):RM w' base B co cb coff cc C W D av sv s :=
 ⟨hk.trans h.blk,h.dsz,h.dn,zh h.row hs,h.hB,h.code.of_kept hc⟩
theorem xX {P:Program} (w:World) {ops:Array Oper} {o:Oper} {a:Act} {K:Act->World->Prop} {Q:Exit->Act->World->Prop} {E:Prop} (hgd:o.guard=none) (s x:Operand) (t:TypeId)
 (ho:o.op=.call { callee:=.builtin .append,args:=#[s,x],argTypes:=#[t,t] })
 (e:TypeId) (i:TypeInfo) (ht:P.underlying t=some (.slice e)) (hi:P.info? e=some i)
 (so:Option Addr) (n cap:Nat) (hs:a.eval s=O so n cap) (xo:Option Addr) (c:Nat) (hx:a.eval x=O xo 0 c) (hn:n<=cap)
 (h:K (a.put o.dst (O so n cap)) w) :
 if Region.wanted o (yielded ops a.tmps)=true then Oper.wp P o a w K Q else E:=by
 have hw:Region.wanted o (yielded ops a.tmps)=true:=by simp [Region.wanted,hgd]
 rw [if_pos hw]
 have hrun:=Zy (P:=P) w t o.type e i ht hi so n cap xo c hn
 unfold Oper.wp execOp
 simp only [ho,resolve,invoke,builtin,Sem.run_bind,Sem.run_pure,Result.andThen_ok,List.map_toArray,List.map_cons,List.map_nil,hs,hx,hrun]
 exact h
theorem zau (base B:Nat) (co:Option Addr) (cb coff cc:Nat) (C:List Int) (W:RW) (D:Array Value) (ao:Option Addr) (ab aoff ac:Nat) (sv:Value) (s:RT) (w:World) (hp:s.r.p<=900000000000000000) (hsv:s.sv=[]) (hal:AS w base ao ab aoff W.al) (hln:W.al.length<=9223372036854775807) (h:RM w base B co cb coff cc C W D (O ao W.al.length ac) sv s) :
 Calls Tryz.prog 112 #[.pointer (some ⟨B,0,none⟩)] w fun e w'=>e=.returned (.tuple #[])/\(∃ sv',RM w' base B co cb coff cc C W D (O ao W.al.length ac) sv' (ZB W C s))/\Below base w w':=by
 obtain ⟨i0,hi0,hz0,hz1,hz2⟩:=info_parts Tryz.infoInt
 have H:Hid _:=h
 have HBT:Hid (∀ x∈C,0<=x/\x<256):=h.code.byt
 have HBS:Hid _:=h.bs
 have HHB:Hid (base<=B):=h.hB
 have HAS:Hid _:=hal
 have HSV:Hid _:=hsv
 clear h hal hsv
 go_enter Tryz.func112,Tryz.ntmps112
 go_wp2_with fail
 refine (yH base B co cb coff cc C W D _ sv s 1 0 15 1 _ rfl (by decide) hp H.out).mono ?_
 rintro e w1 ⟨rfl,hm,hv⟩
 have HM1:Hid _:=hm
 have HB1:Hid (Below base w w1):=hv.below HHB.out HBS.out
 have HA1:Hid (AS w1 base ao ab aoff W.al):=HAS.out.of_kept (fun b hb=>HB1.out.block b hb)
 have c69:=hm.c69
 have c72:=hm.c72
 have z72:=hm.fz 72
 clear hm hv
 have hnb:=Xn HBT.out s.r
 have HST:Hid (ZB W C s=⟨num C s.r 1 0 15,s.sv++(W.al[(rdN C s.r 1).toNat]?).getD [],s.ttl,s.sc⟩):=rfl
 generalize hk0:rdN C s.r 1=k at *
 clear hk0
 obtain ⟨k,rfl⟩:∃ q:Nat,k=q:=⟨k.toNat,by omega⟩
 rw [Int.toNat_natCast] at HST
 have hkp:(0:Int)<=(k:Int):=by omega
 by_cases hk:k<W.al.length
 ·obtain ⟨l,hl⟩:∃ l,W.al[k]?=some l:=⟨W.al[k],List.getElem?_eq_getElem hk⟩
  have hlt':(k:Int)<(W.al.length:Int):=by omega
  obtain ⟨lo,lc,hcl,hll⟩:=HA1.out.val k l hl
  obtain rfl:=HA1.out.at_ (by omega)
  have hlen:l.length*8<=140737488355328:=Nat.le_trans (HA1.out.len l (List.mem_of_getElem? hl)) (by decide)
  have HE:Hid (ZB W C s=⟨num C s.r 1 0 15,s.sv++l,s.ttl,s.sc⟩):=by show _=_;rw [HST.out,hl];rfl
  clear hl
  go_wp2_with fail
  rcases Nat.eq_zero_or_pos l.length with h0 | h0
  ·have hln0:l=[]:=List.eq_nil_of_length_eq_zero h0
   subst hln0
   obtain ⟨so,scap,hso,hsc⟩:=zY HM1.out.row
   simp only at hso hsc
   subst hso
   clear hll
   go_region_law ((refine xX _ (by rfl) _ _ _ (by rfl) 3 i0 Tryz.underlying25 hi0 so s.sv.length scap (by rfl) lo lc (by rfl) hsc ?_))
   all_goals
    have HM6:=(HM1.out.drew).push (ys:=[]) (n:=s.sv.length) (oo:=so) (cap:=scap) (by simp) (w4:=w1.drew) ⟨rfl,rfl,rfl,Nat.le_refl _,fun _ _ _=>rfl⟩ (by simpa using HM1.out.drew.row)
    have HB6:=(HM1.out.drew).pushB (u:=O so s.sv.length scap) (w4:=w1.drew) (HB1.out.drew) ⟨rfl,rfl,rfl,Nat.le_refl _,fun _ _ _=>rfl⟩
    go_wp2_with fail
    go_end0
    exact ⟨rfl,⟨_,by rw [HE.out];exact HM6⟩,HB6⟩
  ·obtain ⟨lb,loff,hlo,hlb,hlv⟩:=hll h0
   subst hlo
   have HLV:Hid (∀ (j:Nat) (u:Value),(l.map (J Z))[j]?=some u->w1.cell? ((⟨lb,loff,none⟩:Addr).add j)=some u):=fun j u hu=>by
    rw [List.getElem?_map] at hu
    cases hx:l[j]? with
    | none=>rw [hx] at hu;cases hu
    | some x=>rw [hx] at hu;cases hu;rw [Addr.add_lit];exact hlv j x hx
   have hA1:Hid (s.sv.length+l.length<=maxLen):=by show _<=_;rw [HSV.out];unfold maxLen;simp;omega
   have hA2:Hid ((s.sv.length+l.length)*8<=140737488355328):=by show _<=_;rw [HSV.out];simpa using hlen
   have hA3:Hid (base<=w1.drew.heap.size):=HM1.out.bs
   have hone:Hid (∀ u∈l.map (J Z),u.oneCell'=true):=fun u hu=>by simp only [List.mem_map] at hu;obtain ⟨x,_,rfl⟩:=hu;rfl
   have hlm:Hid ((l.map (J Z)).length=l.length*1):=by show _=_;simp
   have H0:Hid _:=h0
   clear hll hlv hlen h0
   go_region_law ((refine step_append_lies _ (by rfl) _ _ _ (by rfl) base 3 i0 _ 1 8 Tryz.underlying25 hi0 hz0 hz1 hz2 rfl (by decide) sv _ _ (by rfl) (HM1.out.row.drew) ⟨lb,loff,none⟩ l.length lc (l.map (J Z)) (by rfl) hlm.out HLV.out hone.out H0.out hA1.out hA2.out hA3.out w1.heap.size (by rfl) ?_;intro g cap w4 hown hgrow hat hlt4;have zz:w4.frozen? ⟨B,72,none⟩=false:=(hgrow.frozen_far ⟨B,72,none⟩ HM1.out.lt (fun e=>HM1.out.ne e.symm)).trans ((HM1.out.drew).fz 72);have ccx:w4.cell? ⟨B,72,none⟩=some sv:=(hgrow.cell_far ⟨B,72,none⟩ HM1.out.lt (fun e=>HM1.out.ne e.symm)).trans (HM1.out.drew).c72))
   all_goals
    have HM6:=(HM1.out.drew).push (ys:=l) (n:=s.sv.length+l.length) (by simp) hgrow (by rw [List.map_append];exact hown)
    have HB6:=(HM1.out.drew).pushB (u:=O (some ⟨g,0,none⟩) (s.sv.length+l.length) cap) (HB1.out.drew) hgrow
    clear hown hgrow hat
    go_wp2_with fail
    go_end0
    exact ⟨rfl,⟨_,by rw [HE.out];exact HM6⟩,HB6⟩
 ·have hlt':¬ (k:Int)<(W.al.length:Int):=by omega
  have hltd:decide ((k:Int)<(W.al.length:Int))=false:=decide_eq_false hlt'
  have HE:Hid (ZB W C s=⟨num C s.r 1 0 15,s.sv,s.ttl,s.sc⟩):=by show _=_;rw [HST.out,List.getElem?_eq_none (by omega)];simp
  go_wp2_with fail
  go_end0
  exact ⟨rfl,⟨sv,by rw [HE.out];exact HM1.out⟩,HB1.out⟩
end Go.Proofs.YtaebngpoagjafabGreat
