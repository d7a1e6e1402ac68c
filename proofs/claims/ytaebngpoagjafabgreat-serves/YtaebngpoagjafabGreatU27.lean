import Derived.Test.YtaebngpoagjafabGreatU25
import Derived.Test.YtaebngpoagjafabGreatU26
set_option maxRecDepth 100000
set_option maxHeartbeats 1600000
namespace Go.Proofs.YtaebngpoagjafabGreat
open Obj renaming cells → X
open Value renaming int → J, slice → O
open IntKind renaming i64 → Z
open Go.RowKit
attribute [local go_sem ↓] Go.wp_at_zero Go.wp_at_succ
section
theorem ZT {P:Program} (w:World) (t ty e:TypeId) (i:TypeInfo) (ht:P.underlying t=some (.slice e)) (hi:P.info? e=some i) (so:Option Addr) (n cap:Nat) (xo:Option Addr) (c:Nat) (hn:n<=cap) :
 (Builtin.append_ #[t,t] ty #[O so n cap,O xo 0 c]).run P w=.ok (O so n cap) w:=by
 have b:Sem.run P (Builtin.firstCells i.size 0 (O xo 0 c)) w=.ok #[] w:=by
  cases xo with
  | none=>simp [Builtin.firstCells]
  | some a=>exact run_firstCells_some (P:=P) w i.size 0 a 0 c [] (by simp) (fun j u hu=>by simp at hu)
 cases so with
 | none=>simp [Builtin.append_,run_underlying ht,sizeOf,typeInfo,hi,Builtin.lenOf,hn,b]
 | some a =>
  have d:Sem.run P (storeCells (a.add (n*i.size)) []) w=.ok () w:=by simp [storeCells]
  simp [Builtin.append_,run_underlying ht,sizeOf,typeInfo,hi,Builtin.lenOf,hn,b,d]
theorem z9 {w:World} {base e size:Nat} {v:Value} {n:Nat} {xs:List Value} (h:w.ownsRow base e size v n xs):∃ o c,v=O o n c/\n<=c:=by
 rcases h.2 with ⟨rfl,rfl⟩ | ⟨g,cap,cur,rfl,_,_,hc,_⟩
 ·exact ⟨none,0,rfl,Nat.le_refl _⟩
 ·exact ⟨some ⟨g,0,none⟩,cap,rfl,hc⟩
section
theorem xI {P:Program} (w:World) {o:Oper} {a:Act} (s x:Operand) (t:TypeId) (ho:o.op=.call { callee:=.builtin .append,args:=#[s,x],argTypes:=#[t,t] }) (base:Nat) (e:TypeId) (i:TypeInfo) (z:Value) (size bytes:Nat) (ht:P.underlying t=some (.slice e)) (hi:P.info? e=some i) (hz:i.zero=some z) (hsize:i.size=size) (hby:i.bytes=bytes) (hzs:z.cells.size=size) (hsz:0<size) (v:Value) (n:Nat) (xs:List Value) (hs:a.eval s=v) (hown:w.ownsRow base e size v n xs) (xo:Option Addr) (m c:Nat) (news:List Value) (hx:a.eval x=O xo m c) (hl:news.length=m*size) (hsrc:0<m->∃ ad,xo=some ad/\∀ j u,news[j]?=some u->w.cell? (ad.add j)=some u) (h1:∀ u∈news,u.oneCell'=true) (h63:n+m<=maxLen) (hbytes:(n+m)*bytes<=140737488355328) (hbase:base<=w.heap.size) (H:Nat) (hH:w.heap.size=H) {K:Act->World->Prop} {Q:Exit->Act->World->Prop}
 (h:∀ oo cap w',w'.ownsRow base e size (O oo (n+m) cap) (n+m) (xs++news)->w.grownBy w' v.ownBlock->((O oo (n+m) cap).ownBlock=v.ownBlock\/(O oo (n+m) cap).ownBlock=some H)->K (a.put o.dst (O oo (n+m) cap)) w'):o.wp P a w K Q:=by
 rcases Nat.eq_zero_or_pos m with hm | hm
 ·subst hm
  have g:news=[]:=List.eq_nil_of_length_eq_zero (by simpa using hl)
  subst g
  obtain ⟨f,cap,rfl,j⟩:=z9 hown
  have d:=ZT (P:=P) w t o.type e i ht hi f n cap xo c j
  unfold Oper.wp
  simp [execOp,ho,resolve,invoke,builtin,hs,hx,d,Result.andThen]
  have:=h f cap w (by simpa using hown) ⟨rfl,rfl,rfl,Nat.le_refl _,fun _ _ _=>rfl⟩ (.inl rfl)
  have k:K (a.put o.dst (O f n cap)) w:=by simpa using this
  exact k
 ·obtain ⟨l,rfl,b⟩:=hsrc hm
  refine wp_append_lies w s x t ho base e i z size bytes ht hi hz hsize hby hzs hsz v n xs hs hown l m c news hx hl b h1 hm h63 hbytes hbase H hH (fun g' cap w' q1 q2 q3 _=>h _ _ _ q1 q2 ?_)
  rcases q3 with q3 | q3
  ·exact .inl q3.symm
  ·exact .inr (by rw [q3];rfl)
theorem xZ {P:Program} (w:World) {o:Oper} {a:Act} (s x:Operand) (t:TypeId) (ho:o.op=.call { callee:=.builtin .append,args:=#[s,x],argTypes:=#[t,t] }) (base:Nat) (e:TypeId) (i:TypeInfo) (z:Value) (size bytes:Nat) (ht:P.underlying t=some (.slice e)) (hi:P.info? e=some i) (hz:i.zero=some z) (hsize:i.size=size) (hby:i.bytes=bytes) (hzs:z.cells.size=size) (hsz:0<size) (v:Value) (n:Nat) (xs:List Value) (hs:a.eval s=v) (hown:w.ownsRow base e size v n xs) (xo:Option Addr) (m c:Nat) (news:List Value) (hx:a.eval x=O xo m c) (hl:news.length=m*size) (hsrc:0<m->∃ ad,xo=some ad/\∀ j u,news[j]?=some u->w.cell? (ad.add j)=some u) (h1:∀ u∈news,u.oneCell'=true) (h63:n+m<=maxLen) (hbytes:(n+m)*bytes<=140737488355328) (hbase:base<=w.heap.size) (H:Nat) (hH:w.heap.size=H) {ops:Array Oper} {rest:List Oper} {Q:Exit->Act->World->Prop} (hgd:o.guard=none)
 (h:∀ oo cap w',w'.ownsRow base e size (O oo (n+m) cap) (n+m) (xs++news)->w.grownBy w' v.ownBlock->((O oo (n+m) cap).ownBlock=v.ownBlock\/(O oo (n+m) cap).ownBlock=some H)->wpList P ops Q rest (a.put o.dst (O oo (n+m) cap)) w'):wpList P ops Q (o::rest) a w :=
 wpList_plain hgd fun _ hK=>xI w s x t ho base e i z size bytes ht hi hz hsize hby hzs hsz v n xs hs hown xo m c news hx hl hsrc h1 h63 hbytes hbase H hH fun oo cap w' h2 h3 h4=>hK _ _ (h oo cap w' h2 h3 h4)
theorem X5 {P:Program} (w:World) {o:Oper} {a:Act} (s x:Operand) (t:TypeId) (ho:o.op=.call { callee:=.builtin .append,args:=#[s,x],argTypes:=#[t,t] }) (base:Nat) (e:TypeId) (i:TypeInfo) (z:Value) (size bytes:Nat) (ht:P.underlying t=some (.slice e)) (hi:P.info? e=some i) (hz:i.zero=some z) (hsize:i.size=size) (hby:i.bytes=bytes) (hzs:z.cells.size=size) (hsz:0<size) (v:Value) (n:Nat) (xs:List Value) (hs:a.eval s=v) (hown:w.ownsRow base e size v n xs) (xo:Option Addr) (m c:Nat) (news:List Value) (hx:a.eval x=O xo m c) (hl:news.length=m*size) (hsrc:0<m->∃ ad,xo=some ad/\∀ j u,news[j]?=some u->w.cell? (ad.add j)=some u) (h1:∀ u∈news,u.oneCell'=true) (h63:n+m<=maxLen) (hbytes:(n+m)*bytes<=140737488355328) (hbase:base<=w.heap.size) (H:Nat) (hH:w.heap.size=H) {ops:Array Oper} {K:Act->World->Prop} {Q:Exit->Act->World->Prop} {E:Prop} (hgd:o.guard=none)
 (h:∀ oo cap w',w'.ownsRow base e size (O oo (n+m) cap) (n+m) (xs++news)->w.grownBy w' v.ownBlock->((O oo (n+m) cap).ownBlock=v.ownBlock\/(O oo (n+m) cap).ownBlock=some H)->K (a.put o.dst (O oo (n+m) cap)) w') :
 if Region.wanted o (yielded ops a.tmps)=true then Oper.wp P o a w K Q else E:=by
 have b:Region.wanted o (yielded ops a.tmps)=true:=by simp [Region.wanted,hgd]
 rw [if_pos b]
 exact xI w s x t ho base e i z size bytes ht hi hz hsize hby hzs hsz v n xs hs hown xo m c news hx hl hsrc h1 h63 hbytes hbase H hH h
end
end
section
theorem Tryz.infoMember:(Tryz.prog.info? 203).map (fun i=>(i.zero,i.size,i.bytes))=some (some (.agg #[J Z 0,J Z 0]),2,16):=by kernel_rfl
theorem ze9 (C:List Int) (r:RD):∀ i,r.p<=(meR C r i).p/\(meR C r i).p<=r.p+3*i:=by
 intro i
 induction i with
 | zero=>simp [meR]
 | succ i ih=>have b:=Zp C (meR C r i) 1 0 63;have a:=Zp C (num C (meR C r i) 1 0 63) 2 1 1000;simp only [meR];omega
theorem zab (l:List (Int×Int)) (x:Int×Int):suL (l++[x])=suL l+x.2:=by
 induction l with
 | nil=>simp [suL]
 | cons y l ih=>simp only [List.cons_append,suL,ih];omega
theorem zfz {W:RW} {C:List Int} (h:∀ x∈C,0<=x/\x<256) (r:RD):∀ i,(meL W C r i).length<=i/\0<=suL (meL W C r i)/\suL (meL W C r i)<=65535*i/\∀ x∈meL W C r i,0<=x.2/\x.2<=65535:=by
 intro i
 induction i with
 | zero=>simp [meL,suL]
 | succ i ih =>
  obtain ⟨f,d,e,a⟩:=ih
  have b:=Xf h (num C (meR C r i) 1 0 63)
  simp only [meL]
  split
  ·rw [zab]
   refine ⟨by simp;omega,by simp only [meW];omega,by simp only [meW];omega,fun x hx=>?_⟩
   rcases List.mem_append.1 hx with hx | hx
   ·exact a x hx
   ·simp only [List.mem_singleton] at hx;subst hx;exact b
  ·exact ⟨by omega,d,by omega,a⟩
def mbC (l:List (Int×Int)):List Value:=l.flatMap (fun x=>[J Z x.1,J Z x.2])
theorem Q6 (l:List (Int×Int)) (x:Int×Int):mbC (l++[x])=mbC l++[J Z x.1,J Z x.2]:=by simp [mbC]
section
variable {w:World} {base B:Nat} {co:Option Addr} {cb coff cc:Nat} {C:List Int} {W:RW} {D:Array Value} {av sv:Value} {s:RT}
theorem RM.drew (h:RM w base B co cb coff cc C W D av sv s):RM w.drew base B co cb coff cc C W D av sv s:=⟨h.blk,h.dsz,h.dn,h.row,h.hB,⟨h.code.at_,h.code.lt,h.code.val,h.code.byt⟩⟩
theorem RM.grown {w4:World} {row:Option Nat} (h:RM w base B co cb coff cc C W D av sv s) (hg:w.grownBy w4 row) (h1:row≠some B) (h2:sv.ownBlock=none\/sv.ownBlock≠row) (h3:∀ k,row=some k->base<=k):RM w4 base B co cb coff cc C W D av sv s :=
 ⟨(hg.block B h.lt (fun e=>h1 e.symm)).trans h.blk,h.dsz,h.dn,h.row.kept hg h2,h.hB,h.code.of_kept (fun b hb=>hg.block b (by have:=h.bs;omega) (fun e=>by have:=h3 b e.symm;omega))⟩
end
theorem zcq (base B:Nat) (co:Option Addr) (cb coff cc:Nat) (C:List Int) (W:RW) (D:Array Value) (av sv:Value) (s:RT) (w:World) (hp:s.r.p<=900000000000000000-10000) (hl:s.sv.length<=100000) (hd:0<=W.draw) (h:RM w base B co cb coff cc C W D av sv s) :
 Calls Tryz.prog 107 #[.pointer (some ⟨B,0,none⟩)] w fun e w'=>e=.returned (.bool (Zu W C s).2)/\(∃ sv',RM w' base B co cb coff cc C W D av sv' (Zu W C s).1)/\Below base w w':=by
 obtain ⟨i0,e6,d3,d2,d1⟩:=info_parts Tryz.infoInt
 obtain ⟨j0,e4,d7,d6,d5⟩:=info_parts Tryz.infoMember
 have H:Hid _:=h
 have a6:Hid (∀ x∈C,0<=x/\x<256):=h.code.byt
 have f8:Hid _:=h.bs
 have a4:Hid (base<=B):=h.hB
 clear h
 go_enter Tryz.func107,Tryz.ntmps107
 go_wp2_with fail
 refine (Yy base B co cb coff cc C W D av sv s _ (by omega) H.out).mono ?_
 rintro e w1 ⟨rfl,z,hv⟩
 have f7:Hid (RM (w1.alloc (X #[] 203)) base B co cb coff cc C W D av sv ⟨cnR C s.r,s.sv,s.ttl,s.sc⟩):=z.alloc _
 have g2:Hid (Below base w (w1.alloc (X #[] 203))):=(hv.below a4.out f8.out).alloc z.bs _
 have f2:Hid ((w1.alloc (X #[] 203)).ownsRow base 203 2 (O (some ⟨w1.heap.size,0,none⟩) 0 0) 0 []):=⟨rfl,.inr ⟨w1.heap.size,0,#[],rfl,z.bs,zu _ rfl,Nat.le_refl _,by decide,rfl,rfl⟩⟩
 clear z hv
 obtain ⟨b7,e7⟩:=XN a6.out s.r
 rw [b7]
 have b6:=Zp C s.r 1 1 16
 have c6:Hid (Zu W C s=if suL (meL W C (cnR C s.r) (cnN C s.r))<=0 then (⟨meR C (cnR C s.r) (cnN C s.r),s.sv,s.ttl,s.sc⟩,false)
  else match pkL (meL W C (cnR C s.r) (cnN C s.r)) (W.draw%suL (meL W C (cnR C s.r) (cnN C s.r))) with
   | some x=>(⟨meR C (cnR C s.r) (cnN C s.r),s.sv++[x],s.ttl,s.sc⟩,true)
   | none=>(⟨meR C (cnR C s.r) (cnN C s.r),s.sv,s.ttl,s.sc⟩,false)):=rfl
 have g6:(cnR C s.r).p<=s.r.p+1:=b6.2
 generalize cnN C s.r=n at *
 generalize cnR C s.r=r at *
 clear b7 b6
 go_wp2_with fail
 go_loopg [4,5,6] n (fun q u t y wr=>∃ i:Nat,q+i=n/\t=J Z (suL (meL W C r i))/\y=J Z i/\RM wr base B co cb coff cc C W D av sv ⟨meR C r i,s.sv,s.ttl,s.sc⟩/\wr.ownsRow base 203 2 u (meL W C r i).length (mbC (meL W C r i))/\Below base w wr)
 case atStart=>exact ⟨0,by omega,rfl,rfl,f7.out,f2.out,g2.out⟩
 case round =>
  obtain ⟨i,hq,rfl,rfl,z,f,hb⟩:=hrel
  have HM:Hid _:=z
  have HU:Hid _:=f
  have a3:Hid (u4.ownBlock≠some B):=zk f z.blk (by decide)
  have HB:Hid _:=hb
  clear z hb f
  have h5:=ze9 C r i
  obtain ⟨h8,h2,h1,R⟩:=zfz (W:=W) a6.out r i
  by_cases h9:i<n
  ·have b4:(i:Int)<(n:Int):=by omega
   have h6:=Zp C (meR C r i) 1 0 63
   clear R
   go_wp2_with fail
   refine (xN base B co cb coff cc C W D av sv _ _ (by simp only;omega) HM.out).mono ?_
   rintro e w2 ⟨rfl,b2,U⟩
   have c8:Hid _:=b2
   have g1:Hid (Below base w w2):=HB.out.trans (U.below a4.out HM.out.bs)
   have f1:Hid (w2.ownsRow base 203 2 u4 (meL W C r i).length (mbC (meL W C r i))):=U.owns HU.out a3.out
   clear b2 U
   simp only
   go_wp2_with fail
   refine (yU base B co cb coff cc C W D av sv _ 2 1 1000 2 _ rfl (by decide) (by simp only;omega) c8.out).mono ?_
   rintro e Q ⟨rfl,a9,S⟩
   have F:Hid _:=a9
   have c9:Hid (Below base w Q):=g1.out.trans (S.below a4.out c8.out.bs)
   have A:Hid (Q.ownsRow base 203 2 u4 (meL W C r i).length (mbC (meL W C r i))):=S.owns f1.out a3.out
   clear a9 S
   simp only
   go_wp2_with fail
   refine (jY base B co cb coff cc C W D av sv _ _ _ F.out).mono ?_
   rintro e w' ⟨rfl,g9⟩
   subst w'
   have R:=Xf a6.out (num C (meR C r i) 1 0 63)
   have HT:Hid (meL W C r (i+1)=if upW W (rdN C (meR C r i) 1)=true then meL W C r i++[(rdN C (meR C r i) 1,rdN C (num C (meR C r i) 1 0 63) 2)] else meL W C r i):=rfl
   have b9:base<=Q.heap.size:=F.out.bs
   generalize rdN C (meR C r i) 1=x at *
   generalize rdN C (num C (meR C r i) 1 0 63) 2=y at *
   generalize hLL:meL W C r i=L at *
   clear hLL
   cases f:upW W x with
   | true =>
    have E:Hid (meL W C r (i+1)=L++[(x,y)]):=by show _=_;rw [HT.out,if_pos f]
    clear f
    have a1:Hid (L.length+1<=maxLen):=by show _<=_;unfold maxLen;omega
    have a0:Hid ((L.length+1)*16<=140737488355328):=by show _<=_;omega
    have I:Hid (base<=(Q.alloc (X #[J Z x,J Z y] 203)).heap.size):=by show _<=_;simp;omega
    have v:Hid (∀ u∈[J Z x,J Z y],u.oneCell'=true):=fun u f=>by simp at f;rcases f with rfl | rfl<;>rfl
    go_wp2_with (at_builtin;refine wpList_append_lies _ rfl _ _ 200 rfl base 203 j0 _ 2 16 Tryz.underlying200 e4 d7 d6 d5 rfl (by decide) u4 _ _ rfl (A.out.alloc _) ⟨Q.heap.size,0,none⟩ 1 1 [J Z x,J Z y] rfl rfl (World.news_of_block (cs:=#[J Z x,J Z y]) (t:=203) (fr:=(0,0)) (heap_alloc_new Q _)) v.out (Nat.lt_succ_self 0) a1.out a0.out I.out (Q.heap.size+1) (by simp) ?_;intro g a2 w4 j a Y b3)
    have f6:=(F.out.alloc (X #[J Z x,J Z y] 203)).grown a a3.out (zY (F.out.alloc (X #[J Z x,J Z y] 203)).row (A.out.alloc (X #[J Z x,J Z y] 203)) (by decide)) (fun k hk=>(A.out.lt k hk).1)
    have g0:=(c9.out.alloc b9 (X #[J Z x,J Z y] 203)).grown a I.out (fun k hk=>(A.out.lt k hk).1)
    have f0:Hid (w4.ownsRow base 203 2 (O (some ⟨g,0,none⟩) (L.length+1) a2) (meL W C r (i+1)).length (mbC (meL W C r (i+1)))):=by show World.ownsRow _ _ _ _ _ _ _;rw [E.out,List.length_append,Q6];exact j
    have f3:Hid (suL (meL W C r (i+1))=suL L+y):=by show _=_;rw [E.out,zab]
    clear j a Y
    go_roundg (gk-1)
    case measure=>omega
    case rel=>exact ⟨i+1,by omega,by rw [f3.out],by go_num,f6,f0.out,g0⟩
   | false =>
    have E:Hid (meL W C r (i+1)=L):=by show _=_;rw [HT.out,if_neg (by rw [f];decide)]
    clear f
    go_wp2_with fail
    go_roundg (gk-1)
    case measure=>omega
    case rel=>exact ⟨i+1,by omega,by rw [E.out],by go_num,F.out,by rw [E.out];exact A.out,c9.out⟩
  ·have e5:i=n:=by omega
   subst e5
   have b4:¬ (i:Int)<(i:Int):=by omega
   generalize hLL:meL W C r i=L at *
   have i4:Hid _:=hLL
   clear hLL
   by_cases hz:suL L<=0
   ·have HE:Hid (Zu W C s=(⟨meR C r i,s.sv,s.ttl,s.sc⟩,false)):=by show _=_;rw [c6.out,if_pos hz]
    generalize suL L=t at *
    go_wp2_with fail
    go_ret
    exact ⟨by rw [HE.out];rfl,⟨sv,by rw [HE.out];exact HM.out⟩,HB.out⟩
   ·have HE:Hid (Zu W C s=match pkL L (W.draw%suL L) with
     | some x=>(⟨meR C r i,s.sv++[x],s.ttl,s.sc⟩,true)
     | none=>(⟨meR C r i,s.sv,s.ttl,s.sc⟩,false)):=by show _=_;rw [c6.out,if_neg hz]
    have d4:0<suL L:=by omega
    have ht:W.draw.tmod (suL L)=W.draw%suL L:=Int.tmod_eq_emod_of_nonneg hd
    have e1:0<=W.draw%suL L:=Int.emod_nonneg _ (by omega)
    have h3:W.draw%suL L<suL L:=Int.emod_lt_of_pos _ d4
    have h7:¬ suL L=0:=by omega
    have c4:=HM.out.c4
    obtain ⟨uo,uc,e0,h0⟩:=z9 HU.out
    subst e0
    clear hz
    generalize hDD:W.draw%suL L=dd at *
    clear hDD
    generalize suL L=t at *
    go_wp2_with fail
    go_loopg [9,52] L.length (fun q rst y wz=>∃ (k:Nat) (m:Int),q+k=L.length/\rst=J Z m/\y=J Z k/\0<=m/\m<=20000000/\Hid (pkL L dd=pkL (L.drop k) m)/\RM wz base B co cb coff cc C W D av sv ⟨meR C r i,s.sv,s.ttl,s.sc⟩/\wz.ownsRow base 203 2 (O uo L.length uc) L.length (mbC L)/\Below base w wz)
    case atStart=>exact ⟨0,dd,by omega,rfl,rfl,e1,by omega,rfl,HM.out,HU.out,HB.out⟩
    case round =>
     obtain ⟨k,m,h4,rfl,rfl,b0,b1,HP,z,f,hb⟩:=hrel
     have N:Hid _:=z
     have K:Hid (wr.ownsRow base 203 2 (O uo L.length uc) L.length (mbC L)):=f
     have a5:Hid _:=hb
     clear z f hb
     by_cases hk:k<L.length
     ·obtain ⟨x,hx⟩:∃ x,L[k]?=some x:=⟨L[k],List.getElem?_eq_getElem hk⟩
      obtain ⟨ug,d0,a8,_,g3⟩:=K.out.form (by omega)
      obtain ⟨d9,g4⟩:uo=some ⟨ug,0,none⟩/\uc=d0:=by cases a8;exact ⟨rfl,rfl⟩
      subst d9
      have c5:=ye (fun x:Int×Int=>[J Z x.1,J Z x.2]) (fun _=>rfl) K.out hx 0 (by decide)
      have e8:=ye (fun x:Int×Int=>[J Z x.1,J Z x.2]) (fun _=>rfl) K.out hx 1 (by decide)
      have d8:=R x (List.mem_of_getElem? hx)
      have e3:(k:Int)<(L.length:Int):=by omega
      have i1:(0:Int)<=(k:Int):=by omega
      have b5:L.drop k=x::L.drop (k+1):=by
       rw [List.drop_eq_getElem_cons hk]
       rw [(List.getElem?_eq_some_iff.1 hx).2]
      obtain ⟨d,l⟩:=x
      simp only at c5 e8 d8
      simp only [Nat.add_zero] at c5
      have c7:Hid (pkL L dd=if m<l then some d else pkL (L.drop (k+1)) (m-l)):=by show _=_;rw [HP.out,b5];rfl
      have P:base<=wr.heap.size:=N.out.bs
      clear b5 hx a8
      by_cases V:m<l
      ·have G:Hid (Zu W C s=(⟨meR C r i,s.sv++[d],s.ttl,s.sc⟩,true)):=by show _=_;rw [HE.out,c7.out,if_pos V]
       have b:Hid (RM (wr.alloc (X #[J Z d,J Z l] 203)) base B co cb coff cc C W D av sv ⟨meR C r i,s.sv,s.ttl,s.sc⟩):=N.out.alloc _
       have a7:Hid (Below base w (wr.alloc (X #[J Z d,J Z l] 203))):=a5.out.alloc P _
       have k0:(wr.alloc (X #[J Z d,J Z l] 203)).cell? ⟨wr.heap.size,0,none⟩=some (J Z d):=by simp
       have g8:wr.heap.size<(wr.alloc (X #[J Z d,J Z l] 203)).heap.size:=by simp
       go_wp2_with fail
       generalize wr.alloc (X #[J Z d,J Z l] 203)=w5 at *
       have c72:=b.out.c72
       have g7:=b.out.fz 72
       have i2:=b.out.lt
       have b8:base<=w5.heap.size:=b.out.bs
       have a1:Hid (s.sv.length+1<=maxLen):=by show _<=_;unfold maxLen;omega
       have a0:Hid ((s.sv.length+1)*8<=140737488355328):=by show _<=_;omega
       have I:Hid (∀ o:Obj,base<=(w5.alloc o).drew.heap.size):=fun o=>by show base<=(w5.alloc o).heap.size;simp;omega
       have v:Hid (∀ u∈[J Z d],u.oneCell'=true):=fun u f=>by simp at f;subst f;rfl
       go_region_law ((refine step_append_lies _ (by rfl) _ _ _ (by rfl) base 3 i0 _ 1 8 Tryz.underlying25 e6 d3 d2 d1 rfl (by decide) sv _ _ (by rfl) ((b.out.row.alloc _).drew) ⟨w5.heap.size,0,none⟩ 1 1 [J Z d] (by rfl) (by rfl) (World.news_of_block (cs:=#[J Z d]) (t:=3) (fr:=(0,0)) (heap_alloc_new w5 _)) v.out (Nat.lt_succ_self 0) a1.out a0.out (I.out _) (w5.heap.size+1) (by simp) ?_;intro g a2 w4 j a Y b3;have zz:w4.frozen? ⟨B,72,none⟩=false:=(a.frozen_far ⟨B,72,none⟩ (by show B<(w5.alloc _).heap.size;simp;omega) (fun e=>b.out.ne e.symm)).trans (((b.out.alloc _).drew).fz 72);have i3:w4.cell? ⟨B,72,none⟩=some sv:=(a.cell_far ⟨B,72,none⟩ (by show B<(w5.alloc _).heap.size;simp;omega) (fun e=>b.out.ne e.symm)).trans ((b.out.alloc _).drew).c72))
       all_goals
        have f5:=((b.out.alloc (X #[J Z d] 3)).drew).push (ys:=[d]) (n:=s.sv.length+1) (by simp) a (by simpa using j)
        have f9:=((b.out.alloc (X #[J Z d] 3)).drew).pushB (u:=O (some ⟨g,0,none⟩) (s.sv.length+1) a2) ((a7.out.alloc b8 _).drew) a
        clear j a Y
        go_wp2_with fail
        go_ret
        exact ⟨by rw [G.out];rfl,⟨_,by rw [G.out];exact f5⟩,f9⟩
      ·have f4:Hid (pkL L dd=pkL (L.drop (k+1)) (m-l)):=by show _=_;rw [c7.out,if_neg V]
       have g5:l<=m:=by omega
       have b:=N.out.alloc (X #[J Z d,J Z l] 203)
       have a7:=a5.out.alloc P (X #[J Z d,J Z l] 203)
       have e9:=K.out.alloc (X #[J Z d,J Z l] 203)
       clear V
       go_wp2_with fail
       go_roundg (gk-1)
       case measure=>omega
       case rel=>exact ⟨k+1,m-l,by omega,by go_num,by go_num,by omega,by omega,f4,b,e9,a7⟩
     ·have e2:k=L.length:=by omega
      have e3:¬ (k:Int)<(L.length:Int):=by omega
      have G:Hid (Zu W C s=(⟨meR C r i,s.sv,s.ttl,s.sc⟩,false)):=by show _=_;rw [HE.out,HP.out,List.drop_eq_nil_of_le (by omega)];rfl
      clear e2
      go_wp2_with fail
      go_ret
      exact ⟨by rw [G.out];rfl,⟨sv,by rw [G.out];exact N.out⟩,a5.out⟩
end
theorem Jj (ao:Option Addr) (b n c:Nat) (V L:Nat->Int) (a:Int) (w:World) (a0:0<=a) (a1:a<4294967296) (hn:n<=255) (hs:PS w ao b n V L) (hp:∀ i,i<n->0<=L i/\L i<=255/\0<=V i/\V i<4294967296) :
 Calls Tryz.prog 114 #[O ao n c,J Z a] w fun e w'=>e=.returned (.tuple #[J Z (M.bestTo V L a n),J Z (M.depTo V L a n)])/\Below w.heap.size w w':=by
 go_enter Tryz.func114,Tryz.ntmps114
 go_wp2
 go_loopw [6,7,8,15] (fun x y z i wr=>∃ k:Nat,k<=n/\i=J Z k/\x=J Z (M.bestTo V L a k)/\y=J Z (M.bitsTo V L a k)/\z=J Z (M.depTo V L a k)/\Below w.heap.size w wr) (fun _ _ _ i _=>n-(intOf i).toNat)
 case atStart=>exact ⟨0,by omega,rfl,rfl,rfl,rfl,Below.refl _ _⟩
 case round =>
  obtain ⟨k,E,rfl,rfl,rfl,rfl,g⟩:=hrel
  by_cases f:k<n
  ·obtain rfl:=hs.at_ (by omega)
   have d:=hs.below g
   have A:=d.val k f
   have D:=d.len k f
   have s:b<wr.heap.size:=d.lt (by omega)
   have h:Hid (Below w.heap.size w wr):=g
   obtain ⟨v,u,o,m⟩:=hp k f
   have q:=M.sh_le (V k) a
   clear hs g d hp
   by_cases p:(M.sh (V k) a:Int)<L k
   ·have l:Hid (M.need V L a k=M.sh (V k) a+1):=by show _=_;unfold M.need;rw [if_pos p]
    by_cases r:M.depTo V L a k<M.sh (V k) a+1
    all_goals
     go_wp2_with (go_at_call 146;refine (YD _ _ _ o m a0 a1).mono ?_;rintro e w' ⟨rfl,rfl⟩)
     go_roundw
     case rel=>exact ⟨k+1,by omega,by go_num,yr (M.step_best _ _ _ _ _ (by rw [if_neg (by omega)])),yr (M.step_bits _ _ _ _ _ (by rw [if_neg (by omega)])),yr (M.step_dep _ _ _ _ _ _ l.out (by split<;>omega)),h.out.trans (Below.mono (B:=wr.heap.size) (by repeat (first | exact Below.refl _ _ | refine zL ?_ _ | refine Below.drew ?_ | refine Below.alloc ?_ (by simp) _ | refine Below.setCell ?_ (by simp) _)) h.out.size)⟩
     case measure=>simp [intOf];omega
   ·have l:Hid (M.need V L a k=L k):=by show _=_;unfold M.need;rw [if_neg p]
    by_cases r:M.depTo V L a k<L k
    all_goals
     by_cases C:M.bitsTo V L a k<L k
     all_goals
      go_wp2_with (go_at_call 146;refine (YD _ _ _ o m a0 a1).mono ?_;rintro e w' ⟨rfl,rfl⟩)
      go_roundw
      case rel=>exact ⟨k+1,by omega,by go_num,yr (M.step_best _ _ _ _ _ (by split<;>omega)),yr (M.step_bits _ _ _ _ _ (by split<;>omega)),yr (M.step_dep _ _ _ _ _ _ l.out (by split<;>omega)),h.out.trans (Below.mono (B:=wr.heap.size) (by repeat (first | exact Below.refl _ _ | refine zL ?_ _ | refine Below.drew ?_ | refine Below.alloc ?_ (by simp) _ | refine Below.setCell ?_ (by simp) _)) h.out.size)⟩
      case measure=>simp [intOf];omega
  ·have j:k=n:=by omega
   subst j
   go_wp2
   go_ret2
   exact ⟨rfl,g⟩
def amA (C:List Int) (r:RD):Nat->List (Int×Int)
 | 0=>[]
 | i+1=>amA C r i++[(arV C r i,arL C r i)]
def amW (C:List Int) (r:RD):Nat->List Int
 | 0=>[]
 | i+1=>amW C r i++[arW C r i]
theorem qq (C:List Int) (r:RD):∀ i,(amA C r i).length=i:=by
 intro i
 induction i with
 | zero=>rfl
 | succ i ih=>simp [amA,ih]
theorem qp (C:List Int) (r:RD):∀ i,(amW C r i).length=i:=by
 intro i
 induction i with
 | zero=>rfl
 | succ i ih=>simp [amW,ih]
theorem zdD (C:List Int) (r:RD):∀ n i,i<n->(amA C r n)[i]?=some (arV C r i,arL C r i):=by
 intro n
 induction n with
 | zero=>intro i h;omega
 | succ n ih =>
  intro i h
  simp only [amA]
  by_cases a:i<n
  ·rw [List.getElem?_append_left (by rw [qq];exact a)];exact ih i a
  ·have:i=n:=by omega
   subst this
   rw [List.getElem?_append_right (by rw [qq];exact Nat.le_refl _),qq];simp
theorem zfP (C:List Int) (r:RD):∀ n i,i<n->(amW C r n)[i]?=some (arW C r i):=by
 intro n
 induction n with
 | zero=>intro i h;omega
 | succ n ih =>
  intro i h
  simp only [amW]
  by_cases a:i<n
  ·rw [List.getElem?_append_left (by rw [qp];exact a)];exact ih i a
  ·have:i=n:=by omega
   subst this
   rw [List.getElem?_append_right (by rw [qp];exact Nat.le_refl _),qp];simp
theorem zfd (C:List Int) (r:RD):∀ i,r.p<=(amR C r i).p/\(amR C r i).p<=r.p+7*i:=by
 intro i
 induction i with
 | zero=>simp [amR]
 | succ i ih =>
  have f:=Zp C (amR C r i) 4 0 4294967295
  have e:=Zp C (amV C (amR C r i)) 1 0 32
  have d:=Zp C (amL C (amR C r i)) 2 0 32000
  have b:(amL C (amR C r i)).p=(num C (amV C (amR C r i)) 1 0 32).p:=rfl
  have a:(amV C (amR C r i)).p=(num C (amR C r i) 4 0 4294967295).p:=rfl
  simp only [amR];omega
theorem qa {C:List Int} (h:∀ x∈C,0<=x/\x<256) (r:RD):0<=rdN C r 1/\rdN C r 1<=255:=by
 have b:=qG h r 1
 have a:yV 1=256:=by decide
 rw [a] at b
 omega
theorem QY {C:List Int} (h:∀ x∈C,0<=x/\x<256) (r:RD):0<=rdN C r 4/\rdN C r 4<4294967296:=by
 have b:=qG h r 4
 have a:yV 4=4294967296:=by decide
 rw [a] at b
 omega
theorem RM.keep {w w':World} {base B:Nat} {co:Option Addr} {cb coff cc:Nat} {C:List Int} {W:RW} {D:Array Value} {av sv:Value} {s:RT} (h:RM w base B co cb coff cc C W D av sv s) (hk:w'.heap[B]?=w.heap[B]?) (hs:∀ g,sv.ownBlock=some g->w'.heap[g]?=w.heap[g]?) (hc:∀ b,b<base->w'.heap[b]?=w.heap[b]?):RM w' base B co cb coff cc C W D av sv s :=
 ⟨hk.trans h.blk,h.dsz,h.dn,zh h.row hs,h.hB,h.code.of_kept hc⟩
theorem XB {P:Program} (w:World) {ops:Array Oper} {o:Oper} {a:Act} {K:Act->World->Prop} {Q:Exit->Act->World->Prop} {E:Prop} (hgd:o.guard=none) (s x:Operand) (t:TypeId)
 (ho:o.op=.call { callee:=.builtin .append,args:=#[s,x],argTypes:=#[t,t] })
 (e:TypeId) (i:TypeInfo) (ht:P.underlying t=some (.slice e)) (hi:P.info? e=some i)
 (so:Option Addr) (n cap:Nat) (hs:a.eval s=O so n cap) (xo:Option Addr) (c:Nat) (hx:a.eval x=O xo 0 c) (hn:n<=cap)
 (h:K (a.put o.dst (O so n cap)) w) :
 if Region.wanted o (yielded ops a.tmps)=true then Oper.wp P o a w K Q else E:=by
 have d:Region.wanted o (yielded ops a.tmps)=true:=by simp [Region.wanted,hgd]
 rw [if_pos d]
 have b:=ZT (P:=P) w t o.type e i ht hi so n cap xo c hn
 unfold Oper.wp execOp
 simp only [ho,resolve,invoke,builtin,Sem.run_bind,Sem.run_pure,Result.andThen_ok,List.map_toArray,List.map_cons,List.map_nil,hs,hx,b]
 exact h
theorem zbV (base B:Nat) (co:Option Addr) (cb coff cc:Nat) (C:List Int) (W:RW) (D:Array Value) (ao:Option Addr) (ab aoff ac:Nat) (sv:Value) (s:RT) (w:World) (hp:s.r.p<=900000000000000000) (hsv:s.sv=[]) (hal:AS w base ao ab aoff W.al) (hln:W.al.length<=9223372036854775807) (h:RM w base B co cb coff cc C W D (O ao W.al.length ac) sv s) :
 Calls Tryz.prog 112 #[.pointer (some ⟨B,0,none⟩)] w fun e w'=>e=.returned (.tuple #[])/\(∃ sv',RM w' base B co cb coff cc C W D (O ao W.al.length ac) sv' (ZY W C s))/\Below base w w':=by
 obtain ⟨i0,S,a2,a1,a0⟩:=info_parts Tryz.infoInt
 have H:Hid _:=h
 have b1:Hid (∀ x∈C,0<=x/\x<256):=h.code.byt
 have b2:Hid _:=h.bs
 have b0:Hid (base<=B):=h.hB
 have b3:Hid _:=hal
 have U:Hid _:=hsv
 clear h hal hsv
 go_enter Tryz.func112,Tryz.ntmps112
 go_wp2_with fail
 refine (yU base B co cb coff cc C W D _ sv s 1 0 15 1 _ rfl (by decide) hp H.out).mono ?_
 rintro e z ⟨rfl,P,hv⟩
 have a:Hid _:=P
 have i:Hid (Below base w z):=hv.below b0.out b2.out
 have I:Hid (AS z base ao ab aoff W.al):=b3.out.of_kept (fun b hb=>i.out.block b hb)
 have c69:=P.c69
 have c72:=P.c72
 have b6:=P.fz 72
 clear P hv
 have b7:=qa b1.out s.r
 have E:Hid (ZY W C s=⟨num C s.r 1 0 15,s.sv++(W.al[(rdN C s.r 1).toNat]?).getD [],s.ttl,s.sc⟩):=rfl
 generalize hk0:rdN C s.r 1=k at *
 clear hk0
 obtain ⟨k,rfl⟩:∃ q:Nat,k=q:=⟨k.toNat,by omega⟩
 rw [Int.toNat_natCast] at E
 have b9:(0:Int)<=(k:Int):=by omega
 by_cases hk:k<W.al.length
 ·obtain ⟨l,V⟩:∃ l,W.al[k]?=some l:=⟨W.al[k],List.getElem?_eq_getElem hk⟩
  have v:(k:Int)<(W.al.length:Int):=by omega
  obtain ⟨lo,lc,c5,A⟩:=I.out.val k l V
  obtain rfl:=I.out.at_ (by omega)
  have y:l.length*8<=140737488355328:=Nat.le_trans (I.out.len l (List.mem_of_getElem? V)) (by decide)
  have X:Hid (ZY W C s=⟨num C s.r 1 0 15,s.sv++l,s.ttl,s.sc⟩):=by show _=_;rw [E.out,V];rfl
  clear V
  go_wp2_with fail
  rcases Nat.eq_zero_or_pos l.length with h0 | h0
  ·have R:l=[]:=List.eq_nil_of_length_eq_zero h0
   subst R
   obtain ⟨Y,f,K,L⟩:=z9 a.out.row
   simp only at K L
   subst K
   clear A
   go_region_law ((refine XB _ (by rfl) _ _ _ (by rfl) 3 i0 Tryz.underlying25 S Y s.sv.length f (by rfl) lo lc (by rfl) L ?_))
   all_goals
    have F:=(a.out.drew).push (ys:=[]) (n:=s.sv.length) (oo:=Y) (cap:=f) (by simp) (w4:=z.drew) ⟨rfl,rfl,rfl,Nat.le_refl _,fun _ _ _=>rfl⟩ (by simpa using a.out.drew.row)
    have G:=(a.out.drew).pushB (u:=O Y s.sv.length f) (w4:=z.drew) (i.out.drew) ⟨rfl,rfl,rfl,Nat.le_refl _,fun _ _ _=>rfl⟩
    go_wp2_with fail
    go_end0
    exact ⟨rfl,⟨_,by rw [X.out];exact F⟩,G⟩
  ·obtain ⟨lb,m,a3,b8,Q⟩:=A h0
   subst a3
   have a9:Hid (∀ (j:Nat) (u:Value),(l.map (J Z))[j]?=some u->z.cell? ((⟨lb,m,none⟩:Addr).add j)=some u):=fun j u hu=>by
    rw [List.getElem?_map] at hu
    cases hx:l[j]? with
    | none=>rw [hx] at hu;cases hu
    | some x=>rw [hx] at hu;cases hu;rw [Addr.add_lit];exact Q j x hx
   have a8:Hid (s.sv.length+l.length<=maxLen):=by show _<=_;rw [U.out];unfold maxLen;simp;omega
   have a7:Hid ((s.sv.length+l.length)*8<=140737488355328):=by show _<=_;rw [U.out];simpa using y
   have a6:Hid (base<=z.drew.heap.size):=a.out.bs
   have N:Hid (∀ u∈l.map (J Z),u.oneCell'=true):=fun u hu=>by simp only [List.mem_map] at hu;obtain ⟨x,_,rfl⟩:=hu;rfl
   have a4:Hid ((l.map (J Z)).length=l.length*1):=by show _=_;simp
   have H0:Hid _:=h0
   clear A Q y h0
   go_region_law ((refine step_append_lies _ (by rfl) _ _ _ (by rfl) base 3 i0 _ 1 8 Tryz.underlying25 S a2 a1 a0 rfl (by decide) sv _ _ (by rfl) (a.out.row.drew) ⟨lb,m,none⟩ l.length lc (l.map (J Z)) (by rfl) a4.out a9.out N.out H0.out a8.out a7.out a6.out z.heap.size (by rfl) ?_;intro g cap w4 o d a5 b5;have zz:w4.frozen? ⟨B,72,none⟩=false:=(d.frozen_far ⟨B,72,none⟩ a.out.lt (fun e=>a.out.ne e.symm)).trans ((a.out.drew).fz 72);have c6:w4.cell? ⟨B,72,none⟩=some sv:=(d.cell_far ⟨B,72,none⟩ a.out.lt (fun e=>a.out.ne e.symm)).trans (a.out.drew).c72))
   all_goals
    have F:=(a.out.drew).push (ys:=l) (n:=s.sv.length+l.length) (by simp) d (by rw [List.map_append];exact o)
    have G:=(a.out.drew).pushB (u:=O (some ⟨g,0,none⟩) (s.sv.length+l.length) cap) (i.out.drew) d
    clear o d a5
    go_wp2_with fail
    go_end0
    exact ⟨rfl,⟨_,by rw [X.out];exact F⟩,G⟩
 ·have v:¬ (k:Int)<(W.al.length:Int):=by omega
  have b4:decide ((k:Int)<(W.al.length:Int))=false:=decide_eq_false v
  have X:Hid (ZY W C s=⟨num C s.r 1 0 15,s.sv,s.ttl,s.sc⟩):=by show _=_;rw [E.out,List.getElem?_eq_none (by omega)];simp
  go_wp2_with fail
  go_end0
  exact ⟨rfl,⟨sv,by rw [X.out];exact a.out⟩,i.out⟩
end Go.Proofs.YtaebngpoagjafabGreat
