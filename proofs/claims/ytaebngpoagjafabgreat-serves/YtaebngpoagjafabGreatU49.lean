import Derived.Test.YtaebngpoagjafabGreatU48
set_option maxRecDepth 100000
set_option maxHeartbeats 1600000
namespace Go.Proofs.YtaebngpoagjafabGreat
open Obj renaming cells → U
open Value renaming int → Z, slice → X
open IntKind renaming i64 → O
open Go.RowKit
attribute [local go_sem ↓] Go.wp_at_zero Go.wp_at_succ
theorem zbe (B0:Nat) (Q:World->Prop) (hQ:∀ w w',Q w->Below w.heap.size w w'->Q w') (P:Value) (t a b:ByteArray) (x:WD) (K:Int) (m:MN) (w:World) (hB0:B0<=w.heap.size) (hs:t.size<=2000) (h:T.ch t 0=119) (h3:3<=t.size) (ha:(spl (t.extract 2 (t.size-1)) 124)[0]?=some a) (hb:(spl (t.extract 2 (t.size-1)) 124)[1]?=some b) (hx:Q w)
 (hp:∀ wz io ic,(∀ i z,(spl a 44)[i]?=some z->wz.cell? ⟨io,i,none⟩=some (.string z))->io<wz.heap.size->Q wz->Calls Tryz.prog 153 #[.agg #[Z O x.a,Z O x.b,Z O x.d,X x.do_ x.dl x.dc,X x.ao x.al.length x.ac,X x.po x.pl x.pcp],X (some ⟨io,0,none⟩) (spl a 44).length ic] wz fun e w'=>Below wz.heap.size wz w'/\e=.returned (Z O K))
 (ih:K<0->∀ wz,Q wz->Calls Tryz.prog 117 #[P,.string b,x.val] wz (ZW B0 wz m)) (hm:0<=K->m=⟨[K],86400,0⟩) :
 Calls Tryz.prog 117 #[P,.string t,x.val] w (ZW B0 w m):=by
 obtain ⟨h0,hc⟩:=Zj h (by decide)
 have a8:(3:Int)<=(t.size:Int):=by omega
 have a7:(t.size:Int)<=2000:=by omega
 have a4:Hid (∀ wz,Calls Tryz.prog 101 #[.string t] wz fun e w'=>Below wz.heap.size wz w'/\∃ v,e=.returned (.tuple #[v,.string b])/\w'.ownsRow wz.heap.size 9 1 v (spl a 44).length ((spl a 44).map Value.string)):=fun wz=>Z1 t a b wz hs h3 ha hb
 have IH:Hid _:=ih
 have HQ:Hid _:=hQ
 have J:Hid _:=hx
 have a5:Hid _:=hp
 have HM:Hid _:=hm
 have a6:Hid (0<(spl a 44).length):=Zd _ _
 clear hp ih ha hb hx hQ hm
 generalize spl a 44=L at *
 unfold WD.val at IH ⊢
 have R:Hid (Below w.heap.size w ((w.alloc (U #[Z O x.a,Z O x.b,Z O x.d,X x.do_ x.dl x.dc,X x.ao x.al.length x.ac,X x.po x.pl x.pcp] 31)).alloc (U #[X none 0 0,Z O 0,Z O 0] 42))):=((Below.refl _ _).alloc (Nat.le_refl _) _).alloc (by simp) _
 have G:Hid (((w.alloc (U #[Z O x.a,Z O x.b,Z O x.d,X x.do_ x.dl x.dc,X x.ao x.al.length x.ac,X x.po x.pl x.pcp] 31)).alloc (U #[X none 0 0,Z O 0,Z O 0] 42)).heap[w.heap.size]?=some (U #[Z O x.a,Z O x.b,Z O x.d,X x.do_ x.dl x.dc,X x.ao x.al.length x.ac,X x.po x.pl x.pcp] 31 (0,0))):=by show _=_;rw [Below.heap_alloc _ _ _ (by simp)];exact heap_alloc_new w _
 have I:Hid (((w.alloc (U #[Z O x.a,Z O x.b,Z O x.d,X x.do_ x.dl x.dc,X x.ao x.al.length x.ac,X x.po x.pl x.pcp] 31)).alloc (U #[X none 0 0,Z O 0,Z O 0] 42)).heap[w.heap.size+1]?=some (U #[X none 0 0,Z O 0,Z O 0] 42 (0,0))):=zu _ (by simp)
 go_enter Tryz.func117,Tryz.ntmps117
 go_wp2_with fail
 refine (a4.out _).mono ?_
 rintro e w1 ⟨u,v,rfl,p⟩
 have D:Hid _:=R.out.trans (u.mono R.out.size)
 have y:Hid _:=(u.block _ (lt_of_block G.out)).trans G.out
 have H:Hid _:=(u.block _ (lt_of_block I.out)).trans I.out
 obtain ⟨g,a2,rfl,_,a0⟩:=z8 p a6.out
 have N:=a5.out w1 g a2 (fun i z hz=>yf p hz) a0 (HQ.out _ _ J.out D.out)
 obtain ⟨q0,q1,Y,W,V,S⟩:=ld6 y.out rfl
 clear u p
 generalize L.length=n at *
 go_wp2_with fail
 refine N.mono ?_
 rintro e w2 ⟨s,rfl⟩
 have r:Hid _:=D.out.trans (s.mono D.out.size)
 have a3:Hid _:=(s.block _ (lt_of_block y.out)).trans y.out
 have l:Hid _:=(s.block _ (lt_of_block H.out)).trans H.out
 clear s N q0 q1 Y W V S
 by_cases hk:K<0
 ·obtain ⟨q0,q1,Y,W,V,S⟩:=ld6 a3.out rfl
  go_wp2_with fail
  refine (IH.out hk _ (HQ.out _ _ J.out r.out)).mono ?_
  rintro e w3 ⟨j,o,k,gi,gf,rfl,E,F⟩
  have C:Hid _:=r.out.trans (j.mono r.out.size)
  have q:Hid _:=(j.block _ (lt_of_block l.out)).trans l.out
  have A:Hid _:=E
  have B:Hid (0<m.sv.length->gi<B0\/w.heap.size+2<=gi):=fun h0=>by
   have h1:=F h0
   have h2:=lt_of_block l.out
   omega
  clear j E F q0 q1 Y W V S
  obtain ⟨y0,y1,y2,z0,z1,z2⟩:=ld3 q.out
  go_wp2_with fail
  exact yH (k:=k) (m:=m) C.out q.out A.out hB0 B.out rfl
 ·obtain rfl:=HM.out (by omega)
  go_wp2_with fail
  refine (QO K _).mono ?_
  rintro e w3 ⟨j,gi,rfl,a1,f⟩
  have C:Hid _:=r.out.trans (j.mono r.out.size)
  have q:Hid _:=(j.block _ (lt_of_block l.out)).trans l.out
  have A:Hid (IS w3 (some ⟨gi,0,none⟩) gi 0 ([K]:List Int).length (fun i=>(([K]:List Int)[i]?).getD 0)):=⟨fun _=>rfl,fun _=>yw f,fun i hi=>by
   obtain rfl:i=0:=by simp at hi;omega
   simpa using f⟩
  have B:Hid (0<([K]:List Int).length->gi<B0\/w.heap.size+2<=gi):=fun _=>.inr (by
   have h2:=lt_of_block l.out
   omega)
  clear j a1 f
  obtain ⟨y0,y1,y2,z0,z1,z2⟩:=ld3 q.out
  go_wp2_with fail
  exact yH (o:=some ⟨gi,0,none⟩) (k:=1) (m:=⟨[K],86400,0⟩) C.out q.out A.out hB0 B.out rfl
theorem JJ (B0:Nat) (Q:World->Prop) (hQ:∀ w w',Q w->Below w.heap.size w w'->Q w') (P:Value) (t a b:ByteArray) (x:WD) (K:Int) (m:MN) (w:World) (hB0:B0<=w.heap.size) (hs:t.size<=2000) (h:T.ch t 0=102) (h3:3<=t.size) (ha:(spl (t.extract 2 (t.size-1)) 124)[0]?=some a) (hb:(spl (t.extract 2 (t.size-1)) 124)[1]?=some b) (hx:Q w)
 (hp:∀ wz io ic,(∀ i z,(spl a 44)[i]?=some z->wz.cell? ⟨io,i,none⟩=some (.string z))->io<wz.heap.size->Q wz->Calls Tryz.prog 154 #[.agg #[Z O x.a,Z O x.b,Z O x.d,X x.do_ x.dl x.dc,X x.ao x.al.length x.ac,X x.po x.pl x.pcp],X (some ⟨io,0,none⟩) (spl a 44).length ic] wz fun e w'=>Below wz.heap.size wz w'/\e=.returned (Z O K))
 (ih:K<0->∀ wz,Q wz->Calls Tryz.prog 117 #[P,.string b,x.val] wz (ZW B0 wz m)) (hm:0<=K->m=⟨[K],86400,0⟩) :
 Calls Tryz.prog 117 #[P,.string t,x.val] w (ZW B0 w m):=by
 obtain ⟨h0,hc⟩:=Zj h (by decide)
 have a8:(3:Int)<=(t.size:Int):=by omega
 have a7:(t.size:Int)<=2000:=by omega
 have a4:Hid (∀ wz,Calls Tryz.prog 101 #[.string t] wz fun e w'=>Below wz.heap.size wz w'/\∃ v,e=.returned (.tuple #[v,.string b])/\w'.ownsRow wz.heap.size 9 1 v (spl a 44).length ((spl a 44).map Value.string)):=fun wz=>Z1 t a b wz hs h3 ha hb
 have IH:Hid _:=ih
 have HQ:Hid _:=hQ
 have J:Hid _:=hx
 have a5:Hid _:=hp
 have HM:Hid _:=hm
 have a6:Hid (0<(spl a 44).length):=Zd _ _
 clear hp ih ha hb hx hQ hm
 generalize spl a 44=L at *
 unfold WD.val at IH ⊢
 have R:Hid (Below w.heap.size w ((w.alloc (U #[Z O x.a,Z O x.b,Z O x.d,X x.do_ x.dl x.dc,X x.ao x.al.length x.ac,X x.po x.pl x.pcp] 31)).alloc (U #[X none 0 0,Z O 0,Z O 0] 42))):=((Below.refl _ _).alloc (Nat.le_refl _) _).alloc (by simp) _
 have G:Hid (((w.alloc (U #[Z O x.a,Z O x.b,Z O x.d,X x.do_ x.dl x.dc,X x.ao x.al.length x.ac,X x.po x.pl x.pcp] 31)).alloc (U #[X none 0 0,Z O 0,Z O 0] 42)).heap[w.heap.size]?=some (U #[Z O x.a,Z O x.b,Z O x.d,X x.do_ x.dl x.dc,X x.ao x.al.length x.ac,X x.po x.pl x.pcp] 31 (0,0))):=by show _=_;rw [Below.heap_alloc _ _ _ (by simp)];exact heap_alloc_new w _
 have I:Hid (((w.alloc (U #[Z O x.a,Z O x.b,Z O x.d,X x.do_ x.dl x.dc,X x.ao x.al.length x.ac,X x.po x.pl x.pcp] 31)).alloc (U #[X none 0 0,Z O 0,Z O 0] 42)).heap[w.heap.size+1]?=some (U #[X none 0 0,Z O 0,Z O 0] 42 (0,0))):=zu _ (by simp)
 go_enter Tryz.func117,Tryz.ntmps117
 go_wp2_with fail
 refine (a4.out _).mono ?_
 rintro e w1 ⟨u,v,rfl,p⟩
 have D:Hid _:=R.out.trans (u.mono R.out.size)
 have y:Hid _:=(u.block _ (lt_of_block G.out)).trans G.out
 have H:Hid _:=(u.block _ (lt_of_block I.out)).trans I.out
 obtain ⟨g,a2,rfl,_,a0⟩:=z8 p a6.out
 have N:=a5.out w1 g a2 (fun i z hz=>yf p hz) a0 (HQ.out _ _ J.out D.out)
 obtain ⟨q0,q1,Y,W,V,S⟩:=ld6 y.out rfl
 clear u p
 generalize L.length=n at *
 go_wp2_with fail
 refine N.mono ?_
 rintro e w2 ⟨s,rfl⟩
 have r:Hid _:=D.out.trans (s.mono D.out.size)
 have a3:Hid _:=(s.block _ (lt_of_block y.out)).trans y.out
 have l:Hid _:=(s.block _ (lt_of_block H.out)).trans H.out
 clear s N q0 q1 Y W V S
 by_cases hk:K<0
 ·obtain ⟨q0,q1,Y,W,V,S⟩:=ld6 a3.out rfl
  go_wp2_with fail
  refine (IH.out hk _ (HQ.out _ _ J.out r.out)).mono ?_
  rintro e w3 ⟨j,o,k,gi,gf,rfl,E,F⟩
  have C:Hid _:=r.out.trans (j.mono r.out.size)
  have q:Hid _:=(j.block _ (lt_of_block l.out)).trans l.out
  have A:Hid _:=E
  have B:Hid (0<m.sv.length->gi<B0\/w.heap.size+2<=gi):=fun h0=>by
   have h1:=F h0
   have h2:=lt_of_block l.out
   omega
  clear j E F q0 q1 Y W V S
  obtain ⟨y0,y1,y2,z0,z1,z2⟩:=ld3 q.out
  go_wp2_with fail
  exact yH (k:=k) (m:=m) C.out q.out A.out hB0 B.out rfl
 ·obtain rfl:=HM.out (by omega)
  go_wp2_with fail
  refine (QO K _).mono ?_
  rintro e w3 ⟨j,gi,rfl,a1,f⟩
  have C:Hid _:=r.out.trans (j.mono r.out.size)
  have q:Hid _:=(j.block _ (lt_of_block l.out)).trans l.out
  have A:Hid (IS w3 (some ⟨gi,0,none⟩) gi 0 ([K]:List Int).length (fun i=>(([K]:List Int)[i]?).getD 0)):=⟨fun _=>rfl,fun _=>yw f,fun i hi=>by
   obtain rfl:i=0:=by simp at hi;omega
   simpa using f⟩
  have B:Hid (0<([K]:List Int).length->gi<B0\/w.heap.size+2<=gi):=fun _=>.inr (by
   have h2:=lt_of_block l.out
   omega)
  clear j a1 f
  obtain ⟨y0,y1,y2,z0,z1,z2⟩:=ld3 q.out
  go_wp2_with fail
  exact yH (o:=some ⟨gi,0,none⟩) (k:=1) (m:=⟨[K],86400,0⟩) C.out q.out A.out hB0 B.out rfl
theorem zbf (B0:Nat) (Q:World->Prop) (hQ:∀ w w',Q w->Below w.heap.size w w'->Q w') (P:Value) (t y:ByteArray) (c:Int) (x:WD) (m:MN) (w:World) (hB0:B0<=w.heap.size) (h:T.ch t 0=61) (h1:T.ch t 1=c) (hc0:0<=c) (hs:t.size<=2000) (hx:Q w)
 (hp:∀ wz,Q wz->Calls Tryz.prog 152 #[P,Z .u8 c] wz fun e w'=>w'=wz/\e=.returned (.string y))
 (ih:∀ wz,Q wz->Calls Tryz.prog 117 #[P,.string y,x.val] wz (ZW B0 wz m)) :
 Calls Tryz.prog 117 #[P,.string t,x.val] w (ZW B0 w m):=by
 obtain ⟨L,hc⟩:=Zj h (by decide)
 obtain ⟨h2,a1⟩:=Zj h1 hc0
 have a2:(1:Int)<(t.size:Int):=by omega
 have a3:(t.size:Int)<=2000:=by omega
 have N:Hid _:=ih
 have HQ:Hid _:=hQ
 have B:Hid _:=hx
 have A:Hid _:=hp
 clear hp ih hx hQ
 unfold WD.val at N ⊢
 have i:Hid (Below w.heap.size w ((w.alloc (U #[Z O x.a,Z O x.b,Z O x.d,X x.do_ x.dl x.dc,X x.ao x.al.length x.ac,X x.po x.pl x.pcp] 31)).alloc (U #[X none 0 0,Z O 0,Z O 0] 42))):=((Below.refl _ _).alloc (Nat.le_refl _) _).alloc (by simp) _
 have j:Hid (((w.alloc (U #[Z O x.a,Z O x.b,Z O x.d,X x.do_ x.dl x.dc,X x.ao x.al.length x.ac,X x.po x.pl x.pcp] 31)).alloc (U #[X none 0 0,Z O 0,Z O 0] 42)).heap[w.heap.size]?=some (U #[Z O x.a,Z O x.b,Z O x.d,X x.do_ x.dl x.dc,X x.ao x.al.length x.ac,X x.po x.pl x.pcp] 31 (0,0))):=by show _=_;rw [Below.heap_alloc _ _ _ (by simp)];exact heap_alloc_new w _
 have s:Hid (((w.alloc (U #[Z O x.a,Z O x.b,Z O x.d,X x.do_ x.dl x.dc,X x.ao x.al.length x.ac,X x.po x.pl x.pcp] 31)).alloc (U #[X none 0 0,Z O 0,Z O 0] 42)).heap[w.heap.size+1]?=some (U #[X none 0 0,Z O 0,Z O 0] 42 (0,0))):=zu _ (by simp)
 go_enter Tryz.func117,Tryz.ntmps117
 go_wp2_with fail
 generalize (w.alloc (U #[Z O x.a,Z O x.b,Z O x.d,X x.do_ x.dl x.dc,X x.ao x.al.length x.ac,X x.po x.pl x.pcp] 31)).alloc (U #[X none 0 0,Z O 0,Z O 0] 42)=w1 at *
 obtain ⟨K,J,I,H,G,F⟩:=ld6 j.out rfl
 have f:w.heap.size+1≠w.heap.size:=by omega
 have z:=lt_of_block s.out
 have u:Hid (∀ wz,Below w1.heap.size w1 wz->Q wz):=fun wz hz=>HQ.out _ _ B.out (i.out.trans (hz.mono i.out.size))
 go_region_held3 (fun w'=>w'.cell? ⟨w.heap.size,0,none⟩=some (Z O x.a)/\w'.cell? ⟨w.heap.size,1,none⟩=some (Z O x.b)/\w'.cell? ⟨w.heap.size,2,none⟩=some (Z O x.d)/\w'.cell? ⟨w.heap.size,3,none⟩=some (X x.do_ x.dl x.dc)/\w'.cell? ⟨w.heap.size,4,none⟩=some (X x.ao x.al.length x.ac)/\w'.cell? ⟨w.heap.size,5,none⟩=some (X x.po x.pl x.pcp)) (first | (exact ⟨K,J,I,H,G,F⟩) | (exact g) | (exact ⟨zt f (zt f (zt f g.1 _ _) _ _) _ _,zt f (zt f (zt f g.2.1 _ _) _ _) _ _,zt f (zt f (zt f g.2.2.1 _ _) _ _) _ _,zt f (zt f (zt f g.2.2.2.1 _ _) _ _) _ _,zt f (zt f (zt f g.2.2.2.2.1 _ _) _ _) _ _,zt f (zt f (zt f g.2.2.2.2.2 _ _) _ _) _ _⟩) | go_keep) (first | (go_at_call 152;refine (A.out _ (u.out _ (by first | exact (Below.refl _ _).drew | exact Below.refl _ _))).mono ?_;rintro e w' ⟨a0,rfl⟩;subst w') | (go_at_call 117;refine (N.out _ (u.out _ (by first | exact (Below.refl _ _).drew | exact Below.refl _ _))).mono ?_;rintro e v ⟨q,o,k,gi,gf,rfl,n,p⟩;have l:Hid (Below w1.heap.size w1 v):=(Below.refl _ _).drew.trans (q.mono (Nat.le_refl _));have g:=ld6 j.out (l.out.block _ (lt_of_block j.out));have r:Hid (v.heap[w.heap.size+1]?=some (U #[X none 0 0,Z O 0,Z O 0] 42 (0,0))):=(l.out.block _ z).trans s.out;obtain ⟨y0,Y,W,V,S,R⟩:=ld3 r.out))
 all_goals
  have C:Hid _:=n
  have D:Hid (0<m.sv.length->gi<B0\/w.heap.size+2<=gi):=fun L=>by
   have h1:=p L
   have h5:w1.drew.heap.size=w1.heap.size:=rfl
   omega
  have E:Hid (Below w.heap.size w v):=i.out.trans (l.out.mono i.out.size)
  clear n p q y0 Y W V S R g K J I H G F
  go_wp2_with fail
  exact yH (k:=k) (m:=m) E.out r.out C.out hB0 D.out rfl
theorem zcO (B0:Nat) (Q:World->Prop) (hQ:∀ w w',Q w->Below w.heap.size w w'->Q w') (P:Value) (t a b:ByteArray) (nv:Int) (x:WD) (m:MN) (w:World) (hB0:B0<=w.heap.size) (hs:t.size<=2000) (h:T.ch t 0=116) (h3:3<=t.size) (haa:(spl (t.extract 2 (t.size-1)) 44)[0]?=some a) (hbb:(spl (t.extract 2 (t.size-1)) 44)[1]?=some b) (hd:T.digs a) (hd9:a.size<=9) (hv:T.val a a.size=nv) (hx:Q w)
 (ih:∀ wz,Q wz->Calls Tryz.prog 117 #[P,.string b,x.val] wz (ZW B0 wz m)) :
 Calls Tryz.prog 117 #[P,.string t,x.val] w (ZW B0 w ⟨m.sv,if nv<m.ttl then nv else m.ttl,m.sc⟩):=by
 obtain ⟨h0,hc⟩:=Zj h (by decide)
 have d3:(3:Int)<=(t.size:Int):=by omega
 have d2:(t.size:Int)<=2000:=by omega
 have b5:(t.extract 2 (t.size-1)).size<=2000:=by rw [yd t _ _ (by omega)];omega
 have IH:Hid _:=ih
 have HQ:Hid _:=hQ
 have b9:Hid _:=hx
 have a5:Hid (∀ wz,Calls Tryz.prog 151 #[.string a] wz fun e w'=>Below wz.heap.size wz w'/\e=.returned (Z O nv)):=fun wz=>(Zn _ wz (by omega)).mono (by rintro e w' ⟨hb,v,rfl,b4⟩;exact ⟨hb,by rw [b4 hd hd9,hv]⟩)
 obtain ⟨tl,N⟩:∃ tl,Hid ((if nv<m.ttl then nv else m.ttl)=tl):=⟨_,rfl⟩
 rw [N.out]
 clear ih hx hQ hd hd9 hv
 unfold WD.val at IH ⊢
 have b2:Hid (Below w.heap.size w ((w.alloc (U #[Z O x.a,Z O x.b,Z O x.d,X x.do_ x.dl x.dc,X x.ao x.al.length x.ac,X x.po x.pl x.pcp] 31)).alloc (U #[X none 0 0,Z O 0,Z O 0] 42))):=((Below.refl _ _).alloc (Nat.le_refl _) _).alloc (by simp) _
 have a4:Hid (((w.alloc (U #[Z O x.a,Z O x.b,Z O x.d,X x.do_ x.dl x.dc,X x.ao x.al.length x.ac,X x.po x.pl x.pcp] 31)).alloc (U #[X none 0 0,Z O 0,Z O 0] 42)).heap[w.heap.size]?=some (U #[Z O x.a,Z O x.b,Z O x.d,X x.do_ x.dl x.dc,X x.ao x.al.length x.ac,X x.po x.pl x.pcp] 31 (0,0))):=by show _=_;rw [Below.heap_alloc _ _ _ (by simp)];exact heap_alloc_new w _
 have a7:Hid (((w.alloc (U #[Z O x.a,Z O x.b,Z O x.d,X x.do_ x.dl x.dc,X x.ao x.al.length x.ac,X x.po x.pl x.pcp] 31)).alloc (U #[X none 0 0,Z O 0,Z O 0] 42)).heap[w.heap.size+1]?=some (U #[X none 0 0,Z O 0,Z O 0] 42 (0,0))):=zu _ (by simp)
 go_enter Tryz.func117,Tryz.ntmps117
 go_wp2_with fail
 refine (yT _ 44 _ b5).mono ?_
 rintro e r ⟨D,v,rfl,s⟩
 have F:Hid _:=b2.out.trans (D.mono b2.out.size)
 have L:Hid _:=(D.block _ (lt_of_block a4.out)).trans a4.out
 have a6:Hid _:=(D.block _ (lt_of_block a7.out)).trans a7.out
 obtain ⟨g,d4,rfl,_,a1⟩:=z8 s (Zd _ _)
 have c0:=yf s haa
 have c1:=yf s hbb
 have c9:1<(spl (t.extract 2 (t.size-1)) 44).length:=(List.getElem?_eq_some_iff.1 hbb).1
 have c5:Hid _:=c0
 clear D s haa hbb c0
 generalize (spl (t.extract 2 (t.size-1)) 44).length=n at *
 have d0:(1:Int)<(n:Int):=by omega
 have c8:(0:Int)<(n:Int):=by omega
 obtain ⟨q0,q1,q2,q3,q4,q5⟩:=ld6 L.out rfl
 have b6:=lt_of_block a6.out
 have j:r.heap.size≠w.heap.size:=by omega
 have z:r.heap.size≠g:=by omega
 have HM:Hid (∀ wz,Below r.heap.size r wz->Calls Tryz.prog 117 #[P,.string b,.agg #[Z O x.a,Z O x.b,Z O x.d,X x.do_ x.dl x.dc,X x.ao x.al.length x.ac,X x.po x.pl x.pcp]] wz (ZW B0 wz m)):=fun wz hz=>IH.out wz (HQ.out _ _ b9.out (F.out.trans (hz.mono F.out.size)))
 go_upto_region 13 with fail
 go_cut [9] (fun s9 wx=>∃ B o k gi W,s9=.pointer (some ⟨B,0,none⟩)/\r.heap.size<=B/\Below r.heap.size r wx/\wx.heap[B]?=some (U #[X o m.sv.length k,Z O m.ttl,Z O m.sc] 42 (0,0))/\IS wx o gi W m.sv.length (fun i=>(m.sv[i]?).getD 0)/\(0<m.sv.length->gi<B0\/r.heap.size<=gi/\gi≠B))
 case first =>
  go_region_held3 (fun w'=>w'.cell? ⟨w.heap.size,0,none⟩=some (Z O x.a)/\w'.cell? ⟨w.heap.size,1,none⟩=some (Z O x.b)/\w'.cell? ⟨w.heap.size,2,none⟩=some (Z O x.d)/\w'.cell? ⟨w.heap.size,3,none⟩=some (X x.do_ x.dl x.dc)/\w'.cell? ⟨w.heap.size,4,none⟩=some (X x.ao x.al.length x.ac)/\w'.cell? ⟨w.heap.size,5,none⟩=some (X x.po x.pl x.pcp)/\w'.cell? ⟨g,1,none⟩=some (.string b)) (first | (exact ⟨q0,q1,q2,q3,q4,q5,c1⟩) | (exact ⟨l.1,l.2.1,l.2.2.1,l.2.2.2.1,l.2.2.2.2.1,l.2.2.2.2.2,H⟩) | (exact ⟨zB q0 _,zB q1 _,zB q2 _,zB q3 _,zB q4 _,zB q5 _,zB c1 _⟩) | (exact ⟨zB l.1 _,zB l.2.1 _,zB l.2.2.1 _,zB l.2.2.2.1 _,zB l.2.2.2.2.1 _,zB l.2.2.2.2.2 _,zB H _⟩) | (exact ⟨zt j (zt j (zt j l.1 _ _) _ _) _ _,zt j (zt j (zt j l.2.1 _ _) _ _) _ _,zt j (zt j (zt j l.2.2.1 _ _) _ _) _ _,zt j (zt j (zt j l.2.2.2.1 _ _) _ _) _ _,zt j (zt j (zt j l.2.2.2.2.1 _ _) _ _) _ _,zt j (zt j (zt j l.2.2.2.2.2 _ _) _ _) _ _,zt z (zt z (zt z H _ _) _ _) _ _⟩) | go_keep) (first | (go_at_call 117;refine (HM.out _ (by first | exact (Below.refl _ _).drew | exact Below.refl _ _ | exact ((Below.refl _ _).alloc (Nat.le_refl _) _).drew | exact (Below.refl _ _).alloc (Nat.le_refl _) _)).mono ?_;rintro e Y ⟨I,o,k,gi,W,rfl,q,u⟩;have y:Below r.heap.size r Y:=(by first | exact (Below.refl _ _).drew.trans (I.mono (Nat.le_refl _)) | exact ((Below.refl _ _).alloc (Nat.le_refl _) _).drew.trans (I.mono (by simp)));have l:=ld6 L.out (y.block _ (lt_of_block L.out));have H:=(y.cell (p:=⟨g,1,none⟩) a1).trans c1;first | (have J:Y.heap[r.heap.size]?=some (U #[X none 0 0,Z O 0,Z O 0] 42 (0,0)):=(I.block r.heap.size (by simp)).trans (heap_alloc_new r _);have b7:Hid (Y.heap[r.heap.size]?=some (U #[X none 0 0,Z O 0,Z O 0] 42 (0,0))):=J;obtain ⟨y0,y1,y2,z0,z1,z2⟩:=ld3 J;clear J) | skip))
  all_goals
   go_wp2_with fail
   go_meet
   first
    | exact ⟨Y.heap.size,o,k,gi,W,rfl,y.size,y.alloc y.size _,heap_alloc_new _ _,⟨q.at_,fun h=>by have:=q.lt h;simp;omega,fun i hi=>zB (q.val i hi) _⟩,fun h=>by
     rcases u h with K | K
     ·exact .inl K
     ·exact .inr ⟨K,by have:=q.lt h;omega⟩⟩
    | exact ⟨r.heap.size,o,k,gi,W,rfl,Nat.le_refl _,((y.setCell (Nat.le_refl _) _).setCell (Nat.le_refl _) _).setCell (Nat.le_refl _) _,yE b7.out,⟨q.at_,fun h=>by have:=q.lt h;simpa using this,fun i hi=>by
     have A:gi≠r.heap.size:=by
      have K:=u (by omega)
      simp at K
      omega
     rw [World.cell?_of_block (w:=Y) (by rw [za A,za A,za A])]
     exact q.val i hi⟩,fun h=>by
     have K:=u h
     simp at K
     omega⟩
 case rest =>
 obtain ⟨B,o,k,gi,W,rfl,d1,a2,a3,q,u⟩:=hcut
 obtain ⟨w2,b3⟩:∃ w2,w2=wc:=⟨_,rfl⟩
 subst b3
 have V:Hid _:=a2
 have b0:Hid _:=a3
 have a8:Hid _:=q
 have S:Hid _:=u
 have c0:=(V.out.cell (p:=⟨g,0,none⟩) a1).trans c5.out
 clear a2 a3 q u q0 q1 q2 q3 q4 q5 c1 HM IH
 go_wp2_with fail
 refine (a5.out _).mono ?_
 rintro e w4 ⟨C,rfl⟩
 have b8:Hid _:=(C.block _ (lt_of_block b0.out)).trans b0.out
 have a9:Hid _:=V.out.trans (C.mono V.out.size)
 have b1:Hid (Below w.heap.size w w4):=F.out.trans (a9.out.mono F.out.size)
 have R:Hid (w4.heap[w.heap.size+1]?=some (U #[X none 0 0,Z O 0,Z O 0] 42 (0,0))):=(a9.out.block _ b6).trans a6.out
 have E:Hid _:=a8.out.below C a8.out.lt
 obtain ⟨y0,y1,y2,z0,z1,z2⟩:=ld3 b8.out
 obtain ⟨r0,r1,r2,s0,s1,s2⟩:=ld3 R.out
 have c7:¬ B=w.heap.size+1:=by omega
 have c6:¬ w.heap.size+1=B:=by omega
 clear C c0
 by_cases a0:nv<m.ttl
 ·have G:tl=nv:=by rw [<- N.out,if_pos a0]
  subst G
  go_wp2_with fail
  refine yH (m:=⟨m.sv,tl,m.sc⟩) (g:=gi) (f:=W) (b1.out.setCell (by simp only;omega) _) (by rw [za (by omega)];exact R.out) ⟨E.out.at_,fun h=>by have:=E.out.lt h;simpa [World.setCell] using this,fun i hi=>?_⟩ hB0 (fun h=>?_) rfl
  ·have A:gi≠B:=by have:=S.out (Nat.lt_of_le_of_lt (Nat.zero_le _) hi);omega
   rw [World.cell?_of_block (w:=w4) (za A)]
   exact E.out.val i hi
  ·have:=S.out h;omega
 ·have G:tl=m.ttl:=by rw [<- N.out,if_neg a0]
  subst G
  go_wp2_with fail
  exact yH (m:=⟨m.sv,m.ttl,m.sc⟩) b1.out R.out E.out hB0 (fun h=>by have:=S.out h;omega) rfl
theorem Qr {x:List Int} (h:∀ c∈x,48<=c/\c<=57):∀ (cur rest:List Int),yk 42 0 cur (x++rest)=yk 42 0 (cur++x) rest:=by
 induction x with
 | nil=>intro cur rest;simp
 | cons y r ih =>
  intro cur rest
  have a:=h y (by simp)
  simp only [List.cons_append,yk]
  rw [if_neg (by omega),if_neg (by omega),if_neg (by omega),ih (fun c hc=>h c (by simp [hc]))]
  simp
theorem Jt {a b:List Int} {u v:Int} (ha:Y7 a u) (hb:Y7 b v):spl (strOfNums (a++[42]++b)) 42=[strOfNums a,strOfNums b]:=by
 have d:Byt (a++[42]++b):=(ha.pln.byt.app (Byt.one (by decide))).app hb.pln.byt
 rw [Zv d,List.append_assoc,Qr ha.dig,List.singleton_append]
 simp only [yk,List.nil_append]
 rw [if_neg (by decide),if_neg (by decide),if_pos ⟨trivial,trivial⟩]
 have:=Qr hb.dig [] []
 rw [List.append_nil,List.nil_append] at this
 rw [this]
 simp [yk]
theorem Y7.digs {x:List Int} {v:Int} (h:Y7 x v):T.digs (strOfNums x)/\(strOfNums x).size<=9/\T.val (strOfNums x) (strOfNums x).size=v:=by
 refine ⟨fun i hi=>?_,by rw [strOfNums_size];exact h.le,by rw [strOfNums_size];exact h.val⟩
 rw [strOfNums_size] at hi
 rw [yx h.pln.byt,List.getElem?_eq_getElem hi]
 exact h.dig _ (List.getElem_mem _)
theorem jp.pf {x:List Int} {v l:Int} (h:jp x v l):pfV (strOfNums x) 32=v/\((strOfNums x).size:Int)=l:=by
 refine ⟨?_,by rw [strOfNums_size];exact h.len.symm⟩
 have e:=h.pln.byt
 have b:∀ j,j<=x.length->pfV (strOfNums x) j=bv (strOfNums x) 0 j:=by
  intro j
  induction j with
  | zero=>intro _;rfl
  | succ j ih =>
   intro f
   simp only [pfV,bv]
   rw [ih (by omega),Nat.zero_add]
   have a:T.ch (strOfNums x) j=48\/T.ch (strOfNums x) j=49:=by
    rw [yx e,List.getElem?_eq_getElem (show j<x.length by omega)]
    exact h.dig _ (List.getElem_mem _)
   rcases a with a | a
   ·rw [a,if_neg (by omega)];omega
   ·rw [a,if_pos ⟨by rw [strOfNums_size];omega,rfl⟩];omega
 have d:∀ i,pfV (strOfNums x) (x.length+i)=bv (strOfNums x) 0 x.length*2 ^ i:=by
  intro i
  induction i with
  | zero=>rw [Nat.add_zero,b _ (Nat.le_refl _)];simp
  | succ i ih =>
   rw [<- Nat.add_assoc]
   simp only [pfV]
   rw [ih,if_neg (by rw [strOfNums_size];omega),Int.add_zero,Int.pow_succ,Int.mul_assoc]
 have:=d (32-x.length)
 rw [show x.length+(32-x.length)=32 from by have:=h.le;omega] at this
 rw [this,h.val]
theorem ze0 (x:WD) {s:Int} (h0:0<=s) (h1:s<=63):upW x.rw s=Zr x.Dn s x.dl:=by
 have e:(s.toNat:Int)=s:=Int.toNat_of_nonneg h0
 have a:x.rw.dn s.toNat=!Zr x.Dn s x.dl:=by
  show (!Zr x.Dn (s.toNat:Int) x.dl)=_
  rw [e]
 unfold upW
 rw [a,decide_eq_true h0,decide_eq_true (show s<64 from by omega)]
 simp
theorem zeG {D:Nat->Int} {dn:Nat} {V:Nat->Int} {l:List IM} (hV:∀ i it,l[i]?=some it->V i=it.num/\0<=it.num):∀ n,n<=l.length->XO D dn V n=(((l.take n).find? (fun it=>Zr D it.num dn)).map IM.num).getD (-1):=by
 intro n
 induction n with
 | zero=>intro _;simp [XO]
 | succ n ih =>
  intro g
  have b:l[n]?=some l[n]:=List.getElem?_eq_getElem (by omega)
  obtain ⟨e,h⟩:=hV n _ b
  rw [List.take_add_one,b,List.find?_append]
  simp only [XO,ih (by omega)]
  cases hf:(l.take n).find? (fun it=>Zr D it.num dn) with
  | some y =>
   have d:y∈l:=List.mem_of_mem_take (List.mem_of_find?_eq_some hf)
   obtain ⟨i,f⟩:=List.getElem?_of_mem d
   have:=(hV i y f).2
   simp [this]
  | none =>
   simp only [Option.map_none,Option.getD_none,Option.none_or,Option.toList_some]
   rw [if_neg (by decide),e]
   by_cases a:Zr D l[n].num dn=true
   ·simp [List.find?,a]
   ·simp [List.find?,a]
theorem zbt {p q:IM->Bool}:∀ (l:List IM),(∀ x∈l,p x=q x)->l.find? p=l.find? q:=by
 intro l
 induction l with
 | nil=>intro _;rfl
 | cons x l ih=>intro h;rw [List.find?_cons,List.find?_cons,h x (by simp),ih (fun y hy=>h y (by simp [hy]))]
theorem zdg (x:WD) {V:Nat->Int} {l:List IM} (hl:∀ it∈l,0<=it.num/\it.num<=63) (hV:∀ i it,l[i]?=some it->V i=it.num):XO x.Dn x.dl V l.length=(yP x.rw l).getD (-1):=by
 rw [zeG (l:=l) (fun i it h=>⟨hV i it h,(hl it (List.mem_of_getElem? h)).1⟩) _ (Nat.le_refl _),List.take_length]
 unfold yP
 rw [zbt l (fun it h=>ze0 x (hl it h).1 (hl it h).2)]
theorem zbM {W:RW} {l:List IM} (hl:∀ it∈l,0<=it.num) {k:Int} (h:yP W l=some k):0<=k:=by
 unfold yP at h
 cases hf:l.find? (fun x=>upW W x.num) with
 | none=>rw [hf] at h;cases h
 | some y=>rw [hf] at h;simp at h;subst h;exact hl y (List.mem_of_find?_eq_some hf)
def flW (mb:List (Int×Int)):List Int:=mb.flatMap (fun p=>List.replicate p.2.toNat p.1)
theorem zfD:∀ (mb:List (Int×Int)),(∀ p∈mb,1<=p.2)->((flW mb).length:Int)=suL mb/\∀ r,0<=r->pkL mb r=(flW mb)[r.toNat]?:=by
 intro mb
 induction mb with
 | nil=>intro _;exact ⟨rfl,fun r _=>by simp [pkL,flW]⟩
 | cons x l ih =>
  intro h
  have b:=h x (by simp)
  obtain ⟨d,a⟩:=ih (fun p hp=>h p (by simp [hp]))
  have e:flW (x::l)=List.replicate x.2.toNat x.1++flW l:=by simp [flW]
  rw [e]
  refine ⟨by simp only [suL,List.length_append,List.length_replicate];omega,fun r hr=>?_⟩
  simp only [pkL]
  split
  ·rw [List.getElem?_append_left (by simp;omega),List.getElem?_replicate,if_pos (by omega)]
  ·rw [a _ (by omega),List.getElem?_append_right (by simp;omega),List.length_replicate]
   congr 1
   omega
theorem zfi {D:Nat->Int} {dn:Nat} {S:Nat->Int} {W:Nat->Nat} {l:List IM} (hS:∀ i it,l[i]?=some it->S i=it.num/\(W i:Int)=it.wv):∀ n,n<=l.length->slT D dn S W n=flW (((l.take n).filter (fun it=>Zr D it.num dn)).map (fun it=>(it.num,it.wv))):=by
 intro n
 induction n with
 | zero=>intro _;simp [slT,flW]
 | succ n ih =>
  intro g
  have e:l[n]?=some l[n]:=List.getElem?_eq_getElem (by omega)
  obtain ⟨d,f⟩:=hS n _ e
  have a:W n=l[n].wv.toNat:=by omega
  rw [List.take_add_one,e]
  simp only [slT,ih (by omega),List.filter_append,List.map_append,Option.toList_some,flW,List.flatMap_append]
  by_cases b:Zr D l[n].num dn=true
  ·simp [d,b,a]
  ·simp [d,b]
theorem zed (x:WD) {S:Nat->Int} {W:Nat->Nat} {l:List IM} (hl:∀ it∈l,0<=it.num/\it.num<=63/\1<=it.wv) (hS:∀ i it,l[i]?=some it->S i=it.num/\(W i:Int)=it.wv):jK (slT x.Dn x.dl S W l.length) x.d=(Z5 x.rw l).getD (-1)/\∀ k,Z5 x.rw l=some k->0<=k:=by
 have o:slT x.Dn x.dl S W l.length=flW (mbL x.rw l):=by
  rw [zfi hS _ (Nat.le_refl _),List.take_length]
  unfold mbL
  rw [List.filter_congr (fun it h=>ze0 x (hl it h).1 (hl it h).2.1)]
 have j:∀ p∈mbL x.rw l,1<=p.2/\0<=p.1:=fun p a=>by
  simp only [mbL,List.mem_map,List.mem_filter] at a
  obtain ⟨it,⟨b,_⟩,rfl⟩:=a
  exact ⟨(hl it b).2.2,(hl it b).1⟩
 obtain ⟨b,q⟩:=zfD (mbL x.rw l) (fun p a=>(j p a).1)
 have f:∀ k∈flW (mbL x.rw l),0<=k:=fun k hk=>by
  simp only [flW,List.mem_flatMap,List.mem_replicate] at hk
  obtain ⟨p,a,_,rfl⟩:=hk
  exact (j p a).2
 rw [o]
 unfold Z5 jK
 have n:x.rw.draw=x.d:=rfl
 rw [n]
 by_cases m:suL (mbL x.rw l)<=0
 ·rw [if_pos m,if_pos (List.eq_nil_of_length_eq_zero (by omega))]
  exact ⟨rfl,fun k h=>by cases h⟩
 ·have g:flW (mbL x.rw l)≠[]:=fun h=>by rw [h] at b;simp at b;omega
  rw [if_neg m,if_neg g,q _ (Int.emod_nonneg _ (by omega)),b]
  have e:(x.d%suL (mbL x.rw l)).toNat<(flW (mbL x.rw l)).length:=by
   have:=Int.emod_lt_of_pos x.d (show 0<suL (mbL x.rw l) from by omega)
   have:=Int.emod_nonneg x.d (show suL (mbL x.rw l)≠0 from by omega)
   omega
  rw [List.getElem?_eq_getElem e]
  exact ⟨rfl,fun k h=>by simp at h;subst h;exact f _ (List.getElem_mem e)⟩
theorem zbj {V:Nat->Int} {l:List IM} (hV:∀ i it,l[i]?=some it->V i=it.num):knK V l.length=l.map IM.num:=by
 apply List.ext_getElem?
 intro i
 by_cases a:i<l.length
 ·have b:l[i]?=some l[i]:=List.getElem?_eq_getElem a
  rw [jb V a,List.getElem?_map,b,hV i _ b]
  rfl
 ·rw [List.getElem?_eq_none (by rw [YI];omega),List.getElem?_eq_none (by simp;omega)]
theorem zd8 {ks ar:Nat->List Int} {its:List IM} {r:Int} {o:List Int} (hk:∀ i it,its[i]?=some it->Y7 (ks i) it.num):∀ (n i:Nat),i+n=its.length ->
 ((its.drop i).find? (fun x=>x.num==r)=none/\Xe (fun i=>strOfNums (ks i)) r (strOfNums o) i ((List.range n).map (fun k=>strOfNums (ks (i+k)++[58]++ar (i+k))))=strOfNums o)\/∃ k it,its[k]?=some it/\(its.drop i).find? (fun x=>x.num==r)=some it/\Xe (fun i=>strOfNums (ks i)) r (strOfNums o) i ((List.range n).map (fun k=>strOfNums (ks (i+k)++[58]++ar (i+k))))=strOfNums (ar k):=by
 intro n
 induction n with
 | zero=>intro i h;rw [List.drop_eq_nil_of_le (by omega)];exact .inl ⟨rfl,rfl⟩
 | succ n ih =>
  intro i h
  have d:its[i]?=some its[i]:=List.getElem?_eq_getElem (by omega)
  have e:=(hk i _ d).digs
  rw [List.range_succ_eq_map,List.map_cons,List.map_map,List.drop_eq_getElem_cons (by omega),List.find?_cons]
  simp only [Xe]
  rw [e.2.2]
  by_cases a:its[i].num=r
  ·refine .inr ⟨i,its[i],d,by simp [a],?_⟩
   rw [if_pos a]
   have f:=xg (ks i++[58]) (ar i)
   rw [Nat.add_zero,show (strOfNums (ks i)).size+1=(ks i++[58]).length from by rw [strOfNums_size];simp,f]
  ·have b:(its[i].num==r)=false:=by simpa using a
   rw [if_neg a,b,show ((fun k=>strOfNums (ks (i+k)++[58]++ar (i+k))) ∘ Nat.succ)=fun k=>strOfNums (ks (i+1+k)++[58]++ar (i+1+k)) from by
    funext k;simp only [Function.comp];rw [show i+Nat.succ k=i+1+k from by omega]]
   exact ih (i+1) (by omega)
theorem Yh {c:Int}:∀ (l:List (List Int)) (x:List Int),x∈l->x.length<=(joi c l).length:=by
 intro l
 induction l with
 | nil=>intro x h;simp at h
 | cons y r ih =>
  intro x h
  cases r with
  | nil=>simp at h;subst h;simp [joi]
  | cons z r =>
   simp only [joi,List.length_append]
   rcases List.mem_cons.1 h with rfl | h
   ·omega
   ·have:=ih x h;omega
theorem xd {c:Int} (hc:0<=c/\c<256) {a b:List Int} (ha:Byt a) (hb:Byt b):Byt (joi c [a,b]):=Byt.joi hc _ (fun z hz=>by
 simp at hz;rcases hz with rfl | rfl
 ·exact ha
 ·exact hb)
theorem jd {c:Int} (hc:0<=c/\c<256) {J:List Int} (hJ:Byt J):T.ch (strOfNums ([c]++([40]++J++[41]))) 0=c/\3<=(strOfNums ([c]++([40]++J++[41]))).size/\(strOfNums ([c]++([40]++J++[41]))).extract 2 ((strOfNums ([c]++([40]++J++[41]))).size-1)=strOfNums J:=by
 have a:Byt ([c]++([40]++J++[41])):=(Byt.one hc).app (((Byt.one (by decide)).app hJ).app (Byt.one (by decide)))
 have b:[c]++([40]++J++[41])=[c,40]++J++[(41:Int)]:=by simp
 refine ⟨by rw [yx a];simp,by rw [strOfNums_size];simp,?_⟩
 rw [b]
 exact YC [c,40] J [41]
theorem zaw {J o:List Int} (hJ:ZV J) (hJb:Byt J) (ho:Nsp 0 o) (hob:Byt o):spl (strOfNums (joi 124 [J,o])) 124=[strOfNums J,strOfNums o]:=by
 rw [Zv (xd (by decide) hJb hob)]
 simp only [joi]
 rw [List.append_assoc,hJ [] _]
 simp only [List.nil_append,List.singleton_append,yk]
 rw [if_neg (by decide),if_neg (by decide),if_pos ⟨trivial,trivial⟩]
 have:=ho 124 (.inr (.inl rfl)) 0 (Int.le_refl _) [] []
 rw [List.append_nil] at this
 rw [this]
 simp [yk]
theorem zbH {x o:List Int} (hx:Pln x) (ho:Nsp 0 o) (hob:Byt o):spl (strOfNums (joi 44 [x,o])) 44=[strOfNums x,strOfNums o]:=by
 rw [YY (c:=44) (.inl rfl) (l:=[x,o]) (by simp) (fun z hz=>by
  simp at hz;rcases hz with rfl | rfl
  ·exact Nsp.pln hx
  ·exact ho) (xd (by decide) hx.byt hob)]
 rfl
theorem zbI {x o:List Int} (hx:Pln x) (ho:Nsp 0 o) (hob:Byt o):(spl (strOfNums (x++[58]++o)) 58)[0]?=some (strOfNums x):=by
 have:=YY (c:=58) (.inr (.inr (.inl rfl))) (l:=[x,o]) (by simp) (fun z hz=>by
  simp at hz;rcases hz with rfl | rfl
  ·exact Nsp.pln hx
  ·exact ho) (xd (by decide) hx.byt hob)
 simp only [joi] at this
 rw [this]
 rfl
theorem zdz {m:Nat} (hm:0<m) {ks ar:Nat->List Int} (hk:∀ i,i<m->Pln (ks i)) (ha:∀ i,i<m->Nsp 0 (ar i)) (hab:∀ i,i<m->Byt (ar i)):Byt (joi 44 ((List.range m).map (fun i=>ks i++[58]++ar i)))/\ZV (joi 44 ((List.range m).map (fun i=>ks i++[58]++ar i)))/\spl (strOfNums (joi 44 ((List.range m).map (fun i=>ks i++[58]++ar i)))) 44=(List.range m).map (fun i=>strOfNums (ks i++[58]++ar i)):=by
 have d:List.range m≠[]:=by intro h;have:=congrArg List.length h;simp at this;omega
 have b:Byt (joi 44 ((List.range m).map (fun i=>ks i++[58]++ar i))):=Byt.joi (by decide) _ (fun x h=>by
  simp only [List.mem_map,List.mem_range] at h
  obtain ⟨i,a,rfl⟩:=h
  exact ((hk i a).byt.app (Byt.one (c:=58) (by decide))).app (hab i a))
 refine ⟨b,YZ _ (fun x h=>?_),?_⟩
 ·simp only [List.mem_map,List.mem_range] at h
  obtain ⟨i,a,rfl⟩:=h
  exact ZF (ZF (Yr (Nsp.pln (hk i a))) (xP (by decide))) (Yr (ha i a))
 ·rw [Zv b,qC hk ha (List.range m) d (fun i a=>List.mem_range.1 a),List.map_map]
  rfl
end Go.Proofs.YtaebngpoagjafabGreat
