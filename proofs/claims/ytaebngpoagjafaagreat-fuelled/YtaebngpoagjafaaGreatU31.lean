/-
  OUR OWN.
-/
import Derived.Test.YtaebngpoagjafaaGreatU29
import Derived.Test.YtaebngpoagjafaaGreatU30
import Derived.Test.YtaebngpoagjafaaGreatU25
import Derived.Test.YtaebngpoagjafaaGreatU23
import Derived.Test.YtaebngpoagjafaaGreatU21
set_option maxRecDepth 100000
namespace Go.Proofs.YtaebngpoagjafaaGreat
open Go.RowKit
attribute [local go_sem ↓] Go.wp_at_zero Go.wp_at_succ
set_option maxHeartbeats 1600000 in
theorem step_run (base B:Nat) (co:Option Addr) (cb coff cc:Nat) (C:List Int) (W:RW) (D:Array Value) (ao:Option Addr) (ab aoff ac:Nat) (sv:Value) (s:RT) (w:World) (hp:s.r.p<=900000000000000000-100000) (hsv:s.sv=[]) (hd:0<=W.draw) (a0:0<=W.addr) (a1:W.addr<4294967296) (hal:AS w base ao ab aoff W.al) (hln:W.al.length<=9223372036854775807) (h:RM w base B co cb coff cc C W D (.slice ao W.al.length ac) sv s) :
   Calls Tryz.prog 65 #[.pointer (some ⟨B,0,none⟩)] w fun e w'=>e=.returned (.bool (stepF W C s).2)/\(∃ sv',RM w' base B co cb coff cc C W D (.slice ao W.al.length ac) sv' (stepF W C s).1)/\Below base w w':=by
 have H:Hid (RM w base B co cb coff cc C W D (.slice ao W.al.length ac) sv s):=h
 have HBS:Hid (base<=w.heap.size):=h.bs
 have HHB:Hid (base<=B):=h.hB
 have HAS:Hid (AS w base ao ab aoff W.al):=hal
 have HSV:Hid (s.sv=[]):=hsv
 have hsl:s.sv.length<=100000:=by rw [hsv];simp
 clear h hal hsv
 go_enter Tryz.func65,Tryz.ntmps65
 go_wp2_with fail
 refine (next_any base B co cb coff cc C W D _ sv s _ (by omega) H.out).mono ?_
 rintro e w1 ⟨rfl,hm,hv⟩
 have HM1:Hid (RM w1 base B co cb coff cc C W D (.slice ao W.al.length ac) sv ⟨nx C s.r,s.sv,s.ttl,s.sc⟩):=hm
 have HB1:Hid (Below base w w1):=hv.below HHB.out HBS.out
 have HA1:Hid (AS w1 base ao ab aoff W.al):=HAS.out.of_kept (fun b hb=>HB1.out.block b hb)
 have hpx:=nx_p C s.r
 clear hm hv
 have HST:Hid (stepF W C s=if nxV C s.r=123 then (stServers C ⟨nx C s.r,s.sv,s.ttl,s.sc⟩,true) else if nxV C s.r=119 then stPool W C ⟨nx C s.r,s.sv,s.ttl,s.sc⟩ else if nxV C s.r=102 then stChain W C ⟨nx C s.r,s.sv,s.ttl,s.sc⟩ else if nxV C s.r=109 then (stPrefixes W C ⟨nx C s.r,s.sv,s.ttl,s.sc⟩,false) else if nxV C s.r=103 then (stRegions W C ⟨nx C s.r,s.sv,s.ttl,s.sc⟩,false) else if nxV C s.r=116 then (stSeconds C ⟨nx C s.r,s.sv,s.ttl,s.sc⟩,false) else if nxV C s.r=64 then (stAlias W C ⟨nx C s.r,s.sv,s.ttl,s.sc⟩,true) else (⟨⟨(nx C s.r).p,true⟩,s.sv,s.ttl,s.sc⟩,false)):=rfl
 generalize nxV C s.r=k at *
 obtain ⟨t,ht⟩:∃ t:RT,t=⟨nx C s.r,s.sv,s.ttl,s.sc⟩:=⟨_,rfl⟩
 have htp:t.r.p<=900000000000000000-90000:=by rw [ht];simp only;omega
 have htl:t.sv.length<=100000:=by rw [ht];exact hsl
 have HTV:Hid (t.sv=[]):=by show _=_;rw [ht];exact HSV.out
 have HTB:Hid ((⟨⟨(nx C s.r).p,true⟩,s.sv,s.ttl,s.sc⟩:RT)=⟨⟨t.r.p,true⟩,t.sv,t.ttl,t.sc⟩):=by show _=_;rw [ht]
 rw [HTB.out,<- ht] at HST
 rw [<- ht] at HM1
 clear ht HTB
 cases e123:(k==123) with
 | true =>
   have HE:Hid (stepF W C s=(stServers C t,true)):=by show _=_;rw [HST.out,if_pos (by simpa using e123)]
   go_wp2_with fail
   refine (servers_any base B co cb coff cc C W D _ sv t _ (by omega) htl HM1.out).mono ?_
   rintro e w2 ⟨rfl,⟨sv',hm2⟩,hb2⟩
   have HM2:Hid (RM w2 base B co cb coff cc C W D (.slice ao W.al.length ac) sv' (stServers C t)):=hm2
   have HB2:Hid (Below base w w2):=HB1.out.trans hb2
   clear hm2 hb2
   go_wp2_with fail
   go_ret
   exact ⟨by rw [HE.out];rfl,⟨sv',by rw [HE.out];exact HM2.out⟩,HB2.out⟩
 | false =>
   cases e119:(k==119) with
   | true =>
     have HE:Hid (stepF W C s=stPool W C t):=by show _=_;rw [HST.out,if_neg (by simpa using e123),if_pos (by simpa using e119)]
     go_wp2_with fail
     refine (pool_run base B co cb coff cc C W D _ sv t _ (by omega) htl hd HM1.out).mono ?_
     rintro e w2 ⟨rfl,⟨sv',hm2⟩,hb2⟩
     have HM2:Hid (RM w2 base B co cb coff cc C W D (.slice ao W.al.length ac) sv' (stPool W C t).1):=hm2
     have HB2:Hid (Below base w w2):=HB1.out.trans hb2
     clear hm2 hb2
     go_wp2_with fail
     go_ret
     exact ⟨by rw [HE.out];rfl,⟨sv',by rw [HE.out];exact HM2.out⟩,HB2.out⟩
   | false =>
     cases e102:(k==102) with
     | true =>
       have HE:Hid (stepF W C s=stChain W C t):=by show _=_;rw [HST.out,if_neg (by simpa using e123),if_neg (by simpa using e119),if_pos (by simpa using e102)]
       go_wp2_with fail
       refine (chain_run base B co cb coff cc C W D _ sv t _ (by omega) htl HM1.out).mono ?_
       rintro e w2 ⟨rfl,⟨sv',hm2⟩,hb2⟩
       have HM2:Hid (RM w2 base B co cb coff cc C W D (.slice ao W.al.length ac) sv' (stChain W C t).1):=hm2
       have HB2:Hid (Below base w w2):=HB1.out.trans hb2
       clear hm2 hb2
       go_wp2_with fail
       go_ret
       exact ⟨by rw [HE.out];rfl,⟨sv',by rw [HE.out];exact HM2.out⟩,HB2.out⟩
     | false =>
       cases e109:(k==109) with
       | true =>
         have HE:Hid (stepF W C s=(stPrefixes W C t,false)):=by show _=_;rw [HST.out,if_neg (by simpa using e123),if_neg (by simpa using e119),if_neg (by simpa using e102),if_pos (by simpa using e109)]
         go_wp2_with fail
         refine (prefixes_run base B co cb coff cc C W D _ sv t _ (by omega) a0 a1 HM1.out).mono ?_
         rintro e w2 ⟨rfl,hm2,hb2⟩
         have HM2:Hid (RM w2 base B co cb coff cc C W D (.slice ao W.al.length ac) sv (stPrefixes W C t)):=hm2
         have HB2:Hid (Below base w w2):=HB1.out.trans hb2
         clear hm2 hb2
         go_wp2_with fail
         go_ret
         exact ⟨by rw [HE.out];rfl,⟨sv,by rw [HE.out];exact HM2.out⟩,HB2.out⟩
       | false =>
         cases e103:(k==103) with
         | true =>
           have HE:Hid (stepF W C s=(stRegions W C t,false)):=by show _=_;rw [HST.out,if_neg (by simpa using e123),if_neg (by simpa using e119),if_neg (by simpa using e102),if_neg (by simpa using e109),if_pos (by simpa using e103)]
           go_wp2_with fail
           refine (regions_any base B co cb coff cc C W D _ sv t _ (by omega) HM1.out).mono ?_
           rintro e w2 ⟨rfl,hm2,hb2⟩
           have HM2:Hid (RM w2 base B co cb coff cc C W D (.slice ao W.al.length ac) sv (stRegions W C t)):=hm2
           have HB2:Hid (Below base w w2):=HB1.out.trans hb2
           clear hm2 hb2
           go_wp2_with fail
           go_ret
           exact ⟨by rw [HE.out];rfl,⟨sv,by rw [HE.out];exact HM2.out⟩,HB2.out⟩
         | false =>
           cases e116:(k==116) with
           | true =>
             have HE:Hid (stepF W C s=(stSeconds C t,false)):=by show _=_;rw [HST.out,if_neg (by simpa using e123),if_neg (by simpa using e119),if_neg (by simpa using e102),if_neg (by simpa using e109),if_neg (by simpa using e103),if_pos (by simpa using e116)]
             go_wp2_with fail
             refine (seconds_any base B co cb coff cc C W D _ sv t _ (by omega) HM1.out).mono ?_
             rintro e w2 ⟨rfl,hm2,hv2⟩
             have hb2:=hv2.below HHB.out HM1.out.bs
             clear hv2
             have HM2:Hid (RM w2 base B co cb coff cc C W D (.slice ao W.al.length ac) sv (stSeconds C t)):=hm2
             have HB2:Hid (Below base w w2):=HB1.out.trans hb2
             clear hm2 hb2
             go_wp2_with fail
             go_ret
             exact ⟨by rw [HE.out];rfl,⟨sv,by rw [HE.out];exact HM2.out⟩,HB2.out⟩
           | false =>
             cases e64:(k==64) with
             | true =>
               have HE:Hid (stepF W C s=(stAlias W C t,true)):=by show _=_;rw [HST.out,if_neg (by simpa using e123),if_neg (by simpa using e119),if_neg (by simpa using e102),if_neg (by simpa using e109),if_neg (by simpa using e103),if_neg (by simpa using e116),if_pos (by simpa using e64)]
               go_wp2_with fail
               refine (alias_run base B co cb coff cc C W D ao ab aoff ac sv t _ (by omega) HTV.out HA1.out hln HM1.out).mono ?_
               rintro e w2 ⟨rfl,⟨sv',hm2⟩,hb2⟩
               have HM2:Hid (RM w2 base B co cb coff cc C W D (.slice ao W.al.length ac) sv' (stAlias W C t)):=hm2
               have HB2:Hid (Below base w w2):=HB1.out.trans hb2
               clear hm2 hb2
               go_wp2_with fail
               go_ret
               exact ⟨by rw [HE.out];rfl,⟨sv',by rw [HE.out];exact HM2.out⟩,HB2.out⟩
             | false =>
               have HE:Hid (stepF W C s=(⟨⟨t.r.p,true⟩,t.sv,t.ttl,t.sc⟩,false)):=by show _=_;rw [HST.out,if_neg (by simpa using e123),if_neg (by simpa using e119),if_neg (by simpa using e102),if_neg (by simpa using e109),if_neg (by simpa using e103),if_neg (by simpa using e116),if_neg (by simpa using e64)]
               have c2:=HM1.out.c2
               have z2:=HM1.out.fz 2
               go_wp2_with fail
               go_ret
               exact ⟨by rw [HE.out];rfl,⟨sv,by rw [HE.out];exact HM1.out.bad true⟩,HB1.out.setCell HHB.out _⟩
end Go.Proofs.YtaebngpoagjafaaGreat
namespace Go.Proofs.YtaebngpoagjafaaGreat
open Go.RowKit
def Byt (xs:List Int):Prop:=∀ x∈xs,0<=x/\x<256
theorem Byt.app {a b:List Int} (h:Byt a) (k:Byt b):Byt (a++b):=fun x hx=>(List.mem_append.1 hx).elim (h x) (k x)
theorem str_dat (xs:List Int):(strOfNums xs).data.toList=xs.map (fun n=>UInt8.ofNat n.toNat):=strOfNums_data xs
theorem str_ch {xs:List Int} (h:Byt xs) (i:Nat):T.ch (strOfNums xs) i=(xs[i]?).getD (-1):=by
 by_cases hi:i<xs.length
 · have hs:i<(strOfNums xs).size:=by rw [strOfNums_size];exact hi
   rw [T.ch_lt hs,List.getElem?_eq_getElem hi]
   have e1:(strOfNums xs)[i]=UInt8.ofNat (xs[i]).toNat:=by
     have:(strOfNums xs).data.toList[i]?=some ((strOfNums xs)[i]):=List.getElem?_eq_getElem (l:=(strOfNums xs).data.toList) (by simpa using hs)
     rw [str_dat,List.getElem?_map,List.getElem?_eq_getElem hi] at this
     exact (Option.some.inj this).symm
   rw [e1]
   have:=h xs[i] (List.getElem_mem _)
   simp
   omega
 · have hs:¬ i<(strOfNums xs).size:=by rw [strOfNums_size];exact hi
   rw [T.ch_ge hs,List.getElem?_eq_none (by omega)];rfl
theorem str_ext (xs:List Int) (a b:Nat):(strOfNums xs).extract a b=strOfNums ((xs.drop a).take (b-a)):=by
 have key:((strOfNums xs).extract a b).data.toList=(strOfNums ((xs.drop a).take (b-a))).data.toList:=by
   rw [str_dat,ByteArray.data_extract,Array.toList_extract,str_dat]
   simp [List.extract_eq_take_drop,List.map_take,List.map_drop]
 have:∀ {x y:ByteArray},x.data.toList=y.data.toList->x=y:=fun {x y} h=>by
   obtain ⟨⟨l⟩⟩:=x
   obtain ⟨⟨m⟩⟩:=y
   simp at h
   rw [h]
 exact this key
def splL (c:Int):Int->List Int->List Int->List (List Int)
 | _,cur,[]=>[cur]
 | d,cur,x::r =>
   if x=40\/x=123 then splL c (d+1) (cur++[x]) r
   else if x=41\/x=125 then splL c (d-1) (cur++[x]) r
   else if x=c/\d=0 then cur::splL c d [] r
   else splL c d (cur++[x]) r
theorem spl_list {xs:List Int} (h:Byt xs) (c:Int):spl (strOfNums xs) c=(splL c 0 [] xs).map strOfNums:=by
 have key:∀ i,i<=xs.length->(splL c 0 [] xs).map strOfNums=(spS (strOfNums xs) c i).l++(splL c (spS (strOfNums xs) c i).deep ((xs.drop (spS (strOfNums xs) c i).from_).take (i-(spS (strOfNums xs) c i).from_)) (xs.drop i)).map strOfNums:=by
   intro i
   induction i with
   | zero=>intro _;simp [spS]
   | succ i ih =>
     intro hi
     have hf:=(spS_bd (strOfNums xs) c i).1
     rw [ih (by omega)]
     have hx:xs[i]?=some xs[i]:=List.getElem?_eq_getElem (by omega)
     have hd:xs.drop i=xs[i]::xs.drop (i+1):=List.drop_eq_getElem_cons (by omega)
     have hch:T.ch (strOfNums xs) i=xs[i]:=by rw [str_ch h,hx];rfl
     have hcur:∀ f,f<=i->(xs.drop f).take (i-f)++[xs[i]]=(xs.drop f).take (i+1-f):=fun f hf=>by
       rw [show i+1-f=(i-f)+1 from by omega,List.take_add_one,List.getElem?_drop,show f+(i-f)=i from by omega,hx]
       rfl
     rw [hd]
     simp only [spS,splL,hch]
     generalize spS (strOfNums xs) c i=q at *
     split
     · rw [hcur _ hf]
     · split
       · rw [hcur _ hf]
       · split
         · next hc =>
           rw [str_ext]
           simp
         · rw [hcur _ hf]
 have h1:=key xs.length (Nat.le_refl _)
 unfold spl
 rw [h1,strOfNums_size,str_ext]
 simp [splL]
end Go.Proofs.YtaebngpoagjafaaGreat
namespace Go.Proofs.YtaebngpoagjafaaGreat
open Go.RowKit
def Pln (x:List Int):Prop:=∀ c∈x,(48<=c/\c<=57)\/c=42
def Nsp (n:Int) (xs:List Int):Prop:=∀ c,(c=44\/c=124\/c=58\/c=59)->∀ d,n<=d->∀ cur rest,splL c d cur (xs++rest)=splL c d (cur++xs) rest
theorem Nsp.nil (n:Int):Nsp n []:=fun c _ d _ cur rest=>by simp
theorem Nsp.app {n:Int} {a b:List Int} (h:Nsp n a) (k:Nsp n b):Nsp n (a++b):=fun c hc d hd cur rest=>by
 rw [List.append_assoc,h c hc d hd,k c hc d hd,List.append_assoc]
theorem Nsp.mono {n m:Int} {a:List Int} (h:Nsp n a) (hm:n<=m):Nsp m a:=fun c hc d hd=>h c hc d (Int.le_trans hm hd)
theorem Nsp.one {x:Int} (h:(48<=x/\x<=57)\/x=42\/(97<=x/\x<=122)\/x=64\/x=61):Nsp 0 [x]:=fun c hc d _ cur rest=>by
 simp only [List.singleton_append,splL]
 rw [if_neg (by omega),if_neg (by omega),if_neg (by omega)]
theorem Nsp.deep {x:Int} (h1:x≠40/\x≠123/\x≠41/\x≠125):Nsp 1 [x]:=fun c hc d hd cur rest=>by
 simp only [List.singleton_append,splL]
 rw [if_neg (by omega),if_neg (by omega),if_neg (by omega)]
theorem Nsp.pln {x:List Int} (h:Pln x):Nsp 0 x:=by
 induction x with
 | nil=>exact Nsp.nil 0
 | cons a r ih =>
   have h1:Nsp 0 [a]:=Nsp.one (by have:=h a (by simp);omega)
   exact h1.app (ih (fun c hc=>h c (by simp [hc])))
theorem Nsp.brac {y:List Int} {o cl:Int} (ho:o=40\/o=123) (hcl:cl=41\/cl=125) (h:Nsp 1 y):Nsp 0 ([o]++y++[cl]):=fun c hc d hd cur rest=>by
 have e:[o]++y++[cl]++rest=o::(y++(cl::rest)):=by simp
 rw [e,splL,if_pos ho,h c hc (d+1) (by omega),splL,if_neg (by omega),if_pos hcl,show d+1-1=d from by omega]
 simp
def joi (c:Int):List (List Int)->List Int
 | []=>[]
 | [x]=>x
 | x::y::r=>x++[c]++joi c (y::r)
theorem spl_joi {c:Int} (hc:c=44\/c=124\/c=58\/c=59):∀ (l:List (List Int)),l≠[]->(∀ x∈l,Nsp 0 x)->splL c 0 [] (joi c l)=l:=by
 intro l
 induction l with
 | nil=>intro h;exact absurd rfl h
 | cons x r ih =>
   intro _ h
   cases r with
   | nil =>
     have:=h x (by simp) c hc 0 (Int.le_refl _) [] []
     simp only [joi]
     rw [List.append_nil] at this
     rw [this]
     simp [splL]
   | cons y r =>
     have h1:=h x (by simp) c hc 0 (Int.le_refl _) [] ([c]++joi c (y::r))
     simp only [joi,List.append_assoc]
     rw [h1]
     simp only [List.singleton_append,splL]
     rw [if_neg (by omega),if_neg (by omega),if_pos ⟨trivial,trivial⟩,ih (by simp) (fun z hz=>h z (by simp [hz]))]
     simp
theorem Nsp.joi {c:Int} (hc:c≠40/\c≠123/\c≠41/\c≠125):∀ (l:List (List Int)),(∀ x∈l,Nsp 1 x)->Nsp 1 (joi c l):=by
 intro l
 induction l with
 | nil=>intro _;exact Nsp.nil 1
 | cons x r ih =>
   intro h
   cases r with
   | nil=>exact h x (by simp)
   | cons y r =>
     simp only [Go.Proofs.YtaebngpoagjafaaGreat.joi]
     exact ((h x (by simp)).app (Nsp.deep hc)).app (ih (fun z hz=>h z (by simp [hz])))
inductive SZL (nm:ByteArray) (K:List Int):List Int->Int->Prop where
 | servers {l:List (List Int)}:l≠[]->(∀ x∈l,Pln x)->SZL nm K ([123]++joi 44 l++[125]) (1+(l.length:Int))
 | alias {x:List Int}:Pln x->SZL nm K (64::x) 1
 | name {c:Int}:(97<=c/\c<=122)->SZL nm K [61,c] (knL nm c K 0)
 | ttl {x o:List Int} {n:Int}:Pln x->SZL nm K o n->SZL nm K ([116]++([40]++joi 44 [x,o]++[41])) (cap1 (1+n))
 | list {c:Int} {l:List (List Int)} {o:List Int} {n:Int}:(c=119\/c=102)->l≠[]->(∀ x∈l,Pln x)->SZL nm K o n->SZL nm K ([c]++([40]++joi 124 [joi 44 l,o]++[41])) (cap1 (1+(l.length:Int)+n))
 | maps {c:Int} {m:Nat} {ks ar:Nat->List Int} {o:List Int} {n:Int} {ns:Nat->Int}:(c=109\/c=103)->0<m->(∀ i,i<m->Pln (ks i))->(∀ i,i<m->SZL nm K (ar i) (ns i))->(∀ i,m<=i->ns i=0)->SZL nm K o n->SZL nm K ([c]++([40]++joi 124 [joi 44 ((List.range m).map (fun i=>ks i++[58]++ar i)),o]++[41])) (cap1 (1+(m:Int)+n+sumN ns m))
theorem SZL.nsp {nm:ByteArray} {K:List Int} {t:List Int} {n:Int} (h:SZL nm K t n):Nsp 0 t:=by
 induction h with
 | servers _ h=>exact Nsp.brac (.inr rfl) (.inr rfl) (Nsp.joi (by decide) _ (fun x hx=>(Nsp.pln (h x hx)).mono (by decide)))
 | alias h=>exact Nsp.app (a:=[64]) (Nsp.one (by decide)) (Nsp.pln h)
 | name h=>exact Nsp.app (a:=[61]) (b:=[_]) (Nsp.one (by decide)) (Nsp.one (by omega))
 | ttl hx _ ih=>exact (Nsp.one (by decide)).app (Nsp.brac (.inl rfl) (.inl rfl) (Nsp.joi (by decide) _ (fun z hz=>by
     simp at hz;rcases hz with rfl | rfl
     · exact (Nsp.pln hx).mono (by decide)
     · exact ih.mono (by decide))))
 | list hc _ hx _ ih=>exact (Nsp.one (by omega)).app (Nsp.brac (.inl rfl) (.inl rfl) (by
     simp only [joi]
     exact ((Nsp.joi (by decide) _ (fun x h=>(Nsp.pln (hx x h)).mono (by decide))).app (Nsp.deep (by decide))).app (ih.mono (by decide))))
 | maps hc _ hk _ _ _ iha iho=>exact (Nsp.one (by omega)).app (Nsp.brac (.inl rfl) (.inl rfl) (by
     simp only [joi]
     refine ((Nsp.joi (by decide) _ (fun x hx=>?_)).app (Nsp.deep (by decide))).app (iho.mono (by decide))
     simp only [List.mem_map,List.mem_range] at hx
     obtain ⟨i,hi,rfl⟩:=hx
     exact (((Nsp.pln (hk i hi)).mono (by decide)).app (Nsp.deep (by decide))).app ((iha i hi).mono (by decide))))
theorem Pln.byt {x:List Int} (h:Pln x):Byt x:=fun c hc=>by have:=h c hc;omega
theorem Byt.joi {c:Int} (hc:0<=c/\c<256):∀ (l:List (List Int)),(∀ x∈l,Byt x)->Byt (joi c l):=by
 intro l
 induction l with
 | nil=>intro _ x hx;simp [Go.Proofs.YtaebngpoagjafaaGreat.joi] at hx
 | cons x r ih =>
   intro h
   cases r with
   | nil=>exact h x (by simp)
   | cons y r =>
     simp only [Go.Proofs.YtaebngpoagjafaaGreat.joi]
     exact ((h x (by simp)).app (fun z hz=>by simp at hz;subst hz;exact hc)).app (ih (fun z hz=>h z (by simp [hz])))
theorem Byt.one {c:Int} (hc:0<=c/\c<256):Byt [c]:=fun z hz=>by simp at hz;subst hz;exact hc
theorem SZL.byt {nm:ByteArray} {K:List Int} {t:List Int} {n:Int} (h:SZL nm K t n):Byt t:=by
 induction h with
 | servers _ h=>exact ((Byt.one (by decide)).app (Byt.joi (by decide) _ (fun x hx=>(h x hx).byt))).app (Byt.one (by decide))
 | alias h=>exact Byt.app (a:=[64]) (Byt.one (by decide)) h.byt
 | name h=>exact Byt.app (a:=[61]) (b:=[_]) (Byt.one (by decide)) (Byt.one (by omega))
 | ttl hx _ ih=>exact (Byt.one (by decide)).app (((Byt.one (by decide)).app (Byt.joi (by decide) _ (fun z hz=>by
     simp at hz;rcases hz with rfl | rfl
     · exact hx.byt
     · exact ih))).app (Byt.one (by decide)))
 | list hc _ hx _ ih=>exact (Byt.one (by omega)).app (((Byt.one (by decide)).app (Byt.joi (by decide) _ (fun z hz=>by
     simp at hz;rcases hz with rfl | rfl
     · exact Byt.joi (by decide) _ (fun x h=>(hx x h).byt)
     · exact ih))).app (Byt.one (by decide)))
 | maps hc _ hk _ _ _ iha iho=>exact (Byt.one (by omega)).app (((Byt.one (by decide)).app (Byt.joi (by decide) _ (fun z hz=>by
     simp at hz;rcases hz with rfl | rfl
     · refine Byt.joi (by decide) _ (fun x h=>?_)
       simp only [List.mem_map,List.mem_range] at h
       obtain ⟨i,hi,rfl⟩:=h
       simpa using ((hk i hi).byt.app (Byt.one (c:=58) (by decide))).app (iha i hi)
     · exact iho))).app (Byt.one (by decide)))
end Go.Proofs.YtaebngpoagjafaaGreat
namespace Go.Proofs.YtaebngpoagjafaaGreat
open Go.RowKit
theorem str_mid (a y b:List Int):(strOfNums (a++y++b)).extract a.length ((strOfNums (a++y++b)).size-b.length)=strOfNums y:=by
 rw [str_ext,strOfNums_size]
 congr 1
 rw [List.append_assoc,List.drop_left,show (a++(y++b)).length-b.length-a.length=y.length from by simp only [List.length_append];omega,List.take_left]
theorem str_end (a y:List Int):(strOfNums (a++y)).extract a.length (strOfNums (a++y)).size=strOfNums y:=by
 have:=str_mid a y []
 simpa using this
theorem spl_of {c:Int} (hc:c=44\/c=124\/c=58\/c=59) {l:List (List Int)} (h0:l≠[]) (hn:∀ x∈l,Nsp 0 x) (hb:Byt (joi c l)):spl (strOfNums (joi c l)) c=l.map strOfNums:=by
 rw [spl_list hb,spl_joi hc l h0 hn]
def Nsp124 (xs:List Int):Prop:=∀ cur rest,splL 124 0 cur (xs++rest)=splL 124 0 (cur++xs) rest
theorem nsp124_app {a b:List Int} (h:Nsp124 a) (k:Nsp124 b):Nsp124 (a++b):=fun cur rest=>by rw [List.append_assoc,h,k,List.append_assoc]
theorem nsp124_one {x:Int} (h:x≠40/\x≠123/\x≠41/\x≠125/\x≠124):Nsp124 [x]:=fun cur rest=>by
 simp only [List.singleton_append,splL]
 rw [if_neg (by omega),if_neg (by omega),if_neg (by omega)]
theorem nsp124_of {x:List Int} (h:Nsp 0 x):Nsp124 x:=fun cur rest=>h 124 (.inr (.inl rfl)) 0 (Int.le_refl _) cur rest
theorem nsp124_join:∀ (l:List (List Int)),(∀ x∈l,Nsp124 x)->Nsp124 (joi 44 l):=by
 intro l
 induction l with
 | nil=>intro _ cur rest;simp [joi]
 | cons x r ih =>
   intro h
   cases r with
   | nil=>exact h x (by simp)
   | cons y r =>
     simp only [joi]
     exact nsp124_app (nsp124_app (h x (by simp)) (nsp124_one (by decide))) (ih (fun z hz=>h z (by simp [hz])))
theorem nsp124_joi (l:List (List Int)) (h:∀ x∈l,Pln x):Nsp124 (joi 44 l):=nsp124_join l (fun x hx=>nsp124_of (Nsp.pln (h x hx)))
theorem spl44_arms {m:Nat} {ks ar:Nat->List Int} (hk:∀ i,i<m->Pln (ks i)) (ha:∀ i,i<m->Nsp 0 (ar i)):∀ (l:List Nat),l≠[]->(∀ i∈l,i<m)->splL 44 0 [] (joi 44 (l.map (fun i=>ks i++[58]++ar i)))=l.map (fun i=>ks i++[58]++ar i):=by
 have one:∀ i,i<m->∀ cur rest,splL 44 0 cur ((ks i++[58]++ar i)++rest)=splL 44 0 (cur++(ks i++[58]++ar i)) rest:=fun i hi cur rest=>by
   rw [List.append_assoc,List.append_assoc,Nsp.pln (hk i hi) 44 (.inl rfl) 0 (Int.le_refl _)]
   simp only [List.singleton_append,splL]
   rw [if_neg (by decide),if_neg (by decide),if_neg (by decide),ha i hi 44 (.inl rfl) 0 (Int.le_refl _)]
   simp
 intro l
 induction l with
 | nil=>intro h;exact absurd rfl h
 | cons x r ih =>
   intro _ h
   cases r with
   | nil =>
     have:=one x (h x (by simp)) [] []
     simp only [List.map_cons,List.map_nil,joi]
     rw [List.append_nil] at this
     rw [this]
     simp [splL]
   | cons y r =>
     have h1:=one x (h x (by simp)) [] ([44]++joi 44 ((y::r).map (fun i=>ks i++[58]++ar i)))
     simp only [List.map_cons,joi] at h1 ⊢
     rw [List.append_assoc,h1]
     simp only [List.singleton_append,splL,List.nil_append]
     rw [if_neg (by decide),if_neg (by decide),if_pos ⟨trivial,trivial⟩]
     have:=ih (by simp) (fun z hz=>h z (by simp [hz]))
     simp only [List.map_cons] at this
     rw [this]
theorem SZL.sz {nm:ByteArray} {K:List Int} {t:List Int} {n:Int} (h:SZL nm K t n):SZ nm K (strOfNums t) n:=by
 induction h with
 | @servers l h0 hx =>
   have hb:=(SZL.servers (nm:=nm) (K:=K) h0 hx).byt
   have hm:=str_mid [123] (joi 44 l) [125]
   have hs:=spl_of (c:=44) (.inl rfl) h0 (fun x h=>Nsp.pln (hx x h)) (Byt.joi (by decide) _ (fun x h=>(hx x h).byt))
   have h1:=SZ.servers (nm:=nm) (K:=K) (t:=strOfNums ([123]++joi 44 l++[125])) (by rw [str_ch hb];simp) (by rw [strOfNums_size];simp)
   rw [show (1:Nat)=[(123:Int)].length from rfl] at h1
   rw [show [(123:Int)].length=1 from rfl] at h1
   have e:(strOfNums ([123]++joi 44 l++[125])).extract 1 ((strOfNums ([123]++joi 44 l++[125])).size-1)=strOfNums (joi 44 l):=hm
   rw [e,hs,List.length_map] at h1
   exact h1
 | @alias x hx =>
   have hb:=(SZL.alias (nm:=nm) (K:=K) hx).byt
   exact SZ.alias (by rw [str_ch hb];simp)
 | @name c hc =>
   have hb:=(SZL.name (nm:=nm) (K:=K) hc).byt
   have h1:=SZ.name (nm:=nm) (K:=K) (t:=strOfNums [61,c]) (by rw [str_ch hb];simp) (by rw [strOfNums_size];simp)
   rw [str_ch hb] at h1
   simpa using h1
 | @ttl x o n hx ho ih =>
   have hb:=(SZL.ttl hx ho).byt
   have e0:[116]++([40]++joi 44 [x,o]++[41])=[116,40]++joi 44 [x,o]++[(41:Int)]:=by simp
   rw [e0] at hb ⊢
   have hm:(strOfNums ([116,40]++joi 44 [x,o]++[41])).extract 2 ((strOfNums ([116,40]++joi 44 [x,o]++[41])).size-1)=strOfNums (joi 44 [x,o]):=str_mid [116,40] (joi 44 [x,o]) [41]
   have hs:=spl_of (c:=44) (.inl rfl) (l:=[x,o]) (by simp) (fun z hz=>by
     simp at hz;rcases hz with rfl | rfl
     · exact Nsp.pln hx
     · exact ho.nsp) (Byt.joi (by decide) _ (fun z hz=>by
     simp at hz;rcases hz with rfl | rfl
     · exact hx.byt
     · exact ho.byt))
   exact SZ.ttl (b:=strOfNums o) (by rw [str_ch hb];simp) (by rw [strOfNums_size];simp) (by rw [hm,hs];simp) ih
 | @list c l o n hc h0 hx ho ih =>
   have hb:=(SZL.list hc h0 hx ho).byt
   have e0:[c]++([40]++joi 124 [joi 44 l,o]++[41])=[c,40]++joi 124 [joi 44 l,o]++[(41:Int)]:=by simp
   rw [e0] at hb ⊢
   have hm:(strOfNums ([c,40]++joi 124 [joi 44 l,o]++[41])).extract 2 ((strOfNums ([c,40]++joi 124 [joi 44 l,o]++[41])).size-1)=strOfNums (joi 124 [joi 44 l,o]):=str_mid [c,40] (joi 124 [joi 44 l,o]) [41]
   have hbl:Byt (joi 44 l):=Byt.joi (by decide) _ (fun x h=>(hx x h).byt)
   have hs2:=spl_of (c:=44) (.inl rfl) h0 (fun x h=>Nsp.pln (hx x h)) hbl
   have hb2:Byt (joi 124 [joi 44 l,o]):=Byt.joi (by decide) _ (fun z hz=>by
     simp at hz;rcases hz with rfl | rfl
     · exact hbl
     · exact ho.byt)
   have hs:spl (strOfNums (joi 124 [joi 44 l,o])) 124=[strOfNums (joi 44 l),strOfNums o]:=by
     rw [spl_list hb2]
     have hn:Nsp124 (joi 44 l):=nsp124_joi l (fun x h=>hx x h)
     simp only [joi]
     rw [List.append_assoc,hn [] _]
     simp only [List.nil_append,List.singleton_append,splL]
     rw [if_neg (by decide),if_neg (by decide),if_pos ⟨trivial,trivial⟩]
     have:=ho.nsp 124 (.inr (.inl rfl)) 0 (Int.le_refl _) [] []
     rw [List.append_nil] at this
     rw [this]
     simp [splL]
   have h1:=SZ.list (nm:=nm) (K:=K) (t:=strOfNums ([c,40]++joi 124 [joi 44 l,o]++[41])) (a:=strOfNums (joi 44 l)) (b:=strOfNums o) (n:=n) (by rw [str_ch hb];simpa using hc) (by rw [strOfNums_size];simp) (by rw [hm,hs];simp) (by rw [hm,hs];simp) ih
   rw [hs2,List.length_map] at h1
   exact h1
 | @maps c m ks ar o n ns hc hm0 hk ha hz ho iha iho =>
   have hb:=(SZL.maps hc hm0 hk ha hz ho).byt
   have e0:[c]++([40]++joi 124 [joi 44 ((List.range m).map (fun i=>ks i++[58]++ar i)),o]++[41])=[c,40]++joi 124 [joi 44 ((List.range m).map (fun i=>ks i++[58]++ar i)),o]++[(41:Int)]:=by simp
   rw [e0] at hb ⊢
   have hne:List.range m≠[]:=by intro h;have:=congrArg List.length h;simp at this;omega
   have hbx:∀ i,i<m->Byt (ks i++[58]++ar i):=fun i hi=>((hk i hi).byt.app (Byt.one (c:=58) (by decide))).app (ha i hi).byt
   have hbl:Byt (joi 44 ((List.range m).map (fun i=>ks i++[58]++ar i))):=Byt.joi (by decide) _ (fun x h=>by
     simp only [List.mem_map,List.mem_range] at h
     obtain ⟨i,hi,rfl⟩:=h
     exact hbx i hi)
   have hs2:spl (strOfNums (joi 44 ((List.range m).map (fun i=>ks i++[58]++ar i)))) 44=((List.range m).map (fun i=>ks i++[58]++ar i)).map strOfNums:=by
     rw [spl_list hbl,spl44_arms hk (fun i hi=>(ha i hi).nsp) (List.range m) hne (fun i hi=>List.mem_range.1 hi)]
   have hn:Nsp124 (joi 44 ((List.range m).map (fun i=>ks i++[58]++ar i))):=nsp124_join _ (fun x h=>by
     simp only [List.mem_map,List.mem_range] at h
     obtain ⟨i,hi,rfl⟩:=h
     exact nsp124_app (nsp124_app (nsp124_of (Nsp.pln (hk i hi))) (nsp124_one (by decide))) (nsp124_of (ha i hi).nsp))
   have hget:∀ i x,((spl (strOfNums (joi 44 ((List.range m).map (fun i=>ks i++[58]++ar i)))) 44))[i]?=some x->i<m/\x=strOfNums (ks i++[58]++ar i):=fun i x h=>by
     rw [hs2] at h
     have hi:i<m:=by have:=(List.getElem?_eq_some_iff.1 h).1;simpa using this
     simp [hi] at h
     exact ⟨hi,by rw [<- h];simp⟩
   have hlen:(spl (strOfNums (joi 44 ((List.range m).map (fun i=>ks i++[58]++ar i)))) 44).length=m:=by rw [hs2];simp
   generalize hJ:joi 44 ((List.range m).map (fun i=>ks i++[58]++ar i))=J at *
   have hm:(strOfNums ([c,40]++joi 124 [J,o]++[41])).extract 2 ((strOfNums ([c,40]++joi 124 [J,o]++[41])).size-1)=strOfNums (joi 124 [J,o]):=str_mid [c,40] (joi 124 [J,o]) [41]
   have hb2:Byt (joi 124 [J,o]):=Byt.joi (by decide) _ (fun z hz=>by
     simp at hz;rcases hz with rfl | rfl
     · exact hbl
     · exact ho.byt)
   have hs:spl (strOfNums (joi 124 [J,o])) 124=[strOfNums J,strOfNums o]:=by
     rw [spl_list hb2]
     simp only [joi]
     rw [List.append_assoc,hn [] _]
     simp only [List.nil_append,List.singleton_append,splL]
     rw [if_neg (by decide),if_neg (by decide),if_pos ⟨trivial,trivial⟩]
     have:=ho.nsp 124 (.inr (.inl rfl)) 0 (Int.le_refl _) [] []
     rw [List.append_nil] at this
     rw [this]
     simp [splL]
   have h1:=SZ.maps (nm:=nm) (K:=K) (t:=strOfNums ([c,40]++joi 124 [J,o]++[41])) (a:=strOfNums J) (b:=strOfNums o) (n:=n) (ys:=fun i=>strOfNums (ks i)) (ns:=ns) (by rw [str_ch hb];simpa using hc) (by rw [strOfNums_size];simp) (by rw [hm,hs];simp) (by rw [hm,hs];simp) iho
     (fun i x hx=>by
       obtain ⟨hi,rfl⟩:=hget i x hx
       have hj:=spl_of (c:=58) (.inr (.inr (.inl rfl))) (l:=[ks i,ar i]) (by simp) (fun z hz=>by
         simp at hz;rcases hz with rfl | rfl
         · exact Nsp.pln (hk i hi)
         · exact (ha i hi).nsp) (by simp only [joi];exact hbx i hi)
       simp only [joi] at hj
       rw [hj]
       refine ⟨by simp,?_⟩
       rw [strOfNums_size,strOfNums_size]
       simp) (fun i hi=>hz i (by rw [hlen] at hi;exact hi)) (fun i x hx=>by
       obtain ⟨hi,rfl⟩:=hget i x hx
       have he:=str_end (ks i++[58]) (ar i)
       rw [show (strOfNums (ks i)).size+1=(ks i++[58]).length from by rw [strOfNums_size];simp,he]
       exact iha i hi)
   rw [hlen] at h1
   exact h1
end Go.Proofs.YtaebngpoagjafaaGreat
namespace Go.Proofs.YtaebngpoagjafaaGreat
open Go.RowKit
theorem here_f (s:ByteArray) (j:Nat):hereF s j false=if j<s.size then T.ch s j else 0:=by unfold hereF;rw [if_neg (by decide)]
theorem dig_f (s:ByteArray) (j:Nat):T.dig (hereF s j false)=T.dig (T.ch s j):=by
 rw [here_f]
 split
 · rfl
 · next h=>rw [T.ch_ge h];rfl
theorem bit_f (s:ByteArray) (j:Nat):bit (hereF s j false)=bit (T.ch s j):=by
 rw [here_f]
 split
 · rfl
 · next h=>rw [T.ch_ge h];rfl
theorem dig_iff (c:Int):T.dig c=true↔48<=c/\c<=57:=by unfold T.dig;simp
theorem nmF_up (s:ByteArray) (b:Bool):∀ n j,nmF s b n j<=j+n:=by
 intro n
 induction n with
 | zero=>intro j;exact Nat.le_refl _
 | succ n ih => intro j; simp only [nmF]; split
                · have:=ih (j+1);omega
                · omega
theorem dgF_num (s:ByteArray) (p L:Nat) (hL:L=if T.ch s p=48 then 1 else 9):∀ n j,p<=j->j-p<=L->j<=s.size->s.size-j+1<=n ->
   (T.dgF s 9 58 true p n j).2=nmF s false (L-(j-p)) j/\((T.dgF s 9 58 true p n j).1=true↔T.dig (T.ch s (T.dgF s 9 58 true p n j).2)=false):=by
 intro n
 induction n with
 | zero=>intro j h1 h2 h3 h4;omega
 | succ n ih =>
   intro j h1 h2 h3 h4
   cases hd:T.dig (T.ch s j) with
   | false =>
     rw [T.dgF_end hd]
     refine ⟨?_,by simp [hd]⟩
     cases hm:L-(j-p) with
     | zero=>rfl
     | succ m=>simp only [nmF];rw [dig_f,hd];rfl
   | true =>
     have hc:=(dig_iff _).1 hd
     by_cases hi:j-p=L
     · have hst:T.stp 9 58 true (T.ch s j) ((j:Int)-p) (T.ch s p)=true:=by
         unfold T.stp
         by_cases h0:T.ch s p=48
         · rw [if_pos h0] at hL
           have:(j:Int)-p=1:=by omega
           simp [this,h0]
         · rw [if_neg h0] at hL
           have:(j:Int)-p=9:=by omega
           simp [this]
       rw [T.dgF_stop hd hst]
       refine ⟨?_,by simp [hd]⟩
       rw [show L-(j-p)=0 from by omega];rfl
     · have hst:T.stp 9 58 true (T.ch s j) ((j:Int)-p) (T.ch s p)=false:=by
         unfold T.stp
         have a1:decide ((58:Int)<=T.ch s j)=false:=decide_eq_false (by omega)
         by_cases h0:T.ch s p=48
         · rw [if_pos h0] at hL
           have:(j:Int)-p=0:=by omega
           simp [this,a1]
         · rw [if_neg h0] at hL
           have a2:((j:Int)-p==9)=false:=beq_eq_false_iff_ne.2 (by omega)
           have a3:(T.ch s p==48)=false:=beq_eq_false_iff_ne.2 h0
           rw [a1,a2,a3]
           simp
       rw [T.dgF_next hd hst]
       have hlt:j<s.size:=T.dig_lt hd
       have:=ih (j+1) (by omega) (by omega) (by omega) (by omega)
       refine ⟨?_,this.2⟩
       rw [this.1]
       obtain ⟨m,hm⟩:∃ m,L-(j-p)=m+1:=⟨L-(j-p)-1,by omega⟩
       rw [hm,show L-(j+1-p)=m from by omega]
       simp only [nmF];rw [dig_f,hd];rfl
theorem dgF_bit (s:ByteArray) (p:Nat):∀ n j,p<=j->j-p<=32->j<=s.size->s.size-j+1<=n ->
   (T.dgF s 32 50 false p n j).2=btF s false (32-(j-p)) j/\((T.dgF s 32 50 false p n j).1=true↔T.dig (T.ch s (T.dgF s 32 50 false p n j).2)=false):=by
 intro n
 induction n with
 | zero=>intro j h1 h2 h3 h4;omega
 | succ n ih =>
   intro j h1 h2 h3 h4
   cases hd:T.dig (T.ch s j) with
   | false =>
     rw [T.dgF_end hd]
     refine ⟨?_,by simp [hd]⟩
     have hb:bit (T.ch s j)=false:=by
       cases hb:bit (T.ch s j) with
       | false=>rfl
       | true=>simp [bit] at hb;unfold T.dig at hd;simp at hd;omega
     cases hm:32-(j-p) with
     | zero=>rfl
     | succ m=>simp only [btF];rw [bit_f,hb];rfl
   | true =>
     have hc:=(dig_iff _).1 hd
     by_cases hi:j-p=32
     · have hst:T.stp 32 50 false (T.ch s j) ((j:Int)-p) (T.ch s p)=true:=by
         unfold T.stp
         have:(j:Int)-p=32:=by omega
         simp [this]
       rw [T.dgF_stop hd hst]
       refine ⟨?_,by simp [hd]⟩
       rw [show 32-(j-p)=0 from by omega];rfl
     · obtain ⟨m,hm⟩:∃ m,32-(j-p)=m+1:=⟨32-(j-p)-1,by omega⟩
       by_cases h2c:50<=T.ch s j
       · have hst:T.stp 32 50 false (T.ch s j) ((j:Int)-p) (T.ch s p)=true:=by
           unfold T.stp;simp [h2c]
         rw [T.dgF_stop hd hst]
         refine ⟨?_,by simp [hd]⟩
         have hb:bit (T.ch s j)=false:=by unfold bit;simp;omega
         rw [hm]
         simp only [btF];rw [bit_f,hb];rfl
       · have hst:T.stp 32 50 false (T.ch s j) ((j:Int)-p) (T.ch s p)=false:=by
           unfold T.stp
           have a1:decide ((50:Int)<=T.ch s j)=false:=decide_eq_false h2c
           have a2:((j:Int)-p==32)=false:=beq_eq_false_iff_ne.2 (by omega)
           rw [a1,a2];rfl
         rw [T.dgF_next hd hst]
         have hlt:j<s.size:=T.dig_lt hd
         have:=ih (j+1) (by omega) (by omega) (by omega) (by omega)
         refine ⟨?_,this.2⟩
         have hb:bit (T.ch s j)=true:=by unfold bit;simp;omega
         rw [this.1,hm,show 32-(j+1-p)=m from by omega]
         simp only [btF];rw [bit_f,hb];rfl
theorem skip_f (s:ByteArray) (k:Nat):skipF s k false=T.sk s k:=by unfold skipF;rw [if_neg (by decide)]
theorem num_dg {s:ByteArray} {k:Nat} (hk:k<=s.size):(T.dg s 9 58 true (T.sk s k)).2=numK s k false/\((T.dg s 9 58 true (T.sk s k)).1=true↔T.dig (T.ch s (numK s k false))=false):=by
 have hp:=T.sk_le hk
 have h:=dgF_num s (T.sk s k) _ rfl (s.size-T.sk s k+1) (T.sk s k) (Nat.le_refl _) (by omega) hp (Nat.le_refl _)
 have e:numK s k false=(T.dg s 9 58 true (T.sk s k)).2:=by
   unfold T.dg
   rw [h.1]
   unfold numK nmE nmL
   rw [skip_f,Nat.sub_self,Nat.sub_zero,here_f]
   by_cases hlt:T.sk s k<s.size
   · rw [if_pos hlt]
   · rw [if_neg hlt,T.ch_ge hlt];rfl
 refine ⟨e.symm,?_⟩
 rw [e]
 exact h.2
theorem bit_dg {s:ByteArray} {k:Nat} (hk:k<=s.size):(T.dg s 32 50 false (T.sk s k)).2=btK s k false/\((T.dg s 32 50 false (T.sk s k)).1=true↔T.dig (T.ch s (btK s k false))=false):=by
 have hp:=T.sk_le hk
 have h:=dgF_bit s (T.sk s k) (s.size-T.sk s k+1) (T.sk s k) (Nat.le_refl _) (by omega) hp (Nat.le_refl _)
 have e:btK s k false=(T.dg s 32 50 false (T.sk s k)).2:=by
   unfold T.dg
   rw [h.1]
   unfold btK
   rw [skip_f,Nat.sub_self,Nat.sub_zero]
 refine ⟨e.symm,?_⟩
 rw [e]
 exact h.2
end Go.Proofs.YtaebngpoagjafaaGreat
