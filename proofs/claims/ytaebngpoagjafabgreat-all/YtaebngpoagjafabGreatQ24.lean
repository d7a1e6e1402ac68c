import Derived.Test.YtaebngpoagjafabGreatAo
import Derived.Below
import Derived.BigQuiet
import Derived.Deep.AppendLies
import Derived.Deep.OwnRows
import Derived.Deep.QuietTactic
import Derived.Deep.RegionWith
import Derived.Laws.ResultCell
import Derived.Laws.StructEq
import Derived.Laws.Tables
import Derived.Test.YtaebngpoagjafabGreatRows
import Derived.WalkKit
import Derived.WalkLawsBesides
import Derived.WalkSpells
set_option maxRecDepth 100000
namespace Go.Proofs.YtaebngpoagjafabGreat
open Option renaming some → F,none → N
open Go.RowKit
section
theorem Z6{P:Program}(w:World)(t l e:TypeId)(i:TypeInfo)(h:P.underlying t=F (.slice e))(hi:P.info? e=F i)(f:Option Addr)(n cap:Nat)(d:Option Addr)(c:Nat)(k:n<=cap):
 (Builtin.append_ #[t,t] l #[.slice f n cap,.slice d 0 c]).run P w=.ok (.slice f n cap) w:=by
 have b:Sem.run P (Builtin.firstCells i.size 0 (.slice d 0 c)) w=.ok #[] w:=by
  cases d with
  |none=>simp[Builtin.firstCells]
  |some a=>exact run_firstCells_some (P:=P) w i.size 0 a 0 c [] ot (λj u hu=>by simp at hu)
 cases f with
 |none=>simp[Builtin.append_,run_underlying h,sizeOf,typeInfo,hi,Builtin.lenOf,k,b]
 | some a =>
  have g:Sem.run P (storeCells (a.add (n*i.size)) []) w=.ok () w:=by simp[storeCells]
  simp[Builtin.append_,run_underlying h,sizeOf,typeInfo,hi,Builtin.lenOf,k,b,g]
theorem zU{w:World}{base e a:Nat}{v:Value}{n:Nat}{b:List Value}(h:w.ownsRow base e a v n b):∃o c,v=.slice o n c/\n<=c:=by
 rcases h.2 with⟨rfl,rfl⟩|⟨g,cap,cur,rfl,_,_,hc,_⟩
 ·exact⟨N,0,rfl,Nat.le_refl _⟩
 ·exact⟨F ⟨g,0,N⟩,cap,rfl,hc⟩
section
theorem Xh{P:Program}(w:World){o:Oper}{a:Act}(s x:Operand)(t:TypeId)(ho:o.op=.call { callee:=.builtin .append,args:=#[s,x],argTypes:=#[t,t] })(base:Nat)(e:TypeId)(i:TypeInfo)(z:Value)(size bytes:Nat)(ht:P.underlying t=F (.slice e))(hi:P.info? e=F i)(hz:i.zero=F z)(hsize:i.size=size)(hby:i.bytes=bytes)(hzs:z.cells.size=size)(hsz:0<size)(v:Value)(n:Nat)(xs:List Value)(hs:a.eval s=v)(hown:w.ownsRow base e size v n xs)(xo:Option Addr)(m c:Nat)(news:List Value)(hx:a.eval x=.slice xo m c)(hl:news.length=m*size)(hsrc:0<m->∃ad,xo=F ad/\∀j u,news[j]?=F u->w.cell? (ad.add j)=F u)(h1:∀u∈news,u.oneCell'=true)(h63:n+m<=maxLen)(hbytes:(n+m)*bytes<=140737488355328)(hbase:base<=w.heap.size)(H:Nat)(hH:w.heap.size=H){K:Act->World->Prop}{Q:Exit->Act->World->Prop}(h:∀oo cap w',w'.ownsRow base e size (.slice oo (n+m) cap) (n+m) (xs++news)->w.grownBy w' v.ownBlock->((Value.slice oo (n+m) cap).ownBlock=v.ownBlock\/(Value.slice oo (n+m) cap).ownBlock=F H)->K (a.put o.dst (.slice oo (n+m) cap)) w'):o.wp P a w K Q:=by
 rcases Nat.eq_zero_or_pos m with hm|hm
 ·subst hm;have g:news=[]:=List.eq_nil_of_length_eq_zero (by simpa using hl);subst g;obtain⟨f,cap,rfl,j⟩:=zU hown;have d:=Z6 (P:=P) w t o.type e i ht hi f n cap xo c j;unfold Oper.wp;simp[execOp,ho,resolve,invoke,builtin,hs,hx,d,Result.andThen];have:=h f cap w (by simpa using hown) ⟨rfl,rfl,rfl,Nat.le_refl _,λ_ _ _=>rfl⟩ (.inl rfl)
  have k:K (a.put o.dst (.slice f n cap)) w:=by simpa using this
  exact k
 ·obtain⟨l,rfl,b⟩:=hsrc hm;refine wp_append_lies w s x t ho base e i z size bytes ht hi hz hsize hby hzs hsz v n xs hs hown l m c news hx hl b h1 hm h63 hbytes hbase H hH (λg' cap w' q1 q2 q3 _=>h _ _ _ q1 q2 ?_);rcases q3 with q3|q3
  ·exact .inl q3.symm
  ·exact .inr (by rw[q3];rfl)
theorem XC{P:Program}(w:World){o:Oper}{a:Act}(s x:Operand)(t:TypeId)(ho:o.op=.call { callee:=.builtin .append,args:=#[s,x],argTypes:=#[t,t] })(base:Nat)(e:TypeId)(i:TypeInfo)(z:Value)(size bytes:Nat)(ht:P.underlying t=F (.slice e))(hi:P.info? e=F i)(hz:i.zero=F z)(hsize:i.size=size)(hby:i.bytes=bytes)(hzs:z.cells.size=size)(hsz:0<size)(v:Value)(n:Nat)(xs:List Value)(hs:a.eval s=v)(hown:w.ownsRow base e size v n xs)(xo:Option Addr)(m c:Nat)(news:List Value)(hx:a.eval x=.slice xo m c)(hl:news.length=m*size)(hsrc:0<m->∃ad,xo=F ad/\∀j u,news[j]?=F u->w.cell? (ad.add j)=F u)(h1:∀u∈news,u.oneCell'=true)(h63:n+m<=maxLen)(hbytes:(n+m)*bytes<=140737488355328)(hbase:base<=w.heap.size)(H:Nat)(hH:w.heap.size=H){b:Array Oper}{rest:List Oper}{Q:Exit->Act->World->Prop}(d:o.guard=N)(h:∀oo cap w',w'.ownsRow base e size (.slice oo (n+m) cap) (n+m) (xs++news)->w.grownBy w' v.ownBlock->((Value.slice oo (n+m) cap).ownBlock=v.ownBlock\/(Value.slice oo (n+m) cap).ownBlock=F H)->wpList P b Q rest (a.put o.dst (.slice oo (n+m) cap)) w'):wpList P b Q (o::rest) a w :=
 wpList_plain d λ_ hK=>Xh w s x t ho base e i z size bytes ht hi hz hsize hby hzs hsz v n xs hs hown xo m c news hx hl hsrc h1 h63 hbytes hbase H hH λoo cap w' h2 h3 h4=>hK _ _ (h oo cap w' h2 h3 h4)
theorem qV{P:Program}(w:World){o:Oper}{a:Act}(s x:Operand)(t:TypeId)(ho:o.op=.call { callee:=.builtin .append,args:=#[s,x],argTypes:=#[t,t] })(base:Nat)(e:TypeId)(i:TypeInfo)(z:Value)(size bytes:Nat)(ht:P.underlying t=F (.slice e))(hi:P.info? e=F i)(hz:i.zero=F z)(hsize:i.size=size)(hby:i.bytes=bytes)(hzs:z.cells.size=size)(hsz:0<size)(v:Value)(n:Nat)(xs:List Value)(hs:a.eval s=v)(hown:w.ownsRow base e size v n xs)(xo:Option Addr)(m c:Nat)(news:List Value)(hx:a.eval x=.slice xo m c)(hl:news.length=m*size)(hsrc:0<m->∃ad,xo=F ad/\∀j u,news[j]?=F u->w.cell? (ad.add j)=F u)(h1:∀u∈news,u.oneCell'=true)(h63:n+m<=maxLen)(hbytes:(n+m)*bytes<=140737488355328)(hbase:base<=w.heap.size)(H:Nat)(hH:w.heap.size=H){b:Array Oper}{K:Act->World->Prop}{Q:Exit->Act->World->Prop}{E:Prop}(d:o.guard=N)(h:∀oo cap w',w'.ownsRow base e size (.slice oo (n+m) cap) (n+m) (xs++news)->w.grownBy w' v.ownBlock->((Value.slice oo (n+m) cap).ownBlock=v.ownBlock\/(Value.slice oo (n+m) cap).ownBlock=F H)->K (a.put o.dst (.slice oo (n+m) cap)) w'):
 if Region.wanted o (yielded b a.tmps)=true then Oper.wp P o a w K Q else E:=by
 have f:Region.wanted o (yielded b a.tmps)=true:=by simp[Region.wanted,d]
 rw[if_pos f];exact Xh w s x t ho base e i z size bytes ht hi hz hsize hby hzs hsz v n xs hs hown xo m c news hx hl hsrc h1 h63 hbytes hbase H hH h
end
end
end Go.Proofs.YtaebngpoagjafabGreat
