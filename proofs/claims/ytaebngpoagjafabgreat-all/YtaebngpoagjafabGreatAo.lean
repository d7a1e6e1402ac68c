import Derived.KernelRfl
namespace Go.Proofs.YtaebngpoagjafabGreat
theorem ol{P:Prop}(h:P:=by omega):P:=h
theorem oq{P:Prop}(h:P:=by decide):P:=h
theorem ot{P:Prop}(h:P:=by simp):P:=h
theorem kr{P:Prop}(h:P:=by kernel_rfl):P:=h
theorem ow{P:Prop}(h:P:=by simp;omega):P:=h
theorem ox{P:Prop}(h:P:=by simp only;omega):P:=h
theorem sq{P:Prop}(h:P:=by simp<;>omega):P:=h
theorem oy{P:Prop}(h:P:=by assumption):P:=h
theorem oz{P:Prop}(h:P:=by show _<=_;omega):P:=h
theorem sx{P:Prop}(h:P:=by show _<=_;unfold maxLen;omega):P:=h
theorem mc{P:Prop}(h:P:=by show _<=_;simp;omega):P:=h
theorem mr{P:Prop}(h:P:=by unfold maxLen;omega):P:=h
theorem sw{P:Prop}(h:P:=by show _=_;simp):P:=h
def Hd(p:Prop):Prop:=p
theorem Hd.o{p:Prop}(h:Hd p):p:=h
end Go.Proofs.YtaebngpoagjafabGreat
