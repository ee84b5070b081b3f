import Derived.KernelRfl
import Derived.Below
namespace Go.RowKit
theorem Hid.o{p:Prop}(h:Hid p):p:=h.out
end Go.RowKit
namespace Go.Proofs
theorem K{p:Prop}(h:p:=by kernel_rfl):p:=h
theorem O{p:Prop}(h:p:=by omega):p:=h
theorem oA{p:Prop}(h:p:=by assumption):p:=h
theorem oD{p:Prop}(h:p:=by decide):p:=h
theorem oS{p:Prop}(h:p:=by simp):p:=h
theorem oO{p:Prop}(h:p:=by simp;omega):p:=h
end Go.Proofs
