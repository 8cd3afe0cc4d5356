/- Nodes of formulas among the arguments. -/
import Derived.Test.YtmfojhkjbkombaaFrameC
import Derived.Test.YtmfojhkjbkombaaMT
import Derived.Deep.Slices
namespace Go.Proofs.Ytmfojhkjbkombaa
set_option linter.unusedSimpArgs false
set_option maxRecDepth 100000
open Go.ChangeShapes Go.WideShapes Go.ChangeAt Go.WideMaps Go.WideElems Go.RowKit Go.Joins
theorem z6 {H:Type} {enc:TypeId×Value->H} {W:World} {r:Reach} {b0 base:Nat} {sp:Nat->Bool} {held:Bool} {v:Value} {d:DataW H} {p:List MemPlace} (hv:Value.okWide Try.prog W r b0 4 v) (h:DataW.Trod enc Try.prog W base sp held 4 v d p):
 ∃b:Bool,v= .bool b:=by
 obtain⟨b,rfl⟩:=okWide_bool Try.underlying4 hv;exact⟨b,rfl⟩
section
variable {H:Type} {enc:TypeId×Value->H} {W:World} {base:Nat} {held:Bool}
end
end Go.Proofs.Ytmfojhkjbkombaa
