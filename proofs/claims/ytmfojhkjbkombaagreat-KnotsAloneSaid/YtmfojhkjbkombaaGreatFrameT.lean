/- Nodes of formulas among the arguments. -/
import Derived.Test.YtmfojhkjbkombaaGreatFrameC
import Derived.Test.YtmfojhkjbkombaaGreatMT
import Derived.Deep.Slices
namespace Go.Proofs.YtmfojhkjbkombaaGreat
set_option linter.unusedSimpArgs false
set_option maxRecDepth 100000
open Go.ChangeShapes Go.WideShapes Go.ChangeAt Go.WideMaps Go.WideElems Go.RowKit Go.Joins
section
variable {H:Type} {enc:TypeId×Value->H} {W:World} {base:Nat} {held:Bool}
end
end Go.Proofs.YtmfojhkjbkombaaGreat
