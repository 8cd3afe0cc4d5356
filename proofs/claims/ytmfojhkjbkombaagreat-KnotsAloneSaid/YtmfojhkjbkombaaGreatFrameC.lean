/- Cells among the arguments. -/
import Derived.Test.YtmfojhkjbkombaaGreatFrameN
namespace Go.Proofs.YtmfojhkjbkombaaGreat
set_option linter.unusedSimpArgs false
set_option maxRecDepth 100000
open Go.ChangeShapes Go.WideShapes Go.ChangeAt Go.WideMaps Go.WideElems Go.RowKit Go.Joins
end Go.Proofs.YtmfojhkjbkombaaGreat
