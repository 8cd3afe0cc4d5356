/- Cells among the arguments. -/
import Derived.Test.YtfngpfnbhafmlaaGreatDoorFrameN
namespace Go.Proofs.YtfngpfnbhafmlaaGreatDoor
open Go.ChangeShapes Go.WideShapes Go.ChangeAt Go.WideMaps Go.WideElems Go.RowKit Go.Joins
set_option maxRecDepth 100000
end Go.Proofs.YtfngpfnbhafmlaaGreatDoor
