/- The iterators of maps.Keys: over cells, over texts. -/
import Derived.Test.YtldnpcolhdnkdaaML
import Derived.Test.YtldnpcolhdnkdaaMI
import Derived.Test.YtldnpcolhdnkdaaMG
import Derived.Test.YtldnpcolhdnkdaaMAd
namespace Go.Proofs.Ytldnpcolhdnkdaa
set_option linter.unusedSimpArgs false
open Go Go.RowKit
open Go.ChangeMaps (setBlock)
section
variable {α:Type} [DecidableEq α] {P:Program} {enc:α->V} {kt:TypeId}
end
open Go Go.RowKit Go.Sort
end Go.Proofs.Ytldnpcolhdnkdaa
