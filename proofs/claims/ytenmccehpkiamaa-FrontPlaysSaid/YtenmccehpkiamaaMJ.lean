/- The iterators of maps.Keys: over cells, over texts. -/
import Derived.Test.YtenmccehpkiamaaML
import Derived.Test.YtenmccehpkiamaaMI
import Derived.Test.YtenmccehpkiamaaMG
import Derived.Test.YtenmccehpkiamaaMAd
namespace Go.Proofs.Ytenmccehpkiamaa
set_option linter.unusedSimpArgs false
open Go Go.RowKit
open Go.ChangeMaps (setBlock)
section
variable {α:Type} [DecidableEq α] {P:Program} {enc:α->V} {kt:TypeId}
end
open Go Go.RowKit Go.Sort
end Go.Proofs.Ytenmccehpkiamaa
