/- strconv.Itoa, as a function of plain data. -/
import Derived.Test.YtenmccehpkiamaaMPO
import Derived.Test.YtenmccehpkiamaaShelf
import Derived.Test.YtenmccehpkiamaaBase
import Derived.Lib.ItoaLen
import Derived.Deep.RegionHeld3
import Derived.Test.YtenmccehpkiamaaMAd
import Derived.Test.YtenmccehpkiamaaMSt
namespace Go.Proofs.Ytenmccehpkiamaa
set_option linter.unusedSimpArgs false
open Go Go.RowKit
abbrev C3:=ByteArray×Int×Int
def cellsOf:List V->Option (List C3)
 |[]=>some []
 | .agg [.x (.string s),.x (.int .i64 c),.x (.int .i64 r)]::l=>match cellsOf l with
   |some q=>some ((s,c,r)::q)
   |none=>none
 |_=>none
end Go.Proofs.Ytenmccehpkiamaa
