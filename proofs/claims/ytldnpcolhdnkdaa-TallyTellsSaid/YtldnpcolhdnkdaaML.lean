/- strconv.Itoa, as a function of plain data. -/
import Derived.Test.YtldnpcolhdnkdaaMPO
import Derived.Test.YtldnpcolhdnkdaaShelf
import Derived.Test.YtldnpcolhdnkdaaBase
import Derived.Lib.ItoaLen
import Derived.Deep.RegionHeld3
import Derived.Test.YtldnpcolhdnkdaaMAd
import Derived.Test.YtldnpcolhdnkdaaMSt
namespace Go.Proofs.Ytldnpcolhdnkdaa
set_option linter.unusedSimpArgs false
open Go Go.RowKit
abbrev C3:=ByteArray×Int×Int
def cellsOf:List V->Option (List C3)
 |[]=>some []
 | .agg [.x (.string s),.x (.int .i64 c),.x (.int .i64 r)]::l=>match cellsOf l with
   |some q=>some ((s,c,r)::q)
   |none=>none
 |_=>none
end Go.Proofs.Ytldnpcolhdnkdaa
