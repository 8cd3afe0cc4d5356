/- The reference's rows of cells that are read. -/
import Derived.Test.YtldnpcolhdnkdaaML
import Derived.Test.YtldnpcolhdnkdaaMPO
import Derived.Test.YtldnpcolhdnkdaaMT
namespace Go.Proofs.Ytldnpcolhdnkdaa
set_option linter.unusedSimpArgs false
open Go Go.RowKit
theorem yb (l:List (Nat×(List V->Option V))) (M:Nat->Bool) (lp:List (Nat×(List V->Option (V×List (List V))))) (any:Nat->Bool) (k:Nat) (b:Nat->Option (List V)):az (d9 l M lp (fun _=>false) any) k b=b:=rfl
attribute [go_sem] yb
end Go.Proofs.Ytldnpcolhdnkdaa
