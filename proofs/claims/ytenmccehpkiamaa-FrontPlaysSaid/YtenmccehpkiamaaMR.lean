/- The reference's rows of cells that are read. -/
import Derived.Test.YtenmccehpkiamaaML
import Derived.Test.YtenmccehpkiamaaMPO
import Derived.Test.YtenmccehpkiamaaMT
namespace Go.Proofs.Ytenmccehpkiamaa
set_option linter.unusedSimpArgs false
open Go Go.RowKit
theorem ve (l:List (Nat×(List V->Option V))) (M:Nat->Bool) (lp:List (Nat×(List V->Option (V×List (List V))))) (any:Nat->Bool) (k:Nat) (b:Nat->Option (List V)):aD (dD l M lp (fun _=>false) any) k b=b:=rfl
attribute [go_sem] ve
end Go.Proofs.Ytenmccehpkiamaa
