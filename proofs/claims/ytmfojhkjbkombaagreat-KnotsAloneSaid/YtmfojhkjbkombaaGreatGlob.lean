/- What the calls ask of the package-level variables; kept while only new memory is made. By program (mkseat.py). -/
import Derived.Test.YtmfojhkjbkombaaGreatProg
import Derived.Test.YtmfojhkjbkombaaGreatBase
import Derived.Lib.LaidTab
import Derived.Lib.AppendIntMem
import Derived.Lib.ItoaNum
import Derived.WalkSmall
import Derived.ChangeBears2
namespace Go.Proofs.YtmfojhkjbkombaaGreat
set_option linter.unusedSimpArgs false
open Go.RowKit
structure Glob (w:World):Prop where
 none:True
def lY:Nat:=0
variable {w:World}
theorem Glob.low {w':World} (h:Glob w) (hs:w.heap.size<=w'.heap.size) (hb:Below lY w w'):Glob w':=
 ⟨(fun _ _=>h.none) hs hb⟩
theorem Glob.high (h:Glob w):lY<=w.heap.size:=(fun _=>Nat.zero_le _) h
end Go.Proofs.YtmfojhkjbkombaaGreat
