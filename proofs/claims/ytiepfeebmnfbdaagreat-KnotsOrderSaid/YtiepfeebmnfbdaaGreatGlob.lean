/- Glob -/
import Derived.Test.YtiepfeebmnfbdaaGreatBase
import Derived.Lib.LaidTab
import Derived.Lib.AppendIntMem
import Derived.Lib.ItoaNum
import Derived.WalkSmall
import Derived.ChangeBears2
namespace Go.Proofs.YtiepfeebmnfbdaaGreat
open Go.RowKit
structure Glob (w:World):Prop where
 none:True
def iq:Nat:=0
variable{w:World}
theorem Glob.low{w':World}(h:Glob w)(hs:w.heap.size<=w'.heap.size)(hb:Below iq w w'):Glob w':=
 ⟨(fun _ _=>h.none) hs hb⟩
theorem Glob.high(h:Glob w):iq<=w.heap.size:=(fun _=>Nat.zero_le _) h
