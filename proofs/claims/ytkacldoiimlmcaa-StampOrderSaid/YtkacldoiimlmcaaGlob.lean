/- What the calls ask of the package-level variables; kept while only new memory is made. By program (mkseat.py). -/
import Derived.Test.YtkacldoiimlmcaaProg
import Derived.Test.YtkacldoiimlmcaaBase
import Derived.Lib.LaidTab
import Derived.Lib.AppendIntMem
import Derived.Lib.ItoaNum
import Derived.WalkSmall
import Derived.ChangeBears2
namespace Go.Proofs.Ytkacldoiimlmcaa
open Go.RowKit

structure Glob (w : World) : Prop where
  none : True


theorem Glob.below {w w' : World} (h : Glob w) (hb : Below w.heap.size w w') : Glob w' :=
  ⟨(fun _ => h.none) hb⟩
theorem Glob.alloc {w : World} (h : Glob w) (o : Obj) : Glob (w.alloc o) := h.below (below_new w o)
theorem Glob.drew {w : World} (h : Glob w) : Glob w.drew := h.below (Below.refl _ _).drew
/-- From here on blocks are nobody's but the calls'. -/
def globK : Nat := 0
theorem Glob.low {w w' : World} (h : Glob w) (hs : w.heap.size ≤ w'.heap.size) (hb : Below globK w w') : Glob w' :=
  ⟨(fun _ _ => h.none) hs hb⟩
theorem Glob.high {w : World} (h : Glob w) : globK ≤ w.heap.size := (fun _ => Nat.zero_le _) h

end Go.Proofs.Ytkacldoiimlmcaa
