/- What the calls ask of the package-level variables; kept while only new memory is made. By program (mkseat.py). -/
import Derived.Test.YtldnpcolhdnkdaaProg
import Derived.Test.YtldnpcolhdnkdaaBase
import Derived.Lib.LaidTab
import Derived.Lib.AppendIntMem
import Derived.Lib.ItoaNum
import Derived.WalkSmall
import Derived.ChangeBears2
namespace Go.Proofs.Ytldnpcolhdnkdaa
set_option linter.unusedSimpArgs false
open Go.RowKit
structure Glob (w:World):Prop where
 none:True
variable {w w':World}
theorem Glob.below (h:Glob w) (hb:Below w.heap.size w w'):Glob w':=
 ⟨(fun _=>h.none) hb⟩
theorem Glob.alloc (h:Glob w) (o:Obj):Glob (w.alloc o):=h.below (xg w o)
theorem Glob.drew (h:Glob w):Glob w.drew:=h.below (Below.refl _ _).drew
def iy:Nat:=0
theorem Glob.low (h:Glob w) (hs:w.heap.size<=w'.heap.size) (hb:Below iy w w'):Glob w':=
 ⟨(fun _ _=>h.none) hs hb⟩
theorem Glob.high (h:Glob w):iy<=w.heap.size:=(fun _=>Nat.zero_le _) h
end Go.Proofs.Ytldnpcolhdnkdaa
