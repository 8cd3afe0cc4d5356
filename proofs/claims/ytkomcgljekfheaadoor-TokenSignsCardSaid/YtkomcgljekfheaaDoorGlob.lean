/- What the calls ask of the package-level variables; kept while only new memory is made. By program (mkseat.py). -/
import Derived.Test.YtkomcgljekfheaaDoorProg
import Derived.Test.YtkomcgljekfheaaDoorBase
import Derived.Lib.LaidTab
import Derived.Lib.AppendIntMem
import Derived.Lib.ItoaNum
import Derived.WalkSmall
import Derived.ChangeBears2
namespace Go.Proofs.YtkomcgljekfheaaDoor
open Go.RowKit

structure Glob (w : World) : Prop where
  maxLen : ∃ m, w.cell? ⟨0, 0, none⟩ = some (.int .i64 m)
  maxSize : 0 < w.heap.size


theorem Glob.below {w w' : World} (h : Glob w) (hb : Below w.heap.size w w') : Glob w' :=
  ⟨(by obtain ⟨m, e⟩ := h.maxLen; exact ⟨m, by rw [hb.cell (p := ⟨0, 0, none⟩) h.maxSize]; exact e⟩), Nat.lt_of_lt_of_le h.maxSize hb.size⟩
theorem Glob.alloc {w : World} (h : Glob w) (o : Obj) : Glob (w.alloc o) := h.below (below_new w o)
theorem Glob.drew {w : World} (h : Glob w) : Glob w.drew := h.below (Below.refl _ _).drew

end Go.Proofs.YtkomcgljekfheaaDoor
