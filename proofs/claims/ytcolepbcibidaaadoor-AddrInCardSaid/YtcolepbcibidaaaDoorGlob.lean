/- What the calls ask of the package-level variables; kept while only new memory is made. By program (mkseat.py). -/
import Derived.Test.YtcolepbcibidaaaDoorProg
import Derived.Test.YtcolepbcibidaaaDoorBase
import Derived.Lib.LaidTab
import Derived.Lib.AppendIntMem
import Derived.Lib.ItoaNum
import Derived.WalkSmall
import Derived.ChangeBears2
namespace Go.Proofs.YtcolepbcibidaaaDoor
open Go.RowKit

structure Glob (w : World) : Prop where
  pow : Lib.TabIs Tryd.prog w "internal/strconv.uint64pow10" .u64 Lib.pow10Tab
  rng : ∃ tp p, w.var? Tryd.prog "strconv.ErrRange" = some #[.iface tp p]
  rngSize : 2 < w.heap.size
  syn : ∃ tp p, w.var? Tryd.prog "strconv.ErrSyntax" = some #[.iface tp p]
  synSize : 1 < w.heap.size

theorem grng : Tryd.prog.globalNamed "strconv.ErrRange" = some 2 := by kernel_rfl
theorem gsyn : Tryd.prog.globalNamed "strconv.ErrSyntax" = some 1 := by kernel_rfl

theorem Glob.below {w w' : World} (h : Glob w) (hb : Below w.heap.size w w') : Glob w' :=
  ⟨Lib.tabBelow_of_tabIs h.pow w' hb, (by obtain ⟨tp, p, e⟩ := h.rng; exact ⟨tp, p, var?_below hb grng h.rngSize e⟩), Nat.lt_of_lt_of_le h.rngSize hb.size, (by obtain ⟨tp, p, e⟩ := h.syn; exact ⟨tp, p, var?_below hb gsyn h.synSize e⟩), Nat.lt_of_lt_of_le h.synSize hb.size⟩
theorem Glob.alloc {w : World} (h : Glob w) (o : Obj) : Glob (w.alloc o) := h.below (below_new w o)
theorem Glob.drew {w : World} (h : Glob w) : Glob w.drew := h.below (Below.refl _ _).drew

end Go.Proofs.YtcolepbcibidaaaDoor
