/- What the calls ask of the package-level variables; kept while only new memory is made. By program (mkseat.py). -/
import Derived.Test.YtfmdcgakkijkdaaGreatDoorProg
import Derived.Test.YtfmdcgakkijkdaaGreatDoorBase
import Derived.Lib.LaidTab
import Derived.Lib.AppendIntMem
import Derived.Lib.ItoaNum
import Derived.WalkSmall
import Derived.ChangeBears2
namespace Go.Proofs.YtfmdcgakkijkdaaGreatDoor
open Go.RowKit

structure Glob (w : World) : Prop where
  pow : Lib.TabIs Tryz.prog w "internal/strconv.uint64pow10" .u64 Lib.pow10Tab
  powSize : 5 < w.heap.size
  rng : ∃ tp p, w.var? Tryz.prog "strconv.ErrRange" = some #[.iface tp p]
  rngSize : 4 < w.heap.size
  syn : ∃ tp p, w.var? Tryz.prog "strconv.ErrSyntax" = some #[.iface tp p]
  synSize : 3 < w.heap.size
  maxLen : ∃ m, w.cell? ⟨0, 0, none⟩ = some (.int .i64 m)
  maxSize : 0 < w.heap.size

theorem gPowG : Tryz.prog.globalNamed "internal/strconv.uint64pow10" = some 5 := by kernel_rfl
theorem grng : Tryz.prog.globalNamed "strconv.ErrRange" = some 4 := by kernel_rfl
theorem gsyn : Tryz.prog.globalNamed "strconv.ErrSyntax" = some 3 := by kernel_rfl

theorem Glob.below {w w' : World} (h : Glob w) (hb : Below w.heap.size w w') : Glob w' :=
  ⟨Lib.tabBelow_of_tabIs h.pow w' hb, Nat.lt_of_lt_of_le h.powSize hb.size, (by obtain ⟨tp, p, e⟩ := h.rng; exact ⟨tp, p, var?_below hb grng h.rngSize e⟩), Nat.lt_of_lt_of_le h.rngSize hb.size, (by obtain ⟨tp, p, e⟩ := h.syn; exact ⟨tp, p, var?_below hb gsyn h.synSize e⟩), Nat.lt_of_lt_of_le h.synSize hb.size, (by obtain ⟨m, e⟩ := h.maxLen; exact ⟨m, by rw [hb.cell (p := ⟨0, 0, none⟩) h.maxSize]; exact e⟩), Nat.lt_of_lt_of_le h.maxSize hb.size⟩
theorem Glob.alloc {w : World} (h : Glob w) (o : Obj) : Glob (w.alloc o) := h.below (below_new w o)
theorem Glob.drew {w : World} (h : Glob w) : Glob w.drew := h.below (Below.refl _ _).drew
/-- From here on blocks are nobody's but the calls'. -/
def globK : Nat := 6
theorem Glob.low {w w' : World} (h : Glob w) (hs : w.heap.size ≤ w'.heap.size) (hb : Below globK w w') : Glob w' :=
  ⟨var?_below hb gPowG (by decide) h.pow, Nat.lt_of_lt_of_le h.powSize hs, (by obtain ⟨tp, p, e⟩ := h.rng; exact ⟨tp, p, var?_below hb grng (by decide) e⟩), Nat.lt_of_lt_of_le h.rngSize hs, (by obtain ⟨tp, p, e⟩ := h.syn; exact ⟨tp, p, var?_below hb gsyn (by decide) e⟩), Nat.lt_of_lt_of_le h.synSize hs, (by obtain ⟨m, e⟩ := h.maxLen; exact ⟨m, by rw [hb.cell (p := ⟨0, 0, none⟩) (by decide)]; exact e⟩), Nat.lt_of_lt_of_le h.maxSize hs⟩
theorem Glob.high {w : World} (h : Glob w) : globK ≤ w.heap.size := h.powSize

end Go.Proofs.YtfmdcgakkijkdaaGreatDoor
