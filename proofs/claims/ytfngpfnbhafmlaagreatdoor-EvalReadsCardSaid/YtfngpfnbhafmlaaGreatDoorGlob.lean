/- What the calls ask of the package-level variables; kept while only new memory is made. By program (mkseat.py). -/
import Derived.Test.YtfngpfnbhafmlaaGreatDoorProg
import Derived.Test.YtfngpfnbhafmlaaGreatDoorBase
import Derived.Lib.LaidTab
import Derived.Lib.AppendIntMem
import Derived.Lib.ItoaNum
import Derived.WalkSmall
import Derived.ChangeBears2
namespace Go.Proofs.YtfngpfnbhafmlaaGreatDoor
open Go.RowKit
def errName (n : Nat) : ByteArray :=
 match n with
 | 1 => ⟨#[35, 79, 86, 69, 82]⟩ | 2 => ⟨#[35, 68, 73, 86]⟩ | 3 => ⟨#[35, 84, 89, 80, 69]⟩ | 4 => ⟨#[35, 82, 69, 70]⟩ | 5 => ⟨#[35, 78, 65, 77, 69]⟩ | 6 => ⟨#[35, 65, 82, 71, 83]⟩ | 7 => ⟨#[35, 78, 79, 78, 69]⟩
 | _ => ⟨#[]⟩
def errNames : Array Value := #[.string ⟨#[]⟩, .string ⟨#[35, 79, 86, 69, 82]⟩, .string ⟨#[35, 68, 73, 86]⟩, .string ⟨#[35, 84, 89, 80, 69]⟩, .string ⟨#[35, 82, 69, 70]⟩, .string ⟨#[35, 78, 65, 77, 69]⟩, .string ⟨#[35, 65, 82, 71, 83]⟩, .string ⟨#[35, 78, 79, 78, 69]⟩]
structure Glob (w : World) : Prop where
 pow : Lib.TabIs Tryz.prog w "internal/strconv.uint64pow10" .u64 Lib.pow10Tab
 powSize : 2 < w.heap.size
 names : w.var? Tryz.prog "abacist/value.faultNames" = some errNames
 size : 0 < w.heap.size
 maxLen : ∃ m, w.cell? ⟨1, 0, none⟩ = some (.int .i64 m)
 maxSize : 1 < w.heap.size
theorem gNames : Tryz.prog.globalNamed "abacist/value.faultNames" = some 0 := by kernel_rfl
theorem gPowG : Tryz.prog.globalNamed "internal/strconv.uint64pow10" = some 2 := by kernel_rfl
theorem Glob.below {w w' : World} (h : Glob w) (hb : Below w.heap.size w w') : Glob w' :=
 ⟨Lib.tabBelow_of_tabIs h.pow w' hb, Nat.lt_of_lt_of_le h.powSize hb.size, var?_below hb gNames h.size h.names, Nat.lt_of_lt_of_le h.size hb.size, (by obtain ⟨m, e⟩ := h.maxLen; exact ⟨m, by rw [hb.cell (p := ⟨1, 0, none⟩) h.maxSize]; exact e⟩), Nat.lt_of_lt_of_le h.maxSize hb.size⟩
theorem Glob.alloc {w : World} (h : Glob w) (o : Obj) : Glob (w.alloc o) := h.below (below_new w o)
theorem Glob.drew {w : World} (h : Glob w) : Glob w.drew := h.below (Below.refl _ _).drew
def globK : Nat := 3
theorem Glob.low {w w' : World} (h : Glob w) (hs : w.heap.size ≤ w'.heap.size) (hb : Below globK w w') : Glob w' :=
 ⟨var?_below hb gPowG (by decide) h.pow, Nat.lt_of_lt_of_le h.powSize hs, var?_below hb gNames (by decide) h.names, Nat.lt_of_lt_of_le h.size hs, (by obtain ⟨m, e⟩ := h.maxLen; exact ⟨m, by rw [hb.cell (p := ⟨1, 0, none⟩) (by decide)]; exact e⟩), Nat.lt_of_lt_of_le h.maxSize hs⟩
theorem Glob.high {w : World} (h : Glob w) : globK ≤ w.heap.size := h.powSize
theorem Glob.name {w : World} (h : Glob w) (i : Nat) : w.cell? ⟨0, i, none⟩ = errNames[i]? := World.var?_cell gNames h.names i
theorem Glob.at {w : World} (h : Glob w) (i : Nat) (h1 : 1 ≤ i) (h7 : i ≤ 7) : w.cell? ⟨0, i, none⟩ = some (.string (errName i)) := by
 rw [h.name]
 rcases (show i = 1 ∨ i = 2 ∨ i = 3 ∨ i = 4 ∨ i = 5 ∨ i = 6 ∨ i = 7 from by omega) with rfl | rfl | rfl | rfl | rfl | rfl | rfl <;> rfl
end Go.Proofs.YtfngpfnbhafmlaaGreatDoor
