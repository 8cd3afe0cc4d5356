/- What the calls ask of the package-level variables; kept while only new memory is made. By program (mkseat.py). -/
import Derived.Test.YteibnmlfipkmeaaGreatDoorProg
import Derived.Test.YteibnmlfipkmeaaGreatDoorBase
import Derived.Lib.LaidTab
import Derived.Lib.AppendIntMem
import Derived.Lib.ItoaNum
import Derived.WalkSmall
import Derived.ChangeBears2
namespace Go.Proofs.YteibnmlfipkmeaaGreatDoor
open Go.RowKit

/-- How an error that is a value is shown. -/
def errName (n : Nat) : ByteArray :=
  match n with
  | 1 => ⟨#[35, 79, 86, 69, 82]⟩ | 2 => ⟨#[35, 68, 73, 86]⟩ | 3 => ⟨#[35, 84, 89, 80, 69]⟩ | 4 => ⟨#[35, 82, 69, 70]⟩ | 5 => ⟨#[35, 78, 65, 77, 69]⟩ | 6 => ⟨#[35, 65, 82, 71, 83]⟩ | 7 => ⟨#[35, 78, 79, 78, 69]⟩
  | _ => ⟨#[]⟩
def errNames : Array Value := #[.string ⟨#[]⟩, .string ⟨#[35, 79, 86, 69, 82]⟩, .string ⟨#[35, 68, 73, 86]⟩, .string ⟨#[35, 84, 89, 80, 69]⟩, .string ⟨#[35, 82, 69, 70]⟩, .string ⟨#[35, 78, 65, 77, 69]⟩, .string ⟨#[35, 65, 82, 71, 83]⟩, .string ⟨#[35, 78, 79, 78, 69]⟩]

structure Glob (w : World) : Prop where
  pow : Lib.TabIs Tryz.prog w "internal/strconv.uint64pow10" .u64 Lib.pow10Tab
  powSize : 4 < w.heap.size
  names : w.var? Tryz.prog "abacist/value.faultNames" = some errNames
  size : 0 < w.heap.size
  rng : ∃ tp p, w.var? Tryz.prog "strconv.ErrRange" = some #[.iface tp p]
  rngSize : 8 < w.heap.size
  syn : ∃ tp p, w.var? Tryz.prog "strconv.ErrSyntax" = some #[.iface tp p]
  synSize : 7 < w.heap.size
  maxLen : ∃ m, w.cell? ⟨1, 0, none⟩ = some (.int .i64 m)
  maxSize : 1 < w.heap.size

theorem gNames : Tryz.prog.globalNamed "abacist/value.faultNames" = some 0 := by kernel_rfl
theorem gPowG : Tryz.prog.globalNamed "internal/strconv.uint64pow10" = some 4 := by kernel_rfl
theorem grng : Tryz.prog.globalNamed "strconv.ErrRange" = some 8 := by kernel_rfl
theorem gsyn : Tryz.prog.globalNamed "strconv.ErrSyntax" = some 7 := by kernel_rfl

theorem Glob.below {w w' : World} (h : Glob w) (hb : Below w.heap.size w w') : Glob w' :=
  ⟨Lib.tabBelow_of_tabIs h.pow w' hb, Nat.lt_of_lt_of_le h.powSize hb.size, var?_below hb gNames h.size h.names, Nat.lt_of_lt_of_le h.size hb.size, (by obtain ⟨tp, p, e⟩ := h.rng; exact ⟨tp, p, var?_below hb grng h.rngSize e⟩), Nat.lt_of_lt_of_le h.rngSize hb.size, (by obtain ⟨tp, p, e⟩ := h.syn; exact ⟨tp, p, var?_below hb gsyn h.synSize e⟩), Nat.lt_of_lt_of_le h.synSize hb.size, (by obtain ⟨m, e⟩ := h.maxLen; exact ⟨m, by rw [hb.cell (p := ⟨1, 0, none⟩) h.maxSize]; exact e⟩), Nat.lt_of_lt_of_le h.maxSize hb.size⟩
theorem Glob.alloc {w : World} (h : Glob w) (o : Obj) : Glob (w.alloc o) := h.below (below_new w o)
theorem Glob.drew {w : World} (h : Glob w) : Glob w.drew := h.below (Below.refl _ _).drew
/-- From here on blocks are nobody's but the calls'. -/
def globK : Nat := 9
theorem Glob.low {w w' : World} (h : Glob w) (hs : w.heap.size ≤ w'.heap.size) (hb : Below globK w w') : Glob w' :=
  ⟨var?_below hb gPowG (by decide) h.pow, Nat.lt_of_lt_of_le h.powSize hs, var?_below hb gNames (by decide) h.names, Nat.lt_of_lt_of_le h.size hs, (by obtain ⟨tp, p, e⟩ := h.rng; exact ⟨tp, p, var?_below hb grng (by decide) e⟩), Nat.lt_of_lt_of_le h.rngSize hs, (by obtain ⟨tp, p, e⟩ := h.syn; exact ⟨tp, p, var?_below hb gsyn (by decide) e⟩), Nat.lt_of_lt_of_le h.synSize hs, (by obtain ⟨m, e⟩ := h.maxLen; exact ⟨m, by rw [hb.cell (p := ⟨1, 0, none⟩) (by decide)]; exact e⟩), Nat.lt_of_lt_of_le h.maxSize hs⟩
theorem Glob.high {w : World} (h : Glob w) : globK ≤ w.heap.size := h.rngSize
theorem Glob.name {w : World} (h : Glob w) (i : Nat) : w.cell? ⟨0, i, none⟩ = errNames[i]? := World.var?_cell gNames h.names i
theorem Glob.at {w : World} (h : Glob w) (i : Nat) (h1 : 1 ≤ i) (h7 : i ≤ 7) : w.cell? ⟨0, i, none⟩ = some (.string (errName i)) := by
  rw [h.name]
  rcases (show i = 1 ∨ i = 2 ∨ i = 3 ∨ i = 4 ∨ i = 5 ∨ i = 6 ∨ i = 7 from by omega) with rfl | rfl | rfl | rfl | rfl | rfl | rfl <;> rfl

end Go.Proofs.YteibnmlfipkmeaaGreatDoor
