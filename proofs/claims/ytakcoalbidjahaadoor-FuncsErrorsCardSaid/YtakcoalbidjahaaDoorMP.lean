/- Chapter 10's laws: what some functions of numbers are. -/
import Derived.Test.YtakcoalbidjahaaDoorMJ
namespace Go.Proofs.YtakcoalbidjahaaDoor
open Go Go.RowKit
set_option linter.unusedSimpArgs false
/-- Rows of one value each, as they are made. -/
def rowsOf (l : List T3) : List RW := l.map fun v => (false, 3, [v])
theorem rowsOf_all (l : List T3) : allL (rowsOf l) = l := by
  unfold allL rowsOf
  rw [List.flatMap_map]
  simp
theorem rowsOf_ok {l : List T3} (h : ∀ v ∈ l, inR v.2.1) (hl : l.length ≤ 1000000) : okAw (false, 1, rowsOf l) := by
  refine ⟨fun _ => rfl, fun r hr => ?_, by rw [rowsOf_all]; exact hl, by unfold rowsOf; rw [List.length_map]; exact hl⟩
  obtain ⟨v, hv, rfl⟩ := List.mem_map.1 hr
  exact ⟨fun _ => rfl, fun u hu => by rw [List.mem_singleton.1 hu]; exact h v hv, by simp⟩
end Go.Proofs.YtakcoalbidjahaaDoor

/- Chapter 10's laws: the parts of a text. -/
namespace Go.Proofs.YtakcoalbidjahaaDoor
open Go Go.RowKit
set_option linter.unusedSimpArgs false
end Go.Proofs.YtakcoalbidjahaaDoor
