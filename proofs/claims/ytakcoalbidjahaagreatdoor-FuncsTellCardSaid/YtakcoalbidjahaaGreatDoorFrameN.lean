/- Numbers and texts among the arguments; from a law as a function of plain data to what its row asks. -/
import Derived.Test.YtakcoalbidjahaaGreatDoorFrame
import Derived.Test.YtakcoalbidjahaaGreatDoorMPO
import Derived.Test.YtakcoalbidjahaaGreatDoorArithP
namespace Go.Proofs.YtakcoalbidjahaaGreatDoor
open Go.ChangeShapes Go.WideShapes Go.ChangeAt Go.WideMaps Go.WideElems Go.RowKit Go.Joins
set_option maxRecDepth 100000

/-- A text among the arguments. -/
theorem open_text {H : Type} {enc : TypeId × Value → H} {W : World} {base b0 : Nat} {r : Reach} {sp : Nat → Bool} {held : Bool} {v : Value} {d : DataW H} {p : List MemPlace} (hv : Value.okWide Tryz.prog W r b0 9 v) (h : DataW.Trod enc Tryz.prog W base sp held 9 v d p) :
    ∃ s : ByteArray, v = .string s ∧ s.size ≤ maxLen := by
  obtain ⟨s, rfl⟩ := okWide_string Tryz.underlying9 hv
  obtain ⟨fuel, hf⟩ := h
  obtain ⟨s', e1, _, hs⟩ := DataW.trod_string Tryz.underlying9 hf
  simp [Value.cells] at e1
  subst e1
  exact ⟨s, rfl, hs⟩

/-- A law that is true of plain data is true of whatever reads as it. -/
theorem law_of_fun {f : FuncId} {F : List V → Option V} (h : FunV f F) {us : List V} (hF : F us = some (.x (.bool true))) (hd : us.all V.dat = true) {vs : Array Value} {W : World} (hg : Glob W) (hr : RdL (fun _ => none) W vs.toList us) :
    Calls Tryz.prog f vs W fun e W' => e = .returned (.bool true) ∧ Below W.heap.size W W' := by
  refine (h.2 (fun _ => none) W vs us _ hF hd hr hg (fun _ => .undef _)).mono ?_
  rintro e W' ⟨v, m', rfl, hv, hb, _⟩
  rw [Rd.x_iff.1 hv]
  exact ⟨rfl, hb⟩
end Go.Proofs.YtakcoalbidjahaaGreatDoor
