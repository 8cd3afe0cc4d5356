/- Numbers and texts among the arguments; from a law as a function of plain data to what its row asks. -/
import Derived.Test.YtkacldoiimlmcaaFrame
import Derived.Test.YtkacldoiimlmcaaPfW
import Derived.Test.YtkacldoiimlmcaaArithP
namespace Go.Proofs.Ytkacldoiimlmcaa
open Go.ChangeShapes Go.WideShapes Go.ChangeAt Go.WideMaps Go.WideElems Go.RowKit Go.Joins
set_option maxRecDepth 100000

/-- A number among the arguments. -/
theorem open_num {H : Type} {enc : TypeId × Value → H} {W : World} {base b0 : Nat} {r : Reach} {sp : Nat → Bool} {held : Bool} {v : Value} {d : DataW H} {p : List MemPlace} (hv : Value.okWide Try.prog W r b0 3 v) (h : DataW.Trod enc Try.prog W base sp held 3 v d p) :
    ∃ n : Int, v = .int .i64 n ∧ -9223372036854775808 ≤ n ∧ n ≤ 9223372036854775807 := by
  obtain ⟨n, rfl⟩ := okWide_int Try.underlying3 hv
  obtain ⟨fuel, hf⟩ := h
  obtain ⟨k, e1, e1', wk⟩ := DataW.trod_int Try.underlying3 hf
  simp [Value.cells] at e1
  subst e1
  have bn := bounds_i64 wk
  exact ⟨n, rfl, bn.1, bn.2⟩


/-- A text among the arguments. -/
theorem open_text {H : Type} {enc : TypeId × Value → H} {W : World} {base b0 : Nat} {r : Reach} {sp : Nat → Bool} {held : Bool} {v : Value} {d : DataW H} {p : List MemPlace} (hv : Value.okWide Try.prog W r b0 9 v) (h : DataW.Trod enc Try.prog W base sp held 9 v d p) :
    ∃ s : ByteArray, v = .string s ∧ s.size ≤ maxLen := by
  obtain ⟨s, rfl⟩ := okWide_string Try.underlying9 hv
  obtain ⟨fuel, hf⟩ := h
  obtain ⟨s', e1, _, hs⟩ := DataW.trod_string Try.underlying9 hf
  simp [Value.cells] at e1
  subst e1
  exact ⟨s, rfl, hs⟩

/-- A law that is true of plain data is true of whatever reads as it. -/
theorem law_of_fun {f : FuncId} {F : List V → Option V} (h : FunV f F) {us : List V} (hF : F us = some (.x (.bool true))) (hd : us.all V.dat = true) {vs : Array Value} {W : World} (hg : Glob W) (hr : RdL (fun _ => none) W vs.toList us) :
    Calls Try.prog f vs W fun e W' => e = .returned (.bool true) ∧ Below W.heap.size W W' := by
  refine (h.2 (fun _ => none) W vs us _ hF hd hr hg (fun _ => .undef _)).mono ?_
  rintro e W' ⟨v, m', rfl, hv, hb, _⟩
  rw [Rd.x_iff.1 hv]
  exact ⟨rfl, hb⟩
end Go.Proofs.Ytkacldoiimlmcaa
