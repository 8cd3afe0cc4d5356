/- Stamps and rows of truths among the arguments. -/
import Derived.Test.YtkacldoiimlmcaaFrameG
import Derived.Test.YtkacldoiimlmcaaStB
namespace Go.Proofs.Ytkacldoiimlmcaa
open Go.ChangeShapes Go.WideShapes Go.ChangeAt Go.WideMaps Go.WideElems Go.RowKit Go.Joins
set_option maxRecDepth 100000
/-- A stamp among the arguments: three numbers. -/
theorem open_stamp {H : Type} {enc : TypeId × Value → H} {W : World} {r : Reach} {b0 base : Nat} {sp : Nat → Bool} {held : Bool} {v : Value} {d : DataW H} {p : List MemPlace} (hv : Value.okWide Try.prog W r b0 23 v) (h : DataW.Trod enc Try.prog W base sp held 23 v d p) :
    ∃ a k n : Int, v = .agg #[.int .i64 a, .int .i64 k, .int .i64 n] := by
  obtain ⟨v0, v1, v2, y0, y1, y2, m, rfl, rfl, _, h0, h1, h2⟩ := open_agg3 Try.underlying23 (by kernel_rfl) (by kernel_rfl) hv h
  obtain ⟨a, e0, e0', wa⟩ := DataW.trod_int Try.underlying3 h0
  obtain ⟨k, e1, e1', wk⟩ := DataW.trod_int Try.underlying3 h1
  obtain ⟨n, e2, e2', wn⟩ := DataW.trod_int Try.underlying3 h2
  simp at e0 e1 e2
  subst e0 e1 e2
  exact ⟨a, k, n, rfl⟩
theorem rd_stamp {m : Lim} {w : World} (a b c : Value) : Rd m w (.agg #[a, b, c]) (.agg [.x a, .x b, .x c]) := Rd.agg_iff.2 ⟨_, rfl, .x _, .x _, .x _, trivial⟩
/-- A row of truths among the arguments. -/
theorem open_bools {H : Type} {enc : TypeId × Value → H} {W : World} {r : Reach} {b0 base : Nat} {held : Bool} {v : Value} {d : DataW H} {p : List MemPlace} (hv : Value.okWide Try.prog W r b0 27 v) (h : DataW.Trod enc Try.prog W base (fun _ => true) held 27 v d p) :
    ∃ q : BR, okBR q ∧ Rd (fun _ => none) W v (brV q) := by
  obtain ⟨a, n, c, rfl⟩ := okWide_slice Try.underlying27 hv
  obtain ⟨fuel, hf⟩ := h
  rcases slice_of_trod (K := 1) (f := tV) (Pr := fun _ => True) Try.underlying27 (by kernel_rfl) (by decide) (fun _ => rfl) (fun _ cs _ h _ => by
    obtain ⟨k, e1, _⟩ := DataW.trod_bool Try.underlying4 h
    subst e1
    exact ⟨k, trivial, .x _, trivial⟩) hf with e | ⟨l, _, hr⟩
  · exact ⟨(true, 0, []), fun h => absurd rfl h, by rw [e]; exact .nil _ _⟩
  · exact ⟨(false, 1, l), fun _ => rfl, hr⟩
end Go.Proofs.Ytkacldoiimlmcaa
