/- What cells show among the arguments: rows of api.Shown; a value. -/
import Derived.Test.YtfngpfnbhafmlaaGreatDoorFrameS
import Derived.Test.YtfngpfnbhafmlaaGreatDoorFrameT
import Derived.Test.YtfngpfnbhafmlaaGreatDoorME
namespace Go.Proofs.YtfngpfnbhafmlaaGreatDoor
open Go.ChangeShapes Go.WideShapes Go.ChangeAt Go.WideMaps Go.WideElems Go.RowKit Go.Joins
set_option maxRecDepth 100000
section
variable {H : Type} {enc : TypeId × Value → H} {W : World} {base : Nat} {held : Bool}
theorem list6 {l : List Value} (h : l.length = 6) : ∃ a b c d e f, l = [a, b, c, d, e, f] := by
 match l, h with
 | [a, b, c, d, e, f], _ => exact ⟨a, b, c, d, e, f, rfl⟩
theorem shown_of_trod {fuel : Nat} {cs : List Value} {x : DataW H × List MemPlace} (h : DataW.trod enc Tryz.prog W base (fun _ => true) held fuel 33 cs = some x) : ∃ a : Sh, inR a.2.2.1 ∧ RdL (fun _ => none) W cs (shV a).cells := by
 obtain ⟨xs, n, _, _, hlen, hxl, hf⟩ := DataW.trod_struct Tryz.underlying33 h
 have hc : Tryz.prog.cellsOf 33 = 6 := by kernel_rfl
 have ci : Tryz.prog.cellsOf 25 = 3 := by kernel_rfl
 have ct : Tryz.prog.cellsOf 23 = 3 := by kernel_rfl
 rw [hc] at hlen
 obtain ⟨a, b, c, d, e, f, rfl⟩ := list6 hlen
 obtain ⟨x0, h0⟩ := get_someS hxl (i := 0) (by decide)
 obtain ⟨x1, h1⟩ := get_someS hxl (i := 1) (by decide)
 have f0 : DataW.trod enc Tryz.prog W base (fun _ => true) held n 25 (List.take (Tryz.prog.cellsOf 25) (List.drop 0 [a, b, c, d, e, f])) = some x0 := (hf 0 _ rfl).trans h0
 have f1 : DataW.trod enc Tryz.prog W base (fun _ => true) held n 23 (List.take (Tryz.prog.cellsOf 23) (List.drop 3 [a, b, c, d, e, f])) = some x1 := (hf 1 _ rfl).trans h1
 simp only [ci, ct, List.drop_zero, List.drop_succ_cons, List.take_succ_cons, List.take_zero] at f0 f1
 obtain ⟨s, k, m, e0⟩ := cell_of_trod f0
 obtain ⟨v, hv, hr⟩ := val_of_trod f1
 cases e0
 exact ⟨((s, k, m), v), hv, .x _, .x _, .x _, hr⟩
theorem showns_of_trod {fuel : Nat} {v : Value} {x : DataW H × List MemPlace} (h : DataW.trod enc Tryz.prog W base (fun _ => true) held fuel 29 [v] = some x) : ∃ q : SW, (q.2.2 ≠ [] → q.2.1 = 6) ∧ (∀ a ∈ q.2.2, inR a.2.2.1) ∧ Rd (fun _ => none) W v (swV q) := by
 rcases slice_of_trod (K := 6) (f := shV) (Pr := fun a => inR a.2.2.1) Tryz.underlying29 (by kernel_rfl) (by decide) (fun _ => rfl) (fun _ _ _ h _ => shown_of_trod h) h with rfl | ⟨l, hl, hr⟩
 · exact ⟨(true, 0, []), fun h => absurd rfl h, (fun v hv => by cases hv), .nil _ _⟩
 · exact ⟨(false, 6, l), fun _ => rfl, hl, hr⟩
end
theorem open_shown {H : Type} {enc : TypeId × Value → H} {W : World} {r : Reach} {b0 base : Nat} {held : Bool} {v : Value} {d : DataW H} {p : List MemPlace} (hv : Value.okWide Tryz.prog W r b0 29 v) (h : DataW.Trod enc Tryz.prog W base (fun _ => true) held 29 v d p) :
 ∃ q : SW, (q.2.2 ≠ [] → q.2.1 = 6) ∧ (∀ a ∈ q.2.2, inR a.2.2.1) ∧ Rd (fun _ => none) W v (swV q) := by
 obtain ⟨a, n, c, rfl⟩ := okWide_slice Tryz.underlying29 hv
 obtain ⟨fuel, hf⟩ := h
 exact showns_of_trod hf
theorem open_valS {H : Type} {enc : TypeId × Value → H} {W : World} {r : Reach} {b0 base : Nat} {held : Bool} {v : Value} {d : DataW H} {p : List MemPlace} (hv : Value.okWide Tryz.prog W r b0 23 v) (h : DataW.Trod enc Tryz.prog W base (fun _ => true) held 23 v d p) :
 ∃ a : T3, inR a.2.1 ∧ Rd (fun _ => none) W v (tv a) := by
 obtain ⟨cs, rfl, _⟩ := okWide_struct Tryz.underlying23 hv
 obtain ⟨fuel, hf⟩ := h
 obtain ⟨a, ha, hr⟩ := val_of_trod hf
 exact ⟨a, ha, Rd.agg_iff.2 ⟨cs, rfl, hr⟩⟩
end Go.Proofs.YtfngpfnbhafmlaaGreatDoor
