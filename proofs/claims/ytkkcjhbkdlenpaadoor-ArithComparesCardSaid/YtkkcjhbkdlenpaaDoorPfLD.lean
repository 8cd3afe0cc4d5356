/- Layer 2's law ArithCompares, as a function of plain data. -/
import Derived.Test.YtkkcjhbkdlenpaaDoorPfLC
namespace Go.Proofs.YtkkcjhbkdlenpaaDoor
open Go Go.RowKit
set_option linter.unusedSimpArgs false

def FFunc1 : List V → Option V
  | [.agg [.x (.int .i64 k), .x (.int .i64 n), .x (.string s)], .agg [.x (.int .i64 k'), .x (.int .i64 n'), .x (.string s')], .x (.string op)] =>
    if inR n ∧ inR n' then some (.x (.bool (decide (pairW op k n s k' n' s' = (3, 1, ⟨#[]⟩))))) else none
  | _ => none
theorem t3_eq (r : T3) (a b : Int) (c : ByteArray) : (decide (r.1 = a) && (decide (r.2.1 = b) && decide (r.2.2 = c))) = decide (r = (a, b, c)) := by
  obtain ⟨x, y, z⟩ := r
  rw [Bool.eq_iff_iff]
  simp
set_option maxRecDepth 100000 in
theorem func1_fun : FunV 15 FFunc1 := by
  refine fun_of_run (E := envOf [(10, FPair)]) (k := 3) (envOK_of _ ⟨pair_fun, trivial⟩) (by kernel_rfl) Tryd.func15 rfl (fun a w => Tryd.call15 a w) Tryd.ntmps15 (by kernel_rfl) (by decide) ?_
  intro us r hF hdat
  unfold FFunc1 at hF
  split at hF
  case h_2 => cases hF
  rename_i k n s k' n' s' op
  split at hF
  · rename_i hh
    obtain ⟨hn, hn'⟩ := hh
    cases hF
    refine ⟨rfl, ?_⟩
    simp (decide := true) (maxDischargeDepth := 200) only [go_sem, FPair, hn, hn', t3_eq, Tryd.results15]
  · cases hF


theorem pair_cmp {k n : Int} {s : ByteArray} {k' n' : Int} {s' : ByteArray} (h : rightB k n s = true) (h' : rightB k' n' s' = true) (h3 : ¬ k = 4) (h4 : ¬ k' = 4) :
    pairW ⟨#[60]⟩ k n s k' n' s' = boolW (decide (cmpV k n s k' n' s' < 0)) ∧ pairW ⟨#[61]⟩ k n s k' n' s' = boolW (decide (cmpV k n s k' n' s' = 0)) ∧
    pairW ⟨#[62]⟩ k n s k' n' s' = boolW (decide (0 < cmpV k n s k' n' s')) ∧ pairW ⟨#[60, 61]⟩ k n s k' n' s' = boolW (decide (cmpV k n s k' n' s' ≤ 0)) ∧
    pairW ⟨#[62, 61]⟩ k n s k' n' s' = boolW (decide (0 ≤ cmpV k n s k' n' s')) ∧ pairW ⟨#[60, 62]⟩ k n s k' n' s' = boolW (!decide (cmpV k n s k' n' s' = 0)) := by
  refine ⟨?_, ?_, ?_, ?_, ?_, ?_⟩ <;> (unfold pairW; simp (decide := true) only [h, h', h3, h4, if_false, if_true])
theorem bool_is (b : Bool) : decide (boolW b = (3, 1, ⟨#[]⟩)) = b := by cases b <;> simp [boolW]
end Go.Proofs.YtkkcjhbkdlenpaaDoor
