/- Layer 2's law ArithDivides, as a function of plain data. -/
import Derived.Test.YtkkcjhbkdlenpaaDoorPfLA
namespace Go.Proofs.YtkkcjhbkdlenpaaDoor
open Go Go.RowKit
set_option linter.unusedSimpArgs false
theorem tmod_between (a b : Int) : (0 ≤ a → 0 ≤ a.tmod b ∧ a.tmod b ≤ a) ∧ (a ≤ 0 → a ≤ a.tmod b ∧ a.tmod b ≤ 0) := by
  have h1 : (a.tmod b).natAbs = a.natAbs % b.natAbs := Int.natAbs_tmod a b
  have h2 : a.natAbs % b.natAbs ≤ a.natAbs := Nat.mod_le _ _
  constructor
  · intro h
    have := Int.tmod_nonneg b h
    omega
  · intro h
    have h3 := Int.tmod_nonneg b (show 0 ≤ -a by omega)
    rw [Int.neg_tmod] at h3
    omega
theorem in_back {a b : Int} (ha : inR a) : inR (a.tdiv b * b) ∧ inR (a - a.tdiv b * b) := by
  have h1 := div_back a b
  obtain ⟨h2, h3⟩ := tmod_between a b
  unfold inR at *
  rcases Int.le_total 0 a with h | h
  · have := h2 h; omega
  · have := h3 h; omega
theorem p_quo0 (a : Int) : pairW ⟨#[47]⟩ 1 a ⟨#[]⟩ 1 0 ⟨#[]⟩ = (4, 2, ⟨#[]⟩) := p_quo a 0
theorem p_quoM : pairW ⟨#[47]⟩ 1 (-9223372036854775808) ⟨#[]⟩ 1 (-1) ⟨#[]⟩ = (4, 1, ⟨#[]⟩) := by
  rw [p_quo, if_neg (by decide), fit_no (by rw [quo_out]; unfold inR; omega)]
theorem p_quoY {a b : Int} (h0 : ¬ b = 0) (g : inR (a.tdiv b)) : pairW ⟨#[47]⟩ 1 a ⟨#[]⟩ 1 b ⟨#[]⟩ = (1, a.tdiv b, ⟨#[]⟩) := by
  rw [p_quo, if_neg h0, fit_yes g]
set_option maxHeartbeats 4000000 in
set_option maxRecDepth 100000 in
theorem divides_fun : FunV 5 FLaw2 := by
  refine fun_of_run (E := envOf [(10, FPair), (7, FAlive)]) (k := 2) (envOK_of _ ⟨pair_fun, alive_fun, trivial⟩) (by kernel_rfl) Tryd.func5 rfl (fun a w => Tryd.call5 a w) Tryd.ntmps5 (by kernel_rfl) (by decide) ?_
  intro us r hF hdat
  unfold FLaw2 at hF
  split at hF
  case h_2 => cases hF
  rename_i a b
  split at hF
  · rename_i hh
    obtain ⟨ha, hb⟩ := hh
    cases hF
    refine ⟨rfl, ?_⟩
    by_cases b0 : b = 0
    · subst b0
      have e := p_quo0 a
      simp (decide := true) (maxDischargeDepth := 200) only [go_sem, FAlive, FPair, ha, hb, e, Tryd.results5]
    by_cases hm : a = -9223372036854775808 ∧ b = -1
    · obtain ⟨rfl, rfl⟩ := hm
      have e := p_quoM
      simp (decide := true) (maxDischargeDepth := 200) only [go_sem, FAlive, FPair, ha, hb, e, Tryd.results5]
    have g := quo_in ha hm
    have e := p_quoY b0 g
    obtain ⟨gm, gr⟩ := in_back (b := b) ha
    have e2 := (p_mul (a.tdiv b) b).trans (fit_yes gm)
    have e3 := (p_sub a (a.tdiv b * b)).trans (fit_yes gr)
    rw [div_back] at e3
    have hw := bwrap_of g
    by_cases hm1 : a = -9223372036854775808
    · have hm2 : ¬ b = -1 := fun h => hm ⟨hm1, h⟩
      subst hm1
      simp (decide := true) (maxDischargeDepth := 200) only [go_sem, FAlive, FPair, ha, hb, b0, hm2, e, e2, e3, g, gm, hw, Tryd.results5]
    · simp (decide := true) (maxDischargeDepth := 200) only [go_sem, FAlive, FPair, ha, hb, b0, hm1, e, e2, e3, g, gm, hw, Tryd.results5]
  · cases hF

end Go.Proofs.YtkkcjhbkdlenpaaDoor
