/- Two values by any sign: package arith and the reference, as functions of plain data. -/
import Derived.Test.YtkkcjhbkdlenpaaDoorPfZ
namespace Go.Proofs.YtkkcjhbkdlenpaaDoor
open Go Go.RowKit
set_option linter.unusedSimpArgs false
theorem wide_m1 {b : Int} (hb : inR b) : (!decide (b = -9223372036854775808)) = decide (inR (-1 * b)) := by
  rw [Bool.eq_iff_iff]
  unfold inR at *
  simp
  omega
theorem wide_m1' {a : Int} (ha : inR a) : (!decide (a = -9223372036854775808)) = decide (inR (a * -1)) := by
  rw [Int.mul_comm]
  exact wide_m1 ha
theorem wide_else {a b : Int} (hb : inR b) (h0 : ¬ b = 0) (h1 : ¬ b = -1) : decide (wrap64 ((wrap64 (a * b)).tdiv b) = a) = decide (inR (a * b)) := by
  rw [wrap64_of (quo_in (wrap64_range _) (fun h => h1 h.2)), Bool.eq_iff_iff]
  simp only [decide_eq_true_eq]
  exact mul_test hb h0
set_option maxRecDepth 100000 in
theorem rwide_fun : FunV 39 FMul := by
  refine fun_of_run (E := envOf []) (k := 2) (envOK_of _ trivial) (by kernel_rfl) Tryd.func39 rfl (fun a w => Tryd.call39 a w) Tryd.ntmps39 (by kernel_rfl) (by decide) ?_
  intro us r hF hdat
  unfold FMul at hF
  split at hF
  case h_2 => cases hF
  rename_i a b
  split at hF
  · rename_i h
    obtain ⟨ha, hb⟩ := h
    cases hF
    refine ⟨rfl, ?_⟩
    by_cases ha0 : a = 0
    · subst ha0
      simp (decide := true) (maxDischargeDepth := 200) only [go_sem, Tryd.results39]
      exact some_tup (by simp [wrap64]) (by simp [inR])
    · by_cases hb0 : b = 0
      · subst hb0
        simp (decide := true) (maxDischargeDepth := 200) only [go_sem, ha0, Tryd.results39]
        exact some_tup (by simp [wrap64]) (by simp [inR])
      · by_cases ha1 : a = -1
        · subst ha1
          simp (decide := true) (maxDischargeDepth := 200) only [go_sem, hb0, wrapk, Tryd.results39]
          exact some_tup rfl (wide_m1 hb)
        · by_cases hb1 : b = -1
          · subst hb1
            simp (decide := true) (maxDischargeDepth := 200) only [go_sem, ha0, ha1, wrapk, Tryd.results39]
            exact some_tup rfl (wide_m1' ha)
          · simp (decide := true) (maxDischargeDepth := 200) only [go_sem, ha0, hb0, ha1, hb1, wrapk, Tryd.results39]
            exact some_tup rfl (wide_else hb hb0 hb1)
  · cases hF

set_option maxHeartbeats 2000000 in
set_option maxRecDepth 100000 in
theorem rreckon_fun : FunV 24 FReckonR := by
  refine fun_of_run (E := envOf [(18, FFault), (29, FNumber), (39, FMul)]) (k := 3) (envOK_of _ ⟨rerr_fun, rint_fun, rwide_fun, trivial⟩) (by kernel_rfl) Tryd.func24 rfl (fun a w => Tryd.call24 a w) Tryd.ntmps24 (by kernel_rfl) (by decide) ?_
  intro us r hF hdat
  unfold FReckonR at hF
  split at hF
  case h_2 => cases hF
  rename_i op a b
  split at hF
  · rename_i hh
    obtain ⟨ha, hb⟩ := hh
    cases hF
    refine ⟨rfl, ?_⟩
    by_cases o0 : op = ⟨#[43]⟩
    · subst o0
      have q := add_ok ha hb
      by_cases g : inR (a + b)
      · have q' := q.trans (decide_eq_true g)
        have hw := wrap64_of g
        rw [hw] at q'
        simp (decide := true) (maxDischargeDepth := 200) only [go_sem, FFault, FNumber, FMul, reckonW, fitV, wrapk, g, hw, q', Tryd.results24]
      · have b0 : ¬ b = 0 := by rintro rfl; exact g (by simpa using ha)
        have q' := q.trans (decide_eq_false g)
        simp (decide := true) (maxDischargeDepth := 200) only [go_sem, FFault, FNumber, FMul, reckonW, fitV, wrapk, g, b0, q', Tryd.results24]
    by_cases o1 : op = ⟨#[45]⟩
    · subst o1
      have q := sub_ok ha hb
      by_cases g : inR (a - b)
      · have q' := q.trans (decide_eq_true g)
        have hw := wrap64_of g
        rw [hw] at q'
        simp (decide := true) (maxDischargeDepth := 200) only [go_sem, FFault, FNumber, FMul, reckonW, fitV, wrapk, g, hw, q', Tryd.results24]
      · have b0 : ¬ b = 0 := by rintro rfl; exact g (by simpa using ha)
        have q' := q.trans (decide_eq_false g)
        simp (decide := true) (maxDischargeDepth := 200) only [go_sem, FFault, FNumber, FMul, reckonW, fitV, wrapk, g, b0, q', Tryd.results24]
    by_cases o2 : op = ⟨#[42]⟩
    · subst o2
      by_cases g : inR (a * b)
      · have hw := wrap64_of g
        simp (decide := true) (maxDischargeDepth := 200) only [go_sem, FFault, FNumber, FMul, reckonW, fitV, wrapk, ha, hb, g, hw, Tryd.results24]
      · simp (decide := true) (maxDischargeDepth := 200) only [go_sem, FFault, FNumber, FMul, reckonW, fitV, wrapk, ha, hb, g, Tryd.results24]
    by_cases b0 : b = 0
    · subst b0
      simp (decide := true) (maxDischargeDepth := 200) only [go_sem, FFault, FNumber, FMul, reckonW, fitV, wrapk, o0, o1, o2, Tryd.results24]
    by_cases b1 : b = -1
    · subst b1
      by_cases a1 : a = -9223372036854775808
      · subst a1
        have g : ¬ inR ((-9223372036854775808 : Int).tdiv (-1)) := by rw [quo_out]; unfold inR; omega
        simp (decide := true) (maxDischargeDepth := 200) only [go_sem, FFault, FNumber, FMul, reckonW, fitV, wrapk, g, o0, o1, o2, Tryd.results24]
      · have g : inR (a.tdiv (-1)) := quo_in ha (fun h => a1 h.1)
        have hw := wrap64_of g
        simp (decide := true) (maxDischargeDepth := 200) only [go_sem, FFault, FNumber, FMul, reckonW, fitV, wrapk, a1, g, hw, o0, o1, o2, Tryd.results24]
    · have g : inR (a.tdiv b) := quo_in ha (fun h => b1 h.2)
      have hw := wrap64_of g
      simp (decide := true) (maxDischargeDepth := 200) only [go_sem, FFault, FNumber, FMul, reckonW, fitV, wrapk, b0, b1, g, hw, o0, o1, o2, Tryd.results24]
  · cases hF

end Go.Proofs.YtkkcjhbkdlenpaaDoor
