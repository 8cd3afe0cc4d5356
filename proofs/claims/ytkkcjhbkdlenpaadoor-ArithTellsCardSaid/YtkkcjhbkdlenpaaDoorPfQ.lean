/- Two values by any sign, second part: package arith, as a function of plain data. -/
import Derived.Test.YtkkcjhbkdlenpaaDoorPfP
namespace Go.Proofs.YtkkcjhbkdlenpaaDoor
open Go Go.RowKit
set_option linter.unusedSimpArgs false
set_option maxHeartbeats 4000000 in
set_option maxRecDepth 100000 in
theorem pair_fun : FunV 10 FPair := by
  refine fun_of_run (E := envOf [(16, FRight), (17, FFault), (19, FReckonA), (20, FJoin), (21, FTruth), (22, FCompare)]) (k := 3) (envOK_of _ ⟨right_fun, fault_fun, reckon_fun, join_fun, truth_fun, compare_fun, trivial⟩) (by kernel_rfl) Tryd.func10 rfl (fun a w => Tryd.call10 a w) Tryd.ntmps10 (by kernel_rfl) (by decide) ?_
  intro us r hF hdat
  unfold FPair at hF
  split at hF
  case h_2 => cases hF
  rename_i op k n s k' n' s'
  split at hF
  · rename_i hh
    obtain ⟨hn, hn'⟩ := hh
    cases hF
    refine ⟨rfl, ?_⟩
    cases h : rightB k n s
    · simp (decide := true) (maxDischargeDepth := 200) only [go_sem, FRight, FFault, FReckonA, FJoin, FTruth, FCompare, pairW, boolW, h, Tryd.results10]
    cases h' : rightB k' n' s'
    · simp (decide := true) (maxDischargeDepth := 200) only [go_sem, FRight, FFault, FReckonA, FJoin, FTruth, FCompare, pairW, boolW, h, h', Tryd.results10]
    by_cases h3 : k = 4
    · subst h3
      simp (decide := true) (maxDischargeDepth := 200) only [go_sem, FRight, FFault, FReckonA, FJoin, FTruth, FCompare, pairW, boolW, h, h', Tryd.results10]
    by_cases h4 : k' = 4
    · subst h4
      simp (decide := true) (maxDischargeDepth := 200) only [go_sem, FRight, FFault, FReckonA, FJoin, FTruth, FCompare, pairW, boolW, h, h', h3, Tryd.results10]
    simp (decide := true) (maxDischargeDepth := 200) only [go_sem, FRight, FFault, FReckonA, FJoin, FTruth, FCompare, h, h', h3, h4, hn, hn', Tryd.results10]
    repeat' (first | (refine condK_open (fun o => ?_) (fun o => ?_) <;> simp only [decide_eq_true_eq, decide_eq_false_iff_not] at o) | contradiction | simp (decide := true) (maxDischargeDepth := 200) only [go_sem, FRight, FFault, FReckonA, FJoin, FTruth, FCompare, Tryd.results10, pairW, boolW, h, h', h3, h4, *])
  · cases hF

set_option maxRecDepth 100000 in
theorem minus_fun : FunV 12 FMinus := by
  refine fun_of_run (E := envOf [(28, FNumber), (10, FPair)]) (k := 1) (envOK_of _ ⟨number_fun, pair_fun, trivial⟩) (by kernel_rfl) Tryd.func12 rfl (fun a w => Tryd.call12 a w) Tryd.ntmps12 (by kernel_rfl) (by decide) ?_
  intro us r hF hdat
  unfold FMinus at hF
  split at hF
  case h_2 => cases hF
  rename_i k n s
  split at hF
  · rename_i hn
    cases hF
    refine ⟨rfl, ?_⟩
    have h0 : inR 0 := by decide
    simp (decide := true) (maxDischargeDepth := 200) only [go_sem, FNumber, FPair, hn, h0, Tryd.results12]
  · cases hF

end Go.Proofs.YtkkcjhbkdlenpaaDoor
