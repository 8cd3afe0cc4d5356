/- Two values by any sign, third part: the reference, as a function of plain data. -/
import Derived.Test.YtkkcjhbkdlenpaaDoorPfP
namespace Go.Proofs.YtkkcjhbkdlenpaaDoor
open Go Go.RowKit
set_option linter.unusedSimpArgs false
set_option maxHeartbeats 4000000 in
set_option maxRecDepth 100000 in
theorem rpair_fun : FunV 11 FPair := by
  refine fun_of_run (E := envOf [(14, FRight), (18, FFault), (23, FCompare), (9, FNum), (24, FReckonR), (25, FText), (26, FShow), (27, FTruth)]) (k := 3) (envOK_of _ ⟨rright_fun, rerr_fun, rcompare_fun, rnum_fun, rreckon_fun, rtext_fun, rshow_fun, rtruth_fun, trivial⟩) (by kernel_rfl) Tryd.func11 rfl (fun a w => Tryd.call11 a w) Tryd.ntmps11 (by kernel_rfl) (by decide) ?_
  intro us r hF hdat
  unfold FPair at hF
  split at hF
  case h_2 => cases hF
  rename_i op k n s k' n' s'
  split at hF
  · rename_i hh
    obtain ⟨hn, hn'⟩ := hh
    cases hF
    refine ⟨rfl, ?_⟩
    cases h : rightB k n s
    · simp (decide := true) (maxDischargeDepth := 200) only [go_sem, FRight, FFault, FNum, FReckonR, FText, FShow, FTruth, FCompare, pairW, boolW, h, Tryd.results11]
    cases h' : rightB k' n' s'
    · simp (decide := true) (maxDischargeDepth := 200) only [go_sem, FRight, FFault, FNum, FReckonR, FText, FShow, FTruth, FCompare, pairW, boolW, h, h', Tryd.results11]
    by_cases h3 : k = 4
    · subst h3
      simp (decide := true) (maxDischargeDepth := 200) only [go_sem, FRight, FFault, FNum, FReckonR, FText, FShow, FTruth, FCompare, pairW, boolW, h, h', Tryd.results11]
    by_cases h4 : k' = 4
    · subst h4
      simp (decide := true) (maxDischargeDepth := 200) only [go_sem, FRight, FFault, FNum, FReckonR, FText, FShow, FTruth, FCompare, pairW, boolW, h, h', h3, Tryd.results11]
    have hz := show_adds (k := k) (s := s) (k' := k') (s' := s') hn hn'
    by_cases p : k = 2 ∨ k = 3
    · have e := numW_no h p
      have q : k = 2 ∨ k = 3 ∨ k' = 2 ∨ k' = 3 := by omega
      simp (decide := true) (maxDischargeDepth := 200) only [go_sem, FRight, FFault, FNum, FReckonR, FText, FShow, FTruth, FCompare, h, h', h3, h4, hn, hn', hz, e, Tryd.results11]
      repeat' (first | (refine condK_open (fun o => ?_) (fun o => ?_) <;> simp only [decide_eq_true_eq, decide_eq_false_iff_not] at o) | contradiction | simp (decide := true) (maxDischargeDepth := 200) only [go_sem, FRight, FFault, FNum, FReckonR, FText, FShow, FTruth, FCompare, Tryd.results11, pairW, boolW, h, h', h3, h4, q, *])
    have e := numW_yes h (show k = 0 ∨ k = 1 by have := right_kind h; omega)
    by_cases p' : k' = 2 ∨ k' = 3
    · have e' := numW_no h' p'
      have q : k = 2 ∨ k = 3 ∨ k' = 2 ∨ k' = 3 := by omega
      simp (decide := true) (maxDischargeDepth := 200) only [go_sem, FRight, FFault, FNum, FReckonR, FText, FShow, FTruth, FCompare, h, h', h3, h4, hn, hn', hz, e, e', Tryd.results11]
      repeat' (first | (refine condK_open (fun o => ?_) (fun o => ?_) <;> simp only [decide_eq_true_eq, decide_eq_false_iff_not] at o) | contradiction | simp (decide := true) (maxDischargeDepth := 200) only [go_sem, FRight, FFault, FNum, FReckonR, FText, FShow, FTruth, FCompare, Tryd.results11, pairW, boolW, h, h', h3, h4, q, *])
    have e' := numW_yes h' (show k' = 0 ∨ k' = 1 by have := right_kind h'; omega)
    have q : ¬ (k = 2 ∨ k = 3 ∨ k' = 2 ∨ k' = 3) := by omega
    simp (decide := true) (maxDischargeDepth := 200) only [go_sem, FRight, FFault, FNum, FReckonR, FText, FShow, FTruth, FCompare, h, h', h3, h4, hn, hn', hz, e, e', Tryd.results11]
    repeat' (first | (refine condK_open (fun o => ?_) (fun o => ?_) <;> simp only [decide_eq_true_eq, decide_eq_false_iff_not] at o) | contradiction | simp (decide := true) (maxDischargeDepth := 200) only [go_sem, FRight, FFault, FNum, FReckonR, FText, FShow, FTruth, FCompare, Tryd.results11, pairW, boolW, h, h', h3, h4, q, *])
  · cases hF

set_option maxRecDepth 100000 in
theorem rminus_fun : FunV 13 FMinus := by
  refine fun_of_run (E := envOf [(29, FNumber), (11, FPair)]) (k := 1) (envOK_of _ ⟨rint_fun, rpair_fun, trivial⟩) (by kernel_rfl) Tryd.func13 rfl (fun a w => Tryd.call13 a w) Tryd.ntmps13 (by kernel_rfl) (by decide) ?_
  intro us r hF hdat
  unfold FMinus at hF
  split at hF
  case h_2 => cases hF
  rename_i k n s
  split at hF
  · rename_i hn
    cases hF
    refine ⟨rfl, ?_⟩
    have h0 : inR 0 := by decide
    simp (decide := true) (maxDischargeDepth := 200) only [go_sem, FNumber, FPair, hn, h0, Tryd.results13]
  · cases hF

end Go.Proofs.YtkkcjhbkdlenpaaDoor
