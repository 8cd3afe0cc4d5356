/- Layer 2's law ArithCompares, last part, as a function of plain data. -/
import Derived.Test.YtkkcjhbkdlenpaaDoorPfLD
namespace Go.Proofs.YtkkcjhbkdlenpaaDoor
open Go Go.RowKit
set_option linter.unusedSimpArgs false

theorem cmp_same {k n : Int} {s : ByteArray} {k' n' : Int} {s' : ByteArray} (h : rightB k n s = true) (h' : rightB k' n' s' = true) :
    (decide (k = k') && (decide (n = n') && decide (s = s'))) = decide (cmpV k n s k' n' s' = 0) := by
  rw [Bool.eq_iff_iff]
  simp only [Bool.and_eq_true, decide_eq_true_eq]
  unfold cmpV
  rw [if_pos (by simp [h, h'])]
  constructor
  · rintro ⟨rfl, rfl, rfl⟩
    simp [cmpI, cmpS_eq]
  · intro hc
    by_cases h1 : cmpI k k' = 0
    · by_cases h2 : cmpI n n' = 0
      · simp only [h1, h2, ne_eq, not_true_eq_false, if_false] at hc
        refine ⟨?_, ?_, cmpS_eq.1 hc⟩
        · unfold cmpI at h1; split at h1 <;> (try split at h1) <;> omega
        · unfold cmpI at h2; split at h2 <;> (try split at h2) <;> omega
      · simp only [h1, h2, ne_eq, not_true_eq_false, not_false_eq_true, if_false, if_true] at hc
    · simp only [h1, ne_eq, not_false_eq_true, if_true] at hc

theorem bw01 : bWrap .i64 (0 + 1) = 1 := bwrap_of (by decide)
set_option maxHeartbeats 4000000 in
set_option maxRecDepth 100000 in
theorem compares2_fun : FunV 6 FCompares2 := by
  refine fun_of_run (E := envOf [(7, FAlive), (14, FRight), (15, FFunc1)]) (k := 2) (envOK_of _ ⟨alive_fun, rright_fun, func1_fun, trivial⟩) (by kernel_rfl) Tryd.func6 rfl (fun a w => Tryd.call6 a w) Tryd.ntmps6 (by kernel_rfl) (by decide) ?_
  intro us r hF hdat
  unfold FCompares2 at hF
  split at hF
  case h_2 => cases hF
  rename_i k n s k' n' s'
  split at hF
  · rename_i hh
    obtain ⟨hn, hn'⟩ := hh
    cases hF
    refine ⟨rfl, ?_⟩
    cases h : rightB k n s
    · simp (decide := true) (maxDischargeDepth := 200) only [go_sem, FAlive, FRight, h, Tryd.results6]
    cases h' : rightB k' n' s'
    · simp (decide := true) (maxDischargeDepth := 200) only [go_sem, FAlive, FRight, h, h', Tryd.results6]
    by_cases h3 : k = 4
    · subst h3
      simp (decide := true) (maxDischargeDepth := 200) only [go_sem, FAlive, FRight, h, h', Tryd.results6]
    by_cases h4 : k' = 4
    · subst h4
      simp (decide := true) (maxDischargeDepth := 200) only [go_sem, FAlive, FRight, h, h', h3, Tryd.results6]
    obtain ⟨p1, p2, p3, p4, p5, p6⟩ := pair_cmp h h' h3 h4
    have q1 : decide (pairW ⟨#[60]⟩ k n s k' n' s' = (3, 1, ⟨#[]⟩)) = (decide (cmpV k n s k' n' s' < 0)) := by rw [p1]; exact bool_is _
    have q2 : decide (pairW ⟨#[61]⟩ k n s k' n' s' = (3, 1, ⟨#[]⟩)) = (decide (cmpV k n s k' n' s' = 0)) := by rw [p2]; exact bool_is _
    have q3 : decide (pairW ⟨#[62]⟩ k n s k' n' s' = (3, 1, ⟨#[]⟩)) = (decide (0 < cmpV k n s k' n' s')) := by rw [p3]; exact bool_is _
    have q4 : decide (pairW ⟨#[60, 61]⟩ k n s k' n' s' = (3, 1, ⟨#[]⟩)) = (decide (cmpV k n s k' n' s' ≤ 0)) := by rw [p4]; exact bool_is _
    have q5 : decide (pairW ⟨#[62, 61]⟩ k n s k' n' s' = (3, 1, ⟨#[]⟩)) = (decide (0 ≤ cmpV k n s k' n' s')) := by rw [p5]; exact bool_is _
    have q6 : decide (pairW ⟨#[60, 62]⟩ k n s k' n' s' = (3, 1, ⟨#[]⟩)) = (!decide (cmpV k n s k' n' s' = 0)) := by rw [p6]; exact bool_is _
    have q7 := cmp_same h h'
    clear p1 p2 p3 p4 p5 p6
    generalize cmpV k n s k' n' s' = c at q1 q2 q3 q4 q5 q6 q7
    rcases Int.lt_trichotomy c 0 with hc | hc | hc
    · have c1 : ¬ c = 0 := by omega
      have c2 : ¬ 0 < c := by omega
      have c3 : c ≤ 0 := by omega
      have c4 : ¬ 0 ≤ c := by omega
      simp only [hc, c1, c2, c3, c4, decide_true, decide_false, Bool.not_false] at q1 q2 q3 q4 q5 q6 q7
      simp (decide := true) (maxDischargeDepth := 200) only [go_sem, FAlive, FRight, FFunc1, bw01, hn, hn', h, h', h3, h4, q1, q2, q3, q4, q5, q6, q7, Tryd.results6]
    · subst hc
      simp (decide := true) only [decide_true, decide_false, Bool.not_true] at q1 q2 q3 q4 q5 q6 q7
      simp (decide := true) (maxDischargeDepth := 200) only [go_sem, FAlive, FRight, FFunc1, bw01, hn, hn', h, h', h3, h4, q1, q2, q3, q4, q5, q6, q7, Tryd.results6]
    · have c1 : ¬ c = 0 := by omega
      have c2 : ¬ c < 0 := by omega
      have c3 : ¬ c ≤ 0 := by omega
      have c4 : 0 ≤ c := by omega
      simp only [hc, c1, c2, c3, c4, decide_true, decide_false, Bool.not_false] at q1 q2 q3 q4 q5 q6 q7
      simp (decide := true) (maxDischargeDepth := 200) only [go_sem, FAlive, FRight, FFunc1, bw01, hn, hn', h, h', h3, h4, q1, q2, q3, q4, q5, q6, q7, Tryd.results6]
  · cases hF

end Go.Proofs.YtkkcjhbkdlenpaaDoor
