/- Stamps: their order, and what comes next, as functions of plain data. -/
import Derived.Test.YtkacldoiimlmcaaOrI
namespace Go.Proofs.Ytkacldoiimlmcaa
open Go Go.RowKit
set_option linter.unusedSimpArgs false
def lessS (a b c a' b' c' : Int) : Bool := if a = a' then (if b = b' then decide (c < c') else decide (b < b')) else decide (a < a')
def withS (a b c a' b' c' : Int) : Bool := decide (a ≤ a') && (decide (b ≤ b') && decide (c ≤ c'))
theorem less_orS (a b c a' b' c' : Int) : decide (or0 [Lib.compareInt a a', Lib.compareInt b b', Lib.compareInt c c'] < 0) = lessS a b c a' b' c' := by
  have h : ∀ x y : Int, (Lib.compareInt x y = -1 ∧ x < y) ∨ (Lib.compareInt x y = 1 ∧ y < x) ∨ (Lib.compareInt x y = 0 ∧ x = y) := fun x y => by
    unfold Lib.compareInt
    by_cases h1 : x < y
    · exact .inl ⟨if_pos h1, h1⟩
    · by_cases h2 : x > y
      · exact .inr (.inl ⟨(if_neg h1).trans (if_pos h2), h2⟩)
      · exact .inr (.inr ⟨(if_neg h1).trans (if_neg h2), by omega⟩)
  unfold lessS
  rcases h a a' with ⟨e1, h1⟩ | ⟨e1, h1⟩ | ⟨e1, h1⟩
  · rw [e1, if_neg (by omega), decide_eq_true h1]; rfl
  · rw [e1, if_neg (by omega), show decide (a < a') = false from decide_eq_false (by omega)]; rfl
  · rw [e1, if_pos h1]
    rcases h b b' with ⟨e2, h2⟩ | ⟨e2, h2⟩ | ⟨e2, h2⟩
    · rw [e2, if_neg (by omega), decide_eq_true h2]; rfl
    · rw [e2, if_neg (by omega), show decide (b < b') = false from decide_eq_false (by omega)]; rfl
    · rw [e2, if_pos h2]
      rcases h c c' with ⟨e3, h3⟩ | ⟨e3, h3⟩ | ⟨e3, h3⟩
      · rw [e3, decide_eq_true h3]; rfl
      · rw [e3, show decide (c < c') = false from decide_eq_false (by omega)]; rfl
      · rw [e3, show decide (c < c') = false from decide_eq_false (by omega)]; rfl
def FLessS : List V → Option V
  | [.agg [.x (.int .i64 a), .x (.int .i64 b), .x (.int .i64 c)], .agg [.x (.int .i64 a'), .x (.int .i64 b'), .x (.int .i64 c')]] => some (.x (.bool (lessS a b c a' b' c')))
  | _ => none
def FWithS : List V → Option V
  | [.agg [.x (.int .i64 a), .x (.int .i64 b), .x (.int .i64 c)], .agg [.x (.int .i64 a'), .x (.int .i64 b'), .x (.int .i64 c')]] => some (.x (.bool (withS a b c a' b' c')))
  | _ => none
set_option maxHeartbeats 2000000 in
set_option maxRecDepth 100000 in
theorem lessS_fun : FunV 6 FLessS := by
  refine fun_of_run (E := envOf [(10, FCmpI), (9, FOr)]) (k := 2) (envOK_of _ ⟨cmpi_fun, or_fun, trivial⟩) (by kernel_rfl) Try.func6 rfl (fun a w => Try.call6 a w) Try.ntmps6 (by kernel_rfl) (by decide) (by decide) ?_
  intro us r hF hdat
  unfold FLessS at hF
  split at hF
  case h_2 => cases hF
  rename_i a b c a' b' c'
  cases hF
  refine ⟨rfl, ?_⟩
  have e := less_orS a b c a' b' c'
  simp (decide := true) (maxDischargeDepth := 200) only [go_sem, FCmpI, FOr, intsOf, e, Try.results6]

set_option maxHeartbeats 2000000 in
set_option maxRecDepth 100000 in
theorem withS_fun : FunV 7 FWithS := by
  refine fun_of_run (E := envOf []) (k := 2) (envOK_of _ trivial) (by kernel_rfl) Try.func7 rfl (fun a w => Try.call7 a w) Try.ntmps7 (by kernel_rfl) (by decide) (by decide) ?_
  intro us r hF hdat
  unfold FWithS at hF
  split at hF
  case h_2 => cases hF
  rename_i a b c a' b' c'
  cases hF
  refine ⟨rfl, ?_⟩
  by_cases h0 : a ≤ a'
  · have d0 := decide_eq_true h0
    by_cases h1 : b ≤ b'
    · have d1 := decide_eq_true h1
      by_cases h2 : c ≤ c'
      · have d2 := decide_eq_true h2
        simp (decide := true) (maxDischargeDepth := 200) only [go_sem, withS, d0, d1, d2, Try.results7]
      · have d2 := decide_eq_false h2
        simp (decide := true) (maxDischargeDepth := 200) only [go_sem, withS, d0, d1, d2, Try.results7]
    · have d1 := decide_eq_false h1
      simp (decide := true) (maxDischargeDepth := 200) only [go_sem, withS, d0, d1, Try.results7]
  · have d0 := decide_eq_false h0
    simp (decide := true) (maxDischargeDepth := 200) only [go_sem, withS, d0, Try.results7]

/-- What comes next. -/
noncomputable def nextS (a b c : Int) (t r : Bool) (n : Int) : List V :=
  bif r && (t && decide (c < 12)) then [.x (.int .i64 a), .x (.int .i64 b), .x (.int .i64 (bWrap .i64 (c + 1)))] else
  bif decide (b < n) && decide (bWrap .i64 (b + 1) < n) then [.x (.int .i64 a), .x (.int .i64 (bWrap .i64 (b + 1))), .x (.int .i64 1)] else
  [.x (.int .i64 (bWrap .i64 (a + 1))), .x (.int .i64 0), .x (.int .i64 1)]
noncomputable def FNextS : List V → Option V
  | [.agg [.x (.int .i64 a), .x (.int .i64 b), .x (.int .i64 c)], .x (.bool t), .x (.bool r), .x (.int .i64 n)] => some (.agg (nextS a b c t r n))
  | _ => none
set_option maxHeartbeats 8000000 in
set_option maxRecDepth 100000 in
theorem nextS_fun : FunV 8 FNextS := by
  refine fun_of_run (E := envOf []) (k := 4) (envOK_of _ trivial) (by kernel_rfl) Try.func8 rfl (fun a w => Try.call8 a w) Try.ntmps8 (by kernel_rfl) (by decide) (by decide) ?_
  intro us r hF hdat
  unfold FNextS at hF
  split at hF
  case h_2 => cases hF
  rename_i a b c t r n
  cases hF
  refine ⟨rfl, ?_⟩
  generalize hc : decide (c < 12) = dc
  generalize hb : decide (b < n) = db
  generalize hb2 : decide (bWrap .i64 (b + 1) < n) = dn
  cases r <;> cases t <;> cases dc <;> cases db <;> cases dn <;> simp (decide := true) (maxDischargeDepth := 200) only [go_sem, nextS, hc, hb, hb2, Try.results8]

def FAlive15 : List V → Option V
  | [] => some (.x (.bool true))
  | _ => none
set_option maxHeartbeats 2000000 in
set_option maxRecDepth 100000 in
theorem alive15_fun : FunV 5 FAlive15 := by
  refine fun_of_run (E := envOf [(6, FLessS), (7, FWithS), (8, FNextS)]) (k := 0) (envOK_of _ ⟨lessS_fun, withS_fun, nextS_fun, trivial⟩) (by kernel_rfl) Try.func5 rfl (fun a w => Try.call5 a w) Try.ntmps5 (by kernel_rfl) (by decide) (by decide) ?_
  intro us r hF hdat
  unfold FAlive15 at hF
  split at hF
  case h_2 => cases hF
  cases hF
  refine ⟨rfl, ?_⟩
  have e1 : lessS 1 0 1 1 0 1 = false := by decide
  have e2 : withS 1 0 1 1 0 1 = true := by decide
  have e3 : nextS 1 0 1 false false 1 = [.x (.int .i64 2), .x (.int .i64 0), .x (.int .i64 1)] := by
    have w1 : bWrap .i64 ((0 : Int) + 1) = 1 := bwrap_of (by unfold inR; omega)
    have w2 : bWrap .i64 ((1 : Int) + 1) = 2 := bwrap_of (by unfold inR; omega)
    unfold nextS
    rw [w1, w2]
    rfl
  simp (decide := true) (maxDischargeDepth := 200) only [go_sem, FLessS, FWithS, FNextS, e1, e2, e3, Try.results5]

end Go.Proofs.Ytkacldoiimlmcaa
