/- The law AddrTells, as a function of plain data: it is true. -/
import Derived.Test.YtcolepbcibidaaaDoorAdG
namespace Go.Proofs.YtcolepbcibidaaaDoor
open Go Go.RowKit
set_option linter.unusedSimpArgs false

theorem cellsA_len {s : ByteArray} {c r : Int} {s' : ByteArray} {c' r' : Int} {l : List C3} (h : cellsA s c r s' c' r' = some l) : l.length ≤ 1000000 := by
  unfold cellsA at h
  split at h
  · rename_i hh
    cases h
    obtain ⟨hok, h4⟩ := hh
    obtain ⟨hR, hR', rfl, hcc, hrr⟩ := okA_iff.1 hok
    rw [cellsL_len]
    have e1 : c' - c + 1 = (((c' - c + 1).toNat : Nat) : Int) := by omega
    have e2 : r' - r + 1 = (((r' - r + 1).toNat : Nat) : Int) := by omega
    unfold areaN at h4
    rw [e1, e2] at h4
    have : (((r' - r + 1).toNat * (c' - c + 1).toNat : Nat) : Int) ≤ 400 := by
      push_cast
      rw [Int.mul_comm]
      exact h4
    omega
  · cases h
def FLTells : List V → Option V
  | [.agg [.x (.string _), .x (.int .i64 _), .x (.int .i64 _)], .agg [.x (.string _), .x (.int .i64 _), .x (.int .i64 _)], .x (.string _)] => some (.x (.bool true))
  | _ => none
set_option maxHeartbeats 8000000 in
set_option maxRecDepth 100000 in
theorem ltells_fun : FunV 3 FLTells := by
  refine fun_of_run (E := envOf [(7, FAlive), (8, FReadA), (9, FReadR), (10, FArea), (11, FArea), (12, FRightC), (13, FRightC), (14, FName), (15, FName), (16, FShow), (17, FShow), (18, FSame3), (19, FCells), (20, FCells), (21, FIn), (22, FIn), (23, FLess), (24, FLess)]) (k := 3) (envOK_of _ ⟨alive_fun, read_fun, rread_fun, area_fun, rarea_fun, right_fun, rright_fun, name_fun, rname_fun, show_fun, rshow_fun, same_fun, cells_fun, rcells_fun, in_fun, rin_fun, less_fun, rless_fun, trivial⟩) (by kernel_rfl) Tryd.func3 rfl (fun a w => Tryd.call3 a w) Tryd.ntmps3 (by kernel_rfl) (by decide) ?_
  intro us r hF hdat
  unfold FLTells at hF
  split at hF
  case h_2 => cases hF
  rename_i s c r s' c' r' t
  cases hF
  refine ⟨rfl, ?_⟩
  by_cases h1 : (100 : Int) < (t.size : Int)
  · have d1 := decide_eq_true h1
    simp (decide := true) (maxDischargeDepth := 200) only [go_sem, List.append_eq, FAlive, d1, Tryd.results3]
  · have d1 := decide_eq_false h1
    by_cases h2 : (100 : Int) < (s.size : Int)
    · have d2 := decide_eq_true h2
      simp (decide := true) (maxDischargeDepth := 200) only [go_sem, List.append_eq, FAlive, d1, d2, Tryd.results3]
    · have d2 := decide_eq_false h2
      by_cases h3 : (100 : Int) < (s'.size : Int)
      · have d3 := decide_eq_true h3
        simp (decide := true) (maxDischargeDepth := 200) only [go_sem, List.append_eq, FAlive, d1, d2, d3, Tryd.results3]
      · have d3 := decide_eq_false h3
        have lim : t.size ≤ 1000 := by omega
        have eR := readA_readR t
        cases eq0 : readR t with
        | none =>
          cases hok : okA s c r s' c' r'
          · have ha := areaV_no hok
            have hA : cellsA s c r s' c' r' = none := if_neg (by rw [hok]; simp)
            have hC := FCells_none hA
            simp (decide := true) (maxDischargeDepth := 200) only [go_sem, List.append_eq, FAlive, d1, d2, d3, FReadA, FReadR, lim, eR, eq0, ansV, FArea_eq, ha, FRightC, FName, FShow, hC, FIn_eq, FLess_eq, eq3, eqC_refl, dec_refl, bq_self, FSame3_nil, Tryd.results3]
          · have ha := areaV_yes hok
            cases hA : cellsA s c r s' c' r' with
            | none =>
              have hC := FCells_none hA
              simp (decide := true) (maxDischargeDepth := 200) only [go_sem, List.append_eq, FAlive, d1, d2, d3, FReadA, FReadR, lim, eR, eq0, ansV, FArea_eq, ha, FRightC, FName, FShow, hC, FIn_eq, FLess_eq, eq3, eqC_refl, dec_refl, bq_self, FSame3_nil, Tryd.results3]
            | some l =>
              have lim2 := cellsA_len hA
              have hsm := FSame3_self lim2
              have hC := FCells_some hA
              simp (decide := true) (maxDischargeDepth := 200) only [go_sem, List.append_eq, FAlive, d1, d2, d3, FReadA, FReadR, lim, eR, eq0, ansV, FArea_eq, ha, FRightC, FName, FShow, hC, FIn_eq, FLess_eq, eq3, eqC_refl, dec_refl, bq_self, hsm, Tryd.results3]
        | some q =>
          obtain ⟨q1, q2, q3⟩ := q
          cases hok : okA s c r s' c' r'
          · have ha := areaV_no hok
            have hA : cellsA s c r s' c' r' = none := if_neg (by rw [hok]; simp)
            have hC := FCells_none hA
            simp (decide := true) (maxDischargeDepth := 200) only [go_sem, List.append_eq, FAlive, d1, d2, d3, FReadA, FReadR, lim, eR, eq0, ansV, FArea_eq, ha, FRightC, FName, FShow, hC, FIn_eq, FLess_eq, eq3, eqC_refl, dec_refl, bq_self, FSame3_nil, Tryd.results3]
          · have ha := areaV_yes hok
            cases hA : cellsA s c r s' c' r' with
            | none =>
              have hC := FCells_none hA
              simp (decide := true) (maxDischargeDepth := 200) only [go_sem, List.append_eq, FAlive, d1, d2, d3, FReadA, FReadR, lim, eR, eq0, ansV, FArea_eq, ha, FRightC, FName, FShow, hC, FIn_eq, FLess_eq, eq3, eqC_refl, dec_refl, bq_self, FSame3_nil, Tryd.results3]
            | some l =>
              have lim2 := cellsA_len hA
              have hsm := FSame3_self lim2
              have hC := FCells_some hA
              simp (decide := true) (maxDischargeDepth := 200) only [go_sem, List.append_eq, FAlive, d1, d2, d3, FReadA, FReadR, lim, eR, eq0, ansV, FArea_eq, ha, FRightC, FName, FShow, hC, FIn_eq, FLess_eq, eq3, eqC_refl, dec_refl, bq_self, hsm, Tryd.results3]

end Go.Proofs.YtcolepbcibidaaaDoor
