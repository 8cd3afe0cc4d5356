/- The reference's reader: references. -/
import Derived.Test.YteibnmlfipkmeaaGreatDoorMB
import Derived.Test.YteibnmlfipkmeaaGreatDoorAdD
import Derived.Test.YteibnmlfipkmeaaGreatDoorMT
namespace Go.Proofs.YteibnmlfipkmeaaGreatDoor
open Go Go.RowKit
set_option linter.unusedSimpArgs false
theorem FPlaceR_eq {q : List UInt8} (h : q.length ≤ 200) (s : ByteArray) : FPlaceR [.x (.string (B q)), .x (.string s)] = some (ansV (placeR (B q) s)) := if_pos (by rw [B_size]; omega)
theorem grf_out {nl : Bool} {l : List Tk} {n en : Nat} {sh : ByteArray} {bad : Int} {r : V} {outs : List (List V)} (h : GRefR ⟨nl, l, n, en, sh, bad⟩ = some (r, outs)) : bad = -1 ∧ l.length ≤ 1000 ∧ ∃ a i y, refR l sh n = some (a, i, y) ∧ r = nodeV a ∧ outs = [pqL nl l i en sh y] := by
  obtain ⟨⟨h1, h2⟩, h⟩ := ite_some h
  cases hp : refR l sh n with
  | none => simp only [hp] at h; cases h
  | some q => simp only [hp] at h; cases h; exact ⟨h1, h2, _, _, _, rfl, rfl, rfl⟩
theorem area_shape (s : ByteArray) (c r : Int) (s' : ByteArray) (c' r' : Int) : ∃ v1 v2, areaV s c r s' c' r' = .tup [.x (.int .i64 v1), .x (.bool v2)] := by
  unfold areaV
  split
  · exact ⟨_, _, rfl⟩
  · exact ⟨_, _, rfl⟩
theorem kindI_at {l : List Tk} {n k p : Nat} {q : List UInt8} (h : l[n]? = some (k, p, q)) (c : Int) : kindI l n c = decide ((k : Int) = c) := by unfold kindI; rw [h]
theorem kindI_no {l : List Tk} {n : Nat} (h : l[n]? = none) (c : Int) : kindI l n c = false := by unfold kindI; rw [h]
set_option maxHeartbeats 16000000 in
set_option maxRecDepth 100000 in
theorem refR_fun : FunPV 96 (FE encP GRefR) := by
  refine fun_of_runP (E := envP [(110, FPlaceR), (44, FArea)] (fun _ => false) [(31, (FE encP GAtR)), (58, (FE encPS GIsR)), (109, (FE encPI GKindR)), (30, (FE encPI GFailR))]) (k := 1) (envOK_P _ _ _ ⟨rplaceR_fun, rarea_fun, trivial⟩ ⟨atR_fun, isR_fun, kindR_fun, failR_fun, trivial⟩) (fun _ _ => rfl) (by kernel_rfl) Tryz.func96 rfl (fun a w => Tryz.call96 a w) Tryz.ntmps96 (by kernel_rfl) (by decide) (by decide) ?_
  intro us r outs hF
  obtain ⟨⟨nl, l, n, en, sh, bad⟩, hus, hG⟩ := FE_out hF
  clear hF
  subst hus
  have hF := hG
  clear hG
  obtain ⟨rfl, h1000, a, i, y, hs, rfl, rfl⟩ := grf_out hF
  clear hF
  simp only [encP, pqV]
  refine ⟨rfl, ?_⟩
  simp only [refR] at hs
  cases hl : l[n]? with
  | none => rw [hl] at hs; cases hs
  | some t =>
    obtain ⟨k, p, q⟩ := t
    simp only [hl] at hs
    have hn := lt_of_some hl
    have f0 : atR l (en : Int) n = (p : Int) := by simp [atR, hl]
    have f1 := kindI_at hl 4
    by_cases h4 : k = 4
    · subst h4
      rw [if_pos rfl] at hs
      have f2 : decide (((4 : Nat) : Int) = 4) = true := rfl
      have f3 := tks_at hl
      have f4 : (0 : Int) ≤ (n : Int) := by omega
      have f5 := count_up (i := n) (by omega)
      have f6 := count_up (i := n + 1) (by omega)
      cases h33 : isP l (n + 1) ⟨#[33]⟩ with
      | false =>
        rw [h33, if_neg (by decide)] at hs
        obtain ⟨rfl, rfl, rfl⟩ := inj3 hs
        simp (decide := true) (maxDischargeDepth := 200) only [go_sem, atR_eq, f0, kindR_eq, f1, f2, f3, f4, f5, isR_eq, h33, failR_eq, nodeV_leaf, Tryz.results96]
      | true =>
        rw [h33, if_pos rfl] at hs
        have hn0 := isP_lt h33
        simp only [ref2R] at hs
        cases hl1 : l[n + 2]? with
        | none =>
          rw [hl1] at hs
          obtain ⟨rfl, rfl, rfl⟩ := inj3 hs
          have g1 := kindI_no hl1 3
          simp (decide := true) (maxDischargeDepth := 200) only [go_sem, atR_eq, f0, f1, f2, f3, f4, f5, f6, h33, isR_eq, kindR_eq, g1, failR_eq, nodeV_leaf, Tryz.results96]
        | some u =>
          obtain ⟨k1, p1, q1⟩ := u
          simp only [hl1] at hs
          have hn1 := lt_of_some hl1
          have g1 := kindI_at hl1 3
          by_cases h3 : k1 = 3
          · subst h3
            rw [if_neg (by simp)] at hs
            by_cases hq1 : q1.length ≤ 200
            · rw [if_neg (not_not_intro hq1)] at hs
              have g2 : decide (((3 : Nat) : Int) = 3) = true := rfl
              have g3 := tks_at hl1
              have g4 : (0 : Int) ≤ ((n + 2 : Nat) : Int) := by omega
              have g5 := FPlaceR_eq hq1 (B q)
              have w1 := count_up (i := n + 2) (by omega)
              have w2 := count_up (i := n + 2 + 1) (by omega)
              have w3 := count_up (i := n + 2 + 2) (by omega)
              split at hs
              · rename_i hc
                obtain ⟨rfl, rfl, rfl⟩ := inj3 hs
                rw [hc] at g5
                have g6 : ansV none = .tup [cl ⟨#[]⟩ 0 0, .x (.bool false)] := rfl
                simp (decide := true) (maxDischargeDepth := 200) only [go_sem, atR_eq, f0, f1, f2, f3, f4, f5, f6, h33, isR_eq, kindR_eq, g1, g2, g3, g4, g5, g6, cl, failR_eq, nodeV_leaf, Tryz.results96]
              · rename_i c hc
                obtain ⟨c1, c2, c3⟩ := c
                rw [hc] at g5
                have g6 : ansV (some (c1, c2, c3)) = .tup [cl c1 c2 c3, .x (.bool true)] := rfl
                cases h58 : isP l (n + 2 + 1) ⟨#[58]⟩ with
                | false =>
                  rw [h58, if_neg (by decide)] at hs
                  obtain ⟨rfl, rfl, rfl⟩ := inj3 hs
                  simp (decide := true) (maxDischargeDepth := 200) only [go_sem, atR_eq, f0, f1, f2, f3, f4, f5, f6, h33, isR_eq, kindR_eq, g1, g2, g3, g4, g5, g6, w1, isR_eq, h58, cl, nodeV_leaf, Tryz.results96]
                | true =>
                  rw [h58, if_pos rfl] at hs
                  have hn2 := isP_lt h58
                  cases hl2 : l[n + 2 + 2]? with
                  | none =>
                    rw [hl2] at hs
                    obtain ⟨rfl, rfl, rfl⟩ := inj3 hs
                    have g7 := kindI_no hl2 3
                    simp (decide := true) (maxDischargeDepth := 200) only [go_sem, atR_eq, f0, f1, f2, f3, f4, f5, f6, h33, isR_eq, kindR_eq, g1, g2, g3, g4, g5, g6, g7, w1, w2, isR_eq, h58, cl, failR_eq, nodeV_leaf, Tryz.results96]
                  | some v =>
                    obtain ⟨k2, p2, q2⟩ := v
                    simp only [hl2] at hs
                    have hn3 := lt_of_some hl2
                    have g7 := kindI_at hl2 3
                    by_cases h3' : k2 = 3
                    · subst h3'
                      rw [if_neg (by simp)] at hs
                      by_cases hq2 : q2.length ≤ 200
                      · rw [if_neg (not_not_intro hq2)] at hs
                        have g8 := tks_at hl2
                        have g9 : (0 : Int) ≤ ((n + 2 + 2 : Nat) : Int) := by omega
                        have g10 := FPlaceR_eq hq2 (B q)
                        split at hs
                        · rename_i hd
                          obtain ⟨rfl, rfl, rfl⟩ := inj3 hs
                          rw [hd] at g10
                          have g11 : ansV none = .tup [cl ⟨#[]⟩ 0 0, .x (.bool false)] := rfl
                          obtain ⟨v1, v2, hv⟩ := area_shape c1 c2 c3 ⟨#[]⟩ 0 0
                          simp (decide := true) (maxDischargeDepth := 200) only [go_sem, atR_eq, f0, f1, f2, f3, f4, f5, f6, h33, isR_eq, kindR_eq, g1, g2, g3, g4, g5, g6, g7, g8, g9, g10, g11, w1, w2, isR_eq, h58, cl, FArea, hv, failR_eq, nodeV_leaf, Tryz.results96]
                        · rename_i d hd
                          obtain ⟨d1, d2, d3⟩ := d
                          rw [hd] at g10
                          have g11 : ansV (some (d1, d2, d3)) = .tup [cl d1 d2 d3, .x (.bool true)] := rfl
                          cases hok : okA c1 c2 c3 d1 d2 d3 with
                          | false =>
                            have hv := areaV_no hok
                            have hr : rangeB c1 c2 c3 d1 d2 d3 = false := by simp [rangeB, hok]
                            rw [hr, if_neg (by decide)] at hs
                            obtain ⟨rfl, rfl, rfl⟩ := inj3 hs
                            simp (decide := true) (maxDischargeDepth := 200) only [go_sem, atR_eq, f0, f1, f2, f3, f4, f5, f6, h33, isR_eq, kindR_eq, g1, g2, g3, g4, g5, g6, g7, g8, g9, g10, g11, w1, w2, isR_eq, h58, cl, FArea, hv, failR_eq, nodeV_leaf, Tryz.results96]
                          | true =>
                            have hv := areaV_yes hok
                            by_cases h400 : areaN c2 c3 d2 d3 ≤ 400
                            · have hr : rangeB c1 c2 c3 d1 d2 d3 = true := by simp [rangeB, hok, h400]
                              have g12 : decide ((400 : Int) < areaN c2 c3 d2 d3) = false := decide_eq_false (by omega)
                              rw [hr, if_pos rfl] at hs
                              obtain ⟨rfl, rfl, rfl⟩ := inj3 hs
                              simp (decide := true) (maxDischargeDepth := 200) only [go_sem, atR_eq, f0, f1, f2, f3, f4, f5, f6, h33, isR_eq, kindR_eq, g1, g2, g3, g4, g5, g6, g7, g8, g9, g10, g11, g12, w1, w2, w3, isR_eq, h58, cl, FArea, hv, nodeV_leaf, Tryz.results96]
                            · have hr : rangeB c1 c2 c3 d1 d2 d3 = false := by simp [rangeB, hok, h400]
                              have g12 : decide ((400 : Int) < areaN c2 c3 d2 d3) = true := decide_eq_true (by omega)
                              rw [hr, if_neg (by decide)] at hs
                              obtain ⟨rfl, rfl, rfl⟩ := inj3 hs
                              simp (decide := true) (maxDischargeDepth := 200) only [go_sem, atR_eq, f0, f1, f2, f3, f4, f5, f6, h33, isR_eq, kindR_eq, g1, g2, g3, g4, g5, g6, g7, g8, g9, g10, g11, g12, w1, w2, isR_eq, h58, cl, FArea, hv, failR_eq, nodeV_leaf, Tryz.results96]
                      · rw [if_pos hq2] at hs; cases hs
                    · rw [if_pos h3'] at hs
                      obtain ⟨rfl, rfl, rfl⟩ := inj3 hs
                      have g8 : decide ((k2 : Int) = 3) = false := decide_eq_false (by omega)
                      simp (decide := true) (maxDischargeDepth := 200) only [go_sem, atR_eq, f0, f1, f2, f3, f4, f5, f6, h33, isR_eq, kindR_eq, g1, g2, g3, g4, g5, g6, g7, g8, w1, w2, isR_eq, h58, cl, failR_eq, nodeV_leaf, Tryz.results96]
            · rw [if_pos hq1] at hs; cases hs
          · rw [if_pos h3] at hs
            obtain ⟨rfl, rfl, rfl⟩ := inj3 hs
            have g2 : decide ((k1 : Int) = 3) = false := decide_eq_false (by omega)
            simp (decide := true) (maxDischargeDepth := 200) only [go_sem, atR_eq, f0, f1, f2, f3, f4, f5, f6, h33, isR_eq, kindR_eq, g1, g2, failR_eq, nodeV_leaf, Tryz.results96]
    · rw [if_neg h4] at hs
      have f2 : decide ((k : Int) = 4) = false := decide_eq_false (by omega)
      simp only [ref2R] at hs
      cases hl1 : l[n]? with
      | none =>
        rw [hl1] at hs
        obtain ⟨rfl, rfl, rfl⟩ := inj3 hs
        have g1 := kindI_no hl1 3
        simp (decide := true) (maxDischargeDepth := 200) only [go_sem, atR_eq, f0, f1, f2, kindR_eq, g1, failR_eq, nodeV_leaf, Tryz.results96]
      | some u =>
        obtain ⟨k1, p1, q1⟩ := u
        simp only [hl1] at hs
        have hn1 := lt_of_some hl1
        have g1 := kindI_at hl1 3
        by_cases h3 : k1 = 3
        · subst h3
          rw [if_neg (by simp)] at hs
          by_cases hq1 : q1.length ≤ 200
          · rw [if_neg (not_not_intro hq1)] at hs
            have g2 : decide (((3 : Nat) : Int) = 3) = true := rfl
            have g3 := tks_at hl1
            have g4 : (0 : Int) ≤ ((n : Nat) : Int) := by omega
            have g5 := FPlaceR_eq hq1 sh
            have w1 := count_up (i := n) (by omega)
            have w2 := count_up (i := n + 1) (by omega)
            have w3 := count_up (i := n + 2) (by omega)
            split at hs
            · rename_i hc
              obtain ⟨rfl, rfl, rfl⟩ := inj3 hs
              rw [hc] at g5
              have g6 : ansV none = .tup [cl ⟨#[]⟩ 0 0, .x (.bool false)] := rfl
              simp (decide := true) (maxDischargeDepth := 200) only [go_sem, atR_eq, f0, f1, f2, kindR_eq, g1, g2, g3, g4, g5, g6, cl, failR_eq, nodeV_leaf, Tryz.results96]
            · rename_i c hc
              obtain ⟨c1, c2, c3⟩ := c
              rw [hc] at g5
              have g6 : ansV (some (c1, c2, c3)) = .tup [cl c1 c2 c3, .x (.bool true)] := rfl
              cases h58 : isP l (n + 1) ⟨#[58]⟩ with
              | false =>
                rw [h58, if_neg (by decide)] at hs
                obtain ⟨rfl, rfl, rfl⟩ := inj3 hs
                simp (decide := true) (maxDischargeDepth := 200) only [go_sem, atR_eq, f0, f1, f2, kindR_eq, g1, g2, g3, g4, g5, g6, w1, isR_eq, h58, cl, nodeV_leaf, Tryz.results96]
              | true =>
                rw [h58, if_pos rfl] at hs
                have hn2 := isP_lt h58
                cases hl2 : l[n + 2]? with
                | none =>
                  rw [hl2] at hs
                  obtain ⟨rfl, rfl, rfl⟩ := inj3 hs
                  have g7 := kindI_no hl2 3
                  simp (decide := true) (maxDischargeDepth := 200) only [go_sem, atR_eq, f0, f1, f2, kindR_eq, g1, g2, g3, g4, g5, g6, g7, w1, w2, isR_eq, h58, cl, failR_eq, nodeV_leaf, Tryz.results96]
                | some v =>
                  obtain ⟨k2, p2, q2⟩ := v
                  simp only [hl2] at hs
                  have hn3 := lt_of_some hl2
                  have g7 := kindI_at hl2 3
                  by_cases h3' : k2 = 3
                  · subst h3'
                    rw [if_neg (by simp)] at hs
                    by_cases hq2 : q2.length ≤ 200
                    · rw [if_neg (not_not_intro hq2)] at hs
                      have g8 := tks_at hl2
                      have g9 : (0 : Int) ≤ ((n + 2 : Nat) : Int) := by omega
                      have g10 := FPlaceR_eq hq2 sh
                      split at hs
                      · rename_i hd
                        obtain ⟨rfl, rfl, rfl⟩ := inj3 hs
                        rw [hd] at g10
                        have g11 : ansV none = .tup [cl ⟨#[]⟩ 0 0, .x (.bool false)] := rfl
                        obtain ⟨v1, v2, hv⟩ := area_shape c1 c2 c3 ⟨#[]⟩ 0 0
                        simp (decide := true) (maxDischargeDepth := 200) only [go_sem, atR_eq, f0, f1, f2, kindR_eq, g1, g2, g3, g4, g5, g6, g7, g8, g9, g10, g11, w1, w2, isR_eq, h58, cl, FArea, hv, failR_eq, nodeV_leaf, Tryz.results96]
                      · rename_i d hd
                        obtain ⟨d1, d2, d3⟩ := d
                        rw [hd] at g10
                        have g11 : ansV (some (d1, d2, d3)) = .tup [cl d1 d2 d3, .x (.bool true)] := rfl
                        cases hok : okA c1 c2 c3 d1 d2 d3 with
                        | false =>
                          have hv := areaV_no hok
                          have hr : rangeB c1 c2 c3 d1 d2 d3 = false := by simp [rangeB, hok]
                          rw [hr, if_neg (by decide)] at hs
                          obtain ⟨rfl, rfl, rfl⟩ := inj3 hs
                          simp (decide := true) (maxDischargeDepth := 200) only [go_sem, atR_eq, f0, f1, f2, kindR_eq, g1, g2, g3, g4, g5, g6, g7, g8, g9, g10, g11, w1, w2, isR_eq, h58, cl, FArea, hv, failR_eq, nodeV_leaf, Tryz.results96]
                        | true =>
                          have hv := areaV_yes hok
                          by_cases h400 : areaN c2 c3 d2 d3 ≤ 400
                          · have hr : rangeB c1 c2 c3 d1 d2 d3 = true := by simp [rangeB, hok, h400]
                            have g12 : decide ((400 : Int) < areaN c2 c3 d2 d3) = false := decide_eq_false (by omega)
                            rw [hr, if_pos rfl] at hs
                            obtain ⟨rfl, rfl, rfl⟩ := inj3 hs
                            simp (decide := true) (maxDischargeDepth := 200) only [go_sem, atR_eq, f0, f1, f2, kindR_eq, g1, g2, g3, g4, g5, g6, g7, g8, g9, g10, g11, g12, w1, w2, w3, isR_eq, h58, cl, FArea, hv, nodeV_leaf, Tryz.results96]
                          · have hr : rangeB c1 c2 c3 d1 d2 d3 = false := by simp [rangeB, hok, h400]
                            have g12 : decide ((400 : Int) < areaN c2 c3 d2 d3) = true := decide_eq_true (by omega)
                            rw [hr, if_neg (by decide)] at hs
                            obtain ⟨rfl, rfl, rfl⟩ := inj3 hs
                            simp (decide := true) (maxDischargeDepth := 200) only [go_sem, atR_eq, f0, f1, f2, kindR_eq, g1, g2, g3, g4, g5, g6, g7, g8, g9, g10, g11, g12, w1, w2, isR_eq, h58, cl, FArea, hv, failR_eq, nodeV_leaf, Tryz.results96]
                    · rw [if_pos hq2] at hs; cases hs
                  · rw [if_pos h3'] at hs
                    obtain ⟨rfl, rfl, rfl⟩ := inj3 hs
                    have g8 : decide ((k2 : Int) = 3) = false := decide_eq_false (by omega)
                    simp (decide := true) (maxDischargeDepth := 200) only [go_sem, atR_eq, f0, f1, f2, kindR_eq, g1, g2, g3, g4, g5, g6, g7, g8, w1, w2, isR_eq, h58, cl, failR_eq, nodeV_leaf, Tryz.results96]
          · rw [if_pos hq1] at hs; cases hs
        · rw [if_pos h3] at hs
          obtain ⟨rfl, rfl, rfl⟩ := inj3 hs
          have g2 : decide ((k1 : Int) = 3) = false := decide_eq_false (by omega)
          simp (decide := true) (maxDischargeDepth := 200) only [go_sem, atR_eq, f0, f1, f2, kindR_eq, g1, g2, failR_eq, nodeV_leaf, Tryz.results96]

end Go.Proofs.YteibnmlfipkmeaaGreatDoor
