/- The reference's reader: what has a sign ahead, what has none, words. -/
import Derived.Test.YteibnmlfipkmeaaGreatDoorMB
import Derived.Test.YteibnmlfipkmeaaGreatDoorMA
namespace Go.Proofs.YteibnmlfipkmeaaGreatDoor
open Go Go.RowKit
set_option linter.unusedSimpArgs false
set_option maxRecDepth 100000 in
theorem unaryR_step (m : Nat) (hu : FunPV 56 (FE encP (GU m .unary))) (hf : FunPV 77 (FE encP (GU m .first))) : FunPV 56 (FE encP (GU (m + 1) .unary)) := by
  refine fun_of_runP (E := envP [] (fun _ => false) [(56, (FE encP (GU m .unary))), (77, (FE encP (GU m .first))), (58, (FE encPS GIsR))]) (k := 1) (envOK_P _ _ _ trivial ⟨hu, hf, isR_fun, trivial⟩) (fun _ _ => rfl) (by kernel_rfl) Tryz.func56 rfl (fun a w => Tryz.call56 a w) Tryz.ntmps56 (by kernel_rfl) (by decide) (by decide) ?_
  intro us r outs hF
  obtain ⟨⟨nl, l, n, en, sh, bad⟩, hus, hG⟩ := FE_out hF
  clear hF
  subst hus
  have hF := hG
  clear hG
  obtain ⟨rfl, h1000, a, i, y, hres, rfl, rfl⟩ := gu_out hF
  clear hF
  simp only [encP, pqV]
  refine ⟨rfl, ?_⟩
  have hs : stepR l (en : Int) sh m (rF l (en : Int) sh m) .unary n = some (a, i, y) := hres
  clear hres
  simp only [stepR] at hs
  cases hi : isP l n ⟨#[45]⟩ with
  | true =>
    rw [hi, if_pos rfl] at hs
    have hn := isP_lt hi
    split at hs
    case h_2 => cases hs
    rename_i b j z hb
    obtain ⟨rfl, rfl, rfl⟩ := inj3 hs
    have c1 := count_up (i := n) (by omega)
    have e1 := gu_eq (nl := nl) h1000 hb
    obtain ⟨kb, opb, nmb, vkb, vnb, vsb, csb, ccb, crb, tsb, tcb, trb, nlb, szb, esb, hb'⟩ := nd_is b
    simp (decide := true) (maxDischargeDepth := 200) only [go_sem, isR_eq, hi, c1, e1, hb', nodeV_mk, Tryz.results56]
  | false =>
    rw [hi, if_neg (by decide)] at hs
    have e1 := gu_eq (nl := nl) h1000 hs
    obtain ⟨ka, opa, nma, vka, vna, vsa, csa, cca, cra, tsa, tca, tra, nla, sza, esa, ha'⟩ := nd_is a
    simp (decide := true) (maxDischargeDepth := 200) only [go_sem, isR_eq, hi, e1, ha', Tryz.results56]

set_option maxHeartbeats 4000000 in
set_option maxRecDepth 100000 in
theorem wordR_step (m : Nat) (hc : FunPV 112 (FE encPS (GCallR m))) (hr : FunPV 96 (FE encP GRefR)) : FunPV 97 (FE encPT (GWord (m + 1))) := by
  refine fun_of_runP (E := envP [(111, FTruth), (46, FCall)] (fun _ => false) [(112, (FE encPS (GCallR m))), (96, (FE encP GRefR)), (58, (FE encPS GIsR))]) (k := 2) (envOK_P _ _ _ ⟨truth_fun, rcall_fun, trivial⟩ ⟨hc, hr, isR_fun, trivial⟩) (fun _ _ => rfl) (by kernel_rfl) Tryz.func97 rfl (fun a w => Tryz.call97 a w) Tryz.ntmps97 (by kernel_rfl) (by decide) (by decide) ?_
  intro us r outs hF
  obtain ⟨⟨⟨nl, l, n, en, sh, bad⟩, ⟨k, p, q⟩⟩, hus, hG⟩ := FE_out hF
  clear hF
  subst hus
  have hF := hG
  clear hG
  obtain ⟨ht, hF⟩ := ite_some hF
  have ht : l[n]? = some (k, p, q) := ht
  have hF : GU (m + 1) .word ⟨nl, l, n, en, sh, bad⟩ = _ := hF
  obtain ⟨rfl, h1000, a, i, y, hres, rfl, rfl⟩ := gu_out hF
  clear hF
  simp only [encPT, pqV]
  refine ⟨rfl, ?_⟩
  have hs : stepR l (en : Int) sh m (rF l (en : Int) sh m) .word n = some (a, i, y) := hres
  clear hres
  have hn : n < l.length := lt_of_some (l := l) ht
  have c1 := count_up (i := n) (by omega)
  have c2 := count_up (i := n + 1) (by omega)
  have c3 : bWrap .i64 (((n + 1 : Nat) : Int) - 1) = (n : Int) := by rw [i64_of (by omega) (by omega)]; omega
  simp only [stepR, ht] at hs
  simp only [tokV]
  by_cases hT : B q = ⟨#[84, 82, 85, 69]⟩
  · rw [if_pos hT] at hs
    obtain ⟨rfl, rfl, rfl⟩ := inj3 hs
    have d1 : decide (B q = ⟨#[84, 82, 85, 69]⟩) = true := decide_eq_true hT
    simp (decide := true) (maxDischargeDepth := 200) only [go_sem, c1, d1, FTruth, nodeV_leaf, Tryz.results97]
  · rw [if_neg hT] at hs
    have d1 : decide (B q = ⟨#[84, 82, 85, 69]⟩) = false := decide_eq_false hT
    by_cases hFa : B q = ⟨#[70, 65, 76, 83, 69]⟩
    · rw [if_pos hFa] at hs
      obtain ⟨rfl, rfl, rfl⟩ := inj3 hs
      have d2 : decide (B q = ⟨#[70, 65, 76, 83, 69]⟩) = true := decide_eq_true hFa
      simp (decide := true) (maxDischargeDepth := 200) only [go_sem, c1, d1, d2, FTruth, nodeV_leaf, Tryz.results97]
    · rw [if_neg hFa] at hs
      have d2 : decide (B q = ⟨#[70, 65, 76, 83, 69]⟩) = false := decide_eq_false hFa
      by_cases h1 : callB (B q) = true ∧ isP l (n + 1) ⟨#[40]⟩ = true
      · rw [if_pos h1] at hs
        have e1 := gcl_eq (nl := nl) h1000 (show n + 1 ≤ 1000 by omega) hs
        obtain ⟨ka, opa, nma, vka, vna, vsa, csa, cca, cra, tsa, tca, tra, nla, sza, esa, ha'⟩ := nd_is a
        simp (decide := true) (maxDischargeDepth := 200) only [go_sem, c1, d1, d2, FCall, h1.1, h1.2, isR_eq, e1, ha', Tryz.results97]
      · rw [if_neg h1] at hs
        by_cases h2 : B q = ⟨#[82, 69, 70]⟩ ∧ isP l (n + 1) ⟨#[33]⟩ = true
        · rw [if_pos h2] at hs
          obtain ⟨rfl, rfl, rfl⟩ := inj3 hs
          have d3 : decide (B q = ⟨#[82, 69, 70]⟩) = true := decide_eq_true h2.1
          have d5 := h2.2
          cases d4 : callB (B q) with
          | false =>
            simp (decide := true) (maxDischargeDepth := 200) only [go_sem, c1, c2, d1, d2, d3, FCall, d4, d5, isR_eq, nodeV_leaf, Tryz.results97]
          | true =>
            have d6 : isP l (n + 1) ⟨#[40]⟩ = false := by
              cases h6 : isP l (n + 1) ⟨#[40]⟩ with
              | false => rfl
              | true => exact absurd ⟨d4, h6⟩ h1
            simp (decide := true) (maxDischargeDepth := 200) only [go_sem, c1, c2, d1, d2, d3, FCall, d4, d5, d6, isR_eq, nodeV_leaf, Tryz.results97]
        · rw [if_neg h2] at hs
          have e1 := grf_eq (nl := nl) (en := en) h1000 hs
          obtain ⟨ka, opa, nma, vka, vna, vsa, csa, cca, cra, tsa, tca, tra, nla, sza, esa, ha'⟩ := nd_is a
          have k1 : ∀ {u v : Bool}, ¬ (u = true ∧ v = true) → u = false ∨ (u = true ∧ v = false) := by
            intro u v h
            cases u <;> cases v <;> simp_all
          rcases k1 h1 with d4 | ⟨d4, d6⟩
          · by_cases h3 : B q = ⟨#[82, 69, 70]⟩
            · have d3 : decide (B q = ⟨#[82, 69, 70]⟩) = true := decide_eq_true h3
              have d5 : isP l (n + 1) ⟨#[33]⟩ = false := by
                cases h6 : isP l (n + 1) ⟨#[33]⟩ with
                | false => rfl
                | true => exact absurd ⟨h3, h6⟩ h2
              simp (decide := true) (maxDischargeDepth := 200) only [go_sem, c1, c3, d1, d2, d3, FCall, d4, d5, isR_eq, e1, ha', Tryz.results97]
            · have d3 : decide (B q = ⟨#[82, 69, 70]⟩) = false := decide_eq_false h3
              simp (decide := true) (maxDischargeDepth := 200) only [go_sem, c1, c3, d1, d2, d3, FCall, d4, isR_eq, e1, ha', Tryz.results97]
          · by_cases h3 : B q = ⟨#[82, 69, 70]⟩
            · have d3 : decide (B q = ⟨#[82, 69, 70]⟩) = true := decide_eq_true h3
              have d5 : isP l (n + 1) ⟨#[33]⟩ = false := by
                cases h6 : isP l (n + 1) ⟨#[33]⟩ with
                | false => rfl
                | true => exact absurd ⟨h3, h6⟩ h2
              simp (decide := true) (maxDischargeDepth := 200) only [go_sem, c1, c3, d1, d2, d3, FCall, d4, d5, d6, isR_eq, e1, ha', Tryz.results97]
            · have d3 : decide (B q = ⟨#[82, 69, 70]⟩) = false := decide_eq_false h3
              simp (decide := true) (maxDischargeDepth := 200) only [go_sem, c1, c3, d1, d2, d3, FCall, d4, d6, isR_eq, e1, ha', Tryz.results97]

set_option maxHeartbeats 8000000 in
set_option maxRecDepth 100000 in
theorem first_step (m : Nat) (hp : FunPV 29 (FE encPR (GPair m))) (hw : FunPV 97 (FE encPT (GWord m))) (hr : FunPV 96 (FE encP GRefR)) : FunPV 77 (FE encP (GU (m + 1) .first)) := by
  refine fun_of_runP (E := envP [(94, FNum), (95, FInt)] (fun _ => false) [(30, (FE encPI GFailR)), (58, (FE encPS GIsR)), (31, (FE encP GAtR)), (29, (FE encPR (GPair m))), (96, (FE encP GRefR)), (97, (FE encPT (GWord m)))]) (k := 1) (envOK_P _ _ _ ⟨number_fun, int_fun, trivial⟩ ⟨failR_fun, isR_fun, atR_fun, hp, hr, hw, trivial⟩) (fun _ _ => rfl) (by kernel_rfl) Tryz.func77 rfl (fun a w => Tryz.call77 a w) Tryz.ntmps77 (by kernel_rfl) (by decide) (by decide) ?_
  intro us r outs hF
  obtain ⟨⟨nl, l, n, en, sh, bad⟩, hus, hG⟩ := FE_out hF
  clear hF
  subst hus
  have hF := hG
  clear hG
  obtain ⟨rfl, h1000, a, i, y, hres, rfl, rfl⟩ := gu_out hF
  clear hF
  simp only [encP, pqV]
  refine ⟨rfl, ?_⟩
  have hs : stepR l (en : Int) sh m (rF l (en : Int) sh m) .first n = some (a, i, y) := hres
  clear hres
  simp only [stepR] at hs
  cases hl : l[n]? with
  | none =>
    rw [hl] at hs
    obtain ⟨rfl, rfl, rfl⟩ := inj3 (show some (zNd, n, (en : Int)) = some (a, i, y) from hs)
    have c1 : decide ((l.length : Int) ≤ (n : Int)) = true := decide_eq_true (by have := List.getElem?_eq_none_iff.1 hl; omega)
    simp (decide := true) (maxDischargeDepth := 200) only [go_sem, tks_size, c1, failR_eq, nodeV_leaf, Tryz.results77]
  | some t =>
    obtain ⟨k, p, q⟩ := t
    simp only [hl] at hs
    have hn := lt_of_some hl
    have c1 : decide ((l.length : Int) ≤ (n : Int)) = false := decide_eq_false (by omega)
    have c2 : (0 : Int) ≤ (n : Int) := by omega
    have c3 := tks_at hl
    have c4 := count_up (i := n) (by omega)
    by_cases h1 : k = 1
    · subst h1
      rw [if_pos rfl] at hs
      obtain ⟨hq, hs⟩ := ite_some hs
      have e1 := FNum_eq hq.1 (hq.2 rfl).2
      have d1 : decide (((1 : Nat) : Int) = 1) = true := rfl
      cases hv : numP q with
      | some v =>
        rw [hv] at e1 hs
        obtain ⟨rfl, rfl, rfl⟩ := inj3 (show some (valNd 1 (v : Int) ⟨#[]⟩, n + 1, (-1 : Int)) = some (a, i, y) from hs)
        simp (decide := true) (maxDischargeDepth := 200) only [go_sem, tks_size, c1, c2, c3, c4, d1, e1, FInt, nodeV_leaf, Tryz.results77]
      | none =>
        rw [hv] at e1 hs
        obtain ⟨rfl, rfl, rfl⟩ := inj3 (show some (zNd, n, (p : Int)) = some (a, i, y) from hs)
        simp (decide := true) (maxDischargeDepth := 200) only [go_sem, tks_size, c1, c2, c3, c4, d1, e1, failR_eq, nodeV_leaf, Tryz.results77]
    · rw [if_neg h1] at hs
      have d1 : decide ((k : Int) = 1) = false := decide_eq_false (by omega)
      by_cases h2 : k = 2
      · subst h2
        rw [if_pos rfl] at hs
        obtain ⟨rfl, rfl, rfl⟩ := inj3 hs
        have d2 : decide (((2 : Nat) : Int) = 2) = true := rfl
        simp (decide := true) (maxDischargeDepth := 200) only [go_sem, tks_size, c1, c2, c3, c4, d1, d2, nodeV_leaf, Tryz.results77]
      · rw [if_neg h2] at hs
        have d2 : decide ((k : Int) = 2) = false := decide_eq_false (by omega)
        cases hi : isP l n ⟨#[40]⟩ with
        | true =>
          rw [hi, if_pos rfl] at hs
          split at hs
          case h_2 => cases hs
          rename_i b j z hb
          have e1 := gpr0_eq (nl := nl) h1000 hb
          obtain ⟨kb, opb, nmb, vkb, vnb, vsb, csb, ccb, crb, tsb, tcb, trb, nlb, szb, esb, hb'⟩ := nd_is b
          by_cases hz : z = -1
          · subst hz
            rw [if_pos rfl] at hs
            have d3 : decide ((-1 : Int) < 0) = true := rfl
            cases hj : isP l j ⟨#[41]⟩ with
            | false =>
              rw [hj, if_pos rfl] at hs
              obtain ⟨rfl, rfl, rfl⟩ := inj3 hs
              simp (decide := true) (maxDischargeDepth := 200) only [go_sem, tks_size, c1, c2, c3, c4, d1, d2, d3, isR_eq, hi, hj, e1, hb', atR_eq, failR_eq, nodeV_leaf, Tryz.results77]
            | true =>
              rw [hj, if_neg (by decide)] at hs
              have hjl := isP_lt hj
              have c5 := count_up (i := j) (by omega)
              obtain ⟨rfl, rfl, rfl⟩ := inj3 hs
              simp (decide := true) (maxDischargeDepth := 200) only [go_sem, tks_size, c1, c2, c3, c4, c5, d1, d2, d3, isR_eq, hi, hj, e1, hb', Tryz.results77]
          · rw [if_neg hz] at hs
            by_cases hz0 : z < 0
            · rw [if_pos hz0] at hs; cases hs
            rw [if_neg hz0] at hs
            obtain ⟨hj, hs⟩ := ite_some hs
            obtain ⟨rfl, rfl, rfl⟩ := inj3 hs
            have d3 : decide (z < 0) = false := decide_eq_false hz0
            have c5 := count_up (i := j) (by omega)
            simp (decide := true) (maxDischargeDepth := 200) only [go_sem, tks_size, c1, c2, c3, c4, c5, d1, d2, d3, isR_eq, hi, e1, hb', Tryz.results77]
        | false =>
          rw [hi, if_neg (by decide)] at hs
          by_cases h4 : k = 4
          · subst h4
            rw [if_pos rfl] at hs
            have d4 : decide (((4 : Nat) : Int) = 4) = true := rfl
            have e1 := grf_eq (nl := nl) (en := en) h1000 hs
            obtain ⟨ka, opa, nma, vka, vna, vsa, csa, cca, cra, tsa, tca, tra, nla, sza, esa, ha'⟩ := nd_is a
            simp (decide := true) (maxDischargeDepth := 200) only [go_sem, tks_size, c1, c2, c3, c4, d1, d2, d4, isR_eq, hi, e1, ha', Tryz.results77]
          · rw [if_neg h4] at hs
            have d4 : decide ((k : Int) = 4) = false := decide_eq_false (by omega)
            by_cases h3 : k = 3
            · subst h3
              rw [if_pos rfl] at hs
              have d3 : decide (((3 : Nat) : Int) = 3) = true := rfl
              have e1 := gwd_eq (nl := nl) h1000 hl hs
              obtain ⟨ka, opa, nma, vka, vna, vsa, csa, cca, cra, tsa, tca, tra, nla, sza, esa, ha'⟩ := nd_is a
              simp (decide := true) (maxDischargeDepth := 200) only [go_sem, tks_size, c1, c2, c3, c4, d1, d2, d3, d4, isR_eq, hi, e1, ha', Tryz.results77]
            · rw [if_neg h3] at hs
              have d3 : decide ((k : Int) = 3) = false := decide_eq_false (by omega)
              obtain ⟨rfl, rfl, rfl⟩ := inj3 hs
              simp (decide := true) (maxDischargeDepth := 200) only [go_sem, tks_size, c1, c2, c3, c4, d1, d2, d3, d4, isR_eq, hi, failR_eq, nodeV_leaf, Tryz.results77]

end Go.Proofs.YteibnmlfipkmeaaGreatDoor

/- The reference's reader: calls, whose kids grow in a variable's field. -/
namespace Go.Proofs.YteibnmlfipkmeaaGreatDoor
open Go Go.RowKit
set_option linter.unusedSimpArgs false
set_option maxHeartbeats 16000000 in
set_option maxRecDepth 100000 in
theorem callR_step (m : Nat) (hp : FunPV 29 (FE encPR (GPair m))) : FunPV 112 (FE encPS (GCallR (m + 1))) := by
  refine fun_of_runP (E := envB [] (fun _ => false) [(29, (FE encPR (GPair m))), (58, (FE encPS GIsR)), (31, (FE encP GAtR)), (30, (FE encPI GFailR))] (fun i => i == 5) (fun i => i == 6)) (k := 2) (envOK_B _ _ _ _ _ trivial ⟨hp, isR_fun, atR_fun, failR_fun, trivial⟩) (fun s hs => by show (s == 5) = false; simp only [beq_eq_false_iff_ne, ne_eq]; omega) (by kernel_rfl) Tryz.func112 rfl (fun a w => Tryz.call112 a w) Tryz.ntmps112 (by kernel_rfl) (by decide) (by decide) ?_
  intro us r outs hF
  obtain ⟨⟨⟨nl, l, n, en, sh, bad⟩, nm⟩, hus, hG⟩ := FE_out hF
  clear hF
  subst hus
  have hF := hG
  clear hG
  obtain ⟨hn1, hF⟩ := ite_some hF
  have hn1 : n ≤ 1000 := hn1
  have hF : GU (m + 1) (.call nm) ⟨nl, l, n, en, sh, bad⟩ = _ := hF
  obtain ⟨rfl, h1000, a, i, y, hres, rfl, rfl⟩ := gu_out hF
  clear hF
  simp only [encPS, pqV]
  refine ⟨rfl, ?_⟩
  have hs : stepR l (en : Int) sh m (rF l (en : Int) sh m) (.call nm) n = some (a, i, y) := hres
  clear hres
  simp only [stepR] at hs
  have c1 := count_up (i := n) (by omega)
  have c2 := count_up (i := n + 1) (by omega)
  cases h41 : isP l (n + 1) ⟨#[41]⟩ with
  | true =>
    rw [h41, if_pos rfl] at hs
    obtain ⟨rfl, rfl, rfl⟩ := inj3 hs
    simp (decide := true) (maxDischargeDepth := 200) only [go_sem, c1, c2, isR_eq, h41, callNd_nil, Tryz.results112]
  | false =>
    rw [h41, if_neg (by decide)] at hs
    simp (decide := true) (maxDischargeDepth := 200) only [go_sem, c1, isR_eq, h41, Tryz.results112]
    refine loop_nilB 5 13 30 ([.x (.int .i64 6), .x (.string ⟨#[]⟩), .x (.string nm), .x (.int .i64 0), .x (.int .i64 0), .x (.string ⟨#[]⟩), .x (.string ⟨#[]⟩), .x (.int .i64 0), .x (.int .i64 0), .x (.string ⟨#[]⟩), .x (.int .i64 0), .x (.int .i64 0)]) [] (by simp (decide := true) only [go_sem] <;> rfl) ?_
    refine loop_of (X := {p : Nat × List Nd × Nat // callsR l (en : Int) (rF l (en : Int) sh m (.pair 0)) nm p.1 p.2.1 p.2.2 = some (a, i, y) ∧ p.2.1.length ≤ 19})
      (fun p => [(0, .ptr 1000 0), (4, .ptr 4 0), (5, .ptr 5 0)])
      (fun p => [(1000, pqL nl l p.1.2.2 en sh (-1)), (4, [.x (.int .i64 0), .x (.string ⟨#[]⟩), .x (.string ⟨#[]⟩), .x (.int .i64 0), .x (.int .i64 0), .x (.string ⟨#[]⟩), .x (.string ⟨#[]⟩), .x (.int .i64 0), .x (.int .i64 0), .x (.string ⟨#[]⟩), .x (.int .i64 0), .x (.int .i64 0), .sl true 0 [] none]), (5, [.x (.int .i64 6), .x (.string ⟨#[]⟩), .x (.string nm), .x (.int .i64 0), .x (.int .i64 0), .x (.string ⟨#[]⟩), .x (.string ⟨#[]⟩), .x (.int .i64 0), .x (.int .i64 0), .x (.string ⟨#[]⟩), .x (.int .i64 0), .x (.int .i64 0)] ++ [.sl (p.1.2.1.map nodeV).isEmpty 13 (p.1.2.1.map nodeV) (some 30)])])
      (fun p => p.1.1) ⟨(m, [], n + 1), hs, by simp⟩ (by simp (decide := true) only [go_sem] <;> (repeat' first | rfl | constructor)) (by simp (decide := true) only [go_sem] <;> (repeat' first | rfl | constructor)) (fun ⟨⟨k0, ks, j⟩, hk0⟩ => ?_)
    obtain ⟨hk, h19⟩ := hk0
    have hk : callsR l (en : Int) (rF l (en : Int) sh m (.pair 0)) nm k0 ks j = some (a, i, y) := hk
    have h19 : ks.length ≤ 19 := h19
    cases k0 with
    | zero => cases hk
    | succ k0 =>
      simp only [callsR] at hk
      split at hk
      · cases hk
      · rename_i kid j1 z hkid
        have e1 := gpr0_eq (nl := nl) h1000 hkid
        obtain ⟨kd, opd, nmd, vkd, vnd, vsd, csd, ccd, crd, tsd, tcd, trd, nld, szd, esd, hd'⟩ := nd_is kid
        have g0 : ∀ (st : St) (t' : Option Nat), growV _ st (some 30) 28 (.sl (ks.map nodeV).isEmpty 13 (ks.map nodeV) (some 30)) (.sl false 13 [nodeV kid] t') = _ := fun st t' => push_kid (E := envB [] (fun _ => false) [(29, (FE encPR (GPair m))), (58, (FE encPS GIsR)), (31, (FE encP GAtR)), (30, (FE encPI GFailR))] (fun i => i == 5) (fun i => i == 6)) rfl ks kid (by omega) st 30 30 false t'
        have z0 : (((ks.map nodeV ++ [nodeV kid]).length : Nat) : Int) = ((ks.length + 1 : Nat) : Int) := by simp
        have z1 := callNd_snoc nm ks kid
        rw [hd'] at g0 z0 z1
        simp (decide := true) (maxDischargeDepth := 200) only [go_sem, Tryz.results112]
        refine any_of [(0, .ptr 1000 0), (4, .ptr 4 0), (5, .ptr 5 0)] [(1000, pqL nl l j1 en sh z), (4, [.x (.int .i64 0), .x (.string ⟨#[]⟩), .x (.string ⟨#[]⟩), .x (.int .i64 0), .x (.int .i64 0), .x (.string ⟨#[]⟩), .x (.string ⟨#[]⟩), .x (.int .i64 0), .x (.int .i64 0), .x (.string ⟨#[]⟩), .x (.int .i64 0), .x (.int .i64 0), .sl true 0 [] none]), (5, [.x (.int .i64 6), .x (.string ⟨#[]⟩), .x (.string nm), .x (.int .i64 0), .x (.int .i64 0), .x (.string ⟨#[]⟩), .x (.string ⟨#[]⟩), .x (.int .i64 0), .x (.int .i64 0), .x (.string ⟨#[]⟩), .x (.int .i64 0), .x (.int .i64 0)] ++ [.sl false 13 (ks.map nodeV ++ [.agg [.x (.int .i64 kd), .x (.string opd), .x (.string nmd), .x (.int .i64 vkd), .x (.int .i64 vnd), .x (.string vsd), .x (.string csd), .x (.int .i64 ccd), .x (.int .i64 crd), .x (.string tsd), .x (.int .i64 tcd), .x (.int .i64 trd), .sl nld szd esd none]]) (some 30)])] (.alt 0 (.alt 1 (.alt 2 (.alt 3 (.alt 4 (.alt 5 (.alt 6 (.alt 7 .fin .none) .none) .none) .none) .none) .none) (.alt 2 (.alt 1 (.alt 3 (.alt 4 (.alt 5 (.alt 6 (.alt 7 .fin .none) .none) .none) .none) .none) (.alt 3 (.alt 1 (.alt 4 (.alt 5 (.alt 6 (.alt 7 .fin .none) .none) .none) .none) (.alt 4 (.alt 1 (.alt 5 (.alt 6 (.alt 7 .fin .none) .none) .none) .none) .none)) .none)) .none)) (.alt 2 (.alt 0 (.alt 1 (.alt 3 (.alt 4 (.alt 5 (.alt 6 (.alt 7 .fin .none) .none) .none) .none) .none) (.alt 3 (.alt 1 (.alt 4 (.alt 5 (.alt 6 (.alt 7 .fin .none) .none) .none) .none) (.alt 4 (.alt 1 (.alt 5 (.alt 6 (.alt 7 .fin .none) .none) .none) .none) .none)) .none)) (.alt 3 (.alt 0 (.alt 1 (.alt 4 (.alt 5 (.alt 6 (.alt 7 .fin .none) .none) .none) .none) (.alt 4 (.alt 1 (.alt 5 (.alt 6 (.alt 7 .fin .none) .none) .none) .none) .none)) (.alt 4 (.alt 0 (.alt 1 (.alt 5 (.alt 6 (.alt 7 .fin .none) .none) .none) .none) .none) .none)) .none)) .none)) (by decide) ?_ ?_
        · simp (decide := true) (maxDischargeDepth := 200) only [go_sem, e1, hd', g0, Tryz.results112]
        · by_cases hz0 : 0 ≤ z
          · rw [if_pos hz0] at hk
            obtain ⟨rfl, rfl, rfl⟩ := inj3 hk
            have c3 : decide ((0 : Int) ≤ z) = true := decide_eq_true hz0
            simp (decide := true) (maxDischargeDepth := 200) only [go_sem, c3, z1, Tryz.results112]
          · rw [if_neg hz0] at hk
            have c3 : decide ((0 : Int) ≤ z) = false := decide_eq_false hz0
            by_cases hz : z = -1
            · subst hz
              rw [if_neg (by simp)] at hk
              have c3 : decide ((0 : Int) ≤ -1) = false := rfl
              cases hj : isP l j1 ⟨#[41]⟩ with
              | true =>
                rw [hj, if_pos rfl] at hk
                have hjl := isP_lt hj
                have c4 := count_up (i := j1) (by omega)
                obtain ⟨rfl, rfl, rfl⟩ := inj3 hk
                simp (decide := true) (maxDischargeDepth := 200) only [go_sem, c3, c4, isR_eq, hj, z1, Tryz.results112]
              | false =>
                rw [hj, if_neg (by decide)] at hk
                cases hcm : isP l j1 ⟨#[44]⟩ with
                | false =>
                  rw [hcm, if_neg (fun h => by cases h.1)] at hk
                  obtain ⟨rfl, rfl, rfl⟩ := inj3 hk
                  simp (decide := true) (maxDischargeDepth := 200) only [go_sem, c3, isR_eq, hj, hcm, atR_eq, failR_eq, nodeV_leaf, Tryz.results112]
                | true =>
                  have hjl := isP_lt hcm
                  have c4 := count_up (i := j1) (by omega)
                  by_cases h20 : ks.length + 1 = 20
                  · rw [hcm, if_neg (fun h => h.2 h20)] at hk
                    obtain ⟨rfl, rfl, rfl⟩ := inj3 hk
                    have c5 : decide (((ks.length + 1 : Nat) : Int) = 20) = true := decide_eq_true (by omega)
                    simp (decide := true) (maxDischargeDepth := 200) only [go_sem, c3, c5, z0, isR_eq, hj, hcm, atR_eq, failR_eq, nodeV_leaf, Tryz.results112]
                  · rw [hcm, if_pos ⟨rfl, h20⟩] at hk
                    have c5 : decide (((ks.length + 1 : Nat) : Int) = 20) = false := decide_eq_false (by omega)
                    simp (decide := true) (maxDischargeDepth := 200) only [go_sem, c3, c4, c5, z0, isR_eq, hj, hcm, Tryz.results112]
                    refine ⟨⟨(k0, ks ++ [kid], j1 + 1), hk, by simp; omega⟩, ?_, ?_, by simp only; omega⟩
                    · simp (decide := true) only [go_sem]
                    · have z2 : (ks ++ [kid]).map nodeV = ks.map nodeV ++ [nodeV kid] := by simp
                      have z3 : ((ks ++ [kid]).map nodeV).isEmpty = false := by simp
                      simp only [z3, z2]
                      rw [hd']
                      simp (decide := true) only [go_sem]
            · rw [if_pos hz] at hk; cases hk

end Go.Proofs.YteibnmlfipkmeaaGreatDoor
