/- Chapter 15's laws. -/
import Derived.Test.YtkacldoiimlmcaaStA
import Derived.Test.YtkacldoiimlmcaaEnc
namespace Go.Proofs.Ytkacldoiimlmcaa
open Go Go.RowKit
set_option linter.unusedSimpArgs false
theorem lessS_irr (a b c : Int) : lessS a b c a b c = false := by simp [lessS]
theorem lessS_iff {a b c a' b' c' : Int} : lessS a b c a' b' c' = true ↔ a < a' ∨ (a = a' ∧ (b < b' ∨ (b = b' ∧ c < c'))) := by
  unfold lessS
  by_cases h : a = a'
  · rw [if_pos h]
    by_cases h2 : b = b'
    · rw [if_pos h2, decide_eq_true_eq]; omega
    · rw [if_neg h2, decide_eq_true_eq]; omega
  · rw [if_neg h, decide_eq_true_eq]; omega
theorem lessS_no {a b c a' b' c' : Int} : lessS a b c a' b' c' = false ↔ ¬ (a < a' ∨ (a = a' ∧ (b < b' ∨ (b = b' ∧ c < c')))) := by rw [← lessS_iff, Bool.not_eq_true]
theorem withS_iff {a b c a' b' c' : Int} : withS a b c a' b' c' = true ↔ a ≤ a' ∧ b ≤ b' ∧ c ≤ c' := by simp [withS]
theorem withS_no {a b c a' b' c' : Int} : withS a b c a' b' c' = false ↔ ¬ (a ≤ a' ∧ b ≤ b' ∧ c ≤ c') := by rw [← withS_iff, Bool.not_eq_true]
def eqS (a b c a' b' c' : Int) : Bool := decide (a = a') && (decide (b = b') && decide (c = c'))
theorem eqS_iff {a b c a' b' c' : Int} : eqS a b c a' b' c' = true ↔ a = a' ∧ b = b' ∧ c = c' := by simp [eqS]
theorem eqS_no {a b c a' b' c' : Int} : eqS a b c a' b' c' = false ↔ ¬ (a = a' ∧ b = b' ∧ c = c') := by rw [← eqS_iff, Bool.not_eq_true]
theorem eqS_of (a b c a' b' c' : Int) : (decide (a = a') && (decide (b = b') && decide (c = c'))) = eqS a b c a' b' c' := rfl
def FOrd15 : List V → Option V
  | [.agg [.x (.int .i64 _), .x (.int .i64 _), .x (.int .i64 _)], .agg [.x (.int .i64 _), .x (.int .i64 _), .x (.int .i64 _)], .agg [.x (.int .i64 _), .x (.int .i64 _), .x (.int .i64 _)]] => some (.x (.bool true))
  | _ => none
set_option maxHeartbeats 8000000 in
set_option maxRecDepth 100000 in
theorem ord15_fun : FunV 3 FOrd15 := by
  refine fun_of_run (E := envOf [(5, FAlive15), (6, FLessS), (7, FWithS), (8, FNextS)]) (k := 3) (envOK_of _ ⟨alive15_fun, lessS_fun, withS_fun, nextS_fun, trivial⟩) (by kernel_rfl) Try.func3 rfl (fun a w => Try.call3 a w) Try.ntmps3 (by kernel_rfl) (by decide) (by decide) ?_
  intro us r hF hdat
  unfold FOrd15 at hF
  split at hF
  case h_2 => cases hF
  rename_i a b c a' b' c' a2 b2 c2
  cases hF
  refine ⟨rfl, ?_⟩
  have i1 := lessS_irr a b c
  have D1 : (eqS a b c a' b' c' = true ∧ lessS a b c a' b' c' = false) ∨ (eqS a b c a' b' c' = false ∧ lessS a b c a' b' c' = false ∧ lessS a' b' c' a b c = true) ∨ (eqS a b c a' b' c' = false ∧ lessS a b c a' b' c' = true ∧ lessS a' b' c' a b c = false ∧ lessS a' b' c' a2 b2 c2 = false) ∨ (eqS a b c a' b' c' = false ∧ lessS a b c a' b' c' = true ∧ lessS a' b' c' a b c = false ∧ lessS a' b' c' a2 b2 c2 = true ∧ lessS a b c a2 b2 c2 = true) := by
    by_cases hq : eqS a b c a' b' c' = true
    · exact .inl ⟨hq, by rw [lessS_no]; rw [eqS_iff] at hq; omega⟩
    · have hq := (Bool.not_eq_true _).mp hq
      have hq' := eqS_no.1 hq
      by_cases hl : lessS a b c a' b' c' = true
      · have hl' := lessS_iff.1 hl
        have hm : lessS a' b' c' a b c = false := by rw [lessS_no]; omega
        by_cases hb : lessS a' b' c' a2 b2 c2 = true
        · have hb' := lessS_iff.1 hb
          exact .inr (.inr (.inr ⟨hq, hl, hm, hb, by rw [lessS_iff]; omega⟩))
        · exact .inr (.inr (.inl ⟨hq, hl, hm, (Bool.not_eq_true _).mp hb⟩))
      · have hl := (Bool.not_eq_true _).mp hl
        have hl' := lessS_no.1 hl
        exact .inr (.inl ⟨hq, hl, by rw [lessS_iff]; omega⟩)
  have D2 : withS a b c a' b' c' = false ∨ (withS a b c a' b' c' = true ∧ lessS a' b' c' a b c = false ∧ withS a' b' c' a2 b2 c2 = false) ∨ (withS a b c a' b' c' = true ∧ lessS a' b' c' a b c = false ∧ withS a' b' c' a2 b2 c2 = true ∧ withS a b c a2 b2 c2 = true) := by
    by_cases hw : withS a b c a' b' c' = true
    · have hw' := withS_iff.1 hw
      have hm : lessS a' b' c' a b c = false := by rw [lessS_no]; omega
      by_cases hb : withS a' b' c' a2 b2 c2 = true
      · have hb' := withS_iff.1 hb
        exact .inr (.inr ⟨hw, hm, hb, by rw [withS_iff]; omega⟩)
      · exact .inr (.inl ⟨hw, hm, (Bool.not_eq_true _).mp hb⟩)
    · exact .inl ((Bool.not_eq_true _).mp hw)
  rcases D1 with ⟨d1, d2⟩ | ⟨d1, d2, d3⟩ | ⟨d1, d2, d3, d4⟩ | ⟨d1, d2, d3, d4, d5⟩
  · rcases D2 with g1 | ⟨g1, g2, g3⟩ | ⟨g1, g2, g3, g4⟩
    · simp (decide := true) (maxDischargeDepth := 200) only [go_sem, List.append_eq, FAlive15, FLessS, FWithS, eqS_of, i1, d1, d2, g1, Try.results3]
    · simp (decide := true) (maxDischargeDepth := 200) only [go_sem, List.append_eq, FAlive15, FLessS, FWithS, eqS_of, i1, d1, d2, g1, g2, g3, Try.results3]
    · simp (decide := true) (maxDischargeDepth := 200) only [go_sem, List.append_eq, FAlive15, FLessS, FWithS, eqS_of, i1, d1, d2, g1, g2, g3, g4, Try.results3]
  · rcases D2 with g1 | ⟨g1, g2, g3⟩ | ⟨g1, g2, g3, g4⟩
    · simp (decide := true) (maxDischargeDepth := 200) only [go_sem, List.append_eq, FAlive15, FLessS, FWithS, eqS_of, i1, d1, d2, d3, g1, Try.results3]
    · exact absurd (d3.symm.trans g2) Bool.noConfusion
    · exact absurd (d3.symm.trans g2) Bool.noConfusion
  · rcases D2 with g1 | ⟨g1, g2, g3⟩ | ⟨g1, g2, g3, g4⟩
    · simp (decide := true) (maxDischargeDepth := 200) only [go_sem, List.append_eq, FAlive15, FLessS, FWithS, eqS_of, i1, d1, d2, d3, d4, g1, Try.results3]
    · simp (decide := true) (maxDischargeDepth := 200) only [go_sem, List.append_eq, FAlive15, FLessS, FWithS, eqS_of, i1, d1, d2, d3, d4, g1, g2, g3, Try.results3]
    · simp (decide := true) (maxDischargeDepth := 200) only [go_sem, List.append_eq, FAlive15, FLessS, FWithS, eqS_of, i1, d1, d2, d3, d4, g1, g2, g3, g4, Try.results3]
  · rcases D2 with g1 | ⟨g1, g2, g3⟩ | ⟨g1, g2, g3, g4⟩
    · simp (decide := true) (maxDischargeDepth := 200) only [go_sem, List.append_eq, FAlive15, FLessS, FWithS, eqS_of, i1, d1, d2, d3, d4, d5, g1, Try.results3]
    · simp (decide := true) (maxDischargeDepth := 200) only [go_sem, List.append_eq, FAlive15, FLessS, FWithS, eqS_of, i1, d1, d2, d3, d4, d5, g1, g2, g3, Try.results3]
    · simp (decide := true) (maxDischargeDepth := 200) only [go_sem, List.append_eq, FAlive15, FLessS, FWithS, eqS_of, i1, d1, d2, d3, d4, d5, g1, g2, g3, g4, Try.results3]

abbrev BR := Bool × Nat × List Bool
def tV (b : Bool) : V := .x (.bool b)
theorem tV_inj {a b : Bool} (h : tV a = tV b) : a = b := by cases h; rfl
def brV (q : BR) : V := .sl q.1 q.2.1 (q.2.2.map tV) none
theorem brV_inj {p q : BR} (e : brV p = brV q) : p = q := by
  obtain ⟨a, b, c⟩ := p
  obtain ⟨a', b', c'⟩ := q
  injection e with e1 e2 e3
  cases e1
  cases e2
  have h : c = c' := (List.map_inj_right (fun _ _ => tV_inj)).1 e3
  rw [h]
abbrev G15 := Int × BR × BR
def enG (q : G15) : List V := [.x (.int .i64 q.1), brV q.2.1, brV q.2.2]
theorem enG_inj (p q : G15) (e : enG p = enG q) : p = q := by
  obtain ⟨a, b, c⟩ := p
  obtain ⟨a', b', c'⟩ := q
  injection e with e1 e2
  injection e2 with e2 e3
  injection e3 with e3 e4
  cases e1
  rw [show b = b' from brV_inj e2, show c = c' from brV_inj e3]
def okBR (q : BR) : Prop := q.2.2 ≠ [] → q.2.1 = 1
noncomputable instance (q : BR) : Decidable (okBR q) := Classical.propDecidable _
noncomputable def GGoes (q : G15) : Option V := if okBR q.2.1 ∧ okBR q.2.2 then some (.x (.bool true)) else none
/-- What comes next is further, or the next epoch's beginning. -/
theorem next_far {r o N : Nat} (hr : r < N) (hN : N ≤ 10) (ho : 1 ≤ o) (ho2 : o ≤ 12) (t b : Bool) : (∃ r' o' : Nat, nextS 4 r o t b N = [.x (.int .i64 4), .x (.int .i64 (r' : Int)), .x (.int .i64 (o' : Int))] ∧ r' < N ∧ 1 ≤ o' ∧ o' ≤ 12 ∧ 12 * r + o < 12 * r' + o' ∧ lessS 4 r o 4 r' o' = true) ∨ (nextS 4 r o t b N = [.x (.int .i64 5), .x (.int .i64 0), .x (.int .i64 1)] ∧ lessS 4 r o 5 0 1 = true) := by
  have w1 : bWrap .i64 ((o : Int) + 1) = ((o + 1 : Nat) : Int) := by rw [bwrap_of (by unfold inR; omega)]; omega
  have w2 : bWrap .i64 ((r : Int) + 1) = ((r + 1 : Nat) : Int) := by rw [bwrap_of (by unfold inR; omega)]; omega
  have w3 : bWrap .i64 ((4 : Int) + 1) = 5 := bwrap_of (by unfold inR; omega)
  unfold nextS
  rw [w1, w2, w3]
  cases h1 : b && (t && decide ((o : Int) < 12))
  · cases h2 : decide ((r : Int) < N) && decide (((r + 1 : Nat) : Int) < N)
    · exact .inr ⟨rfl, lessS_iff.2 (by omega)⟩
    · have h2 := (Bool.and_eq_true _ _ ▸ h2).2
      have h3 := of_decide_eq_true h2
      exact .inl ⟨r + 1, 1, rfl, by omega, by omega, by omega, by omega, lessS_iff.2 (by omega)⟩
  · simp only [Bool.and_eq_true, decide_eq_true_eq] at h1
    exact .inl ⟨r, o + 1, rfl, hr, by omega, by omega, by omega, lessS_iff.2 (by omega)⟩
theorem bit_at {l : List Bool} {i : Nat} (h : i < l.length) : ∃ b, (l.map tV)[((i : Int)).toNat]? = some (.x (.bool b)) := ⟨l[i], by rw [Int.toNat_natCast, List.getElem?_map, List.getElem?_eq_getElem h]; rfl⟩
set_option maxHeartbeats 8000000 in
set_option maxRecDepth 100000 in
theorem goes15_fun : FunV 4 (FE enG GGoes) := by
  refine fun_of_run (E := envOf [(5, FAlive15), (6, FLessS), (7, FWithS), (8, FNextS)]) (k := 3) (envOK_of _ ⟨alive15_fun, lessS_fun, withS_fun, nextS_fun, trivial⟩) (by kernel_rfl) Try.func4 rfl (fun a w => Try.call4 a w) Try.ntmps4 (by kernel_rfl) (by decide) (by decide) ?_
  intro us r hF hdat
  obtain ⟨⟨n, ⟨nl1, k1, ts⟩, nl2, k2, rs⟩, hus, hG⟩ := FE_out hF
  clear hF
  subst hus
  have hF := hG
  clear hG
  unfold GGoes at hF
  obtain ⟨⟨z1, z2⟩, hF⟩ := ite_some hF
  cases hF
  refine ⟨rfl, ?_⟩
  simp only [enG, brV]
  by_cases h0 : n < 1
  · have d0 := decide_eq_true h0
    simp (decide := true) (maxDischargeDepth := 200) only [go_sem, FAlive15, FLessS, FNextS, List.length_map, d0, Try.results4]
  · have d0 := decide_eq_false h0
    by_cases h1 : 10 < n
    · have d1 := decide_eq_true h1
      simp (decide := true) (maxDischargeDepth := 200) only [go_sem, FAlive15, FLessS, FNextS, List.length_map, d0, d1, Try.results4]
    · have d1 := decide_eq_false h1
      by_cases h2 : ((ts.length : Nat) : Int) < 130
      · have d2 := decide_eq_true h2
        simp (decide := true) (maxDischargeDepth := 200) only [go_sem, FAlive15, FLessS, FNextS, List.length_map, d0, d1, d2, Try.results4]
      · have d2 := decide_eq_false h2
        by_cases h3 : ((rs.length : Nat) : Int) < 10
        · have d3 := decide_eq_true h3
          simp (decide := true) (maxDischargeDepth := 200) only [go_sem, FAlive15, FLessS, FNextS, List.length_map, d0, d1, d2, d3, Try.results4]
        · have d3 := decide_eq_false h3
          obtain rfl : k1 = 1 := z1 (by intro h; have h : ts = [] := h; subst h; simp at h2)
          obtain rfl : k2 = 1 := z2 (by intro h; have h : rs = [] := h; subst h; simp at h3)
          obtain ⟨N, rfl⟩ : ∃ N : Nat, n = (N : Int) := ⟨n.toNat, by omega⟩
          simp (decide := true) (maxDischargeDepth := 200) only [go_sem, FAlive15, FLessS, FNextS, List.length_map, d0, d1, d2, d3, Try.results4]
          refine loop_of (X := {x : Nat × Nat × Nat // x.2.1 < N ∧ 1 ≤ x.2.2 ∧ x.2.2 ≤ 12 ∧ x.1 < 12 * x.2.1 + x.2.2}) (fun x => [(0, .x (.int .i64 (N : Int))), (1, .sl nl1 1 (ts.map tV) none), (2, .sl nl2 1 (rs.map tV) none), (8, .ptr 8 0), (9, .x (.int .i64 ((x.1.1 : Nat) : Int)))]) (fun x => [(8, [.x (.int .i64 4), .x (.int .i64 ((x.1.2.1 : Nat) : Int)), .x (.int .i64 ((x.1.2.2 : Nat) : Int))])]) (fun x => 12 * N - x.1.1) ⟨(0, 0, 1), (by show 0 < N; omega), (by decide), (by decide), (by decide)⟩ (by simp (decide := true) only [go_sem] <;> (repeat' first | rfl | constructor)) (by simp (decide := true) only [go_sem] <;> (repeat' first | rfl | constructor)) (fun ⟨⟨i, r, o⟩, q1, q2, q3, q4⟩ => ?_)
          have q1 : r < N := q1
          have q2 : 1 ≤ o := q2
          have q3 : o ≤ 12 := q3
          have q4 : i < 12 * r + o := q4
          have w0 : bWrap .i64 (12 * (N : Int)) = 12 * (N : Int) := bwrap_of (by unfold inR; omega)
          have c0 : decide ((i : Int) < 12 * (N : Int)) = true := decide_eq_true (by omega)
          have c1 : decide ((r : Int) < 0) = false := decide_eq_false (by omega)
          have c2 : decide ((N : Int) ≤ (r : Int)) = false := decide_eq_false (by omega)
          have c3 : decide ((o : Int) < 1) = false := decide_eq_false (by omega)
          have c4 : decide ((12 : Int) < (o : Int)) = false := decide_eq_false (by omega)
          have p1 : (0 : Int) ≤ (i : Int) := by omega
          have p2 : (0 : Int) ≤ (r : Int) := by omega
          obtain ⟨t, ht⟩ := bit_at (l := ts) (i := i) (by omega)
          obtain ⟨b, hb⟩ := bit_at (l := rs) (i := r) (by omega)
          have cu := count_up (i := i) (by omega)
          rcases next_far q1 (by omega) q2 q3 t b with ⟨r', o', e1, g1, g2, g3, g4, e2⟩ | ⟨e1, e2⟩
          · simp (decide := true) (maxDischargeDepth := 200) only [go_sem, FAlive15, FLessS, FNextS, List.length_map, w0, c0, c1, c2, c3, c4, p1, p2, ht, hb, cu, e1, e2, Try.results4]
            refine ⟨⟨(i + 1, r', o'), g1, g2, g3, by simp only; omega⟩, ?_, ?_, by simp only; omega⟩
            · simp (decide := true) only [go_sem]
            · simp (decide := true) only [go_sem]
          · simp (decide := true) (maxDischargeDepth := 200) only [go_sem, FAlive15, FLessS, FNextS, List.length_map, w0, c0, c1, c2, c3, c4, p1, p2, ht, hb, cu, e1, e2, Try.results4]

end Go.Proofs.Ytkacldoiimlmcaa
