/- Package arith and the reference's reckoning: their small functions, as functions of plain data. -/
import Derived.Test.YtkkcjhbkdlenpaaDoorPfW
import Derived.Test.YtkkcjhbkdlenpaaDoorArithP
namespace Go.Proofs.YtkkcjhbkdlenpaaDoor
open Go Go.RowKit
set_option linter.unusedSimpArgs false

theorem wrapk (x : Int) : bWrap .i64 x = wrap64 x := (bWrap_eq _ _).trans (IntWalk.i64_left x)
theorem bwrap_of {x : Int} (h : inR x) : bWrap .i64 x = x := (wrapk x).trans (wrap64_of h)
theorem some_tup {a a' : Int} {b b' : Bool} (h : a = a') (k : b = b') : some (V.tup [.x (.int .i64 a), .x (.bool b)]) = some (V.tup [.x (.int .i64 a'), .x (.bool b')]) := by rw [h, k]
theorem add_ok {a b : Int} (ha : inR a) (hb : inR b) : (decide (a < wrap64 (a + b)) == decide (0 < b)) = decide (inR (a + b)) := by
  rw [Bool.eq_iff_iff]
  simp only [beq_iff_eq, decide_eq_true_eq, decide_eq_decide]
  unfold wrap64
  unfold inR at *
  omega
theorem sub_ok {a b : Int} (ha : inR a) (hb : inR b) : (decide (wrap64 (a - b) < a) == decide (0 < b)) = decide (inR (a - b)) := by
  rw [Bool.eq_iff_iff]
  simp only [beq_iff_eq, decide_eq_true_eq, decide_eq_decide]
  unfold wrap64
  unfold inR at *
  omega
/-- Is a number within 64 bits? -/
def fitV (x : Int) : T3 := if inR x then (1, x, ⟨#[]⟩) else (4, 1, ⟨#[]⟩)

def FAdd : List V → Option V
  | [.x (.int .i64 a), .x (.int .i64 b)] => if inR a ∧ inR b then some (.tup [.x (.int .i64 (wrap64 (a + b))), .x (.bool (decide (inR (a + b))))]) else none
  | _ => none
def FSub : List V → Option V
  | [.x (.int .i64 a), .x (.int .i64 b)] => if inR a ∧ inR b then some (.tup [.x (.int .i64 (wrap64 (a - b))), .x (.bool (decide (inR (a - b))))]) else none
  | _ => none
def FMul : List V → Option V
  | [.x (.int .i64 a), .x (.int .i64 b)] => if inR a ∧ inR b then some (.tup [.x (.int .i64 (wrap64 (a * b))), .x (.bool (decide (inR (a * b))))]) else none
  | _ => none
def FDiv : List V → Option V
  | [.x (.int .i64 a), .x (.int .i64 b)] => if inR a ∧ inR b ∧ b ≠ 0 then some (.tup [.x (.int .i64 (wrap64 (a.tdiv b))), .x (.bool (decide (inR (a.tdiv b))))]) else none
  | _ => none
def FFault : List V → Option V
  | [.x (.int .i64 n)] => some (vl 4 n ⟨#[]⟩)
  | _ => none
def FNumber : List V → Option V
  | [.x (.int .i64 n)] => some (vl 1 n ⟨#[]⟩)
  | _ => none
def FTruth : List V → Option V
  | [.x (.bool b)] => some (vl 3 (if b then 1 else 0) ⟨#[]⟩)
  | _ => none
def FWithin : List V → Option V
  | [.x (.int .i64 n), .x (.bool b)] => some (if b then vl 1 n ⟨#[]⟩ else vl 4 1 ⟨#[]⟩)
  | _ => none

set_option maxRecDepth 100000 in
theorem add_fun : FunV 31 FAdd := by
  refine fun_of_run (E := envOf []) (k := 2) (envOK_of _ trivial) (by kernel_rfl) Tryd.func31 rfl (fun a w => Tryd.call31 a w) Tryd.ntmps31 (by kernel_rfl) (by decide) ?_
  intro us r hF hdat
  unfold FAdd at hF
  split at hF
  case h_2 => cases hF
  rename_i a b
  split at hF
  · rename_i h
    obtain ⟨ha, hb⟩ := h
    cases hF
    refine ⟨rfl, ?_⟩
    simp (decide := true) (maxDischargeDepth := 200) only [go_sem, wrapk, Tryd.results31]
    exact some_tup rfl (add_ok ha hb)
  · cases hF

set_option maxRecDepth 100000 in
theorem sub_fun : FunV 32 FSub := by
  refine fun_of_run (E := envOf []) (k := 2) (envOK_of _ trivial) (by kernel_rfl) Tryd.func32 rfl (fun a w => Tryd.call32 a w) Tryd.ntmps32 (by kernel_rfl) (by decide) ?_
  intro us r hF hdat
  unfold FSub at hF
  split at hF
  case h_2 => cases hF
  rename_i a b
  split at hF
  · rename_i h
    obtain ⟨ha, hb⟩ := h
    cases hF
    refine ⟨rfl, ?_⟩
    simp (decide := true) (maxDischargeDepth := 200) only [go_sem, wrapk, Tryd.results32]
    exact some_tup rfl (sub_ok ha hb)
  · cases hF

theorem mul_ok {a b : Int} (ha : inR a) (hb : inR b) (hb0 : ¬ b = 0) (hs : decide (wrap64 (a * b) < 0) = !(decide (a < 0) == decide (b < 0))) :
    decide (wrap64 ((wrap64 (a * b)).tdiv b) = a) = decide (inR (a * b)) := by
  rw [Bool.eq_iff_iff]
  simp only [decide_eq_true_eq]
  by_cases hq : wrap64 (a * b) = -9223372036854775808 ∧ b = -1
  · obtain ⟨h1, rfl⟩ := hq
    rw [h1] at hs ⊢
    rw [quo_out]
    have h2 : a * -1 = -a := by omega
    rw [h2] at h1 ⊢
    have h3 : wrap64 9223372036854775808 = -9223372036854775808 := by simp [wrap64]
    rw [h3]
    unfold wrap64 at h1
    unfold inR at ha ⊢
    by_cases h0 : a < 0
    · simp [h0] at hs
    · clear hs
      constructor
      · intro h; omega
      · rintro ⟨h, h'⟩; omega
  · rw [wrap64_of (quo_in (wrap64_range _) hq)]
    exact mul_test hb hb0
theorem mul_no {a b : Int} (hs : ¬ decide (wrap64 (a * b) < 0) = !(decide (a < 0) == decide (b < 0))) (ha0 : ¬ a = 0) (hb0 : ¬ b = 0) : decide (inR (a * b)) = false := by
  rw [decide_eq_false_iff_not]
  intro h
  apply hs
  rw [wrap64_of h]
  rcases Int.lt_or_gt_of_ne ha0 with h1 | h1 <;> rcases Int.lt_or_gt_of_ne hb0 with h2 | h2
  · have := Int.mul_pos_of_neg_of_neg h1 h2
    simp [h1, h2]; omega
  · have := Int.mul_neg_of_neg_of_pos h1 h2
    have h3 : ¬ b < 0 := by omega
    simp [h1, h3, this]
  · have := Int.mul_neg_of_pos_of_neg h1 h2
    have h3 : ¬ a < 0 := by omega
    simp [h2, h3, this]
  · have := Int.mul_pos h1 h2
    have h3 : ¬ a < 0 := by omega
    have h4 : ¬ b < 0 := by omega
    simp [h3, h4]; omega

set_option maxRecDepth 100000 in
theorem mul_fun : FunV 33 FMul := by
  refine fun_of_run (E := envOf []) (k := 2) (envOK_of _ trivial) (by kernel_rfl) Tryd.func33 rfl (fun a w => Tryd.call33 a w) Tryd.ntmps33 (by kernel_rfl) (by decide) ?_
  intro us r hF hdat
  unfold FMul at hF
  split at hF
  case h_2 => cases hF
  rename_i a b
  split at hF
  · rename_i h
    obtain ⟨ha, hb⟩ := h
    cases hF
    refine ⟨rfl, ?_⟩
    by_cases ha0 : a = 0
    · subst ha0
      simp (decide := true) (maxDischargeDepth := 200) only [go_sem, Tryd.results33]
      exact some_tup (by simp [wrap64]) (by simp [inR])
    · by_cases hb0 : b = 0
      · subst hb0
        simp (decide := true) (maxDischargeDepth := 200) only [go_sem, ha0, Tryd.results33]
        exact some_tup (by simp [wrap64]) (by simp [inR])
      · by_cases hs : decide (wrap64 (a * b) < 0) = !(decide (a < 0) == decide (b < 0))
        · have hq := mul_ok ha hb hb0 hs
          simp (decide := true) (maxDischargeDepth := 200) only [go_sem, ha0, hb0, hs, wrapk, Tryd.results33]
          exact some_tup rfl hq
        · have hq := mul_no hs ha0 hb0
          have hs' : (decide (wrap64 (a * b) < 0) == !(decide (a < 0) == decide (b < 0))) = false := beq_eq_false_iff_ne.2 hs
          simp (decide := true) (maxDischargeDepth := 200) only [go_sem, ha0, hb0, hs', wrapk, Tryd.results33]
          exact some_tup rfl hq.symm
  · cases hF

theorem quo_ok {a b : Int} (ha : inR a) (h0 : b ≠ 0) : (!decide (a = -9223372036854775808) || !decide (b = -1)) = decide (inR (a.tdiv b)) := by
  rw [Bool.eq_iff_iff]
  simp only [Bool.or_eq_true, Bool.not_eq_true', decide_eq_false_iff_not, decide_eq_true_eq]
  constructor
  · intro h
    exact quo_in ha (fun hh => by rcases h with h | h <;> simp_all)
  · intro h
    by_cases h1 : a = -9223372036854775808
    · by_cases h2 : b = -1
      · subst h1 h2; rw [quo_out] at h; unfold inR at h; omega
      · exact .inr h2
    · exact .inl h1

set_option maxRecDepth 100000 in
theorem div_fun : FunV 34 FDiv := by
  refine fun_of_run (E := envOf []) (k := 2) (envOK_of _ trivial) (by kernel_rfl) Tryd.func34 rfl (fun a w => Tryd.call34 a w) Tryd.ntmps34 (by kernel_rfl) (by decide) ?_
  intro us r hF hdat
  unfold FDiv at hF
  split at hF
  case h_2 => cases hF
  rename_i a b
  split at hF
  · rename_i h
    obtain ⟨ha, hb, h0⟩ := h
    cases hF
    refine ⟨rfl, ?_⟩
    have hq := quo_ok ha h0
    by_cases h1 : a = -9223372036854775808
    · subst h1
      simp (decide := true) (maxDischargeDepth := 200) only [go_sem, wrapk, h0, Tryd.results34]
      simpa using hq
    · simp (decide := true) (maxDischargeDepth := 200) only [go_sem, wrapk, h0, h1, Tryd.results34]
      simpa [h1] using hq
  · cases hF

set_option maxRecDepth 100000 in
theorem fault_fun : FunV 17 FFault := by
  refine fun_of_run (E := envOf []) (k := 1) (envOK_of _ trivial) (by kernel_rfl) Tryd.func17 rfl (fun a w => Tryd.call17 a w) Tryd.ntmps17 (by kernel_rfl) (by decide) ?_
  intro us r hF hdat
  unfold FFault at hF
  split at hF
  case h_2 => cases hF
  rename_i n
  cases hF
  refine ⟨rfl, ?_⟩
  simp (decide := true) (maxDischargeDepth := 200) only [go_sem, Tryd.results17]

set_option maxRecDepth 100000 in
theorem number_fun : FunV 28 FNumber := by
  refine fun_of_run (E := envOf []) (k := 1) (envOK_of _ trivial) (by kernel_rfl) Tryd.func28 rfl (fun a w => Tryd.call28 a w) Tryd.ntmps28 (by kernel_rfl) (by decide) ?_
  intro us r hF hdat
  unfold FNumber at hF
  split at hF
  case h_2 => cases hF
  rename_i n
  cases hF
  refine ⟨rfl, ?_⟩
  simp (decide := true) (maxDischargeDepth := 200) only [go_sem, Tryd.results28]

set_option maxRecDepth 100000 in
theorem rerr_fun : FunV 18 FFault := by
  refine fun_of_run (E := envOf []) (k := 1) (envOK_of _ trivial) (by kernel_rfl) Tryd.func18 rfl (fun a w => Tryd.call18 a w) Tryd.ntmps18 (by kernel_rfl) (by decide) ?_
  intro us r hF hdat
  unfold FFault at hF
  split at hF
  case h_2 => cases hF
  rename_i n
  cases hF
  refine ⟨rfl, ?_⟩
  simp (decide := true) (maxDischargeDepth := 200) only [go_sem, Tryd.results18]

set_option maxRecDepth 100000 in
theorem rint_fun : FunV 29 FNumber := by
  refine fun_of_run (E := envOf []) (k := 1) (envOK_of _ trivial) (by kernel_rfl) Tryd.func29 rfl (fun a w => Tryd.call29 a w) Tryd.ntmps29 (by kernel_rfl) (by decide) ?_
  intro us r hF hdat
  unfold FNumber at hF
  split at hF
  case h_2 => cases hF
  rename_i n
  cases hF
  refine ⟨rfl, ?_⟩
  simp (decide := true) (maxDischargeDepth := 200) only [go_sem, Tryd.results29]

set_option maxRecDepth 100000 in
theorem truth_fun : FunV 21 FTruth := by
  refine fun_of_run (E := envOf []) (k := 1) (envOK_of _ trivial) (by kernel_rfl) Tryd.func21 rfl (fun a w => Tryd.call21 a w) Tryd.ntmps21 (by kernel_rfl) (by decide) ?_
  intro us r hF hdat
  unfold FTruth at hF
  split at hF
  case h_2 => cases hF
  rename_i b
  cases hF
  refine ⟨rfl, ?_⟩
  cases b
  · simp (decide := true) (maxDischargeDepth := 200) only [go_sem, Tryd.results21]
  · simp (decide := true) (maxDischargeDepth := 200) only [go_sem, Tryd.results21]

set_option maxRecDepth 100000 in
theorem rtruth_fun : FunV 27 FTruth := by
  refine fun_of_run (E := envOf []) (k := 1) (envOK_of _ trivial) (by kernel_rfl) Tryd.func27 rfl (fun a w => Tryd.call27 a w) Tryd.ntmps27 (by kernel_rfl) (by decide) ?_
  intro us r hF hdat
  unfold FTruth at hF
  split at hF
  case h_2 => cases hF
  rename_i b
  cases hF
  refine ⟨rfl, ?_⟩
  cases b
  · simp (decide := true) (maxDischargeDepth := 200) only [go_sem, Tryd.results27]
  · simp (decide := true) (maxDischargeDepth := 200) only [go_sem, Tryd.results27]

set_option maxRecDepth 100000 in
theorem within_fun : FunV 30 FWithin := by
  refine fun_of_run (E := envOf [(17, FFault), (28, FNumber)]) (k := 2) (envOK_of _ ⟨fault_fun, number_fun, trivial⟩) (by kernel_rfl) Tryd.func30 rfl (fun a w => Tryd.call30 a w) Tryd.ntmps30 (by kernel_rfl) (by decide) ?_
  intro us r hF hdat
  unfold FWithin at hF
  split at hF
  case h_2 => cases hF
  rename_i n b
  cases hF
  refine ⟨rfl, ?_⟩
  cases b
  · simp (decide := true) (maxDischargeDepth := 200) only [go_sem, FFault, Tryd.results30]
  · simp (decide := true) (maxDischargeDepth := 200) only [go_sem, FNumber, Tryd.results30]

end Go.Proofs.YtkkcjhbkdlenpaaDoor
