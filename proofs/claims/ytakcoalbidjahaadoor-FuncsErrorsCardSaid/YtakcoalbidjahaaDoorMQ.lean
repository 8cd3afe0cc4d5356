/- Contracts of package value and of the reference's values, as functions of plain data. -/
import Derived.Test.YtakcoalbidjahaaDoorMPO
import Derived.Test.YtakcoalbidjahaaDoorMV
import Derived.Test.YtakcoalbidjahaaDoorArithP
import Derived.Lib.ItoaLen
namespace Go.Proofs.YtakcoalbidjahaaDoor
open Go Go.RowKit

def FRight : List V → Option V
  | [.agg [.x (.int .i64 k), .x (.int .i64 n), .x (.string s)]] => some (.x (.bool (rightB k n s)))
  | _ => none
theorem right_fun : FunV 42 FRight := by
  refine ⟨fun a w => Tryd.call42 a w, fun m w vs us r hF hd hr hj hg => ?_⟩
  unfold FRight at hF
  split at hF
  · rename_i k n s
    cases hF
    obtain rfl := args_eq (xs := [.agg #[.int .i64 k, .int .i64 n, .string s]]) hr rfl
    refine (right_any k n s w).mono ?_
    rintro e w' ⟨rfl, hb⟩
    exact ⟨_, m, rfl, .x _, hb, fun _ _ => rfl⟩
  · cases hF
end Go.Proofs.YtakcoalbidjahaaDoor

/- Package arith and the reference's reckoning: their small functions, as functions of plain data. -/
namespace Go.Proofs.YtakcoalbidjahaaDoor
open Go Go.RowKit
set_option linter.unusedSimpArgs false

theorem some_tup {a a' : Int} {b b' : Bool} (h : a = a') (k : b = b') : some (V.tup [.x (.int .i64 a), .x (.bool b)]) = some (V.tup [.x (.int .i64 a'), .x (.bool b')]) := by rw [h, k]
theorem add_ok {a b : Int} (ha : inR a) (hb : inR b) : (decide (a < wrap64 (a + b)) == decide (0 < b)) = decide (inR (a + b)) := by
  rw [Bool.eq_iff_iff]
  simp only [beq_iff_eq, decide_eq_true_eq, decide_eq_decide]
  unfold wrap64
  unfold inR at *
  omega
theorem sub_ok {a b : Int} (ha : inR a) (hb : inR b) : (decide (wrap64 (a - b) < a) == decide (0 < b)) = decide (inR (a - b)) := by
  rw [Bool.eq_iff_iff]
  simp only [beq_iff_eq, decide_eq_true_eq, decide_eq_decide]
  unfold wrap64
  unfold inR at *
  omega
/-- Is a number within 64 bits? -/
def fitV (x : Int) : T3 := if inR x then (1, x, ⟨#[]⟩) else (4, 1, ⟨#[]⟩)

def FAdd : List V → Option V
  | [.x (.int .i64 a), .x (.int .i64 b)] => if inR a ∧ inR b then some (.tup [.x (.int .i64 (wrap64 (a + b))), .x (.bool (decide (inR (a + b))))]) else none
  | _ => none
def FSub : List V → Option V
  | [.x (.int .i64 a), .x (.int .i64 b)] => if inR a ∧ inR b then some (.tup [.x (.int .i64 (wrap64 (a - b))), .x (.bool (decide (inR (a - b))))]) else none
  | _ => none
def FMul : List V → Option V
  | [.x (.int .i64 a), .x (.int .i64 b)] => if inR a ∧ inR b then some (.tup [.x (.int .i64 (wrap64 (a * b))), .x (.bool (decide (inR (a * b))))]) else none
  | _ => none
def FDiv : List V → Option V
  | [.x (.int .i64 a), .x (.int .i64 b)] => if inR a ∧ inR b ∧ b ≠ 0 then some (.tup [.x (.int .i64 (wrap64 (a.tdiv b))), .x (.bool (decide (inR (a.tdiv b))))]) else none
  | _ => none
def FFault : List V → Option V
  | [.x (.int .i64 n)] => some (vl 4 n ⟨#[]⟩)
  | _ => none
def FNumber : List V → Option V
  | [.x (.int .i64 n)] => some (vl 1 n ⟨#[]⟩)
  | _ => none
def FTruth : List V → Option V
  | [.x (.bool b)] => some (vl 3 (if b then 1 else 0) ⟨#[]⟩)
  | _ => none
def FWithin : List V → Option V
  | [.x (.int .i64 n), .x (.bool b)] => some (if b then vl 1 n ⟨#[]⟩ else vl 4 1 ⟨#[]⟩)
  | _ => none

set_option maxRecDepth 100000 in
theorem add_fun : FunV 66 FAdd := by
  refine fun_of_run (E := envOf []) (k := 2) (envOK_of _ trivial) (by kernel_rfl) Tryd.func66 rfl (fun a w => Tryd.call66 a w) Tryd.ntmps66 (by kernel_rfl) (by decide) (by decide) ?_
  intro us r hF hdat
  unfold FAdd at hF
  split at hF
  case h_2 => cases hF
  rename_i a b
  split at hF
  · rename_i h
    obtain ⟨ha, hb⟩ := h
    cases hF
    refine ⟨rfl, ?_⟩
    simp (decide := true) (maxDischargeDepth := 200) only [go_sem, wrapk, Tryd.results66]
    exact some_tup rfl (add_ok ha hb)
  · cases hF

set_option maxRecDepth 100000 in
theorem sub_fun : FunV 67 FSub := by
  refine fun_of_run (E := envOf []) (k := 2) (envOK_of _ trivial) (by kernel_rfl) Tryd.func67 rfl (fun a w => Tryd.call67 a w) Tryd.ntmps67 (by kernel_rfl) (by decide) (by decide) ?_
  intro us r hF hdat
  unfold FSub at hF
  split at hF
  case h_2 => cases hF
  rename_i a b
  split at hF
  · rename_i h
    obtain ⟨ha, hb⟩ := h
    cases hF
    refine ⟨rfl, ?_⟩
    simp (decide := true) (maxDischargeDepth := 200) only [go_sem, wrapk, Tryd.results67]
    exact some_tup rfl (sub_ok ha hb)
  · cases hF

theorem mul_ok {a b : Int} (ha : inR a) (hb : inR b) (hb0 : ¬ b = 0) (hs : decide (wrap64 (a * b) < 0) = !(decide (a < 0) == decide (b < 0))) :
    decide (wrap64 ((wrap64 (a * b)).tdiv b) = a) = decide (inR (a * b)) := by
  rw [Bool.eq_iff_iff]
  simp only [decide_eq_true_eq]
  by_cases hq : wrap64 (a * b) = -9223372036854775808 ∧ b = -1
  · obtain ⟨h1, rfl⟩ := hq
    rw [h1] at hs ⊢
    rw [quo_out]
    have h2 : a * -1 = -a := by omega
    rw [h2] at h1 ⊢
    have h3 : wrap64 9223372036854775808 = -9223372036854775808 := by simp [wrap64]
    rw [h3]
    unfold wrap64 at h1
    unfold inR at ha ⊢
    by_cases h0 : a < 0
    · simp [h0] at hs
    · clear hs
      constructor
      · intro h; omega
      · rintro ⟨h, h'⟩; omega
  · rw [wrap64_of (quo_in (wrap64_range _) hq)]
    exact mul_test hb hb0
theorem mul_no {a b : Int} (hs : ¬ decide (wrap64 (a * b) < 0) = !(decide (a < 0) == decide (b < 0))) (ha0 : ¬ a = 0) (hb0 : ¬ b = 0) : decide (inR (a * b)) = false := by
  rw [decide_eq_false_iff_not]
  intro h
  apply hs
  rw [wrap64_of h]
  rcases Int.lt_or_gt_of_ne ha0 with h1 | h1 <;> rcases Int.lt_or_gt_of_ne hb0 with h2 | h2
  · have := Int.mul_pos_of_neg_of_neg h1 h2
    simp [h1, h2]; omega
  · have := Int.mul_neg_of_neg_of_pos h1 h2
    have h3 : ¬ b < 0 := by omega
    simp [h1, h3, this]
  · have := Int.mul_neg_of_pos_of_neg h1 h2
    have h3 : ¬ a < 0 := by omega
    simp [h2, h3, this]
  · have := Int.mul_pos h1 h2
    have h3 : ¬ a < 0 := by omega
    have h4 : ¬ b < 0 := by omega
    simp [h3, h4]; omega

set_option maxRecDepth 100000 in
theorem mul_fun : FunV 68 FMul := by
  refine fun_of_run (E := envOf []) (k := 2) (envOK_of _ trivial) (by kernel_rfl) Tryd.func68 rfl (fun a w => Tryd.call68 a w) Tryd.ntmps68 (by kernel_rfl) (by decide) (by decide) ?_
  intro us r hF hdat
  unfold FMul at hF
  split at hF
  case h_2 => cases hF
  rename_i a b
  split at hF
  · rename_i h
    obtain ⟨ha, hb⟩ := h
    cases hF
    refine ⟨rfl, ?_⟩
    by_cases ha0 : a = 0
    · subst ha0
      simp (decide := true) (maxDischargeDepth := 200) only [go_sem, Tryd.results68]
      exact some_tup (by simp [wrap64]) (by simp [inR])
    · by_cases hb0 : b = 0
      · subst hb0
        simp (decide := true) (maxDischargeDepth := 200) only [go_sem, ha0, Tryd.results68]
        exact some_tup (by simp [wrap64]) (by simp [inR])
      · by_cases hs : decide (wrap64 (a * b) < 0) = !(decide (a < 0) == decide (b < 0))
        · have hq := mul_ok ha hb hb0 hs
          simp (decide := true) (maxDischargeDepth := 200) only [go_sem, ha0, hb0, hs, wrapk, Tryd.results68]
          exact some_tup rfl hq
        · have hq := mul_no hs ha0 hb0
          have hs' : (decide (wrap64 (a * b) < 0) == !(decide (a < 0) == decide (b < 0))) = false := beq_eq_false_iff_ne.2 hs
          simp (decide := true) (maxDischargeDepth := 200) only [go_sem, ha0, hb0, hs', wrapk, Tryd.results68]
          exact some_tup rfl hq.symm
  · cases hF

theorem quo_ok {a b : Int} (ha : inR a) (h0 : b ≠ 0) : (!decide (a = -9223372036854775808) || !decide (b = -1)) = decide (inR (a.tdiv b)) := by
  rw [Bool.eq_iff_iff]
  simp only [Bool.or_eq_true, Bool.not_eq_true', decide_eq_false_iff_not, decide_eq_true_eq]
  constructor
  · intro h
    exact quo_in ha (fun hh => by rcases h with h | h <;> simp_all)
  · intro h
    by_cases h1 : a = -9223372036854775808
    · by_cases h2 : b = -1
      · subst h1 h2; rw [quo_out] at h; unfold inR at h; omega
      · exact .inr h2
    · exact .inl h1

set_option maxRecDepth 100000 in
theorem div_fun : FunV 69 FDiv := by
  refine fun_of_run (E := envOf []) (k := 2) (envOK_of _ trivial) (by kernel_rfl) Tryd.func69 rfl (fun a w => Tryd.call69 a w) Tryd.ntmps69 (by kernel_rfl) (by decide) (by decide) ?_
  intro us r hF hdat
  unfold FDiv at hF
  split at hF
  case h_2 => cases hF
  rename_i a b
  split at hF
  · rename_i h
    obtain ⟨ha, hb, h0⟩ := h
    cases hF
    refine ⟨rfl, ?_⟩
    have hq := quo_ok ha h0
    by_cases h1 : a = -9223372036854775808
    · subst h1
      simp (decide := true) (maxDischargeDepth := 200) only [go_sem, wrapk, h0, Tryd.results69]
      simpa using hq
    · simp (decide := true) (maxDischargeDepth := 200) only [go_sem, wrapk, h0, h1, Tryd.results69]
      simpa [h1] using hq
  · cases hF

set_option maxRecDepth 100000 in
theorem fault_fun : FunV 43 FFault := by
  refine fun_of_run (E := envOf []) (k := 1) (envOK_of _ trivial) (by kernel_rfl) Tryd.func43 rfl (fun a w => Tryd.call43 a w) Tryd.ntmps43 (by kernel_rfl) (by decide) (by decide) ?_
  intro us r hF hdat
  unfold FFault at hF
  split at hF
  case h_2 => cases hF
  rename_i n
  cases hF
  refine ⟨rfl, ?_⟩
  simp (decide := true) (maxDischargeDepth := 200) only [go_sem, Tryd.results43]

set_option maxRecDepth 100000 in
theorem number_fun : FunV 71 FNumber := by
  refine fun_of_run (E := envOf []) (k := 1) (envOK_of _ trivial) (by kernel_rfl) Tryd.func71 rfl (fun a w => Tryd.call71 a w) Tryd.ntmps71 (by kernel_rfl) (by decide) (by decide) ?_
  intro us r hF hdat
  unfold FNumber at hF
  split at hF
  case h_2 => cases hF
  rename_i n
  cases hF
  refine ⟨rfl, ?_⟩
  simp (decide := true) (maxDischargeDepth := 200) only [go_sem, Tryd.results71]

set_option maxRecDepth 100000 in
theorem truth_fun : FunV 46 FTruth := by
  refine fun_of_run (E := envOf []) (k := 1) (envOK_of _ trivial) (by kernel_rfl) Tryd.func46 rfl (fun a w => Tryd.call46 a w) Tryd.ntmps46 (by kernel_rfl) (by decide) (by decide) ?_
  intro us r hF hdat
  unfold FTruth at hF
  split at hF
  case h_2 => cases hF
  rename_i b
  cases hF
  refine ⟨rfl, ?_⟩
  cases b
  · simp (decide := true) (maxDischargeDepth := 200) only [go_sem, Tryd.results46]
  · simp (decide := true) (maxDischargeDepth := 200) only [go_sem, Tryd.results46]

set_option maxRecDepth 100000 in
theorem within_fun : FunV 65 FWithin := by
  refine fun_of_run (E := envOf [(43, FFault), (71, FNumber)]) (k := 2) (envOK_of _ ⟨fault_fun, number_fun, trivial⟩) (by kernel_rfl) Tryd.func65 rfl (fun a w => Tryd.call65 a w) Tryd.ntmps65 (by kernel_rfl) (by decide) (by decide) ?_
  intro us r hF hdat
  unfold FWithin at hF
  split at hF
  case h_2 => cases hF
  rename_i n b
  cases hF
  refine ⟨rfl, ?_⟩
  cases b
  · simp (decide := true) (maxDischargeDepth := 200) only [go_sem, FFault, Tryd.results65]
  · simp (decide := true) (maxDischargeDepth := 200) only [go_sem, FNumber, Tryd.results65]

end Go.Proofs.YtakcoalbidjahaaDoor

/- Package arith and the reference's reckoning: any two values, as functions of plain data. -/
namespace Go.Proofs.YtakcoalbidjahaaDoor
open Go Go.RowKit
set_option linter.unusedSimpArgs false

def FCompare : List V → Option V
  | [.agg [.x (.int .i64 k), .x (.int .i64 n), .x (.string s)], .agg [.x (.int .i64 k'), .x (.int .i64 n'), .x (.string s')]] => some (.x (.int .i64 (cmpV k n s k' n' s')))
  | _ => none
def FShow : List V → Option V
  | [.agg [.x (.int .i64 k), .x (.int .i64 n), .x (.string s)]] => if inR n then some (.x (.string (showB k n s))) else none
  | _ => none
theorem compare_fun : FunV 40 FCompare := by
  refine ⟨fun a w => Tryd.call40 a w, fun m w vs us r hF hd hr hj hg => ?_⟩
  unfold FCompare at hF
  split at hF
  · rename_i k n s k' n' s'
    cases hF
    obtain rfl := args_eq (xs := [.agg #[.int .i64 k, .int .i64 n, .string s], .agg #[.int .i64 k', .int .i64 n', .string s']]) hr rfl
    refine (compare_any k n s k' n' s' w).mono ?_
    rintro e w' ⟨rfl, hb⟩
    exact ⟨_, m, rfl, .x _, hb, fun _ _ => rfl⟩
  · cases hF
theorem show_fun : FunV 39 FShow := by
  refine ⟨fun a w => Tryd.call39 a w, fun m w vs us r hF hd hr hj hg => ?_⟩
  unfold FShow at hF
  split at hF
  · rename_i k n s
    split at hF
    · rename_i h
      cases hF
      obtain rfl := args_eq (xs := [.agg #[.int .i64 k, .int .i64 n, .string s]]) hr rfl
      refine (show_any k n s w hj h.1 h.2).mono ?_
      rintro e w' ⟨rfl, hb⟩
      exact ⟨_, m, rfl, .x _, hb, fun _ _ => rfl⟩
    · cases hF
  · cases hF
/-- What a value is as a number. -/
def numW (k n : Int) (s : ByteArray) : V :=
  if rightB k n s = false then .tup [.x (.int .i64 0), vl 4 3 ⟨#[]⟩, .x (.bool false)]
  else if k = 0 ∨ k = 1 then .tup [.x (.int .i64 n), vl 0 0 ⟨#[]⟩, .x (.bool true)]
  else if k = 4 then .tup [.x (.int .i64 0), vl k n s, .x (.bool false)]
  else .tup [.x (.int .i64 0), vl 4 3 ⟨#[]⟩, .x (.bool false)]
def FNum : List V → Option V
  | [.agg [.x (.int .i64 k), .x (.int .i64 n), .x (.string s)]] => some (numW k n s)
  | _ => none

theorem right_kind {k n : Int} {s : ByteArray} (h : rightB k n s = true) : k = 0 ∨ k = 1 ∨ k = 2 ∨ k = 3 ∨ k = 4 := by
  rcases right_cases h with ⟨rfl, _⟩ | rfl | ⟨rfl, _⟩ | ⟨rfl, _⟩ | ⟨rfl, _⟩ <;> simp

set_option maxRecDepth 100000 in
theorem num_fun : FunV 53 FNum := by
  refine fun_of_run (E := envOf [(42, FRight), (43, FFault)]) (k := 1) (envOK_of _ ⟨right_fun, fault_fun, trivial⟩) (by kernel_rfl) Tryd.func53 rfl (fun a w => Tryd.call53 a w) Tryd.ntmps53 (by kernel_rfl) (by decide) (by decide) ?_
  intro us r hF hdat
  unfold FNum at hF
  split at hF
  case h_2 => cases hF
  rename_i k n s
  cases hF
  refine ⟨rfl, ?_⟩
  unfold numW
  cases h : rightB k n s
  · simp (decide := true) (maxDischargeDepth := 200) only [go_sem, FRight, FFault, h, Tryd.results53]
  · rcases right_kind h with rfl | rfl | rfl | rfl | rfl
    all_goals simp (decide := true) (maxDischargeDepth := 200) only [go_sem, FRight, FFault, h, Tryd.results53]

end Go.Proofs.YtakcoalbidjahaaDoor

/- Package arith and the reference's reckoning: two values by a sign, as functions of plain data. -/
namespace Go.Proofs.YtakcoalbidjahaaDoor
open Go Go.RowKit
set_option linter.unusedSimpArgs false

theorem numW_no {k n : Int} {s : ByteArray} (h : rightB k n s = true) (hk : k = 2 ∨ k = 3) : numW k n s = .tup [.x (.int .i64 0), vl 4 3 ⟨#[]⟩, .x (.bool false)] := by
  unfold numW
  rw [if_neg (by simp [h]), if_neg (by omega), if_neg (by omega)]
theorem numW_yes {k n : Int} {s : ByteArray} (h : rightB k n s = true) (hk : k = 0 ∨ k = 1) : numW k n s = .tup [.x (.int .i64 n), vl 0 0 ⟨#[]⟩, .x (.bool true)] := by
  unfold numW
  rw [if_neg (by simp [h]), if_pos hk]

/-- Two numbers reckoned with. -/
def reckonW (op : ByteArray) (a b : Int) : T3 :=
  if op = ⟨#[43]⟩ then fitV (a + b) else if op = ⟨#[45]⟩ then fitV (a - b) else if op = ⟨#[42]⟩ then fitV (a * b) else if b = 0 then (4, 2, ⟨#[]⟩) else fitV (a.tdiv b)
def textW (s : ByteArray) : T3 := if s.size ≤ 200 then (2, 0, s) else (4, 1, ⟨#[]⟩)
def boolW (b : Bool) : T3 := (3, (if b then 1 else 0), ⟨#[]⟩)
/-- Two values by a sign. -/
def pairW (op : ByteArray) (k n : Int) (s : ByteArray) (k' n' : Int) (s' : ByteArray) : T3 :=
  if rightB k n s = false ∨ rightB k' n' s' = false then (4, 3, ⟨#[]⟩)
  else if k = 4 then (k, n, s)
  else if k' = 4 then (k', n', s')
  else if op = ⟨#[43]⟩ ∨ op = ⟨#[45]⟩ ∨ op = ⟨#[42]⟩ ∨ op = ⟨#[47]⟩ then (if k = 2 ∨ k = 3 ∨ k' = 2 ∨ k' = 3 then (4, 3, ⟨#[]⟩) else reckonW op n n')
  else if op = ⟨#[38]⟩ then textW (showB k n s ++ showB k' n' s')
  else if op = ⟨#[61]⟩ then boolW (decide (cmpV k n s k' n' s' = 0))
  else if op = ⟨#[60, 62]⟩ then boolW (!decide (cmpV k n s k' n' s' = 0))
  else if op = ⟨#[60]⟩ then boolW (decide (cmpV k n s k' n' s' < 0))
  else if op = ⟨#[62]⟩ then boolW (decide (0 < cmpV k n s k' n' s'))
  else if op = ⟨#[60, 61]⟩ then boolW (decide (cmpV k n s k' n' s' ≤ 0))
  else if op = ⟨#[62, 61]⟩ then boolW (decide (0 ≤ cmpV k n s k' n' s'))
  else (4, 5, ⟨#[]⟩)

def FReckonA : List V → Option V
  | [.x (.string op), .agg [.x (.int .i64 k), .x (.int .i64 n), .x (.string s)], .agg [.x (.int .i64 k'), .x (.int .i64 n'), .x (.string s')]] =>
    if rightB k n s = true ∧ rightB k' n' s' = true ∧ ¬ k = 4 ∧ ¬ k' = 4 ∧ inR n ∧ inR n' then some (tv (if k = 2 ∨ k = 3 ∨ k' = 2 ∨ k' = 3 then (4, 3, ⟨#[]⟩) else reckonW op n n')) else none
  | _ => none
def FJoin : List V → Option V
  | [.agg [.x (.int .i64 k), .x (.int .i64 n), .x (.string s)], .agg [.x (.int .i64 k'), .x (.int .i64 n'), .x (.string s')]] => if inR n ∧ inR n' then some (tv (textW (showB k n s ++ showB k' n' s'))) else none
  | _ => none
def FPair : List V → Option V
  | [.x (.string op), .agg [.x (.int .i64 k), .x (.int .i64 n), .x (.string s)], .agg [.x (.int .i64 k'), .x (.int .i64 n'), .x (.string s')]] => if inR n ∧ inR n' then some (tv (pairW op k n s k' n' s')) else none
  | _ => none
def FMinus : List V → Option V
  | [.agg [.x (.int .i64 k), .x (.int .i64 n), .x (.string s)]] => if inR n then some (tv (pairW ⟨#[45]⟩ 1 0 ⟨#[]⟩ k n s)) else none
  | _ => none

theorem showB_size {k n : Int} {s : ByteArray} (hn : inR n) : (showB k n s).size ≤ 200 := by
  unfold showB
  split
  · rename_i h
    rcases right_cases h with ⟨rfl, _⟩ | rfl | ⟨rfl, _, hl⟩ | ⟨rfl, hn'⟩ | ⟨rfl, hn'⟩
    · exact Nat.zero_le _
    · have := Lib.itoa_length_le n hn.1 hn.2
      simp [ByteArray.size]; omega
    · simpa using hl
    · simp only [show ¬ (3 : Int) = 1 by decide, show ¬ (3 : Int) = 2 by decide, if_false, if_true]
      split <;> decide
    · simp only [show ¬ (4 : Int) = 1 by decide, show ¬ (4 : Int) = 2 by decide, show ¬ (4 : Int) = 3 by decide, if_false, if_true]
      rcases (show n = 1 ∨ n = 2 ∨ n = 3 ∨ n = 4 ∨ n = 5 ∨ n = 6 ∨ n = 7 from by omega) with rfl | rfl | rfl | rfl | rfl | rfl | rfl <;> decide
  · exact Nat.zero_le _
theorem i64_max : IntKind.i64.max = 9223372036854775807 := by decide
theorem show_adds {k n : Int} {s : ByteArray} {k' n' : Int} {s' : ByteArray} (hn : inR n) (hn' : inR n') : ¬ IntKind.i64.max < (((showB k n s).size + (showB k' n' s').size : Nat) : Int) := by
  have h1 := showB_size (k := k) (s := s) hn
  have h2 := showB_size (k := k') (s := s') hn'
  rw [i64_max]
  omega
theorem show_cat {k n : Int} {s : ByteArray} {k' n' : Int} {s' : ByteArray} (hn : inR n) (hn' : inR n') : catV (showB k n s) (showB k' n' s') = some (.str (showB k n s ++ showB k' n' s')) := catV_ok (by
  have h := show_adds (k := k) (s := s) (k' := k') (s' := s') hn hn'
  rw [i64_max] at h
  omega)
theorem append_size (a b : ByteArray) : (a ++ b).size = a.size + b.size := ByteArray.size_append

set_option maxHeartbeats 2000000 in
set_option maxRecDepth 100000 in
theorem reckon_fun : FunV 44 FReckonA := by
  refine fun_of_run (E := envOf [(53, FNum), (66, FAdd), (67, FSub), (68, FMul), (69, FDiv), (65, FWithin), (43, FFault)]) (k := 3) (envOK_of _ ⟨num_fun, add_fun, sub_fun, mul_fun, div_fun, within_fun, fault_fun, trivial⟩) (by kernel_rfl) Tryd.func44 rfl (fun a w => Tryd.call44 a w) Tryd.ntmps44 (by kernel_rfl) (by decide) (by decide) ?_
  intro us r hF hdat
  unfold FReckonA at hF
  split at hF
  case h_2 => cases hF
  rename_i op k n s k' n' s'
  split at hF
  · rename_i hh
    obtain ⟨h, h', h3, h4, hn, hn'⟩ := hh
    cases hF
    refine ⟨rfl, ?_⟩
    by_cases p : k = 2 ∨ k = 3
    · have e := numW_no h p
      have q : k = 2 ∨ k = 3 ∨ k' = 2 ∨ k' = 3 := by omega
      rw [if_pos q]
      simp (decide := true) (maxDischargeDepth := 200) only [go_sem, FNum, e, Tryd.results44]
    have e := numW_yes h (show k = 0 ∨ k = 1 by have := right_kind h; omega)
    by_cases p' : k' = 2 ∨ k' = 3
    · have e' := numW_no h' p'
      have q : k = 2 ∨ k = 3 ∨ k' = 2 ∨ k' = 3 := by omega
      rw [if_pos q]
      simp (decide := true) (maxDischargeDepth := 200) only [go_sem, FNum, e, e', Tryd.results44]
    have e' := numW_yes h' (show k' = 0 ∨ k' = 1 by have := right_kind h'; omega)
    have q : ¬ (k = 2 ∨ k = 3 ∨ k' = 2 ∨ k' = 3) := by omega
    rw [if_neg q]
    clear p p' q h3 h4 h h'
    by_cases o0 : op = ⟨#[43]⟩
    · subst o0
      by_cases g : inR (n + n')
      · have hw := wrap64_of g
        simp (decide := true) (maxDischargeDepth := 200) only [go_sem, FNum, e, e', FAdd, FSub, FMul, FDiv, FWithin, FFault, reckonW, fitV, hn, hn', g, hw, Tryd.results44]
      · simp (decide := true) (maxDischargeDepth := 200) only [go_sem, FNum, e, e', FAdd, FSub, FMul, FDiv, FWithin, FFault, reckonW, fitV, hn, hn', g, Tryd.results44]
    ·
      by_cases o1 : op = ⟨#[45]⟩
      · subst o1
        by_cases g : inR (n - n')
        · have hw := wrap64_of g
          simp (decide := true) (maxDischargeDepth := 200) only [go_sem, FNum, e, e', FAdd, FSub, FMul, FDiv, FWithin, FFault, reckonW, fitV, hn, hn', g, hw, Tryd.results44]
        · simp (decide := true) (maxDischargeDepth := 200) only [go_sem, FNum, e, e', FAdd, FSub, FMul, FDiv, FWithin, FFault, reckonW, fitV, hn, hn', g, Tryd.results44]
      ·
        by_cases o2 : op = ⟨#[42]⟩
        · subst o2
          by_cases g : inR (n * n')
          · have hw := wrap64_of g
            simp (decide := true) (maxDischargeDepth := 200) only [go_sem, FNum, e, e', FAdd, FSub, FMul, FDiv, FWithin, FFault, reckonW, fitV, hn, hn', g, hw, Tryd.results44]
          · simp (decide := true) (maxDischargeDepth := 200) only [go_sem, FNum, e, e', FAdd, FSub, FMul, FDiv, FWithin, FFault, reckonW, fitV, hn, hn', g, Tryd.results44]
        ·
          by_cases b0 : n' = 0
          · subst b0
            simp (decide := true) (maxDischargeDepth := 200) only [go_sem, FNum, e, e', FFault, reckonW, o0, o1, o2, Tryd.results44]
          · by_cases g : inR (n.tdiv n')
            · have hw := wrap64_of g
              simp (decide := true) (maxDischargeDepth := 200) only [go_sem, FNum, e, e', FAdd, FSub, FMul, FDiv, FWithin, FFault, reckonW, fitV, hn, hn', b0, g, hw, o0, o1, o2, Tryd.results44]
            · simp (decide := true) (maxDischargeDepth := 200) only [go_sem, FNum, e, e', FAdd, FSub, FMul, FDiv, FWithin, FFault, reckonW, fitV, hn, hn', b0, g, o0, o1, o2, Tryd.results44]
  · cases hF

set_option maxRecDepth 100000 in
theorem join_fun : FunV 45 FJoin := by
  refine fun_of_run (E := envOf [(39, FShow), (43, FFault)]) (k := 2) (envOK_of _ ⟨show_fun, fault_fun, trivial⟩) (by kernel_rfl) Tryd.func45 rfl (fun a w => Tryd.call45 a w) Tryd.ntmps45 (by kernel_rfl) (by decide) (by decide) ?_
  intro us r hF hdat
  unfold FJoin at hF
  split at hF
  case h_2 => cases hF
  rename_i k n s k' n' s'
  split at hF
  · rename_i hh
    obtain ⟨hn, hn'⟩ := hh
    cases hF
    refine ⟨rfl, ?_⟩
    have hz := show_cat (k := k) (s := s) (k' := k') (s' := s') hn hn'
    have hl := append_size (showB k n s) (showB k' n' s')
    unfold textW
    rw [hl]
    by_cases g : (showB k n s).size + (showB k' n' s').size ≤ 200
    · have g' : ¬ (200 : Int) < ((showB k n s).size + (showB k' n' s').size : Nat) := by omega
      simp (decide := true) (maxDischargeDepth := 200) only [go_sem, FShow, FFault, hn, hn', hz, g, g', Tryd.results45]
    · have g' : (200 : Int) < ((showB k n s).size + (showB k' n' s').size : Nat) := by omega
      simp (decide := true) (maxDischargeDepth := 200) only [go_sem, FShow, FFault, hn, hn', hz, g, g', Tryd.results45]
  · cases hF

end Go.Proofs.YtakcoalbidjahaaDoor

/- Two values by any sign: package arith and the reference, as functions of plain data. -/
namespace Go.Proofs.YtakcoalbidjahaaDoor
open Go Go.RowKit
set_option linter.unusedSimpArgs false
end Go.Proofs.YtakcoalbidjahaaDoor

/- Two values by any sign, second part: package arith, as a function of plain data. -/
namespace Go.Proofs.YtakcoalbidjahaaDoor
open Go Go.RowKit
set_option linter.unusedSimpArgs false
set_option maxHeartbeats 4000000 in
set_option maxRecDepth 100000 in
theorem pair_fun : FunV 28 FPair := by
  refine fun_of_run (E := envOf [(42, FRight), (43, FFault), (44, FReckonA), (45, FJoin), (46, FTruth), (40, FCompare)]) (k := 3) (envOK_of _ ⟨right_fun, fault_fun, reckon_fun, join_fun, truth_fun, compare_fun, trivial⟩) (by kernel_rfl) Tryd.func28 rfl (fun a w => Tryd.call28 a w) Tryd.ntmps28 (by kernel_rfl) (by decide) (by decide) ?_
  intro us r hF hdat
  unfold FPair at hF
  split at hF
  case h_2 => cases hF
  rename_i op k n s k' n' s'
  split at hF
  · rename_i hh
    obtain ⟨hn, hn'⟩ := hh
    cases hF
    refine ⟨rfl, ?_⟩
    cases h : rightB k n s
    · simp (decide := true) (maxDischargeDepth := 200) only [go_sem, FRight, FFault, FReckonA, FJoin, FTruth, FCompare, pairW, boolW, h, Tryd.results28]
    cases h' : rightB k' n' s'
    · simp (decide := true) (maxDischargeDepth := 200) only [go_sem, FRight, FFault, FReckonA, FJoin, FTruth, FCompare, pairW, boolW, h, h', Tryd.results28]
    by_cases h3 : k = 4
    · subst h3
      simp (decide := true) (maxDischargeDepth := 200) only [go_sem, FRight, FFault, FReckonA, FJoin, FTruth, FCompare, pairW, boolW, h, h', Tryd.results28]
    by_cases h4 : k' = 4
    · subst h4
      simp (decide := true) (maxDischargeDepth := 200) only [go_sem, FRight, FFault, FReckonA, FJoin, FTruth, FCompare, pairW, boolW, h, h', h3, Tryd.results28]
    simp (decide := true) (maxDischargeDepth := 200) only [go_sem, FRight, FFault, FReckonA, FJoin, FTruth, FCompare, h, h', h3, h4, hn, hn', Tryd.results28]
    repeat' (first | (refine condK_open (fun o => ?_) (fun o => ?_) <;> simp only [decide_eq_true_eq, decide_eq_false_iff_not] at o) | contradiction | simp (decide := true) (maxDischargeDepth := 200) only [go_sem, FRight, FFault, FReckonA, FJoin, FTruth, FCompare, Tryd.results28, pairW, boolW, h, h', h3, h4, *])
  · cases hF

set_option maxRecDepth 100000 in
theorem minus_fun : FunV 54 FMinus := by
  refine fun_of_run (E := envOf [(71, FNumber), (28, FPair)]) (k := 1) (envOK_of _ ⟨number_fun, pair_fun, trivial⟩) (by kernel_rfl) Tryd.func54 rfl (fun a w => Tryd.call54 a w) Tryd.ntmps54 (by kernel_rfl) (by decide) (by decide) ?_
  intro us r hF hdat
  unfold FMinus at hF
  split at hF
  case h_2 => cases hF
  rename_i k n s
  split at hF
  · rename_i hn
    cases hF
    refine ⟨rfl, ?_⟩
    have h0 : inR 0 := by decide
    simp (decide := true) (maxDischargeDepth := 200) only [go_sem, FNumber, FPair, hn, h0, Tryd.results54]
  · cases hF

end Go.Proofs.YtakcoalbidjahaaDoor

/- Two values by any sign, third part: the reference, as a function of plain data. -/
namespace Go.Proofs.YtakcoalbidjahaaDoor
open Go Go.RowKit
set_option linter.unusedSimpArgs false
end Go.Proofs.YtakcoalbidjahaaDoor
