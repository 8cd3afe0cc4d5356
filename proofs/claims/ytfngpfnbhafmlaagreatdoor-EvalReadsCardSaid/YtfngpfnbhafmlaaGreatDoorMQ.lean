/- Contracts of package value and of the reference's values, as functions of plain data. -/
import Derived.Test.YtfngpfnbhafmlaaGreatDoorMPO
import Derived.Test.YtfngpfnbhafmlaaGreatDoorMV
import Derived.Test.YtfngpfnbhafmlaaGreatDoorArithP
import Derived.Lib.ItoaLen
namespace Go.Proofs.YtfngpfnbhafmlaaGreatDoor
open Go Go.RowKit
def FRight : List V → Option V
 | [.agg [.x (.int .i64 k), .x (.int .i64 n), .x (.string s)]] => some (.x (.bool (rightB k n s)))
 | _ => none
theorem valr_fun : FunV 43 FRight := by
 refine ⟨fun a w => Tryz.call43 a w, fun m w vs us r hF hd hr hj hg => ?_⟩
 unfold FRight at hF
 split at hF
 · rename_i k n s
   cases hF
   obtain rfl := args_eq (xs := [.agg #[.int .i64 k, .int .i64 n, .string s]]) hr rfl
   refine (right_any k n s w).mono ?_
   rintro e w' ⟨rfl, hb⟩
   exact ⟨_, m, rfl, .x _, hb, fun _ _ => rfl⟩
 · cases hF
theorem rvalr_fun : FunV 12 FRight := by
 refine ⟨fun a w => Tryz.call12 a w, fun m w vs us r hF hd hr hj hg => ?_⟩
 unfold FRight at hF
 split at hF
 · rename_i k n s
   cases hF
   obtain rfl := args_eq (xs := [.agg #[.int .i64 k, .int .i64 n, .string s]]) hr rfl
   refine (rrightv_any k n s w).mono ?_
   rintro e w' ⟨rfl, hb⟩
   exact ⟨_, m, rfl, .x _, hb, fun _ _ => rfl⟩
 · cases hF
end Go.Proofs.YtfngpfnbhafmlaaGreatDoor
namespace Go.Proofs.YtfngpfnbhafmlaaGreatDoor
open Go Go.RowKit
set_option linter.unusedSimpArgs false
theorem some_tup {a a' : Int} {b b' : Bool} (h : a = a') (k : b = b') : some (V.tup [.x (.int .i64 a), .x (.bool b)]) = some (V.tup [.x (.int .i64 a'), .x (.bool b')]) := by rw [h, k]
theorem add_ok {a b : Int} (ha : inR a) (hb : inR b) : (decide (a < wrap64 (a + b)) == decide (0 < b)) = decide (inR (a + b)) := by
 rw [Bool.eq_iff_iff]
 simp only [beq_iff_eq, decide_eq_true_eq, decide_eq_decide]
 unfold wrap64
 unfold inR at *
 omega
theorem sub_ok {a b : Int} (ha : inR a) (hb : inR b) : (decide (wrap64 (a - b) < a) == decide (0 < b)) = decide (inR (a - b)) := by
 rw [Bool.eq_iff_iff]
 simp only [beq_iff_eq, decide_eq_true_eq, decide_eq_decide]
 unfold wrap64
 unfold inR at *
 omega
def fitV (x : Int) : T3 := if inR x then (1, x, ⟨#[]⟩) else (4, 1, ⟨#[]⟩)
def FAdd : List V → Option V
 | [.x (.int .i64 a), .x (.int .i64 b)] => if inR a ∧ inR b then some (.tup [.x (.int .i64 (wrap64 (a + b))), .x (.bool (decide (inR (a + b))))]) else none
 | _ => none
def FSub : List V → Option V
 | [.x (.int .i64 a), .x (.int .i64 b)] => if inR a ∧ inR b then some (.tup [.x (.int .i64 (wrap64 (a - b))), .x (.bool (decide (inR (a - b))))]) else none
 | _ => none
def FMul : List V → Option V
 | [.x (.int .i64 a), .x (.int .i64 b)] => if inR a ∧ inR b then some (.tup [.x (.int .i64 (wrap64 (a * b))), .x (.bool (decide (inR (a * b))))]) else none
 | _ => none
def FDiv : List V → Option V
 | [.x (.int .i64 a), .x (.int .i64 b)] => if inR a ∧ inR b ∧ b ≠ 0 then some (.tup [.x (.int .i64 (wrap64 (a.tdiv b))), .x (.bool (decide (inR (a.tdiv b))))]) else none
 | _ => none
def FFault : List V → Option V
 | [.x (.int .i64 n)] => some (vl 4 n ⟨#[]⟩)
 | _ => none
def FNumber : List V → Option V
 | [.x (.int .i64 n)] => some (vl 1 n ⟨#[]⟩)
 | _ => none
def FTruth : List V → Option V
 | [.x (.bool b)] => some (vl 3 (if b then 1 else 0) ⟨#[]⟩)
 | _ => none
def FWithin : List V → Option V
 | [.x (.int .i64 n), .x (.bool b)] => some (if b then vl 1 n ⟨#[]⟩ else vl 4 1 ⟨#[]⟩)
 | _ => none
set_option maxRecDepth 100000 in
theorem add_fun : FunV 88 FAdd := by
 refine fun_of_run (E := envOf []) (k := 2) (envOK_of _ trivial) (by kernel_rfl) Tryz.func88 rfl (fun a w => Tryz.call88 a w) Tryz.ntmps88 (by kernel_rfl) (by decide) (by decide) ?_
 intro us r hF hdat
 unfold FAdd at hF
 split at hF
 case h_2 => cases hF
 rename_i a b
 split at hF
 · rename_i h
   obtain ⟨ha, hb⟩ := h
   cases hF
   refine ⟨rfl, ?_⟩
   simp +decide (maxDischargeDepth := 200) only [go_sem, wrapk, Tryz.results88]
   exact some_tup rfl (add_ok ha hb)
 · cases hF
set_option maxRecDepth 100000 in
theorem sub_fun : FunV 89 FSub := by
 refine fun_of_run (E := envOf []) (k := 2) (envOK_of _ trivial) (by kernel_rfl) Tryz.func89 rfl (fun a w => Tryz.call89 a w) Tryz.ntmps89 (by kernel_rfl) (by decide) (by decide) ?_
 intro us r hF hdat
 unfold FSub at hF
 split at hF
 case h_2 => cases hF
 rename_i a b
 split at hF
 · rename_i h
   obtain ⟨ha, hb⟩ := h
   cases hF
   refine ⟨rfl, ?_⟩
   simp +decide (maxDischargeDepth := 200) only [go_sem, wrapk, Tryz.results89]
   exact some_tup rfl (sub_ok ha hb)
 · cases hF
theorem mul_ok {a b : Int} (ha : inR a) (hb : inR b) (hb0 : ¬ b = 0) (hs : decide (wrap64 (a * b) < 0) = !(decide (a < 0) == decide (b < 0))) :
 decide (wrap64 ((wrap64 (a * b)).tdiv b) = a) = decide (inR (a * b)) := by
 rw [Bool.eq_iff_iff]
 simp only [decide_eq_true_eq]
 by_cases hq : wrap64 (a * b) = -9223372036854775808 ∧ b = -1
 · obtain ⟨h1, rfl⟩ := hq
   rw [h1] at hs ⊢
   rw [quo_out]
   have h2 : a * -1 = -a := by omega
   rw [h2] at h1 ⊢
   have h3 : wrap64 9223372036854775808 = -9223372036854775808 := by simp [wrap64]
   rw [h3]
   unfold wrap64 at h1
   unfold inR at ha ⊢
   by_cases h0 : a < 0
   · simp [h0] at hs
   · clear hs
     constructor
     · intro h; omega
     · rintro ⟨h, h'⟩; omega
 · rw [wrap64_of (quo_in (wrap64_range _) hq)]
   exact mul_test hb hb0
theorem mul_no {a b : Int} (hs : ¬ decide (wrap64 (a * b) < 0) = !(decide (a < 0) == decide (b < 0))) (ha0 : ¬ a = 0) (hb0 : ¬ b = 0) : decide (inR (a * b)) = false := by
 rw [decide_eq_false_iff_not]
 intro h
 apply hs
 rw [wrap64_of h]
 rcases Int.lt_or_gt_of_ne ha0 with h1 | h1 <;> rcases Int.lt_or_gt_of_ne hb0 with h2 | h2
 · have := Int.mul_pos_of_neg_of_neg h1 h2
   simp [h1, h2]; omega
 · have := Int.mul_neg_of_neg_of_pos h1 h2
   have h3 : ¬ b < 0 := by omega
   simp [h1, h3, this]
 · have := Int.mul_neg_of_pos_of_neg h1 h2
   have h3 : ¬ a < 0 := by omega
   simp [h2, h3, this]
 · have := Int.mul_pos h1 h2
   have h3 : ¬ a < 0 := by omega
   have h4 : ¬ b < 0 := by omega
   simp [h3, h4]; omega
set_option maxRecDepth 100000 in
theorem mul_fun : FunV 90 FMul := by
 refine fun_of_run (E := envOf []) (k := 2) (envOK_of _ trivial) (by kernel_rfl) Tryz.func90 rfl (fun a w => Tryz.call90 a w) Tryz.ntmps90 (by kernel_rfl) (by decide) (by decide) ?_
 intro us r hF hdat
 unfold FMul at hF
 split at hF
 case h_2 => cases hF
 rename_i a b
 split at hF
 · rename_i h
   obtain ⟨ha, hb⟩ := h
   cases hF
   refine ⟨rfl, ?_⟩
   by_cases ha0 : a = 0
   · subst ha0
     simp +decide (maxDischargeDepth := 200) only [go_sem, Tryz.results90]
     exact some_tup (by simp [wrap64]) (by simp [inR])
   · by_cases hb0 : b = 0
     · subst hb0
       simp +decide (maxDischargeDepth := 200) only [go_sem, ha0, Tryz.results90]
       exact some_tup (by simp [wrap64]) (by simp [inR])
     · by_cases hs : decide (wrap64 (a * b) < 0) = !(decide (a < 0) == decide (b < 0))
       · have hq := mul_ok ha hb hb0 hs
         simp +decide (maxDischargeDepth := 200) only [go_sem, ha0, hb0, hs, wrapk, Tryz.results90]
         exact some_tup rfl hq
       · have hq := mul_no hs ha0 hb0
         have hs' : (decide (wrap64 (a * b) < 0) == !(decide (a < 0) == decide (b < 0))) = false := beq_eq_false_iff_ne.2 hs
         simp +decide (maxDischargeDepth := 200) only [go_sem, ha0, hb0, hs', wrapk, Tryz.results90]
         exact some_tup rfl hq.symm
 · cases hF
theorem quo_ok {a b : Int} (ha : inR a) (h0 : b ≠ 0) : (!decide (a = -9223372036854775808) || !decide (b = -1)) = decide (inR (a.tdiv b)) := by
 rw [Bool.eq_iff_iff]
 simp only [Bool.or_eq_true, Bool.not_eq_true', decide_eq_false_iff_not, decide_eq_true_eq]
 constructor
 · intro h
   exact quo_in ha (fun hh => by rcases h with h | h <;> simp_all)
 · intro h
   by_cases h1 : a = -9223372036854775808
   · by_cases h2 : b = -1
     · subst h1 h2; rw [quo_out] at h; unfold inR at h; omega
     · exact .inr h2
   · exact .inl h1
set_option maxRecDepth 100000 in
theorem div_fun : FunV 91 FDiv := by
 refine fun_of_run (E := envOf []) (k := 2) (envOK_of _ trivial) (by kernel_rfl) Tryz.func91 rfl (fun a w => Tryz.call91 a w) Tryz.ntmps91 (by kernel_rfl) (by decide) (by decide) ?_
 intro us r hF hdat
 unfold FDiv at hF
 split at hF
 case h_2 => cases hF
 rename_i a b
 split at hF
 · rename_i h
   obtain ⟨ha, hb, h0⟩ := h
   cases hF
   refine ⟨rfl, ?_⟩
   have hq := quo_ok ha h0
   by_cases h1 : a = -9223372036854775808
   · subst h1
     simp +decide (maxDischargeDepth := 200) only [go_sem, wrapk, h0, Tryz.results91]
     simpa using hq
   · simp +decide (maxDischargeDepth := 200) only [go_sem, wrapk, h0, h1, Tryz.results91]
     simpa [h1] using hq
 · cases hF
set_option maxRecDepth 100000 in
theorem fault_fun : FunV 44 FFault := by
 refine fun_of_run (E := envOf []) (k := 1) (envOK_of _ trivial) (by kernel_rfl) Tryz.func44 rfl (fun a w => Tryz.call44 a w) Tryz.ntmps44 (by kernel_rfl) (by decide) (by decide) ?_
 intro us r hF hdat
 unfold FFault at hF
 split at hF
 case h_2 => cases hF
 rename_i n
 cases hF
 refine ⟨rfl, ?_⟩
 simp +decide (maxDischargeDepth := 200) only [go_sem, Tryz.results44]
set_option maxRecDepth 100000 in
theorem number_fun : FunV 42 FNumber := by
 refine fun_of_run (E := envOf []) (k := 1) (envOK_of _ trivial) (by kernel_rfl) Tryz.func42 rfl (fun a w => Tryz.call42 a w) Tryz.ntmps42 (by kernel_rfl) (by decide) (by decide) ?_
 intro us r hF hdat
 unfold FNumber at hF
 split at hF
 case h_2 => cases hF
 rename_i n
 cases hF
 refine ⟨rfl, ?_⟩
 simp +decide (maxDischargeDepth := 200) only [go_sem, Tryz.results42]
set_option maxRecDepth 100000 in
theorem truth_fun : FunV 47 FTruth := by
 refine fun_of_run (E := envOf []) (k := 1) (envOK_of _ trivial) (by kernel_rfl) Tryz.func47 rfl (fun a w => Tryz.call47 a w) Tryz.ntmps47 (by kernel_rfl) (by decide) (by decide) ?_
 intro us r hF hdat
 unfold FTruth at hF
 split at hF
 case h_2 => cases hF
 rename_i b
 cases hF
 refine ⟨rfl, ?_⟩
 cases b
 · simp +decide (maxDischargeDepth := 200) only [go_sem, Tryz.results47]
 · simp +decide (maxDischargeDepth := 200) only [go_sem, Tryz.results47]
set_option maxRecDepth 100000 in
theorem withinV_fun : FunV 87 FWithin := by
 refine fun_of_run (E := envOf [(44, FFault), (42, FNumber)]) (k := 2) (envOK_of _ ⟨fault_fun, number_fun, trivial⟩) (by kernel_rfl) Tryz.func87 rfl (fun a w => Tryz.call87 a w) Tryz.ntmps87 (by kernel_rfl) (by decide) (by decide) ?_
 intro us r hF hdat
 unfold FWithin at hF
 split at hF
 case h_2 => cases hF
 rename_i n b
 cases hF
 refine ⟨rfl, ?_⟩
 cases b
 · simp +decide (maxDischargeDepth := 200) only [go_sem, FFault, Tryz.results87]
 · simp +decide (maxDischargeDepth := 200) only [go_sem, FNumber, Tryz.results87]
end Go.Proofs.YtfngpfnbhafmlaaGreatDoor
namespace Go.Proofs.YtfngpfnbhafmlaaGreatDoor
open Go Go.RowKit
set_option linter.unusedSimpArgs false
def FCompare : List V → Option V
 | [.agg [.x (.int .i64 k), .x (.int .i64 n), .x (.string s)], .agg [.x (.int .i64 k'), .x (.int .i64 n'), .x (.string s')]] => some (.x (.int .i64 (cmpV k n s k' n' s')))
 | _ => none
def FShowV : List V → Option V
 | [.agg [.x (.int .i64 k), .x (.int .i64 n), .x (.string s)]] => if inR n then some (.x (.string (showB k n s))) else none
 | _ => none
theorem compare_fun : FunV 48 FCompare := by
 refine ⟨fun a w => Tryz.call48 a w, fun m w vs us r hF hd hr hj hg => ?_⟩
 unfold FCompare at hF
 split at hF
 · rename_i k n s k' n' s'
   cases hF
   obtain rfl := args_eq (xs := [.agg #[.int .i64 k, .int .i64 n, .string s], .agg #[.int .i64 k', .int .i64 n', .string s']]) hr rfl
   refine (compare_any k n s k' n' s' w).mono ?_
   rintro e w' ⟨rfl, hb⟩
   exact ⟨_, m, rfl, .x _, hb, fun _ _ => rfl⟩
 · cases hF
theorem showV_fun : FunV 92 FShowV := by
 refine ⟨fun a w => Tryz.call92 a w, fun m w vs us r hF hd hr hj hg => ?_⟩
 unfold FShowV at hF
 split at hF
 · rename_i k n s
   split at hF
   · rename_i h
     cases hF
     obtain rfl := args_eq (xs := [.agg #[.int .i64 k, .int .i64 n, .string s]]) hr rfl
     refine (show_any k n s w hj h.1 h.2).mono ?_
     rintro e w' ⟨rfl, hb⟩
     exact ⟨_, m, rfl, .x _, hb, fun _ _ => rfl⟩
   · cases hF
 · cases hF
def numW (k n : Int) (s : ByteArray) : V :=
 if rightB k n s = false then .tup [.x (.int .i64 0), vl 4 3 ⟨#[]⟩, .x (.bool false)]
 else if k = 0 ∨ k = 1 then .tup [.x (.int .i64 n), vl 0 0 ⟨#[]⟩, .x (.bool true)]
 else if k = 4 then .tup [.x (.int .i64 0), vl k n s, .x (.bool false)]
 else .tup [.x (.int .i64 0), vl 4 3 ⟨#[]⟩, .x (.bool false)]
def FNum : List V → Option V
 | [.agg [.x (.int .i64 k), .x (.int .i64 n), .x (.string s)]] => some (numW k n s)
 | _ => none
theorem right_kind {k n : Int} {s : ByteArray} (h : rightB k n s = true) : k = 0 ∨ k = 1 ∨ k = 2 ∨ k = 3 ∨ k = 4 := by
 rcases right_cases h with ⟨rfl, _⟩ | rfl | ⟨rfl, _⟩ | ⟨rfl, _⟩ | ⟨rfl, _⟩ <;> simp
set_option maxRecDepth 100000 in
theorem num_fun : FunV 86 FNum := by
 refine fun_of_run (E := envOf [(43, FRight), (44, FFault)]) (k := 1) (envOK_of _ ⟨valr_fun, fault_fun, trivial⟩) (by kernel_rfl) Tryz.func86 rfl (fun a w => Tryz.call86 a w) Tryz.ntmps86 (by kernel_rfl) (by decide) (by decide) ?_
 intro us r hF hdat
 unfold FNum at hF
 split at hF
 case h_2 => cases hF
 rename_i k n s
 cases hF
 refine ⟨rfl, ?_⟩
 unfold numW
 cases h : rightB k n s
 · simp +decide (maxDischargeDepth := 200) only [go_sem, FRight, FFault, h, Tryz.results86]
 · rcases right_kind h with rfl | rfl | rfl | rfl | rfl
   all_goals simp +decide (maxDischargeDepth := 200) only [go_sem, FRight, FFault, h, Tryz.results86]
end Go.Proofs.YtfngpfnbhafmlaaGreatDoor
namespace Go.Proofs.YtfngpfnbhafmlaaGreatDoor
open Go Go.RowKit
set_option linter.unusedSimpArgs false
theorem numW_no {k n : Int} {s : ByteArray} (h : rightB k n s = true) (hk : k = 2 ∨ k = 3) : numW k n s = .tup [.x (.int .i64 0), vl 4 3 ⟨#[]⟩, .x (.bool false)] := by
 unfold numW
 rw [if_neg (by simp [h]), if_neg (by omega), if_neg (by omega)]
theorem numW_yes {k n : Int} {s : ByteArray} (h : rightB k n s = true) (hk : k = 0 ∨ k = 1) : numW k n s = .tup [.x (.int .i64 n), vl 0 0 ⟨#[]⟩, .x (.bool true)] := by
 unfold numW
 rw [if_neg (by simp [h]), if_pos hk]
def reckonW (op : ByteArray) (a b : Int) : T3 :=
 if op = ⟨#[43]⟩ then fitV (a + b) else if op = ⟨#[45]⟩ then fitV (a - b) else if op = ⟨#[42]⟩ then fitV (a * b) else if b = 0 then (4, 2, ⟨#[]⟩) else fitV (a.tdiv b)
def textW (s : ByteArray) : T3 := if s.size ≤ 200 then (2, 0, s) else (4, 1, ⟨#[]⟩)
def boolW (b : Bool) : T3 := (3, (if b then 1 else 0), ⟨#[]⟩)
def pairW (op : ByteArray) (k n : Int) (s : ByteArray) (k' n' : Int) (s' : ByteArray) : T3 :=
 if rightB k n s = false ∨ rightB k' n' s' = false then (4, 3, ⟨#[]⟩)
 else if k = 4 then (k, n, s)
 else if k' = 4 then (k', n', s')
 else if op = ⟨#[43]⟩ ∨ op = ⟨#[45]⟩ ∨ op = ⟨#[42]⟩ ∨ op = ⟨#[47]⟩ then (if k = 2 ∨ k = 3 ∨ k' = 2 ∨ k' = 3 then (4, 3, ⟨#[]⟩) else reckonW op n n')
 else if op = ⟨#[38]⟩ then textW (showB k n s ++ showB k' n' s')
 else if op = ⟨#[61]⟩ then boolW (decide (cmpV k n s k' n' s' = 0))
 else if op = ⟨#[60, 62]⟩ then boolW (!decide (cmpV k n s k' n' s' = 0))
 else if op = ⟨#[60]⟩ then boolW (decide (cmpV k n s k' n' s' < 0))
 else if op = ⟨#[62]⟩ then boolW (decide (0 < cmpV k n s k' n' s'))
 else if op = ⟨#[60, 61]⟩ then boolW (decide (cmpV k n s k' n' s' ≤ 0))
 else if op = ⟨#[62, 61]⟩ then boolW (decide (0 ≤ cmpV k n s k' n' s'))
 else (4, 5, ⟨#[]⟩)
def FReckonA : List V → Option V
 | [.x (.string op), .agg [.x (.int .i64 k), .x (.int .i64 n), .x (.string s)], .agg [.x (.int .i64 k'), .x (.int .i64 n'), .x (.string s')]] =>
   if rightB k n s = true ∧ rightB k' n' s' = true ∧ ¬ k = 4 ∧ ¬ k' = 4 ∧ inR n ∧ inR n' then some (tv (if k = 2 ∨ k = 3 ∨ k' = 2 ∨ k' = 3 then (4, 3, ⟨#[]⟩) else reckonW op n n')) else none
 | _ => none
def FJoin : List V → Option V
 | [.agg [.x (.int .i64 k), .x (.int .i64 n), .x (.string s)], .agg [.x (.int .i64 k'), .x (.int .i64 n'), .x (.string s')]] => if inR n ∧ inR n' then some (tv (textW (showB k n s ++ showB k' n' s'))) else none
 | _ => none
def FPair : List V → Option V
 | [.x (.string op), .agg [.x (.int .i64 k), .x (.int .i64 n), .x (.string s)], .agg [.x (.int .i64 k'), .x (.int .i64 n'), .x (.string s')]] => if inR n ∧ inR n' then some (tv (pairW op k n s k' n' s')) else none
 | _ => none
def FMinus : List V → Option V
 | [.agg [.x (.int .i64 k), .x (.int .i64 n), .x (.string s)]] => if inR n then some (tv (pairW ⟨#[45]⟩ 1 0 ⟨#[]⟩ k n s)) else none
 | _ => none
theorem showB_size {k n : Int} {s : ByteArray} (hn : inR n) : (showB k n s).size ≤ 200 := by
 unfold showB
 split
 · rename_i h
   rcases right_cases h with ⟨rfl, _⟩ | rfl | ⟨rfl, _, hl⟩ | ⟨rfl, hn'⟩ | ⟨rfl, hn'⟩
   · exact Nat.zero_le _
   · have := Lib.itoa_length_le n hn.1 hn.2
     simp [ByteArray.size]; omega
   · simpa using hl
   · simp only [show ¬ (3 : Int) = 1 by decide, show ¬ (3 : Int) = 2 by decide, if_false, if_true]
     split <;> decide
   · simp only [show ¬ (4 : Int) = 1 by decide, show ¬ (4 : Int) = 2 by decide, show ¬ (4 : Int) = 3 by decide, if_false, if_true]
     rcases (show n = 1 ∨ n = 2 ∨ n = 3 ∨ n = 4 ∨ n = 5 ∨ n = 6 ∨ n = 7 from by omega) with rfl | rfl | rfl | rfl | rfl | rfl | rfl <;> decide
 · exact Nat.zero_le _
theorem i64_max : IntKind.i64.max = 9223372036854775807 := by decide
theorem show_adds {k n : Int} {s : ByteArray} {k' n' : Int} {s' : ByteArray} (hn : inR n) (hn' : inR n') : ¬ IntKind.i64.max < (((showB k n s).size + (showB k' n' s').size : Nat) : Int) := by
 have h1 := showB_size (k := k) (s := s) hn
 have h2 := showB_size (k := k') (s := s') hn'
 rw [i64_max]
 omega
theorem show_cat {k n : Int} {s : ByteArray} {k' n' : Int} {s' : ByteArray} (hn : inR n) (hn' : inR n') : catV (showB k n s) (showB k' n' s') = some (.str (showB k n s ++ showB k' n' s')) := catV_ok (by
 have h := show_adds (k := k) (s := s) (k' := k') (s' := s') hn hn'
 rw [i64_max] at h
 omega)
theorem append_size (a b : ByteArray) : (a ++ b).size = a.size + b.size := ByteArray.size_append
set_option maxHeartbeats 2000000 in
set_option maxRecDepth 100000 in
theorem reckon_fun : FunV 45 FReckonA := by
 refine fun_of_run (E := envOf [(86, FNum), (88, FAdd), (89, FSub), (90, FMul), (91, FDiv), (87, FWithin), (44, FFault)]) (k := 3) (envOK_of _ ⟨num_fun, add_fun, sub_fun, mul_fun, div_fun, withinV_fun, fault_fun, trivial⟩) (by kernel_rfl) Tryz.func45 rfl (fun a w => Tryz.call45 a w) Tryz.ntmps45 (by kernel_rfl) (by decide) (by decide) ?_
 intro us r hF hdat
 unfold FReckonA at hF
 split at hF
 case h_2 => cases hF
 rename_i op k n s k' n' s'
 split at hF
 · rename_i hh
   obtain ⟨h, h', h3, h4, hn, hn'⟩ := hh
   cases hF
   refine ⟨rfl, ?_⟩
   by_cases p : k = 2 ∨ k = 3
   · have e := numW_no h p
     have q : k = 2 ∨ k = 3 ∨ k' = 2 ∨ k' = 3 := by omega
     rw [if_pos q]
     simp +decide (maxDischargeDepth := 200) only [go_sem, FNum, e, Tryz.results45]
   have e := numW_yes h (show k = 0 ∨ k = 1 by have := right_kind h; omega)
   by_cases p' : k' = 2 ∨ k' = 3
   · have e' := numW_no h' p'
     have q : k = 2 ∨ k = 3 ∨ k' = 2 ∨ k' = 3 := by omega
     rw [if_pos q]
     simp +decide (maxDischargeDepth := 200) only [go_sem, FNum, e, e', Tryz.results45]
   have e' := numW_yes h' (show k' = 0 ∨ k' = 1 by have := right_kind h'; omega)
   have q : ¬ (k = 2 ∨ k = 3 ∨ k' = 2 ∨ k' = 3) := by omega
   rw [if_neg q]
   clear p p' q h3 h4 h h'
   by_cases o0 : op = ⟨#[43]⟩
   · subst o0
     by_cases g : inR (n + n')
     · have hw := wrap64_of g
       simp +decide (maxDischargeDepth := 200) only [go_sem, FNum, e, e', FAdd, FSub, FMul, FDiv, FWithin, FFault, reckonW, fitV, hn, hn', g, hw, Tryz.results45]
     · simp +decide (maxDischargeDepth := 200) only [go_sem, FNum, e, e', FAdd, FSub, FMul, FDiv, FWithin, FFault, reckonW, fitV, hn, hn', g, Tryz.results45]
   ·
    by_cases o1 : op = ⟨#[45]⟩
    · subst o1
      by_cases g : inR (n - n')
      · have hw := wrap64_of g
        simp +decide (maxDischargeDepth := 200) only [go_sem, FNum, e, e', FAdd, FSub, FMul, FDiv, FWithin, FFault, reckonW, fitV, hn, hn', g, hw, Tryz.results45]
      · simp +decide (maxDischargeDepth := 200) only [go_sem, FNum, e, e', FAdd, FSub, FMul, FDiv, FWithin, FFault, reckonW, fitV, hn, hn', g, Tryz.results45]
    ·
     by_cases o2 : op = ⟨#[42]⟩
     · subst o2
       by_cases g : inR (n * n')
       · have hw := wrap64_of g
         simp +decide (maxDischargeDepth := 200) only [go_sem, FNum, e, e', FAdd, FSub, FMul, FDiv, FWithin, FFault, reckonW, fitV, hn, hn', g, hw, Tryz.results45]
       · simp +decide (maxDischargeDepth := 200) only [go_sem, FNum, e, e', FAdd, FSub, FMul, FDiv, FWithin, FFault, reckonW, fitV, hn, hn', g, Tryz.results45]
     ·
      by_cases b0 : n' = 0
      · subst b0
        simp +decide (maxDischargeDepth := 200) only [go_sem, FNum, e, e', FFault, reckonW, o0, o1, o2, Tryz.results45]
      · by_cases g : inR (n.tdiv n')
        · have hw := wrap64_of g
          simp +decide (maxDischargeDepth := 200) only [go_sem, FNum, e, e', FAdd, FSub, FMul, FDiv, FWithin, FFault, reckonW, fitV, hn, hn', b0, g, hw, o0, o1, o2, Tryz.results45]
        · simp +decide (maxDischargeDepth := 200) only [go_sem, FNum, e, e', FAdd, FSub, FMul, FDiv, FWithin, FFault, reckonW, fitV, hn, hn', b0, g, o0, o1, o2, Tryz.results45]
 · cases hF
set_option maxRecDepth 100000 in
theorem join_fun : FunV 46 FJoin := by
 refine fun_of_run (E := envOf [(92, FShowV), (44, FFault)]) (k := 2) (envOK_of _ ⟨showV_fun, fault_fun, trivial⟩) (by kernel_rfl) Tryz.func46 rfl (fun a w => Tryz.call46 a w) Tryz.ntmps46 (by kernel_rfl) (by decide) (by decide) ?_
 intro us r hF hdat
 unfold FJoin at hF
 split at hF
 case h_2 => cases hF
 rename_i k n s k' n' s'
 split at hF
 · rename_i hh
   obtain ⟨hn, hn'⟩ := hh
   cases hF
   refine ⟨rfl, ?_⟩
   have hz := show_cat (k := k) (s := s) (k' := k') (s' := s') hn hn'
   have hl := append_size (showB k n s) (showB k' n' s')
   unfold textW
   rw [hl]
   by_cases g : (showB k n s).size + (showB k' n' s').size ≤ 200
   · have g' : ¬ (200 : Int) < ((showB k n s).size + (showB k' n' s').size : Nat) := by omega
     simp +decide (maxDischargeDepth := 200) only [go_sem, FShowV, FFault, hn, hn', hz, g, g', Tryz.results46]
   · have g' : (200 : Int) < ((showB k n s).size + (showB k' n' s').size : Nat) := by omega
     simp +decide (maxDischargeDepth := 200) only [go_sem, FShowV, FFault, hn, hn', hz, g, g', Tryz.results46]
 · cases hF
end Go.Proofs.YtfngpfnbhafmlaaGreatDoor
namespace Go.Proofs.YtfngpfnbhafmlaaGreatDoor
open Go Go.RowKit
set_option linter.unusedSimpArgs false
end Go.Proofs.YtfngpfnbhafmlaaGreatDoor
namespace Go.Proofs.YtfngpfnbhafmlaaGreatDoor
open Go Go.RowKit
set_option linter.unusedSimpArgs false
set_option maxHeartbeats 4000000 in
set_option maxRecDepth 100000 in
theorem pair_fun : FunV 27 FPair := by
 refine fun_of_run (E := envOf [(43, FRight), (44, FFault), (45, FReckonA), (46, FJoin), (47, FTruth), (48, FCompare)]) (k := 3) (envOK_of _ ⟨valr_fun, fault_fun, reckon_fun, join_fun, truth_fun, compare_fun, trivial⟩) (by kernel_rfl) Tryz.func27 rfl (fun a w => Tryz.call27 a w) Tryz.ntmps27 (by kernel_rfl) (by decide) (by decide) ?_
 intro us r hF hdat
 unfold FPair at hF
 split at hF
 case h_2 => cases hF
 rename_i op k n s k' n' s'
 split at hF
 · rename_i hh
   obtain ⟨hn, hn'⟩ := hh
   cases hF
   refine ⟨rfl, ?_⟩
   cases h : rightB k n s
   · simp +decide (maxDischargeDepth := 200) only [go_sem, FRight, FFault, FReckonA, FJoin, FTruth, FCompare, pairW, boolW, h, Tryz.results27]
   cases h' : rightB k' n' s'
   · simp +decide (maxDischargeDepth := 200) only [go_sem, FRight, FFault, FReckonA, FJoin, FTruth, FCompare, pairW, boolW, h, h', Tryz.results27]
   by_cases h3 : k = 4
   · subst h3
     simp +decide (maxDischargeDepth := 200) only [go_sem, FRight, FFault, FReckonA, FJoin, FTruth, FCompare, pairW, boolW, h, h', Tryz.results27]
   by_cases h4 : k' = 4
   · subst h4
     simp +decide (maxDischargeDepth := 200) only [go_sem, FRight, FFault, FReckonA, FJoin, FTruth, FCompare, pairW, boolW, h, h', h3, Tryz.results27]
   simp +decide (maxDischargeDepth := 200) only [go_sem, FRight, FFault, FReckonA, FJoin, FTruth, FCompare, h, h', h3, h4, hn, hn', Tryz.results27]
   repeat' (first | (refine condK_open (fun o => ?_) (fun o => ?_) <;> simp only [decide_eq_true_eq, decide_eq_false_iff_not] at o) | contradiction | simp +decide (maxDischargeDepth := 200) only [go_sem, FRight, FFault, FReckonA, FJoin, FTruth, FCompare, Tryz.results27, pairW, boolW, h, h', h3, h4, *])
 · cases hF
set_option maxRecDepth 100000 in
theorem minus_fun : FunV 26 FMinus := by
 refine fun_of_run (E := envOf [(42, FNumber), (27, FPair)]) (k := 1) (envOK_of _ ⟨number_fun, pair_fun, trivial⟩) (by kernel_rfl) Tryz.func26 rfl (fun a w => Tryz.call26 a w) Tryz.ntmps26 (by kernel_rfl) (by decide) (by decide) ?_
 intro us r hF hdat
 unfold FMinus at hF
 split at hF
 case h_2 => cases hF
 rename_i k n s
 split at hF
 · rename_i hn
   cases hF
   refine ⟨rfl, ?_⟩
   have h0 : inR 0 := by decide
   simp +decide (maxDischargeDepth := 200) only [go_sem, FNumber, FPair, hn, h0, Tryz.results26]
 · cases hF
end Go.Proofs.YtfngpfnbhafmlaaGreatDoor
namespace Go.Proofs.YtfngpfnbhafmlaaGreatDoor
open Go Go.RowKit
set_option linter.unusedSimpArgs false
end Go.Proofs.YtfngpfnbhafmlaaGreatDoor
