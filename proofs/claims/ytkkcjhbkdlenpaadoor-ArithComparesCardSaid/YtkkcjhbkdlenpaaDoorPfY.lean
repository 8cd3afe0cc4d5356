/- Package arith and the reference's reckoning: any two values, as functions of plain data. -/
import Derived.Test.YtkkcjhbkdlenpaaDoorPfX
import Derived.Lib.ItoaLen
namespace Go.Proofs.YtkkcjhbkdlenpaaDoor
open Go Go.RowKit
set_option linter.unusedSimpArgs false

def FCompare : List V → Option V
  | [.agg [.x (.int .i64 k), .x (.int .i64 n), .x (.string s)], .agg [.x (.int .i64 k'), .x (.int .i64 n'), .x (.string s')]] => some (.x (.int .i64 (cmpV k n s k' n' s')))
  | _ => none
def FShow : List V → Option V
  | [.agg [.x (.int .i64 k), .x (.int .i64 n), .x (.string s)]] => if inR n then some (.x (.string (showB k n s))) else none
  | _ => none
theorem compare_fun : FunV 22 FCompare := by
  refine ⟨fun a w => Tryd.call22 a w, fun m w vs us r hF hd hr hj hg => ?_⟩
  unfold FCompare at hF
  split at hF
  · rename_i k n s k' n' s'
    cases hF
    obtain rfl := args_eq (xs := [.agg #[.int .i64 k, .int .i64 n, .string s], .agg #[.int .i64 k', .int .i64 n', .string s']]) hr rfl
    refine (compare_any k n s k' n' s' w).mono ?_
    rintro e w' ⟨rfl, hb⟩
    exact ⟨_, m, rfl, .x _, hb, fun _ _ => rfl⟩
  · cases hF
theorem rcompare_fun : FunV 23 FCompare := by
  refine ⟨fun a w => Tryd.call23 a w, fun m w vs us r hF hd hr hj hg => ?_⟩
  unfold FCompare at hF
  split at hF
  · rename_i k n s k' n' s'
    cases hF
    obtain rfl := args_eq (xs := [.agg #[.int .i64 k, .int .i64 n, .string s], .agg #[.int .i64 k', .int .i64 n', .string s']]) hr rfl
    refine (rcompare_any k n s k' n' s' w).mono ?_
    rintro e w' ⟨rfl, hb⟩
    exact ⟨_, m, rfl, .x _, hb, fun _ _ => rfl⟩
  · cases hF
theorem show_fun : FunV 35 FShow := by
  refine ⟨fun a w => Tryd.call35 a w, fun m w vs us r hF hd hr hj hg => ?_⟩
  unfold FShow at hF
  split at hF
  · rename_i k n s
    split at hF
    · rename_i h
      cases hF
      obtain rfl := args_eq (xs := [.agg #[.int .i64 k, .int .i64 n, .string s]]) hr rfl
      refine (show_any k n s w hj h.1 h.2).mono ?_
      rintro e w' ⟨rfl, hb⟩
      exact ⟨_, m, rfl, .x _, hb, fun _ _ => rfl⟩
    · cases hF
  · cases hF
theorem rshow_fun : FunV 26 FShow := by
  refine ⟨fun a w => Tryd.call26 a w, fun m w vs us r hF hd hr hj hg => ?_⟩
  unfold FShow at hF
  split at hF
  · rename_i k n s
    split at hF
    · rename_i h
      cases hF
      obtain rfl := args_eq (xs := [.agg #[.int .i64 k, .int .i64 n, .string s]]) hr rfl
      refine (rshow_any k n s w h.1 h.2).mono ?_
      rintro e w' ⟨rfl, hb⟩
      exact ⟨_, m, rfl, .x _, hb, fun _ _ => rfl⟩
    · cases hF
  · cases hF

/-- What a value is as a number. -/
def numW (k n : Int) (s : ByteArray) : V :=
  if rightB k n s = false then .tup [.x (.int .i64 0), vl 4 3 ⟨#[]⟩, .x (.bool false)]
  else if k = 0 ∨ k = 1 then .tup [.x (.int .i64 n), vl 0 0 ⟨#[]⟩, .x (.bool true)]
  else if k = 4 then .tup [.x (.int .i64 0), vl k n s, .x (.bool false)]
  else .tup [.x (.int .i64 0), vl 4 3 ⟨#[]⟩, .x (.bool false)]
def FNum : List V → Option V
  | [.agg [.x (.int .i64 k), .x (.int .i64 n), .x (.string s)]] => some (numW k n s)
  | _ => none

theorem right_kind {k n : Int} {s : ByteArray} (h : rightB k n s = true) : k = 0 ∨ k = 1 ∨ k = 2 ∨ k = 3 ∨ k = 4 := by
  rcases right_cases h with ⟨rfl, _⟩ | rfl | ⟨rfl, _⟩ | ⟨rfl, _⟩ | ⟨rfl, _⟩ <;> simp

set_option maxRecDepth 100000 in
theorem num_fun : FunV 8 FNum := by
  refine fun_of_run (E := envOf [(16, FRight), (17, FFault)]) (k := 1) (envOK_of _ ⟨right_fun, fault_fun, trivial⟩) (by kernel_rfl) Tryd.func8 rfl (fun a w => Tryd.call8 a w) Tryd.ntmps8 (by kernel_rfl) (by decide) ?_
  intro us r hF hdat
  unfold FNum at hF
  split at hF
  case h_2 => cases hF
  rename_i k n s
  cases hF
  refine ⟨rfl, ?_⟩
  unfold numW
  cases h : rightB k n s
  · simp (decide := true) (maxDischargeDepth := 200) only [go_sem, FRight, FFault, h, Tryd.results8]
  · rcases right_kind h with rfl | rfl | rfl | rfl | rfl
    all_goals simp (decide := true) (maxDischargeDepth := 200) only [go_sem, FRight, FFault, h, Tryd.results8]

set_option maxRecDepth 100000 in
theorem rnum_fun : FunV 9 FNum := by
  refine fun_of_run (E := envOf [(14, FRight), (18, FFault)]) (k := 1) (envOK_of _ ⟨rright_fun, rerr_fun, trivial⟩) (by kernel_rfl) Tryd.func9 rfl (fun a w => Tryd.call9 a w) Tryd.ntmps9 (by kernel_rfl) (by decide) ?_
  intro us r hF hdat
  unfold FNum at hF
  split at hF
  case h_2 => cases hF
  rename_i k n s
  cases hF
  refine ⟨rfl, ?_⟩
  unfold numW
  cases h : rightB k n s
  · simp (decide := true) (maxDischargeDepth := 200) only [go_sem, FRight, FFault, h, Tryd.results9]
  · rcases right_kind h with rfl | rfl | rfl | rfl | rfl
    all_goals simp (decide := true) (maxDischargeDepth := 200) only [go_sem, FRight, FFault, h, Tryd.results9]

end Go.Proofs.YtkkcjhbkdlenpaaDoor
