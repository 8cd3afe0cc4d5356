/- Package arith and the reference's reckoning: two values by a sign, as functions of plain data. -/
import Derived.Test.YtkkcjhbkdlenpaaDoorPfY
namespace Go.Proofs.YtkkcjhbkdlenpaaDoor
open Go Go.RowKit
set_option linter.unusedSimpArgs false

theorem numW_no {k n : Int} {s : ByteArray} (h : rightB k n s = true) (hk : k = 2 ∨ k = 3) : numW k n s = .tup [.x (.int .i64 0), vl 4 3 ⟨#[]⟩, .x (.bool false)] := by
  unfold numW
  rw [if_neg (by simp [h]), if_neg (by omega), if_neg (by omega)]
theorem numW_yes {k n : Int} {s : ByteArray} (h : rightB k n s = true) (hk : k = 0 ∨ k = 1) : numW k n s = .tup [.x (.int .i64 n), vl 0 0 ⟨#[]⟩, .x (.bool true)] := by
  unfold numW
  rw [if_neg (by simp [h]), if_pos hk]

/-- Two numbers reckoned with. -/
def reckonW (op : ByteArray) (a b : Int) : T3 :=
  if op = ⟨#[43]⟩ then fitV (a + b) else if op = ⟨#[45]⟩ then fitV (a - b) else if op = ⟨#[42]⟩ then fitV (a * b) else if b = 0 then (4, 2, ⟨#[]⟩) else fitV (a.tdiv b)
def textW (s : ByteArray) : T3 := if s.size ≤ 200 then (2, 0, s) else (4, 1, ⟨#[]⟩)
def boolW (b : Bool) : T3 := (3, (if b then 1 else 0), ⟨#[]⟩)
/-- Two values by a sign. -/
def pairW (op : ByteArray) (k n : Int) (s : ByteArray) (k' n' : Int) (s' : ByteArray) : T3 :=
  if rightB k n s = false ∨ rightB k' n' s' = false then (4, 3, ⟨#[]⟩)
  else if k = 4 then (k, n, s)
  else if k' = 4 then (k', n', s')
  else if op = ⟨#[43]⟩ ∨ op = ⟨#[45]⟩ ∨ op = ⟨#[42]⟩ ∨ op = ⟨#[47]⟩ then (if k = 2 ∨ k = 3 ∨ k' = 2 ∨ k' = 3 then (4, 3, ⟨#[]⟩) else reckonW op n n')
  else if op = ⟨#[38]⟩ then textW (showB k n s ++ showB k' n' s')
  else if op = ⟨#[61]⟩ then boolW (decide (cmpV k n s k' n' s' = 0))
  else if op = ⟨#[60, 62]⟩ then boolW (!decide (cmpV k n s k' n' s' = 0))
  else if op = ⟨#[60]⟩ then boolW (decide (cmpV k n s k' n' s' < 0))
  else if op = ⟨#[62]⟩ then boolW (decide (0 < cmpV k n s k' n' s'))
  else if op = ⟨#[60, 61]⟩ then boolW (decide (cmpV k n s k' n' s' ≤ 0))
  else if op = ⟨#[62, 61]⟩ then boolW (decide (0 ≤ cmpV k n s k' n' s'))
  else (4, 5, ⟨#[]⟩)

def FReckonA : List V → Option V
  | [.x (.string op), .agg [.x (.int .i64 k), .x (.int .i64 n), .x (.string s)], .agg [.x (.int .i64 k'), .x (.int .i64 n'), .x (.string s')]] =>
    if rightB k n s = true ∧ rightB k' n' s' = true ∧ ¬ k = 4 ∧ ¬ k' = 4 ∧ inR n ∧ inR n' then some (tv (if k = 2 ∨ k = 3 ∨ k' = 2 ∨ k' = 3 then (4, 3, ⟨#[]⟩) else reckonW op n n')) else none
  | _ => none
def FReckonR : List V → Option V
  | [.x (.string op), .x (.int .i64 a), .x (.int .i64 b)] => if inR a ∧ inR b then some (tv (reckonW op a b)) else none
  | _ => none
def FText : List V → Option V
  | [.x (.string s)] => some (tv (textW s))
  | _ => none
def FJoin : List V → Option V
  | [.agg [.x (.int .i64 k), .x (.int .i64 n), .x (.string s)], .agg [.x (.int .i64 k'), .x (.int .i64 n'), .x (.string s')]] => if inR n ∧ inR n' then some (tv (textW (showB k n s ++ showB k' n' s'))) else none
  | _ => none
def FPair : List V → Option V
  | [.x (.string op), .agg [.x (.int .i64 k), .x (.int .i64 n), .x (.string s)], .agg [.x (.int .i64 k'), .x (.int .i64 n'), .x (.string s')]] => if inR n ∧ inR n' then some (tv (pairW op k n s k' n' s')) else none
  | _ => none
def FMinus : List V → Option V
  | [.agg [.x (.int .i64 k), .x (.int .i64 n), .x (.string s)]] => if inR n then some (tv (pairW ⟨#[45]⟩ 1 0 ⟨#[]⟩ k n s)) else none
  | _ => none

theorem showB_size {k n : Int} {s : ByteArray} (hn : inR n) : (showB k n s).size ≤ 200 := by
  unfold showB
  split
  · rename_i h
    rcases right_cases h with ⟨rfl, _⟩ | rfl | ⟨rfl, _, hl⟩ | ⟨rfl, hn'⟩ | ⟨rfl, hn'⟩
    · exact Nat.zero_le _
    · have := Lib.itoa_length_le n hn.1 hn.2
      simp [ByteArray.size]; omega
    · simpa using hl
    · simp only [show ¬ (3 : Int) = 1 by decide, show ¬ (3 : Int) = 2 by decide, if_false, if_true]
      split <;> decide
    · simp only [show ¬ (4 : Int) = 1 by decide, show ¬ (4 : Int) = 2 by decide, show ¬ (4 : Int) = 3 by decide, if_false, if_true]
      rcases (show n = 1 ∨ n = 2 ∨ n = 3 ∨ n = 4 ∨ n = 5 ∨ n = 6 ∨ n = 7 from by omega) with rfl | rfl | rfl | rfl | rfl | rfl | rfl <;> decide
  · exact Nat.zero_le _
theorem i64_max : IntKind.i64.max = 9223372036854775807 := by decide
theorem show_adds {k n : Int} {s : ByteArray} {k' n' : Int} {s' : ByteArray} (hn : inR n) (hn' : inR n') : ¬ IntKind.i64.max < (((showB k n s).size + (showB k' n' s').size : Nat) : Int) := by
  have h1 := showB_size (k := k) (s := s) hn
  have h2 := showB_size (k := k') (s := s') hn'
  rw [i64_max]
  omega
theorem append_size (a b : ByteArray) : (a ++ b).size = a.size + b.size := ByteArray.size_append

set_option maxHeartbeats 2000000 in
set_option maxRecDepth 100000 in
theorem reckon_fun : FunV 19 FReckonA := by
  refine fun_of_run (E := envOf [(8, FNum), (31, FAdd), (32, FSub), (33, FMul), (34, FDiv), (30, FWithin), (17, FFault)]) (k := 3) (envOK_of _ ⟨num_fun, add_fun, sub_fun, mul_fun, div_fun, within_fun, fault_fun, trivial⟩) (by kernel_rfl) Tryd.func19 rfl (fun a w => Tryd.call19 a w) Tryd.ntmps19 (by kernel_rfl) (by decide) ?_
  intro us r hF hdat
  unfold FReckonA at hF
  split at hF
  case h_2 => cases hF
  rename_i op k n s k' n' s'
  split at hF
  · rename_i hh
    obtain ⟨h, h', h3, h4, hn, hn'⟩ := hh
    cases hF
    refine ⟨rfl, ?_⟩
    by_cases p : k = 2 ∨ k = 3
    · have e := numW_no h p
      have q : k = 2 ∨ k = 3 ∨ k' = 2 ∨ k' = 3 := by omega
      rw [if_pos q]
      simp (decide := true) (maxDischargeDepth := 200) only [go_sem, FNum, e, Tryd.results19]
    have e := numW_yes h (show k = 0 ∨ k = 1 by have := right_kind h; omega)
    by_cases p' : k' = 2 ∨ k' = 3
    · have e' := numW_no h' p'
      have q : k = 2 ∨ k = 3 ∨ k' = 2 ∨ k' = 3 := by omega
      rw [if_pos q]
      simp (decide := true) (maxDischargeDepth := 200) only [go_sem, FNum, e, e', Tryd.results19]
    have e' := numW_yes h' (show k' = 0 ∨ k' = 1 by have := right_kind h'; omega)
    have q : ¬ (k = 2 ∨ k = 3 ∨ k' = 2 ∨ k' = 3) := by omega
    rw [if_neg q]
    clear p p' q h3 h4 h h'
    by_cases o0 : op = ⟨#[43]⟩
    · subst o0
      by_cases g : inR (n + n')
      · have hw := wrap64_of g
        simp (decide := true) (maxDischargeDepth := 200) only [go_sem, FNum, e, e', FAdd, FSub, FMul, FDiv, FWithin, FFault, reckonW, fitV, hn, hn', g, hw, Tryd.results19]
      · simp (decide := true) (maxDischargeDepth := 200) only [go_sem, FNum, e, e', FAdd, FSub, FMul, FDiv, FWithin, FFault, reckonW, fitV, hn, hn', g, Tryd.results19]
    ·
      by_cases o1 : op = ⟨#[45]⟩
      · subst o1
        by_cases g : inR (n - n')
        · have hw := wrap64_of g
          simp (decide := true) (maxDischargeDepth := 200) only [go_sem, FNum, e, e', FAdd, FSub, FMul, FDiv, FWithin, FFault, reckonW, fitV, hn, hn', g, hw, Tryd.results19]
        · simp (decide := true) (maxDischargeDepth := 200) only [go_sem, FNum, e, e', FAdd, FSub, FMul, FDiv, FWithin, FFault, reckonW, fitV, hn, hn', g, Tryd.results19]
      ·
        by_cases o2 : op = ⟨#[42]⟩
        · subst o2
          by_cases g : inR (n * n')
          · have hw := wrap64_of g
            simp (decide := true) (maxDischargeDepth := 200) only [go_sem, FNum, e, e', FAdd, FSub, FMul, FDiv, FWithin, FFault, reckonW, fitV, hn, hn', g, hw, Tryd.results19]
          · simp (decide := true) (maxDischargeDepth := 200) only [go_sem, FNum, e, e', FAdd, FSub, FMul, FDiv, FWithin, FFault, reckonW, fitV, hn, hn', g, Tryd.results19]
        ·
          by_cases b0 : n' = 0
          · subst b0
            simp (decide := true) (maxDischargeDepth := 200) only [go_sem, FNum, e, e', FFault, reckonW, o0, o1, o2, Tryd.results19]
          · by_cases g : inR (n.tdiv n')
            · have hw := wrap64_of g
              simp (decide := true) (maxDischargeDepth := 200) only [go_sem, FNum, e, e', FAdd, FSub, FMul, FDiv, FWithin, FFault, reckonW, fitV, hn, hn', b0, g, hw, o0, o1, o2, Tryd.results19]
            · simp (decide := true) (maxDischargeDepth := 200) only [go_sem, FNum, e, e', FAdd, FSub, FMul, FDiv, FWithin, FFault, reckonW, fitV, hn, hn', b0, g, o0, o1, o2, Tryd.results19]
  · cases hF

set_option maxRecDepth 100000 in
theorem join_fun : FunV 20 FJoin := by
  refine fun_of_run (E := envOf [(35, FShow), (17, FFault)]) (k := 2) (envOK_of _ ⟨show_fun, fault_fun, trivial⟩) (by kernel_rfl) Tryd.func20 rfl (fun a w => Tryd.call20 a w) Tryd.ntmps20 (by kernel_rfl) (by decide) ?_
  intro us r hF hdat
  unfold FJoin at hF
  split at hF
  case h_2 => cases hF
  rename_i k n s k' n' s'
  split at hF
  · rename_i hh
    obtain ⟨hn, hn'⟩ := hh
    cases hF
    refine ⟨rfl, ?_⟩
    have hz := show_adds (k := k) (s := s) (k' := k') (s' := s') hn hn'
    have hl := append_size (showB k n s) (showB k' n' s')
    unfold textW
    rw [hl]
    by_cases g : (showB k n s).size + (showB k' n' s').size ≤ 200
    · have g' : ¬ (200 : Int) < ((showB k n s).size + (showB k' n' s').size : Nat) := by omega
      simp (decide := true) (maxDischargeDepth := 200) only [go_sem, FShow, FFault, hn, hn', hz, g, g', Tryd.results20]
    · have g' : (200 : Int) < ((showB k n s).size + (showB k' n' s').size : Nat) := by omega
      simp (decide := true) (maxDischargeDepth := 200) only [go_sem, FShow, FFault, hn, hn', hz, g, g', Tryd.results20]
  · cases hF

set_option maxRecDepth 100000 in
theorem rtext_fun : FunV 25 FText := by
  refine fun_of_run (E := envOf [(18, FFault)]) (k := 1) (envOK_of _ ⟨rerr_fun, trivial⟩) (by kernel_rfl) Tryd.func25 rfl (fun a w => Tryd.call25 a w) Tryd.ntmps25 (by kernel_rfl) (by decide) ?_
  intro us r hF hdat
  unfold FText at hF
  split at hF
  case h_2 => cases hF
  rename_i s
  cases hF
  refine ⟨rfl, ?_⟩
  unfold textW
  by_cases g : s.size ≤ 200
  · have g' : ¬ (200 : Int) < (s.size : Nat) := by omega
    simp (decide := true) (maxDischargeDepth := 200) only [go_sem, FFault, g, g', Tryd.results25]
  · have g' : (200 : Int) < (s.size : Nat) := by omega
    simp (decide := true) (maxDischargeDepth := 200) only [go_sem, FFault, g, g', Tryd.results25]

end Go.Proofs.YtkkcjhbkdlenpaaDoor
