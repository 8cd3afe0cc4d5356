/- Layer 2's law ArithTells, as a function of plain data. -/
import Derived.Test.YtkkcjhbkdlenpaaDoorPfLA
import Derived.Test.YtkkcjhbkdlenpaaDoorPfS
namespace Go.Proofs.YtkkcjhbkdlenpaaDoor
open Go Go.RowKit
set_option linter.unusedSimpArgs false

def FTells2 : List V → Option V
  | [.x (.string _op), .agg [.x (.int .i64 _k), .x (.int .i64 n), .x (.string _s)], .agg [.x (.int .i64 _k'), .x (.int .i64 n'), .x (.string _s')]] => if inR n ∧ inR n' then some (.x (.bool true)) else none
  | _ => none
def FCompares2 : List V → Option V
  | [.agg [.x (.int .i64 _k), .x (.int .i64 n), .x (.string _s)], .agg [.x (.int .i64 _k'), .x (.int .i64 n'), .x (.string _s')]] => if inR n ∧ inR n' then some (.x (.bool true)) else none
  | _ => none
/-- What a value is as a number, part by part. -/
def nw (k n : Int) (s : ByteArray) : Int × T3 × Bool :=
  if rightB k n s = false then (0, (4, 3, ⟨#[]⟩), false)
  else if k = 0 ∨ k = 1 then (n, (0, 0, ⟨#[]⟩), true)
  else if k = 4 then (0, (k, n, s), false)
  else (0, (4, 3, ⟨#[]⟩), false)
theorem numW_nw (k n : Int) (s : ByteArray) : numW k n s = .tup [.x (.int .i64 (nw k n s).1), tv (nw k n s).2.1, .x (.bool (nw k n s).2.2)] := by
  unfold numW nw
  repeat' split
  all_goals rfl
theorem and_true3 (a b c : Bool) (ha : a = true) (hb : b = true) (hc : c = true) : (a && (b && c)) = true := by rw [ha, hb, hc]; rfl
set_option maxHeartbeats 4000000 in
set_option maxRecDepth 100000 in
theorem tells2_fun : FunV 3 FTells2 := by
  refine fun_of_run (E := envOf [(7, FAlive), (8, FNum), (9, FNum), (10, FPair), (11, FPair), (12, FMinus), (13, FMinus)]) (k := 3) (envOK_of _ ⟨alive_fun, num_fun, rnum_fun, pair_fun, rpair_fun, minus_fun, rminus_fun, trivial⟩) (by kernel_rfl) Tryd.func3 rfl (fun a w => Tryd.call3 a w) Tryd.ntmps3 (by kernel_rfl) (by decide) ?_
  intro us r hF hdat
  unfold FTells2 at hF
  split at hF
  case h_2 => cases hF
  rename_i op k n s k' n' s'
  split at hF
  · rename_i hh
    obtain ⟨hn, hn'⟩ := hh
    cases hF
    refine ⟨rfl, ?_⟩
    cases d1 : decide ((5 : Int) < (op.size : Int))
    case true => simp (decide := true) (maxDischargeDepth := 200) only [go_sem, FAlive, d1, Tryd.results3]
    cases d2 : decide ((300 : Int) < (s.size : Int))
    case true => simp (decide := true) (maxDischargeDepth := 200) only [go_sem, FAlive, d1, d2, Tryd.results3]
    cases d3 : decide ((300 : Int) < (s'.size : Int))
    case true => simp (decide := true) (maxDischargeDepth := 200) only [go_sem, FAlive, d1, d2, d3, Tryd.results3]
    simp (decide := true) (maxDischargeDepth := 200) only [go_sem, FAlive, FNum, FPair, FMinus, numW_nw, hn, hn', d1, d2, d3, Tryd.results3]
  · cases hF

end Go.Proofs.YtkkcjhbkdlenpaaDoor
