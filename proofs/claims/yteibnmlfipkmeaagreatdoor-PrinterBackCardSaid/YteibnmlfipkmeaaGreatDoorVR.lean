/- Which values may be: package value and the reference, as functions of plain data. -/
import Derived.Test.YteibnmlfipkmeaaGreatDoorMPO
namespace Go.Proofs.YteibnmlfipkmeaaGreatDoor
open Go Go.RowKit
set_option linter.unusedSimpArgs false
/-- Which values may be. -/
def rightV (k n : Int) (s : ByteArray) : Bool :=
  bif decide (k = 0) then decide (n = 0) && decide (s = ⟨#[]⟩) else bif decide (k = 1) then decide (s = ⟨#[]⟩) else bif decide (k = 2) then decide (n = 0) && decide ((s.size : Int) ≤ 200) else
    bif decide (k = 3) then (decide (n = 0) || decide (n = 1)) && decide (s = ⟨#[]⟩) else bif decide (k = 4) then decide (1 ≤ n) && (decide (n ≤ 7) && decide (s = ⟨#[]⟩)) else false
def FRightV : List V → Option V
  | [.agg [.x (.int .i64 k), .x (.int .i64 n), .x (.string s)]] => some (.x (.bool (rightV k n s)))
  | _ => none
set_option maxHeartbeats 2000000 in
set_option maxRecDepth 100000 in
theorem vright_fun : FunV 84 FRightV := by
  refine fun_of_run (E := envOf []) (k := 1) (envOK_of _ trivial) (by kernel_rfl) Tryz.func84 rfl (fun a w => Tryz.call84 a w) Tryz.ntmps84 (by kernel_rfl) (by decide) (by decide) ?_
  intro us r hF hdat
  unfold FRightV at hF
  split at hF
  case h_2 => cases hF
  rename_i k n s
  cases hF
  refine ⟨rfl, ?_⟩
  simp (decide := true) (maxDischargeDepth := 200) only [go_sem, Tryz.results84]
  repeat' first
    | simp (decide := true) (maxDischargeDepth := 200) only [go_sem, Tryz.results84, *]
    | refine guardK_openF (fun _ => ?_) (fun _ => ?_)
    | refine guardK_openN (fun _ => ?_) (fun _ => ?_)
    | refine guardK_openT (fun _ => ?_) (fun _ => ?_)
    | refine guardK_open (fun _ => ?_) (fun _ => ?_)
    | refine condK_openN (fun _ => ?_) (fun _ => ?_)
    | refine condK_open (fun _ => ?_) (fun _ => ?_)
  all_goals simp (decide := true) only [rightV, go_sem, *]

set_option maxHeartbeats 2000000 in
set_option maxRecDepth 100000 in
theorem rvright_fun : FunV 42 FRightV := by
  refine fun_of_run (E := envOf []) (k := 1) (envOK_of _ trivial) (by kernel_rfl) Tryz.func42 rfl (fun a w => Tryz.call42 a w) Tryz.ntmps42 (by kernel_rfl) (by decide) (by decide) ?_
  intro us r hF hdat
  unfold FRightV at hF
  split at hF
  case h_2 => cases hF
  rename_i k n s
  cases hF
  refine ⟨rfl, ?_⟩
  simp (decide := true) (maxDischargeDepth := 200) only [go_sem, Tryz.results42]
  repeat' first
    | simp (decide := true) (maxDischargeDepth := 200) only [go_sem, Tryz.results42, *]
    | refine guardK_openF (fun _ => ?_) (fun _ => ?_)
    | refine guardK_openN (fun _ => ?_) (fun _ => ?_)
    | refine guardK_openT (fun _ => ?_) (fun _ => ?_)
    | refine guardK_open (fun _ => ?_) (fun _ => ?_)
    | refine condK_openN (fun _ => ?_) (fun _ => ?_)
    | refine condK_open (fun _ => ?_) (fun _ => ?_)
  all_goals simp (decide := true) only [rightV, go_sem, *]

end Go.Proofs.YteibnmlfipkmeaaGreatDoor
