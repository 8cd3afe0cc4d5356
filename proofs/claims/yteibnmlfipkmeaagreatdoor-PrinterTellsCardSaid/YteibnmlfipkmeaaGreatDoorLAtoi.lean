/- strconv.Atoi, as a function of plain data. -/
import Derived.Test.YteibnmlfipkmeaaGreatDoorMPO
import Derived.Test.YteibnmlfipkmeaaGreatDoorShelf
namespace Go.Proofs.YteibnmlfipkmeaaGreatDoor
open Go Go.RowKit
set_option linter.unusedSimpArgs false

def FAtoi : List V → Option V
  | [.x (.string s)] => if s.size ≤ 281474976710656 then
      match Lib.atoiAll s.data.toList with
      | .ok v => some (.tup [.x (.int .i64 v), .x .nilIface])
      | .range => some (.tup [.x (.int .i64 (Lib.atoiSat s.data.toList)), .dyn 154])
      | _ => some (.tup [.x (.int .i64 0), .dyn 154])
    else none
  | _ => none
theorem atoi_fun : FunV 156 FAtoi := by
  refine ⟨fun a w => Tryz.call156 a w, fun m w vs us r hF hd hr hj hg => ?_⟩
  unfold FAtoi at hF
  split at hF
  case h_2 => cases hF
  rename_i s
  split at hF
  case isFalse => cases hF
  rename_i hs
  obtain rfl := args_eq (xs := [.string s]) hr rfl
  cases hv : Lib.atoiAll s.data.toList with
  | ok v =>
    rw [hv] at hF
    cases hF
    refine (Tryz.strconv_Atoi_ok s (by omega) v hv w).mono ?_
    rintro e w' ⟨rfl, hw⟩
    refine ⟨_, m, rfl, Rd.tup_iff.2 ⟨_, rfl, .x _, .x _, trivial⟩, ?_, fun _ _ => rfl⟩
    rcases hw with rfl | ⟨t, rfl⟩
    · exact Below.refl _ _
    · exact Lib.bytesWorld_below _ _ _
  | range =>
    rw [hv] at hF
    cases hF
    obtain ⟨tp, p, hvar⟩ := hj.rng
    refine (Tryz.strconv_Atoi_range_var s hs hv tp p w hvar).mono ?_
    rintro e w' ⟨N, rfl, _, _, hb⟩
    exact ⟨_, m, rfl, Rd.tup_iff.2 ⟨_, rfl, .x _, .dyn _ _, trivial⟩, hb, fun _ _ => rfl⟩
  | _ =>
    rw [hv] at hF
    cases hF
    obtain ⟨tp, p, hvar⟩ := hj.syn
    refine (Tryz.strconv_Atoi_syntax_var s hs (fun v h => by rw [hv] at h; cases h) (fun h => by rw [hv] at h; cases h) tp p w hvar).mono ?_
    rintro e w' ⟨N, rfl, _, _, hb⟩
    exact ⟨_, m, rfl, Rd.tup_iff.2 ⟨_, rfl, .x _, .dyn _ _, trivial⟩, hb, fun _ _ => rfl⟩
end Go.Proofs.YteibnmlfipkmeaaGreatDoor
