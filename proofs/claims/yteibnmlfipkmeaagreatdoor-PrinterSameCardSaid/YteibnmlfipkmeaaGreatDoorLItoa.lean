/- strconv.Itoa, as a function of plain data. -/
import Derived.Test.YteibnmlfipkmeaaGreatDoorMPO
import Derived.Test.YteibnmlfipkmeaaGreatDoorShelf
namespace Go.Proofs.YteibnmlfipkmeaaGreatDoor
open Go Go.RowKit
set_option linter.unusedSimpArgs false

def FItoa : List V → Option V
  | [.x (.int .i64 n)] => if inR n then some (.x (.string ⟨(Lib.itoa n).toArray⟩)) else none
  | _ => none
theorem itoa_fun : FunV 64 FItoa := by
  refine ⟨fun a w => Tryz.call64 a w, fun m w vs us r hF hd hr hj hg => ?_⟩
  unfold FItoa at hF
  split at hF
  case h_2 => cases hF
  rename_i n
  split at hF
  · rename_i h
    cases hF
    obtain rfl := args_eq (xs := [.int .i64 n]) hr rfl
    refine (Tryz.strconv_Itoa n h.1 h.2 w hj.pow).mono ?_
    rintro e w' ⟨rfl, k, os, rfl⟩
    exact ⟨_, m, rfl, .x _, Lib.below_grow _ _ (Nat.le_refl _) _ _, fun _ _ => rfl⟩
  · cases hF
end Go.Proofs.YteibnmlfipkmeaaGreatDoor
