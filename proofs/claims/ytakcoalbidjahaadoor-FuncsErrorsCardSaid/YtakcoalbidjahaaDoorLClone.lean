/- strings.Clone, as a function of plain data. -/
import Derived.Test.YtakcoalbidjahaaDoorMPO
import Derived.Test.YtakcoalbidjahaaDoorShelf
namespace Go.Proofs.YtakcoalbidjahaaDoor
open Go Go.RowKit
set_option linter.unusedSimpArgs false

def FClone : List V → Option V
  | [.x (.string s)] => if s.size ≤ 281474976710656 then some (.x (.string s)) else none
  | _ => none
theorem clone0_fun : FunV 74 FClone := by
  refine ⟨fun a w => Tryd.call74 a w, fun m w vs us r hF hd hr hj hg => ?_⟩
  unfold FClone at hF
  split at hF
  case h_2 => cases hF
  rename_i s
  split at hF
  · rename_i h
    cases hF
    obtain rfl := args_eq (xs := [.string s]) hr rfl
    refine (Tryd.stringslite_Clone s w h).mono ?_
    rintro e w' ⟨rfl, hb⟩
    exact ⟨_, m, rfl, .x _, hb, fun _ _ => rfl⟩
  · cases hF
set_option maxRecDepth 100000 in
theorem clone_fun : FunV 60 FClone := by
  refine fun_of_run (E := envOf [(74, FClone)]) (k := 1) (envOK_of _ ⟨clone0_fun, trivial⟩) (by kernel_rfl) Tryd.func60 rfl (fun a w => Tryd.call60 a w) Tryd.ntmps60 (by kernel_rfl) (by decide) (by decide) ?_
  intro us r hF hdat
  unfold FClone at hF
  split at hF
  case h_2 => cases hF
  rename_i s
  split at hF
  · rename_i h
    cases hF
    refine ⟨rfl, ?_⟩
    simp (decide := true) (maxDischargeDepth := 200) only [go_sem, FClone, h, Tryd.results60]
  · cases hF

end Go.Proofs.YtakcoalbidjahaaDoor
