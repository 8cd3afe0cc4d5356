/- strings.Cut at one byte, as a function of plain data. -/
import Derived.Test.YteibnmlfipkmeaaGreatDoorMPO
import Derived.Test.YteibnmlfipkmeaaGreatDoorShelf
namespace Go.Proofs.YteibnmlfipkmeaaGreatDoor
open Go Go.RowKit
set_option linter.unusedSimpArgs false

theorem index_range : ∀ (l : List UInt8) (c : UInt8), Lib.indexByte l c = -1 ∨ (0 ≤ Lib.indexByte l c ∧ Lib.indexByte l c < l.length)
  | [], c => .inl (by simp [Lib.indexByte])
  | b :: l, c => by
    have ih := index_range l c
    simp only [Lib.indexByte]
    by_cases hb : b = c
    · simp [hb]
    · simp [hb]
      rcases ih with ih | ih
      · simp [ih]
      · right
        rw [if_neg (by omega)]
        omega
def FIndex1 : List V → Option V
  | [.x (.string s), .x (.string ⟨⟨[c]⟩⟩)] => some (.x (.int .i64 (Lib.indexByte s.data.toList c)))
  | _ => none
theorem index1_fun : FunV 106 FIndex1 := by
  refine ⟨fun a w => Tryz.call106 a w, fun m w vs us r hF hd hr hj hg => ?_⟩
  unfold FIndex1 at hF
  split at hF
  case h_2 => cases hF
  rename_i s c
  cases hF
  obtain rfl := args_eq (xs := [.string s, .string ⟨⟨[c]⟩⟩]) hr rfl
  refine (Tryz.stringslite_Index_one s c w).mono ?_
  rintro e w' ⟨rfl, rfl⟩
  exact ⟨_, m, rfl, .x _, Below.refl _ _, fun _ _ => rfl⟩
def FCut1 : List V → Option V
  | [.x (.string s), .x (.string ⟨⟨[c]⟩⟩)] => if s.size ≤ 9223372036854775806 then
      (if 0 ≤ Lib.indexByte s.data.toList c then some (.tup [.x (.string (subV s 0 (Lib.indexByte s.data.toList c))), .x (.string (subV s (Lib.indexByte s.data.toList c + 1) s.size)), .x (.bool true)])
       else some (.tup [.x (.string s), .x (.string ⟨#[]⟩), .x (.bool false)])) else none
  | _ => none
set_option maxRecDepth 100000 in
theorem cut1a_fun : FunV 87 FCut1 := by
  refine fun_of_run (E := envOf [(106, FIndex1)]) (k := 2) (envOK_of _ ⟨index1_fun, trivial⟩) (by kernel_rfl) Tryz.func87 rfl (fun a w => Tryz.call87 a w) Tryz.ntmps87 (by kernel_rfl) (by decide) (by decide) ?_
  intro us r hF hdat
  unfold FCut1 at hF
  split at hF
  case h_2 => cases hF
  rename_i s c
  split at hF
  · rename_i h
    have hs1 : (((⟨⟨[c]⟩⟩ : ByteArray).size : Nat) : Int) = 1 := rfl
    have hs2 : (((⟨[c]⟩ : Array UInt8).size : Nat) : Int) = 1 := rfl
    generalize hi : Lib.indexByte s.data.toList c = i at hF
    have hr := index_range s.data.toList c
    rw [hi] at hr
    have hsz : s.data.toList.length = s.size := rfl
    by_cases h0 : 0 ≤ i
    · rw [if_pos h0] at hF
      cases hF
      refine ⟨rfl, ?_⟩
      have d0 := decide_eq_true h0
      have c1 : i ≤ (s.size : Int) := by omega
      have c2 : bWrap .i64 (i + 1) = i + 1 := bwrap_of (by unfold inR; omega)
      have c3 : (0 : Int) ≤ i + 1 := by omega
      have c4 : i + 1 ≤ (s.size : Int) := by omega
      simp (decide := true) (maxDischargeDepth := 200) only [go_sem, FIndex1, hi, d0, h0, hs1, hs2, c1, c2, c3, c4, Tryz.results87]
    · rw [if_neg h0] at hF
      cases hF
      refine ⟨rfl, ?_⟩
      have d0 := decide_eq_false h0
      simp (decide := true) (maxDischargeDepth := 200) only [go_sem, FIndex1, hi, d0, Tryz.results87]
  · cases hF

set_option maxRecDepth 100000 in
theorem cut1_fun : FunV 65 FCut1 := by
  refine fun_of_run (E := envOf [(87, FCut1)]) (k := 2) (envOK_of _ ⟨cut1a_fun, trivial⟩) (by kernel_rfl) Tryz.func65 rfl (fun a w => Tryz.call65 a w) Tryz.ntmps65 (by kernel_rfl) (by decide) (by decide) ?_
  intro us r hF hdat
  unfold FCut1 at hF
  split at hF
  case h_2 => cases hF
  rename_i s c
  split at hF
  · rename_i h
    by_cases h0 : 0 ≤ Lib.indexByte s.data.toList c
    · rw [if_pos h0] at hF
      cases hF
      refine ⟨rfl, ?_⟩
      simp (decide := true) (maxDischargeDepth := 200) only [go_sem, FCut1, h, h0, Tryz.results65]
    · rw [if_neg h0] at hF
      cases hF
      refine ⟨rfl, ?_⟩
      simp (decide := true) (maxDischargeDepth := 200) only [go_sem, FCut1, h, h0, Tryz.results65]
  · cases hF

end Go.Proofs.YteibnmlfipkmeaaGreatDoor
