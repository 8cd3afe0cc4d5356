/- Letters, digits, names of sheets: package addr and the reference, as functions of plain data. -/
import Derived.Test.YteibnmlfipkmeaaGreatDoorMPO
namespace Go.Proofs.YteibnmlfipkmeaaGreatDoor
open Go Go.RowKit
set_option linter.unusedSimpArgs false

set_option maxRecDepth 100000 in
theorem small_fun : FunV 49 FSmall := by
  refine fun_of_run (E := envOf []) (k := 1) (envOK_of _ trivial) (by kernel_rfl) Tryz.func49 rfl (fun a w => Tryz.call49 a w) Tryz.ntmps49 (by kernel_rfl) (by decide) (by decide) ?_
  intro us r hF hdat
  unfold FSmall at hF
  split at hF
  case h_2 => cases hF
  rename_i b
  cases hF
  refine ⟨rfl, ?_⟩
  by_cases h : 97 ≤ b
  · have h1 := decide_eq_true h
    simp (decide := true) (maxDischargeDepth := 200) only [go_sem, h1, smallI, Tryz.results49]
  · have h1 := decide_eq_false h
    simp (decide := true) (maxDischargeDepth := 200) only [go_sem, h1, smallI, Tryz.results49]

set_option maxRecDepth 100000 in
theorem great_fun : FunV 155 FGreat := by
  refine fun_of_run (E := envOf []) (k := 1) (envOK_of _ trivial) (by kernel_rfl) Tryz.func155 rfl (fun a w => Tryz.call155 a w) Tryz.ntmps155 (by kernel_rfl) (by decide) (by decide) ?_
  intro us r hF hdat
  unfold FGreat at hF
  split at hF
  case h_2 => cases hF
  rename_i b
  cases hF
  refine ⟨rfl, ?_⟩
  by_cases h : 65 ≤ b
  · have h1 := decide_eq_true h
    simp (decide := true) (maxDischargeDepth := 200) only [go_sem, h1, greatI, Tryz.results155]
  · have h1 := decide_eq_false h
    simp (decide := true) (maxDischargeDepth := 200) only [go_sem, h1, greatI, Tryz.results155]

set_option maxRecDepth 100000 in
theorem digit_fun : FunV 50 FDigit := by
  refine fun_of_run (E := envOf []) (k := 1) (envOK_of _ trivial) (by kernel_rfl) Tryz.func50 rfl (fun a w => Tryz.call50 a w) Tryz.ntmps50 (by kernel_rfl) (by decide) (by decide) ?_
  intro us r hF hdat
  unfold FDigit at hF
  split at hF
  case h_2 => cases hF
  rename_i b
  cases hF
  refine ⟨rfl, ?_⟩
  by_cases h : 48 ≤ b
  · have h1 := decide_eq_true h
    simp (decide := true) (maxDischargeDepth := 200) only [go_sem, h1, digitI, Tryz.results50]
  · have h1 := decide_eq_false h
    simp (decide := true) (maxDischargeDepth := 200) only [go_sem, h1, digitI, Tryz.results50]

set_option maxRecDepth 100000 in
theorem rsmall_fun : FunV 22 FSmall := by
  refine fun_of_run (E := envOf []) (k := 1) (envOK_of _ trivial) (by kernel_rfl) Tryz.func22 rfl (fun a w => Tryz.call22 a w) Tryz.ntmps22 (by kernel_rfl) (by decide) (by decide) ?_
  intro us r hF hdat
  unfold FSmall at hF
  split at hF
  case h_2 => cases hF
  rename_i b
  cases hF
  refine ⟨rfl, ?_⟩
  by_cases h : 97 ≤ b
  · have h1 := decide_eq_true h
    simp (decide := true) (maxDischargeDepth := 200) only [go_sem, h1, smallI, Tryz.results22]
  · have h1 := decide_eq_false h
    simp (decide := true) (maxDischargeDepth := 200) only [go_sem, h1, smallI, Tryz.results22]

set_option maxRecDepth 100000 in
theorem rgreat_fun : FunV 53 FGreat := by
  refine fun_of_run (E := envOf []) (k := 1) (envOK_of _ trivial) (by kernel_rfl) Tryz.func53 rfl (fun a w => Tryz.call53 a w) Tryz.ntmps53 (by kernel_rfl) (by decide) (by decide) ?_
  intro us r hF hdat
  unfold FGreat at hF
  split at hF
  case h_2 => cases hF
  rename_i b
  cases hF
  refine ⟨rfl, ?_⟩
  by_cases h : 65 ≤ b
  · have h1 := decide_eq_true h
    simp (decide := true) (maxDischargeDepth := 200) only [go_sem, h1, greatI, Tryz.results53]
  · have h1 := decide_eq_false h
    simp (decide := true) (maxDischargeDepth := 200) only [go_sem, h1, greatI, Tryz.results53]

set_option maxRecDepth 100000 in
theorem rdigit_fun : FunV 23 FDigit := by
  refine fun_of_run (E := envOf []) (k := 1) (envOK_of _ trivial) (by kernel_rfl) Tryz.func23 rfl (fun a w => Tryz.call23 a w) Tryz.ntmps23 (by kernel_rfl) (by decide) (by decide) ?_
  intro us r hF hdat
  unfold FDigit at hF
  split at hF
  case h_2 => cases hF
  rename_i b
  cases hF
  refine ⟨rfl, ?_⟩
  by_cases h : 48 ≤ b
  · have h1 := decide_eq_true h
    simp (decide := true) (maxDischargeDepth := 200) only [go_sem, h1, digitI, Tryz.results23]
  · have h1 := decide_eq_false h
    simp (decide := true) (maxDischargeDepth := 200) only [go_sem, h1, digitI, Tryz.results23]


def okNm (b : Int) : Bool := smallI b || digitI b
/-- Which texts name a sheet. -/
def nameB (s : ByteArray) : Bool := decide (1 ≤ s.size) && decide (s.size ≤ 8) && smallI (byteV s 0) && (List.range s.size).all fun j => j == 0 || okNm (byteV s j)
def FName : List V → Option V
  | [.x (.string s)] => some (.x (.bool (nameB s)))
  | _ => none
theorem nameB_short {s : ByteArray} (h : s.size < 1) : nameB s = false := by simp [nameB]; omega
theorem nameB_long {s : ByteArray} (h : 8 < s.size) : nameB s = false := by simp [nameB]; omega
theorem nameB_first {s : ByteArray} (h : smallI (byteV s 0) = false) : nameB s = false := by simp [nameB, h]
theorem nameB_at {s : ByteArray} {j : Nat} (h0 : 1 ≤ j) (hj : j < s.size) (h : okNm (byteV s j) = false) : nameB s = false := by
  cases hn : nameB s with
  | false => rfl
  | true =>
    simp only [nameB, Bool.and_eq_true] at hn
    have := List.all_eq_true.1 hn.2 j (List.mem_range.2 hj)
    simp [h] at this
    omega
theorem nameB_all {s : ByteArray} (h1 : 1 ≤ s.size) (h8 : s.size ≤ 8) (hs : smallI (byteV s 0) = true) (h : ∀ j : Nat, 1 ≤ j → j < s.size → okNm (byteV s j) = true) : nameB s = true := by
  simp only [nameB, Bool.and_eq_true, decide_eq_true_eq]
  refine ⟨⟨⟨h1, h8⟩, hs⟩, List.all_eq_true.2 fun j hj => ?_⟩
  rw [List.mem_range] at hj
  by_cases h0 : j = 0
  · simp [h0]
  · simp [h j (by omega) hj]
set_option maxRecDepth 100000 in
theorem name_fun : FunV 25 FName := by
  refine fun_of_run (E := envOf [(49, FSmall), (50, FDigit)]) (k := 1) (envOK_of _ ⟨small_fun, digit_fun, trivial⟩) (by kernel_rfl) Tryz.func25 rfl (fun a w => Tryz.call25 a w) Tryz.ntmps25 (by kernel_rfl) (by decide) (by decide) ?_
  intro us r hF hdat
  unfold FName at hF
  split at hF
  case h_2 => cases hF
  rename_i s
  cases hF
  refine ⟨rfl, ?_⟩
  by_cases hl : s.size < 1
  · have e := nameB_short hl
    have h1 : decide ((s.size : Int) < 1) = true := decide_eq_true (by omega)
    simp (decide := true) (maxDischargeDepth := 200) only [go_sem, h1, e, Tryz.results25]
  · by_cases hg : 8 < s.size
    · have e := nameB_long hg
      have h1 : decide ((s.size : Int) < 1) = false := decide_eq_false (by omega)
      have h2 : decide (8 < (s.size : Int)) = true := decide_eq_true (by omega)
      simp (decide := true) (maxDischargeDepth := 200) only [go_sem, h1, h2, e, Tryz.results25]
    · have h1 : decide ((s.size : Int) < 1) = false := decide_eq_false (by omega)
      have h2 : decide (8 < (s.size : Int)) = false := decide_eq_false (by omega)
      have h3 : (0 : Int) < (s.size : Int) := by omega
      cases hs : smallI (byteV s 0)
      · have e := nameB_first hs
        simp (decide := true) (maxDischargeDepth := 200) only [go_sem, h1, h2, h3, hs, e, FSmall, Tryz.results25]
      · simp (decide := true) (maxDischargeDepth := 200) only [go_sem, h1, h2, h3, hs, FSmall, Tryz.results25]
        refine loop_of (X := {i : Nat // 1 ≤ i ∧ i ≤ s.size ∧ ∀ j : Nat, 1 ≤ j → j < i → okNm (byteV s j) = true}) (fun i => [(0, .x (.string s)), (3, .x (.int .i64 i.1))]) (fun _ => []) (fun i => s.size - i.1) ⟨1, by omega, by omega, fun j h1 h2 => by omega⟩ (by simp (decide := true) only [go_sem]; rfl) trivial (fun ⟨i, hi1, hi2, hok⟩ => ?_)
        by_cases hi : i < s.size
        · have c1 : decide ((i : Int) < (s.size : Int)) = true := decide_eq_true (by omega)
          have c2 : (0 : Int) ≤ (i : Int) := by omega
          have c3 : (i : Int) < (s.size : Int) := by omega
          have c4 := count_up (i := i) (by omega)
          cases hb : smallI (byteV s i)
          · cases hb2 : digitI (byteV s i)
            · have e := nameB_at hi1 hi (show okNm (byteV s i) = false by simp [okNm, hb, hb2])
              simp (decide := true) (maxDischargeDepth := 200) only [go_sem, c1, c2, c3, c4, hb, hb2, e, FSmall, FDigit, Tryz.results25]
            · simp (decide := true) (maxDischargeDepth := 200) only [go_sem, c1, c2, c3, c4, hb, hb2, FSmall, FDigit, Tryz.results25]
              refine ⟨⟨i + 1, by omega, by omega, fun j h1 h2 => ?_⟩, ?_, trivial, ?_⟩
              rotate_left
              · simp (decide := true) only [go_sem]
              · simp only; omega
              by_cases hj : j = i
              · subst hj; simp [okNm, hb2]
              · exact hok j h1 (by omega)
          · simp (decide := true) (maxDischargeDepth := 200) only [go_sem, c1, c2, c3, c4, hb, FSmall, FDigit, Tryz.results25]
            refine ⟨⟨i + 1, by omega, by omega, fun j h1 h2 => ?_⟩, ?_, trivial, ?_⟩
            rotate_left
            · simp (decide := true) only [go_sem]
            · simp only; omega
            by_cases hj : j = i
            · subst hj; simp [okNm, hb]
            · exact hok j h1 (by omega)
        · have c1 : decide ((i : Int) < (s.size : Int)) = false := decide_eq_false (by omega)
          have e := nameB_all (s := s) (by omega) (by omega) hs (fun j h1 h2 => hok j h1 (by omega))
          simp (decide := true) (maxDischargeDepth := 200) only [go_sem, c1, e, Tryz.results25]

set_option maxRecDepth 100000 in
theorem rname_fun : FunV 11 FName := by
  refine fun_of_run (E := envOf [(22, FSmall), (23, FDigit)]) (k := 1) (envOK_of _ ⟨rsmall_fun, rdigit_fun, trivial⟩) (by kernel_rfl) Tryz.func11 rfl (fun a w => Tryz.call11 a w) Tryz.ntmps11 (by kernel_rfl) (by decide) (by decide) ?_
  intro us r hF hdat
  unfold FName at hF
  split at hF
  case h_2 => cases hF
  rename_i s
  cases hF
  refine ⟨rfl, ?_⟩
  by_cases hl : s.size < 1
  · have e := nameB_short hl
    have h1 : decide ((s.size : Int) < 1) = true := decide_eq_true (by omega)
    simp (decide := true) (maxDischargeDepth := 200) only [go_sem, h1, e, Tryz.results11]
  · by_cases hg : 8 < s.size
    · have e := nameB_long hg
      have h1 : decide ((s.size : Int) < 1) = false := decide_eq_false (by omega)
      have h2 : decide (8 < (s.size : Int)) = true := decide_eq_true (by omega)
      simp (decide := true) (maxDischargeDepth := 200) only [go_sem, h1, h2, e, Tryz.results11]
    · have h1 : decide ((s.size : Int) < 1) = false := decide_eq_false (by omega)
      have h2 : decide (8 < (s.size : Int)) = false := decide_eq_false (by omega)
      have h3 : (0 : Int) < (s.size : Int) := by omega
      cases hs : smallI (byteV s 0)
      · have e := nameB_first hs
        simp (decide := true) (maxDischargeDepth := 200) only [go_sem, h1, h2, h3, hs, e, FSmall, Tryz.results11]
      · simp (decide := true) (maxDischargeDepth := 200) only [go_sem, h1, h2, h3, hs, FSmall, Tryz.results11]
        refine loop_of (X := {i : Nat // 1 ≤ i ∧ i ≤ s.size ∧ ∀ j : Nat, 1 ≤ j → j < i → okNm (byteV s j) = true}) (fun i => [(0, .x (.string s)), (3, .x (.int .i64 i.1))]) (fun _ => []) (fun i => s.size - i.1) ⟨1, by omega, by omega, fun j h1 h2 => by omega⟩ (by simp (decide := true) only [go_sem]; rfl) trivial (fun ⟨i, hi1, hi2, hok⟩ => ?_)
        by_cases hi : i < s.size
        · have c1 : decide ((i : Int) < (s.size : Int)) = true := decide_eq_true (by omega)
          have c2 : (0 : Int) ≤ (i : Int) := by omega
          have c3 : (i : Int) < (s.size : Int) := by omega
          have c4 := count_up (i := i) (by omega)
          cases hb : smallI (byteV s i)
          · cases hb2 : digitI (byteV s i)
            · have e := nameB_at hi1 hi (show okNm (byteV s i) = false by simp [okNm, hb, hb2])
              simp (decide := true) (maxDischargeDepth := 200) only [go_sem, c1, c2, c3, c4, hb, hb2, e, FSmall, FDigit, Tryz.results11]
            · simp (decide := true) (maxDischargeDepth := 200) only [go_sem, c1, c2, c3, c4, hb, hb2, FSmall, FDigit, Tryz.results11]
              refine ⟨⟨i + 1, by omega, by omega, fun j h1 h2 => ?_⟩, ?_, trivial, ?_⟩
              rotate_left
              · simp (decide := true) only [go_sem]
              · simp only; omega
              by_cases hj : j = i
              · subst hj; simp [okNm, hb2]
              · exact hok j h1 (by omega)
          · simp (decide := true) (maxDischargeDepth := 200) only [go_sem, c1, c2, c3, c4, hb, FSmall, FDigit, Tryz.results11]
            refine ⟨⟨i + 1, by omega, by omega, fun j h1 h2 => ?_⟩, ?_, trivial, ?_⟩
            rotate_left
            · simp (decide := true) only [go_sem]
            · simp only; omega
            by_cases hj : j = i
            · subst hj; simp [okNm, hb]
            · exact hok j h1 (by omega)
        · have c1 : decide ((i : Int) < (s.size : Int)) = false := decide_eq_false (by omega)
          have e := nameB_all (s := s) (by omega) (by omega) hs (fun j h1 h2 => hok j h1 (by omega))
          simp (decide := true) (maxDischargeDepth := 200) only [go_sem, c1, e, Tryz.results11]

end Go.Proofs.YteibnmlfipkmeaaGreatDoor
