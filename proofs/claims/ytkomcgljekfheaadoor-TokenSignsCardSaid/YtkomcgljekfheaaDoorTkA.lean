/- Formulas taken apart: package token's inner functions, as functions of plain data. -/
import Derived.Test.YtkomcgljekfheaaDoorTkP
import Derived.Test.YtkomcgljekfheaaDoorLClone
namespace Go.Proofs.YtkomcgljekfheaaDoor
open Go Go.RowKit
set_option linter.unusedSimpArgs false
set_option maxRecDepth 100000 in
theorem small_fun : FunV 22 FSmall := by
  refine fun_of_run (E := envOf []) (k := 1) (envOK_of _ trivial) (by kernel_rfl) Tryd.func22 rfl (fun a w => Tryd.call22 a w) Tryd.ntmps22 (by kernel_rfl) (by decide) ?_
  intro us r hF hdat
  unfold FSmall at hF
  split at hF
  case h_2 => cases hF
  rename_i b
  cases hF
  refine ⟨rfl, ?_⟩
  by_cases h : 97 ≤ b
  · have h1 := decide_eq_true h
    simp (decide := true) (maxDischargeDepth := 200) only [go_sem, h1, smallI, Tryd.results22]
  · have h1 := decide_eq_false h
    simp (decide := true) (maxDischargeDepth := 200) only [go_sem, h1, smallI, Tryd.results22]

set_option maxRecDepth 100000 in
theorem great_fun : FunV 20 FGreat := by
  refine fun_of_run (E := envOf []) (k := 1) (envOK_of _ trivial) (by kernel_rfl) Tryd.func20 rfl (fun a w => Tryd.call20 a w) Tryd.ntmps20 (by kernel_rfl) (by decide) ?_
  intro us r hF hdat
  unfold FGreat at hF
  split at hF
  case h_2 => cases hF
  rename_i b
  cases hF
  refine ⟨rfl, ?_⟩
  by_cases h : 65 ≤ b
  · have h1 := decide_eq_true h
    simp (decide := true) (maxDischargeDepth := 200) only [go_sem, h1, greatI, Tryd.results20]
  · have h1 := decide_eq_false h
    simp (decide := true) (maxDischargeDepth := 200) only [go_sem, h1, greatI, Tryd.results20]

set_option maxRecDepth 100000 in
theorem digit_fun : FunV 17 FDigit := by
  refine fun_of_run (E := envOf []) (k := 1) (envOK_of _ trivial) (by kernel_rfl) Tryd.func17 rfl (fun a w => Tryd.call17 a w) Tryd.ntmps17 (by kernel_rfl) (by decide) ?_
  intro us r hF hdat
  unfold FDigit at hF
  split at hF
  case h_2 => cases hF
  rename_i b
  cases hF
  refine ⟨rfl, ?_⟩
  by_cases h : 48 ≤ b
  · have h1 := decide_eq_true h
    simp (decide := true) (maxDischargeDepth := 200) only [go_sem, h1, digitI, Tryd.results17]
  · have h1 := decide_eq_false h
    simp (decide := true) (maxDischargeDepth := 200) only [go_sem, h1, digitI, Tryd.results17]

set_option maxRecDepth 100000 in
theorem rsmall_fun : FunV 14 FSmall := by
  refine fun_of_run (E := envOf []) (k := 1) (envOK_of _ trivial) (by kernel_rfl) Tryd.func14 rfl (fun a w => Tryd.call14 a w) Tryd.ntmps14 (by kernel_rfl) (by decide) ?_
  intro us r hF hdat
  unfold FSmall at hF
  split at hF
  case h_2 => cases hF
  rename_i b
  cases hF
  refine ⟨rfl, ?_⟩
  by_cases h : 97 ≤ b
  · have h1 := decide_eq_true h
    simp (decide := true) (maxDischargeDepth := 200) only [go_sem, h1, smallI, Tryd.results14]
  · have h1 := decide_eq_false h
    simp (decide := true) (maxDischargeDepth := 200) only [go_sem, h1, smallI, Tryd.results14]

set_option maxRecDepth 100000 in
theorem rgreat_fun : FunV 13 FGreat := by
  refine fun_of_run (E := envOf []) (k := 1) (envOK_of _ trivial) (by kernel_rfl) Tryd.func13 rfl (fun a w => Tryd.call13 a w) Tryd.ntmps13 (by kernel_rfl) (by decide) ?_
  intro us r hF hdat
  unfold FGreat at hF
  split at hF
  case h_2 => cases hF
  rename_i b
  cases hF
  refine ⟨rfl, ?_⟩
  by_cases h : 65 ≤ b
  · have h1 := decide_eq_true h
    simp (decide := true) (maxDischargeDepth := 200) only [go_sem, h1, greatI, Tryd.results13]
  · have h1 := decide_eq_false h
    simp (decide := true) (maxDischargeDepth := 200) only [go_sem, h1, greatI, Tryd.results13]

set_option maxRecDepth 100000 in
theorem rdigit_fun : FunV 12 FDigit := by
  refine fun_of_run (E := envOf []) (k := 1) (envOK_of _ trivial) (by kernel_rfl) Tryd.func12 rfl (fun a w => Tryd.call12 a w) Tryd.ntmps12 (by kernel_rfl) (by decide) ?_
  intro us r hF hdat
  unfold FDigit at hF
  split at hF
  case h_2 => cases hF
  rename_i b
  cases hF
  refine ⟨rfl, ?_⟩
  by_cases h : 48 ≤ b
  · have h1 := decide_eq_true h
    simp (decide := true) (maxDischargeDepth := 200) only [go_sem, h1, digitI, Tryd.results12]
  · have h1 := decide_eq_false h
    simp (decide := true) (maxDischargeDepth := 200) only [go_sem, h1, digitI, Tryd.results12]


def FP (p : Int → Bool) : List V → Option V
  | [.x (.int .u8 b)] => some (.x (.bool (p b)))
  | _ => none
theorem FSmall_P : FSmall = FP smallI := by rfl
theorem FGreat_P : FGreat = FP greatI := by rfl
theorem FDigit_P : FDigit = FP digitI := by rfl
set_option maxRecDepth 100000 in
theorem word_fun : FunV 21 (FP wordI) := by
  refine fun_of_run (E := envOf [(20, FGreat), (17, FDigit)]) (k := 1) (envOK_of _ ⟨great_fun, digit_fun, trivial⟩) (by kernel_rfl) Tryd.func21 rfl (fun a w => Tryd.call21 a w) Tryd.ntmps21 (by kernel_rfl) (by decide) ?_
  intro us r hF hdat
  unfold FP at hF
  split at hF
  case h_2 => cases hF
  rename_i b
  cases hF
  refine ⟨rfl, ?_⟩
  cases h : greatI b
  · simp (decide := true) (maxDischargeDepth := 200) only [go_sem, FGreat, FDigit, h, wordI, Tryd.results21]
  · simp (decide := true) (maxDischargeDepth := 200) only [go_sem, FGreat, FDigit, h, wordI, Tryd.results21]

set_option maxRecDepth 100000 in
theorem name_fun : FunV 23 (FP nameI) := by
  refine fun_of_run (E := envOf [(22, FSmall), (17, FDigit)]) (k := 1) (envOK_of _ ⟨small_fun, digit_fun, trivial⟩) (by kernel_rfl) Tryd.func23 rfl (fun a w => Tryd.call23 a w) Tryd.ntmps23 (by kernel_rfl) (by decide) ?_
  intro us r hF hdat
  unfold FP at hF
  split at hF
  case h_2 => cases hF
  rename_i b
  cases hF
  refine ⟨rfl, ?_⟩
  cases h : smallI b
  · simp (decide := true) (maxDischargeDepth := 200) only [go_sem, FSmall, FDigit, h, nameI, Tryd.results23]
  · simp (decide := true) (maxDischargeDepth := 200) only [go_sem, FSmall, FDigit, h, nameI, Tryd.results23]


def predOf (f : FuncId) : Option (Int → Bool) := if f = 17 then some digitI else if f = 21 then some wordI else if f = 23 then some nameI else none
noncomputable def tkL : List (Nat × (List V → Option V)) := [(17, FP digitI), (21, FP wordI), (23, FP nameI)]
theorem tk_at {f : FuncId} {p : Int → Bool} (h : predOf f = some p) : lkF tkL f = some (FP p) := by
  unfold predOf at h
  unfold tkL
  split at h
  · rename_i e; cases h; subst e; rfl
  · split at h
    · rename_i e; cases h; subst e; rfl
    · split at h
      · rename_i e; cases h; subst e; rfl
      · cases h
def FRun : List V → Option V
  | [.x (.string s), u] => match fnOf u with
    | some f => match predOf f with
      | some p => if s.size ≤ 1000 then some (.x (.int .i64 ((spanL p s.data.toList : Nat) : Int))) else none
      | none => none
    | none => none
  | _ => none
theorem FRun_eq {l : List UInt8} {f : FuncId} {p : Int → Bool} (h : predOf f = some p) (hl : l.length ≤ 1000) : FRun [.x (.string (B l)), .x (.func (.func f) #[] #[])] = some (.x (.int .i64 ((spanL p l : Nat) : Int))) := by
  unfold FRun
  simp only [fnOf_func, h]
  rw [if_pos (by rw [B_size]; exact hl), B_bytes]
theorem digit_fun' : FunV 17 (FP digitI) := FDigit_P ▸ digit_fun
set_option maxRecDepth 100000 in
theorem run_fun : FunV 18 FRun := by
  refine fun_of_run (E := envOf tkL) (k := 2) (envOK_of _ ⟨digit_fun', word_fun, name_fun, trivial⟩) (by kernel_rfl) Tryd.func18 rfl (fun a w => Tryd.call18 a w) Tryd.ntmps18 (by kernel_rfl) (by decide) ?_
  intro us r hF hdat
  unfold FRun at hF
  split at hF
  case h_2 => cases hF
  rename_i s u
  split at hF
  case h_2 => cases hF
  rename_i f hf
  split at hF
  case h_2 => cases hF
  rename_i p hp
  split at hF
  case isFalse => cases hF
  rename_i hs
  cases hF
  refine ⟨rfl, ?_⟩
  obtain rfl := fnOf_is hf
  obtain ⟨l, rfl⟩ := B_of s
  rw [B_size] at hs
  have hk := tk_at hp
  rw [B_bytes]
  simp (decide := true) (maxDischargeDepth := 200) only [go_sem, hk, Tryd.results18]
  refine loop_of (X := {i : Nat // i ≤ l.length ∧ spanL p l = i + spanL p (l.drop i)}) (fun i => [(0, .x (.string (B l))), (1, .x (.func (.func f) #[] #[])), (5, .x (.int .i64 i.1))]) (fun _ => []) (fun i => l.length - i.1) ⟨0, by omega, by simp⟩ (by simp (decide := true) only [go_sem]; rfl) trivial (fun ⟨i, hi, hz⟩ => ?_)
  by_cases h : i < l.length
  · obtain ⟨b, hb⟩ := get_of h
    have d0 : decide ((i : Int) < ((B l).size : Int)) = true := decide_eq_true (by rw [B_size]; omega)
    have c2 : (0 : Int) ≤ (i : Int) := by omega
    have c3 : (i : Int) < ((B l).size : Int) := by rw [B_size]; omega
    have c4 := count_up (i := i) (by omega)
    have c5 := byteV_B hb
    cases hpb : p (b.toNat : Int)
    · have e := spanL_no hb hpb
      rw [e, Nat.add_zero] at hz
      simp (decide := true) (maxDischargeDepth := 200) only [go_sem, hk, d0, c2, c3, c5, FP, hpb, hz, Tryd.results18]
    · have e := spanL_at hb hpb
      simp (decide := true) (maxDischargeDepth := 200) only [go_sem, hk, d0, c2, c3, c4, c5, FP, hpb, Tryd.results18]
      refine ⟨⟨i + 1, by omega, by rw [hz, e]; omega⟩, ?_, trivial, by simp only; omega⟩
      simp (decide := true) only [go_sem]
  · have d0 : decide ((i : Int) < ((B l).size : Int)) = false := decide_eq_false (by rw [B_size]; omega)
    rw [spanL_end (by omega), Nat.add_zero] at hz
    simp (decide := true) (maxDischargeDepth := 200) only [go_sem, hk, d0, hz, Tryd.results18]


def FTextSize : List V → Option V
  | [.x (.string s)] => if 1 ≤ s.size ∧ s.size ≤ 1000 then some (.x (.int .i64 ((textP s.data.toList : Nat) : Int))) else none
  | _ => none
set_option maxHeartbeats 1000000 in
set_option maxRecDepth 100000 in
theorem textsize_fun : FunV 19 FTextSize := by
  refine fun_of_run (E := envOf []) (k := 1) (envOK_of _ trivial) (by kernel_rfl) Tryd.func19 rfl (fun a w => Tryd.call19 a w) Tryd.ntmps19 (by kernel_rfl) (by decide) ?_
  intro us r hF hdat
  unfold FTextSize at hF
  split at hF
  case h_2 => cases hF
  rename_i s
  split at hF
  case isFalse => cases hF
  rename_i hs
  cases hF
  refine ⟨rfl, ?_⟩
  obtain ⟨l, rfl⟩ := B_of s
  rw [B_size] at hs
  rw [B_bytes]
  simp (decide := true) (maxDischargeDepth := 200) only [go_sem, Tryd.results19]
  refine loop_of (X := {i : Nat // 1 ≤ i ∧ i ≤ l.length ∧ (quoteL (l.drop 1)).map (·.2) = (quoteL (l.drop i)).map (fun r => r.2 + (i - 1))}) (fun i => [(0, .x (.string (B l))), (3, .x (.int .i64 i.1))]) (fun _ => []) (fun i => l.length - i.1) ⟨1, by omega, by omega, by simp⟩ (by simp (decide := true) only [go_sem]; rfl) trivial (fun ⟨i, h1, hi, hz⟩ => ?_)
  by_cases h : i < l.length
  · obtain ⟨b, hb⟩ := get_of h
    have d0 : decide ((i : Int) < ((B l).size : Int)) = true := decide_eq_true (by rw [B_size]; omega)
    have c2 : (0 : Int) ≤ (i : Int) := by omega
    have c3 : (i : Int) < ((B l).size : Int) := by rw [B_size]; omega
    have c4 := count_up (i := i) (by omega)
    have c5 := byteV_B hb
    by_cases hq : b = 34
    · subst hq
      have d1 : decide ((((34 : UInt8).toNat : Nat) : Int) = 34) = true := rfl
      by_cases hl : i + 1 = l.length
      · have d2 : decide (((i + 1 : Nat) : Int) = ((B l).size : Int)) = true := decide_eq_true (by rw [B_size]; omega)
        have e : quoteL (l.drop i) = some ([], 1) := by rw [drop_cons hb]; exact quote_end (by rw [drop_get]; simp [List.getElem?_eq_none (show l.length ≤ i + 1 + 0 by omega)])
        have e2 : textP l = i + 1 := textP_some (by rw [hz, e]; simp; omega)
        simp (decide := true) (maxDischargeDepth := 200) only [go_sem, d0, d1, d2, c2, c3, c4, c5, e2, Tryd.results19]
      · obtain ⟨c, hc⟩ := get_of (show i + 1 < l.length by omega)
        have d2 : decide (((i + 1 : Nat) : Int) = ((B l).size : Int)) = false := decide_eq_false (by rw [B_size]; omega)
        have c2' : (0 : Int) ≤ ((i + 1 : Nat) : Int) := by omega
        have c3' : ((i + 1 : Nat) : Int) < ((B l).size : Int) := by rw [B_size]; omega
        have c4' := count_up (i := i + 1) (by omega)
        have c5' := byteV_B hc
        by_cases hq' : c = 34
        · subst hq'
          have e : quoteL (l.drop i) = (quoteL (l.drop (i + 2))).map fun r => (34 :: r.1, r.2 + 2) := by rw [drop_cons hb, drop_cons hc]; exact quote_two _
          simp (decide := true) (maxDischargeDepth := 200) only [go_sem, d0, d1, d2, c2, c3, c4, c5, c2', c3', c4', c5', Tryd.results19]
          refine ⟨⟨i + 2, by omega, by omega, by rw [hz, e, Option.map_map]; congr 1; funext r; simp only [Function.comp]; omega⟩, ?_, trivial, by simp only; omega⟩
          simp (decide := true) only [go_sem]
        · have d3 : decide (((c.toNat : Nat) : Int) = 34) = false := by rw [byte_eq (c := 34) (n := 34) rfl]; exact decide_eq_false hq'
          have e : quoteL (l.drop i) = some ([], 1) := by rw [drop_cons hb]; exact quote_end (by rw [drop_get]; simp [hc, hq'])
          have e2 : textP l = i + 1 := textP_some (by rw [hz, e]; simp; omega)
          simp (decide := true) (maxDischargeDepth := 200) only [go_sem, d0, d1, d2, d3, c2, c3, c4, c5, c2', c3', c5', e2, Tryd.results19]
    · have d1 : decide (((b.toNat : Nat) : Int) = 34) = false := by rw [byte_eq (c := 34) (n := 34) rfl]; exact decide_eq_false hq
      have e : quoteL (l.drop i) = (quoteL (l.drop (i + 1))).map fun r => (b :: r.1, r.2 + 1) := by rw [drop_cons hb]; exact quote_other hq
      simp (decide := true) (maxDischargeDepth := 200) only [go_sem, d0, d1, c2, c3, c4, c5, Tryd.results19]
      refine ⟨⟨i + 1, by omega, by omega, by rw [hz, e, Option.map_map]; congr 1; funext r; simp only [Function.comp]; omega⟩, ?_, trivial, by simp only; omega⟩
      simp (decide := true) only [go_sem]
  · have d0 : decide ((i : Int) < ((B l).size : Int)) = false := decide_eq_false (by rw [B_size]; omega)
    have e2 : ((textP l : Nat) : Int) = 0 := by rw [textP_no (by rw [hz, List.drop_eq_nil_of_le (by omega)]; rfl)]; rfl
    simp (decide := true) (maxDischargeDepth := 200) only [go_sem, d0, e2, Tryd.results19]

end Go.Proofs.YtkomcgljekfheaaDoor
