/- cmp.Compare and cmp.Or of ints. -/
import Derived.Test.YtkacldoiimlmcaaPlain
import Derived.Lib.Small
namespace Go.Proofs.Ytkacldoiimlmcaa
open Go Go.RowKit
set_option linter.unusedSimpArgs false
def FNaNI : List V → Option V
  | [.x (.int .i64 _)] => some (.x (.bool false))
  | _ => none
set_option maxRecDepth 100000 in
theorem nani_fun : FunV 11 FNaNI := by
  refine fun_of_run (E := envOf []) (k := 1) (envOK_of _ trivial) (by kernel_rfl) Try.func11 rfl (fun a w => Try.call11 a w) Try.ntmps11 (by kernel_rfl) (by decide) (by decide) ?_
  intro us r hF hdat
  unfold FNaNI at hF
  split at hF
  case h_2 => cases hF
  rename_i s
  cases hF
  refine ⟨rfl, ?_⟩
  have d0 : decide (s = s) = true := decide_eq_true rfl
  simp (decide := true) (maxDischargeDepth := 200) only [go_sem, d0, Try.results11]

def FCmpI : List V → Option V
  | [.x (.int .i64 a), .x (.int .i64 b)] => some (.x (.int .i64 (Lib.compareInt a b)))
  | _ => none
set_option maxRecDepth 100000 in
theorem cmpi_fun : FunV 10 FCmpI := by
  refine fun_of_run (E := envOf [(11, FNaNI)]) (k := 2) (envOK_of _ ⟨nani_fun, trivial⟩) (by kernel_rfl) Try.func10 rfl (fun a w => Try.call10 a w) Try.ntmps10 (by kernel_rfl) (by decide) (by decide) ?_
  intro us r hF hdat
  unfold FCmpI at hF
  split at hF
  case h_2 => cases hF
  rename_i a b
  cases hF
  refine ⟨rfl, ?_⟩
  by_cases h : a < b
  · have d0 := decide_eq_true h
    have e : Lib.compareInt a b = -1 := if_pos h
    simp (decide := true) (maxDischargeDepth := 200) only [go_sem, FNaNI, d0, e, Try.results10]
  · have d0 := decide_eq_false h
    by_cases h' : b < a
    · have d1 := decide_eq_true h'
      have e : Lib.compareInt a b = 1 := by unfold Lib.compareInt; rw [if_neg h]; split <;> first | rfl | omega
      simp (decide := true) (maxDischargeDepth := 200) only [go_sem, FNaNI, d0, d1, e, Try.results10]
    · have d1 := decide_eq_false h'
      have e : Lib.compareInt a b = 0 := by unfold Lib.compareInt; rw [if_neg h]; split <;> first | rfl | omega
      simp (decide := true) (maxDischargeDepth := 200) only [go_sem, FNaNI, d0, d1, e, Try.results10]

def intsOf : List V → Option (List Int)
  | [] => some []
  | .x (.int .i64 n) :: l => match intsOf l with
    | some r => some (n :: r)
    | none => none
  | _ => none
def intV1 (n : Int) : V := .x (.int .i64 n)
theorem intsOf_is : ∀ {es : List V} {l : List Int}, intsOf es = some l → es = l.map intV1
  | [], l, h => by cases h; rfl
  | e :: es, l, h => by
    unfold intsOf at h
    split at h
    · cases ‹e :: es = []›
    · rename_i n l' he
      cases he
      split at h
      · rename_i r hr
        cases h
        rw [intsOf_is hr]
        rfl
      · cases h
    · cases h
def or0 : List Int → Int
  | [] => 0
  | n :: l => if n = 0 then or0 l else n
theorem or0_at : ∀ {l : List Int} {i : Nat} {n : Int}, (∀ (j : Nat) (k : Int), j < i → l[j]? = some k → k = 0) → l[i]? = some n → ¬ n = 0 → or0 l = n
  | [], i, n, _, h, _ => by simp at h
  | a :: l, 0, n, _, h, hn => by simp at h; subst h; simp [or0, hn]
  | a :: l, i + 1, n, h0, h, hn => by
    have ha : a = 0 := h0 0 a (by omega) rfl
    simp only [or0, ha, if_true]
    exact or0_at (i := i) (fun j k hj hk => h0 (j + 1) k (by omega) (by simpa using hk)) (by simpa using h) hn
theorem or0_none : ∀ {l : List Int}, (∀ (j : Nat) (k : Int), l[j]? = some k → k = 0) → or0 l = 0
  | [], _ => rfl
  | a :: l, h => by
    have ha : a = 0 := h 0 a rfl
    simp only [or0, ha, if_true]
    exact or0_none (fun j k hk => h (j + 1) k (by simpa using hk))
def FOr : List V → Option V
  | [.sl _ 1 es none] => match intsOf es with
    | some l => if l.length ≤ 1000000 then some (.x (.int .i64 (or0 l))) else none
    | none => none
  | _ => none
set_option maxHeartbeats 2000000 in
set_option maxRecDepth 100000 in
theorem or_fun : FunV 9 FOr := by
  refine fun_of_run (E := envOf []) (k := 1) (envOK_of _ trivial) (by kernel_rfl) Try.func9 rfl (fun a w => Try.call9 a w) Try.ntmps9 (by kernel_rfl) (by decide) (by decide) ?_
  intro us r hF hdat
  unfold FOr at hF
  split at hF
  case h_2 => cases hF
  rename_i nl es
  split at hF
  case h_2 => cases hF
  rename_i l hl
  split at hF
  case isFalse => cases hF
  rename_i hle
  cases hF
  refine ⟨rfl, ?_⟩
  obtain rfl := intsOf_is hl
  clear hl
  have hsz : (((l.map intV1).length : Nat) : Int) = (l.length : Int) := by rw [List.length_map]
  simp (decide := true) (maxDischargeDepth := 200) only [go_sem, Try.results9]
  refine loop_of (X := {i : Nat // i ≤ l.length ∧ ∀ (j : Nat) (k : Int), j < i → l[j]? = some k → k = 0}) (fun i => [(3, .x (.int .i64 0)), (6, .sl nl 1 (l.map intV1) none), (7, .x (.int .i64 (l.length : Int))), (8, .x (.int .i64 i.1))]) (fun _ => []) (fun i => l.length - i.1) ⟨0, by omega, fun j k hj => by omega⟩ (by simp (decide := true) only [go_sem, hsz]; rfl) trivial (fun ⟨i, hi, hz⟩ => ?_)
  by_cases hil : i < l.length
  · have hb : l[i]? = some l[i] := List.getElem?_eq_getElem hil
    generalize l[i] = n at hb
    have d0 : decide ((i : Int) < (l.length : Int)) = true := decide_eq_true (by omega)
    have c2 : (0 : Int) ≤ (i : Int) := by omega
    have c4 := count_up (i := i) (by omega)
    have c5 : (l.map intV1)[((i : Int)).toNat]? = some (.x (.int .i64 n)) := by rw [Int.toNat_natCast, List.getElem?_map, hb]; rfl
    by_cases hn : n = 0
    · have d1 := decide_eq_true hn
      simp (decide := true) (maxDischargeDepth := 200) only [go_sem, d0, c2, c4, c5, d1, Try.results9]
      refine ⟨⟨i + 1, by omega, fun j k hj hk => ?_⟩, ?_, trivial, by simp only; omega⟩
      · by_cases hji : j = i
        · subst hji; rw [hb] at hk; cases hk; exact hn
        · exact hz j k (by omega) hk
      · simp (decide := true) only [go_sem]
    · have d1 := decide_eq_false hn
      have e := or0_at hz hb hn
      simp (decide := true) (maxDischargeDepth := 200) only [go_sem, d0, c2, c4, c5, d1, e, Try.results9]
  · have d0 : decide ((i : Int) < (l.length : Int)) = false := decide_eq_false (by omega)
    have e := or0_none (l := l) (fun j k hk => hz j k (by have := (List.getElem?_eq_some_iff.1 hk).1; omega) hk)
    simp (decide := true) (maxDischargeDepth := 200) only [go_sem, d0, e, Try.results9]


end Go.Proofs.Ytkacldoiimlmcaa
