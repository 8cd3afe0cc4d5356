/- Ranges and the order of cells: package addr and the reference, as functions of plain data. -/
import Derived.Test.YtcolepbcibidaaaDoorAdB
namespace Go.Proofs.YtcolepbcibidaaaDoor
open Go Go.RowKit
set_option linter.unusedSimpArgs false

/-- Which ranges may be. -/
def okA (s : ByteArray) (c r : Int) (s' : ByteArray) (c' r' : Int) : Bool := rightC s c r && rightC s' c' r' && decide (s = s') && decide (c ≤ c') && decide (r ≤ r')
def areaN (c r c' r' : Int) : Int := (c' - c + 1) * (r' - r + 1)
theorem okA_iff {s : ByteArray} {c r : Int} {s' : ByteArray} {c' r' : Int} : okA s c r s' c' r' = true ↔ rightC s c r = true ∧ rightC s' c' r' = true ∧ s = s' ∧ c ≤ c' ∧ r ≤ r' := by
  simp [okA, and_assoc]
theorem okA_1 {s : ByteArray} {c r : Int} {s' : ByteArray} {c' r' : Int} (h : rightC s c r = false) : okA s c r s' c' r' = false := by simp [okA, h]
theorem okA_2 {s : ByteArray} {c r : Int} {s' : ByteArray} {c' r' : Int} (h : rightC s' c' r' = false) : okA s c r s' c' r' = false := by simp [okA, h]
theorem okA_3 {s : ByteArray} {c r : Int} {s' : ByteArray} {c' r' : Int} (h : ¬ s = s') : okA s c r s' c' r' = false := by simp [okA, h]
theorem okA_4 {s : ByteArray} {c r : Int} {s' : ByteArray} {c' r' : Int} (h : ¬ c ≤ c') : okA s c r s' c' r' = false := by simp [okA, h]
theorem okA_5 {s : ByteArray} {c r : Int} {s' : ByteArray} {c' r' : Int} (h : ¬ r ≤ r') : okA s c r s' c' r' = false := by simp [okA, h]
def areaV (s : ByteArray) (c r : Int) (s' : ByteArray) (c' r' : Int) : V :=
  if okA s c r s' c' r' = true then .tup [.x (.int .i64 (areaN c r c' r')), .x (.bool true)] else .tup [.x (.int .i64 0), .x (.bool false)]
theorem areaV_no {s : ByteArray} {c r : Int} {s' : ByteArray} {c' r' : Int} (h : okA s c r s' c' r' = false) : areaV s c r s' c' r' = .tup [.x (.int .i64 0), .x (.bool false)] := by
  unfold areaV
  rw [if_neg (by rw [h]; decide)]
theorem areaV_yes {s : ByteArray} {c r : Int} {s' : ByteArray} {c' r' : Int} (h : okA s c r s' c' r' = true) : areaV s c r s' c' r' = .tup [.x (.int .i64 (areaN c r c' r')), .x (.bool true)] := if_pos h
theorem area_in {c r c' r' : Int} (h1 : 1 ≤ c) (h2 : c' ≤ 702) (h3 : 1 ≤ r) (h4 : r' ≤ 999) (h5 : c ≤ c') (h6 : r ≤ r') : 1 ≤ areaN c r c' r' ∧ areaN c r c' r' ≤ 1000000 := by
  unfold areaN
  obtain ⟨a, ha⟩ : ∃ a : Nat, c' - c = a := ⟨(c' - c).toNat, by omega⟩
  obtain ⟨b, hb⟩ : ∃ b : Nat, r' - r = b := ⟨(r' - r).toNat, by omega⟩
  rw [ha, hb]
  have h : (a + 1) * (b + 1) ≤ 702 * 999 := Nat.mul_le_mul (by omega) (by omega)
  have h' : 1 * 1 ≤ (a + 1) * (b + 1) := Nat.mul_le_mul (by omega) (by omega)
  have e : ((a : Int) + 1) * ((b : Int) + 1) = (((a + 1) * (b + 1) : Nat) : Int) := by push_cast; rfl
  rw [e]
  omega
def FArea : List V → Option V
  | [.agg [.x (.string s), .x (.int .i64 c), .x (.int .i64 r), .x (.string s'), .x (.int .i64 c'), .x (.int .i64 r')]] => some (areaV s c r s' c' r')
  | _ => none
set_option maxHeartbeats 2000000 in
set_option maxRecDepth 100000 in
theorem area_fun : FunV 10 FArea := by
  refine fun_of_run (E := envOf [(12, FRightC)]) (k := 1) (envOK_of _ ⟨right_fun, trivial⟩) (by kernel_rfl) Tryd.func10 rfl (fun a w => Tryd.call10 a w) Tryd.ntmps10 (by kernel_rfl) (by decide) ?_
  intro us r hF hdat
  unfold FArea at hF
  split at hF
  case h_2 => cases hF
  rename_i s c r s' c' r'
  cases hF
  refine ⟨rfl, ?_⟩
  cases hR : rightC s c r
  · rw [areaV_no (okA_1 hR)]
    simp (decide := true) (maxDischargeDepth := 200) only [go_sem, FRightC, hR, Tryd.results10]
  · cases hR' : rightC s' c' r'
    · rw [areaV_no (okA_2 hR')]
      simp (decide := true) (maxDischargeDepth := 200) only [go_sem, FRightC, hR, hR', Tryd.results10]
    · by_cases hs : s = s'
      · obtain ⟨_, b1, b2, b3, b4⟩ := rightC_iff.1 hR
        obtain ⟨_, b1', b2', b3', b4'⟩ := rightC_iff.1 hR'
        have ds := decide_eq_true hs
        have w1 : bWrap .i64 (c' - c) = c' - c := bwrap_of (by unfold inR; omega)
        have w2 : bWrap .i64 (c' - c + 1) = c' - c + 1 := bwrap_of (by unfold inR; omega)
        have w3 : bWrap .i64 (r' - r) = r' - r := bwrap_of (by unfold inR; omega)
        have w4 : bWrap .i64 (r' - r + 1) = r' - r + 1 := bwrap_of (by unfold inR; omega)
        by_cases hc : c ≤ c'
        · by_cases hr : r ≤ r'
          · have ha := area_in b1 b2' b3 b4' hc hr
            have w5 : bWrap .i64 ((c' - c + 1) * (r' - r + 1)) = areaN c r c' r' := bwrap_of (by show inR (areaN c r c' r'); unfold inR; omega)
            rw [areaV_yes (okA_iff.2 ⟨hR, hR', hs, hc, hr⟩)]
            have d1 : decide (c' - c + 1 < 1) = false := decide_eq_false (by omega)
            have d2 : decide (r' - r + 1 < 1) = false := decide_eq_false (by omega)
            simp (decide := true) (maxDischargeDepth := 200) only [go_sem, FRightC, hR, hR', ds, w1, w2, w3, w4, w5, d1, d2, Tryd.results10]
          · have d1 : decide (c' - c + 1 < 1) = false := decide_eq_false (by omega)
            have d2 : decide (r' - r + 1 < 1) = true := decide_eq_true (by omega)
            rw [areaV_no (okA_5 hr)]
            simp (decide := true) (maxDischargeDepth := 200) only [go_sem, FRightC, hR, hR', ds, w1, w2, w3, w4, d1, d2, Tryd.results10]
        · have d1 : decide (c' - c + 1 < 1) = true := decide_eq_true (by omega)
          rw [areaV_no (okA_4 hc)]
          simp (decide := true) (maxDischargeDepth := 200) only [go_sem, FRightC, hR, hR', ds, w1, w2, w3, w4, d1, Tryd.results10]
      · have ds := decide_eq_false hs
        rw [areaV_no (okA_3 hs)]
        simp (decide := true) (maxDischargeDepth := 200) only [go_sem, FRightC, hR, hR', ds, Tryd.results10]

set_option maxHeartbeats 2000000 in
set_option maxRecDepth 100000 in
theorem rarea_fun : FunV 11 FArea := by
  refine fun_of_run (E := envOf [(13, FRightC)]) (k := 1) (envOK_of _ ⟨rright_fun, trivial⟩) (by kernel_rfl) Tryd.func11 rfl (fun a w => Tryd.call11 a w) Tryd.ntmps11 (by kernel_rfl) (by decide) ?_
  intro us r hF hdat
  unfold FArea at hF
  split at hF
  case h_2 => cases hF
  rename_i s c r s' c' r'
  cases hF
  refine ⟨rfl, ?_⟩
  cases hR : rightC s c r
  · rw [areaV_no (okA_1 hR)]
    simp (decide := true) (maxDischargeDepth := 200) only [go_sem, FRightC, hR, Tryd.results11]
  · cases hR' : rightC s' c' r'
    · rw [areaV_no (okA_2 hR')]
      simp (decide := true) (maxDischargeDepth := 200) only [go_sem, FRightC, hR, hR', Tryd.results11]
    · by_cases hs : s = s'
      · obtain ⟨_, b1, b2, b3, b4⟩ := rightC_iff.1 hR
        obtain ⟨_, b1', b2', b3', b4'⟩ := rightC_iff.1 hR'
        have ds := decide_eq_true hs
        have w1 : bWrap .i64 (c' - c) = c' - c := bwrap_of (by unfold inR; omega)
        have w2 : bWrap .i64 (c' - c + 1) = c' - c + 1 := bwrap_of (by unfold inR; omega)
        have w3 : bWrap .i64 (r' - r) = r' - r := bwrap_of (by unfold inR; omega)
        have w4 : bWrap .i64 (r' - r + 1) = r' - r + 1 := bwrap_of (by unfold inR; omega)
        by_cases hc : c ≤ c'
        · by_cases hr : r ≤ r'
          · have ha := area_in b1 b2' b3 b4' hc hr
            have w5 : bWrap .i64 ((c' - c + 1) * (r' - r + 1)) = areaN c r c' r' := bwrap_of (by show inR (areaN c r c' r'); unfold inR; omega)
            rw [areaV_yes (okA_iff.2 ⟨hR, hR', hs, hc, hr⟩)]
            have d1 : decide (c' < c) = false := decide_eq_false (by omega)
            have d2 : decide (r' < r) = false := decide_eq_false (by omega)
            simp (decide := true) (maxDischargeDepth := 200) only [go_sem, FRightC, hR, hR', ds, w1, w2, w3, w4, w5, d1, d2, Tryd.results11]
          · have d1 : decide (c' < c) = false := decide_eq_false (by omega)
            have d2 : decide (r' < r) = true := decide_eq_true (by omega)
            rw [areaV_no (okA_5 hr)]
            simp (decide := true) (maxDischargeDepth := 200) only [go_sem, FRightC, hR, hR', ds, d1, d2, Tryd.results11]
        · have d1 : decide (c' < c) = true := decide_eq_true (by omega)
          rw [areaV_no (okA_4 hc)]
          simp (decide := true) (maxDischargeDepth := 200) only [go_sem, FRightC, hR, hR', ds, d1, Tryd.results11]
      · have ds := decide_eq_false hs
        rw [areaV_no (okA_3 hs)]
        simp (decide := true) (maxDischargeDepth := 200) only [go_sem, FRightC, hR, hR', ds, Tryd.results11]


def inB (s : ByteArray) (c r : Int) (s' : ByteArray) (c' r' : Int) (s0 : ByteArray) (c0 r0 : Int) : Bool := okA s c r s' c' r' && (decide (s0 = s) && (decide (c ≤ c0) && (decide (c0 ≤ c') && (decide (r ≤ r0) && decide (r0 ≤ r')))))
def FIn : List V → Option V
  | [.agg [.x (.string s), .x (.int .i64 c), .x (.int .i64 r), .x (.string s'), .x (.int .i64 c'), .x (.int .i64 r')], .agg [.x (.string s0), .x (.int .i64 c0), .x (.int .i64 r0)]] => some (.x (.bool (inB s c r s' c' r' s0 c0 r0)))
  | _ => none
set_option maxHeartbeats 2000000 in
set_option maxRecDepth 100000 in
theorem in_fun : FunV 21 FIn := by
  refine fun_of_run (E := envOf [(10, FArea)]) (k := 2) (envOK_of _ ⟨area_fun, trivial⟩) (by kernel_rfl) Tryd.func21 rfl (fun a w => Tryd.call21 a w) Tryd.ntmps21 (by kernel_rfl) (by decide) ?_
  intro us r hF hdat
  unfold FIn at hF
  split at hF
  case h_2 => cases hF
  rename_i s c r s' c' r' s0 c0 r0
  cases hF
  refine ⟨rfl, ?_⟩
  cases hok : okA s c r s' c' r'
  · have ha := areaV_no hok
    simp (decide := true) (maxDischargeDepth := 200) only [go_sem, FArea, ha, hok, inB, Tryd.results21]
  · have ha := areaV_yes hok
    by_cases h0 : s0 = s
    · have d0 := decide_eq_true h0
      by_cases h1 : c ≤ c0
      · have d1 := decide_eq_true h1
        by_cases h2 : c0 ≤ c'
        · have d2 := decide_eq_true h2
          by_cases h3 : r ≤ r0
          · have d3 := decide_eq_true h3
            simp (decide := true) (maxDischargeDepth := 200) only [go_sem, FArea, ha, hok, inB, d0, d1, d2, d3, Tryd.results21]
          · have d3 := decide_eq_false h3
            simp (decide := true) (maxDischargeDepth := 200) only [go_sem, FArea, ha, hok, inB, d0, d1, d2, d3, Tryd.results21]
        · have d2 := decide_eq_false h2
          simp (decide := true) (maxDischargeDepth := 200) only [go_sem, FArea, ha, hok, inB, d0, d1, d2, Tryd.results21]
      · have d1 := decide_eq_false h1
        simp (decide := true) (maxDischargeDepth := 200) only [go_sem, FArea, ha, hok, inB, d0, d1, Tryd.results21]
    · have d0 := decide_eq_false h0
      simp (decide := true) (maxDischargeDepth := 200) only [go_sem, FArea, ha, hok, inB, d0, Tryd.results21]

set_option maxHeartbeats 2000000 in
set_option maxRecDepth 100000 in
theorem rin_fun : FunV 22 FIn := by
  refine fun_of_run (E := envOf [(11, FArea)]) (k := 2) (envOK_of _ ⟨rarea_fun, trivial⟩) (by kernel_rfl) Tryd.func22 rfl (fun a w => Tryd.call22 a w) Tryd.ntmps22 (by kernel_rfl) (by decide) ?_
  intro us r hF hdat
  unfold FIn at hF
  split at hF
  case h_2 => cases hF
  rename_i s c r s' c' r' s0 c0 r0
  cases hF
  refine ⟨rfl, ?_⟩
  cases hok : okA s c r s' c' r'
  · have ha := areaV_no hok
    simp (decide := true) (maxDischargeDepth := 200) only [go_sem, FArea, ha, hok, inB, Tryd.results22]
  · have ha := areaV_yes hok
    by_cases h0 : s0 = s
    · have d0 := decide_eq_true h0
      by_cases h1 : c ≤ c0
      · have d1 := decide_eq_true h1
        by_cases h2 : c0 ≤ c'
        · have d2 := decide_eq_true h2
          by_cases h3 : r ≤ r0
          · have d3 := decide_eq_true h3
            simp (decide := true) (maxDischargeDepth := 200) only [go_sem, FArea, ha, hok, inB, d0, d1, d2, d3, Tryd.results22]
          · have d3 := decide_eq_false h3
            simp (decide := true) (maxDischargeDepth := 200) only [go_sem, FArea, ha, hok, inB, d0, d1, d2, d3, Tryd.results22]
        · have d2 := decide_eq_false h2
          simp (decide := true) (maxDischargeDepth := 200) only [go_sem, FArea, ha, hok, inB, d0, d1, d2, Tryd.results22]
      · have d1 := decide_eq_false h1
        simp (decide := true) (maxDischargeDepth := 200) only [go_sem, FArea, ha, hok, inB, d0, d1, Tryd.results22]
    · have d0 := decide_eq_false h0
      simp (decide := true) (maxDischargeDepth := 200) only [go_sem, FArea, ha, hok, inB, d0, Tryd.results22]


def lessC (s : ByteArray) (c r : Int) (s' : ByteArray) (c' r' : Int) : Bool := if s = s' then (if r = r' then decide (c < c') else decide (r < r')) else Op.bytesLess s.toList s'.toList
def FLess : List V → Option V
  | [.agg [.x (.string s), .x (.int .i64 c), .x (.int .i64 r)], .agg [.x (.string s'), .x (.int .i64 c'), .x (.int .i64 r')]] => some (.x (.bool (lessC s c r s' c' r')))
  | _ => none
def FNaN : List V → Option V
  | [.x (.string _)] => some (.x (.bool false))
  | _ => none
set_option maxRecDepth 100000 in
theorem nan_fun : FunV 49 FNaN := by
  refine fun_of_run (E := envOf []) (k := 1) (envOK_of _ trivial) (by kernel_rfl) Tryd.func49 rfl (fun a w => Tryd.call49 a w) Tryd.ntmps49 (by kernel_rfl) (by decide) ?_
  intro us r hF hdat
  unfold FNaN at hF
  split at hF
  case h_2 => cases hF
  rename_i s
  cases hF
  refine ⟨rfl, ?_⟩
  have d0 : decide (s = s) = true := decide_eq_true rfl
  simp (decide := true) (maxDischargeDepth := 200) only [go_sem, d0, Tryd.results49]


def cmpT (a b : ByteArray) : Int := if Op.bytesLess a.toList b.toList = true then -1 else if a = b then 0 else 1
def FCmpS : List V → Option V
  | [.x (.string a), .x (.string b)] => some (.x (.int .i64 (cmpT a b)))
  | _ => none
set_option maxRecDepth 100000 in
theorem cmps_fun : FunV 40 FCmpS := by
  refine fun_of_run (E := envOf [(49, FNaN)]) (k := 2) (envOK_of _ ⟨nan_fun, trivial⟩) (by kernel_rfl) Tryd.func40 rfl (fun a w => Tryd.call40 a w) Tryd.ntmps40 (by kernel_rfl) (by decide) ?_
  intro us r hF hdat
  unfold FCmpS at hF
  split at hF
  case h_2 => cases hF
  rename_i a b
  cases hF
  refine ⟨rfl, ?_⟩
  cases hl : Op.bytesLess a.toList b.toList
  · by_cases he : a = b
    · have e : cmpT a b = 0 := by subst he; simp [cmpT, hl]
      have d0 := decide_eq_true he
      simp (decide := true) (maxDischargeDepth := 200) only [go_sem, FNaN, hl, d0, e, Tryd.results40]
    · have e : cmpT a b = 1 := by simp [cmpT, hl, he]
      have d0 := decide_eq_false he
      simp (decide := true) (maxDischargeDepth := 200) only [go_sem, FNaN, hl, d0, e, Tryd.results40]
  · have e : cmpT a b = -1 := by simp [cmpT, hl]
    simp (decide := true) (maxDischargeDepth := 200) only [go_sem, FNaN, hl, e, Tryd.results40]


def FCmpI : List V → Option V
  | [.x (.int .i64 a), .x (.int .i64 b)] => some (.x (.int .i64 (Lib.compareInt a b)))
  | _ => none
theorem cmpi_fun : FunV 41 FCmpI := by
  refine ⟨fun a w => Tryd.call41 a w, fun m w vs us r hF hd hr hj hg => ?_⟩
  unfold FCmpI at hF
  split at hF
  case h_2 => cases hF
  rename_i a b
  cases hF
  obtain rfl := args_eq (xs := [.int .i64 a, .int .i64 b]) hr rfl
  refine (Tryd.cmp_Compare_int a b w).mono ?_
  rintro e w' ⟨rfl, rfl⟩
  exact ⟨_, m, rfl, .x _, Below.refl _ _, fun _ _ => rfl⟩
def intsOf : List V → Option (List Int)
  | [] => some []
  | .x (.int .i64 n) :: l => match intsOf l with
    | some r => some (n :: r)
    | none => none
  | _ => none
def intV1 (n : Int) : V := .x (.int .i64 n)
theorem intsOf_is : ∀ {es : List V} {l : List Int}, intsOf es = some l → es = l.map intV1
  | [], l, h => by cases h; rfl
  | e :: es, l, h => by
    unfold intsOf at h
    split at h
    · cases ‹e :: es = []›
    · rename_i n l' he
      cases he
      split at h
      · rename_i r hr
        cases h
        rw [intsOf_is hr]
        rfl
      · cases h
    · cases h
def or0 : List Int → Int
  | [] => 0
  | n :: l => if n = 0 then or0 l else n
theorem or0_at : ∀ {l : List Int} {i : Nat} {n : Int}, (∀ (j : Nat) (k : Int), j < i → l[j]? = some k → k = 0) → l[i]? = some n → ¬ n = 0 → or0 l = n
  | [], i, n, _, h, _ => by simp at h
  | a :: l, 0, n, _, h, hn => by simp at h; subst h; simp [or0, hn]
  | a :: l, i + 1, n, h0, h, hn => by
    have ha : a = 0 := h0 0 a (by omega) rfl
    simp only [or0, ha, if_true]
    exact or0_at (i := i) (fun j k hj hk => h0 (j + 1) k (by omega) (by simpa using hk)) (by simpa using h) hn
theorem or0_none : ∀ {l : List Int}, (∀ (j : Nat) (k : Int), l[j]? = some k → k = 0) → or0 l = 0
  | [], _ => rfl
  | a :: l, h => by
    have ha : a = 0 := h 0 a rfl
    simp only [or0, ha, if_true]
    exact or0_none (fun j k hk => h (j + 1) k (by simpa using hk))
def FOr : List V → Option V
  | [.sl _ 1 es none] => match intsOf es with
    | some l => if l.length ≤ 1000000 then some (.x (.int .i64 (or0 l))) else none
    | none => none
  | _ => none
set_option maxHeartbeats 2000000 in
set_option maxRecDepth 100000 in
theorem or_fun : FunV 39 FOr := by
  refine fun_of_run (E := envOf []) (k := 1) (envOK_of _ trivial) (by kernel_rfl) Tryd.func39 rfl (fun a w => Tryd.call39 a w) Tryd.ntmps39 (by kernel_rfl) (by decide) ?_
  intro us r hF hdat
  unfold FOr at hF
  split at hF
  case h_2 => cases hF
  rename_i nl es
  split at hF
  case h_2 => cases hF
  rename_i l hl
  split at hF
  case isFalse => cases hF
  rename_i hle
  cases hF
  refine ⟨rfl, ?_⟩
  obtain rfl := intsOf_is hl
  clear hl
  have hsz : (((l.map intV1).length : Nat) : Int) = (l.length : Int) := by rw [List.length_map]
  simp (decide := true) (maxDischargeDepth := 200) only [go_sem, Tryd.results39]
  refine loop_of (X := {i : Nat // i ≤ l.length ∧ ∀ (j : Nat) (k : Int), j < i → l[j]? = some k → k = 0}) (fun i => [(3, .x (.int .i64 0)), (6, .sl nl 1 (l.map intV1) none), (7, .x (.int .i64 (l.length : Int))), (8, .x (.int .i64 i.1))]) (fun _ => []) (fun i => l.length - i.1) ⟨0, by omega, fun j k hj => by omega⟩ (by simp (decide := true) only [go_sem, hsz]; rfl) trivial (fun ⟨i, hi, hz⟩ => ?_)
  by_cases hil : i < l.length
  · have hb : l[i]? = some l[i] := List.getElem?_eq_getElem hil
    generalize l[i] = n at hb
    have d0 : decide ((i : Int) < (l.length : Int)) = true := decide_eq_true (by omega)
    have c2 : (0 : Int) ≤ (i : Int) := by omega
    have c4 := count_up (i := i) (by omega)
    have c5 : (l.map intV1)[((i : Int)).toNat]? = some (.x (.int .i64 n)) := by rw [Int.toNat_natCast, List.getElem?_map, hb]; rfl
    by_cases hn : n = 0
    · have d1 := decide_eq_true hn
      simp (decide := true) (maxDischargeDepth := 200) only [go_sem, d0, c2, c4, c5, d1, Tryd.results39]
      refine ⟨⟨i + 1, by omega, fun j k hj hk => ?_⟩, ?_, trivial, by simp only; omega⟩
      · by_cases hji : j = i
        · subst hji; rw [hb] at hk; cases hk; exact hn
        · exact hz j k (by omega) hk
      · simp (decide := true) only [go_sem]
    · have d1 := decide_eq_false hn
      have e := or0_at hz hb hn
      simp (decide := true) (maxDischargeDepth := 200) only [go_sem, d0, c2, c4, c5, d1, e, Tryd.results39]
  · have d0 : decide ((i : Int) < (l.length : Int)) = false := decide_eq_false (by omega)
    have e := or0_none (l := l) (fun j k hk => hz j k (by have := (List.getElem?_eq_some_iff.1 hk).1; omega) hk)
    simp (decide := true) (maxDischargeDepth := 200) only [go_sem, d0, e, Tryd.results39]


theorem bless_irrefl (a : ByteArray) : Op.bytesLess a.toList a.toList = false := by
  generalize a.toList = l
  induction l with
  | nil => rfl
  | cons b l ih => simp [Op.bytesLess, ih]
theorem less_or (s : ByteArray) (c r : Int) (s' : ByteArray) (c' r' : Int) : decide (or0 [cmpT s s', Lib.compareInt r r', Lib.compareInt c c'] < 0) = lessC s c r s' c' r' := by
  unfold lessC
  by_cases hs : s = s'
  · subst hs
    have e : cmpT s s = 0 := by simp [cmpT, bless_irrefl]
    rw [e, if_pos rfl]
    simp only [or0, if_true, Lib.compareInt]
    rw [Bool.eq_iff_iff]
    simp only [decide_eq_true_eq]
    by_cases hr : r = r'
    · subst hr
      simp only [Int.lt_irrefl, if_false, if_true, decide_eq_true_eq]
      split
      · split at * <;> (try split at *) <;> omega
      · split at * <;> (try split at *) <;> omega
    · rw [if_neg hr]
      simp only [decide_eq_true_eq]
      split <;> (try split) <;> (try split) <;> (try split) <;> omega
  · rw [if_neg hs]
    have e : cmpT s s' ≠ 0 := by unfold cmpT; split <;> (try split) <;> simp_all
    simp only [or0, if_neg e]
    unfold cmpT
    cases h : Op.bytesLess s.toList s'.toList
    · simp [hs]
    · simp
set_option maxHeartbeats 2000000 in
set_option maxRecDepth 100000 in
theorem less_fun : FunV 23 FLess := by
  refine fun_of_run (E := envOf [(40, FCmpS), (41, FCmpI), (39, FOr)]) (k := 2) (envOK_of _ ⟨cmps_fun, cmpi_fun, or_fun, trivial⟩) (by kernel_rfl) Tryd.func23 rfl (fun a w => Tryd.call23 a w) Tryd.ntmps23 (by kernel_rfl) (by decide) ?_
  intro us r hF hdat
  unfold FLess at hF
  split at hF
  case h_2 => cases hF
  rename_i s c r s' c' r'
  cases hF
  refine ⟨rfl, ?_⟩
  have e := less_or s c r s' c' r'
  simp (decide := true) (maxDischargeDepth := 200) only [go_sem, FCmpS, FCmpI, FOr, intsOf, e, Tryd.results23]

set_option maxHeartbeats 2000000 in
set_option maxRecDepth 100000 in
theorem rless_fun : FunV 24 FLess := by
  refine fun_of_run (E := envOf []) (k := 2) (envOK_of _ trivial) (by kernel_rfl) Tryd.func24 rfl (fun a w => Tryd.call24 a w) Tryd.ntmps24 (by kernel_rfl) (by decide) ?_
  intro us r hF hdat
  unfold FLess at hF
  split at hF
  case h_2 => cases hF
  rename_i s c r s' c' r'
  cases hF
  refine ⟨rfl, ?_⟩
  by_cases hs : s = s'
  · have ds := decide_eq_true hs
    by_cases hr : r = r'
    · have dr := decide_eq_true hr
      have e : lessC s c r s' c' r' = decide (c < c') := by unfold lessC; rw [if_pos hs, if_pos hr]
      simp (decide := true) (maxDischargeDepth := 200) only [go_sem, ds, dr, e, Tryd.results24]
    · have dr := decide_eq_false hr
      have e : lessC s c r s' c' r' = decide (r < r') := by unfold lessC; rw [if_pos hs, if_neg hr]
      simp (decide := true) (maxDischargeDepth := 200) only [go_sem, ds, dr, e, Tryd.results24]
  · have ds := decide_eq_false hs
    have e : lessC s c r s' c' r' = Op.bytesLess s.toList s'.toList := by unfold lessC; rw [if_neg hs]
    simp (decide := true) (maxDischargeDepth := 200) only [go_sem, ds, e, Tryd.results24]

end Go.Proofs.YtcolepbcibidaaaDoor
