/- Which cells and ranges may be: package addr and the reference, as functions of plain data. -/
import Derived.Test.YteibnmlfipkmeaaGreatDoorAdA
namespace Go.Proofs.YteibnmlfipkmeaaGreatDoor
open Go Go.RowKit
set_option linter.unusedSimpArgs false

/-- Which cells may be. -/
def rightC (s : ByteArray) (c r : Int) : Bool := nameB s && decide (1 ≤ c) && decide (c ≤ 702) && decide (1 ≤ r) && decide (r ≤ 999)
theorem rightC_iff {s : ByteArray} {c r : Int} : rightC s c r = true ↔ nameB s = true ∧ 1 ≤ c ∧ c ≤ 702 ∧ 1 ≤ r ∧ r ≤ 999 := by
  simp [rightC, and_assoc]
/-- A cell. -/
abbrev cl (s : ByteArray) (c r : Int) : V := .agg [.x (.string s), .x (.int .i64 c), .x (.int .i64 r)]
attribute [go_sem] cl
def FRightC : List V → Option V
  | [.agg [.x (.string s), .x (.int .i64 c), .x (.int .i64 r)]] => some (.x (.bool (rightC s c r)))
  | _ => none
set_option maxRecDepth 100000 in
theorem right_fun : FunV 62 FRightC := by
  refine fun_of_run (E := envOf [(25, FName)]) (k := 1) (envOK_of _ ⟨name_fun, trivial⟩) (by kernel_rfl) Tryz.func62 rfl (fun a w => Tryz.call62 a w) Tryz.ntmps62 (by kernel_rfl) (by decide) (by decide) ?_
  intro us r hF hdat
  unfold FRightC at hF
  split at hF
  case h_2 => cases hF
  rename_i s c r
  cases hF
  refine ⟨rfl, ?_⟩
  cases hn : nameB s
  · simp (decide := true) (maxDischargeDepth := 200) only [go_sem, FName, hn, rightC, Tryz.results62]
  · by_cases h1 : 1 ≤ c
    · have d1 := decide_eq_true h1
      by_cases h2 : c ≤ 702
      · have d2 := decide_eq_true h2
        by_cases h3 : 1 ≤ r
        · have d3 := decide_eq_true h3
          simp (decide := true) (maxDischargeDepth := 200) only [go_sem, FName, hn, rightC, d1, d2, d3, Tryz.results62]
        · have d3 := decide_eq_false h3
          simp (decide := true) (maxDischargeDepth := 200) only [go_sem, FName, hn, rightC, d1, d2, d3, Tryz.results62]
      · have d2 := decide_eq_false h2
        simp (decide := true) (maxDischargeDepth := 200) only [go_sem, FName, hn, rightC, d1, d2, Tryz.results62]
    · have d1 := decide_eq_false h1
      simp (decide := true) (maxDischargeDepth := 200) only [go_sem, FName, hn, rightC, d1, Tryz.results62]

set_option maxRecDepth 100000 in
theorem rright_fun : FunV 43 FRightC := by
  refine fun_of_run (E := envOf [(11, FName)]) (k := 1) (envOK_of _ ⟨rname_fun, trivial⟩) (by kernel_rfl) Tryz.func43 rfl (fun a w => Tryz.call43 a w) Tryz.ntmps43 (by kernel_rfl) (by decide) (by decide) ?_
  intro us r hF hdat
  unfold FRightC at hF
  split at hF
  case h_2 => cases hF
  rename_i s c r
  cases hF
  refine ⟨rfl, ?_⟩
  cases hn : nameB s
  · simp (decide := true) (maxDischargeDepth := 200) only [go_sem, FName, hn, rightC, Tryz.results43]
  · by_cases h1 : 1 ≤ c
    · have d1 := decide_eq_true h1
      by_cases h2 : c ≤ 702
      · have d2 := decide_eq_true h2
        by_cases h3 : 1 ≤ r
        · have d3 := decide_eq_true h3
          simp (decide := true) (maxDischargeDepth := 200) only [go_sem, FName, hn, rightC, d1, d2, d3, Tryz.results43]
        · have d3 := decide_eq_false h3
          simp (decide := true) (maxDischargeDepth := 200) only [go_sem, FName, hn, rightC, d1, d2, d3, Tryz.results43]
      · have d2 := decide_eq_false h2
        simp (decide := true) (maxDischargeDepth := 200) only [go_sem, FName, hn, rightC, d1, d2, Tryz.results43]
    · have d1 := decide_eq_false h1
      simp (decide := true) (maxDischargeDepth := 200) only [go_sem, FName, hn, rightC, d1, Tryz.results43]


/-- Which ranges may be. -/
def okA (s : ByteArray) (c r : Int) (s' : ByteArray) (c' r' : Int) : Bool := rightC s c r && rightC s' c' r' && decide (s = s') && decide (c ≤ c') && decide (r ≤ r')
def areaN (c r c' r' : Int) : Int := (c' - c + 1) * (r' - r + 1)
theorem okA_iff {s : ByteArray} {c r : Int} {s' : ByteArray} {c' r' : Int} : okA s c r s' c' r' = true ↔ rightC s c r = true ∧ rightC s' c' r' = true ∧ s = s' ∧ c ≤ c' ∧ r ≤ r' := by
  simp [okA, and_assoc]
theorem okA_1 {s : ByteArray} {c r : Int} {s' : ByteArray} {c' r' : Int} (h : rightC s c r = false) : okA s c r s' c' r' = false := by simp [okA, h]
theorem okA_2 {s : ByteArray} {c r : Int} {s' : ByteArray} {c' r' : Int} (h : rightC s' c' r' = false) : okA s c r s' c' r' = false := by simp [okA, h]
theorem okA_3 {s : ByteArray} {c r : Int} {s' : ByteArray} {c' r' : Int} (h : ¬ s = s') : okA s c r s' c' r' = false := by simp [okA, h]
theorem okA_4 {s : ByteArray} {c r : Int} {s' : ByteArray} {c' r' : Int} (h : ¬ c ≤ c') : okA s c r s' c' r' = false := by simp [okA, h]
theorem okA_5 {s : ByteArray} {c r : Int} {s' : ByteArray} {c' r' : Int} (h : ¬ r ≤ r') : okA s c r s' c' r' = false := by simp [okA, h]
def areaV (s : ByteArray) (c r : Int) (s' : ByteArray) (c' r' : Int) : V :=
  if okA s c r s' c' r' = true then .tup [.x (.int .i64 (areaN c r c' r')), .x (.bool true)] else .tup [.x (.int .i64 0), .x (.bool false)]
theorem areaV_no {s : ByteArray} {c r : Int} {s' : ByteArray} {c' r' : Int} (h : okA s c r s' c' r' = false) : areaV s c r s' c' r' = .tup [.x (.int .i64 0), .x (.bool false)] := by
  unfold areaV
  rw [if_neg (by rw [h]; decide)]
theorem areaV_yes {s : ByteArray} {c r : Int} {s' : ByteArray} {c' r' : Int} (h : okA s c r s' c' r' = true) : areaV s c r s' c' r' = .tup [.x (.int .i64 (areaN c r c' r')), .x (.bool true)] := if_pos h
theorem area_in {c r c' r' : Int} (h1 : 1 ≤ c) (h2 : c' ≤ 702) (h3 : 1 ≤ r) (h4 : r' ≤ 999) (h5 : c ≤ c') (h6 : r ≤ r') : 1 ≤ areaN c r c' r' ∧ areaN c r c' r' ≤ 1000000 := by
  unfold areaN
  obtain ⟨a, ha⟩ : ∃ a : Nat, c' - c = a := ⟨(c' - c).toNat, by omega⟩
  obtain ⟨b, hb⟩ : ∃ b : Nat, r' - r = b := ⟨(r' - r).toNat, by omega⟩
  rw [ha, hb]
  have h : (a + 1) * (b + 1) ≤ 702 * 999 := Nat.mul_le_mul (by omega) (by omega)
  have h' : 1 * 1 ≤ (a + 1) * (b + 1) := Nat.mul_le_mul (by omega) (by omega)
  have e : ((a : Int) + 1) * ((b : Int) + 1) = (((a + 1) * (b + 1) : Nat) : Int) := by push_cast; rfl
  rw [e]
  omega
def FArea : List V → Option V
  | [.agg [.x (.string s), .x (.int .i64 c), .x (.int .i64 r), .x (.string s'), .x (.int .i64 c'), .x (.int .i64 r')]] => some (areaV s c r s' c' r')
  | _ => none
set_option maxHeartbeats 2000000 in
set_option maxRecDepth 100000 in
theorem area_fun : FunV 98 FArea := by
  refine fun_of_run (E := envOf [(62, FRightC)]) (k := 1) (envOK_of _ ⟨right_fun, trivial⟩) (by kernel_rfl) Tryz.func98 rfl (fun a w => Tryz.call98 a w) Tryz.ntmps98 (by kernel_rfl) (by decide) (by decide) ?_
  intro us r hF hdat
  unfold FArea at hF
  split at hF
  case h_2 => cases hF
  rename_i s c r s' c' r'
  cases hF
  refine ⟨rfl, ?_⟩
  cases hR : rightC s c r
  · rw [areaV_no (okA_1 hR)]
    simp (decide := true) (maxDischargeDepth := 200) only [go_sem, FRightC, hR, Tryz.results98]
  · cases hR' : rightC s' c' r'
    · rw [areaV_no (okA_2 hR')]
      simp (decide := true) (maxDischargeDepth := 200) only [go_sem, FRightC, hR, hR', Tryz.results98]
    · by_cases hs : s = s'
      · obtain ⟨_, b1, b2, b3, b4⟩ := rightC_iff.1 hR
        obtain ⟨_, b1', b2', b3', b4'⟩ := rightC_iff.1 hR'
        have ds := decide_eq_true hs
        have w1 : bWrap .i64 (c' - c) = c' - c := bwrap_of (by unfold inR; omega)
        have w2 : bWrap .i64 (c' - c + 1) = c' - c + 1 := bwrap_of (by unfold inR; omega)
        have w3 : bWrap .i64 (r' - r) = r' - r := bwrap_of (by unfold inR; omega)
        have w4 : bWrap .i64 (r' - r + 1) = r' - r + 1 := bwrap_of (by unfold inR; omega)
        by_cases hc : c ≤ c'
        · by_cases hr : r ≤ r'
          · have ha := area_in b1 b2' b3 b4' hc hr
            have w5 : bWrap .i64 ((c' - c + 1) * (r' - r + 1)) = areaN c r c' r' := bwrap_of (by show inR (areaN c r c' r'); unfold inR; omega)
            rw [areaV_yes (okA_iff.2 ⟨hR, hR', hs, hc, hr⟩)]
            have d1 : decide (c' - c + 1 < 1) = false := decide_eq_false (by omega)
            have d2 : decide (r' - r + 1 < 1) = false := decide_eq_false (by omega)
            simp (decide := true) (maxDischargeDepth := 200) only [go_sem, FRightC, hR, hR', ds, w1, w2, w3, w4, w5, d1, d2, Tryz.results98]
          · have d1 : decide (c' - c + 1 < 1) = false := decide_eq_false (by omega)
            have d2 : decide (r' - r + 1 < 1) = true := decide_eq_true (by omega)
            rw [areaV_no (okA_5 hr)]
            simp (decide := true) (maxDischargeDepth := 200) only [go_sem, FRightC, hR, hR', ds, w1, w2, w3, w4, d1, d2, Tryz.results98]
        · have d1 : decide (c' - c + 1 < 1) = true := decide_eq_true (by omega)
          rw [areaV_no (okA_4 hc)]
          simp (decide := true) (maxDischargeDepth := 200) only [go_sem, FRightC, hR, hR', ds, w1, w2, w3, w4, d1, Tryz.results98]
      · have ds := decide_eq_false hs
        rw [areaV_no (okA_3 hs)]
        simp (decide := true) (maxDischargeDepth := 200) only [go_sem, FRightC, hR, hR', ds, Tryz.results98]

set_option maxHeartbeats 2000000 in
set_option maxRecDepth 100000 in
theorem rarea_fun : FunV 44 FArea := by
  refine fun_of_run (E := envOf [(43, FRightC)]) (k := 1) (envOK_of _ ⟨rright_fun, trivial⟩) (by kernel_rfl) Tryz.func44 rfl (fun a w => Tryz.call44 a w) Tryz.ntmps44 (by kernel_rfl) (by decide) (by decide) ?_
  intro us r hF hdat
  unfold FArea at hF
  split at hF
  case h_2 => cases hF
  rename_i s c r s' c' r'
  cases hF
  refine ⟨rfl, ?_⟩
  cases hR : rightC s c r
  · rw [areaV_no (okA_1 hR)]
    simp (decide := true) (maxDischargeDepth := 200) only [go_sem, FRightC, hR, Tryz.results44]
  · cases hR' : rightC s' c' r'
    · rw [areaV_no (okA_2 hR')]
      simp (decide := true) (maxDischargeDepth := 200) only [go_sem, FRightC, hR, hR', Tryz.results44]
    · by_cases hs : s = s'
      · obtain ⟨_, b1, b2, b3, b4⟩ := rightC_iff.1 hR
        obtain ⟨_, b1', b2', b3', b4'⟩ := rightC_iff.1 hR'
        have ds := decide_eq_true hs
        have w1 : bWrap .i64 (c' - c) = c' - c := bwrap_of (by unfold inR; omega)
        have w2 : bWrap .i64 (c' - c + 1) = c' - c + 1 := bwrap_of (by unfold inR; omega)
        have w3 : bWrap .i64 (r' - r) = r' - r := bwrap_of (by unfold inR; omega)
        have w4 : bWrap .i64 (r' - r + 1) = r' - r + 1 := bwrap_of (by unfold inR; omega)
        by_cases hc : c ≤ c'
        · by_cases hr : r ≤ r'
          · have ha := area_in b1 b2' b3 b4' hc hr
            have w5 : bWrap .i64 ((c' - c + 1) * (r' - r + 1)) = areaN c r c' r' := bwrap_of (by show inR (areaN c r c' r'); unfold inR; omega)
            rw [areaV_yes (okA_iff.2 ⟨hR, hR', hs, hc, hr⟩)]
            have d1 : decide (c' < c) = false := decide_eq_false (by omega)
            have d2 : decide (r' < r) = false := decide_eq_false (by omega)
            simp (decide := true) (maxDischargeDepth := 200) only [go_sem, FRightC, hR, hR', ds, w1, w2, w3, w4, w5, d1, d2, Tryz.results44]
          · have d1 : decide (c' < c) = false := decide_eq_false (by omega)
            have d2 : decide (r' < r) = true := decide_eq_true (by omega)
            rw [areaV_no (okA_5 hr)]
            simp (decide := true) (maxDischargeDepth := 200) only [go_sem, FRightC, hR, hR', ds, d1, d2, Tryz.results44]
        · have d1 : decide (c' < c) = true := decide_eq_true (by omega)
          rw [areaV_no (okA_4 hc)]
          simp (decide := true) (maxDischargeDepth := 200) only [go_sem, FRightC, hR, hR', ds, d1, Tryz.results44]
      · have ds := decide_eq_false hs
        rw [areaV_no (okA_3 hs)]
        simp (decide := true) (maxDischargeDepth := 200) only [go_sem, FRightC, hR, hR', ds, Tryz.results44]


end Go.Proofs.YteibnmlfipkmeaaGreatDoor
