/- Formulas: signs, names of functions, values and ranges that may stand in one: package tree and the reference, as functions of plain data. -/
import Derived.Test.YtfmdcgakkijkdaaGreatDoorTrP
namespace Go.Proofs.YtfmdcgakkijkdaaGreatDoor
open Go Go.RowKit
set_option linter.unusedSimpArgs false
/-- The signs of two sides. -/
def opB (s : ByteArray) : Bool := (decide (s = ⟨#[43]⟩) || (decide (s = ⟨#[45]⟩) || (decide (s = ⟨#[42]⟩) || (decide (s = ⟨#[47]⟩) || (decide (s = ⟨#[38]⟩) || (decide (s = ⟨#[61]⟩) || (decide (s = ⟨#[60, 62]⟩) || (decide (s = ⟨#[60]⟩) || (decide (s = ⟨#[62]⟩) || (decide (s = ⟨#[60, 61]⟩) || decide (s = ⟨#[62, 61]⟩)))))))))))
def FOp : List V → Option V
  | [.x (.string s)] => some (.x (.bool (opB s)))
  | _ => none
theorem sym_dec (o s : ByteArray) : decide (o = s) = decide (s = o) := by
  by_cases h : s = o
  · rw [decide_eq_true h, decide_eq_true h.symm]
  · rw [decide_eq_false h, decide_eq_false (Ne.symm h)]
def opsL : List ByteArray := [⟨#[43]⟩, ⟨#[45]⟩, ⟨#[42]⟩, ⟨#[47]⟩, ⟨#[38]⟩, ⟨#[61]⟩, ⟨#[60, 62]⟩, ⟨#[60]⟩, ⟨#[62]⟩, ⟨#[60, 61]⟩, ⟨#[62, 61]⟩]
set_option maxRecDepth 100000 in
theorem rop_fun : FunV 41 FOp := by
  refine fun_of_run (E := envOf []) (k := 1) (envOK_of _ trivial) (by kernel_rfl) Tryz.func41 rfl (fun a w => Tryz.call41 a w) Tryz.ntmps41 (by kernel_rfl) (by decide) (by decide) ?_
  intro us r hF hdat
  unfold FOp at hF
  split at hF
  case h_2 => cases hF
  rename_i s
  cases hF
  refine ⟨rfl, ?_⟩
  simp (decide := true) (maxDischargeDepth := 200) only [go_sem, Tryz.results41]
  refine loop_of (X := {i : Nat // i ≤ 11 ∧ ∀ o ∈ opsL.take i, decide (s = o) = false}) (fun i => [(0, .x (.string s)), (3, .sl false 1 [.x (.string ⟨#[43]⟩), .x (.string ⟨#[45]⟩), .x (.string ⟨#[42]⟩), .x (.string ⟨#[47]⟩), .x (.string ⟨#[38]⟩), .x (.string ⟨#[61]⟩), .x (.string ⟨#[60, 62]⟩), .x (.string ⟨#[60]⟩), .x (.string ⟨#[62]⟩), .x (.string ⟨#[60, 61]⟩), .x (.string ⟨#[62, 61]⟩)] none), (4, .x (.int .i64 i.1))]) (fun _ => []) (fun i => 11 - i.1) ⟨0, by omega, fun o h => by simp at h⟩ (by simp (decide := true) only [go_sem]; rfl) trivial (fun ⟨i, hi, hok⟩ => ?_)
  have hcase : i = 0 ∨ i = 1 ∨ i = 2 ∨ i = 3 ∨ i = 4 ∨ i = 5 ∨ i = 6 ∨ i = 7 ∨ i = 8 ∨ i = 9 ∨ i = 10 ∨ i = 11 := by omega
  rcases hcase with rfl | rfl | rfl | rfl | rfl | rfl | rfl | rfl | rfl | rfl | rfl | rfl
  · cases he : decide (s = ⟨#[43]⟩)
    · have e := (sym_dec ⟨#[43]⟩ s).trans he
      simp (decide := true) (maxDischargeDepth := 200) only [go_sem, show ((0 : Nat) : Int) = 0 from rfl, show Int.toNat 0 = 0 from rfl, show ((11 : Nat) : Int) = 11 from rfl, Nat.reduceAdd, show bWrap .i64 (0 + 1) = 1 from bwrap_of (by unfold inR; omega), e, Tryz.results41]
      refine ⟨⟨1, by omega, fun o ho => ?_⟩, ?_, trivial, ?_⟩
      rotate_left
      · simp (decide := true) only [go_sem]; rfl
      · simp only; omega
      have ho : o ∈ opsL.take 0 ∨ o = ⟨#[43]⟩ := by simpa [opsL, or_assoc] using ho
      rcases ho with ho | rfl
      · exact hok o ho
      · exact he
    · have e := (sym_dec ⟨#[43]⟩ s).trans he
      have h2 : opB s = true := by simp only [opB, he, Bool.true_or, Bool.or_true]
      simp (decide := true) (maxDischargeDepth := 200) only [go_sem, show ((0 : Nat) : Int) = 0 from rfl, show Int.toNat 0 = 0 from rfl, show ((11 : Nat) : Int) = 11 from rfl, Nat.reduceAdd, show bWrap .i64 (0 + 1) = 1 from bwrap_of (by unfold inR; omega), e, h2, Tryz.results41]
  · cases he : decide (s = ⟨#[45]⟩)
    · have e := (sym_dec ⟨#[45]⟩ s).trans he
      simp (decide := true) (maxDischargeDepth := 200) only [go_sem, show ((1 : Nat) : Int) = 1 from rfl, show Int.toNat 1 = 1 from rfl, show ((11 : Nat) : Int) = 11 from rfl, Nat.reduceAdd, show bWrap .i64 (1 + 1) = 2 from bwrap_of (by unfold inR; omega), e, Tryz.results41]
      refine ⟨⟨2, by omega, fun o ho => ?_⟩, ?_, trivial, ?_⟩
      rotate_left
      · simp (decide := true) only [go_sem]; rfl
      · simp only; omega
      have ho : o ∈ opsL.take 1 ∨ o = ⟨#[45]⟩ := by simpa [opsL, or_assoc] using ho
      rcases ho with ho | rfl
      · exact hok o ho
      · exact he
    · have e := (sym_dec ⟨#[45]⟩ s).trans he
      have h2 : opB s = true := by simp only [opB, he, Bool.true_or, Bool.or_true]
      simp (decide := true) (maxDischargeDepth := 200) only [go_sem, show ((1 : Nat) : Int) = 1 from rfl, show Int.toNat 1 = 1 from rfl, show ((11 : Nat) : Int) = 11 from rfl, Nat.reduceAdd, show bWrap .i64 (1 + 1) = 2 from bwrap_of (by unfold inR; omega), e, h2, Tryz.results41]
  · cases he : decide (s = ⟨#[42]⟩)
    · have e := (sym_dec ⟨#[42]⟩ s).trans he
      simp (decide := true) (maxDischargeDepth := 200) only [go_sem, show ((2 : Nat) : Int) = 2 from rfl, show Int.toNat 2 = 2 from rfl, show ((11 : Nat) : Int) = 11 from rfl, Nat.reduceAdd, show bWrap .i64 (2 + 1) = 3 from bwrap_of (by unfold inR; omega), e, Tryz.results41]
      refine ⟨⟨3, by omega, fun o ho => ?_⟩, ?_, trivial, ?_⟩
      rotate_left
      · simp (decide := true) only [go_sem]; rfl
      · simp only; omega
      have ho : o ∈ opsL.take 2 ∨ o = ⟨#[42]⟩ := by simpa [opsL, or_assoc] using ho
      rcases ho with ho | rfl
      · exact hok o ho
      · exact he
    · have e := (sym_dec ⟨#[42]⟩ s).trans he
      have h2 : opB s = true := by simp only [opB, he, Bool.true_or, Bool.or_true]
      simp (decide := true) (maxDischargeDepth := 200) only [go_sem, show ((2 : Nat) : Int) = 2 from rfl, show Int.toNat 2 = 2 from rfl, show ((11 : Nat) : Int) = 11 from rfl, Nat.reduceAdd, show bWrap .i64 (2 + 1) = 3 from bwrap_of (by unfold inR; omega), e, h2, Tryz.results41]
  · cases he : decide (s = ⟨#[47]⟩)
    · have e := (sym_dec ⟨#[47]⟩ s).trans he
      simp (decide := true) (maxDischargeDepth := 200) only [go_sem, show ((3 : Nat) : Int) = 3 from rfl, show Int.toNat 3 = 3 from rfl, show ((11 : Nat) : Int) = 11 from rfl, Nat.reduceAdd, show bWrap .i64 (3 + 1) = 4 from bwrap_of (by unfold inR; omega), e, Tryz.results41]
      refine ⟨⟨4, by omega, fun o ho => ?_⟩, ?_, trivial, ?_⟩
      rotate_left
      · simp (decide := true) only [go_sem]; rfl
      · simp only; omega
      have ho : o ∈ opsL.take 3 ∨ o = ⟨#[47]⟩ := by simpa [opsL, or_assoc] using ho
      rcases ho with ho | rfl
      · exact hok o ho
      · exact he
    · have e := (sym_dec ⟨#[47]⟩ s).trans he
      have h2 : opB s = true := by simp only [opB, he, Bool.true_or, Bool.or_true]
      simp (decide := true) (maxDischargeDepth := 200) only [go_sem, show ((3 : Nat) : Int) = 3 from rfl, show Int.toNat 3 = 3 from rfl, show ((11 : Nat) : Int) = 11 from rfl, Nat.reduceAdd, show bWrap .i64 (3 + 1) = 4 from bwrap_of (by unfold inR; omega), e, h2, Tryz.results41]
  · cases he : decide (s = ⟨#[38]⟩)
    · have e := (sym_dec ⟨#[38]⟩ s).trans he
      simp (decide := true) (maxDischargeDepth := 200) only [go_sem, show ((4 : Nat) : Int) = 4 from rfl, show Int.toNat 4 = 4 from rfl, show ((11 : Nat) : Int) = 11 from rfl, Nat.reduceAdd, show bWrap .i64 (4 + 1) = 5 from bwrap_of (by unfold inR; omega), e, Tryz.results41]
      refine ⟨⟨5, by omega, fun o ho => ?_⟩, ?_, trivial, ?_⟩
      rotate_left
      · simp (decide := true) only [go_sem]; rfl
      · simp only; omega
      have ho : o ∈ opsL.take 4 ∨ o = ⟨#[38]⟩ := by simpa [opsL, or_assoc] using ho
      rcases ho with ho | rfl
      · exact hok o ho
      · exact he
    · have e := (sym_dec ⟨#[38]⟩ s).trans he
      have h2 : opB s = true := by simp only [opB, he, Bool.true_or, Bool.or_true]
      simp (decide := true) (maxDischargeDepth := 200) only [go_sem, show ((4 : Nat) : Int) = 4 from rfl, show Int.toNat 4 = 4 from rfl, show ((11 : Nat) : Int) = 11 from rfl, Nat.reduceAdd, show bWrap .i64 (4 + 1) = 5 from bwrap_of (by unfold inR; omega), e, h2, Tryz.results41]
  · cases he : decide (s = ⟨#[61]⟩)
    · have e := (sym_dec ⟨#[61]⟩ s).trans he
      simp (decide := true) (maxDischargeDepth := 200) only [go_sem, show ((5 : Nat) : Int) = 5 from rfl, show Int.toNat 5 = 5 from rfl, show ((11 : Nat) : Int) = 11 from rfl, Nat.reduceAdd, show bWrap .i64 (5 + 1) = 6 from bwrap_of (by unfold inR; omega), e, Tryz.results41]
      refine ⟨⟨6, by omega, fun o ho => ?_⟩, ?_, trivial, ?_⟩
      rotate_left
      · simp (decide := true) only [go_sem]; rfl
      · simp only; omega
      have ho : o ∈ opsL.take 5 ∨ o = ⟨#[61]⟩ := by simpa [opsL, or_assoc] using ho
      rcases ho with ho | rfl
      · exact hok o ho
      · exact he
    · have e := (sym_dec ⟨#[61]⟩ s).trans he
      have h2 : opB s = true := by simp only [opB, he, Bool.true_or, Bool.or_true]
      simp (decide := true) (maxDischargeDepth := 200) only [go_sem, show ((5 : Nat) : Int) = 5 from rfl, show Int.toNat 5 = 5 from rfl, show ((11 : Nat) : Int) = 11 from rfl, Nat.reduceAdd, show bWrap .i64 (5 + 1) = 6 from bwrap_of (by unfold inR; omega), e, h2, Tryz.results41]
  · cases he : decide (s = ⟨#[60, 62]⟩)
    · have e := (sym_dec ⟨#[60, 62]⟩ s).trans he
      simp (decide := true) (maxDischargeDepth := 200) only [go_sem, show ((6 : Nat) : Int) = 6 from rfl, show Int.toNat 6 = 6 from rfl, show ((11 : Nat) : Int) = 11 from rfl, Nat.reduceAdd, show bWrap .i64 (6 + 1) = 7 from bwrap_of (by unfold inR; omega), e, Tryz.results41]
      refine ⟨⟨7, by omega, fun o ho => ?_⟩, ?_, trivial, ?_⟩
      rotate_left
      · simp (decide := true) only [go_sem]; rfl
      · simp only; omega
      have ho : o ∈ opsL.take 6 ∨ o = ⟨#[60, 62]⟩ := by simpa [opsL, or_assoc] using ho
      rcases ho with ho | rfl
      · exact hok o ho
      · exact he
    · have e := (sym_dec ⟨#[60, 62]⟩ s).trans he
      have h2 : opB s = true := by simp only [opB, he, Bool.true_or, Bool.or_true]
      simp (decide := true) (maxDischargeDepth := 200) only [go_sem, show ((6 : Nat) : Int) = 6 from rfl, show Int.toNat 6 = 6 from rfl, show ((11 : Nat) : Int) = 11 from rfl, Nat.reduceAdd, show bWrap .i64 (6 + 1) = 7 from bwrap_of (by unfold inR; omega), e, h2, Tryz.results41]
  · cases he : decide (s = ⟨#[60]⟩)
    · have e := (sym_dec ⟨#[60]⟩ s).trans he
      simp (decide := true) (maxDischargeDepth := 200) only [go_sem, show ((7 : Nat) : Int) = 7 from rfl, show Int.toNat 7 = 7 from rfl, show ((11 : Nat) : Int) = 11 from rfl, Nat.reduceAdd, show bWrap .i64 (7 + 1) = 8 from bwrap_of (by unfold inR; omega), e, Tryz.results41]
      refine ⟨⟨8, by omega, fun o ho => ?_⟩, ?_, trivial, ?_⟩
      rotate_left
      · simp (decide := true) only [go_sem]; rfl
      · simp only; omega
      have ho : o ∈ opsL.take 7 ∨ o = ⟨#[60]⟩ := by simpa [opsL, or_assoc] using ho
      rcases ho with ho | rfl
      · exact hok o ho
      · exact he
    · have e := (sym_dec ⟨#[60]⟩ s).trans he
      have h2 : opB s = true := by simp only [opB, he, Bool.true_or, Bool.or_true]
      simp (decide := true) (maxDischargeDepth := 200) only [go_sem, show ((7 : Nat) : Int) = 7 from rfl, show Int.toNat 7 = 7 from rfl, show ((11 : Nat) : Int) = 11 from rfl, Nat.reduceAdd, show bWrap .i64 (7 + 1) = 8 from bwrap_of (by unfold inR; omega), e, h2, Tryz.results41]
  · cases he : decide (s = ⟨#[62]⟩)
    · have e := (sym_dec ⟨#[62]⟩ s).trans he
      simp (decide := true) (maxDischargeDepth := 200) only [go_sem, show ((8 : Nat) : Int) = 8 from rfl, show Int.toNat 8 = 8 from rfl, show ((11 : Nat) : Int) = 11 from rfl, Nat.reduceAdd, show bWrap .i64 (8 + 1) = 9 from bwrap_of (by unfold inR; omega), e, Tryz.results41]
      refine ⟨⟨9, by omega, fun o ho => ?_⟩, ?_, trivial, ?_⟩
      rotate_left
      · simp (decide := true) only [go_sem]; rfl
      · simp only; omega
      have ho : o ∈ opsL.take 8 ∨ o = ⟨#[62]⟩ := by simpa [opsL, or_assoc] using ho
      rcases ho with ho | rfl
      · exact hok o ho
      · exact he
    · have e := (sym_dec ⟨#[62]⟩ s).trans he
      have h2 : opB s = true := by simp only [opB, he, Bool.true_or, Bool.or_true]
      simp (decide := true) (maxDischargeDepth := 200) only [go_sem, show ((8 : Nat) : Int) = 8 from rfl, show Int.toNat 8 = 8 from rfl, show ((11 : Nat) : Int) = 11 from rfl, Nat.reduceAdd, show bWrap .i64 (8 + 1) = 9 from bwrap_of (by unfold inR; omega), e, h2, Tryz.results41]
  · cases he : decide (s = ⟨#[60, 61]⟩)
    · have e := (sym_dec ⟨#[60, 61]⟩ s).trans he
      simp (decide := true) (maxDischargeDepth := 200) only [go_sem, show ((9 : Nat) : Int) = 9 from rfl, show Int.toNat 9 = 9 from rfl, show ((11 : Nat) : Int) = 11 from rfl, Nat.reduceAdd, show bWrap .i64 (9 + 1) = 10 from bwrap_of (by unfold inR; omega), e, Tryz.results41]
      refine ⟨⟨10, by omega, fun o ho => ?_⟩, ?_, trivial, ?_⟩
      rotate_left
      · simp (decide := true) only [go_sem]; rfl
      · simp only; omega
      have ho : o ∈ opsL.take 9 ∨ o = ⟨#[60, 61]⟩ := by simpa [opsL, or_assoc] using ho
      rcases ho with ho | rfl
      · exact hok o ho
      · exact he
    · have e := (sym_dec ⟨#[60, 61]⟩ s).trans he
      have h2 : opB s = true := by simp only [opB, he, Bool.true_or, Bool.or_true]
      simp (decide := true) (maxDischargeDepth := 200) only [go_sem, show ((9 : Nat) : Int) = 9 from rfl, show Int.toNat 9 = 9 from rfl, show ((11 : Nat) : Int) = 11 from rfl, Nat.reduceAdd, show bWrap .i64 (9 + 1) = 10 from bwrap_of (by unfold inR; omega), e, h2, Tryz.results41]
  · cases he : decide (s = ⟨#[62, 61]⟩)
    · have e := (sym_dec ⟨#[62, 61]⟩ s).trans he
      simp (decide := true) (maxDischargeDepth := 200) only [go_sem, show ((10 : Nat) : Int) = 10 from rfl, show Int.toNat 10 = 10 from rfl, show ((11 : Nat) : Int) = 11 from rfl, Nat.reduceAdd, show bWrap .i64 (10 + 1) = 11 from bwrap_of (by unfold inR; omega), e, Tryz.results41]
      refine ⟨⟨11, by omega, fun o ho => ?_⟩, ?_, trivial, ?_⟩
      rotate_left
      · simp (decide := true) only [go_sem]; rfl
      · simp only; omega
      have ho : o ∈ opsL.take 10 ∨ o = ⟨#[62, 61]⟩ := by simpa [opsL, or_assoc] using ho
      rcases ho with ho | rfl
      · exact hok o ho
      · exact he
    · have e := (sym_dec ⟨#[62, 61]⟩ s).trans he
      have h2 : opB s = true := by simp only [opB, he, Bool.true_or, Bool.or_true]
      simp (decide := true) (maxDischargeDepth := 200) only [go_sem, show ((10 : Nat) : Int) = 10 from rfl, show Int.toNat 10 = 10 from rfl, show ((11 : Nat) : Int) = 11 from rfl, Nat.reduceAdd, show bWrap .i64 (10 + 1) = 11 from bwrap_of (by unfold inR; omega), e, h2, Tryz.results41]
  · have h2 : opB s = false := by
      have h0 : ∀ o ∈ opsL, decide (s = o) = false := hok
      simp only [opsL, List.mem_cons, List.not_mem_nil, or_false, forall_eq_or_imp, forall_eq] at h0
      obtain ⟨h10, h11, h12, h13, h14, h15, h16, h17, h18, h19, h20⟩ := h0
      simp only [opB, h10, h11, h12, h13, h14, h15, h16, h17, h18, h19, h20, Bool.or_self]
    simp (decide := true) (maxDischargeDepth := 200) only [go_sem, show ((11 : Nat) : Int) = 11 from rfl, show Int.toNat 11 = 11 from rfl, show ((11 : Nat) : Int) = 11 from rfl, Nat.reduceAdd, show bWrap .i64 (11 + 1) = 12 from bwrap_of (by unfold inR; omega), h2, Tryz.results41]

/-- Names that a call may have. -/
def callB (s : ByteArray) : Bool := decide (1 ≤ s.size) && decide (s.size ≤ 8) && !decide (s = ⟨#[84, 82, 85, 69]⟩) && !decide (s = ⟨#[70, 65, 76, 83, 69]⟩) && (List.range s.size).all fun j => greatI (byteV s j)
def FCall : List V → Option V
  | [.x (.string s)] => some (.x (.bool (callB s)))
  | _ => none
theorem callB_short {s : ByteArray} (h : s.size < 1) : callB s = false := by simp [callB]; omega
theorem callB_long {s : ByteArray} (h : 8 < s.size) : callB s = false := by simp [callB]; omega
theorem callB_T {s : ByteArray} (h : decide (s = ⟨#[84, 82, 85, 69]⟩) = true) : callB s = false := by simp only [callB, h, Bool.not_true, Bool.and_false, Bool.false_and]
theorem callB_F {s : ByteArray} (h : decide (s = ⟨#[70, 65, 76, 83, 69]⟩) = true) : callB s = false := by simp only [callB, h, Bool.not_true, Bool.and_false, Bool.false_and]
theorem callB_at {s : ByteArray} {j : Nat} (hj : j < s.size) (h : greatI (byteV s j) = false) : callB s = false := by
  cases hn : callB s with
  | false => rfl
  | true =>
    simp only [callB, Bool.and_eq_true] at hn
    have := List.all_eq_true.1 hn.2 j (List.mem_range.2 hj)
    rw [h] at this
    cases this
theorem callB_all {s : ByteArray} (h1 : 1 ≤ s.size) (h8 : s.size ≤ 8) (hT : decide (s = ⟨#[84, 82, 85, 69]⟩) = false) (hF : decide (s = ⟨#[70, 65, 76, 83, 69]⟩) = false) (h : ∀ j : Nat, j < s.size → greatI (byteV s j) = true) : callB s = true := by
  simp only [callB, Bool.and_eq_true, decide_eq_true_eq, hT, hF, Bool.not_false, and_true]
  exact ⟨⟨h1, h8⟩, List.all_eq_true.2 fun j hj => h j (List.mem_range.1 hj)⟩
set_option maxRecDepth 100000 in
theorem iscall_fun : FunV 96 FCall := by
  refine fun_of_run (E := envOf []) (k := 1) (envOK_of _ trivial) (by kernel_rfl) Tryz.func96 rfl (fun a w => Tryz.call96 a w) Tryz.ntmps96 (by kernel_rfl) (by decide) (by decide) ?_
  intro us r hF hdat
  unfold FCall at hF
  split at hF
  case h_2 => cases hF
  rename_i s
  cases hF
  refine ⟨rfl, ?_⟩
  have k1 : decide ((s.size : Int) < 1) = decide (s.size < 1) := decide_eq_decide.2 (by omega)
  have k2 : decide (8 < (s.size : Int)) = decide (8 < s.size) := decide_eq_decide.2 (by omega)
  cases hs : decide (s.size < 1)
  · cases hl : decide (8 < s.size)
    · have hs' := of_decide_eq_false hs
      have hl' := of_decide_eq_false hl
      cases hT : decide (s = ⟨#[84, 82, 85, 69]⟩)
      · cases hF2 : decide (s = ⟨#[70, 65, 76, 83, 69]⟩)
        · simp (decide := true) (maxDischargeDepth := 200) only [go_sem, k1, k2, hs, hl, hT, hF2, Tryz.results96]
          refine loop_of (X := {i : Nat // i ≤ s.size ∧ ∀ j : Nat, j < i → greatI (byteV s j) = true}) (fun i => [(0, .x (.string s)), (19, .x (.int .i64 (s.size : Int))), (20, .x (.int .i64 i.1))]) (fun _ => []) (fun i => s.size - i.1) ⟨0, by omega, fun j h => by omega⟩ (by simp (decide := true) only [go_sem]; rfl) trivial (fun ⟨i, hi0, hok⟩ => ?_)
          by_cases hi : i < s.size
          · have c1 : decide ((i : Int) < (s.size : Int)) = true := decide_eq_true (by omega)
            have c2 : (0 : Int) ≤ (i : Int) := by omega
            have c3 : (i : Int) < (s.size : Int) := by omega
            have c4 := count_up (i := i) (by omega)
            cases hb : greatI (byteV s i)
            · have e := callB_at hi hb
              cases hl : decide (byteV s i < 65)
              · have hg : decide (90 < byteV s i) = true := by
                  simp only [greatI, Bool.and_eq_false_iff, decide_eq_false_iff_not, decide_eq_true_eq] at hb hl ⊢
                  omega
                simp (decide := true) (maxDischargeDepth := 200) only [go_sem, c1, c2, c3, c4, hl, hg, e, Tryz.results96]
              · simp (decide := true) (maxDischargeDepth := 200) only [go_sem, c1, c2, c3, c4, hl, e, Tryz.results96]
            · have hb' : decide (byteV s i < 65) = false ∧ decide (90 < byteV s i) = false := by
                simp only [greatI, Bool.and_eq_true, decide_eq_true_eq] at hb
                exact ⟨decide_eq_false (by omega), decide_eq_false (by omega)⟩
              have h1 := hb'.1
              have h2 := hb'.2
              simp (decide := true) (maxDischargeDepth := 200) only [go_sem, c1, c2, c3, c4, h1, h2, Tryz.results96]
              refine ⟨⟨i + 1, by omega, fun j hj => ?_⟩, ?_, trivial, ?_⟩
              rotate_left
              · simp (decide := true) only [go_sem]
              · simp only; omega
              by_cases hj' : j = i
              · subst hj'; exact hb
              · exact hok j (by omega)
          · have c1 : decide ((i : Int) < (s.size : Int)) = false := decide_eq_false (by omega)
            have e := callB_all (by omega) (by omega) hT hF2 (fun j hj => hok j (by omega))
            simp (decide := true) (maxDischargeDepth := 200) only [go_sem, c1, e, Tryz.results96]
        · have e := callB_F hF2
          simp (decide := true) (maxDischargeDepth := 200) only [go_sem, k1, k2, hs, hl, hT, hF2, e, Tryz.results96]
      · have e := callB_T hT
        simp (decide := true) (maxDischargeDepth := 200) only [go_sem, k1, k2, hs, hl, hT, e, Tryz.results96]
    · have e := callB_long (of_decide_eq_true hl)
      cases hT : decide (s = ⟨#[84, 82, 85, 69]⟩) <;> cases hF2 : decide (s = ⟨#[70, 65, 76, 83, 69]⟩) <;> simp (decide := true) (maxDischargeDepth := 200) only [go_sem, k1, k2, hs, hl, hT, hF2, e, Tryz.results96]
  · have e := callB_short (of_decide_eq_true hs)
    cases hT : decide (s = ⟨#[84, 82, 85, 69]⟩) <;> cases hF2 : decide (s = ⟨#[70, 65, 76, 83, 69]⟩) <;> simp (decide := true) (maxDischargeDepth := 200) only [go_sem, k1, k2, hs, hT, hF2, e, Tryz.results96]

set_option maxRecDepth 100000 in
theorem rcall_fun : FunV 42 FCall := by
  refine fun_of_run (E := envOf [(30, FGreat)]) (k := 1) (envOK_of _ ⟨rgreat_fun, trivial⟩) (by kernel_rfl) Tryz.func42 rfl (fun a w => Tryz.call42 a w) Tryz.ntmps42 (by kernel_rfl) (by decide) (by decide) ?_
  intro us r hF hdat
  unfold FCall at hF
  split at hF
  case h_2 => cases hF
  rename_i s
  cases hF
  refine ⟨rfl, ?_⟩
  have k1 : decide ((s.size : Int) < 1) = decide (s.size < 1) := decide_eq_decide.2 (by omega)
  have k2 : decide (8 < (s.size : Int)) = decide (8 < s.size) := decide_eq_decide.2 (by omega)
  cases hs : decide (s.size < 1)
  · cases hl : decide (8 < s.size)
    · have hs' := of_decide_eq_false hs
      have hl' := of_decide_eq_false hl
      cases hT : decide (s = ⟨#[84, 82, 85, 69]⟩)
      · cases hF2 : decide (s = ⟨#[70, 65, 76, 83, 69]⟩)
        · simp (decide := true) (maxDischargeDepth := 200) only [go_sem, k1, k2, hs, hl, hT, hF2, Tryz.results42]
          refine loop_of (X := {i : Nat // i ≤ s.size ∧ ∀ j : Nat, j < i → greatI (byteV s j) = true}) (fun i => [(0, .x (.string s)), (3, .x (.int .i64 i.1))]) (fun _ => []) (fun i => s.size - i.1) ⟨0, by omega, fun j h => by omega⟩ (by simp (decide := true) only [go_sem]; rfl) trivial (fun ⟨i, hi0, hok⟩ => ?_)
          by_cases hi : i < s.size
          · have c1 : decide ((i : Int) < (s.size : Int)) = true := decide_eq_true (by omega)
            have c2 : (0 : Int) ≤ (i : Int) := by omega
            have c3 : (i : Int) < (s.size : Int) := by omega
            have c4 := count_up (i := i) (by omega)
            cases hb : greatI (byteV s i)
            · have e := callB_at hi hb
              simp (decide := true) (maxDischargeDepth := 200) only [go_sem, c1, c2, c3, c4, hb, e, FGreat, Tryz.results42]
            · simp (decide := true) (maxDischargeDepth := 200) only [go_sem, c1, c2, c3, c4, hb, FGreat, Tryz.results42]
              refine ⟨⟨i + 1, by omega, fun j hj => ?_⟩, ?_, trivial, ?_⟩
              rotate_left
              · simp (decide := true) only [go_sem]
              · simp only; omega
              by_cases hj' : j = i
              · subst hj'; exact hb
              · exact hok j (by omega)
          · have c1 : decide ((i : Int) < (s.size : Int)) = false := decide_eq_false (by omega)
            have e := callB_all (by omega) (by omega) hT hF2 (fun j hj => hok j (by omega))
            simp (decide := true) (maxDischargeDepth := 200) only [go_sem, c1, e, Tryz.results42]
        · have e := callB_F hF2
          simp (decide := true) (maxDischargeDepth := 200) only [go_sem, k1, k2, hs, hl, hT, hF2, e, Tryz.results42]
      · have e := callB_T hT
        simp (decide := true) (maxDischargeDepth := 200) only [go_sem, k1, k2, hs, hl, hT, e, Tryz.results42]
    · have e := callB_long (of_decide_eq_true hl)
      cases hT : decide (s = ⟨#[84, 82, 85, 69]⟩) <;> cases hF2 : decide (s = ⟨#[70, 65, 76, 83, 69]⟩) <;> simp (decide := true) (maxDischargeDepth := 200) only [go_sem, k1, k2, hs, hl, hT, hF2, e, Tryz.results42]
  · have e := callB_short (of_decide_eq_true hs)
    cases hT : decide (s = ⟨#[84, 82, 85, 69]⟩) <;> cases hF2 : decide (s = ⟨#[70, 65, 76, 83, 69]⟩) <;> simp (decide := true) (maxDischargeDepth := 200) only [go_sem, k1, k2, hs, hT, hF2, e, Tryz.results42]

/-- Values that may stand in a formula. -/
def writtenV (k n : Int) (s : ByteArray) : Bool := bif decide (k = 1) then rightV k n s && decide (0 ≤ n) else bif decide (k = 2) then rightV k n s else bif decide (k = 3) then rightV k n s else false
def FWritten : List V → Option V
  | [.agg [.x (.int .i64 k), .x (.int .i64 n), .x (.string s)]] => some (.x (.bool (writtenV k n s)))
  | _ => none
/-- Ranges that may stand in a formula. -/
def rangeB (s : ByteArray) (c r : Int) (s' : ByteArray) (c' r' : Int) : Bool := okA s c r s' c' r' && decide (areaN c r c' r' ≤ 400)
def FRange : List V → Option V
  | [.agg [.x (.string s), .x (.int .i64 c), .x (.int .i64 r), .x (.string s'), .x (.int .i64 c'), .x (.int .i64 r')]] => some (.x (.bool (rangeB s c r s' c' r')))
  | _ => none
set_option maxRecDepth 100000 in
theorem range_fun : FunV 100 FRange := by
  refine fun_of_run (E := envOf [(106, FArea)]) (k := 1) (envOK_of _ ⟨area_fun, trivial⟩) (by kernel_rfl) Tryz.func100 rfl (fun a w => Tryz.call100 a w) Tryz.ntmps100 (by kernel_rfl) (by decide) (by decide) ?_
  intro us r hF hdat
  unfold FRange at hF
  split at hF
  case h_2 => cases hF
  rename_i s c r s' c' r'
  cases hF
  refine ⟨rfl, ?_⟩
  cases h : okA s c r s' c' r'
  · have ha := areaV_no h
    simp (decide := true) (maxDischargeDepth := 200) only [go_sem, FArea, ha, Tryz.results100]
    repeat' first
      | simp (decide := true) (maxDischargeDepth := 200) only [go_sem, FArea, ha, Tryz.results100, *]
      | refine guardK_openF (fun _ => ?_) (fun _ => ?_)
      | refine guardK_openN (fun _ => ?_) (fun _ => ?_)
      | refine guardK_openT (fun _ => ?_) (fun _ => ?_)
      | refine guardK_open (fun _ => ?_) (fun _ => ?_)
      | refine condK_openN (fun _ => ?_) (fun _ => ?_)
      | refine condK_open (fun _ => ?_) (fun _ => ?_)
    all_goals simp (decide := true) only [rangeB, go_sem, *]
  · have ha := areaV_yes h
    simp (decide := true) (maxDischargeDepth := 200) only [go_sem, FArea, ha, Tryz.results100]
    repeat' first
      | simp (decide := true) (maxDischargeDepth := 200) only [go_sem, FArea, ha, Tryz.results100, *]
      | refine guardK_openF (fun _ => ?_) (fun _ => ?_)
      | refine guardK_openN (fun _ => ?_) (fun _ => ?_)
      | refine guardK_openT (fun _ => ?_) (fun _ => ?_)
      | refine guardK_open (fun _ => ?_) (fun _ => ?_)
      | refine condK_openN (fun _ => ?_) (fun _ => ?_)
      | refine condK_open (fun _ => ?_) (fun _ => ?_)
    all_goals simp (decide := true) only [rangeB, go_sem, *]

end Go.Proofs.YtfmdcgakkijkdaaGreatDoor
