/- Formulas taken apart: signs, the first token, what it says, all of them: package token, as functions of plain data. -/
import Derived.Test.YtkomcgljekfheaaDoorTkA
namespace Go.Proofs.YtkomcgljekfheaaDoor
open Go Go.RowKit
set_option linter.unusedSimpArgs false

theorem signB_cases {b : UInt8} (h : signB b = true) : b = 43 ∨ b = 45 ∨ b = 42 ∨ b = 47 ∨ b = 38 ∨ b = 61 ∨ b = 60 ∨ b = 62 ∨ b = 40 ∨ b = 41 ∨ b = 44 ∨ b = 58 ∨ b = 33 := by
  simpa [signB] using h
theorem signB_no {b : UInt8} (h : signB b = false) : b ≠ 43 ∧ b ≠ 45 ∧ b ≠ 42 ∧ b ≠ 47 ∧ b ≠ 38 ∧ b ≠ 61 ∧ b ≠ 60 ∧ b ≠ 62 ∧ b ≠ 40 ∧ b ≠ 41 ∧ b ≠ 44 ∧ b ≠ 58 ∧ b ≠ 33 := by
  simpa [signB] using h
def FSignSize : List V → Option V
  | [.x (.string s)] => if 1 ≤ s.size ∧ s.size ≤ 1000 then some (.x (.int .i64 ((signP s.data.toList : Nat) : Int))) else none
  | _ => none
set_option maxHeartbeats 4000000 in
set_option maxRecDepth 100000 in
theorem signsize_fun : FunV 24 FSignSize := by
  refine fun_of_run (E := envOf []) (k := 1) (envOK_of _ trivial) (by kernel_rfl) Tryd.func24 rfl (fun a w => Tryd.call24 a w) Tryd.ntmps24 (by kernel_rfl) (by decide) ?_
  intro us r hF hdat
  unfold FSignSize at hF
  split at hF
  case h_2 => cases hF
  rename_i s
  split at hF
  case isFalse => cases hF
  rename_i hs
  cases hF
  refine ⟨rfl, ?_⟩
  obtain ⟨l, rfl⟩ := B_of s
  rw [B_size] at hs
  rw [B_bytes]
  obtain ⟨b, hb⟩ := get_of (show 0 < l.length by omega)
  have hcons := drop_cons hb
  rw [List.drop_zero] at hcons
  have c5 : byteV (B l) 0 = ((b.toNat : Nat) : Int) := byteV_B (i := 0) hb
  have c6 : (0 : Int) < ((B l).size : Int) := by rw [B_size]; omega
  have a2 : (⟨#[60, 62]⟩ : ByteArray) = B [60, 62] := rfl
  have a3 : (⟨#[60, 61]⟩ : ByteArray) = B [60, 61] := rfl
  have a4 : (⟨#[62, 61]⟩ : ByteArray) = B [62, 61] := rfl
  obtain ⟨w, hw⟩ : ∃ w, l.take 2 = w := ⟨_, rfl⟩
  have hsp : signP l = if twoB w = true then 2 else if signB b = true then 1 else 0 := by
    rw [← hw]
    conv => lhs; rw [hcons]
    rw [signP, ← hcons]
  have e4 : subV (B l) 0 2 = B w := hw ▸ sub_take l 2
  have hwl : w.length ≤ l.length := by rw [← hw, List.length_take]; omega
  cases ht : twoB w
  · rw [ht] at hsp
    simp only [Bool.false_eq_true, if_false] at hsp
    simp only [twoB, Bool.or_eq_false_iff, decide_eq_false_iff_not] at ht
    obtain ⟨⟨t1, t2⟩, t3⟩ := ht
    have e1 : decide (B w = B [60, 62]) = false := decide_eq_false (fun h => t1 (B_inj.1 h))
    have e2 : decide (B w = B [60, 61]) = false := decide_eq_false (fun h => t2 (B_inj.1 h))
    have e3 : decide (B w = B [62, 61]) = false := decide_eq_false (fun h => t3 (B_inj.1 h))
    clear t1 t2 t3 hw
    cases hsg : signB b
    · rw [hsg] at hsp
      have e5 : ((signP l : Nat) : Int) = 0 := by rw [hsp]; rfl
      obtain ⟨n43, n45, n42, n47, n38, n61, n60, n62, n40, n41, n44, n58, n33⟩ := signB_no hsg
      have d43 : decide (((b.toNat : Nat) : Int) = 43) = false := by rw [byte_eq (c := 43) (n := 43) rfl]; exact decide_eq_false n43
      have d45 : decide (((b.toNat : Nat) : Int) = 45) = false := by rw [byte_eq (c := 45) (n := 45) rfl]; exact decide_eq_false n45
      have d42 : decide (((b.toNat : Nat) : Int) = 42) = false := by rw [byte_eq (c := 42) (n := 42) rfl]; exact decide_eq_false n42
      have d47 : decide (((b.toNat : Nat) : Int) = 47) = false := by rw [byte_eq (c := 47) (n := 47) rfl]; exact decide_eq_false n47
      have d38 : decide (((b.toNat : Nat) : Int) = 38) = false := by rw [byte_eq (c := 38) (n := 38) rfl]; exact decide_eq_false n38
      have d61 : decide (((b.toNat : Nat) : Int) = 61) = false := by rw [byte_eq (c := 61) (n := 61) rfl]; exact decide_eq_false n61
      have d60 : decide (((b.toNat : Nat) : Int) = 60) = false := by rw [byte_eq (c := 60) (n := 60) rfl]; exact decide_eq_false n60
      have d62 : decide (((b.toNat : Nat) : Int) = 62) = false := by rw [byte_eq (c := 62) (n := 62) rfl]; exact decide_eq_false n62
      have d40 : decide (((b.toNat : Nat) : Int) = 40) = false := by rw [byte_eq (c := 40) (n := 40) rfl]; exact decide_eq_false n40
      have d41 : decide (((b.toNat : Nat) : Int) = 41) = false := by rw [byte_eq (c := 41) (n := 41) rfl]; exact decide_eq_false n41
      have d44 : decide (((b.toNat : Nat) : Int) = 44) = false := by rw [byte_eq (c := 44) (n := 44) rfl]; exact decide_eq_false n44
      have d58 : decide (((b.toNat : Nat) : Int) = 58) = false := by rw [byte_eq (c := 58) (n := 58) rfl]; exact decide_eq_false n58
      have d33 : decide (((b.toNat : Nat) : Int) = 33) = false := by rw [byte_eq (c := 33) (n := 33) rfl]; exact decide_eq_false n33
      by_cases hl : (1 : Int) < ((B l).size : Int)
      · have d0 := decide_eq_true hl
        have c7 : (2 : Int) ≤ ((B l).size : Int) := by omega
        simp (decide := true) (maxDischargeDepth := 200) only [go_sem, a2, a3, a4, d0, c5, c6, c7, e1, e2, e3, e4, e5, d43, d45, d42, d47, d38, d61, d60, d62, d40, d41, d44, d58, d33, Tryd.results24]
      · have d0 := decide_eq_false hl
        simp (decide := true) (maxDischargeDepth := 200) only [go_sem, d0, c5, c6, e5, d43, d45, d42, d47, d38, d61, d60, d62, d40, d41, d44, d58, d33, Tryd.results24]
    · rw [hsg] at hsp
      have e5 : ((signP l : Nat) : Int) = 1 := by rw [hsp]; rfl
      have hc := signB_cases hsg
      clear hsg hsp
      by_cases hl : (1 : Int) < ((B l).size : Int)
      · have d0 := decide_eq_true hl
        have c7 : (2 : Int) ≤ ((B l).size : Int) := by omega
        rcases hc with hc | hc | hc | hc | hc | hc | hc | hc | hc | hc | hc | hc | hc
        all_goals
          subst hc
          simp (decide := true) (maxDischargeDepth := 200) only [go_sem, a2, a3, a4, d0, c5, c6, c7, e1, e2, e3, e4, e5, Tryd.results24]
      · have d0 := decide_eq_false hl
        rcases hc with hc | hc | hc | hc | hc | hc | hc | hc | hc | hc | hc | hc | hc
        all_goals
          subst hc
          simp (decide := true) (maxDischargeDepth := 200) only [go_sem, d0, c5, c6, e5, Tryd.results24]
  · have e5 : ((signP l : Nat) : Int) = 2 := by rw [hsp, ht]; rfl
    have hl : (1 : Int) < ((B l).size : Int) := by
      rw [B_size]
      have : 1 < w.length := by
        simp only [twoB, Bool.or_eq_true, decide_eq_true_eq] at ht
        rcases ht with (ht | ht) | ht <;> rw [ht] <;> decide
      omega
    have d0 := decide_eq_true hl
    have c7 : (2 : Int) ≤ ((B l).size : Int) := by omega
    simp only [twoB, Bool.or_eq_true, decide_eq_true_eq] at ht
    rcases ht with (ht | ht) | ht
    · rw [ht] at e4
      have e1 : decide (B [60, 62] = B [60, 62]) = true := decide_eq_true rfl
      simp (decide := true) (maxDischargeDepth := 200) only [go_sem, a2, a3, a4, d0, c7, e4, e1, e5, Tryd.results24]
    · rw [ht] at e4
      have e1 : decide (B [60, 61] = B [60, 62]) = false := by rw [decide_eq_false_iff_not, B_inj]; decide
      have e2 : decide (B [60, 61] = B [60, 61]) = true := decide_eq_true rfl
      simp (decide := true) (maxDischargeDepth := 200) only [go_sem, a2, a3, a4, d0, c7, e4, e1, e2, e5, Tryd.results24]
    · rw [ht] at e4
      have e1 : decide (B [62, 61] = B [60, 62]) = false := by rw [decide_eq_false_iff_not, B_inj]; decide
      have e2 : decide (B [62, 61] = B [60, 61]) = false := by rw [decide_eq_false_iff_not, B_inj]; decide
      have e3 : decide (B [62, 61] = B [62, 61]) = true := decide_eq_true rfl
      simp (decide := true) (maxDischargeDepth := 200) only [go_sem, a2, a3, a4, d0, c7, e4, e1, e2, e3, e5, Tryd.results24]


def FFirst : List V → Option V
  | [.x (.string s)] => if 1 ≤ s.size ∧ s.size ≤ 1000 then some (.tup [.x (.int .i64 (((firstP s.data.toList).1 : Nat) : Int)), .x (.int .i64 (((firstP s.data.toList).2 : Nat) : Int))]) else none
  | _ => none
theorem FFirst_eq {l : List UInt8} (h : 1 ≤ l.length) (h2 : l.length ≤ 1000) : FFirst [.x (.string (B l))] = some (.tup [.x (.int .i64 (((firstP l).1 : Nat) : Int)), .x (.int .i64 (((firstP l).2 : Nat) : Int))]) := by
  exact if_pos (show 1 ≤ (B l).size ∧ (B l).size ≤ 1000 from ⟨h, h2⟩)
theorem FSignSize_eq {l : List UInt8} (h : 1 ≤ l.length) (h2 : l.length ≤ 1000) : FSignSize [.x (.string (B l))] = some (.x (.int .i64 ((signP l : Nat) : Int))) := by
  exact if_pos (show 1 ≤ (B l).size ∧ (B l).size ≤ 1000 from ⟨h, h2⟩)
theorem FTextSize_eq {l : List UInt8} (h : 1 ≤ l.length) (h2 : l.length ≤ 1000) : FTextSize [.x (.string (B l))] = some (.x (.int .i64 ((textP l : Nat) : Int))) := by
  exact if_pos (show 1 ≤ (B l).size ∧ (B l).size ≤ 1000 from ⟨h, h2⟩)
theorem pred1 : predOf 17 = some digitI := rfl
theorem pred2 : predOf 21 = some wordI := rfl
theorem pred3 : predOf 23 = some nameI := rfl
set_option maxRecDepth 100000 in
theorem first_fun : FunV 10 FFirst := by
  refine fun_of_run (E := envOf [(17, FDigit), (18, FRun), (19, FTextSize), (20, FGreat), (22, FSmall), (24, FSignSize)]) (k := 1) (envOK_of _ ⟨digit_fun, run_fun, textsize_fun, great_fun, small_fun, signsize_fun, trivial⟩) (by kernel_rfl) Tryd.func10 rfl (fun a w => Tryd.call10 a w) Tryd.ntmps10 (by kernel_rfl) (by decide) ?_
  intro us r hF hdat
  unfold FFirst at hF
  split at hF
  case h_2 => cases hF
  rename_i s
  split at hF
  case isFalse => cases hF
  rename_i hs
  cases hF
  refine ⟨rfl, ?_⟩
  obtain ⟨l, rfl⟩ := B_of s
  rw [B_size] at hs
  rw [B_bytes]
  cases l with
  | nil => simp at hs
  | cons b l =>
  have c5 : byteV (B (b :: l)) 0 = ((b.toNat : Nat) : Int) := byteV_B (i := 0) rfl
  have c6 : (0 : Int) < ((B (b :: l)).size : Int) := by rw [B_size, List.length_cons]; omega
  have r1 := FRun_eq (l := b :: l) pred1 hs.2
  have r2 := FRun_eq (l := b :: l) pred2 hs.2
  have r3 := FRun_eq (l := b :: l) pred3 hs.2
  have r4 := FTextSize_eq hs.1 hs.2
  have r5 := FSignSize_eq hs.1 hs.2
  cases h1 : digitI (b.toNat : Int)
  · by_cases h2 : b = 34
    · have e : firstP (b :: l) = (2, textP (b :: l)) := first_quote h1 h2
      have d1 : decide (((b.toNat : Nat) : Int) = 34) = true := by rw [byte_eq (c := 34) (n := 34) rfl]; exact decide_eq_true h2
      simp (decide := true) (maxDischargeDepth := 200) only [go_sem, FDigit, h1, d1, c5, c6, r4, e, Tryd.results10]
      rfl
    · have d1 : decide (((b.toNat : Nat) : Int) = 34) = false := by rw [byte_eq (c := 34) (n := 34) rfl]; exact decide_eq_false h2
      cases h3 : greatI (b.toNat : Int)
      · cases h4 : smallI (b.toNat : Int)
        · have e : firstP (b :: l) = (5, signP (b :: l)) := first_sign h1 h2 h3 h4
          simp (decide := true) (maxDischargeDepth := 200) only [go_sem, FDigit, FGreat, FSmall, h1, h3, h4, d1, c5, c6, r5, e, Tryd.results10]
          rfl
        · have e : firstP (b :: l) = (4, spanL nameI (b :: l)) := first_small h1 h2 h3 h4
          simp (decide := true) (maxDischargeDepth := 200) only [go_sem, FDigit, FGreat, FSmall, h1, h3, h4, d1, c5, c6, r3, e, Tryd.results10]
          rfl
      · have e : firstP (b :: l) = (3, spanL wordI (b :: l)) := first_great h1 h2 h3
        simp (decide := true) (maxDischargeDepth := 200) only [go_sem, FDigit, FGreat, h1, h3, d1, c5, c6, r2, e, Tryd.results10]
        rfl
  · have e : firstP (b :: l) = (1, spanL digitI (b :: l)) := first_digit h1
    simp (decide := true) (maxDischargeDepth := 200) only [go_sem, FDigit, h1, c5, c6, r1, e, Tryd.results10]
    rfl


def FReplA : List V → Option V
  | [.x (.string s), .x (.string a), .x (.string b)] => if s.size ≤ 1000 ∧ 1 ≤ a.size ∧ b.size ≤ 1000 then some (.x (.string (B (Lib.replaceAll s.data.toList a.data.toList b.data.toList)))) else none
  | _ => none
theorem repla_fun : FunV 25 FReplA := by
  refine ⟨fun a w => Tryd.call25 a w, fun m w vs us r hF hd hr hj hg => ?_⟩
  unfold FReplA at hF
  split at hF
  case h_2 => cases hF
  rename_i s a b
  split at hF
  case isFalse => cases hF
  rename_i h
  cases hF
  obtain rfl := args_eq (xs := [.string s, .string a, .string b]) hr rfl
  obtain ⟨mx, hmx⟩ := Glob.maxLen hj
  have hc : Lib.countB s a ≤ 1001 := Nat.le_trans (Lib.count_le _ _) (by have : s.data.toList.length = s.size := rfl; omega)
  have hm : Lib.countB s a * b.size ≤ 1001 * 1000 := Nat.mul_le_mul hc h.2.2
  refine (Tryd.strings_ReplaceAll s a b mx w (by omega) hmx h.2.1 (by omega)).mono ?_
  rintro e w' ⟨rfl, hb⟩
  exact ⟨_, m, rfl, .x _, hb, fun _ _ => rfl⟩
theorem FReplA_eq {l : List UInt8} (h : l.length ≤ 1000) : FReplA [.x (.string (B l)), .x (.string ⟨#[34, 34]⟩), .x (.string ⟨#[34]⟩)] = some (.x (.string (B (Lib.replaceAll l [34, 34] [34])))) := by
  exact if_pos (show (B l).size ≤ 1000 ∧ 1 ≤ (⟨#[34, 34]⟩ : ByteArray).size ∧ (⟨#[34]⟩ : ByteArray).size ≤ 1000 from ⟨h, by decide, by decide⟩)
def FTold : List V → Option V
  | [.x (.int .i64 k), .x (.string w)] => if w.size ≤ 1000 ∧ (k = 2 → textP w.data.toList = w.size ∧ 1 ≤ w.size) then some (.x (.string (B (if k = 2 then insideP w.data.toList else w.data.toList)))) else none
  | _ => none
theorem inside_whole {l : List UInt8} (h : textP l = l.length) (h1 : 1 ≤ l.length) : Lib.replaceAll ((l.take (l.length - 1)).drop 1) [34, 34] [34] = insideP l ∧ 2 ≤ l.length := by
  have h0 : textP l ≠ 0 := by omega
  have := inside_is h0
  rw [h, List.take_length] at this
  refine ⟨this, ?_⟩
  cases hq : quoteL (l.drop 1) with
  | none => exact absurd (textP_no (by rw [hq]; rfl)) h0
  | some r =>
    have h2 := textP_yes hq
    have := (quote_le _ _ (Nat.le_refl _) r hq).2.1
    omega
set_option maxRecDepth 100000 in
theorem told_fun : FunV 11 FTold := by
  refine fun_of_run (E := envOf [(25, FReplA), (26, FClone)]) (k := 2) (envOK_of _ ⟨repla_fun, clone_fun, trivial⟩) (by kernel_rfl) Tryd.func11 rfl (fun a w => Tryd.call11 a w) Tryd.ntmps11 (by kernel_rfl) (by decide) ?_
  intro us r hF hdat
  unfold FTold at hF
  split at hF
  case h_2 => cases hF
  rename_i k s
  split at hF
  case isFalse => cases hF
  rename_i hs
  cases hF
  refine ⟨rfl, ?_⟩
  obtain ⟨l, rfl⟩ := B_of s
  rw [B_size, B_bytes] at hs
  rw [B_bytes]
  by_cases hk : k = 2
  · subst hk
    obtain ⟨h1, h2⟩ := hs.2 rfl
    obtain ⟨hin, hl2⟩ := inside_whole h1 h2
    have c1 : bWrap .i64 (((B l).size : Int) - 1) = ((l.length - 1 : Nat) : Int) := by rw [B_size, bwrap_of (by unfold inR; omega)]; omega
    have c2 : (1 : Int) ≤ ((l.length - 1 : Nat) : Int) := by omega
    have c3 : ((l.length - 1 : Nat) : Int) ≤ ((B l).size : Int) := by rw [B_size]; omega
    have c4 : subV (B l) 1 ((l.length - 1 : Nat) : Int) = B ((l.take (l.length - 1)).drop 1) := subV_B l 1 (l.length - 1)
    have hlen : ((l.take (l.length - 1)).drop 1).length ≤ 1000 := by simp; omega
    have r1 := FReplA_eq hlen
    rw [hin] at r1
    have h3 : (B (insideP l)).size ≤ 281474976710656 := by rw [B_size]; have := inside_le l; omega
    simp (decide := true) (maxDischargeDepth := 200) only [go_sem, c1, c2, c3, c4, r1, FClone, h3, Tryd.results11]
  · have d1 := decide_eq_false hk
    have h3 : (B l).size ≤ 281474976710656 := by rw [B_size]; omega
    simp (decide := true) (maxDischargeDepth := 200) only [go_sem, hk, d1, FClone, h3, Tryd.results11]

end Go.Proofs.YtkomcgljekfheaaDoor
