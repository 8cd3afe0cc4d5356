/- Formulas taken apart: the tokens of a text, in plain words. Nothing of the program. -/
import Derived.Test.YteibnmlfipkmeaaGreatDoorMPO
import Derived.Lib.ReplaceLaws
namespace Go.Proofs.YteibnmlfipkmeaaGreatDoor
open Go Go.RowKit
set_option linter.unusedSimpArgs false

def wordI (b : Int) : Bool := greatI b || digitI b
def nameI (b : Int) : Bool := smallI b || digitI b
/-- How many bytes from the beginning on are such. -/
def spanL (p : Int → Bool) : List UInt8 → Nat
  | [] => 0
  | b :: l => if p (b.toNat : Int) = true then spanL p l + 1 else 0
/-- Behind the opening quote: the text, and how many bytes it has with the closing one. -/
def quoteL : List UInt8 → Option (List UInt8 × Nat)
  | [] => none
  | [b] => if b = 34 then some ([], 1) else none
  | b :: c :: l => if b = 34 then (if c = 34 then (quoteL l).map fun r => (34 :: r.1, r.2 + 2) else some ([], 1)) else (quoteL (c :: l)).map fun r => (b :: r.1, r.2 + 1)
/-- How many bytes a text with its quotes has; 0: it has no end. -/
def textP (l : List UInt8) : Nat := match quoteL (l.drop 1) with
  | some r => r.2 + 1
  | none => 0
def signB (b : UInt8) : Bool := [43, 45, 42, 47, 38, 61, 60, 62, 40, 41, 44, 58, 33].contains b
def twoB (l : List UInt8) : Bool := decide (l = [60, 62]) || decide (l = [60, 61]) || decide (l = [62, 61])
def signP : List UInt8 → Nat
  | [] => 0
  | b :: l => if twoB ((b :: l).take 2) = true then 2 else if signB b = true then 1 else 0
/-- The kind of the first token, and how many bytes it has; 0: there is none. -/
def firstP : List UInt8 → Nat × Nat
  | [] => (0, 0)
  | b :: l => if digitI b.toNat = true then (1, spanL digitI (b :: l)) else if b = 34 then (2, textP (b :: l)) else if greatI b.toNat = true then (3, spanL wordI (b :: l))
    else if smallI b.toNat = true then (4, spanL nameI (b :: l)) else (5, signP (b :: l))
def insideP (l : List UInt8) : List UInt8 := match quoteL (l.drop 1) with
  | some r => r.1
  | none => []
/-- A token's text. -/
def tellP (l : List UInt8) : List UInt8 := if (firstP l).1 = 2 then insideP l else l.take (firstP l).2

section
variable {b : UInt8} {l : List UInt8}
theorem first_digit (h1 : digitI b.toNat = true) : firstP (b :: l) = (1, spanL digitI (b :: l)) := if_pos h1
theorem first_quote (h1 : digitI b.toNat = false) (h2 : b = 34) : firstP (b :: l) = (2, textP (b :: l)) := by rw [firstP, if_neg (by rw [h1]; decide), if_pos h2]
theorem first_great (h1 : digitI b.toNat = false) (h2 : b ≠ 34) (h3 : greatI b.toNat = true) : firstP (b :: l) = (3, spanL wordI (b :: l)) := by rw [firstP, if_neg (by rw [h1]; decide), if_neg h2, if_pos h3]
theorem first_small (h1 : digitI b.toNat = false) (h2 : b ≠ 34) (h3 : greatI b.toNat = false) (h4 : smallI b.toNat = true) : firstP (b :: l) = (4, spanL nameI (b :: l)) := by rw [firstP, if_neg (by rw [h1]; decide), if_neg h2, if_neg (by rw [h3]; decide), if_pos h4]
theorem first_sign (h1 : digitI b.toNat = false) (h2 : b ≠ 34) (h3 : greatI b.toNat = false) (h4 : smallI b.toNat = false) : firstP (b :: l) = (5, signP (b :: l)) := by rw [firstP, if_neg (by rw [h1]; decide), if_neg h2, if_neg (by rw [h3]; decide), if_neg (by rw [h4]; decide)]
end
abbrev Tk := Nat × Nat × List UInt8
def splitL : Nat → Nat → List UInt8 → List Tk × Option Nat
  | 0, _, _ => ([], none)
  | _ + 1, _, [] => ([], none)
  | f + 1, i, b :: l => if b = 32 then splitL f (i + 1) l else
      if (firstP (b :: l)).2 = 0 then ([], some i) else
        (((firstP (b :: l)).1, i, tellP (b :: l)) :: (splitL f (i + (firstP (b :: l)).2) ((b :: l).drop (firstP (b :: l)).2)).1, (splitL f (i + (firstP (b :: l)).2) ((b :: l).drop (firstP (b :: l)).2)).2)
def splitP (l : List UInt8) : List Tk × Option Nat := splitL (l.length + 1) 0 l

theorem spanL_le (p : Int → Bool) : ∀ l : List UInt8, spanL p l ≤ l.length
  | [] => Nat.le_refl _
  | b :: l => by
    simp only [spanL, List.length_cons]
    have := spanL_le p l
    split <;> omega
theorem spanL_cons {p : Int → Bool} {b : UInt8} {l : List UInt8} (h : p b.toNat = true) : spanL p (b :: l) = spanL p l + 1 := by simp [spanL, h]
theorem spanL_stop {p : Int → Bool} {b : UInt8} {l : List UInt8} (h : p b.toNat = false) : spanL p (b :: l) = 0 := by simp [spanL, h]
theorem spanL_at {p : Int → Bool} {l : List UInt8} {i : Nat} {b : UInt8} (hb : l[i]? = some b) (h : p b.toNat = true) : spanL p (l.drop i) = spanL p (l.drop (i + 1)) + 1 := by rw [drop_cons hb, spanL_cons h]
theorem spanL_no {p : Int → Bool} {l : List UInt8} {i : Nat} {b : UInt8} (hb : l[i]? = some b) (h : p b.toNat = false) : spanL p (l.drop i) = 0 := by rw [drop_cons hb, spanL_stop h]
theorem spanL_end {p : Int → Bool} {l : List UInt8} {i : Nat} (h : l.length ≤ i) : spanL p (l.drop i) = 0 := by rw [List.drop_eq_nil_of_le h]; rfl

theorem quote_other {b : UInt8} {l : List UInt8} (h : b ≠ 34) : quoteL (b :: l) = (quoteL l).map fun r => (b :: r.1, r.2 + 1) := by
  cases l with
  | nil => simp [quoteL, h]
  | cons c l => rw [quoteL, if_neg h]
theorem quote_two (l : List UInt8) : quoteL (34 :: 34 :: l) = (quoteL l).map fun r => (34 :: r.1, r.2 + 2) := by simp [quoteL]
theorem quote_end {l : List UInt8} (h : l[0]? ≠ some 34) : quoteL (34 :: l) = some ([], 1) := by
  cases l with
  | nil => rfl
  | cons c l =>
    have : c ≠ 34 := by simpa using h
    simp [quoteL, this]
theorem quote_le : ∀ (n : Nat) (l : List UInt8), l.length ≤ n → ∀ r, quoteL l = some r → r.2 ≤ l.length ∧ 1 ≤ r.2 ∧ r.1.length < r.2
  | 0, l, hn, r, h => by
    have : l = [] := by simpa using hn
    subst this; simp [quoteL] at h
  | n + 1, [], _, r, h => by simp [quoteL] at h
  | n + 1, b :: l, hn, r, h => by
    simp only [List.length_cons] at hn ⊢
    by_cases hb : b = 34
    · subst hb
      cases l with
      | nil => rw [quote_end (by simp)] at h; cases h; simp
      | cons c l =>
        by_cases hc : c = 34
        · subst hc
          rw [quote_two, Option.map_eq_some_iff] at h
          obtain ⟨q, hq, rfl⟩ := h
          have := quote_le n l (by simp at hn; omega) q hq
          simp only [List.length_cons]
          refine ⟨?_, ?_, ?_⟩ <;> omega
        · rw [quote_end (by simpa using hc)] at h; cases h; simp
    · rw [quote_other hb, Option.map_eq_some_iff] at h
      obtain ⟨q, hq, rfl⟩ := h
      have := quote_le n l (by omega) q hq
      simp only [List.length_cons]
      refine ⟨?_, ?_, ?_⟩ <;> omega

/-- Of a quote there are two, or it ends: what is left when two are one. -/
theorem replace_inside : ∀ (n : Nat) (l : List UInt8), l.length ≤ n → ∀ r, quoteL l = some r → Lib.replaceK [34, 34] [34] (Lib.count (l.take (r.2 - 1)) [34, 34]) (l.take (r.2 - 1)) = r.1
  | 0, l, hn, r, h => by
    have : l = [] := by simpa using hn
    subst this; simp [quoteL] at h
  | n + 1, [], _, r, h => by simp [quoteL] at h
  | n + 1, b :: l, hn, r, h => by
    simp only [List.length_cons] at hn
    have hne : ([34, 34] : List UInt8) ≠ [] := by simp
    by_cases hb : b = 34
    · subst hb
      cases l with
      | nil => rw [quote_end (by simp)] at h; cases h; rfl
      | cons c l =>
        by_cases hc : c = 34
        · subst hc
          rw [quote_two, Option.map_eq_some_iff] at h
          obtain ⟨q, hq, rfl⟩ := h
          have ih := replace_inside n l (by simp at hn; omega) q hq
          have hq1 := (quote_le _ l (Nat.le_refl _) q hq).2.1
          have e : (34 :: 34 :: l : List UInt8).take (q.2 + 2 - 1) = 34 :: 34 :: l.take (q.2 - 1) := by
            rw [show q.2 + 2 - 1 = (q.2 - 1) + 1 + 1 from by omega]; rfl
          simp only [e]
          have hi : Lib.index (34 :: 34 :: l.take (q.2 - 1)) [34, 34] = ((0 : Nat) : Int) := by simp [Lib.index]
          have hcnt := Lib.count_hit hne hi
          simp only [List.length_cons, List.length_nil, List.drop_succ_cons, List.drop_zero, Nat.zero_add] at hcnt
          rw [hcnt, Nat.add_comm, Lib.replaceK_hit _ _ _ _ 0 hi]
          simp only [List.length_cons, List.length_nil, List.drop_succ_cons, List.drop_zero, List.take_zero, Nat.zero_add, ih]
          rfl
        · rw [quote_end (by simpa using hc)] at h; cases h; rfl
    · rw [quote_other hb, Option.map_eq_some_iff] at h
      obtain ⟨q, hq, rfl⟩ := h
      have ih := replace_inside n l (by omega) q hq
      have hq1 := (quote_le _ l (Nat.le_refl _) q hq).2.1
      have e : (b :: l).take (q.2 + 1 - 1) = b :: l.take (q.2 - 1) := by
        rw [show q.2 + 1 - 1 = (q.2 - 1) + 1 from by omega]; rfl
      simp only [e]
      generalize l.take (q.2 - 1) = w at ih ⊢
      have hp : ([34, 34] : List UInt8).isPrefixOf (b :: w) = false := by simp [List.isPrefixOf, Ne.symm hb]
      by_cases hm : Lib.index w [34, 34] = -1
      · have hm' : Lib.index (b :: w) [34, 34] = -1 := by simp [Lib.index, hp, hm]
        rw [Lib.count_miss hm'] 
        rw [Lib.count_miss hm] at ih
        simp only [Lib.replaceK] at ih ⊢
        rw [ih]
      · obtain ⟨i, hi⟩ : ∃ i : Nat, Lib.index w [34, 34] = i := ⟨(Lib.index w [34, 34]).toNat, by have := Lib.index_ge w [34, 34]; omega⟩
        have hi' : Lib.index (b :: w) [34, 34] = ((i + 1 : Nat) : Int) := by
          simp only [Lib.index, hp, Bool.false_eq_true, if_false, hi]
          rw [if_neg (by simp)]
          omega
        have hc1 := Lib.count_hit hne hi
        have hc2 := Lib.count_hit hne hi'
        rw [show i + 1 + ([34, 34] : List UInt8).length = (i + ([34, 34] : List UInt8).length) + 1 from by simp, List.drop_succ_cons] at hc2
        rw [hc2, Nat.add_comm, Lib.replaceK_hit _ _ _ _ (i + 1) hi']
        rw [hc1, Nat.add_comm, Lib.replaceK_hit _ _ _ _ i hi] at ih
        rw [show i + 1 + ([34, 34] : List UInt8).length = (i + ([34, 34] : List UInt8).length) + 1 from by simp, List.drop_succ_cons, List.take_succ_cons]
        simp only [List.cons_append]
        rw [ih]
theorem replaceAll_inside {l : List UInt8} {r : List UInt8 × Nat} (h : quoteL l = some r) : Lib.replaceAll (l.take (r.2 - 1)) [34, 34] [34] = r.1 := by
  have := replace_inside _ l (Nat.le_refl _) r h
  unfold Lib.replaceAll Lib.replace Lib.replaceNum
  rw [if_neg (by simp), if_pos (.inl (by omega))]
  exact this

theorem signP_le (l : List UInt8) : signP l ≤ l.length := by
  cases l with
  | nil => exact Nat.le_refl _
  | cons b l =>
    simp only [signP]
    split
    · rename_i h
      cases l with
      | nil => simp [twoB] at h
      | cons c l => simp
    · split <;> simp
theorem textP_le (l : List UInt8) : textP l ≤ l.length := by
  unfold textP
  split
  · rename_i r h
    have := (quote_le _ _ (Nat.le_refl _) r h)
    simp only [List.length_drop] at this
    omega
  · omega
theorem firstP_le (l : List UInt8) : (firstP l).2 ≤ l.length := by
  cases l with
  | nil => exact Nat.le_refl _
  | cons b l =>
    simp only [firstP]
    repeat' split
    · exact spanL_le _ _
    · exact textP_le _
    · exact spanL_le _ _
    · exact spanL_le _ _
    · exact signP_le (b :: l)
theorem textP_yes {l : List UInt8} {r : List UInt8 × Nat} (h : quoteL (l.drop 1) = some r) : textP l = r.2 + 1 := by unfold textP; rw [h]
theorem textP_some {l : List UInt8} {k : Nat} (h : (quoteL (l.drop 1)).map (·.2) = some k) : textP l = k + 1 := by
  rw [Option.map_eq_some_iff] at h
  obtain ⟨r, hr, rfl⟩ := h
  exact textP_yes hr
theorem textP_no {l : List UInt8} (h : (quoteL (l.drop 1)).map (·.2) = none) : textP l = 0 := by
  rw [Option.map_eq_none_iff] at h
  unfold textP; rw [h]
theorem inside_le (l : List UInt8) : (insideP l).length ≤ l.length := by
  unfold insideP
  split
  · rename_i r h
    have := quote_le _ _ (Nat.le_refl _) r h
    simp only [List.length_drop] at this
    omega
  · simp
/-- What a text with its quotes says. -/
theorem inside_is {l : List UInt8} (h0 : textP l ≠ 0) : Lib.replaceAll (((l.take (textP l)).take ((l.take (textP l)).length - 1)).drop 1) [34, 34] [34] = insideP l := by
  cases hq : quoteL (l.drop 1) with
  | none => exact absurd (textP_no (by rw [hq]; rfl)) h0
  | some r =>
    have h1 := textP_yes hq
    have hle := quote_le _ _ (Nat.le_refl _) r hq
    rw [List.length_drop] at hle
    have e : ((l.take (textP l)).take ((l.take (textP l)).length - 1)).drop 1 = (l.drop 1).take (r.2 - 1) := by
      rw [h1, List.length_take, Nat.min_eq_left (by omega), List.take_take, Nat.min_eq_left (by omega), List.drop_take]
      congr 1
    rw [e, replaceAll_inside hq]
    unfold insideP; rw [hq]
section
variable {f i : Nat} {b : UInt8} {l : List UInt8}
theorem split_end : splitL (f + 1) i [] = ([], none) := rfl
theorem split_blank : splitL (f + 1) i (32 :: l) = splitL f (i + 1) l := by simp [splitL]
theorem split_none (h : b ≠ 32) (h0 : (firstP (b :: l)).2 = 0) : splitL (f + 1) i (b :: l) = ([], some i) := by simp [splitL, h, h0]
theorem split_tok (h : b ≠ 32) (h0 : (firstP (b :: l)).2 ≠ 0) : splitL (f + 1) i (b :: l) = (((firstP (b :: l)).1, i, tellP (b :: l)) :: (splitL f (i + (firstP (b :: l)).2) ((b :: l).drop (firstP (b :: l)).2)).1, (splitL f (i + (firstP (b :: l)).2) ((b :: l).drop (firstP (b :: l)).2)).2) := by simp [splitL, h, h0]
end
theorem quote_take : ∀ (n : Nat) (l : List UInt8), l.length ≤ n → ∀ r, quoteL l = some r → quoteL (l.take r.2) = some r
  | 0, l, hn, r, h => by
    have : l = [] := by simpa using hn
    subst this; simp [quoteL] at h
  | n + 1, [], _, r, h => by simp [quoteL] at h
  | n + 1, b :: l, hn, r, h => by
    simp only [List.length_cons] at hn
    by_cases hb : b = 34
    · subst hb
      cases l with
      | nil => rw [quote_end (by simp)] at h; cases h; rfl
      | cons c l =>
        by_cases hc : c = 34
        · subst hc
          rw [quote_two, Option.map_eq_some_iff] at h
          obtain ⟨q, hq, rfl⟩ := h
          have ih := quote_take n l (by simp at hn; omega) q hq
          simp only [List.take_succ_cons]
          rw [quote_two, ih]; rfl
        · rw [quote_end (by simpa using hc)] at h; cases h; rfl
    · rw [quote_other hb, Option.map_eq_some_iff] at h
      obtain ⟨q, hq, rfl⟩ := h
      have ih := quote_take n l (by omega) q hq
      simp only [List.take_succ_cons]
      rw [quote_other hb, ih]; rfl
theorem text_take {l : List UInt8} (h0 : textP l ≠ 0) : textP (l.take (textP l)) = textP l ∧ insideP (l.take (textP l)) = insideP l := by
  cases hq : quoteL (l.drop 1) with
  | none => exact absurd (textP_no (by rw [hq]; rfl)) h0
  | some r =>
    have h1 := textP_yes hq
    have e : quoteL ((l.take (textP l)).drop 1) = some r := by
      rw [h1, List.drop_take, Nat.add_sub_cancel]
      exact quote_take _ _ (Nat.le_refl _) r hq
    refine ⟨by rw [textP_yes e, h1], ?_⟩
    unfold insideP; rw [e, hq]
theorem first_two {l : List UInt8} (h : (firstP l).1 = 2) : (firstP l).2 = textP l := by
  cases l with
  | nil => cases h
  | cons b l =>
    simp only [firstP] at h ⊢
    repeat' split at h
    all_goals simp_all

/-- A token, as plain data. -/
def tokV (t : Tk) : V := .agg [.x (.int .i64 ((t.1 : Nat) : Int)), .x (.int .i64 ((t.2.1 : Nat) : Int)), .x (.string (B t.2.2))]
theorem tok_push (a : List Tk) (k i : Nat) (t : List UInt8) : a.map tokV ++ [.agg [.x (.int .i64 ((k : Nat) : Int)), .x (.int .i64 ((i : Nat) : Int)), .x (.string (B t))]] = (a ++ [(k, i, t)]).map tokV := by simp [tokV]
theorem tok_some (a : List Tk) (x : Tk) : ((a ++ [x]).map tokV).isEmpty = false := by simp
def splitV (l : List UInt8) : V := match splitP l with
  | (toks, none) => .tup [.sl (toks.map tokV).isEmpty 3 (toks.map tokV) none, .x (.int .i64 (-1)), .x (.int .i64 0)]
  | (_, some i) => .tup [.sl true 0 [] none, .x (.int .i64 ((i : Nat) : Int)), .x (.int .i64 3)]
def FSplit : List V → Option V
  | [.x (.string s)] => some (if 200 < s.size then .tup [.sl true 0 [] none, .x (.int .i64 0), .x (.int .i64 5)] else splitV s.data.toList)
  | _ => none
/-- What is known of a text of which a part has been taken apart. -/
structure Part (l : List UInt8) (i : Nat) (a : List Tk) (f : Nat) : Prop where
  le : i ≤ l.length
  few : a.length ≤ i
  fuel : l.length - i < f
  is : splitP l = (a ++ (splitL f i (l.drop i)).1, (splitL f i (l.drop i)).2)
theorem Part.start (l : List UInt8) : Part l 0 [] (l.length + 1) := ⟨Nat.zero_le _, Nat.le_refl _, by omega, by simp [splitP]⟩
theorem Part.done {l : List UInt8} {i : Nat} {a : List Tk} {f : Nat} (h : Part l i a f) (hi : ¬ i < l.length) : splitP l = (a, none) := by
  obtain ⟨g, rfl⟩ : ∃ g, f = g + 1 := ⟨f - 1, by have := h.fuel; omega⟩
  rw [h.is, List.drop_eq_nil_of_le (by omega), split_end, List.append_nil]
theorem Part.blank {l : List UInt8} {i : Nat} {a : List Tk} {f : Nat} (h : Part l i a f) (hb : l[i]? = some 32) : Part l (i + 1) a (f - 1) := by
  obtain ⟨g, rfl⟩ : ∃ g, f = g + 1 := ⟨f - 1, by have := h.fuel; omega⟩
  have hi : i < l.length := (List.getElem?_eq_some_iff.1 hb).1
  refine ⟨by omega, by have := h.few; omega, by have := h.fuel; omega, ?_⟩
  rw [h.is, drop_cons hb, split_blank]; rfl
theorem Part.bad {l : List UInt8} {i : Nat} {a : List Tk} {f : Nat} (h : Part l i a f) {b : UInt8} (hb : l[i]? = some b) (h32 : b ≠ 32) (h0 : (firstP (l.drop i)).2 = 0) : splitP l = (a, some i) := by
  obtain ⟨g, rfl⟩ : ∃ g, f = g + 1 := ⟨f - 1, by have := h.fuel; omega⟩
  rw [drop_cons hb] at h0
  rw [h.is, drop_cons hb, split_none h32 h0, List.append_nil]
theorem Part.tok {l : List UInt8} {i : Nat} {a : List Tk} {f : Nat} (h : Part l i a f) {b : UInt8} (hb : l[i]? = some b) (h32 : b ≠ 32) (h0 : (firstP (l.drop i)).2 ≠ 0) :
    Part l (i + (firstP (l.drop i)).2) (a ++ [((firstP (l.drop i)).1, i, tellP (l.drop i))]) (f - 1) := by
  obtain ⟨g, rfl⟩ : ∃ g, f = g + 1 := ⟨f - 1, by have := h.fuel; omega⟩
  have hi : i < l.length := (List.getElem?_eq_some_iff.1 hb).1
  have hle := firstP_le (l.drop i)
  rw [List.length_drop] at hle
  refine ⟨by omega, by have := h.few; simp; omega, by have := h.fuel; omega, ?_⟩
  rw [h.is]
  have e := drop_cons hb
  rw [e] at h0 ⊢
  rw [split_tok h32 h0, ← e, List.drop_drop, Nat.add_sub_cancel]
  simp
theorem splitV_ok {l : List UInt8} {a : List Tk} (h : splitP l = (a, none)) : splitV l = .tup [.sl (a.map tokV).isEmpty 3 (a.map tokV) none, .x (.int .i64 (-1)), .x (.int .i64 0)] := by unfold splitV; rw [h]
theorem splitV_no {l : List UInt8} {a : List Tk} {i : Nat} (h : splitP l = (a, some i)) : splitV l = .tup [.sl true 0 [] none, .x (.int .i64 ((i : Nat) : Int)), .x (.int .i64 3)] := by unfold splitV; rw [h]

end Go.Proofs.YteibnmlfipkmeaaGreatDoor
