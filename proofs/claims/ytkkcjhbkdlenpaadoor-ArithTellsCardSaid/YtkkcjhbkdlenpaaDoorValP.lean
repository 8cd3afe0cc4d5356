/- What values are, as plain functions; nothing of the program. -/
import GoSem.Core.Sem
import Derived.Lib.ItoaNum
import Derived.Lib.Small
import Derived.Lib.Strings
namespace Go.Proofs.YtkkcjhbkdlenpaaDoor

/-- Which values may be: kind, number, text. -/
def rightB (k n : Int) (s : ByteArray) : Bool :=
  (k == 0 && n == 0 && s.toList.isEmpty) || (k == 1 && s.toList.isEmpty) || (k == 2 && n == 0 && decide ((s.size : Int) ≤ 200)) ||
    (k == 3 && (n == 0 || n == 1) && s.toList.isEmpty) || (k == 4 && decide (1 ≤ n) && decide (n ≤ 7) && s.toList.isEmpty)

def cmpI (a b : Int) : Int := if a < b then -1 else if b < a then 1 else 0
def cmpS (a b : ByteArray) : Int := if Op.bytesLess a.toList b.toList then -1 else if a.toList == b.toList then 0 else 1
def cmpV (k n : Int) (s : ByteArray) (k' n' : Int) (s' : ByteArray) : Int :=
  if rightB k n s && rightB k' n' s' then (if cmpI k k' ≠ 0 then cmpI k k' else if cmpI n n' ≠ 0 then cmpI n n' else cmpS s s') else 0

/-- The model's order of texts is the order of lists. -/
theorem bl_lt (x y : List UInt8) : Op.bytesLess x y = decide (x < y) := by
  induction x generalizing y with
  | nil => cases y <;> simp [Op.bytesLess]
  | cons a x ih =>
    cases y with
    | nil => simp [Op.bytesLess]
    | cons b y => simp [Op.bytesLess, ih, List.cons_lt_cons_iff, Bool.decide_or, Bool.decide_and, Bool.beq_eq_decide_eq]
theorem bl_irrefl (l : List UInt8) : Op.bytesLess l l = false := by
  rw [bl_lt]; exact decide_eq_false (List.lt_irrefl l)
theorem bl_asymm {a b : List UInt8} (h : Op.bytesLess a b = true) : Op.bytesLess b a = false := by
  rw [bl_lt] at *; exact decide_eq_false (List.lt_asymm (of_decide_eq_true h))
theorem bl_trans {a b c : List UInt8} (h : Op.bytesLess a b = true) (k : Op.bytesLess b c = true) : Op.bytesLess a c = true := by
  rw [bl_lt] at *; exact decide_eq_true (List.lt_trans (of_decide_eq_true h) (of_decide_eq_true k))
theorem bl_tri {a b : List UInt8} (h : Op.bytesLess a b = false) (k : Op.bytesLess b a = false) : a = b := by
  rw [bl_lt] at *
  exact List.le_antisymm (of_decide_eq_false k) (of_decide_eq_false h)

theorem ba_ext {a b : ByteArray} (h : a.toList = b.toList) : a = b := by
  rw [Lib.toList_data, Lib.toList_data] at h
  exact ByteArray.ext (Array.toList_inj.1 h)

theorem cmpS_eq {a b : ByteArray} : cmpS a b = 0 ↔ a = b := by
  unfold cmpS
  by_cases h : a = b
  · subst h; simp [bl_irrefl]
  · have : ¬ a.toList = b.toList := fun e => h (ba_ext e)
    simp [this, h]
    split <;> simp
theorem cmpS_swap (a b : ByteArray) : cmpS a b = - cmpS b a := by
  unfold cmpS
  by_cases h : a.toList = b.toList
  · rw [h]; simp [bl_irrefl]
  · have h' : ¬ b.toList = a.toList := fun e => h e.symm
    cases h1 : Op.bytesLess a.toList b.toList
    · cases h2 : Op.bytesLess b.toList a.toList
      · exact absurd (bl_tri h1 h2) h
      · simp [h]
    · simp [bl_asymm h1, h']
theorem cmpS_pos {a b : ByteArray} : 0 < cmpS a b ↔ Op.bytesLess b.toList a.toList = true := by
  rw [cmpS_swap]
  unfold cmpS
  split
  · simp_all
  · split <;> simp_all
theorem cmpS_trans {a b c : ByteArray} (h : cmpS a b ≤ 0) (k : cmpS b c ≤ 0) : cmpS a c ≤ 0 := by
  have h1 : Op.bytesLess b.toList a.toList = false := by
    cases e : Op.bytesLess b.toList a.toList
    · rfl
    · have := cmpS_pos.2 e; omega
  have h2 : Op.bytesLess c.toList b.toList = false := by
    cases e : Op.bytesLess c.toList b.toList
    · rfl
    · have := cmpS_pos.2 e; omega
  cases e : Op.bytesLess c.toList a.toList
  · have := mt cmpS_pos.1 (show ¬ Op.bytesLess c.toList a.toList = true by simp [e]); omega
  · exfalso
    cases e1 : Op.bytesLess a.toList b.toList
    · have := bl_tri e1 h1
      rw [this, h2] at e
      cases e
    · have := bl_trans e e1
      rw [h2] at this
      cases this

theorem cmpI_eq {a b : Int} : cmpI a b = 0 ↔ a = b := by unfold cmpI; (repeat' split) <;> omega
theorem cmpI_swap (a b : Int) : cmpI a b = - cmpI b a := by unfold cmpI; (repeat' split) <;> omega
theorem cmpI_neg {a b : Int} : cmpI a b < 0 ↔ a < b := by unfold cmpI; (repeat' split) <;> omega

theorem cmpV_swap (k n : Int) (s : ByteArray) (k' n' : Int) (s' : ByteArray) : cmpV k n s k' n' s' = - cmpV k' n' s' k n s := by
  unfold cmpV
  rw [Bool.and_comm, cmpI_swap k' k, cmpI_swap n' n, cmpS_swap s' s]
  cases rightB k' n' s' && rightB k n s
  · simp
  · simp only [if_true]
    (repeat' split) <;> omega
theorem cmpV_eq {k n : Int} {s : ByteArray} {k' n' : Int} {s' : ByteArray} (h : rightB k n s = true) (h' : rightB k' n' s' = true) :
    cmpV k n s k' n' s' = 0 ↔ k = k' ∧ n = n' ∧ s = s' := by
  simp only [cmpV, h, h', Bool.and_self, if_true]
  rw [← cmpI_eq (a := k), ← cmpI_eq (a := n), ← cmpS_eq]
  by_cases h1 : cmpI k k' = 0 <;> by_cases h2 : cmpI n n' = 0 <;> simp [h1, h2]
theorem cmpV_trans {k n : Int} {s : ByteArray} {k' n' : Int} {s' : ByteArray} {k2 n2 : Int} {s2 : ByteArray} (h : rightB k n s = true) (h' : rightB k' n' s' = true) (h2 : rightB k2 n2 s2 = true)
    (a : cmpV k n s k' n' s' ≤ 0) (b : cmpV k' n' s' k2 n2 s2 ≤ 0) : cmpV k n s k2 n2 s2 ≤ 0 := by
  simp only [cmpV, h, h', h2, Bool.and_self, if_true] at *
  have i1 := @cmpI_eq k k'; have i2 := @cmpI_eq k' k2; have i3 := @cmpI_eq k k2
  have j1 := @cmpI_neg k k'; have j2 := @cmpI_neg k' k2; have j3 := @cmpI_neg k k2
  have l1 := @cmpI_eq n n'; have l2 := @cmpI_eq n' n2; have l3 := @cmpI_eq n n2
  have m1 := @cmpI_neg n n'; have m2 := @cmpI_neg n' n2; have m3 := @cmpI_neg n n2
  have tr := @cmpS_trans s s' s2
  split at a <;> split at b <;> (try split at a) <;> (try split at b) <;> split <;> (try split) <;> omega

theorem cmpS_bd (a b : ByteArray) : -1 ≤ cmpS a b ∧ cmpS a b ≤ 1 := by unfold cmpS; (repeat' split) <;> omega
theorem cmpI_bd (a b : Int) : -1 ≤ cmpI a b ∧ cmpI a b ≤ 1 := by unfold cmpI; (repeat' split) <;> omega
theorem cmpV_bd (k n : Int) (s : ByteArray) (k' n' : Int) (s' : ByteArray) : -1 ≤ cmpV k n s k' n' s' ∧ cmpV k n s k' n' s' ≤ 1 := by
  have h1 := cmpI_bd k k'; have h2 := cmpI_bd n n'; have h3 := cmpS_bd s s'
  unfold cmpV
  (repeat' split) <;> omega
/-- The reference's way through two values comes to the same. -/
theorem cmpV_tests (k n : Int) (s : ByteArray) (k' n' : Int) (s' : ByteArray) :
    (if cmpI k k' ≠ 0 then cmpI k k' else if cmpI n n' ≠ 0 then cmpI n n' else cmpS s s') =
      if k ≠ k' then (if k < k' then -1 else 1) else if n ≠ n' then (if n < n' then -1 else 1) else if (!(s.toList == s'.toList)) then (if Op.bytesLess s.toList s'.toList then -1 else 1) else 0 := by
  unfold cmpS
  by_cases h : s.toList = s'.toList
  · rw [h]; simp only [cmpI, bl_irrefl, beq_self_eq_true]; (repeat' split) <;> first | omega | simp_all
  · simp only [cmpI, beq_eq_false_iff_ne.2 h]; (repeat' split) <;> first | omega | simp_all

end Go.Proofs.YtkkcjhbkdlenpaaDoor
