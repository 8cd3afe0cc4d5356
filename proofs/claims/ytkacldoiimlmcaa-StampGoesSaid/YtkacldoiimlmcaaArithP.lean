/- Plain laws of sums, differences, products and quotients of numbers of 64 bits with a sign. No program is named here. -/
import Derived.RowKit
import Derived.IntWalk
namespace Go.Proofs.Ytkacldoiimlmcaa
open Go.RowKit

/-- A number of 64 bits with a sign. -/
def inR (x : Int) : Prop := -9223372036854775808 ≤ x ∧ x ≤ 9223372036854775807
instance (x : Int) : Decidable (inR x) := inferInstanceAs (Decidable (_ ∧ _))

theorem wrap64_range (x : Int) : inR (wrap64 x) := by unfold wrap64 inR; omega
theorem wrap64_of {x : Int} (h : inR x) : wrap64 x = x := by unfold wrap64; unfold inR at h; omega
theorem wrap64_iff {x : Int} : wrap64 x = x ↔ inR x := ⟨fun h => h ▸ wrap64_range x, wrap64_of⟩
theorem wrap64_less (x : Int) : ∃ t : Int, wrap64 x = x + 18446744073709551616 * t := ⟨-((x + 9223372036854775808) / 18446744073709551616), by unfold wrap64; omega⟩

/-- A sum that is compared with one of its parts. -/
theorem add_test {a b : Int} (ha : inR a) (hb : inR b) (_h0 : b ≠ 0) : ((a < wrap64 (a + b)) ↔ (0 < b)) ↔ inR (a + b) := by
  unfold wrap64
  unfold inR at *
  omega
theorem sub_test {a b : Int} (ha : inR a) (hb : inR b) (_h0 : b ≠ 0) : ((wrap64 (a - b) < a) ↔ (0 < b)) ↔ inR (a - b) := by
  unfold wrap64
  unfold inR at *
  omega
/-- A sum by signs. -/
theorem add_signs {a b : Int} (ha : inR a) (hb : inR b) : (((a < 0) ↔ (b < 0)) ∧ ¬((wrap64 (a + b) < 0) ↔ (a < 0))) ↔ ¬ inR (a + b) := by
  unfold wrap64
  unfold inR at *
  omega
theorem sub_signs {a b : Int} (ha : inR a) (hb : inR b) : (¬((a < 0) ↔ (b < 0)) ∧ ¬((wrap64 (a - b) < 0) ↔ (a < 0))) ↔ ¬ inR (a - b) := by
  unfold wrap64
  unfold inR at *
  omega

theorem tmod_small (p : Int) {b : Int} (h0 : b ≠ 0) (hb : inR b) : -9223372036854775808 < p.tmod b ∧ p.tmod b < 9223372036854775808 := by
  unfold inR at hb
  rcases Int.lt_or_gt_of_ne h0 with h | h
  · have h1 := Int.tmod_lt_of_pos p (show (0 : Int) < -b by omega)
    have h2 := Int.lt_tmod_of_pos p (show (0 : Int) < -b by omega)
    rw [Int.tmod_neg] at h1 h2
    omega
  · have h1 := Int.tmod_lt_of_pos p h
    have h2 := Int.lt_tmod_of_pos p h
    omega

/-- A product that is divided again. -/
theorem mul_test {a b : Int} (hb : inR b) (h0 : b ≠ 0) : (wrap64 (a * b)).tdiv b = a ↔ inR (a * b) := by
  constructor
  · intro h
    obtain ⟨t, ht⟩ := wrap64_less (a * b)
    have h1 := Int.mul_tdiv_add_tmod (wrap64 (a * b)) b
    have h2 := tmod_small (wrap64 (a * b)) h0 hb
    rw [h, Int.mul_comm b a] at h1
    have h3 : t = 0 := by omega
    rw [h3] at ht
    have := wrap64_range (a * b)
    rw [ht] at this
    simpa using this
  · intro h
    rw [wrap64_of h]
    exact Int.mul_tdiv_cancel a h0

/-- A quotient is too great at one pair alone. -/
theorem quo_in {p b : Int} (hp : inR p) (h : ¬(p = -9223372036854775808 ∧ b = -1)) : inR (p.tdiv b) := by
  have h1 : (p.tdiv b).natAbs = p.natAbs / b.natAbs := Int.natAbs_tdiv p b
  have h2 : p.natAbs / b.natAbs ≤ p.natAbs := Nat.div_le_self _ _
  unfold inR at *
  by_cases hm : p = -9223372036854775808
  · have hb : b ≠ -1 := fun e => h ⟨hm, e⟩
    rcases Nat.lt_or_ge b.natAbs 2 with hs | hs
    · rcases (show b = 0 ∨ b = 1 by omega) with rfl | rfl
      · simp
      · rw [Int.tdiv_one]; exact hp
    · have h3 : p.natAbs / b.natAbs ≤ p.natAbs / 2 := Nat.div_le_div_left hs (by decide)
      omega
  · omega
theorem quo_out : (-9223372036854775808 : Int).tdiv (-1) = 9223372036854775808 := by decide

/-- The half of a sum: 'a>>1 + b>>1 + a&b&1'. -/
theorem half_sum (a b : Int) : (a / 2 + b / 2 + (a % 2) * (b % 2) = (a + b) / 2) := by
  rcases Int.emod_two_eq a with h | h <;> rcases Int.emod_two_eq b with k | k <;> rw [h, k] <;> omega
theorem half_in (a b : Int) : inR (a + b) ↔ -4611686018427387904 ≤ (a + b) / 2 ∧ (a + b) / 2 < 4611686018427387904 := by
  unfold inR
  omega

/-- What is divided is so many times the divisor, and what is left. -/
theorem div_back (a b : Int) : a - a.tdiv b * b = a.tmod b := by
  have := Int.mul_tdiv_add_tmod a b
  rw [Int.mul_comm] at this
  omega

end Go.Proofs.Ytkacldoiimlmcaa
