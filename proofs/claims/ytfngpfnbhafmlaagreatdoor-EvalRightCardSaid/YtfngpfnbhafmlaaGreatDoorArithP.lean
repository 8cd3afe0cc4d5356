/- Plain laws of sums, differences, products and quotients of numbers of 64 bits with a sign. No program is named here. -/
import Derived.RowKit
import Derived.IntWalk
namespace Go.Proofs.YtfngpfnbhafmlaaGreatDoor
open Go.RowKit
def inR (x : Int) : Prop := -9223372036854775808 ≤ x ∧ x ≤ 9223372036854775807
instance (x : Int) : Decidable (inR x) := inferInstanceAs (Decidable (_ ∧ _))
theorem wrap64_range (x : Int) : inR (wrap64 x) := by unfold wrap64 inR; omega
theorem wrap64_of {x : Int} (h : inR x) : wrap64 x = x := by unfold wrap64; unfold inR at h; omega
theorem wrap64_less (x : Int) : ∃ t : Int, wrap64 x = x + 18446744073709551616 * t := ⟨-((x + 9223372036854775808) / 18446744073709551616), by unfold wrap64; omega⟩
theorem tmod_small (p : Int) {b : Int} (h0 : b ≠ 0) (hb : inR b) : -9223372036854775808 < p.tmod b ∧ p.tmod b < 9223372036854775808 := by
 unfold inR at hb
 rcases Int.lt_or_gt_of_ne h0 with h | h
 · have h1 := Int.tmod_lt_of_pos p (show (0 : Int) < -b by omega)
   have h2 := Int.lt_tmod_of_pos p (show (0 : Int) < -b by omega)
   rw [Int.tmod_neg] at h1 h2
   omega
 · have h1 := Int.tmod_lt_of_pos p h
   have h2 := Int.lt_tmod_of_pos p h
   omega
theorem mul_test {a b : Int} (hb : inR b) (h0 : b ≠ 0) : (wrap64 (a * b)).tdiv b = a ↔ inR (a * b) := by
 constructor
 · intro h
   obtain ⟨t, ht⟩ := wrap64_less (a * b)
   have h1 := Int.mul_tdiv_add_tmod (wrap64 (a * b)) b
   have h2 := tmod_small (wrap64 (a * b)) h0 hb
   rw [h, Int.mul_comm b a] at h1
   have h3 : t = 0 := by omega
   rw [h3] at ht
   have := wrap64_range (a * b)
   rw [ht] at this
   simpa using this
 · intro h
   rw [wrap64_of h]
   exact Int.mul_tdiv_cancel a h0
theorem quo_in {p b : Int} (hp : inR p) (h : ¬(p = -9223372036854775808 ∧ b = -1)) : inR (p.tdiv b) := by
 have h1 : (p.tdiv b).natAbs = p.natAbs / b.natAbs := Int.natAbs_tdiv p b
 have h2 : p.natAbs / b.natAbs ≤ p.natAbs := Nat.div_le_self _ _
 unfold inR at *
 by_cases hm : p = -9223372036854775808
 · have hb : b ≠ -1 := fun e => h ⟨hm, e⟩
   rcases Nat.lt_or_ge b.natAbs 2 with hs | hs
   · rcases (show b = 0 ∨ b = 1 by omega) with rfl | rfl
     · simp
     · rw [Int.tdiv_one]; exact hp
   · have h3 : p.natAbs / b.natAbs ≤ p.natAbs / 2 := Nat.div_le_div_left hs (by decide)
     omega
 · omega
theorem quo_out : (-9223372036854775808 : Int).tdiv (-1) = 9223372036854775808 := by decide
end Go.Proofs.YtfngpfnbhafmlaaGreatDoor
