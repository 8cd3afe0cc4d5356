/- What is written is read back: plain laws of bytesV and readV. -/
import Derived.Test.YtaojlcgcghdlmaaDoorLawA
namespace Go.Proofs.YtaojlcgcghdlmaaDoor
open Go.RowKit

theorem beNat_be8_take (n : Int) : ∀ k, k ≤ 8 → beNat ((be8 n).take k) = (n % 18446744073709551616).toNat / 2 ^ (64 - 8 * k)
  | 0, _ => by
    have h1 : n % 18446744073709551616 < 18446744073709551616 := Int.emod_lt_of_pos _ (by decide)
    rw [List.take_zero]
    show 0 = _
    rw [Nat.mul_zero, Nat.sub_zero, Nat.div_eq_of_lt (by simp only [Nat.reducePow]; omega)]
  | k + 1, hk => by
    have hl : k < (be8 n).length := by simp [be8]; omega
    have hg : (be8 n)[k].toNat = (n % 18446744073709551616).toNat / 2 ^ (56 - 8 * k) % 256 := by
      simp only [be8, List.getElem_map, List.getElem_range, UInt8.toNat_ofNat']
      omega
    rw [beNat_take _ k hl, beNat_be8_take n k (by omega), hg, show 64 - 8 * (k + 1) = 56 - 8 * k by omega, show 64 - 8 * k = (56 - 8 * k) + 8 by omega, Nat.pow_add, ← Nat.div_div_eq_div_mul, show (2 : Nat) ^ 8 = 256 from rfl]
    omega
theorem beNat_be8 (n : Int) : beNat (be8 n) = (n % 18446744073709551616).toNat := by
  have h := beNat_be8_take n 8 (Nat.le_refl _)
  rw [List.take_of_length_le (by simp [be8])] at h
  simpa using h
theorem wrap64_be8 {n : Int} (h0 : -9223372036854775808 ≤ n) (h1 : n ≤ 9223372036854775807) : wrap64 (beNat (be8 n)) = n := by
  rw [beNat_be8]
  have h2 : (0 : Int) ≤ n % 18446744073709551616 := Int.emod_nonneg _ (by decide)
  have h3 : n % 18446744073709551616 < 18446744073709551616 := Int.emod_lt_of_pos _ (by decide)
  unfold wrap64
  omega
theorem be8_length (n : Int) : (be8 n).length = 8 := by simp [be8]

theorem empty_of {s : ByteArray} (h : s.toList.isEmpty = true) : s = ⟨#[]⟩ := by
  have e : ByteArray.toList ⟨#[]⟩ = [] := by rw [Lib.toList_data]
  exact ba_ext (by rw [List.isEmpty_iff.1 h, e])

theorem readRaw_back {k n : Int} {s : ByteArray} (h : rightB k n s = true) (h0 : -9223372036854775808 ≤ n) (h1 : n ≤ 9223372036854775807) (more : List UInt8) :
    readRaw (bytesV k n s ++ more) = (k, n, s, ((bytesV k n s).length : Int)) := by
  have hb := h
  simp only [rightB, Bool.or_eq_true, Bool.and_eq_true, beq_iff_eq, decide_eq_true_eq] at h
  rcases h with (((⟨⟨rfl, rfl⟩, he⟩ | ⟨rfl, he⟩) | ⟨⟨rfl, rfl⟩, hl⟩) | ⟨⟨rfl, hn⟩, he⟩) | ⟨⟨⟨rfl, h2⟩, h3⟩, he⟩
  · obtain rfl := empty_of he
    simp [bytesV, hb, readRaw]
  · obtain rfl := empty_of he
    have e : bytesV 1 n ⟨#[]⟩ = 1 :: be8 n := by simp [bytesV, hb]
    rw [e, List.cons_append]
    have h8 : 8 ≤ (be8 n ++ more).length := by rw [List.length_append, be8_length]; omega
    have ht : (be8 n ++ more).take 8 = be8 n := by rw [List.take_append_of_le_length (by rw [be8_length]; omega), List.take_of_length_le (by rw [be8_length]; omega)]
    simp only [readRaw, show (1 : UInt8).toNat = 1 from rfl, if_pos h8, ht, wrap64_be8 h0 h1, List.length_cons, be8_length]
    rfl
  · have e : bytesV 2 0 s = 2 :: UInt8.ofNat s.size :: s.data.toList := by simp [bytesV, hb]
    have hs : (UInt8.ofNat s.size).toNat = s.size := by simp [UInt8.toNat_ofNat']; omega
    rw [e, List.cons_append, List.cons_append]
    have h8 : s.size ≤ (s.data.toList ++ more).length := by rw [List.length_append, Array.length_toList]; show s.data.size ≤ _; omega
    have ht : (s.data.toList ++ more).take s.size = s.data.toList := by
      rw [List.take_append_of_le_length (by rw [Array.length_toList]; exact Nat.le_refl _), List.take_of_length_le (by rw [Array.length_toList]; exact Nat.le_refl _)]
    simp only [readRaw, show (2 : UInt8).toNat = 2 from rfl, hs, if_pos h8, ht, List.length_cons, Array.length_toList]
    simp only [show ¬((2 : Nat) = 0) by decide, show ¬((2 : Nat) = 1) by decide, if_false, if_true]
    refine Prod.ext rfl (Prod.ext rfl (Prod.ext rfl ?_))
    show (2 : Int) + (s.data.size : Int) = ((s.data.size + 1 + 1 : Nat) : Int)
    omega
  · obtain rfl := empty_of he
    rcases hn with rfl | rfl <;> simp [bytesV, hb, readRaw]
  · obtain rfl := empty_of he
    have e : bytesV 4 n ⟨#[]⟩ = [4, UInt8.ofNat n.toNat] := by simp [bytesV, hb]
    have u := u8_int n (by omega) (by omega)
    rw [e, List.cons_append, List.cons_append]
    simp only [readRaw, show (4 : UInt8).toNat = 4 from rfl, u]
    simp

theorem bytesV_pos {k n : Int} {s : ByteArray} (h : rightB k n s = true) : 0 < (bytesV k n s).length := by
  unfold bytesV
  rw [if_pos h]
  (repeat' split) <;> simp
theorem bytesV_le {k n : Int} {s : ByteArray} : (bytesV k n s).length ≤ 300 := by
  unfold bytesV
  split
  · rename_i h
    simp only [rightB, Bool.or_eq_true, Bool.and_eq_true, beq_iff_eq, decide_eq_true_eq] at h
    have hs : s.size ≤ 200 := by
      rcases h with (((h | h) | h) | h) | h
      · rw [empty_of h.2]; decide
      · rw [empty_of h.2]; decide
      · omega
      · rw [empty_of h.2]; decide
      · rw [empty_of h.2]; decide
    have hd : s.data.size ≤ 200 := hs
    (repeat' split) <;> simp [be8] <;> omega
  · simp

theorem readV_back {k n : Int} {s : ByteArray} (h : rightB k n s = true) (h0 : -9223372036854775808 ≤ n) (h1 : n ≤ 9223372036854775807) (more : List UInt8) :
    readV (bytesV k n s ++ more) = (k, n, s, ((bytesV k n s).length : Int), 0) := by
  have hp := bytesV_pos h
  unfold readV
  rw [readRaw_back h h0 h1]
  simp only
  rw [if_neg (by omega), if_pos h]

/-- No proper beginning is a value. -/
theorem readRaw_short {k n : Int} {s : ByteArray} (h : rightB k n s = true) (j : Nat) (hj : j < (bytesV k n s).length) :
    (readRaw ((bytesV k n s).take j)).2.2.2 = 0 := by
  have hb := h
  rcases j with _ | j
  · simp [readRaw]
  simp only [rightB, Bool.or_eq_true, Bool.and_eq_true, beq_iff_eq, decide_eq_true_eq] at h
  rcases h with (((⟨⟨rfl, rfl⟩, he⟩ | ⟨rfl, he⟩) | ⟨⟨rfl, rfl⟩, hl⟩) | ⟨⟨rfl, hn⟩, he⟩) | ⟨⟨⟨rfl, h2⟩, h3⟩, he⟩
  · have e : bytesV 0 0 s = [0] := by simp [bytesV, hb]
    rw [e] at hj
    simp at hj
  · have e : bytesV 1 n s = 1 :: be8 n := by simp [bytesV, hb]
    rw [e] at hj ⊢
    rw [List.length_cons, be8_length] at hj
    rw [List.take_succ_cons]
    have h8 : ¬ 8 ≤ ((be8 n).take j).length := by rw [List.length_take, be8_length]; omega
    simp only [readRaw, show (1 : UInt8).toNat = 1 from rfl, if_neg h8]
    rfl
  · have e : bytesV 2 0 s = 2 :: UInt8.ofNat s.size :: s.data.toList := by simp [bytesV, hb]
    have hs : (UInt8.ofNat s.size).toNat = s.size := by simp [UInt8.toNat_ofNat']; omega
    rw [e] at hj ⊢
    rw [List.length_cons, List.length_cons, Array.length_toList] at hj
    rw [List.take_succ_cons]
    rcases j with _ | j
    · simp [readRaw]
    · rw [List.take_succ_cons]
      have hss : s.size = s.data.size := rfl
      have h8 : ¬ s.size ≤ (s.data.toList.take j).length := by rw [List.length_take, Array.length_toList]; omega
      simp only [readRaw, show (2 : UInt8).toNat = 2 from rfl, hs, if_neg h8]
      rfl
  · have e : bytesV 3 n s = [3, UInt8.ofNat n.toNat] := by simp [bytesV, hb]
    rw [e] at hj ⊢
    obtain rfl : j = 0 := by simp at hj; omega
    simp [readRaw]
  · have e : bytesV 4 n s = [4, UInt8.ofNat n.toNat] := by simp [bytesV, hb]
    rw [e] at hj ⊢
    obtain rfl : j = 0 := by simp at hj; omega
    simp [readRaw]
theorem readV_short {k n : Int} {s : ByteArray} (h : rightB k n s = true) (j : Nat) (hj : j < (bytesV k n s).length) :
    readV ((bytesV k n s).take j) = (0, 0, ⟨#[]⟩, 0, 2) := by
  unfold readV
  rw [if_pos (readRaw_short h j hj)]

end Go.Proofs.YtaojlcgcghdlmaaDoor
