/- The reference's Dec, as a function of plain data. -/
import Derived.Test.YteibnmlfipkmeaaGreatDoorLItoa
import Derived.Test.YteibnmlfipkmeaaGreatDoorBase
import Derived.Lib.ItoaLen
import Derived.Deep.RegionHeld3
namespace Go.Proofs.YteibnmlfipkmeaaGreatDoor
open Go Go.RowKit
set_option linter.unusedSimpArgs false
theorem digit_piece (d : Nat) (h : d < 10) : (ByteArray.mk #[48, 49, 50, 51, 52, 53, 54, 55, 56, 57]).extract d (d + 1) = ⟨#[UInt8.ofNat (48 + d)]⟩ := by
  rcases (show d = 0 ∨ d = 1 ∨ d = 2 ∨ d = 3 ∨ d = 4 ∨ d = 5 ∨ d = 6 ∨ d = 7 ∨ d = 8 ∨ d = 9 from by omega) with rfl | rfl | rfl | rfl | rfl | rfl | rfl | rfl | rfl | rfl <;> rfl

theorem dd_len (f : Nat) : ∀ u, u < 10 ^ (f + 1) → (Lib.decDigits u).length ≤ f + 1 := by
  induction f with
  | zero => intro u h; rw [Lib.decDigits_one (by omega)]; simp
  | succ f ih =>
    intro u h
    rw [Lib.decDigits]
    split
    · simp
    · have := ih (u / 10) (by rw [Nat.pow_succ] at h; omega)
      simp
      omega
theorem dd_len20 (u : Nat) (h : u < 18446744073709551616) : (Lib.decDigits u).length ≤ 20 := dd_len 19 u (by omega)

set_option maxHeartbeats 400000 in
theorem decu_any (f : Nat) : ∀ (u : Nat) (w : World), u < 18446744073709551616 → u < f →
    Calls Tryz.prog 88 #[.int .u64 u] w fun e w' => e = .returned (.string ⟨(Lib.decDigits u).toArray⟩) ∧ w = w' := by
  induction f with
  | zero => intro u w _ h; omega
  | succ f ih =>
    intro u w hu hf
    by_cases h9 : u < 10
    · go_enter Tryz.func88, Tryz.ntmps88
      go_wp2_with fail
      go_ret
      refine ⟨ret_str ?_, rfl⟩
      rw [digit_piece _ (by omega), Lib.decDigits_one h9, Nat.mod_eq_of_lt h9]
    · have hl := dd_len20 (u / 10) (by omega)
      go_enter Tryz.func88, Tryz.ntmps88
      go_wp2_with (go_at_call 88; refine (ih (u / 10) _ (by omega) (by omega)).mono ?_; rintro e w' ⟨rfl, rfl⟩)
      go_ret
      refine ⟨ret_str ?_, rfl⟩
      have e : Lib.decDigits u = Lib.decDigits (u / 10) ++ [UInt8.ofNat (48 + u % 10)] := by rw [Lib.decDigits, dif_neg h9]
      rw [digit_piece _ (by omega), e, ByteArray.mk_append_mk]

theorem decu_int (n : Int) (w : World) (h0 : 0 ≤ n) (h1 : n ≤ 18446744073709551615) :
    Calls Tryz.prog 88 #[.int .u64 n] w fun e w' => e = .returned (.string ⟨(Lib.decDigits n.toNat).toArray⟩) ∧ w = w' := by
  obtain ⟨u, rfl⟩ := Int.eq_ofNat_of_zero_le h0
  exact decu_any (u + 1) u w (by omega) (by omega)

set_option maxHeartbeats 400000 in
theorem dec_any (n : Int) (w : World) (h0 : -9223372036854775808 ≤ n) (h1 : n ≤ 9223372036854775807) :
    Calls Tryz.prog 66 #[.int .i64 n] w fun e w' => e = .returned (.string ⟨(Lib.itoa n).toArray⟩) ∧ w = w' := by
  by_cases hn : n < 0
  · have hl := dd_len20 (-n).toNat (by omega)
    have e1 : (-(n + 1) + 1).toNat = (-n).toNat := by omega
    go_enter Tryz.func66, Tryz.ntmps66
    go_wp2_with (go_at_call 88; ((with_reducible refine (decu_int _ _ (by omega) (by omega)).mono ?_); rintro e w1 ⟨rfl, rfl⟩; rw [e1]))
    go_ret
    refine ⟨ret_str ?_, rfl⟩
    rw [Lib.itoa, if_pos hn, show n.natAbs = (-n).toNat from by omega]
    rw [ByteArray.mk_append_mk]
    rfl
  · go_enter Tryz.func66, Tryz.ntmps66
    go_wp2_with (go_at_call 88; ((with_reducible refine (decu_int _ _ (by omega) (by omega)).mono ?_); rintro e w1 ⟨rfl, rfl⟩))
    go_ret
    refine ⟨ret_str ?_, rfl⟩
    rw [Lib.itoa, if_neg (by omega)]

theorem dec_fun : FunV 66 FItoa := by
  refine ⟨fun a w => Tryz.call66 a w, fun m w vs us r hF hd hr hj hg => ?_⟩
  unfold FItoa at hF
  split at hF
  case h_2 => cases hF
  rename_i n
  split at hF
  · rename_i h
    cases hF
    obtain rfl := args_eq (xs := [.int .i64 n]) hr rfl
    refine (dec_any n w h.1 h.2).mono ?_
    rintro e w' ⟨rfl, rfl⟩
    exact ⟨_, m, rfl, .x _, Below.refl _ _, fun _ _ => rfl⟩
  · cases hF
end Go.Proofs.YteibnmlfipkmeaaGreatDoor
