/- How a value is shown: the project and the reference. -/
import Derived.Test.YtkkcjhbkdlenpaaDoorValB
import Derived.Test.YtkkcjhbkdlenpaaDoorGlob
namespace Go.Proofs.YtkkcjhbkdlenpaaDoor
open Go.RowKit

/-- How a value is shown. -/
def showB (k n : Int) (s : ByteArray) : ByteArray :=
  if rightB k n s then (if k = 1 then ⟨(Lib.itoa n).toArray⟩ else if k = 2 then s else if k = 3 then (if n = 0 then ⟨#[70, 65, 76, 83, 69]⟩ else ⟨#[84, 82, 85, 69]⟩) else if k = 4 then errName n.toNat else ⟨#[]⟩) else ⟨#[]⟩

set_option maxHeartbeats 400000 in
theorem showBool_any (n : Int) (w : World) :
    Calls Tryd.prog 43 #[.int .i64 n] w fun e w' => e = .returned (.string (if n = 0 then ⟨#[70, 65, 76, 83, 69]⟩ else ⟨#[84, 82, 85, 69]⟩)) ∧ w = w' := by
  go_enter Tryd.func43, Tryd.ntmps43
  go_wp2
  all_goals
    go_ret
    refine ⟨ret_str ?_, rfl⟩
    simp_all

set_option maxHeartbeats 400000 in
theorem clone_any (s : ByteArray) (w : World) (hs : s.size ≤ 281474976710656) :
    Calls Tryd.prog 42 #[.string s] w fun e w' => e = .returned (.string s) ∧ Below w.heap.size w w' := by
  go_enter Tryd.func42, Tryd.ntmps42
  go_wp2_with (go_at_call 48; ((with_reducible refine (Tryd.stringslite_Clone _ _ hs).mono ?_); rintro e w1 ⟨rfl, hb⟩))
  go_ret
  exact ⟨rfl, hb⟩

theorem itoa_any (n : Int) (h0 : -9223372036854775808 ≤ n) (h1 : n ≤ 9223372036854775807) (w : World) (hg : Glob w) :
    Calls Tryd.prog 41 #[.int .i64 n] w fun e w' => e = .returned (.string ⟨(Lib.itoa n).toArray⟩) ∧ Below w.heap.size w w' :=
  (Tryd.strconv_Itoa n h0 h1 w hg.pow).mono fun e w' ⟨he, k, os, hw⟩ => ⟨he, by subst hw; exact Lib.below_grow _ _ (Nat.le_refl _) _ _⟩

/-- What a right value may be, case by case. -/
theorem right_cases {k n : Int} {s : ByteArray} (h : rightB k n s = true) :
    (k = 0 ∧ n = 0) ∨ k = 1 ∨ (k = 2 ∧ n = 0 ∧ s.size ≤ 200) ∨ (k = 3 ∧ (n = 0 ∨ n = 1)) ∨ (k = 4 ∧ (n = 1 ∨ n = 2 ∨ n = 3 ∨ n = 4 ∨ n = 5 ∨ n = 6 ∨ n = 7)) := by
  simp only [rightB, Bool.or_eq_true, Bool.and_eq_true, beq_iff_eq, decide_eq_true_eq] at h
  rcases h with (((h | h) | h) | h) | h
  · exact .inl h.1
  · exact .inr (.inl h.1)
  · exact .inr (.inr (.inl ⟨h.1.1, h.1.2, by omega⟩))
  · exact .inr (.inr (.inr (.inl ⟨h.1.1, h.1.2⟩)))
  · exact .inr (.inr (.inr (.inr ⟨h.1.1.1, by omega⟩)))

set_option maxHeartbeats 1000000 in
theorem show_any (k n : Int) (s : ByteArray) (w : World) (hg : Glob w) (h0 : -9223372036854775808 ≤ n) (h1 : n ≤ 9223372036854775807) :
    Calls Tryd.prog 35 #[.agg #[.int .i64 k, .int .i64 n, .string s]] w
      fun e w' => e = .returned (.string (showB k n s)) ∧ Below w.heap.size w w' := by
  cases h : rightB k n s
  · go_enter Tryd.func35, Tryd.ntmps35
    go_wp2_with (go_at_call 16; ((with_reducible refine (right_any k n s _).mono ?_); rintro e w1 ⟨rfl, hb1⟩))
    go_ret
    exact ⟨ret_str (by simp [showB, h]), below_box hb1⟩
  · rcases right_cases h with ⟨rfl, rfl⟩ | rfl | ⟨rfl, rfl, hl⟩ | ⟨rfl, hn⟩ | ⟨rfl, hn⟩
    · go_enter Tryd.func35, Tryd.ntmps35
      go_wp2_with (first | (go_at_call 16; ((with_reducible refine (right_any _ _ s _).mono ?_); rintro e w1 ⟨rfl, hb1⟩; obtain ⟨c0, c1, c2⟩ := vbox hb1; have hg1 := (hg.alloc _).below hb1)))
      go_ret
      exact ⟨ret_str (by simp [showB, h]), below_box hb1⟩
    · go_enter Tryd.func35, Tryd.ntmps35
      go_wp2_with (first | (go_at_call 16; ((with_reducible refine (right_any _ _ s _).mono ?_); rintro e w1 ⟨rfl, hb1⟩; obtain ⟨c0, c1, c2⟩ := vbox hb1; have hg1 := (hg.alloc _).below hb1)) | (go_at_call 41; ((with_reducible refine (itoa_any n h0 h1 _ hg1).mono ?_); rintro e w2 ⟨rfl, hb2⟩)))
      go_ret
      exact ⟨ret_str (by simp [showB, h]), (below_box hb1).trans (hb2.mono (Nat.le_of_lt (lt_new hb1)))⟩
    · go_enter Tryd.func35, Tryd.ntmps35
      go_wp2_with (first | (go_at_call 16; ((with_reducible refine (right_any _ _ s _).mono ?_); rintro e w1 ⟨rfl, hb1⟩; obtain ⟨c0, c1, c2⟩ := vbox hb1; have hg1 := (hg.alloc _).below hb1)) | (go_at_call 42; ((with_reducible refine (clone_any s _ (by omega)).mono ?_); rintro e w2 ⟨rfl, hb2⟩)))
      go_ret
      exact ⟨ret_str (by simp [showB, h]), (below_box hb1).trans (hb2.mono (Nat.le_of_lt (lt_new hb1)))⟩
    · rcases hn with rfl | rfl
      all_goals
        go_enter Tryd.func35, Tryd.ntmps35
        go_wp2_with (first | (go_at_call 16; ((with_reducible refine (right_any _ _ s _).mono ?_); rintro e w1 ⟨rfl, hb1⟩; obtain ⟨c0, c1, c2⟩ := vbox hb1; have hg1 := (hg.alloc _).below hb1)) | (go_at_call 43; ((with_reducible refine (showBool_any _ _).mono ?_); rintro e w2 ⟨rfl, rfl⟩)))
        go_ret
        exact ⟨ret_str (by simp [showB, h]), below_box hb1⟩
    · obtain ⟨m, rfl, hm1, hm7⟩ : ∃ m : Nat, n = m ∧ 1 ≤ m ∧ m ≤ 7 := ⟨n.toNat, by omega, by omega, by omega⟩
      clear hn
      go_enter Tryd.func35, Tryd.ntmps35
      go_wp2_with (first | (go_at_call 16; ((with_reducible refine (right_any _ _ s _).mono ?_); rintro e w1 ⟨rfl, hb1⟩; obtain ⟨c0, c1, c2⟩ := vbox hb1; have hn1 := Glob.at ((hg.alloc _).below hb1) m hm1 hm7)))
      go_ret
      exact ⟨ret_str (by simp [showB, h]), below_box hb1⟩

theorem digit_piece (d : Nat) (h : d < 10) : (ByteArray.mk #[48, 49, 50, 51, 52, 53, 54, 55, 56, 57]).extract d (d + 1) = ⟨#[UInt8.ofNat (48 + d)]⟩ := by
  rcases (show d = 0 ∨ d = 1 ∨ d = 2 ∨ d = 3 ∨ d = 4 ∨ d = 5 ∨ d = 6 ∨ d = 7 ∨ d = 8 ∨ d = 9 from by omega) with rfl | rfl | rfl | rfl | rfl | rfl | rfl | rfl | rfl | rfl <;> rfl

theorem dd_len (f : Nat) : ∀ u, u < 10 ^ (f + 1) → (Lib.decDigits u).length ≤ f + 1 := by
  induction f with
  | zero => intro u h; rw [Lib.decDigits_one (by omega)]; simp
  | succ f ih =>
    intro u h
    rw [Lib.decDigits]
    split
    · simp
    · have := ih (u / 10) (by rw [Nat.pow_succ] at h; omega)
      simp
      omega
theorem dd_len20 (u : Nat) (h : u < 18446744073709551616) : (Lib.decDigits u).length ≤ 20 := dd_len 19 u (by omega)

set_option maxHeartbeats 400000 in
theorem decu_any (f : Nat) : ∀ (u : Nat) (w : World), u < 18446744073709551616 → u < f →
    Calls Tryd.prog 46 #[.int .u64 u] w fun e w' => e = .returned (.string ⟨(Lib.decDigits u).toArray⟩) ∧ w = w' := by
  induction f with
  | zero => intro u w _ h; omega
  | succ f ih =>
    intro u w hu hf
    by_cases h9 : u < 10
    · go_enter Tryd.func46, Tryd.ntmps46
      go_wp2_with fail
      go_ret
      refine ⟨ret_str ?_, rfl⟩
      rw [digit_piece _ (by omega), Lib.decDigits_one h9, Nat.mod_eq_of_lt h9]
    · have hl := dd_len20 (u / 10) (by omega)
      go_enter Tryd.func46, Tryd.ntmps46
      go_wp2_with (go_at_call 46; refine (ih (u / 10) _ (by omega) (by omega)).mono ?_; rintro e w' ⟨rfl, rfl⟩)
      go_ret
      refine ⟨ret_str ?_, rfl⟩
      have e : Lib.decDigits u = Lib.decDigits (u / 10) ++ [UInt8.ofNat (48 + u % 10)] := by rw [Lib.decDigits, dif_neg h9]
      rw [digit_piece _ (by omega), e, ByteArray.mk_append_mk]

theorem decu_int (n : Int) (w : World) (h0 : 0 ≤ n) (h1 : n ≤ 18446744073709551615) :
    Calls Tryd.prog 46 #[.int .u64 n] w fun e w' => e = .returned (.string ⟨(Lib.decDigits n.toNat).toArray⟩) ∧ w = w' := by
  obtain ⟨u, rfl⟩ := Int.eq_ofNat_of_zero_le h0
  exact decu_any (u + 1) u w (by omega) (by omega)

set_option maxHeartbeats 400000 in
theorem dec_any (n : Int) (w : World) (h0 : -9223372036854775808 ≤ n) (h1 : n ≤ 9223372036854775807) :
    Calls Tryd.prog 40 #[.int .i64 n] w fun e w' => e = .returned (.string ⟨(Lib.itoa n).toArray⟩) ∧ w = w' := by
  by_cases hn : n < 0
  · have hl := dd_len20 (-n).toNat (by omega)
    have e1 : (-(n + 1) + 1).toNat = (-n).toNat := by omega
    go_enter Tryd.func40, Tryd.ntmps40
    go_wp2_with (go_at_call 46; ((with_reducible refine (decu_int _ _ (by omega) (by omega)).mono ?_); rintro e w1 ⟨rfl, rfl⟩; rw [e1]))
    go_ret
    refine ⟨ret_str ?_, rfl⟩
    rw [Lib.itoa, if_pos hn, show n.natAbs = (-n).toNat from by omega]
    rw [ByteArray.mk_append_mk]
    rfl
  · go_enter Tryd.func40, Tryd.ntmps40
    go_wp2_with (go_at_call 46; ((with_reducible refine (decu_int _ _ (by omega) (by omega)).mono ?_); rintro e w1 ⟨rfl, rfl⟩))
    go_ret
    refine ⟨ret_str ?_, rfl⟩
    rw [Lib.itoa, if_neg (by omega)]

set_option maxHeartbeats 1000000 in
theorem rshow_any (k n : Int) (s : ByteArray) (w : World) (h0 : -9223372036854775808 ≤ n) (h1 : n ≤ 9223372036854775807) :
    Calls Tryd.prog 26 #[.agg #[.int .i64 k, .int .i64 n, .string s]] w
      fun e w' => e = .returned (.string (showB k n s)) ∧ Below w.heap.size w w' := by
  cases h : rightB k n s
  · go_enter Tryd.func26, Tryd.ntmps26
    go_wp2_with (first | (go_at_call 14; ((with_reducible refine (rrightv_any _ _ s _).mono ?_); rintro e w1 ⟨rfl, hb1⟩; obtain ⟨c0, c1, c2⟩ := vbox hb1; have hlt := lt_new hb1)))
    go_ret
    exact ⟨ret_str (by simp [showB, h]), below_box hb1⟩
  · rcases right_cases h with ⟨rfl, rfl⟩ | rfl | ⟨rfl, rfl, hl⟩ | ⟨rfl, hn⟩ | ⟨rfl, hn⟩
    · go_enter Tryd.func26, Tryd.ntmps26
      go_wp2_with (first | (go_at_call 14; ((with_reducible refine (rrightv_any _ _ s _).mono ?_); rintro e w1 ⟨rfl, hb1⟩; obtain ⟨c0, c1, c2⟩ := vbox hb1; have hlt := lt_new hb1)))
      go_ret
      exact ⟨ret_str (by simp [showB, h]), below_box hb1⟩
    · go_enter Tryd.func26, Tryd.ntmps26
      go_wp2_with (first | (go_at_call 14; ((with_reducible refine (rrightv_any _ _ s _).mono ?_); rintro e w1 ⟨rfl, hb1⟩; obtain ⟨c0, c1, c2⟩ := vbox hb1; have hlt := lt_new hb1)) | (go_at_call 40; ((with_reducible refine (dec_any n _ h0 h1).mono ?_); rintro e w2 ⟨rfl, rfl⟩)))
      go_ret
      exact ⟨ret_str (by simp [showB, h]), below_box hb1⟩
    · go_enter Tryd.func26, Tryd.ntmps26
      go_wp2_with (first | (go_at_call 14; ((with_reducible refine (rrightv_any _ _ s _).mono ?_); rintro e w1 ⟨rfl, hb1⟩; obtain ⟨c0, c1, c2⟩ := vbox hb1; have hlt := lt_new hb1)))
      go_ret
      exact ⟨ret_str (by simp [showB, h]), below_box hb1⟩
    · rcases hn with rfl | rfl
      all_goals
        go_enter Tryd.func26, Tryd.ntmps26
        go_wp2_with (first | (go_at_call 14; ((with_reducible refine (rrightv_any _ _ s _).mono ?_); rintro e w1 ⟨rfl, hb1⟩; obtain ⟨c0, c1, c2⟩ := vbox hb1; have hlt := lt_new hb1)))
        go_ret
        exact ⟨ret_str (by simp [showB, h]), (below_box hb1).alloc (below_box hb1).size _⟩
    · rcases hn with rfl | rfl | rfl | rfl | rfl | rfl | rfl
      all_goals
        go_enter Tryd.func26, Tryd.ntmps26
        go_wp2_with (first | (go_at_call 14; ((with_reducible refine (rrightv_any _ _ s _).mono ?_); rintro e w1 ⟨rfl, hb1⟩; obtain ⟨c0, c1, c2⟩ := vbox hb1; have hlt := lt_new hb1)))
        go_ret
        exact ⟨ret_str (by simp [showB, h, errName]), (below_box hb1).alloc (below_box hb1).size _⟩

end Go.Proofs.YtkkcjhbkdlenpaaDoor
