/- Writing a value: the reference. -/
import Derived.Test.YtaojlcgcghdlmaaDoorValD
import Derived.Laws.BitsAllLaws
namespace Go.Proofs.YtaojlcgcghdlmaaDoor
open Go.RowKit

theorem and255 (n : Int) (j : Nat) (h : j < 8) : bits .and .u64 (IntKind.u64.wrap n / 2 ^ (8 * (7 - j))) 255 % 256 = IntKind.u64.wrap n / 2 ^ (56 - 8 * j) % 256 := by
  rw [IntKind.wrap_u64, show 8 * (7 - j) = 56 - 8 * j from by omega]
  obtain ⟨x, hx⟩ := Int.eq_ofNat_of_zero_le (Int.emod_nonneg n (show (18446744073709551616 : Int) ≠ 0 by omega))
  have hlt : n % 18446744073709551616 < 18446744073709551616 := Int.emod_lt_of_pos _ (by omega)
  rw [hx] at hlt ⊢
  have e : ((x : Int) / 2 ^ (56 - 8 * j)) = ((x / 2 ^ (56 - 8 * j) : Nat) : Int) := by simp
  have hd : x / 2 ^ (56 - 8 * j) ≤ x := Nat.div_le_self _ _
  rw [e, show (255 : Int) = ((255 : Nat) : Int) from rfl, u64_and_nat _ _ (by omega) (by omega)]
  have := Nat.and_two_pow_sub_one_eq_mod (x / 2 ^ (56 - 8 * j)) 8
  simp only [Nat.reducePow, Nat.reduceSub] at this
  rw [this]
  simp

set_option maxHeartbeats 1000000 in
theorem rbytes_any (k n : Int) (s : ByteArray) (w : World) :
    Calls Tryd.prog 16 #[.agg #[.int .i64 k, .int .i64 n, .string s]] w
      fun e w' => ∃ v, e = .returned v ∧ Own w.heap.size 5 1 v (bytesV k n s).length (Lib.byteCells (bytesV k n s)) w w' := by
  obtain ⟨i0, hi0, hz0, hz1, hz2⟩ := info_parts info_u8
  cases h : rightB k n s
  · go_enter Tryd.func16, Tryd.ntmps16
    go_wp2_with (first | (go_at_call 10; ((with_reducible refine (rrightv_any _ _ s _).mono ?_); rintro e w1 ⟨rfl, hb1⟩; obtain ⟨c0, c1, c2⟩ := vbox hb1; have hlt := lt_new hb1; have hbw := box1 hb1)))
    go_ret
    exact ⟨_, rfl, by simp only [bytesV, h]; exact Own.nil (below_box hb1) (below_box hb1).size⟩
  · rcases right_cases h with ⟨rfl, rfl⟩ | rfl | ⟨rfl, rfl, hl⟩ | ⟨rfl, hn⟩ | ⟨rfl, hn⟩
    · go_enter Tryd.func16, Tryd.ntmps16
      go_wp2_with (first | (go_at_call 10; ((with_reducible refine (rrightv_any _ _ s _).mono ?_); rintro e w1 ⟨rfl, hb1⟩; obtain ⟨c0, c1, c2⟩ := vbox hb1; have hlt := lt_new hb1; have hbw := box1 hb1)))
      go_ret
      exact ⟨_, rfl, by simp only [bytesV, h]; exact Own.lit (below_box hb1) (below_box hb1).size #[.int .u8 0] 1 (by unfold maxLen; omega) rfl⟩
    · go_enter Tryd.func16, Tryd.ntmps16
      go_wp2_with (first | (go_at_call 10; ((with_reducible refine (rrightv_any _ _ s _).mono ?_); rintro e w1 ⟨rfl, hb1⟩; obtain ⟨c0, c1, c2⟩ := vbox hb1; have hlt := lt_new hb1; have hbw := box1 hb1)))
      go_loopw [3, 5] (fun u i wr => ∃ j : Nat, j ≤ 8 ∧ i = .int .i64 (7 - (j : Int)) ∧ Own (w.heap.size + 1) 5 1 u (1 + j) ([.int .u8 1] ++ Lib.byteCells ((be8 n).take j)) (w.alloc (.cells #[.int .i64 1, .int .i64 n, .string s] 23)) wr) (fun _ s _ => (intOf s + 1).toNat)
      case atStart => exact ⟨0, by omega, rfl, Own.lit hbw (by omega) #[.int .u8 1] 1 (by unfold maxLen; omega) rfl⟩
      case round =>
        obtain ⟨j, hj, rfl, ho⟩ := hrel
        by_cases hlt8 : j < 8
        · go_wp2_with (first | (at_builtin; refine wpList_own_byte rfl (.tmp 24) (.tmp 32) 24 rfl i0 Tryd.underlying24 hi0 hz0 hz1 hz2 rfl ho _ rfl rfl (by omega) rfl ?_; intro v1 w2 ho1))
          go_roundw
          case rel => exact ⟨j + 1, by omega, by go_num, by rw [be8_take n j hlt8, ← and255 n j hlt8]; exact ho1⟩
          case measure => simp [intOf]; omega
        · obtain rfl : j = 8 := by omega
          go_wp2
          go_ret
          exact ⟨_, rfl, by rw [List.take_of_length_le (by simp [be8])] at ho; exact (ho.down (Nat.le_succ _) (below_new w _)).eq (bytesV_1 h).1 (bytesV_1 h).2⟩
    · go_enter Tryd.func16, Tryd.ntmps16
      go_wp2_with (first | (go_at_call 10; ((with_reducible refine (rrightv_any _ _ s _).mono ?_); rintro e w1 ⟨rfl, hb1⟩; obtain ⟨c0, c1, c2⟩ := vbox hb1; have hlt := lt_new hb1; have hbw := box1 hb1)))
      have hown0 := Own.lit (e := 5) (sz := 1) hbw (by omega) #[.int .u8 2] 1 (by unfold maxLen; omega) rfl
      have hl2 : 1 + 1 ≤ 140737488355328 := by omega
      have hl3 : 1 + 1 + s.size ≤ 140737488355328 := by omega
      have hbx := hbw.alloc (by omega) (.cells #[.int .u8 2] 5)
      have hbz := hbx.size
      simp only [World.size_alloc] at hbz
      have hw8 : IntKind.u8.wrap (s.size : Int) = (s.size : Int) := by rw [IntKind.wrap_u8]; omega
      go_region_held3 (fun W => W.cell? ⟨w.heap.size, 2, none⟩ = some (.string s) ∧ Below (w.heap.size + 1) (w.alloc (.cells #[.int .i64 2, .int .i64 0, .string s] 23)) W)
        (first | exact ⟨by go_simp, hbx.drew⟩ | exact ⟨d2, ho1.below⟩ | exact ⟨e2, ho2.below⟩ | (go_split_ands; refine ⟨?_, ?_⟩ <;> first | assumption | exact (hbx.alloc (by simp; omega) _).drew | (go_keep)))
        (first | (refine step_own_byte rfl (.tmp 36) (.tmp 41) 24 rfl i0 Tryd.underlying24 hi0 hz0 hz1 hz2 rfl hown0.drew (s.size : Int) rfl (size_ad _ _) hl2 rfl ?_; intro v1 w2 ho1; obtain ⟨d0, d1, d2⟩ := vbox1 ho1.below) | (refine step_own_str rfl (.tmp 42) (.tmp 44) 24 9 rfl i0 Tryd.underlying24 Tryd.underlying9 hi0 hz0 hz1 hz2 rfl ho1 s rfl hl3 ?_; intro v2 w3 ho2; obtain ⟨e0, e1, e2⟩ := vbox1 ho2.below))
      go_wp2
      go_ret
      exact ⟨_, rfl, (ho2.down (Nat.le_succ _) (below_new w _)).eq (bytesV_2 h hl).1 (bytesV_2 h hl).2⟩
    · go_enter Tryd.func16, Tryd.ntmps16
      go_wp2_with (first | (go_at_call 10; ((with_reducible refine (rrightv_any _ _ s _).mono ?_); rintro e w1 ⟨rfl, hb1⟩; obtain ⟨c0, c1, c2⟩ := vbox hb1; have hlt := lt_new hb1; have hbw := box1 hb1)) | (at_builtin; refine wpList_own_byte rfl (.tmp 49) (.tmp 53) 24 rfl i0 Tryd.underlying24 hi0 hz0 hz1 hz2 rfl (Own.lit hbw (by omega) #[.int .u8 3] 1 (by unfold maxLen; omega) rfl) _ rfl (by simp) (by omega) rfl ?_; intro v1 w2 ho1; obtain ⟨d0, d1, d2⟩ := vbox1 ho1.below))
      go_ret
      exact ⟨_, rfl, (ho1.down (Nat.le_succ _) (below_new w _)).eq (bytesV_k h (.inl rfl)).1 (bytesV_k h (.inl rfl)).2⟩
    · go_enter Tryd.func16, Tryd.ntmps16
      go_wp2_with (first | (go_at_call 10; ((with_reducible refine (rrightv_any _ _ s _).mono ?_); rintro e w1 ⟨rfl, hb1⟩; obtain ⟨c0, c1, c2⟩ := vbox hb1; have hlt := lt_new hb1; have hbw := box1 hb1)) | (at_builtin; refine wpList_own_byte rfl (.tmp 49) (.tmp 53) 24 rfl i0 Tryd.underlying24 hi0 hz0 hz1 hz2 rfl (Own.lit hbw (by omega) #[.int .u8 4] 1 (by unfold maxLen; omega) rfl) _ rfl (by simp) (by omega) rfl ?_; intro v1 w2 ho1; obtain ⟨d0, d1, d2⟩ := vbox1 ho1.below))
      go_ret
      exact ⟨_, rfl, (ho1.down (Nat.le_succ _) (below_new w _)).eq (bytesV_k h (.inr rfl)).1 (bytesV_k h (.inr rfl)).2⟩

end Go.Proofs.YtaojlcgcghdlmaaDoor
