/- Writing a value: the project. -/
import Derived.Test.YtaojlcgcghdlmaaDoorValC
import Derived.Test.YtaojlcgcghdlmaaDoorOwn
namespace Go.Proofs.YtaojlcgcghdlmaaDoor
open Go.RowKit
theorem info_u8 : (Tryd.prog.info? 5).map (fun i => (i.zero, i.size, i.bytes)) = some (some (.int .u8 0), 1, 1) := by kernel_rfl

/-- The eight bytes of a number, the highest first. -/
def be8 (n : Int) : List UInt8 := (List.range 8).map fun i => UInt8.ofNat ((n % 18446744073709551616).toNat / 2 ^ (56 - 8 * i) % 256)

theorem be8_take (n : Int) (k : Nat) (h : k < 8) : Lib.byteCells ((be8 n).take (k + 1)) = Lib.byteCells ((be8 n).take k) ++ [.int .u8 (IntKind.u64.wrap n / 2 ^ (56 - 8 * k) % 256)] := by
  have hl : (be8 n).length = 8 := by simp [be8]
  rw [List.take_succ_eq_append_getElem (by omega), Lib.byteCells_append]
  congr 1
  simp only [be8, List.getElem_map, List.getElem_range, Lib.byteCells, List.map_cons, List.map_nil, UInt8.toNat_ofNat']
  rw [IntKind.wrap_u64]
  have h0 : 0 ≤ n % 18446744073709551616 := Int.emod_nonneg _ (by omega)
  obtain ⟨x, hx⟩ := Int.eq_ofNat_of_zero_le h0
  rw [hx]
  simp

set_option maxHeartbeats 400000 in
theorem appendInt_any (B : Nat) (v : Value) (m : Nat) (xs : List Value) (n : Int) (W0 w : World) (hown : Own B 5 1 v m xs W0 w) (hm : m ≤ 1000) :
    Calls Tryd.prog 26 #[v, .int .i64 n] w
      fun e w' => ∃ v', e = .returned v' ∧ Own B 5 1 v' (m + 8) (xs ++ Lib.byteCells (be8 n)) W0 w' := by
  obtain ⟨i0, hi0, hz0, hz1, hz2⟩ := info_parts info_u8
  go_enter Tryd.func26, Tryd.ntmps26
  go_wp2
  go_loopw [0, 5] (fun u s wr => ∃ k : Nat, k ≤ 8 ∧ s = .int .i64 (56 - 8 * (k : Int)) ∧ Own B 5 1 u (m + k) (xs ++ Lib.byteCells ((be8 n).take k)) W0 wr) (fun _ s _ => (intOf s + 8).toNat)
  case atStart => exact ⟨0, by omega, rfl, by simpa [Lib.byteCells] using hown⟩
  case round =>
    obtain ⟨k, hk, rfl, ho⟩ := hrel
    by_cases hlt : k < 8
    · go_wp2_with (at_builtin; refine wpList_own_one rfl (.tmp 10) (.tmp 16) 24 rfl i0 (.int .u8 0) 1 Tryd.underlying24 hi0 hz0 hz1 hz2 rfl (by decide) rfl ho #[_] rfl ?c1 rfl rfl ?c2 ?c3 rfl ?_)
      case c1 => rfl
      case c2 => unfold maxLen; omega
      case c3 => omega
      intro v' w' ho'
      go_wp2
      go_roundw
      case rel => exact ⟨k + 1, by omega, by go_num, by rw [be8_take n k hlt]; exact ho'⟩
      case measure => simp [intOf]; omega
    · obtain rfl : k = 8 := by omega
      go_wp2
      go_ret
      exact ⟨_, rfl, by rw [List.take_of_length_le (by simp [be8])] at ho; exact ho⟩


/-- The bytes of a value. -/
def bytesV (k n : Int) (s : ByteArray) : List UInt8 :=
  if rightB k n s then (if k = 1 then 1 :: be8 n else if k = 2 then 2 :: UInt8.ofNat s.size :: s.data.toList else if k = 3 ∨ k = 4 then [UInt8.ofNat k.toNat, UInt8.ofNat n.toNat] else [0]) else []

theorem u8_int (n : Int) (h0 : 0 ≤ n) (h1 : n < 256) : ((UInt8.ofNat n.toNat).toNat : Int) = n := by
  simp [UInt8.toNat_ofNat']
  omega
theorem bytesV_1 {n : Int} {s : ByteArray} (h : rightB 1 n s = true) : 1 + 8 = (bytesV 1 n s).length ∧ [.int .u8 1] ++ Lib.byteCells (be8 n) = Lib.byteCells (bytesV 1 n s) := by
  have e : bytesV 1 n s = [1] ++ be8 n := by simp [bytesV, h]
  rw [e]
  exact ⟨by simp [be8], by rw [Lib.byteCells_append]; rfl⟩
theorem bytesV_2 {s : ByteArray} (h : rightB 2 0 s = true) (hl : s.size ≤ 200) : 1 + 1 + s.size = (bytesV 2 0 s).length ∧ [.int .u8 2] ++ [.int .u8 s.size] ++ Lib.byteCells s.data.toList = Lib.byteCells (bytesV 2 0 s) := by
  have e : bytesV 2 0 s = [2] ++ [UInt8.ofNat s.size] ++ s.data.toList := by simp [bytesV, h]
  have u := u8_int s.size (by omega) (by omega)
  rw [Int.toNat_natCast] at u
  rw [e]
  refine ⟨by rw [List.length_append, List.length_append, Array.length_toList]; rfl, ?_⟩
  rw [Lib.byteCells_append, Lib.byteCells_append]
  simp only [Lib.byteCells, List.map_cons, List.map_nil, u]
  rfl
theorem bytesV_k {k n : Int} {s : ByteArray} (h : rightB k n s = true) (hk : k = 3 ∨ k = 4) : 1 + 1 = (bytesV k n s).length ∧ [.int .u8 k] ++ [.int .u8 n] = Lib.byteCells (bytesV k n s) := by
  have hn : 0 ≤ n ∧ n < 256 := by rcases right_cases h with h | h | h | h | h <;> omega
  have u := u8_int n (by omega) (by omega)
  have u' := u8_int k (by omega) (by omega)
  have e : bytesV k n s = [UInt8.ofNat k.toNat, UInt8.ofNat n.toNat] := by rcases hk with rfl | rfl <;> simp [bytesV, h]
  rw [e]
  simp only [Lib.byteCells, List.map_cons, List.map_nil, u, u']
  exact ⟨rfl, rfl⟩

set_option maxHeartbeats 1000000 in
theorem bytes_any (k n : Int) (s : ByteArray) (w : World) :
    Calls Tryd.prog 15 #[.agg #[.int .i64 k, .int .i64 n, .string s]] w
      fun e w' => ∃ v, e = .returned v ∧ Own w.heap.size 5 1 v (bytesV k n s).length (Lib.byteCells (bytesV k n s)) w w' := by
  obtain ⟨i0, hi0, hz0, hz1, hz2⟩ := info_parts info_u8
  cases h : rightB k n s
  · go_enter Tryd.func15, Tryd.ntmps15
    go_wp2_with (first | (go_at_call 9; ((with_reducible refine (right_any _ _ s _).mono ?_); rintro e w1 ⟨rfl, hb1⟩; obtain ⟨c0, c1, c2⟩ := vbox hb1; have hlt := lt_new hb1; have hbw := box1 hb1)))
    go_ret
    exact ⟨_, rfl, by simp only [bytesV, h]; exact Own.nil (below_box hb1) (below_box hb1).size⟩
  · rcases right_cases h with ⟨rfl, rfl⟩ | rfl | ⟨rfl, rfl, hl⟩ | ⟨rfl, hn⟩ | ⟨rfl, hn⟩
    · go_enter Tryd.func15, Tryd.ntmps15
      go_wp2_with (first | (go_at_call 9; ((with_reducible refine (right_any _ _ s _).mono ?_); rintro e w1 ⟨rfl, hb1⟩; obtain ⟨c0, c1, c2⟩ := vbox hb1; have hlt := lt_new hb1; have hbw := box1 hb1)))
      go_ret
      exact ⟨_, rfl, by simp only [bytesV, h]; exact Own.lit (below_box hb1) (below_box hb1).size #[.int .u8 0] 1 (by unfold maxLen; omega) rfl⟩
    · go_enter Tryd.func15, Tryd.ntmps15
      go_wp2_with (first | (go_at_call 9; ((with_reducible refine (right_any _ _ s _).mono ?_); rintro e w1 ⟨rfl, hb1⟩; obtain ⟨c0, c1, c2⟩ := vbox hb1; have hlt := lt_new hb1; have hbw := box1 hb1)) | (go_at_call 26; ((with_reducible refine (appendInt_any (w.heap.size + 1) _ 1 _ n (w.alloc _) _ (Own.lit hbw (by omega) #[.int .u8 1] 1 (by unfold maxLen; omega) rfl) (by omega)).mono ?_); rintro e w2 ⟨v', rfl, ho'⟩)))
      go_ret
      exact ⟨_, rfl, (ho'.down (Nat.le_succ _) (below_new w _)).eq (bytesV_1 h).1 (bytesV_1 h).2⟩
    · go_enter Tryd.func15, Tryd.ntmps15
      go_wp2_with (first | (go_at_call 9; ((with_reducible refine (right_any _ _ s _).mono ?_); rintro e w1 ⟨rfl, hb1⟩; obtain ⟨c0, c1, c2⟩ := vbox hb1; have hlt := lt_new hb1; have hbw := box1 hb1)) | (at_builtin; refine wpList_own_byte rfl (.tmp 21) (.tmp 26) 24 rfl i0 Tryd.underlying24 hi0 hz0 hz1 hz2 rfl (Own.lit hbw (by omega) #[.int .u8 2] 1 (by unfold maxLen; omega) rfl) _ rfl (by simp) (by omega) rfl ?_; intro v1 w2 ho1; obtain ⟨d0, d1, d2⟩ := vbox1 ho1.below) | (at_builtin; refine wpList_own_str rfl (.tmp 28) (.tmp 30) 24 9 rfl i0 Tryd.underlying24 Tryd.underlying9 hi0 hz0 hz1 hz2 rfl (ho1) s rfl (by omega) ?_; intro v2 w3 ho2))
      go_ret
      exact ⟨_, rfl, (ho2.down (Nat.le_succ _) (below_new w _)).eq (bytesV_2 h hl).1 (bytesV_2 h hl).2⟩
    · go_enter Tryd.func15, Tryd.ntmps15
      go_wp2_with (first | (go_at_call 9; ((with_reducible refine (right_any _ _ s _).mono ?_); rintro e w1 ⟨rfl, hb1⟩; obtain ⟨c0, c1, c2⟩ := vbox hb1; have hlt := lt_new hb1; have hbw := box1 hb1)) | (at_builtin; refine wpList_own_byte rfl (.tmp 35) (.tmp 39) 24 rfl i0 Tryd.underlying24 hi0 hz0 hz1 hz2 rfl (Own.lit hbw (by omega) #[.int .u8 3] 1 (by unfold maxLen; omega) rfl) _ rfl (by simp) (by omega) rfl ?_; intro v1 w2 ho1; obtain ⟨d0, d1, d2⟩ := vbox1 ho1.below))
      go_ret
      exact ⟨_, rfl, (ho1.down (Nat.le_succ _) (below_new w _)).eq (bytesV_k h (.inl rfl)).1 (bytesV_k h (.inl rfl)).2⟩
    · go_enter Tryd.func15, Tryd.ntmps15
      go_wp2_with (first | (go_at_call 9; ((with_reducible refine (right_any _ _ s _).mono ?_); rintro e w1 ⟨rfl, hb1⟩; obtain ⟨c0, c1, c2⟩ := vbox hb1; have hlt := lt_new hb1; have hbw := box1 hb1)) | (at_builtin; refine wpList_own_byte rfl (.tmp 35) (.tmp 39) 24 rfl i0 Tryd.underlying24 hi0 hz0 hz1 hz2 rfl (Own.lit hbw (by omega) #[.int .u8 4] 1 (by unfold maxLen; omega) rfl) _ rfl (by simp) (by omega) rfl ?_; intro v1 w2 ho1; obtain ⟨d0, d1, d2⟩ := vbox1 ho1.below))
      go_ret
      exact ⟨_, rfl, (ho1.down (Nat.le_succ _) (below_new w _)).eq (bytesV_k h (.inr rfl)).1 (bytesV_k h (.inr rfl)).2⟩

end Go.Proofs.YtaojlcgcghdlmaaDoor
