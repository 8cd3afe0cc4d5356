/- Reading a value: the reference. -/
import Derived.Test.YtaojlcgcghdlmaaDoorValG
namespace Go.Proofs.YtaojlcgcghdlmaaDoor
open Go.RowKit

set_option maxHeartbeats 1000000 in
theorem rread_nil (A : Option Addr) (c : Nat) (w : World) :
    Calls Tryd.prog 8 #[.slice A 0 c] w fun e w' => e = readTuple (0, 0, ⟨#[]⟩, 0, 2) ∧ Below w.heap.size w w' := by
  go_enter Tryd.func8, Tryd.ntmps8
  go_wp2
  exact bodyPost_ret (v := .tuple #[.agg #[.int .i64 0, .int .i64 0, .string ⟨#[]⟩], .int .i64 0, .int .i64 2]) (by simp [results, Tryd.results8, go_sem]) rfl ⟨rfl, below_new w _⟩

set_option maxHeartbeats 2000000 in
theorem rread_num (b o c n : Nat) (h2 : 9 ≤ n) (_hn : n ≤ c) (_hm : c ≤ maxLen) (l : List UInt8) (hl : l.length = 8) (w : World) (h0 : w.cell? ⟨b, o, none⟩ = some (.int .u8 1))
    (hc : ∀ i (h : i < l.length), w.cell? ⟨b, o + 1 + i, none⟩ = some (.int .u8 l[i].toNat)) (hb : b < w.heap.size) :
    Calls Tryd.prog 8 #[.slice (some ⟨b, o, none⟩) n c] w fun e w' => e = readTuple (1, wrap64 (beNat l), ⟨#[]⟩, 9, 0) ∧ Below w.heap.size w w' := by
  have HL := Lib.hid hl
  have HC : Hid (∀ W, Below w.heap.size w W → ∀ i (h : i < l.length), W.cell? ⟨b, o + 1 + i, none⟩ = some (.int .u8 l[i].toNat)) := fun W hW i h => by rw [hW.cell (p := ⟨b, o + 1 + i, none⟩) hb]; exact hc i h
  have hr1 : rightB 1 (wrap64 (beNat l)) ⟨#[]⟩ = true := by
    simp [rightB]
  have HR := Lib.hid hr1
  clear hc hl hr1
  go_enter Tryd.func8, Tryd.ntmps8
  go_wp2
  go_loop [7, 8] (fun x i => ∃ k : Nat, 1 ≤ k ∧ k ≤ 9 ∧ i = .int .i64 k ∧ x = .int .u64 (beNat (l.take (k - 1)))) (fun _ i => 9 - (intOf i).toNat)
  case atStart => exact ⟨1, by omega, by omega, rfl, rfl⟩
  case round =>
    obtain ⟨k, hk1, hk9, rfl, rfl⟩ := hrel
    by_cases hlt : k < 9
    · have hkl : k - 1 < l.length := by have := HL.out; omega
      have hck := HC.out _ ((below_new w (.cells #[.int .i64 0, .int .i64 0, .string ⟨#[]⟩] 23)).alloc (by simp) (.cells #[.int .i64 1, .int .i64 0, .string ⟨#[]⟩] 23)) (k - 1) hkl
      rw [show o + 1 + (k - 1) = o + k from by omega] at hck
      have hx := l[k - 1].toNat_lt
      obtain ⟨a, ha⟩ : ∃ a, a = beNat (l.take (k - 1)) := ⟨_, rfl⟩
      obtain ⟨x, hxe⟩ : ∃ x : Nat, x = l[k - 1].toNat := ⟨_, rfl⟩
      rw [← ha]
      rw [← hxe] at hck hx
      have HA := Lib.hid ha
      have HX := Lib.hid hxe
      clear ha hxe
      go_wp2
      go_round
      case rel =>
        have h1 := beNat_take l (k - 1) hkl
        have h2 := beNat_lt (l.take (k - 1))
        have h3 : 256 ^ (l.take (k - 1)).length ≤ 256 ^ 7 := Nat.pow_le_pow_right (by omega) (by rw [List.length_take]; omega)
        rw [← HX.out, ← HA.out] at h1
        rw [← HA.out] at h2
        exact ⟨k + 1, by omega, by omega, by go_num, by rw [shl8 a x (by omega) (by omega), ← h1, show k + 1 - 1 = k - 1 + 1 from by omega]⟩
      case measure => simp [intOf]; omega
    · obtain rfl : k = 9 := by omega
      have e : l.take (9 - 1) = l := List.take_of_length_le (by have := HL.out; omega)
      rw [e]
      clear e
      have hr1 := HR.out
      go_wp2_with (first | (go_at_call 10; ((with_reducible refine (rrightv_any 1 (wrap64 (beNat l)) ⟨#[]⟩ _).mono ?_); rintro e w4 ⟨rfl, hb4⟩; have e0 : w4.cell? ⟨w.heap.size, 0, none⟩ = some (.int .i64 0) := kc hb4 (by go_simp); have e1 : w4.cell? ⟨w.heap.size, 1, none⟩ = some (.int .i64 0) := kc hb4 (by go_simp); have e2 : w4.cell? ⟨w.heap.size, 2, none⟩ = some (.string ⟨#[]⟩) := kc hb4 (by go_simp); have f0 : w4.frozen? ⟨w.heap.size, 0, none⟩ = false := kf hb4 (v := .int .i64 0) (by go_simp) (by go_simp); have f1 : w4.frozen? ⟨w.heap.size, 1, none⟩ = false := kf hb4 (v := .int .i64 0) (by go_simp) (by go_simp); have f2 : w4.frozen? ⟨w.heap.size, 2, none⟩ = false := kf hb4 (v := .string ⟨#[]⟩) (by go_simp) (by go_simp); have d0 : w4.cell? ⟨w.heap.size + 1, 0, none⟩ = some (.int .i64 1) := kc hb4 (by go_simp); have d1 : w4.cell? ⟨w.heap.size + 1, 1, none⟩ = some (.int .i64 (wrap64 (beNat l))) := kc hb4 (by go_simp); have d2 : w4.cell? ⟨w.heap.size + 1, 2, none⟩ = some (.string ⟨#[]⟩) := kc hb4 (by go_simp))))
      have hB4 : Below w.heap.size w w4 := by
        refine Below.trans ?_ (hb4.mono ?_)
        · first | exact (below_new w _).alloc (by simp) _ | exact ((below_new w _).alloc (by simp) _).setCell (by simp) _
        · first | (simp; done) | (simp; omega)
      exact bodyPost_ret (v := .tuple #[.agg #[.int .i64 1, .int .i64 (wrap64 (beNat l)), .string ⟨#[]⟩], .int .i64 9, .int .i64 0]) (by simp [results, Tryd.results8, go_sem, e0, e1, e2]) rfl ⟨rfl, (((hB4.setCell (p := ⟨_, 0, none⟩) (Nat.le_refl _) _).setCell (p := ⟨_, 1, none⟩) (Nat.le_refl _) _).setCell (p := ⟨_, 2, none⟩) (Nat.le_refl _) _)⟩

set_option maxHeartbeats 1000000 in
theorem rread_blank (b o c n : Nat) (h2 : 1 ≤ n) (w : World) (h0 : w.cell? ⟨b, o, none⟩ = some (.int .u8 0)) (hb : b < w.heap.size) :
    Calls Tryd.prog 8 #[.slice (some ⟨b, o, none⟩) n c] w fun e w' => e = readTuple (0, 0, ⟨#[]⟩, 1, 0) ∧ Below w.heap.size w w' := by
  have hr1 : rightB 0 0 ⟨#[]⟩ = true := by simp [rightB]
  go_enter Tryd.func8, Tryd.ntmps8
  go_wp2_with (first | (go_at_call 10; ((with_reducible refine (rrightv_any 0 0 ⟨#[]⟩ _).mono ?_); rintro e w4 ⟨rfl, hb4⟩; have e0 : w4.cell? ⟨w.heap.size, 0, none⟩ = some (.int .i64 0) := kc hb4 (by go_simp); have e1 : w4.cell? ⟨w.heap.size, 1, none⟩ = some (.int .i64 0) := kc hb4 (by go_simp); have e2 : w4.cell? ⟨w.heap.size, 2, none⟩ = some (.string ⟨#[]⟩) := kc hb4 (by go_simp); have f0 : w4.frozen? ⟨w.heap.size, 0, none⟩ = false := kf hb4 (v := .int .i64 0) (by go_simp) (by go_simp); have f1 : w4.frozen? ⟨w.heap.size, 1, none⟩ = false := kf hb4 (v := .int .i64 0) (by go_simp) (by go_simp); have f2 : w4.frozen? ⟨w.heap.size, 2, none⟩ = false := kf hb4 (v := .string ⟨#[]⟩) (by go_simp) (by go_simp); have d0 : w4.cell? ⟨w.heap.size + 1, 0, none⟩ = some (.int .i64 0) := kc hb4 (by go_simp); have d1 : w4.cell? ⟨w.heap.size + 1, 1, none⟩ = some (.int .i64 0) := kc hb4 (by go_simp); have d2 : w4.cell? ⟨w.heap.size + 1, 2, none⟩ = some (.string ⟨#[]⟩) := kc hb4 (by go_simp))))
  have hB4 : Below w.heap.size w w4 := by
    refine Below.trans ?_ (hb4.mono ?_)
    · first | exact (below_new w _).alloc (by simp) _ | exact ((below_new w _).alloc (by simp) _).setCell (by simp) _
    · first | (simp; done) | (simp; omega)
  exact bodyPost_ret (v := .tuple #[.agg #[.int .i64 0, .int .i64 0, .string ⟨#[]⟩], .int .i64 1, .int .i64 0]) (by simp [results, Tryd.results8, go_sem, e0, e1, e2]) rfl ⟨rfl, (((hB4.setCell (p := ⟨_, 0, none⟩) (Nat.le_refl _) _).setCell (p := ⟨_, 1, none⟩) (Nat.le_refl _) _).setCell (p := ⟨_, 2, none⟩) (Nat.le_refl _) _)⟩

set_option maxHeartbeats 1000000 in
theorem rread_pair (b o c n x y : Nat) (h2 : 2 ≤ n) (_hn : n ≤ c) (hx : x = 3 ∨ x = 4) (hy8 : y < 256) (w : World) (h0 : w.cell? ⟨b, o, none⟩ = some (.int .u8 x)) (h1 : w.cell? ⟨b, o + 1, none⟩ = some (.int .u8 y)) (hb : b < w.heap.size) :
    Calls Tryd.prog 8 #[.slice (some ⟨b, o, none⟩) n c] w fun e w' => e = readTuple (if rightB x y ⟨#[]⟩ then (x, y, ⟨#[]⟩, 2, 0) else (0, 0, ⟨#[]⟩, 0, 2)) ∧ Below w.heap.size w w' := by
  have hn0 : ((n : Int) == 0) = false := beq_eq_false_iff_ne.2 (by omega)
  rcases hx with rfl | rfl
  · rw [show ((3 : Nat) : Int) = 3 from rfl] at h0
    cases hr : rightB 3 y ⟨#[]⟩
    · rw [if_neg (by simp)]
      go_enter Tryd.func8, Tryd.ntmps8
      go_wp2_with (first | (go_at_call 10; ((with_reducible refine (rrightv_any 3 y ⟨#[]⟩ _).mono ?_); rintro e w4 ⟨rfl, hb4⟩; have e0 : w4.cell? ⟨w.heap.size, 0, none⟩ = some (.int .i64 0) := kc hb4 (by go_simp); have e1 : w4.cell? ⟨w.heap.size, 1, none⟩ = some (.int .i64 0) := kc hb4 (by go_simp); have e2 : w4.cell? ⟨w.heap.size, 2, none⟩ = some (.string ⟨#[]⟩) := kc hb4 (by go_simp); have f0 : w4.frozen? ⟨w.heap.size, 0, none⟩ = false := kf hb4 (v := .int .i64 0) (by go_simp) (by go_simp); have f1 : w4.frozen? ⟨w.heap.size, 1, none⟩ = false := kf hb4 (v := .int .i64 0) (by go_simp) (by go_simp); have f2 : w4.frozen? ⟨w.heap.size, 2, none⟩ = false := kf hb4 (v := .string ⟨#[]⟩) (by go_simp) (by go_simp); have d0 : w4.cell? ⟨w.heap.size + 1, 0, none⟩ = some (.int .i64 3) := kc hb4 (by go_simp); have d1 : w4.cell? ⟨w.heap.size + 1, 1, none⟩ = some (.int .i64 y) := kc hb4 (by go_simp); have d2 : w4.cell? ⟨w.heap.size + 1, 2, none⟩ = some (.string ⟨#[]⟩) := kc hb4 (by go_simp))))
      have hB4 : Below w.heap.size w w4 := by
        refine Below.trans ?_ (hb4.mono ?_)
        · first | exact (below_new w _).alloc (by simp) _ | exact ((below_new w _).alloc (by simp) _).setCell (by simp) _
        · first | (simp; done) | (simp; omega)
      exact bodyPost_ret (v := .tuple #[.agg #[.int .i64 0, .int .i64 0, .string ⟨#[]⟩], .int .i64 0, .int .i64 2]) (by simp [results, Tryd.results8, go_sem, e0, e1, e2]) rfl ⟨rfl, (((hB4.setCell (p := ⟨_, 0, none⟩) (Nat.le_refl _) _).setCell (p := ⟨_, 1, none⟩) (Nat.le_refl _) _).setCell (p := ⟨_, 2, none⟩) (Nat.le_refl _) _)⟩
    · rw [if_pos rfl]
      go_enter Tryd.func8, Tryd.ntmps8
      go_wp2_with (first | (go_at_call 10; ((with_reducible refine (rrightv_any 3 y ⟨#[]⟩ _).mono ?_); rintro e w4 ⟨rfl, hb4⟩; have e0 : w4.cell? ⟨w.heap.size, 0, none⟩ = some (.int .i64 0) := kc hb4 (by go_simp); have e1 : w4.cell? ⟨w.heap.size, 1, none⟩ = some (.int .i64 0) := kc hb4 (by go_simp); have e2 : w4.cell? ⟨w.heap.size, 2, none⟩ = some (.string ⟨#[]⟩) := kc hb4 (by go_simp); have f0 : w4.frozen? ⟨w.heap.size, 0, none⟩ = false := kf hb4 (v := .int .i64 0) (by go_simp) (by go_simp); have f1 : w4.frozen? ⟨w.heap.size, 1, none⟩ = false := kf hb4 (v := .int .i64 0) (by go_simp) (by go_simp); have f2 : w4.frozen? ⟨w.heap.size, 2, none⟩ = false := kf hb4 (v := .string ⟨#[]⟩) (by go_simp) (by go_simp); have d0 : w4.cell? ⟨w.heap.size + 1, 0, none⟩ = some (.int .i64 3) := kc hb4 (by go_simp); have d1 : w4.cell? ⟨w.heap.size + 1, 1, none⟩ = some (.int .i64 y) := kc hb4 (by go_simp); have d2 : w4.cell? ⟨w.heap.size + 1, 2, none⟩ = some (.string ⟨#[]⟩) := kc hb4 (by go_simp))))
      have hB4 : Below w.heap.size w w4 := by
        refine Below.trans ?_ (hb4.mono ?_)
        · first | exact (below_new w _).alloc (by simp) _ | exact ((below_new w _).alloc (by simp) _).setCell (by simp) _
        · first | (simp; done) | (simp; omega)
      exact bodyPost_ret (v := .tuple #[.agg #[.int .i64 3, .int .i64 y, .string ⟨#[]⟩], .int .i64 2, .int .i64 0]) (by simp [results, Tryd.results8, go_sem, e0, e1, e2]) rfl ⟨rfl, (((hB4.setCell (p := ⟨_, 0, none⟩) (Nat.le_refl _) _).setCell (p := ⟨_, 1, none⟩) (Nat.le_refl _) _).setCell (p := ⟨_, 2, none⟩) (Nat.le_refl _) _)⟩
  · rw [show ((4 : Nat) : Int) = 4 from rfl] at h0
    cases hr : rightB 4 y ⟨#[]⟩
    · rw [if_neg (by simp)]
      go_enter Tryd.func8, Tryd.ntmps8
      go_wp2_with (first | (go_at_call 10; ((with_reducible refine (rrightv_any 4 y ⟨#[]⟩ _).mono ?_); rintro e w4 ⟨rfl, hb4⟩; have e0 : w4.cell? ⟨w.heap.size, 0, none⟩ = some (.int .i64 0) := kc hb4 (by go_simp); have e1 : w4.cell? ⟨w.heap.size, 1, none⟩ = some (.int .i64 0) := kc hb4 (by go_simp); have e2 : w4.cell? ⟨w.heap.size, 2, none⟩ = some (.string ⟨#[]⟩) := kc hb4 (by go_simp); have f0 : w4.frozen? ⟨w.heap.size, 0, none⟩ = false := kf hb4 (v := .int .i64 0) (by go_simp) (by go_simp); have f1 : w4.frozen? ⟨w.heap.size, 1, none⟩ = false := kf hb4 (v := .int .i64 0) (by go_simp) (by go_simp); have f2 : w4.frozen? ⟨w.heap.size, 2, none⟩ = false := kf hb4 (v := .string ⟨#[]⟩) (by go_simp) (by go_simp); have d0 : w4.cell? ⟨w.heap.size + 1, 0, none⟩ = some (.int .i64 4) := kc hb4 (by go_simp); have d1 : w4.cell? ⟨w.heap.size + 1, 1, none⟩ = some (.int .i64 y) := kc hb4 (by go_simp); have d2 : w4.cell? ⟨w.heap.size + 1, 2, none⟩ = some (.string ⟨#[]⟩) := kc hb4 (by go_simp))))
      have hB4 : Below w.heap.size w w4 := by
        refine Below.trans ?_ (hb4.mono ?_)
        · first | exact (below_new w _).alloc (by simp) _ | exact ((below_new w _).alloc (by simp) _).setCell (by simp) _
        · first | (simp; done) | (simp; omega)
      exact bodyPost_ret (v := .tuple #[.agg #[.int .i64 0, .int .i64 0, .string ⟨#[]⟩], .int .i64 0, .int .i64 2]) (by simp [results, Tryd.results8, go_sem, e0, e1, e2]) rfl ⟨rfl, (((hB4.setCell (p := ⟨_, 0, none⟩) (Nat.le_refl _) _).setCell (p := ⟨_, 1, none⟩) (Nat.le_refl _) _).setCell (p := ⟨_, 2, none⟩) (Nat.le_refl _) _)⟩
    · rw [if_pos rfl]
      go_enter Tryd.func8, Tryd.ntmps8
      go_wp2_with (first | (go_at_call 10; ((with_reducible refine (rrightv_any 4 y ⟨#[]⟩ _).mono ?_); rintro e w4 ⟨rfl, hb4⟩; have e0 : w4.cell? ⟨w.heap.size, 0, none⟩ = some (.int .i64 0) := kc hb4 (by go_simp); have e1 : w4.cell? ⟨w.heap.size, 1, none⟩ = some (.int .i64 0) := kc hb4 (by go_simp); have e2 : w4.cell? ⟨w.heap.size, 2, none⟩ = some (.string ⟨#[]⟩) := kc hb4 (by go_simp); have f0 : w4.frozen? ⟨w.heap.size, 0, none⟩ = false := kf hb4 (v := .int .i64 0) (by go_simp) (by go_simp); have f1 : w4.frozen? ⟨w.heap.size, 1, none⟩ = false := kf hb4 (v := .int .i64 0) (by go_simp) (by go_simp); have f2 : w4.frozen? ⟨w.heap.size, 2, none⟩ = false := kf hb4 (v := .string ⟨#[]⟩) (by go_simp) (by go_simp); have d0 : w4.cell? ⟨w.heap.size + 1, 0, none⟩ = some (.int .i64 4) := kc hb4 (by go_simp); have d1 : w4.cell? ⟨w.heap.size + 1, 1, none⟩ = some (.int .i64 y) := kc hb4 (by go_simp); have d2 : w4.cell? ⟨w.heap.size + 1, 2, none⟩ = some (.string ⟨#[]⟩) := kc hb4 (by go_simp))))
      have hB4 : Below w.heap.size w w4 := by
        refine Below.trans ?_ (hb4.mono ?_)
        · first | exact (below_new w _).alloc (by simp) _ | exact ((below_new w _).alloc (by simp) _).setCell (by simp) _
        · first | (simp; done) | (simp; omega)
      exact bodyPost_ret (v := .tuple #[.agg #[.int .i64 4, .int .i64 y, .string ⟨#[]⟩], .int .i64 2, .int .i64 0]) (by simp [results, Tryd.results8, go_sem, e0, e1, e2]) rfl ⟨rfl, (((hB4.setCell (p := ⟨_, 0, none⟩) (Nat.le_refl _) _).setCell (p := ⟨_, 1, none⟩) (Nat.le_refl _) _).setCell (p := ⟨_, 2, none⟩) (Nat.le_refl _) _)⟩

end Go.Proofs.YtaojlcgcghdlmaaDoor
