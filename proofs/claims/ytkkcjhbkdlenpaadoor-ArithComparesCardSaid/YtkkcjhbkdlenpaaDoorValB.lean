/- Comparing two values: the project and the reference. -/
import Derived.Test.YtkkcjhbkdlenpaaDoorVal
namespace Go.Proofs.YtkkcjhbkdlenpaaDoor
open Go.RowKit

theorem or3_new (x y z : Int) (w : World) :
    Calls Tryd.prog 36 #[.slice (some ⟨w.heap.size, 0, none⟩) 3 3] (w.alloc (.cells #[.int .i64 x, .int .i64 y, .int .i64 z] 3)).drew
      fun e w' => e = .returned (.int .i64 (or3 x y z)) ∧ (w.alloc (.cells #[.int .i64 x, .int .i64 y, .int .i64 z] 3)).drew = w' :=
  or3_any w.heap.size 0 x y z _ (by go_simp) (by go_simp) (by go_simp)

set_option maxHeartbeats 1000000 in
theorem compare_any (k n : Int) (s : ByteArray) (k' n' : Int) (s' : ByteArray) (w : World) :
    Calls Tryd.prog 22 #[.agg #[.int .i64 k, .int .i64 n, .string s], .agg #[.int .i64 k', .int .i64 n', .string s']] w
      fun e w' => e = .returned (.int .i64 (cmpV k n s k' n' s')) ∧ Below w.heap.size w w' := by
  cases h : rightB k n s
  · go_enter Tryd.func22, Tryd.ntmps22
    go_wp2_with (go_at_call 16; refine (right_any _ _ _ _).mono ?_; rintro e w1 ⟨rfl, hb⟩; obtain ⟨hc, hf⟩ := olds hb; rw [h])
    go_ret
    exact ⟨ret_int (by simp [cmpV, h]), ((below_new w _).trans ((below_new _ _).mono (by simp))).trans (hb.mono (by simp; omega))⟩
  · cases h' : rightB k' n' s'
    · go_enter Tryd.func22, Tryd.ntmps22
      go_wp2_with (first | (go_at_call 16; ((with_reducible refine (right_any k n s _).mono ?_); rintro e w1 ⟨rfl, hb1⟩; obtain ⟨hc1, hf1⟩ := olds hb1; have hz1 := hb1.size; try simp only [World.size_alloc] at hz1; have hl1 : w.heap.size < w1.heap.size := (by omega); have hl2 : w.heap.size + 1 < w1.heap.size := (by omega))) | (go_at_call 16; ((with_reducible refine (right_any k' n' s' _).mono ?_); rintro e w2 ⟨rfl, hb2⟩; obtain ⟨hc2, hf2⟩ := olds hb2; have hz2 := hb2.size)))
      go_ret
      exact ⟨ret_int (by simp [cmpV, h, h']), ((((below_new w _).trans ((below_new _ _).mono (by simp))).trans (hb1.mono (by simp; omega)))).trans (hb2.mono (by omega))⟩
    · go_enter Tryd.func22, Tryd.ntmps22
      go_wp2_with (first | (go_at_call 16; ((with_reducible refine (right_any k n s _).mono ?_); rintro e w1 ⟨rfl, hb1⟩; obtain ⟨hc1, hf1⟩ := olds hb1; have hz1 := hb1.size; try simp only [World.size_alloc] at hz1; have hl1 : w.heap.size < w1.heap.size := (by omega); have hl2 : w.heap.size + 1 < w1.heap.size := (by omega))) | (go_at_call 16; ((with_reducible refine (right_any k' n' s' _).mono ?_); rintro e w2 ⟨rfl, hb2⟩; obtain ⟨hc2, hf2⟩ := olds hb2; have hz2 := hb2.size)))
      have c0 : w2.cell? ⟨w.heap.size, 0, none⟩ = some (.int .i64 k) := by rw [hc2 _ _ (by omega), hc1 _ _ (by simp; omega)]; go_simp
      have c1 : w2.cell? ⟨w.heap.size, 1, none⟩ = some (.int .i64 n) := by rw [hc2 _ _ (by omega), hc1 _ _ (by simp; omega)]; go_simp
      have c2 : w2.cell? ⟨w.heap.size, 2, none⟩ = some (.string s) := by rw [hc2 _ _ (by omega), hc1 _ _ (by simp; omega)]; go_simp
      have d0 : w2.cell? ⟨w.heap.size + 1, 0, none⟩ = some (.int .i64 k') := by rw [hc2 _ _ (by omega), hc1 _ _ (by simp)]; go_simp
      have d1 : w2.cell? ⟨w.heap.size + 1, 1, none⟩ = some (.int .i64 n') := by rw [hc2 _ _ (by omega), hc1 _ _ (by simp)]; go_simp
      have d2 : w2.cell? ⟨w.heap.size + 1, 2, none⟩ = some (.string s') := by rw [hc2 _ _ (by omega), hc1 _ _ (by simp)]; go_simp
      have hbw : Below w.heap.size w w2 := ((((below_new w _).trans ((below_new _ _).mono (by simp))).trans (hb1.mono (by simp; omega)))).trans (hb2.mono (by omega))
      clear hc1 hf1 hc2 hf2 hb1 hb2 hz1 hz2 hl1 hl2
      go_region_held3 (fun W => W.cell? ⟨w.heap.size, 0, none⟩ = some (.int .i64 k) ∧ W.cell? ⟨w.heap.size, 1, none⟩ = some (.int .i64 n) ∧ W.cell? ⟨w.heap.size, 2, none⟩ = some (.string s) ∧ W.cell? ⟨w.heap.size + 1, 0, none⟩ = some (.int .i64 k') ∧ W.cell? ⟨w.heap.size + 1, 1, none⟩ = some (.int .i64 n') ∧ W.cell? ⟨w.heap.size + 1, 2, none⟩ = some (.string s') ∧ Below w.heap.size w W)
        (first | exact ⟨c0, c1, c2, d0, d1, d2, hbw.drew⟩ | (go_split_ands; refine ⟨?_, ?_, ?_, ?_, ?_, ?_, ?_⟩ <;> first | assumption | exact (hbw.alloc hbw.size _).drew | (go_keep)))
        (first | (go_at_call 37; (with_reducible refine (cmpInt_any _ _ _).mono ?_); rintro e w' ⟨rfl, rfl⟩) | (go_at_call 38; (with_reducible refine (cmpStr_any _ _ _).mono ?_); rintro e w' ⟨rfl, rfl⟩) | (go_at_call 36; (with_reducible refine (or3_new _ _ _ _).mono ?_); rintro e w' ⟨rfl, rfl⟩))
      go_wp2
      go_ret
      exact ⟨ret_int (by simp only [cmpV, h, h', or3, Bool.and_self, if_true]), (hbw.alloc hbw.size _).drew⟩

set_option maxHeartbeats 1000000 in
theorem rcompare_any (k n : Int) (s : ByteArray) (k' n' : Int) (s' : ByteArray) (w : World) :
    Calls Tryd.prog 23 #[.agg #[.int .i64 k, .int .i64 n, .string s], .agg #[.int .i64 k', .int .i64 n', .string s']] w
      fun e w' => e = .returned (.int .i64 (cmpV k n s k' n' s')) ∧ Below w.heap.size w w' := by
  cases h : rightB k n s
  · go_enter Tryd.func23, Tryd.ntmps23
    go_wp2_with (go_at_call 14; refine (rrightv_any _ _ _ _).mono ?_; rintro e w1 ⟨rfl, hb⟩; obtain ⟨hc, hf⟩ := olds hb; rw [h])
    go_ret
    exact ⟨ret_int (by simp [cmpV, h]), ((below_new w _).trans ((below_new _ _).mono (by simp))).trans (hb.mono (by simp; omega))⟩
  · cases h' : rightB k' n' s'
    · go_enter Tryd.func23, Tryd.ntmps23
      go_wp2_with (first | (go_at_call 14; ((with_reducible refine (rrightv_any k n s _).mono ?_); rintro e w1 ⟨rfl, hb1⟩; obtain ⟨hc1, hf1⟩ := olds hb1; have hz1 := hb1.size; try simp only [World.size_alloc] at hz1; have hl1 : w.heap.size < w1.heap.size := (by omega); have hl2 : w.heap.size + 1 < w1.heap.size := (by omega))) | (go_at_call 14; ((with_reducible refine (rrightv_any k' n' s' _).mono ?_); rintro e w2 ⟨rfl, hb2⟩; obtain ⟨hc2, hf2⟩ := olds hb2; have hz2 := hb2.size)))
      go_ret
      exact ⟨ret_int (by simp [cmpV, h, h']), ((((below_new w _).trans ((below_new _ _).mono (by simp))).trans (hb1.mono (by simp; omega)))).trans (hb2.mono (by omega))⟩
    · go_enter Tryd.func23, Tryd.ntmps23
      go_wp2_with (first | (go_at_call 14; ((with_reducible refine (rrightv_any k n s _).mono ?_); rintro e w1 ⟨rfl, hb1⟩; obtain ⟨hc1, hf1⟩ := olds hb1; have hz1 := hb1.size; try simp only [World.size_alloc] at hz1; have hl1 : w.heap.size < w1.heap.size := (by omega); have hl2 : w.heap.size + 1 < w1.heap.size := (by omega))) | (go_at_call 14; ((with_reducible refine (rrightv_any k' n' s' _).mono ?_); rintro e w2 ⟨rfl, hb2⟩; obtain ⟨hc2, hf2⟩ := olds hb2; have hz2 := hb2.size)))
      all_goals
        go_ret
        refine ⟨ret_int ?_, ((((below_new w _).trans ((below_new _ _).mono (by simp))).trans (hb1.mono (by simp; omega)))).trans (hb2.mono (by omega))⟩
        simp only [cmpV, h, h', Bool.and_self, if_true]
        rw [cmpV_tests]
        simp_all

end Go.Proofs.YtkkcjhbkdlenpaaDoor
