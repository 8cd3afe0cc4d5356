/- The law ValueOrder: values stand in one order. -/
import Derived.Test.YtaojlcgcghdlmaaDoorLawA
namespace Go.Proofs.YtaojlcgcghdlmaaDoor
open Go.RowKit

/-- Three boxes lie in a world and are not marked. -/
structure Box3 (w : World) (k1 n1 : Int) (s1 : ByteArray) (k2 n2 : Int) (s2 : ByteArray) (k3 n3 : Int) (s3 : ByteArray) (W : World) : Prop where
  below : Below w.heap.size w W
  lt : w.heap.size + 2 < W.heap.size
  a0 : W.cell? ⟨w.heap.size, 0, none⟩ = some (.int .i64 k1)
  a1 : W.cell? ⟨w.heap.size, 1, none⟩ = some (.int .i64 n1)
  a2 : W.cell? ⟨w.heap.size, 2, none⟩ = some (.string s1)
  b0 : W.cell? ⟨w.heap.size + 1, 0, none⟩ = some (.int .i64 k2)
  b1 : W.cell? ⟨w.heap.size + 1, 1, none⟩ = some (.int .i64 n2)
  b2 : W.cell? ⟨w.heap.size + 1, 2, none⟩ = some (.string s2)
  c0 : W.cell? ⟨w.heap.size + 2, 0, none⟩ = some (.int .i64 k3)
  c1 : W.cell? ⟨w.heap.size + 2, 1, none⟩ = some (.int .i64 n3)
  c2 : W.cell? ⟨w.heap.size + 2, 2, none⟩ = some (.string s3)
theorem Box3.on {w : World} {k1 n1 : Int} {s1 : ByteArray} {k2 n2 : Int} {s2 : ByteArray} {k3 n3 : Int} {s3 : ByteArray} {W W' : World} (h : Box3 w k1 n1 s1 k2 n2 s2 k3 n3 s3 W) (hb : Below W.heap.size W W') : Box3 w k1 n1 s1 k2 n2 s2 k3 n3 s3 W' :=
  ⟨h.below.trans (hb.mono h.below.size), Nat.lt_of_lt_of_le h.lt hb.size, kc hb h.a0, kc hb h.a1, kc hb h.a2, kc hb h.b0, kc hb h.b1, kc hb h.b2, kc hb h.c0, kc hb h.c1, kc hb h.c2⟩

theorem Box3.cells {w : World} {k1 n1 : Int} {s1 : ByteArray} {k2 n2 : Int} {s2 : ByteArray} {k3 n3 : Int} {s3 : ByteArray} {W : World} (h : Box3 w k1 n1 s1 k2 n2 s2 k3 n3 s3 W) :
    W.cell? ⟨w.heap.size, 0, none⟩ = some (.int .i64 k1) ∧ W.cell? ⟨w.heap.size, 1, none⟩ = some (.int .i64 n1) ∧ W.cell? ⟨w.heap.size, 2, none⟩ = some (.string s1) ∧
    W.cell? ⟨w.heap.size + 1, 0, none⟩ = some (.int .i64 k2) ∧ W.cell? ⟨w.heap.size + 1, 1, none⟩ = some (.int .i64 n2) ∧ W.cell? ⟨w.heap.size + 1, 2, none⟩ = some (.string s2) ∧
    W.cell? ⟨w.heap.size + 2, 0, none⟩ = some (.int .i64 k3) ∧ W.cell? ⟨w.heap.size + 2, 1, none⟩ = some (.int .i64 n3) ∧ W.cell? ⟨w.heap.size + 2, 2, none⟩ = some (.string s3) :=
  ⟨h.a0, h.a1, h.a2, h.b0, h.b1, h.b2, h.c0, h.c1, h.c2⟩

theorem box3_new (w : World) (k1 n1 : Int) (s1 : ByteArray) (k2 n2 : Int) (s2 : ByteArray) (k3 n3 : Int) (s3 : ByteArray) :
    Box3 w k1 n1 s1 k2 n2 s2 k3 n3 s3 (((w.alloc (.cells #[.int .i64 k1, .int .i64 n1, .string s1] 23)).alloc (.cells #[.int .i64 k2, .int .i64 n2, .string s2] 23)).alloc (.cells #[.int .i64 k3, .int .i64 n3, .string s3] 23)) :=
  ⟨((below_new w _).alloc (by simp) _).alloc (by simp; omega) _, by simp, by go_simp, by go_simp, by go_simp, by go_simp, by go_simp, by go_simp, by go_simp, by go_simp, by go_simp⟩

set_option maxHeartbeats 2000000 in
theorem valueOrder_any (k1 n1 : Int) (s1 : ByteArray) (k2 n2 : Int) (s2 : ByteArray) (k3 n3 : Int) (s3 : ByteArray) (w : World) (hg : Glob w) :
    Calls Tryd.prog 5 #[.agg #[.int .i64 k1, .int .i64 n1, .string s1], .agg #[.int .i64 k2, .int .i64 n2, .string s2], .agg #[.int .i64 k3, .int .i64 n3, .string s3]] w fun e w' => e = .returned (.bool true) ∧ Below w.heap.size w w' := by
  have HG := Lib.hid hg
  have hbx := box3_new w k1 n1 s1 k2 n2 s2 k3 n3 s3
  have hgx : Glob (((w.alloc (.cells #[.int .i64 k1, .int .i64 n1, .string s1] 23)).alloc (.cells #[.int .i64 k2, .int .i64 n2, .string s2] 23)).alloc (.cells #[.int .i64 k3, .int .i64 n3, .string s3] 23)) := ((hg.alloc _).alloc _).alloc _
  clear hg
  cases r1 : rightB k1 n1 s1
  · go_enter Tryd.func5, Tryd.ntmps5
    go_wp2_with (first | (go_at_call 6; ((with_reducible refine (alive_any _ hgx).mono ?_); rintro e w1 ⟨rfl, hb1⟩; have bx1 := hbx.on hb1; obtain ⟨a0, a1, a2, b0, b1, b2, c0, c1, c2⟩ := bx1.cells)) | (go_at_call 10; ((with_reducible refine (rrightv_any k1 n1 s1 _).mono ?_); rintro e w2 ⟨rfl, hb2⟩; have bx2 := Box3.on bx1 hb2; obtain ⟨a0, a1, a2, b0, b1, b2, c0, c1, c2⟩ := bx2.cells)))
    go_ret
    exact ⟨rfl, bx2.below⟩
  cases r2 : rightB k2 n2 s2
  · go_enter Tryd.func5, Tryd.ntmps5
    go_wp2_with (first | (go_at_call 6; ((with_reducible refine (alive_any _ hgx).mono ?_); rintro e w1 ⟨rfl, hb1⟩; have bx1 := hbx.on hb1; obtain ⟨a0, a1, a2, b0, b1, b2, c0, c1, c2⟩ := bx1.cells)) | (go_at_call 10; ((with_reducible refine (rrightv_any k1 n1 s1 _).mono ?_); rintro e w2 ⟨rfl, hb2⟩; have bx2 := Box3.on bx1 hb2; obtain ⟨a0, a1, a2, b0, b1, b2, c0, c1, c2⟩ := bx2.cells)) | (go_at_call 10; ((with_reducible refine (rrightv_any k2 n2 s2 _).mono ?_); rintro e w3 ⟨rfl, hb3⟩; have bx3 := Box3.on bx2 hb3; obtain ⟨a0, a1, a2, b0, b1, b2, c0, c1, c2⟩ := bx3.cells)))
    go_ret
    exact ⟨rfl, bx3.below⟩
  cases r3 : rightB k3 n3 s3
  · go_enter Tryd.func5, Tryd.ntmps5
    go_wp2_with (first | (go_at_call 6; ((with_reducible refine (alive_any _ hgx).mono ?_); rintro e w1 ⟨rfl, hb1⟩; have bx1 := hbx.on hb1; obtain ⟨a0, a1, a2, b0, b1, b2, c0, c1, c2⟩ := bx1.cells)) | (go_at_call 10; ((with_reducible refine (rrightv_any k1 n1 s1 _).mono ?_); rintro e w2 ⟨rfl, hb2⟩; have bx2 := Box3.on bx1 hb2; obtain ⟨a0, a1, a2, b0, b1, b2, c0, c1, c2⟩ := bx2.cells)) | (go_at_call 10; ((with_reducible refine (rrightv_any k2 n2 s2 _).mono ?_); rintro e w3 ⟨rfl, hb3⟩; have bx3 := Box3.on bx2 hb3; obtain ⟨a0, a1, a2, b0, b1, b2, c0, c1, c2⟩ := bx3.cells)) | (go_at_call 10; ((with_reducible refine (rrightv_any k3 n3 s3 _).mono ?_); rintro e w4 ⟨rfl, hb4⟩; have bx4 := Box3.on bx3 hb4; obtain ⟨a0, a1, a2, b0, b1, b2, c0, c1, c2⟩ := bx4.cells)))
    go_ret
    exact ⟨rfl, bx4.below⟩
  have sw : cmpV k2 n2 s2 k1 n1 s1 = - cmpV k1 n1 s1 k2 n2 s2 := cmpV_swap _ _ _ _ _ _
  have e11 : cmpV k1 n1 s1 k1 n1 s1 = 0 := (cmpV_eq r1 r1).2 ⟨rfl, rfl, rfl⟩
  have e12 := cmpV_eq r1 r2
  have bd := cmpV_bd k1 n1 s1 k2 n2 s2
  have tr := @cmpV_trans k1 n1 s1 k2 n2 s2 k3 n3 s3 r1 r2 r3
  obtain ⟨X, hX⟩ : ∃ X, X = cmpV k1 n1 s1 k2 n2 s2 := ⟨_, rfl⟩
  obtain ⟨Z, hZ⟩ : ∃ Z, Z = cmpV k2 n2 s2 k3 n3 s3 := ⟨_, rfl⟩
  obtain ⟨U, hU⟩ : ∃ U, U = cmpV k1 n1 s1 k3 n3 s3 := ⟨_, rfl⟩
  rw [← hX] at sw bd e12 tr
  rw [← hZ, ← hU] at tr
  have c12 : ∀ W, Calls Tryd.prog 11 #[.agg #[.int .i64 k1, .int .i64 n1, .string s1], .agg #[.int .i64 k2, .int .i64 n2, .string s2]] W fun e w' => e = .returned (.int .i64 X) ∧ Below W.heap.size W w' := fun W => by rw [hX]; exact compare_any _ _ _ _ _ _ W
  have c21 : ∀ W, Calls Tryd.prog 11 #[.agg #[.int .i64 k2, .int .i64 n2, .string s2], .agg #[.int .i64 k1, .int .i64 n1, .string s1]] W fun e w' => e = .returned (.int .i64 (-X)) ∧ Below W.heap.size W w' := fun W => by rw [← sw]; exact compare_any _ _ _ _ _ _ W
  have c11 : ∀ W, Calls Tryd.prog 11 #[.agg #[.int .i64 k1, .int .i64 n1, .string s1], .agg #[.int .i64 k1, .int .i64 n1, .string s1]] W fun e w' => e = .returned (.int .i64 0) ∧ Below W.heap.size W w' := fun W => by rw [← e11]; exact compare_any _ _ _ _ _ _ W
  have c23 : ∀ W, Calls Tryd.prog 11 #[.agg #[.int .i64 k2, .int .i64 n2, .string s2], .agg #[.int .i64 k3, .int .i64 n3, .string s3]] W fun e w' => e = .returned (.int .i64 Z) ∧ Below W.heap.size W w' := fun W => by rw [hZ]; exact compare_any _ _ _ _ _ _ W
  have c13 : ∀ W, Calls Tryd.prog 11 #[.agg #[.int .i64 k1, .int .i64 n1, .string s1], .agg #[.int .i64 k3, .int .i64 n3, .string s3]] W fun e w' => e = .returned (.int .i64 U) ∧ Below W.heap.size W w' := fun W => by rw [hU]; exact compare_any _ _ _ _ _ _ W
  have C12 := Lib.hid c12
  have C21 := Lib.hid c21
  have C11 := Lib.hid c11
  have C23 := Lib.hid c23
  have C13 := Lib.hid c13
  have HT := Lib.hid tr
  have HE := Lib.hid e12
  obtain ⟨bd1, bd2⟩ := bd
  clear c12 c21 c11 c23 c13 hX hZ hU sw e11 e12 tr
  have hne : X ≠ 0 → k1 ≠ k2 ∨ (k1 = k2 ∧ n1 ≠ n2) ∨ (k1 = k2 ∧ n1 = n2 ∧ s1.toList ≠ s2.toList) := by
    intro h0
    by_cases a : k1 = k2
    · by_cases b : n1 = n2
      · refine .inr (.inr ⟨a, b, fun c => h0 (HE.out.2 ⟨a, b, ba_ext c⟩)⟩)
      · exact .inr (.inl ⟨a, b⟩)
    · exact .inl a
  rcases (show X = 1 ∨ X = 0 ∨ X = -1 from by omega) with rfl | rfl | rfl
  · clear HT HE bd1 bd2 C23 C13
    rcases hne (by omega) with a | ⟨a, b⟩ | ⟨a, b, c⟩
    · go_enter Tryd.func5, Tryd.ntmps5
      go_wp2_with (first | (go_at_call 6; ((with_reducible refine (alive_any _ hgx).mono ?_); rintro e w1 ⟨rfl, hb1⟩; have bx1 := hbx.on hb1; obtain ⟨a0, a1, a2, b0, b1, b2, c0, c1, c2⟩ := bx1.cells)) | (go_at_call 10; ((with_reducible refine (rrightv_any _ _ _ _).mono ?_); rintro e w2 ⟨rfl, hb2⟩; have bx2 := Box3.on bx1 hb2; obtain ⟨a0, a1, a2, b0, b1, b2, c0, c1, c2⟩ := bx2.cells)) | (go_at_call 10; ((with_reducible refine (rrightv_any _ _ _ _).mono ?_); rintro e w3 ⟨rfl, hb3⟩; have bx3 := Box3.on bx2 hb3; obtain ⟨a0, a1, a2, b0, b1, b2, c0, c1, c2⟩ := bx3.cells)) | (go_at_call 10; ((with_reducible refine (rrightv_any _ _ _ _).mono ?_); rintro e w4 ⟨rfl, hb4⟩; have bx4 := Box3.on bx3 hb4; obtain ⟨a0, a1, a2, b0, b1, b2, c0, c1, c2⟩ := bx4.cells)) | (go_at_call 11; ((with_reducible refine (C12.out _).mono ?_); rintro e w5 ⟨rfl, hb5⟩; have bx5 := Box3.on bx4 hb5; obtain ⟨a0, a1, a2, b0, b1, b2, c0, c1, c2⟩ := bx5.cells)) | (go_at_call 11; ((with_reducible refine (C21.out _).mono ?_); rintro e w6 ⟨rfl, hb6⟩; have bx6 := Box3.on bx5 hb6; obtain ⟨a0, a1, a2, b0, b1, b2, c0, c1, c2⟩ := bx6.cells)) | (go_at_call 11; ((with_reducible refine (C11.out _).mono ?_); rintro e w7 ⟨rfl, hb7⟩; have bx7 := Box3.on bx6 hb7; obtain ⟨a0, a1, a2, b0, b1, b2, c0, c1, c2⟩ := bx7.cells)))
      go_ret
      exact ⟨rfl, bx7.below⟩
    · subst a
      go_enter Tryd.func5, Tryd.ntmps5
      go_wp2_with (first | (go_at_call 6; ((with_reducible refine (alive_any _ hgx).mono ?_); rintro e w1 ⟨rfl, hb1⟩; have bx1 := hbx.on hb1; obtain ⟨a0, a1, a2, b0, b1, b2, c0, c1, c2⟩ := bx1.cells)) | (go_at_call 10; ((with_reducible refine (rrightv_any _ _ _ _).mono ?_); rintro e w2 ⟨rfl, hb2⟩; have bx2 := Box3.on bx1 hb2; obtain ⟨a0, a1, a2, b0, b1, b2, c0, c1, c2⟩ := bx2.cells)) | (go_at_call 10; ((with_reducible refine (rrightv_any _ _ _ _).mono ?_); rintro e w3 ⟨rfl, hb3⟩; have bx3 := Box3.on bx2 hb3; obtain ⟨a0, a1, a2, b0, b1, b2, c0, c1, c2⟩ := bx3.cells)) | (go_at_call 10; ((with_reducible refine (rrightv_any _ _ _ _).mono ?_); rintro e w4 ⟨rfl, hb4⟩; have bx4 := Box3.on bx3 hb4; obtain ⟨a0, a1, a2, b0, b1, b2, c0, c1, c2⟩ := bx4.cells)) | (go_at_call 11; ((with_reducible refine (C12.out _).mono ?_); rintro e w5 ⟨rfl, hb5⟩; have bx5 := Box3.on bx4 hb5; obtain ⟨a0, a1, a2, b0, b1, b2, c0, c1, c2⟩ := bx5.cells)) | (go_at_call 11; ((with_reducible refine (C21.out _).mono ?_); rintro e w6 ⟨rfl, hb6⟩; have bx6 := Box3.on bx5 hb6; obtain ⟨a0, a1, a2, b0, b1, b2, c0, c1, c2⟩ := bx6.cells)) | (go_at_call 11; ((with_reducible refine (C11.out _).mono ?_); rintro e w7 ⟨rfl, hb7⟩; have bx7 := Box3.on bx6 hb7; obtain ⟨a0, a1, a2, b0, b1, b2, c0, c1, c2⟩ := bx7.cells)))
      go_ret
      exact ⟨rfl, bx7.below⟩
    · subst a b
      go_enter Tryd.func5, Tryd.ntmps5
      go_wp2_with (first | (go_at_call 6; ((with_reducible refine (alive_any _ hgx).mono ?_); rintro e w1 ⟨rfl, hb1⟩; have bx1 := hbx.on hb1; obtain ⟨a0, a1, a2, b0, b1, b2, c0, c1, c2⟩ := bx1.cells)) | (go_at_call 10; ((with_reducible refine (rrightv_any _ _ _ _).mono ?_); rintro e w2 ⟨rfl, hb2⟩; have bx2 := Box3.on bx1 hb2; obtain ⟨a0, a1, a2, b0, b1, b2, c0, c1, c2⟩ := bx2.cells)) | (go_at_call 10; ((with_reducible refine (rrightv_any _ _ _ _).mono ?_); rintro e w3 ⟨rfl, hb3⟩; have bx3 := Box3.on bx2 hb3; obtain ⟨a0, a1, a2, b0, b1, b2, c0, c1, c2⟩ := bx3.cells)) | (go_at_call 10; ((with_reducible refine (rrightv_any _ _ _ _).mono ?_); rintro e w4 ⟨rfl, hb4⟩; have bx4 := Box3.on bx3 hb4; obtain ⟨a0, a1, a2, b0, b1, b2, c0, c1, c2⟩ := bx4.cells)) | (go_at_call 11; ((with_reducible refine (C12.out _).mono ?_); rintro e w5 ⟨rfl, hb5⟩; have bx5 := Box3.on bx4 hb5; obtain ⟨a0, a1, a2, b0, b1, b2, c0, c1, c2⟩ := bx5.cells)) | (go_at_call 11; ((with_reducible refine (C21.out _).mono ?_); rintro e w6 ⟨rfl, hb6⟩; have bx6 := Box3.on bx5 hb6; obtain ⟨a0, a1, a2, b0, b1, b2, c0, c1, c2⟩ := bx6.cells)) | (go_at_call 11; ((with_reducible refine (C11.out _).mono ?_); rintro e w7 ⟨rfl, hb7⟩; have bx7 := Box3.on bx6 hb7; obtain ⟨a0, a1, a2, b0, b1, b2, c0, c1, c2⟩ := bx7.cells)))
      go_ret
      exact ⟨rfl, bx7.below⟩
  · obtain ⟨a, b, c⟩ := HE.out.1 rfl
    have HT' := HT.out (by omega)
    clear HT HE bd1 bd2 hne
    subst a b c
    by_cases hz : Z ≤ 0
    · have hu := HT' hz
      clear HT'
      go_enter Tryd.func5, Tryd.ntmps5
      go_wp2_with (first | (go_at_call 6; ((with_reducible refine (alive_any _ hgx).mono ?_); rintro e w1 ⟨rfl, hb1⟩; have bx1 := hbx.on hb1; obtain ⟨a0, a1, a2, b0, b1, b2, c0, c1, c2⟩ := bx1.cells)) | (go_at_call 10; ((with_reducible refine (rrightv_any _ _ _ _).mono ?_); rintro e w2 ⟨rfl, hb2⟩; have bx2 := Box3.on bx1 hb2; obtain ⟨a0, a1, a2, b0, b1, b2, c0, c1, c2⟩ := bx2.cells)) | (go_at_call 10; ((with_reducible refine (rrightv_any _ _ _ _).mono ?_); rintro e w3 ⟨rfl, hb3⟩; have bx3 := Box3.on bx2 hb3; obtain ⟨a0, a1, a2, b0, b1, b2, c0, c1, c2⟩ := bx3.cells)) | (go_at_call 10; ((with_reducible refine (rrightv_any _ _ _ _).mono ?_); rintro e w4 ⟨rfl, hb4⟩; have bx4 := Box3.on bx3 hb4; obtain ⟨a0, a1, a2, b0, b1, b2, c0, c1, c2⟩ := bx4.cells)) | (go_at_call 11; ((with_reducible refine (C12.out _).mono ?_); rintro e w5 ⟨rfl, hb5⟩; have bx5 := Box3.on bx4 hb5; obtain ⟨a0, a1, a2, b0, b1, b2, c0, c1, c2⟩ := bx5.cells)) | (go_at_call 11; ((with_reducible refine (C21.out _).mono ?_); rintro e w6 ⟨rfl, hb6⟩; have bx6 := Box3.on bx5 hb6; obtain ⟨a0, a1, a2, b0, b1, b2, c0, c1, c2⟩ := bx6.cells)) | (go_at_call 11; ((with_reducible refine (C11.out _).mono ?_); rintro e w7 ⟨rfl, hb7⟩; have bx7 := Box3.on bx6 hb7; obtain ⟨a0, a1, a2, b0, b1, b2, c0, c1, c2⟩ := bx7.cells)) | (go_at_call 11; ((with_reducible refine (C23.out _).mono ?_); rintro e w8 ⟨rfl, hb8⟩; have bx8 := Box3.on bx7 hb8; obtain ⟨a0, a1, a2, b0, b1, b2, c0, c1, c2⟩ := bx8.cells)) | (go_at_call 11; ((with_reducible refine (C13.out _).mono ?_); rintro e w9 ⟨rfl, hb9⟩; have bx9 := Box3.on bx8 hb9; obtain ⟨a0, a1, a2, b0, b1, b2, c0, c1, c2⟩ := bx9.cells)))
      go_ret
      exact ⟨ret_bool (by simp; omega), bx9.below⟩
    · clear HT' C13
      go_enter Tryd.func5, Tryd.ntmps5
      go_wp2_with (first | (go_at_call 6; ((with_reducible refine (alive_any _ hgx).mono ?_); rintro e w1 ⟨rfl, hb1⟩; have bx1 := hbx.on hb1; obtain ⟨a0, a1, a2, b0, b1, b2, c0, c1, c2⟩ := bx1.cells)) | (go_at_call 10; ((with_reducible refine (rrightv_any _ _ _ _).mono ?_); rintro e w2 ⟨rfl, hb2⟩; have bx2 := Box3.on bx1 hb2; obtain ⟨a0, a1, a2, b0, b1, b2, c0, c1, c2⟩ := bx2.cells)) | (go_at_call 10; ((with_reducible refine (rrightv_any _ _ _ _).mono ?_); rintro e w3 ⟨rfl, hb3⟩; have bx3 := Box3.on bx2 hb3; obtain ⟨a0, a1, a2, b0, b1, b2, c0, c1, c2⟩ := bx3.cells)) | (go_at_call 10; ((with_reducible refine (rrightv_any _ _ _ _).mono ?_); rintro e w4 ⟨rfl, hb4⟩; have bx4 := Box3.on bx3 hb4; obtain ⟨a0, a1, a2, b0, b1, b2, c0, c1, c2⟩ := bx4.cells)) | (go_at_call 11; ((with_reducible refine (C12.out _).mono ?_); rintro e w5 ⟨rfl, hb5⟩; have bx5 := Box3.on bx4 hb5; obtain ⟨a0, a1, a2, b0, b1, b2, c0, c1, c2⟩ := bx5.cells)) | (go_at_call 11; ((with_reducible refine (C21.out _).mono ?_); rintro e w6 ⟨rfl, hb6⟩; have bx6 := Box3.on bx5 hb6; obtain ⟨a0, a1, a2, b0, b1, b2, c0, c1, c2⟩ := bx6.cells)) | (go_at_call 11; ((with_reducible refine (C11.out _).mono ?_); rintro e w7 ⟨rfl, hb7⟩; have bx7 := Box3.on bx6 hb7; obtain ⟨a0, a1, a2, b0, b1, b2, c0, c1, c2⟩ := bx7.cells)) | (go_at_call 11; ((with_reducible refine (C23.out _).mono ?_); rintro e w8 ⟨rfl, hb8⟩; have bx8 := Box3.on bx7 hb8; obtain ⟨a0, a1, a2, b0, b1, b2, c0, c1, c2⟩ := bx8.cells)))
      go_ret
      exact ⟨rfl, bx8.below⟩
  · have HT' := HT.out (by omega)
    have hne' := hne (by omega)
    clear HT HE bd1 bd2 hne
    by_cases hz : Z ≤ 0
    · have hu := HT' hz
      clear HT'
      rcases hne' with a | ⟨a, b⟩ | ⟨a, b, c⟩
      · go_enter Tryd.func5, Tryd.ntmps5
        go_wp2_with (first | (go_at_call 6; ((with_reducible refine (alive_any _ hgx).mono ?_); rintro e w1 ⟨rfl, hb1⟩; have bx1 := hbx.on hb1; obtain ⟨a0, a1, a2, b0, b1, b2, c0, c1, c2⟩ := bx1.cells)) | (go_at_call 10; ((with_reducible refine (rrightv_any _ _ _ _).mono ?_); rintro e w2 ⟨rfl, hb2⟩; have bx2 := Box3.on bx1 hb2; obtain ⟨a0, a1, a2, b0, b1, b2, c0, c1, c2⟩ := bx2.cells)) | (go_at_call 10; ((with_reducible refine (rrightv_any _ _ _ _).mono ?_); rintro e w3 ⟨rfl, hb3⟩; have bx3 := Box3.on bx2 hb3; obtain ⟨a0, a1, a2, b0, b1, b2, c0, c1, c2⟩ := bx3.cells)) | (go_at_call 10; ((with_reducible refine (rrightv_any _ _ _ _).mono ?_); rintro e w4 ⟨rfl, hb4⟩; have bx4 := Box3.on bx3 hb4; obtain ⟨a0, a1, a2, b0, b1, b2, c0, c1, c2⟩ := bx4.cells)) | (go_at_call 11; ((with_reducible refine (C12.out _).mono ?_); rintro e w5 ⟨rfl, hb5⟩; have bx5 := Box3.on bx4 hb5; obtain ⟨a0, a1, a2, b0, b1, b2, c0, c1, c2⟩ := bx5.cells)) | (go_at_call 11; ((with_reducible refine (C21.out _).mono ?_); rintro e w6 ⟨rfl, hb6⟩; have bx6 := Box3.on bx5 hb6; obtain ⟨a0, a1, a2, b0, b1, b2, c0, c1, c2⟩ := bx6.cells)) | (go_at_call 11; ((with_reducible refine (C11.out _).mono ?_); rintro e w7 ⟨rfl, hb7⟩; have bx7 := Box3.on bx6 hb7; obtain ⟨a0, a1, a2, b0, b1, b2, c0, c1, c2⟩ := bx7.cells)) | (go_at_call 11; ((with_reducible refine (C23.out _).mono ?_); rintro e w8 ⟨rfl, hb8⟩; have bx8 := Box3.on bx7 hb8; obtain ⟨a0, a1, a2, b0, b1, b2, c0, c1, c2⟩ := bx8.cells)) | (go_at_call 11; ((with_reducible refine (C13.out _).mono ?_); rintro e w9 ⟨rfl, hb9⟩; have bx9 := Box3.on bx8 hb9; obtain ⟨a0, a1, a2, b0, b1, b2, c0, c1, c2⟩ := bx9.cells)))
        go_ret
        exact ⟨ret_bool (by simp; omega), bx9.below⟩
      · subst a
        go_enter Tryd.func5, Tryd.ntmps5
        go_wp2_with (first | (go_at_call 6; ((with_reducible refine (alive_any _ hgx).mono ?_); rintro e w1 ⟨rfl, hb1⟩; have bx1 := hbx.on hb1; obtain ⟨a0, a1, a2, b0, b1, b2, c0, c1, c2⟩ := bx1.cells)) | (go_at_call 10; ((with_reducible refine (rrightv_any _ _ _ _).mono ?_); rintro e w2 ⟨rfl, hb2⟩; have bx2 := Box3.on bx1 hb2; obtain ⟨a0, a1, a2, b0, b1, b2, c0, c1, c2⟩ := bx2.cells)) | (go_at_call 10; ((with_reducible refine (rrightv_any _ _ _ _).mono ?_); rintro e w3 ⟨rfl, hb3⟩; have bx3 := Box3.on bx2 hb3; obtain ⟨a0, a1, a2, b0, b1, b2, c0, c1, c2⟩ := bx3.cells)) | (go_at_call 10; ((with_reducible refine (rrightv_any _ _ _ _).mono ?_); rintro e w4 ⟨rfl, hb4⟩; have bx4 := Box3.on bx3 hb4; obtain ⟨a0, a1, a2, b0, b1, b2, c0, c1, c2⟩ := bx4.cells)) | (go_at_call 11; ((with_reducible refine (C12.out _).mono ?_); rintro e w5 ⟨rfl, hb5⟩; have bx5 := Box3.on bx4 hb5; obtain ⟨a0, a1, a2, b0, b1, b2, c0, c1, c2⟩ := bx5.cells)) | (go_at_call 11; ((with_reducible refine (C21.out _).mono ?_); rintro e w6 ⟨rfl, hb6⟩; have bx6 := Box3.on bx5 hb6; obtain ⟨a0, a1, a2, b0, b1, b2, c0, c1, c2⟩ := bx6.cells)) | (go_at_call 11; ((with_reducible refine (C11.out _).mono ?_); rintro e w7 ⟨rfl, hb7⟩; have bx7 := Box3.on bx6 hb7; obtain ⟨a0, a1, a2, b0, b1, b2, c0, c1, c2⟩ := bx7.cells)) | (go_at_call 11; ((with_reducible refine (C23.out _).mono ?_); rintro e w8 ⟨rfl, hb8⟩; have bx8 := Box3.on bx7 hb8; obtain ⟨a0, a1, a2, b0, b1, b2, c0, c1, c2⟩ := bx8.cells)) | (go_at_call 11; ((with_reducible refine (C13.out _).mono ?_); rintro e w9 ⟨rfl, hb9⟩; have bx9 := Box3.on bx8 hb9; obtain ⟨a0, a1, a2, b0, b1, b2, c0, c1, c2⟩ := bx9.cells)))
        go_ret
        exact ⟨ret_bool (by simp; omega), bx9.below⟩
      · subst a b
        go_enter Tryd.func5, Tryd.ntmps5
        go_wp2_with (first | (go_at_call 6; ((with_reducible refine (alive_any _ hgx).mono ?_); rintro e w1 ⟨rfl, hb1⟩; have bx1 := hbx.on hb1; obtain ⟨a0, a1, a2, b0, b1, b2, c0, c1, c2⟩ := bx1.cells)) | (go_at_call 10; ((with_reducible refine (rrightv_any _ _ _ _).mono ?_); rintro e w2 ⟨rfl, hb2⟩; have bx2 := Box3.on bx1 hb2; obtain ⟨a0, a1, a2, b0, b1, b2, c0, c1, c2⟩ := bx2.cells)) | (go_at_call 10; ((with_reducible refine (rrightv_any _ _ _ _).mono ?_); rintro e w3 ⟨rfl, hb3⟩; have bx3 := Box3.on bx2 hb3; obtain ⟨a0, a1, a2, b0, b1, b2, c0, c1, c2⟩ := bx3.cells)) | (go_at_call 10; ((with_reducible refine (rrightv_any _ _ _ _).mono ?_); rintro e w4 ⟨rfl, hb4⟩; have bx4 := Box3.on bx3 hb4; obtain ⟨a0, a1, a2, b0, b1, b2, c0, c1, c2⟩ := bx4.cells)) | (go_at_call 11; ((with_reducible refine (C12.out _).mono ?_); rintro e w5 ⟨rfl, hb5⟩; have bx5 := Box3.on bx4 hb5; obtain ⟨a0, a1, a2, b0, b1, b2, c0, c1, c2⟩ := bx5.cells)) | (go_at_call 11; ((with_reducible refine (C21.out _).mono ?_); rintro e w6 ⟨rfl, hb6⟩; have bx6 := Box3.on bx5 hb6; obtain ⟨a0, a1, a2, b0, b1, b2, c0, c1, c2⟩ := bx6.cells)) | (go_at_call 11; ((with_reducible refine (C11.out _).mono ?_); rintro e w7 ⟨rfl, hb7⟩; have bx7 := Box3.on bx6 hb7; obtain ⟨a0, a1, a2, b0, b1, b2, c0, c1, c2⟩ := bx7.cells)) | (go_at_call 11; ((with_reducible refine (C23.out _).mono ?_); rintro e w8 ⟨rfl, hb8⟩; have bx8 := Box3.on bx7 hb8; obtain ⟨a0, a1, a2, b0, b1, b2, c0, c1, c2⟩ := bx8.cells)) | (go_at_call 11; ((with_reducible refine (C13.out _).mono ?_); rintro e w9 ⟨rfl, hb9⟩; have bx9 := Box3.on bx8 hb9; obtain ⟨a0, a1, a2, b0, b1, b2, c0, c1, c2⟩ := bx9.cells)))
        go_ret
        exact ⟨ret_bool (by simp; omega), bx9.below⟩
    · clear HT' C13
      rcases hne' with a | ⟨a, b⟩ | ⟨a, b, c⟩
      · go_enter Tryd.func5, Tryd.ntmps5
        go_wp2_with (first | (go_at_call 6; ((with_reducible refine (alive_any _ hgx).mono ?_); rintro e w1 ⟨rfl, hb1⟩; have bx1 := hbx.on hb1; obtain ⟨a0, a1, a2, b0, b1, b2, c0, c1, c2⟩ := bx1.cells)) | (go_at_call 10; ((with_reducible refine (rrightv_any _ _ _ _).mono ?_); rintro e w2 ⟨rfl, hb2⟩; have bx2 := Box3.on bx1 hb2; obtain ⟨a0, a1, a2, b0, b1, b2, c0, c1, c2⟩ := bx2.cells)) | (go_at_call 10; ((with_reducible refine (rrightv_any _ _ _ _).mono ?_); rintro e w3 ⟨rfl, hb3⟩; have bx3 := Box3.on bx2 hb3; obtain ⟨a0, a1, a2, b0, b1, b2, c0, c1, c2⟩ := bx3.cells)) | (go_at_call 10; ((with_reducible refine (rrightv_any _ _ _ _).mono ?_); rintro e w4 ⟨rfl, hb4⟩; have bx4 := Box3.on bx3 hb4; obtain ⟨a0, a1, a2, b0, b1, b2, c0, c1, c2⟩ := bx4.cells)) | (go_at_call 11; ((with_reducible refine (C12.out _).mono ?_); rintro e w5 ⟨rfl, hb5⟩; have bx5 := Box3.on bx4 hb5; obtain ⟨a0, a1, a2, b0, b1, b2, c0, c1, c2⟩ := bx5.cells)) | (go_at_call 11; ((with_reducible refine (C21.out _).mono ?_); rintro e w6 ⟨rfl, hb6⟩; have bx6 := Box3.on bx5 hb6; obtain ⟨a0, a1, a2, b0, b1, b2, c0, c1, c2⟩ := bx6.cells)) | (go_at_call 11; ((with_reducible refine (C11.out _).mono ?_); rintro e w7 ⟨rfl, hb7⟩; have bx7 := Box3.on bx6 hb7; obtain ⟨a0, a1, a2, b0, b1, b2, c0, c1, c2⟩ := bx7.cells)) | (go_at_call 11; ((with_reducible refine (C23.out _).mono ?_); rintro e w8 ⟨rfl, hb8⟩; have bx8 := Box3.on bx7 hb8; obtain ⟨a0, a1, a2, b0, b1, b2, c0, c1, c2⟩ := bx8.cells)))
        go_ret
        exact ⟨rfl, bx8.below⟩
      · subst a
        go_enter Tryd.func5, Tryd.ntmps5
        go_wp2_with (first | (go_at_call 6; ((with_reducible refine (alive_any _ hgx).mono ?_); rintro e w1 ⟨rfl, hb1⟩; have bx1 := hbx.on hb1; obtain ⟨a0, a1, a2, b0, b1, b2, c0, c1, c2⟩ := bx1.cells)) | (go_at_call 10; ((with_reducible refine (rrightv_any _ _ _ _).mono ?_); rintro e w2 ⟨rfl, hb2⟩; have bx2 := Box3.on bx1 hb2; obtain ⟨a0, a1, a2, b0, b1, b2, c0, c1, c2⟩ := bx2.cells)) | (go_at_call 10; ((with_reducible refine (rrightv_any _ _ _ _).mono ?_); rintro e w3 ⟨rfl, hb3⟩; have bx3 := Box3.on bx2 hb3; obtain ⟨a0, a1, a2, b0, b1, b2, c0, c1, c2⟩ := bx3.cells)) | (go_at_call 10; ((with_reducible refine (rrightv_any _ _ _ _).mono ?_); rintro e w4 ⟨rfl, hb4⟩; have bx4 := Box3.on bx3 hb4; obtain ⟨a0, a1, a2, b0, b1, b2, c0, c1, c2⟩ := bx4.cells)) | (go_at_call 11; ((with_reducible refine (C12.out _).mono ?_); rintro e w5 ⟨rfl, hb5⟩; have bx5 := Box3.on bx4 hb5; obtain ⟨a0, a1, a2, b0, b1, b2, c0, c1, c2⟩ := bx5.cells)) | (go_at_call 11; ((with_reducible refine (C21.out _).mono ?_); rintro e w6 ⟨rfl, hb6⟩; have bx6 := Box3.on bx5 hb6; obtain ⟨a0, a1, a2, b0, b1, b2, c0, c1, c2⟩ := bx6.cells)) | (go_at_call 11; ((with_reducible refine (C11.out _).mono ?_); rintro e w7 ⟨rfl, hb7⟩; have bx7 := Box3.on bx6 hb7; obtain ⟨a0, a1, a2, b0, b1, b2, c0, c1, c2⟩ := bx7.cells)) | (go_at_call 11; ((with_reducible refine (C23.out _).mono ?_); rintro e w8 ⟨rfl, hb8⟩; have bx8 := Box3.on bx7 hb8; obtain ⟨a0, a1, a2, b0, b1, b2, c0, c1, c2⟩ := bx8.cells)))
        go_ret
        exact ⟨rfl, bx8.below⟩
      · subst a b
        go_enter Tryd.func5, Tryd.ntmps5
        go_wp2_with (first | (go_at_call 6; ((with_reducible refine (alive_any _ hgx).mono ?_); rintro e w1 ⟨rfl, hb1⟩; have bx1 := hbx.on hb1; obtain ⟨a0, a1, a2, b0, b1, b2, c0, c1, c2⟩ := bx1.cells)) | (go_at_call 10; ((with_reducible refine (rrightv_any _ _ _ _).mono ?_); rintro e w2 ⟨rfl, hb2⟩; have bx2 := Box3.on bx1 hb2; obtain ⟨a0, a1, a2, b0, b1, b2, c0, c1, c2⟩ := bx2.cells)) | (go_at_call 10; ((with_reducible refine (rrightv_any _ _ _ _).mono ?_); rintro e w3 ⟨rfl, hb3⟩; have bx3 := Box3.on bx2 hb3; obtain ⟨a0, a1, a2, b0, b1, b2, c0, c1, c2⟩ := bx3.cells)) | (go_at_call 10; ((with_reducible refine (rrightv_any _ _ _ _).mono ?_); rintro e w4 ⟨rfl, hb4⟩; have bx4 := Box3.on bx3 hb4; obtain ⟨a0, a1, a2, b0, b1, b2, c0, c1, c2⟩ := bx4.cells)) | (go_at_call 11; ((with_reducible refine (C12.out _).mono ?_); rintro e w5 ⟨rfl, hb5⟩; have bx5 := Box3.on bx4 hb5; obtain ⟨a0, a1, a2, b0, b1, b2, c0, c1, c2⟩ := bx5.cells)) | (go_at_call 11; ((with_reducible refine (C21.out _).mono ?_); rintro e w6 ⟨rfl, hb6⟩; have bx6 := Box3.on bx5 hb6; obtain ⟨a0, a1, a2, b0, b1, b2, c0, c1, c2⟩ := bx6.cells)) | (go_at_call 11; ((with_reducible refine (C11.out _).mono ?_); rintro e w7 ⟨rfl, hb7⟩; have bx7 := Box3.on bx6 hb7; obtain ⟨a0, a1, a2, b0, b1, b2, c0, c1, c2⟩ := bx7.cells)) | (go_at_call 11; ((with_reducible refine (C23.out _).mono ?_); rintro e w8 ⟨rfl, hb8⟩; have bx8 := Box3.on bx7 hb8; obtain ⟨a0, a1, a2, b0, b1, b2, c0, c1, c2⟩ := bx8.cells)))
        go_ret
        exact ⟨rfl, bx8.below⟩

end Go.Proofs.YtaojlcgcghdlmaaDoor
