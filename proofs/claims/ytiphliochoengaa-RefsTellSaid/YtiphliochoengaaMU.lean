/- Sorting by a function value: all of it. -/
import Derived.Sort.Walk13a
import Derived.Sort.LotD3
import Derived.Test.YtiphliochoengaaMS
import Derived.Shelf.SlSortFuncK.BreakPatternsK
import Derived.Sort.Grow
import Derived.Test.YtiphliochoengaaShelf
import Derived.Test.YtiphliochoengaaML
import Derived.Shelf.GgSortFunc.Tiny
import Derived.Shelf.GgSortFunc.Slice
import Derived.Shelf.GgSortFunc.SmallK
import Derived.Test.YtiphliochoengaaMJ
namespace Go.Proofs.Ytiphliochoengaa
open Go Go.RowKit
open Go.Sort (swp)
set_option linter.unusedSimpArgs false
theorem ite_any {ρ : Type} {p : Prop} {_inst : Decidable p} {o : Option ρ} {r : ρ} (h : (if p then o else none) = some r) : p ∧ o = some r := by
  by_cases hp : p
  · rw [if_pos hp] at h; exact ⟨hp, h⟩
  · rw [if_neg hp] at h; cases h
open Go.Sort (SWO Below rd PermIn SortedIn)
theorem swo_less : SWO lessP := by
  refine ⟨less_tot.irr, less_tot.trans, fun x y z h1 h2 => ?_⟩
  cases h3 : lessP x z with
  | false => rfl
  | true =>
    cases h4 : lessP y x with
    | true => rw [less_tot.trans _ _ _ h4 h3] at h2; cases h2
    | false =>
      have := less_tot.tri _ _ h1 h4
      subst this
      rw [h3] at h2; cases h2
def GBrk (N : Nat) (x : Nat × Nat × Array C3) : Option (V × List (List V)) := if x.1 ≤ x.2.1 ∧ x.2.1 ≤ N ∧ x.2.2.size = N then some (.tup [], [rowQ (Go.Sort.breakPatterns x.2.2 x.1 x.2.1)]) else none
open Classical in
noncomputable def GPdq (N n : Nat) (x : Nat × Nat × Nat × Array C3) : Option (V × List (List V)) := if x.2.1 - x.1 < n ∧ x.1 ≤ x.2.1 ∧ x.2.1 ≤ N ∧ x.2.2.1 ≤ 100 ∧ x.2.2.2.size = N ∧ Below lessP x.1 x.2.1 x.2.2.2 then some (.tup [], [rowQ (Go.Sort.pdq lessP x.2.2.2 x.1 x.2.1 x.2.2.1 true true)]) else none
section
variable {g sf : FuncId} {gl gs : Array Value} {N : Nat}
theorem ins_at (a b : Nat) (d : Array C3) (h1 : a ≤ b) (h2 : b ≤ N) (h3 : d.size = N) : FE (enD2 g sf gl gs) (GIns N) [dataV g sf gl gs, .x (.int .i64 (a : Int)), .x (.int .i64 (b : Int)), .bx (rowQ d)] = some (.tup [], [rowQ (Go.Sort.insertionSort lessP d a b)]) :=
  (FE_at enD2_inj (GIns N) (a, b, d)).trans (if_pos ⟨h1, h2, h3⟩)
theorem heap_at (a b : Nat) (d : Array C3) (h1 : a ≤ b) (h2 : b ≤ N) (h3 : d.size = N) : FE (enD2 g sf gl gs) (GHeap N) [dataV g sf gl gs, .x (.int .i64 (a : Int)), .x (.int .i64 (b : Int)), .bx (rowQ d)] = some (.tup [], [rowQ (Go.Sort.heapSort lessP d a b)]) :=
  (FE_at enD2_inj (GHeap N) (a, b, d)).trans (if_pos ⟨h1, h2, h3⟩)
theorem brk_at (a b : Nat) (d : Array C3) (h1 : a ≤ b) (h2 : b ≤ N) (h3 : d.size = N) : FE (enD2 g sf gl gs) (GBrk N) [dataV g sf gl gs, .x (.int .i64 (a : Int)), .x (.int .i64 (b : Int)), .bx (rowQ d)] = some (.tup [], [rowQ (Go.Sort.breakPatterns d a b)]) :=
  (FE_at enD2_inj (GBrk N) (a, b, d)).trans (if_pos ⟨h1, h2, h3⟩)
theorem cho_at (a b : Nat) (d : Array C3) (h1 : a < b) (h2 : b ≤ N) (h3 : d.size = N) : FE (enD2 g sf gl gs) (GCho N) [dataV g sf gl gs, .x (.int .i64 (a : Int)), .x (.int .i64 (b : Int)), .bx (rowQ d)] = some (.tup [.x (.int .i64 ((Go.Sort.choosePivot lessP d a b).1 : Int)), .x (.int .i64 (Go.Sort.hintCode (Go.Sort.choosePivot lessP d a b).2))], [rowQ d]) :=
  (FE_at enD2_inj (GCho N) (a, b, d)).trans (if_pos ⟨h1, h2, h3⟩)
theorem rev_at (a b : Nat) (d : Array C3) (h1 : a < b) (h2 : b ≤ N) (h3 : d.size = N) : FE (enD2 g sf gl gs) (GRev N) [dataV g sf gl gs, .x (.int .i64 (a : Int)), .x (.int .i64 (b : Int)), .bx (rowQ d)] = some (.tup [], [rowQ (Go.Sort.reverseRange d a b)]) :=
  (FE_at enD2_inj (GRev N) (a, b, d)).trans (if_pos ⟨h1, h2, h3⟩)
theorem pins_at (a b : Nat) (d : Array C3) (h1 : a < b) (h2 : b ≤ N) (h3 : d.size = N) : FE (enD2 g sf gl gs) (GPins N) [dataV g sf gl gs, .x (.int .i64 (a : Int)), .x (.int .i64 (b : Int)), .bx (rowQ d)] = some (.x (.bool (Go.Sort.partialInsertionSort lessP d a b).2), [rowQ (Go.Sort.partialInsertionSort lessP d a b).1]) :=
  (FE_at enD2_inj (GPins N) (a, b, d)).trans (if_pos ⟨h1, h2, h3⟩)
theorem part_at (a b pv : Nat) (d : Array C3) (h1 : a ≤ pv) (h0 : pv < b) (h2 : b ≤ N) (h3 : d.size = N) : FE (enD3 g sf gl gs) (GPart N) [dataV g sf gl gs, .x (.int .i64 (a : Int)), .x (.int .i64 (b : Int)), .x (.int .i64 (pv : Int)), .bx (rowQ d)] = some (.tup [.x (.int .i64 ((Go.Sort.partition lessP d a b pv).1 : Int)), .x (.bool (Go.Sort.partition lessP d a b pv).2.1)], [rowQ (Go.Sort.partition lessP d a b pv).2.2]) :=
  (FE_at enD3_inj (GPart N) (a, b, pv, d)).trans (if_pos ⟨h1, h0, h2, h3⟩)
theorem parte_at (a b pv : Nat) (d : Array C3) (h1 : a ≤ pv) (h0 : pv < b) (h2 : b ≤ N) (h3 : d.size = N) : FE (enD3 g sf gl gs) (GPartE N) [dataV g sf gl gs, .x (.int .i64 (a : Int)), .x (.int .i64 (b : Int)), .x (.int .i64 (pv : Int)), .bx (rowQ d)] = some (.x (.int .i64 ((Go.Sort.partitionEqual lessP d a b pv).1 : Int)), [rowQ (Go.Sort.partitionEqual lessP d a b pv).2]) :=
  (FE_at enD3_inj (GPartE N) (a, b, pv, d)).trans (if_pos ⟨h1, h0, h2, h3⟩)
theorem pdq_at (n a b lim : Nat) (d : Array C3) (h0 : b - a < n) (h1 : a ≤ b) (h2 : b ≤ N) (h3 : lim ≤ 100) (h4 : d.size = N) (h5 : Below lessP a b d) : FE (enD3 g sf gl gs) (GPdq N n) [dataV g sf gl gs, .x (.int .i64 (a : Int)), .x (.int .i64 (b : Int)), .x (.int .i64 (lim : Int)), .bx (rowQ d)] = some (.tup [], [rowQ (Go.Sort.pdq lessP d a b lim true true)]) :=
  (FE_at enD3_inj (GPdq N n) (a, b, lim, d)).trans (if_pos ⟨h0, h1, h2, h3, h4, h5⟩)
end
set_option maxHeartbeats 8000000 in
set_option maxRecDepth 100000 in
theorem pdq_step {G : Nat → V} {bk N : Nat} {g sf : FuncId} {gl gs : Array Value} (hS : SoOK G bk N g sf gl gs) (hB : FunXV G bk 69 [] (FE (enD2 g sf gl gs) (GBrk N))) (n : Nat) (ih : FunXV G bk 47 [] (FE (enD3 g sf gl gs) (GPdq N n))) : FunXV G bk 47 [] (FE (enD3 g sf gl gs) (GPdq N (n + 1))) := by
  obtain ⟨X, hX, X1, X2, X3⟩ := tb_ex hS [(67, FE (enD2 g sf gl gs) (GIns N)), (68, FE (enD2 g sf gl gs) (GHeap N)), (69, FE (enD2 g sf gl gs) (GBrk N)), (70, FE (enD2 g sf gl gs) (GCho N)), (71, FE (enD2 g sf gl gs) (GRev N)), (72, FE (enD2 g sf gl gs) (GPins N)), (73, FE (enD3 g sf gl gs) (GPartE N)), (74, FE (enD3 g sf gl gs) (GPart N)), (47, FE (enD3 g sf gl gs) (GPdq N n))] ⟨ins_X hS, heap_X hS, hB, cho_X hS, rev_X hS, pins_X hS, parte_X hS, part_X hS, ih, trivial⟩
  have hN := hS.N1
  unfold MX at hN
  refine fun_of_semXV (k := 4) hX Try.func47 rfl (fun a w => Try.call47 a w) Try.ntmps47 (by decide) (by decide) ?_
  clear hX
  intro us r outs hF
  obtain ⟨⟨a, b, lim, d⟩, hus, hG⟩ := FE_out hF
  clear hF
  subst hus
  unfold GPdq at hG
  obtain ⟨⟨hn, hab, hbN, hlim, hd, hBel⟩, hG⟩ := ite_any hG
  simp only at hn hab hbN hlim hd hBel
  cases hG
  refine ⟨_, rfl, rfl, fun pm m0 w0 hE => ?_⟩
  simp only [enD3]
  obtain ⟨P, hP⟩ : ∃ P, Go.Sort.pdq lessP d a b lim true true = P := ⟨_, rfl⟩
  rw [hP]
  refine Sem.seq [(1, .x (.int .i64 (a : Int))), (2, .x (.int .i64 (b : Int))), (3, .x (.int .i64 (lim : Int))), (4, .ptr 4 0)] [(4, [.x (.func (.func g) #[] gl), .x (.func (.func sf) #[] gs)]), (1004, rowQ d)] (Sem.run hE follows_mixed (by kernel_rfl) (by simp (decide := true) (maxDischargeDepth := 200) only [go_sem, X1, X2, X3, lkP])) ?_
  refine Sem.seq [(1, .x (.int .i64 (a : Int))), (2, .x (.int .i64 (b : Int))), (3, .x (.int .i64 (lim : Int))), (4, .ptr 4 0), (8, .x (.bool true))] [(4, [.x (.func (.func g) #[] gl), .x (.func (.func sf) #[] gs)]), (1004, rowQ d)] (Sem.run hE follows_mixed (by kernel_rfl) (by simp (decide := true) (maxDischargeDepth := 200) only [go_sem, X1, X2, X3, lkP])) ?_
  refine Sem.seq [(1, .x (.int .i64 ((a : Nat) : Int))), (2, .x (.int .i64 ((b : Nat) : Int))), (3, .x (.int .i64 ((lim : Nat) : Int))), (4, .ptr 4 0), (8, .x (.bool true)), (9, .x (.bool true))] [(4, [.x (.func (.func g) #[] gl), .x (.func (.func sf) #[] gs)]), (1004, rowQ d)] (Sem.run hE follows_mixed (by kernel_rfl) (by simp (decide := true) (maxDischargeDepth := 200) only [go_sem, X1, X2, X3, lkP])) ?_
  refine Sem.block (Sem.loop (X := {x : Nat × Nat × Nat × Bool × Bool × Array C3 // x.1 ≤ x.2.1 ∧ x.2.1 ≤ N ∧ x.2.1 - x.1 ≤ b - a ∧ x.2.2.1 ≤ lim ∧ x.2.2.2.2.2.size = N ∧ Below lessP x.1 x.2.1 x.2.2.2.2.2 ∧ Go.Sort.pdq lessP x.2.2.2.2.2 x.1 x.2.1 x.2.2.1 x.2.2.2.1 x.2.2.2.2.1 = P}) (fun x => [(1, .x (.int .i64 ((x.1.1 : Nat) : Int))), (2, .x (.int .i64 ((x.1.2.1 : Nat) : Int))), (3, .x (.int .i64 ((x.1.2.2.1 : Nat) : Int))), (4, .ptr 4 0), (8, .x (.bool x.1.2.2.2.1)), (9, .x (.bool x.1.2.2.2.2.1))]) (fun x => [(4, [.x (.func (.func g) #[] gl), .x (.func (.func sf) #[] gs)]), (1004, rowQ x.1.2.2.2.2.2)]) (fun x => x.1.2.1 - x.1.1) ⟨(a, b, lim, true, true, d), hab, hbN, Nat.le_refl _, Nat.le_refl _, hd, hBel, hP⟩ (by simp (decide := true) only [go_sem] <;> (repeat' first | rfl | constructor)) (by simp (decide := true) only [go_sem] <;> (repeat' first | rfl | constructor)) (fun ⟨⟨a1, b1, l1, wb, wp, dk⟩, x1, x2, x3, x4, hdk, hBk, heq⟩ => Sem.block ?_))
  simp only at x1 x2 x3 x4 hdk hBk heq ⊢
  have w1 : bWrap .i64 ((b1 : Int) - (a1 : Int)) = ((b1 - a1 : Nat) : Int) := by rw [bwrap_of (by unfold inR; omega)]; omega
  refine Sem.seq [(1, .x (.int .i64 ((a1 : Nat) : Int))), (2, .x (.int .i64 ((b1 : Nat) : Int))), (3, .x (.int .i64 ((l1 : Nat) : Int))), (4, .ptr 4 0), (8, .x (.bool wb)), (9, .x (.bool wp)), (10, .x (.int .i64 ((b1 - a1 : Nat) : Int)))] [(4, [.x (.func (.func g) #[] gl), .x (.func (.func sf) #[] gs)]), (1004, rowQ dk)] (Sem.run hE follows_mixed (by kernel_rfl) (by simp (decide := true) (maxDischargeDepth := 200) only [go_sem, X1, X2, X3, lkP, w1])) ?_
  by_cases h12 : b1 - a1 ≤ 12
  · have c1 : decide (((b1 - a1 : Nat) : Int) ≤ 12) = true := decide_eq_true (by omega)
    have e1 := ins_at (g := g) (sf := sf) (gl := gl) (gs := gs) (N := N) a1 b1 dk x1 x2 hdk
    rw [← heq, Go.Sort.pdq_small h12]
    refine Sem.seq_out (Sem.run hE follows_mixed (by kernel_rfl) ?_)
    simp (decide := true) (maxDischargeDepth := 200) only [go_sem, X1, X2, X3, lkP, c1, e1, Try.results47]
  have c1 : decide (((b1 - a1 : Nat) : Int) ≤ 12) = false := decide_eq_false (by omega)
  refine Sem.seq [(1, .x (.int .i64 ((a1 : Nat) : Int))), (2, .x (.int .i64 ((b1 : Nat) : Int))), (3, .x (.int .i64 ((l1 : Nat) : Int))), (4, .ptr 4 0), (8, .x (.bool wb)), (9, .x (.bool wp)), (10, .x (.int .i64 ((b1 - a1 : Nat) : Int)))] [(4, [.x (.func (.func g) #[] gl), .x (.func (.func sf) #[] gs)]), (1004, rowQ dk)] (Sem.run hE follows_mixed (by kernel_rfl) (by simp (decide := true) (maxDischargeDepth := 200) only [go_sem, X1, X2, X3, lkP, c1])) ?_
  by_cases hl0 : l1 = 0
  · have c2 : decide (((l1 : Nat) : Int) = 0) = true := decide_eq_true (by omega)
    have e1 := heap_at (g := g) (sf := sf) (gl := gl) (gs := gs) (N := N) a1 b1 dk x1 x2 hdk
    rw [← heq, Go.Sort.pdq_heap h12 hl0]
    refine Sem.seq_out (Sem.run hE follows_mixed (by kernel_rfl) ?_)
    simp (decide := true) (maxDischargeDepth := 200) only [go_sem, X1, X2, X3, lkP, c2, e1, Try.results47]
  have c2 : decide (((l1 : Nat) : Int) = 0) = false := decide_eq_false (by omega)
  refine Sem.seq [(1, .x (.int .i64 ((a1 : Nat) : Int))), (2, .x (.int .i64 ((b1 : Nat) : Int))), (3, .x (.int .i64 ((l1 : Nat) : Int))), (4, .ptr 4 0), (8, .x (.bool wb)), (9, .x (.bool wp)), (10, .x (.int .i64 ((b1 - a1 : Nat) : Int)))] [(4, [.x (.func (.func g) #[] gl), .x (.func (.func sf) #[] gs)]), (1004, rowQ dk)] (Sem.run hE follows_mixed (by kernel_rfl) (by simp (decide := true) (maxDischargeDepth := 200) only [go_sem, X1, X2, X3, lkP, c2])) ?_
  obtain ⟨R, hR⟩ : ∃ R, rd lessP dk a1 b1 l1 wb wp = R := ⟨_, rfl⟩
  obtain ⟨s1, B1, hc1, s2, B2, hpv, s3, B3⟩ := Go.Sort.rd_facts (lt := lessP) (limit := l1) (wb := wb) (wp := wp) swo_less Go.Sort.partialInsertionSort_holds Go.Sort.reverseRange_holds (show a1 < b1 by omega) (show b1 ≤ dk.size by omega) hBk
  have hlm := Go.Sort.rd_lim_le (lt := lessP) (d := dk) (a := a1) (b := b1) (limit := l1) (wb := wb) (wp := wp)
  rw [hR] at s1 B1 hc1 s2 B2 hpv s3 B3 hlm
  refine Sem.seq [(1, .x (.int .i64 ((a1 : Nat) : Int))), (2, .x (.int .i64 ((b1 : Nat) : Int))), (3, .x (.int .i64 ((R.lim : Nat) : Int))), (4, .ptr 4 0), (8, .x (.bool wb)), (9, .x (.bool wp)), (10, .x (.int .i64 ((b1 - a1 : Nat) : Int)))] [(4, [.x (.func (.func g) #[] gl), .x (.func (.func sf) #[] gs)]), (1004, rowQ R.d1)] (Sem.run hE follows_mixed (by kernel_rfl) ?_) ?_
  · cases wb with
    | true =>
      obtain ⟨q1, q2⟩ := Go.Sort.rd_true (lt := lessP) (d := dk) (a := a1) (b := b1) (limit := l1) (wp := wp)
      rw [hR] at q1 q2
      rw [q1, q2]
      simp (decide := true) (maxDischargeDepth := 200) only [go_sem, X1, X2, X3, lkP]
    | false =>
      obtain ⟨q1, q2⟩ := Go.Sort.rd_false (lt := lessP) (d := dk) (a := a1) (b := b1) (limit := l1) (wp := wp)
      rw [hR] at q1 q2
      have e1 := brk_at (g := g) (sf := sf) (gl := gl) (gs := gs) (N := N) a1 b1 dk x1 x2 hdk
      have w2 : bWrap .i64 ((l1 : Int) - 1) = ((l1 - 1 : Nat) : Int) := by rw [bwrap_of (by unfold inR; omega)]; omega
      rw [q1, q2]
      simp (decide := true) (maxDischargeDepth := 200) only [go_sem, X1, X2, X3, lkP, e1, w2]
  have ec := Go.Sort.rd_c (lt := lessP) (d := dk) (a := a1) (b := b1) (limit := l1) (wb := wb) (wp := wp)
  rw [hR] at ec
  have e2 := cho_at (g := g) (sf := sf) (gl := gl) (gs := gs) (N := N) a1 b1 R.d1 (by omega) x2 (s1.trans hdk)
  rw [← ec] at e2
  refine Sem.seq [(1, .x (.int .i64 ((a1 : Nat) : Int))), (2, .x (.int .i64 ((b1 : Nat) : Int))), (3, .x (.int .i64 ((R.lim : Nat) : Int))), (4, .ptr 4 0), (8, .x (.bool wb)), (9, .x (.bool wp)), (10, .x (.int .i64 ((b1 - a1 : Nat) : Int))), (11, .x (.int .i64 ((R.c.1 : Nat) : Int))), (12, .x (.int .i64 (Go.Sort.hintCode R.c.2)))] [(4, [.x (.func (.func g) #[] gl), .x (.func (.func sf) #[] gs)]), (1004, rowQ R.d1)] (Sem.run hE follows_mixed (by kernel_rfl) (by simp (decide := true) (maxDischargeDepth := 200) only [go_sem, X1, X2, X3, lkP, e2])) ?_
  refine Sem.seq [(1, .x (.int .i64 ((a1 : Nat) : Int))), (2, .x (.int .i64 ((b1 : Nat) : Int))), (3, .x (.int .i64 ((R.lim : Nat) : Int))), (4, .ptr 4 0), (8, .x (.bool wb)), (9, .x (.bool wp)), (10, .x (.int .i64 ((b1 - a1 : Nat) : Int))), (11, .x (.int .i64 ((R.pivot : Nat) : Int))), (12, .x (.int .i64 (Go.Sort.hintCode R.hint)))] [(4, [.x (.func (.func g) #[] gl), .x (.func (.func sf) #[] gs)]), (1004, rowQ R.d2)] (Sem.run hE follows_mixed (by kernel_rfl) ?_) ?_
  · by_cases hh : R.c.2 = .decreasing
    · obtain ⟨q1, q2, q3⟩ := Go.Sort.rd_dec (lt := lessP) (d := dk) (a := a1) (b := b1) (limit := l1) (wb := wb) (wp := wp) (by rw [hR]; exact hh)
      rw [hR] at q1 q2 q3
      have e3 := rev_at (g := g) (sf := sf) (gl := gl) (gs := gs) (N := N) a1 b1 R.d1 (by omega) x2 (s1.trans hdk)
      rw [← q1] at e3
      have c3 : decide (Go.Sort.hintCode R.c.2 = 2) = true := by rw [hh]; rfl
      have c4 : Go.Sort.hintCode R.hint = 1 := by rw [q3]; rfl
      have w2 : bWrap .i64 ((b1 : Int) - 1) = ((b1 - 1 : Nat) : Int) := by rw [bwrap_of (by unfold inR; omega)]; omega
      have w3 : bWrap .i64 (((R.c.1 : Nat) : Int) - (a1 : Int)) = ((R.c.1 - a1 : Nat) : Int) := by rw [bwrap_of (by unfold inR; omega)]; omega
      have w4 : bWrap .i64 (((b1 - 1 : Nat) : Int) - ((R.c.1 - a1 : Nat) : Int)) = ((R.pivot : Nat) : Int) := by rw [bwrap_of (by unfold inR; omega)]; omega
      rw [c4]
      simp (decide := true) (maxDischargeDepth := 200) only [go_sem, X1, X2, X3, lkP, c3, e3, w2, w3, w4]
    · obtain ⟨q1, q2, q3⟩ := Go.Sort.rd_not (lt := lessP) (d := dk) (a := a1) (b := b1) (limit := l1) (wb := wb) (wp := wp) (by rw [hR]; exact hh)
      rw [hR] at q1 q2 q3
      have c3 : decide (Go.Sort.hintCode R.c.2 = 2) = false := decide_eq_false (fun h => hh (by
        generalize R.c.2 = h0 at h
        cases h0 <;> first | rfl | (simp [Go.Sort.hintCode] at h)))
      rw [q1, q2, q3]
      simp (decide := true) (maxDischargeDepth := 200) only [go_sem, X1, X2, X3, lkP, c3]
  obtain ⟨Q, hQ1, hQ2⟩ : ∃ Q : Prop, (Q → R.pi.2 = false) ∧ (R.pi.2 = false → Q) := ⟨_, id, id⟩
  refine Sem.seqQ Q [(1, .x (.int .i64 ((a1 : Nat) : Int))), (2, .x (.int .i64 ((b1 : Nat) : Int))), (3, .x (.int .i64 ((R.lim : Nat) : Int))), (4, .ptr 4 0), (8, .x (.bool wb)), (9, .x (.bool wp)), (10, .x (.int .i64 ((b1 - a1 : Nat) : Int))), (11, .x (.int .i64 ((R.pivot : Nat) : Int)))] [(4, [.x (.func (.func g) #[] gl), .x (.func (.func sf) #[] gs)]), (1004, rowQ R.pi.1)] (Sem.run hE follows_mixed (by kernel_rfl) ?_) (fun hq => ?_)
  · by_cases hin : R.hint = .increasing
    · have c5 : decide (Go.Sort.hintCode R.hint = 1) = true := by rw [hin]; rfl
      cases hw : (wb && wp) with
      | true =>
        rw [Bool.and_eq_true] at hw
        obtain ⟨hwb, hwp⟩ := hw
        have epi := Go.Sort.rd_pi_yes (lt := lessP) (d := dk) (a := a1) (b := b1) (limit := l1) (wb := wb) (wp := wp) (by rw [hR, hin, hwb, hwp]; rfl)
        rw [hR] at epi
        have e4 := pins_at (g := g) (sf := sf) (gl := gl) (gs := gs) (N := N) a1 b1 R.d2 (by omega) x2 (s2.trans hdk)
        rw [← epi] at e4
        cases h2 : R.pi.2 with
        | true =>
          rw [h2] at e4
          have hf := Go.Sort.pdq_done (lt := lessP) (wb := wb) (wp := wp) h12 hl0 (by rw [hR]; exact h2)
          rw [hR, heq] at hf
          rw [hf]
          simp (decide := true) (maxDischargeDepth := 200) only [go_sem, X1, X2, X3, lkP, hwb, hwp, c5, e4, Try.results47]
        | false =>
          rw [h2] at e4
          have q := hQ2 h2
          simp (decide := true) (maxDischargeDepth := 200) only [go_sem, X1, X2, X3, lkP, hwb, hwp, c5, e4, q]
      | false =>
        have epi := Go.Sort.rd_pi_no (lt := lessP) (d := dk) (a := a1) (b := b1) (limit := l1) (wb := wb) (wp := wp) (by rw [hw]; rfl)
        rw [hR] at epi
        have q := hQ2 (by rw [epi])
        rw [epi]
        cases wb with
        | false => simp (decide := true) (maxDischargeDepth := 200) only [go_sem, X1, X2, X3, lkP, c5, q]
        | true =>
          have hwp : wp = false := by simpa using hw
          simp (decide := true) (maxDischargeDepth := 200) only [go_sem, X1, X2, X3, lkP, hwp, c5, q]
    · have c5 : decide (Go.Sort.hintCode R.hint = 1) = false := decide_eq_false (fun h => hin (by
        generalize R.hint = h0 at h
        cases h0 <;> first | rfl | (simp [Go.Sort.hintCode] at h)))
      have epi := Go.Sort.rd_pi_no (lt := lessP) (d := dk) (a := a1) (b := b1) (limit := l1) (wb := wb) (wp := wp) (by rw [hR, decide_eq_false hin, Bool.and_false])
      rw [hR] at epi
      have q := hQ2 (by rw [epi])
      rw [epi]
      cases wb with
      | false => simp (decide := true) (maxDischargeDepth := 200) only [go_sem, X1, X2, X3, lkP, c5, q]
      | true => cases wp with
        | false => simp (decide := true) (maxDischargeDepth := 200) only [go_sem, X1, X2, X3, lkP, c5, q]
        | true => simp (decide := true) (maxDischargeDepth := 200) only [go_sem, X1, X2, X3, lkP, c5, q]
  have hp2 := hQ1 hq
  clear hQ1 hQ2 hq Q
  obtain ⟨D, hD⟩ : ∃ D, R.pi.1 = D := ⟨_, rfl⟩
  rw [hD] at s3 B3 ⊢
  have z3 : D.size = N := s3.trans hdk
  cases h87 : (decide (a1 > 0) && !lessP D[a1 - 1]! D[R.pivot]!) with
  | true =>
    have h87' := h87
    simp only [Bool.and_eq_true, decide_eq_true_eq, Bool.not_eq_true'] at h87'
    obtain ⟨mid, d4, hx⟩ : ∃ mid d4, Go.Sort.partitionEqual lessP D a1 b1 R.pivot = (mid, d4) := ⟨_, _, rfl⟩
    obtain ⟨r1, r2, r3, r4, _⟩ := Go.Sort.round_eq swo_less (Go.Sort.partitionEqual_holds lessP) h87'.1 hpv.1 hpv.2 (show b1 ≤ D.size by omega) B3 h87'.2 hx
    have e5 := parte_at (g := g) (sf := sf) (gl := gl) (gs := gs) (N := N) a1 b1 R.pivot D hpv.1 hpv.2 x2 z3
    rw [hx] at e5
    have hl := less_at (N := N) (a1 - 1) R.pivot D (by omega) (by omega) z3
    rw [h87'.2] at hl
    have c6 : decide ((0 : Int) < ((a1 : Nat) : Int)) = true := decide_eq_true (by omega)
    have w5 : bWrap .i64 ((a1 : Int) - 1) = ((a1 - 1 : Nat) : Int) := by rw [bwrap_of (by unfold inR; omega)]; omega
    have hf := Go.Sort.pdq_eq (lt := lessP) (wb := wb) (wp := wp) h12 hl0 (by rw [hR]; exact hp2) (by rw [hR, hD]; exact h87) (by rw [hR, hD, hx]; exact ⟨r1, r2⟩)
    rw [hR, hD, hx, heq] at hf
    simp only at hf
    refine Sem.seq_out (Sem.run hE follows_mixed (by kernel_rfl) ?_)
    simp (decide := true) (maxDischargeDepth := 200) only [go_sem, X1, X2, X3, lkP, c6, w5, hl, e5]
    refine ⟨⟨(mid, b1, R.lim, wb, wp, d4), by simp only; omega, by simp only; omega, by simp only; omega, by simp only; omega, r3.trans z3, r4, hf.symm⟩, ?_, ?_, by simp only; omega⟩ <;> simp (decide := true) only [go_sem] <;> (repeat' first | rfl | constructor)
  | false =>
    refine Sem.seq [(1, .x (.int .i64 ((a1 : Nat) : Int))), (2, .x (.int .i64 ((b1 : Nat) : Int))), (3, .x (.int .i64 ((R.lim : Nat) : Int))), (4, .ptr 4 0), (8, .x (.bool wb)), (9, .x (.bool wp)), (10, .x (.int .i64 ((b1 - a1 : Nat) : Int))), (11, .x (.int .i64 ((R.pivot : Nat) : Int)))] [(4, [.x (.func (.func g) #[] gl), .x (.func (.func sf) #[] gs)]), (1004, rowQ D)] (Sem.run hE follows_mixed (by kernel_rfl) ?_) ?_
    · by_cases ha0 : 0 < a1
      · have c6 : decide ((0 : Int) < ((a1 : Nat) : Int)) = true := decide_eq_true (by omega)
        have w5 : bWrap .i64 ((a1 : Int) - 1) = ((a1 - 1 : Nat) : Int) := by rw [bwrap_of (by unfold inR; omega)]; omega
        have hl := less_at (N := N) (a1 - 1) R.pivot D (by omega) (by omega) z3
        rw [decide_eq_true (show a1 > 0 from ha0), Bool.true_and, Bool.not_eq_false'] at h87
        rw [h87] at hl
        simp (decide := true) (maxDischargeDepth := 200) only [go_sem, X1, X2, X3, lkP, c6, w5, hl]
      · have c6 : decide ((0 : Int) < ((a1 : Nat) : Int)) = false := decide_eq_false (by omega)
        simp (decide := true) (maxDischargeDepth := 200) only [go_sem, X1, X2, X3, lkP, c6]
    obtain ⟨mid, ap, d4, hx⟩ : ∃ mid ap d4, Go.Sort.partition lessP D a1 b1 R.pivot = (mid, ap, d4) := ⟨_, _, _, rfl⟩
    obtain ⟨r1, r2, r3, r4, r5, r6, r7⟩ := Go.Sort.round_part swo_less (Go.Sort.partition_holds lessP) hpv.1 hpv.2 (show b1 ≤ D.size by omega) B3 hx
    have e5 := part_at (g := g) (sf := sf) (gl := gl) (gs := gs) (N := N) a1 b1 R.pivot D hpv.1 hpv.2 x2 z3
    rw [hx] at e5
    have z4 : d4.size = N := r3.trans z3
    have w6 : bWrap .i64 (((mid : Nat) : Int) - (a1 : Int)) = ((mid - a1 : Nat) : Int) := by rw [bwrap_of (by unfold inR; omega)]; omega
    have w7 : bWrap .i64 ((b1 : Int) - ((mid : Nat) : Int)) = ((b1 - mid : Nat) : Int) := by rw [bwrap_of (by unfold inR; omega)]; omega
    have w8 : bWrap .i64 (((mid : Nat) : Int) + 1) = ((mid + 1 : Nat) : Int) := by rw [bwrap_of (by unfold inR; omega)]; omega
    have w9 : bWrap .i64 (((b1 - a1 : Nat) : Int).tdiv 8) = (((b1 - a1) / 8 : Nat) : Int) := by rw [Int.tdiv_eq_ediv_of_nonneg (by omega), bwrap_of (by unfold inR; omega)]; omega
    refine Sem.seq [(1, .x (.int .i64 ((a1 : Nat) : Int))), (2, .x (.int .i64 ((b1 : Nat) : Int))), (3, .x (.int .i64 ((R.lim : Nat) : Int))), (4, .ptr 4 0), (8, .x (.bool wb)), (9, .x (.bool wp)), (10, .x (.int .i64 ((b1 - a1 : Nat) : Int))), (14, .x (.int .i64 ((mid : Nat) : Int))), (15, .x (.bool ap))] [(4, [.x (.func (.func g) #[] gl), .x (.func (.func sf) #[] gs)]), (1004, rowQ d4)] (Sem.run hE follows_mixed (by kernel_rfl) (by simp (decide := true) (maxDischargeDepth := 200) only [go_sem, X1, X2, X3, lkP, e5])) ?_
    refine Sem.seq [(1, .x (.int .i64 ((a1 : Nat) : Int))), (2, .x (.int .i64 ((b1 : Nat) : Int))), (3, .x (.int .i64 ((R.lim : Nat) : Int))), (4, .ptr 4 0), (8, .x (.bool wb)), (9, .x (.bool ap)), (10, .x (.int .i64 ((b1 - a1 : Nat) : Int))), (14, .x (.int .i64 ((mid : Nat) : Int)))] [(4, [.x (.func (.func g) #[] gl), .x (.func (.func sf) #[] gs)]), (1004, rowQ d4)] (Sem.run hE follows_mixed (by kernel_rfl) (by simp (decide := true) (maxDischargeDepth := 200) only [go_sem, X1, X2, X3, lkP])) ?_
    refine Sem.seq [(1, .x (.int .i64 ((a1 : Nat) : Int))), (2, .x (.int .i64 ((b1 : Nat) : Int))), (3, .x (.int .i64 ((R.lim : Nat) : Int))), (4, .ptr 4 0), (8, .x (.bool wb)), (9, .x (.bool ap)), (10, .x (.int .i64 ((b1 - a1 : Nat) : Int))), (14, .x (.int .i64 ((mid : Nat) : Int))), (16, .x (.int .i64 ((mid - a1 : Nat) : Int))), (17, .x (.int .i64 ((b1 - mid : Nat) : Int)))] [(4, [.x (.func (.func g) #[] gl), .x (.func (.func sf) #[] gs)]), (1004, rowQ d4)] (Sem.run hE follows_mixed (by kernel_rfl) (by simp (decide := true) (maxDischargeDepth := 200) only [go_sem, X1, X2, X3, lkP, w6, w7])) ?_
    refine Sem.seq [(1, .x (.int .i64 ((a1 : Nat) : Int))), (2, .x (.int .i64 ((b1 : Nat) : Int))), (3, .x (.int .i64 ((R.lim : Nat) : Int))), (4, .ptr 4 0), (8, .x (.bool wb)), (9, .x (.bool ap)), (14, .x (.int .i64 ((mid : Nat) : Int))), (16, .x (.int .i64 ((mid - a1 : Nat) : Int))), (17, .x (.int .i64 ((b1 - mid : Nat) : Int))), (18, .x (.int .i64 (((b1 - a1) / 8 : Nat) : Int)))] [(4, [.x (.func (.func g) #[] gl), .x (.func (.func sf) #[] gs)]), (1004, rowQ d4)] (Sem.run hE follows_mixed (by kernel_rfl) (by simp (decide := true) (maxDischargeDepth := 200) only [go_sem, X1, X2, X3, lkP, w9])) ?_
    by_cases h4 : mid - a1 < b1 - mid
    · have c7 : decide (((mid - a1 : Nat) : Int) < ((b1 - mid : Nat) : Int)) = true := decide_eq_true (by omega)
      have e8 : decide ((((b1 - a1) / 8 : Nat) : Int) ≤ ((mid - a1 : Nat) : Int)) = decide (mid - a1 ≥ (b1 - a1) / 8) := decide_eq_decide.2 ⟨fun h => by omega, fun h => by omega⟩
      have e9 := pdq_at (g := g) (sf := sf) (gl := gl) (gs := gs) (N := N) n a1 mid R.lim d4 (by omega) r1 (by omega) (by omega) z4 r4
      obtain ⟨pL, sL⟩ := Go.Sort.pdq_sorts lessP swo_less d4 a1 mid R.lim true true r1 (by omega) r4
      have hf := Go.Sort.pdq_left (lt := lessP) (wb := wb) (wp := wp) h12 hl0 (by rw [hR]; exact hp2) (by rw [hR, hD]; exact h87) (by rw [hR, hD, hx]; exact ⟨r1, r2⟩) (by rw [hR, hD, hx]; exact h4)
      rw [hR, hD, hx, heq] at hf
      simp only at hf
      generalize hB8 : decide (mid - a1 ≥ (b1 - a1) / 8) = b8 at e8 hf
      have z5 := pL.1.trans z4
      have B5 := (r6 _ pL sL).1
      generalize Go.Sort.pdq lessP d4 a1 mid R.lim true true = d5 at e9 hf z5 B5
      refine Sem.run hE follows_mixed (by kernel_rfl) ?_
      simp (decide := true) (maxDischargeDepth := 200) only [go_sem, X1, X2, X3, lkP, c7, e8, e9, w8]
      refine ⟨⟨(mid + 1, b1, R.lim, b8, ap, d5), by simp only; omega, by simp only; omega, by simp only; omega, by simp only; omega, z5, B5, hf.symm⟩, ?_, ?_, by simp only; omega⟩ <;> simp (decide := true) only [go_sem] <;> (repeat' first | rfl | constructor)
    · have c7 : decide (((mid - a1 : Nat) : Int) < ((b1 - mid : Nat) : Int)) = false := decide_eq_false (by omega)
      have e8 : decide ((((b1 - a1) / 8 : Nat) : Int) ≤ ((b1 - mid : Nat) : Int)) = decide (b1 - mid ≥ (b1 - a1) / 8) := decide_eq_decide.2 ⟨fun h => by omega, fun h => by omega⟩
      have e9 := pdq_at (g := g) (sf := sf) (gl := gl) (gs := gs) (N := N) n (mid + 1) b1 R.lim d4 (by omega) (by omega) (by omega) (by omega) z4 r5
      obtain ⟨pL, sL⟩ := Go.Sort.pdq_sorts lessP swo_less d4 (mid + 1) b1 R.lim true true (by omega) (by omega) r5
      have hf := Go.Sort.pdq_right (lt := lessP) (wb := wb) (wp := wp) h12 hl0 (by rw [hR]; exact hp2) (by rw [hR, hD]; exact h87) (by rw [hR, hD, hx]; exact ⟨r1, r2⟩) (by rw [hR, hD, hx]; exact h4)
      rw [hR, hD, hx, heq] at hf
      simp only at hf
      generalize hB8 : decide (b1 - mid ≥ (b1 - a1) / 8) = b8 at e8 hf
      have z5 := pL.1.trans z4
      have B5 := (r7 _ pL sL).1
      generalize Go.Sort.pdq lessP d4 (mid + 1) b1 R.lim true true = d5 at e9 hf z5 B5
      refine Sem.run hE follows_mixed (by kernel_rfl) ?_
      simp (decide := true) (maxDischargeDepth := 200) only [go_sem, X1, X2, X3, lkP, c7, e8, e9, w8]
      refine ⟨⟨(a1, mid, R.lim, b8, ap, d5), by simp only; omega, by simp only; omega, by simp only; omega, by simp only; omega, z5, B5, hf.symm⟩, ?_, ?_, by simp only; omega⟩ <;> simp (decide := true) only [go_sem] <;> (repeat' first | rfl | constructor)

theorem pdq_X {G : Nat → V} {bk N : Nat} {g sf : FuncId} {gl gs : Array Value} (hS : SoOK G bk N g sf gl gs) (hB : FunXV G bk 69 [] (FE (enD2 g sf gl gs) (GBrk N))) (n : Nat) : FunXV G bk 47 [] (FE (enD3 g sf gl gs) (GPdq N n)) := by
  induction n with
  | zero =>
    intro m w vs us bs gs hs r outs hF
    obtain ⟨⟨a, b, l, d⟩, _, hG⟩ := FE_out hF
    unfold GPdq at hG
    obtain ⟨⟨h, _⟩, _⟩ := ite_any hG
    exact absurd h (Nat.not_lt_zero _)
  | succ n ih => exact pdq_step hS hB n ih
end Go.Proofs.Ytiphliochoengaa

/- Sorting cells: the exchange, the comparison, breakPatterns. -/
namespace Go.Proofs.Ytiphliochoengaa
open Go Go.RowKit
open Go.Sort (swp)
set_option linter.unusedSimpArgs false
open Go.Sort (putRowK HoldsK flatK)
/-- A cell's parts, as they lie in memory. -/
def encQ (p : C3) : List Value := [.string p.1, .int .i64 p.2.1, .int .i64 p.2.2]
theorem rowQ_vals (d : Array C3) : rowQ d = (d.toList.flatMap encQ).map V.x := by
  unfold rowQ
  generalize d.toList = l
  induction l with
  | nil => rfl
  | cons p l ih =>
    rw [List.flatMap_cons, List.flatMap_cons, List.map_append, ih]
    rfl
theorem encQ_at : ∀ (l : List C3) (t : Nat), (l.flatMap encQ)[t]? = (l[t / 3]?).map fun p => (encQ p)[t % 3]!
  | [], t => by simp
  | p :: l, t => by
    rw [List.flatMap_cons]
    rcases Nat.lt_or_ge t 3 with h | h
    · rw [List.getElem?_append_left (by show t < 3; exact h), Nat.div_eq_of_lt h, Nat.mod_eq_of_lt h]
      have : t = 0 ∨ t = 1 ∨ t = 2 := by omega
      rcases this with rfl | rfl | rfl <;> rfl
    · rw [List.getElem?_append_right (by show 3 ≤ t; exact h)]
      show (l.flatMap encQ)[t - 3]? = _
      obtain ⟨u, rfl⟩ : ∃ u, t = u + 3 := ⟨t - 3, by omega⟩
      rw [Nat.add_sub_cancel, encQ_at l u, show (u + 3) / 3 = u / 3 + 1 from by omega, show (u + 3) % 3 = u % 3 from by omega, List.getElem?_cons_succ]
theorem flatQ (d : Array C3) : (flatK encQ 3 d).toList = d.toList.flatMap encQ := by
  apply List.ext_getElem?
  intro t
  rw [encQ_at]
  unfold flatK
  rw [Array.getElem?_toList, Array.getElem?_map, Array.getElem?_toList]
  rcases Nat.lt_or_ge t (d.size * 3) with h | h
  · have h3 : t / 3 < d.size := by omega
    rw [Array.getElem?_range, if_pos h, Array.getElem?_eq_getElem h3]
    simp [h3]
  · rw [Array.getElem?_range, if_neg (by omega), Array.getElem?_eq_none (by omega)]
    rfl
theorem rdl_x {m : Lim} {w : World} : ∀ {xs l : List Value}, RdL m w xs (l.map V.x) → xs = l
  | [], [], _ => rfl
  | x :: xs, y :: l, h => by
    have h1 : Rd m w x (.x y) := h.1
    cases h1
    rw [rdl_x h.2]
theorem rdl_of {m : Lim} {w : World} : ∀ l : List Value, RdL m w l (l.map V.x)
  | [] => trivial
  | _ :: l => ⟨.x _, rdl_of l⟩
theorem holds_box {m : Lim} {w : World} {blk : Nat} {d : Array C3} (h : BoxAt m w blk (rowQ d)) : HoldsK encQ 3 w blk 0 d := by
  obtain ⟨_, vals, ty, xs, rest, hh, hv, hr⟩ := h
  rw [rowQ_vals] at hr
  have hx := rdl_x hr
  subst hx
  intro j hj
  have hlen : (flatK encQ 3 d).size = d.size * 3 := by simp [flatK]
  have e : vals[j]? = (flatK encQ 3 d)[j]? := by
    rw [← Array.getElem?_toList, hv, ← flatQ, List.getElem?_append_left (by simpa using hj), Array.getElem?_toList]
  refine ⟨?_, by simp [World.frozen?, hh]⟩
  rw [Nat.zero_add, Box.cell hh, e, Array.getElem?_eq_getElem hj]
  exact congrArg some (getElem!_pos _ j hj).symm
theorem row_afterQ {w1 : World} {n g : Nat} {d : Array Value} {os : Array Obj} {cur : Array Value} {ty : TypeId} {fr : Nat × Nat} (hh : w1.heap[g]? = some (.cells cur ty fr)) :
    (Go.Sort.grow (Go.Sort.putRow id (Go.Sort.ahead w1 n) g 0 d) os).heap[g]? = some (.cells (Go.Sort.putCells id 0 d cur) ty fr) ∧ ∀ k, k < w1.heap.size → k ≠ g → (Go.Sort.grow (Go.Sort.putRow id (Go.Sort.ahead w1 n) g 0 d) os).heap[k]? = w1.heap[k]? := by
  have hsz : (Go.Sort.putRow id (Go.Sort.ahead w1 n) g 0 d).heap.size = w1.heap.size := by simp [Go.Sort.putRow, Go.Sort.mapBlock, Go.Sort.ahead]
  refine ⟨?_, fun k hk hn => ?_⟩
  · rw [Go.Sort.heap_grow_old _ _ (by rw [hsz]; exact heap_lt hh)]
    show (w1.heap.modify g (Go.Sort.onCells (Go.Sort.putCells id 0 d)))[g]? = _
    rw [Array.getElem?_modify, if_pos rfl, hh]
    rfl
  · rw [Go.Sort.heap_grow_old _ _ (by rw [hsz]; exact hk)]
    show (w1.heap.modify g (Go.Sort.onCells (Go.Sort.putCells id 0 d)))[k]? = _
    rw [Array.getElem?_modify, if_neg (fun e => hn e.symm)]
/-- Behind what wrote the row, and made memory. -/
theorem box_after {m : Lim} {w : World} {blk n : Nat} {d d' : Array C3} {os : Array Obj} (h : BoxAt m w blk (rowQ d)) (hs : d'.size = d.size) :
    BoxAt m (Go.Sort.grow (putRowK encQ 3 (Go.Sort.ahead w n) blk 0 d') os) blk (rowQ d') ∧ Bel [blk] w (Go.Sort.grow (putRowK encQ 3 (Go.Sort.ahead w n) blk 0 d') os) ∧ Ext m w m (Go.Sort.grow (putRowK encQ 3 (Go.Sort.ahead w n) blk 0 d') os) := by
  obtain ⟨hlim, vals, ty, xs, rest, hh, hv, hr⟩ := h
  rw [rowQ_vals] at hr
  have hx := rdl_x hr
  subst hx
  have hfl : (flatK encQ 3 d').size = d.size * 3 := by simp [flatK, hs]
  have hvl : d.size * 3 ≤ vals.size := by
    have h1 := congrArg List.length hv
    rw [← flatQ] at h1
    have h2 : (flatK encQ 3 d).size = d.size * 3 := by simp [flatK]
    simp only [Array.length_toList, List.length_append] at h1
    omega
  have hsz : w.heap.size ≤ (Go.Sort.grow (putRowK encQ 3 (Go.Sort.ahead w n) blk 0 d') os).heap.size := by simp [putRowK, Go.Sort.putRow, Go.Sort.mapBlock, Go.Sort.grow, Go.Sort.ahead]
  obtain ⟨r1, r2⟩ := row_afterQ (w1 := w) (n := n) (d := flatK encQ 3 d') (os := os) hh
  have hbel : Bel [blk] w (Go.Sort.grow (putRowK encQ 3 (Go.Sort.ahead w n) blk 0 d') os) := ⟨rfl, rfl, rfl, hsz, fun k hk hn => r2 k hk (by simpa using hn)⟩
  refine ⟨⟨hlim, _, ty, (flatK encQ 3 d').toList, vals.toList.drop (d.size * 3), r1, ?_, ?_⟩, hbel, ⟨hsz, fun b off v hb hm hc => ?_, fun b hb fr hf => ⟨fr, hf, Nat.le_refl _⟩⟩⟩
  · apply List.ext_getElem?
    intro j
    rw [Array.getElem?_toList, Go.Sort.putCells, Array.getElem?_mapIdx]
    rcases Nat.lt_or_ge j (d.size * 3) with h | h
    · rw [List.getElem?_append_left (by simpa [hfl] using h), Array.getElem?_eq_getElem (by omega), Array.getElem?_toList, Array.getElem?_eq_getElem (by omega)]
      simp [hfl, h]
    · rw [List.getElem?_append_right (by simpa [hfl] using h), List.getElem?_drop]
      simp only [Array.length_toList, hfl]
      rw [show d.size * 3 + (j - d.size * 3) = j from by omega, Array.getElem?_toList]
      cases vals[j]? with
      | none => rfl
      | some v =>
        simp only [Option.map_some]
        rw [if_neg (by omega)]
  · rw [rowQ_vals, flatQ]
    exact rdl_of _
  · by_cases e : b = blk
    · subst e
      exact absurd (hm 0 hlim) (Nat.not_lt_zero _)
    · exact (cell_block (j := off) (r2 b hb e)).trans hc
theorem two_of {vs : Array Value} {m : Lim} {w : World} {K : Nat} {p : Value} {bs gs hs : List Nat} {a b c : V} (h : ArgsP m w K (vs.toList ++ [p]) [a, b, c] bs gs hs) : ∃ v1 v2, vs = #[v1, v2] := by
  have hl := h.len
  simp only [List.length_append, Array.length_toList, List.length_cons, List.length_nil] at hl
  obtain ⟨l⟩ := vs
  match l, hl with
  | [v1, v2], _ => exact ⟨v1, v2, rfl⟩
theorem three_of {vs : Array Value} {m : Lim} {w : World} {K : Nat} {p : Value} {bs gs hs : List Nat} {a b c d : V} (h : ArgsP m w K (vs.toList ++ [p]) [a, b, c, d] bs gs hs) : ∃ v1 v2 v3, vs = #[v1, v2, v3] := by
  have hl := h.len
  simp only [List.length_append, Array.length_toList, List.length_cons, List.length_nil] at hl
  obtain ⟨l⟩ := vs
  match l, hl with
  | [v1, v2, v3], _ => exact ⟨v1, v2, v3, rfl⟩
section
variable {G : Nat → V} {bk N : Nat} {g sf : FuncId} {gl gs : Array Value}
theorem swap_X (hsw : SwapSwapsK Try.prog sf gs encQ 3 bk 0 N) : FunXV G bk sf gs.toList (FE en2 (GSwp N)) := by
  intro m w vs us bs gs' hs r outs hF hargs hnd hhnd hj hg
  obtain ⟨⟨i, j, d⟩, hus, hG⟩ := FE_out hF
  subst hus
  unfold GSwp at hG
  obtain ⟨⟨hi, hjj, hd⟩, hG⟩ := ite_some hG
  simp only at hi hjj hd
  cases hG
  obtain ⟨v1, v2, rfl⟩ := two_of hargs
  simp only [en2] at hargs
  cases hargs with
  | dat hr1 hd1 h1 =>
    cases h1 with
    | dat hr2 hd2 h2 =>
      cases h2 with
      | dat hr3 hd3 h3 => cases hd3
      | bx hb hK h3 =>
        cases h3
        cases hr1
        cases hr2
        have hH := holds_box hb
        have hrun := hsw w d hH hd i j hi hjj
        have hw : w = (putRowK encQ 3 (Go.Sort.ahead w 0) bk 0 d).drewN 0 := by
          rw [Go.Sort.ahead_zero, Go.Sort.putRowK_self encQ 3 w bk 0 d hH]
          rfl
        have hsw2 := Go.Sort.swap_worldK encQ 3 (fun _ => rfl) w 0 0 bk 0 d i j (by omega) (by omega)
        rw [← hw] at hsw2
        rw [hsw2] at hrun
        have hgr : putRowK encQ 3 (Go.Sort.ahead w (0 + 0)) bk 0 (swp d i j) = Go.Sort.grow (putRowK encQ 3 (Go.Sort.ahead w 0) bk 0 (swp d i j)) #[] := by rw [Go.Sort.grow_empty]
        rw [hgr] at hrun
        obtain ⟨b1, b2, b3⟩ := box_after (n := 0) (os := #[]) hb (swp_size d i j)
        refine .inr ⟨_, _, hrun, m, .tup #[] [] rfl (fun i v u h => by simp at h), b2, b3, fun _ _ _ => rfl, ⟨[rowQ (swp d i j)], [], by simp, ⟨b1, trivial⟩, trivial⟩, fun sz es k e => by cases e⟩
theorem brk_X (hN : N ≤ MX) (hsw : SwapSwapsK Try.prog sf gs encQ 3 bk 0 N) : FunXV G bk 69 [] (FE (enD2 g sf gl gs) (GBrk N)) := by
  intro m w vs us bs gs' hs r outs hF hargs hnd hhnd hj hg
  obtain ⟨⟨a, b, d⟩, hus, hG⟩ := FE_out hF
  subst hus
  unfold GBrk at hG
  obtain ⟨⟨hab, hbN, hd⟩, hG⟩ := ite_some hG
  simp only at hab hbN hd
  cases hG
  obtain ⟨v1, v2, v3, rfl⟩ := three_of hargs
  simp only [enD2] at hargs
  cases hargs with
  | dat hr1 hd1 h1 =>
    cases h1 with
    | dat hr2 hd2 h2 =>
      cases h2 with
      | dat hr3 hd3 h3 =>
        cases h3 with
        | dat hr4 hd4 h4 => cases hd4
        | bx hb hK h4 =>
          cases h4
          cases hr2
          cases hr3
          obtain ⟨cs, rfl, hcs⟩ := Rd.agg_iff.1 hr1
          have e : cs = #[.func (.func g) #[] gl, .func (.func sf) #[] gs] := by
            apply Array.toList_inj.1
            exact rdl_x (l := [.func (.func g) #[] gl, .func (.func sf) #[] gs]) hcs
          subst e
          have hH := holds_box hb
          have hblk : bk < w.heap.size := by
            obtain ⟨_, _, _, _, _, hhb, _⟩ := hb
            exact heap_lt hhb
          have hc := Any.breakPatterns_func_cells_w (P := Try.prog) (ρ := Try.laysGg14_ren) { Try.laysGg14 with } encQ 3 (fun _ => rfl) (.func g) #[] gl sf gs bk 0 a b d w (by rw [hd]; exact hsw) hH hblk hab (by omega) (by unfold MX at hN; omega)
          change Calls Try.prog 69 _ _ _ at hc
          refine .inl ⟨Try.call69 _ _, ?_⟩
          rw [show (#[Value.agg #[.func (.func g) #[] gl, .func (.func sf) #[] gs], .int .i64 (a : Int), .int .i64 (b : Int)] ++ (⟨[]⟩ : Array Value)) = #[.agg #[.func (.func g) #[] gl, .func (.func sf) #[] gs], .int .i64 (a : Int), .int .i64 (b : Int)] from Array.append_empty]
          refine hc.mono ?_
          rintro e w' ⟨rfl, n, os, rfl⟩
          obtain ⟨b1, b2, b3⟩ := box_after (n := n) (os := os) hb ((Go.Sort.breakPatterns_holds d a b hab (by omega)).1)
          exact ⟨_, rfl, m, .tup #[] [] rfl (fun i v u h => by simp at h), b2, b3, fun _ _ _ => rfl, ⟨[rowQ (Go.Sort.breakPatterns d a b)], [], by simp, ⟨b1, trivial⟩, trivial⟩, fun sz es k e => by cases e⟩
end
/-- The comparison that refs.Cells hands on. -/
def FLs : List V → Option V
  | [.x (.int .i64 i), .x (.int .i64 j), .ip [.sl false 3 es none]] => match es[i.toNat]?, es[j.toNat]? with
    | some (.agg [.x (.string s), .x (.int .i64 c), .x (.int .i64 r)]), some (.agg [.x (.string s'), .x (.int .i64 c'), .x (.int .i64 r')]) => if 0 ≤ i ∧ 0 ≤ j then some (.x (.bool (lessC s c r s' c' r'))) else none
    | _, _ => none
  | _ => none
set_option maxHeartbeats 4000000 in
set_option maxRecDepth 100000 in
theorem ls_fun : FunV 29 FLs := by
  refine fun_of_run (E := envOf [(30, FLess)]) (k := 3) (envOK_of _ ⟨less_fun, trivial⟩) (by kernel_rfl) Try.func29 rfl (fun a w => Try.call29 a w) Try.ntmps29 (by kernel_rfl) (by decide) (by decide) ?_
  intro us r hF hdat
  unfold FLs at hF
  split at hF
  case h_2 => cases hF
  rename_i i j es
  split at hF
  case h_2 => cases hF
  rename_i s c r s' c' r' hi hj
  obtain ⟨⟨h0, h1⟩, hF⟩ := ite_some hF
  cases hF
  refine ⟨rfl, ?_⟩
  have e1 : FLess [.agg [.x (.string s), .x (.int .i64 c), .x (.int .i64 r)], .agg [.x (.string s'), .x (.int .i64 c'), .x (.int .i64 r')]] = some (.x (.bool (lessC s c r s' c' r'))) := rfl
  simp (decide := true) (maxDischargeDepth := 200) only [go_sem, h0, h1, hi, hj, e1, Try.results29]
end Go.Proofs.Ytiphliochoengaa

/- sort.Slice of cells. -/
namespace Go.Proofs.Ytiphliochoengaa
open Go Go.RowKit
open Go.Sort (swp)
set_option linter.unusedSimpArgs false
open Go.Sort (putRowK HoldsK flatK PermIn SortedIn)
theorem less_lc (p q : C3) : lessP p q = lessC p.1 p.2.1 p.2.2 q.1 q.2.1 q.2.2 := rfl
/-- The row, looked at through the variable that the comparison is bound to. -/
theorem rd_rowQ {m : Lim} {w : World} {bk Bk N cap : Nat} {d : Array C3} (hb : BoxAt m w bk (rowQ d)) (hd : d.size = N) (hcap : N ≤ cap) (hB : Rd m w (.pointer (some ⟨Bk, 0, none⟩)) (.ip [.x (.slice (some ⟨bk, 0, none⟩) N cap)])) : Rd (fun _ => none) w (.pointer (some ⟨Bk, 0, none⟩)) (.ip [.sl false 3 (d.toList.map cellV) none]) := by
  have hH := holds_box hb
  have hblk : bk < w.heap.size := by
    obtain ⟨_, _, _, _, _, hhb, _⟩ := hb
    exact heap_lt hhb
  have hlen : (flatK encQ 3 d).size = d.size * 3 := by simp [flatK]
  have hl : (d.toList.map cellV).length = N := by simpa using hd
  have hsl : Rd (fun _ => none) w (.slice (some ⟨bk, 0, none⟩) (d.toList.map cellV).length cap) (.sl false 3 (d.toList.map cellV) none) := by
    refine .sl bk 0 cap 3 _ none (fun k => (flatK encQ 3 d)[k]!) hblk (by omega) (fun i e he => ?_) (fun k hk => ?_) (fun fr hf => by cases hf) (fun i e he j dd hj => ?_)
    · rw [List.getElem?_map] at he
      obtain ⟨p, _, rfl⟩ := Option.map_eq_some_iff.1 he
      rfl
    · exact (hH k (by rw [hlen]; simp at hk; omega)).1
    · rw [List.getElem?_map] at he
      obtain ⟨p, hp, rfl⟩ := Option.map_eq_some_iff.1 he
      have hil : i < d.size := by simpa using (List.getElem?_eq_some_iff.1 hp).1
      have hdi : d[i]! = p := by
        rw [List.getElem?_eq_getElem (by simpa using hil)] at hp
        rw [getElem!_pos d i hil]
        simpa using hp
      have hj3 : j < 3 := (List.getElem?_eq_some_iff.1 hj).1
      have e : (flatK encQ 3 d)[i * 3 + j]! = (encQ p)[j]! := by
        rw [Go.Sort.get_flatK _ _ _ _ (by omega), show (i * 3 + j) / 3 = i from by omega, show (i * 3 + j) % 3 = j from by omega, hdi]
      show Rd _ w ((flatK encQ 3 d)[i * 3 + j]!) dd
      rw [e]
      have : j = 0 ∨ j = 1 ∨ j = 2 := by omega
      rcases this with rfl | rfl | rfl <;> (cases hj; exact .x _)
  rw [hl] at hsl
  cases hB with
  | ip blk off cs c hbB hc hm hr =>
    have h0 : Rd m w (c 0) (.x (.slice (some ⟨bk, 0, none⟩) N cap)) := hr 0 _ rfl
    have hc0 := Rd.x_iff.1 h0
    refine .ip Bk 0 _ c hbB (fun k hk => hc k hk) (fun fr hf => by cases hf) (fun k dd hk => ?_)
    cases k with
    | zero => cases hk; rw [hc0]; exact hsl
    | succ k => simp at hk
section
variable {G : Nat → V} {bk Bk N cap : Nat}
theorem less_X (hcap : N ≤ cap) (hG : G Bk = .ip [.x (.slice (some ⟨bk, 0, none⟩) N cap)]) : FunXV G bk 29 [.pointer (some ⟨Bk, 0, none⟩)] (FE en2 (GLess N)) := by
  intro m w vs us bs gs' hs r outs hF hargs hnd hhnd hj hg
  obtain ⟨⟨i, j, d⟩, hus, hGl⟩ := FE_out hF
  subst hus
  unfold GLess at hGl
  obtain ⟨⟨hi, hjj, hd⟩, hGl⟩ := ite_some hGl
  simp only at hi hjj hd
  cases hGl
  obtain ⟨v1, v2, rfl⟩ := two_of hargs
  simp only [en2] at hargs
  cases hargs with
  | dat hr1 hd1 h1 =>
    cases h1 with
    | dat hr2 hd2 h2 =>
      cases h2 with
      | dat hr3 hd3 h3 => cases hd3
      | bx hb hK h3 =>
        cases h3
        cases hr1
        cases hr2
        have hB : Rd m w (.pointer (some ⟨Bk, 0, none⟩)) (.ip [.x (.slice (some ⟨bk, 0, none⟩) N cap)]) := by
          have := hg Bk
          have e : (envX G (fun _ _ => none) 0).G Bk = .ip [.x (.slice (some ⟨bk, 0, none⟩) N cap)] := hG
          rw [e] at this
          exact this
        have hip := rd_rowQ hb hd hcap hB
        obtain ⟨p, hp⟩ : ∃ p, d.toList[i]? = some p := ⟨_, List.getElem?_eq_getElem (by simpa using (show i < d.size by omega))⟩
        obtain ⟨q, hq⟩ : ∃ q, d.toList[j]? = some q := ⟨_, List.getElem?_eq_getElem (by simpa using (show j < d.size by omega))⟩
        have hat : ∀ (k : Nat) (p : C3), k < d.size → d.toList[k]? = some p → d[k]! = p := fun k p hk h => by
          rw [List.getElem?_eq_getElem (by simpa using hk)] at h
          rw [getElem!_pos d k hk]
          simpa using h
        have hpe := hat i p (by omega) hp
        have hqe := hat j q (by omega) hq
        have hFL : FLs [.x (.int .i64 (i : Int)), .x (.int .i64 (j : Int)), .ip [.sl false 3 (d.toList.map cellV) none]] = some (.x (.bool (lessP d[i]! d[j]!))) := by
          rw [hpe, hqe, less_lc]
          simp only [FLs, cell_at hp, cell_at hq, cellV_mk]
          rw [if_pos ⟨by omega, by omega⟩]
        have hcalls := ls_fun.2 (fun _ => none) w #[.int .i64 (i : Int), .int .i64 (j : Int), .pointer (some ⟨Bk, 0, none⟩)] _ _ hFL rfl ⟨.x _, .x _, hip, trivial⟩ hj (fun g => .undef _)
        refine .inl ⟨ls_fun.1 _ _, ?_⟩
        refine hcalls.mono ?_
        rintro e w' ⟨v, m', rfl, hv, hbel, _⟩
        cases hv
        have hblk : bk < w.heap.size := by
          obtain ⟨_, _, _, _, _, hhb, _⟩ := hb
          exact heap_lt hhb
        have hbx : BoxAt m w' bk (rowQ d) := by
          obtain ⟨hlim, vals, ty, xs, rest, hh, hv, hr⟩ := hb
          rw [rowQ_vals] at hr
          have hx := rdl_x hr
          subst hx
          exact ⟨hlim, vals, ty, _, rest, (hbel.block bk hblk).trans hh, hv, by rw [rowQ_vals]; exact rdl_of _⟩
        exact ⟨_, rfl, m, .x _, ⟨hbel.os, hbel.tape, hbel.output, hbel.size, fun k hk _ => hbel.block k hk⟩, Ext.of_below hbel (fun _ _ => rfl), fun _ _ _ => rfl, ⟨[rowQ d], [], by simp, ⟨hbx, trivial⟩, trivial⟩, fun sz es k e => by cases e⟩
end
noncomputable def cellI : TypeInfo := (Try.prog.info? 25).get (by kernel_rfl)
noncomputable def cellsI : TypeInfo := (Try.prog.info? 32).get (by kernel_rfl)
theorem swK (n : Nat) (h : 2 ≤ n) : Lib.swapperK n cellI 25 = 9 := by
  have a : cellI.hasPointers = true := by kernel_rfl
  have b : cellI.bytes = 32 := by kernel_rfl
  have c : (n == 0) = false := by simp; omega
  have d : (n == 1) = false := by simp; omega
  simp [Lib.swapperK, a, b, c, d]
set_option maxHeartbeats 8000000 in
set_option maxRecDepth 100000 in
/-- sort.Slice, as refs.Cells calls it. -/
theorem sortC {w : World} {blk Bk cap : Nat} {d : Array C3} {cur : Array Value} {ty tyB : TypeId} (hh : w.heap[blk]? = some (.cells cur ty (0, 0))) (hcur : ∃ rest, cur.toList = d.toList.flatMap encQ ++ rest) {vals : Array Value} (hB : w.heap[Bk]? = some (.cells vals tyB (0, 0))) (hB0 : vals[0]? = some (.slice (some ⟨blk, 0, none⟩) d.size cap)) (hne : Bk ≠ blk) (hcap : d.size ≤ cap) (hN : d.size ≤ MX) (hK : globK ≤ blk) (hj : (envOf []).J w) :
    Calls Try.prog 28 #[.iface 32 (.slice (some ⟨blk, 0, none⟩) d.size cap), .func (.func 29) #[] #[.pointer (some ⟨Bk, 0, none⟩)]] w fun e w' => e = .returned (.tuple #[]) ∧ ∃ d' : Array C3, PermIn 0 d.size d d' ∧ SortedIn lessP 0 d.size d' ∧ Bel [blk] w w' ∧ ∃ m', BoxAt m' w' blk (rowQ d') := by
  have hi : Try.prog.info? 32 = some cellsI := by kernel_rfl
  have hdd : cellsI.desc = .slice 25 := by kernel_rfl
  have hie : Try.prog.info? 25 = some cellI := by kernel_rfl
  have hke : ∀ w, (Extern.Rtype.kind 25).run Try.prog w = .ok 25 w := fun _ => by kernel_rfl
  obtain ⟨rest, hcur⟩ := hcur
  have hN1 : d.size ≤ 1000000 := hN
  let m : Lim := fun b => if b = blk then some 0 else none
  have hbx : ∀ w2 : World, w2.heap[blk]? = w.heap[blk]? → BoxAt m w2 blk (rowQ d) := fun w2 e => ⟨if_pos rfl, cur, ty, _, rest, e.trans hh, hcur, by rw [rowQ_vals]; exact rdl_of _⟩
  have hblk := heap_lt hh
  have hBk := heap_lt hB
  by_cases h2 : 2 ≤ d.size
  · let G : Nat → V := fun b => if b = Bk then .ip [.x (.slice (some ⟨blk, 0, none⟩) d.size cap)] else .undef
    have hG : G Bk = .ip [.x (.slice (some ⟨blk, 0, none⟩) d.size cap)] := if_pos rfl
    have hx : ∀ args W, (callFunc 64 args).run Try.prog W = ((Extern.ReflectliteSwapper.swap false args).run Try.prog W).andThen fun v w' => .ok (.value v) w' := fun args W => run_callFunc_extern Try.func64 (by kernel_rfl) (by kernel_rfl) (by kernel_rfl) (e := Extern.ReflectliteSwapper.swap false) (by kernel_rfl) args W
    have hsw := swapSwapsK_of_literal (P := Try.prog) false 64 hx 25 cellI hie encQ 3 (fun _ => rfl) (by kernel_rfl) (fun _ => by kernel_rfl) (fun p v hv => by
      simp only [encQ, List.mem_cons, List.not_mem_nil, or_false] at hv
      rcases hv with rfl | rfl | rfl <;> rfl) blk 0 d.size cap
    have hS : SoOK G blk d.size 29 64 #[.pointer (some ⟨Bk, 0, none⟩)] #[.slice (some ⟨blk, 0, none⟩) d.size cap, typeHandle Try.prog 25] := ⟨by simp, by simp, by decide, hN, less_X hcap hG, swap_X hsw⟩
    have hP := pdq_X hS (brk_X hN hsw) (d.size + 1)
    refine Any.sort_Slice_of_pdq (P := Try.prog) (ρ := Try.laysGg6_ren) Try.laysGg6 32 25 cellsI cellI hi hdd (by kernel_rfl) hie 25 hke (some ⟨blk, 0, none⟩) d.size cap (by unfold MX at hN; omega) 64 (by rw [swK _ h2]; kernel_rfl) (.func 29) #[] #[.pointer (some ⟨Bk, 0, none⟩)] w _ ?_
    have hsb : sliceBound Try.prog 25 cellI 25 (some ⟨blk, 0, none⟩) d.size cap = #[.slice (some ⟨blk, 0, none⟩) d.size cap, typeHandle Try.prog 25] := by
      unfold sliceBound; rw [swK _ h2]; rfl
    rw [hsb]
    generalize hW : sliceWorld Try.prog Try.laysGg6_ren 32 (some ⟨blk, 0, none⟩) d.size cap w = W
    have hbel : Below w.heap.size w W := by
      rw [← hW]
      unfold sliceWorld
      exact ((Below.refl _ w).alloc (Nat.le_refl _) _).alloc (by simp) _
    have hjW : (envOf []).J W := Glob.low hj hbel.size ⟨hbel.os, hbel.tape, hbel.output, hbel.size, fun k hk => hbel.block k (Nat.lt_of_lt_of_le hk (Glob.high hj))⟩
    have hb := hbx W (hbel.block blk hblk)
    have hl62 : Lib.bitLen d.size ≤ 62 := Lib.bitLen_le d.size 62 (by omega) (by omega)
    have hF := pdq_at (g := 29) (sf := 64) (gl := #[.pointer (some ⟨Bk, 0, none⟩)]) (gs := #[.slice (some ⟨blk, 0, none⟩) d.size cap, typeHandle Try.prog 25]) (N := d.size) (d.size + 1) 0 d.size (Lib.bitLen d.size) d (by omega) (by omega) (Nat.le_refl _) (by omega) rfl (.inl rfl)
    have hargs : ArgsP m W globK [.agg #[.func (.func 29) #[] #[.pointer (some ⟨Bk, 0, none⟩)], .func (.func 64) #[] #[.slice (some ⟨blk, 0, none⟩) d.size cap, typeHandle Try.prog 25]], .int .i64 ((0 : Nat) : Int), .int .i64 (d.size : Int), .int .i64 (Lib.bitLen d.size : Int), .pointer (some ⟨blk, 0, none⟩)] [dataV 29 64 #[.pointer (some ⟨Bk, 0, none⟩)] #[.slice (some ⟨blk, 0, none⟩) d.size cap, typeHandle Try.prog 25], .x (.int .i64 ((0 : Nat) : Int)), .x (.int .i64 (d.size : Int)), .x (.int .i64 (Lib.bitLen d.size : Int)), .bx (rowQ d)] [blk] [] [] :=
      .dat (Rd.agg_iff.2 ⟨_, rfl, .x _, .x _, trivial⟩) rfl (.dat (.x _) rfl (.dat (.x _) rfl (.dat (.x _) rfl (.bx hb hK .nil))))
    have hgl : ∀ g, Rd m W (.pointer (some ⟨g, 0, none⟩)) (G g) := fun b => by
      show Rd m W _ (if b = Bk then _ else _)
      split
      · rename_i e
        subst e
        have hBW := (hbel.block b hBk).trans hB
        refine .ip b 0 _ (fun _ => .slice (some ⟨blk, 0, none⟩) d.size cap) (heap_lt hBW) (fun k hk => ?_) (fun fr hf => ?_) (fun k dd hk => ?_)
        · have : k = 0 := by simpa using hk
          subst this
          rw [Box.cell hBW]
          exact hB0
        · have : m b = none := if_neg hne
          rw [this] at hf; cases hf
        · cases k with
          | zero => cases hk; exact .x _
          | succ k => simp at hk
      · exact .undef _
    rcases hP m W #[.agg #[.func (.func 29) #[] #[.pointer (some ⟨Bk, 0, none⟩)], .func (.func 64) #[] #[.slice (some ⟨blk, 0, none⟩) d.size cap, typeHandle Try.prog 25]], .int .i64 ((0 : Nat) : Int), .int .i64 (d.size : Int), .int .i64 (Lib.bitLen d.size : Int)] _ [blk] [] [] _ _ hF hargs (by simp) (by simp) hjW hgl with ⟨_, hc⟩ | ⟨v, w', he, _⟩
    · rw [show ∀ a : Array Value, a ++ (⟨[]⟩ : Array Value) = a from fun a => Array.append_empty] at hc
      refine hc.mono ?_
      rintro e w' ⟨v, rfl, m', hv, hb2, _, _, ⟨o1, o2, ho, hou, _⟩, _⟩
      have hs := Go.Sort.pdq_sorts lessP swo_less d 0 d.size (Lib.bitLen d.size) true true (Nat.zero_le _) (Nat.le_refl _) (.inl rfl)
      have hvt : v = .tuple #[] := by
        obtain ⟨cs, rfl, hcs⟩ := Rd.tup_iff.1 hv
        have := hcs.length
        simp only [Array.length_toList, List.length_nil] at this
        rw [Array.eq_empty_of_size_eq_zero this]
      subst hvt
      refine ⟨rfl, _, hs.1, hs.2, ⟨hb2.os.trans hbel.os, hb2.tape.trans hbel.tape, hb2.output.trans hbel.output, Nat.le_trans hbel.size hb2.size, fun k hk hn => (hb2.block k (Nat.lt_of_lt_of_le hk hbel.size) (by simpa using hn)).trans (hbel.block k hk)⟩, m', ?_⟩
      cases o1 with
      | nil => exact hou.elim
      | cons c o1 =>
        obtain ⟨e, _⟩ := List.cons.inj (show [rowQ _] = c :: (o1 ++ o2) from ho)
        rw [e]
        exact hou.1
    · have he2 := (Try.call47 _ _).symm.trans he
      cases he2
  · have hz : d.size = 0 ∨ d.size = 1 := by omega
    have hf : ∃ f, Try.prog.funcs.findIdx? (·.name == "internal/reflectlite" ++ ".Swapper$" ++ toString (Lib.swapperK d.size cellI 25)) = some f := by
      rcases hz with e | e
      · exact ⟨56, by rw [e]; kernel_rfl⟩
      · exact ⟨57, by rw [e]; kernel_rfl⟩
    obtain ⟨f, hf⟩ := hf
    refine (Any.sort_Slice_tiny (P := Try.prog) (ρ := Try.laysGg6_ren) Try.laysGg6 32 25 cellsI cellI hi hdd (by kernel_rfl) hie 25 hke (some ⟨blk, 0, none⟩) d.size cap (by omega) f hf (.func 29) #[] #[.pointer (some ⟨Bk, 0, none⟩)] w).mono ?_
    rintro e w' ⟨rfl, os, rfl⟩
    refine ⟨rfl, d, Go.Sort.permIn_refl d _ _, fun i j _ h1 h3 => by omega, ⟨rfl, rfl, rfl, by simp [Go.Sort.grow], fun k hk _ => Go.Sort.heap_grow_old _ _ hk⟩, m, hbx _ (Go.Sort.heap_grow_old _ _ hblk)⟩
/-- .. of nothing. -/
theorem sortN {w : World} {Bk : Nat} : Calls Try.prog 28 #[.iface 32 (.slice none 0 0), .func (.func 29) #[] #[.pointer (some ⟨Bk, 0, none⟩)]] w fun e w' => e = .returned (.tuple #[]) ∧ ∃ os, w' = Go.Sort.grow w os := by
  have hi : Try.prog.info? 32 = some cellsI := by kernel_rfl
  have hdd : cellsI.desc = .slice 25 := by kernel_rfl
  have hie : Try.prog.info? 25 = some cellI := by kernel_rfl
  have hke : ∀ w, (Extern.Rtype.kind 25).run Try.prog w = .ok 25 w := fun _ => by kernel_rfl
  exact Any.sort_Slice_tiny (P := Try.prog) (ρ := Try.laysGg6_ren) Try.laysGg6 32 25 cellsI cellI hi hdd (by kernel_rfl) hie 25 hke none 0 0 (by omega) 56 (by kernel_rfl) (.func 29) #[] #[.pointer (some ⟨Bk, 0, none⟩)] w
/-- The row, as data, wherever its block is not to be written any more. -/
theorem rd_row {w : World} {bk cap : Nat} {d : Array C3} {m0 : Lim} (hb : BoxAt m0 w bk (rowQ d)) (hcap : d.size ≤ cap) (m : Lim) (hm : m bk = none) : Rd m w (.slice (some ⟨bk, 0, none⟩) d.size cap) (.sl false 3 (d.toList.map cellV) none) := by
  have hH := holds_box hb
  have hblk : bk < w.heap.size := by
    obtain ⟨_, _, _, _, _, hhb, _⟩ := hb
    exact heap_lt hhb
  have hlen : (flatK encQ 3 d).size = d.size * 3 := by simp [flatK]
  have hl : (d.toList.map cellV).length = d.size := by simp
  have hsl : Rd m w (.slice (some ⟨bk, 0, none⟩) (d.toList.map cellV).length cap) (.sl false 3 (d.toList.map cellV) none) := by
    refine .sl bk 0 cap 3 _ none (fun k => (flatK encQ 3 d)[k]!) hblk (by omega) (fun i e he => ?_) (fun k hk => ?_) (fun fr hf => by rw [hm] at hf; cases hf) (fun i e he j dd hj => ?_)
    · rw [List.getElem?_map] at he
      obtain ⟨p, _, rfl⟩ := Option.map_eq_some_iff.1 he
      rfl
    · exact (hH k (by rw [hlen]; simp at hk; omega)).1
    · rw [List.getElem?_map] at he
      obtain ⟨p, hp, rfl⟩ := Option.map_eq_some_iff.1 he
      have hil : i < d.size := by simpa using (List.getElem?_eq_some_iff.1 hp).1
      have hdi : d[i]! = p := by
        rw [List.getElem?_eq_getElem (by simpa using hil)] at hp
        rw [getElem!_pos d i hil]
        simpa using hp
      have hj3 : j < 3 := (List.getElem?_eq_some_iff.1 hj).1
      have e : (flatK encQ 3 d)[i * 3 + j]! = (encQ p)[j]! := by
        rw [Go.Sort.get_flatK _ _ _ _ (by omega), show (i * 3 + j) / 3 = i from by omega, show (i * 3 + j) % 3 = j from by omega, hdi]
      show Rd _ w ((flatK encQ 3 d)[i * 3 + j]!) dd
      rw [e]
      have : j = 0 ∨ j = 1 ∨ j = 2 := by omega
      rcases this with rfl | rfl | rfl <;> (cases hj; exact .x _)
  rw [hl] at hsl
  exact hsl
end Go.Proofs.Ytiphliochoengaa

/- What refs.Cells gathers, plainly; a block that is not the call's own. -/
namespace Go.Proofs.Ytiphliochoengaa
open Go Go.RowKit
open Go.Sort (swp)
set_option linter.unusedSimpArgs false
open Go.Sort (PermIn SortedIn)
/-- Which range comes next. -/
def rgOf : List V → R2
  | [.agg [.x (.string a), .x (.int _ b), .x (.int _ c), .x (.string d), .x (.int _ e), .x (.int _ f)]] => ((a, b, c), (d, e, f))
  | _ => ((⟨#[]⟩, 0, 0), (⟨#[]⟩, 0, 0))
theorem rgOf_at (q : R2) : rgOf [rgV q] = q := rfl
/-- A range's cells. -/
def cellsR (q : R2) : List C3 := (cellsA q.1.1 q.1.2.1 q.1.2.2 q.2.1 q.2.2.1 q.2.2.2).getD []
def stR (S : List R2 × List C3) (q : R2) : List R2 × List C3 := if inS S.1 q = true then S else (putS S.1 q, (cellsR q).foldl putS S.2)
/-- The ranges so far, each once, and the cells. -/
def stL (pre : List (List V)) : List R2 × List C3 := pre.foldl (fun S x => stR S (rgOf x)) ([], [])
theorem stL_snoc (pre : List (List V)) (q : R2) : stL (pre ++ [[rgV q]]) = stR (stL pre) q := by simp [stL, rgOf_at]
theorem putF_mem {α : Type} [DecidableEq α] (l : List α) : ∀ (L : List α) (x : α), x ∈ l.foldl putS L ↔ x ∈ L ∨ x ∈ l := by
  induction l with
  | nil => intro L x; simp
  | cons y l ih =>
    intro L x
    rw [List.foldl_cons, ih, putS_mem, List.mem_cons, or_assoc]
theorem putF_nodup {α : Type} [DecidableEq α] (l : List α) : ∀ (L : List α), L.Nodup → (l.foldl putS L).Nodup := by
  induction l with
  | nil => exact fun L h => h
  | cons y l ih => exact fun L h => ih _ (putS_nodup h)
theorem putF_len {α : Type} [DecidableEq α] (l : List α) : ∀ (L : List α), (l.foldl putS L).length ≤ L.length + l.length := by
  induction l with
  | nil => intro L; simp
  | cons y l ih =>
    intro L
    have h1 := ih (putS L y)
    have h2 := putS_len L y
    rw [List.foldl_cons, List.length_cons]
    omega
theorem cellsR_len (q : R2) : (cellsR q).length ≤ 400 := by
  unfold cellsR cellsA
  split
  · rename_i h
    rw [Option.getD_some, cellsL_len]
    obtain ⟨_, _, _, hc, hr⟩ := okA_iff.1 h.1
    have h2 := h.2
    unfold areaN at h2
    obtain ⟨x, hx⟩ := Int.eq_ofNat_of_zero_le (show 0 ≤ q.2.2.1 - q.1.2.1 + 1 by omega)
    obtain ⟨y, hy⟩ := Int.eq_ofNat_of_zero_le (show 0 ≤ q.2.2.2 - q.1.2.2 + 1 by omega)
    rw [hx, hy] at h2 ⊢
    rw [Int.toNat_natCast, Int.toNat_natCast, Nat.mul_comm]
    omega
  · simp
theorem st_mem1 (pre : List (List V)) (q : R2) : q ∈ (stL pre).1 ↔ ∃ x ∈ pre, rgOf x = q := by
  have key : ∀ (l : List (List V)) (S : List R2 × List C3), q ∈ (l.foldl (fun S x => stR S (rgOf x)) S).1 ↔ q ∈ S.1 ∨ ∃ x ∈ l, rgOf x = q := by
    intro l
    induction l with
    | nil => intro S; simp
    | cons x l ih =>
      intro S
      have h1 : q ∈ (stR S (rgOf x)).1 ↔ q ∈ S.1 ∨ rgOf x = q := by
        unfold stR
        split
        · rename_i h
          exact ⟨.inl, fun e => e.elim id (fun e => e ▸ inS_iff.1 h)⟩
        · exact putS_mem.trans (or_congr Iff.rfl eq_comm)
      rw [List.foldl_cons, ih, h1]
      simp only [List.mem_cons, exists_eq_or_imp, or_assoc]
  rw [stL, key]; simp
theorem st_mem2 (pre : List (List V)) (p : C3) : p ∈ (stL pre).2 ↔ ∃ x ∈ pre, p ∈ cellsR (rgOf x) := by
  have key : ∀ (l : List (List V)) (S : List R2 × List C3), (∀ q ∈ S.1, ∀ p ∈ cellsR q, p ∈ S.2) → (p ∈ (l.foldl (fun S x => stR S (rgOf x)) S).2 ↔ p ∈ S.2 ∨ ∃ x ∈ l, p ∈ cellsR (rgOf x)) := by
    intro l
    induction l with
    | nil => intro S _; simp
    | cons x l ih =>
      intro S hS
      have h1 : p ∈ (stR S (rgOf x)).2 ↔ p ∈ S.2 ∨ p ∈ cellsR (rgOf x) := by
        unfold stR
        split
        · rename_i h
          exact ⟨.inl, fun e => e.elim id (hS _ (inS_iff.1 h) p)⟩
        · exact putF_mem _ _ _
      have h2 : ∀ q ∈ (stR S (rgOf x)).1, ∀ p ∈ cellsR q, p ∈ (stR S (rgOf x)).2 := by
        unfold stR
        split
        · exact hS
        · intro q hq p hp
          rcases putS_mem.1 hq with hq | hq
          · exact (putF_mem _ _ _).2 (.inl (hS q hq p hp))
          · exact (putF_mem _ _ _).2 (.inr (hq ▸ hp))
      rw [List.foldl_cons, ih _ h2, h1]
      simp only [List.mem_cons, exists_eq_or_imp, or_assoc]
  rw [stL, key _ _ (fun q hq => by cases hq)]; simp
theorem st_nodup (pre : List (List V)) : (stL pre).1.Nodup ∧ (stL pre).2.Nodup := by
  have key : ∀ (l : List (List V)) (S : List R2 × List C3), S.1.Nodup → S.2.Nodup → (l.foldl (fun S x => stR S (rgOf x)) S).1.Nodup ∧ (l.foldl (fun S x => stR S (rgOf x)) S).2.Nodup := by
    intro l
    induction l with
    | nil => exact fun S h1 h2 => ⟨h1, h2⟩
    | cons x l ih =>
      intro S h1 h2
      rw [List.foldl_cons]
      refine ih _ ?_ ?_
      · unfold stR
        split
        · exact h1
        · exact putS_nodup h1
      · unfold stR
        split
        · exact h2
        · exact putF_nodup _ _ h2
  exact key pre _ List.nodup_nil List.nodup_nil
theorem st_len2 (pre : List (List V)) : (stL pre).2.length ≤ 400 * (stL pre).1.length := by
  have key : ∀ (l : List (List V)) (S : List R2 × List C3), S.2.length ≤ 400 * S.1.length → (l.foldl (fun S x => stR S (rgOf x)) S).2.length ≤ 400 * (l.foldl (fun S x => stR S (rgOf x)) S).1.length := by
    intro l
    induction l with
    | nil => exact fun S h => h
    | cons x l ih =>
      intro S h
      rw [List.foldl_cons]
      refine ih _ ?_
      unfold stR
      split
      · exact h
      · rename_i hn
        have h1 := putF_len (cellsR (rgOf x)) S.2
        have h2 := cellsR_len (rgOf x)
        have h3 : (putS S.1 (rgOf x)).length = S.1.length + 1 := by
          have hn2 : ¬ rgOf x ∈ S.1 := fun h => hn (inS_iff.2 h)
          unfold putS
          rw [if_neg hn2]
          simp
        simp only [h3]
        omega
  exact key pre _ (by simp)
theorem st_ranges {nd : Nd} {xs : List (List V)} (h : OkQ nd xs) (q : R2) (hq : q ∈ (stL xs).1) : q ∈ allN nd := by
  obtain ⟨x, hx, rfl⟩ := (st_mem1 xs q).1 hq
  obtain ⟨q', hq', rfl⟩ := h x hx
  exact hq'
theorem st_len {nd : Nd} {xs : List (List V)} (h : OkQ nd xs) (h4 : cnt nd ≤ 400) : (stL xs).1.length ≤ 400 ∧ (stL xs).2.length ≤ 160000 := by
  have h1 := nodup_len (l' := allN nd) (st_nodup xs).1 (fun q hq => st_ranges h q hq)
  have h2 := allN_len nd
  have h3 := st_len2 xs
  omega
theorem st_all {nd : Nd} {xs : List (List V)} (h : DoneQ nd xs) (p : C3) : p ∈ (stL xs).2 ↔ ∃ q ∈ allN nd, inQ p q = true := by
  rw [st_mem2]
  constructor
  · rintro ⟨x, hx, hp⟩
    obtain ⟨q, hq, rfl⟩ := h.1 x hx
    rw [rgOf_at] at hp
    exact ⟨q, hq, ((range_mem p).1 hp).2⟩
  · rintro ⟨q, hq, hi⟩
    refine ⟨_, h.2 q hq, ?_⟩
    rw [rgOf_at]
    exact (range_mem p).2 ⟨all_ok nd q hq, hi⟩
/-- A row that is sorted, nothing twice. -/
theorem srt_of {d d' : Array C3} (hp : PermIn 0 d.size d d') (hs : SortedIn lessP 0 d.size d') (hn : d.toList.Nodup) : Srt lessP d'.toList ∧ d'.toList.Perm d.toList := by
  obtain ⟨hsz, _, hperm⟩ := hp
  have e1 : d'.extract 0 d.size = d' := by rw [← hsz]; exact Array.extract_size
  rw [e1, Array.extract_size] at hperm
  refine ⟨?_, hperm⟩
  have hnd : d'.toList.Nodup := hperm.nodup_iff.2 hn
  rw [Srt, List.pairwise_iff_getElem]
  intro i j hi hj hij
  have hi' : i < d'.size := by simpa using hi
  have hj' : j < d'.size := by simpa using hj
  have h1 := hs i j (Nat.zero_le _) hij (by omega)
  rw [getElem!_pos d' i hi', getElem!_pos d' j hj'] at h1
  have hne : d'.toList[i] ≠ d'.toList[j] := (List.pairwise_iff_getElem.1 hnd) i j hi hj hij
  rw [Array.getElem_toList, Array.getElem_toList] at hne ⊢
  cases h2 : lessP d'[i] d'[j] with
  | true => rfl
  | false => exact absurd (less_tot.tri _ _ h2 h1) hne
theorem cellsR_ok {q : R2} (h : okQ q = true) : cellsA q.1.1 q.1.2.1 q.1.2.2 q.2.1 q.2.2.1 q.2.2.2 = some (cellsR q) := by
  unfold cellsR cellsA
  unfold okQ at h
  rw [Bool.and_eq_true, decide_eq_true_eq] at h
  rw [if_pos h]
  rfl
/-- With a block that is not the call's own, and stays as it is. -/
def OneG (E : Env) (n : Nat) (B : Bs) (st : St) (a : Act) (w : World) (g : Nat) (ob : Obj) (lg : Option Nat) : Prop :=
  ∃ m O, Now E n B.D O m st a w ∧ (∀ k, O k → B.Os k ∨ B.ws.heap.size ≤ k) ∧ Step B.Os B.ms B.ws m w ∧ Marks B.D O B.ws.heap.size w ∧ B.Kn.P m w ∧ KeepT B.W B.t0 a.tmps ∧ ¬ O g ∧ w.heap[g]? = some ob ∧ m g = lg
section
variable {E : Env} {n : Nat} {B : Bs} {m : Lim} {w : World} {st : St} {a : Act} {O : Nat → Prop} {r : Option Nat} {g : Nat} {ob : Obj} {lg : Option Nat}
theorem OneG.le {st' : St} (h : OneG E n B st a w g ob lg) (hl : Le st' st) : OneG E n B st' a w g ob lg := by
  obtain ⟨m, O, h1, h2⟩ := h
  exact ⟨m, O, h1.le hl, h2⟩
theorem OneG.one (h : OneG E n B st a w g ob lg) : One E n B st a w := by
  obtain ⟨m, O, h1, h2, h3, h4, h5, h6, _⟩ := h
  exact ⟨m, O, h1, h2, h3, h4, h5, h6⟩
theorem OneG.grown {m' : Lim} {w' : World} {a' : Act} {st' : St} (h2 : ∀ k, O k → B.Os k ∨ B.ws.heap.size ≤ k) (h3 : Step B.Os B.ms B.ws m w) (h4 : Marks B.D O B.ws.heap.size w) (h5 : B.Kn.P m w) (hkt : KeepT B.W B.t0 a'.tmps) (h7 : ¬ O g) (h8 : w.heap[g]? = some ob) (h9 : m g = lg)
    (hn : Now E n B.D (grew O w w') m' st' a' w') (hs : Step O m w m' w') : OneG E n B st' a' w' g ob lg := by
  obtain ⟨m2, O2, q1, q2, q3, q4, q5, q6⟩ := One.grown h2 h3 h4 h5 hkt hn hs
  have hg := hs.same g (heap_lt h8) h7
  refine ⟨m', grew O w w', hn, fun k hg => ?_, h3.next hs (fun i hi ho => (h2 i ho).resolve_right (Nat.not_le.2 hi)), ⟨h4.nd, fun d hd => ?_⟩, B.Kn.mono _ _ _ _ h5 hs.ext, hkt, fun hgr => ?_, hg.1.trans h8, hg.2.trans h9⟩
  · rcases hg.2 with hg | hg
    · exact h2 k hg
    · exact .inr (Nat.le_trans h3.ext.size hg)
  · obtain ⟨b, rfl, q1, q2, q3⟩ := h4.is d hd
    refine ⟨b, rfl, q1, (hs.same b (heap_lt q2) q3).1.trans q2, fun hg => ?_⟩
    rcases hg.2 with hg | hg
    · exact q3 hg
    · exact absurd (heap_lt q2) (Nat.not_lt.2 hg)
  · rcases hgr.2 with hg | hg
    · exact h7 hg
    · exact absurd (heap_lt h8) (Nat.not_lt.2 hg)
/-- Some operations of a region. -/
theorem oneG_ops (hE : EnvOK E) {ops : List Oper} {Q : Exit → Act → World → Prop} (ts : List (Nat × V)) (bs : List (Nat × List V)) (rest : List Nat) : ∀ (l : List Oper) (is : List Nat) (st : St) (a : Act) (w : World), (is.map fun i => ops[i]?) = l.map some → dstsIn n l = true → wrL B.W l = true → wrL B.W ops = true →
    OneG E n B st a w g ob lg → (aopsK E ⟨ops⟩ l st fun st' => leT st' ts ∧ leB st' bs) → (∀ a' w', OneG E n B (stOf ts bs) a' w' g ob lg → wpOpsIn (fen r) 0 E.P ⟨ops⟩ Q rest a' w') → wpOpsIn (fen r) 0 E.P ⟨ops⟩ Q (is ++ rest) a w
  | [], [], st, a, w, _, _, _, _, h, hr, hK => hK a w (h.le (le_stOf hr.1 hr.2))
  | [], i :: is, st, a, w, hi, _, _, _, h, hr, hK => by simp at hi
  | o :: l, [], st, a, w, hi, _, _, _, h, hr, hK => by simp at hi
  | o :: l, i :: is, st, a, w, hi, hd, hW, hWo, h, hr, hK => by
    rw [List.cons_append, wpOpsIn_cons]
    simp only [List.map_cons, List.cons.injEq] at hi
    obtain ⟨st', hs, hl, hb⟩ := aopsK_out _ _ hr
    unfold aopsV at hs
    split at hs
    · rename_i st1 h1
      obtain ⟨m, O, q1, q2, q3, q4, q5, q6, q7, q8, q9⟩ := h
      have hlt := q1.lt
      obtain ⟨b, β, hrel⟩ := q1.rel
      have hi1 : (⟨ops⟩ : Array Oper)[i]? = some o := by simpa using hi.1
      have hwp : wpOpIn (fen r) 0 E.P ⟨ops⟩ Q i (fun a' w' => OneG E n B st1 a' w' g ob lg ∨ (∃ m' β', Rel E n ⟨lst O w.heap.size, b, lst O w.heap.size, B.D⟩ m w m' β' st1 a' w')) a w := aopV_sound hE.x hrel hi1 (dstsIn_of hd (by simp)) h1 (fun a' w' m' β' hr' => .inr ⟨m', β', hr'⟩)
      have hkeep := wpOpIn_keep (W := B.W) (t := B.t0) (by simpa using hWo) q6 (K' := fun a' w' => OneG E n B st1 a' w' g ob lg) (fun a' w' hK' hkt => by
        rcases hK' with hK' | ⟨m', β', hr'⟩
        · exact hK'
        · obtain ⟨hn, hst⟩ := Now.of_rel hE hlt hr'
          exact OneG.grown q2 q3 q4 q5 hkt q7 q8 q9 hn hst) hwp
      have hWl : wrL B.W l = true := by simp only [wrL, List.all_cons, Bool.and_eq_true] at hW; exact hW.2
      have hdl : dstsIn n l = true := by simp only [dstsIn, List.all_cons, Bool.and_eq_true] at hd; exact hd.2
      exact wpOpIn_weak (fun a' w' h' => oneG_ops hE ts bs rest l is st1 a' w' hi.2 hdl hWl hWo h' (aopsK_in _ _ hs ⟨hl, hb⟩) hK) (fun e a' w' h' => h'.1) hkeep
    · cases hs
theorem oneG_SW (hE : EnvOK E) {ops : List Oper} {Q : Exit → Act → World → Prop} (k j : Nat) (ts : List (Nat × V)) (bs : List (Nat × List V)) (rest : List Nat) (hl : k + j ≤ ops.length) (hd : dstsIn n ((ops.drop k).take j) = true) (hW : wrL B.W ops = true)
    (h : OneG E n B st a w g ob lg) (hr : aopsK E ⟨ops⟩ ((ops.drop k).take j) st fun st' => leT st' ts ∧ leB st' bs) (hK : ∀ a' w', OneG E n B (stOf ts bs) a' w' g ob lg → wpOpsIn (fen r) 0 E.P ⟨ops⟩ Q rest a' w') : wpOpsIn (fen r) 0 E.P ⟨ops⟩ Q (List.range' k j ++ rest) a w :=
  oneG_ops hE ts bs rest _ _ st a w (range_ops ops k j hl) hd (List.all_eq_true.2 (fun o ho => List.all_eq_true.1 hW o (List.mem_of_mem_drop (List.mem_of_mem_take ho)))) hW h hr hK
/-- An operation that only tells a value. -/
theorem oneG_raw {ops : List Oper} {Q : Exit → Act → World → Prop} {i : Nat} {rest : List Nat} {o : Oper} {d : Tmp} (hi : ops[i]? = some o) (hdef : ∀ c, o.op ≠ .defer c) (hd : o.dst = some d) (hdn : d < n) (hWd : B.W d = true) (hg : o.guard = none) (h : OneG E n B st a w g ob lg) (v : Value) (hrun : (execOp a.eval o).run E.P w = .ok (.value v) w)
    (hK : ∀ a', OneG E n B (st.put (some d) (.x v)) a' w g ob lg → a' = a.put (some d) v → wpOpsIn (fen none) 0 E.P ⟨ops⟩ Q rest a' w) : wpOpsIn (fen none) 0 E.P ⟨ops⟩ Q (i :: rest) a w := by
  obtain ⟨m, O, q1, q2, q3, q4, q5, q6, q7, q8, q9⟩ := h
  rw [wpOpsIn_cons]
  unfold wpOpIn
  have hi' : (⟨ops⟩ : Array Oper)[i]? = some o := by simpa using hi
  rw [hi']
  simp only
  rw [if_pos (by unfold Region.wanted; rw [hg])]
  refine ⟨fun _ _ => trivial, ?_⟩
  rw [Oper.semAt_eq _ _ _ hdef, hrun]
  show wpOpsIn (fen none) 0 E.P ⟨ops⟩ Q rest (a.put o.dst v) w
  rw [hd]
  have hp := q1.put hdn (v := v) (u := .x v) (.x _)
  rw [bare_x] at hp
  exact hK _ ⟨m, O, hp, q2, q3, q4, q5, q6.put (fun k e => by cases e; exact hWd), q7, q8, q9⟩ rfl
theorem one_raw {ops : List Oper} {Q : Exit → Act → World → Prop} {i : Nat} {rest : List Nat} {o : Oper} {d : Tmp} (hi : ops[i]? = some o) (hdef : ∀ c, o.op ≠ .defer c) (hd : o.dst = some d) (hdn : d < n) (hWd : B.W d = true) (hg : o.guard = none) (h : One E n B st a w) (v : Value) (hrun : (execOp a.eval o).run E.P w = .ok (.value v) w)
    (hK : ∀ a', One E n B (st.put (some d) (.x v)) a' w → a' = a.put (some d) v → wpOpsIn (fen none) 0 E.P ⟨ops⟩ Q rest a' w) : wpOpsIn (fen none) 0 E.P ⟨ops⟩ Q (i :: rest) a w := by
  obtain ⟨m, O, q1, q2, q3, q4, q5, q6⟩ := h
  rw [wpOpsIn_cons]
  unfold wpOpIn
  have hi' : (⟨ops⟩ : Array Oper)[i]? = some o := by simpa using hi
  rw [hi']
  simp only
  rw [if_pos (by unfold Region.wanted; rw [hg])]
  refine ⟨fun _ _ => trivial, ?_⟩
  rw [Oper.semAt_eq _ _ _ hdef, hrun]
  show wpOpsIn (fen none) 0 E.P ⟨ops⟩ Q rest (a.put o.dst v) w
  rw [hd]
  have hp := q1.put hdn (v := v) (u := .x v) (.x _)
  rw [bare_x] at hp
  exact hK _ ⟨m, O, hp, q2, q3, q4, q5, q6.put (fun k e => by cases e; exact hWd)⟩ rfl
theorem One.putU {d : Tmp} (hd : d < n) (hWd : B.W d = true) (h : One E n B st a w) (v : Value) : One E n B (st.put (some d) .undef) (a.put (some d) v) w := by
  obtain ⟨m, O, q1, q2, q3, q4, q5, q6⟩ := h
  have hp := q1.put hd (v := v) (u := .undef) (.undef _)
  rw [bare_undef] at hp
  exact ⟨m, O, hp, q2, q3, q4, q5, q6.put (fun k e => by cases e; exact hWd)⟩
/-- Where a variable of one cell lies. -/
theorem Now.box_at {D : List Deferred} (h : Now E n D O m st a w) {i s : Nat} {v : Value} (hi : st.t i = .ptr s 0) (hb : st.b s = some [.x v]) : ∃ b vals ty, a.tmps.getD i Go.undef = .pointer (some ⟨b, 0, none⟩) ∧ w.heap[b]? = some (.cells vals ty (0, 0)) ∧ vals[0]? = some v ∧ O b := by
  obtain ⟨⟨c, β, hr⟩, hlt⟩ := h
  have ht := hr.tmps i
  rw [hi] at ht
  obtain ⟨⟨_, vals, ty, xs, rest, hh, hv, hrd⟩, hge⟩ := hr.boxes s _ hb
  refine ⟨β s, vals, ty, ht.ptr, hh, ?_, ?_⟩
  · have hx : xs = [v] := rdl_x (l := [v]) hrd
    rw [← Array.getElem?_toList, hv, hx]
    rfl
  · rcases hge with hge | hge
    · exact absurd (heap_lt hh) (Nat.not_lt.2 hge)
    · exact (mem_lst.1 hge).2
/-- A step by others' hands, that made that block; and what a slot then holds. -/
theorem OneG.after {Kn' : Kno} {m' : Lim} {w' : World} {d : Tmp} (hd : d < n) {v : Value} (h1 : Now E n B.D O m st a w) (h2 : ∀ k, O k → B.Os k ∨ B.ws.heap.size ≤ k) (h3 : Step B.Os B.ms B.ws m w) (h4 : Marks B.D O B.ws.heap.size w) (h6 : KeepT B.W B.t0 a.tmps) (hWd : B.W d = true) (hs : Step (fun _ => False) m w m' w') (hJ : E.J w') (hk : Kn'.P (upd m' g (some 0)) w') (hg : w.heap.size ≤ g) (hh : w'.heap[g]? = some ob) :
    OneG E n { B with Kn := Kn' } (st.put (some d) (.x v)) (a.put (some d) v) w' g ob (some 0) := by
  have hs' : Step (fun _ => False) m w (upd m' g (some 0)) w' := ⟨hs.os, hs.tape, hs.output, ⟨hs.ext.size, hs.ext.cell, fun b hb fr' hf => by
    rw [upd_ne _ _ (by omega)] at hf
    exact hs.ext.lim b hb fr' hf⟩, fun k hk hn => ⟨(hs.same k hk hn).1, by rw [upd_ne _ _ (by omega)]; exact (hs.same k hk hn).2⟩⟩
  have hp := (h1.other hs' (fun _ _ h => h) hJ).put hd (v := v) (u := .x v) (.x _)
  rw [bare_x] at hp
  refine ⟨_, O, hp, h2, h3.next hs' (fun _ _ h => h.elim), ⟨h4.nd, fun x hx => ?_⟩, hk, h6.put (fun k e => by cases e; exact hWd), fun ho => absurd (h1.lt g ho) (by omega), hh, upd_same _ _ _⟩
  obtain ⟨b, rfl, q1, q2, q3⟩ := h4.is x hx
  exact ⟨b, rfl, q1, (hs.same b (heap_lt q2) (fun h => h)).1.trans q2, q3⟩
/-- What lies in a row's block. -/
theorem cur_of {l : List C3} {es : List V} {tok : Option Nat} {len cap : Nat} {cur : Array Value} {ty : TypeId} (hes : es = l.map cellV) (h : Rd m w (.slice (some ⟨g, 0, none⟩) len cap) (.sl false 3 es tok)) (hh : w.heap[g]? = some (.cells cur ty (0, 0))) : ∃ rest, cur.toList = l.flatMap encQ ++ rest := by
  cases h with
  | emp a cap sz =>
    cases l with
    | nil => exact ⟨cur.toList, rfl⟩
    | cons p l => cases hes
  | sl blk off cap sz es tok c hb hcap hsz hc hm hr =>
    subst hes
    rw [List.length_map] at hc
    refine ⟨cur.toList.drop (l.length * 3), ?_⟩
    have e : cur.toList.take (l.length * 3) = l.flatMap encQ := by
      apply List.ext_getElem?
      intro t
      rw [encQ_at, List.getElem?_take]
      by_cases ht : t < l.length * 3
      · rw [if_pos ht, Array.getElem?_toList]
        have h1 := hc t ht
        rw [Nat.zero_add, Box.cell hh] at h1
        have hl : t / 3 < l.length := by omega
        have h2 := hr (t / 3) (cellV l[t / 3]) (by rw [List.getElem?_map, List.getElem?_eq_getElem hl]; rfl) (t % 3)
        rw [show t / 3 * 3 + t % 3 = t from by omega] at h2
        rw [h1, List.getElem?_eq_getElem hl, Option.map_some]
        have h3 : t % 3 = 0 ∨ t % 3 = 1 ∨ t % 3 = 2 := by omega
        rcases h3 with h3 | h3 | h3 <;>
        · rw [h3] at h2 ⊢
          have h4 := h2 _ rfl
          rw [Rd.x_iff.1 h4]
          rfl
      · rw [if_neg ht, List.getElem?_eq_none (by omega)]
        rfl
    rw [← e, List.take_append_drop]
/-- Another wrote that block, and made memory: from here on it is data. -/
theorem OneG.done (hE : EnvOK E) {w' : World} {v : Value} {u : V} (h : OneG E n B st a w g (ob) (some 0)) (hcell : ∃ vals ty fr, ob = .cells vals ty fr) (hgs : B.ws.heap.size ≤ g) (hK : E.K ≤ g) (hb : Bel [g] w w') (hv : ∀ m, m g = none → Rd m w' v u) : One E n { B with Kn := Kno.rd v u } st a w' := by
  obtain ⟨m, O, q1, q2, q3, q4, q5, q6, q7, q8, q9⟩ := h
  have hs : Step (fun k => k = g) m w (upd m g none) w' := by
    refine ⟨hb.os, hb.tape, hb.output, ⟨hb.size, fun b off v hlt hm hc => ?_, fun b hlt fr' hf => ?_⟩, fun k hk hn => ⟨hb.block k hk (by simpa using hn), upd_ne _ _ hn⟩⟩
    · by_cases e : b = g
      · subst e
        exact absurd (hm 0 q9) (Nat.not_lt_zero _)
      · rw [cell_block (hb.block b hlt (by simpa using e))]
        exact hc
    · by_cases e : b = g
      · rw [e, upd_same] at hf; cases hf
      · rw [upd_ne _ _ e] at hf; exact ⟨fr', hf, Nat.le_refl _⟩
  have hJ : E.J w' := hE.keep [g] _ _ (fun x hx => by rw [List.mem_singleton.1 hx]; exact hK) q1.J hb
  refine ⟨_, O, q1.other hs (fun k hk e => q7 (e ▸ hk)) hJ, q2, q3.next hs (fun i hi e => absurd hi (Nat.not_lt.2 (e ▸ hgs))), ⟨q4.nd, fun x hx => ?_⟩, hv _ (upd_same _ _ _), q6⟩
  obtain ⟨b, rfl, r1, r2, r3⟩ := q4.is x hx
  have hne : b ≠ g := fun e => by
    subst e
    obtain ⟨vals, ty, fr, rfl⟩ := hcell
    rw [r2] at q8
    cases q8
  exact ⟨b, rfl, r1, (hs.same b (heap_lt r2) hne).1.trans r2, r3⟩
/-- What is known of a slot's value, put down. -/
theorem One.know {d : Tmp} {v : Value} {u : V} (hd : d < n) (h : One E n { B with Kn := Kno.rd v u } st a w) (hv : a.tmps.getD d Go.undef = v) (hu : u.bare = u) : One E n { B with Kn := Kno.rd v u } (st.put (some d) u) a w := by
  obtain ⟨m, O, q1, q2, q3, q4, q5, q6⟩ := h
  have hr : Rd m w (a.tmps.getD d Go.undef) u := by rw [hv]; exact q5
  have hp := q1.put hd hr
  rw [put_self, hu] at hp
  exact ⟨m, O, hp, q2, q3, q4, q5, q6⟩
end
end Go.Proofs.Ytiphliochoengaa

/- refs.Cells: the cells that a formula reads. -/
namespace Go.Proofs.Ytiphliochoengaa
open Go Go.RowKit
open Go.Sort (swp)
set_option linter.unusedSimpArgs false
theorem fcells_some {s : ByteArray} {c r : Int} {s' : ByteArray} {c' r' : Int} {l : List C3} (h : cellsA s c r s' c' r' = some l) : FCells [.agg [.x (.string s), .x (.int .i64 c), .x (.int .i64 r), .x (.string s'), .x (.int .i64 c'), .x (.int .i64 r')]] = some (.sl false 3 (l.map cellV) none) := by
  show (match cellsA s c r s' c' r' with | some l => some (V.sl false 3 (l.map cellV) none) | none => some (V.sl true 0 [] none)) = _
  rw [h]
set_option maxHeartbeats 16000000 in
set_option maxRecDepth 100000 in
theorem cellsP_fun : FunV 12 (FE encN GReads) := by
  have hE : EnvOK (envOf [(25, FCells)]) := envOK_of _ ⟨cells_fun, trivial⟩
  have hm : (envOf [(25, FCells)]).P.follows .mixedOrders = true := by kernel_rfl
  refine fun_of_one (E := envOf [(25, FCells)]) (n := 45) (k := 1) hE Try.func12 rfl (fun a w => Try.call12 a w) Try.ntmps12 (by decide) (by decide) ?_
  intro us r m w a hF hdat h0
  obtain ⟨nd, hus, hG⟩ := FE_out hF
  clear hF
  subst hus
  unfold GReads at hG
  obtain ⟨h400, hG⟩ := ite_some hG
  cases hG
  obtain ⟨k, op, nm, vk, vn, vs, cs, cc, cr, ts, tc, tr, ll, nl, sz, hh, hl, hf, hs⟩ := node_cases nd
  replace h0 := h0 rfl
  refine ⟨rfl, ?_⟩
  simp only [encN] at h0
  rw [hf] at h0
  refine wpIn_seq (one_T hE hm [(1, .ptr 1 0)] [(1, [.x (.int .i64 k), .x (.string op), .x (.string nm), .x (.int .i64 vk), .x (.int .i64 vn), .x (.string vs), .x (.string cs), .x (.int .i64 cc), .x (.int .i64 cr), .x (.string ts), .x (.int .i64 tc), .x (.int .i64 tr), .sl nl sz (ll.map nodeV) none])] (by kernel_rfl) h0 (by simp (decide := true) (maxDischargeDepth := 200) only [go_sem, Nat.reduceBEq] <;> (repeat' first | rfl | constructor)) ?_)
  clear h0 a
  intro a w1 h1
  refine wpIn_seq (wpIn_region ?_)
  refine one_S hE 0 2 [(1, .ptr 1 0), (3, .ptr 3 0), (11, .mp 11 [] [])] [(1, [.x (.int .i64 k), .x (.string op), .x (.string nm), .x (.int .i64 vk), .x (.int .i64 vn), .x (.string vs), .x (.string cs), .x (.int .i64 cc), .x (.int .i64 cr), .x (.string ts), .x (.int .i64 tc), .x (.int .i64 tr), .sl nl sz (ll.map nodeV) none]), (3, [.x (.map none)])] [2] (by decide) (by kernel_rfl) h1 (by simp (decide := true) (maxDischargeDepth := 200) only [go_sem, Nat.reduceBEq] <;> (repeat' first | rfl | constructor)) ?_
  clear h1 a w1
  intro a w1 h1
  obtain ⟨g1, hg1⟩ := h1.map_ptr (i := 11) (s := 11) (ks := []) (vs := []) (by simp only [go_sem, Nat.reduceEqDiff, if_false, if_true, tOf, stOf])
  have hst : storeV (envOf [(25, FCells)]) (stOf [(1, .ptr 1 0), (3, .ptr 3 0), (11, .mp 11 [] [])] [(1, [.x (.int .i64 k), .x (.string op), .x (.string nm), .x (.int .i64 vk), .x (.int .i64 vn), .x (.string vs), .x (.string cs), .x (.int .i64 cc), .x (.int .i64 cr), .x (.string ts), .x (.int .i64 tc), .x (.int .i64 tr), .sl nl sz (ll.map nodeV) none]), (3, [.x (.map none)])]) 58 (.ptr 3 0) (.x (.map (some g1))) = some ⟨(stOf [(1, .ptr 1 0), (3, .ptr 3 0), (11, .mp 11 [] [])] [(1, [.x (.int .i64 k), .x (.string op), .x (.string nm), .x (.int .i64 vk), .x (.int .i64 vn), .x (.string vs), .x (.string cs), .x (.int .i64 cc), .x (.int .i64 cr), .x (.string ts), .x (.int .i64 tc), .x (.int .i64 tr), .sl nl sz (ll.map nodeV) none]), (3, [.x (.map none)])]).t, upd (stOf [(1, .ptr 1 0), (3, .ptr 3 0), (11, .mp 11 [] [])] [(1, [.x (.int .i64 k), .x (.string op), .x (.string nm), .x (.int .i64 vk), .x (.int .i64 vn), .x (.string vs), .x (.string cs), .x (.int .i64 cc), .x (.int .i64 cr), .x (.string ts), .x (.int .i64 tc), .x (.int .i64 tr), .sl nl sz (ll.map nodeV) none]), (3, [.x (.map none)])]).b 3 (some [.x (.map (some g1))])⟩ := by
    simp (decide := true) (maxDischargeDepth := 200) only [go_sem, Nat.reduceBEq, storeV]
  refine one_store_map (i := 2) (rest := []) hE rfl rfl rfl rfl h1 (by simp only [go_sem, Nat.reduceEqDiff, if_false, if_true, tOf, stOf]) hg1 hst ?_
  intro w2 h2
  replace h2 := (h2.le (le_stOf (ts := [(1, .ptr 1 0), (3, .ptr 3 0), (11, .mp 11 [] [])]) (bs := [(1, [.x (.int .i64 k), .x (.string op), .x (.string nm), .x (.int .i64 vk), .x (.int .i64 vn), .x (.string vs), .x (.string cs), .x (.int .i64 cc), .x (.int .i64 cr), .x (.string ts), .x (.int .i64 tc), .x (.int .i64 tr), .sl nl sz (ll.map nodeV) none]), (3, [.x (.map (some g1))])]) (by simp (decide := true) (maxDischargeDepth := 200) only [go_sem, Nat.reduceBEq] <;> (repeat' first | rfl | constructor)) (by simp (decide := true) (maxDischargeDepth := 200) only [go_sem, Nat.reduceBEq] <;> (repeat' first | rfl | constructor)))).frame (fun i => !(i == 11))
  clear h1 hst w1
  refine wpIn_seq (wpIn_region ?_)
  refine one_SW hE 0 2 [(1, .ptr 1 0), (3, .ptr 3 0), (4, .ptr 4 0), (11, .mp 11 [] []), (12, .mp 12 [] [])] [(1, [.x (.int .i64 k), .x (.string op), .x (.string nm), .x (.int .i64 vk), .x (.int .i64 vn), .x (.string vs), .x (.string cs), .x (.int .i64 cc), .x (.int .i64 cr), .x (.string ts), .x (.int .i64 tc), .x (.int .i64 tr), .sl nl sz (ll.map nodeV) none]), (3, [.x (.map (some g1))]), (4, [.x (.map none)])] [2] (by decide) (by kernel_rfl) (by kernel_rfl) h2 (by simp (decide := true) (maxDischargeDepth := 200) only [go_sem, Nat.reduceBEq] <;> (repeat' first | rfl | constructor)) ?_
  intro a1 w1 h1
  have hk11 := h1.kept (i := 11) rfl
  simp only at hk11
  rw [hg1] at hk11
  clear h2 w2 hg1
  obtain ⟨g2, hg2⟩ := h1.map_ptr (i := 12) (s := 12) (ks := []) (vs := []) (by simp only [go_sem, Nat.reduceEqDiff, if_false, if_true, tOf, stOf])
  have hst : storeV (envOf [(25, FCells)]) (stOf [(1, .ptr 1 0), (3, .ptr 3 0), (4, .ptr 4 0), (11, .mp 11 [] []), (12, .mp 12 [] [])] [(1, [.x (.int .i64 k), .x (.string op), .x (.string nm), .x (.int .i64 vk), .x (.int .i64 vn), .x (.string vs), .x (.string cs), .x (.int .i64 cc), .x (.int .i64 cr), .x (.string ts), .x (.int .i64 tc), .x (.int .i64 tr), .sl nl sz (ll.map nodeV) none]), (3, [.x (.map (some g1))]), (4, [.x (.map none)])]) 59 (.ptr 4 0) (.x (.map (some g2))) = some ⟨(stOf [(1, .ptr 1 0), (3, .ptr 3 0), (4, .ptr 4 0), (11, .mp 11 [] []), (12, .mp 12 [] [])] [(1, [.x (.int .i64 k), .x (.string op), .x (.string nm), .x (.int .i64 vk), .x (.int .i64 vn), .x (.string vs), .x (.string cs), .x (.int .i64 cc), .x (.int .i64 cr), .x (.string ts), .x (.int .i64 tc), .x (.int .i64 tr), .sl nl sz (ll.map nodeV) none]), (3, [.x (.map (some g1))]), (4, [.x (.map none)])]).t, upd (stOf [(1, .ptr 1 0), (3, .ptr 3 0), (4, .ptr 4 0), (11, .mp 11 [] []), (12, .mp 12 [] [])] [(1, [.x (.int .i64 k), .x (.string op), .x (.string nm), .x (.int .i64 vk), .x (.int .i64 vn), .x (.string vs), .x (.string cs), .x (.int .i64 cc), .x (.int .i64 cr), .x (.string ts), .x (.int .i64 tc), .x (.int .i64 tr), .sl nl sz (ll.map nodeV) none]), (3, [.x (.map (some g1))]), (4, [.x (.map none)])]).b 4 (some [.x (.map (some g2))])⟩ := by
    simp (decide := true) (maxDischargeDepth := 200) only [go_sem, Nat.reduceBEq, storeV]
  refine one_store_map (i := 2) (rest := []) hE rfl rfl rfl rfl h1 (by simp only [go_sem, Nat.reduceEqDiff, if_false, if_true, tOf, stOf]) hg2 hst ?_
  intro w2 h2
  replace h2 := (h2.le (le_stOf (ts := [(1, .ptr 1 0), (3, .ptr 3 0), (4, .ptr 4 0), (11, .mp 11 [] []), (12, .mp 12 [] [])]) (bs := [(1, [.x (.int .i64 k), .x (.string op), .x (.string nm), .x (.int .i64 vk), .x (.int .i64 vn), .x (.string vs), .x (.string cs), .x (.int .i64 cc), .x (.int .i64 cr), .x (.string ts), .x (.int .i64 tc), .x (.int .i64 tr), .sl nl sz (ll.map nodeV) none]), (3, [.x (.map (some g1))]), (4, [.x (.map (some g2))])]) (by simp (decide := true) (maxDischargeDepth := 200) only [go_sem, Nat.reduceBEq] <;> (repeat' first | rfl | constructor)) (by simp (decide := true) (maxDischargeDepth := 200) only [go_sem, Nat.reduceBEq] <;> (repeat' first | rfl | constructor)))).frame (fun i => !(i == 11 || i == 12))
  clear h1 hst w1
  refine wpIn_seq (wpIn_seq (wpIn_region ?_))
  refine one_SW hE 0 1 [(1, .ptr 1 0), (3, .ptr 3 0), (4, .ptr 4 0), (11, .mp 11 [] []), (12, .mp 12 [] []), (13, .agg [.x (.int .i64 k), .x (.string op), .x (.string nm), .x (.int .i64 vk), .x (.int .i64 vn), .x (.string vs), .x (.string cs), .x (.int .i64 cc), .x (.int .i64 cr), .x (.string ts), .x (.int .i64 tc), .x (.int .i64 tr), .sl nl sz (ll.map nodeV) none])] [(1, [.x (.int .i64 k), .x (.string op), .x (.string nm), .x (.int .i64 vk), .x (.int .i64 vn), .x (.string vs), .x (.string cs), .x (.int .i64 cc), .x (.int .i64 cr), .x (.string ts), .x (.int .i64 tc), .x (.int .i64 tr), .sl nl sz (ll.map nodeV) none]), (3, [.x (.map (some g1))]), (4, [.x (.map (some g2))])] [1] (by decide) (by kernel_rfl) (by kernel_rfl) h2 (by simp (decide := true) (maxDischargeDepth := 200) only [go_sem, Nat.reduceBEq] <;> (repeat' first | rfl | constructor)) ?_
  intro a3 w1 h1
  have ha := h1.kept (i := 11) rfl
  have hb := h1.kept (i := 12) rfl
  simp only at ha hb
  rw [hk11] at ha
  rw [hg2] at hb
  clear h2 w2 hk11
  refine one_call (n := 45) (d := 14) (f := 21) (Kno.rd (.pointer (some ⟨w1.heap.size, 0, none⟩)) (.ip [.x (.int .i64 k), .x (.string op), .x (.string nm), .x (.int .i64 vk), .x (.int .i64 vn), .x (.string vs), .x (.string cs), .x (.int .i64 cc), .x (.int .i64 cr), .x (.string ts), .x (.int .i64 tc), .x (.int .i64 tr), .sl nl sz (ll.map nodeV) none])) rfl rfl rfl (by decide) rfl (fun a w => Try.call21 a w) h1 (R := fun e w' => e = .returned (.func (.func 34) #[] #[.pointer (some ⟨w1.heap.size, 0, none⟩)]) ∧ w' = w1.alloc (.cells (a3.eval (.tmp 13)).cells 28)) (fun m1 O1 hn1 _ => ?call) ?_
  case call =>
    have hrd := runOf_read hn1 13 (u := .agg [.x (.int .i64 k), .x (.string op), .x (.string nm), .x (.int .i64 vk), .x (.int .i64 vn), .x (.string vs), .x (.string cs), .x (.int .i64 cc), .x (.int .i64 cr), .x (.string ts), .x (.int .i64 tc), .x (.int .i64 tr), .sl nl sz (ll.map nodeV) none]) (by simp only [go_sem, Nat.reduceEqDiff, if_false, if_true, tOf, stOf]) rfl
    obtain ⟨cs1, hcs, _⟩ := Rd.agg_iff.1 hrd
    have e6 : a3.eval (.tmp 13) = .agg cs1 := hcs
    rw [show Array.map a3.eval #[.tmp 13] = #[a3.eval (.tmp 13)] from by simp, e6]
    exact ranges_call cs1 w1
  intro m1 O1 hn1 _ e w2 he
  obtain ⟨rfl, rfl⟩ := he
  have hrd := runOf_read hn1 13 (u := .agg [.x (.int .i64 k), .x (.string op), .x (.string nm), .x (.int .i64 vk), .x (.int .i64 vn), .x (.string vs), .x (.string cs), .x (.int .i64 cc), .x (.int .i64 cr), .x (.string ts), .x (.int .i64 tc), .x (.int .i64 tr), .sl nl sz (ll.map nodeV) none]) (by simp only [go_sem, Nat.reduceEqDiff, if_false, if_true, tOf, stOf]) rfl
  obtain ⟨hs2, hr2⟩ := node_boxed (ty := 28) hrd
  refine ⟨_, _, .undef, rfl, hs2, hE.keep [] _ _ (fun x hx => by cases hx) hn1.J (hs2.bel (fun k _ h => h.elim)), .undef _, hr2, fun h2 => ?_⟩
  have hfn : (a3.put (some 14) (.func (.func 34) #[] #[.pointer (some ⟨w1.heap.size, 0, none⟩)])).eval (.tmp 14) = .func (.func 34) #[] #[.pointer (some ⟨w1.heap.size, 0, none⟩)] := by
    have hz : a3.tmps.size = 45 := by obtain ⟨_, _, hr⟩ := hn1.rel; exact hr.size
    show ((a3.put (some 14) _).tmps.getD 14 Go.undef) = _
    simp [Act.put, Array.getD_eq_getD_getElem?, hz]
  have ha2 : (a3.put (some 14) (.func (.func 34) #[] #[.pointer (some ⟨w1.heap.size, 0, none⟩)])).tmps.getD 11 Go.undef = .map (some g1) := by
    rw [← ha]
    show (a3.tmps.setIfInBounds 14 _).getD 11 Go.undef = _
    simp [Array.getD_eq_getD_getElem?]
  have hb2 : (a3.put (some 14) (.func (.func 34) #[] #[.pointer (some ⟨w1.heap.size, 0, none⟩)])).tmps.getD 12 Go.undef = .map (some g2) := by
    rw [← hb]
    show (a3.tmps.setIfInBounds 14 _).getD 12 Go.undef = _
    simp [Array.getD_eq_getD_getElem?]
  generalize (a3.put (some 14) (.func (.func 34) #[] #[.pointer (some ⟨w1.heap.size, 0, none⟩)])) = a2 at h2 hfn ha2 hb2
  generalize w1.alloc _ = w2 at h2
  refine wpIn_block ?_
  refine one_rangeS hE h2 (fun i => i == 5 || (i == 6 || (i == 7 || (i == 9 || (i == 15 || (i == 16 || (i == 17 || (i == 18 || (i == 19 || (i == 20 || (i == 21 || (i == 22 || (i == 23 || (i == 24 || (i == 25 || (i == 26 || (i == 27 || (i == 28 || (i == 29 || (i == 30 || (i == 31 || (i == 32 || (i == 33 || (i == 34 || (i == 35 || (i == 36)))))))))))))))))))))))))) hfn (fun a w => Try.call34 a w) (Ok := OkQ nd) (Done := DoneQ nd) (G := fun _ => False) (fun _ h => h.elim) ?hit ?hps ?hlen
    (fun _ => True) (fun pre => stOf [(3, .ptr 3 0), (4, .ptr 4 0), (11, .mp 11 (((stL pre).1).map rgV) (uL ((stL pre).1))), (12, .mp 12 (((stL pre).2).map cellV) (uL ((stL pre).2)))] [(3, [.x (.map (some g1))]), (4, [.x (.map (some g2))])]) (fun pre x => stOf [(3, .ptr 3 0), (4, .ptr 4 0), (5, .ptr 5 0), (11, .mp 11 (((stL pre).1).map rgV) (uL ((stL pre).1))), (12, .mp 12 (((stL pre).2).map cellV) (uL ((stL pre).2)))] [(3, [.x (.map (some g1))]), (4, [.x (.map (some g2))]), (5, x.flatMap V.cells)]) (fun _ _ _ => False) trivial ?h0 ?assign ?body ?done ?stop
  case hit =>
    intro m3 O3 hn3 hkn _ m4 w4 hs4 hj4
    exact ranges_iter nd h400 hf ⟨hkn.mono hs4.ext, trivial⟩
  case hps => intro p hp; simp at hp; subst hp; exact ⟨rfl, by decide⟩
  case hlen =>
    intro pre x hok
    obtain ⟨q, _, rfl⟩ := hok x (by simp)
    rfl
  case h0 => exact le_stOf (by simp (decide := true) (maxDischargeDepth := 200) only [go_sem, Nat.reduceBEq] <;> (repeat' first | rfl | constructor)) (by simp (decide := true) (maxDischargeDepth := 200) only [go_sem, Nat.reduceBEq] <;> (repeat' first | rfl | constructor))
  case assign =>
    intro pre x lp B' a3 w3 hok hinv _ _ hW' ht0 ho
    obtain ⟨q, hq, rfl⟩ := hok x (by simp)
    refine one_TW hE hm [(3, .ptr 3 0), (4, .ptr 4 0), (5, .ptr 5 0), (11, .mp 11 (((stL pre).1).map rgV) (uL ((stL pre).1))), (12, .mp 12 (((stL pre).2).map cellV) (uL ((stL pre).2)))] [(3, [.x (.map (some g1))]), (4, [.x (.map (some g2))]), (5, [.x (.string q.1.1), .x (.int .i64 q.1.2.1), .x (.int .i64 q.1.2.2), .x (.string q.2.1), .x (.int .i64 q.2.2.1), .x (.int .i64 q.2.2.2)])] (by kernel_rfl) (by rw [hW']; kernel_rfl) ho (by simp (decide := true) (maxDischargeDepth := 200) only [go_sem, Nat.reduceBEq, rgV, List.flatMap_cons, List.flatMap_nil, List.append_nil] <;> (repeat' first | rfl | constructor)) (fun a4 w4 h4 => ⟨rfl, h4⟩)
  case body =>
    intro pre x lp B' a3 w3 hok hinv _ _ hW' ht0 ho
    obtain ⟨q, hq, rfl⟩ := hok x (by simp)
    have hqo := all_ok nd q hq
    have kept11 : ∀ {a4 : Act} {w4 : World} {st4 : St}, One (envOf [(25, FCells)]) 45 B' st4 a4 w4 → a4.tmps.getD 11 Go.undef = .map (some g1) := fun h4 => by
      rw [h4.kept (i := 11) (by rw [hW']; rfl), ht0, ha2]
    have kept12 : ∀ {a4 : Act} {w4 : World} {st4 : St}, One (envOf [(25, FCells)]) 45 B' st4 a4 w4 → a4.tmps.getD 12 Go.undef = .map (some g2) := fun h4 => by
      rw [h4.kept (i := 12) (by rw [hW']; rfl), ht0, hb2]
    obtain ⟨S1, hS1⟩ : ∃ S1, (stL pre).1 = S1 := ⟨_, rfl⟩
    obtain ⟨S2, hS2⟩ : ∃ S2, (stL pre).2 = S2 := ⟨_, rfl⟩
    have hsn := stL_snoc pre q
    unfold stR at hsn
    rw [hS1, hS2] at ho hsn
    refine wpIn_block (wpIn_seq (wpIn_seq (wpIn_region ?_)))
    refine one_SW hE 0 2 [(3, .ptr 3 0), (4, .ptr 4 0), (5, .ptr 5 0), (17, .x (.map (some g1))), (18, .agg [.x (.string q.1.1), .x (.int .i64 q.1.2.1), .x (.int .i64 q.1.2.2), .x (.string q.2.1), .x (.int .i64 q.2.2.1), .x (.int .i64 q.2.2.2)]), (11, .mp 11 ((S1).map rgV) (uL (S1))), (12, .mp 12 ((S2).map cellV) (uL (S2)))] [(3, [.x (.map (some g1))]), (4, [.x (.map (some g2))]), (5, [.x (.string q.1.1), .x (.int .i64 q.1.2.1), .x (.int .i64 q.1.2.2), .x (.string q.2.1), .x (.int .i64 q.2.2.1), .x (.int .i64 q.2.2.2)])] [2, 3, 4, 5, 6, 7, 8] (by decide) (by kernel_rfl) (by rw [hW']; kernel_rfl) ho (by simp (decide := true) (maxDischargeDepth := 200) only [go_sem, Nat.reduceBEq, rgV, List.flatMap_cons, List.flatMap_nil, List.append_nil] <;> (repeat' first | rfl | constructor)) ?_
    intro a4 w4 h4
    have h17 : a4.tmps.getD 17 Go.undef = .map (some g1) := by
      obtain ⟨m5, O5, hn5, _⟩ := h4
      exact hn5.read_x 17 (by simp only [go_sem, Nat.reduceEqDiff, if_false, if_true, tOf, stOf])
    have h5 := h4.alias (i := 11) (d := 17) (s := 11) (ks := S1.map rgV) (vs := uL S1) (by simp only [go_sem, Nat.reduceEqDiff, if_false, if_true, tOf, stOf]) (by decide) (h17.trans (kept11 h4).symm)
    have hlook : lookV Try.prog 58 (.mp 11 (S1.map rgV) (uL S1)) (.agg [.x (.string q.1.1), .x (.int .i64 q.1.2.1), .x (.int .i64 q.1.2.2), .x (.string q.2.1), .x (.int .i64 q.2.2.1), .x (.int .i64 q.2.2.2)]) true = some (.tup [.agg [], .x (.bool (inS S1 q))]) := look_rng 11 S1 q
    refine one_SW hE 2 7 [(3, .ptr 3 0), (4, .ptr 4 0), (5, .ptr 5 0), (7, .x (.bool (inS S1 q))), (11, .mp 11 ((S1).map rgV) (uL (S1))), (12, .mp 12 ((S2).map cellV) (uL (S2)))] [(3, [.x (.map (some g1))]), (4, [.x (.map (some g2))]), (5, [.x (.string q.1.1), .x (.int .i64 q.1.2.1), .x (.int .i64 q.1.2.2), .x (.string q.2.1), .x (.int .i64 q.2.2.1), .x (.int .i64 q.2.2.2)])] [] (by decide) (by kernel_rfl) (by rw [hW']; kernel_rfl) h5 (by simp (decide := true) (maxDischargeDepth := 200) only [go_sem, Nat.reduceBEq, hlook] <;> (repeat' first | rfl | constructor)) ?_
    clear h4 h5 h17 hlook ho
    intro a5 w5 h5
    cases hin : inS S1 q with
    | true =>
      rw [hin] at h5 hsn
      simp only [if_true] at hsn
      refine one_XW hE hm 1 [(3, .ptr 3 0), (4, .ptr 4 0), (11, .mp 11 ((S1).map rgV) (uL (S1))), (12, .mp 12 ((S2).map cellV) (uL (S2)))] [(3, [.x (.map (some g1))]), (4, [.x (.map (some g2))])] (by kernel_rfl) (by rw [hW']; kernel_rfl) h5 (by simp (decide := true) (maxDischargeDepth := 200) only [go_sem, Nat.reduceBEq] <;> (repeat' first | rfl | constructor)) ?_
      intro a6 w6 h6
      rw [hsn]
      exact ⟨_, h6, trivial, le_stOf (by simp (decide := true) (maxDischargeDepth := 200) only [go_sem, Nat.reduceBEq, hS1, hS2] <;> (repeat' first | rfl | constructor)) (by simp (decide := true) (maxDischargeDepth := 200) only [go_sem, Nat.reduceBEq] <;> (repeat' first | rfl | constructor))⟩
    | false =>
      rw [hin] at h5 hsn
      simp only [Bool.false_eq_true, if_false] at hsn
      refine one_TW hE hm [(3, .ptr 3 0), (4, .ptr 4 0), (5, .ptr 5 0), (11, .mp 11 ((S1).map rgV) (uL (S1))), (12, .mp 12 ((S2).map cellV) (uL (S2)))] [(3, [.x (.map (some g1))]), (4, [.x (.map (some g2))]), (5, [.x (.string q.1.1), .x (.int .i64 q.1.2.1), .x (.int .i64 q.1.2.2), .x (.string q.2.1), .x (.int .i64 q.2.2.1), .x (.int .i64 q.2.2.2)])] (by kernel_rfl) (by rw [hW']; kernel_rfl) h5 (by simp (decide := true) (maxDischargeDepth := 200) only [go_sem, Nat.reduceBEq] <;> (repeat' first | rfl | constructor)) ?_
      clear h5 a5 w5
      intro a5 w5 h5
      refine wpIn_seq (wpIn_region ?_)
      refine one_SW hE 0 3 [(3, .ptr 3 0), (4, .ptr 4 0), (5, .ptr 5 0), (23, .x (.map (some g1))), (24, .agg [.x (.string q.1.1), .x (.int .i64 q.1.2.1), .x (.int .i64 q.1.2.2), .x (.string q.2.1), .x (.int .i64 q.2.2.1), .x (.int .i64 q.2.2.2)]), (25, .agg []), (11, .mp 11 ((S1).map rgV) (uL (S1))), (12, .mp 12 ((S2).map cellV) (uL (S2)))] [(3, [.x (.map (some g1))]), (4, [.x (.map (some g2))]), (5, [.x (.string q.1.1), .x (.int .i64 q.1.2.1), .x (.int .i64 q.1.2.2), .x (.string q.2.1), .x (.int .i64 q.2.2.1), .x (.int .i64 q.2.2.2)])] [3] (by decide) (by kernel_rfl) (by rw [hW']; kernel_rfl) h5 (by simp (decide := true) (maxDischargeDepth := 200) only [go_sem, Nat.reduceBEq] <;> (repeat' first | rfl | constructor)) ?_
      clear h5 a5 w5
      intro a5 w5 h5
      have h23 : a5.tmps.getD 23 Go.undef = .map (some g1) := by
        obtain ⟨m5, O5, hn5, _⟩ := h5
        exact hn5.read_x 23 (by simp only [go_sem, Nat.reduceEqDiff, if_false, if_true, tOf, stOf])
      have h6 := h5.alias (i := 11) (d := 23) (s := 11) (ks := S1.map rgV) (vs := uL S1) (by simp only [go_sem, Nat.reduceEqDiff, if_false, if_true, tOf, stOf]) (by decide) (h23.trans (kept11 h5).symm)
      have hput : putM Try.prog 58 (S1.map rgV) (uL S1) (.agg [.x (.string q.1.1), .x (.int .i64 q.1.2.1), .x (.int .i64 q.1.2.2), .x (.string q.2.1), .x (.int .i64 q.2.2.1), .x (.int .i64 q.2.2.2)]) (.agg []) = some ((putS S1 q).map rgV, uL (putS S1 q)) := put_rng S1 q
      refine one_SW hE 3 1 [(3, .ptr 3 0), (4, .ptr 4 0), (5, .ptr 5 0), (11, .mp 11 ((putS S1 q).map rgV) (uL (putS S1 q))), (12, .mp 12 ((S2).map cellV) (uL (S2)))] [(3, [.x (.map (some g1))]), (4, [.x (.map (some g2))]), (5, [.x (.string q.1.1), .x (.int .i64 q.1.2.1), .x (.int .i64 q.1.2.2), .x (.string q.2.1), .x (.int .i64 q.2.2.1), .x (.int .i64 q.2.2.2)])] [] (by decide) (by kernel_rfl) (by rw [hW']; kernel_rfl) h6 (by simp (decide := true) (maxDischargeDepth := 200) only [go_sem, Nat.reduceBEq, hput] <;> (repeat' first | rfl | constructor)) ?_
      clear h5 h6 h23 hput a5 w5
      intro a5 w5 h5
      have hcl := cellsR_ok hqo
      have hfc := fcells_some hcl
      obtain ⟨l, hll⟩ : ∃ l, cellsR q = l := ⟨_, rfl⟩
      have hlen := cellsR_len q
      rw [hll] at hfc hsn hlen
      refine wpIn_seq (one_TW hE hm [(3, .ptr 3 0), (4, .ptr 4 0), (27, .sl false 3 (l.map cellV) none), (28, .x (.int .i64 ((l.length : Nat) : Int))), (29, .x (.int .i64 0)), (11, .mp 11 ((putS S1 q).map rgV) (uL (putS S1 q))), (12, .mp 12 ((S2).map cellV) (uL (S2)))] [(3, [.x (.map (some g1))]), (4, [.x (.map (some g2))])] (by kernel_rfl) (by rw [hW']; kernel_rfl) h5 (by simp (decide := true) (maxDischargeDepth := 200) only [go_sem, Nat.reduceBEq, hfc, List.length_map] <;> (repeat' first | rfl | constructor)) ?_)
      clear h5 a5 w5
      intro a5 w5 h5
      refine wpIn_block (wpIn_loopX (X := {i : Nat // i ≤ l.length}) (fun i a w => One (envOf [(25, FCells)]) 45 B' (stOf [(3, .ptr 3 0), (4, .ptr 4 0), (27, .sl false 3 (l.map cellV) none), (28, .x (.int .i64 ((l.length : Nat) : Int))), (29, .x (.int .i64 ((i.1 : Nat) : Int))), (11, .mp 11 ((putS S1 q).map rgV) (uL (putS S1 q))), (12, .mp 12 (((l.take i.1).foldl putS S2).map cellV) (uL ((l.take i.1).foldl putS S2)))] [(3, [.x (.map (some g1))]), (4, [.x (.map (some g2))])]) a w) (fun i => l.length - i.1) ⟨0, Nat.zero_le _⟩ h5 ?_)
      clear h5 a5 w5
      rintro ⟨i, hi0⟩ a5 w5 h5
      simp only at h5
      by_cases hi : i < l.length
      · have c1 : decide (((i : Nat) : Int) < ((l.length : Nat) : Int)) = true := decide_eq_true (by omega)
        have c2 : (0 : Int) ≤ ((i : Nat) : Int) := by omega
        have c4 := count_up (i := i) (by omega)
        obtain ⟨p, hp⟩ : ∃ p, l[i]? = some p := ⟨l[i], List.getElem?_eq_getElem hi⟩
        have c5 : (l.map cellV)[((i : Nat) : Int).toNat]? = some (.agg [.x (.string p.1), .x (.int .i64 p.2.1), .x (.int .i64 p.2.2)]) := cell_at hp
        have htk : (l.take (i + 1)).foldl putS S2 = putS ((l.take i).foldl putS S2) p := by
          rw [List.take_add_one, hp, Option.toList_some, List.foldl_append]
          rfl
        obtain ⟨S3, hS3⟩ : ∃ S3, (l.take i).foldl putS S2 = S3 := ⟨_, rfl⟩
        rw [hS3] at h5 htk
        refine wpIn_seq (one_TW hE hm [(3, .ptr 3 0), (4, .ptr 4 0), (27, .sl false 3 (l.map cellV) none), (28, .x (.int .i64 ((l.length : Nat) : Int))), (29, .x (.int .i64 ((i : Nat) : Int))), (30, .x (.bool true)), (11, .mp 11 ((putS S1 q).map rgV) (uL (putS S1 q))), (12, .mp 12 ((S3).map cellV) (uL (S3)))] [(3, [.x (.map (some g1))]), (4, [.x (.map (some g2))])] (by kernel_rfl) (by rw [hW']; kernel_rfl) h5 (by simp (decide := true) (maxDischargeDepth := 200) only [go_sem, Nat.reduceBEq, c1] <;> (repeat' first | rfl | constructor)) ?_)
        clear h5 a5 w5
        intro a5 w5 h5
        refine wpIn_seq (one_TW hE hm [(3, .ptr 3 0), (4, .ptr 4 0), (27, .sl false 3 (l.map cellV) none), (28, .x (.int .i64 ((l.length : Nat) : Int))), (29, .x (.int .i64 ((i : Nat) : Int))), (11, .mp 11 ((putS S1 q).map rgV) (uL (putS S1 q))), (12, .mp 12 ((S3).map cellV) (uL (S3)))] [(3, [.x (.map (some g1))]), (4, [.x (.map (some g2))])] (by kernel_rfl) (by rw [hW']; kernel_rfl) h5 (by simp (decide := true) (maxDischargeDepth := 200) only [go_sem, Nat.reduceBEq] <;> (repeat' first | rfl | constructor)) ?_)
        clear h5 a5 w5
        intro a5 w5 h5
        refine wpIn_seq (wpIn_block (wpIn_seq (one_TW hE hm [(3, .ptr 3 0), (4, .ptr 4 0), (9, .ptr 9 0), (27, .sl false 3 (l.map cellV) none), (28, .x (.int .i64 ((l.length : Nat) : Int))), (29, .x (.int .i64 ((i : Nat) : Int))), (11, .mp 11 ((putS S1 q).map rgV) (uL (putS S1 q))), (12, .mp 12 ((S3).map cellV) (uL (S3)))] [(3, [.x (.map (some g1))]), (4, [.x (.map (some g2))]), (9, [.x (.string p.1), .x (.int .i64 p.2.1), .x (.int .i64 p.2.2)])] (by kernel_rfl) (by rw [hW']; kernel_rfl) h5 (by simp (decide := true) (maxDischargeDepth := 200) only [go_sem, Nat.reduceBEq, c2, c5] <;> (repeat' first | rfl | constructor)) ?_)))
        clear h5 a5 w5
        intro a5 w5 h5
        refine wpIn_region ?_
        refine one_SW hE 0 3 [(3, .ptr 3 0), (4, .ptr 4 0), (27, .sl false 3 (l.map cellV) none), (28, .x (.int .i64 ((l.length : Nat) : Int))), (29, .x (.int .i64 ((i : Nat) : Int))), (33, .x (.map (some g2))), (34, .agg [.x (.string p.1), .x (.int .i64 p.2.1), .x (.int .i64 p.2.2)]), (35, .agg []), (11, .mp 11 ((putS S1 q).map rgV) (uL (putS S1 q))), (12, .mp 12 ((S3).map cellV) (uL (S3)))] [(3, [.x (.map (some g1))]), (4, [.x (.map (some g2))])] [3] (by decide) (by kernel_rfl) (by rw [hW']; kernel_rfl) h5 (by simp (decide := true) (maxDischargeDepth := 200) only [go_sem, Nat.reduceBEq] <;> (repeat' first | rfl | constructor)) ?_
        clear h5 a5 w5
        intro a5 w5 h5
        have h33 : a5.tmps.getD 33 Go.undef = .map (some g2) := by
          obtain ⟨m5, O5, hn5, _⟩ := h5
          exact hn5.read_x 33 (by simp only [go_sem, Nat.reduceEqDiff, if_false, if_true, tOf, stOf])
        have h6 := h5.alias (i := 12) (d := 33) (s := 12) (ks := S3.map cellV) (vs := uL S3) (by simp only [go_sem, Nat.reduceEqDiff, if_false, if_true, tOf, stOf]) (by decide) (h33.trans (kept12 h5).symm)
        have hput : putM Try.prog 59 (S3.map cellV) (uL S3) (.agg [.x (.string p.1), .x (.int .i64 p.2.1), .x (.int .i64 p.2.2)]) (.agg []) = some ((putS S3 p).map cellV, uL (putS S3 p)) := put_cell S3 p
        refine one_SW hE 3 1 [(3, .ptr 3 0), (4, .ptr 4 0), (27, .sl false 3 (l.map cellV) none), (28, .x (.int .i64 ((l.length : Nat) : Int))), (29, .x (.int .i64 ((i : Nat) : Int))), (11, .mp 11 ((putS S1 q).map rgV) (uL (putS S1 q))), (12, .mp 12 ((putS S3 p).map cellV) (uL (putS S3 p)))] [(3, [.x (.map (some g1))]), (4, [.x (.map (some g2))])] [] (by decide) (by kernel_rfl) (by rw [hW']; kernel_rfl) h6 (by simp (decide := true) (maxDischargeDepth := 200) only [go_sem, Nat.reduceBEq, hput] <;> (repeat' first | rfl | constructor)) ?_
        clear h5 h6 h33 hput a5 w5
        intro a5 w5 h5
        refine one_TW hE hm [(3, .ptr 3 0), (4, .ptr 4 0), (27, .sl false 3 (l.map cellV) none), (28, .x (.int .i64 ((l.length : Nat) : Int))), (29, .x (.int .i64 ((i + 1 : Nat) : Int))), (11, .mp 11 ((putS S1 q).map rgV) (uL (putS S1 q))), (12, .mp 12 ((putS S3 p).map cellV) (uL (putS S3 p)))] [(3, [.x (.map (some g1))]), (4, [.x (.map (some g2))])] (by kernel_rfl) (by rw [hW']; kernel_rfl) h5 (by simp (decide := true) (maxDischargeDepth := 200) only [go_sem, Nat.reduceBEq, c4] <;> (repeat' first | rfl | constructor)) ?_
        clear h5 a5 w5
        intro a5 w5 h5
        exact ⟨⟨i + 1, by omega⟩, by simp only; rw [htk]; exact h5, by simp only; omega⟩
      · have c1 : decide (((i : Nat) : Int) < ((l.length : Nat) : Int)) = false := decide_eq_false (by omega)
        have hli : l.take i = l := List.take_of_length_le (by omega)
        rw [hli] at h5
        refine wpIn_seq (one_TW hE hm [(3, .ptr 3 0), (4, .ptr 4 0), (30, .x (.bool false)), (11, .mp 11 ((putS S1 q).map rgV) (uL (putS S1 q))), (12, .mp 12 ((l.foldl putS S2).map cellV) (uL (l.foldl putS S2)))] [(3, [.x (.map (some g1))]), (4, [.x (.map (some g2))])] (by kernel_rfl) (by rw [hW']; kernel_rfl) h5 (by simp (decide := true) (maxDischargeDepth := 200) only [go_sem, Nat.reduceBEq, c1] <;> (repeat' first | rfl | constructor)) ?_)
        clear h5 a5 w5
        intro a5 w5 h5
        refine wpIn_seq (one_XW hE hm 2 [(3, .ptr 3 0), (4, .ptr 4 0), (11, .mp 11 ((putS S1 q).map rgV) (uL (putS S1 q))), (12, .mp 12 ((l.foldl putS S2).map cellV) (uL (l.foldl putS S2)))] [(3, [.x (.map (some g1))]), (4, [.x (.map (some g2))])] (by kernel_rfl) (by rw [hW']; kernel_rfl) h5 (by simp (decide := true) (maxDischargeDepth := 200) only [go_sem, Nat.reduceBEq] <;> (repeat' first | rfl | constructor)) ?_)
        clear h5 a5 w5
        intro a5 w5 h5
        rw [hsn]
        exact ⟨_, h5, trivial, le_stOf (by simp (decide := true) (maxDischargeDepth := 200) only [go_sem, Nat.reduceBEq] <;> (repeat' first | rfl | constructor)) (by simp (decide := true) (maxDischargeDepth := 200) only [go_sem, Nat.reduceBEq] <;> (repeat' first | rfl | constructor))⟩
  case stop => intro _ _ _ _ _ _ h; exact h.elim
  case done =>
    intro xs b a' w' hd hinv hta h3
    refine wpIn_seq (wpIn_region ?_)
    refine one_SW hE 0 1 [(12, .mp 12 ((stL xs).2.map cellV) (uL (stL xs).2)), (37, .x (.map (some g2)))] [] [1, 2, 3, 4] (by decide) (by kernel_rfl) (by kernel_rfl) h3 (by simp (decide := true) (maxDischargeDepth := 200) only [go_sem, Nat.reduceBEq] <;> (repeat' first | rfl | constructor)) ?_
    clear h3 hta
    intro a4 w4 h4
    have h37 : a4.tmps.getD 37 Go.undef = .map (some g2) := by
      obtain ⟨m5, O5, hn5, _⟩ := h4
      exact hn5.read_x 37 (by simp only [go_sem, Nat.reduceEqDiff, if_false, if_true, tOf, stOf])
    refine one_call (n := 45) (d := 38) (f := 27) (Kno.rd (.pointer (some ⟨w4.heap.size, 0, none⟩)) (.ip [.x (.map (some g2))])) rfl rfl rfl (by decide) rfl (fun a w => Try.call27 a w) h4 (R := fun e w' => e = .returned (.func (.func 42) #[] #[.pointer (some ⟨w4.heap.size, 0, none⟩)]) ∧ w' = w4.alloc (.cells #[.map (some g2)] 59)) (fun m1 O1 hn1 _ => ?keys) ?_
    case keys =>
      have e1 : a4.eval (.tmp 37) = .map (some g2) := h37
      rw [show Array.map a4.eval #[.tmp 37] = #[a4.eval (.tmp 37)] from by simp, e1]
      exact keysC_call g2 w4
    intro m7 O7 hn7 _ e w5 he
    obtain ⟨rfl, rfl⟩ := he
    obtain ⟨hs5, hr5⟩ := box_x (m := m7) (w := w4) (v := .map (some g2)) (ty := 59) rfl
    refine ⟨_, _, .undef, rfl, hs5, hE.keep [] _ _ (fun x hx => by cases hx) hn7.J (hs5.bel (fun k _ h => h.elim)), .undef _, hr5, fun h5 => ?_⟩
    have hf38 : (a4.put (some 38) (.func (.func 42) #[] #[.pointer (some ⟨w4.heap.size, 0, none⟩)])).eval (.tmp 38) = .func (.func 42) #[] #[.pointer (some ⟨w4.heap.size, 0, none⟩)] := by
      have hz : a4.tmps.size = 45 := by obtain ⟨_, _, hr⟩ := hn7.rel; exact hr.size
      show ((a4.put (some 38) _).tmps.getD 38 Go.undef) = _
      simp [Act.put, Array.getD_eq_getD_getElem?, hz]
    clear hn7 hs5 hr5 h4
    generalize (a4.put (some 38) (.func (.func 42) #[] #[.pointer (some ⟨w4.heap.size, 0, none⟩)])) = a5 at h5 hf38
    generalize w4.alloc _ = w5 at h5
    obtain ⟨m5, O5, q1, q2, q3, q4, q5, q6⟩ := h5
    have hk5 : a5.tmps.getD 12 Go.undef = .map (some g2) := (q6 12 rfl).trans hg2
    obtain ⟨hmp, hO⟩ := q1.map_at (i := 12) (s := 12) (ks := (stL xs).2.map cellV) (vs := uL (stL xs).2) (by simp only [go_sem, Nat.reduceEqDiff, if_false, if_true, tOf, stOf]) hk5
    have hsl := (st_len hd.1 h400).2
    have hks : ∀ k ∈ (stL xs).2.map cellV, ∃ p : C3, k = cellV p := by
      intro k hk
      obtain ⟨p, _, rfl⟩ := List.mem_map.1 hk
      exact ⟨p, rfl⟩
    have hC := collectC hks (by rw [List.length_map]; omega) hmp q5 (q1.K g2 hO) q1.J
    refine one_callX (i := 2) (rest := [3, 4]) rfl rfl rfl rfl (fun a w => Try.call26 a w) (by rw [show Array.map a5.eval #[.tmp 38] = #[a5.eval (.tmp 38)] from by simp, hf38]; exact hC) ?_
    rintro e w6 ⟨v, m6, r, rfl, ⟨lv, hperm, rfl⟩, hrd, hrow, hst6, hj6⟩
    obtain ⟨l, rfl⟩ : ∃ l : List C3, lv = l.map cellV := by
      have key : ∀ l : List V, (∀ k ∈ l, ∃ p : C3, k = cellV p) → ∃ ss : List C3, l = ss.map cellV := by
        intro l
        induction l with
        | nil => exact fun _ => ⟨[], rfl⟩
        | cons x l ih =>
          intro h
          obtain ⟨ss, rfl⟩ := ih (fun k hk => h k (List.mem_cons_of_mem _ hk))
          obtain ⟨s, rfl⟩ := h x (List.mem_cons_self ..)
          exact ⟨s :: ss, rfl⟩
      exact key lv (fun k hk => hks k (hperm.mem_iff.1 hk))
    have hmem : ∀ p : C3, p ∈ l ↔ ∃ q ∈ allN nd, inQ p q = true := fun p => by
      have h1 := hperm.mem_iff (a := cellV p)
      rw [← st_all hd p]
      constructor
      · intro hp
        obtain ⟨p', hp', e⟩ := List.mem_map.1 (h1.1 (List.mem_map.2 ⟨p, hp, rfl⟩))
        exact cellV_inj _ _ e ▸ hp'
      · intro hp
        obtain ⟨p', hp', e⟩ := List.mem_map.1 (h1.2 (List.mem_map.2 ⟨p, hp, rfl⟩))
        exact cellV_inj _ _ e ▸ hp'
    have hnd : l.Nodup := nodup_of_map cellV (hperm.nodup_iff.2 (List.Pairwise.map cellV (fun a b hab e => hab (cellV_inj _ _ e)) (st_nodup xs).2))
    have hll : l.length ≤ 160000 := by
      have := hperm.length_eq
      rw [List.length_map, List.length_map] at this
      omega
    clear hperm hmp hk5 hf38 hfn h2 hC hks
    refine ⟨v, rfl, ?_⟩
    have hz5 : a5.tmps.size = 45 := by obtain ⟨_, _, hr⟩ := q1.rel; exact hr.size
    by_cases hl0 : l = []
    · subst hl0
      have hv : v = .slice none 0 0 := by cases hrd; rfl
      subst hv
      have hrn : readsN nd = [] := (reads_eq (a := nd) (l := []) List.Pairwise.nil hmem).symm
      rw [hrn]
      have h6 := One.after (Kn' := Kno.top) (d := 39) (by decide) (v := .slice none 0 0) (u := .x (.slice none 0 0)) q1 q2 q3 q4 q6 rfl hst6 hj6 (.x _) trivial
      rw [bare_x] at h6
      refine one_SW hE 3 2 [(10, .ptr 10 0)] [(10, [.x (.slice none 0 0)])] [] (by decide) (by kernel_rfl) (by kernel_rfl) h6 (by simp (decide := true) (maxDischargeDepth := 200) only [go_sem, Nat.reduceBEq] <;> (repeat' first | rfl | constructor)) ?_
      clear h6
      intro a7 w7 h7
      refine wpIn_seq (wpIn_region ?_)
      refine one_SW hE 0 1 [(10, .ptr 10 0), (40, .x (.slice none 0 0))] [(10, [.x (.slice none 0 0)])] [1, 2, 3] (by decide) (by kernel_rfl) (by kernel_rfl) h7 (by simp (decide := true) (maxDischargeDepth := 200) only [go_sem, Nat.reduceBEq] <;> (repeat' first | rfl | constructor)) ?_
      clear h7 a7 w7
      intro a7 w7 h7
      have e40 : a7.eval (.tmp 40) = .slice none 0 0 := by
        obtain ⟨m5, O5, hn5, _⟩ := h7
        exact hn5.read_x 40 (by simp only [go_sem, Nat.reduceEqDiff, if_false, if_true, tOf, stOf])
      refine one_raw (i := 1) (rest := [2, 3]) (d := 41) rfl (fun c e => by cases e) rfl (by decide) rfl rfl h7 (.iface 32 (.slice none 0 0)) ?_ ?_
      · have hmi : (Instr.makeInterface 32 (.slice none 0 0)).run Try.prog w7 = .ok (.iface 32 (.slice none 0 0)) w7 := run_makeInterface _ _ _ (by kernel_rfl)
        simp only [execOp, Sem.run_bind, e40, envOf_P, hmi, Result.andThen_ok, Sem.run_pure]
      intro a8 h8 ha8
      obtain ⟨Bk, e10⟩ : ∃ Bk, a8.tmps.getD 10 Go.undef = .pointer (some ⟨Bk, 0, none⟩) := by
        obtain ⟨m5, O5, hn5, _⟩ := h8
        obtain ⟨b, vals, ty, e, _⟩ := hn5.box_at (i := 10) (s := 10) (v := .slice none 0 0) (by simp only [go_sem, St.put, Nat.reduceEqDiff, if_false, if_true, tOf, stOf]) (by simp only [go_sem, St.put, Nat.reduceEqDiff, if_false, if_true, bOf, stOf])
        exact ⟨b, e⟩
      refine one_raw (i := 2) (rest := [3]) (d := 42) rfl (fun c e => by cases e) rfl (by decide) rfl rfl h8 (.func (.func 29) #[] #[.pointer (some ⟨Bk, 0, none⟩)]) ?_ ?_
      · have e10' : a8.eval (.tmp 10) = .pointer (some ⟨Bk, 0, none⟩) := e10
        simp only [execOp, Sem.run_bind, Instr.makeFunc, Sem.run_pure, Result.andThen_ok]
        simp [e10']
      intro a9 h9 ha9
      have e41 : a9.tmps.getD 41 Go.undef = .iface 32 (.slice none 0 0) := by
        obtain ⟨m5, O5, hn5, _⟩ := h9
        exact hn5.read_x 41 (by simp only [go_sem, St.put, Nat.reduceEqDiff, if_false, if_true, tOf, stOf])
      have e42 : a9.tmps.getD 42 Go.undef = .func (.func 29) #[] #[.pointer (some ⟨Bk, 0, none⟩)] := by
        obtain ⟨m5, O5, hn5, _⟩ := h9
        exact hn5.read_x 42 (by simp only [go_sem, St.put, Nat.reduceEqDiff, if_false, if_true, tOf, stOf])
      refine one_call (n := 45) (d := 43) (f := 28) Kno.top rfl rfl rfl (by decide) rfl (fun a w => Try.call28 a w) h9 (R := fun e w' => e = .returned (.tuple #[]) ∧ ∃ os, w' = Go.Sort.grow w7 os) (fun m1 O1 hn1 _ => ?_) ?_
      · rw [show Array.map a9.eval #[.tmp 41, .tmp 42] = #[a9.tmps.getD 41 Go.undef, a9.tmps.getD 42 Go.undef] from by simp [Act.eval], e41, e42]
        exact sortN
      rintro m8 O8 hn8 _ e w8 ⟨rfl, os, rfl⟩
      have hbel : Below w7.heap.size w7 (Go.Sort.grow w7 os) := ⟨rfl, rfl, rfl, by simp [Go.Sort.grow], fun k hk => Go.Sort.heap_grow_old _ _ hk⟩
      refine ⟨_, m8, .undef, rfl, Step.of_below hbel (fun _ _ => rfl), hE.keep [] _ _ (fun x hx => by cases hx) hn8.J ⟨hbel.os, hbel.tape, hbel.output, hbel.size, fun k hk _ => hbel.block k hk⟩, .undef _, trivial, fun h10 => ?_⟩
      show Exit.then _ _ Exit.normal _ _
      generalize a9.put (some 43) _ = a10 at h10
      generalize Go.Sort.grow w7 os = w10 at h10
      refine wpIn_seq (one_TW hE hm [(2, .x (.slice none 0 0))] [] (by kernel_rfl) (by kernel_rfl) h10 (by simp (decide := true) (maxDischargeDepth := 200) only [go_sem, Nat.reduceBEq, St.put, bare_undef] <;> (repeat' first | rfl | constructor)) ?_)
      intro a11 w11 h11
      have e2 : a11.tmps.getD 2 Go.undef = .slice none 0 0 := by
        obtain ⟨m5, O5, hn5, _⟩ := h11
        exact hn5.read_x 2 (by simp only [go_sem, Nat.reduceEqDiff, if_false, if_true, tOf, stOf])
      obtain ⟨m9, O9, r1, r2, r3, r4, r5, r6⟩ := h11
      have h12 := One.know (n := 45) (d := 2) (v := .slice none 0 0) (u := .sl true 0 [] none) (by decide) ⟨m9, O9, r1, r2, r3, r4, .nil _ _, r6⟩ e2 (bare_sl _ _ _ _)
      exact wpIn_ret ⟨.inr rfl, _, _, _, _, _, h12, by
        simp (decide := true) (maxDischargeDepth := 200) only [go_sem, Try.results12]
        rfl⟩
    · have hemp : (l.map cellV).isEmpty = false := by
        cases l with
        | nil => exact absurd rfl hl0
        | cons x l => rfl
      have hlen : (l.map cellV).length = l.toArray.size := by simp
      rw [hemp] at hrd hrow
      obtain ⟨g, ⟨lim, cap, cur, ty, hv, hh6, hle, hsz⟩, hge⟩ := hrow _ _ _ rfl
      rw [hlen] at hv hle
      subst hv
      have hcur := cur_of rfl hrd hh6
      have hKg : globK ≤ g := Nat.le_trans (hE.high _ q1.J) hge
      have hsz0 : l.toArray.size = l.length := by simp
      have h6 := OneG.after (Kn' := Kno.top) (d := 39) (by decide) (v := (.slice (some ⟨g, 0, none⟩) l.toArray.size cap)) q1 q2 q3 q4 q6 rfl hst6 hj6 trivial hge hh6
      refine oneG_SW hE 3 2 [(10, .ptr 10 0)] [(10, [.x (.slice (some ⟨g, 0, none⟩) l.toArray.size cap)])] [] (by decide) (by kernel_rfl) (by kernel_rfl) h6 (by simp (decide := true) (maxDischargeDepth := 200) only [go_sem, Nat.reduceBEq] <;> (repeat' first | rfl | constructor)) ?_
      clear h6 hrow hrd
      intro a7 w7 h7
      refine wpIn_seq (wpIn_region ?_)
      refine oneG_SW hE 0 1 [(10, .ptr 10 0), (40, .x (.slice (some ⟨g, 0, none⟩) l.toArray.size cap))] [(10, [.x (.slice (some ⟨g, 0, none⟩) l.toArray.size cap)])] [1, 2, 3] (by decide) (by kernel_rfl) (by kernel_rfl) h7 (by simp (decide := true) (maxDischargeDepth := 200) only [go_sem, Nat.reduceBEq] <;> (repeat' first | rfl | constructor)) ?_
      clear h7 a7 w7
      intro a7 w7 h7
      have e40 : a7.eval (.tmp 40) = (.slice (some ⟨g, 0, none⟩) l.toArray.size cap) := by
        obtain ⟨m5, O5, hn5, _⟩ := h7
        exact hn5.read_x 40 (by simp only [go_sem, Nat.reduceEqDiff, if_false, if_true, tOf, stOf])
      refine oneG_raw (i := 1) (rest := [2, 3]) (d := 41) rfl (fun c e => by cases e) rfl (by decide) rfl rfl h7 (.iface 32 (.slice (some ⟨g, 0, none⟩) l.toArray.size cap)) ?_ ?_
      · have hmi : (Instr.makeInterface 32 (.slice (some ⟨g, 0, none⟩) l.toArray.size cap)).run Try.prog w7 = .ok (.iface 32 (.slice (some ⟨g, 0, none⟩) l.toArray.size cap)) w7 := run_makeInterface _ _ _ (by kernel_rfl)
        simp only [execOp, Sem.run_bind, e40, envOf_P, hmi, Result.andThen_ok, Sem.run_pure]
      intro a8 h8 ha8
      obtain ⟨Bk, vals, tyB, e10, hB, hB0, hne⟩ : ∃ Bk vals tyB, a8.tmps.getD 10 Go.undef = .pointer (some ⟨Bk, 0, none⟩) ∧ w7.heap[Bk]? = some (.cells vals tyB (0, 0)) ∧ vals[0]? = some (.slice (some ⟨g, 0, none⟩) l.toArray.size cap) ∧ Bk ≠ g := by
        obtain ⟨m5, O5, hn5, _, _, _, _, _, hng, _⟩ := h8
        obtain ⟨b, vals, ty, e, e2, e3, e4⟩ := hn5.box_at (i := 10) (s := 10) (v := (.slice (some ⟨g, 0, none⟩) l.toArray.size cap)) (by simp only [go_sem, St.put, Nat.reduceEqDiff, if_false, if_true, tOf, stOf]) (by simp only [go_sem, St.put, Nat.reduceEqDiff, if_false, if_true, bOf, stOf])
        exact ⟨b, vals, ty, e, e2, e3, fun e => hng (e ▸ e4)⟩
      refine oneG_raw (i := 2) (rest := [3]) (d := 42) rfl (fun c e => by cases e) rfl (by decide) rfl rfl h8 (.func (.func 29) #[] #[.pointer (some ⟨Bk, 0, none⟩)]) ?_ ?_
      · have e10' : a8.eval (.tmp 10) = .pointer (some ⟨Bk, 0, none⟩) := e10
        simp only [execOp, Sem.run_bind, Instr.makeFunc, Sem.run_pure, Result.andThen_ok]
        simp [e10']
      intro a9 h9 ha9
      have e41 : a9.tmps.getD 41 Go.undef = .iface 32 (.slice (some ⟨g, 0, none⟩) l.toArray.size cap) := by
        obtain ⟨m5, O5, hn5, _⟩ := h9
        exact hn5.read_x 41 (by simp only [go_sem, St.put, Nat.reduceEqDiff, if_false, if_true, tOf, stOf])
      have e42 : a9.tmps.getD 42 Go.undef = .func (.func 29) #[] #[.pointer (some ⟨Bk, 0, none⟩)] := by
        obtain ⟨m5, O5, hn5, _⟩ := h9
        exact hn5.read_x 42 (by simp only [go_sem, St.put, Nat.reduceEqDiff, if_false, if_true, tOf, stOf])
      have hgs : w.heap.size ≤ g := Nat.le_trans q3.ext.size hge
      obtain ⟨hj9, hh9⟩ : (envOf []).J w7 ∧ w7.heap[g]? = some (.cells cur ty (0, 0)) := by
        obtain ⟨m5, O5, hn5, _, _, _, _, _, _, hh9, _⟩ := h9
        exact ⟨hn5.J, hh9⟩
      have hS := sortC (blk := g) (Bk := Bk) (cap := cap) (d := l.toArray) hh9 (by simpa using hcur) hB hB0 hne hle (by unfold MX; omega) hKg hj9
      refine one_callX (i := 3) (rest := []) rfl rfl rfl rfl (fun a w => Try.call28 a w) (by rw [show Array.map a9.eval #[.tmp 41, .tmp 42] = #[a9.tmps.getD 41 Go.undef, a9.tmps.getD 42 Go.undef] from by simp [Act.eval], e41, e42]; exact hS) ?_
      rintro e w8 ⟨rfl, d', hp, hs8, hb8, m8, hbx⟩
      refine ⟨_, rfl, ?_⟩
      obtain ⟨hsrt, hpm⟩ := srt_of hp hs8 (by simpa using hnd)
      have hrn : d'.toList = readsN nd := reads_eq hsrt (fun p => (hpm.mem_iff).trans (by simpa using hmem p))
      have hds : d'.size = l.toArray.size := hp.1
      have h10 := OneG.done (v := (.slice (some ⟨g, 0, none⟩) l.toArray.size cap)) (u := .sl false 3 ((readsN nd).map cellV) none) hE h9 ⟨_, _, _, rfl⟩ hgs hKg hb8 (fun m hm => by
        have := rd_row hbx (by rw [hds]; exact hle) m hm
        rw [hds, hrn] at this
        exact this)
      have h11 := h10.putU (d := 43) (by decide) rfl (.tuple #[])
      show Exit.then _ _ Exit.normal _ _
      generalize a9.put (some 43) _ = a10 at h11
      refine wpIn_seq (one_TW hE hm [(2, .x (.slice (some ⟨g, 0, none⟩) l.toArray.size cap))] [] (by kernel_rfl) (by kernel_rfl) h11 (by simp (decide := true) (maxDischargeDepth := 200) only [go_sem, Nat.reduceBEq, St.put] <;> (repeat' first | rfl | constructor)) ?_)
      intro a11 w11 h12
      have e2 : a11.tmps.getD 2 Go.undef = (.slice (some ⟨g, 0, none⟩) l.toArray.size cap) := by
        obtain ⟨m5, O5, hn5, _⟩ := h12
        exact hn5.read_x 2 (by simp only [go_sem, Nat.reduceEqDiff, if_false, if_true, tOf, stOf])
      have h13 := One.know (n := 45) (d := 2) (by decide) h12 e2 (bare_sl _ _ _ _)
      have hne2 : (readsN nd).isEmpty = false := by
        cases hc : readsN nd with
        | nil =>
          rw [hc] at hrn
          have h0 : l.toArray.size = 0 := by rw [← hds, ← Array.length_toList, hrn]; rfl
          exact absurd (List.eq_nil_of_length_eq_zero (by omega)) hl0
        | cons x r => rfl
      have hsz3 : szO (readsN nd) = 3 := by
        cases hc : readsN nd with
        | nil => rw [hc] at hne2; cases hne2
        | cons x r => rfl
      exact wpIn_ret ⟨.inr rfl, _, _, _, _, _, h13, by
        rw [hne2, hsz3]
        simp (decide := true) (maxDischargeDepth := 200) only [go_sem, Try.results12]⟩
end Go.Proofs.Ytiphliochoengaa
