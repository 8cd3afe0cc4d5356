/- Chapter 10's laws: how many arguments each function takes. -/
import Derived.Test.YtakcoalbidjahaaDoorMP
namespace Go.Proofs.YtakcoalbidjahaaDoor
open Go Go.RowKit
set_option linter.unusedSimpArgs false
def rowsN (n : Nat) : List RW := rowsOf (List.replicate n (1, 1, ⟨#[]⟩))
theorem rowsN_ok {n : Nat} (h : n ≤ 6) : okAw (false, 1, rowsN n) := rowsOf_ok (fun v hv => by rw [(List.mem_replicate.1 hv).2]; unfold inR; decide) (by rw [List.length_replicate]; omega)
theorem rowsN_snoc (n : Nat) : (rowsN (n + 1)).map rwV = (rowsN n).map rwV ++ [.sl false 3 [vl 1 1 ⟨#[]⟩] none] := by
  unfold rowsN rowsOf
  rw [List.replicate_succ', List.map_append, List.map_append]
  rfl
theorem rowsN_len (n : Nat) : (rowsN n).length = n := by unfold rowsN rowsOf; rw [List.length_map, List.length_replicate]
/-- Rows, whether there is one or none. -/
theorem gcall_rows {name : ByteArray} {n : Nat} (h : n ≤ 6) (nl : Bool) : FE encNA GCall [.x (.string name), .sl nl 1 ((rowsN n).map rwV) none] = some (tv (callW name (rowsN n))) := GCall_of ⟨fun _ => rfl, (rowsN_ok h).2⟩
def nm10 : List (ByteArray × Int × T3) := [(⟨#[83, 85, 77]⟩, -1, (0, 0, ⟨#[]⟩)), (⟨#[78, 79, 84]⟩, 1, (4, 3, ⟨#[]⟩)), (⟨#[65, 66, 83]⟩, 1, (1, 1, ⟨#[]⟩)), (⟨#[83, 73, 71, 78]⟩, 1, (1, 1, ⟨#[]⟩)), (⟨#[77, 79, 68]⟩, 2, (1, 0, ⟨#[]⟩)), (⟨#[76, 69, 78]⟩, 1, (1, 1, ⟨#[]⟩)), (⟨#[76, 69, 70, 84]⟩, 2, (2, 0, ⟨#[49]⟩)), (⟨#[82, 73, 71, 72, 84]⟩, 2, (2, 0, ⟨#[49]⟩)), (⟨#[77, 73, 68]⟩, 3, (2, 0, ⟨#[49]⟩)), (⟨#[85, 80, 80, 69, 82]⟩, 1, (2, 0, ⟨#[49]⟩)), (⟨#[76, 79, 87, 69, 82]⟩, 1, (2, 0, ⟨#[49]⟩)), (⟨#[70, 73, 78, 68]⟩, 2, (1, 1, ⟨#[]⟩)), (⟨#[73, 83, 69, 82, 82]⟩, 1, (3, 0, ⟨#[]⟩)), (⟨#[73, 83, 66, 76, 65, 78, 75]⟩, 1, (3, 0, ⟨#[]⟩)), (⟨#[73, 70]⟩, 3, (4, 3, ⟨#[]⟩)), (⟨#[67, 72, 79, 79, 83, 69]⟩, -2, (0, 0, ⟨#[]⟩)), (⟨#[77, 65, 84, 67, 72]⟩, 2, (1, 1, ⟨#[]⟩)), (⟨#[83, 85, 77, 83]⟩, -3, (0, 0, ⟨#[]⟩))]
def args10 : Bool := nm10.all fun p => (List.range 7).all fun n => decide (callW p.1 (rowsN n) = if p.2.1 = -1 then (1, (n : Int), ⟨#[]⟩) else if p.2.1 = -2 then (if n < 2 then (4, 6, ⟨#[]⟩) else (1, 1, ⟨#[]⟩)) else if p.2.1 = -3 then (4, 5, ⟨#[]⟩) else if (n : Int) = p.2.1 then p.2.2 else (4, 6, ⟨#[]⟩))
theorem args10_true : args10 = true := by kernel_rfl
theorem args_at {a : ByteArray} {b : Int} {w : T3} {n : Nat} (i : Nat) (h : nm10[i]? = some (a, b, w)) (hn : n ≤ 6) : callW a (rowsN n) = if b = -1 then (1, (n : Int), ⟨#[]⟩) else if b = -2 then (if n < 2 then (4, 6, ⟨#[]⟩) else (1, 1, ⟨#[]⟩)) else if b = -3 then (4, 5, ⟨#[]⟩) else if (n : Int) = b then w else (4, 6, ⟨#[]⟩) :=
  of_decide_eq_true (List.all_eq_true.1 (List.all_eq_true.1 args10_true _ (List.mem_of_getElem? h)) n (List.mem_range.2 (by omega)))
set_option maxHeartbeats 64000000 in
set_option maxRecDepth 100000 in
theorem args10_fun : FunV 5 FNum2 := by
  refine fun_of_run (E := envOf [(9, FAlive10), (11, (FE encNA GCall))]) (k := 2) (envOK_of _ ⟨alive10_fun, gcall_fun, trivial⟩) (by kernel_rfl) Tryd.func5 rfl (fun a w => Tryd.call5 a w) Tryd.ntmps5 (by kernel_rfl) (by decide) (by decide) ?_
  intro us r hF hdat
  unfold FNum2 at hF
  split at hF
  case h_2 => cases hF
  rename_i a b
  split at hF
  case isFalse => cases hF
  rename_i h
  obtain ⟨ha, hb⟩ := h
  cases hF
  clear hdat
  refine ⟨rfl, ?_⟩
  have e1 : FAlive10 [] = some (.x (.bool true)) := rfl
  by_cases h1 : a < 0
  · have d1 := decide_eq_true h1
    simp (decide := true) (maxDischargeDepth := 200) only [go_sem, e1, d1, Tryd.results5]
  have d1 := decide_eq_false h1
  by_cases h2 : ((1 + 1 + 1 + 1 + 1 + 1 + 1 + 1 + 1 + 1 + 1 + 1 + 1 + 1 + 1 + 1 + 1 + 1 : Nat) : Int) ≤ a
  · have d2 := decide_eq_true h2
    simp (decide := true) (maxDischargeDepth := 200) only [go_sem, e1, d1, d2, Tryd.results5]
  have d2 := decide_eq_false h2
  by_cases h3 : b < 0
  · have d3 := decide_eq_true h3
    simp (decide := true) (maxDischargeDepth := 200) only [go_sem, e1, d1, d2, d3, Tryd.results5]
  have d3 := decide_eq_false h3
  by_cases h4 : (6 : Int) < b
  · have d4 := decide_eq_true h4
    simp (decide := true) (maxDischargeDepth := 200) only [go_sem, e1, d1, d2, d3, d4, Tryd.results5]
  have d4 := decide_eq_false h4
  obtain ⟨n, rfl⟩ : ∃ n : Nat, b = (n : Int) := ⟨b.toNat, by omega⟩
  simp (decide := true) (maxDischargeDepth := 200) only [go_sem, e1, d1, d2, d3, d4, Tryd.results5]
  refine loop_nil 8 1 45 (by simp only [go_sem]; rfl) ?_
  refine loop_of (X := {i : Nat // i ≤ n}) (fun i => [(0, .x (.int .i64 a)), (1, .x (.int .i64 (n : Int))), (6, .sl false 1 [.x (.string ⟨#[83, 85, 77]⟩), .x (.string ⟨#[78, 79, 84]⟩), .x (.string ⟨#[65, 66, 83]⟩), .x (.string ⟨#[83, 73, 71, 78]⟩), .x (.string ⟨#[77, 79, 68]⟩), .x (.string ⟨#[76, 69, 78]⟩), .x (.string ⟨#[76, 69, 70, 84]⟩), .x (.string ⟨#[82, 73, 71, 72, 84]⟩), .x (.string ⟨#[77, 73, 68]⟩), .x (.string ⟨#[85, 80, 80, 69, 82]⟩), .x (.string ⟨#[76, 79, 87, 69, 82]⟩), .x (.string ⟨#[70, 73, 78, 68]⟩), .x (.string ⟨#[73, 83, 69, 82, 82]⟩), .x (.string ⟨#[73, 83, 66, 76, 65, 78, 75]⟩), .x (.string ⟨#[73, 70]⟩), .x (.string ⟨#[67, 72, 79, 79, 83, 69]⟩), .x (.string ⟨#[77, 65, 84, 67, 72]⟩), .x (.string ⟨#[83, 85, 77, 83]⟩)] none), (7, .sl false 1 [.x (.int .i64 (-1)), .x (.int .i64 (1)), .x (.int .i64 (1)), .x (.int .i64 (1)), .x (.int .i64 (2)), .x (.int .i64 (1)), .x (.int .i64 (2)), .x (.int .i64 (2)), .x (.int .i64 (3)), .x (.int .i64 (1)), .x (.int .i64 (1)), .x (.int .i64 (2)), .x (.int .i64 (1)), .x (.int .i64 (1)), .x (.int .i64 (3)), .x (.int .i64 (-2)), .x (.int .i64 (2)), .x (.int .i64 (-3))] none), (8, .sl ((rowsN i.1).map rwV).isEmpty 1 ((rowsN i.1).map rwV) (some 45)), (9, .x (.int .i64 ((i.1 : Nat) : Int)))]) (fun _ => []) (fun i => n - i.1) ⟨0, by omega⟩ (by simp (decide := true) only [go_sem, rowsN, rowsOf, List.replicate_zero, List.map_nil, List.isEmpty_nil, Int.natCast_zero] <;> (repeat' first | rfl | constructor)) (by simp (decide := true) only [go_sem] <;> (repeat' first | rfl | constructor)) (fun ⟨i, hi0⟩ => ?_)
  simp only
  by_cases hi : i < n
  · have c1 : decide ((i : Int) < (n : Int)) = true := decide_eq_true (by omega)
    have c4 := count_up (i := i) (by omega)
    have e := rowsN_snoc i
    have hle : ((rowsN i).map rwV).length ≤ 6 := by rw [List.length_map, rowsN_len]; omega
    generalize (rowsN i).map rwV = al at e hle ⊢
    have g1 := growV_row (E := (envOf [(9, FAlive10), (11, (FE encNA GCall))])) (el := 22) (n := 1) sz22 by22 ze22 (by decide) rfl (es := al) (es' := [.sl false 3 [vl 1 1 ⟨#[]⟩] none]) (m := 1) (fun _ => rfl) rfl (by simp only [List.length_cons, List.length_nil]; omega) (by simp only [List.length_cons, List.length_nil]; omega)
    simp only [vl] at g1 e
    simp (decide := true) (maxDischargeDepth := 200) only [go_sem, c1, c4, g1, Tryd.results5]
    refine ⟨⟨i + 1, hi⟩, ?_, ?_, ?_⟩
    · simp (decide := true) (maxDischargeDepth := 200) only [go_sem, e]
    · simp (decide := true) (maxDischargeDepth := 200) only [go_sem, e]
    · simp only; omega
  · obtain rfl : i = n := by omega
    have c1 : decide ((i : Int) < (i : Int)) = false := decide_eq_false (by omega)
    have hw : a = 0 ∨ a = 1 ∨ a = 2 ∨ a = 3 ∨ a = 4 ∨ a = 5 ∨ a = 6 ∨ a = 7 ∨ a = 8 ∨ a = 9 ∨ a = 10 ∨ a = 11 ∨ a = 12 ∨ a = 13 ∨ a = 14 ∨ a = 15 ∨ a = 16 ∨ a = 17 := by omega
    have h6 : i ≤ 6 := by omega
    clear d1 d2 d3 d4 h1 h2 h3 h4 ha hb hi e1
    rcases hw with rfl | rfl | rfl | rfl | rfl | rfl | rfl | rfl | rfl | rfl | rfl | rfl | rfl | rfl | rfl | rfl | rfl | rfl
    · have c : FE encNA GCall [.x (.string ⟨#[83, 85, 77]⟩), .sl ((rowsN i).map rwV).isEmpty 1 ((rowsN i).map rwV) none] = some (tv (1, (i : Int), ⟨#[]⟩)) := (gcall_rows (by omega) _).trans (by rw [args_at 0 rfl (by omega)]; rfl)
      simp (decide := true) (maxDischargeDepth := 200) only [go_sem, c1, c, show Int.toNat 0 = 0 from rfl, Tryd.results5]
    · by_cases hq : (i : Int) = 1
      · have c : FE encNA GCall [.x (.string ⟨#[78, 79, 84]⟩), .sl ((rowsN i).map rwV).isEmpty 1 ((rowsN i).map rwV) none] = some (tv (4, 3, ⟨#[]⟩)) := (gcall_rows (by omega) _).trans (by rw [args_at 1 rfl (by omega)]; rw [if_neg (by decide), if_neg (by decide), if_neg (by decide), if_pos hq])
        have q : decide ((i : Int) = 1) = true := decide_eq_true hq
        simp (decide := true) (maxDischargeDepth := 200) only [go_sem, c1, c, q, hq, show Int.toNat 1 = 1 from rfl, Tryd.results5]
      · have c : FE encNA GCall [.x (.string ⟨#[78, 79, 84]⟩), .sl ((rowsN i).map rwV).isEmpty 1 ((rowsN i).map rwV) none] = some (tv (4, 6, ⟨#[]⟩)) := (gcall_rows (by omega) _).trans (by rw [args_at 1 rfl (by omega)]; rw [if_neg (by decide), if_neg (by decide), if_neg (by decide), if_neg hq])
        have q : decide ((i : Int) = 1) = false := decide_eq_false hq
        simp (decide := true) (maxDischargeDepth := 200) only [go_sem, c1, c, q, hq, show Int.toNat 1 = 1 from rfl, Tryd.results5]
    · by_cases hq : (i : Int) = 1
      · have c : FE encNA GCall [.x (.string ⟨#[65, 66, 83]⟩), .sl ((rowsN i).map rwV).isEmpty 1 ((rowsN i).map rwV) none] = some (tv (1, 1, ⟨#[]⟩)) := (gcall_rows (by omega) _).trans (by rw [args_at 2 rfl (by omega)]; rw [if_neg (by decide), if_neg (by decide), if_neg (by decide), if_pos hq])
        have q : decide ((i : Int) = 1) = true := decide_eq_true hq
        simp (decide := true) (maxDischargeDepth := 200) only [go_sem, c1, c, q, hq, show Int.toNat 2 = 2 from rfl, Tryd.results5]
      · have c : FE encNA GCall [.x (.string ⟨#[65, 66, 83]⟩), .sl ((rowsN i).map rwV).isEmpty 1 ((rowsN i).map rwV) none] = some (tv (4, 6, ⟨#[]⟩)) := (gcall_rows (by omega) _).trans (by rw [args_at 2 rfl (by omega)]; rw [if_neg (by decide), if_neg (by decide), if_neg (by decide), if_neg hq])
        have q : decide ((i : Int) = 1) = false := decide_eq_false hq
        simp (decide := true) (maxDischargeDepth := 200) only [go_sem, c1, c, q, hq, show Int.toNat 2 = 2 from rfl, Tryd.results5]
    · by_cases hq : (i : Int) = 1
      · have c : FE encNA GCall [.x (.string ⟨#[83, 73, 71, 78]⟩), .sl ((rowsN i).map rwV).isEmpty 1 ((rowsN i).map rwV) none] = some (tv (1, 1, ⟨#[]⟩)) := (gcall_rows (by omega) _).trans (by rw [args_at 3 rfl (by omega)]; rw [if_neg (by decide), if_neg (by decide), if_neg (by decide), if_pos hq])
        have q : decide ((i : Int) = 1) = true := decide_eq_true hq
        simp (decide := true) (maxDischargeDepth := 200) only [go_sem, c1, c, q, hq, show Int.toNat 3 = 3 from rfl, Tryd.results5]
      · have c : FE encNA GCall [.x (.string ⟨#[83, 73, 71, 78]⟩), .sl ((rowsN i).map rwV).isEmpty 1 ((rowsN i).map rwV) none] = some (tv (4, 6, ⟨#[]⟩)) := (gcall_rows (by omega) _).trans (by rw [args_at 3 rfl (by omega)]; rw [if_neg (by decide), if_neg (by decide), if_neg (by decide), if_neg hq])
        have q : decide ((i : Int) = 1) = false := decide_eq_false hq
        simp (decide := true) (maxDischargeDepth := 200) only [go_sem, c1, c, q, hq, show Int.toNat 3 = 3 from rfl, Tryd.results5]
    · by_cases hq : (i : Int) = 2
      · have c : FE encNA GCall [.x (.string ⟨#[77, 79, 68]⟩), .sl ((rowsN i).map rwV).isEmpty 1 ((rowsN i).map rwV) none] = some (tv (1, 0, ⟨#[]⟩)) := (gcall_rows (by omega) _).trans (by rw [args_at 4 rfl (by omega)]; rw [if_neg (by decide), if_neg (by decide), if_neg (by decide), if_pos hq])
        have q : decide ((i : Int) = 2) = true := decide_eq_true hq
        simp (decide := true) (maxDischargeDepth := 200) only [go_sem, c1, c, q, hq, show Int.toNat 4 = 4 from rfl, Tryd.results5]
      · have c : FE encNA GCall [.x (.string ⟨#[77, 79, 68]⟩), .sl ((rowsN i).map rwV).isEmpty 1 ((rowsN i).map rwV) none] = some (tv (4, 6, ⟨#[]⟩)) := (gcall_rows (by omega) _).trans (by rw [args_at 4 rfl (by omega)]; rw [if_neg (by decide), if_neg (by decide), if_neg (by decide), if_neg hq])
        have q : decide ((i : Int) = 2) = false := decide_eq_false hq
        simp (decide := true) (maxDischargeDepth := 200) only [go_sem, c1, c, q, hq, show Int.toNat 4 = 4 from rfl, Tryd.results5]
    · by_cases hq : (i : Int) = 1
      · have c : FE encNA GCall [.x (.string ⟨#[76, 69, 78]⟩), .sl ((rowsN i).map rwV).isEmpty 1 ((rowsN i).map rwV) none] = some (tv (1, 1, ⟨#[]⟩)) := (gcall_rows (by omega) _).trans (by rw [args_at 5 rfl (by omega)]; rw [if_neg (by decide), if_neg (by decide), if_neg (by decide), if_pos hq])
        have q : decide ((i : Int) = 1) = true := decide_eq_true hq
        simp (decide := true) (maxDischargeDepth := 200) only [go_sem, c1, c, q, hq, show Int.toNat 5 = 5 from rfl, Tryd.results5]
      · have c : FE encNA GCall [.x (.string ⟨#[76, 69, 78]⟩), .sl ((rowsN i).map rwV).isEmpty 1 ((rowsN i).map rwV) none] = some (tv (4, 6, ⟨#[]⟩)) := (gcall_rows (by omega) _).trans (by rw [args_at 5 rfl (by omega)]; rw [if_neg (by decide), if_neg (by decide), if_neg (by decide), if_neg hq])
        have q : decide ((i : Int) = 1) = false := decide_eq_false hq
        simp (decide := true) (maxDischargeDepth := 200) only [go_sem, c1, c, q, hq, show Int.toNat 5 = 5 from rfl, Tryd.results5]
    · by_cases hq : (i : Int) = 2
      · have c : FE encNA GCall [.x (.string ⟨#[76, 69, 70, 84]⟩), .sl ((rowsN i).map rwV).isEmpty 1 ((rowsN i).map rwV) none] = some (tv (2, 0, ⟨#[49]⟩)) := (gcall_rows (by omega) _).trans (by rw [args_at 6 rfl (by omega)]; rw [if_neg (by decide), if_neg (by decide), if_neg (by decide), if_pos hq])
        have q : decide ((i : Int) = 2) = true := decide_eq_true hq
        simp (decide := true) (maxDischargeDepth := 200) only [go_sem, c1, c, q, hq, show Int.toNat 6 = 6 from rfl, Tryd.results5]
      · have c : FE encNA GCall [.x (.string ⟨#[76, 69, 70, 84]⟩), .sl ((rowsN i).map rwV).isEmpty 1 ((rowsN i).map rwV) none] = some (tv (4, 6, ⟨#[]⟩)) := (gcall_rows (by omega) _).trans (by rw [args_at 6 rfl (by omega)]; rw [if_neg (by decide), if_neg (by decide), if_neg (by decide), if_neg hq])
        have q : decide ((i : Int) = 2) = false := decide_eq_false hq
        simp (decide := true) (maxDischargeDepth := 200) only [go_sem, c1, c, q, hq, show Int.toNat 6 = 6 from rfl, Tryd.results5]
    · by_cases hq : (i : Int) = 2
      · have c : FE encNA GCall [.x (.string ⟨#[82, 73, 71, 72, 84]⟩), .sl ((rowsN i).map rwV).isEmpty 1 ((rowsN i).map rwV) none] = some (tv (2, 0, ⟨#[49]⟩)) := (gcall_rows (by omega) _).trans (by rw [args_at 7 rfl (by omega)]; rw [if_neg (by decide), if_neg (by decide), if_neg (by decide), if_pos hq])
        have q : decide ((i : Int) = 2) = true := decide_eq_true hq
        simp (decide := true) (maxDischargeDepth := 200) only [go_sem, c1, c, q, hq, show Int.toNat 7 = 7 from rfl, Tryd.results5]
      · have c : FE encNA GCall [.x (.string ⟨#[82, 73, 71, 72, 84]⟩), .sl ((rowsN i).map rwV).isEmpty 1 ((rowsN i).map rwV) none] = some (tv (4, 6, ⟨#[]⟩)) := (gcall_rows (by omega) _).trans (by rw [args_at 7 rfl (by omega)]; rw [if_neg (by decide), if_neg (by decide), if_neg (by decide), if_neg hq])
        have q : decide ((i : Int) = 2) = false := decide_eq_false hq
        simp (decide := true) (maxDischargeDepth := 200) only [go_sem, c1, c, q, hq, show Int.toNat 7 = 7 from rfl, Tryd.results5]
    · by_cases hq : (i : Int) = 3
      · have c : FE encNA GCall [.x (.string ⟨#[77, 73, 68]⟩), .sl ((rowsN i).map rwV).isEmpty 1 ((rowsN i).map rwV) none] = some (tv (2, 0, ⟨#[49]⟩)) := (gcall_rows (by omega) _).trans (by rw [args_at 8 rfl (by omega)]; rw [if_neg (by decide), if_neg (by decide), if_neg (by decide), if_pos hq])
        have q : decide ((i : Int) = 3) = true := decide_eq_true hq
        simp (decide := true) (maxDischargeDepth := 200) only [go_sem, c1, c, q, hq, show Int.toNat 8 = 8 from rfl, Tryd.results5]
      · have c : FE encNA GCall [.x (.string ⟨#[77, 73, 68]⟩), .sl ((rowsN i).map rwV).isEmpty 1 ((rowsN i).map rwV) none] = some (tv (4, 6, ⟨#[]⟩)) := (gcall_rows (by omega) _).trans (by rw [args_at 8 rfl (by omega)]; rw [if_neg (by decide), if_neg (by decide), if_neg (by decide), if_neg hq])
        have q : decide ((i : Int) = 3) = false := decide_eq_false hq
        simp (decide := true) (maxDischargeDepth := 200) only [go_sem, c1, c, q, hq, show Int.toNat 8 = 8 from rfl, Tryd.results5]
    · by_cases hq : (i : Int) = 1
      · have c : FE encNA GCall [.x (.string ⟨#[85, 80, 80, 69, 82]⟩), .sl ((rowsN i).map rwV).isEmpty 1 ((rowsN i).map rwV) none] = some (tv (2, 0, ⟨#[49]⟩)) := (gcall_rows (by omega) _).trans (by rw [args_at 9 rfl (by omega)]; rw [if_neg (by decide), if_neg (by decide), if_neg (by decide), if_pos hq])
        have q : decide ((i : Int) = 1) = true := decide_eq_true hq
        simp (decide := true) (maxDischargeDepth := 200) only [go_sem, c1, c, q, hq, show Int.toNat 9 = 9 from rfl, Tryd.results5]
      · have c : FE encNA GCall [.x (.string ⟨#[85, 80, 80, 69, 82]⟩), .sl ((rowsN i).map rwV).isEmpty 1 ((rowsN i).map rwV) none] = some (tv (4, 6, ⟨#[]⟩)) := (gcall_rows (by omega) _).trans (by rw [args_at 9 rfl (by omega)]; rw [if_neg (by decide), if_neg (by decide), if_neg (by decide), if_neg hq])
        have q : decide ((i : Int) = 1) = false := decide_eq_false hq
        simp (decide := true) (maxDischargeDepth := 200) only [go_sem, c1, c, q, hq, show Int.toNat 9 = 9 from rfl, Tryd.results5]
    · by_cases hq : (i : Int) = 1
      · have c : FE encNA GCall [.x (.string ⟨#[76, 79, 87, 69, 82]⟩), .sl ((rowsN i).map rwV).isEmpty 1 ((rowsN i).map rwV) none] = some (tv (2, 0, ⟨#[49]⟩)) := (gcall_rows (by omega) _).trans (by rw [args_at 10 rfl (by omega)]; rw [if_neg (by decide), if_neg (by decide), if_neg (by decide), if_pos hq])
        have q : decide ((i : Int) = 1) = true := decide_eq_true hq
        simp (decide := true) (maxDischargeDepth := 200) only [go_sem, c1, c, q, hq, show Int.toNat 10 = 10 from rfl, Tryd.results5]
      · have c : FE encNA GCall [.x (.string ⟨#[76, 79, 87, 69, 82]⟩), .sl ((rowsN i).map rwV).isEmpty 1 ((rowsN i).map rwV) none] = some (tv (4, 6, ⟨#[]⟩)) := (gcall_rows (by omega) _).trans (by rw [args_at 10 rfl (by omega)]; rw [if_neg (by decide), if_neg (by decide), if_neg (by decide), if_neg hq])
        have q : decide ((i : Int) = 1) = false := decide_eq_false hq
        simp (decide := true) (maxDischargeDepth := 200) only [go_sem, c1, c, q, hq, show Int.toNat 10 = 10 from rfl, Tryd.results5]
    · by_cases hq : (i : Int) = 2
      · have c : FE encNA GCall [.x (.string ⟨#[70, 73, 78, 68]⟩), .sl ((rowsN i).map rwV).isEmpty 1 ((rowsN i).map rwV) none] = some (tv (1, 1, ⟨#[]⟩)) := (gcall_rows (by omega) _).trans (by rw [args_at 11 rfl (by omega)]; rw [if_neg (by decide), if_neg (by decide), if_neg (by decide), if_pos hq])
        have q : decide ((i : Int) = 2) = true := decide_eq_true hq
        simp (decide := true) (maxDischargeDepth := 200) only [go_sem, c1, c, q, hq, show Int.toNat 11 = 11 from rfl, Tryd.results5]
      · have c : FE encNA GCall [.x (.string ⟨#[70, 73, 78, 68]⟩), .sl ((rowsN i).map rwV).isEmpty 1 ((rowsN i).map rwV) none] = some (tv (4, 6, ⟨#[]⟩)) := (gcall_rows (by omega) _).trans (by rw [args_at 11 rfl (by omega)]; rw [if_neg (by decide), if_neg (by decide), if_neg (by decide), if_neg hq])
        have q : decide ((i : Int) = 2) = false := decide_eq_false hq
        simp (decide := true) (maxDischargeDepth := 200) only [go_sem, c1, c, q, hq, show Int.toNat 11 = 11 from rfl, Tryd.results5]
    · by_cases hq : (i : Int) = 1
      · have c : FE encNA GCall [.x (.string ⟨#[73, 83, 69, 82, 82]⟩), .sl ((rowsN i).map rwV).isEmpty 1 ((rowsN i).map rwV) none] = some (tv (3, 0, ⟨#[]⟩)) := (gcall_rows (by omega) _).trans (by rw [args_at 12 rfl (by omega)]; rw [if_neg (by decide), if_neg (by decide), if_neg (by decide), if_pos hq])
        have q : decide ((i : Int) = 1) = true := decide_eq_true hq
        simp (decide := true) (maxDischargeDepth := 200) only [go_sem, c1, c, q, hq, show Int.toNat 12 = 12 from rfl, Tryd.results5]
      · have c : FE encNA GCall [.x (.string ⟨#[73, 83, 69, 82, 82]⟩), .sl ((rowsN i).map rwV).isEmpty 1 ((rowsN i).map rwV) none] = some (tv (4, 6, ⟨#[]⟩)) := (gcall_rows (by omega) _).trans (by rw [args_at 12 rfl (by omega)]; rw [if_neg (by decide), if_neg (by decide), if_neg (by decide), if_neg hq])
        have q : decide ((i : Int) = 1) = false := decide_eq_false hq
        simp (decide := true) (maxDischargeDepth := 200) only [go_sem, c1, c, q, hq, show Int.toNat 12 = 12 from rfl, Tryd.results5]
    · by_cases hq : (i : Int) = 1
      · have c : FE encNA GCall [.x (.string ⟨#[73, 83, 66, 76, 65, 78, 75]⟩), .sl ((rowsN i).map rwV).isEmpty 1 ((rowsN i).map rwV) none] = some (tv (3, 0, ⟨#[]⟩)) := (gcall_rows (by omega) _).trans (by rw [args_at 13 rfl (by omega)]; rw [if_neg (by decide), if_neg (by decide), if_neg (by decide), if_pos hq])
        have q : decide ((i : Int) = 1) = true := decide_eq_true hq
        simp (decide := true) (maxDischargeDepth := 200) only [go_sem, c1, c, q, hq, show Int.toNat 13 = 13 from rfl, Tryd.results5]
      · have c : FE encNA GCall [.x (.string ⟨#[73, 83, 66, 76, 65, 78, 75]⟩), .sl ((rowsN i).map rwV).isEmpty 1 ((rowsN i).map rwV) none] = some (tv (4, 6, ⟨#[]⟩)) := (gcall_rows (by omega) _).trans (by rw [args_at 13 rfl (by omega)]; rw [if_neg (by decide), if_neg (by decide), if_neg (by decide), if_neg hq])
        have q : decide ((i : Int) = 1) = false := decide_eq_false hq
        simp (decide := true) (maxDischargeDepth := 200) only [go_sem, c1, c, q, hq, show Int.toNat 13 = 13 from rfl, Tryd.results5]
    · by_cases hq : (i : Int) = 3
      · have c : FE encNA GCall [.x (.string ⟨#[73, 70]⟩), .sl ((rowsN i).map rwV).isEmpty 1 ((rowsN i).map rwV) none] = some (tv (4, 3, ⟨#[]⟩)) := (gcall_rows (by omega) _).trans (by rw [args_at 14 rfl (by omega)]; rw [if_neg (by decide), if_neg (by decide), if_neg (by decide), if_pos hq])
        have q : decide ((i : Int) = 3) = true := decide_eq_true hq
        simp (decide := true) (maxDischargeDepth := 200) only [go_sem, c1, c, q, hq, show Int.toNat 14 = 14 from rfl, Tryd.results5]
      · have c : FE encNA GCall [.x (.string ⟨#[73, 70]⟩), .sl ((rowsN i).map rwV).isEmpty 1 ((rowsN i).map rwV) none] = some (tv (4, 6, ⟨#[]⟩)) := (gcall_rows (by omega) _).trans (by rw [args_at 14 rfl (by omega)]; rw [if_neg (by decide), if_neg (by decide), if_neg (by decide), if_neg hq])
        have q : decide ((i : Int) = 3) = false := decide_eq_false hq
        simp (decide := true) (maxDischargeDepth := 200) only [go_sem, c1, c, q, hq, show Int.toNat 14 = 14 from rfl, Tryd.results5]
    · by_cases hq : i < 2
      · have c : FE encNA GCall [.x (.string ⟨#[67, 72, 79, 79, 83, 69]⟩), .sl ((rowsN i).map rwV).isEmpty 1 ((rowsN i).map rwV) none] = some (tv (4, 6, ⟨#[]⟩)) := (gcall_rows (by omega) _).trans (by rw [args_at 15 rfl (by omega)]; rw [if_neg (by decide), if_pos rfl, if_pos hq])
        have q : decide ((i : Int) < 2) = true := decide_eq_true (by omega)
        simp (decide := true) (maxDischargeDepth := 200) only [go_sem, c1, c, q, show Int.toNat 15 = 15 from rfl, Tryd.results5]
      · have c : FE encNA GCall [.x (.string ⟨#[67, 72, 79, 79, 83, 69]⟩), .sl ((rowsN i).map rwV).isEmpty 1 ((rowsN i).map rwV) none] = some (tv (1, 1, ⟨#[]⟩)) := (gcall_rows (by omega) _).trans (by rw [args_at 15 rfl (by omega)]; rw [if_neg (by decide), if_pos rfl, if_neg hq])
        have q : decide ((i : Int) < 2) = false := decide_eq_false (by omega)
        simp (decide := true) (maxDischargeDepth := 200) only [go_sem, c1, c, q, show Int.toNat 15 = 15 from rfl, Tryd.results5]
    · by_cases hq : (i : Int) = 2
      · have c : FE encNA GCall [.x (.string ⟨#[77, 65, 84, 67, 72]⟩), .sl ((rowsN i).map rwV).isEmpty 1 ((rowsN i).map rwV) none] = some (tv (1, 1, ⟨#[]⟩)) := (gcall_rows (by omega) _).trans (by rw [args_at 16 rfl (by omega)]; rw [if_neg (by decide), if_neg (by decide), if_neg (by decide), if_pos hq])
        have q : decide ((i : Int) = 2) = true := decide_eq_true hq
        simp (decide := true) (maxDischargeDepth := 200) only [go_sem, c1, c, q, hq, show Int.toNat 16 = 16 from rfl, Tryd.results5]
      · have c : FE encNA GCall [.x (.string ⟨#[77, 65, 84, 67, 72]⟩), .sl ((rowsN i).map rwV).isEmpty 1 ((rowsN i).map rwV) none] = some (tv (4, 6, ⟨#[]⟩)) := (gcall_rows (by omega) _).trans (by rw [args_at 16 rfl (by omega)]; rw [if_neg (by decide), if_neg (by decide), if_neg (by decide), if_neg hq])
        have q : decide ((i : Int) = 2) = false := decide_eq_false hq
        simp (decide := true) (maxDischargeDepth := 200) only [go_sem, c1, c, q, hq, show Int.toNat 16 = 16 from rfl, Tryd.results5]
    · have c : FE encNA GCall [.x (.string ⟨#[83, 85, 77, 83]⟩), .sl ((rowsN i).map rwV).isEmpty 1 ((rowsN i).map rwV) none] = some (tv (4, 5, ⟨#[]⟩)) := (gcall_rows (by omega) _).trans (by rw [args_at 17 rfl (by omega)]; rfl)
      simp (decide := true) (maxDischargeDepth := 200) only [go_sem, c1, c, show Int.toNat 17 = 17 from rfl, Tryd.results5]

end Go.Proofs.YtakcoalbidjahaaDoor
