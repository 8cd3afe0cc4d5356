/- Chapter 10, the reference's functions of values. -/
import Derived.Test.YtfngpfnbhafmlaaGreatDoorMF
namespace Go.Proofs.YtfngpfnbhafmlaaGreatDoor
open Go Go.RowKit
set_option linter.unusedSimpArgs false
def catL (l : List T3) : ByteArray := l.foldl (fun t x => t ++ showB x.1 x.2.1 x.2.2) ⟨#[]⟩
theorem catL_snoc (l : List T3) (x : T3) : catL (l ++ [x]) = catL l ++ showB x.1 x.2.1 x.2.2 := by simp [catL]
theorem catL_size {l : List T3} (h : ∀ x ∈ l, inR x.2.1) : (catL l).size ≤ 200 * l.length := by
 have key : ∀ (l : List T3) (t : ByteArray), (∀ x ∈ l, inR x.2.1) → (l.foldl (fun t x => t ++ showB x.1 x.2.1 x.2.2) t).size ≤ t.size + 200 * l.length := by
  intro l
  induction l with
  | nil => intro t _; simp
  | cons x l ih =>
    intro t hl
    have h1 := ih (t ++ showB x.1 x.2.1 x.2.2) (fun y hy => hl y (List.mem_cons_of_mem _ hy))
    have h2 := showB_size (k := x.1) (s := x.2.2) (hl x (List.mem_cons_self ..))
    rw [append_size] at h1
    rw [List.foldl_cons, List.length_cons]
    omega
 have := key l ⟨#[]⟩ h
 rw [show (⟨#[]⟩ : ByteArray).size = 0 from rfl, Nat.zero_add] at this
 exact this
def bL (f : Bool → Bool → Bool) : Bool → List T3 → T3
 | acc, [] => boolW acc
 | acc, x :: l => if x.1 = 3 ∨ x.1 = 0 then bL f (f acc (decide (x.2.1 = 1))) l else (4, 3, ⟨#[]⟩)
def bestStep (mn : Bool) (a : T3 × Bool) (x : T3) : T3 × Bool := if decide (x.1 = 1) && (a.2 || (if mn = true then decide (x.2.1 < a.1.2.1) else decide (a.1.2.1 < x.2.1))) = true then (x, false) else a
def bestL (mn : Bool) (l : List T3) : T3 × Bool := l.foldl (bestStep mn) ((1, 0, ⟨#[]⟩), true)
theorem bestL_snoc (mn : Bool) (l : List T3) (x : T3) : bestL mn (l ++ [x]) = bestStep mn (bestL mn l) x := by simp [bestL]
def avgW (s : T3) (n : Nat) : T3 := if n = 0 then (4, 2, ⟨#[]⟩) else pairW ⟨#[47]⟩ s.1 s.2.1 s.2.2 1 (n : Int) ⟨#[]⟩
def manyW (name : ByteArray) (l : List T3) : T3 := match faultL l with
 | some e => e
 | none =>
   if name = ⟨#[83, 85, 77]⟩ then (sumL l).1
   else if name = ⟨#[67, 79, 85, 78, 84]⟩ then (1, ((sumL l).2 : Int), ⟨#[]⟩)
   else if name = ⟨#[65, 86, 71]⟩ then avgW (sumL l).1 (sumL l).2
   else if name = ⟨#[67, 79, 78, 67, 65, 84]⟩ then textW (catL l)
   else if name = ⟨#[65, 78, 68]⟩ then bL (· && ·) true l
   else if name = ⟨#[79, 82]⟩ then bL (· || ·) false l
   else (bestL (decide (name = ⟨#[77, 73, 78]⟩)) l).1
def okMany (name : ByteArray) : Prop := name = ⟨#[83, 85, 77]⟩ ∨ name = ⟨#[67, 79, 85, 78, 84]⟩ ∨ name = ⟨#[65, 86, 71]⟩ ∨ name = ⟨#[67, 79, 78, 67, 65, 84]⟩ ∨ name = ⟨#[65, 78, 68]⟩ ∨ name = ⟨#[79, 82]⟩ ∨ name = ⟨#[77, 73, 78]⟩ ∨ name = ⟨#[77, 65, 88]⟩
def encNR (p : ByteArray × RW) : List V := [.x (.string p.1), rwV p.2]
theorem encNR_inj (p q : ByteArray × RW) (e : encNR p = encNR q) : p = q := by
 obtain ⟨a, b⟩ := p
 obtain ⟨a', b'⟩ := q
 simp only [encNR, List.cons.injEq, V.x.injEq, Value.string.injEq, and_true] at e
 obtain ⟨h1, h2⟩ := e
 rw [h1, rwV_inj _ _ h2]
open Classical in
noncomputable def GMany (p : ByteArray × RW) : Option V := if okRw p.2 ∧ okMany p.1 then some (tv (manyW p.1 p.2.2.2)) else none
open Classical in
theorem GMany_of {name : ByteArray} {nl : Bool} {sz : Nat} {l : List T3} (h : okRw (nl, sz, l)) (h' : okMany name) : FE encNR GMany [.x (.string name), .sl nl sz (l.map tv) none] = some (tv (manyW name l)) := (FE_at encNR_inj _ (name, nl, sz, l)).trans (if_pos ⟨h, h'⟩)
theorem faultV_no {l : List T3} (h : faultL l = none) : faultV l = .tup [vl 0 0 ⟨#[]⟩, .x (.bool false)] := by unfold faultV; rw [h]; rfl
theorem faultV_yes {l : List T3} {k n : Int} {s : ByteArray} (h : faultL l = some (k, n, s)) : faultV l = .tup [vl k n s, .x (.bool true)] := by unfold faultV; rw [h]; rfl
theorem many_no {name : ByteArray} {l : List T3} (h : faultL l = none) : manyW name l =
 if name = ⟨#[83, 85, 77]⟩ then (sumL l).1
 else if name = ⟨#[67, 79, 85, 78, 84]⟩ then (1, ((sumL l).2 : Int), ⟨#[]⟩)
 else if name = ⟨#[65, 86, 71]⟩ then avgW (sumL l).1 (sumL l).2
 else if name = ⟨#[67, 79, 78, 67, 65, 84]⟩ then textW (catL l)
 else if name = ⟨#[65, 78, 68]⟩ then bL (· && ·) true l
 else if name = ⟨#[79, 82]⟩ then bL (· || ·) false l
 else (bestL (decide (name = ⟨#[77, 73, 78]⟩)) l).1 := by unfold manyW; rw [h]
set_option maxHeartbeats 16000000 in
set_option maxRecDepth 100000 in
theorem rmany_fun : FunV 69 (FE encNR GMany) := by
 refine fun_of_run (E := envOf [(74, (FE encR GFaultL)), (117, (FE encR GSum)), (62, FNumber), (20, FFault), (36, FPair), (67, FShowV), (66, FText), (118, FTruthV), (68, FTruth)]) (k := 2) (envOK_of _ ⟨rfaultl_fun, rsum_fun, rint_fun, rerr_fun, rpair_fun, rshowV_fun, rtext_fun, rtruthv_fun, rtruth_fun, trivial⟩) (by kernel_rfl) Tryz.func69 rfl (fun a w => Tryz.call69 a w) Tryz.ntmps69 (by kernel_rfl) (by decide) (by decide) ?_
 intro us r hF hdat
 obtain ⟨⟨name, nl, sz, l⟩, hus, hG⟩ := FE_out hF
 clear hF
 subst hus
 unfold GMany at hG
 split at hG
 case isFalse => cases hG
 rename_i hok
 cases hG
 obtain ⟨hok0, hname⟩ := hok
 have hok1 := hok0
 obtain ⟨hsz, hin, hlen⟩ := hok1
 simp only at hsz hin hlen hok0 hname
 clear hdat
 simp only [encNR, rwV]
 refine ⟨rfl, ?_⟩
 have eF := GFaultL_of hok0
 have eS := GSum_of hok0
 obtain ⟨a1, a2⟩ := sumL_in hin
 cases hf : faultL l with
 | some w =>
   obtain ⟨wk, wn, ws⟩ := w
   have e : manyW name l = (wk, wn, ws) := by unfold manyW; rw [hf]
   rw [e]
   rw [faultV_yes hf] at eF
   simp +decide (maxDischargeDepth := 200) only [go_sem, eF, Tryz.results69]
 | none =>
 rw [faultV_no hf] at eF
 rcases hname with rfl | rfl | rfl | rfl | rfl | rfl | rfl | rfl
 · have e : manyW ⟨#[83, 85, 77]⟩ l = (sumL l).1 := many_no hf
   rw [e]
   simp +decide (maxDischargeDepth := 200) only [go_sem, eF, eS, Tryz.results69]
 · have e : manyW ⟨#[67, 79, 85, 78, 84]⟩ l = (1, ((sumL l).2 : Int), ⟨#[]⟩) := many_no hf
   rw [e]
   simp +decide (maxDischargeDepth := 200) only [go_sem, eF, eS, FNumber, Tryz.results69]
 · have e : manyW ⟨#[65, 86, 71]⟩ l = avgW (sumL l).1 (sumL l).2 := many_no hf
   rw [e]
   unfold avgW
   generalize sumL l = a at eS a1 a2 ⊢
   obtain ⟨⟨ak, an, az⟩, ac⟩ := a
   simp only at eS a1 a2 ⊢
   by_cases hc : ac = 0
   · have d1 : decide (((ac : Nat) : Int) = 0) = true := decide_eq_true (by omega)
     rw [if_pos hc]
     simp +decide (maxDischargeDepth := 200) only [go_sem, eF, eS, d1, FFault, Tryz.results69]
   · have d1 : decide (((ac : Nat) : Int) = 0) = false := decide_eq_false (by omega)
     have hcn : inR ((ac : Nat) : Int) := by unfold inR; omega
     rw [if_neg hc]
     simp +decide (maxDischargeDepth := 200) only [go_sem, eF, eS, d1, FNumber, FPair, a1, hcn, Tryz.results69]
 · have e : manyW ⟨#[67, 79, 78, 67, 65, 84]⟩ l = textW (catL l) := many_no hf
   rw [e]
   simp +decide (maxDischargeDepth := 200) only [go_sem, eF, eS, List.length_map, Tryz.results69]
   refine loop_of (X := {i : Nat // i ≤ l.length}) (fun i => [(1, .sl nl sz (l.map tv) none), (4, .ptr 4 0), (9, .x (.string (catL (l.take i.1)))), (10, .x (.int .i64 ((i.1 : Nat) : Int)))]) (fun _ => [(4, [.x (.int .i64 0), .x (.int .i64 0), .x (.string ⟨#[]⟩)])]) (fun i => l.length - i.1) ⟨0, by omega⟩ (by simp +decide only [go_sem, List.take_zero, Int.natCast_zero, catL, List.foldl_nil] <;> (repeat' first | rfl | constructor)) (by simp +decide only [go_sem] <;> (repeat' first | rfl | constructor)) (fun ⟨i, hi0⟩ => ?_)
   by_cases hi : i < l.length
   · obtain ⟨k, n, s, h1, h2, h3, h4⟩ := tv_at hi
     obtain rfl := hsz (List.ne_nil_of_mem h3)
     have c1 : decide ((i : Int) < (l.length : Int)) = true := decide_eq_true (by omega)
     have c2 : (0 : Int) ≤ (i : Int) := by omega
     have c4 := count_up (i := i) (by omega)
     have e : catL (l.take (i + 1)) = catL (l.take i) ++ showB k n s := by rw [take_snoc3 h1, catL_snoc]
     have hs1 := catL_size (l := l.take i) (fun v hv => hin v (List.mem_of_mem_take hv))
     rw [List.length_take] at hs1
     have hnn : inR n := hin _ h3
     have hs2 := showB_size (k := k) (s := s) hnn
     simp only
     generalize catL (l.take i) = t at e hs1 ⊢
     have hcat := catV_ok (a := t) (b := showB k n s) (by omega)
     simp +decide (maxDischargeDepth := 200) only [go_sem, List.length_map, c1, c2, c4, h2, FShowV, hnn, hcat, Tryz.results69]
     refine ⟨⟨i + 1, by omega⟩, ?_, ?_, ?_⟩
     · simp +decide (maxDischargeDepth := 200) only [go_sem, e]
     · simp +decide (maxDischargeDepth := 200) only [go_sem]
     · simp only; omega
   · have c1 : decide ((i : Int) < (l.length : Int)) = false := decide_eq_false (by omega)
     have e : l.take i = l := List.take_of_length_le (by omega)
     simp +decide (maxDischargeDepth := 200) only [go_sem, List.length_map, c1, e, FText, Tryz.results69]
 · have e : manyW ⟨#[65, 78, 68]⟩ l = bL (· && ·) true l := many_no hf
   rw [e]
   clear e
   generalize hw : bL (· && ·) true l = w
   simp +decide (maxDischargeDepth := 200) only [go_sem, eF, eS, List.length_map, Tryz.results69]
   refine loop_of (X := {x : Nat × Bool // x.1 ≤ l.length ∧ bL (· && ·) x.2 (l.drop x.1) = w}) (fun x => [(0, .x (.string ⟨#[65, 78, 68]⟩)), (1, .sl nl sz (l.map tv) none), (4, .ptr 4 0), (11, .x (.bool x.1.2)), (12, .x (.int .i64 ((x.1.1 : Nat) : Int)))]) (fun _ => [(4, [.x (.int .i64 0), .x (.int .i64 0), .x (.string ⟨#[]⟩)])]) (fun x => l.length - x.1.1) ⟨(0, true), by simp only; omega, hw⟩ (by simp +decide only [go_sem, Int.natCast_zero] <;> (repeat' first | rfl | constructor)) (by simp +decide only [go_sem] <;> (repeat' first | rfl | constructor)) (fun ⟨⟨i, acc⟩, hi0, hbl⟩ => ?_)
   simp only at hi0 hbl
   by_cases hi : i < l.length
   · obtain ⟨k, n, s, h1, h2, h3, h4⟩ := tv_at hi
     obtain rfl := hsz (List.ne_nil_of_mem h3)
     have c1 : decide ((i : Int) < (l.length : Int)) = true := decide_eq_true (by omega)
     have c2 : (0 : Int) ≤ (i : Int) := by omega
     have c4 := count_up (i := i) (by omega)
     rw [h4, bL] at hbl
     simp only at hbl
     by_cases hk : k = 3 ∨ k = 0
     · have dk := decide_eq_true hk
       rw [if_pos hk] at hbl
       cases hn1 : decide (n = 1) <;> cases acc
       all_goals rw [hn1] at hbl
       all_goals simp +decide (maxDischargeDepth := 200) only [go_sem, List.length_map, c1, c2, c4, h2, FTruthV, dk, hn1, Bool.true_and, Tryz.results69]
       · refine ⟨⟨(i + 1, _), by simp only; omega, hbl⟩, ?_, ?_, by simp only; omega⟩ <;> simp +decide (maxDischargeDepth := 200) only [go_sem]
       · refine ⟨⟨(i + 1, _), by simp only; omega, hbl⟩, ?_, ?_, by simp only; omega⟩ <;> simp +decide (maxDischargeDepth := 200) only [go_sem]
       · refine ⟨⟨(i + 1, _), by simp only; omega, hbl⟩, ?_, ?_, by simp only; omega⟩ <;> simp +decide (maxDischargeDepth := 200) only [go_sem]
       · refine ⟨⟨(i + 1, _), by simp only; omega, hbl⟩, ?_, ?_, by simp only; omega⟩ <;> simp +decide (maxDischargeDepth := 200) only [go_sem]
     · have dk := decide_eq_false hk
       rw [if_neg hk] at hbl
       subst hbl
       simp +decide (maxDischargeDepth := 200) only [go_sem, List.length_map, c1, c2, c4, h2, FTruthV, dk, Bool.false_and, FFault, Tryz.results69]
   · have c1 : decide ((i : Int) < (l.length : Int)) = false := decide_eq_false (by omega)
     rw [List.drop_eq_nil_of_le (by omega), bL] at hbl
     subst hbl
     simp +decide (maxDischargeDepth := 200) only [go_sem, List.length_map, c1, FTruth, boolW, Tryz.results69]
 · have e : manyW ⟨#[79, 82]⟩ l = bL (· || ·) false l := many_no hf
   rw [e]
   clear e
   generalize hw : bL (· || ·) false l = w
   simp +decide (maxDischargeDepth := 200) only [go_sem, eF, eS, List.length_map, Tryz.results69]
   refine loop_of (X := {x : Nat × Bool // x.1 ≤ l.length ∧ bL (· || ·) x.2 (l.drop x.1) = w}) (fun x => [(0, .x (.string ⟨#[79, 82]⟩)), (1, .sl nl sz (l.map tv) none), (4, .ptr 4 0), (11, .x (.bool x.1.2)), (12, .x (.int .i64 ((x.1.1 : Nat) : Int)))]) (fun _ => [(4, [.x (.int .i64 0), .x (.int .i64 0), .x (.string ⟨#[]⟩)])]) (fun x => l.length - x.1.1) ⟨(0, false), by simp only; omega, hw⟩ (by simp +decide only [go_sem, Int.natCast_zero] <;> (repeat' first | rfl | constructor)) (by simp +decide only [go_sem] <;> (repeat' first | rfl | constructor)) (fun ⟨⟨i, acc⟩, hi0, hbl⟩ => ?_)
   simp only at hi0 hbl
   by_cases hi : i < l.length
   · obtain ⟨k, n, s, h1, h2, h3, h4⟩ := tv_at hi
     obtain rfl := hsz (List.ne_nil_of_mem h3)
     have c1 : decide ((i : Int) < (l.length : Int)) = true := decide_eq_true (by omega)
     have c2 : (0 : Int) ≤ (i : Int) := by omega
     have c4 := count_up (i := i) (by omega)
     rw [h4, bL] at hbl
     simp only at hbl
     by_cases hk : k = 3 ∨ k = 0
     · have dk := decide_eq_true hk
       rw [if_pos hk] at hbl
       cases hn1 : decide (n = 1) <;> cases acc
       all_goals rw [hn1] at hbl
       all_goals simp +decide (maxDischargeDepth := 200) only [go_sem, List.length_map, c1, c2, c4, h2, FTruthV, dk, hn1, Bool.true_and, Tryz.results69]
       · refine ⟨⟨(i + 1, _), by simp only; omega, hbl⟩, ?_, ?_, by simp only; omega⟩ <;> simp +decide (maxDischargeDepth := 200) only [go_sem]
       · refine ⟨⟨(i + 1, _), by simp only; omega, hbl⟩, ?_, ?_, by simp only; omega⟩ <;> simp +decide (maxDischargeDepth := 200) only [go_sem]
       · refine ⟨⟨(i + 1, _), by simp only; omega, hbl⟩, ?_, ?_, by simp only; omega⟩ <;> simp +decide (maxDischargeDepth := 200) only [go_sem]
       · refine ⟨⟨(i + 1, _), by simp only; omega, hbl⟩, ?_, ?_, by simp only; omega⟩ <;> simp +decide (maxDischargeDepth := 200) only [go_sem]
     · have dk := decide_eq_false hk
       rw [if_neg hk] at hbl
       subst hbl
       simp +decide (maxDischargeDepth := 200) only [go_sem, List.length_map, c1, c2, c4, h2, FTruthV, dk, Bool.false_and, FFault, Tryz.results69]
   · have c1 : decide ((i : Int) < (l.length : Int)) = false := decide_eq_false (by omega)
     rw [List.drop_eq_nil_of_le (by omega), bL] at hbl
     subst hbl
     simp +decide (maxDischargeDepth := 200) only [go_sem, List.length_map, c1, FTruth, boolW, Tryz.results69]
 · have e : manyW ⟨#[77, 73, 78]⟩ l = (bestL true l).1 := many_no hf
   rw [e]
   clear e
   simp +decide (maxDischargeDepth := 200) only [go_sem, eF, eS, List.length_map, FNumber, Tryz.results69]
   refine loop_of (X := {i : Nat // i ≤ l.length}) (fun i => [(0, .x (.string ⟨#[77, 73, 78]⟩)), (1, .sl nl sz (l.map tv) none), (4, .ptr 4 0), (15, .ptr 15 0), (16, .x (.bool (bestL true (l.take i.1)).2)), (17, .x (.int .i64 ((i.1 : Nat) : Int)))]) (fun i => [(4, [.x (.int .i64 0), .x (.int .i64 0), .x (.string ⟨#[]⟩)]), (15, [.x (.int .i64 (bestL true (l.take i.1)).1.1), .x (.int .i64 (bestL true (l.take i.1)).1.2.1), .x (.string (bestL true (l.take i.1)).1.2.2)])]) (fun i => l.length - i.1) ⟨0, by omega⟩ (by simp +decide only [go_sem, List.take_zero, Int.natCast_zero, bestL, List.foldl_nil] <;> (repeat' first | rfl | constructor)) (by simp +decide only [go_sem, List.take_zero, bestL, List.foldl_nil] <;> (repeat' first | rfl | constructor)) (fun ⟨i, hi0⟩ => ?_)
   by_cases hi : i < l.length
   · obtain ⟨k, n, s, h1, h2, h3, h4⟩ := tv_at hi
     obtain rfl := hsz (List.ne_nil_of_mem h3)
     have c1 : decide ((i : Int) < (l.length : Int)) = true := decide_eq_true (by omega)
     have c2 : (0 : Int) ≤ (i : Int) := by omega
     have c4 := count_up (i := i) (by omega)
     have e : bestL true (l.take (i + 1)) = bestStep true (bestL true (l.take i)) (k, n, s) := by rw [take_snoc3 h1, bestL_snoc]
     simp only
     generalize bestL true (l.take i) = a at e ⊢
     obtain ⟨⟨ak, an, az⟩, af⟩ := a
     have e0 : bestStep true ((ak, an, az), af) (k, n, s) = if decide (k = 1) && (af || decide (n < an)) = true then ((k, n, s), false) else ((ak, an, az), af) := rfl
     rw [e0] at e
     simp only
     by_cases hk : k = 1
     · have dk := decide_eq_true hk
       cases hc : decide (n < an) <;> cases af
       all_goals rw [dk, hc] at e
       all_goals simp only [Bool.true_and, Bool.or_true, Bool.or_false, Bool.false_eq_true, if_true, if_false] at e
       all_goals simp +decide (maxDischargeDepth := 200) only [go_sem, List.length_map, c1, c2, c4, h2, dk, hc, Tryz.results69]
       · refine ⟨⟨i + 1, by omega⟩, ?_, ?_, by simp only; omega⟩ <;> simp +decide (maxDischargeDepth := 200) only [go_sem, e]
       · refine ⟨⟨i + 1, by omega⟩, ?_, ?_, by simp only; omega⟩ <;> simp +decide (maxDischargeDepth := 200) only [go_sem, e]
       · refine ⟨⟨i + 1, by omega⟩, ?_, ?_, by simp only; omega⟩ <;> simp +decide (maxDischargeDepth := 200) only [go_sem, e]
       · refine ⟨⟨i + 1, by omega⟩, ?_, ?_, by simp only; omega⟩ <;> simp +decide (maxDischargeDepth := 200) only [go_sem, e]
     · have dk := decide_eq_false hk
       rw [dk] at e
       simp only [Bool.false_and, Bool.false_eq_true, if_false] at e
       simp +decide (maxDischargeDepth := 200) only [go_sem, List.length_map, c1, c2, c4, h2, dk, Tryz.results69]
       refine ⟨⟨i + 1, by omega⟩, ?_, ?_, by simp only; omega⟩ <;> simp +decide (maxDischargeDepth := 200) only [go_sem, e]
   · have c1 : decide ((i : Int) < (l.length : Int)) = false := decide_eq_false (by omega)
     have e : l.take i = l := List.take_of_length_le (by omega)
     simp +decide (maxDischargeDepth := 200) only [go_sem, List.length_map, c1, e, Tryz.results69]
 · have e : manyW ⟨#[77, 65, 88]⟩ l = (bestL false l).1 := many_no hf
   rw [e]
   clear e
   simp +decide (maxDischargeDepth := 200) only [go_sem, eF, eS, List.length_map, FNumber, Tryz.results69]
   refine loop_of (X := {i : Nat // i ≤ l.length}) (fun i => [(0, .x (.string ⟨#[77, 65, 88]⟩)), (1, .sl nl sz (l.map tv) none), (4, .ptr 4 0), (15, .ptr 15 0), (16, .x (.bool (bestL false (l.take i.1)).2)), (17, .x (.int .i64 ((i.1 : Nat) : Int)))]) (fun i => [(4, [.x (.int .i64 0), .x (.int .i64 0), .x (.string ⟨#[]⟩)]), (15, [.x (.int .i64 (bestL false (l.take i.1)).1.1), .x (.int .i64 (bestL false (l.take i.1)).1.2.1), .x (.string (bestL false (l.take i.1)).1.2.2)])]) (fun i => l.length - i.1) ⟨0, by omega⟩ (by simp +decide only [go_sem, List.take_zero, Int.natCast_zero, bestL, List.foldl_nil] <;> (repeat' first | rfl | constructor)) (by simp +decide only [go_sem, List.take_zero, bestL, List.foldl_nil] <;> (repeat' first | rfl | constructor)) (fun ⟨i, hi0⟩ => ?_)
   by_cases hi : i < l.length
   · obtain ⟨k, n, s, h1, h2, h3, h4⟩ := tv_at hi
     obtain rfl := hsz (List.ne_nil_of_mem h3)
     have c1 : decide ((i : Int) < (l.length : Int)) = true := decide_eq_true (by omega)
     have c2 : (0 : Int) ≤ (i : Int) := by omega
     have c4 := count_up (i := i) (by omega)
     have e : bestL false (l.take (i + 1)) = bestStep false (bestL false (l.take i)) (k, n, s) := by rw [take_snoc3 h1, bestL_snoc]
     simp only
     generalize bestL false (l.take i) = a at e ⊢
     obtain ⟨⟨ak, an, az⟩, af⟩ := a
     have e0 : bestStep false ((ak, an, az), af) (k, n, s) = if decide (k = 1) && (af || decide (an < n)) = true then ((k, n, s), false) else ((ak, an, az), af) := rfl
     rw [e0] at e
     simp only
     by_cases hk : k = 1
     · have dk := decide_eq_true hk
       cases hc : decide (an < n) <;> cases af
       all_goals rw [dk, hc] at e
       all_goals simp only [Bool.true_and, Bool.or_true, Bool.or_false, Bool.false_eq_true, if_true, if_false] at e
       all_goals simp +decide (maxDischargeDepth := 200) only [go_sem, List.length_map, c1, c2, c4, h2, dk, hc, Tryz.results69]
       · refine ⟨⟨i + 1, by omega⟩, ?_, ?_, by simp only; omega⟩ <;> simp +decide (maxDischargeDepth := 200) only [go_sem, e]
       · refine ⟨⟨i + 1, by omega⟩, ?_, ?_, by simp only; omega⟩ <;> simp +decide (maxDischargeDepth := 200) only [go_sem, e]
       · refine ⟨⟨i + 1, by omega⟩, ?_, ?_, by simp only; omega⟩ <;> simp +decide (maxDischargeDepth := 200) only [go_sem, e]
       · refine ⟨⟨i + 1, by omega⟩, ?_, ?_, by simp only; omega⟩ <;> simp +decide (maxDischargeDepth := 200) only [go_sem, e]
     · have dk := decide_eq_false hk
       rw [dk] at e
       simp only [Bool.false_and, Bool.false_eq_true, if_false] at e
       simp +decide (maxDischargeDepth := 200) only [go_sem, List.length_map, c1, c2, c4, h2, dk, Tryz.results69]
       refine ⟨⟨i + 1, by omega⟩, ?_, ?_, by simp only; omega⟩ <;> simp +decide (maxDischargeDepth := 200) only [go_sem, e]
   · have c1 : decide ((i : Int) < (l.length : Int)) = false := decide_eq_false (by omega)
     have e : l.take i = l := List.take_of_length_le (by omega)
     simp +decide (maxDischargeDepth := 200) only [go_sem, List.length_map, c1, e, Tryz.results69]
end Go.Proofs.YtfngpfnbhafmlaaGreatDoor
namespace Go.Proofs.YtfngpfnbhafmlaaGreatDoor
open Go Go.RowKit
set_option linter.unusedSimpArgs false
def plainT (v : T3) : T3 := plainW v.1 v.2.1 v.2.2
def mL (v : T3) : Nat → List T3 → T3
 | _, [] => (4, 7, ⟨#[]⟩)
 | i, x :: l => if rightB x.1 x.2.1 x.2.2 = true ∧ cmpV x.1 x.2.1 x.2.2 v.1 v.2.1 v.2.2 = 0 then (1, ((i + 1 : Nat) : Int), ⟨#[]⟩) else mL v (i + 1) l
def matchW (l : List RW) : T3 := match l with
 | [r0, r1] => (match r0.2.2 with
   | [v0] => (match faultL [v0] with
     | some e => e
     | none => mL v0 0 r1.2.2)
   | _ => (4, 6, ⟨#[]⟩))
 | _ => (4, 6, ⟨#[]⟩)
def ifW (L : List T3) : T3 := match L with
 | [v0, v1, v2] => (match faultL [v0] with
   | some e => e
   | none => if v0.1 = 3 ∨ v0.1 = 0 then (if v0.2.1 = 1 then plainT v1 else plainT v2) else (4, 3, ⟨#[]⟩))
 | _ => (4, 6, ⟨#[]⟩)
def chooseW (L : List T3) : T3 := match L with
 | v0 :: v1 :: rest => (match faultL [v0] with
   | some e => e
   | none => match numE v0.1 v0.2.1 v0.2.2 with
     | some w => w
     | none => if v0.2.1 < 1 ∨ ((rest.length + 2 : Nat) : Int) ≤ v0.2.1 then (4, 7, ⟨#[]⟩) else plainT ((v0 :: v1 :: rest).getD v0.2.1.toNat (0, 0, ⟨#[]⟩)))
 | _ => (4, 6, ⟨#[]⟩)
def lazyW (name : ByteArray) (l : List RW) : T3 :=
 if name = ⟨#[77, 65, 84, 67, 72]⟩ then matchW l
 else if oneL l (l.length : Int) = true then (if name = ⟨#[73, 70]⟩ then ifW (allL l) else chooseW (allL l)) else (4, 6, ⟨#[]⟩)
def okLazy (name : ByteArray) : Prop := name = ⟨#[77, 65, 84, 67, 72]⟩ ∨ name = ⟨#[73, 70]⟩ ∨ name = ⟨#[67, 72, 79, 79, 83, 69]⟩
def encNA (p : ByteArray × AW) : List V := [.x (.string p.1), awV p.2]
theorem encNA_inj (p q : ByteArray × AW) (e : encNA p = encNA q) : p = q := by
 obtain ⟨a, b⟩ := p
 obtain ⟨a', b'⟩ := q
 simp only [encNA, List.cons.injEq, V.x.injEq, Value.string.injEq, and_true] at e
 obtain ⟨h1, h2⟩ := e
 rw [h1, awV_inj _ _ h2]
open Classical in
noncomputable def GLazy (p : ByteArray × AW) : Option V := if okAw p.2 ∧ okLazy p.1 then some (tv (lazyW p.1 p.2.2.2)) else none
open Classical in
theorem GLazy_of {name : ByteArray} {nl : Bool} {sz : Nat} {l : List RW} (h : okAw (nl, sz, l)) (h' : okLazy name) : FE encNA GLazy [.x (.string name), .sl nl sz (l.map rwV) none] = some (tv (lazyW name l)) := (FE_at encNA_inj _ (name, nl, sz, l)).trans (if_pos ⟨h, h'⟩)
theorem allL_len {l : List RW} (h : oneL l (l.length : Int) = true) : (allL l).length = l.length := by
 unfold oneL at h
 rw [Bool.and_eq_true, List.all_eq_true] at h
 have h2 := h.2
 clear h
 induction l with
 | nil => rfl
 | cons r l ih =>
   have e : allL (r :: l) = r.2.2 ++ allL l := rfl
   have h1 := of_decide_eq_true (h2 r (List.mem_cons_self ..))
   rw [e, List.length_append, ih (fun x hx => h2 x (List.mem_cons_of_mem _ hx)), h1, List.length_cons]
   omega
theorem allL_in {l : List RW} (h : ∀ r ∈ l, okRw r) : ∀ v ∈ allL l, inR v.2.1 := by
 intro v hv
 obtain ⟨r, hr, hv⟩ := List.mem_flatMap.1 hv
 exact (h r hr).2.1 v hv
set_option maxHeartbeats 16000000 in
set_option maxRecDepth 100000 in
theorem rlazy_fun : FunV 72 (FE encNA GLazy) := by
 refine fun_of_run (E := envOf [(20, FFault), (74, (FE encR GFaultL)), (12, FRight), (63, FCompare), (62, FNumber), (73, (FE encAn GOnes)), (118, FTruthV), (61, FPlain), (64, FNum)]) (k := 2) (envOK_of _ ⟨rerr_fun, rfaultl_fun, rvalr_fun, rcompare_fun, rint_fun, rones_fun, rtruthv_fun, rplain_fun, rnum_fun, trivial⟩) (by kernel_rfl) Tryz.func72 rfl (fun a w => Tryz.call72 a w) Tryz.ntmps72 (by kernel_rfl) (by decide) (by decide) ?_
 intro us r hF hdat
 obtain ⟨⟨name, nl, sz, l⟩, hus, hG⟩ := FE_out hF
 clear hF
 subst hus
 unfold GLazy at hG
 split at hG
 case isFalse => cases hG
 rename_i hok
 cases hG
 obtain ⟨hok0, hname⟩ := hok
 have hok1 := hok0
 obtain ⟨hsz, hrw, hal, hlen⟩ := hok1
 simp only at hsz hrw hal hlen hok0 hname
 clear hdat
 simp only [encNA, awV]
 refine ⟨rfl, ?_⟩
 rcases hname with rfl | rfl | rfl
 · -- MATCH
   have e : lazyW ⟨#[77, 65, 84, 67, 72]⟩ l = matchW l := rfl
   rw [e]
   clear e
   by_cases h2 : l.length = 2
   · have d2 : decide ((l.length : Int) = 2) = true := decide_eq_true (by omega)
     match l, h2, hok0, hsz, hrw, d2 with
     | [r0, r1], _, hok0, hsz, hrw, d2 =>
       obtain ⟨a0, b0, c0⟩ := r0
       obtain ⟨a1, b1, c1⟩ := r1
       obtain rfl := hsz (by simp)
       obtain ⟨g1, g2, g3⟩ := hrw (a0, b0, c0) (by simp)
       obtain ⟨k1, k2, k3⟩ := hrw (a1, b1, c1) (by simp)
       simp only at g1 g2 g3 k1 k2 k3
       have em : List.map rwV [(a0, b0, c0), (a1, b1, c1)] = [.sl a0 b0 (c0.map tv) none, .sl a1 b1 (c1.map tv) none] := rfl
       rw [em]
       clear em
       by_cases h1 : c0.length = 1
       · have d1 : decide ((c0.length : Int) = 1) = true := decide_eq_true (by omega)
         match c0, h1, g1, g2, g3, d1 with
         | [v0], _, g1, g2, g3, d1 =>
           obtain ⟨k, n, s⟩ := v0
           obtain rfl := g1 (by simp)
           have em : List.map tv [(k, n, s)] = [vl k n s] := rfl
           have eF := GFaultL_of (nl := a0) (sz := 3) (l := [(k, n, s)]) ⟨fun _ => rfl, g2, g3⟩
           rw [em] at eF ⊢
           clear em
           cases hf : faultL [(k, n, s)] with
           | some w =>
             obtain ⟨wk, wn, ws⟩ := w
             have e : matchW [(a0, 3, [(k, n, s)]), (a1, b1, c1)] = (wk, wn, ws) := by unfold matchW; simp only; rw [hf]
             rw [e]
             rw [faultV_yes hf] at eF
             simp +decide (maxDischargeDepth := 200) only [go_sem, eF, List.length_cons, List.length_nil, Tryz.results72]
           | none =>
             have e : matchW [(a0, 3, [(k, n, s)]), (a1, b1, c1)] = mL (k, n, s) 0 c1 := by unfold matchW; simp only; rw [hf]
             rw [e]
             clear e
             rw [faultV_no hf] at eF
             generalize hw : mL (k, n, s) 0 c1 = w
             simp +decide (maxDischargeDepth := 200) only [go_sem, eF, List.length_cons, List.length_nil, Tryz.results72]
             refine loop_of (X := {i : Nat // i ≤ c1.length ∧ mL (k, n, s) i (c1.drop i) = w}) (fun i => [(1, .sl nl 1 [.sl a0 3 [vl k n s] none, .sl a1 b1 (c1.map tv) none] none), (4, .ptr 4 0), (7, .x (.int .i64 ((i.1 : Nat) : Int)))]) (fun _ => [(4, [.x (.int .i64 0), .x (.int .i64 0), .x (.string ⟨#[]⟩)])]) (fun i => c1.length - i.1) ⟨0, by omega, hw⟩ (by simp +decide only [go_sem, Int.natCast_zero] <;> (repeat' first | rfl | constructor)) (by simp +decide only [go_sem] <;> (repeat' first | rfl | constructor)) (fun ⟨i, hi0, hml⟩ => ?_)
             by_cases hi : i < c1.length
             · obtain ⟨k', n', s', q1, q2, q3, q4⟩ := tv_at hi
               obtain rfl := k1 (List.ne_nil_of_mem q3)
               have e1 : decide ((i : Int) < (c1.length : Int)) = true := decide_eq_true (by omega)
               have e2 : (0 : Int) ≤ (i : Int) := by omega
               have e4 := count_up (i := i) (by omega)
               rw [q4, mL] at hml
               simp only at hml
               cases hr : rightB k' n' s' with
               | false =>
                 rw [if_neg (by rw [hr]; exact fun h => by cases h.1)] at hml
                 simp +decide (maxDischargeDepth := 200) only [go_sem, List.length_map, e1, e2, e4, q2, FRight, hr, Tryz.results72]
                 refine ⟨⟨i + 1, by omega, hml⟩, ?_, ?_, by simp only; omega⟩ <;> simp +decide (maxDischargeDepth := 200) only [go_sem]
               | true =>
                 by_cases hc : cmpV k' n' s' k n s = 0
                 · have dc := decide_eq_true hc
                   rw [if_pos ⟨hr, hc⟩] at hml
                   subst hml
                   simp +decide (maxDischargeDepth := 200) only [go_sem, List.length_map, e1, e2, e4, q2, FRight, hr, FCompare, dc, FNumber, Tryz.results72]
                 · have dc := decide_eq_false hc
                   rw [if_neg (fun h => hc h.2)] at hml
                   simp +decide (maxDischargeDepth := 200) only [go_sem, List.length_map, e1, e2, e4, q2, FRight, hr, FCompare, dc, Tryz.results72]
                   refine ⟨⟨i + 1, by omega, hml⟩, ?_, ?_, by simp only; omega⟩ <;> simp +decide (maxDischargeDepth := 200) only [go_sem]
             · have e1 : decide ((i : Int) < (c1.length : Int)) = false := decide_eq_false (by omega)
               rw [List.drop_eq_nil_of_le (by omega), mL] at hml
               subst hml
               simp +decide (maxDischargeDepth := 200) only [go_sem, List.length_map, e1, FFault, Tryz.results72]
       · have d1 : decide ((c0.length : Int) = 1) = false := decide_eq_false (by omega)
         have e : matchW [(a0, b0, c0), (a1, b1, c1)] = (4, 6, ⟨#[]⟩) := by
          unfold matchW
          simp only
          match c0, h1 with
          | [], _ => rfl
          | [_], h => exact absurd rfl h
          | _ :: _ :: _, _ => rfl
         rw [e]
         simp +decide (maxDischargeDepth := 200) only [go_sem, List.length_map, List.length_cons, List.length_nil, d1, FFault, Tryz.results72]
   · have d2 : decide ((l.length : Int) = 2) = false := decide_eq_false (by omega)
     have e : matchW l = (4, 6, ⟨#[]⟩) := by
      unfold matchW
      match l, h2 with
      | [], _ => rfl
      | [_], _ => rfl
      | [_, _], h => exact absurd rfl h
      | _ :: _ :: _ :: _, _ => rfl
     rw [e]
     simp +decide (maxDischargeDepth := 200) only [go_sem, List.length_map, d2, FFault, Tryz.results72]
 · have eO := GOnes_of (n := (l.length : Int)) hok0
   unfold onesV at eO
   cases h1 : oneL l (l.length : Int) with
   | false =>
     have e : lazyW ⟨#[73, 70]⟩ l = (4, 6, ⟨#[]⟩) := by unfold lazyW; rw [if_neg (by decide), if_neg (by rw [h1]; decide)]
     rw [e]
     rw [if_neg (by rw [h1]; decide)] at eO
     simp +decide (maxDischargeDepth := 200) only [go_sem, List.length_map, eO, FFault, Tryz.results72]
   | true =>
     have e : lazyW ⟨#[73, 70]⟩ l = ifW (allL l) := by unfold lazyW; rw [if_neg (by decide), if_pos h1]; rfl
     rw [e]
     clear e
     rw [if_pos h1] at eO
     unfold freshR at eO
     have hL := allL_len h1
     have hLin := allL_in hrw
     generalize allL l = L at eO hL hLin ⊢
     by_cases h3 : l.length = 3
     · have d3 : decide ((l.length : Int) = 3) = true := decide_eq_true (by omega)
       have d2 : decide ((l.length : Int) < 2) = false := decide_eq_false (by omega)
       match L, hL.trans h3, eO, hLin with
       | [v0, v1, v2], _, eO, hLin =>
         obtain ⟨k, n, s⟩ := v0
         obtain ⟨k', n', s'⟩ := v1
         obtain ⟨k2, n2, s2⟩ := v2
         have em : List.map tv [(k, n, s), (k', n', s'), (k2, n2, s2)] = [vl k n s, vl k' n' s', vl k2 n2 s2] := rfl
         rw [em] at eO
         clear em
         have eF := GFaultL_of (nl := false) (sz := 3) (l := [(k, n, s)]) ⟨fun _ => rfl, fun v hv => hLin v (by rw [List.mem_singleton.1 hv]; simp), by simp⟩
         have em : List.map tv [(k, n, s)] = [vl k n s] := rfl
         rw [em] at eF
         clear em
         cases hf : faultL [(k, n, s)] with
         | some w =>
           obtain ⟨wk, wn, ws⟩ := w
           have e : ifW [(k, n, s), (k', n', s'), (k2, n2, s2)] = (wk, wn, ws) := by unfold ifW; simp only; rw [hf]
           rw [e]
           rw [faultV_yes hf] at eF
           simp +decide (maxDischargeDepth := 200) only [go_sem, List.length_map, eO, d3, d2, eF, List.isEmpty_cons, List.length_cons, List.length_nil, Tryz.results72]
         | none =>
           have e : ifW [(k, n, s), (k', n', s'), (k2, n2, s2)] = if k = 3 ∨ k = 0 then (if n = 1 then plainT (k', n', s') else plainT (k2, n2, s2)) else (4, 3, ⟨#[]⟩) := by unfold ifW; simp only; rw [hf]
           rw [e]
           clear e
           rw [faultV_no hf] at eF
           by_cases hk : k = 3 ∨ k = 0
           · have dk := decide_eq_true hk
             rw [if_pos hk]
             by_cases hn1 : n = 1
             · have dn := decide_eq_true hn1
               rw [if_pos hn1]
               simp +decide (maxDischargeDepth := 200) only [go_sem, List.length_map, eO, d3, d2, eF, List.isEmpty_cons, List.length_cons, List.length_nil, FTruthV, dk, dn, Bool.true_and, FPlain, plainT, Tryz.results72]
             · have dn := decide_eq_false hn1
               rw [if_neg hn1]
               simp +decide (maxDischargeDepth := 200) only [go_sem, List.length_map, eO, d3, d2, eF, List.isEmpty_cons, List.length_cons, List.length_nil, FTruthV, dk, dn, Bool.true_and, FPlain, plainT, Tryz.results72]
           · have dk := decide_eq_false hk
             rw [if_neg hk]
             simp +decide (maxDischargeDepth := 200) only [go_sem, List.length_map, eO, d3, d2, eF, List.isEmpty_cons, List.length_cons, List.length_nil, FTruthV, dk, Bool.false_and, FFault, Tryz.results72]
     · have d3 : decide ((l.length : Int) = 3) = false := decide_eq_false (by omega)
       have e : ifW L = (4, 6, ⟨#[]⟩) := by
        unfold ifW
        match L, (hL ▸ h3 : ¬ L.length = 3) with
        | [], _ => rfl
        | [_], _ => rfl
        | [_, _], _ => rfl
        | [_, _, _], h => exact absurd rfl h
        | _ :: _ :: _ :: _ :: _, _ => rfl
       rw [e]
       simp +decide (maxDischargeDepth := 200) only [go_sem, List.length_map, eO, d3, FFault, Tryz.results72]
 · have eO := GOnes_of (n := (l.length : Int)) hok0
   unfold onesV at eO
   cases h1 : oneL l (l.length : Int) with
   | false =>
     have e : lazyW ⟨#[67, 72, 79, 79, 83, 69]⟩ l = (4, 6, ⟨#[]⟩) := by unfold lazyW; rw [if_neg (by decide), if_neg (by rw [h1]; decide)]
     rw [e]
     rw [if_neg (by rw [h1]; decide)] at eO
     simp +decide (maxDischargeDepth := 200) only [go_sem, List.length_map, eO, FFault, Tryz.results72]
   | true =>
     have e : lazyW ⟨#[67, 72, 79, 79, 83, 69]⟩ l = chooseW (allL l) := by unfold lazyW; rw [if_neg (by decide), if_pos h1]; rfl
     rw [e]
     clear e
     rw [if_pos h1] at eO
     unfold freshR at eO
     have hL := allL_len h1
     have hLin := allL_in hrw
     generalize allL l = L at eO hL hLin ⊢
     by_cases h3 : l.length < 2
     · have d2 : decide ((l.length : Int) < 2) = true := decide_eq_true (by omega)
       have e : chooseW L = (4, 6, ⟨#[]⟩) := by
        unfold chooseW
        match L, (hL ▸ h3 : L.length < 2) with
        | [], _ => rfl
        | [_], _ => rfl
        | _ :: _ :: _, h => exact absurd h (by simp)
       rw [e]
       simp +decide (maxDischargeDepth := 200) only [go_sem, List.length_map, eO, d2, FFault, Tryz.results72]
     · have d2 : decide ((l.length : Int) < 2) = false := decide_eq_false (by omega)
       match L, (hL ▸ h3 : ¬ L.length < 2), hL, eO, hLin with
       | [], h, _, _, _ => exact absurd (by simp) h
       | [_], h, _, _, _ => exact absurd (by simp) h
       | v0 :: v1 :: rest, _, hL, eO, hLin =>
         obtain ⟨k, n, s⟩ := v0
         have em : List.map tv ((k, n, s) :: v1 :: rest) = vl k n s :: List.map tv (v1 :: rest) := rfl
         rw [em] at eO
         clear em
         have eF := GFaultL_of (nl := false) (sz := 3) (l := [(k, n, s)]) ⟨fun _ => rfl, fun v hv => hLin v (by rw [List.mem_singleton.1 hv]; simp), by simp⟩
         have em : List.map tv [(k, n, s)] = [vl k n s] := rfl
         rw [em] at eF
         clear em
         have hlen1 : (v1 :: rest).length + 1 = l.length := hL
         have w1 : (1 : Int) ≤ (((List.map tv (v1 :: rest)).length + 1 : Nat) : Int) := by omega
         cases hf : faultL [(k, n, s)] with
         | some w =>
           obtain ⟨wk, wn, ws⟩ := w
           have e : chooseW ((k, n, s) :: v1 :: rest) = (wk, wn, ws) := by unfold chooseW; simp only; rw [hf]
           rw [e]
           rw [faultV_yes hf] at eF
           generalize List.map tv (v1 :: rest) = M at eO w1
           simp +decide (maxDischargeDepth := 200) only [go_sem, List.length_map, eO, d2, eF, List.isEmpty_cons, List.length_cons, w1, Tryz.results72]
         | none =>
           rw [faultV_no hf] at eF
           cases hE : numE k n s with
           | some w =>
             obtain ⟨wk, wn, ws⟩ := w
             have eN := FNum_no hE
             have e : chooseW ((k, n, s) :: v1 :: rest) = (wk, wn, ws) := by unfold chooseW; simp only; rw [hf]; simp only; rw [hE]
             rw [e]
             generalize List.map tv (v1 :: rest) = M at eO w1
             simp +decide (maxDischargeDepth := 200) only [go_sem, List.length_map, eO, d2, eF, List.isEmpty_cons, List.length_cons, w1, eN, Tryz.results72]
           | none =>
             have eN := FNum_yes hE
             have e : chooseW ((k, n, s) :: v1 :: rest) = if n < 1 ∨ ((rest.length + 2 : Nat) : Int) ≤ n then (4, 7, ⟨#[]⟩) else plainT (((k, n, s) :: v1 :: rest).getD n.toNat (0, 0, ⟨#[]⟩)) := by unfold chooseW; simp only; rw [hf]; simp only; rw [hE]
             rw [e]
             clear e
             by_cases hn1 : n < 1
             · have dn := decide_eq_true hn1
               rw [if_pos (.inl hn1)]
               generalize List.map tv (v1 :: rest) = M at eO w1
               simp +decide (maxDischargeDepth := 200) only [go_sem, List.length_map, eO, d2, eF, List.isEmpty_cons, List.length_cons, w1, eN, dn, FFault, Tryz.results72]
             · have dn := decide_eq_false hn1
               by_cases hn2 : ((rest.length + 2 : Nat) : Int) ≤ n
               · have dm : decide ((((List.map tv (v1 :: rest)).length + 1 : Nat) : Int) ≤ n) = true := decide_eq_true (by rw [List.length_map, List.length_cons]; omega)
                 rw [if_pos (.inr hn2)]
                 generalize List.map tv (v1 :: rest) = M at eO w1 dm
                 simp +decide (maxDischargeDepth := 200) only [go_sem, List.length_map, eO, d2, eF, List.isEmpty_cons, List.length_cons, w1, eN, dn, dm, FFault, Tryz.results72]
               · have dm : decide ((((List.map tv (v1 :: rest)).length + 1 : Nat) : Int) ≤ n) = false := decide_eq_false (by rw [List.length_map, List.length_cons]; omega)
                 rw [if_neg (fun h => h.elim hn1 hn2)]
                 have hlt : n.toNat < ((k, n, s) :: v1 :: rest).length := by rw [List.length_cons, List.length_cons]; omega
                 have hg1 : (vl k n s :: List.map tv (v1 :: rest))[n.toNat]? = some (tv (((k, n, s) :: v1 :: rest).getD n.toNat (0, 0, ⟨#[]⟩))) := by
                  show (List.map tv ((k, n, s) :: v1 :: rest))[n.toNat]? = _
                  rw [List.getElem?_map, List.getElem?_eq_getElem hlt, List.getD_eq_getElem?_getD, List.getElem?_eq_getElem hlt]
                  rfl
                 have hn0 : 0 ≤ n := by omega
                 generalize ((k, n, s) :: v1 :: rest).getD n.toNat (0, 0, ⟨#[]⟩) = g at hg1 ⊢
                 obtain ⟨gk, gn, gs⟩ := g
                 generalize List.map tv (v1 :: rest) = M at eO w1 dm hg1
                 simp +decide (maxDischargeDepth := 200) only [go_sem, List.length_map, eO, d2, eF, List.isEmpty_cons, List.length_cons, w1, eN, dn, dm, hg1, hn0, FPlain, plainT, Tryz.results72]
end Go.Proofs.YtfngpfnbhafmlaaGreatDoor
namespace Go.Proofs.YtfngpfnbhafmlaaGreatDoor
open Go Go.RowKit
set_option linter.unusedSimpArgs false
def manyN : List ByteArray := [⟨#[83, 85, 77]⟩, ⟨#[77, 73, 78]⟩, ⟨#[77, 65, 88]⟩, ⟨#[67, 79, 85, 78, 84]⟩, ⟨#[65, 86, 71]⟩, ⟨#[65, 78, 68]⟩, ⟨#[79, 82]⟩, ⟨#[67, 79, 78, 67, 65, 84]⟩]
def lazyN : List ByteArray := [⟨#[73, 70]⟩, ⟨#[67, 72, 79, 79, 83, 69]⟩, ⟨#[77, 65, 84, 67, 72]⟩]
def oneN : List ByteArray := [⟨#[78, 79, 84]⟩, ⟨#[65, 66, 83]⟩, ⟨#[83, 73, 71, 78]⟩, ⟨#[76, 69, 78]⟩, ⟨#[85, 80, 80, 69, 82]⟩, ⟨#[76, 79, 87, 69, 82]⟩, ⟨#[73, 83, 66, 76, 65, 78, 75]⟩, ⟨#[73, 83, 69, 82, 82]⟩]
def twoN : List ByteArray := [⟨#[77, 79, 68]⟩, ⟨#[76, 69, 70, 84]⟩, ⟨#[82, 73, 71, 72, 84]⟩, ⟨#[70, 73, 78, 68]⟩]
def withL (L : List T3) (f : List T3 → T3) : T3 := match faultL L with
 | some e => e
 | none => f L
def one1 (name : ByteArray) (L : List T3) : T3 := match L with
 | [v] => oneW name v.1 v.2.1 v.2.2
 | _ => (4, 6, ⟨#[]⟩)
def two2 (name : ByteArray) (L : List T3) : T3 := match L with
 | [v, w] => twoW name v w
 | _ => (4, 6, ⟨#[]⟩)
def mid3 (L : List T3) : T3 := match L with
 | [v, w, x] => midW v w x
 | _ => (4, 6, ⟨#[]⟩)
def callW (name : ByteArray) (l : List RW) : T3 :=
 if (manyN.any fun x => decide (name = x)) = true then manyW name (allL l)
 else if name = ⟨#[67, 79, 85, 78, 84, 65]⟩ then (1, ((cntA (allL l) : Nat) : Int), ⟨#[]⟩)
 else if (lazyN.any fun x => decide (name = x)) = true then lazyW name l
 else if (oneN.any fun x => decide (name = x)) = true then (if oneL l 1 = true then (if name = ⟨#[73, 83, 69, 82, 82]⟩ then boolW (faultL (allL l)).isSome else withL (allL l) (one1 name)) else (4, 6, ⟨#[]⟩))
 else if (twoN.any fun x => decide (name = x)) = true then (if oneL l 2 = true then withL (allL l) (two2 name) else (4, 6, ⟨#[]⟩))
 else if name = ⟨#[77, 73, 68]⟩ then (if oneL l 3 = true then withL (allL l) mid3 else (4, 6, ⟨#[]⟩))
 else (4, 5, ⟨#[]⟩)
open Classical in
noncomputable def GCall (p : ByteArray × AW) : Option V := if okAw p.2 then some (tv (callW p.1 p.2.2.2)) else none
open Classical in
theorem GCall_of {name : ByteArray} {nl : Bool} {sz : Nat} {l : List RW} (h : okAw (nl, sz, l)) : FE encNA GCall [.x (.string name), .sl nl sz (l.map rwV) none] = some (tv (callW name l)) := (FE_at encNA_inj _ (name, nl, sz, l)).trans (if_pos h)
theorem all_ok {nl : Bool} {sz : Nat} {l : List RW} (h : okAw (nl, sz, l)) : okRw ((allL l).isEmpty, 3, allL l) := ⟨fun _ => rfl, allL_in h.2.1, h.2.2.1⟩
theorem one_len {l : List RW} {n : Nat} (h : oneL l (n : Int) = true) : (allL l).length = n := by
 have h0 := h
 unfold oneL at h0
 rw [Bool.and_eq_true, decide_eq_true_eq] at h0
 have e : ((l.length : Nat) : Int) = (n : Int) := h0.1
 have : oneL l (l.length : Int) = true := by rw [e]; exact h
 rw [allL_len this]
 omega
set_option maxHeartbeats 64000000 in
set_option maxRecDepth 100000 in
theorem rcallF_fun (hturn : FunV 119 FTurn) : FunV 37 (FE encNA GCall) := by
 refine fun_of_run (E := envOf [(70, (FE encAw GAll)), (69, (FE encNR GMany)), (71, (FE encR GCntA)), (72, (FE encNA GLazy)), (20, FFault), (73, (FE encAn GOnes)), (74, (FE encR GFaultL)), (68, FTruth), (75, FOne), (76, FTwo), (77, FMid)]) (k := 2) (envOK_of _ ⟨rall_fun, rmany_fun, rcounta_fun, rlazy_fun, rerr_fun, rones_fun, rfaultl_fun, rtruth_fun, (rone_fun hturn), rtwo_fun, rmid_fun, trivial⟩) (by kernel_rfl) Tryz.func37 rfl (fun a w => Tryz.call37 a w) Tryz.ntmps37 (by kernel_rfl) (by decide) (by decide) ?_
 intro us r hF hdat
 obtain ⟨⟨name, nl, sz, l⟩, hus, hG⟩ := FE_out hF
 clear hF
 subst hus
 unfold GCall at hG
 split at hG
 case isFalse => cases hG
 rename_i hok0
 cases hG
 simp only at hok0
 clear hdat
 simp only [encNA, awV]
 refine ⟨rfl, ?_⟩
 have hok1 := all_ok hok0
 have eA := GAll_of hok0
 have eF := GFaultL_of hok1
 unfold freshR at eA
 by_cases h0 : name = ⟨#[83, 85, 77]⟩
 · subst h0
   have e : callW ⟨#[83, 85, 77]⟩ l = manyW ⟨#[83, 85, 77]⟩ (allL l) := rfl
   have eM := GMany_of (name := ⟨#[83, 85, 77]⟩) hok1 (by unfold okMany; simp)
   rw [e]
   simp +decide (maxDischargeDepth := 200) only [go_sem, eA, eM, Tryz.results37]
 have d0 := decide_eq_false h0
 by_cases h1 : name = ⟨#[77, 73, 78]⟩
 · subst h1
   have e : callW ⟨#[77, 73, 78]⟩ l = manyW ⟨#[77, 73, 78]⟩ (allL l) := rfl
   have eM := GMany_of (name := ⟨#[77, 73, 78]⟩) hok1 (by unfold okMany; simp)
   rw [e]
   simp +decide (maxDischargeDepth := 200) only [go_sem, eA, eM, Tryz.results37]
 have d1 := decide_eq_false h1
 by_cases h2 : name = ⟨#[77, 65, 88]⟩
 · subst h2
   have e : callW ⟨#[77, 65, 88]⟩ l = manyW ⟨#[77, 65, 88]⟩ (allL l) := rfl
   have eM := GMany_of (name := ⟨#[77, 65, 88]⟩) hok1 (by unfold okMany; simp)
   rw [e]
   simp +decide (maxDischargeDepth := 200) only [go_sem, eA, eM, Tryz.results37]
 have d2 := decide_eq_false h2
 by_cases h3 : name = ⟨#[67, 79, 85, 78, 84]⟩
 · subst h3
   have e : callW ⟨#[67, 79, 85, 78, 84]⟩ l = manyW ⟨#[67, 79, 85, 78, 84]⟩ (allL l) := rfl
   have eM := GMany_of (name := ⟨#[67, 79, 85, 78, 84]⟩) hok1 (by unfold okMany; simp)
   rw [e]
   simp +decide (maxDischargeDepth := 200) only [go_sem, eA, eM, Tryz.results37]
 have d3 := decide_eq_false h3
 by_cases h4 : name = ⟨#[65, 86, 71]⟩
 · subst h4
   have e : callW ⟨#[65, 86, 71]⟩ l = manyW ⟨#[65, 86, 71]⟩ (allL l) := rfl
   have eM := GMany_of (name := ⟨#[65, 86, 71]⟩) hok1 (by unfold okMany; simp)
   rw [e]
   simp +decide (maxDischargeDepth := 200) only [go_sem, eA, eM, Tryz.results37]
 have d4 := decide_eq_false h4
 by_cases h5 : name = ⟨#[65, 78, 68]⟩
 · subst h5
   have e : callW ⟨#[65, 78, 68]⟩ l = manyW ⟨#[65, 78, 68]⟩ (allL l) := rfl
   have eM := GMany_of (name := ⟨#[65, 78, 68]⟩) hok1 (by unfold okMany; simp)
   rw [e]
   simp +decide (maxDischargeDepth := 200) only [go_sem, eA, eM, Tryz.results37]
 have d5 := decide_eq_false h5
 by_cases h6 : name = ⟨#[79, 82]⟩
 · subst h6
   have e : callW ⟨#[79, 82]⟩ l = manyW ⟨#[79, 82]⟩ (allL l) := rfl
   have eM := GMany_of (name := ⟨#[79, 82]⟩) hok1 (by unfold okMany; simp)
   rw [e]
   simp +decide (maxDischargeDepth := 200) only [go_sem, eA, eM, Tryz.results37]
 have d6 := decide_eq_false h6
 by_cases h7 : name = ⟨#[67, 79, 78, 67, 65, 84]⟩
 · subst h7
   have e : callW ⟨#[67, 79, 78, 67, 65, 84]⟩ l = manyW ⟨#[67, 79, 78, 67, 65, 84]⟩ (allL l) := rfl
   have eM := GMany_of (name := ⟨#[67, 79, 78, 67, 65, 84]⟩) hok1 (by unfold okMany; simp)
   rw [e]
   simp +decide (maxDischargeDepth := 200) only [go_sem, eA, eM, Tryz.results37]
 have d7 := decide_eq_false h7
 by_cases h8 : name = ⟨#[67, 79, 85, 78, 84, 65]⟩
 · subst h8
   have e : callW ⟨#[67, 79, 85, 78, 84, 65]⟩ l = (1, ((cntA (allL l) : Nat) : Int), ⟨#[]⟩) := rfl
   have eC := GCntA_of hok1
   rw [e]
   simp +decide (maxDischargeDepth := 200) only [go_sem, eA, eC, Tryz.results37]
 have d8 := decide_eq_false h8
 by_cases h9 : name = ⟨#[73, 70]⟩
 · subst h9
   have e : callW ⟨#[73, 70]⟩ l = lazyW ⟨#[73, 70]⟩ l := rfl
   have eL := GLazy_of (name := ⟨#[73, 70]⟩) hok0 (by unfold okLazy; simp)
   rw [e]
   simp +decide (maxDischargeDepth := 200) only [go_sem, eL, Tryz.results37]
 have d9 := decide_eq_false h9
 by_cases h10 : name = ⟨#[67, 72, 79, 79, 83, 69]⟩
 · subst h10
   have e : callW ⟨#[67, 72, 79, 79, 83, 69]⟩ l = lazyW ⟨#[67, 72, 79, 79, 83, 69]⟩ l := rfl
   have eL := GLazy_of (name := ⟨#[67, 72, 79, 79, 83, 69]⟩) hok0 (by unfold okLazy; simp)
   rw [e]
   simp +decide (maxDischargeDepth := 200) only [go_sem, eL, Tryz.results37]
 have d10 := decide_eq_false h10
 by_cases h11 : name = ⟨#[77, 65, 84, 67, 72]⟩
 · subst h11
   have e : callW ⟨#[77, 65, 84, 67, 72]⟩ l = lazyW ⟨#[77, 65, 84, 67, 72]⟩ l := rfl
   have eL := GLazy_of (name := ⟨#[77, 65, 84, 67, 72]⟩) hok0 (by unfold okLazy; simp)
   rw [e]
   simp +decide (maxDischargeDepth := 200) only [go_sem, eL, Tryz.results37]
 have d11 := decide_eq_false h11
 by_cases h12 : name = ⟨#[78, 79, 84]⟩
 · subst h12
   have eO := GOnes_of (n := 1) hok0
   unfold onesV at eO
   cases h1 : oneL l 1 with
   | false =>
     have e : callW ⟨#[78, 79, 84]⟩ l = (4, 6, ⟨#[]⟩) := by
      show (if oneL l 1 = true then _ else _) = _
      rw [if_neg (by rw [h1]; decide)]
     rw [e]
     rw [if_neg (by rw [h1]; decide)] at eO
     simp +decide (maxDischargeDepth := 200) only [go_sem, eO, FFault, Tryz.results37]
   | true =>
     have e : callW ⟨#[78, 79, 84]⟩ l = withL (allL l) (one1 ⟨#[78, 79, 84]⟩) := by
      show (if oneL l 1 = true then _ else _) = _
      rw [if_pos h1]
      rfl
     rw [e]
     clear e
     rw [if_pos h1] at eO
     unfold freshR at eO
     have hL := one_len (n := 1) h1
     have hin' := hok1.2.1
     simp only at hin'
     generalize allL l = L at eO eF hL hin' ⊢
     match L, hL, eO, eF, hin' with
     | [v0], _, eO, eF, hin' =>
       obtain ⟨k, n, s⟩ := v0
       have em : List.map tv [(k, n, s)] = [vl k n s] := rfl
       have ei : ([(k, n, s)] : List T3).isEmpty = false := rfl
       rw [em, ei] at eO eF
       clear em ei
       have i0 := hin' (k, n, s) (by simp)
       cases hf : faultL [(k, n, s)] with
       | some w =>
         obtain ⟨wk, wn, ws⟩ := w
         have e : withL [(k, n, s)] (one1 ⟨#[78, 79, 84]⟩) = (wk, wn, ws) := by unfold withL; rw [hf]
         rw [e]
         rw [faultV_yes hf] at eF
         simp +decide (maxDischargeDepth := 200) only [go_sem, eO, eF, Tryz.results37]
       | none =>
         have e : withL [(k, n, s)] (one1 ⟨#[78, 79, 84]⟩) = oneW ⟨#[78, 79, 84]⟩ k n s := by unfold withL; rw [hf]; rfl
         rw [e]
         rw [faultV_no hf] at eF
         have eX := FOne_of (name := ⟨#[78, 79, 84]⟩) (k := k) (s := s) i0
         simp +decide (maxDischargeDepth := 200) only [go_sem, eO, eF, eX, Tryz.results37]
 have d12 := decide_eq_false h12
 by_cases h13 : name = ⟨#[65, 66, 83]⟩
 · subst h13
   have eO := GOnes_of (n := 1) hok0
   unfold onesV at eO
   cases h1 : oneL l 1 with
   | false =>
     have e : callW ⟨#[65, 66, 83]⟩ l = (4, 6, ⟨#[]⟩) := by
      show (if oneL l 1 = true then _ else _) = _
      rw [if_neg (by rw [h1]; decide)]
     rw [e]
     rw [if_neg (by rw [h1]; decide)] at eO
     simp +decide (maxDischargeDepth := 200) only [go_sem, eO, FFault, Tryz.results37]
   | true =>
     have e : callW ⟨#[65, 66, 83]⟩ l = withL (allL l) (one1 ⟨#[65, 66, 83]⟩) := by
      show (if oneL l 1 = true then _ else _) = _
      rw [if_pos h1]
      rfl
     rw [e]
     clear e
     rw [if_pos h1] at eO
     unfold freshR at eO
     have hL := one_len (n := 1) h1
     have hin' := hok1.2.1
     simp only at hin'
     generalize allL l = L at eO eF hL hin' ⊢
     match L, hL, eO, eF, hin' with
     | [v0], _, eO, eF, hin' =>
       obtain ⟨k, n, s⟩ := v0
       have em : List.map tv [(k, n, s)] = [vl k n s] := rfl
       have ei : ([(k, n, s)] : List T3).isEmpty = false := rfl
       rw [em, ei] at eO eF
       clear em ei
       have i0 := hin' (k, n, s) (by simp)
       cases hf : faultL [(k, n, s)] with
       | some w =>
         obtain ⟨wk, wn, ws⟩ := w
         have e : withL [(k, n, s)] (one1 ⟨#[65, 66, 83]⟩) = (wk, wn, ws) := by unfold withL; rw [hf]
         rw [e]
         rw [faultV_yes hf] at eF
         simp +decide (maxDischargeDepth := 200) only [go_sem, eO, eF, Tryz.results37]
       | none =>
         have e : withL [(k, n, s)] (one1 ⟨#[65, 66, 83]⟩) = oneW ⟨#[65, 66, 83]⟩ k n s := by unfold withL; rw [hf]; rfl
         rw [e]
         rw [faultV_no hf] at eF
         have eX := FOne_of (name := ⟨#[65, 66, 83]⟩) (k := k) (s := s) i0
         simp +decide (maxDischargeDepth := 200) only [go_sem, eO, eF, eX, Tryz.results37]
 have d13 := decide_eq_false h13
 by_cases h14 : name = ⟨#[83, 73, 71, 78]⟩
 · subst h14
   have eO := GOnes_of (n := 1) hok0
   unfold onesV at eO
   cases h1 : oneL l 1 with
   | false =>
     have e : callW ⟨#[83, 73, 71, 78]⟩ l = (4, 6, ⟨#[]⟩) := by
      show (if oneL l 1 = true then _ else _) = _
      rw [if_neg (by rw [h1]; decide)]
     rw [e]
     rw [if_neg (by rw [h1]; decide)] at eO
     simp +decide (maxDischargeDepth := 200) only [go_sem, eO, FFault, Tryz.results37]
   | true =>
     have e : callW ⟨#[83, 73, 71, 78]⟩ l = withL (allL l) (one1 ⟨#[83, 73, 71, 78]⟩) := by
      show (if oneL l 1 = true then _ else _) = _
      rw [if_pos h1]
      rfl
     rw [e]
     clear e
     rw [if_pos h1] at eO
     unfold freshR at eO
     have hL := one_len (n := 1) h1
     have hin' := hok1.2.1
     simp only at hin'
     generalize allL l = L at eO eF hL hin' ⊢
     match L, hL, eO, eF, hin' with
     | [v0], _, eO, eF, hin' =>
       obtain ⟨k, n, s⟩ := v0
       have em : List.map tv [(k, n, s)] = [vl k n s] := rfl
       have ei : ([(k, n, s)] : List T3).isEmpty = false := rfl
       rw [em, ei] at eO eF
       clear em ei
       have i0 := hin' (k, n, s) (by simp)
       cases hf : faultL [(k, n, s)] with
       | some w =>
         obtain ⟨wk, wn, ws⟩ := w
         have e : withL [(k, n, s)] (one1 ⟨#[83, 73, 71, 78]⟩) = (wk, wn, ws) := by unfold withL; rw [hf]
         rw [e]
         rw [faultV_yes hf] at eF
         simp +decide (maxDischargeDepth := 200) only [go_sem, eO, eF, Tryz.results37]
       | none =>
         have e : withL [(k, n, s)] (one1 ⟨#[83, 73, 71, 78]⟩) = oneW ⟨#[83, 73, 71, 78]⟩ k n s := by unfold withL; rw [hf]; rfl
         rw [e]
         rw [faultV_no hf] at eF
         have eX := FOne_of (name := ⟨#[83, 73, 71, 78]⟩) (k := k) (s := s) i0
         simp +decide (maxDischargeDepth := 200) only [go_sem, eO, eF, eX, Tryz.results37]
 have d14 := decide_eq_false h14
 by_cases h15 : name = ⟨#[76, 69, 78]⟩
 · subst h15
   have eO := GOnes_of (n := 1) hok0
   unfold onesV at eO
   cases h1 : oneL l 1 with
   | false =>
     have e : callW ⟨#[76, 69, 78]⟩ l = (4, 6, ⟨#[]⟩) := by
      show (if oneL l 1 = true then _ else _) = _
      rw [if_neg (by rw [h1]; decide)]
     rw [e]
     rw [if_neg (by rw [h1]; decide)] at eO
     simp +decide (maxDischargeDepth := 200) only [go_sem, eO, FFault, Tryz.results37]
   | true =>
     have e : callW ⟨#[76, 69, 78]⟩ l = withL (allL l) (one1 ⟨#[76, 69, 78]⟩) := by
      show (if oneL l 1 = true then _ else _) = _
      rw [if_pos h1]
      rfl
     rw [e]
     clear e
     rw [if_pos h1] at eO
     unfold freshR at eO
     have hL := one_len (n := 1) h1
     have hin' := hok1.2.1
     simp only at hin'
     generalize allL l = L at eO eF hL hin' ⊢
     match L, hL, eO, eF, hin' with
     | [v0], _, eO, eF, hin' =>
       obtain ⟨k, n, s⟩ := v0
       have em : List.map tv [(k, n, s)] = [vl k n s] := rfl
       have ei : ([(k, n, s)] : List T3).isEmpty = false := rfl
       rw [em, ei] at eO eF
       clear em ei
       have i0 := hin' (k, n, s) (by simp)
       cases hf : faultL [(k, n, s)] with
       | some w =>
         obtain ⟨wk, wn, ws⟩ := w
         have e : withL [(k, n, s)] (one1 ⟨#[76, 69, 78]⟩) = (wk, wn, ws) := by unfold withL; rw [hf]
         rw [e]
         rw [faultV_yes hf] at eF
         simp +decide (maxDischargeDepth := 200) only [go_sem, eO, eF, Tryz.results37]
       | none =>
         have e : withL [(k, n, s)] (one1 ⟨#[76, 69, 78]⟩) = oneW ⟨#[76, 69, 78]⟩ k n s := by unfold withL; rw [hf]; rfl
         rw [e]
         rw [faultV_no hf] at eF
         have eX := FOne_of (name := ⟨#[76, 69, 78]⟩) (k := k) (s := s) i0
         simp +decide (maxDischargeDepth := 200) only [go_sem, eO, eF, eX, Tryz.results37]
 have d15 := decide_eq_false h15
 by_cases h16 : name = ⟨#[85, 80, 80, 69, 82]⟩
 · subst h16
   have eO := GOnes_of (n := 1) hok0
   unfold onesV at eO
   cases h1 : oneL l 1 with
   | false =>
     have e : callW ⟨#[85, 80, 80, 69, 82]⟩ l = (4, 6, ⟨#[]⟩) := by
      show (if oneL l 1 = true then _ else _) = _
      rw [if_neg (by rw [h1]; decide)]
     rw [e]
     rw [if_neg (by rw [h1]; decide)] at eO
     simp +decide (maxDischargeDepth := 200) only [go_sem, eO, FFault, Tryz.results37]
   | true =>
     have e : callW ⟨#[85, 80, 80, 69, 82]⟩ l = withL (allL l) (one1 ⟨#[85, 80, 80, 69, 82]⟩) := by
      show (if oneL l 1 = true then _ else _) = _
      rw [if_pos h1]
      rfl
     rw [e]
     clear e
     rw [if_pos h1] at eO
     unfold freshR at eO
     have hL := one_len (n := 1) h1
     have hin' := hok1.2.1
     simp only at hin'
     generalize allL l = L at eO eF hL hin' ⊢
     match L, hL, eO, eF, hin' with
     | [v0], _, eO, eF, hin' =>
       obtain ⟨k, n, s⟩ := v0
       have em : List.map tv [(k, n, s)] = [vl k n s] := rfl
       have ei : ([(k, n, s)] : List T3).isEmpty = false := rfl
       rw [em, ei] at eO eF
       clear em ei
       have i0 := hin' (k, n, s) (by simp)
       cases hf : faultL [(k, n, s)] with
       | some w =>
         obtain ⟨wk, wn, ws⟩ := w
         have e : withL [(k, n, s)] (one1 ⟨#[85, 80, 80, 69, 82]⟩) = (wk, wn, ws) := by unfold withL; rw [hf]
         rw [e]
         rw [faultV_yes hf] at eF
         simp +decide (maxDischargeDepth := 200) only [go_sem, eO, eF, Tryz.results37]
       | none =>
         have e : withL [(k, n, s)] (one1 ⟨#[85, 80, 80, 69, 82]⟩) = oneW ⟨#[85, 80, 80, 69, 82]⟩ k n s := by unfold withL; rw [hf]; rfl
         rw [e]
         rw [faultV_no hf] at eF
         have eX := FOne_of (name := ⟨#[85, 80, 80, 69, 82]⟩) (k := k) (s := s) i0
         simp +decide (maxDischargeDepth := 200) only [go_sem, eO, eF, eX, Tryz.results37]
 have d16 := decide_eq_false h16
 by_cases h17 : name = ⟨#[76, 79, 87, 69, 82]⟩
 · subst h17
   have eO := GOnes_of (n := 1) hok0
   unfold onesV at eO
   cases h1 : oneL l 1 with
   | false =>
     have e : callW ⟨#[76, 79, 87, 69, 82]⟩ l = (4, 6, ⟨#[]⟩) := by
      show (if oneL l 1 = true then _ else _) = _
      rw [if_neg (by rw [h1]; decide)]
     rw [e]
     rw [if_neg (by rw [h1]; decide)] at eO
     simp +decide (maxDischargeDepth := 200) only [go_sem, eO, FFault, Tryz.results37]
   | true =>
     have e : callW ⟨#[76, 79, 87, 69, 82]⟩ l = withL (allL l) (one1 ⟨#[76, 79, 87, 69, 82]⟩) := by
      show (if oneL l 1 = true then _ else _) = _
      rw [if_pos h1]
      rfl
     rw [e]
     clear e
     rw [if_pos h1] at eO
     unfold freshR at eO
     have hL := one_len (n := 1) h1
     have hin' := hok1.2.1
     simp only at hin'
     generalize allL l = L at eO eF hL hin' ⊢
     match L, hL, eO, eF, hin' with
     | [v0], _, eO, eF, hin' =>
       obtain ⟨k, n, s⟩ := v0
       have em : List.map tv [(k, n, s)] = [vl k n s] := rfl
       have ei : ([(k, n, s)] : List T3).isEmpty = false := rfl
       rw [em, ei] at eO eF
       clear em ei
       have i0 := hin' (k, n, s) (by simp)
       cases hf : faultL [(k, n, s)] with
       | some w =>
         obtain ⟨wk, wn, ws⟩ := w
         have e : withL [(k, n, s)] (one1 ⟨#[76, 79, 87, 69, 82]⟩) = (wk, wn, ws) := by unfold withL; rw [hf]
         rw [e]
         rw [faultV_yes hf] at eF
         simp +decide (maxDischargeDepth := 200) only [go_sem, eO, eF, Tryz.results37]
       | none =>
         have e : withL [(k, n, s)] (one1 ⟨#[76, 79, 87, 69, 82]⟩) = oneW ⟨#[76, 79, 87, 69, 82]⟩ k n s := by unfold withL; rw [hf]; rfl
         rw [e]
         rw [faultV_no hf] at eF
         have eX := FOne_of (name := ⟨#[76, 79, 87, 69, 82]⟩) (k := k) (s := s) i0
         simp +decide (maxDischargeDepth := 200) only [go_sem, eO, eF, eX, Tryz.results37]
 have d17 := decide_eq_false h17
 by_cases h18 : name = ⟨#[73, 83, 66, 76, 65, 78, 75]⟩
 · subst h18
   have eO := GOnes_of (n := 1) hok0
   unfold onesV at eO
   cases h1 : oneL l 1 with
   | false =>
     have e : callW ⟨#[73, 83, 66, 76, 65, 78, 75]⟩ l = (4, 6, ⟨#[]⟩) := by
      show (if oneL l 1 = true then _ else _) = _
      rw [if_neg (by rw [h1]; decide)]
     rw [e]
     rw [if_neg (by rw [h1]; decide)] at eO
     simp +decide (maxDischargeDepth := 200) only [go_sem, eO, FFault, Tryz.results37]
   | true =>
     have e : callW ⟨#[73, 83, 66, 76, 65, 78, 75]⟩ l = withL (allL l) (one1 ⟨#[73, 83, 66, 76, 65, 78, 75]⟩) := by
      show (if oneL l 1 = true then _ else _) = _
      rw [if_pos h1]
      rfl
     rw [e]
     clear e
     rw [if_pos h1] at eO
     unfold freshR at eO
     have hL := one_len (n := 1) h1
     have hin' := hok1.2.1
     simp only at hin'
     generalize allL l = L at eO eF hL hin' ⊢
     match L, hL, eO, eF, hin' with
     | [v0], _, eO, eF, hin' =>
       obtain ⟨k, n, s⟩ := v0
       have em : List.map tv [(k, n, s)] = [vl k n s] := rfl
       have ei : ([(k, n, s)] : List T3).isEmpty = false := rfl
       rw [em, ei] at eO eF
       clear em ei
       have i0 := hin' (k, n, s) (by simp)
       cases hf : faultL [(k, n, s)] with
       | some w =>
         obtain ⟨wk, wn, ws⟩ := w
         have e : withL [(k, n, s)] (one1 ⟨#[73, 83, 66, 76, 65, 78, 75]⟩) = (wk, wn, ws) := by unfold withL; rw [hf]
         rw [e]
         rw [faultV_yes hf] at eF
         simp +decide (maxDischargeDepth := 200) only [go_sem, eO, eF, Tryz.results37]
       | none =>
         have e : withL [(k, n, s)] (one1 ⟨#[73, 83, 66, 76, 65, 78, 75]⟩) = oneW ⟨#[73, 83, 66, 76, 65, 78, 75]⟩ k n s := by unfold withL; rw [hf]; rfl
         rw [e]
         rw [faultV_no hf] at eF
         have eX := FOne_of (name := ⟨#[73, 83, 66, 76, 65, 78, 75]⟩) (k := k) (s := s) i0
         simp +decide (maxDischargeDepth := 200) only [go_sem, eO, eF, eX, Tryz.results37]
 have d18 := decide_eq_false h18
 by_cases h19 : name = ⟨#[73, 83, 69, 82, 82]⟩
 · subst h19
   have eO := GOnes_of (n := 1) hok0
   unfold onesV at eO
   cases h1 : oneL l 1 with
   | false =>
     have e : callW ⟨#[73, 83, 69, 82, 82]⟩ l = (4, 6, ⟨#[]⟩) := by
      show (if oneL l 1 = true then _ else _) = _
      rw [if_neg (by rw [h1]; decide)]
     rw [e]
     rw [if_neg (by rw [h1]; decide)] at eO
     simp +decide (maxDischargeDepth := 200) only [go_sem, eO, FFault, Tryz.results37]
   | true =>
     have e : callW ⟨#[73, 83, 69, 82, 82]⟩ l = boolW (faultL (allL l)).isSome := by
      show (if oneL l 1 = true then _ else _) = _
      rw [if_pos h1]
      rfl
     rw [e]
     clear e
     rw [if_pos h1] at eO
     unfold freshR at eO
     have hL := one_len (n := 1) h1
     have hin' := hok1.2.1
     simp only at hin'
     generalize allL l = L at eO eF hL hin' ⊢
     match L, hL, eO, eF, hin' with
     | [v0], _, eO, eF, hin' =>
       obtain ⟨k, n, s⟩ := v0
       have em : List.map tv [(k, n, s)] = [vl k n s] := rfl
       have ei : ([(k, n, s)] : List T3).isEmpty = false := rfl
       rw [em, ei] at eO eF
       clear em ei
       have i0 := hin' (k, n, s) (by simp)
       cases hf : faultL [(k, n, s)] with
       | some w =>
         obtain ⟨wk, wn, ws⟩ := w
         rw [faultV_yes hf] at eF
         simp +decide (maxDischargeDepth := 200) only [go_sem, eO, eF, FTruth, boolW, Option.isSome_some, Tryz.results37]
       | none =>
         rw [faultV_no hf] at eF
         simp +decide (maxDischargeDepth := 200) only [go_sem, eO, eF, FTruth, boolW, Option.isSome_none, Tryz.results37]
 have d19 := decide_eq_false h19
 by_cases h20 : name = ⟨#[77, 79, 68]⟩
 · subst h20
   have eO := GOnes_of (n := 2) hok0
   unfold onesV at eO
   cases h1 : oneL l 2 with
   | false =>
     have e : callW ⟨#[77, 79, 68]⟩ l = (4, 6, ⟨#[]⟩) := by
      show (if oneL l 2 = true then _ else _) = _
      rw [if_neg (by rw [h1]; decide)]
     rw [e]
     rw [if_neg (by rw [h1]; decide)] at eO
     simp +decide (maxDischargeDepth := 200) only [go_sem, eO, FFault, Tryz.results37]
   | true =>
     have e : callW ⟨#[77, 79, 68]⟩ l = withL (allL l) (two2 ⟨#[77, 79, 68]⟩) := by
      show (if oneL l 2 = true then _ else _) = _
      rw [if_pos h1]
     rw [e]
     clear e
     rw [if_pos h1] at eO
     unfold freshR at eO
     have hL := one_len (n := 2) h1
     have hin' := hok1.2.1
     simp only at hin'
     generalize allL l = L at eO eF hL hin' ⊢
     match L, hL, eO, eF, hin' with
     | [v0, v1], _, eO, eF, hin' =>
       obtain ⟨k, n, s⟩ := v0
       obtain ⟨k', n', s'⟩ := v1
       have em : List.map tv [(k, n, s), (k', n', s')] = [vl k n s, vl k' n' s'] := rfl
       have ei : ([(k, n, s), (k', n', s')] : List T3).isEmpty = false := rfl
       rw [em, ei] at eO eF
       clear em ei
       have i0 := hin' (k, n, s) (by simp)
       have i1 := hin' (k', n', s') (by simp)
       cases hf : faultL [(k, n, s), (k', n', s')] with
       | some w =>
         obtain ⟨wk, wn, ws⟩ := w
         have e : withL [(k, n, s), (k', n', s')] (two2 ⟨#[77, 79, 68]⟩) = (wk, wn, ws) := by unfold withL; rw [hf]
         rw [e]
         rw [faultV_yes hf] at eF
         simp +decide (maxDischargeDepth := 200) only [go_sem, eO, eF, Tryz.results37]
       | none =>
         have e : withL [(k, n, s), (k', n', s')] (two2 ⟨#[77, 79, 68]⟩) = twoW ⟨#[77, 79, 68]⟩ (k, n, s) (k', n', s') := by unfold withL; rw [hf]; rfl
         rw [e]
         rw [faultV_no hf] at eF
         have eX := FTwo_of (name := ⟨#[77, 79, 68]⟩) (k := k) (s := s) (k' := k') (s' := s') i0 i1
         simp +decide (maxDischargeDepth := 200) only [go_sem, eO, eF, eX, Tryz.results37]
 have d20 := decide_eq_false h20
 by_cases h21 : name = ⟨#[76, 69, 70, 84]⟩
 · subst h21
   have eO := GOnes_of (n := 2) hok0
   unfold onesV at eO
   cases h1 : oneL l 2 with
   | false =>
     have e : callW ⟨#[76, 69, 70, 84]⟩ l = (4, 6, ⟨#[]⟩) := by
      show (if oneL l 2 = true then _ else _) = _
      rw [if_neg (by rw [h1]; decide)]
     rw [e]
     rw [if_neg (by rw [h1]; decide)] at eO
     simp +decide (maxDischargeDepth := 200) only [go_sem, eO, FFault, Tryz.results37]
   | true =>
     have e : callW ⟨#[76, 69, 70, 84]⟩ l = withL (allL l) (two2 ⟨#[76, 69, 70, 84]⟩) := by
      show (if oneL l 2 = true then _ else _) = _
      rw [if_pos h1]
     rw [e]
     clear e
     rw [if_pos h1] at eO
     unfold freshR at eO
     have hL := one_len (n := 2) h1
     have hin' := hok1.2.1
     simp only at hin'
     generalize allL l = L at eO eF hL hin' ⊢
     match L, hL, eO, eF, hin' with
     | [v0, v1], _, eO, eF, hin' =>
       obtain ⟨k, n, s⟩ := v0
       obtain ⟨k', n', s'⟩ := v1
       have em : List.map tv [(k, n, s), (k', n', s')] = [vl k n s, vl k' n' s'] := rfl
       have ei : ([(k, n, s), (k', n', s')] : List T3).isEmpty = false := rfl
       rw [em, ei] at eO eF
       clear em ei
       have i0 := hin' (k, n, s) (by simp)
       have i1 := hin' (k', n', s') (by simp)
       cases hf : faultL [(k, n, s), (k', n', s')] with
       | some w =>
         obtain ⟨wk, wn, ws⟩ := w
         have e : withL [(k, n, s), (k', n', s')] (two2 ⟨#[76, 69, 70, 84]⟩) = (wk, wn, ws) := by unfold withL; rw [hf]
         rw [e]
         rw [faultV_yes hf] at eF
         simp +decide (maxDischargeDepth := 200) only [go_sem, eO, eF, Tryz.results37]
       | none =>
         have e : withL [(k, n, s), (k', n', s')] (two2 ⟨#[76, 69, 70, 84]⟩) = twoW ⟨#[76, 69, 70, 84]⟩ (k, n, s) (k', n', s') := by unfold withL; rw [hf]; rfl
         rw [e]
         rw [faultV_no hf] at eF
         have eX := FTwo_of (name := ⟨#[76, 69, 70, 84]⟩) (k := k) (s := s) (k' := k') (s' := s') i0 i1
         simp +decide (maxDischargeDepth := 200) only [go_sem, eO, eF, eX, Tryz.results37]
 have d21 := decide_eq_false h21
 by_cases h22 : name = ⟨#[82, 73, 71, 72, 84]⟩
 · subst h22
   have eO := GOnes_of (n := 2) hok0
   unfold onesV at eO
   cases h1 : oneL l 2 with
   | false =>
     have e : callW ⟨#[82, 73, 71, 72, 84]⟩ l = (4, 6, ⟨#[]⟩) := by
      show (if oneL l 2 = true then _ else _) = _
      rw [if_neg (by rw [h1]; decide)]
     rw [e]
     rw [if_neg (by rw [h1]; decide)] at eO
     simp +decide (maxDischargeDepth := 200) only [go_sem, eO, FFault, Tryz.results37]
   | true =>
     have e : callW ⟨#[82, 73, 71, 72, 84]⟩ l = withL (allL l) (two2 ⟨#[82, 73, 71, 72, 84]⟩) := by
      show (if oneL l 2 = true then _ else _) = _
      rw [if_pos h1]
     rw [e]
     clear e
     rw [if_pos h1] at eO
     unfold freshR at eO
     have hL := one_len (n := 2) h1
     have hin' := hok1.2.1
     simp only at hin'
     generalize allL l = L at eO eF hL hin' ⊢
     match L, hL, eO, eF, hin' with
     | [v0, v1], _, eO, eF, hin' =>
       obtain ⟨k, n, s⟩ := v0
       obtain ⟨k', n', s'⟩ := v1
       have em : List.map tv [(k, n, s), (k', n', s')] = [vl k n s, vl k' n' s'] := rfl
       have ei : ([(k, n, s), (k', n', s')] : List T3).isEmpty = false := rfl
       rw [em, ei] at eO eF
       clear em ei
       have i0 := hin' (k, n, s) (by simp)
       have i1 := hin' (k', n', s') (by simp)
       cases hf : faultL [(k, n, s), (k', n', s')] with
       | some w =>
         obtain ⟨wk, wn, ws⟩ := w
         have e : withL [(k, n, s), (k', n', s')] (two2 ⟨#[82, 73, 71, 72, 84]⟩) = (wk, wn, ws) := by unfold withL; rw [hf]
         rw [e]
         rw [faultV_yes hf] at eF
         simp +decide (maxDischargeDepth := 200) only [go_sem, eO, eF, Tryz.results37]
       | none =>
         have e : withL [(k, n, s), (k', n', s')] (two2 ⟨#[82, 73, 71, 72, 84]⟩) = twoW ⟨#[82, 73, 71, 72, 84]⟩ (k, n, s) (k', n', s') := by unfold withL; rw [hf]; rfl
         rw [e]
         rw [faultV_no hf] at eF
         have eX := FTwo_of (name := ⟨#[82, 73, 71, 72, 84]⟩) (k := k) (s := s) (k' := k') (s' := s') i0 i1
         simp +decide (maxDischargeDepth := 200) only [go_sem, eO, eF, eX, Tryz.results37]
 have d22 := decide_eq_false h22
 by_cases h23 : name = ⟨#[70, 73, 78, 68]⟩
 · subst h23
   have eO := GOnes_of (n := 2) hok0
   unfold onesV at eO
   cases h1 : oneL l 2 with
   | false =>
     have e : callW ⟨#[70, 73, 78, 68]⟩ l = (4, 6, ⟨#[]⟩) := by
      show (if oneL l 2 = true then _ else _) = _
      rw [if_neg (by rw [h1]; decide)]
     rw [e]
     rw [if_neg (by rw [h1]; decide)] at eO
     simp +decide (maxDischargeDepth := 200) only [go_sem, eO, FFault, Tryz.results37]
   | true =>
     have e : callW ⟨#[70, 73, 78, 68]⟩ l = withL (allL l) (two2 ⟨#[70, 73, 78, 68]⟩) := by
      show (if oneL l 2 = true then _ else _) = _
      rw [if_pos h1]
     rw [e]
     clear e
     rw [if_pos h1] at eO
     unfold freshR at eO
     have hL := one_len (n := 2) h1
     have hin' := hok1.2.1
     simp only at hin'
     generalize allL l = L at eO eF hL hin' ⊢
     match L, hL, eO, eF, hin' with
     | [v0, v1], _, eO, eF, hin' =>
       obtain ⟨k, n, s⟩ := v0
       obtain ⟨k', n', s'⟩ := v1
       have em : List.map tv [(k, n, s), (k', n', s')] = [vl k n s, vl k' n' s'] := rfl
       have ei : ([(k, n, s), (k', n', s')] : List T3).isEmpty = false := rfl
       rw [em, ei] at eO eF
       clear em ei
       have i0 := hin' (k, n, s) (by simp)
       have i1 := hin' (k', n', s') (by simp)
       cases hf : faultL [(k, n, s), (k', n', s')] with
       | some w =>
         obtain ⟨wk, wn, ws⟩ := w
         have e : withL [(k, n, s), (k', n', s')] (two2 ⟨#[70, 73, 78, 68]⟩) = (wk, wn, ws) := by unfold withL; rw [hf]
         rw [e]
         rw [faultV_yes hf] at eF
         simp +decide (maxDischargeDepth := 200) only [go_sem, eO, eF, Tryz.results37]
       | none =>
         have e : withL [(k, n, s), (k', n', s')] (two2 ⟨#[70, 73, 78, 68]⟩) = twoW ⟨#[70, 73, 78, 68]⟩ (k, n, s) (k', n', s') := by unfold withL; rw [hf]; rfl
         rw [e]
         rw [faultV_no hf] at eF
         have eX := FTwo_of (name := ⟨#[70, 73, 78, 68]⟩) (k := k) (s := s) (k' := k') (s' := s') i0 i1
         simp +decide (maxDischargeDepth := 200) only [go_sem, eO, eF, eX, Tryz.results37]
 have d23 := decide_eq_false h23
 by_cases h24 : name = ⟨#[77, 73, 68]⟩
 · subst h24
   have eO := GOnes_of (n := 3) hok0
   unfold onesV at eO
   cases h1 : oneL l 3 with
   | false =>
     have e : callW ⟨#[77, 73, 68]⟩ l = (4, 6, ⟨#[]⟩) := by
      show (if oneL l 3 = true then _ else _) = _
      rw [if_neg (by rw [h1]; decide)]
     rw [e]
     rw [if_neg (by rw [h1]; decide)] at eO
     simp +decide (maxDischargeDepth := 200) only [go_sem, eO, FFault, Tryz.results37]
   | true =>
     have e : callW ⟨#[77, 73, 68]⟩ l = withL (allL l) mid3 := by
      show (if oneL l 3 = true then _ else _) = _
      rw [if_pos h1]
     rw [e]
     clear e
     rw [if_pos h1] at eO
     unfold freshR at eO
     have hL := one_len (n := 3) h1
     have hin' := hok1.2.1
     simp only at hin'
     generalize allL l = L at eO eF hL hin' ⊢
     match L, hL, eO, eF, hin' with
     | [v0, v1, v2], _, eO, eF, hin' =>
       obtain ⟨k, n, s⟩ := v0
       obtain ⟨k', n', s'⟩ := v1
       obtain ⟨k2, n2, s2⟩ := v2
       have em : List.map tv [(k, n, s), (k', n', s'), (k2, n2, s2)] = [vl k n s, vl k' n' s', vl k2 n2 s2] := rfl
       have ei : ([(k, n, s), (k', n', s'), (k2, n2, s2)] : List T3).isEmpty = false := rfl
       rw [em, ei] at eO eF
       clear em ei
       have i0 := hin' (k, n, s) (by simp)
       have i1 := hin' (k', n', s') (by simp)
       have i2 := hin' (k2, n2, s2) (by simp)
       cases hf : faultL [(k, n, s), (k', n', s'), (k2, n2, s2)] with
       | some w =>
         obtain ⟨wk, wn, ws⟩ := w
         have e : withL [(k, n, s), (k', n', s'), (k2, n2, s2)] mid3 = (wk, wn, ws) := by unfold withL; rw [hf]
         rw [e]
         rw [faultV_yes hf] at eF
         simp +decide (maxDischargeDepth := 200) only [go_sem, eO, eF, Tryz.results37]
       | none =>
         have e : withL [(k, n, s), (k', n', s'), (k2, n2, s2)] mid3 = midW (k, n, s) (k', n', s') (k2, n2, s2) := by unfold withL; rw [hf]; rfl
         rw [e]
         rw [faultV_no hf] at eF
         have eX := FMid_of (nl := false) (k := k) (s := s) (k' := k') (s' := s') (k2 := k2) (s2 := s2) ⟨i0, i1, i2⟩
         simp +decide (maxDischargeDepth := 200) only [go_sem, eO, eF, eX, Tryz.results37]
 have d24 := decide_eq_false h24
 have e : callW name l = (4, 5, ⟨#[]⟩) := by
  unfold callW
  simp only [manyN, lazyN, oneN, twoN, List.any_cons, List.any_nil, h0, d0, h1, d1, h2, d2, h3, d3, h4, d4, h5, d5, h6, d6, h7, d7, h8, d8, h9, d9, h10, d10, h11, d11, h12, d12, h13, d13, h14, d14, h15, d15, h16, d16, h17, d17, h18, d18, h19, d19, h20, d20, h21, d21, h22, d22, h23, d23, h24, d24, decide_false, Bool.or_self, Bool.false_or, Bool.false_eq_true, if_false]
 rw [e]
 simp +decide (maxDischargeDepth := 200) only [go_sem, d0, d1, d2, d3, d4, d5, d6, d7, d8, d9, d10, d11, d12, d13, d14, d15, d16, d17, d18, d19, d20, d21, d22, d23, d24, FFault, Tryz.results37]
end Go.Proofs.YtfngpfnbhafmlaaGreatDoor
namespace Go.Proofs.YtfngpfnbhafmlaaGreatDoor
open Go Go.RowKit
set_option linter.unusedSimpArgs false
def byV (b : UInt8) : V := .x (.int .u8 b.toNat)
theorem bytesV_byV (s : ByteArray) : bytesV s = s.data.toList.map byV := rfl
def turnI (g : Bool) (l : List UInt8) (i : Nat) : List V := ((l.take i).map (turnB g) ++ l.drop i).map byV
theorem turnI_zero (g : Bool) (l : List UInt8) : turnI g l 0 = l.map byV := rfl
theorem turnI_len (g : Bool) (l : List UInt8) (i : Nat) : (turnI g l i).length = l.length := by
 unfold turnI
 simp only [List.length_map, List.length_append, List.length_take, List.length_drop]
 omega
theorem turnI_at {g : Bool} {l : List UInt8} {i : Nat} {b : UInt8} (h : l[i]? = some b) : (turnI g l i)[((i : Nat) : Int).toNat * 1]? = some (.x (.int .u8 b.toNat)) := by
 have hi := List.getElem?_eq_some_iff.1 h
 obtain ⟨hi, hb⟩ := hi
 unfold turnI
 rw [Int.toNat_natCast, Nat.mul_one, List.getElem?_map, List.getElem?_append_right (by rw [List.length_map, List.length_take]; omega), List.length_map, List.length_take, List.getElem?_drop, Nat.min_eq_left (by omega), Nat.sub_self, Nat.add_zero, h]
 rfl
theorem turnI_put {g : Bool} {l : List UInt8} {i : Nat} {b : UInt8} (h : l[i]? = some b) : (turnI g l i).take (((i : Nat) : Int).toNat * 1) ++ V.x (.int .u8 (turnB g b).toNat) :: (turnI g l i).drop (((i : Nat) : Int).toNat * 1 + 1) = turnI g l (i + 1) := by
 obtain ⟨hi, hb⟩ := List.getElem?_eq_some_iff.1 h
 subst hb
 have e : l.take (i + 1) = l.take i ++ [l[i]] := by rw [List.take_add_one, h]; rfl
 have e1 : ((l.take i).map (turnB g)).length = i := by rw [List.length_map, List.length_take]; omega
 have e2 : (((l.take i).map (turnB g)).map byV).length = i := by rw [List.length_map, e1]
 unfold turnI
 rw [Int.toNat_natCast, Nat.mul_one, e, List.map_append (f := turnB g), List.map_append, List.map_append, List.map_append]
 rw [List.take_append_of_le_length (by omega), List.take_of_length_le (by omega), List.drop_append, e2, List.drop_of_length_le (by omega)]
 have e3 : i + 1 - i = 1 := by omega
 rw [e3, ← List.map_drop, List.drop_drop, List.append_assoc]
 rfl
theorem turnI_put' {g : Bool} {l : List UInt8} {i : Nat} {b : UInt8} (h : l[i]? = some b) : (turnI g l i).take (((i : Nat) : Int).toNat * 1) ++ [V.x (.int .u8 (turnB g b).toNat)] ++ (turnI g l i).drop (((i : Nat) : Int).toNat * 1 + 1) = turnI g l (i + 1) := by
 rw [List.append_assoc]
 exact turnI_put h
theorem turnI_same {g : Bool} {l : List UInt8} {i : Nat} {b : UInt8} (h : l[i]? = some b) (hb : turnB g b = b) : turnI g l (i + 1) = turnI g l i := by
 obtain ⟨hi, hb'⟩ := List.getElem?_eq_some_iff.1 h
 have e : l.take (i + 1) = l.take i ++ [b] := by rw [List.take_add_one, h]; rfl
 have e1 : l.drop i = b :: l.drop (i + 1) := by rw [List.drop_eq_getElem_cons hi, hb']
 unfold turnI
 rw [e, e1, List.map_append (f := turnB g), List.map_cons, List.map_nil, hb, List.append_assoc]
 rfl
theorem bytesOf_byV : ∀ l : List UInt8, bytesOf (l.map byV) = some l
 | [] => rfl
 | b :: l => by
   have ih := bytesOf_byV l
   rw [List.map_cons]
   unfold bytesOf byV
   simp only [← byV.eq_1]
   have e : (fun b : UInt8 => byV b) = byV := rfl
   rw [ih]
   simp
theorem turnI_end (g : Bool) (s : ByteArray) {i : Nat} (h : i = s.size) : bytesOf ((turnI g s.data.toList i).take s.size) = some (s.data.toList.map (turnB g)) := by
 have hs : s.data.toList.length = s.size := Array.length_toList
 unfold turnI
 rw [h, List.take_of_length_le (by simp only [List.length_map, List.length_append, List.length_take, List.length_drop]; omega), List.take_of_length_le (by omega), List.drop_of_length_le (by omega), List.append_nil, bytesOf_byV]
theorem u8_wrap {n : Int} (h0 : 0 ≤ n) (h1 : n < 256) : bWrap .u8 n = n := by
 rw [bWrap_eq]
 have e : IntKind.u8.wrap n = n % 256 := by simp [IntKind.wrap, IntKind.bits, IntKind.signed]
 rw [e]
 omega
theorem small_down {b : UInt8} (h : 97 ≤ b ∧ b ≤ 122) : bWrap .u8 ((b.toNat : Int) - 32) = (((b - 32).toNat : Nat) : Int) := by
 have h1 := UInt8.le_iff_toNat_le.1 h.1
 have h2 := UInt8.le_iff_toNat_le.1 h.2
 have e1 : (97 : UInt8).toNat = 97 := rfl
 have e2 : (122 : UInt8).toNat = 122 := rfl
 have e3 : (32 : UInt8).toNat = 32 := rfl
 have e4 := UInt8.toNat_sub_of_le b 32 (UInt8.le_iff_toNat_le.2 (by omega))
 rw [u8_wrap (by omega) (by omega), e4, e3]
 omega
theorem great_up {b : UInt8} (h : 65 ≤ b ∧ b ≤ 90) : bWrap .u8 ((b.toNat : Int) + 32) = (((b + 32).toNat : Nat) : Int) := by
 have h1 := UInt8.le_iff_toNat_le.1 h.1
 have h2 := UInt8.le_iff_toNat_le.1 h.2
 have e1 : (65 : UInt8).toNat = 65 := rfl
 have e2 : (90 : UInt8).toNat = 90 := rfl
 have e3 : (32 : UInt8).toNat = 32 := rfl
 have e4 := UInt8.toNat_add b 32
 rw [u8_wrap (by omega) (by omega), e4, e3]
 omega
theorem not_in {b lo hi : UInt8} (h : ¬ (lo ≤ b ∧ b ≤ hi)) : (decide ((lo.toNat : Int) ≤ (b.toNat : Int)) && decide ((b.toNat : Int) ≤ (hi.toNat : Int))) = false := by
 rw [Bool.and_eq_false_iff, decide_eq_false_iff_not, decide_eq_false_iff_not]
 by_cases h1 : lo ≤ b
 · right
   intro h2
   exact h ⟨h1, UInt8.le_iff_toNat_le.2 (by omega)⟩
 · left
   intro h2
   exact h1 (UInt8.le_iff_toNat_le.2 (by omega))
def FSmallR : List V → Option V
 | [.x (.int .u8 n)] => some (.x (.bool (decide (97 ≤ n) && decide (n ≤ 122))))
 | _ => none
def FGreatR : List V → Option V
 | [.x (.int .u8 n)] => some (.x (.bool (decide (65 ≤ n) && decide (n ≤ 90))))
 | _ => none
set_option maxRecDepth 100000 in
theorem rsmallF_fun : FunV 78 FSmallR := by
 refine fun_of_run (E := envOf []) (k := 1) (envOK_of _ trivial) (by kernel_rfl) Tryz.func78 rfl (fun a w => Tryz.call78 a w) Tryz.ntmps78 (by kernel_rfl) (by decide) (by decide) ?_
 intro us r hF hdat
 unfold FSmallR at hF
 split at hF
 case h_2 => cases hF
 rename_i n
 cases hF
 refine ⟨rfl, ?_⟩
 by_cases h1 : (97 : Int) ≤ n
 · have c1 := decide_eq_true h1
   by_cases h2 : n ≤ (122 : Int)
   · have c2 := decide_eq_true h2
     simp +decide (maxDischargeDepth := 200) only [go_sem, c1, c2, Tryz.results78]
   · have c2 := decide_eq_false h2
     simp +decide (maxDischargeDepth := 200) only [go_sem, c1, c2, Tryz.results78]
 · have c1 := decide_eq_false h1
   simp +decide (maxDischargeDepth := 200) only [go_sem, c1, Tryz.results78]
set_option maxRecDepth 100000 in
theorem rgreatF_fun : FunV 114 FGreatR := by
 refine fun_of_run (E := envOf []) (k := 1) (envOK_of _ trivial) (by kernel_rfl) Tryz.func114 rfl (fun a w => Tryz.call114 a w) Tryz.ntmps114 (by kernel_rfl) (by decide) (by decide) ?_
 intro us r hF hdat
 unfold FGreatR at hF
 split at hF
 case h_2 => cases hF
 rename_i n
 cases hF
 refine ⟨rfl, ?_⟩
 by_cases h1 : (65 : Int) ≤ n
 · have c1 := decide_eq_true h1
   by_cases h2 : n ≤ (90 : Int)
   · have c2 := decide_eq_true h2
     simp +decide (maxDischargeDepth := 200) only [go_sem, c1, c2, Tryz.results114]
   · have c2 := decide_eq_false h2
     simp +decide (maxDischargeDepth := 200) only [go_sem, c1, c2, Tryz.results114]
 · have c1 := decide_eq_false h1
   simp +decide (maxDischargeDepth := 200) only [go_sem, c1, Tryz.results114]
set_option maxHeartbeats 4000000 in
set_option maxRecDepth 100000 in
theorem rturned_fun : FunV 119 FTurn := by
 refine fun_of_run (E := envM [(78, FSmallR), (114, FGreatR)] (fun d => d == 8 || d == 49)) (k := 2) (envOK_M _ _ ⟨rsmallF_fun, rgreatF_fun, trivial⟩) (by kernel_rfl) Tryz.func119 rfl (fun a w => Tryz.call119 a w) Tryz.ntmps119 (by kernel_rfl) (by decide) (by decide) ?_
 intro us r hF hdat
 unfold FTurn at hF
 split at hF
 case h_2 => cases hF
 rename_i s g
 split at hF
 case isFalse => cases hF
 rename_i hs
 cases hF
 refine ⟨rfl, ?_⟩
 simp +decide (maxDischargeDepth := 200) only [go_sem, turnI_zero, ← bytesV_byV, Tryz.results119]
 refine loop_of (X := {i : Nat // i ≤ s.size}) (fun i => [(1, .x (.bool g)), (5, .row 8 1 s.size), (6, .x (.int .i64 ((i.1 : Nat) : Int)))]) (fun i => [(8, turnI g s.data.toList i.1)]) (fun i => s.size - i.1) ⟨0, by omega⟩ ?_ ?_ (fun ⟨i, hl⟩ => ?_)
 · simp +decide only [go_sem] <;> (repeat' first | rfl | constructor)
 · simp +decide only [go_sem, turnI_zero, bytesV_byV] <;> (repeat' first | rfl | constructor)
 have hsz : s.data.toList.length = s.size := Array.length_toList
 by_cases hi : i < s.size
 · have c1 : decide ((i : Int) < (s.size : Int)) = true := decide_eq_true (by omega)
   have c2 : (0 : Int) ≤ (i : Int) := by omega
   have c3 : (i : Int) < (s.size : Int) := by omega
   have c4 := count_up (i := i) (by omega)
   obtain ⟨b, hb⟩ : ∃ b, s.data.toList[i]? = some b := ⟨_, List.getElem?_eq_getElem (by omega)⟩
   have h1 := turnI_at (g := g) hb
   have h2 := turnI_put' (g := g) hb
   have h3 := turnI_len g s.data.toList i
   have h4 := turnI_same (g := g) hb
   have h5 : ((i : Nat) : Int).toNat * 1 + 1 ≤ (turnI g s.data.toList i).length := by rw [h3, hsz]; omega
   generalize turnI g s.data.toList i = CS at *
   cases g
   · by_cases k1 : 65 ≤ b ∧ b ≤ 90
     · have e : turnB false b = b + 32 := by unfold turnB; rw [if_neg (by decide), if_pos k1]
       have d1 : decide ((65 : Int) ≤ (b.toNat : Int)) = true := decide_eq_true (by have := UInt8.le_iff_toNat_le.1 k1.1; have e : (65 : UInt8).toNat = 65 := rfl; omega)
       have d2 : decide ((b.toNat : Int) ≤ (90 : Int)) = true := decide_eq_true (by have := UInt8.le_iff_toNat_le.1 k1.2; have e : (90 : UInt8).toNat = 90 := rfl; omega)
       have c6 := great_up k1
       rw [e] at h2
       simp +decide (maxDischargeDepth := 200) only [go_sem, c1, c2, c3, c4, c6, h1, h2, h5, FSmallR, FGreatR, d1, d2, Tryz.results119]
       refine ⟨⟨i + 1, by omega⟩, ?_, ?_, ?_⟩
       · simp +decide (maxDischargeDepth := 200) only [go_sem, h2]
       · simp +decide (maxDischargeDepth := 200) only [go_sem, h2]
       · simp only; omega
     · have d1 : (decide ((65 : Int) ≤ (b.toNat : Int)) && decide ((b.toNat : Int) ≤ (90 : Int))) = false := not_in k1
       have e : turnB false b = b := by unfold turnB; rw [if_neg (by decide), if_neg k1]
       have h6 := h4 e
       simp +decide (maxDischargeDepth := 200) only [go_sem, c1, c2, c3, c4, h1, FSmallR, FGreatR, d1, Tryz.results119]
       refine ⟨⟨i + 1, by omega⟩, ?_, ?_, ?_⟩
       · simp +decide (maxDischargeDepth := 200) only [go_sem, h6]
       · simp +decide (maxDischargeDepth := 200) only [go_sem, h6]
       · simp only; omega
   · by_cases k1 : 97 ≤ b ∧ b ≤ 122
     · have e : turnB true b = b - 32 := by unfold turnB; rw [if_pos rfl, if_pos k1]
       have d1 : decide ((97 : Int) ≤ (b.toNat : Int)) = true := decide_eq_true (by have := UInt8.le_iff_toNat_le.1 k1.1; have e : (97 : UInt8).toNat = 97 := rfl; omega)
       have d2 : decide ((b.toNat : Int) ≤ (122 : Int)) = true := decide_eq_true (by have := UInt8.le_iff_toNat_le.1 k1.2; have e : (122 : UInt8).toNat = 122 := rfl; omega)
       have c6 := small_down k1
       rw [e] at h2
       simp +decide (maxDischargeDepth := 200) only [go_sem, c1, c2, c3, c4, c6, h1, h2, h5, FSmallR, FGreatR, d1, d2, Tryz.results119]
       refine ⟨⟨i + 1, by omega⟩, ?_, ?_, ?_⟩
       · simp +decide (maxDischargeDepth := 200) only [go_sem, h2]
       · simp +decide (maxDischargeDepth := 200) only [go_sem, h2]
       · simp only; omega
     · have d1 : (decide ((97 : Int) ≤ (b.toNat : Int)) && decide ((b.toNat : Int) ≤ (122 : Int))) = false := not_in k1
       have e : turnB true b = b := by unfold turnB; rw [if_pos rfl, if_neg k1]
       have h6 := h4 e
       simp +decide (maxDischargeDepth := 200) only [go_sem, c1, c2, c3, c4, h1, FSmallR, FGreatR, d1, Tryz.results119]
       refine ⟨⟨i + 1, by omega⟩, ?_, ?_, ?_⟩
       · simp +decide (maxDischargeDepth := 200) only [go_sem, h6]
       · simp +decide (maxDischargeDepth := 200) only [go_sem, h6]
       · simp only; omega
 · have c1 : decide ((i : Int) < (s.size : Int)) = false := decide_eq_false (by omega)
   have h6 := turnI_end g s (i := i) (by omega)
   simp +decide (maxDischargeDepth := 200) only [go_sem, c1, h6, Tryz.results119]
   unfold turnS
   rw [← Array.toList_map, Array.toArray_toList]
end Go.Proofs.YtfngpfnbhafmlaaGreatDoor
namespace Go.Proofs.YtfngpfnbhafmlaaGreatDoor
open Go Go.RowKit
theorem rcallT_fun : FunV 37 (FE encNA GCall) := rcallF_fun rturned_fun
end Go.Proofs.YtfngpfnbhafmlaaGreatDoor
