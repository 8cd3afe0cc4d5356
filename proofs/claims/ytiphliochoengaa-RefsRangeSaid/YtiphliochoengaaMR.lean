/- The reference's rows of cells that are read. -/
import Derived.Test.YtiphliochoengaaML
import Derived.Test.YtiphliochoengaaMPO
import Derived.Test.YtiphliochoengaaMT
namespace Go.Proofs.Ytiphliochoengaa
open Go Go.RowKit
set_option linter.unusedSimpArgs false
theorem any_dagG {E : Env} {ops : List Oper} {st : St} {K : St → Prop} (ents : List (Nat × Nat × Nat × V)) (bs : List (Nat × List V)) (ps : List (Nat × Nat × Nat)) (full : Nat) (hf : 2 ^ ops.length - 1 = full) (h : dagOK ops ps = true) (h0 : leT st (selT ents 0) ∧ leB st bs) (ht : dagT E ops ents bs ps)
    (hk : K (stOf (selT ents full) bs)) : AnyV E ops st K := any_dag ents bs ps h h0 ht (hf ▸ hk)
theorem stripB_B1 (l : List (Nat × (List V → Option V))) (M : Nat → Bool) (lp : List (Nat × (List V → Option (V × List (List V))))) (any : Nat → Bool) (k : Nat) (b : Nat → Option (List V)) : stripB (envB l M lp (fun _ => false) any) k b = b := rfl
attribute [go_sem] stripB_B1
theorem loop_nilL {E : Env} {a : Code} {st : St} {K : Out → St → Prop} (i n : Nat) {es : List V} {n0 : Nat} {k0 : Option Nat} (h : st.t i = .sl true n0 es k0) (he : es = [])
    (hr : LoopV (run E a) ⟨upd st.t i (.sl true n es none), st.b⟩ K) : LoopV (run E a) st K := by
  subst he
  obtain ⟨X, I, μ, x0, h0, hx⟩ := hr
  refine ⟨X, I, μ, x0, ⟨fun j => ?_, h0.b⟩, hx⟩
  have := h0.t j
  simp only [upd_at] at this
  split at this
  · rename_i e
    subst e
    rw [h]
    rcases this with e | e | ⟨_, _, _, _, e1, e2⟩
    · exact .inl e
    · exact .inr (.inr ⟨_, _, _, _, e, rfl⟩)
    · exact .inr (.inr ⟨_, _, _, _, e1, rfl⟩)
  · exact this
def FHas3 : List V → Option V
  | [.sl _ sz es none, .agg [.x (.string s), .x (.int .i64 c), .x (.int .i64 r)]] => match cellsOf es with
    | some l => if l.length ≤ 1000000 ∧ (sz = 3 ∨ l = []) then some (.x (.bool (l.any fun p => eqC p (s, c, r)))) else none
    | none => none
  | _ => none
theorem FHas3_of {nl : Bool} {sz : Nat} {l : List C3} (s : ByteArray) (c r : Int) (h : l.length ≤ 1000000) (hs : sz = 3 ∨ l = []) : FHas3 [.sl nl sz (l.map cellV) none, .agg [.x (.string s), .x (.int .i64 c), .x (.int .i64 r)]] = some (.x (.bool (l.any fun p => eqC p (s, c, r)))) := by
  unfold FHas3
  simp only [cellsOf_map]
  exact if_pos ⟨h, hs⟩
set_option maxHeartbeats 8000000 in
set_option maxRecDepth 100000 in
theorem has3_fun : FunV 14 FHas3 := by
  refine fun_of_run (E := envB [] (fun _ => false) [] (fun _ => false) (fun _ => false)) (k := 2) (envOK_B _ _ _ _ _ trivial trivial) (by kernel_rfl) Try.func14 rfl (fun a w => Try.call14 a w) Try.ntmps14 (by kernel_rfl) (by decide) (by decide) ?_
  intro us r hF hdat
  unfold FHas3 at hF
  split at hF
  case h_2 => cases hF
  rename_i nl sz es s c r
  split at hF
  case h_2 => cases hF
  rename_i l hl
  split at hF
  case isFalse => cases hF
  rename_i hle
  obtain ⟨hle, hs3⟩ := hle
  cases hF
  refine ⟨rfl, ?_⟩
  obtain rfl := cellsOf_is hl
  clear hl
  have hsz : (((l.map cellV).length : Nat) : Int) = (l.length : Int) := by rw [List.length_map]
  simp (decide := true) (maxDischargeDepth := 200) only [go_sem, Nat.reduceBEq, Try.results14]
  refine loop_of (X := {i : Nat // i ≤ l.length ∧ ∀ (j : Nat) (p : C3), j < i → l[j]? = some p → eqC p (s, c, r) = false}) (fun i => [(0, .sl nl sz (l.map cellV) none), (3, .ptr 3 0), (4, .x (.bool false)), (5, .x (.int .i64 i.1))]) (fun _ => [(3, [.x (.string s), .x (.int .i64 c), .x (.int .i64 r)])]) (fun i => l.length - i.1) ⟨0, by omega, fun j k hj => by omega⟩ (by simp (decide := true) only [go_sem]; rfl) (by simp (decide := true) only [go_sem]) (fun ⟨i, hi, hz⟩ => ?_)
  by_cases hil : i < l.length
  · obtain rfl : sz = 3 := hs3.resolve_right (by rintro rfl; simp at hil)
    obtain ⟨⟨s1, c1, r1⟩, hb⟩ := getC hil
    have d0 : decide ((i : Int) < (l.length : Int)) = true := decide_eq_true (by omega)
    have k2 : (0 : Int) ≤ (i : Int) := by omega
    have k4 := count_up (i := i) (by omega)
    have k5 := cell_at hb
    cases hq : eqC (s1, c1, r1) (s, c, r)
    · simp (decide := true) (maxDischargeDepth := 200) only [go_sem, Nat.reduceBEq, hsz, d0, k2, k4, k5, cellV_mk, eq3, hq, Try.results14]
      refine ⟨⟨i + 1, by omega, fun j p hj hp => ?_⟩, ?_, ?_, by simp only; omega⟩
      · by_cases hji : j = i
        · subst hji; rw [hb] at hp; cases hp; exact hq
        · exact hz j p (by omega) hp
      · simp (decide := true) only [go_sem]
      · simp (decide := true) only [go_sem]
    · have e : (l.any fun p => eqC p (s, c, r)) = true := List.any_eq_true.2 ⟨_, List.mem_of_getElem? hb, hq⟩
      simp (decide := true) (maxDischargeDepth := 200) only [go_sem, Nat.reduceBEq, hsz, d0, k2, k4, k5, cellV_mk, eq3, hq, e, Try.results14]
  · have d0 : decide ((i : Int) < (l.length : Int)) = false := decide_eq_false (by omega)
    have e : (l.any fun p => eqC p (s, c, r)) = false := by
      rw [List.any_eq_false]
      intro p hp
      obtain ⟨j, hj⟩ := List.getElem?_of_mem hp
      simp [hz j p (by have := (List.getElem?_eq_some_iff.1 hj).1; omega) hj]
    simp (decide := true) (maxDischargeDepth := 200) only [go_sem, Nat.reduceBEq, hsz, d0, e, Try.results14]
/-- Is one cell ahead of the other? -/
def lessP (p q : C3) : Bool := lessC p.1 p.2.1 p.2.2 q.1 q.2.1 q.2.2
def inL (l : List C3) (p : C3) : Bool := l.any fun q => eqC q p
/-- A cell comes into a row, in its place, once. -/
def intoL (l : List C3) (p : C3) : List C3 := if inL l p = true then l else l.takeWhile (fun q => lessP q p) ++ p :: l.dropWhile (fun q => lessP q p)
theorem while_at {α : Type} (f : α → Bool) : ∀ (l : List α) (i : Nat), i ≤ l.length → (∀ (j : Nat) (q : α), j < i → l[j]? = some q → f q = true) → (∀ q, l[i]? = some q → f q = false) → l.takeWhile f = l.take i ∧ l.dropWhile f = l.drop i
  | [], i, _, _, _ => by simp
  | q :: l, 0, _, _, h => by
    have := h q rfl
    simp [List.takeWhile, List.dropWhile, this]
  | q :: l, i + 1, hi, h1, h2 => by
    have hq := h1 0 q (by omega) rfl
    obtain ⟨e1, e2⟩ := while_at f l i (by simpa using hi) (fun j q hj hq => h1 (j + 1) q (by omega) (by simpa using hq)) (fun q hq => h2 q (by simpa using hq))
    simp [List.takeWhile, List.dropWhile, hq, e1, e2]
def FInto : List V → Option V
  | [.sl nl sz es none, .agg [.x (.string s), .x (.int .i64 c), .x (.int .i64 r)]] => match cellsOf es with
    | some l => if l.length ≤ 900000 ∧ (sz = 3 ∨ nl = true ∧ l = []) then some (if inL l (s, c, r) = true then .sl nl sz es none else .sl false 3 ((intoL l (s, c, r)).map cellV) none) else none
    | none => none
  | _ => none
theorem piece_l {l : List C3} {i : Nat} : List.take ((i : Int).toNat - 0) (l.map cellV) = (l.take i).map cellV := by
  simp [List.map_take]
theorem piece_r {l : List C3} {i : Nat} : List.take ((((l.map cellV).length : Nat) : Int).toNat - (i : Int).toNat) (List.drop (i : Int).toNat (l.map cellV)) = (l.drop i).map cellV := by
  rw [Int.toNat_natCast, Int.toNat_natCast, List.map_drop, List.take_of_length_le (by simp)]
/-- A row of cells grows by a row. -/
theorem grow_app {E : Env} (hP : E.P = Try.prog) {a b : List C3} (h : a.length + b.length ≤ 1000000) (st : St) (d tok sz : Nat) (nl : Bool) (t' : Option Nat) (hs : sz = 3 ∨ b.map cellV = []) :
    growV E st (some d) 25 (.sl false 3 (a.map cellV) (some tok)) (.sl nl sz (b.map cellV) t') = some ⟨upd (strip tok (strip d st.t)) d (.sl false 3 ((a ++ b).map cellV) (some d)), stripB E tok (stripB E d st.b)⟩ := by
  have e1 : szB E.P 25 = some 3 := by rw [hP]; exact sz25
  have e2 : byB E.P 25 = some 32 := by rw [hP]; exact by25
  have e3 := ze25
  rw [← hP] at e3
  unfold growV
  simp only [e1, e2, e3]
  rw [if_pos ⟨by decide, rfl, trivial, hs, (List.all_eq_true.2 fun u hu => by obtain ⟨p, _, rfl⟩ := List.mem_map.1 hu; rfl), by rw [List.length_map, List.length_map]; omega, by rw [List.length_map, List.length_map]; omega⟩, List.map_append]
theorem grow_app0 {E : Env} (hP : E.P = Try.prog) {b : List C3} (h : b.length ≤ 1000000) (st : St) (d n sz : Nat) (nl : Bool) (t' : Option Nat) (hs : sz = 3 ∨ b.map cellV = []) :
    growV E st (some d) 25 (.sl true n [] none) (.sl nl sz (b.map cellV) t') = some ⟨upd (strip d st.t) d (.sl (b.map cellV).isEmpty 3 (b.map cellV) (some d)), stripB E d st.b⟩ := by
  have e1 : szB E.P 25 = some 3 := by rw [hP]; exact sz25
  have e2 : byB E.P 25 = some 32 := by rw [hP]; exact by25
  have e3 := ze25
  rw [← hP] at e3
  unfold growV
  simp only [e1, e2, e3]
  rw [if_pos ⟨by decide, rfl, hs, (List.all_eq_true.2 fun u hu => by obtain ⟨p, _, rfl⟩ := List.mem_map.1 hu; rfl), by rw [List.length_map]; omega, by rw [List.length_map]; omega⟩]
  rfl
theorem grow_snoc {E : Env} (hP : E.P = Try.prog) {a : List C3} (h : a.length ≤ 1000000) (s : ByteArray) (c r : Int) (st : St) (d tok : Nat) (nl : Bool) (t' : Option Nat) :
    growV E st (some d) 25 (.sl (a.map cellV).isEmpty 3 (a.map cellV) (some tok)) (.sl nl 3 [.agg [.x (.string s), .x (.int .i64 c), .x (.int .i64 r)]] t') = some ⟨upd (strip tok (strip d st.t)) d (.sl false 3 ((a ++ [(s, c, r)]).map cellV) (some d)), stripB E tok (stripB E d st.b)⟩ := by
  rw [List.map_append]
  exact growV_acc (E := E) (n := 3) (by rw [hP]; exact sz25) (by rw [hP]; exact by25) (by rw [hP]; exact ze25) (by decide) rfl rfl (by rw [List.length_map]; omega) (by rw [List.length_map]; omega) st d tok nl t'
set_option maxHeartbeats 8000000 in
set_option maxRecDepth 100000 in
theorem into_fun : FunV 19 FInto := by
  refine fun_of_run (E := envB [(14, FHas3), (16, FLess)] (fun _ => false) [] (fun _ => false) (fun i => i == 6)) (k := 2) (envOK_B _ _ _ _ _ ⟨has3_fun, rless_fun, trivial⟩ trivial) (by kernel_rfl) Try.func19 rfl (fun a w => Try.call19 a w) Try.ntmps19 (by kernel_rfl) (by decide) (by decide) ?_
  intro us r hF hdat
  unfold FInto at hF
  split at hF
  case h_2 => cases hF
  rename_i nl sz es s c r
  split at hF
  case h_2 => cases hF
  rename_i l hl
  split at hF
  case isFalse => cases hF
  rename_i hle
  obtain ⟨hle, hs3⟩ := hle
  cases hF
  refine ⟨rfl, ?_⟩
  obtain rfl := cellsOf_is hl
  clear hl
  have hsz : (((l.map cellV).length : Nat) : Int) = (l.length : Int) := by rw [List.length_map]
  have hh := FHas3_of (nl := nl) (sz := sz) (l := l) s c r (by omega) (hs3.imp id And.right)
  by_cases hin : inL l (s, c, r) = true
  · rw [if_pos hin]
    have hin' : (l.any fun p => eqC p (s, c, r)) = true := hin
    rw [hin'] at hh
    simp (decide := true) (maxDischargeDepth := 200) only [go_sem, Nat.reduceBEq, hh, Try.results19]
  · rw [if_neg hin]
    have e : intoL l (s, c, r) = l.takeWhile (fun q => lessP q (s, c, r)) ++ (s, c, r) :: l.dropWhile (fun q => lessP q (s, c, r)) := if_neg hin
    have hin' : (l.any fun p => eqC p (s, c, r)) = false := by revert hin; unfold inL; cases (l.any fun p => eqC p (s, c, r)) <;> simp
    rw [hin'] at hh
    rcases hs3 with rfl | ⟨rfl, hl0⟩
    · simp (decide := true) (maxDischargeDepth := 200) only [go_sem, Nat.reduceBEq, hh, Try.results19]
      refine loop_of (X := {i : Nat // i ≤ l.length ∧ ∀ (j : Nat) (p : C3), j < i → l[j]? = some p → lessP p (s, c, r) = true}) (fun i => [(0, .sl nl 3 (l.map cellV) none), (3, .ptr 3 0), (4, .sl true 0 [] none), (5, .x (.int .i64 i.1))]) (fun _ => [(3, [.x (.string s), .x (.int .i64 c), .x (.int .i64 r)])]) (fun i => l.length - i.1) ⟨0, by omega, fun j k hj => by omega⟩ (by simp (decide := true) (maxDischargeDepth := 200) only [go_sem]; rfl) (by simp (decide := true) (maxDischargeDepth := 200) only [go_sem]) (fun ⟨i, hi, hz⟩ => ?_)
      by_cases hil : i < l.length
      · obtain ⟨⟨s1, c1, r1⟩, hb⟩ := getC hil
        have d0 : decide ((i : Int) < (l.length : Int)) = true := decide_eq_true (by omega)
        have k2 : (0 : Int) ≤ (i : Int) := by omega
        have k4 := count_up (i := i) (by omega)
        have k5 := cell_at hb
        cases hq : lessC s1 c1 r1 s c r
        · obtain ⟨e1, e2⟩ := while_at (fun q => lessP q (s, c, r)) l i hi hz (fun q hq' => by rw [hb] at hq'; cases hq'; exact hq)
          have ef : intoL l (s, c, r) = (l.take i ++ [(s, c, r)]) ++ l.drop i := by rw [e, e1, e2]; simp
          rw [ef]
          simp (decide := true) (maxDischargeDepth := 200) only [go_sem, Nat.reduceBEq, hsz, d0, k2, k4, k5, cellV_mk, FLess, hq, Try.results19]
          have g1 : ∀ (st : St), growV (envB [(14, FHas3), (16, FLess)] (fun _ => false) [] (fun _ => false) (fun i => i == 6)) st (some 27) 25 (.sl true 0 [] none) (.sl nl 3 ((l.take i).map cellV) none) = _ := fun st => grow_app0 (E := envB [(14, FHas3), (16, FLess)] (fun _ => false) [] (fun _ => false) (fun i => i == 6)) rfl (b := l.take i) (by rw [List.length_take]; omega) st 27 0 3 nl none (.inl rfl)
          have g2 : ∀ (st : St) (tok : Nat), growV (envB [(14, FHas3), (16, FLess)] (fun _ => false) [] (fun _ => false) (fun i => i == 6)) st (some 30) 25 (.sl ((l.take i).map cellV).isEmpty 3 ((l.take i).map cellV) (some tok)) (.sl false 3 [.agg [.x (.string s), .x (.int .i64 c), .x (.int .i64 r)]] none) = _ := fun st tok => grow_snoc (E := envB [(14, FHas3), (16, FLess)] (fun _ => false) [] (fun _ => false) (fun i => i == 6)) rfl (a := l.take i) (by rw [List.length_take]; omega) s c r st 30 tok false none
          have g3 : ∀ (st : St) (tok : Nat), growV (envB [(14, FHas3), (16, FLess)] (fun _ => false) [] (fun _ => false) (fun i => i == 6)) st (some 34) 25 (.sl false 3 ((l.take i ++ [(s, c, r)]).map cellV) (some tok)) (.sl nl 3 ((l.drop i).map cellV) none) = _ := fun st tok => grow_app (E := envB [(14, FHas3), (16, FLess)] (fun _ => false) [] (fun _ => false) (fun i => i == 6)) rfl (a := l.take i ++ [(s, c, r)]) (b := l.drop i) (by simp only [List.length_append, List.length_take, List.length_drop, List.length_cons, List.length_nil]; omega) st 34 tok 3 nl none (.inl rfl)
          have i0 : (0 : Int) ≤ (i : Int) := by omega
          have i1 : (i : Int) ≤ (((l.map cellV).length : Nat) : Int) := by rw [List.length_map]; omega
          refine any_dagG [(0, 0, 0, .sl nl 3 (l.map cellV) none), (0, 0, 3, .ptr 3 0), (0, 2048, 4, .sl true 0 [] none), (0, 0, 5, .x (.int .i64 (i : Int))), (1, 0, 24, .sl nl 3 (l.map cellV) none), (2, 0, 25, .x (.int .i64 (i : Int))), (4, 0, 26, .sl nl 3 ((l.take i).map cellV) none), (8, 64, 27, .sl ((l.take i).map cellV).isEmpty 3 ((l.take i).map cellV) (some 27)), (16, 0, 28, .agg [.x (.string s), .x (.int .i64 c), .x (.int .i64 r)]), (32, 0, 29, .sl false 3 [.agg [.x (.string s), .x (.int .i64 c), .x (.int .i64 r)]] none), (64, 1024, 30, .sl false 3 ((l.take i ++ [(s, c, r)]).map cellV) (some 30)), (128, 0, 31, .sl nl 3 (l.map cellV) none), (256, 0, 32, .x (.int .i64 (i : Int))), (512, 0, 33, .sl nl 3 ((l.drop i).map cellV) none), (1024, 2048, 34, .sl false 3 (((l.take i ++ [(s, c, r)]) ++ l.drop i).map cellV) (some 34)), (2048, 0, 4, .sl false 3 (((l.take i ++ [(s, c, r)]) ++ l.drop i).map cellV) (some 34))] [(3, [.x (.string s), .x (.int .i64 c), .x (.int .i64 r)])] [(0, 0, 1), (0, 1, 2), (0, 4, 16), (0, 7, 128), (0, 8, 256), (1, 1, 3), (1, 4, 17), (1, 7, 129), (1, 8, 257), (2, 0, 3), (2, 4, 18), (2, 7, 130), (2, 8, 258), (16, 0, 17), (16, 1, 18), (16, 5, 48), (16, 7, 144), (16, 8, 272), (128, 0, 129), (128, 1, 130), (128, 4, 144), (128, 8, 384), (256, 0, 257), (256, 1, 258), (256, 4, 272), (256, 7, 384), (3, 2, 7), (3, 4, 19), (3, 7, 131), (3, 8, 259), (17, 1, 19), (17, 5, 49), (17, 7, 145), (17, 8, 273), (129, 1, 131), (129, 4, 145), (129, 8, 385), (257, 1, 259), (257, 4, 273), (257, 7, 385), (18, 0, 19), (18, 5, 50), (18, 7, 146), (18, 8, 274), (130, 0, 131), (130, 4, 146), (130, 8, 386), (258, 0, 259), (258, 4, 274), (258, 7, 386), (48, 0, 49), (48, 1, 50), (48, 7, 176), (48, 8, 304), (144, 0, 145), (144, 1, 146), (144, 5, 176), (144, 8, 400), (272, 0, 273), (272, 1, 274), (272, 5, 304), (272, 7, 400), (384, 0, 385), (384, 1, 386), (384, 4, 400), (384, 9, 896), (7, 3, 15), (7, 4, 23), (7, 7, 135), (7, 8, 263), (19, 2, 23), (19, 5, 51), (19, 7, 147), (19, 8, 275), (131, 2, 135), (131, 4, 147), (131, 8, 387), (259, 2, 263), (259, 4, 275), (259, 7, 387), (49, 1, 51), (49, 7, 177), (49, 8, 305), (145, 1, 147), (145, 5, 177), (145, 8, 401), (273, 1, 275), (273, 5, 305), (273, 7, 401), (385, 1, 387), (385, 4, 401), (385, 9, 897), (50, 0, 51), (50, 7, 178), (50, 8, 306), (146, 0, 147), (146, 5, 178), (146, 8, 402), (274, 0, 275), (274, 5, 306), (274, 7, 402), (386, 0, 387), (386, 4, 402), (386, 9, 898), (176, 0, 177), (176, 1, 178), (176, 8, 432), (304, 0, 305), (304, 1, 306), (304, 7, 432), (400, 0, 401), (400, 1, 402), (400, 5, 432), (400, 9, 912), (896, 0, 897), (896, 1, 898), (896, 4, 912), (15, 4, 31), (15, 7, 143), (15, 8, 271), (23, 3, 31), (23, 5, 55), (23, 7, 151), (23, 8, 279), (135, 3, 143), (135, 4, 151), (135, 8, 391), (263, 3, 271), (263, 4, 279), (263, 7, 391), (51, 2, 55), (51, 7, 179), (51, 8, 307), (147, 2, 151), (147, 5, 179), (147, 8, 403), (275, 2, 279), (275, 5, 307), (275, 7, 403), (387, 2, 391), (387, 4, 403), (387, 9, 899), (177, 1, 179), (177, 8, 433), (305, 1, 307), (305, 7, 433), (401, 1, 403), (401, 5, 433), (401, 9, 913), (897, 1, 899), (897, 4, 913), (178, 0, 179), (178, 8, 434), (306, 0, 307), (306, 7, 434), (402, 0, 403), (402, 5, 434), (402, 9, 914), (898, 0, 899), (898, 4, 914), (432, 0, 433), (432, 1, 434), (432, 9, 944), (912, 0, 913), (912, 1, 914), (912, 5, 944), (31, 5, 63), (31, 7, 159), (31, 8, 287), (143, 4, 159), (143, 8, 399), (271, 4, 287), (271, 7, 399), (55, 3, 63), (55, 7, 183), (55, 8, 311), (151, 3, 159), (151, 5, 183), (151, 8, 407), (279, 3, 287), (279, 5, 311), (279, 7, 407), (391, 3, 399), (391, 4, 407), (391, 9, 903), (179, 2, 183), (179, 8, 435), (307, 2, 311), (307, 7, 435), (403, 2, 407), (403, 5, 435), (403, 9, 915), (899, 2, 903), (899, 4, 915), (433, 1, 435), (433, 9, 945), (913, 1, 915), (913, 5, 945), (434, 0, 435), (434, 9, 946), (914, 0, 915), (914, 5, 946), (944, 0, 945), (944, 1, 946), (63, 6, 127), (63, 7, 191), (63, 8, 319), (159, 5, 191), (159, 8, 415), (287, 5, 319), (287, 7, 415), (399, 4, 415), (399, 9, 911), (183, 3, 191), (183, 8, 439), (311, 3, 319), (311, 7, 439), (407, 3, 415), (407, 5, 439), (407, 9, 919), (903, 3, 911), (903, 4, 919), (435, 2, 439), (435, 9, 947), (915, 2, 919), (915, 5, 947), (945, 1, 947), (946, 0, 947), (127, 7, 255), (127, 8, 383), (191, 6, 255), (191, 8, 447), (319, 6, 383), (319, 7, 447), (415, 5, 447), (415, 9, 927), (911, 4, 927), (439, 3, 447), (439, 9, 951), (919, 3, 927), (919, 5, 951), (947, 2, 951), (255, 8, 511), (383, 7, 511), (447, 6, 511), (447, 9, 959), (927, 5, 959), (951, 3, 959), (511, 9, 1023), (959, 6, 1023), (1023, 10, 2047), (2047, 11, 4095)] 4095 (by kernel_rfl) (by kernel_rfl) ?_ ?_ ?_
          · simp (decide := true) (maxDischargeDepth := 200) only [go_sem]
          · simp (decide := true) (maxDischargeDepth := 200) only [go_sem, piece_l, piece_r, g1, g2, g3, i0, i1]
          · simp (decide := true) (maxDischargeDepth := 200) only [go_sem, Nat.reduceBEq, Try.results19]

        · simp (decide := true) (maxDischargeDepth := 200) only [go_sem, Nat.reduceBEq, hsz, d0, k2, k4, k5, cellV_mk, FLess, hq, Try.results19]
          refine ⟨⟨i + 1, by omega, fun j p hj hp => ?_⟩, ?_, ?_, by simp only; omega⟩
          · by_cases hji : j = i
            · subst hji; rw [hb] at hp; cases hp; exact hq
            · exact hz j p (by omega) hp
          · simp (decide := true) (maxDischargeDepth := 200) only [go_sem]
          · simp (decide := true) (maxDischargeDepth := 200) only [go_sem]
      · have d0 : decide ((i : Int) < (l.length : Int)) = false := decide_eq_false (by omega)
        obtain ⟨e1, e2⟩ := while_at (fun q => lessP q (s, c, r)) l i hi hz (fun q hq' => by rw [List.getElem?_eq_none (by omega)] at hq'; cases hq')
        have ef : intoL l (s, c, r) = (l.take i ++ [(s, c, r)]) ++ l.drop i := by rw [e, e1, e2]; simp
        rw [ef]
        simp (decide := true) (maxDischargeDepth := 200) only [go_sem, Nat.reduceBEq, hsz, d0, Try.results19]
        have g1 : ∀ (st : St), growV (envB [(14, FHas3), (16, FLess)] (fun _ => false) [] (fun _ => false) (fun i => i == 6)) st (some 27) 25 (.sl true 0 [] none) (.sl nl 3 ((l.take i).map cellV) none) = _ := fun st => grow_app0 (E := envB [(14, FHas3), (16, FLess)] (fun _ => false) [] (fun _ => false) (fun i => i == 6)) rfl (b := l.take i) (by rw [List.length_take]; omega) st 27 0 3 nl none (.inl rfl)
        have g2 : ∀ (st : St) (tok : Nat), growV (envB [(14, FHas3), (16, FLess)] (fun _ => false) [] (fun _ => false) (fun i => i == 6)) st (some 30) 25 (.sl ((l.take i).map cellV).isEmpty 3 ((l.take i).map cellV) (some tok)) (.sl false 3 [.agg [.x (.string s), .x (.int .i64 c), .x (.int .i64 r)]] none) = _ := fun st tok => grow_snoc (E := envB [(14, FHas3), (16, FLess)] (fun _ => false) [] (fun _ => false) (fun i => i == 6)) rfl (a := l.take i) (by rw [List.length_take]; omega) s c r st 30 tok false none
        have g3 : ∀ (st : St) (tok : Nat), growV (envB [(14, FHas3), (16, FLess)] (fun _ => false) [] (fun _ => false) (fun i => i == 6)) st (some 34) 25 (.sl false 3 ((l.take i ++ [(s, c, r)]).map cellV) (some tok)) (.sl nl 3 ((l.drop i).map cellV) none) = _ := fun st tok => grow_app (E := envB [(14, FHas3), (16, FLess)] (fun _ => false) [] (fun _ => false) (fun i => i == 6)) rfl (a := l.take i ++ [(s, c, r)]) (b := l.drop i) (by simp only [List.length_append, List.length_take, List.length_drop, List.length_cons, List.length_nil]; omega) st 34 tok 3 nl none (.inl rfl)
        have i0 : (0 : Int) ≤ (i : Int) := by omega
        have i1 : (i : Int) ≤ (((l.map cellV).length : Nat) : Int) := by rw [List.length_map]; omega
        refine any_dagG [(0, 0, 0, .sl nl 3 (l.map cellV) none), (0, 0, 3, .ptr 3 0), (0, 2048, 4, .sl true 0 [] none), (0, 0, 5, .x (.int .i64 (i : Int))), (1, 0, 24, .sl nl 3 (l.map cellV) none), (2, 0, 25, .x (.int .i64 (i : Int))), (4, 0, 26, .sl nl 3 ((l.take i).map cellV) none), (8, 64, 27, .sl ((l.take i).map cellV).isEmpty 3 ((l.take i).map cellV) (some 27)), (16, 0, 28, .agg [.x (.string s), .x (.int .i64 c), .x (.int .i64 r)]), (32, 0, 29, .sl false 3 [.agg [.x (.string s), .x (.int .i64 c), .x (.int .i64 r)]] none), (64, 1024, 30, .sl false 3 ((l.take i ++ [(s, c, r)]).map cellV) (some 30)), (128, 0, 31, .sl nl 3 (l.map cellV) none), (256, 0, 32, .x (.int .i64 (i : Int))), (512, 0, 33, .sl nl 3 ((l.drop i).map cellV) none), (1024, 2048, 34, .sl false 3 (((l.take i ++ [(s, c, r)]) ++ l.drop i).map cellV) (some 34)), (2048, 0, 4, .sl false 3 (((l.take i ++ [(s, c, r)]) ++ l.drop i).map cellV) (some 34))] [(3, [.x (.string s), .x (.int .i64 c), .x (.int .i64 r)])] [(0, 0, 1), (0, 1, 2), (0, 4, 16), (0, 7, 128), (0, 8, 256), (1, 1, 3), (1, 4, 17), (1, 7, 129), (1, 8, 257), (2, 0, 3), (2, 4, 18), (2, 7, 130), (2, 8, 258), (16, 0, 17), (16, 1, 18), (16, 5, 48), (16, 7, 144), (16, 8, 272), (128, 0, 129), (128, 1, 130), (128, 4, 144), (128, 8, 384), (256, 0, 257), (256, 1, 258), (256, 4, 272), (256, 7, 384), (3, 2, 7), (3, 4, 19), (3, 7, 131), (3, 8, 259), (17, 1, 19), (17, 5, 49), (17, 7, 145), (17, 8, 273), (129, 1, 131), (129, 4, 145), (129, 8, 385), (257, 1, 259), (257, 4, 273), (257, 7, 385), (18, 0, 19), (18, 5, 50), (18, 7, 146), (18, 8, 274), (130, 0, 131), (130, 4, 146), (130, 8, 386), (258, 0, 259), (258, 4, 274), (258, 7, 386), (48, 0, 49), (48, 1, 50), (48, 7, 176), (48, 8, 304), (144, 0, 145), (144, 1, 146), (144, 5, 176), (144, 8, 400), (272, 0, 273), (272, 1, 274), (272, 5, 304), (272, 7, 400), (384, 0, 385), (384, 1, 386), (384, 4, 400), (384, 9, 896), (7, 3, 15), (7, 4, 23), (7, 7, 135), (7, 8, 263), (19, 2, 23), (19, 5, 51), (19, 7, 147), (19, 8, 275), (131, 2, 135), (131, 4, 147), (131, 8, 387), (259, 2, 263), (259, 4, 275), (259, 7, 387), (49, 1, 51), (49, 7, 177), (49, 8, 305), (145, 1, 147), (145, 5, 177), (145, 8, 401), (273, 1, 275), (273, 5, 305), (273, 7, 401), (385, 1, 387), (385, 4, 401), (385, 9, 897), (50, 0, 51), (50, 7, 178), (50, 8, 306), (146, 0, 147), (146, 5, 178), (146, 8, 402), (274, 0, 275), (274, 5, 306), (274, 7, 402), (386, 0, 387), (386, 4, 402), (386, 9, 898), (176, 0, 177), (176, 1, 178), (176, 8, 432), (304, 0, 305), (304, 1, 306), (304, 7, 432), (400, 0, 401), (400, 1, 402), (400, 5, 432), (400, 9, 912), (896, 0, 897), (896, 1, 898), (896, 4, 912), (15, 4, 31), (15, 7, 143), (15, 8, 271), (23, 3, 31), (23, 5, 55), (23, 7, 151), (23, 8, 279), (135, 3, 143), (135, 4, 151), (135, 8, 391), (263, 3, 271), (263, 4, 279), (263, 7, 391), (51, 2, 55), (51, 7, 179), (51, 8, 307), (147, 2, 151), (147, 5, 179), (147, 8, 403), (275, 2, 279), (275, 5, 307), (275, 7, 403), (387, 2, 391), (387, 4, 403), (387, 9, 899), (177, 1, 179), (177, 8, 433), (305, 1, 307), (305, 7, 433), (401, 1, 403), (401, 5, 433), (401, 9, 913), (897, 1, 899), (897, 4, 913), (178, 0, 179), (178, 8, 434), (306, 0, 307), (306, 7, 434), (402, 0, 403), (402, 5, 434), (402, 9, 914), (898, 0, 899), (898, 4, 914), (432, 0, 433), (432, 1, 434), (432, 9, 944), (912, 0, 913), (912, 1, 914), (912, 5, 944), (31, 5, 63), (31, 7, 159), (31, 8, 287), (143, 4, 159), (143, 8, 399), (271, 4, 287), (271, 7, 399), (55, 3, 63), (55, 7, 183), (55, 8, 311), (151, 3, 159), (151, 5, 183), (151, 8, 407), (279, 3, 287), (279, 5, 311), (279, 7, 407), (391, 3, 399), (391, 4, 407), (391, 9, 903), (179, 2, 183), (179, 8, 435), (307, 2, 311), (307, 7, 435), (403, 2, 407), (403, 5, 435), (403, 9, 915), (899, 2, 903), (899, 4, 915), (433, 1, 435), (433, 9, 945), (913, 1, 915), (913, 5, 945), (434, 0, 435), (434, 9, 946), (914, 0, 915), (914, 5, 946), (944, 0, 945), (944, 1, 946), (63, 6, 127), (63, 7, 191), (63, 8, 319), (159, 5, 191), (159, 8, 415), (287, 5, 319), (287, 7, 415), (399, 4, 415), (399, 9, 911), (183, 3, 191), (183, 8, 439), (311, 3, 319), (311, 7, 439), (407, 3, 415), (407, 5, 439), (407, 9, 919), (903, 3, 911), (903, 4, 919), (435, 2, 439), (435, 9, 947), (915, 2, 919), (915, 5, 947), (945, 1, 947), (946, 0, 947), (127, 7, 255), (127, 8, 383), (191, 6, 255), (191, 8, 447), (319, 6, 383), (319, 7, 447), (415, 5, 447), (415, 9, 927), (911, 4, 927), (439, 3, 447), (439, 9, 951), (919, 3, 927), (919, 5, 951), (947, 2, 951), (255, 8, 511), (383, 7, 511), (447, 6, 511), (447, 9, 959), (927, 5, 959), (951, 3, 959), (511, 9, 1023), (959, 6, 1023), (1023, 10, 2047), (2047, 11, 4095)] 4095 (by kernel_rfl) (by kernel_rfl) ?_ ?_ ?_
        · simp (decide := true) (maxDischargeDepth := 200) only [go_sem]
        · simp (decide := true) (maxDischargeDepth := 200) only [go_sem, piece_l, piece_r, g1, g2, g3, i0, i1]
        · simp (decide := true) (maxDischargeDepth := 200) only [go_sem, Nat.reduceBEq, Try.results19]

    · simp (decide := true) (maxDischargeDepth := 200) only [go_sem, Nat.reduceBEq, hh, Try.results19]
      refine loop_nilL 0 3 (es := l.map cellV) (n0 := sz) (k0 := none) rfl (by rw [hl0]; rfl) ?_
      refine loop_of (X := {i : Nat // i ≤ l.length ∧ ∀ (j : Nat) (p : C3), j < i → l[j]? = some p → lessP p (s, c, r) = true}) (fun i => [(0, .sl true 3 (l.map cellV) none), (3, .ptr 3 0), (4, .sl true 0 [] none), (5, .x (.int .i64 i.1))]) (fun _ => [(3, [.x (.string s), .x (.int .i64 c), .x (.int .i64 r)])]) (fun i => l.length - i.1) ⟨0, by omega, fun j k hj => by omega⟩ (by simp (decide := true) (maxDischargeDepth := 200) only [go_sem]; rfl) (by simp (decide := true) (maxDischargeDepth := 200) only [go_sem]) (fun ⟨i, hi, hz⟩ => ?_)
      by_cases hil : i < l.length
      · obtain ⟨⟨s1, c1, r1⟩, hb⟩ := getC hil
        have d0 : decide ((i : Int) < (l.length : Int)) = true := decide_eq_true (by omega)
        have k2 : (0 : Int) ≤ (i : Int) := by omega
        have k4 := count_up (i := i) (by omega)
        have k5 := cell_at hb
        cases hq : lessC s1 c1 r1 s c r
        · obtain ⟨e1, e2⟩ := while_at (fun q => lessP q (s, c, r)) l i hi hz (fun q hq' => by rw [hb] at hq'; cases hq'; exact hq)
          have ef : intoL l (s, c, r) = (l.take i ++ [(s, c, r)]) ++ l.drop i := by rw [e, e1, e2]; simp
          rw [ef]
          simp (decide := true) (maxDischargeDepth := 200) only [go_sem, Nat.reduceBEq, hsz, d0, k2, k4, k5, cellV_mk, FLess, hq, Try.results19]
          have g1 : ∀ (st : St), growV (envB [(14, FHas3), (16, FLess)] (fun _ => false) [] (fun _ => false) (fun i => i == 6)) st (some 27) 25 (.sl true 0 [] none) (.sl true 3 ((l.take i).map cellV) none) = _ := fun st => grow_app0 (E := envB [(14, FHas3), (16, FLess)] (fun _ => false) [] (fun _ => false) (fun i => i == 6)) rfl (b := l.take i) (by rw [List.length_take]; omega) st 27 0 3 true none (.inl rfl)
          have g2 : ∀ (st : St) (tok : Nat), growV (envB [(14, FHas3), (16, FLess)] (fun _ => false) [] (fun _ => false) (fun i => i == 6)) st (some 30) 25 (.sl ((l.take i).map cellV).isEmpty 3 ((l.take i).map cellV) (some tok)) (.sl false 3 [.agg [.x (.string s), .x (.int .i64 c), .x (.int .i64 r)]] none) = _ := fun st tok => grow_snoc (E := envB [(14, FHas3), (16, FLess)] (fun _ => false) [] (fun _ => false) (fun i => i == 6)) rfl (a := l.take i) (by rw [List.length_take]; omega) s c r st 30 tok false none
          have g3 : ∀ (st : St) (tok : Nat), growV (envB [(14, FHas3), (16, FLess)] (fun _ => false) [] (fun _ => false) (fun i => i == 6)) st (some 34) 25 (.sl false 3 ((l.take i ++ [(s, c, r)]).map cellV) (some tok)) (.sl true 3 ((l.drop i).map cellV) none) = _ := fun st tok => grow_app (E := envB [(14, FHas3), (16, FLess)] (fun _ => false) [] (fun _ => false) (fun i => i == 6)) rfl (a := l.take i ++ [(s, c, r)]) (b := l.drop i) (by simp only [List.length_append, List.length_take, List.length_drop, List.length_cons, List.length_nil]; omega) st 34 tok 3 true none (.inl rfl)
          have i0 : (0 : Int) ≤ (i : Int) := by omega
          have i1 : (i : Int) ≤ (((l.map cellV).length : Nat) : Int) := by rw [List.length_map]; omega
          refine any_dagG [(0, 0, 0, .sl true 3 (l.map cellV) none), (0, 0, 3, .ptr 3 0), (0, 2048, 4, .sl true 0 [] none), (0, 0, 5, .x (.int .i64 (i : Int))), (1, 0, 24, .sl true 3 (l.map cellV) none), (2, 0, 25, .x (.int .i64 (i : Int))), (4, 0, 26, .sl true 3 ((l.take i).map cellV) none), (8, 64, 27, .sl ((l.take i).map cellV).isEmpty 3 ((l.take i).map cellV) (some 27)), (16, 0, 28, .agg [.x (.string s), .x (.int .i64 c), .x (.int .i64 r)]), (32, 0, 29, .sl false 3 [.agg [.x (.string s), .x (.int .i64 c), .x (.int .i64 r)]] none), (64, 1024, 30, .sl false 3 ((l.take i ++ [(s, c, r)]).map cellV) (some 30)), (128, 0, 31, .sl true 3 (l.map cellV) none), (256, 0, 32, .x (.int .i64 (i : Int))), (512, 0, 33, .sl true 3 ((l.drop i).map cellV) none), (1024, 2048, 34, .sl false 3 (((l.take i ++ [(s, c, r)]) ++ l.drop i).map cellV) (some 34)), (2048, 0, 4, .sl false 3 (((l.take i ++ [(s, c, r)]) ++ l.drop i).map cellV) (some 34))] [(3, [.x (.string s), .x (.int .i64 c), .x (.int .i64 r)])] [(0, 0, 1), (0, 1, 2), (0, 4, 16), (0, 7, 128), (0, 8, 256), (1, 1, 3), (1, 4, 17), (1, 7, 129), (1, 8, 257), (2, 0, 3), (2, 4, 18), (2, 7, 130), (2, 8, 258), (16, 0, 17), (16, 1, 18), (16, 5, 48), (16, 7, 144), (16, 8, 272), (128, 0, 129), (128, 1, 130), (128, 4, 144), (128, 8, 384), (256, 0, 257), (256, 1, 258), (256, 4, 272), (256, 7, 384), (3, 2, 7), (3, 4, 19), (3, 7, 131), (3, 8, 259), (17, 1, 19), (17, 5, 49), (17, 7, 145), (17, 8, 273), (129, 1, 131), (129, 4, 145), (129, 8, 385), (257, 1, 259), (257, 4, 273), (257, 7, 385), (18, 0, 19), (18, 5, 50), (18, 7, 146), (18, 8, 274), (130, 0, 131), (130, 4, 146), (130, 8, 386), (258, 0, 259), (258, 4, 274), (258, 7, 386), (48, 0, 49), (48, 1, 50), (48, 7, 176), (48, 8, 304), (144, 0, 145), (144, 1, 146), (144, 5, 176), (144, 8, 400), (272, 0, 273), (272, 1, 274), (272, 5, 304), (272, 7, 400), (384, 0, 385), (384, 1, 386), (384, 4, 400), (384, 9, 896), (7, 3, 15), (7, 4, 23), (7, 7, 135), (7, 8, 263), (19, 2, 23), (19, 5, 51), (19, 7, 147), (19, 8, 275), (131, 2, 135), (131, 4, 147), (131, 8, 387), (259, 2, 263), (259, 4, 275), (259, 7, 387), (49, 1, 51), (49, 7, 177), (49, 8, 305), (145, 1, 147), (145, 5, 177), (145, 8, 401), (273, 1, 275), (273, 5, 305), (273, 7, 401), (385, 1, 387), (385, 4, 401), (385, 9, 897), (50, 0, 51), (50, 7, 178), (50, 8, 306), (146, 0, 147), (146, 5, 178), (146, 8, 402), (274, 0, 275), (274, 5, 306), (274, 7, 402), (386, 0, 387), (386, 4, 402), (386, 9, 898), (176, 0, 177), (176, 1, 178), (176, 8, 432), (304, 0, 305), (304, 1, 306), (304, 7, 432), (400, 0, 401), (400, 1, 402), (400, 5, 432), (400, 9, 912), (896, 0, 897), (896, 1, 898), (896, 4, 912), (15, 4, 31), (15, 7, 143), (15, 8, 271), (23, 3, 31), (23, 5, 55), (23, 7, 151), (23, 8, 279), (135, 3, 143), (135, 4, 151), (135, 8, 391), (263, 3, 271), (263, 4, 279), (263, 7, 391), (51, 2, 55), (51, 7, 179), (51, 8, 307), (147, 2, 151), (147, 5, 179), (147, 8, 403), (275, 2, 279), (275, 5, 307), (275, 7, 403), (387, 2, 391), (387, 4, 403), (387, 9, 899), (177, 1, 179), (177, 8, 433), (305, 1, 307), (305, 7, 433), (401, 1, 403), (401, 5, 433), (401, 9, 913), (897, 1, 899), (897, 4, 913), (178, 0, 179), (178, 8, 434), (306, 0, 307), (306, 7, 434), (402, 0, 403), (402, 5, 434), (402, 9, 914), (898, 0, 899), (898, 4, 914), (432, 0, 433), (432, 1, 434), (432, 9, 944), (912, 0, 913), (912, 1, 914), (912, 5, 944), (31, 5, 63), (31, 7, 159), (31, 8, 287), (143, 4, 159), (143, 8, 399), (271, 4, 287), (271, 7, 399), (55, 3, 63), (55, 7, 183), (55, 8, 311), (151, 3, 159), (151, 5, 183), (151, 8, 407), (279, 3, 287), (279, 5, 311), (279, 7, 407), (391, 3, 399), (391, 4, 407), (391, 9, 903), (179, 2, 183), (179, 8, 435), (307, 2, 311), (307, 7, 435), (403, 2, 407), (403, 5, 435), (403, 9, 915), (899, 2, 903), (899, 4, 915), (433, 1, 435), (433, 9, 945), (913, 1, 915), (913, 5, 945), (434, 0, 435), (434, 9, 946), (914, 0, 915), (914, 5, 946), (944, 0, 945), (944, 1, 946), (63, 6, 127), (63, 7, 191), (63, 8, 319), (159, 5, 191), (159, 8, 415), (287, 5, 319), (287, 7, 415), (399, 4, 415), (399, 9, 911), (183, 3, 191), (183, 8, 439), (311, 3, 319), (311, 7, 439), (407, 3, 415), (407, 5, 439), (407, 9, 919), (903, 3, 911), (903, 4, 919), (435, 2, 439), (435, 9, 947), (915, 2, 919), (915, 5, 947), (945, 1, 947), (946, 0, 947), (127, 7, 255), (127, 8, 383), (191, 6, 255), (191, 8, 447), (319, 6, 383), (319, 7, 447), (415, 5, 447), (415, 9, 927), (911, 4, 927), (439, 3, 447), (439, 9, 951), (919, 3, 927), (919, 5, 951), (947, 2, 951), (255, 8, 511), (383, 7, 511), (447, 6, 511), (447, 9, 959), (927, 5, 959), (951, 3, 959), (511, 9, 1023), (959, 6, 1023), (1023, 10, 2047), (2047, 11, 4095)] 4095 (by kernel_rfl) (by kernel_rfl) ?_ ?_ ?_
          · simp (decide := true) (maxDischargeDepth := 200) only [go_sem]
          · simp (decide := true) (maxDischargeDepth := 200) only [go_sem, piece_l, piece_r, g1, g2, g3, i0, i1]
          · simp (decide := true) (maxDischargeDepth := 200) only [go_sem, Nat.reduceBEq, Try.results19]

        · simp (decide := true) (maxDischargeDepth := 200) only [go_sem, Nat.reduceBEq, hsz, d0, k2, k4, k5, cellV_mk, FLess, hq, Try.results19]
          refine ⟨⟨i + 1, by omega, fun j p hj hp => ?_⟩, ?_, ?_, by simp only; omega⟩
          · by_cases hji : j = i
            · subst hji; rw [hb] at hp; cases hp; exact hq
            · exact hz j p (by omega) hp
          · simp (decide := true) (maxDischargeDepth := 200) only [go_sem]
          · simp (decide := true) (maxDischargeDepth := 200) only [go_sem]
      · have d0 : decide ((i : Int) < (l.length : Int)) = false := decide_eq_false (by omega)
        obtain ⟨e1, e2⟩ := while_at (fun q => lessP q (s, c, r)) l i hi hz (fun q hq' => by rw [List.getElem?_eq_none (by omega)] at hq'; cases hq')
        have ef : intoL l (s, c, r) = (l.take i ++ [(s, c, r)]) ++ l.drop i := by rw [e, e1, e2]; simp
        rw [ef]
        simp (decide := true) (maxDischargeDepth := 200) only [go_sem, Nat.reduceBEq, hsz, d0, Try.results19]
        have g1 : ∀ (st : St), growV (envB [(14, FHas3), (16, FLess)] (fun _ => false) [] (fun _ => false) (fun i => i == 6)) st (some 27) 25 (.sl true 0 [] none) (.sl true 3 ((l.take i).map cellV) none) = _ := fun st => grow_app0 (E := envB [(14, FHas3), (16, FLess)] (fun _ => false) [] (fun _ => false) (fun i => i == 6)) rfl (b := l.take i) (by rw [List.length_take]; omega) st 27 0 3 true none (.inl rfl)
        have g2 : ∀ (st : St) (tok : Nat), growV (envB [(14, FHas3), (16, FLess)] (fun _ => false) [] (fun _ => false) (fun i => i == 6)) st (some 30) 25 (.sl ((l.take i).map cellV).isEmpty 3 ((l.take i).map cellV) (some tok)) (.sl false 3 [.agg [.x (.string s), .x (.int .i64 c), .x (.int .i64 r)]] none) = _ := fun st tok => grow_snoc (E := envB [(14, FHas3), (16, FLess)] (fun _ => false) [] (fun _ => false) (fun i => i == 6)) rfl (a := l.take i) (by rw [List.length_take]; omega) s c r st 30 tok false none
        have g3 : ∀ (st : St) (tok : Nat), growV (envB [(14, FHas3), (16, FLess)] (fun _ => false) [] (fun _ => false) (fun i => i == 6)) st (some 34) 25 (.sl false 3 ((l.take i ++ [(s, c, r)]).map cellV) (some tok)) (.sl true 3 ((l.drop i).map cellV) none) = _ := fun st tok => grow_app (E := envB [(14, FHas3), (16, FLess)] (fun _ => false) [] (fun _ => false) (fun i => i == 6)) rfl (a := l.take i ++ [(s, c, r)]) (b := l.drop i) (by simp only [List.length_append, List.length_take, List.length_drop, List.length_cons, List.length_nil]; omega) st 34 tok 3 true none (.inl rfl)
        have i0 : (0 : Int) ≤ (i : Int) := by omega
        have i1 : (i : Int) ≤ (((l.map cellV).length : Nat) : Int) := by rw [List.length_map]; omega
        refine any_dagG [(0, 0, 0, .sl true 3 (l.map cellV) none), (0, 0, 3, .ptr 3 0), (0, 2048, 4, .sl true 0 [] none), (0, 0, 5, .x (.int .i64 (i : Int))), (1, 0, 24, .sl true 3 (l.map cellV) none), (2, 0, 25, .x (.int .i64 (i : Int))), (4, 0, 26, .sl true 3 ((l.take i).map cellV) none), (8, 64, 27, .sl ((l.take i).map cellV).isEmpty 3 ((l.take i).map cellV) (some 27)), (16, 0, 28, .agg [.x (.string s), .x (.int .i64 c), .x (.int .i64 r)]), (32, 0, 29, .sl false 3 [.agg [.x (.string s), .x (.int .i64 c), .x (.int .i64 r)]] none), (64, 1024, 30, .sl false 3 ((l.take i ++ [(s, c, r)]).map cellV) (some 30)), (128, 0, 31, .sl true 3 (l.map cellV) none), (256, 0, 32, .x (.int .i64 (i : Int))), (512, 0, 33, .sl true 3 ((l.drop i).map cellV) none), (1024, 2048, 34, .sl false 3 (((l.take i ++ [(s, c, r)]) ++ l.drop i).map cellV) (some 34)), (2048, 0, 4, .sl false 3 (((l.take i ++ [(s, c, r)]) ++ l.drop i).map cellV) (some 34))] [(3, [.x (.string s), .x (.int .i64 c), .x (.int .i64 r)])] [(0, 0, 1), (0, 1, 2), (0, 4, 16), (0, 7, 128), (0, 8, 256), (1, 1, 3), (1, 4, 17), (1, 7, 129), (1, 8, 257), (2, 0, 3), (2, 4, 18), (2, 7, 130), (2, 8, 258), (16, 0, 17), (16, 1, 18), (16, 5, 48), (16, 7, 144), (16, 8, 272), (128, 0, 129), (128, 1, 130), (128, 4, 144), (128, 8, 384), (256, 0, 257), (256, 1, 258), (256, 4, 272), (256, 7, 384), (3, 2, 7), (3, 4, 19), (3, 7, 131), (3, 8, 259), (17, 1, 19), (17, 5, 49), (17, 7, 145), (17, 8, 273), (129, 1, 131), (129, 4, 145), (129, 8, 385), (257, 1, 259), (257, 4, 273), (257, 7, 385), (18, 0, 19), (18, 5, 50), (18, 7, 146), (18, 8, 274), (130, 0, 131), (130, 4, 146), (130, 8, 386), (258, 0, 259), (258, 4, 274), (258, 7, 386), (48, 0, 49), (48, 1, 50), (48, 7, 176), (48, 8, 304), (144, 0, 145), (144, 1, 146), (144, 5, 176), (144, 8, 400), (272, 0, 273), (272, 1, 274), (272, 5, 304), (272, 7, 400), (384, 0, 385), (384, 1, 386), (384, 4, 400), (384, 9, 896), (7, 3, 15), (7, 4, 23), (7, 7, 135), (7, 8, 263), (19, 2, 23), (19, 5, 51), (19, 7, 147), (19, 8, 275), (131, 2, 135), (131, 4, 147), (131, 8, 387), (259, 2, 263), (259, 4, 275), (259, 7, 387), (49, 1, 51), (49, 7, 177), (49, 8, 305), (145, 1, 147), (145, 5, 177), (145, 8, 401), (273, 1, 275), (273, 5, 305), (273, 7, 401), (385, 1, 387), (385, 4, 401), (385, 9, 897), (50, 0, 51), (50, 7, 178), (50, 8, 306), (146, 0, 147), (146, 5, 178), (146, 8, 402), (274, 0, 275), (274, 5, 306), (274, 7, 402), (386, 0, 387), (386, 4, 402), (386, 9, 898), (176, 0, 177), (176, 1, 178), (176, 8, 432), (304, 0, 305), (304, 1, 306), (304, 7, 432), (400, 0, 401), (400, 1, 402), (400, 5, 432), (400, 9, 912), (896, 0, 897), (896, 1, 898), (896, 4, 912), (15, 4, 31), (15, 7, 143), (15, 8, 271), (23, 3, 31), (23, 5, 55), (23, 7, 151), (23, 8, 279), (135, 3, 143), (135, 4, 151), (135, 8, 391), (263, 3, 271), (263, 4, 279), (263, 7, 391), (51, 2, 55), (51, 7, 179), (51, 8, 307), (147, 2, 151), (147, 5, 179), (147, 8, 403), (275, 2, 279), (275, 5, 307), (275, 7, 403), (387, 2, 391), (387, 4, 403), (387, 9, 899), (177, 1, 179), (177, 8, 433), (305, 1, 307), (305, 7, 433), (401, 1, 403), (401, 5, 433), (401, 9, 913), (897, 1, 899), (897, 4, 913), (178, 0, 179), (178, 8, 434), (306, 0, 307), (306, 7, 434), (402, 0, 403), (402, 5, 434), (402, 9, 914), (898, 0, 899), (898, 4, 914), (432, 0, 433), (432, 1, 434), (432, 9, 944), (912, 0, 913), (912, 1, 914), (912, 5, 944), (31, 5, 63), (31, 7, 159), (31, 8, 287), (143, 4, 159), (143, 8, 399), (271, 4, 287), (271, 7, 399), (55, 3, 63), (55, 7, 183), (55, 8, 311), (151, 3, 159), (151, 5, 183), (151, 8, 407), (279, 3, 287), (279, 5, 311), (279, 7, 407), (391, 3, 399), (391, 4, 407), (391, 9, 903), (179, 2, 183), (179, 8, 435), (307, 2, 311), (307, 7, 435), (403, 2, 407), (403, 5, 435), (403, 9, 915), (899, 2, 903), (899, 4, 915), (433, 1, 435), (433, 9, 945), (913, 1, 915), (913, 5, 945), (434, 0, 435), (434, 9, 946), (914, 0, 915), (914, 5, 946), (944, 0, 945), (944, 1, 946), (63, 6, 127), (63, 7, 191), (63, 8, 319), (159, 5, 191), (159, 8, 415), (287, 5, 319), (287, 7, 415), (399, 4, 415), (399, 9, 911), (183, 3, 191), (183, 8, 439), (311, 3, 319), (311, 7, 439), (407, 3, 415), (407, 5, 439), (407, 9, 919), (903, 3, 911), (903, 4, 919), (435, 2, 439), (435, 9, 947), (915, 2, 919), (915, 5, 947), (945, 1, 947), (946, 0, 947), (127, 7, 255), (127, 8, 383), (191, 6, 255), (191, 8, 447), (319, 6, 383), (319, 7, 447), (415, 5, 447), (415, 9, 927), (911, 4, 927), (439, 3, 447), (439, 9, 951), (919, 3, 927), (919, 5, 951), (947, 2, 951), (255, 8, 511), (383, 7, 511), (447, 6, 511), (447, 9, 959), (927, 5, 959), (951, 3, 959), (511, 9, 1023), (959, 6, 1023), (1023, 10, 2047), (2047, 11, 4095)] 4095 (by kernel_rfl) (by kernel_rfl) ?_ ?_ ?_
        · simp (decide := true) (maxDischargeDepth := 200) only [go_sem]
        · simp (decide := true) (maxDischargeDepth := 200) only [go_sem, piece_l, piece_r, g1, g2, g3, i0, i1]
        · simp (decide := true) (maxDischargeDepth := 200) only [go_sem, Nat.reduceBEq, Try.results19]

end Go.Proofs.Ytiphliochoengaa

/- The law's own helper: are two rows of cells one? (As layer 3's, under another name.) -/
namespace Go.Proofs.Ytiphliochoengaa
open Go Go.RowKit
set_option linter.unusedSimpArgs false
set_option maxHeartbeats 4000000 in
set_option maxRecDepth 100000 in
theorem same8_fun : FunV 11 FSame3 := by
  refine fun_of_run (E := envOf []) (k := 2) (envOK_of _ trivial) (by kernel_rfl) Try.func11 rfl (fun a w => Try.call11 a w) Try.ntmps11 (by kernel_rfl) (by decide) (by decide) ?_
  intro us r hF hdat
  unfold FSame3 at hF
  split at hF
  case h_2 => cases hF
  rename_i nl sz es nl' sz' es'
  split at hF
  case h_2 => cases hF
  rename_i l l' hl hl'
  split at hF
  case isFalse => cases hF
  rename_i hle
  obtain ⟨hle, hz1, hz2⟩ := hle
  cases hF
  refine ⟨rfl, ?_⟩
  obtain rfl := cellsOf_is hl
  obtain rfl := cellsOf_is hl'
  clear hl hl'
  have hsz : (((l.map cellV).length : Nat) : Int) = (l.length : Int) := by rw [List.length_map]
  have hsz' : (((l'.map cellV).length : Nat) : Int) = (l'.length : Int) := by rw [List.length_map]
  by_cases hlen : l.length = l'.length
  · have d1 : decide ((l.length : Int) = (l'.length : Int)) = true := decide_eq_true (by omega)
    simp (decide := true) (maxDischargeDepth := 200) only [go_sem, hsz, hsz', d1, Try.results11]
    refine loop_of (X := {i : Nat // i ≤ l.length ∧ ∀ (j : Nat), j < i → l[j]? = l'[j]?}) (fun i => [(0, .sl nl sz (l.map cellV) none), (1, .sl nl' sz' (l'.map cellV) none), (4, .x (.bool false)), (5, .x (.int .i64 i.1))]) (fun _ => []) (fun i => l.length - i.1) ⟨0, by omega, fun j hj => by omega⟩ (by simp (decide := true) only [go_sem]; rfl) trivial (fun ⟨i, hi, hz⟩ => ?_)
    by_cases hil : i < l.length
    · obtain ⟨⟨s1, c1, r1⟩, hb⟩ := getC hil
      obtain ⟨⟨s2, c2, r2⟩, hb'⟩ := getC (l := l') (i := i) (by omega)
      obtain rfl := hz1.resolve_left (fun e => by rw [e] at hil; simp at hil)
      obtain rfl := hz2.resolve_left (fun e => by rw [e] at hb'; simp at hb')
      have d0 : decide ((i : Int) < (l.length : Int)) = true := decide_eq_true (by omega)
      have k2 : (0 : Int) ≤ (i : Int) := by omega
      have k4 := count_up (i := i) (by omega)
      have k5 := cell_at hb
      have k6 := cell_at hb'
      cases hq : eqC (s1, c1, r1) (s2, c2, r2)
      · have e : decide (l = l') = false := decide_eq_false (fun hh => by
          rw [hh, hb'] at hb
          cases hb
          simp [eqC] at hq)
        simp (decide := true) (maxDischargeDepth := 200) only [go_sem, hsz, hsz', d0, k2, k4, k5, k6, cellV_mk, eq3, hq, e, Try.results11]
      · simp (decide := true) (maxDischargeDepth := 200) only [go_sem, hsz, hsz', d0, k2, k4, k5, k6, cellV_mk, eq3, hq, Try.results11]
        refine ⟨⟨i + 1, by omega, fun j hj => ?_⟩, ?_, trivial, by simp only; omega⟩
        · by_cases hji : j = i
          · subst hji; rw [hb, hb', of_decide_eq_true hq]
          · exact hz j (by omega)
        · simp (decide := true) only [go_sem]
    · have d0 : decide ((i : Int) < (l.length : Int)) = false := decide_eq_false (by omega)
      have e : decide (l = l') = true := decide_eq_true (List.ext_getElem? (fun j => by
        rcases Nat.lt_or_ge j i with hj | hj
        · exact hz j hj
        · rw [List.getElem?_eq_none (by omega), List.getElem?_eq_none (by omega)]))
      simp (decide := true) (maxDischargeDepth := 200) only [go_sem, hsz, hsz', d0, e, Try.results11]
  · have d1 : decide ((l.length : Int) = (l'.length : Int)) = false := decide_eq_false (by omega)
    have e : decide (l = l') = false := decide_eq_false (fun hh => hlen (by rw [hh]))
    simp (decide := true) (maxDischargeDepth := 200) only [go_sem, hsz, hsz', d1, e, Try.results11]


end Go.Proofs.Ytiphliochoengaa

/- How many ranges a formula has. -/
namespace Go.Proofs.Ytiphliochoengaa
open Go Go.RowKit
set_option linter.unusedSimpArgs false
mutual
/-- How many ranges there are. -/
def rngN : Nd → Nat
  | .leaf h => bif decide (h.k = 3) then 1 else 0
  | .mk h l => (bif decide (h.k = 3) then 1 else 0) + rngL l
def rngL : List Nd → Nat
  | [] => 0
  | n :: l => rngN n + rngL l
end
theorem rngN_eq (a : Nd) : rngN a = (bif decide (a.hd.k = 3) then 1 else 0) + rngL a.ks := by
  cases a <;> simp only [rngN, rngL, Nd.hd, Nd.ks] <;> rfl
theorem rngL_snoc (l : List Nd) (n : Nd) : rngL (l ++ [n]) = rngL l + rngN n := by
  induction l with
  | nil => simp [rngL]
  | cons x l ih => simp only [List.cons_append, rngL, ih, Nat.add_assoc]
mutual
theorem rngN_le : ∀ a : Nd, rngN a ≤ cnt a
  | .leaf h => by simp only [rngN, cnt]; cases decide (h.k = 3) <;> simp
  | .mk h l => by have := rngL_le l; simp only [rngN, cnt]; cases decide (h.k = 3) <;> simp <;> omega
theorem rngL_le : ∀ l : List Nd, rngL l ≤ cntL l
  | [] => by simp [rngL]
  | n :: l => by have := rngN_le n; have := rngL_le l; simp only [rngL, cntL]; omega
end
theorem rngL_take {l : List Nd} (i : Nat) : rngL (l.take i) ≤ rngL l := by
  have key : ∀ (a b : List Nd), rngL (a ++ b) = rngL a + rngL b := by
    intro a b
    induction a with
    | nil => simp [rngL]
    | cons x a ih => simp only [List.cons_append, rngL, ih, Nat.add_assoc]
  have := key (l.take i) (l.drop i)
  rw [List.take_append_drop] at this
  omega
def GAreas (nd : Nd) : Option V := if cnt nd ≤ 400 then some (.x (.int .i64 ((rngN nd : Nat) : Int))) else none
theorem GAreas_of {nd : Nd} (h : cnt nd ≤ 400) : GAreas nd = some (.x (.int .i64 ((rngN nd : Nat) : Int))) := if_pos h
set_option maxHeartbeats 4000000 in
set_option maxRecDepth 100000 in
theorem areas_fun : FunV 7 (FE encN GAreas) := by
  refine fun_rec cnt (fun a w => Try.call7 a w) (fun n ih => ?_)
  refine fun_of_run (E := envOf [(7, (FE encN fun a => if cnt a < n then GAreas a else none))]) (k := 1) (envOK_of _ ⟨ih, trivial⟩) (by kernel_rfl) Try.func7 rfl (fun a w => Try.call7 a w) Try.ntmps7 (by kernel_rfl) (by decide) (by decide) ?_
  intro us r hF hdat
  obtain ⟨nd, hus, hG⟩ := FE_out hF
  clear hF
  subst hus
  obtain ⟨hlt, hF⟩ := ite_some hG
  clear hG
  unfold GAreas at hF
  obtain ⟨h400, hF⟩ := ite_some hF
  cases hF
  clear hdat
  simp only [encN]
  obtain ⟨k, op, nm, vk, vn, vs, cs, cc, cr, ts, tc, tr, l, nl, sz, hh, hl, hf, hs⟩ := node_cases nd
  have hrec : ∀ (i : Nat) (c : Nd), l[i]? = some c → (FE encN fun a => if cnt a < n then GAreas a else none) [nodeV c] = some (.x (.int .i64 ((rngN c : Nat) : Int))) := fun i c hc => by
    have h1 := cnt_kid (nd := nd) (c := c) (i := i) (by rw [hl]; exact hc)
    exact (FE_at encN_inj _ c).trans ((if_pos (by omega)).trans (GAreas_of (by omega)))
  have hlen : l.length < 400 := by have := cnt_kids nd; rw [hl] at this; omega
  have hdl : rngL l ≤ 400 := by have := rngL_le nd.ks; have := cnt_eq nd; rw [hl] at *; omega
  obtain ⟨b, hb, hb1⟩ : ∃ b : Nat, (bif decide (k = 3) then 1 else 0) = b ∧ b ≤ 1 := ⟨_, rfl, by cases decide (k = 3) <;> simp⟩
  rw [hf, rngN_eq, hl, hh]
  simp only [hb]
  refine ⟨rfl, ?_⟩
  cases hk : decide (k = 3)
  · simp (decide := true) (maxDischargeDepth := 200) only [go_sem, hk, Try.results7]
    refine loop_of (X := {i : Nat // i ≤ l.length}) (fun i => [(1, .ptr 1 0), (2, .x (.int .i64 0)), (3, .x (.int .i64 ((b + rngL (l.take i.1) : Nat) : Int))), (4, .x (.int .i64 ((i.1 : Nat) : Int)))]) (fun _ => [(1, [.x (.int .i64 k), .x (.string op), .x (.string nm), .x (.int .i64 vk), .x (.int .i64 vn), .x (.string vs), .x (.string cs), .x (.int .i64 cc), .x (.int .i64 cr), .x (.string ts), .x (.int .i64 tc), .x (.int .i64 tr), .sl nl sz (l.map nodeV) none])]) (fun i => l.length - i.1) ⟨0, by omega⟩ (by simp (decide := true) only [go_sem, ← hb, hk, List.take_zero, rngL] <;> (repeat' first | rfl | constructor)) (by simp (decide := true) only [go_sem] <;> (repeat' first | rfl | constructor)) (fun ⟨i, hi0⟩ => ?_)
    by_cases hi : i < l.length
    · obtain ⟨c, hc1, hc2⟩ := kid_at hi
      obtain rfl := sz_kids hs hi
      have hcc := hrec i c hc1
      obtain ⟨k', op', nm', vk', vn', vs', cs', cc', cr', ts', tc', tr', l', nl', sz', hh', hl', hf', hs'⟩ := node_cases c
      rw [hf'] at hc2 hcc
      have c1 : decide ((i : Int) < (l.length : Int)) = true := decide_eq_true (by omega)
      have c2 : (0 : Int) ≤ (i : Int) := by omega
      have c4 := count_up (i := i) (by omega)
      have ht := take_snoc' hc1
      have e : rngL (l.take (i + 1)) = rngL (l.take i) + rngN c := by rw [ht, rngL_snoc]
      have hle := rngL_take (l := l) (i + 1)
      have w : bWrap .i64 (((b + rngL (l.take i) : Nat) : Int) + ((rngN c : Nat) : Int)) = ((b + rngL (l.take (i + 1)) : Nat) : Int) := by rw [bwrap_of (by unfold inR; omega)]; omega
      simp (decide := true) (maxDischargeDepth := 200) only [go_sem, List.length_map, c1, c2, c4, hc2, hcc, w, Try.results7]
      refine ⟨⟨i + 1, by omega⟩, ?_, ?_, ?_⟩
      · simp (decide := true) (maxDischargeDepth := 200) only [go_sem]
      · simp (decide := true) (maxDischargeDepth := 200) only [go_sem]
      · simp only; omega
    · have c1 : decide ((i : Int) < (l.length : Int)) = false := decide_eq_false (by omega)
      have e : l.take i = l := List.take_of_length_le (by omega)
      simp (decide := true) (maxDischargeDepth := 200) only [go_sem, List.length_map, c1, e, Try.results7]
  · simp (decide := true) (maxDischargeDepth := 200) only [go_sem, hk, Try.results7]
    refine loop_of (X := {i : Nat // i ≤ l.length}) (fun i => [(1, .ptr 1 0), (2, .x (.int .i64 0)), (3, .x (.int .i64 ((b + rngL (l.take i.1) : Nat) : Int))), (4, .x (.int .i64 ((i.1 : Nat) : Int)))]) (fun _ => [(1, [.x (.int .i64 k), .x (.string op), .x (.string nm), .x (.int .i64 vk), .x (.int .i64 vn), .x (.string vs), .x (.string cs), .x (.int .i64 cc), .x (.int .i64 cr), .x (.string ts), .x (.int .i64 tc), .x (.int .i64 tr), .sl nl sz (l.map nodeV) none])]) (fun i => l.length - i.1) ⟨0, by omega⟩ (by simp (decide := true) only [go_sem, ← hb, hk, List.take_zero, rngL] <;> (repeat' first | rfl | constructor)) (by simp (decide := true) only [go_sem] <;> (repeat' first | rfl | constructor)) (fun ⟨i, hi0⟩ => ?_)
    by_cases hi : i < l.length
    · obtain ⟨c, hc1, hc2⟩ := kid_at hi
      obtain rfl := sz_kids hs hi
      have hcc := hrec i c hc1
      obtain ⟨k', op', nm', vk', vn', vs', cs', cc', cr', ts', tc', tr', l', nl', sz', hh', hl', hf', hs'⟩ := node_cases c
      rw [hf'] at hc2 hcc
      have c1 : decide ((i : Int) < (l.length : Int)) = true := decide_eq_true (by omega)
      have c2 : (0 : Int) ≤ (i : Int) := by omega
      have c4 := count_up (i := i) (by omega)
      have ht := take_snoc' hc1
      have e : rngL (l.take (i + 1)) = rngL (l.take i) + rngN c := by rw [ht, rngL_snoc]
      have hle := rngL_take (l := l) (i + 1)
      have w : bWrap .i64 (((b + rngL (l.take i) : Nat) : Int) + ((rngN c : Nat) : Int)) = ((b + rngL (l.take (i + 1)) : Nat) : Int) := by rw [bwrap_of (by unfold inR; omega)]; omega
      simp (decide := true) (maxDischargeDepth := 200) only [go_sem, List.length_map, c1, c2, c4, hc2, hcc, w, Try.results7]
      refine ⟨⟨i + 1, by omega⟩, ?_, ?_, ?_⟩
      · simp (decide := true) (maxDischargeDepth := 200) only [go_sem]
      · simp (decide := true) (maxDischargeDepth := 200) only [go_sem]
      · simp only; omega
    · have c1 : decide ((i : Int) < (l.length : Int)) = false := decide_eq_false (by omega)
      have e : l.take i = l := List.take_of_length_le (by omega)
      simp (decide := true) (maxDischargeDepth := 200) only [go_sem, List.length_map, c1, e, Try.results7]
end Go.Proofs.Ytiphliochoengaa

/- The reference's Reads: the cells that a formula reads. -/
namespace Go.Proofs.Ytiphliochoengaa
open Go Go.RowKit
set_option linter.unusedSimpArgs false
/-- A row's cell size: of nothing, none. -/
def szO (l : List C3) : Nat := if l.isEmpty then 0 else 3
def rangeL (h : Hd) : List C3 := (cellsA h.cs h.cc h.cr h.ts h.tc h.tr).getD []
/-- What a node reads without its kids. -/
def baseR (h : Hd) : List C3 := bif decide (h.k = 2) && rightC h.cs h.cc h.cr then intoL [] (h.cs, h.cc, h.cr) else bif decide (h.k = 3) then (rangeL h).foldl intoL [] else []
mutual
def readsN : Nd → List C3
  | .leaf h => baseR h
  | .mk h l => readsL (baseR h) l
def readsL : List C3 → List Nd → List C3
  | acc, [] => acc
  | acc, n :: l => readsL ((readsN n).foldl intoL acc) l
end
theorem readsN_eq (a : Nd) : readsN a = readsL (baseR a.hd) a.ks := by
  cases a <;> simp only [readsN, readsL, Nd.hd, Nd.ks]
theorem readsL_snoc (acc : List C3) (l : List Nd) (n : Nd) : readsL acc (l ++ [n]) = (readsN n).foldl intoL (readsL acc l) := by
  induction l generalizing acc with
  | nil => rfl
  | cons x l ih => simp only [List.cons_append, readsL, ih]
theorem intoL_len (l : List C3) (p : C3) : (intoL l p).length ≤ l.length + 1 := by
  unfold intoL
  split
  · omega
  · have : (l.takeWhile (fun q => lessP q p)).length + (l.dropWhile (fun q => lessP q p)).length = l.length := by rw [← List.length_append, List.takeWhile_append_dropWhile]
    simp only [List.length_append, List.length_cons]; omega
theorem fold_len (c : List C3) : ∀ acc : List C3, (c.foldl intoL acc).length ≤ acc.length + c.length := by
  induction c with
  | nil => intro acc; simp
  | cons p c ih => intro acc; have := ih (intoL acc p); have := intoL_len acc p; simp only [List.foldl_cons, List.length_cons]; omega
theorem range_len (h : Hd) : (rangeL h).length ≤ 400 := by
  unfold rangeL cellsA
  split
  · rename_i hh
    obtain ⟨hok, h4⟩ := hh
    obtain ⟨_, _, _, hc, hr⟩ := okA_iff.1 hok
    rw [Option.getD_some, cellsL_len]
    have e1 : h.tc - h.cc + 1 = (((h.tc - h.cc + 1).toNat : Nat) : Int) := by omega
    have e2 : h.tr - h.cr + 1 = (((h.tr - h.cr + 1).toNat : Nat) : Int) := by omega
    unfold areaN at h4
    rw [e1, e2] at h4
    have : (((h.tr - h.cr + 1).toNat * (h.tc - h.cc + 1).toNat : Nat) : Int) ≤ 400 := by push_cast; rw [Int.mul_comm]; exact h4
    omega
  · simp
theorem base_len (h : Hd) : (baseR h).length ≤ 400 := by
  unfold baseR
  cases decide (h.k = 2) && rightC h.cs h.cc h.cr with
  | true => have := intoL_len [] (h.cs, h.cc, h.cr); simp only [cond_true]; simp at this; omega
  | false =>
    cases decide (h.k = 3) with
    | true => have := fold_len (rangeL h) []; have := range_len h; simp only [cond_true, cond_false]; simp at *; omega
    | false => simp
mutual
theorem readsN_len : ∀ a : Nd, (readsN a).length ≤ 400 * cnt a
  | .leaf h => by have := base_len h; simp only [readsN, cnt]; omega
  | .mk h l => by have := readsL_len (baseR h) l; have := base_len h; simp only [readsN, cnt]; omega
theorem readsL_len : ∀ (acc : List C3) (l : List Nd), (readsL acc l).length ≤ acc.length + 400 * cntL l
  | acc, [] => by simp [readsL]
  | acc, n :: l => by have := readsL_len ((readsN n).foldl intoL acc) l; have := fold_len (readsN n) acc; have := readsN_len n; simp only [readsL, cntL]; omega
end
theorem FInto_of (L : List C3) (p : C3) (h : L.length ≤ 900000) : FInto [.sl (L).isEmpty (szO (L)) ((L).map cellV) none, .agg [.x (.string p.1), .x (.int .i64 p.2.1), .x (.int .i64 p.2.2)]] = some (.sl (intoL L p).isEmpty (szO (intoL L p)) ((intoL L p).map cellV) none) := by
  obtain ⟨s, c, r⟩ := p
  unfold FInto
  simp only [cellsOf_map]
  rw [if_pos ⟨h, by cases L with | nil => exact .inr ⟨rfl, rfl⟩ | cons q L => exact .inl rfl⟩]
  by_cases hin : inL L (s, c, r) = true
  · have e : intoL L (s, c, r) = L := if_pos hin
    rw [if_pos hin, e]
  · have e : intoL L (s, c, r) = L.takeWhile (fun q => lessP q (s, c, r)) ++ (s, c, r) :: L.dropWhile (fun q => lessP q (s, c, r)) := if_neg hin
    have e2 : (intoL L (s, c, r)).isEmpty = false := by rw [e]; cases L.takeWhile (fun q => lessP q (s, c, r)) <;> rfl
    rw [if_neg hin]
    simp only [szO, e2, Bool.false_eq_true, if_false]
theorem cnt_takeL' (l : List Nd) (i : Nat) : cntL (l.take i) ≤ cntL l := by
  have key : ∀ (a b : List Nd), cntL (a ++ b) = cntL a + cntL b := by
    intro a b
    induction a with
    | nil => simp [cntL]
    | cons x a ih => simp only [List.cons_append, cntL, ih, Nat.add_assoc]
  have := key (l.take i) (l.drop i)
  rw [List.take_append_drop] at this
  omega
def GReads (nd : Nd) : Option V := if cnt nd ≤ 400 then some (.sl (readsN nd).isEmpty (szO (readsN nd)) ((readsN nd).map cellV) none) else none
theorem GReads_of {nd : Nd} (h : cnt nd ≤ 400) : GReads nd = some (.sl (readsN nd).isEmpty (szO (readsN nd)) ((readsN nd).map cellV) none) := if_pos h
theorem szO_at {l : List C3} {i : Nat} {p : C3} (h : l[i]? = some p) : szO l = 3 := by
  cases l with
  | nil => simp at h
  | cons q l => rfl
theorem take_fold {c : List C3} {i : Nat} {p : C3} (h : c[i]? = some p) (acc : List C3) : (c.take (i + 1)).foldl intoL acc = intoL ((c.take i).foldl intoL acc) p := by
  have : c.take (i + 1) = c.take i ++ [p] := by rw [List.take_add_one, h]; rfl
  rw [this, List.foldl_append]
  rfl
set_option maxHeartbeats 8000000 in
set_option maxRecDepth 100000 in
theorem reads_fun : FunV 8 (FE encN GReads) := by
  refine fun_rec cnt (fun a w => Try.call8 a w) (fun n ih => ?_)
  refine fun_of_run (E := envOf [(8, (FE encN fun a => if cnt a < n then GReads a else none)), (19, FInto), (20, FCells), (15, FRightC)]) (k := 1) (envOK_of _ ⟨ih, into_fun, rcells_fun, rright_fun, trivial⟩) (by kernel_rfl) Try.func8 rfl (fun a w => Try.call8 a w) Try.ntmps8 (by kernel_rfl) (by decide) (by decide) ?_
  intro us r hF hdat
  obtain ⟨nd, hus, hG⟩ := FE_out hF
  clear hF
  subst hus
  obtain ⟨hlt, hF⟩ := ite_some hG
  clear hG
  unfold GReads at hF
  obtain ⟨h400, hF⟩ := ite_some hF
  cases hF
  clear hdat
  simp only [encN]
  obtain ⟨k, op, nm, vk, vn, vs, cs, cc, cr, ts, tc, tr, l, nl, sz, hh, hl, hf, hs⟩ := node_cases nd
  have hrec : ∀ (i : Nat) (c : Nd), l[i]? = some c → (FE encN fun a => if cnt a < n then GReads a else none) [nodeV c] = some (.sl (readsN c).isEmpty (szO (readsN c)) ((readsN c).map cellV) none) ∧ (readsN c).length ≤ 160000 := fun i c hc => by
    have h1 := cnt_kid (nd := nd) (c := c) (i := i) (by rw [hl]; exact hc)
    have := readsN_len c
    exact ⟨(FE_at encN_inj _ c).trans ((if_pos (by omega)).trans (GReads_of (by omega))), by omega⟩
  have hlen : l.length < 400 := by have := cnt_kids nd; rw [hl] at this; omega
  have hcl : cntL l ≤ 400 := by have := cnt_eq nd; rw [hl] at this; omega
  have hbl := base_len nd.hd
  have hrl : ∀ i, (readsL (baseR nd.hd) (l.take i)).length ≤ 170000 := fun i => by have := readsL_len (baseR nd.hd) (l.take i); have := cnt_takeL' l i; omega
  rw [hf, readsN_eq, hl]
  refine ⟨rfl, ?_⟩
  rw [hh] at hbl hrl ⊢
  by_cases h2 : k = 2
  · subst h2
    cases hr : rightC cs cc cr
    · have eb : baseR ⟨2, op, nm, vk, vn, vs, cs, cc, cr, ts, tc, tr⟩ = [] := by simp [baseR, hr]
      rw [eb] at hrl ⊢
      simp (decide := true) (maxDischargeDepth := 200) only [go_sem, FRightC, hr, Try.results8]
      refine loop_of (X := {i : Nat // i ≤ l.length}) (fun i => [(1, .ptr 1 0), (2, .sl true 0 [] none), (3, .sl (readsL ([]) (l.take i.1)).isEmpty (szO (readsL ([]) (l.take i.1))) ((readsL ([]) (l.take i.1)).map cellV) none), (6, .x (.int .i64 ((i.1 : Nat) : Int)))]) (fun _ => [(1, [.x (.int .i64 2), .x (.string op), .x (.string nm), .x (.int .i64 vk), .x (.int .i64 vn), .x (.string vs), .x (.string cs), .x (.int .i64 cc), .x (.int .i64 cr), .x (.string ts), .x (.int .i64 tc), .x (.int .i64 tr), .sl nl sz (l.map nodeV) none])]) (fun i => l.length - i.1) ⟨0, by omega⟩ (by simp (decide := true) only [go_sem, List.take_zero, readsL] <;> (repeat' first | rfl | constructor)) (by simp (decide := true) only [go_sem] <;> (repeat' first | rfl | constructor)) (fun ⟨i, hi0⟩ => ?_)
      by_cases hi : i < l.length
      · obtain ⟨c, hc1, hc2⟩ := kid_at hi
        obtain rfl := sz_kids hs hi
        obtain ⟨hcc, hcl2⟩ := hrec i c hc1
        obtain ⟨k', op', nm', vk', vn', vs', cs', cc', cr', ts', tc', tr', l', nl', sz', hh', hl', hf', hs'⟩ := node_cases c
        rw [hf'] at hc2 hcc
        have c1 : decide ((i : Int) < (l.length : Int)) = true := decide_eq_true (by omega)
        have c2 : (0 : Int) ≤ (i : Int) := by omega
        have c4 := count_up (i := i) (by omega)
        have ht := take_snoc' hc1
        have e : readsL ([]) (l.take (i + 1)) = (readsN c).foldl intoL (readsL ([]) (l.take i)) := by rw [ht, readsL_snoc]
        have hal := hrl i
        generalize readsL ([]) (l.take i) = acc at hal e
        generalize readsN c = q at hcl2 hcc e
        simp (decide := true) (maxDischargeDepth := 200) only [go_sem, List.length_map, c1, c2, c4, hc2, hcc, Try.results8]
        refine loop_of (X := {j : Nat // j ≤ q.length}) (fun j => [(1, .ptr 1 0), (2, .sl true 0 [] none), (3, .sl ((q.take j.1).foldl intoL acc).isEmpty (szO ((q.take j.1).foldl intoL acc)) (((q.take j.1).foldl intoL acc).map cellV) none), (6, .x (.int .i64 ((i : Nat) : Int))), (7, .sl (q).isEmpty (szO (q)) ((q).map cellV) none), (8, .x (.int .i64 ((j.1 : Nat) : Int)))]) (fun _ => [(1, [.x (.int .i64 2), .x (.string op), .x (.string nm), .x (.int .i64 vk), .x (.int .i64 vn), .x (.string vs), .x (.string cs), .x (.int .i64 cc), .x (.int .i64 cr), .x (.string ts), .x (.int .i64 tc), .x (.int .i64 tr), .sl nl 13 (l.map nodeV) none])]) (fun j => q.length - j.1) ⟨0, by omega⟩ (by simp (decide := true) only [go_sem, List.take_zero, List.foldl_nil] <;> (repeat' first | rfl | constructor)) (by simp (decide := true) only [go_sem] <;> (repeat' first | rfl | constructor)) (fun ⟨j, hj0⟩ => ?_)
        by_cases hj : j < q.length
        · obtain ⟨p, hp⟩ := getC hj
          have d1 : decide ((j : Int) < (q.length : Int)) = true := decide_eq_true (by omega)
          have d2 : (0 : Int) ≤ (j : Int) := by omega
          have d4 := count_up (i := j) (by omega)
          have d5 := cell_at hp
          have d6 := szO_at hp
          have hfl := fold_len (q.take j) acc
          have d7 := FInto_of ((q.take j).foldl intoL acc) p (by rw [List.length_take] at hfl; omega)
          have d8 := take_fold hp acc
          simp (decide := true) (maxDischargeDepth := 200) only [go_sem, List.length_map, d1, d2, d4, d5, d6, d7, cellV_mk, Try.results8]
          refine ⟨⟨j + 1, by omega⟩, ?_, ?_, ?_⟩
          · simp (decide := true) (maxDischargeDepth := 200) only [go_sem, d8, d6]
          · simp (decide := true) (maxDischargeDepth := 200) only [go_sem]
          · simp only; omega
        · have d1 : decide ((j : Int) < (q.length : Int)) = false := decide_eq_false (by omega)
          have d9 : q.take j = q := List.take_of_length_le (by omega)
          simp (decide := true) (maxDischargeDepth := 200) only [go_sem, List.length_map, d1, d9, c4, Try.results8]
          refine ⟨⟨i + 1, by omega⟩, ?_, ?_, ?_⟩
          · simp (decide := true) (maxDischargeDepth := 200) only [go_sem, e]
          · simp (decide := true) (maxDischargeDepth := 200) only [go_sem]
          · simp only; omega
      · have c1 : decide ((i : Int) < (l.length : Int)) = false := decide_eq_false (by omega)
        have e : l.take i = l := List.take_of_length_le (by omega)
        simp (decide := true) (maxDischargeDepth := 200) only [go_sem, List.length_map, c1, e, Try.results8]

    · have eb : baseR ⟨2, op, nm, vk, vn, vs, cs, cc, cr, ts, tc, tr⟩ = intoL [] (cs, cc, cr) := by simp [baseR, hr]
      have q0 : FInto [.sl true 0 [] none, .agg [.x (.string cs), .x (.int .i64 cc), .x (.int .i64 cr)]] = some (.sl (intoL [] (cs, cc, cr)).isEmpty (szO (intoL [] (cs, cc, cr))) ((intoL [] (cs, cc, cr)).map cellV) none) := FInto_of [] (cs, cc, cr) (by simp)
      rw [eb] at hrl ⊢
      generalize intoL [] (cs, cc, cr) = base at hrl q0 ⊢
      simp (decide := true) (maxDischargeDepth := 200) only [go_sem, FRightC, hr, q0, Try.results8]
      refine loop_of (X := {i : Nat // i ≤ l.length}) (fun i => [(1, .ptr 1 0), (2, .sl true 0 [] none), (3, .sl (readsL (base) (l.take i.1)).isEmpty (szO (readsL (base) (l.take i.1))) ((readsL (base) (l.take i.1)).map cellV) none), (6, .x (.int .i64 ((i.1 : Nat) : Int)))]) (fun _ => [(1, [.x (.int .i64 2), .x (.string op), .x (.string nm), .x (.int .i64 vk), .x (.int .i64 vn), .x (.string vs), .x (.string cs), .x (.int .i64 cc), .x (.int .i64 cr), .x (.string ts), .x (.int .i64 tc), .x (.int .i64 tr), .sl nl sz (l.map nodeV) none])]) (fun i => l.length - i.1) ⟨0, by omega⟩ (by simp (decide := true) only [go_sem, List.take_zero, readsL] <;> (repeat' first | rfl | constructor)) (by simp (decide := true) only [go_sem] <;> (repeat' first | rfl | constructor)) (fun ⟨i, hi0⟩ => ?_)
      by_cases hi : i < l.length
      · obtain ⟨c, hc1, hc2⟩ := kid_at hi
        obtain rfl := sz_kids hs hi
        obtain ⟨hcc, hcl2⟩ := hrec i c hc1
        obtain ⟨k', op', nm', vk', vn', vs', cs', cc', cr', ts', tc', tr', l', nl', sz', hh', hl', hf', hs'⟩ := node_cases c
        rw [hf'] at hc2 hcc
        have c1 : decide ((i : Int) < (l.length : Int)) = true := decide_eq_true (by omega)
        have c2 : (0 : Int) ≤ (i : Int) := by omega
        have c4 := count_up (i := i) (by omega)
        have ht := take_snoc' hc1
        have e : readsL (base) (l.take (i + 1)) = (readsN c).foldl intoL (readsL (base) (l.take i)) := by rw [ht, readsL_snoc]
        have hal := hrl i
        generalize readsL (base) (l.take i) = acc at hal e
        generalize readsN c = q at hcl2 hcc e
        simp (decide := true) (maxDischargeDepth := 200) only [go_sem, List.length_map, c1, c2, c4, hc2, hcc, Try.results8]
        refine loop_of (X := {j : Nat // j ≤ q.length}) (fun j => [(1, .ptr 1 0), (2, .sl true 0 [] none), (3, .sl ((q.take j.1).foldl intoL acc).isEmpty (szO ((q.take j.1).foldl intoL acc)) (((q.take j.1).foldl intoL acc).map cellV) none), (6, .x (.int .i64 ((i : Nat) : Int))), (7, .sl (q).isEmpty (szO (q)) ((q).map cellV) none), (8, .x (.int .i64 ((j.1 : Nat) : Int)))]) (fun _ => [(1, [.x (.int .i64 2), .x (.string op), .x (.string nm), .x (.int .i64 vk), .x (.int .i64 vn), .x (.string vs), .x (.string cs), .x (.int .i64 cc), .x (.int .i64 cr), .x (.string ts), .x (.int .i64 tc), .x (.int .i64 tr), .sl nl 13 (l.map nodeV) none])]) (fun j => q.length - j.1) ⟨0, by omega⟩ (by simp (decide := true) only [go_sem, List.take_zero, List.foldl_nil] <;> (repeat' first | rfl | constructor)) (by simp (decide := true) only [go_sem] <;> (repeat' first | rfl | constructor)) (fun ⟨j, hj0⟩ => ?_)
        by_cases hj : j < q.length
        · obtain ⟨p, hp⟩ := getC hj
          have d1 : decide ((j : Int) < (q.length : Int)) = true := decide_eq_true (by omega)
          have d2 : (0 : Int) ≤ (j : Int) := by omega
          have d4 := count_up (i := j) (by omega)
          have d5 := cell_at hp
          have d6 := szO_at hp
          have hfl := fold_len (q.take j) acc
          have d7 := FInto_of ((q.take j).foldl intoL acc) p (by rw [List.length_take] at hfl; omega)
          have d8 := take_fold hp acc
          simp (decide := true) (maxDischargeDepth := 200) only [go_sem, List.length_map, d1, d2, d4, d5, d6, d7, cellV_mk, Try.results8]
          refine ⟨⟨j + 1, by omega⟩, ?_, ?_, ?_⟩
          · simp (decide := true) (maxDischargeDepth := 200) only [go_sem, d8, d6]
          · simp (decide := true) (maxDischargeDepth := 200) only [go_sem]
          · simp only; omega
        · have d1 : decide ((j : Int) < (q.length : Int)) = false := decide_eq_false (by omega)
          have d9 : q.take j = q := List.take_of_length_le (by omega)
          simp (decide := true) (maxDischargeDepth := 200) only [go_sem, List.length_map, d1, d9, c4, Try.results8]
          refine ⟨⟨i + 1, by omega⟩, ?_, ?_, ?_⟩
          · simp (decide := true) (maxDischargeDepth := 200) only [go_sem, e]
          · simp (decide := true) (maxDischargeDepth := 200) only [go_sem]
          · simp only; omega
      · have c1 : decide ((i : Int) < (l.length : Int)) = false := decide_eq_false (by omega)
        have e : l.take i = l := List.take_of_length_le (by omega)
        simp (decide := true) (maxDischargeDepth := 200) only [go_sem, List.length_map, c1, e, Try.results8]

  · have k2 : decide (k = 2) = false := decide_eq_false h2
    by_cases h3 : k = 3
    · subst h3
      have eb : baseR ⟨3, op, nm, vk, vn, vs, cs, cc, cr, ts, tc, tr⟩ = (rangeL ⟨3, op, nm, vk, vn, vs, cs, cc, cr, ts, tc, tr⟩).foldl intoL [] := by simp [baseR]
      have hrg := range_len ⟨3, op, nm, vk, vn, vs, cs, cc, cr, ts, tc, tr⟩
      have hrg2 := fold_len (rangeL ⟨3, op, nm, vk, vn, vs, cs, cc, cr, ts, tc, tr⟩) []
      cases hA : cellsA cs cc cr ts tc tr with
      | none =>
        have er : rangeL ⟨3, op, nm, vk, vn, vs, cs, cc, cr, ts, tc, tr⟩ = [] := by unfold rangeL; rw [hA]; rfl
        rw [er] at eb
        have eb : baseR ⟨3, op, nm, vk, vn, vs, cs, cc, cr, ts, tc, tr⟩ = [] := eb
        have hC : FCells [.agg [.x (.string cs), .x (.int .i64 cc), .x (.int .i64 cr), .x (.string ts), .x (.int .i64 tc), .x (.int .i64 tr)]] = some (.sl true 0 [] none) := by unfold FCells; simp only [hA]
        rw [eb] at hrl ⊢
        simp (decide := true) (maxDischargeDepth := 200) only [go_sem, hC, Try.results8]
        refine loop_of (X := Unit) (fun _ => [(1, .ptr 1 0), (2, .sl true 0 [] none), (3, .sl true 0 [] none), (4, .sl true 0 [] none), (5, .x (.int .i64 0))]) (fun _ => [(1, [.x (.int .i64 3), .x (.string op), .x (.string nm), .x (.int .i64 vk), .x (.int .i64 vn), .x (.string vs), .x (.string cs), .x (.int .i64 cc), .x (.int .i64 cr), .x (.string ts), .x (.int .i64 tc), .x (.int .i64 tr), .sl nl sz (l.map nodeV) none])]) (fun _ => 0) () (by simp (decide := true) only [go_sem] <;> (repeat' first | rfl | constructor)) (by simp (decide := true) only [go_sem] <;> (repeat' first | rfl | constructor)) (fun _ => ?_)
        simp (decide := true) (maxDischargeDepth := 200) only [go_sem, Try.results8]
        refine loop_of (X := {i : Nat // i ≤ l.length}) (fun i => [(1, .ptr 1 0), (2, .sl true 0 [] none), (3, .sl (readsL ([]) (l.take i.1)).isEmpty (szO (readsL ([]) (l.take i.1))) ((readsL ([]) (l.take i.1)).map cellV) none), (6, .x (.int .i64 ((i.1 : Nat) : Int)))]) (fun _ => [(1, [.x (.int .i64 3), .x (.string op), .x (.string nm), .x (.int .i64 vk), .x (.int .i64 vn), .x (.string vs), .x (.string cs), .x (.int .i64 cc), .x (.int .i64 cr), .x (.string ts), .x (.int .i64 tc), .x (.int .i64 tr), .sl nl sz (l.map nodeV) none])]) (fun i => l.length - i.1) ⟨0, by omega⟩ (by simp (decide := true) only [go_sem, List.take_zero, readsL] <;> (repeat' first | rfl | constructor)) (by simp (decide := true) only [go_sem] <;> (repeat' first | rfl | constructor)) (fun ⟨i, hi0⟩ => ?_)
        by_cases hi : i < l.length
        · obtain ⟨c, hc1, hc2⟩ := kid_at hi
          obtain rfl := sz_kids hs hi
          obtain ⟨hcc, hcl2⟩ := hrec i c hc1
          obtain ⟨k', op', nm', vk', vn', vs', cs', cc', cr', ts', tc', tr', l', nl', sz', hh', hl', hf', hs'⟩ := node_cases c
          rw [hf'] at hc2 hcc
          have c1 : decide ((i : Int) < (l.length : Int)) = true := decide_eq_true (by omega)
          have c2 : (0 : Int) ≤ (i : Int) := by omega
          have c4 := count_up (i := i) (by omega)
          have ht := take_snoc' hc1
          have e : readsL ([]) (l.take (i + 1)) = (readsN c).foldl intoL (readsL ([]) (l.take i)) := by rw [ht, readsL_snoc]
          have hal := hrl i
          generalize readsL ([]) (l.take i) = acc at hal e
          generalize readsN c = q at hcl2 hcc e
          simp (decide := true) (maxDischargeDepth := 200) only [go_sem, List.length_map, c1, c2, c4, hc2, hcc, Try.results8]
          refine loop_of (X := {j : Nat // j ≤ q.length}) (fun j => [(1, .ptr 1 0), (2, .sl true 0 [] none), (3, .sl ((q.take j.1).foldl intoL acc).isEmpty (szO ((q.take j.1).foldl intoL acc)) (((q.take j.1).foldl intoL acc).map cellV) none), (6, .x (.int .i64 ((i : Nat) : Int))), (7, .sl (q).isEmpty (szO (q)) ((q).map cellV) none), (8, .x (.int .i64 ((j.1 : Nat) : Int)))]) (fun _ => [(1, [.x (.int .i64 3), .x (.string op), .x (.string nm), .x (.int .i64 vk), .x (.int .i64 vn), .x (.string vs), .x (.string cs), .x (.int .i64 cc), .x (.int .i64 cr), .x (.string ts), .x (.int .i64 tc), .x (.int .i64 tr), .sl nl 13 (l.map nodeV) none])]) (fun j => q.length - j.1) ⟨0, by omega⟩ (by simp (decide := true) only [go_sem, List.take_zero, List.foldl_nil] <;> (repeat' first | rfl | constructor)) (by simp (decide := true) only [go_sem] <;> (repeat' first | rfl | constructor)) (fun ⟨j, hj0⟩ => ?_)
          by_cases hj : j < q.length
          · obtain ⟨p, hp⟩ := getC hj
            have d1 : decide ((j : Int) < (q.length : Int)) = true := decide_eq_true (by omega)
            have d2 : (0 : Int) ≤ (j : Int) := by omega
            have d4 := count_up (i := j) (by omega)
            have d5 := cell_at hp
            have d6 := szO_at hp
            have hfl := fold_len (q.take j) acc
            have d7 := FInto_of ((q.take j).foldl intoL acc) p (by rw [List.length_take] at hfl; omega)
            have d8 := take_fold hp acc
            simp (decide := true) (maxDischargeDepth := 200) only [go_sem, List.length_map, d1, d2, d4, d5, d6, d7, cellV_mk, Try.results8]
            refine ⟨⟨j + 1, by omega⟩, ?_, ?_, ?_⟩
            · simp (decide := true) (maxDischargeDepth := 200) only [go_sem, d8, d6]
            · simp (decide := true) (maxDischargeDepth := 200) only [go_sem]
            · simp only; omega
          · have d1 : decide ((j : Int) < (q.length : Int)) = false := decide_eq_false (by omega)
            have d9 : q.take j = q := List.take_of_length_le (by omega)
            simp (decide := true) (maxDischargeDepth := 200) only [go_sem, List.length_map, d1, d9, c4, Try.results8]
            refine ⟨⟨i + 1, by omega⟩, ?_, ?_, ?_⟩
            · simp (decide := true) (maxDischargeDepth := 200) only [go_sem, e]
            · simp (decide := true) (maxDischargeDepth := 200) only [go_sem]
            · simp only; omega
        · have c1 : decide ((i : Int) < (l.length : Int)) = false := decide_eq_false (by omega)
          have e : l.take i = l := List.take_of_length_le (by omega)
          simp (decide := true) (maxDischargeDepth := 200) only [go_sem, List.length_map, c1, e, Try.results8]

      | some q0 =>
        have er : rangeL ⟨3, op, nm, vk, vn, vs, cs, cc, cr, ts, tc, tr⟩ = q0 := by unfold rangeL; rw [hA]; rfl
        rw [er] at eb hrg hrg2
        have hC : FCells [.agg [.x (.string cs), .x (.int .i64 cc), .x (.int .i64 cr), .x (.string ts), .x (.int .i64 tc), .x (.int .i64 tr)]] = some (.sl false 3 (q0.map cellV) none) := by unfold FCells; simp only [hA]
        rw [eb] at hrl ⊢
        simp (decide := true) (maxDischargeDepth := 200) only [go_sem, hC, Try.results8]
        refine loop_of (X := {j : Nat // j ≤ q0.length}) (fun j => [(1, .ptr 1 0), (2, .sl true 0 [] none), (3, .sl ((q0.take j.1).foldl intoL []).isEmpty (szO ((q0.take j.1).foldl intoL [])) (((q0.take j.1).foldl intoL []).map cellV) none), (4, .sl false 3 (q0.map cellV) none), (5, .x (.int .i64 ((j.1 : Nat) : Int)))]) (fun _ => [(1, [.x (.int .i64 3), .x (.string op), .x (.string nm), .x (.int .i64 vk), .x (.int .i64 vn), .x (.string vs), .x (.string cs), .x (.int .i64 cc), .x (.int .i64 cr), .x (.string ts), .x (.int .i64 tc), .x (.int .i64 tr), .sl nl sz (l.map nodeV) none])]) (fun j => q0.length - j.1) ⟨0, by omega⟩ (by simp (decide := true) only [go_sem, List.take_zero, List.foldl_nil] <;> (repeat' first | rfl | constructor)) (by simp (decide := true) only [go_sem] <;> (repeat' first | rfl | constructor)) (fun ⟨j, hj0⟩ => ?_)
        by_cases hj : j < q0.length
        · obtain ⟨p, hp⟩ := getC hj
          have d1 : decide ((j : Int) < (q0.length : Int)) = true := decide_eq_true (by omega)
          have d2 : (0 : Int) ≤ (j : Int) := by omega
          have d4 := count_up (i := j) (by omega)
          have d5 := cell_at hp
          have hfl := fold_len (q0.take j) []
          have d7 := FInto_of ((q0.take j).foldl intoL []) p (by rw [List.length_take] at hfl; simp only [List.length_nil] at hfl; omega)
          have d8 := take_fold hp []
          simp (decide := true) (maxDischargeDepth := 200) only [go_sem, List.length_map, d1, d2, d4, d5, d7, cellV_mk, Try.results8]
          refine ⟨⟨j + 1, by omega⟩, ?_, ?_, ?_⟩
          · simp (decide := true) (maxDischargeDepth := 200) only [go_sem, d8]
          · simp (decide := true) (maxDischargeDepth := 200) only [go_sem]
          · simp only; omega
        · have d1 : decide ((j : Int) < (q0.length : Int)) = false := decide_eq_false (by omega)
          have d9 : q0.take j = q0 := List.take_of_length_le (by omega)
          simp (decide := true) (maxDischargeDepth := 200) only [go_sem, List.length_map, d1, d9, Try.results8]
          generalize q0.foldl intoL [] = base at hrl hrg2 ⊢
          refine loop_of (X := {i : Nat // i ≤ l.length}) (fun i => [(1, .ptr 1 0), (2, .sl true 0 [] none), (3, .sl (readsL (base) (l.take i.1)).isEmpty (szO (readsL (base) (l.take i.1))) ((readsL (base) (l.take i.1)).map cellV) none), (6, .x (.int .i64 ((i.1 : Nat) : Int)))]) (fun _ => [(1, [.x (.int .i64 3), .x (.string op), .x (.string nm), .x (.int .i64 vk), .x (.int .i64 vn), .x (.string vs), .x (.string cs), .x (.int .i64 cc), .x (.int .i64 cr), .x (.string ts), .x (.int .i64 tc), .x (.int .i64 tr), .sl nl sz (l.map nodeV) none])]) (fun i => l.length - i.1) ⟨0, by omega⟩ (by simp (decide := true) only [go_sem, List.take_zero, readsL] <;> (repeat' first | rfl | constructor)) (by simp (decide := true) only [go_sem] <;> (repeat' first | rfl | constructor)) (fun ⟨i, hi0⟩ => ?_)
          by_cases hi : i < l.length
          · obtain ⟨c, hc1, hc2⟩ := kid_at hi
            obtain rfl := sz_kids hs hi
            obtain ⟨hcc, hcl2⟩ := hrec i c hc1
            obtain ⟨k', op', nm', vk', vn', vs', cs', cc', cr', ts', tc', tr', l', nl', sz', hh', hl', hf', hs'⟩ := node_cases c
            rw [hf'] at hc2 hcc
            have c1 : decide ((i : Int) < (l.length : Int)) = true := decide_eq_true (by omega)
            have c2 : (0 : Int) ≤ (i : Int) := by omega
            have c4 := count_up (i := i) (by omega)
            have ht := take_snoc' hc1
            have e : readsL (base) (l.take (i + 1)) = (readsN c).foldl intoL (readsL (base) (l.take i)) := by rw [ht, readsL_snoc]
            have hal := hrl i
            generalize readsL (base) (l.take i) = acc at hal e
            generalize readsN c = q at hcl2 hcc e
            simp (decide := true) (maxDischargeDepth := 200) only [go_sem, List.length_map, c1, c2, c4, hc2, hcc, Try.results8]
            refine loop_of (X := {j : Nat // j ≤ q.length}) (fun j => [(1, .ptr 1 0), (2, .sl true 0 [] none), (3, .sl ((q.take j.1).foldl intoL acc).isEmpty (szO ((q.take j.1).foldl intoL acc)) (((q.take j.1).foldl intoL acc).map cellV) none), (6, .x (.int .i64 ((i : Nat) : Int))), (7, .sl (q).isEmpty (szO (q)) ((q).map cellV) none), (8, .x (.int .i64 ((j.1 : Nat) : Int)))]) (fun _ => [(1, [.x (.int .i64 3), .x (.string op), .x (.string nm), .x (.int .i64 vk), .x (.int .i64 vn), .x (.string vs), .x (.string cs), .x (.int .i64 cc), .x (.int .i64 cr), .x (.string ts), .x (.int .i64 tc), .x (.int .i64 tr), .sl nl 13 (l.map nodeV) none])]) (fun j => q.length - j.1) ⟨0, by omega⟩ (by simp (decide := true) only [go_sem, List.take_zero, List.foldl_nil] <;> (repeat' first | rfl | constructor)) (by simp (decide := true) only [go_sem] <;> (repeat' first | rfl | constructor)) (fun ⟨j, hj0⟩ => ?_)
            by_cases hj : j < q.length
            · obtain ⟨p, hp⟩ := getC hj
              have d1 : decide ((j : Int) < (q.length : Int)) = true := decide_eq_true (by omega)
              have d2 : (0 : Int) ≤ (j : Int) := by omega
              have d4 := count_up (i := j) (by omega)
              have d5 := cell_at hp
              have d6 := szO_at hp
              have hfl := fold_len (q.take j) acc
              have d7 := FInto_of ((q.take j).foldl intoL acc) p (by rw [List.length_take] at hfl; omega)
              have d8 := take_fold hp acc
              simp (decide := true) (maxDischargeDepth := 200) only [go_sem, List.length_map, d1, d2, d4, d5, d6, d7, cellV_mk, Try.results8]
              refine ⟨⟨j + 1, by omega⟩, ?_, ?_, ?_⟩
              · simp (decide := true) (maxDischargeDepth := 200) only [go_sem, d8, d6]
              · simp (decide := true) (maxDischargeDepth := 200) only [go_sem]
              · simp only; omega
            · have d1 : decide ((j : Int) < (q.length : Int)) = false := decide_eq_false (by omega)
              have d9 : q.take j = q := List.take_of_length_le (by omega)
              simp (decide := true) (maxDischargeDepth := 200) only [go_sem, List.length_map, d1, d9, c4, Try.results8]
              refine ⟨⟨i + 1, by omega⟩, ?_, ?_, ?_⟩
              · simp (decide := true) (maxDischargeDepth := 200) only [go_sem, e]
              · simp (decide := true) (maxDischargeDepth := 200) only [go_sem]
              · simp only; omega
          · have c1 : decide ((i : Int) < (l.length : Int)) = false := decide_eq_false (by omega)
            have e : l.take i = l := List.take_of_length_le (by omega)
            simp (decide := true) (maxDischargeDepth := 200) only [go_sem, List.length_map, c1, e, Try.results8]

    · have k3 : decide (k = 3) = false := decide_eq_false h3
      have eb : baseR ⟨k, op, nm, vk, vn, vs, cs, cc, cr, ts, tc, tr⟩ = [] := by simp [baseR, h2, h3]
      rw [eb] at hrl ⊢
      simp (decide := true) (maxDischargeDepth := 200) only [go_sem, k2, k3, Try.results8]
      refine loop_of (X := {i : Nat // i ≤ l.length}) (fun i => [(1, .ptr 1 0), (2, .sl true 0 [] none), (3, .sl (readsL ([]) (l.take i.1)).isEmpty (szO (readsL ([]) (l.take i.1))) ((readsL ([]) (l.take i.1)).map cellV) none), (6, .x (.int .i64 ((i.1 : Nat) : Int)))]) (fun _ => [(1, [.x (.int .i64 k), .x (.string op), .x (.string nm), .x (.int .i64 vk), .x (.int .i64 vn), .x (.string vs), .x (.string cs), .x (.int .i64 cc), .x (.int .i64 cr), .x (.string ts), .x (.int .i64 tc), .x (.int .i64 tr), .sl nl sz (l.map nodeV) none])]) (fun i => l.length - i.1) ⟨0, by omega⟩ (by simp (decide := true) only [go_sem, List.take_zero, readsL] <;> (repeat' first | rfl | constructor)) (by simp (decide := true) only [go_sem] <;> (repeat' first | rfl | constructor)) (fun ⟨i, hi0⟩ => ?_)
      by_cases hi : i < l.length
      · obtain ⟨c, hc1, hc2⟩ := kid_at hi
        obtain rfl := sz_kids hs hi
        obtain ⟨hcc, hcl2⟩ := hrec i c hc1
        obtain ⟨k', op', nm', vk', vn', vs', cs', cc', cr', ts', tc', tr', l', nl', sz', hh', hl', hf', hs'⟩ := node_cases c
        rw [hf'] at hc2 hcc
        have c1 : decide ((i : Int) < (l.length : Int)) = true := decide_eq_true (by omega)
        have c2 : (0 : Int) ≤ (i : Int) := by omega
        have c4 := count_up (i := i) (by omega)
        have ht := take_snoc' hc1
        have e : readsL ([]) (l.take (i + 1)) = (readsN c).foldl intoL (readsL ([]) (l.take i)) := by rw [ht, readsL_snoc]
        have hal := hrl i
        generalize readsL ([]) (l.take i) = acc at hal e
        generalize readsN c = q at hcl2 hcc e
        simp (decide := true) (maxDischargeDepth := 200) only [go_sem, List.length_map, c1, c2, c4, hc2, hcc, Try.results8]
        refine loop_of (X := {j : Nat // j ≤ q.length}) (fun j => [(1, .ptr 1 0), (2, .sl true 0 [] none), (3, .sl ((q.take j.1).foldl intoL acc).isEmpty (szO ((q.take j.1).foldl intoL acc)) (((q.take j.1).foldl intoL acc).map cellV) none), (6, .x (.int .i64 ((i : Nat) : Int))), (7, .sl (q).isEmpty (szO (q)) ((q).map cellV) none), (8, .x (.int .i64 ((j.1 : Nat) : Int)))]) (fun _ => [(1, [.x (.int .i64 k), .x (.string op), .x (.string nm), .x (.int .i64 vk), .x (.int .i64 vn), .x (.string vs), .x (.string cs), .x (.int .i64 cc), .x (.int .i64 cr), .x (.string ts), .x (.int .i64 tc), .x (.int .i64 tr), .sl nl 13 (l.map nodeV) none])]) (fun j => q.length - j.1) ⟨0, by omega⟩ (by simp (decide := true) only [go_sem, List.take_zero, List.foldl_nil] <;> (repeat' first | rfl | constructor)) (by simp (decide := true) only [go_sem] <;> (repeat' first | rfl | constructor)) (fun ⟨j, hj0⟩ => ?_)
        by_cases hj : j < q.length
        · obtain ⟨p, hp⟩ := getC hj
          have d1 : decide ((j : Int) < (q.length : Int)) = true := decide_eq_true (by omega)
          have d2 : (0 : Int) ≤ (j : Int) := by omega
          have d4 := count_up (i := j) (by omega)
          have d5 := cell_at hp
          have d6 := szO_at hp
          have hfl := fold_len (q.take j) acc
          have d7 := FInto_of ((q.take j).foldl intoL acc) p (by rw [List.length_take] at hfl; omega)
          have d8 := take_fold hp acc
          simp (decide := true) (maxDischargeDepth := 200) only [go_sem, List.length_map, d1, d2, d4, d5, d6, d7, cellV_mk, Try.results8]
          refine ⟨⟨j + 1, by omega⟩, ?_, ?_, ?_⟩
          · simp (decide := true) (maxDischargeDepth := 200) only [go_sem, d8, d6]
          · simp (decide := true) (maxDischargeDepth := 200) only [go_sem]
          · simp only; omega
        · have d1 : decide ((j : Int) < (q.length : Int)) = false := decide_eq_false (by omega)
          have d9 : q.take j = q := List.take_of_length_le (by omega)
          simp (decide := true) (maxDischargeDepth := 200) only [go_sem, List.length_map, d1, d9, c4, Try.results8]
          refine ⟨⟨i + 1, by omega⟩, ?_, ?_, ?_⟩
          · simp (decide := true) (maxDischargeDepth := 200) only [go_sem, e]
          · simp (decide := true) (maxDischargeDepth := 200) only [go_sem]
          · simp only; omega
      · have c1 : decide ((i : Int) < (l.length : Int)) = false := decide_eq_false (by omega)
        have e : l.take i = l := List.take_of_length_le (by omega)
        simp (decide := true) (maxDischargeDepth := 200) only [go_sem, List.length_map, c1, e, Try.results8]

end Go.Proofs.Ytiphliochoengaa

/- The reference's Sheets: the sheets of the cells that a formula reads. -/
namespace Go.Proofs.Ytiphliochoengaa
open Go Go.RowKit
set_option linter.unusedSimpArgs false
def strC (s : ByteArray) : V := .x (.string s)
def stepS (l : List ByteArray) (p : C3) : List ByteArray := bif decide (l.getLast? = some p.1) then l else l ++ [p.1]
def sheetsL (c : List C3) : List ByteArray := c.foldl stepS []
theorem stepS_len (l : List ByteArray) (p : C3) : (stepS l p).length ≤ l.length + 1 := by
  unfold stepS
  cases decide (l.getLast? = some p.1) <;> simp
theorem foldS_len (c : List C3) : ∀ acc : List ByteArray, (c.foldl stepS acc).length ≤ acc.length + c.length := by
  induction c with
  | nil => intro acc; simp
  | cons p c ih => intro acc; have := ih (stepS acc p); have := stepS_len acc p; simp only [List.foldl_cons, List.length_cons]; omega
theorem take_foldS {c : List C3} {i : Nat} {p : C3} (h : c[i]? = some p) (acc : List ByteArray) : (c.take (i + 1)).foldl stepS acc = stepS ((c.take i).foldl stepS acc) p := by
  have : c.take (i + 1) = c.take i ++ [p] := by rw [List.take_add_one, h]; rfl
  rw [this, List.foldl_append]
  rfl
theorem push_str {a : List ByteArray} (h : a.length ≤ 1000000) (L : List (Nat × (List V → Option V))) (s : ByteArray) (st : St) (d tok : Nat) (nl : Bool) (t' : Option Nat) :
    growV (envOf L) st (some d) 9 (.sl a.isEmpty 1 (a.map strC) (some tok)) (.sl nl 1 [.x (.string s)] t') = some ⟨upd (strip tok (strip d st.t)) d (.sl false 1 (a.map strC ++ [.x (.string s)]) (some d)), st.b⟩ := by
  have e : a.isEmpty = (a.map strC).isEmpty := by cases a <;> rfl
  rw [e]
  refine growV_acc (E := envOf L) (n := 1) sz9 by9 ze9 (by decide) rfl rfl ?_ ?_ st d tok nl t'
  · rw [List.length_map]; omega
  · rw [List.length_map]; omega
theorem strC_snoc (a : List ByteArray) (s : ByteArray) : (a ++ [s]).map strC = a.map strC ++ [.x (.string s)] := by simp [strC]
def GSheets (nd : Nd) : Option V := if cnt nd ≤ 400 then some (.sl (sheetsL (readsN nd)).isEmpty 1 ((sheetsL (readsN nd)).map strC) (none)) else none
set_option maxHeartbeats 8000000 in
set_option maxRecDepth 100000 in
theorem sheets_fun : FunV 10 (FE encN GSheets) := by
  refine fun_of_run (E := envOf [(8, (FE encN GReads))]) (k := 1) (envOK_of _ ⟨reads_fun, trivial⟩) (by kernel_rfl) Try.func10 rfl (fun a w => Try.call10 a w) Try.ntmps10 (by kernel_rfl) (by decide) (by decide) ?_
  intro us r hF hdat
  obtain ⟨nd, hus, hG⟩ := FE_out hF
  clear hF
  subst hus
  unfold GSheets at hG
  obtain ⟨h400, hF⟩ := ite_some hG
  cases hF
  clear hdat
  simp only [encN]
  have hrd := (FE_at encN_inj GReads nd).trans (GReads_of h400)
  have hql := readsN_len nd
  obtain ⟨k, op, nm, vk, vn, vs, cs, cc, cr, ts, tc, tr, l, nl, sz, hh, hl, hf, hs⟩ := node_cases nd
  generalize readsN nd = q at hrd hql ⊢
  simp only [encN] at hrd
  rw [hf] at hrd ⊢
  refine ⟨rfl, ?_⟩
  unfold sheetsL
  simp (decide := true) (maxDischargeDepth := 200) only [go_sem, hrd, Try.results10]
  refine loop_nil 4 1 38 (by simp only [go_sem]; rfl) ?_
  refine loop_of (X := {i : Nat // i ≤ q.length}) (fun i => [(1, .ptr 1 0), (2, .sl true 0 [] none), (3, .sl (q).isEmpty (szO (q)) ((q).map cellV) none), (4, .sl ((q.take i.1).foldl stepS []).isEmpty 1 (((q.take i.1).foldl stepS []).map strC) (some 38)), (5, .x (.int .i64 ((i.1 : Nat) : Int)))]) (fun _ => [(1, [.x (.int .i64 k), .x (.string op), .x (.string nm), .x (.int .i64 vk), .x (.int .i64 vn), .x (.string vs), .x (.string cs), .x (.int .i64 cc), .x (.int .i64 cr), .x (.string ts), .x (.int .i64 tc), .x (.int .i64 tr), .sl nl sz (l.map nodeV) none])]) (fun i => q.length - i.1) ⟨0, by omega⟩ (by simp (decide := true) only [go_sem, List.take_zero, List.foldl_nil] <;> (repeat' first | rfl | constructor)) (by simp (decide := true) only [go_sem] <;> (repeat' first | rfl | constructor)) (fun ⟨i, hi0⟩ => ?_)
  by_cases hi : i < q.length
  · obtain ⟨⟨s, c, r⟩, hp⟩ := getC hi
    have c1 : decide ((i : Int) < (q.length : Int)) = true := decide_eq_true (by omega)
    have c2 : (0 : Int) ≤ (i : Int) := by omega
    have c4 := count_up (i := i) (by omega)
    have c5 := cell_at hp
    have c6 := szO_at hp
    have e := take_foldS hp []
    have hfl := foldS_len (q.take i) []
    rw [List.length_take] at hfl
    simp only [List.length_nil] at hfl
    generalize (q.take i).foldl stepS [] = a at hfl e ⊢
    have g1 := push_str (a := a) (by omega)
    rcases List.eq_nil_or_concat a with rfl | ⟨a', x, rfl⟩
    · have e2 : stepS [] (s, c, r) = [] ++ [s] := rfl
      rw [e2] at e
      have g0 : ∀ (st : St) (nl : Bool) (t' : Option Nat), growV (envOf [(8, (FE encN GReads))]) st (some 38) 9 (.sl true 1 [] (some 38)) (.sl nl 1 [.x (.string s)] t') = some ⟨upd (strip 38 (strip 38 st.t)) 38 (.sl false 1 [.x (.string s)] (some 38)), st.b⟩ := fun st nl t' => push_str (a := []) (by simp) _ s st 38 38 nl t'
      simp (decide := true) (maxDischargeDepth := 200) only [go_sem, List.length_map, c1, c2, c4, c5, c6, g0, List.isEmpty_nil, Int.natCast_zero, cellV_mk, Try.results10]
      refine ⟨⟨i + 1, by omega⟩, ?_, ?_, by simp only; omega⟩
      · simp (decide := true) (maxDischargeDepth := 200) only [go_sem, e, c6, List.isEmpty_cons, List.map_nil, strC]
      · simp (decide := true) (maxDischargeDepth := 200) only [go_sem]
    · rw [List.concat_eq_append] at *
      have n1 : decide ((((a' ++ [x]).length : Nat) : Int) = 0) = false := decide_eq_false (by simp; omega)
      have n2 : bWrap .i64 ((((a' ++ [x]).length : Nat) : Int) - 1) = (a'.length : Int) := by rw [bwrap_of (by unfold inR; simp at *; omega)]; simp
      have n3 : (0 : Int) ≤ (a'.length : Int) := by omega
      have n4 : ((a' ++ [x]).map strC)[((a'.length : Nat) : Int).toNat]? = some (.x (.string x)) := by rw [Int.toNat_natCast, List.getElem?_map, List.getElem?_append_right (Nat.le_refl _)]; simp [strC]
      have g3 := g1
      simp only [snoc_empty] at g3
      by_cases hx : x = s
      · have n5 : decide (x = s) = true := decide_eq_true hx
        have e2 : stepS (a' ++ [x]) (s, c, r) = a' ++ [x] := by simp [stepS, hx]
        rw [e2] at e
        simp (decide := true) (maxDischargeDepth := 200) only [go_sem, List.length_map, c1, c2, c4, c5, c6, g3, n1, n2, n3, n4, n5, cellV_mk, Try.results10]
        refine ⟨⟨i + 1, by omega⟩, ?_, ?_, by simp only; omega⟩
        · simp (decide := true) (maxDischargeDepth := 200) only [go_sem, e, c6]
        · simp (decide := true) (maxDischargeDepth := 200) only [go_sem]
      · have n5 : decide (x = s) = false := decide_eq_false hx
        have e2 : stepS (a' ++ [x]) (s, c, r) = (a' ++ [x]) ++ [s] := by simp [stepS, hx]
        rw [e2] at e
        simp (decide := true) (maxDischargeDepth := 200) only [go_sem, List.length_map, c1, c2, c4, c5, c6, g3, n1, n2, n3, n4, n5, cellV_mk, Try.results10]
        refine ⟨⟨i + 1, by omega⟩, ?_, ?_, by simp only; omega⟩
        · simp (decide := true) (maxDischargeDepth := 200) only [go_sem, e, c6, strC_snoc]
        · simp (decide := true) (maxDischargeDepth := 200) only [go_sem]
  · have c1 : decide ((i : Int) < (q.length : Int)) = false := decide_eq_false (by omega)
    have e : q.take i = q := List.take_of_length_le (by omega)
    simp (decide := true) (maxDischargeDepth := 200) only [go_sem, List.length_map, c1, e, Try.results10]
end Go.Proofs.Ytiphliochoengaa
