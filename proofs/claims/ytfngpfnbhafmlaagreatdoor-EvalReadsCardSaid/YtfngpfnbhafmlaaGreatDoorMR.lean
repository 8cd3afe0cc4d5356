/- The reference's rows of cells that are read. -/
import Derived.Test.YtfngpfnbhafmlaaGreatDoorML
import Derived.Test.YtfngpfnbhafmlaaGreatDoorMPO
import Derived.Test.YtfngpfnbhafmlaaGreatDoorMT
import Derived.Test.YtfngpfnbhafmlaaGreatDoorME
import Derived.Test.YtfngpfnbhafmlaaGreatDoorMD
namespace Go.Proofs.YtfngpfnbhafmlaaGreatDoor
open Go Go.RowKit
set_option linter.unusedSimpArgs false
theorem any_dagG {E : Env} {ops : List Oper} {st : St} {K : St → Prop} (ents : List (Nat × Nat × Nat × V)) (bs : List (Nat × List V)) (ps : List (Nat × Nat × Nat)) (full : Nat) (hf : 2 ^ ops.length - 1 = full) (h : dagOK ops ps = true) (h0 : leT st (selT ents 0) ∧ leB st bs) (ht : dagT E ops ents bs ps)
 (hk : K (stOf (selT ents full) bs)) : AnyV E ops st K := any_dag ents bs ps h h0 ht (hf ▸ hk)
theorem stripB_B1 (l : List (Nat × (List V → Option V))) (M : Nat → Bool) (lp : List (Nat × (List V → Option (V × List (List V))))) (any : Nat → Bool) (k : Nat) (b : Nat → Option (List V)) : stripB (envB l M lp (fun _ => false) any) k b = b := rfl
attribute [go_sem] stripB_B1
theorem loop_nilL {E : Env} {a : Code} {st : St} {K : Out → St → Prop} (i n : Nat) {es : List V} {n0 : Nat} {k0 : Option Nat} (h : st.t i = .sl true n0 es k0) (he : es = [])
 (hr : LoopV (run E a) ⟨upd st.t i (.sl true n es none), st.b⟩ K) : LoopV (run E a) st K := by
 subst he
 obtain ⟨X, I, μ, x0, h0, hx⟩ := hr
 refine ⟨X, I, μ, x0, ⟨fun j => ?_, h0.b⟩, hx⟩
 have := h0.t j
 simp only [upd_at] at this
 split at this
 · rename_i e
   subst e
   rw [h]
   rcases this with e | e | ⟨_, _, _, _, e1, e2⟩
   · exact .inl e
   · exact .inr (.inr ⟨_, _, _, _, e, rfl⟩)
   · exact .inr (.inr ⟨_, _, _, _, e1, rfl⟩)
 · exact this
def FHas3 : List V → Option V
 | [.sl _ sz es none, .agg [.x (.string s), .x (.int .i64 c), .x (.int .i64 r)]] => match cellsOf es with
   | some l => if l.length ≤ 1000000 ∧ (sz = 3 ∨ l = []) then some (.x (.bool (l.any fun p => eqC p (s, c, r)))) else none
   | none => none
 | _ => none
theorem FHas3_of {nl : Bool} {sz : Nat} {l : List C3} (s : ByteArray) (c r : Int) (h : l.length ≤ 1000000) (hs : sz = 3 ∨ l = []) : FHas3 [.sl nl sz (l.map cellV) none, .agg [.x (.string s), .x (.int .i64 c), .x (.int .i64 r)]] = some (.x (.bool (l.any fun p => eqC p (s, c, r)))) := by
 unfold FHas3
 simp only [cellsOf_map]
 exact if_pos ⟨h, hs⟩
set_option maxHeartbeats 8000000 in
set_option maxRecDepth 100000 in
theorem has3_fun : FunV 10 FHas3 := by
 refine fun_of_run (E := envB [] (fun _ => false) [] (fun _ => false) (fun _ => false)) (k := 2) (envOK_B _ _ _ _ _ trivial trivial) (by kernel_rfl) Tryz.func10 rfl (fun a w => Tryz.call10 a w) Tryz.ntmps10 (by kernel_rfl) (by decide) (by decide) ?_
 intro us r hF hdat
 unfold FHas3 at hF
 split at hF
 case h_2 => cases hF
 rename_i nl sz es s c r
 split at hF
 case h_2 => cases hF
 rename_i l hl
 split at hF
 case isFalse => cases hF
 rename_i hle
 obtain ⟨hle, hs3⟩ := hle
 cases hF
 refine ⟨rfl, ?_⟩
 obtain rfl := cellsOf_is hl
 clear hl
 have hsz : (((l.map cellV).length : Nat) : Int) = (l.length : Int) := by rw [List.length_map]
 simp +decide (maxDischargeDepth := 200) only [go_sem, Nat.reduceBEq, Tryz.results10]
 refine loop_of (X := {i : Nat // i ≤ l.length ∧ ∀ (j : Nat) (p : C3), j < i → l[j]? = some p → eqC p (s, c, r) = false}) (fun i => [(0, .sl nl sz (l.map cellV) none), (3, .ptr 3 0), (4, .x (.bool false)), (5, .x (.int .i64 i.1))]) (fun _ => [(3, [.x (.string s), .x (.int .i64 c), .x (.int .i64 r)])]) (fun i => l.length - i.1) ⟨0, by omega, fun j k hj => by omega⟩ (by simp +decide only [go_sem]; rfl) (by simp +decide only [go_sem]) (fun ⟨i, hi, hz⟩ => ?_)
 by_cases hil : i < l.length
 · obtain rfl : sz = 3 := hs3.resolve_right (by rintro rfl; simp at hil)
   obtain ⟨⟨s1, c1, r1⟩, hb⟩ := getC hil
   have d0 : decide ((i : Int) < (l.length : Int)) = true := decide_eq_true (by omega)
   have k2 : (0 : Int) ≤ (i : Int) := by omega
   have k4 := count_up (i := i) (by omega)
   have k5 := cell_at hb
   cases hq : eqC (s1, c1, r1) (s, c, r)
   · simp +decide (maxDischargeDepth := 200) only [go_sem, Nat.reduceBEq, hsz, d0, k2, k4, k5, cellV_mk, eq3, hq, Tryz.results10]
     refine ⟨⟨i + 1, by omega, fun j p hj hp => ?_⟩, ?_, ?_, by simp only; omega⟩
     · by_cases hji : j = i
       · subst hji; rw [hb] at hp; cases hp; exact hq
       · exact hz j p (by omega) hp
     · simp +decide only [go_sem]
     · simp +decide only [go_sem]
   · have e : (l.any fun p => eqC p (s, c, r)) = true := List.any_eq_true.2 ⟨_, List.mem_of_getElem? hb, hq⟩
     simp +decide (maxDischargeDepth := 200) only [go_sem, Nat.reduceBEq, hsz, d0, k2, k4, k5, cellV_mk, eq3, hq, e, Tryz.results10]
 · have d0 : decide ((i : Int) < (l.length : Int)) = false := decide_eq_false (by omega)
   have e : (l.any fun p => eqC p (s, c, r)) = false := by
    rw [List.any_eq_false]
    intro p hp
    obtain ⟨j, hj⟩ := List.getElem?_of_mem hp
    simp [hz j p (by have := (List.getElem?_eq_some_iff.1 hj).1; omega) hj]
   simp +decide (maxDischargeDepth := 200) only [go_sem, Nat.reduceBEq, hsz, d0, e, Tryz.results10]
def lessP (p q : C3) : Bool := lessC p.1 p.2.1 p.2.2 q.1 q.2.1 q.2.2
def inL (l : List C3) (p : C3) : Bool := l.any fun q => eqC q p
def intoL (l : List C3) (p : C3) : List C3 := if inL l p = true then l else l.takeWhile (fun q => lessP q p) ++ p :: l.dropWhile (fun q => lessP q p)
theorem while_at {α : Type} (f : α → Bool) : ∀ (l : List α) (i : Nat), i ≤ l.length → (∀ (j : Nat) (q : α), j < i → l[j]? = some q → f q = true) → (∀ q, l[i]? = some q → f q = false) → l.takeWhile f = l.take i ∧ l.dropWhile f = l.drop i
 | [], i, _, _, _ => by simp
 | q :: l, 0, _, _, h => by
   have := h q rfl
   simp [List.takeWhile, List.dropWhile, this]
 | q :: l, i + 1, hi, h1, h2 => by
   have hq := h1 0 q (by omega) rfl
   obtain ⟨e1, e2⟩ := while_at f l i (by simpa using hi) (fun j q hj hq => h1 (j + 1) q (by omega) (by simpa using hq)) (fun q hq => h2 q (by simpa using hq))
   simp [List.takeWhile, List.dropWhile, hq, e1, e2]
def FInto : List V → Option V
 | [.sl nl sz es none, .agg [.x (.string s), .x (.int .i64 c), .x (.int .i64 r)]] => match cellsOf es with
   | some l => if l.length ≤ 900000 ∧ (sz = 3 ∨ nl = true ∧ l = []) then some (if inL l (s, c, r) = true then .sl nl sz es none else .sl false 3 ((intoL l (s, c, r)).map cellV) none) else none
   | none => none
 | _ => none
theorem piece_l {l : List C3} {i : Nat} : List.take ((i : Int).toNat - 0) (l.map cellV) = (l.take i).map cellV := by
 simp [List.map_take]
theorem piece_r {l : List C3} {i : Nat} : List.take ((((l.map cellV).length : Nat) : Int).toNat - (i : Int).toNat) (List.drop (i : Int).toNat (l.map cellV)) = (l.drop i).map cellV := by
 rw [Int.toNat_natCast, Int.toNat_natCast, List.map_drop, List.take_of_length_le (by simp)]
theorem grow_app {E : Env} (hP : E.P = Tryz.prog) {a b : List C3} (h : a.length + b.length ≤ 1000000) (st : St) (d tok sz : Nat) (nl : Bool) (t' : Option Nat) (hs : sz = 3 ∨ b.map cellV = []) :
 growV E st (some d) 25 (.sl false 3 (a.map cellV) (some tok)) (.sl nl sz (b.map cellV) t') = some ⟨upd (strip tok (strip d st.t)) d (.sl false 3 ((a ++ b).map cellV) (some d)), stripB E tok (stripB E d st.b)⟩ := by
 have e1 : szB E.P 25 = some 3 := by rw [hP]; exact sz25
 have e2 : byB E.P 25 = some 32 := by rw [hP]; exact by25
 have e3 := ze25
 rw [← hP] at e3
 unfold growV
 simp only [e1, e2, e3]
 rw [if_pos ⟨by decide, rfl, trivial, hs, (List.all_eq_true.2 fun u hu => by obtain ⟨p, _, rfl⟩ := List.mem_map.1 hu; rfl), by rw [List.length_map, List.length_map]; omega, by rw [List.length_map, List.length_map]; omega⟩, List.map_append]
theorem grow_app0 {E : Env} (hP : E.P = Tryz.prog) {b : List C3} (h : b.length ≤ 1000000) (st : St) (d n sz : Nat) (nl : Bool) (t' : Option Nat) (hs : sz = 3 ∨ b.map cellV = []) :
 growV E st (some d) 25 (.sl true n [] none) (.sl nl sz (b.map cellV) t') = some ⟨upd (strip d st.t) d (.sl (b.map cellV).isEmpty 3 (b.map cellV) (some d)), stripB E d st.b⟩ := by
 have e1 : szB E.P 25 = some 3 := by rw [hP]; exact sz25
 have e2 : byB E.P 25 = some 32 := by rw [hP]; exact by25
 have e3 := ze25
 rw [← hP] at e3
 unfold growV
 simp only [e1, e2, e3]
 rw [if_pos ⟨by decide, rfl, hs, (List.all_eq_true.2 fun u hu => by obtain ⟨p, _, rfl⟩ := List.mem_map.1 hu; rfl), by rw [List.length_map]; omega, by rw [List.length_map]; omega⟩]
 rfl
theorem grow_snoc {E : Env} (hP : E.P = Tryz.prog) {a : List C3} (h : a.length ≤ 1000000) (s : ByteArray) (c r : Int) (st : St) (d tok : Nat) (nl : Bool) (t' : Option Nat) :
 growV E st (some d) 25 (.sl (a.map cellV).isEmpty 3 (a.map cellV) (some tok)) (.sl nl 3 [.agg [.x (.string s), .x (.int .i64 c), .x (.int .i64 r)]] t') = some ⟨upd (strip tok (strip d st.t)) d (.sl false 3 ((a ++ [(s, c, r)]).map cellV) (some d)), stripB E tok (stripB E d st.b)⟩ := by
 rw [List.map_append]
 exact growV_acc (E := E) (n := 3) (by rw [hP]; exact sz25) (by rw [hP]; exact by25) (by rw [hP]; exact ze25) (by decide) rfl rfl (by rw [List.length_map]; omega) (by rw [List.length_map]; omega) st d tok nl t'
set_option maxHeartbeats 8000000 in
set_option maxRecDepth 100000 in
theorem into_fun : FunV 23 FInto := by
 refine fun_of_run (E := envB [(10, FHas3), (39, FLess)] (fun _ => false) [] (fun _ => false) (fun i => i == 6)) (k := 2) (envOK_B _ _ _ _ _ ⟨has3_fun, rless_fun, trivial⟩ trivial) (by kernel_rfl) Tryz.func23 rfl (fun a w => Tryz.call23 a w) Tryz.ntmps23 (by kernel_rfl) (by decide) (by decide) ?_
 intro us r hF hdat
 unfold FInto at hF
 split at hF
 case h_2 => cases hF
 rename_i nl sz es s c r
 split at hF
 case h_2 => cases hF
 rename_i l hl
 split at hF
 case isFalse => cases hF
 rename_i hle
 obtain ⟨hle, hs3⟩ := hle
 cases hF
 refine ⟨rfl, ?_⟩
 obtain rfl := cellsOf_is hl
 clear hl
 have hsz : (((l.map cellV).length : Nat) : Int) = (l.length : Int) := by rw [List.length_map]
 have hh := FHas3_of (nl := nl) (sz := sz) (l := l) s c r (by omega) (hs3.imp id And.right)
 by_cases hin : inL l (s, c, r) = true
 · rw [if_pos hin]
   have hin' : (l.any fun p => eqC p (s, c, r)) = true := hin
   rw [hin'] at hh
   simp +decide (maxDischargeDepth := 200) only [go_sem, Nat.reduceBEq, hh, Tryz.results23]
 · rw [if_neg hin]
   have e : intoL l (s, c, r) = l.takeWhile (fun q => lessP q (s, c, r)) ++ (s, c, r) :: l.dropWhile (fun q => lessP q (s, c, r)) := if_neg hin
   have hin' : (l.any fun p => eqC p (s, c, r)) = false := by revert hin; unfold inL; cases (l.any fun p => eqC p (s, c, r)) <;> simp
   rw [hin'] at hh
   rcases hs3 with rfl | ⟨rfl, hl0⟩
   · simp +decide (maxDischargeDepth := 200) only [go_sem, Nat.reduceBEq, hh, Tryz.results23]
     refine loop_of (X := {i : Nat // i ≤ l.length ∧ ∀ (j : Nat) (p : C3), j < i → l[j]? = some p → lessP p (s, c, r) = true}) (fun i => [(0, .sl nl 3 (l.map cellV) none), (3, .ptr 3 0), (4, .sl true 0 [] none), (5, .x (.int .i64 i.1))]) (fun _ => [(3, [.x (.string s), .x (.int .i64 c), .x (.int .i64 r)])]) (fun i => l.length - i.1) ⟨0, by omega, fun j k hj => by omega⟩ (by simp +decide (maxDischargeDepth := 200) only [go_sem]; rfl) (by simp +decide (maxDischargeDepth := 200) only [go_sem]) (fun ⟨i, hi, hz⟩ => ?_)
     by_cases hil : i < l.length
     · obtain ⟨⟨s1, c1, r1⟩, hb⟩ := getC hil
       have d0 : decide ((i : Int) < (l.length : Int)) = true := decide_eq_true (by omega)
       have k2 : (0 : Int) ≤ (i : Int) := by omega
       have k4 := count_up (i := i) (by omega)
       have k5 := cell_at hb
       cases hq : lessC s1 c1 r1 s c r
       · obtain ⟨e1, e2⟩ := while_at (fun q => lessP q (s, c, r)) l i hi hz (fun q hq' => by rw [hb] at hq'; cases hq'; exact hq)
         have ef : intoL l (s, c, r) = (l.take i ++ [(s, c, r)]) ++ l.drop i := by rw [e, e1, e2]; simp
         rw [ef]
         simp +decide (maxDischargeDepth := 200) only [go_sem, Nat.reduceBEq, hsz, d0, k2, k4, k5, cellV_mk, FLess, hq, Tryz.results23]
         have g1 : ∀ (st : St), growV (envB [(10, FHas3), (39, FLess)] (fun _ => false) [] (fun _ => false) (fun i => i == 6)) st (some 27) 25 (.sl true 0 [] none) (.sl nl 3 ((l.take i).map cellV) none) = _ := fun st => grow_app0 (E := envB [(10, FHas3), (39, FLess)] (fun _ => false) [] (fun _ => false) (fun i => i == 6)) rfl (b := l.take i) (by rw [List.length_take]; omega) st 27 0 3 nl none (.inl rfl)
         have g2 : ∀ (st : St) (tok : Nat), growV (envB [(10, FHas3), (39, FLess)] (fun _ => false) [] (fun _ => false) (fun i => i == 6)) st (some 30) 25 (.sl ((l.take i).map cellV).isEmpty 3 ((l.take i).map cellV) (some tok)) (.sl false 3 [.agg [.x (.string s), .x (.int .i64 c), .x (.int .i64 r)]] none) = _ := fun st tok => grow_snoc (E := envB [(10, FHas3), (39, FLess)] (fun _ => false) [] (fun _ => false) (fun i => i == 6)) rfl (a := l.take i) (by rw [List.length_take]; omega) s c r st 30 tok false none
         have g3 : ∀ (st : St) (tok : Nat), growV (envB [(10, FHas3), (39, FLess)] (fun _ => false) [] (fun _ => false) (fun i => i == 6)) st (some 34) 25 (.sl false 3 ((l.take i ++ [(s, c, r)]).map cellV) (some tok)) (.sl nl 3 ((l.drop i).map cellV) none) = _ := fun st tok => grow_app (E := envB [(10, FHas3), (39, FLess)] (fun _ => false) [] (fun _ => false) (fun i => i == 6)) rfl (a := l.take i ++ [(s, c, r)]) (b := l.drop i) (by simp only [List.length_append, List.length_take, List.length_drop, List.length_cons, List.length_nil]; omega) st 34 tok 3 nl none (.inl rfl)
         have i0 : (0 : Int) ≤ (i : Int) := by omega
         have i1 : (i : Int) ≤ (((l.map cellV).length : Nat) : Int) := by rw [List.length_map]; omega
         refine any_dagG [(0, 0, 0, .sl nl 3 (l.map cellV) none), (0, 0, 3, .ptr 3 0), (0, 2048, 4, .sl true 0 [] none), (0, 0, 5, .x (.int .i64 (i : Int))), (1, 0, 24, .sl nl 3 (l.map cellV) none), (2, 0, 25, .x (.int .i64 (i : Int))), (4, 0, 26, .sl nl 3 ((l.take i).map cellV) none), (8, 64, 27, .sl ((l.take i).map cellV).isEmpty 3 ((l.take i).map cellV) (some 27)), (16, 0, 28, .agg [.x (.string s), .x (.int .i64 c), .x (.int .i64 r)]), (32, 0, 29, .sl false 3 [.agg [.x (.string s), .x (.int .i64 c), .x (.int .i64 r)]] none), (64, 1024, 30, .sl false 3 ((l.take i ++ [(s, c, r)]).map cellV) (some 30)), (128, 0, 31, .sl nl 3 (l.map cellV) none), (256, 0, 32, .x (.int .i64 (i : Int))), (512, 0, 33, .sl nl 3 ((l.drop i).map cellV) none), (1024, 2048, 34, .sl false 3 (((l.take i ++ [(s, c, r)]) ++ l.drop i).map cellV) (some 34)), (2048, 0, 4, .sl false 3 (((l.take i ++ [(s, c, r)]) ++ l.drop i).map cellV) (some 34))] [(3, [.x (.string s), .x (.int .i64 c), .x (.int .i64 r)])] [(0, 0, 1), (0, 1, 2), (0, 4, 16), (0, 7, 128), (0, 8, 256), (1, 1, 3), (1, 4, 17), (1, 7, 129), (1, 8, 257), (2, 0, 3), (2, 4, 18), (2, 7, 130), (2, 8, 258), (16, 0, 17), (16, 1, 18), (16, 5, 48), (16, 7, 144), (16, 8, 272), (128, 0, 129), (128, 1, 130), (128, 4, 144), (128, 8, 384), (256, 0, 257), (256, 1, 258), (256, 4, 272), (256, 7, 384), (3, 2, 7), (3, 4, 19), (3, 7, 131), (3, 8, 259), (17, 1, 19), (17, 5, 49), (17, 7, 145), (17, 8, 273), (129, 1, 131), (129, 4, 145), (129, 8, 385), (257, 1, 259), (257, 4, 273), (257, 7, 385), (18, 0, 19), (18, 5, 50), (18, 7, 146), (18, 8, 274), (130, 0, 131), (130, 4, 146), (130, 8, 386), (258, 0, 259), (258, 4, 274), (258, 7, 386), (48, 0, 49), (48, 1, 50), (48, 7, 176), (48, 8, 304), (144, 0, 145), (144, 1, 146), (144, 5, 176), (144, 8, 400), (272, 0, 273), (272, 1, 274), (272, 5, 304), (272, 7, 400), (384, 0, 385), (384, 1, 386), (384, 4, 400), (384, 9, 896), (7, 3, 15), (7, 4, 23), (7, 7, 135), (7, 8, 263), (19, 2, 23), (19, 5, 51), (19, 7, 147), (19, 8, 275), (131, 2, 135), (131, 4, 147), (131, 8, 387), (259, 2, 263), (259, 4, 275), (259, 7, 387), (49, 1, 51), (49, 7, 177), (49, 8, 305), (145, 1, 147), (145, 5, 177), (145, 8, 401), (273, 1, 275), (273, 5, 305), (273, 7, 401), (385, 1, 387), (385, 4, 401), (385, 9, 897), (50, 0, 51), (50, 7, 178), (50, 8, 306), (146, 0, 147), (146, 5, 178), (146, 8, 402), (274, 0, 275), (274, 5, 306), (274, 7, 402), (386, 0, 387), (386, 4, 402), (386, 9, 898), (176, 0, 177), (176, 1, 178), (176, 8, 432), (304, 0, 305), (304, 1, 306), (304, 7, 432), (400, 0, 401), (400, 1, 402), (400, 5, 432), (400, 9, 912), (896, 0, 897), (896, 1, 898), (896, 4, 912), (15, 4, 31), (15, 7, 143), (15, 8, 271), (23, 3, 31), (23, 5, 55), (23, 7, 151), (23, 8, 279), (135, 3, 143), (135, 4, 151), (135, 8, 391), (263, 3, 271), (263, 4, 279), (263, 7, 391), (51, 2, 55), (51, 7, 179), (51, 8, 307), (147, 2, 151), (147, 5, 179), (147, 8, 403), (275, 2, 279), (275, 5, 307), (275, 7, 403), (387, 2, 391), (387, 4, 403), (387, 9, 899), (177, 1, 179), (177, 8, 433), (305, 1, 307), (305, 7, 433), (401, 1, 403), (401, 5, 433), (401, 9, 913), (897, 1, 899), (897, 4, 913), (178, 0, 179), (178, 8, 434), (306, 0, 307), (306, 7, 434), (402, 0, 403), (402, 5, 434), (402, 9, 914), (898, 0, 899), (898, 4, 914), (432, 0, 433), (432, 1, 434), (432, 9, 944), (912, 0, 913), (912, 1, 914), (912, 5, 944), (31, 5, 63), (31, 7, 159), (31, 8, 287), (143, 4, 159), (143, 8, 399), (271, 4, 287), (271, 7, 399), (55, 3, 63), (55, 7, 183), (55, 8, 311), (151, 3, 159), (151, 5, 183), (151, 8, 407), (279, 3, 287), (279, 5, 311), (279, 7, 407), (391, 3, 399), (391, 4, 407), (391, 9, 903), (179, 2, 183), (179, 8, 435), (307, 2, 311), (307, 7, 435), (403, 2, 407), (403, 5, 435), (403, 9, 915), (899, 2, 903), (899, 4, 915), (433, 1, 435), (433, 9, 945), (913, 1, 915), (913, 5, 945), (434, 0, 435), (434, 9, 946), (914, 0, 915), (914, 5, 946), (944, 0, 945), (944, 1, 946), (63, 6, 127), (63, 7, 191), (63, 8, 319), (159, 5, 191), (159, 8, 415), (287, 5, 319), (287, 7, 415), (399, 4, 415), (399, 9, 911), (183, 3, 191), (183, 8, 439), (311, 3, 319), (311, 7, 439), (407, 3, 415), (407, 5, 439), (407, 9, 919), (903, 3, 911), (903, 4, 919), (435, 2, 439), (435, 9, 947), (915, 2, 919), (915, 5, 947), (945, 1, 947), (946, 0, 947), (127, 7, 255), (127, 8, 383), (191, 6, 255), (191, 8, 447), (319, 6, 383), (319, 7, 447), (415, 5, 447), (415, 9, 927), (911, 4, 927), (439, 3, 447), (439, 9, 951), (919, 3, 927), (919, 5, 951), (947, 2, 951), (255, 8, 511), (383, 7, 511), (447, 6, 511), (447, 9, 959), (927, 5, 959), (951, 3, 959), (511, 9, 1023), (959, 6, 1023), (1023, 10, 2047), (2047, 11, 4095)] 4095 (by kernel_rfl) (by kernel_rfl) ?_ ?_ ?_
         · simp +decide (maxDischargeDepth := 200) only [go_sem]
         · simp +decide (maxDischargeDepth := 200) only [go_sem, piece_l, piece_r, g1, g2, g3, i0, i1]
         · simp +decide (maxDischargeDepth := 200) only [go_sem, Nat.reduceBEq, Tryz.results23]
       · simp +decide (maxDischargeDepth := 200) only [go_sem, Nat.reduceBEq, hsz, d0, k2, k4, k5, cellV_mk, FLess, hq, Tryz.results23]
         refine ⟨⟨i + 1, by omega, fun j p hj hp => ?_⟩, ?_, ?_, by simp only; omega⟩
         · by_cases hji : j = i
           · subst hji; rw [hb] at hp; cases hp; exact hq
           · exact hz j p (by omega) hp
         · simp +decide (maxDischargeDepth := 200) only [go_sem]
         · simp +decide (maxDischargeDepth := 200) only [go_sem]
     · have d0 : decide ((i : Int) < (l.length : Int)) = false := decide_eq_false (by omega)
       obtain ⟨e1, e2⟩ := while_at (fun q => lessP q (s, c, r)) l i hi hz (fun q hq' => by rw [List.getElem?_eq_none (by omega)] at hq'; cases hq')
       have ef : intoL l (s, c, r) = (l.take i ++ [(s, c, r)]) ++ l.drop i := by rw [e, e1, e2]; simp
       rw [ef]
       simp +decide (maxDischargeDepth := 200) only [go_sem, Nat.reduceBEq, hsz, d0, Tryz.results23]
       have g1 : ∀ (st : St), growV (envB [(10, FHas3), (39, FLess)] (fun _ => false) [] (fun _ => false) (fun i => i == 6)) st (some 27) 25 (.sl true 0 [] none) (.sl nl 3 ((l.take i).map cellV) none) = _ := fun st => grow_app0 (E := envB [(10, FHas3), (39, FLess)] (fun _ => false) [] (fun _ => false) (fun i => i == 6)) rfl (b := l.take i) (by rw [List.length_take]; omega) st 27 0 3 nl none (.inl rfl)
       have g2 : ∀ (st : St) (tok : Nat), growV (envB [(10, FHas3), (39, FLess)] (fun _ => false) [] (fun _ => false) (fun i => i == 6)) st (some 30) 25 (.sl ((l.take i).map cellV).isEmpty 3 ((l.take i).map cellV) (some tok)) (.sl false 3 [.agg [.x (.string s), .x (.int .i64 c), .x (.int .i64 r)]] none) = _ := fun st tok => grow_snoc (E := envB [(10, FHas3), (39, FLess)] (fun _ => false) [] (fun _ => false) (fun i => i == 6)) rfl (a := l.take i) (by rw [List.length_take]; omega) s c r st 30 tok false none
       have g3 : ∀ (st : St) (tok : Nat), growV (envB [(10, FHas3), (39, FLess)] (fun _ => false) [] (fun _ => false) (fun i => i == 6)) st (some 34) 25 (.sl false 3 ((l.take i ++ [(s, c, r)]).map cellV) (some tok)) (.sl nl 3 ((l.drop i).map cellV) none) = _ := fun st tok => grow_app (E := envB [(10, FHas3), (39, FLess)] (fun _ => false) [] (fun _ => false) (fun i => i == 6)) rfl (a := l.take i ++ [(s, c, r)]) (b := l.drop i) (by simp only [List.length_append, List.length_take, List.length_drop, List.length_cons, List.length_nil]; omega) st 34 tok 3 nl none (.inl rfl)
       have i0 : (0 : Int) ≤ (i : Int) := by omega
       have i1 : (i : Int) ≤ (((l.map cellV).length : Nat) : Int) := by rw [List.length_map]; omega
       refine any_dagG [(0, 0, 0, .sl nl 3 (l.map cellV) none), (0, 0, 3, .ptr 3 0), (0, 2048, 4, .sl true 0 [] none), (0, 0, 5, .x (.int .i64 (i : Int))), (1, 0, 24, .sl nl 3 (l.map cellV) none), (2, 0, 25, .x (.int .i64 (i : Int))), (4, 0, 26, .sl nl 3 ((l.take i).map cellV) none), (8, 64, 27, .sl ((l.take i).map cellV).isEmpty 3 ((l.take i).map cellV) (some 27)), (16, 0, 28, .agg [.x (.string s), .x (.int .i64 c), .x (.int .i64 r)]), (32, 0, 29, .sl false 3 [.agg [.x (.string s), .x (.int .i64 c), .x (.int .i64 r)]] none), (64, 1024, 30, .sl false 3 ((l.take i ++ [(s, c, r)]).map cellV) (some 30)), (128, 0, 31, .sl nl 3 (l.map cellV) none), (256, 0, 32, .x (.int .i64 (i : Int))), (512, 0, 33, .sl nl 3 ((l.drop i).map cellV) none), (1024, 2048, 34, .sl false 3 (((l.take i ++ [(s, c, r)]) ++ l.drop i).map cellV) (some 34)), (2048, 0, 4, .sl false 3 (((l.take i ++ [(s, c, r)]) ++ l.drop i).map cellV) (some 34))] [(3, [.x (.string s), .x (.int .i64 c), .x (.int .i64 r)])] [(0, 0, 1), (0, 1, 2), (0, 4, 16), (0, 7, 128), (0, 8, 256), (1, 1, 3), (1, 4, 17), (1, 7, 129), (1, 8, 257), (2, 0, 3), (2, 4, 18), (2, 7, 130), (2, 8, 258), (16, 0, 17), (16, 1, 18), (16, 5, 48), (16, 7, 144), (16, 8, 272), (128, 0, 129), (128, 1, 130), (128, 4, 144), (128, 8, 384), (256, 0, 257), (256, 1, 258), (256, 4, 272), (256, 7, 384), (3, 2, 7), (3, 4, 19), (3, 7, 131), (3, 8, 259), (17, 1, 19), (17, 5, 49), (17, 7, 145), (17, 8, 273), (129, 1, 131), (129, 4, 145), (129, 8, 385), (257, 1, 259), (257, 4, 273), (257, 7, 385), (18, 0, 19), (18, 5, 50), (18, 7, 146), (18, 8, 274), (130, 0, 131), (130, 4, 146), (130, 8, 386), (258, 0, 259), (258, 4, 274), (258, 7, 386), (48, 0, 49), (48, 1, 50), (48, 7, 176), (48, 8, 304), (144, 0, 145), (144, 1, 146), (144, 5, 176), (144, 8, 400), (272, 0, 273), (272, 1, 274), (272, 5, 304), (272, 7, 400), (384, 0, 385), (384, 1, 386), (384, 4, 400), (384, 9, 896), (7, 3, 15), (7, 4, 23), (7, 7, 135), (7, 8, 263), (19, 2, 23), (19, 5, 51), (19, 7, 147), (19, 8, 275), (131, 2, 135), (131, 4, 147), (131, 8, 387), (259, 2, 263), (259, 4, 275), (259, 7, 387), (49, 1, 51), (49, 7, 177), (49, 8, 305), (145, 1, 147), (145, 5, 177), (145, 8, 401), (273, 1, 275), (273, 5, 305), (273, 7, 401), (385, 1, 387), (385, 4, 401), (385, 9, 897), (50, 0, 51), (50, 7, 178), (50, 8, 306), (146, 0, 147), (146, 5, 178), (146, 8, 402), (274, 0, 275), (274, 5, 306), (274, 7, 402), (386, 0, 387), (386, 4, 402), (386, 9, 898), (176, 0, 177), (176, 1, 178), (176, 8, 432), (304, 0, 305), (304, 1, 306), (304, 7, 432), (400, 0, 401), (400, 1, 402), (400, 5, 432), (400, 9, 912), (896, 0, 897), (896, 1, 898), (896, 4, 912), (15, 4, 31), (15, 7, 143), (15, 8, 271), (23, 3, 31), (23, 5, 55), (23, 7, 151), (23, 8, 279), (135, 3, 143), (135, 4, 151), (135, 8, 391), (263, 3, 271), (263, 4, 279), (263, 7, 391), (51, 2, 55), (51, 7, 179), (51, 8, 307), (147, 2, 151), (147, 5, 179), (147, 8, 403), (275, 2, 279), (275, 5, 307), (275, 7, 403), (387, 2, 391), (387, 4, 403), (387, 9, 899), (177, 1, 179), (177, 8, 433), (305, 1, 307), (305, 7, 433), (401, 1, 403), (401, 5, 433), (401, 9, 913), (897, 1, 899), (897, 4, 913), (178, 0, 179), (178, 8, 434), (306, 0, 307), (306, 7, 434), (402, 0, 403), (402, 5, 434), (402, 9, 914), (898, 0, 899), (898, 4, 914), (432, 0, 433), (432, 1, 434), (432, 9, 944), (912, 0, 913), (912, 1, 914), (912, 5, 944), (31, 5, 63), (31, 7, 159), (31, 8, 287), (143, 4, 159), (143, 8, 399), (271, 4, 287), (271, 7, 399), (55, 3, 63), (55, 7, 183), (55, 8, 311), (151, 3, 159), (151, 5, 183), (151, 8, 407), (279, 3, 287), (279, 5, 311), (279, 7, 407), (391, 3, 399), (391, 4, 407), (391, 9, 903), (179, 2, 183), (179, 8, 435), (307, 2, 311), (307, 7, 435), (403, 2, 407), (403, 5, 435), (403, 9, 915), (899, 2, 903), (899, 4, 915), (433, 1, 435), (433, 9, 945), (913, 1, 915), (913, 5, 945), (434, 0, 435), (434, 9, 946), (914, 0, 915), (914, 5, 946), (944, 0, 945), (944, 1, 946), (63, 6, 127), (63, 7, 191), (63, 8, 319), (159, 5, 191), (159, 8, 415), (287, 5, 319), (287, 7, 415), (399, 4, 415), (399, 9, 911), (183, 3, 191), (183, 8, 439), (311, 3, 319), (311, 7, 439), (407, 3, 415), (407, 5, 439), (407, 9, 919), (903, 3, 911), (903, 4, 919), (435, 2, 439), (435, 9, 947), (915, 2, 919), (915, 5, 947), (945, 1, 947), (946, 0, 947), (127, 7, 255), (127, 8, 383), (191, 6, 255), (191, 8, 447), (319, 6, 383), (319, 7, 447), (415, 5, 447), (415, 9, 927), (911, 4, 927), (439, 3, 447), (439, 9, 951), (919, 3, 927), (919, 5, 951), (947, 2, 951), (255, 8, 511), (383, 7, 511), (447, 6, 511), (447, 9, 959), (927, 5, 959), (951, 3, 959), (511, 9, 1023), (959, 6, 1023), (1023, 10, 2047), (2047, 11, 4095)] 4095 (by kernel_rfl) (by kernel_rfl) ?_ ?_ ?_
       · simp +decide (maxDischargeDepth := 200) only [go_sem]
       · simp +decide (maxDischargeDepth := 200) only [go_sem, piece_l, piece_r, g1, g2, g3, i0, i1]
       · simp +decide (maxDischargeDepth := 200) only [go_sem, Nat.reduceBEq, Tryz.results23]
   · simp +decide (maxDischargeDepth := 200) only [go_sem, Nat.reduceBEq, hh, Tryz.results23]
     refine loop_nilL 0 3 (es := l.map cellV) (n0 := sz) (k0 := none) rfl (by rw [hl0]; rfl) ?_
     refine loop_of (X := {i : Nat // i ≤ l.length ∧ ∀ (j : Nat) (p : C3), j < i → l[j]? = some p → lessP p (s, c, r) = true}) (fun i => [(0, .sl true 3 (l.map cellV) none), (3, .ptr 3 0), (4, .sl true 0 [] none), (5, .x (.int .i64 i.1))]) (fun _ => [(3, [.x (.string s), .x (.int .i64 c), .x (.int .i64 r)])]) (fun i => l.length - i.1) ⟨0, by omega, fun j k hj => by omega⟩ (by simp +decide (maxDischargeDepth := 200) only [go_sem]; rfl) (by simp +decide (maxDischargeDepth := 200) only [go_sem]) (fun ⟨i, hi, hz⟩ => ?_)
     by_cases hil : i < l.length
     · obtain ⟨⟨s1, c1, r1⟩, hb⟩ := getC hil
       have d0 : decide ((i : Int) < (l.length : Int)) = true := decide_eq_true (by omega)
       have k2 : (0 : Int) ≤ (i : Int) := by omega
       have k4 := count_up (i := i) (by omega)
       have k5 := cell_at hb
       cases hq : lessC s1 c1 r1 s c r
       · obtain ⟨e1, e2⟩ := while_at (fun q => lessP q (s, c, r)) l i hi hz (fun q hq' => by rw [hb] at hq'; cases hq'; exact hq)
         have ef : intoL l (s, c, r) = (l.take i ++ [(s, c, r)]) ++ l.drop i := by rw [e, e1, e2]; simp
         rw [ef]
         simp +decide (maxDischargeDepth := 200) only [go_sem, Nat.reduceBEq, hsz, d0, k2, k4, k5, cellV_mk, FLess, hq, Tryz.results23]
         have g1 : ∀ (st : St), growV (envB [(10, FHas3), (39, FLess)] (fun _ => false) [] (fun _ => false) (fun i => i == 6)) st (some 27) 25 (.sl true 0 [] none) (.sl true 3 ((l.take i).map cellV) none) = _ := fun st => grow_app0 (E := envB [(10, FHas3), (39, FLess)] (fun _ => false) [] (fun _ => false) (fun i => i == 6)) rfl (b := l.take i) (by rw [List.length_take]; omega) st 27 0 3 true none (.inl rfl)
         have g2 : ∀ (st : St) (tok : Nat), growV (envB [(10, FHas3), (39, FLess)] (fun _ => false) [] (fun _ => false) (fun i => i == 6)) st (some 30) 25 (.sl ((l.take i).map cellV).isEmpty 3 ((l.take i).map cellV) (some tok)) (.sl false 3 [.agg [.x (.string s), .x (.int .i64 c), .x (.int .i64 r)]] none) = _ := fun st tok => grow_snoc (E := envB [(10, FHas3), (39, FLess)] (fun _ => false) [] (fun _ => false) (fun i => i == 6)) rfl (a := l.take i) (by rw [List.length_take]; omega) s c r st 30 tok false none
         have g3 : ∀ (st : St) (tok : Nat), growV (envB [(10, FHas3), (39, FLess)] (fun _ => false) [] (fun _ => false) (fun i => i == 6)) st (some 34) 25 (.sl false 3 ((l.take i ++ [(s, c, r)]).map cellV) (some tok)) (.sl true 3 ((l.drop i).map cellV) none) = _ := fun st tok => grow_app (E := envB [(10, FHas3), (39, FLess)] (fun _ => false) [] (fun _ => false) (fun i => i == 6)) rfl (a := l.take i ++ [(s, c, r)]) (b := l.drop i) (by simp only [List.length_append, List.length_take, List.length_drop, List.length_cons, List.length_nil]; omega) st 34 tok 3 true none (.inl rfl)
         have i0 : (0 : Int) ≤ (i : Int) := by omega
         have i1 : (i : Int) ≤ (((l.map cellV).length : Nat) : Int) := by rw [List.length_map]; omega
         refine any_dagG [(0, 0, 0, .sl true 3 (l.map cellV) none), (0, 0, 3, .ptr 3 0), (0, 2048, 4, .sl true 0 [] none), (0, 0, 5, .x (.int .i64 (i : Int))), (1, 0, 24, .sl true 3 (l.map cellV) none), (2, 0, 25, .x (.int .i64 (i : Int))), (4, 0, 26, .sl true 3 ((l.take i).map cellV) none), (8, 64, 27, .sl ((l.take i).map cellV).isEmpty 3 ((l.take i).map cellV) (some 27)), (16, 0, 28, .agg [.x (.string s), .x (.int .i64 c), .x (.int .i64 r)]), (32, 0, 29, .sl false 3 [.agg [.x (.string s), .x (.int .i64 c), .x (.int .i64 r)]] none), (64, 1024, 30, .sl false 3 ((l.take i ++ [(s, c, r)]).map cellV) (some 30)), (128, 0, 31, .sl true 3 (l.map cellV) none), (256, 0, 32, .x (.int .i64 (i : Int))), (512, 0, 33, .sl true 3 ((l.drop i).map cellV) none), (1024, 2048, 34, .sl false 3 (((l.take i ++ [(s, c, r)]) ++ l.drop i).map cellV) (some 34)), (2048, 0, 4, .sl false 3 (((l.take i ++ [(s, c, r)]) ++ l.drop i).map cellV) (some 34))] [(3, [.x (.string s), .x (.int .i64 c), .x (.int .i64 r)])] [(0, 0, 1), (0, 1, 2), (0, 4, 16), (0, 7, 128), (0, 8, 256), (1, 1, 3), (1, 4, 17), (1, 7, 129), (1, 8, 257), (2, 0, 3), (2, 4, 18), (2, 7, 130), (2, 8, 258), (16, 0, 17), (16, 1, 18), (16, 5, 48), (16, 7, 144), (16, 8, 272), (128, 0, 129), (128, 1, 130), (128, 4, 144), (128, 8, 384), (256, 0, 257), (256, 1, 258), (256, 4, 272), (256, 7, 384), (3, 2, 7), (3, 4, 19), (3, 7, 131), (3, 8, 259), (17, 1, 19), (17, 5, 49), (17, 7, 145), (17, 8, 273), (129, 1, 131), (129, 4, 145), (129, 8, 385), (257, 1, 259), (257, 4, 273), (257, 7, 385), (18, 0, 19), (18, 5, 50), (18, 7, 146), (18, 8, 274), (130, 0, 131), (130, 4, 146), (130, 8, 386), (258, 0, 259), (258, 4, 274), (258, 7, 386), (48, 0, 49), (48, 1, 50), (48, 7, 176), (48, 8, 304), (144, 0, 145), (144, 1, 146), (144, 5, 176), (144, 8, 400), (272, 0, 273), (272, 1, 274), (272, 5, 304), (272, 7, 400), (384, 0, 385), (384, 1, 386), (384, 4, 400), (384, 9, 896), (7, 3, 15), (7, 4, 23), (7, 7, 135), (7, 8, 263), (19, 2, 23), (19, 5, 51), (19, 7, 147), (19, 8, 275), (131, 2, 135), (131, 4, 147), (131, 8, 387), (259, 2, 263), (259, 4, 275), (259, 7, 387), (49, 1, 51), (49, 7, 177), (49, 8, 305), (145, 1, 147), (145, 5, 177), (145, 8, 401), (273, 1, 275), (273, 5, 305), (273, 7, 401), (385, 1, 387), (385, 4, 401), (385, 9, 897), (50, 0, 51), (50, 7, 178), (50, 8, 306), (146, 0, 147), (146, 5, 178), (146, 8, 402), (274, 0, 275), (274, 5, 306), (274, 7, 402), (386, 0, 387), (386, 4, 402), (386, 9, 898), (176, 0, 177), (176, 1, 178), (176, 8, 432), (304, 0, 305), (304, 1, 306), (304, 7, 432), (400, 0, 401), (400, 1, 402), (400, 5, 432), (400, 9, 912), (896, 0, 897), (896, 1, 898), (896, 4, 912), (15, 4, 31), (15, 7, 143), (15, 8, 271), (23, 3, 31), (23, 5, 55), (23, 7, 151), (23, 8, 279), (135, 3, 143), (135, 4, 151), (135, 8, 391), (263, 3, 271), (263, 4, 279), (263, 7, 391), (51, 2, 55), (51, 7, 179), (51, 8, 307), (147, 2, 151), (147, 5, 179), (147, 8, 403), (275, 2, 279), (275, 5, 307), (275, 7, 403), (387, 2, 391), (387, 4, 403), (387, 9, 899), (177, 1, 179), (177, 8, 433), (305, 1, 307), (305, 7, 433), (401, 1, 403), (401, 5, 433), (401, 9, 913), (897, 1, 899), (897, 4, 913), (178, 0, 179), (178, 8, 434), (306, 0, 307), (306, 7, 434), (402, 0, 403), (402, 5, 434), (402, 9, 914), (898, 0, 899), (898, 4, 914), (432, 0, 433), (432, 1, 434), (432, 9, 944), (912, 0, 913), (912, 1, 914), (912, 5, 944), (31, 5, 63), (31, 7, 159), (31, 8, 287), (143, 4, 159), (143, 8, 399), (271, 4, 287), (271, 7, 399), (55, 3, 63), (55, 7, 183), (55, 8, 311), (151, 3, 159), (151, 5, 183), (151, 8, 407), (279, 3, 287), (279, 5, 311), (279, 7, 407), (391, 3, 399), (391, 4, 407), (391, 9, 903), (179, 2, 183), (179, 8, 435), (307, 2, 311), (307, 7, 435), (403, 2, 407), (403, 5, 435), (403, 9, 915), (899, 2, 903), (899, 4, 915), (433, 1, 435), (433, 9, 945), (913, 1, 915), (913, 5, 945), (434, 0, 435), (434, 9, 946), (914, 0, 915), (914, 5, 946), (944, 0, 945), (944, 1, 946), (63, 6, 127), (63, 7, 191), (63, 8, 319), (159, 5, 191), (159, 8, 415), (287, 5, 319), (287, 7, 415), (399, 4, 415), (399, 9, 911), (183, 3, 191), (183, 8, 439), (311, 3, 319), (311, 7, 439), (407, 3, 415), (407, 5, 439), (407, 9, 919), (903, 3, 911), (903, 4, 919), (435, 2, 439), (435, 9, 947), (915, 2, 919), (915, 5, 947), (945, 1, 947), (946, 0, 947), (127, 7, 255), (127, 8, 383), (191, 6, 255), (191, 8, 447), (319, 6, 383), (319, 7, 447), (415, 5, 447), (415, 9, 927), (911, 4, 927), (439, 3, 447), (439, 9, 951), (919, 3, 927), (919, 5, 951), (947, 2, 951), (255, 8, 511), (383, 7, 511), (447, 6, 511), (447, 9, 959), (927, 5, 959), (951, 3, 959), (511, 9, 1023), (959, 6, 1023), (1023, 10, 2047), (2047, 11, 4095)] 4095 (by kernel_rfl) (by kernel_rfl) ?_ ?_ ?_
         · simp +decide (maxDischargeDepth := 200) only [go_sem]
         · simp +decide (maxDischargeDepth := 200) only [go_sem, piece_l, piece_r, g1, g2, g3, i0, i1]
         · simp +decide (maxDischargeDepth := 200) only [go_sem, Nat.reduceBEq, Tryz.results23]
       · simp +decide (maxDischargeDepth := 200) only [go_sem, Nat.reduceBEq, hsz, d0, k2, k4, k5, cellV_mk, FLess, hq, Tryz.results23]
         refine ⟨⟨i + 1, by omega, fun j p hj hp => ?_⟩, ?_, ?_, by simp only; omega⟩
         · by_cases hji : j = i
           · subst hji; rw [hb] at hp; cases hp; exact hq
           · exact hz j p (by omega) hp
         · simp +decide (maxDischargeDepth := 200) only [go_sem]
         · simp +decide (maxDischargeDepth := 200) only [go_sem]
     · have d0 : decide ((i : Int) < (l.length : Int)) = false := decide_eq_false (by omega)
       obtain ⟨e1, e2⟩ := while_at (fun q => lessP q (s, c, r)) l i hi hz (fun q hq' => by rw [List.getElem?_eq_none (by omega)] at hq'; cases hq')
       have ef : intoL l (s, c, r) = (l.take i ++ [(s, c, r)]) ++ l.drop i := by rw [e, e1, e2]; simp
       rw [ef]
       simp +decide (maxDischargeDepth := 200) only [go_sem, Nat.reduceBEq, hsz, d0, Tryz.results23]
       have g1 : ∀ (st : St), growV (envB [(10, FHas3), (39, FLess)] (fun _ => false) [] (fun _ => false) (fun i => i == 6)) st (some 27) 25 (.sl true 0 [] none) (.sl true 3 ((l.take i).map cellV) none) = _ := fun st => grow_app0 (E := envB [(10, FHas3), (39, FLess)] (fun _ => false) [] (fun _ => false) (fun i => i == 6)) rfl (b := l.take i) (by rw [List.length_take]; omega) st 27 0 3 true none (.inl rfl)
       have g2 : ∀ (st : St) (tok : Nat), growV (envB [(10, FHas3), (39, FLess)] (fun _ => false) [] (fun _ => false) (fun i => i == 6)) st (some 30) 25 (.sl ((l.take i).map cellV).isEmpty 3 ((l.take i).map cellV) (some tok)) (.sl false 3 [.agg [.x (.string s), .x (.int .i64 c), .x (.int .i64 r)]] none) = _ := fun st tok => grow_snoc (E := envB [(10, FHas3), (39, FLess)] (fun _ => false) [] (fun _ => false) (fun i => i == 6)) rfl (a := l.take i) (by rw [List.length_take]; omega) s c r st 30 tok false none
       have g3 : ∀ (st : St) (tok : Nat), growV (envB [(10, FHas3), (39, FLess)] (fun _ => false) [] (fun _ => false) (fun i => i == 6)) st (some 34) 25 (.sl false 3 ((l.take i ++ [(s, c, r)]).map cellV) (some tok)) (.sl true 3 ((l.drop i).map cellV) none) = _ := fun st tok => grow_app (E := envB [(10, FHas3), (39, FLess)] (fun _ => false) [] (fun _ => false) (fun i => i == 6)) rfl (a := l.take i ++ [(s, c, r)]) (b := l.drop i) (by simp only [List.length_append, List.length_take, List.length_drop, List.length_cons, List.length_nil]; omega) st 34 tok 3 true none (.inl rfl)
       have i0 : (0 : Int) ≤ (i : Int) := by omega
       have i1 : (i : Int) ≤ (((l.map cellV).length : Nat) : Int) := by rw [List.length_map]; omega
       refine any_dagG [(0, 0, 0, .sl true 3 (l.map cellV) none), (0, 0, 3, .ptr 3 0), (0, 2048, 4, .sl true 0 [] none), (0, 0, 5, .x (.int .i64 (i : Int))), (1, 0, 24, .sl true 3 (l.map cellV) none), (2, 0, 25, .x (.int .i64 (i : Int))), (4, 0, 26, .sl true 3 ((l.take i).map cellV) none), (8, 64, 27, .sl ((l.take i).map cellV).isEmpty 3 ((l.take i).map cellV) (some 27)), (16, 0, 28, .agg [.x (.string s), .x (.int .i64 c), .x (.int .i64 r)]), (32, 0, 29, .sl false 3 [.agg [.x (.string s), .x (.int .i64 c), .x (.int .i64 r)]] none), (64, 1024, 30, .sl false 3 ((l.take i ++ [(s, c, r)]).map cellV) (some 30)), (128, 0, 31, .sl true 3 (l.map cellV) none), (256, 0, 32, .x (.int .i64 (i : Int))), (512, 0, 33, .sl true 3 ((l.drop i).map cellV) none), (1024, 2048, 34, .sl false 3 (((l.take i ++ [(s, c, r)]) ++ l.drop i).map cellV) (some 34)), (2048, 0, 4, .sl false 3 (((l.take i ++ [(s, c, r)]) ++ l.drop i).map cellV) (some 34))] [(3, [.x (.string s), .x (.int .i64 c), .x (.int .i64 r)])] [(0, 0, 1), (0, 1, 2), (0, 4, 16), (0, 7, 128), (0, 8, 256), (1, 1, 3), (1, 4, 17), (1, 7, 129), (1, 8, 257), (2, 0, 3), (2, 4, 18), (2, 7, 130), (2, 8, 258), (16, 0, 17), (16, 1, 18), (16, 5, 48), (16, 7, 144), (16, 8, 272), (128, 0, 129), (128, 1, 130), (128, 4, 144), (128, 8, 384), (256, 0, 257), (256, 1, 258), (256, 4, 272), (256, 7, 384), (3, 2, 7), (3, 4, 19), (3, 7, 131), (3, 8, 259), (17, 1, 19), (17, 5, 49), (17, 7, 145), (17, 8, 273), (129, 1, 131), (129, 4, 145), (129, 8, 385), (257, 1, 259), (257, 4, 273), (257, 7, 385), (18, 0, 19), (18, 5, 50), (18, 7, 146), (18, 8, 274), (130, 0, 131), (130, 4, 146), (130, 8, 386), (258, 0, 259), (258, 4, 274), (258, 7, 386), (48, 0, 49), (48, 1, 50), (48, 7, 176), (48, 8, 304), (144, 0, 145), (144, 1, 146), (144, 5, 176), (144, 8, 400), (272, 0, 273), (272, 1, 274), (272, 5, 304), (272, 7, 400), (384, 0, 385), (384, 1, 386), (384, 4, 400), (384, 9, 896), (7, 3, 15), (7, 4, 23), (7, 7, 135), (7, 8, 263), (19, 2, 23), (19, 5, 51), (19, 7, 147), (19, 8, 275), (131, 2, 135), (131, 4, 147), (131, 8, 387), (259, 2, 263), (259, 4, 275), (259, 7, 387), (49, 1, 51), (49, 7, 177), (49, 8, 305), (145, 1, 147), (145, 5, 177), (145, 8, 401), (273, 1, 275), (273, 5, 305), (273, 7, 401), (385, 1, 387), (385, 4, 401), (385, 9, 897), (50, 0, 51), (50, 7, 178), (50, 8, 306), (146, 0, 147), (146, 5, 178), (146, 8, 402), (274, 0, 275), (274, 5, 306), (274, 7, 402), (386, 0, 387), (386, 4, 402), (386, 9, 898), (176, 0, 177), (176, 1, 178), (176, 8, 432), (304, 0, 305), (304, 1, 306), (304, 7, 432), (400, 0, 401), (400, 1, 402), (400, 5, 432), (400, 9, 912), (896, 0, 897), (896, 1, 898), (896, 4, 912), (15, 4, 31), (15, 7, 143), (15, 8, 271), (23, 3, 31), (23, 5, 55), (23, 7, 151), (23, 8, 279), (135, 3, 143), (135, 4, 151), (135, 8, 391), (263, 3, 271), (263, 4, 279), (263, 7, 391), (51, 2, 55), (51, 7, 179), (51, 8, 307), (147, 2, 151), (147, 5, 179), (147, 8, 403), (275, 2, 279), (275, 5, 307), (275, 7, 403), (387, 2, 391), (387, 4, 403), (387, 9, 899), (177, 1, 179), (177, 8, 433), (305, 1, 307), (305, 7, 433), (401, 1, 403), (401, 5, 433), (401, 9, 913), (897, 1, 899), (897, 4, 913), (178, 0, 179), (178, 8, 434), (306, 0, 307), (306, 7, 434), (402, 0, 403), (402, 5, 434), (402, 9, 914), (898, 0, 899), (898, 4, 914), (432, 0, 433), (432, 1, 434), (432, 9, 944), (912, 0, 913), (912, 1, 914), (912, 5, 944), (31, 5, 63), (31, 7, 159), (31, 8, 287), (143, 4, 159), (143, 8, 399), (271, 4, 287), (271, 7, 399), (55, 3, 63), (55, 7, 183), (55, 8, 311), (151, 3, 159), (151, 5, 183), (151, 8, 407), (279, 3, 287), (279, 5, 311), (279, 7, 407), (391, 3, 399), (391, 4, 407), (391, 9, 903), (179, 2, 183), (179, 8, 435), (307, 2, 311), (307, 7, 435), (403, 2, 407), (403, 5, 435), (403, 9, 915), (899, 2, 903), (899, 4, 915), (433, 1, 435), (433, 9, 945), (913, 1, 915), (913, 5, 945), (434, 0, 435), (434, 9, 946), (914, 0, 915), (914, 5, 946), (944, 0, 945), (944, 1, 946), (63, 6, 127), (63, 7, 191), (63, 8, 319), (159, 5, 191), (159, 8, 415), (287, 5, 319), (287, 7, 415), (399, 4, 415), (399, 9, 911), (183, 3, 191), (183, 8, 439), (311, 3, 319), (311, 7, 439), (407, 3, 415), (407, 5, 439), (407, 9, 919), (903, 3, 911), (903, 4, 919), (435, 2, 439), (435, 9, 947), (915, 2, 919), (915, 5, 947), (945, 1, 947), (946, 0, 947), (127, 7, 255), (127, 8, 383), (191, 6, 255), (191, 8, 447), (319, 6, 383), (319, 7, 447), (415, 5, 447), (415, 9, 927), (911, 4, 927), (439, 3, 447), (439, 9, 951), (919, 3, 927), (919, 5, 951), (947, 2, 951), (255, 8, 511), (383, 7, 511), (447, 6, 511), (447, 9, 959), (927, 5, 959), (951, 3, 959), (511, 9, 1023), (959, 6, 1023), (1023, 10, 2047), (2047, 11, 4095)] 4095 (by kernel_rfl) (by kernel_rfl) ?_ ?_ ?_
       · simp +decide (maxDischargeDepth := 200) only [go_sem]
       · simp +decide (maxDischargeDepth := 200) only [go_sem, piece_l, piece_r, g1, g2, g3, i0, i1]
       · simp +decide (maxDischargeDepth := 200) only [go_sem, Nat.reduceBEq, Tryz.results23]
end Go.Proofs.YtfngpfnbhafmlaaGreatDoor
namespace Go.Proofs.YtfngpfnbhafmlaaGreatDoor
open Go Go.RowKit
set_option linter.unusedSimpArgs false
end Go.Proofs.YtfngpfnbhafmlaaGreatDoor
namespace Go.Proofs.YtfngpfnbhafmlaaGreatDoor
open Go Go.RowKit
set_option linter.unusedSimpArgs false
end Go.Proofs.YtfngpfnbhafmlaaGreatDoor
namespace Go.Proofs.YtfngpfnbhafmlaaGreatDoor
open Go Go.RowKit
set_option linter.unusedSimpArgs false
def szO (l : List C3) : Nat := if l.isEmpty then 0 else 3
def rangeL (h : Hd) : List C3 := (cellsA h.cs h.cc h.cr h.ts h.tc h.tr).getD []
def baseR (h : Hd) : List C3 := bif decide (h.k = 2) && rightC h.cs h.cc h.cr then intoL [] (h.cs, h.cc, h.cr) else bif decide (h.k = 3) then (rangeL h).foldl intoL [] else []
mutual
def readsN : Nd → List C3
 | .leaf h => baseR h
 | .mk h l => readsL (baseR h) l
def readsL : List C3 → List Nd → List C3
 | acc, [] => acc
 | acc, n :: l => readsL ((readsN n).foldl intoL acc) l
end
theorem readsN_eq (a : Nd) : readsN a = readsL (baseR a.hd) a.ks := by
 cases a <;> simp only [readsN, readsL, Nd.hd, Nd.ks]
theorem readsL_snoc (acc : List C3) (l : List Nd) (n : Nd) : readsL acc (l ++ [n]) = (readsN n).foldl intoL (readsL acc l) := by
 induction l generalizing acc with
 | nil => rfl
 | cons x l ih => simp only [List.cons_append, readsL, ih]
theorem intoL_len (l : List C3) (p : C3) : (intoL l p).length ≤ l.length + 1 := by
 unfold intoL
 split
 · omega
 · have : (l.takeWhile (fun q => lessP q p)).length + (l.dropWhile (fun q => lessP q p)).length = l.length := by rw [← List.length_append, List.takeWhile_append_dropWhile]
   simp only [List.length_append, List.length_cons]; omega
theorem fold_len (c : List C3) : ∀ acc : List C3, (c.foldl intoL acc).length ≤ acc.length + c.length := by
 induction c with
 | nil => intro acc; simp
 | cons p c ih => intro acc; have := ih (intoL acc p); have := intoL_len acc p; simp only [List.foldl_cons, List.length_cons]; omega
theorem range_len (h : Hd) : (rangeL h).length ≤ 400 := by
 unfold rangeL cellsA
 split
 · rename_i hh
   obtain ⟨hok, h4⟩ := hh
   obtain ⟨_, _, _, hc, hr⟩ := okA_iff.1 hok
   rw [Option.getD_some, cellsL_len]
   have e1 : h.tc - h.cc + 1 = (((h.tc - h.cc + 1).toNat : Nat) : Int) := by omega
   have e2 : h.tr - h.cr + 1 = (((h.tr - h.cr + 1).toNat : Nat) : Int) := by omega
   unfold areaN at h4
   rw [e1, e2] at h4
   have : (((h.tr - h.cr + 1).toNat * (h.tc - h.cc + 1).toNat : Nat) : Int) ≤ 400 := by push_cast; rw [Int.mul_comm]; exact h4
   omega
 · simp
theorem base_len (h : Hd) : (baseR h).length ≤ 400 := by
 unfold baseR
 cases decide (h.k = 2) && rightC h.cs h.cc h.cr with
 | true => have := intoL_len [] (h.cs, h.cc, h.cr); simp only [cond_true]; simp at this; omega
 | false =>
   cases decide (h.k = 3) with
   | true => have := fold_len (rangeL h) []; have := range_len h; simp only [cond_true, cond_false]; simp at *; omega
   | false => simp
mutual
theorem readsN_len : ∀ a : Nd, (readsN a).length ≤ 400 * cnt a
 | .leaf h => by have := base_len h; simp only [readsN, cnt]; omega
 | .mk h l => by have := readsL_len (baseR h) l; have := base_len h; simp only [readsN, cnt]; omega
theorem readsL_len : ∀ (acc : List C3) (l : List Nd), (readsL acc l).length ≤ acc.length + 400 * cntL l
 | acc, [] => by simp [readsL]
 | acc, n :: l => by have := readsL_len ((readsN n).foldl intoL acc) l; have := fold_len (readsN n) acc; have := readsN_len n; simp only [readsL, cntL]; omega
end
theorem FInto_of (L : List C3) (p : C3) (h : L.length ≤ 900000) : FInto [.sl (L).isEmpty (szO (L)) ((L).map cellV) none, .agg [.x (.string p.1), .x (.int .i64 p.2.1), .x (.int .i64 p.2.2)]] = some (.sl (intoL L p).isEmpty (szO (intoL L p)) ((intoL L p).map cellV) none) := by
 obtain ⟨s, c, r⟩ := p
 unfold FInto
 simp only [cellsOf_map]
 rw [if_pos ⟨h, by cases L with | nil => exact .inr ⟨rfl, rfl⟩ | cons q L => exact .inl rfl⟩]
 by_cases hin : inL L (s, c, r) = true
 · have e : intoL L (s, c, r) = L := if_pos hin
   rw [if_pos hin, e]
 · have e : intoL L (s, c, r) = L.takeWhile (fun q => lessP q (s, c, r)) ++ (s, c, r) :: L.dropWhile (fun q => lessP q (s, c, r)) := if_neg hin
   have e2 : (intoL L (s, c, r)).isEmpty = false := by rw [e]; cases L.takeWhile (fun q => lessP q (s, c, r)) <;> rfl
   rw [if_neg hin]
   simp only [szO, e2, Bool.false_eq_true, if_false]
theorem cnt_takeL' (l : List Nd) (i : Nat) : cntL (l.take i) ≤ cntL l := by
 have key : ∀ (a b : List Nd), cntL (a ++ b) = cntL a + cntL b := by
  intro a b
  induction a with
  | nil => simp [cntL]
  | cons x a ih => simp only [List.cons_append, cntL, ih, Nat.add_assoc]
 have := key (l.take i) (l.drop i)
 rw [List.take_append_drop] at this
 omega
def GReads (nd : Nd) : Option V := if cnt nd ≤ 400 then some (.sl (readsN nd).isEmpty (szO (readsN nd)) ((readsN nd).map cellV) none) else none
theorem GReads_of {nd : Nd} (h : cnt nd ≤ 400) : GReads nd = some (.sl (readsN nd).isEmpty (szO (readsN nd)) ((readsN nd).map cellV) none) := if_pos h
theorem szO_at {l : List C3} {i : Nat} {p : C3} (h : l[i]? = some p) : szO l = 3 := by
 cases l with
 | nil => simp at h
 | cons q l => rfl
theorem take_fold {c : List C3} {i : Nat} {p : C3} (h : c[i]? = some p) (acc : List C3) : (c.take (i + 1)).foldl intoL acc = intoL ((c.take i).foldl intoL acc) p := by
 have : c.take (i + 1) = c.take i ++ [p] := by rw [List.take_add_one, h]; rfl
 rw [this, List.foldl_append]
 rfl
set_option maxHeartbeats 8000000 in
set_option maxRecDepth 100000 in
theorem reads_fun : FunV 11 (FE encN GReads) := by
 refine fun_rec cnt (fun a w => Tryz.call11 a w) (fun n ih => ?_)
 refine fun_of_run (E := envOf [(11, (FE encN fun a => if cnt a < n then GReads a else none)), (23, FInto), (24, FCells), (22, FRightC)]) (k := 1) (envOK_of _ ⟨ih, into_fun, rcells_fun, rright_fun, trivial⟩) (by kernel_rfl) Tryz.func11 rfl (fun a w => Tryz.call11 a w) Tryz.ntmps11 (by kernel_rfl) (by decide) (by decide) ?_
 intro us r hF hdat
 obtain ⟨nd, hus, hG⟩ := FE_out hF
 clear hF
 subst hus
 obtain ⟨hlt, hF⟩ := ite_some hG
 clear hG
 unfold GReads at hF
 obtain ⟨h400, hF⟩ := ite_some hF
 cases hF
 clear hdat
 simp only [encN]
 obtain ⟨k, op, nm, vk, vn, vs, cs, cc, cr, ts, tc, tr, l, nl, sz, hh, hl, hf, hs⟩ := node_cases nd
 have hrec : ∀ (i : Nat) (c : Nd), l[i]? = some c → (FE encN fun a => if cnt a < n then GReads a else none) [nodeV c] = some (.sl (readsN c).isEmpty (szO (readsN c)) ((readsN c).map cellV) none) ∧ (readsN c).length ≤ 160000 := fun i c hc => by
  have h1 := cnt_kid (nd := nd) (c := c) (i := i) (by rw [hl]; exact hc)
  have := readsN_len c
  exact ⟨(FE_at encN_inj _ c).trans ((if_pos (by omega)).trans (GReads_of (by omega))), by omega⟩
 have hlen : l.length < 400 := by have := cnt_kids nd; rw [hl] at this; omega
 have hcl : cntL l ≤ 400 := by have := cnt_eq nd; rw [hl] at this; omega
 have hbl := base_len nd.hd
 have hrl : ∀ i, (readsL (baseR nd.hd) (l.take i)).length ≤ 170000 := fun i => by have := readsL_len (baseR nd.hd) (l.take i); have := cnt_takeL' l i; omega
 rw [hf, readsN_eq, hl]
 refine ⟨rfl, ?_⟩
 rw [hh] at hbl hrl ⊢
 by_cases h2 : k = 2
 · subst h2
   cases hr : rightC cs cc cr
   · have eb : baseR ⟨2, op, nm, vk, vn, vs, cs, cc, cr, ts, tc, tr⟩ = [] := by simp [baseR, hr]
     rw [eb] at hrl ⊢
     simp +decide (maxDischargeDepth := 200) only [go_sem, FRightC, hr, Tryz.results11]
     refine loop_of (X := {i : Nat // i ≤ l.length}) (fun i => [(1, .ptr 1 0), (2, .sl true 0 [] none), (3, .sl (readsL ([]) (l.take i.1)).isEmpty (szO (readsL ([]) (l.take i.1))) ((readsL ([]) (l.take i.1)).map cellV) none), (6, .x (.int .i64 ((i.1 : Nat) : Int)))]) (fun _ => [(1, [.x (.int .i64 2), .x (.string op), .x (.string nm), .x (.int .i64 vk), .x (.int .i64 vn), .x (.string vs), .x (.string cs), .x (.int .i64 cc), .x (.int .i64 cr), .x (.string ts), .x (.int .i64 tc), .x (.int .i64 tr), .sl nl sz (l.map nodeV) none])]) (fun i => l.length - i.1) ⟨0, by omega⟩ (by simp +decide only [go_sem, List.take_zero, readsL] <;> (repeat' first | rfl | constructor)) (by simp +decide only [go_sem] <;> (repeat' first | rfl | constructor)) (fun ⟨i, hi0⟩ => ?_)
     by_cases hi : i < l.length
     · obtain ⟨c, hc1, hc2⟩ := kid_at hi
       obtain rfl := sz_kids hs hi
       obtain ⟨hcc, hcl2⟩ := hrec i c hc1
       obtain ⟨k', op', nm', vk', vn', vs', cs', cc', cr', ts', tc', tr', l', nl', sz', hh', hl', hf', hs'⟩ := node_cases c
       rw [hf'] at hc2 hcc
       have c1 : decide ((i : Int) < (l.length : Int)) = true := decide_eq_true (by omega)
       have c2 : (0 : Int) ≤ (i : Int) := by omega
       have c4 := count_up (i := i) (by omega)
       have ht := take_snoc' hc1
       have e : readsL ([]) (l.take (i + 1)) = (readsN c).foldl intoL (readsL ([]) (l.take i)) := by rw [ht, readsL_snoc]
       have hal := hrl i
       generalize readsL ([]) (l.take i) = acc at hal e
       generalize readsN c = q at hcl2 hcc e
       simp +decide (maxDischargeDepth := 200) only [go_sem, List.length_map, c1, c2, c4, hc2, hcc, Tryz.results11]
       refine loop_of (X := {j : Nat // j ≤ q.length}) (fun j => [(1, .ptr 1 0), (2, .sl true 0 [] none), (3, .sl ((q.take j.1).foldl intoL acc).isEmpty (szO ((q.take j.1).foldl intoL acc)) (((q.take j.1).foldl intoL acc).map cellV) none), (6, .x (.int .i64 ((i : Nat) : Int))), (7, .sl (q).isEmpty (szO (q)) ((q).map cellV) none), (8, .x (.int .i64 ((j.1 : Nat) : Int)))]) (fun _ => [(1, [.x (.int .i64 2), .x (.string op), .x (.string nm), .x (.int .i64 vk), .x (.int .i64 vn), .x (.string vs), .x (.string cs), .x (.int .i64 cc), .x (.int .i64 cr), .x (.string ts), .x (.int .i64 tc), .x (.int .i64 tr), .sl nl 13 (l.map nodeV) none])]) (fun j => q.length - j.1) ⟨0, by omega⟩ (by simp +decide only [go_sem, List.take_zero, List.foldl_nil] <;> (repeat' first | rfl | constructor)) (by simp +decide only [go_sem] <;> (repeat' first | rfl | constructor)) (fun ⟨j, hj0⟩ => ?_)
       by_cases hj : j < q.length
       · obtain ⟨p, hp⟩ := getC hj
         have d1 : decide ((j : Int) < (q.length : Int)) = true := decide_eq_true (by omega)
         have d2 : (0 : Int) ≤ (j : Int) := by omega
         have d4 := count_up (i := j) (by omega)
         have d5 := cell_at hp
         have d6 := szO_at hp
         have hfl := fold_len (q.take j) acc
         have d7 := FInto_of ((q.take j).foldl intoL acc) p (by rw [List.length_take] at hfl; omega)
         have d8 := take_fold hp acc
         simp +decide (maxDischargeDepth := 200) only [go_sem, List.length_map, d1, d2, d4, d5, d6, d7, cellV_mk, Tryz.results11]
         refine ⟨⟨j + 1, by omega⟩, ?_, ?_, ?_⟩
         · simp +decide (maxDischargeDepth := 200) only [go_sem, d8, d6]
         · simp +decide (maxDischargeDepth := 200) only [go_sem]
         · simp only; omega
       · have d1 : decide ((j : Int) < (q.length : Int)) = false := decide_eq_false (by omega)
         have d9 : q.take j = q := List.take_of_length_le (by omega)
         simp +decide (maxDischargeDepth := 200) only [go_sem, List.length_map, d1, d9, c4, Tryz.results11]
         refine ⟨⟨i + 1, by omega⟩, ?_, ?_, ?_⟩
         · simp +decide (maxDischargeDepth := 200) only [go_sem, e]
         · simp +decide (maxDischargeDepth := 200) only [go_sem]
         · simp only; omega
     · have c1 : decide ((i : Int) < (l.length : Int)) = false := decide_eq_false (by omega)
       have e : l.take i = l := List.take_of_length_le (by omega)
       simp +decide (maxDischargeDepth := 200) only [go_sem, List.length_map, c1, e, Tryz.results11]
   · have eb : baseR ⟨2, op, nm, vk, vn, vs, cs, cc, cr, ts, tc, tr⟩ = intoL [] (cs, cc, cr) := by simp [baseR, hr]
     have q0 : FInto [.sl true 0 [] none, .agg [.x (.string cs), .x (.int .i64 cc), .x (.int .i64 cr)]] = some (.sl (intoL [] (cs, cc, cr)).isEmpty (szO (intoL [] (cs, cc, cr))) ((intoL [] (cs, cc, cr)).map cellV) none) := FInto_of [] (cs, cc, cr) (by simp)
     rw [eb] at hrl ⊢
     generalize intoL [] (cs, cc, cr) = base at hrl q0 ⊢
     simp +decide (maxDischargeDepth := 200) only [go_sem, FRightC, hr, q0, Tryz.results11]
     refine loop_of (X := {i : Nat // i ≤ l.length}) (fun i => [(1, .ptr 1 0), (2, .sl true 0 [] none), (3, .sl (readsL (base) (l.take i.1)).isEmpty (szO (readsL (base) (l.take i.1))) ((readsL (base) (l.take i.1)).map cellV) none), (6, .x (.int .i64 ((i.1 : Nat) : Int)))]) (fun _ => [(1, [.x (.int .i64 2), .x (.string op), .x (.string nm), .x (.int .i64 vk), .x (.int .i64 vn), .x (.string vs), .x (.string cs), .x (.int .i64 cc), .x (.int .i64 cr), .x (.string ts), .x (.int .i64 tc), .x (.int .i64 tr), .sl nl sz (l.map nodeV) none])]) (fun i => l.length - i.1) ⟨0, by omega⟩ (by simp +decide only [go_sem, List.take_zero, readsL] <;> (repeat' first | rfl | constructor)) (by simp +decide only [go_sem] <;> (repeat' first | rfl | constructor)) (fun ⟨i, hi0⟩ => ?_)
     by_cases hi : i < l.length
     · obtain ⟨c, hc1, hc2⟩ := kid_at hi
       obtain rfl := sz_kids hs hi
       obtain ⟨hcc, hcl2⟩ := hrec i c hc1
       obtain ⟨k', op', nm', vk', vn', vs', cs', cc', cr', ts', tc', tr', l', nl', sz', hh', hl', hf', hs'⟩ := node_cases c
       rw [hf'] at hc2 hcc
       have c1 : decide ((i : Int) < (l.length : Int)) = true := decide_eq_true (by omega)
       have c2 : (0 : Int) ≤ (i : Int) := by omega
       have c4 := count_up (i := i) (by omega)
       have ht := take_snoc' hc1
       have e : readsL (base) (l.take (i + 1)) = (readsN c).foldl intoL (readsL (base) (l.take i)) := by rw [ht, readsL_snoc]
       have hal := hrl i
       generalize readsL (base) (l.take i) = acc at hal e
       generalize readsN c = q at hcl2 hcc e
       simp +decide (maxDischargeDepth := 200) only [go_sem, List.length_map, c1, c2, c4, hc2, hcc, Tryz.results11]
       refine loop_of (X := {j : Nat // j ≤ q.length}) (fun j => [(1, .ptr 1 0), (2, .sl true 0 [] none), (3, .sl ((q.take j.1).foldl intoL acc).isEmpty (szO ((q.take j.1).foldl intoL acc)) (((q.take j.1).foldl intoL acc).map cellV) none), (6, .x (.int .i64 ((i : Nat) : Int))), (7, .sl (q).isEmpty (szO (q)) ((q).map cellV) none), (8, .x (.int .i64 ((j.1 : Nat) : Int)))]) (fun _ => [(1, [.x (.int .i64 2), .x (.string op), .x (.string nm), .x (.int .i64 vk), .x (.int .i64 vn), .x (.string vs), .x (.string cs), .x (.int .i64 cc), .x (.int .i64 cr), .x (.string ts), .x (.int .i64 tc), .x (.int .i64 tr), .sl nl 13 (l.map nodeV) none])]) (fun j => q.length - j.1) ⟨0, by omega⟩ (by simp +decide only [go_sem, List.take_zero, List.foldl_nil] <;> (repeat' first | rfl | constructor)) (by simp +decide only [go_sem] <;> (repeat' first | rfl | constructor)) (fun ⟨j, hj0⟩ => ?_)
       by_cases hj : j < q.length
       · obtain ⟨p, hp⟩ := getC hj
         have d1 : decide ((j : Int) < (q.length : Int)) = true := decide_eq_true (by omega)
         have d2 : (0 : Int) ≤ (j : Int) := by omega
         have d4 := count_up (i := j) (by omega)
         have d5 := cell_at hp
         have d6 := szO_at hp
         have hfl := fold_len (q.take j) acc
         have d7 := FInto_of ((q.take j).foldl intoL acc) p (by rw [List.length_take] at hfl; omega)
         have d8 := take_fold hp acc
         simp +decide (maxDischargeDepth := 200) only [go_sem, List.length_map, d1, d2, d4, d5, d6, d7, cellV_mk, Tryz.results11]
         refine ⟨⟨j + 1, by omega⟩, ?_, ?_, ?_⟩
         · simp +decide (maxDischargeDepth := 200) only [go_sem, d8, d6]
         · simp +decide (maxDischargeDepth := 200) only [go_sem]
         · simp only; omega
       · have d1 : decide ((j : Int) < (q.length : Int)) = false := decide_eq_false (by omega)
         have d9 : q.take j = q := List.take_of_length_le (by omega)
         simp +decide (maxDischargeDepth := 200) only [go_sem, List.length_map, d1, d9, c4, Tryz.results11]
         refine ⟨⟨i + 1, by omega⟩, ?_, ?_, ?_⟩
         · simp +decide (maxDischargeDepth := 200) only [go_sem, e]
         · simp +decide (maxDischargeDepth := 200) only [go_sem]
         · simp only; omega
     · have c1 : decide ((i : Int) < (l.length : Int)) = false := decide_eq_false (by omega)
       have e : l.take i = l := List.take_of_length_le (by omega)
       simp +decide (maxDischargeDepth := 200) only [go_sem, List.length_map, c1, e, Tryz.results11]
 · have k2 : decide (k = 2) = false := decide_eq_false h2
   by_cases h3 : k = 3
   · subst h3
     have eb : baseR ⟨3, op, nm, vk, vn, vs, cs, cc, cr, ts, tc, tr⟩ = (rangeL ⟨3, op, nm, vk, vn, vs, cs, cc, cr, ts, tc, tr⟩).foldl intoL [] := by simp [baseR]
     have hrg := range_len ⟨3, op, nm, vk, vn, vs, cs, cc, cr, ts, tc, tr⟩
     have hrg2 := fold_len (rangeL ⟨3, op, nm, vk, vn, vs, cs, cc, cr, ts, tc, tr⟩) []
     cases hA : cellsA cs cc cr ts tc tr with
     | none =>
       have er : rangeL ⟨3, op, nm, vk, vn, vs, cs, cc, cr, ts, tc, tr⟩ = [] := by unfold rangeL; rw [hA]; rfl
       rw [er] at eb
       have eb : baseR ⟨3, op, nm, vk, vn, vs, cs, cc, cr, ts, tc, tr⟩ = [] := eb
       have hC : FCells [.agg [.x (.string cs), .x (.int .i64 cc), .x (.int .i64 cr), .x (.string ts), .x (.int .i64 tc), .x (.int .i64 tr)]] = some (.sl true 0 [] none) := by unfold FCells; simp only [hA]
       rw [eb] at hrl ⊢
       simp +decide (maxDischargeDepth := 200) only [go_sem, hC, Tryz.results11]
       refine loop_of (X := Unit) (fun _ => [(1, .ptr 1 0), (2, .sl true 0 [] none), (3, .sl true 0 [] none), (4, .sl true 0 [] none), (5, .x (.int .i64 0))]) (fun _ => [(1, [.x (.int .i64 3), .x (.string op), .x (.string nm), .x (.int .i64 vk), .x (.int .i64 vn), .x (.string vs), .x (.string cs), .x (.int .i64 cc), .x (.int .i64 cr), .x (.string ts), .x (.int .i64 tc), .x (.int .i64 tr), .sl nl sz (l.map nodeV) none])]) (fun _ => 0) () (by simp +decide only [go_sem] <;> (repeat' first | rfl | constructor)) (by simp +decide only [go_sem] <;> (repeat' first | rfl | constructor)) (fun _ => ?_)
       simp +decide (maxDischargeDepth := 200) only [go_sem, Tryz.results11]
       refine loop_of (X := {i : Nat // i ≤ l.length}) (fun i => [(1, .ptr 1 0), (2, .sl true 0 [] none), (3, .sl (readsL ([]) (l.take i.1)).isEmpty (szO (readsL ([]) (l.take i.1))) ((readsL ([]) (l.take i.1)).map cellV) none), (6, .x (.int .i64 ((i.1 : Nat) : Int)))]) (fun _ => [(1, [.x (.int .i64 3), .x (.string op), .x (.string nm), .x (.int .i64 vk), .x (.int .i64 vn), .x (.string vs), .x (.string cs), .x (.int .i64 cc), .x (.int .i64 cr), .x (.string ts), .x (.int .i64 tc), .x (.int .i64 tr), .sl nl sz (l.map nodeV) none])]) (fun i => l.length - i.1) ⟨0, by omega⟩ (by simp +decide only [go_sem, List.take_zero, readsL] <;> (repeat' first | rfl | constructor)) (by simp +decide only [go_sem] <;> (repeat' first | rfl | constructor)) (fun ⟨i, hi0⟩ => ?_)
       by_cases hi : i < l.length
       · obtain ⟨c, hc1, hc2⟩ := kid_at hi
         obtain rfl := sz_kids hs hi
         obtain ⟨hcc, hcl2⟩ := hrec i c hc1
         obtain ⟨k', op', nm', vk', vn', vs', cs', cc', cr', ts', tc', tr', l', nl', sz', hh', hl', hf', hs'⟩ := node_cases c
         rw [hf'] at hc2 hcc
         have c1 : decide ((i : Int) < (l.length : Int)) = true := decide_eq_true (by omega)
         have c2 : (0 : Int) ≤ (i : Int) := by omega
         have c4 := count_up (i := i) (by omega)
         have ht := take_snoc' hc1
         have e : readsL ([]) (l.take (i + 1)) = (readsN c).foldl intoL (readsL ([]) (l.take i)) := by rw [ht, readsL_snoc]
         have hal := hrl i
         generalize readsL ([]) (l.take i) = acc at hal e
         generalize readsN c = q at hcl2 hcc e
         simp +decide (maxDischargeDepth := 200) only [go_sem, List.length_map, c1, c2, c4, hc2, hcc, Tryz.results11]
         refine loop_of (X := {j : Nat // j ≤ q.length}) (fun j => [(1, .ptr 1 0), (2, .sl true 0 [] none), (3, .sl ((q.take j.1).foldl intoL acc).isEmpty (szO ((q.take j.1).foldl intoL acc)) (((q.take j.1).foldl intoL acc).map cellV) none), (6, .x (.int .i64 ((i : Nat) : Int))), (7, .sl (q).isEmpty (szO (q)) ((q).map cellV) none), (8, .x (.int .i64 ((j.1 : Nat) : Int)))]) (fun _ => [(1, [.x (.int .i64 3), .x (.string op), .x (.string nm), .x (.int .i64 vk), .x (.int .i64 vn), .x (.string vs), .x (.string cs), .x (.int .i64 cc), .x (.int .i64 cr), .x (.string ts), .x (.int .i64 tc), .x (.int .i64 tr), .sl nl 13 (l.map nodeV) none])]) (fun j => q.length - j.1) ⟨0, by omega⟩ (by simp +decide only [go_sem, List.take_zero, List.foldl_nil] <;> (repeat' first | rfl | constructor)) (by simp +decide only [go_sem] <;> (repeat' first | rfl | constructor)) (fun ⟨j, hj0⟩ => ?_)
         by_cases hj : j < q.length
         · obtain ⟨p, hp⟩ := getC hj
           have d1 : decide ((j : Int) < (q.length : Int)) = true := decide_eq_true (by omega)
           have d2 : (0 : Int) ≤ (j : Int) := by omega
           have d4 := count_up (i := j) (by omega)
           have d5 := cell_at hp
           have d6 := szO_at hp
           have hfl := fold_len (q.take j) acc
           have d7 := FInto_of ((q.take j).foldl intoL acc) p (by rw [List.length_take] at hfl; omega)
           have d8 := take_fold hp acc
           simp +decide (maxDischargeDepth := 200) only [go_sem, List.length_map, d1, d2, d4, d5, d6, d7, cellV_mk, Tryz.results11]
           refine ⟨⟨j + 1, by omega⟩, ?_, ?_, ?_⟩
           · simp +decide (maxDischargeDepth := 200) only [go_sem, d8, d6]
           · simp +decide (maxDischargeDepth := 200) only [go_sem]
           · simp only; omega
         · have d1 : decide ((j : Int) < (q.length : Int)) = false := decide_eq_false (by omega)
           have d9 : q.take j = q := List.take_of_length_le (by omega)
           simp +decide (maxDischargeDepth := 200) only [go_sem, List.length_map, d1, d9, c4, Tryz.results11]
           refine ⟨⟨i + 1, by omega⟩, ?_, ?_, ?_⟩
           · simp +decide (maxDischargeDepth := 200) only [go_sem, e]
           · simp +decide (maxDischargeDepth := 200) only [go_sem]
           · simp only; omega
       · have c1 : decide ((i : Int) < (l.length : Int)) = false := decide_eq_false (by omega)
         have e : l.take i = l := List.take_of_length_le (by omega)
         simp +decide (maxDischargeDepth := 200) only [go_sem, List.length_map, c1, e, Tryz.results11]
     | some q0 =>
       have er : rangeL ⟨3, op, nm, vk, vn, vs, cs, cc, cr, ts, tc, tr⟩ = q0 := by unfold rangeL; rw [hA]; rfl
       rw [er] at eb hrg hrg2
       have hC : FCells [.agg [.x (.string cs), .x (.int .i64 cc), .x (.int .i64 cr), .x (.string ts), .x (.int .i64 tc), .x (.int .i64 tr)]] = some (.sl false 3 (q0.map cellV) none) := by unfold FCells; simp only [hA]
       rw [eb] at hrl ⊢
       simp +decide (maxDischargeDepth := 200) only [go_sem, hC, Tryz.results11]
       refine loop_of (X := {j : Nat // j ≤ q0.length}) (fun j => [(1, .ptr 1 0), (2, .sl true 0 [] none), (3, .sl ((q0.take j.1).foldl intoL []).isEmpty (szO ((q0.take j.1).foldl intoL [])) (((q0.take j.1).foldl intoL []).map cellV) none), (4, .sl false 3 (q0.map cellV) none), (5, .x (.int .i64 ((j.1 : Nat) : Int)))]) (fun _ => [(1, [.x (.int .i64 3), .x (.string op), .x (.string nm), .x (.int .i64 vk), .x (.int .i64 vn), .x (.string vs), .x (.string cs), .x (.int .i64 cc), .x (.int .i64 cr), .x (.string ts), .x (.int .i64 tc), .x (.int .i64 tr), .sl nl sz (l.map nodeV) none])]) (fun j => q0.length - j.1) ⟨0, by omega⟩ (by simp +decide only [go_sem, List.take_zero, List.foldl_nil] <;> (repeat' first | rfl | constructor)) (by simp +decide only [go_sem] <;> (repeat' first | rfl | constructor)) (fun ⟨j, hj0⟩ => ?_)
       by_cases hj : j < q0.length
       · obtain ⟨p, hp⟩ := getC hj
         have d1 : decide ((j : Int) < (q0.length : Int)) = true := decide_eq_true (by omega)
         have d2 : (0 : Int) ≤ (j : Int) := by omega
         have d4 := count_up (i := j) (by omega)
         have d5 := cell_at hp
         have hfl := fold_len (q0.take j) []
         have d7 := FInto_of ((q0.take j).foldl intoL []) p (by rw [List.length_take] at hfl; simp only [List.length_nil] at hfl; omega)
         have d8 := take_fold hp []
         simp +decide (maxDischargeDepth := 200) only [go_sem, List.length_map, d1, d2, d4, d5, d7, cellV_mk, Tryz.results11]
         refine ⟨⟨j + 1, by omega⟩, ?_, ?_, ?_⟩
         · simp +decide (maxDischargeDepth := 200) only [go_sem, d8]
         · simp +decide (maxDischargeDepth := 200) only [go_sem]
         · simp only; omega
       · have d1 : decide ((j : Int) < (q0.length : Int)) = false := decide_eq_false (by omega)
         have d9 : q0.take j = q0 := List.take_of_length_le (by omega)
         simp +decide (maxDischargeDepth := 200) only [go_sem, List.length_map, d1, d9, Tryz.results11]
         generalize q0.foldl intoL [] = base at hrl hrg2 ⊢
         refine loop_of (X := {i : Nat // i ≤ l.length}) (fun i => [(1, .ptr 1 0), (2, .sl true 0 [] none), (3, .sl (readsL (base) (l.take i.1)).isEmpty (szO (readsL (base) (l.take i.1))) ((readsL (base) (l.take i.1)).map cellV) none), (6, .x (.int .i64 ((i.1 : Nat) : Int)))]) (fun _ => [(1, [.x (.int .i64 3), .x (.string op), .x (.string nm), .x (.int .i64 vk), .x (.int .i64 vn), .x (.string vs), .x (.string cs), .x (.int .i64 cc), .x (.int .i64 cr), .x (.string ts), .x (.int .i64 tc), .x (.int .i64 tr), .sl nl sz (l.map nodeV) none])]) (fun i => l.length - i.1) ⟨0, by omega⟩ (by simp +decide only [go_sem, List.take_zero, readsL] <;> (repeat' first | rfl | constructor)) (by simp +decide only [go_sem] <;> (repeat' first | rfl | constructor)) (fun ⟨i, hi0⟩ => ?_)
         by_cases hi : i < l.length
         · obtain ⟨c, hc1, hc2⟩ := kid_at hi
           obtain rfl := sz_kids hs hi
           obtain ⟨hcc, hcl2⟩ := hrec i c hc1
           obtain ⟨k', op', nm', vk', vn', vs', cs', cc', cr', ts', tc', tr', l', nl', sz', hh', hl', hf', hs'⟩ := node_cases c
           rw [hf'] at hc2 hcc
           have c1 : decide ((i : Int) < (l.length : Int)) = true := decide_eq_true (by omega)
           have c2 : (0 : Int) ≤ (i : Int) := by omega
           have c4 := count_up (i := i) (by omega)
           have ht := take_snoc' hc1
           have e : readsL (base) (l.take (i + 1)) = (readsN c).foldl intoL (readsL (base) (l.take i)) := by rw [ht, readsL_snoc]
           have hal := hrl i
           generalize readsL (base) (l.take i) = acc at hal e
           generalize readsN c = q at hcl2 hcc e
           simp +decide (maxDischargeDepth := 200) only [go_sem, List.length_map, c1, c2, c4, hc2, hcc, Tryz.results11]
           refine loop_of (X := {j : Nat // j ≤ q.length}) (fun j => [(1, .ptr 1 0), (2, .sl true 0 [] none), (3, .sl ((q.take j.1).foldl intoL acc).isEmpty (szO ((q.take j.1).foldl intoL acc)) (((q.take j.1).foldl intoL acc).map cellV) none), (6, .x (.int .i64 ((i : Nat) : Int))), (7, .sl (q).isEmpty (szO (q)) ((q).map cellV) none), (8, .x (.int .i64 ((j.1 : Nat) : Int)))]) (fun _ => [(1, [.x (.int .i64 3), .x (.string op), .x (.string nm), .x (.int .i64 vk), .x (.int .i64 vn), .x (.string vs), .x (.string cs), .x (.int .i64 cc), .x (.int .i64 cr), .x (.string ts), .x (.int .i64 tc), .x (.int .i64 tr), .sl nl 13 (l.map nodeV) none])]) (fun j => q.length - j.1) ⟨0, by omega⟩ (by simp +decide only [go_sem, List.take_zero, List.foldl_nil] <;> (repeat' first | rfl | constructor)) (by simp +decide only [go_sem] <;> (repeat' first | rfl | constructor)) (fun ⟨j, hj0⟩ => ?_)
           by_cases hj : j < q.length
           · obtain ⟨p, hp⟩ := getC hj
             have d1 : decide ((j : Int) < (q.length : Int)) = true := decide_eq_true (by omega)
             have d2 : (0 : Int) ≤ (j : Int) := by omega
             have d4 := count_up (i := j) (by omega)
             have d5 := cell_at hp
             have d6 := szO_at hp
             have hfl := fold_len (q.take j) acc
             have d7 := FInto_of ((q.take j).foldl intoL acc) p (by rw [List.length_take] at hfl; omega)
             have d8 := take_fold hp acc
             simp +decide (maxDischargeDepth := 200) only [go_sem, List.length_map, d1, d2, d4, d5, d6, d7, cellV_mk, Tryz.results11]
             refine ⟨⟨j + 1, by omega⟩, ?_, ?_, ?_⟩
             · simp +decide (maxDischargeDepth := 200) only [go_sem, d8, d6]
             · simp +decide (maxDischargeDepth := 200) only [go_sem]
             · simp only; omega
           · have d1 : decide ((j : Int) < (q.length : Int)) = false := decide_eq_false (by omega)
             have d9 : q.take j = q := List.take_of_length_le (by omega)
             simp +decide (maxDischargeDepth := 200) only [go_sem, List.length_map, d1, d9, c4, Tryz.results11]
             refine ⟨⟨i + 1, by omega⟩, ?_, ?_, ?_⟩
             · simp +decide (maxDischargeDepth := 200) only [go_sem, e]
             · simp +decide (maxDischargeDepth := 200) only [go_sem]
             · simp only; omega
         · have c1 : decide ((i : Int) < (l.length : Int)) = false := decide_eq_false (by omega)
           have e : l.take i = l := List.take_of_length_le (by omega)
           simp +decide (maxDischargeDepth := 200) only [go_sem, List.length_map, c1, e, Tryz.results11]
   · have k3 : decide (k = 3) = false := decide_eq_false h3
     have eb : baseR ⟨k, op, nm, vk, vn, vs, cs, cc, cr, ts, tc, tr⟩ = [] := by simp [baseR, h2, h3]
     rw [eb] at hrl ⊢
     simp +decide (maxDischargeDepth := 200) only [go_sem, k2, k3, Tryz.results11]
     refine loop_of (X := {i : Nat // i ≤ l.length}) (fun i => [(1, .ptr 1 0), (2, .sl true 0 [] none), (3, .sl (readsL ([]) (l.take i.1)).isEmpty (szO (readsL ([]) (l.take i.1))) ((readsL ([]) (l.take i.1)).map cellV) none), (6, .x (.int .i64 ((i.1 : Nat) : Int)))]) (fun _ => [(1, [.x (.int .i64 k), .x (.string op), .x (.string nm), .x (.int .i64 vk), .x (.int .i64 vn), .x (.string vs), .x (.string cs), .x (.int .i64 cc), .x (.int .i64 cr), .x (.string ts), .x (.int .i64 tc), .x (.int .i64 tr), .sl nl sz (l.map nodeV) none])]) (fun i => l.length - i.1) ⟨0, by omega⟩ (by simp +decide only [go_sem, List.take_zero, readsL] <;> (repeat' first | rfl | constructor)) (by simp +decide only [go_sem] <;> (repeat' first | rfl | constructor)) (fun ⟨i, hi0⟩ => ?_)
     by_cases hi : i < l.length
     · obtain ⟨c, hc1, hc2⟩ := kid_at hi
       obtain rfl := sz_kids hs hi
       obtain ⟨hcc, hcl2⟩ := hrec i c hc1
       obtain ⟨k', op', nm', vk', vn', vs', cs', cc', cr', ts', tc', tr', l', nl', sz', hh', hl', hf', hs'⟩ := node_cases c
       rw [hf'] at hc2 hcc
       have c1 : decide ((i : Int) < (l.length : Int)) = true := decide_eq_true (by omega)
       have c2 : (0 : Int) ≤ (i : Int) := by omega
       have c4 := count_up (i := i) (by omega)
       have ht := take_snoc' hc1
       have e : readsL ([]) (l.take (i + 1)) = (readsN c).foldl intoL (readsL ([]) (l.take i)) := by rw [ht, readsL_snoc]
       have hal := hrl i
       generalize readsL ([]) (l.take i) = acc at hal e
       generalize readsN c = q at hcl2 hcc e
       simp +decide (maxDischargeDepth := 200) only [go_sem, List.length_map, c1, c2, c4, hc2, hcc, Tryz.results11]
       refine loop_of (X := {j : Nat // j ≤ q.length}) (fun j => [(1, .ptr 1 0), (2, .sl true 0 [] none), (3, .sl ((q.take j.1).foldl intoL acc).isEmpty (szO ((q.take j.1).foldl intoL acc)) (((q.take j.1).foldl intoL acc).map cellV) none), (6, .x (.int .i64 ((i : Nat) : Int))), (7, .sl (q).isEmpty (szO (q)) ((q).map cellV) none), (8, .x (.int .i64 ((j.1 : Nat) : Int)))]) (fun _ => [(1, [.x (.int .i64 k), .x (.string op), .x (.string nm), .x (.int .i64 vk), .x (.int .i64 vn), .x (.string vs), .x (.string cs), .x (.int .i64 cc), .x (.int .i64 cr), .x (.string ts), .x (.int .i64 tc), .x (.int .i64 tr), .sl nl 13 (l.map nodeV) none])]) (fun j => q.length - j.1) ⟨0, by omega⟩ (by simp +decide only [go_sem, List.take_zero, List.foldl_nil] <;> (repeat' first | rfl | constructor)) (by simp +decide only [go_sem] <;> (repeat' first | rfl | constructor)) (fun ⟨j, hj0⟩ => ?_)
       by_cases hj : j < q.length
       · obtain ⟨p, hp⟩ := getC hj
         have d1 : decide ((j : Int) < (q.length : Int)) = true := decide_eq_true (by omega)
         have d2 : (0 : Int) ≤ (j : Int) := by omega
         have d4 := count_up (i := j) (by omega)
         have d5 := cell_at hp
         have d6 := szO_at hp
         have hfl := fold_len (q.take j) acc
         have d7 := FInto_of ((q.take j).foldl intoL acc) p (by rw [List.length_take] at hfl; omega)
         have d8 := take_fold hp acc
         simp +decide (maxDischargeDepth := 200) only [go_sem, List.length_map, d1, d2, d4, d5, d6, d7, cellV_mk, Tryz.results11]
         refine ⟨⟨j + 1, by omega⟩, ?_, ?_, ?_⟩
         · simp +decide (maxDischargeDepth := 200) only [go_sem, d8, d6]
         · simp +decide (maxDischargeDepth := 200) only [go_sem]
         · simp only; omega
       · have d1 : decide ((j : Int) < (q.length : Int)) = false := decide_eq_false (by omega)
         have d9 : q.take j = q := List.take_of_length_le (by omega)
         simp +decide (maxDischargeDepth := 200) only [go_sem, List.length_map, d1, d9, c4, Tryz.results11]
         refine ⟨⟨i + 1, by omega⟩, ?_, ?_, ?_⟩
         · simp +decide (maxDischargeDepth := 200) only [go_sem, e]
         · simp +decide (maxDischargeDepth := 200) only [go_sem]
         · simp only; omega
     · have c1 : decide ((i : Int) < (l.length : Int)) = false := decide_eq_false (by omega)
       have e : l.take i = l := List.take_of_length_le (by omega)
       simp +decide (maxDischargeDepth := 200) only [go_sem, List.length_map, c1, e, Tryz.results11]
end Go.Proofs.YtfngpfnbhafmlaaGreatDoor
namespace Go.Proofs.YtfngpfnbhafmlaaGreatDoor
open Go Go.RowKit
set_option linter.unusedSimpArgs false
theorem mem_into {l : List C3} {p q : C3} (h : q ∈ l ∨ q = p) : q ∈ intoL l p := by
 unfold intoL
 by_cases hin : inL l p = true
 · rw [if_pos hin]
   rcases h with h | rfl
   · exact h
   · unfold inL at hin
     obtain ⟨x, hx, he⟩ := List.any_eq_true.1 hin
     have : x = q := of_decide_eq_true he
     rw [← this]
     exact hx
 · rw [if_neg hin]
   rcases h with h | rfl
   · have e : l = l.takeWhile (fun q => lessP q p) ++ l.dropWhile (fun q => lessP q p) := List.takeWhile_append_dropWhile.symm
     rw [e] at h
     rcases List.mem_append.1 h with h | h
     · exact List.mem_append_left _ h
     · exact List.mem_append_right _ (List.mem_cons_of_mem _ h)
   · exact List.mem_append_right _ (List.mem_cons_self ..)
theorem mem_fold {q : C3} : ∀ (c acc : List C3), (q ∈ acc ∨ q ∈ c) → q ∈ c.foldl intoL acc
 | [], acc, h => by
   rcases h with h | h
   · exact h
   · cases h
 | p :: c, acc, h => by
   refine mem_fold c (intoL acc p) ?_
   rcases h with h | h
   · exact .inl (mem_into (.inl h))
   · rcases List.mem_cons.1 h with rfl | h
     · exact .inl (mem_into (.inr rfl))
     · exact .inr h
theorem mem_readsL {q : C3} : ∀ (l : List Nd) (acc : List C3), (q ∈ acc ∨ ∃ n ∈ l, q ∈ readsN n) → q ∈ readsL acc l
 | [], acc, h => by
   rcases h with h | ⟨n, hn, _⟩
   · exact h
   · cases hn
 | x :: l, acc, h => by
   refine mem_readsL l _ ?_
   rcases h with h | ⟨n, hn, hq⟩
   · exact .inl (mem_fold _ _ (.inl h))
   · rcases List.mem_cons.1 hn with rfl | hn
     · exact .inl (mem_fold _ _ (.inr hq))
     · exact .inr ⟨n, hn, hq⟩
theorem mem_reads {q : C3} {a : Nd} (h : q ∈ baseR a.hd ∨ ∃ n ∈ a.ks, q ∈ readsN n) : q ∈ readsN a := by
 rw [readsN_eq]
 exact mem_readsL _ _ h
theorem range_reads {a : Nd} (h3 : a.hd.k = 3) {q : C3} (hq : q ∈ rngC a.hd) : q ∈ readsN a := by
 refine mem_reads (.inl ?_)
 unfold baseR
 rw [h3]
 exact mem_fold _ _ (.inr hq)
theorem ev_same {f f' : C3 → T3} : ∀ (m : Nat) (a : Nd), cnt a ≤ m → rN a = true → (∀ q ∈ readsN a, f q = f' q) → evalN f a = evalN f' a
 | 0, a, hm, _, _ => by have := cnt_pos a; omega
 | m + 1, a, hm, hr, hf => by
   have hk : ∀ n ∈ a.ks, evalN f n = evalN f' n := fun n hn => by
    have h1 := cntL_mem hn
    have h2 := cnt_eq a
    exact ev_same m n (by omega) (rN_kids hr n hn) (fun q hq => hf q (mem_reads (.inr ⟨n, hn, hq⟩)))
   have e1 : a.ks.map (evalN f) = a.ks.map (evalN f') := List.map_congr_left hk
   have e2 : (a.ks.map fun n => kidR f n.hd (evalN f n)) = a.ks.map fun n => kidR f' n.hd (evalN f' n) := List.map_congr_left fun n hn => by
    rw [hk n hn]
    unfold kidR
    by_cases h3 : n.hd.k = 3
    · rw [if_pos h3, if_pos h3]
      congr 1
      exact List.map_congr_left fun q hq => hf q (mem_reads (.inr ⟨n, hn, range_reads h3 hq⟩))
    · rw [if_neg h3, if_neg h3]
   rw [evalN_eq, evalN_eq, e1, e2]
   unfold evalH
   by_cases h2 : a.hd.k = 2
   · have hc : rightC a.hd.cs a.hd.cc a.hd.cr = true := by
      rw [rN_eq, Bool.and_eq_true, Bool.and_eq_true] at hr
      obtain ⟨_, _, ho⟩ := hr
      unfold okR at ho
      simpa [h2] using ho
     have : f (a.hd.cs, a.hd.cc, a.hd.cr) = f' (a.hd.cs, a.hd.cc, a.hd.cr) := hf _ (mem_reads (.inl (by
      unfold baseR
      rw [h2, hc]
      exact mem_into (.inr rfl))))
     rw [this]
   · simp only [h2, if_false]
theorem at_other {p : Sh} {l : List Sh} {q : C3} (h : q ≠ p.1) : atL (p :: l) q = atL l q := by
 rw [atL_cons, if_neg]
 intro e
 exact h (of_decide_eq_true e).symm
end Go.Proofs.YtfngpfnbhafmlaaGreatDoor
namespace Go.Proofs.YtfngpfnbhafmlaaGreatDoor
open Go Go.RowKit
set_option linter.unusedSimpArgs false
theorem growV_g {E : Env} {el n by' : Nat} {z : List V} (h1 : szB E.P el = some n) (hby : byB E.P el = some by') (hz : zeroB E.P el = some z) (h4 : n ≠ 0) (h5 : z.length = n)
 {es es' : List V} {m : Nat} (hm : es' ≠ [] → m = n) (hc : (es'.all fun u => u.cells.all V.cell) = true) (hb : (es.length + es'.length) * by' ≤ 140737488355328) (hl : es.length + es'.length ≤ 9223372036854775807) (st : St) (d tok : Nat) (nl : Bool) (t' : Option Nat) :
 growV E st (some d) el (.sl false n es (some tok)) (.sl nl m es' t') = some ⟨upd (strip tok (strip d st.t)) d (.sl false n (es ++ es') (some d)), stripB E tok (stripB E d st.b)⟩ := by
 unfold growV
 simp only [h1, hby, hz]
 rw [if_pos ⟨h4, h5, trivial, by
  by_cases h : es' = []
  · exact .inr h
  · exact .inl (hm h), hc, hb, hl⟩]
theorem evalT_same {f f' : C3 → T3} {a : Nd} (hf : ∀ q ∈ readsN a, f q = f' q) : evalT f a = evalT f' a := by
 unfold evalT
 split
 · rename_i h
   rw [Bool.and_eq_true] at h
   exact ev_same _ a (Nat.le_refl _) h.2 hf
 · rfl
def encR4 (p : Nd × SW × C3 × T3) : List V := [nodeV p.1, swV p.2.1, cellV p.2.2.1, tv p.2.2.2]
theorem encR4_inj (p q : Nd × SW × C3 × T3) (e : encR4 p = encR4 q) : p = q := by
 obtain ⟨a, b, c, d1, d2, d3⟩ := p
 obtain ⟨a', b', c', e1, e2, e3⟩ := q
 simp only [encR4, List.cons.injEq, and_true, tv, vl, V.agg.injEq, V.x.injEq, Value.int.injEq, Value.string.injEq, true_and] at e
 obtain ⟨h1, h2, h3, rfl, rfl, rfl⟩ := e
 rw [nodeV_inj _ _ h1, swV_inj _ _ h2, cellV_inj _ _ h3]
open Classical in
noncomputable def GLaw11R (p : Nd × SW × C3 × T3) : Option V := if smN p.1 ∧ (p.2.1.2.2 ≠ [] → p.2.1.2.1 = 6) ∧ (∀ q ∈ p.2.1.2.2, inR q.2.2.1) ∧ inR p.2.2.2.2.1 then some (.x (.bool true)) else none
set_option maxHeartbeats 64000000 in
set_option maxRecDepth 100000 in
theorem evalReads_fun (hE : FunV 8 (FE encEv GEvalT)) : FunV 4 (FE encR4 GLaw11R) := by
 refine fun_of_run (E := envQ [(6, FAlive11), (7, FFew), (8, (FE encEv GEvalT)), (11, (FE encN GReads)), (10, FHas3)] [] [] (fun d => d == 55) (fun i => i == 9)) (k := 4) (envOK_Q _ _ _ _ _ ⟨(alive11_fun hE), few_fun, hE, reads_fun, has3_fun, trivial⟩ trivial trivial) (by kernel_rfl) Tryz.func4 rfl (fun a w => Tryz.call4 a w) Tryz.ntmps4 (by kernel_rfl) (by decide) (by decide) ?_
 intro us r hF hdat
 obtain ⟨⟨nd, ⟨wl, wz, w⟩, ⟨xs, xc, xr⟩, ⟨yk, yn, ys⟩⟩, hus, hG⟩ := FE_out hF
 clear hF
 subst hus
 have hF := hG
 clear hG
 unfold GLaw11R at hF
 split at hF
 case isFalse => cases hF
 rename_i hok
 cases hF
 obtain ⟨hs, hz, hin, hyn⟩ := hok
 simp only at hs hz hin hyn
 clear hdat
 refine ⟨rfl, ?_⟩
 have hcx : cellV (xs, xc, xr) = .agg [.x (.string xs), .x (.int .i64 xc), .x (.int .i64 xr)] := rfl
 simp only [encR4, swV, hcx]
 have e1 : FAlive11 [] = some (.x (.bool true)) := rfl
 have hfew := FFew_eq nd
 by_cases h1 : ((szN 101 nd : Nat) : Int) ≤ 400
 case neg =>
  rw [decide_eq_false h1] at hfew
  obtain ⟨k, op, nm, vk, vn, vs, cs, cc, cr, ts, tc, tr, l, nl, sz, hh, hl, hf, hs13⟩ := node_cases nd
  rw [hf] at hfew ⊢
  simp +decide (maxDischargeDepth := 200) only [go_sem, Nat.reduceBEq, Tryz.results4, List.length_map, e1, hfew]
 rw [decide_eq_true h1] at hfew
 have h400 := few_cnt (nd := nd) (by omega)
 by_cases h2 : (40 : Int) < (w.length : Int)
 case pos =>
  have d2 := decide_eq_true h2
  obtain ⟨k, op, nm, vk, vn, vs, cs, cc, cr, ts, tc, tr, l, nl, sz, hh, hl, hf, hs13⟩ := node_cases nd
  rw [hf] at hfew ⊢
  simp +decide (maxDischargeDepth := 200) only [go_sem, Nat.reduceBEq, Tryz.results4, List.length_map, e1, hfew, d2]
 have d2 := decide_eq_false h2
 by_cases h3 : (400 : Int) < (ys.size : Int)
 case pos =>
  have d3 := decide_eq_true h3
  obtain ⟨k, op, nm, vk, vn, vs, cs, cc, cr, ts, tc, tr, l, nl, sz, hh, hl, hf, hs13⟩ := node_cases nd
  rw [hf] at hfew ⊢
  simp +decide (maxDischargeDepth := 200) only [go_sem, Nat.reduceBEq, Tryz.results4, List.length_map, e1, hfew, d2, d3]
 have d3 := decide_eq_false h3
 have hrd : FE encN GReads [nodeV nd] = some (.sl (readsN nd).isEmpty (szO (readsN nd)) ((readsN nd).map cellV) none) := (FE_at encN_inj _ nd).trans (GReads_of h400)
 have hhas := FHas3_of (nl := (readsN nd).isEmpty) (sz := szO (readsN nd)) (l := readsN nd) xs xc xr (by have := readsN_len nd; omega) (by
  unfold szO
  cases readsN nd
  · exact .inr rfl
  · exact .inl rfl)
 cases h4 : (readsN nd).any fun p => eqC p (xs, xc, xr) with
 | true =>
   rw [h4] at hhas
   generalize (readsN nd).map cellV = rc at hrd hhas
   generalize (readsN nd).isEmpty = rn at hrd hhas
   generalize szO (readsN nd) = rz at hrd hhas
   obtain ⟨k, op, nm, vk, vn, vs, cs, cc, cr, ts, tc, tr, l, nl, sz, hh, hl, hf, hs13⟩ := node_cases nd
   rw [hf] at hfew hrd ⊢
   simp +decide (maxDischargeDepth := 200) only [go_sem, Nat.reduceBEq, Tryz.results4, List.length_map, e1, hfew, d2, d3, hrd, hhas]
 | false =>
   rw [h4] at hhas
   have hsame : evalT (atL (((xs, xc, xr), (yk, yn, ys)) :: w)) nd = evalT (atL w) nd := evalT_same fun q hq => at_other (by
    intro e
    have hn := List.any_eq_false.1 h4 q hq
    exact hn (decide_eq_true e))
   have hE1 := GEvalT_of (wl := wl) (wz := wz) (w := w) h400 hs ⟨hz, by simp only; omega, hin⟩
   have hE2 := GEvalT_of (wl := false) (wz := 6) (w := ((xs, xc, xr), (yk, yn, ys)) :: w) h400 hs ⟨fun _ => rfl, by simp only [List.length_cons]; omega, fun q hq => by
    rcases List.mem_cons.1 hq with rfl | hq
    · exact hyn
    · exact hin q hq⟩
   rw [hsame, List.map_cons] at hE2
   have hsx : shV ((xs, xc, xr), (yk, yn, ys)) = .agg [.x (.string xs), .x (.int .i64 xc), .x (.int .i64 xr), .x (.int .i64 yk), .x (.int .i64 yn), .x (.string ys)] := rfl
   rw [hsx] at hE2
   generalize (readsN nd).map cellV = rc at hrd hhas
   generalize (readsN nd).isEmpty = rn at hrd hhas
   generalize szO (readsN nd) = rz at hrd hhas
   rcases hv : evalT (atL w) nd with ⟨b1, b2, b3⟩
   rw [hv] at hE1 hE2
   simp only [tv, vl] at hE1 hE2
   have gg := growV_g (E := envQ [(6, FAlive11), (7, FFew), (8, (FE encEv GEvalT)), (11, (FE encN GReads)), (10, FHas3)] [] [] (fun d => d == 55) (fun i => i == 9)) (el := 33) (n := 6) sz33 by33 ze33 (by decide) rfl (es := [.agg [.x (.string xs), .x (.int .i64 xc), .x (.int .i64 xr), .x (.int .i64 yk), .x (.int .i64 yn), .x (.string ys)]]) (es' := w.map shV) (m := wz) (fun h => hz (by simpa using h)) (sh_cells w) (by simp only [List.length_map, List.length_cons, List.length_nil]; omega) (by simp only [List.length_map, List.length_cons, List.length_nil]; omega)
   simp only [List.cons_append, List.nil_append] at gg
   obtain ⟨k, op, nm, vk, vn, vs, cs, cc, cr, ts, tc, tr, l, nl, sz, hh, hl, hf, hs13⟩ := node_cases nd
   rw [hf] at hfew hrd hE1 hE2 ⊢
   simp +decide (maxDischargeDepth := 200) only [go_sem, Nat.reduceBEq, Tryz.results4, List.length_map, e1, hfew, d2, d3, hrd, hhas]
   refine loop_of (X := {i : Nat // i ≤ w.length}) (fun i => [(1, .sl wl wz (w.map shV) none), (4, .ptr 4 0), (6, .ptr 6 0), (7, .ptr 7 0), (10, .x (.int .i64 ((i.1 : Nat) : Int)))]) (fun _ => [(4, [.x (.int .i64 k), .x (.string op), .x (.string nm), .x (.int .i64 vk), .x (.int .i64 vn), .x (.string vs), .x (.string cs), .x (.int .i64 cc), .x (.int .i64 cr), .x (.string ts), .x (.int .i64 tc), .x (.int .i64 tr), .sl nl sz (l.map nodeV) none]), (6, [.x (.string xs), .x (.int .i64 xc), .x (.int .i64 xr)]), (7, [.x (.int .i64 yk), .x (.int .i64 yn), .x (.string ys)])]) (fun i => w.length - i.1) ⟨0, Nat.zero_le _⟩ (by simp +decide only [go_sem, Int.natCast_zero] <;> (repeat' first | rfl | constructor)) (by simp +decide only [go_sem] <;> (repeat' first | rfl | constructor)) (fun ⟨i, hi0⟩ => ?_)
   simp only at hi0 ⊢
   by_cases hi : i < w.length
   · have c1 : decide ((i : Int) < (w.length : Int)) = true := decide_eq_true (by omega)
     have c2 : (0 : Int) ≤ (i : Int) := by omega
     have c4 := count_up (i := i) (by omega)
     obtain ⟨ps, pc, pr, ak, an, at', q1, q2, q3, _⟩ := sh_at hi
     obtain rfl := hz (List.ne_nil_of_mem q3)
     simp only [shV] at q2
     by_cases h5 : (400 : Int) < (at'.size : Int)
     · have d5 := decide_eq_true h5
       simp +decide (maxDischargeDepth := 200) only [go_sem, Nat.reduceBEq, Tryz.results4, List.length_map, c1, c2, q2, d5]
     · have d5 := decide_eq_false h5
       simp +decide (maxDischargeDepth := 200) only [go_sem, Nat.reduceBEq, Tryz.results4, List.length_map, c1, c2, c4, q2, d5]
       refine ⟨⟨i + 1, hi⟩, ?_, ?_, ?_⟩
       · simp +decide (maxDischargeDepth := 200) only [go_sem, Nat.reduceBEq]
       · simp +decide (maxDischargeDepth := 200) only [go_sem, Nat.reduceBEq]
       · simp only; omega
   · have c1 : decide ((i : Int) < (w.length : Int)) = false := decide_eq_false (by omega)
     simp +decide (maxDischargeDepth := 200) only [go_sem, Nat.reduceBEq, Tryz.results4, List.length_map, c1]
     refine any_dagB [(0, 0, 1, .sl wl wz (w.map shV) none), (0, 0, 4, .ptr 4 0), (0, 0, 6, .ptr 6 0), (0, 0, 7, .ptr 7 0), (1, 128, 51, .agg [.x (.int .i64 k), .x (.string op), .x (.string nm), .x (.int .i64 vk), .x (.int .i64 vn), .x (.string vs), .x (.string cs), .x (.int .i64 cc), .x (.int .i64 cr), .x (.string ts), .x (.int .i64 tc), .x (.int .i64 tr), .sl nl sz (l.map nodeV) none]), (2, 8, 52, .agg [.x (.string xs), .x (.int .i64 xc), .x (.int .i64 xr)]), (4, 8, 53, .agg [.x (.int .i64 yk), .x (.int .i64 yn), .x (.string ys)]), (8, 16, 54, .agg [.x (.string xs), .x (.int .i64 xc), .x (.int .i64 xr), .x (.int .i64 yk), .x (.int .i64 yn), .x (.string ys)]), (16, 64, 55, .sl false 6 [.agg [.x (.string xs), .x (.int .i64 xc), .x (.int .i64 xr), .x (.int .i64 yk), .x (.int .i64 yn), .x (.string ys)]] (some 55)), (32, 64, 56, .sl wl wz (w.map shV) none), (64, 128, 57, .sl false 6 (.agg [.x (.string xs), .x (.int .i64 xc), .x (.int .i64 xr), .x (.int .i64 yk), .x (.int .i64 yn), .x (.string ys)] :: w.map shV) (some 57)), (128, 2048, 58, vl b1 b2 b3), (256, 1024, 59, .agg [.x (.int .i64 k), .x (.string op), .x (.string nm), .x (.int .i64 vk), .x (.int .i64 vn), .x (.string vs), .x (.string cs), .x (.int .i64 cc), .x (.int .i64 cr), .x (.string ts), .x (.int .i64 tc), .x (.int .i64 tr), .sl nl sz (l.map nodeV) none]), (512, 1024, 60, .sl wl wz (w.map shV) none), (1024, 2048, 61, vl b1 b2 b3), (2048, 4096, 62, .x (.bool true)), (4096, 0, 8, .x (.bool true))] [(0, 0, 4, [.x (.int .i64 k), .x (.string op), .x (.string nm), .x (.int .i64 vk), .x (.int .i64 vn), .x (.string vs), .x (.string cs), .x (.int .i64 cc), .x (.int .i64 cr), .x (.string ts), .x (.int .i64 tc), .x (.int .i64 tr), .sl nl sz (l.map nodeV) none]), (0, 0, 6, [.x (.string xs), .x (.int .i64 xc), .x (.int .i64 xr)]), (0, 0, 7, [.x (.int .i64 yk), .x (.int .i64 yn), .x (.string ys)])] [(0, 0, 1), (0, 1, 2), (0, 2, 4), (0, 5, 32), (0, 8, 256), (0, 9, 512), (1, 1, 3), (1, 2, 5), (1, 5, 33), (1, 8, 257), (1, 9, 513), (2, 0, 3), (2, 2, 6), (2, 5, 34), (2, 8, 258), (2, 9, 514), (4, 0, 5), (4, 1, 6), (4, 5, 36), (4, 8, 260), (4, 9, 516), (32, 0, 33), (32, 1, 34), (32, 2, 36), (32, 8, 288), (32, 9, 544), (256, 0, 257), (256, 1, 258), (256, 2, 260), (256, 5, 288), (256, 9, 768), (512, 0, 513), (512, 1, 514), (512, 2, 516), (512, 5, 544), (512, 8, 768), (3, 2, 7), (3, 5, 35), (3, 8, 259), (3, 9, 515), (5, 1, 7), (5, 5, 37), (5, 8, 261), (5, 9, 517), (33, 1, 35), (33, 2, 37), (33, 8, 289), (33, 9, 545), (257, 1, 259), (257, 2, 261), (257, 5, 289), (257, 9, 769), (513, 1, 515), (513, 2, 517), (513, 5, 545), (513, 8, 769), (6, 0, 7), (6, 3, 14), (6, 5, 38), (6, 8, 262), (6, 9, 518), (34, 0, 35), (34, 2, 38), (34, 8, 290), (34, 9, 546), (258, 0, 259), (258, 2, 262), (258, 5, 290), (258, 9, 770), (514, 0, 515), (514, 2, 518), (514, 5, 546), (514, 8, 770), (36, 0, 37), (36, 1, 38), (36, 8, 292), (36, 9, 548), (260, 0, 261), (260, 1, 262), (260, 5, 292), (260, 9, 772), (516, 0, 517), (516, 1, 518), (516, 5, 548), (516, 8, 772), (288, 0, 289), (288, 1, 290), (288, 2, 292), (288, 9, 800), (544, 0, 545), (544, 1, 546), (544, 2, 548), (544, 8, 800), (768, 0, 769), (768, 1, 770), (768, 2, 772), (768, 5, 800), (7, 3, 15), (7, 5, 39), (7, 8, 263), (7, 9, 519), (35, 2, 39), (35, 8, 291), (35, 9, 547), (259, 2, 263), (259, 5, 291), (259, 9, 771), (515, 2, 519), (515, 5, 547), (515, 8, 771), (37, 1, 39), (37, 8, 293), (37, 9, 549), (261, 1, 263), (261, 5, 293), (261, 9, 773), (517, 1, 519), (517, 5, 549), (517, 8, 773), (289, 1, 291), (289, 2, 293), (289, 9, 801), (545, 1, 547), (545, 2, 549), (545, 8, 801), (769, 1, 771), (769, 2, 773), (769, 5, 801), (14, 0, 15), (14, 4, 30), (14, 5, 46), (14, 8, 270), (14, 9, 526), (38, 0, 39), (38, 3, 46), (38, 8, 294), (38, 9, 550), (262, 0, 263), (262, 3, 270), (262, 5, 294), (262, 9, 774), (518, 0, 519), (518, 3, 526), (518, 5, 550), (518, 8, 774), (290, 0, 291), (290, 2, 294), (290, 9, 802), (546, 0, 547), (546, 2, 550), (546, 8, 802), (770, 0, 771), (770, 2, 774), (770, 5, 802), (292, 0, 293), (292, 1, 294), (292, 9, 804), (548, 0, 549), (548, 1, 550), (548, 8, 804), (772, 0, 773), (772, 1, 774), (772, 5, 804), (800, 0, 801), (800, 1, 802), (800, 2, 804), (15, 4, 31), (15, 5, 47), (15, 8, 271), (15, 9, 527), (39, 3, 47), (39, 8, 295), (39, 9, 551), (263, 3, 271), (263, 5, 295), (263, 9, 775), (519, 3, 527), (519, 5, 551), (519, 8, 775), (291, 2, 295), (291, 9, 803), (547, 2, 551), (547, 8, 803), (771, 2, 775), (771, 5, 803), (293, 1, 295), (293, 9, 805), (549, 1, 551), (549, 8, 805), (773, 1, 775), (773, 5, 805), (801, 1, 803), (801, 2, 805), (30, 0, 31), (30, 5, 62), (30, 8, 286), (30, 9, 542), (46, 0, 47), (46, 4, 62), (46, 8, 302), (46, 9, 558), (270, 0, 271), (270, 4, 286), (270, 5, 302), (270, 9, 782), (526, 0, 527), (526, 4, 542), (526, 5, 558), (526, 8, 782), (294, 0, 295), (294, 3, 302), (294, 9, 806), (550, 0, 551), (550, 3, 558), (550, 8, 806), (774, 0, 775), (774, 3, 782), (774, 5, 806), (802, 0, 803), (802, 2, 806), (804, 0, 805), (804, 1, 806), (31, 5, 63), (31, 8, 287), (31, 9, 543), (47, 4, 63), (47, 8, 303), (47, 9, 559), (271, 4, 287), (271, 5, 303), (271, 9, 783), (527, 4, 543), (527, 5, 559), (527, 8, 783), (295, 3, 303), (295, 9, 807), (551, 3, 559), (551, 8, 807), (775, 3, 783), (775, 5, 807), (803, 2, 807), (805, 1, 807), (62, 0, 63), (62, 6, 126), (62, 8, 318), (62, 9, 574), (286, 0, 287), (286, 5, 318), (286, 9, 798), (542, 0, 543), (542, 5, 574), (542, 8, 798), (302, 0, 303), (302, 4, 318), (302, 9, 814), (558, 0, 559), (558, 4, 574), (558, 8, 814), (782, 0, 783), (782, 4, 798), (782, 5, 814), (806, 0, 807), (806, 3, 814), (63, 6, 127), (63, 8, 319), (63, 9, 575), (287, 5, 319), (287, 9, 799), (543, 5, 575), (543, 8, 799), (303, 4, 319), (303, 9, 815), (559, 4, 575), (559, 8, 815), (783, 4, 799), (783, 5, 815), (807, 3, 815), (126, 0, 127), (126, 8, 382), (126, 9, 638), (318, 0, 319), (318, 6, 382), (318, 9, 830), (574, 0, 575), (574, 6, 638), (574, 8, 830), (798, 0, 799), (798, 5, 830), (814, 0, 815), (814, 4, 830), (127, 7, 255), (127, 8, 383), (127, 9, 639), (319, 6, 383), (319, 9, 831), (575, 6, 639), (575, 8, 831), (799, 5, 831), (815, 4, 831), (382, 0, 383), (382, 9, 894), (638, 0, 639), (638, 8, 894), (830, 0, 831), (830, 6, 894), (255, 8, 511), (255, 9, 767), (383, 7, 511), (383, 9, 895), (639, 7, 767), (639, 8, 895), (831, 6, 895), (894, 0, 895), (511, 9, 1023), (767, 8, 1023), (895, 7, 1023), (1023, 10, 2047), (2047, 11, 4095), (4095, 12, 8191)] 8191 (by kernel_rfl) (by kernel_rfl) ?_ ?_ ?_
     · simp +decide (maxDischargeDepth := 200) only [go_sem, Nat.reduceBEq]
     · simp +decide (maxDischargeDepth := 200) only [go_sem, Nat.reduceBEq, hE1, hE2, gg]
     · simp +decide (maxDischargeDepth := 200) only [go_sem, Nat.reduceBEq, Tryz.results4]
end Go.Proofs.YtfngpfnbhafmlaaGreatDoor
