/- The laws of chapter 4, as functions of plain data: they are true. -/
import Derived.Test.YtkomcgljekfheaaDoorTkE
namespace Go.Proofs.YtkomcgljekfheaaDoor
open Go Go.RowKit
set_option linter.unusedSimpArgs false

def isTok : V → Bool
  | .agg [.x (.int .i64 _), .x (.int .i64 _), .x (.string _)] => true
  | _ => false
theorem isTok_is {u : V} (h : isTok u = true) : ∃ k a s, u = .agg [.x (.int .i64 k), .x (.int .i64 a), .x (.string s)] := by
  unfold isTok at h
  split at h
  · exact ⟨_, _, _, rfl⟩
  · cases h
open Classical in
noncomputable def FSame : List V → Option V
  | [.sl _ sz es none, .sl _ sz' es' none] => if es = es' ∧ (es = [] ∨ (sz = 3 ∧ sz' = 3)) ∧ es.all isTok = true ∧ es.length ≤ 1000000 then some (.x (.bool true)) else none
  | _ => none
theorem FSame_tok {l : List Tk} {nl nl' : Bool} (h : l.length ≤ 1000000) : FSame [.sl nl 3 (l.map tokV) none, .sl nl' 3 (l.map tokV) none] = some (.x (.bool true)) := by
  simp only [FSame]
  rw [if_pos ⟨trivial, .inr ⟨trivial, trivial⟩, by rw [List.all_map]; exact List.all_eq_true.2 (fun _ _ => rfl), by rw [List.length_map]; exact h⟩]
theorem FSame_nil {nl nl' : Bool} {sz sz' : Nat} : FSame [.sl nl sz [] none, .sl nl' sz' [] none] = some (.x (.bool true)) := by
  simp only [FSame]
  rw [if_pos ⟨trivial, .inl trivial, rfl, by simp⟩]
set_option maxHeartbeats 1000000 in
set_option maxRecDepth 100000 in
theorem same_fun : FunV 8 FSame := by
  refine fun_of_run (E := envOf []) (k := 2) (envOK_of _ trivial) (by kernel_rfl) Tryd.func8 rfl (fun a w => Tryd.call8 a w) Tryd.ntmps8 (by kernel_rfl) (by decide) ?_
  intro us r hF hdat
  unfold FSame at hF
  split at hF
  case h_2 => cases hF
  rename_i nl sz es nl' sz' es'
  split at hF
  case isFalse => cases hF
  rename_i hc
  obtain ⟨rfl, hz, hall, hle⟩ := hc
  cases hF
  refine ⟨rfl, ?_⟩
  simp (decide := true) (maxDischargeDepth := 200) only [go_sem, Tryd.results8]
  refine loop_of (X := {i : Nat // i ≤ es.length}) (fun i => [(0, .sl nl sz es none), (1, .sl nl' sz' es none), (4, .x (.bool false)), (5, .x (.int .i64 ((i.1 : Nat) : Int)))]) (fun _ => []) (fun i => es.length - i.1) ⟨0, by omega⟩ (by simp (decide := true) only [go_sem] <;> (repeat' first | rfl | constructor)) trivial (fun ⟨i, hi⟩ => ?_)
  by_cases hil : i < es.length
  · obtain ⟨e, he⟩ := get_of hil
    obtain ⟨k, a, s, rfl⟩ := isTok_is (List.all_eq_true.1 hall e (List.mem_of_getElem? he))
    obtain ⟨rfl, rfl⟩ := hz.resolve_left (fun h0 => by rw [h0] at hil; simp at hil)
    have d0 : decide ((i : Int) < (es.length : Int)) = true := decide_eq_true (by omega)
    have k2 : (0 : Int) ≤ (i : Int) := by omega
    have k4 := count_up (i := i) (by omega)
    have k5 : es[((i : Int)).toNat]? = some (.agg [.x (.int .i64 k), .x (.int .i64 a), .x (.string s)]) := by rw [Int.toNat_natCast]; exact he
    simp (decide := true) (maxDischargeDepth := 200) only [go_sem, d0, k2, k4, k5, dec_refl, Tryd.results8]
    refine ⟨⟨i + 1, by omega⟩, ?_, trivial, by simp only; omega⟩
    simp (decide := true) only [go_sem]
  · have d0 : decide ((i : Int) < (es.length : Int)) = false := decide_eq_false (by omega)
    simp (decide := true) (maxDischargeDepth := 200) only [go_sem, d0, Tryd.results8]


def FNum : List V → Option V
  | [.x (.int .i64 e)] => some (.x (.int .i64 e))
  | _ => none
set_option maxRecDepth 100000 in
theorem num_fun : FunV 9 FNum := by
  refine fun_of_run (E := envOf []) (k := 1) (envOK_of _ trivial) (by kernel_rfl) Tryd.func9 rfl (fun a w => Tryd.call9 a w) Tryd.ntmps9 (by kernel_rfl) (by decide) ?_
  intro us r hF hdat
  unfold FNum at hF
  split at hF
  case h_2 => cases hF
  rename_i e
  cases hF
  refine ⟨rfl, ?_⟩
  simp (decide := true) (maxDischargeDepth := 200) only [go_sem, Tryd.results9]


theorem FSplit_short {l : List UInt8} (h : ¬ 200 < l.length) : FSplit [.x (.string (B l))] = some (splitV l) := by
  show some (if 200 < (B l).size then _ else _) = _
  rw [if_neg (show ¬ 200 < (B l).size from h), B_bytes]
theorem FSplit_long {l : List UInt8} (h : 200 < l.length) : FSplit [.x (.string (B l))] = some (.tup [.sl true 0 [] none, .x (.int .i64 0), .x (.int .i64 5)]) := by
  show some (if 200 < (B l).size then _ else _) = _
  rw [if_pos (show 200 < (B l).size from h)]
theorem split_len {l : List UInt8} : (splitP l).1.length ≤ l.length := by
  have : ∀ (f i : Nat) (l : List UInt8), (splitL f i l).1.length ≤ f := by
    intro f
    induction f with
    | zero => intro i l; exact Nat.le_refl _
    | succ f ih =>
      intro i l
      cases l with
      | nil => exact Nat.zero_le _
      | cons b l =>
        simp only [splitL]
        split
        · exact Nat.le_succ_of_le (ih _ _)
        · split
          · exact Nat.zero_le _
          · exact Nat.succ_le_succ (ih _ _)
  have key : ∀ (f i : Nat) (l : List UInt8), (splitL f i l).1.length ≤ l.length := by
    intro f
    induction f with
    | zero => intro i l; exact Nat.zero_le _
    | succ f ih =>
      intro i l
      cases l with
      | nil => exact Nat.zero_le _
      | cons b l =>
        simp only [splitL]
        split
        · exact Nat.le_succ_of_le (ih _ _)
        · rename_i h32
          split
          · exact Nat.zero_le _
          · rename_i h0
            have := ih (i + (firstP (b :: l)).2) ((b :: l).drop (firstP (b :: l)).2)
            rw [List.length_drop] at this
            have := firstP_le (b :: l)
            simp only [List.length_cons] at *
            omega
  exact key _ _ _
theorem ex_0 : splitP [] = ([], none) := rfl
theorem ex_1 : splitP [65, 49, 43, 50] = ([(3, 0, [65, 49]), (5, 2, [43]), (1, 3, [50])], none) := by kernel_rfl
theorem ex_s0 : FSplit [.x (.string ⟨#[]⟩)] = some (.tup [.sl true 3 [] none, .x (.int .i64 (-1)), .x (.int .i64 0)]) := (FSplit_short (l := []) (by simp)).trans (by rw [splitV_ok ex_0]; rfl)
theorem ex_s1 : FSplit [.x (.string ⟨#[65, 49, 43, 50]⟩)] = some (.tup [.sl false 3 [.agg [.x (.int .i64 3), .x (.int .i64 0), .x (.string ⟨#[65, 49]⟩)], .agg [.x (.int .i64 5), .x (.int .i64 2), .x (.string ⟨#[43]⟩)], .agg [.x (.int .i64 1), .x (.int .i64 3), .x (.string ⟨#[50]⟩)]] none, .x (.int .i64 (-1)), .x (.int .i64 0)]) := (FSplit_short (l := [65, 49, 43, 50]) (by simp)).trans (by rw [splitV_ok ex_1]; rfl)
def FAlive : List V → Option V
  | [] => some (.x (.bool true))
  | _ => none
set_option maxRecDepth 100000 in
theorem alive_fun : FunV 5 FAlive := by
  refine fun_of_run (E := envOf [(6, FSplit), (9, FNum)]) (k := 0) (envOK_of _ ⟨split_fun, num_fun, trivial⟩) (by kernel_rfl) Tryd.func5 rfl (fun a w => Tryd.call5 a w) Tryd.ntmps5 (by kernel_rfl) (by decide) ?_
  intro us r hF hdat
  unfold FAlive at hF
  split at hF
  case h_2 => cases hF
  cases hF
  refine ⟨rfl, ?_⟩
  simp (decide := true) (maxDischargeDepth := 200) only [go_sem, List.append_eq, ex_s0, ex_s1, FNum, dec_refl, Tryd.results5]


def FTells : List V → Option V
  | [.x (.string _)] => some (.x (.bool true))
  | _ => none
set_option maxHeartbeats 1000000 in
set_option maxRecDepth 100000 in
theorem tells_fun : FunV 3 FTells := by
  refine fun_of_run (E := envOf [(5, FAlive), (6, FSplit), (7, FSplit), (8, FSame), (9, FNum)]) (k := 1) (envOK_of _ ⟨alive_fun, split_fun, rsplit_fun, same_fun, num_fun, trivial⟩) (by kernel_rfl) Tryd.func3 rfl (fun a w => Tryd.call3 a w) Tryd.ntmps3 (by kernel_rfl) (by decide) ?_
  intro us r hF hdat
  unfold FTells at hF
  split at hF
  case h_2 => cases hF
  rename_i s
  cases hF
  refine ⟨rfl, ?_⟩
  obtain ⟨l, rfl⟩ := B_of s
  by_cases h : (300 : Int) < ((B l).size : Int)
  · have d0 := decide_eq_true h
    simp (decide := true) (maxDischargeDepth := 200) only [go_sem, FAlive, d0, Tryd.results3]
  · have d0 := decide_eq_false h
    by_cases hl : 200 < l.length
    · have e := FSplit_long hl
      simp (decide := true) (maxDischargeDepth := 200) only [go_sem, FAlive, d0, e, FSame_nil, FNum, dec_refl, Tryd.results3]
    · have e := FSplit_short hl
      have hlen := split_len (l := l)
      rcases hs : splitP l with ⟨toks, o⟩
      rw [hs] at hlen
      have e2 := FSame_tok (l := toks) (nl := (toks.map tokV).isEmpty) (nl' := (toks.map tokV).isEmpty) (by simp only at hlen; omega)
      cases o with
      | none =>
        rw [splitV_ok hs] at e
        simp (decide := true) (maxDischargeDepth := 200) only [go_sem, FAlive, d0, e, e2, FNum, dec_refl, Tryd.results3]
      | some k =>
        rw [splitV_no hs] at e
        simp (decide := true) (maxDischargeDepth := 200) only [go_sem, FAlive, d0, e, FSame_nil, FNum, dec_refl, Tryd.results3]


def signTab : List (List UInt8) := [[43], [45], [42], [47], [38], [61], [60], [62], [60, 62], [60, 61], [62, 61], [40], [41], [44], [58], [33], [61, 60], [62, 60], [60, 60], [61, 61]]
def numTab : List Nat := [1, 1, 1, 1, 1, 1, 1, 1, 1, 1, 1, 1, 1, 1, 1, 1, 2, 2, 2, 2]
theorem tab_ok : ((List.range 20).all fun j => match splitP (signTab.getD j []) with
  | (toks, none) => decide (toks.length = numTab.getD j 0) && toks.all (fun t => decide (t.1 = 5)) && decide ((toks.map (·.2.2)).flatten = signTab.getD j []) && decide (0 < toks.length)
  | _ => false) = true := by kernel_rfl
theorem tab_facts {j : Nat} (h : j < 20) : ∃ toks, splitP (signTab.getD j []) = (toks, none) ∧ toks.length = numTab.getD j 0 ∧ (∀ t ∈ toks, t.1 = 5) ∧ (toks.map (·.2.2)).flatten = signTab.getD j [] := by
  have := List.all_eq_true.1 tab_ok j (List.mem_range.2 h)
  split at this
  · rename_i toks hs
    simp only [Bool.and_eq_true, decide_eq_true_eq, List.all_eq_true] at this
    exact ⟨toks, hs, this.1.1.1, this.1.1.2, this.1.2⟩
  · cases this
theorem tab_len {j : Nat} (h : j < 20) : (signTab.getD j []).length ≤ 2 := by
  have : (signTab.all fun t => decide (t.length ≤ 2)) = true := by decide
  rw [List.getD_eq_getElem?_getD]
  have hj : j < signTab.length := h
  rw [List.getElem?_eq_getElem hj]
  simpa using List.all_eq_true.1 this _ (List.getElem_mem hj)
theorem row_at {j : Nat} (h : j < 20) : ([.x (.string ⟨#[43]⟩), .x (.string ⟨#[45]⟩), .x (.string ⟨#[42]⟩), .x (.string ⟨#[47]⟩), .x (.string ⟨#[38]⟩), .x (.string ⟨#[61]⟩), .x (.string ⟨#[60]⟩), .x (.string ⟨#[62]⟩), .x (.string ⟨#[60, 62]⟩), .x (.string ⟨#[60, 61]⟩), .x (.string ⟨#[62, 61]⟩), .x (.string ⟨#[40]⟩), .x (.string ⟨#[41]⟩), .x (.string ⟨#[44]⟩), .x (.string ⟨#[58]⟩), .x (.string ⟨#[33]⟩), .x (.string ⟨#[61, 60]⟩), .x (.string ⟨#[62, 60]⟩), .x (.string ⟨#[60, 60]⟩), .x (.string ⟨#[61, 61]⟩)] : List V)[((j : Int)).toNat]? = some (.x (.string (B (signTab.getD j [])))) := by
  rw [Int.toNat_natCast]
  show (signTab.map fun t => V.x (.string (B t)))[j]? = _
  have hj : j < signTab.length := h
  rw [List.getElem?_map, List.getElem?_eq_getElem hj, List.getD_eq_getElem?_getD, List.getElem?_eq_getElem hj]
  rfl
theorem num_at {j : Nat} (h : j < 20) : ([.x (.int .i64 1), .x (.int .i64 1), .x (.int .i64 1), .x (.int .i64 1), .x (.int .i64 1), .x (.int .i64 1), .x (.int .i64 1), .x (.int .i64 1), .x (.int .i64 1), .x (.int .i64 1), .x (.int .i64 1), .x (.int .i64 1), .x (.int .i64 1), .x (.int .i64 1), .x (.int .i64 1), .x (.int .i64 1), .x (.int .i64 2), .x (.int .i64 2), .x (.int .i64 2), .x (.int .i64 2)] : List V)[((j : Int)).toNat]? = some (.x (.int .i64 ((numTab.getD j 0 : Nat) : Int))) := by
  rw [Int.toNat_natCast]
  show (numTab.map fun n => V.x (.int .i64 ((n : Nat) : Int)))[j]? = _
  have hj : j < numTab.length := h
  rw [List.getElem?_map, List.getElem?_eq_getElem hj, List.getD_eq_getElem?_getD, List.getElem?_eq_getElem hj]
  rfl
def FSigns : List V → Option V
  | [.x (.int .i64 _)] => some (.x (.bool true))
  | _ => none
set_option maxHeartbeats 2000000 in
set_option maxRecDepth 100000 in
theorem signs_fun : FunV 4 FSigns := by
  refine fun_of_run (E := envOf [(5, FAlive), (6, FSplit), (9, FNum)]) (k := 1) (envOK_of _ ⟨alive_fun, split_fun, num_fun, trivial⟩) (by kernel_rfl) Tryd.func4 rfl (fun a w => Tryd.call4 a w) Tryd.ntmps4 (by kernel_rfl) (by decide) ?_
  intro us r hF hdat
  unfold FSigns at hF
  split at hF
  case h_2 => cases hF
  rename_i which
  cases hF
  refine ⟨rfl, ?_⟩
  have c20 : ((20 : Nat) : Int) = 20 := rfl
  by_cases h1 : which < 0
  · have d1 := decide_eq_true h1
    simp (decide := true) (maxDischargeDepth := 200) only [go_sem, FAlive, d1, Tryd.results4]
  · have d1 := decide_eq_false h1
    by_cases h2 : 20 ≤ which
    · have d2 := decide_eq_true h2
      simp (decide := true) (maxDischargeDepth := 200) only [go_sem, FAlive, d1, d2, Nat.reduceAdd, c20, Tryd.results4]
    · have d2 := decide_eq_false h2
      obtain ⟨j, rfl⟩ := Int.eq_ofNat_of_zero_le (show 0 ≤ which by omega)
      have hj : j < 20 := by omega
      obtain ⟨toks, hs, hn, hk, ht⟩ := tab_facts hj
      have hl := tab_len hj
      have r1 := row_at hj
      have r2 := num_at hj
      obtain ⟨w, hw⟩ : ∃ w, signTab.getD j [] = w := ⟨_, rfl⟩
      obtain ⟨n, hnn⟩ : ∃ n, numTab.getD j 0 = n := ⟨_, rfl⟩
      rw [hw] at hs ht hl r1
      rw [hnn] at hn r2
      subst hn
      have e := FSplit_short (l := w) (by omega)
      rw [splitV_ok hs] at e
      have c2 : (0 : Int) ≤ (j : Int) := by omega
      have hlm : (((toks.map tokV).length : Nat) : Int) = ((toks.length : Nat) : Int) := by rw [List.length_map]
      simp (decide := true) (maxDischargeDepth := 200) only [go_sem, FAlive, FNum, d1, d2, Nat.reduceAdd, c20, c2, r1, r2, e, hlm, dec_refl, Tryd.results4]
      have hpre : ∀ i : Nat, (((toks.take i).map (·.2.2)).flatten).length ≤ w.length := fun i => by
        have e := congrArg (fun l : List Tk => (l.map (·.2.2)).flatten.length) (List.take_append_drop i toks)
        simp only [List.map_append, List.flatten_append, List.length_append, ht] at e
        omega
      have htl : toks.length ≤ 1000 := by
        have := split_len (l := w)
        rw [hs] at this
        simp only at this
        omega
      refine loop_of (X := {i : Nat // i ≤ toks.length}) (fun i => [(0, .x (.int .i64 (j : Int))), (4, .sl false 1 [.x (.string ⟨#[43]⟩), .x (.string ⟨#[45]⟩), .x (.string ⟨#[42]⟩), .x (.string ⟨#[47]⟩), .x (.string ⟨#[38]⟩), .x (.string ⟨#[61]⟩), .x (.string ⟨#[60]⟩), .x (.string ⟨#[62]⟩), .x (.string ⟨#[60, 62]⟩), .x (.string ⟨#[60, 61]⟩), .x (.string ⟨#[62, 61]⟩), .x (.string ⟨#[40]⟩), .x (.string ⟨#[41]⟩), .x (.string ⟨#[44]⟩), .x (.string ⟨#[58]⟩), .x (.string ⟨#[33]⟩), .x (.string ⟨#[61, 60]⟩), .x (.string ⟨#[62, 60]⟩), .x (.string ⟨#[60, 60]⟩), .x (.string ⟨#[61, 61]⟩)] none), (6, .sl (toks.map tokV).isEmpty 3 (toks.map tokV) none), (9, .x (.string (B ((toks.take i.1).map (·.2.2)).flatten))), (10, .x (.int .i64 ((i.1 : Nat) : Int)))]) (fun _ => []) (fun i => toks.length - i.1) ⟨0, by omega⟩ (by simp (decide := true) only [go_sem] <;> (repeat' first | rfl | constructor)) trivial (fun ⟨i, hi⟩ => ?_)
      by_cases hil : i < toks.length
      · obtain ⟨⟨tk, ta, tx⟩, htk⟩ := get_of hil
        have h5 : tk = 5 := hk _ (List.mem_of_getElem? htk)
        subst h5
        have d0 : decide ((i : Int) < ((toks.length : Nat) : Int)) = true := decide_eq_true (by omega)
        have k2 : (0 : Int) ≤ (i : Int) := by omega
        have k4 := count_up (i := i) (by omega)
        have k5 : (toks.map tokV)[((i : Int)).toNat]? = some (.agg [.x (.int .i64 5), .x (.int .i64 ((ta : Nat) : Int)), .x (.string (B tx))]) := by
          rw [Int.toNat_natCast, List.getElem?_map, htk]; rfl
        have e6 : ((toks.take (i + 1)).map (·.2.2)).flatten = ((toks.take i).map (·.2.2)).flatten ++ tx := by
          rw [List.take_add_one, htk]
          simp only [Option.toList_some, List.map_append, List.map_cons, List.map_nil, List.flatten_append, List.flatten_cons, List.flatten_nil, List.append_nil]
        have k6 : catV (B ((toks.take i).map (·.2.2)).flatten) (B tx) = some (.str (B ((toks.take (i + 1)).map (·.2.2)).flatten)) := by
          have := hpre (i + 1)
          rw [e6] at this ⊢
          exact cat_B (by rw [List.length_append] at this; omega)
        simp (decide := true) (maxDischargeDepth := 200) only [go_sem, hlm, d0, k2, k4, k5, k6, Tryd.results4]
        refine ⟨⟨i + 1, by omega⟩, ?_, trivial, by simp only; omega⟩
        simp (decide := true) only [go_sem]
      · have d0 : decide ((i : Int) < ((toks.length : Nat) : Int)) = false := decide_eq_false (by omega)
        have e6 : ((toks.take i).map (·.2.2)).flatten = w := by rw [List.take_of_length_le (by omega), ht]
        simp (decide := true) (maxDischargeDepth := 200) only [go_sem, hlm, d0, c2, r1, e6, dec_refl, Tryd.results4]

end Go.Proofs.YtkomcgljekfheaaDoor
