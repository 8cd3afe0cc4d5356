/- Chapter 10's laws: functions of values tell the same however these are shared out. -/
import Derived.Test.YtakcoalbidjahaaDoorMP
namespace Go.Proofs.YtakcoalbidjahaaDoor
open Go Go.RowKit
set_option linter.unusedSimpArgs false
def intsV (p : Bool × Nat × List Int) : V := .sl p.1 p.2.1 (p.2.2.map fun n => .x (.int .i64 n)) none
def encShare (p : Int × RW × (Bool × Nat × List Int)) : List V := [.x (.int .i64 p.1), rwV p.2.1, intsV p.2.2]
theorem encShare_inj (p q : Int × RW × (Bool × Nat × List Int)) (e : encShare p = encShare q) : p = q := by
  obtain ⟨a, b, c, d, f⟩ := p
  obtain ⟨a', b', c', d', f'⟩ := q
  simp only [encShare, intsV, List.cons.injEq, V.x.injEq, Value.int.injEq, V.sl.injEq, true_and, and_true] at e
  obtain ⟨h1, h2, h3, h4, h5⟩ := e
  have h6 := map_inj' (f := fun n => V.x (.int .i64 n)) (fun a b h => by simpa using h) h5
  subst h1 h3 h4 h6
  rw [rwV_inj _ _ h2]
open Classical in
noncomputable def GShare10 (p : Int × RW × (Bool × Nat × List Int)) : Option V := if inR p.1 ∧ ((p.2.1.2.2 ≠ [] → p.2.1.2.1 = 3) ∧ ∀ v ∈ p.2.1.2.2, inR v.2.1) ∧ ((p.2.2.2.2 ≠ [] → p.2.2.2.1 = 1) ∧ ∀ n ∈ p.2.2.2.2, inR n) then some (.x (.bool true)) else none
theorem int_at {l : List Int} {i : Nat} (h : i < l.length) : ∃ a, (l.map fun n => V.x (.int .i64 n))[((i : Nat) : Int).toNat]? = some (.x (.int .i64 a)) ∧ a ∈ l := by
  refine ⟨l[i], ?_, List.getElem_mem h⟩
  rw [Int.toNat_natCast, List.getElem?_map, List.getElem?_eq_getElem h]
  rfl
theorem share_at {l l' : List RW} (h : allL l = allL l') : callW ⟨#[83, 85, 77]⟩ l = callW ⟨#[83, 85, 77]⟩ l' ∧ callW ⟨#[77, 73, 78]⟩ l = callW ⟨#[77, 73, 78]⟩ l' ∧ callW ⟨#[77, 65, 88]⟩ l = callW ⟨#[77, 65, 88]⟩ l' ∧ callW ⟨#[67, 79, 85, 78, 84]⟩ l = callW ⟨#[67, 79, 85, 78, 84]⟩ l' ∧ callW ⟨#[65, 86, 71]⟩ l = callW ⟨#[65, 86, 71]⟩ l' ∧ callW ⟨#[65, 78, 68]⟩ l = callW ⟨#[65, 78, 68]⟩ l' ∧ callW ⟨#[79, 82]⟩ l = callW ⟨#[79, 82]⟩ l' ∧ callW ⟨#[67, 79, 78, 67, 65, 84]⟩ l = callW ⟨#[67, 79, 78, 67, 65, 84]⟩ l' ∧ callW ⟨#[67, 79, 85, 78, 84, 65]⟩ l = callW ⟨#[67, 79, 85, 78, 84, 65]⟩ l' := by
  refine ⟨?_, ?_, ?_, ?_, ?_, ?_, ?_, ?_, ?_⟩
  · show manyW ⟨#[83, 85, 77]⟩ (allL l) = manyW ⟨#[83, 85, 77]⟩ (allL l')
    rw [h]
  · show manyW ⟨#[77, 73, 78]⟩ (allL l) = manyW ⟨#[77, 73, 78]⟩ (allL l')
    rw [h]
  · show manyW ⟨#[77, 65, 88]⟩ (allL l) = manyW ⟨#[77, 65, 88]⟩ (allL l')
    rw [h]
  · show manyW ⟨#[67, 79, 85, 78, 84]⟩ (allL l) = manyW ⟨#[67, 79, 85, 78, 84]⟩ (allL l')
    rw [h]
  · show manyW ⟨#[65, 86, 71]⟩ (allL l) = manyW ⟨#[65, 86, 71]⟩ (allL l')
    rw [h]
  · show manyW ⟨#[65, 78, 68]⟩ (allL l) = manyW ⟨#[65, 78, 68]⟩ (allL l')
    rw [h]
  · show manyW ⟨#[79, 82]⟩ (allL l) = manyW ⟨#[79, 82]⟩ (allL l')
    rw [h]
  · show manyW ⟨#[67, 79, 78, 67, 65, 84]⟩ (allL l) = manyW ⟨#[67, 79, 78, 67, 65, 84]⟩ (allL l')
    rw [h]
  · show ((1, ((cntA (allL l) : Nat) : Int), ⟨#[]⟩) : T3) = (1, ((cntA (allL l') : Nat) : Int), ⟨#[]⟩)
    rw [h]
/-- The row that is under way. -/
def rowS (c : List T3) : V := if c = [] then .sl true 0 [] none else .sl false 3 (c.map tv) (some 57)
theorem rowS_nil : rowS [] = .sl true 0 [] none := rfl
theorem rowS_ne {c : List T3} (h : c ≠ []) : rowS c = .sl false 3 (c.map tv) (some 57) := if_neg h
theorem growV_nil0 {E : Env} {el n by' : Nat} {z : List V} (h1 : szB E.P el = some n) (hby : byB E.P el = some by') (hz : zeroB E.P el = some z) (h4 : n ≠ 0) (h5 : z.length = n)
    {v : V} (hc : v.cells.all V.cell = true) (hb : by' ≤ 140737488355328) (st : St) (d n0 : Nat) (nl : Bool) (t' : Option Nat) :
    growV E st (some d) el (.sl true n0 [] none) (.sl nl n [v] t') = some ⟨upd (strip d st.t) d (.sl false n [v] (some d)), stripB E d st.b⟩ := by
  unfold growV
  simp only [h1, hby, hz]
  rw [if_pos ⟨h4, h5, by simp, by simpa using hc, by simpa using hb, by simp⟩]
  rfl
theorem len_all {l : List RW} {r : RW} (h : r ∈ l) : r.2.2.length ≤ (allL l).length := by
  induction l with
  | nil => cases h
  | cons y l ih =>
    have e : allL (y :: l) = y.2.2 ++ allL l := rfl
    rw [e, List.length_append]
    rcases List.mem_cons.1 h with rfl | h
    · omega
    · have := ih h; omega
set_option maxHeartbeats 64000000 in
set_option maxRecDepth 100000 in
theorem share10_fun : FunV 3 (FE encShare GShare10) := by
  refine fun_of_run (E := envOf [(9, FAlive10), (10, (FE encAw GFew)), (11, (FE encNA GCall))]) (k := 3) (envOK_of _ ⟨alive10_fun, few10_fun, gcall_fun, trivial⟩) (by kernel_rfl) Tryd.func3 rfl (fun a w => Tryd.call3 a w) Tryd.ntmps3 (by kernel_rfl) (by decide) (by decide) ?_
  intro us r hF hdat
  obtain ⟨⟨a, ⟨nl, sz, l⟩, nl', sz', cs⟩, hus, hG⟩ := FE_out hF
  clear hF
  subst hus
  have hF := hG
  clear hG
  unfold GShare10 at hF
  split at hF
  case isFalse => cases hF
  rename_i hok
  cases hF
  obtain ⟨ha, ⟨hsz, hin⟩, hcz, hcin⟩ := hok
  simp only at ha hsz hin hcz hcin
  clear hdat
  refine ⟨rfl, ?_⟩
  simp only [encShare, rwV, intsV]
  have e1 : FAlive10 [] = some (.x (.bool true)) := rfl
  by_cases h1 : a < 0
  · have d1 := decide_eq_true h1
    simp (decide := true) (maxDischargeDepth := 200) only [go_sem, e1, d1, Tryd.results3]
  have d1 := decide_eq_false h1
  by_cases h2 : ((1 + 1 + 1 + 1 + 1 + 1 + 1 + 1 + 1 : Nat) : Int) ≤ a
  · have d2 := decide_eq_true h2
    simp (decide := true) (maxDischargeDepth := 200) only [go_sem, e1, d1, d2, Tryd.results3]
  have d2 := decide_eq_false h2
  by_cases h3 : (40 : Int) < (l.length : Int)
  · have d3 := decide_eq_true h3
    simp (decide := true) (maxDischargeDepth := 200) only [go_sem, List.length_map, e1, d1, d2, d3, Tryd.results3]
  have d3 := decide_eq_false h3
  by_cases h4 : (cs.length : Int) < (l.length : Int)
  · have d4 := decide_eq_true h4
    simp (decide := true) (maxDischargeDepth := 200) only [go_sem, List.length_map, e1, d1, d2, d3, d4, Tryd.results3]
  have d4 := decide_eq_false h4
  have hfw : okFew (false, 1, [(nl, sz, l)]) := ⟨fun _ => rfl, fun r hr => by rw [List.mem_singleton.1 hr]; exact ⟨hsz, hin, by simp only; omega⟩⟩
  have hfew : FE encAw GFew [.sl false 1 [.sl nl sz (l.map tv) none] none] = some (.x (.bool (fewB [(nl, sz, l)]))) := GFew_of hfw
  cases hf : fewB [(nl, sz, l)] with
  | false =>
    rw [hf] at hfew
    simp (decide := true) (maxDischargeDepth := 200) only [go_sem, List.length_map, e1, d1, d2, d3, d4, hfew, Tryd.results3]
  | true =>
  rw [hf] at hfew
  have hok2 : okAw (false, 1, [(nl, sz, l)]) := few_ok hfw hf
  simp (decide := true) (maxDischargeDepth := 200) only [go_sem, List.length_map, e1, d1, d2, d3, d4, hfew, Tryd.results3]
  refine loop_nil 9 1 67 (by simp only [go_sem]; rfl) ?_
  refine loop_of (X := {p : Nat × List RW × List T3 // p.1 ≤ l.length ∧ allL p.2.1 ++ p.2.2 = l.take p.1 ∧ (∀ r ∈ p.2.1, r.2.2 ≠ [] → r.2.1 = 3) ∧ p.2.1.length ≤ 2 * p.1}) (fun p => [(0, .x (.int .i64 a)), (1, .sl nl sz (l.map tv) none), (2, .sl nl' sz' (cs.map fun n => V.x (.int .i64 n)) none), (8, .sl false 1 [.x (.string ⟨#[83, 85, 77]⟩), .x (.string ⟨#[77, 73, 78]⟩), .x (.string ⟨#[77, 65, 88]⟩), .x (.string ⟨#[67, 79, 85, 78, 84]⟩), .x (.string ⟨#[65, 86, 71]⟩), .x (.string ⟨#[65, 78, 68]⟩), .x (.string ⟨#[79, 82]⟩), .x (.string ⟨#[67, 79, 78, 67, 65, 84]⟩), .x (.string ⟨#[67, 79, 85, 78, 84, 65]⟩)] none), (9, .sl (p.1.2.1.map rwV).isEmpty 1 (p.1.2.1.map rwV) (some 67)), (10, rowS p.1.2.2), (11, .x (.int .i64 ((p.1.1 : Nat) : Int)))]) (fun _ => []) (fun p => l.length - p.1.1) ⟨(0, [], []), Nat.zero_le _, rfl, (fun r hr => by cases hr), Nat.le_refl _⟩ (by simp (decide := true) only [go_sem, rowS_nil, List.map_nil, List.isEmpty_nil, Int.natCast_zero] <;> (repeat' first | rfl | constructor)) (by simp (decide := true) only [go_sem] <;> (repeat' first | rfl | constructor)) (fun ⟨(i, A, c), hi0, hA, hA3, hAl⟩ => ?_)
  simp only at hi0 hA hA3 hAl ⊢
  by_cases hi : i < l.length
  · have c1 : decide ((i : Int) < (l.length : Int)) = true := decide_eq_true (by omega)
    have c2 : (0 : Int) ≤ (i : Int) := by omega
    have c4 := count_up (i := i) (by omega)
    obtain ⟨cu, h2', hcm⟩ := int_at (l := cs) (i := i) (by omega)
    obtain rfl := hcz (List.ne_nil_of_mem hcm)
    obtain ⟨vk, vn, vs, q1, q2, q3, _⟩ := tv_at hi
    obtain rfl := hsz (List.ne_nil_of_mem q3)
    have h2 := h2'
    simp only [vl] at q2
    by_cases hc : c = []
    · subst hc
      rw [rowS_nil]
      have g1 := growV_nil0 (E := (envOf [(9, FAlive10), (10, (FE encAw GFew)), (11, (FE encNA GCall))])) (el := 29) (n := 3) sz29 by29 ze29 (by decide) rfl (v := V.agg [.x (.int .i64 vk), .x (.int .i64 vn), .x (.string vs)]) rfl (by decide)
      have bit : ∃ b, decide (bAnd .i64 cu 1 = 1) = b := ⟨_, rfl⟩
      obtain ⟨b, hbit⟩ := bit
      cases b with
      | true =>
        have g2 := growV_row (E := (envOf [(9, FAlive10), (10, (FE encAw GFew)), (11, (FE encNA GCall))])) (el := 22) (n := 1) sz22 by22 ze22 (by decide) rfl (es := A.map rwV) (es' := [.sl false 3 ([V.agg [.x (.int .i64 vk), .x (.int .i64 vn), .x (.string vs)]]) none, .sl true 0 [] none]) (m := 1) (fun _ => rfl) rfl (by simp only [List.length_map, List.length_cons, List.length_nil]; omega) (by simp only [List.length_map, List.length_cons, List.length_nil]; omega)
        simp (decide := true) (maxDischargeDepth := 200) only [go_sem, List.length_map, c1, c2, c4, h2, q2, g1, g2, hbit, Tryd.results3]
        refine ⟨⟨(i + 1, A ++ [(false, 3, [(vk, vn, vs)]), (true, 0, [])], []), by simp only; omega, ?_, ?_, ?_⟩, ?_, ?_, ?_⟩
        · simp only; rw [take_snoc3 q1, ← hA]; simp [allL]
        · intro r hr hne
          rcases List.mem_append.1 hr with h | h
          · exact hA3 r h hne
          · simp only [List.mem_cons, List.not_mem_nil, or_false] at h
            rcases h with rfl | rfl
            · rfl
            · exact absurd rfl hne
        · simp only [List.length_append, List.length_cons, List.length_nil]; omega
        · simp (decide := true) (maxDischargeDepth := 200) only [go_sem, rowS_nil, List.map_append, List.map_cons, List.map_nil, rwV, tv, vl]
        · simp (decide := true) (maxDischargeDepth := 200) only [go_sem]
        · simp only; omega
      | false =>
        simp (decide := true) (maxDischargeDepth := 200) only [go_sem, List.length_map, c1, c2, c4, h2, q2, g1, hbit, Tryd.results3]
        refine ⟨⟨(i + 1, A, [(vk, vn, vs)]), by simp only; omega, ?_, hA3, by simp only; omega⟩, ?_, ?_, ?_⟩
        · simp only; rw [take_snoc3 q1, ← hA]; simp [allL]
        · have hrow := rowS_ne (c := [(vk, vn, vs)]) (by simp)
          simp (decide := true) (maxDischargeDepth := 200) only [go_sem, hrow, List.map_append, List.map_cons, List.map_nil, tv, vl]
        · simp (decide := true) (maxDischargeDepth := 200) only [go_sem]
        · simp only; omega
    · rw [rowS_ne hc]
      have hcl : c.length ≤ 40 := by
        have := congrArg List.length hA
        rw [List.length_append, List.length_take] at this
        omega
      have g1 := growV_row (E := (envOf [(9, FAlive10), (10, (FE encAw GFew)), (11, (FE encNA GCall))])) (el := 29) (n := 3) sz29 by29 ze29 (by decide) rfl (es := c.map tv) (es' := [V.agg [.x (.int .i64 vk), .x (.int .i64 vn), .x (.string vs)]]) (m := 3) (fun _ => rfl) rfl (by simp only [List.length_map, List.length_cons, List.length_nil]; omega) (by simp only [List.length_map, List.length_cons, List.length_nil]; omega)
      have m1 : (c.map tv).isEmpty = false := by cases c with
        | nil => exact absurd rfl hc
        | cons _ _ => rfl
      have m2 : (c.map tv ++ [V.agg [.x (.int .i64 vk), .x (.int .i64 vn), .x (.string vs)]]).isEmpty = false := by simp
      simp only [m1, m2] at g1
      have bit : ∃ b, decide (bAnd .i64 cu 1 = 1) = b := ⟨_, rfl⟩
      obtain ⟨b, hbit⟩ := bit
      cases b with
      | true =>
        have g2 := growV_row (E := (envOf [(9, FAlive10), (10, (FE encAw GFew)), (11, (FE encNA GCall))])) (el := 22) (n := 1) sz22 by22 ze22 (by decide) rfl (es := A.map rwV) (es' := [.sl false 3 (c.map tv ++ [V.agg [.x (.int .i64 vk), .x (.int .i64 vn), .x (.string vs)]]) none, .sl true 0 [] none]) (m := 1) (fun _ => rfl) rfl (by simp only [List.length_map, List.length_cons, List.length_nil]; omega) (by simp only [List.length_map, List.length_cons, List.length_nil]; omega)
        simp (decide := true) (maxDischargeDepth := 200) only [go_sem, List.length_map, c1, c2, c4, h2, q2, g1, g2, hbit, Tryd.results3]
        refine ⟨⟨(i + 1, A ++ [(false, 3, c ++ [(vk, vn, vs)]), (true, 0, [])], []), by simp only; omega, ?_, ?_, ?_⟩, ?_, ?_, ?_⟩
        · simp only; rw [take_snoc3 q1, ← hA]; simp [allL]
        · intro r hr hne
          rcases List.mem_append.1 hr with h | h
          · exact hA3 r h hne
          · simp only [List.mem_cons, List.not_mem_nil, or_false] at h
            rcases h with rfl | rfl
            · rfl
            · exact absurd rfl hne
        · simp only [List.length_append, List.length_cons, List.length_nil]; omega
        · simp (decide := true) (maxDischargeDepth := 200) only [go_sem, rowS_nil, List.map_append, List.map_cons, List.map_nil, rwV, tv, vl]
        · simp (decide := true) (maxDischargeDepth := 200) only [go_sem]
        · simp only; omega
      | false =>
        simp (decide := true) (maxDischargeDepth := 200) only [go_sem, List.length_map, c1, c2, c4, h2, q2, g1, hbit, Tryd.results3]
        refine ⟨⟨(i + 1, A, c ++ [(vk, vn, vs)]), by simp only; omega, ?_, hA3, by simp only; omega⟩, ?_, ?_, ?_⟩
        · simp only; rw [take_snoc3 q1, ← hA]; simp [allL]
        · have hrow := rowS_ne (c := c ++ [(vk, vn, vs)]) (by simp)
          simp (decide := true) (maxDischargeDepth := 200) only [go_sem, hrow, List.map_append, List.map_cons, List.map_nil, tv, vl]
        · simp (decide := true) (maxDischargeDepth := 200) only [go_sem]
        · simp only; omega
  · obtain rfl : i = l.length := by omega
    rw [List.take_length] at hA
    have c1 : decide ((l.length : Int) < (l.length : Int)) = false := decide_eq_false (by omega)
    have hcl : c.length ≤ 40 := by
      have := congrArg List.length hA
      rw [List.length_append] at this
      omega
    have hw : a = 0 ∨ a = 1 ∨ a = 2 ∨ a = 3 ∨ a = 4 ∨ a = 5 ∨ a = 6 ∨ a = 7 ∨ a = 8 := by omega
    by_cases hc : c = []
    · subst hc
      rw [rowS_nil]
      have g3 := growV_row (E := (envOf [(9, FAlive10), (10, (FE encAw GFew)), (11, (FE encNA GCall))])) (el := 22) (n := 1) sz22 by22 ze22 (by decide) rfl (es := A.map rwV) (es' := [V.sl true 0 [] none]) (m := 1) (fun _ => rfl) rfl (by simp only [List.length_map, List.length_cons, List.length_nil]; omega) (by simp only [List.length_map, List.length_cons, List.length_nil]; omega)
      have hs := share_at (l := A ++ [(true, 0, [])]) (l' := [(nl, sz, l)]) (by rw [show allL (A ++ [(true, 0, [])]) = allL A ++ [] from by simp [allL], hA]; simp [allL])
      have hok1 : okAw (false, 1, A ++ [(true, 0, [])]) := by
        have hall : allL (A ++ [(true, 0, [])]) = l := by rw [show allL (A ++ [(true, 0, [])]) = allL A ++ [] from by simp [allL], hA]
        refine ⟨fun _ => rfl, fun r hr => ⟨?_, fun v hv => hin v ?_, ?_⟩, by simp only; rw [hall]; omega, by simp only [List.length_append, List.length_cons, List.length_nil]; omega⟩
        · rcases List.mem_append.1 hr with h | h
          · exact hA3 r h
          · rw [List.mem_singleton.1 h]; exact fun h => (by first | rfl | exact absurd rfl h)
        · rw [← hall]; exact List.mem_flatMap.2 ⟨r, hr, hv⟩
        · have := (cnt_len (A ++ [(true, 0, [])])).1
          have h8 : r.2.2.length ≤ (allL (A ++ [(true, 0, [])])).length := len_all hr
          rw [hall] at h8
          omega
      have mk : ∀ name, callW name (A ++ [(true, 0, [])]) = callW name [(nl, sz, l)] → ∃ w : T3, FE encNA GCall [.x (.string name), .sl false 1 (A.map rwV ++ [V.sl true 0 [] none]) none] = some (tv w) ∧ FE encNA GCall [.x (.string name), .sl false 1 [.sl nl sz (l.map tv) none] none] = some (tv w) := fun name h =>
        ⟨_, (by have := GCall_of (name := name) hok1; rw [h] at this; rw [List.map_append] at this; exact this), GCall_of (l := [(nl, sz, l)]) hok2⟩
      clear d1 d2 d3 d4 h1 h2 h3 h4 ha hi0 hi e1 hfew hok2 hok1
      rcases hw with rfl | rfl | rfl | rfl | rfl | rfl | rfl | rfl | rfl
      · have c77 := mk ⟨#[83, 85, 77]⟩ (hs.1)
        obtain ⟨⟨wk, wn, ws⟩, c77, c84⟩ := c77
        simp only [tv] at c77 c84
        simp (decide := true) (maxDischargeDepth := 200) only [go_sem, List.length_map, c1, g3, c77, c84, show Int.toNat 0 = 0 from rfl, Tryd.results3]
      · have c77 := mk ⟨#[77, 73, 78]⟩ (hs.2.1)
        obtain ⟨⟨wk, wn, ws⟩, c77, c84⟩ := c77
        simp only [tv] at c77 c84
        simp (decide := true) (maxDischargeDepth := 200) only [go_sem, List.length_map, c1, g3, c77, c84, show Int.toNat 1 = 1 from rfl, Tryd.results3]
      · have c77 := mk ⟨#[77, 65, 88]⟩ (hs.2.2.1)
        obtain ⟨⟨wk, wn, ws⟩, c77, c84⟩ := c77
        simp only [tv] at c77 c84
        simp (decide := true) (maxDischargeDepth := 200) only [go_sem, List.length_map, c1, g3, c77, c84, show Int.toNat 2 = 2 from rfl, Tryd.results3]
      · have c77 := mk ⟨#[67, 79, 85, 78, 84]⟩ (hs.2.2.2.1)
        obtain ⟨⟨wk, wn, ws⟩, c77, c84⟩ := c77
        simp only [tv] at c77 c84
        simp (decide := true) (maxDischargeDepth := 200) only [go_sem, List.length_map, c1, g3, c77, c84, show Int.toNat 3 = 3 from rfl, Tryd.results3]
      · have c77 := mk ⟨#[65, 86, 71]⟩ (hs.2.2.2.2.1)
        obtain ⟨⟨wk, wn, ws⟩, c77, c84⟩ := c77
        simp only [tv] at c77 c84
        simp (decide := true) (maxDischargeDepth := 200) only [go_sem, List.length_map, c1, g3, c77, c84, show Int.toNat 4 = 4 from rfl, Tryd.results3]
      · have c77 := mk ⟨#[65, 78, 68]⟩ (hs.2.2.2.2.2.1)
        obtain ⟨⟨wk, wn, ws⟩, c77, c84⟩ := c77
        simp only [tv] at c77 c84
        simp (decide := true) (maxDischargeDepth := 200) only [go_sem, List.length_map, c1, g3, c77, c84, show Int.toNat 5 = 5 from rfl, Tryd.results3]
      · have c77 := mk ⟨#[79, 82]⟩ (hs.2.2.2.2.2.2.1)
        obtain ⟨⟨wk, wn, ws⟩, c77, c84⟩ := c77
        simp only [tv] at c77 c84
        simp (decide := true) (maxDischargeDepth := 200) only [go_sem, List.length_map, c1, g3, c77, c84, show Int.toNat 6 = 6 from rfl, Tryd.results3]
      · have c77 := mk ⟨#[67, 79, 78, 67, 65, 84]⟩ (hs.2.2.2.2.2.2.2.1)
        obtain ⟨⟨wk, wn, ws⟩, c77, c84⟩ := c77
        simp only [tv] at c77 c84
        simp (decide := true) (maxDischargeDepth := 200) only [go_sem, List.length_map, c1, g3, c77, c84, show Int.toNat 7 = 7 from rfl, Tryd.results3]
      · have c77 := mk ⟨#[67, 79, 85, 78, 84, 65]⟩ (hs.2.2.2.2.2.2.2.2)
        obtain ⟨⟨wk, wn, ws⟩, c77, c84⟩ := c77
        simp only [tv] at c77 c84
        simp (decide := true) (maxDischargeDepth := 200) only [go_sem, List.length_map, c1, g3, c77, c84, show Int.toNat 8 = 8 from rfl, Tryd.results3]
    · rw [rowS_ne hc]
      have g3 := growV_row (E := (envOf [(9, FAlive10), (10, (FE encAw GFew)), (11, (FE encNA GCall))])) (el := 22) (n := 1) sz22 by22 ze22 (by decide) rfl (es := A.map rwV) (es' := [V.sl false 3 (c.map tv) none]) (m := 1) (fun _ => rfl) rfl (by simp only [List.length_map, List.length_cons, List.length_nil]; omega) (by simp only [List.length_map, List.length_cons, List.length_nil]; omega)
      have hs := share_at (l := A ++ [(false, 3, c)]) (l' := [(nl, sz, l)]) (by rw [show allL (A ++ [(false, 3, c)]) = allL A ++ c from by simp [allL], hA]; simp [allL])
      have hok1 : okAw (false, 1, A ++ [(false, 3, c)]) := by
        have hall : allL (A ++ [(false, 3, c)]) = l := by rw [show allL (A ++ [(false, 3, c)]) = allL A ++ c from by simp [allL], hA]
        refine ⟨fun _ => rfl, fun r hr => ⟨?_, fun v hv => hin v ?_, ?_⟩, by simp only; rw [hall]; omega, by simp only [List.length_append, List.length_cons, List.length_nil]; omega⟩
        · rcases List.mem_append.1 hr with h | h
          · exact hA3 r h
          · rw [List.mem_singleton.1 h]; exact fun h => (by first | rfl | exact absurd rfl h)
        · rw [← hall]; exact List.mem_flatMap.2 ⟨r, hr, hv⟩
        · have := (cnt_len (A ++ [(false, 3, c)])).1
          have h8 : r.2.2.length ≤ (allL (A ++ [(false, 3, c)])).length := len_all hr
          rw [hall] at h8
          omega
      have mk : ∀ name, callW name (A ++ [(false, 3, c)]) = callW name [(nl, sz, l)] → ∃ w : T3, FE encNA GCall [.x (.string name), .sl false 1 (A.map rwV ++ [V.sl false 3 (c.map tv) none]) none] = some (tv w) ∧ FE encNA GCall [.x (.string name), .sl false 1 [.sl nl sz (l.map tv) none] none] = some (tv w) := fun name h =>
        ⟨_, (by have := GCall_of (name := name) hok1; rw [h] at this; rw [List.map_append] at this; exact this), GCall_of (l := [(nl, sz, l)]) hok2⟩
      clear d1 d2 d3 d4 h1 h2 h3 h4 ha hi0 hi e1 hfew hok2 hok1
      rcases hw with rfl | rfl | rfl | rfl | rfl | rfl | rfl | rfl | rfl
      · have c77 := mk ⟨#[83, 85, 77]⟩ (hs.1)
        obtain ⟨⟨wk, wn, ws⟩, c77, c84⟩ := c77
        simp only [tv] at c77 c84
        simp (decide := true) (maxDischargeDepth := 200) only [go_sem, List.length_map, c1, g3, c77, c84, show Int.toNat 0 = 0 from rfl, Tryd.results3]
      · have c77 := mk ⟨#[77, 73, 78]⟩ (hs.2.1)
        obtain ⟨⟨wk, wn, ws⟩, c77, c84⟩ := c77
        simp only [tv] at c77 c84
        simp (decide := true) (maxDischargeDepth := 200) only [go_sem, List.length_map, c1, g3, c77, c84, show Int.toNat 1 = 1 from rfl, Tryd.results3]
      · have c77 := mk ⟨#[77, 65, 88]⟩ (hs.2.2.1)
        obtain ⟨⟨wk, wn, ws⟩, c77, c84⟩ := c77
        simp only [tv] at c77 c84
        simp (decide := true) (maxDischargeDepth := 200) only [go_sem, List.length_map, c1, g3, c77, c84, show Int.toNat 2 = 2 from rfl, Tryd.results3]
      · have c77 := mk ⟨#[67, 79, 85, 78, 84]⟩ (hs.2.2.2.1)
        obtain ⟨⟨wk, wn, ws⟩, c77, c84⟩ := c77
        simp only [tv] at c77 c84
        simp (decide := true) (maxDischargeDepth := 200) only [go_sem, List.length_map, c1, g3, c77, c84, show Int.toNat 3 = 3 from rfl, Tryd.results3]
      · have c77 := mk ⟨#[65, 86, 71]⟩ (hs.2.2.2.2.1)
        obtain ⟨⟨wk, wn, ws⟩, c77, c84⟩ := c77
        simp only [tv] at c77 c84
        simp (decide := true) (maxDischargeDepth := 200) only [go_sem, List.length_map, c1, g3, c77, c84, show Int.toNat 4 = 4 from rfl, Tryd.results3]
      · have c77 := mk ⟨#[65, 78, 68]⟩ (hs.2.2.2.2.2.1)
        obtain ⟨⟨wk, wn, ws⟩, c77, c84⟩ := c77
        simp only [tv] at c77 c84
        simp (decide := true) (maxDischargeDepth := 200) only [go_sem, List.length_map, c1, g3, c77, c84, show Int.toNat 5 = 5 from rfl, Tryd.results3]
      · have c77 := mk ⟨#[79, 82]⟩ (hs.2.2.2.2.2.2.1)
        obtain ⟨⟨wk, wn, ws⟩, c77, c84⟩ := c77
        simp only [tv] at c77 c84
        simp (decide := true) (maxDischargeDepth := 200) only [go_sem, List.length_map, c1, g3, c77, c84, show Int.toNat 6 = 6 from rfl, Tryd.results3]
      · have c77 := mk ⟨#[67, 79, 78, 67, 65, 84]⟩ (hs.2.2.2.2.2.2.2.1)
        obtain ⟨⟨wk, wn, ws⟩, c77, c84⟩ := c77
        simp only [tv] at c77 c84
        simp (decide := true) (maxDischargeDepth := 200) only [go_sem, List.length_map, c1, g3, c77, c84, show Int.toNat 7 = 7 from rfl, Tryd.results3]
      · have c77 := mk ⟨#[67, 79, 85, 78, 84, 65]⟩ (hs.2.2.2.2.2.2.2.2)
        obtain ⟨⟨wk, wn, ws⟩, c77, c84⟩ := c77
        simp only [tv] at c77 c84
        simp (decide := true) (maxDischargeDepth := 200) only [go_sem, List.length_map, c1, g3, c77, c84, show Int.toNat 8 = 8 from rfl, Tryd.results3]

end Go.Proofs.YtakcoalbidjahaaDoor
