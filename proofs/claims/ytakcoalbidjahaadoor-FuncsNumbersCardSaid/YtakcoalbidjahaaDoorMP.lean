/- Chapter 10's laws: what some functions of numbers are. -/
import Derived.Test.YtakcoalbidjahaaDoorMJ
namespace Go.Proofs.YtakcoalbidjahaaDoor
open Go Go.RowKit
set_option linter.unusedSimpArgs false
/-- Rows of one value each, as they are made. -/
def rowsOf (l : List T3) : List RW := l.map fun v => (false, 3, [v])
theorem rowsOf_all (l : List T3) : allL (rowsOf l) = l := by
  unfold allL rowsOf
  rw [List.flatMap_map]
  simp
theorem rowsOf_one (l : List T3) : oneL (rowsOf l) (l.length : Int) = true := by
  unfold oneL rowsOf
  rw [List.length_map, decide_eq_true rfl, Bool.true_and, List.all_eq_true]
  intro r hr
  obtain ⟨v, _, rfl⟩ := List.mem_map.1 hr
  rfl
theorem rowsOf_ok {l : List T3} (h : ∀ v ∈ l, inR v.2.1) (hl : l.length ≤ 1000000) : okAw (false, 1, rowsOf l) := by
  refine ⟨fun _ => rfl, fun r hr => ?_, by rw [rowsOf_all]; exact hl, by unfold rowsOf; rw [List.length_map]; exact hl⟩
  obtain ⟨v, hv, rfl⟩ := List.mem_map.1 hr
  exact ⟨fun _ => rfl, fun u hu => by rw [List.mem_singleton.1 hu]; exact h v hv, by simp⟩
theorem fault_num (a b : Int) : faultL [(1, a, ⟨#[]⟩)] = none ∧ faultL [(1, a, ⟨#[]⟩), (1, b, ⟨#[]⟩)] = none := by
  have h1 := right_num a
  have h2 := right_num b
  constructor <;> simp [faultL, h1, h2]
theorem numE_num (a : Int) : numE 1 a ⟨#[]⟩ = none := by
  unfold numE
  rw [if_neg (by rw [right_num]; decide), if_pos (.inr rfl)]
theorem call_sign (a : Int) : callW ⟨#[83, 73, 71, 78]⟩ (rowsOf [(1, a, ⟨#[]⟩)]) = signW a := by
  have e : callW ⟨#[83, 73, 71, 78]⟩ (rowsOf [(1, a, ⟨#[]⟩)]) = withL (allL (rowsOf [(1, a, ⟨#[]⟩)])) (one1 ⟨#[83, 73, 71, 78]⟩) := if_pos (e := (4, 6, ⟨#[]⟩)) (rowsOf_one [(1, a, ⟨#[]⟩)])
  rw [e, rowsOf_all]
  unfold withL
  rw [(fault_num a 0).1]
  show (match numE 1 a ⟨#[]⟩ with
    | some w => w
    | none => signW a) = _
  rw [numE_num]
theorem call_abs (a : Int) : callW ⟨#[65, 66, 83]⟩ (rowsOf [(1, a, ⟨#[]⟩)]) = absW a := by
  have e : callW ⟨#[65, 66, 83]⟩ (rowsOf [(1, a, ⟨#[]⟩)]) = withL (allL (rowsOf [(1, a, ⟨#[]⟩)])) (one1 ⟨#[65, 66, 83]⟩) := if_pos (e := (4, 6, ⟨#[]⟩)) (rowsOf_one [(1, a, ⟨#[]⟩)])
  rw [e, rowsOf_all]
  unfold withL
  rw [(fault_num a 0).1]
  show (match numE 1 a ⟨#[]⟩ with
    | some w => w
    | none => absW a) = _
  rw [numE_num]
theorem call_mod (a b : Int) : callW ⟨#[77, 79, 68]⟩ (rowsOf [(1, a, ⟨#[]⟩), (1, b, ⟨#[]⟩)]) = modW a b := by
  have e : callW ⟨#[77, 79, 68]⟩ (rowsOf [(1, a, ⟨#[]⟩), (1, b, ⟨#[]⟩)]) = withL (allL (rowsOf [(1, a, ⟨#[]⟩), (1, b, ⟨#[]⟩)])) (two2 ⟨#[77, 79, 68]⟩) := if_pos (e := (4, 6, ⟨#[]⟩)) (rowsOf_one [(1, a, ⟨#[]⟩), (1, b, ⟨#[]⟩)])
  rw [e, rowsOf_all]
  unfold withL
  rw [(fault_num a b).2]
  show (match numE 1 a ⟨#[]⟩ with
    | some w => w
    | none => match numE 1 b ⟨#[]⟩ with
      | some w => w
      | none => modW a b) = _
  rw [numE_num, numE_num]
theorem call_min (a b : Int) : callW ⟨#[77, 73, 78]⟩ (rowsOf [(1, a, ⟨#[]⟩), (1, b, ⟨#[]⟩)]) = (1, if b < a then b else a, ⟨#[]⟩) ∧ callW ⟨#[77, 65, 88]⟩ (rowsOf [(1, a, ⟨#[]⟩), (1, b, ⟨#[]⟩)]) = (1, if a < b then b else a, ⟨#[]⟩) := by
  have e : callW ⟨#[77, 73, 78]⟩ (rowsOf [(1, a, ⟨#[]⟩), (1, b, ⟨#[]⟩)]) = manyW ⟨#[77, 73, 78]⟩ (allL (rowsOf [(1, a, ⟨#[]⟩), (1, b, ⟨#[]⟩)])) := rfl
  have e2 : callW ⟨#[77, 65, 88]⟩ (rowsOf [(1, a, ⟨#[]⟩), (1, b, ⟨#[]⟩)]) = manyW ⟨#[77, 65, 88]⟩ (allL (rowsOf [(1, a, ⟨#[]⟩), (1, b, ⟨#[]⟩)])) := rfl
  rw [e, e2, rowsOf_all, many_no (fault_num a b).2, many_no (fault_num a b).2]
  constructor
  · show (bestL true [(1, a, ⟨#[]⟩), (1, b, ⟨#[]⟩)]).1 = _
    by_cases h : b < a
    · simp [bestL, bestStep, h]
    · simp [bestL, bestStep, h]
  · show (bestL false [(1, a, ⟨#[]⟩), (1, b, ⟨#[]⟩)]).1 = _
    by_cases h : a < b
    · simp [bestL, bestStep, h]
    · simp [bestL, bestStep, h]
theorem xor_comm (k : IntKind) (a b : Int) : bXor k a b = bXor k b a := by rw [bXor_eq, bXor_eq, BitVec.xor_comm]
theorem minus_num {a : Int} (h : inR (0 - a)) : pairW ⟨#[45]⟩ 1 0 ⟨#[]⟩ 1 a ⟨#[]⟩ = (1, 0 - a, ⟨#[]⟩) := by
  unfold pairW
  rw [right_num, right_num, if_neg (by simp), if_neg (by decide), if_neg (by decide), if_pos (.inr (.inl rfl)), if_neg (by decide)]
  unfold reckonW
  rw [if_neg (by decide), if_pos rfl]
  exact if_pos h
def FNum2 : List V → Option V
  | [.x (.int .i64 a), .x (.int .i64 b)] => if inR a ∧ inR b then some (.x (.bool true)) else none
  | _ => none
set_option maxHeartbeats 32000000 in
set_option maxRecDepth 100000 in
theorem numbers10_fun : FunV 7 FNum2 := by
  refine fun_of_run (E := envOf [(9, FAlive10), (11, (FE encNA GCall))]) (k := 2) (envOK_of _ ⟨alive10_fun, gcall_fun, trivial⟩) (by kernel_rfl) Tryd.func7 rfl (fun a w => Tryd.call7 a w) Tryd.ntmps7 (by kernel_rfl) (by decide) (by decide) ?_
  intro us r hF hdat
  unfold FNum2 at hF
  split at hF
  case h_2 => cases hF
  rename_i a b
  split at hF
  case isFalse => cases hF
  rename_i h
  obtain ⟨ha, hb⟩ := h
  cases hF
  clear hdat
  refine ⟨rfl, ?_⟩
  have e1 : FAlive10 [] = some (.x (.bool true)) := rfl
  by_cases h1 : a < -4611686018427387904
  · have d1 := decide_eq_true h1
    simp (decide := true) (maxDischargeDepth := 200) only [go_sem, e1, d1, Tryd.results7]
  have d1 := decide_eq_false h1
  by_cases h2 : (4611686018427387904 : Int) < a
  · have d2 := decide_eq_true h2
    simp (decide := true) (maxDischargeDepth := 200) only [go_sem, e1, d1, d2, Tryd.results7]
  have d2 := decide_eq_false h2
  by_cases h3 : b < -4611686018427387904
  · have d3 := decide_eq_true h3
    simp (decide := true) (maxDischargeDepth := 200) only [go_sem, e1, d1, d2, d3, Tryd.results7]
  have d3 := decide_eq_false h3
  by_cases h4 : (4611686018427387904 : Int) < b
  · have d4 := decide_eq_true h4
    simp (decide := true) (maxDischargeDepth := 200) only [go_sem, e1, d1, d2, d3, d4, Tryd.results7]
  have d4 := decide_eq_false h4
  have hx : ∀ v ∈ ([(1, a, ⟨#[]⟩)] : List T3), inR v.2.1 := fun v hv => by rw [List.mem_singleton.1 hv]; exact ha
  have hxy : ∀ v ∈ ([(1, a, ⟨#[]⟩), (1, b, ⟨#[]⟩)] : List T3), inR v.2.1 := fun v hv => by
    simp only [List.mem_cons, List.not_mem_nil, or_false] at hv
    rcases hv with rfl | rfl
    · exact ha
    · exact hb
  have cs : FE encNA GCall [.x (.string ⟨#[83, 73, 71, 78]⟩), .sl false 1 [.sl false 3 [vl 1 a ⟨#[]⟩] none] none] = some (tv (signW a)) := (GCall_of (rowsOf_ok hx (by simp))).trans (by rw [call_sign])
  have ca : FE encNA GCall [.x (.string ⟨#[65, 66, 83]⟩), .sl false 1 [.sl false 3 [vl 1 a ⟨#[]⟩] none] none] = some (tv (absW a)) := (GCall_of (rowsOf_ok hx (by simp))).trans (by rw [call_abs])
  have cm : FE encNA GCall [.x (.string ⟨#[77, 79, 68]⟩), .sl false 1 [.sl false 3 [vl 1 a ⟨#[]⟩] none, .sl false 3 [vl 1 b ⟨#[]⟩] none] none] = some (tv (modW a b)) := (GCall_of (rowsOf_ok hxy (by simp))).trans (by rw [call_mod])
  have cmn : FE encNA GCall [.x (.string ⟨#[77, 73, 78]⟩), .sl false 1 [.sl false 3 [vl 1 a ⟨#[]⟩] none, .sl false 3 [vl 1 b ⟨#[]⟩] none] none] = some (tv (1, if b < a then b else a, ⟨#[]⟩)) := (GCall_of (rowsOf_ok hxy (by simp))).trans (by rw [(call_min a b).1])
  have cmx : FE encNA GCall [.x (.string ⟨#[77, 65, 88]⟩), .sl false 1 [.sl false 3 [vl 1 a ⟨#[]⟩] none, .sl false 3 [vl 1 b ⟨#[]⟩] none] none] = some (tv (1, if a < b then b else a, ⟨#[]⟩)) := (GCall_of (rowsOf_ok hxy (by simp))).trans (by rw [(call_min a b).2])
  obtain ⟨sn, hsn, an, han, h11, h12, hsa⟩ : ∃ sn, signW a = (1, sn, ⟨#[]⟩) ∧ ∃ an, absW a = (1, an, ⟨#[]⟩) ∧ decide (sn < -1) = false ∧ decide ((1 : Int) < sn) = false ∧ bWrap .i64 (sn * an) = a := by
    unfold signW absW
    by_cases h0 : a < 0
    · rw [if_pos h0, if_pos h0]
      refine ⟨-1, rfl, 0 - a, minus_num (by unfold inR; omega), by decide, by decide, ?_⟩
      rw [bwrap_of (by unfold inR at *; omega)]; omega
    · rw [if_neg h0, if_neg h0]
      by_cases h5 : 0 < a
      · rw [if_pos h5]
        refine ⟨1, rfl, a, rfl, by decide, by decide, ?_⟩
        rw [bwrap_of (by unfold inR at *; omega)]; omega
      · rw [if_neg h5]
        refine ⟨0, rfl, a, rfl, by decide, by decide, ?_⟩
        rw [bwrap_of (by unfold inR at *; omega)]; omega
  rw [hsn] at cs
  rw [han] at ca
  have hmm : ∃ lo hi, (if b < a then b else a) = lo ∧ (if a < b then b else a) = hi ∧ decide (hi < lo) = false ∧ (decide (lo = a) = true ∨ decide (lo = a) = false ∧ decide (lo = b) = true) ∧ bXor .i64 lo hi = bXor .i64 a b := by
    by_cases h5 : b < a
    · rw [if_pos h5, if_neg (by omega)]
      exact ⟨b, a, rfl, rfl, decide_eq_false (by omega), .inr ⟨decide_eq_false (by omega), decide_eq_true rfl⟩, xor_comm _ _ _⟩
    · rw [if_neg h5]
      by_cases h6 : a < b
      · rw [if_pos h6]
        exact ⟨a, b, rfl, rfl, decide_eq_false (by omega), .inl (decide_eq_true rfl), rfl⟩
      · rw [if_neg h6]
        have : a = b := by omega
        subst this
        exact ⟨a, a, rfl, rfl, decide_eq_false (by omega), .inl (decide_eq_true rfl), rfl⟩
  obtain ⟨lo, hi, e5, e6, m1, m2, m3⟩ := hmm
  rw [e5] at cmn
  rw [e6] at cmx
  by_cases hb0 : b = 0
  · have e7 : modW a b = (4, 2, ⟨#[]⟩) := by unfold modW; rw [if_pos hb0]
    rw [e7] at cm
    have d5 := decide_eq_true hb0
    rcases m2 with m2 | ⟨m2, m2'⟩
    · simp (decide := true) (maxDischargeDepth := 200) only [go_sem, e1, d1, d2, d3, d4, cs, ca, cm, cmn, cmx, h11, h12, hsa, m1, m2, m3, d5, Tryd.results7]
    · simp (decide := true) (maxDischargeDepth := 200) only [go_sem, e1, d1, d2, d3, d4, cs, ca, cm, cmn, cmx, h11, h12, hsa, m1, m2, m2', m3, d5, Tryd.results7]
  · have e7 : modW a b = (1, a.tmod b, ⟨#[]⟩) := by
      unfold modW
      rw [if_neg hb0]
      by_cases h7 : b = -1
      · rw [if_pos h7, h7, Int.tmod_neg, Int.tmod_one]
      · rw [if_neg h7]
    rw [e7] at cm
    have d5 := decide_eq_false hb0
    rcases m2 with m2 | ⟨m2, m2'⟩
    · simp (decide := true) (maxDischargeDepth := 200) only [go_sem, e1, d1, d2, d3, d4, cs, ca, cm, cmn, cmx, h11, h12, hsa, m1, m2, m3, d5, hb0, Tryd.results7]
    · simp (decide := true) (maxDischargeDepth := 200) only [go_sem, e1, d1, d2, d3, d4, cs, ca, cm, cmn, cmx, h11, h12, hsa, m1, m2, m2', m3, d5, hb0, Tryd.results7]

end Go.Proofs.YtakcoalbidjahaaDoor

/- Chapter 10's laws: the parts of a text. -/
namespace Go.Proofs.YtakcoalbidjahaaDoor
open Go Go.RowKit
set_option linter.unusedSimpArgs false
theorem right_txt {s : ByteArray} (h : s.size ≤ 200) : rightB 2 0 s = true := by
  simp [rightB]
  omega
theorem show_txt {s : ByteArray} (h : s.size ≤ 200) : showB 2 0 s = s := by
  unfold showB
  rw [if_pos (right_txt h), if_neg (by decide), if_pos rfl]
theorem fault_tn {s : ByteArray} (h : s.size ≤ 200) (a : Int) : faultL [(2, 0, s), (1, a, ⟨#[]⟩)] = none := by
  have h1 := right_txt h
  have h2 := right_num a
  simp [faultL, h1, h2]
theorem fault_tnn {s : ByteArray} (h : s.size ≤ 200) (a b : Int) : faultL [(2, 0, s), (1, a, ⟨#[]⟩), (1, b, ⟨#[]⟩)] = none := by
  have h1 := right_txt h
  have h2 := right_num a
  have h3 := right_num b
  simp [faultL, h1, h2, h3]
theorem fault_tt {s t : ByteArray} (h : s.size ≤ 200) (h' : t.size ≤ 200) : faultL [(2, 0, s), (2, 0, t)] = none := by
  have h1 := right_txt h
  have h2 := right_txt h'
  simp [faultL, h1, h2]
theorem call_side {name s : ByteArray} {n : Int} (hs : s.size ≤ 200) (h0 : 0 ≤ n) (hn : name = ⟨#[76, 69, 70, 84]⟩ ∨ name = ⟨#[82, 73, 71, 72, 84]⟩) : callW name (rowsOf [(2, 0, s), (1, n, ⟨#[]⟩)]) = sideT name s n := by
  have e : callW name (rowsOf [(2, 0, s), (1, n, ⟨#[]⟩)]) = withL (allL (rowsOf [(2, 0, s), (1, n, ⟨#[]⟩)])) (two2 name) := by
    rcases hn with rfl | rfl
    · exact if_pos (e := (4, 6, ⟨#[]⟩)) (rowsOf_one [(2, 0, s), (1, n, ⟨#[]⟩)])
    · exact if_pos (e := (4, 6, ⟨#[]⟩)) (rowsOf_one [(2, 0, s), (1, n, ⟨#[]⟩)])
  rw [e, rowsOf_all]
  unfold withL
  rw [fault_tn hs n]
  show twoW name (2, 0, s) (1, n, ⟨#[]⟩) = _
  have e2 : twoW name (2, 0, s) (1, n, ⟨#[]⟩) = (match numE 1 n ⟨#[]⟩ with
    | some w => w
    | none => if n < 0 then (4, 3, ⟨#[]⟩) else leftW name (showB 2 0 s) n) := by rcases hn with rfl | rfl <;> rfl
  rw [e2, numE_num, show_txt hs]
  simp only
  rw [if_neg (by omega), left_same hs h0 hn]
theorem call_mid {s : ByteArray} {p n : Int} (hs : s.size ≤ 200) (h0 : 1 ≤ p) (h1 : 0 ≤ n) : callW ⟨#[77, 73, 68]⟩ (rowsOf [(2, 0, s), (1, p, ⟨#[]⟩), (1, n, ⟨#[]⟩)]) = midT s p n := by
  have e : callW ⟨#[77, 73, 68]⟩ (rowsOf [(2, 0, s), (1, p, ⟨#[]⟩), (1, n, ⟨#[]⟩)]) = withL (allL (rowsOf [(2, 0, s), (1, p, ⟨#[]⟩), (1, n, ⟨#[]⟩)])) mid3 := if_pos (e := (4, 6, ⟨#[]⟩)) (rowsOf_one [(2, 0, s), (1, p, ⟨#[]⟩), (1, n, ⟨#[]⟩)])
  rw [e, rowsOf_all]
  unfold withL
  rw [fault_tnn hs p n]
  show (match numE 1 p ⟨#[]⟩ with
    | some w => w
    | none => match numE 1 n ⟨#[]⟩ with
      | some w => w
      | none => if p < 1 ∨ n < 0 then (4, 3, ⟨#[]⟩) else textW (partS (showB 2 0 s) (p - 1) n)) = _
  rw [numE_num, numE_num, show_txt hs]
  simp only
  rw [if_neg (by omega), midT_same hs h0 h1]
theorem call_find {s t : ByteArray} (hs : s.size ≤ 200) (ht : t.size ≤ 200) : callW ⟨#[70, 73, 78, 68]⟩ (rowsOf [(2, 0, s), (2, 0, t)]) = findS s t := by
  have e : callW ⟨#[70, 73, 78, 68]⟩ (rowsOf [(2, 0, s), (2, 0, t)]) = withL (allL (rowsOf [(2, 0, s), (2, 0, t)])) (two2 ⟨#[70, 73, 78, 68]⟩) := if_pos (e := (4, 6, ⟨#[]⟩)) (rowsOf_one [(2, 0, s), (2, 0, t)])
  rw [e, rowsOf_all]
  unfold withL
  rw [fault_tt hs ht]
  show findS (showB 2 0 s) (showB 2 0 t) = _
  rw [show_txt hs, show_txt ht]
theorem sub_join {s : ByteArray} {m : Int} (h0 : 0 ≤ m) (h1 : m ≤ s.size) : subV s 0 m ++ subV s m s.size = s := by
  obtain ⟨i, rfl⟩ := Int.eq_ofNat_of_zero_le h0
  have hs : s.data.toList.length = s.size := rfl
  apply ByteArray.ext
  apply Array.toList_inj.1
  rw [app_bytes, show ((0 : Int)) = ((0 : Nat) : Int) from rfl, sub_data, sub_data, List.drop_zero, ← hs, List.take_length, List.take_append_drop]
/-- What is a part is found, not behind where it is. -/
theorem find_part {s c : ByteArray} {q : Nat} (hq : q + c.size ≤ s.size) (hc : subV s q ((q : Int) + c.size) = c) : ∃ i : Nat, findS c s = (1, ((i + 1 : Nat) : Int), ⟨#[]⟩) ∧ i ≤ q ∧ i + c.size ≤ s.size ∧ subV s i ((i : Int) + c.size) = c := by
  unfold findS
  cases h : (List.range (s.size + 1 - c.size)).find? (hitB c s) with
  | some i =>
    obtain ⟨h1, h2, h3⟩ := List.find?_range_eq_some.1 h
    have h2 := List.mem_range.1 h2
    refine ⟨i, rfl, ?_, by omega, of_decide_eq_true h1⟩
    rcases Nat.lt_or_ge q i with hlt | hge
    · have h4 := h3 q hlt
      have h5 : hitB c s q = true := decide_eq_true hc
      rw [h5] at h4
      cases h4
    · exact hge
  | none =>
    have h1 := List.find?_range_eq_none.1 h q (by omega)
    have h5 : hitB c s q = true := decide_eq_true hc
    rw [h5] at h1
    cases h1
/-- MID's text is a part, from a place on that is not behind the one asked for. -/
theorem mid_part {s : ByteArray} {p n : Int} (h0 : 1 ≤ p) (h1 : 0 ≤ n) : ∃ (c : ByteArray) (q : Nat), midT s p n = (2, 0, c) ∧ c.size ≤ s.size ∧ (q : Int) ≤ p - 1 ∧ q + c.size ≤ s.size ∧ subV s q ((q : Int) + c.size) = c := by
  unfold midT
  have m1 := minI_le (p - 1) (s.size : Int)
  obtain ⟨q, hq⟩ : ∃ q : Nat, minI (p - 1) (s.size : Int) = (q : Int) := ⟨(minI (p - 1) (s.size : Int)).toNat, by omega⟩
  rw [hq] at m1 ⊢
  have hz := sub_size (s := s) (l := q) (h := s.size) (by omega) (by omega) (by omega)
  have m2 := minI_le n ((subV s q s.size).size : Int)
  obtain ⟨r, hr⟩ : ∃ r : Nat, minI n ((subV s q s.size).size : Int) = (r : Int) := ⟨(minI n ((subV s q s.size).size : Int)).toNat, by omega⟩
  rw [hr] at m2 ⊢
  have e := sub_sub (s := s) (p := q) (q := r) (r := s.size) (by omega) (by omega) (by omega) rfl
  rw [e]
  have hz2 := sub_size (s := s) (l := q) (h := (q : Int) + r) (by omega) (by omega) (by omega)
  refine ⟨_, q, rfl, by omega, by omega, by omega, ?_⟩
  congr 1
  omega
def FTexts10 : List V → Option V
  | [.x (.string _), .x (.int .i64 a), .x (.int .i64 b)] => if inR a ∧ inR b then some (.x (.bool true)) else none
  | _ => none
set_option maxHeartbeats 32000000 in
set_option maxRecDepth 100000 in
theorem texts10_fun : FunV 4 FTexts10 := by
  refine fun_of_run (E := envOf [(9, FAlive10), (11, (FE encNA GCall))]) (k := 3) (envOK_of _ ⟨alive10_fun, gcall_fun, trivial⟩) (by kernel_rfl) Tryd.func4 rfl (fun a w => Tryd.call4 a w) Tryd.ntmps4 (by kernel_rfl) (by decide) (by decide) ?_
  intro us r hF hdat
  unfold FTexts10 at hF
  split at hF
  case h_2 => cases hF
  rename_i s n p
  split at hF
  case isFalse => cases hF
  rename_i h
  obtain ⟨hn, hp⟩ := h
  cases hF
  clear hdat
  refine ⟨rfl, ?_⟩
  have e1 : FAlive10 [] = some (.x (.bool true)) := rfl
  by_cases h1 : (200 : Int) < (s.size : Int)
  · have d1 := decide_eq_true h1
    simp (decide := true) (maxDischargeDepth := 200) only [go_sem, e1, d1, Tryd.results4]
  have d1 := decide_eq_false h1
  by_cases h2 : n < 0
  · have d2 := decide_eq_true h2
    simp (decide := true) (maxDischargeDepth := 200) only [go_sem, e1, d1, d2, Tryd.results4]
  have d2 := decide_eq_false h2
  by_cases h3 : (300 : Int) < n
  · have d3 := decide_eq_true h3
    simp (decide := true) (maxDischargeDepth := 200) only [go_sem, e1, d1, d2, d3, Tryd.results4]
  have d3 := decide_eq_false h3
  by_cases h4 : p < 1
  · have d4 := decide_eq_true h4
    simp (decide := true) (maxDischargeDepth := 200) only [go_sem, e1, d1, d2, d3, d4, Tryd.results4]
  have d4 := decide_eq_false h4
  by_cases h5 : (300 : Int) < p
  · have d5 := decide_eq_true h5
    simp (decide := true) (maxDischargeDepth := 200) only [go_sem, e1, d1, d2, d3, d4, d5, Tryd.results4]
  have d5 := decide_eq_false h5
  have hs : s.size ≤ 200 := by omega
  obtain ⟨m, hm, hm0, hm1⟩ : ∃ m, (if (s.size : Int) < n then (s.size : Int) else n) = m ∧ 0 ≤ m ∧ m ≤ s.size := ⟨_, rfl, by split <;> omega, by split <;> omega⟩
  have w1 : bWrap .i64 ((s.size : Int) - m) = (s.size : Int) - m := bwrap_of (by unfold inR; omega)
  have hin2 : ∀ a, inR a → ∀ v ∈ ([(2, 0, s), (1, a, ⟨#[]⟩)] : List T3), inR v.2.1 := fun a ha v hv => by
    simp only [List.mem_cons, List.not_mem_nil, or_false] at hv
    rcases hv with rfl | rfl
    · exact inR_0
    · exact ha
  have hin3 : ∀ v ∈ ([(2, 0, s), (1, p, ⟨#[]⟩), (1, n, ⟨#[]⟩)] : List T3), inR v.2.1 := fun v hv => by
    simp only [List.mem_cons, List.not_mem_nil, or_false] at hv
    rcases hv with rfl | rfl | rfl
    · exact inR_0
    · exact hp
    · exact hn
  have mn := minI_le n (s.size : Int)
  have emn : minI n (s.size : Int) = m := by rw [← hm]; unfold minI; rfl
  have eA : sideT ⟨#[76, 69, 70, 84]⟩ s n = (2, 0, subV s 0 m) := by unfold sideT; rw [if_pos rfl, emn]
  have emr : minI ((s.size : Int) - m) (s.size : Int) = (s.size : Int) - m := by unfold minI; split <;> omega
  have eB : sideT ⟨#[82, 73, 71, 72, 84]⟩ s ((s.size : Int) - m) = (2, 0, subV s m s.size) := by
    unfold sideT
    rw [if_neg (by decide), emr, show (s.size : Int) - ((s.size : Int) - m) = m from by omega]
  obtain ⟨c, q, eC, hcs, hqp, hqc, hcq⟩ := mid_part (s := s) (p := p) (n := n) (by omega) (by omega)
  have hc200 : c.size ≤ 200 := by omega
  obtain ⟨i, eF, hiq, hic, hci⟩ := find_part hqc hcq
  have cA : FE encNA GCall [.x (.string ⟨#[76, 69, 70, 84]⟩), .sl false 1 [.sl false 3 [vl 2 0 s] none, .sl false 3 [vl 1 n ⟨#[]⟩] none] none] = some (tv (2, 0, subV s 0 m)) := (GCall_of (rowsOf_ok (hin2 n hn) (by simp))).trans (by rw [call_side hs (by omega) (.inl rfl), eA])
  have cB : FE encNA GCall [.x (.string ⟨#[82, 73, 71, 72, 84]⟩), .sl false 1 [.sl false 3 [vl 2 0 s] none, .sl false 3 [vl 1 ((s.size : Int) - m) ⟨#[]⟩] none] none] = some (tv (2, 0, subV s m s.size)) := (GCall_of (rowsOf_ok (hin2 ((s.size : Int) - m) (by unfold inR; omega)) (by simp))).trans (by rw [call_side hs (by omega) (.inr rfl), eB])
  have cC : FE encNA GCall [.x (.string ⟨#[77, 73, 68]⟩), .sl false 1 [.sl false 3 [vl 2 0 s] none, .sl false 3 [vl 1 p ⟨#[]⟩] none, .sl false 3 [vl 1 n ⟨#[]⟩] none] none] = some (tv (2, 0, c)) := (GCall_of (rowsOf_ok hin3 (by simp))).trans (by rw [call_mid hs (by omega) (by omega), eC])
  have cF : FE encNA GCall [.x (.string ⟨#[70, 73, 78, 68]⟩), .sl false 1 [.sl false 3 [vl 2 0 c] none, .sl false 3 [vl 2 0 s] none] none] = some (tv (1, ((i + 1 : Nat) : Int), ⟨#[]⟩)) := (GCall_of (l := rowsOf [(2, 0, c), (2, 0, s)]) (rowsOf_ok (fun v hv => by
    simp only [List.mem_cons, List.not_mem_nil, or_false] at hv
    rcases hv with rfl | rfl <;> exact inR_0) (by simp))).trans (by rw [call_find hc200 hs, eF])
  have hsz1 := sub_size (s := s) (l := 0) (h := m) (by omega) (by omega) (by omega)
  have hsz2 := sub_size (s := s) (l := m) (h := s.size) (by omega) (by omega) (by omega)
  have ej : catV (subV s 0 m) (subV s m s.size) = some (.str s) := by rw [catV_ok (by omega), sub_join hm0 hm1]
  have g1 : decide (((i + 1 : Nat) : Int) < 1) = false := decide_eq_false (by omega)
  have g2 : decide (p < ((i + 1 : Nat) : Int)) = false := decide_eq_false (by omega)
  have w2 : bWrap .i64 (((i + 1 : Nat) : Int) - 1) = (i : Int) := by rw [bwrap_of (by unfold inR; omega)]; omega
  have w3 : bWrap .i64 ((i : Int) + (c.size : Int)) = (i : Int) + c.size := bwrap_of (by unfold inR; omega)
  have g3 : decide ((s.size : Int) < (i : Int) + c.size) = false := decide_eq_false (by omega)
  have g4 : (0 : Int) ≤ (i : Int) := by omega
  have g5 : (i : Int) ≤ (i : Int) + c.size := by omega
  have g6 : (i : Int) + c.size ≤ (s.size : Int) := by omega
  by_cases h6 : (s.size : Int) < n
  · have d6 := decide_eq_true h6
    rw [if_pos h6] at hm
    subst hm
    simp (decide := true) (maxDischargeDepth := 200) only [go_sem, e1, d1, d2, d3, d4, d5, d6, w1, cA, cB, cC, cF, ej, g1, g2, w2, w3, g3, g4, g5, g6, hci, Tryd.results4]
  · have d6 := decide_eq_false h6
    rw [if_neg h6] at hm
    subst hm
    simp (decide := true) (maxDischargeDepth := 200) only [go_sem, e1, d1, d2, d3, d4, d5, d6, w1, cA, cB, cC, cF, ej, g1, g2, w2, w3, g3, g4, g5, g6, hci, Tryd.results4]

end Go.Proofs.YtakcoalbidjahaaDoor
