/- Rows of cells: package addr, the reference and the law's own helpers, as functions of plain data. -/
import Derived.Test.YtcolepbcibidaaaDoorAdE
import Derived.Test.YtcolepbcibidaaaDoorLClone
namespace Go.Proofs.YtcolepbcibidaaaDoor
open Go Go.RowKit
set_option linter.unusedSimpArgs false

abbrev C3 := ByteArray × Int × Int
def cellV (p : C3) : V := .agg [.x (.string p.1), .x (.int .i64 p.2.1), .x (.int .i64 p.2.2)]
def cellsOf : List V → Option (List C3)
  | [] => some []
  | .agg [.x (.string s), .x (.int .i64 c), .x (.int .i64 r)] :: l => match cellsOf l with
    | some q => some ((s, c, r) :: q)
    | none => none
  | _ => none
theorem cellsOf_is : ∀ {es : List V} {l : List C3}, cellsOf es = some l → es = l.map cellV
  | [], l, h => by cases h; rfl
  | e :: es, l, h => by
    unfold cellsOf at h
    split at h
    · cases ‹e :: es = []›
    · rename_i s c r l' he
      cases he
      split at h
      · rename_i q hq
        cases h
        rw [cellsOf_is hq]
        rfl
      · cases h
    · cases h
theorem cellsOf_map : ∀ l : List C3, cellsOf (l.map cellV) = some l
  | [] => rfl
  | (s, c, r) :: l => by
    show (match cellsOf (l.map cellV) with | some q => some ((s, c, r) :: q) | none => none) = _
    rw [cellsOf_map l]
/-- Are two cells one? -/
def eqC (p q : C3) : Bool := decide (p = q)
theorem eq3 (s : ByteArray) (c r : Int) (s' : ByteArray) (c' r' : Int) : (decide (s = s') && (decide (c = c') && decide (r = r'))) = eqC (s, c, r) (s', c', r') := by
  unfold eqC
  rw [Bool.eq_iff_iff]
  simp [Prod.mk.injEq]
theorem cell_at {l : List C3} {i : Nat} {p : C3} (h : l[i]? = some p) : (l.map cellV)[((i : Int)).toNat]? = some (cellV p) := by
  rw [Int.toNat_natCast, List.getElem?_map, h]; rfl
theorem cellV_mk (p : C3) : cellV p = .agg [.x (.string p.1), .x (.int .i64 p.2.1), .x (.int .i64 p.2.2)] := rfl
theorem getC {l : List C3} {i : Nat} (h : i < l.length) : ∃ p, l[i]? = some p := ⟨_, List.getElem?_eq_getElem h⟩

def FHas : List V → Option V
  | [.sl _ 3 es none, .agg [.x (.string s), .x (.int .i64 c), .x (.int .i64 r)]] => match cellsOf es with
    | some l => if l.length ≤ 1000000 then some (.x (.bool (l.any fun p => eqC p (s, c, r)))) else none
    | none => none
  | _ => none
set_option maxHeartbeats 2000000 in
set_option maxRecDepth 100000 in
theorem has_fun : FunV 25 FHas := by
  refine fun_of_run (E := envOf []) (k := 2) (envOK_of _ trivial) (by kernel_rfl) Tryd.func25 rfl (fun a w => Tryd.call25 a w) Tryd.ntmps25 (by kernel_rfl) (by decide) ?_
  intro us r hF hdat
  unfold FHas at hF
  split at hF
  case h_2 => cases hF
  rename_i nl es s c r
  split at hF
  case h_2 => cases hF
  rename_i l hl
  split at hF
  case isFalse => cases hF
  rename_i hle
  cases hF
  refine ⟨rfl, ?_⟩
  obtain rfl := cellsOf_is hl
  clear hl
  have hsz : (((l.map cellV).length : Nat) : Int) = (l.length : Int) := by rw [List.length_map]
  simp (decide := true) (maxDischargeDepth := 200) only [go_sem, Tryd.results25]
  refine loop_of (X := {i : Nat // i ≤ l.length ∧ ∀ (j : Nat) (p : C3), j < i → l[j]? = some p → eqC p (s, c, r) = false}) (fun i => [(0, .sl nl 3 (l.map cellV) none), (3, .ptr 3 0), (4, .x (.bool false)), (5, .x (.int .i64 i.1))]) (fun _ => [(3, [.x (.string s), .x (.int .i64 c), .x (.int .i64 r)])]) (fun i => l.length - i.1) ⟨0, by omega, fun j k hj => by omega⟩ (by simp (decide := true) only [go_sem]; rfl) (by simp (decide := true) only [go_sem]) (fun ⟨i, hi, hz⟩ => ?_)
  by_cases hil : i < l.length
  · obtain ⟨⟨s1, c1, r1⟩, hb⟩ := getC hil
    have d0 : decide ((i : Int) < (l.length : Int)) = true := decide_eq_true (by omega)
    have k2 : (0 : Int) ≤ (i : Int) := by omega
    have k4 := count_up (i := i) (by omega)
    have k5 := cell_at hb
    cases hq : eqC (s1, c1, r1) (s, c, r)
    · simp (decide := true) (maxDischargeDepth := 200) only [go_sem, hsz, d0, k2, k4, k5, cellV_mk, eq3, hq, Tryd.results25]
      refine ⟨⟨i + 1, by omega, fun j p hj hp => ?_⟩, ?_, ?_, by simp only; omega⟩
      · by_cases hji : j = i
        · subst hji; rw [hb] at hp; cases hp; exact hq
        · exact hz j p (by omega) hp
      · simp (decide := true) only [go_sem]
      · simp (decide := true) only [go_sem]
    · have e : (l.any fun p => eqC p (s, c, r)) = true := List.any_eq_true.2 ⟨_, List.mem_of_getElem? hb, hq⟩
      simp (decide := true) (maxDischargeDepth := 200) only [go_sem, hsz, d0, k2, k4, k5, cellV_mk, eq3, hq, e, Tryd.results25]
  · have d0 : decide ((i : Int) < (l.length : Int)) = false := decide_eq_false (by omega)
    have e : (l.any fun p => eqC p (s, c, r)) = false := by
      rw [List.any_eq_false]
      intro p hp
      obtain ⟨j, hj⟩ := List.getElem?_of_mem hp
      simp [hz j p (by have := (List.getElem?_eq_some_iff.1 hj).1; omega) hj]
    simp (decide := true) (maxDischargeDepth := 200) only [go_sem, hsz, d0, e, Tryd.results25]


def FSame : List V → Option V
  | [.sl _ _ es none, .sl _ _ es' none] => match cellsOf es, cellsOf es' with
    | some l, some l' => if l.length ≤ 1000000 then some (.x (.bool (decide (l = l')))) else none
    | _, _ => none
  | _ => none

theorem flat_sz {m : Lim} {w : World} {v : Value} {nl : Bool} {sz : Nat} {l : List C3} {tok : Option Nat} : Rd m w v (.sl nl sz (l.map cellV) tok) → l = [] ∨ sz = 3 := by
  intro h
  cases l with
  | nil => exact .inl rfl
  | cons p l =>
    right
    cases h with
    | sl blk off cap _ es tok c hb hcap hsz hc hm hr => exact (hsz 0 (cellV p) rfl).symm
def FSame3 : List V → Option V
  | [.sl _ sz es none, .sl _ sz' es' none] => match cellsOf es, cellsOf es' with
    | some l, some l' => if l.length ≤ 1000000 ∧ (l = [] ∨ sz = 3) ∧ (l' = [] ∨ sz' = 3) then some (.x (.bool (decide (l = l')))) else none
    | _, _ => none
  | _ => none
set_option maxHeartbeats 4000000 in
set_option maxRecDepth 100000 in
theorem same_fun : FunV 18 FSame3 := by
  refine fun_of_run (E := envOf []) (k := 2) (envOK_of _ trivial) (by kernel_rfl) Tryd.func18 rfl (fun a w => Tryd.call18 a w) Tryd.ntmps18 (by kernel_rfl) (by decide) ?_
  intro us r hF hdat
  unfold FSame3 at hF
  split at hF
  case h_2 => cases hF
  rename_i nl sz es nl' sz' es'
  split at hF
  case h_2 => cases hF
  rename_i l l' hl hl'
  split at hF
  case isFalse => cases hF
  rename_i hle
  obtain ⟨hle, hz1, hz2⟩ := hle
  cases hF
  refine ⟨rfl, ?_⟩
  obtain rfl := cellsOf_is hl
  obtain rfl := cellsOf_is hl'
  clear hl hl'
  have hsz : (((l.map cellV).length : Nat) : Int) = (l.length : Int) := by rw [List.length_map]
  have hsz' : (((l'.map cellV).length : Nat) : Int) = (l'.length : Int) := by rw [List.length_map]
  by_cases hlen : l.length = l'.length
  · have d1 : decide ((l.length : Int) = (l'.length : Int)) = true := decide_eq_true (by omega)
    simp (decide := true) (maxDischargeDepth := 200) only [go_sem, hsz, hsz', d1, Tryd.results18]
    refine loop_of (X := {i : Nat // i ≤ l.length ∧ ∀ (j : Nat), j < i → l[j]? = l'[j]?}) (fun i => [(0, .sl nl sz (l.map cellV) none), (1, .sl nl' sz' (l'.map cellV) none), (4, .x (.bool false)), (5, .x (.int .i64 i.1))]) (fun _ => []) (fun i => l.length - i.1) ⟨0, by omega, fun j hj => by omega⟩ (by simp (decide := true) only [go_sem]; rfl) trivial (fun ⟨i, hi, hz⟩ => ?_)
    by_cases hil : i < l.length
    · obtain ⟨⟨s1, c1, r1⟩, hb⟩ := getC hil
      obtain ⟨⟨s2, c2, r2⟩, hb'⟩ := getC (l := l') (i := i) (by omega)
      obtain rfl := hz1.resolve_left (fun e => by rw [e] at hil; simp at hil)
      obtain rfl := hz2.resolve_left (fun e => by rw [e] at hb'; simp at hb')
      have d0 : decide ((i : Int) < (l.length : Int)) = true := decide_eq_true (by omega)
      have k2 : (0 : Int) ≤ (i : Int) := by omega
      have k4 := count_up (i := i) (by omega)
      have k5 := cell_at hb
      have k6 := cell_at hb'
      cases hq : eqC (s1, c1, r1) (s2, c2, r2)
      · have e : decide (l = l') = false := decide_eq_false (fun hh => by
          rw [hh, hb'] at hb
          cases hb
          simp [eqC] at hq)
        simp (decide := true) (maxDischargeDepth := 200) only [go_sem, hsz, hsz', d0, k2, k4, k5, k6, cellV_mk, eq3, hq, e, Tryd.results18]
      · simp (decide := true) (maxDischargeDepth := 200) only [go_sem, hsz, hsz', d0, k2, k4, k5, k6, cellV_mk, eq3, hq, Tryd.results18]
        refine ⟨⟨i + 1, by omega, fun j hj => ?_⟩, ?_, trivial, by simp only; omega⟩
        · by_cases hji : j = i
          · subst hji; rw [hb, hb', of_decide_eq_true hq]
          · exact hz j (by omega)
        · simp (decide := true) only [go_sem]
    · have d0 : decide ((i : Int) < (l.length : Int)) = false := decide_eq_false (by omega)
      have e : decide (l = l') = true := decide_eq_true (List.ext_getElem? (fun j => by
        rcases Nat.lt_or_ge j i with hj | hj
        · exact hz j hj
        · rw [List.getElem?_eq_none (by omega), List.getElem?_eq_none (by omega)]))
      simp (decide := true) (maxDischargeDepth := 200) only [go_sem, hsz, hsz', d0, e, Tryd.results18]
  · have d1 : decide ((l.length : Int) = (l'.length : Int)) = false := decide_eq_false (by omega)
    have e : decide (l = l') = false := decide_eq_false (fun hh => hlen (by rw [hh]))
    simp (decide := true) (maxDischargeDepth := 200) only [go_sem, hsz, hsz', d1, e, Tryd.results18]


/-- A row of cells of a range. -/
def rowC (s : ByteArray) (c r : Int) (k : Nat) : List C3 := (List.range k).map fun (x : Nat) => (s, c + (x : Int), r)
/-- The cells of a range, row by row. -/
def cellsL (s : ByteArray) (c r : Int) (k : Nat) : Nat → List C3
  | 0 => []
  | h + 1 => cellsL s c r k h ++ rowC s c (r + (h : Int)) k
theorem rowC_succ (s : ByteArray) (c r : Int) (k : Nat) : rowC s c r (k + 1) = rowC s c r k ++ [(s, c + (k : Int), r)] := by
  simp [rowC, List.range_succ]
theorem rowC_len (s : ByteArray) (c r : Int) (k : Nat) : (rowC s c r k).length = k := by simp [rowC]
theorem cellsL_len (s : ByteArray) (c r : Int) (k : Nat) : ∀ h, (cellsL s c r k h).length = h * k
  | 0 => by simp [cellsL]
  | h + 1 => by simp [cellsL, cellsL_len s c r k h, rowC_len, Nat.add_mul]
theorem push_cell (L : List C3) (s : ByteArray) (c r : Int) : L.map cellV ++ [.agg [.x (.string s), .x (.int .i64 c), .x (.int .i64 r)]] = (L ++ [(s, c, r)]).map cellV := by
  rw [List.map_append]; rfl
def cellsA (s : ByteArray) (c r : Int) (s' : ByteArray) (c' r' : Int) : Option (List C3) :=
  if okA s c r s' c' r' = true ∧ areaN c r c' r' ≤ 400 then some (cellsL s c r (c' - c + 1).toNat (r' - r + 1).toNat) else none
def FCells : List V → Option V
  | [.agg [.x (.string s), .x (.int .i64 c), .x (.int .i64 r), .x (.string s'), .x (.int .i64 c'), .x (.int .i64 r')]] => match cellsA s c r s' c' r' with
    | some l => some (.sl false 3 (l.map cellV) none)
    | none => some (.sl true 0 [] none)
  | _ => none
/-- What has been gathered: nothing yet, or a row of the call's own. -/
def accV (nil0 : Bool) (tok : Nat) (L : List C3) : V := if nil0 = true ∧ L = [] then .sl true 0 [] none else .sl false 3 (L.map cellV) (some tok)
theorem acc_nil {nil0 : Bool} {tok : Nat} (h : nil0 = true) : accV nil0 tok [] = .sl true 0 [] none := by simp [accV, h]
theorem acc_sl {nil0 : Bool} {tok : Nat} {L : List C3} (h : ¬ (nil0 = true ∧ L = [])) : accV nil0 tok L = .sl false 3 (L.map cellV) (some tok) := if_neg h
theorem acc_push {nil0 : Bool} {tok : Nat} (L : List C3) (p : C3) : accV nil0 tok (L ++ [p]) = .sl false 3 ((L ++ [p]).map cellV) (some tok) := acc_sl (by simp)
theorem acc_row {nil0 : Bool} {tok : Nat} (L : List C3) (s : ByteArray) (c r : Int) (k : Nat) : accV nil0 tok (L ++ rowC s c r (k + 1)) = .sl false 3 ((L ++ rowC s c r (k + 1)).map cellV) (some tok) := acc_sl (by simp [rowC_succ])
set_option maxHeartbeats 4000000 in
set_option maxRecDepth 100000 in
theorem cells_fun : FunV 19 FCells := by
  refine fun_of_run (E := envOf [(10, FArea), (30, FClone)]) (k := 1) (envOK_of _ ⟨area_fun, clone_fun, trivial⟩) (by kernel_rfl) Tryd.func19 rfl (fun a w => Tryd.call19 a w) Tryd.ntmps19 (by kernel_rfl) (by decide) ?_
  intro us r hF hdat
  unfold FCells at hF
  split at hF
  case h_2 => cases hF
  rename_i s c r s' c' r'
  cases hok : okA s c r s' c' r'
  · have ha := areaV_no hok
    have hc : cellsA s c r s' c' r' = none := if_neg (by rw [hok]; simp)
    rw [hc] at hF
    cases hF
    refine ⟨rfl, ?_⟩
    simp (decide := true) (maxDischargeDepth := 200) only [go_sem, FArea, ha, Tryd.results19]
  · have ha := areaV_yes hok
    by_cases h4 : areaN c r c' r' ≤ 400
    · have hc : cellsA s c r s' c' r' = some (cellsL s c r (c' - c + 1).toNat (r' - r + 1).toNat) := if_pos ⟨hok, h4⟩
      rw [hc] at hF
      obtain ⟨hR, hR', rfl, hcc, hrr⟩ := okA_iff.1 hok
      obtain ⟨hn, b1, b2, b3, b4⟩ := rightC_iff.1 hR
      obtain ⟨_, b1', b2', b3', b4'⟩ := rightC_iff.1 hR'
      have hin := area_in b1 b2' b3 b4' hcc hrr
      have hsl : s.size ≤ 281474976710656 := by have := name_len hn; omega
      obtain ⟨k, hk⟩ : ∃ k, (c' - c + 1).toNat = k := ⟨_, rfl⟩
      obtain ⟨h, hh⟩ : ∃ h, (r' - r + 1).toNat = h := ⟨_, rfl⟩
      have hkh : h * k ≤ 400 := by
        have e1 : c' - c + 1 = (k : Int) := by omega
        have e2 : r' - r + 1 = (h : Int) := by omega
        have : ((h * k : Nat) : Int) ≤ 400 := by
          have h5 := h4
          unfold areaN at h5
          rw [e1, e2] at h5
          push_cast
          rw [Int.mul_comm]
          exact h5
        omega
      rw [hk, hh] at hF
      cases hF
      refine ⟨rfl, ?_⟩
      have d4 : decide (400 < areaN c r c' r') = false := decide_eq_false (by omega)
      have m1 : (0 : Int) ≤ areaN c r c' r' := by omega
      have m2 : (32 : Int) * areaN c r c' r' ≤ 281474976710656 := by omega
      have m2' : ((32 : Nat) : Int) * areaN c r c' r' ≤ 281474976710656 := by omega
      have m3 : areaN c r c' r' ≤ 9223372036854775807 := by omega
      simp (decide := true) (maxDischargeDepth := 200) only [go_sem, FArea, ha, d4, FClone, hsl, m1, m2, m2', m3, Tryd.results19]
      refine loop_of (X := {p : Nat × Nat // p.1 ≤ h ∧ (p.2 = 25 ∨ p.2 = 52)}) (fun p => [(1, .ptr 1 0), (2, .sl true 0 [] none), (5, .x (.string s)), (6, accV false p.1.2 (cellsL s c r k p.1.1)), (7, .x (.int .i64 (r + (p.1.1 : Int))))]) (fun _ => [(1, [.x (.string s), .x (.int .i64 c), .x (.int .i64 r), .x (.string s), .x (.int .i64 c'), .x (.int .i64 r')])]) (fun p => h - p.1.1) ⟨(0, 25), by simp⟩ (by simp (decide := true) only [go_sem, cellsL]; simp [accV]) (by simp (decide := true) only [go_sem]) (fun ⟨⟨y, tk⟩, hy, htk⟩ => ?_)
      simp only at hy htk
      by_cases hyh : y < h
      · have e0 : decide (r + (y : Int) ≤ r') = true := decide_eq_true (by omega)
        have e9 : bWrap .i64 (r + (y : Int) + 1) = r + ((y + 1 : Nat) : Int) := by rw [bwrap_of (by unfold inR; omega)]; omega
        simp (decide := true) (maxDischargeDepth := 200) only [go_sem, e0, Tryd.results19]
        refine loop_of (X := {p : Nat × Nat // p.1 ≤ k ∧ (p.2 = 25 ∨ p.2 = 52)}) (fun p => [(1, .ptr 1 0), (2, .sl true 0 [] none), (5, .x (.string s)), (6, accV false p.1.2 (cellsL s c r k y ++ rowC s c (r + (y : Int)) p.1.1)), (7, .x (.int .i64 (r + (y : Int)))), (8, .x (.int .i64 (c + (p.1.1 : Int))))]) (fun _ => [(1, [.x (.string s), .x (.int .i64 c), .x (.int .i64 r), .x (.string s), .x (.int .i64 c'), .x (.int .i64 r')])]) (fun p => k - p.1.1) ⟨(0, tk), by simpa using htk⟩ (by simp (decide := true) only [go_sem]; simp [rowC]) (by simp (decide := true) only [go_sem]) (fun ⟨⟨x, tk⟩, hx, htk⟩ => ?_)
        simp only at hx htk
        by_cases hxk : x < k
        · have e1 : decide (c + (x : Int) ≤ c') = true := decide_eq_true (by omega)
          have e3 : bWrap .i64 (c + (x : Int) + 1) = c + ((x + 1 : Nat) : Int) := by rw [bwrap_of (by unfold inR; omega)]; omega
          have hlen : (cellsL s c r k y ++ rowC s c (r + (y : Int)) x).length ≤ 400 := by
            rw [List.length_append, cellsL_len, rowC_len]
            have : (y + 1) * k ≤ h * k := Nat.mul_le_mul_right _ (by omega)
            rw [Nat.add_mul, Nat.one_mul] at this
            omega
          have e6 : (cellsL s c r k y ++ rowC s c (r + (y : Int)) x) ++ [(s, c + (x : Int), r + (y : Int))] = cellsL s c r k y ++ rowC s c (r + (y : Int)) (x + 1) := by rw [rowC_succ, List.append_assoc]
          generalize hL : cellsL s c r k y ++ rowC s c (r + (y : Int)) x = L at hlen e6
          have g1 : ((L.map cellV).length + 1) * 32 ≤ 140737488355328 := by rw [List.length_map]; omega
          have g2 : (L.map cellV).length + 1 ≤ 9223372036854775807 := by rw [List.length_map]; omega
          by_cases hnil : false = true ∧ L = []
          · obtain ⟨hn0, rfl⟩ := hnil
            cases hn0
          · have a0 := acc_sl (tok := tk) hnil
            simp (decide := true) (maxDischargeDepth := 200) only [go_sem, a0, e1, e3, g1, g2, push_cell, Tryd.results19]
            refine ⟨⟨(x + 1, 52), by simp; omega⟩, ?_, ?_, by simp only; omega⟩
            · simp (decide := true) only [go_sem, ← e6, acc_push, push_cell]
            · simp (decide := true) only [go_sem]
        · have e1 : decide (c + (x : Int) ≤ c') = false := decide_eq_false (by omega)
          have hxe : x = k := by omega
          subst hxe
          simp (decide := true) (maxDischargeDepth := 200) only [go_sem, e1, e9, Tryd.results19]
          refine ⟨⟨(y + 1, tk), by simp only; omega, by simp only; exact htk⟩, ?_, ?_, by simp only; omega⟩
          · simp (decide := true) only [go_sem, cellsL]
          · simp (decide := true) only [go_sem]
      · have e0 : decide (r + (y : Int) ≤ r') = false := decide_eq_false (by omega)
        have hye : y = h := by omega
        subst hye
        have hne : ¬ (false = true ∧ cellsL s c r k y = []) := by
          rintro ⟨_, hh0⟩
          have := cellsL_len s c r k y
          rw [hh0] at this
          have hp : 0 < y * k := Nat.mul_pos (by omega) (by omega)
          simp at this
          omega
        have a0 := acc_sl (tok := tk) hne
        simp (decide := true) (maxDischargeDepth := 200) only [go_sem, e0, a0, Tryd.results19]
    · have hc : cellsA s c r s' c' r' = none := if_neg (fun hh => h4 hh.2)
      rw [hc] at hF
      cases hF
      refine ⟨rfl, ?_⟩
      have d4 : decide (400 < areaN c r c' r') = true := decide_eq_true (by omega)
      simp (decide := true) (maxDischargeDepth := 200) only [go_sem, FArea, ha, d4, Tryd.results19]

set_option maxHeartbeats 4000000 in
set_option maxRecDepth 100000 in
theorem rcells_fun : FunV 20 FCells := by
  refine fun_of_run (E := envOf [(11, FArea)]) (k := 1) (envOK_of _ ⟨rarea_fun, trivial⟩) (by kernel_rfl) Tryd.func20 rfl (fun a w => Tryd.call20 a w) Tryd.ntmps20 (by kernel_rfl) (by decide) ?_
  intro us r hF hdat
  unfold FCells at hF
  split at hF
  case h_2 => cases hF
  rename_i s c r s' c' r'
  cases hok : okA s c r s' c' r'
  · have ha := areaV_no hok
    have hc : cellsA s c r s' c' r' = none := if_neg (by rw [hok]; simp)
    rw [hc] at hF
    cases hF
    refine ⟨rfl, ?_⟩
    simp (decide := true) (maxDischargeDepth := 200) only [go_sem, FArea, ha, Tryd.results20]
  · have ha := areaV_yes hok
    by_cases h4 : areaN c r c' r' ≤ 400
    · have hc : cellsA s c r s' c' r' = some (cellsL s c r (c' - c + 1).toNat (r' - r + 1).toNat) := if_pos ⟨hok, h4⟩
      rw [hc] at hF
      obtain ⟨hR, hR', rfl, hcc, hrr⟩ := okA_iff.1 hok
      obtain ⟨hn, b1, b2, b3, b4⟩ := rightC_iff.1 hR
      obtain ⟨_, b1', b2', b3', b4'⟩ := rightC_iff.1 hR'
      have hin := area_in b1 b2' b3 b4' hcc hrr
      have hsl : s.size ≤ 281474976710656 := by have := name_len hn; omega
      obtain ⟨k, hk⟩ : ∃ k, (c' - c + 1).toNat = k := ⟨_, rfl⟩
      obtain ⟨h, hh⟩ : ∃ h, (r' - r + 1).toNat = h := ⟨_, rfl⟩
      have hkh : h * k ≤ 400 := by
        have e1 : c' - c + 1 = (k : Int) := by omega
        have e2 : r' - r + 1 = (h : Int) := by omega
        have : ((h * k : Nat) : Int) ≤ 400 := by
          have h5 := h4
          unfold areaN at h5
          rw [e1, e2] at h5
          push_cast
          rw [Int.mul_comm]
          exact h5
        omega
      rw [hk, hh] at hF
      cases hF
      refine ⟨rfl, ?_⟩
      have d4 : decide (400 < areaN c r c' r') = false := decide_eq_false (by omega)
      have m1 : (0 : Int) ≤ areaN c r c' r' := by omega
      have m2 : (32 : Int) * areaN c r c' r' ≤ 281474976710656 := by omega
      have m2' : ((32 : Nat) : Int) * areaN c r c' r' ≤ 281474976710656 := by omega
      have m3 : areaN c r c' r' ≤ 9223372036854775807 := by omega
      simp (decide := true) (maxDischargeDepth := 200) only [go_sem, FArea, ha, d4, FClone, hsl, m1, m2, m2', m3, Tryd.results20]
      refine loop_of (X := {p : Nat × Nat // p.1 ≤ h ∧ (p.2 = 47 ∨ p.2 = 47)}) (fun p => [(1, .ptr 1 0), (2, .sl true 0 [] none), (5, accV true p.1.2 (cellsL s c r k p.1.1)), (6, .x (.int .i64 (r + (p.1.1 : Int))))]) (fun _ => [(1, [.x (.string s), .x (.int .i64 c), .x (.int .i64 r), .x (.string s), .x (.int .i64 c'), .x (.int .i64 r')])]) (fun p => h - p.1.1) ⟨(0, 47), by simp⟩ (by simp (decide := true) only [go_sem, cellsL]; simp [accV]) (by simp (decide := true) only [go_sem]) (fun ⟨⟨y, tk⟩, hy, htk⟩ => ?_)
      simp only at hy htk
      by_cases hyh : y < h
      · have e0 : decide (r + (y : Int) ≤ r') = true := decide_eq_true (by omega)
        have e9 : bWrap .i64 (r + (y : Int) + 1) = r + ((y + 1 : Nat) : Int) := by rw [bwrap_of (by unfold inR; omega)]; omega
        simp (decide := true) (maxDischargeDepth := 200) only [go_sem, e0, Tryd.results20]
        refine loop_of (X := {p : Nat × Nat // p.1 ≤ k ∧ (p.2 = 47 ∨ p.2 = 47)}) (fun p => [(1, .ptr 1 0), (2, .sl true 0 [] none), (5, accV true p.1.2 (cellsL s c r k y ++ rowC s c (r + (y : Int)) p.1.1)), (6, .x (.int .i64 (r + (y : Int)))), (7, .x (.int .i64 (c + (p.1.1 : Int))))]) (fun _ => [(1, [.x (.string s), .x (.int .i64 c), .x (.int .i64 r), .x (.string s), .x (.int .i64 c'), .x (.int .i64 r')])]) (fun p => k - p.1.1) ⟨(0, tk), by simpa using htk⟩ (by simp (decide := true) only [go_sem]; simp [rowC]) (by simp (decide := true) only [go_sem]) (fun ⟨⟨x, tk⟩, hx, htk⟩ => ?_)
        simp only at hx htk
        by_cases hxk : x < k
        · have e1 : decide (c + (x : Int) ≤ c') = true := decide_eq_true (by omega)
          have e3 : bWrap .i64 (c + (x : Int) + 1) = c + ((x + 1 : Nat) : Int) := by rw [bwrap_of (by unfold inR; omega)]; omega
          have hlen : (cellsL s c r k y ++ rowC s c (r + (y : Int)) x).length ≤ 400 := by
            rw [List.length_append, cellsL_len, rowC_len]
            have : (y + 1) * k ≤ h * k := Nat.mul_le_mul_right _ (by omega)
            rw [Nat.add_mul, Nat.one_mul] at this
            omega
          have e6 : (cellsL s c r k y ++ rowC s c (r + (y : Int)) x) ++ [(s, c + (x : Int), r + (y : Int))] = cellsL s c r k y ++ rowC s c (r + (y : Int)) (x + 1) := by rw [rowC_succ, List.append_assoc]
          generalize hL : cellsL s c r k y ++ rowC s c (r + (y : Int)) x = L at hlen e6
          have g1 : ((L.map cellV).length + 1) * 32 ≤ 140737488355328 := by rw [List.length_map]; omega
          have g2 : (L.map cellV).length + 1 ≤ 9223372036854775807 := by rw [List.length_map]; omega
          by_cases hnil : true = true ∧ L = []
          · obtain ⟨hn0, rfl⟩ := hnil
            have a0 := acc_nil (tok := tk) hn0
            simp (decide := true) (maxDischargeDepth := 200) only [go_sem, a0, e1, e3, g1, g2, push_cell, Tryd.results20]
            refine ⟨⟨(x + 1, 47), by simp; omega⟩, ?_, ?_, by simp only; omega⟩
            · simp (decide := true) only [go_sem, ← e6, acc_push, push_cell]
              simp [accV, cellV]
            · simp (decide := true) only [go_sem]
          · have a0 := acc_sl (tok := tk) hnil
            simp (decide := true) (maxDischargeDepth := 200) only [go_sem, a0, e1, e3, g1, g2, push_cell, Tryd.results20]
            refine ⟨⟨(x + 1, 47), by simp; omega⟩, ?_, ?_, by simp only; omega⟩
            · simp (decide := true) only [go_sem, ← e6, acc_push, push_cell]
            · simp (decide := true) only [go_sem]
        · have e1 : decide (c + (x : Int) ≤ c') = false := decide_eq_false (by omega)
          have hxe : x = k := by omega
          subst hxe
          simp (decide := true) (maxDischargeDepth := 200) only [go_sem, e1, e9, Tryd.results20]
          refine ⟨⟨(y + 1, tk), by simp only; omega, by simp only; exact htk⟩, ?_, ?_, by simp only; omega⟩
          · simp (decide := true) only [go_sem, cellsL]
          · simp (decide := true) only [go_sem]
      · have e0 : decide (r + (y : Int) ≤ r') = false := decide_eq_false (by omega)
        have hye : y = h := by omega
        subst hye
        have hne : ¬ (true = true ∧ cellsL s c r k y = []) := by
          rintro ⟨_, hh0⟩
          have := cellsL_len s c r k y
          rw [hh0] at this
          have hp : 0 < y * k := Nat.mul_pos (by omega) (by omega)
          simp at this
          omega
        have a0 := acc_sl (tok := tk) hne
        simp (decide := true) (maxDischargeDepth := 200) only [go_sem, e0, a0, Tryd.results20]
    · have hc : cellsA s c r s' c' r' = none := if_neg (fun hh => h4 hh.2)
      rw [hc] at hF
      cases hF
      refine ⟨rfl, ?_⟩
      have d4 : decide (400 < areaN c r c' r') = true := decide_eq_true (by omega)
      simp (decide := true) (maxDischargeDepth := 200) only [go_sem, FArea, ha, d4, Tryd.results20]

end Go.Proofs.YtcolepbcibidaaaDoor
