/- strconv.Itoa, as a function of plain data. -/
import Derived.Test.YtiphliochoengaaMPO
import Derived.Test.YtiphliochoengaaShelf
import Derived.Test.YtiphliochoengaaBase
import Derived.Lib.ItoaLen
import Derived.Deep.RegionHeld3
import Derived.Test.YtiphliochoengaaMAd
namespace Go.Proofs.Ytiphliochoengaa
open Go Go.RowKit
set_option linter.unusedSimpArgs false

end Go.Proofs.Ytiphliochoengaa

/- The reference's Dec, as a function of plain data. -/
namespace Go.Proofs.Ytiphliochoengaa
open Go Go.RowKit
set_option linter.unusedSimpArgs false
end Go.Proofs.Ytiphliochoengaa

/- Which cells may be, and how they are written: package addr and the reference, as functions of plain data. -/
namespace Go.Proofs.Ytiphliochoengaa
open Go Go.RowKit
set_option linter.unusedSimpArgs false

end Go.Proofs.Ytiphliochoengaa

/- Ranges and the order of cells: package addr and the reference, as functions of plain data. -/
namespace Go.Proofs.Ytiphliochoengaa
open Go Go.RowKit
set_option linter.unusedSimpArgs false

def inB (s : ByteArray) (c r : Int) (s' : ByteArray) (c' r' : Int) (s0 : ByteArray) (c0 r0 : Int) : Bool := okA s c r s' c' r' && (decide (s0 = s) && (decide (c ≤ c0) && (decide (c0 ≤ c') && (decide (r ≤ r0) && decide (r0 ≤ r')))))
def FIn : List V → Option V
  | [.agg [.x (.string s), .x (.int .i64 c), .x (.int .i64 r), .x (.string s'), .x (.int .i64 c'), .x (.int .i64 r')], .agg [.x (.string s0), .x (.int .i64 c0), .x (.int .i64 r0)]] => some (.x (.bool (inB s c r s' c' r' s0 c0 r0)))
  | _ => none
set_option maxHeartbeats 2000000 in
set_option maxRecDepth 100000 in
theorem in_fun : FunV 31 FIn := by
  refine fun_of_run (E := envOf [(40, FArea)]) (k := 2) (envOK_of _ ⟨area_fun, trivial⟩) (by kernel_rfl) Try.func31 rfl (fun a w => Try.call31 a w) Try.ntmps31 (by kernel_rfl) (by decide) (by decide) ?_
  intro us r hF hdat
  unfold FIn at hF
  split at hF
  case h_2 => cases hF
  rename_i s c r s' c' r' s0 c0 r0
  cases hF
  refine ⟨rfl, ?_⟩
  cases hok : okA s c r s' c' r'
  · have ha := areaV_no hok
    simp (decide := true) (maxDischargeDepth := 200) only [go_sem, FArea, ha, hok, inB, Try.results31]
  · have ha := areaV_yes hok
    by_cases h0 : s0 = s
    · have d0 := decide_eq_true h0
      by_cases h1 : c ≤ c0
      · have d1 := decide_eq_true h1
        by_cases h2 : c0 ≤ c'
        · have d2 := decide_eq_true h2
          by_cases h3 : r ≤ r0
          · have d3 := decide_eq_true h3
            simp (decide := true) (maxDischargeDepth := 200) only [go_sem, FArea, ha, hok, inB, d0, d1, d2, d3, Try.results31]
          · have d3 := decide_eq_false h3
            simp (decide := true) (maxDischargeDepth := 200) only [go_sem, FArea, ha, hok, inB, d0, d1, d2, d3, Try.results31]
        · have d2 := decide_eq_false h2
          simp (decide := true) (maxDischargeDepth := 200) only [go_sem, FArea, ha, hok, inB, d0, d1, d2, Try.results31]
      · have d1 := decide_eq_false h1
        simp (decide := true) (maxDischargeDepth := 200) only [go_sem, FArea, ha, hok, inB, d0, d1, Try.results31]
    · have d0 := decide_eq_false h0
      simp (decide := true) (maxDischargeDepth := 200) only [go_sem, FArea, ha, hok, inB, d0, Try.results31]

set_option maxHeartbeats 2000000 in
set_option maxRecDepth 100000 in
theorem rin_fun : FunV 17 FIn := by
  refine fun_of_run (E := envOf [(33, FArea)]) (k := 2) (envOK_of _ ⟨rarea_fun, trivial⟩) (by kernel_rfl) Try.func17 rfl (fun a w => Try.call17 a w) Try.ntmps17 (by kernel_rfl) (by decide) (by decide) ?_
  intro us r hF hdat
  unfold FIn at hF
  split at hF
  case h_2 => cases hF
  rename_i s c r s' c' r' s0 c0 r0
  cases hF
  refine ⟨rfl, ?_⟩
  cases hok : okA s c r s' c' r'
  · have ha := areaV_no hok
    simp (decide := true) (maxDischargeDepth := 200) only [go_sem, FArea, ha, hok, inB, Try.results17]
  · have ha := areaV_yes hok
    by_cases h0 : s0 = s
    · have d0 := decide_eq_true h0
      by_cases h1 : c ≤ c0
      · have d1 := decide_eq_true h1
        by_cases h2 : c0 ≤ c'
        · have d2 := decide_eq_true h2
          by_cases h3 : r ≤ r0
          · have d3 := decide_eq_true h3
            simp (decide := true) (maxDischargeDepth := 200) only [go_sem, FArea, ha, hok, inB, d0, d1, d2, d3, Try.results17]
          · have d3 := decide_eq_false h3
            simp (decide := true) (maxDischargeDepth := 200) only [go_sem, FArea, ha, hok, inB, d0, d1, d2, d3, Try.results17]
        · have d2 := decide_eq_false h2
          simp (decide := true) (maxDischargeDepth := 200) only [go_sem, FArea, ha, hok, inB, d0, d1, d2, Try.results17]
      · have d1 := decide_eq_false h1
        simp (decide := true) (maxDischargeDepth := 200) only [go_sem, FArea, ha, hok, inB, d0, d1, Try.results17]
    · have d0 := decide_eq_false h0
      simp (decide := true) (maxDischargeDepth := 200) only [go_sem, FArea, ha, hok, inB, d0, Try.results17]


def lessC (s : ByteArray) (c r : Int) (s' : ByteArray) (c' r' : Int) : Bool := if s = s' then (if r = r' then decide (c < c') else decide (r < r')) else Op.bytesLess s.toList s'.toList
def FLess : List V → Option V
  | [.agg [.x (.string s), .x (.int .i64 c), .x (.int .i64 r)], .agg [.x (.string s'), .x (.int .i64 c'), .x (.int .i64 r')]] => some (.x (.bool (lessC s c r s' c' r')))
  | _ => none
def FNaN : List V → Option V
  | [.x (.string _)] => some (.x (.bool false))
  | _ => none
set_option maxRecDepth 100000 in
theorem nan_fun : FunV 75 FNaN := by
  refine fun_of_run (E := envOf []) (k := 1) (envOK_of _ trivial) (by kernel_rfl) Try.func75 rfl (fun a w => Try.call75 a w) Try.ntmps75 (by kernel_rfl) (by decide) (by decide) ?_
  intro us r hF hdat
  unfold FNaN at hF
  split at hF
  case h_2 => cases hF
  rename_i s
  cases hF
  refine ⟨rfl, ?_⟩
  have d0 : decide (s = s) = true := decide_eq_true rfl
  simp (decide := true) (maxDischargeDepth := 200) only [go_sem, d0, Try.results75]


def cmpT (a b : ByteArray) : Int := if Op.bytesLess a.toList b.toList = true then -1 else if a = b then 0 else 1
def FCmpS : List V → Option V
  | [.x (.string a), .x (.string b)] => some (.x (.int .i64 (cmpT a b)))
  | _ => none
set_option maxRecDepth 100000 in
theorem cmps_fun : FunV 49 FCmpS := by
  refine fun_of_run (E := envOf [(75, FNaN)]) (k := 2) (envOK_of _ ⟨nan_fun, trivial⟩) (by kernel_rfl) Try.func49 rfl (fun a w => Try.call49 a w) Try.ntmps49 (by kernel_rfl) (by decide) (by decide) ?_
  intro us r hF hdat
  unfold FCmpS at hF
  split at hF
  case h_2 => cases hF
  rename_i a b
  cases hF
  refine ⟨rfl, ?_⟩
  cases hl : Op.bytesLess a.toList b.toList
  · by_cases he : a = b
    · have e : cmpT a b = 0 := by subst he; simp [cmpT, hl]
      have d0 := decide_eq_true he
      simp (decide := true) (maxDischargeDepth := 200) only [go_sem, FNaN, hl, d0, e, Try.results49]
    · have e : cmpT a b = 1 := by simp [cmpT, hl, he]
      have d0 := decide_eq_false he
      simp (decide := true) (maxDischargeDepth := 200) only [go_sem, FNaN, hl, d0, e, Try.results49]
  · have e : cmpT a b = -1 := by simp [cmpT, hl]
    simp (decide := true) (maxDischargeDepth := 200) only [go_sem, FNaN, hl, e, Try.results49]


def FCmpI : List V → Option V
  | [.x (.int .i64 a), .x (.int .i64 b)] => some (.x (.int .i64 (Lib.compareInt a b)))
  | _ => none
theorem cmpi_fun : FunV 50 FCmpI := by
  refine ⟨fun a w => Try.call50 a w, fun m w vs us r hF hd hr hj hg => ?_⟩
  unfold FCmpI at hF
  split at hF
  case h_2 => cases hF
  rename_i a b
  cases hF
  obtain rfl := args_eq (xs := [.int .i64 a, .int .i64 b]) hr rfl
  refine (Try.cmp_Compare_int a b w).mono ?_
  rintro e w' ⟨rfl, rfl⟩
  exact ⟨_, m, rfl, .x _, Below.refl _ _, fun _ _ => rfl⟩
def intsOf : List V → Option (List Int)
  | [] => some []
  | .x (.int .i64 n) :: l => match intsOf l with
    | some r => some (n :: r)
    | none => none
  | _ => none
def intV1 (n : Int) : V := .x (.int .i64 n)
theorem intsOf_is : ∀ {es : List V} {l : List Int}, intsOf es = some l → es = l.map intV1
  | [], l, h => by cases h; rfl
  | e :: es, l, h => by
    unfold intsOf at h
    split at h
    · cases ‹e :: es = []›
    · rename_i n l' he
      cases he
      split at h
      · rename_i r hr
        cases h
        rw [intsOf_is hr]
        rfl
      · cases h
    · cases h
def or0 : List Int → Int
  | [] => 0
  | n :: l => if n = 0 then or0 l else n
theorem or0_at : ∀ {l : List Int} {i : Nat} {n : Int}, (∀ (j : Nat) (k : Int), j < i → l[j]? = some k → k = 0) → l[i]? = some n → ¬ n = 0 → or0 l = n
  | [], i, n, _, h, _ => by simp at h
  | a :: l, 0, n, _, h, hn => by simp at h; subst h; simp [or0, hn]
  | a :: l, i + 1, n, h0, h, hn => by
    have ha : a = 0 := h0 0 a (by omega) rfl
    simp only [or0, ha, if_true]
    exact or0_at (i := i) (fun j k hj hk => h0 (j + 1) k (by omega) (by simpa using hk)) (by simpa using h) hn
theorem or0_none : ∀ {l : List Int}, (∀ (j : Nat) (k : Int), l[j]? = some k → k = 0) → or0 l = 0
  | [], _ => rfl
  | a :: l, h => by
    have ha : a = 0 := h 0 a rfl
    simp only [or0, ha, if_true]
    exact or0_none (fun j k hk => h (j + 1) k (by simpa using hk))
def FOr : List V → Option V
  | [.sl _ 1 es none] => match intsOf es with
    | some l => if l.length ≤ 1000000 then some (.x (.int .i64 (or0 l))) else none
    | none => none
  | _ => none
set_option maxHeartbeats 2000000 in
set_option maxRecDepth 100000 in
theorem or_fun : FunV 48 FOr := by
  refine fun_of_run (E := envOf []) (k := 1) (envOK_of _ trivial) (by kernel_rfl) Try.func48 rfl (fun a w => Try.call48 a w) Try.ntmps48 (by kernel_rfl) (by decide) (by decide) ?_
  intro us r hF hdat
  unfold FOr at hF
  split at hF
  case h_2 => cases hF
  rename_i nl es
  split at hF
  case h_2 => cases hF
  rename_i l hl
  split at hF
  case isFalse => cases hF
  rename_i hle
  cases hF
  refine ⟨rfl, ?_⟩
  obtain rfl := intsOf_is hl
  clear hl
  have hsz : (((l.map intV1).length : Nat) : Int) = (l.length : Int) := by rw [List.length_map]
  simp (decide := true) (maxDischargeDepth := 200) only [go_sem, Try.results48]
  refine loop_of (X := {i : Nat // i ≤ l.length ∧ ∀ (j : Nat) (k : Int), j < i → l[j]? = some k → k = 0}) (fun i => [(3, .x (.int .i64 0)), (6, .sl nl 1 (l.map intV1) none), (7, .x (.int .i64 (l.length : Int))), (8, .x (.int .i64 i.1))]) (fun _ => []) (fun i => l.length - i.1) ⟨0, by omega, fun j k hj => by omega⟩ (by simp (decide := true) only [go_sem, hsz]; rfl) trivial (fun ⟨i, hi, hz⟩ => ?_)
  by_cases hil : i < l.length
  · have hb : l[i]? = some l[i] := List.getElem?_eq_getElem hil
    generalize l[i] = n at hb
    have d0 : decide ((i : Int) < (l.length : Int)) = true := decide_eq_true (by omega)
    have c2 : (0 : Int) ≤ (i : Int) := by omega
    have c4 := count_up (i := i) (by omega)
    have c5 : (l.map intV1)[((i : Int)).toNat]? = some (.x (.int .i64 n)) := by rw [Int.toNat_natCast, List.getElem?_map, hb]; rfl
    by_cases hn : n = 0
    · have d1 := decide_eq_true hn
      simp (decide := true) (maxDischargeDepth := 200) only [go_sem, d0, c2, c4, c5, d1, Try.results48]
      refine ⟨⟨i + 1, by omega, fun j k hj hk => ?_⟩, ?_, trivial, by simp only; omega⟩
      · by_cases hji : j = i
        · subst hji; rw [hb] at hk; cases hk; exact hn
        · exact hz j k (by omega) hk
      · simp (decide := true) only [go_sem]
    · have d1 := decide_eq_false hn
      have e := or0_at hz hb hn
      simp (decide := true) (maxDischargeDepth := 200) only [go_sem, d0, c2, c4, c5, d1, e, Try.results48]
  · have d0 : decide ((i : Int) < (l.length : Int)) = false := decide_eq_false (by omega)
    have e := or0_none (l := l) (fun j k hk => hz j k (by have := (List.getElem?_eq_some_iff.1 hk).1; omega) hk)
    simp (decide := true) (maxDischargeDepth := 200) only [go_sem, d0, e, Try.results48]


theorem bless_irrefl (a : ByteArray) : Op.bytesLess a.toList a.toList = false := by
  generalize a.toList = l
  induction l with
  | nil => rfl
  | cons b l ih => simp [Op.bytesLess, ih]
theorem less_or (s : ByteArray) (c r : Int) (s' : ByteArray) (c' r' : Int) : decide (or0 [cmpT s s', Lib.compareInt r r', Lib.compareInt c c'] < 0) = lessC s c r s' c' r' := by
  unfold lessC
  by_cases hs : s = s'
  · subst hs
    have e : cmpT s s = 0 := by simp [cmpT, bless_irrefl]
    rw [e, if_pos rfl]
    simp only [or0, if_true, Lib.compareInt]
    rw [Bool.eq_iff_iff]
    simp only [decide_eq_true_eq]
    by_cases hr : r = r'
    · subst hr
      simp only [Int.lt_irrefl, if_false, if_true, decide_eq_true_eq]
      split
      · split at * <;> (try split at *) <;> omega
      · split at * <;> (try split at *) <;> omega
    · rw [if_neg hr]
      simp only [decide_eq_true_eq]
      split <;> (try split) <;> (try split) <;> (try split) <;> omega
  · rw [if_neg hs]
    have e : cmpT s s' ≠ 0 := by unfold cmpT; split <;> (try split) <;> simp_all
    simp only [or0, if_neg e]
    unfold cmpT
    cases h : Op.bytesLess s.toList s'.toList
    · simp [hs]
    · simp
set_option maxHeartbeats 2000000 in
set_option maxRecDepth 100000 in
theorem less_fun : FunV 30 FLess := by
  refine fun_of_run (E := envOf [(49, FCmpS), (50, FCmpI), (48, FOr)]) (k := 2) (envOK_of _ ⟨cmps_fun, cmpi_fun, or_fun, trivial⟩) (by kernel_rfl) Try.func30 rfl (fun a w => Try.call30 a w) Try.ntmps30 (by kernel_rfl) (by decide) (by decide) ?_
  intro us r hF hdat
  unfold FLess at hF
  split at hF
  case h_2 => cases hF
  rename_i s c r s' c' r'
  cases hF
  refine ⟨rfl, ?_⟩
  have e := less_or s c r s' c' r'
  simp (decide := true) (maxDischargeDepth := 200) only [go_sem, FCmpS, FCmpI, FOr, intsOf, e, Try.results30]

set_option maxHeartbeats 2000000 in
set_option maxRecDepth 100000 in
theorem rless_fun : FunV 16 FLess := by
  refine fun_of_run (E := envOf []) (k := 2) (envOK_of _ trivial) (by kernel_rfl) Try.func16 rfl (fun a w => Try.call16 a w) Try.ntmps16 (by kernel_rfl) (by decide) (by decide) ?_
  intro us r hF hdat
  unfold FLess at hF
  split at hF
  case h_2 => cases hF
  rename_i s c r s' c' r'
  cases hF
  refine ⟨rfl, ?_⟩
  by_cases hs : s = s'
  · have ds := decide_eq_true hs
    by_cases hr : r = r'
    · have dr := decide_eq_true hr
      have e : lessC s c r s' c' r' = decide (c < c') := by unfold lessC; rw [if_pos hs, if_pos hr]
      simp (decide := true) (maxDischargeDepth := 200) only [go_sem, ds, dr, e, Try.results16]
    · have dr := decide_eq_false hr
      have e : lessC s c r s' c' r' = decide (r < r') := by unfold lessC; rw [if_pos hs, if_neg hr]
      simp (decide := true) (maxDischargeDepth := 200) only [go_sem, ds, dr, e, Try.results16]
  · have ds := decide_eq_false hs
    have e : lessC s c r s' c' r' = Op.bytesLess s.toList s'.toList := by unfold lessC; rw [if_neg hs]
    simp (decide := true) (maxDischargeDepth := 200) only [go_sem, ds, e, Try.results16]

end Go.Proofs.Ytiphliochoengaa

/- strings.Clone, as a function of plain data. -/
namespace Go.Proofs.Ytiphliochoengaa
open Go Go.RowKit
set_option linter.unusedSimpArgs false

def FClone : List V → Option V
  | [.x (.string s)] => if s.size ≤ 281474976710656 then some (.x (.string s)) else none
  | _ => none
theorem clone0_fun : FunV 39 FClone := by
  refine ⟨fun a w => Try.call39 a w, fun m w vs us r hF hd hr hj hg => ?_⟩
  unfold FClone at hF
  split at hF
  case h_2 => cases hF
  rename_i s
  split at hF
  · rename_i h
    cases hF
    obtain rfl := args_eq (xs := [.string s]) hr rfl
    refine (Try.stringslite_Clone s w h).mono ?_
    rintro e w' ⟨rfl, hb⟩
    exact ⟨_, m, rfl, .x _, hb, fun _ _ => rfl⟩
  · cases hF
set_option maxRecDepth 100000 in
theorem clone_fun : FunV 24 FClone := by
  refine fun_of_run (E := envOf [(39, FClone)]) (k := 1) (envOK_of _ ⟨clone0_fun, trivial⟩) (by kernel_rfl) Try.func24 rfl (fun a w => Try.call24 a w) Try.ntmps24 (by kernel_rfl) (by decide) (by decide) ?_
  intro us r hF hdat
  unfold FClone at hF
  split at hF
  case h_2 => cases hF
  rename_i s
  split at hF
  · rename_i h
    cases hF
    refine ⟨rfl, ?_⟩
    simp (decide := true) (maxDischargeDepth := 200) only [go_sem, FClone, h, Try.results24]
  · cases hF

end Go.Proofs.Ytiphliochoengaa

/- Rows of cells: package addr, the reference and the law's own helpers, as functions of plain data. -/
namespace Go.Proofs.Ytiphliochoengaa
open Go Go.RowKit
set_option linter.unusedSimpArgs false

abbrev C3 := ByteArray × Int × Int
def cellV (p : C3) : V := .agg [.x (.string p.1), .x (.int .i64 p.2.1), .x (.int .i64 p.2.2)]
def cellsOf : List V → Option (List C3)
  | [] => some []
  | .agg [.x (.string s), .x (.int .i64 c), .x (.int .i64 r)] :: l => match cellsOf l with
    | some q => some ((s, c, r) :: q)
    | none => none
  | _ => none
theorem cellsOf_is : ∀ {es : List V} {l : List C3}, cellsOf es = some l → es = l.map cellV
  | [], l, h => by cases h; rfl
  | e :: es, l, h => by
    unfold cellsOf at h
    split at h
    · cases ‹e :: es = []›
    · rename_i s c r l' he
      cases he
      split at h
      · rename_i q hq
        cases h
        rw [cellsOf_is hq]
        rfl
      · cases h
    · cases h
theorem cellsOf_map : ∀ l : List C3, cellsOf (l.map cellV) = some l
  | [] => rfl
  | (s, c, r) :: l => by
    show (match cellsOf (l.map cellV) with | some q => some ((s, c, r) :: q) | none => none) = _
    rw [cellsOf_map l]
/-- Are two cells one? -/
def eqC (p q : C3) : Bool := decide (p = q)
theorem eq3 (s : ByteArray) (c r : Int) (s' : ByteArray) (c' r' : Int) : (decide (s = s') && (decide (c = c') && decide (r = r'))) = eqC (s, c, r) (s', c', r') := by
  unfold eqC
  rw [Bool.eq_iff_iff]
  simp [Prod.mk.injEq]
theorem cell_at {l : List C3} {i : Nat} {p : C3} (h : l[i]? = some p) : (l.map cellV)[((i : Int)).toNat]? = some (cellV p) := by
  rw [Int.toNat_natCast, List.getElem?_map, h]; rfl
theorem cellV_mk (p : C3) : cellV p = .agg [.x (.string p.1), .x (.int .i64 p.2.1), .x (.int .i64 p.2.2)] := rfl
theorem getC {l : List C3} {i : Nat} (h : i < l.length) : ∃ p, l[i]? = some p := ⟨_, List.getElem?_eq_getElem h⟩

def FSame3 : List V → Option V
  | [.sl _ sz es none, .sl _ sz' es' none] => match cellsOf es, cellsOf es' with
    | some l, some l' => if l.length ≤ 1000000 ∧ (l = [] ∨ sz = 3) ∧ (l' = [] ∨ sz' = 3) then some (.x (.bool (decide (l = l')))) else none
    | _, _ => none
  | _ => none
/-- A row of cells of a range. -/
def rowC (s : ByteArray) (c r : Int) (k : Nat) : List C3 := (List.range k).map fun (x : Nat) => (s, c + (x : Int), r)
/-- The cells of a range, row by row. -/
def cellsL (s : ByteArray) (c r : Int) (k : Nat) : Nat → List C3
  | 0 => []
  | h + 1 => cellsL s c r k h ++ rowC s c (r + (h : Int)) k
theorem rowC_succ (s : ByteArray) (c r : Int) (k : Nat) : rowC s c r (k + 1) = rowC s c r k ++ [(s, c + (k : Int), r)] := by
  simp [rowC, List.range_succ]
theorem rowC_len (s : ByteArray) (c r : Int) (k : Nat) : (rowC s c r k).length = k := by simp [rowC]
theorem cellsL_len (s : ByteArray) (c r : Int) (k : Nat) : ∀ h, (cellsL s c r k h).length = h * k
  | 0 => by simp [cellsL]
  | h + 1 => by simp [cellsL, cellsL_len s c r k h, rowC_len, Nat.add_mul]
/-- A row of cells grows by one. -/
theorem grow_cell {L : List C3} (h : L.length ≤ 1000000) (l : List (Nat × (List V → Option V))) (s : ByteArray) (c r : Int) (st : St) (d tok : Nat) (nl : Bool) (t' : Option Nat) :
    growV (envOf l) st (some d) 25 (.sl false 3 (L.map cellV) (some tok)) (.sl nl 3 [.agg [.x (.string s), .x (.int .i64 c), .x (.int .i64 r)]] t') = some ⟨upd (strip tok (strip d st.t)) d (.sl false 3 (L.map cellV ++ [.agg [.x (.string s), .x (.int .i64 c), .x (.int .i64 r)]]) (some d)), st.b⟩ := by
  have e1 : szB (envOf l).P 25 = some 3 := sz25
  have e2 : byB (envOf l).P 25 = some 32 := by25
  have e3 : zeroB (envOf l).P 25 = some _ := ze25
  unfold growV
  simp only [e1, e2, e3]
  rw [if_pos ⟨by decide, rfl, trivial, .inl trivial, rfl, by rw [List.length_map]; simp only [List.length_cons, List.length_nil]; omega, by rw [List.length_map]; simp only [List.length_cons, List.length_nil]; omega⟩]
  rfl
theorem grow_cell0 (l : List (Nat × (List V → Option V))) (s : ByteArray) (c r : Int) (st : St) (d n : Nat) (tok : Option Nat) (nl : Bool) (t' : Option Nat) :
    growV (envOf l) st (some d) 25 (.sl true n [] tok) (.sl nl 3 [.agg [.x (.string s), .x (.int .i64 c), .x (.int .i64 r)]] t') = some ⟨upd (stripO tok (strip d st.t)) d (.sl false 3 [.agg [.x (.string s), .x (.int .i64 c), .x (.int .i64 r)]] (some d)), st.b⟩ := by
  have e1 : szB (envOf l).P 25 = some 3 := sz25
  have e2 : byB (envOf l).P 25 = some 32 := by25
  have e3 : zeroB (envOf l).P 25 = some _ := ze25
  unfold growV
  simp only [e1, e2, e3]
  rw [if_pos ⟨by decide, rfl, .inl trivial, rfl, by simp only [List.length_cons, List.length_nil]; omega, by simp only [List.length_cons, List.length_nil]; omega⟩]
  cases tok <;> rfl
theorem push_cell (L : List C3) (s : ByteArray) (c r : Int) : L.map cellV ++ [.agg [.x (.string s), .x (.int .i64 c), .x (.int .i64 r)]] = (L ++ [(s, c, r)]).map cellV := by
  rw [List.map_append]; rfl
def cellsA (s : ByteArray) (c r : Int) (s' : ByteArray) (c' r' : Int) : Option (List C3) :=
  if okA s c r s' c' r' = true ∧ areaN c r c' r' ≤ 400 then some (cellsL s c r (c' - c + 1).toNat (r' - r + 1).toNat) else none
def FCells : List V → Option V
  | [.agg [.x (.string s), .x (.int .i64 c), .x (.int .i64 r), .x (.string s'), .x (.int .i64 c'), .x (.int .i64 r')]] => match cellsA s c r s' c' r' with
    | some l => some (.sl false 3 (l.map cellV) none)
    | none => some (.sl true 0 [] none)
  | _ => none
/-- What has been gathered: nothing yet, or a row of the call's own. -/
def accV (nil0 : Bool) (tok : Nat) (L : List C3) : V := if nil0 = true ∧ L = [] then .sl true 0 [] none else .sl false 3 (L.map cellV) (some tok)
theorem acc_nil {nil0 : Bool} {tok : Nat} (h : nil0 = true) : accV nil0 tok [] = .sl true 0 [] none := by simp [accV, h]
theorem acc_sl {nil0 : Bool} {tok : Nat} {L : List C3} (h : ¬ (nil0 = true ∧ L = [])) : accV nil0 tok L = .sl false 3 (L.map cellV) (some tok) := if_neg h
theorem acc_push {nil0 : Bool} {tok : Nat} (L : List C3) (p : C3) : accV nil0 tok (L ++ [p]) = .sl false 3 ((L ++ [p]).map cellV) (some tok) := acc_sl (by simp)
set_option maxHeartbeats 4000000 in
set_option maxRecDepth 100000 in
theorem cells_fun : FunV 25 FCells := by
  refine fun_of_run (E := envOf [(40, FArea), (24, FClone)]) (k := 1) (envOK_of _ ⟨area_fun, clone_fun, trivial⟩) (by kernel_rfl) Try.func25 rfl (fun a w => Try.call25 a w) Try.ntmps25 (by kernel_rfl) (by decide) (by decide) ?_
  intro us r hF hdat
  unfold FCells at hF
  split at hF
  case h_2 => cases hF
  rename_i s c r s' c' r'
  cases hok : okA s c r s' c' r'
  · have ha := areaV_no hok
    have hc : cellsA s c r s' c' r' = none := if_neg (by rw [hok]; simp)
    rw [hc] at hF
    cases hF
    refine ⟨rfl, ?_⟩
    simp (decide := true) (maxDischargeDepth := 200) only [go_sem, FArea, ha, Try.results25]
  · have ha := areaV_yes hok
    by_cases h4 : areaN c r c' r' ≤ 400
    · have hc : cellsA s c r s' c' r' = some (cellsL s c r (c' - c + 1).toNat (r' - r + 1).toNat) := if_pos ⟨hok, h4⟩
      rw [hc] at hF
      obtain ⟨hR, hR', rfl, hcc, hrr⟩ := okA_iff.1 hok
      obtain ⟨hn, b1, b2, b3, b4⟩ := rightC_iff.1 hR
      obtain ⟨_, b1', b2', b3', b4'⟩ := rightC_iff.1 hR'
      have hin := area_in b1 b2' b3 b4' hcc hrr
      have hsl : s.size ≤ 281474976710656 := by have := name_len hn; omega
      obtain ⟨k, hk⟩ : ∃ k, (c' - c + 1).toNat = k := ⟨_, rfl⟩
      obtain ⟨h, hh⟩ : ∃ h, (r' - r + 1).toNat = h := ⟨_, rfl⟩
      have hkh : h * k ≤ 400 := by
        have e1 : c' - c + 1 = (k : Int) := by omega
        have e2 : r' - r + 1 = (h : Int) := by omega
        have : ((h * k : Nat) : Int) ≤ 400 := by
          have h5 := h4
          unfold areaN at h5
          rw [e1, e2] at h5
          push_cast
          rw [Int.mul_comm]
          exact h5
        omega
      rw [hk, hh] at hF
      cases hF
      refine ⟨rfl, ?_⟩
      have d4 : decide (400 < areaN c r c' r') = false := decide_eq_false (by omega)
      have m1 : (0 : Int) ≤ areaN c r c' r' := by omega
      have m2 : (32 : Int) * areaN c r c' r' ≤ 281474976710656 := by omega
      have m2' : ((32 : Nat) : Int) * areaN c r c' r' ≤ 281474976710656 := by omega
      have m3 : areaN c r c' r' ≤ 9223372036854775807 := by omega
      simp (decide := true) (maxDischargeDepth := 200) only [go_sem, FArea, ha, d4, FClone, hsl, m1, m2, m2', m3, Try.results25]
      refine loop_of (X := {p : Nat × Nat // p.1 ≤ h ∧ (p.2 = 25 ∨ p.2 = 52)}) (fun p => [(1, .ptr 1 0), (2, .sl true 0 [] none), (5, .x (.string s)), (6, accV false p.1.2 (cellsL s c r k p.1.1)), (7, .x (.int .i64 (r + (p.1.1 : Int))))]) (fun _ => [(1, [.x (.string s), .x (.int .i64 c), .x (.int .i64 r), .x (.string s), .x (.int .i64 c'), .x (.int .i64 r')])]) (fun p => h - p.1.1) ⟨(0, 25), by simp⟩ (by simp (decide := true) only [go_sem, cellsL]; simp [accV]) (by simp (decide := true) only [go_sem]) (fun ⟨⟨y, tk⟩, hy, htk⟩ => ?_)
      simp only at hy htk
      by_cases hyh : y < h
      · have e0 : decide (r + (y : Int) ≤ r') = true := decide_eq_true (by omega)
        have e9 : bWrap .i64 (r + (y : Int) + 1) = r + ((y + 1 : Nat) : Int) := by rw [bwrap_of (by unfold inR; omega)]; omega
        simp (decide := true) (maxDischargeDepth := 200) only [go_sem, e0, Try.results25]
        refine loop_of (X := {p : Nat × Nat // p.1 ≤ k ∧ (p.2 = 25 ∨ p.2 = 52)}) (fun p => [(1, .ptr 1 0), (2, .sl true 0 [] none), (5, .x (.string s)), (6, accV false p.1.2 (cellsL s c r k y ++ rowC s c (r + (y : Int)) p.1.1)), (7, .x (.int .i64 (r + (y : Int)))), (8, .x (.int .i64 (c + (p.1.1 : Int))))]) (fun _ => [(1, [.x (.string s), .x (.int .i64 c), .x (.int .i64 r), .x (.string s), .x (.int .i64 c'), .x (.int .i64 r')])]) (fun p => k - p.1.1) ⟨(0, tk), by simpa using htk⟩ (by simp (decide := true) only [go_sem]; simp [rowC]) (by simp (decide := true) only [go_sem]) (fun ⟨⟨x, tk⟩, hx, htk⟩ => ?_)
        simp only at hx htk
        by_cases hxk : x < k
        · have e1 : decide (c + (x : Int) ≤ c') = true := decide_eq_true (by omega)
          have e3 : bWrap .i64 (c + (x : Int) + 1) = c + ((x + 1 : Nat) : Int) := by rw [bwrap_of (by unfold inR; omega)]; omega
          have hlen : (cellsL s c r k y ++ rowC s c (r + (y : Int)) x).length ≤ 400 := by
            rw [List.length_append, cellsL_len, rowC_len]
            have : (y + 1) * k ≤ h * k := Nat.mul_le_mul_right _ (by omega)
            rw [Nat.add_mul, Nat.one_mul] at this
            omega
          have e6 : (cellsL s c r k y ++ rowC s c (r + (y : Int)) x) ++ [(s, c + (x : Int), r + (y : Int))] = cellsL s c r k y ++ rowC s c (r + (y : Int)) (x + 1) := by rw [rowC_succ, List.append_assoc]
          generalize hL : cellsL s c r k y ++ rowC s c (r + (y : Int)) x = L at hlen e6
          have g1 : ((L.map cellV).length + 1) * 32 ≤ 140737488355328 := by rw [List.length_map]; omega
          have g2 : (L.map cellV).length + 1 ≤ 9223372036854775807 := by rw [List.length_map]; omega
          by_cases hnil : false = true ∧ L = []
          · obtain ⟨hn0, rfl⟩ := hnil
            cases hn0
          · have a0 := acc_sl (tok := tk) hnil
            simp (decide := true) (maxDischargeDepth := 200) only [go_sem, a0, e1, e3, grow_cell (L := L) (by omega), grow_cell0, push_cell, Try.results25]
            refine ⟨⟨(x + 1, 52), by simp; omega⟩, ?_, ?_, by simp only; omega⟩
            · simp (decide := true) only [go_sem, ← e6, acc_push, push_cell]
            · simp (decide := true) only [go_sem]
        · have e1 : decide (c + (x : Int) ≤ c') = false := decide_eq_false (by omega)
          have hxe : x = k := by omega
          subst hxe
          simp (decide := true) (maxDischargeDepth := 200) only [go_sem, e1, e9, Try.results25]
          refine ⟨⟨(y + 1, tk), by simp only; omega, by simp only; exact htk⟩, ?_, ?_, by simp only; omega⟩
          · simp (decide := true) only [go_sem, cellsL]
          · simp (decide := true) only [go_sem]
      · have e0 : decide (r + (y : Int) ≤ r') = false := decide_eq_false (by omega)
        have hye : y = h := by omega
        subst hye
        have hne : ¬ (false = true ∧ cellsL s c r k y = []) := by
          rintro ⟨_, hh0⟩
          have := cellsL_len s c r k y
          rw [hh0] at this
          have hp : 0 < y * k := Nat.mul_pos (by omega) (by omega)
          simp at this
          omega
        have a0 := acc_sl (tok := tk) hne
        simp (decide := true) (maxDischargeDepth := 200) only [go_sem, e0, a0, Try.results25]
    · have hc : cellsA s c r s' c' r' = none := if_neg (fun hh => h4 hh.2)
      rw [hc] at hF
      cases hF
      refine ⟨rfl, ?_⟩
      have d4 : decide (400 < areaN c r c' r') = true := decide_eq_true (by omega)
      simp (decide := true) (maxDischargeDepth := 200) only [go_sem, FArea, ha, d4, Try.results25]

set_option maxHeartbeats 4000000 in
set_option maxRecDepth 100000 in
theorem rcells_fun : FunV 20 FCells := by
  refine fun_of_run (E := envOf [(33, FArea)]) (k := 1) (envOK_of _ ⟨rarea_fun, trivial⟩) (by kernel_rfl) Try.func20 rfl (fun a w => Try.call20 a w) Try.ntmps20 (by kernel_rfl) (by decide) (by decide) ?_
  intro us r hF hdat
  unfold FCells at hF
  split at hF
  case h_2 => cases hF
  rename_i s c r s' c' r'
  cases hok : okA s c r s' c' r'
  · have ha := areaV_no hok
    have hc : cellsA s c r s' c' r' = none := if_neg (by rw [hok]; simp)
    rw [hc] at hF
    cases hF
    refine ⟨rfl, ?_⟩
    simp (decide := true) (maxDischargeDepth := 200) only [go_sem, FArea, ha, Try.results20]
  · have ha := areaV_yes hok
    by_cases h4 : areaN c r c' r' ≤ 400
    · have hc : cellsA s c r s' c' r' = some (cellsL s c r (c' - c + 1).toNat (r' - r + 1).toNat) := if_pos ⟨hok, h4⟩
      rw [hc] at hF
      obtain ⟨hR, hR', rfl, hcc, hrr⟩ := okA_iff.1 hok
      obtain ⟨hn, b1, b2, b3, b4⟩ := rightC_iff.1 hR
      obtain ⟨_, b1', b2', b3', b4'⟩ := rightC_iff.1 hR'
      have hin := area_in b1 b2' b3 b4' hcc hrr
      have hsl : s.size ≤ 281474976710656 := by have := name_len hn; omega
      obtain ⟨k, hk⟩ : ∃ k, (c' - c + 1).toNat = k := ⟨_, rfl⟩
      obtain ⟨h, hh⟩ : ∃ h, (r' - r + 1).toNat = h := ⟨_, rfl⟩
      have hkh : h * k ≤ 400 := by
        have e1 : c' - c + 1 = (k : Int) := by omega
        have e2 : r' - r + 1 = (h : Int) := by omega
        have : ((h * k : Nat) : Int) ≤ 400 := by
          have h5 := h4
          unfold areaN at h5
          rw [e1, e2] at h5
          push_cast
          rw [Int.mul_comm]
          exact h5
        omega
      rw [hk, hh] at hF
      cases hF
      refine ⟨rfl, ?_⟩
      have d4 : decide (400 < areaN c r c' r') = false := decide_eq_false (by omega)
      have m1 : (0 : Int) ≤ areaN c r c' r' := by omega
      have m2 : (32 : Int) * areaN c r c' r' ≤ 281474976710656 := by omega
      have m2' : ((32 : Nat) : Int) * areaN c r c' r' ≤ 281474976710656 := by omega
      have m3 : areaN c r c' r' ≤ 9223372036854775807 := by omega
      simp (decide := true) (maxDischargeDepth := 200) only [go_sem, FArea, ha, d4, FClone, hsl, m1, m2, m2', m3, Try.results20]
      refine loop_of (X := {p : Nat × Nat // p.1 ≤ h ∧ (p.2 = 47 ∨ p.2 = 47)}) (fun p => [(1, .ptr 1 0), (2, .sl true 0 [] none), (5, accV true p.1.2 (cellsL s c r k p.1.1)), (6, .x (.int .i64 (r + (p.1.1 : Int))))]) (fun _ => [(1, [.x (.string s), .x (.int .i64 c), .x (.int .i64 r), .x (.string s), .x (.int .i64 c'), .x (.int .i64 r')])]) (fun p => h - p.1.1) ⟨(0, 47), by simp⟩ (by simp (decide := true) only [go_sem, cellsL]; simp [accV]) (by simp (decide := true) only [go_sem]) (fun ⟨⟨y, tk⟩, hy, htk⟩ => ?_)
      simp only at hy htk
      by_cases hyh : y < h
      · have e0 : decide (r + (y : Int) ≤ r') = true := decide_eq_true (by omega)
        have e9 : bWrap .i64 (r + (y : Int) + 1) = r + ((y + 1 : Nat) : Int) := by rw [bwrap_of (by unfold inR; omega)]; omega
        simp (decide := true) (maxDischargeDepth := 200) only [go_sem, e0, Try.results20]
        refine loop_of (X := {p : Nat × Nat // p.1 ≤ k ∧ (p.2 = 47 ∨ p.2 = 47)}) (fun p => [(1, .ptr 1 0), (2, .sl true 0 [] none), (5, accV true p.1.2 (cellsL s c r k y ++ rowC s c (r + (y : Int)) p.1.1)), (6, .x (.int .i64 (r + (y : Int)))), (7, .x (.int .i64 (c + (p.1.1 : Int))))]) (fun _ => [(1, [.x (.string s), .x (.int .i64 c), .x (.int .i64 r), .x (.string s), .x (.int .i64 c'), .x (.int .i64 r')])]) (fun p => k - p.1.1) ⟨(0, tk), by simpa using htk⟩ (by simp (decide := true) only [go_sem]; simp [rowC]) (by simp (decide := true) only [go_sem]) (fun ⟨⟨x, tk⟩, hx, htk⟩ => ?_)
        simp only at hx htk
        by_cases hxk : x < k
        · have e1 : decide (c + (x : Int) ≤ c') = true := decide_eq_true (by omega)
          have e3 : bWrap .i64 (c + (x : Int) + 1) = c + ((x + 1 : Nat) : Int) := by rw [bwrap_of (by unfold inR; omega)]; omega
          have hlen : (cellsL s c r k y ++ rowC s c (r + (y : Int)) x).length ≤ 400 := by
            rw [List.length_append, cellsL_len, rowC_len]
            have : (y + 1) * k ≤ h * k := Nat.mul_le_mul_right _ (by omega)
            rw [Nat.add_mul, Nat.one_mul] at this
            omega
          have e6 : (cellsL s c r k y ++ rowC s c (r + (y : Int)) x) ++ [(s, c + (x : Int), r + (y : Int))] = cellsL s c r k y ++ rowC s c (r + (y : Int)) (x + 1) := by rw [rowC_succ, List.append_assoc]
          generalize hL : cellsL s c r k y ++ rowC s c (r + (y : Int)) x = L at hlen e6
          have g1 : ((L.map cellV).length + 1) * 32 ≤ 140737488355328 := by rw [List.length_map]; omega
          have g2 : (L.map cellV).length + 1 ≤ 9223372036854775807 := by rw [List.length_map]; omega
          by_cases hnil : true = true ∧ L = []
          · obtain ⟨hn0, rfl⟩ := hnil
            have a0 := acc_nil (tok := tk) hn0
            simp (decide := true) (maxDischargeDepth := 200) only [go_sem, a0, e1, e3, grow_cell0, push_cell, Try.results20]
            refine ⟨⟨(x + 1, 47), by simp; omega⟩, ?_, ?_, by simp only; omega⟩
            · simp (decide := true) only [go_sem, ← e6, acc_push, push_cell]
              simp [accV, cellV]
            · simp (decide := true) only [go_sem]
          · have a0 := acc_sl (tok := tk) hnil
            simp (decide := true) (maxDischargeDepth := 200) only [go_sem, a0, e1, e3, grow_cell (L := L) (by omega), grow_cell0, push_cell, Try.results20]
            refine ⟨⟨(x + 1, 47), by simp; omega⟩, ?_, ?_, by simp only; omega⟩
            · simp (decide := true) only [go_sem, ← e6, acc_push, push_cell]
            · simp (decide := true) only [go_sem]
        · have e1 : decide (c + (x : Int) ≤ c') = false := decide_eq_false (by omega)
          have hxe : x = k := by omega
          subst hxe
          simp (decide := true) (maxDischargeDepth := 200) only [go_sem, e1, e9, Try.results20]
          refine ⟨⟨(y + 1, tk), by simp only; omega, by simp only; exact htk⟩, ?_, ?_, by simp only; omega⟩
          · simp (decide := true) only [go_sem, cellsL]
          · simp (decide := true) only [go_sem]
      · have e0 : decide (r + (y : Int) ≤ r') = false := decide_eq_false (by omega)
        have hye : y = h := by omega
        subst hye
        have hne : ¬ (true = true ∧ cellsL s c r k y = []) := by
          rintro ⟨_, hh0⟩
          have := cellsL_len s c r k y
          rw [hh0] at this
          have hp : 0 < y * k := Nat.mul_pos (by omega) (by omega)
          simp at this
          omega
        have a0 := acc_sl (tok := tk) hne
        simp (decide := true) (maxDischargeDepth := 200) only [go_sem, e0, a0, Try.results20]
    · have hc : cellsA s c r s' c' r' = none := if_neg (fun hh => h4 hh.2)
      rw [hc] at hF
      cases hF
      refine ⟨rfl, ?_⟩
      have d4 : decide (400 < areaN c r c' r') = true := decide_eq_true (by omega)
      simp (decide := true) (maxDischargeDepth := 200) only [go_sem, FArea, ha, d4, Try.results20]

end Go.Proofs.Ytiphliochoengaa
