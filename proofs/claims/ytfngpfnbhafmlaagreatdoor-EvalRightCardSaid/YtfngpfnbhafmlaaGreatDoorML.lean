/- strconv.Itoa, as a function of plain data. -/
import Derived.Test.YtfngpfnbhafmlaaGreatDoorMPO
import Derived.Test.YtfngpfnbhafmlaaGreatDoorShelf
import Derived.Test.YtfngpfnbhafmlaaGreatDoorBase
import Derived.Lib.ItoaLen
import Derived.Deep.RegionHeld3
import Derived.Test.YtfngpfnbhafmlaaGreatDoorMAd
namespace Go.Proofs.YtfngpfnbhafmlaaGreatDoor
open Go Go.RowKit
set_option linter.unusedSimpArgs false
end Go.Proofs.YtfngpfnbhafmlaaGreatDoor
namespace Go.Proofs.YtfngpfnbhafmlaaGreatDoor
open Go Go.RowKit
set_option linter.unusedSimpArgs false
end Go.Proofs.YtfngpfnbhafmlaaGreatDoor
namespace Go.Proofs.YtfngpfnbhafmlaaGreatDoor
open Go Go.RowKit
set_option linter.unusedSimpArgs false
end Go.Proofs.YtfngpfnbhafmlaaGreatDoor
namespace Go.Proofs.YtfngpfnbhafmlaaGreatDoor
open Go Go.RowKit
set_option linter.unusedSimpArgs false
def lessC (s : ByteArray) (c r : Int) (s' : ByteArray) (c' r' : Int) : Bool := if s = s' then (if r = r' then decide (c < c') else decide (r < r')) else Op.bytesLess s.toList s'.toList
def FLess : List V → Option V
 | [.agg [.x (.string s), .x (.int .i64 c), .x (.int .i64 r)], .agg [.x (.string s'), .x (.int .i64 c'), .x (.int .i64 r')]] => some (.x (.bool (lessC s c r s' c' r')))
 | _ => none
set_option maxHeartbeats 2000000 in
set_option maxRecDepth 100000 in
theorem rless_fun : FunV 39 FLess := by
 refine fun_of_run (E := envOf []) (k := 2) (envOK_of _ trivial) (by kernel_rfl) Tryz.func39 rfl (fun a w => Tryz.call39 a w) Tryz.ntmps39 (by kernel_rfl) (by decide) (by decide) ?_
 intro us r hF hdat
 unfold FLess at hF
 split at hF
 case h_2 => cases hF
 rename_i s c r s' c' r'
 cases hF
 refine ⟨rfl, ?_⟩
 by_cases hs : s = s'
 · have ds := decide_eq_true hs
   by_cases hr : r = r'
   · have dr := decide_eq_true hr
     have e : lessC s c r s' c' r' = decide (c < c') := by unfold lessC; rw [if_pos hs, if_pos hr]
     simp +decide (maxDischargeDepth := 200) only [go_sem, ds, dr, e, Tryz.results39]
   · have dr := decide_eq_false hr
     have e : lessC s c r s' c' r' = decide (r < r') := by unfold lessC; rw [if_pos hs, if_neg hr]
     simp +decide (maxDischargeDepth := 200) only [go_sem, ds, dr, e, Tryz.results39]
 · have ds := decide_eq_false hs
   have e : lessC s c r s' c' r' = Op.bytesLess s.toList s'.toList := by unfold lessC; rw [if_neg hs]
   simp +decide (maxDischargeDepth := 200) only [go_sem, ds, e, Tryz.results39]
end Go.Proofs.YtfngpfnbhafmlaaGreatDoor
namespace Go.Proofs.YtfngpfnbhafmlaaGreatDoor
open Go Go.RowKit
set_option linter.unusedSimpArgs false
def FClone : List V → Option V
 | [.x (.string s)] => if s.size ≤ 281474976710656 then some (.x (.string s)) else none
 | _ => none
theorem clone0_fun : FunV 31 FClone := by
 refine ⟨fun a w => Tryz.call31 a w, fun m w vs us r hF hd hr hj hg => ?_⟩
 unfold FClone at hF
 split at hF
 case h_2 => cases hF
 rename_i s
 split at hF
 · rename_i h
   cases hF
   obtain rfl := args_eq (xs := [.string s]) hr rfl
   refine (Tryz.stringslite_Clone s w h).mono ?_
   rintro e w' ⟨rfl, hb⟩
   exact ⟨_, m, rfl, .x _, hb, fun _ _ => rfl⟩
 · cases hF
set_option maxRecDepth 100000 in
theorem clone_fun : FunV 18 FClone := by
 refine fun_of_run (E := envOf [(31, FClone)]) (k := 1) (envOK_of _ ⟨clone0_fun, trivial⟩) (by kernel_rfl) Tryz.func18 rfl (fun a w => Tryz.call18 a w) Tryz.ntmps18 (by kernel_rfl) (by decide) (by decide) ?_
 intro us r hF hdat
 unfold FClone at hF
 split at hF
 case h_2 => cases hF
 rename_i s
 split at hF
 · rename_i h
   cases hF
   refine ⟨rfl, ?_⟩
   simp +decide (maxDischargeDepth := 200) only [go_sem, FClone, h, Tryz.results18]
 · cases hF
end Go.Proofs.YtfngpfnbhafmlaaGreatDoor
namespace Go.Proofs.YtfngpfnbhafmlaaGreatDoor
open Go Go.RowKit
set_option linter.unusedSimpArgs false
abbrev C3 := ByteArray × Int × Int
def cellV (p : C3) : V := .agg [.x (.string p.1), .x (.int .i64 p.2.1), .x (.int .i64 p.2.2)]
def cellsOf : List V → Option (List C3)
 | [] => some []
 | .agg [.x (.string s), .x (.int .i64 c), .x (.int .i64 r)] :: l => match cellsOf l with
   | some q => some ((s, c, r) :: q)
   | none => none
 | _ => none
theorem cellsOf_is : ∀ {es : List V} {l : List C3}, cellsOf es = some l → es = l.map cellV
 | [], l, h => by cases h; rfl
 | e :: es, l, h => by
   unfold cellsOf at h
   split at h
   · cases ‹e :: es = []›
   · rename_i s c r l' he
     cases he
     split at h
     · rename_i q hq
       cases h
       rw [cellsOf_is hq]
       rfl
     · cases h
   · cases h
theorem cellsOf_map : ∀ l : List C3, cellsOf (l.map cellV) = some l
 | [] => rfl
 | (s, c, r) :: l => by
   show (match cellsOf (l.map cellV) with | some q => some ((s, c, r) :: q) | none => none) = _
   rw [cellsOf_map l]
def eqC (p q : C3) : Bool := decide (p = q)
theorem eq3 (s : ByteArray) (c r : Int) (s' : ByteArray) (c' r' : Int) : (decide (s = s') && (decide (c = c') && decide (r = r'))) = eqC (s, c, r) (s', c', r') := by
 unfold eqC
 rw [Bool.eq_iff_iff]
 simp [Prod.mk.injEq]
theorem cell_at {l : List C3} {i : Nat} {p : C3} (h : l[i]? = some p) : (l.map cellV)[((i : Int)).toNat]? = some (cellV p) := by
 rw [Int.toNat_natCast, List.getElem?_map, h]; rfl
theorem cellV_mk (p : C3) : cellV p = .agg [.x (.string p.1), .x (.int .i64 p.2.1), .x (.int .i64 p.2.2)] := rfl
theorem getC {l : List C3} {i : Nat} (h : i < l.length) : ∃ p, l[i]? = some p := ⟨_, List.getElem?_eq_getElem h⟩
def rowC (s : ByteArray) (c r : Int) (k : Nat) : List C3 := (List.range k).map fun (x : Nat) => (s, c + (x : Int), r)
def cellsL (s : ByteArray) (c r : Int) (k : Nat) : Nat → List C3
 | 0 => []
 | h + 1 => cellsL s c r k h ++ rowC s c (r + (h : Int)) k
theorem rowC_succ (s : ByteArray) (c r : Int) (k : Nat) : rowC s c r (k + 1) = rowC s c r k ++ [(s, c + (k : Int), r)] := by
 simp [rowC, List.range_succ]
theorem rowC_len (s : ByteArray) (c r : Int) (k : Nat) : (rowC s c r k).length = k := by simp [rowC]
theorem cellsL_len (s : ByteArray) (c r : Int) (k : Nat) : ∀ h, (cellsL s c r k h).length = h * k
 | 0 => by simp [cellsL]
 | h + 1 => by simp [cellsL, cellsL_len s c r k h, rowC_len, Nat.add_mul]
theorem grow_cell {L : List C3} (h : L.length ≤ 1000000) (l : List (Nat × (List V → Option V))) (s : ByteArray) (c r : Int) (st : St) (d tok : Nat) (nl : Bool) (t' : Option Nat) :
 growV (envOf l) st (some d) 25 (.sl false 3 (L.map cellV) (some tok)) (.sl nl 3 [.agg [.x (.string s), .x (.int .i64 c), .x (.int .i64 r)]] t') = some ⟨upd (strip tok (strip d st.t)) d (.sl false 3 (L.map cellV ++ [.agg [.x (.string s), .x (.int .i64 c), .x (.int .i64 r)]]) (some d)), st.b⟩ := by
 have e1 : szB (envOf l).P 25 = some 3 := sz25
 have e2 : byB (envOf l).P 25 = some 32 := by25
 have e3 : zeroB (envOf l).P 25 = some _ := ze25
 unfold growV
 simp only [e1, e2, e3]
 rw [if_pos ⟨by decide, rfl, trivial, .inl trivial, rfl, by rw [List.length_map]; simp only [List.length_cons, List.length_nil]; omega, by rw [List.length_map]; simp only [List.length_cons, List.length_nil]; omega⟩]
 rfl
theorem grow_cell0 (l : List (Nat × (List V → Option V))) (s : ByteArray) (c r : Int) (st : St) (d n : Nat) (tok : Option Nat) (nl : Bool) (t' : Option Nat) :
 growV (envOf l) st (some d) 25 (.sl true n [] tok) (.sl nl 3 [.agg [.x (.string s), .x (.int .i64 c), .x (.int .i64 r)]] t') = some ⟨upd (stripO tok (strip d st.t)) d (.sl false 3 [.agg [.x (.string s), .x (.int .i64 c), .x (.int .i64 r)]] (some d)), st.b⟩ := by
 have e1 : szB (envOf l).P 25 = some 3 := sz25
 have e2 : byB (envOf l).P 25 = some 32 := by25
 have e3 : zeroB (envOf l).P 25 = some _ := ze25
 unfold growV
 simp only [e1, e2, e3]
 rw [if_pos ⟨by decide, rfl, .inl trivial, rfl, by simp only [List.length_cons, List.length_nil]; omega, by simp only [List.length_cons, List.length_nil]; omega⟩]
 cases tok <;> rfl
theorem push_cell (L : List C3) (s : ByteArray) (c r : Int) : L.map cellV ++ [.agg [.x (.string s), .x (.int .i64 c), .x (.int .i64 r)]] = (L ++ [(s, c, r)]).map cellV := by
 rw [List.map_append]; rfl
def cellsA (s : ByteArray) (c r : Int) (s' : ByteArray) (c' r' : Int) : Option (List C3) :=
 if okA s c r s' c' r' = true ∧ areaN c r c' r' ≤ 400 then some (cellsL s c r (c' - c + 1).toNat (r' - r + 1).toNat) else none
def FCells : List V → Option V
 | [.agg [.x (.string s), .x (.int .i64 c), .x (.int .i64 r), .x (.string s'), .x (.int .i64 c'), .x (.int .i64 r')]] => match cellsA s c r s' c' r' with
   | some l => some (.sl false 3 (l.map cellV) none)
   | none => some (.sl true 0 [] none)
 | _ => none
def accV (nil0 : Bool) (tok : Nat) (L : List C3) : V := if nil0 = true ∧ L = [] then .sl true 0 [] none else .sl false 3 (L.map cellV) (some tok)
theorem acc_nil {nil0 : Bool} {tok : Nat} (h : nil0 = true) : accV nil0 tok [] = .sl true 0 [] none := by simp [accV, h]
theorem acc_sl {nil0 : Bool} {tok : Nat} {L : List C3} (h : ¬ (nil0 = true ∧ L = [])) : accV nil0 tok L = .sl false 3 (L.map cellV) (some tok) := if_neg h
theorem acc_push {nil0 : Bool} {tok : Nat} (L : List C3) (p : C3) : accV nil0 tok (L ++ [p]) = .sl false 3 ((L ++ [p]).map cellV) (some tok) := acc_sl (by simp)
set_option maxHeartbeats 4000000 in
set_option maxRecDepth 100000 in
theorem cells_fun : FunV 113 FCells := by
 refine fun_of_run (E := envOf [(123, FArea), (18, FClone)]) (k := 1) (envOK_of _ ⟨area_fun, clone_fun, trivial⟩) (by kernel_rfl) Tryz.func113 rfl (fun a w => Tryz.call113 a w) Tryz.ntmps113 (by kernel_rfl) (by decide) (by decide) ?_
 intro us r hF hdat
 unfold FCells at hF
 split at hF
 case h_2 => cases hF
 rename_i s c r s' c' r'
 cases hok : okA s c r s' c' r'
 · have ha := areaV_no hok
   have hc : cellsA s c r s' c' r' = none := if_neg (by rw [hok]; simp)
   rw [hc] at hF
   cases hF
   refine ⟨rfl, ?_⟩
   simp +decide (maxDischargeDepth := 200) only [go_sem, FArea, ha, Tryz.results113]
 · have ha := areaV_yes hok
   by_cases h4 : areaN c r c' r' ≤ 400
   · have hc : cellsA s c r s' c' r' = some (cellsL s c r (c' - c + 1).toNat (r' - r + 1).toNat) := if_pos ⟨hok, h4⟩
     rw [hc] at hF
     obtain ⟨hR, hR', rfl, hcc, hrr⟩ := okA_iff.1 hok
     obtain ⟨hn, b1, b2, b3, b4⟩ := rightC_iff.1 hR
     obtain ⟨_, b1', b2', b3', b4'⟩ := rightC_iff.1 hR'
     have hin := area_in b1 b2' b3 b4' hcc hrr
     have hsl : s.size ≤ 281474976710656 := by have := name_len hn; omega
     obtain ⟨k, hk⟩ : ∃ k, (c' - c + 1).toNat = k := ⟨_, rfl⟩
     obtain ⟨h, hh⟩ : ∃ h, (r' - r + 1).toNat = h := ⟨_, rfl⟩
     have hkh : h * k ≤ 400 := by
      have e1 : c' - c + 1 = (k : Int) := by omega
      have e2 : r' - r + 1 = (h : Int) := by omega
      have : ((h * k : Nat) : Int) ≤ 400 := by
       have h5 := h4
       unfold areaN at h5
       rw [e1, e2] at h5
       push_cast
       rw [Int.mul_comm]
       exact h5
      omega
     rw [hk, hh] at hF
     cases hF
     refine ⟨rfl, ?_⟩
     have d4 : decide (400 < areaN c r c' r') = false := decide_eq_false (by omega)
     have m1 : (0 : Int) ≤ areaN c r c' r' := by omega
     have m2 : (32 : Int) * areaN c r c' r' ≤ 281474976710656 := by omega
     have m2' : ((32 : Nat) : Int) * areaN c r c' r' ≤ 281474976710656 := by omega
     have m3 : areaN c r c' r' ≤ 9223372036854775807 := by omega
     simp +decide (maxDischargeDepth := 200) only [go_sem, FArea, ha, d4, FClone, hsl, m1, m2, m2', m3, Tryz.results113]
     refine loop_of (X := {p : Nat × Nat // p.1 ≤ h ∧ (p.2 = 25 ∨ p.2 = 52)}) (fun p => [(1, .ptr 1 0), (2, .sl true 0 [] none), (5, .x (.string s)), (6, accV false p.1.2 (cellsL s c r k p.1.1)), (7, .x (.int .i64 (r + (p.1.1 : Int))))]) (fun _ => [(1, [.x (.string s), .x (.int .i64 c), .x (.int .i64 r), .x (.string s), .x (.int .i64 c'), .x (.int .i64 r')])]) (fun p => h - p.1.1) ⟨(0, 25), by simp⟩ (by simp +decide only [go_sem, cellsL]; simp [accV]) (by simp +decide only [go_sem]) (fun ⟨⟨y, tk⟩, hy, htk⟩ => ?_)
     simp only at hy htk
     by_cases hyh : y < h
     · have e0 : decide (r + (y : Int) ≤ r') = true := decide_eq_true (by omega)
       have e9 : bWrap .i64 (r + (y : Int) + 1) = r + ((y + 1 : Nat) : Int) := by rw [bwrap_of (by unfold inR; omega)]; omega
       simp +decide (maxDischargeDepth := 200) only [go_sem, e0, Tryz.results113]
       refine loop_of (X := {p : Nat × Nat // p.1 ≤ k ∧ (p.2 = 25 ∨ p.2 = 52)}) (fun p => [(1, .ptr 1 0), (2, .sl true 0 [] none), (5, .x (.string s)), (6, accV false p.1.2 (cellsL s c r k y ++ rowC s c (r + (y : Int)) p.1.1)), (7, .x (.int .i64 (r + (y : Int)))), (8, .x (.int .i64 (c + (p.1.1 : Int))))]) (fun _ => [(1, [.x (.string s), .x (.int .i64 c), .x (.int .i64 r), .x (.string s), .x (.int .i64 c'), .x (.int .i64 r')])]) (fun p => k - p.1.1) ⟨(0, tk), by simpa using htk⟩ (by simp +decide only [go_sem]; simp [rowC]) (by simp +decide only [go_sem]) (fun ⟨⟨x, tk⟩, hx, htk⟩ => ?_)
       simp only at hx htk
       by_cases hxk : x < k
       · have e1 : decide (c + (x : Int) ≤ c') = true := decide_eq_true (by omega)
         have e3 : bWrap .i64 (c + (x : Int) + 1) = c + ((x + 1 : Nat) : Int) := by rw [bwrap_of (by unfold inR; omega)]; omega
         have hlen : (cellsL s c r k y ++ rowC s c (r + (y : Int)) x).length ≤ 400 := by
          rw [List.length_append, cellsL_len, rowC_len]
          have : (y + 1) * k ≤ h * k := Nat.mul_le_mul_right _ (by omega)
          rw [Nat.add_mul, Nat.one_mul] at this
          omega
         have e6 : (cellsL s c r k y ++ rowC s c (r + (y : Int)) x) ++ [(s, c + (x : Int), r + (y : Int))] = cellsL s c r k y ++ rowC s c (r + (y : Int)) (x + 1) := by rw [rowC_succ, List.append_assoc]
         generalize hL : cellsL s c r k y ++ rowC s c (r + (y : Int)) x = L at hlen e6
         have g1 : ((L.map cellV).length + 1) * 32 ≤ 140737488355328 := by rw [List.length_map]; omega
         have g2 : (L.map cellV).length + 1 ≤ 9223372036854775807 := by rw [List.length_map]; omega
         by_cases hnil : false = true ∧ L = []
         · obtain ⟨hn0, rfl⟩ := hnil
           cases hn0
         · have a0 := acc_sl (tok := tk) hnil
           simp +decide (maxDischargeDepth := 200) only [go_sem, a0, e1, e3, grow_cell (L := L) (by omega), grow_cell0, push_cell, Tryz.results113]
           refine ⟨⟨(x + 1, 52), by simp; omega⟩, ?_, ?_, by simp only; omega⟩
           · simp +decide only [go_sem, ← e6, acc_push, push_cell]
           · simp +decide only [go_sem]
       · have e1 : decide (c + (x : Int) ≤ c') = false := decide_eq_false (by omega)
         have hxe : x = k := by omega
         subst hxe
         simp +decide (maxDischargeDepth := 200) only [go_sem, e1, e9, Tryz.results113]
         refine ⟨⟨(y + 1, tk), by simp only; omega, by simp only; exact htk⟩, ?_, ?_, by simp only; omega⟩
         · simp +decide only [go_sem, cellsL]
         · simp +decide only [go_sem]
     · have e0 : decide (r + (y : Int) ≤ r') = false := decide_eq_false (by omega)
       have hye : y = h := by omega
       subst hye
       have hne : ¬ (false = true ∧ cellsL s c r k y = []) := by
        rintro ⟨_, hh0⟩
        have := cellsL_len s c r k y
        rw [hh0] at this
        have hp : 0 < y * k := Nat.mul_pos (by omega) (by omega)
        simp at this
        omega
       have a0 := acc_sl (tok := tk) hne
       simp +decide (maxDischargeDepth := 200) only [go_sem, e0, a0, Tryz.results113]
   · have hc : cellsA s c r s' c' r' = none := if_neg (fun hh => h4 hh.2)
     rw [hc] at hF
     cases hF
     refine ⟨rfl, ?_⟩
     have d4 : decide (400 < areaN c r c' r') = true := decide_eq_true (by omega)
     simp +decide (maxDischargeDepth := 200) only [go_sem, FArea, ha, d4, Tryz.results113]
set_option maxHeartbeats 4000000 in
set_option maxRecDepth 100000 in
theorem rcells_fun : FunV 24 FCells := by
 refine fun_of_run (E := envOf [(40, FArea)]) (k := 1) (envOK_of _ ⟨rarea_fun, trivial⟩) (by kernel_rfl) Tryz.func24 rfl (fun a w => Tryz.call24 a w) Tryz.ntmps24 (by kernel_rfl) (by decide) (by decide) ?_
 intro us r hF hdat
 unfold FCells at hF
 split at hF
 case h_2 => cases hF
 rename_i s c r s' c' r'
 cases hok : okA s c r s' c' r'
 · have ha := areaV_no hok
   have hc : cellsA s c r s' c' r' = none := if_neg (by rw [hok]; simp)
   rw [hc] at hF
   cases hF
   refine ⟨rfl, ?_⟩
   simp +decide (maxDischargeDepth := 200) only [go_sem, FArea, ha, Tryz.results24]
 · have ha := areaV_yes hok
   by_cases h4 : areaN c r c' r' ≤ 400
   · have hc : cellsA s c r s' c' r' = some (cellsL s c r (c' - c + 1).toNat (r' - r + 1).toNat) := if_pos ⟨hok, h4⟩
     rw [hc] at hF
     obtain ⟨hR, hR', rfl, hcc, hrr⟩ := okA_iff.1 hok
     obtain ⟨hn, b1, b2, b3, b4⟩ := rightC_iff.1 hR
     obtain ⟨_, b1', b2', b3', b4'⟩ := rightC_iff.1 hR'
     have hin := area_in b1 b2' b3 b4' hcc hrr
     have hsl : s.size ≤ 281474976710656 := by have := name_len hn; omega
     obtain ⟨k, hk⟩ : ∃ k, (c' - c + 1).toNat = k := ⟨_, rfl⟩
     obtain ⟨h, hh⟩ : ∃ h, (r' - r + 1).toNat = h := ⟨_, rfl⟩
     have hkh : h * k ≤ 400 := by
      have e1 : c' - c + 1 = (k : Int) := by omega
      have e2 : r' - r + 1 = (h : Int) := by omega
      have : ((h * k : Nat) : Int) ≤ 400 := by
       have h5 := h4
       unfold areaN at h5
       rw [e1, e2] at h5
       push_cast
       rw [Int.mul_comm]
       exact h5
      omega
     rw [hk, hh] at hF
     cases hF
     refine ⟨rfl, ?_⟩
     have d4 : decide (400 < areaN c r c' r') = false := decide_eq_false (by omega)
     have m1 : (0 : Int) ≤ areaN c r c' r' := by omega
     have m2 : (32 : Int) * areaN c r c' r' ≤ 281474976710656 := by omega
     have m2' : ((32 : Nat) : Int) * areaN c r c' r' ≤ 281474976710656 := by omega
     have m3 : areaN c r c' r' ≤ 9223372036854775807 := by omega
     simp +decide (maxDischargeDepth := 200) only [go_sem, FArea, ha, d4, FClone, hsl, m1, m2, m2', m3, Tryz.results24]
     refine loop_of (X := {p : Nat × Nat // p.1 ≤ h ∧ (p.2 = 47 ∨ p.2 = 47)}) (fun p => [(1, .ptr 1 0), (2, .sl true 0 [] none), (5, accV true p.1.2 (cellsL s c r k p.1.1)), (6, .x (.int .i64 (r + (p.1.1 : Int))))]) (fun _ => [(1, [.x (.string s), .x (.int .i64 c), .x (.int .i64 r), .x (.string s), .x (.int .i64 c'), .x (.int .i64 r')])]) (fun p => h - p.1.1) ⟨(0, 47), by simp⟩ (by simp +decide only [go_sem, cellsL]; simp [accV]) (by simp +decide only [go_sem]) (fun ⟨⟨y, tk⟩, hy, htk⟩ => ?_)
     simp only at hy htk
     by_cases hyh : y < h
     · have e0 : decide (r + (y : Int) ≤ r') = true := decide_eq_true (by omega)
       have e9 : bWrap .i64 (r + (y : Int) + 1) = r + ((y + 1 : Nat) : Int) := by rw [bwrap_of (by unfold inR; omega)]; omega
       simp +decide (maxDischargeDepth := 200) only [go_sem, e0, Tryz.results24]
       refine loop_of (X := {p : Nat × Nat // p.1 ≤ k ∧ (p.2 = 47 ∨ p.2 = 47)}) (fun p => [(1, .ptr 1 0), (2, .sl true 0 [] none), (5, accV true p.1.2 (cellsL s c r k y ++ rowC s c (r + (y : Int)) p.1.1)), (6, .x (.int .i64 (r + (y : Int)))), (7, .x (.int .i64 (c + (p.1.1 : Int))))]) (fun _ => [(1, [.x (.string s), .x (.int .i64 c), .x (.int .i64 r), .x (.string s), .x (.int .i64 c'), .x (.int .i64 r')])]) (fun p => k - p.1.1) ⟨(0, tk), by simpa using htk⟩ (by simp +decide only [go_sem]; simp [rowC]) (by simp +decide only [go_sem]) (fun ⟨⟨x, tk⟩, hx, htk⟩ => ?_)
       simp only at hx htk
       by_cases hxk : x < k
       · have e1 : decide (c + (x : Int) ≤ c') = true := decide_eq_true (by omega)
         have e3 : bWrap .i64 (c + (x : Int) + 1) = c + ((x + 1 : Nat) : Int) := by rw [bwrap_of (by unfold inR; omega)]; omega
         have hlen : (cellsL s c r k y ++ rowC s c (r + (y : Int)) x).length ≤ 400 := by
          rw [List.length_append, cellsL_len, rowC_len]
          have : (y + 1) * k ≤ h * k := Nat.mul_le_mul_right _ (by omega)
          rw [Nat.add_mul, Nat.one_mul] at this
          omega
         have e6 : (cellsL s c r k y ++ rowC s c (r + (y : Int)) x) ++ [(s, c + (x : Int), r + (y : Int))] = cellsL s c r k y ++ rowC s c (r + (y : Int)) (x + 1) := by rw [rowC_succ, List.append_assoc]
         generalize hL : cellsL s c r k y ++ rowC s c (r + (y : Int)) x = L at hlen e6
         have g1 : ((L.map cellV).length + 1) * 32 ≤ 140737488355328 := by rw [List.length_map]; omega
         have g2 : (L.map cellV).length + 1 ≤ 9223372036854775807 := by rw [List.length_map]; omega
         by_cases hnil : true = true ∧ L = []
         · obtain ⟨hn0, rfl⟩ := hnil
           have a0 := acc_nil (tok := tk) hn0
           simp +decide (maxDischargeDepth := 200) only [go_sem, a0, e1, e3, grow_cell0, push_cell, Tryz.results24]
           refine ⟨⟨(x + 1, 47), by simp; omega⟩, ?_, ?_, by simp only; omega⟩
           · simp +decide only [go_sem, ← e6, acc_push, push_cell]
             simp [accV, cellV]
           · simp +decide only [go_sem]
         · have a0 := acc_sl (tok := tk) hnil
           simp +decide (maxDischargeDepth := 200) only [go_sem, a0, e1, e3, grow_cell (L := L) (by omega), grow_cell0, push_cell, Tryz.results24]
           refine ⟨⟨(x + 1, 47), by simp; omega⟩, ?_, ?_, by simp only; omega⟩
           · simp +decide only [go_sem, ← e6, acc_push, push_cell]
           · simp +decide only [go_sem]
       · have e1 : decide (c + (x : Int) ≤ c') = false := decide_eq_false (by omega)
         have hxe : x = k := by omega
         subst hxe
         simp +decide (maxDischargeDepth := 200) only [go_sem, e1, e9, Tryz.results24]
         refine ⟨⟨(y + 1, tk), by simp only; omega, by simp only; exact htk⟩, ?_, ?_, by simp only; omega⟩
         · simp +decide only [go_sem, cellsL]
         · simp +decide only [go_sem]
     · have e0 : decide (r + (y : Int) ≤ r') = false := decide_eq_false (by omega)
       have hye : y = h := by omega
       subst hye
       have hne : ¬ (true = true ∧ cellsL s c r k y = []) := by
        rintro ⟨_, hh0⟩
        have := cellsL_len s c r k y
        rw [hh0] at this
        have hp : 0 < y * k := Nat.mul_pos (by omega) (by omega)
        simp at this
        omega
       have a0 := acc_sl (tok := tk) hne
       simp +decide (maxDischargeDepth := 200) only [go_sem, e0, a0, Tryz.results24]
   · have hc : cellsA s c r s' c' r' = none := if_neg (fun hh => h4 hh.2)
     rw [hc] at hF
     cases hF
     refine ⟨rfl, ?_⟩
     have d4 : decide (400 < areaN c r c' r') = true := decide_eq_true (by omega)
     simp +decide (maxDischargeDepth := 200) only [go_sem, FArea, ha, d4, Tryz.results24]
end Go.Proofs.YtfngpfnbhafmlaaGreatDoor
