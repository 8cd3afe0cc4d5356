/- Which values may be: package value and the reference, as functions of plain data. -/
import Derived.Test.YtfngpfnbhafmlaaGreatDoorMPO
import Derived.Shelf.Strconv.AtoiAll
import Derived.KernelRfl
import Derived.Lib.Bytealg
namespace Go.Proofs.YtfngpfnbhafmlaaGreatDoor
open Go Go.RowKit
set_option linter.unusedSimpArgs false
def rightV (k n : Int) (s : ByteArray) : Bool :=
 bif decide (k = 0) then decide (n = 0) && decide (s = ⟨#[]⟩) else bif decide (k = 1) then decide (s = ⟨#[]⟩) else bif decide (k = 2) then decide (n = 0) && decide ((s.size : Int) ≤ 200) else
  bif decide (k = 3) then (decide (n = 0) || decide (n = 1)) && decide (s = ⟨#[]⟩) else bif decide (k = 4) then decide (1 ≤ n) && (decide (n ≤ 7) && decide (s = ⟨#[]⟩)) else false
def FRightV : List V → Option V
 | [.agg [.x (.int .i64 k), .x (.int .i64 n), .x (.string s)]] => some (.x (.bool (rightV k n s)))
 | _ => none
set_option maxHeartbeats 2000000 in
set_option maxRecDepth 100000 in
theorem vright_fun : FunV 43 FRightV := by
 refine fun_of_run (E := envOf []) (k := 1) (envOK_of _ trivial) (by kernel_rfl) Tryz.func43 rfl (fun a w => Tryz.call43 a w) Tryz.ntmps43 (by kernel_rfl) (by decide) (by decide) ?_
 intro us r hF hdat
 unfold FRightV at hF
 split at hF
 case h_2 => cases hF
 rename_i k n s
 cases hF
 refine ⟨rfl, ?_⟩
 simp +decide (maxDischargeDepth := 200) only [go_sem, Tryz.results43]
 repeat' first
  | simp +decide (maxDischargeDepth := 200) only [go_sem, Tryz.results43, *]
  | refine guardK_openF (fun _ => ?_) (fun _ => ?_)
  | refine guardK_openN (fun _ => ?_) (fun _ => ?_)
  | refine guardK_openT (fun _ => ?_) (fun _ => ?_)
  | refine guardK_open (fun _ => ?_) (fun _ => ?_)
  | refine condK_openN (fun _ => ?_) (fun _ => ?_)
  | refine condK_open (fun _ => ?_) (fun _ => ?_)
 all_goals simp +decide only [rightV, go_sem, *]
end Go.Proofs.YtfngpfnbhafmlaaGreatDoor
namespace Go.Proofs.YtfngpfnbhafmlaaGreatDoor
open Go Go.RowKit
set_option linter.unusedSimpArgs false
set_option maxRecDepth 100000 in
theorem small_fun : FunV 139 FSmall := by
 refine fun_of_run (E := envOf []) (k := 1) (envOK_of _ trivial) (by kernel_rfl) Tryz.func139 rfl (fun a w => Tryz.call139 a w) Tryz.ntmps139 (by kernel_rfl) (by decide) (by decide) ?_
 intro us r hF hdat
 unfold FSmall at hF
 split at hF
 case h_2 => cases hF
 rename_i b
 cases hF
 refine ⟨rfl, ?_⟩
 by_cases h : 97 ≤ b
 · have h1 := decide_eq_true h
   simp +decide (maxDischargeDepth := 200) only [go_sem, h1, smallI, Tryz.results139]
 · have h1 := decide_eq_false h
   simp +decide (maxDischargeDepth := 200) only [go_sem, h1, smallI, Tryz.results139]
set_option maxRecDepth 100000 in
theorem digit_fun : FunV 140 FDigit := by
 refine fun_of_run (E := envOf []) (k := 1) (envOK_of _ trivial) (by kernel_rfl) Tryz.func140 rfl (fun a w => Tryz.call140 a w) Tryz.ntmps140 (by kernel_rfl) (by decide) (by decide) ?_
 intro us r hF hdat
 unfold FDigit at hF
 split at hF
 case h_2 => cases hF
 rename_i b
 cases hF
 refine ⟨rfl, ?_⟩
 by_cases h : 48 ≤ b
 · have h1 := decide_eq_true h
   simp +decide (maxDischargeDepth := 200) only [go_sem, h1, digitI, Tryz.results140]
 · have h1 := decide_eq_false h
   simp +decide (maxDischargeDepth := 200) only [go_sem, h1, digitI, Tryz.results140]
set_option maxRecDepth 100000 in
theorem rsmall_fun : FunV 78 FSmall := by
 refine fun_of_run (E := envOf []) (k := 1) (envOK_of _ trivial) (by kernel_rfl) Tryz.func78 rfl (fun a w => Tryz.call78 a w) Tryz.ntmps78 (by kernel_rfl) (by decide) (by decide) ?_
 intro us r hF hdat
 unfold FSmall at hF
 split at hF
 case h_2 => cases hF
 rename_i b
 cases hF
 refine ⟨rfl, ?_⟩
 by_cases h : 97 ≤ b
 · have h1 := decide_eq_true h
   simp +decide (maxDischargeDepth := 200) only [go_sem, h1, smallI, Tryz.results78]
 · have h1 := decide_eq_false h
   simp +decide (maxDischargeDepth := 200) only [go_sem, h1, smallI, Tryz.results78]
set_option maxRecDepth 100000 in
theorem rdigit_fun : FunV 79 FDigit := by
 refine fun_of_run (E := envOf []) (k := 1) (envOK_of _ trivial) (by kernel_rfl) Tryz.func79 rfl (fun a w => Tryz.call79 a w) Tryz.ntmps79 (by kernel_rfl) (by decide) (by decide) ?_
 intro us r hF hdat
 unfold FDigit at hF
 split at hF
 case h_2 => cases hF
 rename_i b
 cases hF
 refine ⟨rfl, ?_⟩
 by_cases h : 48 ≤ b
 · have h1 := decide_eq_true h
   simp +decide (maxDischargeDepth := 200) only [go_sem, h1, digitI, Tryz.results79]
 · have h1 := decide_eq_false h
   simp +decide (maxDischargeDepth := 200) only [go_sem, h1, digitI, Tryz.results79]
def okNm (b : Int) : Bool := smallI b || digitI b
def nameB (s : ByteArray) : Bool := decide (1 ≤ s.size) && decide (s.size ≤ 8) && smallI (byteV s 0) && (List.range s.size).all fun j => j == 0 || okNm (byteV s j)
def FName : List V → Option V
 | [.x (.string s)] => some (.x (.bool (nameB s)))
 | _ => none
theorem nameB_short {s : ByteArray} (h : s.size < 1) : nameB s = false := by simp [nameB]; omega
theorem nameB_long {s : ByteArray} (h : 8 < s.size) : nameB s = false := by simp [nameB]; omega
theorem nameB_first {s : ByteArray} (h : smallI (byteV s 0) = false) : nameB s = false := by simp [nameB, h]
theorem nameB_at {s : ByteArray} {j : Nat} (h0 : 1 ≤ j) (hj : j < s.size) (h : okNm (byteV s j) = false) : nameB s = false := by
 cases hn : nameB s with
 | false => rfl
 | true =>
   simp only [nameB, Bool.and_eq_true] at hn
   have := List.all_eq_true.1 hn.2 j (List.mem_range.2 hj)
   simp [h] at this
   omega
theorem nameB_all {s : ByteArray} (h1 : 1 ≤ s.size) (h8 : s.size ≤ 8) (hs : smallI (byteV s 0) = true) (h : ∀ j : Nat, 1 ≤ j → j < s.size → okNm (byteV s j) = true) : nameB s = true := by
 simp only [nameB, Bool.and_eq_true, decide_eq_true_eq]
 refine ⟨⟨⟨h1, h8⟩, hs⟩, List.all_eq_true.2 fun j hj => ?_⟩
 rw [List.mem_range] at hj
 by_cases h0 : j = 0
 · simp [h0]
 · simp [h j (by omega) hj]
set_option maxRecDepth 100000 in
theorem name_fun : FunV 122 FName := by
 refine fun_of_run (E := envOf [(139, FSmall), (140, FDigit)]) (k := 1) (envOK_of _ ⟨small_fun, digit_fun, trivial⟩) (by kernel_rfl) Tryz.func122 rfl (fun a w => Tryz.call122 a w) Tryz.ntmps122 (by kernel_rfl) (by decide) (by decide) ?_
 intro us r hF hdat
 unfold FName at hF
 split at hF
 case h_2 => cases hF
 rename_i s
 cases hF
 refine ⟨rfl, ?_⟩
 by_cases hl : s.size < 1
 · have e := nameB_short hl
   have h1 : decide ((s.size : Int) < 1) = true := decide_eq_true (by omega)
   simp +decide (maxDischargeDepth := 200) only [go_sem, h1, e, Tryz.results122]
 · by_cases hg : 8 < s.size
   · have e := nameB_long hg
     have h1 : decide ((s.size : Int) < 1) = false := decide_eq_false (by omega)
     have h2 : decide (8 < (s.size : Int)) = true := decide_eq_true (by omega)
     simp +decide (maxDischargeDepth := 200) only [go_sem, h1, h2, e, Tryz.results122]
   · have h1 : decide ((s.size : Int) < 1) = false := decide_eq_false (by omega)
     have h2 : decide (8 < (s.size : Int)) = false := decide_eq_false (by omega)
     have h3 : (0 : Int) < (s.size : Int) := by omega
     cases hs : smallI (byteV s 0)
     · have e := nameB_first hs
       simp +decide (maxDischargeDepth := 200) only [go_sem, h1, h2, h3, hs, e, FSmall, Tryz.results122]
     · simp +decide (maxDischargeDepth := 200) only [go_sem, h1, h2, h3, hs, FSmall, Tryz.results122]
       refine loop_of (X := {i : Nat // 1 ≤ i ∧ i ≤ s.size ∧ ∀ j : Nat, 1 ≤ j → j < i → okNm (byteV s j) = true}) (fun i => [(0, .x (.string s)), (3, .x (.int .i64 i.1))]) (fun _ => []) (fun i => s.size - i.1) ⟨1, by omega, by omega, fun j h1 h2 => by omega⟩ (by simp +decide only [go_sem]; rfl) trivial (fun ⟨i, hi1, hi2, hok⟩ => ?_)
       by_cases hi : i < s.size
       · have c1 : decide ((i : Int) < (s.size : Int)) = true := decide_eq_true (by omega)
         have c2 : (0 : Int) ≤ (i : Int) := by omega
         have c3 : (i : Int) < (s.size : Int) := by omega
         have c4 := count_up (i := i) (by omega)
         cases hb : smallI (byteV s i)
         · cases hb2 : digitI (byteV s i)
           · have e := nameB_at hi1 hi (show okNm (byteV s i) = false by simp [okNm, hb, hb2])
             simp +decide (maxDischargeDepth := 200) only [go_sem, c1, c2, c3, c4, hb, hb2, e, FSmall, FDigit, Tryz.results122]
           · simp +decide (maxDischargeDepth := 200) only [go_sem, c1, c2, c3, c4, hb, hb2, FSmall, FDigit, Tryz.results122]
             refine ⟨⟨i + 1, by omega, by omega, fun j h1 h2 => ?_⟩, ?_, trivial, ?_⟩
             rotate_left
             · simp +decide only [go_sem]
             · simp only; omega
             by_cases hj : j = i
             · subst hj; simp [okNm, hb2]
             · exact hok j h1 (by omega)
         · simp +decide (maxDischargeDepth := 200) only [go_sem, c1, c2, c3, c4, hb, FSmall, FDigit, Tryz.results122]
           refine ⟨⟨i + 1, by omega, by omega, fun j h1 h2 => ?_⟩, ?_, trivial, ?_⟩
           rotate_left
           · simp +decide only [go_sem]
           · simp only; omega
           by_cases hj : j = i
           · subst hj; simp [okNm, hb]
           · exact hok j h1 (by omega)
       · have c1 : decide ((i : Int) < (s.size : Int)) = false := decide_eq_false (by omega)
         have e := nameB_all (s := s) (by omega) (by omega) hs (fun j h1 h2 => hok j h1 (by omega))
         simp +decide (maxDischargeDepth := 200) only [go_sem, c1, e, Tryz.results122]
set_option maxRecDepth 100000 in
theorem rname_fun : FunV 38 FName := by
 refine fun_of_run (E := envOf [(78, FSmall), (79, FDigit)]) (k := 1) (envOK_of _ ⟨rsmall_fun, rdigit_fun, trivial⟩) (by kernel_rfl) Tryz.func38 rfl (fun a w => Tryz.call38 a w) Tryz.ntmps38 (by kernel_rfl) (by decide) (by decide) ?_
 intro us r hF hdat
 unfold FName at hF
 split at hF
 case h_2 => cases hF
 rename_i s
 cases hF
 refine ⟨rfl, ?_⟩
 by_cases hl : s.size < 1
 · have e := nameB_short hl
   have h1 : decide ((s.size : Int) < 1) = true := decide_eq_true (by omega)
   simp +decide (maxDischargeDepth := 200) only [go_sem, h1, e, Tryz.results38]
 · by_cases hg : 8 < s.size
   · have e := nameB_long hg
     have h1 : decide ((s.size : Int) < 1) = false := decide_eq_false (by omega)
     have h2 : decide (8 < (s.size : Int)) = true := decide_eq_true (by omega)
     simp +decide (maxDischargeDepth := 200) only [go_sem, h1, h2, e, Tryz.results38]
   · have h1 : decide ((s.size : Int) < 1) = false := decide_eq_false (by omega)
     have h2 : decide (8 < (s.size : Int)) = false := decide_eq_false (by omega)
     have h3 : (0 : Int) < (s.size : Int) := by omega
     cases hs : smallI (byteV s 0)
     · have e := nameB_first hs
       simp +decide (maxDischargeDepth := 200) only [go_sem, h1, h2, h3, hs, e, FSmall, Tryz.results38]
     · simp +decide (maxDischargeDepth := 200) only [go_sem, h1, h2, h3, hs, FSmall, Tryz.results38]
       refine loop_of (X := {i : Nat // 1 ≤ i ∧ i ≤ s.size ∧ ∀ j : Nat, 1 ≤ j → j < i → okNm (byteV s j) = true}) (fun i => [(0, .x (.string s)), (3, .x (.int .i64 i.1))]) (fun _ => []) (fun i => s.size - i.1) ⟨1, by omega, by omega, fun j h1 h2 => by omega⟩ (by simp +decide only [go_sem]; rfl) trivial (fun ⟨i, hi1, hi2, hok⟩ => ?_)
       by_cases hi : i < s.size
       · have c1 : decide ((i : Int) < (s.size : Int)) = true := decide_eq_true (by omega)
         have c2 : (0 : Int) ≤ (i : Int) := by omega
         have c3 : (i : Int) < (s.size : Int) := by omega
         have c4 := count_up (i := i) (by omega)
         cases hb : smallI (byteV s i)
         · cases hb2 : digitI (byteV s i)
           · have e := nameB_at hi1 hi (show okNm (byteV s i) = false by simp [okNm, hb, hb2])
             simp +decide (maxDischargeDepth := 200) only [go_sem, c1, c2, c3, c4, hb, hb2, e, FSmall, FDigit, Tryz.results38]
           · simp +decide (maxDischargeDepth := 200) only [go_sem, c1, c2, c3, c4, hb, hb2, FSmall, FDigit, Tryz.results38]
             refine ⟨⟨i + 1, by omega, by omega, fun j h1 h2 => ?_⟩, ?_, trivial, ?_⟩
             rotate_left
             · simp +decide only [go_sem]
             · simp only; omega
             by_cases hj : j = i
             · subst hj; simp [okNm, hb2]
             · exact hok j h1 (by omega)
         · simp +decide (maxDischargeDepth := 200) only [go_sem, c1, c2, c3, c4, hb, FSmall, FDigit, Tryz.results38]
           refine ⟨⟨i + 1, by omega, by omega, fun j h1 h2 => ?_⟩, ?_, trivial, ?_⟩
           rotate_left
           · simp +decide only [go_sem]
           · simp only; omega
           by_cases hj : j = i
           · subst hj; simp [okNm, hb]
           · exact hok j h1 (by omega)
       · have c1 : decide ((i : Int) < (s.size : Int)) = false := decide_eq_false (by omega)
         have e := nameB_all (s := s) (by omega) (by omega) hs (fun j h1 h2 => hok j h1 (by omega))
         simp +decide (maxDischargeDepth := 200) only [go_sem, c1, e, Tryz.results38]
end Go.Proofs.YtfngpfnbhafmlaaGreatDoor
namespace Go.Proofs.YtfngpfnbhafmlaaGreatDoor
open Go Go.RowKit
set_option linter.unusedSimpArgs false
def rightC (s : ByteArray) (c r : Int) : Bool := nameB s && decide (1 ≤ c) && decide (c ≤ 702) && decide (1 ≤ r) && decide (r ≤ 999)
theorem rightC_iff {s : ByteArray} {c r : Int} : rightC s c r = true ↔ nameB s = true ∧ 1 ≤ c ∧ c ≤ 702 ∧ 1 ≤ r ∧ r ≤ 999 := by
 simp [rightC, and_assoc]
abbrev cl (s : ByteArray) (c r : Int) : V := .agg [.x (.string s), .x (.int .i64 c), .x (.int .i64 r)]
attribute [go_sem] cl
def FRightC : List V → Option V
 | [.agg [.x (.string s), .x (.int .i64 c), .x (.int .i64 r)]] => some (.x (.bool (rightC s c r)))
 | _ => none
set_option maxRecDepth 100000 in
theorem right_fun : FunV 81 FRightC := by
 refine fun_of_run (E := envOf [(122, FName)]) (k := 1) (envOK_of _ ⟨name_fun, trivial⟩) (by kernel_rfl) Tryz.func81 rfl (fun a w => Tryz.call81 a w) Tryz.ntmps81 (by kernel_rfl) (by decide) (by decide) ?_
 intro us r hF hdat
 unfold FRightC at hF
 split at hF
 case h_2 => cases hF
 rename_i s c r
 cases hF
 refine ⟨rfl, ?_⟩
 cases hn : nameB s
 · simp +decide (maxDischargeDepth := 200) only [go_sem, FName, hn, rightC, Tryz.results81]
 · by_cases h1 : 1 ≤ c
   · have d1 := decide_eq_true h1
     by_cases h2 : c ≤ 702
     · have d2 := decide_eq_true h2
       by_cases h3 : 1 ≤ r
       · have d3 := decide_eq_true h3
         simp +decide (maxDischargeDepth := 200) only [go_sem, FName, hn, rightC, d1, d2, d3, Tryz.results81]
       · have d3 := decide_eq_false h3
         simp +decide (maxDischargeDepth := 200) only [go_sem, FName, hn, rightC, d1, d2, d3, Tryz.results81]
     · have d2 := decide_eq_false h2
       simp +decide (maxDischargeDepth := 200) only [go_sem, FName, hn, rightC, d1, d2, Tryz.results81]
   · have d1 := decide_eq_false h1
     simp +decide (maxDischargeDepth := 200) only [go_sem, FName, hn, rightC, d1, Tryz.results81]
set_option maxRecDepth 100000 in
theorem rright_fun : FunV 22 FRightC := by
 refine fun_of_run (E := envOf [(38, FName)]) (k := 1) (envOK_of _ ⟨rname_fun, trivial⟩) (by kernel_rfl) Tryz.func22 rfl (fun a w => Tryz.call22 a w) Tryz.ntmps22 (by kernel_rfl) (by decide) (by decide) ?_
 intro us r hF hdat
 unfold FRightC at hF
 split at hF
 case h_2 => cases hF
 rename_i s c r
 cases hF
 refine ⟨rfl, ?_⟩
 cases hn : nameB s
 · simp +decide (maxDischargeDepth := 200) only [go_sem, FName, hn, rightC, Tryz.results22]
 · by_cases h1 : 1 ≤ c
   · have d1 := decide_eq_true h1
     by_cases h2 : c ≤ 702
     · have d2 := decide_eq_true h2
       by_cases h3 : 1 ≤ r
       · have d3 := decide_eq_true h3
         simp +decide (maxDischargeDepth := 200) only [go_sem, FName, hn, rightC, d1, d2, d3, Tryz.results22]
       · have d3 := decide_eq_false h3
         simp +decide (maxDischargeDepth := 200) only [go_sem, FName, hn, rightC, d1, d2, d3, Tryz.results22]
     · have d2 := decide_eq_false h2
       simp +decide (maxDischargeDepth := 200) only [go_sem, FName, hn, rightC, d1, d2, Tryz.results22]
   · have d1 := decide_eq_false h1
     simp +decide (maxDischargeDepth := 200) only [go_sem, FName, hn, rightC, d1, Tryz.results22]
def okA (s : ByteArray) (c r : Int) (s' : ByteArray) (c' r' : Int) : Bool := rightC s c r && rightC s' c' r' && decide (s = s') && decide (c ≤ c') && decide (r ≤ r')
def areaN (c r c' r' : Int) : Int := (c' - c + 1) * (r' - r + 1)
theorem okA_iff {s : ByteArray} {c r : Int} {s' : ByteArray} {c' r' : Int} : okA s c r s' c' r' = true ↔ rightC s c r = true ∧ rightC s' c' r' = true ∧ s = s' ∧ c ≤ c' ∧ r ≤ r' := by
 simp [okA, and_assoc]
theorem okA_1 {s : ByteArray} {c r : Int} {s' : ByteArray} {c' r' : Int} (h : rightC s c r = false) : okA s c r s' c' r' = false := by simp [okA, h]
theorem okA_2 {s : ByteArray} {c r : Int} {s' : ByteArray} {c' r' : Int} (h : rightC s' c' r' = false) : okA s c r s' c' r' = false := by simp [okA, h]
theorem okA_3 {s : ByteArray} {c r : Int} {s' : ByteArray} {c' r' : Int} (h : ¬ s = s') : okA s c r s' c' r' = false := by simp [okA, h]
theorem okA_4 {s : ByteArray} {c r : Int} {s' : ByteArray} {c' r' : Int} (h : ¬ c ≤ c') : okA s c r s' c' r' = false := by simp [okA, h]
theorem okA_5 {s : ByteArray} {c r : Int} {s' : ByteArray} {c' r' : Int} (h : ¬ r ≤ r') : okA s c r s' c' r' = false := by simp [okA, h]
def areaV (s : ByteArray) (c r : Int) (s' : ByteArray) (c' r' : Int) : V :=
 if okA s c r s' c' r' = true then .tup [.x (.int .i64 (areaN c r c' r')), .x (.bool true)] else .tup [.x (.int .i64 0), .x (.bool false)]
theorem areaV_no {s : ByteArray} {c r : Int} {s' : ByteArray} {c' r' : Int} (h : okA s c r s' c' r' = false) : areaV s c r s' c' r' = .tup [.x (.int .i64 0), .x (.bool false)] := by
 unfold areaV
 rw [if_neg (by rw [h]; decide)]
theorem areaV_yes {s : ByteArray} {c r : Int} {s' : ByteArray} {c' r' : Int} (h : okA s c r s' c' r' = true) : areaV s c r s' c' r' = .tup [.x (.int .i64 (areaN c r c' r')), .x (.bool true)] := if_pos h
theorem area_in {c r c' r' : Int} (h1 : 1 ≤ c) (h2 : c' ≤ 702) (h3 : 1 ≤ r) (h4 : r' ≤ 999) (h5 : c ≤ c') (h6 : r ≤ r') : 1 ≤ areaN c r c' r' ∧ areaN c r c' r' ≤ 1000000 := by
 unfold areaN
 obtain ⟨a, ha⟩ : ∃ a : Nat, c' - c = a := ⟨(c' - c).toNat, by omega⟩
 obtain ⟨b, hb⟩ : ∃ b : Nat, r' - r = b := ⟨(r' - r).toNat, by omega⟩
 rw [ha, hb]
 have h : (a + 1) * (b + 1) ≤ 702 * 999 := Nat.mul_le_mul (by omega) (by omega)
 have h' : 1 * 1 ≤ (a + 1) * (b + 1) := Nat.mul_le_mul (by omega) (by omega)
 have e : ((a : Int) + 1) * ((b : Int) + 1) = (((a + 1) * (b + 1) : Nat) : Int) := by push_cast; rfl
 rw [e]
 omega
def FArea : List V → Option V
 | [.agg [.x (.string s), .x (.int .i64 c), .x (.int .i64 r), .x (.string s'), .x (.int .i64 c'), .x (.int .i64 r')]] => some (areaV s c r s' c' r')
 | _ => none
set_option maxHeartbeats 2000000 in
set_option maxRecDepth 100000 in
theorem area_fun : FunV 123 FArea := by
 refine fun_of_run (E := envOf [(81, FRightC)]) (k := 1) (envOK_of _ ⟨right_fun, trivial⟩) (by kernel_rfl) Tryz.func123 rfl (fun a w => Tryz.call123 a w) Tryz.ntmps123 (by kernel_rfl) (by decide) (by decide) ?_
 intro us r hF hdat
 unfold FArea at hF
 split at hF
 case h_2 => cases hF
 rename_i s c r s' c' r'
 cases hF
 refine ⟨rfl, ?_⟩
 cases hR : rightC s c r
 · rw [areaV_no (okA_1 hR)]
   simp +decide (maxDischargeDepth := 200) only [go_sem, FRightC, hR, Tryz.results123]
 · cases hR' : rightC s' c' r'
   · rw [areaV_no (okA_2 hR')]
     simp +decide (maxDischargeDepth := 200) only [go_sem, FRightC, hR, hR', Tryz.results123]
   · by_cases hs : s = s'
     · obtain ⟨_, b1, b2, b3, b4⟩ := rightC_iff.1 hR
       obtain ⟨_, b1', b2', b3', b4'⟩ := rightC_iff.1 hR'
       have ds := decide_eq_true hs
       have w1 : bWrap .i64 (c' - c) = c' - c := bwrap_of (by unfold inR; omega)
       have w2 : bWrap .i64 (c' - c + 1) = c' - c + 1 := bwrap_of (by unfold inR; omega)
       have w3 : bWrap .i64 (r' - r) = r' - r := bwrap_of (by unfold inR; omega)
       have w4 : bWrap .i64 (r' - r + 1) = r' - r + 1 := bwrap_of (by unfold inR; omega)
       by_cases hc : c ≤ c'
       · by_cases hr : r ≤ r'
         · have ha := area_in b1 b2' b3 b4' hc hr
           have w5 : bWrap .i64 ((c' - c + 1) * (r' - r + 1)) = areaN c r c' r' := bwrap_of (by show inR (areaN c r c' r'); unfold inR; omega)
           rw [areaV_yes (okA_iff.2 ⟨hR, hR', hs, hc, hr⟩)]
           have d1 : decide (c' - c + 1 < 1) = false := decide_eq_false (by omega)
           have d2 : decide (r' - r + 1 < 1) = false := decide_eq_false (by omega)
           simp +decide (maxDischargeDepth := 200) only [go_sem, FRightC, hR, hR', ds, w1, w2, w3, w4, w5, d1, d2, Tryz.results123]
         · have d1 : decide (c' - c + 1 < 1) = false := decide_eq_false (by omega)
           have d2 : decide (r' - r + 1 < 1) = true := decide_eq_true (by omega)
           rw [areaV_no (okA_5 hr)]
           simp +decide (maxDischargeDepth := 200) only [go_sem, FRightC, hR, hR', ds, w1, w2, w3, w4, d1, d2, Tryz.results123]
       · have d1 : decide (c' - c + 1 < 1) = true := decide_eq_true (by omega)
         rw [areaV_no (okA_4 hc)]
         simp +decide (maxDischargeDepth := 200) only [go_sem, FRightC, hR, hR', ds, w1, w2, w3, w4, d1, Tryz.results123]
     · have ds := decide_eq_false hs
       rw [areaV_no (okA_3 hs)]
       simp +decide (maxDischargeDepth := 200) only [go_sem, FRightC, hR, hR', ds, Tryz.results123]
set_option maxHeartbeats 2000000 in
set_option maxRecDepth 100000 in
theorem rarea_fun : FunV 40 FArea := by
 refine fun_of_run (E := envOf [(22, FRightC)]) (k := 1) (envOK_of _ ⟨rright_fun, trivial⟩) (by kernel_rfl) Tryz.func40 rfl (fun a w => Tryz.call40 a w) Tryz.ntmps40 (by kernel_rfl) (by decide) (by decide) ?_
 intro us r hF hdat
 unfold FArea at hF
 split at hF
 case h_2 => cases hF
 rename_i s c r s' c' r'
 cases hF
 refine ⟨rfl, ?_⟩
 cases hR : rightC s c r
 · rw [areaV_no (okA_1 hR)]
   simp +decide (maxDischargeDepth := 200) only [go_sem, FRightC, hR, Tryz.results40]
 · cases hR' : rightC s' c' r'
   · rw [areaV_no (okA_2 hR')]
     simp +decide (maxDischargeDepth := 200) only [go_sem, FRightC, hR, hR', Tryz.results40]
   · by_cases hs : s = s'
     · obtain ⟨_, b1, b2, b3, b4⟩ := rightC_iff.1 hR
       obtain ⟨_, b1', b2', b3', b4'⟩ := rightC_iff.1 hR'
       have ds := decide_eq_true hs
       have w1 : bWrap .i64 (c' - c) = c' - c := bwrap_of (by unfold inR; omega)
       have w2 : bWrap .i64 (c' - c + 1) = c' - c + 1 := bwrap_of (by unfold inR; omega)
       have w3 : bWrap .i64 (r' - r) = r' - r := bwrap_of (by unfold inR; omega)
       have w4 : bWrap .i64 (r' - r + 1) = r' - r + 1 := bwrap_of (by unfold inR; omega)
       by_cases hc : c ≤ c'
       · by_cases hr : r ≤ r'
         · have ha := area_in b1 b2' b3 b4' hc hr
           have w5 : bWrap .i64 ((c' - c + 1) * (r' - r + 1)) = areaN c r c' r' := bwrap_of (by show inR (areaN c r c' r'); unfold inR; omega)
           rw [areaV_yes (okA_iff.2 ⟨hR, hR', hs, hc, hr⟩)]
           have d1 : decide (c' < c) = false := decide_eq_false (by omega)
           have d2 : decide (r' < r) = false := decide_eq_false (by omega)
           simp +decide (maxDischargeDepth := 200) only [go_sem, FRightC, hR, hR', ds, w1, w2, w3, w4, w5, d1, d2, Tryz.results40]
         · have d1 : decide (c' < c) = false := decide_eq_false (by omega)
           have d2 : decide (r' < r) = true := decide_eq_true (by omega)
           rw [areaV_no (okA_5 hr)]
           simp +decide (maxDischargeDepth := 200) only [go_sem, FRightC, hR, hR', ds, d1, d2, Tryz.results40]
       · have d1 : decide (c' < c) = true := decide_eq_true (by omega)
         rw [areaV_no (okA_4 hc)]
         simp +decide (maxDischargeDepth := 200) only [go_sem, FRightC, hR, hR', ds, d1, Tryz.results40]
     · have ds := decide_eq_false hs
       rw [areaV_no (okA_3 hs)]
       simp +decide (maxDischargeDepth := 200) only [go_sem, FRightC, hR, hR', ds, Tryz.results40]
end Go.Proofs.YtfngpfnbhafmlaaGreatDoor
namespace Go.Proofs.YtfngpfnbhafmlaaGreatDoor
open Go Go.RowKit
theorem name_len {s : ByteArray} (h : nameB s = true) : s.size ≤ 8 := by
 simp only [nameB, Bool.and_eq_true, decide_eq_true_eq] at h
 exact h.1.1.2
theorem index_none : ∀ {l : List UInt8} {c : UInt8}, c ∉ l → Lib.indexByte l c = -1
 | [], c, _ => by simp [Lib.indexByte]
 | b :: l, c, h => by
   simp only [List.mem_cons, not_or] at h
   have hb : ¬ b = c := fun e => h.1 e.symm
   simp only [Lib.indexByte, index_none h.2]
   simp [hb]
end Go.Proofs.YtfngpfnbhafmlaaGreatDoor
