/- Chapter 10's laws: an error among what a function takes is the answer. -/
import Derived.Test.YtakcoalbidjahaaDoorMP
import Derived.Test.YtakcoalbidjahaaDoorMH
namespace Go.Proofs.YtakcoalbidjahaaDoor
open Go Go.RowKit
set_option linter.unusedSimpArgs false
def namesE : List V := [.x (.string ⟨#[83, 85, 77]⟩), .x (.string ⟨#[77, 73, 78]⟩), .x (.string ⟨#[67, 79, 85, 78, 84]⟩), .x (.string ⟨#[65, 86, 71]⟩), .x (.string ⟨#[65, 78, 68]⟩), .x (.string ⟨#[67, 79, 78, 67, 65, 84]⟩), .x (.string ⟨#[78, 79, 84]⟩), .x (.string ⟨#[65, 66, 83]⟩), .x (.string ⟨#[76, 69, 78]⟩), .x (.string ⟨#[77, 79, 68]⟩), .x (.string ⟨#[76, 69, 70, 84]⟩), .x (.string ⟨#[70, 73, 78, 68]⟩), .x (.string ⟨#[77, 73, 68]⟩)]
def needsE : List V := [.x (.int .i64 3), .x (.int .i64 3), .x (.int .i64 3), .x (.int .i64 3), .x (.int .i64 3), .x (.int .i64 3), .x (.int .i64 1), .x (.int .i64 1), .x (.int .i64 1), .x (.int .i64 2), .x (.int .i64 2), .x (.int .i64 2), .x (.int .i64 3)]
def nmE : List (ByteArray × Nat) := [(⟨#[83, 85, 77]⟩, 3), (⟨#[77, 73, 78]⟩, 3), (⟨#[67, 79, 85, 78, 84]⟩, 3), (⟨#[65, 86, 71]⟩, 3), (⟨#[65, 78, 68]⟩, 3), (⟨#[67, 79, 78, 67, 65, 84]⟩, 3), (⟨#[78, 79, 84]⟩, 1), (⟨#[65, 66, 83]⟩, 1), (⟨#[76, 69, 78]⟩, 1), (⟨#[77, 79, 68]⟩, 2), (⟨#[76, 69, 70, 84]⟩, 2), (⟨#[70, 73, 78, 68]⟩, 2), (⟨#[77, 73, 68]⟩, 3)]
def onesE (k : Nat) : List T3 := List.replicate k (3, 1, ⟨#[]⟩)
def rowsE (j k : Nat) (b : Int) : List T3 := onesE j ++ (4, b, ⟨#[]⟩) :: onesE k
def errsE : Bool := nmE.all fun p => (List.range p.2).all fun j => [1, 2, 3, 4, 5, 6, 7].all fun b => decide (callW p.1 (rowsOf (rowsE j (p.2 - 1 - j) b)) = (4, b, ⟨#[]⟩))
theorem errsE_true : errsE = true := by kernel_rfl
theorem errs_at {nm : ByteArray} {nd j : Nat} {b : Int} (h : (nm, nd) ∈ nmE) (hj : j < nd) (h1 : 1 ≤ b) (h7 : b ≤ 7) : callW nm (rowsOf (rowsE j (nd - 1 - j) b)) = (4, b, ⟨#[]⟩) := by
  have hb : b ∈ ([1, 2, 3, 4, 5, 6, 7] : List Int) := by
    simp only [List.mem_cons, List.not_mem_nil, or_false]
    omega
  exact of_decide_eq_true (List.all_eq_true.1 (List.all_eq_true.1 (List.all_eq_true.1 errsE_true _ h) j (List.mem_range.2 hj)) b hb)
theorem name_at {a : Int} (h0 : 0 ≤ a) (h1 : a < 13) : ∃ nm nd, (nm, nd) ∈ nmE ∧ 1 ≤ nd ∧ nd ≤ 3 ∧ namesE[a.toNat]? = some (.x (.string nm)) ∧ needsE[a.toNat]? = some (.x (.int .i64 ((nd : Nat) : Int))) := by
  obtain ⟨i, rfl⟩ := Int.eq_ofNat_of_zero_le h0
  have hi : i < nmE.length := by show i < 13; omega
  have key : ∀ i, i < 13 → ∃ nm nd, (nm, nd) ∈ nmE ∧ 1 ≤ nd ∧ nd ≤ 3 ∧ namesE[i]? = some (.x (.string nm)) ∧ needsE[i]? = some (.x (.int .i64 ((nd : Nat) : Int))) := by
    intro i hi
    have hcases : i = 0 ∨ i = 1 ∨ i = 2 ∨ i = 3 ∨ i = 4 ∨ i = 5 ∨ i = 6 ∨ i = 7 ∨ i = 8 ∨ i = 9 ∨ i = 10 ∨ i = 11 ∨ i = 12 := by omega
    rcases hcases with rfl | rfl | rfl | rfl | rfl | rfl | rfl | rfl | rfl | rfl | rfl | rfl | rfl
    · exact ⟨⟨#[83, 85, 77]⟩, 3, List.mem_of_getElem? (i := 0) rfl, by decide, by decide, rfl, rfl⟩
    · exact ⟨⟨#[77, 73, 78]⟩, 3, List.mem_of_getElem? (i := 1) rfl, by decide, by decide, rfl, rfl⟩
    · exact ⟨⟨#[67, 79, 85, 78, 84]⟩, 3, List.mem_of_getElem? (i := 2) rfl, by decide, by decide, rfl, rfl⟩
    · exact ⟨⟨#[65, 86, 71]⟩, 3, List.mem_of_getElem? (i := 3) rfl, by decide, by decide, rfl, rfl⟩
    · exact ⟨⟨#[65, 78, 68]⟩, 3, List.mem_of_getElem? (i := 4) rfl, by decide, by decide, rfl, rfl⟩
    · exact ⟨⟨#[67, 79, 78, 67, 65, 84]⟩, 3, List.mem_of_getElem? (i := 5) rfl, by decide, by decide, rfl, rfl⟩
    · exact ⟨⟨#[78, 79, 84]⟩, 1, List.mem_of_getElem? (i := 6) rfl, by decide, by decide, rfl, rfl⟩
    · exact ⟨⟨#[65, 66, 83]⟩, 1, List.mem_of_getElem? (i := 7) rfl, by decide, by decide, rfl, rfl⟩
    · exact ⟨⟨#[76, 69, 78]⟩, 1, List.mem_of_getElem? (i := 8) rfl, by decide, by decide, rfl, rfl⟩
    · exact ⟨⟨#[77, 79, 68]⟩, 2, List.mem_of_getElem? (i := 9) rfl, by decide, by decide, rfl, rfl⟩
    · exact ⟨⟨#[76, 69, 70, 84]⟩, 2, List.mem_of_getElem? (i := 10) rfl, by decide, by decide, rfl, rfl⟩
    · exact ⟨⟨#[70, 73, 78, 68]⟩, 2, List.mem_of_getElem? (i := 11) rfl, by decide, by decide, rfl, rfl⟩
    · exact ⟨⟨#[77, 73, 68]⟩, 3, List.mem_of_getElem? (i := 12) rfl, by decide, by decide, rfl, rfl⟩
  exact key i (by omega)
def lastE : Bool := [1, 2, 3, 4, 5, 6, 7].all fun b => decide (callW ⟨#[73, 83, 69, 82, 82]⟩ [(false, 3, [(4, b, ⟨#[]⟩)])] = (3, 1, ⟨#[]⟩) ∧ callW ⟨#[67, 79, 85, 78, 84, 65]⟩ [(false, 3, [(4, b, ⟨#[]⟩)])] = (1, 1, ⟨#[]⟩) ∧ callW ⟨#[73, 70]⟩ (rowsOf [(3, 1, ⟨#[]⟩), (1, 2, ⟨#[]⟩), (4, b, ⟨#[]⟩)]) = (1, 2, ⟨#[]⟩) ∧ callW ⟨#[73, 70]⟩ (rowsOf [(3, 1, ⟨#[]⟩), (4, b, ⟨#[]⟩), (1, 2, ⟨#[]⟩)]) = (4, b, ⟨#[]⟩) ∧ callW ⟨#[67, 72, 79, 79, 83, 69]⟩ (rowsOf [(1, 2, ⟨#[]⟩), (4, b, ⟨#[]⟩), (3, 1, ⟨#[]⟩)]) = (3, 1, ⟨#[]⟩) ∧ callW ⟨#[77, 65, 84, 67, 72]⟩ [(false, 3, [(1, 2, ⟨#[]⟩)]), (false, 3, [(4, b, ⟨#[]⟩), (1, 2, ⟨#[]⟩)])] = (1, 2, ⟨#[]⟩))
theorem lastE_true : lastE = true := by kernel_rfl
theorem last_at {b : Int} (h1 : 1 ≤ b) (h7 : b ≤ 7) : callW ⟨#[73, 83, 69, 82, 82]⟩ [(false, 3, [(4, b, ⟨#[]⟩)])] = (3, 1, ⟨#[]⟩) ∧ callW ⟨#[67, 79, 85, 78, 84, 65]⟩ [(false, 3, [(4, b, ⟨#[]⟩)])] = (1, 1, ⟨#[]⟩) ∧ callW ⟨#[73, 70]⟩ (rowsOf [(3, 1, ⟨#[]⟩), (1, 2, ⟨#[]⟩), (4, b, ⟨#[]⟩)]) = (1, 2, ⟨#[]⟩) ∧ callW ⟨#[73, 70]⟩ (rowsOf [(3, 1, ⟨#[]⟩), (4, b, ⟨#[]⟩), (1, 2, ⟨#[]⟩)]) = (4, b, ⟨#[]⟩) ∧ callW ⟨#[67, 72, 79, 79, 83, 69]⟩ (rowsOf [(1, 2, ⟨#[]⟩), (4, b, ⟨#[]⟩), (3, 1, ⟨#[]⟩)]) = (3, 1, ⟨#[]⟩) ∧ callW ⟨#[77, 65, 84, 67, 72]⟩ [(false, 3, [(1, 2, ⟨#[]⟩)]), (false, 3, [(4, b, ⟨#[]⟩), (1, 2, ⟨#[]⟩)])] = (1, 2, ⟨#[]⟩) := by
  have hb : b ∈ ([1, 2, 3, 4, 5, 6, 7] : List Int) := by
    simp only [List.mem_cons, List.not_mem_nil, or_false]
    omega
  exact of_decide_eq_true (List.all_eq_true.1 lastE_true b hb)
def sV (p : Nat × Nat) : Value := .slice (some ⟨p.1, 0, none⟩) 1 p.2
def bedE (l : List (Nat × Nat)) : List (Value × List V) := l.map fun p => (sV p, [vl 3 1 ⟨#[]⟩])
def argsE (l : List (Nat × Nat)) : List V := (l.map sV).map V.x
theorem argsE_snoc (l : List (Nat × Nat)) (p : Nat × Nat) : argsE (l ++ [p]) = argsE l ++ [.x (sV p)] := by simp [argsE]
theorem rowsE_V (l1 l2 : List (Nat × Nat)) (p : Nat × Nat) (b : Int) : ((bedE l1 ++ (sV p, [vl 4 b ⟨#[]⟩]) :: bedE l2).map fun q => V.sl false 3 q.2 none) = (rowsOf (rowsE l1.length l2.length b)).map rwV := by
  have h : ∀ l : List (Nat × Nat), ((bedE l).map fun q => V.sl false 3 q.2 none) = (rowsOf (onesE l.length)).map rwV := by
    intro l
    induction l with
    | nil => rfl
    | cons q l ih =>
      show V.sl false 3 [vl 3 1 ⟨#[]⟩] none :: ((bedE l).map fun q => V.sl false 3 q.2 none) = _
      rw [ih]
      rfl
  unfold rowsE rowsOf
  rw [List.map_append, h, List.map_append, List.map_append, List.map_cons, List.map_cons, List.map_cons, h]
  rfl
def FNum3 : List V → Option V
  | [.x (.int .i64 a), .x (.int .i64 b), .x (.int .i64 c)] => if inR a ∧ inR b ∧ inR c then some (.x (.bool true)) else none
  | _ => none
theorem errEnv_ok : EnvOK (envM [(9, FAlive10), (11, (FE encNA GCall))] (fun d => d == 64)) := envOK_M _ _ ⟨alive10_fun, gcall_fun, trivial⟩
theorem errEnv_MB : ∀ s, (envM [(9, FAlive10), (11, (FE encNA GCall))] (fun d => d == 64)).MB s = false := fun _ => rfl
def JE (a b c : Int) (ms : Lim) (ws : World) (P1 P2 : List (Value × List V)) (g cp : Nat) (al : List V) : Nat → Act → World → Prop
  | 0, ac, wo => Hold (envM [(9, FAlive10), (11, (FE encNA GCall))] (fun d => d == 64)) 143 3 ⟨Kno.top, fun _ => true, #[], ms, ws⟩ (P1 ++ ((.slice (some ⟨g, 0, none⟩) 1 cp), [vl 3 1 ⟨#[]⟩]) :: P2) (stOf [(0, .x (.int .i64 a)), (1, .x (.int .i64 b)), (2, .x (.int .i64 c)), (8, .sl false 1 namesE none), (9, .sl false 1 needsE none), (10, .ptr 10 0), (11, .sl false 1 al (some 66))] [(10, [.x (.int .i64 4), .x (.int .i64 b), .x (.string ⟨#[]⟩)])]) ac wo
  | 1, ac, wo => Hold (envM [(9, FAlive10), (11, (FE encNA GCall))] (fun d => d == 64)) 143 3 ⟨Kno.top, fun _ => true, #[], ms, ws⟩ (P1 ++ ((.slice (some ⟨g, 0, none⟩) 1 cp), [vl 3 1 ⟨#[]⟩]) :: P2) (stOf [(0, .x (.int .i64 a)), (1, .x (.int .i64 b)), (2, .x (.int .i64 c)), (8, .sl false 1 namesE none), (9, .sl false 1 needsE none), (10, .ptr 10 0), (11, .sl false 1 al (some 66)), (67, .sl false 1 al (some 66))] [(10, [.x (.int .i64 4), .x (.int .i64 b), .x (.string ⟨#[]⟩)])]) ac wo
  | 2, ac, wo => Hold (envM [(9, FAlive10), (11, (FE encNA GCall))] (fun d => d == 64)) 143 3 ⟨Kno.top, fun _ => true, #[], ms, ws⟩ (P1 ++ ((.slice (some ⟨g, 0, none⟩) 1 cp), [vl 3 1 ⟨#[]⟩]) :: P2) (stOf [(0, .x (.int .i64 a)), (1, .x (.int .i64 b)), (2, .x (.int .i64 c)), (8, .sl false 1 namesE none), (9, .sl false 1 needsE none), (10, .ptr 10 0), (11, .sl false 1 al (some 66)), (68, .x (.int .i64 c))] [(10, [.x (.int .i64 4), .x (.int .i64 b), .x (.string ⟨#[]⟩)])]) ac wo
  | 3, ac, wo => Hold (envM [(9, FAlive10), (11, (FE encNA GCall))] (fun d => d == 64)) 143 3 ⟨Kno.top, fun _ => true, #[], ms, ws⟩ (P1 ++ ((.slice (some ⟨g, 0, none⟩) 1 cp), [vl 3 1 ⟨#[]⟩]) :: P2) (stOf [(0, .x (.int .i64 a)), (1, .x (.int .i64 b)), (2, .x (.int .i64 c)), (8, .sl false 1 namesE none), (9, .sl false 1 needsE none), (10, .ptr 10 0), (11, .sl false 1 al (some 66)), (67, .sl false 1 al (some 66)), (68, .x (.int .i64 c))] [(10, [.x (.int .i64 4), .x (.int .i64 b), .x (.string ⟨#[]⟩)])]) ac wo
  | 7, ac, wo => Hold (envM [(9, FAlive10), (11, (FE encNA GCall))] (fun d => d == 64)) 143 3 ⟨Kno.top, fun _ => true, #[], ms, ws⟩ (P1 ++ ((.slice (some ⟨g, 0, none⟩) 1 cp), [vl 3 1 ⟨#[]⟩]) :: P2) (stOf [(0, .x (.int .i64 a)), (1, .x (.int .i64 b)), (2, .x (.int .i64 c)), (8, .sl false 1 namesE none), (9, .sl false 1 needsE none), (10, .ptr 10 0), (11, .sl false 1 al (some 66)), (67, .sl false 1 al (some 66)), (68, .x (.int .i64 c)), (69, .ip [.x (.slice (some ⟨g, 0, none⟩) 1 cp)])] [(10, [.x (.int .i64 4), .x (.int .i64 b), .x (.string ⟨#[]⟩)])]) ac wo
  | 15, ac, wo => Hold (envM [(9, FAlive10), (11, (FE encNA GCall))] (fun d => d == 64)) 143 3 ⟨Kno.top, fun _ => true, #[], ms, ws⟩ (P1 ++ ((.slice (some ⟨g, 0, none⟩) 1 cp), [vl 3 1 ⟨#[]⟩]) :: P2) (stOf [(0, .x (.int .i64 a)), (1, .x (.int .i64 b)), (2, .x (.int .i64 c)), (8, .sl false 1 namesE none), (9, .sl false 1 needsE none), (10, .ptr 10 0), (11, .sl false 1 al (some 66)), (67, .sl false 1 al (some 66)), (68, .x (.int .i64 c)), (69, .ip [.x (.slice (some ⟨g, 0, none⟩) 1 cp)]), (70, .x (.slice (some ⟨g, 0, none⟩) 1 cp))] [(10, [.x (.int .i64 4), .x (.int .i64 b), .x (.string ⟨#[]⟩)])]) ac wo
  | 16, ac, wo => Hold (envM [(9, FAlive10), (11, (FE encNA GCall))] (fun d => d == 64)) 143 3 ⟨Kno.top, fun _ => true, #[], ms, ws⟩ (P1 ++ ((.slice (some ⟨g, 0, none⟩) 1 cp), [vl 3 1 ⟨#[]⟩]) :: P2) (stOf [(0, .x (.int .i64 a)), (1, .x (.int .i64 b)), (2, .x (.int .i64 c)), (8, .sl false 1 namesE none), (9, .sl false 1 needsE none), (10, .ptr 10 0), (11, .sl false 1 al (some 66)), (71, .agg [.x (.int .i64 4), .x (.int .i64 b), .x (.string ⟨#[]⟩)])] [(10, [.x (.int .i64 4), .x (.int .i64 b), .x (.string ⟨#[]⟩)])]) ac wo
  | 17, ac, wo => Hold (envM [(9, FAlive10), (11, (FE encNA GCall))] (fun d => d == 64)) 143 3 ⟨Kno.top, fun _ => true, #[], ms, ws⟩ (P1 ++ ((.slice (some ⟨g, 0, none⟩) 1 cp), [vl 3 1 ⟨#[]⟩]) :: P2) (stOf [(0, .x (.int .i64 a)), (1, .x (.int .i64 b)), (2, .x (.int .i64 c)), (8, .sl false 1 namesE none), (9, .sl false 1 needsE none), (10, .ptr 10 0), (11, .sl false 1 al (some 66)), (67, .sl false 1 al (some 66)), (71, .agg [.x (.int .i64 4), .x (.int .i64 b), .x (.string ⟨#[]⟩)])] [(10, [.x (.int .i64 4), .x (.int .i64 b), .x (.string ⟨#[]⟩)])]) ac wo
  | 18, ac, wo => Hold (envM [(9, FAlive10), (11, (FE encNA GCall))] (fun d => d == 64)) 143 3 ⟨Kno.top, fun _ => true, #[], ms, ws⟩ (P1 ++ ((.slice (some ⟨g, 0, none⟩) 1 cp), [vl 3 1 ⟨#[]⟩]) :: P2) (stOf [(0, .x (.int .i64 a)), (1, .x (.int .i64 b)), (2, .x (.int .i64 c)), (8, .sl false 1 namesE none), (9, .sl false 1 needsE none), (10, .ptr 10 0), (11, .sl false 1 al (some 66)), (68, .x (.int .i64 c)), (71, .agg [.x (.int .i64 4), .x (.int .i64 b), .x (.string ⟨#[]⟩)])] [(10, [.x (.int .i64 4), .x (.int .i64 b), .x (.string ⟨#[]⟩)])]) ac wo
  | 19, ac, wo => Hold (envM [(9, FAlive10), (11, (FE encNA GCall))] (fun d => d == 64)) 143 3 ⟨Kno.top, fun _ => true, #[], ms, ws⟩ (P1 ++ ((.slice (some ⟨g, 0, none⟩) 1 cp), [vl 3 1 ⟨#[]⟩]) :: P2) (stOf [(0, .x (.int .i64 a)), (1, .x (.int .i64 b)), (2, .x (.int .i64 c)), (8, .sl false 1 namesE none), (9, .sl false 1 needsE none), (10, .ptr 10 0), (11, .sl false 1 al (some 66)), (67, .sl false 1 al (some 66)), (68, .x (.int .i64 c)), (71, .agg [.x (.int .i64 4), .x (.int .i64 b), .x (.string ⟨#[]⟩)])] [(10, [.x (.int .i64 4), .x (.int .i64 b), .x (.string ⟨#[]⟩)])]) ac wo
  | 23, ac, wo => Hold (envM [(9, FAlive10), (11, (FE encNA GCall))] (fun d => d == 64)) 143 3 ⟨Kno.top, fun _ => true, #[], ms, ws⟩ (P1 ++ ((.slice (some ⟨g, 0, none⟩) 1 cp), [vl 3 1 ⟨#[]⟩]) :: P2) (stOf [(0, .x (.int .i64 a)), (1, .x (.int .i64 b)), (2, .x (.int .i64 c)), (8, .sl false 1 namesE none), (9, .sl false 1 needsE none), (10, .ptr 10 0), (11, .sl false 1 al (some 66)), (67, .sl false 1 al (some 66)), (68, .x (.int .i64 c)), (69, .ip [.x (.slice (some ⟨g, 0, none⟩) 1 cp)]), (71, .agg [.x (.int .i64 4), .x (.int .i64 b), .x (.string ⟨#[]⟩)])] [(10, [.x (.int .i64 4), .x (.int .i64 b), .x (.string ⟨#[]⟩)])]) ac wo
  | 31, ac, wo => ∃ t0 : Array Value, t0.getD 70 Go.undef = (.slice (some ⟨g, 0, none⟩) 1 cp) ∧ Hold (envM [(9, FAlive10), (11, (FE encNA GCall))] (fun d => d == 64)) 143 3 ⟨Kno.top, fun i => i != 70, t0, ms, ws⟩ (P1 ++ P2) (stOf [(0, .x (.int .i64 a)), (1, .x (.int .i64 b)), (2, .x (.int .i64 c)), (8, .sl false 1 namesE none), (9, .sl false 1 needsE none), (10, .ptr 10 0), (11, .sl false 1 al (some 66)), (67, .sl false 1 al (some 66)), (68, .x (.int .i64 c)), (69, .ip [.x (.slice (some ⟨g, 0, none⟩) 1 cp)]), (70, .row 70 3 1), (71, .agg [.x (.int .i64 4), .x (.int .i64 b), .x (.string ⟨#[]⟩)])] [(10, [.x (.int .i64 4), .x (.int .i64 b), .x (.string ⟨#[]⟩)]), (70, [.x (.int .i64 3), .x (.int .i64 1), .x (.string ⟨#[]⟩)])]) ac wo
  | 63, ac, wo => ∃ t0 : Array Value, t0.getD 70 Go.undef = (.slice (some ⟨g, 0, none⟩) 1 cp) ∧ Hold (envM [(9, FAlive10), (11, (FE encNA GCall))] (fun d => d == 64)) 143 3 ⟨Kno.top, fun i => i != 70, t0, ms, ws⟩ (P1 ++ P2) (stOf [(0, .x (.int .i64 a)), (1, .x (.int .i64 b)), (2, .x (.int .i64 c)), (8, .sl false 1 namesE none), (9, .sl false 1 needsE none), (10, .ptr 10 0), (11, .sl false 1 al (some 66)), (67, .sl false 1 al (some 66)), (68, .x (.int .i64 c)), (69, .ip [.x (.slice (some ⟨g, 0, none⟩) 1 cp)]), (70, .row 70 3 1), (71, .agg [.x (.int .i64 4), .x (.int .i64 b), .x (.string ⟨#[]⟩)]), (72, .ptr 70 0)] [(10, [.x (.int .i64 4), .x (.int .i64 b), .x (.string ⟨#[]⟩)]), (70, [.x (.int .i64 3), .x (.int .i64 1), .x (.string ⟨#[]⟩)])]) ac wo
  | 127, ac, wo => ∃ t0 : Array Value, t0.getD 70 Go.undef = (.slice (some ⟨g, 0, none⟩) 1 cp) ∧ Hold (envM [(9, FAlive10), (11, (FE encNA GCall))] (fun d => d == 64)) 143 3 ⟨Kno.top, fun i => i != 70, t0, ms, ws⟩ (P1 ++ P2) (stOf [(0, .x (.int .i64 a)), (1, .x (.int .i64 b)), (2, .x (.int .i64 c)), (8, .sl false 1 namesE none), (9, .sl false 1 needsE none), (10, .ptr 10 0), (11, .sl false 1 al (some 66)), (67, .sl false 1 al (some 66)), (68, .x (.int .i64 c)), (69, .ip [.x (.slice (some ⟨g, 0, none⟩) 1 cp)]), (70, .row 70 3 1), (71, .agg [.x (.int .i64 4), .x (.int .i64 b), .x (.string ⟨#[]⟩)]), (72, .ptr 70 0)] [(10, [.x (.int .i64 4), .x (.int .i64 b), .x (.string ⟨#[]⟩)]), (70, [.x (.int .i64 4), .x (.int .i64 b), .x (.string ⟨#[]⟩)])]) ac wo
  | _, _, _ => False
theorem take12 {a b c : Int} {ms : Lim} {ws : World} {P1 P2 : List (Value × List V)} {g cp : Nat} {al : List V} {ac : Act} {wo : World} (h : Hold (envM [(9, FAlive10), (11, (FE encNA GCall))] (fun d => d == 64)) 143 3 ⟨Kno.top, fun _ => true, #[], ms, ws⟩ (P1 ++ ((.slice (some ⟨g, 0, none⟩) 1 cp), [vl 3 1 ⟨#[]⟩]) :: P2) (stOf [(0, .x (.int .i64 a)), (1, .x (.int .i64 b)), (2, .x (.int .i64 c)), (8, .sl false 1 namesE none), (9, .sl false 1 needsE none), (10, .ptr 10 0), (11, .sl false 1 al (some 66)), (67, .sl false 1 al (some 66)), (68, .x (.int .i64 c)), (69, .ip [.x (.slice (some ⟨g, 0, none⟩) 1 cp)]), (70, .x (.slice (some ⟨g, 0, none⟩) 1 cp)), (71, .agg [.x (.int .i64 4), .x (.int .i64 b), .x (.string ⟨#[]⟩)])] [(10, [.x (.int .i64 4), .x (.int .i64 b), .x (.string ⟨#[]⟩)])]) ac wo) : JE a b c ms ws P1 P2 g cp al 31 ac wo := by
  have hv : ac.tmps.getD 70 Go.undef = (.slice (some ⟨g, 0, none⟩) 1 cp) := h.val (by simp only [go_sem, Nat.reduceEqDiff, if_false, if_true, tOf, stOf])
  obtain ⟨t0, ht0, h2⟩ := h.keepS 70 _ hv
  have h3 := hold_take errEnv_MB h2 (by simp) (fun e he => by rw [List.mem_singleton.1 he]; rfl) (d := 70) (s := 70) (by simp only [go_sem, Nat.reduceEqDiff, if_false, if_true, tOf, stOf]) (by simp (decide := true) (maxDischargeDepth := 200) only [go_sem, Nat.reduceBEq]) (by decide)
  exact ⟨t0, ht0, h3.le (le_stOf (by simp (decide := true) (maxDischargeDepth := 200) only [go_sem, Nat.reduceBEq, vl] <;> (repeat' first | rfl | constructor)) (by simp (decide := true) (maxDischargeDepth := 200) only [go_sem, Nat.reduceBEq, vl] <;> (repeat' first | rfl | constructor)))⟩
set_option maxHeartbeats 64000000 in
set_option maxRecDepth 100000 in
theorem errors10_fun : FunV 6 FNum3 := by
  have hE : EnvOK (envM [(9, FAlive10), (11, (FE encNA GCall))] (fun d => d == 64)) := errEnv_ok
  have hm : (envM [(9, FAlive10), (11, (FE encNA GCall))] (fun d => d == 64)).P.follows .mixedOrders = true := by kernel_rfl
  refine fun_of_hold (E := (envM [(9, FAlive10), (11, (FE encNA GCall))] (fun d => d == 64))) (n := 143) (sz := 3) (k := 3) Tryd.func6 rfl (fun a w => Tryd.call6 a w) Tryd.ntmps6 (by decide) (by decide) ?_
  intro us r m w a0 hF hdat h1
  unfold FNum3 at hF
  split at hF
  case h_2 => cases hF
  rename_i a b c
  split at hF
  case isFalse => cases hF
  rename_i h
  obtain ⟨ha, hb, hc⟩ := h
  cases hF
  replace h1 := h1 rfl
  refine ⟨rfl, ?_⟩
  have e1 : FAlive10 [] = some (.x (.bool true)) := rfl
  have fin : ∀ a' w', Hold (envM [(9, FAlive10), (11, (FE encNA GCall))] (fun d => d == 64)) 143 3 ⟨Kno.top, fun _ => true, #[], m, w⟩ [] (stOf [(6, .x (.bool true))] []) a' w' → ((Exit.ret = .normal ∨ Exit.ret = .ret) ∧ ∃ P' st', Hold (envM [(9, FAlive10), (11, (FE encNA GCall))] (fun d => d == 64)) 143 3 ⟨Kno.top, fun _ => true, #[], m, w⟩ P' st' a' w' ∧ resV (envM [(9, FAlive10), (11, (FE encNA GCall))] (fun d => d == 64)) st' Tryd.f6.results.toList = some (.x (.bool true))) := fun a' w' h2 => ⟨.inr rfl, _, _, h2, by simp (decide := true) (maxDischargeDepth := 200) only [go_sem, Nat.reduceBEq, Tryd.results6]⟩
  refine wpIn_seq (hold_T hE hm [(0, .x (.int .i64 a)), (1, .x (.int .i64 b)), (2, .x (.int .i64 c))] [] (by kernel_rfl) (by kernel_rfl) h1 (by simp (decide := true) (maxDischargeDepth := 200) only [go_sem, Nat.reduceBEq] <;> (repeat' first | rfl | constructor)) ?_)
  clear h1 a0
  intro a0 w1 h1
  refine wpIn_seq (hold_T hE hm [(0, .x (.int .i64 a)), (1, .x (.int .i64 b)), (2, .x (.int .i64 c)), (7, .x (.bool true))] [] (by kernel_rfl) (by kernel_rfl) h1 (by simp (decide := true) (maxDischargeDepth := 200) only [go_sem, Nat.reduceBEq, e1] <;> (repeat' first | rfl | constructor)) ?_)
  clear h1 a0 w1
  intro a0 w1 h1
  refine wpIn_seq (hold_T hE hm [(0, .x (.int .i64 a)), (1, .x (.int .i64 b)), (2, .x (.int .i64 c)), (7, .x (.bool true)), (8, .sl false 1 namesE none)] [] (by kernel_rfl) (by kernel_rfl) h1 (by simp (decide := true) (maxDischargeDepth := 200) only [go_sem, Nat.reduceBEq] <;> (repeat' first | rfl | constructor)) ?_)
  clear h1 a0 w1
  intro a0 w1 h1
  refine wpIn_seq (hold_T hE hm [(0, .x (.int .i64 a)), (1, .x (.int .i64 b)), (2, .x (.int .i64 c)), (7, .x (.bool true)), (8, .sl false 1 namesE none), (9, .sl false 1 needsE none)] [] (by kernel_rfl) (by kernel_rfl) h1 (by simp (decide := true) (maxDischargeDepth := 200) only [go_sem, Nat.reduceBEq] <;> (repeat' first | rfl | constructor)) ?_)
  clear h1 a0 w1
  intro a0 w1 h1
  by_cases h1' : a < 0
  · have d1 := decide_eq_true h1'
    exact wpIn_seq (hold_R hE hm [(6, .x (.bool true))] [] (by kernel_rfl) (by kernel_rfl) h1 (by simp (decide := true) (maxDischargeDepth := 200) only [go_sem, Nat.reduceBEq, d1] <;> (repeat' first | rfl | constructor)) fin)
  have d1 := decide_eq_false h1'
  by_cases h2 : ((namesE.length : Nat) : Int) ≤ a
  · have d2 := decide_eq_true h2
    exact wpIn_seq (hold_R hE hm [(6, .x (.bool true))] [] (by kernel_rfl) (by kernel_rfl) h1 (by simp (decide := true) (maxDischargeDepth := 200) only [go_sem, Nat.reduceBEq, d1, d2] <;> (repeat' first | rfl | constructor)) fin)
  have d2 := decide_eq_false h2
  by_cases h3 : b < 1
  · have d3 := decide_eq_true h3
    exact wpIn_seq (hold_R hE hm [(6, .x (.bool true))] [] (by kernel_rfl) (by kernel_rfl) h1 (by simp (decide := true) (maxDischargeDepth := 200) only [go_sem, Nat.reduceBEq, d1, d2, d3] <;> (repeat' first | rfl | constructor)) fin)
  have d3 := decide_eq_false h3
  by_cases h4 : (7 : Int) < b
  · have d4 := decide_eq_true h4
    exact wpIn_seq (hold_R hE hm [(6, .x (.bool true))] [] (by kernel_rfl) (by kernel_rfl) h1 (by simp (decide := true) (maxDischargeDepth := 200) only [go_sem, Nat.reduceBEq, d1, d2, d3, d4] <;> (repeat' first | rfl | constructor)) fin)
  have d4 := decide_eq_false h4
  by_cases h5 : c < 0
  · have d5 := decide_eq_true h5
    exact wpIn_seq (hold_R hE hm [(6, .x (.bool true))] [] (by kernel_rfl) (by kernel_rfl) h1 (by simp (decide := true) (maxDischargeDepth := 200) only [go_sem, Nat.reduceBEq, d1, d2, d3, d4, d5] <;> (repeat' first | rfl | constructor)) fin)
  have d5 := decide_eq_false h5
  have hlen : namesE.length = 13 := rfl
  rw [hlen] at h2
  obtain ⟨nm, nd, hmem, hnd1, hnd3, hnm, hneed⟩ := name_at (a := a) (by omega) (by omega)
  have g0 : (0 : Int) ≤ a := by omega
  by_cases h6 : ((nd : Nat) : Int) ≤ c
  · have d6 := decide_eq_true h6
    exact wpIn_seq (hold_R hE hm [(6, .x (.bool true))] [] (by kernel_rfl) (by kernel_rfl) h1 (by simp (decide := true) (maxDischargeDepth := 200) only [go_sem, Nat.reduceBEq, d1, d2, d3, d4, d5, d6, g0, hneed] <;> (repeat' first | rfl | constructor)) fin)
  have d6 := decide_eq_false h6
  refine wpIn_seq (hold_T hE hm [(0, .x (.int .i64 a)), (1, .x (.int .i64 b)), (2, .x (.int .i64 c)), (8, .sl false 1 namesE none), (9, .sl false 1 needsE none)] [] (by kernel_rfl) (by kernel_rfl) h1 (by simp (decide := true) (maxDischargeDepth := 200) only [go_sem, Nat.reduceBEq, d1, d2, d3, d4, d5, d6, g0, hneed] <;> (repeat' first | rfl | constructor)) ?_)
  clear h1 a0 w1
  intro a0 w1 h1
  refine wpIn_seq (hold_T hE hm [(0, .x (.int .i64 a)), (1, .x (.int .i64 b)), (2, .x (.int .i64 c)), (8, .sl false 1 namesE none), (9, .sl false 1 needsE none), (10, .ptr 10 0)] [(10, [.x (.int .i64 4), .x (.int .i64 b), .x (.string ⟨#[]⟩)])] (by kernel_rfl) (by kernel_rfl) h1 (by simp (decide := true) (maxDischargeDepth := 200) only [go_sem, Nat.reduceBEq] <;> (repeat' first | rfl | constructor)) ?_)
  clear h1 a0 w1
  intro a0 w1 h1
  refine wpIn_seq (hold_T hE hm [(0, .x (.int .i64 a)), (1, .x (.int .i64 b)), (2, .x (.int .i64 c)), (8, .sl false 1 namesE none), (9, .sl false 1 needsE none), (10, .ptr 10 0), (11, .sl true 0 [] none)] [(10, [.x (.int .i64 4), .x (.int .i64 b), .x (.string ⟨#[]⟩)])] (by kernel_rfl) (by kernel_rfl) h1 (by simp (decide := true) (maxDischargeDepth := 200) only [go_sem, Nat.reduceBEq] <;> (repeat' first | rfl | constructor)) ?_)
  clear h1 a0 w1
  intro a0 w1 h1
  replace h1 := (h1.nil 11 1 (some 66) (n0 := 0) (k0 := none) (by simp only [go_sem, Nat.reduceEqDiff, if_false, if_true, tOf, stOf, bOf])).le (st' := stOf [(0, .x (.int .i64 a)), (1, .x (.int .i64 b)), (2, .x (.int .i64 c)), (8, .sl false 1 namesE none), (9, .sl false 1 needsE none), (10, .ptr 10 0), (11, .sl true 1 [] (some 66))] [(10, [.x (.int .i64 4), .x (.int .i64 b), .x (.string ⟨#[]⟩)])]) (le_stOf (by simp (decide := true) (maxDischargeDepth := 200) only [go_sem, Nat.reduceBEq] <;> (repeat' first | rfl | constructor)) (by simp (decide := true) (maxDischargeDepth := 200) only [go_sem, Nat.reduceBEq] <;> (repeat' first | rfl | constructor)))
  refine wpIn_seq (wpIn_seq (hold_T hE hm [(0, .x (.int .i64 a)), (1, .x (.int .i64 b)), (2, .x (.int .i64 c)), (8, .sl false 1 namesE none), (9, .sl false 1 needsE none), (10, .ptr 10 0), (11, .sl true 1 [] (some 66)), (12, .x (.int .i64 0))] [(10, [.x (.int .i64 4), .x (.int .i64 b), .x (.string ⟨#[]⟩)])] (by kernel_rfl) (by kernel_rfl) h1 (by simp (decide := true) (maxDischargeDepth := 200) only [go_sem, Nat.reduceBEq] <;> (repeat' first | rfl | constructor)) ?_))
  clear h1 a0 w1
  intro a0 w1 h1
  have f0 : (0 : Int) ≤ c := by omega
  refine wpIn_block (wpIn_loopX (X := {l : List (Nat × Nat) // l.length ≤ nd}) (fun l a' w' => Hold (envM [(9, FAlive10), (11, (FE encNA GCall))] (fun d => d == 64)) 143 3 ⟨Kno.top, fun _ => true, #[], m, w⟩ (bedE l.1.reverse) (stOf [(0, .x (.int .i64 a)), (1, .x (.int .i64 b)), (2, .x (.int .i64 c)), (8, .sl false 1 namesE none), (9, .sl false 1 needsE none), (10, .ptr 10 0), (11, .sl l.1.isEmpty 1 (argsE l.1) (some 66)), (12, .x (.int .i64 ((l.1.length : Nat) : Int)))] [(10, [.x (.int .i64 4), .x (.int .i64 b), .x (.string ⟨#[]⟩)])]) a' w') (fun l => nd - l.1.length) ⟨[], Nat.zero_le _⟩ h1 ?_)
  clear h1 a0 w1
  rintro ⟨l, hl⟩ a0 w1 h1
  simp only at h1 hl ⊢
  by_cases hi : l.length < nd
  · have c1 : decide (((l.length : Nat) : Int) < ((nd : Nat) : Int)) = true := decide_eq_true (by omega)
    have c4 := count_up (i := l.length) (by omega)
    refine wpIn_seq (hold_T hE hm [(0, .x (.int .i64 a)), (1, .x (.int .i64 b)), (2, .x (.int .i64 c)), (8, .sl false 1 namesE none), (9, .sl false 1 needsE none), (10, .ptr 10 0), (11, .sl l.isEmpty 1 (argsE l) (some 66)), (12, .x (.int .i64 ((l.length : Nat) : Int)))] [(10, [.x (.int .i64 4), .x (.int .i64 b), .x (.string ⟨#[]⟩)])] (by kernel_rfl) (by kernel_rfl) h1 (by simp (decide := true) (maxDischargeDepth := 200) only [go_sem, Nat.reduceBEq, c1, g0, hneed] <;> (repeat' first | rfl | constructor)) ?_)
    clear h1 a0 w1
    intro a0 w1 h1
    refine wpIn_seq (wpIn_block (wpIn_region ?_))
    refine hold_S hE 0 3 [(0, .x (.int .i64 a)), (1, .x (.int .i64 b)), (2, .x (.int .i64 c)), (8, .sl false 1 namesE none), (9, .sl false 1 needsE none), (10, .ptr 10 0), (12, .x (.int .i64 ((l.length : Nat) : Int))), (62, .sl l.isEmpty 1 (argsE l) (some 66)), (64, .row 64 3 1)] [(10, [.x (.int .i64 4), .x (.int .i64 b), .x (.string ⟨#[]⟩)]), (64, [.x (.int .i64 3), .x (.int .i64 1), .x (.string ⟨#[]⟩)])] [3, 4, 5] (by decide) (by kernel_rfl) (by kernel_rfl) h1 (by simp (decide := true) (maxDischargeDepth := 200) only [go_sem, Nat.reduceBEq] <;> (repeat' first | rfl | constructor)) ?_
    clear h1 a0 w1
    intro a0 w1 h1
    obtain ⟨g, cp, hv0, h2'⟩ := hold_shed errEnv_MB h1 (d := 64) (s := 64) (es := [vl 3 1 ⟨#[]⟩]) (by simp only [go_sem, Nat.reduceEqDiff, if_false, if_true, tOf, stOf, bOf]) (by simp only [go_sem, Nat.reduceEqDiff, if_false, if_true, tOf, stOf, bOf]) (by simp) (by decide) (st' := stOf [(0, .x (.int .i64 a)), (1, .x (.int .i64 b)), (2, .x (.int .i64 c)), (8, .sl false 1 namesE none), (9, .sl false 1 needsE none), (10, .ptr 10 0), (12, .x (.int .i64 ((l.length : Nat) : Int))), (62, .sl l.isEmpty 1 (argsE l) (some 66))] [(10, [.x (.int .i64 4), .x (.int .i64 b), .x (.string ⟨#[]⟩)])]) (le_stOf (by simp (decide := true) (maxDischargeDepth := 200) only [go_sem, Nat.reduceBEq] <;> (repeat' first | rfl | constructor)) (by simp (decide := true) (maxDischargeDepth := 200) only [go_sem, Nat.reduceBEq] <;> (repeat' first | rfl | constructor))) (by simp only [go_sem, Nat.reduceEqDiff, if_false, if_true, tOf, stOf, bOf])
    clear hv0
    replace h1 := h2'.le (st' := stOf [(0, .x (.int .i64 a)), (1, .x (.int .i64 b)), (2, .x (.int .i64 c)), (8, .sl false 1 namesE none), (9, .sl false 1 needsE none), (10, .ptr 10 0), (12, .x (.int .i64 ((l.length : Nat) : Int))), (62, .sl l.isEmpty 1 (argsE l) (some 66)), (64, .x (.slice (some ⟨g, 0, none⟩) 1 cp))] [(10, [.x (.int .i64 4), .x (.int .i64 b), .x (.string ⟨#[]⟩)])]) (le_stOf (by simp (decide := true) (maxDischargeDepth := 200) only [go_sem, Nat.reduceBEq, List.length_cons, List.length_nil, Nat.zero_add] <;> (repeat' first | rfl | constructor)) (by simp (decide := true) (maxDischargeDepth := 200) only [go_sem, Nat.reduceBEq] <;> (repeat' first | rfl | constructor)))
    have hal : (argsE l).length ≤ 3 := by unfold argsE; rw [List.length_map, List.length_map]; omega
    have gg := growV_row (E := (envM [(9, FAlive10), (11, (FE encNA GCall))] (fun d => d == 64))) (el := 22) (n := 1) sz22 by22 ze22 (by decide) rfl (es := argsE l) (es' := [.x (.slice (some ⟨g, 0, none⟩) 1 cp)]) (m := 1) (fun _ => rfl) rfl (by simp only [List.length_cons, List.length_nil]; omega) (by simp only [List.length_cons, List.length_nil]; omega)
    have m0 : (argsE l).isEmpty = l.isEmpty := by cases l <;> rfl
    have m2 : (argsE l ++ [V.x (.slice (some ⟨g, 0, none⟩) 1 cp)]).isEmpty = false := by simp
    simp only [m0, m2] at gg
    refine hold_S hE 3 3 [(0, .x (.int .i64 a)), (1, .x (.int .i64 b)), (2, .x (.int .i64 c)), (8, .sl false 1 namesE none), (9, .sl false 1 needsE none), (10, .ptr 10 0), (12, .x (.int .i64 ((l.length : Nat) : Int))), (11, .sl false 1 (argsE l ++ [.x (.slice (some ⟨g, 0, none⟩) 1 cp)]) (some 66))] [(10, [.x (.int .i64 4), .x (.int .i64 b), .x (.string ⟨#[]⟩)])] [] (by decide) (by kernel_rfl) (by kernel_rfl) h1 (by simp (decide := true) (maxDischargeDepth := 200) only [go_sem, Nat.reduceBEq, gg] <;> (repeat' first | rfl | constructor)) ?_
    clear h1 a0 w1 h2'
    intro a0 w1 h1
    refine hold_T hE hm [(0, .x (.int .i64 a)), (1, .x (.int .i64 b)), (2, .x (.int .i64 c)), (8, .sl false 1 namesE none), (9, .sl false 1 needsE none), (10, .ptr 10 0), (11, .sl false 1 (argsE l ++ [.x (.slice (some ⟨g, 0, none⟩) 1 cp)]) (some 66)), (12, .x (.int .i64 (((l.length + 1 : Nat)) : Int)))] [(10, [.x (.int .i64 4), .x (.int .i64 b), .x (.string ⟨#[]⟩)])] (by kernel_rfl) (by kernel_rfl) h1 (by simp (decide := true) (maxDischargeDepth := 200) only [go_sem, Nat.reduceBEq, c4] <;> (repeat' first | rfl | constructor)) ?_
    clear h1 a0 w1
    intro a0 w1 h1
    refine ⟨⟨l ++ [(g, cp)], by rw [List.length_append]; simp only [List.length_cons, List.length_nil]; omega⟩, ?_, by simp only [List.length_append, List.length_cons, List.length_nil]; omega⟩
    have q1 : bedE (l ++ [(g, cp)]).reverse = (.slice (some ⟨g, 0, none⟩) [vl 3 1 ⟨#[]⟩].length cp, [vl 3 1 ⟨#[]⟩]) :: bedE l.reverse := by simp [bedE, sV]
    have q2 : argsE (l ++ [(g, cp)]) = argsE l ++ [.x (.slice (some ⟨g, 0, none⟩) 1 cp)] := argsE_snoc l (g, cp)
    have q3 : (l ++ [(g, cp)]).isEmpty = false := by simp
    have q4 : (l ++ [(g, cp)]).length = l.length + 1 := by simp
    simp only [q1, q2, q3, q4]
    exact h1
  have c1 : decide (((l.length : Nat) : Int) < ((nd : Nat) : Int)) = false := decide_eq_false (by omega)
  refine wpIn_seq (hold_X hE hm 0 [(0, .x (.int .i64 a)), (1, .x (.int .i64 b)), (2, .x (.int .i64 c)), (8, .sl false 1 namesE none), (9, .sl false 1 needsE none), (10, .ptr 10 0), (11, .sl l.isEmpty 1 (argsE l) (some 66))] [(10, [.x (.int .i64 4), .x (.int .i64 b), .x (.string ⟨#[]⟩)])] (by kernel_rfl) (by kernel_rfl) h1 (by simp (decide := true) (maxDischargeDepth := 200) only [go_sem, Nat.reduceBEq, c1, g0, hneed] <;> (repeat' first | rfl | constructor)) ?_)
  clear h1 a0 w1
  intro a0 w1 h1
  obtain ⟨j, rfl⟩ : ∃ j : Nat, c = ((j : Nat) : Int) := ⟨c.toNat, by omega⟩
  have hj : j < l.length := by omega
  obtain ⟨l1, p, l2, rfl, hl1⟩ : ∃ l1 p l2, l = l1 ++ p :: l2 ∧ l1.length = j := ⟨l.take j, l[j], l.drop (j + 1), by rw [← List.drop_eq_getElem_cons hj, List.take_append_drop], by rw [List.length_take]; omega⟩
  obtain ⟨g, cp⟩ := p
  have hbed : bedE (l1 ++ (g, cp) :: l2).reverse = bedE l2.reverse ++ ((.slice (some ⟨g, 0, none⟩) 1 cp), [vl 3 1 ⟨#[]⟩]) :: bedE l1.reverse := by simp [bedE, sV]
  rw [hbed] at h1
  have hempty : (l1 ++ (g, cp) :: l2).isEmpty = false := by simp
  rw [hempty] at h1
  obtain ⟨al, hal⟩ : ∃ al, al = argsE (l1 ++ (g, cp) :: l2) := ⟨_, rfl⟩
  rw [← hal] at h1
  have hat : al[((j : Nat) : Int).toNat]? = some (.x (.slice (some ⟨g, 0, none⟩) 1 cp)) := by
    rw [hal, Int.toNat_natCast]
    unfold argsE
    rw [List.getElem?_map, List.getElem?_map, List.getElem?_append_right (by omega), hl1, Nat.sub_self]
    rfl
  refine wpIn_seq (dag_hand (ps := [(0, 0, 1), (0, 1, 2), (0, 4, 16), (1, 1, 3), (1, 4, 17), (2, 0, 3), (2, 4, 18), (16, 0, 17), (16, 1, 18), (3, 2, 7), (3, 4, 19), (17, 1, 19), (18, 0, 19), (7, 3, 15), (7, 4, 23), (19, 2, 23), (15, 4, 31), (23, 3, 31), (31, 5, 63), (63, 6, 127)]) hm (by kernel_rfl) (JE a b ((j : Nat) : Int) m w (bedE l2.reverse) (bedE l1.reverse) g cp al) ?_ ?_ (h1.drew hE))
  · clear h1 a0 w1
    intro p hp a0 w1 K h hK
    simp only [List.mem_cons, List.not_mem_nil, or_false] at hp
    rcases hp with rfl | rfl | rfl | rfl | rfl | rfl | rfl | rfl | rfl | rfl | rfl | rfl | rfl | rfl | rfl | rfl | rfl | rfl | rfl | rfl
    · exact hold_op hE [(0, .x (.int .i64 a)), (1, .x (.int .i64 b)), (2, .x (.int .i64 ((j : Nat) : Int))), (8, .sl false 1 namesE none), (9, .sl false 1 needsE none), (10, .ptr 10 0), (11, .sl false 1 al (some 66)), (67, .sl false 1 al (some 66))] [(10, [.x (.int .i64 4), .x (.int .i64 b), .x (.string ⟨#[]⟩)])] rfl (by kernel_rfl) (fun d hd => by cases hd; rfl) h (by simp (decide := true) (maxDischargeDepth := 200) only [go_sem, Nat.reduceBEq, f0, g0, hat] <;> (repeat' first | rfl | constructor)) hK
    · exact hold_op hE [(0, .x (.int .i64 a)), (1, .x (.int .i64 b)), (2, .x (.int .i64 ((j : Nat) : Int))), (8, .sl false 1 namesE none), (9, .sl false 1 needsE none), (10, .ptr 10 0), (11, .sl false 1 al (some 66)), (68, .x (.int .i64 ((j : Nat) : Int)))] [(10, [.x (.int .i64 4), .x (.int .i64 b), .x (.string ⟨#[]⟩)])] rfl (by kernel_rfl) (fun d hd => by cases hd; rfl) h (by simp (decide := true) (maxDischargeDepth := 200) only [go_sem, Nat.reduceBEq, f0, g0, hat] <;> (repeat' first | rfl | constructor)) hK
    · exact hold_op hE [(0, .x (.int .i64 a)), (1, .x (.int .i64 b)), (2, .x (.int .i64 ((j : Nat) : Int))), (8, .sl false 1 namesE none), (9, .sl false 1 needsE none), (10, .ptr 10 0), (11, .sl false 1 al (some 66)), (71, .agg [.x (.int .i64 4), .x (.int .i64 b), .x (.string ⟨#[]⟩)])] [(10, [.x (.int .i64 4), .x (.int .i64 b), .x (.string ⟨#[]⟩)])] rfl (by kernel_rfl) (fun d hd => by cases hd; rfl) h (by simp (decide := true) (maxDischargeDepth := 200) only [go_sem, Nat.reduceBEq, f0, g0, hat] <;> (repeat' first | rfl | constructor)) hK
    · exact hold_op hE [(0, .x (.int .i64 a)), (1, .x (.int .i64 b)), (2, .x (.int .i64 ((j : Nat) : Int))), (8, .sl false 1 namesE none), (9, .sl false 1 needsE none), (10, .ptr 10 0), (11, .sl false 1 al (some 66)), (67, .sl false 1 al (some 66)), (68, .x (.int .i64 ((j : Nat) : Int)))] [(10, [.x (.int .i64 4), .x (.int .i64 b), .x (.string ⟨#[]⟩)])] rfl (by kernel_rfl) (fun d hd => by cases hd; rfl) h (by simp (decide := true) (maxDischargeDepth := 200) only [go_sem, Nat.reduceBEq, f0, g0, hat] <;> (repeat' first | rfl | constructor)) hK
    · exact hold_op hE [(0, .x (.int .i64 a)), (1, .x (.int .i64 b)), (2, .x (.int .i64 ((j : Nat) : Int))), (8, .sl false 1 namesE none), (9, .sl false 1 needsE none), (10, .ptr 10 0), (11, .sl false 1 al (some 66)), (67, .sl false 1 al (some 66)), (71, .agg [.x (.int .i64 4), .x (.int .i64 b), .x (.string ⟨#[]⟩)])] [(10, [.x (.int .i64 4), .x (.int .i64 b), .x (.string ⟨#[]⟩)])] rfl (by kernel_rfl) (fun d hd => by cases hd; rfl) h (by simp (decide := true) (maxDischargeDepth := 200) only [go_sem, Nat.reduceBEq, f0, g0, hat] <;> (repeat' first | rfl | constructor)) hK
    · exact hold_op hE [(0, .x (.int .i64 a)), (1, .x (.int .i64 b)), (2, .x (.int .i64 ((j : Nat) : Int))), (8, .sl false 1 namesE none), (9, .sl false 1 needsE none), (10, .ptr 10 0), (11, .sl false 1 al (some 66)), (67, .sl false 1 al (some 66)), (68, .x (.int .i64 ((j : Nat) : Int)))] [(10, [.x (.int .i64 4), .x (.int .i64 b), .x (.string ⟨#[]⟩)])] rfl (by kernel_rfl) (fun d hd => by cases hd; rfl) h (by simp (decide := true) (maxDischargeDepth := 200) only [go_sem, Nat.reduceBEq, f0, g0, hat] <;> (repeat' first | rfl | constructor)) hK
    · exact hold_op hE [(0, .x (.int .i64 a)), (1, .x (.int .i64 b)), (2, .x (.int .i64 ((j : Nat) : Int))), (8, .sl false 1 namesE none), (9, .sl false 1 needsE none), (10, .ptr 10 0), (11, .sl false 1 al (some 66)), (68, .x (.int .i64 ((j : Nat) : Int))), (71, .agg [.x (.int .i64 4), .x (.int .i64 b), .x (.string ⟨#[]⟩)])] [(10, [.x (.int .i64 4), .x (.int .i64 b), .x (.string ⟨#[]⟩)])] rfl (by kernel_rfl) (fun d hd => by cases hd; rfl) h (by simp (decide := true) (maxDischargeDepth := 200) only [go_sem, Nat.reduceBEq, f0, g0, hat] <;> (repeat' first | rfl | constructor)) hK
    · exact hold_op hE [(0, .x (.int .i64 a)), (1, .x (.int .i64 b)), (2, .x (.int .i64 ((j : Nat) : Int))), (8, .sl false 1 namesE none), (9, .sl false 1 needsE none), (10, .ptr 10 0), (11, .sl false 1 al (some 66)), (67, .sl false 1 al (some 66)), (71, .agg [.x (.int .i64 4), .x (.int .i64 b), .x (.string ⟨#[]⟩)])] [(10, [.x (.int .i64 4), .x (.int .i64 b), .x (.string ⟨#[]⟩)])] rfl (by kernel_rfl) (fun d hd => by cases hd; rfl) h (by simp (decide := true) (maxDischargeDepth := 200) only [go_sem, Nat.reduceBEq, f0, g0, hat] <;> (repeat' first | rfl | constructor)) hK
    · exact hold_op hE [(0, .x (.int .i64 a)), (1, .x (.int .i64 b)), (2, .x (.int .i64 ((j : Nat) : Int))), (8, .sl false 1 namesE none), (9, .sl false 1 needsE none), (10, .ptr 10 0), (11, .sl false 1 al (some 66)), (68, .x (.int .i64 ((j : Nat) : Int))), (71, .agg [.x (.int .i64 4), .x (.int .i64 b), .x (.string ⟨#[]⟩)])] [(10, [.x (.int .i64 4), .x (.int .i64 b), .x (.string ⟨#[]⟩)])] rfl (by kernel_rfl) (fun d hd => by cases hd; rfl) h (by simp (decide := true) (maxDischargeDepth := 200) only [go_sem, Nat.reduceBEq, f0, g0, hat] <;> (repeat' first | rfl | constructor)) hK
    · exact hold_op hE [(0, .x (.int .i64 a)), (1, .x (.int .i64 b)), (2, .x (.int .i64 ((j : Nat) : Int))), (8, .sl false 1 namesE none), (9, .sl false 1 needsE none), (10, .ptr 10 0), (11, .sl false 1 al (some 66)), (67, .sl false 1 al (some 66)), (68, .x (.int .i64 ((j : Nat) : Int))), (69, .ip [.x (.slice (some ⟨g, 0, none⟩) 1 cp)])] [(10, [.x (.int .i64 4), .x (.int .i64 b), .x (.string ⟨#[]⟩)])] rfl (by kernel_rfl) (fun d hd => by cases hd; rfl) h (by simp (decide := true) (maxDischargeDepth := 200) only [go_sem, Nat.reduceBEq, f0, g0, hat] <;> (repeat' first | rfl | constructor)) hK
    · exact hold_op hE [(0, .x (.int .i64 a)), (1, .x (.int .i64 b)), (2, .x (.int .i64 ((j : Nat) : Int))), (8, .sl false 1 namesE none), (9, .sl false 1 needsE none), (10, .ptr 10 0), (11, .sl false 1 al (some 66)), (67, .sl false 1 al (some 66)), (68, .x (.int .i64 ((j : Nat) : Int))), (71, .agg [.x (.int .i64 4), .x (.int .i64 b), .x (.string ⟨#[]⟩)])] [(10, [.x (.int .i64 4), .x (.int .i64 b), .x (.string ⟨#[]⟩)])] rfl (by kernel_rfl) (fun d hd => by cases hd; rfl) h (by simp (decide := true) (maxDischargeDepth := 200) only [go_sem, Nat.reduceBEq, f0, g0, hat] <;> (repeat' first | rfl | constructor)) hK
    · exact hold_op hE [(0, .x (.int .i64 a)), (1, .x (.int .i64 b)), (2, .x (.int .i64 ((j : Nat) : Int))), (8, .sl false 1 namesE none), (9, .sl false 1 needsE none), (10, .ptr 10 0), (11, .sl false 1 al (some 66)), (67, .sl false 1 al (some 66)), (68, .x (.int .i64 ((j : Nat) : Int))), (71, .agg [.x (.int .i64 4), .x (.int .i64 b), .x (.string ⟨#[]⟩)])] [(10, [.x (.int .i64 4), .x (.int .i64 b), .x (.string ⟨#[]⟩)])] rfl (by kernel_rfl) (fun d hd => by cases hd; rfl) h (by simp (decide := true) (maxDischargeDepth := 200) only [go_sem, Nat.reduceBEq, f0, g0, hat] <;> (repeat' first | rfl | constructor)) hK
    · exact hold_op hE [(0, .x (.int .i64 a)), (1, .x (.int .i64 b)), (2, .x (.int .i64 ((j : Nat) : Int))), (8, .sl false 1 namesE none), (9, .sl false 1 needsE none), (10, .ptr 10 0), (11, .sl false 1 al (some 66)), (67, .sl false 1 al (some 66)), (68, .x (.int .i64 ((j : Nat) : Int))), (71, .agg [.x (.int .i64 4), .x (.int .i64 b), .x (.string ⟨#[]⟩)])] [(10, [.x (.int .i64 4), .x (.int .i64 b), .x (.string ⟨#[]⟩)])] rfl (by kernel_rfl) (fun d hd => by cases hd; rfl) h (by simp (decide := true) (maxDischargeDepth := 200) only [go_sem, Nat.reduceBEq, f0, g0, hat] <;> (repeat' first | rfl | constructor)) hK
    · exact hold_op hE [(0, .x (.int .i64 a)), (1, .x (.int .i64 b)), (2, .x (.int .i64 ((j : Nat) : Int))), (8, .sl false 1 namesE none), (9, .sl false 1 needsE none), (10, .ptr 10 0), (11, .sl false 1 al (some 66)), (67, .sl false 1 al (some 66)), (68, .x (.int .i64 ((j : Nat) : Int))), (69, .ip [.x (.slice (some ⟨g, 0, none⟩) 1 cp)]), (70, .x (.slice (some ⟨g, 0, none⟩) 1 cp))] [(10, [.x (.int .i64 4), .x (.int .i64 b), .x (.string ⟨#[]⟩)])] rfl (by kernel_rfl) (fun d hd => by cases hd; rfl) h (by simp (decide := true) (maxDischargeDepth := 200) only [go_sem, Nat.reduceBEq, f0, g0, hat] <;> (repeat' first | rfl | constructor)) hK
    · exact hold_op hE [(0, .x (.int .i64 a)), (1, .x (.int .i64 b)), (2, .x (.int .i64 ((j : Nat) : Int))), (8, .sl false 1 namesE none), (9, .sl false 1 needsE none), (10, .ptr 10 0), (11, .sl false 1 al (some 66)), (67, .sl false 1 al (some 66)), (68, .x (.int .i64 ((j : Nat) : Int))), (69, .ip [.x (.slice (some ⟨g, 0, none⟩) 1 cp)]), (71, .agg [.x (.int .i64 4), .x (.int .i64 b), .x (.string ⟨#[]⟩)])] [(10, [.x (.int .i64 4), .x (.int .i64 b), .x (.string ⟨#[]⟩)])] rfl (by kernel_rfl) (fun d hd => by cases hd; rfl) h (by simp (decide := true) (maxDischargeDepth := 200) only [go_sem, Nat.reduceBEq, f0, g0, hat] <;> (repeat' first | rfl | constructor)) hK
    · exact hold_op hE [(0, .x (.int .i64 a)), (1, .x (.int .i64 b)), (2, .x (.int .i64 ((j : Nat) : Int))), (8, .sl false 1 namesE none), (9, .sl false 1 needsE none), (10, .ptr 10 0), (11, .sl false 1 al (some 66)), (67, .sl false 1 al (some 66)), (68, .x (.int .i64 ((j : Nat) : Int))), (69, .ip [.x (.slice (some ⟨g, 0, none⟩) 1 cp)]), (71, .agg [.x (.int .i64 4), .x (.int .i64 b), .x (.string ⟨#[]⟩)])] [(10, [.x (.int .i64 4), .x (.int .i64 b), .x (.string ⟨#[]⟩)])] rfl (by kernel_rfl) (fun d hd => by cases hd; rfl) h (by simp (decide := true) (maxDischargeDepth := 200) only [go_sem, Nat.reduceBEq, f0, g0, hat] <;> (repeat' first | rfl | constructor)) hK
    · refine hold_op hE [(0, .x (.int .i64 a)), (1, .x (.int .i64 b)), (2, .x (.int .i64 ((j : Nat) : Int))), (8, .sl false 1 namesE none), (9, .sl false 1 needsE none), (10, .ptr 10 0), (11, .sl false 1 al (some 66)), (67, .sl false 1 al (some 66)), (68, .x (.int .i64 ((j : Nat) : Int))), (69, .ip [.x (.slice (some ⟨g, 0, none⟩) 1 cp)]), (70, .x (.slice (some ⟨g, 0, none⟩) 1 cp)), (71, .agg [.x (.int .i64 4), .x (.int .i64 b), .x (.string ⟨#[]⟩)])] [(10, [.x (.int .i64 4), .x (.int .i64 b), .x (.string ⟨#[]⟩)])] rfl (by kernel_rfl) (fun d hd => by cases hd; rfl) h (by simp (decide := true) (maxDischargeDepth := 200) only [go_sem, Nat.reduceBEq, f0, g0, hat] <;> (repeat' first | rfl | constructor)) (fun a' w' h' => hK a' w' ?_)
      exact take12 h'
    · refine hold_op hE [(0, .x (.int .i64 a)), (1, .x (.int .i64 b)), (2, .x (.int .i64 ((j : Nat) : Int))), (8, .sl false 1 namesE none), (9, .sl false 1 needsE none), (10, .ptr 10 0), (11, .sl false 1 al (some 66)), (67, .sl false 1 al (some 66)), (68, .x (.int .i64 ((j : Nat) : Int))), (69, .ip [.x (.slice (some ⟨g, 0, none⟩) 1 cp)]), (70, .x (.slice (some ⟨g, 0, none⟩) 1 cp)), (71, .agg [.x (.int .i64 4), .x (.int .i64 b), .x (.string ⟨#[]⟩)])] [(10, [.x (.int .i64 4), .x (.int .i64 b), .x (.string ⟨#[]⟩)])] rfl (by kernel_rfl) (fun d hd => by cases hd; rfl) h (by simp (decide := true) (maxDischargeDepth := 200) only [go_sem, Nat.reduceBEq, f0, g0, hat] <;> (repeat' first | rfl | constructor)) (fun a' w' h' => hK a' w' ?_)
      exact take12 h'
    · obtain ⟨t0, ht0, h⟩ := h
      exact hold_op hE [(0, .x (.int .i64 a)), (1, .x (.int .i64 b)), (2, .x (.int .i64 ((j : Nat) : Int))), (8, .sl false 1 namesE none), (9, .sl false 1 needsE none), (10, .ptr 10 0), (11, .sl false 1 al (some 66)), (67, .sl false 1 al (some 66)), (68, .x (.int .i64 ((j : Nat) : Int))), (69, .ip [.x (.slice (some ⟨g, 0, none⟩) 1 cp)]), (70, .row 70 3 1), (71, .agg [.x (.int .i64 4), .x (.int .i64 b), .x (.string ⟨#[]⟩)]), (72, .ptr 70 0)] [(10, [.x (.int .i64 4), .x (.int .i64 b), .x (.string ⟨#[]⟩)]), (70, [.x (.int .i64 3), .x (.int .i64 1), .x (.string ⟨#[]⟩)])] rfl (by kernel_rfl) (fun d hd => by cases hd <;> rfl) h (by simp (decide := true) (maxDischargeDepth := 200) only [go_sem, Nat.reduceBEq, f0, g0] <;> (repeat' first | rfl | constructor)) (fun a' w' h' => hK a' w' ⟨t0, ht0, h'⟩)
    · obtain ⟨t0, ht0, h⟩ := h
      exact hold_op hE [(0, .x (.int .i64 a)), (1, .x (.int .i64 b)), (2, .x (.int .i64 ((j : Nat) : Int))), (8, .sl false 1 namesE none), (9, .sl false 1 needsE none), (10, .ptr 10 0), (11, .sl false 1 al (some 66)), (67, .sl false 1 al (some 66)), (68, .x (.int .i64 ((j : Nat) : Int))), (69, .ip [.x (.slice (some ⟨g, 0, none⟩) 1 cp)]), (70, .row 70 3 1), (71, .agg [.x (.int .i64 4), .x (.int .i64 b), .x (.string ⟨#[]⟩)]), (72, .ptr 70 0)] [(10, [.x (.int .i64 4), .x (.int .i64 b), .x (.string ⟨#[]⟩)]), (70, [.x (.int .i64 4), .x (.int .i64 b), .x (.string ⟨#[]⟩)])] rfl (by kernel_rfl) (fun d hd => by cases hd <;> rfl) h (by simp (decide := true) (maxDischargeDepth := 200) only [go_sem, Nat.reduceBEq, f0, g0] <;> (repeat' first | rfl | constructor)) (fun a' w' h' => hK a' w' ⟨t0, ht0, h'⟩)

  clear h1 a0 w1
  intro a0 w1 h1
  have h1 : JE a b ((j : Nat) : Int) m w (bedE l2.reverse) (bedE l1.reverse) g cp al 127 a0 w1 := h1
  obtain ⟨t0, ht0, h1⟩ := h1
  have hsight := h1.sight 70 rfl
  rw [ht0] at hsight
  obtain ⟨g', cp', hv, h2'⟩ := hold_shed errEnv_MB h1 (d := 70) (s := 70) (es := [vl 4 b ⟨#[]⟩]) (by simp only [go_sem, Nat.reduceEqDiff, if_false, if_true, tOf, stOf, bOf]) (by simp only [go_sem, Nat.reduceEqDiff, if_false, if_true, tOf, stOf, bOf]) (by simp) (by decide) (st' := stOf [(0, .x (.int .i64 a)), (1, .x (.int .i64 b)), (2, .x (.int .i64 ((j : Nat) : Int))), (8, .sl false 1 namesE none), (9, .sl false 1 needsE none), (10, .ptr 10 0), (11, .sl false 1 al (some 66))] [(10, [.x (.int .i64 4), .x (.int .i64 b), .x (.string ⟨#[]⟩)])]) (le_stOf (by simp (decide := true) (maxDischargeDepth := 200) only [go_sem, Nat.reduceBEq] <;> (repeat' first | rfl | constructor)) (by simp (decide := true) (maxDischargeDepth := 200) only [go_sem, Nat.reduceBEq] <;> (repeat' first | rfl | constructor))) (by simp only [go_sem, Nat.reduceEqDiff, if_false, if_true, tOf, stOf, bOf])
  rw [hsight] at hv
  have hg : g = g' ∧ cp = cp' := by simpa using hv
  obtain ⟨rfl, rfl⟩ := hg
  have h3' := hold_freeze h2'.unkeep (d := 11) (tok := some 66) (nl := false) (P' := bedE l1 ++ (sV (g, cp), [vl 4 b ⟨#[]⟩]) :: bedE l2) (by decide) (by
      rw [show (bedE l1 ++ (sV (g, cp), [vl 4 b ⟨#[]⟩]) :: bedE l2).map (·.1) = (l1 ++ (g, cp) :: l2).map sV from by simp [bedE, Function.comp_def]]
      show _ = V.sl false 1 (argsE (l1 ++ (g, cp) :: l2)) (some 66)
      rw [← hal]
      simp only [go_sem, Nat.reduceEqDiff, if_false, if_true, tOf, stOf, bOf]) (by
      intro q hq
      simp only [bedE, List.mem_append, List.mem_cons, List.mem_map, List.mem_reverse] at hq ⊢
      rcases hq with h | h | h
      · exact .inr (.inr h)
      · exact .inl h
      · exact .inr (.inl h)) (by simp) (by
      intro q hq
      simp only [bedE, List.mem_append, List.mem_cons, List.mem_map, List.mem_reverse] at hq
      rcases hq with rfl | ⟨_, _, rfl⟩ | ⟨_, _, rfl⟩ <;> exact ⟨by simp, fun e he => by rw [List.mem_singleton.1 he]; rfl⟩)
  rw [rowsE_V] at h3'
  have h5' := h3'.le (st' := stOf [(0, .x (.int .i64 a)), (1, .x (.int .i64 b)), (2, .x (.int .i64 ((j : Nat) : Int))), (8, .sl false 1 namesE none), (9, .sl false 1 needsE none), (10, .ptr 10 0), (11, .sl false 1 ((rowsOf (rowsE l1.length l2.length b)).map rwV) none)] [(10, [.x (.int .i64 4), .x (.int .i64 b), .x (.string ⟨#[]⟩)])]) (le_stOf (by simp (decide := true) (maxDischargeDepth := 200) only [go_sem, Nat.reduceBEq] <;> (repeat' first | rfl | constructor)) (by simp (decide := true) (maxDischargeDepth := 200) only [go_sem, Nat.reduceBEq] <;> (repeat' first | rfl | constructor)))
  clear h1 h2' h3'
  have hll : l2.length = nd - 1 - l1.length := by
    have := hl
    rw [List.length_append, List.length_cons] at this hi
    omega
  have hokE : okAw (false, 1, rowsOf (rowsE l1.length l2.length b)) := rowsOf_ok (fun v hv => by
    unfold rowsE onesE at hv
    simp only [List.mem_append, List.mem_cons, List.mem_replicate] at hv
    rcases hv with h | h | h
    · rw [h.2]; unfold inR; decide
    · rw [h]; exact hb
    · rw [h.2]; unfold inR; decide) (by unfold rowsE onesE; rw [List.length_append, List.length_cons, List.length_replicate, List.length_replicate]; omega)
  have k0 : FE encNA GCall [.x (.string nm), .sl false 1 ((rowsOf (rowsE l1.length l2.length b)).map rwV) none] = some (tv (4, b, ⟨#[]⟩)) := (GCall_of hokE).trans (by rw [hll, errs_at hmem (by omega) (by omega) (by omega)])
  obtain ⟨z1, z2, z3, z4, z5, z6⟩ := last_at (b := b) (by omega) (by omega)
  have hokm : okAw (false, 1, [(false, 3, [(1, 2, ⟨#[]⟩)]), (false, 3, [(4, b, ⟨#[]⟩), (1, 2, ⟨#[]⟩)])]) := by
    refine ⟨fun _ => rfl, fun r hr => ?_, by simp [allL], by simp⟩
    simp only [List.mem_cons, List.not_mem_nil, or_false] at hr
    rcases hr with rfl | rfl
    · exact ⟨fun _ => rfl, fun v hv => by rw [List.mem_singleton.1 hv]; unfold inR; decide, by simp⟩
    · refine ⟨fun _ => rfl, fun v hv => ?_, by simp⟩
      simp only [List.mem_cons, List.not_mem_nil, or_false] at hv
      rcases hv with rfl | rfl
      · exact hb
      · unfold inR; decide
  have k1 : FE encNA GCall [.x (.string ⟨#[73, 83, 69, 82, 82]⟩), .sl false 1 [.sl false 3 [vl 4 b ⟨#[]⟩] none] none] = some (tv (3, 1, ⟨#[]⟩)) := (GCall_of (l := [(false, 3, [(4, b, ⟨#[]⟩)])]) (rowsOf_ok (l := [(4, b, ⟨#[]⟩)]) (fun v hv => by rw [List.mem_singleton.1 hv]; exact hb) (by simp))).trans (by rw [z1])
  have k2 : FE encNA GCall [.x (.string ⟨#[67, 79, 85, 78, 84, 65]⟩), .sl false 1 [.sl false 3 [vl 4 b ⟨#[]⟩] none] none] = some (tv (1, 1, ⟨#[]⟩)) := (GCall_of (l := [(false, 3, [(4, b, ⟨#[]⟩)])]) (rowsOf_ok (l := [(4, b, ⟨#[]⟩)]) (fun v hv => by rw [List.mem_singleton.1 hv]; exact hb) (by simp))).trans (by rw [z2])
  have k3 : FE encNA GCall [.x (.string ⟨#[73, 70]⟩), .sl false 1 [.sl false 3 [vl 3 1 ⟨#[]⟩] none, .sl false 3 [vl 1 2 ⟨#[]⟩] none, .sl false 3 [vl 4 b ⟨#[]⟩] none] none] = some (tv (1, 2, ⟨#[]⟩)) := (GCall_of (l := rowsOf [(3, 1, ⟨#[]⟩), (1, 2, ⟨#[]⟩), (4, b, ⟨#[]⟩)]) (rowsOf_ok (fun v hv => by
      simp only [List.mem_cons, List.not_mem_nil, or_false] at hv
      rcases hv with rfl | rfl | rfl <;> first | exact hb | (unfold inR; decide)) (by simp))).trans (by rw [z3])
  have k4 : FE encNA GCall [.x (.string ⟨#[73, 70]⟩), .sl false 1 [.sl false 3 [vl 3 1 ⟨#[]⟩] none, .sl false 3 [vl 4 b ⟨#[]⟩] none, .sl false 3 [vl 1 2 ⟨#[]⟩] none] none] = some (tv (4, b, ⟨#[]⟩)) := (GCall_of (l := rowsOf [(3, 1, ⟨#[]⟩), (4, b, ⟨#[]⟩), (1, 2, ⟨#[]⟩)]) (rowsOf_ok (fun v hv => by
      simp only [List.mem_cons, List.not_mem_nil, or_false] at hv
      rcases hv with rfl | rfl | rfl <;> first | exact hb | (unfold inR; decide)) (by simp))).trans (by rw [z4])
  have k5 : FE encNA GCall [.x (.string ⟨#[67, 72, 79, 79, 83, 69]⟩), .sl false 1 [.sl false 3 [vl 1 2 ⟨#[]⟩] none, .sl false 3 [vl 4 b ⟨#[]⟩] none, .sl false 3 [vl 3 1 ⟨#[]⟩] none] none] = some (tv (3, 1, ⟨#[]⟩)) := (GCall_of (l := rowsOf [(1, 2, ⟨#[]⟩), (4, b, ⟨#[]⟩), (3, 1, ⟨#[]⟩)]) (rowsOf_ok (fun v hv => by
      simp only [List.mem_cons, List.not_mem_nil, or_false] at hv
      rcases hv with rfl | rfl | rfl <;> first | exact hb | (unfold inR; decide)) (by simp))).trans (by rw [z5])
  have k6 : FE encNA GCall [.x (.string ⟨#[77, 65, 84, 67, 72]⟩), .sl false 1 [.sl false 3 [vl 1 2 ⟨#[]⟩] none, .sl false 3 [vl 4 b ⟨#[]⟩, vl 1 2 ⟨#[]⟩] none] none] = some (tv (1, 2, ⟨#[]⟩)) := (GCall_of (l := [(false, 3, [(1, 2, ⟨#[]⟩)]), (false, 3, [(4, b, ⟨#[]⟩), (1, 2, ⟨#[]⟩)])]) hokm).trans (by rw [z6])
  simp only [vl, tv] at k0 k1 k2 k3 k4 k5 k6
  generalize (rowsOf (rowsE l1.length l2.length b)).map rwV = rv at k0 h5'
  exact hold_R hE hm [(6, .x (.bool true))] [] (by kernel_rfl) (by kernel_rfl) h5' (by simp (decide := true) (maxDischargeDepth := 200) only [go_sem, Nat.reduceBEq, g0, hnm, hneed, k0, k1, k2, k3, k4, k5, k6] <;> (repeat' first | rfl | constructor)) fin
end Go.Proofs.YtakcoalbidjahaaDoor
