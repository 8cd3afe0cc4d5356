/- The run over plain data at this seat: what the calls lean on. -/
import Derived.Test.YtfmdcgakkijkdaaPfTy
import Derived.Test.YtfmdcgakkijkdaaGlob
namespace Go.Proofs.Ytfmdcgakkijkdaa
open Go Go.RowKit

def lkF : List (Nat × (List V → Option V)) → Nat → Option (List V → Option V)
  | [], _ => none
  | (k, F) :: l, i => if k = i then some F else lkF l i
def lkP : List (Nat × (List V → Option (V × List (List V)))) → Nat → Option (List V → Option (V × List (List V)))
  | [], _ => none
  | (k, F) :: l, i => if k = i then some F else lkP l i
noncomputable def envP (l : List (Nat × (List V → Option V))) (M : Nat → Bool) (lp : List (Nat × (List V → Option (V × List (List V))))) : Env := ⟨Try.prog, lkF l, fun _ => .undef, Glob, M, lkP lp, globK⟩
noncomputable def envM (l : List (Nat × (List V → Option V))) (M : Nat → Bool) : Env := envP l M []
section
variable (l : List (Nat × (List V → Option V))) (M : Nat → Bool) (lp : List (Nat × (List V → Option (V × List (List V)))))
theorem envP_P : (envP l M lp).P = Try.prog := rfl
theorem envP_F : (envP l M lp).F = lkF l := rfl
theorem envP_FP : (envP l M lp).FP = lkP lp := rfl
theorem envP_G : (envP l M lp).G = fun _ => .undef := rfl
theorem envP_own (d : Nat) : (envP l M lp).own (some d) = M d := rfl
theorem envP_plain : (envP l M lp).plain = envM l fun _ => false := rfl
theorem envM_FP : (envM l M).FP = fun _ => none := rfl
end
noncomputable def envOf (l : List (Nat × (List V → Option V))) : Env := envM l fun _ => false
theorem envM_P (l : List (Nat × (List V → Option V))) (M : Nat → Bool) : (envM l M).P = Try.prog := rfl
theorem envM_F (l : List (Nat × (List V → Option V))) (M : Nat → Bool) : (envM l M).F = lkF l := rfl
theorem envM_G (l : List (Nat × (List V → Option V))) (M : Nat → Bool) : (envM l M).G = fun _ => .undef := rfl
theorem envM_own (l : List (Nat × (List V → Option V))) (M : Nat → Bool) (d : Nat) : (envM l M).own (some d) = M d := rfl
theorem envOf_own (l : List (Nat × (List V → Option V))) (d : Option Tmp) : (envOf l).own d = false := by cases d <;> rfl
theorem envM_plain (l : List (Nat × (List V → Option V))) (M : Nat → Bool) : (envM l M).plain = envOf l := rfl
theorem envOf_plain (l : List (Nat × (List V → Option V))) : (envOf l).plain = envOf l := rfl
theorem envOf_P (l : List (Nat × (List V → Option V))) : (envOf l).P = Try.prog := rfl
theorem envOf_F (l : List (Nat × (List V → Option V))) : (envOf l).F = lkF l := rfl
theorem envOf_FP (l : List (Nat × (List V → Option V))) : (envOf l).FP = fun _ => none := rfl
theorem envP_plain' (l : List (Nat × (List V → Option V))) (M : Nat → Bool) (lp : List (Nat × (List V → Option (V × List (List V))))) : (envP l M lp).plain = envOf l := rfl
theorem envOf_G (l : List (Nat × (List V → Option V))) : (envOf l).G = fun _ => .undef := rfl
/-- A contract at this seat. -/
def FunV (f : FuncId) (F : List V → Option V) : Prop := Fun (envOf []) f F
def AllV : List (Nat × (List V → Option V)) → Prop
  | [] => True
  | p :: l => FunV p.1 p.2 ∧ AllV l
/-- A contract at this seat of a function that is handed addresses. -/
def FunPV (f : FuncId) (F : List V → Option (V × List (List V))) : Prop := FunP (envOf []) f F
def AllP : List (Nat × (List V → Option (V × List (List V)))) → Prop
  | [] => True
  | p :: l => FunPV p.1 p.2 ∧ AllP l
theorem envOK_P (l : List (Nat × (List V → Option V))) (M : Nat → Bool) (lp : List (Nat × (List V → Option (V × List (List V))))) (h : AllV l) (hp : AllP lp) : EnvOK (envP l M lp) := by
  refine ⟨fun f F hF => ?_, fun f F hF => ?_, fun X w w' hX hj hb => Glob.low hj hb.size ⟨hb.os, hb.tape, hb.output, hb.size, fun k hk => hb.block k (Nat.lt_of_lt_of_le hk (Glob.high hj)) (fun hm => absurd (hX k hm) (Nat.not_le.2 hk))⟩, fun w hj => Glob.high hj⟩
  · have key : ∀ l, AllV l → lkF l f = some F → FunV f F := by
      intro l
      induction l with
      | nil => intro _ h; cases h
      | cons p l ih =>
        intro h hF
        simp only [lkF] at hF
        split at hF
        · rename_i e; cases hF; exact e ▸ h.1
        · exact ih h.2 hF
    exact key l h hF
  · have key : ∀ l, AllP l → lkP l f = some F → FunPV f F := by
      intro l
      induction l with
      | nil => intro _ h; cases h
      | cons p l ih =>
        intro h hF
        simp only [lkP] at hF
        split at hF
        · rename_i e; cases hF; exact e ▸ h.1
        · exact ih h.2 hF
    exact key lp hp hF
theorem envOK_M (l : List (Nat × (List V → Option V))) (M : Nat → Bool) (h : AllV l) : EnvOK (envM l M) := envOK_P l M [] h trivial
theorem envOK_of (l : List (Nat × (List V → Option V))) (h : AllV l) : EnvOK (envOf l) := envOK_M l _ h

/-- What is plain to the last cell has one form. -/
def V.one : V → Option Value
  | .x v => some v
  | _ => none
def V.val : V → Option Value
  | .x v => some v
  | .agg cs => (cs.mapM V.one).map fun l => .agg l.toArray
  | _ => none
theorem cells_val {m : Lim} {w : World} : ∀ {vs : List Value} {us : List V} {xs : List Value}, RdL m w vs us → us.mapM V.one = some xs → vs = xs
  | [], [], xs, _, h => by simp at h; exact h.symm
  | v :: vs, u :: us, xs, hr, h => by
    rw [List.mapM_cons] at h
    cases u with
    | x u =>
      simp only [V.one, Option.pure_def, Option.bind_eq_bind, Option.bind_some] at h
      cases hm : us.mapM V.one with
      | none => rw [hm] at h; cases h
      | some r =>
        rw [hm] at h
        cases h
        rw [cells_val hr.2 hm, Rd.x_iff.1 hr.1]
    | _ => simp [V.one] at h
theorem val_eq {m : Lim} {w : World} {v x : Value} {u : V} (h : Rd m w v u) (hu : u.val = some x) : v = x := by
  cases u with
  | x u => cases hu; exact Rd.x_iff.1 h
  | agg cs =>
    obtain ⟨a, rfl, hr⟩ := Rd.agg_iff.1 h
    simp only [V.val, Option.map_eq_some_iff] at hu
    obtain ⟨l, hl, rfl⟩ := hu
    have := cells_val hr hl
    rw [← this]
  | _ => simp [V.val] at hu
theorem vals_eq {m : Lim} {w : World} : ∀ {vs : List Value} {us : List V} {xs : List Value}, RdL m w vs us → us.map V.val = xs.map some → vs = xs
  | [], [], [], _, _ => rfl
  | [], [], _ :: _, _, h => by simp at h
  | v :: vs, u :: us, [], _, h => by simp at h
  | v :: vs, u :: us, x :: xs, hr, h => by
    simp only [List.map_cons, List.cons.injEq] at h
    rw [val_eq hr.1 h.1, vals_eq hr.2 h.2]
theorem args_eq {m : Lim} {w : World} {vs : Array Value} {us : List V} {xs : List Value} (hr : RdL m w vs.toList us) (h : us.map V.val = xs.map some) : vs = xs.toArray := by
  rw [← vals_eq hr h]
theorem rd_val {m : Lim} {w : World} (a b c : Value) : Rd m w (.agg #[a, b, c]) (.agg [.x a, .x b, .x c]) := Rd.agg_iff.2 ⟨_, rfl, .x _, .x _, .x _, trivial⟩

/-- A value, as plain data. -/
abbrev vl (k n : Int) (s : ByteArray) : V := .agg [.x (.int .i64 k), .x (.int .i64 n), .x (.string s)]
end Go.Proofs.Ytfmdcgakkijkdaa
