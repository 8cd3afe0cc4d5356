/- The run over plain data at this seat: what the calls lean on. -/
import Derived.Test.YtfmdcgakkijkdaaGreatDoorPfTy
import Derived.Test.YtfmdcgakkijkdaaGreatDoorGlob
namespace Go.Proofs.YtfmdcgakkijkdaaGreatDoor
open Go Go.RowKit

def lkF : List (Nat × (List V → Option V)) → Nat → Option (List V → Option V)
  | [], _ => none
  | (k, F) :: l, i => if k = i then some F else lkF l i
def lkP : List (Nat × (List V → Option (V × List (List V)))) → Nat → Option (List V → Option (V × List (List V)))
  | [], _ => none
  | (k, F) :: l, i => if k = i then some F else lkP l i
noncomputable def envB (l : List (Nat × (List V → Option V))) (M : Nat → Bool) (lp : List (Nat × (List V → Option (V × List (List V))))) (MB any : Nat → Bool) : Env := ⟨Tryz.prog, lkF l, fun _ => .undef, Glob, M, lkP lp, globK, MB, any⟩
noncomputable def envP (l : List (Nat × (List V → Option V))) (M : Nat → Bool) (lp : List (Nat × (List V → Option (V × List (List V))))) : Env := envB l M lp (fun _ => false) (fun _ => false)
noncomputable def envM (l : List (Nat × (List V → Option V))) (M : Nat → Bool) : Env := envP l M []
noncomputable def envOf (l : List (Nat × (List V → Option V))) : Env := envM l fun _ => false
section
variable (l : List (Nat × (List V → Option V))) (M : Nat → Bool) (lp : List (Nat × (List V → Option (V × List (List V))))) (MB any : Nat → Bool)
theorem envB_P : (envB l M lp MB any).P = Tryz.prog := rfl
theorem envB_F : (envB l M lp MB any).F = lkF l := rfl
theorem envB_FP : (envB l M lp MB any).FP = lkP lp := rfl
theorem envB_G : (envB l M lp MB any).G = fun _ => .undef := rfl
theorem envB_MB : (envB l M lp MB any).MB = MB := rfl
theorem envB_any : (envB l M lp MB any).any = any := rfl
theorem envB_own (d : Nat) : (envB l M lp MB any).own (some d) = M d := rfl
theorem envP_P : (envP l M lp).P = Tryz.prog := rfl
theorem envP_F : (envP l M lp).F = lkF l := rfl
theorem envP_FP : (envP l M lp).FP = lkP lp := rfl
theorem envP_G : (envP l M lp).G = fun _ => .undef := rfl
theorem envP_MB : (envP l M lp).MB = fun _ => false := rfl
theorem envP_any (i : Nat) : (envP l M lp).any i = false := rfl
theorem envP_own (d : Nat) : (envP l M lp).own (some d) = M d := rfl
theorem envM_P : (envM l M).P = Tryz.prog := rfl
theorem envM_F : (envM l M).F = lkF l := rfl
theorem envM_FP : (envM l M).FP = fun _ => none := rfl
theorem envM_G : (envM l M).G = fun _ => .undef := rfl
theorem envM_MB : (envM l M).MB = fun _ => false := rfl
theorem envM_any (i : Nat) : (envM l M).any i = false := rfl
theorem envM_own (d : Nat) : (envM l M).own (some d) = M d := rfl
theorem envOf_own (d : Option Tmp) : (envOf l).own d = false := by cases d <;> rfl
theorem envOf_P : (envOf l).P = Tryz.prog := rfl
theorem envOf_F : (envOf l).F = lkF l := rfl
theorem envOf_FP : (envOf l).FP = fun _ => none := rfl
theorem envOf_G : (envOf l).G = fun _ => .undef := rfl
theorem envOf_MB : (envOf l).MB = fun _ => false := rfl
theorem envOf_any (i : Nat) : (envOf l).any i = false := rfl
/-- In a region that draws its order no mark is borne by a variable; which regions are gone through is of no matter there. -/
noncomputable def envD (l : List (Nat × (List V → Option V))) (any : Nat → Bool) : Env := envB l (fun _ => false) [] (fun _ => false) any
theorem envB_plain' : (envB l M lp MB any).plain = envD l any := rfl
theorem envP_plain' : (envP l M lp).plain = envOf l := rfl
theorem envM_plain : (envM l M).plain = envOf l := rfl
theorem envOf_plain : (envOf l).plain = envOf l := rfl
theorem envD_P : (envD l any).P = Tryz.prog := rfl
theorem envD_F : (envD l any).F = lkF l := rfl
theorem envD_FP : (envD l any).FP = fun _ => none := rfl
theorem envD_G : (envD l any).G = fun _ => .undef := rfl
theorem envD_MB : (envD l any).MB = fun _ => false := rfl
theorem envD_own (d : Option Tmp) : (envD l any).own d = false := by cases d <;> rfl
section
variable (st : St) (b : Nat → Option (List V)) (k s : Nat) (p u : V) (d : Option Nat) (cs : List V)
theorem wipe_P : wipe (envP l M lp) st = st := rfl
theorem wipe_M : wipe (envM l M) st = st := rfl
theorem wipe_O : wipe (envOf l) st = st := rfl
theorem stripB_P : stripB (envP l M lp) k b = b := rfl
theorem stripB_M : stripB (envM l M) k b = b := rfl
theorem stripB_O : stripB (envOf l) k b = b := rfl
theorem stripB_D : stripB (envD l any) k b = b := rfl
theorem kept_P : (envP l M lp).kept s u = u.bare := rfl
theorem kept_M : (envM l M).kept s u = u.bare := rfl
theorem kept_O : (envOf l).kept s u = u.bare := rfl
theorem kept_D : (envD l any).kept s u = u.bare := rfl
theorem okS_P : (envP l M lp).okS s u = true := rfl
theorem okS_M : (envM l M).okS s u = true := rfl
theorem okS_O : (envOf l).okS s u = true := rfl
theorem okS_D : (envD l any).okS s u = true := rfl
theorem okN_P : (envP l M lp).okN d cs = true := by cases d <;> rfl
theorem okN_M : (envM l M).okN d cs = true := by cases d <;> rfl
theorem okN_O : (envOf l).okN d cs = true := by cases d <;> rfl
theorem okN_D : (envD l any).okN d cs = true := by cases d <;> rfl
theorem okN_B : (envB l M lp MB any).okN (some s) cs = (!MB s || cs.all V.unm) := rfl
theorem okN_B0 : (envB l M lp MB any).okN none cs = true := rfl
theorem okS_B : (envB l M lp MB any).okS s u = (!MB s || (u.isSl || u.cells.all V.unm)) := rfl
theorem kept_B : (envB l M lp MB any).kept s u = if MB s = true then u else u.bare := rfl
theorem keepL_B (o : Nat) : (envB l M lp MB any).keepL (.ptr s o) u = if MB s = true then u else u.bare := rfl
theorem keepL_B1 : (envB l M lp MB any).keepL (.ip cs) u = u.bare := rfl
theorem stripB_at : stripB (envB l M lp MB any) k b s = if MB s = true then (b s).map (List.map (stripV k)) else b s := rfl
theorem wipeB_at : wipeB (envB l M lp MB any) b s = if MB s = true then (b s).map (List.map V.bare) else b s := rfl
theorem wipe_B0 : wipe (envB l M lp (fun _ => false) any) st = st := rfl
theorem wipe_B : wipe (envB l M lp MB any) st = ⟨st.t, wipeB (envB l M lp MB any) st.b⟩ := rfl
theorem keepL_P : (envP l M lp).keepL p u = u.bare := by cases p <;> rfl
theorem keepL_M : (envM l M).keepL p u = u.bare := by cases p <;> rfl
theorem keepL_O : (envOf l).keepL p u = u.bare := by cases p <;> rfl
theorem keepL_D : (envD l any).keepL p u = u.bare := by cases p <;> rfl
end
end
/-- A contract at this seat. -/
def FunV (f : FuncId) (F : List V → Option V) : Prop := Fun (envOf []) f F
def AllV : List (Nat × (List V → Option V)) → Prop
  | [] => True
  | p :: l => FunV p.1 p.2 ∧ AllV l
/-- A contract at this seat of a function that is handed addresses. -/
def FunPV (f : FuncId) (F : List V → Option (V × List (List V))) : Prop := FunP (envOf []) f F
def AllP : List (Nat × (List V → Option (V × List (List V)))) → Prop
  | [] => True
  | p :: l => FunPV p.1 p.2 ∧ AllP l
theorem envOK_B (l : List (Nat × (List V → Option V))) (M : Nat → Bool) (lp : List (Nat × (List V → Option (V × List (List V))))) (MB any : Nat → Bool) (h : AllV l) (hp : AllP lp) : EnvOK (envB l M lp MB any) := by
  refine ⟨fun f F hF => ?_, fun f F hF => ?_, fun X w w' hX hj hb => Glob.low hj hb.size ⟨hb.os, hb.tape, hb.output, hb.size, fun k hk => hb.block k (Nat.lt_of_lt_of_le hk (Glob.high hj)) (fun hm => absurd (hX k hm) (Nat.not_le.2 hk))⟩, fun w hj => Glob.high hj⟩
  · have key : ∀ l, AllV l → lkF l f = some F → FunV f F := by
      intro l
      induction l with
      | nil => intro _ h; cases h
      | cons p l ih =>
        intro h hF
        simp only [lkF] at hF
        split at hF
        · rename_i e; cases hF; exact e ▸ h.1
        · exact ih h.2 hF
    exact key l h hF
  · have key : ∀ l, AllP l → lkP l f = some F → FunPV f F := by
      intro l
      induction l with
      | nil => intro _ h; cases h
      | cons p l ih =>
        intro h hF
        simp only [lkP] at hF
        split at hF
        · rename_i e; cases hF; exact e ▸ h.1
        · exact ih h.2 hF
    exact key lp hp hF
theorem envOK_P (l : List (Nat × (List V → Option V))) (M : Nat → Bool) (lp : List (Nat × (List V → Option (V × List (List V))))) (h : AllV l) (hp : AllP lp) : EnvOK (envP l M lp) := envOK_B l M lp _ _ h hp
theorem envOK_M (l : List (Nat × (List V → Option V))) (M : Nat → Bool) (h : AllV l) : EnvOK (envM l M) := envOK_P l M [] h trivial
theorem envOK_of (l : List (Nat × (List V → Option V))) (h : AllV l) : EnvOK (envOf l) := envOK_M l _ h

/-- What is plain to the last cell has one form. -/
def V.one : V → Option Value
  | .x v => some v
  | _ => none
def V.val : V → Option Value
  | .x v => some v
  | .agg cs => (cs.mapM V.one).map fun l => .agg l.toArray
  | _ => none
theorem cells_val {m : Lim} {w : World} : ∀ {vs : List Value} {us : List V} {xs : List Value}, RdL m w vs us → us.mapM V.one = some xs → vs = xs
  | [], [], xs, _, h => by simp at h; exact h.symm
  | v :: vs, u :: us, xs, hr, h => by
    rw [List.mapM_cons] at h
    cases u with
    | x u =>
      simp only [V.one, Option.pure_def, Option.bind_eq_bind, Option.bind_some] at h
      cases hm : us.mapM V.one with
      | none => rw [hm] at h; cases h
      | some r =>
        rw [hm] at h
        cases h
        rw [cells_val hr.2 hm, Rd.x_iff.1 hr.1]
    | _ => simp [V.one] at h
theorem val_eq {m : Lim} {w : World} {v x : Value} {u : V} (h : Rd m w v u) (hu : u.val = some x) : v = x := by
  cases u with
  | x u => cases hu; exact Rd.x_iff.1 h
  | agg cs =>
    obtain ⟨a, rfl, hr⟩ := Rd.agg_iff.1 h
    simp only [V.val, Option.map_eq_some_iff] at hu
    obtain ⟨l, hl, rfl⟩ := hu
    have := cells_val hr hl
    rw [← this]
  | _ => simp [V.val] at hu
theorem vals_eq {m : Lim} {w : World} : ∀ {vs : List Value} {us : List V} {xs : List Value}, RdL m w vs us → us.map V.val = xs.map some → vs = xs
  | [], [], [], _, _ => rfl
  | [], [], _ :: _, _, h => by simp at h
  | v :: vs, u :: us, [], _, h => by simp at h
  | v :: vs, u :: us, x :: xs, hr, h => by
    simp only [List.map_cons, List.cons.injEq] at h
    rw [val_eq hr.1 h.1, vals_eq hr.2 h.2]
theorem args_eq {m : Lim} {w : World} {vs : Array Value} {us : List V} {xs : List Value} (hr : RdL m w vs.toList us) (h : us.map V.val = xs.map some) : vs = xs.toArray := by
  rw [← vals_eq hr h]
theorem rd_val {m : Lim} {w : World} (a b c : Value) : Rd m w (.agg #[a, b, c]) (.agg [.x a, .x b, .x c]) := Rd.agg_iff.2 ⟨_, rfl, .x _, .x _, .x _, trivial⟩

/-- A value, as plain data. -/
abbrev vl (k n : Int) (s : ByteArray) : V := .agg [.x (.int .i64 k), .x (.int .i64 n), .x (.string s)]
end Go.Proofs.YtfmdcgakkijkdaaGreatDoor
