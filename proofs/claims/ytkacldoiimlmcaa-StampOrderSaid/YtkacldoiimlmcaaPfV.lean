/- The run over plain data at this seat: what the calls lean on. -/
import Derived.Test.YtkacldoiimlmcaaPfTy
import Derived.Test.YtkacldoiimlmcaaGlob
namespace Go.Proofs.Ytkacldoiimlmcaa
open Go Go.RowKit

def lkF : List (Nat × (List V → Option V)) → Nat → Option (List V → Option V)
  | [], _ => none
  | (k, F) :: l, i => if k = i then some F else lkF l i
def lkP : List (Nat × (List V → Option (V × List (List V)))) → Nat → Option (List V → Option (V × List (List V)))
  | [], _ => none
  | (k, F) :: l, i => if k = i then some F else lkP l i
noncomputable def envB (l : List (Nat × (List V → Option V))) (M : Nat → Bool) (lp : List (Nat × (List V → Option (V × List (List V))))) (MB any : Nat → Bool) : Env := ⟨Try.prog, lkF l, fun _ => .undef, Glob, M, lkP lp, globK, MB, any, fun _ _ => none, 0, fun _ => none, fun _ => false, fun _ => false⟩
noncomputable def envP (l : List (Nat × (List V → Option V))) (M : Nat → Bool) (lp : List (Nat × (List V → Option (V × List (List V))))) : Env := envB l M lp (fun _ => false) (fun _ => false)
noncomputable def envM (l : List (Nat × (List V → Option V))) (M : Nat → Bool) : Env := envP l M []
noncomputable def envOf (l : List (Nat × (List V → Option V))) : Env := envM l fun _ => false
section
variable (l : List (Nat × (List V → Option V))) (M : Nat → Bool) (lp : List (Nat × (List V → Option (V × List (List V))))) (MB any : Nat → Bool)
theorem envB_P : (envB l M lp MB any).P = Try.prog := rfl
theorem envB_F : (envB l M lp MB any).F = lkF l := rfl
theorem envB_FP : (envB l M lp MB any).FP = lkP lp := rfl
theorem envB_fz (d : Option Tmp) : (envB l M lp MB any).fzO d = false := by cases d <;> rfl
theorem envP_fz (d : Option Tmp) : (envP l M lp).fzO d = false := by cases d <;> rfl
theorem envM_fz (d : Option Tmp) : (envM l M).fzO d = false := by cases d <;> rfl
theorem envOf_fz (d : Option Tmp) : (envOf l).fzO d = false := by cases d <;> rfl
theorem envB_lit (d : Option Tmp) : (envB l M lp MB any).litD d = false := by cases d <;> rfl
theorem envP_lit (d : Option Tmp) : (envP l M lp).litD d = false := by cases d <;> rfl
theorem envM_lit (d : Option Tmp) : (envM l M).litD d = false := by cases d <;> rfl
theorem envB_FM : (envB l M lp MB any).FM = fun _ => none := rfl
theorem envP_FM : (envP l M lp).FM = fun _ => none := rfl
theorem envM_FM : (envM l M).FM = fun _ => none := rfl
theorem envOf_FM : (envOf l).FM = fun _ => none := rfl
theorem envB_G : (envB l M lp MB any).G = fun _ => .undef := rfl
theorem envB_MB : (envB l M lp MB any).MB = MB := rfl
theorem envB_any : (envB l M lp MB any).any = any := rfl
theorem envB_own (d : Nat) : (envB l M lp MB any).own (some d) = M d := rfl
theorem envP_P : (envP l M lp).P = Try.prog := rfl
theorem envP_F : (envP l M lp).F = lkF l := rfl
theorem envP_FP : (envP l M lp).FP = lkP lp := rfl
theorem envP_G : (envP l M lp).G = fun _ => .undef := rfl
theorem envP_MB : (envP l M lp).MB = fun _ => false := rfl
theorem envP_any (i : Nat) : (envP l M lp).any i = false := rfl
theorem envP_own (d : Nat) : (envP l M lp).own (some d) = M d := rfl
theorem envM_P : (envM l M).P = Try.prog := rfl
theorem envM_F : (envM l M).F = lkF l := rfl
theorem envM_FP : (envM l M).FP = fun _ => none := rfl
theorem envM_G : (envM l M).G = fun _ => .undef := rfl
theorem envM_MB : (envM l M).MB = fun _ => false := rfl
theorem envM_any (i : Nat) : (envM l M).any i = false := rfl
theorem envM_own (d : Nat) : (envM l M).own (some d) = M d := rfl
theorem envOf_own (d : Option Tmp) : (envOf l).own d = false := by cases d <;> rfl
theorem envOf_P : (envOf l).P = Try.prog := rfl
theorem envOf_F : (envOf l).F = lkF l := rfl
theorem envOf_FP : (envOf l).FP = fun _ => none := rfl
theorem envOf_G : (envOf l).G = fun _ => .undef := rfl
theorem envOf_MB : (envOf l).MB = fun _ => false := rfl
theorem envOf_any (i : Nat) : (envOf l).any i = false := rfl
/-- In a region that draws its order no mark is borne by a variable; which regions are gone through is of no matter there. -/
noncomputable def envD (l : List (Nat × (List V → Option V))) (any : Nat → Bool) : Env := envB l (fun _ => false) [] (fun _ => false) any
theorem envB_plain' : (envB l M lp MB any).plain = envD l any := rfl
theorem envP_plain' : (envP l M lp).plain = envOf l := rfl
theorem envM_plain : (envM l M).plain = envOf l := rfl
theorem envOf_plain : (envOf l).plain = envOf l := rfl
theorem envD_fz (d : Option Tmp) : (envD l any).fzO d = false := by cases d <;> rfl
theorem envD_P : (envD l any).P = Try.prog := rfl
theorem envD_F : (envD l any).F = lkF l := rfl
theorem envD_FP : (envD l any).FP = fun _ => none := rfl
theorem envD_FM : (envD l any).FM = fun _ => none := rfl
theorem envD_G : (envD l any).G = fun _ => .undef := rfl
theorem envD_MB : (envD l any).MB = fun _ => false := rfl
theorem envD_own (d : Option Tmp) : (envD l any).own d = false := by cases d <;> rfl
section
variable (st : St) (b : Nat → Option (List V)) (k s : Nat) (p u : V) (d : Option Nat) (cs : List V)
theorem wipe_P : wipe (envP l M lp) st = st := rfl
theorem wipe_M : wipe (envM l M) st = st := rfl
theorem wipe_O : wipe (envOf l) st = st := rfl
theorem stripB_P : stripB (envP l M lp) k b = b := rfl
theorem stripB_M : stripB (envM l M) k b = b := rfl
theorem stripB_O : stripB (envOf l) k b = b := rfl
theorem stripB_D : stripB (envD l any) k b = b := rfl
theorem kept_P : (envP l M lp).kept s u = u.bare := rfl
theorem kept_M : (envM l M).kept s u = u.bare := rfl
theorem kept_O : (envOf l).kept s u = u.bare := rfl
theorem kept_D : (envD l any).kept s u = u.bare := rfl
theorem okS_P : (envP l M lp).okS s u = true := rfl
theorem okS_M : (envM l M).okS s u = true := rfl
theorem okS_O : (envOf l).okS s u = true := rfl
theorem okS_D : (envD l any).okS s u = true := rfl
theorem okN_P : (envP l M lp).okN d cs = true := by cases d <;> rfl
theorem okN_M : (envM l M).okN d cs = true := by cases d <;> rfl
theorem okN_O : (envOf l).okN d cs = true := by cases d <;> rfl
theorem okN_D : (envD l any).okN d cs = true := by cases d <;> rfl
theorem okN_B : (envB l M lp MB any).okN (some s) cs = (!MB s || cs.all V.unm) := rfl
theorem okN_B0 : (envB l M lp MB any).okN none cs = true := rfl
theorem okS_B : (envB l M lp MB any).okS s u = (!MB s || (u.isSl || u.cells.all V.unm)) := rfl
theorem kept_B : (envB l M lp MB any).kept s u = if MB s = true then u else u.bare := rfl
theorem keepL_B (o : Nat) : (envB l M lp MB any).keepL (.ptr s o) u = if MB s = true then u else u.bare := rfl
theorem keepL_B1 : (envB l M lp MB any).keepL (.ip cs) u = u.bare := rfl
theorem stripB_at : stripB (envB l M lp MB any) k b s = if MB s = true then (b s).map (List.map (stripV k)) else b s := rfl
theorem wipeB_at : wipeB (envB l M lp MB any) b s = if MB s = true then (b s).map (List.map V.bare) else b s := rfl
theorem wipe_B0 : wipe (envB l M lp (fun _ => false) any) st = st := rfl
theorem wipe_B : wipe (envB l M lp MB any) st = ⟨st.t, wipeB (envB l M lp MB any) st.b⟩ := rfl
theorem keepL_P : (envP l M lp).keepL p u = u.bare := by cases p <;> rfl
theorem keepL_M : (envM l M).keepL p u = u.bare := by cases p <;> rfl
theorem keepL_O : (envOf l).keepL p u = u.bare := by cases p <;> rfl
theorem keepL_D : (envD l any).keepL p u = u.bare := by cases p <;> rfl
end
end
/-- A contract at this seat. -/
def FunV (f : FuncId) (F : List V → Option V) : Prop := Fun (envOf []) f F
def AllV : List (Nat × (List V → Option V)) → Prop
  | [] => True
  | p :: l => FunV p.1 p.2 ∧ AllV l
/-- A contract at this seat of a function that is handed addresses. -/
def FunPV (f : FuncId) (F : List V → Option (V × List (List V))) : Prop := FunP (envOf []) f F
def AllP : List (Nat × (List V → Option (V × List (List V)))) → Prop
  | [] => True
  | p :: l => FunPV p.1 p.2 ∧ AllP l
theorem envOK_B (l : List (Nat × (List V → Option V))) (M : Nat → Bool) (lp : List (Nat × (List V → Option (V × List (List V))))) (MB any : Nat → Bool) (h : AllV l) (hp : AllP lp) : EnvOK (envB l M lp MB any) := by
  refine ⟨fun f F hF => ?_, fun f F hF => ?_, fun X w w' hX hj hb => Glob.low hj hb.size ⟨hb.os, hb.tape, hb.output, hb.size, fun k hk => hb.block k (Nat.lt_of_lt_of_le hk (Glob.high hj)) (fun hm => absurd (hX k hm) (Nat.not_le.2 hk))⟩, fun w hj => Glob.high hj, (fun f lb => rfl), fun f F hF => by cases hF⟩
  · have key : ∀ l, AllV l → lkF l f = some F → FunV f F := by
      intro l
      induction l with
      | nil => intro _ h; cases h
      | cons p l ih =>
        intro h hF
        simp only [lkF] at hF
        split at hF
        · rename_i e; cases hF; exact e ▸ h.1
        · exact ih h.2 hF
    exact key l h hF
  · have key : ∀ l, AllP l → lkP l f = some F → FunPV f F := by
      intro l
      induction l with
      | nil => intro _ h; cases h
      | cons p l ih =>
        intro h hF
        simp only [lkP] at hF
        split at hF
        · rename_i e; cases hF; exact e ▸ h.1
        · exact ih h.2 hF
    exact key lp hp hF
theorem envOK_P (l : List (Nat × (List V → Option V))) (M : Nat → Bool) (lp : List (Nat × (List V → Option (V × List (List V))))) (h : AllV l) (hp : AllP lp) : EnvOK (envP l M lp) := envOK_B l M lp _ _ h hp
theorem envOK_M (l : List (Nat × (List V → Option V))) (M : Nat → Bool) (h : AllV l) : EnvOK (envM l M) := envOK_P l M [] h trivial
theorem envOK_of (l : List (Nat × (List V → Option V))) (h : AllV l) : EnvOK (envOf l) := envOK_M l _ h
theorem effV_B (l : List (Nat × (List V → Option V))) (M : Nat → Bool) (lp : List (Nat × (List V → Option (V × List (List V))))) (MB any : Nat → Bool) (u : V) : effV (envB l M lp MB any) u = none := by
  unfold effV; split <;> rfl
theorem effV_P (l : List (Nat × (List V → Option V))) (M : Nat → Bool) (lp : List (Nat × (List V → Option (V × List (List V))))) (u : V) : effV (envP l M lp) u = none := effV_B _ _ _ _ _ u
theorem effV_M (l : List (Nat × (List V → Option V))) (M : Nat → Bool) (u : V) : effV (envM l M) u = none := effV_B _ _ _ _ _ u
theorem effV_O (l : List (Nat × (List V → Option V))) (u : V) : effV (envOf l) u = none := effV_B _ _ _ _ _ u
theorem effV_D (l : List (Nat × (List V → Option V))) (any : Nat → Bool) (u : V) : effV (envD l any) u = none := effV_B _ _ _ _ _ u
/-- Where all calls lean on a variable that nobody names. -/
noncomputable def envX (G : Nat → V) (X : FuncId → List Value → Option (List V → Option (V × List (List V)))) (xk : Nat) : Env := ⟨Try.prog, fun _ => none, G, Glob, fun _ => false, fun _ => none, globK, fun _ => false, fun _ => false, X, xk, fun _ => none, fun _ => false, fun _ => false⟩
section
variable (G : Nat → V) (X : FuncId → List Value → Option (List V → Option (V × List (List V)))) (xk : Nat) (f : FuncId) (u : V) (d : Option Nat) (cs : List V) (st : St) (b : Nat → Option (List V)) (k s : Nat) (p : V)
theorem envX_fz (d : Option Tmp) : (envX G X xk).fzO d = false := by cases d <;> rfl
theorem envX_P : (envX G X xk).P = Try.prog := rfl
theorem envX_F : (envX G X xk).F = fun _ => none := rfl
theorem envX_FP : (envX G X xk).FP = fun _ => none := rfl
theorem envX_FM : (envX G X xk).FM = fun _ => none := rfl
theorem envX_G : (envX G X xk).G = G := rfl
theorem envX_MB : (envX G X xk).MB = fun _ => false := rfl
theorem envX_any (i : Nat) : (envX G X xk).any i = false := rfl
theorem envX_own : (envX G X xk).own d = false := by cases d <;> rfl
theorem envX_X : (envX G X xk).X = X := rfl
theorem envX_xk : (envX G X xk).xk = xk := rfl
theorem effX_at (lb : Array Value) : effV (envX G X xk) (.x (.func (.func f) #[] lb)) = X f lb.toList := rfl
theorem effX_at0 : effV (envX G X xk) (.x (.func (.func f) #[] #[])) = X f [] := rfl
theorem wipe_X : wipe (envX G X xk) st = st := rfl
theorem stripB_X : stripB (envX G X xk) k b = b := rfl
theorem kept_X : (envX G X xk).kept s u = u.bare := rfl
theorem okS_X : (envX G X xk).okS s u = true := rfl
theorem okN_X : (envX G X xk).okN d cs = true := by cases d <;> rfl
theorem keepL_X : (envX G X xk).keepL p u = u.bare := by cases p <;> rfl
end
theorem envX_ok (G : Nat → V) (X : FuncId → List Value → Option (List V → Option (V × List (List V)))) (xk : Nat) (h1 : 1000 ≤ xk) (pm : Pm) (bk : Nat) (hb : pm.b (envX G X xk).xk = bk) (h : ∀ f lb F, (envX G X xk).X f lb = some F → FunX (envX G X xk) bk f lb F) : EnvX (envX G X xk) pm :=
  ⟨(fun f F e => by cases e), (fun f F e => by cases e), fun X w w' hX hj hb => Glob.low hj hb.size ⟨hb.os, hb.tape, hb.output, hb.size, fun k hk => hb.block k (Nat.lt_of_lt_of_le hk (Glob.high hj)) (fun hm => absurd (hX k hm) (Nat.not_le.2 hk))⟩, (fun w hj => Glob.high hj), (fun f lb F e => ⟨h1, by rw [hb]; exact h f lb F e⟩), .inl (fun _ => rfl), fun f F hF => by cases hF⟩
/-- A contract at this seat of a function that makes a map. -/
def FunMV (f : FuncId) (F : List V → Option (List V × List V)) : Prop := FunM (envOf []) f F
def AllM : List (Nat × (List V → Option (List V × List V))) → Prop
  | [] => True
  | p :: l => FunMV p.1 p.2 ∧ AllM l
def lkM : List (Nat × (List V → Option (List V × List V))) → Nat → Option (List V → Option (List V × List V))
  | [], _ => none
  | (k, F) :: l, i => if k = i then some F else lkM l i
/-- Where functions that make maps are called. -/
noncomputable def envQ (l : List (Nat × (List V → Option V))) (lp : List (Nat × (List V → Option (V × List (List V))))) (lm : List (Nat × (List V → Option (List V × List V)))) (lit any : Nat → Bool) : Env := ⟨Try.prog, lkF l, fun _ => .undef, Glob, lit, lkP lp, globK, fun _ => false, any, fun _ _ => none, 0, lkM lm, lit, fun _ => false⟩
section
variable (l : List (Nat × (List V → Option V))) (lp : List (Nat × (List V → Option (V × List (List V))))) (lm : List (Nat × (List V → Option (List V × List V)))) (lit any : Nat → Bool) (u : V) (d : Option Nat) (cs : List V) (st : St) (b : Nat → Option (List V)) (k s : Nat) (p : V)
theorem envQ_fz (d : Option Tmp) : (envQ l lp lm lit any).fzO d = false := by cases d <;> rfl
theorem envQ_P : (envQ l lp lm lit any).P = Try.prog := rfl
theorem envQ_F : (envQ l lp lm lit any).F = lkF l := rfl
theorem envQ_FP : (envQ l lp lm lit any).FP = lkP lp := rfl
theorem envQ_FM : (envQ l lp lm lit any).FM = lkM lm := rfl
theorem envQ_G : (envQ l lp lm lit any).G = fun _ => .undef := rfl
theorem envQ_MB : (envQ l lp lm lit any).MB = fun _ => false := rfl
theorem envQ_any : (envQ l lp lm lit any).any = any := rfl
theorem envQ_own (d : Nat) : (envQ l lp lm lit any).own (some d) = lit d := rfl
theorem envQ_own0 : (envQ l lp lm lit any).own none = false := rfl
theorem envQ_lit (d : Nat) : (envQ l lp lm lit any).litD (some d) = lit d := rfl
theorem envQ_plain' : (envQ l lp lm lit any).plain = envD l any := rfl
theorem effV_Q : effV (envQ l lp lm lit any) u = none := by unfold effV; split <;> rfl
theorem wipe_Q : wipe (envQ l lp lm lit any) st = st := rfl
theorem stripB_Q : stripB (envQ l lp lm lit any) k b = b := rfl
theorem kept_Q : (envQ l lp lm lit any).kept s u = u.bare := rfl
theorem okS_Q : (envQ l lp lm lit any).okS s u = true := rfl
theorem okN_Q : (envQ l lp lm lit any).okN d cs = true := by cases d <;> rfl
theorem keepL_Q : (envQ l lp lm lit any).keepL p u = u.bare := by cases p <;> rfl
end
theorem envOK_Q (l : List (Nat × (List V → Option V))) (lp : List (Nat × (List V → Option (V × List (List V))))) (lm : List (Nat × (List V → Option (List V × List V)))) (lit any : Nat → Bool) (h : AllV l) (hp : AllP lp) (hq : AllM lm) : EnvOK (envQ l lp lm lit any) := by
  have h0 := envOK_B l (fun _ => false) lp (fun _ => false) any h hp
  refine ⟨h0.fn, h0.fnP, h0.keep, h0.high, h0.noX, fun f F hF => ?_⟩
  have key : ∀ l, AllM l → lkM l f = some F → FunMV f F := by
    intro l
    induction l with
    | nil => intro _ h; cases h
    | cons p l ih =>
      intro h hF
      simp only [lkM] at hF
      split at hF
      · rename_i e; cases hF; exact e ▸ h.1
      · exact ih h.2 hF
  exact key lm hq hF

/-- .. with rows that are written, literal rows that grow, and what is frozen. -/
noncomputable def envR (l : List (Nat × (List V → Option V))) (lp : List (Nat × (List V → Option (V × List (List V))))) (lm : List (Nat × (List V → Option (List V × List V)))) (M lit fz any : Nat → Bool) : Env := ⟨Try.prog, lkF l, fun _ => .undef, Glob, M, lkP lp, globK, fun _ => false, any, fun _ _ => none, 0, lkM lm, lit, fz⟩
section
variable (l : List (Nat × (List V → Option V))) (lp : List (Nat × (List V → Option (V × List (List V))))) (lm : List (Nat × (List V → Option (List V × List V)))) (M lit fz any : Nat → Bool) (u : V) (d : Option Nat) (cs : List V) (st : St) (b : Nat → Option (List V)) (k s : Nat) (p : V)
theorem envR_P : (envR l lp lm M lit fz any).P = Try.prog := rfl
theorem envR_F : (envR l lp lm M lit fz any).F = lkF l := rfl
theorem envR_FP : (envR l lp lm M lit fz any).FP = lkP lp := rfl
theorem envR_FM : (envR l lp lm M lit fz any).FM = lkM lm := rfl
theorem envR_G : (envR l lp lm M lit fz any).G = fun _ => .undef := rfl
theorem envR_MB : (envR l lp lm M lit fz any).MB = fun _ => false := rfl
theorem envR_any : (envR l lp lm M lit fz any).any = any := rfl
theorem envR_own (d : Nat) : (envR l lp lm M lit fz any).own (some d) = M d := rfl
theorem envR_own0 : (envR l lp lm M lit fz any).own none = false := rfl
theorem envR_lit (d : Nat) : (envR l lp lm M lit fz any).litD (some d) = lit d := rfl
theorem envR_fz (d : Nat) : (envR l lp lm M lit fz any).fzO (some d) = fz d := rfl
theorem envR_fz0 : (envR l lp lm M lit fz any).fzO none = false := rfl
theorem envR_plain' : (envR l lp lm M lit fz any).plain = envD l any := rfl
theorem effV_R : effV (envR l lp lm M lit fz any) u = none := by unfold effV; split <;> rfl
theorem wipe_R : wipe (envR l lp lm M lit fz any) st = st := rfl
theorem stripB_R : stripB (envR l lp lm M lit fz any) k b = b := rfl
theorem kept_R : (envR l lp lm M lit fz any).kept s u = u.bare := rfl
theorem okS_R : (envR l lp lm M lit fz any).okS s u = true := rfl
theorem okN_R : (envR l lp lm M lit fz any).okN d cs = true := by cases d <;> rfl
theorem keepL_R : (envR l lp lm M lit fz any).keepL p u = u.bare := by cases p <;> rfl
end
theorem envOK_R (l : List (Nat × (List V → Option V))) (lp : List (Nat × (List V → Option (V × List (List V))))) (lm : List (Nat × (List V → Option (List V × List V)))) (M lit fz any : Nat → Bool) (h : AllV l) (hp : AllP lp) (hq : AllM lm) : EnvOK (envR l lp lm M lit fz any) := by
  have h0 := envOK_Q l lp lm lit any h hp hq
  exact ⟨h0.fn, h0.fnP, h0.keep, h0.high, h0.noX, h0.fnM⟩

theorem cells_val {m : Lim} {w : World} : ∀ {vs : List Value} {us : List V} {xs : List Value}, RdL m w vs us → us.mapM V.one = some xs → vs = xs
  | [], [], xs, _, h => by simp at h; exact h.symm
  | v :: vs, u :: us, xs, hr, h => by
    rw [List.mapM_cons] at h
    cases u with
    | x u =>
      simp only [V.one, Option.pure_def, Option.bind_eq_bind, Option.bind_some] at h
      cases hm : us.mapM V.one with
      | none => rw [hm] at h; cases h
      | some r =>
        rw [hm] at h
        cases h
        rw [cells_val hr.2 hm, Rd.x_iff.1 hr.1]
    | _ => simp [V.one] at h
theorem val_eq {m : Lim} {w : World} {v x : Value} {u : V} (h : Rd m w v u) (hu : u.val = some x) : v = x := by
  cases u with
  | x u => cases hu; exact Rd.x_iff.1 h
  | agg cs =>
    obtain ⟨a, rfl, hr⟩ := Rd.agg_iff.1 h
    simp only [V.val, Option.map_eq_some_iff] at hu
    obtain ⟨l, hl, rfl⟩ := hu
    have := cells_val hr hl
    rw [← this]
  | _ => simp [V.val] at hu
theorem vals_eq {m : Lim} {w : World} : ∀ {vs : List Value} {us : List V} {xs : List Value}, RdL m w vs us → us.map V.val = xs.map some → vs = xs
  | [], [], [], _, _ => rfl
  | [], [], _ :: _, _, h => by simp at h
  | v :: vs, u :: us, [], _, h => by simp at h
  | v :: vs, u :: us, x :: xs, hr, h => by
    simp only [List.map_cons, List.cons.injEq] at h
    rw [val_eq hr.1 h.1, vals_eq hr.2 h.2]
theorem args_eq {m : Lim} {w : World} {vs : Array Value} {us : List V} {xs : List Value} (hr : RdL m w vs.toList us) (h : us.map V.val = xs.map some) : vs = xs.toArray := by
  rw [← vals_eq hr h]
theorem rd_val {m : Lim} {w : World} (a b c : Value) : Rd m w (.agg #[a, b, c]) (.agg [.x a, .x b, .x c]) := Rd.agg_iff.2 ⟨_, rfl, .x _, .x _, .x _, trivial⟩

/-- A value, as plain data. -/
abbrev vl (k n : Int) (s : ByteArray) : V := .agg [.x (.int .i64 k), .x (.int .i64 n), .x (.string s)]
end Go.Proofs.Ytkacldoiimlmcaa
