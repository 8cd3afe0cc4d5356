/- The run over plain data at this seat: what the calls lean on. -/
import Derived.Test.YtfngpfnbhafmlaaGreatDoorPfTy
import Derived.Test.YtfngpfnbhafmlaaGreatDoorGlob
import Derived.Test.YtfngpfnbhafmlaaGreatDoorArithP
import Derived.KernelRfl
namespace Go.Proofs.YtfngpfnbhafmlaaGreatDoor
open Go Go.RowKit
def lkF : List (Nat × (List V → Option V)) → Nat → Option (List V → Option V)
 | [], _ => none
 | (k, F) :: l, i => if k = i then some F else lkF l i
def lkP : List (Nat × (List V → Option (V × List (List V)))) → Nat → Option (List V → Option (V × List (List V)))
 | [], _ => none
 | (k, F) :: l, i => if k = i then some F else lkP l i
noncomputable def envB (l : List (Nat × (List V → Option V))) (M : Nat → Bool) (lp : List (Nat × (List V → Option (V × List (List V))))) (MB any : Nat → Bool) : Env := ⟨Tryz.prog, lkF l, fun _ => .undef, Glob, M, lkP lp, globK, MB, any, fun _ _ => none, 0, fun _ => none, fun _ => false⟩
noncomputable def envP (l : List (Nat × (List V → Option V))) (M : Nat → Bool) (lp : List (Nat × (List V → Option (V × List (List V))))) : Env := envB l M lp (fun _ => false) (fun _ => false)
noncomputable def envM (l : List (Nat × (List V → Option V))) (M : Nat → Bool) : Env := envP l M []
noncomputable def envOf (l : List (Nat × (List V → Option V))) : Env := envM l fun _ => false
section
variable (l : List (Nat × (List V → Option V))) (M : Nat → Bool) (lp : List (Nat × (List V → Option (V × List (List V))))) (MB any : Nat → Bool)
theorem envB_P : (envB l M lp MB any).P = Tryz.prog := rfl
theorem envB_F : (envB l M lp MB any).F = lkF l := rfl
theorem envB_FP : (envB l M lp MB any).FP = lkP lp := rfl
theorem envB_lit (d : Option Tmp) : (envB l M lp MB any).litD d = false := by cases d <;> rfl
theorem envP_lit (d : Option Tmp) : (envP l M lp).litD d = false := by cases d <;> rfl
theorem envM_lit (d : Option Tmp) : (envM l M).litD d = false := by cases d <;> rfl
theorem envB_FM : (envB l M lp MB any).FM = fun _ => none := rfl
theorem envP_FM : (envP l M lp).FM = fun _ => none := rfl
theorem envM_FM : (envM l M).FM = fun _ => none := rfl
theorem envOf_FM : (envOf l).FM = fun _ => none := rfl
theorem envB_G : (envB l M lp MB any).G = fun _ => .undef := rfl
theorem envB_MB : (envB l M lp MB any).MB = MB := rfl
theorem envB_any : (envB l M lp MB any).any = any := rfl
theorem envB_own (d : Nat) : (envB l M lp MB any).own (some d) = M d := rfl
theorem envP_P : (envP l M lp).P = Tryz.prog := rfl
theorem envP_F : (envP l M lp).F = lkF l := rfl
theorem envP_FP : (envP l M lp).FP = lkP lp := rfl
theorem envP_G : (envP l M lp).G = fun _ => .undef := rfl
theorem envP_MB : (envP l M lp).MB = fun _ => false := rfl
theorem envP_any (i : Nat) : (envP l M lp).any i = false := rfl
theorem envP_own (d : Nat) : (envP l M lp).own (some d) = M d := rfl
theorem envM_P : (envM l M).P = Tryz.prog := rfl
theorem envM_F : (envM l M).F = lkF l := rfl
theorem envM_FP : (envM l M).FP = fun _ => none := rfl
theorem envM_G : (envM l M).G = fun _ => .undef := rfl
theorem envM_MB : (envM l M).MB = fun _ => false := rfl
theorem envM_any (i : Nat) : (envM l M).any i = false := rfl
theorem envM_own (d : Nat) : (envM l M).own (some d) = M d := rfl
theorem envOf_own (d : Option Tmp) : (envOf l).own d = false := by cases d <;> rfl
theorem envOf_P : (envOf l).P = Tryz.prog := rfl
theorem envOf_F : (envOf l).F = lkF l := rfl
theorem envOf_FP : (envOf l).FP = fun _ => none := rfl
theorem envOf_G : (envOf l).G = fun _ => .undef := rfl
theorem envOf_MB : (envOf l).MB = fun _ => false := rfl
theorem envOf_any (i : Nat) : (envOf l).any i = false := rfl
noncomputable def envD (l : List (Nat × (List V → Option V))) (any : Nat → Bool) : Env := envB l (fun _ => false) [] (fun _ => false) any
theorem envB_plain' : (envB l M lp MB any).plain = envD l any := rfl
theorem envP_plain' : (envP l M lp).plain = envOf l := rfl
theorem envM_plain : (envM l M).plain = envOf l := rfl
theorem envOf_plain : (envOf l).plain = envOf l := rfl
theorem envD_P : (envD l any).P = Tryz.prog := rfl
theorem envD_F : (envD l any).F = lkF l := rfl
theorem envD_FP : (envD l any).FP = fun _ => none := rfl
theorem envD_FM : (envD l any).FM = fun _ => none := rfl
theorem envD_G : (envD l any).G = fun _ => .undef := rfl
theorem envD_MB : (envD l any).MB = fun _ => false := rfl
theorem envD_own (d : Option Tmp) : (envD l any).own d = false := by cases d <;> rfl
section
variable (st : St) (b : Nat → Option (List V)) (k s : Nat) (p u : V) (d : Option Nat) (cs : List V)
theorem wipe_P : wipe (envP l M lp) st = st := rfl
theorem wipe_M : wipe (envM l M) st = st := rfl
theorem wipe_O : wipe (envOf l) st = st := rfl
theorem stripB_P : stripB (envP l M lp) k b = b := rfl
theorem stripB_M : stripB (envM l M) k b = b := rfl
theorem stripB_O : stripB (envOf l) k b = b := rfl
theorem stripB_D : stripB (envD l any) k b = b := rfl
theorem kept_P : (envP l M lp).kept s u = u.bare := rfl
theorem kept_M : (envM l M).kept s u = u.bare := rfl
theorem kept_O : (envOf l).kept s u = u.bare := rfl
theorem kept_D : (envD l any).kept s u = u.bare := rfl
theorem okS_P : (envP l M lp).okS s u = true := rfl
theorem okS_M : (envM l M).okS s u = true := rfl
theorem okS_O : (envOf l).okS s u = true := rfl
theorem okS_D : (envD l any).okS s u = true := rfl
theorem okN_P : (envP l M lp).okN d cs = true := by cases d <;> rfl
theorem okN_M : (envM l M).okN d cs = true := by cases d <;> rfl
theorem okN_O : (envOf l).okN d cs = true := by cases d <;> rfl
theorem okN_D : (envD l any).okN d cs = true := by cases d <;> rfl
theorem okN_B : (envB l M lp MB any).okN (some s) cs = (!MB s || cs.all V.unm) := rfl
theorem okN_B0 : (envB l M lp MB any).okN none cs = true := rfl
theorem okS_B : (envB l M lp MB any).okS s u = (!MB s || (u.isSl || u.cells.all V.unm)) := rfl
theorem kept_B : (envB l M lp MB any).kept s u = if MB s = true then u else u.bare := rfl
theorem keepL_B (o : Nat) : (envB l M lp MB any).keepL (.ptr s o) u = if MB s = true then u else u.bare := rfl
theorem keepL_B1 : (envB l M lp MB any).keepL (.ip cs) u = u.bare := rfl
theorem stripB_at : stripB (envB l M lp MB any) k b s = if MB s = true then (b s).map (List.map (stripV k)) else b s := rfl
theorem wipeB_at : wipeB (envB l M lp MB any) b s = if MB s = true then (b s).map (List.map V.bare) else b s := rfl
theorem wipe_B0 : wipe (envB l M lp (fun _ => false) any) st = st := rfl
theorem keepL_P : (envP l M lp).keepL p u = u.bare := by cases p <;> rfl
theorem keepL_M : (envM l M).keepL p u = u.bare := by cases p <;> rfl
theorem keepL_O : (envOf l).keepL p u = u.bare := by cases p <;> rfl
theorem keepL_D : (envD l any).keepL p u = u.bare := by cases p <;> rfl
end
end
def FunV (f : FuncId) (F : List V → Option V) : Prop := Fun (envOf []) f F
def AllV : List (Nat × (List V → Option V)) → Prop
 | [] => True
 | p :: l => FunV p.1 p.2 ∧ AllV l
def FunPV (f : FuncId) (F : List V → Option (V × List (List V))) : Prop := FunP (envOf []) f F
def AllP : List (Nat × (List V → Option (V × List (List V)))) → Prop
 | [] => True
 | p :: l => FunPV p.1 p.2 ∧ AllP l
theorem envOK_B (l : List (Nat × (List V → Option V))) (M : Nat → Bool) (lp : List (Nat × (List V → Option (V × List (List V))))) (MB any : Nat → Bool) (h : AllV l) (hp : AllP lp) : EnvOK (envB l M lp MB any) := by
 refine ⟨fun f F hF => ?_, fun f F hF => ?_, fun X w w' hX hj hb => Glob.low hj hb.size ⟨hb.os, hb.tape, hb.output, hb.size, fun k hk => hb.block k (Nat.lt_of_lt_of_le hk (Glob.high hj)) (fun hm => absurd (hX k hm) (Nat.not_le.2 hk))⟩, fun w hj => Glob.high hj, (fun f lb => rfl), fun f F hF => by cases hF⟩
 · have key : ∀ l, AllV l → lkF l f = some F → FunV f F := by
    intro l
    induction l with
    | nil => intro _ h; cases h
    | cons p l ih =>
      intro h hF
      simp only [lkF] at hF
      split at hF
      · rename_i e; cases hF; exact e ▸ h.1
      · exact ih h.2 hF
   exact key l h hF
 · have key : ∀ l, AllP l → lkP l f = some F → FunPV f F := by
    intro l
    induction l with
    | nil => intro _ h; cases h
    | cons p l ih =>
      intro h hF
      simp only [lkP] at hF
      split at hF
      · rename_i e; cases hF; exact e ▸ h.1
      · exact ih h.2 hF
   exact key lp hp hF
theorem envOK_P (l : List (Nat × (List V → Option V))) (M : Nat → Bool) (lp : List (Nat × (List V → Option (V × List (List V))))) (h : AllV l) (hp : AllP lp) : EnvOK (envP l M lp) := envOK_B l M lp _ _ h hp
theorem envOK_M (l : List (Nat × (List V → Option V))) (M : Nat → Bool) (h : AllV l) : EnvOK (envM l M) := envOK_P l M [] h trivial
theorem envOK_of (l : List (Nat × (List V → Option V))) (h : AllV l) : EnvOK (envOf l) := envOK_M l _ h
theorem effV_B (l : List (Nat × (List V → Option V))) (M : Nat → Bool) (lp : List (Nat × (List V → Option (V × List (List V))))) (MB any : Nat → Bool) (u : V) : effV (envB l M lp MB any) u = none := by
 unfold effV; split <;> rfl
theorem effV_P (l : List (Nat × (List V → Option V))) (M : Nat → Bool) (lp : List (Nat × (List V → Option (V × List (List V))))) (u : V) : effV (envP l M lp) u = none := effV_B _ _ _ _ _ u
theorem effV_M (l : List (Nat × (List V → Option V))) (M : Nat → Bool) (u : V) : effV (envM l M) u = none := effV_B _ _ _ _ _ u
theorem effV_O (l : List (Nat × (List V → Option V))) (u : V) : effV (envOf l) u = none := effV_B _ _ _ _ _ u
theorem effV_D (l : List (Nat × (List V → Option V))) (any : Nat → Bool) (u : V) : effV (envD l any) u = none := effV_B _ _ _ _ _ u
noncomputable def envX (G : Nat → V) (X : FuncId → List Value → Option (List V → Option (V × List (List V)))) (xk : Nat) : Env := ⟨Tryz.prog, fun _ => none, G, Glob, fun _ => false, fun _ => none, globK, fun _ => false, fun _ => false, X, xk, fun _ => none, fun _ => false⟩
section
variable (G : Nat → V) (X : FuncId → List Value → Option (List V → Option (V × List (List V)))) (xk : Nat) (f : FuncId) (u : V) (d : Option Nat) (cs : List V) (st : St) (b : Nat → Option (List V)) (k s : Nat) (p : V)
theorem envX_P : (envX G X xk).P = Tryz.prog := rfl
theorem envX_F : (envX G X xk).F = fun _ => none := rfl
theorem envX_FP : (envX G X xk).FP = fun _ => none := rfl
theorem envX_FM : (envX G X xk).FM = fun _ => none := rfl
theorem envX_G : (envX G X xk).G = G := rfl
theorem envX_MB : (envX G X xk).MB = fun _ => false := rfl
theorem envX_any (i : Nat) : (envX G X xk).any i = false := rfl
theorem envX_own : (envX G X xk).own d = false := by cases d <;> rfl
theorem envX_X : (envX G X xk).X = X := rfl
theorem envX_xk : (envX G X xk).xk = xk := rfl
theorem effX_at (lb : Array Value) : effV (envX G X xk) (.x (.func (.func f) #[] lb)) = X f lb.toList := rfl
theorem effX_at0 : effV (envX G X xk) (.x (.func (.func f) #[] #[])) = X f [] := rfl
theorem wipe_X : wipe (envX G X xk) st = st := rfl
theorem stripB_X : stripB (envX G X xk) k b = b := rfl
theorem kept_X : (envX G X xk).kept s u = u.bare := rfl
theorem okS_X : (envX G X xk).okS s u = true := rfl
theorem okN_X : (envX G X xk).okN d cs = true := by cases d <;> rfl
theorem keepL_X : (envX G X xk).keepL p u = u.bare := by cases p <;> rfl
end
def FunMV (f : FuncId) (F : List V → Option (List V × List V)) : Prop := FunM (envOf []) f F
def AllM : List (Nat × (List V → Option (List V × List V))) → Prop
 | [] => True
 | p :: l => FunMV p.1 p.2 ∧ AllM l
def lkM : List (Nat × (List V → Option (List V × List V))) → Nat → Option (List V → Option (List V × List V))
 | [], _ => none
 | (k, F) :: l, i => if k = i then some F else lkM l i
noncomputable def envQ (l : List (Nat × (List V → Option V))) (lp : List (Nat × (List V → Option (V × List (List V))))) (lm : List (Nat × (List V → Option (List V × List V)))) (lit any : Nat → Bool) : Env := ⟨Tryz.prog, lkF l, fun _ => .undef, Glob, lit, lkP lp, globK, fun _ => false, any, fun _ _ => none, 0, lkM lm, lit⟩
section
variable (l : List (Nat × (List V → Option V))) (lp : List (Nat × (List V → Option (V × List (List V))))) (lm : List (Nat × (List V → Option (List V × List V)))) (lit any : Nat → Bool) (u : V) (d : Option Nat) (cs : List V) (st : St) (b : Nat → Option (List V)) (k s : Nat) (p : V)
theorem envQ_P : (envQ l lp lm lit any).P = Tryz.prog := rfl
theorem envQ_F : (envQ l lp lm lit any).F = lkF l := rfl
theorem envQ_FP : (envQ l lp lm lit any).FP = lkP lp := rfl
theorem envQ_FM : (envQ l lp lm lit any).FM = lkM lm := rfl
theorem envQ_G : (envQ l lp lm lit any).G = fun _ => .undef := rfl
theorem envQ_MB : (envQ l lp lm lit any).MB = fun _ => false := rfl
theorem envQ_any : (envQ l lp lm lit any).any = any := rfl
theorem envQ_own (d : Nat) : (envQ l lp lm lit any).own (some d) = lit d := rfl
theorem envQ_own0 : (envQ l lp lm lit any).own none = false := rfl
theorem envQ_lit (d : Nat) : (envQ l lp lm lit any).litD (some d) = lit d := rfl
theorem envQ_plain' : (envQ l lp lm lit any).plain = envD l any := rfl
theorem effV_Q : effV (envQ l lp lm lit any) u = none := by unfold effV; split <;> rfl
theorem wipe_Q : wipe (envQ l lp lm lit any) st = st := rfl
theorem stripB_Q : stripB (envQ l lp lm lit any) k b = b := rfl
theorem kept_Q : (envQ l lp lm lit any).kept s u = u.bare := rfl
theorem okS_Q : (envQ l lp lm lit any).okS s u = true := rfl
theorem okN_Q : (envQ l lp lm lit any).okN d cs = true := by cases d <;> rfl
theorem keepL_Q : (envQ l lp lm lit any).keepL p u = u.bare := by cases p <;> rfl
end
theorem envOK_Q (l : List (Nat × (List V → Option V))) (lp : List (Nat × (List V → Option (V × List (List V))))) (lm : List (Nat × (List V → Option (List V × List V)))) (lit any : Nat → Bool) (h : AllV l) (hp : AllP lp) (hq : AllM lm) : EnvOK (envQ l lp lm lit any) := by
 have h0 := envOK_B l (fun _ => false) lp (fun _ => false) any h hp
 refine ⟨h0.fn, h0.fnP, h0.keep, h0.high, h0.noX, fun f F hF => ?_⟩
 have key : ∀ l, AllM l → lkM l f = some F → FunMV f F := by
  intro l
  induction l with
  | nil => intro _ h; cases h
  | cons p l ih =>
    intro h hF
    simp only [lkM] at hF
    split at hF
    · rename_i e; cases hF; exact e ▸ h.1
    · exact ih h.2 hF
 exact key lm hq hF
theorem cells_val {m : Lim} {w : World} : ∀ {vs : List Value} {us : List V} {xs : List Value}, RdL m w vs us → us.mapM V.one = some xs → vs = xs
 | [], [], xs, _, h => by simp at h; exact h.symm
 | v :: vs, u :: us, xs, hr, h => by
   rw [List.mapM_cons] at h
   cases u with
   | x u =>
     simp only [V.one, Option.pure_def, Option.bind_eq_bind, Option.bind_some] at h
     cases hm : us.mapM V.one with
     | none => rw [hm] at h; cases h
     | some r =>
       rw [hm] at h
       cases h
       rw [cells_val hr.2 hm, Rd.x_iff.1 hr.1]
   | _ => simp [V.one] at h
theorem val_eq {m : Lim} {w : World} {v x : Value} {u : V} (h : Rd m w v u) (hu : u.val = some x) : v = x := by
 cases u with
 | x u => cases hu; exact Rd.x_iff.1 h
 | agg cs =>
   obtain ⟨a, rfl, hr⟩ := Rd.agg_iff.1 h
   simp only [V.val, Option.map_eq_some_iff] at hu
   obtain ⟨l, hl, rfl⟩ := hu
   have := cells_val hr hl
   rw [← this]
 | _ => simp [V.val] at hu
theorem vals_eq {m : Lim} {w : World} : ∀ {vs : List Value} {us : List V} {xs : List Value}, RdL m w vs us → us.map V.val = xs.map some → vs = xs
 | [], [], [], _, _ => rfl
 | [], [], _ :: _, _, h => by simp at h
 | v :: vs, u :: us, [], _, h => by simp at h
 | v :: vs, u :: us, x :: xs, hr, h => by
   simp only [List.map_cons, List.cons.injEq] at h
   rw [val_eq hr.1 h.1, vals_eq hr.2 h.2]
theorem args_eq {m : Lim} {w : World} {vs : Array Value} {us : List V} {xs : List Value} (hr : RdL m w vs.toList us) (h : us.map V.val = xs.map some) : vs = xs.toArray := by
 rw [← vals_eq hr h]
abbrev vl (k n : Int) (s : ByteArray) : V := .agg [.x (.int .i64 k), .x (.int .i64 n), .x (.string s)]
end Go.Proofs.YtfngpfnbhafmlaaGreatDoor
namespace Go.Proofs.YtfngpfnbhafmlaaGreatDoor
open Go Go.RowKit
set_option linter.unusedSimpArgs false
theorem noPtrTo_upd {s : Nat} {t : Nat → V} {i : Nat} {v : V} (hv : v.nm ≠ some s) (h : noPtrTo s t) : noPtrTo s (upd t i v) = True := by
 refine eq_true (fun j => ?_)
 rw [upd_at]
 split
 · exact hv
 · exact h j
theorem bq_t (b : Bool) : (b == true) = b := by cases b <;> rfl
theorem bq_f (b : Bool) : (b == false) = !b := by cases b <;> rfl
theorem bq_t' (b : Bool) : (true == b) = b := by cases b <;> rfl
theorem bq_f' (b : Bool) : (false == b) = !b := by cases b <;> rfl
section
variable {s i : Nat} {t : Nat → V}
theorem np_x {v : Value} (h : noPtrTo s t) : noPtrTo s (upd t i (.x v)) := by rw [noPtrTo_upd (by simp) h]; trivial
theorem np_agg {v : List V} (h : noPtrTo s t) : noPtrTo s (upd t i (.agg v)) := by rw [noPtrTo_upd (by simp) h]; trivial
theorem np_tup {v : List V} (h : noPtrTo s t) : noPtrTo s (upd t i (.tup v)) := by rw [noPtrTo_upd (by simp) h]; trivial
theorem np_sl {a : Bool} {z : Nat} {v : List V} {c : Option Nat} (h : noPtrTo s t) : noPtrTo s (upd t i (.sl a z v c)) := by rw [noPtrTo_upd (by simp) h]; trivial
theorem np_ip {v : List V} (h : noPtrTo s t) : noPtrTo s (upd t i (.ip v)) := by rw [noPtrTo_upd (by simp) h]; trivial
theorem np_undef (h : noPtrTo s t) : noPtrTo s (upd t i .undef) := by rw [noPtrTo_upd (by simp) h]; trivial
theorem np_ptr {s' off : Nat} (h : noPtrTo s t) (hne : ¬ s = s') : noPtrTo s (upd t i (.ptr s' off)) := by rw [noPtrTo_upd (by simp [Ne.symm hne]) h]; trivial
theorem np_row {s' z l : Nat} (h : noPtrTo s t) (hne : ¬ s = s') : noPtrTo s (upd t i (.row s' z l)) := by rw [noPtrTo_upd (by simp [Ne.symm hne]) h]; trivial
end
theorem np_strip {s k : Nat} {t : Nat → V} (h : noPtrTo s t) : noPtrTo s (strip k t) := by
 intro i
 rw [strip_nm]
 exact h i
theorem np_kill {s k : Nat} {t : Nat → V} (h : noPtrTo s t) : noPtrTo s (kill k t) := fun i => kill_nm _ _ _ _ (h i)
theorem strip_at (k : Nat) (t : Nat → V) (i : Nat) : strip k t i = stripV k (t i) := by unfold strip; exact Eq.refl _
theorem stripV_x (k : Nat) (v : Value) : stripV k (.x v) = .x v := stripV_eq _ _
theorem stripV_agg (k : Nat) (v : List V) : stripV k (.agg v) = .agg v := stripV_eq _ _
theorem stripV_tup (k : Nat) (v : List V) : stripV k (.tup v) = .tup v := stripV_eq _ _
theorem stripV_ip (k : Nat) (v : List V) : stripV k (.ip v) = .ip v := stripV_eq _ _
theorem stripV_ptr (k s o : Nat) : stripV k (.ptr s o) = .ptr s o := stripV_eq _ _
theorem stripV_row (k s z l : Nat) : stripV k (.row s z l) = .row s z l := stripV_eq _ _
theorem kill_at (k : Nat) (t : Nat → V) (i : Nat) : kill k t i = killV k (t i) := by unfold kill; exact Eq.refl _
theorem killV_x (k : Nat) (v : Value) : killV k (.x v) = .x v := killV_eq _ _
theorem killV_agg (k : Nat) (v : List V) : killV k (.agg v) = .agg v := killV_eq _ _
theorem killV_tup (k : Nat) (v : List V) : killV k (.tup v) = .tup v := killV_eq _ _
theorem killV_ip (k : Nat) (v : List V) : killV k (.ip v) = .ip v := killV_eq _ _
theorem killV_sl (k : Nat) (nl : Bool) (sz : Nat) (es : List V) (t : Option Nat) : killV k (.sl nl sz es t) = .sl nl sz es t := killV_eq _ _
theorem killV_dyn (k : Nat) (t : TypeId) : killV k (.dyn t) = .dyn t := killV_eq _ _
theorem killV_undef (k : Nat) : killV k .undef = .undef := killV_eq _ _
theorem killV_ptr (k s o : Nat) : killV k (.ptr s o) = if s = k then .undef else .ptr s o := killV_eq _ _
theorem killV_row (k s z l : Nat) : killV k (.row s z l) = if s = k then .undef else .row s z l := killV_eq _ _
theorem stripV_dyn (k : Nat) (t : TypeId) : stripV k (.dyn t) = .dyn t := stripV_eq _ _
theorem np_dyn {s i : Nat} {t : Nat → V} {d : TypeId} (h : noPtrTo s t) : noPtrTo s (upd t i (.dyn d)) := by rw [noPtrTo_upd (by simp) h]; trivial
theorem stripV_undef (k : Nat) : stripV k .undef = .undef := stripV_eq _ _
theorem stripV_none (k : Nat) (nl : Bool) (sz : Nat) (es : List V) : stripV k (.sl nl sz es none) = .sl nl sz es none := stripV_eq _ _
theorem stripV_some (k s : Nat) (nl : Bool) (sz : Nat) (es : List V) : stripV k (.sl nl sz es (some s)) = .sl nl sz es (if s = k then none else some s) := stripV_eq _ _
theorem noPtrTo_bot {s : Nat} : noPtrTo s (fun _ => .undef) = True := eq_true (fun _ h => by cases h)
theorem start_0 : start [] = ⟨fun _ => .undef, fun _ => none⟩ := rfl
theorem start_1 (u0 : V) : start [u0] = ⟨upd (fun _ => .undef) 0 u0, fun _ => none⟩ := rfl
theorem start_2 (u0 u1 : V) : start [u0, u1] = ⟨upd (upd (fun _ => .undef) 1 u1) 0 u0, fun _ => none⟩ := rfl
theorem start_3 (u0 u1 u2 : V) : start [u0, u1, u2] = ⟨upd (upd (upd (fun _ => .undef) 2 u2) 1 u1) 0 u0, fun _ => none⟩ := rfl
theorem start_4 (u0 u1 u2 u3 : V) : start [u0, u1, u2, u3] = ⟨upd (upd (upd (upd (fun _ => .undef) 3 u3) 2 u2) 1 u1) 0 u0, fun _ => none⟩ := rfl
theorem start_5 (u0 u1 u2 u3 u4 : V) : start [u0, u1, u2, u3, u4] = ⟨upd (upd (upd (upd (upd (fun _ => .undef) 4 u4) 3 u3) 2 u2) 1 u1) 0 u0, fun _ => none⟩ := rfl
theorem start_6 (u0 u1 u2 u3 u4 u5 : V) : start [u0, u1, u2, u3, u4, u5] = ⟨upd (upd (upd (upd (upd (upd (fun _ => .undef) 5 u5) 4 u4) 3 u3) 2 u2) 1 u1) 0 u0, fun _ => none⟩ := rfl
attribute [go_sem] run_skip run_region run_draw run_seq run_cond run_block run_loop run_label run_exit run_ret seqK_normal seqK_ret seqK_exit blockK_normal blockK_ret blockK_exit condK_true condK_false aopsK_nil aopsK_cons aopsK_guard nextK_some nextK_none guardK_true guardK_false guardV execV valV pureV ev ofVal start_0 start_1 start_2 start_3 start_4 start_5 start_6 St.put upd_at binV intV strV eqB eqF iteV newV loadV storeV partV np V.notPtr V.dat V.cell V.cells fillV buildV freshL isA retK resV resL resOne np_x np_agg np_tup np_sl np_ip np_undef np_ptr noPtrTo_bot lkF envOf_P envOf_F envOf_G boundV
attribute [go_sem] fnOf_func bare_dyn stripV_dyn np_dyn isC bare_x bare_agg bare_tup bare_ip bare_ptr bare_undef bare_sl keepV_move keepV_assign keepV_pick keepV_x keepV_agg keepV_tup keepV_ip keepV_ptr keepV_dyn keepV_undef keepV_sl rowV makeV convV strip_at stripV_x stripV_agg stripV_tup stripV_ip stripV_ptr stripV_undef stripV_none stripV_some np_strip bytesOf
attribute [go_sem] ite_true ite_false true_implies and_true true_and and_self reduceCtorEq false_implies if_true if_false List.getElem?_toArray List.getElem?_cons_succ List.getElem?_cons_zero Option.bind_some Option.map_some List.map_cons List.map_nil List.all_cons List.all_nil Bool.and_self Bool.true_and Bool.and_true Bool.false_eq_true List.length_cons List.length_nil List.take_succ_cons List.take_zero List.drop_succ_cons List.drop_zero List.cons_append List.nil_append List.mapM_cons List.mapM_nil Option.pure_def Option.bind_eq_bind Option.isNone_none ne_eq not_true_eq_false not_false_eq_true or_self or_false false_or gt_iff_lt ge_iff_le Nat.lt_irrefl Nat.not_lt_zero Nat.le_refl beq_self_eq_true Bool.not_true Bool.not_false Bool.true_eq_false cond_true cond_false List.toList_toArray Nat.zero_le decide_true decide_false imp_self implies_true forall_const List.take_nil List.drop_nil and_false false_and Nat.zero_add Nat.add_zero Bool.true_or Bool.or_true Bool.false_or Bool.or_false Bool.and_false Bool.false_and true_or or_true BEq.rfl
attribute [go_sem 500] growV.eq_1
theorem killRs_at (k : List Nat) (t : Nat → V) (i : Nat) : killRs k t i = killRV k (t i) := by unfold killRs; exact Eq.refl _
theorem killRV_x (k : List Nat) (v : Value) : killRV k (.x v) = .x v := killRV_eq _ _
theorem killRV_agg (k : List Nat) (v : List V) : killRV k (.agg v) = .agg v := killRV_eq _ _
theorem killRV_tup (k : List Nat) (v : List V) : killRV k (.tup v) = .tup v := killRV_eq _ _
theorem killRV_ip (k : List Nat) (v : List V) : killRV k (.ip v) = .ip v := killRV_eq _ _
theorem killRV_sl (k : List Nat) (nl : Bool) (sz : Nat) (es : List V) (t : Option Nat) : killRV k (.sl nl sz es t) = .sl nl sz es t := killRV_eq _ _
theorem killRV_dyn (k : List Nat) (t : TypeId) : killRV k (.dyn t) = .dyn t := killRV_eq _ _
theorem killRV_undef (k : List Nat) : killRV k .undef = .undef := killRV_eq _ _
theorem killRV_ptr (k : List Nat) (s o : Nat) : killRV k (.ptr s o) = .ptr s o := killRV_eq _ _
theorem killRV_row (k : List Nat) (s z l : Nat) : killRV k (.row s z l) = if k.contains s = true then .undef else .row s z l := killRV_eq _ _
theorem np_killRs {s : Nat} {k : List Nat} {t : Nat → V} (h : noPtrTo s t) : noPtrTo s (killRs k t) := fun i => by
 rcases killRV_is k (t i) with ⟨e, _⟩ | e
 · show (killRV k (t i)).nm ≠ _
   rw [e]; exact h i
 · show (killRV k (t i)).nm ≠ _
   rw [e]; simp
theorem startP_eq (us : List V) : startP us = ⟨startTP 0 us, startBP 0 us⟩ := rfl
attribute [go_sem] envP_P envP_F envP_FP envP_G envP_own envP_plain' envM_FP envOf_FP lkP callP slotsP putP killRs_at killRV_x killRV_agg killRV_tup killRV_ip killRV_sl killRV_dyn killRV_undef killRV_ptr killRV_row np_killRs startP_eq startTP startBP slotP retKP outsOf outsA outsMp putMs
theorem np_mp {s i s' : Nat} {t : Nat → V} {ks vs : List V} (h : noPtrTo s t) (hne : ¬ s = s') : noPtrTo s (upd t i (.mp s' ks vs)) := by rw [noPtrTo_upd (by simp [Ne.symm hne]) h]; trivial
theorem stripV_mp (k s : Nat) (ks vs : List V) : stripV k (.mp s ks vs) = .mp s ks vs := stripV_eq _ _
theorem killV_mp (k s : Nat) (ks vs : List V) : killV k (.mp s ks vs) = if s = k then .undef else .mp s ks vs := killV_eq _ _
theorem killRV_mp (k : List Nat) (s : Nat) (ks vs : List V) : killRV k (.mp s ks vs) = .mp s ks vs := killRV_eq _ _
theorem mapw_at (s : Nat) (ks vs : List V) (t : Nat → V) (i : Nat) : mapw s ks vs t i = mapwV s ks vs (t i) := by unfold mapw; exact Eq.refl _
section
variable (s : Nat) (ks vs : List V)
theorem mapwV_x (v : Value) : mapwV s ks vs (.x v) = .x v := mapwV_eq _ _ _ _
theorem mapwV_agg (v : List V) : mapwV s ks vs (.agg v) = .agg v := mapwV_eq _ _ _ _
theorem mapwV_tup (v : List V) : mapwV s ks vs (.tup v) = .tup v := mapwV_eq _ _ _ _
theorem mapwV_ip (v : List V) : mapwV s ks vs (.ip v) = .ip v := mapwV_eq _ _ _ _
theorem mapwV_sl (nl : Bool) (sz : Nat) (es : List V) (t : Option Nat) : mapwV s ks vs (.sl nl sz es t) = .sl nl sz es t := mapwV_eq _ _ _ _
theorem mapwV_dyn (t : TypeId) : mapwV s ks vs (.dyn t) = .dyn t := mapwV_eq _ _ _ _
theorem mapwV_undef : mapwV s ks vs .undef = .undef := mapwV_eq _ _ _ _
theorem mapwV_ptr (k o : Nat) : mapwV s ks vs (.ptr k o) = .ptr k o := mapwV_eq _ _ _ _
theorem mapwV_row (k z l : Nat) : mapwV s ks vs (.row k z l) = .row k z l := mapwV_eq _ _ _ _
theorem mapwV_mp (s' : Nat) (ks' vs' : List V) : mapwV s ks vs (.mp s' ks' vs') = if s' = s then .mp s ks vs else .mp s' ks' vs' := mapwV_eq _ _ _ _
end
theorem np_mapw {s k : Nat} {ks vs : List V} {t : Nat → V} (h : noPtrTo s t) : noPtrTo s (mapw k ks vs t) := fun i => by
 show (mapwV k ks vs (t i)).nm ≠ _
 rcases mapwV_is k ks vs (t i) with e | ⟨⟨ks', vs', e1⟩, e⟩
 · rw [e]; exact h i
 · rw [e]
   have := h i
   rw [e1] at this
   exact this
attribute [go_sem] bare_mp keepV_mp np_mp np_mapw stripV_mp killV_mp killRV_mp mapw_at mapwV_x mapwV_agg mapwV_tup mapwV_ip mapwV_sl mapwV_dyn mapwV_undef mapwV_ptr mapwV_row mapwV_mp
def argB : Option (List V) → V
 | some cs => .bx cs
 | none => .undef
section
variable (b : Nat → Option (List V)) (st : St) (E : Env)
theorem argP_ptr (s : Nat) : argP b (.ptr s 0) = argB (b s) := by show (match b s with | some cs => V.bx cs | none => .undef) = _; cases b s <;> rfl
theorem argP_x (v : Value) : argP b (.x v) = .x v := bare_x v
theorem argP_agg (v : List V) : argP b (.agg v) = .agg v := bare_agg v
theorem argP_ip (v : List V) : argP b (.ip v) = .ip v := bare_ip v
theorem argP_dyn (t : TypeId) : argP b (.dyn t) = .dyn t := bare_dyn t
theorem argP_undef : argP b .undef = .undef := bare_undef
theorem argP_mp (s : Nat) (ks vs : List V) : argP b (.mp s ks vs) = .mp 0 ks vs := rfl
theorem datP_mp (s : Nat) (ks vs : List V) : (V.mp s ks vs).datP = true := rfl
theorem argP_sl (nl : Bool) (sz : Nat) (es : List V) (t : Option Nat) : argP b (.sl nl sz es t) = argS nl sz es t := rfl
def rowA (sz : Nat) (es : List V) : V := argS es.isEmpty sz es (some 0)
theorem argS_row (sz : Nat) (es : List V) (k : Nat) : argS es.isEmpty sz es (some k) = rowA sz es := by unfold rowA; cases es <;> rfl
theorem argS_nil (sz : Nat) (es : List V) (t : Option Nat) : argS true sz es t = rowA 1 [] := rfl
theorem argS_none (sz : Nat) (es : List V) : argS false sz es none = .sl false sz es none := rfl
theorem argS_snoc (sz : Nat) (es : List V) (x : V) (k : Nat) : argS false sz (es ++ [x]) (some k) = rowA sz (es ++ [x]) := by unfold rowA; cases es <;> rfl
theorem rowA_nil (sz : Nat) : rowA sz [] = .sl true 0 [] (some 0) := rfl
theorem datP_bx (cs : List V) : (V.bx cs).datP = true := rfl
theorem datP_x (v : Value) : (V.x v).datP = (V.x v).dat := rfl
theorem datP_agg (v : List V) : (V.agg v).datP = true := rfl
theorem datP_tup (v : List V) : (V.tup v).datP = false := rfl
theorem datP_ip (v : List V) : (V.ip v).datP = true := rfl
theorem datP_dyn (t : TypeId) : (V.dyn t).datP = true := rfl
theorem datP_undef : V.undef.datP = false := rfl
theorem datP_sl (nl : Bool) (sz : Nat) (es : List V) : (V.sl nl sz es none).datP = true := rfl
theorem datP_own (nl : Bool) (sz k : Nat) (es : List V) : (V.sl nl sz es (some k)).datP = true := rfl
theorem datP_row (sz : Nat) (es : List V) : (rowA sz es).datP = true := by cases es <;> rfl
theorem outsOf_row (k sz : Nat) (es us : List V) : outsOf k (rowA sz es :: us) b = outsOf (k + 1) us b := outsOf_no (by cases es <;> rfl)
theorem outsMp_row (k sz : Nat) (es us : List V) (t : Nat → V) : outsMp k (rowA sz es :: us) t = outsMp (k + 1) us t := outsMp_no (by cases es <;> rfl)
theorem slotsP_sl (nl : Bool) (sz : Nat) (es : List V) (t : Option Nat) (l : List V) : slotsP (.sl nl sz es t :: l) = slotsP l := rfl
theorem resP_own (d k sz : Nat) (nl : Bool) (es : List V) : resP E st (some d) (.sl nl sz es (some k)) = ⟨upd (strip d st.t) d (.sl nl sz es (some d)), stripB E d st.b⟩ := rfl
theorem resP_no (r : V) : resP E st none r = st := by unfold resP; rfl
theorem resP_x (d : Nat) (v : Value) : resP E st (some d) (.x v) = st.put (some d) (.x v) := by show st.put (some d) (V.x v).bare = _; rw [bare_x]
theorem resP_agg (d : Nat) (v : List V) : resP E st (some d) (.agg v) = st.put (some d) (.agg v) := by show st.put (some d) (V.agg v).bare = _; rw [bare_agg]
theorem resP_tup (d : Nat) (v : List V) : resP E st (some d) (.tup v) = st.put (some d) (.tup v) := by show st.put (some d) (V.tup v).bare = _; rw [bare_tup]
theorem resP_dyn (d : Nat) (t : TypeId) : resP E st (some d) (.dyn t) = st.put (some d) (.dyn t) := by show st.put (some d) (V.dyn t).bare = _; rw [bare_dyn]
theorem resP_ip (d : Nat) (v : List V) : resP E st (some d) (.ip v) = st.put (some d) (.ip v) := by show st.put (some d) (V.ip v).bare = _; rw [bare_ip]
theorem resP_sl0 (d sz : Nat) (nl : Bool) (es : List V) : resP E st (some d) (.sl nl sz es none) = st.put (some d) (.sl nl sz es none) := by show st.put (some d) (V.sl nl sz es none).bare = _; rw [bare_sl]
theorem resT_own (nl : Bool) (sz k : Nat) (es : List V) : resT (.sl nl sz es (some k)) = some (.sl nl sz es (some 0)) := rfl
theorem startBP_row (k sz : Nat) (es us : List V) : startBP k (rowA sz es :: us) = startBP (k + 1) us := startBP_no (by cases es <;> rfl)
end
attribute [go_sem] startT startBP_row outsOf_row outsMp_row argP_mp datP_mp mapsP argB argP_ptr argP_x argP_agg argP_ip argP_dyn argP_undef argP_sl argS_row argS_nil argS_none argS_snoc datP_bx datP_x datP_agg datP_tup datP_ip datP_dyn datP_undef datP_sl datP_own datP_row slotsP_sl marksP stripL stripBL resP_own resP_no resP_x resP_agg resP_tup resP_dyn resP_ip resP_sl0 resT_own resM retKO
attribute [go_sem] effV_B effV_P effV_M effV_O effV_D effX_at effX_at0 envX_P envX_F envX_FP envX_G envX_MB envX_any envX_own envX_X envX_xk wipe_X stripB_X kept_X okS_X okN_X keepL_X
attribute [go_sem] drawnK_at apartF apartL apL nmNe_pp nmNe_ip
attribute [go_sem] envM_P envM_F envM_G envM_own envM_plain envOf_plain envOf_own newR np_row np_kill kill_at killV_x killV_agg killV_tup killV_ip killV_sl killV_dyn killV_undef killV_ptr killV_row stripV_row bare_row keepV_row List.flatMap_cons List.flatMap_nil List.append_nil
attribute [go_sem] drawK_true drawK_false envB_P envB_F envB_FP envB_G envB_MB envB_any envB_own envP_MB envP_any envM_MB envM_any envOf_MB envOf_any envB_plain' envD_P envD_F envD_FP envD_G envD_MB envD_own
attribute [go_sem] wipe_P wipe_M wipe_O stripB_P stripB_M stripB_O stripB_D kept_P kept_M kept_O kept_D okS_P okS_M okS_O okS_D okN_P okN_M okN_O okN_D keepL_P keepL_M keepL_O keepL_D treeK_fin treeK_none treeK_alt oneK_some stripBO okN_B okN_B0 okS_B kept_B keepL_B keepL_B1 stripB_at wipeB_at wipe_B0 V.unm V.isSl pc_x pc_nil pc_sl pc_ip pc_dyn pc_undef
attribute [congr] drawK_congr oneK_congr treeK_congr seqK_congr blockK_congr condK_congr run_congr nextK_congr guardK_congr aopsK_congr
theorem toNat_0 : Int.toNat 0 = 0 := rfl
theorem toNat_1 : Int.toNat 1 = 1 := rfl
theorem toNat_2 : Int.toNat 2 = 2 := rfl
theorem toNat_3 : Int.toNat 3 = 3 := rfl
theorem toNat_4 : Int.toNat 4 = 4 := rfl
attribute [go_sem] toNat_0 toNat_1 toNat_2 toNat_3 toNat_4
theorem hintV_no : hintV none = true := rfl
theorem hintV_int (k : IntKind) (n : Int) : hintV (some (.x (.int k n))) = true := rfl
attribute [go_sem] retKM isMapV hintV_no hintV_int Option.map_none callM lkM envB_FM envP_FM envM_FM envOf_FM envD_FM envX_FM envQ_P envQ_F envQ_FP envQ_FM envQ_G envQ_MB envQ_any envQ_own envQ_own0 envQ_lit envB_lit envP_lit envM_lit litR envQ_plain' effV_Q wipe_Q stripB_Q kept_Q okS_Q okN_Q keepL_Q
abbrev T3 := Int × Int × ByteArray
abbrev tv (r : T3) : V := vl r.1 r.2.1 r.2.2
attribute [go_sem] vl tv bq_t bq_f bq_t' bq_f' Bool.not_eq_true' Bool.not_eq_false' Bool.not_not
end Go.Proofs.YtfngpfnbhafmlaaGreatDoor
namespace Go.Proofs.YtfngpfnbhafmlaaGreatDoor
open Go Go.RowKit
def tOf : List (Nat × V) → Nat → V
 | [] => fun _ => .undef
 | (i, v) :: l => upd (tOf l) i v
def bOf : List (Nat × List V) → Nat → Option (List V)
 | [] => fun _ => none
 | (i, cs) :: l => upd (bOf l) i (some cs)
def stOf (ts : List (Nat × V)) (bs : List (Nat × List V)) : St := ⟨tOf ts, bOf bs⟩
def leT (st : St) : List (Nat × V) → Prop
 | [] => True
 | (i, v) :: l => st.t i = v ∧ leT st l
def leB (st : St) : List (Nat × List V) → Prop
 | [] => True
 | (i, v) :: l => st.b i = some v ∧ leB st l
theorem le_stOf {st : St} {ts : List (Nat × V)} {bs : List (Nat × List V)} (h : leT st ts) (k : leB st bs) : Le (stOf ts bs) st := by
 refine ⟨fun i => ?_, fun s cs hs => ?_⟩
 · show (tOf ts i).le (st.t i)
   induction ts with
   | nil => exact .inl rfl
   | cons p l ih =>
     simp only [tOf, upd_at]
     split
     · rename_i e; subst e; exact .inr (.inl h.1.symm)
     · exact ih h.2
 · have hs : bOf bs s = some cs := hs
   induction bs with
   | nil => cases hs
   | cons p l ih =>
     simp only [bOf, upd_at] at hs
     split at hs
     · rename_i e; cases hs; subst e; exact ⟨_, k.1, leC_refl _⟩
     · exact ih k.2 hs hs
def Again {X : Type} (T : X → List (Nat × V)) (B : X → List (Nat × List V)) (μ : X → Nat) (n : Nat) (st : St) : Prop := ∃ x', leT st (T x') ∧ leB st (B x') ∧ μ x' < n
def loopK {X : Type} (T : X → List (Nat × V)) (B : X → List (Nat × List V)) (μ : X → Nat) (n : Nat) (K : Out → St → Prop) : Out → St → Prop
 | .normal, st => Again T B μ n st
 | .ret, st => K .ret st
 | .exit id, st => K (.exit id) st
section
variable {X : Type} (T : X → List (Nat × V)) (B : X → List (Nat × List V)) (μ : X → Nat) (n : Nat) (K : Out → St → Prop) (st : St)
theorem loopK_normal : loopK T B μ n K .normal st = Again T B μ n st := rfl
theorem loopK_ret : loopK T B μ n K .ret st = K .ret st := rfl
theorem loopK_exit (id : Nat) : loopK T B μ n K (.exit id) st = K (.exit id) st := rfl
theorem again_congr {st' : St} (h : st = st') : Again T B μ n st = Again T B μ n st' := by rw [h]
theorem loopK_congr {o o' : Out} (h : o = o') : loopK T B μ n K o st = loopK T B μ n K o' st := by rw [h]
end
theorem loop_of {E : Env} {a : Code} {st : St} {K : Out → St → Prop} {X : Type} (T : X → List (Nat × V)) (B : X → List (Nat × List V)) (μ : X → Nat) (x0 : X) (h0 : leT st (T x0)) (h0' : leB st (B x0))
 (h : ∀ x, run E a (stOf (T x) (B x)) (loopK T B μ (μ x) K)) : LoopV (run E a) st K := by
 refine ⟨X, fun x => stOf (T x) (B x), μ, x0, le_stOf h0 h0', fun x => ?_⟩
 have := h x
 have e : ∀ o st', loopK T B μ (μ x) K o st' → (match o with
  | .normal => ∃ x', Le (stOf (T x') (B x')) st' ∧ μ x' < μ x
  | o => K o st') := by
  intro o st' hk
  cases o with
  | normal => obtain ⟨x', h1, h2, h3⟩ := hk; exact ⟨x', le_stOf h1 h2, h3⟩
  | ret => exact hk
  | exit id => exact hk
 exact run_mono e this
def selT : List (Nat × Nat × Nat × V) → Nat → List (Nat × V)
 | [], _ => []
 | (need, forb, s, v) :: r, L => if L &&& need = need ∧ L &&& forb = 0 then (s, v) :: selT r L else selT r L
theorem selT_nil (L : Nat) : selT [] L = [] := rfl
theorem selT_cons (need forb s L : Nat) (v : V) (r : List (Nat × Nat × Nat × V)) : selT ((need, forb, s, v) :: r) L = if L &&& need = need ∧ L &&& forb = 0 then (s, v) :: selT r L else selT r L := rfl
def oneT (E : Env) (ops : List Oper) (ts : List (Nat × V)) (bs : List (Nat × List V)) (st : St) : Option Oper → Prop
 | some o => aopsK E ⟨ops⟩ [o] st fun st' => leT st' ts ∧ leB st' bs
 | none => False
def dagT (E : Env) (ops : List Oper) (ents : List (Nat × Nat × Nat × V)) (bs : List (Nat × List V)) : List (Nat × Nat × Nat) → Prop
 | [] => True
 | (L, i, L') :: r => oneT E ops (selT ents L') bs (stOf (selT ents L) bs) ops[i]? ∧ dagT E ops ents bs r
theorem dagT_nil (E : Env) (ops : List Oper) (ents : List (Nat × Nat × Nat × V)) (bs : List (Nat × List V)) : dagT E ops ents bs [] = True := rfl
theorem dagT_cons (E : Env) (ops : List Oper) (ents : List (Nat × Nat × Nat × V)) (bs : List (Nat × List V)) (L i L' : Nat) (r : List (Nat × Nat × Nat)) : dagT E ops ents bs ((L, i, L') :: r) = (oneT E ops (selT ents L') bs (stOf (selT ents L) bs) ops[i]? ∧ dagT E ops ents bs r) := rfl
theorem oneT_some (E : Env) (ops : List Oper) (ts : List (Nat × V)) (bs : List (Nat × List V)) (st : St) (o : Oper) : oneT E ops ts bs st (some o) = aopsK E ⟨ops⟩ [o] st fun st' => leT st' ts ∧ leB st' bs := rfl
theorem any_dag {E : Env} {ops : List Oper} {st : St} {K : St → Prop} (ents : List (Nat × Nat × Nat × V)) (bs : List (Nat × List V)) (ps : List (Nat × Nat × Nat)) (h : dagOK ops ps = true) (h0 : leT st (selT ents 0) ∧ leB st bs) (ht : dagT E ops ents bs ps)
 (hk : K (stOf (selT ents (2 ^ ops.length - 1)) bs)) : AnyV E ops st K := by
 refine .inr ⟨fun L => stOf (selT ents L) bs, ps, h, le_stOf h0.1 h0.2, ?_, hk⟩
 clear h
 induction ps with
 | nil => trivial
 | cons p r ih =>
   obtain ⟨L, i, L'⟩ := p
   rw [dagT_cons] at ht
   refine ⟨?_, ih ht.2⟩
   have h1 := ht.1
   cases ho : ops[i]? with
   | none => rw [ho] at h1; exact h1.elim
   | some o =>
     rw [ho, oneT_some] at h1
     obtain ⟨st', hs, hl, hb⟩ := aopsK_out _ _ h1
     exact ⟨st', hs, le_stOf hl hb⟩
theorem loop_nil {E : Env} {a : Code} {st : St} {K : Out → St → Prop} (i n tok : Nat) {n0 : Nat} {k0 : Option Nat} (h : st.t i = .sl true n0 [] k0)
 (hr : LoopV (run E a) ⟨upd st.t i (.sl true n [] (some tok)), st.b⟩ K) : LoopV (run E a) st K := by
 obtain ⟨X, I, μ, x0, h0, hx⟩ := hr
 refine ⟨X, I, μ, x0, ⟨fun j => ?_, h0.b⟩, hx⟩
 have := h0.t j
 simp only [upd_at] at this
 split at this
 · rename_i e
   subst e
   rw [h]
   rcases this with e | e | ⟨n1, k1, n2, k2, e, _⟩
   · exact .inl e
   · exact .inr (.inr ⟨_, _, _, _, e, rfl⟩)
   · exact .inr (.inr ⟨_, _, _, _, e, rfl⟩)
 · exact this
theorem growV_app {E : Env} {el n by' : Nat} {z : List V} (h1 : szB E.P el = some n) (hby : byB E.P el = some by') (hz : zeroB E.P el = some z) (h4 : n ≠ 0) (h5 : z.length = n)
 {es es' : List V} (hc : (es'.all fun u => u.cells.all V.cell) = true) (hb : (es.length + es'.length) * by' ≤ 140737488355328) (hl : es.length + es'.length ≤ 9223372036854775807) (st : St) (d tok : Nat) (nl : Bool) (t' : Option Nat) :
 growV E st (some d) el (.sl es.isEmpty n es (some tok)) (.sl nl n es' t') = some ⟨upd (strip tok (strip d st.t)) d (.sl (es ++ es').isEmpty n (es ++ es') (some d)), stripB E tok (stripB E d st.b)⟩ := by
 unfold growV
 simp only [h1, hby, hz]
 cases es with
 | nil =>
   simp only [List.isEmpty_nil, List.nil_append]
   rw [if_pos ⟨h4, h5, .inl trivial, hc, by simpa using hb, by simpa using hl⟩]
   rfl
 | cons e es =>
   simp only [List.isEmpty_cons]
   rw [if_pos ⟨h4, h5, trivial, .inl trivial, hc, hb, hl⟩]
   rfl
theorem growV_acc {E : Env} {el n by' : Nat} {z : List V} (h1 : szB E.P el = some n) (hby : byB E.P el = some by') (hz : zeroB E.P el = some z) (h4 : n ≠ 0) (h5 : z.length = n)
 {es : List V} {v : V} (hc : v.cells.all V.cell = true) (hb : (es.length + 1) * by' ≤ 140737488355328) (hl : es.length + 1 ≤ 9223372036854775807) (st : St) (d tok : Nat) (nl : Bool) (t' : Option Nat) :
 growV E st (some d) el (.sl es.isEmpty n es (some tok)) (.sl nl n [v] t') = some ⟨upd (strip tok (strip d st.t)) d (.sl false n (es ++ [v]) (some d)), stripB E tok (stripB E d st.b)⟩ := by
 unfold growV
 simp only [h1, hby, hz]
 cases es with
 | nil =>
   simp only [List.isEmpty_nil, List.nil_append]
   rw [if_pos ⟨h4, h5, .inl trivial, by simp only [List.all_cons, hc, List.all_nil, Bool.and_true], by simpa using hb, by simp⟩]
   rfl
 | cons e es =>
   simp only [List.isEmpty_cons]
   rw [if_pos ⟨h4, h5, trivial, .inl trivial, by simp only [List.all_cons, hc, List.all_nil, Bool.and_true], hb, hl⟩]
theorem snoc_empty {α : Type} (l : List α) (x : α) : (l ++ [x]).isEmpty = false := by cases l <;> rfl
attribute [go_sem] stripO_none stripO_some snoc_empty
attribute [go_sem] selT_nil selT_cons oneT_some dagT_nil dagT_cons
attribute [go_sem] tOf bOf stOf leT leB Int.le_refl Int.lt_irrefl loopK_normal loopK_ret loopK_exit run_loop
attribute [congr] loopK_congr again_congr
theorem wrapk (x : Int) : bWrap .i64 x = wrap64 x := (bWrap_eq _ _).trans (IntWalk.i64_left x)
theorem bwrap_of {x : Int} (h : inR x) : bWrap .i64 x = x := (wrapk x).trans (wrap64_of h)
theorem count_up {i : Nat} (h : i < 9223372036854775807) : bWrap .i64 ((i : Int) + 1) = ((i + 1 : Nat) : Int) := by
 rw [bwrap_of (by unfold inR; omega)]; omega
theorem toNat_cast (a : Nat) : ((a : Int)).toNat = a := rfl
end Go.Proofs.YtfngpfnbhafmlaaGreatDoor
namespace Go.Proofs.YtfngpfnbhafmlaaGreatDoor
open Go Go.RowKit
set_option linter.unusedSimpArgs false
def smallI (b : Int) : Bool := decide (97 ≤ b) && decide (b ≤ 122)
def greatI (b : Int) : Bool := decide (65 ≤ b) && decide (b ≤ 90)
def digitI (b : Int) : Bool := decide (48 ≤ b) && decide (b ≤ 57)
def FSmall : List V → Option V
 | [.x (.int .u8 b)] => some (.x (.bool (smallI b)))
 | _ => none
def FDigit : List V → Option V
 | [.x (.int .u8 b)] => some (.x (.bool (digitI b)))
 | _ => none
def B (l : List UInt8) : ByteArray := ⟨⟨l⟩⟩
theorem B_data (s : ByteArray) : B s.data.toList = s := rfl
theorem subV_B (l : List UInt8) (a b : Nat) : subV (B l) (a : Int) (b : Int) = B ((l.take b).drop a) := by
 unfold subV
 apply ByteArray.ext
 apply Array.toList_inj.1
 simp [B, List.extract_eq_take_drop]
 rw [List.drop_take]
end Go.Proofs.YtfngpfnbhafmlaaGreatDoor
namespace Go.Proofs.YtfngpfnbhafmlaaGreatDoor
open Go Go.RowKit
open Classical in
noncomputable def FE {α ρ : Type} (enc : α → List V) (G : α → Option ρ) : List V → Option ρ := fun us => if h : ∃ a, enc a = us then G (Classical.choose h) else none
theorem FE_at {α ρ : Type} {enc : α → List V} (inj : ∀ a b, enc a = enc b → a = b) (G : α → Option ρ) (a : α) : FE enc G (enc a) = G a := by
 unfold FE
 have h : ∃ b, enc b = enc a := ⟨a, rfl⟩
 rw [dif_pos h, inj _ _ (Classical.choose_spec h)]
theorem FE_out {α ρ : Type} {enc : α → List V} {G : α → Option ρ} {us : List V} {r : ρ} (h : FE enc G us = some r) : ∃ a, us = enc a ∧ G a = some r := by
 unfold FE at h
 split at h
 · rename_i hx
   exact ⟨_, (Classical.choose_spec hx).symm, h⟩
 · cases h
theorem ite_some {ρ : Type} {p : Prop} [Decidable p] {o : Option ρ} {r : ρ} (h : (if p then o else none) = some r) : p ∧ o = some r := by
 by_cases hp : p
 · rw [if_pos hp] at h; exact ⟨hp, h⟩
 · rw [if_neg hp] at h; cases h
theorem fun_rec {α : Type} {f : FuncId} {enc : α → List V} {G : α → Option V} (μ : α → Nat) (hcall : ∀ args w, (callFunc f args).run (envOf []).P w = .ok (.enter f args) w)
 (h : ∀ n, FunV f (FE enc fun a => if μ a < n then G a else none) → FunV f (FE enc fun a => if μ a < n + 1 then G a else none)) : FunV f (FE enc G) := by
 have key : ∀ n, FunV f (FE enc fun a => if μ a < n then G a else none) := by
  intro n
  induction n with
  | zero =>
    refine ⟨hcall, fun m w vs us r hF => ?_⟩
    obtain ⟨a, _, ha⟩ := FE_out hF
    rw [if_neg (Nat.not_lt_zero _)] at ha
    cases ha
  | succ n ih => exact h n ih
 refine ⟨hcall, fun m w vs us r hF => ?_⟩
 have hx : ∃ a, enc a = us := by obtain ⟨a, ha, _⟩ := FE_out hF; exact ⟨a, ha.symm⟩
 refine (key (μ (Classical.choose hx) + 1)).2 m w vs us r ?_
 unfold FE at hF ⊢
 rw [dif_pos hx] at hF ⊢
 show (if μ (Classical.choose hx) < μ (Classical.choose hx) + 1 then G (Classical.choose hx) else none) = some r
 rw [if_pos (Nat.lt_succ_self _)]
 exact hF
end Go.Proofs.YtfngpfnbhafmlaaGreatDoor
