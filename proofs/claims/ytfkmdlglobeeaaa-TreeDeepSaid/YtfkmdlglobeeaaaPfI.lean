/- Whole functions: a run over plain data gives the function's contract. No program is named here. -/
import Derived.Test.YtfkmdlglobeeaaaPfR
namespace Go.Proofs.Ytfkmdlglobeeaaa
open Go Go.RowKit

noncomputable def resOne (E : Env) (st : St) : ResultVar → Option V
  | .tmp t => if (st.t t).notPtr = true then some (st.t t).bare else none
  | .cell a t => loadV E st.b t (st.t a)
noncomputable def resL (E : Env) (st : St) : List ResultVar → Option (List V)
  | [] => some []
  | r :: rs => match resOne E st r, resL E st rs with
    | some u, some us => some (u :: us)
    | _, _ => none
noncomputable def resV (E : Env) (st : St) (rs : List ResultVar) : Option V :=
  match resL E st rs with
  | some [u] => some u
  | some us => some (.tup us)
  | none => none

def retK (E : Env) (rs : List ResultVar) (r : V) : Out → St → Prop
  | .exit _, _ => False
  | _, st => resV E st rs = some r

def startT : Nat → List V → (Nat → V)
  | _, [] => fun _ => .undef
  | k, u :: us => upd (startT (k + 1) us) k u
def start (us : List V) : St := ⟨startT 0 us, fun _ => none⟩

section
variable {E : Env} {n : Nat} {m0 m : Lim} {w0 w : World} {β : Nat → Nat} {st : St} {a : Act}

theorem startT_lt : ∀ (us : List V) (k i : Nat), i < k → startT k us i = .undef
  | [], _, _, _ => rfl
  | u :: us, k, i, h => by
    simp only [startT]
    rw [upd_ne _ _ (by omega)]
    exact startT_lt us (k + 1) i (by omega)
theorem startT_at : ∀ (us : List V) (k i : Nat), startT k us (k + i) = (us[i]?).getD .undef
  | [], _, _ => by simp [startT]
  | u :: us, k, 0 => by simp [startT, upd_same]
  | u :: us, k, i + 1 => by
    simp only [startT]
    rw [upd_ne _ _ (by omega)]
    have := startT_at us (k + 1) i
    rw [show k + (i + 1) = k + 1 + i from by omega, this]
    simp

theorem resOne_sound (h : Rel E n m0 w0 m β st a w) {r : ResultVar} {u : V} (hr : resOne E st r = some u) :
    ∃ v, (match r with | .tmp t => pure (a.tmps.getD t Go.undef) | .cell x t => do loadVar t (← asAddr (a.tmps.getD x Go.undef)) : Sem Value).run E.P w = .ok v w ∧ Rd m w v u := by
  cases r with
  | tmp t =>
    simp only [resOne] at hr
    split at hr
    · rename_i hn
      cases hr
      exact ⟨_, rfl, ((h.tmps t).rd (by generalize st.t t = u at hn; cases u <;> first | rfl | (simp [V.notPtr] at hn))).bare⟩
    · simp at hr
  | cell x t =>
    simp only [resOne] at hr
    obtain ⟨v, hrun, hv⟩ := loadV_sound h (h.tmps x) hr
    refine ⟨v, ?_, hv⟩
    show (do loadVar t (← asAddr (a.tmps.getD x Go.undef)) : Sem Value).run E.P w = .ok v w
    generalize a.tmps.getD x Go.undef = p at hrun
    cases p with
    | pointer q => cases q with
      | none => simp [Instr.loadAt, Instr.sureAddr] at hrun
      | some q => simpa [Instr.loadAt, Instr.sureAddr, asAddr] using hrun
    | _ => simp [Instr.loadAt, Instr.sureAddr] at hrun

theorem resL_sound (h : Rel E n m0 w0 m β st a w) : ∀ (rs : List ResultVar) (us : List V), resL E st rs = some us →
    ∃ vs, (rs.mapM fun | .tmp t => pure (a.tmps.getD t Go.undef) | .cell x t => do loadVar t (← asAddr (a.tmps.getD x Go.undef)) : Sem (List Value)).run E.P w = .ok vs w ∧ RdL m w vs us
  | [], us, hr => by simp [resL] at hr; subst hr; exact ⟨[], by simp, trivial⟩
  | r :: rs, us, hr => by
    unfold resL at hr
    split at hr
    · rename_i u us' h1 h2
      cases hr
      obtain ⟨v, hv, hd⟩ := resOne_sound h h1
      obtain ⟨vs, hvs, hds⟩ := resL_sound h rs us' h2
      refine ⟨v :: vs, ?_, hd, hds⟩
      rw [List.mapM_cons, Sem.run_bind, hv]
      simp only [Result.andThen_ok]
      rw [Sem.run_bind, hvs]
      rfl
    · simp at hr

theorem resV_sound (h : Rel E n m0 w0 m β st a w) {fn : Func} {u : V} (hr : resV E st fn.results.toList = some u) : ∃ v, (results fn a.tmps).run E.P w = .ok v w ∧ Rd m w v u := by
  unfold resV at hr
  have key : ∀ us, resL E st fn.results.toList = some us → ∃ vs, (results fn a.tmps).run E.P w = .ok (if h : vs.toArray.size = 1 then vs.toArray[0] else .tuple vs.toArray) w ∧ RdL m w vs us := by
    intro us hus
    obtain ⟨vs, hvs, hd⟩ := resL_sound h _ _ hus
    refine ⟨vs, ?_, hd⟩
    unfold results
    rw [Array.mapM_eq_mapM_toList, Sem.run_bind, Sem.run_map]
    exact Eq.trans (congrArg (fun r : Result (List Value) => (r.andThen fun a w' => Result.ok a.toArray w').andThen fun a w' => (pure (if h : a.size = 1 then a[0] else Value.tuple a) : Sem Value).run E.P w') hvs) rfl
  split at hr
  · rename_i u' hu
    cases hr
    obtain ⟨vs, hrun, hd⟩ := key _ hu
    match vs, hd with
    | [v], hd => exact ⟨v, by rw [hrun]; rfl, hd.1⟩
    | _ :: _ :: _, hd => exact hd.2.elim
  · rename_i us hne hu
    cases hr
    obtain ⟨vs, hrun, hd⟩ := key _ hu
    refine ⟨.tuple vs.toArray, ?_, Rd.tup_iff.2 ⟨_, rfl, by simpa using hd⟩⟩
    rw [hrun, dif_neg]
    intro h1
    have := hd.length
    simp at h1
    obtain ⟨u, rfl⟩ := List.length_eq_one_iff.1 (show us.length = 1 by omega)
    exact hne u rfl
  · simp at hr

/-- A contract out of a run. -/
theorem fun_of_run (hE : EnvOK E) (hm : E.P.follows .mixedOrders = true) {f : FuncId} {fn : Func} {c : Code} {F : List V → Option V} {k : Nat} (hf : E.P.funcs[f]? = some fn) (hb : fn.body = some c)
    (hcall : ∀ args w, (callFunc f args).run E.P w = .ok (.enter f args) w) (hn : fn.ntmps = n) (hok : okCode n c = true) (hk : k ≤ n)
    (hrun : ∀ us r, F us = some r → us.all V.dat = true → us.length = k ∧ run E c (start us) (retK E fn.results.toList r)) : Fun E f F := by
  refine ⟨hcall, fun m w vs us r hF hdat hr hj hg => ?_⟩
  obtain ⟨hl, hrun⟩ := hrun us r hF hdat
  have hlen := hr.length
  simp only [Array.length_toList] at hlen
  have hnot : ∀ i sz es s, (start us).t i = .sl false sz es (some s) → False := by
    intro i sz es s hi
    have hs : (start us).t i = (us[i]?).getD .undef := by
      have := startT_at us 0 i
      simpa [start] using this
    rw [hs] at hi
    cases hu : us[i]? with
    | none => rw [hu] at hi; cases hi
    | some u =>
      rw [hu] at hi
      simp only [Option.getD_some] at hi
      have := List.all_eq_true.1 hdat u (List.mem_of_getElem? hu)
      rw [hi] at this
      simp [V.dat] at this
  have hrel : Rel E n m w m id (start us) { tmps := vs ++ Array.replicate (fn.ntmps - vs.size) Go.undef, defers := [] } w := by
    refine ⟨fun i => ?_, by simp; omega, fun s cs hs => by simp [start] at hs, fun s s' cs cs' hs => by simp [start] at hs, Below.refl _ _, fun _ _ => rfl, ⟨id, fun i sz es s hi => (hnot i sz es s hi).elim, fun i sz es s i' sz' es' s' hi => (hnot i sz es s hi).elim, fun i sz es s k cs hi => (hnot i sz es s hi).elim⟩, fun i s sz len cs hi hs => by simp [start] at hs, rfl, hg, hj⟩
    have hs : (start us).t i = (us[i]?).getD .undef := by
      have := startT_at us 0 i
      simpa [start] using this
    rw [hs]
    rcases Nat.lt_or_ge i us.length with h' | h'
    · have hu : us[i]? = some us[i] := List.getElem?_eq_getElem h'
      have hv : vs.toList[i]? = some (vs[i]'(by omega)) := by simp
      rw [hu]
      have h1 : (vs ++ Array.replicate (fn.ntmps - vs.size) Go.undef).getD i Go.undef = vs[i]'(by omega) := by
        rw [Array.getD_eq_getD_getElem?, Array.getElem?_append_left (by omega), Array.getElem?_eq_getElem (by omega)]; rfl
      simp only [h1, Option.getD_some]
      exact .of (hr.get i _ _ hv hu)
    · rw [List.getElem?_eq_none h']
      exact .of (.undef _)
  refine calls_of_wp hf hb (wp_mono (run_sound hE hm c _ _ _ _ _ _ hok hrel hrun) ?_)
  intro e a' w' hp
  have done : ∀ st' m' β', resV E st' fn.results.toList = some r → Rel E n m w m' β' st' a' w' → a'.defers = [] ∧ ∃ v, (results fn a'.tmps).run E.P w' = .ok v w' ∧ ∃ v' m', Ending.returned v = .returned v' ∧ Rd m' w' v' r ∧ Below w.heap.size w w' ∧ ∀ blk, blk < w.heap.size → m' blk = m blk := by
    intro st' m' β' h1 h2
    obtain ⟨v, hv, hd⟩ := resV_sound h2 h1
    exact ⟨h2.defers, v, hv, v, m', rfl, hd, h2.below, h2.mold⟩
  cases e with
  | normal => obtain ⟨st', m', β', h1, h2⟩ := hp; exact done st' m' β' h1 h2
  | ret => obtain ⟨st', m', β', h1, h2⟩ := hp; exact done st' m' β' h1 h2
  | exit id => obtain ⟨st', m', β', h1, h2⟩ := hp; exact h1.elim
  | goto l => exact hp.elim
  | panic ch => exact hp.elim
  | outgrown => exact hp.elim
end
end Go.Proofs.Ytfkmdlglobeeaaa
