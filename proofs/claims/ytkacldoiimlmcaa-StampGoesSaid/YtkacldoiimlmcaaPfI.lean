/- Whole functions: a run over plain data gives the function's contract. No program is named here. -/
import Derived.Test.YtkacldoiimlmcaaPfR
namespace Go.Proofs.Ytkacldoiimlmcaa
open Go Go.RowKit

theorem aopsK_mono {E : Env} {ops : Array Oper} {K K' : St → Prop} (h : ∀ st, K st → K' st) : ∀ (l : List Oper) (st : St), aopsK E ops l st K → aopsK E ops l st K'
  | [], st, hk => h st hk
  | o :: l, st, hk => by
    unfold aopsK at hk ⊢
    split at hk
    · rename_i b hb
      refine ⟨fun e => ?_, fun e => aopsK_mono h l _ (hk.2 e)⟩
      have := hk.1 e
      split at this
      · exact aopsK_mono h l _ this
      · exact this
    · exact hk
theorem run_mono {E : Env} {c : Code} {st : St} {K K' : Out → St → Prop} (h : ∀ o st, K o st → K' o st) (hr : run E c st K) : run E c st K' := by
  induction c generalizing st K K' with
  | skip => exact h _ _ hr
  | region id ops d =>
    cases d with
    | false => exact aopsK_mono (h .normal) _ _ hr
    | true =>
      unfold run at hr ⊢
      cases ha : E.any id with
      | true =>
        rw [ha] at hr
        rcases hr with ⟨J, tr, h1, h2, h3⟩ | ⟨J, ps, h1, h2, h3, h4⟩
        · exact .inl ⟨J, tr, h1, h2, h _ _ h3⟩
        · exact .inr ⟨J, ps, h1, h2, h3, h _ _ h4⟩
      | false =>
        rw [ha] at hr
        exact ⟨hr.1, aopsK_mono (fun _ hk => ⟨hk.1, h _ _ hk.2⟩) _ _ hr.2⟩
  | seq a b iha ihb =>
    refine iha (fun o st' hk => ?_) hr
    cases o with
    | normal => exact ihb h hk
    | ret => exact h _ _ hk
    | exit id => exact h _ _ hk
  | cond c a b iha ihb =>
    unfold run at hr ⊢
    split at hr
    · exact ⟨fun e => iha h (hr.1 e), fun e => ihb h (hr.2 e)⟩
    · exact hr.elim
  | block id a ih =>
    refine ih (fun o st' hk => ?_) hr
    cases o with
    | normal => exact h _ _ hk
    | ret => exact h _ _ hk
    | exit id' =>
      by_cases e : id' = id
      · simp only [e, if_true] at hk ⊢; exact h _ _ hk
      · simp only [e, if_false] at hk ⊢; exact h _ _ hk
  | loop a ih =>
    obtain ⟨X, I, μ, x0, h0, hx⟩ := hr
    refine ⟨X, I, μ, x0, h0, fun x => ih (fun o st' hk => ?_) (hx x)⟩
    cases o with
    | normal => exact hk
    | ret => exact h _ _ hk
    | exit id => exact h _ _ hk
  | label l => exact h _ _ hr
  | exit id => exact h _ _ hr
  | ret => exact h _ _ hr
  | _ => simp [run] at hr

noncomputable def resOne (E : Env) (st : St) : ResultVar → Option V
  | .tmp t => if (st.t t).notPtr = true then some (st.t t).bare else none
  | .cell a t => (loadV E st.b t (st.t a)).map V.bare
noncomputable def resL (E : Env) (st : St) : List ResultVar → Option (List V)
  | [] => some []
  | r :: rs => match resOne E st r, resL E st rs with
    | some u, some us => some (u :: us)
    | _, _ => none
noncomputable def resV (E : Env) (st : St) (rs : List ResultVar) : Option V :=
  match resL E st rs with
  | some [u] => some u
  | some us => some (.tup us)
  | none => none

def retK (E : Env) (rs : List ResultVar) (r : V) : Out → St → Prop
  | .exit _, _ => False
  | _, st => resV E st rs = some r

/-- The variables that were handed in, at the end. -/
def outsOf : Nat → List V → (Nat → Option (List V)) → Option (List (List V))
  | _, [], _ => some []
  | k, .bx _ :: us, b => match b (1000 + k), outsOf (k + 1) us b with
    | some c, some l => some (c :: l)
    | _, _ => none
  | k, _ :: us, b => outsOf (k + 1) us b
/-- The maps that were handed in, at the end. -/
def outsMp : Nat → List V → (Nat → V) → Option (List (List V))
  | _, [], _ => some []
  | k, .mp _ _ _ :: us, t => match t k, outsMp (k + 1) us t with
    | .mp s ks vs, some l => if s = 1000 + k then some ([.mp 0 ks vs] :: l) else none
    | _, _ => none
  | k, _ :: us, t => outsMp (k + 1) us t
def outsA (us : List V) (st : St) : Option (List (List V)) :=
  match outsOf 0 us st.b, outsMp 0 us st.t with
  | some a, some b => some (a ++ b)
  | _, _ => none
def retKP (E : Env) (rs : List ResultVar) (us : List V) (r : V) (outs : List (List V)) : Out → St → Prop
  | .exit _, _ => False
  | _, st => resV E st rs = some r ∧ outsA us st = some outs
def slotP (k : Nat) : V → V
  | .bx _ => .ptr (1000 + k) 0
  | .sl nl sz es (some _) => .sl nl sz es (some (1000 + k))
  | .mp _ ks vs => .mp (1000 + k) ks vs
  | u => u
/-- What is handed back: a row that is the call's own goes with its mark. -/
noncomputable def resT : V → Option V
  | .sl nl sz es (some _) => some (.sl nl sz es (some 0))
  | u => if u.notPtr = true then some u.bare else none
noncomputable def resM (E : Env) (st : St) : List ResultVar → Option V
  | [.tmp t] => resT (st.t t)
  | rs => resV E st rs
def retKO (E : Env) (rs : List ResultVar) (us : List V) (r : V) (outs : List (List V)) : Out → St → Prop
  | .exit _, _ => False
  | _, st => resM E st rs = some r ∧ outsA us st = some outs
def startTP : Nat → List V → (Nat → V)
  | _, [] => fun _ => .undef
  | k, u :: us => upd (startTP (k + 1) us) k (slotP k u)
def startBP : Nat → List V → (Nat → Option (List V))
  | _, [] => fun _ => none
  | k, .bx cs :: us => upd (startBP (k + 1) us) (1000 + k) (some cs)
  | k, _ :: us => startBP (k + 1) us
def startP (us : List V) : St := ⟨startTP 0 us, startBP 0 us⟩

def startT : Nat → List V → (Nat → V)
  | _, [] => fun _ => .undef
  | k, u :: us => upd (startT (k + 1) us) k u
def start (us : List V) : St := ⟨startT 0 us, fun _ => none⟩

section
variable {E : Env} {n : Nat} {pm : Pm} {m0 m : Lim} {w0 w : World} {β : Nat → Nat} {st : St} {a : Act}

theorem startT_lt : ∀ (us : List V) (k i : Nat), i < k → startT k us i = .undef
  | [], _, _, _ => rfl
  | u :: us, k, i, h => by
    simp only [startT]
    rw [upd_ne _ _ (by omega)]
    exact startT_lt us (k + 1) i (by omega)
theorem startT_at : ∀ (us : List V) (k i : Nat), startT k us (k + i) = (us[i]?).getD .undef
  | [], _, _ => by simp [startT]
  | u :: us, k, 0 => by simp [startT, upd_same]
  | u :: us, k, i + 1 => by
    simp only [startT]
    rw [upd_ne _ _ (by omega)]
    have := startT_at us (k + 1) i
    rw [show k + (i + 1) = k + 1 + i from by omega, this]
    simp

theorem resOne_sound (h : Rel E n pm m0 w0 m β st a w) {r : ResultVar} {u : V} (hr : resOne E st r = some u) :
    ∃ v, (match r with | .tmp t => pure (a.tmps.getD t Go.undef) | .cell x t => do loadVar t (← asAddr (a.tmps.getD x Go.undef)) : Sem Value).run E.P w = .ok v w ∧ Rd m w v u := by
  cases r with
  | tmp t =>
    simp only [resOne] at hr
    split at hr
    · rename_i hn
      cases hr
      exact ⟨_, rfl, ((h.tmps t).rd (by generalize st.t t = u at hn; cases u <;> first | rfl | (simp [V.notPtr] at hn))).bare⟩
    · simp at hr
  | cell x t =>
    simp only [resOne, Option.map_eq_some_iff] at hr
    obtain ⟨u0, hr, rfl⟩ := hr
    obtain ⟨v, hrun, hv⟩ := loadV_sound h (h.tmps x) hr
    refine ⟨v, ?_, hv.bare⟩
    show (do loadVar t (← asAddr (a.tmps.getD x Go.undef)) : Sem Value).run E.P w = .ok v w
    generalize a.tmps.getD x Go.undef = p at hrun
    cases p with
    | pointer q => cases q with
      | none => simp [Instr.loadAt, Instr.sureAddr] at hrun
      | some q => simpa [Instr.loadAt, Instr.sureAddr, asAddr] using hrun
    | _ => simp [Instr.loadAt, Instr.sureAddr] at hrun

theorem resL_sound (h : Rel E n pm m0 w0 m β st a w) : ∀ (rs : List ResultVar) (us : List V), resL E st rs = some us →
    ∃ vs, (rs.mapM fun | .tmp t => pure (a.tmps.getD t Go.undef) | .cell x t => do loadVar t (← asAddr (a.tmps.getD x Go.undef)) : Sem (List Value)).run E.P w = .ok vs w ∧ RdL m w vs us
  | [], us, hr => by simp [resL] at hr; subst hr; exact ⟨[], by simp, trivial⟩
  | r :: rs, us, hr => by
    unfold resL at hr
    split at hr
    · rename_i u us' h1 h2
      cases hr
      obtain ⟨v, hv, hd⟩ := resOne_sound h h1
      obtain ⟨vs, hvs, hds⟩ := resL_sound h rs us' h2
      refine ⟨v :: vs, ?_, hd, hds⟩
      rw [List.mapM_cons, Sem.run_bind, hv]
      simp only [Result.andThen_ok]
      rw [Sem.run_bind, hvs]
      rfl
    · simp at hr

theorem resV_sound (h : Rel E n pm m0 w0 m β st a w) {fn : Func} {u : V} (hr : resV E st fn.results.toList = some u) : ∃ v, (results fn a.tmps).run E.P w = .ok v w ∧ Rd m w v u := by
  unfold resV at hr
  have key : ∀ us, resL E st fn.results.toList = some us → ∃ vs, (results fn a.tmps).run E.P w = .ok (if h : vs.toArray.size = 1 then vs.toArray[0] else .tuple vs.toArray) w ∧ RdL m w vs us := by
    intro us hus
    obtain ⟨vs, hvs, hd⟩ := resL_sound h _ _ hus
    refine ⟨vs, ?_, hd⟩
    unfold results
    rw [Array.mapM_eq_mapM_toList, Sem.run_bind, Sem.run_map]
    exact Eq.trans (congrArg (fun r : Result (List Value) => (r.andThen fun a w' => Result.ok a.toArray w').andThen fun a w' => (pure (if h : a.size = 1 then a[0] else Value.tuple a) : Sem Value).run E.P w') hvs) rfl
  split at hr
  · rename_i u' hu
    cases hr
    obtain ⟨vs, hrun, hd⟩ := key _ hu
    match vs, hd with
    | [v], hd => exact ⟨v, by rw [hrun]; rfl, hd.1⟩
    | _ :: _ :: _, hd => exact hd.2.elim
  · rename_i us hne hu
    cases hr
    obtain ⟨vs, hrun, hd⟩ := key _ hu
    refine ⟨.tuple vs.toArray, ?_, Rd.tup_iff.2 ⟨_, rfl, by simpa using hd⟩⟩
    rw [hrun, dif_neg]
    intro h1
    have := hd.length
    simp at h1
    obtain ⟨u, rfl⟩ := List.length_eq_one_iff.1 (show us.length = 1 by omega)
    exact hne u rfl
  · simp at hr

/-- The beginning of a call that is handed plain data. -/
theorem rel_begin {fn : Func} {vs : Array Value} {us : List V} {k : Nat} (hn : fn.ntmps = n) (hk : k ≤ n) (hn1 : n ≤ 1000) (hl : us.length = k) (hdat : us.all V.dat = true) (hr : RdL m w vs.toList us) (hj : E.J w) (hg : ∀ g, Rd m w (.pointer (some ⟨g, 0, none⟩)) (E.G g)) :
    Rel E n ⟨[], id, [], []⟩ m w m id (start us) { tmps := vs ++ Array.replicate (fn.ntmps - vs.size) Go.undef, defers := [] } w := by
  have hlen := hr.length
  simp only [Array.length_toList] at hlen
  have hnot : ∀ i sz es s, (start us).t i = .sl false sz es (some s) → False := by
    intro i sz es s hi
    have hs : (start us).t i = (us[i]?).getD .undef := by
      have := startT_at us 0 i
      simpa [start] using this
    rw [hs] at hi
    cases hu : us[i]? with
    | none => rw [hu] at hi; cases hi
    | some u =>
      rw [hu] at hi
      simp only [Option.getD_some] at hi
      have := List.all_eq_true.1 hdat u (List.mem_of_getElem? hu)
      rw [hi] at this
      simp [V.dat] at this
  have hnomp : ∀ i s ks vs, (start us).t i = .mp s ks vs → False := by
    intro i s ks vs hi
    have hs : (start us).t i = (us[i]?).getD .undef := by
      have := startT_at us 0 i
      simpa [start] using this
    rw [hs] at hi
    cases hu : us[i]? with
    | none => rw [hu] at hi; cases hi
    | some u =>
      rw [hu] at hi
      simp only [Option.getD_some] at hi
      have := List.all_eq_true.1 hdat u (List.mem_of_getElem? hu)
      rw [hi] at this
      simp [V.dat] at this
  have hnob : ∀ v sz es s, Bear E w id (start us) (fun i => (vs ++ Array.replicate (fn.ntmps - vs.size) Go.undef).getD i Go.undef) v (.sl false sz es (some s)) → False := by
    intro v sz es s hi
    rcases hi with ⟨i, h1, _⟩ | ⟨k', c, j, _, h2, _⟩
    · exact hnot i sz es s h1
    · simp [start] at h2
  have hrel : Rel E n ⟨[], id, [], []⟩ m w m id (start us) { tmps := vs ++ Array.replicate (fn.ntmps - vs.size) Go.undef, defers := [] } w := by
    refine ⟨fun i => ?_, by simp; omega, fun s cs hs => by simp [start] at hs, fun s s' cs cs' hs => by simp [start] at hs, Bel.refl _ _, ⟨hn1, fun _ _ => rfl, fun x hx => by cases hx⟩, ⟨fun _ _ _ => rfl, Ext.refl _ _, fun x hx => by cases hx⟩, ⟨id, fun v sz es s hi => (hnob v sz es s hi).elim, fun v sz es s v' sz' es' s' hi => (hnob v sz es s hi).elim, fun v sz es s k cs hi => (hnob v sz es s hi).elim⟩, fun i s sz len cs hi hs => by simp [start] at hs, rfl, hg, hj, ⟨fun i s ks vs hi => (hnomp i s ks vs hi).elim, fun i j s s' ks vs ks' vs' hi => (hnomp i s ks vs hi).elim⟩⟩
    have hs : (start us).t i = (us[i]?).getD .undef := by
      have := startT_at us 0 i
      simpa [start] using this
    rw [hs]
    rcases Nat.lt_or_ge i us.length with h' | h'
    · have hu : us[i]? = some us[i] := List.getElem?_eq_getElem h'
      have hv : vs.toList[i]? = some (vs[i]'(by omega)) := by simp
      rw [hu]
      have h1 : (vs ++ Array.replicate (fn.ntmps - vs.size) Go.undef).getD i Go.undef = vs[i]'(by omega) := by
        rw [Array.getD_eq_getD_getElem?, Array.getElem?_append_left (by omega), Array.getElem?_eq_getElem (by omega)]; rfl
      simp only [h1, Option.getD_some]
      exact .of (hr.get i _ _ hv hu)
    · rw [List.getElem?_eq_none h']
      exact .of (.undef _)
  exact hrel
/-- A contract out of a run. -/
theorem fun_of_run (hE : EnvOK E) (hm : E.P.follows .mixedOrders = true) {f : FuncId} {fn : Func} {c : Code} {F : List V → Option V} {k : Nat} (hf : E.P.funcs[f]? = some fn) (hb : fn.body = some c)
    (hcall : ∀ args w, (callFunc f args).run E.P w = .ok (.enter f args) w) (hn : fn.ntmps = n) (hok : okCode E.any n c = true) (hk : k ≤ n) (hn1 : n ≤ 1000)
    (hrun : ∀ us r, F us = some r → us.all V.dat = true → us.length = k ∧ run E c (start us) (retK E fn.results.toList r)) : Fun E f F := by
  refine ⟨hcall, fun m w vs us r hF hdat hr hj hg => ?_⟩
  obtain ⟨hl, hrun⟩ := hrun us r hF hdat
  have hrel := rel_begin hn hk hn1 hl hdat hr hj hg
  refine calls_of_wp hf hb (wp_mono (run_sound (hE.x (.inr (by simp))) hm c _ _ _ _ _ _ hok hrel hrun) ?_)
  intro e a' w' hp
  have done : ∀ st' m' β', resV E st' fn.results.toList = some r → Rel E n ⟨[], id, [], []⟩ m w m' β' st' a' w' → a'.defers = [] ∧ ∃ v, (results fn a'.tmps).run E.P w' = .ok v w' ∧ ∃ v' m', Ending.returned v = .returned v' ∧ Rd m' w' v' r ∧ Below w.heap.size w w' ∧ ∀ blk, blk < w.heap.size → m' blk = m blk := by
    intro st' m' β' h1 h2
    obtain ⟨v, hv, hd⟩ := resV_sound h2 h1
    exact ⟨h2.defers, v, hv, v, m', rfl, hd, h2.below.below, fun blk hb => h2.mold.1 blk hb (by simp)⟩
  cases e with
  | normal => obtain ⟨st', m', β', h1, h2⟩ := hp; exact done st' m' β' h1 h2
  | ret => obtain ⟨st', m', β', h1, h2⟩ := hp; exact done st' m' β' h1 h2
  | exit id => obtain ⟨st', m', β', h1, h2⟩ := hp; exact h1.elim
  | goto l => exact hp.elim
  | panic ch => exact hp.elim
  | outgrown => exact hp.elim

/-- What is answered is a map that holds so much. -/
def isMapV (ks vs : List V) : V → Prop
  | .mp _ ks' vs' => ks' = ks ∧ vs' = vs
  | _ => False
def retKM (t : Tmp) (ks vs : List V) : Out → St → Prop
  | .exit _, _ => False
  | _, st => isMapV ks vs (st.t t)
/-- A contract out of a run: of a function that makes a map. -/
theorem fun_of_runM (hE : EnvOK E) (hm : E.P.follows .mixedOrders = true) {f : FuncId} {fn : Func} {c : Code} {F : List V → Option (List V × List V)} {k : Nat} {t : Tmp} (hf : E.P.funcs[f]? = some fn) (hb : fn.body = some c)
    (hcall : ∀ args w, (callFunc f args).run E.P w = .ok (.enter f args) w) (hn : fn.ntmps = n) (hres : fn.results = #[.tmp t]) (hok : okCode E.any n c = true) (hk : k ≤ n) (hn1 : n ≤ 1000)
    (hrun : ∀ us ks rs, F us = some (ks, rs) → us.all V.dat = true → us.length = k ∧ run E c (start us) (retKM t ks rs)) : FunM E f F := by
  refine ⟨hcall, fun m w vs us ks rs hF hdat hr hj hg => ?_⟩
  obtain ⟨hl, hrun⟩ := hrun us ks rs hF hdat
  have hrel : Rel E n ⟨[], id, [], []⟩ m w m id (start us) { tmps := vs ++ Array.replicate (fn.ntmps - vs.size) Go.undef, defers := [] } w := by
    exact rel_begin hn hk hn1 hl hdat hr hj hg
  refine calls_of_wp hf hb (wp_mono (run_sound (hE.x (.inr (by simp))) hm c _ _ _ _ _ _ hok hrel hrun) ?_)
  intro e a' w' hp
  have done : ∀ st' m' β', isMapV ks rs (st'.t t) → Rel E n ⟨[], id, [], []⟩ m w m' β' st' a' w' → a'.defers = [] ∧ ∃ v, (results fn a'.tmps).run E.P w' = .ok v w' ∧ ∃ g m', Ending.returned v = .returned (.map (some g)) ∧ w.heap.size ≤ g ∧ MapAt m' w' g ks rs ∧ Below w.heap.size w w' ∧ ∀ blk, blk < w.heap.size → m' blk = m blk := by
    intro st' m' β' h1 h2
    unfold isMapV at h1
    split at h1
    case h_2 => exact h1.elim
    rename_i s ks' rs' hmp
    obtain ⟨rfl, rfl⟩ := h1
    have hv : a'.tmps.getD t Go.undef = .map (some (β' s)) := (hmp ▸ h2.tmps t : Rs m' w' β' _ (.mp s ks' rs')).mp
    obtain ⟨hM, hge⟩ := h2.maps.holds t s ks' rs' hmp
    refine ⟨h2.defers, .map (some (β' s)), ?_, β' s, m', rfl, hge.elim id (fun h => by cases h), hM, h2.below.below, fun blk hb => h2.mold.1 blk hb (by simp)⟩
    unfold results
    rw [hres]
    have hv' : a'.tmps[t]?.getD Go.undef = .map (some (β' s)) := by rw [← Array.getD_eq_getD_getElem?]; exact hv
    simp [hv']
  cases e with
  | normal => obtain ⟨st', m', β', h1, h2⟩ := hp; exact done st' m' β' h1 h2
  | ret => obtain ⟨st', m', β', h1, h2⟩ := hp; exact done st' m' β' h1 h2
  | exit id => obtain ⟨st', m', β', h1, h2⟩ := hp; exact h1.elim
  | goto l => exact hp.elim
  | panic ch => exact hp.elim
  | outgrown => exact hp.elim

def V.isBx : V → Bool
  | .bx _ => true
  | _ => false
theorem slotP_sl {k : Nat} {u : V} {nl : Bool} {sz : Nat} {es : List V} {q : Option Nat} (h : slotP k u = .sl nl sz es q) : ∃ q', u = .sl nl sz es q' ∧ (q = none ∧ q' = none ∨ q = some (1000 + k) ∧ ∃ j, q' = some j) := by
  cases u with
  | sl nl' sz' es' tok => cases tok with
    | none => cases h; exact ⟨none, rfl, .inl ⟨rfl, rfl⟩⟩
    | some j => cases h; exact ⟨some j, rfl, .inr ⟨rfl, j, rfl⟩⟩
  | _ => cases h
def V.isMp : V → Bool
  | .mp .. => true
  | _ => false
theorem slotP_mp {k : Nat} {u : V} {s : Nat} {ks vs : List V} (h : slotP k u = .mp s ks vs) : s = 1000 + k ∧ ∃ s0, u = .mp s0 ks vs := by
  cases u with
  | sl nl' sz' es' tok => cases tok <;> cases h
  | mp s' k' v' => cases h; exact ⟨rfl, s', rfl⟩
  | _ => cases h
theorem outsMp_no {k : Nat} {u : V} {us : List V} {t : Nat → V} (h : u.isMp = false) : outsMp k (u :: us) t = outsMp (k + 1) us t := by
  cases u <;> first | rfl | cases h
theorem slotP_row {k : Nat} {u : V} {s z l : Nat} (h : slotP k u = .row s z l) : u = .row s z l := by
  cases u with
  | sl nl' sz' es' tok => cases tok <;> cases h
  | row s' z' l' => exact h
  | _ => cases h
theorem slotP_no {k : Nat} {u : V} (h1 : u.isBx = false) (h2 : u.unm = true) (h3 : u.isMp = false) : slotP k u = u := by
  cases u with
  | sl nl' sz' es' tok => cases tok with
    | none => rfl
    | some j => cases h2
  | bx cs => cases h1
  | mp s ks vs => cases h3
  | _ => rfl
theorem startTP_at : ∀ (us : List V) (k i : Nat), startTP k us (k + i) = match us[i]? with | some u => slotP (k + i) u | none => .undef
  | [], _, _ => by simp [startTP]
  | u :: us, k, 0 => by simp [startTP, upd_same]
  | u :: us, k, i + 1 => by
    simp only [startTP]
    rw [upd_ne _ _ (by omega)]
    have := startTP_at us (k + 1) i
    rw [show k + (i + 1) = k + 1 + i from by omega, this]
    simp
theorem startBP_no {k : Nat} {u : V} {us : List V} (h : u.isBx = false) : startBP k (u :: us) = startBP (k + 1) us := by
  cases u <;> first | rfl | cases h
theorem outsOf_no {k : Nat} {u : V} {us : List V} {b : Nat → Option (List V)} (h : u.isBx = false) : outsOf k (u :: us) b = outsOf (k + 1) us b := by
  cases u <;> first | rfl | cases h
theorem startBP_at : ∀ (us : List V) (k s : Nat) (cs : List V), startBP k us s = some cs → ∃ i : Nat, s = 1000 + (k + i) ∧ us[i]? = some (.bx cs)
  | [], _, _, _, h => by simp [startBP] at h
  | u :: us, k, s, cs, h => by
    cases hu : u.isBx with
    | false =>
      rw [startBP_no hu] at h
      obtain ⟨i, h1, h2⟩ := startBP_at us (k + 1) s cs h
      exact ⟨i + 1, by omega, by simpa using h2⟩
    | true =>
      cases u <;> first | cases hu | skip
      rename_i cs0
      simp only [startBP, upd_at] at h
      split at h
      · rename_i e; cases h; exact ⟨0, by omega, rfl⟩
      · obtain ⟨i, h1, h2⟩ := startBP_at us (k + 1) s cs h
        exact ⟨i + 1, by omega, by simpa using h2⟩
/-- Where the variables and rows that were handed in lie. -/
theorem ArgsP.place {K : Nat} {vs : List Value} {us : List V} {bs gs hs : List Nat} (h : ArgsP m w K vs us bs gs hs) : (bs ++ gs).Nodup → hs.Nodup → ∀ k : Nat, ∃ γ : Nat → Nat,
    (∀ (i : Nat) (cs : List V), us[i]? = some (.bx cs) → vs[i]? = some (.pointer (some ⟨γ (1000 + (k + i)), 0, none⟩)) ∧ BoxAt m w (γ (1000 + (k + i))) cs ∧ γ (1000 + (k + i)) ∈ bs) ∧
    (∀ (i : Nat) (u : V), us[i]? = some u → u.isBx = false → u.isMp = false → ∃ v, vs[i]? = some v ∧ Rd m w v u ∧ (u.unm = true → u.dat = true) ∧ ∀ sz es q, u = .sl false sz es (some q) → RowIs m w v (γ (1000 + (k + i))) sz es.length ∧ γ (1000 + (k + i)) ∈ gs) ∧
    (∀ (b' : Nat → Option (List V)) (outs : List (List V)), outsOf k us b' = some outs → ∀ (m' : Lim) (w' : World), (∀ (i : Nat) (cs c' : List V), us[i]? = some (.bx cs) → b' (1000 + (k + i)) = some c' → BoxAt m' w' (γ (1000 + (k + i))) c') → OutsP m' w' bs outs) ∧
    (∀ (i j : Nat) (cs cs' : List V), us[i]? = some (.bx cs) → us[j]? = some (.bx cs') → γ (1000 + (k + i)) = γ (1000 + (k + j)) → i = j) ∧
    (∀ (i j : Nat) (sz sz' q q' : Nat) (es es' : List V), us[i]? = some (.sl false sz es (some q)) → us[j]? = some (.sl false sz' es' (some q')) → γ (1000 + (k + i)) = γ (1000 + (k + j)) → i = j) ∧
    (∀ x ∈ bs ++ gs, K ≤ x) ∧
    (∀ (i s : Nat) (ks us' : List V), us[i]? = some (.mp s ks us') → vs[i]? = some (.map (some (γ (1000 + (k + i))))) ∧ MapAt m w (γ (1000 + (k + i))) ks us' ∧ γ (1000 + (k + i)) ∈ hs) ∧
    (∀ (t' : Nat → V) (outs : List (List V)), outsMp k us t' = some outs → ∀ (m' : Lim) (w' : World), (∀ (i s : Nat) (ks us' ks2 us2 : List V), us[i]? = some (.mp s ks us') → t' (k + i) = .mp (1000 + (k + i)) ks2 us2 → MapAt m' w' (γ (1000 + (k + i))) ks2 us2) → OutsM m' w' hs outs) ∧
    (∀ (i j s s' : Nat) (ks us' ks2 us2 : List V), us[i]? = some (.mp s ks us') → us[j]? = some (.mp s' ks2 us2) → γ (1000 + (k + i)) = γ (1000 + (k + j)) → i = j) ∧
    ∀ x ∈ hs, K ≤ x := by
  have hne : ∀ k i : Nat, 1000 + (k + 1 + i) ≠ 1000 + k := fun k i => by omega
  have hsh : ∀ k i : Nat, 1000 + (k + (i + 1)) = 1000 + (k + 1 + i) := fun k i => by omega
  have h00 : ∀ k : Nat, 1000 + (k + 0) = 1000 + k := fun k => by omega
  induction h with
  | nil =>
    intro _ _ k
    exact ⟨id, fun i cs h => by simp at h, fun i u h => by simp at h, fun b' outs h m' w' _ => by cases h; trivial, fun i j cs cs' h => by simp at h, fun i j sz sz' q q' es es' h => by simp at h, fun x hx => (by cases hx), fun i s ks us' h => (by simp at h), fun t' outs h m' w' _ => (by cases h; trivial), fun i j s s' ks us' ks2 us2 h => (by simp at h), fun x hx => (by cases hx)⟩
  | bx hb hK h ih =>
    rename_i b cs0 vs us bs gs hs
    intro hn hhn k
    rw [List.cons_append, List.nodup_cons] at hn
    obtain ⟨γ, h1, h2, h3, h4, h6, h5, h7, h8, h9, h10⟩ := ih hn.2 hhn (k + 1)
    refine ⟨upd γ (1000 + k) b, fun i cs hi => ?_, fun i u hi hu hu2 => ?_, fun b' outs ho m' w' hbx => ?_, fun i j cs cs' hi hj he => ?_, fun i j sz sz' q q' es es' hi hj he => ?_, fun x hx => ?_, fun i s ks us' hi => ?_, fun t' outs ho m' w' hmp => ?_, fun i j s s' ks us' ks2 us2 hi hj he => ?_, h10⟩
    · cases i with
      | zero =>
        simp at hi
        subst hi
        rw [h00, upd_same]
        exact ⟨rfl, hb, by simp⟩
      | succ i =>
        rw [hsh k i, upd_ne _ _ (hne k i)]
        obtain ⟨q1, q2, q3⟩ := h1 i cs (by simpa using hi)
        exact ⟨by simpa using q1, q2, by simp [q3]⟩
    · cases i with
      | zero => simp at hi; subst hi; cases hu
      | succ i =>
        rw [hsh k i, upd_ne _ _ (hne k i)]
        obtain ⟨v, q1, q2⟩ := h2 i u (by simpa using hi) hu hu2
        exact ⟨v, by simpa using q1, q2⟩
    · simp only [outsOf] at ho
      split at ho
      · rename_i c l hc hl
        cases ho
        refine ⟨?_, h3 _ _ hl m' w' (fun i cs c' hi hs => ?_)⟩
        · have := hbx 0 cs0 c rfl hc
          rwa [h00, upd_same] at this
        · have := hbx (i + 1) cs c' (by simpa using hi) (by rw [hsh k i]; exact hs)
          rwa [hsh k i, upd_ne _ _ (hne k i)] at this
      · cases ho
    · cases i with
      | zero => cases j with
        | zero => rfl
        | succ j =>
          rw [h00, hsh k j, upd_same, upd_ne _ _ (hne k j)] at he
          obtain ⟨_, _, q3⟩ := h1 j cs' (by simpa using hj)
          exact absurd (List.mem_append_left _ (he ▸ q3)) hn.1
      | succ i => cases j with
        | zero =>
          rw [h00, hsh k i, upd_same, upd_ne _ _ (hne k i)] at he
          obtain ⟨_, _, q3⟩ := h1 i cs (by simpa using hi)
          exact absurd (List.mem_append_left _ (he ▸ q3)) hn.1
        | succ j =>
          rw [hsh k i, hsh k j, upd_ne _ _ (hne k i), upd_ne _ _ (hne k j)] at he
          rw [h4 i j cs cs' (by simpa using hi) (by simpa using hj) he]
    · cases i with
      | zero => simp at hi
      | succ i => cases j with
        | zero => simp at hj
        | succ j =>
          rw [hsh k i, hsh k j, upd_ne _ _ (hne k i), upd_ne _ _ (hne k j)] at he
          rw [h6 i j sz sz' q q' es es' (by simpa using hi) (by simpa using hj) he]
    · rcases List.mem_cons.1 hx with rfl | hx
      · exact hK
      · exact h5 x hx
    · cases i with
      | zero => simp at hi
      | succ i =>
        rw [hsh k i, upd_ne _ _ (hne k i)]
        obtain ⟨q1, q2⟩ := h7 i s ks us' (by simpa using hi)
        exact ⟨by simpa using q1, q2⟩
    · rw [outsMp_no rfl] at ho
      exact h8 t' outs ho m' w' (fun i s ks us' ks2 us2 hi ht => by
        have := hmp (i + 1) s ks us' ks2 us2 (by simpa using hi) (by rw [show k + (i + 1) = k + 1 + i from by omega]; rw [show 1000 + (k + 1 + i) = 1000 + (k + 1 + i) from rfl]; exact ht)
        rwa [hsh k i, upd_ne _ _ (hne k i)] at this)
    · cases i with
      | zero => simp at hi
      | succ i => cases j with
        | zero => simp at hj
        | succ j =>
          rw [hsh k i, hsh k j, upd_ne _ _ (hne k i), upd_ne _ _ (hne k j)] at he
          rw [h9 i j s s' ks us' ks2 us2 (by simpa using hi) (by simpa using hj) he]
  | row hr hi0 hK h ih =>
    rename_i v0 sz0 g es0 vs us bs gs hs
    intro hn hhn k
    rw [List.nodup_append] at hn
    obtain ⟨hn1, hn2, hn3⟩ := hn
    rw [List.nodup_cons] at hn2
    obtain ⟨γ, h1, h2, h3, h4, h6, h5, h7, h8, h9, h10⟩ := ih (List.nodup_append.2 ⟨hn1, hn2.2, fun x hx y hy => hn3 x hx y (List.mem_cons_of_mem _ hy)⟩) hhn (k + 1)
    refine ⟨upd γ (1000 + k) g, fun i cs hi => ?_, fun i u hi hu hu2 => ?_, fun b' outs ho m' w' hbx => ?_, fun i j cs cs' hi hj he => ?_, fun i j sz sz' q q' es es' hi hj he => ?_, fun x hx => ?_, fun i s ks us' hi => ?_, fun t' outs ho m' w' hmp => ?_, fun i j s s' ks us' ks2 us2 hi hj he => ?_, h10⟩
    · cases i with
      | zero => simp at hi
      | succ i =>
        rw [hsh k i, upd_ne _ _ (hne k i)]
        obtain ⟨q1, q2, q3⟩ := h1 i cs (by simpa using hi)
        exact ⟨by simpa using q1, q2, q3⟩
    · cases i with
      | zero =>
        simp at hi
        subst hi
        rw [h00, upd_same]
        refine ⟨v0, rfl, hr, fun hm => (by cases hm), fun sz es q e => ?_⟩
        cases e
        exact ⟨hi0, by simp⟩
      | succ i =>
        rw [hsh k i, upd_ne _ _ (hne k i)]
        obtain ⟨v, q1, q2, q3, q4⟩ := h2 i u (by simpa using hi) hu hu2
        exact ⟨v, by simpa using q1, q2, q3, fun sz es q e => ⟨(q4 sz es q e).1, by simp [(q4 sz es q e).2]⟩⟩
    · rw [outsOf_no rfl] at ho
      exact h3 b' outs ho m' w' (fun i cs c' hi hs => by
        have := hbx (i + 1) cs c' (by simpa using hi) (by rw [hsh k i]; exact hs)
        rwa [hsh k i, upd_ne _ _ (hne k i)] at this)
    · cases i with
      | zero => simp at hi
      | succ i => cases j with
        | zero => simp at hj
        | succ j =>
          rw [hsh k i, hsh k j, upd_ne _ _ (hne k i), upd_ne _ _ (hne k j)] at he
          rw [h4 i j cs cs' (by simpa using hi) (by simpa using hj) he]
    · have hq7 : ∀ (i sz q : Nat) (es : List V), us[i]? = some (.sl false sz es (some q)) → γ (1000 + (k + 1 + i)) ∈ gs := fun i sz q es hi => by
        obtain ⟨v, _, _, _, q4⟩ := h2 i _ hi rfl rfl
        exact (q4 sz es q rfl).2
      cases i with
      | zero => cases j with
        | zero => rfl
        | succ j =>
          rw [h00, hsh k j, upd_same, upd_ne _ _ (hne k j)] at he
          exact absurd (he ▸ hq7 j sz' q' es' (by simpa using hj)) hn2.1
      | succ i => cases j with
        | zero =>
          rw [h00, hsh k i, upd_same, upd_ne _ _ (hne k i)] at he
          exact absurd (he ▸ hq7 i sz q es (by simpa using hi)) hn2.1
        | succ j =>
          rw [hsh k i, hsh k j, upd_ne _ _ (hne k i), upd_ne _ _ (hne k j)] at he
          rw [h6 i j sz sz' q q' es es' (by simpa using hi) (by simpa using hj) he]
    · rcases List.mem_append.1 hx with hx | hx
      · exact h5 x (List.mem_append_left _ hx)
      · rcases List.mem_cons.1 hx with rfl | hx
        · exact hK
        · exact h5 x (List.mem_append_right _ hx)
    · cases i with
      | zero => simp at hi
      | succ i =>
        rw [hsh k i, upd_ne _ _ (hne k i)]
        obtain ⟨q1, q2⟩ := h7 i s ks us' (by simpa using hi)
        exact ⟨by simpa using q1, q2⟩
    · rw [outsMp_no rfl] at ho
      exact h8 t' outs ho m' w' (fun i s ks us' ks2 us2 hi ht => by
        have := hmp (i + 1) s ks us' ks2 us2 (by simpa using hi) (by rw [show k + (i + 1) = k + 1 + i from by omega]; rw [show 1000 + (k + 1 + i) = 1000 + (k + 1 + i) from rfl]; exact ht)
        rwa [hsh k i, upd_ne _ _ (hne k i)] at this)
    · cases i with
      | zero => simp at hi
      | succ i => cases j with
        | zero => simp at hj
        | succ j =>
          rw [hsh k i, hsh k j, upd_ne _ _ (hne k i), upd_ne _ _ (hne k j)] at he
          rw [h9 i j s s' ks us' ks2 us2 (by simpa using hi) (by simpa using hj) he]
  | no h ih =>
    rename_i vs us bs gs hs
    intro hn hhn k
    obtain ⟨γ, h1, h2, h3, h4, h6, h5, h7, h8, h9, h10⟩ := ih hn hhn (k + 1)
    refine ⟨γ, fun i cs hi => ?_, fun i u' hi hu hu2 => ?_, fun b' outs ho m' w' hbx => ?_, fun i j cs cs' hi hj he => ?_, fun i j sz sz' q q' es es' hi hj he => ?_, h5, fun i s ks us' hi => ?_, fun t' outs ho m' w' hmp => ?_, fun i j s s' ks us' ks2 us2 hi hj he => ?_, h10⟩
    · cases i with
      | zero => simp at hi
      | succ i =>
        rw [hsh k i]
        obtain ⟨q1, q2⟩ := h1 i cs (by simpa using hi)
        exact ⟨by simpa using q1, q2⟩
    · cases i with
      | zero => simp at hi; subst hi; exact ⟨_, rfl, .nil _ _, fun hm => (by cases hm), fun sz es q e => by cases e⟩
      | succ i =>
        rw [hsh k i]
        obtain ⟨v, q1, q2⟩ := h2 i u' (by simpa using hi) hu hu2
        exact ⟨v, by simpa using q1, q2⟩
    · rw [outsOf_no rfl] at ho
      exact h3 b' outs ho m' w' (fun i cs c' hi hs => by
        have := hbx (i + 1) cs c' (by simpa using hi) (by rw [hsh k i]; exact hs)
        rwa [hsh k i] at this)
    · cases i with
      | zero => simp at hi
      | succ i => cases j with
        | zero => simp at hj
        | succ j =>
          rw [hsh k i, hsh k j] at he
          rw [h4 i j cs cs' (by simpa using hi) (by simpa using hj) he]
    · cases i with
      | zero => simp at hi
      | succ i => cases j with
        | zero => simp at hj
        | succ j =>
          rw [hsh k i, hsh k j] at he
          rw [h6 i j sz sz' q q' es es' (by simpa using hi) (by simpa using hj) he]
    · cases i with
      | zero => simp at hi
      | succ i =>
        rw [hsh k i]
        obtain ⟨q1, q2⟩ := h7 i s ks us' (by simpa using hi)
        exact ⟨by simpa using q1, q2⟩
    · rw [outsMp_no rfl] at ho
      exact h8 t' outs ho m' w' (fun i s ks us' ks2 us2 hi ht => by
        have := hmp (i + 1) s ks us' ks2 us2 (by simpa using hi) (by rw [show k + (i + 1) = k + 1 + i from by omega]; rw [show 1000 + (k + 1 + i) = 1000 + (k + 1 + i) from rfl]; exact ht)
        rwa [hsh k i] at this)
    · cases i with
      | zero => simp at hi
      | succ i => cases j with
        | zero => simp at hj
        | succ j =>
          rw [hsh k i, hsh k j] at he
          rw [h9 i j s s' ks us' ks2 us2 (by simpa using hi) (by simpa using hj) he]
  | mp hm0 hK h ih =>
    rename_i g ks0 us0 vs us bs gs hs
    intro hn hhn k
    rw [List.nodup_cons] at hhn
    obtain ⟨γ, h1, h2, h3, h4, h6, h5, h7, h8, h9, h10⟩ := ih hn hhn.2 (k + 1)
    refine ⟨upd γ (1000 + k) g, fun i cs hi => ?_, fun i u' hi hu hu2 => ?_, fun b' outs ho m' w' hbx => ?_, fun i j cs cs' hi hj he => ?_, fun i j sz sz' q q' es es' hi hj he => ?_, h5, fun i s ks us' hi => ?_, fun t' outs ho m' w' hmp => ?_, fun i j s s' ks us' ks2 us2 hi hj he => ?_, fun x hx => ?_⟩
    · cases i with
      | zero => simp at hi
      | succ i =>
        rw [hsh k i, upd_ne _ _ (hne k i)]
        obtain ⟨q1, q2⟩ := h1 i cs (by simpa using hi)
        exact ⟨by simpa using q1, q2⟩
    · cases i with
      | zero => simp at hi; subst hi; cases hu2
      | succ i =>
        rw [hsh k i, upd_ne _ _ (hne k i)]
        obtain ⟨v, q1, q2⟩ := h2 i u' (by simpa using hi) hu hu2
        exact ⟨v, by simpa using q1, q2⟩
    · rw [outsOf_no rfl] at ho
      exact h3 b' outs ho m' w' (fun i cs c' hi hs => by
        have := hbx (i + 1) cs c' (by simpa using hi) (by rw [hsh k i]; exact hs)
        rwa [hsh k i, upd_ne _ _ (hne k i)] at this)
    · cases i with
      | zero => simp at hi
      | succ i => cases j with
        | zero => simp at hj
        | succ j =>
          rw [hsh k i, hsh k j, upd_ne _ _ (hne k i), upd_ne _ _ (hne k j)] at he
          rw [h4 i j cs cs' (by simpa using hi) (by simpa using hj) he]
    · cases i with
      | zero => simp at hi
      | succ i => cases j with
        | zero => simp at hj
        | succ j =>
          rw [hsh k i, hsh k j, upd_ne _ _ (hne k i), upd_ne _ _ (hne k j)] at he
          rw [h6 i j sz sz' q q' es es' (by simpa using hi) (by simpa using hj) he]
    · cases i with
      | zero =>
        simp at hi
        obtain ⟨_, rfl, rfl⟩ := hi
        rw [h00, upd_same]
        exact ⟨rfl, hm0, by simp⟩
      | succ i =>
        rw [hsh k i, upd_ne _ _ (hne k i)]
        obtain ⟨q1, q2, q3⟩ := h7 i s ks us' (by simpa using hi)
        exact ⟨by simpa using q1, q2, List.mem_cons_of_mem _ q3⟩
    · simp only [outsMp] at ho
      split at ho
      · rename_i s2 ks2 us2 l ht hl
        split at ho
        · rename_i e
          cases ho
          subst e
          refine ⟨⟨0, ks2, us2, rfl, ?_⟩, h8 _ _ hl m' w' (fun i s ks us' ks3 us3 hi ht2 => ?_)⟩
          · have := hmp 0 0 ks0 us0 ks2 us2 rfl (by simpa using ht)
            rwa [h00, upd_same] at this
          · have := hmp (i + 1) s ks us' ks3 us3 (by simpa using hi) (by rw [show k + (i + 1) = k + 1 + i from by omega]; exact ht2)
            rwa [hsh k i, upd_ne _ _ (hne k i)] at this
        · cases ho
      · cases ho
    · cases i with
      | zero => cases j with
        | zero => rfl
        | succ j =>
          rw [h00, hsh k j, upd_same, upd_ne _ _ (hne k j)] at he
          obtain ⟨_, _, q3⟩ := h7 j s' ks2 us2 (by simpa using hj)
          exact absurd (he ▸ q3) hhn.1
      | succ i => cases j with
        | zero =>
          rw [h00, hsh k i, upd_same, upd_ne _ _ (hne k i)] at he
          obtain ⟨_, _, q3⟩ := h7 i s ks us' (by simpa using hi)
          exact absurd (he ▸ q3) hhn.1
        | succ j =>
          rw [hsh k i, hsh k j, upd_ne _ _ (hne k i), upd_ne _ _ (hne k j)] at he
          rw [h9 i j s s' ks us' ks2 us2 (by simpa using hi) (by simpa using hj) he]
    · rcases List.mem_cons.1 hx with rfl | hx
      · exact hK
      · exact h10 x hx
  | dat hr hd h ih =>
    rename_i v u vs us bs gs hs
    intro hn hhn k
    have hu0 : u.isBx = false := by cases u <;> first | rfl | (simp [V.dat] at hd)
    have hu1 : ∀ nl sz es q, u ≠ .sl nl sz es (some q) := fun nl sz es q e => by subst e; cases hd
    have hu2 : u.isMp = false := by cases u <;> first | rfl | (simp [V.dat] at hd)
    obtain ⟨γ, h1, h2, h3, h4, h6, h5, h7, h8, h9, h10⟩ := ih hn hhn (k + 1)
    refine ⟨γ, fun i cs hi => ?_, fun i u' hi hu hu3 => ?_, fun b' outs ho m' w' hbx => ?_, fun i j cs cs' hi hj he => ?_, fun i j sz sz' q q' es es' hi hj he => ?_, h5, fun i s ks us' hi => ?_, fun t' outs ho m' w' hmp => ?_, fun i j s s' ks us' ks2 us2 hi hj he => ?_, h10⟩
    · cases i with
      | zero => simp at hi; subst hi; cases hu0
      | succ i =>
        rw [hsh k i]
        obtain ⟨q1, q2⟩ := h1 i cs (by simpa using hi)
        exact ⟨by simpa using q1, q2⟩
    · cases i with
      | zero => simp at hi; subst hi; exact ⟨v, rfl, hr, fun _ => hd, fun sz es q e => absurd e (hu1 _ _ _ _)⟩
      | succ i =>
        rw [hsh k i]
        obtain ⟨v, q1, q2⟩ := h2 i u' (by simpa using hi) hu hu3
        exact ⟨v, by simpa using q1, q2⟩
    · rw [outsOf_no hu0] at ho
      exact h3 b' outs ho m' w' (fun i cs c' hi hs => by
        have := hbx (i + 1) cs c' (by simpa using hi) (by rw [hsh k i]; exact hs)
        rwa [hsh k i] at this)
    · cases i with
      | zero => simp at hi; subst hi; cases hu0
      | succ i => cases j with
        | zero => simp at hj; subst hj; cases hu0
        | succ j =>
          rw [hsh k i, hsh k j] at he
          rw [h4 i j cs cs' (by simpa using hi) (by simpa using hj) he]
    · cases i with
      | zero => simp at hi; exact absurd hi (hu1 _ _ _ _)
      | succ i => cases j with
        | zero => simp at hj; exact absurd hj (hu1 _ _ _ _)
        | succ j =>
          rw [hsh k i, hsh k j] at he
          rw [h6 i j sz sz' q q' es es' (by simpa using hi) (by simpa using hj) he]
    · cases i with
      | zero => simp at hi; subst hi; cases hu2
      | succ i =>
        rw [hsh k i]
        obtain ⟨q1, q2⟩ := h7 i s ks us' (by simpa using hi)
        exact ⟨by simpa using q1, q2⟩
    · rw [outsMp_no hu2] at ho
      exact h8 t' outs ho m' w' (fun i s ks us' ks2 us2 hi ht => by
        have := hmp (i + 1) s ks us' ks2 us2 (by simpa using hi) (by rw [show k + (i + 1) = k + 1 + i from by omega]; rw [show 1000 + (k + 1 + i) = 1000 + (k + 1 + i) from rfl]; exact ht)
        rwa [hsh k i] at this)
    · cases i with
      | zero => simp at hi; subst hi; cases hu2
      | succ i => cases j with
        | zero => simp at hj; subst hj; cases hu2
        | succ j =>
          rw [hsh k i, hsh k j] at he
          rw [h9 i j s s' ks us' ks2 us2 (by simpa using hi) (by simpa using hj) he]
theorem bare_unm (u : V) : u.bare.unm = true := by
  rw [bare_eq]
  cases u <;> rfl
theorem resOne_unm {st : St} {x : ResultVar} {u : V} (h : resOne E st x = some u) : u.unm = true := by
  cases x with
  | tmp t =>
    simp only [resOne] at h
    split at h
    · cases h; exact bare_unm _
    · cases h
  | cell a t =>
    simp only [resOne, Option.map_eq_some_iff] at h
    obtain ⟨u0, _, rfl⟩ := h
    exact bare_unm _
theorem resV_unm {st : St} {rs : List ResultVar} {r : V} (h : resV E st rs = some r) : r.unm = true := by
  unfold resV at h
  split at h
  · rename_i u hu
    cases h
    cases rs with
    | nil => cases hu
    | cons x rs =>
      unfold resL at hu
      split at hu
      · rename_i u1 us1 h1 h2
        cases hu
        exact resOne_unm h1
      · cases hu
  · cases h; rfl
  · cases h
theorem resM_sound (h : Rel E n pm m0 w0 m β st a w) {fn : Func} {r : V} (hr : resM E st fn.results.toList = some r ∨ resV E st fn.results.toList = some r) :
    ∃ v, (results fn a.tmps).run E.P w = .ok v w ∧ Rd m w v r ∧ ∀ sz es k, r = .sl false sz es (some k) → ∃ g, RowIs m w v g sz es.length ∧ (w0.heap.size ≤ g ∨ g ∈ pm.Y) := by
  have plain : resV E st fn.results.toList = some r → ∃ v, (results fn a.tmps).run E.P w = .ok v w ∧ Rd m w v r ∧ ∀ sz es k, r = .sl false sz es (some k) → ∃ g, RowIs m w v g sz es.length ∧ (w0.heap.size ≤ g ∨ g ∈ pm.Y) := fun hr => by
    obtain ⟨v, hv, hd⟩ := resV_sound h hr
    refine ⟨v, hv, hd, fun sz es k e => ?_⟩
    have := resV_unm hr
    rw [e] at this
    cases this
  rcases hr with hr | hr
  case inr => exact plain hr
  unfold resM at hr
  split at hr
  · rename_i t ht
    unfold resT at hr
    split at hr
    · rename_i nl sz es k hu
      cases hr
      have hrun : (results fn a.tmps).run E.P w = .ok (a.tmps.getD t Go.undef) w := by
        have ht' : fn.results = #[.tmp t] := by apply Array.toList_inj.1; rw [ht]
        unfold results
        rw [Array.mapM_eq_mapM_toList, Sem.run_bind, Sem.run_map, ht']
        simp
      have hrd : Rd m w (a.tmps.getD t Go.undef) (.sl nl sz es (some k)) := by
        have := h.tmps t
        rw [hu] at this
        exact this.rd rfl
      refine ⟨_, hrun, hrd.remark 0, fun sz' es' k' e => ?_⟩
      cases e
      obtain ⟨ρ, hrw⟩ := h.rows
      obtain ⟨lo, lim, is⟩ := hrw.row _ _ _ _ (Bear.slot (E := E) (w := w) (β := β) (st := st) (tm := fun i => a.tmps.getD i Go.undef) hu)
      exact ⟨ρ k, ⟨lim, is⟩, lo⟩
    · rename_i hno
      split at hr
      · rename_i hnp
        refine plain ?_
        rw [ht]
        simp only [resV, resL, resOne, hnp, if_true]
        exact hr
      · cases hr
  · exact plain hr
def retKX (E : Env) (rs : List ResultVar) (us : List V) (r : V) (outs : List (List V)) : Out → St → Prop
  | .exit _, _ => False
  | _, st => (resM E st rs = some r ∨ resV E st rs = some r) ∧ outsA us st = some outs
theorem ArgsP.len {m : Lim} {w : World} {K : Nat} {vs : List Value} {us : List V} {bs gs hs : List Nat} (h : ArgsP m w K vs us bs gs hs) : vs.length = us.length := by
  induction h with
  | nil => rfl
  | bx _ _ _ ih => simp [ih]
  | row _ _ _ _ ih => simp [ih]
  | no _ ih => simp [ih]
  | mp _ _ _ ih => simp [ih]
  | dat _ _ _ ih => simp [ih]
/-- What a call holds at its beginning that is handed addresses, rows, maps. -/
theorem rel_startP (hmb : ∀ s, 1000 ≤ s → E.MB s = false) (hn1 : n ≤ 1000) {m : Lim} {w : World} {vs : Array Value} {us : List V} {bs gs hs : List Nat} (hargs : ArgsP m w E.K vs.toList us bs gs hs) (hnd : (bs ++ gs).Nodup) (hhnd : hs.Nodup) (hj : E.J w) (hg : ∀ g, Rd m w (.pointer (some ⟨g, 0, none⟩)) (E.G g)) (hsz : vs.size ≤ n) :
    ∃ γ, Rel E n ⟨bs ++ (gs ++ hs), γ, gs, []⟩ m w m γ (startP us) { tmps := vs ++ Array.replicate (n - vs.size) Go.undef, defers := [] } w ∧ vs.size = us.length ∧ (∀ (i : Nat) (cs : List V), us[i]? = some (.bx cs) → vs.toList[i]? = some (.pointer (some ⟨γ (1000 + i), 0, none⟩)) ∧ BoxAt m w (γ (1000 + i)) cs ∧ γ (1000 + i) ∈ bs) ∧ (∀ (b' : Nat → Option (List V)) (outs : List (List V)), outsOf 0 us b' = some outs → ∀ (m' : Lim) (w' : World), (∀ (i : Nat) (cs c' : List V), us[i]? = some (.bx cs) → b' (1000 + i) = some c' → BoxAt m' w' (γ (1000 + i)) c') → OutsP m' w' bs outs) ∧ (∀ (t' : Nat → V) (outs : List (List V)), outsMp 0 us t' = some outs → ∀ (m' : Lim) (w' : World), (∀ (i s : Nat) (ks us' ks2 us2 : List V), us[i]? = some (.mp s ks us') → t' i = .mp (1000 + i) ks2 us2 → MapAt m' w' (γ (1000 + i)) ks2 us2) → OutsM m' w' hs outs) := by
  obtain ⟨γ, h1, h2, h3, h4, h6, h5, h7, h8, h9, h10⟩ := hargs.place hnd hhnd 0
  simp only [Nat.zero_add] at h1 h2 h3 h4 h6 h7 h8 h9
  have hlen : ∀ {m : Lim} {w : World} {K : Nat} {vs : List Value} {us : List V} {bs gs hs : List Nat}, ArgsP m w K vs us bs gs hs → vs.length = us.length := by
    intro m w K vs us bs gs hs h
    induction h with
    | nil => rfl
    | bx _ _ _ ih => simp [ih]
    | row _ _ _ _ ih => simp [ih]
    | no _ ih => simp [ih]
    | mp _ _ _ ih => simp [ih]
    | dat _ _ _ ih => simp [ih]
  have hlen := hlen hargs
  simp only [Array.length_toList] at hlen
  have hst : ∀ i, (startP us).t i = match us[i]? with | some u => slotP i u | none => .undef := fun i => by
    have := startTP_at us 0 i
    simpa [startP] using this
  have hsb : ∀ s cs, (startP us).b s = some cs → ∃ i : Nat, s = 1000 + i ∧ us[i]? = some (.bx cs) := fun s cs h => by
    obtain ⟨i, q1, q2⟩ := startBP_at us 0 s cs h
    exact ⟨i, by omega, q2⟩
  have hvs : ∀ (i : Nat) (v : Value), vs.toList[i]? = some v → (vs ++ Array.replicate (n - vs.size) Go.undef).getD i Go.undef = v := fun i v hv => by
    have hi : i < vs.size := by have := lt_of_some hv; simpa using this
    rw [Array.getD_eq_getD_getElem?, Array.getElem?_append_left hi, ← Array.getElem?_toList, hv]
    rfl
  have hbear : ∀ v sz es s, Bear E w γ (startP us) (fun i => (vs ++ Array.replicate (n - vs.size) Go.undef).getD i Go.undef) v (.sl false sz es (some s)) → ∃ i q, s = 1000 + i ∧ us[i]? = some (.sl false sz es (some q)) ∧ RowIs m w v (γ (1000 + i)) sz es.length ∧ γ (1000 + i) ∈ gs := by
    intro v sz es s hi
    rcases hi with ⟨i, q1, q2⟩ | ⟨k', c, j, q1, q2, _⟩
    · rw [hst i] at q1
      split at q1
      · rename_i u hu
        obtain ⟨q', rfl, hq⟩ := slotP_sl q1
        rcases hq with ⟨hq, _⟩ | ⟨hq, j, rfl⟩
        · cases hq
        · obtain ⟨v0, p7, _, _, p8⟩ := h2 i _ hu rfl rfl
          have hvv : v = v0 := by rw [← q2]; exact hvs i v0 p7
          obtain ⟨p9, p10⟩ := p8 sz es j rfl
          cases hq
          exact ⟨i, j, rfl, hu, hvv ▸ p9, p10⟩
      · cases q1
    · obtain ⟨i, rfl, _⟩ := hsb k' c q2
      rw [hmb _ (by omega)] at q1
      cases q1
  have hmps : ∀ i s ks vs', (startP us).t i = .mp s ks vs' → s = 1000 + i ∧ ∃ s0, us[i]? = some (.mp s0 ks vs') := by
    intro i s ks vs' hi
    rw [hst i] at hi
    split at hi
    · rename_i u hu
      obtain ⟨e, s0, rfl⟩ := slotP_mp hi
      exact ⟨e, s0, hu⟩
    · cases hi
  have hrel : Rel E n ⟨bs ++ (gs ++ hs), γ, gs, []⟩ m w m γ (startP us) { tmps := vs ++ Array.replicate (n - vs.size) Go.undef, defers := [] } w := by
    refine ⟨fun i => ?_, by simp; omega, fun s cs hs => ?_, fun s s' cs cs' hs hs' he => ?_, Bel.refl _ _, ⟨hn1, fun _ _ => rfl, fun x hx => (by rcases List.mem_append.1 hx with hx | hx; exact h5 x (List.mem_append_left _ hx); rcases List.mem_append.1 hx with hx | hx; exact h5 x (List.mem_append_right _ hx); exact h10 x hx)⟩, ⟨fun _ _ _ => rfl, Ext.refl _ _, fun y hy => List.mem_append_right _ (List.mem_append_left _ hy)⟩, ⟨γ, fun v sz es s hi => ?_, fun v sz es s v' sz' es' s' hi hi' he => ?_, fun v sz es s k cs hi hk he => ?_⟩, fun i s sz len cs hi hs => ?_, rfl, hg, hj, ⟨fun i s ks vs' hi => ?_, fun i j s s' ks vs' ks' vs'' hi hj' he => ?_⟩⟩
    · rw [hst i]
      rcases Nat.lt_or_ge i us.length with h' | h'
      · have hu : us[i]? = some us[i] := List.getElem?_eq_getElem h'
        have hv : vs.toList[i]? = some (vs[i]'(by omega)) := by simp
        simp only [hvs i _ hv, hu]
        cases hbx : (us[i]).isBx with
        | true =>
          have hu2 : ∃ cs, us[i] = .bx cs := by
            generalize us[i] = u at hbx
            cases u <;> first | exact ⟨_, rfl⟩ | cases hbx
          obtain ⟨cs, hu2⟩ := hu2
          rw [hu2] at hu ⊢
          obtain ⟨q1, _, _⟩ := h1 i cs hu
          rw [hv] at q1
          rw [Option.some.inj q1]
          exact .ofPtr _ _
        | false =>
          cases hmq : (us[i]).isMp with
          | true =>
            have hu2 : ∃ s ks us', us[i] = .mp s ks us' := by
              generalize us[i] = u at hmq
              cases u <;> first | exact ⟨_, _, _, rfl⟩ | cases hmq
            obtain ⟨s, ks, us', hu2⟩ := hu2
            rw [hu2] at hu ⊢
            obtain ⟨q1, _, _⟩ := h7 i s ks us' hu
            rw [hv] at q1
            rw [Option.some.inj q1]
            exact .ofMp _ _ _
          | false =>
          obtain ⟨v, q1, q2, _⟩ := h2 i _ hu hbx hmq
          rw [hv] at q1
          cases q1
          cases hum : (us[i]).unm with
          | true => rw [slotP_no hbx hum hmq]; exact .of q2
          | false =>
            generalize us[i] = u at hum q2
            cases u with
            | sl nl sz es tok => cases tok with
              | none => cases hum
              | some j => exact .of (q2.remark _)
            | _ => cases hum
      · rw [List.getElem?_eq_none h']
        exact .of (.undef _)
    · obtain ⟨i, rfl, hi⟩ := hsb s cs hs
      obtain ⟨_, q2, q3⟩ := h1 i cs hi
      exact ⟨q2, .inr (List.mem_append_left _ q3)⟩
    · obtain ⟨i, rfl, hi⟩ := hsb s cs hs
      obtain ⟨j, rfl, hj'⟩ := hsb s' cs' hs'
      rw [h4 i j cs cs' hi hj' he]
    · obtain ⟨i, q, rfl, _, ⟨q1, q2⟩, q3⟩ := hbear v sz es s hi
      exact ⟨.inr q3, q1, q2⟩
    · obtain ⟨i, q, rfl, q1, _⟩ := hbear v sz es s hi
      obtain ⟨j, q', rfl, q1', _⟩ := hbear v' sz' es' s' hi'
      rw [h6 i j sz sz' q q' es es' q1 q1' he]
    · obtain ⟨i, q, rfl, _, _, q3⟩ := hbear v sz es s hi
      obtain ⟨j, rfl, hj'⟩ := hsb k cs hk
      obtain ⟨_, _, q4⟩ := h1 j cs hj'
      exact (List.nodup_append.1 hnd).2.2 _ q4 _ q3 he
    · rw [hst i] at hi
      split at hi
      · rename_i u hu
        have e := slotP_row hi
        subst e
        obtain ⟨v, _, hr, _⟩ := h2 i _ hu rfl rfl
        exact hr.not_row.elim
      · cases hi
    · obtain ⟨rfl, s0, hu⟩ := hmps _ _ _ _ hi
      obtain ⟨_, q2, q3⟩ := h7 i s0 ks vs' hu
      exact ⟨q2, .inr (List.mem_append_right _ (List.mem_append_right _ q3))⟩
    · obtain ⟨rfl, s0, hu⟩ := hmps _ _ _ _ hi
      obtain ⟨rfl, s1, hu'⟩ := hmps _ _ _ _ hj'
      rw [h9 i j s0 s1 ks vs' ks' vs'' hu hu' he]
  exact ⟨γ, hrel, hlen, h1, h3, h8⟩
/-- What is told at the end of such a call. -/
theorem end_startP {fn : Func} {γ : Nat → Nat} {m m' : Lim} {w w' : World} {us : List V} {bs gs hs : List Nat} {r : V} {outs : List (List V)} {β' : Nat → Nat} {st' : St} {a' : Act} (h3 : (∀ (b' : Nat → Option (List V)) (outs : List (List V)), outsOf 0 us b' = some outs → ∀ (m' : Lim) (w' : World), (∀ (i : Nat) (cs c' : List V), us[i]? = some (.bx cs) → b' (1000 + i) = some c' → BoxAt m' w' (γ (1000 + i)) c') → OutsP m' w' bs outs)) (h8 : (∀ (t' : Nat → V) (outs : List (List V)), outsMp 0 us t' = some outs → ∀ (m' : Lim) (w' : World), (∀ (i s : Nat) (ks us' ks2 us2 : List V), us[i]? = some (.mp s ks us') → t' i = .mp (1000 + i) ks2 us2 → MapAt m' w' (γ (1000 + i)) ks2 us2) → OutsM m' w' hs outs))
    (h1' : (resM E st' fn.results.toList = some r ∨ resV E st' fn.results.toList = some r) ∧ outsA us st' = some outs) (h2' : Rel E n ⟨bs ++ (gs ++ hs), γ, gs, []⟩ m w m' β' st' a' w') :
    a'.defers = [] ∧ ∃ v, (results fn a'.tmps).run E.P w' = .ok v w' ∧ Rd m' w' v r ∧ Bel (bs ++ (gs ++ hs)) w w' ∧ Ext m w m' w' ∧ (∀ blk, blk < w.heap.size → blk ∉ gs → m' blk = m blk) ∧ (∃ o1 o2, outs = o1 ++ o2 ∧ OutsP m' w' bs o1 ∧ OutsM m' w' hs o2) ∧
      ∀ sz es k, r = .sl false sz es (some k) → ∃ g, RowIs m' w' v g sz es.length ∧ (w.heap.size ≤ g ∨ g ∈ gs) := by
  obtain ⟨v, hv, hd, ho⟩ := resM_sound h2' h1'.1
  obtain ⟨o1, o2, ho1, ho2, rfl⟩ : ∃ o1 o2, outsOf 0 us st'.b = some o1 ∧ outsMp 0 us st'.t = some o2 ∧ outs = o1 ++ o2 := by
    have h0 := h1'.2
    unfold outsA at h0
    split at h0
    · rename_i o1 o2 e1 e2
      cases h0
      exact ⟨o1, o2, e1, e2, rfl⟩
    · cases h0
  refine ⟨h2'.defers, v, hv, hd, h2'.below, h2'.mold.2.1, h2'.mold.1, ⟨o1, o2, rfl, h3 _ _ ho1 m' w' (fun i cs c' hi hs => ?_), h8 _ _ ho2 m' w' (fun i s ks us' ks2 us2 hi ht => ?_)⟩, ho⟩
  · have := (h2'.boxes _ _ hs).1
    rwa [h2'.par.2.1 _ (by omega)] at this
  · have := (h2'.maps.holds _ _ _ _ ht).1
    rwa [h2'.par.2.1 _ (by omega)] at this
/-- A contract of a function that is handed addresses or rows, out of a run: what is told at its end is left open here. -/
theorem fun_of_runK (hE : EnvOK E) (hmb : ∀ s, 1000 ≤ s → E.MB s = false) (hm : E.P.follows .mixedOrders = true) {f : FuncId} {fn : Func} {c : Code} {F : List V → Option (V × List (List V))} {k : Nat} (hf : E.P.funcs[f]? = some fn) (hb : fn.body = some c)
    (hcall : ∀ args w, (callFunc f args).run E.P w = .ok (.enter f args) w) (hn : fn.ntmps = n) (hok : okCode E.any n c = true) (hk : k ≤ n) (hn1 : n ≤ 1000)
    (hrun : ∀ us r outs, F us = some (r, outs) → us.length = k ∧ ∃ st, Le st (startP us) ∧ run E c st (retKX E fn.results.toList us r outs)) (hz : ∀ d, E.fz d = false := by intro; rfl) : FunP E f F := by
  refine ⟨hcall, fun m w vs us bs gs hs r outs hF hargs hnd hhnd hj hg => ?_⟩
  obtain ⟨hl, st0, hle, hrun⟩ := hrun us r outs hF
  have hsz : vs.size ≤ n := by have := hargs.len; simp only [Array.length_toList] at this; omega
  obtain ⟨γ, hrel, _, _, h3, h8⟩ := rel_startP hmb hn1 hargs hnd hhnd hj hg hsz
  subst hn
  refine calls_of_wp hf hb (wp_mono (run_sound (hE.x (.inl hz)) hm c _ _ _ _ _ _ hok (hrel.le hle) hrun) ?_)
  intro e a' w' hp
  have done : ∀ st' m' β', ((resM E st' fn.results.toList = some r ∨ resV E st' fn.results.toList = some r) ∧ outsA us st' = some outs) → Rel E fn.ntmps ⟨bs ++ (gs ++ hs), γ, gs, []⟩ m w m' β' st' a' w' → a'.defers = [] ∧ ∃ v, (results fn a'.tmps).run E.P w' = .ok v w' ∧ ∃ v' m', Ending.returned v = .returned v' ∧ Rd m' w' v' r ∧ Bel (bs ++ (gs ++ hs)) w w' ∧ Ext m w m' w' ∧ (∀ blk, blk < w.heap.size → blk ∉ gs → m' blk = m blk) ∧ (∃ o1 o2, outs = o1 ++ o2 ∧ OutsP m' w' bs o1 ∧ OutsM m' w' hs o2) ∧
      ∀ sz es k, r = .sl false sz es (some k) → ∃ g, RowIs m' w' v' g sz es.length ∧ (w.heap.size ≤ g ∨ g ∈ gs) := by
    intro st' m' β' h1' h2'
    obtain ⟨q1, v, q2, q3⟩ := end_startP h3 h8 h1' h2'
    exact ⟨q1, v, q2, v, m', rfl, q3⟩
  cases e with
  | normal => obtain ⟨st', m', β', h1, h2⟩ := hp; exact done st' m' β' h1 h2
  | ret => obtain ⟨st', m', β', h1, h2⟩ := hp; exact done st' m' β' h1 h2
  | exit id => obtain ⟨st', m', β', h1, h2⟩ := hp; exact h1.elim
  | goto l => exact hp.elim
  | panic ch => exact hp.elim
  | outgrown => exact hp.elim
/-- One slot is forgotten. -/
theorem Rel.drop {pm : Pm} {m0 m : Lim} {w0 w : World} {β : Nat → Nat} {st : St} {T T' : Array Value} {D : List Deferred} (h : Rel E n pm m0 w0 m β st { tmps := T', defers := D } w) (hz : T.size = n) (k : Nat) (ht : ∀ i, i ≠ k → T.getD i Go.undef = T'.getD i Go.undef) : Rel E n pm m0 w0 m β ⟨upd st.t k .undef, st.b⟩ { tmps := T, defers := D } w := by
  have hcut : ∀ i u, upd st.t k .undef i = u → u ≠ .undef → i ≠ k ∧ st.t i = u := by
    intro i u hi hu
    by_cases e : i = k
    · subst e; rw [upd_same] at hi; exact absurd hi.symm hu
    · rw [upd_ne _ _ e] at hi; exact ⟨e, hi⟩
  have hBr : ∀ v sz es s, Bear E w β ⟨upd st.t k .undef, st.b⟩ (fun i => T.getD i Go.undef) v (.sl false sz es (some s)) → Bear E w β st (fun i => T'.getD i Go.undef) v (.sl false sz es (some s)) := by
    rintro v sz es s (⟨i, h1, h2⟩ | h2)
    · obtain ⟨h3, h4⟩ := hcut i _ h1 (by intro e; cases e)
      exact .inl ⟨i, h4, by rw [← h2]; exact (ht i h3).symm⟩
    · exact .inr h2
  refine ⟨fun i => ?_, hz, h.boxes, h.inj, h.below, h.par, h.mold, ?_, fun i s sz len cs hi hb => ?_, h.defers, h.glob, h.j, h.maps.to (fun i s ks vs hi => ⟨⟨i, (hcut i _ hi (by intro e; cases e)).2⟩, rfl⟩) (Ext.refl _ _) (fun _ _ _ h _ => ⟨h, rfl⟩)⟩
  · show Rs m w β (T.getD i Go.undef) (upd st.t k .undef i)
    by_cases e : i = k
    · subst e; rw [upd_same]; exact .of (.undef _)
    · rw [upd_ne _ _ e, ht i e]; exact h.tmps i
  · obtain ⟨ρ, hrw⟩ := h.rows
    exact ⟨ρ, fun v sz es s hi => hrw.row _ _ _ _ (hBr _ _ _ _ hi), fun v sz es s v' sz' es' s' hi hi' e => hrw.sep _ _ _ _ _ _ _ _ (hBr _ _ _ _ hi) (hBr _ _ _ _ hi') e, fun v sz es s k cs hi hk' => hrw.box _ _ _ _ _ _ (hBr _ _ _ _ hi) hk'⟩
  · obtain ⟨h3, h4⟩ := hcut i _ hi (by intro e; cases e)
    show OwnAt w β (T.getD i Go.undef) s sz len cs
    rw [ht i h3]
    exact h.own i s sz len cs h4 hb
/-- A contract of a function that leans on a variable that nobody names to it, out of a run. -/
theorem fun_of_runX (hEx : ∀ pm : Pm, ∀ bk, pm.b E.xk = bk → (∀ f lb F, E.X f lb = some F → FunX E bk f lb F) → EnvX E pm) (hmb : ∀ s, 1000 ≤ s → E.MB s = false) (hm : E.P.follows .mixedOrders = true) {f : FuncId} {fn : Func} {c : Code} {F : List V → Option (V × List (List V))} {k bk : Nat} (hf : E.P.funcs[f]? = some fn) (hb : fn.body = some c)
    (hcall : ∀ args w, (callFunc f args).run E.P w = .ok (.enter f args) w) (hn : fn.ntmps = n) (hok : okCode E.any n c = true) (hk : k < n) (hn1 : n ≤ 1000) (hxk : E.xk = 1000 + k) (hX : ∀ f lb F, E.X f lb = some F → FunX E bk f lb F)
    (hrun : ∀ us r outs, F us = some (r, outs) → ∃ cs, us.length = k + 1 ∧ us[k]? = some (.bx cs) ∧ ∃ st, Le st ⟨upd (startP us).t k .undef, (startP us).b⟩ ∧ run E c st (retKX E fn.results.toList us r outs)) : FunX E bk f [] F := by
  intro m w vs us bs gs hs r outs hF hargs hnd hhnd hj hg
  obtain ⟨cs, hl, hcs, st0, hle, hrun⟩ := hrun us r outs hF
  have hlen := hargs.len
  simp only [List.length_append, Array.length_toList, List.length_cons, List.length_nil] at hlen
  have hargs' : ArgsP m w E.K (vs.push (.pointer (some ⟨bk, 0, none⟩))).toList us bs gs hs := by simpa using hargs
  obtain ⟨γ, hrel, _, h1, h3, h8⟩ := rel_startP hmb hn1 hargs' hnd hhnd hj hg (by simp; omega)
  have hγ : γ (1000 + k) = bk := by
    obtain ⟨q1, _, _⟩ := h1 k cs hcs
    have hkv : k = vs.size := by omega
    subst hkv
    simp at q1
    exact q1.symm
  subst hn
  have hE : EnvX E ⟨bs ++ (gs ++ hs), γ, gs, []⟩ := hEx _ bk (by rw [hxk]; exact hγ) hX
  have hrel' := Rel.drop (T := vs ++ Array.replicate (fn.ntmps - vs.size) Go.undef) hrel (by simp; omega) k (fun i hi => by
    have hkv : k = vs.size := by omega
    subst hkv
    simp only [Array.getD_eq_getD_getElem?]
    rcases Nat.lt_or_ge i vs.size with h' | h'
    · rw [Array.getElem?_append_left h', Array.getElem?_append_left (by simp; omega), Array.getElem?_push_lt h', Array.getElem?_eq_getElem h']
    · rw [Array.getElem?_append_right h', Array.getElem?_append_right (by simp; omega)]
      simp only [Array.size_push, Array.getElem?_replicate]
      have : i - vs.size < fn.ntmps - vs.size ↔ i - (vs.size + 1) < fn.ntmps - (vs.size + 1) := by omega
      by_cases hc : i - vs.size < fn.ntmps - vs.size
      · rw [if_pos hc, if_pos (this.1 hc)]
      · rw [if_neg hc, if_neg (fun h => hc (this.2 h))])
  refine .inl ⟨hcall _ _, ?_⟩
  rw [show vs ++ (⟨[]⟩ : Array Value) = vs from Array.append_empty]
  refine calls_of_wp hf hb (wp_mono (run_sound hE hm c _ _ _ _ _ _ hok (hrel'.le hle) hrun) ?_)
  intro e a' w' hp
  have done : ∀ st' m' β', ((resM E st' fn.results.toList = some r ∨ resV E st' fn.results.toList = some r) ∧ outsA us st' = some outs) → Rel E fn.ntmps ⟨bs ++ (gs ++ hs), γ, gs, []⟩ m w m' β' st' a' w' → a'.defers = [] ∧ ∃ v, (results fn a'.tmps).run E.P w' = .ok v w' ∧ ∃ v', Ending.returned v = .returned v' ∧ ∃ m', Rd m' w' v' r ∧ Bel (bs ++ (gs ++ hs)) w w' ∧ Ext m w m' w' ∧ (∀ blk, blk < w.heap.size → blk ∉ gs → m' blk = m blk) ∧ (∃ o1 o2, outs = o1 ++ o2 ∧ OutsP m' w' bs o1 ∧ OutsM m' w' hs o2) ∧
      ∀ sz es k, r = .sl false sz es (some k) → ∃ g, RowIs m' w' v' g sz es.length ∧ (w.heap.size ≤ g ∨ g ∈ gs) := by
    intro st' m' β' h1' h2'
    obtain ⟨q1, v, q2, q3⟩ := end_startP h3 h8 h1' h2'
    exact ⟨q1, v, q2, v, rfl, m', q3⟩
  cases e with
  | normal => obtain ⟨st', m', β', h1, h2⟩ := hp; exact done st' m' β' h1 h2
  | ret => obtain ⟨st', m', β', h1, h2⟩ := hp; exact done st' m' β' h1 h2
  | exit id => obtain ⟨st', m', β', h1, h2⟩ := hp; exact h1.elim
  | goto l => exact hp.elim
  | panic ch => exact hp.elim
  | outgrown => exact hp.elim
/-- A contract of a function that is handed addresses, out of a run. -/
theorem fun_of_runP (hE : EnvOK E) (hmb : ∀ s, 1000 ≤ s → E.MB s = false) (hm : E.P.follows .mixedOrders = true) {f : FuncId} {fn : Func} {c : Code} {F : List V → Option (V × List (List V))} {k : Nat} (hf : E.P.funcs[f]? = some fn) (hb : fn.body = some c)
    (hcall : ∀ args w, (callFunc f args).run E.P w = .ok (.enter f args) w) (hn : fn.ntmps = n) (hok : okCode E.any n c = true) (hk : k ≤ n) (hn1 : n ≤ 1000)
    (hrun : ∀ us r outs, F us = some (r, outs) → us.length = k ∧ run E c (startP us) (retKP E fn.results.toList us r outs)) (hz : ∀ d, E.fz d = false := by intro; rfl) : FunP E f F := by
  refine fun_of_runK hE hmb hm hf hb hcall hn hok hk hn1 (fun us r outs hF => ?_) hz
  obtain ⟨h1, h2⟩ := hrun us r outs hF
  refine ⟨h1, _, Le.refl _, run_mono (fun o st hk => ?_) h2⟩
  cases o with
  | exit id => exact hk
  | normal => exact ⟨.inr hk.1, hk.2⟩
  | ret => exact ⟨.inr hk.1, hk.2⟩
/-- The same, where a row may be handed back; the run may begin at a state that knows less. -/
theorem fun_of_runO (hE : EnvOK E) (hmb : ∀ s, 1000 ≤ s → E.MB s = false) (hm : E.P.follows .mixedOrders = true) {f : FuncId} {fn : Func} {c : Code} {F : List V → Option (V × List (List V))} {k : Nat} (hf : E.P.funcs[f]? = some fn) (hb : fn.body = some c)
    (hcall : ∀ args w, (callFunc f args).run E.P w = .ok (.enter f args) w) (hn : fn.ntmps = n) (hok : okCode E.any n c = true) (hk : k ≤ n) (hn1 : n ≤ 1000)
    (hrun : ∀ us r outs, F us = some (r, outs) → us.length = k ∧ ∃ st, Le st (startP us) ∧ run E c st (retKO E fn.results.toList us r outs)) (hz : ∀ d, E.fz d = false := by intro; rfl) : FunP E f F := by
  refine fun_of_runK hE hmb hm hf hb hcall hn hok hk hn1 (fun us r outs hF => ?_) hz
  obtain ⟨h1, st, h2, h3⟩ := hrun us r outs hF
  refine ⟨h1, st, h2, run_mono (fun o st hk => ?_) h3⟩
  cases o with
  | exit id => exact hk
  | normal => exact ⟨.inl hk.1, hk.2⟩
  | ret => exact ⟨.inl hk.1, hk.2⟩
end
end Go.Proofs.Ytkacldoiimlmcaa
