/- Whole functions: a run over plain data gives the function's contract. No program is named here. -/
import Derived.Test.YtfmdcgakkijkdaaGreatDoorPfR
namespace Go.Proofs.YtfmdcgakkijkdaaGreatDoor
open Go Go.RowKit

noncomputable def resOne (E : Env) (st : St) : ResultVar → Option V
  | .tmp t => if (st.t t).notPtr = true then some (st.t t).bare else none
  | .cell a t => loadV E st.b t (st.t a)
noncomputable def resL (E : Env) (st : St) : List ResultVar → Option (List V)
  | [] => some []
  | r :: rs => match resOne E st r, resL E st rs with
    | some u, some us => some (u :: us)
    | _, _ => none
noncomputable def resV (E : Env) (st : St) (rs : List ResultVar) : Option V :=
  match resL E st rs with
  | some [u] => some u
  | some us => some (.tup us)
  | none => none

def retK (E : Env) (rs : List ResultVar) (r : V) : Out → St → Prop
  | .exit _, _ => False
  | _, st => resV E st rs = some r

/-- The variables that were handed in, at the end. -/
def outsOf : Nat → List V → (Nat → Option (List V)) → Option (List (List V))
  | _, [], _ => some []
  | k, .bx _ :: us, b => match b (1000 + k), outsOf (k + 1) us b with
    | some c, some l => some (c :: l)
    | _, _ => none
  | k, _ :: us, b => outsOf (k + 1) us b
def retKP (E : Env) (rs : List ResultVar) (us : List V) (r : V) (outs : List (List V)) : Out → St → Prop
  | .exit _, _ => False
  | _, st => resV E st rs = some r ∧ outsOf 0 us st.b = some outs
def slotP (k : Nat) : V → V
  | .bx _ => .ptr (1000 + k) 0
  | u => u
def startTP : Nat → List V → (Nat → V)
  | _, [] => fun _ => .undef
  | k, u :: us => upd (startTP (k + 1) us) k (slotP k u)
def startBP : Nat → List V → (Nat → Option (List V))
  | _, [] => fun _ => none
  | k, .bx cs :: us => upd (startBP (k + 1) us) (1000 + k) (some cs)
  | k, _ :: us => startBP (k + 1) us
def startP (us : List V) : St := ⟨startTP 0 us, startBP 0 us⟩

def startT : Nat → List V → (Nat → V)
  | _, [] => fun _ => .undef
  | k, u :: us => upd (startT (k + 1) us) k u
def start (us : List V) : St := ⟨startT 0 us, fun _ => none⟩

section
variable {E : Env} {n : Nat} {pm : Pm} {m0 m : Lim} {w0 w : World} {β : Nat → Nat} {st : St} {a : Act}

theorem startT_lt : ∀ (us : List V) (k i : Nat), i < k → startT k us i = .undef
  | [], _, _, _ => rfl
  | u :: us, k, i, h => by
    simp only [startT]
    rw [upd_ne _ _ (by omega)]
    exact startT_lt us (k + 1) i (by omega)
theorem startT_at : ∀ (us : List V) (k i : Nat), startT k us (k + i) = (us[i]?).getD .undef
  | [], _, _ => by simp [startT]
  | u :: us, k, 0 => by simp [startT, upd_same]
  | u :: us, k, i + 1 => by
    simp only [startT]
    rw [upd_ne _ _ (by omega)]
    have := startT_at us (k + 1) i
    rw [show k + (i + 1) = k + 1 + i from by omega, this]
    simp

theorem resOne_sound (h : Rel E n pm m0 w0 m β st a w) {r : ResultVar} {u : V} (hr : resOne E st r = some u) :
    ∃ v, (match r with | .tmp t => pure (a.tmps.getD t Go.undef) | .cell x t => do loadVar t (← asAddr (a.tmps.getD x Go.undef)) : Sem Value).run E.P w = .ok v w ∧ Rd m w v u := by
  cases r with
  | tmp t =>
    simp only [resOne] at hr
    split at hr
    · rename_i hn
      cases hr
      exact ⟨_, rfl, ((h.tmps t).rd (by generalize st.t t = u at hn; cases u <;> first | rfl | (simp [V.notPtr] at hn))).bare⟩
    · simp at hr
  | cell x t =>
    simp only [resOne] at hr
    obtain ⟨v, hrun, hv⟩ := loadV_sound h (h.tmps x) hr
    refine ⟨v, ?_, hv⟩
    show (do loadVar t (← asAddr (a.tmps.getD x Go.undef)) : Sem Value).run E.P w = .ok v w
    generalize a.tmps.getD x Go.undef = p at hrun
    cases p with
    | pointer q => cases q with
      | none => simp [Instr.loadAt, Instr.sureAddr] at hrun
      | some q => simpa [Instr.loadAt, Instr.sureAddr, asAddr] using hrun
    | _ => simp [Instr.loadAt, Instr.sureAddr] at hrun

theorem resL_sound (h : Rel E n pm m0 w0 m β st a w) : ∀ (rs : List ResultVar) (us : List V), resL E st rs = some us →
    ∃ vs, (rs.mapM fun | .tmp t => pure (a.tmps.getD t Go.undef) | .cell x t => do loadVar t (← asAddr (a.tmps.getD x Go.undef)) : Sem (List Value)).run E.P w = .ok vs w ∧ RdL m w vs us
  | [], us, hr => by simp [resL] at hr; subst hr; exact ⟨[], by simp, trivial⟩
  | r :: rs, us, hr => by
    unfold resL at hr
    split at hr
    · rename_i u us' h1 h2
      cases hr
      obtain ⟨v, hv, hd⟩ := resOne_sound h h1
      obtain ⟨vs, hvs, hds⟩ := resL_sound h rs us' h2
      refine ⟨v :: vs, ?_, hd, hds⟩
      rw [List.mapM_cons, Sem.run_bind, hv]
      simp only [Result.andThen_ok]
      rw [Sem.run_bind, hvs]
      rfl
    · simp at hr

theorem resV_sound (h : Rel E n pm m0 w0 m β st a w) {fn : Func} {u : V} (hr : resV E st fn.results.toList = some u) : ∃ v, (results fn a.tmps).run E.P w = .ok v w ∧ Rd m w v u := by
  unfold resV at hr
  have key : ∀ us, resL E st fn.results.toList = some us → ∃ vs, (results fn a.tmps).run E.P w = .ok (if h : vs.toArray.size = 1 then vs.toArray[0] else .tuple vs.toArray) w ∧ RdL m w vs us := by
    intro us hus
    obtain ⟨vs, hvs, hd⟩ := resL_sound h _ _ hus
    refine ⟨vs, ?_, hd⟩
    unfold results
    rw [Array.mapM_eq_mapM_toList, Sem.run_bind, Sem.run_map]
    exact Eq.trans (congrArg (fun r : Result (List Value) => (r.andThen fun a w' => Result.ok a.toArray w').andThen fun a w' => (pure (if h : a.size = 1 then a[0] else Value.tuple a) : Sem Value).run E.P w') hvs) rfl
  split at hr
  · rename_i u' hu
    cases hr
    obtain ⟨vs, hrun, hd⟩ := key _ hu
    match vs, hd with
    | [v], hd => exact ⟨v, by rw [hrun]; rfl, hd.1⟩
    | _ :: _ :: _, hd => exact hd.2.elim
  · rename_i us hne hu
    cases hr
    obtain ⟨vs, hrun, hd⟩ := key _ hu
    refine ⟨.tuple vs.toArray, ?_, Rd.tup_iff.2 ⟨_, rfl, by simpa using hd⟩⟩
    rw [hrun, dif_neg]
    intro h1
    have := hd.length
    simp at h1
    obtain ⟨u, rfl⟩ := List.length_eq_one_iff.1 (show us.length = 1 by omega)
    exact hne u rfl
  · simp at hr

/-- A contract out of a run. -/
theorem fun_of_run (hE : EnvOK E) (hm : E.P.follows .mixedOrders = true) {f : FuncId} {fn : Func} {c : Code} {F : List V → Option V} {k : Nat} (hf : E.P.funcs[f]? = some fn) (hb : fn.body = some c)
    (hcall : ∀ args w, (callFunc f args).run E.P w = .ok (.enter f args) w) (hn : fn.ntmps = n) (hok : okCode E.any n c = true) (hk : k ≤ n) (hn1 : n ≤ 1000)
    (hrun : ∀ us r, F us = some r → us.all V.dat = true → us.length = k ∧ run E c (start us) (retK E fn.results.toList r)) : Fun E f F := by
  refine ⟨hcall, fun m w vs us r hF hdat hr hj hg => ?_⟩
  obtain ⟨hl, hrun⟩ := hrun us r hF hdat
  have hlen := hr.length
  simp only [Array.length_toList] at hlen
  have hnot : ∀ i sz es s, (start us).t i = .sl false sz es (some s) → False := by
    intro i sz es s hi
    have hs : (start us).t i = (us[i]?).getD .undef := by
      have := startT_at us 0 i
      simpa [start] using this
    rw [hs] at hi
    cases hu : us[i]? with
    | none => rw [hu] at hi; cases hi
    | some u =>
      rw [hu] at hi
      simp only [Option.getD_some] at hi
      have := List.all_eq_true.1 hdat u (List.mem_of_getElem? hu)
      rw [hi] at this
      simp [V.dat] at this
  have hnob : ∀ v sz es s, Bear E w id (start us) (fun i => (vs ++ Array.replicate (fn.ntmps - vs.size) Go.undef).getD i Go.undef) v (.sl false sz es (some s)) → False := by
    intro v sz es s hi
    rcases hi with ⟨i, h1, _⟩ | ⟨k', c, j, _, h2, _⟩
    · exact hnot i sz es s h1
    · simp [start] at h2
  have hrel : Rel E n ⟨[], id⟩ m w m id (start us) { tmps := vs ++ Array.replicate (fn.ntmps - vs.size) Go.undef, defers := [] } w := by
    refine ⟨fun i => ?_, by simp; omega, fun s cs hs => by simp [start] at hs, fun s s' cs cs' hs => by simp [start] at hs, Bel.refl _ _, ⟨hn1, fun _ _ => rfl, fun x hx => by cases hx⟩, fun _ _ => rfl, ⟨id, fun v sz es s hi => (hnob v sz es s hi).elim, fun v sz es s v' sz' es' s' hi => (hnob v sz es s hi).elim, fun v sz es s k cs hi => (hnob v sz es s hi).elim⟩, fun i s sz len cs hi hs => by simp [start] at hs, rfl, hg, hj⟩
    have hs : (start us).t i = (us[i]?).getD .undef := by
      have := startT_at us 0 i
      simpa [start] using this
    rw [hs]
    rcases Nat.lt_or_ge i us.length with h' | h'
    · have hu : us[i]? = some us[i] := List.getElem?_eq_getElem h'
      have hv : vs.toList[i]? = some (vs[i]'(by omega)) := by simp
      rw [hu]
      have h1 : (vs ++ Array.replicate (fn.ntmps - vs.size) Go.undef).getD i Go.undef = vs[i]'(by omega) := by
        rw [Array.getD_eq_getD_getElem?, Array.getElem?_append_left (by omega), Array.getElem?_eq_getElem (by omega)]; rfl
      simp only [h1, Option.getD_some]
      exact .of (hr.get i _ _ hv hu)
    · rw [List.getElem?_eq_none h']
      exact .of (.undef _)
  refine calls_of_wp hf hb (wp_mono (run_sound hE hm c _ _ _ _ _ _ hok hrel hrun) ?_)
  intro e a' w' hp
  have done : ∀ st' m' β', resV E st' fn.results.toList = some r → Rel E n ⟨[], id⟩ m w m' β' st' a' w' → a'.defers = [] ∧ ∃ v, (results fn a'.tmps).run E.P w' = .ok v w' ∧ ∃ v' m', Ending.returned v = .returned v' ∧ Rd m' w' v' r ∧ Below w.heap.size w w' ∧ ∀ blk, blk < w.heap.size → m' blk = m blk := by
    intro st' m' β' h1 h2
    obtain ⟨v, hv, hd⟩ := resV_sound h2 h1
    exact ⟨h2.defers, v, hv, v, m', rfl, hd, h2.below.below, h2.mold⟩
  cases e with
  | normal => obtain ⟨st', m', β', h1, h2⟩ := hp; exact done st' m' β' h1 h2
  | ret => obtain ⟨st', m', β', h1, h2⟩ := hp; exact done st' m' β' h1 h2
  | exit id => obtain ⟨st', m', β', h1, h2⟩ := hp; exact h1.elim
  | goto l => exact hp.elim
  | panic ch => exact hp.elim
  | outgrown => exact hp.elim

def V.isBx : V → Bool
  | .bx _ => true
  | _ => false
theorem slotP_sl {k : Nat} {u : V} {nl : Bool} {sz : Nat} {es : List V} {q : Option Nat} (h : slotP k u = .sl nl sz es q) : u = .sl nl sz es q := by
  cases u <;> first | exact h | cases h
theorem slotP_row {k : Nat} {u : V} {s z l : Nat} (h : slotP k u = .row s z l) : u = .row s z l := by
  cases u <;> first | exact h | cases h
theorem startTP_at : ∀ (us : List V) (k i : Nat), startTP k us (k + i) = match us[i]? with | some u => slotP (k + i) u | none => .undef
  | [], _, _ => by simp [startTP]
  | u :: us, k, 0 => by simp [startTP, upd_same]
  | u :: us, k, i + 1 => by
    simp only [startTP]
    rw [upd_ne _ _ (by omega)]
    have := startTP_at us (k + 1) i
    rw [show k + (i + 1) = k + 1 + i from by omega, this]
    simp
theorem startBP_no {k : Nat} {u : V} {us : List V} (h : u.isBx = false) : startBP k (u :: us) = startBP (k + 1) us := by
  cases u <;> first | rfl | cases h
theorem outsOf_no {k : Nat} {u : V} {us : List V} {b : Nat → Option (List V)} (h : u.isBx = false) : outsOf k (u :: us) b = outsOf (k + 1) us b := by
  cases u <;> first | rfl | cases h
theorem startBP_at : ∀ (us : List V) (k s : Nat) (cs : List V), startBP k us s = some cs → ∃ i : Nat, s = 1000 + (k + i) ∧ us[i]? = some (.bx cs)
  | [], _, _, _, h => by simp [startBP] at h
  | u :: us, k, s, cs, h => by
    cases hu : u.isBx with
    | false =>
      rw [startBP_no hu] at h
      obtain ⟨i, h1, h2⟩ := startBP_at us (k + 1) s cs h
      exact ⟨i + 1, by omega, by simpa using h2⟩
    | true =>
      cases u <;> first | cases hu | skip
      rename_i cs0
      simp only [startBP, upd_at] at h
      split at h
      · rename_i e; cases h; exact ⟨0, by omega, rfl⟩
      · obtain ⟨i, h1, h2⟩ := startBP_at us (k + 1) s cs h
        exact ⟨i + 1, by omega, by simpa using h2⟩
/-- Where the variables that were handed in lie. -/
theorem ArgsP.place {K : Nat} {vs : List Value} {us : List V} {bs : List Nat} (h : ArgsP m w K vs us bs) : bs.Nodup → ∀ k : Nat, ∃ γ : Nat → Nat,
    (∀ (i : Nat) (cs : List V), us[i]? = some (.bx cs) → vs[i]? = some (.pointer (some ⟨γ (1000 + (k + i)), 0, none⟩)) ∧ BoxAt m w (γ (1000 + (k + i))) cs ∧ γ (1000 + (k + i)) ∈ bs) ∧
    (∀ (i : Nat) (u : V), us[i]? = some u → u.isBx = false → ∃ v, vs[i]? = some v ∧ Rd m w v u ∧ u.dat = true) ∧
    (∀ (b' : Nat → Option (List V)) (outs : List (List V)), outsOf k us b' = some outs → ∀ (m' : Lim) (w' : World), (∀ (i : Nat) (cs c' : List V), us[i]? = some (.bx cs) → b' (1000 + (k + i)) = some c' → BoxAt m' w' (γ (1000 + (k + i))) c') → OutsP m' w' bs outs) ∧
    (∀ (i j : Nat) (cs cs' : List V), us[i]? = some (.bx cs) → us[j]? = some (.bx cs') → γ (1000 + (k + i)) = γ (1000 + (k + j)) → i = j) ∧
    ∀ x ∈ bs, K ≤ x := by
  induction h with
  | nil =>
    intro _ k
    exact ⟨id, fun i cs h => by simp at h, fun i u h => by simp at h, fun b' outs h m' w' _ => by cases h; trivial, fun i j cs cs' h => by simp at h, fun x hx => by cases hx⟩
  | bx hb hK h ih =>
    rename_i b cs0 vs us bs
    intro hn k
    rw [List.nodup_cons] at hn
    obtain ⟨γ, h1, h2, h3, h4, h5⟩ := ih hn.2 (k + 1)
    have hne : ∀ i : Nat, 1000 + (k + 1 + i) ≠ 1000 + k := fun i => by omega
    have hsh : ∀ i : Nat, 1000 + (k + (i + 1)) = 1000 + (k + 1 + i) := fun i => by omega
    refine ⟨upd γ (1000 + k) b, fun i cs hi => ?_, fun i u hi hu => ?_, fun b' outs ho m' w' hbx => ?_, fun i j cs cs' hi hj he => ?_, fun x hx => ?_⟩
    · cases i with
      | zero =>
        simp at hi
        subst hi
        rw [show 1000 + (k + 0) = 1000 + k from by omega, upd_same]
        exact ⟨rfl, hb, by simp⟩
      | succ i =>
        rw [hsh i, upd_ne _ _ (hne i)]
        obtain ⟨q1, q2, q3⟩ := h1 i cs (by simpa using hi)
        exact ⟨by simpa using q1, q2, by simp [q3]⟩
    · cases i with
      | zero => simp at hi; subst hi; cases hu
      | succ i => obtain ⟨v, q1, q2⟩ := h2 i u (by simpa using hi) hu; exact ⟨v, by simpa using q1, q2⟩
    · simp only [outsOf] at ho
      split at ho
      · rename_i c l hc hl
        cases ho
        refine ⟨?_, h3 _ _ hl m' w' (fun i cs c' hi hs => ?_)⟩
        · have := hbx 0 cs0 c rfl hc
          rwa [show 1000 + (k + 0) = 1000 + k from by omega, upd_same] at this
        · have := hbx (i + 1) cs c' (by simpa using hi) (by rw [hsh i]; exact hs)
          rwa [hsh i, upd_ne _ _ (hne i)] at this
      · cases ho
    · cases i with
      | zero => cases j with
        | zero => rfl
        | succ j =>
          rw [show 1000 + (k + 0) = 1000 + k from by omega, hsh j, upd_same, upd_ne _ _ (hne j)] at he
          obtain ⟨_, _, q3⟩ := h1 j cs' (by simpa using hj)
          exact absurd (he ▸ q3) hn.1
      | succ i => cases j with
        | zero =>
          rw [show 1000 + (k + 0) = 1000 + k from by omega, hsh i, upd_same, upd_ne _ _ (hne i)] at he
          obtain ⟨_, _, q3⟩ := h1 i cs (by simpa using hi)
          exact absurd (he ▸ q3) hn.1
        | succ j =>
          rw [hsh i, hsh j, upd_ne _ _ (hne i), upd_ne _ _ (hne j)] at he
          rw [h4 i j cs cs' (by simpa using hi) (by simpa using hj) he]
    · rcases List.mem_cons.1 hx with rfl | hx
      · exact hK
      · exact h5 x hx
  | dat hr hd h ih =>
    rename_i v u vs us bs
    intro hn k
    have hu0 : u.isBx = false := by cases u <;> first | rfl | (simp [V.dat] at hd)
    obtain ⟨γ, h1, h2, h3, h4, h5⟩ := ih hn (k + 1)
    have hsh : ∀ i : Nat, 1000 + (k + (i + 1)) = 1000 + (k + 1 + i) := fun i => by omega
    refine ⟨γ, fun i cs hi => ?_, fun i u' hi hu => ?_, fun b' outs ho m' w' hbx => ?_, fun i j cs cs' hi hj he => ?_, h5⟩
    · cases i with
      | zero => simp at hi; subst hi; cases hu0
      | succ i =>
        rw [hsh i]
        obtain ⟨q1, q2⟩ := h1 i cs (by simpa using hi)
        exact ⟨by simpa using q1, q2⟩
    · cases i with
      | zero => simp at hi; subst hi; exact ⟨v, rfl, hr, hd⟩
      | succ i => obtain ⟨v, q1, q2⟩ := h2 i u' (by simpa using hi) hu; exact ⟨v, by simpa using q1, q2⟩
    · rw [outsOf_no hu0] at ho
      exact h3 b' outs ho m' w' (fun i cs c' hi hs => by
        have := hbx (i + 1) cs c' (by simpa using hi) (by rw [hsh i]; exact hs)
        rwa [hsh i] at this)
    · cases i with
      | zero => simp at hi; subst hi; cases hu0
      | succ i => cases j with
        | zero => simp at hj; subst hj; cases hu0
        | succ j =>
          rw [hsh i, hsh j] at he
          rw [h4 i j cs cs' (by simpa using hi) (by simpa using hj) he]
/-- A contract of a function that is handed addresses, out of a run. -/
theorem fun_of_runP (hE : EnvOK E) (hmb : ∀ s, 1000 ≤ s → E.MB s = false) (hm : E.P.follows .mixedOrders = true) {f : FuncId} {fn : Func} {c : Code} {F : List V → Option (V × List (List V))} {k : Nat} (hf : E.P.funcs[f]? = some fn) (hb : fn.body = some c)
    (hcall : ∀ args w, (callFunc f args).run E.P w = .ok (.enter f args) w) (hn : fn.ntmps = n) (hok : okCode E.any n c = true) (hk : k ≤ n) (hn1 : n ≤ 1000)
    (hrun : ∀ us r outs, F us = some (r, outs) → us.length = k ∧ run E c (startP us) (retKP E fn.results.toList us r outs)) : FunP E f F := by
  refine ⟨hcall, fun m w vs us bs r outs hF hargs hnd hj hg => ?_⟩
  obtain ⟨hl, hrun⟩ := hrun us r outs hF
  obtain ⟨γ, h1, h2, h3, h4, h5⟩ := hargs.place hnd 0
  simp only [Nat.zero_add] at h1 h2 h3 h4
  have hlen : ∀ {m : Lim} {w : World} {K : Nat} {vs : List Value} {us : List V} {bs : List Nat}, ArgsP m w K vs us bs → vs.length = us.length := by
    intro m w K vs us bs h
    induction h with
    | nil => rfl
    | bx _ _ _ ih => simp [ih]
    | dat _ _ _ ih => simp [ih]
  have hlen := hlen hargs
  simp only [Array.length_toList] at hlen
  have hst : ∀ i, (startP us).t i = match us[i]? with | some u => slotP i u | none => .undef := fun i => by
    have := startTP_at us 0 i
    simpa [startP] using this
  have hsb : ∀ s cs, (startP us).b s = some cs → ∃ i : Nat, s = 1000 + i ∧ us[i]? = some (.bx cs) := fun s cs h => by
    obtain ⟨i, q1, q2⟩ := startBP_at us 0 s cs h
    exact ⟨i, by omega, q2⟩
  have hdat : ∀ (i : Nat) (u : V), us[i]? = some u → u.isBx = false → u.dat = true := fun i u hi hu => by obtain ⟨v, _, _, hd⟩ := h2 i u hi hu; exact hd
  have hnot : ∀ i sz es s, (startP us).t i = .sl false sz es (some s) → False := by
    intro i sz es s hi
    rw [hst i] at hi
    split at hi
    · rename_i u hu
      have e := slotP_sl hi
      subst e
      have hd := hdat i _ hu rfl
      cases hd
    · cases hi
  have hnob : ∀ v sz es s, Bear E w γ (startP us) (fun i => (vs ++ Array.replicate (fn.ntmps - vs.size) Go.undef).getD i Go.undef) v (.sl false sz es (some s)) → False := by
    intro v sz es s hi
    rcases hi with ⟨i, h1, _⟩ | ⟨k', c, j, h1, h2, _⟩
    · exact hnot i sz es s h1
    · obtain ⟨i, rfl, _⟩ := hsb k' c h2
      rw [hmb _ (by omega)] at h1
      cases h1
  have hrel : Rel E n ⟨bs, γ⟩ m w m γ (startP us) { tmps := vs ++ Array.replicate (fn.ntmps - vs.size) Go.undef, defers := [] } w := by
    refine ⟨fun i => ?_, by simp; omega, fun s cs hs => ?_, fun s s' cs cs' hs hs' he => ?_, Bel.refl _ _, ⟨hn1, fun _ _ => rfl, h5⟩, fun _ _ => rfl, ⟨id, fun v sz es s hi => (hnob v sz es s hi).elim, fun v sz es s v' sz' es' s' hi => (hnob v sz es s hi).elim, fun v sz es s k cs hi => (hnob v sz es s hi).elim⟩, fun i s sz len cs hi hs => ?_, rfl, hg, hj⟩
    · rw [hst i]
      rcases Nat.lt_or_ge i us.length with h' | h'
      · have hu : us[i]? = some us[i] := List.getElem?_eq_getElem h'
        have hv : vs.toList[i]? = some (vs[i]'(by omega)) := by simp
        have hv1 : (vs ++ Array.replicate (fn.ntmps - vs.size) Go.undef).getD i Go.undef = vs[i]'(by omega) := by
          rw [Array.getD_eq_getD_getElem?, Array.getElem?_append_left (by omega), Array.getElem?_eq_getElem (by omega)]; rfl
        simp only [hv1, hu]
        cases hbx : (us[i]).isBx with
        | true =>
          have hu2 : ∃ cs, us[i] = .bx cs := by
            generalize us[i] = u at hbx
            cases u <;> first | exact ⟨_, rfl⟩ | cases hbx
          obtain ⟨cs, hu2⟩ := hu2
          rw [hu2] at hu ⊢
          obtain ⟨q1, _, _⟩ := h1 i cs hu
          rw [hv] at q1
          rw [Option.some.inj q1]
          exact .ofPtr _ _
        | false =>
          obtain ⟨v, q1, q2, q3⟩ := h2 i _ hu hbx
          rw [hv] at q1
          cases q1
          have : slotP i us[i] = us[i] := by
            generalize us[i] = u at hbx
            cases u <;> first | rfl | cases hbx
          rw [this]
          exact .of q2
      · rw [List.getElem?_eq_none h']
        exact .of (.undef _)
    · obtain ⟨i, rfl, hi⟩ := hsb s cs hs
      obtain ⟨_, q2, q3⟩ := h1 i cs hi
      exact ⟨q2, .inr q3⟩
    · obtain ⟨i, rfl, hi⟩ := hsb s cs hs
      obtain ⟨j, rfl, hj'⟩ := hsb s' cs' hs'
      rw [h4 i j cs cs' hi hj' he]
    · rw [hst i] at hi
      split at hi
      · rename_i u hu
        have e := slotP_row hi
        subst e
        have hd := hdat i _ hu rfl
        cases hd
      · cases hi
  refine calls_of_wp hf hb (wp_mono (run_sound hE hm c _ _ _ _ _ _ hok hrel hrun) ?_)
  intro e a' w' hp
  have done : ∀ st' m' β', (resV E st' fn.results.toList = some r ∧ outsOf 0 us st'.b = some outs) → Rel E n ⟨bs, γ⟩ m w m' β' st' a' w' → a'.defers = [] ∧ ∃ v, (results fn a'.tmps).run E.P w' = .ok v w' ∧ ∃ v' m', Ending.returned v = .returned v' ∧ Rd m' w' v' r ∧ Bel bs w w' ∧ (∀ blk, blk < w.heap.size → m' blk = m blk) ∧ OutsP m' w' bs outs := by
    intro st' m' β' h1' h2'
    obtain ⟨v, hv, hd⟩ := resV_sound h2' h1'.1
    refine ⟨h2'.defers, v, hv, v, m', rfl, hd, h2'.below, h2'.mold, h3 _ _ h1'.2 m' w' (fun i cs c' hi hs => ?_)⟩
    have := (h2'.boxes _ _ hs).1
    rwa [h2'.par.2.1 _ (by omega)] at this
  cases e with
  | normal => obtain ⟨st', m', β', h1, h2⟩ := hp; exact done st' m' β' h1 h2
  | ret => obtain ⟨st', m', β', h1, h2⟩ := hp; exact done st' m' β' h1 h2
  | exit id => obtain ⟨st', m', β', h1, h2⟩ := hp; exact h1.elim
  | goto l => exact hp.elim
  | panic ch => exact hp.elim
  | outgrown => exact hp.elim
end
end Go.Proofs.YtfmdcgakkijkdaaGreatDoor
