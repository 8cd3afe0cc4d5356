/- Code: the run over plain data. No program is named here. -/
import Derived.Test.YtkacldoiimlmcaaPfT
namespace Go.Proofs.Ytkacldoiimlmcaa
open Go Go.RowKit

section
variable {E : Env} {n : Nat} {pm : Pm} {m0 m : Lim} {w0 w : World} {β : Nat → Nat} {st : St} {a : Act} {ops : Array Oper}

/-- The same, with no rows that are to be written. -/
def Env.plain (E : Env) : Env := { E with M := fun _ => false, FP := fun _ => none, MB := fun _ => false, X := fun _ _ => none, FM := fun _ => none, lit := fun _ => false, fz := fun _ => false }
theorem EnvX.plain (h : EnvX E pm) : EnvX E.plain pm := ⟨fun f F hF => h.fn f F hF, (fun f F hF => by cases hF), h.keep, h.high, (fun f lb F e => by cases e), .inl (fun _ => rfl), fun f F hF => by cases hF⟩
/-- Marks in variables are forgotten. -/
noncomputable def wipe (E : Env) (st : St) : St := ⟨st.t, wipeB E st.b⟩
theorem wipeB_is {s : Nat} {b : Nat → Option (List V)} {c' : List V} (h : wipeB E b s = some c') : ∃ c, b s = some c ∧ c.length = c'.length ∧ (E.MB s = false ∧ c' = c ∨ E.MB s = true ∧ c' = c.map V.bare) := by
  unfold wipeB at h
  split at h
  · rename_i hM
    obtain ⟨c, hc, rfl⟩ := Option.map_eq_some_iff.1 h
    exact ⟨c, hc, by simp, .inr ⟨hM, rfl⟩⟩
  · rename_i hM
    exact ⟨c', h, rfl, .inl ⟨by simpa using hM, rfl⟩⟩
theorem Rel.wipe {E' : Env} (hP : E'.G = E.G ∧ E'.J = E.J ∧ E'.K = E.K) (h : Rel E' n pm m0 w0 m β st a w) : Rel E n pm m0 w0 m β (Go.Proofs.Ytkacldoiimlmcaa.wipe E st) a w := by
  obtain ⟨hG, hJ, hK⟩ := hP
  refine ⟨h.tmps, h.size, fun s c' hs => ?_, fun s s' c c' h1 h2 he => ?_, h.below, hK ▸ h.par, h.mold, ?_, fun i s sz len c' hi hs => ?_, h.defers, hG ▸ h.glob, hJ ▸ h.j, h.maps⟩
  · obtain ⟨c, hc, hl, hor⟩ := wipeB_is hs
    obtain ⟨⟨hlim, vals, ty, xs, rest, hh, hx, hr⟩, hge⟩ := h.boxes s c hc
    refine ⟨⟨hlim, vals, ty, xs, rest, hh, hx, ?_⟩, hge⟩
    rcases hor with ⟨_, rfl⟩ | ⟨_, rfl⟩
    · exact hr
    · exact hr.bareL
  · obtain ⟨_, hc, _⟩ := wipeB_is h1
    obtain ⟨_, hc', _⟩ := wipeB_is h2
    exact h.inj _ _ _ _ hc hc' he
  · obtain ⟨ρ, hr⟩ := h.rows
    refine ⟨ρ, hr.to (fun v sz es s hi => hi.from (fun i hi => .inl ⟨i, hi, rfl⟩) (fun k c' j h1 h2 h3 h4 => ?_)) (fun _ _ _ _ _ => ⟨rfl, rfl⟩) (fun v sz es s k' c hi hk => ?_)⟩
    · obtain ⟨c, hc, _, hor⟩ := wipeB_is h2
      rcases hor with ⟨hM, _⟩ | ⟨_, rfl⟩
      · rw [hM] at h1; cases h1
      · rw [List.getElem?_map] at h3
        obtain ⟨u0, _, he⟩ := Option.map_eq_some_iff.1 h3
        rw [bare_eq] at he
        cases u0 <;> cases he
    · obtain ⟨_, hc, _⟩ := wipeB_is hk
      exact hr.box _ _ _ _ _ _ hi hc
  · obtain ⟨c, hc, hl, _⟩ := wipeB_is hs
    obtain ⟨hf, rest⟩ := h.own i s sz len c hi hc
    exact ⟨by omega, rest⟩
theorem Rel.plain (h : Rel E n pm m0 w0 m β st a w) : Rel E.plain n pm m0 w0 m β st a w := ⟨h.tmps, h.size, h.boxes, h.inj, h.below, h.par, h.mold, by
  obtain ⟨ρ, hr⟩ := h.rows
  exact ⟨ρ, hr.to (fun v sz es s hi => hi.from (fun i hi => .inl ⟨i, hi, rfl⟩) (fun k c j h1 h2 h3 h4 => by cases h1)) (fun _ _ _ _ _ => ⟨rfl, rfl⟩) hr.box⟩, h.own, h.defers, h.glob, h.j, h.maps⟩
theorem Rel.unplain (h : Rel E.plain n pm m0 w0 m β st a w) : Rel E n pm m0 w0 m β (Go.Proofs.Ytkacldoiimlmcaa.wipe E st) a w := Rel.wipe (E' := E.plain) ⟨rfl, rfl, rfl⟩ h
theorem Rd.nm {v : Value} {u : V} (h : Rd m w v u) : u.nm = none := by cases h <;> rfl

inductive Out where
  | normal | ret | exit (id : Nat)

/-- A loop: what holds at its head, and what grows less. -/
def LoopV (body : St → (Out → St → Prop) → Prop) (st : St) (K : Out → St → Prop) : Prop :=
  ∃ (X : Type) (I : X → St) (μ : X → Nat) (x0 : X), Le (I x0) st ∧
    ∀ x, body (I x) fun o st' => match o with
      | .normal => ∃ x', Le (I x') st' ∧ μ x' < μ x
      | o => K o st'

/-- Behind a region that draws its order. -/
def drawnK (l : List Oper) (K : St → Prop) : St → Prop := fun st => apartF l st.t ∧ K st
theorem drawnK_at (l : List Oper) (K : St → Prop) (st : St) : drawnK l K st = (apartF l st.t ∧ K st) := rfl

/-- All orders lead to a state of which so much is known. -/
def AnyV (E : Env) (ops : List Oper) (st : St) (K : St → Prop) : Prop := (∃ (J : St) (tr : Ord), okTree ops tr [] [] = true ∧ treeK E ops tr st (fun st' => Le J st') ∧ K J) ∨
  ∃ (J : Nat → St) (ps : List (Nat × Nat × Nat)), dagOK ops ps = true ∧ Le (J 0) st ∧ dagK E ops J ps ∧ K (J (2 ^ ops.length - 1))
/-- A region that draws its order: gone through in all orders, or in the text's. -/
def drawK (E : Env) (ops : Array Oper) (st : St) (K : Out → St → Prop) : Bool → Prop
  | true => AnyV E ops.toList st (K .normal)
  | false => freshL ops.toList st.t ∧ aopsK E.plain ops ops.toList (wipe E st) (drawnK ops.toList fun st' => K .normal (wipe E st'))
/-- A run over plain data, and what is to hold at its end. -/
def run (E : Env) : Code → St → (Out → St → Prop) → Prop
  | .skip, st, K => K .normal st
  | .region _ ops false, st, K => aopsK E ops ops.toList st (K .normal)
  | .region id ops true, st, K => drawK E ops st K (E.any id)
  | .seq a b, st, K => run E a st fun o st' => match o with
    | .normal => run E b st' K
    | o => K o st'
  | .cond c a b, st, K => match ev E st c with
    | .x (.bool t) => (t = true → run E a st K) ∧ (t = false → run E b st K)
    | _ => False
  | .block id a, st, K => run E a st fun o st' => match o with
    | .exit id' => if id' = id then K .normal st' else K (.exit id') st'
    | o => K o st'
  | .loop a, st, K => LoopV (run E a) st K
  | .label _, st, K => K .normal st
  | .exit id, st, K => K (.exit id) st
  | .ret, st, K => K .ret st
  | _, _, _ => False

def seqK (E : Env) (b : Code) (K : Out → St → Prop) : Out → St → Prop
  | .normal, st => run E b st K
  | .ret, st => K .ret st
  | .exit id, st => K (.exit id) st
def blockK (id : Nat) (K : Out → St → Prop) : Out → St → Prop
  | .exit id', st => if id' = id then K .normal st else K (.exit id') st
  | .normal, st => K .normal st
  | .ret, st => K .ret st
def condK (E : Env) (a b : Code) (st : St) (K : Out → St → Prop) : V → Prop
  | .x (.bool t) => (t = true → run E a st K) ∧ (t = false → run E b st K)
  | _ => False
section
variable (E : Env) (a b : Code) (st : St) (K : Out → St → Prop) (id : Nat)
theorem run_skip : run E .skip st K = K .normal st := rfl
theorem run_region (ops : List Oper) : run E (.region id ⟨ops⟩ false) st K = aopsK E ⟨ops⟩ ops st (K .normal) := rfl
theorem run_draw (ops : List Oper) : run E (.region id ⟨ops⟩ true) st K = drawK E ⟨ops⟩ st K (E.any id) := rfl
theorem drawK_true (ops : List Oper) : drawK E ⟨ops⟩ st K true = AnyV E ops st (K .normal) := rfl
theorem drawK_false (ops : List Oper) : drawK E ⟨ops⟩ st K false = (freshL ops st.t ∧ aopsK E.plain ⟨ops⟩ ops (wipe E st) (drawnK ops fun st' => K .normal (wipe E st'))) := rfl
theorem drawK_congr (ops : Array Oper) {o o' : Bool} (h : o = o') : drawK E ops st K o = drawK E ops st K o' := by rw [h]
theorem run_seq : run E (.seq a b) st K = run E a st (seqK E b K) := by
  show run E a st _ = _
  congr 1
  funext o st'
  cases o <;> rfl
theorem run_cond (c : Operand) : run E (.cond c a b) st K = condK E a b st K (ev E st c) := by
  show (match ev E st c with | .x (.bool t) => (t = true → run E a st K) ∧ (t = false → run E b st K) | _ => False) = _
  unfold condK
  split <;> simp_all
theorem run_block : run E (.block id a) st K = run E a st (blockK id K) := by
  show run E a st _ = _
  congr 1
  funext o st'
  cases o <;> rfl
theorem run_loop : run E (.loop a) st K = LoopV (run E a) st K := rfl
theorem run_label (l : Nat) : run E (.label l) st K = K .normal st := rfl
theorem run_exit : run E (.exit id) st K = K (.exit id) st := rfl
theorem run_ret : run E .ret st K = K .ret st := rfl
theorem seqK_normal : seqK E b K .normal st = run E b st K := rfl
theorem seqK_ret : seqK E b K .ret st = K .ret st := rfl
theorem seqK_exit : seqK E b K (.exit id) st = K (.exit id) st := rfl
theorem blockK_normal : blockK id K .normal st = K .normal st := rfl
theorem blockK_ret : blockK id K .ret st = K .ret st := rfl
theorem blockK_exit (id' : Nat) : blockK id K (.exit id') st = if id' = id then K .normal st else K (.exit id') st := rfl
theorem condK_open {E : Env} {a b : Code} {st : St} {K : Out → St → Prop} {t : Bool} (h1 : t = true → run E a st K) (h2 : t = false → run E b st K) : condK E a b st K (.x (.bool t)) := ⟨h1, h2⟩
theorem condK_openN {E : Env} {a b : Code} {st : St} {K : Out → St → Prop} {t : Bool} (h1 : t = false → run E a st K) (h2 : t = true → run E b st K) : condK E a b st K (.x (.bool (!t))) := by
  cases t
  · exact ⟨fun _ => h1 rfl, fun h => absurd h (by decide)⟩
  · exact ⟨fun h => absurd h (by decide), fun _ => h2 rfl⟩
theorem seqK_congr {o o' : Out} (h : o = o') : seqK E b K o st = seqK E b K o' st := by rw [h]
theorem blockK_congr {o o' : Out} (h : o = o') : blockK id K o st = blockK id K o' st := by rw [h]
theorem condK_congr {v v' : V} (h : v = v') : condK E a b st K v = condK E a b st K v' := by rw [h]
theorem run_congr {st' : St} (h : st = st') : run E a st K = run E a st' K := by rw [h]
theorem condK_true : condK E a b st K (.x (.bool true)) = run E a st K := by simp [condK]
theorem condK_false : condK E a b st K (.x (.bool false)) = run E b st K := by simp [condK]
theorem condK_bool (t : Bool) : condK E a b st K (.x (.bool t)) = ((t = true → run E a st K) ∧ (t = false → run E b st K)) := rfl
end

def okCode (any : Nat → Bool) (n : Nat) : Code → Bool
  | .region id ops d => dstsIn n ops.toList && (!d || (any id || drawOK ops))
  | .seq a b => okCode any n a && okCode any n b
  | .cond _ a b => okCode any n a && okCode any n b
  | .block _ a => okCode any n a
  | .loop a => okCode any n a
  | _ => true

/-- The end of a run, as the walk has it. -/
def postV (E : Env) (n : Nat) (pm : Pm) (m0 : Lim) (w0 : World) (K : Out → St → Prop) : Exit → Act → World → Prop
  | .normal, a, w => ∃ st m β, K .normal st ∧ Rel E n pm m0 w0 m β st a w
  | .ret, a, w => ∃ st m β, K .ret st ∧ Rel E n pm m0 w0 m β st a w
  | .exit id, a, w => ∃ st m β, K (.exit id) st ∧ Rel E n pm m0 w0 m β st a w
  | _, _, _ => False

theorem least (p : Nat → Prop) : ∀ k, p k → ∃ k, p k ∧ ∀ j, p j → k ≤ j := by
  intro k
  induction k using Nat.strongRecOn with
  | _ k ih =>
    intro hk
    by_cases h : ∃ j, j < k ∧ p j
    · obtain ⟨j, hj, hp⟩ := h
      exact ih j hj hp
    · exact ⟨k, hk, fun j hj => by
        rcases Nat.lt_or_ge j k with h' | h'
        · exact absurd ⟨j, h', hj⟩ h
        · exact h'⟩

/-- All slots that are written are among W. -/
def wrC (W : Nat → Bool) : Code → Bool
  | .region _ ops _ => wrL W ops.toList
  | .seq a b => wrC W a && wrC W b
  | .cond _ a b => wrC W a && wrC W b
  | .block _ a => wrC W a
  | .loop a => wrC W a
  | _ => true
theorem wrC_all : ∀ c : Code, wrC (fun _ => true) c = true := by
  intro c
  induction c with
  | region id ops d =>
    show wrL _ _ = true
    refine List.all_eq_true.2 (fun o _ => ?_)
    cases o.dst <;> rfl
  | seq a b iha ihb => simp only [wrC, iha, ihb, Bool.and_self]
  | cond o a b iha ihb => simp only [wrC, iha, ihb, Bool.and_self]
  | block id a ih => exact ih
  | loop a ih => exact ih
  | _ => rfl
/-- The end of a run, and that the slots outside W are as they were. -/
def postW (W : Nat → Bool) (t : Array Value) (E : Env) (n : Nat) (pm : Pm) (m0 : Lim) (w0 : World) (K : Out → St → Prop) : Exit → Act → World → Prop :=
  fun e a w => postV E n pm m0 w0 K e a w ∧ KeepT W t a.tmps
theorem run_soundW {r : Option Nat} {W : Nat → Bool} (hE : EnvX E pm) (hm : E.P.follows .mixedOrders = true) : ∀ (c : Code) (K : Out → St → Prop) (st : St) (a : Act) (w : World) (m : Lim) (β : Nat → Nat), okCode E.any n c = true → wrC W c = true → Rel E n pm m0 w0 m β st a w → run E c st K → c.wpIn (fen r) 0 E.P (postW W a.tmps E n pm m0 w0 K) a w := by
  intro c
  induction c with
  | skip => intro K st a w m β _ _ h hr; exact wpIn_skip ⟨⟨st, m, β, hr, h⟩, KeepT.refl _ _⟩
  | region id ops d =>
    intro K st a w m β hok hW h hr
    have hW : wrL W ops.toList = true := hW
    have fin : ∀ (a' : Act) (w' : World) (e : Exit), ((match e with | .normal => postV E n pm m0 w0 K .normal a' w' | _ => False) ∧ (e = .normal → KeepT W a.tmps a'.tmps)) → postW W a.tmps E n pm m0 w0 K e a' w' := by
      intro a' w' e he
      cases e <;> first | exact ⟨he.1, he.2 rfl⟩ | exact he.1.elim
    cases d with
    | false =>
      simp only [okCode, Bool.and_eq_true] at hok
      exact wpIn_mono (region_sound (Q := fun e a' w' => match e with | .normal => postV E n pm m0 w0 K .normal a' w' | _ => False) hE hok.1 hW h hr (fun st' a' w' m' β' hk h' => ⟨st', m', β', hk, h'⟩)) (fun e a' w' he => fin a' w' e he)
    | true =>
      simp only [okCode, Bool.and_eq_true, Bool.not_true, Bool.false_or] at hok
      unfold run at hr
      obtain ⟨ops⟩ := ops
      cases ha : E.any id with
      | true =>
        rw [ha] at hr
        rcases hr with ⟨J, tr, h1, h2, h3⟩ | ⟨J, ps, h1, h2, h3, h4⟩
        · exact wpIn_mono (any_sound (Q := fun e a' w' => match e with | .normal => postV E n pm m0 w0 K .normal a' w' | _ => False) hE hm hok.1 hW h1 h h2 (fun st' a' w' m' β' hle h' => ⟨J, m', β', h3, h'.le hle⟩)) (fun e a' w' he => fin a' w' e he)
        · exact wpIn_mono (anyD_sound (Q := fun e a' w' => match e with | .normal => postV E n pm m0 w0 K .normal a' w' | _ => False) hE hm hok.1 hW h1 h2 h h3 (fun a' w' m' β' h' => ⟨_, m', β', h4, h'⟩)) (fun e a' w' he => fin a' w' e he)
      | false =>
        rw [ha] at hr hok
        have hok2 := hok.2
        rw [Bool.false_or] at hok2
        have hw : Rel E n pm m0 w0 m β (Go.Proofs.Ytkacldoiimlmcaa.wipe E st) a w := Rel.wipe (E' := E) ⟨rfl, rfl, rfl⟩ h
        exact wpIn_mono (draw_sound (Q := fun e a' w' => match e with | .normal => postV E n pm m0 w0 K .normal a' w' | _ => False) (E := E.plain) hE.plain ⟨(fun d => by cases d <;> rfl), ⟨fun _ => ⟨rfl, rfl⟩, fun _ _ => rfl⟩, (fun _ => rfl), fun _ => rfl⟩ (fun g => (h.glob g).nm) hm hok2 hok.1 hW hw.plain hr.1 hr.2 (fun st' a' w' m' β' hk h' => ⟨_, m', β', hk, h'.unplain⟩)) (fun e a' w' he => fin a' w' e he)
  | seq x y ihx ihy =>
    intro K st a w m β hok hW h hr
    simp only [okCode, Bool.and_eq_true] at hok
    simp only [wrC, Bool.and_eq_true] at hW
    refine wpIn_seq (wpIn_mono (ihx _ st a w m β hok.1 hW.1 h hr) ?_)
    rintro e a' w' ⟨hp, hk1⟩
    cases e <;> simp only [postV, Exit.then] at hp ⊢ <;> first | exact hp.elim | exact ⟨hp, hk1⟩ | skip
    obtain ⟨st', m', β', hk, h'⟩ := hp
    exact wpIn_mono (ihy K st' a' w' m' β' hok.2 hW.2 h' hk) (fun e a2 w2 h2 => ⟨h2.1, hk1.trans h2.2⟩)
  | cond c x y ihx ihy =>
    intro K st a w m β hok hW h hr
    simp only [okCode, Bool.and_eq_true] at hok
    simp only [wrC, Bool.and_eq_true] at hW
    unfold run at hr
    split at hr
    · rename_i t ht
      have hv := (ht ▸ ev_sound h c).x
      exact wpIn_cond_split hv (fun e => ihx K st a w m β hok.1 hW.1 h (hr.1 e)) (fun e => ihy K st a w m β hok.2 hW.2 h (hr.2 e))
    · exact hr.elim
  | block id x ih =>
    intro K st a w m β hok hW h hr
    refine wpIn_block (wpIn_mono (ih _ st a w m β hok hW h hr) ?_)
    rintro e a' w' ⟨hp, hk1⟩
    cases e <;> simp only [postV, Exit.inBlock] at hp ⊢ <;> first | exact hp.elim | exact ⟨hp, hk1⟩ | skip
    rename_i id'
    by_cases hid : id' = id
    · simp only [hid, if_true] at hp ⊢; exact ⟨hp, hk1⟩
    · simp only [hid, if_false] at hp ⊢; exact ⟨hp, hk1⟩
  | loop x ih =>
    intro K st a w m β hok hW h hr
    obtain ⟨X, I, μ, x0, h0, hround⟩ := hr
    let S : Act → World → Nat → Prop := fun a' w k => (∃ x m β, μ x = k ∧ Rel E n pm m0 w0 m β (I x) a' w) ∧ KeepT W a.tmps a'.tmps
    let ν : Act → World → Nat := fun a w => Classical.epsilon fun k => S a w k ∧ ∀ j, S a w j → k ≤ j
    have hspec : ∀ a w, (∃ k, S a w k) → S a w (ν a w) ∧ ∀ j, S a w j → ν a w ≤ j := fun a w ⟨k, hk⟩ => Classical.epsilon_spec (least _ k hk)
    refine wpIn_loop (fun a w => ∃ k, S a w k) ν ⟨_, ⟨x0, m, β, rfl, h.le h0⟩, KeepT.refl _ _⟩ ?_
    intro a1 w hS
    have hν := (hspec a1 w hS).1
    obtain ⟨⟨x, m1, β1, hx, hrel⟩, hk0⟩ := hν
    refine wpIn_mono (ih _ (I x) a1 w m1 β1 hok hW hrel (hround x)) ?_
    rintro e a' w' ⟨hp, hk1⟩
    have hk1 := hk0.trans hk1
    cases e <;> simp only [postV, Exit.then] at hp ⊢ <;> first | exact hp.elim | exact ⟨hp, hk1⟩ | skip
    obtain ⟨st', m', β', ⟨x', hle, hlt⟩, h'⟩ := hp
    have hS' : S a' w' (μ x') := ⟨⟨x', m', β', rfl, h'.le hle⟩, hk1⟩
    refine ⟨⟨_, hS'⟩, ?_⟩
    have : ν a' w' ≤ μ x' := (hspec a' w' ⟨_, hS'⟩).2 _ hS'
    omega
  | label l => intro K st a w m β _ _ h hr; exact wpIn_label ⟨⟨st, m, β, hr, h⟩, KeepT.refl _ _⟩
  | exit id => intro K st a w m β _ _ h hr; exact wpIn_exit ⟨⟨st, m, β, hr, h⟩, KeepT.refl _ _⟩
  | ret => intro K st a w m β _ _ h hr; exact wpIn_ret ⟨⟨st, m, β, hr, h⟩, KeepT.refl _ _⟩
  | _ => intro K st a w m β _ _ h hr; simp [run] at hr
theorem run_sound (hE : EnvX E pm) (hm : E.P.follows .mixedOrders = true) (c : Code) (K : Out → St → Prop) (st : St) (a : Act) (w : World) (m : Lim) (β : Nat → Nat) (hok : okCode E.any n c = true) (h : Rel E n pm m0 w0 m β st a w) (hr : run E c st K) : c.wp E.P (postV E n pm m0 w0 K) a w :=
  wpIn_wide.1 (wpIn_mono (run_soundW (r := none) (W := fun _ => true) hE hm c K st a w m β hok (wrC_all c) h hr) (fun _ _ _ h => h.1))
end
end Go.Proofs.Ytkacldoiimlmcaa
