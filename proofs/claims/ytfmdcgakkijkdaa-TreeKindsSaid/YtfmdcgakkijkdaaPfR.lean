/- Code: the run over plain data. No program is named here. -/
import Derived.Test.YtfmdcgakkijkdaaPfN
namespace Go.Proofs.Ytfmdcgakkijkdaa
open Go Go.RowKit

section
variable {E : Env} {n : Nat} {pm : Pm} {m0 m : Lim} {w0 w : World} {β : Nat → Nat} {st : St} {a : Act} {ops : Array Oper}

/-- Knows no more. (A nil slice is one, whatever elements it is for.) -/
def V.le (u v : V) : Prop := u = .undef ∨ u = v ∨ ∃ n k n' k', u = .sl true n [] k ∧ v = .sl true n' [] k'
/-- A state that knows less. -/
structure Le (st' st : St) : Prop where
  t : ∀ i, (st'.t i).le (st.t i)
  b : ∀ s cs, st'.b s = some cs → st.b s = some cs
theorem Le.refl (st : St) : Le st st := ⟨fun _ => .inr (.inl rfl), fun _ _ h => h⟩

theorem Rel.le (h : Rel E n pm m0 w0 m β st a w) {st' : St} (hl : Le st' st) : Rel E n pm m0 w0 m β st' a w := by
  refine ⟨fun i => ?_, h.size, fun s cs hs => h.boxes s cs (hl.b s cs hs), fun s s' cs cs' hs hs' => h.inj s s' cs cs' (hl.b _ _ hs) (hl.b _ _ hs'), h.below, h.par, h.mold, ?_, h.own.sub (fun i s sz len cs hi hs => ⟨i, cs, ?_, rfl, hl.b s cs hs, Nat.le_refl _, rfl, fun cur ty hh => ⟨cur, ty, hh, rfl⟩⟩), h.defers, h.glob, h.j⟩
  rotate_right
  · rcases hl.t i with h0 | h0 | ⟨n1, k1, n2, k2, h0, h1⟩
    · rw [h0] at hi; cases hi
    · rw [← h0]; exact hi
    · rw [h0] at hi; cases hi
  · rcases hl.t i with h0 | h0 | ⟨n1, k1, n2, k2, h0, h1⟩
    · rw [h0]; exact .of (.undef _)
    · rw [h0]; exact h.tmps i
    · rw [h0]
      have := h.tmps i
      rw [h1] at this
      rcases (this.rd (by intros; simp)).flat with ⟨_, hxv, _⟩ | ⟨hf, _⟩ | ⟨_, _, _, _, hf, _⟩
      · rw [hxv]; exact .of (.nil _ _)
      · cases hf
      · cases hf
  · obtain ⟨ρ, hr⟩ := h.rows
    refine ⟨ρ, hr.sub (fun i sz es s hi => ⟨i, ?_, rfl⟩) (fun k cs hk => ⟨cs, hl.b k cs hk⟩)⟩
    rcases hl.t i with h0 | h0 | ⟨n1, k1, n2, k2, h0, h1⟩
    · rw [h0] at hi; cases hi
    · rw [← h0]; exact hi
    · rw [h0] at hi; cases hi

/-- The same, with no rows that are to be written. -/
def Env.plain (E : Env) : Env := { E with M := fun _ => false, FP := fun _ => none }
theorem EnvOK.plain (h : EnvOK E) : EnvOK E.plain := ⟨fun f F hF => h.fn f F hF, (fun f F hF => by cases hF), h.keep, h.high⟩
theorem Rel.plain (h : Rel E n pm m0 w0 m β st a w) : Rel E.plain n pm m0 w0 m β st a w := ⟨h.tmps, h.size, h.boxes, h.inj, h.below, h.par, h.mold, h.rows, h.own, h.defers, h.glob, h.j⟩
theorem Rel.unplain (h : Rel E.plain n pm m0 w0 m β st a w) : Rel E n pm m0 w0 m β st a w := ⟨h.tmps, h.size, h.boxes, h.inj, h.below, h.par, h.mold, h.rows, h.own, h.defers, h.glob, h.j⟩
theorem Rd.nm {v : Value} {u : V} (h : Rd m w v u) : u.nm = none := by cases h <;> rfl

inductive Out where
  | normal | ret | exit (id : Nat)

/-- A loop: what holds at its head, and what grows less. -/
def LoopV (body : St → (Out → St → Prop) → Prop) (st : St) (K : Out → St → Prop) : Prop :=
  ∃ (X : Type) (I : X → St) (μ : X → Nat) (x0 : X), Le (I x0) st ∧
    ∀ x, body (I x) fun o st' => match o with
      | .normal => ∃ x', Le (I x') st' ∧ μ x' < μ x
      | o => K o st'

/-- Behind a region that draws its order. -/
def drawnK (l : List Oper) (K : St → Prop) : St → Prop := fun st => apartF l st.t ∧ K st
theorem drawnK_at (l : List Oper) (K : St → Prop) (st : St) : drawnK l K st = (apartF l st.t ∧ K st) := rfl

/-- A run over plain data, and what is to hold at its end. -/
def run (E : Env) : Code → St → (Out → St → Prop) → Prop
  | .skip, st, K => K .normal st
  | .region _ ops false, st, K => aopsK E ops ops.toList st (K .normal)
  | .region _ ops true, st, K => freshL ops.toList st.t ∧ aopsK E.plain ops ops.toList st (drawnK ops.toList (K .normal))
  | .seq a b, st, K => run E a st fun o st' => match o with
    | .normal => run E b st' K
    | o => K o st'
  | .cond c a b, st, K => match ev E st c with
    | .x (.bool t) => (t = true → run E a st K) ∧ (t = false → run E b st K)
    | _ => False
  | .block id a, st, K => run E a st fun o st' => match o with
    | .exit id' => if id' = id then K .normal st' else K (.exit id') st'
    | o => K o st'
  | .loop a, st, K => LoopV (run E a) st K
  | .label _, st, K => K .normal st
  | .exit id, st, K => K (.exit id) st
  | .ret, st, K => K .ret st
  | _, _, _ => False

def seqK (E : Env) (b : Code) (K : Out → St → Prop) : Out → St → Prop
  | .normal, st => run E b st K
  | .ret, st => K .ret st
  | .exit id, st => K (.exit id) st
def blockK (id : Nat) (K : Out → St → Prop) : Out → St → Prop
  | .exit id', st => if id' = id then K .normal st else K (.exit id') st
  | .normal, st => K .normal st
  | .ret, st => K .ret st
def condK (E : Env) (a b : Code) (st : St) (K : Out → St → Prop) : V → Prop
  | .x (.bool t) => (t = true → run E a st K) ∧ (t = false → run E b st K)
  | _ => False
section
variable (E : Env) (a b : Code) (st : St) (K : Out → St → Prop) (id : Nat)
theorem run_skip : run E .skip st K = K .normal st := rfl
theorem run_region (ops : List Oper) : run E (.region id ⟨ops⟩ false) st K = aopsK E ⟨ops⟩ ops st (K .normal) := rfl
theorem run_draw (ops : List Oper) : run E (.region id ⟨ops⟩ true) st K = (freshL ops st.t ∧ aopsK E.plain ⟨ops⟩ ops st (drawnK ops (K .normal))) := rfl
theorem run_seq : run E (.seq a b) st K = run E a st (seqK E b K) := by
  show run E a st _ = _
  congr 1
  funext o st'
  cases o <;> rfl
theorem run_cond (c : Operand) : run E (.cond c a b) st K = condK E a b st K (ev E st c) := by
  show (match ev E st c with | .x (.bool t) => (t = true → run E a st K) ∧ (t = false → run E b st K) | _ => False) = _
  unfold condK
  split <;> simp_all
theorem run_block : run E (.block id a) st K = run E a st (blockK id K) := by
  show run E a st _ = _
  congr 1
  funext o st'
  cases o <;> rfl
theorem run_loop : run E (.loop a) st K = LoopV (run E a) st K := rfl
theorem run_label (l : Nat) : run E (.label l) st K = K .normal st := rfl
theorem run_exit : run E (.exit id) st K = K (.exit id) st := rfl
theorem run_ret : run E .ret st K = K .ret st := rfl
theorem seqK_normal : seqK E b K .normal st = run E b st K := rfl
theorem seqK_ret : seqK E b K .ret st = K .ret st := rfl
theorem seqK_exit : seqK E b K (.exit id) st = K (.exit id) st := rfl
theorem blockK_normal : blockK id K .normal st = K .normal st := rfl
theorem blockK_ret : blockK id K .ret st = K .ret st := rfl
theorem blockK_exit (id' : Nat) : blockK id K (.exit id') st = if id' = id then K .normal st else K (.exit id') st := rfl
theorem condK_open {E : Env} {a b : Code} {st : St} {K : Out → St → Prop} {t : Bool} (h1 : t = true → run E a st K) (h2 : t = false → run E b st K) : condK E a b st K (.x (.bool t)) := ⟨h1, h2⟩
theorem condK_openN {E : Env} {a b : Code} {st : St} {K : Out → St → Prop} {t : Bool} (h1 : t = false → run E a st K) (h2 : t = true → run E b st K) : condK E a b st K (.x (.bool (!t))) := by
  cases t
  · exact ⟨fun _ => h1 rfl, fun h => absurd h (by decide)⟩
  · exact ⟨fun h => absurd h (by decide), fun _ => h2 rfl⟩
theorem seqK_congr {o o' : Out} (h : o = o') : seqK E b K o st = seqK E b K o' st := by rw [h]
theorem blockK_congr {o o' : Out} (h : o = o') : blockK id K o st = blockK id K o' st := by rw [h]
theorem condK_congr {v v' : V} (h : v = v') : condK E a b st K v = condK E a b st K v' := by rw [h]
theorem run_congr {st' : St} (h : st = st') : run E a st K = run E a st' K := by rw [h]
theorem condK_true : condK E a b st K (.x (.bool true)) = run E a st K := by simp [condK]
theorem condK_false : condK E a b st K (.x (.bool false)) = run E b st K := by simp [condK]
theorem condK_bool (t : Bool) : condK E a b st K (.x (.bool t)) = ((t = true → run E a st K) ∧ (t = false → run E b st K)) := rfl
end

def okCode (n : Nat) : Code → Bool
  | .region _ ops d => dstsIn n ops.toList && (!d || drawOK ops)
  | .seq a b => okCode n a && okCode n b
  | .cond _ a b => okCode n a && okCode n b
  | .block _ a => okCode n a
  | .loop a => okCode n a
  | _ => true

/-- The end of a run, as the walk has it. -/
def postV (E : Env) (n : Nat) (pm : Pm) (m0 : Lim) (w0 : World) (K : Out → St → Prop) : Exit → Act → World → Prop
  | .normal, a, w => ∃ st m β, K .normal st ∧ Rel E n pm m0 w0 m β st a w
  | .ret, a, w => ∃ st m β, K .ret st ∧ Rel E n pm m0 w0 m β st a w
  | .exit id, a, w => ∃ st m β, K (.exit id) st ∧ Rel E n pm m0 w0 m β st a w
  | _, _, _ => False

theorem least (p : Nat → Prop) : ∀ k, p k → ∃ k, p k ∧ ∀ j, p j → k ≤ j := by
  intro k
  induction k using Nat.strongRecOn with
  | _ k ih =>
    intro hk
    by_cases h : ∃ j, j < k ∧ p j
    · obtain ⟨j, hj, hp⟩ := h
      exact ih j hj hp
    · exact ⟨k, hk, fun j hj => by
        rcases Nat.lt_or_ge j k with h' | h'
        · exact absurd ⟨j, h', hj⟩ h
        · exact h'⟩

theorem run_sound (hE : EnvOK E) (hm : E.P.follows .mixedOrders = true) : ∀ (c : Code) (K : Out → St → Prop) (st : St) (a : Act) (w : World) (m : Lim) (β : Nat → Nat), okCode n c = true → Rel E n pm m0 w0 m β st a w → run E c st K → c.wp E.P (postV E n pm m0 w0 K) a w := by
  intro c
  induction c with
  | skip => intro K st a w m β _ h hr; exact wp_skip ⟨st, m, β, hr, h⟩
  | region id ops d =>
    intro K st a w m β hok h hr
    cases d with
    | false =>
      simp only [okCode, Bool.and_eq_true] at hok
      exact region_sound hE hok.1 h hr (fun st' a' w' m' β' hk h' => ⟨st', m', β', hk, h'⟩)
    | true =>
      simp only [okCode, Bool.and_eq_true, Bool.not_true, Bool.false_or] at hok
      exact draw_sound (E := E.plain) hE.plain ⟨fun d => by cases d <;> rfl, fun _ => rfl⟩ (fun g => (h.glob g).nm) hm hok.2 hok.1 h.plain hr.1 hr.2 (fun st' a' w' m' β' hk h' => ⟨st', m', β', hk, h'.unplain⟩)
  | seq x y ihx ihy =>
    intro K st a w m β hok h hr
    simp only [okCode, Bool.and_eq_true] at hok
    refine wp_seq (wp_mono (ihx _ st a w m β hok.1 h hr) ?_)
    intro e a' w' hp
    cases e <;> simp only [postV, Exit.then] at hp ⊢ <;> first | exact hp | skip
    obtain ⟨st', m', β', hk, h'⟩ := hp
    exact ihy K st' a' w' m' β' hok.2 h' hk
  | cond c x y ihx ihy =>
    intro K st a w m β hok h hr
    simp only [okCode, Bool.and_eq_true] at hok
    unfold run at hr
    split at hr
    · rename_i t ht
      have hv := (ht ▸ ev_sound h c).x
      exact wp_cond_split hv (fun e => ihx K st a w m β hok.1 h (hr.1 e)) (fun e => ihy K st a w m β hok.2 h (hr.2 e))
    · exact hr.elim
  | block id x ih =>
    intro K st a w m β hok h hr
    refine wp_block (wp_mono (ih _ st a w m β hok h hr) ?_)
    intro e a' w' hp
    cases e <;> simp only [postV, Exit.inBlock] at hp ⊢ <;> first | exact hp | skip
    rename_i id'
    by_cases hid : id' = id
    · simp only [hid, if_true] at hp ⊢; exact hp
    · simp only [hid, if_false] at hp ⊢; exact hp
  | loop x ih =>
    intro K st a w m β hok h hr
    obtain ⟨X, I, μ, x0, h0, hround⟩ := hr
    let S : Act → World → Nat → Prop := fun a w k => ∃ x m β, μ x = k ∧ Rel E n pm m0 w0 m β (I x) a w
    let ν : Act → World → Nat := fun a w => Classical.epsilon fun k => S a w k ∧ ∀ j, S a w j → k ≤ j
    have hspec : ∀ a w, (∃ k, S a w k) → S a w (ν a w) ∧ ∀ j, S a w j → ν a w ≤ j := fun a w ⟨k, hk⟩ => Classical.epsilon_spec (least _ k hk)
    refine wp_loop (fun a w => ∃ k, S a w k) ν ⟨_, x0, m, β, rfl, h.le h0⟩ ?_
    intro a w hS
    have hν := (hspec a w hS).1
    obtain ⟨x, m1, β1, hx, hrel⟩ := hν
    refine wp_mono (ih _ (I x) a w m1 β1 hok hrel (hround x)) ?_
    intro e a' w' hp
    cases e <;> simp only [postV, Exit.then] at hp ⊢ <;> first | exact hp | skip
    obtain ⟨st', m', β', ⟨x', hle, hlt⟩, h'⟩ := hp
    have hS' : S a' w' (μ x') := ⟨x', m', β', rfl, h'.le hle⟩
    refine ⟨⟨_, hS'⟩, ?_⟩
    have : ν a' w' ≤ μ x' := (hspec a' w' ⟨_, hS'⟩).2 _ hS'
    omega
  | label l => intro K st a w m β _ h hr; exact wp_label ⟨st, m, β, hr, h⟩
  | exit id => intro K st a w m β _ h hr; exact wp_exit ⟨st, m, β, hr, h⟩
  | ret => intro K st a w m β _ h hr; exact wp_ret ⟨st, m, β, hr, h⟩
  | _ => intro K st a w m β _ h hr; simp [run] at hr
end
end Go.Proofs.Ytfmdcgakkijkdaa
