/- Regions, code, and whole functions: the run over plain data. No program is named here. -/
import Derived.Test.YtkacldoiimlmcaaPfG
import Derived.Orders
import Derived.OrdersIn
namespace Go.Proofs.Ytkacldoiimlmcaa
open Go Go.RowKit

def guardV (ops : Array Oper) (t : Nat → V) : Option (Nat × Bool) → Option Bool
  | none => some true
  | some (j, want) => match (ops[j]?).bind (·.dst) with
    | some d => match t d with
      | .x (.bool b) => some (b == want)
      | .x (.tuple _) => some false
      | _ => none
    | none => none

noncomputable def aopV (E : Env) (ops : Array Oper) (o : Oper) (st : St) : Option St :=
  match guardV ops st.t o.guard with
  | some b => if b = true then execV E o st else some (st.put o.dst (.x (.tuple #[])))
  | none => none

noncomputable def aopsV (E : Env) (ops : Array Oper) : List Oper → St → Option St
  | [], st => some st
  | o :: l, st => match aopV E ops o st with
    | some st' => aopsV E ops l st'
    | none => none

/-- The same, handed on: a test that is open parts the way. -/
def aopsK (E : Env) (ops : Array Oper) : List Oper → St → (St → Prop) → Prop
  | [], st, K => K st
  | o :: l, st, K => match guardV ops st.t o.guard with
    | some b => (b = true → match execV E o st with
        | some st' => aopsK E ops l st' K
        | none => False) ∧ (b = false → aopsK E ops l (st.put o.dst (.x (.tuple #[]))) K)
    | none => False

/-- What follows, as words of their own: so that nothing of it is opened ahead of its time. -/
def nextK (E : Env) (ops : Array Oper) (l : List Oper) (K : St → Prop) : Option St → Prop
  | some st' => aopsK E ops l st' K
  | none => False
def guardK (E : Env) (ops : Array Oper) (o : Oper) (l : List Oper) (st : St) (K : St → Prop) : Option Bool → Prop
  | some b => (b = true → nextK E ops l K (execV E o st)) ∧ (b = false → aopsK E ops l (st.put o.dst (.x (.tuple #[]))) K)
  | none => False
theorem aopsK_nil (E : Env) (ops : Array Oper) (st : St) (K : St → Prop) : aopsK E ops [] st K = K st := rfl
theorem aopsK_cons (E : Env) (ops : Array Oper) (d : Option Tmp) (op : Op) (ty : TypeId) (pos : String) (af : Array Edge) (l : List Oper) (st : St) (K : St → Prop) :
    aopsK E ops (⟨d, op, ty, pos, af, none⟩ :: l) st K = nextK E ops l K (execV E ⟨d, op, ty, pos, af, none⟩ st) := by
  simp only [aopsK, guardV, true_implies, Bool.true_eq_false, false_implies, and_true]
  cases execV E ⟨d, op, ty, pos, af, none⟩ st <;> rfl
theorem aopsK_guard (E : Env) (ops : Array Oper) (d : Option Tmp) (op : Op) (ty : TypeId) (pos : String) (af : Array Edge) (g : Nat × Bool) (l : List Oper) (st : St) (K : St → Prop) :
    aopsK E ops (⟨d, op, ty, pos, af, some g⟩ :: l) st K = guardK E ops ⟨d, op, ty, pos, af, none⟩ l st K (guardV ops st.t (some g)) := by
  simp only [aopsK, guardK]
  cases guardV ops st.t (some g) with
  | none => rfl
  | some b =>
    simp only
    have : execV E ⟨d, op, ty, pos, af, some g⟩ st = execV E ⟨d, op, ty, pos, af, none⟩ st := rfl
    rw [this]
    cases execV E ⟨d, op, ty, pos, af, none⟩ st <;> rfl
theorem nextK_some (E : Env) (ops : Array Oper) (l : List Oper) (K : St → Prop) (st : St) : nextK E ops l K (some st) = aopsK E ops l st K := rfl
theorem nextK_none (E : Env) (ops : Array Oper) (l : List Oper) (K : St → Prop) : nextK E ops l K none = False := rfl
theorem guardK_some (E : Env) (ops : Array Oper) (o : Oper) (l : List Oper) (st : St) (K : St → Prop) (b : Bool) :
    guardK E ops o l st K (some b) = ((b = true → nextK E ops l K (execV E o st)) ∧ (b = false → aopsK E ops l (st.put o.dst (.x (.tuple #[]))) K)) := rfl
theorem guardK_open {E : Env} {ops : Array Oper} {o : Oper} {l : List Oper} {st : St} {K : St → Prop} {b : Bool} (h1 : b = true → nextK E ops l K (execV E o st)) (h2 : b = false → aopsK E ops l (st.put o.dst (.x (.tuple #[]))) K) : guardK E ops o l st K (some b) := ⟨h1, h2⟩
theorem guardK_openT {E : Env} {ops : Array Oper} {o : Oper} {l : List Oper} {st : St} {K : St → Prop} {b : Bool} (h1 : b = true → nextK E ops l K (execV E o st)) (h2 : b = false → aopsK E ops l (st.put o.dst (.x (.tuple #[]))) K) : guardK E ops o l st K (some (b == true)) := by
  cases b
  · exact ⟨fun h => absurd h (by decide), fun _ => h2 rfl⟩
  · exact ⟨fun _ => h1 rfl, fun h => absurd h (by decide)⟩
theorem guardK_openF {E : Env} {ops : Array Oper} {o : Oper} {l : List Oper} {st : St} {K : St → Prop} {b : Bool} (h1 : b = false → nextK E ops l K (execV E o st)) (h2 : b = true → aopsK E ops l (st.put o.dst (.x (.tuple #[]))) K) : guardK E ops o l st K (some (b == false)) := by
  cases b
  · exact ⟨fun _ => h1 rfl, fun h => absurd h (by decide)⟩
  · exact ⟨fun h => absurd h (by decide), fun _ => h2 rfl⟩
theorem guardK_openN {E : Env} {ops : Array Oper} {o : Oper} {l : List Oper} {st : St} {K : St → Prop} {b : Bool} (h1 : b = false → nextK E ops l K (execV E o st)) (h2 : b = true → aopsK E ops l (st.put o.dst (.x (.tuple #[]))) K) : guardK E ops o l st K (some (!b)) := by
  cases b
  · exact ⟨fun _ => h1 rfl, fun h => absurd h (by decide)⟩
  · exact ⟨fun h => absurd h (by decide), fun _ => h2 rfl⟩
theorem nextK_congr (E : Env) (ops : Array Oper) (l : List Oper) (K : St → Prop) {o o' : Option St} (h : o = o') : nextK E ops l K o = nextK E ops l K o' := by rw [h]
theorem guardK_congr (E : Env) (ops : Array Oper) (o : Oper) (l : List Oper) (st : St) (K : St → Prop) {g g' : Option Bool} (h : g = g') : guardK E ops o l st K g = guardK E ops o l st K g' := by rw [h]
theorem aopsK_congr (E : Env) (ops : Array Oper) (l : List Oper) (K : St → Prop) {st st' : St} (h : st = st') : aopsK E ops l st K = aopsK E ops l st' K := by rw [h]
theorem guardK_true (E : Env) (ops : Array Oper) (o : Oper) (l : List Oper) (st : St) (K : St → Prop) : guardK E ops o l st K (some true) = nextK E ops l K (execV E o st) := by
  simp [guardK]
theorem guardK_false (E : Env) (ops : Array Oper) (o : Oper) (l : List Oper) (st : St) (K : St → Prop) : guardK E ops o l st K (some false) = aopsK E ops l (st.put o.dst (.x (.tuple #[]))) K := by
  simp [guardK]

theorem aopsK_out {E : Env} {ops : Array Oper} {K : St → Prop} : ∀ (l : List Oper) (st : St), aopsK E ops l st K → ∃ st', aopsV E ops l st = some st' ∧ K st'
  | [], st, h => ⟨st, rfl, h⟩
  | o :: l, st, h => by
    unfold aopsK at h
    unfold aopsV aopV
    split at h
    · rename_i b hb
      cases b with
      | true =>
        have h := h.1 rfl
        split at h
        · rename_i st' hst
          simp only [if_true, hst]
          exact aopsK_out l st' h
        · exact h.elim
      | false =>
        have h := h.2 rfl
        simp only [Bool.false_eq_true, if_false]
        exact aopsK_out l _ h
    · exact h.elim

theorem aopsK_in {E : Env} {ops : Array Oper} {K : St → Prop} {st' : St} : ∀ (l : List Oper) (st : St), aopsV E ops l st = some st' → K st' → aopsK E ops l st K
  | [], st, h, hk => by cases h; exact hk
  | o :: l, st, h, hk => by
    simp only [aopsV, aopV] at h
    simp only [aopsK]
    cases hb : guardV ops st.t o.guard with
    | none => rw [hb] at h; cases h
    | some b =>
      rw [hb] at h
      cases b with
      | true =>
        simp only [if_true] at h
        cases he : execV E o st with
        | none => rw [he] at h; cases h
        | some st1 =>
          rw [he] at h
          exact ⟨fun _ => aopsK_in l st1 h hk, (fun e => by cases e)⟩
      | false =>
        simp only [Bool.false_eq_true, if_false] at h
        exact ⟨(fun e => by cases e), fun _ => aopsK_in l _ h hk⟩

section
variable {E : Env} {n : Nat} {pm : Pm} {m0 m : Lim} {w0 w : World} {β : Nat → Nat} {st : St} {a : Act} {ops : Array Oper}

theorem guardV_sound (h : Rel E n pm m0 w0 m β st a w) {o : Oper} {b : Bool} (hg : guardV ops st.t o.guard = some b) : Region.wanted o (yielded ops a.tmps) = b := by
  unfold Region.wanted
  unfold guardV at hg
  split at hg
  · rename_i h0; rw [h0]; cases hg; rfl
  · rename_i j want h0
    rw [h0]
    simp only [yielded]
    split at hg
    · rename_i d hd
      rw [hd]
      simp only [Option.bind_some]
      have ht := h.tmps d
      split at hg
      · rename_i c hc
        cases hg
        have hv := (hc ▸ ht).x
        have hlt : d < a.tmps.size := by
          rcases Nat.lt_or_ge d a.tmps.size with h' | h'
          · exact h'
          · simp [Array.getD_eq_getD_getElem?, Array.getElem?_eq_none h', Go.undef] at hv
        have : a.tmps[d]? = some (.bool c) := by
          rw [← hv, Array.getD_eq_getD_getElem?, Array.getElem?_eq_getElem hlt]; rfl
        rw [this]
        cases c <;> cases want <;> rfl
      · rename_i vs hc
        cases hg
        have hv := (hc ▸ ht).x
        rcases Nat.lt_or_ge d a.tmps.size with h' | h'
        · have : a.tmps[d]? = some (.tuple vs) := by
            rw [← hv, Array.getD_eq_getD_getElem?, Array.getElem?_eq_getElem h']; rfl
          rw [this]
          rfl
        · rw [Array.getElem?_eq_none h']
          rfl
      · simp at hg
    · simp at hg

/-- All slots that are written lie within the frame. -/
def dstsIn (n : Nat) (ops : List Oper) : Bool := ops.all fun o => match o.dst with | some d => decide (d < n) | none => true

theorem dstsIn_of {l : List Oper} (h : dstsIn n l = true) {o : Oper} (ho : o ∈ l) : ∀ k, o.dst = some k → k < n := by
  intro k hk
  have := List.all_eq_true.1 h o ho
  rw [hk] at this
  simpa using this

/-- A fence that asks nothing, of a call's own frame or of a round's. -/
def fen (r : Option Nat) : Fence := { fn := fun _ => True, depth := none, alive := false, round := r }
theorem fen_none : fen none = Fence.wide := rfl
theorem callsIn_fen {r : Option Nat} {k : Nat} {P : Program} {f : FuncId} {args : Array Value} {w : World} {R : Ending → World → Prop} : CallsIn (fen r) k P f args w R ↔ Calls P f args w R :=
  callsIn_wide (n := k)
theorem rowsIn_fen {r : Option Nat} {k : Nat} {P : Program} {row : String} {args : Array Value} {w : World} {R : Value → World → Prop} (h : _root_.Go.Rows P row args w R) : _root_.Go.RowsIn (fen r) k P row args w R :=
  fun c cs _ => let ⟨v, w', q, s⟩ := h c cs; ⟨v, w', q, stepsIn_wide.2 s⟩
theorem oper_in {o : Oper} {P : Program} (r : Option Nat) (hdef : ∀ c, o.op ≠ .defer c) {a : Act} {w : World} {K : Act → World → Prop} {Q : Exit → Act → World → Prop} (h : o.wp P a w K Q) : o.wpIn (fen r) 0 P a w K Q := by
  refine ⟨fun _ _ => trivial, ?_⟩
  rw [Oper.semAt_eq _ _ _ hdef]
  unfold Oper.wp at h
  generalize (execOp a.eval o).run P w = q at h
  cases q with
  | ok x w' =>
    cases x <;> simp only [Oper.upon, Oper.uponIn] at h ⊢ <;>
      first
        | exact h
        | exact h.elim
        | exact ⟨(fun e => by cases e), callsIn_fen.2 h⟩
        | exact ⟨(fun e => by cases e), rowsIn_fen h⟩
  | halt x w' => cases x <;> simp only [Oper.upon, Oper.uponIn] at h ⊢ <;> exact h
theorem execV_nodefer {o : Oper} {st st' : St} (hx : execV E o st = some st') : ∀ c, o.op ≠ .defer c := by
  intro c hc
  unfold execV at hx
  rw [hc] at hx
  split at hx
  · simp [mvOf] at hx
  · simp [execN, hc, valV, pureV] at hx
/-- The slots outside W are as they were. -/
def KeepT (W : Nat → Bool) (t t' : Array Value) : Prop := ∀ i, W i = false → t'.getD i Go.undef = t.getD i Go.undef
theorem KeepT.refl (W : Nat → Bool) (t : Array Value) : KeepT W t t := fun _ _ => rfl
theorem KeepT.trans {W : Nat → Bool} {t t1 t2 : Array Value} (h : KeepT W t t1) (k : KeepT W t1 t2) : KeepT W t t2 := fun i hi => (k i hi).trans (h i hi)
theorem KeepT.put {W : Nat → Bool} {t : Array Value} {a : Act} {d : Option Tmp} {v : Value} (h : KeepT W t a.tmps) (hd : ∀ k, d = some k → W k = true) : KeepT W t (a.put d v).tmps := by
  intro i hi
  rw [← h i hi]
  cases d with
  | none => rfl
  | some k =>
    have : k ≠ i := fun e => by have := hd k rfl; rw [e, hi] at this; cases this
    simp only [Act.put, Array.getD_eq_getD_getElem?, Array.getElem?_setIfInBounds, if_neg this]
theorem uponIn_keep {W : Nat → Bool} {F : Fence} {k : Nat} {P : Program} {o : Oper} {a : Act} {t : Array Value} (hd : ∀ d, o.dst = some d → W d = true) (hk : KeepT W t a.tmps) {K K' : Act → World → Prop} {Q : Exit → Act → World → Prop} {q : Result Next}
    (hK : ∀ a' w', K a' w' → KeepT W t a'.tmps → K' a' w') (h : o.uponIn F k P a K Q q) : o.uponIn F k P a K' (fun e a' w' => Q e a' w' ∧ (e = .normal → KeepT W t a'.tmps)) q := by
  have hput : ∀ (v : Value) (w : World), K (a.put o.dst v) w → K' (a.put o.dst v) w := fun v w h => hK _ _ h (hk.put hd)
  have hend : ∀ (e : Ending) (w : World), (match e with | .returned v => K (a.put o.dst v) w | .panicked chain => Q (.panic chain) a w | .outgrown => LetsOut Q) →
      (match e with | .returned v => K' (a.put o.dst v) w | .panicked chain => Q (.panic chain) a w ∧ ((Exit.panic chain) = .normal → KeepT W t a.tmps) | .outgrown => LetsOut (fun e a' w' => Q e a' w' ∧ (e = .normal → KeepT W t a'.tmps))) := by
    intro e w h
    cases e with
    | returned v => exact hput v w h
    | panicked ch => exact ⟨h, fun e => by cases e⟩
    | outgrown => obtain ⟨a0, w0, h⟩ := h; exact ⟨a0, w0, h, fun e => by cases e⟩
  cases q with
  | ok x w' =>
    cases x <;> simp only [Oper.uponIn] at h ⊢ <;>
      first
        | exact hput _ _ h
        | exact hK _ _ h (KeepT.put (a := { a with defers := _ :: a.defers }) hk hd)
        | exact ⟨h.1, CallsIn.mono h.2 (fun e w'' he => by have := hend e w''; cases e <;> exact this he)⟩
        | exact ⟨h.1, RowsIn.mono h.2 (fun v w'' he => hput v w'' he)⟩
        | exact ⟨h.1, RoundIn.mono h.2 (fun e w'' he => by have := hend e w''; cases e <;> exact this he)⟩
        | exact h.elim
  | halt x w' => cases x <;> simp only [Oper.uponIn] at h ⊢ <;> first | exact h.elim | exact ⟨h, fun e => by cases e⟩
def wrL (W : Nat → Bool) (ops : List Oper) : Bool := ops.all fun o => match o.dst with | some d => W d | none => true
theorem wrL_of {W : Nat → Bool} {l : List Oper} (h : wrL W l = true) {o : Oper} (ho : o ∈ l) : ∀ k, o.dst = some k → W k = true := by
  intro k hk
  have := List.all_eq_true.1 h o ho
  rw [hk] at this
  exact this
theorem wpOpIn_keep {W : Nat → Bool} {F : Fence} {k : Nat} {P : Program} {ops : Array Oper} {i : Nat} {a : Act} {w : World} {t : Array Value} (hd : wrL W ops.toList = true) (hk : KeepT W t a.tmps) {K K' : Act → World → Prop} {Q : Exit → Act → World → Prop}
    (hK : ∀ a' w', K a' w' → KeepT W t a'.tmps → K' a' w') (h : wpOpIn F k P ops Q i K a w) : wpOpIn F k P ops (fun e a' w' => Q e a' w' ∧ (e = .normal → KeepT W t a'.tmps)) i K' a w := by
  unfold wpOpIn at h ⊢
  split
  · rename_i ho
    rw [ho] at h
    exact hK _ _ h hk
  · rename_i o ho
    rw [ho] at h
    have hdo : ∀ d, o.dst = some d → W d = true := wrL_of hd (List.mem_of_getElem? (by simpa using ho : ops.toList[i]? = some o))
    simp only at h ⊢
    split
    · rename_i hw
      rw [if_pos hw] at h
      exact ⟨h.1, uponIn_keep hdo hk hK h.2⟩
    · rename_i hw
      rw [if_neg hw] at h
      exact ⟨h.1, hK _ _ h.2 (hk.put hdo)⟩
theorem wpOpsIn_keep {W : Nat → Bool} {F : Fence} {k : Nat} {P : Program} {ops : Array Oper} {t : Array Value} (hd : wrL W ops.toList = true) {Q : Exit → Act → World → Prop} : ∀ (is : List Nat) (a : Act) (w : World), KeepT W t a.tmps →
    wpOpsIn F k P ops Q is a w → wpOpsIn F k P ops (fun e a' w' => Q e a' w' ∧ (e = .normal → KeepT W t a'.tmps)) is a w
  | [], a, w, hk, h => ⟨h, fun _ => hk⟩
  | i :: is, a, w, hk, h => by
    rw [wpOpsIn_cons] at h ⊢
    exact wpOpIn_keep hd hk (fun a' w' h1 h2 => wpOpsIn_keep hd is a' w' h2 h1) h
theorem wpAnyIn_keep {W : Nat → Bool} {F : Fence} {k : Nat} {P : Program} {md : Region.Mode} {ops : Array Oper} {t : Array Value} (hd : wrL W ops.toList = true) {Q : Exit → Act → World → Prop} : ∀ (fuel : Nat) (listed : Array Bool) (a : Act) (w : World), KeepT W t a.tmps →
    wpAnyIn F k P md ops Q fuel listed a w → wpAnyIn F k P md ops (fun e a' w' => Q e a' w' ∧ (e = .normal → KeepT W t a'.tmps)) fuel listed a w
  | 0, _, _, _, hk, h => ⟨h.1, h.2, fun _ => hk⟩
  | fuel + 1, _, _, _, hk, h => ⟨fun hr => ⟨h.1 hr, fun _ => hk⟩, fun i hi => wpOpIn_keep hd hk (fun a' w' h1 h2 => wpAnyIn_keep hd fuel _ a' w' h2 h1) (h.2 i hi)⟩

theorem aopV_sound {r : Option Nat} (hE : EnvX E pm) (h : Rel E n pm m0 w0 m β st a w) {i : Nat} {o : Oper} (hi : ops[i]? = some o) (hd : ∀ k, o.dst = some k → k < n) {st' : St} (hx : aopV E ops o st = some st')
    {K : Act → World → Prop} {Q : Exit → Act → World → Prop} (hK : ∀ a' w' m' β', Rel E n pm m0 w0 m' β' st' a' w' → K a' w') : wpOpIn (fen r) 0 E.P ops Q i K a w := by
  unfold wpOpIn
  rw [hi]
  simp only
  unfold aopV at hx
  split at hx
  · rename_i b hb
    have hw := guardV_sound h hb
    rw [hw]
    cases b with
    | true =>
      simp only [if_true] at hx ⊢
      exact oper_in r (execV_nodefer hx) (execV_sound hE h hx hd hK)
    | false =>
      simp only [Bool.false_eq_true, if_false] at hx ⊢
      cases hx
      exact ⟨fun _ _ => trivial, hK _ _ _ _ (h.put hd (.of (.x _)) (fun _ _ _ e => by cases e) (fun _ _ _ _ e => by cases e) (fun _ _ _ e => by cases e))⟩
  · simp at hx

theorem aopsV_sound {r : Option Nat} (hE : EnvX E pm) {Q : Exit → Act → World → Prop} {st' : St} (hQ : ∀ a' w' m' β', Rel E n pm m0 w0 m' β' st' a' w' → Q .normal a' w') :
    ∀ (l : List Oper) (is : List Nat) (st : St) (a : Act) (w : World) (m : Lim) (β : Nat → Nat), (∀ j : Nat, (is[j]?).bind (ops[·]?) = l[j]?) → is.length = l.length → dstsIn n l = true →
      Rel E n pm m0 w0 m β st a w → aopsV E ops l st = some st' → wpOpsIn (fen r) 0 E.P ops Q is a w
  | [], is, st, a, w, m, β, _, hl, _, h, hx => by
    cases is with
    | nil => cases hx; exact hQ _ _ _ _ h
    | cons i is => simp at hl
  | o :: l, is, st, a, w, m, β, hj, hl, hd, h, hx => by
    cases is with
    | nil => simp at hl
    | cons i is =>
      rw [wpOpsIn_cons]
      unfold aopsV at hx
      split at hx
      · rename_i st1 h1
        have hi : ops[i]? = some o := by simpa using hj 0
        refine aopV_sound hE h hi (dstsIn_of hd (by simp)) h1 (fun a' w' m' β' h' => ?_)
        refine aopsV_sound hE hQ l is st1 a' w' m' β' (fun j => by simpa using hj (j + 1)) (by simpa using hl) ?_ h' hx
        simp only [dstsIn, List.all_cons, Bool.and_eq_true] at hd
        exact hd.2
      · simp at hx

theorem region_sound {r : Option Nat} {W : Nat → Bool} (hE : EnvX E pm) {id : Nat} {Q : Exit → Act → World → Prop} {K : St → Prop} (hd : dstsIn n ops.toList = true) (hW : wrL W ops.toList = true) (h : Rel E n pm m0 w0 m β st a w) (hx : aopsK E ops ops.toList st K)
    (hQ : ∀ st' a' w' m' β', K st' → Rel E n pm m0 w0 m' β' st' a' w' → Q .normal a' w') : (Code.region id ops false).wpIn (fen r) 0 E.P (fun e a' w' => Q e a' w' ∧ (e = .normal → KeepT W a.tmps a'.tmps)) a w := by
  obtain ⟨st', hs, hk⟩ := aopsK_out _ _ hx
  refine wpIn_region (wpOpsIn_keep hW _ a w (KeepT.refl _ _) (aopsV_sound hE (fun a' w' m' β' h' => hQ st' a' w' m' β' hk h') ops.toList _ st a w m β (fun j => ?_) (by simp) hd h hs))
  rcases Nat.lt_or_ge j ops.size with h' | h'
  · rw [List.getElem?_range h']; simp
  · rw [List.getElem?_eq_none (by simpa using h')]; simp [h']

end
end Go.Proofs.Ytkacldoiimlmcaa
