/- Regions, code, and whole functions: the run over plain data. No program is named here. -/
import Derived.Test.YtfmdcgakkijkdaaGreatDoorPfG
import Derived.Orders
namespace Go.Proofs.YtfmdcgakkijkdaaGreatDoor
open Go Go.RowKit

def guardV (ops : Array Oper) (t : Nat → V) : Option (Nat × Bool) → Option Bool
  | none => some true
  | some (j, want) => match (ops[j]?).bind (·.dst) with
    | some d => match t d with
      | .x (.bool b) => some (b == want)
      | .x (.tuple _) => some false
      | _ => none
    | none => none

noncomputable def aopV (E : Env) (ops : Array Oper) (o : Oper) (st : St) : Option St :=
  match guardV ops st.t o.guard with
  | some b => if b = true then execV E o st else some (st.put o.dst (.x (.tuple #[])))
  | none => none

noncomputable def aopsV (E : Env) (ops : Array Oper) : List Oper → St → Option St
  | [], st => some st
  | o :: l, st => match aopV E ops o st with
    | some st' => aopsV E ops l st'
    | none => none

/-- The same, handed on: a test that is open parts the way. -/
def aopsK (E : Env) (ops : Array Oper) : List Oper → St → (St → Prop) → Prop
  | [], st, K => K st
  | o :: l, st, K => match guardV ops st.t o.guard with
    | some b => (b = true → match execV E o st with
        | some st' => aopsK E ops l st' K
        | none => False) ∧ (b = false → aopsK E ops l (st.put o.dst (.x (.tuple #[]))) K)
    | none => False

/-- What follows, as words of their own: so that nothing of it is opened ahead of its time. -/
def nextK (E : Env) (ops : Array Oper) (l : List Oper) (K : St → Prop) : Option St → Prop
  | some st' => aopsK E ops l st' K
  | none => False
def guardK (E : Env) (ops : Array Oper) (o : Oper) (l : List Oper) (st : St) (K : St → Prop) : Option Bool → Prop
  | some b => (b = true → nextK E ops l K (execV E o st)) ∧ (b = false → aopsK E ops l (st.put o.dst (.x (.tuple #[]))) K)
  | none => False
theorem aopsK_nil (E : Env) (ops : Array Oper) (st : St) (K : St → Prop) : aopsK E ops [] st K = K st := rfl
theorem aopsK_cons (E : Env) (ops : Array Oper) (d : Option Tmp) (op : Op) (ty : TypeId) (pos : String) (af : Array Edge) (l : List Oper) (st : St) (K : St → Prop) :
    aopsK E ops (⟨d, op, ty, pos, af, none⟩ :: l) st K = nextK E ops l K (execV E ⟨d, op, ty, pos, af, none⟩ st) := by
  simp only [aopsK, guardV, true_implies, Bool.true_eq_false, false_implies, and_true]
  cases execV E ⟨d, op, ty, pos, af, none⟩ st <;> rfl
theorem aopsK_guard (E : Env) (ops : Array Oper) (d : Option Tmp) (op : Op) (ty : TypeId) (pos : String) (af : Array Edge) (g : Nat × Bool) (l : List Oper) (st : St) (K : St → Prop) :
    aopsK E ops (⟨d, op, ty, pos, af, some g⟩ :: l) st K = guardK E ops ⟨d, op, ty, pos, af, none⟩ l st K (guardV ops st.t (some g)) := by
  simp only [aopsK, guardK]
  cases guardV ops st.t (some g) with
  | none => rfl
  | some b =>
    simp only
    have : execV E ⟨d, op, ty, pos, af, some g⟩ st = execV E ⟨d, op, ty, pos, af, none⟩ st := rfl
    rw [this]
    cases execV E ⟨d, op, ty, pos, af, none⟩ st <;> rfl
theorem nextK_some (E : Env) (ops : Array Oper) (l : List Oper) (K : St → Prop) (st : St) : nextK E ops l K (some st) = aopsK E ops l st K := rfl
theorem nextK_none (E : Env) (ops : Array Oper) (l : List Oper) (K : St → Prop) : nextK E ops l K none = False := rfl
theorem guardK_some (E : Env) (ops : Array Oper) (o : Oper) (l : List Oper) (st : St) (K : St → Prop) (b : Bool) :
    guardK E ops o l st K (some b) = ((b = true → nextK E ops l K (execV E o st)) ∧ (b = false → aopsK E ops l (st.put o.dst (.x (.tuple #[]))) K)) := rfl
theorem guardK_open {E : Env} {ops : Array Oper} {o : Oper} {l : List Oper} {st : St} {K : St → Prop} {b : Bool} (h1 : b = true → nextK E ops l K (execV E o st)) (h2 : b = false → aopsK E ops l (st.put o.dst (.x (.tuple #[]))) K) : guardK E ops o l st K (some b) := ⟨h1, h2⟩
theorem guardK_openT {E : Env} {ops : Array Oper} {o : Oper} {l : List Oper} {st : St} {K : St → Prop} {b : Bool} (h1 : b = true → nextK E ops l K (execV E o st)) (h2 : b = false → aopsK E ops l (st.put o.dst (.x (.tuple #[]))) K) : guardK E ops o l st K (some (b == true)) := by
  cases b
  · exact ⟨fun h => absurd h (by decide), fun _ => h2 rfl⟩
  · exact ⟨fun _ => h1 rfl, fun h => absurd h (by decide)⟩
theorem guardK_openF {E : Env} {ops : Array Oper} {o : Oper} {l : List Oper} {st : St} {K : St → Prop} {b : Bool} (h1 : b = false → nextK E ops l K (execV E o st)) (h2 : b = true → aopsK E ops l (st.put o.dst (.x (.tuple #[]))) K) : guardK E ops o l st K (some (b == false)) := by
  cases b
  · exact ⟨fun _ => h1 rfl, fun h => absurd h (by decide)⟩
  · exact ⟨fun h => absurd h (by decide), fun _ => h2 rfl⟩
theorem guardK_openN {E : Env} {ops : Array Oper} {o : Oper} {l : List Oper} {st : St} {K : St → Prop} {b : Bool} (h1 : b = false → nextK E ops l K (execV E o st)) (h2 : b = true → aopsK E ops l (st.put o.dst (.x (.tuple #[]))) K) : guardK E ops o l st K (some (!b)) := by
  cases b
  · exact ⟨fun _ => h1 rfl, fun h => absurd h (by decide)⟩
  · exact ⟨fun h => absurd h (by decide), fun _ => h2 rfl⟩
theorem nextK_congr (E : Env) (ops : Array Oper) (l : List Oper) (K : St → Prop) {o o' : Option St} (h : o = o') : nextK E ops l K o = nextK E ops l K o' := by rw [h]
theorem guardK_congr (E : Env) (ops : Array Oper) (o : Oper) (l : List Oper) (st : St) (K : St → Prop) {g g' : Option Bool} (h : g = g') : guardK E ops o l st K g = guardK E ops o l st K g' := by rw [h]
theorem aopsK_congr (E : Env) (ops : Array Oper) (l : List Oper) (K : St → Prop) {st st' : St} (h : st = st') : aopsK E ops l st K = aopsK E ops l st' K := by rw [h]
theorem guardK_true (E : Env) (ops : Array Oper) (o : Oper) (l : List Oper) (st : St) (K : St → Prop) : guardK E ops o l st K (some true) = nextK E ops l K (execV E o st) := by
  simp [guardK]
theorem guardK_false (E : Env) (ops : Array Oper) (o : Oper) (l : List Oper) (st : St) (K : St → Prop) : guardK E ops o l st K (some false) = aopsK E ops l (st.put o.dst (.x (.tuple #[]))) K := by
  simp [guardK]

theorem aopsK_out {E : Env} {ops : Array Oper} {K : St → Prop} : ∀ (l : List Oper) (st : St), aopsK E ops l st K → ∃ st', aopsV E ops l st = some st' ∧ K st'
  | [], st, h => ⟨st, rfl, h⟩
  | o :: l, st, h => by
    unfold aopsK at h
    unfold aopsV aopV
    split at h
    · rename_i b hb
      cases b with
      | true =>
        have h := h.1 rfl
        split at h
        · rename_i st' hst
          simp only [if_true, hst]
          exact aopsK_out l st' h
        · exact h.elim
      | false =>
        have h := h.2 rfl
        simp only [Bool.false_eq_true, if_false]
        exact aopsK_out l _ h
    · exact h.elim

theorem aopsK_in {E : Env} {ops : Array Oper} {K : St → Prop} {st' : St} : ∀ (l : List Oper) (st : St), aopsV E ops l st = some st' → K st' → aopsK E ops l st K
  | [], st, h, hk => by cases h; exact hk
  | o :: l, st, h, hk => by
    simp only [aopsV, aopV] at h
    simp only [aopsK]
    cases hb : guardV ops st.t o.guard with
    | none => rw [hb] at h; cases h
    | some b =>
      rw [hb] at h
      cases b with
      | true =>
        simp only [if_true] at h
        cases he : execV E o st with
        | none => rw [he] at h; cases h
        | some st1 =>
          rw [he] at h
          exact ⟨fun _ => aopsK_in l st1 h hk, (fun e => by cases e)⟩
      | false =>
        simp only [Bool.false_eq_true, if_false] at h
        exact ⟨(fun e => by cases e), fun _ => aopsK_in l _ h hk⟩

section
variable {E : Env} {n : Nat} {pm : Pm} {m0 m : Lim} {w0 w : World} {β : Nat → Nat} {st : St} {a : Act} {ops : Array Oper}

theorem guardV_sound (h : Rel E n pm m0 w0 m β st a w) {o : Oper} {b : Bool} (hg : guardV ops st.t o.guard = some b) : Region.wanted o (yielded ops a.tmps) = b := by
  unfold Region.wanted
  unfold guardV at hg
  split at hg
  · rename_i h0; rw [h0]; cases hg; rfl
  · rename_i j want h0
    rw [h0]
    simp only [yielded]
    split at hg
    · rename_i d hd
      rw [hd]
      simp only [Option.bind_some]
      have ht := h.tmps d
      split at hg
      · rename_i c hc
        cases hg
        have hv := (hc ▸ ht).x
        have hlt : d < a.tmps.size := by
          rcases Nat.lt_or_ge d a.tmps.size with h' | h'
          · exact h'
          · simp [Array.getD_eq_getD_getElem?, Array.getElem?_eq_none h', Go.undef] at hv
        have : a.tmps[d]? = some (.bool c) := by
          rw [← hv, Array.getD_eq_getD_getElem?, Array.getElem?_eq_getElem hlt]; rfl
        rw [this]
        cases c <;> cases want <;> rfl
      · rename_i vs hc
        cases hg
        have hv := (hc ▸ ht).x
        rcases Nat.lt_or_ge d a.tmps.size with h' | h'
        · have : a.tmps[d]? = some (.tuple vs) := by
            rw [← hv, Array.getD_eq_getD_getElem?, Array.getElem?_eq_getElem h']; rfl
          rw [this]
          rfl
        · rw [Array.getElem?_eq_none h']
          rfl
      · simp at hg
    · simp at hg

/-- All slots that are written lie within the frame. -/
def dstsIn (n : Nat) (ops : List Oper) : Bool := ops.all fun o => match o.dst with | some d => decide (d < n) | none => true

theorem dstsIn_of {l : List Oper} (h : dstsIn n l = true) {o : Oper} (ho : o ∈ l) : ∀ k, o.dst = some k → k < n := by
  intro k hk
  have := List.all_eq_true.1 h o ho
  rw [hk] at this
  simpa using this

theorem aopV_sound (hE : EnvOK E) (h : Rel E n pm m0 w0 m β st a w) {i : Nat} {o : Oper} (hi : ops[i]? = some o) (hd : ∀ k, o.dst = some k → k < n) {st' : St} (hx : aopV E ops o st = some st')
    {K : Act → World → Prop} {Q : Exit → Act → World → Prop} (hK : ∀ a' w' m' β', Rel E n pm m0 w0 m' β' st' a' w' → K a' w') : wpOp E.P ops Q i K a w := by
  unfold wpOp
  rw [hi]
  simp only
  unfold aopV at hx
  split at hx
  · rename_i b hb
    have hw := guardV_sound h hb
    rw [hw]
    cases b with
    | true =>
      simp only [if_true] at hx ⊢
      exact .inl (execV_sound hE h hx hd hK)
    | false =>
      simp only [Bool.false_eq_true, if_false] at hx ⊢
      cases hx
      exact hK _ _ _ _ (h.put hd (.of (.x _)) (fun _ _ _ e => by cases e) (fun _ _ _ _ e => by cases e))
  · simp at hx

theorem aopsV_sound (hE : EnvOK E) {Q : Exit → Act → World → Prop} {st' : St} (hQ : ∀ a' w' m' β', Rel E n pm m0 w0 m' β' st' a' w' → Q .normal a' w') :
    ∀ (l : List Oper) (is : List Nat) (st : St) (a : Act) (w : World) (m : Lim) (β : Nat → Nat), (∀ j : Nat, (is[j]?).bind (ops[·]?) = l[j]?) → is.length = l.length → dstsIn n l = true →
      Rel E n pm m0 w0 m β st a w → aopsV E ops l st = some st' → wpOps E.P ops Q is a w
  | [], is, st, a, w, m, β, _, hl, _, h, hx => by
    cases is with
    | nil => cases hx; exact hQ _ _ _ _ h
    | cons i is => simp at hl
  | o :: l, is, st, a, w, m, β, hj, hl, hd, h, hx => by
    cases is with
    | nil => simp at hl
    | cons i is =>
      rw [wpOps_cons]
      unfold aopsV at hx
      split at hx
      · rename_i st1 h1
        have hi : ops[i]? = some o := by simpa using hj 0
        refine aopV_sound hE h hi (dstsIn_of hd (by simp)) h1 (fun a' w' m' β' h' => ?_)
        refine aopsV_sound hE hQ l is st1 a' w' m' β' (fun j => by simpa using hj (j + 1)) (by simpa using hl) ?_ h' hx
        simp only [dstsIn, List.all_cons, Bool.and_eq_true] at hd
        exact hd.2
      · simp at hx

theorem region_sound (hE : EnvOK E) {id : Nat} {Q : Exit → Act → World → Prop} {K : St → Prop} (hd : dstsIn n ops.toList = true) (h : Rel E n pm m0 w0 m β st a w) (hx : aopsK E ops ops.toList st K)
    (hQ : ∀ st' a' w' m' β', K st' → Rel E n pm m0 w0 m' β' st' a' w' → Q .normal a' w') : (Code.region id ops false).wp E.P Q a w := by
  obtain ⟨st', hs, hk⟩ := aopsK_out _ _ hx
  refine wp_region (aopsV_sound hE (fun a' w' m' β' h' => hQ st' a' w' m' β' hk h') ops.toList _ st a w m β (fun j => ?_) (by simp) hd h hs)
  rcases Nat.lt_or_ge j ops.size with h' | h'
  · rw [List.getElem?_range h']; simp
  · rw [List.getElem?_eq_none (by simpa using h')]; simp [h']

end
end Go.Proofs.YtfmdcgakkijkdaaGreatDoor
