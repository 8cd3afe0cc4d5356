/- Contracts by what the arguments mean; contracts of functions that call themselves. No program is named here. -/
import Derived.Test.YtkacldoiimlmcaaPlain
namespace Go.Proofs.Ytkacldoiimlmcaa
open Go Go.RowKit

open Classical in
/-- What is done with arguments that mean something: 'enc' tells how that is laid out. -/
noncomputable def FE {α ρ : Type} (enc : α → List V) (G : α → Option ρ) : List V → Option ρ := fun us => if h : ∃ a, enc a = us then G (Classical.choose h) else none
theorem FE_at {α ρ : Type} {enc : α → List V} (inj : ∀ a b, enc a = enc b → a = b) (G : α → Option ρ) (a : α) : FE enc G (enc a) = G a := by
  unfold FE
  have h : ∃ b, enc b = enc a := ⟨a, rfl⟩
  rw [dif_pos h, inj _ _ (Classical.choose_spec h)]
theorem FE_out {α ρ : Type} {enc : α → List V} {G : α → Option ρ} {us : List V} {r : ρ} (h : FE enc G us = some r) : ∃ a, us = enc a ∧ G a = some r := by
  unfold FE at h
  split at h
  · rename_i hx
    exact ⟨_, (Classical.choose_spec hx).symm, h⟩
  · cases h
theorem ite_some {ρ : Type} {p : Prop} [Decidable p] {o : Option ρ} {r : ρ} (h : (if p then o else none) = some r) : p ∧ o = some r := by
  by_cases hp : p
  · rw [if_pos hp] at h; exact ⟨hp, h⟩
  · rw [if_neg hp] at h; cases h
/-- A function that calls itself: with something growing less. -/
theorem fun_rec {α : Type} {f : FuncId} {enc : α → List V} {G : α → Option V} (μ : α → Nat) (hcall : ∀ args w, (callFunc f args).run (envOf []).P w = .ok (.enter f args) w)
    (h : ∀ n, FunV f (FE enc fun a => if μ a < n then G a else none) → FunV f (FE enc fun a => if μ a < n + 1 then G a else none)) : FunV f (FE enc G) := by
  have key : ∀ n, FunV f (FE enc fun a => if μ a < n then G a else none) := by
    intro n
    induction n with
    | zero =>
      refine ⟨hcall, fun m w vs us r hF => ?_⟩
      obtain ⟨a, _, ha⟩ := FE_out hF
      rw [if_neg (Nat.not_lt_zero _)] at ha
      cases ha
    | succ n ih => exact h n ih
  refine ⟨hcall, fun m w vs us r hF => ?_⟩
  have hx : ∃ a, enc a = us := by obtain ⟨a, ha, _⟩ := FE_out hF; exact ⟨a, ha.symm⟩
  refine (key (μ (Classical.choose hx) + 1)).2 m w vs us r ?_
  unfold FE at hF ⊢
  rw [dif_pos hx] at hF ⊢
  show (if μ (Classical.choose hx) < μ (Classical.choose hx) + 1 then G (Classical.choose hx) else none) = some r
  rw [if_pos (Nat.lt_succ_self _)]
  exact hF

/-- The same, of a function that is handed addresses. -/
theorem fun_recP {α : Type} {f : FuncId} {enc : α → List V} {G : α → Option (V × List (List V))} (μ : α → Nat) (hcall : ∀ args w, (callFunc f args).run (envOf []).P w = .ok (.enter f args) w)
    (h : ∀ n, FunPV f (FE enc fun a => if μ a < n then G a else none) → FunPV f (FE enc fun a => if μ a < n + 1 then G a else none)) : FunPV f (FE enc G) := by
  have key : ∀ n, FunPV f (FE enc fun a => if μ a < n then G a else none) := by
    intro n
    induction n with
    | zero =>
      refine ⟨hcall, fun m w vs us bs gs hs r outs hF => ?_⟩
      obtain ⟨a, _, ha⟩ := FE_out hF
      rw [if_neg (Nat.not_lt_zero _)] at ha
      cases ha
    | succ n ih => exact h n ih
  refine ⟨hcall, fun m w vs us bs gs hs r outs hF => ?_⟩
  have hx : ∃ a, enc a = us := by obtain ⟨a, ha, _⟩ := FE_out hF; exact ⟨a, ha.symm⟩
  refine (key (μ (Classical.choose hx) + 1)).2 m w vs us bs gs hs r outs ?_
  unfold FE at hF ⊢
  rw [dif_pos hx] at hF ⊢
  show (if μ (Classical.choose hx) < μ (Classical.choose hx) + 1 then G (Classical.choose hx) else none) = some (r, outs)
  rw [if_pos (Nat.lt_succ_self _)]
  exact hF

/-- A row that is to be written grows by one. (Give it to simp with all its conditions shown.) -/
theorem growR_acc {E : Env} {el n by' : Nat} {z : List V} (h1 : szB E.P el = some n) (hby : byB E.P el = some by') (hz : zeroB E.P el = some z) (h4 : n ≠ 0) (h5 : z.length = n)
    {v : V} (hc : v.cells.all V.cell = true) {len : Nat} (hb : (len + 1) * by' ≤ 140737488355328) (hl : len + 1 ≤ 9223372036854775807) (st : St) (d s : Nat) (nl : Bool) (t' : Option Nat) (hMB : E.MB d = false := by rfl) :
    growV E st (some d) el (.row s n len) (.sl nl n [v] t') = match st.b s with
      | some cs => some ⟨upd (kill s (kill d st.t)) d (.row d n (len + 1)), upd (upd st.b s none) d (some (cs.take (len * n) ++ v.cells))⟩
      | none => none := by
  unfold growV
  simp only [h1, hby, hz]
  cases st.b s with
  | none => rfl
  | some cs =>
    simp only
    rw [if_pos ⟨h4, h5, trivial, .inl trivial, by simp only [List.all_cons, hc, List.all_nil, Bool.and_true], hb, hl, hMB⟩]
    simp
/-- In the midst of cells. -/
theorem mid_get {A G : List V} {x : V} {m : Nat} (h : A.length = m) : (A ++ x :: G)[m]? = some x := by
  subst h; simp
theorem mid_take {A G : List V} {m : Nat} (h : A.length = m) : (A ++ G).take m = A := by
  subst h; simp
theorem mid_drop {A G : List V} {m : Nat} (h : A.length = m) : (A ++ G).drop m = G := by
  subst h; simp
end Go.Proofs.Ytkacldoiimlmcaa
