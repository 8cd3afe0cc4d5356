/- Regions that draw their order, gone through order by order. No program is named here. -/
import Derived.Test.YtfmdcgakkijkdaaGreatDoorPfN
namespace Go.Proofs.YtfmdcgakkijkdaaGreatDoor
open Go Go.RowKit

/-- At each place: which operations may be next, and what follows. -/
inductive Ord where
  | fin
  | none
  | alt (i : Nat) (sub next : Ord)
def okTree (ops : List Oper) : Ord → List Nat → List Nat → Bool
  | .fin, L, acc => acc.isEmpty && (List.range ops.length).all fun i => L.contains i
  | .none, L, acc => !acc.isEmpty && (List.range ops.length).all fun i => L.contains i || acc.contains i || !(match ops[i]? with | some o => (directV o).all fun k => L.contains k | none => false)
  | .alt i sub next, L, acc => (match ops[i]? with | some o => (directV o).all fun k => L.contains k | none => false) && !L.contains i && okTree ops sub (i :: L) [] && okTree ops next L (i :: acc)
/-- All orders, as a tree. -/
def treeOf (ops : List Oper) : Nat → List Nat → Ord
  | 0, _ => .fin
  | k + 1, L => ((List.range ops.length).filter fun i => !L.contains i && (match ops[i]? with | some o => (directV o).all fun k => L.contains k | none => false)).foldr (fun i next => .alt i (treeOf ops k (i :: L)) next) .none
def treeK (E : Env) (ops : List Oper) : Ord → St → (St → Prop) → Prop
  | .fin, st, K => K st
  | .none, _, _ => True
  | .alt i sub next, st, K => (match ops[i]? with
      | some o => aopsK E ⟨ops⟩ [o] st fun st' => treeK E ops sub st' K
      | none => False) ∧ treeK E ops next st K
def oneK (E : Env) (ops : List Oper) (sub : Ord) (st : St) (K : St → Prop) : Option Oper → Prop
  | some o => aopsK E ⟨ops⟩ [o] st fun st' => treeK E ops sub st' K
  | none => False
theorem treeK_fin (E : Env) (ops : List Oper) (st : St) (K : St → Prop) : treeK E ops .fin st K = K st := rfl
theorem treeK_none (E : Env) (ops : List Oper) (st : St) (K : St → Prop) : treeK E ops .none st K = True := rfl
theorem treeK_alt (E : Env) (ops : List Oper) (i : Nat) (sub next : Ord) (st : St) (K : St → Prop) : treeK E ops (.alt i sub next) st K = (oneK E ops sub st K ops[i]? ∧ treeK E ops next st K) := by
  simp only [treeK, oneK]
theorem oneK_some (E : Env) (ops : List Oper) (sub : Ord) (st : St) (K : St → Prop) (o : Oper) : oneK E ops sub st K (some o) = aopsK E ⟨ops⟩ [o] st fun st' => treeK E ops sub st' K := rfl
theorem oneK_congr (E : Env) (ops : List Oper) (sub : Ord) (st : St) (K : St → Prop) {o o' : Option Oper} (h : o = o') : oneK E ops sub st K o = oneK E ops sub st K o' := by rw [h]
theorem treeK_congr (E : Env) (ops : List Oper) (tr : Ord) (K : St → Prop) {st st' : St} (h : st = st') : treeK E ops tr st K = treeK E ops tr st' K := by rw [h]

section
variable {E : Env} {ops : List Oper} {n : Nat} {pm : Pm} {m0 m : Lim} {w0 w : World} {β : Nat → Nat} {st : St} {a : Act}

theorem filter_lt {L : List Nat} {i k : Nat} (hi : i < k) (hn : i ∉ L) : ((List.range k).filter fun j => !(i :: L).contains j).length + 1 ≤ ((List.range k).filter fun j => !L.contains j).length := by
  have h1 : ((List.range k).filter fun j => !(i :: L).contains j) = ((List.range k).filter fun j => !L.contains j).filter fun j => j != i := by
    rw [List.filter_filter]
    refine List.filter_congr (fun j _ => ?_)
    rw [List.contains_cons, Bool.not_or]
    rfl
  have h2 : i ∈ (List.range k).filter fun j => !L.contains j := by
    rw [List.mem_filter, List.mem_range]
    exact ⟨hi, by simpa using hn⟩
  rw [h1]
  have key : ∀ l : List Nat, i ∈ l → (l.filter fun j => j != i).length + 1 ≤ l.length := by
    intro l
    induction l with
    | nil => intro h; cases h
    | cons x l ih =>
      intro h
      by_cases e : x = i
      · subst e
        rw [List.filter_cons, if_neg (by simp)]
        have := List.length_filter_le (fun j => j != x) l
        simp only [List.length_cons]
        omega
      · have h3 := ih (by rcases List.mem_cons.1 h with h | h; exact absurd h.symm e; exact h)
        rw [List.filter_cons, if_pos (by simpa using e)]
        simp only [List.length_cons]
        omega
  exact key _ h2

theorem tree_sound (hE : EnvOK E) (hdst : dstsIn n ops = true) {Q : Exit → Act → World → Prop} {K : St → Prop} (hQ : ∀ st a w m β, K st → Rel E n pm m0 w0 m β st a w → Q .normal a w) : ∀ (tr : Ord),
    (∀ (L : List Nat) (fuel : Nat) (listed : Array Bool) (st : St) (a : Act) (w : World) (m : Lim) (β : Nat → Nat), okTree ops tr L [] = true → listed.size = ops.length → (∀ i, (listed.getD i false = true ↔ i ∈ L)) →
      ((List.range ops.length).filter fun j => !L.contains j).length ≤ fuel → Rel E n pm m0 w0 m β st a w → treeK E ops tr st K → wpAny E.P .any ⟨ops⟩ Q fuel listed a w) ∧
    (∀ (L acc : List Nat) (fuel : Nat) (listed : Array Bool) (st : St) (a : Act) (w : World) (m : Lim) (β : Nat → Nat), acc ≠ [] → okTree ops tr L acc = true → listed.size = ops.length → (∀ i, (listed.getD i false = true ↔ i ∈ L)) →
      ((List.range ops.length).filter fun j => !L.contains j).length ≤ fuel + 1 → Rel E n pm m0 w0 m β st a w → treeK E ops tr st K → (∀ i ∈ acc, wpOp E.P ⟨ops⟩ Q i (wpAny E.P .any ⟨ops⟩ Q fuel (listed.setIfInBounds i true)) a w) →
      ∀ i ∈ Region.ready .any ⟨ops⟩ listed, wpOp E.P ⟨ops⟩ Q i (wpAny E.P .any ⟨ops⟩ Q fuel (listed.setIfInBounds i true)) a w) := by
  have hone : ∀ (i : Nat) (sub : Ord), (∀ (L : List Nat) (fuel : Nat) (listed : Array Bool) (st : St) (a : Act) (w : World) (m : Lim) (β : Nat → Nat), okTree ops sub L [] = true → listed.size = ops.length → (∀ i, (listed.getD i false = true ↔ i ∈ L)) →
      ((List.range ops.length).filter fun j => !L.contains j).length ≤ fuel → Rel E n pm m0 w0 m β st a w → treeK E ops sub st K → wpAny E.P .any ⟨ops⟩ Q fuel listed a w) →
      ∀ (L : List Nat) (fuel : Nat) (listed : Array Bool) (st : St) (a : Act) (w : World) (m : Lim) (β : Nat → Nat), okTree ops sub (i :: L) [] = true → i < ops.length → i ∉ L → listed.size = ops.length → (∀ i, (listed.getD i false = true ↔ i ∈ L)) →
      ((List.range ops.length).filter fun j => !L.contains j).length ≤ fuel + 1 → Rel E n pm m0 w0 m β st a w → oneK E ops sub st K ops[i]? → wpOp E.P ⟨ops⟩ Q i (wpAny E.P .any ⟨ops⟩ Q fuel (listed.setIfInBounds i true)) a w := by
    intro i sub ih L fuel listed st a w m β hok hi hn hsz hag hrem h hk
    have ho : ops[i]? = some ops[i] := List.getElem?_eq_getElem hi
    rw [ho] at hk
    obtain ⟨st', hs, hk'⟩ := aopsK_out _ _ hk
    simp only [aopsV] at hs
    split at hs
    · rename_i st1 h1
      cases hs
      refine aopV_sound hE h (by simp) (dstsIn_of hdst (List.mem_of_getElem? ho)) h1 (fun a' w' m' β' h' => ?_)
      refine ih (i :: L) fuel _ _ a' w' m' β' hok (by simpa using hsz) (fun j => ?_) (by have := filter_lt hi hn; omega) h' hk'
      by_cases e : j = i
      · subst e
        rw [getD_set_true'' (by omega)]
        simp
      · rw [getD_set_ne _ (Ne.symm e), hag j]
        simp [e]
    · cases hs
  intro tr
  induction tr with
  | fin =>
    refine ⟨fun L fuel listed st a w m β hok hsz hag hrem h hk => ?_, fun L acc fuel listed st a w m β hacc hok => ?_⟩
    · simp only [okTree, List.isEmpty_nil, Bool.true_and, List.all_eq_true, List.mem_range] at hok
      have hr : Region.ready .any ⟨ops⟩ listed = [] := by
        rw [List.eq_nil_iff_forall_not_mem]
        intro i hi
        rw [ready_direct] at hi
        obtain ⟨h1, o, h2, _⟩ := hi
        have hlt : i < ops.length := lt_of_some (l := ops) (by simpa using h2)
        have := (hag i).2 (by simpa using hok i hlt)
        rw [getD_listed (ops := ⟨ops⟩) hsz hlt, this] at h1
        cases h1
      cases fuel with
      | zero => exact ⟨hr, hQ _ _ _ _ _ hk h⟩
      | succ f => exact ⟨fun _ => hQ _ _ _ _ _ hk h, fun i hi => by rw [hr] at hi; cases hi⟩
    · cases acc with
      | nil => exact absurd rfl hacc
      | cons x acc => simp [okTree] at hok
  | none =>
    refine ⟨fun L fuel listed st a w m β hok => by simp [okTree] at hok, fun L acc fuel listed st a w m β hacc hok hsz hag hrem h hk hA i hi => ?_⟩
    rw [ready_direct] at hi
    obtain ⟨h1, o, h2, h3⟩ := hi
    have h2 : ops[i]? = some o := by simpa using h2
    have hlt : i < ops.length := lt_of_some h2
    simp only [okTree, Bool.and_eq_true, List.all_eq_true, List.mem_range] at hok
    have := hok.2 i hlt
    rw [h2] at this
    have hnl : i ∉ L := fun hm => by
      have := (hag i).2 hm
      rw [getD_listed (ops := ⟨ops⟩) hsz hlt, this] at h1
      cases h1
    have hdl : ((directV o).all fun k => L.contains k) = true := by
      rw [List.all_eq_true]
      intro k hkm
      have h4 := h3 k hkm
      simpa using (hag k).1 h4
    simp only [hdl, Bool.not_true, Bool.or_false, Bool.or_eq_true, List.contains_iff_mem] at this
    exact hA i (this.resolve_left hnl)
  | alt i0 sub next ihs ihn =>
    refine ⟨fun L fuel listed st a w m β hok hsz hag hrem h hk => ?_, fun L acc fuel listed st a w m β hacc hok hsz hag hrem h hk hA => ?_⟩
    · simp only [okTree, Bool.and_eq_true, Bool.not_eq_true'] at hok
      obtain ⟨⟨⟨hd, hnl⟩, hs⟩, hn⟩ := hok
      have hnl : i0 ∉ L := fun hm => by rw [List.contains_iff_mem.2 hm] at hnl; cases hnl
      split at hd
      case h_2 => cases hd
      rename_i o ho
      have hlt := lt_of_some ho
      rw [treeK_alt] at hk
      have hpos := filter_lt hlt hnl
      obtain ⟨f, rfl⟩ : ∃ f, fuel = f + 1 := ⟨fuel - 1, by omega⟩
      refine ⟨fun hr => ?_, ihn.2 L [i0] f listed st a w m β (by simp) hn hsz hag hrem h hk.2 (fun i hi => ?_)⟩
      · exfalso
        have : i0 ∈ Region.ready .any ⟨ops⟩ listed := by
          rw [ready_direct]
          refine ⟨?_, o, by simpa using ho, fun k hkm => ?_⟩
          · rw [getD_listed (ops := ⟨ops⟩) hsz hlt]
            cases hg : listed.getD i0 false with
            | false => rfl
            | true => exact absurd ((hag i0).1 hg) hnl
          · have hc := List.all_eq_true.1 hd k hkm
            have hkm2 : k ∈ L := by simpa using hc
            exact (hag k).2 hkm2
        rw [hr] at this
        cases this
      · obtain rfl : i = i0 := by simpa using hi
        exact hone i sub ihs.1 L f listed st a w m β hs hlt hnl hsz hag hrem h hk.1
    · simp only [okTree, Bool.and_eq_true, Bool.not_eq_true'] at hok
      obtain ⟨⟨⟨hd, hnl⟩, hs⟩, hn⟩ := hok
      have hnl : i0 ∉ L := fun hm => by rw [List.contains_iff_mem.2 hm] at hnl; cases hnl
      split at hd
      case h_2 => cases hd
      rename_i o ho
      have hlt := lt_of_some ho
      rw [treeK_alt] at hk
      refine ihn.2 L (i0 :: acc) fuel listed st a w m β (by simp) hn hsz hag hrem h hk.2 (fun i hi => ?_)
      rcases List.mem_cons.1 hi with rfl | hi
      · exact hone i sub ihs.1 L fuel listed st a w m β hs hlt hnl hsz hag hrem h hk.1
      · exact hA i hi

/-- Gone through in all orders. -/
theorem any_sound (hE : EnvOK E) (hm : E.P.follows .mixedOrders = true) (hdst : dstsIn n ops = true) {id : Nat} {Q : Exit → Act → World → Prop} {K : St → Prop} {tr : Ord} (hok : okTree ops tr [] [] = true)
    (h : Rel E n pm m0 w0 m β st a w) (hk : treeK E ops tr st K) (hQ : ∀ st' a' w' m' β', K st' → Rel E n pm m0 w0 m' β' st' a' w' → Q .normal a' w') : (Code.region id ⟨ops⟩ true).wp E.P Q a w := by
  refine wp_region_any hm ?_
  have hrel : Rel E n pm m0 w0 m β st a { w with drawn := w.drawn + 1 } := by
    have hb : Below w.heap.size w { w with drawn := w.drawn + 1 } := ⟨rfl, rfl, rfl, Nat.le_refl _, fun _ _ => rfl⟩
    exact h.call hb (fun _ _ => rfl)
  refine (tree_sound hE hdst hQ tr).1 [] _ _ st a _ m β hok (by simp) (fun i => ?_) ?_ hrel hk
  · simp only [Array.getD_eq_getD_getElem?, Array.getElem?_replicate]
    split <;> simp
  · exact Nat.le_trans (List.length_filter_le _ _) (by simp)
theorem treeK_mono {K K' : St → Prop} (h : ∀ st, K st → K' st) : ∀ (tr : Ord) (st : St), treeK E ops tr st K → treeK E ops tr st K'
  | .fin, st, hk => h st hk
  | .none, _, _ => trivial
  | .alt i sub next, st, hk => by
    rw [treeK_alt] at hk ⊢
    refine ⟨?_, treeK_mono h next st hk.2⟩
    have hk := hk.1
    cases ho : ops[i]? with
    | none => rw [ho] at hk; exact hk.elim
    | some o =>
      rw [ho] at hk
      have hk : aopsK E ⟨ops⟩ [o] st fun st' => treeK E ops sub st' K := hk
      show aopsK E ⟨ops⟩ [o] st fun st' => treeK E ops sub st' K'
      obtain ⟨st', hs, hk'⟩ := aopsK_out _ _ hk
      exact aopsK_in _ _ hs (treeK_mono h sub st' hk')
end
end Go.Proofs.YtfmdcgakkijkdaaGreatDoor
