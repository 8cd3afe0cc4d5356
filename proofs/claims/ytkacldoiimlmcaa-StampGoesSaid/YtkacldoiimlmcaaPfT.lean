/- Regions that draw their order, gone through order by order. No program is named here. -/
import Derived.Test.YtkacldoiimlmcaaPfN
namespace Go.Proofs.Ytkacldoiimlmcaa
open Go Go.RowKit

section
variable {E : Env} {n : Nat} {pm : Pm} {m0 m : Lim} {w0 w : World} {β : Nat → Nat} {st : St} {a : Act} {ops : Array Oper}

/-- Knows no more. (A nil slice is one, whatever elements it is for.) -/
def V.le (u v : V) : Prop := u = .undef ∨ u = v ∨ ∃ n k n' k', u = .sl true n [] k ∧ v = .sl true n' [] k'
/-- A state that knows less. -/
structure Le (st' st : St) : Prop where
  t : ∀ i, (st'.t i).le (st.t i)
  b : ∀ s cs', st'.b s = some cs' → ∃ cs, st.b s = some cs ∧ cs'.length = cs.length ∧ ∀ (i : Nat) (u' u : V), cs'[i]? = some u' → cs[i]? = some u → u'.le u
theorem leC_refl (cs : List V) : cs.length = cs.length ∧ ∀ (i : Nat) (u' u : V), cs[i]? = some u' → cs[i]? = some u → u'.le u := ⟨rfl, fun i u' u h1 h2 => by rw [h1] at h2; cases h2; exact .inr (.inl rfl)⟩
theorem Le.refl (st : St) : Le st st := ⟨fun _ => .inr (.inl rfl), fun _ cs h => ⟨cs, h, leC_refl cs⟩⟩
theorem V.le.rd {v : Value} {u' u : V} (hl : u'.le u) (h : Rd m w v u) : Rd m w v u' := by
  rcases hl with rfl | rfl | ⟨n1, k1, n2, k2, rfl, rfl⟩
  · exact .undef _
  · exact h
  · rcases h.flat with ⟨_, hxv, _⟩ | ⟨hf, _⟩ | ⟨_, _, _, _, hf, _⟩
    · rw [hxv]; exact .nil _ _
    · cases hf
    · cases hf

theorem Rel.le (h : Rel E n pm m0 w0 m β st a w) {st' : St} (hl : Le st' st) : Rel E n pm m0 w0 m β st' a w := by
  refine ⟨fun i => ?_, h.size, fun s cs' hs => ?_, fun s s' cs cs' hs hs' heq => ?_, h.below, h.par, h.mold, ?_, fun i s sz len cs' hi hs => ?_, h.defers, h.glob, h.j, h.maps.to (fun i s ks vs hi => ⟨⟨i, (by
    rcases hl.t i with h0 | h0 | ⟨n1, k1, n2, k2, h0, h1⟩
    · rw [h0] at hi; cases hi
    · rw [← h0]; exact hi
    · rw [h0] at hi; cases hi)⟩, rfl⟩) (Ext.refl _ _) (fun _ _ _ h _ => ⟨h, rfl⟩)⟩
  rotate_right
  · obtain ⟨cs, hs, hlen, _⟩ := hl.b s cs' hs
    have hi : st.t i = .row s sz len := by
      rcases hl.t i with h0 | h0 | ⟨n1, k1, n2, k2, h0, h1⟩
      · rw [h0] at hi; cases hi
      · rw [← h0]; exact hi
      · rw [h0] at hi; cases hi
    obtain ⟨hf, rest⟩ := h.own i s sz len cs hi hs
    exact ⟨by omega, rest⟩
  · rcases hl.t i with h0 | h0 | ⟨n1, k1, n2, k2, h0, h1⟩
    · rw [h0]; exact .of (.undef _)
    · rw [h0]; exact h.tmps i
    · rw [h0]
      have := h.tmps i
      rw [h1] at this
      rcases (this.rd (by intros; simp)).flat with ⟨_, hxv, _⟩ | ⟨hf, _⟩ | ⟨_, _, _, _, hf, _⟩
      · rw [hxv]; exact .of (.nil _ _)
      · cases hf
      · cases hf
  · obtain ⟨cs, hs0, hlen, hle⟩ := hl.b s cs' hs
    obtain ⟨⟨hlim, vals, ty, xs, rest, hh, hx, hr⟩, hge⟩ := h.boxes s cs hs0
    refine ⟨⟨hlim, vals, ty, xs, rest, hh, hx, RdL.of_get (hr.length.trans hlen.symm) (fun i v u' hv hu => ?_)⟩, hge⟩
    have hi := lt_of_some hu
    have hu0 : cs[i]? = some (cs[i]'(by omega)) := List.getElem?_eq_getElem (by omega)
    exact (hle i u' _ hu hu0).rd (hr.get i v _ hv hu0)
  · obtain ⟨c1, h1, _⟩ := hl.b _ _ hs
    obtain ⟨c2, h2, _⟩ := hl.b _ _ hs'
    exact h.inj _ _ _ _ h1 h2 heq
  · obtain ⟨ρ, hr⟩ := h.rows
    refine ⟨ρ, hr.to (fun v sz es s hi => hi.from (fun i hi => .inl ⟨i, ?_, rfl⟩) (fun k cs' j h1 h2 h3 h4 => ?_)) (fun _ _ _ _ _ => ⟨rfl, rfl⟩) (fun v sz es s k cs' hi hk => ?_)⟩
    · rcases hl.t i with h0 | h0 | ⟨n1, k1, n2, k2, h0, h1⟩
      · rw [h0] at hi; cases hi
      · rw [← h0]; exact hi
      · rw [h0] at hi; cases hi
    · obtain ⟨cs, h5, hlen, hle⟩ := hl.b k cs' h2
      have hj := lt_of_some h3
      have h6 : cs[j]? = some (cs[j]'(by omega)) := List.getElem?_eq_getElem (by omega)
      rcases hle j _ _ h3 h6 with h0 | h0 | ⟨n1, k1, n2, k2, h0, h7⟩
      · cases h0
      · exact .inr ⟨k, cs, j, h1, h5, by rw [h6, ← h0], h4⟩
      · cases h0
    · obtain ⟨cs, h5, _⟩ := hl.b k cs' hk
      exact hr.box _ _ _ _ _ _ hi h5

end
/-- At each place: which operations may be next, and what follows. -/
inductive Ord where
  | fin
  | none
  | alt (i : Nat) (sub next : Ord)
def okTree (ops : List Oper) : Ord → List Nat → List Nat → Bool
  | .fin, L, acc => acc.isEmpty && (List.range ops.length).all fun i => L.contains i
  | .none, L, acc => !acc.isEmpty && (List.range ops.length).all fun i => L.contains i || acc.contains i || !(match ops[i]? with | some o => (directV o).all fun k => L.contains k | none => false)
  | .alt i sub next, L, acc => (match ops[i]? with | some o => (directV o).all fun k => L.contains k | none => false) && !L.contains i && okTree ops sub (i :: L) [] && okTree ops next L (i :: acc)
/-- All orders, as a tree. -/
def treeOf (ops : List Oper) : Nat → List Nat → Ord
  | 0, _ => .fin
  | k + 1, L => ((List.range ops.length).filter fun i => !L.contains i && (match ops[i]? with | some o => (directV o).all fun k => L.contains k | none => false)).foldr (fun i next => .alt i (treeOf ops k (i :: L)) next) .none
def treeK (E : Env) (ops : List Oper) : Ord → St → (St → Prop) → Prop
  | .fin, st, K => K st
  | .none, _, _ => True
  | .alt i sub next, st, K => (match ops[i]? with
      | some o => aopsK E ⟨ops⟩ [o] st fun st' => treeK E ops sub st' K
      | none => False) ∧ treeK E ops next st K
def oneK (E : Env) (ops : List Oper) (sub : Ord) (st : St) (K : St → Prop) : Option Oper → Prop
  | some o => aopsK E ⟨ops⟩ [o] st fun st' => treeK E ops sub st' K
  | none => False
theorem treeK_fin (E : Env) (ops : List Oper) (st : St) (K : St → Prop) : treeK E ops .fin st K = K st := rfl
theorem treeK_none (E : Env) (ops : List Oper) (st : St) (K : St → Prop) : treeK E ops .none st K = True := rfl
theorem treeK_alt (E : Env) (ops : List Oper) (i : Nat) (sub next : Ord) (st : St) (K : St → Prop) : treeK E ops (.alt i sub next) st K = (oneK E ops sub st K ops[i]? ∧ treeK E ops next st K) := by
  simp only [treeK, oneK]
theorem oneK_some (E : Env) (ops : List Oper) (sub : Ord) (st : St) (K : St → Prop) (o : Oper) : oneK E ops sub st K (some o) = aopsK E ⟨ops⟩ [o] st fun st' => treeK E ops sub st' K := rfl
theorem oneK_congr (E : Env) (ops : List Oper) (sub : Ord) (st : St) (K : St → Prop) {o o' : Option Oper} (h : o = o') : oneK E ops sub st K o = oneK E ops sub st K o' := by rw [h]
theorem treeK_congr (E : Env) (ops : List Oper) (tr : Ord) (K : St → Prop) {st st' : St} (h : st = st') : treeK E ops tr st K = treeK E ops tr st' K := by rw [h]

section
variable {E : Env} {ops : List Oper} {n : Nat} {pm : Pm} {m0 m : Lim} {w0 w : World} {β : Nat → Nat} {st : St} {a : Act}

theorem filter_lt {L : List Nat} {i k : Nat} (hi : i < k) (hn : i ∉ L) : ((List.range k).filter fun j => !(i :: L).contains j).length + 1 ≤ ((List.range k).filter fun j => !L.contains j).length := by
  have h1 : ((List.range k).filter fun j => !(i :: L).contains j) = ((List.range k).filter fun j => !L.contains j).filter fun j => j != i := by
    rw [List.filter_filter]
    refine List.filter_congr (fun j _ => ?_)
    rw [List.contains_cons, Bool.not_or]
    rfl
  have h2 : i ∈ (List.range k).filter fun j => !L.contains j := by
    rw [List.mem_filter, List.mem_range]
    exact ⟨hi, by simpa using hn⟩
  rw [h1]
  have key : ∀ l : List Nat, i ∈ l → (l.filter fun j => j != i).length + 1 ≤ l.length := by
    intro l
    induction l with
    | nil => intro h; cases h
    | cons x l ih =>
      intro h
      by_cases e : x = i
      · subst e
        rw [List.filter_cons, if_neg (by simp)]
        have := List.length_filter_le (fun j => j != x) l
        simp only [List.length_cons]
        omega
      · have h3 := ih (by rcases List.mem_cons.1 h with h | h; exact absurd h.symm e; exact h)
        rw [List.filter_cons, if_pos (by simpa using e)]
        simp only [List.length_cons]
        omega
  exact key _ h2

theorem tree_sound {r : Option Nat} (hE : EnvX E pm) (hdst : dstsIn n ops = true) {Q : Exit → Act → World → Prop} {K : St → Prop} (hQ : ∀ st a w m β, K st → Rel E n pm m0 w0 m β st a w → Q .normal a w) : ∀ (tr : Ord),
    (∀ (L : List Nat) (fuel : Nat) (listed : Array Bool) (st : St) (a : Act) (w : World) (m : Lim) (β : Nat → Nat), okTree ops tr L [] = true → listed.size = ops.length → (∀ i, (listed.getD i false = true ↔ i ∈ L)) →
      ((List.range ops.length).filter fun j => !L.contains j).length ≤ fuel → Rel E n pm m0 w0 m β st a w → treeK E ops tr st K → wpAnyIn (fen r) 0 E.P .any ⟨ops⟩ Q fuel listed a w) ∧
    (∀ (L acc : List Nat) (fuel : Nat) (listed : Array Bool) (st : St) (a : Act) (w : World) (m : Lim) (β : Nat → Nat), acc ≠ [] → okTree ops tr L acc = true → listed.size = ops.length → (∀ i, (listed.getD i false = true ↔ i ∈ L)) →
      ((List.range ops.length).filter fun j => !L.contains j).length ≤ fuel + 1 → Rel E n pm m0 w0 m β st a w → treeK E ops tr st K → (∀ i ∈ acc, wpOpIn (fen r) 0 E.P ⟨ops⟩ Q i (wpAnyIn (fen r) 0 E.P .any ⟨ops⟩ Q fuel (listed.setIfInBounds i true)) a w) →
      ∀ i ∈ Region.ready .any ⟨ops⟩ listed, wpOpIn (fen r) 0 E.P ⟨ops⟩ Q i (wpAnyIn (fen r) 0 E.P .any ⟨ops⟩ Q fuel (listed.setIfInBounds i true)) a w) := by
  have hone : ∀ (i : Nat) (sub : Ord), (∀ (L : List Nat) (fuel : Nat) (listed : Array Bool) (st : St) (a : Act) (w : World) (m : Lim) (β : Nat → Nat), okTree ops sub L [] = true → listed.size = ops.length → (∀ i, (listed.getD i false = true ↔ i ∈ L)) →
      ((List.range ops.length).filter fun j => !L.contains j).length ≤ fuel → Rel E n pm m0 w0 m β st a w → treeK E ops sub st K → wpAnyIn (fen r) 0 E.P .any ⟨ops⟩ Q fuel listed a w) →
      ∀ (L : List Nat) (fuel : Nat) (listed : Array Bool) (st : St) (a : Act) (w : World) (m : Lim) (β : Nat → Nat), okTree ops sub (i :: L) [] = true → i < ops.length → i ∉ L → listed.size = ops.length → (∀ i, (listed.getD i false = true ↔ i ∈ L)) →
      ((List.range ops.length).filter fun j => !L.contains j).length ≤ fuel + 1 → Rel E n pm m0 w0 m β st a w → oneK E ops sub st K ops[i]? → wpOpIn (fen r) 0 E.P ⟨ops⟩ Q i (wpAnyIn (fen r) 0 E.P .any ⟨ops⟩ Q fuel (listed.setIfInBounds i true)) a w := by
    intro i sub ih L fuel listed st a w m β hok hi hn hsz hag hrem h hk
    have ho : ops[i]? = some ops[i] := List.getElem?_eq_getElem hi
    rw [ho] at hk
    obtain ⟨st', hs, hk'⟩ := aopsK_out _ _ hk
    simp only [aopsV] at hs
    split at hs
    · rename_i st1 h1
      cases hs
      refine aopV_sound hE h (by simp) (dstsIn_of hdst (List.mem_of_getElem? ho)) h1 (fun a' w' m' β' h' => ?_)
      refine ih (i :: L) fuel _ _ a' w' m' β' hok (by simpa using hsz) (fun j => ?_) (by have := filter_lt hi hn; omega) h' hk'
      by_cases e : j = i
      · subst e
        rw [getD_set_true'' (by omega)]
        simp
      · rw [getD_set_ne _ (Ne.symm e), hag j]
        simp [e]
    · cases hs
  intro tr
  induction tr with
  | fin =>
    refine ⟨fun L fuel listed st a w m β hok hsz hag hrem h hk => ?_, fun L acc fuel listed st a w m β hacc hok => ?_⟩
    · simp only [okTree, List.isEmpty_nil, Bool.true_and, List.all_eq_true, List.mem_range] at hok
      have hr : Region.ready .any ⟨ops⟩ listed = [] := by
        rw [List.eq_nil_iff_forall_not_mem]
        intro i hi
        rw [ready_direct] at hi
        obtain ⟨h1, o, h2, _⟩ := hi
        have hlt : i < ops.length := lt_of_some (l := ops) (by simpa using h2)
        have := (hag i).2 (by simpa using hok i hlt)
        rw [getD_listed (ops := ⟨ops⟩) hsz hlt, this] at h1
        cases h1
      cases fuel with
      | zero => exact ⟨hr, hQ _ _ _ _ _ hk h⟩
      | succ f => exact ⟨fun _ => hQ _ _ _ _ _ hk h, fun i hi => by rw [hr] at hi; cases hi⟩
    · cases acc with
      | nil => exact absurd rfl hacc
      | cons x acc => simp [okTree] at hok
  | none =>
    refine ⟨fun L fuel listed st a w m β hok => by simp [okTree] at hok, fun L acc fuel listed st a w m β hacc hok hsz hag hrem h hk hA i hi => ?_⟩
    rw [ready_direct] at hi
    obtain ⟨h1, o, h2, h3⟩ := hi
    have h2 : ops[i]? = some o := by simpa using h2
    have hlt : i < ops.length := lt_of_some h2
    simp only [okTree, Bool.and_eq_true, List.all_eq_true, List.mem_range] at hok
    have := hok.2 i hlt
    rw [h2] at this
    have hnl : i ∉ L := fun hm => by
      have := (hag i).2 hm
      rw [getD_listed (ops := ⟨ops⟩) hsz hlt, this] at h1
      cases h1
    have hdl : ((directV o).all fun k => L.contains k) = true := by
      rw [List.all_eq_true]
      intro k hkm
      have h4 := h3 k hkm
      simpa using (hag k).1 h4
    simp only [hdl, Bool.not_true, Bool.or_false, Bool.or_eq_true, List.contains_iff_mem] at this
    exact hA i (this.resolve_left hnl)
  | alt i0 sub next ihs ihn =>
    refine ⟨fun L fuel listed st a w m β hok hsz hag hrem h hk => ?_, fun L acc fuel listed st a w m β hacc hok hsz hag hrem h hk hA => ?_⟩
    · simp only [okTree, Bool.and_eq_true, Bool.not_eq_true'] at hok
      obtain ⟨⟨⟨hd, hnl⟩, hs⟩, hn⟩ := hok
      have hnl : i0 ∉ L := fun hm => by rw [List.contains_iff_mem.2 hm] at hnl; cases hnl
      split at hd
      case h_2 => cases hd
      rename_i o ho
      have hlt := lt_of_some ho
      rw [treeK_alt] at hk
      have hpos := filter_lt hlt hnl
      obtain ⟨f, rfl⟩ : ∃ f, fuel = f + 1 := ⟨fuel - 1, by omega⟩
      refine ⟨fun hr => ?_, ihn.2 L [i0] f listed st a w m β (by simp) hn hsz hag hrem h hk.2 (fun i hi => ?_)⟩
      · exfalso
        have : i0 ∈ Region.ready .any ⟨ops⟩ listed := by
          rw [ready_direct]
          refine ⟨?_, o, by simpa using ho, fun k hkm => ?_⟩
          · rw [getD_listed (ops := ⟨ops⟩) hsz hlt]
            cases hg : listed.getD i0 false with
            | false => rfl
            | true => exact absurd ((hag i0).1 hg) hnl
          · have hc := List.all_eq_true.1 hd k hkm
            have hkm2 : k ∈ L := by simpa using hc
            exact (hag k).2 hkm2
        rw [hr] at this
        cases this
      · obtain rfl : i = i0 := by simpa using hi
        exact hone i sub ihs.1 L f listed st a w m β hs hlt hnl hsz hag hrem h hk.1
    · simp only [okTree, Bool.and_eq_true, Bool.not_eq_true'] at hok
      obtain ⟨⟨⟨hd, hnl⟩, hs⟩, hn⟩ := hok
      have hnl : i0 ∉ L := fun hm => by rw [List.contains_iff_mem.2 hm] at hnl; cases hnl
      split at hd
      case h_2 => cases hd
      rename_i o ho
      have hlt := lt_of_some ho
      rw [treeK_alt] at hk
      refine ihn.2 L (i0 :: acc) fuel listed st a w m β (by simp) hn hsz hag hrem h hk.2 (fun i hi => ?_)
      rcases List.mem_cons.1 hi with rfl | hi
      · exact hone i sub ihs.1 L fuel listed st a w m β hs hlt hnl hsz hag hrem h hk.1
      · exact hA i hi

/-- Gone through in all orders. -/
theorem any_sound {r : Option Nat} {W : Nat → Bool} (hE : EnvX E pm) (hm : E.P.follows .mixedOrders = true) (hdst : dstsIn n ops = true) (hW : wrL W ops = true) {id : Nat} {Q : Exit → Act → World → Prop} {K : St → Prop} {tr : Ord} (hok : okTree ops tr [] [] = true)
    (h : Rel E n pm m0 w0 m β st a w) (hk : treeK E ops tr st K) (hQ : ∀ st' a' w' m' β', K st' → Rel E n pm m0 w0 m' β' st' a' w' → Q .normal a' w') : (Code.region id ⟨ops⟩ true).wpIn (fen r) 0 E.P (fun e a' w' => Q e a' w' ∧ (e = .normal → KeepT W a.tmps a'.tmps)) a w := by
  refine wpIn_region_any hm ?_
  have hrel : Rel E n pm m0 w0 m β st a { w with drawn := w.drawn + 1 } := by
    have hb : Below w.heap.size w { w with drawn := w.drawn + 1 } := ⟨rfl, rfl, rfl, Nat.le_refl _, fun _ _ => rfl⟩
    exact h.call hb (fun _ _ => rfl)
  refine wpAnyIn_keep (W := W) (ops := ⟨ops⟩) hW _ _ a _ (KeepT.refl _ _) ?_
  refine (tree_sound hE hdst hQ tr).1 [] _ _ st a _ m β hok (by simp) (fun i => ?_) ?_ hrel hk
  · simp only [Array.getD_eq_getD_getElem?, Array.getElem?_replicate]
    split <;> simp
  · exact Nat.le_trans (List.length_filter_le _ _) (by simp)
theorem treeK_mono {K K' : St → Prop} (h : ∀ st, K st → K' st) : ∀ (tr : Ord) (st : St), treeK E ops tr st K → treeK E ops tr st K'
  | .fin, st, hk => h st hk
  | .none, _, _ => trivial
  | .alt i sub next, st, hk => by
    rw [treeK_alt] at hk ⊢
    refine ⟨?_, treeK_mono h next st hk.2⟩
    have hk := hk.1
    cases ho : ops[i]? with
    | none => rw [ho] at hk; exact hk.elim
    | some o =>
      rw [ho] at hk
      have hk : aopsK E ⟨ops⟩ [o] st fun st' => treeK E ops sub st' K := hk
      show aopsK E ⟨ops⟩ [o] st fun st' => treeK E ops sub st' K'
      obtain ⟨st', hs, hk'⟩ := aopsK_out _ _ hk
      exact aopsK_in _ _ hs (treeK_mono h sub st' hk')
/- The same, where orders that have done the same come to the same: states by masks of what is done. -/
def readyM (ops : List Oper) (L i : Nat) : Bool := !L.testBit i && (match ops[i]? with | some o => (directV o).all fun k => L.testBit k | none => false)
def dagOK (ops : List Oper) (ps : List (Nat × Nat × Nat)) : Bool :=
  (ps.all fun p => p.2.2 == p.1 ||| 2 ^ p.2.1) && (0 :: ps.map fun p => p.2.2).all fun L => (L == 2 ^ ops.length - 1 || (List.range ops.length).any fun i => readyM ops L i) && (List.range ops.length).all fun i => !readyM ops L i || ps.any fun p => p.1 == L && p.2.1 == i
def oneLe (E : Env) (ops : List Oper) (J' J : St) : Option Oper → Prop
  | some o => ∃ st', aopsV E ⟨ops⟩ [o] J = some st' ∧ Le J' st'
  | none => False
def dagK (E : Env) (ops : List Oper) (J : Nat → St) : List (Nat × Nat × Nat) → Prop
  | [] => True
  | p :: r => oneLe E ops (J p.2.2) (J p.1) ops[p.2.1]? ∧ dagK E ops J r
theorem dagK_mem {J : Nat → St} : ∀ {ps : List (Nat × Nat × Nat)}, dagK E ops J ps → ∀ p ∈ ps, oneLe E ops (J p.2.2) (J p.1) ops[p.2.1]?
  | [], _, p, hp => by cases hp
  | q :: r, h, p, hp => by
    rcases List.mem_cons.1 hp with rfl | hp
    · exact h.1
    · exact dagK_mem h.2 p hp
theorem dag_sound {r : Option Nat} (hE : EnvX E pm) (hdst : dstsIn n ops = true) {J : Nat → St} {ps : List (Nat × Nat × Nat)} (hok : dagOK ops ps = true) (hstep : dagK E ops J ps) {Q : Exit → Act → World → Prop} (hQ : ∀ a w m β, Rel E n pm m0 w0 m β (J (2 ^ ops.length - 1)) a w → Q .normal a w) :
    ∀ (fuel L : Nat) (Ls : List Nat) (listed : Array Bool) (a : Act) (w : World) (m : Lim) (β : Nat → Nat), (L = 0 ∨ ∃ p ∈ ps, p.2.2 = L) → listed.size = ops.length → (∀ i, (listed.getD i false = true ↔ i ∈ Ls)) → (∀ i, i ∈ Ls ↔ L.testBit i = true) →
      ((List.range ops.length).filter fun j => !Ls.contains j).length ≤ fuel → Rel E n pm m0 w0 m β (J L) a w → wpAnyIn (fen r) 0 E.P .any ⟨ops⟩ Q fuel listed a w := by
  simp only [dagOK, Bool.and_eq_true] at hok
  obtain ⟨hpm, hS⟩ := hok
  have hready : ∀ (L : Nat) (Ls : List Nat) (listed : Array Bool), listed.size = ops.length → (∀ i, (listed.getD i false = true ↔ i ∈ Ls)) → (∀ i, i ∈ Ls ↔ L.testBit i = true) → ∀ i, i ∈ Region.ready .any ⟨ops⟩ listed ↔ i < ops.length ∧ readyM ops L i = true := by
    intro L Ls listed hsz hag hbit i
    have hb : ∀ k, listed.getD k false = true ↔ L.testBit k = true := fun k => (hag k).trans (hbit k)
    rw [ready_direct]
    constructor
    · rintro ⟨h1, o, h2, h3⟩
      have h2 : ops[i]? = some o := by simpa using h2
      have hlt := lt_of_some h2
      refine ⟨hlt, ?_⟩
      rw [getD_listed (ops := ⟨ops⟩) hsz hlt] at h1
      have hn : L.testBit i = false := by
        cases hb' : L.testBit i with
        | false => rfl
        | true => rw [(hb i).2 hb'] at h1; cases h1
      simp only [readyM, hn, Bool.not_false, Bool.true_and, h2, List.all_eq_true]
      exact fun k hk => (hb k).1 (h3 k hk)
    · rintro ⟨hlt, hr⟩
      simp only [readyM, Bool.and_eq_true, Bool.not_eq_true'] at hr
      obtain ⟨hn, hd⟩ := hr
      split at hd
      case h_2 => cases hd
      rename_i o ho
      refine ⟨?_, o, by simpa using ho, fun k hk => (hb k).2 (List.all_eq_true.1 hd k hk)⟩
      rw [getD_listed (ops := ⟨ops⟩) hsz hlt]
      cases hg : listed.getD i false with
      | false => rfl
      | true => rw [(hb i).1 hg] at hn; cases hn
  have hSL : ∀ L, (L = 0 ∨ ∃ p ∈ ps, p.2.2 = L) → (L = 2 ^ ops.length - 1 ∨ ∃ i, i < ops.length ∧ readyM ops L i = true) ∧ ∀ i, i < ops.length → readyM ops L i = true → ∃ p ∈ ps, p.1 = L ∧ p.2.1 = i := by
    intro L hL
    have hm : L ∈ (0 :: ps.map fun p => p.2.2) := by
      rcases hL with rfl | ⟨p, hp, rfl⟩
      · simp
      · exact List.mem_cons_of_mem _ (List.mem_map.2 ⟨p, hp, rfl⟩)
    have := List.all_eq_true.1 hS L hm
    simp only [Bool.and_eq_true, Bool.or_eq_true, beq_iff_eq, List.any_eq_true, List.all_eq_true, List.mem_range] at this
    refine ⟨this.1, fun i hi hr => ?_⟩
    have := this.2 i hi
    rw [hr] at this
    simpa using this
  intro fuel
  induction fuel with
  | zero =>
    intro L Ls listed a w m β hL hsz hag hbit hrem h
    have hno : ∀ i, i < ops.length → i ∈ Ls := fun i hi => by
      have h0 : ((List.range ops.length).filter fun j => !Ls.contains j) = [] := List.length_eq_zero_iff.1 (Nat.le_zero.1 hrem)
      by_cases hm : i ∈ Ls
      · exact hm
      · have : i ∈ ((List.range ops.length).filter fun j => !Ls.contains j) := List.mem_filter.2 ⟨List.mem_range.2 hi, by simpa using hm⟩
        rw [h0] at this
        cases this
    have hnr : ∀ i, i < ops.length → readyM ops L i = false := fun i hi => by simp [readyM, (hbit i).1 (hno i hi)]
    have hfull : L = 2 ^ ops.length - 1 := by
      rcases (hSL L hL).1 with h1 | ⟨i, hi, hr⟩
      · exact h1
      · rw [hnr i hi] at hr; cases hr
    refine ⟨?_, hQ a w m β (hfull ▸ h)⟩
    rw [List.eq_nil_iff_forall_not_mem]
    intro i hi
    obtain ⟨h1, h2⟩ := (hready L Ls listed hsz hag hbit i).1 hi
    rw [hnr i h1] at h2
    cases h2
  | succ f ih =>
    intro L Ls listed a w m β hL hsz hag hbit hrem h
    refine ⟨fun hr => ?_, fun i hi => ?_⟩
    · have hfull : L = 2 ^ ops.length - 1 := by
        rcases (hSL L hL).1 with h1 | ⟨i, hi, hr'⟩
        · exact h1
        · have := (hready L Ls listed hsz hag hbit i).2 ⟨hi, hr'⟩
          rw [hr] at this
          cases this
      exact hQ a w m β (hfull ▸ h)
    · obtain ⟨hlt, hr⟩ := (hready L Ls listed hsz hag hbit i).1 hi
      obtain ⟨p, hp, hp1, hp2⟩ := (hSL L hL).2 i hlt hr
      have hone := dagK_mem hstep p hp
      have hpe := List.all_eq_true.1 hpm p hp
      rw [beq_iff_eq] at hpe
      have ho : ops[i]? = some ops[i] := List.getElem?_eq_getElem hlt
      rw [hp1, hp2, ho] at hone
      obtain ⟨st', hs, hle⟩ := hone
      simp only [aopsV] at hs
      split at hs
      · rename_i st1 h1
        cases hs
        have hn : i ∉ Ls := fun hm => by
          simp only [readyM, (hbit i).1 hm, Bool.not_true, Bool.false_and] at hr
          cases hr
        refine aopV_sound hE h (by simp) (dstsIn_of hdst (List.mem_of_getElem? ho)) h1 (fun a' w' m' β' h' => ?_)
        refine ih p.2.2 (i :: Ls) _ a' w' m' β' (.inr ⟨p, hp, rfl⟩) (by simpa using hsz) (fun j => ?_) (fun j => ?_) (by have := filter_lt hlt hn; omega) (h'.le hle)
        · by_cases e : j = i
          · subst e
            rw [getD_set_true'' (by omega)]
            simp
          · rw [getD_set_ne _ (Ne.symm e), hag j]
            simp [e]
        · rw [hpe, hp1, hp2, Nat.testBit_or, Nat.testBit_two_pow, Bool.or_eq_true, ← hbit j, List.mem_cons, decide_eq_true_eq]
          constructor
          · rintro (rfl | h)
            · exact .inr rfl
            · exact .inl h
          · rintro (h | rfl)
            · exact .inr h
            · exact .inl rfl
      · cases hs
theorem anyD_sound {r : Option Nat} {W : Nat → Bool} (hE : EnvX E pm) (hm : E.P.follows .mixedOrders = true) (hdst : dstsIn n ops = true) (hW : wrL W ops = true) {id : Nat} {Q : Exit → Act → World → Prop} {J : Nat → St} {ps : List (Nat × Nat × Nat)} (hok : dagOK ops ps = true)
    (h0 : Le (J 0) st) (h : Rel E n pm m0 w0 m β st a w) (hk : dagK E ops J ps) (hQ : ∀ a' w' m' β', Rel E n pm m0 w0 m' β' (J (2 ^ ops.length - 1)) a' w' → Q .normal a' w') : (Code.region id ⟨ops⟩ true).wpIn (fen r) 0 E.P (fun e a' w' => Q e a' w' ∧ (e = .normal → KeepT W a.tmps a'.tmps)) a w := by
  refine wpIn_region_any hm ?_
  have hrel : Rel E n pm m0 w0 m β st a { w with drawn := w.drawn + 1 } := by
    have hb : Below w.heap.size w { w with drawn := w.drawn + 1 } := ⟨rfl, rfl, rfl, Nat.le_refl _, fun _ _ => rfl⟩
    exact h.call hb (fun _ _ => rfl)
  refine wpAnyIn_keep (W := W) (ops := ⟨ops⟩) hW _ _ a _ (KeepT.refl _ _) ?_
  refine dag_sound hE hdst hok hk hQ _ 0 [] _ a _ m β (.inl rfl) (by simp) (fun i => ?_) (fun i => by simp) ?_ (hrel.le h0)
  · simp only [Array.getD_eq_getD_getElem?, Array.getElem?_replicate]
    split <;> simp
  · exact Nat.le_trans (List.length_filter_le _ _) (by simp)
end
end Go.Proofs.Ytkacldoiimlmcaa
