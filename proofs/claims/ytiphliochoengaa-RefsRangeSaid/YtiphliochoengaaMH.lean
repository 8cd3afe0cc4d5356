/- What formulas read, plainly: sorted rows, and that a row's members tell it. -/
import Derived.Test.YtiphliochoengaaMR
import Derived.Test.YtiphliochoengaaMG
import Derived.Sort.Walk0
import Derived.Test.YtiphliochoengaaMT
namespace Go.Proofs.Ytiphliochoengaa
open Go Go.RowKit
set_option linter.unusedSimpArgs false
theorem blx_eq (x y : List UInt8) : Op.bytesLess x y = decide (x < y) := by
  induction x generalizing y with
  | nil => cases y <;> simp [Op.bytesLess]
  | cons a x ih =>
    cases y with
    | nil => simp [Op.bytesLess]
    | cons b y => simp [Op.bytesLess, ih, List.cons_lt_cons_iff, Bool.decide_or, Bool.decide_and, Bool.beq_eq_decide_eq]
theorem blx_trans {a b c : List UInt8} (h : Op.bytesLess a b = true) (k : Op.bytesLess b c = true) : Op.bytesLess a c = true := by
  rw [blx_eq] at *; exact decide_eq_true (List.lt_trans (of_decide_eq_true h) (of_decide_eq_true k))
theorem blx_tri {a b : List UInt8} (h : Op.bytesLess a b = false) (k : Op.bytesLess b a = false) : a = b := by
  rw [blx_eq] at *
  exact List.le_antisymm (of_decide_eq_false k) (of_decide_eq_false h)
theorem bax_ext {a b : ByteArray} (h : a.toList = b.toList) : a = b := by
  rw [Lib.toList_data, Lib.toList_data] at h
  exact ByteArray.ext (Array.toList_inj.1 h)
/-- A strict order of all. -/
structure Tot {α : Type} (lt : α → α → Bool) : Prop where
  irr : ∀ a, lt a a = false
  trans : ∀ a b c, lt a b = true → lt b c = true → lt a c = true
  tri : ∀ a b, lt a b = false → lt b a = false → a = b
def strL (a b : ByteArray) : Bool := Op.bytesLess a.toList b.toList
theorem str_tot : Tot strL := ⟨fun a => bless_irrefl a, fun _ _ _ h k => blx_trans h k, fun _ _ h k => bax_ext (blx_tri h k)⟩
theorem less_tot : Tot lessP := by
  refine ⟨?_, ?_, ?_⟩
  · rintro ⟨s, c, r⟩; simp [lessP, lessC]
  · rintro ⟨s, c, r⟩ ⟨s', c', r'⟩ ⟨s2, c2, r2⟩ h k
    simp only [lessP, lessC] at *
    by_cases e1 : s = s'
    · subst e1
      rw [if_pos rfl] at h
      by_cases e2 : s = s2
      · subst e2
        rw [if_pos rfl] at k ⊢
        by_cases f1 : r = r'
        · subst f1
          rw [if_pos rfl] at h
          by_cases f2 : r = r2
          · subst f2
            rw [if_pos rfl] at k ⊢
            have := of_decide_eq_true h; have := of_decide_eq_true k
            exact decide_eq_true (by omega)
          · rw [if_neg f2] at k ⊢; exact k
        · rw [if_neg f1] at h
          have := of_decide_eq_true h
          by_cases f2 : r' = r2
          · subst f2
            rw [if_neg f1]; exact h
          · rw [if_neg f2] at k
            have := of_decide_eq_true k
            rw [if_neg (by omega)]
            exact decide_eq_true (by omega)
      · rw [if_neg e2] at k ⊢; exact k
    · rw [if_neg e1] at h
      by_cases e2 : s' = s2
      · subst e2
        rw [if_neg e1]; exact h
      · rw [if_neg e2] at k
        have h3 := blx_trans h k
        by_cases e3 : s = s2
        · subst e3
          rw [bless_irrefl] at h3
          cases h3
        · rw [if_neg e3]; exact h3
  · rintro ⟨s, c, r⟩ ⟨s', c', r'⟩ h k
    simp only [lessP, lessC] at *
    by_cases e1 : s = s'
    · subst e1
      rw [if_pos rfl] at h k
      by_cases f1 : r = r'
      · subst f1
        rw [if_pos rfl] at h k
        have := of_decide_eq_false h; have := of_decide_eq_false k
        rw [show c = c' from by omega]
      · rw [if_neg f1] at h
        rw [if_neg (fun e => f1 e.symm)] at k
        have := of_decide_eq_false h; have := of_decide_eq_false k
        omega
    · rw [if_neg e1] at h
      rw [if_neg (fun e => e1 e.symm)] at k
      exact absurd (bax_ext (blx_tri h k)) e1
/-- In its order, nothing twice. -/
abbrev Srt {α : Type} (lt : α → α → Bool) (l : List α) : Prop := l.Pairwise fun a b => lt a b = true
/-- What is in it tells a sorted row. -/
theorem srt_eq {α : Type} {lt : α → α → Bool} (ht : Tot lt) : ∀ {a b : List α}, Srt lt a → Srt lt b → (∀ x, x ∈ a ↔ x ∈ b) → a = b
  | [], [], _, _, _ => rfl
  | [], y :: b, _, _, h => absurd ((h y).2 (List.mem_cons_self ..)) (by simp)
  | x :: a, [], _, _, h => absurd ((h x).1 (List.mem_cons_self ..)) (by simp)
  | x :: a, y :: b, ha, hb, h => by
    have ha' := List.pairwise_cons.1 ha
    have hb' := List.pairwise_cons.1 hb
    have exy : x = y := by
      rcases List.mem_cons.1 ((h x).1 (List.mem_cons_self ..)) with e | e
      · exact e
      · rcases List.mem_cons.1 ((h y).2 (List.mem_cons_self ..)) with f | f
        · exact f.symm
        · have h1 := hb'.1 x e
          have h2 := ha'.1 y f
          have h3 := ht.trans _ _ _ h1 h2
          rw [ht.irr] at h3
          cases h3
    subst exy
    congr 1
    refine srt_eq ht ha'.2 hb'.2 (fun z => ⟨fun hz => ?_, fun hz => ?_⟩)
    · rcases List.mem_cons.1 ((h z).1 (List.mem_cons_of_mem _ hz)) with e | e
      · subst e
        have := ha'.1 z hz
        rw [ht.irr] at this
        cases this
      · exact e
    · rcases List.mem_cons.1 ((h z).2 (List.mem_cons_of_mem _ hz)) with e | e
      · subst e
        have := hb'.1 z hz
        rw [ht.irr] at this
        cases this
      · exact e
theorem inL_iff {l : List C3} {p : C3} : inL l p = true ↔ p ∈ l := by
  unfold inL
  rw [List.any_eq_true]
  constructor
  · rintro ⟨q, hq, he⟩
    rw [← of_decide_eq_true he]; exact hq
  · exact fun h => ⟨p, h, decide_eq_true rfl⟩
theorem into_mem {l : List C3} {p q : C3} : q ∈ intoL l p ↔ q ∈ l ∨ q = p := by
  unfold intoL
  split
  · rename_i h
    exact ⟨.inl, fun hx => hx.elim id (fun e => e ▸ inL_iff.1 h)⟩
  · have e : q ∈ l ↔ q ∈ l.takeWhile (fun q => lessP q p) ∨ q ∈ l.dropWhile (fun q => lessP q p) := by
      rw [← List.mem_append, List.takeWhile_append_dropWhile]
    rw [List.mem_append, List.mem_cons, e]
    constructor
    · rintro (h | h | h)
      · exact .inl (.inl h)
      · exact .inr h
      · exact .inl (.inr h)
    · rintro ((h | h) | h)
      · exact .inl h
      · exact .inr (.inr h)
      · exact .inr (.inl h)
theorem drop_ge {l : List C3} {p : C3} (hs : Srt lessP l) : ∀ q ∈ l.dropWhile (fun q => lessP q p), lessP q p = false := by
  induction l with
  | nil => intro q h; cases h
  | cons x l ih =>
    have hs' := List.pairwise_cons.1 hs
    intro q h
    cases hx : lessP x p with
    | true =>
      simp only [List.dropWhile, hx] at h
      exact ih hs'.2 q h
    | false =>
      simp only [List.dropWhile, hx] at h
      rcases List.mem_cons.1 h with rfl | h
      · exact hx
      · cases hq : lessP q p with
        | false => rfl
        | true => rw [less_tot.trans _ _ _ (hs'.1 q h) hq] at hx; exact hx
theorem take_lt {l : List C3} {p : C3} : ∀ q ∈ l.takeWhile (fun q => lessP q p), lessP q p = true := by
  induction l with
  | nil => intro q h; cases h
  | cons x l ih =>
    intro q h
    cases hx : lessP x p with
    | true =>
      simp only [List.takeWhile, hx] at h
      rcases List.mem_cons.1 h with rfl | h
      · exact hx
      · exact ih q h
    | false =>
      simp only [List.takeWhile, hx] at h
      cases h
theorem into_srt {l : List C3} {p : C3} (hs : Srt lessP l) : Srt lessP (intoL l p) := by
  unfold intoL
  split
  · exact hs
  · rename_i hn
    have e := List.takeWhile_append_dropWhile (p := fun q => lessP q p) (l := l)
    have hs2 : Srt lessP (l.takeWhile (fun q => lessP q p) ++ l.dropWhile (fun q => lessP q p)) := by rw [e]; exact hs
    have h2 := List.pairwise_append.1 hs2
    have hd := drop_ge (p := p) hs
    have hlt : ∀ q ∈ l.dropWhile (fun q => lessP q p), lessP p q = true := fun q hq => by
      cases hpq : lessP p q with
      | true => rfl
      | false =>
        have := less_tot.tri _ _ hpq (hd q hq)
        subst this
        exact absurd (inL_iff.2 ((List.dropWhile_sublist _).subset hq)) hn
    refine List.pairwise_append.2 ⟨h2.1, List.pairwise_cons.2 ⟨hlt, h2.2.1⟩, fun a ha b hb => ?_⟩
    rcases List.mem_cons.1 hb with rfl | hb
    · exact take_lt a ha
    · exact h2.2.2 a ha b hb
theorem fold_mem (c : List C3) : ∀ (acc : List C3) (q : C3), q ∈ c.foldl intoL acc ↔ q ∈ acc ∨ q ∈ c := by
  induction c with
  | nil => intro acc q; simp
  | cons p c ih =>
    intro acc q
    rw [List.foldl_cons, ih, into_mem, List.mem_cons, or_assoc]
theorem fold_srt (c : List C3) : ∀ {acc : List C3}, Srt lessP acc → Srt lessP (c.foldl intoL acc) := by
  induction c with
  | nil => exact fun h => h
  | cons p c ih => exact fun h => ih (into_srt h)
theorem base_srt (h : Hd) : Srt lessP (baseR h) := by
  unfold baseR
  cases decide (h.k = 2) && rightC h.cs h.cc h.cr with
  | true => exact into_srt List.Pairwise.nil
  | false => cases decide (h.k = 3) with
    | true => exact fold_srt _ List.Pairwise.nil
    | false => exact List.Pairwise.nil
mutual
theorem reads_srt : ∀ a : Nd, Srt lessP (readsN a)
  | .leaf h => by rw [readsN]; exact base_srt h
  | .mk h l => by rw [readsN]; exact readsL_srt l (base_srt h)
theorem readsL_srt : ∀ (l : List Nd) {acc : List C3}, Srt lessP acc → Srt lessP (readsL acc l)
  | [], _, h => by rw [readsL]; exact h
  | n :: l, _, h => by rw [readsL]; exact readsL_srt l (fold_srt _ h)
end
theorem row_get {s : ByteArray} {c r : Int} {k i : Nat} (h : i < k) : (rowC s c r k)[i]? = some (s, c + (i : Int), r) := by
  unfold rowC
  rw [List.getElem?_map, List.getElem?_range h]
  rfl
theorem cellsL_at (s : ByteArray) (c r : Int) (k : Nat) : ∀ (h i : Nat), i < h * k → (cellsL s c r k h)[i]? = some (s, c + ((i % k : Nat) : Int), r + ((i / k : Nat) : Int))
  | 0, i, hi => by simp at hi
  | h + 1, i, hi => by
    have hlen := cellsL_len s c r k h
    unfold cellsL
    rcases Nat.lt_or_ge i (h * k) with hlt | hge
    · rw [List.getElem?_append_left (by omega)]
      exact cellsL_at s c r k h i hlt
    · rw [List.getElem?_append_right (by omega), hlen]
      rw [Nat.add_mul, Nat.one_mul] at hi
      obtain ⟨j, rfl⟩ : ∃ j, i = h * k + j := ⟨i - h * k, by omega⟩
      have hj : j < k := by omega
      rw [Nat.add_sub_cancel_left, row_get hj]
      have e1 : (h * k + j) % k = j := by rw [Nat.mul_comm, Nat.mul_add_mod, Nat.mod_eq_of_lt hj]
      have e2 : (h * k + j) / k = h := by rw [Nat.mul_comm, Nat.mul_add_div (by omega), Nat.div_eq_of_lt hj]; omega
      rw [e1, e2]
theorem next_idx {n k : Nat} (_hk : 0 < k) : ((n + 1) / k = n / k ∧ n % k < (n + 1) % k) ∨ n / k < (n + 1) / k := by
  have h1 := Nat.div_add_mod n k
  have h2 := Nat.div_add_mod (n + 1) k
  have hle : n / k ≤ (n + 1) / k := Nat.div_le_div_right (by omega)
  rcases Nat.lt_or_ge (n / k) ((n + 1) / k) with h | h
  · exact .inr h
  · have e : (n + 1) / k = n / k := by omega
    rw [e] at h2
    exact .inl ⟨e, by omega⟩
theorem less_next {s : ByteArray} {c r : Int} {n k : Nat} (hk : 0 < k) : lessC s (c + ((n % k : Nat) : Int)) (r + ((n / k : Nat) : Int)) s (c + (((n + 1) % k : Nat) : Int)) (r + (((n + 1) / k : Nat) : Int)) = true := by
  unfold lessC
  rw [if_pos rfl]
  rcases next_idx (n := n) hk with ⟨h1, h2⟩ | h
  · rw [if_pos (by rw [h1])]
    exact decide_eq_true (by omega)
  · rw [if_neg (by omega)]
    exact decide_eq_true (by omega)
theorem inB_iff {s : ByteArray} {c r : Int} {s' : ByteArray} {c' r' : Int} {s0 : ByteArray} {c0 r0 : Int} : inB s c r s' c' r' s0 c0 r0 = true ↔ okA s c r s' c' r' = true ∧ s0 = s ∧ c ≤ c0 ∧ c0 ≤ c' ∧ r ≤ r0 ∧ r0 ≤ r' := by
  simp [inB]
theorem has_in {s : ByteArray} {c r : Int} {k h : Nat} {c2 r2 : Int} (hok : okA s c r s c2 r2 = true) (hc : c2 = c + (k : Int) - 1) (hr : r2 = r + (h : Int) - 1) (s0 : ByteArray) (c0 r0 : Int) :
    ((cellsL s c r k h).any fun p => eqC p (s0, c0, r0)) = inB s c r s c2 r2 s0 c0 r0 := by
  rw [Bool.eq_iff_iff, inB_iff, List.any_eq_true]
  constructor
  · rintro ⟨p, hp, he⟩
    have he := of_decide_eq_true he
    obtain ⟨i, hi⟩ := List.getElem?_of_mem hp
    have hlt := (List.getElem?_eq_some_iff.1 hi).1
    rw [cellsL_len] at hlt
    have hk : 0 < k := by
      rcases Nat.eq_zero_or_pos k with h0 | h0
      · subst h0; simp at hlt
      · exact h0
    rw [cellsL_at s c r k h i hlt] at hi
    cases hi
    cases he
    have h1 := Nat.mod_lt i hk
    have h2 : i / k < h := (Nat.div_lt_iff_lt_mul hk).2 hlt
    generalize i % k = a at h1 ⊢
    generalize i / k = b at h2 ⊢
    exact ⟨hok, rfl, by omega, by omega, by omega, by omega⟩
  · rintro ⟨_, rfl, h1, h2, h3, h4⟩
    obtain ⟨a, ha⟩ : ∃ a : Nat, c0 - c = a := ⟨(c0 - c).toNat, by omega⟩
    obtain ⟨b, hb⟩ : ∃ b : Nat, r0 - r = b := ⟨(r0 - r).toNat, by omega⟩
    have hak : a < k := by omega
    have hbh : b < h := by omega
    have hlt : b * k + a < h * k := mul_idx hbh hak
    have := cellsL_at s0 c r k h (b * k + a) hlt
    have e1 : (b * k + a) % k = a := by rw [Nat.mul_comm, Nat.mul_add_mod, Nat.mod_eq_of_lt hak]
    have e2 : (b * k + a) / k = b := by rw [Nat.mul_comm, Nat.mul_add_div (by omega), Nat.div_eq_of_lt hak]; omega
    rw [e1, e2] at this
    refine ⟨_, List.mem_of_getElem? this, decide_eq_true ?_⟩
    rw [show c + (a : Int) = c0 from by omega, show r + (b : Int) = r0 from by omega]

/-- A range's cells are the ones that are in it. -/
theorem range_mem {s : ByteArray} {c r : Int} {s' : ByteArray} {c' r' : Int} (p : C3) : p ∈ (cellsA s c r s' c' r').getD [] ↔ okQ ((s, c, r), (s', c', r')) = true ∧ inQ p ((s, c, r), (s', c', r')) = true := by
  unfold okQ inQ
  simp only [Bool.and_eq_true, decide_eq_true_eq]
  unfold cellsA
  by_cases h : okA s c r s' c' r' = true ∧ areaN c r c' r' ≤ 400
  · rw [if_pos h, Option.getD_some]
    obtain ⟨_, _, hss, hc, hr⟩ := okA_iff.1 h.1
    subst hss
    have := has_in (s := s) (c := c) (r := r) (k := (c' - c + 1).toNat) (h := (r' - r + 1).toNat) h.1 (by omega) (by omega) p.1 p.2.1 p.2.2
    rw [← this]
    exact ⟨fun hp => ⟨h, inL_iff.2 hp⟩, fun hp => inL_iff.1 hp.2⟩
  · rw [if_neg h]
    exact ⟨fun hp => absurd hp (List.not_mem_nil), fun hp => absurd hp.1 h⟩
theorem okQ_one (s : ByteArray) (c r : Int) : okQ ((s, c, r), (s, c, r)) = rightC s c r := by
  have e1 : okA s c r s c r = rightC s c r := by simp [okA]
  have e2 : areaN c r c r = 1 := by unfold areaN; rw [Int.sub_self, Int.sub_self]; rfl
  simp [okQ, e1, e2]
theorem one_in {s : ByteArray} {c r : Int} (p : C3) : p = (s, c, r) ∧ rightC s c r = true ↔ okQ ((s, c, r), (s, c, r)) = true ∧ inQ p ((s, c, r), (s, c, r)) = true := by
  have e1 : okA s c r s c r = rightC s c r := by simp [okA]
  obtain ⟨s0, c0, r0⟩ := p
  rw [okQ_one, inQ, inB_iff, e1]
  constructor
  · rintro ⟨e, h⟩
    cases e
    exact ⟨h, h, rfl, Int.le_refl _, Int.le_refl _, Int.le_refl _, Int.le_refl _⟩
  · rintro ⟨h, _, e, h1, h2, h3, h4⟩
    have e1 : c0 = c := by simp only at h1 h2; omega
    have e2 : r0 = r := by simp only at h3 h4; omega
    simp only at e
    exact ⟨by rw [e, e1, e2], h⟩
theorem base_mem (h : Hd) (p : C3) : p ∈ baseR h ↔ ∃ q ∈ selfQ h, inQ p q = true := by
  have hS : (∃ q ∈ selfQ h, inQ p q = true) ↔ okQ (rg h) = true ∧ inQ p (rg h) = true := by
    unfold selfQ
    by_cases ho : okQ (rg h) = true
    · rw [if_pos ho]; simp [ho]
    · rw [if_neg ho]; simp [ho]
  rw [hS]
  unfold baseR rg
  by_cases h2 : h.k = 2
  · rw [if_pos h2, decide_eq_true h2]
    rw [← one_in]
    have d3 : decide (h.k = 3) = false := decide_eq_false (by omega)
    cases hr : rightC h.cs h.cc h.cr with
    | true => rw [Bool.true_and, cond_true, into_mem]; simp
    | false => rw [Bool.true_and, cond_false, d3, cond_false]; simp
  · rw [if_neg h2, decide_eq_false h2, Bool.false_and, cond_false]
    by_cases h3 : h.k = 3
    · rw [if_pos h3, decide_eq_true h3, cond_true, fold_mem]
      rw [← range_mem]
      simp [rangeL]
    · rw [if_neg h3, decide_eq_false h3, cond_false]
      have : okQ ((⟨#[]⟩, 0, 0), (⟨#[]⟩, 0, 0)) = false := by rw [okQ, okA_none, Bool.false_and]
      simp [this]
mutual
theorem reads_mem : ∀ (a : Nd) (p : C3), p ∈ readsN a ↔ ∃ q ∈ allN a, inQ p q = true
  | .leaf h, p => by rw [readsN, allN]; exact base_mem h p
  | .mk h l, p => by
    rw [readsN, readsL_mem l, base_mem, allN]
    simp only [List.mem_append, or_and_right, exists_or]
theorem readsL_mem : ∀ (l : List Nd) (acc : List C3) (p : C3), p ∈ readsL acc l ↔ p ∈ acc ∨ ∃ q ∈ allL l, inQ p q = true
  | [], acc, p => by rw [readsL, allL]; simp
  | n :: l, acc, p => by
    rw [readsL, readsL_mem l, fold_mem, reads_mem n, allL]
    simp only [List.mem_append, or_and_right, exists_or, or_assoc]
end
theorem readsB_eq (a : Nd) (p : C3) : readsB a p = inL (readsN a) p := by
  rw [Bool.eq_iff_iff, inL_iff, reads_mem, readsB, List.any_eq_true]
/-- The sheets: each that a cell has, in their order. -/
theorem foldS_mem (c : List C3) : ∀ (acc : List ByteArray) (s : ByteArray), s ∈ c.foldl stepS acc ↔ s ∈ acc ∨ ∃ p ∈ c, p.1 = s := by
  induction c with
  | nil => intro acc s; simp
  | cons p c ih =>
    intro acc s
    rw [List.foldl_cons, ih]
    have : s ∈ stepS acc p ↔ s ∈ acc ∨ p.1 = s := by
      unfold stepS
      by_cases h : acc.getLast? = some p.1
      · rw [decide_eq_true h, cond_true]
        exact ⟨.inl, fun hx => hx.elim id (fun e => e ▸ List.mem_of_getLast? h)⟩
      · rw [decide_eq_false h, cond_false]
        simp [eq_comm]
    rw [this]
    simp only [List.mem_cons, exists_eq_or_imp, or_assoc]
theorem foldS_srt (c : List C3) : ∀ {acc : List ByteArray}, Srt lessP c → Srt strL acc → (∀ s ∈ acc, ∀ p ∈ c, s = p.1 ∧ acc.getLast? = some s ∨ strL s p.1 = true) → Srt strL (c.foldl stepS acc) := by
  induction c with
  | nil => exact fun _ h _ => h
  | cons p c ih =>
    intro acc hc ha hb
    have hc' := List.pairwise_cons.1 hc
    have hp : ∀ q ∈ c, p.1 = q.1 ∨ strL p.1 q.1 = true := fun q hq => by
      have := hc'.1 q hq
      unfold lessP lessC at this
      by_cases e : p.1 = q.1
      · exact .inl e
      · rw [if_neg e] at this; exact .inr this
    rw [List.foldl_cons]
    by_cases h : acc.getLast? = some p.1
    · have e : stepS acc p = acc := by unfold stepS; rw [decide_eq_true h, cond_true]
      rw [e]
      exact ih hc'.2 ha (fun s hs q hq => hb s hs q (List.mem_cons_of_mem _ hq))
    · have e : stepS acc p = acc ++ [p.1] := by unfold stepS; rw [decide_eq_false h, cond_false]
      have hlt : ∀ s ∈ acc, strL s p.1 = true := fun s hs => by
        rcases hb s hs p (List.mem_cons_self ..) with ⟨e1, e2⟩ | e2
        · exact absurd (by rw [e2, e1]) h
        · exact e2
      rw [e]
      refine ih hc'.2 (List.pairwise_append.2 ⟨ha, List.pairwise_singleton .., fun s hs t ht => by rw [List.mem_singleton.1 ht]; exact hlt s hs⟩) (fun s hs q hq => ?_)
      rcases List.mem_append.1 hs with hs | hs
      · rcases hp q hq with e1 | e1
        · right; rw [← e1]; exact hlt s hs
        · right; exact str_tot.trans _ _ _ (hlt s hs) e1
      · rw [List.mem_singleton] at hs
        subst hs
        rcases hp q hq with e1 | e1
        · exact .inl ⟨e1, by simp⟩
        · exact .inr e1
theorem sheets_srt (c : List C3) (h : Srt lessP c) : Srt strL (sheetsL c) := foldS_srt c h List.Pairwise.nil (fun s hs => by cases hs)
theorem sheets_mem (c : List C3) (s : ByteArray) : s ∈ sheetsL c ↔ ∃ p ∈ c, p.1 = s := by
  unfold sheetsL
  rw [foldS_mem]; simp
/-- A sorted row of what all ranges have is what the reference tells. -/
theorem reads_eq {a : Nd} {l : List C3} (hs : Srt lessP l) (hm : ∀ p, p ∈ l ↔ ∃ q ∈ allN a, inQ p q = true) : l = readsN a :=
  srt_eq less_tot hs (reads_srt a) (fun p => (hm p).trans (reads_mem a p).symm)
theorem inQ_from {q : R2} (h : okQ q = true) : inQ q.1 q = true := by
  unfold okQ at h
  rw [Bool.and_eq_true] at h
  obtain ⟨_, _, _, hc, hr⟩ := okA_iff.1 h.1
  exact inB_iff.2 ⟨h.1, rfl, by omega, by omega, by omega, by omega⟩
theorem all_ok : ∀ (a : Nd), ∀ q ∈ allN a, okQ q = true := by
  have hs : ∀ (h : Hd), ∀ q ∈ selfQ h, okQ q = true := fun h q hq => by
    unfold selfQ at hq
    split at hq
    · rename_i ho
      rw [List.mem_singleton.1 hq]; exact ho
    · cases hq
  intro a
  refine Nd.rec (motive_1 := fun a => ∀ q ∈ allN a, okQ q = true) (motive_2 := fun l => ∀ q ∈ allL l, okQ q = true) ?_ ?_ ?_ ?_ a
  · intro h q hq; rw [allN] at hq; exact hs h q hq
  · intro h l ih q hq
    rw [allN, List.mem_append] at hq
    exact hq.elim (hs h q) (ih q)
  · intro q hq; cases hq
  · intro n l i1 i2 q hq
    rw [allL, List.mem_append] at hq
    exact hq.elim (i1 q) (i2 q)
/-- So for the sheets of all ranges. -/
theorem sheets_eq {a : Nd} {l : List ByteArray} (hs : Srt strL l) (hm : ∀ s, s ∈ l ↔ ∃ q ∈ allN a, q.1.1 = s) : l = sheetsL (readsN a) := by
  refine srt_eq str_tot hs (sheets_srt _ (reads_srt a)) (fun s => (hm s).trans ?_)
  rw [sheets_mem]
  constructor
  · rintro ⟨q, hq, e⟩
    exact ⟨q.1, (reads_mem a q.1).2 ⟨q, hq, inQ_from (all_ok a q hq)⟩, e⟩
  · rintro ⟨p, hp, e⟩
    obtain ⟨q, hq, hi⟩ := (reads_mem a p).1 hp
    exact ⟨q, hq, by rw [← e]; exact (inB_iff.1 hi).2.1.symm⟩
end Go.Proofs.Ytiphliochoengaa

/- The laws of chapter 8, as functions of plain data. -/
namespace Go.Proofs.Ytiphliochoengaa
open Go Go.RowKit
set_option linter.unusedSimpArgs false
def h0 : Hd := ⟨0, ⟨#[]⟩, ⟨#[]⟩, 0, 0, ⟨#[]⟩, ⟨#[]⟩, 0, 0, ⟨#[]⟩, 0, 0⟩
def ndV0 : Nd := .leaf { h0 with k := 1 }
def ndC0 : Nd := .leaf { h0 with k := 2, cs := ⟨#[115]⟩, cc := 1, cr := 1 }
theorem rdV0 : readsN ndV0 = [] := rfl
set_option maxRecDepth 100000 in
theorem rdC0 : readsN ndC0 = [(⟨#[115]⟩, 1, 1)] := by kernel_rfl
theorem GReads_eq {nd : Nd} (h : cnt nd ≤ 400) : FE encN GReads [nodeV nd] = some (.sl (readsN nd).isEmpty (szO (readsN nd)) ((readsN nd).map cellV) none) := (FE_at encN_inj _ nd).trans (GReads_of h)
theorem GSheets_eq {nd : Nd} (h : cnt nd ≤ 400) : FE encN GSheets [nodeV nd] = some (.sl (sheetsL (readsN nd)).isEmpty 1 ((sheetsL (readsN nd)).map strC) none) := (FE_at encN_inj _ nd).trans (if_pos h)
theorem GReadsB_eq {nd : Nd} (h : cnt nd ≤ 400) (s : ByteArray) (c r : Int) : FE encNC GReadsB [nodeV nd, .agg [.x (.string s), .x (.int .i64 c), .x (.int .i64 r)]] = some (.x (.bool (inL (readsN nd) (s, c, r)))) := (FE_at encNC_inj _ (nd, (s, c, r))).trans ((if_pos h).trans (by rw [readsB_eq]))
theorem szO_or (l : List C3) : szO l = 3 ∨ l = [] := by cases l <;> simp [szO]
theorem szO_or' (l : List C3) : l = [] ∨ szO l = 3 := (szO_or l).symm
theorem FSame3_self (l : List C3) (h : l.length ≤ 1000000) : FSame3 [.sl l.isEmpty (szO l) (l.map cellV) none, .sl l.isEmpty (szO l) (l.map cellV) none] = some (.x (.bool true)) := by
  unfold FSame3
  simp only [cellsOf_map]
  rw [if_pos ⟨h, szO_or' l, szO_or' l⟩]
  simp
theorem nodeL8 (h : Hd) : nodeV (.leaf h) = .agg [.x (.int .i64 h.k), .x (.string h.op), .x (.string h.nm), .x (.int .i64 h.vk), .x (.int .i64 h.vn), .x (.string h.vs), .x (.string h.cs), .x (.int .i64 h.cc), .x (.int .i64 h.cr), .x (.string h.ts), .x (.int .i64 h.tc), .x (.int .i64 h.tr), .sl true 0 [] none] := by rw [nodeV]; rfl
theorem nodeM8 (h : Hd) (l : List Nd) : nodeV (.mk h l) = .agg [.x (.int .i64 h.k), .x (.string h.op), .x (.string h.nm), .x (.int .i64 h.vk), .x (.int .i64 h.vn), .x (.string h.vs), .x (.string h.cs), .x (.int .i64 h.cc), .x (.int .i64 h.cr), .x (.string h.ts), .x (.int .i64 h.tc), .x (.int .i64 h.tr), .sl false 13 (l.map nodeV) none] := by rw [nodeV, nodesV_map]; rfl
def FAlive8 : List V → Option V
  | [] => some (.x (.bool true))
  | _ => none
set_option maxHeartbeats 4000000 in
set_option maxRecDepth 100000 in
theorem alive8_fun (hC : FunV 12 (FE encN GReads)) : FunV 5 FAlive8 := by
  refine fun_of_run (E := envOf [(12, (FE encN GReads)), (13, (FE encNC GReadsB))]) (k := 0) (envOK_of _ ⟨hC, readsB_fun, trivial⟩) (by kernel_rfl) Try.func5 rfl (fun a w => Try.call5 a w) Try.ntmps5 (by kernel_rfl) (by decide) (by decide) ?_
  intro us r hF hdat
  unfold FAlive8 at hF
  split at hF
  case h_2 => cases hF
  cases hF
  refine ⟨rfl, ?_⟩
  have e1 := GReads_eq (nd := ndV0) (by decide)
  have e2 := GReads_eq (nd := ndC0) (by decide)
  have e3 := GReadsB_eq (nd := ndC0) (by decide) ⟨#[115]⟩ 1 1
  rw [rdV0] at e1
  rw [rdC0] at e2 e3
  have e4 : inL [((⟨#[115]⟩, 1, 1) : C3)] (⟨#[115]⟩, 1, 1) = true := inL_iff.2 (List.mem_singleton.2 rfl)
  have e5 : szO [] = 0 := rfl
  have e6 : ∀ p, szO [p] = 3 := fun _ => rfl
  rw [e4] at e3
  rw [e5] at e1
  rw [e6] at e2
  simp only [ndV0, ndC0, h0, nodeL8, List.map_cons, List.map_nil, cellV_mk, List.isEmpty_cons, List.isEmpty_nil] at e1 e2 e3
  simp (decide := true) (maxDischargeDepth := 200) only [go_sem, e1, e2, e3, Try.results5]

def GTells8 (_ : Nd × C3) : Option V := some (.x (.bool true))
set_option maxHeartbeats 8000000 in
set_option maxRecDepth 100000 in
theorem tells8_fun (hC : FunV 12 (FE encN GReads)) (hS : FunV 9 (FE encN GSheets)) : FunV 3 (FE encNC GTells8) := by
  refine fun_of_run (E := envOf [(5, FAlive8), (6, FFew), (7, (FE encN GAreas)), (8, (FE encN GReads)), (9, (FE encN GSheets)), (10, (FE encN GSheets)), (12, (FE encN GReads)), (11, FSame3), (13, (FE encNC GReadsB)), (14, FHas3)]) (k := 2) (envOK_of _ ⟨(alive8_fun hC), few_fun, areas_fun, reads_fun, hS, sheets_fun, hC, same8_fun, readsB_fun, has3_fun, trivial⟩) (by kernel_rfl) Try.func3 rfl (fun a w => Try.call3 a w) Try.ntmps3 (by kernel_rfl) (by decide) (by decide) ?_
  intro us r hF hdat
  obtain ⟨⟨nd, s, c, r⟩, hus, hG⟩ := FE_out hF
  clear hF
  subst hus
  have hF := hG
  clear hG
  cases hF
  clear hdat
  simp only [encNC, cellV_mk]
  have e1 := FFew_eq nd
  by_cases h4 : szN 101 nd ≤ 400
  · have h400 := few_cnt h4
    have d1 : decide (((szN 101 nd : Nat) : Int) ≤ 400) = true := decide_eq_true (by omega)
    rw [d1] at e1
    have e2 := (FE_at encN_inj GAreas nd).trans (GAreas_of h400)
    simp only [encN] at e2
    have e3 := GReads_eq h400
    have e4 := GSheets_eq h400
    have e5 := GReadsB_eq h400 s c r
    have hrl := readsN_len nd
    have e6 := FSame3_self (readsN nd) (by omega)
    have e7 := FHas3_of (nl := (readsN nd).isEmpty) (sz := szO (readsN nd)) (l := readsN nd) s c r (by omega) (szO_or _)
    have e8 : ((readsN nd).any fun p => eqC p (s, c, r)) = inL (readsN nd) (s, c, r) := rfl
    rw [e8] at e7
    have hsl : (sheetsL (readsN nd)).length ≤ 1000000 := by
      have := foldS_len (readsN nd) []
      unfold sheetsL
      simp only [List.length_nil] at this
      omega
    obtain ⟨k, op, nm, vk, vn, vs, cs, cc, cr, ts, tc, tr, l, nl, sz, hh, hl, hf, hs⟩ := node_cases nd
    rw [hf] at e1 e2 e3 e4 e5 ⊢
    refine ⟨rfl, ?_⟩
    generalize sheetsL (readsN nd) = q at e4 hsl
    generalize readsN nd = p at e3 e5 e6 e7
    generalize rngN nd = a at e2
    generalize inL p (s, c, r) = b at e5 e7
    by_cases h3 : 3 < a
    · have d2 : decide ((3 : Int) < ((a : Nat) : Int)) = true := decide_eq_true (by omega)
      simp (decide := true) (maxDischargeDepth := 200) only [go_sem, FAlive8, e1, e2, d2, Try.results3]
    · have d2 : decide ((3 : Int) < ((a : Nat) : Int)) = false := decide_eq_false (by omega)
      simp (decide := true) (maxDischargeDepth := 200) only [go_sem, FAlive8, e1, e2, e3, e4, d2, dec_refl, Try.results3]
      refine loop_of (X := {i : Nat // i ≤ q.length}) (fun i => [(2, .ptr 2 0), (3, .ptr 3 0), (5, .x (.bool true)), (6, .sl p.isEmpty (szO p) (p.map cellV) none), (7, .sl q.isEmpty 1 (q.map strC) none), (8, .sl q.isEmpty 1 (q.map strC) none), (9, .x (.int .i64 ((i.1 : Nat) : Int)))]) (fun _ => [(2, [.x (.int .i64 k), .x (.string op), .x (.string nm), .x (.int .i64 vk), .x (.int .i64 vn), .x (.string vs), .x (.string cs), .x (.int .i64 cc), .x (.int .i64 cr), .x (.string ts), .x (.int .i64 tc), .x (.int .i64 tr), .sl nl sz (l.map nodeV) none]), (3, [.x (.string s), .x (.int .i64 c), .x (.int .i64 r)])]) (fun i => q.length - i.1) ⟨0, by omega⟩ (by simp (decide := true) only [go_sem] <;> (repeat' first | rfl | constructor)) (by simp (decide := true) only [go_sem] <;> (repeat' first | rfl | constructor)) (fun ⟨i, hi0⟩ => ?_)
      by_cases hi : i < q.length
      · obtain ⟨t, ht⟩ : ∃ t, q[i]? = some t := ⟨q[i], List.getElem?_eq_getElem hi⟩
        have c1 : decide ((i : Int) < (q.length : Int)) = true := decide_eq_true (by omega)
        have c2 : (0 : Int) ≤ (i : Int) := by omega
        have c4 := count_up (i := i) (by omega)
        have c5 : (q.map strC)[((i : Nat) : Int).toNat]? = some (.x (.string t)) := by rw [Int.toNat_natCast, List.getElem?_map, ht]; rfl
        simp (decide := true) (maxDischargeDepth := 200) only [go_sem, List.length_map, c1, c2, c4, c5, dec_refl, Try.results3]
        refine ⟨⟨i + 1, by omega⟩, ?_, ?_, by simp only; omega⟩ <;> simp (decide := true) (maxDischargeDepth := 200) only [go_sem]
      · have c1 : decide ((i : Int) < (q.length : Int)) = false := decide_eq_false (by omega)
        simp (decide := true) (maxDischargeDepth := 200) only [go_sem, List.length_map, c1, e3, e5, e6, e7, bq_self, Try.results3]
  · have d1 : decide (((szN 101 nd : Nat) : Int) ≤ 400) = false := decide_eq_false (by omega)
    rw [d1] at e1
    obtain ⟨k, op, nm, vk, vn, vs, cs, cc, cr, ts, tc, tr, l, nl, sz, hh, hl, hf, hs⟩ := node_cases nd
    rw [hf] at e1 ⊢
    refine ⟨rfl, ?_⟩
    simp (decide := true) (maxDischargeDepth := 200) only [go_sem, FAlive8, e1, Try.results3]

theorem FInQ_eq (s : ByteArray) (c r : Int) (s' : ByteArray) (c' r' : Int) (s0 : ByteArray) (c0 r0 : Int) : FIn [.agg [.x (.string s), .x (.int .i64 c), .x (.int .i64 r), .x (.string s'), .x (.int .i64 c'), .x (.int .i64 r')], .agg [.x (.string s0), .x (.int .i64 c0), .x (.int .i64 r0)]] = some (.x (.bool (inB s c r s' c' r' s0 c0 r0))) := rfl
theorem FLessQ_eq (s : ByteArray) (c r : Int) (s' : ByteArray) (c' r' : Int) : FLess [.agg [.x (.string s), .x (.int .i64 c), .x (.int .i64 r)], .agg [.x (.string s'), .x (.int .i64 c'), .x (.int .i64 r')]] = some (.x (.bool (lessC s c r s' c' r'))) := rfl
/-- A formula over a range, that reads its first cell too. -/
def sumN (s : ByteArray) (c r c2 r2 : Int) : Nd := .mk { h0 with k := 6, nm := ⟨#[83, 85, 77]⟩ } [.leaf { h0 with k := 3, cs := s, cc := c, cr := r, ts := s, tc := c2, tr := r2 }, .leaf { h0 with k := 2, cs := s, cc := c, cr := r }]
theorem sum_cnt (s : ByteArray) (c r c2 r2 : Int) : cnt (sumN s c r c2 r2) ≤ 400 := by
  simp [sumN, cnt, cntL]
theorem cellsL_srt (s : ByteArray) (c r : Int) (k h : Nat) (hk : 0 < k) : Srt lessP (cellsL s c r k h) := by
  rw [Srt, List.pairwise_iff_getElem]
  have hlen := cellsL_len s c r k h
  have hat : ∀ i (hi : i < (cellsL s c r k h).length), (cellsL s c r k h)[i] = (s, c + ((i % k : Nat) : Int), r + ((i / k : Nat) : Int)) := fun i hi => by
    have := cellsL_at s c r k h i (by omega)
    rw [List.getElem?_eq_getElem hi] at this
    exact Option.some.inj this
  have step : ∀ (d i : Nat) (hi : i < (cellsL s c r k h).length) (hj : i + d + 1 < (cellsL s c r k h).length), lessP (cellsL s c r k h)[i] (cellsL s c r k h)[i + d + 1] = true := by
    intro d
    induction d with
    | zero =>
      intro i hi hj
      rw [hat, hat]
      exact less_next hk
    | succ d ih =>
      intro i hi hj
      refine less_tot.trans _ _ _ (ih i hi (by omega)) ?_
      have e : i + (d + 1) + 1 = (i + d + 1) + 1 := by omega
      rw [hat, hat, e]
      exact less_next hk
  intro i j hi hj hij
  obtain ⟨d, rfl⟩ : ∃ d, j = i + d + 1 := ⟨j - i - 1, by omega⟩
  exact step d i hi hj
theorem sum_reads {s : ByteArray} {c r c2 r2 : Int} {w h : Nat} (hok : okA s c r s c2 r2 = true) (hc : c2 = c + (w : Int) - 1) (hr : r2 = r + (h : Int) - 1) (ha : areaN c r c2 r2 ≤ 400) (hw : 0 < w) : readsN (sumN s c r c2 r2) = cellsL s c r w h := by
  refine (reads_eq (cellsL_srt s c r w h hw) (fun p => ?_)).symm
  have hq : okQ ((s, c, r), (s, c2, r2)) = true := by
    unfold okQ
    rw [hok, decide_eq_true ha, Bool.true_and]
  have hR := (okA_iff.1 hok).1
  have hq1 : okQ ((s, c, r), (s, c, r)) = true := by rw [okQ_one, hR]
  have e1 : allN (sumN s c r c2 r2) = [((s, c, r), (s, c2, r2)), ((s, c, r), (s, c, r))] := by
    have f0 : selfQ { h0 with k := 6, nm := ⟨#[83, 85, 77]⟩ } = [] := by
      have : okQ (rg { h0 with k := 6, nm := ⟨#[83, 85, 77]⟩ }) = false := by
        show okQ ((⟨#[]⟩, 0, 0), (⟨#[]⟩, 0, 0)) = false
        rw [okQ, okA_none, Bool.false_and]
      unfold selfQ
      rw [this]; rfl
    have f1 : selfQ { h0 with k := 3, cs := s, cc := c, cr := r, ts := s, tc := c2, tr := r2 } = [((s, c, r), (s, c2, r2))] := by
      have : rg { h0 with k := 3, cs := s, cc := c, cr := r, ts := s, tc := c2, tr := r2 } = ((s, c, r), (s, c2, r2)) := rfl
      unfold selfQ
      rw [this, if_pos hq]
    have f2 : selfQ { h0 with k := 2, cs := s, cc := c, cr := r } = [((s, c, r), (s, c, r))] := by
      have : rg { h0 with k := 2, cs := s, cc := c, cr := r } = ((s, c, r), (s, c, r)) := rfl
      unfold selfQ
      rw [this, if_pos hq1]
    rw [sumN, allN, f0, allL, allN, f1, allL, allN, f2, allL]
    rfl
  have hin := has_in hok hc hr p.1 p.2.1 p.2.2
  have e2 : p ∈ cellsL s c r w h ↔ inQ p ((s, c, r), (s, c2, r2)) = true := by
    unfold inQ
    simp only
    rw [← hin]
    exact ⟨fun hp => inL_iff.2 hp, fun hp => inL_iff.1 hp⟩
  rw [e2, e1]
  constructor
  · exact fun hp => ⟨_, List.mem_cons_self .., hp⟩
  · rintro ⟨q, hq', hi⟩
    rcases List.mem_cons.1 hq' with rfl | hq'
    · exact hi
    · rw [List.mem_singleton.1 hq'] at hi
      obtain ⟨e, _⟩ := (one_in p).2 ⟨hq1, hi⟩
      rw [e]
      exact inQ_from hq
def FRange8 : List V → Option V
  | [.agg [.x (.string _), .x (.int .i64 _), .x (.int .i64 _)], .x (.int .i64 _), .x (.int .i64 _), .agg [.x (.string _), .x (.int .i64 _), .x (.int .i64 _)]] => some (.x (.bool true))
  | _ => none
set_option maxHeartbeats 8000000 in
set_option maxRecDepth 100000 in
theorem range8_fun (hC : FunV 12 (FE encN GReads)) : FunV 4 FRange8 := by
  refine fun_of_run (E := envOf [(5, FAlive8), (15, FRightC), (12, (FE encN GReads)), (16, FLess), (13, (FE encNC GReadsB)), (17, FIn)]) (k := 4) (envOK_of _ ⟨(alive8_fun hC), rright_fun, hC, rless_fun, readsB_fun, rin_fun, trivial⟩) (by kernel_rfl) Try.func4 rfl (fun a w => Try.call4 a w) Try.ntmps4 (by kernel_rfl) (by decide) (by decide) ?_
  intro us r hF hdat
  unfold FRange8 at hF
  split at hF
  case h_2 => cases hF
  rename_i s c r w h s' c' r'
  cases hF
  refine ⟨rfl, ?_⟩
  cases hR : rightC s c r
  · simp (decide := true) (maxDischargeDepth := 200) only [go_sem, List.append_eq, FAlive8, FRightC, hR, Try.results4]
  obtain ⟨hn, b1, b2, b3, b4⟩ := rightC_iff.1 hR
  by_cases qd1 : w < 1
  · have d1 := decide_eq_true qd1
    simp (decide := true) (maxDischargeDepth := 200) only [go_sem, List.append_eq, FAlive8, FRightC, hR, d1, Try.results4]
  have d1 := decide_eq_false qd1
  by_cases qd2 : 10 < w
  · have d2 := decide_eq_true qd2
    simp (decide := true) (maxDischargeDepth := 200) only [go_sem, List.append_eq, FAlive8, FRightC, hR, d1, d2, Try.results4]
  have d2 := decide_eq_false qd2
  by_cases qd3 : h < 1
  · have d3 := decide_eq_true qd3
    simp (decide := true) (maxDischargeDepth := 200) only [go_sem, List.append_eq, FAlive8, FRightC, hR, d1, d2, d3, Try.results4]
  have d3 := decide_eq_false qd3
  by_cases qd4 : 10 < h
  · have d4 := decide_eq_true qd4
    simp (decide := true) (maxDischargeDepth := 200) only [go_sem, List.append_eq, FAlive8, FRightC, hR, d1, d2, d3, d4, Try.results4]
  have d4 := decide_eq_false qd4
  obtain ⟨w, rfl⟩ := Int.eq_ofNat_of_zero_le (show 0 ≤ w by omega)
  obtain ⟨h, rfl⟩ := Int.eq_ofNat_of_zero_le (show 0 ≤ h by omega)
  obtain ⟨c2, hc2⟩ : ∃ c2, c + (w : Int) - 1 = c2 := ⟨_, rfl⟩
  obtain ⟨r2, hr2⟩ : ∃ r2, r + (h : Int) - 1 = r2 := ⟨_, rfl⟩
  have w1 : bWrap .i64 (c + (w : Int)) = c + (w : Int) := bwrap_of (by unfold inR; omega)
  have w2 : bWrap .i64 (c + (w : Int) - 1) = c2 := by rw [bwrap_of (by unfold inR; omega), hc2]
  have w3 : bWrap .i64 (r + (h : Int)) = r + (h : Int) := bwrap_of (by unfold inR; omega)
  have w4 : bWrap .i64 (r + (h : Int) - 1) = r2 := by rw [bwrap_of (by unfold inR; omega), hr2]
  by_cases qd5 : 702 < c2
  · have d5 := decide_eq_true qd5
    simp (decide := true) (maxDischargeDepth := 200) only [go_sem, List.append_eq, FAlive8, FRightC, hR, d1, d2, d3, d4, w1, w2, w3, w4, d5, Try.results4]
  have d5 := decide_eq_false qd5
  by_cases qd6 : 999 < r2
  · have d6 := decide_eq_true qd6
    simp (decide := true) (maxDischargeDepth := 200) only [go_sem, List.append_eq, FAlive8, FRightC, hR, d1, d2, d3, d4, w1, w2, w3, w4, d5, d6, Try.results4]
  have d6 := decide_eq_false qd6
  have hR2 : rightC s c2 r2 = true := rightC_iff.2 ⟨hn, by omega, by omega, by omega, by omega⟩
  have hok : okA s c r s c2 r2 = true := okA_iff.2 ⟨hR, hR2, rfl, by omega, by omega⟩
  have hwh : h * w ≤ 100 := Nat.mul_le_mul (show h ≤ 10 by omega) (show w ≤ 10 by omega)
  have hn0 : areaN c r c2 r2 = ((h * w : Nat) : Int) := by
    unfold areaN
    rw [show c2 - c + 1 = (w : Int) from by omega, show r2 - r + 1 = (h : Int) from by omega]
    push_cast
    exact Int.mul_comm _ _
  have w5 : bWrap .i64 ((w : Int) * (h : Int)) = ((h * w : Nat) : Int) := by
    rw [show (w : Int) * (h : Int) = ((h * w : Nat) : Int) from by push_cast; exact Int.mul_comm _ _]
    exact bwrap_of (by unfold inR; omega)
  have hrd := sum_reads (w := w) (h := h) hok hc2.symm hr2.symm (by rw [hn0]; omega) (by omega)
  have e1 := GReads_eq (sum_cnt s c r c2 r2)
  have e2 := GReadsB_eq (sum_cnt s c r c2 r2) s' c' r'
  have e3 : inL (cellsL s c r w h) (s', c', r') = inB s c r s c2 r2 s' c' r' := has_in hok hc2.symm hr2.symm s' c' r'
  rw [hrd] at e1 e2
  rw [e3] at e2
  have hlen := cellsL_len s c r w h
  have hat := cellsL_at s c r w h
  have hw0 : 0 < w := by omega
  generalize hL : cellsL s c r w h = L at e1 hlen hat
  have hlm : (((L.map cellV).length : Nat) : Int) = ((h * w : Nat) : Int) := by rw [List.length_map, hlen]
  obtain ⟨n, hnn⟩ : ∃ n, h * w = n := ⟨_, rfl⟩
  rw [hnn] at w5 hlen hat hlm hwh
  simp only [sumN, h0, nodeM8, nodeL8, List.map_cons, List.map_nil] at e1 e2
  simp (decide := true) (maxDischargeDepth := 200) only [go_sem, List.append_eq, FAlive8, FRightC, hR, d1, d2, d3, d4, w1, w2, w3, w4, d5, d6, e1, Try.results4]
  refine loop_of (X := {i : Nat // 1 ≤ i}) (fun i => [(1, .x (.int .i64 (w : Int))), (2, .x (.int .i64 (h : Int))), (4, .ptr 4 0), (7, .ptr 7 0), (10, .ptr 10 0), (11, .ptr 11 0), (12, .sl L.isEmpty (szO L) (L.map cellV) none), (13, .x (.int .i64 i.1))]) (fun _ => [(4, [.x (.string s), .x (.int .i64 c), .x (.int .i64 r)]), (7, [.x (.string s'), .x (.int .i64 c'), .x (.int .i64 r')]), (10, [.x (.string s), .x (.int .i64 c), .x (.int .i64 r), .x (.string s), .x (.int .i64 c2), .x (.int .i64 r2)]), (11, [.x (.int .i64 6), .x (.string ⟨#[]⟩), .x (.string ⟨#[83, 85, 77]⟩), .x (.int .i64 0), .x (.int .i64 0), .x (.string ⟨#[]⟩), .x (.string ⟨#[]⟩), .x (.int .i64 0), .x (.int .i64 0), .x (.string ⟨#[]⟩), .x (.int .i64 0), .x (.int .i64 0), .sl false 13 [.agg [.x (.int .i64 3), .x (.string ⟨#[]⟩), .x (.string ⟨#[]⟩), .x (.int .i64 0), .x (.int .i64 0), .x (.string ⟨#[]⟩), .x (.string s), .x (.int .i64 c), .x (.int .i64 r), .x (.string s), .x (.int .i64 c2), .x (.int .i64 r2), .sl true 0 [] none], .agg [.x (.int .i64 2), .x (.string ⟨#[]⟩), .x (.string ⟨#[]⟩), .x (.int .i64 0), .x (.int .i64 0), .x (.string ⟨#[]⟩), .x (.string s), .x (.int .i64 c), .x (.int .i64 r), .x (.string ⟨#[]⟩), .x (.int .i64 0), .x (.int .i64 0), .sl true 0 [] none]] none])]) (fun i => n - i.1) ⟨1, by omega⟩ (by simp (decide := true) only [go_sem] <;> (repeat' first | rfl | constructor)) (by simp (decide := true) only [go_sem] <;> (repeat' first | rfl | constructor)) (fun ⟨i, hi⟩ => ?_)
  by_cases hin : i < n
  · have q0 : decide ((i : Int) < ((n : Nat) : Int)) = true := decide_eq_true (by omega)
    have k4 := count_up (i := i) (by omega)
    obtain ⟨j, rfl⟩ : ∃ j, i = j + 1 := ⟨i - 1, by omega⟩
    have k5 := cell_at (hat (j + 1) hin)
    have k6 := cell_at (hat j (by omega))
    have k7 : bWrap .i64 (((j + 1 : Nat) : Int) - 1) = (j : Int) := by rw [bwrap_of (by unfold inR; omega)]; omega
    have k8 : (0 : Int) ≤ (j : Int) := by omega
    have k2 : (0 : Int) ≤ ((j + 1 : Nat) : Int) := by omega
    have k9 := szO_at (hat j (by omega))
    have hl := less_next (s := s) (c := c) (r := r) (n := j) (k := w) hw0
    simp (decide := true) (maxDischargeDepth := 200) only [go_sem, List.append_eq, q0, hlm, k2, k4, k5, k6, k7, k8, k9, cellV_mk, FLessQ_eq, hl, Try.results4]
    refine ⟨⟨j + 1 + 1, by omega⟩, ?_, ?_, by simp only; omega⟩ <;> simp (decide := true) only [go_sem, k9]
  · have q0 : decide ((i : Int) < ((n : Nat) : Int)) = false := decide_eq_false (by omega)
    simp (decide := true) (maxDischargeDepth := 200) only [go_sem, List.append_eq, q0, hlm, w5, e2, FInQ_eq, bq_self, dec_refl, Try.results4]

end Go.Proofs.Ytiphliochoengaa
