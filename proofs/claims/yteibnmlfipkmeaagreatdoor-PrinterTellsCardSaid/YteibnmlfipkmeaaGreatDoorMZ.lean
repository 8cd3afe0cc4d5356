/- Formulas read: no number is greater than an int64. Nothing of the program. -/
import Derived.Test.YteibnmlfipkmeaaGreatDoorMA
import Derived.Test.YteibnmlfipkmeaaGreatDoorMX
import Derived.Test.YteibnmlfipkmeaaGreatDoorMF
namespace Go.Proofs.YteibnmlfipkmeaaGreatDoor
open Go Go.RowKit

theorem sm_z : smN zNd := by show (0 : Int) ≤ _; omega
theorem sm_call {nm : ByteArray} {l : List Nd} (h : ∀ n ∈ l, smN n) : smN (callNd nm l) := by
  cases l with
  | nil => show (0 : Int) ≤ _; omega
  | cons a l => exact ⟨by show (0 : Int) ≤ _; omega, smL_of h⟩
theorem loopP_sm {P : List Tk → Option RP} (h : ∀ l q, P l = some q → smN q.1) (r : Nat) : ∀ (k : Nat) (a : Nd) (x : Int) (l : List Tk) (q : RP), smN a → loopP P r k a x l = some q → smN q.1 := by
  intro k
  induction k with
  | zero => intro a x l q _ hq; cases hq
  | succ k ih =>
    intro a x l q ha hq
    simp only [loopP] at hq
    by_cases hc : x = -1 ∧ rankP (sgn l) = r
    · rw [if_pos hc] at hq
      cases l with
      | nil => cases hq
      | cons t l =>
        simp only at hq
        cases hp : P l with
        | none => rw [hp] at hq; cases hq
        | some b =>
          rw [hp] at hq
          refine ih _ _ _ _ ?_ hq
          exact ⟨by show (0 : Int) ≤ _; omega, ha, h l b hp, trivial⟩
    · rw [if_neg hc] at hq
      cases hq
      exact ha
theorem skipP_none {en : Int} {s : ByteArray} {l : List Tk} (f : Int → List Tk → RP) {q : RP} (hf : ∀ y l', smN (f y l').1) (h : (match skipP en s l with
    | some (y, l') => some (f y l')
    | none => none) = some q) : smN q.1 := by
  cases hs : skipP en s l with
  | none => rw [hs] at h; cases h
  | some p => rw [hs] at h; cases h; exact hf _ _
theorem callsP_sm {P : List Tk → Option RP} (h : ∀ l q, P l = some q → smN q.1) (en : Int) (nm : ByteArray) : ∀ (k : Nat) (ks : List Nd) (l : List Tk) (q : RP), (∀ n ∈ ks, smN n) → callsP en P nm k ks l = some q → smN q.1 := by
  intro k
  induction k with
  | zero => intro ks l q _ hq; cases hq
  | succ k ih =>
    intro ks l q hks hq
    simp only [callsP] at hq
    cases hp : P l with
    | none => rw [hp] at hq; cases hq
    | some b =>
      rw [hp] at hq
      have hb := h l b hp
      have hks' : ∀ n ∈ ks ++ [b.1], smN n := fun n hn => by
        rcases List.mem_append.1 hn with hn | hn
        · exact hks n hn
        · simp at hn; subst hn; exact hb
      simp only at hq
      by_cases hx : b.2.1 = -1
      · rw [if_pos hx] at hq
        by_cases hc : sgn b.2.2 = ⟨#[44]⟩ ∧ ks.length + 1 ≠ 20
        · rw [if_pos hc] at hq
          exact ih _ _ _ hks' hq
        · rw [if_neg hc] at hq
          exact skipP_none (fun a l2 => (callNd nm (ks ++ [b.1]), a, l2)) (fun _ _ => sm_call hks') hq
      · rw [if_neg hx] at hq
        cases hq
        exact sm_call hks
theorem ite_sm {c : Prop} [Decidable c] {a b : Option RP} {q : RP} (h : (if c then a else b) = some q) (ha : c → a = some q → smN q.1) (hb : ¬ c → b = some q → smN q.1) : smN q.1 := by
  by_cases hc : c
  · rw [if_pos hc] at h; exact ha hc h
  · rw [if_neg hc] at h; exact hb hc h
theorem ref2P_sm {start : Int} {sh : ByteArray} {l : List Tk} {q : RP} (h : ref2P start sh l = some q) : smN q.1 := by
  unfold ref2P at h
  split at h
  · cases h
  · cases h; exact sm_z
  · refine ite_sm h (fun _ h => ?_) (fun _ h => ?_)
    · split at h
      · cases h
      · cases h; exact sm_z
      · refine ite_sm h (fun _ h => ?_) (fun _ h => ?_)
        · cases h; show (0 : Int) ≤ _; omega
        · cases h; exact sm_z
    · cases h; show (0 : Int) ≤ _; omega
theorem refP_sm {sh : ByteArray} {l : List Tk} {q : RP} (h : refP sh l = some q) : smN q.1 := by
  unfold refP at h
  split at h
  · cases h
  · refine ite_sm h (fun _ h => ite_sm h (fun _ h => ref2P_sm h) (fun _ h => ?_)) (fun _ h => ref2P_sm h)
    cases h; exact sm_z
theorem numP_le {l : List UInt8} {v : Nat} (h : numP l = some v) : v ≤ 9223372036854775807 := by
  unfold numP at h
  split at h
  · cases h
  · cases h; omega
theorem stepP_sm {sh : ByteArray} {en : Int} {F : W → List Tk → Option RP} (h : ∀ w l q, F w l = some q → smN q.1) {k : Nat} (w : W) (l : List Tk) (q : RP) (hq : stepP sh en k F w l = some q) : smN q.1 := by
  cases w with
  | formula => exact h _ _ _ hq
  | pairs r =>
    simp only [stepP] at hq
    refine ite_sm hq (fun _ hq => h _ _ _ hq) fun _ hq => ite_sm hq (fun _ hq => by cases hq) fun _ hq => ?_
    cases hp : F (.pairs (r + 1)) l with
    | none => rw [hp] at hq; cases hq
    | some b => rw [hp] at hq; exact loopP_sm (fun l q => h _ l q) r k _ _ _ _ (h _ _ _ hp) hq
  | unary =>
    simp only [stepP] at hq
    refine ite_sm hq (fun _ hq => ?_) (fun _ hq => h _ _ _ hq)
    cases l with
    | nil => cases hq
    | cons t l =>
      simp only at hq
      cases hp : F .unary l with
      | none => rw [hp] at hq; cases hq
      | some b => rw [hp] at hq; cases hq; exact ⟨by show (0 : Int) ≤ _; omega, h _ _ _ hp, trivial⟩
  | single =>
    cases l with
    | nil => cases hq; exact sm_z
    | cons t l =>
      simp only [stepP] at hq
      refine ite_sm hq (fun _ hq => ite_sm hq (fun _ hq => ?_) (fun _ hq => by cases hq)) fun _ hq => ite_sm hq (fun _ hq => ?_) fun _ hq => ite_sm hq (fun _ hq => h _ _ _ hq) fun _ hq =>
        ite_sm hq (fun _ hq => refP_sm hq) fun _ hq => ite_sm hq (fun _ hq => h _ _ _ hq) fun _ hq => ?_
      · cases hn : numP t.2.2 with
        | none => rw [hn] at hq; cases hq; exact sm_z
        | some v => rw [hn] at hq; cases hq; have := numP_le hn; show (v : Int) ≤ _; omega
      · cases hq; show (0 : Int) ≤ _; omega
      · cases hq; exact sm_z
  | inner =>
    cases l with
    | nil => cases hq
    | cons t l =>
      simp only [stepP] at hq
      cases hp : F .formula l with
      | none => rw [hp] at hq; cases hq
      | some b =>
        rw [hp] at hq
        have hb := h _ _ _ hp
        refine ite_sm hq (fun _ hq => skipP_none (fun y l3 => (b.1, y, l3)) (fun _ _ => hb) hq) fun _ hq => ?_
        cases hq; exact hb
  | word =>
    cases l with
    | nil => cases hq
    | cons t l =>
      simp only [stepP] at hq
      refine ite_sm hq (fun _ hq => ?_) fun _ hq => ite_sm hq (fun _ hq => ?_) fun _ hq => ite_sm hq (fun _ hq => h _ _ _ hq) fun _ hq => ite_sm hq (fun _ hq => ?_) fun _ hq => refP_sm hq
      · cases hq; show (1 : Int) ≤ _; omega
      · cases hq; show (0 : Int) ≤ _; omega
      · cases hq; show (0 : Int) ≤ _; omega
  | call =>
    cases l with
    | nil => cases hq
    | cons t l =>
      cases l with
      | nil => cases hq
      | cons u l =>
        simp only [stepP] at hq
        refine ite_sm hq (fun _ hq => ?_) fun _ hq => callsP_sm (fun l q => h _ l q) en _ k [] _ _ (fun n hn => by cases hn) hq
        cases hq; exact sm_call (l := []) fun n hn => by cases hn
theorem pF_sm {sh : ByteArray} {en : Int} : ∀ (n : Nat) (w : W) (l : List Tk) (q : RP), pF sh en n w l = some q → smN q.1
  | 0, _, _, _, h => by cases h
  | n + 1, w, l, q, h => stepP_sm (fun w l q h => pF_sm n w l q h) w l q h
end Go.Proofs.YteibnmlfipkmeaaGreatDoor

/- Both Parses, on any text and sheet: the same. -/
namespace Go.Proofs.YteibnmlfipkmeaaGreatDoor
open Go Go.RowKit

/- The deeper it may call itself, the more it tells. -/
theorem loopP_mono {P P' : List Tk → Option RP} (h : ∀ l r, P l = some r → P' l = some r) (r : Nat) : ∀ (k k' : Nat), k ≤ k' → ∀ (a : Nd) (x : Int) (l : List Tk) (q : RP), loopP P r k a x l = some q → loopP P' r k' a x l = some q := by
  intro k
  induction k with
  | zero => intro k' _ a x l q hq; cases hq
  | succ k ih =>
    intro k' hk a x l q hq
    obtain ⟨k', rfl⟩ : ∃ j, k' = j + 1 := ⟨k' - 1, by omega⟩
    simp only [loopP] at hq ⊢
    by_cases hc : x = -1 ∧ rankP (sgn l) = r
    · rw [if_pos hc] at hq ⊢
      cases l with
      | nil => cases hq
      | cons t l =>
        simp only at hq ⊢
        cases hp : P l with
        | none => rw [hp] at hq; cases hq
        | some b =>
          rw [hp] at hq
          rw [h l b hp]
          exact ih k' (by omega) _ _ _ _ hq
    · rw [if_neg hc] at hq ⊢
      exact hq
theorem callsP_mono {P P' : List Tk → Option RP} (h : ∀ l r, P l = some r → P' l = some r) (en : Int) (nm : ByteArray) : ∀ (k k' : Nat), k ≤ k' → ∀ (ks : List Nd) (l : List Tk) (q : RP), callsP en P nm k ks l = some q → callsP en P' nm k' ks l = some q := by
  intro k
  induction k with
  | zero => intro k' _ ks l q hq; cases hq
  | succ k ih =>
    intro k' hk ks l q hq
    obtain ⟨k', rfl⟩ : ∃ j, k' = j + 1 := ⟨k' - 1, by omega⟩
    simp only [callsP] at hq ⊢
    cases hp : P l with
    | none => rw [hp] at hq; cases hq
    | some b =>
      rw [hp] at hq
      rw [h l b hp]
      simp only at hq ⊢
      by_cases hx : b.2.1 = -1
      · rw [if_pos hx] at hq ⊢
        by_cases hc : sgn b.2.2 = ⟨#[44]⟩ ∧ ks.length + 1 ≠ 20
        · rw [if_pos hc] at hq ⊢
          exact ih k' (by omega) _ _ _ hq
        · rw [if_neg hc] at hq ⊢
          exact hq
      · rw [if_neg hx] at hq ⊢
        exact hq
theorem ite_mono {α : Type} {c : Prop} [Decidable c] {a b a' b' : Option α} {q : α} (h1 : c → a = some q → a' = some q) (h2 : ¬ c → b = some q → b' = some q) (h : (if c then a else b) = some q) : (if c then a' else b') = some q := by
  by_cases hc : c
  · rw [if_pos hc] at h ⊢; exact h1 hc h
  · rw [if_neg hc] at h ⊢; exact h2 hc h
theorem stepP_mono {sh : ByteArray} {en : Int} {F F' : W → List Tk → Option RP} (h : ∀ w l r, F w l = some r → F' w l = some r) {k k' : Nat} (hk : k ≤ k') (w : W) (l : List Tk) (q : RP) (hq : stepP sh en k F w l = some q) : stepP sh en k' F' w l = some q := by
  cases w with
  | formula => exact h _ _ _ hq
  | pairs r =>
    simp only [stepP] at hq ⊢
    by_cases h4 : 4 < r
    · rw [if_pos h4] at hq ⊢; exact h _ _ _ hq
    · rw [if_neg h4] at hq ⊢
      by_cases h0 : r = 0
      · rw [if_pos h0] at hq; cases hq
      · rw [if_neg h0] at hq ⊢
        cases hp : F (.pairs (r + 1)) l with
        | none => rw [hp] at hq; cases hq
        | some b =>
          rw [hp] at hq
          rw [h _ _ _ hp]
          exact loopP_mono (fun l r => h _ l r) r k k' hk _ _ _ _ hq
  | unary =>
    simp only [stepP] at hq ⊢
    by_cases hc : sgn l = ⟨#[45]⟩
    · rw [if_pos hc] at hq ⊢
      cases l with
      | nil => cases hq
      | cons t l =>
        simp only at hq ⊢
        cases hp : F .unary l with
        | none => rw [hp] at hq; cases hq
        | some b => rw [hp] at hq; rw [h _ _ _ hp]; exact hq
    · rw [if_neg hc] at hq ⊢; exact h _ _ _ hq
  | single =>
    cases l with
    | nil => exact hq
    | cons t l =>
      simp only [stepP] at hq ⊢
      exact ite_mono (fun _ => id) (fun _ => ite_mono (fun _ => id) (fun _ => ite_mono (fun _ => h _ _ _) (fun _ => ite_mono (fun _ => id) (fun _ => ite_mono (fun _ => h _ _ _) (fun _ => id))))) hq
  | inner =>
    cases l with
    | nil => cases hq
    | cons t l =>
      simp only [stepP] at hq ⊢
      cases hp : F .formula l with
      | none => rw [hp] at hq; cases hq
      | some b => rw [hp] at hq; rw [h _ _ _ hp]; exact hq
  | word =>
    cases l with
    | nil => cases hq
    | cons t l =>
      simp only [stepP] at hq ⊢
      exact ite_mono (fun _ => id) (fun _ => ite_mono (fun _ => id) (fun _ => ite_mono (fun _ => h _ _ _) (fun _ => id))) hq
  | call =>
    cases l with
    | nil => cases hq
    | cons t l =>
      cases l with
      | nil => cases hq
      | cons u l =>
        simp only [stepP] at hq ⊢
        exact ite_mono (fun _ => id) (fun _ => callsP_mono (fun l r => h _ l r) en _ k k' hk _ _ _) hq
theorem pF_mono {sh : ByteArray} {en : Int} : ∀ (n n' : Nat), n ≤ n' → ∀ (w : W) (l : List Tk) (q : RP), pF sh en n w l = some q → pF sh en n' w l = some q := by
  intro n
  induction n with
  | zero => intro n' _ w l q hq; cases hq
  | succ n ih =>
    intro n' hn w l q hq
    obtain ⟨n', rfl⟩ : ∃ j, n' = j + 1 := ⟨n' - 1, by omega⟩
    exact stepP_mono (fun w l r hr => ih n' (by omega) w l r hr) (by omega) w l q hq

/- The tokens of a text may be read. -/
theorem span_all (p : Int → Bool) : ∀ l : List UInt8, (l.take (spanL p l)).all (fun b => p b.toNat) = true
  | [] => rfl
  | b :: l => by
    simp only [spanL]
    by_cases h : p (b.toNat : Int) = true
    · rw [if_pos h, List.take_succ_cons, List.all_cons, span_all p l, h]; rfl
    · rw [if_neg h]; rfl
theorem tok_good {b : UInt8} {l : List UInt8} (i : Nat) (hlen : (b :: l).length ≤ 200) (h0 : (firstP (b :: l)).2 ≠ 0) : tkGood ((firstP (b :: l)).1, i, tellP (b :: l)) := by
  have hle : (tellP (b :: l)).length ≤ 200 := by
    unfold tellP
    split
    · have := inside_le (b :: l); omega
    · rw [List.length_take]; omega
  refine ⟨⟨hle, fun h1 => ?_⟩, fun h4 => ?_⟩
  · have h1 : (firstP (b :: l)).1 = 1 := h1
    have ht : tellP (b :: l) = (b :: l).take (firstP (b :: l)).2 := by unfold tellP; rw [if_neg (by omega)]
    by_cases hd : digitI (b.toNat : Int) = true
    · have hf := first_digit (l := l) hd
      rw [hf] at h0
      have ht : tellP (b :: l) = (b :: l).take (spanL digitI (b :: l)) := by rw [ht, hf]
      refine ⟨fun e => ?_, ?_⟩
      · have e : tellP (b :: l) = [] := e
        rw [ht, List.take_eq_nil_iff] at e
        rcases e with e | e
        · exact h0 e
        · cases e
      · show (tellP (b :: l)).all dg = true
        rw [ht]
        have := span_all digitI (b :: l)
        rw [List.all_eq_true] at this ⊢
        intro x hx
        rw [← digit_dg]
        exact this x hx
    · exfalso
      simp only [Bool.not_eq_true] at hd
      by_cases h2 : b = 34
      · rw [first_quote hd h2] at h1; simp at h1
      · by_cases h3 : greatI (b.toNat : Int) = true
        · rw [first_great hd h2 h3] at h1; simp at h1
        · simp only [Bool.not_eq_true] at h3
          by_cases h4 : smallI (b.toNat : Int) = true
          · rw [first_small hd h2 h3 h4] at h1; simp at h1
          · simp only [Bool.not_eq_true] at h4
            rw [first_sign hd h2 h3 h4] at h1; simp at h1
  · have h4' : (firstP (b :: l)).1 = 4 := h4
    show (33 : UInt8) ∉ tellP (b :: l)
    have ht : tellP (b :: l) = (b :: l).take (firstP (b :: l)).2 := by unfold tellP; rw [if_neg (by omega)]
    by_cases hd : digitI (b.toNat : Int) = true
    · rw [first_digit hd] at h4'; simp at h4'
    · simp only [Bool.not_eq_true] at hd
      by_cases h2 : b = 34
      · rw [first_quote hd h2] at h4'; simp at h4'
      · by_cases h3 : greatI (b.toNat : Int) = true
        · rw [first_great hd h2 h3] at h4'; simp at h4'
        · simp only [Bool.not_eq_true] at h3
          by_cases h5 : smallI (b.toNat : Int) = true
          · rw [ht, first_small hd h2 h3 h5]
            intro hm
            have := List.all_eq_true.1 (span_all nameI (b :: l)) _ hm
            revert this
            decide
          · simp only [Bool.not_eq_true] at h5
            rw [first_sign hd h2 h3 h5] at h4'; simp at h4'
theorem split_good : ∀ (f i : Nat) (l : List UInt8), l.length ≤ 200 → (∀ t ∈ (splitL f i l).1, tkGood t) ∧ (splitL f i l).1.length ≤ l.length := by
  intro f
  induction f with
  | zero => intro i l _; exact ⟨(fun t ht => by cases ht), Nat.zero_le _⟩
  | succ f ih =>
    intro i l hl
    cases l with
    | nil => exact ⟨(fun t ht => by cases ht), Nat.zero_le _⟩
    | cons b l =>
      by_cases h32 : b = 32
      · subst h32
        rw [split_blank]
        obtain ⟨h1, h2⟩ := ih (i + 1) l (by simp at hl; omega)
        exact ⟨h1, by simp; omega⟩
      · by_cases h0 : (firstP (b :: l)).2 = 0
        · rw [split_none h32 h0]; exact ⟨(fun t ht => by cases ht), Nat.zero_le _⟩
        · rw [split_tok h32 h0]
          obtain ⟨h1, h2⟩ := ih (i + (firstP (b :: l)).2) ((b :: l).drop (firstP (b :: l)).2) (by rw [List.length_drop]; omega)
          refine ⟨fun t ht => ?_, ?_⟩
          · rcases List.mem_cons.1 ht with rfl | ht
            · exact tok_good i hl h0
            · exact h1 t ht
          · rw [List.length_drop] at h2
            have := firstP_le (b :: l)
            simp only [List.length_cons] at *
            omega

/-- What Parse tells, as often as it is let. -/
def parseN (n : Nat) (s sheet : ByteArray) : Option (Nd × Int × Int) :=
  if 200 < s.size then some (zNd, 0, 5) else
  match splitP s.data.toList with
  | (_, some i) => some (zNd, ((i : Nat) : Int), 3)
  | (toks, none) => if nameB sheet = false then some (zNd, 0, 1) else
    match wholeP sheet (s.size : Int) n toks with
    | none => none
    | some (a, x, _) => if x ≠ -1 then some (zNd, x, 3) else
      if 400 < cnt a then none else if 20 < dN a then some (zNd, 0, 4) else some (a, -1, 0)
abbrev ansP (q : Nd × Int × Int) : V := .tup [nodeV q.1, .x (.int .i64 q.2.1), .x (.int .i64 q.2.2)]
theorem parseV_N (n : Nat) (s sheet : ByteArray) : parseV n s sheet = (parseN n s sheet).map ansP := by
  unfold parseV parseN
  by_cases h : 200 < s.size
  · rw [if_pos h, if_pos h]; rfl
  · rw [if_neg h, if_neg h]
    cases splitP s.data.toList with
    | mk toks bad =>
      cases bad with
      | some i => rfl
      | none =>
        simp only
        cases nameB sheet with
        | false => rfl
        | true =>
          simp only [Bool.true_eq_false, if_false]
          cases wholeP sheet (s.size : Int) n toks with
          | none => rfl
          | some q =>
            simp only
            split
            · rfl
            · split
              · rfl
              · split <;> rfl
theorem parseN_mono {s sheet : ByteArray} {n n' : Nat} (hn : n ≤ n') {q : Nd × Int × Int} (h : parseN n s sheet = some q) : parseN n' s sheet = some q := by
  unfold parseN at h ⊢
  by_cases h200 : 200 < s.size
  · rw [if_pos h200] at h ⊢; exact h
  · rw [if_neg h200] at h ⊢
    cases hs : splitP s.data.toList with
    | mk toks bad =>
      rw [hs] at h
      cases bad with
      | some i => exact h
      | none =>
        simp only at h ⊢
        cases hn : nameB sheet with
        | false => rw [hn] at h; exact h
        | true =>
          rw [hn] at h
          simp only [Bool.true_eq_false, if_false] at h ⊢
          cases hw : wholeP sheet (s.size : Int) n toks with
          | none => rw [hw] at h; cases h
          | some q1 =>
            rw [hw] at h
            have hw' : wholeP sheet (s.size : Int) n' toks = some q1 := by
              unfold wholeP at hw ⊢
              cases hp : pF sheet (s.size : Int) n .formula toks with
              | none => rw [hp] at hw; cases hw
              | some b => rw [hp] at hw; rw [pF_mono n n' (by omega) _ _ _ hp]; exact hw
            rw [hw']
            exact h
noncomputable def FProj : List V → Option V := FEv FParseN
noncomputable def FRef : List V → Option V := FEv FParseR
theorem parse_at {s sheet : ByteArray} {n : Nat} {q : Nd × Int × Int} (h : parseN n s sheet = some q) : FProj [.x (.string s), .x (.string sheet)] = some (ansP q) :=
  FEv_at ⟨n, fun n' hn => by show parseV n' s sheet = _; rw [parseV_N, parseN_mono hn h]; rfl⟩
theorem parse_ev {s sheet : ByteArray} {q : Nd × Int × Int} (h : Ev fun n => parseN n s sheet = some q) : FProj [.x (.string s), .x (.string sheet)] = some (ansP q) :=
  FEv_at (h.mono fun n hn => by show parseV n s sheet = _; rw [parseV_N, hn]; rfl)

theorem parseN_sm {n : Nat} {s sheet : ByteArray} {q : Nd × Int × Int} (h : parseN n s sheet = some q) : smN q.1 := by
  unfold parseN at h
  split at h
  · cases h; exact sm_z
  · split at h
    · cases h; exact sm_z
    · split at h
      · cases h; exact sm_z
      · split at h
        · cases h
        · rename_i a x l hw
          have ha : smN a := by
            unfold wholeP at hw
            split at hw
            · cases hw
            · rename_i hp
              have := pF_sm _ _ _ _ hp
              split at hw <;> · cases hw; exact this
          split at h
          · cases h; exact sm_z
          · split at h
            · cases h
            · split at h
              · cases h; exact sm_z
              · cases h; exact ha
/-- Whatever the text and the sheet are: both tell the same; and what is told is a formula that may be. -/
theorem parse_bothS (s sheet : ByteArray) : ∃ (a : Nd) (x e : Int), FProj [.x (.string s), .x (.string sheet)] = some (ansP (a, x, e)) ∧ FRef [.x (.string s), .x (.string sheet)] = some (ansP (a, x, e)) ∧ cnt a ≤ 400 ∧ (e = 0 → dN a ≤ 20 ∧ rN a = true) ∧ smN a := by
  have hz : cnt zNd ≤ 400 := by rw [cnt_leaf]; omega
  have both : ∀ (a : Nd) (x e : Int), (Ev fun n => parseN n s sheet = some (a, x, e)) → (Ev fun m => parseRV m s sheet = some (ansP (a, x, e))) → cnt a ≤ 400 → (e = 0 → dN a ≤ 20 ∧ rN a = true) → ∃ (a : Nd) (x e : Int), FProj [.x (.string s), .x (.string sheet)] = some (ansP (a, x, e)) ∧ FRef [.x (.string s), .x (.string sheet)] = some (ansP (a, x, e)) ∧ cnt a ≤ 400 ∧ (e = 0 → dN a ≤ 20 ∧ rN a = true) ∧ smN a :=
    fun a x e h1 h2 h3 h4 => ⟨a, x, e, parse_ev h1, FEv_at (h2.mono fun m hm => hm), h3, h4, by
      obtain ⟨M, hM⟩ := h1
      exact parseN_sm (hM M (Nat.le_refl _))⟩
  by_cases hlen : 200 < s.size
  · exact both zNd 0 5 (Ev.all fun n => by unfold parseN; rw [if_pos hlen]) (Ev.all fun m => by unfold parseRV; rw [if_pos hlen]) hz (fun h => by omega)
  · cases hs : splitP s.data.toList with
    | mk toks bad =>
      cases bad with
      | some i => exact both zNd ((i : Nat) : Int) 3 (Ev.all fun n => by unfold parseN; rw [if_neg hlen, hs]) (Ev.all fun m => by unfold parseRV; rw [if_neg hlen, hs]) hz (fun h => by omega)
      | none =>
        cases hn : nameB sheet with
        | false => exact both zNd 0 1 (Ev.all fun n => by unfold parseN; rw [if_neg hlen, hs]; simp only; rw [hn, if_pos rfl]) (Ev.all fun m => by unfold parseRV; rw [if_neg hlen, hs]; simp only; rw [hn, if_pos rfl]) hz (fun h => by omega)
        | true =>
          obtain ⟨s0, rfl⟩ := B_of sheet
          have h33 := name_bytes hn
          have h8 := name_len hn
          rw [B_size] at h8
          have hl200 : s.data.toList.length ≤ 200 := by
            have : s.data.toList.length = s.size := rfl
            omega
          obtain ⟨hg, hc⟩ := split_good (s.data.toList.length + 1) 0 s.data.toList hl200
          have hs' : splitL (s.data.toList.length + 1) 0 s.data.toList = (toks, none) := hs
          rw [hs'] at hg hc
          have hg : ∀ t ∈ toks, tkGood t := hg
          have hc : toks.length ≤ s.data.toList.length := hc
          have h1000 : toks.length ≤ 1000 := by omega
          obtain ⟨⟨a, x, l', q1, q2⟩, _⟩ := all_corr (en := s.size) h1000 hg (sh := B s0) rfl h33 (by omega) toks.length 0 (by omega) (by omega)
          rw [List.drop_zero] at q1
          have eP : ∀ n, parseN n s (B s0) = match wholeP (B s0) (s.size : Int) n toks with
              | none => none
              | some (a, x, _) => if x ≠ -1 then some (zNd, x, 3) else if 400 < cnt a then none else if 20 < dN a then some (zNd, 0, 4) else some (a, -1, 0) := fun n => by
            unfold parseN
            rw [if_neg hlen, hs]
            simp only
            rw [hn, if_neg (by decide)]
          have eR : ∀ m, parseRV m s (B s0) = match rF toks (s.size : Int) (B s0) m (.pair 0) 0 with
              | none => none
              | some (a, i, y) => if 0 ≤ y then some (.tup [nodeV zNd, .x (.int .i64 y), .x (.int .i64 3)]) else if y ≠ -1 then none else
                if i < toks.length then some (.tup [nodeV zNd, .x (.int .i64 (atR toks (s.size : Int) i)), .x (.int .i64 3)]) else
                if 400 < cnt a then none else if 20 < dN a then some (.tup [nodeV zNd, .x (.int .i64 0), .x (.int .i64 4)]) else some (.tup [nodeV a, .x (.int .i64 (-1)), .x (.int .i64 0)]) := fun m => by
            unfold parseRV
            rw [if_neg hlen, hs]
            simp only
            rw [hn, if_neg (by decide), if_neg (by omega)]
            rfl
          rcases q2 with ⟨rfl, i', rfl, w2, w3, w4, w5⟩ | ⟨w0, a', i', w1, w2⟩
          · by_cases hi : i' < toks.length
            · rcases get_drop toks i' with ⟨t, g1, g2, g3⟩ | ⟨_, _, g3⟩
              case inr => omega
              have hat := atP_pos s.size (toks.drop i')
              refine both zNd (atP (s.size : Int) (toks.drop i')) 3 (q1.mono fun n hp => ?_) (w5.mono fun m hm => ?_) hz (fun h => by omega)
              · rw [eP]
                simp only [wholeP, hp]
                rw [if_pos ⟨trivial, by rw [g2]; simp⟩]
                simp only
                rw [if_pos (by omega)]
              · rw [eR, hm]
                simp only
                rw [if_neg (by omega), if_neg (by simp), if_pos hi, atR_P]
            · have hnil : toks.drop i' = [] := List.drop_eq_nil_of_le (by omega)
              have hcn : cnt a ≤ 200 := by omega
              have hP : ∀ n, pF (B s0) (s.size : Int) n .formula toks = some (a, -1, toks.drop i') → wholeP (B s0) (s.size : Int) n toks = some (a, -1, toks.drop i') := fun n hp => by
                simp only [wholeP, hp]
                rw [if_neg (fun h => h.2 hnil)]
              by_cases h20 : 20 < dN a
              · refine both zNd 0 4 (q1.mono fun n hp => ?_) (w5.mono fun m hm => ?_) hz (fun h => by omega)
                · rw [eP, hP n hp]
                  simp only
                  rw [if_neg (by simp), if_neg (by omega), if_pos h20]
                · rw [eR, hm]
                  simp only
                  rw [if_neg (by omega), if_neg (by simp), if_neg hi, if_neg (by omega), if_pos h20]
              · refine both a (-1) 0 (q1.mono fun n hp => ?_) (w5.mono fun m hm => ?_) (by omega) (fun _ => ⟨by omega, w3⟩)
                · rw [eP, hP n hp]
                  simp only
                  rw [if_neg (by simp), if_neg (by omega), if_neg h20]
                · rw [eR, hm]
                  simp only
                  rw [if_neg (by omega), if_neg (by simp), if_neg hi, if_neg (by omega), if_neg h20]
          · refine both zNd x 3 (q1.mono fun n hp => ?_) (w2.mono fun m hm => ?_) hz (fun h => by omega)
            · rw [eP]
              simp only [wholeP, hp]
              rw [if_neg (fun h => by omega)]
              simp only
              rw [if_pos (by omega)]
            · rw [eR, hm]
              simp only
              rw [if_pos w0]
end Go.Proofs.YteibnmlfipkmeaaGreatDoor
