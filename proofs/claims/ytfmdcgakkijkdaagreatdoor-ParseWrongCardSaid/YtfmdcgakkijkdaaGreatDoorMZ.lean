/- Both Parses, on any text and sheet: the same. -/
import Derived.Test.YtfmdcgakkijkdaaGreatDoorMX
import Derived.Test.YtfmdcgakkijkdaaGreatDoorMF
namespace Go.Proofs.YtfmdcgakkijkdaaGreatDoor
open Go Go.RowKit

/- The deeper it may call itself, the more it tells. -/
theorem loopP_mono {P P' : List Tk → Option RP} (h : ∀ l r, P l = some r → P' l = some r) (r : Nat) : ∀ (k k' : Nat), k ≤ k' → ∀ (a : Nd) (x : Int) (l : List Tk) (q : RP), loopP P r k a x l = some q → loopP P' r k' a x l = some q := by
  intro k
  induction k with
  | zero => intro k' _ a x l q hq; cases hq
  | succ k ih =>
    intro k' hk a x l q hq
    obtain ⟨k', rfl⟩ : ∃ j, k' = j + 1 := ⟨k' - 1, by omega⟩
    simp only [loopP] at hq ⊢
    by_cases hc : x = -1 ∧ rankP (sgn l) = r
    · rw [if_pos hc] at hq ⊢
      cases l with
      | nil => cases hq
      | cons t l =>
        simp only at hq ⊢
        cases hp : P l with
        | none => rw [hp] at hq; cases hq
        | some b =>
          rw [hp] at hq
          rw [h l b hp]
          exact ih k' (by omega) _ _ _ _ hq
    · rw [if_neg hc] at hq ⊢
      exact hq
theorem callsP_mono {P P' : List Tk → Option RP} (h : ∀ l r, P l = some r → P' l = some r) (en : Int) (nm : ByteArray) : ∀ (k k' : Nat), k ≤ k' → ∀ (ks : List Nd) (l : List Tk) (q : RP), callsP en P nm k ks l = some q → callsP en P' nm k' ks l = some q := by
  intro k
  induction k with
  | zero => intro k' _ ks l q hq; cases hq
  | succ k ih =>
    intro k' hk ks l q hq
    obtain ⟨k', rfl⟩ : ∃ j, k' = j + 1 := ⟨k' - 1, by omega⟩
    simp only [callsP] at hq ⊢
    cases hp : P l with
    | none => rw [hp] at hq; cases hq
    | some b =>
      rw [hp] at hq
      rw [h l b hp]
      simp only at hq ⊢
      by_cases hx : b.2.1 = -1
      · rw [if_pos hx] at hq ⊢
        by_cases hc : sgn b.2.2 = ⟨#[44]⟩ ∧ ks.length + 1 ≠ 20
        · rw [if_pos hc] at hq ⊢
          exact ih k' (by omega) _ _ _ hq
        · rw [if_neg hc] at hq ⊢
          exact hq
      · rw [if_neg hx] at hq ⊢
        exact hq
theorem ite_mono {α : Type} {c : Prop} [Decidable c] {a b a' b' : Option α} {q : α} (h1 : c → a = some q → a' = some q) (h2 : ¬ c → b = some q → b' = some q) (h : (if c then a else b) = some q) : (if c then a' else b') = some q := by
  by_cases hc : c
  · rw [if_pos hc] at h ⊢; exact h1 hc h
  · rw [if_neg hc] at h ⊢; exact h2 hc h
theorem stepP_mono {sh : ByteArray} {en : Int} {F F' : W → List Tk → Option RP} (h : ∀ w l r, F w l = some r → F' w l = some r) {k k' : Nat} (hk : k ≤ k') (w : W) (l : List Tk) (q : RP) (hq : stepP sh en k F w l = some q) : stepP sh en k' F' w l = some q := by
  cases w with
  | formula => exact h _ _ _ hq
  | pairs r =>
    simp only [stepP] at hq ⊢
    by_cases h4 : 4 < r
    · rw [if_pos h4] at hq ⊢; exact h _ _ _ hq
    · rw [if_neg h4] at hq ⊢
      by_cases h0 : r = 0
      · rw [if_pos h0] at hq; cases hq
      · rw [if_neg h0] at hq ⊢
        cases hp : F (.pairs (r + 1)) l with
        | none => rw [hp] at hq; cases hq
        | some b =>
          rw [hp] at hq
          rw [h _ _ _ hp]
          exact loopP_mono (fun l r => h _ l r) r k k' hk _ _ _ _ hq
  | unary =>
    simp only [stepP] at hq ⊢
    by_cases hc : sgn l = ⟨#[45]⟩
    · rw [if_pos hc] at hq ⊢
      cases l with
      | nil => cases hq
      | cons t l =>
        simp only at hq ⊢
        cases hp : F .unary l with
        | none => rw [hp] at hq; cases hq
        | some b => rw [hp] at hq; rw [h _ _ _ hp]; exact hq
    · rw [if_neg hc] at hq ⊢; exact h _ _ _ hq
  | single =>
    cases l with
    | nil => exact hq
    | cons t l =>
      simp only [stepP] at hq ⊢
      exact ite_mono (fun _ => id) (fun _ => ite_mono (fun _ => id) (fun _ => ite_mono (fun _ => h _ _ _) (fun _ => ite_mono (fun _ => id) (fun _ => ite_mono (fun _ => h _ _ _) (fun _ => id))))) hq
  | inner =>
    cases l with
    | nil => cases hq
    | cons t l =>
      simp only [stepP] at hq ⊢
      cases hp : F .formula l with
      | none => rw [hp] at hq; cases hq
      | some b => rw [hp] at hq; rw [h _ _ _ hp]; exact hq
  | word =>
    cases l with
    | nil => cases hq
    | cons t l =>
      simp only [stepP] at hq ⊢
      exact ite_mono (fun _ => id) (fun _ => ite_mono (fun _ => id) (fun _ => ite_mono (fun _ => h _ _ _) (fun _ => id))) hq
  | call =>
    cases l with
    | nil => cases hq
    | cons t l =>
      cases l with
      | nil => cases hq
      | cons u l =>
        simp only [stepP] at hq ⊢
        exact ite_mono (fun _ => id) (fun _ => callsP_mono (fun l r => h _ l r) en _ k k' hk _ _ _) hq
theorem pF_mono {sh : ByteArray} {en : Int} : ∀ (n n' : Nat), n ≤ n' → ∀ (w : W) (l : List Tk) (q : RP), pF sh en n w l = some q → pF sh en n' w l = some q := by
  intro n
  induction n with
  | zero => intro n' _ w l q hq; cases hq
  | succ n ih =>
    intro n' hn w l q hq
    obtain ⟨n', rfl⟩ : ∃ j, n' = j + 1 := ⟨n' - 1, by omega⟩
    exact stepP_mono (fun w l r hr => ih n' (by omega) w l r hr) (by omega) w l q hq

/- The tokens of a text may be read. -/
theorem span_all (p : Int → Bool) : ∀ l : List UInt8, (l.take (spanL p l)).all (fun b => p b.toNat) = true
  | [] => rfl
  | b :: l => by
    simp only [spanL]
    by_cases h : p (b.toNat : Int) = true
    · rw [if_pos h, List.take_succ_cons, List.all_cons, span_all p l, h]; rfl
    · rw [if_neg h]; rfl
theorem tok_good {b : UInt8} {l : List UInt8} (i : Nat) (hlen : (b :: l).length ≤ 200) (h0 : (firstP (b :: l)).2 ≠ 0) : tkGood ((firstP (b :: l)).1, i, tellP (b :: l)) := by
  have hle : (tellP (b :: l)).length ≤ 200 := by
    unfold tellP
    split
    · have := inside_le (b :: l); omega
    · rw [List.length_take]; omega
  refine ⟨⟨hle, fun h1 => ?_⟩, fun h4 => ?_⟩
  · have h1 : (firstP (b :: l)).1 = 1 := h1
    have ht : tellP (b :: l) = (b :: l).take (firstP (b :: l)).2 := by unfold tellP; rw [if_neg (by omega)]
    by_cases hd : digitI (b.toNat : Int) = true
    · have hf := first_digit (l := l) hd
      rw [hf] at h0
      have ht : tellP (b :: l) = (b :: l).take (spanL digitI (b :: l)) := by rw [ht, hf]
      refine ⟨fun e => ?_, ?_⟩
      · have e : tellP (b :: l) = [] := e
        rw [ht, List.take_eq_nil_iff] at e
        rcases e with e | e
        · exact h0 e
        · cases e
      · show (tellP (b :: l)).all dg = true
        rw [ht]
        have := span_all digitI (b :: l)
        rw [List.all_eq_true] at this ⊢
        intro x hx
        rw [← digit_dg]
        exact this x hx
    · exfalso
      simp only [Bool.not_eq_true] at hd
      by_cases h2 : b = 34
      · rw [first_quote hd h2] at h1; simp at h1
      · by_cases h3 : greatI (b.toNat : Int) = true
        · rw [first_great hd h2 h3] at h1; simp at h1
        · simp only [Bool.not_eq_true] at h3
          by_cases h4 : smallI (b.toNat : Int) = true
          · rw [first_small hd h2 h3 h4] at h1; simp at h1
          · simp only [Bool.not_eq_true] at h4
            rw [first_sign hd h2 h3 h4] at h1; simp at h1
  · have h4' : (firstP (b :: l)).1 = 4 := h4
    show (33 : UInt8) ∉ tellP (b :: l)
    have ht : tellP (b :: l) = (b :: l).take (firstP (b :: l)).2 := by unfold tellP; rw [if_neg (by omega)]
    by_cases hd : digitI (b.toNat : Int) = true
    · rw [first_digit hd] at h4'; simp at h4'
    · simp only [Bool.not_eq_true] at hd
      by_cases h2 : b = 34
      · rw [first_quote hd h2] at h4'; simp at h4'
      · by_cases h3 : greatI (b.toNat : Int) = true
        · rw [first_great hd h2 h3] at h4'; simp at h4'
        · simp only [Bool.not_eq_true] at h3
          by_cases h5 : smallI (b.toNat : Int) = true
          · rw [ht, first_small hd h2 h3 h5]
            intro hm
            have := List.all_eq_true.1 (span_all nameI (b :: l)) _ hm
            revert this
            decide
          · simp only [Bool.not_eq_true] at h5
            rw [first_sign hd h2 h3 h5] at h4'; simp at h4'
theorem split_good : ∀ (f i : Nat) (l : List UInt8), l.length ≤ 200 → (∀ t ∈ (splitL f i l).1, tkGood t) ∧ (splitL f i l).1.length ≤ l.length := by
  intro f
  induction f with
  | zero => intro i l _; exact ⟨(fun t ht => by cases ht), Nat.zero_le _⟩
  | succ f ih =>
    intro i l hl
    cases l with
    | nil => exact ⟨(fun t ht => by cases ht), Nat.zero_le _⟩
    | cons b l =>
      by_cases h32 : b = 32
      · subst h32
        rw [split_blank]
        obtain ⟨h1, h2⟩ := ih (i + 1) l (by simp at hl; omega)
        exact ⟨h1, by simp; omega⟩
      · by_cases h0 : (firstP (b :: l)).2 = 0
        · rw [split_none h32 h0]; exact ⟨(fun t ht => by cases ht), Nat.zero_le _⟩
        · rw [split_tok h32 h0]
          obtain ⟨h1, h2⟩ := ih (i + (firstP (b :: l)).2) ((b :: l).drop (firstP (b :: l)).2) (by rw [List.length_drop]; omega)
          refine ⟨fun t ht => ?_, ?_⟩
          · rcases List.mem_cons.1 ht with rfl | ht
            · exact tok_good i hl h0
            · exact h1 t ht
          · rw [List.length_drop] at h2
            have := firstP_le (b :: l)
            simp only [List.length_cons] at *
            omega

/-- What Parse tells, as often as it is let. -/
def parseN (n : Nat) (s sheet : ByteArray) : Option (Nd × Int × Int) :=
  if 200 < s.size then some (zNd, 0, 5) else
  match splitP s.data.toList with
  | (_, some i) => some (zNd, ((i : Nat) : Int), 3)
  | (toks, none) => if nameB sheet = false then some (zNd, 0, 1) else
    match wholeP sheet (s.size : Int) n toks with
    | none => none
    | some (a, x, _) => if x ≠ -1 then some (zNd, x, 3) else
      if 400 < cnt a then none else if 20 < dN a then some (zNd, 0, 4) else some (a, -1, 0)
abbrev ansP (q : Nd × Int × Int) : V := .tup [nodeV q.1, .x (.int .i64 q.2.1), .x (.int .i64 q.2.2)]
theorem parseV_N (n : Nat) (s sheet : ByteArray) : parseV n s sheet = (parseN n s sheet).map ansP := by
  unfold parseV parseN
  by_cases h : 200 < s.size
  · rw [if_pos h, if_pos h]; rfl
  · rw [if_neg h, if_neg h]
    cases splitP s.data.toList with
    | mk toks bad =>
      cases bad with
      | some i => rfl
      | none =>
        simp only
        cases nameB sheet with
        | false => rfl
        | true =>
          simp only [Bool.true_eq_false, if_false]
          cases wholeP sheet (s.size : Int) n toks with
          | none => rfl
          | some q =>
            simp only
            split
            · rfl
            · split
              · rfl
              · split <;> rfl
theorem parseN_mono {s sheet : ByteArray} {n n' : Nat} (hn : n ≤ n') {q : Nd × Int × Int} (h : parseN n s sheet = some q) : parseN n' s sheet = some q := by
  unfold parseN at h ⊢
  by_cases h200 : 200 < s.size
  · rw [if_pos h200] at h ⊢; exact h
  · rw [if_neg h200] at h ⊢
    cases hs : splitP s.data.toList with
    | mk toks bad =>
      rw [hs] at h
      cases bad with
      | some i => exact h
      | none =>
        simp only at h ⊢
        cases hn : nameB sheet with
        | false => rw [hn] at h; exact h
        | true =>
          rw [hn] at h
          simp only [Bool.true_eq_false, if_false] at h ⊢
          cases hw : wholeP sheet (s.size : Int) n toks with
          | none => rw [hw] at h; cases h
          | some q1 =>
            rw [hw] at h
            have hw' : wholeP sheet (s.size : Int) n' toks = some q1 := by
              unfold wholeP at hw ⊢
              cases hp : pF sheet (s.size : Int) n .formula toks with
              | none => rw [hp] at hw; cases hw
              | some b => rw [hp] at hw; rw [pF_mono n n' (by omega) _ _ _ hp]; exact hw
            rw [hw']
            exact h
noncomputable def FProj : List V → Option V := FEv FParseN
noncomputable def FRef : List V → Option V := FEv FParseR
theorem parse_at {s sheet : ByteArray} {n : Nat} {q : Nd × Int × Int} (h : parseN n s sheet = some q) : FProj [.x (.string s), .x (.string sheet)] = some (ansP q) :=
  FEv_at ⟨n, fun n' hn => by show parseV n' s sheet = _; rw [parseV_N, parseN_mono hn h]; rfl⟩
theorem parse_ev {s sheet : ByteArray} {q : Nd × Int × Int} (h : Ev fun n => parseN n s sheet = some q) : FProj [.x (.string s), .x (.string sheet)] = some (ansP q) :=
  FEv_at (h.mono fun n hn => by show parseV n s sheet = _; rw [parseV_N, hn]; rfl)

/-- Whatever the text and the sheet are: both tell the same; and what is told is a formula that may be. -/
theorem parse_both (s sheet : ByteArray) : ∃ (a : Nd) (x e : Int), FProj [.x (.string s), .x (.string sheet)] = some (ansP (a, x, e)) ∧ FRef [.x (.string s), .x (.string sheet)] = some (ansP (a, x, e)) ∧ cnt a ≤ 400 ∧ (e = 0 → dN a ≤ 20 ∧ rN a = true) := by
  have hz : cnt zNd ≤ 400 := by rw [cnt_leaf]; omega
  have both : ∀ (a : Nd) (x e : Int), (Ev fun n => parseN n s sheet = some (a, x, e)) → (Ev fun m => parseRV m s sheet = some (ansP (a, x, e))) → cnt a ≤ 400 → (e = 0 → dN a ≤ 20 ∧ rN a = true) → ∃ (a : Nd) (x e : Int), FProj [.x (.string s), .x (.string sheet)] = some (ansP (a, x, e)) ∧ FRef [.x (.string s), .x (.string sheet)] = some (ansP (a, x, e)) ∧ cnt a ≤ 400 ∧ (e = 0 → dN a ≤ 20 ∧ rN a = true) :=
    fun a x e h1 h2 h3 h4 => ⟨a, x, e, parse_ev h1, FEv_at (h2.mono fun m hm => hm), h3, h4⟩
  by_cases hlen : 200 < s.size
  · exact both zNd 0 5 (Ev.all fun n => by unfold parseN; rw [if_pos hlen]) (Ev.all fun m => by unfold parseRV; rw [if_pos hlen]) hz (fun h => by omega)
  · cases hs : splitP s.data.toList with
    | mk toks bad =>
      cases bad with
      | some i => exact both zNd ((i : Nat) : Int) 3 (Ev.all fun n => by unfold parseN; rw [if_neg hlen, hs]) (Ev.all fun m => by unfold parseRV; rw [if_neg hlen, hs]) hz (fun h => by omega)
      | none =>
        cases hn : nameB sheet with
        | false => exact both zNd 0 1 (Ev.all fun n => by unfold parseN; rw [if_neg hlen, hs]; simp only; rw [hn, if_pos rfl]) (Ev.all fun m => by unfold parseRV; rw [if_neg hlen, hs]; simp only; rw [hn, if_pos rfl]) hz (fun h => by omega)
        | true =>
          obtain ⟨s0, rfl⟩ := B_of sheet
          have h33 := name_bytes hn
          have h8 := name_len hn
          rw [B_size] at h8
          have hl200 : s.data.toList.length ≤ 200 := by
            have : s.data.toList.length = s.size := rfl
            omega
          obtain ⟨hg, hc⟩ := split_good (s.data.toList.length + 1) 0 s.data.toList hl200
          have hs' : splitL (s.data.toList.length + 1) 0 s.data.toList = (toks, none) := hs
          rw [hs'] at hg hc
          have hg : ∀ t ∈ toks, tkGood t := hg
          have hc : toks.length ≤ s.data.toList.length := hc
          have h1000 : toks.length ≤ 1000 := by omega
          obtain ⟨⟨a, x, l', q1, q2⟩, _⟩ := all_corr (en := s.size) h1000 hg (sh := B s0) rfl h33 (by omega) toks.length 0 (by omega) (by omega)
          rw [List.drop_zero] at q1
          have eP : ∀ n, parseN n s (B s0) = match wholeP (B s0) (s.size : Int) n toks with
              | none => none
              | some (a, x, _) => if x ≠ -1 then some (zNd, x, 3) else if 400 < cnt a then none else if 20 < dN a then some (zNd, 0, 4) else some (a, -1, 0) := fun n => by
            unfold parseN
            rw [if_neg hlen, hs]
            simp only
            rw [hn, if_neg (by decide)]
          have eR : ∀ m, parseRV m s (B s0) = match rF toks (s.size : Int) (B s0) m (.pair 0) 0 with
              | none => none
              | some (a, i, y) => if 0 ≤ y then some (.tup [nodeV zNd, .x (.int .i64 y), .x (.int .i64 3)]) else if y ≠ -1 then none else
                if i < toks.length then some (.tup [nodeV zNd, .x (.int .i64 (atR toks (s.size : Int) i)), .x (.int .i64 3)]) else
                if 400 < cnt a then none else if 20 < dN a then some (.tup [nodeV zNd, .x (.int .i64 0), .x (.int .i64 4)]) else some (.tup [nodeV a, .x (.int .i64 (-1)), .x (.int .i64 0)]) := fun m => by
            unfold parseRV
            rw [if_neg hlen, hs]
            simp only
            rw [hn, if_neg (by decide), if_neg (by omega)]
            rfl
          rcases q2 with ⟨rfl, i', rfl, w2, w3, w4, w5⟩ | ⟨w0, a', i', w1, w2⟩
          · by_cases hi : i' < toks.length
            · rcases get_drop toks i' with ⟨t, g1, g2, g3⟩ | ⟨_, _, g3⟩
              case inr => omega
              have hat := atP_pos s.size (toks.drop i')
              refine both zNd (atP (s.size : Int) (toks.drop i')) 3 (q1.mono fun n hp => ?_) (w5.mono fun m hm => ?_) hz (fun h => by omega)
              · rw [eP]
                simp only [wholeP, hp]
                rw [if_pos ⟨trivial, by rw [g2]; simp⟩]
                simp only
                rw [if_pos (by omega)]
              · rw [eR, hm]
                simp only
                rw [if_neg (by omega), if_neg (by simp), if_pos hi, atR_P]
            · have hnil : toks.drop i' = [] := List.drop_eq_nil_of_le (by omega)
              have hcn : cnt a ≤ 200 := by omega
              have hP : ∀ n, pF (B s0) (s.size : Int) n .formula toks = some (a, -1, toks.drop i') → wholeP (B s0) (s.size : Int) n toks = some (a, -1, toks.drop i') := fun n hp => by
                simp only [wholeP, hp]
                rw [if_neg (fun h => h.2 hnil)]
              by_cases h20 : 20 < dN a
              · refine both zNd 0 4 (q1.mono fun n hp => ?_) (w5.mono fun m hm => ?_) hz (fun h => by omega)
                · rw [eP, hP n hp]
                  simp only
                  rw [if_neg (by simp), if_neg (by omega), if_pos h20]
                · rw [eR, hm]
                  simp only
                  rw [if_neg (by omega), if_neg (by simp), if_neg hi, if_neg (by omega), if_pos h20]
              · refine both a (-1) 0 (q1.mono fun n hp => ?_) (w5.mono fun m hm => ?_) (by omega) (fun _ => ⟨by omega, w3⟩)
                · rw [eP, hP n hp]
                  simp only
                  rw [if_neg (by simp), if_neg (by omega), if_neg h20]
                · rw [eR, hm]
                  simp only
                  rw [if_neg (by omega), if_neg (by simp), if_neg hi, if_neg (by omega), if_neg h20]
          · refine both zNd x 3 (q1.mono fun n hp => ?_) (w2.mono fun m hm => ?_) hz (fun h => by omega)
            · rw [eP]
              simp only [wholeP, hp]
              rw [if_neg (fun h => by omega)]
              simp only
              rw [if_pos (by omega)]
            · rw [eR, hm]
              simp only
              rw [if_pos w0]
end Go.Proofs.YtfmdcgakkijkdaaGreatDoor

/- What Parse tells of the texts that the statements name; the laws as functions of plain data. -/
namespace Go.Proofs.YtfmdcgakkijkdaaGreatDoor
open Go Go.RowKit
set_option linter.unusedSimpArgs false
abbrev shS : ByteArray := ⟨#[115]⟩
set_option maxRecDepth 100000 in
theorem alive_is : parseN 20 ⟨#[49, 43, 50]⟩ shS = some (pairNd ⟨#[43]⟩ (valNd 1 1 ⟨#[]⟩) (valNd 1 2 ⟨#[]⟩), -1, 0) := by kernel_rfl
def texts6 : List ByteArray := [⟨#[49]⟩, ⟨#[]⟩, ⟨#[49, 43]⟩, ⟨#[43, 49]⟩, ⟨#[45, 49]⟩, ⟨#[45, 45, 49]⟩, ⟨#[40, 49]⟩, ⟨#[49, 41]⟩, ⟨#[40, 41]⟩, ⟨#[65, 49]⟩, ⟨#[97, 49]⟩, ⟨#[97, 33, 65, 49]⟩, ⟨#[97, 33]⟩, ⟨#[65, 48]⟩, ⟨#[65, 49, 48, 48, 48]⟩, ⟨#[65, 65, 65, 49]⟩, ⟨#[90, 90, 57, 57, 57]⟩, ⟨#[65, 49, 58, 66, 50]⟩, ⟨#[66, 50, 58, 65, 49]⟩, ⟨#[65, 49, 58]⟩, ⟨#[65, 49, 58, 97, 33, 66, 50]⟩, ⟨#[70, 40, 41]⟩, ⟨#[70, 40, 49, 44, 50, 41]⟩, ⟨#[70, 40, 49, 44, 41]⟩, ⟨#[70, 40, 44, 49, 41]⟩, ⟨#[70]⟩, ⟨#[84, 82, 85, 69]⟩, ⟨#[84, 82, 85, 69, 40, 41]⟩, ⟨#[82, 69, 70, 33]⟩, ⟨#[82, 69, 70]⟩, ⟨#[49, 32, 50]⟩, ⟨#[57, 50, 50, 51, 51, 55, 50, 48, 51, 54, 56, 53, 52, 55, 55, 53, 56, 48, 55]⟩, ⟨#[57, 50, 50, 51, 51, 55, 50, 48, 51, 54, 56, 53, 52, 55, 55, 53, 56, 48, 56]⟩, ⟨#[34, 97, 34]⟩, ⟨#[34, 97]⟩, ⟨#[65, 49, 58, 90, 90, 57, 57, 57]⟩, ⟨#[65, 66, 67, 68, 69, 70, 71, 72, 40, 41]⟩, ⟨#[65, 66, 67, 68, 69, 70, 71, 72, 73, 40, 41]⟩, ⟨#[97, 98, 99, 100, 101, 102, 103, 104, 105, 33, 65, 49]⟩, ⟨#[70, 40, 65, 49, 58, 66, 50, 41]⟩, ⟨#[35]⟩]
def errs6 : List Int := [0, 3, 3, 3, 0, 0, 3, 3, 3, 0, 3, 0, 3, 3, 3, 3, 0, 0, 3, 3, 3, 0, 0, 3, 3, 3, 0, 3, 0, 3, 3, 0, 3, 0, 3, 3, 0, 3, 3, 0, 3]
def ats6 : List Int := [-1, 0, 2, 0, -1, -1, 2, 1, 1, -1, 0, -1, 0, 0, 0, 0, -1, -1, 0, 0, 0, -1, -1, 4, 2, 0, -1, 4, -1, 0, 2, -1, 0, -1, 0, 0, -1, 0, 0, -1, 0]
def ops6 : List ByteArray := [⟨#[61]⟩, ⟨#[60, 62]⟩, ⟨#[60]⟩, ⟨#[62]⟩, ⟨#[60, 61]⟩, ⟨#[62, 61]⟩, ⟨#[38]⟩, ⟨#[43]⟩, ⟨#[45]⟩, ⟨#[42]⟩, ⟨#[47]⟩]
def rks6 : List Int := [0, 0, 0, 0, 0, 0, 1, 2, 2, 3, 3]
def rowT (l : List ByteArray) : List V := l.map fun s => V.x (.string s)
def rowI (l : List Int) : List V := l.map fun s => V.x (.int .i64 s)
theorem texts_lit : ([.x (.string ⟨#[49]⟩), .x (.string ⟨#[]⟩), .x (.string ⟨#[49, 43]⟩), .x (.string ⟨#[43, 49]⟩), .x (.string ⟨#[45, 49]⟩), .x (.string ⟨#[45, 45, 49]⟩), .x (.string ⟨#[40, 49]⟩), .x (.string ⟨#[49, 41]⟩), .x (.string ⟨#[40, 41]⟩), .x (.string ⟨#[65, 49]⟩), .x (.string ⟨#[97, 49]⟩), .x (.string ⟨#[97, 33, 65, 49]⟩), .x (.string ⟨#[97, 33]⟩), .x (.string ⟨#[65, 48]⟩), .x (.string ⟨#[65, 49, 48, 48, 48]⟩), .x (.string ⟨#[65, 65, 65, 49]⟩), .x (.string ⟨#[90, 90, 57, 57, 57]⟩), .x (.string ⟨#[65, 49, 58, 66, 50]⟩), .x (.string ⟨#[66, 50, 58, 65, 49]⟩), .x (.string ⟨#[65, 49, 58]⟩), .x (.string ⟨#[65, 49, 58, 97, 33, 66, 50]⟩), .x (.string ⟨#[70, 40, 41]⟩), .x (.string ⟨#[70, 40, 49, 44, 50, 41]⟩), .x (.string ⟨#[70, 40, 49, 44, 41]⟩), .x (.string ⟨#[70, 40, 44, 49, 41]⟩), .x (.string ⟨#[70]⟩), .x (.string ⟨#[84, 82, 85, 69]⟩), .x (.string ⟨#[84, 82, 85, 69, 40, 41]⟩), .x (.string ⟨#[82, 69, 70, 33]⟩), .x (.string ⟨#[82, 69, 70]⟩), .x (.string ⟨#[49, 32, 50]⟩), .x (.string ⟨#[57, 50, 50, 51, 51, 55, 50, 48, 51, 54, 56, 53, 52, 55, 55, 53, 56, 48, 55]⟩), .x (.string ⟨#[57, 50, 50, 51, 51, 55, 50, 48, 51, 54, 56, 53, 52, 55, 55, 53, 56, 48, 56]⟩), .x (.string ⟨#[34, 97, 34]⟩), .x (.string ⟨#[34, 97]⟩), .x (.string ⟨#[65, 49, 58, 90, 90, 57, 57, 57]⟩), .x (.string ⟨#[65, 66, 67, 68, 69, 70, 71, 72, 40, 41]⟩), .x (.string ⟨#[65, 66, 67, 68, 69, 70, 71, 72, 73, 40, 41]⟩), .x (.string ⟨#[97, 98, 99, 100, 101, 102, 103, 104, 105, 33, 65, 49]⟩), .x (.string ⟨#[70, 40, 65, 49, 58, 66, 50, 41]⟩), .x (.string ⟨#[35]⟩)] : List V) = rowT texts6 := rfl
theorem errs_lit : ([.x (.int .i64 0), .x (.int .i64 3), .x (.int .i64 3), .x (.int .i64 3), .x (.int .i64 0), .x (.int .i64 0), .x (.int .i64 3), .x (.int .i64 3), .x (.int .i64 3), .x (.int .i64 0), .x (.int .i64 3), .x (.int .i64 0), .x (.int .i64 3), .x (.int .i64 3), .x (.int .i64 3), .x (.int .i64 3), .x (.int .i64 0), .x (.int .i64 0), .x (.int .i64 3), .x (.int .i64 3), .x (.int .i64 3), .x (.int .i64 0), .x (.int .i64 0), .x (.int .i64 3), .x (.int .i64 3), .x (.int .i64 3), .x (.int .i64 0), .x (.int .i64 3), .x (.int .i64 0), .x (.int .i64 3), .x (.int .i64 3), .x (.int .i64 0), .x (.int .i64 3), .x (.int .i64 0), .x (.int .i64 3), .x (.int .i64 3), .x (.int .i64 0), .x (.int .i64 3), .x (.int .i64 3), .x (.int .i64 0), .x (.int .i64 3)] : List V) = rowI errs6 := rfl
theorem ats_lit : ([.x (.int .i64 (-1)), .x (.int .i64 0), .x (.int .i64 2), .x (.int .i64 0), .x (.int .i64 (-1)), .x (.int .i64 (-1)), .x (.int .i64 2), .x (.int .i64 1), .x (.int .i64 1), .x (.int .i64 (-1)), .x (.int .i64 0), .x (.int .i64 (-1)), .x (.int .i64 0), .x (.int .i64 0), .x (.int .i64 0), .x (.int .i64 0), .x (.int .i64 (-1)), .x (.int .i64 (-1)), .x (.int .i64 0), .x (.int .i64 0), .x (.int .i64 0), .x (.int .i64 (-1)), .x (.int .i64 (-1)), .x (.int .i64 4), .x (.int .i64 2), .x (.int .i64 0), .x (.int .i64 (-1)), .x (.int .i64 4), .x (.int .i64 (-1)), .x (.int .i64 0), .x (.int .i64 2), .x (.int .i64 (-1)), .x (.int .i64 0), .x (.int .i64 (-1)), .x (.int .i64 0), .x (.int .i64 0), .x (.int .i64 (-1)), .x (.int .i64 0), .x (.int .i64 0), .x (.int .i64 (-1)), .x (.int .i64 0)] : List V) = rowI ats6 := rfl
theorem ops_lit : ([.x (.string ⟨#[61]⟩), .x (.string ⟨#[60, 62]⟩), .x (.string ⟨#[60]⟩), .x (.string ⟨#[62]⟩), .x (.string ⟨#[60, 61]⟩), .x (.string ⟨#[62, 61]⟩), .x (.string ⟨#[38]⟩), .x (.string ⟨#[43]⟩), .x (.string ⟨#[45]⟩), .x (.string ⟨#[42]⟩), .x (.string ⟨#[47]⟩)] : List V) = rowT ops6 := rfl
theorem rks_lit : ([.x (.int .i64 0), .x (.int .i64 0), .x (.int .i64 0), .x (.int .i64 0), .x (.int .i64 0), .x (.int .i64 0), .x (.int .i64 1), .x (.int .i64 2), .x (.int .i64 2), .x (.int .i64 3), .x (.int .i64 3)] : List V) = rowI rks6 := rfl
theorem texts_len : (rowT texts6).length = 41 := rfl
theorem ops_len : (rowT ops6).length = 11 := rfl
theorem rowT_at {l : List ByteArray} {j : Nat} {s : ByteArray} (h : l[j]? = some s) : (rowT l)[((j : Nat) : Int).toNat]? = some (.x (.string s)) := by
  rw [toNat_cast]; unfold rowT; rw [List.getElem?_map, h]; rfl
theorem rowI_at {l : List Int} {j : Nat} {s : Int} (h : l[j]? = some s) : (rowI l)[((j : Nat) : Int).toNat]? = some (.x (.int .i64 s)) := by
  rw [toNat_cast]; unfold rowI; rw [List.getElem?_map, h]; rfl
/-- Which texts are none, where, and what is near them. -/
def wrongOK (j : Nat) : Bool := match texts6[j]?, errs6[j]?, ats6[j]? with
  | some t, some e, some k => (match parseN 30 t shS with
    | some q => decide (q.2.1 = k) && decide (q.2.2 = e)
    | none => false)
  | _, _, _ => false
set_option maxRecDepth 100000 in
theorem wrong_tab : (List.range 41).all wrongOK = true := by kernel_rfl
theorem wrong_at {j : Nat} (hj : j < 41) : ∃ t e k a, texts6[j]? = some t ∧ errs6[j]? = some e ∧ ats6[j]? = some k ∧ FProj [.x (.string t), .x (.string shS)] = some (ansP (a, k, e)) := by
  have h := List.all_eq_true.1 wrong_tab j (List.mem_range.2 hj)
  unfold wrongOK at h
  split at h
  · rename_i t e k h1 h2 h3
    split at h
    · rename_i q hq
      obtain ⟨a, k', e'⟩ := q
      simp only [Bool.and_eq_true, decide_eq_true_eq] at h
      obtain ⟨rfl, rfl⟩ := h
      exact ⟨t, _, _, a, h1, h2, h3, parse_at hq⟩
    · cases h
  · cases h
/- Three numbers, two signs. -/
def text1 (a b : ByteArray) : ByteArray := ⟨#[49, 32]⟩ ++ a ++ ⟨#[50]⟩ ++ b ++ ⟨#[32, 51]⟩
def text2 (a b : ByteArray) : ByteArray := ⟨#[40, 49]⟩ ++ a ++ ⟨#[50, 41]⟩ ++ b ++ ⟨#[51]⟩
def text3 (a b : ByteArray) : ByteArray := ⟨#[49]⟩ ++ a ++ ⟨#[40, 50]⟩ ++ b ++ ⟨#[51, 41]⟩
def ranksOK (p q : Nat) : Bool := match ops6[p]?, ops6[q]?, rks6[p]?, rks6[q]? with
  | some a, some b, some i, some j => decide (a.size ≤ 2) && decide (b.size ≤ 2) && (match parseN 30 (text1 a b) shS, parseN 30 (text2 a b) shS, parseN 30 (text3 a b) shS with
    | some x, some l, some r => decide (x.2.2 = 0) && decide (l.2.2 = 0) && decide (r.2.2 = 0) && decide (cnt x.1 ≤ 400) && decide (cnt l.1 ≤ 400) && decide (cnt r.1 ≤ 400) && !sameN l.1 r.1 && (if i < j then sameN x.1 r.1 else sameN x.1 l.1)
    | _, _, _ => false)
  | _, _, _, _ => false
set_option maxRecDepth 100000 in
theorem ranks_tab : ((List.range 11).all fun p => (List.range 11).all fun q => ranksOK p q) = true := by kernel_rfl
theorem ranks_two {p q : Nat} (hp : p < 11) (hq : q < 11) : ∃ a b i j x l r x1 l1 r1, ops6[p]? = some a ∧ ops6[q]? = some b ∧ rks6[p]? = some i ∧ rks6[q]? = some j ∧ a.size ≤ 2 ∧ b.size ≤ 2 ∧
    FProj [.x (.string (text1 a b)), .x (.string shS)] = some (ansP (x, x1, 0)) ∧ FProj [.x (.string (text2 a b)), .x (.string shS)] = some (ansP (l, l1, 0)) ∧ FProj [.x (.string (text3 a b)), .x (.string shS)] = some (ansP (r, r1, 0)) ∧
    cnt x ≤ 400 ∧ cnt l ≤ 400 ∧ cnt r ≤ 400 ∧ sameN l r = false ∧ (i < j → sameN x r = true) ∧ (¬ i < j → sameN x l = true) := by
  have h := List.all_eq_true.1 (List.all_eq_true.1 ranks_tab p (List.mem_range.2 hp)) q (List.mem_range.2 hq)
  unfold ranksOK at h
  split at h
  · rename_i a b i j h1 h2 h3 h4
    rw [Bool.and_eq_true] at h
    obtain ⟨hs, h⟩ := h
    simp only [Bool.and_eq_true, decide_eq_true_eq] at hs
    split at h
    · rename_i x l r hx hl hr
      obtain ⟨x, x1, x2⟩ := x
      obtain ⟨l, l1, l2⟩ := l
      obtain ⟨r, r1, r2⟩ := r
      simp only [Bool.and_eq_true, decide_eq_true_eq, Bool.not_eq_true'] at h
      obtain ⟨⟨⟨⟨⟨⟨⟨rfl, rfl⟩, rfl⟩, c1⟩, c2⟩, c3⟩, c4⟩, c5⟩ := h
      refine ⟨a, b, i, j, x, l, r, x1, l1, r1, h1, h2, h3, h4, hs.1, hs.2, parse_at hx, parse_at hl, parse_at hr, c1, c2, c3, c4, fun hij => ?_, fun hij => ?_⟩
      · rw [if_pos hij] at c5; exact c5
      · rw [if_neg hij] at c5; exact c5
    · cases h
  · cases h
theorem cat_le {a b : ByteArray} {n m : Nat} (ha : a.size ≤ n) (hb : b.size ≤ m) (h : n + m ≤ 1000) : catV a b = some (.str (a ++ b)) ∧ (a ++ b).size ≤ n + m := ⟨catV_ok (by omega), by rw [ByteArray.size_append]; omega⟩

theorem FSame6 {a b : Nd} (h : cnt a ≤ 400) (h' : cnt b ≤ 400) : FE encNN GSame [nodeV a, nodeV b] = some (.x (.bool (sameN a b))) := (FE_at encNN_inj _ (a, b)).trans (GSame_of h h')
theorem FRight6 {a : Nd} (h : cnt a ≤ 400) (hd : dN a ≤ 20) (hr : rN a = true) : FE encN GRightN [nodeV a] = some (.x (.bool true)) := by
  refine (FE_at encN_inj _ a).trans ?_
  unfold GRightN
  rw [if_pos h, hr, decide_eq_true (show ((dN a : Nat) : Int) ≤ 20 by omega)]
  rfl
def FNum6 : List V → Option V
  | [.x (.int .i64 n)] => some (.x (.int .i64 n))
  | _ => none
set_option maxRecDepth 100000 in
theorem num6_fun : FunV 10 FNum6 := by
  refine fun_of_run (E := envOf []) (k := 1) (envOK_of _ trivial) (by kernel_rfl) Tryz.func10 rfl (fun a w => Tryz.call10 a w) Tryz.ntmps10 (by kernel_rfl) (by decide) (by decide) ?_
  intro us r hF hdat
  unfold FNum6 at hF
  split at hF
  case h_2 => cases hF
  rename_i n
  cases hF
  refine ⟨rfl, ?_⟩
  simp (decide := true) (maxDischargeDepth := 200) only [go_sem, Tryz.results10]

def FAlive6 : List V → Option V
  | [] => some (.x (.bool true))
  | _ => none
theorem proj_fun : FunV 7 FProj := fun_ev parse_fun
theorem ref_parse_fun : FunV 8 FRef := fun_ev parseR_fun
set_option maxRecDepth 100000 in
theorem alive6_fun : FunV 6 FAlive6 := by
  refine fun_of_run (E := envOf [(7, FProj), (10, FNum6)]) (k := 0) (envOK_of _ ⟨proj_fun, num6_fun, trivial⟩) (by kernel_rfl) Tryz.func6 rfl (fun a w => Tryz.call6 a w) Tryz.ntmps6 (by kernel_rfl) (by decide) (by decide) ?_
  intro us r hF hdat
  unfold FAlive6 at hF
  split at hF
  case h_2 => cases hF
  cases hF
  refine ⟨rfl, ?_⟩
  have e : FProj [.x (.string ⟨#[49, 43, 50]⟩), .x (.string ⟨#[115]⟩)] = _ := parse_at alive_is
  simp (decide := true) (maxDischargeDepth := 200) only [go_sem, e, FNum6, nodeV_mk, nodeV_leaf, Tryz.results6]

def FTells6 : List V → Option V
  | [.x (.string _), .x (.string _)] => some (.x (.bool true))
  | _ => none
set_option maxHeartbeats 2000000 in
set_option maxRecDepth 100000 in
theorem tells6_fun : FunV 3 FTells6 := by
  refine fun_of_run (E := envOf [(6, FAlive6), (7, FProj), (8, FRef), (9, (FE encNN GSame)), (10, FNum6), (11, (FE encN GRightN))]) (k := 2) (envOK_of _ ⟨alive6_fun, proj_fun, ref_parse_fun, rsame_fun, num6_fun, rightnode_fun, trivial⟩) (by kernel_rfl) Tryz.func3 rfl (fun a w => Tryz.call3 a w) Tryz.ntmps3 (by kernel_rfl) (by decide) (by decide) ?_
  intro us r hF hdat
  unfold FTells6 at hF
  split at hF
  case h_2 => cases hF
  rename_i s sheet
  cases hF
  refine ⟨rfl, ?_⟩
  by_cases h3 : 300 < s.size
  · have c1 : decide ((300 : Int) < (s.size : Int)) = true := decide_eq_true (by omega)
    simp (decide := true) (maxDischargeDepth := 200) only [go_sem, FAlive6, c1, Tryz.results3]
  · have c1 : decide ((300 : Int) < (s.size : Int)) = false := decide_eq_false (by omega)
    by_cases h2 : 20 < sheet.size
    · have c2 : decide ((20 : Int) < (sheet.size : Int)) = true := decide_eq_true (by omega)
      simp (decide := true) (maxDischargeDepth := 200) only [go_sem, FAlive6, c1, c2, Tryz.results3]
    · have c2 : decide ((20 : Int) < (sheet.size : Int)) = false := decide_eq_false (by omega)
      obtain ⟨a, x, e, e1, e2, h400, h0⟩ := parse_both s sheet
      have e3 := FSame6 h400 h400
      rw [sameN_refl] at e3
      obtain ⟨ka, opa, nma, vka, vna, vsa, csa, cca, cra, tsa, tca, tra, nla, sza, esa, ha'⟩ := nd_is a
      by_cases he : e = 0
      · subst he
        have e4 := FRight6 h400 (h0 rfl).1 (h0 rfl).2
        have c3 : decide ((0 : Int) = 0) = true := rfl
        rw [ha'] at e3 e4
        simp (decide := true) (maxDischargeDepth := 200) only [go_sem, FAlive6, c1, c2, e1, e2, ha', e3, e4, FNum6, Tryz.results3]
      · have c3 : decide (e = 0) = false := decide_eq_false he
        rw [ha'] at e3
        simp (decide := true) (maxDischargeDepth := 200) only [go_sem, FAlive6, c1, c2, e1, e2, ha', e3, c3, FNum6, Tryz.results3]

def FWrong6 : List V → Option V
  | [.x (.int .i64 _)] => some (.x (.bool true))
  | _ => none
set_option maxHeartbeats 4000000 in
set_option maxRecDepth 100000 in
theorem wrong6_fun : FunV 5 FWrong6 := by
  refine fun_of_run (E := envOf [(6, FAlive6), (7, FProj), (10, FNum6)]) (k := 1) (envOK_of _ ⟨alive6_fun, proj_fun, num6_fun, trivial⟩) (by kernel_rfl) Tryz.func5 rfl (fun a w => Tryz.call5 a w) Tryz.ntmps5 (by kernel_rfl) (by decide) (by decide) ?_
  intro us r hF hdat
  unfold FWrong6 at hF
  split at hF
  case h_2 => cases hF
  rename_i n
  cases hF
  refine ⟨rfl, ?_⟩
  by_cases h0 : n < 0
  · have c1 : decide (n < 0) = true := decide_eq_true h0
    simp (decide := true) (maxDischargeDepth := 200) only [go_sem, texts_lit, errs_lit, ats_lit, FAlive6, c1, Tryz.results5]
  · have c1 : decide (n < 0) = false := decide_eq_false h0
    by_cases h41 : 41 ≤ n
    · have c2 : decide (((41 : Nat) : Int) ≤ n) = true := decide_eq_true (by omega)
      simp (decide := true) (maxDischargeDepth := 200) only [go_sem, texts_lit, texts_len, errs_lit, ats_lit, FAlive6, c1, c2, Tryz.results5]
    · obtain ⟨j, rfl⟩ : ∃ j : Nat, n = (j : Int) := ⟨n.toNat, by omega⟩
      have c2 : decide (((41 : Nat) : Int) ≤ (j : Int)) = false := decide_eq_false (by omega)
      have c3 : (0 : Int) ≤ (j : Int) := by omega
      obtain ⟨t, e, k, a, g1, g2, g3, g4⟩ := wrong_at (j := j) (by omega)
      have g4 : FProj [.x (.string t), .x (.string ⟨#[115]⟩)] = _ := g4
      have d1 := rowT_at g1
      have d2 := rowI_at g2
      have d3 := rowI_at g3
      obtain ⟨ka, opa, nma, vka, vna, vsa, csa, cca, cra, tsa, tca, tra, nla, sza, esa, ha'⟩ := nd_is a
      simp (decide := true) (maxDischargeDepth := 200) only [go_sem, texts_lit, texts_len, errs_lit, ats_lit, FAlive6, c1, c2, c3, d1, d2, d3, g4, ha', FNum6, Tryz.results5]

def FRanks6 : List V → Option V
  | [.x (.int .i64 _), .x (.int .i64 _)] => some (.x (.bool true))
  | _ => none
set_option maxHeartbeats 8000000 in
set_option maxRecDepth 100000 in
theorem ranks6_fun : FunV 4 FRanks6 := by
  refine fun_of_run (E := envOf [(6, FAlive6), (7, FProj), (9, (FE encNN GSame)), (10, FNum6)]) (k := 2) (envOK_of _ ⟨alive6_fun, proj_fun, rsame_fun, num6_fun, trivial⟩) (by kernel_rfl) Tryz.func4 rfl (fun a w => Tryz.call4 a w) Tryz.ntmps4 (by kernel_rfl) (by decide) (by decide) ?_
  intro us r hF hdat
  unfold FRanks6 at hF
  split at hF
  case h_2 => cases hF
  rename_i n k
  cases hF
  refine ⟨rfl, ?_⟩
  by_cases h0 : n < 0
  · have c1 : decide (n < 0) = true := decide_eq_true h0
    simp (decide := true) (maxDischargeDepth := 200) only [go_sem, ops_lit, rks_lit, FAlive6, c1, Tryz.results4]
  have c1 : decide (n < 0) = false := decide_eq_false h0
  by_cases h11 : 11 ≤ n
  · have c2 : decide (((11 : Nat) : Int) ≤ n) = true := decide_eq_true (by omega)
    simp (decide := true) (maxDischargeDepth := 200) only [go_sem, ops_lit, ops_len, rks_lit, FAlive6, c1, c2, Tryz.results4]
  have c2 : decide (((11 : Nat) : Int) ≤ n) = false := decide_eq_false (by omega)
  by_cases h1 : k < 0
  · have c3 : decide (k < 0) = true := decide_eq_true h1
    simp (decide := true) (maxDischargeDepth := 200) only [go_sem, ops_lit, ops_len, rks_lit, FAlive6, c1, c2, c3, Tryz.results4]
  have c3 : decide (k < 0) = false := decide_eq_false h1
  by_cases h12 : 11 ≤ k
  · have c4 : decide (((11 : Nat) : Int) ≤ k) = true := decide_eq_true (by omega)
    simp (decide := true) (maxDischargeDepth := 200) only [go_sem, ops_lit, ops_len, rks_lit, FAlive6, c1, c2, c3, c4, Tryz.results4]
  have c4 : decide (((11 : Nat) : Int) ≤ k) = false := decide_eq_false (by omega)
  obtain ⟨p, rfl⟩ : ∃ p : Nat, n = (p : Int) := ⟨n.toNat, by omega⟩
  obtain ⟨q, rfl⟩ : ∃ q : Nat, k = (q : Int) := ⟨k.toNat, by omega⟩
  have c5 : (0 : Int) ≤ (p : Int) := by omega
  have c6 : (0 : Int) ≤ (q : Int) := by omega
  obtain ⟨a, b, i, j, x, l, r, x1, l1, r1, g1, g2, g3, g4, z1, z2, e1, e2, e3, n1, n2, n3, s1, s2, s3⟩ := ranks_two (p := p) (q := q) (by omega) (by omega)
  have d1 := rowT_at g1
  have d2 := rowT_at g2
  have d3 := rowI_at g3
  have d4 := rowI_at g4
  have e1 : FProj [.x (.string (⟨#[49, 32]⟩ ++ a ++ ⟨#[50]⟩ ++ b ++ ⟨#[32, 51]⟩)), .x (.string ⟨#[115]⟩)] = _ := e1
  have e2 : FProj [.x (.string (⟨#[40, 49]⟩ ++ a ++ ⟨#[50, 41]⟩ ++ b ++ ⟨#[51]⟩)), .x (.string ⟨#[115]⟩)] = _ := e2
  have e3 : FProj [.x (.string (⟨#[49]⟩ ++ a ++ ⟨#[40, 50]⟩ ++ b ++ ⟨#[51, 41]⟩)), .x (.string ⟨#[115]⟩)] = _ := e3
  obtain ⟨wa1, ua1⟩ := cat_le (a := ⟨#[49, 32]⟩) (n := 2) (m := 2) (by decide) z1 (by decide)
  obtain ⟨wa2, ua2⟩ := cat_le (b := ⟨#[50]⟩) (m := 2) ua1 (by decide) (by decide)
  obtain ⟨wa3, ua3⟩ := cat_le (m := 2) ua2 z2 (by decide)
  obtain ⟨wa4, ua4⟩ := cat_le (b := ⟨#[32, 51]⟩) (m := 2) ua3 (by decide) (by decide)
  obtain ⟨wb1, ub1⟩ := cat_le (a := ⟨#[40, 49]⟩) (n := 2) (m := 2) (by decide) z1 (by decide)
  obtain ⟨wb2, ub2⟩ := cat_le (b := ⟨#[50, 41]⟩) (m := 2) ub1 (by decide) (by decide)
  obtain ⟨wb3, ub3⟩ := cat_le (m := 2) ub2 z2 (by decide)
  obtain ⟨wb4, ub4⟩ := cat_le (b := ⟨#[51]⟩) (m := 2) ub3 (by decide) (by decide)
  obtain ⟨wc1, uc1⟩ := cat_le (a := ⟨#[49]⟩) (n := 2) (m := 2) (by decide) z1 (by decide)
  obtain ⟨wc2, uc2⟩ := cat_le (b := ⟨#[40, 50]⟩) (m := 2) uc1 (by decide) (by decide)
  obtain ⟨wc3, uc3⟩ := cat_le (m := 2) uc2 z2 (by decide)
  obtain ⟨wc4, uc4⟩ := cat_le (b := ⟨#[51, 41]⟩) (m := 2) uc3 (by decide) (by decide)
  have f1 := FSame6 n2 n3
  have f2 := FSame6 n1 n3
  have f3 := FSame6 n1 n2
  rw [s1] at f1
  obtain ⟨kx, opx, nmx, vkx, vnx, vsx, csx, ccx, crx, tsx, tcx, trx, nlx, szx, esx, hx'⟩ := nd_is x
  obtain ⟨kl, opl, nml, vkl, vnl, vsl, csl, ccl, crl, tsl, tcl, trl, nll, szl, esl, hl'⟩ := nd_is l
  obtain ⟨kr, opr, nmr, vkr, vnr, vsr, csr, ccr, crr, tsr, tcr, trr, nlr, szr, esr, hr'⟩ := nd_is r
  rw [hl', hr'] at f1
  by_cases hij : i < j
  · have c7 : decide (i < j) = true := decide_eq_true hij
    rw [s2 hij, hx', hr'] at f2
    simp (decide := true) (maxDischargeDepth := 200) only [go_sem, ops_lit, ops_len, rks_lit, FAlive6, c1, c2, c3, c4, c5, c6, c7, d1, d2, d3, d4, wa1, wa2, wa3, wa4, wb1, wb2, wb3, wb4, wc1, wc2, wc3, wc4, e1, e2, e3, hx', hl', hr', f1, f2, FNum6, Tryz.results4]
  · have c7 : decide (i < j) = false := decide_eq_false hij
    rw [s3 hij, hx', hl'] at f3
    simp (decide := true) (maxDischargeDepth := 200) only [go_sem, ops_lit, ops_len, rks_lit, FAlive6, c1, c2, c3, c4, c5, c6, c7, d1, d2, d3, d4, wa1, wa2, wa3, wa4, wb1, wb2, wb3, wb4, wc1, wc2, wc3, wc4, e1, e2, e3, hx', hl', hr', f1, f3, FNum6, Tryz.results4]

end Go.Proofs.YtfmdcgakkijkdaaGreatDoor
