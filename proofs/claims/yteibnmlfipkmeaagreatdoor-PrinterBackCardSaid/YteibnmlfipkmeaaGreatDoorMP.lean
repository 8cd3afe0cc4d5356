/- Formulas written: what is written, its tokens, and that they are read back. Nothing of the program. -/
import Derived.Test.YteibnmlfipkmeaaGreatDoorMA
import Derived.Test.YteibnmlfipkmeaaGreatDoorMZ
import Derived.Lib.ReplaceLaws
namespace Go.Proofs.YteibnmlfipkmeaaGreatDoor
open Go Go.RowKit

/-- A token without its place. -/
abbrev Pc := Nat × List UInt8
/-- Each quote twice. -/
def dbl : List UInt8 → List UInt8
  | [] => []
  | b :: l => if b = 34 then 34 :: 34 :: dbl l else b :: dbl l
/-- How a token is written. -/
def wr (p : Pc) : List UInt8 := if p.1 = 2 then 34 :: (dbl p.2 ++ [34]) else p.2
def wrs : List Pc → List UInt8
  | [] => []
  | p :: ps => wr p ++ wrs ps
theorem wrs_append (a b : List Pc) : wrs (a ++ b) = wrs a ++ wrs b := by
  induction a with
  | nil => rfl
  | cons p a ih => simp only [List.cons_append, wrs, ih, List.append_assoc]
/-- The tokens in their places. -/
def plc : Nat → List Pc → List Tk
  | _, [] => []
  | i, p :: ps => (p.1, i, p.2) :: plc (i + (wr p).length) ps
theorem plc_append (i : Nat) (a b : List Pc) : plc i (a ++ b) = plc i a ++ plc (i + (wrs a).length) b := by
  induction a generalizing i with
  | nil => rfl
  | cons p a ih => simp only [List.cons_append, plc, wrs, ih, List.length_append, Nat.add_assoc]

/-- A token that may be written. -/
def pcOK (p : Pc) : Prop :=
  (p.1 = 1 ∧ p.2 ≠ [] ∧ p.2.all (fun b => digitI b.toNat) = true) ∨ p.1 = 2 ∨
  (p.1 = 3 ∧ (∃ b l, p.2 = b :: l ∧ greatI b.toNat = true) ∧ p.2.all (fun b => wordI b.toNat) = true) ∨
  (p.1 = 4 ∧ (∃ b l, p.2 = b :: l ∧ smallI b.toNat = true) ∧ p.2.all (fun b => nameI b.toNat) = true) ∨
  (p.1 = 5 ∧ ((∃ b, p.2 = [b] ∧ signB b = true) ∨ twoB p.2 = true))
/-- Two that may stand side by side. -/
def pcTwo (p q : Pc) : Prop := (p.1 ≠ 5 → q.1 = 5) ∧ (p.1 = 5 → p.2 = [60] ∨ p.2 = [62] → q.1 = 5 → q.2 = [45] ∨ q.2 = [40])
def pcsOK : List Pc → Prop
  | [] => True
  | [p] => pcOK p
  | p :: q :: ps => pcOK p ∧ pcTwo p q ∧ pcsOK (q :: ps)

theorem quote_dbl (t l : List UInt8) (h : l[0]? ≠ some 34) : quoteL (dbl t ++ 34 :: l) = some (t, (dbl t).length + 1) := by
  induction t with
  | nil => exact quote_end h
  | cons b t ih =>
    simp only [dbl]
    by_cases hb : b = 34
    · subst hb
      rw [if_pos rfl, List.cons_append, List.cons_append, quote_two, ih]; rfl
    · rw [if_neg hb, List.cons_append, quote_other hb, ih]; rfl
theorem span_app {p : Int → Bool} {a l : List UInt8} (h : a.all (fun b => p b.toNat) = true) (hl : ∀ b, l[0]? = some b → p b.toNat = false) : spanL p (a ++ l) = a.length := by
  induction a with
  | nil =>
    cases l with
    | nil => rfl
    | cons b l => exact spanL_stop (hl b rfl)
  | cons b a ih =>
    simp only [List.all_cons, Bool.and_eq_true] at h
    rw [List.cons_append, spanL_cons h.1, ih h.2]; rfl
/-- A sign's first byte is of no other kind. -/
theorem sign_tab : ((List.range 256).all fun n => !(signB (UInt8.ofNat n)) || (!(digitI (UInt8.ofNat n).toNat) && !(greatI (UInt8.ofNat n).toNat) && !(smallI (UInt8.ofNat n).toNat) && decide (UInt8.ofNat n ≠ 34) && decide (UInt8.ofNat n ≠ 32))) = true := by kernel_rfl
theorem sign_facts {b : UInt8} (h : signB b = true) : digitI b.toNat = false ∧ greatI b.toNat = false ∧ smallI b.toNat = false ∧ b ≠ 34 ∧ b ≠ 32 := by
  have := List.all_eq_true.1 sign_tab b.toNat (List.mem_range.2 b.toNat_lt)
  rw [UInt8.ofNat_toNat, h] at this
  simp only [Bool.not_true, Bool.false_or, Bool.and_eq_true, Bool.not_eq_true', decide_eq_true_eq] at this
  exact ⟨this.1.1.1.1, this.1.1.1.2, this.1.1.2, this.1.2, this.2⟩
theorem two_of {l : List UInt8} (h : twoB l = true) : l = [60, 62] ∨ l = [60, 61] ∨ l = [62, 61] := by
  simpa only [twoB, Bool.or_eq_true, decide_eq_true_eq, or_assoc] using h
/-- How a sign begins. -/
theorem sign_head {p : Pc} (h : pcOK p) (h5 : p.1 = 5) : ∃ b l, p.2 = b :: l ∧ signB b = true := by
  rcases h with h | h | h | h | h
  · omega
  · omega
  · omega
  · omega
  · rcases h.2 with ⟨b, e, hb⟩ | e
    · exact ⟨b, [], e, hb⟩
    · rcases two_of e with e | e | e <;> exact ⟨_, _, e, by decide⟩
theorem wr5 {p : Pc} (h : p.1 ≠ 2) : wr p = p.2 := if_neg h
theorem kind_not {b : UInt8} (h : greatI b.toNat = true ∨ smallI b.toNat = true) : digitI b.toNat = false ∧ b ≠ 34 ∧ b ≠ 32 := by
  have hd : b = 34 ∨ b = 32 → ¬ (greatI b.toNat = true ∨ smallI b.toNat = true) := by rintro (rfl | rfl) <;> decide
  refine ⟨?_, fun e => hd (.inl e) h, fun e => hd (.inr e) h⟩
  simp only [greatI, smallI, Bool.and_eq_true, decide_eq_true_eq] at h
  simp only [digitI, Bool.and_eq_false_iff, decide_eq_false_iff_not]
  omega
/-- What is behind a token: nothing, or a token that may stand there. -/
theorem first_pc {p : Pc} {l : List UInt8} (h : pcOK p) (h5 : p.1 ≠ 5 → ∀ b, l[0]? = some b → signB b = true) (h2 : p.1 = 5 → p.2 = [60] ∨ p.2 = [62] → ∀ b, l[0]? = some b → b ≠ 61 ∧ b ≠ 62) :
    ∃ b t, wr p ++ l = b :: t ∧ b ≠ 32 ∧ firstP (b :: t) = (p.1, (wr p).length) ∧ tellP (b :: t) = p.2 ∧ (wr p).length ≠ 0 := by
  have stop : p.1 ≠ 5 → ∀ b, l[0]? = some b → digitI b.toNat = false ∧ greatI b.toNat = false ∧ smallI b.toNat = false ∧ b ≠ 34 ∧ b ≠ 32 := fun h b hb => sign_facts (h5 h b hb)
  obtain ⟨k, s⟩ := p
  rcases h with ⟨rfl, hne, hall⟩ | rfl | ⟨rfl, ⟨b, t, rfl, hb⟩, hall⟩ | ⟨rfl, ⟨b, t, rfl, hb⟩, hall⟩ | ⟨rfl, hs⟩
  · cases s with
    | nil => exact absurd rfl hne
    | cons b t =>
      have hd : digitI b.toNat = true := by simp only [List.all_cons, Bool.and_eq_true] at hall; exact hall.1
      have hsp := span_app hall (l := l) fun c hc => (stop (by simp) c hc).1
      have hf : firstP (b :: (t ++ l)) = (1, (b :: t).length) := by rw [first_digit hd, ← List.cons_append, hsp]
      refine ⟨b, t ++ l, rfl, ?_, hf, ?_, by simp [wr]⟩
      · rintro rfl; revert hd; decide
      · unfold tellP; rw [hf, if_neg (by simp), ← List.cons_append, List.take_left]
  · have hq : quoteL (dbl s ++ 34 :: l) = some (s, (dbl s).length + 1) := quote_dbl s l fun e => (stop (by simp) 34 e).2.2.2.1 rfl
    have hq' : quoteL ((34 :: (dbl s ++ 34 :: l)).drop 1) = some (s, (dbl s).length + 1) := hq
    have ht := textP_yes hq'
    have hf : firstP (34 :: (dbl s ++ 34 :: l)) = (2, (wr (2, s)).length) := by rw [first_quote (by decide) rfl, ht]; simp [wr]
    refine ⟨34, dbl s ++ 34 :: l, by simp [wr], by decide, hf, ?_, by simp [wr]⟩
    unfold tellP; rw [hf, if_pos rfl]; unfold insideP; rw [hq']
  · have hk := kind_not (.inl hb)
    have hsp := span_app hall (l := l) fun c hc => by unfold wordI; rw [(stop (by simp) c hc).1, (stop (by simp) c hc).2.1]; rfl
    have hf : firstP (b :: (t ++ l)) = (3, (b :: t).length) := by rw [first_great hk.1 hk.2.1 hb, ← List.cons_append, hsp]
    refine ⟨b, t ++ l, rfl, hk.2.2, hf, ?_, by simp [wr]⟩
    unfold tellP; rw [hf, if_neg (by simp), ← List.cons_append, List.take_left]
  · have hk := kind_not (.inr hb)
    have hg : greatI b.toNat = false := by
      simp only [smallI, Bool.and_eq_true, decide_eq_true_eq] at hb
      simp only [greatI, Bool.and_eq_false_iff, decide_eq_false_iff_not]; omega
    have hsp := span_app hall (l := l) fun c hc => by unfold nameI; rw [(stop (by simp) c hc).1, (stop (by simp) c hc).2.2.1]; rfl
    have hf : firstP (b :: (t ++ l)) = (4, (b :: t).length) := by rw [first_small hk.1 hk.2.1 hg hb, ← List.cons_append, hsp]
    refine ⟨b, t ++ l, rfl, hk.2.2, hf, ?_, by simp [wr]⟩
    unfold tellP; rw [hf, if_neg (by simp), ← List.cons_append, List.take_left]
  · rcases hs with ⟨b, rfl, hb⟩ | hs
    · have hk := sign_facts hb
      have htwo : twoB ((b :: l).take 2) = false := by
        cases l with
        | nil => simp [twoB]
        | cons c l =>
          have e : (b :: c :: l).take 2 = [b, c] := rfl
          rw [e]
          by_cases hbb : b = 60 ∨ b = 62
          · have := h2 rfl (by rcases hbb with rfl | rfl <;> simp) c rfl
            simp [twoB, this]
          · have h60 : b ≠ 60 := fun e => hbb (.inl e)
            have h62 : b ≠ 62 := fun e => hbb (.inr e)
            simp [twoB, h60, h62]
      have hf : firstP (b :: l) = (5, 1) := by rw [first_sign hk.1 hk.2.2.2.1 hk.2.1 hk.2.2.1, signP, htwo, if_neg (by decide), hb, if_pos rfl]
      refine ⟨b, l, rfl, hk.2.2.2.2, hf, ?_, by simp [wr]⟩
      unfold tellP; rw [hf, if_neg (by simp)]; rfl
    · obtain ⟨b, c, rfl, hb⟩ : ∃ b c, s = [b, c] ∧ signB b = true := by rcases two_of hs with rfl | rfl | rfl <;> exact ⟨_, _, rfl, by decide⟩
      have hk := sign_facts hb
      have hf : firstP (b :: c :: l) = (5, 2) := by
        have e : (b :: c :: l).take 2 = [b, c] := rfl
        rw [first_sign hk.1 hk.2.2.2.1 hk.2.1 hk.2.2.1, signP, e, hs, if_pos rfl]
      refine ⟨b, c :: l, rfl, hk.2.2.2.2, hf, ?_, by simp [wr]⟩
      unfold tellP; rw [hf, if_neg (by simp)]; rfl
theorem wrs_head {p q : Pc} {ps : List Pc} (hq : pcOK q) (h : pcTwo p q) :
    (p.1 ≠ 5 → ∀ b, (wrs (q :: ps))[0]? = some b → signB b = true) ∧ (p.1 = 5 → p.2 = [60] ∨ p.2 = [62] → ∀ b, (wrs (q :: ps))[0]? = some b → b ≠ 61 ∧ b ≠ 62) := by
  refine ⟨fun h5 b hb => ?_, fun hp5 h6 b hb => ?_⟩
  · have hq5 := h.1 h5
    obtain ⟨c, t, e, hc⟩ := sign_head hq hq5
    simp only [wrs, wr5 (show q.1 ≠ 2 by omega), e, List.cons_append, List.getElem?_cons_zero, Option.some.injEq] at hb
    exact hb ▸ hc
  · by_cases hq5 : q.1 = 5
    · simp only [wrs, wr5 (show q.1 ≠ 2 by omega)] at hb
      rcases h.2 hp5 h6 hq5 with e | e <;> · rw [e] at hb; simp at hb; subst hb; decide
    · have hd : (digitI b.toNat = true ∨ greatI b.toNat = true ∨ smallI b.toNat = true ∨ b = 34) → b ≠ 61 ∧ b ≠ 62 := by
        intro hh
        refine ⟨?_, ?_⟩ <;> · rintro rfl; revert hh; decide
      apply hd
      obtain ⟨k, s⟩ := q
      rcases hq with ⟨rfl, hne, hall⟩ | rfl | ⟨rfl, ⟨c, t, rfl, hc⟩, hall⟩ | ⟨rfl, ⟨c, t, rfl, hc⟩, hall⟩ | ⟨rfl, hs⟩
      · cases s with
        | nil => exact absurd rfl hne
        | cons c t =>
          simp [wrs, wr] at hb
          simp only [List.all_cons, Bool.and_eq_true] at hall
          exact .inl (hb ▸ hall.1)
      · simp [wrs, wr] at hb
        exact .inr (.inr (.inr hb.symm))
      · simp [wrs, wr] at hb
        exact .inr (.inl (hb ▸ hc))
      · simp [wrs, wr] at hb
        exact .inr (.inr (.inl (hb ▸ hc)))
      · exact absurd rfl hq5
/-- What is written is taken apart into the tokens it was made of. -/
theorem split_wrs : ∀ (ps : List Pc), pcsOK ps → ∀ (f i : Nat), (wrs ps).length < f → splitL f i (wrs ps) = (plc i ps, none)
  | [], _, f, i, hf => by
    obtain ⟨g, rfl⟩ : ∃ g, f = g + 1 := ⟨f - 1, by omega⟩
    rfl
  | p :: ps, h, f, i, hf => by
    obtain ⟨g, rfl⟩ : ∃ g, f = g + 1 := ⟨f - 1, by omega⟩
    have hp : pcOK p ∧ pcsOK ps ∧ (p.1 ≠ 5 → ∀ b, (wrs ps)[0]? = some b → signB b = true) ∧ (p.1 = 5 → p.2 = [60] ∨ p.2 = [62] → ∀ b, (wrs ps)[0]? = some b → b ≠ 61 ∧ b ≠ 62) := by
      cases ps with
      | nil => exact ⟨h, trivial, fun _ b hb => (by cases hb), fun _ _ b hb => (by cases hb)⟩
      | cons q ps =>
        obtain ⟨h1, h2, h3⟩ := h
        have hq : pcOK q := by
          cases ps with
          | nil => exact h3
          | cons r ps => exact h3.1
        exact ⟨h1, h3, (wrs_head hq h2).1, (wrs_head hq h2).2⟩
    obtain ⟨h1, h2, h3, h4⟩ := hp
    obtain ⟨b, t, e, h32, hfst, htell, h0⟩ := first_pc h1 h3 h4
    have ew : wrs (p :: ps) = b :: t := e
    have hd : (b :: t).drop (wr p).length = wrs ps := by rw [← e, List.drop_left]
    have hlen : (wrs (p :: ps)).length = (wr p).length + (wrs ps).length := by simp [wrs]
    have ih := split_wrs ps h2 g (i + (wr p).length) (by omega)
    rw [ew, split_tok h32 (by rw [hfst]; exact h0), hfst, htell, hd, ih]
    rfl
theorem split_written {ps : List Pc} (h : pcsOK ps) : splitP (wrs ps) = (plc 0 ps, none) := split_wrs ps h _ 0 (by omega)
end Go.Proofs.YteibnmlfipkmeaaGreatDoor

/- Formulas written: the tokens are read back. Nothing of the program. -/
namespace Go.Proofs.YteibnmlfipkmeaaGreatDoor
open Go Go.RowKit
set_option linter.unusedSimpArgs false

def plT (c r : Int) : List UInt8 := colP c.toNat ++ dec3 r.toNat
def celT (s : ByteArray) (c r : Int) : List Pc := [(4, s.data.toList), (5, [33]), (3, plT c r)]
def sepT : List (List Pc) → List Pc
  | [] => []
  | [a] => a
  | a :: b :: l => a ++ (5, [44]) :: sepT (b :: l)
/-- A node's tokens. -/
def pcH (h : Hd) (ks : List (List Pc)) : List Pc :=
  if h.k = 1 then (if h.vk = 2 then [(2, h.vs.data.toList)] else if h.vk = 1 then [(1, Lib.decDigits h.vn.toNat)] else if h.vn = 1 then [(3, [84, 82, 85, 69])] else [(3, [70, 65, 76, 83, 69])])
  else if h.k = 2 then celT h.cs h.cc h.cr else if h.k = 3 then celT h.cs h.cc h.cr ++ [(5, [58]), (3, plT h.tc h.tr)]
  else if h.k = 4 then (5, [45]) :: ks.headD []
  else if h.k = 5 then (5, [40]) :: (ks.headD [] ++ (5, h.op.data.toList) :: (ks.tail.headD [] ++ [(5, [41])]))
  else if h.k = 6 then (3, h.nm.data.toList) :: (5, [40]) :: (sepT ks ++ [(5, [41])])
  else [(3, [82, 69, 70]), (5, [33])]
mutual
def pcN : Nd → List Pc
  | .leaf h => pcH h []
  | .mk h l => pcH h (pcL l)
def pcL : List Nd → List (List Pc)
  | [] => []
  | n :: l => pcN n :: pcL l
end
theorem pcL_map (l : List Nd) : pcL l = l.map pcN := by
  induction l with
  | nil => rfl
  | cons n l ih => rw [pcL, ih]; rfl
theorem pcN_eq (n : Nd) : pcN n = pcH n.hd (n.ks.map pcN) := by
  cases n with
  | leaf h => rw [pcN]; rfl
  | mk h l => rw [pcN, pcL_map]; rfl
def ndOf (h : Hd) : List Nd → Nd
  | [] => .leaf h
  | a :: l => .mk h (a :: l)
mutual
/-- A node as it is read: no kids, no list of them. -/
def nrm : Nd → Nd
  | .leaf h => .leaf h
  | .mk h l => ndOf h (nrmL l)
def nrmL : List Nd → List Nd
  | [] => []
  | n :: l => nrm n :: nrmL l
end
theorem nrmL_map (l : List Nd) : nrmL l = l.map nrm := by
  induction l with
  | nil => rfl
  | cons n l ih => rw [nrmL, ih]; rfl
theorem nrm_eq (n : Nd) : nrm n = ndOf n.hd (n.ks.map nrm) := by
  cases n with
  | leaf h => rw [nrm]; rfl
  | mk h l => rw [nrm, nrmL_map]; rfl
theorem callNd_is (nm : ByteArray) (l : List Nd) : callNd nm l = ndOf (callH nm) l := by cases l <;> rfl

theorem hd_cases {h : Hd} {n : Nat} (hb : bareB h n = true) (ho : okR h n = true) :
    (∃ v, h = { hz with k := 1, vk := 1, vn := v } ∧ 0 ≤ v ∧ n = 0) ∨ (∃ s : ByteArray, h = { hz with k := 1, vk := 2, vs := s } ∧ (s.size : Int) ≤ 200 ∧ n = 0) ∨
    (∃ v, h = { hz with k := 1, vk := 3, vn := v } ∧ (v = 0 ∨ v = 1) ∧ n = 0) ∨ (∃ s c r, h = { hz with k := 2, cs := s, cc := c, cr := r } ∧ rightC s c r = true ∧ n = 0) ∨
    (∃ s c r s' c' r', h = { hz with k := 3, cs := s, cc := c, cr := r, ts := s', tc := c', tr := r' } ∧ rangeB s c r s' c' r' = true ∧ n = 0) ∨
    (h = { hz with k := 4, op := ⟨#[45]⟩ } ∧ n = 1) ∨ (∃ o, h = { hz with k := 5, op := o } ∧ opB o = true ∧ n = 2) ∨
    (∃ nm, h = callH nm ∧ callB nm = true ∧ n ≤ 20) ∨ (h = { hz with k := 7 } ∧ n = 0) := by
  obtain ⟨k, op, nm, vk, vn, vs, cs, cc, cr, ts, tc, tr⟩ := h
  by_cases k1 : k = 1
  · subst k1
    simp (decide := true) only [decide_true, decide_false, bareB, okR, cond_true, cond_false, Bool.and_eq_true, Bool.or_eq_true, decide_eq_true_eq] at hb ho
    obtain ⟨rfl, rfl, ⟨rfl, rfl, rfl⟩, ⟨rfl, rfl, rfl⟩, hn⟩ := hb
    obtain ⟨hr, (⟨rfl, h0⟩ | rfl) | rfl⟩ := ho
    · simp (decide := true) only [decide_true, decide_false, rightV, cond_true, cond_false, decide_eq_true_eq] at hr
      subst hr
      exact .inl ⟨vn, rfl, h0, by omega⟩
    · simp (decide := true) only [decide_true, decide_false, rightV, cond_true, cond_false, Bool.and_eq_true, decide_eq_true_eq] at hr
      obtain ⟨rfl, hs⟩ := hr
      exact .inr (.inl ⟨vs, rfl, hs, by omega⟩)
    · simp (decide := true) only [decide_true, decide_false, rightV, cond_true, cond_false, Bool.and_eq_true, Bool.or_eq_true, decide_eq_true_eq] at hr
      obtain ⟨hv, rfl⟩ := hr
      exact .inr (.inr (.inl ⟨vn, rfl, hv, by omega⟩))
  · by_cases k2 : k = 2
    · subst k2
      simp (decide := true) only [decide_true, decide_false, bareB, okR, cond_true, cond_false, Bool.and_eq_true, decide_eq_true_eq] at hb ho
      obtain ⟨rfl, rfl, ⟨rfl, rfl, rfl⟩, ⟨rfl, rfl, rfl⟩, hn⟩ := hb
      exact .inr (.inr (.inr (.inl ⟨_, _, _, rfl, ho, by omega⟩)))
    · by_cases k3 : k = 3
      · subst k3
        simp (decide := true) only [decide_true, decide_false, bareB, okR, cond_true, cond_false, Bool.and_eq_true, decide_eq_true_eq] at hb ho
        obtain ⟨rfl, rfl, ⟨rfl, rfl, rfl⟩, hn⟩ := hb
        exact .inr (.inr (.inr (.inr (.inl ⟨_, _, _, _, _, _, rfl, ho, by omega⟩))))
      · by_cases k4 : k = 4
        · subst k4
          simp (decide := true) only [decide_true, decide_false, bareB, okR, cond_true, cond_false, Bool.and_eq_true, decide_eq_true_eq] at hb ho
          obtain ⟨rfl, ⟨rfl, rfl, rfl⟩, ⟨rfl, rfl, rfl⟩, rfl, rfl, rfl⟩ := hb
          obtain ⟨rfl, hn⟩ := ho
          exact .inr (.inr (.inr (.inr (.inr (.inl ⟨rfl, by omega⟩)))))
        · by_cases k5 : k = 5
          · subst k5
            simp (decide := true) only [decide_true, decide_false, bareB, okR, cond_true, cond_false, Bool.and_eq_true, decide_eq_true_eq] at hb ho
            obtain ⟨rfl, ⟨rfl, rfl, rfl⟩, ⟨rfl, rfl, rfl⟩, rfl, rfl, rfl⟩ := hb
            exact .inr (.inr (.inr (.inr (.inr (.inr (.inl ⟨op, rfl, ho.1, by omega⟩))))))
          · by_cases k6 : k = 6
            · subst k6
              simp (decide := true) only [decide_true, decide_false, bareB, okR, cond_true, cond_false, Bool.and_eq_true, decide_eq_true_eq] at hb ho
              obtain ⟨rfl, ⟨rfl, rfl, rfl⟩, ⟨rfl, rfl, rfl⟩, rfl, rfl, rfl⟩ := hb
              exact .inr (.inr (.inr (.inr (.inr (.inr (.inr (.inl ⟨nm, rfl, ho.1, by omega⟩)))))))
            · by_cases k7 : k = 7
              · subst k7
                simp (decide := true) only [decide_true, decide_false, bareB, cond_true, cond_false, Bool.and_eq_true, decide_eq_true_eq] at hb
                obtain ⟨rfl, rfl, ⟨rfl, rfl, rfl⟩, ⟨rfl, rfl, rfl⟩, ⟨rfl, rfl, rfl⟩, hn⟩ := hb
                exact .inr (.inr (.inr (.inr (.inr (.inr (.inr (.inr ⟨rfl, by omega⟩)))))))
              · simp only [bareB, k1, k2, k3, k4, k5, k6, k7, decide_false, cond_false, Bool.false_eq_true] at hb

theorem rowN_end (l : List UInt8) (b : UInt8) : rowN (l ++ [b]) = 10 * rowN l + (b.toNat - 48) := by simp [rowN, List.foldl_append]
theorem dd_facts (u : Nat) : rowN (Lib.decDigits u) = u ∧ (Lib.decDigits u).all dg = true ∧ Lib.decDigits u ≠ [] := by
  induction u using Nat.strongRecOn with
  | ind u ih =>
    rw [Lib.decDigits]
    have hd : ∀ d, d < 10 → (UInt8.ofNat (48 + d)).toNat = 48 + d := fun d h => by simp; omega
    by_cases h : u < 10
    · rw [dif_pos h]
      have := hd u h
      refine ⟨?_, ?_, by simp⟩
      · simp only [rowN, List.foldl_cons, List.foldl_nil, this]; omega
      · simp only [List.all_cons, List.all_nil, Bool.and_true, dg, this, Bool.and_eq_true, decide_eq_true_eq]; omega
    · rw [dif_neg h]
      have := hd (u % 10) (by omega)
      obtain ⟨h1, h2, h3⟩ := ih (u / 10) (by omega)
      refine ⟨?_, ?_, by simp⟩
      · rw [rowN_end, h1, this]; omega
      · simp only [List.all_append, h2, List.all_cons, List.all_nil, Bool.and_true, Bool.true_and, dg, this, Bool.and_eq_true, decide_eq_true_eq]; omega

theorem sgn5 (i : Nat) (s : List UInt8) (l : List Tk) : sgn ((5, i, s) :: l) = B s := rfl
section
variable (sh : ByteArray) (en : Int)
/-- Reading comes to that node, with nothing wrong. -/
def Rb (w : W) (l : List Tk) (a : Nd) (l' : List Tk) : Prop := ∃ m, pF sh en m w l = some (a, -1, l')
end
section
variable {sh : ByteArray} {en : Int} {l l' : List Tk} {a b : Nd}
theorem Rb.at {w : W} (h : Rb sh en w l a l') : ∃ m, ∀ n, m ≤ n → pF sh en n w l = some (a, -1, l') := by
  obtain ⟨m, hm⟩ := h
  exact ⟨m, fun n hn => pF_mono m n hn _ _ _ hm⟩
theorem rd_formula (h : Rb sh en (.pairs 1) l a l') : Rb sh en .formula l a l' := by
  obtain ⟨m, hm⟩ := h
  exact ⟨m + 1, hm⟩
theorem rd_minus {i : Nat} (h : Rb sh en .unary l a l') : Rb sh en .unary ((5, i, [45]) :: l) (unNd ⟨#[45]⟩ a) l' := by
  obtain ⟨m, hm⟩ := h
  refine ⟨m + 1, ?_⟩
  show stepP sh en m (pF sh en m) .unary _ = _
  simp only [stepP]
  rw [if_pos (show sgn ((5, i, [45]) :: l) = ⟨#[45]⟩ from rfl), hm]; rfl
theorem rd_single (hs : sgn l ≠ ⟨#[45]⟩) (h : Rb sh en .single l a l') : Rb sh en .unary l a l' := by
  obtain ⟨m, hm⟩ := h
  refine ⟨m + 1, ?_⟩
  show stepP sh en m (pF sh en m) .unary _ = _
  simp only [stepP]
  rw [if_neg hs, hm]
theorem rd_top (h : Rb sh en .unary l a l') : Rb sh en (.pairs 5) l a l' := by
  obtain ⟨m, hm⟩ := h
  refine ⟨m + 1, ?_⟩
  show stepP sh en m (pF sh en m) (.pairs 5) _ = _
  simp only [stepP]
  rw [if_pos (by omega), hm]
theorem rd_pass {r : Nat} (h1 : 1 ≤ r) (h4 : r ≤ 4) (h : Rb sh en (.pairs (r + 1)) l a l') (hr : rankP (sgn l') ≠ r) : Rb sh en (.pairs r) l a l' := by
  obtain ⟨m, hm⟩ := h.at
  refine ⟨m + 1 + 1, ?_⟩
  show stepP sh en (m + 1) (pF sh en (m + 1)) (.pairs r) _ = _
  simp only [stepP]
  rw [if_neg (by omega), if_neg (by omega), hm _ (by omega)]
  simp only [loopP]
  rw [if_neg (by rintro ⟨-, e⟩; exact hr e)]
theorem rd_down {r : Nat} (h1 : 1 ≤ r) : ∀ d, r + d ≤ 5 → Rb sh en (.pairs (r + d)) l a l' → (∀ q, r ≤ q → q < r + d → rankP (sgn l') ≠ q) → Rb sh en (.pairs r) l a l'
  | 0, _, h, _ => h
  | d + 1, hd, h, hr => rd_down h1 d (by omega) (rd_pass (by omega) (by omega) h (hr _ (by omega) (by omega))) fun q h1 h2 => hr q h1 (by omega)
theorem rd_pair {r : Nat} {i : Nat} {o : List UInt8} {lb : List Tk} (hr : rankP (B o) = r) (h1 : 1 ≤ r) (h4 : r ≤ 4) (ha : Rb sh en .unary l a ((5, i, o) :: lb)) (hb : Rb sh en .unary lb b l') (h0 : rankP (sgn l') = 0) :
    Rb sh en .formula l (pairNd (B o) a b) l' := by
  have hs : sgn ((5, i, o) :: lb) = B o := rfl
  have ha' : Rb sh en (.pairs (r + 1)) l a ((5, i, o) :: lb) := rd_down (by omega) (4 - r) (by omega) (by rw [show r + 1 + (4 - r) = 5 by omega]; exact rd_top ha) fun q hq _ => by rw [hs, hr]; omega
  have hb' : Rb sh en (.pairs (r + 1)) lb b l' := rd_down (by omega) (4 - r) (by omega) (by rw [show r + 1 + (4 - r) = 5 by omega]; exact rd_top hb) fun q hq _ => by rw [h0]; omega
  have hp : Rb sh en (.pairs r) l (pairNd (B o) a b) l' := by
    obtain ⟨m, hm⟩ := ha'.at
    obtain ⟨m', hm'⟩ := hb'.at
    refine ⟨m + m' + 2 + 1, ?_⟩
    show stepP sh en (m + m' + 2) (pF sh en (m + m' + 2)) (.pairs r) _ = _
    simp only [stepP]
    rw [if_neg (by omega), if_neg (by omega), hm _ (by omega)]
    simp only [loopP]
    rw [hs, hr, if_pos ⟨trivial, rfl⟩, hm' _ (by omega)]
    simp only
    rw [if_neg (by rintro ⟨-, e⟩; rw [h0] at e; omega)]
  exact rd_formula (rd_down (Nat.le_refl 1) (r - 1) (by omega) (by rw [show 1 + (r - 1) = r by omega]; exact hp) fun q hq _ => by rw [h0]; omega)
theorem rd_whole (h : Rb sh en .unary l a l') (h0 : rankP (sgn l') = 0) : Rb sh en .formula l a l' :=
  rd_formula (rd_down (Nat.le_refl 1) 4 (by omega) (rd_top h) fun q hq _ => by rw [h0]; omega)
theorem rd_inner {i j : Nat} (h : Rb sh en .formula l a ((5, j, [41]) :: l')) : Rb sh en .unary ((5, i, [40]) :: l) a l' := by
  obtain ⟨m, hm⟩ := h
  refine rd_single (by rw [sgn5]; decide) ⟨m + 1 + 1, ?_⟩
  show stepP sh en (m + 1) (pF sh en (m + 1)) .single _ = _
  simp only [stepP]
  rw [if_neg (by decide), if_neg (by decide), if_neg (by decide), if_neg (by decide), if_pos (show sgn ((5, i, [40]) :: l) = ⟨#[40]⟩ from rfl)]
  show stepP sh en m (pF sh en m) .inner _ = _
  simp only [stepP]
  rw [hm]
  rfl

/- Nodes without kids. -/
theorem rb_one {r : RP} {t : Tk} (h5 : t.1 ≠ 5) (hr : r = (a, -1, l')) (h : ∀ m, stepP sh en (m + 1) (pF sh en (m + 1)) .single (t :: l) = some r) : Rb sh en .unary (t :: l) a l' := by
  refine rd_single ?_ ⟨1 + 1, ?_⟩
  · unfold sgn; simp only; rw [if_neg h5]; decide
  · subst hr; exact h 0
theorem rb_number {i u : Nat} (hu : u ≤ 9223372036854775807) : Rb sh en .unary ((1, i, Lib.decDigits u) :: l) (valNd 1 (u : Int) ⟨#[]⟩) l := by
  obtain ⟨h1, h2, h3⟩ := dd_facts u
  refine rb_one (by simp) rfl fun m => ?_
  have hk : tkOK (1, i, Lib.decDigits u) := ⟨by have := dd_len20 u (by omega); simp only; omega, fun _ => ⟨h3, h2⟩⟩
  have hn : numP (Lib.decDigits u) = some u := by unfold numP; rw [h1, if_neg (by omega)]
  simp only [stepP]
  rw [if_pos trivial, if_pos hk, hn]
theorem rb_text {i : Nat} {s : List UInt8} : Rb sh en .unary ((2, i, s) :: l) (valNd 2 0 (B s)) l := by
  refine rb_one (by simp) rfl fun m => ?_
  simp only [stepP]
  rw [if_neg (by decide), if_pos trivial]
theorem rb_word {t : Tk} {r : RP} (h3 : t.1 = 3) (hr : r = (a, -1, l')) (h : ∀ m, stepP sh en m (pF sh en m) .word (t :: l) = some r) : Rb sh en .unary (t :: l) a l' := by
  refine rb_one (by rw [h3]; decide) hr fun m => ?_
  simp only [stepP]
  rw [if_neg (by rw [h3]; decide), if_neg (by rw [h3]; decide), if_pos h3]
  exact h m
theorem rb_true {i : Nat} : Rb sh en .unary ((3, i, [84, 82, 85, 69]) :: l) (valNd 3 1 ⟨#[]⟩) l := by
  refine rb_word rfl rfl fun m => ?_
  simp only [stepP]
  rw [if_pos (by decide)]
theorem rb_false {i : Nat} : Rb sh en .unary ((3, i, [70, 65, 76, 83, 69]) :: l) (valNd 3 0 ⟨#[]⟩) l := by
  refine rb_word rfl rfl fun m => ?_
  simp only [stepP]
  rw [if_neg (by decide), if_pos (by decide)]
theorem rb_bad {i j : Nat} : Rb sh en .unary ((3, i, [82, 69, 70]) :: (5, j, [33]) :: l) badNd l := by
  refine rb_word rfl rfl fun m => ?_
  simp only [stepP]
  rw [if_neg (by decide), if_neg (by decide), if_neg (by rw [sgn5]; decide), if_pos ⟨by rw [sgn5]; rfl, by decide⟩]
  rfl
theorem plT_len {s : ByteArray} {c r : Int} (h : rightC s c r = true) : (plT c r).length ≤ 200 := by
  obtain ⟨c, rfl⟩ := Int.eq_ofNat_of_zero_le (show 0 ≤ c from by have := rightC_iff.1 h; omega)
  obtain ⟨r, rfl⟩ := Int.eq_ofNat_of_zero_le (show 0 ≤ r from by have := rightC_iff.1 h; omega)
  obtain ⟨hn, h1, h2, h3, h4⟩ := rightC_iff.1 h
  have h5 := (col_facts (c := c) (by omega)).2.1
  have h6 := (dec_facts (r := r) (by omega)).2.1
  simp only [plT, List.length_append, Int.ofNat_eq_natCast, Int.toNat_natCast] at *
  omega
theorem cellP_is {s : ByteArray} {c r : Int} {i : Nat} (h : rightC s c r = true) : cellP s ((3, i, plT c r) :: l) = some (some (s, c, r), l) := by
  have hl := plT_len h
  have hs := name_len (rightC_iff.1 h).1
  have hr : readA (s ++ ⟨#[33]⟩ ++ B (plT c r)) = some (s, c, r) := by
    have := readA_show h
    unfold showC at this
    rw [if_pos h] at this
    unfold showP at this
    rw [← this]
    congr 1
    obtain ⟨a, rfl⟩ := B_of s
    rw [show (⟨#[33]⟩ : ByteArray) = B [33] from rfl]
    simp only [B_append, plT, List.append_assoc]
  simp only [cellP]
  rw [if_pos trivial, if_pos ⟨hl, by omega⟩, hr]
theorem rb_small {i j : Nat} {s : ByteArray} {r : RP} (hr : r = (a, -1, l')) (h : ref2P (i : Int) s l = some r) : Rb sh en .unary ((4, i, s.data.toList) :: (5, j, [33]) :: l) a l' := by
  refine rb_one (by simp) hr fun m => ?_
  simp only [stepP]
  rw [if_neg (by decide), if_neg (by decide), if_neg (by decide), if_pos trivial]
  simp only [refP]
  rw [if_pos trivial, if_pos (show sgn ((5, j, [33]) :: l) = ⟨#[33]⟩ from rfl)]
  exact h
theorem rb_cell {i j k : Nat} {s : ByteArray} {c r : Int} (h : rightC s c r = true) (h58 : sgn l ≠ ⟨#[58]⟩) : Rb sh en .unary ((4, i, s.data.toList) :: (5, j, [33]) :: (3, k, plT c r) :: l) (cellNd s c r) l := by
  refine rb_small rfl ?_
  simp only [ref2P]
  rw [cellP_is h]
  simp only
  rw [if_neg h58]
theorem rb_range {i j k q z : Nat} {s : ByteArray} {c r c' r' : Int} (h : rightC s c r = true) (h' : rightC s c' r' = true) (hr : rangeB s c r s c' r' = true) :
    Rb sh en .unary ((4, i, s.data.toList) :: (5, j, [33]) :: (3, k, plT c r) :: (5, q, [58]) :: (3, z, plT c' r') :: l) (rangeNd s c r s c' r') l := by
  refine rb_small rfl ?_
  simp only [ref2P]
  rw [cellP_is h]
  simp only
  rw [if_pos (show sgn ((5, q, [58]) :: (3, z, plT c' r') :: l) = ⟨#[58]⟩ from rfl), List.tail_cons, cellP_is h']
  simp only
  rw [if_pos hr]

/- Calls. -/
theorem rb_call {i j : Nat} {nm : List UInt8} {x : Nd} (hn : callB (B nm) = true) (h : ∃ m, stepP sh en m (pF sh en m) .call ((3, i, nm) :: (5, j, [40]) :: l) = some (x, -1, l')) : Rb sh en .unary ((3, i, nm) :: (5, j, [40]) :: l) x l' := by
  obtain ⟨m, hm⟩ := h
  have hT : B nm ≠ ⟨#[84, 82, 85, 69]⟩ := fun e => by rw [callB_T (decide_eq_true e)] at hn; cases hn
  have hF : B nm ≠ ⟨#[70, 65, 76, 83, 69]⟩ := fun e => by rw [callB_F (decide_eq_true e)] at hn; cases hn
  refine rd_single (by unfold sgn; simp only; rw [if_neg (by decide)]; decide) ⟨m + 1 + 1 + 1, ?_⟩
  show stepP sh en (m + 1 + 1) (pF sh en (m + 1 + 1)) .single _ = _
  simp only [stepP]
  rw [if_neg (by decide), if_neg (by decide), if_pos trivial]
  show stepP sh en (m + 1) (pF sh en (m + 1)) .word _ = _
  simp only [stepP]
  rw [if_neg hT, if_neg hF, if_pos ⟨rfl, hn⟩]
  exact hm
theorem rb_call0 {i j k : Nat} {nm : List UInt8} (hn : callB (B nm) = true) : Rb sh en .unary ((3, i, nm) :: (5, j, [40]) :: (5, k, [41]) :: l) (callNd (B nm) []) l := by
  refine rb_call hn ⟨0, ?_⟩
  simp only [stepP]
  rw [if_pos (show sgn ((5, k, [41]) :: l) = ⟨#[41]⟩ from rfl)]
  rfl
end

section
variable (sh : ByteArray) (en : Int)
/-- A node's tokens are read back as that node, whatever stands behind, if it is no colon. -/
def Good (n : Nd) : Prop := ∀ (i : Nat) (l : List Tk), sgn l ≠ ⟨#[58]⟩ → Rb sh en .unary (plc i (pcN n) ++ l) (nrm n) l
theorem calls_rb (nm : ByteArray) : ∀ (ks : List Nd), ks ≠ [] → (∀ n ∈ ks, Good sh en n) → ∀ (ks0 : List Nd) (i j : Nat) (l : List Tk), ks0.length + ks.length ≤ 20 →
    ∃ m, ∀ k n, m ≤ k → m ≤ n → callsP en (pF sh en n .formula) nm k ks0 (plc i (sepT (ks.map pcN)) ++ (5, j, [41]) :: l) = some (callNd nm (ks0 ++ ks.map nrm), -1, l)
  | [], h, _, _, _, _, _, _ => absurd rfl h
  | [a], _, hk, ks0, i, j, l, hl => by
    obtain ⟨m, hm⟩ := (rd_whole (hk a (by simp) i ((5, j, [41]) :: l) (by rw [sgn5]; decide)) (by rw [sgn5]; decide)).at
    refine ⟨m + 1, fun k n hk hn => ?_⟩
    obtain ⟨k, rfl⟩ : ∃ q, k = q + 1 := ⟨k - 1, by omega⟩
    simp only [callsP, List.map_cons, List.map_nil, sepT]
    rw [hm n (by omega)]
    simp only [if_pos]
    rw [if_neg (by rw [sgn5]; rintro ⟨e, -⟩; revert e; decide)]
    unfold skipP
    rw [if_pos (show sgn ((5, j, [41]) :: l) = ⟨#[41]⟩ from rfl)]
  | a :: b :: r, _, hk, ks0, i, j, l, hl => by
    simp only [List.length_cons] at hl
    have e : plc i (sepT ((a :: b :: r).map pcN)) ++ (5, j, [41]) :: l = plc i (pcN a) ++ (5, i + (wrs (pcN a)).length, [44]) :: (plc (i + (wrs (pcN a)).length + (wr (5, [44])).length) (sepT ((b :: r).map pcN)) ++ (5, j, [41]) :: l) := by
      simp only [List.map_cons, sepT, plc_append, plc, List.append_assoc, List.cons_append]
    rw [e]
    obtain ⟨m, hm⟩ := (rd_whole (hk a (by simp) i ((5, i + (wrs (pcN a)).length, [44]) :: (plc (i + (wrs (pcN a)).length + (wr (5, [44])).length) (sepT ((b :: r).map pcN)) ++ (5, j, [41]) :: l)) (by rw [sgn5]; decide)) (by rw [sgn5]; decide)).at
    obtain ⟨m', hm'⟩ := calls_rb nm (b :: r) (by simp) (fun n hn => hk n (List.mem_cons_of_mem _ hn)) (ks0 ++ [nrm a]) (i + (wrs (pcN a)).length + (wr (5, [44])).length) j l (by simp only [List.length_append, List.length_cons, List.length_nil]; omega)
    refine ⟨m + m' + 1, fun k n hk hn => ?_⟩
    obtain ⟨k, rfl⟩ : ∃ q, k = q + 1 := ⟨k - 1, by omega⟩
    simp only [callsP]
    rw [hm n (by omega)]
    simp only [if_pos]
    rw [if_pos ⟨rfl, by omega⟩, List.tail_cons, hm' k n (by omega) (by omega)]
    simp
theorem rL_mem {n : Nd} {l : List Nd} (h : rL l = true) (hn : n ∈ l) : rN n = true := by
  induction l with
  | nil => cases hn
  | cons x l ih =>
    simp only [rL, Bool.and_eq_true] at h
    rcases List.mem_cons.1 hn with rfl | hn
    · exact h.1
    · exact ih h.2 hn
theorem op_rank {o : ByteArray} (h : opB o = true) : 1 ≤ rankP o ∧ rankP o ≤ 4 := by
  simp only [opB, Bool.or_eq_true, decide_eq_true_eq] at h
  rcases h with rfl | rfl | rfl | rfl | rfl | rfl | rfl | rfl | rfl | rfl | rfl <;> decide
theorem okA_sheet {s s' : ByteArray} {c r c' r' : Int} (h : rangeB s c r s' c' r' = true) : s = s' ∧ rightC s c r = true ∧ rightC s c' r' = true := by
  simp only [rangeB, Bool.and_eq_true] at h
  obtain ⟨h1, h2, rfl, -⟩ := okA_iff.1 h.1
  exact ⟨rfl, h1, h2⟩
/-- How a node's tokens begin. -/
theorem pc_head {n : Nd} (h : rN n = true) : ∃ p ps, pcN n = p :: ps ∧ (p.1 = 5 → p.2 = [45] ∨ p.2 = [40]) := by
  rw [rN_eq] at h
  simp only [Bool.and_eq_true] at h
  obtain ⟨hb, -, ho⟩ := h
  rw [pcN_eq]
  generalize n.ks = ks at hb ho
  generalize n.hd = hd at hb ho
  rcases hd_cases hb ho with ⟨v, rfl, h0, hn⟩ | ⟨s, rfl, -, hn⟩ | ⟨v, rfl, h0, hn⟩ | ⟨s, c, r, rfl, h0, hn⟩ | ⟨s, c, r, s', c', r', rfl, h0, hn⟩ | ⟨rfl, hn⟩ | ⟨o, rfl, h0, hn⟩ | ⟨nm, rfl, h0, hn⟩ | ⟨rfl, hn⟩
  · exact ⟨_, _, rfl, by simp⟩
  · exact ⟨_, _, rfl, by simp⟩
  · rcases h0 with rfl | rfl <;> exact ⟨_, _, rfl, by simp⟩
  · exact ⟨_, _, rfl, by simp⟩
  · exact ⟨_, _, rfl, by simp⟩
  · exact ⟨_, _, rfl, by simp⟩
  · exact ⟨_, _, rfl, by simp⟩
  · exact ⟨_, _, rfl, by simp⟩
  · exact ⟨_, _, rfl, by simp⟩
theorem sep_head {a : Nd} (ks : List Nd) (h : rN a = true) : ∃ p ps, sepT ((a :: ks).map pcN) = p :: ps ∧ (p.1 = 5 → p.2 = [45] ∨ p.2 = [40]) := by
  obtain ⟨p, ps, e, hp⟩ := pc_head h
  cases ks with
  | nil => exact ⟨p, ps, e, hp⟩
  | cons b ks => exact ⟨p, ps ++ (5, [44]) :: sepT ((b :: ks).map pcN), by simp only [List.map_cons, sepT, e, List.cons_append], hp⟩
theorem good_node : ∀ (m : Nat) (n : Nd), cnt n ≤ m → rN n = true → smN n → Good sh en n
  | 0, n, h, _, _ => by have := cnt_pos n; omega
  | m + 1, n, hm, hr, hs => by
    rw [rN_eq] at hr
    simp only [Bool.and_eq_true] at hr
    obtain ⟨hb, hL, ho⟩ := hr
    rw [smN_eq] at hs
    rw [cnt_eq] at hm
    have hk : ∀ k ∈ n.ks, Good sh en k := fun k hk => good_node m k (by have := cntL_mem hk; omega) (rL_mem hL hk) (smL_mem hs.2 hk)
    have hv := hs.1
    have hL' : ∀ k ∈ n.ks, rN k = true := fun k hk => rL_mem hL hk
    intro i l hl
    rw [pcN_eq, nrm_eq]
    generalize n.ks = ks at hk hb ho hL'
    generalize n.hd = hd at hb ho hv
    have nil : ks.length = 0 → ks = [] := List.eq_nil_of_length_eq_zero
    rcases hd_cases hb ho with ⟨v, rfl, h0, hn⟩ | ⟨s, rfl, -, hn⟩ | ⟨v, rfl, h0, hn⟩ | ⟨s, c, r, rfl, h0, hn⟩ | ⟨s, c, r, s', c', r', rfl, h0, hn⟩ | ⟨rfl, hn⟩ | ⟨o, rfl, h0, hn⟩ | ⟨nm, rfl, h0, hn⟩ | ⟨rfl, hn⟩
    · rw [nil hn]
      have := rb_number (sh := sh) (en := en) (l := l) (i := i) (u := v.toNat) (by simp only at hv; omega)
      rw [Int.toNat_of_nonneg h0] at this
      exact this
    · rw [nil hn]
      exact rb_text
    · rw [nil hn]
      rcases h0 with rfl | rfl
      · exact rb_false
      · exact rb_true
    · rw [nil hn]
      exact rb_cell h0 hl
    · rw [nil hn]
      obtain ⟨rfl, h1, h2⟩ := okA_sheet h0
      exact rb_range h1 h2 h0
    · obtain ⟨a, rfl⟩ := List.length_eq_one_iff.1 hn
      exact rd_minus (hk a (by simp) _ l hl)
    · obtain ⟨a, b, rfl⟩ : ∃ a b, ks = [a, b] := by
        match ks, hn with
        | [a, b], _ => exact ⟨a, b, rfl⟩
      obtain ⟨h1, h4⟩ := op_rank h0
      have e : plc i (pcH { hz with k := 5, op := o } ([a, b].map pcN)) ++ l = (5, i, [40]) :: (plc (i + 1) (pcN a) ++ (5, i + 1 + (wrs (pcN a)).length, o.data.toList) :: (plc (i + 1 + (wrs (pcN a)).length + (wr (5, o.data.toList)).length) (pcN b) ++ (5, i + 1 + (wrs (pcN a)).length + (wr (5, o.data.toList)).length + (wrs (pcN b)).length, [41]) :: l)) := by
        show plc i ((5, [40]) :: (pcN a ++ (5, o.data.toList) :: (pcN b ++ [(5, [41])]))) ++ l = _
        simp only [plc, plc_append, List.cons_append, List.append_assoc, List.nil_append]
        rfl
      rw [e]
      refine rd_inner (rd_pair (r := rankP o) rfl h1 h4 (hk a (by simp) _ _ ?_) (hk b (by simp) _ _ (by rw [sgn5]; decide)) (by rw [sgn5]; decide))
      rw [sgn5, B_data]
      intro e; rw [e] at h0; revert h0; decide
    · by_cases h : ks = []
      · subst h
        exact rb_call0 (nm := nm.data.toList) h0
      · have hsep : ∃ p ps, sepT (ks.map pcN) = p :: ps ∧ (p.1 = 5 → p.2 = [45] ∨ p.2 = [40]) := by
          cases ks with
          | nil => exact absurd rfl h
          | cons a ks => exact sep_head ks (hL' a (by simp))
        obtain ⟨q, hq⟩ := calls_rb sh en nm ks h hk [] (i + (wr (3, nm.data.toList)).length + 1) (i + (wr (3, nm.data.toList)).length + 1 + (wrs (sepT (ks.map pcN))).length) l (by simp only [List.length_nil]; omega)
        have e : plc i (pcH (callH nm) (ks.map pcN)) ++ l = (3, i, nm.data.toList) :: (5, i + (wr (3, nm.data.toList)).length, [40]) :: (plc (i + (wr (3, nm.data.toList)).length + 1) (sepT (ks.map pcN)) ++ (5, i + (wr (3, nm.data.toList)).length + 1 + (wrs (sepT (ks.map pcN))).length, [41]) :: l) := by
          show plc i ((3, nm.data.toList) :: (5, [40]) :: (sepT (ks.map pcN) ++ [(5, [41])])) ++ l = _
          simp only [plc, plc_append, List.cons_append, List.append_assoc, List.nil_append]
          rfl
        rw [e, ← callNd_is]
        refine rb_call h0 ⟨q, ?_⟩
        simp only [stepP]
        have hq' := hq q q (Nat.le_refl _) (Nat.le_refl _)
        obtain ⟨p, ps, ep, hp⟩ := hsep
        rw [ep] at hq' ⊢
        rw [if_neg, B_data, hq', List.nil_append]
        simp only [plc, List.cons_append]
        unfold sgn
        simp only
        split
        · rename_i h5
          rcases hp h5 with e | e <;> · rw [e]; decide
        · decide
    · rw [nil hn]
      exact rb_bad
end
end Go.Proofs.YteibnmlfipkmeaaGreatDoor

/- Formulas written: the tokens may stand side by side; Parse of what is written is the node. Nothing of the program. -/
namespace Go.Proofs.YteibnmlfipkmeaaGreatDoor
open Go Go.RowKit
set_option linter.unusedSimpArgs false

def headOK (b : List Pc) : Prop := ∀ p, b.head? = some p → p.1 = 5 → p.2 = [45] ∨ p.2 = [40]
def lastOK (a : List Pc) : Prop := ∀ p, a.getLast? = some p → ¬ (p.1 = 5 ∧ (p.2 = [60] ∨ p.2 = [62]))
theorem pcs_cons {p : Pc} {b : List Pc} (hp : pcOK p) (hb : pcsOK b) (h : ∀ q, b.head? = some q → pcTwo p q) : pcsOK (p :: b) := by
  cases b with
  | nil => exact hp
  | cons q b => exact ⟨hp, h q rfl, hb⟩
theorem pcs_app : ∀ {a b : List Pc}, pcsOK a → pcsOK b → (∀ p q, a.getLast? = some p → b.head? = some q → pcTwo p q) → pcsOK (a ++ b)
  | [], _, _, hb, _ => hb
  | [p], _, ha, hb, h => pcs_cons ha hb fun q hq => h p q rfl hq
  | p :: q :: a, _, ha, hb, h => by
    refine ⟨ha.1, ha.2.1, pcs_app ha.2.2 hb fun x y hx hy => h x y ?_ hy⟩
    rw [List.getLast?_cons_cons]; exact hx
/-- Tokens that may be written, begin as a node does and end as one. -/
structure Wd (a : List Pc) : Prop where
  ok : pcsOK a
  hd : headOK a
  la : lastOK a
theorem last_app {a b : List Pc} (hb : b ≠ []) (h : lastOK b) : lastOK (a ++ b) := by
  intro p hp
  cases hy : b.getLast? with
  | none => exact absurd (List.getLast?_eq_none_iff.1 hy) hb
  | some y =>
    rw [List.getLast?_append, hy] at hp
    cases hp
    exact h _ hy
theorem last_cons {p : Pc} {b : List Pc} (hb : b ≠ []) (h : lastOK b) : lastOK (p :: b) := last_app (a := [p]) hb h
/-- A sign, and what may stand behind it. -/
theorem pcs_sign {s : List UInt8} {b : List Pc} (hs : pcOK (5, s)) (hb : pcsOK b) (h : headOK b ∨ (s ≠ [60] ∧ s ≠ [62])) : pcsOK ((5, s) :: b) := by
  refine pcs_cons hs hb fun q hq => ⟨fun e => absurd rfl e, fun _ hs' h5 => ?_⟩
  rcases h with h | h
  · exact h q hq h5
  · rcases hs' with e | e
    · exact absurd e h.1
    · exact absurd e h.2
/-- Tokens, and a sign behind them. -/
theorem pcs_then {a : List Pc} {s : List UInt8} {b : List Pc} (ha : pcsOK a) (hl : lastOK a) (hb : pcsOK ((5, s) :: b)) : pcsOK (a ++ (5, s) :: b) := by
  refine pcs_app ha hb fun p q hp hq => ?_
  simp only [List.head?_cons, Option.some.injEq] at hq
  subst hq
  exact ⟨fun _ => rfl, fun h5 h6 _ => absurd ⟨h5, h6⟩ (hl p hp)⟩
theorem sign1 {b : UInt8} (h : signB b = true) : pcOK (5, [b]) := .inr (.inr (.inr (.inr ⟨rfl, .inl ⟨b, rfl, h⟩⟩)))
theorem close_ok : pcsOK [(5, [41])] := sign1 (by decide)
theorem last_close {a : List Pc} : lastOK (a ++ [(5, [41])]) := last_app (by simp) fun p hp => by simp at hp; subst hp; simp
theorem wd_one {p : Pc} (h : pcOK p) (h5 : p.1 ≠ 5) : Wd [p] := ⟨h, fun q hq h => by simp at hq; subst hq; exact absurd h h5, fun q hq => by simp at hq; subst hq; exact fun h => h5 h.1⟩
theorem name_pc {s : ByteArray} (h : nameB s = true) : pcOK (4, s.data.toList) := by
  obtain ⟨l, rfl⟩ := B_of s
  rw [B_bytes]
  simp only [nameB, Bool.and_eq_true, decide_eq_true_eq, B_size] at h
  obtain ⟨⟨⟨h1, -⟩, hs⟩, hall⟩ := h
  refine .inr (.inr (.inr (.inl ⟨rfl, ?_, ?_⟩)))
  · cases l with
    | nil => simp at h1
    | cons b t =>
      have := byteV_B (l := b :: t) (i := 0) (b := b) rfl
      exact ⟨b, t, rfl, by rw [← this]; exact hs⟩
  · rw [List.all_eq_true] at hall ⊢
    intro x hx
    obtain ⟨j, hj⟩ := List.getElem?_of_mem hx
    have hlt : j < l.length := (List.getElem?_eq_some_iff.1 hj).1
    have hv := byteV_B hj
    have := hall j (List.mem_range.2 hlt)
    unfold nameI
    rw [← hv]
    by_cases h0 : j = 0
    · subst h0
      have hs' : smallI (byteV (B l) ((0 : Nat) : Int)) = true := hs
      rw [hs']; rfl
    · simpa [okNm, h0] using this
theorem call_pc {s : ByteArray} (h : callB s = true) : pcOK (3, s.data.toList) := by
  obtain ⟨l, rfl⟩ := B_of s
  rw [B_bytes]
  simp only [callB, Bool.and_eq_true, decide_eq_true_eq, B_size] at h
  obtain ⟨⟨⟨⟨h1, -⟩, -⟩, -⟩, hall⟩ := h
  have hg : ∀ x ∈ l, greatI (x.toNat : Int) = true := by
    intro x hx
    obtain ⟨j, hj⟩ := List.getElem?_of_mem hx
    have hlt : j < l.length := (List.getElem?_eq_some_iff.1 hj).1
    rw [← byteV_B hj]
    exact List.all_eq_true.1 hall j (List.mem_range.2 hlt)
  refine .inr (.inr (.inl ⟨rfl, ?_, ?_⟩))
  · cases l with
    | nil => simp at h1
    | cons b t => exact ⟨b, t, rfl, hg b (by simp)⟩
  · rw [List.all_eq_true]
    intro x hx
    unfold wordI
    rw [hg x hx]; rfl
theorem place_pc {s : ByteArray} {c r : Int} (h : rightC s c r = true) : pcOK (3, plT c r) := by
  obtain ⟨c, rfl⟩ := Int.eq_ofNat_of_zero_le (show 0 ≤ c from by have := rightC_iff.1 h; omega)
  obtain ⟨r, rfl⟩ := Int.eq_ofNat_of_zero_le (show 0 ≤ r from by have := rightC_iff.1 h; omega)
  obtain ⟨hn, h1, h2, h3, h4⟩ := rightC_iff.1 h
  obtain ⟨g1, -, g3, -⟩ := col_facts (c := c) (by omega)
  obtain ⟨d1, -⟩ := dec_facts (r := r) (by omega)
  have e : plT ((c : Nat) : Int) ((r : Nat) : Int) = colP c ++ dec3 r := rfl
  show pcOK (3, plT ((c : Nat) : Int) ((r : Nat) : Int))
  rw [e]
  rw [List.all_eq_true] at g1 d1
  refine .inr (.inr (.inl ⟨rfl, ?_, ?_⟩))
  · cases hc : colP c with
    | nil => rw [hc] at g3; simp [colN] at g3; omega
    | cons b t => exact ⟨b, t ++ dec3 r, rfl, by rw [great_gr]; exact g1 b (by rw [hc]; simp)⟩
  · rw [List.all_eq_true]
    intro x hx
    unfold wordI
    rcases List.mem_append.1 hx with hx | hx
    · rw [great_gr, g1 x hx]; rfl
    · rw [digit_dg, d1 x hx, Bool.or_true]
theorem op_pc {o : ByteArray} (h : opB o = true) : pcOK (5, o.data.toList) := by
  simp only [opB, Bool.or_eq_true, decide_eq_true_eq] at h
  refine .inr (.inr (.inr (.inr ⟨rfl, ?_⟩)))
  rcases h with rfl | rfl | rfl | rfl | rfl | rfl | rfl | rfl | rfl | rfl | rfl <;> first | exact .inr (by decide) | exact .inl ⟨_, rfl, by decide⟩
theorem sep_wd : ∀ (l : List (List Pc)), l ≠ [] → (∀ a ∈ l, Wd a ∧ a ≠ []) → pcsOK (sepT l) ∧ lastOK (sepT l) ∧ sepT l ≠ []
  | [], h, _ => absurd rfl h
  | [a], _, h => ⟨(h a (by simp)).1.ok, (h a (by simp)).1.la, (h a (by simp)).2⟩
  | a :: b :: l, _, h => by
    obtain ⟨h1, h2, h3⟩ := sep_wd (b :: l) (by simp) fun x hx => h x (List.mem_cons_of_mem _ hx)
    have ha := (h a (by simp)).1
    refine ⟨pcs_then ha.ok ha.la (pcs_sign (sign1 (by decide)) h1 (.inr (by decide))), ?_, by simp [sepT]⟩
    exact last_app (by simp) (last_cons h3 h2)
theorem cel_ok {s : ByteArray} {c r : Int} (h : rightC s c r = true) : Wd (celT s c r) := by
  refine ⟨⟨name_pc (rightC_iff.1 h).1, ⟨fun _ => rfl, fun h => by simp at h⟩, sign1 (by decide), ⟨fun e => absurd rfl e, fun _ e => by simp at e⟩, place_pc h⟩, fun q hq h => ?_, fun q hq => ?_⟩
  · simp [celT] at hq; subst hq; simp at h
  · simp [celT] at hq; subst hq; simp
theorem wd_node : ∀ (m : Nat) (n : Nd), cnt n ≤ m → rN n = true → Wd (pcN n)
  | 0, n, h, _ => by have := cnt_pos n; omega
  | m + 1, n, hm, hr => by
    obtain ⟨p, ps, ep, hp⟩ := pc_head hr
    have hhead : headOK (pcN n) := fun q hq h5 => by rw [ep] at hq; simp at hq; subst hq; exact hp h5
    suffices h : pcsOK (pcN n) ∧ lastOK (pcN n) from ⟨h.1, hhead, h.2⟩
    rw [rN_eq] at hr
    simp only [Bool.and_eq_true] at hr
    obtain ⟨hb, hL, ho⟩ := hr
    rw [cnt_eq] at hm
    have hk : ∀ k ∈ n.ks, Wd (pcN k) ∧ pcN k ≠ [] := fun k hk => ⟨wd_node m k (by have := cntL_mem hk; omega) (rL_mem hL hk), by
      obtain ⟨p, ps, e, -⟩ := pc_head (rL_mem hL hk)
      rw [e]; simp⟩
    rw [pcN_eq]
    generalize n.ks = ks at hk hb ho
    generalize n.hd = hd at hb ho
    rcases hd_cases hb ho with ⟨v, rfl, h0, hn⟩ | ⟨s, rfl, -, hn⟩ | ⟨v, rfl, h0, hn⟩ | ⟨s, c, r, rfl, h0, hn⟩ | ⟨s, c, r, s', c', r', rfl, h0, hn⟩ | ⟨rfl, hn⟩ | ⟨o, rfl, h0, hn⟩ | ⟨nm, rfl, h0, hn⟩ | ⟨rfl, hn⟩
    · obtain ⟨-, d2, d3⟩ := dd_facts v.toNat
      have := wd_one (p := (1, Lib.decDigits v.toNat)) (.inl ⟨rfl, d3, by
        rw [List.all_eq_true] at d2 ⊢
        intro x hx
        rw [digit_dg]; exact d2 x hx⟩) (by simp)
      exact ⟨this.ok, this.la⟩
    · have := wd_one (p := (2, s.data.toList)) (.inr (.inl rfl)) (by simp)
      exact ⟨this.ok, this.la⟩
    · rcases h0 with rfl | rfl
      · have := wd_one (p := (3, [70, 65, 76, 83, 69])) (.inr (.inr (.inl ⟨rfl, ⟨_, _, rfl, by decide⟩, by decide⟩))) (by simp)
        exact ⟨this.ok, this.la⟩
      · have := wd_one (p := (3, [84, 82, 85, 69])) (.inr (.inr (.inl ⟨rfl, ⟨_, _, rfl, by decide⟩, by decide⟩))) (by simp)
        exact ⟨this.ok, this.la⟩
    · exact ⟨(cel_ok h0).ok, (cel_ok h0).la⟩
    · obtain ⟨rfl, h1, h2⟩ := okA_sheet h0
      have e3 := wd_one (place_pc h2) (by simp)
      exact ⟨pcs_then (cel_ok h1).ok (cel_ok h1).la (pcs_sign (sign1 (by decide)) e3.ok (.inr (by decide))), last_app (by simp) (last_cons (by simp) e3.la)⟩
    · obtain ⟨a, rfl⟩ := List.length_eq_one_iff.1 hn
      obtain ⟨ha, hne⟩ := hk a (by simp)
      exact ⟨pcs_sign (sign1 (by decide)) ha.ok (.inr (by decide)), last_cons hne ha.la⟩
    · obtain ⟨a, b, rfl⟩ : ∃ a b, ks = [a, b] := by
        match ks, hn with
        | [a, b], _ => exact ⟨a, b, rfl⟩
      obtain ⟨ha, hane⟩ := hk a (by simp)
      obtain ⟨hb, hbne⟩ := hk b (by simp)
      have h1 : pcsOK (pcN b ++ [(5, [41])]) := pcs_then hb.ok hb.la close_ok
      have h2 : headOK (pcN b ++ [(5, [41])]) := fun q hq h5 => by
        cases e : pcN b with
        | nil => exact absurd e hbne
        | cons x t => rw [e] at hq; exact hb.hd q (by rw [e]; exact hq) h5
      refine ⟨?_, ?_⟩
      · exact pcs_sign (sign1 (by decide)) (pcs_then ha.ok ha.la (pcs_sign (op_pc h0) h1 (.inl h2))) (.inr (by decide))
      · show lastOK ((5, [40]) :: (pcN a ++ (5, o.data.toList) :: (pcN b ++ [(5, [41])])))
        exact last_cons (by simp) (last_app (by simp) (last_cons (by simp) last_close))
    · refine ⟨?_, ?_⟩
      · refine pcs_cons (call_pc h0) ?_ fun q hq => ?_
        · refine pcs_sign (sign1 (by decide)) ?_ (.inr (by decide))
          by_cases h : ks = []
          · subst h; exact close_ok
          · obtain ⟨h1, h2, -⟩ := sep_wd (ks.map pcN) (by simpa using h) fun x hx => by
              obtain ⟨k, hk', rfl⟩ := List.mem_map.1 hx
              exact hk k hk'
            exact pcs_then h1 h2 close_ok
        · simp at hq; subst hq
          exact ⟨fun _ => rfl, fun h => by simp at h⟩
      · show lastOK ((3, nm.data.toList) :: (5, [40]) :: (sepT (ks.map pcN) ++ [(5, [41])]))
        exact last_cons (by simp) (last_cons (by simp) last_close)
    · refine ⟨⟨.inr (.inr (.inl ⟨rfl, ⟨_, _, rfl, by decide⟩, by decide⟩)), ⟨fun _ => rfl, fun h => by simp at h⟩, sign1 (by decide)⟩, fun q hq => ?_⟩
      have e : q = (5, [33]) := by
        have : ([(3, [82, 69, 70]), (5, [33])] : List Pc).getLast? = some q := hq
        simp at this; exact this.symm
      subst e; simp
mutual
theorem cnt_nrm : ∀ n : Nd, cnt (nrm n) = cnt n
  | .leaf h => by rw [nrm]
  | .mk h [] => by rw [nrm, nrmL]; simp [ndOf, cnt, cntL]
  | .mk h (a :: l) => by
    have := cntL_nrm (a :: l)
    rw [nrm]
    simp only [nrmL] at this ⊢
    simp only [ndOf, cnt, this]
theorem cntL_nrm : ∀ l : List Nd, cntL (nrmL l) = cntL l
  | [] => by rw [nrmL]
  | n :: l => by rw [nrmL, cntL, cntL, cnt_nrm n, cntL_nrm l]
end
mutual
theorem dN_nrm : ∀ n : Nd, dN (nrm n) = dN n
  | .leaf h => by rw [nrm]
  | .mk h [] => by rw [nrm, nrmL]; simp [ndOf, dN, dL]
  | .mk h (a :: l) => by
    have := dL_nrm (a :: l)
    rw [nrm]
    simp only [nrmL] at this ⊢
    simp only [ndOf, dN, this]
theorem dL_nrm : ∀ l : List Nd, dL (nrmL l) = dL l
  | [] => by rw [nrmL]
  | n :: l => by rw [nrmL, dL, dL, dN_nrm n, dL_nrm l]
end
theorem nrmL_len (l : List Nd) : (nrmL l).length = l.length := by rw [nrmL_map, List.length_map]
mutual
theorem same_nrm : ∀ n : Nd, sameN (nrm n) n = true
  | .leaf h => by rw [nrm]; exact sameN_refl _
  | .mk h [] => by rw [nrm, nrmL]; simp only [ndOf, sameN, Nd.hd, Nd.ks, List.length_nil, alikeB_refl]
  | .mk h (a :: l) => by
    have := sameL_nrm (a :: l)
    have hl := nrmL_len (a :: l)
    rw [nrm]
    simp only [nrmL] at this hl ⊢
    simp only [ndOf, sameN, Nd.hd, Nd.ks, this, hl, alikeB_refl, Bool.and_self]
theorem sameL_nrm : ∀ l : List Nd, sameL (nrmL l) l = true
  | [] => by rw [nrmL]; simp [sameL]
  | n :: l => by rw [nrmL, sameL, same_nrm n, sameL_nrm l]; rfl
end

theorem ndOf_hd (h : Hd) (l : List Nd) : (ndOf h l).hd = h := by cases l <;> rfl
theorem ndOf_ks (h : Hd) (l : List Nd) : (ndOf h l).ks = l := by cases l <;> rfl
theorem nrm_hd (n : Nd) : (nrm n).hd = n.hd := by rw [nrm_eq, ndOf_hd]
theorem nrm_ks (n : Nd) : (nrm n).ks = n.ks.map nrm := by rw [nrm_eq, ndOf_ks]
/-- What is read is written as it was. -/
theorem pcN_nrm : ∀ (m : Nat) (n : Nd), cnt n ≤ m → pcN (nrm n) = pcN n
  | 0, n, h => by have := cnt_pos n; omega
  | m + 1, n, h => by
    rw [cnt_eq] at h
    rw [pcN_eq (nrm n), pcN_eq n, nrm_hd, nrm_ks, List.map_map]
    congr 1
    exact List.map_congr_left fun a ha => pcN_nrm m a (by have := cntL_mem ha; omega)
theorem rN_nrm : ∀ (m : Nat) (n : Nd), cnt n ≤ m → rN (nrm n) = rN n
  | 0, n, h => by have := cnt_pos n; omega
  | m + 1, n, h => by
    rw [cnt_eq] at h
    have : rL (n.ks.map nrm) = rL n.ks := by
      have hk : ∀ a ∈ n.ks, rN (nrm a) = rN a := fun a ha => rN_nrm m a (by have := cntL_mem ha; omega)
      generalize n.ks = l at hk
      induction l with
      | nil => rfl
      | cons x l ih => rw [List.map_cons, rL, rL, hk x (by simp), ih fun a ha => hk a (List.mem_cons_of_mem _ ha)]
    rw [rN_eq (nrm n), rN_eq n, nrm_hd, nrm_ks, List.length_map, this]
theorem smN_nrm : ∀ (m : Nat) (n : Nd), cnt n ≤ m → smN n → smN (nrm n)
  | 0, n, h, _ => by have := cnt_pos n; omega
  | m + 1, n, h, hs => by
    rw [cnt_eq] at h
    rw [smN_eq] at hs ⊢
    rw [nrm_hd, nrm_ks]
    refine ⟨hs.1, smL_of fun a ha => ?_⟩
    obtain ⟨b, hb, rfl⟩ := List.mem_map.1 ha
    exact smN_nrm m b (by have := cntL_mem hb; omega) (smL_mem hs.2 hb)
/- How long it is. -/
theorem dbl_len (l : List UInt8) : (dbl l).length ≤ 2 * l.length := by
  induction l with
  | nil => exact Nat.le_refl _
  | cons b l ih => simp only [dbl]; split <;> simp only [List.length_cons] <;> omega
theorem sep_len : ∀ (ks : List Nd) (c : Nat), (∀ k ∈ ks, (wrs (pcN k)).length ≤ c * cnt k) → (wrs (sepT (ks.map pcN))).length ≤ c * cntL ks + ks.length
  | [], c, _ => by simp [sepT, wrs]
  | [a], c, h => by
    have := h a (by simp)
    simp only [List.map_cons, List.map_nil, sepT, cntL, List.length_cons, List.length_nil, Nat.add_zero]
    omega
  | a :: b :: l, c, h => by
    have h1 := h a (by simp)
    have h2 := sep_len (b :: l) c fun k hk => h k (List.mem_cons_of_mem _ hk)
    have e : wrs (sepT ((a :: b :: l).map pcN)) = wrs (pcN a) ++ 44 :: wrs (sepT ((b :: l).map pcN)) := by
      simp only [List.map_cons, sepT, wrs_append, wrs]; rfl
    rw [e, cntL, Nat.mul_add]
    simp only [List.length_append, List.length_cons] at *
    omega
theorem pl_len {s : ByteArray} {c r : Int} (h : rightC s c r = true) : (plT c r).length ≤ 5 := by
  obtain ⟨c, rfl⟩ := Int.eq_ofNat_of_zero_le (show 0 ≤ c from by have := rightC_iff.1 h; omega)
  obtain ⟨r, rfl⟩ := Int.eq_ofNat_of_zero_le (show 0 ≤ r from by have := rightC_iff.1 h; omega)
  obtain ⟨hn, h1, h2, h3, h4⟩ := rightC_iff.1 h
  have h5 := (col_facts (c := c) (by omega)).2.1
  have h6 := (dec_facts (r := r) (by omega)).2.1
  simp only [plT, List.length_append, Int.ofNat_eq_natCast, Int.toNat_natCast] at *
  omega
theorem cel_len {s : ByteArray} {c r : Int} (h : rightC s c r = true) : (wrs (celT s c r)).length ≤ 14 := by
  have h1 := pl_len h
  have h2 := name_len (rightC_iff.1 h).1
  have e : wrs (celT s c r) = s.data.toList ++ ([33] ++ (plT c r ++ [])) := rfl
  have h3 : s.data.toList.length = s.size := rfl
  rw [e]
  simp only [List.length_append, List.length_cons, List.length_nil]
  omega
theorem pr_len : ∀ (m : Nat) (n : Nd), cnt n ≤ m → rN n = true → smN n → (wrs (pcN n)).length ≤ 402 * cnt n
  | 0, n, h, _, _ => by have := cnt_pos n; omega
  | m + 1, n, hm, hr, hs => by
    rw [rN_eq] at hr
    simp only [Bool.and_eq_true] at hr
    obtain ⟨hb, hL, ho⟩ := hr
    rw [smN_eq] at hs
    rw [cnt_eq] at hm ⊢
    have hk : ∀ k ∈ n.ks, (wrs (pcN k)).length ≤ 402 * cnt k := fun k hk => pr_len m k (by have := cntL_mem hk; omega) (rL_mem hL hk) (smL_mem hs.2 hk)
    have hv := hs.1
    rw [pcN_eq]
    generalize n.ks = ks at hk hb ho
    generalize n.hd = hd at hb ho hv
    rcases hd_cases hb ho with ⟨v, rfl, h0, hn⟩ | ⟨s, rfl, h0, hn⟩ | ⟨v, rfl, h0, hn⟩ | ⟨s, c, r, rfl, h0, hn⟩ | ⟨s, c, r, s', c', r', rfl, h0, hn⟩ | ⟨rfl, hn⟩ | ⟨o, rfl, h0, hn⟩ | ⟨nm, rfl, h0, hn⟩ | ⟨rfl, hn⟩
    · have := dd_len20 v.toNat (by simp only at hv; omega)
      show (Lib.decDigits v.toNat ++ []).length ≤ _
      rw [List.append_nil]; omega
    · have := dbl_len s.data.toList
      have h3 : s.data.toList.length = s.size := rfl
      show ((34 :: (dbl s.data.toList ++ [34])) ++ []).length ≤ _
      simp only [List.length_append, List.length_cons, List.length_nil]; omega
    · rcases h0 with rfl | rfl
      · show 5 ≤ _; omega
      · show 4 ≤ _; omega
    · have := cel_len h0
      show (wrs (celT s c r)).length ≤ _
      omega
    · obtain ⟨rfl, h1, h2⟩ := okA_sheet h0
      have e1 := cel_len h1
      have e2 := pl_len h2
      show (wrs (celT s c r ++ [(5, [58]), (3, plT c' r')])).length ≤ _
      have e3 : wrs [(5, [58]), (3, plT c' r')] = [58] ++ (plT c' r' ++ []) := rfl
      rw [wrs_append, e3]
      simp only [List.length_append, List.length_cons, List.length_nil]
      omega
    · obtain ⟨a, rfl⟩ := List.length_eq_one_iff.1 hn
      have := hk a (by simp)
      show ([45] ++ wrs (pcN a)).length ≤ _
      simp only [List.length_append, List.length_cons, List.length_nil, cntL]
      omega
    · obtain ⟨a, b, rfl⟩ : ∃ a b, ks = [a, b] := by
        match ks, hn with
        | [a, b], _ => exact ⟨a, b, rfl⟩
      have e1 := hk a (by simp)
      have e2 := hk b (by simp)
      have ho2 : o.data.toList.length ≤ 2 := by
        simp only [opB, Bool.or_eq_true, decide_eq_true_eq] at h0
        rcases h0 with rfl | rfl | rfl | rfl | rfl | rfl | rfl | rfl | rfl | rfl | rfl <;> decide
      show ([40] ++ wrs (pcN a ++ (5, o.data.toList) :: (pcN b ++ [(5, [41])]))).length ≤ _
      have e3 : wrs (pcN a ++ (5, o.data.toList) :: (pcN b ++ [(5, [41])])) = wrs (pcN a) ++ (o.data.toList ++ (wrs (pcN b) ++ [41])) := by
        simp only [wrs_append, wrs]; rfl
      rw [e3]
      simp only [List.length_append, List.length_cons, List.length_nil, cntL]
      omega
    · have h8 : nm.data.toList.length ≤ 8 := by
        simp only [callB, Bool.and_eq_true, decide_eq_true_eq] at h0
        exact h0.1.1.1.2
      have := sep_len ks 402 hk
      show (nm.data.toList ++ ([40] ++ wrs (sepT (ks.map pcN) ++ [(5, [41])]))).length ≤ _
      rw [wrs_append]
      have e : wrs [(5, [41])] = [41] := rfl
      rw [e]
      simp only [List.length_append, List.length_cons, List.length_nil]
      omega
    · show 4 ≤ _; omega

/-- What is written of a node. -/
def prP (n : Nd) : List UInt8 := wrs (pcN n)
/-- Parse of what is written. -/
theorem parse_written {n : Nd} {sheet : ByteArray} (hr : rN n = true) (hs : smN n) (h4 : cnt n ≤ 400) (hd : dN n ≤ 20) (hn : nameB sheet = true) :
    FProj [.x (.string (B (prP n))), .x (.string sheet)] = some (ansP (if 200 < (prP n).length then (zNd, 0, 5) else (nrm n, -1, 0))) := by
  by_cases h : 200 < (prP n).length
  · rw [if_pos h]
    refine parse_at (n := 0) ?_
    unfold parseN
    rw [if_pos (by rw [B_size]; exact h)]
  · rw [if_neg h]
    have hw := wd_node _ n (Nat.le_refl _) hr
    have hsp : splitP (B (prP n)).data.toList = (plc 0 (pcN n), none) := split_written hw.ok
    obtain ⟨m, hm⟩ := rd_whole (good_node sheet ((B (prP n)).size : Int) _ n (Nat.le_refl _) hr hs 0 [] (by decide)) (by decide)
    rw [List.append_nil] at hm
    refine parse_at (n := m) ?_
    unfold parseN
    rw [if_neg (by rw [B_size]; exact h), hsp]
    simp only
    rw [if_neg (by rw [hn]; decide)]
    unfold wholeP
    rw [hm]
    simp only
    rw [if_neg (by simp)]
    simp only
    rw [if_neg (by simp), if_neg (by rw [cnt_nrm]; omega), if_neg (by rw [dN_nrm]; omega)]
end Go.Proofs.YteibnmlfipkmeaaGreatDoor

/- Formulas written: what loops over kids and bytes come to. Nothing of the program. -/
namespace Go.Proofs.YteibnmlfipkmeaaGreatDoor
open Go Go.RowKit
set_option linter.unusedSimpArgs false

theorem dbl_app (a b : List UInt8) : dbl (a ++ b) = dbl a ++ dbl b := by
  induction a with
  | nil => rfl
  | cons x a ih => simp only [List.cons_append, dbl, ih]; split <;> rfl
theorem dbl_quote (l : List UInt8) : dbl (l ++ [34]) = dbl l ++ [34] ++ [34] := by rw [dbl_app, List.append_assoc]; rfl
theorem dbl_other {l : List UInt8} {b : UInt8} (h : b ≠ 34) : dbl (l ++ [b]) = dbl l ++ [b] := by rw [dbl_app]; simp only [dbl, if_neg h]
/-- Each quote twice, as the library does it. -/
theorem replace_dbl (l : List UInt8) : Lib.replaceK [34] [34, 34] (Lib.count l [34]) l = dbl l := by
  have hne : ([34] : List UInt8) ≠ [] := by simp
  induction l with
  | nil => rfl
  | cons b w ih =>
    by_cases hb : b = 34
    · subst hb
      have hi : Lib.index (34 :: w) [34] = ((0 : Nat) : Int) := by simp [Lib.index]
      have hcnt := Lib.count_hit hne hi
      simp only [List.length_cons, List.length_nil, List.drop_succ_cons, List.drop_zero, Nat.zero_add] at hcnt
      rw [hcnt, Nat.add_comm, Lib.replaceK_hit _ _ _ _ 0 hi]
      simp only [List.length_cons, List.length_nil, List.drop_succ_cons, List.drop_zero, List.take_zero, Nat.zero_add, ih]
      simp only [dbl, if_pos]
      rfl
    · rw [dbl, if_neg hb]
      have hp : ([34] : List UInt8).isPrefixOf (b :: w) = false := by simp [List.isPrefixOf, Ne.symm hb]
      by_cases hm : Lib.index w [34] = -1
      · have hm' : Lib.index (b :: w) [34] = -1 := by simp [Lib.index, hp, hm]
        rw [Lib.count_miss hm']
        rw [Lib.count_miss hm] at ih
        simp only [Lib.replaceK] at ih ⊢
        rw [← ih]
      · obtain ⟨i, hi⟩ : ∃ i : Nat, Lib.index w [34] = i := ⟨(Lib.index w [34]).toNat, by have := Lib.index_ge w [34]; omega⟩
        have hi' : Lib.index (b :: w) [34] = ((i + 1 : Nat) : Int) := by
          simp only [Lib.index, hp, Bool.false_eq_true, if_false, hi]
          rw [if_neg (by simp)]
          omega
        have hc1 := Lib.count_hit hne hi
        have hc2 := Lib.count_hit hne hi'
        rw [show i + 1 + ([34] : List UInt8).length = (i + ([34] : List UInt8).length) + 1 from by simp, List.drop_succ_cons] at hc2
        rw [hc2, Nat.add_comm, Lib.replaceK_hit _ _ _ _ (i + 1) hi']
        rw [hc1, Nat.add_comm, Lib.replaceK_hit _ _ _ _ i hi] at ih
        rw [show i + 1 + ([34] : List UInt8).length = (i + ([34] : List UInt8).length) + 1 from by simp, List.drop_succ_cons, List.take_succ_cons]
        simp only [List.cons_append]
        rw [ih]
theorem replaceAll_dbl (l : List UInt8) : Lib.replaceAll l [34] [34, 34] = dbl l := by
  unfold Lib.replaceAll Lib.replace Lib.replaceNum
  rw [if_neg (by simp), if_pos (.inl (by omega))]
  exact replace_dbl l

/-- Texts with commas between. -/
def comL : List (List UInt8) → List UInt8
  | [] => []
  | [a] => a
  | a :: b :: l => a ++ 44 :: comL (b :: l)
theorem com_sep : ∀ l : List (List Pc), wrs (sepT l) = comL (l.map wrs)
  | [] => rfl
  | [a] => rfl
  | a :: b :: l => by
    have := com_sep (b :: l)
    rw [List.map_cons] at this
    simp only [sepT, List.map_cons, comL, wrs_append, wrs]
    rw [← this]; rfl
theorem com_snoc : ∀ {l : List (List UInt8)} (a : List UInt8), l ≠ [] → comL (l ++ [a]) = comL l ++ [44] ++ a
  | [], _, h => absurd rfl h
  | [x], a, _ => by simp [comL]
  | x :: y :: l, a, _ => by
    have := com_snoc (l := y :: l) a (by simp)
    simp only [List.cons_append] at this ⊢
    simp only [comL, this, List.append_assoc, List.cons_append]
/-- What is written of a node, byte by byte, out of what is written of its kids. -/
def prH (h : Hd) (ks : List (List UInt8)) : List UInt8 :=
  if h.k = 1 then (if h.vk = 2 then 34 :: (dbl h.vs.data.toList ++ [34]) else if h.vk = 1 then Lib.decDigits h.vn.toNat else if h.vn = 1 then [84, 82, 85, 69] else [70, 65, 76, 83, 69])
  else if h.k = 2 then h.cs.data.toList ++ 33 :: plT h.cc h.cr else if h.k = 3 then h.cs.data.toList ++ 33 :: (plT h.cc h.cr ++ 58 :: plT h.tc h.tr)
  else if h.k = 4 then 45 :: ks.headD []
  else if h.k = 5 then 40 :: (ks.headD [] ++ (h.op.data.toList ++ (ks.tail.headD [] ++ [41])))
  else if h.k = 6 then h.nm.data.toList ++ 40 :: (comL ks ++ [41])
  else [82, 69, 70, 33]
theorem prP_eq (n : Nd) : prP n = prH n.hd (n.ks.map prP) := by
  have hm : n.ks.map prP = (n.ks.map pcN).map wrs := by rw [List.map_map]; rfl
  rw [hm]
  unfold prP
  rw [pcN_eq]
  generalize n.hd = h
  generalize n.ks.map pcN = ks
  have hh : (ks.map wrs).headD [] = wrs (ks.headD []) := by cases ks <;> rfl
  have ht : (ks.map wrs).tail.headD [] = wrs (ks.tail.headD []) := by
    match ks with
    | [] => rfl
    | [a] => rfl
    | a :: b :: l => rfl
  unfold pcH prH
  split
  · split
    · simp [wrs, wr]
    · split
      · simp [wrs, wr]
      · split <;> rfl
  · split
    · simp [celT, wrs, wr]
    · split
      · simp [celT, wrs, wr]
      · split
        · rw [hh]; rfl
        · split
          · rw [hh, ht]; simp [wrs, wr, wrs_append]
          · split
            · rw [← com_sep]; simp [wrs, wr, wrs_append]
            · rfl
/-- A cell, as addr.Show writes it. -/
theorem show_cell {s : ByteArray} {c r : Int} (h : rightC s c r = true) : showC s c r = B (s.data.toList ++ 33 :: plT c r) := by
  unfold showC
  rw [if_pos h]
  obtain ⟨a, rfl⟩ := B_of s
  rw [showP_B]; rfl
end Go.Proofs.YteibnmlfipkmeaaGreatDoor
