/- Formulas taken apart: the reference, as functions of plain data. -/
import Derived.Test.YtkomcgljekfheaaDoorTkC
namespace Go.Proofs.YtkomcgljekfheaaDoor
open Go Go.RowKit
set_option linter.unusedSimpArgs false

theorem sub_one {l : List UInt8} {i : Nat} {b : UInt8} (h : l[i]? = some b) : subV (B l) (i : Int) ((i + 1 : Nat) : Int) = B [b] := by
  rw [subV_B, List.drop_take, Nat.add_sub_cancel_left, drop_cons h]; rfl
def quoteV (l : List UInt8) (i : Nat) : V := match quoteL (l.drop (i + 1)) with
  | some r => .tup [.x (.string (B r.1)), .x (.int .i64 ((i + 1 + r.2 : Nat) : Int)), .x (.bool true)]
  | none => .tup [.x (.string ⟨#[]⟩), .x (.int .i64 0), .x (.bool false)]
theorem quoteV_yes {l : List UInt8} {i : Nat} {r : List UInt8 × Nat} (h : quoteL (l.drop (i + 1)) = some r) : quoteV l i = .tup [.x (.string (B r.1)), .x (.int .i64 ((i + 1 + r.2 : Nat) : Int)), .x (.bool true)] := by unfold quoteV; rw [h]
theorem quoteV_no {l : List UInt8} {i : Nat} (h : quoteL (l.drop (i + 1)) = none) : quoteV l i = .tup [.x (.string ⟨#[]⟩), .x (.int .i64 0), .x (.bool false)] := by unfold quoteV; rw [h]
def FQuoted : List V → Option V
  | [.x (.string s), .x (.int .i64 i)] => if 0 ≤ i ∧ i < s.size ∧ s.size ≤ 1000 then some (quoteV s.data.toList i.toNat) else none
  | _ => none
theorem FQuoted_eq {l : List UInt8} {i : Nat} (h : i < l.length) (hl : l.length ≤ 1000) : FQuoted [.x (.string (B l)), .x (.int .i64 (i : Int))] = some (quoteV l i) := by
  exact if_pos (show 0 ≤ (i : Int) ∧ (i : Int) < (B l).size ∧ (B l).size ≤ 1000 from ⟨by omega, by rw [B_size]; omega, hl⟩)
set_option maxHeartbeats 1000000 in
set_option maxRecDepth 100000 in
theorem rquoted_fun : FunV 15 FQuoted := by
  refine fun_of_run (E := envOf []) (k := 2) (envOK_of _ trivial) (by kernel_rfl) Tryd.func15 rfl (fun a w => Tryd.call15 a w) Tryd.ntmps15 (by kernel_rfl) (by decide) ?_
  intro us r hF hdat
  unfold FQuoted at hF
  split at hF
  case h_2 => cases hF
  rename_i s i
  split at hF
  case isFalse => cases hF
  rename_i hs
  cases hF
  refine ⟨rfl, ?_⟩
  obtain ⟨l, rfl⟩ := B_of s
  obtain ⟨i, rfl⟩ := Int.eq_ofNat_of_zero_le hs.1
  rw [B_size] at hs
  rw [B_bytes, Int.toNat_natCast]
  obtain ⟨_, hi, hl⟩ := hs
  have c1 := count_up (i := i) (by omega)
  simp (decide := true) (maxDischargeDepth := 200) only [go_sem, c1, Tryd.results15]
  refine loop_of (X := {p : Nat × List UInt8 // i + 1 ≤ p.1 ∧ p.1 ≤ l.length ∧ p.2.length ≤ p.1 ∧ quoteL (l.drop (i + 1)) = (quoteL (l.drop p.1)).map fun r => (p.2 ++ r.1, r.2 + (p.1 - (i + 1)))}) (fun p => [(0, .x (.string (B l))), (7, .x (.string (B p.1.2))), (8, .x (.int .i64 ((p.1.1 : Nat) : Int)))]) (fun _ => []) (fun p => l.length - p.1.1) ⟨(i + 1, []), by simp only; omega, by simp only; omega, by simp, by simp⟩ (by simp (decide := true) only [go_sem] <;> (repeat' first | rfl | constructor)) trivial (fun ⟨⟨k, t⟩, h1, h2, h3, hz⟩ => ?_)
  simp only at h1 h2 h3 hz
  by_cases h : k < l.length
  · obtain ⟨b, hb⟩ := get_of h
    have d0 : decide ((k : Int) < ((B l).size : Int)) = true := decide_eq_true (by rw [B_size]; omega)
    have c2 : (0 : Int) ≤ (k : Int) := by omega
    have c3 : (k : Int) < ((B l).size : Int) := by rw [B_size]; omega
    have c4 := count_up (i := k) (by omega)
    have c5 := byteV_B hb
    by_cases hq : b = 34
    · subst hq
      have d1 : decide ((((34 : UInt8).toNat : Nat) : Int) = 34) = true := rfl
      by_cases hl1 : k + 1 = l.length
      · have d2 : decide (((k + 1 : Nat) : Int) < ((B l).size : Int)) = false := decide_eq_false (by rw [B_size]; omega)
        have e : quoteL (l.drop k) = some ([], 1) := by rw [drop_cons hb]; exact quote_end (by rw [drop_get]; simp [List.getElem?_eq_none (show l.length ≤ k + 1 + 0 by omega)])
        have e2 := quoteV_yes (l := l) (i := i) (r := (t, k - i)) (by rw [hz, e]; simp; omega)
        have e3 : ((i + 1 + (k - i) : Nat) : Int) = ((k + 1 : Nat) : Int) := by omega
        simp (decide := true) (maxDischargeDepth := 200) only [go_sem, d0, d1, d2, c2, c3, c4, c5, e2, e3, Tryd.results15]
      · obtain ⟨c, hc⟩ := get_of (show k + 1 < l.length by omega)
        have d2 : decide (((k + 1 : Nat) : Int) < ((B l).size : Int)) = true := decide_eq_true (by rw [B_size]; omega)
        have c2' : (0 : Int) ≤ ((k + 1 : Nat) : Int) := by omega
        have c3' : ((k + 1 : Nat) : Int) < ((B l).size : Int) := by rw [B_size]; omega
        have c4' := count_up (i := k + 1) (by omega)
        have c5' := byteV_B hc
        by_cases hq' : c = 34
        · subst hq'
          have e : quoteL (l.drop k) = (quoteL (l.drop (k + 2))).map fun r => (34 :: r.1, r.2 + 2) := by rw [drop_cons hb, drop_cons hc]; exact quote_two _
          have c6 : catV (B t) ⟨#[34]⟩ = some (.str (B (t ++ [34]))) := cat_B (by simp; omega)
          simp (decide := true) (maxDischargeDepth := 200) only [go_sem, d0, d1, d2, c2, c3, c4, c5, c2', c3', c4', c5', c6, Tryd.results15]
          refine ⟨⟨(k + 2, t ++ [34]), by simp only; omega, by simp only; omega, by simp; omega, by rw [hz, e, Option.map_map]; congr 1; funext r; simp only [Function.comp, Prod.mk.injEq, List.append_assoc, List.singleton_append, true_and]; omega⟩, ?_, trivial, by simp only; omega⟩
          simp (decide := true) only [go_sem]
        · have d3 : decide (((c.toNat : Nat) : Int) = 34) = false := by rw [byte_eq (c := 34) (n := 34) rfl]; exact decide_eq_false hq'
          have e : quoteL (l.drop k) = some ([], 1) := by rw [drop_cons hb]; exact quote_end (by rw [drop_get]; simp [hc, hq'])
          have e2 := quoteV_yes (l := l) (i := i) (r := (t, k - i)) (by rw [hz, e]; simp; omega)
          have e3 : ((i + 1 + (k - i) : Nat) : Int) = ((k + 1 : Nat) : Int) := by omega
          simp (decide := true) (maxDischargeDepth := 200) only [go_sem, d0, d1, d2, d3, c2, c3, c4, c5, c2', c3', c5', e2, e3, Tryd.results15]
    · have d1 : decide (((b.toNat : Nat) : Int) = 34) = false := by rw [byte_eq (c := 34) (n := 34) rfl]; exact decide_eq_false hq
      have e : quoteL (l.drop k) = (quoteL (l.drop (k + 1))).map fun r => (b :: r.1, r.2 + 1) := by rw [drop_cons hb]; exact quote_other hq
      have c6 : catV (B t) (B [b]) = some (.str (B (t ++ [b]))) := cat_B (by simp; omega)
      have c7 := sub_one hb
      have c8 : (k : Int) ≤ ((k + 1 : Nat) : Int) := by omega
      have c9 : ((k + 1 : Nat) : Int) ≤ ((B l).size : Int) := by rw [B_size]; omega
      simp (decide := true) (maxDischargeDepth := 200) only [go_sem, d0, d1, c2, c3, c4, c5, c6, c7, c8, c9, Tryd.results15]
      refine ⟨⟨(k + 1, t ++ [b]), by simp only; omega, by simp only; omega, by simp; omega, by rw [hz, e, Option.map_map]; congr 1; funext r; simp only [Function.comp, Prod.mk.injEq, List.append_assoc, List.singleton_append, true_and]; omega⟩, ?_, trivial, by simp only; omega⟩
      simp (decide := true) only [go_sem]
  · have d0 : decide ((k : Int) < ((B l).size : Int)) = false := decide_eq_false (by rw [B_size]; omega)
    have e2 := quoteV_no (l := l) (i := i) (by rw [hz, List.drop_eq_nil_of_le (by omega)]; rfl)
    simp (decide := true) (maxDischargeDepth := 200) only [go_sem, d0, e2, Tryd.results15]


def signL : List UInt8 := [43, 45, 42, 47, 38, 61, 60, 62, 40, 41, 44, 58, 33]
theorem signB_at {b : UInt8} {j : Nat} (h : signL[j]? = some b) : signB b = true := List.contains_iff_mem.2 (List.mem_of_getElem? h)
theorem signB_none {b : UInt8} (h : ∀ (j : Nat) (c : UInt8), signL[j]? = some c → c ≠ b) : signB b = false := by
  cases hs : signB b
  · rfl
  · obtain ⟨j, hj⟩ := List.getElem?_of_mem (List.contains_iff_mem.1 hs)
    exact absurd rfl (h j b hj)
def FRSign : List V → Option V
  | [.x (.string s), .x (.int .i64 i)] => if 0 ≤ i ∧ i < s.size ∧ s.size ≤ 1000 then some (.x (.int .i64 ((signP (s.data.toList.drop i.toNat) : Nat) : Int))) else none
  | _ => none
theorem FRSign_eq {l : List UInt8} {i : Nat} (h : i < l.length) (hl : l.length ≤ 1000) : FRSign [.x (.string (B l)), .x (.int .i64 (i : Int))] = some (.x (.int .i64 ((signP (l.drop i) : Nat) : Int))) := by
  exact if_pos (show 0 ≤ (i : Int) ∧ (i : Int) < (B l).size ∧ (B l).size ≤ 1000 from ⟨by omega, by rw [B_size]; omega, hl⟩)
theorem signP_drop {l : List UInt8} {i : Nat} {b : UInt8} (h : l[i]? = some b) : signP (l.drop i) = if twoB ((l.drop i).take 2) = true then 2 else if signB b = true then 1 else 0 := by
  rw [drop_cons h, signP]
set_option maxHeartbeats 2000000 in
set_option maxRecDepth 100000 in
theorem rsign_fun : FunV 16 FRSign := by
  refine fun_of_run (E := envOf []) (k := 2) (envOK_of _ trivial) (by kernel_rfl) Tryd.func16 rfl (fun a w => Tryd.call16 a w) Tryd.ntmps16 (by kernel_rfl) (by decide) ?_
  intro us r hF hdat
  unfold FRSign at hF
  split at hF
  case h_2 => cases hF
  rename_i s i
  split at hF
  case isFalse => cases hF
  rename_i hs
  cases hF
  refine ⟨rfl, ?_⟩
  obtain ⟨l, rfl⟩ := B_of s
  obtain ⟨i, rfl⟩ := Int.eq_ofNat_of_zero_le hs.1
  rw [B_size] at hs
  rw [B_bytes, Int.toNat_natCast]
  obtain ⟨_, hi, hl⟩ := hs
  obtain ⟨b, hb⟩ := get_of (show i < l.length by omega)
  have c1 := count_up (i := i) (by omega)
  have c2 : (0 : Int) ≤ (i : Int) := by omega
  have c3 : (i : Int) < ((B l).size : Int) := by rw [B_size]; omega
  have c5 := byteV_B hb
  have a0 : (⟨#[]⟩ : ByteArray) = B [] := rfl
  have a2 : (⟨#[60, 62]⟩ : ByteArray) = B [60, 62] := rfl
  have a3 : (⟨#[60, 61]⟩ : ByteArray) = B [60, 61] := rfl
  have a4 : (⟨#[62, 61]⟩ : ByteArray) = B [62, 61] := rfl
  have a5 : (⟨#[43, 45, 42, 47, 38, 61, 60, 62, 40, 41, 44, 58, 33]⟩ : ByteArray) = B signL := rfl
  have hsp := signP_drop hb
  obtain ⟨w, hw⟩ : ∃ w, (l.drop i).take 2 = w := ⟨_, rfl⟩
  rw [hw] at hsp
  by_cases h1 : i + 1 < l.length
  · have d9 : decide (((i + 1 : Nat) : Int) < ((B l).size : Int)) = true := decide_eq_true (by rw [B_size]; omega)
    have c6 : bWrap .i64 ((i : Int) + 2) = ((i + 2 : Nat) : Int) := by rw [bwrap_of (by unfold inR; omega)]; omega
    have c7 : (i : Int) ≤ ((i + 2 : Nat) : Int) := by omega
    have c8 : ((i + 2 : Nat) : Int) ≤ ((B l).size : Int) := by rw [B_size]; omega
    have c9 : subV (B l) (i : Int) ((i + 2 : Nat) : Int) = B w := by rw [subV_B, List.drop_take, Nat.add_sub_cancel_left, hw]
    cases ht : twoB w
    · rw [ht] at hsp
      simp only [Bool.false_eq_true, if_false] at hsp
      simp only [twoB, Bool.or_eq_false_iff, decide_eq_false_iff_not] at ht
      obtain ⟨⟨t1, t2⟩, t3⟩ := ht
      have e1 : decide (B w = B [60, 62]) = false := decide_eq_false (fun h => t1 (B_inj.1 h))
      have e2 : decide (B w = B [60, 61]) = false := decide_eq_false (fun h => t2 (B_inj.1 h))
      have e3 : decide (B w = B [62, 61]) = false := decide_eq_false (fun h => t3 (B_inj.1 h))
      simp (decide := true) (maxDischargeDepth := 200) only [go_sem, a2, a3, a4, a5, d9, c1, c2, c6, c7, c8, c9, e1, e2, e3, Tryd.results16]
      refine loop_of (X := {k : Nat // k ≤ 13 ∧ ∀ (j : Nat) (c : UInt8), j < k → signL[j]? = some c → c ≠ b}) (fun k => [(0, .x (.string (B l))), (1, .x (.int .i64 (i : Int))), (6, .x (.string (B signL))), (7, .x (.int .i64 ((k.1 : Nat) : Int)))]) (fun _ => []) (fun k => 13 - k.1) ⟨0, by omega, fun j c hj => by omega⟩ (by simp (decide := true) only [go_sem] <;> (repeat' first | rfl | constructor)) trivial (fun ⟨k, hk, hz⟩ => ?_)
      by_cases h : k < 13
      · obtain ⟨c, hc⟩ := get_of (l := signL) (i := k) h
        have d0 : decide ((k : Int) < ((B signL).size : Int)) = true := decide_eq_true (by rw [B_size]; show (k : Int) < 13; omega)
        have k2 : (0 : Int) ≤ (k : Int) := by omega
        have k3 : (k : Int) < ((B signL).size : Int) := by rw [B_size]; show (k : Int) < 13; omega
        have k4 := count_up (i := k) (by omega)
        have k5 := byteV_B hc
        by_cases hcb : c = b
        · have d1 : decide (((c.toNat : Nat) : Int) = ((b.toNat : Nat) : Int)) = true := decide_eq_true (by rw [hcb])
          have e5 : ((signP (l.drop i) : Nat) : Int) = 1 := by rw [hsp, signB_at (hcb ▸ hc)]; rfl
          simp (decide := true) (maxDischargeDepth := 200) only [go_sem, d0, d1, k2, k3, k4, k5, c2, c3, c5, e5, Tryd.results16]
        · have d1 : decide (((c.toNat : Nat) : Int) = ((b.toNat : Nat) : Int)) = false := decide_eq_false (fun e => hcb (UInt8.toNat_inj.1 (by omega)))
          simp (decide := true) (maxDischargeDepth := 200) only [go_sem, d0, d1, k2, k3, k4, k5, c2, c3, c5, Tryd.results16]
          refine ⟨⟨k + 1, by omega, fun j c' hj hc' => ?_⟩, ?_, trivial, by simp only; omega⟩
          · by_cases hjk : j = k
            · subst hjk; rw [hc] at hc'; cases hc'; exact hcb
            · exact hz j c' (by omega) hc'
          · simp (decide := true) only [go_sem]
      · have d0 : decide ((k : Int) < ((B signL).size : Int)) = false := decide_eq_false (by rw [B_size]; show ¬ (k : Int) < 13; omega)
        have e5 : ((signP (l.drop i) : Nat) : Int) = 0 := by
          rw [hsp, signB_none (fun j c hc => hz j c (by have hj := (List.getElem?_eq_some_iff.1 hc).1; have h13 : signL.length = 13 := rfl; omega) hc)]; rfl
        simp (decide := true) (maxDischargeDepth := 200) only [go_sem, d0, e5, Tryd.results16]
    · have e5 : ((signP (l.drop i) : Nat) : Int) = 2 := by rw [hsp, ht]; rfl
      simp only [twoB, Bool.or_eq_true, decide_eq_true_eq] at ht
      rcases ht with (ht | ht) | ht
      · rw [ht] at c9
        have e1 : decide (B [60, 62] = B [60, 62]) = true := decide_eq_true rfl
        simp (decide := true) (maxDischargeDepth := 200) only [go_sem, a2, a3, a4, d9, c1, c2, c6, c7, c8, c9, e1, e5, Tryd.results16]
      · rw [ht] at c9
        have e1 : decide (B [60, 61] = B [60, 62]) = false := by rw [decide_eq_false_iff_not, B_inj]; decide
        have e2 : decide (B [60, 61] = B [60, 61]) = true := decide_eq_true rfl
        simp (decide := true) (maxDischargeDepth := 200) only [go_sem, a2, a3, a4, d9, c1, c2, c6, c7, c8, c9, e1, e2, e5, Tryd.results16]
      · rw [ht] at c9
        have e1 : decide (B [62, 61] = B [60, 62]) = false := by rw [decide_eq_false_iff_not, B_inj]; decide
        have e2 : decide (B [62, 61] = B [60, 61]) = false := by rw [decide_eq_false_iff_not, B_inj]; decide
        have e3 : decide (B [62, 61] = B [62, 61]) = true := decide_eq_true rfl
        simp (decide := true) (maxDischargeDepth := 200) only [go_sem, a2, a3, a4, d9, c1, c2, c6, c7, c8, c9, e1, e2, e3, e5, Tryd.results16]
  · have d9 : decide (((i + 1 : Nat) : Int) < ((B l).size : Int)) = false := decide_eq_false (by rw [B_size]; omega)
    have ht : twoB w = false := by
      rw [← hw, drop_cons hb, List.drop_eq_nil_of_le (show l.length ≤ i + 1 by omega)]
      simp [twoB]
    rw [ht] at hsp
    simp only [Bool.false_eq_true, if_false] at hsp
    have e1 : decide (B [] = B [60, 62]) = false := by rw [decide_eq_false_iff_not, B_inj]; decide
    have e2 : decide (B [] = B [60, 61]) = false := by rw [decide_eq_false_iff_not, B_inj]; decide
    have e3 : decide (B [] = B [62, 61]) = false := by rw [decide_eq_false_iff_not, B_inj]; decide
    simp (decide := true) (maxDischargeDepth := 200) only [go_sem, a0, a2, a3, a4, a5, d9, c1, c2, e1, e2, e3, Tryd.results16]
    refine loop_of (X := {k : Nat // k ≤ 13 ∧ ∀ (j : Nat) (c : UInt8), j < k → signL[j]? = some c → c ≠ b}) (fun k => [(0, .x (.string (B l))), (1, .x (.int .i64 (i : Int))), (6, .x (.string (B signL))), (7, .x (.int .i64 ((k.1 : Nat) : Int)))]) (fun _ => []) (fun k => 13 - k.1) ⟨0, by omega, fun j c hj => by omega⟩ (by simp (decide := true) only [go_sem] <;> (repeat' first | rfl | constructor)) trivial (fun ⟨k, hk, hz⟩ => ?_)
    by_cases h : k < 13
    · obtain ⟨c, hc⟩ := get_of (l := signL) (i := k) h
      have d0 : decide ((k : Int) < ((B signL).size : Int)) = true := decide_eq_true (by rw [B_size]; show (k : Int) < 13; omega)
      have k2 : (0 : Int) ≤ (k : Int) := by omega
      have k3 : (k : Int) < ((B signL).size : Int) := by rw [B_size]; show (k : Int) < 13; omega
      have k4 := count_up (i := k) (by omega)
      have k5 := byteV_B hc
      by_cases hcb : c = b
      · have d1 : decide (((c.toNat : Nat) : Int) = ((b.toNat : Nat) : Int)) = true := decide_eq_true (by rw [hcb])
        have e5 : ((signP (l.drop i) : Nat) : Int) = 1 := by rw [hsp, signB_at (hcb ▸ hc)]; rfl
        simp (decide := true) (maxDischargeDepth := 200) only [go_sem, d0, d1, k2, k3, k4, k5, c2, c3, c5, e5, Tryd.results16]
      · have d1 : decide (((c.toNat : Nat) : Int) = ((b.toNat : Nat) : Int)) = false := decide_eq_false (fun e => hcb (UInt8.toNat_inj.1 (by omega)))
        simp (decide := true) (maxDischargeDepth := 200) only [go_sem, d0, d1, k2, k3, k4, k5, c2, c3, c5, Tryd.results16]
        refine ⟨⟨k + 1, by omega, fun j c' hj hc' => ?_⟩, ?_, trivial, by simp only; omega⟩
        · by_cases hjk : j = k
          · subst hjk; rw [hc] at hc'; cases hc'; exact hcb
          · exact hz j c' (by omega) hc'
        · simp (decide := true) only [go_sem]
    · have d0 : decide ((k : Int) < ((B signL).size : Int)) = false := decide_eq_false (by rw [B_size]; show ¬ (k : Int) < 13; omega)
      have e5 : ((signP (l.drop i) : Nat) : Int) = 0 := by
        rw [hsp, signB_none (fun j c hc => hz j c (by have hj := (List.getElem?_eq_some_iff.1 hc).1; have h13 : signL.length = 13 := rfl; omega) hc)]; rfl
      simp (decide := true) (maxDischargeDepth := 200) only [go_sem, d0, e5, Tryd.results16]


end Go.Proofs.YtkomcgljekfheaaDoor
