/- Layer 2's laws of numbers, as functions of plain data: ArithOver, ArithDivides. -/
import Derived.Test.YtkkcjhbkdlenpaaDoorPfQ
namespace Go.Proofs.YtkkcjhbkdlenpaaDoor
open Go Go.RowKit
set_option linter.unusedSimpArgs false

theorem empty_list : (⟨#[]⟩ : ByteArray).toList.isEmpty = true := by rw [Lib.toList_data]; rfl
theorem ofInt_wrap (z : BitVec 64) : BitVec.ofInt 64 (wrap64 (z.toNat : Int)) = z := by
  apply BitVec.eq_of_toNat_eq
  rw [BitVec.toNat_ofInt]
  have := z.isLt
  unfold wrap64
  omega
theorem odd_and (a b : Int) : wrap64 ((BitVec.ofInt 64 (wrap64 ((BitVec.ofInt 64 a &&& BitVec.ofInt 64 b).toNat : Int)) &&& BitVec.ofInt 64 1).toNat : Int) = (a % 2) * (b % 2) := by
  rw [ofInt_wrap]
  have h1 : (BitVec.ofInt 64 1) = 1#64 := rfl
  rw [h1, BitVec.toNat_and, BitVec.toNat_and, show (1#64).toNat = 1 from rfl, Nat.and_one_is_mod]
  have h2 := Nat.and_mod_two_pow (a := (BitVec.ofInt 64 a).toNat) (b := (BitVec.ofInt 64 b).toNat) (n := 1)
  simp only [Nat.pow_one] at h2
  rw [h2, BitVec.toNat_ofInt, BitVec.toNat_ofInt]
  have ea : (a % ((2 ^ 64 : Nat) : Int)).toNat % 2 = (a % 2).toNat := by omega
  have eb : (b % ((2 ^ 64 : Nat) : Int)).toNat % 2 = (b % 2).toNat := by omega
  rw [ea, eb]
  rcases Int.emod_two_eq a with h | h <;> rcases Int.emod_two_eq b with k | k <;> rw [h, k] <;> simp [wrap64]
theorem wrap64_k (x : Int) : wrap64 x = IntKind.i64.wrap x := (IntWalk.i64_left x).symm
theorem half_eq {a b : Int} (ha : inR a) (hb : inR b) : bWrap .i64 (bWrap .i64 (bShr .i64 a 1 + bShr .i64 b 1) + bAnd .i64 (bAnd .i64 a b) 1) = (a + b) / 2 := by
  have h0 : bAnd .i64 (bAnd .i64 a b) 1 = (a % 2) * (b % 2) := by
    rw [← odd_and, bAnd_eq, bAnd_eq, ← wrap64_k, ← wrap64_k]
    rfl
  have e1 : bShr .i64 a 1 = a / 2 := by
    rw [bShr_eq, show (2 : Int) ^ min (Int.toNat 1) IntKind.i64.bits = 2 by decide, Int.fdiv_eq_ediv_of_nonneg _ (by decide)]
  have e2 : bShr .i64 b 1 = b / 2 := by
    rw [bShr_eq, show (2 : Int) ^ min (Int.toNat 1) IntKind.i64.bits = 2 by decide, Int.fdiv_eq_ediv_of_nonneg _ (by decide)]
  rw [h0, e1, e2, wrapk, wrapk]
  unfold inR at *
  have h1 : wrap64 (a / 2 + b / 2) = a / 2 + b / 2 := wrap64_of (by unfold inR; omega)
  have hs := half_sum a b
  rw [h1, hs]
  exact wrap64_of (by unfold inR; omega)
theorem right1 (n : Int) : rightB 1 n ⟨#[]⟩ = true := by
  simp only [rightB, empty_list]
  simp
theorem pair_num (op : ByteArray) (a b : Int) (h : op = ⟨#[43]⟩ ∨ op = ⟨#[45]⟩ ∨ op = ⟨#[42]⟩ ∨ op = ⟨#[47]⟩) : pairW op 1 a ⟨#[]⟩ 1 b ⟨#[]⟩ = reckonW op a b := by
  simp only [pairW, right1, h, Bool.true_eq_false, or_self, if_false, if_true, show ¬ (1 : Int) = 4 by decide, show ¬ (1 : Int) = 2 by decide, show ¬ (1 : Int) = 3 by decide]
theorem pair_err (op : ByteArray) (n b : Int) (h : 1 ≤ n ∧ n ≤ 7) : pairW op 4 n ⟨#[]⟩ 1 b ⟨#[]⟩ = (4, n, ⟨#[]⟩) := by
  have hr : rightB 4 n ⟨#[]⟩ = true := by
    simp only [rightB, empty_list]
    simp [h]
  simp only [pairW, right1, hr, Bool.true_eq_false, or_self, if_false, if_true]
theorem fit_yes {x : Int} (h : inR x) : fitV x = (1, x, ⟨#[]⟩) := if_pos h
theorem fit_no {x : Int} (h : ¬ inR x) : fitV x = (4, 1, ⟨#[]⟩) := if_neg h
theorem p_add (a b : Int) : pairW ⟨#[43]⟩ 1 a ⟨#[]⟩ 1 b ⟨#[]⟩ = fitV (a + b) := pair_num _ a b (.inl rfl)
theorem p_sub (a b : Int) : pairW ⟨#[45]⟩ 1 a ⟨#[]⟩ 1 b ⟨#[]⟩ = fitV (a - b) := pair_num _ a b (.inr (.inl rfl))
theorem p_mul (a b : Int) : pairW ⟨#[42]⟩ 1 a ⟨#[]⟩ 1 b ⟨#[]⟩ = fitV (a * b) := pair_num _ a b (.inr (.inr (.inl rfl)))
theorem p_quo (a b : Int) : pairW ⟨#[47]⟩ 1 a ⟨#[]⟩ 1 b ⟨#[]⟩ = if b = 0 then (4, 2, ⟨#[]⟩) else fitV (a.tdiv b) := pair_num _ a b (.inr (.inr (.inr rfl)))

def FAlive : List V → Option V
  | [] => some (.x (.bool true))
  | _ => none
def FLaw2 : List V → Option V
  | [.x (.int .i64 a), .x (.int .i64 b)] => if inR a ∧ inR b then some (.x (.bool true)) else none
  | _ => none
theorem in_small : inR 2 ∧ inR 3 ∧ inR 5 ∧ inR (2 + 3) ∧ inR 1 := by decide

set_option maxRecDepth 100000 in
theorem alive_fun : FunV 7 FAlive := by
  refine fun_of_run (E := envOf [(10, FPair)]) (k := 0) (envOK_of _ ⟨pair_fun, trivial⟩) (by kernel_rfl) Tryd.func7 rfl (fun a w => Tryd.call7 a w) Tryd.ntmps7 (by kernel_rfl) (by decide) ?_
  intro us r hF hdat
  unfold FAlive at hF
  split at hF
  case h_2 => cases hF
  cases hF
  refine ⟨rfl, ?_⟩
  obtain ⟨i2, i3, i5, i23, i1⟩ := in_small
  have e := (p_add 2 3).trans (fit_yes i23)
  simp (decide := true) (maxDischargeDepth := 200) only [go_sem, FPair, i2, i3, e, Tryd.results7]

set_option maxHeartbeats 4000000 in
set_option maxRecDepth 100000 in
theorem over_fun : FunV 4 FLaw2 := by
  refine fun_of_run (E := envOf [(10, FPair), (7, FAlive)]) (k := 2) (envOK_of _ ⟨pair_fun, alive_fun, trivial⟩) (by kernel_rfl) Tryd.func4 rfl (fun a w => Tryd.call4 a w) Tryd.ntmps4 (by kernel_rfl) (by decide) ?_
  intro us r hF hdat
  unfold FLaw2 at hF
  split at hF
  case h_2 => cases hF
  rename_i a b
  split at hF
  · rename_i hh
    obtain ⟨ha, hb⟩ := hh
    cases hF
    refine ⟨rfl, ?_⟩
    have hh := half_eq ha hb
    by_cases g : inR (a + b)
    · obtain ⟨hlo, hhi⟩ := (half_in a b).1 g
      have e := (p_add a b).trans (fit_yes g)
      have hw := bwrap_of g
      have e2 := (p_sub (a + b) b)
      have e3 : a + b - b = a := by omega
      rw [e3, fit_yes ha] at e2
      simp (decide := true) (maxDischargeDepth := 200) only [go_sem, FAlive, FPair, ha, hb, g, e, e2, hh, hw, hlo, hhi, Tryd.results4]
    · have e := (p_add a b).trans (fit_no g)
      have e2 := pair_err ⟨#[45]⟩ 1 b (by decide)
      obtain ⟨i2, i3, i5, i23, i1⟩ := in_small
      by_cases hlo : -4611686018427387904 ≤ (a + b) / 2
      · have hhi : ¬ (a + b) / 2 < 4611686018427387904 := fun h => g ((half_in a b).2 ⟨hlo, h⟩)
        have dlo := decide_eq_true hlo
        have dhi := decide_eq_false hhi
        clear hlo hhi
        simp (decide := true) (maxDischargeDepth := 200) only [go_sem, FAlive, FPair, ha, hb, e, e2, hh, i1, dlo, dhi, Tryd.results4]
      · have dlo := decide_eq_false hlo
        clear hlo
        simp (decide := true) (maxDischargeDepth := 200) only [go_sem, FAlive, FPair, ha, hb, e, e2, hh, i1, dlo, Tryd.results4]
  · cases hF

end Go.Proofs.YtkkcjhbkdlenpaaDoor
