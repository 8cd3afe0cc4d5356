/- The law AddrIn, as a function of plain data: it is true. -/
import Derived.Test.YtcolepbcibidaaaDoorAdG
namespace Go.Proofs.YtcolepbcibidaaaDoor
open Go Go.RowKit
set_option linter.unusedSimpArgs false

theorem row_get {s : ByteArray} {c r : Int} {k i : Nat} (h : i < k) : (rowC s c r k)[i]? = some (s, c + (i : Int), r) := by
  unfold rowC
  rw [List.getElem?_map, List.getElem?_range h]
  rfl
theorem cellsL_at (s : ByteArray) (c r : Int) (k : Nat) : ∀ (h i : Nat), i < h * k → (cellsL s c r k h)[i]? = some (s, c + ((i % k : Nat) : Int), r + ((i / k : Nat) : Int))
  | 0, i, hi => by simp at hi
  | h + 1, i, hi => by
    have hlen := cellsL_len s c r k h
    unfold cellsL
    rcases Nat.lt_or_ge i (h * k) with hlt | hge
    · rw [List.getElem?_append_left (by omega)]
      exact cellsL_at s c r k h i hlt
    · rw [List.getElem?_append_right (by omega), hlen]
      rw [Nat.add_mul, Nat.one_mul] at hi
      obtain ⟨j, rfl⟩ : ∃ j, i = h * k + j := ⟨i - h * k, by omega⟩
      have hj : j < k := by omega
      rw [Nat.add_sub_cancel_left, row_get hj]
      have e1 : (h * k + j) % k = j := by rw [Nat.mul_comm, Nat.mul_add_mod, Nat.mod_eq_of_lt hj]
      have e2 : (h * k + j) / k = h := by rw [Nat.mul_comm, Nat.mul_add_div (by omega), Nat.div_eq_of_lt hj]; omega
      rw [e1, e2]
theorem next_idx {n k : Nat} (_hk : 0 < k) : ((n + 1) / k = n / k ∧ n % k < (n + 1) % k) ∨ n / k < (n + 1) / k := by
  have h1 := Nat.div_add_mod n k
  have h2 := Nat.div_add_mod (n + 1) k
  have hle : n / k ≤ (n + 1) / k := Nat.div_le_div_right (by omega)
  rcases Nat.lt_or_ge (n / k) ((n + 1) / k) with h | h
  · exact .inr h
  · have e : (n + 1) / k = n / k := by omega
    rw [e] at h2
    exact .inl ⟨e, by omega⟩
theorem less_next {s : ByteArray} {c r : Int} {n k : Nat} (hk : 0 < k) : lessC s (c + ((n % k : Nat) : Int)) (r + ((n / k : Nat) : Int)) s (c + (((n + 1) % k : Nat) : Int)) (r + (((n + 1) / k : Nat) : Int)) = true := by
  unfold lessC
  rw [if_pos rfl]
  rcases next_idx (n := n) hk with ⟨h1, h2⟩ | h
  · rw [if_pos (by rw [h1])]
    exact decide_eq_true (by omega)
  · rw [if_neg (by omega)]
    exact decide_eq_true (by omega)
theorem inB_iff {s : ByteArray} {c r : Int} {s' : ByteArray} {c' r' : Int} {s0 : ByteArray} {c0 r0 : Int} : inB s c r s' c' r' s0 c0 r0 = true ↔ okA s c r s' c' r' = true ∧ s0 = s ∧ c ≤ c0 ∧ c0 ≤ c' ∧ r ≤ r0 ∧ r0 ≤ r' := by
  simp [inB]
theorem has_in {s : ByteArray} {c r : Int} {k h : Nat} {c2 r2 : Int} (hok : okA s c r s c2 r2 = true) (hc : c2 = c + (k : Int) - 1) (hr : r2 = r + (h : Int) - 1) (s0 : ByteArray) (c0 r0 : Int) :
    ((cellsL s c r k h).any fun p => eqC p (s0, c0, r0)) = inB s c r s c2 r2 s0 c0 r0 := by
  rw [Bool.eq_iff_iff, inB_iff, List.any_eq_true]
  constructor
  · rintro ⟨p, hp, he⟩
    have he := of_decide_eq_true he
    obtain ⟨i, hi⟩ := List.getElem?_of_mem hp
    have hlt := (List.getElem?_eq_some_iff.1 hi).1
    rw [cellsL_len] at hlt
    have hk : 0 < k := by
      rcases Nat.eq_zero_or_pos k with h0 | h0
      · subst h0; simp at hlt
      · exact h0
    rw [cellsL_at s c r k h i hlt] at hi
    cases hi
    cases he
    have h1 := Nat.mod_lt i hk
    have h2 : i / k < h := (Nat.div_lt_iff_lt_mul hk).2 hlt
    generalize i % k = a at h1 ⊢
    generalize i / k = b at h2 ⊢
    exact ⟨hok, rfl, by omega, by omega, by omega, by omega⟩
  · rintro ⟨_, rfl, h1, h2, h3, h4⟩
    obtain ⟨a, ha⟩ : ∃ a : Nat, c0 - c = a := ⟨(c0 - c).toNat, by omega⟩
    obtain ⟨b, hb⟩ : ∃ b : Nat, r0 - r = b := ⟨(r0 - r).toNat, by omega⟩
    have hak : a < k := by omega
    have hbh : b < h := by omega
    have hlt : b * k + a < h * k := mul_idx hbh hak
    have := cellsL_at s0 c r k h (b * k + a) hlt
    have e1 : (b * k + a) % k = a := by rw [Nat.mul_comm, Nat.mul_add_mod, Nat.mod_eq_of_lt hak]
    have e2 : (b * k + a) / k = b := by rw [Nat.mul_comm, Nat.mul_add_div (by omega), Nat.div_eq_of_lt hak]; omega
    rw [e1, e2] at this
    refine ⟨_, List.mem_of_getElem? this, decide_eq_true ?_⟩
    rw [show c + (a : Int) = c0 from by omega, show r + (b : Int) = r0 from by omega]
def FLIn : List V → Option V
  | [.agg [.x (.string _), .x (.int .i64 _), .x (.int .i64 _)], .x (.int .i64 _), .x (.int .i64 _), .agg [.x (.string _), .x (.int .i64 _), .x (.int .i64 _)]] => some (.x (.bool true))
  | _ => none
set_option maxHeartbeats 8000000 in
set_option maxRecDepth 100000 in
theorem lin_fun : FunV 5 FLIn := by
  refine fun_of_run (E := envOf [(7, FAlive), (13, FRightC), (19, FCells), (10, FArea), (21, FIn), (23, FLess), (25, FHas)]) (k := 4) (envOK_of _ ⟨alive_fun, rright_fun, cells_fun, area_fun, in_fun, less_fun, has_fun, trivial⟩) (by kernel_rfl) Tryd.func5 rfl (fun a w => Tryd.call5 a w) Tryd.ntmps5 (by kernel_rfl) (by decide) ?_
  intro us r hF hdat
  unfold FLIn at hF
  split at hF
  case h_2 => cases hF
  rename_i s c r w h s' c' r'
  cases hF
  refine ⟨rfl, ?_⟩
  cases hR : rightC s c r
  · simp (decide := true) (maxDischargeDepth := 200) only [go_sem, List.append_eq, FAlive, FRightC, hR, Tryd.results5]
  obtain ⟨hn, b1, b2, b3, b4⟩ := rightC_iff.1 hR
  by_cases qd1 : w < 1
  · have d1 := decide_eq_true qd1
    simp (decide := true) (maxDischargeDepth := 200) only [go_sem, List.append_eq, FAlive, FRightC, hR, d1, Tryd.results5]
  have d1 := decide_eq_false qd1
  by_cases qd2 : 20 < w
  · have d2 := decide_eq_true qd2
    simp (decide := true) (maxDischargeDepth := 200) only [go_sem, List.append_eq, FAlive, FRightC, hR, d1, d2, Tryd.results5]
  have d2 := decide_eq_false qd2
  by_cases qd3 : h < 1
  · have d3 := decide_eq_true qd3
    simp (decide := true) (maxDischargeDepth := 200) only [go_sem, List.append_eq, FAlive, FRightC, hR, d1, d2, d3, Tryd.results5]
  have d3 := decide_eq_false qd3
  by_cases qd4 : 20 < h
  · have d4 := decide_eq_true qd4
    simp (decide := true) (maxDischargeDepth := 200) only [go_sem, List.append_eq, FAlive, FRightC, hR, d1, d2, d3, d4, Tryd.results5]
  have d4 := decide_eq_false qd4
  obtain ⟨w, rfl⟩ := Int.eq_ofNat_of_zero_le (show 0 ≤ w by omega)
  obtain ⟨h, rfl⟩ := Int.eq_ofNat_of_zero_le (show 0 ≤ h by omega)
  obtain ⟨c2, hc2⟩ : ∃ c2, c + (w : Int) - 1 = c2 := ⟨_, rfl⟩
  obtain ⟨r2, hr2⟩ : ∃ r2, r + (h : Int) - 1 = r2 := ⟨_, rfl⟩
  have w1 : bWrap .i64 (c + (w : Int)) = c + (w : Int) := bwrap_of (by unfold inR; omega)
  have w2 : bWrap .i64 (c + (w : Int) - 1) = c2 := by rw [bwrap_of (by unfold inR; omega), hc2]
  have w3 : bWrap .i64 (r + (h : Int)) = r + (h : Int) := bwrap_of (by unfold inR; omega)
  have w4 : bWrap .i64 (r + (h : Int) - 1) = r2 := by rw [bwrap_of (by unfold inR; omega), hr2]
  by_cases qd5 : 702 < c2
  · have d5 := decide_eq_true qd5
    simp (decide := true) (maxDischargeDepth := 200) only [go_sem, List.append_eq, FAlive, FRightC, hR, d1, d2, d3, d4, w1, w2, w3, w4, d5, Tryd.results5]
  have d5 := decide_eq_false qd5
  by_cases qd6 : 999 < r2
  · have d6 := decide_eq_true qd6
    simp (decide := true) (maxDischargeDepth := 200) only [go_sem, List.append_eq, FAlive, FRightC, hR, d1, d2, d3, d4, w1, w2, w3, w4, d5, d6, Tryd.results5]
  have d6 := decide_eq_false qd6
  have hR2 : rightC s c2 r2 = true := rightC_iff.2 ⟨hn, by omega, by omega, by omega, by omega⟩
  have hok : okA s c r s c2 r2 = true := okA_iff.2 ⟨hR, hR2, rfl, by omega, by omega⟩
  have hwh : h * w ≤ 400 := Nat.mul_le_mul (show h ≤ 20 by omega) (show w ≤ 20 by omega)
  have hn0 : areaN c r c2 r2 = ((h * w : Nat) : Int) := by
    unfold areaN
    rw [show c2 - c + 1 = (w : Int) from by omega, show r2 - r + 1 = (h : Int) from by omega]
    push_cast
    exact Int.mul_comm _ _
  have ha := areaV_yes hok
  rw [hn0] at ha
  have hA : cellsA s c r s c2 r2 = some (cellsL s c r w h) := by
    unfold cellsA
    rw [if_pos ⟨hok, by rw [hn0]; omega⟩, show (c2 - c + 1).toNat = w from by omega, show (r2 - r + 1).toNat = h from by omega]
  have w5 : bWrap .i64 ((w : Int) * (h : Int)) = ((h * w : Nat) : Int) := by
    rw [show (w : Int) * (h : Int) = ((h * w : Nat) : Int) from by push_cast; exact Int.mul_comm _ _]
    exact bwrap_of (by unfold inR; omega)
  have hlen := cellsL_len s c r w h
  have hat := cellsL_at s c r w h
  have hhas := has_in hok hc2.symm hr2.symm s' c' r'
  generalize hL : cellsL s c r w h = L at hA hlen hat hhas
  have hC := FCells_some hA
  have hlm : (((L.map cellV).length : Nat) : Int) = ((h * w : Nat) : Int) := by rw [List.length_map, hlen]
  have hl6 : L.length ≤ 1000000 := by omega
  obtain ⟨n, hnn⟩ : ∃ n, h * w = n := ⟨_, rfl⟩
  rw [hnn] at ha w5 hlen hat hlm hwh
  simp (decide := true) (maxDischargeDepth := 200) only [go_sem, List.append_eq, FAlive, FRightC, hR, d1, d2, d3, d4, w1, w2, w3, w4, d5, d6, hC, FArea_eq, ha, w5, hlm, dec_refl, Tryd.results5]
  refine loop_of (X := {i : Nat // i ≤ n}) (fun i => [(1, .x (.int .i64 (w : Int))), (4, .ptr 4 0), (7, .ptr 7 0), (10, .ptr 10 0), (11, .sl false 3 (L.map cellV) none), (12, .x (.int .i64 ((n : Nat) : Int))), (14, .x (.int .i64 i.1))]) (fun _ => [(4, [.x (.string s), .x (.int .i64 c), .x (.int .i64 r)]), (7, [.x (.string s'), .x (.int .i64 c'), .x (.int .i64 r')]), (10, [.x (.string s), .x (.int .i64 c), .x (.int .i64 r), .x (.string s), .x (.int .i64 c2), .x (.int .i64 r2)])]) (fun i => n - i.1) ⟨0, by omega⟩ (by simp (decide := true) only [go_sem]; rfl) (by simp (decide := true) only [go_sem]) (fun ⟨i, hi⟩ => ?_)
  have hw0 : 0 < w := by omega
  by_cases hin : i < n
  · have e0 : decide ((i : Int) < ((n : Nat) : Int)) = true := decide_eq_true (by omega)
    have k2 : (0 : Int) ≤ (i : Int) := by omega
    have k4 := count_up (i := i) (by omega)
    have k5 := cell_at (hat i hin)
    have hm1 := Nat.mod_lt i hw0
    have hm2 : i / w < h := (Nat.div_lt_iff_lt_mul hw0).2 (by omega)
    have m1 : Int.tmod (i : Int) (w : Int) = ((i % w : Nat) : Int) := (Int.ofNat_tmod i w).symm
    have m2 : bWrap .i64 (c + ((i % w : Nat) : Int)) = c + ((i % w : Nat) : Int) := bwrap_of (by generalize i % w = a at hm1 ⊢; unfold inR; omega)
    have m3 : bWrap .i64 (Int.tdiv (i : Int) (w : Int)) = ((i / w : Nat) : Int) := by
      rw [show Int.tdiv (i : Int) (w : Int) = ((i / w : Nat) : Int) from (Int.ofNat_tdiv i w).symm]
      exact bwrap_of (by generalize i / w = a at hm2 ⊢; unfold inR; omega)
    have m4 : bWrap .i64 (r + ((i / w : Nat) : Int)) = r + ((i / w : Nat) : Int) := bwrap_of (by generalize i / w = a at hm2 ⊢; unfold inR; omega)
    have m0 : ¬ (w : Int) = 0 := by omega
    have hib : inB s c r s c2 r2 s (c + ((i % w : Nat) : Int)) (r + ((i / w : Nat) : Int)) = true := by
      generalize i % w = a at hm1 ⊢
      generalize i / w = b at hm2 ⊢
      exact inB_iff.2 ⟨hok, rfl, by omega, by omega, by omega, by omega⟩
    by_cases hi0 : i = 0
    · have e1 : decide ((0 : Int) < (i : Int)) = false := decide_eq_false (by omega)
      simp (decide := true) (maxDischargeDepth := 200) only [go_sem, List.append_eq, e0, k2, k4, k5, cellV_mk, FIn_eq, hib, m0, m1, m2, m3, m4, eq3, eqC_refl, e1, Tryd.results5]
      refine ⟨⟨i + 1, by omega⟩, ?_, ?_, by simp only; omega⟩ <;> simp (decide := true) only [go_sem]
    · obtain ⟨j, rfl⟩ : ∃ j, i = j + 1 := ⟨i - 1, by omega⟩
      have e1 : decide ((0 : Int) < ((j + 1 : Nat) : Int)) = true := decide_eq_true (by omega)
      have k6 := cell_at (hat j (by omega))
      have k7 : bWrap .i64 (((j + 1 : Nat) : Int) - 1) = (j : Int) := by rw [bwrap_of (by unfold inR; omega)]; omega
      have k8 : (0 : Int) ≤ (j : Int) := by omega
      have hl := less_next (s := s) (c := c) (r := r) (n := j) (k := w) hw0
      simp (decide := true) (maxDischargeDepth := 200) only [go_sem, List.append_eq, e0, k2, k4, k5, k6, k7, k8, cellV_mk, FIn_eq, hib, m0, m1, m2, m3, m4, eq3, eqC_refl, e1, FLess_eq, hl, Tryd.results5]
      refine ⟨⟨j + 1 + 1, by omega⟩, ?_, ?_, by simp only; omega⟩ <;> simp (decide := true) only [go_sem]
  · have e0 : decide ((i : Int) < ((n : Nat) : Int)) = false := decide_eq_false (by omega)
    have hha := (FHas_eq (nl := false) s' c' r' hl6).trans (by rw [hhas])
    simp (decide := true) (maxDischargeDepth := 200) only [go_sem, List.append_eq, e0, FIn_eq, hha, bq_self, Tryd.results5]

end Go.Proofs.YtcolepbcibidaaaDoor
