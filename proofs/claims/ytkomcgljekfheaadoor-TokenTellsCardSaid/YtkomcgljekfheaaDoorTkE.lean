/- Formulas taken apart: the reference's Split, as a function of plain data. -/
import Derived.Test.YtkomcgljekfheaaDoorTkD
namespace Go.Proofs.YtkomcgljekfheaaDoor
open Go Go.RowKit
set_option linter.unusedSimpArgs false

theorem tok_push1 (a : List Tk) (i : Nat) (t : List UInt8) : a.map tokV ++ [.agg [.x (.int .i64 1), .x (.int .i64 ((i : Nat) : Int)), .x (.string (B t))]] = (a ++ [(1, i, t)]).map tokV := tok_push a 1 i t
theorem tok_push2 (a : List Tk) (i : Nat) (t : List UInt8) : a.map tokV ++ [.agg [.x (.int .i64 2), .x (.int .i64 ((i : Nat) : Int)), .x (.string (B t))]] = (a ++ [(2, i, t)]).map tokV := tok_push a 2 i t
theorem tok_push3 (a : List Tk) (i : Nat) (t : List UInt8) : a.map tokV ++ [.agg [.x (.int .i64 3), .x (.int .i64 ((i : Nat) : Int)), .x (.string (B t))]] = (a ++ [(3, i, t)]).map tokV := tok_push a 3 i t
theorem tok_push4 (a : List Tk) (i : Nat) (t : List UInt8) : a.map tokV ++ [.agg [.x (.int .i64 4), .x (.int .i64 ((i : Nat) : Int)), .x (.string (B t))]] = (a ++ [(4, i, t)]).map tokV := tok_push a 4 i t
theorem tok_push5 (a : List Tk) (i : Nat) (t : List UInt8) : a.map tokV ++ [.agg [.x (.int .i64 5), .x (.int .i64 ((i : Nat) : Int)), .x (.string (B t))]] = (a ++ [(5, i, t)]).map tokV := tok_push a 5 i t
theorem great_not {b : UInt8} (h : greatI b.toNat = true) : b ≠ 34 ∧ b ≠ 32 ∧ digitI b.toNat = false := by
  simp only [greatI, digitI, Bool.and_eq_true, decide_eq_true_eq, Bool.and_eq_false_iff, decide_eq_false_iff_not] at *
  refine ⟨?_, ?_, ?_⟩
  · rintro rfl; revert h; decide
  · rintro rfl; revert h; decide
  · omega
theorem small_not {b : UInt8} (h : smallI b.toNat = true) : b ≠ 34 ∧ b ≠ 32 := by
  simp only [smallI, Bool.and_eq_true, decide_eq_true_eq] at *
  refine ⟨?_, ?_⟩ <;> (rintro rfl; revert h; decide)
theorem tell_take {l : List UInt8} {k n : Nat} (h : firstP l = (k, n)) (hk : k ≠ 2) : tellP l = l.take n := by unfold tellP; rw [h]; exact if_neg hk
theorem tell_in {l : List UInt8} {n : Nat} (h : firstP l = (2, n)) : tellP l = insideP l := by unfold tellP; rw [h]; exact if_pos rfl
theorem wordI_is {b : Int} {p q : Bool} (h1 : greatI b = p) (h2 : digitI b = q) : wordI b = (p || q) := by unfold wordI; rw [h1, h2]
theorem nameI_is {b : Int} {p q : Bool} (h1 : smallI b = p) (h2 : digitI b = q) : nameI b = (p || q) := by unfold nameI; rw [h1, h2]
set_option maxHeartbeats 8000000 in
set_option maxRecDepth 100000 in
theorem rsplit_fun : FunV 7 FSplit := by
  refine fun_of_run (E := envOf [(12, FDigit), (13, FGreat), (14, FSmall), (15, FQuoted), (16, FRSign)]) (k := 1) (envOK_of _ ⟨rdigit_fun, rgreat_fun, rsmall_fun, rquoted_fun, rsign_fun, trivial⟩) (by kernel_rfl) Tryd.func7 rfl (fun a w => Tryd.call7 a w) Tryd.ntmps7 (by kernel_rfl) (by decide) ?_
  intro us r hF hdat
  unfold FSplit at hF
  split at hF
  case h_2 => cases hF
  rename_i s
  cases hF
  refine ⟨rfl, ?_⟩
  obtain ⟨l, rfl⟩ := B_of s
  rw [B_bytes]
  by_cases hlen : 200 < l.length
  · have d0 : decide ((200 : Int) < ((B l).size : Int)) = true := decide_eq_true (by rw [B_size]; omega)
    have hs : 200 < (B l).size := hlen
    rw [if_pos hs]
    simp (decide := true) (maxDischargeDepth := 200) only [go_sem, d0, Tryd.results7]
  · have d0 : decide ((200 : Int) < ((B l).size : Int)) = false := decide_eq_false (by rw [B_size]; omega)
    rw [if_neg (show ¬ 200 < (B l).size from hlen)]
    simp (decide := true) (maxDischargeDepth := 200) only [go_sem, d0, Tryd.results7]
    refine loop_nil 5 3 70 (by simp (decide := true) only [go_sem]; rfl) ?_
    refine loop_of (X := {p : (Nat × List Tk × Nat) × Nat // Part l p.1.1 p.1.2.1 p.1.2.2 ∧ (p.2 = 70 ∨ p.2 = 100 ∨ p.2 = 130 ∨ p.2 = 149 ∨ p.2 = 41)}) (fun p => [(0, .x (.string (B l))), (5, .sl (p.1.1.2.1.map tokV).isEmpty 3 (p.1.1.2.1.map tokV) (some p.1.2)), (6, .x (.int .i64 ((p.1.1.1 : Nat) : Int)))]) (fun _ => []) (fun p => l.length - p.1.1.1) ⟨((0, [], l.length + 1), 70), Part.start l, by simp⟩ (by simp (decide := true) only [go_sem] <;> (repeat' first | rfl | constructor)) trivial (fun ⟨⟨⟨i, a, f⟩, tk⟩, hp, htk⟩ => ?_)
    simp only at hp htk
    have hle := hp.le
    have hfew := hp.few
    have g1 := push_tok (a := a) (by omega)
    by_cases h : i < l.length
    · obtain ⟨b, hb⟩ := get_of h
      have hcons := drop_cons hb
      have d1 : decide ((i : Int) < ((B l).size : Int)) = true := decide_eq_true (by rw [B_size]; omega)
      have c2 : (0 : Int) ≤ (i : Int) := by omega
      have c3 : (i : Int) < ((B l).size : Int) := by rw [B_size]; omega
      have c4 := count_up (i := i) (by omega)
      have c5 := byteV_B hb
      by_cases h32 : b = 32
      · have d2 : decide (((b.toNat : Nat) : Int) = 32) = true := by rw [byte_eq (c := 32) (n := 32) rfl]; exact decide_eq_true h32
        simp (decide := true) (maxDischargeDepth := 200) only [go_sem, d1, d2, c2, c3, c4, c5, Tryd.results7]
        refine ⟨⟨((i + 1, a, f - 1), tk), hp.blank (h32 ▸ hb), by simpa using htk⟩, ?_, trivial, by simp only; omega⟩
        simp (decide := true) only [go_sem]
      · have d2 : decide (((b.toNat : Nat) : Int) = 32) = false := by rw [byte_eq (c := 32) (n := 32) rfl]; exact decide_eq_false h32
        cases h1 : digitI (b.toNat : Int)
        · cases h3 : greatI (b.toNat : Int)
          · cases h4 : smallI (b.toNat : Int)
            · by_cases hq : b = 34
              · have d3 : decide (((b.toNat : Nat) : Int) = 34) = true := by rw [byte_eq (c := 34) (n := 34) rfl]; exact decide_eq_true hq
                have r1 := FQuoted_eq h (by omega)
                have hfp : firstP (l.drop i) = (2, textP (l.drop i)) := by
                  have := hcons
                  rw [this]
                  exact first_quote h1 hq
                have hdd : (l.drop i).drop 1 = l.drop (i + 1) := List.drop_drop
                cases hqu : quoteL (l.drop (i + 1)) with
                | none =>
                  have e1 := quoteV_no hqu
                  have e3 := splitV_no (hp.bad hb h32 (by rw [hfp]; exact textP_no (by rw [hdd, hqu]; rfl)))
                  simp (decide := true) (maxDischargeDepth := 200) only [go_sem, d1, d2, c2, c3, c4, c5, d3, FDigit, FGreat, FSmall, h1, h3, h4, r1, e1, e3, Tryd.results7]
                | some r =>
                  have e1 := quoteV_yes hqu
                  have htp : textP (l.drop i) = r.2 + 1 := textP_yes (by rw [hdd, hqu])
                  have hin : insideP (l.drop i) = r.1 := by unfold insideP; rw [hdd, hqu]
                  have h0 : (firstP (l.drop i)).2 ≠ 0 := by rw [hfp]; show textP (l.drop i) ≠ 0; omega
                  have hnext := hp.tok hb h32 h0
                  rw [tell_in hfp, hfp, hin] at hnext
                  simp only at hnext
                  rw [htp, show i + (r.2 + 1) = i + 1 + r.2 from by omega] at hnext
                  have hnl := hnext.le
                  simp (decide := true) (maxDischargeDepth := 200) only [go_sem, d1, d2, c2, c3, c4, c5, d3, FDigit, FGreat, FSmall, h1, h3, h4, r1, e1, g1, Tryd.results7]
                  refine ⟨⟨((i + 1 + r.2, a ++ [(2, i, r.1)], f - 1), 149), hnext, by simp⟩, ?_, trivial, by simp only; omega⟩
                  simp (decide := true) only [go_sem, tok_push1, tok_push2, tok_push3, tok_push4, tok_push5, tok_some]
              · have d3 : decide (((b.toNat : Nat) : Int) = 34) = false := by rw [byte_eq (c := 34) (n := 34) rfl]; exact decide_eq_false hq
                have r1 := FRSign_eq h (by omega)
                have hfp : firstP (l.drop i) = (5, signP (l.drop i)) := by
                  have := hcons
                  rw [this]
                  exact first_sign h1 hq h3 h4
                by_cases hz : signP (l.drop i) = 0
                · have d4 : decide (((signP (l.drop i) : Nat) : Int) = 0) = true := decide_eq_true (by omega)
                  have e3 := splitV_no (hp.bad hb h32 (by rw [hfp]; exact hz))
                  simp (decide := true) (maxDischargeDepth := 200) only [go_sem, d1, d2, c2, c3, c4, c5, d3, d4, FDigit, FGreat, FSmall, h1, h3, h4, r1, e3, Tryd.results7]
                · have d4 : decide (((signP (l.drop i) : Nat) : Int) = 0) = false := decide_eq_false (by omega)
                  have hnext := hp.tok hb h32 (by rw [hfp]; exact hz)
                  rw [tell_take hfp (by decide), hfp] at hnext
                  simp only at hnext
                  obtain ⟨n, hne⟩ : ∃ n, signP (l.drop i) = n := ⟨_, rfl⟩
                  rw [hne] at hnext hz d4 r1
                  have hnl := hnext.le
                  have e4 : subV (B l) (i : Int) ((i + n : Nat) : Int) = B ((l.drop i).take n) := by rw [subV_B, List.drop_take, Nat.add_sub_cancel_left]
                  have c6 : bWrap .i64 ((i : Int) + ((n : Nat) : Int)) = ((i + n : Nat) : Int) := by rw [bwrap_of (by unfold inR; omega)]; omega
                  have c7 : (i : Int) ≤ ((i + n : Nat) : Int) := by omega
                  have c8 : ((i + n : Nat) : Int) ≤ ((B l).size : Int) := by rw [B_size]; omega
                  simp (decide := true) (maxDischargeDepth := 200) only [go_sem, d1, d2, c2, c3, c4, c5, d3, d4, FDigit, FGreat, FSmall, h1, h3, h4, r1, c6, c7, c8, e4, g1, Tryd.results7]
                  refine ⟨⟨((i + n, a ++ [(5, i, (l.drop i).take n)], f - 1), 41), hnext, by simp⟩, ?_, trivial, by simp only; omega⟩
                  simp (decide := true) only [go_sem, tok_push1, tok_push2, tok_push3, tok_push4, tok_push5, tok_some]
            · obtain ⟨hq, _⟩ := small_not h4
              have hn : 0 < spanL nameI (l.drop i) := by rw [spanL_at hb (show nameI b.toNat = true from by unfold nameI; rw [h4]; rfl)]; omega
              have hfp : firstP (l.drop i) = (4, spanL nameI (l.drop i)) := by
                have := hcons
                rw [this]
                exact first_small h1 hq h3 h4
              have ht := tell_take hfp (by decide)
              have h0 : (firstP (l.drop i)).2 ≠ 0 := by rw [hfp]; show spanL nameI (l.drop i) ≠ 0; omega
              have hnext := hp.tok hb h32 h0
              rw [hfp, ht] at hnext
              obtain ⟨n, hne⟩ : ∃ n, spanL nameI (l.drop i) = n := ⟨_, rfl⟩
              rw [hne] at hnext hn
              have hnl := hnext.le
              simp only at hnext hnl
              have e4 : subV (B l) (i : Int) ((i + n : Nat) : Int) = B ((l.drop i).take n) := by rw [subV_B, List.drop_take, Nat.add_sub_cancel_left]
              have c7 : (i : Int) ≤ ((i + n : Nat) : Int) := by omega
              have c8 : ((i + n : Nat) : Int) ≤ ((B l).size : Int) := by rw [B_size]; omega
              simp (decide := true) (maxDischargeDepth := 200) only [go_sem, d1, d2, c2, c3, c4, c5, FDigit, FGreat, FSmall, h1, h3, h4, Tryd.results7]
              refine loop_of (X := {j : Nat // i ≤ j ∧ j ≤ l.length ∧ n = (j - i) + spanL nameI (l.drop j)}) (fun j => [(0, .x (.string (B l))), (5, .sl (a.map tokV).isEmpty 3 (a.map tokV) (some tk)), (6, .x (.int .i64 ((j.1 : Nat) : Int))), (8, .x (.int .i64 (i : Int)))]) (fun _ => []) (fun j => l.length - j.1) ⟨i, by omega, by omega, by omega⟩ (by simp (decide := true) only [go_sem] <;> (repeat' first | rfl | constructor)) trivial (fun ⟨j, hj1, hj2, hjz⟩ => ?_)
              by_cases hj : j < l.length
              · obtain ⟨b', hb'⟩ := get_of hj
                have j1 : decide ((j : Int) < ((B l).size : Int)) = true := decide_eq_true (by rw [B_size]; omega)
                have j2 : (0 : Int) ≤ (j : Int) := by omega
                have j3 : (j : Int) < ((B l).size : Int) := by rw [B_size]; omega
                have j4 := count_up (i := j) (by omega)
                have j5 := byteV_B hb'
                cases q1 : smallI (b'.toNat : Int)
                · cases q2 : digitI (b'.toNat : Int)
                  ·
                    rw [spanL_no hb' (nameI_is q1 q2), Nat.add_zero] at hjz
                    obtain rfl : j = i + n := by omega
                    simp (decide := true) (maxDischargeDepth := 200) only [go_sem, j1, j2, j3, j5, FDigit, FSmall, q1, q2, c2, c7, c8, e4, g1, Tryd.results7]
                    refine ⟨⟨((i + n, a ++ [(4, i, (l.drop i).take n)], f - 1), 130), hnext, by simp⟩, ?_, trivial, by simp only; omega⟩
                    simp (decide := true) only [go_sem, tok_push1, tok_push2, tok_push3, tok_push4, tok_push5, tok_some]
                  ·
                    rw [spanL_at hb' (nameI_is q1 q2)] at hjz
                    simp (decide := true) (maxDischargeDepth := 200) only [go_sem, j1, j2, j3, j4, j5, FDigit, FSmall, q1, q2, Tryd.results7]
                    refine ⟨⟨j + 1, by omega, by omega, by omega⟩, ?_, trivial, by simp only; omega⟩
                    simp (decide := true) only [go_sem]
                · have q3 : nameI (b'.toNat : Int) = true := by unfold nameI; rw [q1]; rfl
                  rw [spanL_at hb' q3] at hjz
                  simp (decide := true) (maxDischargeDepth := 200) only [go_sem, j1, j2, j3, j4, j5, FDigit, FSmall, q1, Tryd.results7]
                  refine ⟨⟨j + 1, by omega, by omega, by omega⟩, ?_, trivial, by simp only; omega⟩
                  simp (decide := true) only [go_sem]
              · have j1 : decide ((j : Int) < ((B l).size : Int)) = false := decide_eq_false (by rw [B_size]; omega)
                rw [spanL_end (by omega), Nat.add_zero] at hjz
                obtain rfl : j = i + n := by omega
                simp (decide := true) (maxDischargeDepth := 200) only [go_sem, j1, c2, c7, c8, e4, g1, Tryd.results7]
                refine ⟨⟨((i + n, a ++ [(4, i, (l.drop i).take n)], f - 1), 130), hnext, by simp⟩, ?_, trivial, by simp only; omega⟩
                simp (decide := true) only [go_sem, tok_push1, tok_push2, tok_push3, tok_push4, tok_push5, tok_some]
          · obtain ⟨hq, _, _⟩ := great_not h3
            have hn : 0 < spanL wordI (l.drop i) := by rw [spanL_at hb (show wordI b.toNat = true from by unfold wordI; rw [h3]; rfl)]; omega
            have hfp : firstP (l.drop i) = (3, spanL wordI (l.drop i)) := by
              have := hcons
              rw [this]
              exact first_great h1 hq h3
            have ht := tell_take hfp (by decide)
            have h0 : (firstP (l.drop i)).2 ≠ 0 := by rw [hfp]; show spanL wordI (l.drop i) ≠ 0; omega
            have hnext := hp.tok hb h32 h0
            rw [hfp, ht] at hnext
            obtain ⟨n, hne⟩ : ∃ n, spanL wordI (l.drop i) = n := ⟨_, rfl⟩
            rw [hne] at hnext hn
            have hnl := hnext.le
            simp only at hnext hnl
            have e4 : subV (B l) (i : Int) ((i + n : Nat) : Int) = B ((l.drop i).take n) := by rw [subV_B, List.drop_take, Nat.add_sub_cancel_left]
            have c7 : (i : Int) ≤ ((i + n : Nat) : Int) := by omega
            have c8 : ((i + n : Nat) : Int) ≤ ((B l).size : Int) := by rw [B_size]; omega
            simp (decide := true) (maxDischargeDepth := 200) only [go_sem, d1, d2, c2, c3, c4, c5, FDigit, FGreat, FSmall, h1, h3, Tryd.results7]
            refine loop_of (X := {j : Nat // i ≤ j ∧ j ≤ l.length ∧ n = (j - i) + spanL wordI (l.drop j)}) (fun j => [(0, .x (.string (B l))), (5, .sl (a.map tokV).isEmpty 3 (a.map tokV) (some tk)), (6, .x (.int .i64 ((j.1 : Nat) : Int))), (8, .x (.int .i64 (i : Int)))]) (fun _ => []) (fun j => l.length - j.1) ⟨i, by omega, by omega, by omega⟩ (by simp (decide := true) only [go_sem] <;> (repeat' first | rfl | constructor)) trivial (fun ⟨j, hj1, hj2, hjz⟩ => ?_)
            by_cases hj : j < l.length
            · obtain ⟨b', hb'⟩ := get_of hj
              have j1 : decide ((j : Int) < ((B l).size : Int)) = true := decide_eq_true (by rw [B_size]; omega)
              have j2 : (0 : Int) ≤ (j : Int) := by omega
              have j3 : (j : Int) < ((B l).size : Int) := by rw [B_size]; omega
              have j4 := count_up (i := j) (by omega)
              have j5 := byteV_B hb'
              cases q1 : greatI (b'.toNat : Int)
              · cases q2 : digitI (b'.toNat : Int)
                ·
                  rw [spanL_no hb' (wordI_is q1 q2), Nat.add_zero] at hjz
                  obtain rfl : j = i + n := by omega
                  simp (decide := true) (maxDischargeDepth := 200) only [go_sem, j1, j2, j3, j5, FDigit, FGreat, q1, q2, c2, c7, c8, e4, g1, Tryd.results7]
                  refine ⟨⟨((i + n, a ++ [(3, i, (l.drop i).take n)], f - 1), 100), hnext, by simp⟩, ?_, trivial, by simp only; omega⟩
                  simp (decide := true) only [go_sem, tok_push1, tok_push2, tok_push3, tok_push4, tok_push5, tok_some]
                ·
                  rw [spanL_at hb' (wordI_is q1 q2)] at hjz
                  simp (decide := true) (maxDischargeDepth := 200) only [go_sem, j1, j2, j3, j4, j5, FDigit, FGreat, q1, q2, Tryd.results7]
                  refine ⟨⟨j + 1, by omega, by omega, by omega⟩, ?_, trivial, by simp only; omega⟩
                  simp (decide := true) only [go_sem]
              · have q3 : wordI (b'.toNat : Int) = true := by unfold wordI; rw [q1]; rfl
                rw [spanL_at hb' q3] at hjz
                simp (decide := true) (maxDischargeDepth := 200) only [go_sem, j1, j2, j3, j4, j5, FDigit, FGreat, q1, Tryd.results7]
                refine ⟨⟨j + 1, by omega, by omega, by omega⟩, ?_, trivial, by simp only; omega⟩
                simp (decide := true) only [go_sem]
            · have j1 : decide ((j : Int) < ((B l).size : Int)) = false := decide_eq_false (by rw [B_size]; omega)
              rw [spanL_end (by omega), Nat.add_zero] at hjz
              obtain rfl : j = i + n := by omega
              simp (decide := true) (maxDischargeDepth := 200) only [go_sem, j1, c2, c7, c8, e4, g1, Tryd.results7]
              refine ⟨⟨((i + n, a ++ [(3, i, (l.drop i).take n)], f - 1), 100), hnext, by simp⟩, ?_, trivial, by simp only; omega⟩
              simp (decide := true) only [go_sem, tok_push1, tok_push2, tok_push3, tok_push4, tok_push5, tok_some]
        ·
          have hn : 0 < spanL digitI (l.drop i) := by rw [spanL_at hb (show digitI b.toNat = true from h1)]; omega
          have hfp : firstP (l.drop i) = (1, spanL digitI (l.drop i)) := by
            have := hcons
            rw [this]
            exact first_digit h1
          have ht := tell_take hfp (by decide)
          have h0 : (firstP (l.drop i)).2 ≠ 0 := by rw [hfp]; show spanL digitI (l.drop i) ≠ 0; omega
          have hnext := hp.tok hb h32 h0
          rw [hfp, ht] at hnext
          obtain ⟨n, hne⟩ : ∃ n, spanL digitI (l.drop i) = n := ⟨_, rfl⟩
          rw [hne] at hnext hn
          have hnl := hnext.le
          simp only at hnext hnl
          have e4 : subV (B l) (i : Int) ((i + n : Nat) : Int) = B ((l.drop i).take n) := by rw [subV_B, List.drop_take, Nat.add_sub_cancel_left]
          have c7 : (i : Int) ≤ ((i + n : Nat) : Int) := by omega
          have c8 : ((i + n : Nat) : Int) ≤ ((B l).size : Int) := by rw [B_size]; omega
          simp (decide := true) (maxDischargeDepth := 200) only [go_sem, d1, d2, c2, c3, c4, c5, FDigit, h1, Tryd.results7]
          refine loop_of (X := {j : Nat // i ≤ j ∧ j ≤ l.length ∧ n = (j - i) + spanL digitI (l.drop j)}) (fun j => [(0, .x (.string (B l))), (5, .sl (a.map tokV).isEmpty 3 (a.map tokV) (some tk)), (6, .x (.int .i64 ((j.1 : Nat) : Int))), (8, .x (.int .i64 (i : Int)))]) (fun _ => []) (fun j => l.length - j.1) ⟨i, by omega, by omega, by omega⟩ (by simp (decide := true) only [go_sem] <;> (repeat' first | rfl | constructor)) trivial (fun ⟨j, hj1, hj2, hjz⟩ => ?_)
          by_cases hj : j < l.length
          · obtain ⟨b', hb'⟩ := get_of hj
            have j1 : decide ((j : Int) < ((B l).size : Int)) = true := decide_eq_true (by rw [B_size]; omega)
            have j2 : (0 : Int) ≤ (j : Int) := by omega
            have j3 : (j : Int) < ((B l).size : Int) := by rw [B_size]; omega
            have j4 := count_up (i := j) (by omega)
            have j5 := byteV_B hb'
            cases q1 : digitI (b'.toNat : Int)
            ·
              rw [spanL_no hb' q1, Nat.add_zero] at hjz
              obtain rfl : j = i + n := by omega
              simp (decide := true) (maxDischargeDepth := 200) only [go_sem, j1, j2, j3, j5, FDigit, q1, c2, c7, c8, e4, g1, Tryd.results7]
              refine ⟨⟨((i + n, a ++ [(1, i, (l.drop i).take n)], f - 1), 70), hnext, by simp⟩, ?_, trivial, by simp only; omega⟩
              simp (decide := true) only [go_sem, tok_push1, tok_push2, tok_push3, tok_push4, tok_push5, tok_some]
            ·
              rw [spanL_at hb' q1] at hjz
              simp (decide := true) (maxDischargeDepth := 200) only [go_sem, j1, j2, j3, j4, j5, FDigit, q1, Tryd.results7]
              refine ⟨⟨j + 1, by omega, by omega, by omega⟩, ?_, trivial, by simp only; omega⟩
              simp (decide := true) only [go_sem]
          · have j1 : decide ((j : Int) < ((B l).size : Int)) = false := decide_eq_false (by rw [B_size]; omega)
            rw [spanL_end (by omega), Nat.add_zero] at hjz
            obtain rfl : j = i + n := by omega
            simp (decide := true) (maxDischargeDepth := 200) only [go_sem, j1, c2, c7, c8, e4, g1, Tryd.results7]
            refine ⟨⟨((i + n, a ++ [(1, i, (l.drop i).take n)], f - 1), 70), hnext, by simp⟩, ?_, trivial, by simp only; omega⟩
            simp (decide := true) only [go_sem, tok_push1, tok_push2, tok_push3, tok_push4, tok_push5, tok_some]
    · have d1 : decide ((i : Int) < ((B l).size : Int)) = false := decide_eq_false (by rw [B_size]; omega)
      have e3 := splitV_ok (hp.done h)
      simp (decide := true) (maxDischargeDepth := 200) only [go_sem, d1, e3, Tryd.results7]

end Go.Proofs.YtkomcgljekfheaaDoor
