/- Formulas taken apart: token.Split, as a function of plain data. -/
import Derived.Test.YtkomcgljekfheaaDoorTkB
namespace Go.Proofs.YtkomcgljekfheaaDoor
open Go Go.RowKit
set_option linter.unusedSimpArgs false

theorem push_tok {a : List Tk} (h : a.length ≤ 1000000) (L : List (Nat × (List V → Option V))) (k i : Int) (s : ByteArray) (st : St) (d tok : Nat) (nl : Bool) (t' : Option Nat) :
    growV (envOf L) st (some d) 35 (.sl (a.map tokV).isEmpty 3 (a.map tokV) (some tok)) (.sl nl 3 [.agg [.x (.int .i64 k), .x (.int .i64 i), .x (.string s)]] t') =
      some ⟨upd (strip tok (strip d st.t)) d (.sl false 3 (a.map tokV ++ [.agg [.x (.int .i64 k), .x (.int .i64 i), .x (.string s)]]) (some d)), st.b⟩ := by
  refine growV_acc (E := envOf L) (n := 3) sz35 by35 ze35 (by decide) rfl rfl ?_ ?_ st d tok nl t'
  · rw [List.length_map]; omega
  · rw [List.length_map]; omega
theorem FTold_eq {l : List UInt8} (hl : l.length ≤ 1000) (h0 : (firstP l).2 ≠ 0) : FTold [.x (.int .i64 (((firstP l).1 : Nat) : Int)), .x (.string (B (l.take (firstP l).2)))] = some (.x (.string (B (tellP l)))) := by
  have hle := firstP_le l
  have key : (((firstP l).1 : Nat) : Int) = 2 → textP (l.take (firstP l).2) = (l.take (firstP l).2).length ∧ 1 ≤ (l.take (firstP l).2).length ∧ insideP (l.take (firstP l).2) = insideP l := fun h => by
    have e := first_two (show (firstP l).1 = 2 by omega)
    rw [e] at h0 hle ⊢
    obtain ⟨h1, h2⟩ := text_take h0
    rw [List.length_take]
    exact ⟨by rw [h1]; omega, by omega, h2⟩
  have hc : (B (l.take (firstP l).2)).size ≤ 1000 ∧ ((((firstP l).1 : Nat) : Int) = 2 → textP (B (l.take (firstP l).2)).data.toList = (B (l.take (firstP l).2)).size ∧ 1 ≤ (B (l.take (firstP l).2)).size) := by
    rw [B_size, B_bytes]
    exact ⟨by rw [List.length_take]; omega, fun h => ⟨(key h).1, (key h).2.1⟩⟩
  refine (if_pos hc).trans ?_
  rw [B_bytes]
  unfold tellP
  by_cases h : (firstP l).1 = 2
  · rw [if_pos (by omega), if_pos h, (key (by omega)).2.2]
  · rw [if_neg (by omega), if_neg h]
set_option maxHeartbeats 2000000 in
set_option maxRecDepth 100000 in
theorem split_fun : FunV 6 FSplit := by
  refine fun_of_run (E := envOf [(10, FFirst), (11, FTold)]) (k := 1) (envOK_of _ ⟨first_fun, told_fun, trivial⟩) (by kernel_rfl) Tryd.func6 rfl (fun a w => Tryd.call6 a w) Tryd.ntmps6 (by kernel_rfl) (by decide) ?_
  intro us r hF hdat
  unfold FSplit at hF
  split at hF
  case h_2 => cases hF
  rename_i s
  cases hF
  refine ⟨rfl, ?_⟩
  obtain ⟨l, rfl⟩ := B_of s
  rw [B_bytes]
  by_cases hlen : 200 < l.length
  · have d0 : decide ((200 : Int) < ((B l).size : Int)) = true := decide_eq_true (by rw [B_size]; omega)
    have hs : 200 < (B l).size := hlen
    rw [if_pos hs]
    simp (decide := true) (maxDischargeDepth := 200) only [go_sem, d0, Tryd.results6]
  · have d0 : decide ((200 : Int) < ((B l).size : Int)) = false := decide_eq_false (by rw [B_size]; omega)
    rw [if_neg (show ¬ 200 < (B l).size from hlen)]
    simp (decide := true) (maxDischargeDepth := 200) only [go_sem, d0, Tryd.results6]
    refine loop_nil 5 3 45 (by simp (decide := true) only [go_sem]; rfl) ?_
    refine loop_of (X := {p : Nat × List Tk × Nat // Part l p.1 p.2.1 p.2.2}) (fun p => [(0, .x (.string (B l))), (5, .sl (p.1.2.1.map tokV).isEmpty 3 (p.1.2.1.map tokV) (some 45)), (6, .x (.int .i64 ((p.1.1 : Nat) : Int)))]) (fun _ => []) (fun p => l.length - p.1.1) ⟨(0, [], l.length + 1), Part.start l⟩ (by simp (decide := true) only [go_sem]; exact ⟨rfl, rfl⟩) trivial (fun ⟨⟨i, a, f⟩, hp⟩ => ?_)
    simp only at hp
    have hle := hp.le
    by_cases h : i < l.length
    · obtain ⟨b, hb⟩ := get_of h
      have d1 : decide ((i : Int) < ((B l).size : Int)) = true := decide_eq_true (by rw [B_size]; omega)
      have c2 : (0 : Int) ≤ (i : Int) := by omega
      have c3 : (i : Int) < ((B l).size : Int) := by rw [B_size]; omega
      have c3' : (i : Int) ≤ ((B l).size : Int) := by rw [B_size]; omega
      have c4 := count_up (i := i) (by omega)
      have c5 := byteV_B hb
      by_cases h32 : b = 32
      · have d2 : decide (((b.toNat : Nat) : Int) = 32) = true := by rw [byte_eq (c := 32) (n := 32) rfl]; exact decide_eq_true h32
        simp (decide := true) (maxDischargeDepth := 200) only [go_sem, d1, d2, c2, c3, c4, c5, Tryd.results6]
        refine ⟨⟨(i + 1, a, f - 1), hp.blank (h32 ▸ hb)⟩, ?_, trivial, by simp only; omega⟩
        simp (decide := true) only [go_sem]
      · have d2 : decide (((b.toNat : Nat) : Int) = 32) = false := by rw [byte_eq (c := 32) (n := 32) rfl]; exact decide_eq_false h32
        have e1 := sub_drop l i
        have hdl : (l.drop i).length = l.length - i := List.length_drop
        have e2 := FFirst_eq (l := l.drop i) (by omega) (by omega)
        have hfl := firstP_le (l.drop i)
        by_cases h0 : (firstP (l.drop i)).2 = 0
        · have d3 : decide ((((firstP (l.drop i)).2 : Nat) : Int) = 0) = true := decide_eq_true (by omega)
          have e3 := splitV_no (hp.bad hb h32 h0)
          simp (decide := true) (maxDischargeDepth := 200) only [go_sem, d1, d2, d3, c2, c3, c3', c4, c5, e1, e2, e3, Tryd.results6]
        · have d3 : decide ((((firstP (l.drop i)).2 : Nat) : Int) = 0) = false := decide_eq_false (by omega)
          have c6 : bWrap .i64 ((i : Int) + (((firstP (l.drop i)).2 : Nat) : Int)) = ((i + (firstP (l.drop i)).2 : Nat) : Int) := by rw [bwrap_of (by unfold inR; omega)]; omega
          have c7 : (i : Int) ≤ ((i + (firstP (l.drop i)).2 : Nat) : Int) := by omega
          have c8 : ((i + (firstP (l.drop i)).2 : Nat) : Int) ≤ ((B l).size : Int) := by rw [B_size]; omega
          have e4 : subV (B l) (i : Int) ((i + (firstP (l.drop i)).2 : Nat) : Int) = B ((l.drop i).take (firstP (l.drop i)).2) := by rw [subV_B, List.drop_take, Nat.add_sub_cancel_left]
          have e5 := FTold_eq (l := l.drop i) (by omega) h0
          have hfew := hp.few
          have g1 := push_tok (a := a) (by omega)
          simp (decide := true) (maxDischargeDepth := 200) only [go_sem, d1, d2, d3, c2, c3, c3', c4, c5, c6, c7, c8, e1, e2, e4, e5, g1, Tryd.results6]
          refine ⟨⟨(i + (firstP (l.drop i)).2, a ++ [((firstP (l.drop i)).1, i, tellP (l.drop i))], f - 1), hp.tok hb h32 h0⟩, ?_, trivial, by simp only; omega⟩
          simp (decide := true) only [go_sem, tok_push, tok_some]
    · have d1 : decide ((i : Int) < ((B l).size : Int)) = false := decide_eq_false (by rw [B_size]; omega)
      have e3 := splitV_ok (hp.done h)
      simp (decide := true) (maxDischargeDepth := 200) only [go_sem, d1, e3, Tryd.results6]

end Go.Proofs.YtkomcgljekfheaaDoor
