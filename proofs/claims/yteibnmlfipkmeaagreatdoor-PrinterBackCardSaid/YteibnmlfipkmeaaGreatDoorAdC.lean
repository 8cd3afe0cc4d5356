/- How cells are read: package addr, as a function of plain data. -/
import Derived.Test.YteibnmlfipkmeaaGreatDoorAdB
import Derived.Test.YteibnmlfipkmeaaGreatDoorLCut
import Derived.Test.YteibnmlfipkmeaaGreatDoorLAtoi
import Derived.Test.YteibnmlfipkmeaaGreatDoorLClone
namespace Go.Proofs.YteibnmlfipkmeaaGreatDoor
open Go Go.RowKit
set_option linter.unusedSimpArgs false

theorem colW_snoc (l : List UInt8) (b : UInt8) : colW (l ++ [b]) = IntKind.i64.wrap (IntKind.i64.wrap (IntKind.i64.wrap (colW l * 26) + IntKind.i64.wrap (IntKind.u8.wrap ((b.toNat : Int) - 65))) + 1) := by simp [colW]
def FReadCol : List V → Option V
  | [.x (.string s)] => if s.size ≤ 1000000 then some (.x (.int .i64 (colW s.data.toList))) else none
  | _ => none
set_option maxRecDepth 100000 in
theorem readcol_fun : FunV 157 FReadCol := by
  refine fun_of_run (E := envOf []) (k := 1) (envOK_of _ trivial) (by kernel_rfl) Tryz.func157 rfl (fun a w => Tryz.call157 a w) Tryz.ntmps157 (by kernel_rfl) (by decide) (by decide) ?_
  intro us r hF hdat
  unfold FReadCol at hF
  split at hF
  case h_2 => cases hF
  rename_i s
  split at hF
  case isFalse => cases hF
  rename_i hs
  cases hF
  refine ⟨rfl, ?_⟩
  obtain ⟨l, rfl⟩ := B_of s
  rw [B_size] at hs
  simp (decide := true) (maxDischargeDepth := 200) only [go_sem, Tryz.results157]
  refine loop_of (X := {i : Nat // i ≤ l.length}) (fun i => [(0, .x (.string (B l))), (6, .x (.int .i64 ((B l).size : Int))), (7, .x (.int .i64 i.1)), (3, .x (.int .i64 (colW (l.take i.1))))]) (fun _ => []) (fun i => l.length - i.1) ⟨0, by omega⟩ (by simp (decide := true) only [go_sem]; exact ⟨rfl, rfl⟩) trivial (fun ⟨i, hi⟩ => ?_)
  by_cases h : i < l.length
  · obtain ⟨b, hb⟩ := get_of h
    have d0 : decide ((i : Int) < ((B l).size : Int)) = true := decide_eq_true (by rw [B_size]; omega)
    have c2 : (0 : Int) ≤ (i : Int) := by omega
    have c3 : (i : Int) < ((B l).size : Int) := by rw [B_size]; omega
    have c4 := count_up (i := i) (by omega)
    have c5 := byteV_B hb
    have c6 : bWrap .i64 (bWrap .i64 (bWrap .i64 (colW (l.take i) * 26) + bWrap .i64 (bWrap .u8 ((b.toNat : Int) - 65))) + 1) = colW (l.take (i + 1)) := by
      rw [take_snoc hb, colW_snoc]
      simp only [bWrap_eq]
    simp (decide := true) (maxDischargeDepth := 200) only [go_sem, d0, c2, c3, c4, c5, c6, Tryz.results157]
    refine ⟨⟨i + 1, by omega⟩, ?_, trivial, by simp only; omega⟩
    simp (decide := true) only [go_sem]
  · have d0 : decide ((i : Int) < ((B l).size : Int)) = false := decide_eq_false (by rw [B_size]; omega)
    have e : l.take i = l := List.take_of_length_le (by omega)
    have e2 : (B l).data.toList = l := rfl
    simp (decide := true) (maxDischargeDepth := 200) only [go_sem, d0, e, e2, Tryz.results157]


theorem tw_lt {l : List UInt8} {i : Nat} (h : i < (l.takeWhile gr).length) : ∃ b, l[i]? = some b ∧ gr b = true := by
  have hm : (l.takeWhile gr)[i]? = some (l.takeWhile gr)[i] := List.getElem?_eq_getElem h
  refine ⟨(l.takeWhile gr)[i], ?_, List.all_eq_true.1 (List.all_takeWhile (p := gr) (l := l)) _ (List.getElem_mem h)⟩
  have := List.takeWhile_append_dropWhile (p := gr) (l := l)
  conv => lhs; rw [← this]
  rw [List.getElem?_append_left h]
  exact hm
theorem tw_end (l : List UInt8) : (l.takeWhile gr).length = l.length ∨ ∃ b, l[(l.takeWhile gr).length]? = some b ∧ gr b = false := by
  induction l with
  | nil => left; rfl
  | cons a l ih =>
    cases h : gr a
    · right; exact ⟨a, by simp [h], h⟩
    · simp only [List.takeWhile_cons, h, if_true, List.length_cons]
      rcases ih with ih | ⟨b, hb, hb2⟩
      · left; omega
      · right; exact ⟨b, by simpa using hb, hb2⟩
theorem tw_le (l : List UInt8) : (l.takeWhile gr).length ≤ l.length := (List.takeWhile_prefix gr).length_le
theorem great_gr (b : UInt8) : greatI (b.toNat : Int) = gr b := by
  unfold greatI gr
  congr 1 <;> exact decide_eq_decide.2 (by omega)
theorem digit_dg (b : UInt8) : digitI (b.toNat : Int) = dg b := by
  unfold digitI dg
  congr 1 <;> exact decide_eq_decide.2 (by omega)
/-- What is read, as it is answered. -/
def ansV : Option (ByteArray × Int × Int) → V
  | some (s, c, r) => .tup [cl s c r, .x (.bool true)]
  | none => .tup [cl ⟨#[]⟩ 0 0, .x (.bool false)]
def FReadA : List V → Option V
  | [.x (.string s)] => if s.size ≤ 1000 then some (ansV (readA s)) else none
  | _ => none

theorem readA3_err {s sh : ByteArray} {l : List UInt8} (h : ∀ v, Lib.atoiAll (l.drop (l.takeWhile gr).length) = .ok v → False) : readA3 s sh (B l) = none := by
  unfold readA3
  simp only [show (B l).data.toList = l from rfl, sub_drop, show ∀ l : List UInt8, (B l).data.toList = l from fun _ => rfl]
theorem readA3_yes {s sh : ByteArray} {l : List UInt8} {row : Int} (h : Lib.atoiAll (l.drop (l.takeWhile gr).length) = .ok row) (hR : rightC sh (colW (l.take (l.takeWhile gr).length)) row = true) (hS : showC sh (colW (l.take (l.takeWhile gr).length)) row = s) :
    readA3 s sh (B l) = some (sh, colW (l.take (l.takeWhile gr).length), row) := by
  unfold readA3
  simp only [sub_drop, sub_take, show ∀ l : List UInt8, (B l).data.toList = l from fun _ => rfl, h]
  rw [if_pos ⟨hR, hS⟩]
theorem readA3_no {s sh : ByteArray} {l : List UInt8} {row : Int} (h : Lib.atoiAll (l.drop (l.takeWhile gr).length) = .ok row) (hn : ¬ (rightC sh (colW (l.take (l.takeWhile gr).length)) row = true ∧ showC sh (colW (l.take (l.takeWhile gr).length)) row = s)) :
    readA3 s sh (B l) = none := by
  unfold readA3
  simp only [sub_drop, sub_take, show ∀ l : List UInt8, (B l).data.toList = l from fun _ => rfl, h]
  rw [if_neg hn]

theorem readA3_err' {s sh : ByteArray} {l : List UInt8} {k : Nat} (hk : (l.takeWhile gr).length = k) (h : ∀ v, Lib.atoiAll (l.drop k) = .ok v → False) : readA3 s sh (B l) = none := by
  subst hk; exact readA3_err h
theorem readA3_yes' {s sh : ByteArray} {l : List UInt8} {k : Nat} (hk : (l.takeWhile gr).length = k) {row : Int} (h : Lib.atoiAll (l.drop k) = .ok row) (hR : rightC sh (colW (l.take k)) row = true) (hS : showC sh (colW (l.take k)) row = s) :
    readA3 s sh (B l) = some (sh, colW (l.take k), row) := by
  subst hk; exact readA3_yes h hR hS
theorem readA3_no' {s sh : ByteArray} {l : List UInt8} {k : Nat} (hk : (l.takeWhile gr).length = k) {row : Int} (h : Lib.atoiAll (l.drop k) = .ok row) (hn : ¬ (rightC sh (colW (l.take k)) row = true ∧ showC sh (colW (l.take k)) row = s)) :
    readA3 s sh (B l) = none := by
  subst hk; exact readA3_no h hn
set_option maxHeartbeats 4000000 in
set_option maxRecDepth 100000 in
theorem read_fun : FunV 149 FReadA := by
  refine fun_of_run (E := envOf [(65, FCut1), (155, FGreat), (156, FAtoi), (157, FReadCol), (62, FRightC), (34, FShow), (75, FClone)]) (k := 1) (envOK_of _ ⟨cut1_fun, great_fun, atoi_fun, readcol_fun, right_fun, show_fun, clone_fun, trivial⟩) (by kernel_rfl) Tryz.func149 rfl (fun a w => Tryz.call149 a w) Tryz.ntmps149 (by kernel_rfl) (by decide) (by decide) ?_
  intro us r hF hdat
  unfold FReadA at hF
  split at hF
  case h_2 => cases hF
  rename_i s
  split at hF
  case isFalse => cases hF
  rename_i hs
  cases hF
  refine ⟨rfl, ?_⟩
  have lim1 : s.size ≤ 9223372036854775806 := by omega
  by_cases h0 : 0 ≤ Lib.indexByte s.data.toList 33
  · obtain ⟨l, rfl⟩ := B_of s
    rcases first_at l 33 with ⟨_, hi⟩ | ⟨sh, pl, rfl, ha, hi⟩
    · rw [show (B l).data.toList = l from rfl, hi] at h0; omega
    · have hi' : Lib.indexByte (B (sh ++ 33 :: pl)).data.toList 33 = (sh.length : Int) := hi
      have e0 : readA (B (sh ++ 33 :: pl)) = readA3 (B (sh ++ 33 :: pl)) (B sh) (B pl) := by
        unfold readA
        rw [if_pos h0, hi', sub_l, sub_r]
      rw [hi'] at h0
      have q1 := sub_l sh pl
      have q2 := sub_r sh pl
      have hl : sh.length + 1 + pl.length ≤ 1000 := by rw [B_size] at hs; simp at hs; omega
      clear hi
      obtain ⟨k, hk⟩ : ∃ k, (pl.takeWhile gr).length = k := ⟨_, rfl⟩
      generalize hs0 : B (sh ++ 33 :: pl) = s at *
      simp (decide := true) (maxDischargeDepth := 200) only [go_sem, FCut1, lim1, hi', h0, q1, q2, Tryz.results149]
      refine loop_of (X := {i : Nat // i ≤ k}) (fun i => [(0, .x (.string s)), (2, .ptr 2 0), (3, .x (.bool false)), (4, .x (.string (B sh))), (5, .x (.string (B pl))), (7, .x (.int .i64 i.1))]) (fun _ => [(2, [.x (.string ⟨#[]⟩), .x (.int .i64 0), .x (.int .i64 0)])]) (fun i => k - i.1) ⟨0, by omega⟩ (by simp (decide := true) only [go_sem]; rfl) (by simp (decide := true) only [go_sem]) (fun ⟨i, hi⟩ => ?_)
      by_cases hik : i < k
      · obtain ⟨b, hb, hg⟩ := tw_lt (l := pl) (by rw [hk]; exact hik)
        have hil := (List.getElem?_eq_some_iff.1 hb).1
        have d0 : decide ((i : Int) < ((B pl).size : Int)) = true := decide_eq_true (by rw [B_size]; omega)
        have c2 : (0 : Int) ≤ (i : Int) := by omega
        have c3 : (i : Int) < ((B pl).size : Int) := by rw [B_size]; omega
        have c4 := count_up (i := i) (by omega)
        have c5 := byteV_B hb
        have c6 : greatI (b.toNat : Int) = true := by rw [great_gr]; exact hg
        simp (decide := true) (maxDischargeDepth := 200) only [go_sem, d0, c2, c3, c4, c5, c6, FGreat, Tryz.results149]
        refine ⟨⟨i + 1, by omega⟩, ?_, ?_, by simp only; omega⟩ <;> simp (decide := true) only [go_sem]
      · obtain rfl : i = k := by omega
        have lim2 : (B (pl.drop i)).size ≤ 281474976710656 := by rw [B_size]; simp; omega
        have lim3 : (B (pl.take i)).size ≤ 1000000 := by rw [B_size]; simp; omega
        have lim4 : (B sh).size ≤ 281474976710656 := by rw [B_size]; omega
        have hat' : (B (pl.drop i)).data.toList = pl.drop i := rfl
        have hpk : (B (pl.take i)).data.toList = pl.take i := rfl
        have c2 : (0 : Int) ≤ (i : Int) := by omega
        have c7 : (i : Int) ≤ ((B pl).size : Int) := by rw [B_size]; have := tw_le pl; omega
        have s1 := sub_drop pl i
        have s2 := sub_take pl i
        rcases tw_end pl with hz | ⟨b, hb, hg⟩
        · have d0 : decide ((i : Int) < ((B pl).size : Int)) = false := decide_eq_false (by rw [B_size]; omega)
          cases hat : Lib.atoiAll (pl.drop i) with
          | ok row =>
            by_cases hR : rightC (B sh) (colW (pl.take i)) row = true
            · by_cases hS : showC (B sh) (colW (pl.take i)) row = s
              · have e := e0.trans (readA3_yes' hk (l := pl) hat hR hS)
                have dS := decide_eq_true hS
                rw [e]
                simp (decide := true) (maxDischargeDepth := 200) only [go_sem, d0, c2, c7, s1, s2, FAtoi, lim2, hat', hat, FReadCol, lim3, hpk, FRightC, hR, FShow, dS, FClone, lim4, ansV, Tryz.results149]
              · have e := e0.trans (readA3_no' hk (l := pl) hat (fun h => hS h.2))
                have dS := decide_eq_false hS
                rw [e]
                simp (decide := true) (maxDischargeDepth := 200) only [go_sem, d0, c2, c7, s1, s2, FAtoi, lim2, hat', hat, FReadCol, lim3, hpk, FRightC, hR, FShow, dS, ansV, Tryz.results149]
            · have e := e0.trans (readA3_no' hk (l := pl) hat (fun h => hR h.1))
              have hR' : rightC (B sh) (colW (pl.take i)) row = false := by simpa using hR
              rw [e]
              simp (decide := true) (maxDischargeDepth := 200) only [go_sem, d0, c2, c7, s1, s2, FAtoi, lim2, hat', hat, FReadCol, lim3, hpk, FRightC, hR', ansV, Tryz.results149]
          | range =>
            have e := e0.trans (readA3_err' hk (s := s) (sh := B sh) (l := pl) (fun v hv => by rw [hat] at hv; cases hv))
            rw [e]
            simp (decide := true) (maxDischargeDepth := 200) only [go_sem, d0, c2, c7, s1, s2, FAtoi, lim2, hat', hat, ansV, Tryz.results149]
          | _ =>
            have e := e0.trans (readA3_err' hk (s := s) (sh := B sh) (l := pl) (fun v hv => by rw [hat] at hv; cases hv))
            rw [e]
            simp (decide := true) (maxDischargeDepth := 200) only [go_sem, d0, c2, c7, s1, s2, FAtoi, lim2, hat', hat, ansV, Tryz.results149]
        · rw [hk] at hb
          have hil := (List.getElem?_eq_some_iff.1 hb).1
          have d0 : decide ((i : Int) < ((B pl).size : Int)) = true := decide_eq_true (by rw [B_size]; omega)
          have c3 : (i : Int) < ((B pl).size : Int) := by rw [B_size]; omega
          have c5 := byteV_B hb
          have c6 : greatI (b.toNat : Int) = false := by rw [great_gr]; exact hg
          cases hat : Lib.atoiAll (pl.drop i) with
          | ok row =>
            by_cases hR : rightC (B sh) (colW (pl.take i)) row = true
            · by_cases hS : showC (B sh) (colW (pl.take i)) row = s
              · have e := e0.trans (readA3_yes' hk (l := pl) hat hR hS)
                have dS := decide_eq_true hS
                rw [e]
                simp (decide := true) (maxDischargeDepth := 200) only [go_sem, d0, c2, c3, c5, c6, FGreat, c7, s1, s2, FAtoi, lim2, hat', hat, FReadCol, lim3, hpk, FRightC, hR, FShow, dS, FClone, lim4, ansV, Tryz.results149]
              · have e := e0.trans (readA3_no' hk (l := pl) hat (fun h => hS h.2))
                have dS := decide_eq_false hS
                rw [e]
                simp (decide := true) (maxDischargeDepth := 200) only [go_sem, d0, c2, c3, c5, c6, FGreat, c7, s1, s2, FAtoi, lim2, hat', hat, FReadCol, lim3, hpk, FRightC, hR, FShow, dS, ansV, Tryz.results149]
            · have e := e0.trans (readA3_no' hk (l := pl) hat (fun h => hR h.1))
              have hR' : rightC (B sh) (colW (pl.take i)) row = false := by simpa using hR
              rw [e]
              simp (decide := true) (maxDischargeDepth := 200) only [go_sem, d0, c2, c3, c5, c6, FGreat, c7, s1, s2, FAtoi, lim2, hat', hat, FReadCol, lim3, hpk, FRightC, hR', ansV, Tryz.results149]
          | range =>
            have e := e0.trans (readA3_err' hk (s := s) (sh := B sh) (l := pl) (fun v hv => by rw [hat] at hv; cases hv))
            rw [e]
            simp (decide := true) (maxDischargeDepth := 200) only [go_sem, d0, c2, c3, c5, c6, FGreat, c7, s1, s2, FAtoi, lim2, hat', hat, ansV, Tryz.results149]
          | _ =>
            have e := e0.trans (readA3_err' hk (s := s) (sh := B sh) (l := pl) (fun v hv => by rw [hat] at hv; cases hv))
            rw [e]
            simp (decide := true) (maxDischargeDepth := 200) only [go_sem, d0, c2, c3, c5, c6, FGreat, c7, s1, s2, FAtoi, lim2, hat', hat, ansV, Tryz.results149]
  · have e0 : readA s = readA3 s s ⟨#[]⟩ := by
      unfold readA
      rw [if_neg h0]
    obtain ⟨sh, hsh⟩ := B_of s
    obtain ⟨pl, hpl⟩ : ∃ pl : List UInt8, pl = [] := ⟨_, rfl⟩
    have g0 : ({ data := #[] } : ByteArray) = B pl := by rw [hpl]; rfl
    have hl : sh.length + 1 + pl.length ≤ 1001 := by rw [hsh, B_size] at hs; rw [hpl]; simp; omega
    obtain ⟨k, hk⟩ : ∃ k, (pl.takeWhile gr).length = k := ⟨_, rfl⟩
    rw [g0, show readA3 s s (B pl) = readA3 s (B sh) (B pl) from by rw [hsh]] at e0
    have e1 : readA3 s s (B pl) = readA3 s (B sh) (B pl) := by rw [hsh]
    have f0 : FCut1 [.x (.string s), .x (.string ⟨⟨[33]⟩⟩)] = some (.tup [.x (.string (B sh)), .x (.string (B pl)), .x (.bool false)]) := by
      simp only [FCut1]
      rw [if_pos lim1, if_neg h0, g0, ← hsh]
    simp (decide := true) (maxDischargeDepth := 200) only [go_sem, f0, Tryz.results149]
    refine loop_of (X := {i : Nat // i ≤ k}) (fun i => [(0, .x (.string s)), (2, .ptr 2 0), (3, .x (.bool false)), (4, .x (.string (B sh))), (5, .x (.string (B pl))), (7, .x (.int .i64 i.1))]) (fun _ => [(2, [.x (.string ⟨#[]⟩), .x (.int .i64 0), .x (.int .i64 0)])]) (fun i => k - i.1) ⟨0, by omega⟩ (by simp (decide := true) only [go_sem]; rfl) (by simp (decide := true) only [go_sem]) (fun ⟨i, hi⟩ => ?_)
    by_cases hik : i < k
    · obtain ⟨b, hb, hg⟩ := tw_lt (l := pl) (by rw [hk]; exact hik)
      have hil := (List.getElem?_eq_some_iff.1 hb).1
      have d0 : decide ((i : Int) < ((B pl).size : Int)) = true := decide_eq_true (by rw [B_size]; omega)
      have c2 : (0 : Int) ≤ (i : Int) := by omega
      have c3 : (i : Int) < ((B pl).size : Int) := by rw [B_size]; omega
      have c4 := count_up (i := i) (by omega)
      have c5 := byteV_B hb
      have c6 : greatI (b.toNat : Int) = true := by rw [great_gr]; exact hg
      simp (decide := true) (maxDischargeDepth := 200) only [go_sem, d0, c2, c3, c4, c5, c6, FGreat, Tryz.results149]
      refine ⟨⟨i + 1, by omega⟩, ?_, ?_, by simp only; omega⟩ <;> simp (decide := true) only [go_sem]
    · obtain rfl : i = k := by omega
      have lim2 : (B (pl.drop i)).size ≤ 281474976710656 := by rw [B_size]; simp; omega
      have lim3 : (B (pl.take i)).size ≤ 1000000 := by rw [B_size]; simp; omega
      have lim4 : (B sh).size ≤ 281474976710656 := by rw [B_size]; omega
      have hat' : (B (pl.drop i)).data.toList = pl.drop i := rfl
      have hpk : (B (pl.take i)).data.toList = pl.take i := rfl
      have c2 : (0 : Int) ≤ (i : Int) := by omega
      have c7 : (i : Int) ≤ ((B pl).size : Int) := by rw [B_size]; have := tw_le pl; omega
      have s1 := sub_drop pl i
      have s2 := sub_take pl i
      rcases tw_end pl with hz | ⟨b, hb, hg⟩
      · have d0 : decide ((i : Int) < ((B pl).size : Int)) = false := decide_eq_false (by rw [B_size]; omega)
        cases hat : Lib.atoiAll (pl.drop i) with
        | ok row =>
          by_cases hR : rightC (B sh) (colW (pl.take i)) row = true
          · by_cases hS : showC (B sh) (colW (pl.take i)) row = s
            · have e := e0.trans (readA3_yes' hk (l := pl) hat hR hS)
              have dS := decide_eq_true hS
              rw [e]
              simp (decide := true) (maxDischargeDepth := 200) only [go_sem, d0, c2, c7, s1, s2, FAtoi, lim2, hat', hat, FReadCol, lim3, hpk, FRightC, hR, FShow, dS, FClone, lim4, ansV, Tryz.results149]
            · have e := e0.trans (readA3_no' hk (l := pl) hat (fun h => hS h.2))
              have dS := decide_eq_false hS
              rw [e]
              simp (decide := true) (maxDischargeDepth := 200) only [go_sem, d0, c2, c7, s1, s2, FAtoi, lim2, hat', hat, FReadCol, lim3, hpk, FRightC, hR, FShow, dS, ansV, Tryz.results149]
          · have e := e0.trans (readA3_no' hk (l := pl) hat (fun h => hR h.1))
            have hR' : rightC (B sh) (colW (pl.take i)) row = false := by simpa using hR
            rw [e]
            simp (decide := true) (maxDischargeDepth := 200) only [go_sem, d0, c2, c7, s1, s2, FAtoi, lim2, hat', hat, FReadCol, lim3, hpk, FRightC, hR', ansV, Tryz.results149]
        | range =>
          have e := e0.trans (readA3_err' hk (s := s) (sh := B sh) (l := pl) (fun v hv => by rw [hat] at hv; cases hv))
          rw [e]
          simp (decide := true) (maxDischargeDepth := 200) only [go_sem, d0, c2, c7, s1, s2, FAtoi, lim2, hat', hat, ansV, Tryz.results149]
        | _ =>
          have e := e0.trans (readA3_err' hk (s := s) (sh := B sh) (l := pl) (fun v hv => by rw [hat] at hv; cases hv))
          rw [e]
          simp (decide := true) (maxDischargeDepth := 200) only [go_sem, d0, c2, c7, s1, s2, FAtoi, lim2, hat', hat, ansV, Tryz.results149]
      · rw [hk] at hb
        have hil := (List.getElem?_eq_some_iff.1 hb).1
        have d0 : decide ((i : Int) < ((B pl).size : Int)) = true := decide_eq_true (by rw [B_size]; omega)
        have c3 : (i : Int) < ((B pl).size : Int) := by rw [B_size]; omega
        have c5 := byteV_B hb
        have c6 : greatI (b.toNat : Int) = false := by rw [great_gr]; exact hg
        cases hat : Lib.atoiAll (pl.drop i) with
        | ok row =>
          by_cases hR : rightC (B sh) (colW (pl.take i)) row = true
          · by_cases hS : showC (B sh) (colW (pl.take i)) row = s
            · have e := e0.trans (readA3_yes' hk (l := pl) hat hR hS)
              have dS := decide_eq_true hS
              rw [e]
              simp (decide := true) (maxDischargeDepth := 200) only [go_sem, d0, c2, c3, c5, c6, FGreat, c7, s1, s2, FAtoi, lim2, hat', hat, FReadCol, lim3, hpk, FRightC, hR, FShow, dS, FClone, lim4, ansV, Tryz.results149]
            · have e := e0.trans (readA3_no' hk (l := pl) hat (fun h => hS h.2))
              have dS := decide_eq_false hS
              rw [e]
              simp (decide := true) (maxDischargeDepth := 200) only [go_sem, d0, c2, c3, c5, c6, FGreat, c7, s1, s2, FAtoi, lim2, hat', hat, FReadCol, lim3, hpk, FRightC, hR, FShow, dS, ansV, Tryz.results149]
          · have e := e0.trans (readA3_no' hk (l := pl) hat (fun h => hR h.1))
            have hR' : rightC (B sh) (colW (pl.take i)) row = false := by simpa using hR
            rw [e]
            simp (decide := true) (maxDischargeDepth := 200) only [go_sem, d0, c2, c3, c5, c6, FGreat, c7, s1, s2, FAtoi, lim2, hat', hat, FReadCol, lim3, hpk, FRightC, hR', ansV, Tryz.results149]
        | range =>
          have e := e0.trans (readA3_err' hk (s := s) (sh := B sh) (l := pl) (fun v hv => by rw [hat] at hv; cases hv))
          rw [e]
          simp (decide := true) (maxDischargeDepth := 200) only [go_sem, d0, c2, c3, c5, c6, FGreat, c7, s1, s2, FAtoi, lim2, hat', hat, ansV, Tryz.results149]
        | _ =>
          have e := e0.trans (readA3_err' hk (s := s) (sh := B sh) (l := pl) (fun v hv => by rw [hat] at hv; cases hv))
          rw [e]
          simp (decide := true) (maxDischargeDepth := 200) only [go_sem, d0, c2, c3, c5, c6, FGreat, c7, s1, s2, FAtoi, lim2, hat', hat, ansV, Tryz.results149]


end Go.Proofs.YteibnmlfipkmeaaGreatDoor
