/- How cells are read: the reference, as a function of plain data. -/
import Derived.Test.YteibnmlfipkmeaaGreatDoorAdC
namespace Go.Proofs.YteibnmlfipkmeaaGreatDoor
open Go Go.RowKit
set_option linter.unusedSimpArgs false

theorem colN_snoc (l : List UInt8) (b : UInt8) : colN (l ++ [b]) = 26 * colN l + (b.toNat - 64) := by simp [colN]
theorem rowN_snoc (l : List UInt8) (b : UInt8) : rowN (l ++ [b]) = 10 * rowN l + (b.toNat - 48) := by simp [rowN]
theorem colN_small {g : List UInt8} (hg : g.all gr = true) (hl : g.length ≤ 2) : colN g ≤ 702 := by
  have hb : ∀ x ∈ g, 65 ≤ x.toNat ∧ x.toNat ≤ 90 := fun x hx => by
    have := List.all_eq_true.1 hg x hx
    simpa [gr] using this
  match g, hl with
  | [], _ => simp [colN]
  | [a], _ => have := hb a (by simp); simp [colN]; omega
  | [a, b], _ => have := hb a (by simp); have := hb b (by simp); simp [colN]; omega
theorem rowN_small {g : List UInt8} (hg : g.all dg = true) (hl : g.length ≤ 2) : rowN g ≤ 99 := by
  have hb : ∀ x ∈ g, 48 ≤ x.toNat ∧ x.toNat ≤ 57 := fun x hx => by
    have := List.all_eq_true.1 hg x hx
    simpa [dg] using this
  match g, hl with
  | [], _ => simp [rowN]
  | [a], _ => have := hb a (by simp); simp [rowN]; omega
  | [a, b], _ => have := hb a (by simp); have := hb b (by simp); simp [rowN]; omega
theorem u8_sub {b c : Nat} (h : c ≤ b) (hb : b < 256) : bWrap .u8 ((b : Int) - (c : Int)) = ((b - c : Nat) : Int) := by
  rw [bWrap_eq]
  have : ((b : Int) - (c : Int)) = ((b - c : Nat) : Int) := by omega
  rw [this]
  simp only [IntKind.wrap, IntKind.bits, IntKind.signed]
  simp
  omega
theorem col_step {l : List UInt8} {b : UInt8} (hc : colN l ≤ 702) (hb : gr b = true) :
    bWrap .i64 (bWrap .i64 (bWrap .i64 (26 * (colN l : Int)) + bWrap .i64 (bWrap .u8 ((b.toNat : Int) - 65))) + 1) = ((colN (l ++ [b]) : Nat) : Int) := by
  have h : 65 ≤ b.toNat ∧ b.toNat ≤ 90 := by simpa [gr] using hb
  have hu := u8_sub (b := b.toNat) (c := 65) h.1 (by omega)
  rw [show ((b.toNat : Int) - 65) = ((b.toNat : Int) - ((65 : Nat) : Int)) from rfl, hu, colN_snoc]
  rw [bwrap_of (x := 26 * (colN l : Int)) (by unfold inR; omega), bwrap_of (x := ((b.toNat - 65 : Nat) : Int)) (by unfold inR; omega), bwrap_of (x := 26 * (colN l : Int) + ((b.toNat - 65 : Nat) : Int)) (by unfold inR; omega), bwrap_of (by unfold inR; omega)]
  omega
theorem row_step {l : List UInt8} {b : UInt8} (hc : rowN l ≤ 99) (hb : dg b = true) :
    bWrap .i64 (bWrap .i64 (10 * (rowN l : Int)) + bWrap .i64 (bWrap .u8 ((b.toNat : Int) - 48))) = ((rowN (l ++ [b]) : Nat) : Int) := by
  have h : 48 ≤ b.toNat ∧ b.toNat ≤ 57 := by simpa [dg] using hb
  have hu := u8_sub (b := b.toNat) (c := 48) h.1 (by omega)
  rw [show ((b.toNat : Int) - 48) = ((b.toNat : Int) - ((48 : Nat) : Int)) from rfl, hu, rowN_snoc]
  rw [bwrap_of (x := 10 * (rowN l : Int)) (by unfold inR; omega), bwrap_of (x := ((b.toNat - 48 : Nat) : Int)) (by unfold inR; omega), bwrap_of (by unfold inR; omega)]
  omega
theorem tw3_lt {l : List UInt8} {i : Nat} (h : i < ((l.take 3).takeWhile gr).length) : i < 3 ∧ ∃ b, l[i]? = some b ∧ gr b = true := by
  obtain ⟨b, hb, hg⟩ := tw_lt h
  rw [List.getElem?_take] at hb
  split at hb
  · rename_i h3; exact ⟨h3, b, hb, hg⟩
  · cases hb
/-- Where the letters end. -/
theorem tw3_end (l : List UInt8) : ((l.take 3).takeWhile gr).length = l.length ∨ (((l.take 3).takeWhile gr).length < l.length ∧ ((l.take 3).takeWhile gr).length = 3) ∨ (((l.take 3).takeWhile gr).length < 3 ∧ ∃ b, l[((l.take 3).takeWhile gr).length]? = some b ∧ gr b = false) := by
  have h3 := tw_le (l.take 3)
  simp only [List.length_take] at h3
  rcases tw_end (l.take 3) with h | ⟨b, hb, hg⟩
  · simp only [List.length_take] at h
    omega
  · rw [List.getElem?_take] at hb
    split at hb
    · rename_i hlt
      exact .inr (.inr ⟨hlt, b, hb, hg⟩)
    · cases hb
theorem tw3_le (l : List UInt8) : ((l.take 3).takeWhile gr).length ≤ 3 ∧ ((l.take 3).takeWhile gr).length ≤ l.length := by
  have h3 := tw_le (l.take 3)
  simp only [List.length_take] at h3
  omega
theorem tw3_gr (l : List UInt8) : (l.take ((l.take 3).takeWhile gr).length).all gr = true := by
  have h : l.take ((l.take 3).takeWhile gr).length = (l.take 3).takeWhile gr := by
    obtain ⟨y, hy⟩ : ∃ y, l.take 3 = (l.take 3).takeWhile gr ++ y := ⟨_, (List.takeWhile_append_dropWhile (p := gr) (l := l.take 3)).symm⟩
    generalize hg : (l.take 3).takeWhile gr = g at hy
    have hl : g.length ≤ 3 := by rw [← hg]; exact (tw3_le l).1
    have h1 : (l.take 3).take g.length = g := by rw [hy]; simp
    rwa [List.take_take, Nat.min_eq_left hl] at h1
  rw [h]
  exact List.all_takeWhile
theorem all_take {p : UInt8 → Bool} {l : List UInt8} {k i : Nat} (h : (l.take k).all p = true) (hi : i ≤ k) : (l.take i).all p = true := by
  rw [List.all_eq_true] at *
  intro x hx
  refine h x ?_
  have : l.take i = (l.take k).take i := by rw [List.take_take, Nat.min_eq_left hi]
  rw [this] at hx
  exact List.mem_of_mem_take hx
theorem placeR_1 {l : List UInt8} {k : Nat} {sh : ByteArray} (hk : ((l.take 3).takeWhile gr).length = k) (h : k = l.length ∨ l.length - k > 3 ∨ l[k]? = some 48) : placeR (B l) sh = none := by
  subst hk
  unfold placeR
  simp only [show (B l).data.toList = l from rfl]
  rw [if_pos h]
theorem placeR_2 {l : List UInt8} {k : Nat} {sh : ByteArray} (hk : ((l.take 3).takeWhile gr).length = k) (h : ¬ (k = l.length ∨ l.length - k > 3 ∨ l[k]? = some 48)) (hd : (l.drop k).all dg = false) : placeR (B l) sh = none := by
  subst hk
  unfold placeR
  simp only [show (B l).data.toList = l from rfl]
  rw [if_neg h, if_pos hd]
theorem placeR_3 {l : List UInt8} {k : Nat} {sh : ByteArray} (hk : ((l.take 3).takeWhile gr).length = k) (h : ¬ (k = l.length ∨ l.length - k > 3 ∨ l[k]? = some 48)) (hd : (l.drop k).all dg = true) :
    placeR (B l) sh = if rightC sh (colN (l.take k)) (rowN (l.drop k)) then some (sh, (colN (l.take k) : Int), (rowN (l.drop k) : Int)) else none := by
  subst hk
  unfold placeR
  simp only [show (B l).data.toList = l from rfl]
  rw [if_neg h, if_neg (by simp [hd])]
def FPlaceR : List V → Option V
  | [.x (.string pl), .x (.string sh)] => if pl.size ≤ 1000 then some (ansV (placeR pl sh)) else none
  | _ => none
set_option maxHeartbeats 4000000 in
set_option maxRecDepth 100000 in
theorem rplaceR_fun : FunV 110 FPlaceR := by
  refine fun_of_run (E := envOf [(53, FGreat), (23, FDigit), (43, FRightC)]) (k := 2) (envOK_of _ ⟨rgreat_fun, rdigit_fun, rright_fun, trivial⟩) (by kernel_rfl) Tryz.func110 rfl (fun a w => Tryz.call110 a w) Tryz.ntmps110 (by kernel_rfl) (by decide) (by decide) ?_
  intro us r hF hdat
  unfold FPlaceR at hF
  split at hF
  case h_2 => cases hF
  rename_i pl sh
  split at hF
  case isFalse => cases hF
  rename_i hs
  cases hF
  refine ⟨rfl, ?_⟩
  obtain ⟨l, rfl⟩ := B_of pl
  rw [B_size] at hs
  have hsz : (((B l).size : Nat) : Int) = (l.length : Int) := rfl
  obtain ⟨k, hk⟩ : ∃ k, ((l.take 3).takeWhile gr).length = k := ⟨_, rfl⟩
  have hgr := tw3_gr l
  have hle := tw3_le l
  rw [hk] at hgr hle
  simp (decide := true) (maxDischargeDepth := 200) only [go_sem, Tryz.results110]
  refine loop_of (X := {i : Nat // i ≤ k}) (fun i => [(0, .x (.string (B l))), (4, .ptr 4 0), (5, .x (.bool false)), (6, .ptr 6 0), (7, .x (.int .i64 i.1))]) (fun i => [(4, [.x (.string ⟨#[]⟩), .x (.int .i64 0), .x (.int .i64 0)]), (6, [.x (.string sh), .x (.int .i64 (colN (l.take i.1))), .x (.int .i64 0)])]) (fun i => k - i.1) ⟨0, by omega⟩ (by simp (decide := true) only [go_sem]; rfl) (by simp (decide := true) only [go_sem]; simp [colN]) (fun ⟨i, hi⟩ => ?_)
  by_cases hik : i < k
  · obtain ⟨hi3, b, hb, hg⟩ := tw3_lt (l := l) (by rw [hk]; exact hik)
    have hil := (List.getElem?_eq_some_iff.1 hb).1
    have d0 : decide ((i : Int) < (l.length : Int)) = true := decide_eq_true (by omega)
    have d1 : decide ((i : Int) < 3) = true := decide_eq_true (by omega)
    have c2 : (0 : Int) ≤ (i : Int) := by omega
    have c3 : (i : Int) < (l.length : Int) := by omega
    have c4 := count_up (i := i) (by omega)
    have c5 := byteV_B hb
    have c6 : greatI (b.toNat : Int) = true := by rw [great_gr]; exact hg
    have c7 := col_step (l := l.take i) (b := b) (colN_small (all_take hgr (by omega)) (by simp; omega)) hg
    rw [← take_snoc hb] at c7
    simp (decide := true) (maxDischargeDepth := 200) only [go_sem, hsz, d0, d1, c2, c3, c4, c5, c6, c7, FGreat, Tryz.results110]
    refine ⟨⟨i + 1, by omega⟩, ?_, ?_, by simp only; omega⟩ <;> simp (decide := true) only [go_sem]
  · obtain rfl : i = k := by omega
    have c2 : (0 : Int) ≤ (i : Int) := by omega
    have hend := tw3_end l
    rw [hk] at hend
    rcases hend with hz | ⟨hlt, hz⟩ | ⟨hlt, b0, hb0, hg0⟩
    · have d0 : decide ((i : Int) < (l.length : Int)) = false := decide_eq_false (by omega)
      have d3 : decide ((i : Int) = (l.length : Int)) = true := decide_eq_true (by omega)
      have e := placeR_1 (sh := sh) hk (.inl hz)
      rw [e]
      simp (decide := true) (maxDischargeDepth := 200) only [go_sem, hsz, d0, d3, ansV, Tryz.results110]
    · have d0 : decide ((i : Int) < (l.length : Int)) = true := decide_eq_true (by omega)
      have d1 : decide ((i : Int) < 3) = false := decide_eq_false (by omega)
      have d3 : decide ((i : Int) = (l.length : Int)) = false := decide_eq_false (by omega)
      have b4 : bWrap .i64 ((l.length : Int) - (i : Int)) = (l.length : Int) - (i : Int) := bwrap_of (by unfold inR; omega)
      obtain ⟨b0, hb0⟩ := get_of hlt
      have c3 : (i : Int) < (l.length : Int) := by omega
      have c5 := byteV_B hb0
      by_cases h3 : l.length - i > 3
      · have e := placeR_1 (sh := sh) hk (.inr (.inl h3))
        have d4 : decide ((3 : Int) < ((l.length : Int) - (i : Int))) = true := decide_eq_true (by omega)
        rw [e]
        simp (decide := true) (maxDischargeDepth := 200) only [go_sem, hsz, d0, d1, d3, d4, b4, ansV, Tryz.results110]
      · have d4 : decide ((3 : Int) < ((l.length : Int) - (i : Int))) = false := decide_eq_false (by omega)
        by_cases h48 : b0 = 48
        · have e := placeR_1 (sh := sh) hk (.inr (.inr (by rw [hb0, h48])))
          have d5 : decide ((b0.toNat : Int) = 48) = true := by rw [h48]; rfl
          rw [e]
          simp (decide := true) (maxDischargeDepth := 200) only [go_sem, hsz, d0, d1, d3, d4, b4, d5, c2, c3, c5, ansV, Tryz.results110]
        · have d5 : decide ((b0.toNat : Int) = 48) = false := decide_eq_false (fun hh => h48 (UInt8.toNat_inj.1 (by have : ((48 : UInt8)).toNat = 48 := rfl; omega)))
          have hn : ¬ (i = l.length ∨ l.length - i > 3 ∨ l[i]? = some 48) := by
            rintro (hh | hh | hh)
            · omega
            · omega
            · rw [hb0] at hh; exact h48 (Option.some.inj hh)
          simp (decide := true) (maxDischargeDepth := 200) only [go_sem, hsz, d0, d1, d3, d4, b4, d5, c2, c3, c5, Tryz.results110]
          refine loop_of (X := {j : Nat // i ≤ j ∧ j ≤ l.length ∧ ((l.drop i).take (j - i)).all dg = true}) (fun j => [(0, .x (.string (B l))), (4, .ptr 4 0), (5, .x (.bool false)), (6, .ptr 6 0), (7, .x (.int .i64 j.1))]) (fun j => [(4, [.x (.string ⟨#[]⟩), .x (.int .i64 0), .x (.int .i64 0)]), (6, [.x (.string sh), .x (.int .i64 (colN (l.take i))), .x (.int .i64 (rowN ((l.drop i).take (j.1 - i))))])]) (fun j => l.length - j.1) ⟨i, by omega, by omega, by simp⟩ (by simp (decide := true) only [go_sem]) (by simp (decide := true) only [go_sem]; simp [rowN]) (fun ⟨j, hj1, hj2, hjd⟩ => ?_)
          by_cases hjl : j < l.length
          · obtain ⟨b, hb⟩ := get_of hjl
            have hbd : (l.drop i)[j - i]? = some b := by rw [List.getElem?_drop]; rw [show i + (j - i) = j from by omega]; exact hb
            have e0 : decide ((j : Int) < (l.length : Int)) = true := decide_eq_true (by omega)
            have e2 : (0 : Int) ≤ (j : Int) := by omega
            have e3 : (j : Int) < (l.length : Int) := by omega
            have e4 := count_up (i := j) (by omega)
            have e5 := byteV_B hb
            cases hdg : dg b
            · have e6 : digitI (b.toNat : Int) = false := by rw [digit_dg]; exact hdg
              have e := placeR_2 (sh := sh) hk hn (by
                rw [List.all_eq_false]; exact ⟨b, List.mem_of_getElem? hbd, by simp [hdg]⟩)
              rw [e]
              simp (decide := true) (maxDischargeDepth := 200) only [go_sem, hsz, e0, e2, e3, e4, e5, e6, FDigit, ansV, Tryz.results110]
            · have e6 : digitI (b.toNat : Int) = true := by rw [digit_dg]; exact hdg
              have e7 := row_step (l := (l.drop i).take (j - i)) (b := b) (rowN_small hjd (by simp; omega)) hdg
              rw [← take_snoc hbd] at e7
              simp (decide := true) (maxDischargeDepth := 200) only [go_sem, hsz, e0, e2, e3, e4, e5, e6, e7, FDigit, Tryz.results110]
              refine ⟨⟨j + 1, by omega, by omega, ?_⟩, ?_, ?_, by simp only; omega⟩
              · rw [show j + 1 - i = j - i + 1 from by omega, take_snoc hbd, List.all_append, hjd]; simp [hdg]
              · simp (decide := true) only [go_sem]
              · simp (decide := true) only [go_sem]; rw [show j + 1 - i = j - i + 1 from by omega]
          · have e0 : decide ((j : Int) < (l.length : Int)) = false := decide_eq_false (by omega)
            have hall : (l.drop i).take (j - i) = l.drop i := List.take_of_length_le (by simp; omega)
            rw [hall] at hjd
            have e := placeR_3 (sh := sh) hk hn hjd
            cases hR : rightC sh (colN (l.take i)) (rowN (l.drop i))
            · rw [e, hR]
              simp (decide := true) (maxDischargeDepth := 200) only [go_sem, hsz, e0, hall, FRightC, hR, ansV, Tryz.results110]
            · rw [e, hR]
              simp (decide := true) (maxDischargeDepth := 200) only [go_sem, hsz, e0, hall, FRightC, hR, ansV, Tryz.results110]
    · have hil := (List.getElem?_eq_some_iff.1 hb0).1
      have d0 : decide ((i : Int) < (l.length : Int)) = true := decide_eq_true (by omega)
      have d1 : decide ((i : Int) < 3) = true := decide_eq_true (by omega)
      have d3 : decide ((i : Int) = (l.length : Int)) = false := decide_eq_false (by omega)
      have b4 : bWrap .i64 ((l.length : Int) - (i : Int)) = (l.length : Int) - (i : Int) := bwrap_of (by unfold inR; omega)
      have c3 : (i : Int) < (l.length : Int) := by omega
      have c5 := byteV_B hb0
      have c6 : greatI (b0.toNat : Int) = false := by rw [great_gr]; exact hg0
      by_cases h3 : l.length - i > 3
      · have e := placeR_1 (sh := sh) hk (.inr (.inl h3))
        have d4 : decide ((3 : Int) < ((l.length : Int) - (i : Int))) = true := decide_eq_true (by omega)
        rw [e]
        simp (decide := true) (maxDischargeDepth := 200) only [go_sem, hsz, d0, d1, c2, c3, c5, c6, FGreat, d3, d4, b4, ansV, Tryz.results110]
      · have d4 : decide ((3 : Int) < ((l.length : Int) - (i : Int))) = false := decide_eq_false (by omega)
        by_cases h48 : b0 = 48
        · have e := placeR_1 (sh := sh) hk (.inr (.inr (by rw [hb0, h48])))
          have d5 : decide ((b0.toNat : Int) = 48) = true := by rw [h48]; rfl
          rw [e]
          simp (decide := true) (maxDischargeDepth := 200) only [go_sem, hsz, d0, d1, c2, c3, c5, c6, FGreat, d3, d4, b4, d5, c2, c3, c5, ansV, Tryz.results110]
        · have d5 : decide ((b0.toNat : Int) = 48) = false := decide_eq_false (fun hh => h48 (UInt8.toNat_inj.1 (by have : ((48 : UInt8)).toNat = 48 := rfl; omega)))
          have hn : ¬ (i = l.length ∨ l.length - i > 3 ∨ l[i]? = some 48) := by
            rintro (hh | hh | hh)
            · omega
            · omega
            · rw [hb0] at hh; exact h48 (Option.some.inj hh)
          simp (decide := true) (maxDischargeDepth := 200) only [go_sem, hsz, d0, d1, c2, c3, c5, c6, FGreat, d3, d4, b4, d5, c2, c3, c5, Tryz.results110]
          refine loop_of (X := {j : Nat // i ≤ j ∧ j ≤ l.length ∧ ((l.drop i).take (j - i)).all dg = true}) (fun j => [(0, .x (.string (B l))), (4, .ptr 4 0), (5, .x (.bool false)), (6, .ptr 6 0), (7, .x (.int .i64 j.1))]) (fun j => [(4, [.x (.string ⟨#[]⟩), .x (.int .i64 0), .x (.int .i64 0)]), (6, [.x (.string sh), .x (.int .i64 (colN (l.take i))), .x (.int .i64 (rowN ((l.drop i).take (j.1 - i))))])]) (fun j => l.length - j.1) ⟨i, by omega, by omega, by simp⟩ (by simp (decide := true) only [go_sem]) (by simp (decide := true) only [go_sem]; simp [rowN]) (fun ⟨j, hj1, hj2, hjd⟩ => ?_)
          by_cases hjl : j < l.length
          · obtain ⟨b, hb⟩ := get_of hjl
            have hbd : (l.drop i)[j - i]? = some b := by rw [List.getElem?_drop]; rw [show i + (j - i) = j from by omega]; exact hb
            have e0 : decide ((j : Int) < (l.length : Int)) = true := decide_eq_true (by omega)
            have e2 : (0 : Int) ≤ (j : Int) := by omega
            have e3 : (j : Int) < (l.length : Int) := by omega
            have e4 := count_up (i := j) (by omega)
            have e5 := byteV_B hb
            cases hdg : dg b
            · have e6 : digitI (b.toNat : Int) = false := by rw [digit_dg]; exact hdg
              have e := placeR_2 (sh := sh) hk hn (by
                rw [List.all_eq_false]; exact ⟨b, List.mem_of_getElem? hbd, by simp [hdg]⟩)
              rw [e]
              simp (decide := true) (maxDischargeDepth := 200) only [go_sem, hsz, e0, e2, e3, e4, e5, e6, FDigit, ansV, Tryz.results110]
            · have e6 : digitI (b.toNat : Int) = true := by rw [digit_dg]; exact hdg
              have e7 := row_step (l := (l.drop i).take (j - i)) (b := b) (rowN_small hjd (by simp; omega)) hdg
              rw [← take_snoc hbd] at e7
              simp (decide := true) (maxDischargeDepth := 200) only [go_sem, hsz, e0, e2, e3, e4, e5, e6, e7, FDigit, Tryz.results110]
              refine ⟨⟨j + 1, by omega, by omega, ?_⟩, ?_, ?_, by simp only; omega⟩
              · rw [show j + 1 - i = j - i + 1 from by omega, take_snoc hbd, List.all_append, hjd]; simp [hdg]
              · simp (decide := true) only [go_sem]
              · simp (decide := true) only [go_sem]; rw [show j + 1 - i = j - i + 1 from by omega]
          · have e0 : decide ((j : Int) < (l.length : Int)) = false := decide_eq_false (by omega)
            have hall : (l.drop i).take (j - i) = l.drop i := List.take_of_length_le (by simp; omega)
            rw [hall] at hjd
            have e := placeR_3 (sh := sh) hk hn hjd
            cases hR : rightC sh (colN (l.take i)) (rowN (l.drop i))
            · rw [e, hR]
              simp (decide := true) (maxDischargeDepth := 200) only [go_sem, hsz, e0, hall, FRightC, hR, ansV, Tryz.results110]
            · rw [e, hR]
              simp (decide := true) (maxDischargeDepth := 200) only [go_sem, hsz, e0, hall, FRightC, hR, ansV, Tryz.results110]


end Go.Proofs.YteibnmlfipkmeaaGreatDoor
