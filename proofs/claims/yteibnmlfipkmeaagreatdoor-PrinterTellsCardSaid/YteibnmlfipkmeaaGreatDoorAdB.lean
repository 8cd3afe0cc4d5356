/- Which cells may be, and how they are written: package addr and the reference, as functions of plain data. -/
import Derived.Test.YteibnmlfipkmeaaGreatDoorAdP
import Derived.Test.YteibnmlfipkmeaaGreatDoorAdR
import Derived.Test.YteibnmlfipkmeaaGreatDoorLItoa
import Derived.Test.YteibnmlfipkmeaaGreatDoorLDec
namespace Go.Proofs.YteibnmlfipkmeaaGreatDoor
open Go Go.RowKit
set_option linter.unusedSimpArgs false

theorem colP_step {k : Nat} (h0 : 0 < k) (h : k ≤ 702) : colP ((k - 1) / 26) ++ [UInt8.ofNat (65 + (k - 1) % 26)] = colP k := by
  unfold colP
  by_cases h26 : k ≤ 26
  · have e1 : (k - 1) / 26 = 0 := by omega
    have e2 : 65 + (k - 1) % 26 = 64 + k := by omega
    rw [e1, e2]
    simp [h26]
    omega
  · rw [if_neg (by omega), if_pos (by omega), if_neg (by omega), if_neg h26]
    rfl
theorem rune_wrap {m : Nat} (h : m < 26) : bWrap .i32 (((65 + m : Nat)) : Int) = ((65 + m : Nat) : Int) := by
  rw [bWrap_eq]
  have : ((List.range 26).all fun m => decide (IntKind.i32.wrap ((65 + m : Nat) : Int) = ((65 + m : Nat) : Int))) = true := by decide
  exact of_decide_eq_true (all_lt this h)
theorem rune_text {m : Nat} (h : m < 26) : Utf8.encode ((65 + m : Nat) : Int) = B [UInt8.ofNat (65 + m)] := by
  have : ((List.range 26).all fun m => decide ((Utf8.encode ((65 + m : Nat) : Int)).data.toList = [UInt8.ofNat (65 + m)])) = true := by decide
  have := of_decide_eq_true (all_lt this h)
  rw [← this, B_data]
def FCol : List V → Option V
  | [.x (.int .i64 c)] => if 0 ≤ c ∧ c ≤ 702 then some (.x (.string (B (colP c.toNat)))) else none
  | _ => none
set_option maxRecDepth 100000 in
theorem col_fun : FunV 63 FCol := by
  refine fun_of_run (E := envOf []) (k := 1) (envOK_of _ trivial) (by kernel_rfl) Tryz.func63 rfl (fun a w => Tryz.call63 a w) Tryz.ntmps63 (by kernel_rfl) (by decide) (by decide) ?_
  intro us r hF hdat
  unfold FCol at hF
  split at hF
  case h_2 => cases hF
  rename_i c
  split at hF
  case isFalse => cases hF
  rename_i hc
  cases hF
  refine ⟨rfl, ?_⟩
  obtain ⟨c, rfl⟩ := Int.eq_ofNat_of_zero_le hc.1
  rw [Int.toNat_natCast]
  simp (decide := true) (maxDischargeDepth := 200) only [go_sem, Tryz.results63]
  refine loop_of (X := {p : Nat × List UInt8 // p.1 ≤ 702 ∧ colP p.1 ++ p.2 = colP c}) (fun p => [(0, .x (.int .i64 p.1.1)), (3, .x (.string (B p.1.2)))]) (fun _ => []) (fun p => p.1.1) ⟨(c, []), by simp; omega, by simp⟩ (by simp (decide := true) only [go_sem]; rfl) trivial (fun ⟨⟨k, out⟩, hk, hout⟩ => ?_)
  simp only at hk hout
  by_cases h0 : 0 < k
  · have d0 : decide ((0 : Int) < (k : Int)) = true := decide_eq_true (by omega)
    have hl : out.length ≤ 2 := by
      have h1 := congrArg List.length hout
      have h2 := (col_facts (c := c) (by omega)).2.1
      simp at h1
      omega
    have c1 : bWrap .i64 ((k : Int) - 1) = ((k - 1 : Nat) : Int) := by rw [bwrap_of (by unfold inR; omega)]; omega
    have c2 : Int.tmod ((k - 1 : Nat) : Int) 26 = (((k - 1) % 26 : Nat) : Int) := (Int.ofNat_tmod (k - 1) 26).symm
    have c3 : bWrap .i64 (65 + (((k - 1) % 26 : Nat) : Int)) = ((65 + (k - 1) % 26 : Nat) : Int) := by rw [bwrap_of (by unfold inR; omega)]; omega
    have c4 := rune_wrap (m := (k - 1) % 26) (by omega)
    have c5 := rune_text (m := (k - 1) % 26) (by omega)
    have c6 : catV (B [UInt8.ofNat (65 + (k - 1) % 26)]) (B out) = some (.str (B (UInt8.ofNat (65 + (k - 1) % 26) :: out))) := by
      rw [catV_ok (by rw [B_size, B_size]; simp; omega), B_append]; rfl
    have c7 : bWrap .i64 (Int.tdiv ((k - 1 : Nat) : Int) 26) = (((k - 1) / 26 : Nat) : Int) := by
      rw [show Int.tdiv ((k - 1 : Nat) : Int) 26 = (((k - 1) / 26 : Nat) : Int) from (Int.ofNat_tdiv (k - 1) 26).symm]
      exact bwrap_of (by unfold inR; omega)
    simp (decide := true) (maxDischargeDepth := 200) only [go_sem, d0, c1, c2, c3, c4, c5, c6, c7, Tryz.results63]
    refine ⟨⟨((k - 1) / 26, UInt8.ofNat (65 + (k - 1) % 26) :: out), by simp only; omega, ?_⟩, ?_, trivial, by simp only; omega⟩
    · simp only
      rw [← hout, ← colP_step h0 hk]
      simp
    · simp (decide := true) only [go_sem]
  · have d0 : decide ((0 : Int) < (k : Int)) = false := decide_eq_false (by omega)
    have hk0 : k = 0 := by omega
    subst hk0
    have e : out = colP c := by rw [← hout]; rfl
    subst e
    simp (decide := true) (maxDischargeDepth := 200) only [go_sem, d0, Tryz.results63]


def FShow : List V → Option V
  | [.agg [.x (.string s), .x (.int .i64 c), .x (.int .i64 r)]] => some (.x (.string (showC s c r)))
  | _ => none
theorem itoa_dec {r : Int} (h0 : 0 ≤ r) (h : r < 1000) : (⟨(Lib.itoa r).toArray⟩ : ByteArray) = B (dec3 r.toNat) := by
  rw [Lib.itoa, if_neg (by omega), dec3_is _ (by omega)]
  rfl
theorem showC_is {s : ByteArray} {c r : Int} (h : rightC s c r = true) : showC s c r = ((s ++ ⟨#[33]⟩) ++ B (colP c.toNat)) ++ B (dec3 r.toNat) := by
  unfold showC
  rw [if_pos h]
  rfl
theorem showC_no {s : ByteArray} {c r : Int} (h : rightC s c r = false) : showC s c r = ⟨#[]⟩ := by
  unfold showC
  rw [h]
  rfl
set_option maxRecDepth 100000 in
theorem show_fun : FunV 34 FShow := by
  refine fun_of_run (E := envOf [(62, FRightC), (63, FCol), (64, FItoa)]) (k := 1) (envOK_of _ ⟨right_fun, col_fun, itoa_fun, trivial⟩) (by kernel_rfl) Tryz.func34 rfl (fun a w => Tryz.call34 a w) Tryz.ntmps34 (by kernel_rfl) (by decide) (by decide) ?_
  intro us r hF hdat
  unfold FShow at hF
  split at hF
  case h_2 => cases hF
  rename_i s c r
  cases hF
  refine ⟨rfl, ?_⟩
  cases hR : rightC s c r
  · have e := showC_no hR
    simp (decide := true) (maxDischargeDepth := 200) only [go_sem, FRightC, hR, e, Tryz.results34]
  · obtain ⟨hn, h1, h2, h3, h4⟩ := rightC_iff.1 hR
    have hl := name_len hn
    have e := showC_is hR
    have hc2 := (col_facts (c := c.toNat) (by omega)).2.1
    have hd2 := (dec_facts (r := r.toNat) (by omega)).2.1
    have r1 : inR r := by unfold inR; omega
    have r0 : (0 : Int) ≤ c := by omega
    have i1 := itoa_dec (r := r) (by omega) (by omega)
    have k1 : catV s ⟨#[33]⟩ = some (.str (s ++ ⟨#[33]⟩)) := catV_ok (by show s.size + 1 ≤ _; omega)
    have k0 : (s ++ ⟨#[33]⟩).size = s.size + 1 := cat_size _ _
    have k2 : catV (s ++ ⟨#[33]⟩) (B (colP c.toNat)) = some (.str ((s ++ ⟨#[33]⟩) ++ B (colP c.toNat))) := catV_ok (by rw [k0, B_size]; omega)
    have k3 : catV ((s ++ ⟨#[33]⟩) ++ B (colP c.toNat)) (B (dec3 r.toNat)) = some (.str (((s ++ ⟨#[33]⟩) ++ B (colP c.toNat)) ++ B (dec3 r.toNat))) := catV_ok (by rw [cat_size, k0, B_size, B_size]; omega)
    simp (decide := true) (maxDischargeDepth := 200) only [go_sem, FRightC, hR, FCol, FItoa, r0, h2, r1, i1, k1, k2, k3, e, Tryz.results34]


/-- The letters, as the reference has them. -/
def abc : ByteArray := ⟨#[65, 66, 67, 68, 69, 70, 71, 72, 73, 74, 75, 76, 77, 78, 79, 80, 81, 82, 83, 84, 85, 86, 87, 88, 89, 90]⟩
theorem abc_at {m : Nat} (h : m < 26) : subV abc (m : Int) ((m + 1 : Nat) : Int) = B [UInt8.ofNat (65 + m)] := by
  have : ((List.range 26).all fun m => decide ((subV abc (m : Int) ((m + 1 : Nat) : Int)).data.toList = [UInt8.ofNat (65 + m)])) = true := by decide
  have := of_decide_eq_true (all_lt this h)
  rw [← this, B_data]
def FPlace : List V → Option V
  | [.agg [.x (.string _), .x (.int .i64 c), .x (.int .i64 r)]] => if 1 ≤ c ∧ c ≤ 702 ∧ 1 ≤ r ∧ r ≤ 999 then some (.x (.string (B (colP c.toNat) ++ B (dec3 r.toNat)))) else none
  | _ => none
theorem col_one {c : Nat} (h0 : 1 ≤ c) (h : c ≤ 26) : colP c = [UInt8.ofNat (65 + (c - 1) % 26)] := by
  unfold colP
  rw [if_neg (by omega), if_pos h]
  congr 2
  omega
theorem col_two {c : Nat} (h : 26 < c) : colP c = [UInt8.ofNat (65 + ((c - 1) / 26 - 1))] ++ [UInt8.ofNat (65 + (c - 1) % 26)] := by
  unfold colP
  rw [if_neg (by omega), if_neg (by omega)]
  simp only [List.cons_append, List.nil_append]
  congr 2
  omega
set_option maxRecDepth 100000 in
theorem rplace_fun : FunV 40 FPlace := by
  refine fun_of_run (E := envOf [(66, FItoa)]) (k := 1) (envOK_of _ ⟨dec_fun, trivial⟩) (by kernel_rfl) Tryz.func40 rfl (fun a w => Tryz.call40 a w) Tryz.ntmps40 (by kernel_rfl) (by decide) (by decide) ?_
  intro us r hF hdat
  unfold FPlace at hF
  split at hF
  case h_2 => cases hF
  rename_i s c r
  split at hF
  case isFalse => cases hF
  rename_i hc
  obtain ⟨h1, h2, h3, h4⟩ := hc
  cases hF
  refine ⟨rfl, ?_⟩
  obtain ⟨c, rfl⟩ := Int.eq_ofNat_of_zero_le (show 0 ≤ c by omega)
  rw [Int.toNat_natCast]
  have i1 := itoa_dec (r := r) (by omega) (by omega)
  have r1 : inR r := by unfold inR; omega
  have hd2 := (dec_facts (r := r.toNat) (by omega)).2.1
  have hs : abc.size = 26 := rfl
  have c1 : bWrap .i64 ((c : Int) - 1) = ((c - 1 : Nat) : Int) := by rw [bwrap_of (by unfold inR; omega)]; omega
  have c2 : Int.tmod ((c - 1 : Nat) : Int) 26 = (((c - 1) % 26 : Nat) : Int) := (Int.ofNat_tmod (c - 1) 26).symm
  have c3 : bWrap .i64 ((((c - 1) % 26 : Nat) : Int) + 1) = (((c - 1) % 26 + 1 : Nat) : Int) := by rw [bwrap_of (by unfold inR; omega)]; omega
  have p1 : (0 : Int) ≤ (((c - 1) % 26 : Nat) : Int) ∧ (((c - 1) % 26 : Nat) : Int) ≤ (((c - 1) % 26 + 1 : Nat) : Int) ∧ (((c - 1) % 26 + 1 : Nat) : Int) ≤ ((abc.size : Nat) : Int) := by rw [hs]; omega
  have a1 := abc_at (m := (c - 1) % 26) (by omega)
  have k2 : catV (B (colP c)) (B (dec3 r.toNat)) = some (.str (B (colP c) ++ B (dec3 r.toNat))) := catV_ok (by rw [B_size, B_size]; have := (col_facts (c := c) (by omega)).2.1; omega)
  have g0 : ({ data := #[65, 66, 67, 68, 69, 70, 71, 72, 73, 74, 75, 76, 77, 78, 79, 80, 81, 82, 83, 84, 85, 86, 87, 88, 89, 90] } : ByteArray) = abc := rfl
  by_cases h26 : c ≤ 26
  · have d0 : decide ((26 : Int) ≤ ((c - 1 : Nat) : Int)) = false := decide_eq_false (by omega)
    have e := col_one (c := c) (by omega) h26
    rw [← e] at a1
    simp (decide := true) (maxDischargeDepth := 200) only [go_sem, g0, c1, c2, c3, p1, a1, d0, FItoa, r1, i1, k2, Tryz.results40]
  · have d0 : decide ((26 : Int) ≤ ((c - 1 : Nat) : Int)) = true := decide_eq_true (by omega)
    have c7 : bWrap .i64 (Int.tdiv ((c - 1 : Nat) : Int) 26) = (((c - 1) / 26 : Nat) : Int) := by
      rw [show Int.tdiv ((c - 1 : Nat) : Int) 26 = (((c - 1) / 26 : Nat) : Int) from (Int.ofNat_tdiv (c - 1) 26).symm]
      exact bwrap_of (by unfold inR; omega)
    have c8 : bWrap .i64 ((((c - 1) / 26 : Nat) : Int) - 1) = (((c - 1) / 26 - 1 : Nat) : Int) := by rw [bwrap_of (by unfold inR; omega)]; omega
    have p2 : (0 : Int) ≤ (((c - 1) / 26 - 1 : Nat) : Int) ∧ (((c - 1) / 26 - 1 : Nat) : Int) ≤ (((c - 1) / 26 : Nat) : Int) ∧ (((c - 1) / 26 : Nat) : Int) ≤ ((abc.size : Nat) : Int) := by rw [hs]; omega
    have a2 := abc_at (m := (c - 1) / 26 - 1) (by omega)
    rw [show (c - 1) / 26 - 1 + 1 = (c - 1) / 26 from by omega] at a2
    have e := col_two (c := c) (by omega)
    have k1 : catV (B [UInt8.ofNat (65 + ((c - 1) / 26 - 1))]) (B [UInt8.ofNat (65 + (c - 1) % 26)]) = some (.str (B (colP c))) := by
      rw [catV_ok (by rw [B_size, B_size]; simp), B_append, e]
    simp (decide := true) (maxDischargeDepth := 200) only [go_sem, g0, c1, c2, c3, p1, a1, d0, c7, c8, p2, a2, k1, FItoa, r1, i1, k2, Tryz.results40]

set_option maxRecDepth 100000 in
theorem rshow_fun : FunV 39 FShow := by
  refine fun_of_run (E := envOf [(43, FRightC), (40, FPlace)]) (k := 1) (envOK_of _ ⟨rright_fun, rplace_fun, trivial⟩) (by kernel_rfl) Tryz.func39 rfl (fun a w => Tryz.call39 a w) Tryz.ntmps39 (by kernel_rfl) (by decide) (by decide) ?_
  intro us r hF hdat
  unfold FShow at hF
  split at hF
  case h_2 => cases hF
  rename_i s c r
  cases hF
  refine ⟨rfl, ?_⟩
  cases hR : rightC s c r
  · have e := showC_no hR
    simp (decide := true) (maxDischargeDepth := 200) only [go_sem, FRightC, hR, e, Tryz.results39]
  · obtain ⟨hn, h1, h2, h3, h4⟩ := rightC_iff.1 hR
    have hl := name_len hn
    have e := showC_is hR
    have hc2 := (col_facts (c := c.toNat) (by omega)).2.1
    have hd2 := (dec_facts (r := r.toNat) (by omega)).2.1
    have r1 : inR r := by unfold inR; omega
    have r0 : (0 : Int) ≤ c := by omega
    have i1 := itoa_dec (r := r) (by omega) (by omega)
    have k1 : catV s ⟨#[33]⟩ = some (.str (s ++ ⟨#[33]⟩)) := catV_ok (by show s.size + 1 ≤ _; omega)
    have k0 : (s ++ ⟨#[33]⟩).size = s.size + 1 := cat_size _ _
    have k2 : catV (s ++ ⟨#[33]⟩) (B (colP c.toNat) ++ B (dec3 r.toNat)) = some (.str (showC s c r)) := by
      rw [catV_ok (by rw [k0, cat_size, B_size, B_size]; omega), e]
      simp only [ByteArray.append_assoc]
    simp (decide := true) (maxDischargeDepth := 200) only [go_sem, FRightC, hR, FPlace, h1, h2, h3, h4, k1, k2, Tryz.results39]

end Go.Proofs.YteibnmlfipkmeaaGreatDoor
