/- Formulas taken apart: package token's inner functions, as functions of plain data. -/
import Derived.Test.YteibnmlfipkmeaaGreatDoorTkP
import Derived.Test.YteibnmlfipkmeaaGreatDoorLClone
namespace Go.Proofs.YteibnmlfipkmeaaGreatDoor
open Go Go.RowKit
set_option linter.unusedSimpArgs false
set_option maxRecDepth 100000 in
theorem tksmall_fun : FunV 72 FSmall := by
  refine fun_of_run (E := envOf []) (k := 1) (envOK_of _ trivial) (by kernel_rfl) Tryz.func72 rfl (fun a w => Tryz.call72 a w) Tryz.ntmps72 (by kernel_rfl) (by decide) (by decide) ?_
  intro us r hF hdat
  unfold FSmall at hF
  split at hF
  case h_2 => cases hF
  rename_i b
  cases hF
  refine ⟨rfl, ?_⟩
  by_cases h : 97 ≤ b
  · have h1 := decide_eq_true h
    simp (decide := true) (maxDischargeDepth := 200) only [go_sem, h1, smallI, Tryz.results72]
  · have h1 := decide_eq_false h
    simp (decide := true) (maxDischargeDepth := 200) only [go_sem, h1, smallI, Tryz.results72]

set_option maxRecDepth 100000 in
theorem tkgreat_fun : FunV 70 FGreat := by
  refine fun_of_run (E := envOf []) (k := 1) (envOK_of _ trivial) (by kernel_rfl) Tryz.func70 rfl (fun a w => Tryz.call70 a w) Tryz.ntmps70 (by kernel_rfl) (by decide) (by decide) ?_
  intro us r hF hdat
  unfold FGreat at hF
  split at hF
  case h_2 => cases hF
  rename_i b
  cases hF
  refine ⟨rfl, ?_⟩
  by_cases h : 65 ≤ b
  · have h1 := decide_eq_true h
    simp (decide := true) (maxDischargeDepth := 200) only [go_sem, h1, greatI, Tryz.results70]
  · have h1 := decide_eq_false h
    simp (decide := true) (maxDischargeDepth := 200) only [go_sem, h1, greatI, Tryz.results70]

set_option maxRecDepth 100000 in
theorem tkdigit_fun : FunV 67 FDigit := by
  refine fun_of_run (E := envOf []) (k := 1) (envOK_of _ trivial) (by kernel_rfl) Tryz.func67 rfl (fun a w => Tryz.call67 a w) Tryz.ntmps67 (by kernel_rfl) (by decide) (by decide) ?_
  intro us r hF hdat
  unfold FDigit at hF
  split at hF
  case h_2 => cases hF
  rename_i b
  cases hF
  refine ⟨rfl, ?_⟩
  by_cases h : 48 ≤ b
  · have h1 := decide_eq_true h
    simp (decide := true) (maxDischargeDepth := 200) only [go_sem, h1, digitI, Tryz.results67]
  · have h1 := decide_eq_false h
    simp (decide := true) (maxDischargeDepth := 200) only [go_sem, h1, digitI, Tryz.results67]

set_option maxRecDepth 100000 in
theorem tkrsmall_fun : FunV 22 FSmall := by
  refine fun_of_run (E := envOf []) (k := 1) (envOK_of _ trivial) (by kernel_rfl) Tryz.func22 rfl (fun a w => Tryz.call22 a w) Tryz.ntmps22 (by kernel_rfl) (by decide) (by decide) ?_
  intro us r hF hdat
  unfold FSmall at hF
  split at hF
  case h_2 => cases hF
  rename_i b
  cases hF
  refine ⟨rfl, ?_⟩
  by_cases h : 97 ≤ b
  · have h1 := decide_eq_true h
    simp (decide := true) (maxDischargeDepth := 200) only [go_sem, h1, smallI, Tryz.results22]
  · have h1 := decide_eq_false h
    simp (decide := true) (maxDischargeDepth := 200) only [go_sem, h1, smallI, Tryz.results22]

set_option maxRecDepth 100000 in
theorem tkrgreat_fun : FunV 53 FGreat := by
  refine fun_of_run (E := envOf []) (k := 1) (envOK_of _ trivial) (by kernel_rfl) Tryz.func53 rfl (fun a w => Tryz.call53 a w) Tryz.ntmps53 (by kernel_rfl) (by decide) (by decide) ?_
  intro us r hF hdat
  unfold FGreat at hF
  split at hF
  case h_2 => cases hF
  rename_i b
  cases hF
  refine ⟨rfl, ?_⟩
  by_cases h : 65 ≤ b
  · have h1 := decide_eq_true h
    simp (decide := true) (maxDischargeDepth := 200) only [go_sem, h1, greatI, Tryz.results53]
  · have h1 := decide_eq_false h
    simp (decide := true) (maxDischargeDepth := 200) only [go_sem, h1, greatI, Tryz.results53]

set_option maxRecDepth 100000 in
theorem tkrdigit_fun : FunV 23 FDigit := by
  refine fun_of_run (E := envOf []) (k := 1) (envOK_of _ trivial) (by kernel_rfl) Tryz.func23 rfl (fun a w => Tryz.call23 a w) Tryz.ntmps23 (by kernel_rfl) (by decide) (by decide) ?_
  intro us r hF hdat
  unfold FDigit at hF
  split at hF
  case h_2 => cases hF
  rename_i b
  cases hF
  refine ⟨rfl, ?_⟩
  by_cases h : 48 ≤ b
  · have h1 := decide_eq_true h
    simp (decide := true) (maxDischargeDepth := 200) only [go_sem, h1, digitI, Tryz.results23]
  · have h1 := decide_eq_false h
    simp (decide := true) (maxDischargeDepth := 200) only [go_sem, h1, digitI, Tryz.results23]


def FP (p : Int → Bool) : List V → Option V
  | [.x (.int .u8 b)] => some (.x (.bool (p b)))
  | _ => none
theorem FDigit_P : FDigit = FP digitI := by rfl
set_option maxRecDepth 100000 in
theorem word_fun : FunV 71 (FP wordI) := by
  refine fun_of_run (E := envOf [(70, FGreat), (67, FDigit)]) (k := 1) (envOK_of _ ⟨tkgreat_fun, tkdigit_fun, trivial⟩) (by kernel_rfl) Tryz.func71 rfl (fun a w => Tryz.call71 a w) Tryz.ntmps71 (by kernel_rfl) (by decide) (by decide) ?_
  intro us r hF hdat
  unfold FP at hF
  split at hF
  case h_2 => cases hF
  rename_i b
  cases hF
  refine ⟨rfl, ?_⟩
  cases h : greatI b
  · simp (decide := true) (maxDischargeDepth := 200) only [go_sem, FGreat, FDigit, h, wordI, Tryz.results71]
  · simp (decide := true) (maxDischargeDepth := 200) only [go_sem, FGreat, FDigit, h, wordI, Tryz.results71]

set_option maxRecDepth 100000 in
theorem tkname_fun : FunV 73 (FP nameI) := by
  refine fun_of_run (E := envOf [(72, FSmall), (67, FDigit)]) (k := 1) (envOK_of _ ⟨tksmall_fun, tkdigit_fun, trivial⟩) (by kernel_rfl) Tryz.func73 rfl (fun a w => Tryz.call73 a w) Tryz.ntmps73 (by kernel_rfl) (by decide) (by decide) ?_
  intro us r hF hdat
  unfold FP at hF
  split at hF
  case h_2 => cases hF
  rename_i b
  cases hF
  refine ⟨rfl, ?_⟩
  cases h : smallI b
  · simp (decide := true) (maxDischargeDepth := 200) only [go_sem, FSmall, FDigit, h, nameI, Tryz.results73]
  · simp (decide := true) (maxDischargeDepth := 200) only [go_sem, FSmall, FDigit, h, nameI, Tryz.results73]


def predOf (f : FuncId) : Option (Int → Bool) := if f = 67 then some digitI else if f = 71 then some wordI else if f = 73 then some nameI else none
noncomputable def tkL : List (Nat × (List V → Option V)) := [(67, FP digitI), (71, FP wordI), (73, FP nameI)]
theorem tk_at {f : FuncId} {p : Int → Bool} (h : predOf f = some p) : lkF tkL f = some (FP p) := by
  unfold predOf at h
  unfold tkL
  split at h
  · rename_i e; cases h; subst e; rfl
  · split at h
    · rename_i e; cases h; subst e; rfl
    · split at h
      · rename_i e; cases h; subst e; rfl
      · cases h
def FRun : List V → Option V
  | [.x (.string s), u] => match fnOf u with
    | some f => match predOf f with
      | some p => if s.size ≤ 1000 then some (.x (.int .i64 ((spanL p s.data.toList : Nat) : Int))) else none
      | none => none
    | none => none
  | _ => none
theorem FRun_eq {l : List UInt8} {f : FuncId} {p : Int → Bool} (h : predOf f = some p) (hl : l.length ≤ 1000) : FRun [.x (.string (B l)), .x (.func (.func f) #[] #[])] = some (.x (.int .i64 ((spanL p l : Nat) : Int))) := by
  unfold FRun
  simp only [fnOf_func, h]
  rw [if_pos (by rw [B_size]; exact hl), B_bytes]
theorem tkdigit_fun' : FunV 67 (FP digitI) := FDigit_P ▸ tkdigit_fun
set_option maxRecDepth 100000 in
theorem run_fun : FunV 68 FRun := by
  refine fun_of_run (E := envOf tkL) (k := 2) (envOK_of _ ⟨tkdigit_fun', word_fun, tkname_fun, trivial⟩) (by kernel_rfl) Tryz.func68 rfl (fun a w => Tryz.call68 a w) Tryz.ntmps68 (by kernel_rfl) (by decide) (by decide) ?_
  intro us r hF hdat
  unfold FRun at hF
  split at hF
  case h_2 => cases hF
  rename_i s u
  split at hF
  case h_2 => cases hF
  rename_i f hf
  split at hF
  case h_2 => cases hF
  rename_i p hp
  split at hF
  case isFalse => cases hF
  rename_i hs
  cases hF
  refine ⟨rfl, ?_⟩
  obtain rfl := fnOf_is hf
  obtain ⟨l, rfl⟩ := B_of s
  rw [B_size] at hs
  have hk := tk_at hp
  rw [B_bytes]
  simp (decide := true) (maxDischargeDepth := 200) only [go_sem, hk, Tryz.results68]
  refine loop_of (X := {i : Nat // i ≤ l.length ∧ spanL p l = i + spanL p (l.drop i)}) (fun i => [(0, .x (.string (B l))), (1, .x (.func (.func f) #[] #[])), (5, .x (.int .i64 i.1))]) (fun _ => []) (fun i => l.length - i.1) ⟨0, by omega, by simp⟩ (by simp (decide := true) only [go_sem]; rfl) trivial (fun ⟨i, hi, hz⟩ => ?_)
  by_cases h : i < l.length
  · obtain ⟨b, hb⟩ := get_of h
    have d0 : decide ((i : Int) < ((B l).size : Int)) = true := decide_eq_true (by rw [B_size]; omega)
    have c2 : (0 : Int) ≤ (i : Int) := by omega
    have c3 : (i : Int) < ((B l).size : Int) := by rw [B_size]; omega
    have c4 := count_up (i := i) (by omega)
    have c5 := byteV_B hb
    cases hpb : p (b.toNat : Int)
    · have e := spanL_no hb hpb
      rw [e, Nat.add_zero] at hz
      simp (decide := true) (maxDischargeDepth := 200) only [go_sem, hk, d0, c2, c3, c5, FP, hpb, hz, Tryz.results68]
    · have e := spanL_at hb hpb
      simp (decide := true) (maxDischargeDepth := 200) only [go_sem, hk, d0, c2, c3, c4, c5, FP, hpb, Tryz.results68]
      refine ⟨⟨i + 1, by omega, by rw [hz, e]; omega⟩, ?_, trivial, by simp only; omega⟩
      simp (decide := true) only [go_sem]
  · have d0 : decide ((i : Int) < ((B l).size : Int)) = false := decide_eq_false (by rw [B_size]; omega)
    rw [spanL_end (by omega), Nat.add_zero] at hz
    simp (decide := true) (maxDischargeDepth := 200) only [go_sem, hk, d0, hz, Tryz.results68]


def FTextSize : List V → Option V
  | [.x (.string s)] => if 1 ≤ s.size ∧ s.size ≤ 1000 then some (.x (.int .i64 ((textP s.data.toList : Nat) : Int))) else none
  | _ => none
set_option maxHeartbeats 1000000 in
set_option maxRecDepth 100000 in
theorem textsize_fun : FunV 69 FTextSize := by
  refine fun_of_run (E := envOf []) (k := 1) (envOK_of _ trivial) (by kernel_rfl) Tryz.func69 rfl (fun a w => Tryz.call69 a w) Tryz.ntmps69 (by kernel_rfl) (by decide) (by decide) ?_
  intro us r hF hdat
  unfold FTextSize at hF
  split at hF
  case h_2 => cases hF
  rename_i s
  split at hF
  case isFalse => cases hF
  rename_i hs
  cases hF
  refine ⟨rfl, ?_⟩
  obtain ⟨l, rfl⟩ := B_of s
  rw [B_size] at hs
  rw [B_bytes]
  simp (decide := true) (maxDischargeDepth := 200) only [go_sem, Tryz.results69]
  refine loop_of (X := {i : Nat // 1 ≤ i ∧ i ≤ l.length ∧ (quoteL (l.drop 1)).map (·.2) = (quoteL (l.drop i)).map (fun r => r.2 + (i - 1))}) (fun i => [(0, .x (.string (B l))), (3, .x (.int .i64 i.1))]) (fun _ => []) (fun i => l.length - i.1) ⟨1, by omega, by omega, by simp⟩ (by simp (decide := true) only [go_sem]; rfl) trivial (fun ⟨i, h1, hi, hz⟩ => ?_)
  by_cases h : i < l.length
  · obtain ⟨b, hb⟩ := get_of h
    have d0 : decide ((i : Int) < ((B l).size : Int)) = true := decide_eq_true (by rw [B_size]; omega)
    have c2 : (0 : Int) ≤ (i : Int) := by omega
    have c3 : (i : Int) < ((B l).size : Int) := by rw [B_size]; omega
    have c4 := count_up (i := i) (by omega)
    have c5 := byteV_B hb
    by_cases hq : b = 34
    · subst hq
      have d1 : decide ((((34 : UInt8).toNat : Nat) : Int) = 34) = true := rfl
      by_cases hl : i + 1 = l.length
      · have d2 : decide (((i + 1 : Nat) : Int) = ((B l).size : Int)) = true := decide_eq_true (by rw [B_size]; omega)
        have e : quoteL (l.drop i) = some ([], 1) := by rw [drop_cons hb]; exact quote_end (by rw [drop_get]; simp [List.getElem?_eq_none (show l.length ≤ i + 1 + 0 by omega)])
        have e2 : textP l = i + 1 := textP_some (by rw [hz, e]; simp; omega)
        simp (decide := true) (maxDischargeDepth := 200) only [go_sem, d0, d1, d2, c2, c3, c4, c5, e2, Tryz.results69]
      · obtain ⟨c, hc⟩ := get_of (show i + 1 < l.length by omega)
        have d2 : decide (((i + 1 : Nat) : Int) = ((B l).size : Int)) = false := decide_eq_false (by rw [B_size]; omega)
        have c2' : (0 : Int) ≤ ((i + 1 : Nat) : Int) := by omega
        have c3' : ((i + 1 : Nat) : Int) < ((B l).size : Int) := by rw [B_size]; omega
        have c4' := count_up (i := i + 1) (by omega)
        have c5' := byteV_B hc
        by_cases hq' : c = 34
        · subst hq'
          have e : quoteL (l.drop i) = (quoteL (l.drop (i + 2))).map fun r => (34 :: r.1, r.2 + 2) := by rw [drop_cons hb, drop_cons hc]; exact quote_two _
          simp (decide := true) (maxDischargeDepth := 200) only [go_sem, d0, d1, d2, c2, c3, c4, c5, c2', c3', c4', c5', Tryz.results69]
          refine ⟨⟨i + 2, by omega, by omega, by rw [hz, e, Option.map_map]; congr 1; funext r; simp only [Function.comp]; omega⟩, ?_, trivial, by simp only; omega⟩
          simp (decide := true) only [go_sem]
        · have d3 : decide (((c.toNat : Nat) : Int) = 34) = false := by rw [byte_eq (c := 34) (n := 34) rfl]; exact decide_eq_false hq'
          have e : quoteL (l.drop i) = some ([], 1) := by rw [drop_cons hb]; exact quote_end (by rw [drop_get]; simp [hc, hq'])
          have e2 : textP l = i + 1 := textP_some (by rw [hz, e]; simp; omega)
          simp (decide := true) (maxDischargeDepth := 200) only [go_sem, d0, d1, d2, d3, c2, c3, c4, c5, c2', c3', c5', e2, Tryz.results69]
    · have d1 : decide (((b.toNat : Nat) : Int) = 34) = false := by rw [byte_eq (c := 34) (n := 34) rfl]; exact decide_eq_false hq
      have e : quoteL (l.drop i) = (quoteL (l.drop (i + 1))).map fun r => (b :: r.1, r.2 + 1) := by rw [drop_cons hb]; exact quote_other hq
      simp (decide := true) (maxDischargeDepth := 200) only [go_sem, d0, d1, c2, c3, c4, c5, Tryz.results69]
      refine ⟨⟨i + 1, by omega, by omega, by rw [hz, e, Option.map_map]; congr 1; funext r; simp only [Function.comp]; omega⟩, ?_, trivial, by simp only; omega⟩
      simp (decide := true) only [go_sem]
  · have d0 : decide ((i : Int) < ((B l).size : Int)) = false := decide_eq_false (by rw [B_size]; omega)
    have e2 : ((textP l : Nat) : Int) = 0 := by rw [textP_no (by rw [hz, List.drop_eq_nil_of_le (by omega)]; rfl)]; rfl
    simp (decide := true) (maxDischargeDepth := 200) only [go_sem, d0, e2, Tryz.results69]

end Go.Proofs.YteibnmlfipkmeaaGreatDoor

/- Formulas taken apart: signs, the first token, what it says, all of them: package token, as functions of plain data. -/
namespace Go.Proofs.YteibnmlfipkmeaaGreatDoor
open Go Go.RowKit
set_option linter.unusedSimpArgs false

theorem signB_cases {b : UInt8} (h : signB b = true) : b = 43 ∨ b = 45 ∨ b = 42 ∨ b = 47 ∨ b = 38 ∨ b = 61 ∨ b = 60 ∨ b = 62 ∨ b = 40 ∨ b = 41 ∨ b = 44 ∨ b = 58 ∨ b = 33 := by
  simpa [signB] using h
theorem signB_no {b : UInt8} (h : signB b = false) : b ≠ 43 ∧ b ≠ 45 ∧ b ≠ 42 ∧ b ≠ 47 ∧ b ≠ 38 ∧ b ≠ 61 ∧ b ≠ 60 ∧ b ≠ 62 ∧ b ≠ 40 ∧ b ≠ 41 ∧ b ≠ 44 ∧ b ≠ 58 ∧ b ≠ 33 := by
  simpa [signB] using h
def FSignSize : List V → Option V
  | [.x (.string s)] => if 1 ≤ s.size ∧ s.size ≤ 1000 then some (.x (.int .i64 ((signP s.data.toList : Nat) : Int))) else none
  | _ => none
set_option maxHeartbeats 4000000 in
set_option maxRecDepth 100000 in
theorem signsize_fun : FunV 74 FSignSize := by
  refine fun_of_run (E := envOf []) (k := 1) (envOK_of _ trivial) (by kernel_rfl) Tryz.func74 rfl (fun a w => Tryz.call74 a w) Tryz.ntmps74 (by kernel_rfl) (by decide) (by decide) ?_
  intro us r hF hdat
  unfold FSignSize at hF
  split at hF
  case h_2 => cases hF
  rename_i s
  split at hF
  case isFalse => cases hF
  rename_i hs
  cases hF
  refine ⟨rfl, ?_⟩
  obtain ⟨l, rfl⟩ := B_of s
  rw [B_size] at hs
  rw [B_bytes]
  obtain ⟨b, hb⟩ := get_of (show 0 < l.length by omega)
  have hcons := drop_cons hb
  rw [List.drop_zero] at hcons
  have c5 : byteV (B l) 0 = ((b.toNat : Nat) : Int) := byteV_B (i := 0) hb
  have c6 : (0 : Int) < ((B l).size : Int) := by rw [B_size]; omega
  have a2 : (⟨#[60, 62]⟩ : ByteArray) = B [60, 62] := rfl
  have a3 : (⟨#[60, 61]⟩ : ByteArray) = B [60, 61] := rfl
  have a4 : (⟨#[62, 61]⟩ : ByteArray) = B [62, 61] := rfl
  obtain ⟨w, hw⟩ : ∃ w, l.take 2 = w := ⟨_, rfl⟩
  have hsp : signP l = if twoB w = true then 2 else if signB b = true then 1 else 0 := by
    rw [← hw]
    conv => lhs; rw [hcons]
    rw [signP, ← hcons]
  have e4 : subV (B l) 0 2 = B w := hw ▸ sub_take l 2
  have hwl : w.length ≤ l.length := by rw [← hw, List.length_take]; omega
  cases ht : twoB w
  · rw [ht] at hsp
    simp only [Bool.false_eq_true, if_false] at hsp
    simp only [twoB, Bool.or_eq_false_iff, decide_eq_false_iff_not] at ht
    obtain ⟨⟨t1, t2⟩, t3⟩ := ht
    have e1 : decide (B w = B [60, 62]) = false := decide_eq_false (fun h => t1 (B_inj.1 h))
    have e2 : decide (B w = B [60, 61]) = false := decide_eq_false (fun h => t2 (B_inj.1 h))
    have e3 : decide (B w = B [62, 61]) = false := decide_eq_false (fun h => t3 (B_inj.1 h))
    clear t1 t2 t3 hw
    cases hsg : signB b
    · rw [hsg] at hsp
      have e5 : ((signP l : Nat) : Int) = 0 := by rw [hsp]; rfl
      obtain ⟨n43, n45, n42, n47, n38, n61, n60, n62, n40, n41, n44, n58, n33⟩ := signB_no hsg
      have d43 : decide (((b.toNat : Nat) : Int) = 43) = false := by rw [byte_eq (c := 43) (n := 43) rfl]; exact decide_eq_false n43
      have d45 : decide (((b.toNat : Nat) : Int) = 45) = false := by rw [byte_eq (c := 45) (n := 45) rfl]; exact decide_eq_false n45
      have d42 : decide (((b.toNat : Nat) : Int) = 42) = false := by rw [byte_eq (c := 42) (n := 42) rfl]; exact decide_eq_false n42
      have d47 : decide (((b.toNat : Nat) : Int) = 47) = false := by rw [byte_eq (c := 47) (n := 47) rfl]; exact decide_eq_false n47
      have d38 : decide (((b.toNat : Nat) : Int) = 38) = false := by rw [byte_eq (c := 38) (n := 38) rfl]; exact decide_eq_false n38
      have d61 : decide (((b.toNat : Nat) : Int) = 61) = false := by rw [byte_eq (c := 61) (n := 61) rfl]; exact decide_eq_false n61
      have d60 : decide (((b.toNat : Nat) : Int) = 60) = false := by rw [byte_eq (c := 60) (n := 60) rfl]; exact decide_eq_false n60
      have d62 : decide (((b.toNat : Nat) : Int) = 62) = false := by rw [byte_eq (c := 62) (n := 62) rfl]; exact decide_eq_false n62
      have d40 : decide (((b.toNat : Nat) : Int) = 40) = false := by rw [byte_eq (c := 40) (n := 40) rfl]; exact decide_eq_false n40
      have d41 : decide (((b.toNat : Nat) : Int) = 41) = false := by rw [byte_eq (c := 41) (n := 41) rfl]; exact decide_eq_false n41
      have d44 : decide (((b.toNat : Nat) : Int) = 44) = false := by rw [byte_eq (c := 44) (n := 44) rfl]; exact decide_eq_false n44
      have d58 : decide (((b.toNat : Nat) : Int) = 58) = false := by rw [byte_eq (c := 58) (n := 58) rfl]; exact decide_eq_false n58
      have d33 : decide (((b.toNat : Nat) : Int) = 33) = false := by rw [byte_eq (c := 33) (n := 33) rfl]; exact decide_eq_false n33
      by_cases hl : (1 : Int) < ((B l).size : Int)
      · have d0 := decide_eq_true hl
        have c7 : (2 : Int) ≤ ((B l).size : Int) := by omega
        simp (decide := true) (maxDischargeDepth := 200) only [go_sem, a2, a3, a4, d0, c5, c6, c7, e1, e2, e3, e4, e5, d43, d45, d42, d47, d38, d61, d60, d62, d40, d41, d44, d58, d33, Tryz.results74]
      · have d0 := decide_eq_false hl
        simp (decide := true) (maxDischargeDepth := 200) only [go_sem, d0, c5, c6, e5, d43, d45, d42, d47, d38, d61, d60, d62, d40, d41, d44, d58, d33, Tryz.results74]
    · rw [hsg] at hsp
      have e5 : ((signP l : Nat) : Int) = 1 := by rw [hsp]; rfl
      have hc := signB_cases hsg
      clear hsg hsp
      by_cases hl : (1 : Int) < ((B l).size : Int)
      · have d0 := decide_eq_true hl
        have c7 : (2 : Int) ≤ ((B l).size : Int) := by omega
        rcases hc with hc | hc | hc | hc | hc | hc | hc | hc | hc | hc | hc | hc | hc
        all_goals
          subst hc
          simp (decide := true) (maxDischargeDepth := 200) only [go_sem, a2, a3, a4, d0, c5, c6, c7, e1, e2, e3, e4, e5, Tryz.results74]
      · have d0 := decide_eq_false hl
        rcases hc with hc | hc | hc | hc | hc | hc | hc | hc | hc | hc | hc | hc | hc
        all_goals
          subst hc
          simp (decide := true) (maxDischargeDepth := 200) only [go_sem, d0, c5, c6, e5, Tryz.results74]
  · have e5 : ((signP l : Nat) : Int) = 2 := by rw [hsp, ht]; rfl
    have hl : (1 : Int) < ((B l).size : Int) := by
      rw [B_size]
      have : 1 < w.length := by
        simp only [twoB, Bool.or_eq_true, decide_eq_true_eq] at ht
        rcases ht with (ht | ht) | ht <;> rw [ht] <;> decide
      omega
    have d0 := decide_eq_true hl
    have c7 : (2 : Int) ≤ ((B l).size : Int) := by omega
    simp only [twoB, Bool.or_eq_true, decide_eq_true_eq] at ht
    rcases ht with (ht | ht) | ht
    · rw [ht] at e4
      have e1 : decide (B [60, 62] = B [60, 62]) = true := decide_eq_true rfl
      simp (decide := true) (maxDischargeDepth := 200) only [go_sem, a2, a3, a4, d0, c7, e4, e1, e5, Tryz.results74]
    · rw [ht] at e4
      have e1 : decide (B [60, 61] = B [60, 62]) = false := by rw [decide_eq_false_iff_not, B_inj]; decide
      have e2 : decide (B [60, 61] = B [60, 61]) = true := decide_eq_true rfl
      simp (decide := true) (maxDischargeDepth := 200) only [go_sem, a2, a3, a4, d0, c7, e4, e1, e2, e5, Tryz.results74]
    · rw [ht] at e4
      have e1 : decide (B [62, 61] = B [60, 62]) = false := by rw [decide_eq_false_iff_not, B_inj]; decide
      have e2 : decide (B [62, 61] = B [60, 61]) = false := by rw [decide_eq_false_iff_not, B_inj]; decide
      have e3 : decide (B [62, 61] = B [62, 61]) = true := decide_eq_true rfl
      simp (decide := true) (maxDischargeDepth := 200) only [go_sem, a2, a3, a4, d0, c7, e4, e1, e2, e3, e5, Tryz.results74]


def FFirst : List V → Option V
  | [.x (.string s)] => if 1 ≤ s.size ∧ s.size ≤ 1000 then some (.tup [.x (.int .i64 (((firstP s.data.toList).1 : Nat) : Int)), .x (.int .i64 (((firstP s.data.toList).2 : Nat) : Int))]) else none
  | _ => none
theorem FFirst_eq {l : List UInt8} (h : 1 ≤ l.length) (h2 : l.length ≤ 1000) : FFirst [.x (.string (B l))] = some (.tup [.x (.int .i64 (((firstP l).1 : Nat) : Int)), .x (.int .i64 (((firstP l).2 : Nat) : Int))]) := by
  exact if_pos (show 1 ≤ (B l).size ∧ (B l).size ≤ 1000 from ⟨h, h2⟩)
theorem FSignSize_eq {l : List UInt8} (h : 1 ≤ l.length) (h2 : l.length ≤ 1000) : FSignSize [.x (.string (B l))] = some (.x (.int .i64 ((signP l : Nat) : Int))) := by
  exact if_pos (show 1 ≤ (B l).size ∧ (B l).size ≤ 1000 from ⟨h, h2⟩)
theorem FTextSize_eq {l : List UInt8} (h : 1 ≤ l.length) (h2 : l.length ≤ 1000) : FTextSize [.x (.string (B l))] = some (.x (.int .i64 ((textP l : Nat) : Int))) := by
  exact if_pos (show 1 ≤ (B l).size ∧ (B l).size ≤ 1000 from ⟨h, h2⟩)
theorem pred1 : predOf 67 = some digitI := rfl
theorem pred2 : predOf 71 = some wordI := rfl
theorem pred3 : predOf 73 = some nameI := rfl
set_option maxRecDepth 100000 in
theorem first_fun : FunV 47 FFirst := by
  refine fun_of_run (E := envOf [(67, FDigit), (68, FRun), (69, FTextSize), (70, FGreat), (72, FSmall), (74, FSignSize)]) (k := 1) (envOK_of _ ⟨tkdigit_fun, run_fun, textsize_fun, tkgreat_fun, tksmall_fun, signsize_fun, trivial⟩) (by kernel_rfl) Tryz.func47 rfl (fun a w => Tryz.call47 a w) Tryz.ntmps47 (by kernel_rfl) (by decide) (by decide) ?_
  intro us r hF hdat
  unfold FFirst at hF
  split at hF
  case h_2 => cases hF
  rename_i s
  split at hF
  case isFalse => cases hF
  rename_i hs
  cases hF
  refine ⟨rfl, ?_⟩
  obtain ⟨l, rfl⟩ := B_of s
  rw [B_size] at hs
  rw [B_bytes]
  cases l with
  | nil => simp at hs
  | cons b l =>
  have c5 : byteV (B (b :: l)) 0 = ((b.toNat : Nat) : Int) := byteV_B (i := 0) rfl
  have c6 : (0 : Int) < ((B (b :: l)).size : Int) := by rw [B_size, List.length_cons]; omega
  have r1 := FRun_eq (l := b :: l) pred1 hs.2
  have r2 := FRun_eq (l := b :: l) pred2 hs.2
  have r3 := FRun_eq (l := b :: l) pred3 hs.2
  have r4 := FTextSize_eq hs.1 hs.2
  have r5 := FSignSize_eq hs.1 hs.2
  cases h1 : digitI (b.toNat : Int)
  · by_cases h2 : b = 34
    · have e : firstP (b :: l) = (2, textP (b :: l)) := first_quote h1 h2
      have d1 : decide (((b.toNat : Nat) : Int) = 34) = true := by rw [byte_eq (c := 34) (n := 34) rfl]; exact decide_eq_true h2
      simp (decide := true) (maxDischargeDepth := 200) only [go_sem, FDigit, h1, d1, c5, c6, r4, e, Tryz.results47]
      rfl
    · have d1 : decide (((b.toNat : Nat) : Int) = 34) = false := by rw [byte_eq (c := 34) (n := 34) rfl]; exact decide_eq_false h2
      cases h3 : greatI (b.toNat : Int)
      · cases h4 : smallI (b.toNat : Int)
        · have e : firstP (b :: l) = (5, signP (b :: l)) := first_sign h1 h2 h3 h4
          simp (decide := true) (maxDischargeDepth := 200) only [go_sem, FDigit, FGreat, FSmall, h1, h3, h4, d1, c5, c6, r5, e, Tryz.results47]
          rfl
        · have e : firstP (b :: l) = (4, spanL nameI (b :: l)) := first_small h1 h2 h3 h4
          simp (decide := true) (maxDischargeDepth := 200) only [go_sem, FDigit, FGreat, FSmall, h1, h3, h4, d1, c5, c6, r3, e, Tryz.results47]
          rfl
      · have e : firstP (b :: l) = (3, spanL wordI (b :: l)) := first_great h1 h2 h3
        simp (decide := true) (maxDischargeDepth := 200) only [go_sem, FDigit, FGreat, h1, h3, d1, c5, c6, r2, e, Tryz.results47]
        rfl
  · have e : firstP (b :: l) = (1, spanL digitI (b :: l)) := first_digit h1
    simp (decide := true) (maxDischargeDepth := 200) only [go_sem, FDigit, h1, c5, c6, r1, e, Tryz.results47]
    rfl


def FReplA : List V → Option V
  | [.x (.string s), .x (.string a), .x (.string b)] => if s.size ≤ 1000 ∧ 1 ≤ a.size ∧ b.size ≤ 1000 then some (.x (.string (B (Lib.replaceAll s.data.toList a.data.toList b.data.toList)))) else none
  | _ => none
theorem repla_fun : FunV 60 FReplA := by
  refine ⟨fun a w => Tryz.call60 a w, fun m w vs us r hF hd hr hj hg => ?_⟩
  unfold FReplA at hF
  split at hF
  case h_2 => cases hF
  rename_i s a b
  split at hF
  case isFalse => cases hF
  rename_i h
  cases hF
  obtain rfl := args_eq (xs := [.string s, .string a, .string b]) hr rfl
  obtain ⟨mx, hmx⟩ := Glob.maxLen hj
  have hc : Lib.countB s a ≤ 1001 := Nat.le_trans (Lib.count_le _ _) (by have : s.data.toList.length = s.size := rfl; omega)
  have hm : Lib.countB s a * b.size ≤ 1001 * 1000 := Nat.mul_le_mul hc h.2.2
  refine (Tryz.strings_ReplaceAll s a b mx w (by omega) hmx h.2.1 (by omega)).mono ?_
  rintro e w' ⟨rfl, hb⟩
  exact ⟨_, m, rfl, .x _, hb, fun _ _ => rfl⟩
theorem FReplA_eq {l : List UInt8} (h : l.length ≤ 1000) : FReplA [.x (.string (B l)), .x (.string ⟨#[34, 34]⟩), .x (.string ⟨#[34]⟩)] = some (.x (.string (B (Lib.replaceAll l [34, 34] [34])))) := by
  exact if_pos (show (B l).size ≤ 1000 ∧ 1 ≤ (⟨#[34, 34]⟩ : ByteArray).size ∧ (⟨#[34]⟩ : ByteArray).size ≤ 1000 from ⟨h, by decide, by decide⟩)
def FTold : List V → Option V
  | [.x (.int .i64 k), .x (.string w)] => if w.size ≤ 1000 ∧ (k = 2 → textP w.data.toList = w.size ∧ 1 ≤ w.size) then some (.x (.string (B (if k = 2 then insideP w.data.toList else w.data.toList)))) else none
  | _ => none
theorem inside_whole {l : List UInt8} (h : textP l = l.length) (h1 : 1 ≤ l.length) : Lib.replaceAll ((l.take (l.length - 1)).drop 1) [34, 34] [34] = insideP l ∧ 2 ≤ l.length := by
  have h0 : textP l ≠ 0 := by omega
  have := inside_is h0
  rw [h, List.take_length] at this
  refine ⟨this, ?_⟩
  cases hq : quoteL (l.drop 1) with
  | none => exact absurd (textP_no (by rw [hq]; rfl)) h0
  | some r =>
    have h2 := textP_yes hq
    have := (quote_le _ _ (Nat.le_refl _) r hq).2.1
    omega
set_option maxRecDepth 100000 in
theorem told_fun : FunV 48 FTold := by
  refine fun_of_run (E := envOf [(60, FReplA), (75, FClone)]) (k := 2) (envOK_of _ ⟨repla_fun, clone_fun, trivial⟩) (by kernel_rfl) Tryz.func48 rfl (fun a w => Tryz.call48 a w) Tryz.ntmps48 (by kernel_rfl) (by decide) (by decide) ?_
  intro us r hF hdat
  unfold FTold at hF
  split at hF
  case h_2 => cases hF
  rename_i k s
  split at hF
  case isFalse => cases hF
  rename_i hs
  cases hF
  refine ⟨rfl, ?_⟩
  obtain ⟨l, rfl⟩ := B_of s
  rw [B_size, B_bytes] at hs
  rw [B_bytes]
  by_cases hk : k = 2
  · subst hk
    obtain ⟨h1, h2⟩ := hs.2 rfl
    obtain ⟨hin, hl2⟩ := inside_whole h1 h2
    have c1 : bWrap .i64 (((B l).size : Int) - 1) = ((l.length - 1 : Nat) : Int) := by rw [B_size, bwrap_of (by unfold inR; omega)]; omega
    have c2 : (1 : Int) ≤ ((l.length - 1 : Nat) : Int) := by omega
    have c3 : ((l.length - 1 : Nat) : Int) ≤ ((B l).size : Int) := by rw [B_size]; omega
    have c4 : subV (B l) 1 ((l.length - 1 : Nat) : Int) = B ((l.take (l.length - 1)).drop 1) := subV_B l 1 (l.length - 1)
    have hlen : ((l.take (l.length - 1)).drop 1).length ≤ 1000 := by simp; omega
    have r1 := FReplA_eq hlen
    rw [hin] at r1
    have h3 : (B (insideP l)).size ≤ 281474976710656 := by rw [B_size]; have := inside_le l; omega
    simp (decide := true) (maxDischargeDepth := 200) only [go_sem, c1, c2, c3, c4, r1, FClone, h3, Tryz.results48]
  · have d1 := decide_eq_false hk
    have h3 : (B l).size ≤ 281474976710656 := by rw [B_size]; omega
    simp (decide := true) (maxDischargeDepth := 200) only [go_sem, hk, d1, FClone, h3, Tryz.results48]

end Go.Proofs.YteibnmlfipkmeaaGreatDoor

/- Formulas taken apart: token.Split, as a function of plain data. -/
namespace Go.Proofs.YteibnmlfipkmeaaGreatDoor
open Go Go.RowKit
set_option linter.unusedSimpArgs false

theorem push_tok {a : List Tk} (h : a.length ≤ 1000000) (L : List (Nat × (List V → Option V))) (k i : Int) (s : ByteArray) (st : St) (d tok : Nat) (nl : Bool) (t' : Option Nat) :
    growV (envOf L) st (some d) 74 (.sl (a.map tokV).isEmpty 3 (a.map tokV) (some tok)) (.sl nl 3 [.agg [.x (.int .i64 k), .x (.int .i64 i), .x (.string s)]] t') =
      some ⟨upd (strip tok (strip d st.t)) d (.sl false 3 (a.map tokV ++ [.agg [.x (.int .i64 k), .x (.int .i64 i), .x (.string s)]]) (some d)), st.b⟩ := by
  refine growV_acc (E := envOf L) (n := 3) sz74 by74 ze74 (by decide) rfl rfl ?_ ?_ st d tok nl t'
  · rw [List.length_map]; omega
  · rw [List.length_map]; omega
theorem FTold_eq {l : List UInt8} (hl : l.length ≤ 1000) (h0 : (firstP l).2 ≠ 0) : FTold [.x (.int .i64 (((firstP l).1 : Nat) : Int)), .x (.string (B (l.take (firstP l).2)))] = some (.x (.string (B (tellP l)))) := by
  have hle := firstP_le l
  have key : (((firstP l).1 : Nat) : Int) = 2 → textP (l.take (firstP l).2) = (l.take (firstP l).2).length ∧ 1 ≤ (l.take (firstP l).2).length ∧ insideP (l.take (firstP l).2) = insideP l := fun h => by
    have e := first_two (show (firstP l).1 = 2 by omega)
    rw [e] at h0 hle ⊢
    obtain ⟨h1, h2⟩ := text_take h0
    rw [List.length_take]
    exact ⟨by rw [h1]; omega, by omega, h2⟩
  have hc : (B (l.take (firstP l).2)).size ≤ 1000 ∧ ((((firstP l).1 : Nat) : Int) = 2 → textP (B (l.take (firstP l).2)).data.toList = (B (l.take (firstP l).2)).size ∧ 1 ≤ (B (l.take (firstP l).2)).size) := by
    rw [B_size, B_bytes]
    exact ⟨by rw [List.length_take]; omega, fun h => ⟨(key h).1, (key h).2.1⟩⟩
  refine (if_pos hc).trans ?_
  rw [B_bytes]
  unfold tellP
  by_cases h : (firstP l).1 = 2
  · rw [if_pos (by omega), if_pos h, (key (by omega)).2.2]
  · rw [if_neg (by omega), if_neg h]
set_option maxHeartbeats 2000000 in
set_option maxRecDepth 100000 in
theorem split_fun : FunV 24 FSplit := by
  refine fun_of_run (E := envOf [(47, FFirst), (48, FTold)]) (k := 1) (envOK_of _ ⟨first_fun, told_fun, trivial⟩) (by kernel_rfl) Tryz.func24 rfl (fun a w => Tryz.call24 a w) Tryz.ntmps24 (by kernel_rfl) (by decide) (by decide) ?_
  intro us r hF hdat
  unfold FSplit at hF
  split at hF
  case h_2 => cases hF
  rename_i s
  cases hF
  refine ⟨rfl, ?_⟩
  obtain ⟨l, rfl⟩ := B_of s
  rw [B_bytes]
  by_cases hlen : 200 < l.length
  · have d0 : decide ((200 : Int) < ((B l).size : Int)) = true := decide_eq_true (by rw [B_size]; omega)
    have hs : 200 < (B l).size := hlen
    rw [if_pos hs]
    simp (decide := true) (maxDischargeDepth := 200) only [go_sem, d0, Tryz.results24]
  · have d0 : decide ((200 : Int) < ((B l).size : Int)) = false := decide_eq_false (by rw [B_size]; omega)
    rw [if_neg (show ¬ 200 < (B l).size from hlen)]
    simp (decide := true) (maxDischargeDepth := 200) only [go_sem, d0, Tryz.results24]
    refine loop_nil 5 3 45 (by simp (decide := true) only [go_sem]; rfl) ?_
    refine loop_of (X := {p : Nat × List Tk × Nat // Part l p.1 p.2.1 p.2.2}) (fun p => [(0, .x (.string (B l))), (5, .sl (p.1.2.1.map tokV).isEmpty 3 (p.1.2.1.map tokV) (some 45)), (6, .x (.int .i64 ((p.1.1 : Nat) : Int)))]) (fun _ => []) (fun p => l.length - p.1.1) ⟨(0, [], l.length + 1), Part.start l⟩ (by simp (decide := true) only [go_sem]; exact ⟨rfl, rfl⟩) trivial (fun ⟨⟨i, a, f⟩, hp⟩ => ?_)
    simp only at hp
    have hle := hp.le
    by_cases h : i < l.length
    · obtain ⟨b, hb⟩ := get_of h
      have d1 : decide ((i : Int) < ((B l).size : Int)) = true := decide_eq_true (by rw [B_size]; omega)
      have c2 : (0 : Int) ≤ (i : Int) := by omega
      have c3 : (i : Int) < ((B l).size : Int) := by rw [B_size]; omega
      have c3' : (i : Int) ≤ ((B l).size : Int) := by rw [B_size]; omega
      have c4 := count_up (i := i) (by omega)
      have c5 := byteV_B hb
      by_cases h32 : b = 32
      · have d2 : decide (((b.toNat : Nat) : Int) = 32) = true := by rw [byte_eq (c := 32) (n := 32) rfl]; exact decide_eq_true h32
        simp (decide := true) (maxDischargeDepth := 200) only [go_sem, d1, d2, c2, c3, c4, c5, Tryz.results24]
        refine ⟨⟨(i + 1, a, f - 1), hp.blank (h32 ▸ hb)⟩, ?_, trivial, by simp only; omega⟩
        simp (decide := true) only [go_sem]
      · have d2 : decide (((b.toNat : Nat) : Int) = 32) = false := by rw [byte_eq (c := 32) (n := 32) rfl]; exact decide_eq_false h32
        have e1 := sub_drop l i
        have hdl : (l.drop i).length = l.length - i := List.length_drop
        have e2 := FFirst_eq (l := l.drop i) (by omega) (by omega)
        have hfl := firstP_le (l.drop i)
        by_cases h0 : (firstP (l.drop i)).2 = 0
        · have d3 : decide ((((firstP (l.drop i)).2 : Nat) : Int) = 0) = true := decide_eq_true (by omega)
          have e3 := splitV_no (hp.bad hb h32 h0)
          simp (decide := true) (maxDischargeDepth := 200) only [go_sem, d1, d2, d3, c2, c3, c3', c4, c5, e1, e2, e3, Tryz.results24]
        · have d3 : decide ((((firstP (l.drop i)).2 : Nat) : Int) = 0) = false := decide_eq_false (by omega)
          have c6 : bWrap .i64 ((i : Int) + (((firstP (l.drop i)).2 : Nat) : Int)) = ((i + (firstP (l.drop i)).2 : Nat) : Int) := by rw [bwrap_of (by unfold inR; omega)]; omega
          have c7 : (i : Int) ≤ ((i + (firstP (l.drop i)).2 : Nat) : Int) := by omega
          have c8 : ((i + (firstP (l.drop i)).2 : Nat) : Int) ≤ ((B l).size : Int) := by rw [B_size]; omega
          have e4 : subV (B l) (i : Int) ((i + (firstP (l.drop i)).2 : Nat) : Int) = B ((l.drop i).take (firstP (l.drop i)).2) := by rw [subV_B, List.drop_take, Nat.add_sub_cancel_left]
          have e5 := FTold_eq (l := l.drop i) (by omega) h0
          have hfew := hp.few
          have g1 := push_tok (a := a) (by omega)
          simp (decide := true) (maxDischargeDepth := 200) only [go_sem, d1, d2, d3, c2, c3, c3', c4, c5, c6, c7, c8, e1, e2, e4, e5, g1, Tryz.results24]
          refine ⟨⟨(i + (firstP (l.drop i)).2, a ++ [((firstP (l.drop i)).1, i, tellP (l.drop i))], f - 1), hp.tok hb h32 h0⟩, ?_, trivial, by simp only; omega⟩
          simp (decide := true) only [go_sem, tok_push, tok_some]
    · have d1 : decide ((i : Int) < ((B l).size : Int)) = false := decide_eq_false (by rw [B_size]; omega)
      have e3 := splitV_ok (hp.done h)
      simp (decide := true) (maxDischargeDepth := 200) only [go_sem, d1, e3, Tryz.results24]

end Go.Proofs.YteibnmlfipkmeaaGreatDoor

/- Formulas taken apart: the reference, as functions of plain data. -/
namespace Go.Proofs.YteibnmlfipkmeaaGreatDoor
open Go Go.RowKit
set_option linter.unusedSimpArgs false

theorem sub_one {l : List UInt8} {i : Nat} {b : UInt8} (h : l[i]? = some b) : subV (B l) (i : Int) ((i + 1 : Nat) : Int) = B [b] := by
  rw [subV_B, List.drop_take, Nat.add_sub_cancel_left, drop_cons h]; rfl
def quoteV (l : List UInt8) (i : Nat) : V := match quoteL (l.drop (i + 1)) with
  | some r => .tup [.x (.string (B r.1)), .x (.int .i64 ((i + 1 + r.2 : Nat) : Int)), .x (.bool true)]
  | none => .tup [.x (.string ⟨#[]⟩), .x (.int .i64 0), .x (.bool false)]
theorem quoteV_yes {l : List UInt8} {i : Nat} {r : List UInt8 × Nat} (h : quoteL (l.drop (i + 1)) = some r) : quoteV l i = .tup [.x (.string (B r.1)), .x (.int .i64 ((i + 1 + r.2 : Nat) : Int)), .x (.bool true)] := by unfold quoteV; rw [h]
theorem quoteV_no {l : List UInt8} {i : Nat} (h : quoteL (l.drop (i + 1)) = none) : quoteV l i = .tup [.x (.string ⟨#[]⟩), .x (.int .i64 0), .x (.bool false)] := by unfold quoteV; rw [h]
def FQuoted : List V → Option V
  | [.x (.string s), .x (.int .i64 i)] => if 0 ≤ i ∧ i < s.size ∧ s.size ≤ 1000 then some (quoteV s.data.toList i.toNat) else none
  | _ => none
theorem FQuoted_eq {l : List UInt8} {i : Nat} (h : i < l.length) (hl : l.length ≤ 1000) : FQuoted [.x (.string (B l)), .x (.int .i64 (i : Int))] = some (quoteV l i) := by
  exact if_pos (show 0 ≤ (i : Int) ∧ (i : Int) < (B l).size ∧ (B l).size ≤ 1000 from ⟨by omega, by rw [B_size]; omega, hl⟩)
set_option maxHeartbeats 1000000 in
set_option maxRecDepth 100000 in
theorem rquoted_fun : FunV 54 FQuoted := by
  refine fun_of_run (E := envOf []) (k := 2) (envOK_of _ trivial) (by kernel_rfl) Tryz.func54 rfl (fun a w => Tryz.call54 a w) Tryz.ntmps54 (by kernel_rfl) (by decide) (by decide) ?_
  intro us r hF hdat
  unfold FQuoted at hF
  split at hF
  case h_2 => cases hF
  rename_i s i
  split at hF
  case isFalse => cases hF
  rename_i hs
  cases hF
  refine ⟨rfl, ?_⟩
  obtain ⟨l, rfl⟩ := B_of s
  obtain ⟨i, rfl⟩ := Int.eq_ofNat_of_zero_le hs.1
  rw [B_size] at hs
  rw [B_bytes, Int.toNat_natCast]
  obtain ⟨_, hi, hl⟩ := hs
  have c1 := count_up (i := i) (by omega)
  simp (decide := true) (maxDischargeDepth := 200) only [go_sem, c1, Tryz.results54]
  refine loop_of (X := {p : Nat × List UInt8 // i + 1 ≤ p.1 ∧ p.1 ≤ l.length ∧ p.2.length ≤ p.1 ∧ quoteL (l.drop (i + 1)) = (quoteL (l.drop p.1)).map fun r => (p.2 ++ r.1, r.2 + (p.1 - (i + 1)))}) (fun p => [(0, .x (.string (B l))), (7, .x (.string (B p.1.2))), (8, .x (.int .i64 ((p.1.1 : Nat) : Int)))]) (fun _ => []) (fun p => l.length - p.1.1) ⟨(i + 1, []), by simp only; omega, by simp only; omega, by simp, by simp⟩ (by simp (decide := true) only [go_sem] <;> (repeat' first | rfl | constructor)) trivial (fun ⟨⟨k, t⟩, h1, h2, h3, hz⟩ => ?_)
  simp only at h1 h2 h3 hz
  by_cases h : k < l.length
  · obtain ⟨b, hb⟩ := get_of h
    have d0 : decide ((k : Int) < ((B l).size : Int)) = true := decide_eq_true (by rw [B_size]; omega)
    have c2 : (0 : Int) ≤ (k : Int) := by omega
    have c3 : (k : Int) < ((B l).size : Int) := by rw [B_size]; omega
    have c4 := count_up (i := k) (by omega)
    have c5 := byteV_B hb
    by_cases hq : b = 34
    · subst hq
      have d1 : decide ((((34 : UInt8).toNat : Nat) : Int) = 34) = true := rfl
      by_cases hl1 : k + 1 = l.length
      · have d2 : decide (((k + 1 : Nat) : Int) < ((B l).size : Int)) = false := decide_eq_false (by rw [B_size]; omega)
        have e : quoteL (l.drop k) = some ([], 1) := by rw [drop_cons hb]; exact quote_end (by rw [drop_get]; simp [List.getElem?_eq_none (show l.length ≤ k + 1 + 0 by omega)])
        have e2 := quoteV_yes (l := l) (i := i) (r := (t, k - i)) (by rw [hz, e]; simp; omega)
        have e3 : ((i + 1 + (k - i) : Nat) : Int) = ((k + 1 : Nat) : Int) := by omega
        simp (decide := true) (maxDischargeDepth := 200) only [go_sem, d0, d1, d2, c2, c3, c4, c5, e2, e3, Tryz.results54]
      · obtain ⟨c, hc⟩ := get_of (show k + 1 < l.length by omega)
        have d2 : decide (((k + 1 : Nat) : Int) < ((B l).size : Int)) = true := decide_eq_true (by rw [B_size]; omega)
        have c2' : (0 : Int) ≤ ((k + 1 : Nat) : Int) := by omega
        have c3' : ((k + 1 : Nat) : Int) < ((B l).size : Int) := by rw [B_size]; omega
        have c4' := count_up (i := k + 1) (by omega)
        have c5' := byteV_B hc
        by_cases hq' : c = 34
        · subst hq'
          have e : quoteL (l.drop k) = (quoteL (l.drop (k + 2))).map fun r => (34 :: r.1, r.2 + 2) := by rw [drop_cons hb, drop_cons hc]; exact quote_two _
          have c6 : catV (B t) ⟨#[34]⟩ = some (.str (B (t ++ [34]))) := cat_B (by simp; omega)
          simp (decide := true) (maxDischargeDepth := 200) only [go_sem, d0, d1, d2, c2, c3, c4, c5, c2', c3', c4', c5', c6, Tryz.results54]
          refine ⟨⟨(k + 2, t ++ [34]), by simp only; omega, by simp only; omega, by simp; omega, by rw [hz, e, Option.map_map]; congr 1; funext r; simp only [Function.comp, Prod.mk.injEq, List.append_assoc, List.singleton_append, true_and]; omega⟩, ?_, trivial, by simp only; omega⟩
          simp (decide := true) only [go_sem]
        · have d3 : decide (((c.toNat : Nat) : Int) = 34) = false := by rw [byte_eq (c := 34) (n := 34) rfl]; exact decide_eq_false hq'
          have e : quoteL (l.drop k) = some ([], 1) := by rw [drop_cons hb]; exact quote_end (by rw [drop_get]; simp [hc, hq'])
          have e2 := quoteV_yes (l := l) (i := i) (r := (t, k - i)) (by rw [hz, e]; simp; omega)
          have e3 : ((i + 1 + (k - i) : Nat) : Int) = ((k + 1 : Nat) : Int) := by omega
          simp (decide := true) (maxDischargeDepth := 200) only [go_sem, d0, d1, d2, d3, c2, c3, c4, c5, c2', c3', c5', e2, e3, Tryz.results54]
    · have d1 : decide (((b.toNat : Nat) : Int) = 34) = false := by rw [byte_eq (c := 34) (n := 34) rfl]; exact decide_eq_false hq
      have e : quoteL (l.drop k) = (quoteL (l.drop (k + 1))).map fun r => (b :: r.1, r.2 + 1) := by rw [drop_cons hb]; exact quote_other hq
      have c6 : catV (B t) (B [b]) = some (.str (B (t ++ [b]))) := cat_B (by simp; omega)
      have c7 := sub_one hb
      have c8 : (k : Int) ≤ ((k + 1 : Nat) : Int) := by omega
      have c9 : ((k + 1 : Nat) : Int) ≤ ((B l).size : Int) := by rw [B_size]; omega
      simp (decide := true) (maxDischargeDepth := 200) only [go_sem, d0, d1, c2, c3, c4, c5, c6, c7, c8, c9, Tryz.results54]
      refine ⟨⟨(k + 1, t ++ [b]), by simp only; omega, by simp only; omega, by simp; omega, by rw [hz, e, Option.map_map]; congr 1; funext r; simp only [Function.comp, Prod.mk.injEq, List.append_assoc, List.singleton_append, true_and]; omega⟩, ?_, trivial, by simp only; omega⟩
      simp (decide := true) only [go_sem]
  · have d0 : decide ((k : Int) < ((B l).size : Int)) = false := decide_eq_false (by rw [B_size]; omega)
    have e2 := quoteV_no (l := l) (i := i) (by rw [hz, List.drop_eq_nil_of_le (by omega)]; rfl)
    simp (decide := true) (maxDischargeDepth := 200) only [go_sem, d0, e2, Tryz.results54]


def signL : List UInt8 := [43, 45, 42, 47, 38, 61, 60, 62, 40, 41, 44, 58, 33]
theorem signB_at {b : UInt8} {j : Nat} (h : signL[j]? = some b) : signB b = true := List.contains_iff_mem.2 (List.mem_of_getElem? h)
theorem signB_none {b : UInt8} (h : ∀ (j : Nat) (c : UInt8), signL[j]? = some c → c ≠ b) : signB b = false := by
  cases hs : signB b
  · rfl
  · obtain ⟨j, hj⟩ := List.getElem?_of_mem (List.contains_iff_mem.1 hs)
    exact absurd rfl (h j b hj)
def FRSign : List V → Option V
  | [.x (.string s), .x (.int .i64 i)] => if 0 ≤ i ∧ i < s.size ∧ s.size ≤ 1000 then some (.x (.int .i64 ((signP (s.data.toList.drop i.toNat) : Nat) : Int))) else none
  | _ => none
theorem FRSign_eq {l : List UInt8} {i : Nat} (h : i < l.length) (hl : l.length ≤ 1000) : FRSign [.x (.string (B l)), .x (.int .i64 (i : Int))] = some (.x (.int .i64 ((signP (l.drop i) : Nat) : Int))) := by
  exact if_pos (show 0 ≤ (i : Int) ∧ (i : Int) < (B l).size ∧ (B l).size ≤ 1000 from ⟨by omega, by rw [B_size]; omega, hl⟩)
theorem signP_drop {l : List UInt8} {i : Nat} {b : UInt8} (h : l[i]? = some b) : signP (l.drop i) = if twoB ((l.drop i).take 2) = true then 2 else if signB b = true then 1 else 0 := by
  rw [drop_cons h, signP]
set_option maxHeartbeats 2000000 in
set_option maxRecDepth 100000 in
theorem rsign_fun : FunV 55 FRSign := by
  refine fun_of_run (E := envOf []) (k := 2) (envOK_of _ trivial) (by kernel_rfl) Tryz.func55 rfl (fun a w => Tryz.call55 a w) Tryz.ntmps55 (by kernel_rfl) (by decide) (by decide) ?_
  intro us r hF hdat
  unfold FRSign at hF
  split at hF
  case h_2 => cases hF
  rename_i s i
  split at hF
  case isFalse => cases hF
  rename_i hs
  cases hF
  refine ⟨rfl, ?_⟩
  obtain ⟨l, rfl⟩ := B_of s
  obtain ⟨i, rfl⟩ := Int.eq_ofNat_of_zero_le hs.1
  rw [B_size] at hs
  rw [B_bytes, Int.toNat_natCast]
  obtain ⟨_, hi, hl⟩ := hs
  obtain ⟨b, hb⟩ := get_of (show i < l.length by omega)
  have c1 := count_up (i := i) (by omega)
  have c2 : (0 : Int) ≤ (i : Int) := by omega
  have c3 : (i : Int) < ((B l).size : Int) := by rw [B_size]; omega
  have c5 := byteV_B hb
  have a0 : (⟨#[]⟩ : ByteArray) = B [] := rfl
  have a2 : (⟨#[60, 62]⟩ : ByteArray) = B [60, 62] := rfl
  have a3 : (⟨#[60, 61]⟩ : ByteArray) = B [60, 61] := rfl
  have a4 : (⟨#[62, 61]⟩ : ByteArray) = B [62, 61] := rfl
  have a5 : (⟨#[43, 45, 42, 47, 38, 61, 60, 62, 40, 41, 44, 58, 33]⟩ : ByteArray) = B signL := rfl
  have hsp := signP_drop hb
  obtain ⟨w, hw⟩ : ∃ w, (l.drop i).take 2 = w := ⟨_, rfl⟩
  rw [hw] at hsp
  by_cases h1 : i + 1 < l.length
  · have d9 : decide (((i + 1 : Nat) : Int) < ((B l).size : Int)) = true := decide_eq_true (by rw [B_size]; omega)
    have c6 : bWrap .i64 ((i : Int) + 2) = ((i + 2 : Nat) : Int) := by rw [bwrap_of (by unfold inR; omega)]; omega
    have c7 : (i : Int) ≤ ((i + 2 : Nat) : Int) := by omega
    have c8 : ((i + 2 : Nat) : Int) ≤ ((B l).size : Int) := by rw [B_size]; omega
    have c9 : subV (B l) (i : Int) ((i + 2 : Nat) : Int) = B w := by rw [subV_B, List.drop_take, Nat.add_sub_cancel_left, hw]
    cases ht : twoB w
    · rw [ht] at hsp
      simp only [Bool.false_eq_true, if_false] at hsp
      simp only [twoB, Bool.or_eq_false_iff, decide_eq_false_iff_not] at ht
      obtain ⟨⟨t1, t2⟩, t3⟩ := ht
      have e1 : decide (B w = B [60, 62]) = false := decide_eq_false (fun h => t1 (B_inj.1 h))
      have e2 : decide (B w = B [60, 61]) = false := decide_eq_false (fun h => t2 (B_inj.1 h))
      have e3 : decide (B w = B [62, 61]) = false := decide_eq_false (fun h => t3 (B_inj.1 h))
      simp (decide := true) (maxDischargeDepth := 200) only [go_sem, a2, a3, a4, a5, d9, c1, c2, c6, c7, c8, c9, e1, e2, e3, Tryz.results55]
      refine loop_of (X := {k : Nat // k ≤ 13 ∧ ∀ (j : Nat) (c : UInt8), j < k → signL[j]? = some c → c ≠ b}) (fun k => [(0, .x (.string (B l))), (1, .x (.int .i64 (i : Int))), (6, .x (.string (B signL))), (7, .x (.int .i64 ((k.1 : Nat) : Int)))]) (fun _ => []) (fun k => 13 - k.1) ⟨0, by omega, fun j c hj => by omega⟩ (by simp (decide := true) only [go_sem] <;> (repeat' first | rfl | constructor)) trivial (fun ⟨k, hk, hz⟩ => ?_)
      by_cases h : k < 13
      · obtain ⟨c, hc⟩ := get_of (l := signL) (i := k) h
        have d0 : decide ((k : Int) < ((B signL).size : Int)) = true := decide_eq_true (by rw [B_size]; show (k : Int) < 13; omega)
        have k2 : (0 : Int) ≤ (k : Int) := by omega
        have k3 : (k : Int) < ((B signL).size : Int) := by rw [B_size]; show (k : Int) < 13; omega
        have k4 := count_up (i := k) (by omega)
        have k5 := byteV_B hc
        by_cases hcb : c = b
        · have d1 : decide (((c.toNat : Nat) : Int) = ((b.toNat : Nat) : Int)) = true := decide_eq_true (by rw [hcb])
          have e5 : ((signP (l.drop i) : Nat) : Int) = 1 := by rw [hsp, signB_at (hcb ▸ hc)]; rfl
          simp (decide := true) (maxDischargeDepth := 200) only [go_sem, d0, d1, k2, k3, k4, k5, c2, c3, c5, e5, Tryz.results55]
        · have d1 : decide (((c.toNat : Nat) : Int) = ((b.toNat : Nat) : Int)) = false := decide_eq_false (fun e => hcb (UInt8.toNat_inj.1 (by omega)))
          simp (decide := true) (maxDischargeDepth := 200) only [go_sem, d0, d1, k2, k3, k4, k5, c2, c3, c5, Tryz.results55]
          refine ⟨⟨k + 1, by omega, fun j c' hj hc' => ?_⟩, ?_, trivial, by simp only; omega⟩
          · by_cases hjk : j = k
            · subst hjk; rw [hc] at hc'; cases hc'; exact hcb
            · exact hz j c' (by omega) hc'
          · simp (decide := true) only [go_sem]
      · have d0 : decide ((k : Int) < ((B signL).size : Int)) = false := decide_eq_false (by rw [B_size]; show ¬ (k : Int) < 13; omega)
        have e5 : ((signP (l.drop i) : Nat) : Int) = 0 := by
          rw [hsp, signB_none (fun j c hc => hz j c (by have hj := (List.getElem?_eq_some_iff.1 hc).1; have h13 : signL.length = 13 := rfl; omega) hc)]; rfl
        simp (decide := true) (maxDischargeDepth := 200) only [go_sem, d0, e5, Tryz.results55]
    · have e5 : ((signP (l.drop i) : Nat) : Int) = 2 := by rw [hsp, ht]; rfl
      simp only [twoB, Bool.or_eq_true, decide_eq_true_eq] at ht
      rcases ht with (ht | ht) | ht
      · rw [ht] at c9
        have e1 : decide (B [60, 62] = B [60, 62]) = true := decide_eq_true rfl
        simp (decide := true) (maxDischargeDepth := 200) only [go_sem, a2, a3, a4, d9, c1, c2, c6, c7, c8, c9, e1, e5, Tryz.results55]
      · rw [ht] at c9
        have e1 : decide (B [60, 61] = B [60, 62]) = false := by rw [decide_eq_false_iff_not, B_inj]; decide
        have e2 : decide (B [60, 61] = B [60, 61]) = true := decide_eq_true rfl
        simp (decide := true) (maxDischargeDepth := 200) only [go_sem, a2, a3, a4, d9, c1, c2, c6, c7, c8, c9, e1, e2, e5, Tryz.results55]
      · rw [ht] at c9
        have e1 : decide (B [62, 61] = B [60, 62]) = false := by rw [decide_eq_false_iff_not, B_inj]; decide
        have e2 : decide (B [62, 61] = B [60, 61]) = false := by rw [decide_eq_false_iff_not, B_inj]; decide
        have e3 : decide (B [62, 61] = B [62, 61]) = true := decide_eq_true rfl
        simp (decide := true) (maxDischargeDepth := 200) only [go_sem, a2, a3, a4, d9, c1, c2, c6, c7, c8, c9, e1, e2, e3, e5, Tryz.results55]
  · have d9 : decide (((i + 1 : Nat) : Int) < ((B l).size : Int)) = false := decide_eq_false (by rw [B_size]; omega)
    have ht : twoB w = false := by
      rw [← hw, drop_cons hb, List.drop_eq_nil_of_le (show l.length ≤ i + 1 by omega)]
      simp [twoB]
    rw [ht] at hsp
    simp only [Bool.false_eq_true, if_false] at hsp
    have e1 : decide (B [] = B [60, 62]) = false := by rw [decide_eq_false_iff_not, B_inj]; decide
    have e2 : decide (B [] = B [60, 61]) = false := by rw [decide_eq_false_iff_not, B_inj]; decide
    have e3 : decide (B [] = B [62, 61]) = false := by rw [decide_eq_false_iff_not, B_inj]; decide
    simp (decide := true) (maxDischargeDepth := 200) only [go_sem, a0, a2, a3, a4, a5, d9, c1, c2, e1, e2, e3, Tryz.results55]
    refine loop_of (X := {k : Nat // k ≤ 13 ∧ ∀ (j : Nat) (c : UInt8), j < k → signL[j]? = some c → c ≠ b}) (fun k => [(0, .x (.string (B l))), (1, .x (.int .i64 (i : Int))), (6, .x (.string (B signL))), (7, .x (.int .i64 ((k.1 : Nat) : Int)))]) (fun _ => []) (fun k => 13 - k.1) ⟨0, by omega, fun j c hj => by omega⟩ (by simp (decide := true) only [go_sem] <;> (repeat' first | rfl | constructor)) trivial (fun ⟨k, hk, hz⟩ => ?_)
    by_cases h : k < 13
    · obtain ⟨c, hc⟩ := get_of (l := signL) (i := k) h
      have d0 : decide ((k : Int) < ((B signL).size : Int)) = true := decide_eq_true (by rw [B_size]; show (k : Int) < 13; omega)
      have k2 : (0 : Int) ≤ (k : Int) := by omega
      have k3 : (k : Int) < ((B signL).size : Int) := by rw [B_size]; show (k : Int) < 13; omega
      have k4 := count_up (i := k) (by omega)
      have k5 := byteV_B hc
      by_cases hcb : c = b
      · have d1 : decide (((c.toNat : Nat) : Int) = ((b.toNat : Nat) : Int)) = true := decide_eq_true (by rw [hcb])
        have e5 : ((signP (l.drop i) : Nat) : Int) = 1 := by rw [hsp, signB_at (hcb ▸ hc)]; rfl
        simp (decide := true) (maxDischargeDepth := 200) only [go_sem, d0, d1, k2, k3, k4, k5, c2, c3, c5, e5, Tryz.results55]
      · have d1 : decide (((c.toNat : Nat) : Int) = ((b.toNat : Nat) : Int)) = false := decide_eq_false (fun e => hcb (UInt8.toNat_inj.1 (by omega)))
        simp (decide := true) (maxDischargeDepth := 200) only [go_sem, d0, d1, k2, k3, k4, k5, c2, c3, c5, Tryz.results55]
        refine ⟨⟨k + 1, by omega, fun j c' hj hc' => ?_⟩, ?_, trivial, by simp only; omega⟩
        · by_cases hjk : j = k
          · subst hjk; rw [hc] at hc'; cases hc'; exact hcb
          · exact hz j c' (by omega) hc'
        · simp (decide := true) only [go_sem]
    · have d0 : decide ((k : Int) < ((B signL).size : Int)) = false := decide_eq_false (by rw [B_size]; show ¬ (k : Int) < 13; omega)
      have e5 : ((signP (l.drop i) : Nat) : Int) = 0 := by
        rw [hsp, signB_none (fun j c hc => hz j c (by have hj := (List.getElem?_eq_some_iff.1 hc).1; have h13 : signL.length = 13 := rfl; omega) hc)]; rfl
      simp (decide := true) (maxDischargeDepth := 200) only [go_sem, d0, e5, Tryz.results55]


end Go.Proofs.YteibnmlfipkmeaaGreatDoor

/- Formulas taken apart: the reference's Split, as a function of plain data. -/
namespace Go.Proofs.YteibnmlfipkmeaaGreatDoor
open Go Go.RowKit
set_option linter.unusedSimpArgs false

theorem tok_push1 (a : List Tk) (i : Nat) (t : List UInt8) : a.map tokV ++ [.agg [.x (.int .i64 1), .x (.int .i64 ((i : Nat) : Int)), .x (.string (B t))]] = (a ++ [(1, i, t)]).map tokV := tok_push a 1 i t
theorem tok_push2 (a : List Tk) (i : Nat) (t : List UInt8) : a.map tokV ++ [.agg [.x (.int .i64 2), .x (.int .i64 ((i : Nat) : Int)), .x (.string (B t))]] = (a ++ [(2, i, t)]).map tokV := tok_push a 2 i t
theorem tok_push3 (a : List Tk) (i : Nat) (t : List UInt8) : a.map tokV ++ [.agg [.x (.int .i64 3), .x (.int .i64 ((i : Nat) : Int)), .x (.string (B t))]] = (a ++ [(3, i, t)]).map tokV := tok_push a 3 i t
theorem tok_push4 (a : List Tk) (i : Nat) (t : List UInt8) : a.map tokV ++ [.agg [.x (.int .i64 4), .x (.int .i64 ((i : Nat) : Int)), .x (.string (B t))]] = (a ++ [(4, i, t)]).map tokV := tok_push a 4 i t
theorem tok_push5 (a : List Tk) (i : Nat) (t : List UInt8) : a.map tokV ++ [.agg [.x (.int .i64 5), .x (.int .i64 ((i : Nat) : Int)), .x (.string (B t))]] = (a ++ [(5, i, t)]).map tokV := tok_push a 5 i t
theorem great_not {b : UInt8} (h : greatI b.toNat = true) : b ≠ 34 ∧ b ≠ 32 ∧ digitI b.toNat = false := by
  simp only [greatI, digitI, Bool.and_eq_true, decide_eq_true_eq, Bool.and_eq_false_iff, decide_eq_false_iff_not] at *
  refine ⟨?_, ?_, ?_⟩
  · rintro rfl; revert h; decide
  · rintro rfl; revert h; decide
  · omega
theorem small_not {b : UInt8} (h : smallI b.toNat = true) : b ≠ 34 ∧ b ≠ 32 := by
  simp only [smallI, Bool.and_eq_true, decide_eq_true_eq] at *
  refine ⟨?_, ?_⟩ <;> (rintro rfl; revert h; decide)
theorem tell_take {l : List UInt8} {k n : Nat} (h : firstP l = (k, n)) (hk : k ≠ 2) : tellP l = l.take n := by unfold tellP; rw [h]; exact if_neg hk
theorem tell_in {l : List UInt8} {n : Nat} (h : firstP l = (2, n)) : tellP l = insideP l := by unfold tellP; rw [h]; exact if_pos rfl
theorem wordI_is {b : Int} {p q : Bool} (h1 : greatI b = p) (h2 : digitI b = q) : wordI b = (p || q) := by unfold wordI; rw [h1, h2]
theorem nameI_is {b : Int} {p q : Bool} (h1 : smallI b = p) (h2 : digitI b = q) : nameI b = (p || q) := by unfold nameI; rw [h1, h2]
set_option maxHeartbeats 8000000 in
set_option maxRecDepth 100000 in
theorem rsplit_fun : FunV 28 FSplit := by
  refine fun_of_run (E := envOf [(23, FDigit), (53, FGreat), (22, FSmall), (54, FQuoted), (55, FRSign)]) (k := 1) (envOK_of _ ⟨tkrdigit_fun, tkrgreat_fun, tkrsmall_fun, rquoted_fun, rsign_fun, trivial⟩) (by kernel_rfl) Tryz.func28 rfl (fun a w => Tryz.call28 a w) Tryz.ntmps28 (by kernel_rfl) (by decide) (by decide) ?_
  intro us r hF hdat
  unfold FSplit at hF
  split at hF
  case h_2 => cases hF
  rename_i s
  cases hF
  refine ⟨rfl, ?_⟩
  obtain ⟨l, rfl⟩ := B_of s
  rw [B_bytes]
  by_cases hlen : 200 < l.length
  · have d0 : decide ((200 : Int) < ((B l).size : Int)) = true := decide_eq_true (by rw [B_size]; omega)
    have hs : 200 < (B l).size := hlen
    rw [if_pos hs]
    simp (decide := true) (maxDischargeDepth := 200) only [go_sem, d0, Tryz.results28]
  · have d0 : decide ((200 : Int) < ((B l).size : Int)) = false := decide_eq_false (by rw [B_size]; omega)
    rw [if_neg (show ¬ 200 < (B l).size from hlen)]
    simp (decide := true) (maxDischargeDepth := 200) only [go_sem, d0, Tryz.results28]
    refine loop_nil 5 3 70 (by simp (decide := true) only [go_sem]; rfl) ?_
    refine loop_of (X := {p : (Nat × List Tk × Nat) × Nat // Part l p.1.1 p.1.2.1 p.1.2.2 ∧ (p.2 = 70 ∨ p.2 = 100 ∨ p.2 = 130 ∨ p.2 = 149 ∨ p.2 = 41)}) (fun p => [(0, .x (.string (B l))), (5, .sl (p.1.1.2.1.map tokV).isEmpty 3 (p.1.1.2.1.map tokV) (some p.1.2)), (6, .x (.int .i64 ((p.1.1.1 : Nat) : Int)))]) (fun _ => []) (fun p => l.length - p.1.1.1) ⟨((0, [], l.length + 1), 70), Part.start l, by simp⟩ (by simp (decide := true) only [go_sem] <;> (repeat' first | rfl | constructor)) trivial (fun ⟨⟨⟨i, a, f⟩, tk⟩, hp, htk⟩ => ?_)
    simp only at hp htk
    have hle := hp.le
    have hfew := hp.few
    have g1 := push_tok (a := a) (by omega)
    by_cases h : i < l.length
    · obtain ⟨b, hb⟩ := get_of h
      have hcons := drop_cons hb
      have d1 : decide ((i : Int) < ((B l).size : Int)) = true := decide_eq_true (by rw [B_size]; omega)
      have c2 : (0 : Int) ≤ (i : Int) := by omega
      have c3 : (i : Int) < ((B l).size : Int) := by rw [B_size]; omega
      have c4 := count_up (i := i) (by omega)
      have c5 := byteV_B hb
      by_cases h32 : b = 32
      · have d2 : decide (((b.toNat : Nat) : Int) = 32) = true := by rw [byte_eq (c := 32) (n := 32) rfl]; exact decide_eq_true h32
        simp (decide := true) (maxDischargeDepth := 200) only [go_sem, d1, d2, c2, c3, c4, c5, Tryz.results28]
        refine ⟨⟨((i + 1, a, f - 1), tk), hp.blank (h32 ▸ hb), by simpa using htk⟩, ?_, trivial, by simp only; omega⟩
        simp (decide := true) only [go_sem]
      · have d2 : decide (((b.toNat : Nat) : Int) = 32) = false := by rw [byte_eq (c := 32) (n := 32) rfl]; exact decide_eq_false h32
        cases h1 : digitI (b.toNat : Int)
        · cases h3 : greatI (b.toNat : Int)
          · cases h4 : smallI (b.toNat : Int)
            · by_cases hq : b = 34
              · have d3 : decide (((b.toNat : Nat) : Int) = 34) = true := by rw [byte_eq (c := 34) (n := 34) rfl]; exact decide_eq_true hq
                have r1 := FQuoted_eq h (by omega)
                have hfp : firstP (l.drop i) = (2, textP (l.drop i)) := by
                  have := hcons
                  rw [this]
                  exact first_quote h1 hq
                have hdd : (l.drop i).drop 1 = l.drop (i + 1) := List.drop_drop
                cases hqu : quoteL (l.drop (i + 1)) with
                | none =>
                  have e1 := quoteV_no hqu
                  have e3 := splitV_no (hp.bad hb h32 (by rw [hfp]; exact textP_no (by rw [hdd, hqu]; rfl)))
                  simp (decide := true) (maxDischargeDepth := 200) only [go_sem, d1, d2, c2, c3, c4, c5, d3, FDigit, FGreat, FSmall, h1, h3, h4, r1, e1, e3, Tryz.results28]
                | some r =>
                  have e1 := quoteV_yes hqu
                  have htp : textP (l.drop i) = r.2 + 1 := textP_yes (by rw [hdd, hqu])
                  have hin : insideP (l.drop i) = r.1 := by unfold insideP; rw [hdd, hqu]
                  have h0 : (firstP (l.drop i)).2 ≠ 0 := by rw [hfp]; show textP (l.drop i) ≠ 0; omega
                  have hnext := hp.tok hb h32 h0
                  rw [tell_in hfp, hfp, hin] at hnext
                  simp only at hnext
                  rw [htp, show i + (r.2 + 1) = i + 1 + r.2 from by omega] at hnext
                  have hnl := hnext.le
                  simp (decide := true) (maxDischargeDepth := 200) only [go_sem, d1, d2, c2, c3, c4, c5, d3, FDigit, FGreat, FSmall, h1, h3, h4, r1, e1, g1, Tryz.results28]
                  refine ⟨⟨((i + 1 + r.2, a ++ [(2, i, r.1)], f - 1), 149), hnext, by simp⟩, ?_, trivial, by simp only; omega⟩
                  simp (decide := true) only [go_sem, tok_push1, tok_push2, tok_push3, tok_push4, tok_push5, tok_some]
              · have d3 : decide (((b.toNat : Nat) : Int) = 34) = false := by rw [byte_eq (c := 34) (n := 34) rfl]; exact decide_eq_false hq
                have r1 := FRSign_eq h (by omega)
                have hfp : firstP (l.drop i) = (5, signP (l.drop i)) := by
                  have := hcons
                  rw [this]
                  exact first_sign h1 hq h3 h4
                by_cases hz : signP (l.drop i) = 0
                · have d4 : decide (((signP (l.drop i) : Nat) : Int) = 0) = true := decide_eq_true (by omega)
                  have e3 := splitV_no (hp.bad hb h32 (by rw [hfp]; exact hz))
                  simp (decide := true) (maxDischargeDepth := 200) only [go_sem, d1, d2, c2, c3, c4, c5, d3, d4, FDigit, FGreat, FSmall, h1, h3, h4, r1, e3, Tryz.results28]
                · have d4 : decide (((signP (l.drop i) : Nat) : Int) = 0) = false := decide_eq_false (by omega)
                  have hnext := hp.tok hb h32 (by rw [hfp]; exact hz)
                  rw [tell_take hfp (by decide), hfp] at hnext
                  simp only at hnext
                  obtain ⟨n, hne⟩ : ∃ n, signP (l.drop i) = n := ⟨_, rfl⟩
                  rw [hne] at hnext hz d4 r1
                  have hnl := hnext.le
                  have e4 : subV (B l) (i : Int) ((i + n : Nat) : Int) = B ((l.drop i).take n) := by rw [subV_B, List.drop_take, Nat.add_sub_cancel_left]
                  have c6 : bWrap .i64 ((i : Int) + ((n : Nat) : Int)) = ((i + n : Nat) : Int) := by rw [bwrap_of (by unfold inR; omega)]; omega
                  have c7 : (i : Int) ≤ ((i + n : Nat) : Int) := by omega
                  have c8 : ((i + n : Nat) : Int) ≤ ((B l).size : Int) := by rw [B_size]; omega
                  simp (decide := true) (maxDischargeDepth := 200) only [go_sem, d1, d2, c2, c3, c4, c5, d3, d4, FDigit, FGreat, FSmall, h1, h3, h4, r1, c6, c7, c8, e4, g1, Tryz.results28]
                  refine ⟨⟨((i + n, a ++ [(5, i, (l.drop i).take n)], f - 1), 41), hnext, by simp⟩, ?_, trivial, by simp only; omega⟩
                  simp (decide := true) only [go_sem, tok_push1, tok_push2, tok_push3, tok_push4, tok_push5, tok_some]
            · obtain ⟨hq, _⟩ := small_not h4
              have hn : 0 < spanL nameI (l.drop i) := by rw [spanL_at hb (show nameI b.toNat = true from by unfold nameI; rw [h4]; rfl)]; omega
              have hfp : firstP (l.drop i) = (4, spanL nameI (l.drop i)) := by
                have := hcons
                rw [this]
                exact first_small h1 hq h3 h4
              have ht := tell_take hfp (by decide)
              have h0 : (firstP (l.drop i)).2 ≠ 0 := by rw [hfp]; show spanL nameI (l.drop i) ≠ 0; omega
              have hnext := hp.tok hb h32 h0
              rw [hfp, ht] at hnext
              obtain ⟨n, hne⟩ : ∃ n, spanL nameI (l.drop i) = n := ⟨_, rfl⟩
              rw [hne] at hnext hn
              have hnl := hnext.le
              simp only at hnext hnl
              have e4 : subV (B l) (i : Int) ((i + n : Nat) : Int) = B ((l.drop i).take n) := by rw [subV_B, List.drop_take, Nat.add_sub_cancel_left]
              have c7 : (i : Int) ≤ ((i + n : Nat) : Int) := by omega
              have c8 : ((i + n : Nat) : Int) ≤ ((B l).size : Int) := by rw [B_size]; omega
              simp (decide := true) (maxDischargeDepth := 200) only [go_sem, d1, d2, c2, c3, c4, c5, FDigit, FGreat, FSmall, h1, h3, h4, Tryz.results28]
              refine loop_of (X := {j : Nat // i ≤ j ∧ j ≤ l.length ∧ n = (j - i) + spanL nameI (l.drop j)}) (fun j => [(0, .x (.string (B l))), (5, .sl (a.map tokV).isEmpty 3 (a.map tokV) (some tk)), (6, .x (.int .i64 ((j.1 : Nat) : Int))), (8, .x (.int .i64 (i : Int)))]) (fun _ => []) (fun j => l.length - j.1) ⟨i, by omega, by omega, by omega⟩ (by simp (decide := true) only [go_sem] <;> (repeat' first | rfl | constructor)) trivial (fun ⟨j, hj1, hj2, hjz⟩ => ?_)
              by_cases hj : j < l.length
              · obtain ⟨b', hb'⟩ := get_of hj
                have j1 : decide ((j : Int) < ((B l).size : Int)) = true := decide_eq_true (by rw [B_size]; omega)
                have j2 : (0 : Int) ≤ (j : Int) := by omega
                have j3 : (j : Int) < ((B l).size : Int) := by rw [B_size]; omega
                have j4 := count_up (i := j) (by omega)
                have j5 := byteV_B hb'
                cases q1 : smallI (b'.toNat : Int)
                · cases q2 : digitI (b'.toNat : Int)
                  ·
                    rw [spanL_no hb' (nameI_is q1 q2), Nat.add_zero] at hjz
                    obtain rfl : j = i + n := by omega
                    simp (decide := true) (maxDischargeDepth := 200) only [go_sem, j1, j2, j3, j5, FDigit, FSmall, q1, q2, c2, c7, c8, e4, g1, Tryz.results28]
                    refine ⟨⟨((i + n, a ++ [(4, i, (l.drop i).take n)], f - 1), 130), hnext, by simp⟩, ?_, trivial, by simp only; omega⟩
                    simp (decide := true) only [go_sem, tok_push1, tok_push2, tok_push3, tok_push4, tok_push5, tok_some]
                  ·
                    rw [spanL_at hb' (nameI_is q1 q2)] at hjz
                    simp (decide := true) (maxDischargeDepth := 200) only [go_sem, j1, j2, j3, j4, j5, FDigit, FSmall, q1, q2, Tryz.results28]
                    refine ⟨⟨j + 1, by omega, by omega, by omega⟩, ?_, trivial, by simp only; omega⟩
                    simp (decide := true) only [go_sem]
                · have q3 : nameI (b'.toNat : Int) = true := by unfold nameI; rw [q1]; rfl
                  rw [spanL_at hb' q3] at hjz
                  simp (decide := true) (maxDischargeDepth := 200) only [go_sem, j1, j2, j3, j4, j5, FDigit, FSmall, q1, Tryz.results28]
                  refine ⟨⟨j + 1, by omega, by omega, by omega⟩, ?_, trivial, by simp only; omega⟩
                  simp (decide := true) only [go_sem]
              · have j1 : decide ((j : Int) < ((B l).size : Int)) = false := decide_eq_false (by rw [B_size]; omega)
                rw [spanL_end (by omega), Nat.add_zero] at hjz
                obtain rfl : j = i + n := by omega
                simp (decide := true) (maxDischargeDepth := 200) only [go_sem, j1, c2, c7, c8, e4, g1, Tryz.results28]
                refine ⟨⟨((i + n, a ++ [(4, i, (l.drop i).take n)], f - 1), 130), hnext, by simp⟩, ?_, trivial, by simp only; omega⟩
                simp (decide := true) only [go_sem, tok_push1, tok_push2, tok_push3, tok_push4, tok_push5, tok_some]
          · obtain ⟨hq, _, _⟩ := great_not h3
            have hn : 0 < spanL wordI (l.drop i) := by rw [spanL_at hb (show wordI b.toNat = true from by unfold wordI; rw [h3]; rfl)]; omega
            have hfp : firstP (l.drop i) = (3, spanL wordI (l.drop i)) := by
              have := hcons
              rw [this]
              exact first_great h1 hq h3
            have ht := tell_take hfp (by decide)
            have h0 : (firstP (l.drop i)).2 ≠ 0 := by rw [hfp]; show spanL wordI (l.drop i) ≠ 0; omega
            have hnext := hp.tok hb h32 h0
            rw [hfp, ht] at hnext
            obtain ⟨n, hne⟩ : ∃ n, spanL wordI (l.drop i) = n := ⟨_, rfl⟩
            rw [hne] at hnext hn
            have hnl := hnext.le
            simp only at hnext hnl
            have e4 : subV (B l) (i : Int) ((i + n : Nat) : Int) = B ((l.drop i).take n) := by rw [subV_B, List.drop_take, Nat.add_sub_cancel_left]
            have c7 : (i : Int) ≤ ((i + n : Nat) : Int) := by omega
            have c8 : ((i + n : Nat) : Int) ≤ ((B l).size : Int) := by rw [B_size]; omega
            simp (decide := true) (maxDischargeDepth := 200) only [go_sem, d1, d2, c2, c3, c4, c5, FDigit, FGreat, FSmall, h1, h3, Tryz.results28]
            refine loop_of (X := {j : Nat // i ≤ j ∧ j ≤ l.length ∧ n = (j - i) + spanL wordI (l.drop j)}) (fun j => [(0, .x (.string (B l))), (5, .sl (a.map tokV).isEmpty 3 (a.map tokV) (some tk)), (6, .x (.int .i64 ((j.1 : Nat) : Int))), (8, .x (.int .i64 (i : Int)))]) (fun _ => []) (fun j => l.length - j.1) ⟨i, by omega, by omega, by omega⟩ (by simp (decide := true) only [go_sem] <;> (repeat' first | rfl | constructor)) trivial (fun ⟨j, hj1, hj2, hjz⟩ => ?_)
            by_cases hj : j < l.length
            · obtain ⟨b', hb'⟩ := get_of hj
              have j1 : decide ((j : Int) < ((B l).size : Int)) = true := decide_eq_true (by rw [B_size]; omega)
              have j2 : (0 : Int) ≤ (j : Int) := by omega
              have j3 : (j : Int) < ((B l).size : Int) := by rw [B_size]; omega
              have j4 := count_up (i := j) (by omega)
              have j5 := byteV_B hb'
              cases q1 : greatI (b'.toNat : Int)
              · cases q2 : digitI (b'.toNat : Int)
                ·
                  rw [spanL_no hb' (wordI_is q1 q2), Nat.add_zero] at hjz
                  obtain rfl : j = i + n := by omega
                  simp (decide := true) (maxDischargeDepth := 200) only [go_sem, j1, j2, j3, j5, FDigit, FGreat, q1, q2, c2, c7, c8, e4, g1, Tryz.results28]
                  refine ⟨⟨((i + n, a ++ [(3, i, (l.drop i).take n)], f - 1), 100), hnext, by simp⟩, ?_, trivial, by simp only; omega⟩
                  simp (decide := true) only [go_sem, tok_push1, tok_push2, tok_push3, tok_push4, tok_push5, tok_some]
                ·
                  rw [spanL_at hb' (wordI_is q1 q2)] at hjz
                  simp (decide := true) (maxDischargeDepth := 200) only [go_sem, j1, j2, j3, j4, j5, FDigit, FGreat, q1, q2, Tryz.results28]
                  refine ⟨⟨j + 1, by omega, by omega, by omega⟩, ?_, trivial, by simp only; omega⟩
                  simp (decide := true) only [go_sem]
              · have q3 : wordI (b'.toNat : Int) = true := by unfold wordI; rw [q1]; rfl
                rw [spanL_at hb' q3] at hjz
                simp (decide := true) (maxDischargeDepth := 200) only [go_sem, j1, j2, j3, j4, j5, FDigit, FGreat, q1, Tryz.results28]
                refine ⟨⟨j + 1, by omega, by omega, by omega⟩, ?_, trivial, by simp only; omega⟩
                simp (decide := true) only [go_sem]
            · have j1 : decide ((j : Int) < ((B l).size : Int)) = false := decide_eq_false (by rw [B_size]; omega)
              rw [spanL_end (by omega), Nat.add_zero] at hjz
              obtain rfl : j = i + n := by omega
              simp (decide := true) (maxDischargeDepth := 200) only [go_sem, j1, c2, c7, c8, e4, g1, Tryz.results28]
              refine ⟨⟨((i + n, a ++ [(3, i, (l.drop i).take n)], f - 1), 100), hnext, by simp⟩, ?_, trivial, by simp only; omega⟩
              simp (decide := true) only [go_sem, tok_push1, tok_push2, tok_push3, tok_push4, tok_push5, tok_some]
        ·
          have hn : 0 < spanL digitI (l.drop i) := by rw [spanL_at hb (show digitI b.toNat = true from h1)]; omega
          have hfp : firstP (l.drop i) = (1, spanL digitI (l.drop i)) := by
            have := hcons
            rw [this]
            exact first_digit h1
          have ht := tell_take hfp (by decide)
          have h0 : (firstP (l.drop i)).2 ≠ 0 := by rw [hfp]; show spanL digitI (l.drop i) ≠ 0; omega
          have hnext := hp.tok hb h32 h0
          rw [hfp, ht] at hnext
          obtain ⟨n, hne⟩ : ∃ n, spanL digitI (l.drop i) = n := ⟨_, rfl⟩
          rw [hne] at hnext hn
          have hnl := hnext.le
          simp only at hnext hnl
          have e4 : subV (B l) (i : Int) ((i + n : Nat) : Int) = B ((l.drop i).take n) := by rw [subV_B, List.drop_take, Nat.add_sub_cancel_left]
          have c7 : (i : Int) ≤ ((i + n : Nat) : Int) := by omega
          have c8 : ((i + n : Nat) : Int) ≤ ((B l).size : Int) := by rw [B_size]; omega
          simp (decide := true) (maxDischargeDepth := 200) only [go_sem, d1, d2, c2, c3, c4, c5, FDigit, h1, Tryz.results28]
          refine loop_of (X := {j : Nat // i ≤ j ∧ j ≤ l.length ∧ n = (j - i) + spanL digitI (l.drop j)}) (fun j => [(0, .x (.string (B l))), (5, .sl (a.map tokV).isEmpty 3 (a.map tokV) (some tk)), (6, .x (.int .i64 ((j.1 : Nat) : Int))), (8, .x (.int .i64 (i : Int)))]) (fun _ => []) (fun j => l.length - j.1) ⟨i, by omega, by omega, by omega⟩ (by simp (decide := true) only [go_sem] <;> (repeat' first | rfl | constructor)) trivial (fun ⟨j, hj1, hj2, hjz⟩ => ?_)
          by_cases hj : j < l.length
          · obtain ⟨b', hb'⟩ := get_of hj
            have j1 : decide ((j : Int) < ((B l).size : Int)) = true := decide_eq_true (by rw [B_size]; omega)
            have j2 : (0 : Int) ≤ (j : Int) := by omega
            have j3 : (j : Int) < ((B l).size : Int) := by rw [B_size]; omega
            have j4 := count_up (i := j) (by omega)
            have j5 := byteV_B hb'
            cases q1 : digitI (b'.toNat : Int)
            ·
              rw [spanL_no hb' q1, Nat.add_zero] at hjz
              obtain rfl : j = i + n := by omega
              simp (decide := true) (maxDischargeDepth := 200) only [go_sem, j1, j2, j3, j5, FDigit, q1, c2, c7, c8, e4, g1, Tryz.results28]
              refine ⟨⟨((i + n, a ++ [(1, i, (l.drop i).take n)], f - 1), 70), hnext, by simp⟩, ?_, trivial, by simp only; omega⟩
              simp (decide := true) only [go_sem, tok_push1, tok_push2, tok_push3, tok_push4, tok_push5, tok_some]
            ·
              rw [spanL_at hb' q1] at hjz
              simp (decide := true) (maxDischargeDepth := 200) only [go_sem, j1, j2, j3, j4, j5, FDigit, q1, Tryz.results28]
              refine ⟨⟨j + 1, by omega, by omega, by omega⟩, ?_, trivial, by simp only; omega⟩
              simp (decide := true) only [go_sem]
          · have j1 : decide ((j : Int) < ((B l).size : Int)) = false := decide_eq_false (by rw [B_size]; omega)
            rw [spanL_end (by omega), Nat.add_zero] at hjz
            obtain rfl : j = i + n := by omega
            simp (decide := true) (maxDischargeDepth := 200) only [go_sem, j1, c2, c7, c8, e4, g1, Tryz.results28]
            refine ⟨⟨((i + n, a ++ [(1, i, (l.drop i).take n)], f - 1), 70), hnext, by simp⟩, ?_, trivial, by simp only; omega⟩
            simp (decide := true) only [go_sem, tok_push1, tok_push2, tok_push3, tok_push4, tok_push5, tok_some]
    · have d1 : decide ((i : Int) < ((B l).size : Int)) = false := decide_eq_false (by rw [B_size]; omega)
      have e3 := splitV_ok (hp.done h)
      simp (decide := true) (maxDischargeDepth := 200) only [go_sem, d1, e3, Tryz.results28]

end Go.Proofs.YteibnmlfipkmeaaGreatDoor
