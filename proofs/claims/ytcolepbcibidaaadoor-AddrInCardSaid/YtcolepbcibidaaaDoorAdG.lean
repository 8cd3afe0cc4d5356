/- The laws of cells and ranges, as functions of plain data: they are true. -/
import Derived.Test.YtcolepbcibidaaaDoorAdD
import Derived.Test.YtcolepbcibidaaaDoorAdF
namespace Go.Proofs.YtcolepbcibidaaaDoor
open Go Go.RowKit
set_option linter.unusedSimpArgs false

theorem dec_refl {α : Type} [DecidableEq α] (x : α) : decide (x = x) = true := decide_eq_true rfl
theorem eqC_refl (p : C3) : eqC p p = true := decide_eq_true rfl
theorem right_ex : rightC ⟨#[115]⟩ 28 3 = true := by
  have : nameB ⟨#[115]⟩ = true := by
    have hb : byteV ⟨#[115]⟩ 0 = 115 := rfl
    unfold nameB
    rw [hb]
    rfl
  rw [rightC_iff]
  exact ⟨this, by omega, by omega, by omega, by omega⟩
theorem show_ex : showC ⟨#[115]⟩ 28 3 = ⟨#[115, 33, 65, 66, 51]⟩ := by
  unfold showC
  rw [if_pos right_ex]
  rfl
theorem read_ex : readA ⟨#[115, 33, 65, 66, 51]⟩ = some (⟨#[115]⟩, 28, 3) := by
  rw [← show_ex]
  exact readA_show right_ex
def FAlive : List V → Option V
  | [] => some (.x (.bool true))
  | _ => none
set_option maxRecDepth 100000 in
theorem alive_fun : FunV 7 FAlive := by
  refine fun_of_run (E := envOf [(8, FReadA), (16, FShow)]) (k := 0) (envOK_of _ ⟨read_fun, show_fun, trivial⟩) (by kernel_rfl) Tryd.func7 rfl (fun a w => Tryd.call7 a w) Tryd.ntmps7 (by kernel_rfl) (by decide) ?_
  intro us r hF hdat
  unfold FAlive at hF
  split at hF
  case h_2 => cases hF
  cases hF
  refine ⟨rfl, ?_⟩
  have e := read_ex
  have e2 := show_ex
  have lim : (⟨#[115, 33, 65, 66, 51]⟩ : ByteArray).size ≤ 1000 := by decide
  have lim' : ((#[115, 33, 65, 66, 51] : Array UInt8)).size ≤ 1000 := by decide
  simp (decide := true) (maxDischargeDepth := 200) only [go_sem, List.append_eq, FReadA, lim, lim', e, ansV, FShow, e2, dec_refl, Tryd.results7]


theorem right_x {c : Int} (h1 : 1 ≤ c) (h2 : c ≤ 702) : rightC ⟨#[120]⟩ c 7 = true := by
  have : nameB ⟨#[120]⟩ = true := by
    have hb : byteV ⟨#[120]⟩ 0 = 120 := rfl
    unfold nameB
    rw [hb]
    rfl
  rw [rightC_iff]
  exact ⟨this, h1, h2, by omega, by omega⟩
theorem u8_small {m : Nat} (h : m < 256) : bWrap .u8 ((m : Nat) : Int) = ((m : Nat) : Int) := by
  rw [bWrap_eq]
  simp only [IntKind.wrap, IntKind.bits, IntKind.signed]
  simp
  omega
def FLCols : List V → Option V
  | [.x (.int .i64 _)] => some (.x (.bool true))
  | _ => none
set_option maxHeartbeats 2000000 in
set_option maxRecDepth 100000 in
theorem lcols_fun : FunV 6 FLCols := by
  refine fun_of_run (E := envOf [(7, FAlive), (16, FShow)]) (k := 1) (envOK_of _ ⟨alive_fun, show_fun, trivial⟩) (by kernel_rfl) Tryd.func6 rfl (fun a w => Tryd.call6 a w) Tryd.ntmps6 (by kernel_rfl) (by decide) ?_
  intro us r hF hdat
  unfold FLCols at hF
  split at hF
  case h_2 => cases hF
  rename_i c
  cases hF
  refine ⟨rfl, ?_⟩
  by_cases h1 : c < 1
  · have d1 := decide_eq_true h1
    simp (decide := true) (maxDischargeDepth := 200) only [go_sem, List.append_eq, FAlive, d1, Tryd.results6]
  · have d1 := decide_eq_false h1
    by_cases h2 : 702 < c
    · have d2 := decide_eq_true h2
      simp (decide := true) (maxDischargeDepth := 200) only [go_sem, List.append_eq, FAlive, d1, d2, Tryd.results6]
    · have d2 := decide_eq_false h2
      have hR : rightC (B [120]) c 7 = true := right_x (c := c) (by omega) (by omega)
      obtain ⟨c, rfl⟩ := Int.eq_ofNat_of_zero_le (show 0 ≤ c by omega)
      have hS : showC (B [120]) (c : Int) 7 = (⟨#[120, 33]⟩ ++ B (colP c)) ++ B [55] := by rw [showC_is hR]; rfl
      have hl := (col_facts (c := c) (by omega)).2.1
      have c1 : bWrap .i64 ((c : Int) - 1) = ((c - 1 : Nat) : Int) := by rw [bwrap_of (by unfold inR; omega)]; omega
      have c2 : Int.tmod ((c - 1 : Nat) : Int) 26 = (((c - 1) % 26 : Nat) : Int) := (Int.ofNat_tmod (c - 1) 26).symm
      have c3 : bWrap .i64 (65 + (((c - 1) % 26 : Nat) : Int)) = ((65 + (c - 1) % 26 : Nat) : Int) := by rw [bwrap_of (by unfold inR; omega)]; omega
      have c4 := u8_small (m := 65 + (c - 1) % 26) (by omega)
      have a1 : ∀ y : UInt8, (⟨[y].toArray⟩ : ByteArray) = B [y] := fun _ => rfl
      have n1 : ∀ n : Nat, ((n : Int)).toNat = n := fun _ => rfl
      have k2 : catV ⟨#[120, 33]⟩ (B (colP c)) = some (.str (⟨#[120, 33]⟩ ++ B (colP c))) := catV_ok (by rw [B_size]; show 2 + _ ≤ _; omega)
      have k3 : catV (⟨#[120, 33]⟩ ++ B (colP c)) (B [55]) = some (.str ((⟨#[120, 33]⟩ ++ B (colP c)) ++ B [55])) := catV_ok (by rw [cat_size, B_size]; show 2 + _ + 1 ≤ _; omega)
      by_cases h26 : 26 < c
      · have d3 : decide ((26 : Int) < (c : Int)) = true := decide_eq_true (by omega)
        have c5 : bWrap .i64 ((c : Int) - 27) = ((c - 27 : Nat) : Int) := by rw [bwrap_of (by unfold inR; omega)]; omega
        have c6 : bWrap .i64 (Int.tdiv ((c - 27 : Nat) : Int) 26) = (((c - 27) / 26 : Nat) : Int) := by
          rw [show Int.tdiv ((c - 27 : Nat) : Int) 26 = (((c - 27) / 26 : Nat) : Int) from (Int.ofNat_tdiv (c - 27) 26).symm]
          exact bwrap_of (by unfold inR; omega)
        have c7 : bWrap .i64 (65 + (((c - 27) / 26 : Nat) : Int)) = ((65 + (c - 27) / 26 : Nat) : Int) := by rw [bwrap_of (by unfold inR; omega)]; omega
        have c8 := u8_small (m := 65 + (c - 27) / 26) (by omega)
        have e := col_two (c := c) h26
        have k1 : catV (B [UInt8.ofNat (65 + (c - 27) / 26)]) (B [UInt8.ofNat (65 + (c - 1) % 26)]) = some (.str (B (colP c))) := by
          rw [catV_ok (by rw [B_size, B_size]; simp), B_append, e, show (c - 27) / 26 = (c - 1) / 26 - 1 from by omega]
        simp (decide := true) (maxDischargeDepth := 200) only [go_sem, List.append_eq, FAlive, d1, d2, FShow, hS, c1, c2, c3, c4, a1, n1, d3, c5, c6, c7, c8, k1, k2, k3, dec_refl, Tryd.results6]
      · have d3 : decide ((26 : Int) < (c : Int)) = false := decide_eq_false (by omega)
        have e := col_one (c := c) (by omega) (by omega)
        rw [e] at k2 k3 hS
        simp (decide := true) (maxDischargeDepth := 200) only [go_sem, List.append_eq, FAlive, d1, d2, FShow, hS, c1, c2, c3, c4, a1, n1, d3, k2, k3, dec_refl, Tryd.results6]


theorem show_small (s : ByteArray) (c r : Int) : (showC s c r).size ≤ 1000 := by
  cases h : rightC s c r
  · rw [showC_no h]; decide
  · obtain ⟨hn, h1, h2, h3, h4⟩ := rightC_iff.1 h
    have := name_len hn
    have := (col_facts (c := c.toNat) (by omega)).2.1
    have := (dec_facts (r := r.toNat) (by omega)).2.1
    rw [showC_is h, cat_size, cat_size, cat_size, B_size, B_size]
    show s.size + 1 + _ + _ ≤ _
    omega
def FLBack : List V → Option V
  | [.agg [.x (.string _), .x (.int .i64 _), .x (.int .i64 _)], .agg [.x (.string _), .x (.int .i64 _), .x (.int .i64 _)]] => some (.x (.bool true))
  | _ => none
set_option maxHeartbeats 2000000 in
set_option maxRecDepth 100000 in
theorem lback_fun : FunV 4 FLBack := by
  refine fun_of_run (E := envOf [(7, FAlive), (13, FRightC), (16, FShow), (8, FReadA)]) (k := 2) (envOK_of _ ⟨alive_fun, rright_fun, show_fun, read_fun, trivial⟩) (by kernel_rfl) Tryd.func4 rfl (fun a w => Tryd.call4 a w) Tryd.ntmps4 (by kernel_rfl) (by decide) ?_
  intro us r hF hdat
  unfold FLBack at hF
  split at hF
  case h_2 => cases hF
  rename_i s c r s' c' r'
  cases hF
  refine ⟨rfl, ?_⟩
  cases hR : rightC s c r
  · simp (decide := true) (maxDischargeDepth := 200) only [go_sem, List.append_eq, FAlive, FRightC, hR, Tryd.results4]
  · cases hR' : rightC s' c' r'
    · simp (decide := true) (maxDischargeDepth := 200) only [go_sem, List.append_eq, FAlive, FRightC, hR, hR', Tryd.results4]
    · have e := readA_show hR
      have lim := show_small s c r
      have e2 : decide (showC s c r = showC s' c' r') = eqC (s, c, r) (s', c', r') := by
        unfold eqC
        rw [Bool.eq_iff_iff]
        simp only [decide_eq_true_eq, Prod.mk.injEq]
        exact ⟨fun hh => show_inj hR hR' hh, fun ⟨h1, h2, h3⟩ => by rw [h1, h2, h3]⟩
      simp (decide := true) (maxDischargeDepth := 200) only [go_sem, List.append_eq, FAlive, FRightC, hR, hR', FShow, FReadA, lim, e, ansV, eq3, eqC_refl, e2, Tryd.results4]

/- The functions of plain data by their one rule each: their rules are not to be sought anew. -/
theorem FIn_eq (s : ByteArray) (c r : Int) (s' : ByteArray) (c' r' : Int) (s0 : ByteArray) (c0 r0 : Int) : FIn [.agg [.x (.string s), .x (.int .i64 c), .x (.int .i64 r), .x (.string s'), .x (.int .i64 c'), .x (.int .i64 r')], .agg [.x (.string s0), .x (.int .i64 c0), .x (.int .i64 r0)]] = some (.x (.bool (inB s c r s' c' r' s0 c0 r0))) := rfl
theorem FLess_eq (s : ByteArray) (c r : Int) (s' : ByteArray) (c' r' : Int) : FLess [.agg [.x (.string s), .x (.int .i64 c), .x (.int .i64 r)], .agg [.x (.string s'), .x (.int .i64 c'), .x (.int .i64 r')]] = some (.x (.bool (lessC s c r s' c' r'))) := rfl
theorem FCells_some {s : ByteArray} {c r : Int} {s' : ByteArray} {c' r' : Int} {l : List C3} (h : cellsA s c r s' c' r' = some l) : FCells [.agg [.x (.string s), .x (.int .i64 c), .x (.int .i64 r), .x (.string s'), .x (.int .i64 c'), .x (.int .i64 r')]] = some (.sl false 3 (l.map cellV) none) := by
  show (match cellsA s c r s' c' r' with | some l => some (V.sl false 3 (l.map cellV) none) | none => some (V.sl true 0 [] none)) = _
  rw [h]
theorem FCells_none {s : ByteArray} {c r : Int} {s' : ByteArray} {c' r' : Int} (h : cellsA s c r s' c' r' = none) : FCells [.agg [.x (.string s), .x (.int .i64 c), .x (.int .i64 r), .x (.string s'), .x (.int .i64 c'), .x (.int .i64 r')]] = some (.sl true 0 [] none) := by
  show (match cellsA s c r s' c' r' with | some l => some (V.sl false 3 (l.map cellV) none) | none => some (V.sl true 0 [] none)) = _
  rw [h]
theorem FArea_eq (s : ByteArray) (c r : Int) (s' : ByteArray) (c' r' : Int) : FArea [.agg [.x (.string s), .x (.int .i64 c), .x (.int .i64 r), .x (.string s'), .x (.int .i64 c'), .x (.int .i64 r')]] = some (areaV s c r s' c' r') := rfl
theorem FSame3_eq {l l' : List C3} {nl nl' : Bool} {sz sz' : Nat} (h : l.length ≤ 1000000 ∧ (l = [] ∨ sz = 3) ∧ (l' = [] ∨ sz' = 3)) : FSame3 [.sl nl sz (l.map cellV) none, .sl nl' sz' (l'.map cellV) none] = some (.x (.bool (decide (l = l')))) := by
  unfold FSame3
  simp only [cellsOf_map]
  rw [if_pos h]
theorem FSame3_nil {nl nl' : Bool} {sz sz' : Nat} : FSame3 [.sl nl sz [] none, .sl nl' sz' [] none] = some (.x (.bool true)) := by
  have := FSame3_eq (l := []) (l' := []) (nl := nl) (nl' := nl') (sz := sz) (sz' := sz') ⟨by simp, .inl rfl, .inl rfl⟩
  exact this.trans (by simp)
theorem FSame3_self {l : List C3} (h : l.length ≤ 1000000) : FSame3 [.sl false 3 (l.map cellV) none, .sl false 3 (l.map cellV) none] = some (.x (.bool true)) := by
  rw [FSame3_eq ⟨h, .inr rfl, .inr rfl⟩, decide_eq_true rfl]
theorem FHas_eq {l : List C3} {nl : Bool} (s : ByteArray) (c r : Int) (h : l.length ≤ 1000000) : FHas [.sl nl 3 (l.map cellV) none, .agg [.x (.string s), .x (.int .i64 c), .x (.int .i64 r)]] = some (.x (.bool (l.any fun p => eqC p (s, c, r)))) := by
  unfold FHas
  simp only [cellsOf_map]
  rw [if_pos h]
theorem bq_self (b : Bool) : (b == b) = true := by cases b <;> rfl
end Go.Proofs.YtcolepbcibidaaaDoor
