/- What the laws say of formulas, as functions of plain data. -/
import Derived.Test.YtfmdcgakkijkdaaTrE
namespace Go.Proofs.Ytfmdcgakkijkdaa
open Go Go.RowKit
set_option linter.unusedSimpArgs false
/-- The two ways of telling which node may be. -/
theorem fits_split (h : Hd) (n : Nat) : fitsB h n = (bareB h n && okR h n) := by
  have e0 : ∀ p : Prop, ∀ [Decidable p], p → decide p = true := fun p _ hp => decide_eq_true hp
  by_cases h1 : h.k = 1
  · simp only [fitsB, okF, onlyH, onlyN, alikeB, bareB, okR, writtenV, h1]
    rw [Bool.eq_iff_iff]
    by_cases v1 : h.vk = 1 <;> by_cases v2 : h.vk = 2 <;> by_cases v3 : h.vk = 3 <;> simp [v1, v2, v3] <;> constructor <;> intro hh <;> simp_all
  · by_cases h2 : h.k = 2
    · simp only [fitsB, okF, onlyH, onlyN, alikeB, bareB, okR, h2]
      rw [Bool.eq_iff_iff]
      simp <;> constructor <;> intro hh <;> simp_all
    · by_cases h3 : h.k = 3
      · simp only [fitsB, okF, onlyH, onlyN, alikeB, bareB, okR, h3]
        rw [Bool.eq_iff_iff]
        simp <;> constructor <;> intro hh <;> simp_all
      · by_cases h4 : h.k = 4
        · simp only [fitsB, okF, onlyH, onlyN, alikeB, bareB, okR, h4]
          rw [Bool.eq_iff_iff]
          simp <;> constructor <;> intro hh <;> simp_all
        · by_cases h5 : h.k = 5
          · simp only [fitsB, okF, onlyH, onlyN, alikeB, bareB, okR, h5]
            rw [Bool.eq_iff_iff]
            simp <;> constructor <;> intro hh <;> simp_all
          · by_cases h6 : h.k = 6
            · simp only [fitsB, okF, onlyH, onlyN, alikeB, bareB, okR, h6]
              rw [Bool.eq_iff_iff]
              simp <;> constructor <;> intro hh <;> simp_all
            · by_cases h7 : h.k = 7
              · simp only [fitsB, okF, onlyH, onlyN, alikeB, bareB, okR, h7]
                rw [Bool.eq_iff_iff]
                simp <;> constructor <;> intro hh <;> simp_all
              · simp [fitsB, okF, bareB, h1, h2, h3, h4, h5, h6, h7]
theorem all_right {m : Nat} (l : List Nd) : (l.all fun c => decide (dN c ≤ m) && rN c) = (decide (dL l ≤ m) && rL l) := by
  induction l with
  | nil => simp [dL, rL]
  | cons c l ih =>
    rw [List.all_cons, ih, Bool.eq_iff_iff]
    simp only [dL, rL, Nat.max_le, Bool.and_eq_true, decide_eq_true_eq]
    constructor
    · rintro ⟨⟨h1, h2⟩, h3, h4⟩; exact ⟨⟨h1, h3⟩, h2, h4⟩
    · rintro ⟨⟨h1, h3⟩, h2, h4⟩; exact ⟨⟨h1, h2⟩, h3, h4⟩
theorem rw_right (m : Nat) (nd : Nd) : rwN m nd = (decide (dN nd ≤ m) && rN nd) := by
  induction m generalizing nd with
  | zero => have := dN_pos nd; simp [rwN]; intro h; omega
  | succ m ih =>
    have e : rwN m = fun c => decide (dN c ≤ m) && rN c := funext ih
    simp only [rwN, fits_split]
    rw [e, all_right, rN_eq nd, dN_eq nd, Bool.eq_iff_iff]
    simp only [Bool.and_eq_true, decide_eq_true_eq]
    constructor
    · rintro ⟨⟨h1, h2⟩, h3, h4⟩; exact ⟨by omega, h1, h4, h2⟩
    · rintro ⟨h1, h2, h3, h4⟩; exact ⟨⟨h2, h4⟩, by omega, h3⟩
theorem FRightN_eq {nd : Nd} (h : cnt nd ≤ 400) : FE encN GRightN [nodeV nd] = some (.x (.bool (rwN 20 nd))) := by
  refine (FE_at encN_inj _ nd).trans ((if_pos h).trans ?_)
  rw [rw_right 20 nd]
  have : decide ((dN nd : Int) ≤ 20) = decide (dN nd ≤ 20) := decide_eq_decide.2 (by omega)
  rw [this]
theorem FSame_eq {a b : Nd} (h : cnt a ≤ 400) (h' : cnt b ≤ 400) : FE encNN GSame [nodeV a, nodeV b] = some (.x (.bool (sameN a b))) := (FE_at encNN_inj _ (a, b)).trans (GSame_of h h')
def FAlive : List V → Option V
  | [] => some (.x (.bool true))
  | _ => none
theorem right_7 : FRightT [V.agg [.x (.int .i64 7), .x (.string ⟨#[]⟩), .x (.string ⟨#[]⟩), .x (.int .i64 0), .x (.int .i64 0), .x (.string ⟨#[]⟩), .x (.string ⟨#[]⟩), .x (.int .i64 0), .x (.int .i64 0), .x (.string ⟨#[]⟩), .x (.int .i64 0), .x (.int .i64 0), .sl true 0 [] none]] = some (.x (.bool true)) := by
  have h : rwN 20 (.leaf ⟨7, ⟨#[]⟩, ⟨#[]⟩, 0, 0, ⟨#[]⟩, ⟨#[]⟩, 0, 0, ⟨#[]⟩, 0, 0⟩) = true := by kernel_rfl
  have e := FRightT_eq (.leaf ⟨7, ⟨#[]⟩, ⟨#[]⟩, 0, 0, ⟨#[]⟩, ⟨#[]⟩, 0, 0, ⟨#[]⟩, 0, 0⟩)
  rw [h] at e
  exact e
theorem right_0 : FRightT [V.agg [.x (.int .i64 0), .x (.string ⟨#[]⟩), .x (.string ⟨#[]⟩), .x (.int .i64 0), .x (.int .i64 0), .x (.string ⟨#[]⟩), .x (.string ⟨#[]⟩), .x (.int .i64 0), .x (.int .i64 0), .x (.string ⟨#[]⟩), .x (.int .i64 0), .x (.int .i64 0), .sl true 0 [] none]] = some (.x (.bool false)) := by
  have h : rwN 20 (.leaf ⟨0, ⟨#[]⟩, ⟨#[]⟩, 0, 0, ⟨#[]⟩, ⟨#[]⟩, 0, 0, ⟨#[]⟩, 0, 0⟩) = false := by kernel_rfl
  have e := FRightT_eq (.leaf ⟨0, ⟨#[]⟩, ⟨#[]⟩, 0, 0, ⟨#[]⟩, ⟨#[]⟩, 0, 0, ⟨#[]⟩, 0, 0⟩)
  rw [h] at e
  exact e
theorem depth_1 : FE encN GDepth [V.agg [.x (.int .i64 1), .x (.string ⟨#[]⟩), .x (.string ⟨#[]⟩), .x (.int .i64 0), .x (.int .i64 0), .x (.string ⟨#[]⟩), .x (.string ⟨#[]⟩), .x (.int .i64 0), .x (.int .i64 0), .x (.string ⟨#[]⟩), .x (.int .i64 0), .x (.int .i64 0), .sl true 0 [] none]] = some (.x (.int .i64 1)) := FDepth_eq (nd := (.leaf ⟨1, ⟨#[]⟩, ⟨#[]⟩, 0, 0, ⟨#[]⟩, ⟨#[]⟩, 0, 0, ⟨#[]⟩, 0, 0⟩)) (by decide)
set_option maxRecDepth 100000 in
theorem alive_fun : FunV 6 FAlive := by
  refine fun_of_run (E := envOf [(10, (FE encN GDepth)), (8, FRightT)]) (k := 0) (envOK_of _ ⟨depth_fun, rightt_fun, trivial⟩) (by kernel_rfl) Try.func6 rfl (fun a w => Try.call6 a w) Try.ntmps6 (by kernel_rfl) (by decide) (by decide) ?_
  intro us r hF hdat
  unfold FAlive at hF
  split at hF
  case h_2 => cases hF
  cases hF
  refine ⟨rfl, ?_⟩
  simp (decide := true) (maxDischargeDepth := 200) only [go_sem, depth_1, right_7, right_0, Try.results6]

noncomputable def FTells : List V → Option V := FE encNN fun _ => some (.x (.bool true))
theorem FTells_eq (a b : Nd) : FTells [nodeV a, nodeV b] = some (.x (.bool true)) := FE_at encNN_inj _ (a, b)
set_option maxHeartbeats 4000000 in
set_option maxRecDepth 100000 in
theorem tells_fun : FunV 3 FTells := by
  refine fun_of_run (E := envOf [(6, FAlive), (7, FFew), (8, FRightT), (9, (FE encN GRightN)), (10, (FE encN GDepth)), (11, (FE encN GDepth)), (12, (FE encNN GSame)), (13, (FE encNN GSame))]) (k := 2) (envOK_of _ ⟨alive_fun, few_fun, rightt_fun, rightnode_fun, depth_fun, rdepth_fun, same_fun, rsame_fun, trivial⟩) (by kernel_rfl) Try.func3 rfl (fun a w => Try.call3 a w) Try.ntmps3 (by kernel_rfl) (by decide) (by decide) ?_
  intro us r hF hdat
  obtain ⟨⟨nd, ne⟩, hus, hG⟩ := FE_out hF
  clear hF
  subst hus
  have hF := hG
  clear hG
  cases hF
  clear hdat
  simp only [encNN]
  have eA : FAlive [] = some (.x (.bool true)) := rfl
  have e1 := FFew_eq nd
  have e2 := FFew_eq ne
  have e3 := FRightT_eq nd
  have hx := sameN_refl nd
  have fa : szN 101 nd ≤ 400 → cnt nd ≤ 400 := few_cnt
  have fb : szN 101 ne ≤ 400 → cnt ne ≤ 400 := few_cnt
  have e4 : cnt nd ≤ 400 → _ := fun h => FRightN_eq (nd := nd) h
  have e5 : cnt nd ≤ 400 → _ := fun h => FDepth_eq (nd := nd) h
  have e6 : cnt nd ≤ 400 → cnt ne ≤ 400 → _ := fun h h' => FSame_eq (a := nd) (b := ne) h h'
  have e7 : cnt nd ≤ 400 → _ := fun h => FSame_eq (a := nd) (b := nd) h h
  obtain ⟨k, op, nm, vk, vn, vs, cs, cc, cr, ts, tc, tr, l, nl, sz, hh, hl, hf, hs⟩ := node_cases nd
  obtain ⟨k2, op2, nm2, vk2, vn2, vs2, cs2, cc2, cr2, ts2, tc2, tr2, l2, nl2, sz2, hh2, hl2, hf2, hs2⟩ := node_cases ne
  rw [hx] at e7
  rw [hf] at e1 e3 e4 e5 e6 e7 ⊢
  rw [hf2] at e2 e6 ⊢
  generalize szN 101 nd = sa at *
  generalize szN 101 ne = sb at *
  generalize rwN 20 nd = ra at *
  generalize dN nd = da at *
  generalize sameN nd ne = sab at *
  refine ⟨rfl, ?_⟩
  by_cases h1 : sa ≤ 400
  · have d1 : decide (((sa : Nat) : Int) ≤ 400) = true := decide_eq_true (by omega)
    by_cases h2 : sb ≤ 400
    · have d2 : decide (((sb : Nat) : Int) ≤ 400) = true := decide_eq_true (by omega)
      have e4 := e4 (fa h1)
      have e5 := e5 (fa h1)
      have e6 := e6 (fa h1) (fb h2)
      have e7 := e7 (fa h1)
      simp (decide := true) (maxDischargeDepth := 200) only [go_sem, eA, e1, e2, d1, d2, e3, e4, e5, e6, e7, Try.results3]
    · have d2 : decide (((sb : Nat) : Int) ≤ 400) = false := decide_eq_false (by omega)
      simp (decide := true) (maxDischargeDepth := 200) only [go_sem, eA, e1, e2, d1, d2, Try.results3]
  · have d1 : decide (((sa : Nat) : Int) ≤ 400) = false := decide_eq_false (by omega)
    simp (decide := true) (maxDischargeDepth := 200) only [go_sem, eA, e1, d1, Try.results3]

theorem kind_0 : FRightT [V.agg [.x (.int .i64 1), .x (.string ⟨#[]⟩), .x (.string ⟨#[]⟩), .x (.int .i64 1), .x (.int .i64 3), .x (.string ⟨#[]⟩), .x (.string ⟨#[]⟩), .x (.int .i64 0), .x (.int .i64 0), .x (.string ⟨#[]⟩), .x (.int .i64 0), .x (.int .i64 0), .sl true 0 [] none]] = some (.x (.bool true)) := by
  have h : rwN 20 (.leaf ⟨1, ⟨#[]⟩, ⟨#[]⟩, 1, 3, ⟨#[]⟩, ⟨#[]⟩, 0, 0, ⟨#[]⟩, 0, 0⟩) = true := by kernel_rfl
  have e := FRightT_eq (.leaf ⟨1, ⟨#[]⟩, ⟨#[]⟩, 1, 3, ⟨#[]⟩, ⟨#[]⟩, 0, 0, ⟨#[]⟩, 0, 0⟩)
  rw [h] at e
  exact e
theorem kind_1 : FRightT [V.agg [.x (.int .i64 1), .x (.string ⟨#[]⟩), .x (.string ⟨#[]⟩), .x (.int .i64 0), .x (.int .i64 0), .x (.string ⟨#[]⟩), .x (.string ⟨#[]⟩), .x (.int .i64 0), .x (.int .i64 0), .x (.string ⟨#[]⟩), .x (.int .i64 0), .x (.int .i64 0), .sl true 0 [] none]] = some (.x (.bool false)) := by
  have h : rwN 20 (.leaf ⟨1, ⟨#[]⟩, ⟨#[]⟩, 0, 0, ⟨#[]⟩, ⟨#[]⟩, 0, 0, ⟨#[]⟩, 0, 0⟩) = false := by kernel_rfl
  have e := FRightT_eq (.leaf ⟨1, ⟨#[]⟩, ⟨#[]⟩, 0, 0, ⟨#[]⟩, ⟨#[]⟩, 0, 0, ⟨#[]⟩, 0, 0⟩)
  rw [h] at e
  exact e
theorem kind_2 : FRightT [V.agg [.x (.int .i64 1), .x (.string ⟨#[]⟩), .x (.string ⟨#[]⟩), .x (.int .i64 1), .x (.int .i64 (-1)), .x (.string ⟨#[]⟩), .x (.string ⟨#[]⟩), .x (.int .i64 0), .x (.int .i64 0), .x (.string ⟨#[]⟩), .x (.int .i64 0), .x (.int .i64 0), .sl true 0 [] none]] = some (.x (.bool false)) := by
  have h : rwN 20 (.leaf ⟨1, ⟨#[]⟩, ⟨#[]⟩, 1, -1, ⟨#[]⟩, ⟨#[]⟩, 0, 0, ⟨#[]⟩, 0, 0⟩) = false := by kernel_rfl
  have e := FRightT_eq (.leaf ⟨1, ⟨#[]⟩, ⟨#[]⟩, 1, -1, ⟨#[]⟩, ⟨#[]⟩, 0, 0, ⟨#[]⟩, 0, 0⟩)
  rw [h] at e
  exact e
theorem kind_3 : FRightT [V.agg [.x (.int .i64 1), .x (.string ⟨#[]⟩), .x (.string ⟨#[]⟩), .x (.int .i64 4), .x (.int .i64 1), .x (.string ⟨#[]⟩), .x (.string ⟨#[]⟩), .x (.int .i64 0), .x (.int .i64 0), .x (.string ⟨#[]⟩), .x (.int .i64 0), .x (.int .i64 0), .sl true 0 [] none]] = some (.x (.bool false)) := by
  have h : rwN 20 (.leaf ⟨1, ⟨#[]⟩, ⟨#[]⟩, 4, 1, ⟨#[]⟩, ⟨#[]⟩, 0, 0, ⟨#[]⟩, 0, 0⟩) = false := by kernel_rfl
  have e := FRightT_eq (.leaf ⟨1, ⟨#[]⟩, ⟨#[]⟩, 4, 1, ⟨#[]⟩, ⟨#[]⟩, 0, 0, ⟨#[]⟩, 0, 0⟩)
  rw [h] at e
  exact e
theorem kind_4 : FRightT [V.agg [.x (.int .i64 2), .x (.string ⟨#[]⟩), .x (.string ⟨#[]⟩), .x (.int .i64 0), .x (.int .i64 0), .x (.string ⟨#[]⟩), .x (.string ⟨#[115]⟩), .x (.int .i64 2), .x (.int .i64 2), .x (.string ⟨#[]⟩), .x (.int .i64 0), .x (.int .i64 0), .sl true 0 [] none]] = some (.x (.bool true)) := by
  have h : rwN 20 (.leaf ⟨2, ⟨#[]⟩, ⟨#[]⟩, 0, 0, ⟨#[]⟩, ⟨#[115]⟩, 2, 2, ⟨#[]⟩, 0, 0⟩) = true := by kernel_rfl
  have e := FRightT_eq (.leaf ⟨2, ⟨#[]⟩, ⟨#[]⟩, 0, 0, ⟨#[]⟩, ⟨#[115]⟩, 2, 2, ⟨#[]⟩, 0, 0⟩)
  rw [h] at e
  exact e
theorem kind_5 : FRightT [V.agg [.x (.int .i64 2), .x (.string ⟨#[]⟩), .x (.string ⟨#[]⟩), .x (.int .i64 0), .x (.int .i64 0), .x (.string ⟨#[]⟩), .x (.string ⟨#[]⟩), .x (.int .i64 0), .x (.int .i64 0), .x (.string ⟨#[]⟩), .x (.int .i64 0), .x (.int .i64 0), .sl true 0 [] none]] = some (.x (.bool false)) := by
  have h : rwN 20 (.leaf ⟨2, ⟨#[]⟩, ⟨#[]⟩, 0, 0, ⟨#[]⟩, ⟨#[]⟩, 0, 0, ⟨#[]⟩, 0, 0⟩) = false := by kernel_rfl
  have e := FRightT_eq (.leaf ⟨2, ⟨#[]⟩, ⟨#[]⟩, 0, 0, ⟨#[]⟩, ⟨#[]⟩, 0, 0, ⟨#[]⟩, 0, 0⟩)
  rw [h] at e
  exact e
theorem kind_6 : FRightT [V.agg [.x (.int .i64 3), .x (.string ⟨#[]⟩), .x (.string ⟨#[]⟩), .x (.int .i64 0), .x (.int .i64 0), .x (.string ⟨#[]⟩), .x (.string ⟨#[115]⟩), .x (.int .i64 2), .x (.int .i64 2), .x (.string ⟨#[115]⟩), .x (.int .i64 2), .x (.int .i64 2), .sl true 0 [] none]] = some (.x (.bool true)) := by
  have h : rwN 20 (.leaf ⟨3, ⟨#[]⟩, ⟨#[]⟩, 0, 0, ⟨#[]⟩, ⟨#[115]⟩, 2, 2, ⟨#[115]⟩, 2, 2⟩) = true := by kernel_rfl
  have e := FRightT_eq (.leaf ⟨3, ⟨#[]⟩, ⟨#[]⟩, 0, 0, ⟨#[]⟩, ⟨#[115]⟩, 2, 2, ⟨#[115]⟩, 2, 2⟩)
  rw [h] at e
  exact e
theorem kind_7 : FRightT [V.agg [.x (.int .i64 3), .x (.string ⟨#[]⟩), .x (.string ⟨#[]⟩), .x (.int .i64 0), .x (.int .i64 0), .x (.string ⟨#[]⟩), .x (.string ⟨#[115]⟩), .x (.int .i64 2), .x (.int .i64 2), .x (.string ⟨#[115]⟩), .x (.int .i64 1), .x (.int .i64 2), .sl true 0 [] none]] = some (.x (.bool false)) := by
  have h : rwN 20 (.leaf ⟨3, ⟨#[]⟩, ⟨#[]⟩, 0, 0, ⟨#[]⟩, ⟨#[115]⟩, 2, 2, ⟨#[115]⟩, 1, 2⟩) = false := by kernel_rfl
  have e := FRightT_eq (.leaf ⟨3, ⟨#[]⟩, ⟨#[]⟩, 0, 0, ⟨#[]⟩, ⟨#[115]⟩, 2, 2, ⟨#[115]⟩, 1, 2⟩)
  rw [h] at e
  exact e
theorem kind_8 : FRightT [V.agg [.x (.int .i64 4), .x (.string ⟨#[45]⟩), .x (.string ⟨#[]⟩), .x (.int .i64 0), .x (.int .i64 0), .x (.string ⟨#[]⟩), .x (.string ⟨#[]⟩), .x (.int .i64 0), .x (.int .i64 0), .x (.string ⟨#[]⟩), .x (.int .i64 0), .x (.int .i64 0), .sl false 13 [V.agg [.x (.int .i64 1), .x (.string ⟨#[]⟩), .x (.string ⟨#[]⟩), .x (.int .i64 1), .x (.int .i64 3), .x (.string ⟨#[]⟩), .x (.string ⟨#[]⟩), .x (.int .i64 0), .x (.int .i64 0), .x (.string ⟨#[]⟩), .x (.int .i64 0), .x (.int .i64 0), .sl true 0 [] none]] none]] = some (.x (.bool true)) := by
  have h : rwN 20 (.mk ⟨4, ⟨#[45]⟩, ⟨#[]⟩, 0, 0, ⟨#[]⟩, ⟨#[]⟩, 0, 0, ⟨#[]⟩, 0, 0⟩ [(.leaf ⟨1, ⟨#[]⟩, ⟨#[]⟩, 1, 3, ⟨#[]⟩, ⟨#[]⟩, 0, 0, ⟨#[]⟩, 0, 0⟩)]) = true := by kernel_rfl
  have e := FRightT_eq (.mk ⟨4, ⟨#[45]⟩, ⟨#[]⟩, 0, 0, ⟨#[]⟩, ⟨#[]⟩, 0, 0, ⟨#[]⟩, 0, 0⟩ [(.leaf ⟨1, ⟨#[]⟩, ⟨#[]⟩, 1, 3, ⟨#[]⟩, ⟨#[]⟩, 0, 0, ⟨#[]⟩, 0, 0⟩)])
  rw [h] at e
  exact e
theorem kind_9 : FRightT [V.agg [.x (.int .i64 4), .x (.string ⟨#[43]⟩), .x (.string ⟨#[]⟩), .x (.int .i64 0), .x (.int .i64 0), .x (.string ⟨#[]⟩), .x (.string ⟨#[]⟩), .x (.int .i64 0), .x (.int .i64 0), .x (.string ⟨#[]⟩), .x (.int .i64 0), .x (.int .i64 0), .sl false 13 [V.agg [.x (.int .i64 1), .x (.string ⟨#[]⟩), .x (.string ⟨#[]⟩), .x (.int .i64 1), .x (.int .i64 3), .x (.string ⟨#[]⟩), .x (.string ⟨#[]⟩), .x (.int .i64 0), .x (.int .i64 0), .x (.string ⟨#[]⟩), .x (.int .i64 0), .x (.int .i64 0), .sl true 0 [] none]] none]] = some (.x (.bool false)) := by
  have h : rwN 20 (.mk ⟨4, ⟨#[43]⟩, ⟨#[]⟩, 0, 0, ⟨#[]⟩, ⟨#[]⟩, 0, 0, ⟨#[]⟩, 0, 0⟩ [(.leaf ⟨1, ⟨#[]⟩, ⟨#[]⟩, 1, 3, ⟨#[]⟩, ⟨#[]⟩, 0, 0, ⟨#[]⟩, 0, 0⟩)]) = false := by kernel_rfl
  have e := FRightT_eq (.mk ⟨4, ⟨#[43]⟩, ⟨#[]⟩, 0, 0, ⟨#[]⟩, ⟨#[]⟩, 0, 0, ⟨#[]⟩, 0, 0⟩ [(.leaf ⟨1, ⟨#[]⟩, ⟨#[]⟩, 1, 3, ⟨#[]⟩, ⟨#[]⟩, 0, 0, ⟨#[]⟩, 0, 0⟩)])
  rw [h] at e
  exact e
theorem kind_10 : FRightT [V.agg [.x (.int .i64 5), .x (.string ⟨#[60, 62]⟩), .x (.string ⟨#[]⟩), .x (.int .i64 0), .x (.int .i64 0), .x (.string ⟨#[]⟩), .x (.string ⟨#[]⟩), .x (.int .i64 0), .x (.int .i64 0), .x (.string ⟨#[]⟩), .x (.int .i64 0), .x (.int .i64 0), .sl false 13 [V.agg [.x (.int .i64 1), .x (.string ⟨#[]⟩), .x (.string ⟨#[]⟩), .x (.int .i64 1), .x (.int .i64 3), .x (.string ⟨#[]⟩), .x (.string ⟨#[]⟩), .x (.int .i64 0), .x (.int .i64 0), .x (.string ⟨#[]⟩), .x (.int .i64 0), .x (.int .i64 0), .sl true 0 [] none], V.agg [.x (.int .i64 1), .x (.string ⟨#[]⟩), .x (.string ⟨#[]⟩), .x (.int .i64 1), .x (.int .i64 3), .x (.string ⟨#[]⟩), .x (.string ⟨#[]⟩), .x (.int .i64 0), .x (.int .i64 0), .x (.string ⟨#[]⟩), .x (.int .i64 0), .x (.int .i64 0), .sl true 0 [] none]] none]] = some (.x (.bool true)) := by
  have h : rwN 20 (.mk ⟨5, ⟨#[60, 62]⟩, ⟨#[]⟩, 0, 0, ⟨#[]⟩, ⟨#[]⟩, 0, 0, ⟨#[]⟩, 0, 0⟩ [(.leaf ⟨1, ⟨#[]⟩, ⟨#[]⟩, 1, 3, ⟨#[]⟩, ⟨#[]⟩, 0, 0, ⟨#[]⟩, 0, 0⟩), (.leaf ⟨1, ⟨#[]⟩, ⟨#[]⟩, 1, 3, ⟨#[]⟩, ⟨#[]⟩, 0, 0, ⟨#[]⟩, 0, 0⟩)]) = true := by kernel_rfl
  have e := FRightT_eq (.mk ⟨5, ⟨#[60, 62]⟩, ⟨#[]⟩, 0, 0, ⟨#[]⟩, ⟨#[]⟩, 0, 0, ⟨#[]⟩, 0, 0⟩ [(.leaf ⟨1, ⟨#[]⟩, ⟨#[]⟩, 1, 3, ⟨#[]⟩, ⟨#[]⟩, 0, 0, ⟨#[]⟩, 0, 0⟩), (.leaf ⟨1, ⟨#[]⟩, ⟨#[]⟩, 1, 3, ⟨#[]⟩, ⟨#[]⟩, 0, 0, ⟨#[]⟩, 0, 0⟩)])
  rw [h] at e
  exact e
theorem kind_11 : FRightT [V.agg [.x (.int .i64 5), .x (.string ⟨#[60, 62]⟩), .x (.string ⟨#[]⟩), .x (.int .i64 0), .x (.int .i64 0), .x (.string ⟨#[]⟩), .x (.string ⟨#[]⟩), .x (.int .i64 0), .x (.int .i64 0), .x (.string ⟨#[]⟩), .x (.int .i64 0), .x (.int .i64 0), .sl false 13 [V.agg [.x (.int .i64 1), .x (.string ⟨#[]⟩), .x (.string ⟨#[]⟩), .x (.int .i64 1), .x (.int .i64 3), .x (.string ⟨#[]⟩), .x (.string ⟨#[]⟩), .x (.int .i64 0), .x (.int .i64 0), .x (.string ⟨#[]⟩), .x (.int .i64 0), .x (.int .i64 0), .sl true 0 [] none]] none]] = some (.x (.bool false)) := by
  have h : rwN 20 (.mk ⟨5, ⟨#[60, 62]⟩, ⟨#[]⟩, 0, 0, ⟨#[]⟩, ⟨#[]⟩, 0, 0, ⟨#[]⟩, 0, 0⟩ [(.leaf ⟨1, ⟨#[]⟩, ⟨#[]⟩, 1, 3, ⟨#[]⟩, ⟨#[]⟩, 0, 0, ⟨#[]⟩, 0, 0⟩)]) = false := by kernel_rfl
  have e := FRightT_eq (.mk ⟨5, ⟨#[60, 62]⟩, ⟨#[]⟩, 0, 0, ⟨#[]⟩, ⟨#[]⟩, 0, 0, ⟨#[]⟩, 0, 0⟩ [(.leaf ⟨1, ⟨#[]⟩, ⟨#[]⟩, 1, 3, ⟨#[]⟩, ⟨#[]⟩, 0, 0, ⟨#[]⟩, 0, 0⟩)])
  rw [h] at e
  exact e
theorem kind_12 : FRightT [V.agg [.x (.int .i64 6), .x (.string ⟨#[]⟩), .x (.string ⟨#[70]⟩), .x (.int .i64 0), .x (.int .i64 0), .x (.string ⟨#[]⟩), .x (.string ⟨#[]⟩), .x (.int .i64 0), .x (.int .i64 0), .x (.string ⟨#[]⟩), .x (.int .i64 0), .x (.int .i64 0), .sl true 0 [] none]] = some (.x (.bool true)) := by
  have h : rwN 20 (.leaf ⟨6, ⟨#[]⟩, ⟨#[70]⟩, 0, 0, ⟨#[]⟩, ⟨#[]⟩, 0, 0, ⟨#[]⟩, 0, 0⟩) = true := by kernel_rfl
  have e := FRightT_eq (.leaf ⟨6, ⟨#[]⟩, ⟨#[70]⟩, 0, 0, ⟨#[]⟩, ⟨#[]⟩, 0, 0, ⟨#[]⟩, 0, 0⟩)
  rw [h] at e
  exact e
theorem kind_13 : FRightT [V.agg [.x (.int .i64 6), .x (.string ⟨#[]⟩), .x (.string ⟨#[84, 82, 85, 69]⟩), .x (.int .i64 0), .x (.int .i64 0), .x (.string ⟨#[]⟩), .x (.string ⟨#[]⟩), .x (.int .i64 0), .x (.int .i64 0), .x (.string ⟨#[]⟩), .x (.int .i64 0), .x (.int .i64 0), .sl true 0 [] none]] = some (.x (.bool false)) := by
  have h : rwN 20 (.leaf ⟨6, ⟨#[]⟩, ⟨#[84, 82, 85, 69]⟩, 0, 0, ⟨#[]⟩, ⟨#[]⟩, 0, 0, ⟨#[]⟩, 0, 0⟩) = false := by kernel_rfl
  have e := FRightT_eq (.leaf ⟨6, ⟨#[]⟩, ⟨#[84, 82, 85, 69]⟩, 0, 0, ⟨#[]⟩, ⟨#[]⟩, 0, 0, ⟨#[]⟩, 0, 0⟩)
  rw [h] at e
  exact e
theorem kind_14 : FRightT [V.agg [.x (.int .i64 6), .x (.string ⟨#[]⟩), .x (.string ⟨#[65, 66, 67, 68, 69, 70, 71, 72]⟩), .x (.int .i64 0), .x (.int .i64 0), .x (.string ⟨#[]⟩), .x (.string ⟨#[]⟩), .x (.int .i64 0), .x (.int .i64 0), .x (.string ⟨#[]⟩), .x (.int .i64 0), .x (.int .i64 0), .sl true 0 [] none]] = some (.x (.bool true)) := by
  have h : rwN 20 (.leaf ⟨6, ⟨#[]⟩, ⟨#[65, 66, 67, 68, 69, 70, 71, 72]⟩, 0, 0, ⟨#[]⟩, ⟨#[]⟩, 0, 0, ⟨#[]⟩, 0, 0⟩) = true := by kernel_rfl
  have e := FRightT_eq (.leaf ⟨6, ⟨#[]⟩, ⟨#[65, 66, 67, 68, 69, 70, 71, 72]⟩, 0, 0, ⟨#[]⟩, ⟨#[]⟩, 0, 0, ⟨#[]⟩, 0, 0⟩)
  rw [h] at e
  exact e
theorem kind_15 : FRightT [V.agg [.x (.int .i64 6), .x (.string ⟨#[]⟩), .x (.string ⟨#[65, 66, 67, 68, 69, 70, 71, 72, 73]⟩), .x (.int .i64 0), .x (.int .i64 0), .x (.string ⟨#[]⟩), .x (.string ⟨#[]⟩), .x (.int .i64 0), .x (.int .i64 0), .x (.string ⟨#[]⟩), .x (.int .i64 0), .x (.int .i64 0), .sl true 0 [] none]] = some (.x (.bool false)) := by
  have h : rwN 20 (.leaf ⟨6, ⟨#[]⟩, ⟨#[65, 66, 67, 68, 69, 70, 71, 72, 73]⟩, 0, 0, ⟨#[]⟩, ⟨#[]⟩, 0, 0, ⟨#[]⟩, 0, 0⟩) = false := by kernel_rfl
  have e := FRightT_eq (.leaf ⟨6, ⟨#[]⟩, ⟨#[65, 66, 67, 68, 69, 70, 71, 72, 73]⟩, 0, 0, ⟨#[]⟩, ⟨#[]⟩, 0, 0, ⟨#[]⟩, 0, 0⟩)
  rw [h] at e
  exact e
theorem kind_16 : FRightT [V.agg [.x (.int .i64 7), .x (.string ⟨#[120]⟩), .x (.string ⟨#[]⟩), .x (.int .i64 0), .x (.int .i64 0), .x (.string ⟨#[]⟩), .x (.string ⟨#[]⟩), .x (.int .i64 0), .x (.int .i64 0), .x (.string ⟨#[]⟩), .x (.int .i64 0), .x (.int .i64 0), .sl true 0 [] none]] = some (.x (.bool false)) := by
  have h : rwN 20 (.leaf ⟨7, ⟨#[120]⟩, ⟨#[]⟩, 0, 0, ⟨#[]⟩, ⟨#[]⟩, 0, 0, ⟨#[]⟩, 0, 0⟩) = false := by kernel_rfl
  have e := FRightT_eq (.leaf ⟨7, ⟨#[120]⟩, ⟨#[]⟩, 0, 0, ⟨#[]⟩, ⟨#[]⟩, 0, 0, ⟨#[]⟩, 0, 0⟩)
  rw [h] at e
  exact e
theorem kind_17 : FRightT [V.agg [.x (.int .i64 8), .x (.string ⟨#[]⟩), .x (.string ⟨#[]⟩), .x (.int .i64 0), .x (.int .i64 0), .x (.string ⟨#[]⟩), .x (.string ⟨#[]⟩), .x (.int .i64 0), .x (.int .i64 0), .x (.string ⟨#[]⟩), .x (.int .i64 0), .x (.int .i64 0), .sl true 0 [] none]] = some (.x (.bool false)) := by
  have h : rwN 20 (.leaf ⟨8, ⟨#[]⟩, ⟨#[]⟩, 0, 0, ⟨#[]⟩, ⟨#[]⟩, 0, 0, ⟨#[]⟩, 0, 0⟩) = false := by kernel_rfl
  have e := FRightT_eq (.leaf ⟨8, ⟨#[]⟩, ⟨#[]⟩, 0, 0, ⟨#[]⟩, ⟨#[]⟩, 0, 0, ⟨#[]⟩, 0, 0⟩)
  rw [h] at e
  exact e
def FKinds : List V → Option V
  | [.x (.int .i64 _)] => some (.x (.bool true))
  | _ => none
set_option maxHeartbeats 8000000 in
set_option maxRecDepth 100000 in
theorem kinds_fun : FunV 5 FKinds := by
  refine fun_of_run (E := envOf [(6, FAlive), (8, FRightT)]) (k := 1) (envOK_of _ ⟨alive_fun, rightt_fun, trivial⟩) (by kernel_rfl) Try.func5 rfl (fun a w => Try.call5 a w) Try.ntmps5 (by kernel_rfl) (by decide) (by decide) ?_
  intro us r hF hdat
  unfold FKinds at hF
  split at hF
  case h_2 => cases hF
  rename_i w
  cases hF
  clear hdat
  refine ⟨rfl, ?_⟩
  have eA : FAlive [] = some (.x (.bool true)) := rfl
  by_cases h0 : w < 0
  · have d0 := decide_eq_true h0
    simp (decide := true) (maxDischargeDepth := 200) only [go_sem, eA, d0, List.append_eq, Try.results5]
  · by_cases h1 : 18 ≤ w
    · have d0 := decide_eq_false h0
      have d1 := decide_eq_true h1
      simp (decide := true) (maxDischargeDepth := 200) only [go_sem, eA, d0, d1, List.append_eq, Nat.reduceAdd, show ((18 : Nat) : Int) = 18 from rfl, Try.results5]
    · have hc : w = 0 ∨ w = 1 ∨ w = 2 ∨ w = 3 ∨ w = 4 ∨ w = 5 ∨ w = 6 ∨ w = 7 ∨ w = 8 ∨ w = 9 ∨ w = 10 ∨ w = 11 ∨ w = 12 ∨ w = 13 ∨ w = 14 ∨ w = 15 ∨ w = 16 ∨ w = 17 := by omega
      have d0 := decide_eq_false h0
      have d1 := decide_eq_false h1
      simp (decide := true) (maxDischargeDepth := 200) only [go_sem, eA, d0, d1, List.append_eq, Nat.reduceAdd, show ((18 : Nat) : Int) = 18 from rfl, Try.results5]
      clear d0 d1
      rcases hc with rfl | rfl | rfl | rfl | rfl | rfl | rfl | rfl | rfl | rfl | rfl | rfl | rfl | rfl | rfl | rfl | rfl | rfl
      · simp (decide := true) (maxDischargeDepth := 200) only [go_sem, kind_0, show Int.toNat 0 = 0 from rfl, List.append_eq, Nat.reduceAdd, Try.results5]
      · simp (decide := true) (maxDischargeDepth := 200) only [go_sem, kind_1, show Int.toNat 1 = 1 from rfl, List.append_eq, Nat.reduceAdd, Try.results5]
      · simp (decide := true) (maxDischargeDepth := 200) only [go_sem, kind_2, show Int.toNat 2 = 2 from rfl, List.append_eq, Nat.reduceAdd, Try.results5]
      · simp (decide := true) (maxDischargeDepth := 200) only [go_sem, kind_3, show Int.toNat 3 = 3 from rfl, List.append_eq, Nat.reduceAdd, Try.results5]
      · simp (decide := true) (maxDischargeDepth := 200) only [go_sem, kind_4, show Int.toNat 4 = 4 from rfl, List.append_eq, Nat.reduceAdd, Try.results5]
      · simp (decide := true) (maxDischargeDepth := 200) only [go_sem, kind_5, show Int.toNat 5 = 5 from rfl, List.append_eq, Nat.reduceAdd, Try.results5]
      · simp (decide := true) (maxDischargeDepth := 200) only [go_sem, kind_6, show Int.toNat 6 = 6 from rfl, List.append_eq, Nat.reduceAdd, Try.results5]
      · simp (decide := true) (maxDischargeDepth := 200) only [go_sem, kind_7, show Int.toNat 7 = 7 from rfl, List.append_eq, Nat.reduceAdd, Try.results5]
      · simp (decide := true) (maxDischargeDepth := 200) only [go_sem, kind_8, show Int.toNat 8 = 8 from rfl, List.append_eq, Nat.reduceAdd, Try.results5]
      · simp (decide := true) (maxDischargeDepth := 200) only [go_sem, kind_9, show Int.toNat 9 = 9 from rfl, List.append_eq, Nat.reduceAdd, Try.results5]
      · simp (decide := true) (maxDischargeDepth := 200) only [go_sem, kind_10, show Int.toNat 10 = 10 from rfl, List.append_eq, Nat.reduceAdd, Try.results5]
      · simp (decide := true) (maxDischargeDepth := 200) only [go_sem, kind_11, show Int.toNat 11 = 11 from rfl, List.append_eq, Nat.reduceAdd, Try.results5]
      · simp (decide := true) (maxDischargeDepth := 200) only [go_sem, kind_12, show Int.toNat 12 = 12 from rfl, List.append_eq, Nat.reduceAdd, Try.results5]
      · simp (decide := true) (maxDischargeDepth := 200) only [go_sem, kind_13, show Int.toNat 13 = 13 from rfl, List.append_eq, Nat.reduceAdd, Try.results5]
      · simp (decide := true) (maxDischargeDepth := 200) only [go_sem, kind_14, show Int.toNat 14 = 14 from rfl, List.append_eq, Nat.reduceAdd, Try.results5]
      · simp (decide := true) (maxDischargeDepth := 200) only [go_sem, kind_15, show Int.toNat 15 = 15 from rfl, List.append_eq, Nat.reduceAdd, Try.results5]
      · simp (decide := true) (maxDischargeDepth := 200) only [go_sem, kind_16, show Int.toNat 16 = 16 from rfl, List.append_eq, Nat.reduceAdd, Try.results5]
      · simp (decide := true) (maxDischargeDepth := 200) only [go_sem, kind_17, show Int.toNat 17 = 17 from rfl, List.append_eq, Nat.reduceAdd, Try.results5]


/-- A formula of so many nodes one below the other. -/
def chN (p : Bool) : Nat → Nd
  | 0 => (.leaf ⟨7, ⟨#[]⟩, ⟨#[]⟩, 0, 0, ⟨#[]⟩, ⟨#[]⟩, 0, 0, ⟨#[]⟩, 0, 0⟩)
  | j + 1 => bif p then .mk ⟨5, ⟨#[43]⟩, ⟨#[]⟩, 0, 0, ⟨#[]⟩, ⟨#[]⟩, 0, 0, ⟨#[]⟩, 0, 0⟩ [(.leaf ⟨7, ⟨#[]⟩, ⟨#[]⟩, 0, 0, ⟨#[]⟩, ⟨#[]⟩, 0, 0, ⟨#[]⟩, 0, 0⟩), chN p j] else .mk ⟨4, ⟨#[45]⟩, ⟨#[]⟩, 0, 0, ⟨#[]⟩, ⟨#[]⟩, 0, 0, ⟨#[]⟩, 0, 0⟩ [chN p j]
theorem ch_dN (p : Bool) (j : Nat) : dN (chN p j) = j + 1 := by
  induction j with
  | zero => simp [chN, dN]
  | succ j ih => cases p <;> simp [chN, dN, dL, ih] <;> omega
theorem ch_cnt (p : Bool) (j : Nat) : cnt (chN p j) ≤ 2 * j + 1 := by
  induction j with
  | zero => simp [chN, cnt]
  | succ j ih => cases p <;> simp [chN, cnt, cntL] <;> omega
theorem ch_rN (p : Bool) (j : Nat) : rN (chN p j) = true := by
  induction j with
  | zero => show rN (.leaf ⟨7, ⟨#[]⟩, ⟨#[]⟩, 0, 0, ⟨#[]⟩, ⟨#[]⟩, 0, 0, ⟨#[]⟩, 0, 0⟩) = true; kernel_rfl
  | succ j ih =>
    cases p
    · have h : (bareB ⟨4, ⟨#[45]⟩, ⟨#[]⟩, 0, 0, ⟨#[]⟩, ⟨#[]⟩, 0, 0, ⟨#[]⟩, 0, 0⟩ 1 && okR ⟨4, ⟨#[45]⟩, ⟨#[]⟩, 0, 0, ⟨#[]⟩, ⟨#[]⟩, 0, 0, ⟨#[]⟩, 0, 0⟩ 1) = true := by kernel_rfl
      simp only [Bool.and_eq_true] at h
      simp only [chN, cond_false, rN, rL, List.length_cons, List.length_nil, Nat.zero_add, h.1, h.2, ih, Bool.and_self]
    · have h : (bareB ⟨5, ⟨#[43]⟩, ⟨#[]⟩, 0, 0, ⟨#[]⟩, ⟨#[]⟩, 0, 0, ⟨#[]⟩, 0, 0⟩ 2 && okR ⟨5, ⟨#[43]⟩, ⟨#[]⟩, 0, 0, ⟨#[]⟩, ⟨#[]⟩, 0, 0, ⟨#[]⟩, 0, 0⟩ 2) = true := by kernel_rfl
      have h7 : rN (.leaf ⟨7, ⟨#[]⟩, ⟨#[]⟩, 0, 0, ⟨#[]⟩, ⟨#[]⟩, 0, 0, ⟨#[]⟩, 0, 0⟩) = true := by kernel_rfl
      simp only [Bool.and_eq_true] at h
      rw [rN_eq]
      simp only [chN, cond_true, Nd.hd, Nd.ks, rL, List.length_cons, List.length_nil, Nat.zero_add, Nat.reduceAdd, h.1, h.2, h7, ih, Bool.and_self]
def FDeep : List V → Option V
  | [.x (.int .i64 _), .x (.bool _)] => some (.x (.bool true))
  | _ => none
set_option maxHeartbeats 4000000 in
set_option maxRecDepth 100000 in
theorem deep_fun : FunV 4 FDeep := by
  refine fun_of_run (E := envOf [(6, FAlive), (10, (FE encN GDepth)), (8, FRightT)]) (k := 2) (envOK_of _ ⟨alive_fun, depth_fun, rightt_fun, trivial⟩) (by kernel_rfl) Try.func4 rfl (fun a w => Try.call4 a w) Try.ntmps4 (by kernel_rfl) (by decide) (by decide) ?_
  intro us r hF hdat
  unfold FDeep at hF
  split at hF
  case h_2 => cases hF
  rename_i w p
  cases hF
  clear hdat
  refine ⟨rfl, ?_⟩
  have eA : FAlive [] = some (.x (.bool true)) := rfl
  by_cases h0 : w < 1
  · have d0 := decide_eq_true h0
    simp (decide := true) (maxDischargeDepth := 200) only [go_sem, eA, d0, Try.results4]
  by_cases h1 : 60 < w
  · have d0 := decide_eq_false h0
    have d1 := decide_eq_true h1
    simp (decide := true) (maxDischargeDepth := 200) only [go_sem, eA, d0, d1, Try.results4]
  have d0 := decide_eq_false h0
  have d1 := decide_eq_false h1
  obtain ⟨n, rfl⟩ := Int.eq_ofNat_of_zero_le (show 0 ≤ w by omega)
  simp (decide := true) (maxDischargeDepth := 200) only [go_sem, eA, d0, d1, Try.results4]
  refine loop_of (X := {y : Nat × List V // y.1 + 1 ≤ n ∧ V.agg y.2 = nodeV (chN p y.1)}) (fun y => [(0, .x (.int .i64 ((n : Nat) : Int))), (1, .x (.bool p)), (6, .ptr 6 0), (7, .x (.int .i64 ((y.1.1 + 1 : Nat) : Int)))]) (fun y => [(6, y.1.2)]) (fun y => n - y.1.1) ⟨(0, [.x (.int .i64 7), .x (.string ⟨#[]⟩), .x (.string ⟨#[]⟩), .x (.int .i64 0), .x (.int .i64 0), .x (.string ⟨#[]⟩), .x (.string ⟨#[]⟩), .x (.int .i64 0), .x (.int .i64 0), .x (.string ⟨#[]⟩), .x (.int .i64 0), .x (.int .i64 0), .sl true 0 [] none]), by simp only; omega, by simp only [chN, nodeV]; rfl⟩ (by simp (decide := true) only [go_sem] <;> (repeat' first | rfl | constructor)) (by simp (decide := true) only [go_sem] <;> (repeat' first | rfl | constructor)) (fun ⟨(j, cs0), hj, hcs⟩ => ?_)
  simp only at hj hcs
  obtain ⟨k, op, nm, vk, vn, vs, cs, cc, cr, ts, tc, tr, l, nl, sz, hh, hl, hf, hs⟩ := node_cases (chN p j)
  obtain rfl := V.agg.inj (hcs.trans hf)
  cases p
  · by_cases hi : j + 1 < n
    · have c1 : decide (((j + 1 : Nat) : Int) < ((n : Nat) : Int)) = true := decide_eq_true (by omega)
      have c4 := count_up (i := j + 1) (by omega)
      simp (decide := true) (maxDischargeDepth := 200) only [go_sem, c1, c4, Try.results4]
      refine ⟨⟨(j + 1, [.x (.int .i64 4), .x (.string ⟨#[45]⟩), .x (.string ⟨#[]⟩), .x (.int .i64 0), .x (.int .i64 0), .x (.string ⟨#[]⟩), .x (.string ⟨#[]⟩), .x (.int .i64 0), .x (.int .i64 0), .x (.string ⟨#[]⟩), .x (.int .i64 0), .x (.int .i64 0), .sl false 13 [.agg [.x (.int .i64 k), .x (.string op), .x (.string nm), .x (.int .i64 vk), .x (.int .i64 vn), .x (.string vs), .x (.string cs), .x (.int .i64 cc), .x (.int .i64 cr), .x (.string ts), .x (.int .i64 tc), .x (.int .i64 tr), .sl nl sz (l.map nodeV) none]] none]), by simp only; omega, ?_⟩, ?_, ?_, ?_⟩
      rotate_left
      · simp (decide := true) only [go_sem]
      · simp (decide := true) only [go_sem]
      · simp only; omega
      show V.agg [.x (.int .i64 4), .x (.string ⟨#[45]⟩), .x (.string ⟨#[]⟩), .x (.int .i64 0), .x (.int .i64 0), .x (.string ⟨#[]⟩), .x (.string ⟨#[]⟩), .x (.int .i64 0), .x (.int .i64 0), .x (.string ⟨#[]⟩), .x (.int .i64 0), .x (.int .i64 0), .sl false 13 [.agg [.x (.int .i64 k), .x (.string op), .x (.string nm), .x (.int .i64 vk), .x (.int .i64 vn), .x (.string vs), .x (.string cs), .x (.int .i64 cc), .x (.int .i64 cr), .x (.string ts), .x (.int .i64 tc), .x (.int .i64 tr), .sl nl sz (l.map nodeV) none]] none] = nodeV (chN false (j + 1))
      simp only [chN, cond_false, nodeV, nodesV, hf]
      rfl
    · have c1 : decide (((j + 1 : Nat) : Int) < ((n : Nat) : Int)) = false := decide_eq_false (by omega)
      have hc := ch_cnt false j
      have e1 := FDepth_eq (nd := chN false j) (by omega)
      have e2 := FRightT_eq (chN false j)
      rw [ch_dN, hf] at e1
      rw [rw_right, ch_dN, ch_rN, Bool.and_true, hf] at e2
      have d1 : decide (((j + 1 : Nat) : Int) = ((n : Nat) : Int)) = true := decide_eq_true (by omega)
      have d2 : decide (((n : Nat) : Int) ≤ 20) = decide (j + 1 ≤ 20) := decide_eq_decide.2 (by omega)
      simp (decide := true) (maxDischargeDepth := 200) only [go_sem, c1, e1, e2, d1, d2, Try.results4]
  · by_cases hi : j + 1 < n
    · have c1 : decide (((j + 1 : Nat) : Int) < ((n : Nat) : Int)) = true := decide_eq_true (by omega)
      have c4 := count_up (i := j + 1) (by omega)
      simp (decide := true) (maxDischargeDepth := 200) only [go_sem, c1, c4, Try.results4]
      refine ⟨⟨(j + 1, [.x (.int .i64 5), .x (.string ⟨#[43]⟩), .x (.string ⟨#[]⟩), .x (.int .i64 0), .x (.int .i64 0), .x (.string ⟨#[]⟩), .x (.string ⟨#[]⟩), .x (.int .i64 0), .x (.int .i64 0), .x (.string ⟨#[]⟩), .x (.int .i64 0), .x (.int .i64 0), .sl false 13 [V.agg [.x (.int .i64 7), .x (.string ⟨#[]⟩), .x (.string ⟨#[]⟩), .x (.int .i64 0), .x (.int .i64 0), .x (.string ⟨#[]⟩), .x (.string ⟨#[]⟩), .x (.int .i64 0), .x (.int .i64 0), .x (.string ⟨#[]⟩), .x (.int .i64 0), .x (.int .i64 0), .sl true 0 [] none], .agg [.x (.int .i64 k), .x (.string op), .x (.string nm), .x (.int .i64 vk), .x (.int .i64 vn), .x (.string vs), .x (.string cs), .x (.int .i64 cc), .x (.int .i64 cr), .x (.string ts), .x (.int .i64 tc), .x (.int .i64 tr), .sl nl sz (l.map nodeV) none]] none]), by simp only; omega, ?_⟩, ?_, ?_, ?_⟩
      rotate_left
      · simp (decide := true) only [go_sem]
      · simp (decide := true) only [go_sem]
      · simp only; omega
      show V.agg [.x (.int .i64 5), .x (.string ⟨#[43]⟩), .x (.string ⟨#[]⟩), .x (.int .i64 0), .x (.int .i64 0), .x (.string ⟨#[]⟩), .x (.string ⟨#[]⟩), .x (.int .i64 0), .x (.int .i64 0), .x (.string ⟨#[]⟩), .x (.int .i64 0), .x (.int .i64 0), .sl false 13 [V.agg [.x (.int .i64 7), .x (.string ⟨#[]⟩), .x (.string ⟨#[]⟩), .x (.int .i64 0), .x (.int .i64 0), .x (.string ⟨#[]⟩), .x (.string ⟨#[]⟩), .x (.int .i64 0), .x (.int .i64 0), .x (.string ⟨#[]⟩), .x (.int .i64 0), .x (.int .i64 0), .sl true 0 [] none], .agg [.x (.int .i64 k), .x (.string op), .x (.string nm), .x (.int .i64 vk), .x (.int .i64 vn), .x (.string vs), .x (.string cs), .x (.int .i64 cc), .x (.int .i64 cr), .x (.string ts), .x (.int .i64 tc), .x (.int .i64 tr), .sl nl sz (l.map nodeV) none]] none] = nodeV (chN true (j + 1))
      simp only [chN, cond_true, nodeV, nodesV, hf]
      rfl
    · have c1 : decide (((j + 1 : Nat) : Int) < ((n : Nat) : Int)) = false := decide_eq_false (by omega)
      have hc := ch_cnt true j
      have e1 := FDepth_eq (nd := chN true j) (by omega)
      have e2 := FRightT_eq (chN true j)
      rw [ch_dN, hf] at e1
      rw [rw_right, ch_dN, ch_rN, Bool.and_true, hf] at e2
      have d1 : decide (((j + 1 : Nat) : Int) = ((n : Nat) : Int)) = true := decide_eq_true (by omega)
      have d2 : decide (((n : Nat) : Int) ≤ 20) = decide (j + 1 ≤ 20) := decide_eq_decide.2 (by omega)
      simp (decide := true) (maxDischargeDepth := 200) only [go_sem, c1, e1, e2, d1, d2, Try.results4]

end Go.Proofs.Ytfmdcgakkijkdaa
