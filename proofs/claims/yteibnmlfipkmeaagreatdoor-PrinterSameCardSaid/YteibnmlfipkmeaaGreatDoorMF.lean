/- The project's reader, all of it, and Parse. -/
import Derived.Test.YteibnmlfipkmeaaGreatDoorMA
import Derived.Test.YteibnmlfipkmeaaGreatDoorMK
import Derived.Test.YteibnmlfipkmeaaGreatDoorMT
import Derived.Test.YteibnmlfipkmeaaGreatDoorMC
import Derived.Test.YteibnmlfipkmeaaGreatDoorPrD
namespace Go.Proofs.YteibnmlfipkmeaaGreatDoor
open Go Go.RowKit
set_option linter.unusedSimpArgs false
open Classical in
/-- What functions of depth come to. -/
noncomputable def FEv (F : Nat → List V → Option V) (us : List V) : Option V := if h : ∃ r, Ev fun n => F n us = some r then some (Classical.choose h) else none
theorem FEv_at {F : Nat → List V → Option V} {us : List V} {r : V} (h : Ev fun n => F n us = some r) : FEv F us = some r := by
  unfold FEv
  have hx : ∃ r, Ev fun n => F n us = some r := ⟨r, h⟩
  rw [dif_pos hx]
  obtain ⟨M, hM⟩ := (Classical.choose_spec hx).and h
  obtain ⟨h1, h2⟩ := hM M (Nat.le_refl _)
  rw [h1] at h2
  exact h2
theorem fun_ev {f : FuncId} {F : Nat → List V → Option V} (h : ∀ n, FunV f (F n)) : FunV f (FEv F) := by
  refine ⟨(h 0).1, fun m w vs us r hF => ?_⟩
  unfold FEv at hF
  split at hF
  · rename_i hx
    obtain ⟨M, hM⟩ := Classical.choose_spec hx
    cases hF
    exact (h M).2 m w vs us _ (hM M (Nat.le_refl _))
  · cases hF
theorem funP_none {f : FuncId} {F : List V → Option (V × List (List V))} (hcall : ∀ args w, (callFunc f args).run (envOf []).P w = .ok (.enter f args) w) (h : ∀ us, F us = none) : FunPV f F :=
  ⟨hcall, fun m w vs us bs gs r outs hF => by rw [h us] at hF; cases hF⟩
theorem gw_zero (w : W) (us : List V) : FE encQ (GW 0 w) us = none := by
  cases h : FE encQ (GW 0 w) us with
  | none => rfl
  | some r =>
    obtain ⟨p, _, hp⟩ := FE_out h
    simp only [GW, pF] at hp
    cases hp
theorem gp_zero (us : List V) : FE encQR (GPairs 0) us = none := by
  cases h : FE encQR (GPairs 0) us with
  | none => rfl
  | some r =>
    obtain ⟨p, _, hp⟩ := FE_out h
    obtain ⟨_, hp⟩ := ite_some hp
    simp only [GW, pF] at hp
    cases hp
theorem reader_all (n : Nat) : FunPV 51 (FE encQ (GW n .formula)) ∧ FunPV 76 (FE encQR (GPairs n)) ∧ FunPV 90 (FE encQ (GW n .unary)) ∧ FunPV 107 (FE encQ (GW n .single)) ∧
    FunPV 130 (FE encQ (GW n .inner)) ∧ FunPV 128 (FE encQ (GW n .word)) ∧ FunPV 142 (FE encQ (GW n .call)) := by
  induction n with
  | zero => exact ⟨funP_none (fun a w => Tryz.call51 a w) (gw_zero _), funP_none (fun a w => Tryz.call76 a w) gp_zero, funP_none (fun a w => Tryz.call90 a w) (gw_zero _), funP_none (fun a w => Tryz.call107 a w) (gw_zero _),
      funP_none (fun a w => Tryz.call130 a w) (gw_zero _), funP_none (fun a w => Tryz.call128 a w) (gw_zero _), funP_none (fun a w => Tryz.call142 a w) (gw_zero _)⟩
  | succ n ih =>
    obtain ⟨h1, h2, h3, h4, h5, h6, h7⟩ := ih
    exact ⟨formula_step n h2, pairs_step n h2 h3, unary_step n h3 h4, single_step n h6 h5, inner_step n h1, word_step n h7, call_step n h1⟩
/-- A formula behind which nothing stands. -/
def wholeP (sh : ByteArray) (en : Int) (n : Nat) (l : List Tk) : Option RP := match pF sh en n .formula l with
  | none => none
  | some (a, x, l1) => if x = -1 ∧ l1 ≠ [] then some (a, atP en l1, l1) else some (a, x, l1)
def GWhole (n : Nat) (p : Rq) : Option (V × List (List V)) := match wholeP p.sh p.en n p.l with
  | none => none
  | some q => some (.tup [nodeV q.1, .x (.int .i64 q.2.1)], [rqL p.sh p.nl q.2.2 p.en])
theorem whole_eq {sh : ByteArray} {nl : Bool} {l : List Tk} {en n : Nat} {a : Nd} {x : Int} {l' : List Tk} (h : wholeP sh en n l = some (a, x, l')) : FE encQ (GWhole n) [.bx (rqL sh nl l en)] = some (.tup [nodeV a, .x (.int .i64 x)], [rqL sh nl l' en]) := by
  refine (FE_at encQ_inj _ ⟨sh, nl, l, en⟩).trans ?_
  simp only [GWhole, h]
set_option maxRecDepth 100000 in
theorem whole_fun (n : Nat) : FunPV 26 (FE encQ (GWhole n)) := by
  refine fun_of_runP (E := envB [] (fun _ => false) [(51, (FE encQ (GW n .formula))), (52, (FE encQ GAtP))] (fun _ => false) (fun i => i == 3)) (k := 1) (envOK_B _ _ _ _ _ trivial ⟨(reader_all n).1, atp_fun, trivial⟩) (fun _ _ => rfl) (by kernel_rfl) Tryz.func26 rfl (fun a w => Tryz.call26 a w) Tryz.ntmps26 (by kernel_rfl) (by decide) (by decide) ?_
  intro us r outs hF
  obtain ⟨⟨sh, nl, l, en⟩, hus, hG⟩ := FE_out hF
  clear hF
  subst hus
  have hF := hG
  clear hG
  simp only [GWhole, wholeP] at hF
  simp only [encQ, rqV]
  cases hp : pF sh en n .formula l with
  | none => rw [hp] at hF; cases hF
  | some r0 =>
    obtain ⟨a, x, l1⟩ := r0
    rw [hp] at hF
    simp only at hF
    have e1 := gw_eq (nl := nl) hp
    obtain ⟨ka, opa, nma, vka, vna, vsa, csa, cca, cra, tsa, tca, tra, nla, sza, esa, ha'⟩ := nd_is a
    by_cases hx : x = -1
    · subst hx
      cases l1 with
      | nil =>
        rw [if_neg (fun h => h.2 rfl)] at hF
        cases hF
        refine ⟨rfl, ?_⟩
        simp (decide := true) (maxDischargeDepth := 200) only [go_sem, e1, ha', tks_nil, Int.ofNat_zero, Int.natCast_zero, Tryz.results26]
      | cons t l1 =>
        rw [if_pos ⟨rfl, by simp⟩] at hF
        cases hF
        refine ⟨rfl, ?_⟩
        have c1 : decide ((0 : Int) < ((l1.length + 1 : Nat) : Int)) = true := decide_eq_true (by omega)
        simp (decide := true) (maxDischargeDepth := 200) only [go_sem, e1, ha', tks_len, c1, Tryz.results26]
        refine any_of [(0, .ptr 1000 0), (2, .ptr 2 0), (3, .x (.int .i64 (atP (en : Int) (t :: l1))))] [(1000, rqL sh nl (t :: l1) en), (2, (nodeV a).cells)] (.alt 0 (.alt 1 (.alt 2 (.alt 3 (.alt 4 .fin .none) .none) .none) .none) (.alt 1 (.alt 0 (.alt 2 (.alt 3 (.alt 4 .fin .none) .none) .none) (.alt 2 (.alt 0 (.alt 3 (.alt 4 .fin .none) .none) .none) .none)) .none)) (by decide) ?_ ?_
        · simp (decide := true) (maxDischargeDepth := 200) only [go_sem, atP_eq, ha', Tryz.results26]
        · simp (decide := true) (maxDischargeDepth := 200) only [go_sem, ha', Tryz.results26]
    · rw [if_neg (fun h => hx h.1)] at hF
      cases hF
      refine ⟨rfl, ?_⟩
      have c1 : decide (x = -1) = false := decide_eq_false hx
      simp (decide := true) (maxDischargeDepth := 200) only [go_sem, e1, ha', c1, Tryz.results26]

/-- Parse, let call itself n deep. -/
def parseV (n : Nat) (s sheet : ByteArray) : Option V :=
  if 200 < s.size then some (.tup [nodeV zNd, .x (.int .i64 0), .x (.int .i64 5)]) else
  match splitP s.data.toList with
  | (_, some i) => some (.tup [nodeV zNd, .x (.int .i64 ((i : Nat) : Int)), .x (.int .i64 3)])
  | (toks, none) => if nameB sheet = false then some (.tup [nodeV zNd, .x (.int .i64 0), .x (.int .i64 1)]) else
    match wholeP sheet (s.size : Int) n toks with
    | none => none
    | some (a, x, _) => if x ≠ -1 then some (.tup [nodeV zNd, .x (.int .i64 x), .x (.int .i64 3)]) else
      if 400 < cnt a then none else if 20 < dN a then some (.tup [nodeV zNd, .x (.int .i64 0), .x (.int .i64 4)]) else some (.tup [nodeV a, .x (.int .i64 (-1)), .x (.int .i64 0)])
def FParseN (n : Nat) : List V → Option V
  | [.x (.string s), .x (.string sheet)] => parseV n s sheet
  | _ => none
theorem FSplit_long {s : ByteArray} (h : 200 < s.size) : FSplit [.x (.string s)] = some (.tup [.sl true 0 [] none, .x (.int .i64 0), .x (.int .i64 5)]) := by simp only [FSplit, if_pos h]
theorem FSplit_no {s : ByteArray} (h : ¬ 200 < s.size) {a : List Tk} {i : Nat} (hs : splitP s.data.toList = (a, some i)) : FSplit [.x (.string s)] = some (.tup [.sl true 0 [] none, .x (.int .i64 ((i : Nat) : Int)), .x (.int .i64 3)]) := by simp only [FSplit, if_neg h, splitV_no hs]
theorem FSplit_ok {s : ByteArray} (h : ¬ 200 < s.size) {a : List Tk} (hs : splitP s.data.toList = (a, none)) : FSplit [.x (.string s)] = some (.tup [.sl (tks a).isEmpty 3 (tks a) none, .x (.int .i64 (-1)), .x (.int .i64 0)]) := by simp only [FSplit, if_neg h, splitV_ok hs]; rfl
set_option maxHeartbeats 2000000 in
set_option maxRecDepth 100000 in
theorem parse_fun (n : Nat) : FunV 12 (FParseN n) := by
  refine fun_of_run (E := envP [(24, FSplit), (25, FName), (27, (FE encN GDepth))] (fun _ => false) [(26, (FE encQ (GWhole n)))]) (k := 2) (envOK_P _ _ _ ⟨split_fun, name_fun, depth_fun, trivial⟩ ⟨whole_fun n, trivial⟩) (by kernel_rfl) Tryz.func12 rfl (fun a w => Tryz.call12 a w) Tryz.ntmps12 (by kernel_rfl) (by decide) (by decide) ?_
  intro us r hF hdat
  unfold FParseN at hF
  split at hF
  case h_2 => cases hF
  rename_i s sheet
  refine ⟨rfl, ?_⟩
  unfold parseV at hF
  by_cases hlen : 200 < s.size
  · rw [if_pos hlen] at hF
    cases hF
    have e1 := FSplit_long hlen
    simp (decide := true) (maxDischargeDepth := 200) only [go_sem, e1, nodeV_leaf, Tryz.results12]
  · rw [if_neg hlen] at hF
    cases hsp : splitP s.data.toList with
    | mk toks bad =>
      rw [hsp] at hF
      cases bad with
      | some i =>
        cases hF
        have e1 := FSplit_no hlen hsp
        simp (decide := true) (maxDischargeDepth := 200) only [go_sem, e1, nodeV_leaf, Tryz.results12]
      | none =>
        simp only at hF
        have e1 := FSplit_ok hlen hsp
        cases hn : nameB sheet with
        | false =>
          rw [hn, if_pos rfl] at hF
          cases hF
          simp (decide := true) (maxDischargeDepth := 200) only [go_sem, e1, FName, hn, nodeV_leaf, Tryz.results12]
        | true =>
          rw [hn, if_neg (by decide)] at hF
          cases hw : wholeP sheet (s.size : Int) n toks with
          | none => rw [hw] at hF; cases hF
          | some q =>
            obtain ⟨a, y, l1⟩ := q
            rw [hw] at hF
            simp only at hF
            have e2 := whole_eq (nl := (tks toks).isEmpty) hw
            obtain ⟨ka, opa, nma, vka, vna, vsa, csa, cca, cra, tsa, tca, tra, nla, sza, esa, ha'⟩ := nd_is a
            by_cases hy : y = -1
            · subst hy
              rw [if_neg (by decide)] at hF
              by_cases h400 : 400 < cnt a
              · rw [if_pos h400] at hF; cases hF
              · rw [if_neg h400] at hF
                have e3 : FE encN GDepth [nodeV a] = _ := FDepth_eq (nd := a) (by omega)
                rw [ha'] at e3
                by_cases h20 : 20 < dN a
                · rw [if_pos h20] at hF
                  cases hF
                  have c1 : decide ((20 : Int) < ((dN a : Nat) : Int)) = true := decide_eq_true (by omega)
                  simp (decide := true) (maxDischargeDepth := 200) only [go_sem, e1, FName, hn, e2, ha', e3, c1, nodeV_leaf, Tryz.results12]
                · rw [if_neg h20] at hF
                  cases hF
                  have c1 : decide ((20 : Int) < ((dN a : Nat) : Int)) = false := decide_eq_false (by omega)
                  simp (decide := true) (maxDischargeDepth := 200) only [go_sem, e1, FName, hn, e2, ha', e3, c1, Tryz.results12]
            · rw [if_pos hy] at hF
              cases hF
              have c1 : decide (y = -1) = false := decide_eq_false hy
              simp (decide := true) (maxDischargeDepth := 200) only [go_sem, e1, FName, hn, e2, ha', c1, nodeV_leaf, Tryz.results12]

end Go.Proofs.YteibnmlfipkmeaaGreatDoor

/- The reference's reader, all of it, and its Parse. -/
namespace Go.Proofs.YteibnmlfipkmeaaGreatDoor
open Go Go.RowKit
set_option linter.unusedSimpArgs false
theorem gu_zero (u : U) (us : List V) : FE encP (GU 0 u) us = none := by
  cases h : FE encP (GU 0 u) us with
  | none => rfl
  | some r =>
    obtain ⟨p, _, hp⟩ := FE_out h
    obtain ⟨_, hp⟩ := ite_some hp
    simp only [rF] at hp
    cases hp
theorem gpr_zero (us : List V) : FE encPR (GPair 0) us = none := by
  cases h : FE encPR (GPair 0) us with
  | none => rfl
  | some r =>
    obtain ⟨p, _, hp⟩ := FE_out h
    have hp : GU 0 (.pair p.2) p.1 = some r := hp
    obtain ⟨_, hp⟩ := ite_some hp
    simp only [rF] at hp
    cases hp
theorem gwd_zero (us : List V) : FE encPT (GWord 0) us = none := by
  cases h : FE encPT (GWord 0) us with
  | none => rfl
  | some r =>
    obtain ⟨p, _, hp⟩ := FE_out h
    obtain ⟨_, hp⟩ := ite_some hp
    have hp : GU 0 .word p.1 = some r := hp
    obtain ⟨_, hp⟩ := ite_some hp
    simp only [rF] at hp
    cases hp
theorem gcl_zero (us : List V) : FE encPS (GCallR 0) us = none := by
  cases h : FE encPS (GCallR 0) us with
  | none => rfl
  | some r =>
    obtain ⟨p, _, hp⟩ := FE_out h
    obtain ⟨_, hp⟩ := ite_some hp
    have hp : GU 0 (.call p.2) p.1 = some r := hp
    obtain ⟨_, hp⟩ := ite_some hp
    simp only [rF] at hp
    cases hp
theorem rreader_all (m : Nat) : FunPV 29 (FE encPR (GPair m)) ∧ FunPV 56 (FE encP (GU m .unary)) ∧ FunPV 77 (FE encP (GU m .first)) ∧ FunPV 97 (FE encPT (GWord m)) ∧ FunPV 112 (FE encPS (GCallR m)) := by
  induction m with
  | zero => exact ⟨funP_none (fun a w => Tryz.call29 a w) gpr_zero, funP_none (fun a w => Tryz.call56 a w) (gu_zero _), funP_none (fun a w => Tryz.call77 a w) (gu_zero _), funP_none (fun a w => Tryz.call97 a w) gwd_zero, funP_none (fun a w => Tryz.call112 a w) gcl_zero⟩
  | succ m ih =>
    obtain ⟨h1, h2, h3, h4, h5⟩ := ih
    exact ⟨pair_step m h1 h2, unaryR_step m h2 h3, first_step m h1 h4 refR_fun, wordR_step m h5 refR_fun, callR_step m h1⟩
/-- The reference's Parse, let call itself m deep. -/
def parseRV (m : Nat) (s sheet : ByteArray) : Option V :=
  if 200 < s.size then some (.tup [nodeV zNd, .x (.int .i64 0), .x (.int .i64 5)]) else
  match splitP s.data.toList with
  | (_, some i) => some (.tup [nodeV zNd, .x (.int .i64 ((i : Nat) : Int)), .x (.int .i64 3)])
  | (toks, none) => if nameB sheet = false then some (.tup [nodeV zNd, .x (.int .i64 0), .x (.int .i64 1)]) else if 1000 < toks.length then none else
    match rF toks (s.size : Int) sheet m (.pair 0) 0 with
    | none => none
    | some (a, i, y) => if 0 ≤ y then some (.tup [nodeV zNd, .x (.int .i64 y), .x (.int .i64 3)]) else if y ≠ -1 then none else
      if i < toks.length then some (.tup [nodeV zNd, .x (.int .i64 (atR toks (s.size : Int) i)), .x (.int .i64 3)]) else
      if 400 < cnt a then none else if 20 < dN a then some (.tup [nodeV zNd, .x (.int .i64 0), .x (.int .i64 4)]) else some (.tup [nodeV a, .x (.int .i64 (-1)), .x (.int .i64 0)])
theorem atR_nn (L : List Tk) (en i : Nat) : 0 ≤ atR L (en : Int) i := by
  unfold atR
  split <;> omega
def FParseR (m : Nat) : List V → Option V
  | [.x (.string s), .x (.string sheet)] => parseRV m s sheet
  | _ => none
set_option maxHeartbeats 4000000 in
set_option maxRecDepth 100000 in
theorem parseR_fun (m : Nat) : FunV 15 (FParseR m) := by
  refine fun_of_run (E := envP [(28, FSplit), (11, FName), (20, (FE encN GDepth))] (fun _ => false) [(29, (FE encPR (GPair m))), (31, (FE encP GAtR)), (30, (FE encPI GFailR))]) (k := 2) (envOK_P _ _ _ ⟨rsplit_fun, rname_fun, rdepth_fun, trivial⟩ ⟨(rreader_all m).1, atR_fun, failR_fun, trivial⟩) (by kernel_rfl) Tryz.func15 rfl (fun a w => Tryz.call15 a w) Tryz.ntmps15 (by kernel_rfl) (by decide) (by decide) ?_
  intro us r hF hdat
  unfold FParseR at hF
  split at hF
  case h_2 => cases hF
  rename_i s sheet
  refine ⟨rfl, ?_⟩
  unfold parseRV at hF
  by_cases hlen : 200 < s.size
  · rw [if_pos hlen] at hF
    cases hF
    have e1 := FSplit_long hlen
    simp (decide := true) (maxDischargeDepth := 200) only [go_sem, e1, nodeV_leaf, Tryz.results15]
  · rw [if_neg hlen] at hF
    cases hsp : splitP s.data.toList with
    | mk toks bad =>
      rw [hsp] at hF
      cases bad with
      | some i =>
        cases hF
        have e1 := FSplit_no hlen hsp
        simp (decide := true) (maxDischargeDepth := 200) only [go_sem, e1, nodeV_leaf, Tryz.results15]
      | none =>
        simp only at hF
        have e1 := FSplit_ok hlen hsp
        cases hn : nameB sheet with
        | false =>
          rw [hn, if_pos rfl] at hF
          cases hF
          simp (decide := true) (maxDischargeDepth := 200) only [go_sem, e1, FName, hn, nodeV_leaf, Tryz.results15]
        | true =>
          rw [hn, if_neg (by decide)] at hF
          by_cases h1000 : 1000 < toks.length
          · rw [if_pos h1000] at hF; cases hF
          rw [if_neg h1000] at hF
          cases hw : rF toks (s.size : Int) sheet m (.pair 0) 0 with
          | none => rw [hw] at hF; cases hF
          | some q =>
            obtain ⟨a, i, y⟩ := q
            rw [hw] at hF
            simp only at hF
            have e2 : FE encPR (GPair m) [.bx [.sl (tks toks).isEmpty 3 (tks toks) none, .x (.int .i64 0), .x (.int .i64 (s.size : Int)), .x (.string sheet), .x (.int .i64 (-1))], .x (.int .i64 0)] = _ := gpr0_eq (nl := (tks toks).isEmpty) (n := 0) (by omega) hw
            obtain ⟨ka, opa, nma, vka, vna, vsa, csa, cca, cra, tsa, tca, tra, nla, sza, esa, ha'⟩ := nd_is a
            by_cases hy : 0 ≤ y
            · rw [if_pos hy] at hF
              cases hF
              have c1 : decide (y < 0) = false := decide_eq_false (by omega)
              have c2 : decide ((0 : Int) ≤ y) = true := decide_eq_true hy
              simp (decide := true) (maxDischargeDepth := 200) only [go_sem, e1, FName, hn, e2, ha', c1, c2, nodeV_leaf, Tryz.results15]
            · rw [if_neg hy] at hF
              by_cases hy1 : y = -1
              · subst hy1
                rw [if_neg (by simp)] at hF
                have c1 : decide ((-1 : Int) < 0) = true := rfl
                have c2 : decide ((0 : Int) ≤ -1) = false := rfl
                by_cases hi : i < toks.length
                · rw [if_pos hi] at hF
                  cases hF
                  have c3 : decide ((i : Int) < (toks.length : Int)) = true := decide_eq_true (by omega)
                  have c4 : decide ((0 : Int) ≤ atR toks (s.size : Int) i) = true := decide_eq_true (atR_nn _ _ _)
                  simp (decide := true) (maxDischargeDepth := 200) only [go_sem, e1, FName, hn, e2, ha', c1, c3, c4, tks_size, atR_eq, failR_eq, nodeV_leaf, Tryz.results15]
                · rw [if_neg hi] at hF
                  have c3 : decide ((i : Int) < (toks.length : Int)) = false := decide_eq_false (by omega)
                  by_cases h400 : 400 < cnt a
                  · rw [if_pos h400] at hF; cases hF
                  · rw [if_neg h400] at hF
                    have e3 : FE encN GDepth [nodeV a] = _ := FDepth_eq (nd := a) (by omega)
                    rw [ha'] at e3
                    by_cases h20 : 20 < dN a
                    · rw [if_pos h20] at hF
                      cases hF
                      have c5 : decide ((20 : Int) < ((dN a : Nat) : Int)) = true := decide_eq_true (by omega)
                      simp (decide := true) (maxDischargeDepth := 200) only [go_sem, e1, FName, hn, e2, ha', e3, c1, c2, c3, c5, tks_size, nodeV_leaf, Tryz.results15]
                    · rw [if_neg h20] at hF
                      cases hF
                      have c5 : decide ((20 : Int) < ((dN a : Nat) : Int)) = false := decide_eq_false (by omega)
                      simp (decide := true) (maxDischargeDepth := 200) only [go_sem, e1, FName, hn, e2, ha', e3, c1, c2, c3, c5, tks_size, Tryz.results15]
              · rw [if_pos hy1] at hF; cases hF

end Go.Proofs.YteibnmlfipkmeaaGreatDoor
