/- Formulas: which two are one, how large one is: package tree and the law, as functions of plain data. -/
import Derived.Test.YtfmdcgakkijkdaaTrD
namespace Go.Proofs.Ytfmdcgakkijkdaa
open Go Go.RowKit
set_option linter.unusedSimpArgs false
/-- Two rows of nodes. -/
abbrev KW := KV × KV
def kwV (e : KW) : List V := [kvV e.1, kvV e.2]
def nodesW : List KW → Nat
  | [] => 0
  | e :: r => cntL e.1.2.2 + nodesW r
def sameW (r : List KW) : Bool := r.all fun e => sameL e.1.2.2 e.2.2.2
structure StW (a b : Nd) (r : List KW) : Prop where
  ok : ∀ e ∈ r, okK e.1 ∧ okK e.2
  len : ∀ e ∈ r, e.1.2.2.length = e.2.2.2.length
  same : sameW r = sameN a b
  small : r.length + nodesW r ≤ 401
theorem kw_rev (e : KW) (r : List KW) (G : List V) : (e :: r).reverse.flatMap kwV ++ G = (r.reverse.flatMap kwV) ++ kvV e.1 :: kvV e.2 :: G := by simp [kwV]
theorem kw_len (r : List KW) : (r.reverse.flatMap kwV).length = r.length * 2 := by
  induction r with
  | nil => rfl
  | cons e r ih => simp only [List.reverse_cons, List.flatMap_append, List.length_append, ih, List.length_cons, List.flatMap_cons, List.flatMap_nil, List.append_nil, kwV, List.length_nil]; omega
theorem same_first (a b : Nd) (h : cnt a ≤ 400) : StW a b [((false, 13, [a]), (false, 13, [b]))] :=
  ⟨by intro e he; simp at he; subst he; exact ⟨fun _ => rfl, fun _ => rfl⟩, by intro e he; simp at he; subst he; rfl, by simp [sameW, sameL], by simp [nodesW, cntL]; omega⟩
theorem StW.pop {a b : Nd} {e : KW} {r : List KW} (h : StW a b (e :: r)) (he : e.1.2.2 = []) : StW a b r := by
  refine ⟨fun x hx => h.ok x (by simp [hx]), fun x hx => h.len x (by simp [hx]), ?_, by have := h.small; simp only [List.length_cons, nodesW] at this; omega⟩
  rw [← h.same]
  simp only [sameW, List.all_cons, he, sameL, Bool.true_and]
theorem StW.no {a b : Nd} {p q : Bool} {y z : Nat} {c d : Nd} {l l' : List Nd} {r : List KW} (h : StW a b (((p, y, c :: l), (q, z, d :: l')) :: r)) (hn : alikeB c.hd c.ks.length d.hd d.ks.length = false) : sameN a b = false := by
  rw [← h.same]
  simp only [sameW, List.all_cons, sameL, sameN_eq c d, hn, Bool.false_and]
theorem StW.push {a b : Nd} {p q p' q' : Bool} {y z y' z' : Nat} {c d : Nd} {l l' : List Nd} {r : List KW} (h : StW a b (((p, y, c :: l), (q, z, d :: l')) :: r)) (hn : alikeB c.hd c.ks.length d.hd d.ks.length = true) (hc : c.ks ≠ [] → y' = 13) (hd : d.ks ≠ [] → z' = 13) :
    StW a b (((p', y', c.ks), (q', z', d.ks)) :: ((p, 13, l), (q, 13, l')) :: r) := by
  refine ⟨fun e he => ?_, fun e he => ?_, ?_, ?_⟩
  · simp only [List.mem_cons] at he
    rcases he with rfl | rfl | he
    · exact ⟨hc, hd⟩
    · exact ⟨fun _ => rfl, fun _ => rfl⟩
    · exact h.ok e (by simp [he])
  · simp only [List.mem_cons] at he
    rcases he with rfl | rfl | he
    · exact alike_len hn
    · have := h.len _ (List.mem_cons_self ..)
      simpa using this
    · exact h.len e (by simp [he])
  · rw [← h.same]
    simp only [sameW, List.all_cons, sameL, sameN_eq c d, hn, Bool.true_and, Bool.and_assoc]
  · have := h.small
    simp only [List.length_cons, nodesW, cntL, cnt_eq c] at this ⊢
    omega
def sizeW (r : List KW) : Nat := 2 * nodesW r + r.length
theorem mid_take2 {A G : List V} {x y : V} {m : Nat} (h : A.length = m) : (A ++ x :: y :: G).take m = A := by subst h; simp
theorem mid_drop0 {A G : List V} {x y : V} {m : Nat} (h : A.length = m) : (A ++ x :: y :: G).drop m = x :: y :: G := by subst h; simp
theorem mid_drop2 {A G : List V} {x y : V} {m : Nat} (h : A.length = m) : (A ++ x :: y :: G).drop (m + 2) = G := by
  have := mid_drop (A := A ++ [x, y]) (G := G) (m := m + 2) (by simp [h])
  simpa using this
set_option maxHeartbeats 8000000 in
set_option maxRecDepth 100000 in
theorem same_fun : FunV 12 (FE encNN GSame) := by
  refine fun_of_run (E := envM [(17, FAlike)] (fun d => d == 13)) (k := 2) (envOK_M _ _ ⟨alike_fun, trivial⟩) (by kernel_rfl) Try.func12 rfl (fun a w => Try.call12 a w) Try.ntmps12 (by kernel_rfl) (by decide) (by decide) ?_
  intro us r hF hdat
  obtain ⟨⟨nd, ne⟩, hus, hG⟩ := FE_out hF
  clear hF
  subst hus
  have hF := hG
  clear hG
  unfold GSame at hF
  obtain ⟨⟨h400, h400'⟩, hF⟩ := ite_some hF
  cases hF
  clear hdat
  simp only [encNN] at h400 h400' ⊢
  obtain ⟨k, op, nm, vk, vn, vs, cs, cc, cr, ts, tc, tr, l, nl, sz, hh, hl, hf, hs⟩ := node_cases nd
  obtain ⟨k2, op2, nm2, vk2, vn2, vs2, cs2, cc2, cr2, ts2, tc2, tr2, l2, nl2, sz2, hh2, hl2, hf2, hs2⟩ := node_cases ne
  rw [hf, hf2]
  refine ⟨rfl, ?_⟩
  simp (decide := true) (maxDischargeDepth := 200) only [go_sem, Nat.reduceBEq, Try.results12]
  refine loop_of (X := Bool × {y : List KW × List V // StW nd ne y.1}) (fun x => [(5, .row (bif x.1 then 64 else 13) 2 x.2.1.1.length)]) (fun x => [(bif x.1 then 64 else 13, x.2.1.1.reverse.flatMap kwV ++ x.2.1.2)]) (fun x => sizeW x.2.1.1) (false, ⟨([((false, 13, [nd]), (false, 13, [ne]))], []), same_first nd ne h400⟩) ?_ ?_ (fun ⟨b, ⟨(r, G), hst⟩⟩ => ?_)
  · simp (decide := true) only [go_sem] <;> (repeat' first | rfl | constructor)
  · have e : List.flatMap kwV [(((false, 13, [nd]), (false, 13, [ne])) : KW)].reverse ++ [] = [V.sl false 13 [nodeV nd] none, V.sl false 13 [nodeV ne] none] := rfl
    simp (decide := true) only [go_sem, e, hf, hf2]
  simp only at hst
  cases b
  · skip
    cases r with
    | nil =>
      have e : sameN nd ne = true := by rw [← hst.same]; rfl
      rw [e]
      simp (decide := true) (maxDischargeDepth := 200) only [go_sem, show decide ((0 : Int) < ((0 : Nat) : Int)) = false from rfl, Try.results12]
    | cons e r =>
      have hA := kw_len r
      have hsm := hst.small
      have hln := hst.len e (List.mem_cons_self ..)
      have hok := hst.ok e (List.mem_cons_self ..)
      simp only [List.length_cons, nodesW] at hsm
      obtain ⟨⟨en, ez, el⟩, ⟨gn, gz, gl⟩⟩ := e
      have hcells := kw_rev ((en, ez, el), (gn, gz, gl)) r G
      generalize hAe : r.reverse.flatMap kwV = A at hA hcells
      simp only [kvV] at hcells
      simp only at hln
      obtain ⟨mm, hm⟩ : ∃ mm, mm = r.length := ⟨_, rfl⟩
      rw [← hm] at hA hsm
      have f0 : (((en, ez, el), (gn, gz, gl)) :: r).length = mm + 1 := by rw [List.length_cons, hm]
      have f1 : decide ((0 : Int) < ((mm + 1 : Nat) : Int)) = true := decide_eq_true (by omega)
      have f2 : bWrap .i64 (((mm + 1 : Nat) : Int) - 1) = ((mm : Nat) : Int) := by rw [bwrap_of (by unfold inR; omega)]; omega
      have f3 : (0 : Int) ≤ ((mm : Nat) : Int) := by omega
      have f4 : ((mm : Nat) : Int) < ((mm + 1 : Nat) : Int) := by omega
      have f4' : ((mm : Nat) : Int) ≤ ((mm + 1 : Nat) : Int) := by omega
      have f5 : Int.toNat ((mm : Nat) : Int) = mm := rfl
      have f7 : (mm * 2 + 2 ≤ (A ++ V.sl en ez (el.map nodeV) none :: V.sl gn gz (gl.map nodeV) none :: G).length) = True := eq_true (by simp [hA])
      have f8 := mid_drop0 (G := G) (x := V.sl en ez (el.map nodeV) none) (y := V.sl gn gz (gl.map nodeV) none) hA
      cases el with
      | nil =>
        simp only [List.map_nil] at hcells f7 f8
        simp (decide := true) (maxDischargeDepth := 200) only [go_sem, List.length_map, hcells, f0, f1, f2, f3, f4, f4', f5, f7, f8, Nat.reduceBEq, show decide (((0 : Nat) : Int) = 0) = true from rfl, Try.results12]
        refine ⟨(false, ⟨(r, .sl en ez [] none :: .sl gn gz (gl.map nodeV) none :: G), hst.pop rfl⟩), ?_, ?_, ?_⟩
        · simp (decide := true) only [go_sem, hm]
        · simp (decide := true) only [go_sem, hAe]
        · simp only [sizeW, nodesW, List.length_cons]; omega
      | cons c el =>
        cases gl with
        | nil => simp at hln
        | cons d gl =>
          obtain rfl : ez = 13 := hok.1 (by simp)
          obtain rfl : gz = 13 := hok.2 (by simp)
          obtain ⟨k3, op3, nm3, vk3, vn3, vs3, cs3, cc3, cr3, ts3, tc3, tr3, l3, nl3, sz3, hh3, hl3, hf3, hs3⟩ := node_cases c
          obtain ⟨k4, op4, nm4, vk4, vn4, vs4, cs4, cc4, cr4, ts4, tc4, tr4, l4, nl4, sz4, hh4, hl4, hf4, hs4⟩ := node_cases d
          have d1 : decide (((el.length + 1 : Nat) : Int) = 0) = false := decide_eq_false (by omega)
          have d2 : (1 : Int) ≤ ((el.length + 1 : Nat) : Int) := by omega
          have d2' : (1 : Int) ≤ ((gl.length + 1 : Nat) : Int) := by omega
          have d3 : ((el.map nodeV).take (Int.toNat ((el.length + 1 : Nat) : Int) - 1)) = el.map nodeV := take_all (by rw [List.length_map]; show el.length = (el.length + 1) - 1; omega)
          have d3' : ((gl.map nodeV).take (Int.toNat ((gl.length + 1 : Nat) : Int) - 1)) = gl.map nodeV := take_all (by rw [List.length_map]; show gl.length = (gl.length + 1) - 1; omega)
          have d5 := mid_take2 (G := G) (x := V.sl en 13 ((c :: el).map nodeV) none) (y := V.sl gn 13 ((d :: gl).map nodeV) none) hA
          have d6 := mid_drop2 (G := G) (x := V.sl en 13 ((c :: el).map nodeV) none) (y := V.sl gn 13 ((d :: gl).map nodeV) none) hA
          have d8 : (A ++ [V.sl en 13 (el.map nodeV) none, V.sl gn 13 (gl.map nodeV) none] ++ G).take ((mm + 1) * 2) = A ++ [V.sl en 13 (el.map nodeV) none, V.sl gn 13 (gl.map nodeV) none] :=
            mid_take (A := A ++ [V.sl en 13 (el.map nodeV) none, V.sl gn 13 (gl.map nodeV) none]) (G := G) (by simp [hA]; omega)
          have g1 : ∀ (st : St) (d s : Nat) (nl : Bool) (t' : Option Nat), growV (envOf [(17, FAlike)]) st (some d) 40 (.row s 2 (mm + 1)) (.sl nl 2 [.agg [.sl nl3 sz3 (l3.map nodeV) none, .sl nl4 sz4 (l4.map nodeV) none]] t') = match st.b s with
              | some cs => some ⟨upd (kill s (kill d st.t)) d (.row d 2 (mm + 1 + 1)), upd (upd st.b s none) d (some (cs.take ((mm + 1) * 2) ++ [.sl nl3 sz3 (l3.map nodeV) none, .sl nl4 sz4 (l4.map nodeV) none]))⟩
              | none => none := fun st d s nl t' => growR_acc (E := envM [(17, FAlike)] (fun d => d == 13)) sz40 by40 ze40 (by decide) rfl rfl (by omega) (by omega) st d s nl t'
          cases hal : alikeB (⟨k3, op3, nm3, vk3, vn3, vs3, cs3, cc3, cr3, ts3, tc3, tr3⟩ : Hd) l3.length (⟨k4, op4, nm4, vk4, vn4, vs4, cs4, cc4, cr4, ts4, tc4, tr4⟩ : Hd) l4.length
          · have e := hst.no (by rw [hh3, hh4, hl3, hl4]; exact hal)
            rw [List.map_cons, List.map_cons, hf3, hf4] at hcells f7 f8
            simp only [List.map_cons, hf3, hf4] at *
            simp (decide := true) (maxDischargeDepth := 200) only [go_sem, List.length_map, hcells, f0, f1, f2, f3, f4, f4', f5, f7, f8, Nat.reduceBEq, FAlike_eq, hal, e, d1, Try.results12]
          · have hst2 := hst.push (p' := nl3) (y' := sz3) (q' := nl4) (z' := sz4) (by rw [hh3, hh4, hl3, hl4]; exact hal) (by rw [hl3]; exact hs3) (by rw [hl4]; exact hs4)
            rw [hl3, hl4] at hst2
            rw [List.map_cons, List.map_cons, hf3, hf4] at hcells f7 f8 d5 d6
            simp only [List.map_cons, hf3, hf4] at *
            simp (decide := true) (maxDischargeDepth := 200) only [go_sem, List.length_map, hcells, f0, f1, f2, f3, f4, f4', f5, f7, f8, Nat.reduceBEq, FAlike_eq, hal, d1, d2, d2', d3, d3', d5, d6, d8, g1, Try.results12]
            refine ⟨(true, ⟨(((nl3, sz3, l3), (nl4, sz4, l4)) :: ((en, 13, el), (gn, 13, gl)) :: r, []), hst2⟩), ?_, ?_, ?_⟩
            · simp (decide := true) only [go_sem, hm]
            · simp (decide := true) only [go_sem]
              rw [List.reverse_cons, List.reverse_cons, List.flatMap_append, List.flatMap_append, hAe]
              rfl
            · simp only [sizeW, nodesW, List.length_cons, cntL, cnt_eq c, hl3]; omega
  · skip
    cases r with
    | nil =>
      have e : sameN nd ne = true := by rw [← hst.same]; rfl
      rw [e]
      simp (decide := true) (maxDischargeDepth := 200) only [go_sem, show decide ((0 : Int) < ((0 : Nat) : Int)) = false from rfl, Try.results12]
    | cons e r =>
      have hA := kw_len r
      have hsm := hst.small
      have hln := hst.len e (List.mem_cons_self ..)
      have hok := hst.ok e (List.mem_cons_self ..)
      simp only [List.length_cons, nodesW] at hsm
      obtain ⟨⟨en, ez, el⟩, ⟨gn, gz, gl⟩⟩ := e
      have hcells := kw_rev ((en, ez, el), (gn, gz, gl)) r G
      generalize hAe : r.reverse.flatMap kwV = A at hA hcells
      simp only [kvV] at hcells
      simp only at hln
      obtain ⟨mm, hm⟩ : ∃ mm, mm = r.length := ⟨_, rfl⟩
      rw [← hm] at hA hsm
      have f0 : (((en, ez, el), (gn, gz, gl)) :: r).length = mm + 1 := by rw [List.length_cons, hm]
      have f1 : decide ((0 : Int) < ((mm + 1 : Nat) : Int)) = true := decide_eq_true (by omega)
      have f2 : bWrap .i64 (((mm + 1 : Nat) : Int) - 1) = ((mm : Nat) : Int) := by rw [bwrap_of (by unfold inR; omega)]; omega
      have f3 : (0 : Int) ≤ ((mm : Nat) : Int) := by omega
      have f4 : ((mm : Nat) : Int) < ((mm + 1 : Nat) : Int) := by omega
      have f4' : ((mm : Nat) : Int) ≤ ((mm + 1 : Nat) : Int) := by omega
      have f5 : Int.toNat ((mm : Nat) : Int) = mm := rfl
      have f7 : (mm * 2 + 2 ≤ (A ++ V.sl en ez (el.map nodeV) none :: V.sl gn gz (gl.map nodeV) none :: G).length) = True := eq_true (by simp [hA])
      have f8 := mid_drop0 (G := G) (x := V.sl en ez (el.map nodeV) none) (y := V.sl gn gz (gl.map nodeV) none) hA
      cases el with
      | nil =>
        simp only [List.map_nil] at hcells f7 f8
        simp (decide := true) (maxDischargeDepth := 200) only [go_sem, List.length_map, hcells, f0, f1, f2, f3, f4, f4', f5, f7, f8, Nat.reduceBEq, show decide (((0 : Nat) : Int) = 0) = true from rfl, Try.results12]
        refine ⟨(true, ⟨(r, .sl en ez [] none :: .sl gn gz (gl.map nodeV) none :: G), hst.pop rfl⟩), ?_, ?_, ?_⟩
        · simp (decide := true) only [go_sem, hm]
        · simp (decide := true) only [go_sem, hAe]
        · simp only [sizeW, nodesW, List.length_cons]; omega
      | cons c el =>
        cases gl with
        | nil => simp at hln
        | cons d gl =>
          obtain rfl : ez = 13 := hok.1 (by simp)
          obtain rfl : gz = 13 := hok.2 (by simp)
          obtain ⟨k3, op3, nm3, vk3, vn3, vs3, cs3, cc3, cr3, ts3, tc3, tr3, l3, nl3, sz3, hh3, hl3, hf3, hs3⟩ := node_cases c
          obtain ⟨k4, op4, nm4, vk4, vn4, vs4, cs4, cc4, cr4, ts4, tc4, tr4, l4, nl4, sz4, hh4, hl4, hf4, hs4⟩ := node_cases d
          have d1 : decide (((el.length + 1 : Nat) : Int) = 0) = false := decide_eq_false (by omega)
          have d2 : (1 : Int) ≤ ((el.length + 1 : Nat) : Int) := by omega
          have d2' : (1 : Int) ≤ ((gl.length + 1 : Nat) : Int) := by omega
          have d3 : ((el.map nodeV).take (Int.toNat ((el.length + 1 : Nat) : Int) - 1)) = el.map nodeV := take_all (by rw [List.length_map]; show el.length = (el.length + 1) - 1; omega)
          have d3' : ((gl.map nodeV).take (Int.toNat ((gl.length + 1 : Nat) : Int) - 1)) = gl.map nodeV := take_all (by rw [List.length_map]; show gl.length = (gl.length + 1) - 1; omega)
          have d5 := mid_take2 (G := G) (x := V.sl en 13 ((c :: el).map nodeV) none) (y := V.sl gn 13 ((d :: gl).map nodeV) none) hA
          have d6 := mid_drop2 (G := G) (x := V.sl en 13 ((c :: el).map nodeV) none) (y := V.sl gn 13 ((d :: gl).map nodeV) none) hA
          have d8 : (A ++ [V.sl en 13 (el.map nodeV) none, V.sl gn 13 (gl.map nodeV) none] ++ G).take ((mm + 1) * 2) = A ++ [V.sl en 13 (el.map nodeV) none, V.sl gn 13 (gl.map nodeV) none] :=
            mid_take (A := A ++ [V.sl en 13 (el.map nodeV) none, V.sl gn 13 (gl.map nodeV) none]) (G := G) (by simp [hA]; omega)
          have g1 : ∀ (st : St) (d s : Nat) (nl : Bool) (t' : Option Nat), growV (envOf [(17, FAlike)]) st (some d) 40 (.row s 2 (mm + 1)) (.sl nl 2 [.agg [.sl nl3 sz3 (l3.map nodeV) none, .sl nl4 sz4 (l4.map nodeV) none]] t') = match st.b s with
              | some cs => some ⟨upd (kill s (kill d st.t)) d (.row d 2 (mm + 1 + 1)), upd (upd st.b s none) d (some (cs.take ((mm + 1) * 2) ++ [.sl nl3 sz3 (l3.map nodeV) none, .sl nl4 sz4 (l4.map nodeV) none]))⟩
              | none => none := fun st d s nl t' => growR_acc (E := envM [(17, FAlike)] (fun d => d == 13)) sz40 by40 ze40 (by decide) rfl rfl (by omega) (by omega) st d s nl t'
          cases hal : alikeB (⟨k3, op3, nm3, vk3, vn3, vs3, cs3, cc3, cr3, ts3, tc3, tr3⟩ : Hd) l3.length (⟨k4, op4, nm4, vk4, vn4, vs4, cs4, cc4, cr4, ts4, tc4, tr4⟩ : Hd) l4.length
          · have e := hst.no (by rw [hh3, hh4, hl3, hl4]; exact hal)
            rw [List.map_cons, List.map_cons, hf3, hf4] at hcells f7 f8
            simp only [List.map_cons, hf3, hf4] at *
            simp (decide := true) (maxDischargeDepth := 200) only [go_sem, List.length_map, hcells, f0, f1, f2, f3, f4, f4', f5, f7, f8, Nat.reduceBEq, FAlike_eq, hal, e, d1, Try.results12]
          · have hst2 := hst.push (p' := nl3) (y' := sz3) (q' := nl4) (z' := sz4) (by rw [hh3, hh4, hl3, hl4]; exact hal) (by rw [hl3]; exact hs3) (by rw [hl4]; exact hs4)
            rw [hl3, hl4] at hst2
            rw [List.map_cons, List.map_cons, hf3, hf4] at hcells f7 f8 d5 d6
            simp only [List.map_cons, hf3, hf4] at *
            simp (decide := true) (maxDischargeDepth := 200) only [go_sem, List.length_map, hcells, f0, f1, f2, f3, f4, f4', f5, f7, f8, Nat.reduceBEq, FAlike_eq, hal, d1, d2, d2', d3, d3', d5, d6, d8, g1, Try.results12]
            refine ⟨(true, ⟨(((nl3, sz3, l3), (nl4, sz4, l4)) :: ((en, 13, el), (gn, 13, gl)) :: r, []), hst2⟩), ?_, ?_, ?_⟩
            · simp (decide := true) only [go_sem, hm]
            · simp (decide := true) only [go_sem]
              rw [List.reverse_cons, List.reverse_cons, List.flatMap_append, List.flatMap_append, hAe]
              rfl
            · simp only [sizeW, nodesW, List.length_cons, cntL, cnt_eq c, hl3]; omega

/-- Is one of a node's texts too long for the law? -/
def longB (h : Hd) : Bool := ((((decide ((100 : Int) < (h.nm.size : Int)) || decide ((100 : Int) < (h.op.size : Int))) || decide ((400 : Int) < (h.vs.size : Int))) || decide ((100 : Int) < (h.cs.size : Int))) || decide ((100 : Int) < (h.ts.size : Int)))
def szL (g : Nd → Nat) : Nat → List Nd → Nat
  | s, [] => s
  | s, c :: l => if s < 1000 then szL g (s + g c) l else s
/-- How large a formula is, as the law counts. -/
def szN : Nat → Nd → Nat
  | 0, _ => 1000
  | f + 1, nd => bif longB nd.hd then 1000 else szL (szN f) 1 nd.ks
theorem szL_ge (g : Nd → Nat) (s : Nat) (l : List Nd) : s ≤ szL g s l := by
  induction l generalizing s with
  | nil => exact Nat.le_refl _
  | cons c l ih =>
    simp only [szL]
    split
    · have := ih (s + g c); omega
    · exact Nat.le_refl _
theorem szL_le {g : Nd → Nat} {B : Nat} (hg : ∀ c, g c ≤ B) {s : Nat} {l : List Nd} (hs : s ≤ 999 + B) : szL g s l ≤ 999 + B := by
  induction l generalizing s with
  | nil => exact hs
  | cons c l ih =>
    simp only [szL]
    split
    · have := hg c; exact ih (by omega)
    · exact hs
theorem szN_pos (f : Nat) (nd : Nd) : 1 ≤ szN f nd := by
  cases f with
  | zero => simp [szN]
  | succ f =>
    simp only [szN]
    cases longB nd.hd
    · exact szL_ge _ _ _
    · simp
theorem szN_le (f : Nat) (nd : Nd) : szN f nd ≤ 1000 + 1000 * f := by
  induction f generalizing nd with
  | zero => simp [szN]
  | succ f ih =>
    simp only [szN]
    cases longB nd.hd
    · have := szL_le (g := szN f) (B := 1000 + 1000 * f) ih (s := 1) (l := nd.ks) (by omega)
      simp only [cond_false]; omega
    · simp only [cond_true]; omega
theorem szL_cnt {g : Nd → Nat} {l : List Nd} (h1 : ∀ c ∈ l, g c < 1000 → cnt c = g c) {s : Nat} (h : szL g s l < 1000) : szL g s l = s + cntL l := by
  induction l generalizing s with
  | nil => simp [szL, cntL]
  | cons c l ih =>
    simp only [szL] at h ⊢
    split at h
    · rename_i hs
      rw [if_pos hs]
      have hg := szL_ge g (s + g c) l
      have hc := h1 c (by simp) (by omega)
      rw [ih (fun d hd => h1 d (by simp [hd])) h]
      simp only [cntL]
      omega
    · omega
theorem szN_cnt (f : Nat) (nd : Nd) (h : szN f nd < 1000) : cnt nd = szN f nd := by
  induction f generalizing nd with
  | zero => simp [szN] at h
  | succ f ih =>
    simp only [szN] at h ⊢
    cases hl : longB nd.hd
    · rw [hl] at h
      simp only [cond_false] at h ⊢
      rw [szL_cnt (fun c _ hc => ih c hc) h, cnt_eq]
    · rw [hl] at h
      simp at h
theorem few_cnt {nd : Nd} (h : szN 101 nd ≤ 400) : cnt nd ≤ 400 := by rw [szN_cnt 101 nd (by omega)]; exact h
def GSize (p : Nd × Nat) : Option V := if p.2 ≤ 101 then some (.x (.int .i64 ((szN (101 - p.2) p.1 : Nat) : Int))) else none
theorem GSize_of {nd : Nd} {d : Nat} (h : d ≤ 101) : GSize (nd, d) = some (.x (.int .i64 ((szN (101 - d) nd : Nat) : Int))) := if_pos h
set_option maxHeartbeats 8000000 in
set_option maxRecDepth 100000 in
theorem size_fun : FunV 14 (FE encNI GSize) := by
  refine fun_rec (fun a => 102 - a.2) (fun a w => Try.call14 a w) (fun n ih => ?_)
  refine fun_of_run (E := envOf [(14, (FE encNI fun a => if (fun a => 102 - a.2) a < n then GSize a else none))]) (k := 2) (envOK_of _ ⟨ih, trivial⟩) (by kernel_rfl) Try.func14 rfl (fun a w => Try.call14 a w) Try.ntmps14 (by kernel_rfl) (by decide) (by decide) ?_
  intro us r hF hdat
  obtain ⟨⟨nd, d⟩, hus, hG⟩ := FE_out hF
  clear hF
  subst hus
  obtain ⟨hlt, hF⟩ := ite_some hG
  clear hG
  unfold GSize at hF
  obtain ⟨h101, hF⟩ := ite_some hF
  cases hF
  clear hdat
  simp only [encNI] at hlt h101 ⊢
  obtain ⟨k, op, nm, vk, vn, vs, cs, cc, cr, ts, tc, tr, l, nl, sz, hh, hl, hf, hs⟩ := node_cases nd
  rw [hf]
  refine ⟨rfl, ?_⟩
  by_cases hd : d = 101
  · subst hd
    have e : szN (101 - 101) nd = 1000 := rfl
    rw [e]
    simp (decide := true) (maxDischargeDepth := 200) only [go_sem, show decide ((100 : Int) < ((101 : Nat) : Int)) = true from rfl, show ((1000 : Nat) : Int) = 1000 from rfl, Try.results14]
  · obtain ⟨f, hf'⟩ : ∃ f, 101 - d = f + 1 := ⟨100 - d, by omega⟩
    have hrec : ∀ (i : Nat) (c : Nd), l[i]? = some c → (FE encNI fun a => if 102 - a.2 < n then GSize a else none) [nodeV c, .x (.int .i64 ((d + 1 : Nat) : Int))] = some (.x (.int .i64 ((szN f c : Nat) : Int))) := fun i c hc => by
      have := (FE_at encNI_inj (fun a => if 102 - a.2 < n then GSize a else none) (c, d + 1)).trans ((if_pos (by simp only; omega)).trans (GSize_of (by omega)))
      rw [show 101 - (d + 1) = f from by omega] at this
      exact this
    have d0 : decide ((100 : Int) < ((d : Nat) : Int)) = false := decide_eq_false (by omega)
    have w0 : bWrap .i64 (((d : Nat) : Int) + 1) = ((d + 1 : Nat) : Int) := by rw [bwrap_of (by unfold inR; omega)]; omega
    rw [hf']
    simp only [szN, hh, hl]
    cases hlg : longB (⟨k, op, nm, vk, vn, vs, cs, cc, cr, ts, tc, tr⟩ : Hd)
    · simp only [cond_false]
      simp only [longB, Bool.or_eq_false_iff] at hlg
      obtain ⟨⟨⟨⟨q1, q2⟩, q3⟩, q4⟩, q5⟩ := hlg
      simp (decide := true) (maxDischargeDepth := 200) only [go_sem, d0, q1, q2, q3, q4, q5, Try.results14]
      refine loop_of (X := {y : Nat × Nat // y.1 ≤ l.length ∧ szL (szN f) y.2 (l.drop y.1) = szL (szN f) 1 l ∧ y.1 ≤ y.2 ∧ y.2 ≤ 200000}) (fun y => [(1, .x (.int .i64 ((d : Nat) : Int))), (2, .ptr 2 0), (5, .x (.int .i64 ((y.1.2 : Nat) : Int))), (6, .x (.int .i64 ((y.1.1 : Nat) : Int)))]) (fun _ => [(2, [.x (.int .i64 k), .x (.string op), .x (.string nm), .x (.int .i64 vk), .x (.int .i64 vn), .x (.string vs), .x (.string cs), .x (.int .i64 cc), .x (.int .i64 cr), .x (.string ts), .x (.int .i64 tc), .x (.int .i64 tr), .sl nl sz (l.map nodeV) none])]) (fun y => l.length - y.1.1) ⟨(0, 1), by simp, by simp, by simp, by simp⟩ (by simp (decide := true) only [go_sem] <;> (repeat' first | rfl | constructor)) (by simp (decide := true) only [go_sem] <;> (repeat' first | rfl | constructor)) (fun ⟨(i, s), hi0, hs0, his, hs1⟩ => ?_)
      simp only at hi0 hs0 his hs1
      by_cases hi : i < l.length
      · by_cases hk : s < 1000
        · obtain ⟨c, hc1, hc2⟩ := kid_at hi
          obtain rfl := sz_kids hs hi
          have hcc := hrec i c hc1
          obtain ⟨k3, op3, nm3, vk3, vn3, vs3, cs3, cc3, cr3, ts3, tc3, tr3, l3, nl3, sz3, hh3, hl3, hf3, hs3⟩ := node_cases c
          rw [hf3] at hc2 hcc
          have hle := szN_le f c
          have hge := szN_pos f c
          have c1 : decide ((i : Int) < (l.length : Int)) = true := decide_eq_true (by omega)
          have c1' : decide ((s : Int) < 1000) = true := decide_eq_true (by omega)
          have c2 : (0 : Int) ≤ (i : Int) := by omega
          have c4 := count_up (i := i) (by omega)
          have c5 : bWrap .i64 (((s : Nat) : Int) + ((szN f c : Nat) : Int)) = ((s + szN f c : Nat) : Int) := by rw [bwrap_of (by unfold inR; omega)]; omega
          have hdr : l.drop i = c :: l.drop (i + 1) := by
            have h1 : c = l[i] := by rw [List.getElem?_eq_getElem hi] at hc1; exact (Option.some.inj hc1).symm
            rw [h1]
            exact List.drop_eq_getElem_cons hi
          have e : szL (szN f) (s + szN f c) (l.drop (i + 1)) = szL (szN f) 1 l := by rw [← hs0, hdr]; simp only [szL, if_pos hk]
          simp (decide := true) (maxDischargeDepth := 200) only [go_sem, List.length_map, c1, c1', c2, c4, c5, hc2, hcc, w0, Try.results14]
          refine ⟨⟨(i + 1, s + szN f c), by omega, e, by simp only; omega, by simp only; omega⟩, ?_, ?_, ?_⟩
          · simp (decide := true) only [go_sem]
          · simp (decide := true) only [go_sem]
          · simp only; omega
        · have c1 : decide ((i : Int) < (l.length : Int)) = true := decide_eq_true (by omega)
          have c1' : decide ((s : Int) < 1000) = false := decide_eq_false (by omega)
          have e : szL (szN f) 1 l = s := by
            rw [← hs0]
            cases l.drop i with
            | nil => rfl
            | cons c r => simp only [szL, if_neg hk]
          simp (decide := true) (maxDischargeDepth := 200) only [go_sem, List.length_map, c1, c1', e, Try.results14]
      · have c1 : decide ((i : Int) < (l.length : Int)) = false := decide_eq_false (by omega)
        have e : szL (szN f) 1 l = s := by rw [← hs0, List.drop_of_length_le (by omega)]; rfl
        simp (decide := true) (maxDischargeDepth := 200) only [go_sem, List.length_map, c1, e, Try.results14]
    · simp only [cond_true]
      simp only [longB] at hlg
      simp (decide := true) (maxDischargeDepth := 200) only [go_sem, d0, show ((1000 : Nat) : Int) = 1000 from rfl, Try.results14]
      repeat' first
        | simp (decide := true) (maxDischargeDepth := 200) only [go_sem, d0, show ((1000 : Nat) : Int) = 1000 from rfl, Try.results14, *]
        | refine guardK_openF (fun _ => ?_) (fun _ => ?_)
        | refine guardK_openN (fun _ => ?_) (fun _ => ?_)
        | refine guardK_openT (fun _ => ?_) (fun _ => ?_)
        | refine guardK_open (fun _ => ?_) (fun _ => ?_)
        | refine condK_openN (fun _ => ?_) (fun _ => ?_)
        | refine condK_open (fun _ => ?_) (fun _ => ?_)
      all_goals (exfalso; simp only [*, Bool.or_self, Bool.or_false, Bool.false_eq_true] at hlg)

noncomputable def FFew : List V → Option V := FE encN fun nd => some (.x (.bool (decide (((szN 101 nd : Nat) : Int) ≤ 400))))
theorem FFew_eq (nd : Nd) : FFew [nodeV nd] = some (.x (.bool (decide (((szN 101 nd : Nat) : Int) ≤ 400)))) := FE_at encN_inj _ nd
theorem FSize_eq (nd : Nd) : FE encNI GSize [nodeV nd, .x (.int .i64 0)] = some (.x (.int .i64 ((szN 101 nd : Nat) : Int))) := (FE_at encNI_inj _ (nd, 0)).trans (GSize_of (by omega))
set_option maxRecDepth 100000 in
theorem few_fun : FunV 7 FFew := by
  refine fun_of_run (E := envOf [(14, (FE encNI GSize))]) (k := 1) (envOK_of _ ⟨size_fun, trivial⟩) (by kernel_rfl) Try.func7 rfl (fun a w => Try.call7 a w) Try.ntmps7 (by kernel_rfl) (by decide) (by decide) ?_
  intro us r hF hdat
  obtain ⟨nd, hus, hG⟩ := FE_out hF
  clear hF
  subst hus
  have hF := hG
  clear hG
  cases hF
  have e1 := FSize_eq nd
  simp only [encN]
  obtain ⟨k, op, nm, vk, vn, vs, cs, cc, cr, ts, tc, tr, l, nl, sz, hh, hl, hf, hs⟩ := node_cases nd
  generalize szN 101 nd = rn at *
  rw [hf] at e1 ⊢
  refine ⟨rfl, ?_⟩
  simp (decide := true) (maxDischargeDepth := 200) only [go_sem, e1, Try.results7]

end Go.Proofs.Ytfmdcgakkijkdaa
