/- Formulas: how deep, and which two are one: package tree and the reference, as functions of plain data. -/
import Derived.Test.YtfmdcgakkijkdaaGreatDoorTrC
namespace Go.Proofs.YtfmdcgakkijkdaaGreatDoor
open Go Go.RowKit
set_option linter.unusedSimpArgs false
def GSame (p : Nd × Nd) : Option V := if cnt p.1 ≤ 400 ∧ cnt p.2 ≤ 400 then some (.x (.bool (sameN p.1 p.2))) else none
theorem GSame_of {a b : Nd} (h : cnt a ≤ 400) (h' : cnt b ≤ 400) : GSame (a, b) = some (.x (.bool (sameN a b))) := if_pos ⟨h, h'⟩
theorem sameL_no {l l' : List Nd} (h : l.length = l'.length) {i : Nat} {a b : Nd} (ha : l[i]? = some a) (hb : l'[i]? = some b) (hs : sameN a b = false) : sameL l l' = false := by
  cases e : sameL l l' with
  | false => rfl
  | true => rw [(sameL_all h).1 e i a b ha hb] at hs; cases hs
set_option maxHeartbeats 8000000 in
set_option maxRecDepth 100000 in
theorem rsame_fun : FunV 9 (FE encNN GSame) := by
  refine fun_rec (fun a => cnt a.1) (fun a w => Tryz.call9 a w) (fun n ih => ?_)
  refine fun_of_run (E := envOf [(9, (FE encNN fun a => if (fun a => cnt a.1) a < n then GSame a else none))]) (k := 2) (envOK_of _ ⟨ih, trivial⟩) (by kernel_rfl) Tryz.func9 rfl (fun a w => Tryz.call9 a w) Tryz.ntmps9 (by kernel_rfl) (by decide) (by decide) ?_
  intro us r hF hdat
  obtain ⟨⟨nd, ne⟩, hus, hG⟩ := FE_out hF
  clear hF
  subst hus
  obtain ⟨hlt, hF⟩ := ite_some hG
  clear hG
  unfold GSame at hF
  obtain ⟨⟨h400, h400'⟩, hF⟩ := ite_some hF
  cases hF
  clear hdat
  simp only [encNN] at hlt h400 h400' ⊢
  obtain ⟨k, op, nm, vk, vn, vs, cs, cc, cr, ts, tc, tr, l, nl, sz, hh, hl, hf, hs⟩ := node_cases nd
  obtain ⟨k2, op2, nm2, vk2, vn2, vs2, cs2, cc2, cr2, ts2, tc2, tr2, l2, nl2, sz2, hh2, hl2, hf2, hs2⟩ := node_cases ne
  have hrec : ∀ (i : Nat) (c d : Nd), l[i]? = some c → l2[i]? = some d → (FE encNN fun a => if cnt a.1 < n then GSame a else none) [nodeV c, nodeV d] = some (.x (.bool (sameN c d))) := fun i c d hc hd => by
    have h1 := cnt_kid (nd := nd) (c := c) (i := i) (by rw [hl]; exact hc)
    have h2 := cnt_kid (nd := ne) (c := d) (i := i) (by rw [hl2]; exact hd)
    exact (FE_at encNN_inj _ (c, d)).trans ((if_pos (by simp only; omega)).trans (GSame_of (by omega) (by omega)))
  have hlen : l.length < 400 := by have := cnt_kids nd; rw [hl] at this; omega
  rw [hf, hf2, sameN_eq, hl, hh, hl2, hh2]
  clear hf hf2 hh hh2 hl hl2
  refine ⟨rfl, ?_⟩
  simp (decide := true) (maxDischargeDepth := 200) only [go_sem, List.length_map, Tryz.results9]
  repeat' first
    | simp (decide := true) (maxDischargeDepth := 200) only [go_sem, List.length_map, Tryz.results9, *]
    | refine guardK_openF (fun _ => ?_) (fun _ => ?_)
    | refine guardK_openN (fun _ => ?_) (fun _ => ?_)
    | refine guardK_openT (fun _ => ?_) (fun _ => ?_)
    | refine guardK_open (fun _ => ?_) (fun _ => ?_)
    | refine condK_openN (fun _ => ?_) (fun _ => ?_)
    | refine condK_open (fun _ => ?_) (fun _ => ?_)
  all_goals first
    | (simp (decide := true) only [alikeB, go_sem, *]; done)
    | skip
  have hal : alikeB (⟨k, op, nm, vk, vn, vs, cs, cc, cr, ts, tc, tr⟩ : Hd) l.length (⟨k2, op2, nm2, vk2, vn2, vs2, cs2, cc2, cr2, ts2, tc2, tr2⟩ : Hd) l2.length = true := by simp (decide := true) only [alikeB, go_sem, *]
  have hll := alike_len hal
  rw [hal, Bool.true_and]
  clear hal
  refine loop_of (X := {i : Nat // i ≤ l.length ∧ ∀ (j : Nat) (a b : Nd), j < i → l[j]? = some a → l2[j]? = some b → sameN a b = true}) (fun i => [(2, .ptr 2 0), (3, .ptr 3 0), (5, .x (.int .i64 ((i.1 : Nat) : Int)))]) (fun _ => [(2, [.x (.int .i64 k), .x (.string op), .x (.string nm), .x (.int .i64 vk), .x (.int .i64 vn), .x (.string vs), .x (.string cs), .x (.int .i64 cc), .x (.int .i64 cr), .x (.string ts), .x (.int .i64 tc), .x (.int .i64 tr), .sl nl sz (l.map nodeV) none]), (3, [.x (.int .i64 k2), .x (.string op2), .x (.string nm2), .x (.int .i64 vk2), .x (.int .i64 vn2), .x (.string vs2), .x (.string cs2), .x (.int .i64 cc2), .x (.int .i64 cr2), .x (.string ts2), .x (.int .i64 tc2), .x (.int .i64 tr2), .sl nl2 sz2 (l2.map nodeV) none])]) (fun i => l.length - i.1) ⟨0, by omega, fun j a b h => by omega⟩ (by simp (decide := true) only [go_sem] <;> (repeat' first | rfl | constructor)) (by simp (decide := true) only [go_sem] <;> (repeat' first | rfl | constructor)) (fun ⟨i, hi0, hok⟩ => ?_)
  by_cases hi : i < l.length
  · obtain ⟨c, hc1, hc2⟩ := kid_at hi
    obtain ⟨d, hd1, hd2⟩ := kid_at (l := l2) (i := i) (by omega)
    obtain rfl := sz_kids hs hi
    obtain rfl := sz_kids (i := i) hs2 (by omega)
    have hcc := hrec i c d hc1 hd1
    obtain ⟨k3, op3, nm3, vk3, vn3, vs3, cs3, cc3, cr3, ts3, tc3, tr3, l3, nl3, sz3, hh3, hl3, hf3, hs3⟩ := node_cases c
    obtain ⟨k4, op4, nm4, vk4, vn4, vs4, cs4, cc4, cr4, ts4, tc4, tr4, l4, nl4, sz4, hh4, hl4, hf4, hs4⟩ := node_cases d
    rw [hf3] at hc2 hcc
    rw [hf4] at hd2 hcc
    have c1 : decide ((i : Int) < (l.length : Int)) = true := decide_eq_true (by omega)
    have c2 : (0 : Int) ≤ (i : Int) := by omega
    have c4 := count_up (i := i) (by omega)
    cases hr : sameN c d
    · have e := sameL_no hll hc1 hd1 hr
      simp (decide := true) (maxDischargeDepth := 200) only [go_sem, List.length_map, c1, c2, c4, hc2, hd2, hcc, hr, e, Tryz.results9]
    · simp (decide := true) (maxDischargeDepth := 200) only [go_sem, List.length_map, c1, c2, c4, hc2, hd2, hcc, hr, Tryz.results9]
      refine ⟨⟨i + 1, by omega, fun j a b hj ha hb => ?_⟩, ?_, ?_, ?_⟩
      rotate_left
      · simp (decide := true) only [go_sem]
      · simp (decide := true) only [go_sem]
      · simp only; omega
      by_cases hj' : j = i
      · subst hj'
        rw [hc1] at ha
        rw [hd1] at hb
        cases ha
        cases hb
        exact hr
      · exact hok j a b (by omega) ha hb
  · have c1 : decide ((i : Int) < (l.length : Int)) = false := decide_eq_false (by omega)
    have e : sameL l l2 = true := (sameL_all hll).2 (fun j a b ha hb => hok j a b (by have := lt_of_some ha; omega) ha hb)
    simp (decide := true) (maxDischargeDepth := 200) only [go_sem, List.length_map, c1, e, Tryz.results9]

/-- A row of nodes: nil or not, the cells of each, the nodes. -/
abbrev KV := Bool × Nat × List Nd
def kvV (e : KV) : V := .sl e.1 e.2.1 (e.2.2.map nodeV) none
def okK (e : KV) : Prop := e.2.2 ≠ [] → e.2.1 = 13
/-- How many nodes are still to be looked at. -/
def nodes : List KV → Nat
  | [] => 0
  | e :: r => cntL e.2.2 + nodes r
/-- How deep it goes from here. -/
def deepR : List KV → Nat
  | [] => 0
  | e :: r => max (match e.2.2 with | [] => 0 | l => r.length + dL l) (deepR r)
theorem deep_pop (a : Bool) (z : Nat) (r : List KV) : deepR ((a, z, []) :: r) = deepR r := by simp [deepR]
theorem deep_push (a a' : Bool) (z z' : Nat) (c : Nd) (l : List Nd) (r : List KV) (dv : Nat) : max (max dv (r.length + 1)) (deepR ((a', z', c.ks) :: (a, z, l) :: r)) = max dv (deepR ((a, z, c :: l) :: r)) := by
  simp only [deepR, dL, dN_eq c, List.length_cons]
  cases hk : c.ks with
  | nil => cases l with
    | nil => simp [dL] <;> omega
    | cons y l => simp [dL] <;> omega
  | cons y k => cases l with
    | nil => simp only [dL]; omega
    | cons z l => simp only [dL]; omega
theorem kv_rev (e : KV) (r : List KV) (G : List V) : ((e :: r).reverse.map kvV ++ G) = (r.reverse.map kvV) ++ kvV e :: G := by simp
theorem kv_len (r : List KV) : (r.reverse.map kvV).length = r.length := by simp
theorem take_all {α : Type} {l : List α} {n : Nat} (h : l.length = n) : l.take n = l := by rw [← h, List.take_length]
structure StD (nd : Nd) (dv : Nat) (r : List KV) : Prop where
  ok : ∀ e ∈ r, okK e
  deep : max dv (deepR r) = dN nd
  small : r.length + nodes r ≤ 401
  dv : dv ≤ 401
theorem deep_first (nd : Nd) (h : cnt nd ≤ 400) : StD nd 0 [(false, 13, [nd])] :=
  ⟨by intro e he; simp at he; subst he; intro _; rfl, by simp [deepR, dL], by simp [nodes, cntL]; omega, by omega⟩
theorem StD.pop {nd : Nd} {dv : Nat} {a : Bool} {z : Nat} {r : List KV} (h : StD nd dv ((a, z, []) :: r)) : StD nd dv r :=
  ⟨fun e he => h.ok e (by simp [he]), by rw [← deep_pop a z r]; exact h.deep, by have := h.small; simp [nodes, cntL] at this; omega, h.dv⟩
theorem StD.push {nd : Nd} {dv : Nat} {a a' : Bool} {z z' : Nat} {c : Nd} {l : List Nd} {r : List KV} (h : StD nd dv ((a, z, c :: l) :: r)) (hc : c.ks ≠ [] → z' = 13) : StD nd (max dv (r.length + 1)) ((a', z', c.ks) :: (a, 13, l) :: r) := by
  refine ⟨fun e he => ?_, by rw [deep_push a a' 13 z' c l r dv]; exact h.deep, ?_, ?_⟩
  · simp only [List.mem_cons] at he
    rcases he with rfl | rfl | he
    · exact hc
    · intro _; rfl
    · exact h.ok e (by simp [he])
  · have := h.small
    simp only [List.length_cons, nodes, cntL, cnt_eq c] at this ⊢
    omega
  · have h1 := h.small
    have h2 := h.dv
    simp only [List.length_cons] at h1
    omega
def sizeD (r : List KV) : Nat := 2 * nodes r + r.length
theorem slot_cases {P : Bool → Prop} (h1 : P true) (h2 : P false) (b : Bool) : P b := by cases b <;> assumption
set_option maxHeartbeats 8000000 in
set_option maxRecDepth 100000 in
theorem depth_fun : FunV 15 (FE encN GDepth) := by
  refine fun_of_run (E := envM [] (fun d => d == 9)) (k := 1) (envOK_M _ _ trivial) (by kernel_rfl) Tryz.func15 rfl (fun a w => Tryz.call15 a w) Tryz.ntmps15 (by kernel_rfl) (by decide) (by decide) ?_
  intro us r hF hdat
  obtain ⟨nd, hus, hG⟩ := FE_out hF
  clear hF
  subst hus
  have hF := hG
  clear hG
  unfold GDepth at hF
  obtain ⟨h400, hF⟩ := ite_some hF
  cases hF
  clear hdat
  simp only [encN]
  obtain ⟨k, op, nm, vk, vn, vs, cs, cc, cr, ts, tc, tr, l, nl, sz, hh, hl, hf, hs⟩ := node_cases nd
  rw [hf]
  refine ⟨rfl, ?_⟩
  simp (decide := true) (maxDischargeDepth := 200) only [go_sem, Nat.reduceBEq, Tryz.results15]
  refine loop_of (X := Bool × {y : Nat × List KV × List V // StD nd y.1 y.2.1}) (fun x => [(3, .x (.int .i64 ((x.2.1.1 : Nat) : Int))), (4, .row (bif x.1 then 47 else 9) 1 x.2.1.2.1.length)]) (fun x => [(bif x.1 then 47 else 9, x.2.1.2.1.reverse.map kvV ++ x.2.1.2.2)]) (fun x => sizeD x.2.1.2.1) (false, ⟨(0, [(false, 13, [nd])], []), deep_first nd h400⟩) ?_ ?_ (fun ⟨b, ⟨(dv, r, G), hst⟩⟩ => ?_)
  · simp (decide := true) only [go_sem] <;> (repeat' first | rfl | constructor)
  · have e : List.map kvV [((false, 13, [nd]) : KV)].reverse ++ [] = [V.sl false 13 [nodeV nd] none] := rfl
    simp (decide := true) only [go_sem, e, hf]
  simp only at hst
  cases b
  · skip
    cases r with
    | nil =>
      have e : dN nd = dv := by have := hst.deep; simp [deepR] at this; omega
      rw [e]
      simp (decide := true) (maxDischargeDepth := 200) only [go_sem, show decide ((0 : Int) < ((0 : Nat) : Int)) = false from rfl, Tryz.results15]
    | cons e r =>
      have hA := kv_len r
      have hsm := hst.small
      simp only [List.length_cons, nodes] at hsm
      obtain ⟨en, ez, el⟩ := e
      have hcells := kv_rev (en, ez, el) r G
      generalize hAe : r.reverse.map kvV = A at hA hcells
      simp only [kvV] at hcells
      obtain ⟨mm, hm⟩ : ∃ mm, mm = r.length := ⟨_, rfl⟩
      rw [← hm] at hA hsm
      have f0 : ((en, ez, el) :: r).length = mm + 1 := by rw [List.length_cons, hm]
      have f1 : decide ((0 : Int) < ((mm + 1 : Nat) : Int)) = true := decide_eq_true (by omega)
      have f2 : bWrap .i64 (((mm + 1 : Nat) : Int) - 1) = ((mm : Nat) : Int) := by rw [bwrap_of (by unfold inR; omega)]; omega
      have f3 : (0 : Int) ≤ ((mm : Nat) : Int) := by omega
      have f4 : ((mm : Nat) : Int) < ((mm + 1 : Nat) : Int) := by omega
      have f4' : ((mm : Nat) : Int) ≤ ((mm + 1 : Nat) : Int) := by omega
      have f5 : Int.toNat ((mm : Nat) : Int) = mm := rfl
      have f6 := mid_get (A := A) (G := G) (x := .sl en ez (el.map nodeV) none) hA
      cases el with
      | nil =>
        simp only [List.map_nil] at hcells f6
        simp (decide := true) (maxDischargeDepth := 200) only [go_sem, List.length_map, hcells, f0, f1, f2, f3, f4, f4', f5, Nat.mul_one, Nat.reduceBEq, f6, show decide (((0 : Nat) : Int) = 0) = true from rfl, Tryz.results15]
        refine ⟨(false, ⟨(dv, r, .sl en ez [] none :: G), hst.pop⟩), ?_, ?_, ?_⟩
        · simp (decide := true) only [go_sem, hm]
        · simp (decide := true) only [go_sem, hAe]
        · simp only [sizeD, nodes, List.length_cons]; omega
      | cons c el =>
        obtain rfl : ez = 13 := hst.ok (en, ez, c :: el) (List.mem_cons_self ..) (by simp)
        obtain ⟨k3, op3, nm3, vk3, vn3, vs3, cs3, cc3, cr3, ts3, tc3, tr3, l3, nl3, sz3, hh3, hl3, hf3, hs3⟩ := node_cases c
        have d1 : decide (((el.length + 1 : Nat) : Int) = 0) = false := decide_eq_false (by omega)
        have d2 : (1 : Int) ≤ ((el.length + 1 : Nat) : Int) := by omega
        have d3 : ((el.map nodeV).take (Int.toNat ((el.length + 1 : Nat) : Int) - 1)) = el.map nodeV := take_all (by rw [List.length_map]; show el.length = (el.length + 1) - 1; omega)
        have d4 : (((mm + 1 : Nat)) ≤ (A ++ V.sl en 13 ((c :: el).map nodeV) none :: G).length) = True := eq_true (by simp [hA])
        have d5 := mid_take (A := A) (G := V.sl en 13 ((c :: el).map nodeV) none :: G) hA
        have d6 : (A ++ V.sl en 13 ((c :: el).map nodeV) none :: G).drop (mm + 1) = G := by
          have := mid_drop (A := A ++ [V.sl en 13 ((c :: el).map nodeV) none]) (G := G) (m := mm + 1) (by simp [hA])
          simpa using this
        have d7 : maxI ((dv : Nat) : Int) ((mm + 1 : Nat) : Int) = ((max dv (mm + 1) : Nat) : Int) := by unfold maxI; split <;> omega
        have d8 : (A ++ [V.sl en 13 (el.map nodeV) none] ++ G).take (mm + 1) = A ++ [V.sl en 13 (el.map nodeV) none] := by
          have := mid_take (A := A ++ [V.sl en 13 (el.map nodeV) none]) (G := G) (m := mm + 1) (by simp [hA])
          simpa using this
        have g1 : ∀ (st : St) (d s : Nat) (nl : Bool) (t' : Option Nat), growV (envM [] fun d => d == 9) st (some d) 27 (.row s 1 (mm + 1)) (.sl nl 1 [.sl nl3 sz3 (l3.map nodeV) none] t') = match st.b s with
            | some cs => some ⟨upd (kill s (kill d st.t)) d (.row d 1 (mm + 1 + 1)), upd (upd st.b s none) d (some (cs.take ((mm + 1) * 1) ++ [.sl nl3 sz3 (l3.map nodeV) none]))⟩
            | none => none := fun st d s nl t' => growR_acc (E := envM [] fun d => d == 9) sz27 by27 ze27 (by decide) rfl rfl (by omega) (by omega) st d s nl t'
        have hst2 := hst.push (a' := nl3) (z' := sz3) (by rw [hl3]; exact hs3)
        rw [hl3, ← hm] at hst2
        rw [List.map_cons, hf3] at hcells f6 d4 d5 d6
        simp only [List.map_cons, hf3] at *
        simp (decide := true) (maxDischargeDepth := 200) only [go_sem, List.length_map, hcells, f0, f1, f2, f3, f4, f4', f5, Nat.mul_one, Nat.reduceBEq, f6, d1, d2, d3, d4, d5, d6, d7, d8, g1, Tryz.results15]
        refine ⟨(true, ⟨(max dv (mm + 1), (nl3, sz3, l3) :: (en, 13, el) :: r, []), hst2⟩), ?_, ?_, ?_⟩
        · simp (decide := true) only [go_sem, hm]
        · simp (decide := true) only [go_sem]
          rw [List.reverse_cons, List.reverse_cons, List.map_append, List.map_append, hAe]
          rfl
        · simp only [sizeD, nodes, List.length_cons, cntL, cnt_eq c, hl3]; omega
  · skip
    cases r with
    | nil =>
      have e : dN nd = dv := by have := hst.deep; simp [deepR] at this; omega
      rw [e]
      simp (decide := true) (maxDischargeDepth := 200) only [go_sem, show decide ((0 : Int) < ((0 : Nat) : Int)) = false from rfl, Tryz.results15]
    | cons e r =>
      have hA := kv_len r
      have hsm := hst.small
      simp only [List.length_cons, nodes] at hsm
      obtain ⟨en, ez, el⟩ := e
      have hcells := kv_rev (en, ez, el) r G
      generalize hAe : r.reverse.map kvV = A at hA hcells
      simp only [kvV] at hcells
      obtain ⟨mm, hm⟩ : ∃ mm, mm = r.length := ⟨_, rfl⟩
      rw [← hm] at hA hsm
      have f0 : ((en, ez, el) :: r).length = mm + 1 := by rw [List.length_cons, hm]
      have f1 : decide ((0 : Int) < ((mm + 1 : Nat) : Int)) = true := decide_eq_true (by omega)
      have f2 : bWrap .i64 (((mm + 1 : Nat) : Int) - 1) = ((mm : Nat) : Int) := by rw [bwrap_of (by unfold inR; omega)]; omega
      have f3 : (0 : Int) ≤ ((mm : Nat) : Int) := by omega
      have f4 : ((mm : Nat) : Int) < ((mm + 1 : Nat) : Int) := by omega
      have f4' : ((mm : Nat) : Int) ≤ ((mm + 1 : Nat) : Int) := by omega
      have f5 : Int.toNat ((mm : Nat) : Int) = mm := rfl
      have f6 := mid_get (A := A) (G := G) (x := .sl en ez (el.map nodeV) none) hA
      cases el with
      | nil =>
        simp only [List.map_nil] at hcells f6
        simp (decide := true) (maxDischargeDepth := 200) only [go_sem, List.length_map, hcells, f0, f1, f2, f3, f4, f4', f5, Nat.mul_one, Nat.reduceBEq, f6, show decide (((0 : Nat) : Int) = 0) = true from rfl, Tryz.results15]
        refine ⟨(true, ⟨(dv, r, .sl en ez [] none :: G), hst.pop⟩), ?_, ?_, ?_⟩
        · simp (decide := true) only [go_sem, hm]
        · simp (decide := true) only [go_sem, hAe]
        · simp only [sizeD, nodes, List.length_cons]; omega
      | cons c el =>
        obtain rfl : ez = 13 := hst.ok (en, ez, c :: el) (List.mem_cons_self ..) (by simp)
        obtain ⟨k3, op3, nm3, vk3, vn3, vs3, cs3, cc3, cr3, ts3, tc3, tr3, l3, nl3, sz3, hh3, hl3, hf3, hs3⟩ := node_cases c
        have d1 : decide (((el.length + 1 : Nat) : Int) = 0) = false := decide_eq_false (by omega)
        have d2 : (1 : Int) ≤ ((el.length + 1 : Nat) : Int) := by omega
        have d3 : ((el.map nodeV).take (Int.toNat ((el.length + 1 : Nat) : Int) - 1)) = el.map nodeV := take_all (by rw [List.length_map]; show el.length = (el.length + 1) - 1; omega)
        have d4 : (((mm + 1 : Nat)) ≤ (A ++ V.sl en 13 ((c :: el).map nodeV) none :: G).length) = True := eq_true (by simp [hA])
        have d5 := mid_take (A := A) (G := V.sl en 13 ((c :: el).map nodeV) none :: G) hA
        have d6 : (A ++ V.sl en 13 ((c :: el).map nodeV) none :: G).drop (mm + 1) = G := by
          have := mid_drop (A := A ++ [V.sl en 13 ((c :: el).map nodeV) none]) (G := G) (m := mm + 1) (by simp [hA])
          simpa using this
        have d7 : maxI ((dv : Nat) : Int) ((mm + 1 : Nat) : Int) = ((max dv (mm + 1) : Nat) : Int) := by unfold maxI; split <;> omega
        have d8 : (A ++ [V.sl en 13 (el.map nodeV) none] ++ G).take (mm + 1) = A ++ [V.sl en 13 (el.map nodeV) none] := by
          have := mid_take (A := A ++ [V.sl en 13 (el.map nodeV) none]) (G := G) (m := mm + 1) (by simp [hA])
          simpa using this
        have g1 : ∀ (st : St) (d s : Nat) (nl : Bool) (t' : Option Nat), growV (envM [] fun d => d == 9) st (some d) 27 (.row s 1 (mm + 1)) (.sl nl 1 [.sl nl3 sz3 (l3.map nodeV) none] t') = match st.b s with
            | some cs => some ⟨upd (kill s (kill d st.t)) d (.row d 1 (mm + 1 + 1)), upd (upd st.b s none) d (some (cs.take ((mm + 1) * 1) ++ [.sl nl3 sz3 (l3.map nodeV) none]))⟩
            | none => none := fun st d s nl t' => growR_acc (E := envM [] fun d => d == 9) sz27 by27 ze27 (by decide) rfl rfl (by omega) (by omega) st d s nl t'
        have hst2 := hst.push (a' := nl3) (z' := sz3) (by rw [hl3]; exact hs3)
        rw [hl3, ← hm] at hst2
        rw [List.map_cons, hf3] at hcells f6 d4 d5 d6
        simp only [List.map_cons, hf3] at *
        simp (decide := true) (maxDischargeDepth := 200) only [go_sem, List.length_map, hcells, f0, f1, f2, f3, f4, f4', f5, Nat.mul_one, Nat.reduceBEq, f6, d1, d2, d3, d4, d5, d6, d7, d8, g1, Tryz.results15]
        refine ⟨(true, ⟨(max dv (mm + 1), (nl3, sz3, l3) :: (en, 13, el) :: r, []), hst2⟩), ?_, ?_, ?_⟩
        · simp (decide := true) only [go_sem, hm]
        · simp (decide := true) only [go_sem]
          rw [List.reverse_cons, List.reverse_cons, List.map_append, List.map_append, hAe]
          rfl
        · simp only [sizeD, nodes, List.length_cons, cntL, cnt_eq c, hl3]; omega

end Go.Proofs.YtfmdcgakkijkdaaGreatDoor
