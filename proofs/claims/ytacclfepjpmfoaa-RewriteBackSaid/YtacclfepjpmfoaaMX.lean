/- The reference's Rename and Remove: they come to the same nodes. -/
import Derived.Test.YtacclfepjpmfoaaMW
import Derived.Test.YtacclfepjpmfoaaMT
namespace Go.Proofs.Ytacclfepjpmfoaa
open Go Go.RowKit
set_option linter.unusedSimpArgs false

def encKi (p : Nd × Bool × ByteArray × ByteArray) : List V := [nodeV p.1, .x (.bool p.2.1), .x (.string p.2.2.1), .x (.string p.2.2.2)]
theorem encKi_inj (p q : Nd × Bool × ByteArray × ByteArray) (e : encKi p = encKi q) : p = q := by
  obtain ⟨a, b, c, d⟩ := p
  obtain ⟨a', b', c', d'⟩ := q
  simp only [encKi, List.cons.injEq, V.x.injEq, Value.string.injEq, Value.bool.injEq, and_true] at e
  obtain ⟨h1, h2, h3, h4⟩ := e
  rw [nodeV_inj _ _ h1, h2, h3, h4]
def turnOf (b : Bool) (f t : ByteArray) : Turn := bif b then remT f else renT f t
def GKi (n : Nat) (p : Nd × Bool × ByteArray × ByteArray) : Option V := if cnt p.1 ≤ 400 ∧ cnt p.1 < n then some (rowN (p.1.ks.map (turnOf p.2.1 p.2.2.1 p.2.2.2).all)) else none
def GRr (n : Nat) (p : Nd × ByteArray × ByteArray) : Option V := if cnt p.1 ≤ 400 ∧ cnt p.1 < n then some (nodeV ((renT p.2.1 p.2.2).all p.1)) else none
def GMm (n : Nat) (p : Nd × ByteArray) : Option V := if cnt p.1 ≤ 400 ∧ cnt p.1 < n then some (nodeV ((remT p.2).all p.1)) else none
theorem rowN_ne {l : List Nd} (h : l ≠ []) : rowN l = .sl false 13 (l.map nodeV) none := by
  cases l with
  | nil => exact absurd rfl h
  | cons _ _ => rfl
theorem turn_row (T : Turn) {l : List Nd} (h : l ≠ []) : rowN (l.map T.all) = .sl false 13 (l.map fun n => nodeV (T.all n)) none := by
  rw [rowN_ne (fun e => h (List.map_eq_nil_iff.1 e)), List.map_map]
  rfl
theorem isE_map {α β : Type} (f : α → β) (l : List α) : (l.map f).isEmpty = l.isEmpty := by cases l <;> rfl
set_option maxHeartbeats 8000000 in
set_option maxRecDepth 100000 in
theorem kids_step (n : Nat) (ihR : FunV 9 (FE encRn (GRr n))) (ihM : FunV 11 (FE encRm (GMm n))) : FunV 19 (FE encKi (GKi (n + 1))) := by
  refine fun_of_run (E := (envOf [(9, FE encRn (GRr n)), (11, FE encRm (GMm n))])) (k := 4) (envOK_of _ ⟨ihR, ihM, trivial⟩) (by kernel_rfl) Try.func19 rfl (fun a w => Try.call19 a w) Try.ntmps19 (by kernel_rfl) (by decide) (by decide) ?_
  intro us r hF hdat
  obtain ⟨⟨nd, b, f, t⟩, hus, hG⟩ := FE_out hF
  clear hF
  subst hus
  unfold GKi at hG
  obtain ⟨⟨h400, hlt⟩, hG⟩ := ite_some hG
  simp only at h400 hlt
  cases hG
  clear hdat
  simp only [encKi]
  obtain ⟨k, op, nm, vk, vn, vs, cs, cc, cr, ts, tc, tr, l, nl, sz, hh, hl, hf, hs⟩ := node_cases nd
  have hrn : ∀ (i : Nat) (c : Nd), l[i]? = some c → (FE encRn (GRr n)) [nodeV c, .x (.string f), .x (.string t)] = some (nodeV ((renT f t).all c)) := fun i c hc => by
    have h1 := cnt_kid (nd := nd) (c := c) (i := i) (by rw [hl]; exact hc)
    exact (FE_at encRn_inj _ (c, f, t)).trans (if_pos ⟨by simp only; omega, by simp only; omega⟩)
  have hrm : ∀ (i : Nat) (c : Nd), l[i]? = some c → (FE encRm (GMm n)) [nodeV c, .x (.string f)] = some (nodeV ((remT f).all c)) := fun i c hc => by
    have h1 := cnt_kid (nd := nd) (c := c) (i := i) (by rw [hl]; exact hc)
    exact (FE_at encRm_inj _ (c, f)).trans (if_pos ⟨by simp only; omega, by simp only; omega⟩)
  have hlen : l.length < 400 := by have := cnt_kids nd; rw [hl] at this; omega
  rw [hf, hl]
  refine ⟨rfl, ?_⟩
  by_cases hne : l = []
  · subst hne
    have hrow : rowN ([].map (turnOf b f t).all) = .sl true 0 [] none := rfl
    rw [hrow]
    simp (decide := true) (maxDischargeDepth := 200) only [go_sem, List.map_nil, Try.results19]
    refine loop_of (X := Unit) (fun _ => [(4, .ptr 4 0), (9, .sl true 0 [] none), (10, .x (.int .i64 0))]) (fun _ => [(4, [.x (.int .i64 k), .x (.string op), .x (.string nm), .x (.int .i64 vk), .x (.int .i64 vn), .x (.string vs), .x (.string cs), .x (.int .i64 cc), .x (.int .i64 cr), .x (.string ts), .x (.int .i64 tc), .x (.int .i64 tr), .sl nl sz [] none])]) (fun _ => 0) () (by simp (decide := true) only [go_sem] <;> (repeat' first | rfl | constructor)) (by simp (decide := true) only [go_sem] <;> (repeat' first | rfl | constructor)) (fun _ => ?_)
    simp (decide := true) (maxDischargeDepth := 200) only [go_sem, List.length_nil, show decide ((0 : Int) < ((0 : Nat) : Int)) = false from rfl, Try.results19]
  cases b with
  | true =>
    have hrow : rowN (l.map (turnOf true f t).all) = .sl false 13 (l.map (fun n => nodeV ((remT f).all n))) none := turn_row (remT f) hne
    rw [hrow]
    simp (decide := true) (maxDischargeDepth := 200) only [go_sem, List.length_map, Try.results19]
    refine loop_nil 9 13 28 (by simp only [go_sem]; rfl) ?_
    refine loop_of (X := {i : Nat // i ≤ l.length}) (fun i => [(1, .x (.bool true)), (2, .x (.string f)), (3, .x (.string t)), (4, .ptr 4 0), (9, .sl ((l.take i.1).map (fun n => nodeV ((remT f).all n))).isEmpty 13 ((l.take i.1).map (fun n => nodeV ((remT f).all n))) (some 28)), (10, .x (.int .i64 ((i.1 : Nat) : Int)))]) (fun _ => [(4, [.x (.int .i64 k), .x (.string op), .x (.string nm), .x (.int .i64 vk), .x (.int .i64 vn), .x (.string vs), .x (.string cs), .x (.int .i64 cc), .x (.int .i64 cr), .x (.string ts), .x (.int .i64 tc), .x (.int .i64 tr), .sl nl sz (l.map nodeV) none])]) (fun i => l.length - i.1) ⟨0, by omega⟩ (by simp (decide := true) only [go_sem, List.take_zero, List.map_nil, List.isEmpty_nil] <;> (repeat' first | rfl | constructor)) (by simp (decide := true) only [go_sem] <;> (repeat' first | rfl | constructor)) (fun ⟨i, hi0⟩ => ?_)
    by_cases hi : i < l.length
    · obtain ⟨c, hc1, hc2⟩ := kid_at hi
      obtain rfl := sz_kids hs hi
      have hcc := hrm i c hc1
      have e : (l.take (i + 1)).map (fun n => nodeV ((remT f).all n)) = (l.take i).map (fun n => nodeV ((remT f).all n)) ++ [nodeV ((remT f).all c)] := by rw [take_snoc' hc1, List.map_append]; rfl
      have e2 : ((l.take (i + 1)).map (fun n => nodeV ((remT f).all n))).isEmpty = false := by rw [e]; simp
      have hal : ((l.take i).map (fun n => nodeV ((remT f).all n))).length ≤ 400 := by rw [List.length_map, List.length_take]; omega
      rw [e] at e2
      obtain ⟨k0, op0, nm0, vk0, vn0, vs0, cs0, cc0, cr0, ts0, tc0, tr0, l0, nl0, sz0, hh0, hl0, hf0, hs0⟩ := node_cases c
      obtain ⟨k', op', nm', vk', vn', vs', cs', cc', cr', ts', tc', tr', l', nl', sz', hh', hl', hf', hs'⟩ := node_cases ((remT f).all c)
      rw [hf0] at hc2
      rw [hf0, hf'] at hcc
      rw [hf'] at e e2
      have c1 : decide ((i : Int) < (l.length : Int)) = true := decide_eq_true (by omega)
      have c2 : (0 : Int) ≤ (i : Int) := by omega
      have c4 := count_up (i := i) (by omega)
      simp only
      generalize (l.take i).map (fun n => nodeV ((remT f).all n)) = al at e e2 hal ⊢
      have g1 := growV_acc (E := (envOf [(9, FE encRn (GRr n)), (11, FE encRm (GMm n))])) (el := 28) (n := 13) sz28 by28 ze28 (by decide) rfl (es := al) (v := .agg [.x (.int .i64 k'), .x (.string op'), .x (.string nm'), .x (.int .i64 vk'), .x (.int .i64 vn'), .x (.string vs'), .x (.string cs'), .x (.int .i64 cc'), .x (.int .i64 cr'), .x (.string ts'), .x (.int .i64 tc'), .x (.int .i64 tr'), .sl nl' sz' (l'.map nodeV) none]) rfl (by omega) (by omega)
      simp (decide := true) (maxDischargeDepth := 200) only [go_sem, List.length_map, c1, c2, c4, hc2, hcc, g1, Try.results19]
      refine ⟨⟨i + 1, by omega⟩, ?_, ?_, by simp only; omega⟩
      · simp (decide := true) (maxDischargeDepth := 200) only [go_sem, e, e2]
      · simp (decide := true) (maxDischargeDepth := 200) only [go_sem]
    · have c1 : decide ((i : Int) < (l.length : Int)) = false := decide_eq_false (by omega)
      have e : l.take i = l := List.take_of_length_le (by omega)
      have e2 : (l.map (fun n => nodeV ((remT f).all n))).isEmpty = false := by rw [isE_map]; cases l with
        | nil => exact absurd rfl hne
        | cons _ _ => rfl
      simp (decide := true) (maxDischargeDepth := 200) only [go_sem, List.length_map, c1, e, e2, Try.results19]
  | false =>
    have hrow : rowN (l.map (turnOf false f t).all) = .sl false 13 (l.map (fun n => nodeV ((renT f t).all n))) none := turn_row (renT f t) hne
    rw [hrow]
    simp (decide := true) (maxDischargeDepth := 200) only [go_sem, List.length_map, Try.results19]
    refine loop_nil 9 13 39 (by simp only [go_sem]; rfl) ?_
    refine loop_of (X := {i : Nat // i ≤ l.length}) (fun i => [(1, .x (.bool false)), (2, .x (.string f)), (3, .x (.string t)), (4, .ptr 4 0), (9, .sl ((l.take i.1).map (fun n => nodeV ((renT f t).all n))).isEmpty 13 ((l.take i.1).map (fun n => nodeV ((renT f t).all n))) (some 39)), (10, .x (.int .i64 ((i.1 : Nat) : Int)))]) (fun _ => [(4, [.x (.int .i64 k), .x (.string op), .x (.string nm), .x (.int .i64 vk), .x (.int .i64 vn), .x (.string vs), .x (.string cs), .x (.int .i64 cc), .x (.int .i64 cr), .x (.string ts), .x (.int .i64 tc), .x (.int .i64 tr), .sl nl sz (l.map nodeV) none])]) (fun i => l.length - i.1) ⟨0, by omega⟩ (by simp (decide := true) only [go_sem, List.take_zero, List.map_nil, List.isEmpty_nil] <;> (repeat' first | rfl | constructor)) (by simp (decide := true) only [go_sem] <;> (repeat' first | rfl | constructor)) (fun ⟨i, hi0⟩ => ?_)
    by_cases hi : i < l.length
    · obtain ⟨c, hc1, hc2⟩ := kid_at hi
      obtain rfl := sz_kids hs hi
      have hcc := hrn i c hc1
      have e : (l.take (i + 1)).map (fun n => nodeV ((renT f t).all n)) = (l.take i).map (fun n => nodeV ((renT f t).all n)) ++ [nodeV ((renT f t).all c)] := by rw [take_snoc' hc1, List.map_append]; rfl
      have e2 : ((l.take (i + 1)).map (fun n => nodeV ((renT f t).all n))).isEmpty = false := by rw [e]; simp
      have hal : ((l.take i).map (fun n => nodeV ((renT f t).all n))).length ≤ 400 := by rw [List.length_map, List.length_take]; omega
      rw [e] at e2
      obtain ⟨k0, op0, nm0, vk0, vn0, vs0, cs0, cc0, cr0, ts0, tc0, tr0, l0, nl0, sz0, hh0, hl0, hf0, hs0⟩ := node_cases c
      obtain ⟨k', op', nm', vk', vn', vs', cs', cc', cr', ts', tc', tr', l', nl', sz', hh', hl', hf', hs'⟩ := node_cases ((renT f t).all c)
      rw [hf0] at hc2
      rw [hf0, hf'] at hcc
      rw [hf'] at e e2
      have c1 : decide ((i : Int) < (l.length : Int)) = true := decide_eq_true (by omega)
      have c2 : (0 : Int) ≤ (i : Int) := by omega
      have c4 := count_up (i := i) (by omega)
      simp only
      generalize (l.take i).map (fun n => nodeV ((renT f t).all n)) = al at e e2 hal ⊢
      have g1 := growV_acc (E := (envOf [(9, FE encRn (GRr n)), (11, FE encRm (GMm n))])) (el := 28) (n := 13) sz28 by28 ze28 (by decide) rfl (es := al) (v := .agg [.x (.int .i64 k'), .x (.string op'), .x (.string nm'), .x (.int .i64 vk'), .x (.int .i64 vn'), .x (.string vs'), .x (.string cs'), .x (.int .i64 cc'), .x (.int .i64 cr'), .x (.string ts'), .x (.int .i64 tc'), .x (.int .i64 tr'), .sl nl' sz' (l'.map nodeV) none]) rfl (by omega) (by omega)
      simp (decide := true) (maxDischargeDepth := 200) only [go_sem, List.length_map, c1, c2, c4, hc2, hcc, g1, Try.results19]
      refine ⟨⟨i + 1, by omega⟩, ?_, ?_, by simp only; omega⟩
      · simp (decide := true) (maxDischargeDepth := 200) only [go_sem, e, e2]
      · simp (decide := true) (maxDischargeDepth := 200) only [go_sem]
    · have c1 : decide ((i : Int) < (l.length : Int)) = false := decide_eq_false (by omega)
      have e : l.take i = l := List.take_of_length_le (by omega)
      have e2 : (l.map (fun n => nodeV ((renT f t).all n))).isEmpty = false := by rw [isE_map]; cases l with
        | nil => exact absurd rfl hne
        | cons _ _ => rfl
      simp (decide := true) (maxDischargeDepth := 200) only [go_sem, List.length_map, c1, e, e2, Try.results19]
end Go.Proofs.Ytacclfepjpmfoaa

/- The reference's Rename and Remove, kid by kid. -/
namespace Go.Proofs.Ytacclfepjpmfoaa
open Go Go.RowKit
set_option linter.unusedSimpArgs false

theorem rowN_form (L : List Nd) : ∃ nl sz, rowN L = .sl nl sz (L.map nodeV) none := by
  cases L with
  | nil => exact ⟨true, 0, rfl⟩
  | cons n l => exact ⟨false, 13, rfl⟩
set_option maxHeartbeats 8000000 in
set_option maxRecDepth 100000 in
theorem rrename_step (n : Nat) (ihK : FunV 19 (FE encKi (GKi (n + 1)))) : FunV 9 (FE encRn (GRr (n + 1))) := by
  refine fun_of_run (E := envOf [(19, FE encKi (GKi (n + 1)))]) (k := 3) (envOK_of _ ⟨ihK, trivial⟩) (by kernel_rfl) Try.func9 rfl (fun a w => Try.call9 a w) Try.ntmps9 (by kernel_rfl) (by decide) (by decide) ?_
  intro us r hF hdat
  obtain ⟨⟨nd, f, t⟩, hus, hG⟩ := FE_out hF
  clear hF
  subst hus
  unfold GRr at hG
  obtain ⟨⟨h400, hlt⟩, hG⟩ := ite_some hG
  simp only at h400 hlt
  cases hG
  clear hdat
  simp only [encRn]
  obtain ⟨k, op, nm, vk, vn, vs, cs, cc, cr, ts, tc, tr, l, nl, sz, hh, hl, hf, hs⟩ := node_cases nd
  have hkk : (FE encKi (GKi (n + 1))) [nodeV nd, .x (.bool false), .x (.string f), .x (.string t)] = some (rowN (nd.ks.map (renT f t).all)) := (FE_at encKi_inj _ (nd, false, f, t)).trans (if_pos ⟨h400, hlt⟩)
  have hres : nodeV ((renT f t).all nd) = .agg (cellsH ((renT f t).th nd.hd) (rowN (nd.ks.map (renT f t).all))) := by
    rw [(renT f t).all_V, (renT f t).one_hd, (renT f t).one_ks]
    rfl
  obtain ⟨nl2, sz2, hrow⟩ := rowN_form (nd.ks.map (renT f t).all)
  rw [hres, hh]
  rw [hrow] at hkk ⊢
  generalize (nd.ks.map (renT f t).all).map nodeV = es2 at hkk ⊢
  rw [hf] at hkk ⊢
  refine ⟨rfl, ?_⟩
  by_cases h2 : k = 2
  · subst h2
    have e : (renT f t).th ⟨2, op, nm, vk, vn, vs, cs, cc, cr, ts, tc, tr⟩ = ⟨2, op, nm, vk, vn, vs, rn f t cs, cc, cr, ts, tc, tr⟩ := rfl
    rw [e]
    by_cases hc : cs = f
    · have dc := decide_eq_true hc
      have er : rn f t cs = t := if_pos hc
      rw [er]
      simp (decide := true) (maxDischargeDepth := 200) only [go_sem, hkk, cellsH, dc, Try.results9]
    · have dc := decide_eq_false hc
      have er : rn f t cs = cs := if_neg hc
      rw [er]
      simp (decide := true) (maxDischargeDepth := 200) only [go_sem, hkk, cellsH, dc, Try.results9]
  · have d2 := decide_eq_false h2
    by_cases h3 : k = 3
    · subst h3
      have e : (renT f t).th ⟨3, op, nm, vk, vn, vs, cs, cc, cr, ts, tc, tr⟩ = ⟨3, op, nm, vk, vn, vs, rn f t cs, cc, cr, rn f t ts, tc, tr⟩ := rfl
      rw [e]
      by_cases hc : cs = f
      · have dc := decide_eq_true hc
        have er : rn f t cs = t := if_pos hc
        rw [er]
        by_cases hd : ts = f
        · have dd := decide_eq_true hd
          have er2 : rn f t ts = t := if_pos hd
          rw [er2]
          simp (decide := true) (maxDischargeDepth := 200) only [go_sem, hkk, cellsH, dc, dd, Try.results9]
        · have dd := decide_eq_false hd
          have er2 : rn f t ts = ts := if_neg hd
          rw [er2]
          simp (decide := true) (maxDischargeDepth := 200) only [go_sem, hkk, cellsH, dc, dd, Try.results9]
      · have dc := decide_eq_false hc
        have er : rn f t cs = cs := if_neg hc
        rw [er]
        by_cases hd : ts = f
        · have dd := decide_eq_true hd
          have er2 : rn f t ts = t := if_pos hd
          rw [er2]
          simp (decide := true) (maxDischargeDepth := 200) only [go_sem, hkk, cellsH, dc, dd, Try.results9]
        · have dd := decide_eq_false hd
          have er2 : rn f t ts = ts := if_neg hd
          rw [er2]
          simp (decide := true) (maxDischargeDepth := 200) only [go_sem, hkk, cellsH, dc, dd, Try.results9]
    · have d3 := decide_eq_false h3
      have e : (renT f t).th ⟨k, op, nm, vk, vn, vs, cs, cc, cr, ts, tc, tr⟩ = ⟨k, op, nm, vk, vn, vs, cs, cc, cr, ts, tc, tr⟩ := by simp only [renT, if_neg h2, if_neg h3]
      rw [e]
      simp (decide := true) (maxDischargeDepth := 200) only [go_sem, hkk, cellsH, d2, d3, Try.results9]
set_option maxHeartbeats 8000000 in
set_option maxRecDepth 100000 in
theorem rremove_step (n : Nat) (ihK : FunV 19 (FE encKi (GKi (n + 1)))) : FunV 11 (FE encRm (GMm (n + 1))) := by
  refine fun_of_run (E := envOf [(19, FE encKi (GKi (n + 1)))]) (k := 2) (envOK_of _ ⟨ihK, trivial⟩) (by kernel_rfl) Try.func11 rfl (fun a w => Try.call11 a w) Try.ntmps11 (by kernel_rfl) (by decide) (by decide) ?_
  intro us r hF hdat
  obtain ⟨⟨nd, f⟩, hus, hG⟩ := FE_out hF
  clear hF
  subst hus
  unfold GMm at hG
  obtain ⟨⟨h400, hlt⟩, hG⟩ := ite_some hG
  simp only at h400 hlt
  cases hG
  clear hdat
  simp only [encRm]
  obtain ⟨k, op, nm, vk, vn, vs, cs, cc, cr, ts, tc, tr, l, nl, sz, hh, hl, hf, hs⟩ := node_cases nd
  have hkk : (FE encKi (GKi (n + 1))) [nodeV nd, .x (.bool true), .x (.string f), .x (.string ⟨#[]⟩)] = some (rowN (nd.ks.map (remT f).all)) := (FE_at encKi_inj _ (nd, true, f, ⟨#[]⟩)).trans (if_pos ⟨h400, hlt⟩)
  have hyes : isRef nd.hd f = true → nodeV ((remT f).all nd) = .agg (cellsH badH (.sl true 0 [] none)) := fun h => by
    rw [(remT f).all_V, (remT f).one_hd, (remT f).one_ks, if_neg (by show ¬ (!isRef nd.hd f) = true; rw [h]; decide)]
    show V.agg (cellsH (if isRef nd.hd f = true then badH else nd.hd) (rowN [])) = _
    rw [if_pos h]
    rfl
  have hno : isRef nd.hd f = false → nodeV ((remT f).all nd) = .agg (cellsH nd.hd (rowN (nd.ks.map (remT f).all))) := fun h => by
    rw [(remT f).all_V, (remT f).one_hd, (remT f).one_ks, if_pos (by show (!isRef nd.hd f) = true; rw [h]; rfl)]
    show V.agg (cellsH (if isRef nd.hd f = true then badH else nd.hd) _) = _
    rw [if_neg (by rw [h]; decide)]
  obtain ⟨nl2, sz2, hrow⟩ := rowN_form (nd.ks.map (remT f).all)
  rw [hrow] at hkk hno
  rw [hh] at hyes hno
  generalize (nd.ks.map (remT f).all).map nodeV = es2 at hkk hno
  rw [hf] at hkk ⊢
  refine ⟨rfl, ?_⟩
  by_cases h2 : k = 2
  · subst h2
    by_cases hc : cs = f
    · have dc := decide_eq_true hc
      rw [hyes (by simp [isRef, hc])]
      simp (decide := true) (maxDischargeDepth := 200) only [go_sem, hkk, cellsH, badH, dc, Try.results11]
    · have dc := decide_eq_false hc
      rw [hno (by simp [isRef, hc])]
      simp (decide := true) (maxDischargeDepth := 200) only [go_sem, hkk, cellsH, dc, Try.results11]
  · have d2 := decide_eq_false h2
    by_cases h3 : k = 3
    · subst h3
      by_cases hc : cs = f
      · have dc := decide_eq_true hc
        rw [hyes (by simp [isRef, hc])]
        simp (decide := true) (maxDischargeDepth := 200) only [go_sem, hkk, cellsH, badH, dc, d2, Try.results11]
      · have dc := decide_eq_false hc
        rw [hno (by simp [isRef, hc])]
        simp (decide := true) (maxDischargeDepth := 200) only [go_sem, hkk, cellsH, dc, d2, Try.results11]
    · have d3 := decide_eq_false h3
      rw [hno (by simp [isRef, h2, h3])]
      simp (decide := true) (maxDischargeDepth := 200) only [go_sem, hkk, cellsH, d2, d3, Try.results11]
theorem rr_all : ∀ n, FunV 9 (FE encRn (GRr n)) ∧ FunV 11 (FE encRm (GMm n))
  | 0 => ⟨⟨fun a w => Try.call9 a w, fun m w vs us r hF => by
      obtain ⟨p, _, h⟩ := FE_out hF
      unfold GRr at h
      obtain ⟨⟨_, h⟩, _⟩ := ite_some h
      omega⟩, ⟨fun a w => Try.call11 a w, fun m w vs us r hF => by
      obtain ⟨p, _, h⟩ := FE_out hF
      unfold GMm at h
      obtain ⟨⟨_, h⟩, _⟩ := ite_some h
      omega⟩⟩
  | n + 1 => by
    obtain ⟨h1, h2⟩ := rr_all n
    have hk := kids_step n h1 h2
    exact ⟨rrename_step n hk, rremove_step n hk⟩
theorem rrename_fun : FunV 9 (FE encRn (GRr 401)) := (rr_all 401).1
theorem rremove_fun : FunV 11 (FE encRm (GMm 401)) := (rr_all 401).2
theorem rren_at {n : Nd} {f t : ByteArray} (h : cnt n ≤ 400) : FE encRn (GRr 401) [nodeV n, .x (.string f), .x (.string t)] = some (nodeV ((renT f t).all n)) := (FE_at encRn_inj _ (n, f, t)).trans (if_pos ⟨h, by simp only; omega⟩)
theorem rrem_at {n : Nd} {f : ByteArray} (h : cnt n ≤ 400) : FE encRm (GMm 401) [nodeV n, .x (.string f)] = some (nodeV ((remT f).all n)) := (FE_at encRm_inj _ (n, f)).trans (if_pos ⟨h, by simp only; omega⟩)
open Classical in
theorem ren_at {n : Nd} {f t : ByteArray} (h : OkRn n f t) : FE encRn GRn [nodeV n, .x (.string f), .x (.string t)] = some (nodeV ((renT f t).all n)) := (FE_at encRn_inj _ (n, f, t)).trans (if_pos h)
open Classical in
theorem rem_at {n : Nd} {f : ByteArray} (h : OkRn n f ⟨#[]⟩) : FE encRm GRm [nodeV n, .x (.string f)] = some (nodeV ((remT f).all n)) := (FE_at encRm_inj _ (n, f)).trans (if_pos h)
end Go.Proofs.Ytacclfepjpmfoaa

/- What becomes of a formula when a sheet is called otherwise, or is gone: plainly. Nothing of the program but nodes. -/
namespace Go.Proofs.Ytacclfepjpmfoaa
open Go Go.RowKit

/-- What the law finds small has short texts throughout. -/
theorem szL_each {g : Nd → Nat} {l : List Nd} {s : Nat} (h : szL g s l < 1000) : ∀ c ∈ l, g c < 1000 := by
  induction l generalizing s with
  | nil => exact fun c hc => by cases hc
  | cons x l ih =>
    intro c hc
    simp only [szL] at h
    split at h
    · have h1 := szL_ge g (s + g x) l
      rcases List.mem_cons.1 hc with rfl | hc
      · omega
      · exact ih h c hc
    · omega
theorem szN_good (f : Nat) (nd : Nd) (h : szN f nd < 1000) : good nd := by
  induction f generalizing nd with
  | zero => simp [szN] at h
  | succ f ih =>
    simp only [szN] at h
    cases hl : longB nd.hd
    · rw [hl] at h
      simp only [cond_false] at h
      refine (good_iff nd).2 ⟨?_, goodL_iff.2 fun c hc => ih c (szL_each h c hc)⟩
      simp only [longB, Bool.or_eq_false_iff, decide_eq_false_iff_not] at hl
      obtain ⟨⟨⟨⟨h1, h2⟩, h3⟩, h4⟩, h5⟩ := hl
      exact ⟨by omega, by omega, by omega, by omega, by omega⟩
    · rw [hl] at h
      simp at h
theorem few_good {nd : Nd} (h : szN 101 nd ≤ 400) : good nd := szN_good 101 nd (by omega)

theorem cnt_nodeOf (h : Hd) (l : List Nd) : cnt (nodeOf h l) = 1 + cntL l := by rw [cnt_eq, nodeOf_ks]
theorem dN_nodeOf (h : Hd) (l : List Nd) : dN (nodeOf h l) = 1 + dL l := by rw [dN_eq, nodeOf_ks]
theorem good_nodeOf {h : Hd} {l : List Nd} (h1 : TextsOK h) (h2 : goodL l) : good (nodeOf h l) := (good_iff _).2 ⟨by rw [nodeOf_hd]; exact h1, by rw [nodeOf_ks]; exact h2⟩
namespace Turn
variable (T : Turn)
mutual
theorem all_cnt : ∀ n : Nd, cnt (T.all n) ≤ cnt n
  | .leaf h => by rw [all]; exact Nat.le_refl _
  | .mk h l => by
    rw [all]
    split
    · rw [cnt_nodeOf, cnt]; have := allL_cnt l; omega
    · rw [cnt, cnt]; omega
theorem allL_cnt : ∀ l : List Nd, cntL (T.allL l) ≤ cntL l
  | [] => by rw [allL]; exact Nat.le_refl _
  | n :: l => by rw [allL, cntL, cntL]; have := all_cnt n; have := allL_cnt l; omega
end
mutual
theorem all_dN : ∀ n : Nd, dN (T.all n) ≤ dN n
  | .leaf h => by rw [all]; exact Nat.le_refl _
  | .mk h l => by
    rw [all]
    split
    · rw [dN_nodeOf, dN]; have := allL_dN l; omega
    · rw [dN, dN]; omega
theorem allL_dN : ∀ l : List Nd, dL (T.allL l) ≤ dL l
  | [] => by rw [allL]; exact Nat.le_refl _
  | n :: l => by rw [allL, dL, dL]; have := all_dN n; have := allL_dN l; omega
end
mutual
theorem all_good (hT : ∀ h, TextsOK h → TextsOK (T.th h)) : ∀ n : Nd, good n → good (T.all n)
  | .leaf h, hg => by rw [all]; rw [good] at hg ⊢; exact hT h hg
  | .mk h l, hg => by
    rw [good] at hg
    rw [all]
    split
    · exact good_nodeOf (hT h hg.1) (allL_good hT l hg.2)
    · rw [good]; exact hT h hg.1
theorem allL_good (hT : ∀ h, TextsOK h → TextsOK (T.th h)) : ∀ l : List Nd, goodL l → goodL (T.allL l)
  | [], _ => by rw [allL]; trivial
  | n :: l, hg => by rw [goodL] at hg; rw [allL, goodL]; exact ⟨all_good hT n hg.1, allL_good hT l hg.2⟩
end
theorem all_hd (n : Nd) : (T.all n).hd = T.th n.hd := by rw [all_eq, nodeOf_hd, one_hd]
theorem all_ks (n : Nd) : (T.all n).ks = if T.keep n.hd = true then n.ks.map T.all else [] := by
  rw [all_eq, nodeOf_ks, one_ks]
  split <;> rfl
end Turn

mutual
/-- Does it name that sheet? -/
def usesN (s : ByteArray) : Nd → Bool
  | .leaf h => isRef h s
  | .mk h l => isRef h s || usesL s l
def usesL (s : ByteArray) : List Nd → Bool
  | [] => false
  | n :: l => usesN s n || usesL s l
end
theorem usesN_eq (s : ByteArray) (n : Nd) : usesN s n = (isRef n.hd s || usesL s n.ks) := by cases n <;> simp [usesN, usesL, Nd.hd, Nd.ks]
theorem usesL_any (s : ByteArray) : ∀ l : List Nd, usesL s l = l.any (usesN s)
  | [] => rfl
  | n :: l => by rw [usesL, usesL_any s l]; rfl
theorem usesL_snoc (s : ByteArray) (l : List Nd) (n : Nd) : usesL s (l ++ [n]) = (usesL s l || usesN s n) := by simp [usesL_any]
theorem usesL_yes {s : ByteArray} {l : List Nd} {n : Nd} (hn : n ∈ l) (h : usesN s n = true) : usesL s l = true := by
  rw [usesL_any, List.any_eq_true]
  exact ⟨n, hn, h⟩
theorem uses_kid {s : ByteArray} {n c : Nd} (h : usesN s n = false) (hc : c ∈ n.ks) : usesN s c = false := by
  rw [usesN_eq, Bool.or_eq_false_iff] at h
  cases e : usesN s c with
  | false => rfl
  | true => rw [usesL_yes hc e] at h; cases h.2
theorem isRef_iff {h : Hd} {s : ByteArray} : isRef h s = true ↔ (h.k = 2 ∨ h.k = 3) ∧ h.cs = s := by simp [isRef]
theorem isRef_no {h : Hd} {s : ByteArray} : isRef h s = false ↔ ¬ ((h.k = 2 ∨ h.k = 3) ∧ h.cs = s) := by
  rw [← isRef_iff]; simp
theorem rn_ne {f t s : ByteArray} (hft : f ≠ t) : rn f t s ≠ f := by
  unfold rn
  split
  · exact fun e => hft e.symm
  · assumption
theorem ren_k (f t : ByteArray) (h : Hd) : ((renT f t).th h).k = h.k := by
  unfold renT
  simp only
  split
  · rfl
  · split <;> rfl
theorem ren_cs (f t : ByteArray) (h : Hd) (hk : h.k = 2 ∨ h.k = 3) : ((renT f t).th h).cs = rn f t h.cs := by
  unfold renT
  simp only
  rcases hk with hk | hk
  · rw [if_pos hk]
  · rw [if_neg (by rw [hk]; decide), if_pos hk]
/-- Induction over nodes: of all kids first. -/
theorem nd_ind {P : Nd → Prop} (h : ∀ n, (∀ c ∈ n.ks, P c) → P n) (n : Nd) : P n := by
  have key : ∀ k n, cnt n ≤ k → P n := by
    intro k
    induction k with
    | zero => intro n hn; have := cnt_pos n; omega
    | succ k ih =>
      intro n hn
      refine h n fun c hc => ih c ?_
      have := cntL_mem hc
      rw [cnt_eq] at hn
      omega
  exact key _ n (Nat.le_refl _)

/-- Nobody names the old name. -/
theorem ren_from {f t : ByteArray} (hft : f ≠ t) (n : Nd) : usesN f ((renT f t).all n) = false := by
  refine nd_ind (P := fun n => usesN f ((renT f t).all n) = false) (fun n ih => ?_) n
  rw [usesN_eq, Turn.all_hd, Turn.all_ks, Bool.or_eq_false_iff]
  refine ⟨isRef_no.2 fun ⟨hk, hc⟩ => ?_, ?_⟩
  · rw [ren_k] at hk
    rw [ren_cs f t n.hd hk] at hc
    exact rn_ne hft hc
  · show usesL f (n.ks.map (renT f t).all) = false
    rw [usesL_any, List.any_eq_false]
    intro x hx
    obtain ⟨c, hc, rfl⟩ := List.mem_map.1 hx
    rw [ih c hc]
    decide
/-- Who names the new name named the old one. -/
theorem ren_to {f t : ByteArray} (n : Nd) (h : usesN t n = false) : usesN t ((renT f t).all n) = usesN f n := by
  revert h
  refine nd_ind (P := fun n => usesN t n = false → usesN t ((renT f t).all n) = usesN f n) (fun n ih h => ?_) n
  have hk := fun c hc => ih c hc (uses_kid h hc)
  rw [usesN_eq, Turn.all_hd, Turn.all_ks, usesN_eq f n]
  have h1 : isRef ((renT f t).th n.hd) t = isRef n.hd f := by
    rw [usesN_eq, Bool.or_eq_false_iff] at h
    have h0 := isRef_no.1 h.1
    rw [Bool.eq_iff_iff, isRef_iff, isRef_iff, ren_k]
    constructor
    · rintro ⟨hk, hc⟩
      rw [ren_cs f t n.hd hk] at hc
      unfold rn at hc
      split at hc
      · rename_i e; exact ⟨hk, e⟩
      · exact absurd ⟨hk, hc⟩ h0
    · rintro ⟨hk, hc⟩
      rw [ren_cs f t n.hd hk]
      exact ⟨hk, if_pos hc⟩
  have h2 : usesL t (n.ks.map (renT f t).all) = usesL f n.ks := by
    rw [usesL_any, usesL_any, List.any_map]
    rw [Bool.eq_iff_iff, List.any_eq_true, List.any_eq_true]
    constructor
    · rintro ⟨c, hc, hu⟩; exact ⟨c, hc, by rw [← hk c hc]; exact hu⟩
    · rintro ⟨c, hc, hu⟩; exact ⟨c, hc, by show usesN t ((renT f t).all c) = true; rw [hk c hc]; exact hu⟩
  show (isRef _ t || usesL t (n.ks.map (renT f t).all)) = _
  rw [h1, h2]
/-- Nobody names what is gone. -/
theorem rem_uses (f : ByteArray) (n : Nd) : usesN f ((remT f).all n) = false := by
  refine nd_ind (P := fun n => usesN f ((remT f).all n) = false) (fun n ih => ?_) n
  rw [usesN_eq, Turn.all_hd, Turn.all_ks, Bool.or_eq_false_iff]
  cases hr : isRef n.hd f with
  | true =>
    have e1 : (remT f).th n.hd = badH := if_pos hr
    have e2 : (remT f).keep n.hd = false := by show (!isRef n.hd f) = false; rw [hr]; rfl
    rw [e1, if_neg (by rw [e2]; decide)]
    exact ⟨rfl, rfl⟩
  | false =>
    have e1 : (remT f).th n.hd = n.hd := if_neg (by rw [hr]; decide)
    have e2 : (remT f).keep n.hd = true := by show (!isRef n.hd f) = true; rw [hr]; rfl
    rw [e1, if_pos e2]
    refine ⟨hr, ?_⟩
    rw [usesL_any, List.any_eq_false]
    intro x hx
    obtain ⟨c, hc, rfl⟩ := List.mem_map.1 hx
    rw [ih c hc]
    decide
theorem sameL_map {g : Nd → Nd} : ∀ {l : List Nd}, (∀ c ∈ l, sameN (g c) c = true) → sameL (l.map g) l = true
  | [], _ => rfl
  | n :: l, h => by
    rw [List.map_cons, sameL, h n (List.mem_cons_self ..), sameL_map fun c hc => h c (List.mem_cons_of_mem _ hc)]
    rfl
/-- What does not name it is as it was. -/
theorem rem_same (f : ByteArray) (n : Nd) (h : usesN f n = false) : sameN ((remT f).all n) n = true := by
  revert h
  refine nd_ind (P := fun n => usesN f n = false → sameN ((remT f).all n) n = true) (fun n ih h => ?_) n
  have hk := fun c hc => ih c hc (uses_kid h hc)
  rw [usesN_eq, Bool.or_eq_false_iff] at h
  have e1 : (remT f).th n.hd = n.hd := if_neg (by rw [h.1]; decide)
  have e2 : (remT f).keep n.hd = true := by show (!isRef n.hd f) = true; rw [h.1]; rfl
  rw [sameN_eq, Turn.all_hd, Turn.all_ks, e1, if_pos e2, List.length_map, alikeB_refl, sameL_map hk]
  rfl
theorem rN_kid {n c : Nd} (h : rN n = true) (hc : c ∈ n.ks) : rN c = true := by
  rw [rN_eq, Bool.and_eq_true, Bool.and_eq_true] at h
  cases e : rN c with
  | true => rfl
  | false =>
    obtain ⟨i, hi⟩ := List.getElem?_of_mem hc
    rw [rL_bad hi e] at h
    cases h.2.1
theorem rL_of {l : List Nd} (h : ∀ c ∈ l, rN c = true) : rL l = true := by
  induction l with
  | nil => rfl
  | cons x l ih => rw [rL, h x (List.mem_cons_self ..), ih fun c hc => h c (List.mem_cons_of_mem _ hc)]; rfl
/-- A range lies on one sheet. -/
theorem range_sheet {s : ByteArray} {c r : Int} {s' : ByteArray} {c' r' : Int} (h : rangeB s c r s' c' r' = true) : s = s' := by
  unfold rangeB at h
  rw [Bool.and_eq_true] at h
  exact (okA_iff.1 h.1).2.2.1
theorem right_range {n : Nd} (h : rN n = true) (hk : n.hd.k = 3) : n.hd.cs = n.hd.ts := by
  rw [rN_eq, Bool.and_eq_true, Bool.and_eq_true] at h
  have h2 := h.2.2
  unfold okR at h2
  rw [hk] at h2
  exact range_sheet h2
/-- There and back. -/
theorem ren_back {f t : ByteArray} (n : Nd) (hr : rN n = true) (h : usesN t n = false) : sameN ((renT t f).all ((renT f t).all n)) n = true := by
  revert hr h
  refine nd_ind (P := fun n => rN n = true → usesN t n = false → sameN ((renT t f).all ((renT f t).all n)) n = true) (fun n ih hr h => ?_) n
  have hk := fun c hc => ih c hc (rN_kid hr hc) (uses_kid h hc)
  rw [usesN_eq, Bool.or_eq_false_iff] at h
  have h0 := isRef_no.1 h.1
  have hrn : ∀ s, s ≠ t → rn t f (rn f t s) = s := fun s hs => by
    unfold rn
    by_cases e : s = f
    · rw [if_pos e, if_pos rfl, e]
    · rw [if_neg e, if_neg hs]
  have e1 : (renT t f).th ((renT f t).th n.hd) = n.hd := by
    have hrange := right_range hr
    generalize n.hd = g at h0 hrange
    obtain ⟨k, op, nm, vk, vn, vs, cs, cc, cr, ts, tc, tr⟩ := g
    simp only at h0 hrange
    by_cases k2 : k = 2
    · subst k2
      have : cs ≠ t := fun e => h0 ⟨.inl rfl, e⟩
      show (⟨2, op, nm, vk, vn, vs, rn t f (rn f t cs), cc, cr, ts, tc, tr⟩ : Hd) = _
      rw [hrn cs this]
    · by_cases k3 : k = 3
      · subst k3
        have hc : cs ≠ t := fun e => h0 ⟨.inr rfl, e⟩
        have ht : ts ≠ t := by rw [← hrange rfl]; exact hc
        show (⟨3, op, nm, vk, vn, vs, rn t f (rn f t cs), cc, cr, rn t f (rn f t ts), tc, tr⟩ : Hd) = _
        rw [hrn cs hc, hrn ts ht]
      · simp only [renT, if_neg k2, if_neg k3]
  have e2 : ((renT t f).all ((renT f t).all n)).ks = n.ks.map fun c => (renT t f).all ((renT f t).all c) := by
    rw [Turn.all_ks, Turn.all_ks]
    show (n.ks.map (renT f t).all).map (renT t f).all = _
    rw [List.map_map]
    rfl
  rw [sameN_eq, e2, Turn.all_hd, Turn.all_hd, e1, List.length_map, alikeB_refl, sameL_map hk]
  rfl
/-- What may be may be then. -/
theorem ren_right {f t : ByteArray} (ht : nameB t = true) (n : Nd) (hr : rN n = true) : rN ((renT f t).all n) = true := by
  revert hr
  refine nd_ind (P := fun n => rN n = true → rN ((renT f t).all n) = true) (fun n ih hr => ?_) n
  have hk := fun c hc => ih c hc (rN_kid hr hc)
  have hrange := right_range hr
  rw [rN_eq, Bool.and_eq_true, Bool.and_eq_true] at hr
  obtain ⟨h1, _, h3⟩ := hr
  rw [rN_eq, Turn.all_hd, Turn.all_ks]
  show (bareB _ (n.ks.map (renT f t).all).length && (rL (n.ks.map (renT f t).all) && okR _ (n.ks.map (renT f t).all).length)) = true
  rw [List.length_map, rL_of (l := n.ks.map (renT f t).all) (fun x hx => by obtain ⟨c, hc, rfl⟩ := List.mem_map.1 hx; exact hk c hc)]
  have hrC : ∀ s c r, rightC s c r = true → rightC (rn f t s) c r = true := fun s c r h => by
    unfold rn
    split
    · unfold rightC at h ⊢
      simp only [Bool.and_eq_true] at h ⊢
      exact ⟨⟨⟨⟨ht, h.1.1.1.2⟩, h.1.1.2⟩, h.1.2⟩, h.2⟩
    · exact h
  generalize n.hd = g at h1 h3 hrange
  generalize n.ks.length = m at h1 h3
  obtain ⟨k, op, nm, vk, vn, vs, cs, cc, cr, ts, tc, tr⟩ := g
  simp only at hrange
  by_cases k2 : k = 2
  · subst k2
    have e : (renT f t).th ⟨2, op, nm, vk, vn, vs, cs, cc, cr, ts, tc, tr⟩ = ⟨2, op, nm, vk, vn, vs, rn f t cs, cc, cr, ts, tc, tr⟩ := rfl
    rw [e]
    have h1' : bareB ⟨2, op, nm, vk, vn, vs, rn f t cs, cc, cr, ts, tc, tr⟩ m = true := h1
    have h3' : rightC cs cc cr = true := h3
    have h3'' : okR ⟨2, op, nm, vk, vn, vs, rn f t cs, cc, cr, ts, tc, tr⟩ m = true := hrC _ _ _ h3'
    rw [h1', h3'']
    rfl
  · by_cases k3 : k = 3
    · subst k3
      obtain rfl := hrange rfl
      have e : (renT f t).th ⟨3, op, nm, vk, vn, vs, cs, cc, cr, cs, tc, tr⟩ = ⟨3, op, nm, vk, vn, vs, rn f t cs, cc, cr, rn f t cs, tc, tr⟩ := rfl
      rw [e]
      have h1' : bareB ⟨3, op, nm, vk, vn, vs, rn f t cs, cc, cr, rn f t cs, tc, tr⟩ m = true := h1
      have h3' : rangeB cs cc cr cs tc tr = true := h3
      have h3'' : okR ⟨3, op, nm, vk, vn, vs, rn f t cs, cc, cr, rn f t cs, tc, tr⟩ m = true := by
        show rangeB (rn f t cs) cc cr (rn f t cs) tc tr = true
        unfold rangeB at h3' ⊢
        rw [Bool.and_eq_true] at h3' ⊢
        obtain ⟨q1, q2, _, q4, q5⟩ := okA_iff.1 h3'.1
        exact ⟨okA_iff.2 ⟨hrC _ _ _ q1, hrC _ _ _ q2, rfl, q4, q5⟩, h3'.2⟩
      rw [h1', h3'']
      rfl
    · have e : (renT f t).th ⟨k, op, nm, vk, vn, vs, cs, cc, cr, ts, tc, tr⟩ = ⟨k, op, nm, vk, vn, vs, cs, cc, cr, ts, tc, tr⟩ := by simp only [renT, if_neg k2, if_neg k3]
      rw [e, h1, h3]
      rfl
theorem rem_right (f : ByteArray) (n : Nd) (hr : rN n = true) : rN ((remT f).all n) = true := by
  revert hr
  refine nd_ind (P := fun n => rN n = true → rN ((remT f).all n) = true) (fun n ih hr => ?_) n
  have hk := fun c hc => ih c hc (rN_kid hr hc)
  rw [rN_eq, Turn.all_hd, Turn.all_ks]
  cases hrf : isRef n.hd f with
  | true =>
    have e1 : (remT f).th n.hd = badH := if_pos hrf
    have e2 : (remT f).keep n.hd = false := by show (!isRef n.hd f) = false; rw [hrf]; rfl
    rw [e1, if_neg (by rw [e2]; decide)]
    rfl
  | false =>
    have e1 : (remT f).th n.hd = n.hd := if_neg (by rw [hrf]; decide)
    have e2 : (remT f).keep n.hd = true := by show (!isRef n.hd f) = true; rw [hrf]; rfl
    rw [e1, if_pos e2, List.length_map, rL_of (l := n.ks.map (remT f).all) (fun x hx => by obtain ⟨c, hc, rfl⟩ := List.mem_map.1 hx; exact hk c hc)]
    rw [rN_eq, Bool.and_eq_true, Bool.and_eq_true] at hr
    rw [hr.1, hr.2.2]
    rfl
end Go.Proofs.Ytacclfepjpmfoaa

/- The laws of chapter 9. -/
namespace Go.Proofs.Ytacclfepjpmfoaa
open Go Go.RowKit
set_option linter.unusedSimpArgs false

def GUses (p : Nd × ByteArray) : Option V := if cnt p.1 ≤ 400 then some (.x (.bool (usesN p.2 p.1))) else none
theorem GUses_of {n : Nd} {s : ByteArray} (h : cnt n ≤ 400) : FE encRm GUses [nodeV n, .x (.string s)] = some (.x (.bool (usesN s n))) := (FE_at encRm_inj _ (n, s)).trans (if_pos h)
set_option maxHeartbeats 8000000 in
set_option maxRecDepth 100000 in
theorem uses_fun : FunV 14 (FE encRm GUses) := by
  refine fun_rec (fun p : Nd × ByteArray => cnt p.1) (fun a w => Try.call14 a w) (fun n ih => ?_)
  refine fun_of_run (E := envOf [(14, (FE encRm fun a => if (fun p : Nd × ByteArray => cnt p.1) a < n then GUses a else none))]) (k := 2) (envOK_of _ ⟨ih, trivial⟩) (by kernel_rfl) Try.func14 rfl (fun a w => Try.call14 a w) Try.ntmps14 (by kernel_rfl) (by decide) (by decide) ?_
  intro us r hF hdat
  obtain ⟨⟨nd, s⟩, hus, hG⟩ := FE_out hF
  clear hF
  subst hus
  obtain ⟨hlt, hF⟩ := ite_some hG
  clear hG
  unfold GUses at hF
  obtain ⟨h400, hF⟩ := ite_some hF
  simp only at h400
  cases hF
  clear hdat
  simp only [encRm]
  obtain ⟨k, op, nm, vk, vn, vs, cs, cc, cr, ts, tc, tr, l, nl, sz, hh, hl, hf, hs⟩ := node_cases nd
  have hrec : ∀ (i : Nat) (c : Nd), l[i]? = some c → (FE encRm fun a => if cnt a.1 < n then GUses a else none) [nodeV c, .x (.string s)] = some (.x (.bool (usesN s c))) := fun i c hc => by
    have h1 := cnt_kid (nd := nd) (c := c) (i := i) (by rw [hl]; exact hc)
    simp only at hlt
    exact (FE_at encRm_inj _ (c, s)).trans ((if_pos (by simp only; omega)).trans (if_pos (by simp only; omega)))
  have hlen : l.length < 400 := by have := cnt_kids nd; rw [hl] at this; omega
  rw [hf, usesN_eq, hl, hh]
  refine ⟨rfl, ?_⟩
  by_cases h2 : k = 2
  · subst h2
    by_cases hc : cs = s
    · have dc := decide_eq_true hc
      have e : isRef ⟨2, op, nm, vk, vn, vs, cs, cc, cr, ts, tc, tr⟩ s = true := isRef_iff.2 ⟨.inl rfl, hc⟩
      rw [e]
      simp (decide := true) (maxDischargeDepth := 200) only [go_sem, dc, Try.results14]
    · have dc := decide_eq_false hc
      have e : isRef ⟨2, op, nm, vk, vn, vs, cs, cc, cr, ts, tc, tr⟩ s = false := isRef_no.2 fun h => hc h.2
      rw [e]
      clear e
      simp (decide := true) (maxDischargeDepth := 200) only [go_sem, List.length_map, dc, Try.results14]
      refine loop_of (X := {i : Nat // i ≤ l.length ∧ usesL s (l.take i) = false}) (fun i => [(1, .x (.string s)), (2, .ptr 2 0), (5, .x (.int .i64 ((i.1 : Nat) : Int)))]) (fun _ => [(2, [.x (.int .i64 2), .x (.string op), .x (.string nm), .x (.int .i64 vk), .x (.int .i64 vn), .x (.string vs), .x (.string cs), .x (.int .i64 cc), .x (.int .i64 cr), .x (.string ts), .x (.int .i64 tc), .x (.int .i64 tr), .sl nl sz (l.map nodeV) none])]) (fun i => l.length - i.1) ⟨0, by omega, by rw [List.take_zero]; rfl⟩ (by simp (decide := true) only [go_sem] <;> (repeat' first | rfl | constructor)) (by simp (decide := true) only [go_sem] <;> (repeat' first | rfl | constructor)) (fun ⟨i, hi0, hok⟩ => ?_)
      by_cases hi : i < l.length
      · obtain ⟨c, hc1, hc2⟩ := kid_at hi
        obtain rfl := sz_kids hs hi
        have hcc := hrec i c hc1
        have hin : c ∈ l := List.mem_of_getElem? hc1
        obtain ⟨k', op', nm', vk', vn', vs', cs', cc', cr', ts', tc', tr', l', nl', sz', hh', hl', hf', hs'⟩ := node_cases c
        rw [hf'] at hc2 hcc
        have c1 : decide ((i : Int) < (l.length : Int)) = true := decide_eq_true (by omega)
        have c2 : (0 : Int) ≤ (i : Int) := by omega
        have c4 := count_up (i := i) (by omega)
        cases hr : usesN s c
        · rw [hr] at hcc
          simp (decide := true) (maxDischargeDepth := 200) only [go_sem, List.length_map, c1, c2, c4, hc2, hcc, Try.results14]
          refine ⟨⟨i + 1, by omega, by rw [take_snoc' hc1, usesL_snoc, hok, hr]; rfl⟩, ?_, ?_, ?_⟩
          · simp (decide := true) (maxDischargeDepth := 200) only [go_sem]
          · simp (decide := true) (maxDischargeDepth := 200) only [go_sem]
          · simp only; omega
        · rw [hr] at hcc
          have e : usesL s l = true := usesL_yes hin hr
          simp (decide := true) (maxDischargeDepth := 200) only [go_sem, List.length_map, c1, c2, c4, hc2, hcc, e, Try.results14]
      · have c1 : decide ((i : Int) < (l.length : Int)) = false := decide_eq_false (by omega)
        have e : usesL s l = false := by rw [List.take_of_length_le (by omega)] at hok; exact hok
        simp (decide := true) (maxDischargeDepth := 200) only [go_sem, List.length_map, c1, e, Try.results14]
  · have d2 := decide_eq_false h2
    by_cases h3 : k = 3
    · subst h3
      by_cases hc : cs = s
      · have dc := decide_eq_true hc
        have e : isRef ⟨3, op, nm, vk, vn, vs, cs, cc, cr, ts, tc, tr⟩ s = true := isRef_iff.2 ⟨.inr rfl, hc⟩
        rw [e]
        simp (decide := true) (maxDischargeDepth := 200) only [go_sem, dc, d2, Try.results14]
      · have dc := decide_eq_false hc
        have e : isRef ⟨3, op, nm, vk, vn, vs, cs, cc, cr, ts, tc, tr⟩ s = false := isRef_no.2 fun h => hc h.2
        rw [e]
        clear e
        simp (decide := true) (maxDischargeDepth := 200) only [go_sem, List.length_map, dc, d2, Try.results14]
        refine loop_of (X := {i : Nat // i ≤ l.length ∧ usesL s (l.take i) = false}) (fun i => [(1, .x (.string s)), (2, .ptr 2 0), (5, .x (.int .i64 ((i.1 : Nat) : Int)))]) (fun _ => [(2, [.x (.int .i64 3), .x (.string op), .x (.string nm), .x (.int .i64 vk), .x (.int .i64 vn), .x (.string vs), .x (.string cs), .x (.int .i64 cc), .x (.int .i64 cr), .x (.string ts), .x (.int .i64 tc), .x (.int .i64 tr), .sl nl sz (l.map nodeV) none])]) (fun i => l.length - i.1) ⟨0, by omega, by rw [List.take_zero]; rfl⟩ (by simp (decide := true) only [go_sem] <;> (repeat' first | rfl | constructor)) (by simp (decide := true) only [go_sem] <;> (repeat' first | rfl | constructor)) (fun ⟨i, hi0, hok⟩ => ?_)
        by_cases hi : i < l.length
        · obtain ⟨c, hc1, hc2⟩ := kid_at hi
          obtain rfl := sz_kids hs hi
          have hcc := hrec i c hc1
          have hin : c ∈ l := List.mem_of_getElem? hc1
          obtain ⟨k', op', nm', vk', vn', vs', cs', cc', cr', ts', tc', tr', l', nl', sz', hh', hl', hf', hs'⟩ := node_cases c
          rw [hf'] at hc2 hcc
          have c1 : decide ((i : Int) < (l.length : Int)) = true := decide_eq_true (by omega)
          have c2 : (0 : Int) ≤ (i : Int) := by omega
          have c4 := count_up (i := i) (by omega)
          cases hr : usesN s c
          · rw [hr] at hcc
            simp (decide := true) (maxDischargeDepth := 200) only [go_sem, List.length_map, c1, c2, c4, hc2, hcc, Try.results14]
            refine ⟨⟨i + 1, by omega, by rw [take_snoc' hc1, usesL_snoc, hok, hr]; rfl⟩, ?_, ?_, ?_⟩
            · simp (decide := true) (maxDischargeDepth := 200) only [go_sem]
            · simp (decide := true) (maxDischargeDepth := 200) only [go_sem]
            · simp only; omega
          · rw [hr] at hcc
            have e : usesL s l = true := usesL_yes hin hr
            simp (decide := true) (maxDischargeDepth := 200) only [go_sem, List.length_map, c1, c2, c4, hc2, hcc, e, Try.results14]
        · have c1 : decide ((i : Int) < (l.length : Int)) = false := decide_eq_false (by omega)
          have e : usesL s l = false := by rw [List.take_of_length_le (by omega)] at hok; exact hok
          simp (decide := true) (maxDischargeDepth := 200) only [go_sem, List.length_map, c1, e, Try.results14]
    · have d3 := decide_eq_false h3
      have e : isRef ⟨k, op, nm, vk, vn, vs, cs, cc, cr, ts, tc, tr⟩ s = false := isRef_no.2 fun h => h.1.elim h2 h3
      rw [e]
      clear e
      simp (decide := true) (maxDischargeDepth := 200) only [go_sem, List.length_map, d2, d3, Try.results14]
      refine loop_of (X := {i : Nat // i ≤ l.length ∧ usesL s (l.take i) = false}) (fun i => [(1, .x (.string s)), (2, .ptr 2 0), (5, .x (.int .i64 ((i.1 : Nat) : Int)))]) (fun _ => [(2, [.x (.int .i64 k), .x (.string op), .x (.string nm), .x (.int .i64 vk), .x (.int .i64 vn), .x (.string vs), .x (.string cs), .x (.int .i64 cc), .x (.int .i64 cr), .x (.string ts), .x (.int .i64 tc), .x (.int .i64 tr), .sl nl sz (l.map nodeV) none])]) (fun i => l.length - i.1) ⟨0, by omega, by rw [List.take_zero]; rfl⟩ (by simp (decide := true) only [go_sem] <;> (repeat' first | rfl | constructor)) (by simp (decide := true) only [go_sem] <;> (repeat' first | rfl | constructor)) (fun ⟨i, hi0, hok⟩ => ?_)
      by_cases hi : i < l.length
      · obtain ⟨c, hc1, hc2⟩ := kid_at hi
        obtain rfl := sz_kids hs hi
        have hcc := hrec i c hc1
        have hin : c ∈ l := List.mem_of_getElem? hc1
        obtain ⟨k', op', nm', vk', vn', vs', cs', cc', cr', ts', tc', tr', l', nl', sz', hh', hl', hf', hs'⟩ := node_cases c
        rw [hf'] at hc2 hcc
        have c1 : decide ((i : Int) < (l.length : Int)) = true := decide_eq_true (by omega)
        have c2 : (0 : Int) ≤ (i : Int) := by omega
        have c4 := count_up (i := i) (by omega)
        cases hr : usesN s c
        · rw [hr] at hcc
          simp (decide := true) (maxDischargeDepth := 200) only [go_sem, List.length_map, c1, c2, c4, hc2, hcc, Try.results14]
          refine ⟨⟨i + 1, by omega, by rw [take_snoc' hc1, usesL_snoc, hok, hr]; rfl⟩, ?_, ?_, ?_⟩
          · simp (decide := true) (maxDischargeDepth := 200) only [go_sem]
          · simp (decide := true) (maxDischargeDepth := 200) only [go_sem]
          · simp only; omega
        · rw [hr] at hcc
          have e : usesL s l = true := usesL_yes hin hr
          simp (decide := true) (maxDischargeDepth := 200) only [go_sem, List.length_map, c1, c2, c4, hc2, hcc, e, Try.results14]
      · have c1 : decide ((i : Int) < (l.length : Int)) = false := decide_eq_false (by omega)
        have e : usesL s l = false := by rw [List.take_of_length_le (by omega)] at hok; exact hok
        simp (decide := true) (maxDischargeDepth := 200) only [go_sem, List.length_map, c1, e, Try.results14]


def FAlive9 : List V → Option V
  | [] => some (.x (.bool true))
  | _ => none
theorem leaf_ok {h : Hd} {f : ByteArray} (hT : TextsOK h) (hf : f.size ≤ 281474976710656) : OkRn (.leaf h) f ⟨#[]⟩ := ⟨by rw [cnt]; decide, by rw [good]; exact hT, hf, Nat.zero_le _⟩
theorem live_a : FE encRm GRm [.agg [.x (.int .i64 2), .x (.string ⟨#[]⟩), .x (.string ⟨#[]⟩), .x (.int .i64 0), .x (.int .i64 0), .x (.string ⟨#[]⟩), .x (.string ⟨#[115]⟩), .x (.int .i64 1), .x (.int .i64 1), .x (.string ⟨#[]⟩), .x (.int .i64 0), .x (.int .i64 0), .sl true 0 [] none], .x (.string ⟨#[115]⟩)] = some (.agg [.x (.int .i64 7), .x (.string ⟨#[]⟩), .x (.string ⟨#[]⟩), .x (.int .i64 0), .x (.int .i64 0), .x (.string ⟨#[]⟩), .x (.string ⟨#[]⟩), .x (.int .i64 0), .x (.int .i64 0), .x (.string ⟨#[]⟩), .x (.int .i64 0), .x (.int .i64 0), .sl true 0 [] none]) := by
  have h := rem_at (n := (.leaf ⟨2, ⟨#[]⟩, ⟨#[]⟩, 0, 0, ⟨#[]⟩, ⟨#[115]⟩, 1, 1, ⟨#[]⟩, 0, 0⟩)) (f := ⟨#[115]⟩) (leaf_ok ⟨by decide, by decide, by decide, by decide, by decide⟩ (by decide))
  have e : (remT ⟨#[115]⟩).all (.leaf ⟨2, ⟨#[]⟩, ⟨#[]⟩, 0, 0, ⟨#[]⟩, ⟨#[115]⟩, 1, 1, ⟨#[]⟩, 0, 0⟩) = .leaf badH := by rfl
  rw [e, nodeV, nodeV] at h
  exact h
theorem live_b : FE encRm GRm [.agg [.x (.int .i64 1), .x (.string ⟨#[]⟩), .x (.string ⟨#[]⟩), .x (.int .i64 1), .x (.int .i64 3), .x (.string ⟨#[]⟩), .x (.string ⟨#[]⟩), .x (.int .i64 0), .x (.int .i64 0), .x (.string ⟨#[]⟩), .x (.int .i64 0), .x (.int .i64 0), .sl true 0 [] none], .x (.string ⟨#[115]⟩)] = some (.agg [.x (.int .i64 1), .x (.string ⟨#[]⟩), .x (.string ⟨#[]⟩), .x (.int .i64 1), .x (.int .i64 3), .x (.string ⟨#[]⟩), .x (.string ⟨#[]⟩), .x (.int .i64 0), .x (.int .i64 0), .x (.string ⟨#[]⟩), .x (.int .i64 0), .x (.int .i64 0), .sl true 0 [] none]) := by
  have h := rem_at (n := (.leaf ⟨1, ⟨#[]⟩, ⟨#[]⟩, 1, 3, ⟨#[]⟩, ⟨#[]⟩, 0, 0, ⟨#[]⟩, 0, 0⟩)) (f := ⟨#[115]⟩) (leaf_ok ⟨by decide, by decide, by decide, by decide, by decide⟩ (by decide))
  have e : (remT ⟨#[115]⟩).all (.leaf ⟨1, ⟨#[]⟩, ⟨#[]⟩, 1, 3, ⟨#[]⟩, ⟨#[]⟩, 0, 0, ⟨#[]⟩, 0, 0⟩) = (.leaf ⟨1, ⟨#[]⟩, ⟨#[]⟩, 1, 3, ⟨#[]⟩, ⟨#[]⟩, 0, 0, ⟨#[]⟩, 0, 0⟩) := by rfl
  rw [e, nodeV] at h
  exact h
theorem live_c : FE encNN GSame [.agg [.x (.int .i64 1), .x (.string ⟨#[]⟩), .x (.string ⟨#[]⟩), .x (.int .i64 1), .x (.int .i64 3), .x (.string ⟨#[]⟩), .x (.string ⟨#[]⟩), .x (.int .i64 0), .x (.int .i64 0), .x (.string ⟨#[]⟩), .x (.int .i64 0), .x (.int .i64 0), .sl true 0 [] none], .agg [.x (.int .i64 1), .x (.string ⟨#[]⟩), .x (.string ⟨#[]⟩), .x (.int .i64 1), .x (.int .i64 3), .x (.string ⟨#[]⟩), .x (.string ⟨#[]⟩), .x (.int .i64 0), .x (.int .i64 0), .x (.string ⟨#[]⟩), .x (.int .i64 0), .x (.int .i64 0), .sl true 0 [] none]] = some (.x (.bool true)) := by
  have h := (FE_at encNN_inj GSame ((.leaf ⟨1, ⟨#[]⟩, ⟨#[]⟩, 1, 3, ⟨#[]⟩, ⟨#[]⟩, 0, 0, ⟨#[]⟩, 0, 0⟩), (.leaf ⟨1, ⟨#[]⟩, ⟨#[]⟩, 1, 3, ⟨#[]⟩, ⟨#[]⟩, 0, 0, ⟨#[]⟩, 0, 0⟩))).trans (GSame_of (by rw [cnt]; decide) (by rw [cnt]; decide))
  rw [sameN_refl] at h
  simp only [encNN] at h
  rw [nodeV] at h
  exact h
set_option maxHeartbeats 4000000 in
set_option maxRecDepth 100000 in
theorem alive9_fun : FunV 5 FAlive9 := by
  refine fun_of_run (E := envOf [(10, (FE encRm GRm)), (7, (FE encNN GSame))]) (k := 0) (envOK_of _ ⟨remove_fun, rsame_fun, trivial⟩) (by kernel_rfl) Try.func5 rfl (fun a w => Try.call5 a w) Try.ntmps5 (by kernel_rfl) (by decide) (by decide) ?_
  intro us r hF hdat
  unfold FAlive9 at hF
  split at hF
  case h_2 => cases hF
  cases hF
  refine ⟨rfl, ?_⟩
  simp (decide := true) (maxDischargeDepth := 200) only [go_sem, live_a, live_b, live_c, Try.results5]


def GLaw9 (_ : Nd × ByteArray × ByteArray) : Option V := some (.x (.bool true))
theorem name_8 {s : ByteArray} (h : nameB s = true) : s.size ≤ 8 := by
  rcases Nat.lt_or_ge 8 s.size with h1 | h1
  · rw [nameB_long h1] at h; cases h
  · exact h1
theorem same_at {a b : Nd} (h : cnt a ≤ 400) (h' : cnt b ≤ 400) : FE encNN GSame [nodeV a, nodeV b] = some (.x (.bool (sameN a b))) := (FE_at encNN_inj _ (a, b)).trans (GSame_of h h')
theorem right_at {n : Nd} (h : cnt n ≤ 400) : FE encN GRightN [nodeV n] = some (.x (.bool (decide ((dN n : Int) ≤ 20) && rN n))) := (FE_at encN_inj _ n).trans (if_pos h)
set_option maxHeartbeats 8000000 in
set_option maxRecDepth 100000 in
theorem tells9_fun : FunV 3 (FE encRn GLaw9) := by
  refine fun_of_run (E := envOf [(5, FAlive9), (6, FFew), (8, (FE encRn GRn)), (9, (FE encRn (GRr 401))), (10, (FE encRm GRm)), (11, (FE encRm (GMm 401))), (7, (FE encNN GSame))]) (k := 3) (envOK_of _ ⟨alive9_fun, few_fun, rename_fun, rrename_fun, remove_fun, rremove_fun, rsame_fun, trivial⟩) (by kernel_rfl) Try.func3 rfl (fun a w => Try.call3 a w) Try.ntmps3 (by kernel_rfl) (by decide) (by decide) ?_
  intro us r hF hdat
  obtain ⟨⟨nd, f, t⟩, hus, hG⟩ := FE_out hF
  clear hF
  subst hus
  have hF := hG
  clear hG
  cases hF
  clear hdat
  simp only [encRn]
  have eA : FAlive9 [] = some (.x (.bool true)) := rfl
  have e1 := FFew_eq nd
  refine ⟨rfl, ?_⟩
  by_cases h4 : szN 101 nd ≤ 400
  · have h400 := few_cnt h4
    have hgood := few_good h4
    have d1 : decide (((szN 101 nd : Nat) : Int) ≤ 400) = true := decide_eq_true (by omega)
    rw [d1] at e1
    by_cases hf5 : f.size ≤ 50
    · have d2 : decide ((50 : Int) < (f.size : Int)) = false := decide_eq_false (by omega)
      by_cases ht5 : t.size ≤ 50
      · have d3 : decide ((50 : Int) < (t.size : Int)) = false := decide_eq_false (by omega)
        have a1 := ren_at (n := nd) (f := f) (t := t) ⟨h400, hgood, by omega, by omega⟩
        have a2 := rren_at (n := nd) (f := f) (t := t) h400
        have a3 := rem_at (n := nd) (f := f) ⟨h400, hgood, by omega, Nat.zero_le _⟩
        have a4 := rrem_at (n := nd) (f := f) h400
        have b1 := same_at (a := (renT f t).all nd) (b := (renT f t).all nd) (by have := (renT f t).all_cnt nd; omega) (by have := (renT f t).all_cnt nd; omega)
        have b2 := same_at (a := (remT f).all nd) (b := (remT f).all nd) (by have := (remT f).all_cnt nd; omega) (by have := (remT f).all_cnt nd; omega)
        rw [sameN_refl] at b1 b2
        generalize (renT f t).all nd = x1 at a1 a2 b1
        generalize (remT f).all nd = x2 at a3 a4 b2
        obtain ⟨k0, op0, nm0, vk0, vn0, vs0, cs0, cc0, cr0, ts0, tc0, tr0, l0, nl0, sz0, hh0, hl0, hf0, hs0⟩ := node_cases nd
        obtain ⟨k1, op1, nm1, vk1, vn1, vs1, cs1, cc1, cr1, ts1, tc1, tr1, l1, nl1, sz1, hh1, hl1, hf1, hs1⟩ := node_cases x1
        obtain ⟨k2, op2, nm2, vk2, vn2, vs2, cs2, cc2, cr2, ts2, tc2, tr2, l2, nl2, sz2, hh2, hl2, hf2, hs2⟩ := node_cases x2
        rw [hf0] at e1 a1 a2 a3 a4 ⊢
        rw [hf1] at a1 a2 b1
        rw [hf2] at a3 a4 b2
        simp (decide := true) (maxDischargeDepth := 200) only [go_sem, eA, e1, d2, d3, a1, a2, a3, a4, b1, b2, Try.results3]
      · have d3 : decide ((50 : Int) < (t.size : Int)) = true := decide_eq_true (by omega)
        obtain ⟨k0, op0, nm0, vk0, vn0, vs0, cs0, cc0, cr0, ts0, tc0, tr0, l0, nl0, sz0, hh0, hl0, hf0, hs0⟩ := node_cases nd
        rw [hf0] at e1 ⊢
        simp (decide := true) (maxDischargeDepth := 200) only [go_sem, eA, e1, d2, d3, Try.results3]
    · have d2 : decide ((50 : Int) < (f.size : Int)) = true := decide_eq_true (by omega)
      obtain ⟨k0, op0, nm0, vk0, vn0, vs0, cs0, cc0, cr0, ts0, tc0, tr0, l0, nl0, sz0, hh0, hl0, hf0, hs0⟩ := node_cases nd
      rw [hf0] at e1 ⊢
      simp (decide := true) (maxDischargeDepth := 200) only [go_sem, eA, e1, d2, Try.results3]
  · have d1 : decide (((szN 101 nd : Nat) : Int) ≤ 400) = false := decide_eq_false (by omega)
    rw [d1] at e1
    obtain ⟨k0, op0, nm0, vk0, vn0, vs0, cs0, cc0, cr0, ts0, tc0, tr0, l0, nl0, sz0, hh0, hl0, hf0, hs0⟩ := node_cases nd
    rw [hf0] at e1 ⊢
    simp (decide := true) (maxDischargeDepth := 200) only [go_sem, eA, e1, Try.results3]

set_option maxHeartbeats 16000000 in
set_option maxRecDepth 100000 in
theorem back9_fun : FunV 4 (FE encRn GLaw9) := by
  refine fun_of_run (E := envOf [(5, FAlive9), (6, FFew), (12, (FE encN GRightN)), (13, FName), (14, (FE encRm GUses)), (8, (FE encRn GRn)), (10, (FE encRm GRm)), (7, (FE encNN GSame))]) (k := 3) (envOK_of _ ⟨alive9_fun, few_fun, rightnode_fun, rname_fun, uses_fun, rename_fun, remove_fun, rsame_fun, trivial⟩) (by kernel_rfl) Try.func4 rfl (fun a w => Try.call4 a w) Try.ntmps4 (by kernel_rfl) (by decide) (by decide) ?_
  intro us r hF hdat
  obtain ⟨⟨nd, f, t⟩, hus, hG⟩ := FE_out hF
  clear hF
  subst hus
  have hF := hG
  clear hG
  cases hF
  clear hdat
  simp only [encRn]
  have eA : FAlive9 [] = some (.x (.bool true)) := rfl
  have eN1 : FName [.x (.string f)] = some (.x (.bool (nameB f))) := rfl
  have eN2 : FName [.x (.string t)] = some (.x (.bool (nameB t))) := rfl
  have e1 := FFew_eq nd
  refine ⟨rfl, ?_⟩
  by_cases h4 : szN 101 nd ≤ 400
  · have h400 := few_cnt h4
    have hgood := few_good h4
    have d1 : decide (((szN 101 nd : Nat) : Int) ≤ 400) = true := decide_eq_true (by omega)
    rw [d1] at e1
    have e2 := right_at h400
    cases hr : (decide ((dN nd : Int) ≤ 20) && rN nd) with
    | false =>
      rw [hr] at e2
      obtain ⟨k0, op0, nm0, vk0, vn0, vs0, cs0, cc0, cr0, ts0, tc0, tr0, l0, nl0, sz0, hh0, hl0, hf0, hs0⟩ := node_cases nd
      rw [hf0] at e1 e2 ⊢
      simp (decide := true) (maxDischargeDepth := 200) only [go_sem, eA, e1, e2, Try.results4]
    | true =>
      rw [hr] at e2
      rw [Bool.and_eq_true, decide_eq_true_eq] at hr
      cases hn1 : nameB f with
      | false =>
        rw [hn1] at eN1
        obtain ⟨k0, op0, nm0, vk0, vn0, vs0, cs0, cc0, cr0, ts0, tc0, tr0, l0, nl0, sz0, hh0, hl0, hf0, hs0⟩ := node_cases nd
        rw [hf0] at e1 e2 ⊢
        simp (decide := true) (maxDischargeDepth := 200) only [go_sem, eA, e1, e2, eN1, Try.results4]
      | true =>
        rw [hn1] at eN1
        cases hn2 : nameB t with
        | false =>
          rw [hn2] at eN2
          obtain ⟨k0, op0, nm0, vk0, vn0, vs0, cs0, cc0, cr0, ts0, tc0, tr0, l0, nl0, sz0, hh0, hl0, hf0, hs0⟩ := node_cases nd
          rw [hf0] at e1 e2 ⊢
          simp (decide := true) (maxDischargeDepth := 200) only [go_sem, eA, e1, e2, eN1, eN2, Try.results4]
        | true =>
          rw [hn2] at eN2
          by_cases hft : f = t
          · have d2 : decide (f = t) = true := decide_eq_true hft
            obtain ⟨k0, op0, nm0, vk0, vn0, vs0, cs0, cc0, cr0, ts0, tc0, tr0, l0, nl0, sz0, hh0, hl0, hf0, hs0⟩ := node_cases nd
            rw [hf0] at e1 e2 ⊢
            simp (decide := true) (maxDischargeDepth := 200) only [go_sem, eA, e1, e2, eN1, eN2, d2, Try.results4]
          · have d2 : decide (f = t) = false := decide_eq_false hft
            have u1 := GUses_of (s := t) h400
            cases hu : usesN t nd with
            | true =>
              rw [hu] at u1
              obtain ⟨k0, op0, nm0, vk0, vn0, vs0, cs0, cc0, cr0, ts0, tc0, tr0, l0, nl0, sz0, hh0, hl0, hf0, hs0⟩ := node_cases nd
              rw [hf0] at e1 e2 u1 ⊢
              simp (decide := true) (maxDischargeDepth := 200) only [go_sem, eA, e1, e2, eN1, eN2, d2, u1, Try.results4]
            | false =>
              rw [hu] at u1
              have hs1 := name_8 hn1
              have hs2 := name_8 hn2
              have hc1 := (renT f t).all_cnt nd
              have hc2 := (renT t f).all_cnt ((renT f t).all nd)
              have hc3 := (remT f).all_cnt nd
              have a1 := ren_at (n := nd) (f := f) (t := t) ⟨h400, hgood, by omega, by omega⟩
              have a2 := ren_at (n := (renT f t).all nd) (f := t) (t := f) ⟨by omega, (renT f t).all_good (renT_texts (by omega)) nd hgood, by omega, by omega⟩
              have a3 := rem_at (n := nd) (f := f) ⟨h400, hgood, by omega, Nat.zero_le _⟩
              have b1 := same_at (a := (renT t f).all ((renT f t).all nd)) (b := nd) (by omega) h400
              have b2 := GUses_of (n := (renT f t).all nd) (s := f) (by omega)
              have b3 := GUses_of (n := (renT f t).all nd) (s := t) (by omega)
              have b4 := GUses_of (n := nd) (s := f) h400
              have b5 := GUses_of (n := (remT f).all nd) (s := f) (by omega)
              have b6 := right_at (n := (renT f t).all nd) (by omega)
              have b7 := right_at (n := (remT f).all nd) (by omega)
              have b8 := same_at (a := (remT f).all nd) (b := nd) (by omega) h400
              have hd1 := (renT f t).all_dN nd
              have hd2 := (remT f).all_dN nd
              have b8' := rem_same f nd
              rw [ren_back nd hr.2 hu] at b1
              rw [ren_from hft] at b2
              rw [ren_to nd hu] at b3
              rw [rem_uses] at b5
              rw [ren_right hn2 nd hr.2, decide_eq_true (by omega)] at b6
              rw [rem_right f nd hr.2, decide_eq_true (by omega)] at b7
              generalize (renT t f).all ((renT f t).all nd) = x2 at a2 b1
              generalize (renT f t).all nd = x1 at a1 a2 b2 b3 b6
              generalize (remT f).all nd = x3 at a3 b5 b7 b8 b8'
              cases hv : usesN f nd with
              | true =>
                rw [hv] at b3 b4
                clear b8 b8'
                obtain ⟨k0, op0, nm0, vk0, vn0, vs0, cs0, cc0, cr0, ts0, tc0, tr0, l0, nl0, sz0, hh0, hl0, hf0, hs0⟩ := node_cases nd
                obtain ⟨k1, op1, nm1, vk1, vn1, vs1, cs1, cc1, cr1, ts1, tc1, tr1, l1, nl1, sz1, hh1, hl1, hf1, hs1⟩ := node_cases x1
                obtain ⟨k2, op2, nm2, vk2, vn2, vs2, cs2, cc2, cr2, ts2, tc2, tr2, l2, nl2, sz2, hh2, hl2, hf2, hs2⟩ := node_cases x2
                obtain ⟨k3, op3, nm3, vk3, vn3, vs3, cs3, cc3, cr3, ts3, tc3, tr3, l3, nl3, sz3, hh3, hl3, hf3, hs3⟩ := node_cases x3
                rw [hf0] at e1 e2 u1 a1 a3 b1 b4 ⊢
                rw [hf1] at a1 a2 b2 b3 b6
                rw [hf2] at a2 b1
                rw [hf3] at a3 b5 b7
                simp (decide := true) (maxDischargeDepth := 200) only [go_sem, eA, e1, e2, eN1, eN2, d2, u1, a1, a2, a3, b1, b2, b3, b4, b5, b6, b7, bq_self, Bool.and_self, dec_refl, Try.results4]
              | false =>
                rw [hv] at b3 b4
                rw [b8' hv] at b8
                clear b8'
                obtain ⟨k0, op0, nm0, vk0, vn0, vs0, cs0, cc0, cr0, ts0, tc0, tr0, l0, nl0, sz0, hh0, hl0, hf0, hs0⟩ := node_cases nd
                obtain ⟨k1, op1, nm1, vk1, vn1, vs1, cs1, cc1, cr1, ts1, tc1, tr1, l1, nl1, sz1, hh1, hl1, hf1, hs1⟩ := node_cases x1
                obtain ⟨k2, op2, nm2, vk2, vn2, vs2, cs2, cc2, cr2, ts2, tc2, tr2, l2, nl2, sz2, hh2, hl2, hf2, hs2⟩ := node_cases x2
                obtain ⟨k3, op3, nm3, vk3, vn3, vs3, cs3, cc3, cr3, ts3, tc3, tr3, l3, nl3, sz3, hh3, hl3, hf3, hs3⟩ := node_cases x3
                rw [hf0] at e1 e2 u1 a1 a3 b1 b4 b8 ⊢
                rw [hf1] at a1 a2 b2 b3 b6
                rw [hf2] at a2 b1
                rw [hf3] at a3 b5 b7 b8
                simp (decide := true) (maxDischargeDepth := 200) only [go_sem, eA, e1, e2, eN1, eN2, d2, u1, a1, a2, a3, b1, b2, b3, b4, b5, b6, b7, b8, bq_self, Bool.and_self, dec_refl, Try.results4]
  · have d1 : decide (((szN 101 nd : Nat) : Int) ≤ 400) = false := decide_eq_false (by omega)
    rw [d1] at e1
    obtain ⟨k0, op0, nm0, vk0, vn0, vs0, cs0, cc0, cr0, ts0, tc0, tr0, l0, nl0, sz0, hh0, hl0, hf0, hs0⟩ := node_cases nd
    rw [hf0] at e1 ⊢
    simp (decide := true) (maxDischargeDepth := 200) only [go_sem, eA, e1, Try.results4]

end Go.Proofs.Ytacclfepjpmfoaa
