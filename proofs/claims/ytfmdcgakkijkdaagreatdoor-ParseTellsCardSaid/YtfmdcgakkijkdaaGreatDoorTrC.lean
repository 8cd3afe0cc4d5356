/- Formulas: those that may be, how deep, how many: package tree, the reference and the law, as functions of plain data. -/
import Derived.Test.YtfmdcgakkijkdaaGreatDoorTrB
namespace Go.Proofs.YtfmdcgakkijkdaaGreatDoor
open Go Go.RowKit
set_option linter.unusedSimpArgs false
def encN (a : Nd) : List V := [nodeV a]
def encNN (p : Nd × Nd) : List V := [nodeV p.1, nodeV p.2]
def encNI (p : Nd × Nat) : List V := [nodeV p.1, .x (.int .i64 (p.2 : Int))]
theorem encN_inj (a b : Nd) (e : encN a = encN b) : a = b := nodeV_inj _ _ (List.cons.inj e).1
theorem encNN_inj (p q : Nd × Nd) (e : encNN p = encNN q) : p = q := by
  obtain ⟨h1, h2⟩ := List.cons.inj e
  exact Prod.ext (nodeV_inj _ _ h1) (nodeV_inj _ _ (List.cons.inj h2).1)
theorem encNI_inj (p q : Nd × Nat) (e : encNI p = encNI q) : p = q := by
  obtain ⟨h1, h2⟩ := List.cons.inj e
  have h3 : (p.2 : Int) = (q.2 : Int) := (Value.int.inj (V.x.inj (List.cons.inj h2).1)).2
  exact Prod.ext (nodeV_inj _ _ h1) (by omega)
theorem sz_kids {sz : Nat} {l : List Nd} (hs : l ≠ [] → sz = 13) {i : Nat} (hi : i < l.length) : sz = 13 := hs (by intro e; rw [e] at hi; simp at hi)
theorem cnt_kid {nd c : Nd} {i : Nat} (h : nd.ks[i]? = some c) : cnt c < cnt nd := by
  have := cntL_mem (List.mem_of_getElem? h)
  rw [cnt_eq nd]; omega
theorem cnt_kids (nd : Nd) : nd.ks.length < cnt nd := by
  have := cntL_len nd.ks
  rw [cnt_eq nd]; omega
/-- A node whose fields are told. -/
theorem node_cases (nd : Nd) : ∃ (k : Int) (op : ByteArray) (nm : ByteArray) (vk : Int) (vn : Int) (vs : ByteArray) (cs : ByteArray) (cc : Int) (cr : Int) (ts : ByteArray) (tc : Int) (tr : Int) (l : List Nd) (nl : Bool) (sz : Nat), nd.hd = ⟨k, op, nm, vk, vn, vs, cs, cc, cr, ts, tc, tr⟩ ∧ nd.ks = l ∧ nodeV nd = .agg [.x (.int .i64 k), .x (.string op), .x (.string nm), .x (.int .i64 vk), .x (.int .i64 vn), .x (.string vs), .x (.string cs), .x (.int .i64 cc), .x (.int .i64 cr), .x (.string ts), .x (.int .i64 tc), .x (.int .i64 tr), .sl nl sz (l.map nodeV) none] ∧ (l ≠ [] → sz = 13) := by
  obtain ⟨nl, sz, hf, hs⟩ := node_form nd
  exact ⟨_, _, _, _, _, _, _, _, _, _, _, _, _, nl, sz, rfl, rfl, hf, hs⟩

def GDepth (nd : Nd) : Option V := if cnt nd ≤ 400 then some (.x (.int .i64 ((dN nd : Nat) : Int))) else none
theorem GDepth_of {nd : Nd} (h : cnt nd ≤ 400) : GDepth nd = some (.x (.int .i64 ((dN nd : Nat) : Int))) := if_pos h
set_option maxRecDepth 100000 in
theorem rdepth_fun : FunV 21 (FE encN GDepth) := by
  refine fun_rec cnt (fun a w => Tryz.call21 a w) (fun n ih => ?_)
  refine fun_of_run (E := envOf [(21, (FE encN fun a => if cnt a < n then GDepth a else none))]) (k := 1) (envOK_of _ ⟨ih, trivial⟩) (by kernel_rfl) Tryz.func21 rfl (fun a w => Tryz.call21 a w) Tryz.ntmps21 (by kernel_rfl) (by decide) (by decide) ?_
  intro us r hF hdat
  obtain ⟨nd, hus, hG⟩ := FE_out hF
  clear hF
  subst hus
  obtain ⟨hlt, hF⟩ := ite_some hG
  clear hG
  unfold GDepth at hF
  obtain ⟨h400, hF⟩ := ite_some hF
  cases hF
  clear hdat
  simp only [encN]
  obtain ⟨k, op, nm, vk, vn, vs, cs, cc, cr, ts, tc, tr, l, nl, sz, hh, hl, hf, hs⟩ := node_cases nd
  have hrec : ∀ (i : Nat) (c : Nd), l[i]? = some c → (FE encN fun a => if cnt a < n then GDepth a else none) [nodeV c] = some (.x (.int .i64 ((dN c : Nat) : Int))) := fun i c hc => by
    have h1 := cnt_kid (nd := nd) (c := c) (i := i) (by rw [hl]; exact hc)
    exact (FE_at encN_inj _ c).trans ((if_pos (by omega)).trans (GDepth_of (by omega)))
  have hlen : l.length < 400 := by have := cnt_kids nd; rw [hl] at this; omega
  have hdl : dL l ≤ 400 := by have := dL_cnt nd.ks; have := cnt_eq nd; rw [hl] at *; omega
  rw [hf, dN_eq, hl]
  refine ⟨rfl, ?_⟩
  simp (decide := true) (maxDischargeDepth := 200) only [go_sem, Tryz.results21]
  refine loop_of (X := {i : Nat // i ≤ l.length}) (fun i => [(1, .ptr 1 0), (3, .x (.int .i64 ((dL (l.take i.1) : Nat) : Int))), (4, .x (.int .i64 ((i.1 : Nat) : Int)))]) (fun _ => [(1, [.x (.int .i64 k), .x (.string op), .x (.string nm), .x (.int .i64 vk), .x (.int .i64 vn), .x (.string vs), .x (.string cs), .x (.int .i64 cc), .x (.int .i64 cr), .x (.string ts), .x (.int .i64 tc), .x (.int .i64 tr), .sl nl sz (l.map nodeV) none])]) (fun i => l.length - i.1) ⟨0, by omega⟩ (by simp (decide := true) only [go_sem] <;> (repeat' first | rfl | constructor)) (by simp (decide := true) only [go_sem] <;> (repeat' first | rfl | constructor)) (fun ⟨i, hi0⟩ => ?_)
  by_cases hi : i < l.length
  · obtain ⟨c, hc1, hc2⟩ := kid_at hi
    obtain rfl := sz_kids hs hi
    have hcc := hrec i c hc1
    obtain ⟨k', op', nm', vk', vn', vs', cs', cc', cr', ts', tc', tr', l', nl', sz', hh', hl', hf', hs'⟩ := node_cases c
    rw [hf'] at hc2 hcc
    have c1 : decide ((i : Int) < (l.length : Int)) = true := decide_eq_true (by omega)
    have c2 : (0 : Int) ≤ (i : Int) := by omega
    have c4 := count_up (i := i) (by omega)
    have ht := take_snoc' hc1
    by_cases hd : dL (l.take i) < dN c
    · have e : dL (l.take (i + 1)) = dN c := by rw [ht, dL_snoc]; omega
      have d1 : decide (((dL (l.take i) : Nat) : Int) < ((dN c : Nat) : Int)) = true := decide_eq_true (by omega)
      simp (decide := true) (maxDischargeDepth := 200) only [go_sem, List.length_map, c1, c2, c4, hc2, hcc, d1, Tryz.results21]
      refine ⟨⟨i + 1, by omega⟩, ?_, ?_, ?_⟩
      · simp (decide := true) only [go_sem, e]
      · simp (decide := true) only [go_sem]
      · simp only; omega
    · have e : dL (l.take (i + 1)) = dL (l.take i) := by rw [ht, dL_snoc]; omega
      have d1 : decide (((dL (l.take i) : Nat) : Int) < ((dN c : Nat) : Int)) = false := decide_eq_false (by omega)
      simp (decide := true) (maxDischargeDepth := 200) only [go_sem, List.length_map, c1, c2, c4, hc2, hcc, d1, Tryz.results21]
      refine ⟨⟨i + 1, by omega⟩, ?_, ?_, ?_⟩
      · simp (decide := true) only [go_sem, e]
      · simp (decide := true) only [go_sem]
      · simp only; omega
  · have c1 : decide ((i : Int) < (l.length : Int)) = false := decide_eq_false (by omega)
    have e : l.take i = l := List.take_of_length_le (by omega)
    have w : bWrap .i64 (((dL l : Nat) : Int) + 1) = ((1 + dL l : Nat) : Int) := by rw [bwrap_of (by unfold inR; omega)]; omega
    simp (decide := true) (maxDischargeDepth := 200) only [go_sem, List.length_map, c1, e, w, Tryz.results21]

/-- What a kind asks of the fields it names, as the reference has it. -/
def okR (h : Hd) (n : Nat) : Bool :=
  bif decide (h.k = 1) then rightV h.vk h.vn h.vs && ((decide (h.vk = 1) && decide (0 ≤ h.vn) || decide (h.vk = 2)) || decide (h.vk = 3)) else bif decide (h.k = 2) then rightC h.cs h.cc h.cr else
  bif decide (h.k = 3) then rangeB h.cs h.cc h.cr h.ts h.tc h.tr else bif decide (h.k = 4) then decide (h.op = ⟨#[45]⟩) && decide ((n : Int) = 1) else
  bif decide (h.k = 5) then opB h.op && decide ((n : Int) = 2) else bif decide (h.k = 6) then callB h.nm && decide ((n : Int) ≤ 20) else true
mutual
/-- Which formulas may be, but for their depth. -/
def rN : Nd → Bool
  | .leaf h => bareB h 0 && okR h 0
  | .mk h l => bareB h l.length && (rL l && okR h l.length)
def rL : List Nd → Bool
  | [] => true
  | n :: l => rN n && rL l
end
theorem rN_eq (a : Nd) : rN a = (bareB a.hd a.ks.length && (rL a.ks && okR a.hd a.ks.length)) := by
  cases a <;> simp [rN, rL, Nd.hd, Nd.ks]
theorem rL_snoc (l : List Nd) (n : Nd) : rL (l ++ [n]) = (rL l && rN n) := by
  induction l with
  | nil => simp [rL]
  | cons x l ih => simp only [List.cons_append, rL, ih, Bool.and_assoc]
theorem rL_bad {l : List Nd} {i : Nat} {c : Nd} (h : l[i]? = some c) (hc : rN c = false) : rL l = false := by
  induction l generalizing i with
  | nil => simp at h
  | cons x l ih =>
    cases i with
    | zero => simp at h; subst h; simp [rL, hc]
    | succ i => simp only [rL, ih (by simpa using h), Bool.and_false]
def GRight (nd : Nd) : Option V := if cnt nd ≤ 400 then some (.x (.bool (rN nd))) else none
theorem GRight_of {nd : Nd} (h : cnt nd ≤ 400) : GRight nd = some (.x (.bool (rN nd))) := if_pos h
set_option maxHeartbeats 8000000 in
set_option maxRecDepth 100000 in
theorem rrightn_fun : FunV 22 (FE encN GRight) := by
  refine fun_rec cnt (fun a w => Tryz.call22 a w) (fun n ih => ?_)
  refine fun_of_run (E := envOf [(22, (FE encN fun a => if cnt a < n then GRight a else none)), (37, FBare), (38, FRightV), (39, FRightC), (40, FArea), (41, FOp), (42, FCall)]) (k := 1) (envOK_of _ ⟨ih, bare_fun, rvright_fun, rright_fun, rarea_fun, rop_fun, rcall_fun, trivial⟩) (by kernel_rfl) Tryz.func22 rfl (fun a w => Tryz.call22 a w) Tryz.ntmps22 (by kernel_rfl) (by decide) (by decide) ?_
  intro us r hF hdat
  obtain ⟨nd, hus, hG⟩ := FE_out hF
  clear hF
  subst hus
  obtain ⟨hlt, hF⟩ := ite_some hG
  clear hG
  unfold GRight at hF
  obtain ⟨h400, hF⟩ := ite_some hF
  cases hF
  clear hdat
  simp only [encN]
  obtain ⟨k, op, nm, vk, vn, vs, cs, cc, cr, ts, tc, tr, l, nl, sz, hh, hl, hf, hs⟩ := node_cases nd
  have hrec : ∀ (i : Nat) (c : Nd), l[i]? = some c → (FE encN fun a => if cnt a < n then GRight a else none) [nodeV c] = some (.x (.bool (rN c))) := fun i c hc => by
    have h1 := cnt_kid (nd := nd) (c := c) (i := i) (by rw [hl]; exact hc)
    exact (FE_at encN_inj _ c).trans ((if_pos (by omega)).trans (GRight_of (by omega)))
  have hlen : l.length < 400 := by have := cnt_kids nd; rw [hl] at this; omega
  rw [hf, rN_eq, hl, hh]
  refine ⟨rfl, ?_⟩
  cases hb : bareB (⟨k, op, nm, vk, vn, vs, cs, cc, cr, ts, tc, tr⟩ : Hd) l.length
  · simp (decide := true) (maxDischargeDepth := 200) only [go_sem, FBare_eq, FRightV, FRightC, FArea, FOp, FCall, List.length_map, hb, Tryz.results22]
  · simp (decide := true) (maxDischargeDepth := 200) only [go_sem, FBare_eq, FRightV, FRightC, FArea, FOp, FCall, List.length_map, hb, Tryz.results22]
    refine loop_of (X := {i : Nat // i ≤ l.length ∧ rL (l.take i) = true}) (fun i => [(1, .ptr 1 0), (3, .x (.int .i64 ((i.1 : Nat) : Int)))]) (fun _ => [(1, [.x (.int .i64 k), .x (.string op), .x (.string nm), .x (.int .i64 vk), .x (.int .i64 vn), .x (.string vs), .x (.string cs), .x (.int .i64 cc), .x (.int .i64 cr), .x (.string ts), .x (.int .i64 tc), .x (.int .i64 tr), .sl nl sz (l.map nodeV) none])]) (fun i => l.length - i.1) ⟨0, by omega, by rw [List.take_zero]; rfl⟩ (by simp (decide := true) only [go_sem] <;> (repeat' first | rfl | constructor)) (by simp (decide := true) only [go_sem] <;> (repeat' first | rfl | constructor)) (fun ⟨i, hi0, hok⟩ => ?_)
    by_cases hi : i < l.length
    · obtain ⟨c, hc1, hc2⟩ := kid_at hi
      obtain rfl := sz_kids hs hi
      have hcc := hrec i c hc1
      obtain ⟨k', op', nm', vk', vn', vs', cs', cc', cr', ts', tc', tr', l', nl', sz', hh', hl', hf', hs'⟩ := node_cases c
      rw [hf'] at hc2 hcc
      have c1 : decide ((i : Int) < (l.length : Int)) = true := decide_eq_true (by omega)
      have c2 : (0 : Int) ≤ (i : Int) := by omega
      have c4 := count_up (i := i) (by omega)
      cases hr : rN c
      · have e := rL_bad hc1 hr
        simp (decide := true) (maxDischargeDepth := 200) only [go_sem, FBare_eq, FRightV, FRightC, FArea, FOp, FCall, List.length_map, c1, c2, c4, hc2, hcc, hr, e, Tryz.results22]
      · simp (decide := true) (maxDischargeDepth := 200) only [go_sem, FBare_eq, FRightV, FRightC, FArea, FOp, FCall, List.length_map, c1, c2, c4, hc2, hcc, hr, Tryz.results22]
        refine ⟨⟨i + 1, by omega, by rw [take_snoc' hc1, rL_snoc, hok, hr]; rfl⟩, ?_, ?_, ?_⟩
        · simp (decide := true) only [go_sem]
        · simp (decide := true) only [go_sem]
        · simp only; omega
    · have c1 : decide ((i : Int) < (l.length : Int)) = false := decide_eq_false (by omega)
      have hr : rL l = true := by rw [List.take_of_length_le (by omega)] at hok; exact hok
      rw [hr]
      cases hA : okA cs cc cr ts tc tr
      · have ha := areaV_no hA
        simp (decide := true) (maxDischargeDepth := 200) only [go_sem, FBare_eq, FRightV, FRightC, FArea, FOp, FCall, List.length_map, c1, ha, Tryz.results22]
        repeat' first
          | simp (decide := true) (maxDischargeDepth := 200) only [go_sem, FBare_eq, FRightV, FRightC, FArea, FOp, FCall, List.length_map, c1, ha, Tryz.results22, *]
          | refine guardK_openF (fun _ => ?_) (fun _ => ?_)
          | refine guardK_openN (fun _ => ?_) (fun _ => ?_)
          | refine guardK_openT (fun _ => ?_) (fun _ => ?_)
          | refine guardK_open (fun _ => ?_) (fun _ => ?_)
          | refine condK_openN (fun _ => ?_) (fun _ => ?_)
          | refine condK_open (fun _ => ?_) (fun _ => ?_)
        all_goals simp (decide := true) only [okR, rangeB, go_sem, *]
      · have ha := areaV_yes hA
        simp (decide := true) (maxDischargeDepth := 200) only [go_sem, FBare_eq, FRightV, FRightC, FArea, FOp, FCall, List.length_map, c1, ha, Tryz.results22]
        repeat' first
          | simp (decide := true) (maxDischargeDepth := 200) only [go_sem, FBare_eq, FRightV, FRightC, FArea, FOp, FCall, List.length_map, c1, ha, Tryz.results22, *]
          | refine guardK_openF (fun _ => ?_) (fun _ => ?_)
          | refine guardK_openN (fun _ => ?_) (fun _ => ?_)
          | refine guardK_openT (fun _ => ?_) (fun _ => ?_)
          | refine guardK_open (fun _ => ?_) (fun _ => ?_)
          | refine condK_openN (fun _ => ?_) (fun _ => ?_)
          | refine condK_open (fun _ => ?_) (fun _ => ?_)
        all_goals simp (decide := true) only [okR, rangeB, go_sem, *]


def GRightN (nd : Nd) : Option V := if cnt nd ≤ 400 then some (.x (.bool (decide ((dN nd : Int) ≤ 20) && rN nd))) else none
theorem FDepth_eq {nd : Nd} (h : cnt nd ≤ 400) : FE encN GDepth [nodeV nd] = some (.x (.int .i64 ((dN nd : Nat) : Int))) := (FE_at encN_inj _ nd).trans (GDepth_of h)
theorem FRightR_eq {nd : Nd} (h : cnt nd ≤ 400) : FE encN GRight [nodeV nd] = some (.x (.bool (rN nd))) := (FE_at encN_inj _ nd).trans (GRight_of h)
set_option maxRecDepth 100000 in
theorem rightnode_fun : FunV 11 (FE encN GRightN) := by
  refine fun_of_run (E := envOf [(21, (FE encN GDepth)), (22, (FE encN GRight))]) (k := 1) (envOK_of _ ⟨rdepth_fun, rrightn_fun, trivial⟩) (by kernel_rfl) Tryz.func11 rfl (fun a w => Tryz.call11 a w) Tryz.ntmps11 (by kernel_rfl) (by decide) (by decide) ?_
  intro us r hF hdat
  obtain ⟨nd, hus, hG⟩ := FE_out hF
  clear hF
  subst hus
  have hF := hG
  clear hG
  unfold GRightN at hF
  obtain ⟨h400, hF⟩ := ite_some hF
  cases hF
  have e1 := FDepth_eq h400
  have e2 := FRightR_eq h400
  simp only [encN]
  obtain ⟨k, op, nm, vk, vn, vs, cs, cc, cr, ts, tc, tr, l, nl, sz, hh, hl, hf, hs⟩ := node_cases nd
  generalize dN nd = dn at *
  generalize rN nd = rn at *
  rw [hf] at e1 e2 ⊢
  refine ⟨rfl, ?_⟩
  simp (decide := true) (maxDischargeDepth := 200) only [go_sem, e1, e2, Tryz.results11]
  repeat' first
    | simp (decide := true) (maxDischargeDepth := 200) only [go_sem, e1, e2, Tryz.results11, *]
    | refine guardK_openF (fun _ => ?_) (fun _ => ?_)
    | refine guardK_openN (fun _ => ?_) (fun _ => ?_)
    | refine guardK_openT (fun _ => ?_) (fun _ => ?_)
    | refine guardK_open (fun _ => ?_) (fun _ => ?_)
    | refine condK_openN (fun _ => ?_) (fun _ => ?_)
    | refine condK_open (fun _ => ?_) (fun _ => ?_)
  all_goals simp (decide := true) only [Bool.true_and, go_sem, *]

/-- Which formulas may be, of a depth. -/
def rwN : Nat → Nd → Bool
  | 0, _ => false
  | m + 1, nd => fitsB nd.hd nd.ks.length && nd.ks.all (rwN m)
theorem fits_len {h : Hd} {n : Nat} (e : fitsB h n = true) : n ≤ 20 := by
  simp only [fitsB, Bool.and_eq_true] at e
  have h1 := alike_len e.2
  have h2 := e.1
  unfold okF at h2
  unfold onlyN at h1
  by_cases h4 : h.k = 4
  · simp [h4] at h2; omega
  · by_cases h5 : h.k = 5
    · simp [h5] at h2; omega
    · by_cases h6 : h.k = 6
      · simp [h6] at h2; omega
      · by_cases k1 : h.k = 1 <;> by_cases k2 : h.k = 2 <;> by_cases k3 : h.k = 3 <;> simp [h4, h5, h6, k1, k2, k3] at h1 <;> omega
theorem all_snoc' {α : Type} {p : α → Bool} {l : List α} {i : Nat} {x : α} (h : l[i]? = some x) (h1 : (l.take i).all p = true) (h2 : p x = true) : (l.take (i + 1)).all p = true := by
  rw [take_snoc' h, List.all_append, h1]; simp [h2]
theorem all_bad {α : Type} {p : α → Bool} {l : List α} {i : Nat} {x : α} (h : l[i]? = some x) (h2 : p x = false) : l.all p = false := by
  cases e : l.all p with
  | false => rfl
  | true => rw [List.all_eq_true] at e; rw [e x (List.mem_of_getElem? h)] at h2; cases h2
def GWithin (p : Nd × Nat) : Option V := if p.2 ≤ 20 then some (.x (.bool (rwN p.2 p.1))) else none
theorem GWithin_of {nd : Nd} {m : Nat} (h : m ≤ 20) : GWithin (nd, m) = some (.x (.bool (rwN m nd))) := if_pos h
noncomputable def FRightT : List V → Option V := FE encN fun nd => some (.x (.bool (rwN 20 nd)))
theorem FRightT_eq (nd : Nd) : FRightT [nodeV nd] = some (.x (.bool (rwN 20 nd))) := FE_at encN_inj _ nd
theorem FWithin_eq (nd : Nd) : FE encNI GWithin [nodeV nd, .x (.int .i64 20)] = some (.x (.bool (rwN 20 nd))) := (FE_at encNI_inj _ (nd, 20)).trans (GWithin_of (Nat.le_refl _))
end Go.Proofs.YtfmdcgakkijkdaaGreatDoor
