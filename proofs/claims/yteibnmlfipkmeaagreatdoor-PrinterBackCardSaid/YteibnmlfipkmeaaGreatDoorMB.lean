/- The reference's reader: its state, and what it asks of it. -/
import Derived.Test.YteibnmlfipkmeaaGreatDoorMA
namespace Go.Proofs.YteibnmlfipkmeaaGreatDoor
open Go Go.RowKit
set_option linter.unusedSimpArgs false
/-- The reader: its tokens, how many are read, the text's length, the sheet, where it went wrong. -/
structure Pq where
  nl : Bool
  l : List Tk
  n : Nat
  en : Nat
  sh : ByteArray
  bad : Int
abbrev pqL (nl : Bool) (l : List Tk) (n en : Nat) (sh : ByteArray) (bad : Int) : List V := [.sl nl 3 (tks l) none, .x (.int .i64 (n : Int)), .x (.int .i64 (en : Int)), .x (.string sh), .x (.int .i64 bad)]
def pqV (p : Pq) : List V := pqL p.nl p.l p.n p.en p.sh p.bad
theorem pqV_inj (p q : Pq) (e : pqV p = pqV q) : p = q := by
  obtain ⟨nl, l, n, en, sh, bad⟩ := p
  obtain ⟨nl', l', n', en', sh', bad'⟩ := q
  simp only [pqV, pqL, List.cons.injEq, V.sl.injEq, V.x.injEq, Value.int.injEq, Value.string.injEq, true_and, and_true] at e
  obtain ⟨⟨rfl, e1⟩, e2, e3, rfl, rfl⟩ := e
  obtain rfl := tks_inj _ _ e1
  obtain rfl : n = n' := by omega
  obtain rfl : en = en' := by omega
  rfl
def encP (p : Pq) : List V := [.bx (pqV p)]
theorem encP_inj (p q : Pq) (e : encP p = encP q) : p = q := pqV_inj _ _ (V.bx.inj (List.cons.inj e).1)
def encPS (p : Pq × ByteArray) : List V := [.bx (pqV p.1), .x (.string p.2)]
theorem encPS_inj (p q : Pq × ByteArray) (e : encPS p = encPS q) : p = q := by
  obtain ⟨p1, p2⟩ := p
  obtain ⟨q1, q2⟩ := q
  simp only [encPS, List.cons.injEq, V.bx.injEq, V.x.injEq, Value.string.injEq, and_true] at e
  rw [pqV_inj _ _ e.1, e.2]
def encPI (p : Pq × Int) : List V := [.bx (pqV p.1), .x (.int .i64 p.2)]
theorem encPI_inj (p q : Pq × Int) (e : encPI p = encPI q) : p = q := by
  obtain ⟨p1, p2⟩ := p
  obtain ⟨q1, q2⟩ := q
  simp only [encPI, List.cons.injEq, V.bx.injEq, V.x.injEq, Value.int.injEq, true_and, and_true] at e
  rw [pqV_inj _ _ e.1, e.2]
theorem tks_at {l : List Tk} {i k p : Nat} {s : List UInt8} (h : l[i]? = some (k, p, s)) : (tks l)[((i : Nat) : Int).toNat]? = some (.agg [.x (.int .i64 (k : Int)), .x (.int .i64 (p : Int)), .x (.string (B s))]) := by
  rw [toNat_cast]
  show (l.map tokV)[i]? = _
  rw [List.getElem?_map, h]
  rfl
section
variable (nl : Bool) (l : List Tk) (n en : Nat) (sh : ByteArray) (bad : Int)
def GAtR (p : Pq) : Option (V × List (List V)) := some (.x (.int .i64 (atR p.l (p.en : Int) p.n)), [pqV p])
theorem atR_eq : FE encP GAtR [.bx (pqL nl l n en sh bad)] = some (.x (.int .i64 (atR l (en : Int) n)), [pqL nl l n en sh bad]) := FE_at encP_inj _ ⟨nl, l, n, en, sh, bad⟩
def GIsR (p : Pq × ByteArray) : Option (V × List (List V)) := some (.x (.bool (isP p.1.l p.1.n p.2)), [pqV p.1])
theorem isR_eq (s : ByteArray) : FE encPS GIsR [.bx (pqL nl l n en sh bad), .x (.string s)] = some (.x (.bool (isP l n s)), [pqL nl l n en sh bad]) := FE_at encPS_inj _ (⟨nl, l, n, en, sh, bad⟩, s)
def kindI (l : List Tk) (n : Nat) (k : Int) : Bool := match l[n]? with
  | some t => decide ((t.1 : Int) = k)
  | none => false
def GKindR (p : Pq × Int) : Option (V × List (List V)) := some (.x (.bool (kindI p.1.l p.1.n p.2)), [pqV p.1])
theorem kindR_eq (k : Int) : FE encPI GKindR [.bx (pqL nl l n en sh bad), .x (.int .i64 k)] = some (.x (.bool (kindI l n k)), [pqL nl l n en sh bad]) := FE_at encPI_inj _ (⟨nl, l, n, en, sh, bad⟩, k)
def badN (bad a : Int) : Int := bif decide (bad < 0) then a else bad
def GFailR (p : Pq × Int) : Option (V × List (List V)) := some (nodeV zNd, [pqL p.1.nl p.1.l p.1.n p.1.en p.1.sh (badN p.1.bad p.2)])
theorem failR_eq (a : Int) : FE encPI GFailR [.bx (pqL nl l n en sh (-1)), .x (.int .i64 a)] = some (nodeV zNd, [pqL nl l n en sh a]) := FE_at encPI_inj _ (⟨nl, l, n, en, sh, -1⟩, a)
end
set_option maxRecDepth 100000 in
theorem atR_fun : FunPV 31 (FE encP GAtR) := by
  refine fun_of_runP (E := envP [] (fun _ => false) []) (k := 1) (envOK_P _ _ _ trivial trivial) (fun _ _ => rfl) (by kernel_rfl) Tryz.func31 rfl (fun a w => Tryz.call31 a w) Tryz.ntmps31 (by kernel_rfl) (by decide) (by decide) ?_
  intro us r outs hF
  obtain ⟨⟨nl, l, n, en, sh, bad⟩, hus, hG⟩ := FE_out hF
  clear hF
  subst hus
  have hF := hG
  clear hG
  cases hF
  simp only [encP, pqV]
  refine ⟨rfl, ?_⟩
  cases hl : l[n]? with
  | some t =>
    obtain ⟨k, p, s⟩ := t
    have h2 := tks_at hl
    have hi := lt_of_some hl
    have c1 : decide ((n : Int) < (l.length : Int)) = true := decide_eq_true (by omega)
    have c2 : (0 : Int) ≤ (n : Int) := by omega
    have e : atR l (en : Int) n = (p : Int) := by simp [atR, hl]
    simp (decide := true) (maxDischargeDepth := 200) only [go_sem, tks_size, c1, c2, h2, e, Tryz.results31]
  | none =>
    have c1 : decide ((n : Int) < (l.length : Int)) = false := decide_eq_false (by have := List.getElem?_eq_none_iff.1 hl; omega)
    have e : atR l (en : Int) n = (en : Int) := by simp [atR, hl]
    simp (decide := true) (maxDischargeDepth := 200) only [go_sem, tks_size, c1, e, Tryz.results31]

set_option maxRecDepth 100000 in
theorem isR_fun : FunPV 58 (FE encPS GIsR) := by
  refine fun_of_runP (E := envP [] (fun _ => false) []) (k := 2) (envOK_P _ _ _ trivial trivial) (fun _ _ => rfl) (by kernel_rfl) Tryz.func58 rfl (fun a w => Tryz.call58 a w) Tryz.ntmps58 (by kernel_rfl) (by decide) (by decide) ?_
  intro us r outs hF
  obtain ⟨⟨⟨nl, l, n, en, sh, bad⟩, s⟩, hus, hG⟩ := FE_out hF
  clear hF
  subst hus
  have hF := hG
  clear hG
  cases hF
  simp only [encPS, pqV]
  refine ⟨rfl, ?_⟩
  cases hl : l[n]? with
  | some t =>
    obtain ⟨k, p, q⟩ := t
    have h2 := tks_at hl
    have hi := lt_of_some hl
    have c1 : decide ((n : Int) < (l.length : Int)) = true := decide_eq_true (by omega)
    have c2 : (0 : Int) ≤ (n : Int) := by omega
    have e : isP l n s = (decide (k = 5) && decide (B q = s)) := by simp [isP, hl]
    rw [e]
    by_cases hk : k = 5
    · subst hk
      have c3 : decide (((5 : Nat) : Int) = 5) = true := rfl
      have c4 : decide ((5 : Nat) = 5) = true := rfl
      simp (decide := true) (maxDischargeDepth := 200) only [go_sem, tks_size, c1, c2, c3, c4, h2, Tryz.results58]
    · have c3 : decide ((k : Int) = 5) = false := decide_eq_false (by omega)
      have c4 : decide (k = 5) = false := decide_eq_false hk
      simp (decide := true) (maxDischargeDepth := 200) only [go_sem, tks_size, c1, c2, c3, c4, h2, Tryz.results58]
  | none =>
    have c1 : decide ((n : Int) < (l.length : Int)) = false := decide_eq_false (by have := List.getElem?_eq_none_iff.1 hl; omega)
    have e : isP l n s = false := by simp [isP, hl]
    simp (decide := true) (maxDischargeDepth := 200) only [go_sem, tks_size, c1, e, Tryz.results58]

set_option maxRecDepth 100000 in
theorem kindR_fun : FunPV 109 (FE encPI GKindR) := by
  refine fun_of_runP (E := envP [] (fun _ => false) []) (k := 2) (envOK_P _ _ _ trivial trivial) (fun _ _ => rfl) (by kernel_rfl) Tryz.func109 rfl (fun a w => Tryz.call109 a w) Tryz.ntmps109 (by kernel_rfl) (by decide) (by decide) ?_
  intro us r outs hF
  obtain ⟨⟨⟨nl, l, n, en, sh, bad⟩, k0⟩, hus, hG⟩ := FE_out hF
  clear hF
  subst hus
  have hF := hG
  clear hG
  cases hF
  simp only [encPI, pqV]
  refine ⟨rfl, ?_⟩
  cases hl : l[n]? with
  | some t =>
    obtain ⟨k, p, q⟩ := t
    have h2 := tks_at hl
    have hi := lt_of_some hl
    have c1 : decide ((n : Int) < (l.length : Int)) = true := decide_eq_true (by omega)
    have c2 : (0 : Int) ≤ (n : Int) := by omega
    have e : kindI l n k0 = decide ((k : Int) = k0) := by simp [kindI, hl]
    simp (decide := true) (maxDischargeDepth := 200) only [go_sem, tks_size, c1, c2, h2, e, Tryz.results109]
  | none =>
    have c1 : decide ((n : Int) < (l.length : Int)) = false := decide_eq_false (by have := List.getElem?_eq_none_iff.1 hl; omega)
    have e : kindI l n k0 = false := by simp [kindI, hl]
    simp (decide := true) (maxDischargeDepth := 200) only [go_sem, tks_size, c1, e, Tryz.results109]

set_option maxRecDepth 100000 in
theorem failR_fun : FunPV 30 (FE encPI GFailR) := by
  refine fun_of_runP (E := envP [] (fun _ => false) []) (k := 2) (envOK_P _ _ _ trivial trivial) (fun _ _ => rfl) (by kernel_rfl) Tryz.func30 rfl (fun a w => Tryz.call30 a w) Tryz.ntmps30 (by kernel_rfl) (by decide) (by decide) ?_
  intro us r outs hF
  obtain ⟨⟨⟨nl, l, n, en, sh, bad⟩, a⟩, hus, hG⟩ := FE_out hF
  clear hF
  subst hus
  have hF := hG
  clear hG
  cases hF
  simp only [encPI, pqV]
  refine ⟨rfl, ?_⟩
  cases hb : decide (bad < 0)
  · have e : badN bad a = bad := by simp only [badN, hb, cond_false]
    rw [e]
    simp (decide := true) (maxDischargeDepth := 200) only [go_sem, hb, nodeV_leaf, Tryz.results30]
  · have e : badN bad a = a := by simp only [badN, hb, cond_true]
    rw [e]
    simp (decide := true) (maxDischargeDepth := 200) only [go_sem, hb, nodeV_leaf, Tryz.results30]

/-- What is told, let call itself n deep. -/
def GU (m : Nat) (u : U) (p : Pq) : Option (V × List (List V)) := if p.bad = -1 ∧ p.l.length ≤ 1000 then match rF p.l p.en p.sh m u p.n with
  | none => none
  | some q => some (nodeV q.1, [pqL p.nl p.l q.2.1 p.en p.sh q.2.2]) else none
theorem gu_eq {nl : Bool} {l : List Tk} {n en : Nat} {sh : ByteArray} (h1 : l.length ≤ 1000) {m : Nat} {u : U} {a : Nd} {i : Nat} {y : Int} (h : rF l en sh m u n = some (a, i, y)) : FE encP (GU m u) [.bx (pqL nl l n en sh (-1))] = some (nodeV a, [pqL nl l i en sh y]) := by
  refine (FE_at encP_inj _ ⟨nl, l, n, en, sh, -1⟩).trans ?_
  simp only [GU, h]
  rw [if_pos ⟨trivial, h1⟩]
theorem gu_out {nl : Bool} {l : List Tk} {n en : Nat} {sh : ByteArray} {bad : Int} {m : Nat} {u : U} {r : V} {outs : List (List V)} (h : GU m u ⟨nl, l, n, en, sh, bad⟩ = some (r, outs)) : bad = -1 ∧ l.length ≤ 1000 ∧ ∃ a i y, rF l en sh m u n = some (a, i, y) ∧ r = nodeV a ∧ outs = [pqL nl l i en sh y] := by
  obtain ⟨⟨h1, h2⟩, h⟩ := ite_some h
  cases hp : rF l en sh m u n with
  | none => simp only [hp] at h; cases h
  | some q => simp only [hp] at h; cases h; exact ⟨h1, h2, _, _, _, rfl, rfl, rfl⟩
/-- Pairs: with the rank. -/
def encPR (p : Pq × Nat) : List V := [.bx (pqV p.1), .x (.int .i64 (p.2 : Int))]
theorem encPR_inj (p q : Pq × Nat) (e : encPR p = encPR q) : p = q := by
  obtain ⟨p1, p2⟩ := p
  obtain ⟨q1, q2⟩ := q
  simp only [encPR, List.cons.injEq, V.bx.injEq, V.x.injEq, Value.int.injEq, true_and, and_true] at e
  obtain rfl : p2 = q2 := by omega
  rw [pqV_inj _ _ e.1]
def GPair (m : Nat) (p : Pq × Nat) : Option (V × List (List V)) := GU m (.pair p.2) p.1
theorem gpr_eq {nl : Bool} {l : List Tk} {n en r : Nat} {sh : ByteArray} (h1 : l.length ≤ 1000) {m : Nat} {a : Nd} {i : Nat} {y : Int} (h : rF l en sh m (.pair r) n = some (a, i, y)) : FE encPR (GPair m) [.bx (pqL nl l n en sh (-1)), .x (.int .i64 (r : Int))] = some (nodeV a, [pqL nl l i en sh y]) := by
  refine (FE_at encPR_inj _ (⟨nl, l, n, en, sh, -1⟩, r)).trans ?_
  simp only [GPair, GU, h]
  rw [if_pos ⟨trivial, h1⟩]
theorem gpr0_eq {nl : Bool} {l : List Tk} {n en : Nat} {sh : ByteArray} (h1 : l.length ≤ 1000) {m : Nat} {a : Nd} {i : Nat} {y : Int} (h : rF l en sh m (.pair 0) n = some (a, i, y)) : FE encPR (GPair m) [.bx (pqL nl l n en sh (-1)), .x (.int .i64 0)] = some (nodeV a, [pqL nl l i en sh y]) := gpr_eq (r := 0) h1 h
/-- A word: with its token, which is next. -/
def encPT (p : Pq × Tk) : List V := [.bx (pqV p.1), tokV p.2]
theorem encPT_inj (p q : Pq × Tk) (e : encPT p = encPT q) : p = q := by
  obtain ⟨p1, p2⟩ := p
  obtain ⟨q1, q2⟩ := q
  simp only [encPT, List.cons.injEq, V.bx.injEq, and_true] at e
  rw [pqV_inj _ _ e.1, tokV_inj _ _ e.2]
def GWord (m : Nat) (p : Pq × Tk) : Option (V × List (List V)) := if p.1.l[p.1.n]? = some p.2 then GU m .word p.1 else none
theorem gwd_eq {nl : Bool} {l : List Tk} {n en k p : Nat} {s : List UInt8} {sh : ByteArray} (h1 : l.length ≤ 1000) (ht : l[n]? = some (k, p, s)) {m : Nat} {a : Nd} {i : Nat} {y : Int} (h : rF l en sh m .word n = some (a, i, y)) : FE encPT (GWord m) [.bx (pqL nl l n en sh (-1)), .agg [.x (.int .i64 (k : Int)), .x (.int .i64 (p : Int)), .x (.string (B s))]] = some (nodeV a, [pqL nl l i en sh y]) := by
  refine (FE_at encPT_inj _ (⟨nl, l, n, en, sh, -1⟩, (k, p, s))).trans ?_
  simp only [GWord, GU, h]
  rw [if_pos ht, if_pos ⟨trivial, h1⟩]
def GCallR (m : Nat) (p : Pq × ByteArray) : Option (V × List (List V)) := if p.1.n ≤ 1000 then GU m (.call p.2) p.1 else none
theorem gcl_eq {nl : Bool} {l : List Tk} {n en : Nat} {s : ByteArray} {sh : ByteArray} (h1 : l.length ≤ 1000) (hn : n ≤ 1000) {m : Nat} {a : Nd} {i : Nat} {y : Int} (h : rF l en sh m (.call s) n = some (a, i, y)) : FE encPS (GCallR m) [.bx (pqL nl l n en sh (-1)), .x (.string s)] = some (nodeV a, [pqL nl l i en sh y]) := by
  refine (FE_at encPS_inj _ (⟨nl, l, n, en, sh, -1⟩, s)).trans ?_
  simp only [GCallR, GU, h]
  rw [if_pos hn, if_pos ⟨trivial, h1⟩]
def GRefR (p : Pq) : Option (V × List (List V)) := if p.bad = -1 ∧ p.l.length ≤ 1000 then match refR p.l p.sh p.n with
  | none => none
  | some q => some (nodeV q.1, [pqL p.nl p.l q.2.1 p.en p.sh q.2.2]) else none
theorem grf_eq {nl : Bool} {l : List Tk} {n en : Nat} {sh : ByteArray} (h1 : l.length ≤ 1000) {a : Nd} {i : Nat} {y : Int} (h : refR l sh n = some (a, i, y)) : FE encP GRefR [.bx (pqL nl l n en sh (-1))] = some (nodeV a, [pqL nl l i en sh y]) := by
  refine (FE_at encP_inj _ ⟨nl, l, n, en, sh, -1⟩).trans ?_
  simp only [GRefR, h]
  rw [if_pos ⟨trivial, h1⟩]
end Go.Proofs.YteibnmlfipkmeaaGreatDoor

/- The reference's reader: pairs and what has a sign ahead. -/
namespace Go.Proofs.YteibnmlfipkmeaaGreatDoor
open Go Go.RowKit
set_option linter.unusedSimpArgs false
theorem ranks_at {r : Nat} (h : r < 4) : ([rowS (ranksP 0), rowS (ranksP 1), rowS (ranksP 2), rowS (ranksP 3)] : List V)[((r : Nat) : Int).toNat]? = some (.sl false 1 ((ranksP r).map fun s => V.x (.string s)) none) := by
  rcases (show r = 0 ∨ r = 1 ∨ r = 2 ∨ r = 3 by omega) with rfl | rfl | rfl | rfl <;> rfl
theorem ranks_few (r : Nat) : (ranksP r).length ≤ 6 := by
  rcases r with _ | _ | _ | _ | r <;> simp [ranksP]
theorem op_at {l : List ByteArray} {j : Nat} {o : ByteArray} (h : l[j]? = some o) : (l.map fun s => V.x (.string s))[((j : Nat) : Int).toNat]? = some (.x (.string o)) := by
  rw [toNat_cast, List.getElem?_map, h]
  rfl
theorem lastOp_snoc (L : List Tk) (i : Nat) (l : List ByteArray) (o : ByteArray) : lastOp L i (l ++ [o]) = if isP L i o = true then o else lastOp L i l := by
  unfold lastOp
  rw [List.foldl_append]
  rfl
theorem isP_none {L : List Tk} {i : Nat} (h : L.length ≤ i) (s : ByteArray) : isP L i s = false := by
  unfold isP
  rw [List.getElem?_eq_none h]
theorem lastOp_none {L : List Tk} {i : Nat} (h : L.length ≤ i) (ops : List ByteArray) : lastOp L i ops = ⟨#[]⟩ := by
  unfold lastOp
  have key : ∀ (ops : List ByteArray) (s : ByteArray), ops.foldl (fun s o => if isP L i o = true then o else s) s = s := by
    intro ops
    induction ops with
    | nil => intro s; rfl
    | cons o ops ih =>
      intro s
      rw [List.foldl_cons, isP_none h, if_neg (by decide)]
      exact ih s
  exact key ops _
theorem lastOp_lt {L : List Tk} {i : Nat} {ops : List ByteArray} (h : lastOp L i ops ≠ ⟨#[]⟩) : i < L.length := by
  rcases Nat.lt_or_ge i L.length with h' | h'
  · exact h'
  · exact absurd (lastOp_none h' ops) h
theorem isP_lt {L : List Tk} {i : Nat} {s : ByteArray} (h : isP L i s = true) : i < L.length := by
  rcases Nat.lt_or_ge i L.length with h' | h'
  · exact h'
  · rw [isP_none h'] at h; cases h
theorem take_snocB {l : List ByteArray} {j : Nat} {o : ByteArray} (h : l[j]? = some o) : l.take (j + 1) = l.take j ++ [o] := by
  rw [List.take_add_one, h]
  rfl
set_option maxHeartbeats 4000000 in
set_option maxRecDepth 100000 in
theorem pair_step (m : Nat) (hp : FunPV 29 (FE encPR (GPair m))) (hu : FunPV 56 (FE encP (GU m .unary))) : FunPV 29 (FE encPR (GPair (m + 1))) := by
  refine fun_of_runP (E := envP [(57, FRanks)] (fun _ => false) [(29, (FE encPR (GPair m))), (56, (FE encP (GU m .unary))), (58, (FE encPS GIsR))]) (k := 2) (envOK_P _ _ _ ⟨ranks_fun, trivial⟩ ⟨hp, hu, isR_fun, trivial⟩) (fun _ _ => rfl) (by kernel_rfl) Tryz.func29 rfl (fun a w => Tryz.call29 a w) Tryz.ntmps29 (by kernel_rfl) (by decide) (by decide) ?_
  intro us r outs hF
  obtain ⟨⟨⟨nl, l, n, en, sh, bad⟩, r⟩, hus, hG⟩ := FE_out hF
  clear hF
  subst hus
  have hF := hG
  clear hG
  have hF : GU (m + 1) (.pair r) ⟨nl, l, n, en, sh, bad⟩ = _ := hF
  obtain ⟨rfl, h1000, a, i, y, hres, rfl, rfl⟩ := gu_out hF
  clear hF
  simp only [encPR, pqV]
  refine ⟨rfl, ?_⟩
  have hs : stepR l (en : Int) sh m (rF l (en : Int) sh m) (.pair r) n = some (a, i, y) := hres
  clear hres
  simp only [stepR] at hs
  by_cases h4 : r = 4
  · subst h4
    rw [if_pos rfl] at hs
    have c1 : decide (((4 : Nat) : Int) = 4) = true := rfl
    have e1 := gu_eq (nl := nl) h1000 hs
    obtain ⟨ka, opa, nma, vka, vna, vsa, csa, cca, cra, tsa, tca, tra, nla, sza, esa, ha'⟩ := nd_is a
    simp (decide := true) (maxDischargeDepth := 200) only [go_sem, e1, ha', c1, Tryz.results29]
  · rw [if_neg h4] at hs
    have c1 : decide ((r : Int) = 4) = false := decide_eq_false (by omega)
    by_cases h5 : 4 < r
    · rw [if_pos h5] at hs; cases hs
    · rw [if_neg h5] at hs
      have hr4 : r < 4 := by omega
      split at hs
      case h_2 => cases hs
      rename_i b i1 y1 hb
      have c2 := count_up (i := r) (by omega)
      have e1 := gpr_eq (nl := nl) (r := r + 1) h1000 hb
      obtain ⟨kb, opb, nmb, vkb, vnb, vsb, csb, ccb, crb, tsb, tcb, trb, nlb, szb, esb, hb'⟩ := nd_is b
      simp (decide := true) (maxDischargeDepth := 200) only [go_sem, e1, hb', c1, c2, Tryz.results29]
      refine loop_of (X := {p : Nat × Nd × Nat × Int // loopR l (rF l (en : Int) sh m (.pair (r + 1))) r p.1 p.2.1 p.2.2.1 p.2.2.2 = some (a, i, y)})
        (fun p => [(0, .ptr 1000 0), (1, .x (.int .i64 (r : Int))), (4, .ptr 4 0), (5, .ptr 5 0)])
        (fun p => [(1000, pqL nl l p.1.2.2.1 en sh p.1.2.2.2), (4, [.x (.int .i64 0), .x (.string ⟨#[]⟩), .x (.string ⟨#[]⟩), .x (.int .i64 0), .x (.int .i64 0), .x (.string ⟨#[]⟩), .x (.string ⟨#[]⟩), .x (.int .i64 0), .x (.int .i64 0), .x (.string ⟨#[]⟩), .x (.int .i64 0), .x (.int .i64 0), .sl true 0 [] none]), (5, (nodeV p.1.2.1).cells)])
        (fun p => p.1.1) ⟨(m, b, i1, y1), hs⟩ (by simp (decide := true) only [go_sem, hb'] <;> (repeat' first | rfl | constructor)) (by simp (decide := true) only [go_sem, hb'] <;> (repeat' first | rfl | constructor)) (fun ⟨⟨k, d, j, z⟩, hk0⟩ => ?_)
      clear hs hb e1 hb' kb opb nmb vkb vnb vsb csb ccb crb tsb tcb trb nlb szb esb
      have hk : loopR l (rF l (en : Int) sh m (.pair (r + 1))) r k d j z = some (a, i, y) := hk0
      obtain ⟨kd, opd, nmd, vkd, vnd, vsd, csd, ccd, crd, tsd, tcd, trd, nld, szd, esd, hd'⟩ := nd_is d
      cases k with
      | zero => cases hk
      | succ k =>
        simp only [loopR] at hk
        by_cases hz : z = -1
        · rw [if_pos hz] at hk
          subst hz
          have c3 : decide ((-1 : Int) < 0) = true := rfl
          have c4 : (0 : Int) ≤ (r : Int) := by omega
          have e2 := ranks_at hr4
          simp (decide := true) (maxDischargeDepth := 200) only [go_sem, hd', c3, c4, e2, FRanks, Tryz.results29]
          refine loop_of (X := {p : Nat // p ≤ (ranksP r).length})
            (fun p => [(0, .ptr 1000 0), (1, .x (.int .i64 (r : Int))), (4, .ptr 4 0), (5, .ptr 5 0), (6, .sl false 1 ((ranksP r).map fun s => V.x (.string s)) none), (7, .x (.string (lastOp l j ((ranksP r).take p.1)))), (8, .x (.int .i64 (p.1 : Int)))])
            (fun p => [(1000, pqL nl l j en sh (-1)), (4, [.x (.int .i64 0), .x (.string ⟨#[]⟩), .x (.string ⟨#[]⟩), .x (.int .i64 0), .x (.int .i64 0), .x (.string ⟨#[]⟩), .x (.string ⟨#[]⟩), .x (.int .i64 0), .x (.int .i64 0), .x (.string ⟨#[]⟩), .x (.int .i64 0), .x (.int .i64 0), .sl true 0 [] none]), (5, (nodeV d).cells)])
            (fun p => (ranksP r).length - p.1) ⟨0, Nat.zero_le _⟩ (by simp (decide := true) only [go_sem, hd'] <;> (repeat' first | rfl | constructor)) (by simp (decide := true) only [go_sem, hd'] <;> (repeat' first | rfl | constructor)) (fun ⟨q, hq⟩ => ?_)
          have hfew := ranks_few r
          by_cases hlt : q < (ranksP r).length
          · obtain ⟨o, ho⟩ : ∃ o, (ranksP r)[q]? = some o := ⟨_, List.getElem?_eq_getElem hlt⟩
            have d1 : decide ((q : Int) < (((ranksP r).length : Nat) : Int)) = true := decide_eq_true (by omega)
            have d2 : (0 : Int) ≤ (q : Int) := by omega
            have d3 := op_at ho
            have d4 := count_up (i := q) (by omega)
            have d5 := lastOp_snoc l j ((ranksP r).take q) o
            rw [← take_snocB ho] at d5
            cases hi : isP l j o with
            | true =>
              rw [hi, if_pos rfl] at d5
              simp (decide := true) (maxDischargeDepth := 200) only [go_sem, hd', List.length_map, d1, d2, d3, d4, isR_eq, hi, Tryz.results29]
              refine ⟨⟨q + 1, by omega⟩, ?_, ?_, by simp only; omega⟩ <;> simp (decide := true) only [go_sem, d5, hd']
            | false =>
              rw [hi, if_neg (by decide)] at d5
              simp (decide := true) (maxDischargeDepth := 200) only [go_sem, hd', List.length_map, d1, d2, d3, d4, isR_eq, hi, Tryz.results29]
              refine ⟨⟨q + 1, by omega⟩, ?_, ?_, by simp only; omega⟩ <;> simp (decide := true) only [go_sem, d5, hd']
          · have d1 : decide ((q : Int) < (((ranksP r).length : Nat) : Int)) = false := decide_eq_false (by omega)
            have ht : (ranksP r).take q = ranksP r := List.take_of_length_le (by omega)
            by_cases hop : lastOp l j (ranksP r) = ⟨#[]⟩
            · rw [if_pos hop] at hk
              obtain ⟨rfl, rfl, rfl⟩ := inj3 hk
              have d2 : decide (lastOp l j (ranksP r) = ⟨#[]⟩) = true := decide_eq_true hop
              simp (decide := true) (maxDischargeDepth := 200) only [go_sem, hd', List.length_map, d1, ht, d2, Tryz.results29]
            · rw [if_neg hop] at hk
              have d2 : decide (lastOp l j (ranksP r) = ⟨#[]⟩) = false := decide_eq_false hop
              split at hk
              case h_2 => cases hk
              rename_i f j2 z2 hf
              have hj := lastOp_lt hop
              have d3 := count_up (i := j) (by omega)
              have e3 := gpr_eq (nl := nl) (r := r + 1) h1000 hf
              obtain ⟨kf, opf, nmf, vkf, vnf, vsf, csf, ccf, crf, tsf, tcf, trf, nlf, szf, esf, hf'⟩ := nd_is f
              simp (decide := true) (maxDischargeDepth := 200) only [go_sem, hd', List.length_map, d1, ht, d2, d3, c2, e3, hf', nodeV_mk, Tryz.results29]
              refine ⟨⟨(k, pairNd (lastOp l j (ranksP r)) d f, j2, z2), hk⟩, ?_, ?_, by simp only; omega⟩ <;> simp (decide := true) only [go_sem, hd', hf', nodeV_mk]
        · rw [if_neg hz] at hk
          by_cases hz0 : z < 0
          · rw [if_pos hz0] at hk; cases hk
          rw [if_neg hz0] at hk
          obtain ⟨rfl, rfl, rfl⟩ := inj3 hk
          have c3 : decide (z < 0) = false := decide_eq_false hz0
          simp (decide := true) (maxDischargeDepth := 200) only [go_sem, hd', c3, Tryz.results29]

end Go.Proofs.YteibnmlfipkmeaaGreatDoor
