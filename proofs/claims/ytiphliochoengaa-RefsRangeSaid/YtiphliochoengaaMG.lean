/- What a node itself reads: refs.rangeOf. -/
import Derived.Test.YtiphliochoengaaMT
import Derived.Test.YtiphliochoengaaML
import Derived.Test.YtiphliochoengaaMI
namespace Go.Proofs.Ytiphliochoengaa
open Go Go.RowKit
set_option linter.unusedSimpArgs false
/-- A range: from a cell to a cell. -/
abbrev R2 := C3 × C3
def rgV (q : R2) : V := .agg [.x (.string q.1.1), .x (.int .i64 q.1.2.1), .x (.int .i64 q.1.2.2), .x (.string q.2.1), .x (.int .i64 q.2.2.1), .x (.int .i64 q.2.2.2)]
def rg (h : Hd) : R2 := if h.k = 2 then ((h.cs, h.cc, h.cr), (h.cs, h.cc, h.cr)) else if h.k = 3 then ((h.cs, h.cc, h.cr), (h.ts, h.tc, h.tr)) else ((⟨#[]⟩, 0, 0), (⟨#[]⟩, 0, 0))
def okQ (q : R2) : Bool := okA q.1.1 q.1.2.1 q.1.2.2 q.2.1 q.2.2.1 q.2.2.2 && decide (areaN q.1.2.1 q.1.2.2 q.2.2.1 q.2.2.2 ≤ 400)
def GRange (nd : Nd) : Option V := some (.tup [rgV (rg nd.hd), .x (.bool (okQ (rg nd.hd)))])
theorem okA_none : okA ⟨#[]⟩ 0 0 ⟨#[]⟩ 0 0 = false := by decide
set_option maxHeartbeats 4000000 in
set_option maxRecDepth 100000 in
theorem rangeOf_fun : FunV 35 (FE encN GRange) := by
  refine fun_of_run (E := envOf [(40, FArea)]) (k := 1) (envOK_of _ ⟨area_fun, trivial⟩) (by kernel_rfl) Try.func35 rfl (fun a w => Try.call35 a w) Try.ntmps35 (by kernel_rfl) (by decide) (by decide) ?_
  intro us r hF hdat
  obtain ⟨nd, hus, hG⟩ := FE_out hF
  clear hF
  subst hus
  have hF := hG
  clear hG
  cases hF
  clear hdat
  simp only [encN]
  obtain ⟨k, op, nm, vk, vn, vs, cs, cc, cr, ts, tc, tr, l, nl, sz, hh, hl, hf, hs⟩ := node_cases nd
  rw [hf, hh]
  refine ⟨rfl, ?_⟩
  simp only [rgV, okQ]
  by_cases h2 : k = 2
  · subst h2
    have e : rg ⟨2, op, nm, vk, vn, vs, cs, cc, cr, ts, tc, tr⟩ = ((cs, cc, cr), (cs, cc, cr)) := rfl
    simp only [e]
    cases ho : okA cs cc cr cs cc cr
    · have ha := areaV_no ho
      simp (decide := true) (maxDischargeDepth := 200) only [go_sem, List.nil_append, FArea, ha, ho, Bool.false_and, Try.results35]
    · have ha := areaV_yes ho
      cases hq : decide (areaN cc cr cc cr ≤ 400)
      · simp (decide := true) (maxDischargeDepth := 200) only [go_sem, List.nil_append, FArea, ha, ho, hq, Bool.true_and, Try.results35]
      · simp (decide := true) (maxDischargeDepth := 200) only [go_sem, List.nil_append, FArea, ha, ho, hq, Bool.true_and, Try.results35]
  · have d2 := decide_eq_false h2
    by_cases h3 : k = 3
    · subst h3
      have e : rg ⟨3, op, nm, vk, vn, vs, cs, cc, cr, ts, tc, tr⟩ = ((cs, cc, cr), (ts, tc, tr)) := rfl
      simp only [e]
      cases ho : okA cs cc cr ts tc tr
      · have ha := areaV_no ho
        simp (decide := true) (maxDischargeDepth := 200) only [go_sem, List.nil_append, FArea, ha, ho, Bool.false_and, Try.results35]
      · have ha := areaV_yes ho
        cases hq : decide (areaN cc cr tc tr ≤ 400)
        · simp (decide := true) (maxDischargeDepth := 200) only [go_sem, List.nil_append, FArea, ha, ho, hq, Bool.true_and, Try.results35]
        · simp (decide := true) (maxDischargeDepth := 200) only [go_sem, List.nil_append, FArea, ha, ho, hq, Bool.true_and, Try.results35]
    · have d3 := decide_eq_false h3
      have e : rg ⟨k, op, nm, vk, vn, vs, cs, cc, cr, ts, tc, tr⟩ = ((⟨#[]⟩, 0, 0), (⟨#[]⟩, 0, 0)) := by unfold rg; rw [if_neg h2, if_neg h3]
      have ha := areaV_no okA_none
      simp only [e]
      simp (decide := true) (maxDischargeDepth := 200) only [go_sem, FArea, ha, okA_none, d2, d3, Bool.false_and, Try.results35]

end Go.Proofs.Ytiphliochoengaa

/- The iterator refs.ranges: what a node and all its kids read, one by one. -/
namespace Go.Proofs.Ytiphliochoengaa
open Go Go.RowKit
set_option linter.unusedSimpArgs false
def selfQ (h : Hd) : List R2 := if okQ (rg h) = true then [rg h] else []
mutual
/-- What a node and all its kids read. -/
def allN : Nd → List R2
  | .leaf h => selfQ h
  | .mk h l => selfQ h ++ allL l
def allL : List Nd → List R2
  | [] => []
  | n :: l => allN n ++ allL l
end
theorem allN_eq (a : Nd) : allN a = selfQ a.hd ++ allL a.ks := by
  cases a <;> simp only [allN, allL, Nd.hd, Nd.ks, List.append_nil]
/-- A list of nodes, as it lies in memory. -/
abbrev Lv := Bool × Nat × List Nd
def lvV (e : Lv) : V := .sl e.1 e.2.1 (e.2.2.map nodeV) none
def lvC : List Lv → Nat
  | [] => 0
  | e :: r => cntL e.2.2 + lvC r
/-- What is still open holds what has not yet come. -/
structure OutI (nd : Nd) (pre : List (List V)) (r : List Lv) : Prop where
  ok : ∀ e ∈ r, e.2.2 ≠ [] → e.2.1 = 13
  small : 2 * lvC r + r.length ≤ 801
  sub : ∀ e ∈ r, ∀ q ∈ allL e.2.2, q ∈ allN nd
  full : ∀ q ∈ allN nd, [rgV q] ∈ pre ∨ ∃ e ∈ r, q ∈ allL e.2.2
  come : ∀ x ∈ pre, ∃ q ∈ allN nd, x = [rgV q]
/-- In the midst of a list of nodes. -/
structure InI (nd : Nd) (lv : List Nd) (M : Nat) (pre : List (List V)) (r : List Lv) (i : Nat) : Prop where
  ok : ∀ e ∈ r, e.2.2 ≠ [] → e.2.1 = 13
  small : 2 * lvC r + r.length + 2 * cntL (lv.drop i) + i + 1 ≤ M
  sub : ∀ e ∈ r, ∀ q ∈ allL e.2.2, q ∈ allN nd
  subL : ∀ q ∈ allL lv, q ∈ allN nd
  full : ∀ q ∈ allN nd, [rgV q] ∈ pre ∨ (∃ e ∈ r, q ∈ allL e.2.2) ∨ q ∈ allL (lv.drop i)
  come : ∀ x ∈ pre, ∃ q ∈ allN nd, x = [rgV q]
def OkQ (nd : Nd) (pre : List (List V)) : Prop := ∀ x ∈ pre, ∃ q ∈ allN nd, x = [rgV q]
def DoneQ (nd : Nd) (xs : List (List V)) : Prop := OkQ nd xs ∧ ∀ q ∈ allN nd, [rgV q] ∈ xs
theorem allL_mem {l : List Nd} {n : Nd} (h : n ∈ l) {q : R2} (hq : q ∈ allN n) : q ∈ allL l := by
  induction l with
  | nil => cases h
  | cons a l ih =>
    rw [allL, List.mem_append]
    rcases List.mem_cons.1 h with rfl | h
    · exact .inl hq
    · exact .inr (ih h)
theorem OutI.into {nd : Nd} {pre : List (List V)} {e : Lv} {r : List Lv} (h : OutI nd pre (e :: r)) : InI nd e.2.2 (2 * lvC (e :: r) + (e :: r).length) pre r 0 :=
  ⟨fun x hx => h.ok x (List.mem_cons_of_mem _ hx), by simp only [lvC, List.drop_zero, List.length_cons]; omega, fun x hx => h.sub x (List.mem_cons_of_mem _ hx), h.sub e (List.mem_cons_self ..), fun q hq => by
    rcases h.full q hq with h1 | ⟨x, hx, h1⟩
    · exact .inl h1
    · rcases List.mem_cons.1 hx with rfl | hx
      · exact .inr (.inr h1)
      · exact .inr (.inl ⟨x, hx, h1⟩), h.come⟩
theorem drop_at {l : List Nd} {i : Nat} {c : Nd} (h : l[i]? = some c) : l.drop i = c :: l.drop (i + 1) := by
  obtain ⟨hi, rfl⟩ := List.getElem?_eq_some_iff.1 h
  exact List.drop_eq_getElem_cons hi
theorem InI.next {nd : Nd} {lv : List Nd} {M : Nat} {pre : List (List V)} {r : List Lv} {i : Nat} (h : InI nd lv M pre r i) {c : Nd} (hc : lv[i]? = some c) {nl : Bool} {sz : Nat} {l : List Nd} (hl : c.ks = l) (hs : l ≠ [] → sz = 13) :
    (okQ (rg c.hd) = false → InI nd lv M pre ((nl, sz, l) :: r) (i + 1)) ∧ (okQ (rg c.hd) = true → InI nd lv M (pre ++ [[rgV (rg c.hd)]]) ((nl, sz, l) :: r) (i + 1) ∧ rg c.hd ∈ allN nd) := by
  have hd := drop_at hc
  have hm : c ∈ lv := List.mem_of_getElem? hc
  have hsmall : 2 * lvC ((nl, sz, l) :: r) + ((nl, sz, l) :: r).length + 2 * cntL (lv.drop (i + 1)) + (i + 1) + 1 ≤ M := by
    have h1 := h.small
    have h2 := cnt_eq c
    rw [hd] at h1
    rw [hl] at h2
    simp only [lvC, List.length_cons, cntL] at h1 ⊢
    omega
  have hself : ∀ q ∈ allN c, q ∈ selfQ c.hd ∨ q ∈ allL l := fun q hq => by rw [allN_eq, List.mem_append, hl] at hq; exact hq
  have hin : ∀ q ∈ allN c, q ∈ allN nd := fun q hq => h.subL q (allL_mem hm hq)
  have hok : ∀ e ∈ (nl, sz, l) :: r, e.2.2 ≠ [] → e.2.1 = 13 := fun e he => by
    rcases List.mem_cons.1 he with rfl | he
    · exact hs
    · exact h.ok e he
  have hsub : ∀ e ∈ (nl, sz, l) :: r, ∀ q ∈ allL e.2.2, q ∈ allN nd := fun e he q hq => by
    rcases List.mem_cons.1 he with rfl | he
    · exact hin q (by rw [allN_eq, List.mem_append, hl]; exact .inr hq)
    · exact h.sub e he q hq
  refine ⟨fun hq => ⟨hok, hsmall, hsub, h.subL, fun q hq1 => ?_, h.come⟩, fun hq => ⟨⟨hok, hsmall, hsub, h.subL, fun q hq1 => ?_, fun x hx => ?_⟩, ?_⟩⟩
  · rcases h.full q hq1 with h1 | ⟨e, he, h1⟩ | h1
    · exact .inl h1
    · exact .inr (.inl ⟨e, List.mem_cons_of_mem _ he, h1⟩)
    · rw [hd, allL, List.mem_append] at h1
      rcases h1 with h1 | h1
      · rcases hself q h1 with h2 | h2
        · simp [selfQ, hq] at h2
        · exact .inr (.inl ⟨_, List.mem_cons_self .., h2⟩)
      · exact .inr (.inr h1)
  · rcases h.full q hq1 with h1 | ⟨e, he, h1⟩ | h1
    · exact .inl (List.mem_append_left _ h1)
    · exact .inr (.inl ⟨e, List.mem_cons_of_mem _ he, h1⟩)
    · rw [hd, allL, List.mem_append] at h1
      rcases h1 with h1 | h1
      · rcases hself q h1 with h2 | h2
        · simp only [selfQ, hq, if_true, List.mem_singleton] at h2
          subst h2
          exact .inl (by simp)
        · exact .inr (.inl ⟨_, List.mem_cons_self .., h2⟩)
      · exact .inr (.inr h1)
  · rcases List.mem_append.1 hx with hx | hx
    · exact h.come x hx
    · obtain rfl := List.mem_singleton.1 hx
      exact ⟨_, hin _ (by rw [allN_eq, List.mem_append]; left; simp [selfQ, hq]), rfl⟩
  · exact hin _ (by rw [allN_eq, List.mem_append]; left; simp [selfQ, hq])
theorem InI.out {nd : Nd} {lv : List Nd} {M : Nat} {pre : List (List V)} {r : List Lv} (h : InI nd lv M pre r lv.length) (hM : M ≤ 801) : OutI nd pre r ∧ 2 * lvC r + r.length < M := by
  have h1 := h.small
  refine ⟨⟨h.ok, by omega, h.sub, fun q hq => ?_, h.come⟩, by omega⟩
  rcases h.full q hq with h1 | h1 | h1
  · exact .inl h1
  · exact .inr h1
  · rw [List.drop_length] at h1; cases h1
theorem lv_rev (e : Lv) (r : List Lv) (G : List V) : (e :: r).reverse.map lvV ++ G = r.reverse.map lvV ++ lvV e :: G := by
  simp
theorem lv_len (r : List Lv) : (r.reverse.map lvV).length = r.length := by simp
noncomputable def envRg : Env := envM [(35, FE encN GRange)] (fun d => d == 12)
theorem envRg_ok : EnvOK envRg := envOK_M _ _ ⟨rangeOf_fun, trivial⟩
set_option maxHeartbeats 16000000 in
set_option maxRecDepth 100000 in
theorem ranges_iter (nd : Nd) (h400 : cnt nd ≤ 400) {m : Lim} {w : World} {lb : Array Value} {cs0 : List V} (hnd : nodeV nd = .agg cs0) (hr : RdL m w lb.toList [.ip cs0]) : IterAt (envOf []) (fun _ => False) 34 lb (OkQ nd) (DoneQ nd) m w := by
  refine iter_of (E := envM [(35, FE encN GRange)] (fun d => d == 12)) (n := 50) (us := [.ip cs0]) Try.func34 rfl Try.ntmps34 Try.results34 (by simp) (by decide) hr rfl (fun g => .undef _) ?_
  intro l A Ax a0 O hA hX hy h0 _
  have hE : EnvOK (envM [(35, FE encN GRange)] (fun d => d == 12)) := envRg_ok
  have hm : (envM [(35, FE encN GRange)] (fun d => d == 12)).P.follows .mixedOrders = true := by kernel_rfl
  obtain ⟨k, op, nm, vk, vn, vs, cs, cc, cr, ts, tc, tr, ll, nl, sz, hh, hl, hf, hs⟩ := node_cases nd
  obtain rfl : [.x (.int .i64 k), .x (.string op), .x (.string nm), .x (.int .i64 vk), .x (.int .i64 vn), .x (.string vs), .x (.string cs), .x (.int .i64 cc), .x (.int .i64 cr), .x (.string ts), .x (.int .i64 tc), .x (.int .i64 tr), .sl nl sz (ll.map nodeV) none] = cs0 := V.agg.inj (hf.symm.trans hnd)
  refine wpIn_seq (two_T hE hm (hA []) [(0, .x (.func (.yield l) #[] #[])), (3, .row 12 1 1)] [(12, [.sl false 13 [nodeV nd] none])] (by kernel_rfl) h0 (by rw [hf]; simp (decide := true) (maxDischargeDepth := 200) only [go_sem, Nat.reduceBEq] <;> (repeat' first | rfl | constructor)) ?_)
  intro a1 w1 h1
  refine wpIn_block ?_
  refine wpIn_loopX (X := List Lv × List V × Nat × List (List V)) (fun x a' w' => (x.2.2.1 = 12 ∨ x.2.2.1 = 48) ∧ OutI nd x.2.2.2 x.1 ∧ Two (envM [(35, FE encN GRange)] (fun d => d == 12)) 50 O m w (A x.2.2.2) (stOf [(0, .x (.func (.yield l) #[] #[])), (3, .row x.2.2.1 1 x.1.length)] [(x.2.2.1, x.1.reverse.map lvV ++ x.2.1)]) a' w') (fun x => 2 * lvC x.1 + x.1.length) ([(false, 13, [nd])], [], 12, []) ⟨.inl rfl, ⟨fun e he => ?_, ?_, fun e he => ?_, fun q hq => ?_, fun x hx => by cases hx⟩, ?_⟩ ?_
  · simp at he; subst he; intro _; rfl
  · simp [lvC, cntL]; omega
  · simp at he; subst he; intro q hq; simpa [allL] using hq
  · right; exact ⟨_, List.mem_singleton.2 rfl, by simpa [allL] using hq⟩
  · exact h1
  clear h0 h1 a1 w1
  rintro ⟨r, G, nm0, pre⟩ a w1 ⟨hnm, hI, h1⟩
  simp only at hnm hI h1
  refine wpIn_seq ?_
  cases r with
  | nil =>
    refine two_X hE hm (hA pre) 0 [] [] (by kernel_rfl) h1 (by simp (decide := true) (maxDischargeDepth := 200) only [go_sem, Nat.reduceBEq, List.length_nil, show decide ((0 : Int) < ((0 : Nat) : Int)) = false from rfl] <;> (repeat' first | rfl | constructor)) ?_
    intro a' w' h2
    exact ⟨.inl rfl, .inl ⟨pre, _, ⟨hI.come, fun q hq => by rcases hI.full q hq with h | ⟨e, he, _⟩; exact h; cases he⟩, h2⟩⟩
  | cons e r =>
    obtain ⟨en, ez, lv⟩ := e
    have hB := lv_len r
    have hsm := hI.small
    have hin := hI.into
    have hez := hI.ok (en, ez, lv) (List.mem_cons_self ..)
    simp only at hez
    obtain ⟨mm, hmm⟩ : ∃ mm, mm = r.length := ⟨_, rfl⟩
    have f0 : ((en, ez, lv) :: r).length = mm + 1 := by rw [List.length_cons, hmm]
    rw [lv_rev, f0] at h1
    rw [f0] at hin hsm
    generalize hBe : r.reverse.map lvV = B at hB h1
    rw [← hmm] at hB
    simp only [lvV] at h1
    obtain ⟨M, hM⟩ : ∃ M, M = 2 * lvC ((en, ez, lv) :: r) + (mm + 1) := ⟨_, rfl⟩
    rw [← hM] at hin hsm
    have f1 : decide ((0 : Int) < ((mm + 1 : Nat) : Int)) = true := decide_eq_true (by omega)
    have f2 : bWrap .i64 (((mm + 1 : Nat) : Int) - 1) = ((mm : Nat) : Int) := by rw [bwrap_of (by unfold inR; omega)]; omega
    have f3 : (0 : Int) ≤ ((mm : Nat) : Int) := by omega
    have f4 : ((mm : Nat) : Int) < ((mm + 1 : Nat) : Int) := by omega
    have f4' : ((mm : Nat) : Int) ≤ ((mm + 1 : Nat) : Int) := by omega
    have f5 : Int.toNat ((mm : Nat) : Int) = mm := rfl
    have f6 := mid_get (A := B) (G := G) (x := .sl en ez (lv.map nodeV) none) hB
    refine two_T hE hm (hA pre) [(0, .x (.func (.yield l) #[] #[])), (3, .row nm0 1 (mm + 1))] [(nm0, B ++ .sl en ez (lv.map nodeV) none :: G)] (by kernel_rfl) h1 (by simp (decide := true) (maxDischargeDepth := 200) only [go_sem, Nat.reduceBEq, f1] <;> (repeat' first | rfl | constructor)) ?_
    clear h1 a w1
    intro a w1 h1
    refine wpIn_block ?_
    refine wpIn_seq (two_T hE hm (hA pre) [(0, .x (.func (.yield l) #[] #[])), (3, .row nm0 1 (mm + 1)), (4, .x (.int .i64 ((mm : Nat) : Int)))] [(nm0, B ++ .sl en ez (lv.map nodeV) none :: G)] (by kernel_rfl) h1 (by simp (decide := true) (maxDischargeDepth := 200) only [go_sem, Nat.reduceBEq, f2] <;> (repeat' first | rfl | constructor)) ?_)
    clear h1 a w1
    intro a w1 h1
    refine wpIn_seq (two_T hE hm (hA pre) [(0, .x (.func (.yield l) #[] #[])), (3, .row nm0 1 (mm + 1)), (4, .x (.int .i64 ((mm : Nat) : Int))), (5, .sl en ez (lv.map nodeV) none)] [(nm0, B ++ .sl en ez (lv.map nodeV) none :: G)] (by kernel_rfl) h1 (by simp (decide := true) (maxDischargeDepth := 200) only [go_sem, Nat.reduceBEq, f3, f4, f5, f6, Nat.mul_one] <;> (repeat' first | rfl | constructor)) ?_)
    clear h1 a w1
    intro a w1 h1
    refine wpIn_seq (two_T hE hm (hA pre) [(0, .x (.func (.yield l) #[] #[])), (3, .row nm0 1 mm), (5, .sl en ez (lv.map nodeV) none)] [(nm0, B ++ .sl en ez (lv.map nodeV) none :: G)] (by kernel_rfl) h1 (by simp (decide := true) (maxDischargeDepth := 200) only [go_sem, Nat.reduceBEq, f3, f4', f5] <;> (repeat' first | rfl | constructor)) ?_)
    clear h1 a w1
    intro a w1 h1
    refine wpIn_seq (two_T hE hm (hA pre) [(0, .x (.func (.yield l) #[] #[])), (3, .row nm0 1 mm), (26, .sl en ez (lv.map nodeV) none), (27, .x (.int .i64 (lv.length : Int))), (28, .x (.int .i64 ((0 : Nat) : Int)))] [(nm0, B ++ .sl en ez (lv.map nodeV) none :: G)] (by kernel_rfl) h1 (by simp (decide := true) (maxDischargeDepth := 200) only [go_sem, Nat.reduceBEq, List.length_map] <;> (repeat' first | rfl | constructor)) ?_)
    clear h1 a w1
    intro a w1 h1
    refine wpIn_block ?_
    refine wpIn_loopX (X := Nat × List Lv × List V × Nat × List (List V)) (fun x a' w' => (x.2.2.2.1 = 12 ∨ x.2.2.2.1 = 48) ∧ InI nd lv M x.2.2.2.2 x.2.1 x.1 ∧ x.1 ≤ lv.length ∧ Two (envM [(35, FE encN GRange)] (fun d => d == 12)) 50 O m w (A x.2.2.2.2) (stOf [(0, .x (.func (.yield l) #[] #[])), (3, .row x.2.2.2.1 1 x.2.1.length), (26, .sl en ez (lv.map nodeV) none), (27, .x (.int .i64 (lv.length : Int))), (28, .x (.int .i64 ((x.1 : Nat) : Int)))] [(x.2.2.2.1, x.2.1.reverse.map lvV ++ x.2.2.1)]) a' w') (fun x => lv.length - x.1) (0, r, .sl en ez (lv.map nodeV) none :: G, nm0, pre) ⟨hnm, hin, Nat.zero_le _, ?_⟩ ?_
    · simp only [hBe, ← hmm]; exact h1
    clear h1 a w1
    rintro ⟨i, rr, G2, nm1, pre1⟩ a w1 ⟨hnm1, hI1, hi0, h1⟩
    simp only at hnm1 hI1 hi0 h1
    have hsm1 := hI1.small
    have hB2 := lv_len rr
    obtain ⟨kk, hkk⟩ : ∃ kk, kk = rr.length := ⟨_, rfl⟩
    rw [← hkk] at h1 hsm1 hB2
    generalize hBe2 : rr.reverse.map lvV = B2 at hB2 h1
    by_cases hi : i < lv.length
    · obtain rfl := hez (by intro e; rw [e] at hi; simp at hi)
      obtain ⟨c, hc1, hc2⟩ := kid_at hi
      have c1 : decide ((i : Int) < (lv.length : Int)) = true := decide_eq_true (by omega)
      have c2 : (0 : Int) ≤ (i : Int) := by omega
      have c4 := count_up (i := i) (by omega)
      obtain ⟨k', op', nm', vk', vn', vs', cs', cc', cr', ts', tc', tr', l', nl', sz', hh', hl', hf', hs'⟩ := node_cases c
      have hcc : FE encN GRange [nodeV c] = some (.tup [rgV (rg c.hd), .x (.bool (okQ (rg c.hd)))]) := FE_at encN_inj _ c
      rw [hf'] at hc2 hcc
      obtain ⟨hno, hyes⟩ := hI1.next hc1 (nl := nl') (sz := sz') hl' hs'
      have hpush : ((nl', sz', l') :: rr).reverse.map lvV = B2 ++ [.sl nl' sz' (l'.map nodeV) none] := by rw [← hBe2]; simp [lvV]
      have hk1 : ((nl', sz', l') :: rr).length = kk + 1 := by rw [List.length_cons, hkk]
      have d5 := mid_take (A := B2) (G := G2) hB2
      have hLI : ∀ (a2 : Act) (w2 : World) (pre2 : List (List V)), InI nd lv M pre2 ((nl', sz', l') :: rr) (i + 1) → Two (envM [(35, FE encN GRange)] (fun d => d == 12)) 50 O m w (A pre2) (stOf [(0, .x (.func (.yield l) #[] #[])), (3, .row 48 1 (kk + 1)), (26, .sl en 13 (lv.map nodeV) none), (27, .x (.int .i64 (lv.length : Int))), (28, .x (.int .i64 ((i : Nat) : Int)))] [(48, B2 ++ [.sl nl' sz' (l'.map nodeV) none])]) a2 w2 → ∀ {ops : List Oper} {Q : Exit → Act → World → Prop} {id : Nat}, run (envM [(35, FE encN GRange)] (fun d => d == 12)) (.region id ⟨ops⟩ false) (stOf [(0, .x (.func (.yield l) #[] #[])), (3, .row 48 1 (kk + 1)), (26, .sl en 13 (lv.map nodeV) none), (27, .x (.int .i64 (lv.length : Int))), (28, .x (.int .i64 ((i : Nat) : Int)))] [(48, B2 ++ [.sl nl' sz' (l'.map nodeV) none])]) (endT [(0, .x (.func (.yield l) #[] #[])), (3, .row 48 1 (kk + 1)), (26, .sl en 13 (lv.map nodeV) none), (27, .x (.int .i64 (lv.length : Int))), (28, .x (.int .i64 ((i + 1 : Nat) : Int)))] [(48, B2 ++ [.sl nl' sz' (l'.map nodeV) none])]) →
          okCode (envM [(35, FE encN GRange)] (fun d => d == 12)).any 50 (.region id ⟨ops⟩ false) = true → (∀ a3 w3, (∃ x' : Nat × List Lv × List V × Nat × List (List V), ((x'.2.2.2.1 = 12 ∨ x'.2.2.2.1 = 48) ∧ InI nd lv M x'.2.2.2.2 x'.2.1 x'.1 ∧ x'.1 ≤ lv.length ∧ Two (envM [(35, FE encN GRange)] (fun d => d == 12)) 50 O m w (A x'.2.2.2.2) (stOf [(0, .x (.func (.yield l) #[] #[])), (3, .row x'.2.2.2.1 1 x'.2.1.length), (26, .sl en 13 (lv.map nodeV) none), (27, .x (.int .i64 (lv.length : Int))), (28, .x (.int .i64 ((x'.1 : Nat) : Int)))] [(x'.2.2.2.1, x'.2.1.reverse.map lvV ++ x'.2.2.1)]) a3 w3) ∧ lv.length - x'.1 < lv.length - i) → Q .normal a3 w3) → (Code.region id ⟨ops⟩ false).wpIn (fen none) 0 (envM [(35, FE encN GRange)] (fun d => d == 12)).P Q a2 w2 := by
        intro a2 w2 pre2 hin2 ht ops Q id hrun hok hQ
        refine two_T hE hm (hA pre2) _ _ hok ht hrun ?_
        intro a3 w3 h3
        refine hQ a3 w3 ⟨(i + 1, (nl', sz', l') :: rr, [], 48, pre2), ⟨.inr rfl, hin2, hi, ?_⟩, ?_⟩
        · rw [hpush, hk1, List.append_nil]; exact h3
        · simp only; omega
      refine wpIn_seq (two_T hE hm (hA pre1) [(0, .x (.func (.yield l) #[] #[])), (3, .row nm1 1 kk), (26, .sl en 13 (lv.map nodeV) none), (27, .x (.int .i64 (lv.length : Int))), (28, .x (.int .i64 ((i : Nat) : Int))), (29, .x (.bool true))] [(nm1, B2 ++ G2)] (by kernel_rfl) h1 (by simp (decide := true) (maxDischargeDepth := 200) only [go_sem, Nat.reduceBEq, c1] <;> (repeat' first | rfl | constructor)) ?_)
      clear h1 a w1
      intro a w1 h1
      refine wpIn_seq (two_T hE hm (hA pre1) [(0, .x (.func (.yield l) #[] #[])), (3, .row nm1 1 kk), (26, .sl en 13 (lv.map nodeV) none), (27, .x (.int .i64 (lv.length : Int))), (28, .x (.int .i64 ((i : Nat) : Int)))] [(nm1, B2 ++ G2)] (by kernel_rfl) h1 (by simp (decide := true) (maxDischargeDepth := 200) only [go_sem, Nat.reduceBEq] <;> (repeat' first | rfl | constructor)) ?_)
      clear h1 a w1
      intro a w1 h1
      refine wpIn_seq (wpIn_block ?_)
      rcases hnm1 with rfl | rfl
      · have g1 : ∀ (st : St) (d s : Nat) (nl : Bool) (t' : Option Nat), (envM [(35, FE encN GRange)] (fun d => d == 12)).MB d = false → growV (envM [(35, FE encN GRange)] (fun d => d == 12)) st (some d) 26 (.row s 1 kk) (.sl nl 1 [.sl nl' sz' (l'.map nodeV) none] t') = match st.b s with
            | some cs => some ⟨upd (kill s (kill d st.t)) d (.row d 1 (kk + 1)), upd (upd st.b s none) d (some (cs.take (kk * 1) ++ [.sl nl' sz' (l'.map nodeV) none]))⟩
            | none => none := fun st d s nl t' h => growR_acc (E := envM [(35, FE encN GRange)] (fun d => d == 12)) sz26 by26 ze26 (by decide) rfl rfl (by omega) (by omega) st d s nl t' h
        have g2 := fun st d s nl t' => g1 st d s nl t' rfl
        refine wpIn_seq (two_T hE hm (hA pre1) [(0, .x (.func (.yield l) #[] #[])), (3, .row 12 1 kk), (26, .sl en 13 (lv.map nodeV) none), (27, .x (.int .i64 (lv.length : Int))), (28, .x (.int .i64 ((i : Nat) : Int))), (7, .ptr 7 0)] [(12, B2 ++ G2), (7, [.x (.int .i64 k'), .x (.string op'), .x (.string nm'), .x (.int .i64 vk'), .x (.int .i64 vn'), .x (.string vs'), .x (.string cs'), .x (.int .i64 cc'), .x (.int .i64 cr'), .x (.string ts'), .x (.int .i64 tc'), .x (.int .i64 tr'), .sl nl' sz' (l'.map nodeV) none])] (by kernel_rfl) h1 (by simp (decide := true) (maxDischargeDepth := 200) only [go_sem, Nat.reduceBEq, hc2, c2, c1, List.length_map] <;> (repeat' first | rfl | constructor)) ?_)
        clear h1 a w1
        intro a w1 h1
        cases hq : okQ (rg c.hd) with
        | false =>
          rw [hq] at hcc
          refine two_T hE hm (hA pre1) [(0, .x (.func (.yield l) #[] #[])), (3, .row 48 1 (kk + 1)), (26, .sl en 13 (lv.map nodeV) none), (27, .x (.int .i64 (lv.length : Int))), (28, .x (.int .i64 ((i : Nat) : Int)))] [(48, B2 ++ [.sl nl' sz' (l'.map nodeV) none])] (by kernel_rfl) h1 (by simp (decide := true) (maxDischargeDepth := 200) only [go_sem, Nat.reduceBEq, hcc, rgV, g2, Nat.mul_one, d5] <;> (repeat' first | rfl | constructor)) ?_
          clear h1 a w1
          intro a w1 h1
          refine hLI a w1 pre1 (hno hq) h1 (by simp (decide := true) (maxDischargeDepth := 200) only [go_sem, Nat.reduceBEq, c4] <;> (repeat' first | rfl | constructor)) (by kernel_rfl) (fun a3 w3 h3 => h3)
        | true =>
          rw [hq] at hcc
          obtain ⟨hnext, hmem⟩ := hyes hq
          have hokp : OkQ nd (pre1 ++ [[rgV (rg c.hd)]]) := hnext.come
          refine wpIn_seq (wpIn_seq (two_T hE hm (hA pre1) [(0, .x (.func (.yield l) #[] #[])), (3, .row 12 1 kk), (26, .sl en 13 (lv.map nodeV) none), (27, .x (.int .i64 (lv.length : Int))), (28, .x (.int .i64 ((i : Nat) : Int))), (7, .ptr 7 0), (8, .ptr 8 0), (9, .x (.bool true))] [(12, B2 ++ G2), (7, [.x (.int .i64 k'), .x (.string op'), .x (.string nm'), .x (.int .i64 vk'), .x (.int .i64 vn'), .x (.string vs'), .x (.string cs'), .x (.int .i64 cc'), .x (.int .i64 cr'), .x (.string ts'), .x (.int .i64 tc'), .x (.int .i64 tr'), .sl nl' sz' (l'.map nodeV) none]), (8, [.x (.string (rg c.hd).1.1), .x (.int .i64 (rg c.hd).1.2.1), .x (.int .i64 (rg c.hd).1.2.2), .x (.string (rg c.hd).2.1), .x (.int .i64 (rg c.hd).2.2.1), .x (.int .i64 (rg c.hd).2.2.2)])] (by kernel_rfl) h1 (by simp (decide := true) (maxDischargeDepth := 200) only [go_sem, Nat.reduceBEq, hcc, rgV] <;> (repeat' first | rfl | constructor)) ?_))
          clear h1 a w1
          intro a w1 h1
          refine wpIn_seq (wpIn_region ?_)
          refine ops_S hE (hA pre1) 0 4 [(0, .x (.func (.yield l) #[] #[])), (3, .row 12 1 kk), (26, .sl en 13 (lv.map nodeV) none), (27, .x (.int .i64 (lv.length : Int))), (28, .x (.int .i64 ((i : Nat) : Int))), (7, .ptr 7 0), (37, .x (.bool true)), (38, .x (.bool true)), (39, .x (.func (.yield l) #[] #[])), (40, rgV (rg c.hd))] [(12, B2 ++ G2), (7, [.x (.int .i64 k'), .x (.string op'), .x (.string nm'), .x (.int .i64 vk'), .x (.int .i64 vn'), .x (.string vs'), .x (.string cs'), .x (.int .i64 cc'), .x (.int .i64 cr'), .x (.string ts'), .x (.int .i64 tc'), .x (.int .i64 tr'), .sl nl' sz' (l'.map nodeV) none])] [4, 5, 6] (by decide) (by kernel_rfl) h1 (by simp (decide := true) (maxDischargeDepth := 200) only [go_sem, Nat.reduceBEq, rgV] <;> (repeat' first | rfl | constructor)) ?_
          clear h1 a w1
          intro a w1 h1
          rw [wpOpsIn_cons]
          refine yield_two (n := 50) (A1 := A (pre1 ++ [[rgV (rg c.hd)]])) (Ax := Ax (pre1 ++ [[rgV (rg c.hd)]])) (l := l) rfl (d := 41) rfl (by decide) rfl rfl rfl h1 (u := rgV (rg c.hd)) rfl (by rw [rgV, bare_agg]; rfl) (fun O1 m1 w2 vs ha hv => hy pre1 _ O1 m1 w2 vs hokp ha (by rw [rgV, bare_agg] at hv; exact hv) rfl) ?_ ?_
          · clear h1 a w1
            intro a w1 h1
            refine ops_S hE (hA _) 5 2 [(0, .x (.func (.yield l) #[] #[])), (3, .row 12 1 kk), (26, .sl en 13 (lv.map nodeV) none), (27, .x (.int .i64 (lv.length : Int))), (28, .x (.int .i64 ((i : Nat) : Int))), (7, .ptr 7 0), (43, .x (.bool false))] [(12, B2 ++ G2), (7, [.x (.int .i64 k'), .x (.string op'), .x (.string nm'), .x (.int .i64 vk'), .x (.int .i64 vn'), .x (.string vs'), .x (.string cs'), .x (.int .i64 cc'), .x (.int .i64 cr'), .x (.string ts'), .x (.int .i64 tc'), .x (.int .i64 tr'), .sl nl' sz' (l'.map nodeV) none])] [] (by decide) (by kernel_rfl) h1 (by simp (decide := true) (maxDischargeDepth := 200) only [go_sem, Nat.reduceBEq] <;> (repeat' first | rfl | constructor)) ?_
            clear h1 a w1
            intro a w1 h1
            refine two_T hE hm (hA _) [(0, .x (.func (.yield l) #[] #[])), (3, .row 12 1 kk), (26, .sl en 13 (lv.map nodeV) none), (27, .x (.int .i64 (lv.length : Int))), (28, .x (.int .i64 ((i : Nat) : Int))), (7, .ptr 7 0)] [(12, B2 ++ G2), (7, [.x (.int .i64 k'), .x (.string op'), .x (.string nm'), .x (.int .i64 vk'), .x (.int .i64 vn'), .x (.string vs'), .x (.string cs'), .x (.int .i64 cc'), .x (.int .i64 cr'), .x (.string ts'), .x (.int .i64 tc'), .x (.int .i64 tr'), .sl nl' sz' (l'.map nodeV) none])] (by kernel_rfl) h1 (by simp (decide := true) (maxDischargeDepth := 200) only [go_sem, Nat.reduceBEq] <;> (repeat' first | rfl | constructor)) ?_
            clear h1 a w1
            intro a w1 h1
            refine two_T hE hm (hA _) [(0, .x (.func (.yield l) #[] #[])), (3, .row 48 1 (kk + 1)), (26, .sl en 13 (lv.map nodeV) none), (27, .x (.int .i64 (lv.length : Int))), (28, .x (.int .i64 ((i : Nat) : Int)))] [(48, B2 ++ [.sl nl' sz' (l'.map nodeV) none])] (by kernel_rfl) h1 (by simp (decide := true) (maxDischargeDepth := 200) only [go_sem, Nat.reduceBEq, g2, Nat.mul_one, d5] <;> (repeat' first | rfl | constructor)) ?_
            clear h1 a w1
            intro a w1 h1
            refine hLI a w1 _ hnext h1 (by simp (decide := true) (maxDischargeDepth := 200) only [go_sem, Nat.reduceBEq, c4] <;> (repeat' first | rfl | constructor)) (by kernel_rfl) (fun a3 w3 h3 => h3)
          · clear h1 a w1
            intro a w1 h1
            refine ops_S hE (hX _) 5 2 [(43, .x (.bool true))] [] [] (by decide) (by kernel_rfl) h1 (by simp (decide := true) (maxDischargeDepth := 200) only [go_sem, Nat.reduceBEq] <;> (repeat' first | rfl | constructor)) ?_
            clear h1 a w1
            intro a w1 h1
            refine two_R hE hm (hX _) [] [] (by kernel_rfl) h1 (by simp (decide := true) (maxDischargeDepth := 200) only [go_sem, Nat.reduceBEq] <;> (repeat' first | rfl | constructor)) ?_
            clear h1 a w1
            intro a w1 h1
            exact ⟨.inr rfl, .inr ⟨_, _, h1⟩⟩
      · have g1 : ∀ (st : St) (d s : Nat) (nl : Bool) (t' : Option Nat), (envM [(35, FE encN GRange)] (fun d => d == 12)).MB d = false → growV (envM [(35, FE encN GRange)] (fun d => d == 12)) st (some d) 26 (.row s 1 kk) (.sl nl 1 [.sl nl' sz' (l'.map nodeV) none] t') = match st.b s with
            | some cs => some ⟨upd (kill s (kill d st.t)) d (.row d 1 (kk + 1)), upd (upd st.b s none) d (some (cs.take (kk * 1) ++ [.sl nl' sz' (l'.map nodeV) none]))⟩
            | none => none := fun st d s nl t' h => growR_acc (E := envM [(35, FE encN GRange)] (fun d => d == 12)) sz26 by26 ze26 (by decide) rfl rfl (by omega) (by omega) st d s nl t' h
        have g2 := fun st d s nl t' => g1 st d s nl t' rfl
        refine wpIn_seq (two_T hE hm (hA pre1) [(0, .x (.func (.yield l) #[] #[])), (3, .row 48 1 kk), (26, .sl en 13 (lv.map nodeV) none), (27, .x (.int .i64 (lv.length : Int))), (28, .x (.int .i64 ((i : Nat) : Int))), (7, .ptr 7 0)] [(48, B2 ++ G2), (7, [.x (.int .i64 k'), .x (.string op'), .x (.string nm'), .x (.int .i64 vk'), .x (.int .i64 vn'), .x (.string vs'), .x (.string cs'), .x (.int .i64 cc'), .x (.int .i64 cr'), .x (.string ts'), .x (.int .i64 tc'), .x (.int .i64 tr'), .sl nl' sz' (l'.map nodeV) none])] (by kernel_rfl) h1 (by simp (decide := true) (maxDischargeDepth := 200) only [go_sem, Nat.reduceBEq, hc2, c2, c1, List.length_map] <;> (repeat' first | rfl | constructor)) ?_)
        clear h1 a w1
        intro a w1 h1
        cases hq : okQ (rg c.hd) with
        | false =>
          rw [hq] at hcc
          refine two_T hE hm (hA pre1) [(0, .x (.func (.yield l) #[] #[])), (3, .row 48 1 (kk + 1)), (26, .sl en 13 (lv.map nodeV) none), (27, .x (.int .i64 (lv.length : Int))), (28, .x (.int .i64 ((i : Nat) : Int)))] [(48, B2 ++ [.sl nl' sz' (l'.map nodeV) none])] (by kernel_rfl) h1 (by simp (decide := true) (maxDischargeDepth := 200) only [go_sem, Nat.reduceBEq, hcc, rgV, g2, Nat.mul_one, d5] <;> (repeat' first | rfl | constructor)) ?_
          clear h1 a w1
          intro a w1 h1
          refine hLI a w1 pre1 (hno hq) h1 (by simp (decide := true) (maxDischargeDepth := 200) only [go_sem, Nat.reduceBEq, c4] <;> (repeat' first | rfl | constructor)) (by kernel_rfl) (fun a3 w3 h3 => h3)
        | true =>
          rw [hq] at hcc
          obtain ⟨hnext, hmem⟩ := hyes hq
          have hokp : OkQ nd (pre1 ++ [[rgV (rg c.hd)]]) := hnext.come
          refine wpIn_seq (wpIn_seq (two_T hE hm (hA pre1) [(0, .x (.func (.yield l) #[] #[])), (3, .row 48 1 kk), (26, .sl en 13 (lv.map nodeV) none), (27, .x (.int .i64 (lv.length : Int))), (28, .x (.int .i64 ((i : Nat) : Int))), (7, .ptr 7 0), (8, .ptr 8 0), (9, .x (.bool true))] [(48, B2 ++ G2), (7, [.x (.int .i64 k'), .x (.string op'), .x (.string nm'), .x (.int .i64 vk'), .x (.int .i64 vn'), .x (.string vs'), .x (.string cs'), .x (.int .i64 cc'), .x (.int .i64 cr'), .x (.string ts'), .x (.int .i64 tc'), .x (.int .i64 tr'), .sl nl' sz' (l'.map nodeV) none]), (8, [.x (.string (rg c.hd).1.1), .x (.int .i64 (rg c.hd).1.2.1), .x (.int .i64 (rg c.hd).1.2.2), .x (.string (rg c.hd).2.1), .x (.int .i64 (rg c.hd).2.2.1), .x (.int .i64 (rg c.hd).2.2.2)])] (by kernel_rfl) h1 (by simp (decide := true) (maxDischargeDepth := 200) only [go_sem, Nat.reduceBEq, hcc, rgV] <;> (repeat' first | rfl | constructor)) ?_))
          clear h1 a w1
          intro a w1 h1
          refine wpIn_seq (wpIn_region ?_)
          refine ops_S hE (hA pre1) 0 4 [(0, .x (.func (.yield l) #[] #[])), (3, .row 48 1 kk), (26, .sl en 13 (lv.map nodeV) none), (27, .x (.int .i64 (lv.length : Int))), (28, .x (.int .i64 ((i : Nat) : Int))), (7, .ptr 7 0), (37, .x (.bool true)), (38, .x (.bool true)), (39, .x (.func (.yield l) #[] #[])), (40, rgV (rg c.hd))] [(48, B2 ++ G2), (7, [.x (.int .i64 k'), .x (.string op'), .x (.string nm'), .x (.int .i64 vk'), .x (.int .i64 vn'), .x (.string vs'), .x (.string cs'), .x (.int .i64 cc'), .x (.int .i64 cr'), .x (.string ts'), .x (.int .i64 tc'), .x (.int .i64 tr'), .sl nl' sz' (l'.map nodeV) none])] [4, 5, 6] (by decide) (by kernel_rfl) h1 (by simp (decide := true) (maxDischargeDepth := 200) only [go_sem, Nat.reduceBEq, rgV] <;> (repeat' first | rfl | constructor)) ?_
          clear h1 a w1
          intro a w1 h1
          rw [wpOpsIn_cons]
          refine yield_two (n := 50) (A1 := A (pre1 ++ [[rgV (rg c.hd)]])) (Ax := Ax (pre1 ++ [[rgV (rg c.hd)]])) (l := l) rfl (d := 41) rfl (by decide) rfl rfl rfl h1 (u := rgV (rg c.hd)) rfl (by rw [rgV, bare_agg]; rfl) (fun O1 m1 w2 vs ha hv => hy pre1 _ O1 m1 w2 vs hokp ha (by rw [rgV, bare_agg] at hv; exact hv) rfl) ?_ ?_
          · clear h1 a w1
            intro a w1 h1
            refine ops_S hE (hA _) 5 2 [(0, .x (.func (.yield l) #[] #[])), (3, .row 48 1 kk), (26, .sl en 13 (lv.map nodeV) none), (27, .x (.int .i64 (lv.length : Int))), (28, .x (.int .i64 ((i : Nat) : Int))), (7, .ptr 7 0), (43, .x (.bool false))] [(48, B2 ++ G2), (7, [.x (.int .i64 k'), .x (.string op'), .x (.string nm'), .x (.int .i64 vk'), .x (.int .i64 vn'), .x (.string vs'), .x (.string cs'), .x (.int .i64 cc'), .x (.int .i64 cr'), .x (.string ts'), .x (.int .i64 tc'), .x (.int .i64 tr'), .sl nl' sz' (l'.map nodeV) none])] [] (by decide) (by kernel_rfl) h1 (by simp (decide := true) (maxDischargeDepth := 200) only [go_sem, Nat.reduceBEq] <;> (repeat' first | rfl | constructor)) ?_
            clear h1 a w1
            intro a w1 h1
            refine two_T hE hm (hA _) [(0, .x (.func (.yield l) #[] #[])), (3, .row 48 1 kk), (26, .sl en 13 (lv.map nodeV) none), (27, .x (.int .i64 (lv.length : Int))), (28, .x (.int .i64 ((i : Nat) : Int))), (7, .ptr 7 0)] [(48, B2 ++ G2), (7, [.x (.int .i64 k'), .x (.string op'), .x (.string nm'), .x (.int .i64 vk'), .x (.int .i64 vn'), .x (.string vs'), .x (.string cs'), .x (.int .i64 cc'), .x (.int .i64 cr'), .x (.string ts'), .x (.int .i64 tc'), .x (.int .i64 tr'), .sl nl' sz' (l'.map nodeV) none])] (by kernel_rfl) h1 (by simp (decide := true) (maxDischargeDepth := 200) only [go_sem, Nat.reduceBEq] <;> (repeat' first | rfl | constructor)) ?_
            clear h1 a w1
            intro a w1 h1
            refine two_T hE hm (hA _) [(0, .x (.func (.yield l) #[] #[])), (3, .row 48 1 (kk + 1)), (26, .sl en 13 (lv.map nodeV) none), (27, .x (.int .i64 (lv.length : Int))), (28, .x (.int .i64 ((i : Nat) : Int)))] [(48, B2 ++ [.sl nl' sz' (l'.map nodeV) none])] (by kernel_rfl) h1 (by simp (decide := true) (maxDischargeDepth := 200) only [go_sem, Nat.reduceBEq, g2, Nat.mul_one, d5] <;> (repeat' first | rfl | constructor)) ?_
            clear h1 a w1
            intro a w1 h1
            refine hLI a w1 _ hnext h1 (by simp (decide := true) (maxDischargeDepth := 200) only [go_sem, Nat.reduceBEq, c4] <;> (repeat' first | rfl | constructor)) (by kernel_rfl) (fun a3 w3 h3 => h3)
          · clear h1 a w1
            intro a w1 h1
            refine ops_S hE (hX _) 5 2 [(43, .x (.bool true))] [] [] (by decide) (by kernel_rfl) h1 (by simp (decide := true) (maxDischargeDepth := 200) only [go_sem, Nat.reduceBEq] <;> (repeat' first | rfl | constructor)) ?_
            clear h1 a w1
            intro a w1 h1
            refine two_R hE hm (hX _) [] [] (by kernel_rfl) h1 (by simp (decide := true) (maxDischargeDepth := 200) only [go_sem, Nat.reduceBEq] <;> (repeat' first | rfl | constructor)) ?_
            clear h1 a w1
            intro a w1 h1
            exact ⟨.inr rfl, .inr ⟨_, _, h1⟩⟩
    · have c1 : decide ((i : Int) < (lv.length : Int)) = false := decide_eq_false (by omega)
      obtain rfl : i = lv.length := by omega
      refine wpIn_seq (two_T hE hm (hA pre1) [(0, .x (.func (.yield l) #[] #[])), (3, .row nm1 1 kk), (29, .x (.bool false))] [(nm1, B2 ++ G2)] (by kernel_rfl) h1 (by simp (decide := true) (maxDischargeDepth := 200) only [go_sem, Nat.reduceBEq, c1] <;> (repeat' first | rfl | constructor)) ?_)
      clear h1 a w1
      intro a w1 h1
      refine wpIn_seq (two_X hE hm (hA pre1) 2 [(0, .x (.func (.yield l) #[] #[])), (3, .row nm1 1 kk)] [(nm1, B2 ++ G2)] (by kernel_rfl) h1 (by simp (decide := true) (maxDischargeDepth := 200) only [go_sem, Nat.reduceBEq] <;> (repeat' first | rfl | constructor)) ?_)
      clear h1 a w1
      intro a w1 h1
      obtain ⟨ho1, ho2⟩ := hI1.out hsm
      refine ⟨(rr, G2, nm1, pre1), ⟨hnm1, ho1, ?_⟩, ?_⟩
      · simp only [hBe2, ← hkk]; exact h1
      · simp only [f0]; rw [← hM]; exact ho2
end Go.Proofs.Ytiphliochoengaa

/- refs.Reads: is a cell one of those that a node reads? -/
namespace Go.Proofs.Ytiphliochoengaa
open Go Go.RowKit
set_option linter.unusedSimpArgs false
/-- The call that makes the iterator. -/
theorem ranges_call (cs : Array Value) (w : World) : Calls Try.prog 21 #[.agg cs] w fun e w' => e = .returned (.func (.func 34) #[] #[.pointer (some ⟨w.heap.size, 0, none⟩)]) ∧ w' = w.alloc (.cells cs 28) := by
  go_enter Try.func21, Try.ntmps21
  go_wp2
  go_ret
  exact ⟨rfl, rfl⟩
/-- What is known behind it: where the node lies. -/
theorem node_boxed {m : Lim} {w : World} {v : Value} {cs0 : List V} {ty : TypeId} (hr : Rd m w v (.agg cs0)) : Step (fun _ => False) m w (upd m w.heap.size none) (w.alloc (.cells v.cells ty)) ∧ Rd (upd m w.heap.size none) (w.alloc (.cells v.cells ty)) (.pointer (some ⟨w.heap.size, 0, none⟩)) (.ip cs0) := by
  have hs : Step (fun _ => False) m w (upd m w.heap.size none) (w.alloc (.cells v.cells ty)) := Step.of_below ((Below.refl _ w).alloc (Nat.le_refl _) _) (fun k hk => upd_ne _ _ (Nat.ne_of_lt hk))
  obtain ⟨cs, rfl, hl⟩ := Rd.agg_iff.1 hr
  have hlen := hl.length
  refine ⟨hs, .ip _ 0 cs0 (fun k => (Value.agg cs).cells.getD k Go.undef) (by simp) (fun k hk => ?_) (fun fr hf => by rw [upd_same] at hf; cases hf) (fun k d hd => ?_)⟩
  · have hh : (w.alloc (.cells (Value.agg cs).cells ty)).heap[w.heap.size]? = some (.cells (Value.agg cs).cells ty (0, 0)) := World.heap_new w _
    rw [Box.cell hh]
    have : k < (Value.agg cs).cells.size := by show k < cs.size; simp at hlen; omega
    rw [Nat.zero_add, Array.getElem?_eq_getElem this, Array.getD_eq_getD_getElem?, Array.getElem?_eq_getElem this]
    rfl
  · have hlt : k < cs.size := by have := (List.getElem?_eq_some_iff.1 hd).1; simp at hlen; omega
    have e : (Value.agg cs).cells.getD k Go.undef = cs[k] := by
      show cs.getD k Go.undef = _
      rw [Array.getD_eq_getD_getElem?, Array.getElem?_eq_getElem hlt]; rfl
    rw [e]
    exact (hl.get k cs[k] d (by simp) hd).mono hs.ext
theorem runOf_read {E : Env} {n : Nat} {D : List Deferred} {m : Lim} {w : World} {O : Nat → Prop} {st : St} {a : Act} (h : Now E n D O m st a w) (i : Nat) {u : V} (hi : st.t i = u) (hu : u.dat = true) : Rd m w (a.tmps.getD i Go.undef) u := by
  obtain ⟨b, β, hr⟩ := h.rel
  exact (hi ▸ hr.tmps i : Rs m w β _ u).dat hu
theorem rgV_inj (p q : R2) (e : rgV p = rgV q) : p = q := by
  obtain ⟨⟨a, b, c⟩, a2, b2, c2⟩ := p
  obtain ⟨⟨a', b', c'⟩, a2', b2', c2'⟩ := q
  simp only [rgV, V.agg.injEq, List.cons.injEq, V.x.injEq, Value.string.injEq, Value.int.injEq, true_and, and_true] at e
  obtain ⟨rfl, rfl, rfl, rfl, rfl, rfl⟩ := e
  rfl
def inQ (c : C3) (q : R2) : Bool := inB q.1.1 q.1.2.1 q.1.2.2 q.2.1 q.2.2.1 q.2.2.2 c.1 c.2.1 c.2.2
def NoIn (c : C3) (pre : List (List V)) : Prop := ∀ q, [rgV q] ∈ pre → inQ c q = false
/-- Is the cell one of those that the node reads? -/
def readsB (nd : Nd) (c : C3) : Bool := (allN nd).any (inQ c)
def encNC (p : Nd × C3) : List V := [nodeV p.1, cellV p.2]
theorem cellV_inj (p q : C3) (e : cellV p = cellV q) : p = q := by
  obtain ⟨a, b, c⟩ := p
  obtain ⟨a', b', c'⟩ := q
  simp only [cellV, V.agg.injEq, List.cons.injEq, V.x.injEq, Value.string.injEq, Value.int.injEq, true_and, and_true] at e
  obtain ⟨rfl, rfl, rfl⟩ := e
  rfl
theorem encNC_inj (p q : Nd × C3) (e : encNC p = encNC q) : p = q := by
  obtain ⟨h1, h2⟩ := List.cons.inj e
  exact Prod.ext (nodeV_inj _ _ h1) (cellV_inj _ _ (List.cons.inj h2).1)
def GReadsB (p : Nd × C3) : Option V := if cnt p.1 ≤ 400 then some (.x (.bool (readsB p.1 p.2))) else none
set_option maxHeartbeats 8000000 in
set_option maxRecDepth 100000 in
theorem readsB_fun : FunV 13 (FE encNC GReadsB) := by
  have hE : EnvOK (envOf [(31, FIn)]) := envOK_of _ ⟨in_fun, trivial⟩
  have hm : (envOf [(31, FIn)]).P.follows .mixedOrders = true := by kernel_rfl
  refine fun_of_one (E := envOf [(31, FIn)]) (n := 12) (k := 2) hE Try.func13 rfl (fun a w => Try.call13 a w) Try.ntmps13 (by decide) (by decide) ?_
  intro us r m w a hF hdat h0
  obtain ⟨⟨nd, c⟩, hus, hG⟩ := FE_out hF
  clear hF
  subst hus
  unfold GReadsB at hG
  obtain ⟨h400, hG⟩ := ite_some hG
  simp only at h400
  cases hG
  obtain ⟨c0, c1, c2⟩ := c
  obtain ⟨k, op, nm, vk, vn, vs, cs, cc, cr, ts, tc, tr, ll, nl, sz, hh, hl, hf, hs⟩ := node_cases nd
  replace h0 := h0 rfl
  refine ⟨rfl, ?_⟩
  simp only [encNC, cellV] at h0
  rw [hf] at h0
  refine wpIn_seq (one_T hE hm [(2, .ptr 2 0), (3, .ptr 3 0), (4, .ptr 4 0)] [(2, [.x (.int .i64 k), .x (.string op), .x (.string nm), .x (.int .i64 vk), .x (.int .i64 vn), .x (.string vs), .x (.string cs), .x (.int .i64 cc), .x (.int .i64 cr), .x (.string ts), .x (.int .i64 tc), .x (.int .i64 tr), .sl nl sz (ll.map nodeV) none]), (3, [.x (.string c0), .x (.int .i64 c1), .x (.int .i64 c2)]), (4, [.x (.bool false)])] (by kernel_rfl) h0 (by simp (decide := true) (maxDischargeDepth := 200) only [go_sem, Nat.reduceBEq] <;> (repeat' first | rfl | constructor)) ?_)
  clear h0 a
  intro a w1 h1
  refine wpIn_seq (wpIn_seq (wpIn_region ?_))
  refine one_S hE 0 1 [(2, .ptr 2 0), (3, .ptr 3 0), (4, .ptr 4 0), (6, .agg [.x (.int .i64 k), .x (.string op), .x (.string nm), .x (.int .i64 vk), .x (.int .i64 vn), .x (.string vs), .x (.string cs), .x (.int .i64 cc), .x (.int .i64 cr), .x (.string ts), .x (.int .i64 tc), .x (.int .i64 tr), .sl nl sz (ll.map nodeV) none])] [(2, [.x (.int .i64 k), .x (.string op), .x (.string nm), .x (.int .i64 vk), .x (.int .i64 vn), .x (.string vs), .x (.string cs), .x (.int .i64 cc), .x (.int .i64 cr), .x (.string ts), .x (.int .i64 tc), .x (.int .i64 tr), .sl nl sz (ll.map nodeV) none]), (3, [.x (.string c0), .x (.int .i64 c1), .x (.int .i64 c2)]), (4, [.x (.bool false)])] [1] (by decide) (by kernel_rfl) h1 (by simp (decide := true) (maxDischargeDepth := 200) only [go_sem, Nat.reduceBEq] <;> (repeat' first | rfl | constructor)) ?_
  clear h1 a w1
  intro a w1 h1
  refine one_call (n := 12) (d := 7) (f := 21) (Kno.rd (.pointer (some ⟨w1.heap.size, 0, none⟩)) (.ip [.x (.int .i64 k), .x (.string op), .x (.string nm), .x (.int .i64 vk), .x (.int .i64 vn), .x (.string vs), .x (.string cs), .x (.int .i64 cc), .x (.int .i64 cr), .x (.string ts), .x (.int .i64 tc), .x (.int .i64 tr), .sl nl sz (ll.map nodeV) none])) rfl rfl rfl (by decide) rfl (fun a w => Try.call21 a w) h1 (R := fun e w' => e = .returned (.func (.func 34) #[] #[.pointer (some ⟨w1.heap.size, 0, none⟩)]) ∧ w' = w1.alloc (.cells (a.eval (.tmp 6)).cells 28)) (fun m1 O1 hn1 _ => ?call) ?_
  case call =>
    have hrd := runOf_read hn1 6 (u := .agg [.x (.int .i64 k), .x (.string op), .x (.string nm), .x (.int .i64 vk), .x (.int .i64 vn), .x (.string vs), .x (.string cs), .x (.int .i64 cc), .x (.int .i64 cr), .x (.string ts), .x (.int .i64 tc), .x (.int .i64 tr), .sl nl sz (ll.map nodeV) none]) (by simp only [go_sem, Nat.reduceEqDiff, if_false, if_true, tOf, stOf]) rfl
    obtain ⟨cs1, hcs, _⟩ := Rd.agg_iff.1 hrd
    have e6 : a.eval (.tmp 6) = .agg cs1 := hcs
    rw [show Array.map a.eval #[.tmp 6] = #[a.eval (.tmp 6)] from by simp, e6]
    exact ranges_call cs1 w1
  intro m1 O1 hn1 _ e w2 he
  obtain ⟨rfl, rfl⟩ := he
  have hrd := runOf_read hn1 6 (u := .agg [.x (.int .i64 k), .x (.string op), .x (.string nm), .x (.int .i64 vk), .x (.int .i64 vn), .x (.string vs), .x (.string cs), .x (.int .i64 cc), .x (.int .i64 cr), .x (.string ts), .x (.int .i64 tc), .x (.int .i64 tr), .sl nl sz (ll.map nodeV) none]) (by simp only [go_sem, Nat.reduceEqDiff, if_false, if_true, tOf, stOf]) rfl
  obtain ⟨hs2, hr2⟩ := node_boxed (ty := 28) hrd
  refine ⟨_, _, .undef, rfl, hs2, hE.keep [] _ _ (fun x hx => by cases hx) hn1.J (hs2.bel (fun k _ h => h.elim)), .undef _, hr2, fun h2 => ?_⟩
  have hfn : (a.put (some 7) (.func (.func 34) #[] #[.pointer (some ⟨w1.heap.size, 0, none⟩)])).eval (.tmp 7) = .func (.func 34) #[] #[.pointer (some ⟨w1.heap.size, 0, none⟩)] := by
    have hz : a.tmps.size = 12 := by obtain ⟨_, _, hr⟩ := hn1.rel; exact hr.size
    show ((a.put (some 7) _).tmps.getD 7 Go.undef) = _
    simp [Act.put, Array.getD_eq_getD_getElem?, hz]
  generalize (a.put (some 7) (.func (.func 34) #[] #[.pointer (some ⟨w1.heap.size, 0, none⟩)])) = a2 at h2 hfn
  generalize w1.alloc _ = w2 at h2
  refine wpIn_block ?_
  refine one_rangeT hE hm h2 (fun i => i == 8 || (i == 5 || (i == 9 || (i == 10 || i == 11)))) hfn (fun a w => Try.call34 a w) (Ok := OkQ nd) (Done := DoneQ nd) (G := fun _ => False) (fun _ h => h.elim) ?hit (by kernel_rfl) (by kernel_rfl) (by kernel_rfl) (by kernel_rfl) ?hps ?hlen
    (NoIn (c0, c1, c2)) (fun _ => [(2, .ptr 2 0), (3, .ptr 3 0), (4, .ptr 4 0)]) (fun _ => [(2, [.x (.int .i64 k), .x (.string op), .x (.string nm), .x (.int .i64 vk), .x (.int .i64 vn), .x (.string vs), .x (.string cs), .x (.int .i64 cc), .x (.int .i64 cr), .x (.string ts), .x (.int .i64 tc), .x (.int .i64 tr), .sl nl sz (ll.map nodeV) none]), (3, [.x (.string c0), .x (.int .i64 c1), .x (.int .i64 c2)]), (4, [.x (.bool false)])]) (readsB nd (c0, c1, c2) = true) [(2, .ptr 2 0), (3, .ptr 3 0), (4, .ptr 4 0)] [(2, [.x (.int .i64 k), .x (.string op), .x (.string nm), .x (.int .i64 vk), .x (.int .i64 vn), .x (.string vs), .x (.string cs), .x (.int .i64 cc), .x (.int .i64 cr), .x (.string ts), .x (.int .i64 tc), .x (.int .i64 tr), .sl nl sz (ll.map nodeV) none]), (3, [.x (.string c0), .x (.int .i64 c1), .x (.int .i64 c2)]), (4, [.x (.bool true)])] (fun q hq => by cases hq) ?h0 (fun _ _ => [(2, .ptr 2 0), (3, .ptr 3 0), (4, .ptr 4 0), (5, .ptr 5 0)]) (fun _ x => (5, x.flatMap V.cells) :: [(2, [.x (.int .i64 k), .x (.string op), .x (.string nm), .x (.int .i64 vk), .x (.int .i64 vn), .x (.string vs), .x (.string cs), .x (.int .i64 cc), .x (.int .i64 cr), .x (.string ts), .x (.int .i64 tc), .x (.int .i64 tr), .sl nl sz (ll.map nodeV) none]), (3, [.x (.string c0), .x (.int .i64 c1), .x (.int .i64 c2)]), (4, [.x (.bool false)])]) ?assign ?round ?done ?stop
  case hit =>
    intro m3 O3 hn3 hkn _ m4 w4 hs4 hj4
    exact ranges_iter nd h400 hf ⟨hkn.mono hs4.ext, trivial⟩
  case hps => intro p hp; simp at hp; subst hp; exact ⟨rfl, by decide⟩
  case hlen =>
    intro pre x hok
    obtain ⟨q, _, rfl⟩ := hok x (by simp)
    rfl
  case h0 => simp (decide := true) (maxDischargeDepth := 200) only [go_sem, Nat.reduceBEq] <;> (repeat' first | rfl | constructor)
  case assign =>
    intro pre x hok hinv
    obtain ⟨q, hq, rfl⟩ := hok x (by simp)
    simp (decide := true) (maxDischargeDepth := 200) only [go_sem, Nat.reduceBEq, rgV] <;> (repeat' first | rfl | constructor)
  case round =>
    intro pre x hok hinv
    obtain ⟨q, hq, rfl⟩ := hok x (by simp)
    cases hin : inQ (c0, c1, c2) q with
    | false =>
      have hin' : inB q.1.1 q.1.2.1 q.1.2.2 q.2.1 q.2.2.1 q.2.2.2 c0 c1 c2 = false := hin
      have hN : NoIn (c0, c1, c2) (pre ++ [[rgV q]]) := fun q' hq' => by
        rcases List.mem_append.1 hq' with h | h
        · exact hinv q' h
        · rw [rgV_inj _ _ (List.cons.inj (List.mem_singleton.1 h)).1]
          exact hin
      generalize pre ++ [[rgV q]] = pre' at hN
      simp (decide := true) (maxDischargeDepth := 200) only [go_sem, Nat.reduceBEq, rgV, FIn, hin', List.flatMap_cons, List.flatMap_nil, List.append_nil]
      exact hN
    | true =>
      have hin' : inB q.1.1 q.1.2.1 q.1.2.2 q.2.1 q.2.2.1 q.2.2.2 c0 c1 c2 = true := hin
      have hrb : readsB nd (c0, c1, c2) = true := List.any_eq_true.2 ⟨q, hq, hin⟩
      simp (decide := true) (maxDischargeDepth := 200) only [go_sem, Nat.reduceBEq, rgV, FIn, hin', hrb, List.flatMap_cons, List.flatMap_nil, List.append_nil] <;> (repeat' first | rfl | constructor)
  case done =>
    intro xs b a' w' hd hinv h3
    have hno : readsB nd (c0, c1, c2) = false := by
      refine List.any_eq_false.2 (fun q hq => ?_)
      rw [hinv q (hd.2 q hq)]
      decide
    refine wpIn_seq (one_T hE hm [(2, .ptr 2 0), (3, .ptr 3 0), (4, .ptr 4 0)] [(2, [.x (.int .i64 k), .x (.string op), .x (.string nm), .x (.int .i64 vk), .x (.int .i64 vn), .x (.string vs), .x (.string cs), .x (.int .i64 cc), .x (.int .i64 cr), .x (.string ts), .x (.int .i64 tc), .x (.int .i64 tr), .sl nl sz (ll.map nodeV) none]), (3, [.x (.string c0), .x (.int .i64 c1), .x (.int .i64 c2)]), (4, [.x (.bool false)])] (by kernel_rfl) h3 (by simp (decide := true) (maxDischargeDepth := 200) only [go_sem, Nat.reduceBEq] <;> (repeat' first | rfl | constructor)) ?_)
    intro a4 w4 h4
    exact wpIn_ret ⟨.inr rfl, _, _, _, _, _, h4, by rw [hno]; simp (decide := true) (maxDischargeDepth := 200) only [go_sem, Try.results13]⟩
  case stop =>
    intro b a' w' hrb h3
    exact ⟨.inr rfl, _, _, _, _, _, h3, by rw [hrb]; simp (decide := true) (maxDischargeDepth := 200) only [go_sem, Try.results13]⟩
end Go.Proofs.Ytiphliochoengaa
