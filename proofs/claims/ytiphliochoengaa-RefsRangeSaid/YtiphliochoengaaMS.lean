/- Runs, part by part: what is known may be less from part to part. No program is named here. -/
import Derived.Test.YtiphliochoengaaMI
import Derived.Test.YtiphliochoengaaMPO
import Derived.Test.YtiphliochoengaaMH
import Derived.Sort.AssemblyPlain
namespace Go.Proofs.Ytiphliochoengaa
open Go Go.RowKit

/-- What a part of the code comes to. -/
def Sem (E : Env) (n : Nat) (pm : Pm) (m0 : Lim) (w0 : World) (c : Code) (st : St) (K : Out → St → Prop) : Prop :=
  ∀ a w m β, Rel E n pm m0 w0 m β st a w → c.wpIn (fen none) 0 E.P (postV E n pm m0 w0 K) a w
/-- Behind a part: so much is known. -/
def seqE (ts : List (Nat × V)) (bs : List (Nat × List V)) (K : Out → St → Prop) : Out → St → Prop
  | .normal, st => leT st ts ∧ leB st bs
  | .ret, st => K .ret st
  | .exit id, st => K (.exit id) st
/-- Behind a part: so much is known, and Q. -/
def seqQ (Q : Prop) (ts : List (Nat × V)) (bs : List (Nat × List V)) (K : Out → St → Prop) : Out → St → Prop
  | .normal, st => Q ∧ leT st ts ∧ leB st bs
  | .ret, st => K .ret st
  | .exit id, st => K (.exit id) st
/-- A part that does not come to its end. -/
def outK (K : Out → St → Prop) : Out → St → Prop
  | .normal, _ => False
  | .ret, st => K .ret st
  | .exit id, st => K (.exit id) st
/-- At a loop's end: the head again, or out. -/
def againE {X : Type} (T : X → List (Nat × V)) (B : X → List (Nat × List V)) (μ : X → Nat) (n : Nat) (K : Out → St → Prop) : Out → St → Prop
  | .normal, st => Again T B μ n st
  | .ret, st => K .ret st
  | .exit id, st => K (.exit id) st
section
variable {E : Env} {n : Nat} {pm : Pm} {m0 : Lim} {w0 : World} {st : St} {K : Out → St → Prop}
section
variable (ts : List (Nat × V)) (bs : List (Nat × List V)) (K : Out → St → Prop) (st : St) (id : Nat)
theorem seqE_normal : seqE ts bs K .normal st = (leT st ts ∧ leB st bs) := rfl
theorem seqE_ret : seqE ts bs K .ret st = K .ret st := rfl
theorem seqQ_normal (Q : Prop) : seqQ Q ts bs K .normal st = (Q ∧ leT st ts ∧ leB st bs) := rfl
theorem seqQ_ret (Q : Prop) : seqQ Q ts bs K .ret st = K .ret st := rfl
theorem seqQ_exit (Q : Prop) : seqQ Q ts bs K (.exit id) st = K (.exit id) st := rfl
theorem seqQ_congr (Q : Prop) {o o' : Out} (h : o = o') : seqQ Q ts bs K o st = seqQ Q ts bs K o' st := by rw [h]
theorem seqE_congr {o o' : Out} (h : o = o') : seqE ts bs K o st = seqE ts bs K o' st := by rw [h]
theorem outK_normal : outK K .normal st = False := rfl
theorem outK_ret : outK K .ret st = K .ret st := rfl
theorem outK_exit : outK K (.exit id) st = K (.exit id) st := rfl
theorem seqE_exit : seqE ts bs K (.exit id) st = K (.exit id) st := rfl
variable {X : Type} (T : X → List (Nat × V)) (B : X → List (Nat × List V)) (μ : X → Nat) (n : Nat)
theorem againE_normal : againE T B μ n K .normal st = Again T B μ n st := rfl
theorem againE_ret : againE T B μ n K .ret st = K .ret st := rfl
theorem againE_congr {o o' : Out} (h : o = o') : againE T B μ n K o st = againE T B μ n K o' st := by rw [h]
theorem againE_exit : againE T B μ n K (.exit id) st = K (.exit id) st := rfl
end
attribute [go_sem] seqE_normal seqE_ret seqE_exit outK_normal outK_ret outK_exit againE_normal againE_ret againE_exit leT leB
attribute [go_sem] seqQ_normal seqQ_ret seqQ_exit
attribute [congr] seqQ_congr seqE_congr againE_congr
theorem Sem.run (hE : EnvX E pm) (hm : E.P.follows .mixedOrders = true) {c : Code} (hok : okCode E.any n c = true) (h : Go.Proofs.Ytiphliochoengaa.run E c st K) : Sem E n pm m0 w0 c st K := fun a w m β hr =>
  wpIn_mono (run_soundW (r := none) (W := fun _ => true) hE hm c K st a w m β hok (wrC_all c) hr h) (fun _ _ _ h => h.1)
theorem Sem.le {c : Code} {st' : St} (hl : Le st' st) (h : Sem E n pm m0 w0 c st' K) : Sem E n pm m0 w0 c st K := fun a w m β hr => h a w m β (hr.le hl)
theorem Sem.seq {c d : Code} (ts : List (Nat × V)) (bs : List (Nat × List V)) (h1 : Sem E n pm m0 w0 c st (seqE ts bs K)) (h2 : Sem E n pm m0 w0 d (stOf ts bs) K) : Sem E n pm m0 w0 (c.seq d) st K := fun a w m β hr => by
  refine wpIn_seq (wpIn_mono (h1 a w m β hr) ?_)
  intro e a' w' hp
  cases e <;> simp only [postV, Exit.then] at hp ⊢ <;> first | exact hp.elim | exact hp | skip
  obtain ⟨st', m', β', hk, h'⟩ := hp
  exact h2 a' w' m' β' (h'.le (le_stOf hk.1 hk.2))
theorem Sem.seqQ {c d : Code} (Q : Prop) (ts : List (Nat × V)) (bs : List (Nat × List V)) (h1 : Sem E n pm m0 w0 c st (Go.Proofs.Ytiphliochoengaa.seqQ Q ts bs K)) (h2 : Q → Sem E n pm m0 w0 d (stOf ts bs) K) : Sem E n pm m0 w0 (c.seq d) st K := fun a w m β hr => by
  refine wpIn_seq (wpIn_mono (h1 a w m β hr) ?_)
  intro e a' w' hp
  cases e <;> simp only [postV, Exit.then] at hp ⊢ <;> first | exact hp.elim | exact hp | skip
  obtain ⟨st', m', β', ⟨hq, hk1, hk2⟩, h'⟩ := hp
  exact h2 hq a' w' m' β' (h'.le (le_stOf hk1 hk2))
theorem Sem.seq_out {c d : Code} (h1 : Sem E n pm m0 w0 c st (outK K)) : Sem E n pm m0 w0 (c.seq d) st K := fun a w m β hr => by
  refine wpIn_seq (wpIn_mono (h1 a w m β hr) ?_)
  intro e a' w' hp
  cases e <;> simp only [postV, Exit.then] at hp ⊢ <;> first | exact hp.elim | exact hp | skip
  obtain ⟨st', m', β', hk, h'⟩ := hp
  exact hk.elim
theorem Sem.block {c : Code} {id : Nat} (h : Sem E n pm m0 w0 c st (blockK id K)) : Sem E n pm m0 w0 (.block id c) st K := fun a w m β hr => by
  refine wpIn_block (wpIn_mono (h a w m β hr) ?_)
  intro e a' w' hp
  cases e <;> simp only [postV, Exit.inBlock] at hp ⊢ <;> first | exact hp.elim | exact hp | skip
  rename_i id'
  obtain ⟨st', m', β', hk, h'⟩ := hp
  by_cases hid : id' = id
  · subst hid
    rw [blockK_exit, if_pos rfl] at hk
    simp only [if_true]
    exact ⟨st', m', β', hk, h'⟩
  · rw [blockK_exit, if_neg hid] at hk
    simp only [hid, if_false]
    exact ⟨st', m', β', hk, h'⟩
theorem Sem.loop {c : Code} {X : Type} (T : X → List (Nat × V)) (B : X → List (Nat × List V)) (μ : X → Nat) (x0 : X) (h0 : leT st (T x0)) (h0' : leB st (B x0))
    (h : ∀ x, Sem E n pm m0 w0 c (stOf (T x) (B x)) (againE T B μ (μ x) K)) : Sem E n pm m0 w0 (.loop c) st K := fun a w m β hr => by
  refine wpIn_loopX (X := X) (fun x a w => ∃ m β, Rel E n pm m0 w0 m β (stOf (T x) (B x)) a w) μ x0 ⟨m, β, hr.le (le_stOf h0 h0')⟩ ?_
  rintro x a1 w1 ⟨m1, β1, hr1⟩
  refine wpIn_mono (h x a1 w1 m1 β1 hr1) ?_
  intro e a' w' hp
  cases e <;> simp only [postV] at hp ⊢ <;> first | exact hp.elim | exact hp | skip
  obtain ⟨st', m', β', ⟨x', h1, h2, h3⟩, h'⟩ := hp
  exact ⟨x', ⟨m', β', h'.le (le_stOf h1 h2)⟩, h3⟩
/-- The test ahead of a part. -/
theorem Sem.cond {c : Operand} {x y : Code} {t : Bool} (hc : ev E st c = .x (.bool t)) (h1 : t = true → Sem E n pm m0 w0 x st K) (h2 : t = false → Sem E n pm m0 w0 y st K) : Sem E n pm m0 w0 (.cond c x y) st K := fun a w m β hr => by
  have hv : a.eval c = .bool t := (hc ▸ ev_sound hr c : Rs m w β (a.eval c) (.x (.bool t))).x
  exact wpIn_cond_split hv (fun e => h1 e a w m β hr) (fun e => h2 e a w m β hr)
theorem Sem.mono {c : Code} {K' : Out → St → Prop} (h : Sem E n pm m0 w0 c st K) (hk : ∀ o st, K o st → K' o st) : Sem E n pm m0 w0 c st K' := fun a w m β hr => by
  refine wpIn_mono (h a w m β hr) ?_
  intro e a' w' hp
  cases e <;> simp only [postV] at hp ⊢ <;> first | exact hp.elim | (obtain ⟨st', m', β', h1, h2⟩ := hp; exact ⟨st', m', β', hk _ _ h1, h2⟩)
/-- A contract of a function that leans on a variable that nobody names to it, part by part. -/
theorem fun_of_wpX (hEx : ∀ pm : Pm, ∀ bk, pm.b E.xk = bk → (∀ f lb F, E.X f lb = some F → FunX E bk f lb F) → EnvX E pm) (hmb : ∀ s, 1000 ≤ s → E.MB s = false) (_hm : E.P.follows .mixedOrders = true) {f : FuncId} {fn : Func} {c : Code} {F : List V → Option (V × List (List V))} {k bk : Nat} (hf : E.P.funcs[f]? = some fn) (hb : fn.body = some c)
    (hcall : ∀ args w, (callFunc f args).run E.P w = .ok (.enter f args) w) (hn : fn.ntmps = n) (hk : k < n) (hn1 : n ≤ 1000) (hxk : E.xk = 1000 + k) (hX : ∀ f lb F, E.X f lb = some F → FunX E bk f lb F)
    (hrun : ∀ us r outs, F us = some (r, outs) → ∃ cs, us.length = k + 1 ∧ us[k]? = some (.bx cs) ∧ ∀ pm m0 w0, EnvX E pm → Sem E n pm m0 w0 c ⟨upd (startP us).t k .undef, (startP us).b⟩ (retKX E fn.results.toList us r outs)) : FunX E bk f [] F := by
  intro m w vs us bs gs hs r outs hF hargs hnd hhnd hj hg
  obtain ⟨cs, hl, hcs, hrun⟩ := hrun us r outs hF
  have hlen := hargs.len
  simp only [List.length_append, Array.length_toList, List.length_cons, List.length_nil] at hlen
  have hargs' : ArgsP m w E.K (vs.push (.pointer (some ⟨bk, 0, none⟩))).toList us bs gs hs := by simpa using hargs
  obtain ⟨γ, hrel, _, h1, h3, h8⟩ := rel_startP hmb hn1 hargs' hnd hhnd hj hg (by simp; omega)
  have hγ : γ (1000 + k) = bk := by
    obtain ⟨q1, _, _⟩ := h1 k cs hcs
    have hkv : k = vs.size := by omega
    subst hkv
    simp at q1
    exact q1.symm
  subst hn
  have hE : EnvX E ⟨bs ++ (gs ++ hs), γ, gs, []⟩ := hEx _ bk (by rw [hxk]; exact hγ) hX
  have hrel' := Rel.drop (T := vs ++ Array.replicate (fn.ntmps - vs.size) Go.undef) hrel (by simp; omega) k (fun i hi => by
    have hkv : k = vs.size := by omega
    subst hkv
    simp only [Array.getD_eq_getD_getElem?]
    rcases Nat.lt_or_ge i vs.size with h' | h'
    · rw [Array.getElem?_append_left h', Array.getElem?_append_left (by simp; omega), Array.getElem?_push_lt h', Array.getElem?_eq_getElem h']
    · rw [Array.getElem?_append_right h', Array.getElem?_append_right (by simp; omega)]
      simp only [Array.size_push, Array.getElem?_replicate]
      have : i - vs.size < fn.ntmps - vs.size ↔ i - (vs.size + 1) < fn.ntmps - (vs.size + 1) := by omega
      by_cases hc : i - vs.size < fn.ntmps - vs.size
      · rw [if_pos hc, if_pos (this.1 hc)]
      · rw [if_neg hc, if_neg (fun h => hc (this.2 h))])
  refine .inl ⟨hcall _ _, ?_⟩
  rw [show vs ++ (⟨[]⟩ : Array Value) = vs from Array.append_empty]
  refine calls_of_wp hf hb (wp_mono (wpIn_wide.1 (hrun _ _ _ hE _ _ _ _ hrel')) ?_)
  intro e a' w' hp
  have done : ∀ st' m' β', ((resM E st' fn.results.toList = some r ∨ resV E st' fn.results.toList = some r) ∧ outsA us st' = some outs) → Rel E fn.ntmps ⟨bs ++ (gs ++ hs), γ, gs, []⟩ m w m' β' st' a' w' → a'.defers = [] ∧ ∃ v, (results fn a'.tmps).run E.P w' = .ok v w' ∧ ∃ v', Ending.returned v = .returned v' ∧ ∃ m', Rd m' w' v' r ∧ Bel (bs ++ (gs ++ hs)) w w' ∧ Ext m w m' w' ∧ (∀ blk, blk < w.heap.size → blk ∉ gs → m' blk = m blk) ∧ (∃ o1 o2, outs = o1 ++ o2 ∧ OutsP m' w' bs o1 ∧ OutsM m' w' hs o2) ∧
      ∀ sz es k, r = .sl false sz es (some k) → ∃ g, RowIs m' w' v' g sz es.length ∧ (w.heap.size ≤ g ∨ g ∈ gs) := by
    intro st' m' β' h1' h2'
    obtain ⟨q1, v, q2, q3⟩ := end_startP h3 h8 h1' h2'
    exact ⟨q1, v, q2, v, rfl, m', q3⟩
  cases e with
  | normal => obtain ⟨st', m', β', h1, h2⟩ := hp; exact done st' m' β' h1 h2
  | ret => obtain ⟨st', m', β', h1, h2⟩ := hp; exact done st' m' β' h1 h2
  | exit id => obtain ⟨st', m', β', h1, h2⟩ := hp; exact h1.elim
  | goto l => exact hp.elim
  | panic ch => exact hp.elim
  | outgrown => exact hp.elim
end
end Go.Proofs.Ytiphliochoengaa

/- Sorting by a function value: what the calls lean on, and what they are told. -/
namespace Go.Proofs.Ytiphliochoengaa
open Go Go.RowKit
set_option linter.unusedSimpArgs false
open Go.Sort (swp)
/-- A row of cells, as it lies in memory. -/
def rowQ (d : Array C3) : List V := d.toList.flatMap fun p => (cellV p).cells
theorem rowQ_inj {a b : Array C3} (h : rowQ a = rowQ b) : a = b := by
  have key : ∀ l l' : List C3, (l.flatMap fun p => (cellV p).cells) = (l'.flatMap fun p => (cellV p).cells) → l = l' := by
    intro l
    induction l with
    | nil =>
      intro l' h
      cases l' with
      | nil => rfl
      | cons p l' => simp [cellV, V.cells] at h
    | cons p l ih =>
      intro l' h
      cases l' with
      | nil => simp [cellV, V.cells] at h
      | cons p' l' =>
        simp only [List.flatMap_cons] at h
        obtain ⟨h1, h2⟩ := List.append_inj h (by simp [cellV, V.cells])
        have e : cellV p = cellV p' := by
          obtain ⟨x, y, z⟩ := p
          obtain ⟨x', y', z'⟩ := p'
          simp only [cellV, V.cells] at h1 ⊢
          rw [h1]
        rw [cellV_inj _ _ e, ih _ h2]
  exact Array.toList_inj.1 (key _ _ h)
/-- The value that holds both functions. -/
abbrev dataV (g sf : FuncId) (gl gs : Array Value) : V := .agg [.x (.func (.func g) #[] gl), .x (.func (.func sf) #[] gs)]
section
variable (g sf : FuncId) (gl gs : Array Value)
def en2 (x : Nat × Nat × Array C3) : List V := [.x (.int .i64 (x.1 : Int)), .x (.int .i64 (x.2.1 : Int)), .bx (rowQ x.2.2)]
def enD2 (x : Nat × Nat × Array C3) : List V := [dataV g sf gl gs, .x (.int .i64 (x.1 : Int)), .x (.int .i64 (x.2.1 : Int)), .bx (rowQ x.2.2)]
def enD3 (x : Nat × Nat × Nat × Array C3) : List V := [dataV g sf gl gs, .x (.int .i64 (x.1 : Int)), .x (.int .i64 (x.2.1 : Int)), .x (.int .i64 (x.2.2.1 : Int)), .bx (rowQ x.2.2.2)]
def enO2 (x : Nat × Nat × Nat × Array C3) : List V := [dataV g sf gl gs, .x (.int .i64 (x.1 : Int)), .x (.int .i64 (x.2.1 : Int)), .bx [.x (.int .i64 (x.2.2.1 : Int))], .bx (rowQ x.2.2.2)]
def enO1 (x : Nat × Nat × Array C3) : List V := [dataV g sf gl gs, .x (.int .i64 (x.1 : Int)), .bx [.x (.int .i64 (x.2.1 : Int))], .bx (rowQ x.2.2)]
def enO3 (x : Nat × Nat × Nat × Nat × Array C3) : List V := [dataV g sf gl gs, .x (.int .i64 (x.1 : Int)), .x (.int .i64 (x.2.1 : Int)), .x (.int .i64 (x.2.2.1 : Int)), .bx [.x (.int .i64 (x.2.2.2.1 : Int))], .bx (rowQ x.2.2.2.2)]
end
theorem en2_inj (x y : Nat × Nat × Array C3) (h : en2 x = en2 y) : x = y := by
  obtain ⟨a, b, d⟩ := x
  obtain ⟨a', b', d'⟩ := y
  simp only [en2, List.cons.injEq, V.x.injEq, Value.int.injEq, V.bx.injEq, true_and, and_true, Int.natCast_inj] at h
  obtain ⟨rfl, rfl, h⟩ := h
  rw [rowQ_inj h]
section
variable {g sf : FuncId} {gl gs : Array Value}
theorem enD2_inj (x y : Nat × Nat × Array C3) (h : enD2 g sf gl gs x = enD2 g sf gl gs y) : x = y := by
  obtain ⟨a, b, d⟩ := x
  obtain ⟨a', b', d'⟩ := y
  simp only [enD2, List.cons.injEq, V.x.injEq, Value.int.injEq, V.bx.injEq, true_and, and_true, Int.natCast_inj] at h
  obtain ⟨rfl, rfl, h⟩ := h
  rw [rowQ_inj h]
theorem enD3_inj (x y : Nat × Nat × Nat × Array C3) (h : enD3 g sf gl gs x = enD3 g sf gl gs y) : x = y := by
  obtain ⟨a, b, c, d⟩ := x
  obtain ⟨a', b', c', d'⟩ := y
  simp only [enD3, List.cons.injEq, V.x.injEq, Value.int.injEq, V.bx.injEq, true_and, and_true, Int.natCast_inj] at h
  obtain ⟨rfl, rfl, rfl, h⟩ := h
  rw [rowQ_inj h]
theorem enO2_inj (x y : Nat × Nat × Nat × Array C3) (h : enO2 g sf gl gs x = enO2 g sf gl gs y) : x = y := by
  obtain ⟨a, b, c, d⟩ := x
  obtain ⟨a', b', c', d'⟩ := y
  simp only [enO2, List.cons.injEq, V.x.injEq, Value.int.injEq, V.bx.injEq, true_and, and_true, Int.natCast_inj] at h
  obtain ⟨rfl, rfl, rfl, h⟩ := h
  rw [rowQ_inj h]
theorem enO1_inj (x y : Nat × Nat × Array C3) (h : enO1 g sf gl gs x = enO1 g sf gl gs y) : x = y := by
  obtain ⟨a, c, d⟩ := x
  obtain ⟨a', c', d'⟩ := y
  simp only [enO1, List.cons.injEq, V.x.injEq, Value.int.injEq, V.bx.injEq, true_and, and_true, Int.natCast_inj] at h
  obtain ⟨rfl, rfl, h⟩ := h
  rw [rowQ_inj h]
theorem enO3_inj (x y : Nat × Nat × Nat × Nat × Array C3) (h : enO3 g sf gl gs x = enO3 g sf gl gs y) : x = y := by
  obtain ⟨a, b, e, c, d⟩ := x
  obtain ⟨a', b', e', c', d'⟩ := y
  simp only [enO3, List.cons.injEq, V.x.injEq, Value.int.injEq, V.bx.injEq, true_and, and_true, Int.natCast_inj] at h
  obtain ⟨rfl, rfl, rfl, rfl, h⟩ := h
  rw [rowQ_inj h]
end
theorem swp_size (d : Array C3) (i j : Nat) : (swp d i j).size = d.size := by simp [swp]
/-- How long a row may be. -/
abbrev MX : Nat := 1000000
def GLess (N : Nat) (x : Nat × Nat × Array C3) : Option (V × List (List V)) := if x.1 < N ∧ x.2.1 < N ∧ x.2.2.size = N then some (.x (.bool (lessP x.2.2[x.1]! x.2.2[x.2.1]!)), [rowQ x.2.2]) else none
def GSwp (N : Nat) (x : Nat × Nat × Array C3) : Option (V × List (List V)) := if x.1 < N ∧ x.2.1 < N ∧ x.2.2.size = N then some (.tup [], [rowQ (swp x.2.2 x.1 x.2.1)]) else none
/-- A contract at this seat of what leans on the row in block bk. -/
def FunXV (G : Nat → V) (bk : Nat) (f : FuncId) (lb : List Value) (F : List V → Option (V × List (List V))) : Prop := FunX (envX G (fun _ _ => none) 0) bk f lb F
/-- What the sort leans on. -/
structure SoOK (G : Nat → V) (bk N : Nat) (g sf : FuncId) (gl gs : Array Value) : Prop where
  gl0 : gl.toList ≠ []
  gs0 : gs.toList ≠ []
  ne : g ≠ sf
  N1 : N ≤ MX
  less : FunXV G bk g gl.toList (FE en2 (GLess N))
  swap : FunXV G bk sf gs.toList (FE en2 (GSwp N))
def AllX (G : Nat → V) (bk : Nat) : List (Nat × (List V → Option (V × List (List V)))) → Prop
  | [] => True
  | p :: l => FunXV G bk p.1 [] p.2 ∧ AllX G bk l
section
variable {G : Nat → V} {bk N : Nat} {g sf : FuncId} {gl gs : Array Value}
theorem tb_ex (hS : SoOK G bk N g sf gl gs) (l : List (Nat × (List V → Option (V × List (List V))))) (hl : AllX G bk l) : ∃ X : FuncId → List Value → Option (List V → Option (V × List (List V))), (∀ f lb F, X f lb = some F → FunXV G bk f lb F) ∧ X g gl.toList = some (FE en2 (GLess N)) ∧ X sf gs.toList = some (FE en2 (GSwp N)) ∧ ∀ f, X f [] = lkP l f := by
  classical
  refine ⟨fun f lb => if lb = [] then lkP l f else if f = g ∧ lb = gl.toList then some (FE en2 (GLess N)) else if f = sf ∧ lb = gs.toList then some (FE en2 (GSwp N)) else none, fun f lb F h => ?_, ?_, ?_, fun f => if_pos rfl⟩
  · by_cases h0 : lb = []
    · simp only [h0, if_true] at h ⊢
      have key : ∀ l, AllX G bk l → lkP l f = some F → FunXV G bk f [] F := by
        intro l
        induction l with
        | nil => intro _ h; cases h
        | cons p l ih =>
          intro q hF
          simp only [lkP] at hF
          split at hF
          · rename_i e; cases hF; exact e ▸ q.1
          · exact ih q.2 hF
      exact key l hl h
    · simp only [h0, if_false] at h
      split at h
      · rename_i e; cases h; rw [e.1, e.2]; exact hS.less
      · split at h
        · rename_i e; cases h; rw [e.1, e.2]; exact hS.swap
        · cases h
  · simp only [hS.gl0, if_false, and_self, if_true]
  · simp only [hS.gs0, if_false, and_self, if_true]
    rw [if_neg (fun e => hS.ne e.1.symm)]
theorem less_at (i j : Nat) (d : Array C3) (hi : i < N) (hj : j < N) (hd : d.size = N) : FE en2 (GLess N) [.x (.int .i64 (i : Int)), .x (.int .i64 (j : Int)), .bx (rowQ d)] = some (.x (.bool (lessP d[i]! d[j]!)), [rowQ d]) :=
  (FE_at en2_inj (GLess N) (i, j, d)).trans (if_pos ⟨hi, hj, hd⟩)
theorem swp_at (i j : Nat) (d : Array C3) (hi : i < N) (hj : j < N) (hd : d.size = N) : FE en2 (GSwp N) [.x (.int .i64 (i : Int)), .x (.int .i64 (j : Int)), .bx (rowQ d)] = some (.tup [], [rowQ (swp d i j)]) :=
  (FE_at en2_inj (GSwp N) (i, j, d)).trans (if_pos ⟨hi, hj, hd⟩)
end
/-- A contract out of a run. -/
theorem fun_of_runXV {G : Nat → V} {X : FuncId → List Value → Option (List V → Option (V × List (List V)))} {f : FuncId} {fn : Func} {c : Code} {F : List V → Option (V × List (List V))} {k n bk : Nat} (hX : ∀ f lb F, X f lb = some F → FunXV G bk f lb F) (hf : Try.prog.funcs[f]? = some fn) (hb : fn.body = some c)
    (hcall : ∀ args w, (callFunc f args).run Try.prog w = .ok (.enter f args) w) (hn : fn.ntmps = n) (hok : okCode (fun _ => false) n c = true) (hk : k < n) (hn1 : n ≤ 1000)
    (hrun : ∀ us r outs, F us = some (r, outs) → ∃ cs, us.length = k + 1 ∧ us[k]? = some (.bx cs) ∧ run (envX G X (1000 + k)) c ⟨upd (startP us).t k .undef, (startP us).b⟩ (retKP (envX G X (1000 + k)) fn.results.toList us r outs)) : FunXV G bk f [] F := by
  refine fun_of_runX (E := envX G X (1000 + k)) (n := n) (fun pm bk' h1 h2 => envX_ok G X (1000 + k) (by omega) pm bk' h1 h2) (fun _ _ => rfl) (by kernel_rfl) hf hb hcall hn hok hk hn1 rfl hX (fun us r outs hF => ?_)
  obtain ⟨cs, h1, h2, h3⟩ := hrun us r outs hF
  refine ⟨cs, h1, h2, _, Le.refl _, run_mono (fun o st hk => ?_) h3⟩
  cases o with
  | exit id => exact hk
  | normal => exact ⟨.inr hk.1, hk.2⟩
  | ret => exact ⟨.inr hk.1, hk.2⟩
/-- A contract, part by part. -/
theorem fun_of_semXV {G : Nat → V} {X : FuncId → List Value → Option (List V → Option (V × List (List V)))} {f : FuncId} {fn : Func} {c : Code} {F : List V → Option (V × List (List V))} {k n bk : Nat} (hX : ∀ f lb F, X f lb = some F → FunXV G bk f lb F) (hf : Try.prog.funcs[f]? = some fn) (hb : fn.body = some c)
    (hcall : ∀ args w, (callFunc f args).run Try.prog w = .ok (.enter f args) w) (hn : fn.ntmps = n) (hk : k < n) (hn1 : n ≤ 1000)
    (hrun : ∀ us r outs, F us = some (r, outs) → ∃ cs, us.length = k + 1 ∧ us[k]? = some (.bx cs) ∧ ∀ pm m0 w0, EnvX (envX G X (1000 + k)) pm → Sem (envX G X (1000 + k)) n pm m0 w0 c ⟨upd (startP us).t k .undef, (startP us).b⟩ (retKP (envX G X (1000 + k)) fn.results.toList us r outs)) : FunXV G bk f [] F := by
  refine fun_of_wpX (E := envX G X (1000 + k)) (n := n) (fun pm bk' h1 h2 => envX_ok G X (1000 + k) (by omega) pm bk' h1 h2) (fun _ _ => rfl) (by kernel_rfl) hf hb hcall hn hk hn1 rfl hX (fun us r outs hF => ?_)
  obtain ⟨cs, h1, h2, h3⟩ := hrun us r outs hF
  refine ⟨cs, h1, h2, fun pm m0 w0 hE => Sem.mono (h3 pm m0 w0 hE) (fun o st hk => ?_)⟩
  cases o with
  | exit id => exact hk
  | normal => exact ⟨.inr hk.1, hk.2⟩
  | ret => exact ⟨.inr hk.1, hk.2⟩
theorem follows_mixed : Try.prog.follows .mixedOrders = true := by kernel_rfl
end Go.Proofs.Ytiphliochoengaa

/- Sorting by a function value: insertion, heaps. -/
namespace Go.Proofs.Ytiphliochoengaa
open Go Go.RowKit
open Go.Sort (swp)
set_option linter.unusedSimpArgs false
def GIns (N : Nat) (x : Nat × Nat × Array C3) : Option (V × List (List V)) := if x.1 ≤ x.2.1 ∧ x.2.1 ≤ N ∧ x.2.2.size = N then some (.tup [], [rowQ (Go.Sort.insertionSort lessP x.2.2 x.1 x.2.1)]) else none
theorem insInner_stop {a j : Nat} {d : Array C3} (h : ¬ a < j) : Go.Sort.insInner lessP a j d = d := by
  cases j with
  | zero => rfl
  | succ j => rw [Go.Sort.insInner]; simp; intro h1; omega
set_option maxHeartbeats 8000000 in
set_option maxRecDepth 100000 in
theorem ins_X {G : Nat → V} {bk N : Nat} {g sf : FuncId} {gl gs : Array Value} (hS : SoOK G bk N g sf gl gs) : FunXV G bk 67 [] (FE (enD2 g sf gl gs) (GIns N)) := by
  obtain ⟨X, hX, X1, X2, X3⟩ := tb_ex hS [] trivial
  have hN := hS.N1
  unfold MX at hN
  refine fun_of_runXV (k := 3) hX Try.func67 rfl (fun a w => Try.call67 a w) Try.ntmps67 (by kernel_rfl) (by decide) (by decide) ?_
  clear hX
  intro us r outs hF
  obtain ⟨⟨a, b, d⟩, hus, hG⟩ := FE_out hF
  clear hF
  subst hus
  unfold GIns at hG
  obtain ⟨⟨hab, hbN, hd⟩, hG⟩ := ite_some hG
  simp only at hab hbN hd
  cases hG
  refine ⟨_, rfl, rfl, ?_⟩
  simp only [enD2]
  have w1 : bWrap .i64 ((a : Int) + 1) = ((a + 1 : Nat) : Int) := by rw [bwrap_of (by unfold inR; omega)]; omega
  simp (decide := true) (maxDischargeDepth := 200) only [go_sem, X1, X2, X3, lkP, w1]
  refine loop_of (X := {x : Nat × Array C3 // a + 1 ≤ x.1 ∧ x.1 ≤ N + 1 ∧ x.2.size = N ∧ Go.Sort.insOuter lessP a b x.1 x.2 = Go.Sort.insertionSort lessP d a b}) (fun x => [(1, .x (.int .i64 (a : Int))), (2, .x (.int .i64 (b : Int))), (3, .ptr 3 0), (6, .x (.int .i64 (x.1.1 : Int)))]) (fun x => [(3, [.x (.func (.func g) #[] gl), .x (.func (.func sf) #[] gs)]), (1003, rowQ x.1.2)]) (fun x => b - x.1.1) ⟨(a + 1, d), by omega, by omega, hd, rfl⟩ (by simp (decide := true) only [go_sem] <;> (repeat' first | rfl | constructor)) (by simp (decide := true) only [go_sem] <;> (repeat' first | rfl | constructor)) (fun ⟨⟨i, dk⟩, hi1, hi2, hdk, heq⟩ => ?_)
  simp only at hi1 hi2 hdk heq
  by_cases hi : i < b
  · have c1 : decide ((i : Int) < (b : Int)) = true := decide_eq_true (by omega)
    rw [Go.Sort.insOuter, if_pos hi] at heq
    have w2 : bWrap .i64 ((i : Int) + 1) = ((i + 1 : Nat) : Int) := by rw [bwrap_of (by unfold inR; omega)]; omega
    simp (decide := true) (maxDischargeDepth := 200) only [go_sem, X1, X2, X3, lkP, c1]
    refine loop_of (X := {y : Nat × Array C3 // a ≤ y.1 ∧ y.1 ≤ i ∧ y.2.size = N ∧ Go.Sort.insInner lessP a y.1 y.2 = Go.Sort.insInner lessP a i dk}) (fun y => [(1, .x (.int .i64 (a : Int))), (2, .x (.int .i64 (b : Int))), (3, .ptr 3 0), (6, .x (.int .i64 (i : Int))), (7, .x (.int .i64 (y.1.1 : Int)))]) (fun y => [(3, [.x (.func (.func g) #[] gl), .x (.func (.func sf) #[] gs)]), (1003, rowQ y.1.2)]) (fun y => y.1.1) ⟨(i, dk), by omega, by omega, hdk, rfl⟩ (by simp (decide := true) only [go_sem] <;> (repeat' first | rfl | constructor)) (by simp (decide := true) only [go_sem] <;> (repeat' first | rfl | constructor)) (fun ⟨⟨j, dj⟩, hj1, hj2, hdj, hej⟩ => ?_)
    simp only at hj1 hj2 hdj hej
    by_cases hj : a < j
    · obtain ⟨k, rfl⟩ : ∃ k, j = k + 1 := ⟨j - 1, by omega⟩
      have q1 : decide ((a : Int) < ((k + 1 : Nat) : Int)) = true := decide_eq_true (by omega)
      have q2 : bWrap .i64 (((k + 1 : Nat) : Int) - 1) = ((k : Nat) : Int) := by rw [bwrap_of (by unfold inR; omega)]; omega
      have l1 := less_at (N := N) (k + 1) k dj (by omega) (by omega) hdj
      have s1 := swp_at (N := N) (k + 1) k dj (by omega) (by omega) hdj
      rw [Go.Sort.insInner] at hej
      cases hl : lessP dj[k + 1]! dj[k]! with
      | false =>
        rw [hl] at l1 hej
        simp only [Bool.and_false, Bool.false_eq_true, if_false] at hej
        simp (decide := true) (maxDischargeDepth := 200) only [go_sem, X1, X2, X3, lkP, q1, q2, w2, l1]
        refine ⟨⟨(i + 1, dj), by omega, by omega, hdj, by rw [hej]; exact heq⟩, ?_, ?_, by simp only; omega⟩ <;> simp (decide := true) only [go_sem] <;> (repeat' first | rfl | constructor)
      | true =>
        rw [hl] at l1 hej
        simp only [Bool.and_true, decide_eq_true_eq, gt_iff_lt, hj, if_true] at hej
        simp (decide := true) (maxDischargeDepth := 200) only [go_sem, X1, X2, X3, lkP, q1, q2, w2, l1, s1]
        refine ⟨⟨(k, swp dj (k + 1) k), by omega, by omega, by rw [swp_size]; exact hdj, hej⟩, ?_, ?_, by simp only; omega⟩ <;> simp (decide := true) only [go_sem] <;> (repeat' first | rfl | constructor)
    · have q1 : decide ((a : Int) < ((j : Nat) : Int)) = false := decide_eq_false (by omega)
      rw [insInner_stop hj] at hej
      simp (decide := true) (maxDischargeDepth := 200) only [go_sem, X1, X2, X3, lkP, q1, w2]
      refine ⟨⟨(i + 1, dj), by omega, by omega, hdj, by rw [hej]; exact heq⟩, ?_, ?_, by simp only; omega⟩ <;> simp (decide := true) only [go_sem] <;> (repeat' first | rfl | constructor)
  · have c1 : decide ((i : Int) < (b : Int)) = false := decide_eq_false (by omega)
    rw [Go.Sort.insOuter, if_neg hi] at heq
    subst heq
    simp (decide := true) (maxDischargeDepth := 200) only [go_sem, X1, X2, X3, lkP, c1, Try.results67]

end Go.Proofs.Ytiphliochoengaa

/- Sorting by a function value: heaps. -/
namespace Go.Proofs.Ytiphliochoengaa
open Go Go.RowKit
open Go.Sort (swp)
set_option linter.unusedSimpArgs false
def GSift (N : Nat) (x : Nat × Nat × Nat × Array C3) : Option (V × List (List V)) := if x.1 ≤ N ∧ x.2.2.1 + x.2.1 ≤ N ∧ x.2.2.2.size = N then some (.tup [], [rowQ (Go.Sort.siftDown lessP x.2.1 x.2.2.1 x.1 x.2.2.2)]) else none
def GHeap (N : Nat) (x : Nat × Nat × Array C3) : Option (V × List (List V)) := if x.1 ≤ x.2.1 ∧ x.2.1 ≤ N ∧ x.2.2.size = N then some (.tup [], [rowQ (Go.Sort.heapSort lessP x.2.2 x.1 x.2.1)]) else none
section
variable {hi F r : Nat} {d : Array C3}
theorem sd_stop (h : ¬ 2 * r + 1 < hi) : Go.Sort.siftDown lessP hi F r d = d := by
  rw [Go.Sort.siftDown, dif_pos (by omega)]
theorem sd_R (h : 2 * r + 2 < hi) (h1 : lessP d[F + (2 * r + 1)]! d[F + (2 * r + 1) + 1]! = true) : Go.Sort.siftDown lessP hi F r d = if lessP d[F + r]! d[F + (2 * r + 2)]! = true then Go.Sort.siftDown lessP hi F (2 * r + 2) (swp d (F + r) (F + (2 * r + 2))) else d := by
  rw [Go.Sort.siftDown, dif_neg (by omega)]
  have e : (decide (2 * r + 1 + 1 < hi) && lessP d[F + (2 * r + 1)]! d[F + (2 * r + 1) + 1]!) = true := by rw [h1, Bool.and_true]; exact decide_eq_true (by omega)
  rw [if_pos e]
  cases lessP d[F + r]! d[F + (2 * r + 2)]! <;> simp [h]
theorem sd_L (h0 : 2 * r + 1 < hi) (h1 : ¬ (2 * r + 2 < hi ∧ lessP d[F + (2 * r + 1)]! d[F + (2 * r + 1) + 1]! = true)) : Go.Sort.siftDown lessP hi F r d = if lessP d[F + r]! d[F + (2 * r + 1)]! = true then Go.Sort.siftDown lessP hi F (2 * r + 1) (swp d (F + r) (F + (2 * r + 1))) else d := by
  rw [Go.Sort.siftDown, dif_neg (by omega)]
  have e : ¬ (decide (2 * r + 1 + 1 < hi) && lessP d[F + (2 * r + 1)]! d[F + (2 * r + 1) + 1]!) = true := by
    intro e
    rw [Bool.and_eq_true, decide_eq_true_eq] at e
    exact h1 ⟨by omega, e.2⟩
  rw [if_neg e]
  cases lessP d[F + r]! d[F + (2 * r + 1)]! <;> simp
end
theorem sd_size (hi F : Nat) : ∀ (n r : Nat) (d : Array C3), hi - r ≤ n → (Go.Sort.siftDown lessP hi F r d).size = d.size := by
  intro n
  induction n with
  | zero => intro r d h; rw [sd_stop (by omega)]
  | succ n ih =>
    intro r d h
    by_cases h0 : 2 * r + 1 < hi
    · by_cases h1 : 2 * r + 2 < hi ∧ lessP d[F + (2 * r + 1)]! d[F + (2 * r + 1) + 1]! = true
      · rw [sd_R h1.1 h1.2]
        split
        · rw [ih _ _ (by omega), swp_size]
        · rfl
      · rw [sd_L h0 h1]
        split
        · rw [ih _ _ (by omega), swp_size]
        · rfl
    · rw [sd_stop h0]
set_option maxHeartbeats 8000000 in
set_option maxRecDepth 100000 in
theorem sift_X {G : Nat → V} {bk N : Nat} {g sf : FuncId} {gl gs : Array Value} (hS : SoOK G bk N g sf gl gs) : FunXV G bk 87 [] (FE (enD3 g sf gl gs) (GSift N)) := by
  obtain ⟨X, hX, X1, X2, X3⟩ := tb_ex hS [] trivial
  have hN := hS.N1
  unfold MX at hN
  refine fun_of_runXV (k := 4) hX Try.func87 rfl (fun a w => Try.call87 a w) Try.ntmps87 (by kernel_rfl) (by decide) (by decide) ?_
  clear hX
  intro us r outs hF
  obtain ⟨⟨lo, hi, F, d⟩, hus, hG⟩ := FE_out hF
  clear hF
  subst hus
  unfold GSift at hG
  obtain ⟨⟨hlo, hFh, hd⟩, hG⟩ := ite_some hG
  simp only at hlo hFh hd
  cases hG
  refine ⟨_, rfl, rfl, ?_⟩
  simp only [enD3]
  simp (decide := true) (maxDischargeDepth := 200) only [go_sem, X1, X2, X3, lkP]
  refine loop_of (X := {x : Nat × Array C3 // x.1 ≤ N ∧ x.2.size = N ∧ Go.Sort.siftDown lessP hi F x.1 x.2 = Go.Sort.siftDown lessP hi F lo d}) (fun x => [(1, .x (.int .i64 (lo : Int))), (2, .x (.int .i64 (hi : Int))), (3, .x (.int .i64 (F : Int))), (4, .ptr 4 0), (8, .x (.int .i64 (x.1.1 : Int)))]) (fun x => [(4, [.x (.func (.func g) #[] gl), .x (.func (.func sf) #[] gs)]), (1004, rowQ x.1.2)]) (fun x => hi - x.1.1) ⟨(lo, d), by omega, hd, rfl⟩ (by simp (decide := true) only [go_sem] <;> (repeat' first | rfl | constructor)) (by simp (decide := true) only [go_sem] <;> (repeat' first | rfl | constructor)) (fun ⟨⟨r, dk⟩, hr, hdk, heq⟩ => ?_)
  simp only at hr hdk heq
  have p1 : bWrap .i64 (2 * ((r : Nat) : Int)) = ((2 * r : Nat) : Int) := by rw [bwrap_of (by unfold inR; omega)]; omega
  have p2 : bWrap .i64 (((2 * r : Nat) : Int) + 1) = ((2 * r + 1 : Nat) : Int) := by rw [bwrap_of (by unfold inR; omega)]; omega
  by_cases h0 : 2 * r + 1 < hi
  · have c1 : decide (((hi : Nat) : Int) ≤ ((2 * r + 1 : Nat) : Int)) = false := decide_eq_false (by omega)
    have p3 : bWrap .i64 (((2 * r + 1 : Nat) : Int) + 1) = ((2 * r + 2 : Nat) : Int) := by rw [bwrap_of (by unfold inR; omega)]; omega
    by_cases h1 : 2 * r + 2 < hi
    · have c2 : decide (((2 * r + 2 : Nat) : Int) < ((hi : Nat) : Int)) = true := decide_eq_true (by omega)
      have p4 : bWrap .i64 ((F : Int) + ((2 * r + 1 : Nat) : Int)) = ((F + (2 * r + 1) : Nat) : Int) := by rw [bwrap_of (by unfold inR; omega)]; omega
      have p5 : bWrap .i64 (((F + (2 * r + 1) : Nat) : Int) + 1) = ((F + (2 * r + 1) + 1 : Nat) : Int) := by rw [bwrap_of (by unfold inR; omega)]; omega
      have l1 := less_at (N := N) (F + (2 * r + 1)) (F + (2 * r + 1) + 1) dk (by omega) (by omega) hdk
      cases hl : lessP dk[F + (2 * r + 1)]! dk[F + (2 * r + 1) + 1]! with
      | true =>
        rw [sd_R h1 hl] at heq
        rw [hl] at l1
        have p6 : bWrap .i64 ((F : Int) + ((r : Nat) : Int)) = ((F + r : Nat) : Int) := by rw [bwrap_of (by unfold inR; omega)]; omega
        have p7 : bWrap .i64 ((F : Int) + ((2 * r + 2 : Nat) : Int)) = ((F + (2 * r + 2) : Nat) : Int) := by rw [bwrap_of (by unfold inR; omega)]; omega
        have l2 := less_at (N := N) (F + r) (F + (2 * r + 2)) dk (by omega) (by omega) hdk
        have s2 := swp_at (N := N) (F + r) (F + (2 * r + 2)) dk (by omega) (by omega) hdk
        cases hl2 : lessP dk[F + r]! dk[F + (2 * r + 2)]! with
        | false =>
          rw [hl2] at l2 heq
          simp only [Bool.false_eq_true, if_false] at heq
          subst heq
          simp (decide := true) (maxDischargeDepth := 200) only [go_sem, X1, X2, X3, lkP, p1, p2, c1, p3, p4, p5, c2, l1, p6, p7, l2, Try.results87]
        | true =>
          rw [hl2] at l2 heq
          simp only [if_true] at heq
          simp (decide := true) (maxDischargeDepth := 200) only [go_sem, X1, X2, X3, lkP, p1, p2, c1, p3, p4, p5, c2, l1, p6, p7, l2, s2]
          refine ⟨⟨(2 * r + 2, swp dk (F + r) (F + (2 * r + 2))), by omega, by rw [swp_size]; exact hdk, heq⟩, ?_, ?_, by simp only; omega⟩ <;> simp (decide := true) only [go_sem] <;> (repeat' first | rfl | constructor)
      | false =>
        rw [sd_L h0 (by rw [hl]; simp)] at heq
        rw [hl] at l1
        have p6 : bWrap .i64 ((F : Int) + ((r : Nat) : Int)) = ((F + r : Nat) : Int) := by rw [bwrap_of (by unfold inR; omega)]; omega
        have p7 : bWrap .i64 ((F : Int) + ((2 * r + 1 : Nat) : Int)) = ((F + (2 * r + 1) : Nat) : Int) := by rw [bwrap_of (by unfold inR; omega)]; omega
        have l2 := less_at (N := N) (F + r) (F + (2 * r + 1)) dk (by omega) (by omega) hdk
        have s2 := swp_at (N := N) (F + r) (F + (2 * r + 1)) dk (by omega) (by omega) hdk
        cases hl2 : lessP dk[F + r]! dk[F + (2 * r + 1)]! with
        | false =>
          rw [hl2] at l2 heq
          simp only [Bool.false_eq_true, if_false] at heq
          subst heq
          simp (decide := true) (maxDischargeDepth := 200) only [go_sem, X1, X2, X3, lkP, p1, p2, c1, p3, p4, p5, c2, l1, p6, p7, l2, Try.results87]
        | true =>
          rw [hl2] at l2 heq
          simp only [if_true] at heq
          simp (decide := true) (maxDischargeDepth := 200) only [go_sem, X1, X2, X3, lkP, p1, p2, c1, p3, p4, p5, c2, l1, p6, p7, l2, s2]
          refine ⟨⟨(2 * r + 1, swp dk (F + r) (F + (2 * r + 1))), by omega, by rw [swp_size]; exact hdk, heq⟩, ?_, ?_, by simp only; omega⟩ <;> simp (decide := true) only [go_sem] <;> (repeat' first | rfl | constructor)
    · have c2 : decide (((2 * r + 2 : Nat) : Int) < ((hi : Nat) : Int)) = false := decide_eq_false (by omega)
      rw [sd_L h0 (by omega)] at heq
      have p6 : bWrap .i64 ((F : Int) + ((r : Nat) : Int)) = ((F + r : Nat) : Int) := by rw [bwrap_of (by unfold inR; omega)]; omega
      have p7 : bWrap .i64 ((F : Int) + ((2 * r + 1 : Nat) : Int)) = ((F + (2 * r + 1) : Nat) : Int) := by rw [bwrap_of (by unfold inR; omega)]; omega
      have l2 := less_at (N := N) (F + r) (F + (2 * r + 1)) dk (by omega) (by omega) hdk
      have s2 := swp_at (N := N) (F + r) (F + (2 * r + 1)) dk (by omega) (by omega) hdk
      cases hl2 : lessP dk[F + r]! dk[F + (2 * r + 1)]! with
      | false =>
        rw [hl2] at l2 heq
        simp only [Bool.false_eq_true, if_false] at heq
        subst heq
        simp (decide := true) (maxDischargeDepth := 200) only [go_sem, X1, X2, X3, lkP, p1, p2, c1, p3, c2, p6, p7, l2, Try.results87]
      | true =>
        rw [hl2] at l2 heq
        simp only [if_true] at heq
        simp (decide := true) (maxDischargeDepth := 200) only [go_sem, X1, X2, X3, lkP, p1, p2, c1, p3, c2, p6, p7, l2, s2]
        refine ⟨⟨(2 * r + 1, swp dk (F + r) (F + (2 * r + 1))), by omega, by rw [swp_size]; exact hdk, heq⟩, ?_, ?_, by simp only; omega⟩ <;> simp (decide := true) only [go_sem] <;> (repeat' first | rfl | constructor)
  · have c1 : decide (((hi : Nat) : Int) ≤ ((2 * r + 1 : Nat) : Int)) = true := decide_eq_true (by omega)
    rw [sd_stop h0] at heq
    subst heq
    simp (decide := true) (maxDischargeDepth := 200) only [go_sem, X1, X2, X3, lkP, p1, p2, c1, Try.results87]

theorem sift_at {g sf : FuncId} {gl gs : Array Value} {N : Nat} (lo hi F : Nat) (d : Array C3) (h1 : lo ≤ N) (h2 : F + hi ≤ N) (h3 : d.size = N) : FE (enD3 g sf gl gs) (GSift N) [dataV g sf gl gs, .x (.int .i64 (lo : Int)), .x (.int .i64 (hi : Int)), .x (.int .i64 (F : Int)), .bx (rowQ d)] = some (.tup [], [rowQ (Go.Sort.siftDown lessP hi F lo d)]) :=
  (FE_at enD3_inj (GSift N) (lo, hi, F, d)).trans (if_pos ⟨h1, h2, h3⟩)
theorem sift_at0 {g sf : FuncId} {gl gs : Array Value} {N : Nat} (hi F : Nat) (d : Array C3) (h2 : F + hi ≤ N) (h3 : d.size = N) : FE (enD3 g sf gl gs) (GSift N) [dataV g sf gl gs, .x (.int .i64 0), .x (.int .i64 (hi : Int)), .x (.int .i64 (F : Int)), .bx (rowQ d)] = some (.tup [], [rowQ (Go.Sort.siftDown lessP hi F 0 d)]) := sift_at 0 hi F d (Nat.zero_le _) h2 h3
theorem quo_ex (n : Nat) (h : n ≤ 1000000) : bWrap .i64 (bWrap .i64 ((n : Int) - 1)|>.tdiv 2) = ((((n - 1) / 2 + 1 : Nat)) : Int) - 1 := by
  have e0 : bWrap .i64 ((n : Int) - 1) = (n : Int) - 1 := bwrap_of (by unfold inR; omega)
  rw [e0]
  have e : ((n : Int) - 1).tdiv 2 = ((((n - 1) / 2 + 1 : Nat)) : Int) - 1 := by
    cases n with
    | zero => decide
    | succ n =>
      rw [show ((n + 1 : Nat) : Int) - 1 = ((n : Nat) : Int) from by omega, Int.tdiv_eq_ediv_of_nonneg (by omega)]
      omega
  rw [e]
  exact bwrap_of (by unfold inR; omega)
set_option maxHeartbeats 8000000 in
set_option maxRecDepth 100000 in
theorem heap_X {G : Nat → V} {bk N : Nat} {g sf : FuncId} {gl gs : Array Value} (hS : SoOK G bk N g sf gl gs) : FunXV G bk 68 [] (FE (enD2 g sf gl gs) (GHeap N)) := by
  obtain ⟨X, hX, X1, X2, X3⟩ := tb_ex hS [(87, FE (enD3 g sf gl gs) (GSift N))] ⟨sift_X hS, trivial⟩
  have hN := hS.N1
  unfold MX at hN
  refine fun_of_runXV (k := 3) hX Try.func68 rfl (fun a w => Try.call68 a w) Try.ntmps68 (by kernel_rfl) (by decide) (by decide) ?_
  clear hX
  intro us r outs hF
  obtain ⟨⟨a, b, d⟩, hus, hG⟩ := FE_out hF
  clear hF
  subst hus
  unfold GHeap at hG
  obtain ⟨⟨hab, hbN, hd⟩, hG⟩ := ite_some hG
  simp only at hab hbN hd
  cases hG
  refine ⟨_, rfl, rfl, ?_⟩
  simp only [enD2]
  have w1 : bWrap .i64 ((b : Int) - (a : Int)) = ((b - a : Nat) : Int) := by rw [bwrap_of (by unfold inR; omega)]; omega
  have w2 := quo_ex (b - a) (by omega)
  simp (decide := true) (maxDischargeDepth := 200) only [go_sem, X1, X2, X3, lkP, w1, w2]
  refine loop_of (X := {x : Nat × Array C3 // x.1 ≤ N + 1 ∧ x.2.size = N ∧ Go.Sort.heapPop lessP a (b - a) (Go.Sort.heapBuild lessP (b - a) a x.1 x.2) = Go.Sort.heapSort lessP d a b}) (fun x => [(1, .x (.int .i64 (a : Int))), (2, .x (.int .i64 (b : Int))), (3, .ptr 3 0), (6, .x (.int .i64 (a : Int))), (7, .x (.int .i64 0)), (8, .x (.int .i64 ((b - a : Nat) : Int))), (9, .x (.int .i64 ((x.1.1 : Int) - 1)))]) (fun x => [(3, [.x (.func (.func g) #[] gl), .x (.func (.func sf) #[] gs)]), (1003, rowQ x.1.2)]) (fun x => x.1.1) ⟨((b - a - 1) / 2 + 1, d), by simp only; omega, hd, rfl⟩ (by simp (decide := true) only [go_sem] <;> (repeat' first | rfl | constructor)) (by simp (decide := true) only [go_sem] <;> (repeat' first | rfl | constructor)) (fun ⟨⟨k, dk⟩, hk, hdk, heq⟩ => ?_)
  simp only at hk hdk heq
  cases k with
  | succ k =>
    have c1 : decide ((0 : Int) ≤ ((k + 1 : Nat) : Int) - 1) = true := decide_eq_true (by omega)
    have e1 : ((k + 1 : Nat) : Int) - 1 = ((k : Nat) : Int) := by omega
    have e2 : bWrap .i64 ((k : Int) - 1) = (k : Int) - 1 := bwrap_of (by unfold inR; omega)
    have s1 := sift_at (g := g) (sf := sf) (gl := gl) (gs := gs) (N := N) k (b - a) a dk (by omega) (by omega) hdk
    rw [Go.Sort.heapBuild] at heq
    rw [e1] at c1 ⊢
    simp (decide := true) (maxDischargeDepth := 200) only [go_sem, X1, X2, X3, lkP, c1, e2, s1]
    refine ⟨⟨(k, Go.Sort.siftDown lessP (b - a) a k dk), by simp only; omega, by rw [sd_size _ _ _ _ _ (Nat.le_refl _)]; exact hdk, heq⟩, ?_, ?_, by simp only; omega⟩ <;> simp (decide := true) only [go_sem] <;> (repeat' first | rfl | constructor)
  | zero =>
    have c1 : decide ((0 : Int) ≤ ((0 : Nat) : Int) - 1) = false := decide_eq_false (by omega)
    rw [Go.Sort.heapBuild] at heq
    have e2 : bWrap .i64 (((b - a : Nat) : Int) - 1) = ((b - a : Nat) : Int) - 1 := bwrap_of (by unfold inR; omega)
    simp (decide := true) (maxDischargeDepth := 200) only [go_sem, X1, X2, X3, lkP, c1, e2]
    refine loop_of (X := {x : Nat × Array C3 // x.1 ≤ b - a ∧ x.2.size = N ∧ Go.Sort.heapPop lessP a x.1 x.2 = Go.Sort.heapSort lessP d a b}) (fun x => [(1, .x (.int .i64 (a : Int))), (2, .x (.int .i64 (b : Int))), (3, .ptr 3 0), (6, .x (.int .i64 (a : Int))), (7, .x (.int .i64 0)), (8, .x (.int .i64 ((b - a : Nat) : Int))), (10, .x (.int .i64 ((x.1.1 : Int) - 1)))]) (fun x => [(3, [.x (.func (.func g) #[] gl), .x (.func (.func sf) #[] gs)]), (1003, rowQ x.1.2)]) (fun x => x.1.1) ⟨(b - a, dk), by simp only; omega, hdk, heq⟩ (by simp (decide := true) only [go_sem] <;> (repeat' first | rfl | constructor)) (by simp (decide := true) only [go_sem] <;> (repeat' first | rfl | constructor)) (fun ⟨⟨k, dk⟩, hk, hdk, heq⟩ => ?_)
    simp only at hk hdk heq
    clear c1
    cases k with
    | succ k =>
      have c1 : decide ((0 : Int) ≤ ((k + 1 : Nat) : Int) - 1) = true := decide_eq_true (by omega)
      have e1 : ((k + 1 : Nat) : Int) - 1 = ((k : Nat) : Int) := by omega
      have e3 : bWrap .i64 ((k : Int) - 1) = (k : Int) - 1 := bwrap_of (by unfold inR; omega)
      have e4 : bWrap .i64 ((a : Int) + (k : Int)) = ((a + k : Nat) : Int) := by rw [bwrap_of (by unfold inR; omega)]; omega
      have t1 := swp_at (N := N) a (a + k) dk (by omega) (by omega) hdk
      have s1 := sift_at0 (g := g) (sf := sf) (gl := gl) (gs := gs) (N := N) k a (swp dk a (a + k)) (by omega) (by rw [swp_size]; exact hdk)
      rw [Go.Sort.heapPop] at heq
      rw [e1] at c1 ⊢
      simp (decide := true) (maxDischargeDepth := 200) only [go_sem, X1, X2, X3, lkP, c1, e3, e4, t1, s1]
      refine ⟨⟨(k, Go.Sort.siftDown lessP k a 0 (swp dk a (a + k))), by simp only; omega, by rw [sd_size _ _ _ _ _ (Nat.le_refl _), swp_size]; exact hdk, heq⟩, ?_, ?_, by simp only; omega⟩ <;> simp (decide := true) only [go_sem] <;> (repeat' first | rfl | constructor)
    | zero =>
      have c1 : decide ((0 : Int) ≤ ((0 : Nat) : Int) - 1) = false := decide_eq_false (by omega)
      rw [Go.Sort.heapPop] at heq
      subst heq
      simp (decide := true) (maxDischargeDepth := 200) only [go_sem, X1, X2, X3, lkP, c1, Try.results68]

end Go.Proofs.Ytiphliochoengaa

/- Sorting by a function value: partitions. -/
namespace Go.Proofs.Ytiphliochoengaa
open Go Go.RowKit
open Go.Sort (swp)
set_option linter.unusedSimpArgs false
section
variable {p : C3 → Bool} {d : Array C3}
theorem su_step {i j : Nat} (h : i ≤ j) (hp : p d[i]! = true) : Go.Sort.scanUp p d j i = Go.Sort.scanUp p d j (i + 1) := by
  rw [Go.Sort.scanUp, if_pos (by rw [hp, Bool.and_true]; exact decide_eq_true h)]
theorem su_stop {i j : Nat} (h : ¬ (i ≤ j ∧ p d[i]! = true)) : Go.Sort.scanUp p d j i = i := by
  rw [Go.Sort.scanUp, if_neg (by rw [Bool.and_eq_true, decide_eq_true_eq]; exact h)]
theorem su_bd {j : Nat} : ∀ (n i : Nat), j + 1 - i ≤ n → i ≤ Go.Sort.scanUp p d j i ∧ (Go.Sort.scanUp p d j i ≤ j + 1 ∨ Go.Sort.scanUp p d j i = i) := by
  intro n
  induction n with
  | zero => intro i h; rw [su_stop (by omega)]; omega
  | succ n ih =>
    intro i h
    by_cases h0 : i ≤ j ∧ p d[i]! = true
    · rw [su_step h0.1 h0.2]
      have := ih (i + 1) (by omega)
      omega
    · rw [su_stop h0]; omega
theorem dn_step {i j : Nat} (h : i ≤ j + 1) (hp : p d[j + 1]! = true) : Go.Sort.scanDown p d i (j + 1) = Go.Sort.scanDown p d i j := by
  rw [Go.Sort.scanDown, if_pos (by rw [hp, Bool.and_true]; exact decide_eq_true h)]
theorem dn_stop {i j : Nat} (h : ¬ (i ≤ j ∧ p d[j]! = true)) : Go.Sort.scanDown p d i j = j := by
  cases j with
  | zero => rfl
  | succ j => rw [Go.Sort.scanDown, if_neg (by rw [Bool.and_eq_true, decide_eq_true_eq]; exact h)]
theorem dn_bd {i : Nat} (hi : 1 ≤ i) : ∀ j : Nat, Go.Sort.scanDown p d i j ≤ j ∧ (i ≤ Go.Sort.scanDown p d i j + 1 ∨ Go.Sort.scanDown p d i j = j) := by
  intro j
  induction j with
  | zero => rw [dn_stop (by omega)]; omega
  | succ j ih =>
    by_cases h0 : i ≤ j + 1 ∧ p d[j + 1]! = true
    · rw [dn_step h0.1 h0.2]; omega
    · rw [dn_stop h0]; omega
end
theorem pl_stop {a i j I J : Nat} {d : Array C3} (hI : Go.Sort.scanUp (fun x => lessP x d[a]!) d j i = I) (hJ : Go.Sort.scanDown (fun x => !lessP x d[a]!) d I j = J) (h : J < I) : Go.Sort.partLoop lessP a i j d = (J, d) := by
  rw [Go.Sort.partLoop]
  simp only [hI, hJ, gt_iff_lt, h, if_true]
theorem pl_step {a i j I J : Nat} {d : Array C3} (hI : Go.Sort.scanUp (fun x => lessP x d[a]!) d j i = I) (hJ : Go.Sort.scanDown (fun x => !lessP x d[a]!) d I j = J) (h : ¬ J < I) (h2 : J - 1 + 1 - (I + 1) < j + 1 - i) : Go.Sort.partLoop lessP a i j d = Go.Sort.partLoop lessP a (I + 1) (J - 1) (swp d I J) := by
  rw [Go.Sort.partLoop]
  simp only [hI, hJ, gt_iff_lt, h, if_false, h2, dif_pos]
theorem pl_bd {a : Nat} : ∀ (n i j : Nat) (d : Array C3), j + 1 - i ≤ n → 1 ≤ i → i ≤ j + 2 → (Go.Sort.partLoop lessP a i j d).1 ≤ j ∧ (Go.Sort.partLoop lessP a i j d).2.size = d.size := by
  intro n
  induction n with
  | zero =>
    intro i j d h h1 h3
    have hI := su_stop (p := fun x => lessP x d[a]!) (d := d) (i := i) (j := j) (by omega)
    have hJ := dn_stop (p := fun x => !lessP x d[a]!) (d := d) (i := i) (j := j) (by omega)
    rw [pl_stop hI hJ (by omega)]
    exact ⟨by simp only; omega, rfl⟩
  | succ n ih =>
    intro i j d h h1 h3
    obtain ⟨I, hI⟩ : ∃ I, Go.Sort.scanUp (fun x => lessP x d[a]!) d j i = I := ⟨_, rfl⟩
    obtain ⟨J, hJ⟩ : ∃ J, Go.Sort.scanDown (fun x => !lessP x d[a]!) d I j = J := ⟨_, rfl⟩
    have b1 := su_bd (p := fun x => lessP x d[a]!) (d := d) (j := j) _ i (Nat.le_refl _)
    rw [hI] at b1
    have b2 := dn_bd (p := fun x => !lessP x d[a]!) (d := d) (i := I) (by omega) j
    rw [hJ] at b2
    by_cases hc : J < I
    · rw [pl_stop hI hJ hc]
      exact ⟨by simp only; omega, rfl⟩
    · rw [pl_step hI hJ hc (by omega)]
      have := ih (I + 1) (J - 1) (swp d I J) (by omega) (by omega) (by omega)
      rw [swp_size] at this
      exact ⟨by omega, this.2⟩
theorem pe_stop {a i j I J : Nat} {d : Array C3} (hI : Go.Sort.scanUp (fun x => !lessP d[a]! x) d j i = I) (hJ : Go.Sort.scanDown (fun x => lessP d[a]! x) d I j = J) (h : J < I) : Go.Sort.partEqLoop lessP a i j d = (I, d) := by
  rw [Go.Sort.partEqLoop]
  simp only [hI, hJ, gt_iff_lt, h, if_true]
theorem pe_step {a i j I J : Nat} {d : Array C3} (hI : Go.Sort.scanUp (fun x => !lessP d[a]! x) d j i = I) (hJ : Go.Sort.scanDown (fun x => lessP d[a]! x) d I j = J) (h : ¬ J < I) (h2 : J - 1 + 1 - (I + 1) < j + 1 - i) : Go.Sort.partEqLoop lessP a i j d = Go.Sort.partEqLoop lessP a (I + 1) (J - 1) (swp d I J) := by
  rw [Go.Sort.partEqLoop]
  simp only [hI, hJ, gt_iff_lt, h, if_false, h2, dif_pos]
def GPart (N : Nat) (x : Nat × Nat × Nat × Array C3) : Option (V × List (List V)) := if x.1 ≤ x.2.2.1 ∧ x.2.2.1 < x.2.1 ∧ x.2.1 ≤ N ∧ x.2.2.2.size = N then some (.tup [.x (.int .i64 ((Go.Sort.partition lessP x.2.2.2 x.1 x.2.1 x.2.2.1).1 : Int)), .x (.bool (Go.Sort.partition lessP x.2.2.2 x.1 x.2.1 x.2.2.1).2.1)], [rowQ (Go.Sort.partition lessP x.2.2.2 x.1 x.2.1 x.2.2.1).2.2]) else none
def GPartE (N : Nat) (x : Nat × Nat × Nat × Array C3) : Option (V × List (List V)) := if x.1 ≤ x.2.2.1 ∧ x.2.2.1 < x.2.1 ∧ x.2.1 ≤ N ∧ x.2.2.2.size = N then some (.x (.int .i64 ((Go.Sort.partitionEqual lessP x.2.2.2 x.1 x.2.1 x.2.2.1).1 : Int)), [rowQ (Go.Sort.partitionEqual lessP x.2.2.2 x.1 x.2.1 x.2.2.1).2]) else none
theorem part_stop {a b pv I J : Nat} {d d1 : Array C3} (h1 : swp d a pv = d1) (hI : Go.Sort.scanUp (fun x => lessP x d1[a]!) d1 (b - 1) (a + 1) = I) (hJ : Go.Sort.scanDown (fun x => !lessP x d1[a]!) d1 I (b - 1) = J) (h : J < I) : Go.Sort.partition lessP d a b pv = (J, true, swp d1 J a) := by
  unfold Go.Sort.partition
  simp only [h1, hI, hJ, gt_iff_lt, h, if_true]
theorem part_go {a b pv I J : Nat} {d d1 : Array C3} (h1 : swp d a pv = d1) (hI : Go.Sort.scanUp (fun x => lessP x d1[a]!) d1 (b - 1) (a + 1) = I) (hJ : Go.Sort.scanDown (fun x => !lessP x d1[a]!) d1 I (b - 1) = J) (h : ¬ J < I) : Go.Sort.partition lessP d a b pv = ((Go.Sort.partLoop lessP a (I + 1) (J - 1) (swp d1 I J)).1, false, swp (Go.Sort.partLoop lessP a (I + 1) (J - 1) (swp d1 I J)).2 (Go.Sort.partLoop lessP a (I + 1) (J - 1) (swp d1 I J)).1 a) := by
  unfold Go.Sort.partition
  simp only [h1, hI, hJ, gt_iff_lt, h, if_false]
set_option maxHeartbeats 8000000 in
set_option maxRecDepth 100000 in
theorem part_X {G : Nat → V} {bk N : Nat} {g sf : FuncId} {gl gs : Array Value} (hS : SoOK G bk N g sf gl gs) : FunXV G bk 74 [] (FE (enD3 g sf gl gs) (GPart N)) := by
  obtain ⟨X, hX, X1, X2, X3⟩ := tb_ex hS [] trivial
  have hN := hS.N1
  unfold MX at hN
  refine fun_of_semXV (k := 4) hX Try.func74 rfl (fun a w => Try.call74 a w) Try.ntmps74 (by decide) (by decide) ?_
  clear hX
  intro us r outs hF
  obtain ⟨⟨a, b, pv, d⟩, hus, hG⟩ := FE_out hF
  clear hF
  subst hus
  unfold GPart at hG
  obtain ⟨⟨hap, hpb, hbN, hd⟩, hG⟩ := ite_some hG
  simp only at hap hpb hbN hd
  cases hG
  refine ⟨_, rfl, rfl, fun pm m0 w0 hE => ?_⟩
  simp only [enD3]
  have s0 := swp_at (N := N) a pv d (by omega) (by omega) hd
  obtain ⟨d1, hd1⟩ : ∃ d1, swp d a pv = d1 := ⟨_, rfl⟩
  have hz1 : d1.size = N := by rw [← hd1, swp_size]; exact hd
  rw [hd1] at s0
  have w1 : bWrap .i64 ((a : Int) + 1) = ((a + 1 : Nat) : Int) := by rw [bwrap_of (by unfold inR; omega)]; omega
  have w2 : bWrap .i64 ((b : Int) - 1) = ((b - 1 : Nat) : Int) := by rw [bwrap_of (by unfold inR; omega)]; omega
  refine Sem.seq [(1, .x (.int .i64 (a : Int))), (2, .x (.int .i64 (b : Int))), (3, .x (.int .i64 (pv : Int))), (4, .ptr 4 0)] [(4, [.x (.func (.func g) #[] gl), .x (.func (.func sf) #[] gs)]), (1004, rowQ d)] (Sem.run hE follows_mixed (by kernel_rfl) (by simp (decide := true) (maxDischargeDepth := 200) only [go_sem, X1, X2, X3, lkP])) ?_
  refine Sem.seq [(1, .x (.int .i64 (a : Int))), (2, .x (.int .i64 (b : Int))), (3, .x (.int .i64 (pv : Int))), (4, .ptr 4 0)] [(4, [.x (.func (.func g) #[] gl), .x (.func (.func sf) #[] gs)]), (1004, rowQ d1)] (Sem.run hE follows_mixed (by kernel_rfl) (by simp (decide := true) (maxDischargeDepth := 200) only [go_sem, X1, X2, X3, lkP, s0])) ?_
  refine Sem.seq [(1, .x (.int .i64 (a : Int))), (4, .ptr 4 0), (10, .x (.int .i64 ((a + 1 : Nat) : Int))), (11, .x (.int .i64 ((b - 1 : Nat) : Int)))] [(4, [.x (.func (.func g) #[] gl), .x (.func (.func sf) #[] gs)]), (1004, rowQ d1)] (Sem.run hE follows_mixed (by kernel_rfl) (by simp (decide := true) (maxDischargeDepth := 200) only [go_sem, X1, X2, X3, lkP, w1, w2])) ?_
  obtain ⟨IF, hIF⟩ : ∃ I, Go.Sort.scanUp (fun x => lessP x d1[a]!) d1 (b - 1) (a + 1) = I := ⟨_, rfl⟩
  obtain ⟨JF, hJF⟩ : ∃ J, Go.Sort.scanDown (fun x => !lessP x d1[a]!) d1 IF (b - 1) = J := ⟨_, rfl⟩
  have buF := su_bd (p := fun x => lessP x d1[a]!) (d := d1) (j := b - 1) _ (a + 1) (Nat.le_refl _)
  rw [hIF] at buF
  have bdF := dn_bd (p := fun x => !lessP x d1[a]!) (d := d1) (i := IF) (by omega) (b - 1)
  rw [hJF] at bdF
  refine Sem.seq [(1, .x (.int .i64 (a : Int))), (4, .ptr 4 0), (10, .x (.int .i64 ((IF : Nat) : Int))), (11, .x (.int .i64 ((b - 1 : Nat) : Int)))] [(4, [.x (.func (.func g) #[] gl), .x (.func (.func sf) #[] gs)]), (1004, rowQ d1)] (Sem.block (Sem.loop (X := {i : Nat // a + 1 ≤ i ∧ (i ≤ b - 1 + 1 ∨ i = a + 1) ∧ Go.Sort.scanUp (fun x => lessP x d1[a]!) d1 (b - 1) i = IF}) (fun x => [(1, .x (.int .i64 (a : Int))), (4, .ptr 4 0), (10, .x (.int .i64 ((x.1 : Nat) : Int))), (11, .x (.int .i64 ((b - 1 : Nat) : Int)))]) (fun _ => [(4, [.x (.func (.func g) #[] gl), .x (.func (.func sf) #[] gs)]), (1004, rowQ d1)]) (fun x => b - 1 + 1 - x.1) ⟨a + 1, by omega, by omega, hIF⟩ (by simp (decide := true) only [go_sem] <;> (repeat' first | rfl | constructor)) (by simp (decide := true) only [go_sem] <;> (repeat' first | rfl | constructor)) (fun ⟨i, hi1, hi2, hi3⟩ => Sem.run hE follows_mixed (by kernel_rfl) ?_))) ?_
  · simp only
    by_cases hc : i ≤ b - 1
    · have c1 : decide (((i : Nat) : Int) ≤ ((b - 1 : Nat) : Int)) = true := decide_eq_true (by omega)
      have c2 : bWrap .i64 (((i : Nat) : Int) + 1) = ((i + 1 : Nat) : Int) := by rw [bwrap_of (by unfold inR; omega)]; omega
      have l1 := less_at (N := N) i a d1 (by omega) (by omega) hz1
      cases hl : lessP d1[i]! d1[a]! with
      | true =>
        rw [su_step hc (by simp [hl])] at hi3
        rw [hl] at l1
        simp (decide := true) (maxDischargeDepth := 200) only [go_sem, X1, X2, X3, lkP, c1, c2, l1]
        refine ⟨⟨i + 1, by omega, by omega, hi3⟩, ?_, ?_, by simp only; omega⟩ <;> simp (decide := true) only [go_sem] <;> (repeat' first | rfl | constructor)
      | false =>
        rw [su_stop (by simp [hl])] at hi3
        rw [hl] at l1
        rw [← hi3]
        simp (decide := true) (maxDischargeDepth := 200) only [go_sem, X1, X2, X3, lkP, c1, c2, l1]
    · have c1 : decide (((i : Nat) : Int) ≤ ((b - 1 : Nat) : Int)) = false := decide_eq_false (by omega)
      rw [su_stop (fun h => hc h.1)] at hi3
      rw [← hi3]
      simp (decide := true) (maxDischargeDepth := 200) only [go_sem, X1, X2, X3, lkP, c1]
  refine Sem.seq [(1, .x (.int .i64 (a : Int))), (4, .ptr 4 0), (10, .x (.int .i64 ((IF : Nat) : Int))), (11, .x (.int .i64 ((JF : Nat) : Int)))] [(4, [.x (.func (.func g) #[] gl), .x (.func (.func sf) #[] gs)]), (1004, rowQ d1)] (Sem.block (Sem.loop (X := {j : Nat // j ≤ b - 1 ∧ (IF ≤ j + 1 ∨ j = b - 1) ∧ Go.Sort.scanDown (fun x => !lessP x d1[a]!) d1 IF j = JF}) (fun x => [(1, .x (.int .i64 (a : Int))), (4, .ptr 4 0), (10, .x (.int .i64 ((IF : Nat) : Int))), (11, .x (.int .i64 ((x.1 : Nat) : Int)))]) (fun _ => [(4, [.x (.func (.func g) #[] gl), .x (.func (.func sf) #[] gs)]), (1004, rowQ d1)]) (fun x => x.1) ⟨b - 1, by omega, by omega, hJF⟩ (by simp (decide := true) only [go_sem] <;> (repeat' first | rfl | constructor)) (by simp (decide := true) only [go_sem] <;> (repeat' first | rfl | constructor)) (fun ⟨j, hj1, hj2, hj3⟩ => Sem.run hE follows_mixed (by kernel_rfl) ?_))) ?_
  · simp only
    by_cases hc : IF ≤ j
    · obtain ⟨k, rfl⟩ : ∃ k, j = k + 1 := ⟨j - 1, by omega⟩
      have c1 : decide (((IF : Nat) : Int) ≤ ((k + 1 : Nat) : Int)) = true := decide_eq_true (by omega)
      have c2 : bWrap .i64 (((k + 1 : Nat) : Int) - 1) = ((k : Nat) : Int) := by rw [bwrap_of (by unfold inR; omega)]; omega
      have l1 := less_at (N := N) (k + 1) a d1 (by omega) (by omega) hz1
      cases hl : lessP d1[k + 1]! d1[a]! with
      | false =>
        rw [dn_step hc (by simp [hl])] at hj3
        rw [hl] at l1
        simp (decide := true) (maxDischargeDepth := 200) only [go_sem, X1, X2, X3, lkP, c1, c2, l1]
        refine ⟨⟨k, by omega, by omega, hj3⟩, ?_, ?_, by simp only; omega⟩ <;> simp (decide := true) only [go_sem] <;> (repeat' first | rfl | constructor)
      | true =>
        rw [dn_stop (by simp [hl])] at hj3
        rw [hl] at l1
        rw [← hj3]
        simp (decide := true) (maxDischargeDepth := 200) only [go_sem, X1, X2, X3, lkP, c1, c2, l1]
    · have c1 : decide (((IF : Nat) : Int) ≤ ((j : Nat) : Int)) = false := decide_eq_false (by omega)
      rw [dn_stop (fun h => hc h.1)] at hj3
      rw [← hj3]
      simp (decide := true) (maxDischargeDepth := 200) only [go_sem, X1, X2, X3, lkP, c1]
  by_cases hc : JF < IF
  · rw [part_stop hd1 hIF hJF hc]
    have c1 : decide (((JF : Nat) : Int) < ((IF : Nat) : Int)) = true := decide_eq_true (by omega)
    have s1 := swp_at (N := N) JF a d1 (by omega) (by omega) hz1
    refine Sem.seq_out (Sem.run hE follows_mixed (by kernel_rfl) ?_)
    simp (decide := true) (maxDischargeDepth := 200) only [go_sem, X1, X2, X3, lkP, c1, s1, Try.results74]
  · rw [part_go hd1 hIF hJF hc]
    have c1 : decide (((JF : Nat) : Int) < ((IF : Nat) : Int)) = false := decide_eq_false (by omega)
    have c2 : bWrap .i64 (((IF : Nat) : Int) + 1) = ((IF + 1 : Nat) : Int) := by rw [bwrap_of (by unfold inR; omega)]; omega
    have c3 : bWrap .i64 (((JF : Nat) : Int) - 1) = ((JF - 1 : Nat) : Int) := by rw [bwrap_of (by unfold inR; omega)]; omega
    have s1 := swp_at (N := N) IF JF d1 (by omega) (by omega) hz1
    obtain ⟨d2, hd2⟩ : ∃ d2, swp d1 IF JF = d2 := ⟨_, rfl⟩
    have hz2 : d2.size = N := by rw [← hd2, swp_size]; exact hz1
    rw [hd2] at s1 ⊢
    obtain ⟨PL, hPL⟩ : ∃ PL, Go.Sort.partLoop lessP a (IF + 1) (JF - 1) d2 = PL := ⟨_, rfl⟩
    have bPL := pl_bd (a := a) _ (IF + 1) (JF - 1) d2 (Nat.le_refl _) (by omega) (by omega)
    rw [hPL] at bPL ⊢
    refine Sem.seq [(1, .x (.int .i64 (a : Int))), (4, .ptr 4 0), (10, .x (.int .i64 ((IF : Nat) : Int))), (11, .x (.int .i64 ((JF : Nat) : Int)))] [(4, [.x (.func (.func g) #[] gl), .x (.func (.func sf) #[] gs)]), (1004, rowQ d1)] (Sem.run hE follows_mixed (by kernel_rfl) (by simp (decide := true) (maxDischargeDepth := 200) only [go_sem, X1, X2, X3, lkP, c1])) ?_
    refine Sem.seq [(1, .x (.int .i64 (a : Int))), (4, .ptr 4 0), (10, .x (.int .i64 ((IF : Nat) : Int))), (11, .x (.int .i64 ((JF : Nat) : Int)))] [(4, [.x (.func (.func g) #[] gl), .x (.func (.func sf) #[] gs)]), (1004, rowQ d2)] (Sem.run hE follows_mixed (by kernel_rfl) (by simp (decide := true) (maxDischargeDepth := 200) only [go_sem, X1, X2, X3, lkP, s1])) ?_
    refine Sem.seq [(1, .x (.int .i64 (a : Int))), (4, .ptr 4 0), (10, .x (.int .i64 ((IF + 1 : Nat) : Int))), (11, .x (.int .i64 ((JF : Nat) : Int)))] [(4, [.x (.func (.func g) #[] gl), .x (.func (.func sf) #[] gs)]), (1004, rowQ d2)] (Sem.run hE follows_mixed (by kernel_rfl) (by simp (decide := true) (maxDischargeDepth := 200) only [go_sem, X1, X2, X3, lkP, c2])) ?_
    refine Sem.seq [(1, .x (.int .i64 (a : Int))), (4, .ptr 4 0), (10, .x (.int .i64 ((IF + 1 : Nat) : Int))), (11, .x (.int .i64 ((JF - 1 : Nat) : Int)))] [(4, [.x (.func (.func g) #[] gl), .x (.func (.func sf) #[] gs)]), (1004, rowQ d2)] (Sem.run hE follows_mixed (by kernel_rfl) (by simp (decide := true) (maxDischargeDepth := 200) only [go_sem, X1, X2, X3, lkP, c3])) ?_
    refine Sem.seq [(1, .x (.int .i64 (a : Int))), (4, .ptr 4 0), (11, .x (.int .i64 ((PL.1 : Nat) : Int)))] [(4, [.x (.func (.func g) #[] gl), .x (.func (.func sf) #[] gs)]), (1004, rowQ PL.2)] (Sem.block (Sem.loop (X := {x : Nat × Nat × Array C3 // a + 1 ≤ x.1 ∧ x.1 ≤ x.2.1 + 2 ∧ x.2.1 < b ∧ x.2.2.size = N ∧ Go.Sort.partLoop lessP a x.1 x.2.1 x.2.2 = PL}) (fun x => [(1, .x (.int .i64 (a : Int))), (4, .ptr 4 0), (10, .x (.int .i64 ((x.1.1 : Nat) : Int))), (11, .x (.int .i64 ((x.1.2.1 : Nat) : Int)))]) (fun x => [(4, [.x (.func (.func g) #[] gl), .x (.func (.func sf) #[] gs)]), (1004, rowQ x.1.2.2)]) (fun x => x.1.2.1 + 1 - x.1.1) ⟨(IF + 1, JF - 1, d2), by simp only; omega, by simp only; omega, by simp only; omega, hz2, hPL⟩ (by simp (decide := true) only [go_sem] <;> (repeat' first | rfl | constructor)) (by simp (decide := true) only [go_sem] <;> (repeat' first | rfl | constructor)) (fun ⟨⟨i0, j0, dk⟩, hx1, hx2, hx3, hdk, heq⟩ => ?_))) ?_
    · simp only at hx1 hx2 hx3 hdk heq ⊢
      refine Sem.block ?_
      obtain ⟨IL, hIL⟩ : ∃ I, Go.Sort.scanUp (fun x => lessP x dk[a]!) dk (j0) (i0) = I := ⟨_, rfl⟩
      obtain ⟨JL, hJL⟩ : ∃ J, Go.Sort.scanDown (fun x => !lessP x dk[a]!) dk IL (j0) = J := ⟨_, rfl⟩
      have buL := su_bd (p := fun x => lessP x dk[a]!) (d := dk) (j := j0) _ (i0) (Nat.le_refl _)
      rw [hIL] at buL
      have bdL := dn_bd (p := fun x => !lessP x dk[a]!) (d := dk) (i := IL) (by omega) (j0)
      rw [hJL] at bdL
      refine Sem.seq [(1, .x (.int .i64 (a : Int))), (4, .ptr 4 0), (10, .x (.int .i64 ((IL : Nat) : Int))), (11, .x (.int .i64 ((j0 : Nat) : Int)))] [(4, [.x (.func (.func g) #[] gl), .x (.func (.func sf) #[] gs)]), (1004, rowQ dk)] (Sem.block (Sem.loop (X := {i : Nat // i0 ≤ i ∧ (i ≤ j0 + 1 ∨ i = i0) ∧ Go.Sort.scanUp (fun x => lessP x dk[a]!) dk (j0) i = IL}) (fun x => [(1, .x (.int .i64 (a : Int))), (4, .ptr 4 0), (10, .x (.int .i64 ((x.1 : Nat) : Int))), (11, .x (.int .i64 ((j0 : Nat) : Int)))]) (fun _ => [(4, [.x (.func (.func g) #[] gl), .x (.func (.func sf) #[] gs)]), (1004, rowQ dk)]) (fun x => j0 + 1 - x.1) ⟨i0, by omega, by omega, hIL⟩ (by simp (decide := true) only [go_sem] <;> (repeat' first | rfl | constructor)) (by simp (decide := true) only [go_sem] <;> (repeat' first | rfl | constructor)) (fun ⟨i, hi1, hi2, hi3⟩ => Sem.run hE follows_mixed (by kernel_rfl) ?_))) ?_
      · simp only
        by_cases hc : i ≤ j0
        · have c1 : decide (((i : Nat) : Int) ≤ ((j0 : Nat) : Int)) = true := decide_eq_true (by omega)
          have c2 : bWrap .i64 (((i : Nat) : Int) + 1) = ((i + 1 : Nat) : Int) := by rw [bwrap_of (by unfold inR; omega)]; omega
          have l1 := less_at (N := N) i a dk (by omega) (by omega) hdk
          cases hl : lessP dk[i]! dk[a]! with
          | true =>
            rw [su_step hc (by simp [hl])] at hi3
            rw [hl] at l1
            simp (decide := true) (maxDischargeDepth := 200) only [go_sem, X1, X2, X3, lkP, c1, c2, l1]
            refine ⟨⟨i + 1, by omega, by omega, hi3⟩, ?_, ?_, by simp only; omega⟩ <;> simp (decide := true) only [go_sem] <;> (repeat' first | rfl | constructor)
          | false =>
            rw [su_stop (by simp [hl])] at hi3
            rw [hl] at l1
            rw [← hi3]
            simp (decide := true) (maxDischargeDepth := 200) only [go_sem, X1, X2, X3, lkP, c1, c2, l1]
        · have c1 : decide (((i : Nat) : Int) ≤ ((j0 : Nat) : Int)) = false := decide_eq_false (by omega)
          rw [su_stop (fun h => hc h.1)] at hi3
          rw [← hi3]
          simp (decide := true) (maxDischargeDepth := 200) only [go_sem, X1, X2, X3, lkP, c1]
      refine Sem.seq [(1, .x (.int .i64 (a : Int))), (4, .ptr 4 0), (10, .x (.int .i64 ((IL : Nat) : Int))), (11, .x (.int .i64 ((JL : Nat) : Int)))] [(4, [.x (.func (.func g) #[] gl), .x (.func (.func sf) #[] gs)]), (1004, rowQ dk)] (Sem.block (Sem.loop (X := {j : Nat // j ≤ j0 ∧ (IL ≤ j + 1 ∨ j = j0) ∧ Go.Sort.scanDown (fun x => !lessP x dk[a]!) dk IL j = JL}) (fun x => [(1, .x (.int .i64 (a : Int))), (4, .ptr 4 0), (10, .x (.int .i64 ((IL : Nat) : Int))), (11, .x (.int .i64 ((x.1 : Nat) : Int)))]) (fun _ => [(4, [.x (.func (.func g) #[] gl), .x (.func (.func sf) #[] gs)]), (1004, rowQ dk)]) (fun x => x.1) ⟨j0, by omega, by omega, hJL⟩ (by simp (decide := true) only [go_sem] <;> (repeat' first | rfl | constructor)) (by simp (decide := true) only [go_sem] <;> (repeat' first | rfl | constructor)) (fun ⟨j, hj1, hj2, hj3⟩ => Sem.run hE follows_mixed (by kernel_rfl) ?_))) ?_
      · simp only
        by_cases hc : IL ≤ j
        · obtain ⟨k, rfl⟩ : ∃ k, j = k + 1 := ⟨j - 1, by omega⟩
          have c1 : decide (((IL : Nat) : Int) ≤ ((k + 1 : Nat) : Int)) = true := decide_eq_true (by omega)
          have c2 : bWrap .i64 (((k + 1 : Nat) : Int) - 1) = ((k : Nat) : Int) := by rw [bwrap_of (by unfold inR; omega)]; omega
          have l1 := less_at (N := N) (k + 1) a dk (by omega) (by omega) hdk
          cases hl : lessP dk[k + 1]! dk[a]! with
          | false =>
            rw [dn_step hc (by simp [hl])] at hj3
            rw [hl] at l1
            simp (decide := true) (maxDischargeDepth := 200) only [go_sem, X1, X2, X3, lkP, c1, c2, l1]
            refine ⟨⟨k, by omega, by omega, hj3⟩, ?_, ?_, by simp only; omega⟩ <;> simp (decide := true) only [go_sem] <;> (repeat' first | rfl | constructor)
          | true =>
            rw [dn_stop (by simp [hl])] at hj3
            rw [hl] at l1
            rw [← hj3]
            simp (decide := true) (maxDischargeDepth := 200) only [go_sem, X1, X2, X3, lkP, c1, c2, l1]
        · have c1 : decide (((IL : Nat) : Int) ≤ ((j : Nat) : Int)) = false := decide_eq_false (by omega)
          rw [dn_stop (fun h => hc h.1)] at hj3
          rw [← hj3]
          simp (decide := true) (maxDischargeDepth := 200) only [go_sem, X1, X2, X3, lkP, c1]
      by_cases hc : JL < IL
      · rw [pl_stop hIL hJL hc] at heq
        have c1 : decide (((JL : Nat) : Int) < ((IL : Nat) : Int)) = true := decide_eq_true (by omega)
        rw [← heq]
        refine Sem.seq_out (Sem.run hE follows_mixed (by kernel_rfl) ?_)
        simp (decide := true) (maxDischargeDepth := 200) only [go_sem, X1, X2, X3, lkP, c1]
      · rw [pl_step hIL hJL hc (by omega)] at heq
        have c1 : decide (((JL : Nat) : Int) < ((IL : Nat) : Int)) = false := decide_eq_false (by omega)
        have c2 : bWrap .i64 (((IL : Nat) : Int) + 1) = ((IL + 1 : Nat) : Int) := by rw [bwrap_of (by unfold inR; omega)]; omega
        have c3 : bWrap .i64 (((JL : Nat) : Int) - 1) = ((JL - 1 : Nat) : Int) := by rw [bwrap_of (by unfold inR; omega)]; omega
        have s1 := swp_at (N := N) IL JL dk (by omega) (by omega) hdk
        refine Sem.run hE follows_mixed (by kernel_rfl) ?_
        simp (decide := true) (maxDischargeDepth := 200) only [go_sem, X1, X2, X3, lkP, c1, c2, c3, s1]
        refine ⟨⟨(IL + 1, JL - 1, swp dk IL JL), by simp only; omega, by simp only; omega, by simp only; omega, by rw [swp_size]; exact hdk, heq⟩, ?_, ?_, by simp only; omega⟩ <;> simp (decide := true) only [go_sem] <;> (repeat' first | rfl | constructor)
    have s3 := swp_at (N := N) PL.1 a PL.2 (by omega) (by omega) (by omega)
    refine Sem.run hE follows_mixed (by kernel_rfl) ?_
    simp (decide := true) (maxDischargeDepth := 200) only [go_sem, X1, X2, X3, lkP, s3, Try.results74]

set_option maxHeartbeats 8000000 in
set_option maxRecDepth 100000 in
theorem parte_X {G : Nat → V} {bk N : Nat} {g sf : FuncId} {gl gs : Array Value} (hS : SoOK G bk N g sf gl gs) : FunXV G bk 73 [] (FE (enD3 g sf gl gs) (GPartE N)) := by
  obtain ⟨X, hX, X1, X2, X3⟩ := tb_ex hS [] trivial
  have hN := hS.N1
  unfold MX at hN
  refine fun_of_semXV (k := 4) hX Try.func73 rfl (fun a w => Try.call73 a w) Try.ntmps73 (by decide) (by decide) ?_
  clear hX
  intro us r outs hF
  obtain ⟨⟨a, b, pv, d⟩, hus, hG⟩ := FE_out hF
  clear hF
  subst hus
  unfold GPartE at hG
  obtain ⟨⟨hap, hpb, hbN, hd⟩, hG⟩ := ite_some hG
  simp only at hap hpb hbN hd
  cases hG
  refine ⟨_, rfl, rfl, fun pm m0 w0 hE => ?_⟩
  simp only [enD3]
  have s0 := swp_at (N := N) a pv d (by omega) (by omega) hd
  obtain ⟨d1, hd1⟩ : ∃ d1, swp d a pv = d1 := ⟨_, rfl⟩
  have hz1 : d1.size = N := by rw [← hd1, swp_size]; exact hd
  rw [hd1] at s0
  have w1 : bWrap .i64 ((a : Int) + 1) = ((a + 1 : Nat) : Int) := by rw [bwrap_of (by unfold inR; omega)]; omega
  have w2 : bWrap .i64 ((b : Int) - 1) = ((b - 1 : Nat) : Int) := by rw [bwrap_of (by unfold inR; omega)]; omega
  unfold Go.Sort.partitionEqual
  rw [hd1]
  obtain ⟨PL, hPL⟩ : ∃ PL, Go.Sort.partEqLoop lessP a (a + 1) (b - 1) d1 = PL := ⟨_, rfl⟩
  rw [hPL]
  refine Sem.seq [(1, .x (.int .i64 (a : Int))), (2, .x (.int .i64 (b : Int))), (3, .x (.int .i64 (pv : Int))), (4, .ptr 4 0)] [(4, [.x (.func (.func g) #[] gl), .x (.func (.func sf) #[] gs)]), (1004, rowQ d)] (Sem.run hE follows_mixed (by kernel_rfl) (by simp (decide := true) (maxDischargeDepth := 200) only [go_sem, X1, X2, X3, lkP])) ?_
  refine Sem.seq [(1, .x (.int .i64 (a : Int))), (2, .x (.int .i64 (b : Int))), (3, .x (.int .i64 (pv : Int))), (4, .ptr 4 0)] [(4, [.x (.func (.func g) #[] gl), .x (.func (.func sf) #[] gs)]), (1004, rowQ d1)] (Sem.run hE follows_mixed (by kernel_rfl) (by simp (decide := true) (maxDischargeDepth := 200) only [go_sem, X1, X2, X3, lkP, s0])) ?_
  refine Sem.seq [(1, .x (.int .i64 (a : Int))), (4, .ptr 4 0), (9, .x (.int .i64 ((a + 1 : Nat) : Int))), (10, .x (.int .i64 ((b - 1 : Nat) : Int)))] [(4, [.x (.func (.func g) #[] gl), .x (.func (.func sf) #[] gs)]), (1004, rowQ d1)] (Sem.run hE follows_mixed (by kernel_rfl) (by simp (decide := true) (maxDischargeDepth := 200) only [go_sem, X1, X2, X3, lkP, w1, w2])) ?_
  refine Sem.seq [(9, .x (.int .i64 ((PL.1 : Nat) : Int)))] [(4, [.x (.func (.func g) #[] gl), .x (.func (.func sf) #[] gs)]), (1004, rowQ PL.2)] (Sem.block (Sem.loop (X := {x : Nat × Nat × Array C3 // a + 1 ≤ x.1 ∧ x.1 ≤ x.2.1 + 2 ∧ x.2.1 < b ∧ x.2.2.size = N ∧ Go.Sort.partEqLoop lessP a x.1 x.2.1 x.2.2 = PL}) (fun x => [(1, .x (.int .i64 (a : Int))), (4, .ptr 4 0), (9, .x (.int .i64 ((x.1.1 : Nat) : Int))), (10, .x (.int .i64 ((x.1.2.1 : Nat) : Int)))]) (fun x => [(4, [.x (.func (.func g) #[] gl), .x (.func (.func sf) #[] gs)]), (1004, rowQ x.1.2.2)]) (fun x => x.1.2.1 + 1 - x.1.1) ⟨(a + 1, b - 1, d1), by simp only; omega, by simp only; omega, by simp only; omega, hz1, hPL⟩ (by simp (decide := true) only [go_sem] <;> (repeat' first | rfl | constructor)) (by simp (decide := true) only [go_sem] <;> (repeat' first | rfl | constructor)) (fun ⟨⟨i0, j0, dk⟩, hx1, hx2, hx3, hdk, heq⟩ => ?_))) ?_
  · simp only at hx1 hx2 hx3 hdk heq ⊢
    refine Sem.block ?_
    obtain ⟨IL, hIL⟩ : ∃ I, Go.Sort.scanUp (fun x => !lessP dk[a]! x) dk (j0) (i0) = I := ⟨_, rfl⟩
    obtain ⟨JL, hJL⟩ : ∃ J, Go.Sort.scanDown (fun x => lessP dk[a]! x) dk IL (j0) = J := ⟨_, rfl⟩
    have buL := su_bd (p := fun x => !lessP dk[a]! x) (d := dk) (j := j0) _ (i0) (Nat.le_refl _)
    rw [hIL] at buL
    have bdL := dn_bd (p := fun x => lessP dk[a]! x) (d := dk) (i := IL) (by omega) (j0)
    rw [hJL] at bdL
    refine Sem.seq [(1, .x (.int .i64 (a : Int))), (4, .ptr 4 0), (9, .x (.int .i64 ((IL : Nat) : Int))), (10, .x (.int .i64 ((j0 : Nat) : Int)))] [(4, [.x (.func (.func g) #[] gl), .x (.func (.func sf) #[] gs)]), (1004, rowQ dk)] (Sem.block (Sem.loop (X := {i : Nat // i0 ≤ i ∧ (i ≤ j0 + 1 ∨ i = i0) ∧ Go.Sort.scanUp (fun x => !lessP dk[a]! x) dk (j0) i = IL}) (fun x => [(1, .x (.int .i64 (a : Int))), (4, .ptr 4 0), (9, .x (.int .i64 ((x.1 : Nat) : Int))), (10, .x (.int .i64 ((j0 : Nat) : Int)))]) (fun _ => [(4, [.x (.func (.func g) #[] gl), .x (.func (.func sf) #[] gs)]), (1004, rowQ dk)]) (fun x => j0 + 1 - x.1) ⟨i0, by omega, by omega, hIL⟩ (by simp (decide := true) only [go_sem] <;> (repeat' first | rfl | constructor)) (by simp (decide := true) only [go_sem] <;> (repeat' first | rfl | constructor)) (fun ⟨i, hi1, hi2, hi3⟩ => Sem.run hE follows_mixed (by kernel_rfl) ?_))) ?_
    · simp only
      by_cases hc : i ≤ j0
      · have c1 : decide (((i : Nat) : Int) ≤ ((j0 : Nat) : Int)) = true := decide_eq_true (by omega)
        have c2 : bWrap .i64 (((i : Nat) : Int) + 1) = ((i + 1 : Nat) : Int) := by rw [bwrap_of (by unfold inR; omega)]; omega
        have l1 := less_at (N := N) a i dk (by omega) (by omega) hdk
        cases hl : lessP dk[a]! dk[i]! with
        | false =>
          rw [su_step hc (by simp [hl])] at hi3
          rw [hl] at l1
          simp (decide := true) (maxDischargeDepth := 200) only [go_sem, X1, X2, X3, lkP, c1, c2, l1]
          refine ⟨⟨i + 1, by omega, by omega, hi3⟩, ?_, ?_, by simp only; omega⟩ <;> simp (decide := true) only [go_sem] <;> (repeat' first | rfl | constructor)
        | true =>
          rw [su_stop (by simp [hl])] at hi3
          rw [hl] at l1
          rw [← hi3]
          simp (decide := true) (maxDischargeDepth := 200) only [go_sem, X1, X2, X3, lkP, c1, c2, l1]
      · have c1 : decide (((i : Nat) : Int) ≤ ((j0 : Nat) : Int)) = false := decide_eq_false (by omega)
        rw [su_stop (fun h => hc h.1)] at hi3
        rw [← hi3]
        simp (decide := true) (maxDischargeDepth := 200) only [go_sem, X1, X2, X3, lkP, c1]
    refine Sem.seq [(1, .x (.int .i64 (a : Int))), (4, .ptr 4 0), (9, .x (.int .i64 ((IL : Nat) : Int))), (10, .x (.int .i64 ((JL : Nat) : Int)))] [(4, [.x (.func (.func g) #[] gl), .x (.func (.func sf) #[] gs)]), (1004, rowQ dk)] (Sem.block (Sem.loop (X := {j : Nat // j ≤ j0 ∧ (IL ≤ j + 1 ∨ j = j0) ∧ Go.Sort.scanDown (fun x => lessP dk[a]! x) dk IL j = JL}) (fun x => [(1, .x (.int .i64 (a : Int))), (4, .ptr 4 0), (9, .x (.int .i64 ((IL : Nat) : Int))), (10, .x (.int .i64 ((x.1 : Nat) : Int)))]) (fun _ => [(4, [.x (.func (.func g) #[] gl), .x (.func (.func sf) #[] gs)]), (1004, rowQ dk)]) (fun x => x.1) ⟨j0, by omega, by omega, hJL⟩ (by simp (decide := true) only [go_sem] <;> (repeat' first | rfl | constructor)) (by simp (decide := true) only [go_sem] <;> (repeat' first | rfl | constructor)) (fun ⟨j, hj1, hj2, hj3⟩ => Sem.run hE follows_mixed (by kernel_rfl) ?_))) ?_
    · simp only
      by_cases hc : IL ≤ j
      · obtain ⟨k, rfl⟩ : ∃ k, j = k + 1 := ⟨j - 1, by omega⟩
        have c1 : decide (((IL : Nat) : Int) ≤ ((k + 1 : Nat) : Int)) = true := decide_eq_true (by omega)
        have c2 : bWrap .i64 (((k + 1 : Nat) : Int) - 1) = ((k : Nat) : Int) := by rw [bwrap_of (by unfold inR; omega)]; omega
        have l1 := less_at (N := N) a (k + 1) dk (by omega) (by omega) hdk
        cases hl : lessP dk[a]! dk[k + 1]! with
        | true =>
          rw [dn_step hc (by simp [hl])] at hj3
          rw [hl] at l1
          simp (decide := true) (maxDischargeDepth := 200) only [go_sem, X1, X2, X3, lkP, c1, c2, l1]
          refine ⟨⟨k, by omega, by omega, hj3⟩, ?_, ?_, by simp only; omega⟩ <;> simp (decide := true) only [go_sem] <;> (repeat' first | rfl | constructor)
        | false =>
          rw [dn_stop (by simp [hl])] at hj3
          rw [hl] at l1
          rw [← hj3]
          simp (decide := true) (maxDischargeDepth := 200) only [go_sem, X1, X2, X3, lkP, c1, c2, l1]
      · have c1 : decide (((IL : Nat) : Int) ≤ ((j : Nat) : Int)) = false := decide_eq_false (by omega)
        rw [dn_stop (fun h => hc h.1)] at hj3
        rw [← hj3]
        simp (decide := true) (maxDischargeDepth := 200) only [go_sem, X1, X2, X3, lkP, c1]
    by_cases hc : JL < IL
    · rw [pe_stop hIL hJL hc] at heq
      have c1 : decide (((JL : Nat) : Int) < ((IL : Nat) : Int)) = true := decide_eq_true (by omega)
      rw [← heq]
      refine Sem.seq_out (Sem.run hE follows_mixed (by kernel_rfl) ?_)
      simp (decide := true) (maxDischargeDepth := 200) only [go_sem, X1, X2, X3, lkP, c1]
    · rw [pe_step hIL hJL hc (by omega)] at heq
      have c1 : decide (((JL : Nat) : Int) < ((IL : Nat) : Int)) = false := decide_eq_false (by omega)
      have c2 : bWrap .i64 (((IL : Nat) : Int) + 1) = ((IL + 1 : Nat) : Int) := by rw [bwrap_of (by unfold inR; omega)]; omega
      have c3 : bWrap .i64 (((JL : Nat) : Int) - 1) = ((JL - 1 : Nat) : Int) := by rw [bwrap_of (by unfold inR; omega)]; omega
      have s1 := swp_at (N := N) IL JL dk (by omega) (by omega) hdk
      refine Sem.run hE follows_mixed (by kernel_rfl) ?_
      simp (decide := true) (maxDischargeDepth := 200) only [go_sem, X1, X2, X3, lkP, c1, c2, c3, s1]
      refine ⟨⟨(IL + 1, JL - 1, swp dk IL JL), by simp only; omega, by simp only; omega, by simp only; omega, by rw [swp_size]; exact hdk, heq⟩, ?_, ?_, by simp only; omega⟩ <;> simp (decide := true) only [go_sem] <;> (repeat' first | rfl | constructor)
  refine Sem.run hE follows_mixed (by kernel_rfl) ?_
  simp (decide := true) (maxDischargeDepth := 200) only [go_sem, X1, X2, X3, lkP, Try.results73]

end Go.Proofs.Ytiphliochoengaa

/- Sorting by a function value: where all but little is sorted; turning round. -/
namespace Go.Proofs.Ytiphliochoengaa
open Go Go.RowKit
open Go.Sort (swp)
set_option linter.unusedSimpArgs false
theorem ss_step {d : Array C3} {b i : Nat} (h : i < b) (hl : lessP d[i]! d[i - 1]! = false) : Go.Sort.scanSorted lessP d b i = Go.Sort.scanSorted lessP d b (i + 1) := by
  rw [Go.Sort.scanSorted, if_pos (by rw [hl]; simpa using h)]
theorem ss_stop {d : Array C3} {b i : Nat} (h : ¬ (i < b ∧ lessP d[i]! d[i - 1]! = false)) : Go.Sort.scanSorted lessP d b i = i := by
  rw [Go.Sort.scanSorted, if_neg (by simpa using h)]
theorem ss_bd {d : Array C3} {b : Nat} : ∀ (n i : Nat), b - i ≤ n → i ≤ b → i ≤ Go.Sort.scanSorted lessP d b i ∧ Go.Sort.scanSorted lessP d b i ≤ b := by
  intro n
  induction n with
  | zero => intro i h hi; rw [ss_stop (by omega)]; omega
  | succ n ih =>
    intro i h hi
    by_cases h0 : i < b ∧ lessP d[i]! d[i - 1]! = false
    · rw [ss_step h0.1 h0.2]
      have := ih (i + 1) (by omega) (by omega)
      omega
    · rw [ss_stop h0]; omega
theorem shd_size : ∀ (j : Nat) (d : Array C3), (Go.Sort.shiftDown lessP j d).size = d.size
  | 0, d => rfl
  | j + 1, d => by
    rw [Go.Sort.shiftDown]
    split
    · rfl
    · rw [shd_size j, swp_size]
theorem shu_size (b : Nat) : ∀ (n j : Nat) (d : Array C3), b - j ≤ n → (Go.Sort.shiftUp lessP b j d).size = d.size := by
  intro n
  induction n with
  | zero => intro j d h; rw [Go.Sort.shiftUp, if_neg (by omega)]
  | succ n ih =>
    intro j d h
    rw [Go.Sort.shiftUp]
    split
    · split
      · rfl
      · rw [ih _ _ (by omega), swp_size]
    · rfl
section
variable {a b s i I : Nat} {d : Array C3}
theorem pi_1 (hI : Go.Sort.scanSorted lessP d b i = I) (h : I = b) : Go.Sort.partialIns lessP a b (s + 1) i d = (d, true) := by
  rw [Go.Sort.partialIns]
  simp only [hI, h, if_true]
theorem pi_2 (hI : Go.Sort.scanSorted lessP d b i = I) (h : ¬ I = b) (h2 : b - a < 50) : Go.Sort.partialIns lessP a b (s + 1) i d = (d, false) := by
  rw [Go.Sort.partialIns]
  simp only [hI, h, if_false, h2, if_true]
theorem pi_3 (hI : Go.Sort.scanSorted lessP d b i = I) (h : ¬ I = b) (h2 : ¬ b - a < 50) : Go.Sort.partialIns lessP a b (s + 1) i d = Go.Sort.partialIns lessP a b s I (if b - I ≥ 2 then Go.Sort.shiftUp lessP b (I + 1) (if I - a ≥ 2 then Go.Sort.shiftDown lessP (I - 1) (swp d I (I - 1)) else swp d I (I - 1)) else (if I - a ≥ 2 then Go.Sort.shiftDown lessP (I - 1) (swp d I (I - 1)) else swp d I (I - 1))) := by
  rw [Go.Sort.partialIns]
  simp only [hI, h, if_false, h2]
end
def GPins (N : Nat) (x : Nat × Nat × Array C3) : Option (V × List (List V)) := if x.1 < x.2.1 ∧ x.2.1 ≤ N ∧ x.2.2.size = N then some (.x (.bool (Go.Sort.partialInsertionSort lessP x.2.2 x.1 x.2.1).2), [rowQ (Go.Sort.partialInsertionSort lessP x.2.2 x.1 x.2.1).1]) else none
def GRev (N : Nat) (x : Nat × Nat × Array C3) : Option (V × List (List V)) := if x.1 < x.2.1 ∧ x.2.1 ≤ N ∧ x.2.2.size = N then some (.tup [], [rowQ (Go.Sort.reverseRange x.2.2 x.1 x.2.1)]) else none
set_option maxHeartbeats 8000000 in
set_option maxRecDepth 100000 in
theorem pins_X {G : Nat → V} {bk N : Nat} {g sf : FuncId} {gl gs : Array Value} (hS : SoOK G bk N g sf gl gs) : FunXV G bk 72 [] (FE (enD2 g sf gl gs) (GPins N)) := by
  obtain ⟨X, hX, X1, X2, X3⟩ := tb_ex hS [] trivial
  have hN := hS.N1
  unfold MX at hN
  refine fun_of_semXV (k := 3) hX Try.func72 rfl (fun a w => Try.call72 a w) Try.ntmps72 (by decide) (by decide) ?_
  clear hX
  intro us r outs hF
  obtain ⟨⟨a, b, d⟩, hus, hG⟩ := FE_out hF
  clear hF
  subst hus
  unfold GPins at hG
  obtain ⟨⟨hab, hbN, hd⟩, hG⟩ := ite_some hG
  simp only at hab hbN hd
  cases hG
  refine ⟨_, rfl, rfl, fun pm m0 w0 hE => ?_⟩
  simp only [enD2]
  have w1 : bWrap .i64 ((a : Int) + 1) = ((a + 1 : Nat) : Int) := by rw [bwrap_of (by unfold inR; omega)]; omega
  unfold Go.Sort.partialInsertionSort
  obtain ⟨PI, hPI⟩ : ∃ PI, Go.Sort.partialIns lessP a b 5 (a + 1) d = PI := ⟨_, rfl⟩
  rw [hPI]
  refine Sem.seq [(1, .x (.int .i64 (a : Int))), (2, .x (.int .i64 (b : Int))), (3, .ptr 3 0)] [(3, [.x (.func (.func g) #[] gl), .x (.func (.func sf) #[] gs)]), (1003, rowQ d)] (Sem.run hE follows_mixed (by kernel_rfl) (by simp (decide := true) (maxDischargeDepth := 200) only [go_sem, X1, X2, X3, lkP])) ?_
  refine Sem.seq [(1, .x (.int .i64 (a : Int))), (2, .x (.int .i64 (b : Int))), (3, .ptr 3 0), (7, .x (.int .i64 ((a + 1 : Nat) : Int)))] [(3, [.x (.func (.func g) #[] gl), .x (.func (.func sf) #[] gs)]), (1003, rowQ d)] (Sem.run hE follows_mixed (by kernel_rfl) (by simp (decide := true) (maxDischargeDepth := 200) only [go_sem, X1, X2, X3, lkP, w1])) ?_
  refine Sem.seqQ (PI.2 = false) [] [(3, [.x (.func (.func g) #[] gl), .x (.func (.func sf) #[] gs)]), (1003, rowQ PI.1)] ?_ (fun hf => ?_)
  rotate_left
  · refine Sem.run hE follows_mixed (by kernel_rfl) ?_
    simp (decide := true) (maxDischargeDepth := 200) only [go_sem, X1, X2, X3, lkP, hf, Try.results72]
  refine Sem.seq [(1, .x (.int .i64 (a : Int))), (2, .x (.int .i64 (b : Int))), (3, .ptr 3 0), (7, .x (.int .i64 ((a + 1 : Nat) : Int))), (8, .x (.int .i64 (0)))] [(3, [.x (.func (.func g) #[] gl), .x (.func (.func sf) #[] gs)]), (1003, rowQ d)] (Sem.run hE follows_mixed (by kernel_rfl) (by simp (decide := true) (maxDischargeDepth := 200) only [go_sem, X1, X2, X3, lkP])) ?_
  refine Sem.block (Sem.loop (X := {x : Nat × Nat × Array C3 // x.1 ≤ 5 ∧ a + 1 ≤ x.2.1 ∧ x.2.1 ≤ b ∧ x.2.2.size = N ∧ Go.Sort.partialIns lessP a b x.1 x.2.1 x.2.2 = PI}) (fun x => [(1, .x (.int .i64 (a : Int))), (2, .x (.int .i64 (b : Int))), (3, .ptr 3 0), (7, .x (.int .i64 ((x.1.2.1 : Nat) : Int))), (8, .x (.int .i64 (5 - (x.1.1 : Int))))]) (fun x => [(3, [.x (.func (.func g) #[] gl), .x (.func (.func sf) #[] gs)]), (1003, rowQ x.1.2.2)]) (fun x => x.1.1) ⟨(5, a + 1, d), by simp only; omega, by simp only; omega, by simp only; omega, hd, hPI⟩ (by simp (decide := true) only [go_sem] <;> (repeat' first | rfl | constructor)) (by simp (decide := true) only [go_sem] <;> (repeat' first | rfl | constructor)) (fun ⟨⟨s, i0, d0⟩, hs, hi1, hi2, hd0, heq⟩ => ?_))
  simp only at hs hi1 hi2 hd0 heq ⊢
  cases s with
  | zero =>
    have c0 : decide (5 - ((0 : Nat) : Int) < 5) = false := decide_eq_false (by omega)
    rw [Go.Sort.partialIns] at heq
    rw [← heq]
    refine Sem.seq_out (Sem.run hE follows_mixed (by kernel_rfl) ?_)
    simp (decide := true) (maxDischargeDepth := 200) only [go_sem, X1, X2, X3, lkP, c0]
  | succ s =>
    have c0 : decide (5 - ((s + 1 : Nat) : Int) < 5) = true := decide_eq_true (by omega)
    have e0 : bWrap .i64 (5 - ((s + 1 : Nat) : Int) + 1) = 5 - ((s : Nat) : Int) := by rw [bwrap_of (by unfold inR; omega)]; omega
    refine Sem.seq [(1, .x (.int .i64 (a : Int))), (2, .x (.int .i64 (b : Int))), (3, .ptr 3 0), (7, .x (.int .i64 ((i0 : Nat) : Int))), (8, .x (.int .i64 (5 - ((s + 1 : Nat) : Int))))] [(3, [.x (.func (.func g) #[] gl), .x (.func (.func sf) #[] gs)]), (1003, rowQ d0)] (Sem.run hE follows_mixed (by kernel_rfl) (by simp (decide := true) (maxDischargeDepth := 200) only [go_sem, X1, X2, X3, lkP, c0])) ?_
    obtain ⟨I, hI⟩ : ∃ I, Go.Sort.scanSorted lessP d0 b i0 = I := ⟨_, rfl⟩
    have bI := ss_bd (d := d0) (b := b) _ i0 (Nat.le_refl _) hi2
    rw [hI] at bI
    obtain ⟨D0, hD0⟩ : ∃ D0, swp d0 I (I - 1) = D0 := ⟨_, rfl⟩
    obtain ⟨D1, hD1⟩ : ∃ D1, (if I - a ≥ 2 then Go.Sort.shiftDown lessP (I - 1) D0 else D0) = D1 := ⟨_, rfl⟩
    obtain ⟨D2, hD2⟩ : ∃ D2, (if b - I ≥ 2 then Go.Sort.shiftUp lessP b (I + 1) D1 else D1) = D2 := ⟨_, rfl⟩
    have z0 : D0.size = N := by rw [← hD0, swp_size]; exact hd0
    have z1 : D1.size = N := by
      rw [← hD1]
      split
      · rw [shd_size]; exact z0
      · exact z0
    have z2 : D2.size = N := by
      rw [← hD2]
      split
      · rw [shu_size _ _ _ _ (Nat.le_refl _)]; exact z1
      · exact z1
    obtain ⟨Q, hQ1, hQ2⟩ : ∃ Q : Prop, (Q → ¬ I = b ∧ ¬ b - a < 50) ∧ (¬ I = b → ¬ b - a < 50 → Q) := ⟨_, id, fun h1 h2 => ⟨h1, h2⟩⟩
    refine Sem.seqQ Q [(1, .x (.int .i64 (a : Int))), (2, .x (.int .i64 (b : Int))), (3, .ptr 3 0), (7, .x (.int .i64 ((I : Nat) : Int))), (8, .x (.int .i64 (5 - ((s + 1 : Nat) : Int))))] [(3, [.x (.func (.func g) #[] gl), .x (.func (.func sf) #[] gs)]), (1003, rowQ D2)] (Sem.block ?_) (fun hQ => ?_)
    rotate_left
    · have hQ := hQ1 hQ
      rw [pi_3 hI hQ.1 hQ.2, hD0, hD1, hD2] at heq
      refine Sem.run hE follows_mixed (by kernel_rfl) ?_
      simp (decide := true) (maxDischargeDepth := 200) only [go_sem, X1, X2, X3, lkP, e0]
      refine ⟨⟨(s, I, D2), by simp only; omega, by simp only; omega, by simp only; omega, z2, heq⟩, ?_, ?_, by simp only; omega⟩ <;> simp (decide := true) only [go_sem] <;> (repeat' first | rfl | constructor)
    refine Sem.seq [(1, .x (.int .i64 (a : Int))), (2, .x (.int .i64 (b : Int))), (3, .ptr 3 0), (7, .x (.int .i64 ((I : Nat) : Int))), (8, .x (.int .i64 (5 - ((s + 1 : Nat) : Int))))] [(3, [.x (.func (.func g) #[] gl), .x (.func (.func sf) #[] gs)]), (1003, rowQ d0)] (Sem.block (Sem.loop (X := {i : Nat // i0 ≤ i ∧ i ≤ b ∧ Go.Sort.scanSorted lessP d0 b i = I}) (fun x => [(1, .x (.int .i64 (a : Int))), (2, .x (.int .i64 (b : Int))), (3, .ptr 3 0), (7, .x (.int .i64 ((x.1 : Nat) : Int))), (8, .x (.int .i64 (5 - ((s + 1 : Nat) : Int))))]) (fun _ => [(3, [.x (.func (.func g) #[] gl), .x (.func (.func sf) #[] gs)]), (1003, rowQ d0)]) (fun x => b - x.1) ⟨i0, by omega, by omega, hI⟩ (by simp (decide := true) only [go_sem] <;> (repeat' first | rfl | constructor)) (by simp (decide := true) only [go_sem] <;> (repeat' first | rfl | constructor)) (fun ⟨i, hi1, hi2, hi3⟩ => Sem.run hE follows_mixed (by kernel_rfl) ?_))) ?_
    · simp only
      by_cases hc : i < b
      · have c1 : decide (((i : Nat) : Int) < ((b : Nat) : Int)) = true := decide_eq_true (by omega)
        have c2 : bWrap .i64 (((i : Nat) : Int) + 1) = ((i + 1 : Nat) : Int) := by rw [bwrap_of (by unfold inR; omega)]; omega
        have c3 : bWrap .i64 (((i : Nat) : Int) - 1) = ((i - 1 : Nat) : Int) := by rw [bwrap_of (by unfold inR; omega)]; omega
        have l1 := less_at (N := N) i (i - 1) d0 (by omega) (by omega) hd0
        cases hl : lessP d0[i]! d0[i - 1]! with
        | false =>
          rw [ss_step hc hl] at hi3
          rw [hl] at l1
          simp (decide := true) (maxDischargeDepth := 200) only [go_sem, X1, X2, X3, lkP, c1, c2, c3, l1]
          refine ⟨⟨i + 1, by omega, by omega, hi3⟩, ?_, ?_, by simp only; omega⟩ <;> simp (decide := true) only [go_sem] <;> (repeat' first | rfl | constructor)
        | true =>
          rw [ss_stop (by rw [hl]; simp)] at hi3
          rw [hl] at l1
          rw [← hi3]
          simp (decide := true) (maxDischargeDepth := 200) only [go_sem, X1, X2, X3, lkP, c1, c2, c3, l1]
      · have c1 : decide (((i : Nat) : Int) < ((b : Nat) : Int)) = false := decide_eq_false (by omega)
        rw [ss_stop (fun h => hc h.1)] at hi3
        rw [← hi3]
        simp (decide := true) (maxDischargeDepth := 200) only [go_sem, X1, X2, X3, lkP, c1]
    by_cases hIb : I = b
    · rw [pi_1 hI hIb] at heq
      have c1 : decide (((I : Nat) : Int) = ((b : Nat) : Int)) = true := decide_eq_true (by omega)
      rw [← heq]
      refine Sem.seq_out (Sem.run hE follows_mixed (by kernel_rfl) ?_)
      simp (decide := true) (maxDischargeDepth := 200) only [go_sem, X1, X2, X3, lkP, c1, Try.results72]
    have c1 : decide (((I : Nat) : Int) = ((b : Nat) : Int)) = false := decide_eq_false (by omega)
    have w2 : bWrap .i64 ((b : Int) - (a : Int)) = ((b - a : Nat) : Int) := by rw [bwrap_of (by unfold inR; omega)]; omega
    refine Sem.seq [(1, .x (.int .i64 (a : Int))), (2, .x (.int .i64 (b : Int))), (3, .ptr 3 0), (7, .x (.int .i64 ((I : Nat) : Int))), (8, .x (.int .i64 (5 - ((s + 1 : Nat) : Int))))] [(3, [.x (.func (.func g) #[] gl), .x (.func (.func sf) #[] gs)]), (1003, rowQ d0)] (Sem.run hE follows_mixed (by kernel_rfl) (by simp (decide := true) (maxDischargeDepth := 200) only [go_sem, X1, X2, X3, lkP, c1])) ?_
    by_cases h50 : b - a < 50
    · rw [pi_2 hI hIb h50] at heq
      have c2 : decide (((b - a : Nat) : Int) < 50) = true := decide_eq_true (by omega)
      rw [← heq]
      refine Sem.seq_out (Sem.run hE follows_mixed (by kernel_rfl) ?_)
      simp (decide := true) (maxDischargeDepth := 200) only [go_sem, X1, X2, X3, lkP, w2, c2, Try.results72]
    have c2 : decide (((b - a : Nat) : Int) < 50) = false := decide_eq_false (by omega)
    have q := hQ2 hIb h50
    have w3 : bWrap .i64 ((I : Int) - 1) = ((I - 1 : Nat) : Int) := by rw [bwrap_of (by unfold inR; omega)]; omega
    have w4 : bWrap .i64 ((I : Int) - (a : Int)) = ((I - a : Nat) : Int) := by rw [bwrap_of (by unfold inR; omega)]; omega
    have w5 : bWrap .i64 ((b : Int) - (I : Int)) = ((b - I : Nat) : Int) := by rw [bwrap_of (by unfold inR; omega)]; omega
    have w6 : bWrap .i64 ((I : Int) + 1) = ((I + 1 : Nat) : Int) := by rw [bwrap_of (by unfold inR; omega)]; omega
    have s1 := swp_at (N := N) I (I - 1) d0 (by omega) (by omega) hd0
    rw [hD0] at s1
    refine Sem.seq [(1, .x (.int .i64 (a : Int))), (2, .x (.int .i64 (b : Int))), (3, .ptr 3 0), (7, .x (.int .i64 ((I : Nat) : Int))), (8, .x (.int .i64 (5 - ((s + 1 : Nat) : Int))))] [(3, [.x (.func (.func g) #[] gl), .x (.func (.func sf) #[] gs)]), (1003, rowQ d0)] (Sem.run hE follows_mixed (by kernel_rfl) (by simp (decide := true) (maxDischargeDepth := 200) only [go_sem, X1, X2, X3, lkP, w2, c2])) ?_
    refine Sem.seq [(1, .x (.int .i64 (a : Int))), (2, .x (.int .i64 (b : Int))), (3, .ptr 3 0), (7, .x (.int .i64 ((I : Nat) : Int))), (8, .x (.int .i64 (5 - ((s + 1 : Nat) : Int))))] [(3, [.x (.func (.func g) #[] gl), .x (.func (.func sf) #[] gs)]), (1003, rowQ D0)] (Sem.run hE follows_mixed (by kernel_rfl) (by simp (decide := true) (maxDischargeDepth := 200) only [go_sem, X1, X2, X3, lkP, w3, s1])) ?_
    refine Sem.seq [(1, .x (.int .i64 (a : Int))), (2, .x (.int .i64 (b : Int))), (3, .ptr 3 0), (7, .x (.int .i64 ((I : Nat) : Int))), (8, .x (.int .i64 (5 - ((s + 1 : Nat) : Int))))] [(3, [.x (.func (.func g) #[] gl), .x (.func (.func sf) #[] gs)]), (1003, rowQ D1)] ?_ ?_
    · by_cases h2 : I - a ≥ 2
      · rw [if_pos h2] at hD1
        have c3 : decide (2 ≤ ((I - a : Nat) : Int)) = true := decide_eq_true (by omega)
        refine Sem.seq [(1, .x (.int .i64 (a : Int))), (2, .x (.int .i64 (b : Int))), (3, .ptr 3 0), (7, .x (.int .i64 ((I : Nat) : Int))), (8, .x (.int .i64 (5 - ((s + 1 : Nat) : Int)))), (47, .x (.bool true))] [(3, [.x (.func (.func g) #[] gl), .x (.func (.func sf) #[] gs)]), (1003, rowQ D0)] (Sem.run hE follows_mixed (by kernel_rfl) (by simp (decide := true) (maxDischargeDepth := 200) only [go_sem, X1, X2, X3, lkP, w4, c3])) ?_
        refine Sem.cond (t := true) (by simp (decide := true) (maxDischargeDepth := 200) only [go_sem, X1, X2, X3, lkP]) (fun _ => ?_) (fun h => by cases h)
        refine Sem.seq [(1, .x (.int .i64 (a : Int))), (2, .x (.int .i64 (b : Int))), (3, .ptr 3 0), (7, .x (.int .i64 ((I : Nat) : Int))), (8, .x (.int .i64 (5 - ((s + 1 : Nat) : Int)))), (9, .x (.int .i64 ((I - 1 : Nat) : Int)))] [(3, [.x (.func (.func g) #[] gl), .x (.func (.func sf) #[] gs)]), (1003, rowQ D0)] (Sem.run hE follows_mixed (by kernel_rfl) (by simp (decide := true) (maxDischargeDepth := 200) only [go_sem, X1, X2, X3, lkP, w3])) ?_
        refine Sem.block (Sem.loop (X := {x : Nat × Array C3 // x.1 ≤ I - 1 ∧ x.2.size = N ∧ Go.Sort.shiftDown lessP x.1 x.2 = D1}) (fun x => [(1, .x (.int .i64 (a : Int))), (2, .x (.int .i64 (b : Int))), (3, .ptr 3 0), (7, .x (.int .i64 ((I : Nat) : Int))), (8, .x (.int .i64 (5 - ((s + 1 : Nat) : Int)))), (9, .x (.int .i64 ((x.1.1 : Nat) : Int)))]) (fun x => [(3, [.x (.func (.func g) #[] gl), .x (.func (.func sf) #[] gs)]), (1003, rowQ x.1.2)]) (fun x => x.1.1) ⟨(I - 1, D0), by simp only; omega, z0, hD1⟩ (by simp (decide := true) only [go_sem] <;> (repeat' first | rfl | constructor)) (by simp (decide := true) only [go_sem] <;> (repeat' first | rfl | constructor)) (fun ⟨⟨j, dj⟩, hj1, hj2, hj3⟩ => Sem.run hE follows_mixed (by kernel_rfl) ?_))
        simp only at hj1 hj2 hj3 ⊢
        cases j with
        | zero =>
          have c4 : decide (1 ≤ ((0 : Nat) : Int)) = false := decide_eq_false (by omega)
          rw [Go.Sort.shiftDown] at hj3
          rw [← hj3]
          simp (decide := true) (maxDischargeDepth := 200) only [go_sem, X1, X2, X3, lkP, c4]
        | succ j =>
          have c4 : decide (1 ≤ ((j + 1 : Nat) : Int)) = true := decide_eq_true (by omega)
          have c5 : bWrap .i64 (((j + 1 : Nat) : Int) - 1) = ((j : Nat) : Int) := by rw [bwrap_of (by unfold inR; omega)]; omega
          have l1 := less_at (N := N) (j + 1) j dj (by omega) (by omega) hj2
          have s2 := swp_at (N := N) (j + 1) j dj (by omega) (by omega) hj2
          rw [Go.Sort.shiftDown] at hj3
          cases hl : lessP dj[j + 1]! dj[j]! with
          | false =>
            rw [hl] at l1 hj3
            simp only [Bool.not_false, if_true] at hj3
            rw [← hj3]
            simp (decide := true) (maxDischargeDepth := 200) only [go_sem, X1, X2, X3, lkP, c4, c5, l1]
          | true =>
            rw [hl] at l1 hj3
            simp only [Bool.not_true, Bool.false_eq_true, if_false] at hj3
            simp (decide := true) (maxDischargeDepth := 200) only [go_sem, X1, X2, X3, lkP, c4, c5, l1, s2]
            refine ⟨⟨(j, swp dj (j + 1) j), by simp only; omega, by rw [swp_size]; exact hj2, hj3⟩, ?_, ?_, by simp only; omega⟩ <;> simp (decide := true) only [go_sem] <;> (repeat' first | rfl | constructor)
      · rw [if_neg h2] at hD1
        have c3 : decide (2 ≤ ((I - a : Nat) : Int)) = false := decide_eq_false (by omega)
        rw [← hD1]
        refine Sem.run hE follows_mixed (by kernel_rfl) ?_
        simp (decide := true) (maxDischargeDepth := 200) only [go_sem, X1, X2, X3, lkP, w4, c3]
    by_cases h2 : b - I ≥ 2
    · rw [if_pos h2] at hD2
      have c3 : decide (2 ≤ ((b - I : Nat) : Int)) = true := decide_eq_true (by omega)
      refine Sem.seq [(1, .x (.int .i64 (a : Int))), (2, .x (.int .i64 (b : Int))), (3, .ptr 3 0), (7, .x (.int .i64 ((I : Nat) : Int))), (8, .x (.int .i64 (5 - ((s + 1 : Nat) : Int)))), (70, .x (.bool true))] [(3, [.x (.func (.func g) #[] gl), .x (.func (.func sf) #[] gs)]), (1003, rowQ D1)] (Sem.run hE follows_mixed (by kernel_rfl) (by simp (decide := true) (maxDischargeDepth := 200) only [go_sem, X1, X2, X3, lkP, w5, c3])) ?_
      refine Sem.cond (t := true) (by simp (decide := true) (maxDischargeDepth := 200) only [go_sem, X1, X2, X3, lkP]) (fun _ => ?_) (fun h => by cases h)
      refine Sem.seq [(1, .x (.int .i64 (a : Int))), (2, .x (.int .i64 (b : Int))), (3, .ptr 3 0), (7, .x (.int .i64 ((I : Nat) : Int))), (8, .x (.int .i64 (5 - ((s + 1 : Nat) : Int)))), (10, .x (.int .i64 ((I + 1 : Nat) : Int)))] [(3, [.x (.func (.func g) #[] gl), .x (.func (.func sf) #[] gs)]), (1003, rowQ D1)] (Sem.run hE follows_mixed (by kernel_rfl) (by simp (decide := true) (maxDischargeDepth := 200) only [go_sem, X1, X2, X3, lkP, w6])) ?_
      refine Sem.block (Sem.loop (X := {x : Nat × Array C3 // I + 1 ≤ x.1 ∧ x.1 ≤ b ∧ x.2.size = N ∧ Go.Sort.shiftUp lessP b x.1 x.2 = D2}) (fun x => [(1, .x (.int .i64 (a : Int))), (2, .x (.int .i64 (b : Int))), (3, .ptr 3 0), (7, .x (.int .i64 ((I : Nat) : Int))), (8, .x (.int .i64 (5 - ((s + 1 : Nat) : Int)))), (10, .x (.int .i64 ((x.1.1 : Nat) : Int)))]) (fun x => [(3, [.x (.func (.func g) #[] gl), .x (.func (.func sf) #[] gs)]), (1003, rowQ x.1.2)]) (fun x => b - x.1.1) ⟨(I + 1, D1), by simp only; omega, by simp only; omega, z1, hD2⟩ (by simp (decide := true) only [go_sem] <;> (repeat' first | rfl | constructor)) (by simp (decide := true) only [go_sem] <;> (repeat' first | rfl | constructor)) (fun ⟨⟨j, dj⟩, hj0, hj1, hj2, hj3⟩ => Sem.run hE follows_mixed (by kernel_rfl) ?_))
      simp only at hj0 hj1 hj2 hj3 ⊢
      rw [Go.Sort.shiftUp] at hj3
      by_cases hjb : j < b
      · have c4 : decide (((j : Nat) : Int) < ((b : Nat) : Int)) = true := decide_eq_true (by omega)
        have c5 : bWrap .i64 (((j : Nat) : Int) - 1) = ((j - 1 : Nat) : Int) := by rw [bwrap_of (by unfold inR; omega)]; omega
        have c6 : bWrap .i64 (((j : Nat) : Int) + 1) = ((j + 1 : Nat) : Int) := by rw [bwrap_of (by unfold inR; omega)]; omega
        have l1 := less_at (N := N) j (j - 1) dj (by omega) (by omega) hj2
        have s2 := swp_at (N := N) j (j - 1) dj (by omega) (by omega) hj2
        rw [if_pos hjb] at hj3
        cases hl : lessP dj[j]! dj[j - 1]! with
        | false =>
          rw [hl] at l1 hj3
          simp only [Bool.not_false, if_true] at hj3
          rw [← hj3]
          simp (decide := true) (maxDischargeDepth := 200) only [go_sem, X1, X2, X3, lkP, c4, c5, l1, q]
        | true =>
          rw [hl] at l1 hj3
          simp only [Bool.not_true, Bool.false_eq_true, if_false] at hj3
          simp (decide := true) (maxDischargeDepth := 200) only [go_sem, X1, X2, X3, lkP, c4, c5, c6, l1, s2]
          refine ⟨⟨(j + 1, swp dj j (j - 1)), by simp only; omega, by simp only; omega, by rw [swp_size]; exact hj2, hj3⟩, ?_, ?_, by simp only; omega⟩ <;> simp (decide := true) only [go_sem] <;> (repeat' first | rfl | constructor)
      · have c4 : decide (((j : Nat) : Int) < ((b : Nat) : Int)) = false := decide_eq_false (by omega)
        rw [if_neg hjb] at hj3
        rw [← hj3]
        simp (decide := true) (maxDischargeDepth := 200) only [go_sem, X1, X2, X3, lkP, c4, q]
    · rw [if_neg h2] at hD2
      have c3 : decide (2 ≤ ((b - I : Nat) : Int)) = false := decide_eq_false (by omega)
      rw [← hD2]
      refine Sem.run hE follows_mixed (by kernel_rfl) ?_
      simp (decide := true) (maxDischargeDepth := 200) only [go_sem, X1, X2, X3, lkP, w5, c3, q]

set_option maxHeartbeats 8000000 in
set_option maxRecDepth 100000 in
theorem rev_X {G : Nat → V} {bk N : Nat} {g sf : FuncId} {gl gs : Array Value} (hS : SoOK G bk N g sf gl gs) : FunXV G bk 71 [] (FE (enD2 g sf gl gs) (GRev N)) := by
  obtain ⟨X, hX, X1, X2, X3⟩ := tb_ex hS [] trivial
  have hN := hS.N1
  unfold MX at hN
  refine fun_of_semXV (k := 3) hX Try.func71 rfl (fun a w => Try.call71 a w) Try.ntmps71 (by decide) (by decide) ?_
  clear hX
  intro us r outs hF
  obtain ⟨⟨a, b, d⟩, hus, hG⟩ := FE_out hF
  clear hF
  subst hus
  unfold GRev at hG
  obtain ⟨⟨hab, hbN, hd⟩, hG⟩ := ite_some hG
  simp only at hab hbN hd
  cases hG
  refine ⟨_, rfl, rfl, fun pm m0 w0 hE => ?_⟩
  simp only [enD2]
  have w1 : bWrap .i64 ((b : Int) - 1) = ((b - 1 : Nat) : Int) := by rw [bwrap_of (by unfold inR; omega)]; omega
  refine Sem.run hE follows_mixed (by kernel_rfl) ?_
  simp (decide := true) (maxDischargeDepth := 200) only [go_sem, X1, X2, X3, lkP, w1]
  refine loop_of (X := {x : Nat × Nat × Array C3 // x.1 ≤ N ∧ x.2.1 < N ∧ x.2.2.size = N ∧ Go.Sort.reverseLoop x.1 x.2.1 x.2.2 = Go.Sort.reverseRange d a b}) (fun x => [(3, .ptr 3 0), (6, .x (.int .i64 ((x.1.1 : Nat) : Int))), (7, .x (.int .i64 ((x.1.2.1 : Nat) : Int)))]) (fun x => [(3, [.x (.func (.func g) #[] gl), .x (.func (.func sf) #[] gs)]), (1003, rowQ x.1.2.2)]) (fun x => x.1.2.1 - x.1.1) ⟨(a, b - 1, d), by simp only; omega, by simp only; omega, hd, rfl⟩ (by simp (decide := true) only [go_sem] <;> (repeat' first | rfl | constructor)) (by simp (decide := true) only [go_sem] <;> (repeat' first | rfl | constructor)) (fun ⟨⟨i, j, dk⟩, hi, hj, hdk, heq⟩ => ?_)
  simp only at hi hj hdk heq
  by_cases hc : i < j
  · have c1 : decide (((i : Nat) : Int) < ((j : Nat) : Int)) = true := decide_eq_true (by omega)
    have c2 : bWrap .i64 (((i : Nat) : Int) + 1) = ((i + 1 : Nat) : Int) := by rw [bwrap_of (by unfold inR; omega)]; omega
    have c3 : bWrap .i64 (((j : Nat) : Int) - 1) = ((j - 1 : Nat) : Int) := by rw [bwrap_of (by unfold inR; omega)]; omega
    have s1 := swp_at (N := N) i j dk (by omega) (by omega) hdk
    rw [Go.Sort.reverseLoop, if_pos hc] at heq
    simp (decide := true) (maxDischargeDepth := 200) only [go_sem, X1, X2, X3, lkP, c1, c2, c3, s1]
    refine ⟨⟨(i + 1, j - 1, swp dk i j), by simp only; omega, by simp only; omega, by rw [swp_size]; exact hdk, heq⟩, ?_, ?_, by simp only; omega⟩ <;> simp (decide := true) only [go_sem] <;> (repeat' first | rfl | constructor)
  · have c1 : decide (((i : Nat) : Int) < ((j : Nat) : Int)) = false := decide_eq_false (by omega)
    rw [Go.Sort.reverseLoop, if_neg hc] at heq
    subst heq
    simp (decide := true) (maxDischargeDepth := 200) only [go_sem, X1, X2, X3, lkP, c1, Try.results71]

end Go.Proofs.Ytiphliochoengaa

/- Sorting by a function value: the pivot. -/
namespace Go.Proofs.Ytiphliochoengaa
open Go Go.RowKit
open Go.Sort (swp)
set_option linter.unusedSimpArgs false
theorem o2_bd (d : Array C3) (a b s M : Nat) (ha : a < M) (hb : b < M) : (Go.Sort.order2 lessP d a b s).1 < M ∧ (Go.Sort.order2 lessP d a b s).2.1 < M ∧ (Go.Sort.order2 lessP d a b s).2.2 ≤ s + 1 := by
  unfold Go.Sort.order2
  split <;> exact ⟨by assumption, by assumption, by simp only; omega⟩
theorem md_bd (d : Array C3) (a b c s M : Nat) (ha : a < M) (hb : b < M) (hc : c < M) : (Go.Sort.median lessP d a b c s).1 < M ∧ (Go.Sort.median lessP d a b c s).2 ≤ s + 3 := by
  unfold Go.Sort.median
  simp only
  have h1 := o2_bd d a b s M ha hb
  have h2 := o2_bd d _ c (Go.Sort.order2 lessP d a b s).2.2 M h1.2.1 hc
  have h3 := o2_bd d _ _ (Go.Sort.order2 lessP d (Go.Sort.order2 lessP d a b s).2.1 c (Go.Sort.order2 lessP d a b s).2.2).2.2 M h1.1 h2.1
  exact ⟨h3.2.1, by omega⟩
def GOr (N : Nat) (x : Nat × Nat × Nat × Array C3) : Option (V × List (List V)) := if x.1 < N ∧ x.2.1 < N ∧ x.2.2.1 ≤ 1000 ∧ x.2.2.2.size = N then some (.tup [.x (.int .i64 ((Go.Sort.order2 lessP x.2.2.2 x.1 x.2.1 x.2.2.1).1 : Int)), .x (.int .i64 ((Go.Sort.order2 lessP x.2.2.2 x.1 x.2.1 x.2.2.1).2.1 : Int))], [[.x (.int .i64 ((Go.Sort.order2 lessP x.2.2.2 x.1 x.2.1 x.2.2.1).2.2 : Int))], rowQ x.2.2.2]) else none
def GMed (N : Nat) (x : Nat × Nat × Nat × Nat × Array C3) : Option (V × List (List V)) := if x.1 < N ∧ x.2.1 < N ∧ x.2.2.1 < N ∧ x.2.2.2.1 ≤ 900 ∧ x.2.2.2.2.size = N then some (.x (.int .i64 ((Go.Sort.median lessP x.2.2.2.2 x.1 x.2.1 x.2.2.1 x.2.2.2.1).1 : Int)), [[.x (.int .i64 ((Go.Sort.median lessP x.2.2.2.2 x.1 x.2.1 x.2.2.1 x.2.2.2.1).2 : Int))], rowQ x.2.2.2.2]) else none
def GMA (N : Nat) (x : Nat × Nat × Array C3) : Option (V × List (List V)) := if 1 ≤ x.1 ∧ x.1 + 1 < N ∧ x.2.1 ≤ 900 ∧ x.2.2.size = N then some (.x (.int .i64 ((Go.Sort.medianAdjacent lessP x.2.2 x.1 x.2.1).1 : Int)), [[.x (.int .i64 ((Go.Sort.medianAdjacent lessP x.2.2 x.1 x.2.1).2 : Int))], rowQ x.2.2]) else none
def GCho (N : Nat) (x : Nat × Nat × Array C3) : Option (V × List (List V)) := if x.1 < x.2.1 ∧ x.2.1 ≤ N ∧ x.2.2.size = N then some (.tup [.x (.int .i64 ((Go.Sort.choosePivot lessP x.2.2 x.1 x.2.1).1 : Int)), .x (.int .i64 (Go.Sort.hintCode (Go.Sort.choosePivot lessP x.2.2 x.1 x.2.1).2))], [rowQ x.2.2]) else none
section
variable {g sf : FuncId} {gl gs : Array Value} {N : Nat}
theorem o2_at (a b s : Nat) (d : Array C3) (h1 : a < N) (h2 : b < N) (h3 : s ≤ 1000) (h4 : d.size = N) : FE (enO2 g sf gl gs) (GOr N) [dataV g sf gl gs, .x (.int .i64 (a : Int)), .x (.int .i64 (b : Int)), .bx [.x (.int .i64 (s : Int))], .bx (rowQ d)] = some (.tup [.x (.int .i64 ((Go.Sort.order2 lessP d a b s).1 : Int)), .x (.int .i64 ((Go.Sort.order2 lessP d a b s).2.1 : Int))], [[.x (.int .i64 ((Go.Sort.order2 lessP d a b s).2.2 : Int))], rowQ d]) :=
  (FE_at enO2_inj (GOr N) (a, b, s, d)).trans (if_pos ⟨h1, h2, h3, h4⟩)
theorem med_at (a b c s : Nat) (d : Array C3) (h1 : a < N) (h2 : b < N) (h0 : c < N) (h3 : s ≤ 900) (h4 : d.size = N) : FE (enO3 g sf gl gs) (GMed N) [dataV g sf gl gs, .x (.int .i64 (a : Int)), .x (.int .i64 (b : Int)), .x (.int .i64 (c : Int)), .bx [.x (.int .i64 (s : Int))], .bx (rowQ d)] = some (.x (.int .i64 ((Go.Sort.median lessP d a b c s).1 : Int)), [[.x (.int .i64 ((Go.Sort.median lessP d a b c s).2 : Int))], rowQ d]) :=
  (FE_at enO3_inj (GMed N) (a, b, c, s, d)).trans (if_pos ⟨h1, h2, h0, h3, h4⟩)
theorem ma_at (a s : Nat) (d : Array C3) (h1 : 1 ≤ a) (h2 : a + 1 < N) (h3 : s ≤ 900) (h4 : d.size = N) : FE (enO1 g sf gl gs) (GMA N) [dataV g sf gl gs, .x (.int .i64 (a : Int)), .bx [.x (.int .i64 (s : Int))], .bx (rowQ d)] = some (.x (.int .i64 ((Go.Sort.medianAdjacent lessP d a s).1 : Int)), [[.x (.int .i64 ((Go.Sort.medianAdjacent lessP d a s).2 : Int))], rowQ d]) :=
  (FE_at enO1_inj (GMA N) (a, s, d)).trans (if_pos ⟨h1, h2, h3, h4⟩)
end
set_option maxHeartbeats 8000000 in
set_option maxRecDepth 100000 in
theorem o2_X {G : Nat → V} {bk N : Nat} {g sf : FuncId} {gl gs : Array Value} (hS : SoOK G bk N g sf gl gs) : FunXV G bk 99 [] (FE (enO2 g sf gl gs) (GOr N)) := by
  obtain ⟨X, hX, X1, X2, X3⟩ := tb_ex hS [] trivial
  have hN := hS.N1
  unfold MX at hN
  refine fun_of_semXV (k := 4) hX Try.func99 rfl (fun a w => Try.call99 a w) Try.ntmps99 (by decide) (by decide) ?_
  clear hX
  intro us r outs hF
  obtain ⟨⟨a, b, s, d⟩, hus, hG⟩ := FE_out hF
  clear hF
  subst hus
  unfold GOr at hG
  obtain ⟨⟨ha, hb, hs, hd⟩, hG⟩ := ite_some hG
  simp only at ha hb hs hd
  cases hG
  refine ⟨_, rfl, rfl, fun pm m0 w0 hE => ?_⟩
  simp only [enO2]
  have w1 : bWrap .i64 ((s : Int) + 1) = ((s + 1 : Nat) : Int) := by rw [bwrap_of (by unfold inR; omega)]; omega
  have l1 := less_at (N := N) b a d hb ha hd
  refine Sem.run hE follows_mixed (by kernel_rfl) ?_
  unfold Go.Sort.order2
  cases hl : lessP d[b]! d[a]! with
  | true =>
    rw [hl] at l1
    simp (decide := true) (maxDischargeDepth := 200) only [go_sem, X1, X2, X3, lkP, w1, l1, Try.results99]
  | false =>
    rw [hl] at l1
    simp (decide := true) (maxDischargeDepth := 200) only [go_sem, X1, X2, X3, lkP, w1, l1, Try.results99]

set_option maxHeartbeats 8000000 in
set_option maxRecDepth 100000 in
theorem med_X {G : Nat → V} {bk N : Nat} {g sf : FuncId} {gl gs : Array Value} (hS : SoOK G bk N g sf gl gs) : FunXV G bk 91 [] (FE (enO3 g sf gl gs) (GMed N)) := by
  obtain ⟨X, hX, X1, X2, X3⟩ := tb_ex hS [(99, FE (enO2 g sf gl gs) (GOr N))] ⟨o2_X hS, trivial⟩
  have hN := hS.N1
  unfold MX at hN
  refine fun_of_semXV (k := 5) hX Try.func91 rfl (fun a w => Try.call91 a w) Try.ntmps91 (by decide) (by decide) ?_
  clear hX
  intro us r outs hF
  obtain ⟨⟨a, b, c, s, d⟩, hus, hG⟩ := FE_out hF
  clear hF
  subst hus
  unfold GMed at hG
  obtain ⟨⟨ha, hb, hc, hs, hd⟩, hG⟩ := ite_some hG
  simp only at ha hb hc hs hd
  cases hG
  refine ⟨_, rfl, rfl, fun pm m0 w0 hE => ?_⟩
  simp only [enO3]
  unfold Go.Sort.median
  simp only
  have b1 := o2_bd d a b s N ha hb
  have e1 := o2_at (g := g) (sf := sf) (gl := gl) (gs := gs) (N := N) a b s d ha hb (by omega) hd
  generalize Go.Sort.order2 lessP d a b s = r1 at b1 e1 ⊢
  have b2 := o2_bd d r1.2.1 c r1.2.2 N b1.2.1 hc
  have e2 := o2_at (g := g) (sf := sf) (gl := gl) (gs := gs) (N := N) r1.2.1 c r1.2.2 d b1.2.1 hc (by omega) hd
  generalize Go.Sort.order2 lessP d r1.2.1 c r1.2.2 = r2 at b2 e2 ⊢
  have e3 := o2_at (g := g) (sf := sf) (gl := gl) (gs := gs) (N := N) r1.1 r2.1 r2.2.2 d b1.1 b2.1 (by omega) hd
  generalize Go.Sort.order2 lessP d r1.1 r2.1 r2.2.2 = r3 at e3 ⊢
  refine Sem.run hE follows_mixed (by kernel_rfl) ?_
  simp (decide := true) (maxDischargeDepth := 200) only [go_sem, X1, X2, X3, lkP, e1, e2, e3, Try.results91]

set_option maxHeartbeats 8000000 in
set_option maxRecDepth 100000 in
theorem ma_X {G : Nat → V} {bk N : Nat} {g sf : FuncId} {gl gs : Array Value} (hS : SoOK G bk N g sf gl gs) : FunXV G bk 90 [] (FE (enO1 g sf gl gs) (GMA N)) := by
  obtain ⟨X, hX, X1, X2, X3⟩ := tb_ex hS [(91, FE (enO3 g sf gl gs) (GMed N))] ⟨med_X hS, trivial⟩
  have hN := hS.N1
  unfold MX at hN
  refine fun_of_semXV (k := 3) hX Try.func90 rfl (fun a w => Try.call90 a w) Try.ntmps90 (by decide) (by decide) ?_
  clear hX
  intro us r outs hF
  obtain ⟨⟨a, s, d⟩, hus, hG⟩ := FE_out hF
  clear hF
  subst hus
  unfold GMA at hG
  obtain ⟨⟨h1, h2, hs, hd⟩, hG⟩ := ite_some hG
  simp only at h1 h2 hs hd
  cases hG
  refine ⟨_, rfl, rfl, fun pm m0 w0 hE => ?_⟩
  simp only [enO1]
  unfold Go.Sort.medianAdjacent
  have w1 : bWrap .i64 ((a : Int) + 1) = ((a + 1 : Nat) : Int) := by rw [bwrap_of (by unfold inR; omega)]; omega
  have w2 : bWrap .i64 ((a : Int) - 1) = ((a - 1 : Nat) : Int) := by rw [bwrap_of (by unfold inR; omega)]; omega
  have e1 := med_at (g := g) (sf := sf) (gl := gl) (gs := gs) (N := N) (a - 1) a (a + 1) s d (by omega) (by omega) (by omega) hs hd
  refine Sem.run hE follows_mixed (by kernel_rfl) ?_
  simp (decide := true) (maxDischargeDepth := 200) only [go_sem, X1, X2, X3, lkP, w1, w2, e1, Try.results90]

set_option maxHeartbeats 8000000 in
set_option maxRecDepth 100000 in
theorem cho_X {G : Nat → V} {bk N : Nat} {g sf : FuncId} {gl gs : Array Value} (hS : SoOK G bk N g sf gl gs) : FunXV G bk 70 [] (FE (enD2 g sf gl gs) (GCho N)) := by
  obtain ⟨X, hX, X1, X2, X3⟩ := tb_ex hS [(90, FE (enO1 g sf gl gs) (GMA N)), (91, FE (enO3 g sf gl gs) (GMed N))] ⟨ma_X hS, med_X hS, trivial⟩
  have hN := hS.N1
  unfold MX at hN
  refine fun_of_semXV (k := 3) hX Try.func70 rfl (fun a w => Try.call70 a w) Try.ntmps70 (by decide) (by decide) ?_
  clear hX
  intro us r outs hF
  obtain ⟨⟨a, b, d⟩, hus, hG⟩ := FE_out hF
  clear hF
  subst hus
  unfold GCho at hG
  obtain ⟨⟨hab, hbN, hd⟩, hG⟩ := ite_some hG
  simp only at hab hbN hd
  cases hG
  refine ⟨_, rfl, rfl, fun pm m0 w0 hE => ?_⟩
  simp only [enD2]
  obtain ⟨l, hl⟩ : ∃ l, b - a = l := ⟨_, rfl⟩
  obtain ⟨i, hi⟩ : ∃ i, a + l / 4 * 1 = i := ⟨_, rfl⟩
  obtain ⟨j, hj⟩ : ∃ j, a + l / 4 * 2 = j := ⟨_, rfl⟩
  obtain ⟨k, hk⟩ : ∃ k, a + l / 4 * 3 = k := ⟨_, rfl⟩
  have w0 : bWrap .i64 ((b : Int) - (a : Int)) = ((l : Nat) : Int) := by rw [bwrap_of (by unfold inR; omega)]; omega
  have q1 : bWrap .i64 ((l : Int).tdiv 4) = ((l / 4 : Nat) : Int) := by rw [Int.tdiv_eq_ediv_of_nonneg (by omega), bwrap_of (by unfold inR; omega)]; omega
  have w1 : bWrap .i64 (((l / 4 : Nat) : Int) * 1) = ((l / 4 * 1 : Nat) : Int) := by rw [bwrap_of (by unfold inR; omega)]; omega
  have w2 : bWrap .i64 (((l / 4 : Nat) : Int) * 2) = ((l / 4 * 2 : Nat) : Int) := by rw [bwrap_of (by unfold inR; omega)]; omega
  have w3 : bWrap .i64 (((l / 4 : Nat) : Int) * 3) = ((l / 4 * 3 : Nat) : Int) := by rw [bwrap_of (by unfold inR; omega)]; omega
  have w4 : bWrap .i64 ((a : Int) + ((l / 4 * 1 : Nat) : Int)) = ((i : Nat) : Int) := by rw [bwrap_of (by unfold inR; omega)]; omega
  have w5 : bWrap .i64 ((a : Int) + ((l / 4 * 2 : Nat) : Int)) = ((j : Nat) : Int) := by rw [bwrap_of (by unfold inR; omega)]; omega
  have w6 : bWrap .i64 ((a : Int) + ((l / 4 * 3 : Nat) : Int)) = ((k : Nat) : Int) := by rw [bwrap_of (by unfold inR; omega)]; omega
  obtain ⟨r, hr⟩ : ∃ r : Nat × Nat, (if l ≥ 8 then if l ≥ 50 then Go.Sort.median lessP d (Go.Sort.medianAdjacent lessP d i 0).1 (Go.Sort.medianAdjacent lessP d j (Go.Sort.medianAdjacent lessP d i 0).2).1 (Go.Sort.medianAdjacent lessP d k (Go.Sort.medianAdjacent lessP d j (Go.Sort.medianAdjacent lessP d i 0).2).2).1 (Go.Sort.medianAdjacent lessP d k (Go.Sort.medianAdjacent lessP d j (Go.Sort.medianAdjacent lessP d i 0).2).2).2 else Go.Sort.median lessP d i j k 0 else (j, 0)) = r := ⟨_, rfl⟩
  have hch : Go.Sort.choosePivot lessP d a b = (r.1, if r.2 = 0 then .increasing else if r.2 = 12 then .decreasing else .unknown) := by
    unfold Go.Sort.choosePivot
    simp only [hl, hi, hj, hk, hr]
  rw [hch]
  refine Sem.seq [(3, .ptr 3 0), (1, .x (.int .i64 (a : Int))), (2, .x (.int .i64 (b : Int)))] [(3, [.x (.func (.func g) #[] gl), .x (.func (.func sf) #[] gs)]), (1003, rowQ d)] (Sem.run hE follows_mixed (by kernel_rfl) (by simp (decide := true) (maxDischargeDepth := 200) only [go_sem, X1, X2, X3, lkP])) ?_
  refine Sem.seq [(3, .ptr 3 0), (1, .x (.int .i64 (a : Int))), (8, .x (.int .i64 ((l : Nat) : Int)))] [(3, [.x (.func (.func g) #[] gl), .x (.func (.func sf) #[] gs)]), (1003, rowQ d)] (Sem.run hE follows_mixed (by kernel_rfl) (by simp (decide := true) (maxDischargeDepth := 200) only [go_sem, X1, X2, X3, lkP, w0])) ?_
  refine Sem.seq [(3, .ptr 3 0), (1, .x (.int .i64 (a : Int))), (8, .x (.int .i64 ((l : Nat) : Int))), (9, .ptr 9 0)] [(3, [.x (.func (.func g) #[] gl), .x (.func (.func sf) #[] gs)]), (9, [.x (.int .i64 0)]), (1003, rowQ d)] (Sem.run hE follows_mixed (by kernel_rfl) (by simp (decide := true) (maxDischargeDepth := 200) only [go_sem, X1, X2, X3, lkP])) ?_
  refine Sem.seq [(3, .ptr 3 0), (1, .x (.int .i64 (a : Int))), (8, .x (.int .i64 ((l : Nat) : Int))), (9, .ptr 9 0), (10, .x (.int .i64 ((i : Nat) : Int)))] [(3, [.x (.func (.func g) #[] gl), .x (.func (.func sf) #[] gs)]), (9, [.x (.int .i64 0)]), (1003, rowQ d)] (Sem.run hE follows_mixed (by kernel_rfl) (by simp (decide := true) (maxDischargeDepth := 200) only [go_sem, X1, X2, X3, lkP, q1, w1, w4])) ?_
  refine Sem.seq [(3, .ptr 3 0), (1, .x (.int .i64 (a : Int))), (8, .x (.int .i64 ((l : Nat) : Int))), (9, .ptr 9 0), (10, .x (.int .i64 ((i : Nat) : Int))), (11, .x (.int .i64 ((j : Nat) : Int)))] [(3, [.x (.func (.func g) #[] gl), .x (.func (.func sf) #[] gs)]), (9, [.x (.int .i64 0)]), (1003, rowQ d)] (Sem.run hE follows_mixed (by kernel_rfl) (by simp (decide := true) (maxDischargeDepth := 200) only [go_sem, X1, X2, X3, lkP, q1, w2, w5])) ?_
  refine Sem.seq [(3, .ptr 3 0), (8, .x (.int .i64 ((l : Nat) : Int))), (9, .ptr 9 0), (10, .x (.int .i64 ((i : Nat) : Int))), (11, .x (.int .i64 ((j : Nat) : Int))), (12, .x (.int .i64 ((k : Nat) : Int)))] [(3, [.x (.func (.func g) #[] gl), .x (.func (.func sf) #[] gs)]), (9, [.x (.int .i64 0)]), (1003, rowQ d)] (Sem.run hE follows_mixed (by kernel_rfl) (by simp (decide := true) (maxDischargeDepth := 200) only [go_sem, X1, X2, X3, lkP, q1, w3, w6])) ?_
  refine Sem.seq [(9, .ptr 9 0), (11, .x (.int .i64 ((r.1 : Nat) : Int)))] [(3, [.x (.func (.func g) #[] gl), .x (.func (.func sf) #[] gs)]), (9, [.x (.int .i64 ((r.2 : Nat) : Int))]), (1003, rowQ d)] (Sem.run hE follows_mixed (by kernel_rfl) ?_) ?_
  · by_cases h8 : l ≥ 8
    · rw [if_pos h8] at hr
      have c1 : decide (8 ≤ ((l : Nat) : Int)) = true := decide_eq_true (by omega)
      by_cases h50 : l ≥ 50
      · rw [if_pos h50] at hr
        have c2 : decide (50 ≤ ((l : Nat) : Int)) = true := decide_eq_true (by omega)
        have e1 := ma_at (g := g) (sf := sf) (gl := gl) (gs := gs) (N := N) i 0 d (by omega) (by omega) (by omega) hd
        have b1 := md_bd d (i - 1) i (i + 1) 0 N (by omega) (by omega) (by omega)
        change (Go.Sort.medianAdjacent lessP d i 0).1 < N ∧ (Go.Sort.medianAdjacent lessP d i 0).2 ≤ 0 + 3 at b1
        generalize Go.Sort.medianAdjacent lessP d i 0 = r1 at hr e1 b1
        have e2 := ma_at (g := g) (sf := sf) (gl := gl) (gs := gs) (N := N) j r1.2 d (by omega) (by omega) (by omega) hd
        have b2 := md_bd d (j - 1) j (j + 1) r1.2 N (by omega) (by omega) (by omega)
        change (Go.Sort.medianAdjacent lessP d j r1.2).1 < N ∧ (Go.Sort.medianAdjacent lessP d j r1.2).2 ≤ r1.2 + 3 at b2
        generalize Go.Sort.medianAdjacent lessP d j r1.2 = r2 at hr e2 b2
        have e3 := ma_at (g := g) (sf := sf) (gl := gl) (gs := gs) (N := N) k r2.2 d (by omega) (by omega) (by omega) hd
        have b3 := md_bd d (k - 1) k (k + 1) r2.2 N (by omega) (by omega) (by omega)
        change (Go.Sort.medianAdjacent lessP d k r2.2).1 < N ∧ (Go.Sort.medianAdjacent lessP d k r2.2).2 ≤ r2.2 + 3 at b3
        generalize Go.Sort.medianAdjacent lessP d k r2.2 = r3 at hr e3 b3
        have e4 := med_at (g := g) (sf := sf) (gl := gl) (gs := gs) (N := N) r1.1 r2.1 r3.1 r3.2 d b1.1 b2.1 b3.1 (by omega) hd
        rw [hr] at e4
        rw [show ((0 : Nat) : Int) = 0 from rfl] at e1
        simp (decide := true) (maxDischargeDepth := 200) only [go_sem, X1, X2, X3, lkP, c1, c2, e1, e2, e3, e4]
      · rw [if_neg h50] at hr
        have c2 : decide (50 ≤ ((l : Nat) : Int)) = false := decide_eq_false (by omega)
        have e4 := med_at (g := g) (sf := sf) (gl := gl) (gs := gs) (N := N) i j k 0 d (by omega) (by omega) (by omega) (by omega) hd
        rw [hr] at e4
        rw [show ((0 : Nat) : Int) = 0 from rfl] at e4
        simp (decide := true) (maxDischargeDepth := 200) only [go_sem, X1, X2, X3, lkP, c1, c2, e4]
    · rw [if_neg h8] at hr
      have c1 : decide (8 ≤ ((l : Nat) : Int)) = false := decide_eq_false (by omega)
      rw [← hr]
      simp (decide := true) (maxDischargeDepth := 200) only [go_sem, X1, X2, X3, lkP, c1]
      rfl
  · refine Sem.run hE follows_mixed (by kernel_rfl) ?_
    by_cases h0 : r.2 = 0
    · rw [if_pos h0]
      have c1 : decide (((r.2 : Nat) : Int) = 0) = true := decide_eq_true (by omega)
      simp (decide := true) (maxDischargeDepth := 200) only [go_sem, X1, X2, X3, lkP, c1, Go.Sort.hintCode, Try.results70]
    · rw [if_neg h0]
      have c1 : decide (((r.2 : Nat) : Int) = 0) = false := decide_eq_false (by omega)
      by_cases h12 : r.2 = 12
      · rw [if_pos h12]
        have c2 : decide (((r.2 : Nat) : Int) = 12) = true := decide_eq_true (by omega)
        simp (decide := true) (maxDischargeDepth := 200) only [go_sem, X1, X2, X3, lkP, c1, c2, Go.Sort.hintCode, Try.results70]
      · rw [if_neg h12]
        have c2 : decide (((r.2 : Nat) : Int) = 12) = false := decide_eq_false (by omega)
        simp (decide := true) (maxDischargeDepth := 200) only [go_sem, X1, X2, X3, lkP, c1, c2, Go.Sort.hintCode, Try.results70]

end Go.Proofs.Ytiphliochoengaa
