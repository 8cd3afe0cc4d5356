/- Loops in a run over plain data: the state at a loop's head, written out. -/
import Derived.Test.YtkacldoiimlmcaaPfW
import Derived.Test.YtkacldoiimlmcaaArithP
namespace Go.Proofs.Ytkacldoiimlmcaa
open Go Go.RowKit

def tOf : List (Nat × V) → Nat → V
  | [] => fun _ => .undef
  | (i, v) :: l => upd (tOf l) i v
def bOf : List (Nat × List V) → Nat → Option (List V)
  | [] => fun _ => none
  | (i, cs) :: l => upd (bOf l) i (some cs)
/-- A state by what is known of it. -/
def stOf (ts : List (Nat × V)) (bs : List (Nat × List V)) : St := ⟨tOf ts, bOf bs⟩
def leT (st : St) : List (Nat × V) → Prop
  | [] => True
  | (i, v) :: l => st.t i = v ∧ leT st l
def leB (st : St) : List (Nat × List V) → Prop
  | [] => True
  | (i, v) :: l => st.b i = some v ∧ leB st l
theorem le_stOf {st : St} {ts : List (Nat × V)} {bs : List (Nat × List V)} (h : leT st ts) (k : leB st bs) : Le (stOf ts bs) st := by
  refine ⟨fun i => ?_, fun s cs hs => ?_⟩
  · show (tOf ts i).le (st.t i)
    induction ts with
    | nil => exact .inl rfl
    | cons p l ih =>
      simp only [tOf, upd_at]
      split
      · rename_i e; subst e; exact .inr (.inl h.1.symm)
      · exact ih h.2
  · have hs : bOf bs s = some cs := hs
    induction bs with
    | nil => cases hs
    | cons p l ih =>
      simp only [bOf, upd_at] at hs
      split at hs
      · rename_i e; cases hs; subst e; exact ⟨_, k.1, leC_refl _⟩
      · exact ih k.2 hs hs

/-- The loop's head is met again. -/
def Again {X : Type} (T : X → List (Nat × V)) (B : X → List (Nat × List V)) (μ : X → Nat) (n : Nat) (st : St) : Prop := ∃ x', leT st (T x') ∧ leB st (B x') ∧ μ x' < n
def loopK {X : Type} (T : X → List (Nat × V)) (B : X → List (Nat × List V)) (μ : X → Nat) (n : Nat) (K : Out → St → Prop) : Out → St → Prop
  | .normal, st => Again T B μ n st
  | .ret, st => K .ret st
  | .exit id, st => K (.exit id) st
section
variable {X : Type} (T : X → List (Nat × V)) (B : X → List (Nat × List V)) (μ : X → Nat) (n : Nat) (K : Out → St → Prop) (st : St)
theorem loopK_normal : loopK T B μ n K .normal st = Again T B μ n st := rfl
theorem loopK_ret : loopK T B μ n K .ret st = K .ret st := rfl
theorem loopK_exit (id : Nat) : loopK T B μ n K (.exit id) st = K (.exit id) st := rfl
theorem again_congr {st' : St} (h : st = st') : Again T B μ n st = Again T B μ n st' := by rw [h]
theorem loopK_congr {o o' : Out} (h : o = o') : loopK T B μ n K o st = loopK T B μ n K o' st := by rw [h]
end
theorem loop_of {E : Env} {a : Code} {st : St} {K : Out → St → Prop} {X : Type} (T : X → List (Nat × V)) (B : X → List (Nat × List V)) (μ : X → Nat) (x0 : X) (h0 : leT st (T x0)) (h0' : leB st (B x0))
    (h : ∀ x, run E a (stOf (T x) (B x)) (loopK T B μ (μ x) K)) : LoopV (run E a) st K := by
  refine ⟨X, fun x => stOf (T x) (B x), μ, x0, le_stOf h0 h0', fun x => ?_⟩
  have := h x
  have e : ∀ o st', loopK T B μ (μ x) K o st' → (match o with
      | .normal => ∃ x', Le (stOf (T x') (B x')) st' ∧ μ x' < μ x
      | o => K o st') := by
    intro o st' hk
    cases o with
    | normal => obtain ⟨x', h1, h2, h3⟩ := hk; exact ⟨x', le_stOf h1 h2, h3⟩
    | ret => exact hk
    | exit id => exact hk
  exact run_mono e this
/-- Behind a region that was gone through in all orders: the state, written out. -/
theorem any_of {E : Env} {ops : List Oper} {st : St} {K : St → Prop} (ts : List (Nat × V)) (bs : List (Nat × List V)) (tr : Ord) (h : okTree ops tr [] [] = true) (ht : treeK E ops tr st fun st' => leT st' ts ∧ leB st' bs) (hk : K (stOf ts bs)) : AnyV E ops st K :=
  .inl ⟨stOf ts bs, tr, h, treeK_mono (fun _ hx => le_stOf hx.1 hx.2) tr st ht, hk⟩
/-- What is known of the slots, by a mask of what is done: what is there from (need) on, until (forb). -/
def selT : List (Nat × Nat × Nat × V) → Nat → List (Nat × V)
  | [], _ => []
  | (need, forb, s, v) :: r, L => if L &&& need = need ∧ L &&& forb = 0 then (s, v) :: selT r L else selT r L
theorem selT_nil (L : Nat) : selT [] L = [] := rfl
theorem selT_cons (need forb s L : Nat) (v : V) (r : List (Nat × Nat × Nat × V)) : selT ((need, forb, s, v) :: r) L = if L &&& need = need ∧ L &&& forb = 0 then (s, v) :: selT r L else selT r L := rfl
def oneT (E : Env) (ops : List Oper) (ts : List (Nat × V)) (bs : List (Nat × List V)) (st : St) : Option Oper → Prop
  | some o => aopsK E ⟨ops⟩ [o] st fun st' => leT st' ts ∧ leB st' bs
  | none => False
def dagT (E : Env) (ops : List Oper) (ents : List (Nat × Nat × Nat × V)) (bs : List (Nat × List V)) : List (Nat × Nat × Nat) → Prop
  | [] => True
  | (L, i, L') :: r => oneT E ops (selT ents L') bs (stOf (selT ents L) bs) ops[i]? ∧ dagT E ops ents bs r
theorem dagT_nil (E : Env) (ops : List Oper) (ents : List (Nat × Nat × Nat × V)) (bs : List (Nat × List V)) : dagT E ops ents bs [] = True := rfl
theorem dagT_cons (E : Env) (ops : List Oper) (ents : List (Nat × Nat × Nat × V)) (bs : List (Nat × List V)) (L i L' : Nat) (r : List (Nat × Nat × Nat)) : dagT E ops ents bs ((L, i, L') :: r) = (oneT E ops (selT ents L') bs (stOf (selT ents L) bs) ops[i]? ∧ dagT E ops ents bs r) := rfl
theorem oneT_some (E : Env) (ops : List Oper) (ts : List (Nat × V)) (bs : List (Nat × List V)) (st : St) (o : Oper) : oneT E ops ts bs st (some o) = aopsK E ⟨ops⟩ [o] st fun st' => leT st' ts ∧ leB st' bs := rfl
theorem oneT_congr (E : Env) (ops : List Oper) (ts : List (Nat × V)) (bs : List (Nat × List V)) {st st' : St} {o o' : Option Oper} (h : st = st') (h' : o = o') : oneT E ops ts bs st o = oneT E ops ts bs st' o' := by rw [h, h']
/-- Behind a region that was gone through in all orders, by masks. -/
theorem any_dag {E : Env} {ops : List Oper} {st : St} {K : St → Prop} (ents : List (Nat × Nat × Nat × V)) (bs : List (Nat × List V)) (ps : List (Nat × Nat × Nat)) (h : dagOK ops ps = true) (h0 : leT st (selT ents 0) ∧ leB st bs) (ht : dagT E ops ents bs ps)
    (hk : K (stOf (selT ents (2 ^ ops.length - 1)) bs)) : AnyV E ops st K := by
  refine .inr ⟨fun L => stOf (selT ents L) bs, ps, h, le_stOf h0.1 h0.2, ?_, hk⟩
  clear h
  induction ps with
  | nil => trivial
  | cons p r ih =>
    obtain ⟨L, i, L'⟩ := p
    rw [dagT_cons] at ht
    refine ⟨?_, ih ht.2⟩
    have h1 := ht.1
    cases ho : ops[i]? with
    | none => rw [ho] at h1; exact h1.elim
    | some o =>
      rw [ho, oneT_some] at h1
      obtain ⟨st', hs, hl, hb⟩ := aopsK_out _ _ h1
      exact ⟨st', hs, le_stOf hl hb⟩
/-- A nil slice at a loop's head, as what grows there. -/
theorem loop_nil {E : Env} {a : Code} {st : St} {K : Out → St → Prop} (i n tok : Nat) {n0 : Nat} {k0 : Option Nat} (h : st.t i = .sl true n0 [] k0)
    (hr : LoopV (run E a) ⟨upd st.t i (.sl true n [] (some tok)), st.b⟩ K) : LoopV (run E a) st K := by
  obtain ⟨X, I, μ, x0, h0, hx⟩ := hr
  refine ⟨X, I, μ, x0, ⟨fun j => ?_, h0.b⟩, hx⟩
  have := h0.t j
  simp only [upd_at] at this
  split at this
  · rename_i e
    subst e
    rw [h]
    rcases this with e | e | ⟨n1, k1, n2, k2, e, _⟩
    · exact .inl e
    · exact .inr (.inr ⟨_, _, _, _, e, rfl⟩)
    · exact .inr (.inr ⟨_, _, _, _, e, rfl⟩)
  · exact this
theorem le_nil {u : V} {n n0 : Nat} {k k0 : Option Nat} (h : u.le (.sl true n [] k)) : u.le (.sl true n0 [] k0) := by
  rcases h with h | h | ⟨n1, k1, n2, k2, h, _⟩
  · exact .inl h
  · exact .inr (.inr ⟨_, _, _, _, h, rfl⟩)
  · exact .inr (.inr ⟨_, _, _, _, h, rfl⟩)
/-- A nil slice in a variable, at a loop's head, as what grows there. -/
theorem loop_nilB {E : Env} {a : Code} {st : St} {K : Out → St → Prop} (s n tok : Nat) (pre post : List V) {n0 : Nat} {k0 : Option Nat} (h : st.b s = some (pre ++ .sl true n0 [] k0 :: post))
    (hr : LoopV (run E a) ⟨st.t, upd st.b s (some (pre ++ .sl true n [] (some tok) :: post))⟩ K) : LoopV (run E a) st K := by
  obtain ⟨X, I, μ, x0, h0, hx⟩ := hr
  refine ⟨X, I, μ, x0, ⟨h0.t, fun s' cs' hs' => ?_⟩, hx⟩
  obtain ⟨cs, h1, h2, h3⟩ := h0.b s' cs' hs'
  have h1 : upd st.b s (some (pre ++ .sl true n [] (some tok) :: post)) s' = some cs := h1
  by_cases e : s' = s
  · subst e
    rw [upd_same] at h1
    cases h1
    refine ⟨_, h, by simpa using h2, fun i u' u hu' hu => ?_⟩
    by_cases hi : i < pre.length
    · rw [List.getElem?_append_left hi] at hu
      exact h3 i u' u hu' (by rw [List.getElem?_append_left hi]; exact hu)
    · rw [List.getElem?_append_right (by omega)] at hu
      cases hj : i - pre.length with
      | zero =>
        rw [hj] at hu
        cases hu
        exact le_nil (h3 i u' (.sl true n [] (some tok)) hu' (by rw [List.getElem?_append_right (by omega), hj]; rfl))
      | succ j =>
        rw [hj] at hu
        exact h3 i u' u hu' (by rw [List.getElem?_append_right (by omega), hj]; exact hu)
  · rw [upd_ne _ _ e] at h1
    exact ⟨cs, h1, h2, h3⟩
/-- A row that grows by a row. (Give it to simp with all its conditions shown.) -/
theorem growV_app {E : Env} {el n by' : Nat} {z : List V} (h1 : szB E.P el = some n) (hby : byB E.P el = some by') (hz : zeroB E.P el = some z) (h4 : n ≠ 0) (h5 : z.length = n)
    {es es' : List V} (hc : (es'.all fun u => u.cells.all V.cell) = true) (hb : (es.length + es'.length) * by' ≤ 140737488355328) (hl : es.length + es'.length ≤ 9223372036854775807) (st : St) (d tok : Nat) (nl : Bool) (t' : Option Nat) :
    growV E st (some d) el (.sl es.isEmpty n es (some tok)) (.sl nl n es' t') = some ⟨upd (strip tok (strip d st.t)) d (.sl (es ++ es').isEmpty n (es ++ es') (some d)), stripB E tok (stripB E d st.b)⟩ := by
  unfold growV
  simp only [h1, hby, hz]
  cases es with
  | nil =>
    simp only [List.isEmpty_nil, List.nil_append]
    rw [if_pos ⟨h4, h5, .inl trivial, hc, by simpa using hb, by simpa using hl⟩]
    rfl
  | cons e es =>
    simp only [List.isEmpty_cons]
    rw [if_pos ⟨h4, h5, trivial, .inl trivial, hc, hb, hl⟩]
    rfl
/-- A row that grows by one. (Give it to simp with all its conditions shown: a rule for each type of elements.) -/
theorem growV_acc {E : Env} {el n by' : Nat} {z : List V} (h1 : szB E.P el = some n) (hby : byB E.P el = some by') (hz : zeroB E.P el = some z) (h4 : n ≠ 0) (h5 : z.length = n)
    {es : List V} {v : V} (hc : v.cells.all V.cell = true) (hb : (es.length + 1) * by' ≤ 140737488355328) (hl : es.length + 1 ≤ 9223372036854775807) (st : St) (d tok : Nat) (nl : Bool) (t' : Option Nat) :
    growV E st (some d) el (.sl es.isEmpty n es (some tok)) (.sl nl n [v] t') = some ⟨upd (strip tok (strip d st.t)) d (.sl false n (es ++ [v]) (some d)), stripB E tok (stripB E d st.b)⟩ := by
  unfold growV
  simp only [h1, hby, hz]
  cases es with
  | nil =>
    simp only [List.isEmpty_nil, List.nil_append]
    rw [if_pos ⟨h4, h5, .inl trivial, by simp only [List.all_cons, hc, List.all_nil, Bool.and_true], by simpa using hb, by simp⟩]
    rfl
  | cons e es =>
    simp only [List.isEmpty_cons]
    rw [if_pos ⟨h4, h5, trivial, .inl trivial, by simp only [List.all_cons, hc, List.all_nil, Bool.and_true], hb, hl⟩]
theorem snoc_empty {α : Type} (l : List α) (x : α) : (l ++ [x]).isEmpty = false := by cases l <;> rfl
attribute [go_sem] stripO_none stripO_some snoc_empty
attribute [go_sem] selT_nil selT_cons oneT_some dagT_nil dagT_cons
attribute [go_sem] tOf bOf stOf leT leB Int.le_refl Int.lt_irrefl loopK_normal loopK_ret loopK_exit run_loop
attribute [congr] loopK_congr again_congr

/- Numbers that a loop counts. -/
theorem wrapk (x : Int) : bWrap .i64 x = wrap64 x := (bWrap_eq _ _).trans (IntWalk.i64_left x)
theorem bwrap_of {x : Int} (h : inR x) : bWrap .i64 x = x := (wrapk x).trans (wrap64_of h)
theorem count_up {i : Nat} (h : i < 9223372036854775807) : bWrap .i64 ((i : Int) + 1) = ((i + 1 : Nat) : Int) := by
  rw [bwrap_of (by unfold inR; omega)]; omega
theorem lt_cast (a b : Nat) : decide ((a : Int) < (b : Int)) = decide (a < b) := by
  by_cases h : a < b
  · rw [decide_eq_true h, decide_eq_true (by omega)]
  · rw [decide_eq_false h, decide_eq_false (by omega)]
theorem toNat_cast (a : Nat) : ((a : Int)).toNat = a := rfl
end Go.Proofs.Ytkacldoiimlmcaa
