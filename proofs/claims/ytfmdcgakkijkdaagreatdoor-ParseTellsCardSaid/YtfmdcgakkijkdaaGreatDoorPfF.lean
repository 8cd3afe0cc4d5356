/- The operations that touch memory, and calls: the run over plain data, and what it says of the program's. No program is named here. -/
import Derived.Test.YtfmdcgakkijkdaaGreatDoorPfE
import Derived.Laws.CopyRow
import Derived.Laws.CopyOwn
namespace Go.Proofs.YtfmdcgakkijkdaaGreatDoor
open Go Go.RowKit

/-- May be the value of one cell. -/
def V.cell : V → Bool
  | .undef => false
  | .ptr .. => false
  | .row .. => false
  | .bx _ => false
  | .x (.agg _) => false
  | .x (.tuple _) => false
  | .agg _ => false
  | .tup _ => false
  | _ => true

/-- No slot names the variable s. -/
def noPtrTo (s : Nat) (t : Nat → V) : Prop := ∀ i, (t i).nm ≠ some s

noncomputable def loadV (E : Env) (b : Nat → Option (List V)) (t : TypeId) (p : V) : Option V :=
  match p with
  | .ptr s off => match b s with
    | some cs => match E.MB s, aggB E.P t with
      | true, some true => partV E.P t (cs.map V.pc) off
      | _, _ => partV E.P t cs off
    | none => none
  | .ip cs => partV E.P t cs 0
  | _ => none

noncomputable def storeV (E : Env) (st : St) (t : TypeId) (p u : V) : Option St :=
  match p with
  | .ptr s off => match st.b s with
    | some cs =>
      if u.bare.dat = true ∧ u.bare.cells.all V.cell = true ∧ szB E.P t = some u.bare.cells.length ∧ E.okS s u = true ∧ off + u.bare.cells.length ≤ cs.length then
        some ⟨st.t, upd st.b s (some (cs.take off ++ (E.kept s u).cells ++ cs.drop (off + u.bare.cells.length)))⟩
      else none
    | none => none
  | _ => none

/-- A new variable of the call's own. -/
noncomputable def newV (st : St) (d : Option Tmp) (cs : List V) : Option St :=
  match d with
  | some s => open Classical in if noPtrTo s st.t then some ⟨upd st.t s (.ptr s 0), upd st.b s (some cs)⟩ else none
  | none => none

/-- A row that the text writes out. -/
def rowV (P : Program) (t : TypeId) (len : Nat) (parts : List (Nat × V)) : Option V :=
  match P.underlying t with
  | some (.slice el) => match szB P el, zeroB P el with
    | some n, some _ => if parts.map (·.1) = List.range len ∧ len * n ≤ 16777216 ∧ (parts.all fun p => p.2.dat && decide (p.2.cells.length = n)) = true then some (.sl false n (parts.map (·.2)) none) else none
    | _, _ => none
  | _ => none

/-- Is what the slot gets to be the call's own, to be written? -/
def Env.own (E : Env) : Option Tmp → Bool
  | some d => E.M d
  | none => false
/-- A row that the text writes out, and that the call will write. -/
noncomputable def newR (P : Program) (st : St) (d : Option Tmp) (t : TypeId) (len : Nat) (parts : List (Nat × V)) : Option St :=
  match d, P.underlying t with
  | some s, some (.slice el) => match szB P el, zeroB P el with
    | some n, some _ => open Classical in if noPtrTo s st.t ∧ parts.map (·.1) = List.range len ∧ len * n ≤ 16777216 ∧ (parts.all fun p => p.2.dat && decide (p.2.cells.length = n)) = true then
        some ⟨upd st.t s (.row s n len), upd st.b s (some (parts.flatMap fun p => p.2.cells))⟩ else none
    | _, _ => none
  | _, _ => none

/-- A row of the call's own grows; whoever else named it names it no more. -/
noncomputable def growV (E : Env) (st : St) (d : Option Tmp) (el : TypeId) (a b : V) : Option St :=
  match d, szB E.P el, byB E.P el, zeroB E.P el with
  | some d, some n, some by', some z =>
    match a, b with
    | .sl true _ [] tk, .sl _ sz' es' _ =>
      if n ≠ 0 ∧ z.length = n ∧ (sz' = n ∨ es' = []) ∧ (es'.all fun u => u.cells.all V.cell) = true ∧ es'.length * by' ≤ 140737488355328 ∧ es'.length ≤ 9223372036854775807 then
        some ⟨upd (stripO tk (strip d st.t)) d (.sl es'.isEmpty n es' (some d)), stripBO E tk (stripB E d st.b)⟩
      else none
    | .sl false sz es (some k), .sl _ sz' es' _ =>
      if n ≠ 0 ∧ z.length = n ∧ sz = n ∧ (sz' = n ∨ es' = []) ∧ (es'.all fun u => u.cells.all V.cell) = true ∧ (es.length + es'.length) * by' ≤ 140737488355328 ∧ es.length + es'.length ≤ 9223372036854775807 then
        some ⟨upd (strip k (strip d st.t)) d (.sl false n (es ++ es') (some d)), stripB E k (stripB E d st.b)⟩
      else none
    | .row s sz len, .sl _ sz' es' _ => match st.b s with
      | some cs =>
        if n ≠ 0 ∧ z.length = n ∧ sz = n ∧ (sz' = n ∨ es' = []) ∧ (es'.all fun u => u.cells.all V.cell) = true ∧ (len + es'.length) * by' ≤ 140737488355328 ∧ len + es'.length ≤ 9223372036854775807 ∧ E.MB d = false then
          some ⟨upd (kill s (kill d st.t)) d (.row d n (len + es'.length)), upd (upd st.b s none) d (some (cs.take (len * n) ++ es'.flatMap V.cells))⟩
        else none
      | none => none
    | _, _ => none
  | _, _, _, _ => none

/-- A row of the call's own, with room. -/
noncomputable def makeV (E : Env) (st : St) (d : Option Tmp) (el : TypeId) (l c : V) : Option St :=
  match d, szB E.P el, byB E.P el, zeroB E.P el with
  | some d, some n, some by', some z =>
    match l, c with
    | .x (.int _ l), .x (.int _ c) =>
      if z.length = n ∧ l = 0 ∧ 0 ≤ c ∧ (by' : Int) * c ≤ 281474976710656 ∧ c ≤ 9223372036854775807 then some ⟨upd (strip d st.t) d (.sl false n [] (some d)), stripB E d st.b⟩ else none
    | _, _ => none
  | _, _, _, _ => none

/-- Which function a value of a function's type is. -/
def fnOf : V → Option FuncId
  | .x (.func (.func f) ⟨[]⟩ ⟨[]⟩) => some f
  | _ => none
theorem fnOf_func (f : FuncId) : fnOf (.x (.func (.func f) #[] #[])) = some f := rfl
theorem fnOf_is {u : V} {f : FuncId} (h : fnOf u = some f) : u = .x (.func (.func f) #[] #[]) := by
  unfold fnOf at h
  split at h
  · cases h; rfl
  · cases h
/-- What an operation yields that writes no memory of the call's own. -/
noncomputable def valV (E : Env) (op : Op) (e : Operand → V) (b : Nat → Option (List V)) : Option V :=
  match op with
  | .load t p => np (loadV E b t (e p))
  | .call { callee := .value c, args, .. } => match fnOf (e c) with
    | some f => match E.F f with
      | some F => if (args.toList.map fun x => (e x).bare).all V.dat = true then
          np (F (args.toList.map fun x => (e x).bare))
        else none
      | none => none
    | none => none
  | .buildSlice t len parts => rowV E.P t len (parts.toList.map fun p => (p.1, (e p.2).bare))
  | op => pureV E op e

/-- An operand as an argument: the address of a variable of the call's own goes with what it holds. -/
noncomputable def argP (b : Nat → Option (List V)) : V → V
  | .ptr s 0 => match b s with
    | some cs => .bx cs
    | none => .undef
  | u => u.bare
def slotsP : List V → List Nat
  | [] => []
  | .ptr s 0 :: l => s :: slotsP l
  | _ :: l => slotsP l
def V.datP : V → Bool
  | .bx _ => true
  | u => u.dat
def putP : (Nat → Option (List V)) → List Nat → List (List V) → Option (Nat → Option (List V))
  | b, [], [] => some b
  | b, s :: ss, c :: cs => putP (upd b s (some c)) ss cs
  | _, _, _ => none
def killR0 (ss : List Nat) : V → V
  | .row s z l => if ss.contains s = true then .undef else .row s z l
  | v => v
theorem killR_ex : ∃ f : List Nat → V → V, ∀ s u, f s u = killR0 s u := ⟨killR0, fun _ _ => rfl⟩
noncomputable def killRV : List Nat → V → V := Classical.choose killR_ex
theorem killRV_eq (s : List Nat) (u : V) : killRV s u = killR0 s u := Classical.choose_spec killR_ex s u
noncomputable def killRs (ss : List Nat) (t : Nat → V) : Nat → V := fun i => killRV ss (t i)
theorem killRV_is (ss : List Nat) (u : V) : killRV ss u = u ∧ (∀ s z l, u = .row s z l → s ∉ ss) ∨ killRV ss u = .undef := by
  rw [killRV_eq]
  cases u <;> try exact .inl ⟨rfl, fun _ _ _ h => by cases h⟩
  rename_i s z l
  simp only [killR0]
  by_cases h : ss.contains s = true
  · rw [if_pos h]; exact .inr rfl
  · rw [if_neg h]
    refine .inl ⟨rfl, fun s' z' l' e => ?_⟩
    cases e
    intro hm
    exact h (List.contains_iff_mem.2 hm)
/-- A call that is handed addresses. -/
noncomputable def callP (E : Env) (st : St) (d : Option Tmp) (F : List V → Option (V × List (List V))) (vs : List V) : Option St :=
  if (vs.map (argP st.b)).all V.datP = true ∧ (slotsP vs).Nodup ∧ ((slotsP vs).all fun s => !E.MB s) = true then
    match F (vs.map (argP st.b)) with
    | some (r, outs) => match r.notPtr, putP st.b (slotsP vs) outs with
      | true, some b' => some (St.put ⟨killRs (slotsP vs) st.t, b'⟩ d r.bare)
      | _, _ => none
    | none => none
  else none

/-- What an operation makes of what the run holds. -/
noncomputable def execV (E : Env) (o : Oper) (st : St) : Option St :=
  match o.op with
  | .alloc t => match zeroB E.P t with
    | some z => if E.okN o.dst z = true then newV st o.dst z else none
    | none => none
  | .box _ x => if (ev E st x).bare.dat = true ∧ E.okN o.dst (ev E st x).bare.cells = true then newV st o.dst (ev E st x).bare.cells else none
  | .store t p x => if o.dst.isNone = true then storeV E st t (ev E st p) (ev E st x) else none
  | .load t p => match np (loadV E st.b t (ev E st p)) with
    | some u => some (st.put o.dst (E.keepL (ev E st p) u))
    | none => none
  | .call { callee := .builtin .append, args, argTypes } => match args.toList, argTypes.toList with
    | [x, y], [t, t'] => match decide (t = t'), E.P.underlying t with
      | true, some (.slice el) => growV E st o.dst el (ev E st x) (ev E st y)
      | _, _ => none
    | _, _ => none
  | .makeSlice t l c => match E.P.underlying t with
    | some (.slice el) => makeV E st o.dst el (ev E st l) (ev E st c)
    | _ => none
  | .buildSlice t len parts => match E.own o.dst with
    | true => if E.okN o.dst ((parts.toList.map fun p => (p.1, (ev E st p.2).bare)).flatMap fun p => p.2.cells) = true then newR E.P st o.dst t len (parts.toList.map fun p => (p.1, (ev E st p.2).bare)) else none
    | false => match valV E (.buildSlice t len parts) (ev E st) st.b with
      | some u => some (st.put o.dst (keepV (.buildSlice t len parts) u))
      | none => none
  | .call { callee := .value c, args, argTypes } => match fnOf (ev E st c) with
    | some f => match E.FP f with
      | some F => callP E st o.dst F (args.toList.map (ev E st))
      | none => match valV E (.call { callee := .value c, args, argTypes }) (ev E st) st.b with
        | some u => some (st.put o.dst (keepV (.call { callee := .value c, args, argTypes }) u))
        | none => none
    | none => none
  | op => match valV E op (ev E st) st.b with
    | some u => some (st.put o.dst (keepV op u))
    | none => none

/-- What was there stays, but for the blocks X. -/
structure Bel (X : List Nat) (w0 w : World) : Prop where
  os : w.os = w0.os
  tape : w.tape = w0.tape
  output : w.output = w0.output
  size : w0.heap.size ≤ w.heap.size
  block : ∀ k, k < w0.heap.size → k ∉ X → w.heap[k]? = w0.heap[k]?
theorem Bel.refl (X : List Nat) (w : World) : Bel X w w := ⟨rfl, rfl, rfl, Nat.le_refl _, fun _ _ _ => rfl⟩
theorem Bel.trans {X : List Nat} {B : Nat} {a b c : World} (h : Bel X a b) (k : Below B b c) (hB : a.heap.size ≤ B) : Bel X a c :=
  ⟨k.os.trans h.os, k.tape.trans h.tape, k.output.trans h.output, Nat.le_trans h.size k.size, fun i hi hx => (k.block i (Nat.lt_of_lt_of_le hi hB)).trans (h.block i hi hx)⟩
theorem Bel.drew {X : List Nat} {a w : World} (h : Bel X a w) : Bel X a w.drew := ⟨h.os, h.tape, h.output, h.size, h.block⟩
theorem Bel.alloc {X : List Nat} {a w : World} (h : Bel X a w) (hB : a.heap.size ≤ w.heap.size) (o : Obj) : Bel X a (w.alloc o) :=
  ⟨h.os, h.tape, h.output, by simp; omega, fun k hk hx => (Below.heap_alloc _ _ _ (by omega)).trans (h.block k hk hx)⟩
theorem Bel.setRow {X : List Nat} {g : Nat} {a w : World} (h : Bel X a w) (hg : a.heap.size ≤ g ∨ g ∈ X) (cs : Array Value) : Bel X a (w.setRow g cs) :=
  ⟨h.os, h.tape, h.output, by have := h.size; simp only [World.setRow]; simpa using this, fun k hk hx => (setRow_other w g k cs (by rintro rfl; rcases hg with hg | hg; exact absurd hk (Nat.not_lt.2 hg); exact hx hg)).trans (h.block k hk hx)⟩
theorem Bel.below {w0 w : World} (h : Bel [] w0 w) : Below w0.heap.size w0 w := ⟨h.os, h.tape, h.output, h.size, fun k hk => h.block k hk (by simp)⟩
theorem Bel.step {X Y : List Nat} {a w w' : World} (h : Bel X a w) (k : Bel Y w w') (hY : ∀ y ∈ Y, a.heap.size ≤ y ∨ y ∈ X) : Bel X a w' :=
  ⟨k.os.trans h.os, k.tape.trans h.tape, k.output.trans h.output, Nat.le_trans h.size k.size, fun i hi hx => (k.block i (Nat.lt_of_lt_of_le hi h.size) (fun hy => by rcases hY i hy with h1 | h1; exact absurd hi (Nat.not_lt.2 h1); exact hx h1)).trans (h.block i hi hx)⟩
/-- The variables that the call was handed: their blocks, and (from 1000 on) by which name they go. -/
structure Pm where
  X : List Nat
  b : Nat → Nat

structure BoxAt (m : Lim) (w : World) (blk : Nat) (cs : List V) : Prop where
  lim : m blk = some 0
  is : ∃ vals ty xs rest, w.heap[blk]? = some (.cells vals ty (0, 0)) ∧ vals.toList = xs ++ rest ∧ RdL m w xs cs

/-- A row of the call's own: nobody reads behind its end. -/
structure RowAt (m : Lim) (w0 w : World) (v : Value) (g sz len : Nat) : Prop where
  lo : w0.heap.size ≤ g
  lim : m g = some (len * sz)
  is : ∃ cap cur ty, v = .slice (some ⟨g, 0, none⟩) len cap ∧ w.heap[g]? = some (.cells cur ty (0, 0)) ∧ len ≤ cap ∧ cur.size = cap * sz

/-- Who bears a value: a slot, or a cell that may bear marks. -/
def Bear (E : Env) (w : World) (β : Nat → Nat) (st : St) (tm : Nat → Value) (v : Value) (u : V) : Prop :=
  (∃ i, st.t i = u ∧ tm i = v) ∨ ∃ k cs j, E.MB k = true ∧ st.b k = some cs ∧ cs[j]? = some u ∧ w.cell? ⟨β k, j, none⟩ = some v
structure Rows (E : Env) (m : Lim) (w0 w : World) (β : Nat → Nat) (st : St) (tm : Nat → Value) (ρ : Nat → Nat) : Prop where
  row : ∀ v sz es s, Bear E w β st tm v (.sl false sz es (some s)) → RowAt m w0 w v (ρ s) sz es.length
  sep : ∀ v sz es s v' sz' es' s', Bear E w β st tm v (.sl false sz es (some s)) → Bear E w β st tm v' (.sl false sz' es' (some s')) → ρ s = ρ s' → s = s'
  box : ∀ v sz es s k cs, Bear E w β st tm v (.sl false sz es (some s)) → st.b k = some cs → β k ≠ ρ s

/-- What a slot names is where it is said to be. -/
structure OwnAt (w : World) (β : Nat → Nat) (v : Value) (s sz len : Nat) (cs : List V) : Prop where
  fit : len * sz ≤ cs.length
  is : ∃ cap cur ty, v = .slice (some ⟨β s, 0, none⟩) len cap ∧ w.heap[β s]? = some (.cells cur ty (0, 0)) ∧ cur.size = cap * sz
/-- Each row of the call's own that may be written lies in its variable. -/
def Own (w : World) (β : Nat → Nat) (st : St) (tm : Nat → Value) : Prop :=
  ∀ i s sz len cs, st.t i = .row s sz len → st.b s = some cs → OwnAt w β (tm i) s sz len cs
theorem Own.sub {w w' : World} {β β' : Nat → Nat} {st st' : St} {tm tm' : Nat → Value} (h : Own w β st tm)
    (ht : ∀ i s sz len cs', st'.t i = .row s sz len → st'.b s = some cs' → ∃ j cs, st.t j = .row s sz len ∧ tm j = tm' i ∧ st.b s = some cs ∧ cs.length ≤ cs'.length ∧ β' s = β s ∧
      ∀ cur ty, w.heap[β s]? = some (.cells cur ty (0, 0)) → ∃ cur' ty', w'.heap[β s]? = some (.cells cur' ty' (0, 0)) ∧ cur'.size = cur.size) : Own w' β' st' tm' := by
  intro i s sz len cs' hi hb
  obtain ⟨j, cs, h1, h2, h3, h4, h5, h6⟩ := ht i s sz len cs' hi hb
  obtain ⟨hl, cap, cur, ty, hv, hh, hs⟩ := h j s sz len cs h1 h3
  obtain ⟨cur', ty', h7, h8⟩ := h6 cur ty hh
  exact ⟨Nat.le_trans hl h4, cap, cur', ty', by rw [← h2, hv, h5], by rw [h5]; exact h7, by rw [h8]; exact hs⟩

/-- What the run holds is what the call holds. -/
structure Rel (E : Env) (n : Nat) (pm : Pm) (m0 : Lim) (w0 : World) (m : Lim) (β : Nat → Nat) (st : St) (a : Act) (w : World) : Prop where
  tmps : ∀ i, Rs m w β (a.tmps.getD i Go.undef) (st.t i)
  size : a.tmps.size = n
  boxes : ∀ s cs, st.b s = some cs → BoxAt m w (β s) cs ∧ (w0.heap.size ≤ β s ∨ β s ∈ pm.X)
  inj : ∀ s s' cs cs', st.b s = some cs → st.b s' = some cs' → β s = β s' → s = s'
  below : Bel pm.X w0 w
  par : n ≤ 1000 ∧ (∀ s, 1000 ≤ s → β s = pm.b s) ∧ ∀ x ∈ pm.X, E.K ≤ x
  mold : ∀ blk, blk < w0.heap.size → m blk = m0 blk
  rows : ∃ ρ, Rows E m w0 w β st (fun i => a.tmps.getD i Go.undef) ρ
  own : Own w β st fun i => a.tmps.getD i Go.undef
  defers : a.defers = []
  glob : ∀ g, Rd m w (.pointer (some ⟨g, 0, none⟩)) (E.G g)
  j : E.J w0

/-- A function's contract: of plain data it makes plain data, and only makes memory. -/
def Fun (E : Env) (f : FuncId) (F : List V → Option V) : Prop :=
  (∀ args w, (callFunc f args).run E.P w = .ok (.enter f args) w) ∧
  ∀ (m : Lim) (w : World) (vs : Array Value) (us : List V) (r : V), F us = some r → us.all V.dat = true → RdL m w vs.toList us → E.J w → (∀ g, Rd m w (.pointer (some ⟨g, 0, none⟩)) (E.G g)) →
    Calls E.P f vs w fun e w' => ∃ v m', e = .returned v ∧ Rd m' w' v r ∧ Below w.heap.size w w' ∧ ∀ blk, blk < w.heap.size → m' blk = m blk

/-- Arguments, some of them addresses of variables: the blocks of these. -/
inductive ArgsP (m : Lim) (w : World) (K : Nat) : List Value → List V → List Nat → Prop
  | nil : ArgsP m w K [] [] []
  | bx {b : Nat} {cs : List V} {vs : List Value} {us : List V} {bs : List Nat} (hb : BoxAt m w b cs) (hK : K ≤ b) (h : ArgsP m w K vs us bs) : ArgsP m w K (.pointer (some ⟨b, 0, none⟩) :: vs) (.bx cs :: us) (b :: bs)
  | dat {v : Value} {u : V} {vs : List Value} {us : List V} {bs : List Nat} (hr : Rd m w v u) (hd : u.dat = true) (h : ArgsP m w K vs us bs) : ArgsP m w K (v :: vs) (u :: us) bs
/-- What the variables hold then. -/
def OutsP (m : Lim) (w : World) : List Nat → List (List V) → Prop
  | [], [] => True
  | b :: bs, c :: cs => BoxAt m w b c ∧ OutsP m w bs cs
  | _, _ => False
theorem OutsP.get {m : Lim} {w : World} : ∀ {bs : List Nat} {cs : List (List V)}, OutsP m w bs cs → ∀ (i b : Nat) (c : List V), bs[i]? = some b → cs[i]? = some c → BoxAt m w b c
  | [], [], _, i, b, c, hb, _ => by simp at hb
  | b0 :: bs, c0 :: cs, h, 0, b, c, hb, hc => by simp at hb hc; subst hb hc; exact h.1
  | b0 :: bs, c0 :: cs, h, i + 1, b, c, hb, hc => OutsP.get h.2 i b c (by simpa using hb) (by simpa using hc)
/-- A contract of a function that is handed addresses. -/
def FunP (E : Env) (f : FuncId) (F : List V → Option (V × List (List V))) : Prop :=
  (∀ args w, (callFunc f args).run E.P w = .ok (.enter f args) w) ∧
  ∀ (m : Lim) (w : World) (vs : Array Value) (us : List V) (bs : List Nat) (r : V) (outs : List (List V)), F us = some (r, outs) → ArgsP m w E.K vs.toList us bs → bs.Nodup → E.J w → (∀ g, Rd m w (.pointer (some ⟨g, 0, none⟩)) (E.G g)) →
    Calls E.P f vs w fun e w' => ∃ v m', e = .returned v ∧ Rd m' w' v r ∧ Bel bs w w' ∧ (∀ blk, blk < w.heap.size → m' blk = m blk) ∧ OutsP m' w' bs outs

/-- What the calls lean on. -/
structure EnvOK (E : Env) : Prop where
  fn : ∀ f F, E.F f = some F → Fun E f F
  fnP : ∀ f F, E.FP f = some F → FunP E f F
  keep : ∀ X w w', (∀ x ∈ X, E.K ≤ x) → E.J w → Bel X w w' → E.J w'
  high : ∀ w, E.J w → E.K ≤ w.heap.size

section
variable {E : Env} {n : Nat} {pm : Pm} {m0 m : Lim} {w0 w : World} {β : Nat → Nat} {st : St} {a : Act}

theorem Rs.mono {m' : Lim} {w' : World} (he : Ext m w m' w') {v : Value} {u : V} (h : Rs m w β v u) : Rs m' w' β v u := h.imp (Rd.mono he) id

theorem Rows.to {E' : Env} {ρ : Nat → Nat} {tm tm' : Nat → Value} (h : Rows E m w0 w β st tm ρ) {m' : Lim} {w' : World} {β' : Nat → Nat} {st' : St}
    (hB : ∀ v sz es s, Bear E' w' β' st' tm' v (.sl false sz es (some s)) → Bear E w β st tm v (.sl false sz es (some s)))
    (hw : ∀ v sz es s, Bear E w β st tm v (.sl false sz es (some s)) → w'.heap[ρ s]? = w.heap[ρ s]? ∧ m' (ρ s) = m (ρ s))
    (hb : ∀ v sz es s k cs', Bear E w β st tm v (.sl false sz es (some s)) → st'.b k = some cs' → β' k ≠ ρ s) : Rows E' m' w0 w' β' st' tm' ρ := by
  refine ⟨fun v sz es s hi => ?_, fun v sz es s v' sz' es' s' hi hi' hr => h.sep _ _ _ _ _ _ _ _ (hB _ _ _ _ hi) (hB _ _ _ _ hi') hr, fun v sz es s k cs hi hk => hb _ _ _ _ _ _ (hB _ _ _ _ hi) hk⟩
  obtain ⟨lo, lim, cap, cur, ty, hv, hh, hc, hs⟩ := h.row v sz es s (hB _ _ _ _ hi)
  obtain ⟨h1, h2⟩ := hw v sz es s (hB _ _ _ _ hi)
  exact ⟨lo, by rw [h2]; exact lim, cap, cur, ty, hv, by rw [h1]; exact hh, hc, hs⟩
theorem Bear.slot {tm : Nat → Value} {i : Nat} {u : V} (h : st.t i = u) : Bear E w β st tm (tm i) u := .inl ⟨i, h, rfl⟩
/-- Where the slots and the cells are as before. -/
theorem Bear.from {E' : Env} {tm tm' : Nat → Value} {w' : World} {β' : Nat → Nat} {st' : St} {v : Value} {u : V} (h : Bear E' w' β' st' tm' v u)
    (ht : ∀ i, st'.t i = u → Bear E w β st tm (tm' i) u) (hb : ∀ k cs' j, E'.MB k = true → st'.b k = some cs' → cs'[j]? = some u → w'.cell? ⟨β' k, j, none⟩ = some v → Bear E w β st tm v u) : Bear E w β st tm v u := by
  rcases h with ⟨i, h1, h2⟩ | ⟨k, cs, j, h1, h2, h3, h4⟩
  · rw [← h2]; exact ht i h1
  · exact hb k cs j h1 h2 h3 h4
theorem cell_block {w w' : World} {g j : Nat} (h : w'.heap[g]? = w.heap[g]?) : w'.cell? ⟨g, j, none⟩ = w.cell? ⟨g, j, none⟩ := by
  simp [World.cell?, h]

theorem getD_set (t : Array Value) (d i : Nat) (v : Value) (hd : d < t.size) : (t.setIfInBounds d v).getD i Go.undef = if i = d then v else t.getD i Go.undef := by
  simp only [Array.getD_eq_getD_getElem?, Array.getElem?_setIfInBounds]
  by_cases h : d = i
  · subst h; simp [hd]
  · simp [h, Ne.symm h]

theorem Rel.put (h : Rel E n pm m0 w0 m β st a w) {d : Option Tmp} (hd : ∀ k, d = some k → k < n) {v : Value} {u : V} (hv : Rs m w β v u)
    (hk : ∀ sz es s, u = .sl false sz es (some s) → Bear E w β st (fun i => a.tmps.getD i Go.undef) v u)
    (ho : ∀ s sz len cs, u = .row s sz len → st.b s = some cs → OwnAt w β v s sz len cs) : Rel E n pm m0 w0 m β (st.put d u) (a.put d v) w := by
  cases d with
  | none => exact h
  | some d =>
    have hlt : d < a.tmps.size := by rw [h.size]; exact hd d rfl
    refine ⟨fun i => ?_, by simp [Act.put, h.size], h.boxes, h.inj, h.below, h.par, h.mold, ?_, fun i s sz len cs hi hb => ?_, h.defers, h.glob, h.j⟩
    · simp only [Act.put, St.put, upd, getD_set _ _ _ _ hlt]
      split
      · exact hv
      · exact h.tmps i
    rotate_left
    · simp only [Act.put, St.put, upd_at, getD_set _ _ _ _ hlt] at hi hb ⊢
      split
      · rename_i e
        rw [if_pos e] at hi
        exact ho s sz len cs hi hb
      · rename_i e
        rw [if_neg e] at hi
        exact h.own i s sz len cs hi hb
    · obtain ⟨ρ, hr⟩ := h.rows
      refine ⟨ρ, hr.to (fun v' sz es s hi => hi.from (fun i hi => ?_) (fun k cs j h1 h2 h3 h4 => .inr ⟨k, cs, j, h1, h2, h3, h4⟩)) (fun _ _ _ _ _ => ⟨rfl, rfl⟩) hr.box⟩
      simp only [Act.put, St.put, upd_at, getD_set _ _ _ _ hlt] at hi ⊢
      split at hi
      · rename_i e
        rw [if_pos e, ← hi]
        exact hk sz es s hi
      · rename_i e
        rw [if_neg e]
        exact .inl ⟨i, hi, rfl⟩

theorem Rel.ext (h : Rel E n pm m0 w0 m β st a w) {m' : Lim} {w' : World} (he : Ext m w m' w') (hb : ∀ g o, w.heap[g]? = some o → (w0.heap.size ≤ g ∨ g ∈ pm.X) → w'.heap[g]? = w.heap[g]? ∧ m' g = m g)
    (hbel : Bel pm.X w0 w') (hm : ∀ blk, blk < w0.heap.size → m' blk = m0 blk) : Rel E n pm m0 w0 m' β st a w' := by
  refine ⟨fun i => (h.tmps i).mono he, h.size, fun s cs hs => ?_, h.inj, hbel, h.par, hm, ?_, h.own.sub (fun i s sz len cs hi hs => ⟨i, cs, hi, rfl, hs, Nat.le_refl _, rfl, fun cur ty hh => ?_⟩), h.defers, fun g => (h.glob g).mono he, h.j⟩
  rotate_right
  · obtain ⟨_, hge⟩ := h.boxes s cs hs
    exact ⟨cur, ty, by rw [(hb _ _ hh hge).1]; exact hh, rfl⟩
  · obtain ⟨⟨hl, vals, ty, xs, rest, hh, hx, hr⟩, hge⟩ := h.boxes s cs hs
    obtain ⟨h1, h2⟩ := hb _ _ hh hge
    exact ⟨⟨by rw [h2]; exact hl, vals, ty, xs, rest, by rw [h1]; exact hh, hx, hr.mono he⟩, hge⟩
  · obtain ⟨ρ, hr⟩ := h.rows
    refine ⟨ρ, hr.to (fun v sz es s hi => hi.from (fun i hi => .inl ⟨i, hi, rfl⟩) (fun k cs j h1 h2 h3 h4 => ?_)) (fun v sz es s hi => ?_) hr.box⟩
    · obtain ⟨⟨_, vals, ty, xs, rest, hh, _, _⟩, hge⟩ := h.boxes k cs h2
      rw [cell_block (hb _ _ hh hge).1] at h4
      exact .inr ⟨k, cs, j, h1, h2, h3, h4⟩
    · obtain ⟨lo, _, cap, cur, ty, _, hh, _⟩ := hr.row v sz es s hi
      exact hb _ _ hh (.inl lo)

theorem heap_lt {w : World} {k : Nat} {o : Obj} (h : w.heap[k]? = some o) : k < w.heap.size := by
  rcases Nat.lt_or_ge k w.heap.size with h' | h'
  · exact h'
  · simp [Array.getElem?_eq_none h'] at h

theorem Rel.call (h : Rel E n pm m0 w0 m β st a w) {m' : Lim} {w' : World} (hb : Below w.heap.size w w') (hm : ∀ blk, blk < w.heap.size → m' blk = m blk) : Rel E n pm m0 w0 m' β st a w' := by
  refine h.ext (Ext.of_below hb hm) (fun g o hh _ => ?_) (h.below.trans hb h.below.size) (fun blk hlt => ?_)
  · exact ⟨hb.block _ (heap_lt hh), hm _ (heap_lt hh)⟩
  · rw [hm blk (Nat.lt_of_lt_of_le hlt h.below.size), h.mold blk hlt]

theorem putP_is : ∀ {ss : List Nat} {outs : List (List V)} {b b' : Nat → Option (List V)}, putP b ss outs = some b' → ∀ (s' : Nat) (c' : List V), b' s' = some c' → (s' ∉ ss ∧ b s' = some c') ∨ ∃ i : Nat, ss[i]? = some s' ∧ outs[i]? = some c'
  | [], [], b, b', h, s', c', hs => by cases h; exact .inl ⟨by simp, hs⟩
  | s :: ss, c :: outs, b, b', h, s', c', hs => by
    have h0 : putP (upd b s (some c)) ss outs = some b' := h
    rcases putP_is h0 s' c' hs with ⟨h1, h2⟩ | ⟨i, h1, h2⟩
    · by_cases e : s' = s
      · subst e
        rw [upd_same] at h2
        cases h2
        exact .inr ⟨0, rfl, rfl⟩
      · rw [upd_ne _ _ e] at h2
        exact .inl ⟨by simp [e, h1], h2⟩
    · exact .inr ⟨i + 1, by simpa using h1, by simpa using h2⟩
  | [], _ :: _, b, b', h, _, _, _ => by cases h
  | _ :: _, [], b, b', h, _, _, _ => by cases h
theorem Rs.killR {v : Value} {u : V} {ss : List Nat} (h : Rs m w β v u) : Rs m w β v (killRV ss u) := by
  rcases killRV_is ss u with ⟨e, _⟩ | e
  · rw [e]; exact h
  · rw [e]; exact .of (.undef _)
/-- Behind a call that was handed addresses. -/
theorem Rel.callP (h : Rel E n pm m0 w0 m β st a w) {ss : List Nat} {outs : List (List V)} {b' : Nat → Option (List V)} {m' : Lim} {w' : World} (hdom : ∀ s ∈ ss, ∃ cs, st.b s = some cs) (hb : Bel (ss.map β) w w') (hm : ∀ blk, blk < w.heap.size → m' blk = m blk)
    (ho : OutsP m' w' (ss.map β) outs) (hp : putP st.b ss outs = some b') (hmb : ∀ s ∈ ss, E.MB s = false) : Rel E n pm m0 w0 m' β ⟨killRs ss st.t, b'⟩ a w' := by
  have hblk : ∀ {s : Nat} {cs : List V}, st.b s = some cs → β s < w.heap.size := fun hs => by
    obtain ⟨⟨_, _, _, _, _, hh, _⟩, _⟩ := h.boxes _ _ hs
    exact heap_lt hh
  have hnot : ∀ {s' : Nat} {c' : List V}, st.b s' = some c' → s' ∉ ss → β s' ∉ ss.map β := fun {s' c'} hs hn hm' => by
    obtain ⟨s, h1, h2⟩ := List.mem_map.1 hm'
    obtain ⟨cs, h3⟩ := hdom s h1
    exact hn (h.inj _ _ _ _ h3 hs h2 ▸ h1)
  have he : Ext m w m' w' := by
    refine ⟨hb.size, fun blk off v hlt hlim hc => ?_, fun blk hlt fr' hf => ⟨fr', by rw [← hm blk hlt]; exact hf, Nat.le_refl _⟩⟩
    by_cases hx : blk ∈ ss.map β
    · obtain ⟨s, h1, rfl⟩ := List.mem_map.1 hx
      obtain ⟨cs, h3⟩ := hdom s h1
      have := hlim 0 (h.boxes _ _ h3).1.lim
      omega
    · rw [World.cell?_of_block (w := w) (hb.block blk hlt hx)]; exact hc
  have hold : ∀ {s' : Nat} {c' : List V}, b' s' = some c' → ∃ c, st.b s' = some c := fun {s' c'} hs => by
    rcases putP_is hp s' c' hs with ⟨_, h2⟩ | ⟨i, h1, _⟩
    · exact ⟨_, h2⟩
    · exact hdom _ (List.mem_of_getElem? h1)
  refine ⟨fun i => ((h.tmps i).mono he).killR, h.size, fun s' c' hs' => ?_, fun s1 s2 c1 c2 h1 h2 heq => ?_, h.below.step hb (fun y hy => ?_), h.par, fun blk hlt => ?_, ?_, fun i s sz len c' hi hs => ?_, h.defers, fun g => (h.glob g).mono he, h.j⟩
  · obtain ⟨c, hc⟩ := hold hs'
    refine ⟨?_, (h.boxes s' c hc).2⟩
    rcases putP_is hp s' c' hs' with ⟨h1, h2⟩ | ⟨i, h1, h2⟩
    · obtain ⟨⟨hl, vals, ty, xs, rest, hh, hx, hr⟩, _⟩ := h.boxes s' c' h2
      exact ⟨by rw [hm _ (heap_lt hh)]; exact hl, vals, ty, xs, rest, by rw [hb.block _ (heap_lt hh) (hnot h2 h1)]; exact hh, hx, hr.mono he⟩
    · exact ho.get i (β s') c' (by rw [List.getElem?_map, h1]; rfl) h2
  · obtain ⟨c1', h3⟩ := hold h1
    obtain ⟨c2', h4⟩ := hold h2
    exact h.inj _ _ _ _ h3 h4 heq
  · obtain ⟨s, h1, rfl⟩ := List.mem_map.1 hy
    obtain ⟨cs, h3⟩ := hdom s h1
    exact (h.boxes _ _ h3).2
  · rw [hm blk (Nat.lt_of_lt_of_le hlt h.below.size), h.mold blk hlt]
  · obtain ⟨ρ, hr⟩ := h.rows
    refine ⟨ρ, hr.to (fun v sz es s hi => hi.from (fun i hi => ?_) (fun k c j h1 h2 h3 h4 => ?_)) (fun v sz es s hi => ?_) (fun v sz es s k c hi hk => ?_)⟩
    · have hi : killRV ss (st.t i) = _ := hi
      rcases killRV_is ss (st.t i) with ⟨e, _⟩ | e
      · rw [e] at hi; exact .inl ⟨i, hi, rfl⟩
      · rw [e] at hi; cases hi
    · have hns : k ∉ ss := fun hm' => by rw [hmb k hm'] at h1; cases h1
      rcases putP_is hp k c h2 with ⟨_, h5⟩ | ⟨i, h5, _⟩
      · obtain ⟨⟨_, vals, ty, xs, rest, hh, _, _⟩, _⟩ := h.boxes k c h5
        rw [cell_block (hb.block _ (heap_lt hh) (hnot h5 hns))] at h4
        exact .inr ⟨k, c, j, h1, h5, h3, h4⟩
      · exact absurd (List.mem_of_getElem? h5) hns
    · obtain ⟨_, _, _, _, _, _, hh, _⟩ := hr.row v sz es s hi
      refine ⟨hb.block _ (heap_lt hh) (fun hx => ?_), hm _ (heap_lt hh)⟩
      obtain ⟨s2, h1, h2⟩ := List.mem_map.1 hx
      obtain ⟨cs, h3⟩ := hdom s2 h1
      exact hr.box _ _ _ _ _ _ hi h3 h2
    · obtain ⟨c0, hc0⟩ := hold hk
      exact hr.box _ _ _ _ _ _ hi hc0
  · have hi : killRV ss (st.t i) = _ := hi
    rcases killRV_is ss (st.t i) with ⟨e, hn⟩ | e
    · rw [e] at hi
      have hns := hn _ _ _ hi
      rcases putP_is hp s c' hs with ⟨_, h2⟩ | ⟨j, h1, _⟩
      · obtain ⟨hl, cap, cur, ty, hv, hh, hsz⟩ := h.own i s sz len c' hi h2
        exact ⟨hl, cap, cur, ty, hv, by rw [hb.block _ (heap_lt hh) (hnot h2 hns)]; exact hh, hsz⟩
      · exact absurd (List.mem_of_getElem? h1) hns
    · rw [e] at hi; cases hi

theorem World.heap_new (w : World) (o : Obj) : (w.alloc o).heap[w.heap.size]? = some o := by
  show (w.heap.push o)[w.heap.size]? = some o
  simp

theorem Rel.newG (h : Rel E n pm m0 w0 m β st a w) {s : Nat} (hs : s < n) (hn : noPtrTo s st.t) {vals : Array Value} {ty : TypeId} {cs : List V} (hr : RdL m w vals.toList cs) {u : V} {v : Value}
    (hmb : E.okN (some s) cs = true) (hu : (u = .ptr s 0 ∧ v = .pointer (some ⟨w.heap.size, 0, none⟩)) ∨ ∃ sz len, u = .row s sz len ∧ v = .slice (some ⟨w.heap.size, 0, none⟩) len len ∧ cs.length = len * sz) :
    Rel E n pm m0 w0 (upd m w.heap.size (some 0)) (upd β s w.heap.size) ⟨upd st.t s u, upd st.b s (some cs)⟩ (a.put (some s) v) (w.alloc (.cells vals ty)) := by
  have he : Ext m w (upd m w.heap.size (some 0)) (w.alloc (.cells vals ty)) := by
    refine ⟨by simp, fun blk off v hb _ hc => ?_, fun blk hb fr hf => ?_⟩
    · rw [World.cell?_alloc_lt _ _ _ hb]; exact hc
    · simp only [upd] at hf; rw [if_neg (Nat.ne_of_lt hb)] at hf; exact ⟨fr, hf, Nat.le_refl _⟩
  have hold : ∀ k o, w.heap[k]? = some o → (w.alloc (.cells vals ty)).heap[k]? = some o := fun k o hk => by
    rw [Below.heap_alloc w _ k (heap_lt hk)]; exact hk
  have hlt : s < a.tmps.size := by rw [h.size]; exact hs
  have hus : ∀ nl sz es k, u ≠ .sl nl sz es k := by rcases hu with ⟨rfl, _⟩ | ⟨_, _, rfl, _⟩ <;> intros <;> simp
  refine ⟨fun i => ?_, by simp [Act.put, h.size], fun s' cs' hs' => ?_, fun s1 s2 c1 c2 h1 h2 heq => ?_, h.below.alloc h.below.size _, ⟨h.par.1, fun s' hs' => (upd_ne _ _ (by have := h.par.1; omega)).trans (h.par.2.1 s' hs'), h.par.2.2⟩, fun blk hb => ?_, ?_, fun i s' sz len cs' hi hb => ?_, h.defers, fun g => (h.glob g).mono he, h.j⟩
  rotate_right
  · simp only [Act.put, getD_set _ _ _ _ hlt, upd_at st.t, upd_at st.b] at hi hb ⊢
    split at hi
    · rename_i e
      rw [if_pos e]
      rcases hu with ⟨rfl, _⟩ | ⟨sz0, len0, rfl, rfl, hl⟩
      · cases hi
      · cases hi
        rw [if_pos rfl] at hb
        cases hb
        have hsz := hr.length
        refine ⟨by omega, len, vals, ty, by rw [upd_same], by rw [upd_same]; exact World.heap_new w _, ?_⟩
        rw [← hl, ← hsz]; simp
    · rename_i e
      rw [if_neg e]
      have hne : s' ≠ s := fun e' => hn i (by rw [hi, e']; rfl)
      rw [if_neg hne] at hb
      obtain ⟨hl, cap, cur, ty', hv, hh, hsz⟩ := h.own i s' sz len cs' hi hb
      exact ⟨hl, cap, cur, ty', by rw [upd_ne _ _ hne]; exact hv, by rw [upd_ne _ _ hne]; exact hold _ _ hh, hsz⟩
  · simp only [Act.put, getD_set _ _ _ _ hlt, upd_at st.t]
    split
    · rcases hu with ⟨rfl, rfl⟩ | ⟨sz0, len0, rfl, rfl, _⟩
      · have := Rs.ofPtr (m := upd m w.heap.size (some 0)) (w := w.alloc (.cells vals ty)) (β := upd β s w.heap.size) s 0
        rwa [upd_same] at this
      · have := Rs.ofRow (m := upd m w.heap.size (some 0)) (w := w.alloc (.cells vals ty)) (β := upd β s w.heap.size) s sz0 (Nat.le_refl len0)
        rwa [upd_same] at this
    · exact ((h.tmps i).mono he).beta (fun s' hs' => upd_ne _ _ (fun e => hn i (by rw [hs', e])))
  · simp only [upd_at st.b] at hs'
    split at hs'
    · rename_i e
      cases hs'
      subst e
      rw [upd_same]
      exact ⟨⟨upd_same _ _ _, vals, ty, vals.toList, [], World.heap_new w _, by simp, hr.mono he⟩, .inl h.below.size⟩
    · rename_i e
      rw [upd_ne _ _ e]
      obtain ⟨⟨hl, vals', ty', xs, rest, hh, hx, hr'⟩, hge⟩ := h.boxes s' cs' hs'
      exact ⟨⟨by rw [upd_ne _ _ (Nat.ne_of_lt (heap_lt hh))]; exact hl, vals', ty', xs, rest, hold _ _ hh, hx, hr'.mono he⟩, hge⟩
  · simp only [upd_at] at h1 h2 heq
    split at h1 <;> split at h2
    · rename_i e1 e2; rw [e1, e2]
    · rename_i e1 e2
      rw [if_pos e1, if_neg e2] at heq
      obtain ⟨⟨_, _, _, _, _, hh, _⟩, _⟩ := h.boxes s2 c2 h2
      have := heap_lt hh; omega
    · rename_i e1 e2
      rw [if_neg e1, if_pos e2] at heq
      obtain ⟨⟨_, _, _, _, _, hh, _⟩, _⟩ := h.boxes s1 c1 h1
      have := heap_lt hh; omega
    · rename_i e1 e2
      rw [if_neg e1, if_neg e2] at heq
      exact h.inj s1 s2 c1 c2 h1 h2 heq
  · rw [upd_ne _ _ (by have := h.below.size; omega)]
    exact h.mold blk hb
  · obtain ⟨ρ, hrw⟩ := h.rows
    have hlt' : ∀ v sz es s', Bear E w β st (fun i => a.tmps.getD i Go.undef) v (.sl false sz es (some s')) → ρ s' < w.heap.size := fun v sz es s' hi => by
      obtain ⟨_, _, _, _, _, _, hh, _⟩ := hrw.row v sz es s' hi
      exact heap_lt hh
    refine ⟨ρ, hrw.to (fun v' sz es s' hi => hi.from (fun i hi => ?_) (fun k c j h1 h2 h3 h4 => ?_)) (fun v' sz es s' hi => ?_) (fun v' sz es s' k c hi hk => ?_)⟩
    · simp only [upd_at] at hi
      simp only [Act.put, getD_set _ _ _ _ hlt]
      split at hi
      · exact absurd hi (hus _ _ _ _)
      · rename_i e
        rw [if_neg e]
        exact .inl ⟨i, hi, rfl⟩
    · have h2 : upd st.b s (some cs) k = some c := h2
      by_cases e : k = s
      · subst e
        rw [upd_same] at h2
        cases h2
        simp only [Env.okN, h1, Bool.not_true, Bool.false_or] at hmb
        have := List.all_eq_true.1 hmb _ (List.mem_of_getElem? h3)
        cases this
      · rw [upd_ne _ _ e] at h2 h4
        obtain ⟨⟨_, vals', ty', xs, rest, hh, _, _⟩, _⟩ := h.boxes k c h2
        rw [cell_block (Below.heap_alloc w _ _ (heap_lt hh))] at h4
        exact .inr ⟨k, c, j, h1, h2, h3, h4⟩
    · obtain ⟨_, _, _, _, _, _, hh, _⟩ := hrw.row v' sz es s' hi
      exact ⟨Below.heap_alloc w _ _ (heap_lt hh), upd_ne _ _ (Nat.ne_of_lt (heap_lt hh))⟩
    · have hk : upd st.b s (some cs) k = some c := hk
      by_cases e : k = s
      · subst e
        rw [upd_same]
        have := hlt' _ _ _ _ hi
        omega
      · rw [upd_ne _ _ e] at hk ⊢
        exact hrw.box _ _ _ _ _ _ hi hk

theorem Rel.new (h : Rel E n pm m0 w0 m β st a w) {s : Nat} (hs : s < n) (hn : noPtrTo s st.t) {vals : Array Value} {ty : TypeId} {cs : List V} (hr : RdL m w vals.toList cs) (hmb : E.okN (some s) cs = true) :
    Rel E n pm m0 w0 (upd m w.heap.size (some 0)) (upd β s w.heap.size) ⟨upd st.t s (.ptr s 0), upd st.b s (some cs)⟩ (a.put (some s) (.pointer (some ⟨w.heap.size, 0, none⟩))) (w.alloc (.cells vals ty)) :=
  h.newG hs hn hr hmb (.inl ⟨rfl, rfl⟩)

theorem ev_sound (h : Rel E n pm m0 w0 m β st a w) (x : Operand) : Rs m w β (a.eval x) (ev E st x) := by
  cases x with
  | tmp t => exact h.tmps t
  | const v => exact .of (ofVal_rd v)
  | global g => exact .of (h.glob g).bare
  | func f => exact .of (.x _)

/-- Cells that lie one behind the other, as a value of a type. -/
theorem load_cells {P : Program} {blk off : Nat} {vals : List Value} {cs : List V} (hc : ∀ (k : Nat) (v : Value), vals[k]? = some v → w.cell? ⟨blk, off + k, none⟩ = some v) (hr : RdL m w vals cs)
    {t : TypeId} {u : V} (h : partV P t cs 0 = some u) : ∃ v, (Instr.loadAt t (.pointer (some ⟨blk, off, none⟩))).run P w = .ok v w ∧ Rd m w v u := by
  have hlen := hr.length
  unfold partV at h
  cases ha : aggB P t with
  | none => simp [ha] at h
  | some b =>
    cases hs : szB P t with
    | none => cases b <;> simp [ha, hs] at h
    | some k =>
      cases b with
      | true =>
        simp only [ha, hs] at h
        split at h
        · rename_i hle
          cases h
          have := run_loadCells_list (P := P) w ⟨blk, off, none⟩ (vals.take k) (fun j v hj => by
            rw [Addr_add_eq]
            rw [List.getElem?_take] at hj
            split at hj
            · exact hc j v hj
            · simp at hj)
          have hk : (vals.take k).length = k := by simp; omega
          rw [hk] at this
          refine ⟨.agg (vals.take k).toArray, ?_, Rd.agg_iff.2 ⟨_, rfl, by simpa using hr.take k⟩⟩
          simp only [Instr.loadAt, Instr.sureAddr, loadVar, Sem.run_bind, Sem.run_pure, Result.andThen_ok, run_aggB ha, if_true, run_szB hs, this]
        · simp at h
      | false =>
        simp only [ha, hs] at h
        have hlt : 0 < vals.length := by
          rcases Nat.eq_zero_or_pos vals.length with h' | h'
          · rw [hlen] at h'; simp [List.getElem?_eq_none (Nat.le_of_eq h')] at h
          · exact h'
        have hv : vals[0]? = some vals[0] := List.getElem?_eq_getElem hlt
        refine ⟨vals[0], ?_, hr.get 0 _ u hv h⟩
        have := hc 0 _ hv
        simp only [Nat.add_zero] at this
        simp only [Instr.loadAt, Instr.sureAddr, loadVar, Sem.run_bind, Sem.run_pure, Result.andThen_ok, run_aggB ha, Bool.false_eq_true, if_false, run_load, this]

theorem partV_off {P : Program} {t : TypeId} {cs : List V} {off : Nat} : partV P t cs off = partV P t (cs.drop off) 0 ∨ partV P t cs off = none := by
  unfold partV
  cases aggB P t with
  | none => simp
  | some b => cases szB P t with
    | none => cases b <;> simp
    | some k =>
      cases b
      · left; simp
      · simp only
        by_cases h : off + k ≤ cs.length
        · left; rw [if_pos h, if_pos (by simp; omega)]; simp
        · right; rw [if_neg h]

theorem Box.cell {blk : Nat} {vals : Array Value} {ty : TypeId} {fr : Nat × Nat} (hh : w.heap[blk]? = some (.cells vals ty fr)) (k : Nat) : w.cell? ⟨blk, k, none⟩ = vals[k]? := by
  simp [World.cell?, hh]

theorem _root_.Go.Proofs.YtfmdcgakkijkdaaGreatDoor.RdL.bareL {m : Lim} {w : World} : ∀ {vs : List Value} {us : List V}, RdL m w vs us → RdL m w vs (us.map V.bare)
  | [], [], _ => trivial
  | _ :: _, _ :: _, h => ⟨h.1.bare, RdL.bareL h.2⟩
theorem _root_.Go.Proofs.YtfmdcgakkijkdaaGreatDoor.RdL.pcL {m : Lim} {w : World} : ∀ {vs : List Value} {us : List V}, RdL m w vs us → RdL m w vs (us.map V.pc)
  | [], [], _ => trivial
  | _ :: _, _ :: _, h => ⟨h.1.pc, RdL.pcL h.2⟩
theorem loadV_sound (h : Rel E n pm m0 w0 m β st a w) {t : TypeId} {p : Value} {q u : V} (hp : Rs m w β p q) (hl : loadV E st.b t q = some u) :
    ∃ v, (Instr.loadAt t p).run E.P w = .ok v w ∧ Rd m w v u := by
  unfold loadV at hl
  split at hl
  · rename_i s off
    split at hl
    · rename_i cs0 hcs
      obtain rfl := hp.ptr
      · obtain ⟨⟨_, vals, ty, xs, rest, hh, hvs, hr0⟩, _⟩ := h.boxes _ _ hcs
        obtain ⟨cs, hl, hr⟩ : ∃ cs, partV E.P t cs off = some u ∧ RdL m w xs cs := by
          split at hl
          · exact ⟨_, hl, hr0.pcL⟩
          · exact ⟨_, hl, hr0⟩
        rcases partV_off (P := E.P) (t := t) (cs := cs) (off := off) with he | he
        · rw [he] at hl
          refine load_cells (vals := xs.drop off) (fun k v hk => ?_) (hr.drop off) hl
          rw [Box.cell hh, ← Array.getElem?_toList, hvs]
          rw [List.getElem?_drop] at hk
          have hlt : off + k < xs.length := by
            rcases Nat.lt_or_ge (off + k) xs.length with h' | h'
            · exact h'
            · simp [List.getElem?_eq_none h'] at hk
          rw [List.getElem?_append_left hlt]
          exact hk
        · rw [he] at hl; simp at hl
    · simp at hl
  · rename_i cs
    have hp := hp.rd (by intros; simp)
    cases hp with
    | ip blk off _ c hb hc hm hr =>
      refine load_cells (vals := (List.range cs.length).map c) (fun k v hk => ?_) (RdL.of_get (by simp) (fun k v d hk hd => ?_)) hl
      · simp only [List.getElem?_map, Option.map_eq_some_iff] at hk
        obtain ⟨i, hi, rfl⟩ := hk
        have hlt : k < cs.length := by
          rcases Nat.lt_or_ge k cs.length with h' | h'
          · exact h'
          · simp [h'] at hi
        rw [List.getElem?_range hlt] at hi
        cases hi
        exact hc k hlt
      · simp only [List.getElem?_map, Option.map_eq_some_iff] at hk
        obtain ⟨i, hi, rfl⟩ := hk
        have hlt : k < cs.length := by
          rcases Nat.lt_or_ge k cs.length with h' | h'
          · exact h'
          · simp [h'] at hi
        rw [List.getElem?_range hlt] at hi
        cases hi
        exact hr k d hd
  · simp at hl
end
end Go.Proofs.YtfmdcgakkijkdaaGreatDoor
