/- The operations that touch memory, and calls: the run over plain data, and what it says of the program's. No program is named here. -/
import Derived.Test.YtkacldoiimlmcaaPfE
import Derived.Laws.CopyRow
import Derived.Laws.CopyOwn
namespace Go.Proofs.Ytkacldoiimlmcaa
open Go Go.RowKit

/-- May be the value of one cell. -/
def V.cell : V → Bool
  | .undef => false
  | .ptr .. => false
  | .row .. => false
  | .bx _ => false
  | .mp .. => false
  | .x (.agg _) => false
  | .x (.tuple _) => false
  | .agg _ => false
  | .tup _ => false
  | _ => true

/-- No slot names the variable s. -/
def noPtrTo (s : Nat) (t : Nat → V) : Prop := ∀ i, (t i).nm ≠ some s

noncomputable def loadV (E : Env) (b : Nat → Option (List V)) (t : TypeId) (p : V) : Option V :=
  match p with
  | .ptr s off => match b s with
    | some cs => match E.MB s, aggB E.P t with
      | true, some true => partV E.P t (cs.map V.pc) off
      | _, _ => partV E.P t cs off
    | none => none
  | .ip cs => partV E.P t cs 0
  | _ => none

noncomputable def storeV (E : Env) (st : St) (t : TypeId) (p u : V) : Option St :=
  match p with
  | .ptr s off => match st.b s with
    | some cs =>
      if u.bare.dat = true ∧ u.bare.cells.all V.cell = true ∧ szB E.P t = some u.bare.cells.length ∧ E.okS s u = true ∧ off + u.bare.cells.length ≤ cs.length then
        some ⟨st.t, upd st.b s (some (cs.take off ++ (E.kept s u).cells ++ cs.drop (off + u.bare.cells.length)))⟩
      else none
    | none => none
  | _ => none

/-- A new variable of the call's own. -/
noncomputable def newV (st : St) (d : Option Tmp) (cs : List V) : Option St :=
  match d with
  | some s => open Classical in if noPtrTo s st.t then some ⟨upd st.t s (.ptr s 0), upd st.b s (some cs)⟩ else none
  | none => none

/-- A row that the text writes out. -/
def rowV (P : Program) (t : TypeId) (len : Nat) (parts : List (Nat × V)) : Option V :=
  match P.underlying t with
  | some (.slice el) => match szB P el, zeroB P el with
    | some n, some _ => if parts.map (·.1) = List.range len ∧ len * n ≤ 16777216 ∧ (parts.all fun p => p.2.dat && decide (p.2.cells.length = n)) = true then some (.sl false n (parts.map (·.2)) none) else none
    | _, _ => none
  | _ => none

/-- Is what the slot gets to be the call's own, to be written? -/
def Env.own (E : Env) : Option Tmp → Bool
  | some d => E.M d
  | none => false
/-- A row that the text writes out, and that the call will write. -/
noncomputable def newR (P : Program) (st : St) (d : Option Tmp) (t : TypeId) (len : Nat) (parts : List (Nat × V)) : Option St :=
  match d, P.underlying t with
  | some s, some (.slice el) => match szB P el, zeroB P el with
    | some n, some _ => open Classical in if noPtrTo s st.t ∧ parts.map (·.1) = List.range len ∧ len * n ≤ 16777216 ∧ (parts.all fun p => p.2.dat && decide (p.2.cells.length = n)) = true then
        some ⟨upd st.t s (.row s n len), upd st.b s (some (parts.flatMap fun p => p.2.cells))⟩ else none
    | _, _ => none
  | _, _ => none

def Env.litD (E : Env) : Option Tmp → Bool
  | some d => E.lit d
  | none => false
/-- A text's bytes, as a row's elements. -/
def bytesV (s : ByteArray) : List V := s.data.toList.map fun b => .x (.int .u8 b.toNat)
/-- A row of the call's own grows; whoever else named it names it no more. -/
noncomputable def growV (E : Env) (st : St) (d : Option Tmp) (el : TypeId) (a b : V) : Option St :=
  match d, szB E.P el, byB E.P el, zeroB E.P el with
  | some d, some n, some by', some z =>
    match a, b with
    | .sl true _ [] tk, .sl _ sz' es' _ =>
      if n ≠ 0 ∧ z.length = n ∧ (sz' = n ∨ es' = []) ∧ (es'.all fun u => u.cells.all V.cell) = true ∧ es'.length * by' ≤ 140737488355328 ∧ es'.length ≤ 9223372036854775807 then
        some ⟨upd (stripO tk (strip d st.t)) d (.sl es'.isEmpty n es' (some d)), stripBO E tk (stripB E d st.b)⟩
      else none
    | .sl false sz es (some k), .sl _ sz' es' _ =>
      if n ≠ 0 ∧ z.length = n ∧ sz = n ∧ (sz' = n ∨ es' = []) ∧ (es'.all fun u => u.cells.all V.cell) = true ∧ (es.length + es'.length) * by' ≤ 140737488355328 ∧ es.length + es'.length ≤ 9223372036854775807 then
        some ⟨upd (strip k (strip d st.t)) d (.sl false n (es ++ es') (some d)), stripB E k (stripB E d st.b)⟩
      else none
    | .row s sz len, .sl _ sz' es' _ => match st.b s with
      | some cs =>
        if n ≠ 0 ∧ z.length = n ∧ sz = n ∧ (sz' = n ∨ es' = []) ∧ (es'.all fun u => u.cells.all V.cell) = true ∧ (len + es'.length) * by' ≤ 140737488355328 ∧ len + es'.length ≤ 9223372036854775807 ∧ E.MB d = false then
          some ⟨upd (kill s (kill d st.t)) d (.row d n (len + es'.length)), upd (upd st.b s none) d (some (cs.take (len * n) ++ es'.flatMap V.cells))⟩
        else none
      | none => none
    | _, _ => none
  | _, _, _, _ => none

/-- A row of the call's own, with room. -/
noncomputable def makeV (E : Env) (st : St) (d : Option Tmp) (el : TypeId) (l c : V) : Option St :=
  match d, szB E.P el, byB E.P el, zeroB E.P el with
  | some d, some n, some by', some z =>
    match l, c with
    | .x (.int _ l), .x (.int _ c) =>
      if z.length = n ∧ l = 0 ∧ 0 ≤ c ∧ (by' : Int) * c ≤ 281474976710656 ∧ c ≤ 9223372036854775807 then some ⟨upd (strip d st.t) d (.sl false n [] (some d)), stripB E d st.b⟩ else none
    | _, _ => none
  | _, _, _, _ => none

/-- A row of so many nothings, which the call will write. -/
noncomputable def makeR (E : Env) (st : St) (d : Option Tmp) (el : TypeId) (l c : V) : Option St :=
  match d, szB E.P el, byB E.P el, zeroB E.P el with
  | some d, some n, some by', some z =>
    match l, c with
    | .x (.int _ l), .x (.int _ c) =>
      open Classical in if noPtrTo d st.t ∧ z.length = n ∧ l = c ∧ 0 ≤ c ∧ (by' : Int) * c ≤ 281474976710656 ∧ c ≤ 9223372036854775807 ∧ E.okN (some d) (List.replicate c.toNat z).flatten = true then
        some ⟨upd st.t d (.row d n c.toNat), upd st.b d (some (List.replicate c.toNat z).flatten)⟩ else none
    | _, _ => none
  | _, _, _, _ => none
/-- Cells, so many a time. -/
def chunkF (sz : Nat) : Nat → List V → List V
  | 0, _ => []
  | k + 1, cs => (if sz = 1 then (cs[0]?).getD (.agg (cs.take sz)) else .agg (cs.take sz)) :: chunkF sz k (cs.drop sz)
theorem chunk_ex : ∃ f : Nat → Nat → List V → List V, ∀ sz k cs, f sz k cs = chunkF sz k cs := ⟨chunkF, fun _ _ _ => rfl⟩
noncomputable def chunkV : Nat → Nat → List V → List V := Classical.choose chunk_ex
theorem chunkV_eq (sz k : Nat) (cs : List V) : chunkV sz k cs = chunkF sz k cs := Classical.choose_spec chunk_ex sz k cs
def Env.fzO (E : Env) : Option Tmp → Bool
  | some d => E.fz d
  | none => false
/-- From here on nobody writes it. -/
noncomputable def freezeV (E : Env) (st : St) (d : Option Tmp) (u : V) : Option St :=
  match d, u with
  | some d, .row s sz len => match st.b s with
    | some cs => if sz ≠ 0 ∧ E.MB s = false ∧ cs.all V.dat = true ∧ cs.all V.cell = true then some ⟨upd (kill s st.t) d (.sl false sz (chunkV sz len cs) none), upd st.b s none⟩ else none
    | none => none
  | some d, .mp s ks vs => some ⟨upd (kill s st.t) d (.fm ks vs), upd st.b s none⟩
  | some d, .ptr s 0 => match st.b s with
    | some cs => if E.MB s = false ∧ cs.all V.dat = true then some ⟨upd (kill s st.t) d (.ip cs), upd st.b s none⟩ else none
    | none => none
  | _, _ => none

/-- A text's bytes as a row of the call's own that may be written, and such a row's bytes as a text. -/
noncomputable def convV (E : Env) (st : St) (d : Option Tmp) (t1 t2 : TypeId) (u : V) : Option St :=
  match d, u with
  | some s, .x (.string b) => match E.P.underlying t1, E.P.underlying t2 with
    | some .string, some (.slice el) => match E.P.underlying el with
      | some (.int .u8) => open Classical in if noPtrTo s st.t ∧ E.okN (some s) (bytesV b) = true then some ⟨upd st.t s (.row s 1 b.size), upd st.b s (some (bytesV b))⟩ else none
      | _ => none
    | _, _ => none
  | some s, .row s' 1 len => match E.P.underlying t1, E.P.underlying t2, st.b s' with
    | some (.slice el), some .string, some cs => match E.P.underlying el, bytesOf (cs.take len) with
      | some (.int .u8), some l => some (st.put (some s) (.str ⟨l.toArray⟩))
      | _, _ => none
    | _, _, _ => none
  | _, _ => none

/-- Which function a value of a function's type is. -/
def fnOf : V → Option FuncId
  | .x (.func (.func f) ⟨[]⟩ ⟨[]⟩) => some f
  | _ => none
theorem fnOf_func (f : FuncId) : fnOf (.x (.func (.func f) #[] #[])) = some f := rfl
theorem fnOf_is {u : V} {f : FuncId} (h : fnOf u = some f) : u = .x (.func (.func f) #[] #[]) := by
  unfold fnOf at h
  split at h
  · cases h; rfl
  · cases h
/-- What an operation yields that writes no memory of the call's own. -/
noncomputable def valV (E : Env) (op : Op) (e : Operand → V) (b : Nat → Option (List V)) : Option V :=
  match op with
  | .load t p => np (loadV E b t (e p))
  | .call { callee := .value c, args, .. } => match fnOf (e c) with
    | some f => match E.F f with
      | some F => if (args.toList.map fun x => (e x).bare).all V.dat = true then
          np (F (args.toList.map fun x => (e x).bare))
        else none
      | none => none
    | none => none
  | .buildSlice t len parts => rowV E.P t len (parts.toList.map fun p => (p.1, (e p.2).bare))
  | op => pureV E op e

/-- An operand as an argument: the address of a variable of the call's own goes with what it holds. -/
def argS : Bool → Nat → List V → Option Nat → V
  | true, _, _, _ => .sl true 0 [] (some 0)
  | false, sz, es, none => .sl false sz es none
  | false, sz, es, some _ => .sl false sz es (some 0)
noncomputable def argP (b : Nat → Option (List V)) : V → V
  | .ptr s 0 => match b s with
    | some cs => .bx cs
    | none => .undef
  | .sl nl sz es tok => argS nl sz es tok
  | .mp _ ks vs => .mp 0 ks vs
  | u => u.bare
/-- The maps that are handed on. -/
def mapsP : List V → List Nat
  | [] => []
  | .mp s _ _ :: l => s :: mapsP l
  | _ :: l => mapsP l
def slotsP : List V → List Nat
  | [] => []
  | .ptr s 0 :: l => s :: slotsP l
  | _ :: l => slotsP l
/-- The marks of the rows that are handed on. -/
def marksP : List V → List Nat
  | [] => []
  | .sl _ _ _ (some k) :: l => k :: marksP l
  | _ :: l => marksP l
def V.datP : V → Bool
  | .bx _ => true
  | .sl _ _ _ (some _) => true
  | .mp .. => true
  | u => u.dat
/-- What the variables hold then; and what is left is told of maps. -/
def putP : (Nat → Option (List V)) → List Nat → List (List V) → Option ((Nat → Option (List V)) × List (List V))
  | b, [], cs => some (b, cs)
  | b, s :: ss, c :: cs => putP (upd b s (some c)) ss cs
  | _, _, _ => none
noncomputable def putMs : (Nat → V) → List Nat → List (List V) → Option (Nat → V)
  | t, [], [] => some t
  | t, s :: ss, [.mp _ ks vs] :: cs => putMs (mapw s ks vs t) ss cs
  | _, _, _ => none
def killR0 (ss : List Nat) : V → V
  | .row s z l => if ss.contains s = true then .undef else .row s z l
  | v => v
theorem killR_ex : ∃ f : List Nat → V → V, ∀ s u, f s u = killR0 s u := ⟨killR0, fun _ _ => rfl⟩
noncomputable def killRV : List Nat → V → V := Classical.choose killR_ex
theorem killRV_eq (s : List Nat) (u : V) : killRV s u = killR0 s u := Classical.choose_spec killR_ex s u
noncomputable def killRs (ss : List Nat) (t : Nat → V) : Nat → V := fun i => killRV ss (t i)
theorem killRV_is (ss : List Nat) (u : V) : killRV ss u = u ∧ (∀ s z l, u = .row s z l → s ∉ ss) ∨ killRV ss u = .undef := by
  rw [killRV_eq]
  cases u <;> try exact .inl ⟨rfl, fun _ _ _ h => by cases h⟩
  rename_i s z l
  simp only [killR0]
  by_cases h : ss.contains s = true
  · rw [if_pos h]; exact .inr rfl
  · rw [if_neg h]
    refine .inl ⟨rfl, fun s' z' l' e => ?_⟩
    cases e
    intro hm
    exact h (List.contains_iff_mem.2 hm)
/-- Marks are taken off. -/
noncomputable def stripL : List Nat → (Nat → V) → (Nat → V)
  | [], t => t
  | k :: ks, t => strip k (stripL ks t)
noncomputable def stripBL (E : Env) : List Nat → (Nat → Option (List V)) → (Nat → Option (List V))
  | [], b => b
  | k :: ks, b => stripB E k (stripBL E ks b)
/-- What a call answers is put away: a row that is handed back is the call's own. -/
noncomputable def resP (E : Env) (st : St) (d : Option Tmp) (r : V) : St :=
  match d, r with
  | some d, .sl nl sz es (some _) => ⟨upd (strip d st.t) d (.sl nl sz es (some d)), stripB E d st.b⟩
  | d, r => st.put d r.bare
/-- Behind a call: a variable that may bear marks bears none where it was handed on. -/
def okM1 : Bool → Option (List V) → Bool
  | true, some c => c.all V.unm
  | _, _ => true
def okMB (E : Env) (b : Nat → Option (List V)) : List Nat → Bool
  | [] => true
  | s :: ss => match okM1 (E.MB s) (b s) with
    | true => okMB E b ss
    | false => false
theorem okMB_is {E : Env} {b : Nat → Option (List V)} : ∀ {ss : List Nat}, okMB E b ss = true → ∀ s ∈ ss, E.MB s = true → ∀ c, b s = some c → c.all V.unm = true
  | s :: ss, h, k, hk, hm, c, hc => by
    unfold okMB at h
    split at h
    · rename_i h1
      rcases List.mem_cons.1 hk with rfl | hk
      · rw [hm, hc] at h1
        exact h1
      · exact okMB_is h k hk hm c hc
    · cases h
/-- A call that is handed addresses, or rows of the call's own. -/
noncomputable def callP (E : Env) (st : St) (d : Option Tmp) (F : List V → Option (V × List (List V))) (vs : List V) : Option St :=
  if (vs.map (argP st.b)).all V.datP = true ∧ (slotsP vs).Nodup ∧ (marksP vs).Nodup ∧ (mapsP vs).Nodup then
    match F (vs.map (argP st.b)) with
    | some (r, outs) => match r.notPtr, putP (stripBL E (marksP vs) st.b) (slotsP vs) outs with
      | true, some (b', rest) => match okMB E b' (slotsP vs), putMs (killRs (slotsP vs) (stripL (marksP vs) st.t)) (mapsP vs) rest with
        | true, some t' => some (resP E ⟨t', b'⟩ d r)
        | _, _ => none
      | _, _ => none
    | none => none
  else none

/-- What a function value that is called does, where it leans on the variable that nobody names. -/
def effV (E : Env) : V → Option (List V → Option (V × List (List V)))
  | .x (.func (.func f) ⟨[]⟩ ⟨lb⟩) => E.X f lb
  | _ => none
theorem effV_func (E : Env) (f : FuncId) (lb : List Value) : effV E (.x (.func (.func f) ⟨[]⟩ ⟨lb⟩)) = E.X f lb := rfl
/-- A row that the text writes out, and that may grow. -/
noncomputable def litR (E : Env) (st : St) (d : Option Tmp) (t : TypeId) (len : Nat) (parts : List (Nat × V)) : Option St :=
  match d, E.P.underlying t with
  | some s, some (.slice el) => match szB E.P el, zeroB E.P el with
    | some n, some _ => if parts.map (·.1) = List.range len ∧ len * n ≤ 16777216 ∧ (parts.all fun p => p.2.dat && decide (p.2.cells.length = n)) = true then
        some (resP E st (some s) (.sl false n (parts.map (·.2)) (some 0))) else none
    | _, _ => none
  | _, _ => none
/-- A call that makes a map: from here on it is the call's own. -/
noncomputable def callM (st : St) (d : Option Tmp) (F : List V → Option (List V × List V)) (vs : List V) : Option St :=
  match d, vs.all V.dat with
  | some d, true => match F vs with
    | some (ks, us) => open Classical in if noPtrTo d st.t then some ⟨upd st.t d (.mp d ks us), upd st.b d none⟩ else none
    | none => none
  | _, _ => none
/-- How great a map is to be at first: of no matter. -/
def hintV : Option V → Bool
  | none => true
  | some (.x (.int _ _)) => true
  | _ => false
/-- What an operation makes of what the run holds. -/
noncomputable def execN (E : Env) (o : Oper) (st : St) : Option St :=
  match o.op with
  | .alloc t => match zeroB E.P t with
    | some z => if E.okN o.dst z = true then newV st o.dst z else none
    | none => none
  | .box _ x => if (ev E st x).bare.dat = true ∧ E.okN o.dst (ev E st x).bare.cells = true then newV st o.dst (ev E st x).bare.cells else none
  | .store t p x => if o.dst.isNone = true then storeV E st t (ev E st p) (ev E st x) else none
  | .load t p => match np (loadV E st.b t (ev E st p)) with
    | some u => some (st.put o.dst (E.keepL (ev E st p) u))
    | none => none
  | .call { callee := .builtin .append, args, argTypes } => match args.toList, argTypes.toList with
    | [x, y], [t, t'] => match decide (t = t'), E.P.underlying t with
      | true, some (.slice el) => growV E st o.dst el (ev E st x) (ev E st y)
      | false, some (.slice el) => match E.P.underlying t', ev E st y with
        | some .string, .x (.string s) => growV E st o.dst el (ev E st x) (.sl false 1 (bytesV s) none)
        | _, _ => none
      | _, _ => none
    | _, _ => none
  | .makeMap t r => match E.P.underlying t, o.dst, hintV (r.map (ev E st)) with
    | some (.map _ _), some d, true => open Classical in if noPtrTo d st.t then some ⟨upd st.t d (.mp d [] []), upd st.b d none⟩ else none
    | _, _, _ => none
  | .mapUpdate t x k v => match o.dst, ev E st x with
    | none, .mp s ks vs => match putM E.P t ks vs (ev E st k).bare (ev E st v).bare with
      | some (ks', vs') => some ⟨mapw s ks' vs' st.t, st.b⟩
      | none => none
    | _, _ => none
  | .lookup t x k ok => match lookV E.P t (ev E st x) (ev E st k).bare ok with
    | some u => some (st.put o.dst u.bare)
    | none => none
  | .makeSlice t l c => match E.P.underlying t with
    | some (.slice el) => match E.own o.dst with
      | true => makeR E st o.dst el (ev E st l) (ev E st c)
      | false => makeV E st o.dst el (ev E st l) (ev E st c)
    | _ => none
  | .buildSlice t len parts => match E.own o.dst with
    | true => match E.litD o.dst with
      | true => litR E st o.dst t len (parts.toList.map fun p => (p.1, (ev E st p.2).bare))
      | false => if E.okN o.dst ((parts.toList.map fun p => (p.1, (ev E st p.2).bare)).flatMap fun p => p.2.cells) = true then newR E.P st o.dst t len (parts.toList.map fun p => (p.1, (ev E st p.2).bare)) else none
    | false => match valV E (.buildSlice t len parts) (ev E st) st.b with
      | some u => some (st.put o.dst (keepV (.buildSlice t len parts) u))
      | none => none
  | .convert t1 t2 x => match E.own o.dst with
    | true => convV E st o.dst t1 t2 (ev E st x)
    | false => match valV E (.convert t1 t2 x) (ev E st) st.b with
      | some u => some (st.put o.dst (keepV (.convert t1 t2 x) u))
      | none => none
  | .call { callee := .value c, args, argTypes } => match effV E (ev E st c) with
    | some F => callP E st o.dst F (args.toList.map (ev E st) ++ [.ptr E.xk 0])
    | none => match fnOf (ev E st c) with
      | some f => match E.FM f with
        | some F => callM st o.dst F (args.toList.map fun x => (ev E st x).bare)
        | none => match E.FP f with
          | some F => callP E st o.dst F (args.toList.map (ev E st))
          | none => match valV E (.call { callee := .value c, args, argTypes }) (ev E st) st.b with
            | some u => some (st.put o.dst (keepV (.call { callee := .value c, args, argTypes }) u))
            | none => none
      | none => none
  | op => match valV E op (ev E st) st.b with
    | some u => some (st.put o.dst (keepV op u))
    | none => none

/-- What is moved. -/
def mvOf : Op → Option Operand
  | .move x => some x
  | .assign x => some x
  | _ => none
noncomputable def execV (E : Env) (o : Oper) (st : St) : Option St :=
  match E.fzO o.dst with
  | true => match mvOf o.op with
    | some x => freezeV E st o.dst (ev E st x)
    | none => none
  | false => execN E o st

/-- What was there stays, but for the blocks X. -/
structure Bel (X : List Nat) (w0 w : World) : Prop where
  os : w.os = w0.os
  tape : w.tape = w0.tape
  output : w.output = w0.output
  size : w0.heap.size ≤ w.heap.size
  block : ∀ k, k < w0.heap.size → k ∉ X → w.heap[k]? = w0.heap[k]?
theorem Bel.refl (X : List Nat) (w : World) : Bel X w w := ⟨rfl, rfl, rfl, Nat.le_refl _, fun _ _ _ => rfl⟩
theorem Bel.trans {X : List Nat} {B : Nat} {a b c : World} (h : Bel X a b) (k : Below B b c) (hB : a.heap.size ≤ B) : Bel X a c :=
  ⟨k.os.trans h.os, k.tape.trans h.tape, k.output.trans h.output, Nat.le_trans h.size k.size, fun i hi hx => (k.block i (Nat.lt_of_lt_of_le hi hB)).trans (h.block i hi hx)⟩
theorem Bel.drew {X : List Nat} {a w : World} (h : Bel X a w) : Bel X a w.drew := ⟨h.os, h.tape, h.output, h.size, h.block⟩
theorem Bel.alloc {X : List Nat} {a w : World} (h : Bel X a w) (hB : a.heap.size ≤ w.heap.size) (o : Obj) : Bel X a (w.alloc o) :=
  ⟨h.os, h.tape, h.output, by simp; omega, fun k hk hx => (Below.heap_alloc _ _ _ (by omega)).trans (h.block k hk hx)⟩
theorem Bel.setRow {X : List Nat} {g : Nat} {a w : World} (h : Bel X a w) (hg : a.heap.size ≤ g ∨ g ∈ X) (cs : Array Value) : Bel X a (w.setRow g cs) :=
  ⟨h.os, h.tape, h.output, by have := h.size; simp only [World.setRow]; simpa using this, fun k hk hx => (setRow_other w g k cs (by rintro rfl; rcases hg with hg | hg; exact absurd hk (Nat.not_lt.2 hg); exact hx hg)).trans (h.block k hk hx)⟩
theorem Bel.below {w0 w : World} (h : Bel [] w0 w) : Below w0.heap.size w0 w := ⟨h.os, h.tape, h.output, h.size, fun k hk => h.block k hk (by simp)⟩
theorem Bel.step {X Y : List Nat} {a w w' : World} (h : Bel X a w) (k : Bel Y w w') (hY : ∀ y ∈ Y, a.heap.size ≤ y ∨ y ∈ X) : Bel X a w' :=
  ⟨k.os.trans h.os, k.tape.trans h.tape, k.output.trans h.output, Nat.le_trans h.size k.size, fun i hi hx => (k.block i (Nat.lt_of_lt_of_le hi h.size) (fun hy => by rcases hY i hy with h1 | h1; exact absurd hi (Nat.not_lt.2 h1); exact hx h1)).trans (h.block i hi hx)⟩
/-- The variables that the call was handed: their blocks, and (from 1000 on) by which name they go; Y: the blocks of the rows that it was handed. -/
structure Pm where
  X : List Nat
  b : Nat → Nat
  Y : List Nat
  /-- What is marked for the call's end. -/
  D : List Deferred

/-- What a block's cells are of, and where it is marked: nowhere within. -/
structure TyAt (n : Nat) where
  ty : TypeId
  fz : Nat × Nat
  ok : fz.2 = 0 ∨ n ≤ fz.1
def TyAt.plain {n : Nat} (ty : TypeId) : TyAt n := ⟨ty, (0, 0), .inl rfl⟩
def TyAt.to {n n' : Nat} (t : TyAt n) (h : n' = n) : TyAt n' := ⟨t.ty, t.fz, by rw [h]; exact t.ok⟩
structure BoxAt (m : Lim) (w : World) (blk : Nat) (cs : List V) : Prop where
  lim : m blk = some 0
  is : ∃ (vals : Array Value) (ty : TyAt vals.size) (xs rest : List Value), w.heap[blk]? = some (.cells vals ty.ty ty.fz) ∧ vals.toList = xs ++ rest ∧ RdL m w xs cs

/-- A row of the call's own: nobody reads behind its end. -/
structure RowAt (m : Lim) (pm : Pm) (w0 w : World) (v : Value) (g sz len : Nat) : Prop where
  lo : w0.heap.size ≤ g ∨ g ∈ pm.Y
  lim : m g = some (len * sz)
  is : ∃ cap cur ty, v = .slice (some ⟨g, 0, none⟩) len cap ∧ w.heap[g]? = some (.cells cur ty (0, 0)) ∧ len ≤ cap ∧ cur.size = cap * sz

/-- Who bears a value: a slot, or a cell that may bear marks. -/
def Bear (E : Env) (w : World) (β : Nat → Nat) (st : St) (tm : Nat → Value) (v : Value) (u : V) : Prop :=
  (∃ i, st.t i = u ∧ tm i = v) ∨ ∃ k cs j, E.MB k = true ∧ st.b k = some cs ∧ cs[j]? = some u ∧ w.cell? ⟨β k, j, none⟩ = some v
structure Rows (E : Env) (m : Lim) (pm : Pm) (w0 w : World) (β : Nat → Nat) (st : St) (tm : Nat → Value) (ρ : Nat → Nat) : Prop where
  row : ∀ v sz es s, Bear E w β st tm v (.sl false sz es (some s)) → RowAt m pm w0 w v (ρ s) sz es.length
  sep : ∀ v sz es s v' sz' es' s', Bear E w β st tm v (.sl false sz es (some s)) → Bear E w β st tm v' (.sl false sz' es' (some s')) → ρ s = ρ s' → s = s'
  box : ∀ v sz es s k cs, Bear E w β st tm v (.sl false sz es (some s)) → st.b k = some cs → β k ≠ ρ s

/-- What a slot names is where it is said to be. -/
structure OwnAt (w : World) (β : Nat → Nat) (v : Value) (s sz len : Nat) (cs : List V) : Prop where
  fit : len * sz ≤ cs.length
  is : ∃ (cap : Nat) (cur : Array Value) (ty : TyAt cur.size), v = .slice (some ⟨β s, 0, none⟩) len cap ∧ w.heap[β s]? = some (.cells cur ty.ty ty.fz) ∧ cur.size = cap * sz
/-- Each row of the call's own that may be written lies in its variable. -/
def Own (w : World) (β : Nat → Nat) (st : St) (tm : Nat → Value) : Prop :=
  ∀ i s sz len cs, st.t i = .row s sz len → st.b s = some cs → OwnAt w β (tm i) s sz len cs
theorem Own.sub {w w' : World} {β β' : Nat → Nat} {st st' : St} {tm tm' : Nat → Value} (h : Own w β st tm)
    (ht : ∀ i s sz len cs', st'.t i = .row s sz len → st'.b s = some cs' → ∃ j cs, st.t j = .row s sz len ∧ tm j = tm' i ∧ st.b s = some cs ∧ cs.length ≤ cs'.length ∧ β' s = β s ∧
      ∀ (cur : Array Value) (ty : TyAt cur.size), w.heap[β s]? = some (.cells cur ty.ty ty.fz) → ∃ (cur' : Array Value) (ty' : TyAt cur'.size), w'.heap[β s]? = some (.cells cur' ty'.ty ty'.fz) ∧ cur'.size = cur.size) : Own w' β' st' tm' := by
  intro i s sz len cs' hi hb
  obtain ⟨j, cs, h1, h2, h3, h4, h5, h6⟩ := ht i s sz len cs' hi hb
  obtain ⟨hl, cap, cur, ty, hv, hh, hs⟩ := h j s sz len cs h1 h3
  obtain ⟨cur', ty', h7, h8⟩ := h6 cur ty hh
  exact ⟨Nat.le_trans hl h4, cap, cur', ty', by rw [← h2, hv, h5], by rw [h5]; exact h7, by rw [h8]; exact hs⟩

/-- Each map of the call's own holds what is said of it. -/
structure Maps (pm : Pm) (m : Lim) (w0 w : World) (β : Nat → Nat) (t : Nat → V) : Prop where
  holds : ∀ i s ks vs, t i = .mp s ks vs → MapAt m w (β s) ks vs ∧ (w0.heap.size ≤ β s ∨ β s ∈ pm.X)
  inj : ∀ i j s s' ks vs ks' vs', t i = .mp s ks vs → t j = .mp s' ks' vs' → β s = β s' → s = s'
theorem Maps.to {pm : Pm} {m m' : Lim} {w0 w w' : World} {β β' : Nat → Nat} {t t' : Nat → V} (h : Maps pm m w0 w β t) (ht : ∀ i s ks vs, t' i = .mp s ks vs → (∃ j, t j = .mp s ks vs) ∧ β' s = β s) (he : Ext m w m' w')
    (hw : ∀ g e c, w.heap[g]? = some (.map e c) → (w0.heap.size ≤ g ∨ g ∈ pm.X) → w'.heap[g]? = some (.map e c) ∧ m' g = m g) : Maps pm m' w0 w' β' t' := by
  refine ⟨fun i s ks vs hi => ?_, fun i j s s' ks vs ks' vs' hi hj e => ?_⟩
  · obtain ⟨⟨j, hj⟩, hb⟩ := ht i s ks vs hi
    obtain ⟨⟨ents, clock, hh, hrd, h1, h2, hlim⟩, h3⟩ := h.holds j s ks vs hj
    rw [hb]
    exact ⟨⟨ents, clock, (hw _ _ _ hh h3).1, hrd.mono he, h1, h2, by rw [(hw _ _ _ hh h3).2]; exact hlim⟩, h3⟩
  · obtain ⟨⟨i', hi'⟩, hb⟩ := ht i s ks vs hi
    obtain ⟨⟨j', hj'⟩, hb'⟩ := ht j s' ks' vs' hj
    rw [hb, hb'] at e
    exact h.inj _ _ _ _ _ _ _ _ hi' hj' e
theorem Maps.on {pm : Pm} {m m' : Lim} {w0 w w' : World} {β β' : Nat → Nat} {t t' : Nat → V} (h : Maps pm m w0 w β t) (ht : ∀ i s ks vs, t' i = .mp s ks vs → (∃ j, t j = .mp s ks vs) ∧ β' s = β s) (he : Ext m w m' w')
    (hw : ∀ i s ks vs, t i = .mp s ks vs → ∀ e c, w.heap[β s]? = some (.map e c) → w'.heap[β s]? = some (.map e c) ∧ m' (β s) = m (β s)) : Maps pm m' w0 w' β' t' := by
  refine ⟨fun i s ks vs hi => ?_, fun i j s s' ks vs ks' vs' hi hj e => ?_⟩
  · obtain ⟨⟨j, hj⟩, hb⟩ := ht i s ks vs hi
    obtain ⟨⟨ents, clock, hh, hrd, h1, h2, hlim⟩, h3⟩ := h.holds j s ks vs hj
    rw [hb]
    exact ⟨⟨ents, clock, (hw _ _ _ _ hj _ _ hh).1, hrd.mono he, h1, h2, by rw [(hw _ _ _ _ hj _ _ hh).2]; exact hlim⟩, h3⟩
  · obtain ⟨⟨i', hi'⟩, hb⟩ := ht i s ks vs hi
    obtain ⟨⟨j', hj'⟩, hb'⟩ := ht j s' ks' vs' hj
    rw [hb, hb'] at e
    exact h.inj _ _ _ _ _ _ _ _ hi' hj' e
/-- What the run holds is what the call holds. -/
structure Rel (E : Env) (n : Nat) (pm : Pm) (m0 : Lim) (w0 : World) (m : Lim) (β : Nat → Nat) (st : St) (a : Act) (w : World) : Prop where
  tmps : ∀ i, Rs m w β (a.tmps.getD i Go.undef) (st.t i)
  size : a.tmps.size = n
  boxes : ∀ s cs, st.b s = some cs → BoxAt m w (β s) cs ∧ (w0.heap.size ≤ β s ∨ β s ∈ pm.X)
  inj : ∀ s s' cs cs', st.b s = some cs → st.b s' = some cs' → β s = β s' → s = s'
  below : Bel pm.X w0 w
  par : n ≤ 1000 ∧ (∀ s, 1000 ≤ s → β s = pm.b s) ∧ ∀ x ∈ pm.X, E.K ≤ x
  mold : (∀ blk, blk < w0.heap.size → blk ∉ pm.Y → m blk = m0 blk) ∧ Ext m0 w0 m w ∧ ∀ y ∈ pm.Y, y ∈ pm.X
  rows : ∃ ρ, Rows E m pm w0 w β st (fun i => a.tmps.getD i Go.undef) ρ
  own : Own w β st fun i => a.tmps.getD i Go.undef
  defers : a.defers = pm.D
  glob : ∀ g, Rd m w (.pointer (some ⟨g, 0, none⟩)) (E.G g)
  j : E.J w0
  maps : Maps pm m w0 w β st.t

/-- A function's contract: of plain data it makes plain data, and only makes memory. -/
def Fun (E : Env) (f : FuncId) (F : List V → Option V) : Prop :=
  (∀ args w, (callFunc f args).run E.P w = .ok (.enter f args) w) ∧
  ∀ (m : Lim) (w : World) (vs : Array Value) (us : List V) (r : V), F us = some r → us.all V.dat = true → RdL m w vs.toList us → E.J w → (∀ g, Rd m w (.pointer (some ⟨g, 0, none⟩)) (E.G g)) →
    Calls E.P f vs w fun e w' => ∃ v m', e = .returned v ∧ Rd m' w' v r ∧ Below w.heap.size w w' ∧ ∀ blk, blk < w.heap.size → m' blk = m blk

/-- A row that is handed on, or back. -/
structure RowIs (m : Lim) (w : World) (v : Value) (g sz len : Nat) : Prop where
  lim : m g = some (len * sz)
  is : ∃ cap cur ty, v = .slice (some ⟨g, 0, none⟩) len cap ∧ w.heap[g]? = some (.cells cur ty (0, 0)) ∧ len ≤ cap ∧ cur.size = cap * sz
/-- Arguments, some of them addresses of variables, or rows of the caller's own: the blocks of these. -/
inductive ArgsP (m : Lim) (w : World) (K : Nat) : List Value → List V → List Nat → List Nat → List Nat → Prop
  | nil : ArgsP m w K [] [] [] [] []
  | bx {b : Nat} {cs : List V} {vs : List Value} {us : List V} {bs gs hs : List Nat} (hb : BoxAt m w b cs) (hK : K ≤ b) (h : ArgsP m w K vs us bs gs hs) : ArgsP m w K (.pointer (some ⟨b, 0, none⟩) :: vs) (.bx cs :: us) (b :: bs) gs hs
  | row {v : Value} {sz g : Nat} {es : List V} {vs : List Value} {us : List V} {bs gs hs : List Nat} (hr : Rd m w v (.sl false sz es (some 0))) (hi : RowIs m w v g sz es.length) (hK : K ≤ g) (h : ArgsP m w K vs us bs gs hs) : ArgsP m w K (v :: vs) (.sl false sz es (some 0) :: us) bs (g :: gs) hs
  | no {vs : List Value} {us : List V} {bs gs hs : List Nat} (h : ArgsP m w K vs us bs gs hs) : ArgsP m w K (.slice none 0 0 :: vs) (.sl true 0 [] (some 0) :: us) bs gs hs
  | mp {g : Nat} {ks us' : List V} {vs : List Value} {us : List V} {bs gs hs : List Nat} (hm : MapAt m w g ks us') (hK : K ≤ g) (h : ArgsP m w K vs us bs gs hs) : ArgsP m w K (.map (some g) :: vs) (.mp 0 ks us' :: us) bs gs (g :: hs)
  | dat {v : Value} {u : V} {vs : List Value} {us : List V} {bs gs hs : List Nat} (hr : Rd m w v u) (hd : u.dat = true) (h : ArgsP m w K vs us bs gs hs) : ArgsP m w K (v :: vs) (u :: us) bs gs hs
/-- What the maps hold then. -/
def OutsM (m : Lim) (w : World) : List Nat → List (List V) → Prop
  | [], [] => True
  | g :: hs, c :: cs => (∃ k ks vs, c = [.mp k ks vs] ∧ MapAt m w g ks vs) ∧ OutsM m w hs cs
  | _, _ => False
theorem OutsM.get {m : Lim} {w : World} : ∀ {hs : List Nat} {cs : List (List V)}, OutsM m w hs cs → ∀ (i g k : Nat) (ks vs : List V), hs[i]? = some g → cs[i]? = some [.mp k ks vs] → MapAt m w g ks vs
  | [], [], _, i, g, k, ks, vs, hg, _ => by simp at hg
  | g0 :: hs, c0 :: cs, h, 0, g, k, ks, vs, hg, hc => by
    simp at hg hc
    subst hg
    obtain ⟨_, _, _, e, h1⟩ := h.1
    rw [hc] at e
    cases e
    exact h1
  | g0 :: hs, c0 :: cs, h, i + 1, g, k, ks, vs, hg, hc => OutsM.get h.2 i g k ks vs (by simpa using hg) (by simpa using hc)
/-- What the variables hold then. -/
def OutsP (m : Lim) (w : World) : List Nat → List (List V) → Prop
  | [], [] => True
  | b :: bs, c :: cs => BoxAt m w b c ∧ OutsP m w bs cs
  | _, _ => False
theorem OutsP.get {m : Lim} {w : World} : ∀ {bs : List Nat} {cs : List (List V)}, OutsP m w bs cs → ∀ (i b : Nat) (c : List V), bs[i]? = some b → cs[i]? = some c → BoxAt m w b c
  | [], [], _, i, b, c, hb, _ => by simp at hb
  | b0 :: bs, c0 :: cs, h, 0, b, c, hb, hc => by simp at hb hc; subst hb hc; exact h.1
  | b0 :: bs, c0 :: cs, h, i + 1, b, c, hb, hc => OutsP.get h.2 i b c (by simpa using hb) (by simpa using hc)
/-- A contract of a function that is handed addresses, or rows that may grow. -/
def FunP (E : Env) (f : FuncId) (F : List V → Option (V × List (List V))) : Prop :=
  (∀ args w, (callFunc f args).run E.P w = .ok (.enter f args) w) ∧
  ∀ (m : Lim) (w : World) (vs : Array Value) (us : List V) (bs gs hs : List Nat) (r : V) (outs : List (List V)), F us = some (r, outs) → ArgsP m w E.K vs.toList us bs gs hs → (bs ++ gs).Nodup → hs.Nodup → E.J w → (∀ g, Rd m w (.pointer (some ⟨g, 0, none⟩)) (E.G g)) →
    Calls E.P f vs w fun e w' => ∃ v m', e = .returned v ∧ Rd m' w' v r ∧ Bel (bs ++ (gs ++ hs)) w w' ∧ Ext m w m' w' ∧ (∀ blk, blk < w.heap.size → blk ∉ gs → m' blk = m blk) ∧ (∃ o1 o2, outs = o1 ++ o2 ∧ OutsP m' w' bs o1 ∧ OutsM m' w' hs o2) ∧
      ∀ sz es k, r = .sl false sz es (some k) → ∃ g, RowIs m' w' v g sz es.length ∧ (w.heap.size ≤ g ∨ g ∈ gs)

/-- What a call of a function value comes to. -/
def CallAt (P : Program) (f : FuncId) (args : Array Value) (w : World) (R : Value → World → Prop) : Prop :=
  ((callFunc f args).run P w = .ok (.enter f args) w ∧ Calls P f args w fun e w' => ∃ v, e = .returned v ∧ R v w') ∨ ∃ v w', (callFunc f args).run P w = .ok (.value v) w' ∧ R v w'
/-- A contract of a function value, or of a function, that leans on the variable in block bk. -/
def FunX (E : Env) (bk : Nat) (f : FuncId) (lb : List Value) (F : List V → Option (V × List (List V))) : Prop :=
  ∀ (m : Lim) (w : World) (vs : Array Value) (us : List V) (bs gs hs : List Nat) (r : V) (outs : List (List V)), F us = some (r, outs) → ArgsP m w E.K (vs.toList ++ [.pointer (some ⟨bk, 0, none⟩)]) us bs gs hs → (bs ++ gs).Nodup → hs.Nodup → E.J w → (∀ g, Rd m w (.pointer (some ⟨g, 0, none⟩)) (E.G g)) →
    CallAt E.P f (vs ++ ⟨lb⟩) w fun v w' => ∃ m', Rd m' w' v r ∧ Bel (bs ++ (gs ++ hs)) w w' ∧ Ext m w m' w' ∧ (∀ blk, blk < w.heap.size → blk ∉ gs → m' blk = m blk) ∧ (∃ o1 o2, outs = o1 ++ o2 ∧ OutsP m' w' bs o1 ∧ OutsM m' w' hs o2) ∧
      ∀ sz es k, r = .sl false sz es (some k) → ∃ g, RowIs m' w' v g sz es.length ∧ (w.heap.size ≤ g ∨ g ∈ gs)
/-- A contract of a function that makes a map. -/
def FunM (E : Env) (f : FuncId) (F : List V → Option (List V × List V)) : Prop :=
  (∀ args w, (callFunc f args).run E.P w = .ok (.enter f args) w) ∧
  ∀ (m : Lim) (w : World) (vs : Array Value) (us ks rs : List V), F us = some (ks, rs) → us.all V.dat = true → RdL m w vs.toList us → E.J w → (∀ g, Rd m w (.pointer (some ⟨g, 0, none⟩)) (E.G g)) →
    Calls E.P f vs w fun e w' => ∃ g m', e = .returned (.map (some g)) ∧ w.heap.size ≤ g ∧ MapAt m' w' g ks rs ∧ Below w.heap.size w w' ∧ ∀ blk, blk < w.heap.size → m' blk = m blk
/-- What the calls lean on. -/
structure EnvOK (E : Env) : Prop where
  fn : ∀ f F, E.F f = some F → Fun E f F
  fnP : ∀ f F, E.FP f = some F → FunP E f F
  keep : ∀ X w w', (∀ x ∈ X, E.K ≤ x) → E.J w → Bel X w w' → E.J w'
  high : ∀ w, E.J w → E.K ≤ w.heap.size
  noX : ∀ f lb, E.X f lb = none
  fnM : ∀ f F, E.FM f = some F → FunM E f F
/-- .. of a call that was handed so much. -/
structure EnvX (E : Env) (pm : Pm) : Prop where
  fn : ∀ f F, E.F f = some F → Fun E f F
  fnP : ∀ f F, E.FP f = some F → FunP E f F
  keep : ∀ X w w', (∀ x ∈ X, E.K ≤ x) → E.J w → Bel X w w' → E.J w'
  high : ∀ w, E.J w → E.K ≤ w.heap.size
  fx : ∀ f lb F, E.X f lb = some F → 1000 ≤ E.xk ∧ FunX E (pm.b E.xk) f lb F
  fz : (∀ d, E.fz d = false) ∨ ∀ x ∈ pm.X, x ∈ pm.Y
  fnM : ∀ f F, E.FM f = some F → FunM E f F
theorem EnvOK.x {E : Env} (h : EnvOK E) {pm : Pm} (hz : (∀ d, E.fz d = false) ∨ ∀ x ∈ pm.X, x ∈ pm.Y) : EnvX E pm := ⟨h.fn, h.fnP, h.keep, h.high, (fun f lb F e => by rw [h.noX] at e; cases e), hz, h.fnM⟩

section
variable {E : Env} {n : Nat} {pm : Pm} {m0 m : Lim} {w0 w : World} {β : Nat → Nat} {st : St} {a : Act}

theorem Rs.mono {m' : Lim} {w' : World} (he : Ext m w m' w') {v : Value} {u : V} (h : Rs m w β v u) : Rs m' w' β v u := h.imp (Rd.mono he) id

theorem Rows.to {E' : Env} {ρ : Nat → Nat} {tm tm' : Nat → Value} (h : Rows E m pm w0 w β st tm ρ) {m' : Lim} {w' : World} {β' : Nat → Nat} {st' : St}
    (hB : ∀ v sz es s, Bear E' w' β' st' tm' v (.sl false sz es (some s)) → Bear E w β st tm v (.sl false sz es (some s)))
    (hw : ∀ v sz es s, Bear E w β st tm v (.sl false sz es (some s)) → w'.heap[ρ s]? = w.heap[ρ s]? ∧ m' (ρ s) = m (ρ s))
    (hb : ∀ v sz es s k cs', Bear E w β st tm v (.sl false sz es (some s)) → st'.b k = some cs' → β' k ≠ ρ s) : Rows E' m' pm w0 w' β' st' tm' ρ := by
  refine ⟨fun v sz es s hi => ?_, fun v sz es s v' sz' es' s' hi hi' hr => h.sep _ _ _ _ _ _ _ _ (hB _ _ _ _ hi) (hB _ _ _ _ hi') hr, fun v sz es s k cs hi hk => hb _ _ _ _ _ _ (hB _ _ _ _ hi) hk⟩
  obtain ⟨lo, lim, cap, cur, ty, hv, hh, hc, hs⟩ := h.row v sz es s (hB _ _ _ _ hi)
  obtain ⟨h1, h2⟩ := hw v sz es s (hB _ _ _ _ hi)
  exact ⟨lo, by rw [h2]; exact lim, cap, cur, ty, hv, by rw [h1]; exact hh, hc, hs⟩
theorem Bear.slot {tm : Nat → Value} {i : Nat} {u : V} (h : st.t i = u) : Bear E w β st tm (tm i) u := .inl ⟨i, h, rfl⟩
/-- Where the slots and the cells are as before. -/
theorem Bear.from {E' : Env} {tm tm' : Nat → Value} {w' : World} {β' : Nat → Nat} {st' : St} {v : Value} {u : V} (h : Bear E' w' β' st' tm' v u)
    (ht : ∀ i, st'.t i = u → Bear E w β st tm (tm' i) u) (hb : ∀ k cs' j, E'.MB k = true → st'.b k = some cs' → cs'[j]? = some u → w'.cell? ⟨β' k, j, none⟩ = some v → Bear E w β st tm v u) : Bear E w β st tm v u := by
  rcases h with ⟨i, h1, h2⟩ | ⟨k, cs, j, h1, h2, h3, h4⟩
  · rw [← h2]; exact ht i h1
  · exact hb k cs j h1 h2 h3 h4
theorem cell_block {w w' : World} {g j : Nat} (h : w'.heap[g]? = w.heap[g]?) : w'.cell? ⟨g, j, none⟩ = w.cell? ⟨g, j, none⟩ := by
  simp [World.cell?, h]

theorem getD_set (t : Array Value) (d i : Nat) (v : Value) (hd : d < t.size) : (t.setIfInBounds d v).getD i Go.undef = if i = d then v else t.getD i Go.undef := by
  simp only [Array.getD_eq_getD_getElem?, Array.getElem?_setIfInBounds]
  by_cases h : d = i
  · subst h; simp [hd]
  · simp [h, Ne.symm h]

theorem Rel.put (h : Rel E n pm m0 w0 m β st a w) {d : Option Tmp} (hd : ∀ k, d = some k → k < n) {v : Value} {u : V} (hv : Rs m w β v u)
    (hk : ∀ sz es s, u = .sl false sz es (some s) → Bear E w β st (fun i => a.tmps.getD i Go.undef) v u)
    (ho : ∀ s sz len cs, u = .row s sz len → st.b s = some cs → OwnAt w β v s sz len cs) (hmp : ∀ s ks vs, u = .mp s ks vs → ∃ j, st.t j = .mp s ks vs) : Rel E n pm m0 w0 m β (st.put d u) (a.put d v) w := by
  cases d with
  | none => exact h
  | some d =>
    have hlt : d < a.tmps.size := by rw [h.size]; exact hd d rfl
    refine ⟨fun i => ?_, by simp [Act.put, h.size], h.boxes, h.inj, h.below, h.par, h.mold, ?_, fun i s sz len cs hi hb => ?_, h.defers, h.glob, h.j, h.maps.to (fun i s ks vs hi => ⟨(by simp only [St.put, upd_at] at hi; split at hi; exact hmp _ _ _ hi; exact ⟨i, hi⟩), rfl⟩) (Ext.refl _ _) (fun _ _ _ h _ => ⟨h, rfl⟩)⟩
    · simp only [Act.put, St.put, upd, getD_set _ _ _ _ hlt]
      split
      · exact hv
      · exact h.tmps i
    rotate_left
    · simp only [Act.put, St.put, upd_at, getD_set _ _ _ _ hlt] at hi hb ⊢
      split
      · rename_i e
        rw [if_pos e] at hi
        exact ho s sz len cs hi hb
      · rename_i e
        rw [if_neg e] at hi
        exact h.own i s sz len cs hi hb
    · obtain ⟨ρ, hr⟩ := h.rows
      refine ⟨ρ, hr.to (fun v' sz es s hi => hi.from (fun i hi => ?_) (fun k cs j h1 h2 h3 h4 => .inr ⟨k, cs, j, h1, h2, h3, h4⟩)) (fun _ _ _ _ _ => ⟨rfl, rfl⟩) hr.box⟩
      simp only [Act.put, St.put, upd_at, getD_set _ _ _ _ hlt] at hi ⊢
      split at hi
      · rename_i e
        rw [if_pos e, ← hi]
        exact hk sz es s hi
      · rename_i e
        rw [if_neg e]
        exact .inl ⟨i, hi, rfl⟩

theorem Rel.ext (h : Rel E n pm m0 w0 m β st a w) {m' : Lim} {w' : World} (he : Ext m w m' w') (hb : ∀ g o, w.heap[g]? = some o → (w0.heap.size ≤ g ∨ g ∈ pm.X) → w'.heap[g]? = w.heap[g]? ∧ m' g = m g)
    (hbel : Bel pm.X w0 w') (hm : ∀ blk, blk < w0.heap.size → blk ∉ pm.Y → m' blk = m0 blk) : Rel E n pm m0 w0 m' β st a w' := by
  refine ⟨fun i => (h.tmps i).mono he, h.size, fun s cs hs => ?_, h.inj, hbel, h.par, ⟨hm, h.mold.2.1.trans he, h.mold.2.2⟩, ?_, h.own.sub (fun i s sz len cs hi hs => ⟨i, cs, hi, rfl, hs, Nat.le_refl _, rfl, fun cur ty hh => ?_⟩), h.defers, fun g => (h.glob g).mono he, h.j, h.maps.to (fun i s ks vs hi => ⟨⟨i, hi⟩, rfl⟩) he (fun g e c hg ho => ⟨by rw [(hb g _ hg ho).1]; exact hg, (hb g _ hg ho).2⟩)⟩
  rotate_right
  · obtain ⟨_, hge⟩ := h.boxes s cs hs
    exact ⟨cur, ty, by rw [(hb _ _ hh hge).1]; exact hh, rfl⟩
  · obtain ⟨⟨hl, vals, ty, xs, rest, hh, hx, hr⟩, hge⟩ := h.boxes s cs hs
    obtain ⟨h1, h2⟩ := hb _ _ hh hge
    exact ⟨⟨by rw [h2]; exact hl, vals, ty, xs, rest, by rw [h1]; exact hh, hx, hr.mono he⟩, hge⟩
  · obtain ⟨ρ, hr⟩ := h.rows
    refine ⟨ρ, hr.to (fun v sz es s hi => hi.from (fun i hi => .inl ⟨i, hi, rfl⟩) (fun k cs j h1 h2 h3 h4 => ?_)) (fun v sz es s hi => ?_) hr.box⟩
    · obtain ⟨⟨_, vals, ty, xs, rest, hh, _, _⟩, hge⟩ := h.boxes k cs h2
      rw [cell_block (hb _ _ hh hge).1] at h4
      exact .inr ⟨k, cs, j, h1, h2, h3, h4⟩
    · obtain ⟨lo, _, cap, cur, ty, _, hh, _⟩ := hr.row v sz es s hi
      exact hb _ _ hh (lo.imp id (h.mold.2.2 _))

theorem heap_lt {w : World} {k : Nat} {o : Obj} (h : w.heap[k]? = some o) : k < w.heap.size := by
  rcases Nat.lt_or_ge k w.heap.size with h' | h'
  · exact h'
  · simp [Array.getElem?_eq_none h'] at h

theorem Rel.call (h : Rel E n pm m0 w0 m β st a w) {m' : Lim} {w' : World} (hb : Below w.heap.size w w') (hm : ∀ blk, blk < w.heap.size → m' blk = m blk) : Rel E n pm m0 w0 m' β st a w' := by
  refine h.ext (Ext.of_below hb hm) (fun g o hh _ => ?_) (h.below.trans hb h.below.size) (fun blk hlt hy => ?_)
  · exact ⟨hb.block _ (heap_lt hh), hm _ (heap_lt hh)⟩
  · rw [hm blk (Nat.lt_of_lt_of_le hlt h.below.size), h.mold.1 blk hlt hy]

theorem putP_is : ∀ {ss : List Nat} {outs rest : List (List V)} {b b' : Nat → Option (List V)}, putP b ss outs = some (b', rest) → ∀ (s' : Nat) (c' : List V), b' s' = some c' → (s' ∉ ss ∧ b s' = some c') ∨ ∃ i : Nat, ss[i]? = some s' ∧ outs[i]? = some c'
  | [], _, _, b, b', h, s', c', hs => by cases h; exact .inl ⟨by simp, hs⟩
  | s :: ss, c :: outs, rest, b, b', h, s', c', hs => by
    have h0 : putP (upd b s (some c)) ss outs = some (b', rest) := h
    rcases putP_is h0 s' c' hs with ⟨h1, h2⟩ | ⟨i, h1, h2⟩
    · by_cases e : s' = s
      · subst e
        rw [upd_same] at h2
        cases h2
        exact .inr ⟨0, rfl, rfl⟩
      · rw [upd_ne _ _ e] at h2
        exact .inl ⟨by simp [e, h1], h2⟩
    · exact .inr ⟨i + 1, by simpa using h1, by simpa using h2⟩
  | _ :: _, [], _, b, b', h, _, _, _ => by cases h
theorem putP_rest : ∀ {ss : List Nat} {outs rest : List (List V)} {b b' : Nat → Option (List V)}, putP b ss outs = some (b', rest) → ∃ o, outs = o ++ rest ∧ o.length = ss.length
  | [], _, _, b, b', h => by cases h; exact ⟨[], rfl, rfl⟩
  | s :: ss, c :: outs, rest, b, b', h => by
    have h0 : putP (upd b s (some c)) ss outs = some (b', rest) := h
    obtain ⟨o, rfl, h2⟩ := putP_rest h0
    exact ⟨c :: o, rfl, by simp [h2]⟩
  | _ :: _, [], _, b, b', h => by cases h
theorem OutsP.len {m : Lim} {w : World} : ∀ {bs : List Nat} {cs : List (List V)}, OutsP m w bs cs → cs.length = bs.length
  | [], [], _ => rfl
  | _ :: _, _ :: _, h => by simp [OutsP.len h.2]
theorem Rs.killR {v : Value} {u : V} {ss : List Nat} (h : Rs m w β v u) : Rs m w β v (killRV ss u) := by
  rcases killRV_is ss u with ⟨e, _⟩ | e
  · rw [e]; exact h
  · rw [e]; exact .of (.undef _)
/-- Behind a call that was handed addresses, and rows that nobody bears any more. -/
theorem Rel.callP (h : Rel E n pm m0 w0 m β st a w) {ρ : Nat → Nat} (hrw : Rows E m pm w0 w β st (fun i => a.tmps.getD i Go.undef) ρ) {ss gs ms : List Nat} {outs rest o1 : List (List V)} {b' : Nat → Option (List V)} {m' : Lim} {w' : World} (hdom : ∀ s ∈ ss, ∃ cs, st.b s = some cs) (hb : Bel (ss.map β ++ (gs ++ ms)) w w')
    (he : Ext m w m' w') (hm : ∀ blk, blk < w.heap.size → blk ∉ gs → m' blk = m blk) (ho : OutsP m' w' (ss.map β) o1) (ho1 : ∀ i c, outs[i]? = some c → i < ss.length → o1[i]? = some c) (hp : putP st.b ss outs = some (b', rest)) (hmb : ∀ s ∈ ss, E.MB s = true → ∀ c, b' s = some c → c.all V.unm = true)
    (hfree : ∀ v sz es s, Bear E w β st (fun i => a.tmps.getD i Go.undef) v (.sl false sz es (some s)) → ρ s ∉ gs) (hboxg : ∀ s cs, st.b s = some cs → β s ∉ gs) (hgY : ∀ g ∈ gs, w0.heap.size ≤ g ∨ g ∈ pm.Y) (hgc : ∀ g ∈ gs, ∃ cur ty fr, w.heap[g]? = some (.cells cur ty fr))
    (hhX : ∀ g ∈ ms, w0.heap.size ≤ g ∨ g ∈ pm.X) (hhm : ∀ g ∈ ms, ∃ e c, w.heap[g]? = some (.map e c)) (hmk : ∀ i s ks vs, st.t i = .mp s ks vs → β s ∉ ms) :
    Rel E n pm m0 w0 m' β ⟨killRs ss st.t, b'⟩ a w' ∧ Rows E m' pm w0 w' β ⟨killRs ss st.t, b'⟩ (fun i => a.tmps.getD i Go.undef) ρ ∧
      (∀ v sz es s, Bear E w' β ⟨killRs ss st.t, b'⟩ (fun i => a.tmps.getD i Go.undef) v (.sl false sz es (some s)) → Bear E w β st (fun i => a.tmps.getD i Go.undef) v (.sl false sz es (some s))) ∧ ∀ s cs, b' s = some cs → ∃ cs0, st.b s = some cs0 := by
  have hblk : ∀ {s : Nat} {cs : List V}, st.b s = some cs → β s < w.heap.size := fun hs => by
    obtain ⟨⟨_, _, _, _, _, hh, _⟩, _⟩ := h.boxes _ _ hs
    exact heap_lt hh
  have hnot : ∀ {s' : Nat} {c' : List V}, st.b s' = some c' → s' ∉ ss → β s' ∉ ss.map β ++ (gs ++ ms) := fun {s' c'} hs hn hm' => by
    rcases List.mem_append.1 hm' with hm' | hm'
    · obtain ⟨s, h1, h2⟩ := List.mem_map.1 hm'
      obtain ⟨cs, h3⟩ := hdom s h1
      exact hn (h.inj _ _ _ _ h3 hs h2 ▸ h1)
    · rcases List.mem_append.1 hm' with hm' | hm'
      · exact hboxg _ _ hs hm'
      · obtain ⟨_, _, hh2⟩ := hhm _ hm'
        obtain ⟨⟨_, _, _, _, _, hh, _⟩, _⟩ := h.boxes _ _ hs
        rw [hh2] at hh; cases hh
  have hmB : ∀ {s : Nat} {cs : List V}, st.b s = some cs → m' (β s) = m (β s) := fun hs => hm _ (hblk hs) (hboxg _ _ hs)
  have hold : ∀ {s' : Nat} {c' : List V}, b' s' = some c' → ∃ c, st.b s' = some c := fun {s' c'} hs => by
    rcases putP_is hp s' c' hs with ⟨_, h2⟩ | ⟨i, h1, _⟩
    · exact ⟨_, h2⟩
    · exact hdom _ (List.mem_of_getElem? h1)
  have hbear : ∀ v sz es s, Bear E w' β ⟨killRs ss st.t, b'⟩ (fun i => a.tmps.getD i Go.undef) v (.sl false sz es (some s)) → Bear E w β st (fun i => a.tmps.getD i Go.undef) v (.sl false sz es (some s)) := fun v sz es s hi => hi.from (fun i hi => by
      have hi : killRV ss (st.t i) = _ := hi
      rcases killRV_is ss (st.t i) with ⟨e, _⟩ | e
      · rw [e] at hi; exact .inl ⟨i, hi, rfl⟩
      · rw [e] at hi; cases hi) (fun k c j h1 h2 h3 h4 => by
      have hns : k ∉ ss := fun hm' => by have := List.all_eq_true.1 (hmb k hm' h1 c h2) _ (List.mem_of_getElem? h3); cases this
      rcases putP_is hp k c h2 with ⟨_, h5⟩ | ⟨i, h5, _⟩
      · obtain ⟨⟨_, vals, ty, xs, rest, hh, _, _⟩, _⟩ := h.boxes k c h5
        rw [cell_block (hb.block _ (heap_lt hh) (hnot h5 hns))] at h4
        exact .inr ⟨k, c, j, h1, h5, h3, h4⟩
      · exact absurd (List.mem_of_getElem? h5) hns)
  have hrows : Rows E m' pm w0 w' β ⟨killRs ss st.t, b'⟩ (fun i => a.tmps.getD i Go.undef) ρ := hrw.to hbear (fun v sz es s hi => by
      obtain ⟨_, _, _, _, _, _, hh, _⟩ := hrw.row v sz es s hi
      refine ⟨hb.block _ (heap_lt hh) (fun hx => ?_), hm _ (heap_lt hh) (hfree _ _ _ _ hi)⟩
      rcases List.mem_append.1 hx with hx | hx
      · obtain ⟨s2, h1, h2⟩ := List.mem_map.1 hx
        obtain ⟨cs, h3⟩ := hdom s2 h1
        exact hrw.box _ _ _ _ _ _ hi h3 h2
      · rcases List.mem_append.1 hx with hx | hx
        · exact hfree _ _ _ _ hi hx
        · obtain ⟨_, _, hh2⟩ := hhm _ hx
          rw [hh2] at hh; cases hh) (fun v sz es s k cs hi hk => by
      obtain ⟨c0, hc0⟩ := hold hk
      exact hrw.box _ _ _ _ _ _ hi hc0)
  refine ⟨⟨fun i => ((h.tmps i).mono he).killR, h.size, fun s' c' hs' => ?_, fun s1 s2 c1 c2 h1 h2 heq => ?_, h.below.step hb (fun y hy => ?_), h.par, ⟨fun blk hlt hy => ?_, h.mold.2.1.trans he, h.mold.2.2⟩, ⟨ρ, hrows⟩, fun i s sz len c' hi hs => ?_, h.defers, fun g => (h.glob g).mono he, h.j, h.maps.on (fun i s ks vs hi => ⟨⟨i, by have hi : killRV ss (st.t i) = _ := hi; rcases killRV_is ss (st.t i) with ⟨e, _⟩ | e; rw [← e]; exact hi; rw [e] at hi; cases hi⟩, rfl⟩) he (fun i s ks vs hi e c hg => by
      refine ⟨?_, hm _ (heap_lt hg) (fun hx => by obtain ⟨_, _, _, hh⟩ := hgc _ hx; rw [hh] at hg; cases hg)⟩
      rw [hb.block _ (heap_lt hg) (fun hx => ?_)]
      · exact hg
      · rcases List.mem_append.1 hx with hx | hx
        · obtain ⟨s2, h1, h2⟩ := List.mem_map.1 hx
          obtain ⟨cs, h3⟩ := hdom s2 h1
          obtain ⟨⟨_, _, _, _, _, hh, _⟩, _⟩ := h.boxes _ _ h3
          rw [h2, hg] at hh; cases hh
        · rcases List.mem_append.1 hx with hx | hx
          · obtain ⟨_, _, _, hh⟩ := hgc _ hx
            rw [hh] at hg; cases hg
          · exact hmk _ _ _ _ hi hx)⟩, hrows, hbear, fun s cs hs => hold hs⟩
  · obtain ⟨c, hc⟩ := hold hs'
    refine ⟨?_, (h.boxes s' c hc).2⟩
    rcases putP_is hp s' c' hs' with ⟨h1, h2⟩ | ⟨i, h1, h2⟩
    · obtain ⟨⟨hl, vals, ty, xs, rest, hh, hx, hr⟩, _⟩ := h.boxes s' c' h2
      exact ⟨by rw [hmB h2]; exact hl, vals, ty, xs, rest, by rw [hb.block _ (heap_lt hh) (hnot h2 h1)]; exact hh, hx, hr.mono he⟩
    · exact ho.get i (β s') c' (by rw [List.getElem?_map, h1]; rfl) (ho1 i c' h2 (by rcases Nat.lt_or_ge i ss.length with h4 | h4; exact h4; rw [List.getElem?_eq_none h4] at h1; cases h1))
  · obtain ⟨c1', h3⟩ := hold h1
    obtain ⟨c2', h4⟩ := hold h2
    exact h.inj _ _ _ _ h3 h4 heq
  · rcases List.mem_append.1 hy with hy | hy
    · obtain ⟨s, h1, rfl⟩ := List.mem_map.1 hy
      obtain ⟨cs, h3⟩ := hdom s h1
      exact (h.boxes _ _ h3).2
    · rcases List.mem_append.1 hy with hy | hy
      · exact (hgY y hy).imp id (h.mold.2.2 y)
      · exact hhX y hy
  · rw [hm blk (Nat.lt_of_lt_of_le hlt h.below.size) (fun hg => by rcases hgY blk hg with h1 | h1; omega; exact hy h1), h.mold.1 blk hlt hy]
  · have hi : killRV ss (st.t i) = _ := hi
    rcases killRV_is ss (st.t i) with ⟨e, hn⟩ | e
    · rw [e] at hi
      have hns := hn _ _ _ hi
      rcases putP_is hp s c' hs with ⟨_, h2⟩ | ⟨j, h1, _⟩
      · obtain ⟨hl, cap, cur, ty, hv, hh, hsz⟩ := h.own i s sz len c' hi h2
        exact ⟨hl, cap, cur, ty, hv, by rw [hb.block _ (heap_lt hh) (hnot h2 hns)]; exact hh, hsz⟩
      · exact absurd (List.mem_of_getElem? h1) hns
    · rw [e] at hi; cases hi

/-- The maps of these names are not spoken of. -/
def killM0 (ss : List Nat) : V → V
  | .mp s ks vs => if s ∈ ss then .undef else .mp s ks vs
  | v => v
theorem killM0_is (ss : List Nat) (u : V) : killM0 ss u = u ∧ (∀ s ks vs, u = .mp s ks vs → s ∉ ss) ∨ killM0 ss u = .undef ∧ ∃ s ks vs, u = .mp s ks vs ∧ s ∈ ss := by
  cases u <;> try exact .inl ⟨rfl, fun _ _ _ h => by cases h⟩
  rename_i s ks vs
  by_cases h : s ∈ ss
  · exact .inr ⟨if_pos h, s, ks, vs, rfl, h⟩
  · exact .inl ⟨if_neg h, fun s' k' v' e => by cases e; exact h⟩
theorem Rel.unmap (h : Rel E n pm m0 w0 m β st a w) (ss : List Nat) : Rel E n pm m0 w0 m β ⟨fun i => killM0 ss (st.t i), st.b⟩ a w ∧
    (∀ v sz es s, Bear E w β ⟨fun i => killM0 ss (st.t i), st.b⟩ (fun i => a.tmps.getD i Go.undef) v (.sl false sz es (some s)) → Bear E w β st (fun i => a.tmps.getD i Go.undef) v (.sl false sz es (some s))) := by
  have hkeep : ∀ {i : Nat} {u : V}, killM0 ss (st.t i) = u → u ≠ .undef → st.t i = u := fun {i u} hi hu => by
    rcases killM0_is ss (st.t i) with ⟨e, _⟩ | ⟨e, _⟩
    · rw [← e]; exact hi
    · exact absurd (hi.symm.trans e) hu
  have hbear : ∀ v sz es s, Bear E w β ⟨fun i => killM0 ss (st.t i), st.b⟩ (fun i => a.tmps.getD i Go.undef) v (.sl false sz es (some s)) → Bear E w β st (fun i => a.tmps.getD i Go.undef) v (.sl false sz es (some s)) := fun v sz es s hi =>
    hi.from (fun i hi => .inl ⟨i, hkeep hi (by intro e; cases e), rfl⟩) (fun k c j h1 h2 h3 h4 => .inr ⟨k, c, j, h1, h2, h3, h4⟩)
  refine ⟨⟨fun i => ?_, h.size, h.boxes, h.inj, h.below, h.par, h.mold, ?_, fun i s sz len c hi hs => h.own i s sz len c (hkeep hi (by intro e; cases e)) hs, h.defers, h.glob, h.j, h.maps.to (fun i s ks vs hi => ⟨⟨i, hkeep hi (by intro e; cases e)⟩, rfl⟩) (Ext.refl m w) (fun g e c hg _ => ⟨hg, rfl⟩)⟩, hbear⟩
  · show Rs m w β _ (killM0 ss (st.t i))
    rcases killM0_is ss (st.t i) with ⟨e, _⟩ | ⟨e, _⟩
    · rw [e]; exact h.tmps i
    · rw [e]; exact .of (.undef _)
  · obtain ⟨ρ, hr⟩ := h.rows
    exact ⟨ρ, hr.to hbear (fun v sz es s hi => ⟨rfl, rfl⟩) (fun v sz es s k c hi hk => hr.box _ _ _ _ _ _ hi hk)⟩
theorem Rel.remap (h : Rel E n pm m0 w0 m β st a w) {ρ : Nat → Nat} (hr : Rows E m pm w0 w β st (fun i => a.tmps.getD i Go.undef) ρ) {t2 : Nat → V}
    (ht : ∀ i, t2 i = st.t i ∨ ∃ s ks vs, t2 i = .mp s ks vs ∧ a.tmps.getD i Go.undef = .map (some (β s)) ∧ MapAt m w (β s) ks vs ∧ (w0.heap.size ≤ β s ∨ β s ∈ pm.X))
    (hinj : ∀ i j s s' ks vs ks' vs', t2 i = .mp s ks vs → t2 j = .mp s' ks' vs' → β s = β s' → s = s') :
    Rel E n pm m0 w0 m β ⟨t2, st.b⟩ a w ∧ Rows E m pm w0 w β ⟨t2, st.b⟩ (fun i => a.tmps.getD i Go.undef) ρ ∧
      (∀ v sz es s, Bear E w β ⟨t2, st.b⟩ (fun i => a.tmps.getD i Go.undef) v (.sl false sz es (some s)) → Bear E w β st (fun i => a.tmps.getD i Go.undef) v (.sl false sz es (some s))) := by
  have hkeep : ∀ {i : Nat} {u : V}, t2 i = u → (∀ s ks vs, u ≠ .mp s ks vs) → st.t i = u := fun {i u} hi hu => by
    rcases ht i with e | ⟨s, ks, vs, e, _⟩
    · rw [← e]; exact hi
    · exact absurd (hi.symm.trans e) (hu _ _ _)
  have hbear : ∀ v sz es s, Bear E w β ⟨t2, st.b⟩ (fun i => a.tmps.getD i Go.undef) v (.sl false sz es (some s)) → Bear E w β st (fun i => a.tmps.getD i Go.undef) v (.sl false sz es (some s)) := fun v sz es s hi =>
    hi.from (fun i hi => .inl ⟨i, hkeep hi (by intro _ _ _ e; cases e), rfl⟩) (fun k c j h1 h2 h3 h4 => .inr ⟨k, c, j, h1, h2, h3, h4⟩)
  have hrows : Rows E m pm w0 w β ⟨t2, st.b⟩ (fun i => a.tmps.getD i Go.undef) ρ := hr.to hbear (fun v sz es s hi => ⟨rfl, rfl⟩) (fun v sz es s k c hi hk => hr.box _ _ _ _ _ _ hi hk)
  refine ⟨⟨fun i => ?_, h.size, h.boxes, h.inj, h.below, h.par, h.mold, ⟨ρ, hrows⟩, fun i s sz len c hi hs => h.own i s sz len c (hkeep hi (by intro _ _ _ e; cases e)) hs, h.defers, h.glob, h.j, ⟨fun i s ks vs hi => ?_, hinj⟩⟩, hrows, hbear⟩
  · show Rs m w β _ (t2 i)
    rcases ht i with e | ⟨s, ks, vs, e, hv, _⟩
    · rw [e]; exact h.tmps i
    · rw [e, hv]; exact .ofMp _ _ _
  · have hi : t2 i = _ := hi
    rcases ht i with e | ⟨s', ks', vs', e, _, q1, q2⟩
    · exact h.maps.holds i s ks vs (e ▸ hi)
    · rw [e] at hi
      cases hi
      exact ⟨q1, q2⟩
theorem World.heap_new (w : World) (o : Obj) : (w.alloc o).heap[w.heap.size]? = some o := by
  show (w.heap.push o)[w.heap.size]? = some o
  simp

theorem Rel.newG (h : Rel E n pm m0 w0 m β st a w) {s : Nat} (hs : s < n) (hn : noPtrTo s st.t) {vals : Array Value} {ty : TypeId} {cs : List V} (hr : RdL m w vals.toList cs) {u : V} {v : Value}
    (hmb : E.okN (some s) cs = true) (hu : (u = .ptr s 0 ∧ v = .pointer (some ⟨w.heap.size, 0, none⟩)) ∨ ∃ sz len, u = .row s sz len ∧ v = .slice (some ⟨w.heap.size, 0, none⟩) len len ∧ cs.length = len * sz) :
    Rel E n pm m0 w0 (upd m w.heap.size (some 0)) (upd β s w.heap.size) ⟨upd st.t s u, upd st.b s (some cs)⟩ (a.put (some s) v) (w.alloc (.cells vals ty)) := by
  have he : Ext m w (upd m w.heap.size (some 0)) (w.alloc (.cells vals ty)) := by
    refine ⟨by simp, fun blk off v hb _ hc => ?_, fun blk hb fr hf => ?_, fun blk es c _ hc => by rw [Below.heap_alloc w _ blk (map_lt hc)]; exact hc⟩
    · rw [World.cell?_alloc_lt _ _ _ hb]; exact hc
    · simp only [upd] at hf; rw [if_neg (Nat.ne_of_lt hb)] at hf; exact ⟨fr, hf, Nat.le_refl _⟩
  have hold : ∀ k o, w.heap[k]? = some o → (w.alloc (.cells vals ty)).heap[k]? = some o := fun k o hk => by
    rw [Below.heap_alloc w _ k (heap_lt hk)]; exact hk
  have hlt : s < a.tmps.size := by rw [h.size]; exact hs
  have hus : ∀ nl sz es k, u ≠ .sl nl sz es k := by rcases hu with ⟨rfl, _⟩ | ⟨_, _, rfl, _⟩ <;> intros <;> simp
  refine ⟨fun i => ?_, by simp [Act.put, h.size], fun s' cs' hs' => ?_, fun s1 s2 c1 c2 h1 h2 heq => ?_, h.below.alloc h.below.size _, ⟨h.par.1, fun s' hs' => (upd_ne _ _ (by have := h.par.1; omega)).trans (h.par.2.1 s' hs'), h.par.2.2⟩, ⟨fun blk hb hy => ?_, h.mold.2.1.trans he, h.mold.2.2⟩, ?_, fun i s' sz len cs' hi hb => ?_, h.defers, fun g => (h.glob g).mono he, h.j, h.maps.to (fun i s' ks vs hi => (by
    simp only [upd_at st.t] at hi
    split at hi
    · rcases hu with ⟨rfl, _⟩ | ⟨_, _, rfl, _⟩ <;> cases hi
    · exact ⟨⟨i, hi⟩, upd_ne _ _ (fun e => hn i (by rw [hi, e]; rfl))⟩)) he (fun g e c hg _ => ⟨hold _ _ hg, upd_ne _ _ (Nat.ne_of_lt (map_lt hg))⟩)⟩
  rotate_right
  · simp only [Act.put, getD_set _ _ _ _ hlt, upd_at st.t, upd_at st.b] at hi hb ⊢
    split at hi
    · rename_i e
      rw [if_pos e]
      rcases hu with ⟨rfl, _⟩ | ⟨sz0, len0, rfl, rfl, hl⟩
      · cases hi
      · cases hi
        rw [if_pos rfl] at hb
        cases hb
        have hsz := hr.length
        refine ⟨by omega, len, vals, .plain ty, by rw [upd_same], by rw [upd_same]; exact World.heap_new w _, ?_⟩
        rw [← hl, ← hsz]; simp
    · rename_i e
      rw [if_neg e]
      have hne : s' ≠ s := fun e' => hn i (by rw [hi, e']; rfl)
      rw [if_neg hne] at hb
      obtain ⟨hl, cap, cur, ty', hv, hh, hsz⟩ := h.own i s' sz len cs' hi hb
      exact ⟨hl, cap, cur, ty', by rw [upd_ne _ _ hne]; exact hv, by rw [upd_ne _ _ hne]; exact hold _ _ hh, hsz⟩
  · simp only [Act.put, getD_set _ _ _ _ hlt, upd_at st.t]
    split
    · rcases hu with ⟨rfl, rfl⟩ | ⟨sz0, len0, rfl, rfl, _⟩
      · have := Rs.ofPtr (m := upd m w.heap.size (some 0)) (w := w.alloc (.cells vals ty)) (β := upd β s w.heap.size) s 0
        rwa [upd_same] at this
      · have := Rs.ofRow (m := upd m w.heap.size (some 0)) (w := w.alloc (.cells vals ty)) (β := upd β s w.heap.size) s sz0 (Nat.le_refl len0)
        rwa [upd_same] at this
    · exact ((h.tmps i).mono he).beta (fun s' hs' => upd_ne _ _ (fun e => hn i (by rw [hs', e])))
  · simp only [upd_at st.b] at hs'
    split at hs'
    · rename_i e
      cases hs'
      subst e
      rw [upd_same]
      exact ⟨⟨upd_same _ _ _, vals, .plain ty, vals.toList, [], World.heap_new w _, by simp, hr.mono he⟩, .inl h.below.size⟩
    · rename_i e
      rw [upd_ne _ _ e]
      obtain ⟨⟨hl, vals', ty', xs, rest, hh, hx, hr'⟩, hge⟩ := h.boxes s' cs' hs'
      exact ⟨⟨by rw [upd_ne _ _ (Nat.ne_of_lt (heap_lt hh))]; exact hl, vals', ty', xs, rest, hold _ _ hh, hx, hr'.mono he⟩, hge⟩
  · simp only [upd_at] at h1 h2 heq
    split at h1 <;> split at h2
    · rename_i e1 e2; rw [e1, e2]
    · rename_i e1 e2
      rw [if_pos e1, if_neg e2] at heq
      obtain ⟨⟨_, _, _, _, _, hh, _⟩, _⟩ := h.boxes s2 c2 h2
      have := heap_lt hh; omega
    · rename_i e1 e2
      rw [if_neg e1, if_pos e2] at heq
      obtain ⟨⟨_, _, _, _, _, hh, _⟩, _⟩ := h.boxes s1 c1 h1
      have := heap_lt hh; omega
    · rename_i e1 e2
      rw [if_neg e1, if_neg e2] at heq
      exact h.inj s1 s2 c1 c2 h1 h2 heq
  · rw [upd_ne _ _ (by have := h.below.size; omega)]
    exact h.mold.1 blk hb hy
  · obtain ⟨ρ, hrw⟩ := h.rows
    have hlt' : ∀ v sz es s', Bear E w β st (fun i => a.tmps.getD i Go.undef) v (.sl false sz es (some s')) → ρ s' < w.heap.size := fun v sz es s' hi => by
      obtain ⟨_, _, _, _, _, _, hh, _⟩ := hrw.row v sz es s' hi
      exact heap_lt hh
    refine ⟨ρ, hrw.to (fun v' sz es s' hi => hi.from (fun i hi => ?_) (fun k c j h1 h2 h3 h4 => ?_)) (fun v' sz es s' hi => ?_) (fun v' sz es s' k c hi hk => ?_)⟩
    · simp only [upd_at] at hi
      simp only [Act.put, getD_set _ _ _ _ hlt]
      split at hi
      · exact absurd hi (hus _ _ _ _)
      · rename_i e
        rw [if_neg e]
        exact .inl ⟨i, hi, rfl⟩
    · have h2 : upd st.b s (some cs) k = some c := h2
      by_cases e : k = s
      · subst e
        rw [upd_same] at h2
        cases h2
        simp only [Env.okN, h1, Bool.not_true, Bool.false_or] at hmb
        have := List.all_eq_true.1 hmb _ (List.mem_of_getElem? h3)
        cases this
      · rw [upd_ne _ _ e] at h2 h4
        obtain ⟨⟨_, vals', ty', xs, rest, hh, _, _⟩, _⟩ := h.boxes k c h2
        rw [cell_block (Below.heap_alloc w _ _ (heap_lt hh))] at h4
        exact .inr ⟨k, c, j, h1, h2, h3, h4⟩
    · obtain ⟨_, _, _, _, _, _, hh, _⟩ := hrw.row v' sz es s' hi
      exact ⟨Below.heap_alloc w _ _ (heap_lt hh), upd_ne _ _ (Nat.ne_of_lt (heap_lt hh))⟩
    · have hk : upd st.b s (some cs) k = some c := hk
      by_cases e : k = s
      · subst e
        rw [upd_same]
        have := hlt' _ _ _ _ hi
        omega
      · rw [upd_ne _ _ e] at hk ⊢
        exact hrw.box _ _ _ _ _ _ hi hk

theorem Rel.newB (h : Rel E n pm m0 w0 m β st a w) {s : Nat} (hs : s < n) (hn : noPtrTo s st.t) {vals : Array Value} {T : TyAt vals.size} {cs : List V} {xs0 rest0 : List Value} {w' : World} (hB : Below w.heap.size w w')
    (hnew : w'.heap[w.heap.size]? = some (.cells vals T.ty T.fz)) (hx0 : vals.toList = xs0 ++ rest0) (hr : RdL m w xs0 cs) {sz len cap : Nat} (hfit : len * sz ≤ cs.length) (hcap : len ≤ cap) (hsz : vals.size = cap * sz) (hmb : E.okN (some s) cs = true) :
    Rel E n pm m0 w0 (upd m w.heap.size (some 0)) (upd β s w.heap.size) ⟨upd st.t s (.row s sz len), upd st.b s (some cs)⟩ (a.put (some s) (.slice (some ⟨w.heap.size, 0, none⟩) len cap)) w' := by
  have he : Ext m w (upd m w.heap.size (some 0)) w' := Ext.of_below hB (fun blk hb => upd_ne _ _ (Nat.ne_of_lt hb))
  have hold : ∀ k o, w.heap[k]? = some o → w'.heap[k]? = some o := fun k o hk => by
    rw [hB.block k (heap_lt hk)]; exact hk
  have hlt : s < a.tmps.size := by rw [h.size]; exact hs
  have hus : ∀ nl sz' es k, V.row s sz len ≠ .sl nl sz' es k := by intros; simp
  refine ⟨fun i => ?_, by simp [Act.put, h.size], fun s' cs' hs' => ?_, fun s1 s2 c1 c2 h1 h2 heq => ?_, h.below.trans hB h.below.size, ⟨h.par.1, fun s' hs' => (upd_ne _ _ (by have := h.par.1; omega)).trans (h.par.2.1 s' hs'), h.par.2.2⟩, ⟨fun blk hb hy => ?_, h.mold.2.1.trans he, h.mold.2.2⟩, ?_, fun i s' sz1 len1 cs' hi hb => ?_, h.defers, fun g => (h.glob g).mono he, h.j, h.maps.to (fun i s' ks vs hi => (by
    simp only [upd_at st.t] at hi
    split at hi
    · cases hi
    · exact ⟨⟨i, hi⟩, upd_ne _ _ (fun e => hn i (by rw [hi, e]; rfl))⟩)) he (fun g e c hg _ => ⟨hold _ _ hg, upd_ne _ _ (Nat.ne_of_lt (map_lt hg))⟩)⟩
  rotate_right
  · simp only [Act.put, getD_set _ _ _ _ hlt, upd_at st.t, upd_at st.b] at hi hb ⊢
    split at hi
    · rename_i e
      rw [if_pos e]
      cases hi
      rw [if_pos rfl] at hb
      cases hb
      exact ⟨hfit, cap, vals, T, by rw [upd_same], by rw [upd_same]; exact hnew, hsz⟩
    · rename_i e
      rw [if_neg e]
      have hne : s' ≠ s := fun e' => hn i (by rw [hi, e']; rfl)
      rw [if_neg hne] at hb
      obtain ⟨hl, cap1, cur, ty', hv, hh, hsz1⟩ := h.own i s' sz1 len1 cs' hi hb
      exact ⟨hl, cap1, cur, ty', by rw [upd_ne _ _ hne]; exact hv, by rw [upd_ne _ _ hne]; exact hold _ _ hh, hsz1⟩
  · simp only [Act.put, getD_set _ _ _ _ hlt, upd_at st.t]
    split
    · have := Rs.ofRow (m := upd m w.heap.size (some 0)) (w := w') (β := upd β s w.heap.size) s sz hcap
      rwa [upd_same] at this
    · exact ((h.tmps i).mono he).beta (fun s' hs' => upd_ne _ _ (fun e => hn i (by rw [hs', e])))
  · simp only [upd_at st.b] at hs'
    split at hs'
    · rename_i e
      cases hs'
      subst e
      rw [upd_same]
      exact ⟨⟨upd_same _ _ _, vals, T, xs0, rest0, hnew, hx0, hr.mono he⟩, .inl h.below.size⟩
    · rename_i e
      rw [upd_ne _ _ e]
      obtain ⟨⟨hl, vals', ty', xs, rest, hh, hx, hr'⟩, hge⟩ := h.boxes s' cs' hs'
      exact ⟨⟨by rw [upd_ne _ _ (Nat.ne_of_lt (heap_lt hh))]; exact hl, vals', ty', xs, rest, hold _ _ hh, hx, hr'.mono he⟩, hge⟩
  · simp only [upd_at] at h1 h2 heq
    split at h1 <;> split at h2
    · rename_i e1 e2; rw [e1, e2]
    · rename_i e1 e2
      rw [if_pos e1, if_neg e2] at heq
      obtain ⟨⟨_, _, _, _, _, hh, _⟩, _⟩ := h.boxes s2 c2 h2
      have := heap_lt hh; omega
    · rename_i e1 e2
      rw [if_neg e1, if_pos e2] at heq
      obtain ⟨⟨_, _, _, _, _, hh, _⟩, _⟩ := h.boxes s1 c1 h1
      have := heap_lt hh; omega
    · rename_i e1 e2
      rw [if_neg e1, if_neg e2] at heq
      exact h.inj s1 s2 c1 c2 h1 h2 heq
  · rw [upd_ne _ _ (by have := h.below.size; omega)]
    exact h.mold.1 blk hb hy
  · obtain ⟨ρ, hrw⟩ := h.rows
    have hlt' : ∀ v sz es s', Bear E w β st (fun i => a.tmps.getD i Go.undef) v (.sl false sz es (some s')) → ρ s' < w.heap.size := fun v sz es s' hi => by
      obtain ⟨_, _, _, _, _, _, hh, _⟩ := hrw.row v sz es s' hi
      exact heap_lt hh
    refine ⟨ρ, hrw.to (fun v' sz es s' hi => hi.from (fun i hi => ?_) (fun k c j h1 h2 h3 h4 => ?_)) (fun v' sz es s' hi => ?_) (fun v' sz es s' k c hi hk => ?_)⟩
    · simp only [upd_at] at hi
      simp only [Act.put, getD_set _ _ _ _ hlt]
      split at hi
      · exact absurd hi (hus _ _ _ _)
      · rename_i e
        rw [if_neg e]
        exact .inl ⟨i, hi, rfl⟩
    · have h2 : upd st.b s (some cs) k = some c := h2
      by_cases e : k = s
      · subst e
        rw [upd_same] at h2
        cases h2
        simp only [Env.okN, h1, Bool.not_true, Bool.false_or] at hmb
        have := List.all_eq_true.1 hmb _ (List.mem_of_getElem? h3)
        cases this
      · rw [upd_ne _ _ e] at h2 h4
        obtain ⟨⟨_, vals', ty', xs, rest, hh, _, _⟩, _⟩ := h.boxes k c h2
        rw [cell_block (hB.block _ (heap_lt hh))] at h4
        exact .inr ⟨k, c, j, h1, h2, h3, h4⟩
    · obtain ⟨_, _, _, _, _, _, hh, _⟩ := hrw.row v' sz es s' hi
      exact ⟨hB.block _ (heap_lt hh), upd_ne _ _ (Nat.ne_of_lt (heap_lt hh))⟩
    · have hk : upd st.b s (some cs) k = some c := hk
      by_cases e : k = s
      · subst e
        rw [upd_same]
        have := hlt' _ _ _ _ hi
        omega
      · rw [upd_ne _ _ e] at hk ⊢
        exact hrw.box _ _ _ _ _ _ hi hk

theorem Rel.new (h : Rel E n pm m0 w0 m β st a w) {s : Nat} (hs : s < n) (hn : noPtrTo s st.t) {vals : Array Value} {ty : TypeId} {cs : List V} (hr : RdL m w vals.toList cs) (hmb : E.okN (some s) cs = true) :
    Rel E n pm m0 w0 (upd m w.heap.size (some 0)) (upd β s w.heap.size) ⟨upd st.t s (.ptr s 0), upd st.b s (some cs)⟩ (a.put (some s) (.pointer (some ⟨w.heap.size, 0, none⟩))) (w.alloc (.cells vals ty)) :=
  h.newG hs hn hr hmb (.inl ⟨rfl, rfl⟩)

theorem ev_sound (h : Rel E n pm m0 w0 m β st a w) (x : Operand) : Rs m w β (a.eval x) (ev E st x) := by
  cases x with
  | tmp t => exact h.tmps t
  | const v => exact .of (ofVal_rd v)
  | global g => exact .of (h.glob g).bare
  | func f => exact .of (.x _)

/-- Cells that lie one behind the other, as a value of a type. -/
theorem load_cells {P : Program} {blk off : Nat} {vals : List Value} {cs : List V} (hc : ∀ (k : Nat) (v : Value), vals[k]? = some v → w.cell? ⟨blk, off + k, none⟩ = some v) (hr : RdL m w vals cs)
    {t : TypeId} {u : V} (h : partV P t cs 0 = some u) : ∃ v, (Instr.loadAt t (.pointer (some ⟨blk, off, none⟩))).run P w = .ok v w ∧ Rd m w v u := by
  have hlen := hr.length
  unfold partV at h
  cases ha : aggB P t with
  | none => simp [ha] at h
  | some b =>
    cases hs : szB P t with
    | none => cases b <;> simp [ha, hs] at h
    | some k =>
      cases b with
      | true =>
        simp only [ha, hs] at h
        split at h
        · rename_i hle
          cases h
          have := run_loadCells_list (P := P) w ⟨blk, off, none⟩ (vals.take k) (fun j v hj => by
            rw [Addr_add_eq]
            rw [List.getElem?_take] at hj
            split at hj
            · exact hc j v hj
            · simp at hj)
          have hk : (vals.take k).length = k := by simp; omega
          rw [hk] at this
          refine ⟨.agg (vals.take k).toArray, ?_, Rd.agg_iff.2 ⟨_, rfl, by simpa using hr.take k⟩⟩
          simp only [Instr.loadAt, Instr.sureAddr, loadVar, Sem.run_bind, Sem.run_pure, Result.andThen_ok, run_aggB ha, if_true, run_szB hs, this]
        · simp at h
      | false =>
        simp only [ha, hs] at h
        have hlt : 0 < vals.length := by
          rcases Nat.eq_zero_or_pos vals.length with h' | h'
          · rw [hlen] at h'; simp [List.getElem?_eq_none (Nat.le_of_eq h')] at h
          · exact h'
        have hv : vals[0]? = some vals[0] := List.getElem?_eq_getElem hlt
        refine ⟨vals[0], ?_, hr.get 0 _ u hv h⟩
        have := hc 0 _ hv
        simp only [Nat.add_zero] at this
        simp only [Instr.loadAt, Instr.sureAddr, loadVar, Sem.run_bind, Sem.run_pure, Result.andThen_ok, run_aggB ha, Bool.false_eq_true, if_false, run_load, this]

theorem partV_off {P : Program} {t : TypeId} {cs : List V} {off : Nat} : partV P t cs off = partV P t (cs.drop off) 0 ∨ partV P t cs off = none := by
  unfold partV
  cases aggB P t with
  | none => simp
  | some b => cases szB P t with
    | none => cases b <;> simp
    | some k =>
      cases b
      · left; simp
      · simp only
        by_cases h : off + k ≤ cs.length
        · left; rw [if_pos h, if_pos (by simp; omega)]; simp
        · right; rw [if_neg h]

theorem Box.cell {blk : Nat} {vals : Array Value} {ty : TypeId} {fr : Nat × Nat} (hh : w.heap[blk]? = some (.cells vals ty fr)) (k : Nat) : w.cell? ⟨blk, k, none⟩ = vals[k]? := by
  simp [World.cell?, hh]

theorem _root_.Go.Proofs.Ytkacldoiimlmcaa.RdL.bareL {m : Lim} {w : World} : ∀ {vs : List Value} {us : List V}, RdL m w vs us → RdL m w vs (us.map V.bare)
  | [], [], _ => trivial
  | _ :: _, _ :: _, h => ⟨h.1.bare, RdL.bareL h.2⟩
theorem _root_.Go.Proofs.Ytkacldoiimlmcaa.RdL.pcL {m : Lim} {w : World} : ∀ {vs : List Value} {us : List V}, RdL m w vs us → RdL m w vs (us.map V.pc)
  | [], [], _ => trivial
  | _ :: _, _ :: _, h => ⟨h.1.pc, RdL.pcL h.2⟩
theorem loadV_sound (h : Rel E n pm m0 w0 m β st a w) {t : TypeId} {p : Value} {q u : V} (hp : Rs m w β p q) (hl : loadV E st.b t q = some u) :
    ∃ v, (Instr.loadAt t p).run E.P w = .ok v w ∧ Rd m w v u := by
  unfold loadV at hl
  split at hl
  · rename_i s off
    split at hl
    · rename_i cs0 hcs
      obtain rfl := hp.ptr
      · obtain ⟨⟨_, vals, ty, xs, rest, hh, hvs, hr0⟩, _⟩ := h.boxes _ _ hcs
        obtain ⟨cs, hl, hr⟩ : ∃ cs, partV E.P t cs off = some u ∧ RdL m w xs cs := by
          split at hl
          · exact ⟨_, hl, hr0.pcL⟩
          · exact ⟨_, hl, hr0⟩
        rcases partV_off (P := E.P) (t := t) (cs := cs) (off := off) with he | he
        · rw [he] at hl
          refine load_cells (vals := xs.drop off) (fun k v hk => ?_) (hr.drop off) hl
          rw [Box.cell hh, ← Array.getElem?_toList, hvs]
          rw [List.getElem?_drop] at hk
          have hlt : off + k < xs.length := by
            rcases Nat.lt_or_ge (off + k) xs.length with h' | h'
            · exact h'
            · simp [List.getElem?_eq_none h'] at hk
          rw [List.getElem?_append_left hlt]
          exact hk
        · rw [he] at hl; simp at hl
    · simp at hl
  · rename_i cs
    have hp := hp.rd (by intros; simp)
    cases hp with
    | ip blk off _ c hb hc hm hr =>
      refine load_cells (vals := (List.range cs.length).map c) (fun k v hk => ?_) (RdL.of_get (by simp) (fun k v d hk hd => ?_)) hl
      · simp only [List.getElem?_map, Option.map_eq_some_iff] at hk
        obtain ⟨i, hi, rfl⟩ := hk
        have hlt : k < cs.length := by
          rcases Nat.lt_or_ge k cs.length with h' | h'
          · exact h'
          · simp [h'] at hi
        rw [List.getElem?_range hlt] at hi
        cases hi
        exact hc k hlt
      · simp only [List.getElem?_map, Option.map_eq_some_iff] at hk
        obtain ⟨i, hi, rfl⟩ := hk
        have hlt : k < cs.length := by
          rcases Nat.lt_or_ge k cs.length with h' | h'
          · exact h'
          · simp [h'] at hi
        rw [List.getElem?_range hlt] at hi
        cases hi
        exact hr k d hd
  · simp at hl
end
end Go.Proofs.Ytkacldoiimlmcaa
