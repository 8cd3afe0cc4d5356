/- Regions that draw their order, second part: operations that nobody has put in order may be run in either order. No program is named here. -/
import Derived.Test.YtkacldoiimlmcaaPfK
namespace Go.Proofs.Ytkacldoiimlmcaa
open Go Go.RowKit

/-- What an operation is going to do. -/
inductive Deed where
  | put (u : V)
  | new (cs : List V)
  | store (s off : Nat) (us : List V)

def storeD (E : Env) (t : TypeId) (p u : V) : Option Deed :=
  match p with
  | .ptr s off => if u.dat = true ∧ u.cells.all V.cell = true ∧ szB E.P t = some u.cells.length then some (.store s off u.cells) else none
  | _ => none

noncomputable def deedV (E : Env) (ops : Array Oper) (o : Oper) (st : St) : Option Deed :=
  match guardV ops st.t o.guard with
  | some b => if b = true then
      match o.op with
      | .alloc t => (zeroB E.P t).map .new
      | .box _ x => if (ev E st x).bare.dat = true then some (.new (ev E st x).bare.cells) else none
      | .store t p x => if o.dst.isNone = true then storeD E t (ev E st p) (ev E st x).bare else none
      | op => (valV E op (ev E st) st.b).map fun u => .put (keepV op u)
    else some (.put (.x (.tuple #[])))
  | none => none

noncomputable def doV (d : Option Tmp) (st : St) : Deed → Option St
  | .put u => some (st.put d u)
  | .new cs => newV st d cs
  | .store s off us => match st.b s with
    | some cs => if off + us.length ≤ cs.length then some ⟨st.t, upd st.b s (some (cs.take off ++ us ++ cs.drop (off + us.length)))⟩ else none
    | none => none

section
variable {E : Env} {ops : Array Oper}

/-- Nothing but plain operations: no rows that are to be written, no addresses handed on, no marks in variables. -/
def _root_.Go.Proofs.Ytkacldoiimlmcaa.Env.Pl (E : Env) : Prop := (∀ d, E.own d = false) ∧ ((∀ f, E.FP f = none ∧ E.FM f = none) ∧ ∀ f lb, E.X f lb = none) ∧ (∀ s, E.MB s = false) ∧ ∀ d, E.fz d = false
theorem Pl.eff {E : Env} (h : E.Pl) (u : V) : effV E u = none := by
  unfold effV
  split
  · exact h.2.1.2 _ _
  · rfl
theorem Pl.okN (h : E.Pl) (d : Option Nat) (cs : List V) : E.okN d cs = true := by
  unfold Env.okN
  cases d with
  | none => rfl
  | some s => simp [h.2.2.1]
theorem Pl.okS (h : E.Pl) (s : Nat) (u : V) : E.okS s u = true := by simp [Env.okS, h.2.2.1]
theorem Pl.kept (h : E.Pl) (s : Nat) (u : V) : E.kept s u = u.bare := by simp [Env.kept, h.2.2.1]
theorem Pl.keepL (h : E.Pl) (p u : V) : E.keepL p u = u.bare := by
  unfold Env.keepL Env.isMB
  cases p <;> simp [h.2.2.1]
theorem Pl.exec (h : E.Pl) (o : Oper) (st : St) : execV E o st = execN E o st := by
  unfold execV
  have : E.fzO o.dst = false := by cases o.dst <;> first | rfl | exact h.2.2.2 _
  rw [this]
theorem aopV_deed (hM : E.Pl) (o : Oper) (hp : plainOp o.op = true) (st : St) : aopV E ops o st = (deedV E ops o st).bind (doV o.dst st) := by
  obtain ⟨d, op, ty, pos, af, g⟩ := o
  unfold aopV deedV
  simp only
  cases guardV ops st.t g with
  | none => rfl
  | some b =>
    cases b with
    | false => rfl
    | true =>
      simp only [if_true]
      cases op with
      | alloc t => simp only [Pl.exec hM, execN, Pl.okN hM, if_true]; cases zeroB E.P t <;> rfl
      | box t x => simp only [Pl.exec hM, execN, Pl.okN hM, and_true]; split <;> rfl
      | load t p =>
        simp only [Pl.exec hM, execN, Pl.keepL hM, valV]
        generalize np (loadV E st.b t (ev E st p)) = r
        cases r with
        | none => rfl
        | some u =>
          have : keepV (.load t p) u = u.bare := keepV_eq _ _
          simp only [Option.map_some, Option.bind_some, this]
          rfl
      | store t p x =>
        simp only [Pl.exec hM, execN]
        split
        · generalize ev E st p = q
          generalize ev E st x = u
          cases q with
          | ptr s off =>
            simp only [storeV, storeD, Pl.okS hM, Pl.kept hM, true_and]
            generalize u.bare = u
            cases hcs : st.b s with
            | none =>
              simp only
              by_cases h : u.dat = true ∧ u.cells.all V.cell = true ∧ szB E.P t = some u.cells.length
              · rw [if_pos h]; simp only [Option.bind_some, doV, hcs]
              · rw [if_neg h]; rfl
            | some cs =>
              simp only
              by_cases h : u.dat = true ∧ u.cells.all V.cell = true ∧ szB E.P t = some u.cells.length
              · rw [if_pos h]
                simp only [Option.bind_some, doV, hcs]
                by_cases h2 : off + u.cells.length ≤ cs.length
                · rw [if_pos h2, if_pos ⟨h.1, h.2.1, h.2.2, h2⟩]
                · rw [if_neg h2, if_neg (fun hh => h2 hh.2.2.2)]
              · rw [if_neg h, if_neg (fun hh => h ⟨hh.1, hh.2.1, hh.2.2.1⟩)]
                rfl
          | _ => rfl
        · rfl
      | makeMap t r => simp [plainOp] at hp
      | mapUpdate t x k v => simp [plainOp] at hp
      | lookup t x k ok => simp [plainOp] at hp
      | makeSlice t l c => simp [plainOp] at hp
      | buildSlice t l c => simp only [Pl.exec hM, execN, hM.1]; generalize valV E _ (ev E st) st.b = r; cases r <;> rfl
      | convert t1 t2 x => simp only [Pl.exec hM, execN, hM.1]; generalize valV E _ (ev E st) st.b = r; cases r <;> rfl
      | call c =>
        obtain ⟨callee, args, ts⟩ := c
        cases callee with
        | value f =>
          simp only [Pl.exec hM, execN, Pl.eff hM]
          cases hf : fnOf (ev E st f) with
          | none => simp only [valV, hf]; rfl
          | some g => simp only [(hM.2.1.1 _).1, (hM.2.1.1 _).2]; generalize valV E _ (ev E st) st.b = r; cases r <;> rfl
        | invoke r s => simp [plainOp] at hp
        | builtin b => cases b <;> first | (simp [plainOp] at hp; done) | (simp only [Pl.exec hM, execN]; generalize valV E _ (ev E st) st.b = r; cases r <;> rfl)
      | _ => simp only [Pl.exec hM, execN]; generalize valV E _ (ev E st) st.b = r; cases r <;> rfl

theorem valV_congr {op : Op} {e e' : Operand → V} {b b' : Nat → Option (List V)} (hp : plainOp op = true) (h : ∀ x ∈ op.operands.toList, e x = e' x)
    (hb : isL op = true → ∀ x ∈ op.operands.toList, ∀ s off, e x = .ptr s off → b s = b' s) : valV E op e b = valV E op e' b' := by
  cases op with
  | load t p =>
    simp only [valV]
    rw [← h p (by simp [Op.operands])]
    congr 1
    have := hb rfl p (by simp [Op.operands])
    unfold loadV
    split
    · rename_i s off hpv
      rw [this s off hpv]
    · rfl
    · rfl
  | call c =>
    obtain ⟨callee, args, ts⟩ := c
    cases callee with
    | value f =>
      simp only [valV]
      have : (args.toList.map fun x => (e x).bare) = args.toList.map fun x => (e' x).bare := List.map_congr_left (fun x hx => by rw [h x (by simp [Op.operands, Call.operands, Array.mem_toList_iff.1 hx])])
      rw [this, h f (by simp [Op.operands, Call.operands])]
    | invoke r s => exact pureV_congr (E := E) hp h
    | builtin bb => exact pureV_congr (E := E) hp h
  | buildSlice t n parts =>
    simp only [valV]
    congr 1
    refine List.map_congr_left (fun p hpm => ?_)
    rw [h p.2 (by simp only [Op.operands, List.mem_map]; exact ⟨p, hpm, rfl⟩)]
  | _ => exact pureV_congr (E := E) hp h

theorem valV_nm {op : Op} {e : Operand → V} {b : Nat → Option (List V)} (hp : plainOp op = true) {s : Nat} {u : V} (h : valV E op e b = some u) (hs : u.nm = some s) : ∃ x ∈ op.operands.toList, (e x).nm = some s := by
  cases op with
  | load t p => exact (np_nm h hs).elim
  | call c =>
    obtain ⟨callee, args, ts⟩ := c
    cases callee with
    | value f =>
      simp only [valV] at h
      split at h
      · split at h
        · split at h
          · exact (np_nm h hs).elim
          · simp at h
        · simp at h
      · simp at h
    | invoke r s => exact pureV_nm (E := E) hp h hs
    | builtin bb => exact pureV_nm (E := E) hp h hs
  | buildSlice t n parts =>
    simp only [valV, rowV] at h
    exfalso
    repeat' split at h
    all_goals (cases h <;> cases hs)
  | _ => exact pureV_nm (E := E) hp h hs

theorem keep_nm {op : Op} {u : V} {s : Nat} (h : (keepV op u).nm = some s) : u.nm = some s := by
  rw [keepV_eq] at h
  cases hm : isMv op <;> rw [hm] at h
  · simp only [cond_false, bare_eq] at h
    cases u <;> first | exact h | cases h
  · exact h

/-- Two states that an operation cannot tell apart. -/
structure Agree (ops : Array Oper) (E : Env) (o : Oper) (st st' : St) : Prop where
  t : ∀ k ∈ readsV ops o, st.t k = st'.t k
  b : isL o.op = true → ∀ x ∈ o.op.operands.toList, ∀ s off, ev E st x = .ptr s off → st.b s = st'.b s

theorem deedV_congr {o : Oper} (hp : plainOp o.op = true) {st st' : St} (h : Agree ops E o st st') : deedV E ops o st = deedV E ops o st' := by
  have hg : guardV ops st.t o.guard = guardV ops st'.t o.guard := by
    cases hgd : o.guard with
    | none => rfl
    | some g =>
      obtain ⟨j, want⟩ := g
      unfold guardV
      simp only
      split
      · rename_i d hd
        have : st.t d = st'.t d := h.t d (by simp [readsV, hgd, hd])
        rw [this]
      · rfl
  have he : ∀ x ∈ o.op.operands.toList, ev E st x = ev E st' x := fun x hx => ev_congr (fun t ht => h.t t (by
    subst ht
    simp only [readsV, List.mem_append]
    exact .inl (mem_tmpsOf.2 hx)))
  have hb := h.b
  clear h
  obtain ⟨d, op, ty, pos, af, g⟩ := o
  unfold deedV
  simp only at hg he hb hp ⊢
  rw [hg]
  cases guardV ops st'.t g with
  | none => rfl
  | some b =>
    cases b with
    | false => rfl
    | true =>
      simp only [if_true]
      cases op with
      | alloc t => rfl
      | box t x => simp only [he x (by simp [Op.operands])]
      | store t p x => simp only [he x (by simp [Op.operands]), he p (by simp [Op.operands])]
      | _ => simp only; rw [valV_congr hp he hb]

theorem upd_comm {α : Type} (f : Nat → α) {i j : Nat} (u v : α) (h : i ≠ j) : upd (upd f i u) j v = upd (upd f j v) i u := by
  funext k
  simp only [upd_at]
  by_cases h1 : k = j <;> by_cases h2 : k = i <;> simp_all

theorem put_t (st : St) (d : Option Tmp) (u : V) (k : Nat) : (st.put d u).t k = if d = some k then u else st.t k := by
  cases d with
  | none => simp [St.put]
  | some i =>
    simp only [St.put, upd_at, Option.some.injEq]
    by_cases h : k = i
    · subst h; simp
    · rw [if_neg h, if_neg (Ne.symm h)]
theorem put_b (st : St) (d : Option Tmp) (u : V) : (st.put d u).b = st.b := by cases d <;> rfl
theorem put_comm (st : St) {d1 d2 : Option Tmp} (u v : V) (h : ∀ d, d1 = some d → d2 ≠ some d) : (st.put d1 u).put d2 v = (st.put d2 v).put d1 u := by
  cases d1 with
  | none => cases d2 <;> rfl
  | some i => cases d2 with
    | none => rfl
    | some j => simp only [St.put]; rw [upd_comm _ _ _ (fun e => h i rfl (by rw [e]))]

def Deed.isNew : Deed → Bool | .new _ => true | _ => false
def Deed.isStore : Deed → Bool | .store .. => true | _ => false

/-- Two deeds at different slots, of which none stores or the other but fills a slot. -/
theorem doV_comm {st st1 st2 : St} {x y : Deed} {d1 d2 : Option Tmp} (hd : ∀ d, d1 = some d → d2 ≠ some d) (h1 : doV d1 st x = some st1) (h2 : doV d2 st1 y = some st2)
    (hs : x.isStore = true → ∃ u, y = .put u) (hs' : y.isStore = true → ∃ u, x = .put u)
    (hf : y.isNew = true → ∀ d, d2 = some d → noPtrTo d st.t) (hu : ∀ d u, d1 = some d → x.isNew = true → y = .put u → u.nm ≠ some d) :
    ∃ st1', doV d2 st y = some st1' ∧ doV d1 st1' x = some st2 := by
  cases x with
  | put u =>
    cases h1
    cases y with
    | put v => cases h2; exact ⟨_, rfl, by rw [put_comm st u v hd]; rfl⟩
    | new cs =>
      cases d2 with
      | none => simp [doV, newV] at h2
      | some s =>
        have hn := hf rfl s rfl
        simp only [doV, newV] at h2
        split at h2
        · cases h2
          refine ⟨_, by simp only [doV, newV]; rw [if_pos hn], ?_⟩
          have hne : ∀ d, d1 = some d → d ≠ s := fun d h e => hd d h (by rw [e])
          cases d1 with
          | none => rfl
          | some d => simp only [doV, St.put]; rw [upd_comm _ _ _ (hne d rfl)]
        · simp at h2
    | store s off us =>
      simp only [doV, put_b] at h2 ⊢
      split at h2
      · rename_i cs hcs
        split at h2
        · rename_i hle
          cases h2
          rw [if_pos hle]
          refine ⟨_, rfl, ?_⟩
          cases d1 <;> rfl
        · simp at h2
      · simp at h2
  | new cs =>
    cases d1 with
    | none => simp [doV, newV] at h1
    | some s =>
      simp only [doV, newV] at h1
      split at h1
      · rename_i hn
        cases h1
        cases y with
        | put v =>
          cases h2
          refine ⟨_, rfl, ?_⟩
          have hn' : noPtrTo s (st.put d2 v).t := by
            intro i
            rw [put_t]
            split
            · exact hu s v rfl rfl rfl
            · exact hn i
          simp only [doV, newV]
          rw [if_pos hn']
          cases d2 with
          | none => rfl
          | some d => simp only [St.put]; rw [upd_comm _ _ _ (fun e => hd s rfl (by rw [e]))]
        | new cs' =>
          cases d2 with
          | none => simp [doV, newV] at h2
          | some s' =>
            have hne : s ≠ s' := fun e => hd s rfl (by rw [e])
            simp only [doV, newV] at h2
            split at h2
            · cases h2
              refine ⟨_, by simp only [doV, newV]; rw [if_pos (hf rfl s' rfl)], ?_⟩
              have hn' : noPtrTo s (upd st.t s' (.ptr s' 0)) := by
                intro i
                rw [upd_at]
                split
                · intro e; cases e; exact hne rfl
                · exact hn i
              simp only [doV, newV]
              rw [if_pos hn', upd_comm _ _ _ hne, upd_comm _ _ _ hne]
            · simp at h2
        | store s' off us => obtain ⟨u, hu⟩ := hs' rfl; cases hu
      · simp at h1
  | store s off us =>
    obtain ⟨v, rfl⟩ := hs rfl
    cases h2
    refine ⟨_, rfl, ?_⟩
    simp only [doV, put_b] at h1 ⊢
    split at h1
    · rename_i cs hcs
      split at h1
      · rename_i hle
        cases h1
        rw [if_pos hle]
        cases d2 <;> rfl
      · simp at h1
    · simp at h1
end
end Go.Proofs.Ytkacldoiimlmcaa
