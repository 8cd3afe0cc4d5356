/- Regions that draw their order: one run in the text's order serves every order. No program is named here. -/
import Derived.Test.YtkacldoiimlmcaaPfH
namespace Go.Proofs.Ytkacldoiimlmcaa
open Go Go.RowKit

def tmpsOf (l : List Operand) : List Nat := l.filterMap fun | .tmp t => some t | _ => none
/-- The slots that an operation reads. -/
def readsV (ops : Array Oper) (o : Oper) : List Nat :=
  tmpsOf o.op.operands.toList ++ (match o.guard with | some (j, _) => ((ops[j]?).bind (·.dst)).toList | none => [])

def isA : Op → Bool | .alloc _ | .box .. => true | _ => false
def isS : Op → Bool | .store .. => true | _ => false
def isL : Op → Bool | .load .. => true | _ => false
/-- Operations whose operands are told by 'operands'. -/
def plainOp : Op → Bool
  | .move _ | .assign _ | .nilCheck _ | .pick .. | .alloc _ | .box .. | .build .. | .buildSlice .. | .load .. | .store .. | .binOp .. | .unOp .. | .convert .. | .fieldAddr .. | .field .. | .extract .. | .indexAddr .. | .index .. | .slice .. => true
  | .call { callee := .value _, .. } => true
  | .call { callee := .builtin .len, .. } => true
  | _ => false

/-- What makes a row grow: nothing may be run in another order with it. -/
def isG : Op → Bool
  | .call { callee := .builtin .append, .. } => true
  | _ => false

/-- Two operations that nobody has put in order may be run in either order. -/
def indepV (ops : Array Oper) (x y : Oper) : Bool :=
  (match x.dst with | some d => !(readsV ops y).contains d && (y.dst != some d) | none => true) &&
  (match y.dst with | some d => !(readsV ops x).contains d | none => true) &&
  !(isS x.op && (isS y.op || isA y.op)) && !(isS y.op && isA x.op) && !isG x.op && !isG y.op
/-- One writes a variable, the other reads one. -/
def clash (x y : Op) : Bool := isS x && isL y || isS y && isL x
/-- The slot by which memory is reached. -/
def ptrSlot : Op → Option Nat
  | .load _ (.tmp k) => some k
  | .store _ (.tmp k) _ => some k
  | _ => none

section
variable {E : Env} {ops : Array Oper}

theorem ev_congr {st st' : St} {x : Operand} (h : ∀ t, x = .tmp t → st.t t = st'.t t) : ev E st x = ev E st' x := by
  cases x with
  | tmp t => exact h t rfl
  | _ => rfl

theorem mem_tmpsOf {l : List Operand} {t : Nat} : t ∈ tmpsOf l ↔ Operand.tmp t ∈ l := by
  unfold tmpsOf
  rw [List.mem_filterMap]
  constructor
  · rintro ⟨x, hx, h⟩
    cases x <;> simp at h
    subst h; exact hx
  · intro h; exact ⟨_, h, rfl⟩

theorem pureV_congr {op : Op} {e e' : Operand → V} (hp : plainOp op = true) (h : ∀ x ∈ op.operands.toList, e x = e' x) : pureV E op e = pureV E op e' := by
  cases op with
  | move x => exact congrArg some (h x (by simp [Op.operands]))
  | assign x => exact congrArg some (h x (by simp [Op.operands]))
  | nilCheck x => simp only [pureV, h x (by simp [Op.operands])]
  | pick c x y => simp only [pureV, h c (by simp [Op.operands]), h x (by simp [Op.operands]), h y (by simp [Op.operands])]
  | binOp op t x y yt => simp only [pureV, h x (by simp [Op.operands]), h y (by simp [Op.operands])]
  | unOp op t x => cases op <;> simp only [pureV, h x (by simp [Op.operands])]
  | convert s d x => simp only [pureV, h x (by simp [Op.operands])]
  | fieldAddr t x f => simp only [pureV, h x (by simp [Op.operands])]
  | field t x f => simp only [pureV, h x (by simp [Op.operands])]
  | extract x i => simp only [pureV, h x (by simp [Op.operands])]
  | build t parts =>
    simp only [pureV]
    congr 1
    refine List.map_congr_left (fun p hpm => ?_)
    rw [h p.2 (by simp only [Op.operands, List.mem_map]; exact ⟨p, hpm, rfl⟩)]
  | indexAddr t x ix => simp only [pureV, h x (by simp [Op.operands]), h ix (by simp [Op.operands])]
  | index t x ix => simp only [pureV, h x (by simp [Op.operands]), h ix (by simp [Op.operands])]
  | slice t x lo hi mx =>
    have hb : ∀ d, boundV e d lo = boundV e' d lo := fun d => by
      cases lo with
      | none => rfl
      | some y => simp only [boundV, h y (by simp [Op.operands])]
    have hb' : ∀ d, boundV e d hi = boundV e' d hi := fun d => by
      cases hi with
      | none => rfl
      | some y => simp only [boundV, h y (by simp [Op.operands])]
    cases mx with
    | none => simp only [pureV, h x (by simp [Op.operands]), hb, hb']
    | some y => rfl
  | load t x => rfl
  | buildSlice t n p => rfl
  | store t x y => rfl
  | alloc t => rfl
  | box t x => rfl
  | call c =>
    obtain ⟨callee, args, ts⟩ := c
    cases callee with
    | value f => rfl
    | invoke r s => rfl
    | builtin b =>
      cases b <;> first | (simp [plainOp] at hp; done) | skip
      simp only [pureV]
      split
      · rename_i x t hx ht
        have : e x = e' x := h x (by simp [Op.operands, Call.operands, hx])
        rw [this]
      · rfl
  | _ => simp [plainOp] at hp

theorem np_nm {r : Option V} {u : V} {s : Nat} (h : np r = some u) (hs : u.nm = some s) : False := by
  have := (np_some h).2
  cases u <;> first | (simp [V.notPtr] at this; done) | cases hs
theorem pureV_nm {op : Op} {e : Operand → V} (hp : plainOp op = true) {s : Nat} {u : V} (h : pureV E op e = some u) (hs : u.nm = some s) : ∃ x ∈ op.operands.toList, (e x).nm = some s := by
  cases op with
  | move x => exact ⟨x, by simp [Op.operands], by cases h; exact hs⟩
  | assign x => exact ⟨x, by simp [Op.operands], by cases h; exact hs⟩
  | nilCheck x =>
    simp only [pureV] at h
    split at h
    · rename_i hx
      cases h
      exact ⟨x, by simp [Op.operands], by rw [hx]; exact hs⟩
    · cases h; cases hs
    · cases h
  | pick c x y =>
    simp only [pureV] at h
    split at h
    · rename_i t ht
      have h := Option.some.inj h
      subst h
      cases t
      · refine ⟨y, by simp [Op.operands], ?_⟩
        unfold iteV at hs
        split at hs
        · cases hs
        · simpa using hs
      · refine ⟨x, by simp [Op.operands], ?_⟩
        unfold iteV at hs
        split at hs
        · cases hs
        · simpa using hs
    · simp at h
  | fieldAddr t x f =>
    simp only [pureV] at h
    repeat' split at h
    all_goals first
      | (cases h; done)
      | (cases h; cases hs; done)
      | skip
    rename_i hx
    cases h
    exact ⟨x, by simp [Op.operands], by rw [hx]; exact hs⟩
  | extract x i =>
    simp only [pureV] at h
    split at h
    · exact (np_nm h hs).elim
    · simp at h
  | field t x f =>
    simp only [pureV] at h
    split at h
    · obtain ⟨fd, _, h⟩ := Option.bind_eq_some_iff.1 h
      exact (np_nm h hs).elim
    · simp at h
  | binOp op t x y yt =>
    simp only [pureV, binV] at h
    exfalso
    split at h
    · split at h
      · split at h <;> cases h <;> cases hs
      · split at h <;> cases h <;> cases hs
      · split at h
        · simp only [intV] at h
          split at h <;> (try split at h) <;> cases h <;> cases hs
        · simp at h
    · simp only [strV, catV] at h
      split at h <;> (try split at h) <;> cases h <;> cases hs
    · split at h <;> cases h <;> cases hs
    · split at h
      · simp at h
      · split at h <;> cases h <;> cases hs
    · split at h <;> (try split at h) <;> cases h <;> cases hs
    · split at h <;> cases h <;> cases hs
    · split at h <;> cases h <;> cases hs
    · split at h <;> cases h <;> cases hs
    · split at h <;> (try split at h) <;> cases h <;> cases hs
    · simp at h
  | unOp op t x => cases op <;> simp only [pureV] at h <;> (try split at h) <;> cases h <;> cases hs
  | convert s d x =>
    simp only [pureV] at h
    exfalso
    repeat' split at h
    all_goals (cases h <;> cases hs)
  | buildSlice t n p => simp [pureV] at h
  | build t parts =>
    simp only [pureV, buildV] at h
    exfalso
    repeat' split at h
    all_goals (cases h <;> cases hs)
  | indexAddr t x ix =>
    simp only [pureV] at h
    split at h
    · split at h
      · obtain ⟨v, _, rfl⟩ := Option.map_eq_some_iff.1 h
        cases hs
      · cases h
    · rename_i hx _
      split at h
      · cases h
        exact ⟨x, by simp [Op.operands], by rw [hx]; exact hs⟩
      · cases h
    · cases h
  | index t x ix =>
    simp only [pureV] at h
    exfalso
    repeat' split at h
    all_goals (cases h <;> cases hs)
  | slice t x lo hi mx =>
    cases mx with
    | none =>
      simp only [pureV] at h
      split at h
      · exfalso
        repeat' split at h
        all_goals (cases h <;> cases hs)
      · exfalso
        repeat' split at h
        all_goals (cases h <;> cases hs)
      · rename_i hx
        split at h
        · split at h
          · cases h
            exact ⟨x, by simp [Op.operands], by rw [hx]; exact hs⟩
          · cases h
        · cases h
      · cases h
    | some y => simp [pureV] at h
  | load t x => simp [pureV] at h
  | store t x y => simp [pureV] at h
  | alloc t => simp [pureV] at h
  | box t x => simp [pureV] at h
  | call c =>
    obtain ⟨callee, args, ts⟩ := c
    cases callee with
    | value f => simp [pureV] at h
    | invoke r s => simp [pureV] at h
    | builtin b =>
      exfalso
      cases b <;> first | (simp [plainOp] at hp; done) | skip
      simp only [pureV] at h
      repeat' split at h
      all_goals (cases h <;> cases hs)
  | _ => simp [plainOp] at hp
end
end Go.Proofs.Ytkacldoiimlmcaa
