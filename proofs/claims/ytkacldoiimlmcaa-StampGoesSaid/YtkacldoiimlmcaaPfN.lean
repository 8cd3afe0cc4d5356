/- Regions that draw their order, last part: the rule. No program is named here. -/
import Derived.Test.YtkacldoiimlmcaaPfM
namespace Go.Proofs.Ytkacldoiimlmcaa
open Go Go.RowKit

def directV (o : Oper) : List Nat := (o.after.toList.filter (Region.binds .any)).map (·.on)
/-- Numbers as a mask: so that the kernel reckons with them at once. -/
def maskOf : List Nat → Nat
  | [] => 0
  | k :: l => 2 ^ k ||| maskOf l
/-- All that must run ahead, by the masks of those that stand ahead in the text. -/
def ancMask (M : List Nat) : List Nat → Nat
  | [] => 0
  | k :: l => (2 ^ k ||| M.getD k 0) ||| ancMask M l
def ancGo (acc : List Nat) : List Oper → List Nat
  | [] => acc
  | o :: l => ancGo (acc ++ [ancMask acc (directV o)]) l
structure OpI where
  d : Option Nat
  r : Nat
  s : Bool
  l : Bool
  a : Bool
  g : Bool
  p : Option Nat
def infoOf (ops : Array Oper) (o : Oper) : OpI := ⟨o.dst, maskOf (readsV ops o), isS o.op, isL o.op, isA o.op, isG o.op, ptrSlot o.op⟩
def hits (d : Option Nat) (r : Nat) : Bool := match d with
  | some d => r.testBit d
  | none => false
def sameD (d e : Option Nat) : Bool := match d, e with
  | some d, some e => d == e
  | _, _ => false
def indepI (x y : OpI) : Bool := !hits x.d y.r && !sameD x.d y.d && !hits y.d x.r && !(x.s && (y.s || y.a)) && !(y.s && x.a) && !x.g && !y.g
def ancOK (M : List Nat) (i : Nat) (o : Oper) : Bool := (directV o).all (fun k => decide (k < i)) && Nat.beq (M.getD i 0) (ancMask M (directV o))
def pairOK (I : List OpI) (m i : Nat) (y : OpI) : Bool :=
  I.zipIdx.all fun (x, j) => (Nat.ble i j || m.testBit j || (indepI x y && (!(x.s && y.l || y.s && x.l) || I.all fun z => !z.g))) && (Nat.beq j i || !y.a || !sameD x.d y.d) && (!Nat.ble i j || !sameD x.d y.p)
def allOK (M : List Nat) (I : List OpI) : List Oper → List OpI → Nat → Bool
  | o :: l, y :: J, i => (plainOp o.op || isG o.op) && ancOK M i o && (o.dst.isSome || !isA o.op) && pairOK I (M.getD i 0) i y && allOK M I l J (i + 1)
  | _, _, _ => true
/-- Do the orders that are left open not matter? -/
def drawOK (ops : Array Oper) : Bool := allOK (ancGo [] ops.toList) (ops.toList.map (infoOf ops)) ops.toList (ops.toList.map (infoOf ops)) 0

/-- What that check says. -/
structure DrawP (ops : Array Oper) (A : Nat → Nat → Bool) : Prop where
  lt : ∀ (i : Nat) (o : Oper), ops[i]? = some o → ∀ k ∈ directV o, k < i
  anc : ∀ (i : Nat) (o : Oper) (j : Nat), ops[i]? = some o → A i j = true → j ∈ directV o ∨ ∃ k ∈ directV o, A k j = true
  plain : ∀ (i : Nat) (o : Oper), ops[i]? = some o → (plainOp o.op || isG o.op) = true
  pair : ∀ (i : Nat) (o : Oper) (j : Nat) (x : Oper), ops[i]? = some o → ops[j]? = some x → i ≤ j ∨ A i j = true ∨ (indepV ops x o = true ∧ (clash x.op o.op = true → ∀ (k : Nat) (y : Oper), ops[k]? = some y → isG y.op = false))
  late : ∀ (i : Nat) (o : Oper) (j : Nat) (x : Oper), ops[i]? = some o → ops[j]? = some x → i ≤ j → ∀ k, ptrSlot o.op = some k → x.dst ≠ some k
  dst : ∀ (i : Nat) (o : Oper) (j : Nat) (x : Oper), ops[i]? = some o → ops[j]? = some x → j ≠ i → isA o.op = true → x.dst ≠ o.dst

theorem testBit_two (k j : Nat) : (2 ^ k).testBit j = decide (k = j) := Nat.testBit_two_pow
theorem testBit_maskOf (l : List Nat) (j : Nat) : (maskOf l).testBit j = l.contains j := by
  induction l with
  | nil => simp [maskOf]
  | cons k l ih =>
    simp only [maskOf, Nat.testBit_or, ih, testBit_two, List.contains_cons]
    congr 1
    rw [Bool.eq_iff_iff]
    simp only [decide_eq_true_eq, beq_iff_eq]
    exact eq_comm
theorem testBit_anc (M : List Nat) (l : List Nat) (j : Nat) : (ancMask M l).testBit j = true → j ∈ l ∨ ∃ k ∈ l, (M.getD k 0).testBit j = true := by
  induction l with
  | nil => simp [ancMask]
  | cons k l ih =>
    simp only [ancMask, Nat.testBit_or, testBit_two, Bool.or_eq_true, decide_eq_true_eq]
    rintro ((h | h) | h)
    · exact .inl (by simp [h])
    · exact .inr ⟨k, by simp, h⟩
    · rcases ih h with h | ⟨k', hk, h⟩
      · exact .inl (by simp [h])
      · exact .inr ⟨k', by simp [hk], h⟩
theorem hits_mask (d : Option Nat) (l : List Nat) : hits d (maskOf l) = match d with | some d => l.contains d | none => false := by
  cases d with
  | none => rfl
  | some d => exact testBit_maskOf l d
theorem indepI_eq {ops : Array Oper} {x y : Oper} (h : indepI (infoOf ops x) (infoOf ops y) = true) : indepV ops x y = true := by
  simp only [indepI, infoOf, hits_mask, Bool.and_eq_true, Bool.not_eq_true'] at h
  obtain ⟨⟨⟨⟨⟨⟨h1, h2⟩, h3⟩, h4⟩, h5⟩, h6⟩, h7⟩ := h
  simp only [indepV, Bool.and_eq_true, Bool.not_eq_true']
  refine ⟨⟨⟨⟨⟨?_, ?_⟩, h4⟩, h5⟩, h6⟩, h7⟩
  · cases hx : x.dst with
    | none => rfl
    | some d =>
      rw [hx] at h1 h2
      simp only at h1 ⊢
      rw [h1]
      cases hy : y.dst with
      | none => rfl
      | some e =>
        rw [hy] at h2
        simp only [sameD, beq_eq_false_iff_ne, ne_eq] at h2
        simp [Ne.symm h2]
  · cases hy : y.dst with
    | none => rfl
    | some d =>
      rw [hy] at h3
      simp only at h3 ⊢
      rw [h3]
      rfl
theorem allOK_at {M : List Nat} {I : List OpI} {ops : Array Oper} : ∀ (l : List Oper) (k i : Nat) (o : Oper), allOK M I l (l.map (infoOf ops)) k = true → l[i]? = some o →
    (plainOp o.op || isG o.op) = true ∧ ancOK M (k + i) o = true ∧ (o.dst.isSome || !isA o.op) = true ∧ pairOK I (M.getD (k + i) 0) (k + i) (infoOf ops o) = true
  | [], _, _, _, _, h => by simp at h
  | o :: l, k, i, x, h, hi => by
    simp only [List.map_cons, allOK, Bool.and_eq_true] at h
    obtain ⟨⟨⟨⟨h1, h2⟩, h3⟩, h4⟩, h5⟩ := h
    cases i with
    | zero => simp at hi; subst hi; exact ⟨h1, h2, h3, h4⟩
    | succ i =>
      have := allOK_at l (k + 1) i x h5 (by simpa using hi)
      rwa [show k + 1 + i = k + (i + 1) from by omega] at this
theorem draw_of {ops : Array Oper} (h : drawOK ops = true) : DrawP ops (fun i j => ((ancGo [] ops.toList).getD i 0).testBit j) := by
  have key : ∀ (i : Nat) (o : Oper), ops[i]? = some o → _ := fun i o hi => allOK_at (M := ancGo [] ops.toList) (I := ops.toList.map (infoOf ops)) (ops := ops) ops.toList 0 i o h (by simpa using hi)
  simp only [Nat.zero_add] at key
  have pairs : ∀ (i : Nat) (o : Oper) (j : Nat) (x : Oper), ops[i]? = some o → ops[j]? = some x → ((Nat.ble i j || ((ancGo [] ops.toList).getD i 0).testBit j || (indepI (infoOf ops x) (infoOf ops o) && (!((infoOf ops x).s && (infoOf ops o).l || (infoOf ops o).s && (infoOf ops x).l) || (ops.toList.map (infoOf ops)).all fun z => !z.g))) && (Nat.beq j i || !(infoOf ops o).a || !sameD (infoOf ops x).d (infoOf ops o).d) && (!Nat.ble i j || !sameD (infoOf ops x).d (infoOf ops o).p)) = true := by
    intro i o j x hi hj
    have h4 := (key i o hi).2.2.2
    have hm : (infoOf ops x, j) ∈ (ops.toList.map (infoOf ops)).zipIdx := by
      rw [List.mem_zipIdx_iff_getElem?]
      simp [hj]
    exact List.all_eq_true.1 h4 _ hm
  refine ⟨fun i o hi k hk => ?_, fun i o j hi hA => ?_, fun i o hi => (key i o hi).1, fun i o j x hi hj => ?_, fun i o j x hi hj hle k hk => ?_, fun i o j x hi hj hne hA => ?_⟩
  · have h2 := (key i o hi).2.1
    simp only [ancOK, Bool.and_eq_true] at h2
    simpa using List.all_eq_true.1 h2.1 k hk
  · have h2 := (key i o hi).2.1
    simp only [ancOK, Bool.and_eq_true] at h2
    have he := Nat.eq_of_beq_eq_true h2.2
    rw [he] at hA
    exact testBit_anc _ _ _ hA
  · have h4 := pairs i o j x hi hj
    simp only [Bool.and_eq_true, Bool.or_eq_true] at h4
    rcases h4.1.1 with (h1 | h1) | h1
    · exact .inl (Nat.le_of_ble_eq_true h1)
    · exact .inr (.inl h1)
    · refine .inr (.inr ⟨indepI_eq h1.1, fun hc k y hk => ?_⟩)
      rcases h1.2 with h2 | h2
      · have hc : ((infoOf ops x).s && (infoOf ops o).l || (infoOf ops o).s && (infoOf ops x).l) = true := hc
        rw [hc] at h2
        cases h2
      · have hm : infoOf ops y ∈ ops.toList.map (infoOf ops) := List.mem_map.2 ⟨y, List.mem_of_getElem? (by simpa using hk : ops.toList[k]? = some y), rfl⟩
        have := List.all_eq_true.1 h2 _ hm
        simpa [infoOf] using this
  · have h4 := pairs i o j x hi hj
    simp only [Bool.and_eq_true, Bool.or_eq_true] at h4
    rcases h4.2 with h1 | h1
    · rw [Nat.ble_eq_true_of_le hle] at h1
      cases h1
    · intro e
      simp [infoOf, sameD, e, hk] at h1
  · have h4 := pairs i o j x hi hj
    simp only [Bool.and_eq_true, Bool.or_eq_true] at h4
    rcases h4.1.2 with (h1 | h1) | h1
    · exact absurd (Nat.eq_of_beq_eq_true h1) hne
    · simp [infoOf, hA] at h1
    · intro e
      have hs := (key i o hi).2.2.1
      simp only [hA, Bool.not_true, Bool.or_false] at hs
      obtain ⟨d, hd⟩ := Option.isSome_iff_exists.1 hs
      rw [hd] at e
      simp [infoOf, sameD, e, hd] at h1

/-- Two values that name no variable together. -/
def nmNe (u v : V) : Prop := ∀ s, u.nm = some s → v.nm ≠ some s
theorem nmNe_pp (s o s' o' : Nat) : nmNe (.ptr s o) (.ptr s' o') = ¬ s = s' := by simp [nmNe, eq_comm]
theorem nmNe_ip (u : V) (cs : List V) : nmNe u (.ip cs) = True := by simp [nmNe]
/-- What one writes, no other reads that may be run ahead of it or behind it. -/
def apL (x : Oper) (j k : Nat) (t : Nat → V) : Nat → List Oper → Prop
  | _, [] => True
  | i, y :: l => (match y.op with
    | .load _ (.tmp q) => if ((directV x).contains i || (directV y).contains j) = true then True else nmNe (t k) (t q)
    | _ => True) ∧ apL x j k t (i + 1) l
def apartL (all : List Oper) (t : Nat → V) : Nat → List Oper → Prop
  | _, [] => True
  | j, x :: l => (match x.op with
    | .store _ (.tmp k) _ => apL x j k t 0 all
    | _ => True) ∧ apartL all t (j + 1) l
def apartF (l : List Oper) (t : Nat → V) : Prop := apartL l t 0 l
theorem apL_at {x : Oper} {j k : Nat} {t : Nat → V} : ∀ (l : List Oper) (i0 i : Nat) (y : Oper), apL x j k t i0 l → l[i]? = some y → ∀ (ty : TypeId) (q : Tmp), y.op = .load ty (.tmp q) → (i0 + i) ∉ directV x → j ∉ directV y → nmNe (t k) (t q)
  | [], _, _, _, _, hi => by simp at hi
  | z :: l, i0, i, y, h, hi => by
    intro ty q hy h1 h2
    obtain ⟨ha, hb⟩ := h
    cases i with
    | zero =>
      simp only [List.getElem?_cons_zero, Option.some.injEq] at hi
      subst hi
      rw [hy] at ha
      simp only at ha
      rw [if_neg (by simp only [Bool.or_eq_true, List.contains_iff_mem, not_or]; exact ⟨h1, h2⟩)] at ha
      exact ha
    | succ i => exact apL_at l (i0 + 1) i y hb (by simpa using hi) ty q hy (by rw [show i0 + 1 + i = i0 + (i + 1) from by omega]; exact h1) h2
theorem apartL_at {all : List Oper} {t : Nat → V} : ∀ (l : List Oper) (j0 j : Nat) (x : Oper), apartL all t j0 l → l[j]? = some x → ∀ (ty : TypeId) (k : Tmp) (u : Operand), x.op = .store ty (.tmp k) u → apL x (j0 + j) k t 0 all
  | [], _, _, _, _, hj => by simp at hj
  | z :: l, j0, j, x, h, hj => by
    intro ty k u hx
    obtain ⟨ha, hb⟩ := h
    cases j with
    | zero =>
      simp only [List.getElem?_cons_zero, Option.some.injEq] at hj
      subst hj
      rw [hx] at ha
      exact ha
    | succ j => have := apartL_at l (j0 + 1) j x hb (by simpa using hj) ty k u hx; rwa [show j0 + 1 + j = j0 + (j + 1) from by omega] at this
theorem apart_at {l : List Oper} {t : Nat → V} (h : apartF l t) {i j : Nat} {x y : Oper} (hj : l[j]? = some x) (hi : l[i]? = some y) {ty ty' : TypeId} {k q : Tmp} {u : Operand} (hx : x.op = .store ty (.tmp k) u) (hy : y.op = .load ty' (.tmp q)) (h1 : i ∉ directV x) (h2 : j ∉ directV y) : nmNe (t k) (t q) := by
  have := apL_at l 0 i y (by have := apartL_at l 0 j x h hj ty k u hx; rwa [Nat.zero_add] at this) hi ty' q hy (by rwa [Nat.zero_add]) h2
  exact this

/-- The new variables of a region, none of which anybody names. -/
def freshL : List Oper → (Nat → V) → Prop
  | [], _ => True
  | o :: l, t => match isA o.op, o.dst with
    | true, some d => noPtrTo d t ∧ freshL l t
    | _, _ => freshL l t

noncomputable def aopsI (E : Env) (ops : Array Oper) : List Nat → St → Option St
  | [], st => some st
  | i :: l, st => match ops[i]? with
    | some o => match aopV E ops o st with
      | some st' => aopsI E ops l st'
      | none => none
    | none => none

section
variable {E : Env} {ops : Array Oper} {n : Nat} {pm : Pm} {m0 m : Lim} {w0 w : World} {β : Nat → Nat} {st : St} {a : Act}

theorem aopsI_range : ∀ (l : List Oper) (k : Nat) (st : St), (∀ j : Nat, ops[k + j]? = l[j]? ∨ l.length ≤ j) → aopsV E ops l st = aopsI E ops (List.range' k l.length) st
  | [], _, _, _ => rfl
  | o :: l, k, st, h => by
    have h0 : ops[k]? = some o := by
      rcases h 0 with h | h
      · simpa using h
      · simp at h
    simp only [List.length_cons, List.range'_succ, aopsV, aopsI, h0]
    cases aopV E ops o st with
    | none => rfl
    | some st' =>
      refine aopsI_range l (k + 1) _ (fun j => ?_)
      rcases h (j + 1) with h | h
      · left; rw [show k + 1 + j = k + (j + 1) from by omega, h]; simp
      · right; simpa using h

theorem fresh_step1 (hM : E.Pl) (hG : ∀ g, (E.G g).nm = none) {x : Oper} (hx : plainOp x.op = true) {d : Nat} (hd : x.dst ≠ some d) {st st1 : St} (hf : noPtrTo d st.t) (h : aopV E ops x st = some st1) : noPtrTo d st1.t := by
  rw [aopV_deed hM _ hx] at h
  obtain ⟨a, ha, hda⟩ := Option.bind_eq_some_iff.1 h
  cases a with
  | put u =>
    cases hda
    intro i
    rw [put_t]
    split
    · intro hu
      obtain ⟨k, hk⟩ := deedV_nm hG hx ha hu
      exact hf k hk
    · exact hf i
  | new cs =>
    cases hdst : x.dst with
    | none => simp [hdst, doV, newV] at hda
    | some s =>
      simp only [hdst, doV, newV] at hda
      split at hda
      · cases hda
        intro i
        simp only [upd_at]
        split
        · intro e; cases e; exact hd hdst
        · exact hf i
      · simp at hda
  | store s off us =>
    simp only [doV] at hda
    split at hda
    · split at hda
      · cases hda; exact hf
      · simp at hda
    · simp at hda

theorem strip_nm (k : Nat) (t : Nat → V) (i : Nat) : (strip k t i).nm = (t i).nm := by
  unfold strip
  rw [stripV_eq]
  generalize t i = v
  cases v <;> try rfl
  rename_i tok
  cases tok <;> rfl
theorem stripO_nm (k : Option Nat) (t : Nat → V) (i : Nat) : (stripO k t i).nm = (t i).nm := by
  cases k with
  | none => rfl
  | some k => exact strip_nm k t i
theorem kill_nm (k : Nat) (t : Nat → V) (i d : Nat) (h : (t i).nm ≠ some d) : (kill k t i).nm ≠ some d := by
  unfold kill
  rcases killV_nm k (t i) with ⟨e, _⟩ | ⟨e, _⟩
  · rw [e]; exact h
  · rw [e]; simp
theorem fresh_grow {d el : Nat} {dst : Option Tmp} {x y : V} {st st1 : St} (hd : dst ≠ some d) (hf : noPtrTo d st.t) (h : growV E st dst el x y = some st1) : noPtrTo d st1.t := by
  unfold growV at h
  split at h
  · rename_i k n by' z _ _ _
    have hne : k ≠ d := fun e => hd (by rw [e])
    split at h
    · split at h
      · cases h
        intro i
        simp only [upd_at]
        split
        · simp
        · rw [stripO_nm, strip_nm]; exact hf i
      · cases h
    · split at h
      · cases h
        intro i
        simp only [upd_at]
        split
        · simp
        · simp only [strip_nm]; exact hf i
      · cases h
    · split at h
      · split at h
        · cases h
          intro i
          simp only [upd_at]
          split
          · simp [hne]
          · exact kill_nm _ _ _ _ (kill_nm _ _ _ _ (hf i))
        · cases h
      · cases h
    · cases h
  · cases h
theorem fresh_step (hM : E.Pl) (hG : ∀ g, (E.G g).nm = none) {x : Oper} (hx : (plainOp x.op || isG x.op) = true) {d : Nat} (hd : x.dst ≠ some d) {st st1 : St} (hf : noPtrTo d st.t) (h : aopV E ops x st = some st1) : noPtrTo d st1.t := by
  rw [Bool.or_eq_true] at hx
  rcases hx with hx | hx
  · exact fresh_step1 hM hG hx hd hf h
  · obtain ⟨ds, op, ty, pos, af, g⟩ := x
    unfold aopV at h
    split at h
    · rename_i b _
      cases b with
      | false =>
        simp only [Bool.false_eq_true, if_false] at h
        cases h
        intro i
        rw [put_t]
        split
        · simp
        · exact hf i
      | true =>
        simp only [if_true] at h
        simp only at hx hd
        cases op with
        | call c =>
          obtain ⟨callee, args, ts⟩ := c
          cases callee with
          | builtin b =>
            cases b <;> first | (simp [isG] at hx; done) | skip
            rw [Pl.exec hM] at h
            simp only [execN] at h
            split at h
            · split at h
              · exact fresh_grow hd hf h
              · split at h
                · exact fresh_grow hd hf h
                · cases h
              · cases h
            · cases h
          | _ => simp [isG] at hx
        | _ => simp [isG] at hx
    · cases h

/-- What nobody writes stays. -/
theorem keep_run (hM : E.Pl) {k : Nat} {fin : St} : ∀ (is : List Nat) (st : St), aopsI E ops is st = some fin → (∀ j ∈ is, ∀ x, ops[j]? = some x → plainOp x.op = true ∧ x.dst ≠ some k) → fin.t k = st.t k
  | [], st, h, _ => by cases h; rfl
  | j :: is, st, h, hp => by
    simp only [aopsI] at h
    split at h
    · rename_i x hx
      split at h
      · rename_i st1 h1
        obtain ⟨hpx, hd⟩ := hp j (by simp) x hx
        rw [keep_run hM is st1 h (fun i hi => hp i (by simp [hi]))]
        rw [aopV_deed hM _ hpx] at h1
        obtain ⟨a, ha, hda⟩ := Option.bind_eq_some_iff.1 h1
        cases a with
        | put u =>
          cases hda
          rw [put_t, if_neg hd]
        | new cs =>
          cases hdst : x.dst with
          | none => simp [hdst, doV, newV] at hda
          | some s =>
            simp only [hdst, doV, newV] at hda
            split at hda
            · cases hda
              simp only
              rw [upd_ne _ _ (fun e => hd (by rw [hdst, e]))]
            · simp at hda
        | store s off us =>
          simp only [doV] at hda
          split at hda
          · split at hda
            · cases hda; rfl
            · simp at hda
          · simp at hda
      · simp at h
    · simp at h
theorem store_is {o : Oper} {st : St} {s off : Nat} {us : List V} (h : deedV E ops o st = some (.store s off us)) : ∃ ty p u, o.op = .store ty p u ∧ o.dst = none ∧ ev E st p = .ptr s off := by
  have hS := deedV_store h
  obtain ⟨d, op, ty, pos, af, g⟩ := o
  unfold deedV at h
  simp only at h hS
  cases hg : guardV ops st.t g with
  | none => simp [hg] at h
  | some b =>
    rw [hg] at h
    cases b with
    | false => simp at h
    | true =>
      simp only [if_true] at h
      cases op <;> first | (simp [isS] at hS; done) | skip
      rename_i t p u
      simp only at h
      split at h
      · rename_i hd
        unfold storeD at h
        split at h
        · rename_i s' off' hp
          split at h
          · cases h
            exact ⟨t, p, u, rfl, by simpa using hd, hp⟩
          · cases h
        · cases h
      · cases h
theorem load_is {o : Oper} (h : isL o.op = true) : ∃ ty q, o.op = .load ty q := by
  obtain ⟨d, op, ty, pos, af, g⟩ := o
  cases op <;> first | (simp [isL] at h; done) | exact ⟨_, _, rfl⟩
/-- Of two operations that are next, one that writes a variable and one that reads one: not the same. -/
theorem apart_now (hM : E.Pl) (hG : ∀ g, (E.G g).nm = none) {fin st : St} (hap : apartF ops.toList fin.t) {i j : Nat} {x o : Oper} (hj : ops[j]? = some x) (hi : ops[i]? = some o) {is : List Nat} (hrun : aopsI E ops is st = some fin)
    (hplain : ∀ k ∈ is, ∀ y, ops[k]? = some y → plainOp y.op = true) (hx : ∀ k ∈ is, ∀ y, ops[k]? = some y → ∀ q, ptrSlot x.op = some q → y.dst ≠ some q) (ho : ∀ k ∈ is, ∀ y, ops[k]? = some y → ∀ q, ptrSlot o.op = some q → y.dst ≠ some q)
    (h1 : i ∉ directV x) (h2 : j ∉ directV o) : ∀ s off us, deedV E ops x st = some (.store s off us) → isL o.op = true → ∀ z ∈ o.op.operands.toList, ∀ o', ev E st z ≠ .ptr s o' := by
  intro s off us hd hl z hz o' hzv
  obtain ⟨ty, p, u, hxo, _, hp⟩ := store_is hd
  obtain ⟨ty', q, hoo⟩ := load_is hl
  obtain ⟨k, rfl, hk⟩ := ev_nm hG (show (ev E st p).nm = some s by rw [hp]; rfl)
  have hzq : z = q := by simpa [hoo, Op.operands] using hz
  subst hzq
  obtain ⟨k', rfl, hk'⟩ := ev_nm hG (show (ev E st z).nm = some s by rw [hzv]; rfl)
  have e1 : fin.t k = st.t k := keep_run hM is st hrun (fun m hm y hy => ⟨hplain m hm y hy, hx m hm y hy k (by rw [hxo]; rfl)⟩)
  have e2 : fin.t k' = st.t k' := keep_run hM is st hrun (fun m hm y hy => ⟨hplain m hm y hy, ho m hm y hy k' (by rw [hoo]; rfl)⟩)
  have := apart_at hap (by simpa using hj) (by simpa using hi) hxo hoo h1 h2
  rw [e1, e2] at this
  exact this s hk hk'

/-- An operation is run ahead of those that stand before it in the text. -/
theorem pullV (hM : E.Pl) (hG : ∀ g, (E.G g).nm = none) {A : Nat → Nat → Bool} (hD : DrawP ops A) {i : Nat} {o : Oper} (hi : ops[i]? = some o) {post : List Nat} {fin : St} (hap : apartF ops.toList fin.t) (hpost : ∀ j ∈ post, i < j) : ∀ (pre : List Nat) (st : St), (pre ++ i :: post).Pairwise (· < ·) →
    (∀ j ∈ pre, ∀ x, ops[j]? = some x → (plainOp x.op = true ∧ plainOp o.op = true) ∧ (indepV ops x o = true ∧ j ∉ directV o ∧ (clash x.op o.op = true → ∀ (k : Nat) (y : Oper), ops[k]? = some y → isG y.op = false)) ∧ (isA o.op = true → x.dst ≠ o.dst)) → (isA o.op = true → ∀ d, o.dst = some d → noPtrTo d st.t) →
    aopsI E ops (pre ++ i :: post) st = some fin → ∃ st', aopV E ops o st = some st' ∧ aopsI E ops (pre ++ post) st' = some fin
  | [], st, _, _, _, h => by
    simp only [List.nil_append, aopsI, hi] at h ⊢
    split at h
    · rename_i st' hst; exact ⟨st', hst, h⟩
    · simp at h
  | j :: pre, st, hsort, hp, hf, h => by
    have hfull := h
    simp only [List.cons_append, aopsI] at h
    split at h
    · rename_i x hx
      split at h
      · rename_i st1 h1
        obtain ⟨⟨hpx, ho⟩, ⟨hix, hjo, hcl⟩, hdx⟩ := hp j (by simp) x hx
        have hsort' : (pre ++ i :: post).Pairwise (· < ·) := (List.pairwise_cons.1 hsort).2
        have hjall : ∀ k ∈ pre ++ i :: post, j < k := (List.pairwise_cons.1 hsort).1
        have hji : j < i := hjall i (by simp)
        have hno : isS x.op = true ∨ isS o.op = true → clash x.op o.op = true → ∀ k ∈ j :: pre ++ i :: post, ∀ y, ops[k]? = some y → plainOp y.op = true ∧ (∀ q, ptrSlot x.op = some q → y.dst ≠ some q) ∧ ∀ q, ptrSlot o.op = some q → y.dst ≠ some q := by
          intro _ hc k hk y hy
          have hg := hcl hc k y hy
          have hpl := hD.plain k y hy
          rw [hg, Bool.or_false] at hpl
          refine ⟨hpl, fun q hq => ?_, fun q hq => ?_⟩
          · rcases List.mem_cons.1 hk with rfl | hk
            · exact hD.late k x k y hx hy (Nat.le_refl _) q hq
            · exact hD.late j x k y hx hy (Nat.le_of_lt (hjall k hk)) q hq
          · by_cases hki : k < i
            · have hkm : k ∈ j :: pre := by
                rcases List.mem_append.1 hk with hk | hk
                · exact hk
                · rcases List.mem_cons.1 hk with rfl | hk
                  · exact absurd hki (Nat.lt_irrefl _)
                  · have := hpost k hk; omega
              have hind := (hp k hkm y hy).2.1.1
              intro e
              simp only [indepV, e, Bool.and_eq_true] at hind
              have hr := hind.1.1.1.1.1
              simp only [Bool.not_eq_true'] at hr
              have hmem : q ∈ readsV ops o := by
                unfold readsV
                rw [List.mem_append]
                refine .inl (mem_tmpsOf.2 ?_)
                cases hop : o.op with
                | load t z => cases z <;> rw [hop] at hq <;> cases hq; simp [Op.operands]
                | store t z w => cases z <;> rw [hop] at hq <;> cases hq; simp [Op.operands]
                | _ => rw [hop] at hq; cases hq
              have := hr.1
              rw [List.contains_iff_mem.2 hmem] at this
              cases this
            · exact hD.late i o k y hi hy (by omega) q hq
        have hid : i ∉ directV x := fun hm => by have := hD.lt j x hx i hm; omega
        have ap1 : ∀ s off us, deedV E ops x st = some (.store s off us) → isL o.op = true → ∀ z ∈ o.op.operands.toList, ∀ o', ev E st z ≠ .ptr s o' := fun s off us hd hl => by
          have hS := deedV_store hd
          have hc : clash x.op o.op = true := by simp [clash, hS, hl]
          have hno := hno (.inl hS) hc
          exact apart_now hM hG hap hx hi hfull (fun k hk y hy => (hno k hk y hy).1) (fun k hk y hy => (hno k hk y hy).2.1) (fun k hk y hy => (hno k hk y hy).2.2) hid hjo s off us hd hl
        have ap2 : ∀ s off us, deedV E ops o st = some (.store s off us) → isL x.op = true → ∀ z ∈ x.op.operands.toList, ∀ o', ev E st z ≠ .ptr s o' := fun s off us hd hl => by
          have hS := deedV_store hd
          have hc : clash x.op o.op = true := by simp [clash, hS, hl]
          have hno := hno (.inr hS) hc
          exact apart_now hM hG hap hi hx hfull (fun k hk y hy => (hno k hk y hy).1) (fun k hk y hy => (hno k hk y hy).2.2) (fun k hk y hy => (hno k hk y hy).2.1) hjo hid s off us hd hl
        obtain ⟨st1', ha, hrest⟩ := pullV hM hG hD hi hap hpost pre st1 hsort' (fun k hk => hp k (by simp [hk])) (fun hA d hd => fresh_step1 hM hG hpx (by rw [← hd]; exact hdx hA) (hf hA d hd) h1) h
        obtain ⟨st2, h2, h3⟩ := swapV hM hG hpx ho hix ap1 ap2 hf h1 ha
        exact ⟨st2, h2, by simp only [List.cons_append, aopsI, hx, h3]; exact hrest⟩
      · simp at h
    · simp at h

structure InvD (E : Env) (ops : Array Oper) (listed : Array Bool) (rem : List Nat) (st fin : St) : Prop where
  isrem : rem = (List.range ops.size).filter fun i => !listed.getD i true
  size : listed.size = ops.size
  run : aopsI E ops rem st = some fin
  closed : ∀ i o, ops[i]? = some o → listed.getD i false = true → ∀ j ∈ directV o, listed.getD j false = true
  fresh : ∀ i ∈ rem, ∀ o, ops[i]? = some o → isA o.op = true → ∀ d, o.dst = some d → noPtrTo d st.t

theorem zipIdx_all {p : Oper × Nat → Bool} (h : ops.toList.zipIdx.all p = true) {i : Nat} {o : Oper} (hi : ops[i]? = some o) : p (o, i) = true := by
  refine List.all_eq_true.1 h _ ?_
  rw [List.mem_zipIdx_iff_getElem?]
  simpa using hi

theorem getD_listed {listed : Array Bool} (hs : listed.size = ops.size) {j : Nat} (hj : j < ops.size) : listed.getD j true = listed.getD j false := by
  simp [Array.getD_eq_getD_getElem?, Array.getElem?_eq_getElem (show j < listed.size by omega)]

theorem anc_listed {A : Nat → Nat → Bool} (hd : DrawP ops A) {listed : Array Bool} (hcl : ∀ i o, ops[i]? = some o → listed.getD i false = true → ∀ j ∈ directV o, listed.getD j false = true) :
    ∀ (i : Nat) (o : Oper), ops[i]? = some o → (∀ k ∈ directV o, listed.getD k false = true) → ∀ j, A i j = true → listed.getD j false = true := by
  intro i
  induction i using Nat.strongRecOn with
  | _ i ih =>
    intro o hi hk j hj
    rcases hd.anc i o j hi hj with h3 | ⟨k, hkm, hjk⟩
    · exact hk j h3
    · have hlt := hd.lt i o hi k hkm
      have hsz : i < ops.size := (Array.getElem?_eq_some_iff.1 hi).1
      have hok : ops[k]? = some ops[k] := Array.getElem?_eq_getElem (by omega)
      exact ih k hlt _ hok (hcl k _ hok (hk k hkm)) j hjk

theorem ready_direct {listed : Array Bool} {i : Nat} : i ∈ Region.ready .any ops listed ↔ listed.getD i true = false ∧ ∃ o, ops[i]? = some o ∧ ∀ j ∈ directV o, listed.getD j false = true := by
  rw [mem_ready]
  refine and_congr_right fun _ => exists_congr fun o => and_congr_right fun _ => ?_
  unfold directV
  constructor
  · intro h j hj
    obtain ⟨e, he, rfl⟩ := List.mem_map.1 hj
    rw [List.mem_filter] at he
    exact h e (Array.mem_toList_iff.1 he.1) he.2
  · intro h e he hb
    exact h _ (List.mem_map.2 ⟨e, List.mem_filter.2 ⟨Array.mem_toList_iff.2 he, hb⟩, rfl⟩)

theorem getD_set_true' {listed : Array Bool} {i : Nat} (h : i < listed.size) : (listed.setIfInBounds i true).getD i true = true := by
  simp [Array.getD_eq_getD_getElem?, h]
theorem getD_set_true'' {listed : Array Bool} {i : Nat} (h : i < listed.size) : (listed.setIfInBounds i true).getD i false = true := by
  simp [Array.getD_eq_getD_getElem?, h]

theorem wpAny_V {r : Option Nat} (hE : EnvX E pm) (hM : E.Pl) (hG : ∀ g, (E.G g).nm = none) {A : Nat → Nat → Bool} (hd : DrawP ops A) (hdst : dstsIn n ops.toList = true) {Q : Exit → Act → World → Prop} {fin : St}
    (hap : apartF ops.toList fin.t) (hQ : ∀ a w m β, Rel E n pm m0 w0 m β fin a w → Q .normal a w) : ∀ (fuel : Nat) (listed : Array Bool) (rem : List Nat) (st : St) (a : Act) (w : World) (m : Lim) (β : Nat → Nat),
    rem.length ≤ fuel → InvD E ops listed rem st fin → Rel E n pm m0 w0 m β st a w → wpAnyIn (fen r) 0 E.P .any ops Q fuel listed a w := by
  have hfst : ∀ {listed : Array Bool} {rem : List Nat} {st : St}, InvD E ops listed rem st fin → Region.ready .any ops listed = [] → rem = [] := by
    intro listed rem st hi hr
    cases rem with
    | nil => rfl
    | cons i rem =>
      exfalso
      have hrem := hi.isrem
      have hmem : i ∈ (List.range ops.size).filter fun i => !listed.getD i true := by rw [← hrem]; simp
      rw [List.mem_filter, List.mem_range] at hmem
      obtain ⟨hlt, hun⟩ := hmem
      have hoi : ops[i]? = some ops[i] := Array.getElem?_eq_getElem hlt
      have : i ∈ Region.ready .any ops listed := by
        rw [ready_direct]
        refine ⟨by simpa using hun, _, hoi, fun j hj => ?_⟩
        have hji : j < i := hd.lt i _ hoi j hj
        rw [← getD_listed hi.size (by omega)]
        cases hl : listed.getD j true with
        | true => rfl
        | false =>
          exfalso
          have hjm : j ∈ i :: rem := by rw [hrem, List.mem_filter, List.mem_range]; exact ⟨by omega, by simp [hl]⟩
          have hsort : (i :: rem).Pairwise (· < ·) := by rw [hrem]; exact List.Pairwise.filter _ List.pairwise_lt_range
          rw [List.pairwise_cons] at hsort
          rcases List.mem_cons.1 hjm with e | hm
          · omega
          · have := hsort.1 j hm; omega
      rw [hr] at this
      simp at this
  intro fuel
  induction fuel with
  | zero =>
    intro listed rem st a w m β hlen hi h
    have h0 : rem = [] := by simpa using hlen
    subst h0
    have hrun := hi.run
    simp only [aopsI] at hrun
    cases hrun
    refine ⟨?_, hQ _ _ _ _ h⟩
    rw [List.eq_nil_iff_forall_not_mem]
    intro i him
    rw [ready_direct] at him
    obtain ⟨h1, o, ho, _⟩ := him
    have : i ∈ ([] : List Nat) := by rw [hi.isrem, List.mem_filter, List.mem_range]; exact ⟨(Array.getElem?_eq_some_iff.1 ho).1, by simp [h1]⟩
    simp at this
  | succ fuel ih =>
    intro listed rem st a w m β hlen hi h
    refine ⟨fun hr => ?_, fun i him => ?_⟩
    · have h0 := hfst hi hr
      subst h0
      have hrun := hi.run
      simp only [aopsI] at hrun
      cases hrun
      exact hQ _ _ _ _ h
    · rw [ready_direct] at him
      obtain ⟨hun, o, ho, hdir⟩ := him
      have hlt : i < ops.size := (Array.getElem?_eq_some_iff.1 ho).1
      have himem : i ∈ rem := by rw [hi.isrem, List.mem_filter, List.mem_range]; exact ⟨hlt, by simp [hun]⟩
      obtain ⟨pre, post, hsplit⟩ := List.append_of_mem himem
      have hsort : rem.Pairwise (· < ·) := by rw [hi.isrem]; exact List.Pairwise.filter _ List.pairwise_lt_range
      rw [hsplit] at hsort
      have hpre : ∀ j ∈ pre, j < i := fun j hj => (List.pairwise_append.1 hsort).2.2 j hj i (by simp)
      have hpost : ∀ j ∈ post, i < j := fun j hj => (List.pairwise_cons.1 (List.pairwise_append.1 hsort).2.1).1 j hj
      have hplain : ∀ {k : Nat} {x : Oper}, ops[k]? = some x → (plainOp x.op || isG x.op) = true := fun hk => hd.plain _ _ hk
      have hadst : ∀ {k j : Nat} {x y : Oper}, ops[k]? = some x → ops[j]? = some y → j ≠ k → isA x.op = true → y.dst ≠ x.dst := fun hk hj hne hA => hd.dst _ _ _ _ hk hj hne hA
      have hpull := pullV (E := E) hM hG hd ho (post := post) (fin := fin) hap hpost pre st hsort (fun j hj x hx => by
        have hjr : j ∈ rem := by rw [hsplit]; simp [hj]
        rw [hi.isrem, List.mem_filter, List.mem_range] at hjr
        have hjo : j ∉ directV o := fun hm => by
          have hl := hdir j hm
          rw [getD_listed hi.size hjr.1, hl] at hjr
          simp at hjr
        refine (fun hc0 : indepV ops x o = true ∧ (clash x.op o.op = true → ∀ (k : Nat) (y : Oper), ops[k]? = some y → isG y.op = false) => ⟨by
          have hi := hc0.1
          simp only [indepV, Bool.and_eq_true, Bool.not_eq_true'] at hi
          have h1 := hplain hx
          have h2 := hplain ho
          rw [hi.1.2, Bool.or_false] at h1
          rw [hi.2, Bool.or_false] at h2
          exact ⟨h1, h2⟩, ⟨hc0.1, hjo, hc0.2⟩, fun hA => hadst ho hx (Nat.ne_of_lt (hpre j hj)) hA⟩) ?_
        rcases hd.pair i o j x ho hx with h1 | h1 | h1
        · have := hpre j hj; omega
        · exfalso
          have hl := anc_listed hd hi.closed i o ho hdir j h1
          rw [getD_listed hi.size hjr.1, hl] at hjr
          simp at hjr
        · exact h1) (fun hA => hi.fresh i himem o ho hA) (by rw [← hsplit]; exact hi.run)
      obtain ⟨st', hst', hrest⟩ := hpull
      refine aopV_sound hE h ho (dstsIn_of hdst (by simpa using List.mem_of_getElem? (by simpa using ho : ops.toList[i]? = some o))) hst' (fun a' w' m' β' h' => ?_)
      refine ih _ (pre ++ post) st' a' w' m' β' (by rw [hsplit] at hlen; simp at hlen ⊢; omega) ⟨?_, by simp [hi.size], hrest, ?_, ?_⟩ h'
      · have hset : ((List.range ops.size).filter fun j => !(listed.setIfInBounds i true).getD j true) = rem.filter (fun j => j != i) := by
          rw [hi.isrem, List.filter_filter]
          refine List.filter_congr (fun j hj => ?_)
          by_cases hji : j = i
          · subst hji
            rw [getD_set_true' (by rw [hi.size]; exact hlt)]
            simp
          · rw [getD_set_ne _ (Ne.symm hji)]
            simp [hji]
        rw [hset, hsplit, List.filter_append, List.filter_cons]
        have e1 : pre.filter (fun j => j != i) = pre := List.filter_eq_self.2 (fun j hj => by have := hpre j hj; simp; omega)
        have e2 : post.filter (fun j => j != i) = post := List.filter_eq_self.2 (fun j hj => by have := hpost j hj; simp; omega)
        rw [e1, e2]
        simp
      · intro k x hk hl j hj
        by_cases hji : j = i
        · subst hji
          exact getD_set_true'' (by rw [hi.size]; exact hlt)
        · rw [getD_set_ne _ (Ne.symm hji)]
          by_cases hki : k = i
          · subst hki
            rw [hk] at ho
            cases ho
            exact hdir j hj
          · rw [getD_set_ne _ (Ne.symm hki)] at hl
            exact hi.closed k x hk hl j hj
      · intro k hk x hx hA d hxd
        have hkne : k ≠ i := by
          rcases List.mem_append.1 hk with hk | hk
          · exact Nat.ne_of_lt (hpre k hk)
          · exact Nat.ne_of_gt (hpost k hk)
        have hkr : k ∈ rem := by rw [hsplit]; rcases List.mem_append.1 hk with hk | hk <;> simp [hk]
        exact fresh_step hM hG (hplain ho) (by rw [← hxd]; exact hadst hx ho (Ne.symm hkne) hA) (hi.fresh k hkr x hx hA d hxd) hst'

theorem freshL_mem : ∀ (l : List Oper) (t : Nat → V), freshL l t → ∀ o ∈ l, isA o.op = true → ∀ d, o.dst = some d → noPtrTo d t
  | [], _, _, o, ho => by simp at ho
  | x :: l, t, h, o, ho => by
    intro hA d hd
    unfold freshL at h
    split at h
    · rename_i d' hA' hd'
      rcases List.mem_cons.1 ho with rfl | hm
      · rw [hd] at hd'; cases hd'; exact h.1
      · exact freshL_mem l t h.2 o hm hA d hd
    · rename_i hne
      rcases List.mem_cons.1 ho with rfl | hm
      · exact absurd hd (by intro hd; exact hne d hA hd)
      · exact freshL_mem l t h o hm hA d hd

theorem draw_sound {r : Option Nat} {W : Nat → Bool} (hE : EnvX E pm) (hM : E.Pl) (hG : ∀ g, (E.G g).nm = none) (hm : E.P.follows .mixedOrders = true) (hd : drawOK ops = true) {id : Nat} {Q : Exit → Act → World → Prop} {K : St → Prop} (hdst : dstsIn n ops.toList = true) (hW : wrL W ops.toList = true)
    (h : Rel E n pm m0 w0 m β st a w) (hf : freshL ops.toList st.t) (hx : aopsK E ops ops.toList st fun st' => apartF ops.toList st'.t ∧ K st')
    (hQ : ∀ st' a' w' m' β', K st' → Rel E n pm m0 w0 m' β' st' a' w' → Q .normal a' w') : (Code.region id ops true).wpIn (fen r) 0 E.P (fun e a' w' => Q e a' w' ∧ (e = .normal → KeepT W a.tmps a'.tmps)) a w := by
  obtain ⟨fin, hs, hap, hk⟩ := aopsK_out _ _ hx
  refine wpIn_region_any hm ?_
  have hrel : Rel E n pm m0 w0 m β st a { w with drawn := w.drawn + 1 } := by
    have hb : Below w.heap.size w { w with drawn := w.drawn + 1 } := ⟨rfl, rfl, rfl, Nat.le_refl _, fun _ _ => rfl⟩
    exact h.call hb (fun _ _ => rfl)
  have hrange : ((List.range ops.size).filter fun i => !(Array.replicate ops.size false).getD i true) = List.range ops.size := by
    refine List.filter_eq_self.2 (fun i hi => ?_)
    have : i < ops.size := List.mem_range.1 hi
    simp [Array.getD_eq_getD_getElem?, this]
  refine wpAnyIn_keep hW _ _ a _ (KeepT.refl _ _) ?_
  refine wpAny_V hE hM hG (draw_of hd) hdst hap (fun a w m β h => hQ fin a w m β hk h) ops.size _ (List.range ops.size) st a _ m β (by simp) ⟨hrange.symm, by simp, ?_, ?_, ?_⟩ hrel
  · have := aopsI_range (E := E) (ops := ops) ops.toList 0 st (fun j => by simp)
    rw [← hs, this, List.range_eq_range']
    simp
  · intro i o ho hl
    simp [Array.getD_eq_getD_getElem?, Array.getElem?_replicate] at hl
    split at hl <;> simp at hl
  · intro i hi o ho hA d hd'
    exact freshL_mem _ _ hf o (List.mem_of_getElem? (by simpa using ho : ops.toList[i]? = some o)) hA d hd'
end
end Go.Proofs.Ytkacldoiimlmcaa
