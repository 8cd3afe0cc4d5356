/- Maps of a call's own: what the run says of them, and what the program's operations make of them. No program is named here. -/
import Derived.Test.YtkacldoiimlmcaaPfD
import Derived.MapKept
namespace Go.Proofs.Ytkacldoiimlmcaa
open Go Go.RowKit

/-- What lies in a map. -/
def MapRd (m : Lim) (w : World) : List MapEntry → List V → List V → Prop
  | [], [], [] => True
  | e :: es, k :: ks, v :: vs => (plainK k = true ∧ k.val = some e.key) ∧ (v.dat = true ∧ Rd m w e.val v) ∧ MapRd m w es ks vs
  | _, _, _ => False
def MapAt (m : Lim) (w : World) (g : Nat) (ks vs : List V) : Prop :=
  ∃ ents clock, w.heap[g]? = some (.map ents clock) ∧ MapRd m w ents.toList ks vs ∧ (∀ e ∈ ents.toList, e.born < clock) ∧ (ents.toList.map (·.born)).Nodup ∧ m g = some 0

section
variable {P : Program} {m : Lim} {w : World} {β : Nat → Nat}

theorem MapRd.mono {m' : Lim} {w' : World} (he : Ext m w m' w') : ∀ {es : List MapEntry} {ks vs : List V}, MapRd m w es ks vs → MapRd m' w' es ks vs
  | [], [], [], _ => trivial
  | _ :: _, _ :: _, _ :: _, h => ⟨h.1, ⟨h.2.1.1, h.2.1.2.mono he⟩, MapRd.mono he h.2.2⟩
theorem MapRd.len : ∀ {es : List MapEntry} {ks vs : List V}, MapRd m w es ks vs → es.length = ks.length ∧ es.length = vs.length
  | [], [], [], _ => ⟨rfl, rfl⟩
  | _ :: _, _ :: _, _ :: _, h => by
    obtain ⟨h1, h2⟩ := MapRd.len h.2.2
    exact ⟨by simp [h1], by simp [h2]⟩
theorem MapRd.get : ∀ {es : List MapEntry} {ks vs : List V}, MapRd m w es ks vs → ∀ (i : Nat) (e : MapEntry), es[i]? = some e → ∃ k v, ks[i]? = some k ∧ vs[i]? = some v ∧ (plainK k = true ∧ k.val = some e.key) ∧ v.dat = true ∧ Rd m w e.val v
  | [], [], [], _, i, e, he => by simp at he
  | e0 :: es, k0 :: ks, v0 :: vs, h, 0, e, he => by
    simp at he
    subst he
    exact ⟨k0, v0, rfl, rfl, h.1, h.2.1⟩
  | e0 :: es, k0 :: ks, v0 :: vs, h, i + 1, e, he => MapRd.get h.2.2 i e (by simpa using he)
theorem MapRd.snoc : ∀ {es : List MapEntry} {ks vs : List V}, MapRd m w es ks vs → ∀ {e : MapEntry} {k v : V}, (plainK k = true ∧ k.val = some e.key) → (v.dat = true ∧ Rd m w e.val v) → MapRd m w (es ++ [e]) (ks ++ [k]) (vs ++ [v])
  | [], [], [], _, _, _, _, h1, h2 => ⟨h1, h2, trivial⟩
  | _ :: _, _ :: _, _ :: _, h, _, _, _, h1, h2 => ⟨h.1, h.2.1, MapRd.snoc h.2.2 h1 h2⟩
theorem MapRd.set : ∀ {es : List MapEntry} {ks vs : List V}, MapRd m w es ks vs → ∀ (i : Nat) {e : MapEntry} {v : V}, (∃ e0, es[i]? = some e0 ∧ e0.key = e.key) → (v.dat = true ∧ Rd m w e.val v) → MapRd m w (es.set i e) ks (vs.set i v)
  | [], [], [], _, i, _, _, ⟨e0, h0, _⟩, _ => by simp at h0
  | e1 :: _, _ :: _, _ :: _, h, 0, e, _, ⟨e0, h0, hk⟩, h2 => by
    simp at h0
    subst h0
    exact ⟨⟨h.1.1, by rw [h.1.2, hk]⟩, h2, h.2.2⟩
  | _ :: _, _ :: _, _ :: _, h, i + 1, _, _, ⟨e0, h0, hk⟩, h2 => ⟨h.1, h.2.1, MapRd.set h.2.2 i ⟨e0, by simpa using h0, hk⟩ h2⟩

/-- What is plain to the last cell has one value. -/
theorem Rd.one_is {v x : Value} {u : V} (h : Rd m w v u) (hu : u.one = some x) : v = x := by
  cases u with
  | x u => cases hu; exact Rd.x_iff.1 h
  | _ => simp [V.one] at hu
theorem Rd.ones : ∀ {vs : List Value} {us : List V} {xs : List Value}, RdL m w vs us → us.mapM V.one = some xs → vs = xs
  | [], [], xs, _, h => by simp at h; exact h.symm
  | v :: vs, u :: us, xs, hr, h => by
    rw [List.mapM_cons] at h
    cases ho : u.one with
    | none => rw [ho] at h; cases h
    | some y =>
      rw [ho] at h
      simp only [Option.pure_def, Option.bind_eq_bind, Option.bind_some] at h
      cases hm : us.mapM V.one with
      | none => rw [hm] at h; cases h
      | some r =>
        rw [hm] at h
        cases h
        rw [Rd.ones hr.2 hm, hr.1.one_is ho]
theorem Rd.val_is {v x : Value} {u : V} (h : Rd m w v u) (hu : u.val = some x) : v = x := by
  cases u with
  | x u => cases hu; exact Rd.x_iff.1 h
  | agg cs =>
    obtain ⟨a, rfl, hr⟩ := Rd.agg_iff.1 h
    simp only [V.val, Option.map_eq_some_iff] at hu
    obtain ⟨l, hl, rfl⟩ := hu
    have := Rd.ones hr hl
    rw [← this]
  | _ => simp [V.val] at hu
def atomB : V → Bool
  | .x (.int _ _) => true
  | .x (.string _) => true
  | .x (.bool _) => true
  | _ => false
theorem plain_val {u : V} (h : plainK u = true) : ∃ x, u.val = some x := by
  cases u with
  | x v => exact ⟨v, rfl⟩
  | agg cs =>
    have key : ∀ cs : List V, (cs.all fun c => match c with | .x (.int _ _) => true | .x (.string _) => true | .x (.bool _) => true | _ => false) = true → ∃ l, cs.mapM V.one = some l := by
      intro cs
      induction cs with
      | nil => intro _; exact ⟨[], rfl⟩
      | cons c cs ih =>
        intro h
        simp only [List.all_cons, Bool.and_eq_true] at h
        obtain ⟨l, hl⟩ := ih h.2
        have : ∃ v, c = .x v := by
          have := h.1
          split at this <;> first | exact ⟨_, rfl⟩ | cases this
        obtain ⟨v, rfl⟩ := this
        exact ⟨v :: l, by rw [List.mapM_cons, hl]; rfl⟩
    obtain ⟨l, hl⟩ := key cs h
    exact ⟨.agg l.toArray, by simp [V.val, hl]⟩
  | _ => simp [plainK] at h
theorem sameBits_atom {v : Value} (h : (match v with | .int _ _ => true | .string _ => true | .bool _ => true | _ => false) = true) (n : Nat) : Instr.sameBits n v v = true := by
  cases v <;> simp [Instr.sameBits, MapKept.bytes_beq] at h ⊢
theorem sameBits_plain {u : V} {x : Value} (h : plainK u = true) (hx : u.val = some x) : Instr.sameBits 10000 x x = true := by
  cases u with
  | x v =>
    cases hx
    exact sameBits_atom (by revert h; cases x <;> simp [plainK]) _
  | agg cs =>
    simp only [V.val, Option.map_eq_some_iff] at hx
    obtain ⟨l, hl, rfl⟩ := hx
    simp only [Instr.sameBits, beq_self_eq_true, Bool.true_and, List.all_eq_true]
    have key : ∀ (cs : List V) (l : List Value), cs.mapM V.one = some l → (cs.all fun c => match c with | .x (.int _ _) => true | .x (.string _) => true | .x (.bool _) => true | _ => false) = true → ∀ p ∈ l.zip l, Instr.sameBits 9999 p.1 p.2 = true := by
      intro cs
      induction cs with
      | nil => intro l hl _ p hp; simp at hl; subst hl; simp at hp
      | cons c cs ih =>
        intro l hl h p hp
        simp only [List.all_cons, Bool.and_eq_true] at h
        obtain ⟨h1, h2⟩ := h
        rw [List.mapM_cons] at hl
        have : ∃ v, c = .x v ∧ (match v with | .int _ _ => true | .string _ => true | .bool _ => true | _ => false) = true := by
          split at h1 <;> first | exact ⟨_, rfl, rfl⟩ | cases h1
        obtain ⟨v, rfl, hv⟩ := this
        simp only [V.one, Option.pure_def, Option.bind_eq_bind, Option.bind_some] at hl
        cases hm : cs.mapM V.one with
        | none => rw [hm] at hl; cases hl
        | some r =>
          rw [hm] at hl
          cases hl
          simp only [List.zip_cons_cons, List.mem_cons] at hp
          rcases hp with rfl | hp
          · exact sameBits_atom hv _
          · exact ih r hm h2 p hp
    rintro ⟨a, b⟩ hp
    exact key cs l hl h (a, b) (by simpa using hp)
  | _ => simp [plainK] at h
theorem run_stays {u : V} {x : Value} (h : plainK u = true) (hx : u.val = some x) : (Instr.keyThatStays x x).run P w = .ok x w := by
  simp [Instr.keyThatStays, sameBits_plain h hx]

theorem keyB_sound (em : Bool) : ∀ (d : Nat) (t : TypeId) (v : Value) (u : V), keyB P d t u = true → Rd m w v u → ∀ n, d ≤ n → (Instr.checkKey em n t v).run P w = .ok () w := by
  intro d
  induction d with
  | zero => intro t v u h; simp [keyB] at h
  | succ d ih =>
    intro t v u h hr n hn
    obtain ⟨n, rfl⟩ : ∃ n', n = n' + 1 := ⟨n - 1, by omega⟩
    unfold keyB at h
    split at h
    · rename_i ht
      obtain rfl := Rd.x_iff.1 hr
      simp [Instr.checkKey, run_und ht]
    · rename_i ht
      obtain rfl := Rd.x_iff.1 hr
      simp [Instr.checkKey, run_und ht]
    · rename_i ht
      obtain rfl := Rd.x_iff.1 hr
      simp [Instr.checkKey, run_und ht]
    · rename_i fs cs ht
      obtain ⟨xa, rfl, hxa⟩ := Rd.agg_iff.1 hr
      rw [Instr.checkKey]
      simp only [Sem.run_bind, run_und ht, Result.andThen_ok]
      rw [← Array.forIn_toList]
      generalize fs.toList = l at h
      clear ht hr
      induction l with
      | nil => simp
      | cons f l ihl =>
        simp only [List.all_cons, Bool.and_eq_true, decide_eq_true_eq] at h
        obtain ⟨⟨h1, h2⟩, h3⟩ := h
        split at h2
        case h_2 => cases h2
        rename_i p hp
        obtain ⟨pv, hpr, hpd⟩ := partV_sound (w := w) hxa hp
        have h4 := ih _ _ _ h2 hpd n (by omega)
        simp only [List.forIn_cons, Sem.run_bind, ne_eq, h1, not_false_eq_true, if_true, hpr, Result.andThen_ok, h4, Sem.run_pure]
        exact ihl h3
    · cases h

/-- Where the key stands, there the program finds it. -/
theorem getI_asking {kt : TypeId} {x : Value} {k : V} (hx : Rd m w x k) : ∀ (es : List MapEntry) (ks vs : List V) (i : Nat) (r : Option Nat), MapRd m w es ks vs → getI P kt k ks i = some r → (∀ (k' : V), k' ∈ ks → ∀ x', k'.val = some x' → Rd m w x' k') →
    (Instr.findAsking kt x es i).run P w = .ok (r.map fun j => (j, ((es[j - i]?).map (·.val)).getD Go.undef)) w ∧ ∀ j, r = some j → i ≤ j ∧ j - i < es.length
  | [], [], [], i, r, _, h, _ => by
    simp [getI] at h
    subst h
    exact ⟨by simp [Instr.findAsking], fun j h => by cases h⟩
  | e :: es, k' :: ks, v :: vs, i, r, hm, h, hk => by
    obtain ⟨⟨hp, hkv⟩, hv, hm'⟩ := hm
    unfold getI at h
    split at h
    · rename_i he
      cases h
      have := eqB_sound (w := w) (m := m) P 20 kt x e.key k k' true he hx (hk k' (by simp) _ hkv) Op.maxDepth (by decide)
      refine ⟨?_, fun j hj => by cases hj; exact ⟨Nat.le_refl _, by simp⟩⟩
      simp [Instr.findAsking, Op.equal, this]
    · rename_i he
      have hf := eqB_sound (w := w) (m := m) P 20 kt x e.key k k' false he hx (hk k' (by simp) _ hkv) Op.maxDepth (by decide)
      obtain ⟨h1, h2⟩ := getI_asking hx es ks vs (i + 1) r hm' h (fun k'' hk'' => hk k'' (List.mem_cons_of_mem _ hk''))
      refine ⟨?_, fun j hj => by have := h2 j hj; simp only [List.length_cons]; omega⟩
      simp only [Instr.findAsking, Op.equal, Sem.run_bind, hf, Result.andThen_ok, Bool.false_eq_true, if_false, h1]
      congr 1
      cases r with
      | none => rfl
      | some j =>
        have := h2 j rfl
        simp only [Option.map_some]
        rw [show j - i = (j - (i + 1)) + 1 from by omega, List.getElem?_cons_succ]
    · cases h
/-- What a key that is no struct is held against. -/
theorem eqB_now {kt : TypeId} {d : TypeDesc} (ht : P.underlying kt = some d) {k k' : V} {x y : Value} {b : Bool} (h : eqB P 20 kt k k' = some b) (hk : k.val = some x) (hk' : k'.val = some y) (hd : ∀ fs, d ≠ .struct fs) : Instr.sameNow d x y = some b := by
  unfold eqB at h
  rw [ht] at h
  split at h
  · rename_i a c hd'
    cases hd'
    cases hk
    cases hk'
    cases h
    simp only [Instr.sameNow]
  · rename_i kk k1 a k2 c hd'
    cases hd'
    cases hk
    cases hk'
    split at h
    · rename_i he
      cases h
      simp [Instr.sameNow, he, int_eq]
    · cases h
  · rename_i a c hd'
    cases hd'
    cases hk
    cases hk'
    cases h
    simp only [Instr.sameNow, Option.some.injEq]
    rw [Bool.eq_iff_iff, MapKept.bytes_beq, decide_eq_true_eq]
  · rename_i fs xs ys hd'
    cases hd'
    exact absurd rfl (hd fs)
  · cases h
theorem getI_now {kt : TypeId} {d : TypeDesc} (ht : P.underlying kt = some d) (hd : ∀ fs, d ≠ .struct fs) {x : Value} {k : V} (hx : k.val = some x) : ∀ (es : List MapEntry) (ks vs : List V) (i : Nat) (r : Option Nat), MapRd m w es ks vs → getI P kt k ks i = some r →
    Instr.findNow d x es i = some (r.map fun j => (j, ((es[j - i]?).map (·.val)).getD Go.undef)) ∧ ∀ j, r = some j → i ≤ j ∧ j - i < es.length
  | [], [], [], i, r, _, h => by
    simp [getI] at h
    subst h
    exact ⟨rfl, fun j h => by cases h⟩
  | e :: es, k' :: ks, v :: vs, i, r, hm, h => by
    obtain ⟨⟨hp, hkv⟩, hv, hm'⟩ := hm
    unfold getI at h
    split at h
    · rename_i he
      cases h
      refine ⟨?_, fun j hj => by cases hj; exact ⟨Nat.le_refl _, by simp⟩⟩
      simp [Instr.findNow, eqB_now ht he hx hkv hd]
    · rename_i he
      obtain ⟨h1, h2⟩ := getI_now ht hd hx es ks vs (i + 1) r hm' h
      refine ⟨?_, fun j hj => by have := h2 j hj; simp only [List.length_cons]; omega⟩
      simp only [Instr.findNow, eqB_now ht he hx hkv hd, h1]
      cases r with
      | none => rfl
      | some j =>
        have := h2 j rfl
        simp only [Option.map_some]
        rw [show j - i = (j - (i + 1)) + 1 from by omega, List.getElem?_cons_succ]
    · cases h
theorem val_rd : ∀ {u : V} {x : Value}, u.val = some x → Rd m w x u
  | .x v, x, h => by cases h; exact .x _
  | .agg cs, x, h => by
    simp only [V.val, Option.map_eq_some_iff] at h
    obtain ⟨l, hl, rfl⟩ := h
    refine Rd.agg_iff.2 ⟨_, rfl, ?_⟩
    have key : ∀ (cs : List V) (l : List Value), cs.mapM V.one = some l → RdL m w l cs := by
      intro cs
      induction cs with
      | nil => intro l hl; simp at hl; subst hl; trivial
      | cons c cs ih =>
        intro l hl
        rw [List.mapM_cons] at hl
        cases ho : c.one with
        | none => rw [ho] at hl; cases hl
        | some y =>
          rw [ho] at hl
          simp only [Option.pure_def, Option.bind_eq_bind, Option.bind_some] at hl
          cases hm : cs.mapM V.one with
          | none => rw [hm] at hl; cases hl
          | some r =>
            rw [hm] at hl
            cases hl
            refine ⟨?_, ih r hm⟩
            cases c with
            | x v => cases ho; exact .x _
            | _ => simp [V.one] at ho
    exact key cs l hl
  | .tup _, x, h => by simp [V.val] at h
  | .sl .., x, h => by simp [V.val] at h
  | .ptr .., x, h => by simp [V.val] at h
  | .ip _, x, h => by simp [V.val] at h
  | .dyn _, x, h => by simp [V.val] at h
  | .row .., x, h => by simp [V.val] at h
  | .bx _, x, h => by simp [V.val] at h
  | .mp .., x, h => by simp [V.val] at h
  | .undef, x, h => by simp [V.val] at h
theorem find_sound {kt : TypeId} {x : Value} {k : V} (hok : keyOK P kt k = true) (hx : Rd m w x k) {es : List MapEntry} {ks vs : List V} {r : Option Nat} (hm : MapRd m w es ks vs) (h : getI P kt k ks 0 = some r) :
    (Instr.findKey kt x es).run P w = .ok (r.map fun j => (j, ((es[j]?).map (·.val)).getD Go.undef)) w ∧ (∀ j, r = some j → j < es.length) ∧ k.val = some x ∧ plainK k = true := by
  simp only [keyOK, Bool.and_eq_true] at hok
  obtain ⟨hpl, hkb⟩ := hok
  obtain ⟨x', hx'⟩ := plain_val hpl
  obtain rfl := hx.val_is hx'
  refine ⟨?_, ?_, hx', hpl⟩
  · cases hu : P.underlying kt with
    | none => unfold keyB at hkb; rw [hu] at hkb; cases hkb
    | some d =>
      by_cases hs : ∃ fs, d = .struct fs
      · obtain ⟨fs, rfl⟩ := hs
        have h1 := (getI_asking hx es ks vs 0 r hm h (fun k' _ x' hx' => val_rd hx')).1
        simp only [Nat.sub_zero] at h1
        cases es with
        | nil =>
          have h2 := (getI_asking hx [] ks vs 0 r hm h (fun k' _ x' hx' => val_rd hx')).2
          cases r with
          | none => simp [Instr.findKey, run_und hu, Instr.findNow]
          | some j => have := h2 j rfl; simp at this
        | cons e es => simp only [Instr.findKey, Sem.run_bind, run_und hu, Result.andThen_ok, Instr.findNow, Instr.sameNow]; exact h1
      · have h1 := (getI_now hu (fun fs e => hs ⟨fs, e⟩) hx' es ks vs 0 r hm h).1
        simp only [Nat.sub_zero] at h1
        simp only [Instr.findKey, Sem.run_bind, run_und hu, Result.andThen_ok, h1, Sem.run_pure]
  · intro j hj
    cases hu : P.underlying kt with
    | none => unfold keyB at hkb; rw [hu] at hkb; cases hkb
    | some d =>
      have := (getI_asking hx es ks vs 0 r hm h (fun k' _ x' hx' => val_rd hx')).2 j hj
      simpa using this.2
theorem zeroM_sound {t : TypeId} {u : V} (h : zeroM P t = some u) : ∃ v : Value, (zeroValue t).run P w = .ok v w ∧ Rd m w v u := by
  unfold zeroM at h
  cases hi : P.info? t with
  | none => simp [hi] at h
  | some i =>
    cases hz : i.zero with
    | none => simp [hi, hz] at h
    | some v =>
      refine ⟨v, by simp [zeroValue, typeInfo, hi, hz], ?_⟩
      simp only [hi, hz, Option.bind_some] at h
      split at h
      · rename_i cs he
        cases he
        cases h
        refine Rd.agg_iff.2 ⟨_, rfl, RdL.of_get (by simp) (fun k a u ha hu => ?_)⟩
        simp only [List.getElem?_map, Option.map_eq_some_iff] at hu
        obtain ⟨a', ha', rfl⟩ := hu
        rw [ha] at ha'
        cases ha'
        exact ofVal_rd _
      · rename_i he
        cases he
        cases h
        exact ofVal_rd _
      · cases h
theorem ext_setMap {g : Nat} {ents ents' : Array MapEntry} {clock clock' : Nat} (hh : w.heap[g]? = some (.map ents clock)) (hlim : m g = some 0) : Ext m w m { w with heap := w.heap.setIfInBounds g (.map ents' clock') } := by
  refine ⟨by simp, fun blk off v hb _ hc => ?_, fun blk hb fr hf => ⟨fr, hf, Nat.le_refl _⟩, fun blk es c hm hc => ?_⟩
  rotate_left
  · rw [(MapKept.heap_set hh).2 blk (by rintro rfl; rw [hlim] at hm; cases hm)]
    exact hc
  by_cases e : blk = g
  · subst e
    simp [World.cell?, hh] at hc
  · simp only [World.cell?] at hc ⊢
    rw [(MapKept.heap_set hh).2 blk e]
    exact hc
theorem putM_sound {t : TypeId} {g : Nat} {ks vs ks' vs' : List V} {x y : Value} {k v : V} (hm : MapAt m w g ks vs) (hx : Rd m w x k) (hy : Rd m w y v) (h : putM P t ks vs k v = some (ks', vs')) :
    ∃ ents clock, (Instr.mapUpdate t (.map (some g)) x y).run P w = .ok () { w with heap := w.heap.setIfInBounds g (.map ents clock) } ∧ MapAt m { w with heap := w.heap.setIfInBounds g (.map ents clock) } g ks' vs' ∧ (∃ e0 c0, w.heap[g]? = some (.map e0 c0)) := by
  obtain ⟨ents, clock, hh, hrd, hborn, hnd, hlim⟩ := hm
  unfold putM at h
  split at h
  case h_2 => cases h
  rename_i kt et hu
  split at h
  case isFalse => cases h
  rename_i hc
  obtain ⟨hok, hvd⟩ := hc
  have hck : (Instr.checkKey false 10000 kt x).run P w = .ok () w := by
    simp only [keyOK, Bool.and_eq_true] at hok
    exact keyB_sound _ 20 kt x k hok.2 hx 10000 (by omega)
  split at h
  · rename_i i hg
    split at h
    case isFalse => cases h
    rename_i hki
    cases h
    obtain ⟨hf, hlt, hxv, hpl⟩ := find_sound hok hx hrd hg
    have hlt := hlt i rfl
    have he : ents.toList[i]? = some (ents.toList[i]) := List.getElem?_eq_getElem hlt
    have he' : ents[i]? = some (ents.toList[i]) := by rw [← Array.getElem?_toList]; exact he
    obtain ⟨k', v', hk', hv', ⟨_, hkv⟩, _, hrv⟩ := hrd.get i _ he
    rw [hki] at hk'
    cases hk'
    have hkey : (ents.toList[i]).key = x := by rw [hxv] at hkv; exact (Option.some.inj hkv).symm
    refine ⟨ents.modify i fun e => { e with key := x, val := y }, clock, ?_, ⟨_, _, (MapKept.heap_set hh).1, ?_, ?_, ?_, hlim⟩, ents, clock, hh⟩
    · simp only [Option.map_some, he, Option.getD_some] at hf
      have hst : (Instr.keyThatStays (((ents[i]?).map (·.key)).getD x) x).run P w = .ok x w := by
        rw [he', Option.map_some, Option.getD_some, hkey]
        exact run_stays hpl hxv
      simp only [Instr.mapUpdate, Sem.run_bind, run_und hu, Result.andThen_ok, MapKept.run_getObj_map hh, hck, hf, hst, MapKept.run_setObj_map _ hh]
    · have e1 : (ents.modify i fun e => { e with key := x, val := y }).toList = ents.toList.set i { (ents.toList[i]) with key := x, val := y } := by
        apply List.ext_getElem?
        intro j
        rw [Array.getElem?_toList, Array.getElem?_modify, List.getElem?_set]
        by_cases hj : i = j
        · subst hj
          simp [he']
          simpa using hlt
        · simp [hj]
      rw [e1]
      exact (hrd.set i ⟨_, he, hkey⟩ ⟨hvd, hy⟩).mono (ext_setMap hh hlim)
    · intro e hm'
      rw [List.mem_iff_getElem?] at hm'
      obtain ⟨j, hj⟩ := hm'
      rw [Array.getElem?_toList, Array.getElem?_modify] at hj
      split at hj
      · rename_i hij
        cases hc' : ents[i]? with
        | none => rw [← hij, hc'] at hj; cases hj
        | some e0 =>
          rw [← hij, hc'] at hj
          cases hj
          exact hborn e0 (List.mem_of_getElem? (by rw [Array.getElem?_toList]; exact hc'))
      · exact hborn e (List.mem_of_getElem? (by rw [Array.getElem?_toList]; exact hj))
    · have e1 : (ents.modify i fun e => { e with key := x, val := y }).toList.map (·.born) = ents.toList.map (·.born) := by
        apply List.ext_getElem?
        intro j
        rw [List.getElem?_map, List.getElem?_map, Array.getElem?_toList, Array.getElem?_modify, Array.getElem?_toList]
        split
        · cases ents[j]? <;> rfl
        · rfl
      rw [e1]
      exact hnd
  · rename_i hg
    cases h
    obtain ⟨hf, _, hxv, hpl⟩ := find_sound hok hx hrd hg
    refine ⟨ents.push { key := x, val := y, born := clock }, clock + 1, ?_, ⟨_, _, (MapKept.heap_set hh).1, ?_, ?_, ?_, hlim⟩, ents, clock, hh⟩
    · simp only [Option.map_none] at hf
      simp only [Instr.mapUpdate, Sem.run_bind, run_und hu, Result.andThen_ok, MapKept.run_getObj_map hh, hck, hf, MapKept.run_setObj_map _ hh]
    · rw [Array.toList_push]
      exact (hrd.snoc ⟨hpl, hxv⟩ ⟨hvd, hy⟩).mono (ext_setMap hh hlim)
    · intro e hm'
      rw [Array.toList_push, List.mem_append] at hm'
      rcases hm' with hm' | hm'
      · have := hborn e hm'; omega
      · simp at hm'; subst hm'; exact Nat.lt_succ_self _
    · rw [Array.toList_push, List.map_append]
      refine List.nodup_append.2 ⟨hnd, by simp, fun a ha b hb e => ?_⟩
      simp at hb
      obtain ⟨e', he', rfl⟩ := List.mem_map.1 ha
      have := hborn e' he'
      omega
  · cases h
theorem MapRd.of_get : ∀ {es : List MapEntry} {ks vs : List V}, es.length = ks.length → es.length = vs.length → (∀ (i : Nat) (e : MapEntry) (k : V), es[i]? = some e → ks[i]? = some k → plainK k = true ∧ k.val = some e.key) →
    (∀ (i : Nat) (d : V), vs[i]? = some d → d.dat = true) → (∀ (i : Nat) (e : MapEntry) (d : V), es[i]? = some e → vs[i]? = some d → Rd m w e.val d) → MapRd m w es ks vs
  | [], [], [], _, _, _, _, _ => trivial
  | e :: es, k :: ks, v :: vs, h1, h2, h3, h4, h5 => ⟨h3 0 e k rfl rfl, ⟨h4 0 v rfl, h5 0 e v rfl rfl⟩, MapRd.of_get (by simpa using h1) (by simpa using h2) (fun i e k he hk => h3 (i + 1) e k (by simpa using he) (by simpa using hk)) (fun i d hd => h4 (i + 1) d (by simpa using hd)) (fun i e d he hd => h5 (i + 1) e d (by simpa using he) (by simpa using hd))⟩
  | [], _ :: _, _, h1, _, _, _, _ => by simp at h1
  | [], [], _ :: _, _, h2, _, _, _ => by simp at h2
  | _ :: _, [], _, h1, _, _, _, _ => by simp at h1
  | _ :: _, _ :: _, [], _, h2, _, _, _ => by simp at h2
/-- A map that nobody writes, as it lies. -/
theorem Rd.fm_at {v : Value} {ks vs : List V} (h : Rd m w v (.fm ks vs)) : ∃ g ents clock, v = .map (some g) ∧ w.heap[g]? = some (.map ents clock) ∧ MapRd m w ents.toList ks vs ∧ (∀ e ∈ ents.toList, e.born < clock) ∧ (ents.toList.map (·.born)).Nodup ∧ m g = none := by
  cases h with
  | fm blk ks vs ents clock hb hh hm hk hv hkey hbn hd hr =>
    exact ⟨blk, ents, clock, rfl, hh, MapRd.of_get (by simpa using hk) (by simpa using hv) (fun i e k he hk => hkey i e k (by simpa using he) hk) hd (fun i e d he hd => hr i e d (by simpa using he) hd), hbn.1, hbn.2, hm⟩
/-- A map of the call's own that nobody writes any more. -/
theorem MapAt.freeze {g : Nat} {ks vs : List V} (h : MapAt m w g ks vs) {m' : Lim} (he : Ext m w m' w) (hm : m' g = none) : Rd m' w (.map (some g)) (.fm ks vs) := by
  obtain ⟨ents, clock, hh, hrd, h1, h2, _⟩ := h
  have hl := hrd.len
  have get := fun (i : Nat) (e : MapEntry) (he : ents[i]? = some e) => hrd.get i e (by simpa using he)
  refine .fm g ks vs ents clock (map_lt hh) hh hm (by simpa using hl.1) (by simpa using hl.2) (fun i e k hi hk => ?_) ⟨h1, h2⟩ (fun i d hd => ?_) (fun i e d hi hd => ?_)
  · obtain ⟨k', v', hk', _, h3, _⟩ := get i e hi
    rw [hk] at hk'
    cases hk'
    exact h3
  · have hi : i < ents.size := by
      have := (List.getElem?_eq_some_iff.1 hd).1
      have := hl.2
      simp at this
      omega
    obtain ⟨k', v', _, hv', _, h3, _⟩ := get i ents[i] (by simp [hi])
    rw [hd] at hv'
    cases hv'
    exact h3
  · obtain ⟨k', v', _, hv', _, _, h3⟩ := get i e hi
    rw [hd] at hv'
    cases hv'
    exact h3.mono he
theorem lookR_sound {t : TypeId} {mv : V} {g : Nat} {ks vs : List V} {x : Value} {k u : V} {ok : Bool} (hkv : mv.kv = some (ks, vs)) (hm : ∃ ents clock, w.heap[g]? = some (.map ents clock) ∧ MapRd m w ents.toList ks vs) (hx : Rd m w x k) (h : lookV P t mv k ok = some u) :
    ∃ v, (Instr.lookup t (.map (some g)) x ok).run P w = .ok v w ∧ Rd m w v u := by
  obtain ⟨ents, clock, hh, hrd⟩ := hm
  unfold lookV at h
  rw [hkv] at h
  split at h
  case h_2 => cases h
  rename_i m' kt et ks' vs' hu hmp
  cases hmp
  split at h
  case isFalse => cases h
  rename_i hok
  split at h
  · rename_i i hg
    obtain ⟨hf, hlt, _, _⟩ := find_sound hok hx hrd hg
    have hlt := hlt i rfl
    have he : ents.toList[i]? = some (ents.toList[i]) := List.getElem?_eq_getElem hlt
    obtain ⟨k', v', _, hv', _, _, hrv⟩ := hrd.get i _ he
    rw [hv'] at h
    simp only [Option.map_some, Option.some.injEq] at h
    have hck : (Instr.checkKey ents.isEmpty 10000 kt x).run P w = .ok () w := by
      simp only [keyOK, Bool.and_eq_true] at hok
      exact keyB_sound _ 20 kt x k hok.2 hx 10000 (by omega)
    have hrun : (Instr.lookup t (.map (some g)) x ok).run P w = .ok (if ok then .tuple #[(ents.toList[i]).val, .bool true] else (ents.toList[i]).val) w := by
      simp only [Option.map_some, he, Option.getD_some] at hf
      simp only [Instr.lookup, Sem.run_bind, run_und hu, Result.andThen_ok, MapKept.run_getObj_map hh, Sem.run_pure, hck, hf]
    refine ⟨_, hrun, ?_⟩
    cases ok with
    | false => simp only [Bool.false_eq_true, if_false] at h ⊢; rw [← h]; exact hrv
    | true => simp only [if_true] at h ⊢; rw [← h]; exact Rd.tup_iff.2 ⟨_, rfl, hrv, .x _, trivial⟩
  · rename_i hg
    obtain ⟨hf, _, _, _⟩ := find_sound hok hx hrd hg
    have hck : (Instr.checkKey ents.isEmpty 10000 kt x).run P w = .ok () w := by
      simp only [keyOK, Bool.and_eq_true] at hok
      exact keyB_sound _ 20 kt x k hok.2 hx 10000 (by omega)
    obtain ⟨v', hz, h⟩ := Option.map_eq_some_iff.1 h
    obtain ⟨zv, hzr, hzd⟩ := zeroM_sound (w := w) (m := m) hz
    have hrun : (Instr.lookup t (.map (some g)) x ok).run P w = .ok (if ok then .tuple #[zv, .bool false] else zv) w := by
      simp only [Option.map_none] at hf
      simp only [Instr.lookup, Sem.run_bind, run_und hu, Result.andThen_ok, MapKept.run_getObj_map hh, Sem.run_pure, hck, hf, hzr]
    refine ⟨_, hrun, ?_⟩
    cases ok with
    | false => simp only [Bool.false_eq_true, if_false] at h ⊢; rw [← h]; exact hzd
    | true => simp only [if_true] at h ⊢; rw [← h]; exact Rd.tup_iff.2 ⟨_, rfl, hzd, .x _, trivial⟩
  · cases h
theorem lookV_sound {t : TypeId} {s : Nat} {g : Nat} {ks vs : List V} {x : Value} {k u : V} {ok : Bool} (hm : MapAt m w g ks vs) (hx : Rd m w x k) (h : lookV P t (.mp s ks vs) k ok = some u) :
    ∃ v, (Instr.lookup t (.map (some g)) x ok).run P w = .ok v w ∧ Rd m w v u := by
  obtain ⟨ents, clock, hh, hrd, _⟩ := hm
  exact lookR_sound rfl ⟨ents, clock, hh, hrd⟩ hx h
end
end Go.Proofs.Ytkacldoiimlmcaa
