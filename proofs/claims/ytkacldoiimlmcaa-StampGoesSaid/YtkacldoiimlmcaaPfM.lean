/- Regions that draw their order, third part: the rule. No program is named here. -/
import Derived.Test.YtkacldoiimlmcaaPfL
namespace Go.Proofs.Ytkacldoiimlmcaa
open Go Go.RowKit

section
variable {E : Env} {ops : Array Oper}

theorem deedV_new {o : Oper} {st : St} {cs : List V} (h : deedV E ops o st = some (.new cs)) : isA o.op = true := by
  obtain ⟨d, op, ty, pos, af, g⟩ := o
  unfold deedV at h
  simp only at h
  cases hg : guardV ops st.t g with
  | none => simp [hg] at h
  | some b =>
    rw [hg] at h
    cases b with
    | false => simp at h
    | true =>
      simp only [if_true] at h
      cases op <;> first | rfl | skip
      all_goals first
        | (simp at h; done)
        | (simp only [storeD] at h; split at h <;> (try split at h) <;> (try split at h) <;> simp at h)
theorem deedV_store {o : Oper} {st : St} {s off : Nat} {us : List V} (h : deedV E ops o st = some (.store s off us)) : isS o.op = true := by
  obtain ⟨d, op, ty, pos, af, g⟩ := o
  unfold deedV at h
  simp only at h
  cases hg : guardV ops st.t g with
  | none => simp [hg] at h
  | some b =>
    rw [hg] at h
    cases b with
    | false => simp at h
    | true =>
      simp only [if_true] at h
      cases op <;> first | rfl | skip
      all_goals first
        | (simp at h; done)
        | (split at h <;> simp at h)
theorem ev_nm (hG : ∀ g, (E.G g).nm = none) {st : St} {x : Operand} {s : Nat} (h : (ev E st x).nm = some s) : ∃ k, x = .tmp k ∧ (st.t k).nm = some s := by
  cases x with
  | tmp k => exact ⟨k, rfl, h⟩
  | const v => simp only [ev, ofVal] at h; split at h <;> simp at h
  | global g =>
    have hg := hG g
    simp only [ev, bare_eq] at h
    generalize E.G g = u at h hg
    cases u <;> first | (cases hg; done) | cases h
  | func f => simp [ev] at h

theorem deedV_nm (hG : ∀ g, (E.G g).nm = none) {o : Oper} (hp : plainOp o.op = true) {st : St} {s : Nat} {u : V} (h : deedV E ops o st = some (.put u)) (hs : u.nm = some s) : ∃ k, (st.t k).nm = some s := by
  obtain ⟨d, op, ty, pos, af, g⟩ := o
  unfold deedV at h
  simp only at h hp
  cases hg : guardV ops st.t g with
  | none => simp [hg] at h
  | some b =>
    rw [hg] at h
    cases b with
    | false => simp at h; subst h; cases hs
    | true =>
      simp only [if_true] at h
      have hv : ∀ {op' : Op}, plainOp op' = true → ((valV E op' (ev E st) st.b).map fun u => Deed.put (keepV op' u)) = some (.put u) → ∃ k, (st.t k).nm = some s := by
        intro op' hp' h'
        obtain ⟨u', hu, he⟩ := Option.map_eq_some_iff.1 h'
        have hk := Deed.put.inj he
        subst hk
        obtain ⟨x, _, hx⟩ := valV_nm hp' hu (keep_nm hs)
        obtain ⟨k, _, hk⟩ := ev_nm hG hx
        exact ⟨k, hk⟩
      cases op with
      | alloc t => cases hz : zeroB E.P t <;> simp [hz] at h
      | box t x => simp only at h; split at h <;> simp at h
      | store t p x => simp only [storeD] at h; split at h <;> (try split at h) <;> (try split at h) <;> simp at h
      | _ => exact hv hp h

/-- What is done to other slots is not seen. -/
theorem agree_do (hG : ∀ g, (E.G g).nm = none) {x y : Oper} {st st1 : St} {a : Deed} (hdo : doV x.dst st a = some st1) (ha : deedV E ops x st = some a)
    (hr : ∀ d, x.dst = some d → d ∉ readsV ops y) (hs : ∀ s off us, a = .store s off us → isL y.op = true → ∀ z ∈ y.op.operands.toList, ∀ o', ev E st z ≠ .ptr s o') (hnew : isL y.op = true → a.isNew = true → ∀ d, x.dst = some d → noPtrTo d st.t) : Agree ops E y st st1 := by
  cases a with
  | put u =>
    cases hdo
    refine ⟨fun k hk => ?_, fun _ _ _ s off _ => by rw [put_b]⟩
    rw [put_t, if_neg (fun h => hr k h hk)]
  | new cs =>
    cases hdst : x.dst with
    | none => simp [hdst, doV, newV] at hdo
    | some d =>
      simp only [hdst, doV, newV] at hdo
      split at hdo
      · cases hdo
        refine ⟨fun k hk => ?_, fun hl z hz s off hzv => ?_⟩
        · have hne : k ≠ d := fun e => hr d hdst (e ▸ hk)
          simp only
          rw [upd_ne _ _ hne]
        · obtain ⟨k, _, hk⟩ := ev_nm hG (show (ev E st z).nm = some s by rw [hzv]; rfl)
          have hne : s ≠ d := fun e => hnew hl rfl d hdst k (e ▸ hk)
          simp only
          rw [upd_ne _ _ hne]
      · simp at hdo
  | store s off us =>
    simp only [doV] at hdo
    split at hdo
    · split at hdo
      · cases hdo
        refine ⟨fun _ _ => rfl, fun hl z hz s' o' hzv => ?_⟩
        have hne : s' ≠ s := fun e => hs s off us rfl hl z hz o' (e ▸ hzv)
        simp only
        rw [upd_ne _ _ hne]
      · simp at hdo
    · simp at hdo

theorem new_fresh {d : Option Tmp} {st st1 : St} {a : Deed} (hdo : doV d st a = some st1) (hn : a.isNew = true) : ∀ k, d = some k → noPtrTo k st.t := by
  intro k hk
  cases a with
  | new cs =>
    simp only [hk, doV, newV] at hdo
    split at hdo
    · assumption
    · simp at hdo
  | _ => simp [Deed.isNew] at hn

theorem swapV (hM : E.Pl) (hG : ∀ g, (E.G g).nm = none) {x y : Oper} (hx : plainOp x.op = true) (hy : plainOp y.op = true) (hi : indepV ops x y = true) {st st1 st2 : St}
    (hap : ∀ s off us, deedV E ops x st = some (.store s off us) → isL y.op = true → ∀ z ∈ y.op.operands.toList, ∀ o', ev E st z ≠ .ptr s o')
    (hap' : ∀ s off us, deedV E ops y st = some (.store s off us) → isL x.op = true → ∀ z ∈ x.op.operands.toList, ∀ o', ev E st z ≠ .ptr s o')
    (hf : isA y.op = true → ∀ d, y.dst = some d → noPtrTo d st.t) (h1 : aopV E ops x st = some st1) (h2 : aopV E ops y st1 = some st2) :
    ∃ st1', aopV E ops y st = some st1' ∧ aopV E ops x st1' = some st2 := by
  simp only [indepV, Bool.and_eq_true, Bool.not_eq_true'] at hi
  obtain ⟨⟨⟨⟨⟨hi1, hi2⟩, hi3⟩, hi4⟩, _⟩, _⟩ := hi
  rw [aopV_deed hM _ hx] at h1
  rw [aopV_deed hM _ hy] at h2
  obtain ⟨a, ha, hda⟩ := Option.bind_eq_some_iff.1 h1
  obtain ⟨c, hc, hdc⟩ := Option.bind_eq_some_iff.1 h2
  have hxr : ∀ d, x.dst = some d → d ∉ readsV ops y ∧ y.dst ≠ some d := by
    intro d hd
    rw [hd] at hi1
    simp at hi1
    exact hi1
  have hyr : ∀ d, y.dst = some d → d ∉ readsV ops x := by
    intro d hd
    rw [hd] at hi2
    simpa using hi2
  have hSL : isS x.op = true → isS y.op = false ∧ isA y.op = false := by
    intro h
    rw [h] at hi3
    simpa using hi3
  have hSL' : isS y.op = true → isS x.op = false ∧ isA x.op = false := by
    intro h
    rw [h] at hi4
    refine ⟨?_, by simpa using hi4⟩
    cases hsx : isS x.op with
    | false => rfl
    | true => have := (hSL hsx).1; rw [h] at this; cases this
  have hagr : Agree ops E y st st1 := agree_do hG hda ha (fun d hd => (hxr d hd).1) (fun s off us e => hap s off us (e ▸ ha)) (fun _ hn => new_fresh hda hn)
  have hcy : deedV E ops y st = some c := by rw [deedV_congr hy hagr]; exact hc
  have hput : ∀ {o : Oper} {s : St} {e : Deed}, deedV E ops o s = some e → isS o.op = false → isA o.op = false → ∃ u, e = .put u := by
    intro o s e he h1 h2
    cases e with
    | put u => exact ⟨u, rfl⟩
    | new cs => rw [deedV_new he] at h2; cases h2
    | store s off us => rw [deedV_store he] at h1; cases h1
  have hst : ∀ {o : Oper} {s : St} {e : Deed}, deedV E ops o s = some e → e.isStore = true → isS o.op = true := by
    intro o s e he h
    cases e with
    | store s off us => exact deedV_store he
    | _ => simp [Deed.isStore] at h
  have hnw : ∀ {o : Oper} {s : St} {e : Deed}, deedV E ops o s = some e → e.isNew = true → isA o.op = true := by
    intro o s e he h
    cases e with
    | new cs => exact deedV_new he
    | _ => simp [Deed.isNew] at h
  obtain ⟨st1', hdc', hda'⟩ := doV_comm (fun d hd => (hxr d hd).2) hda hdc
    (fun h => have := hSL (hst ha h); hput hc this.1 this.2)
    (fun h => have := hSL' (hst hc h); hput ha this.1 this.2)
    (fun h => hf (hnw hc h))
    (fun d u hd hn hcu hu => by
      subst hcu
      obtain ⟨k, hk⟩ := deedV_nm hG hy hcy hu
      exact new_fresh hda hn d hd k hk)
  refine ⟨st1', by rw [aopV_deed hM _ hy, hcy]; exact hdc', ?_⟩
  have hagr' : Agree ops E x st st1' := agree_do hG hdc' hcy hyr (fun s off us e => hap' s off us (e ▸ hcy)) (fun _ hn => hf (hnw hcy hn))
  rw [aopV_deed hM _ hx, ← deedV_congr hx hagr', ha]
  exact hda'
end
end Go.Proofs.Ytkacldoiimlmcaa
