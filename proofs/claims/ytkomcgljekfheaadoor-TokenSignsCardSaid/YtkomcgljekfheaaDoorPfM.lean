/- Regions that draw their order, third part: the rule. No program is named here. -/
import Derived.Test.YtkomcgljekfheaaDoorPfL
namespace Go.Proofs.YtkomcgljekfheaaDoor
open Go Go.RowKit

section
variable {E : Env} {ops : Array Oper}

theorem deedV_new {o : Oper} {st : St} {cs : List V} (h : deedV E ops o st = some (.new cs)) : isA o.op = true := by
  obtain ⟨d, op, ty, pos, af, g⟩ := o
  unfold deedV at h
  simp only at h
  cases hg : guardV ops st.t g with
  | none => simp [hg] at h
  | some b =>
    rw [hg] at h
    cases b with
    | false => simp at h
    | true =>
      simp only [if_true] at h
      cases op <;> first | rfl | skip
      all_goals first
        | (simp at h; done)
        | (simp only [storeD] at h; split at h <;> (try split at h) <;> (try split at h) <;> simp at h)
theorem deedV_store {o : Oper} {st : St} {s off : Nat} {us : List V} (h : deedV E ops o st = some (.store s off us)) : isS o.op = true := by
  obtain ⟨d, op, ty, pos, af, g⟩ := o
  unfold deedV at h
  simp only at h
  cases hg : guardV ops st.t g with
  | none => simp [hg] at h
  | some b =>
    rw [hg] at h
    cases b with
    | false => simp at h
    | true =>
      simp only [if_true] at h
      cases op <;> first | rfl | skip
      all_goals first
        | (simp at h; done)
        | (split at h <;> simp at h)
theorem ev_ptr (hG : ∀ g s off, E.G g ≠ .ptr s off) {st : St} {x : Operand} {s off : Nat} (h : ev E st x = .ptr s off) : ∃ k, x = .tmp k ∧ st.t k = .ptr s off := by
  cases x with
  | tmp k => exact ⟨k, rfl, h⟩
  | const v => simp only [ev, ofVal] at h; split at h <;> simp at h
  | global g =>
    have hg := hG g s off
    simp only [ev, bare_eq] at h
    generalize E.G g = u at h hg
    cases u <;> first | exact absurd h hg | cases h
  | func f => simp [ev] at h

theorem deedV_ptr (hG : ∀ g s off, E.G g ≠ .ptr s off) {o : Oper} (hp : plainOp o.op = true) {st : St} {s off : Nat} (h : deedV E ops o st = some (.put (.ptr s off))) : ∃ k off', st.t k = .ptr s off' := by
  obtain ⟨d, op, ty, pos, af, g⟩ := o
  unfold deedV at h
  simp only at h hp
  cases hg : guardV ops st.t g with
  | none => simp [hg] at h
  | some b =>
    rw [hg] at h
    cases b with
    | false => simp at h
    | true =>
      simp only [if_true] at h
      have hv : ∀ {op' : Op}, plainOp op' = true → ((valV E op' (ev E st) st.b).map fun u => Deed.put (keepV op' u)) = some (.put (.ptr s off)) → ∃ k off', st.t k = .ptr s off' := by
        intro op' hp' h'
        obtain ⟨u, hu, he⟩ := Option.map_eq_some_iff.1 h'
        have hk := keep_ptr (Deed.put.inj he)
        subst hk
        obtain ⟨x, _, off', hx⟩ := valV_ptr hp' hu
        obtain ⟨k, _, hk⟩ := ev_ptr hG hx
        exact ⟨k, off', hk⟩
      cases op with
      | alloc t => cases hz : zeroB E.P t <;> simp [hz] at h
      | box t x => simp only at h; split at h <;> simp at h
      | store t p x => simp only [storeD] at h; split at h <;> (try split at h) <;> (try split at h) <;> simp at h
      | _ => exact hv hp h

/-- What is done to other slots is not seen. -/
theorem agree_do (hG : ∀ g s off, E.G g ≠ .ptr s off) {x y : Oper} {st st1 : St} {a : Deed} (hdo : doV x.dst st a = some st1) (ha : deedV E ops x st = some a)
    (hr : ∀ d, x.dst = some d → d ∉ readsV ops y) (hs : isS x.op = true → isL y.op = false) (hnew : isL y.op = true → a.isNew = true → ∀ d, x.dst = some d → noPtrTo d st.t) : Agree ops E y st st1 := by
  cases a with
  | put u =>
    cases hdo
    refine ⟨fun k hk => ?_, fun _ _ _ s off _ => by rw [put_b]⟩
    rw [put_t, if_neg (fun h => hr k h hk)]
  | new cs =>
    cases hdst : x.dst with
    | none => simp [hdst, doV, newV] at hdo
    | some d =>
      simp only [hdst, doV, newV] at hdo
      split at hdo
      · cases hdo
        refine ⟨fun k hk => ?_, fun hl z hz s off hzv => ?_⟩
        · have hne : k ≠ d := fun e => hr d hdst (e ▸ hk)
          simp only
          rw [upd_ne _ _ hne]
        · obtain ⟨k, _, hk⟩ := ev_ptr hG hzv
          have hne : s ≠ d := fun e => hnew hl rfl d hdst k off (e ▸ hk)
          simp only
          rw [upd_ne _ _ hne]
      · simp at hdo
  | store s off us =>
    have hS := deedV_store ha
    simp only [doV] at hdo
    split at hdo
    · split at hdo
      · cases hdo
        exact ⟨fun _ _ => rfl, fun hl => by rw [hs hS] at hl; cases hl⟩
      · simp at hdo
    · simp at hdo

theorem new_fresh {d : Option Tmp} {st st1 : St} {a : Deed} (hdo : doV d st a = some st1) (hn : a.isNew = true) : ∀ k, d = some k → noPtrTo k st.t := by
  intro k hk
  cases a with
  | new cs =>
    simp only [hk, doV, newV] at hdo
    split at hdo
    · assumption
    · simp at hdo
  | _ => simp [Deed.isNew] at hn

theorem swapV (hG : ∀ g s off, E.G g ≠ .ptr s off) {x y : Oper} (hx : plainOp x.op = true) (hy : plainOp y.op = true) (hi : indepV ops x y = true) {st st1 st2 : St}
    (hf : isA y.op = true → ∀ d, y.dst = some d → noPtrTo d st.t) (h1 : aopV E ops x st = some st1) (h2 : aopV E ops y st1 = some st2) :
    ∃ st1', aopV E ops y st = some st1' ∧ aopV E ops x st1' = some st2 := by
  simp only [indepV, Bool.and_eq_true, Bool.not_eq_true'] at hi
  obtain ⟨⟨⟨hi1, hi2⟩, hi3⟩, hi4⟩ := hi
  rw [aopV_deed _ hx] at h1
  rw [aopV_deed _ hy] at h2
  obtain ⟨a, ha, hda⟩ := Option.bind_eq_some_iff.1 h1
  obtain ⟨c, hc, hdc⟩ := Option.bind_eq_some_iff.1 h2
  have hxr : ∀ d, x.dst = some d → d ∉ readsV ops y ∧ y.dst ≠ some d := by
    intro d hd
    rw [hd] at hi1
    simp at hi1
    exact hi1
  have hyr : ∀ d, y.dst = some d → d ∉ readsV ops x := by
    intro d hd
    rw [hd] at hi2
    simpa using hi2
  have hSL : isS x.op = true → isL y.op = false ∧ isS y.op = false ∧ isA y.op = false := by
    intro h
    rw [h] at hi3
    simp at hi3
    exact ⟨hi3.1.2, hi3.1.1, hi3.2⟩
  have hSL' : isS y.op = true → isL x.op = false ∧ isS x.op = false ∧ isA x.op = false := by
    intro h
    rw [h] at hi4
    simp at hi4
    refine ⟨hi4.1, ?_, hi4.2⟩
    cases hsx : isS x.op with
    | false => rfl
    | true => have := (hSL hsx).2.1; rw [h] at this; cases this
  have hagr : Agree ops E y st st1 := agree_do hG hda ha (fun d hd => (hxr d hd).1) (fun h => (hSL h).1) (fun _ hn => new_fresh hda hn)
  have hcy : deedV E ops y st = some c := by rw [deedV_congr hy hagr]; exact hc
  have hput : ∀ {o : Oper} {s : St} {e : Deed}, deedV E ops o s = some e → isS o.op = false → isA o.op = false → ∃ u, e = .put u := by
    intro o s e he h1 h2
    cases e with
    | put u => exact ⟨u, rfl⟩
    | new cs => rw [deedV_new he] at h2; cases h2
    | store s off us => rw [deedV_store he] at h1; cases h1
  have hst : ∀ {o : Oper} {s : St} {e : Deed}, deedV E ops o s = some e → e.isStore = true → isS o.op = true := by
    intro o s e he h
    cases e with
    | store s off us => exact deedV_store he
    | _ => simp [Deed.isStore] at h
  have hnw : ∀ {o : Oper} {s : St} {e : Deed}, deedV E ops o s = some e → e.isNew = true → isA o.op = true := by
    intro o s e he h
    cases e with
    | new cs => exact deedV_new he
    | _ => simp [Deed.isNew] at h
  obtain ⟨st1', hdc', hda'⟩ := doV_comm (fun d hd => (hxr d hd).2) hda hdc
    (fun h => have := hSL (hst ha h); hput hc this.2.1 this.2.2)
    (fun h => have := hSL' (hst hc h); hput ha this.2.1 this.2.2)
    (fun h => hf (hnw hc h))
    (fun d u off hd hn hcu hu => by
      subst hcu hu
      obtain ⟨k, off', hk⟩ := deedV_ptr hG hy hcy
      exact new_fresh hda hn d hd k off' hk)
  refine ⟨st1', by rw [aopV_deed _ hy, hcy]; exact hdc', ?_⟩
  have hagr' : Agree ops E x st st1' := agree_do hG hdc' hcy hyr (fun h => (hSL' h).1) (fun _ hn => hf (hnw hcy hn))
  rw [aopV_deed _ hx, ← deedV_congr hx hagr', ha]
  exact hda'
end
end Go.Proofs.YtkomcgljekfheaaDoor
