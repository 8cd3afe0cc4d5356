/- Each operation of a run over plain data is matched by the program's: 'execV_sound'. No program is named here. -/
import Derived.Test.YtkkcjhbkdlenpaaDoorPfF
namespace Go.Proofs.YtkkcjhbkdlenpaaDoor
open Go Go.RowKit

section
variable {E : Env} {n : Nat} {m0 m : Lim} {w0 w : World} {β : Nat → Nat} {st : St} {a : Act}

theorem cell_one {v : Value} {u : V} (h : Rd m w v u) (hu : u.cell = true) : v.oneCell' = true := by
  cases h with
  | undef v => simp [V.cell] at hu
  | x v => cases v <;> first | rfl | (simp [V.cell] at hu)
  | agg cs Cs hl h => simp [V.cell] at hu
  | tup cs Cs hl h => simp [V.cell] at hu
  | nil tok => rfl
  | sl blk off cap sz es tok c hb hcap hsz hc hm hr => rfl
  | ip blk off cs c hb hc hm hr => rfl

theorem cells_one : ∀ {vs : List Value} {us : List V}, RdL m w vs us → us.all V.cell = true → ∀ v ∈ vs, v.oneCell' = true
  | [], [], _, _, v, hv => by simp at hv
  | v0 :: vs, u0 :: us, h, hu, v, hv => by
    simp only [List.all_cons, Bool.and_eq_true] at hu
    cases hv with
    | head => exact cell_one h.1 hu.1
    | tail _ hm => exact cells_one h.2 hu.2 v hm

theorem dat_cells {v : Value} {u : V} (h : Rd m w v u) (hu : u.dat = true) : RdL m w v.cells.toList u.cells :=
  h.cells (by rintro rfl; simp [V.dat] at hu) (by rintro a rfl; simp [V.dat] at hu)

theorem Rel.store (h : Rel E n m0 w0 m β st a w) {s : Nat} {cs cs' : List V} {vals vals' : Array Value} {ty : TypeId} (hs : st.b s = some cs)
    (hh : w.heap[β s]? = some (.cells vals ty (0, 0))) (hr : RdL m w vals'.toList cs') :
    Rel E n m0 w0 m β ⟨st.t, upd st.b s (some cs')⟩ a (w.setRow (β s) vals') := by
  obtain ⟨⟨hl, _⟩, hge⟩ := h.boxes s cs hs
  have he : Ext m w m (w.setRow (β s) vals') := by
    refine ⟨by simp, fun blk off v hb hm hc => ?_, fun blk hb fr hf => ⟨fr, hf, Nat.le_refl _⟩⟩
    have hne : blk ≠ β s := by
      rintro rfl
      have := hm 0 hl
      omega
    rw [cell_setRow_other w _ _ _ hne]
    exact hc
  refine ⟨fun i => (h.tmps i).mono he, h.size, fun s' c' hs' => ?_, fun s1 s2 c1 c2 h1 h2 heq => ?_, below_setRow h.below hge _, h.mold, h.defers, fun g => (h.glob g).mono he, h.j⟩
  · simp only [upd_at] at hs'
    split at hs'
    · rename_i e
      cases hs'
      subst e
      exact ⟨⟨hl, vals', ty, setRow_heap w _ _ _ _ _ hh, hr.mono he⟩, hge⟩
    · rename_i e
      obtain ⟨⟨hl', v', ty', hh', hr'⟩, hge'⟩ := h.boxes s' c' hs'
      refine ⟨⟨hl', v', ty', ?_, hr'.mono he⟩, hge'⟩
      rw [setRow_other w _ _ _ (fun hb => e (h.inj s' s c' cs hs' hs hb))]
      exact hh'
  · simp only [upd_at] at h1 h2
    split at h1 <;> split at h2
    · rename_i e1 e2; rw [e1, e2]
    · rename_i e1 e2; subst e1; exact h.inj _ _ _ _ hs h2 heq
    · rename_i e1 e2; subst e2; exact h.inj _ _ _ _ h1 hs heq
    · exact h.inj _ _ _ _ h1 h2 heq

theorem storeV_sound (h : Rel E n m0 w0 m β st a w) {t : TypeId} {p v : Value} {q u : V} {st' : St} (hp : Rs m w β p q) (hv : Rs m w β v u) (hx : storeV E st t q u = some st') :
    ∃ w', (Instr.storeAt t p v).run E.P w = .ok () w' ∧ Rel E n m0 w0 m β st' a w' := by
  unfold storeV at hx
  split at hx
  · rename_i s off
    split at hx
    · rename_i cs hcs
      split at hx
      · rename_i hc
        obtain ⟨hd, hone, hsz, hle⟩ := hc
        cases hx
        rcases hp with hp | ⟨s', off', he, rfl⟩
        · exact hp.not_ptr.elim
        · cases he
          obtain ⟨⟨_, vals, ty, hh, hr⟩, _⟩ := h.boxes _ _ hcs
          have hrd := dat_cells (hv.dat hd) hd
          have hlen := hrd.length
          have hlen2 := hr.length
          simp only [Array.length_toList] at hlen hlen2
          have hst := run_storeCells_at E.P (β s) off ty v.cells.toList 0 vals w hh (by simp; omega) (cells_one hrd hone)
          refine ⟨_, ?_, h.store (vals' := (vals.toList.take (off + 0) ++ v.cells.toList ++ vals.toList.drop (off + 0 + v.cells.toList.length)).toArray) hcs hh ?_⟩
          · simp only [Instr.storeAt, Instr.sureAddr, storeVar, Sem.run_bind, Sem.run_pure, Result.andThen_ok, run_szB hsz]
            rw [if_neg (by omega)]
            exact hst
          · have := ((hr.take off).append hrd).append (hr.drop (off + u.cells.length))
            simpa [hlen] using this
      · simp at hx
    · simp at hx
  · simp at hx

theorem args_rd (h : Rel E n m0 w0 m β st a w) : ∀ (l : List Operand), (l.map (ev E st)).all V.dat = true → RdL m w (l.map a.eval) (l.map (ev E st))
  | [], _ => trivial
  | x :: l, hd => by
    simp only [List.map_cons, List.all_cons, Bool.and_eq_true] at hd
    exact ⟨(ev_sound h x).dat hd.1, args_rd h l hd.2⟩

theorem newV_sound (h : Rel E n m0 w0 m β st a w) {o : Oper} (hd : ∀ k, o.dst = some k → k < n) {cs : List V} {st' : St} (hx : newV st o.dst cs = some st')
    {vals : Array Value} {ty : TypeId} (hr : RdL m w vals.toList cs) : ∃ m' β', Rel E n m0 w0 m' β' st' (a.put o.dst (.pointer (some ⟨w.heap.size, 0, none⟩))) (w.alloc (.cells vals ty)) := by
  unfold newV at hx
  split at hx
  · rename_i s hs
    split at hx
    · rename_i hn
      cases hx
      rw [hs]
      exact ⟨_, _, h.new (hd s hs) hn hr⟩
    · simp at hx
  · simp at hx

theorem execV_sound (hE : EnvOK E) (h : Rel E n m0 w0 m β st a w) {o : Oper} {st' : St} (hx : execV E o st = some st') (hd : ∀ k, o.dst = some k → k < n)
    {K : Act → World → Prop} {Q : Exit → Act → World → Prop} (hK : ∀ a' w' m' β', Rel E n m0 w0 m' β' st' a' w' → K a' w') : o.wp E.P a w K Q := by
  unfold Oper.wp
  unfold execV at hx
  split at hx
  · rename_i t ho
    split at hx
    · rename_i z hz
      obtain ⟨zv, hzr, hzd⟩ := zeroB_sound (w := w) (m := m) hz
      obtain ⟨m', β', hrel⟩ := newV_sound h hd hx (ty := t) hzd
      have hrun : (execOp a.eval o).run E.P w = .ok (.value (.pointer (some ⟨w.heap.size, 0, none⟩))) (w.alloc (.cells zv.cells t)) := by
        simp only [execOp, ho, Instr.alloc, Sem.run_bind, hzr, Result.andThen_ok, newVar, newRow, run_newObj, Sem.run_pure]
        rfl
      rw [hrun]
      exact hK _ _ _ _ hrel
    · simp at hx
  · rename_i t x ho
    split at hx
    · rename_i hdat
      obtain ⟨m', β', hrel⟩ := newV_sound h hd hx (ty := t) (dat_cells ((ev_sound h x).dat hdat) hdat)
      have hrun : (execOp a.eval o).run E.P w = .ok (.value (.pointer (some ⟨w.heap.size, 0, none⟩))) (w.alloc (.cells (a.eval x).cells t)) := by
        simp only [execOp, ho, Instr.box, Sem.run_bind, Result.andThen_ok, newVar, newRow, run_newObj, Sem.run_pure]
        rfl
      rw [hrun]
      exact hK _ _ _ _ hrel
    · simp at hx
  · rename_i t p x ho
    split at hx
    · rename_i hdst
      obtain ⟨w', hr, hrel⟩ := storeV_sound h (ev_sound h p) (ev_sound h x) hx
      have hrun : (execOp a.eval o).run E.P w = .ok .skip w' := by simp only [execOp, ho, Sem.run_bind, hr, Result.andThen_ok, Sem.run_pure]
      rw [hrun]
      refine hK _ _ m β ?_
      rw [Option.isNone_iff_eq_none.1 hdst]
      exact hrel
    · simp at hx
  · split at hx
    · rename_i u hu
      cases hx
      unfold valV at hu
      split at hu
      · rename_i t p ho
        obtain ⟨v, hr, hv⟩ := loadV_sound h (ev_sound h p) (np_some hu).1
        have hrun : (execOp a.eval o).run E.P w = .ok (.value v) w := by simp only [execOp, ho, Sem.run_bind, hr, Result.andThen_ok, Sem.run_pure]
        rw [hrun]
        exact hK _ _ _ _ (h.put hd (.of hv))
      · rename_i f args ts ho
        split at hu
        · rename_i F hF
          split at hu
          · rename_i hdat
            have hr := (np_some hu).1
            obtain ⟨hcall, hfun⟩ := hE.fn f F hF
            have hrun : (execOp a.eval o).run E.P w = .ok (.enter f (args.map a.eval)) w := by
              simp only [execOp, ho, resolve, Sem.run_bind, Act.eval, Deferred.ofValue, Sem.run_pure, Result.andThen_ok, invoke]
              rw [hcall]
              simp
            rw [hrun]
            have := hfun m w (args.map a.eval) _ _ hr hdat (by simpa using args_rd h args.toList hdat) (hE.keep _ _ h.j h.below) h.glob
            refine this.mono ?_
            rintro e w' ⟨v, m', rfl, hv, hb, hm⟩
            exact hK _ _ _ _ ((h.call hb hm).put hd (.of hv))
          · simp at hu
        · simp at hu
      · obtain ⟨v, hr, hv⟩ := pureV_sound (ρ := a.eval) (fun x => ev_sound h x) hu
        rw [hr]
        exact hK _ _ _ _ (h.put hd hv)
    · simp at hx
end
end Go.Proofs.YtkkcjhbkdlenpaaDoor
